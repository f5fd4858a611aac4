import PyProof.Rows.All
import Wide.All
import OpenK.AllK
import Wide.FinOn
import Lean
import PyProof.EqAt
import PyProof.EqKinds
import PyProof.TupleCall
import PyProof.NeData
import PyProof.StrLawsChain
import KE.KSortTup
import KE.KRevSl
import KE.KMinKey
import PyProof.P3In
import KE.KRevIter
import KE.KDictSum
import PyProof.Rows.SetFrom
import PyProof.DictWalks
import PyProof.FactsAll.set_1
import PyProof.ListStr
import PyProof.Rows.Range3
import PyProof.StrCalls6
import PyProof.ToksMono
import PyProof.ReprRoads
import PyProof.StrOps2
import KE.KDictLaws
import KE.KDictList
import PyProof.DictValues
import PyProof.TupleKey
import PyProof.IsRules
import PyProof.ReprText
import PySem.Challenge.RW_loggather_k10_whole_parting_lines
set_option Elab.async false
set_option linter.all false
set_option maxRecDepth 100000
namespace L2
open PySem PySem.Spec PyProof.Rows
abbrev Key:=Sum Int Str
def keyIs:Key→Value→Bool
 | .inl k,v=>Value.isInt k v
 | .inr x,v=>Value.isStrOf x v
def keyH (w:World):Key→Int
 | .inl k=>hashInt k
 | .inr x=>hashStr w x
theorem keyIs_shape:∀ {k:Key}{v:Value},keyIs k v=true→(∃ i t,k=Sum.inl i∧v=Value.int i t)∨(∃ x t,k=Sum.inr x∧v=Value.str x t)
 | .inl i,v,h=>by
  obtain ⟨t,e⟩:=Value.isInt_shape (k:=i) (v:=v) h
  exact .inl ⟨i,t,rfl,e⟩
 | .inr x,v,h=>by
  obtain ⟨t,e⟩:=Value.isStrOf_shape (x:=x) (v:=v) h
  exact .inr ⟨x,t,rfl,e⟩
theorem keyIs_int (i:Int) (t:Tok):keyIs (.inl i) (.int i t)=true:=by simp [keyIs,Value.isInt]
theorem keyIs_str (x:Str) (t:Tok):keyIs (.inr x) (.str x t)=true:=by simp [keyIs,Value.isStrOf]
theorem key_ll (a b:Int):decide ((Sum.inl a:Key)=Sum.inl b)=(a == b):=by
 by_cases e:a=b
 ·subst e;simp
 ·have h:¬ (Sum.inl a:Key)=Sum.inl b:=fun q=>e (Sum.inl.inj q)
  rw [decide_eq_false h]
  exact (beq_eq_false_iff_ne.mpr e).symm
theorem key_rr (a b:Str):decide ((Sum.inr a:Key)=Sum.inr b)=decide (a=b):=by
 by_cases e:a=b
 ·subst e;simp
 ·have h:¬ (Sum.inr a:Key)=Sum.inr b:=fun q=>e (Sum.inr.inj q)
  rw [decide_eq_false h,decide_eq_false e]
theorem key_lr (a:Int) (b:Str):decide ((Sum.inl a:Key)=Sum.inr b)=false:=decide_eq_false (fun q=>nomatch q)
theorem key_rl (a:Str) (b:Int):decide ((Sum.inr a:Key)=Sum.inl b)=false:=decide_eq_false (fun q=>nomatch q)
def mixKind (prog:Program) (w:World):PySem.KeyKind prog w Key where
 is:=keyIs
 hash:=keyH w
 inj:=fun v a b ha hb=>by
  rcases keyIs_shape ha with ⟨i,t,rfl,rfl⟩ | ⟨x,t,rfl,rfl⟩
  ·rcases keyIs_shape hb with ⟨j,u,rfl,e⟩ | ⟨y,u,rfl,e⟩
   ·injection e with e1 _;rw [e1]
   ·exact nomatch e
  ·rcases keyIs_shape hb with ⟨j,u,rfl,e⟩ | ⟨y,u,rfl,e⟩
   ·exact nomatch e
   ·injection e with e1 _;rw [e1]
 byValue:=fun k v h=>by
  rcases keyIs_shape h with ⟨i,t,rfl,rfl⟩ | ⟨x,t,rfl,rfl⟩ <;> rfl
 pyHash:=fun hv h=>by
  rcases keyIs_shape hv with ⟨i,t,rfl,rfl⟩ | ⟨x,t,rfl,rfl⟩
  ·exact wpAny_pyHash_int h
  ·exact wpAny_pyHash_str h
 eqBool:=fun hu hv h=>by
  rcases keyIs_shape hu with ⟨i,t,rfl,rfl⟩ | ⟨x,t,rfl,rfl⟩
  ·rcases keyIs_shape hv with ⟨j,u,rfl,rfl⟩ | ⟨y,u,rfl,rfl⟩
   ·rw [key_ll] at h;exact wpAny_eqBool_int h
   ·rw [key_lr] at h;exact SeqAt.EqAt.int_str i t y u _ _ _ _ h
  ·rcases keyIs_shape hv with ⟨j,u,rfl,rfl⟩ | ⟨y,u,rfl,rfl⟩
   ·rw [key_rl] at h;exact SeqAt.EqAt.str_int x t j u _ _ _ _ h
   ·rw [key_rr] at h;exact wpAny_eqBool_str h
 «strs»:=fun k x t v h=>by
  rcases keyIs_shape h with ⟨i,u,rfl,e⟩ | ⟨y,u,rfl,e⟩
  ·exact nomatch e
  ·injection e with e1 _
   subst e1
   cases v <;> rfl
theorem mixKind_int (prog:Program) (w:World) (i:Int) (t:Tok):(mixKind prog w).is (.inl i) (.int i t)=true:=keyIs_int i t
theorem mixKind_str (prog:Program) (w:World) (x:Str) (t:Tok):(mixKind prog w).is (.inr x) (.str x t)=true:=keyIs_str x t
end L2
namespace L2
open PySem PySem.Spec PyProof.Rows
inductive V where
 | non | bl (b:Bool) | int (i:Int) | str (x:Str) | byt (b:Array UInt8) | flt (b:UInt64) | ref (a:Addr) | ty (n:String)
 deriving DecidableEq
def RelV:V→Value→Prop
 | .non,u=>u=Value.none
 | .bl b,u=>u=Value.bool b
 | .int i,u=>∃ t,u=Value.int i t
 | .str x,u=>∃ t,u=Value.str x t
 | .byt b,u=>∃ t,u=Value.bytes b t
 | .flt b,u=>∃ t,u=Value.float b t
 | .ref a,u=>u=Value.ref a
 | .ty n,u=>u=Value.type n
abbrev Vals:List V→List Value→Prop:=Paired RelV
theorem Vals.length {xs:List V}{us:List Value} (r:Vals xs us):xs.length=us.length:=Paired.length r
theorem Vals.get:∀ {xs:List V}{us:List Value}{i:Nat}{x:V},Vals xs us→xs[i]? = some x→∃ u,us[i]? = some u∧RelV x u
 | _,_,_,_,.nil,e=>by simp at e
 | _,_,0,_,.cons r _,e=>by simp at e;subst e;exact ⟨_,rfl,r⟩
 | _,_,i+1,x,.cons _ t,e=>by
  obtain ⟨u,h1,h2⟩:=Vals.get (i:=i) (x:=x) t (by simpa using e)
  exact ⟨u,by simpa using h1,h2⟩
theorem Vals.set {x:V}{u:Value} (r:RelV x u):∀ {xs:List V}{us:List Value} (i:Nat),Vals xs us→Vals (xs.set i x) (us.set i u)
 | _,_,_,.nil=>.nil
 | _,_,0,.cons _ t=>.cons r t
 | _,_,i+1,.cons q t=>.cons q (Vals.set r i t)
theorem Vals.append:∀ {xs ys:List V}{us ws:List Value},Vals xs us→Vals ys ws→Vals (xs++ys) (us++ws)
 | _,_,_,_,.nil,s=>s
 | _,_,_,_,.cons r t,s=>.cons r (Vals.append t s)
theorem Vals.take:∀ {xs:List V}{us:List Value} (n:Nat),Vals xs us→Vals (xs.take n) (us.take n)
 | _,_,0,_=>.nil
 | _,_,_+1,.nil=>.nil
 | _,_,n+1,.cons r t=>.cons r (Vals.take n t)
theorem Vals.drop:∀ {xs:List V}{us:List Value} (n:Nat),Vals xs us→Vals (xs.drop n) (us.drop n)
 | _,_,0,r=>r
 | _,_,_+1,.nil=>.nil
 | _,_,n+1,.cons _ t=>Vals.drop n t
theorem Vals.none_of:∀ {xs:List V}{us:List Value}{i:Nat},Vals xs us→xs[i]? = none→us[i]? = none:=fun {xs us i} r e=>by
 have h1:=r.length
 have h2:xs.length≤i:=List.getElem?_eq_none_iff.mp e
 exact List.getElem?_eq_none_iff.mpr (by lia)
def RelO:Option V→Option Value→Prop
 | some v,some u=>RelV v u
 | none,none=>True
 | _,_=>False
def KV {κ:Type}:List (κ×V)→List (κ×Value)→Prop:=Paired fun (p:κ×V) (q:κ×Value)=>p.1=q.1∧RelV p.2 q.2
def kV:Key→V
 | .inl i=>.int i
 | .inr x=>.str x
inductive HO where
 | lst (xs:List V)
 | tup (xs:List V)
 | dK (kvs:List (Key×V)) | dT (kvs:List (List Key×V))
 | set (S:Int→Bool) (n:Nat)
 | ins (C dx:Addr) (fs:List (Str×V))
 | own (x:Addr)
 | xd (fs:List (Str×V))
 | met (f x:Addr)
 | rng (lo hi:Int)
 | frz (o:Obj) (u:HO)
 | tbl (ps:Array Value)
 | ext (φ:Heap→Prop)
abbrev Hp:=Addr→Option HO
def upd (H:Hp) (a:Addr) (o:HO):Hp:=fun b=>if b=a then some o else H b
theorem upd_same {H:Hp}{a:Addr}{o:HO}:upd H a o a=some o:=by unfold upd;rw [if_pos rfl]
theorem upd_ne {H:Hp}{a b:Addr}{o:HO} (h:b≠a):upd H a o b=H b:=by unfold upd;rw [if_neg h]
theorem ne_of {H:Hp}{a b:Addr}{o u:HO} (h:H a=some o) (h':H b=some u) (d:o≠u):a≠b:=by
 intro e;subst e;rw [h] at h';exact d (Option.some.inj h')
theorem ne_of_none {H:Hp}{a b:Addr}{o:HO} (h:H a=some o) (h':H b=none):a≠b:=by
 intro e;subst e;rw [h] at h';cases h'
section
variable (P:Program) (w:World)
def ObjOk (H:Hp) (h:Heap) (a:Addr):HO→Prop
 | .lst xs=>xs.length≤sizeLine∧∃ (its:List Value) (n:Nat),Vals xs its∧h.get? a=some { cls:=.type "list",data:=.seq its.toArray n }
 | .tup xs=>xs.length≤sizeLine∧∃ its:List Value,Vals xs its∧IsTup h a its.toArray
 | .dK kvs=>kvs.length≤sizeLine∧(a == sysModules)=false∧∃ vs,KV kvs vs∧h.DictOf (mixKind P w) a vs
 | .dT kvs=>kvs.length≤sizeLine∧(a == sysModules)=false∧∃ xs:List (List Key×Addr×Value),
   Paired (fun (p:List Key×V) (q:List Key×Addr×Value)=>p.1=q.1∧H q.2.1=some (.tup (p.1.map kV))∧RelV p.2 q.2.2) kvs xs ∧
   ∃ o es ep,h.get? a=some o∧o.ExactDict∧o.data = .dict es ep∧es.toList=xs.map (entryOfKey (tupleKind (mixKind P w)))∧(xs.map (·.1)).Nodup
 | .set S n=>h.SetOf (intKind P w) a S n
 | .ins C dx fs=>H dx=some (.own a)∧fs.length≤1000∧dx≠a∧h.get? a=some (PySem.W.instObj C dx) ∧
   ∃ mA,h.Ns1 dx mA∧(∀ f,RelO (fs.lookup f) (mA f))∧PySem.Within mA (fs.map (·.1))
 | .own _=>∃ o,h.get? a=some o
 | .xd fs=>∃ mA,h.Ns1 a mA∧∀ f,RelO (fs.lookup f) (mA f)
 | .rng lo hi=>∃ t u v,h.get? a=some { cls:=.type "range",data:=.fields #[.int lo t,.int hi u,.int 1 v] }
 | .frz o u=>h.get? a=some o∧ObjOk H h a u
 | .tbl ps=>h.get? a=some { cls:=.none,data:=.fields ps }
 | .met f x=>h.get? a=some (PySem.W.methodObj (.ref f) (.ref x))
 | .ext φ=>φ h∧(∃ o,h.get? a=some o)∧∀ h1 h2:Heap,φ h1→(∀ o,h1.get? a=some o→h2.get? a=some o)→φ h2
def HOk (H:Hp) (h:Heap):Prop:=∀ a o,H a=some o→ObjOk P w H h a o
end
section
variable {P:Program}{w:World}{H H':Hp}{h h':Heap}{a:Addr}{o:HO}
theorem ObjOk.lt (x:ObjOk P w H h a o):a<h.objs.size:=by
 cases o with
 | lst xs=>obtain ⟨_,_,_,_,e⟩:=x;exact Heap.lt_size e
 | tup xs=>obtain ⟨_,_,_,p⟩:=x;exact p.lt
 | dK kvs=>obtain ⟨_,_,_,_,o,_,_,e,_⟩:=x;exact Heap.lt_size e
 | dT kvs=>obtain ⟨_,_,_,_,o,_,_,e,_⟩:=x;exact Heap.lt_size e
 | set S n=>obtain ⟨o,_,_,_,e,_⟩:=x;exact Heap.lt_size e
 | ins C dx fs=>obtain ⟨_,_,_,e,_⟩:=x;exact Heap.lt_size e
 | own y=>obtain ⟨_,e⟩:=x;exact Heap.lt_size e
 | xd fs=>obtain ⟨_,⟨_,_,_,e,_⟩,_⟩:=x;exact Heap.lt_size e
 | rng lo hi=>obtain ⟨_,_,_,e⟩:=x;exact Heap.lt_size e
 | frz ob u=>obtain ⟨e,_⟩:=x;exact Heap.lt_size e
 | tbl ps=>exact Heap.lt_size (show h.get? a=some _ from x)
 | met f y=>exact Heap.lt_size (show h.get? a=some _ from x)
 | ext φ=>obtain ⟨_,⟨_,e⟩,_⟩:=x;exact Heap.lt_size e
theorem Paired.mapP {α β:Type}{F G:α→β→Prop}:∀ {l₁:List α}{l₂:List β},Paired F l₁ l₂→(∀ a b,F a b→G a b)→Paired G l₁ l₂
 | _,_,.nil,_=>.nil
 | _,_,.cons r t,f=>.cons (f _ _ r) (Paired.mapP t f)
theorem ObjOk.stay (x:ObjOk P w H h a o) (k:∀ b u,(b=a∨H b=some (.own a))→h.get? b=some u→h'.get? b=some u)
  (ho:∀ b,H b=some (.own a)→H' b=some (.own a)) (ht:∀ b xs,H b=some (.tup xs)→H' b=some (.tup xs)):ObjOk P w H' h' a o:=by
 induction o with
 | lst xs=>obtain ⟨z,its,n,r,e⟩:=x;exact ⟨z,its,n,r,k _ _ (.inl rfl) e⟩
 | tup xs=>obtain ⟨z,its,r,ob,e,c⟩:=x;exact ⟨z,its,r,ob,k _ _ (.inl rfl) e,c⟩
 | dK kvs=>obtain ⟨z,y,vs,r,ob,es,ep,e,c⟩:=x;exact ⟨z,y,vs,r,ob,es,ep,k _ _ (.inl rfl) e,c⟩
 | dT kvs=>
  obtain ⟨z,y,xs,r,ob,es,ep,e,c⟩:=x
  exact ⟨z,y,xs,Paired.mapP r fun p q z=>⟨z.1,ht _ _ z.2.1,z.2.2⟩,ob,es,ep,k _ _ (.inl rfl) e,c⟩
 | set S n=>obtain ⟨ob,es,ep,t,e,c⟩:=x;exact ⟨ob,es,ep,t,k _ _ (.inl rfl) e,c⟩
 | ins C dx fs=>
  obtain ⟨d,z,ne,e,mA,⟨od,es,ep,e2,c⟩,r⟩:=x
  exact ⟨ho _ d,z,ne,k _ _ (.inl rfl) e,mA,⟨od,es,ep,k _ _ (.inr d) e2,c⟩,r⟩
 | own y=>obtain ⟨ob,e⟩:=x;exact ⟨ob,k _ _ (.inl rfl) e⟩
 | xd fs=>obtain ⟨mA,⟨od,es,ep,e,c⟩,r⟩:=x;exact ⟨mA,⟨od,es,ep,k _ _ (.inl rfl) e,c⟩,r⟩
 | rng lo hi=>obtain ⟨t,u,v,e⟩:=x;exact ⟨t,u,v,k _ _ (.inl rfl) e⟩
 | frz ob u ih=>obtain ⟨e,q⟩:=x;exact ⟨k _ _ (.inl rfl) e,ih q⟩
 | tbl ps=>
  have e:h.get? a=some { cls:=.none,data:=.fields ps }:=x
  show h'.get? a=some { cls:=.none,data:=.fields ps }
  exact k a _ (.inl rfl) e
 | met f y=>
  have e:h.get? a=some (PySem.W.methodObj (.ref f) (.ref y)):=x
  show h'.get? a=some (PySem.W.methodObj (.ref f) (.ref y))
  exact k a _ (.inl rfl) e
 | ext φ=>obtain ⟨p,⟨o,e⟩,st⟩:=x;exact ⟨st _ _ p fun o q=>k _ _ (.inl rfl) q,⟨o,k _ _ (.inl rfl) e⟩,st⟩
theorem HOk.lt (x:HOk P w H h) (e:H a=some o):a<h.objs.size:=(x a o e).lt
theorem HOk.fresh (x:HOk P w H h) (e:h.objs.size≤a):H a=none:=by
 cases q:H a with
 | none=>rfl
 | some u=>exact absurd (Nat.lt_of_lt_of_le (x.lt q) e) (Nat.lt_irrefl _)
theorem HOk.kept (x:HOk P w H h) (k:∀ b u,h.get? b=some u→h'.get? b=some u):HOk P w H h':=fun a o e=>
 (x a o e).stay (fun b u _ q=>k b u q) (fun _ q=>q) fun _ _ q=>q
theorem HOk.laid (x:HOk P w H h) (k:∀ b u,h.get? b=some u→h'.get? b=some u) (hp:h.objs.size≤a) (new:ObjOk P w (upd H a o) h' a o):HOk P w (upd H a o) h':=fun b u e=>by
 have hn:=x.fresh hp
 by_cases hb:b=a
 ·subst hb;rw [upd_same] at e;cases e;exact new
 ·rw [upd_ne hb] at e
  exact (x b u e).stay (fun c v _ q=>k c v q) (fun c q=>by rw [upd_ne (ne_of_none q hn)];exact q) fun c xs q=>by rw [upd_ne (ne_of_none q hn)];exact q
end
def Rd (H:Hp) (a:Addr) (u:HO):Prop:=H a=some u∨∃ o,H a=some (.frz o u)
theorem Rd.ok {P:Program}{w:World}{H:Hp}{h:Heap}{a:Addr}{u:HO} (r:Rd H a u) (x:HOk P w H h):ObjOk P w H h a u:=by
 rcases r with r | ⟨o,r⟩
 ·exact x a u r
 ·obtain ⟨_,q⟩:=x a _ r
  exact q
def Mut:Option HO→Prop
 | some (.lst _)=>True
 | some (.dK _)=>True
 | some (.dT _)=>True
 | some (.set _ _)=>True
 | some (.ins _ _ _)=>True
 | some (.ext _)=>True
 | _=>False
section
variable {P:Program}{w:World}{H:Hp}{h h':Heap}{x e:Addr}{o':HO}
theorem HOk.write (ok:HOk P w H h) (mu:Mut (H x)) (he:e=x∨H e=some (.own x)) (k:∀ b u,b≠e→h.get? b=some u→h'.get? b=some u) (heo:∃ u,h'.get? e=some u)
  (new:ObjOk P w (upd H x o') h' x o'):HOk P w (upd H x o') h':=fun b u q=>by
 have nown:∀ c y,H c=some (.own y)→c≠x:=fun c y r z=>by subst z;rw [r] at mu;exact mu
 have ntup:∀ c xs,H c=some (.tup xs)→c≠x:=fun c xs r z=>by subst z;rw [r] at mu;exact mu
 by_cases hb:b=x
 ·subst hb;rw [upd_same] at q;cases q;exact new
 ·rw [upd_ne hb] at q
  by_cases hbe:b=e
  ·have q':H b=some (.own x):=by
    rcases he with z | z
    ·exact absurd (hbe.trans z) hb
    ·rw [hbe];exact z
   rw [q] at q';cases q'
   obtain ⟨v,hv⟩:=heo
   exact ⟨v,by rw [hbe];exact hv⟩
  ·refine (ok b u q).stay (fun c v hc r=>k c v ?_ r) (fun c r=>by rw [upd_ne (nown c b r)];exact r) fun c xs r=>by rw [upd_ne (ntup c xs r)];exact r
   rcases hc with rfl | hc
   ·exact hbe
   ·rintro rfl
    rcases he with z | z
    ·exact nown c b hc z
    ·rw [hc] at z;cases z;exact hb rfl
end
structure Un (fs ex:List Addr) (H H':Hp) (h h':Heap):Prop where
 keep:∀ b o,h.get? b=some o→H b=none→b∉fs→b∉ex→h'.get? b=some o
 slot:∀ b o,h.get? b=some o→H b=none→b∈fs→b∉ex→∃ sl,h'.get? b=some { o with slots:=sl }
 free:∀ b o,h.get? b=some o→H b=none→b∉ex→H' b=none
 there:∀ b o,h.get? b=some o→b∉ex→∃ o',h'.get? b=some o'
 tups:∀ b xs,H b=some (.tup xs)→H' b=some (.tup xs)
 frzs:∀ b o u,H b=some (.frz o u)→H' b=some (.frz o u)
 tbls:∀ b ps,H b=some (.tbl ps)→∃ more,H' b=some (.tbl (ps++more))
section
variable {fs fs' ex ex':List Addr}{H H1 H2:Hp}{h h1 h2 h':Heap}{a x e:Addr}{o:HO}
theorem Un.any (u:Un fs ex H H1 h h1) {b:Addr}{ob:Obj} (q:h.get? b=some ob) (n:H b=none) (hx:b∉ex):∃ sl,h1.get? b=some { ob with slots:=sl }:=by
 by_cases hb:b∈fs
 ·exact u.slot b ob q n hb hx
 ·exact ⟨ob.slots,u.keep b ob q n hb hx⟩
theorem Un.trans (a:Un fs ex H H1 h h1) (b:Un fs ex H1 H2 h1 h2):Un fs ex H H2 h h2 where
 keep:=fun c ob q n hc hx=>b.keep c ob (a.keep c ob q n hc hx) (a.free c ob q n hx) hc hx
 slot:=fun c ob q n hc hx=>by
  obtain ⟨sl,e1⟩:=a.slot c ob q n hc hx
  obtain ⟨sl',e2⟩:=b.slot c _ e1 (a.free c ob q n hx) hc hx
  exact ⟨sl',e2⟩
 free:=fun c ob q n hx=>by
  obtain ⟨o',e1⟩:=a.there c ob q hx
  exact b.free c o' e1 (a.free c ob q n hx) hx
 there:=fun c ob q hx=>by
  obtain ⟨o',e1⟩:=a.there c ob q hx
  exact b.there c o' e1 hx
 tups:=fun c xs q=>b.tups c xs (a.tups c xs q)
 frzs:=fun c ob xs q=>b.frzs c ob xs (a.frzs c ob xs q)
 tbls:=fun c ps q=>by
  obtain ⟨m1,e1⟩:=a.tbls c ps q
  obtain ⟨m2,e2⟩:=b.tbls c _ e1
  exact ⟨m1++m2,by rw [e2,Array.append_assoc]⟩
theorem Un.kept (k:∀ b u,h.get? b=some u→h'.get? b=some u):Un fs ex H H h h':=
 ⟨fun b ob q _ _ _=>k b ob q,fun b ob q _ _ _=>⟨ob.slots,k b ob q⟩,fun _ _ _ n _=>n,fun b ob q _=>⟨ob,k b ob q⟩,fun _ _ q=>q,fun _ _ _ q=>q,fun _ ps q=>⟨#[],by rw [q];simp⟩⟩
theorem Un.refl:Un fs ex H H h h:=Un.kept fun _ _ q=>q
theorem Un.laid (k:∀ b u,h.get? b=some u→h'.get? b=some u) (hp:h.objs.size≤a) (hn:H a=none):Un fs ex H (upd H a o) h h' where
 keep:=fun b u q _ _ _=>k b u q
 slot:=fun b u q _ _ _=>⟨u.slots,k b u q⟩
 free:=fun b u q n _=>by rw [upd_ne (Nat.ne_of_lt (Nat.lt_of_lt_of_le (Heap.lt_size q) hp))];exact n
 there:=fun b u q _=>⟨u,k b u q⟩
 tups:=fun b xs q=>by rw [upd_ne (ne_of_none q hn)];exact q
 frzs:=fun b u xs q=>by rw [upd_ne (ne_of_none q hn)];exact q
 tbls:=fun b ps q=>⟨#[],by rw [upd_ne (ne_of_none q hn),q];simp⟩
theorem Un.write (mu:Mut (H x)) (he:e=x∨H e=some (.own x)) (k:∀ b u,b≠e→h.get? b=some u→h'.get? b=some u) (heo:∃ u,h'.get? e=some u):Un fs ex H (upd H x o) h h':=by
 have hx:∀ b,H b=none→b≠x:=fun b n z=>by subst z;rw [n] at mu;exact mu
 have hb:∀ b,H b=none→b≠e:=fun b n z=>by
  subst z
  rcases he with r | r
  ·exact hx b n r
  ·rw [n] at r;cases r
 have hm:∀ b u,H b=some u → ¬ Mut (some u)→b≠x:=fun b u q nm z=>by subst z;rw [q] at mu;exact nm mu
 refine ⟨fun b u q n _ _=>k b u (hb b n) q,fun b u q n _ _=>⟨u.slots,k b u (hb b n) q⟩,fun b u q n _=>by rw [upd_ne (hx b n)];exact n,fun b u q _=>?_,
  fun b xs q=>by rw [upd_ne (hm b _ q fun z=>z)];exact q,fun b u xs q=>by rw [upd_ne (hm b _ q fun z=>z)];exact q,fun b ps q=>⟨#[],by rw [upd_ne (hm b _ q fun z=>z),q];simp⟩⟩
 by_cases hbe:b=e
 ·subst hbe;exact heo
 ·exact ⟨u,k b u hbe q⟩
end
def trk (h:Heap) (H:Hp):List Addr:=(List.range h.objs.size).filter fun a=>(H a).isSome
def hidT (h:Heap) (H:Hp):Heap:=PySem.W.hideAll h (trk h H)
theorem hidT_size (h:Heap) (H:Hp):(hidT h H).objs.size=h.objs.size:=PySem.W.hideAll_size _ _
theorem hidT_get {h:Heap}{H:Hp}{b:Addr}{o:Obj} (e:h.get? b=some o) (n:H b=none):(hidT h H).get? b=some o:=
 PySem.W.hideAll_get _ e fun hm=>by
  have q:(H b).isSome=true:=(List.mem_filter.mp hm).2
  rw [n] at q;simp at q
theorem of_hidT {h:Heap}{H:Hp}{b:Addr}{o:Obj} (e:(hidT h H).get? b=some o):h.get? b=some o∧H b=none:=by
 have e':h.get? b=some o:=PySem.W.of_hideAll (trk h H) e
 refine ⟨e',?_⟩
 cases q:H b with
 | none=>rfl
 | some x=>
  have hm:b∈trk h H:=List.mem_filter.mpr ⟨List.mem_range.mpr (Heap.lt_size e'),by simp [q]⟩
  have z:(hidT h H).get? b=none:=PySem.W.hideAll_none (trk h H) hm
  rw [z] at e;cases e
def allNews (g h:Heap) (L:Addr):List (Addr×Obj):=(List.range h.objs.size).filterMap fun a=>if a=L∨(g.get? a).isSome=true then none else (h.get? a).map fun o=>(a,o)
def rest (g h:Heap) (L d:Addr):List (Addr×Obj):=(allNews g h L).filter fun p=>decide (p.1≠d)
end L2
namespace L2
open PySem PySem.Spec PyProof.Rows
structure Mod (K:PySem.W.Frag) (mg:Str→Option Value) (base:Heap):Prop where
 kin:K.In base
 glob:base.Ns mainGlobals mg
 blt:∃ mb,base.Ns builtinsNs mb∧∀ x:Str,x ≠ "__name__" → mb x=bootBuiltins x
 nolimit:base.NoLimit
structure Cx where
 prog:Program
 w:World
 K:PySem.W.Frag
 mg:Str→Option Value
 base:Heap
 A:Around
 N:List Str
 s₀:Shared
 H₀:Hp
 env:Env
 outer:List Env
 stack:List Env
 ex:List Addr
 fn:Str→Bool
 calm:Bool
 pn:List (Addr×Obj)
 xe:Value→Shared→Prop
def frs (l:List Env):List Addr:=l.filterMap (·.frame)
abbrev Cx.fs (X:Cx):List Addr:=frs X.outer
def Vis (sc:Scope) (x:Str):Prop:=sc.names.lookup x=some .local∨sc.names.lookup x=some .cell∨sc.names.lookup x=some .free
def Loc (sc:Scope) (x:Str):Prop:=sc.names.lookup x=some .local∨sc.names.lookup x=some .cell
def Look (env:Env) (h:Heap) (m:Str→Option Value) (x:Str) (u:Value):Prop:=
 (env.kindOf x=some .local∧m x=some u)∨((env.kindOf x=some .cell∨env.kindOf x=some .free)∧∃ c,env.cells.lookup x=some c∧h.IsCell c (some u))
structure Cx.Ok (X:Cx):Prop where
 mod:Mod X.K X.mg X.base
 kind:X.env.scope.kind = .function
 glob:X.env.globals=mainGlobals
 blt:X.env.builtins=builtinsNs
 above:X.s₀.heap.objs.size≤X.env.locals
 inj:∀ x y c,X.env.cells.lookup x=some c→X.env.cells.lookup y=some c→x=y
 has:∀ x,(X.env.kindOf x=some .cell∨X.env.kindOf x=some .free)→∃ c,X.env.cells.lookup x=some c
 cab:∀ x c,X.fn x=true→X.env.cells.lookup x=some c→X.s₀.heap.objs.size≤c
 hd:X.calm=true→X.A.handled=none
 frames:X.A.frames=some X.stack
 stk:X.stack=X.outer∨(X.stack=X.env::X.outer∧X.env.frame=some X.env.locals)
 exf:∀ b∈X.ex,b≠X.env.locals∧∀ x c,X.env.cells.lookup x=some c→c≠b
 bs:∀ b o,X.base.get? b=some o→X.s₀.heap.get? b=some o∧X.H₀ b=none
 bsz:X.base.objs.size≤X.s₀.heap.objs.size
 noex:∀ b o,X.base.get? b=some o→b∉X.ex
 exfs:∀ b∈X.ex,b∉X.fs
 funs:X.s₀.heap.FunFrames X.base X.outer
 frf:∀ b∈X.fs,X.H₀ b=none
structure Inv (X:Cx) (pins:List (Addr×Obj)) (σ:List (Option V)) (H:Hp) (s:Shared):Prop where
 ok:X.Ok
 os:s.os=X.s₀.os
 bare:AllBare s.gens
 base:Un X.fs X.ex X.H₀ H X.s₀.heap s.heap
 loc:∃ m,s.heap.Ns X.env.locals m∧∀ (i:Nat) (x:Str) (v:V),X.N[i]? = some x→σ[i]? = some (some v)→Vis X.env.scope x→∃ u,RelV v u∧Look X.env s.heap m x u
 cell:∀ x c,X.env.cells.lookup x=some c→∃ v,s.heap.IsCell c v
 free:H X.env.locals=none
 freeC:∀ x c,X.env.cells.lookup x=some c→H c=none
 pin:∀ p∈X.pn++pins,s.heap.get? p.1=some p.2∧H p.1=none∧p.1≠X.env.locals∧p.1∉X.fs∧∀ v,p.2.data ≠ .cell v
 hok:HOk X.prog X.w H s.heap
 len:σ.length=X.N.length
section
variable {X:Cx}{pins:List (Addr×Obj)}{σ:List (Option V)}{H H':Hp}{s:Shared}{h':Heap}
theorem Cx.Ok.nofr (ok:X.Ok) {b:Addr}{o:Obj} (e:X.base.get? b=some o):b∉X.fs:=fun hb=>by
 have:=(ok.funs.mem hb).1
 rw [e] at this;cases this
theorem Inv.bs (I:Inv X pins σ H s):∀ b o,X.base.get? b=some o→s.heap.get? b=some o∧H b=none:=fun b o e=>
 ⟨I.base.keep b o (I.ok.bs b o e).1 (I.ok.bs b o e).2 (I.ok.nofr e) (I.ok.noex b o e),I.base.free b o (I.ok.bs b o e).1 (I.ok.bs b o e).2 (I.ok.noex b o e)⟩
theorem Inv.bk (I:Inv X pins σ H s):∀ b o,X.base.get? b=some o→s.heap.get? b=some o:=fun b o e=>(I.bs b o e).1
theorem Inv.mod (I:Inv X pins σ H s):Mod X.K X.mg X.base:=I.ok.mod
theorem Inv.kIn (I:Inv X pins σ H s):X.K.In s.heap:=I.ok.mod.kin.keeps I.bk
theorem Inv.lt (I:Inv X pins σ H s):X.env.locals<s.heap.objs.size:=let ⟨_,hn,_⟩:=I.loc;hn.lt
theorem Inv.sz (I:Inv X pins σ H s):X.s₀.heap.objs.size≤s.heap.objs.size:=Nat.le_trans I.ok.above (Nat.le_of_lt I.lt)
theorem Inv.nofs (I:Inv X pins σ H s) {a:Addr} (h:s.heap.objs.size≤a):a∉X.fs:=fun hb=>by
 obtain ⟨_,o,ho,_⟩:=I.ok.funs.mem hb
 exact absurd (Nat.lt_of_lt_of_le (Heap.lt_size ho) (Nat.le_trans I.sz h)) (Nat.lt_irrefl _)
theorem Inv.cne (I:Inv X pins σ H s):∀ x c,X.env.cells.lookup x=some c→c≠X.env.locals:=fun x c e z=>by
 obtain ⟨v,o,ho,hd⟩:=I.cell x c e
 obtain ⟨m,⟨o',es,ep,ho',hd',_⟩,_⟩:=I.loc
 rw [z,ho'] at ho;cases ho;rw [hd'] at hd;cases hd
theorem Inv.funs (I:Inv X pins σ H s):s.heap.FunFrames X.base X.outer:=by
 have all:∀ (l:List Env),(∀ b∈frs l,b∈X.fs)→X.s₀.heap.FunFrames X.base l→s.heap.FunFrames X.base l:=by
  intro l
  induction l with
  | nil=>intro _ _;trivial
  | cons env r ih=>
   intro hs hl
   obtain ⟨hk,⟨L,o,hf,hn,ho,hd⟩,hr⟩:=hl
   have hL:L∈X.fs:=hs L (by unfold frs;rw [List.filterMap_cons,hf];exact List.mem_cons_self)
   obtain ⟨sl,e⟩:=I.base.slot L o ho (I.ok.frf L hL) hL fun z=>I.ok.exfs L z hL
   exact ⟨hk,⟨L,_,hf,hn,e,hd⟩,ih (fun b hb=>hs b (by unfold frs;rw [List.filterMap_cons,hf];exact List.mem_cons_of_mem _ hb)) hr⟩
 exact all X.outer (fun _ hb=>hb) I.ok.funs
theorem Inv.stack (I:Inv X pins σ H s):s.heap.FunFrames X.base X.stack:=by
 rcases I.ok.stk with e | ⟨e,hf⟩
 ·rw [e];exact I.funs
 ·rw [e]
  obtain ⟨m,hn,_⟩:=I.loc
  refine .cons (by rw [I.ok.kind];decide) hf hn ?_ I.funs
  exact Heap.get?_none_of_le (Nat.le_trans I.ok.bsz I.ok.above)
theorem Inv.stkSub (I:Inv X pins σ H s):∀ b∈frs X.stack,b∈X.env.locals::X.fs:=fun b hb=>by
 rcases I.ok.stk with e | ⟨e,hf⟩
 ·rw [e] at hb;exact List.mem_cons_of_mem _ hb
 ·rw [e] at hb
  unfold frs at hb
  rw [List.filterMap_cons,hf] at hb
  exact hb
theorem Inv.stkFree (I:Inv X pins σ H s):∀ b∈frs X.stack,H b=none:=fun b hb=>by
 rcases List.mem_cons.mp (I.stkSub b hb) with e | hb
 ·rw [e];exact I.free
 ·obtain ⟨_,o,ho,_⟩:=I.ok.funs.mem hb
  exact I.base.free b o ho (I.ok.frf b hb) fun z=>I.ok.exfs b z hb
theorem Inv.step {g':Array GenState}{t':Nat}{d':Drawn}{ch:List Addr} (I:Inv X pins σ H s)
  (hch:∀ b∈ch,(b∈X.ex∨X.s₀.heap.objs.size≤b)∧b≠X.env.locals∧(∀ x c,X.env.cells.lookup x=some c→c≠b)∧∀ p∈X.pn++pins,p.1≠b)
  (keep:∀ b o,b≠X.env.locals→b∉X.fs→b∉ch→s.heap.get? b=some o→H b=none→h'.get? b=some o)
  (slot:∀ b o,b≠X.env.locals→b∈X.fs→b∉ch→s.heap.get? b=some o→H b=none→∃ sl,h'.get? b=some { o with slots:=sl }) (free:∀ b o,b∉ch→s.heap.get? b=some o→H b=none→H' b=none)
  (there:∀ b o,b∉ch→s.heap.get? b=some o→∃ o',h'.get? b=some o')
  (tups:∀ b xs,H b=some (.tup xs)→H' b=some (.tup xs)) (frzs:∀ b o u,H b=some (.frz o u)→H' b=some (.frz o u)) (tbls:∀ b ps,H b=some (.tbl ps)→∃ more,H' b=some (.tbl (ps++more)))
  (ns:∀ m,s.heap.Ns X.env.locals m→h'.Ns X.env.locals m) (hok:HOk X.prog X.w H' h') (hg:AllBare g') :
  Inv X pins σ H' { s with heap:=h',gens:=g',drawn:=d',toks:=t' }:=by
 have neL:∀ b o,X.s₀.heap.get? b=some o→b≠X.env.locals:=fun b o e=>Nat.ne_of_lt (Nat.lt_of_lt_of_le (Heap.lt_size e) I.ok.above)
 have neC:∀ b o,X.s₀.heap.get? b=some o→b∉X.ex→b∉ch:=fun b o e hx hb=>by
  rcases (hch b hb).1 with z | z
  ·exact hx z
  ·exact absurd (Nat.lt_of_lt_of_le (Heap.lt_size e) z) (Nat.lt_irrefl _)
 have cellK:∀ x c,X.env.cells.lookup x=some c→∀ v,s.heap.IsCell c v→h'.IsCell c v:=fun x c e v ⟨o,ho,hd⟩=>by
  have nch:c∉ch:=fun z=>(hch c z).2.2.1 x c e rfl
  by_cases hc:c∈X.fs
  ·obtain ⟨sl,q⟩:=slot c o (I.cne x c e) hc nch ho (I.freeC x c e)
   exact ⟨_,q,hd⟩
  ·exact ⟨o,keep c o (I.cne x c e) hc nch ho (I.freeC x c e),hd⟩
 refine ⟨I.ok,I.os,hg,⟨fun b o e n hb hx=>?_,fun b o e n hb hx=>?_,fun b o e n hx=>?_,fun b o e hx=>?_,fun b xs e=>tups b xs (I.base.tups b xs e),fun b o xs e=>frzs b o xs (I.base.frzs b o xs e),fun b ps e=>?_⟩,?_,fun x c e=>?_,?_,fun x c e=>?_,fun p hp=>?_,hok,I.len⟩
 ·exact keep b o (neL b o e) hb (neC b o e hx) (I.base.keep b o e n hb hx) (I.base.free b o e n hx)
 ·obtain ⟨sl,e1⟩:=I.base.slot b o e n hb hx
  obtain ⟨sl',e2⟩:=slot b _ (neL b o e) hb (neC b o e hx) e1 (I.base.free b o e n hx)
  exact ⟨sl',e2⟩
 ·obtain ⟨o',e1⟩:=I.base.there b o e hx
  exact free b o' (neC b o e hx) e1 (I.base.free b o e n hx)
 ·obtain ⟨o',e1⟩:=I.base.there b o e hx
  exact there b o' (neC b o e hx) e1
 ·obtain ⟨m1,e1⟩:=I.base.tbls b ps e
  obtain ⟨m2,e2⟩:=tbls b _ e1
  exact ⟨m1++m2,by rw [e2,Array.append_assoc]⟩
 ·obtain ⟨m,hn,hl⟩:=I.loc
  refine ⟨m,ns m hn,fun i x v e1 e2 e3=>?_⟩
  obtain ⟨u,r,l⟩:=hl i x v e1 e2 e3
  refine ⟨u,r,?_⟩
  rcases l with l | ⟨k,c,e,z⟩
  ·exact .inl l
  ·exact .inr ⟨k,c,e,cellK x c e _ z⟩
 ·obtain ⟨v,z⟩:=I.cell x c e
  exact ⟨v,cellK x c e v z⟩
 ·obtain ⟨m,⟨o,_,_,ho,_⟩,_⟩:=I.loc
  exact free _ o (fun z=>(hch _ z).2.1 rfl) ho I.free
 ·obtain ⟨v,o,ho,hd⟩:=I.cell x c e
  exact free c o (fun z=>(hch c z).2.2.1 x c e rfl) ho (I.freeC x c e)
 ·obtain ⟨e,n,ne,nf,d⟩:=I.pin p hp
  have nch:p.1∉ch:=fun z=>(hch p.1 z).2.2.2 p hp rfl
  exact ⟨keep p.1 p.2 ne nf nch e n,free p.1 p.2 nch e n,ne,nf,d⟩
theorem Inv.un {t':Nat} (I:Inv X pins σ H s) (u:Un X.fs [] H H' s.heap h') (hok:HOk X.prog X.w H' h'):Inv X pins σ H' { s with heap:=h',toks:=t' }:=by
 obtain ⟨m,⟨o,es,ep,ho,r⟩,_⟩:=id I.loc
 obtain ⟨sl,hL⟩:=u.any ho I.free (by simp)
 exact I.step (g':=s.gens) (d':=s.drawn) (ch:=[]) (fun _ z=>nomatch z) (fun b o _ hb _ e n=>u.keep b o e n hb (by simp)) (fun b o _ hb _ e n=>u.slot b o e n hb (by simp)) (fun b o _ e n=>u.free b o e n (by simp)) (fun b o _ e=>u.there b o e (by simp)) u.tups u.frzs u.tbls (fun m' hm=>by
  obtain ⟨o',es',ep',ho',r'⟩:=hm
  rw [ho] at ho';cases ho'
  exact ⟨_,es',ep',hL,r'⟩) hok I.bare
theorem Inv.call {g':Array GenState}{t':Nat}{d':Drawn}{ch:List Addr} (I:Inv X pins σ H s) (u:Un (frs X.stack) ch H H' s.heap h') (hok:HOk X.prog X.w H' h') (hg:AllBare g')
  (hch:∀ b∈ch,(b∈X.ex∨X.s₀.heap.objs.size≤b)∧b≠X.env.locals∧(∀ x c,X.env.cells.lookup x=some c→c≠b)∧∀ p∈X.pn++pins,p.1≠b) :
  Inv X pins σ H' { s with heap:=h',gens:=g',drawn:=d',toks:=t' }:=by
 obtain ⟨m,⟨o,es,ep,ho,r⟩,_⟩:=id I.loc
 obtain ⟨sl,hL⟩:=u.any ho I.free fun z=>(hch _ z).2.1 rfl
 exact I.step (ch:=ch) hch (fun b o hL hb hc e n=>u.keep b o e n (fun z=>(List.mem_cons.mp (I.stkSub b z)).elim hL hb) hc) (fun b o _ _ hc e n=>u.any e n hc) (fun b o hc e n=>u.free b o e n hc) (fun b o hc e=>u.there b o e hc) u.tups u.frzs u.tbls (fun m' hm=>by
  obtain ⟨o',es',ep',ho',r'⟩:=hm
  rw [ho] at ho';cases ho'
  exact ⟨_,es',ep',hL,r'⟩) hok hg
theorem Inv.turned {t':Nat}{it:Addr} (I:Inv X pins σ H s) (k:∀ b o,b≠it→s.heap.get? b=some o→h'.get? b=some o) (hn:H it=none) (hL:it≠X.env.locals)
  (h1:it∈X.ex∨X.s₀.heap.objs.size≤it) (h2:∀ x c,X.env.cells.lookup x=some c→c≠it) (h3:∀ p∈X.pn++pins,p.1≠it):Inv X pins σ H { s with heap:=h',toks:=t' }:=by
 have nit:∀ b u,H b=some u→b≠it:=fun b u e z=>by rw [z,hn] at e;cases e
 refine I.step (g':=s.gens) (d':=s.drawn) (ch:=[it]) (fun b hb=>?_) (fun b o _ _ hc e _=>k b o (fun z=>hc (by simp [z])) e) (fun b o _ _ hc e _=>⟨o.slots,k b o (fun z=>hc (by simp [z])) e⟩) (fun _ _ _ _ n=>n)
  (fun b o hc e=>⟨o,k b o (fun z=>hc (by simp [z])) e⟩) (fun _ _ e=>e) (fun _ _ _ e=>e) (fun b ps e=>⟨#[],by rw [e];simp⟩) (fun m hm=>?_) (fun b u e=>?_) I.bare
 ·have e:b=it:=by simpa using hb
  subst e
  exact ⟨h1,hL,h2,h3⟩
 ·obtain ⟨o,es,ep,ho,r⟩:=hm
  exact ⟨o,es,ep,k _ o (Ne.symm hL) ho,r⟩
 ·refine (I.hok b u e).stay (fun c v hc q=>k c v ?_ q) (fun _ q=>q) fun _ _ q=>q
  rcases hc with z | z
  ·rw [z];exact nit b u e
  ·exact nit c _ z
theorem Inv.tok (I:Inv X pins σ H s) (t:Nat):Inv X pins σ H { s with toks:=t }:=I.un (h':=s.heap) (t':=t) Un.refl I.hok
theorem Inv.kept {t':Nat} (I:Inv X pins σ H s) (k:∀ b u,s.heap.get? b=some u→h'.get? b=some u):Inv X pins σ H { s with heap:=h',toks:=t' }:=I.un (Un.kept k) (I.hok.kept k)
theorem Inv.laid {a:Addr}{o:HO}{t':Nat} (I:Inv X pins σ H s) (k:∀ b u,s.heap.get? b=some u→h'.get? b=some u) (hp:s.heap.objs.size≤a) (new:ObjOk X.prog X.w (upd H a o) h' a o) :
  Inv X pins σ (upd H a o) { s with heap:=h',toks:=t' }:=I.un (Un.laid k hp (I.hok.fresh hp)) (I.hok.laid k hp new)
theorem Inv.write {x e:Addr}{o:HO}{t':Nat} (I:Inv X pins σ H s) (mu:Mut (H x)) (he:e=x∨H e=some (.own x)) (k:∀ b u,b≠e→s.heap.get? b=some u→h'.get? b=some u) (heo:∃ u,h'.get? e=some u)
  (new:ObjOk X.prog X.w (upd H x o) h' x o):Inv X pins σ (upd H x o) { s with heap:=h',toks:=t' }:=I.un (Un.write mu he k heo) (I.hok.write mu he k heo new)
theorem Inv.pins_of {pins':List (Addr×Obj)} (I:Inv X pins σ H s) (h:∀ p∈pins',s.heap.get? p.1=some p.2∧H p.1=none∧p.1≠X.env.locals∧p.1∉X.fs∧∀ v,p.2.data ≠ .cell v):Inv X pins' σ H s:=
 ⟨I.ok,I.os,I.bare,I.base,I.loc,I.cell,I.free,I.freeC,fun p hp=>(List.mem_append.mp hp).elim (fun z=>I.pin p (List.mem_append_left _ z)) (h p),I.hok,I.len⟩
theorem nodup_ix {N:List Str} (hN:N.Nodup) {i j:Nat}{x:Str} (a:N[i]? = some x) (b:N[j]? = some x):i=j:=by
 obtain ⟨h1,e1⟩:=List.getElem?_eq_some_iff.mp a
 obtain ⟨h2,e2⟩:=List.getElem?_eq_some_iff.mp b
 exact (List.getElem_inj hN).mp (e1.trans e2.symm)
theorem store_ok2 {M:Model}{A:Around}{E:Value→Shared→Prop}{i:Nat}{x:Str}{v:V}{u:Value}{Q:Unit→Shared→Prop} (I:Inv X pins σ H s) (hN:X.N.Nodup) (hi:X.N[i]? = some x) (hx:Loc X.env.scope x) (r:RelV v u)
  (h:∀ s',Inv X pins (σ.set i (some v)) H s'→(∃ a,Heap.SameBut a s.heap s'.heap∧(a=X.env.locals∨X.env.cells.lookup x=some a))→Q () s') (hf:X.fn x=true∨X.env.scope.names.lookup x=some .local:=by first | exact .inl rfl | exact .inr rfl | assumption):wpAny M A (storeName X.env x u) Q E s:=by
 obtain ⟨m,hn,hl⟩:=id I.loc
 have hcls:(X.env.scope.kind == .class || (X.env.scope.kind == .module && X.env.locals != X.env.globals))=false:=by rw [I.ok.kind];rfl
 have hiσ:i<σ.length:=by rw [I.len];exact (List.getElem?_eq_some_iff.mp hi).1
 have cne:=I.cne
 have tracked:∀ {a:Addr}{h':Heap},(∃ o,s.heap.get? a=some o∧H a=none)→Heap.SameBut a s.heap h'→HOk X.prog X.w H h':=fun {a h'} ha hs b ob e=>by
  obtain ⟨_,_,hfree⟩:=ha
  refine (I.hok b ob e).stay (fun c w' hc q=>(hs.2 c ?_).trans q) (fun _ q=>q) fun _ _ q=>q
  rintro rfl
  rcases hc with rfl | hc
  ·rw [hfree] at e;cases e
  ·rw [hfree] at hc;cases hc
 rcases hx with hk | hk
 ·refine wpAny_storeName_local hk hn (fun h' hn' hs=>?_) hcls
  obtain ⟨oL,_,_,hoL,_⟩:=id hn
  refine h _ ⟨I.ok,I.os,I.bare,⟨fun b o e n hb hx=>?_,fun b o e n hb hx=>?_,I.base.free,fun b o e hx=>?_,I.base.tups,I.base.frzs,I.base.tbls⟩,⟨_,hn',fun j y v' e1 e2 e3=>?_⟩,fun y c e=>?_,I.free,I.freeC,fun p hp=>?_,tracked ⟨oL,hoL,I.free⟩ hs,by simpa using I.len⟩ ⟨_,hs,.inl rfl⟩
  ·exact (hs.2 b (Nat.ne_of_lt (Nat.lt_of_lt_of_le (Heap.lt_size e) I.ok.above))).trans (I.base.keep b o e n hb hx)
  ·obtain ⟨sl,e1⟩:=I.base.slot b o e n hb hx
   exact ⟨sl,(hs.2 b (Nat.ne_of_lt (Nat.lt_of_lt_of_le (Heap.lt_size e) I.ok.above))).trans e1⟩
  ·obtain ⟨o',e1⟩:=I.base.there b o e hx
   exact ⟨o',(hs.2 b (Nat.ne_of_lt (Nat.lt_of_lt_of_le (Heap.lt_size e) I.ok.above))).trans e1⟩
  ·by_cases hj:j=i
   ·subst hj
    rw [hi] at e1;cases e1
    rw [List.getElem?_set_self hiσ] at e2
    cases e2
    exact ⟨u,r,.inl ⟨hk,by simp⟩⟩
   ·rw [List.getElem?_set_ne (Ne.symm hj)] at e2
    obtain ⟨u',r',q⟩:=hl j y v' e1 e2 e3
    refine ⟨u',r',?_⟩
    rcases q with ⟨k,e⟩ | ⟨k,c,e,z⟩
    ·refine .inl ⟨k,?_⟩
     have:y≠x:=fun e=>hj (nodup_ix hN e1 (e ▸ hi))
     simp [this,e]
    ·exact .inr ⟨k,c,e,z.sameBut hs (cne y c e)⟩
  ·obtain ⟨w',z⟩:=I.cell y c e
   exact ⟨w',z.sameBut hs (cne y c e)⟩
  ·obtain ⟨e,n,ne,nf,d⟩:=I.pin p hp
   exact ⟨(hs.2 p.1 ne).trans e,n,ne,nf,d⟩
 ·have hfn:X.fn x=true:=by
   rcases hf with z | z
   ·exact z
   ·rw [z] at hk;cases hk
  obtain ⟨c,hc⟩:=I.ok.has x (.inl hk)
  obtain ⟨w',z⟩:=I.cell x c hc
  refine wpAny_storeName_cell I.ok.kind hk hc z (fun h' hc' hs=>?_)
  obtain ⟨oc,hoc,hocd⟩:=id z
  refine h { s with heap:=h' } ⟨I.ok,I.os,I.bare,⟨fun b o e n hb hx=>?_,fun b o e n hb hx=>?_,I.base.free,fun b o e hx=>?_,I.base.tups,I.base.frzs,I.base.tbls⟩,⟨m,hn.sameBut hs (Ne.symm (cne x c hc)),fun j y v' e1 e2 e3=>?_⟩,fun y c' e=>?_,I.free,I.freeC,fun p hp=>?_,tracked ⟨oc,hoc,I.freeC x c hc⟩ hs,by simpa using I.len⟩ ⟨c,hs,.inr hc⟩
  ·exact (hs.2 b (Nat.ne_of_lt (Nat.lt_of_lt_of_le (Heap.lt_size e) (I.ok.cab x c hfn hc)))).trans (I.base.keep b o e n hb hx)
  ·obtain ⟨sl,e1⟩:=I.base.slot b o e n hb hx
   exact ⟨sl,(hs.2 b (Nat.ne_of_lt (Nat.lt_of_lt_of_le (Heap.lt_size e) (I.ok.cab x c hfn hc)))).trans e1⟩
  ·obtain ⟨o',e1⟩:=I.base.there b o e hx
   exact ⟨o',(hs.2 b (Nat.ne_of_lt (Nat.lt_of_lt_of_le (Heap.lt_size e) (I.ok.cab x c hfn hc)))).trans e1⟩
  ·by_cases hj:j=i
   ·subst hj
    rw [hi] at e1;cases e1
    rw [List.getElem?_set_self hiσ] at e2
    cases e2
    exact ⟨u,r,.inr ⟨.inl hk,c,hc,hc'⟩⟩
   ·rw [List.getElem?_set_ne (Ne.symm hj)] at e2
    obtain ⟨u',r',q⟩:=hl j y v' e1 e2 e3
    refine ⟨u',r',?_⟩
    rcases q with q | ⟨k,c',e,z'⟩
    ·exact .inl q
    ·refine .inr ⟨k,c',e,z'.sameBut hs ?_⟩
     rintro rfl
     exact hj (nodup_ix hN e1 (I.ok.inj _ _ _ e hc ▸ hi))
  ·by_cases hcc:c' = c
   ·subst hcc;exact ⟨_,hc'⟩
   ·obtain ⟨w2,z2⟩:=I.cell y c' e
    exact ⟨w2,z2.sameBut hs hcc⟩
  ·obtain ⟨e,n,ne,nf,d⟩:=I.pin p hp
   refine ⟨(hs.2 p.1 ?_).trans e,n,ne,nf,d⟩
   intro q
   rw [q,hoc] at e
   have q':oc=p.2:=Option.some.inj e
   exact d w' (by rw [← q'];exact hocd)
theorem store_ok {M:Model}{A:Around}{E:Value→Shared→Prop}{i:Nat}{x:Str}{v:V}{u:Value}{Q:Unit→Shared→Prop} (I:Inv X pins σ H s) (hN:X.N.Nodup) (hi:X.N[i]? = some x) (hx:Loc X.env.scope x) (r:RelV v u)
  (h:∀ s',Inv X pins (σ.set i (some v)) H s'→Q () s') (hf:X.fn x=true∨X.env.scope.names.lookup x=some .local:=by first | exact .inl rfl | exact .inr rfl | assumption):wpAny M A (storeName X.env x u) Q E s:=
 store_ok2 I hN hi hx r (fun s' I' _=>h s' I') hf
theorem Inv.call' {s':Shared}{ch:List Addr} (I:Inv X pins σ H s) (ho:s'.os=s.os) (u:Un (frs X.stack) ch H H' s.heap s'.heap) (hok:HOk X.prog X.w H' s'.heap) (hg:AllBare s'.gens)
  (hch:∀ b∈ch,(b∈X.ex∨X.s₀.heap.objs.size≤b)∧b≠X.env.locals∧(∀ x c,X.env.cells.lookup x=some c→c≠b)∧∀ p∈X.pn++pins,p.1≠b):Inv X pins σ H' s':=by
 obtain ⟨h',g',d',t',o'⟩:=s'
 have e:o' = s.os:=ho
 subst e
 exact I.call (g':=g') (t':=t') (d':=d') u hok hg hch
end
abbrev XK:=Value→Option Addr→Hp→Prop
abbrev St:=List (Option V)
abbrev VK:=V→Hp→Prop
abbrev TE:=St→Hp→VK→Prop
abbrev TT:=St→Hp→(Bool→Hp→Prop)→Prop
abbrev TA:=St→Hp→(List V→Hp→Prop)→Prop
structure Ends where
 nx:St→Hp→Prop
 rt:VK
 bk:St→Hp→Prop:=fun _ _=>False
 ct:St→Hp→Prop:=fun _ _=>False
abbrev TS:=Ends→St→Hp→Prop
def EP (X:Cx) (pins:List (Addr×Obj)) (σ:St) (Q:VK) (u:Value) (s':Shared):Prop:=∃ v H',Inv X pins σ H' s'∧RelV v u∧Q v H'
def TP (X:Cx) (pins:List (Addr×Obj)) (σ:St) (Q:Bool→Hp→Prop) (b:Bool) (s':Shared):Prop:=∃ H',Inv X pins σ H' s'∧Q b H'
def AP (X:Cx) (pins:List (Addr×Obj)) (σ:St) (Q:List V→Hp→Prop) (us:List Value) (s':Shared):Prop:=∃ vs H',Inv X pins σ H' s'∧Vals vs us∧Q vs H'
def SP (X:Cx) (pins:List (Addr×Obj)) (D:Ends) (f:Flow) (s':Shared):Prop:=
 match f with
 | .next=>∃ σ' H',Inv X pins σ' H' s'∧D.nx σ' H'
 | .brk=>∃ σ' H',Inv X pins σ' H' s'∧D.bk σ' H'
 | .cont=>∃ σ' H',Inv X pins σ' H' s'∧D.ct σ' H'
 | .ret u=>∃ v σ' H',Inv X pins σ' H' s'∧RelV v u∧D.rt v H'
def PE (X:Cx) (e:Expr) (t:TE):Prop:=
 ∀ (pins:List (Addr×Obj)) (s:Shared) (σ:St) (H:Hp) (Q:VK),Inv X pins σ H s→t σ H Q→wpAny (model X.prog X.w) X.A (eval e X.env) (EP X pins σ Q) X.xe s
def PT (X:Cx) (e:Expr) (t:TT):Prop:=
 ∀ (pins:List (Addr×Obj)) (s:Shared) (σ:St) (H:Hp) (Q:Bool→Hp→Prop),Inv X pins σ H s→t σ H Q→wpAny (model X.prog X.w) X.A (isTrue e X.env (eval e X.env)) (TP X pins σ Q) X.xe s
def PW (X:Cx) (e:Expr) (t:TT):Prop:=
 ∀ (whole:Sem Value) (pins:List (Addr×Obj)) (s:Shared) (σ:St) (H:Hp) (Q:Bool→Hp→Prop),Inv X pins σ H s→t σ H Q→wpAny (model X.prog X.w) X.A (isTrue e X.env whole) (TP X pins σ Q) X.xe s
theorem PW.pt {X:Cx}{e:Expr}{t:TT} (h:PW X e t):PT X e t:=h _
def PA (X:Cx) (es:List Expr) (t:TA):Prop:=
 ∀ (pos:Pos) (pins:List (Addr×Obj)) (s:Shared) (σ:St) (H:Hp) (Q:List V→Hp→Prop),Inv X pins σ H s→t σ H Q→wpAny (model X.prog X.w) X.A (spliced (backTo pos (starEach es X.env))) (AP X pins σ Q) X.xe s
def PS (X:Cx) (st:Stmt) (t:TS):Prop:=
 ∀ (pins:List (Addr×Obj)) (s:Shared) (σ:St) (H:Hp) (D:Ends),Inv X pins σ H s→t D σ H→wpAny (model X.prog X.w) X.A (exec st X.env) (SP X pins D) X.xe s
def PSs (X:Cx) (st:List Stmt) (t:TS):Prop:=
 ∀ (pins:List (Addr×Obj)) (s:Shared) (σ:St) (H:Hp) (D:Ends),Inv X pins σ H s→t D σ H→wpAny (model X.prog X.w) X.A (execs st X.env) (SP X pins D) X.xe s
theorem thn {α:Type}{t:Sem α}{Q Q':α→Shared→Prop}{M:Model}{A:Around}{E:Value→Shared→Prop}{s:Shared} (h:wpAny M A t Q E s) (hQ:∀ a s,Q a s→Q' a s):wpAny M A t Q' E s:=wpAny_mono h hQ fun _ _ x=>x
end L2
namespace L2
open PySem PySem.Spec PyProof.Rows
section
variable {X:Cx}
def tVar (i:Nat):TE:=fun σ H Q=>∃ v,σ[i]? = some (some v)∧Q v H
def tC (v:V):TE:=fun _ H Q=>Q v H
theorem pe_var {i:Nat}{x:Str}{pos:Pos} (hN:X.N[i]? = some x) (hv:Vis X.env.scope x) (hd:(x == ("__debug__" : Str))=false:=by decide) (hcd:(x == ("__classdict__" : Str))=false:=by decide):PE X (.Name x pos) (tVar i):=by
 intro pins s σ H Q I h
 obtain ⟨v,e,h⟩:=h
 obtain ⟨m,hn,hl⟩:=I.loc
 obtain ⟨u,r,l⟩:=hl i x v hN e hv
 have fin:EP X pins σ Q u s:=⟨v,H,I,r,h⟩
 rcases l with ⟨hk,hm⟩ | ⟨hk,c,hc,hcell⟩
 ·exact wpAny_Name (wpAny_loadName_local I.ok.kind hk hn hm fin) hd
 ·rcases hk with hk | hk
  ·exact wpAny_Name (wpAny_loadName_cell I.ok.kind hk hc hcell fin) hd
  ·exact wpAny_Name (wpAny_loadName_free I.ok.kind hk hc hcell fin hcd) hd
theorem pe_int {i j pos}:PE X (.Constant (.int i) j pos) (tC (.int i)):=fun _ _ _ H _ I h=>wpAny_Constant_int ⟨.int i,H,I.tok _,⟨_,rfl⟩,h⟩
theorem pe_bl {b j pos}:PE X (.Constant (.bool b) j pos) (tC (.bl b)):=fun _ _ _ H _ I h=>Constant_bool ⟨.bl b,H,I,rfl,h⟩
theorem pe_non {j pos}:PE X (.Constant .none j pos) (tC .non):=fun _ _ _ H _ I h=>Constant_none ⟨.non,H,I,rfl,h⟩
theorem pe_str {x j pos}:PE X (.Constant (.str x) j pos) (tC (.str x)):=fun _ _ _ H _ I h=>Calls.Constant_str ⟨.str x,H,I.tok _,⟨_,rfl⟩,h⟩
def Gl (X:Cx) (x:Str):Prop:=X.env.kindOf x=some .globalImplicit
theorem ld_glob {E:Value→Shared→Prop}{pins:List (Addr×Obj)}{s:Shared}{σ:St}{H:Hp}{x:Str}{u:Value}{pos:Pos}{Q:Value→Shared→Prop} (I:Inv X pins σ H s) (hg:Gl X x) (hm:X.mg x=some u) (h:Q u s)
  (hd:(x == ("__debug__" : Str))=false:=by decide):wpAny (model X.prog X.w) X.A (eval (.Name x pos) X.env) Q E s:=
 Calls.Name_function_global I.ok.kind hg (Calls.loadGlobal_global (by rw [I.ok.glob];exact I.mod.glob.keeps I.bk) hm h) hd
theorem ld_blt {E:Value→Shared→Prop}{pins:List (Addr×Obj)}{s:Shared}{σ:St}{H:Hp}{x:Str}{u:Value}{pos:Pos}{Q:Value→Shared→Prop} (I:Inv X pins σ H s) (hg:Gl X x) (hm:X.mg x=none) (hv:bootBuiltins x=some u) (h:Q u s)
  (hn:x ≠ "__name__" :=by decide) (hd:(x == ("__debug__" : Str))=false:=by decide):wpAny (model X.prog X.w) X.A (eval (.Name x pos) X.env) Q E s:=by
 obtain ⟨mb,h1,h2⟩:=I.mod.blt
 exact Calls.Name_function_global I.ok.kind hg (Calls.loadGlobal_builtin (by rw [I.ok.glob];exact I.mod.glob.keeps I.bk) hm (by rw [I.ok.blt];exact h1.keeps I.bk) ((h2 x hn).trans hv) h) hd
theorem pe_glob {x:Str}{v:V}{u:Value}{pos:Pos} (hg:Gl X x) (hm:X.mg x=some u) (r:RelV v u) (hd:(x == ("__debug__" : Str))=false:=by decide):PE X (.Name x pos) (tC v):=
 fun _ _ _ H _ I h=>ld_glob I hg hm ⟨v,H,I,r,h⟩ hd
theorem pe_bltn {x:Str}{v:V}{u:Value}{pos:Pos} (hg:Gl X x) (hm:X.mg x=none) (hv:bootBuiltins x=some u) (r:RelV v u) (hn:x ≠ "__name__" :=by decide) (hd:(x == ("__debug__" : Str))=false:=by decide):PE X (.Name x pos) (tC v):=
 fun _ _ _ H _ I h=>ld_blt I hg hm hv ⟨v,H,I,r,h⟩ hn hd
variable {a b:Expr}{ta tb:TE}{pos:Pos}
def PC (X:Cx) (op:CmpOp) (a b:Expr) (t:TE):Prop:=
 ∀ (pins:List (Addr×Obj)) (s:Shared) (σ:St) (H:Hp) (Q:VK),Inv X pins σ H s→t σ H Q →
  wpAny (model X.prog X.w) X.A (eval a X.env) (fun v s₁=>wpAny (model X.prog X.w) X.A (eval b X.env) (fun u s₂=>wpAny (model X.prog X.w) X.A (compareOp op v u) (EP X pins σ Q) X.xe s₂) X.xe s₁) X.xe s
theorem nobehind (b:Expr) {op:CmpOp} (h:op ≠ .In) (h2:op ≠ .NotIn):behindInMarks op b=false:=by
 have e1:(op == CmpOp.In)=false:=by cases op <;> first | rfl | exact absurd rfl h
 have e2:(op == CmpOp.NotIn)=false:=by cases op <;> first | rfl | exact absurd rfl h2
 cases b <;> simp [behindInMarks,e1,e2]
def tB (t:TE):TT:=fun σ H Q=>t σ H fun x H1=>∃ c,x = .bl c∧Q c H1
theorem pt_cmp {op:CmpOp}{t:TE} (h:PC X op a b t) (h1:behindInMarks op b=false:=by first | exact nobehind _ (by decide) (by decide) | rfl):PT X (.Compare a [op] [b] pos) (tB t):=by
 intro pins s σ H Q I hw
 refine wpAny_isTrue_Compare1 (thn (h pins s σ H _ I hw) fun v s1 h1=>thn h1 fun u s2 h2=>thn h2 fun c s3 ⟨x,H1,I1,r1,q1⟩=>?_) h1
 obtain ⟨d,rfl,q⟩:=q1
 cases r1
 exact wpAny_truthy_bool ⟨H1,I1,q⟩
theorem pt_val {e:Expr}{t:TE} (h:PE X e t) (he:∀ whole,isTrue e X.env whole=(do let v ← whole;standAt e.pos;holding [v] (truthy v)):=by intro _;rfl):PT X e (tB t):=by
 intro pins s σ H Q I hw
 refine isTrue_plain (thn (h pins s σ H _ I hw) fun v s1 ⟨x,H1,I1,r1,q1⟩=>?_) (he _)
 obtain ⟨d,rfl,q⟩:=q1
 cases r1
 exact wpAny_truthy_bool ⟨H1,I1,q⟩
variable {tA tB':TT}{rest:List Expr}
def tAnd (t u:TT):TT:=fun σ H Q=>t σ H fun c H1=>if c=true then u σ H1 Q else Q false H1
def tOr (t u:TT):TT:=fun σ H Q=>t σ H fun c H1=>if c=true then Q true H1 else u σ H1 Q
def tNot (t:TT):TT:=fun σ H Q=>t σ H fun c H1=>Q (!c) H1
theorem pw_and1 (ha:PT X a tA):PW X (.BoolOp .And [a] pos) tA:=by
 intro wh pins s σ H Q I h
 refine isTrue_and (thn (ha pins s σ H Q I h) fun c s1 e=>?_)
 cases c with
 | true=>exact isTrue_and_nil e
 | false=>exact e
theorem pw_or1 (ha:PT X a tA):PW X (.BoolOp .Or [a] pos) tA:=by
 intro wh pins s σ H Q I h
 refine isTrue_or (thn (ha pins s σ H Q I h) fun c s1 e=>?_)
 cases c with
 | false=>exact isTrue_or_nil e
 | true=>exact e
theorem pw_and (ha:PT X a tA) (hb:PW X (.BoolOp .And (b::rest) pos) tB'):PW X (.BoolOp .And (a::b::rest) pos) (tAnd tA tB'):=by
 intro wh pins s σ H Q I h
 refine isTrue_and (thn (ha pins s σ H _ I h) fun c s1 ⟨H1,I1,q1⟩=>?_)
 cases c with
 | true=>exact hb wh pins s1 σ H1 Q I1 q1
 | false=>exact ⟨H1,I1,q1⟩
theorem pw_or (ha:PT X a tA) (hb:PW X (.BoolOp .Or (b::rest) pos) tB'):PW X (.BoolOp .Or (a::b::rest) pos) (tOr tA tB'):=by
 intro wh pins s σ H Q I h
 refine isTrue_or (thn (ha pins s σ H _ I h) fun c s1 ⟨H1,I1,q1⟩=>?_)
 cases c with
 | true=>exact ⟨H1,I1,q1⟩
 | false=>exact hb wh pins s1 σ H1 Q I1 q1
theorem pt_not (ha:PT X a tA):PT X (.UnaryOp .Not a pos) (tNot tA):=by
 intro pins s σ H Q I h
 exact isTrue_not (ha pins s σ H (fun c H1=>Q (!c) H1) I h)
def tAndV (ta tb:TE):TE:=fun σ H Q=>ta σ H fun x H1=>∃ c,x = .bl c∧if c=true then tb σ H1 Q else Q (.bl false) H1
def tOrV (ta tb:TE):TE:=fun σ H Q=>ta σ H fun x H1=>∃ c,x = .bl c∧if c=true then Q (.bl true) H1 else tb σ H1 Q
theorem pe_one {op}{t:TE} (h:PE X a t):PE X (.BoolOp op [a] pos) t:=fun pins s σ H Q I hw=>BoolOp_one (h pins s σ H Q I hw)
theorem pe_and (ha:PE X a ta) (hb:PE X (.BoolOp .And (b::rest) pos) tb):PE X (.BoolOp .And (a::b::rest) pos) (tAndV ta tb):=by
 intro pins s σ H Q I h
 refine BoolOp_and (thn (ha pins s σ H _ I h) fun v s1 ⟨x,H1,I1,r1,q1⟩=>?_)
 obtain ⟨c,rfl,q1⟩:=q1
 cases r1
 refine wpAny_truthy_bool ?_
 cases c with
 | true=>exact hb pins s1 σ H1 Q I1 q1
 | false=>exact ⟨.bl false,H1,I1,rfl,q1⟩
theorem pe_or (ha:PE X a ta) (hb:PE X (.BoolOp .Or (b::rest) pos) tb):PE X (.BoolOp .Or (a::b::rest) pos) (tOrV ta tb):=by
 intro pins s σ H Q I h
 refine BoolOp_or (thn (ha pins s σ H _ I h) fun v s1 ⟨x,H1,I1,r1,q1⟩=>?_)
 obtain ⟨c,rfl,q1⟩:=q1
 cases r1
 refine wpAny_truthy_bool ?_
 cases c with
 | false=>exact hb pins s1 σ H1 Q I1 q1
 | true=>exact ⟨.bl true,H1,I1,rfl,q1⟩
def tIf (t:TT) (ta tb:TE):TE:=fun σ H Q=>t σ H fun c H1=>if c=true then ta σ H1 Q else tb σ H1 Q
theorem pe_ifExp {c:Expr} (hc:PT X c tA) (ha:PE X a ta) (hb:PE X b tb):PE X (.IfExp c a b pos) (tIf tA ta tb):=by
 intro pins s σ H Q I h
 refine wpAny_IfExp (thn (hc pins s σ H _ I h) fun d s1 ⟨H1,I1,q1⟩=>?_)
 cases d with
 | true=>exact ha pins s1 σ H1 Q I1 q1
 | false=>exact hb pins s1 σ H1 Q I1 q1
end
end L2
namespace L2
open PySem PySem.Spec PyProof.Rows
def SqL (K:PySem.W.Frag) (H:Hp) (a:Addr) (xs:List V):Prop:=
 Rd H a (.lst xs) ∨
  ∃ (o:Obj) (its:Array Value) (n:Nat),K.lookup a=some o∧o.cls = .type "list" ∧ o.dict=none∧o.data = .seq its n∧its.size≤sizeLine∧Vals xs its.toList
def SqT (K:PySem.W.Frag) (H:Hp) (a:Addr) (xs:List V):Prop:=
 Rd H a (.tup xs) ∨
  ∃ (o:Obj) (its:Array Value) (n:Nat),K.lookup a=some o∧o.cls = .type "tuple" ∧ o.data = .seq its n∧its.size≤sizeLine∧Vals xs its.toList
def absV:Value→Option V
 | .none=>some .non
 | .bool b=>some (.bl b)
 | .int i _=>some (.int i)
 | .str x _=>some (.str x)
 | .bytes b _=>some (.byt b)
 | .float b _=>some (.flt b)
 | .ref a=>some (.ref a)
 | .type n=>some (.ty n)
 | _=>none
theorem RelV.abs {x:V}{u:Value} (r:RelV x u):absV u=some x:=by
 cases x with
 | non=>cases r;rfl
 | bl _=>cases r;rfl
 | int _=>obtain ⟨t,rfl⟩:=r;rfl
 | str _=>obtain ⟨t,rfl⟩:=r;rfl
 | byt _=>obtain ⟨t,rfl⟩:=r;rfl
 | flt _=>obtain ⟨t,rfl⟩:=r;rfl
 | ref _=>cases r;rfl
 | ty _=>cases r;rfl
theorem RelV.inj {x y:V}{u:Value} (r:RelV x u) (q:RelV y u):x=y:=Option.some.inj (r.abs.symm.trans q.abs)
theorem Vals.inj:∀ {xs ys:List V}{us:List Value},Vals xs us→Vals ys us→xs=ys
 | _,_,_,.nil,.nil=>rfl
 | _,_,_,.cons r t,.cons r' t'=>by rw [r.inj r',Vals.inj t t']
section
variable {X:Cx}{pins:List (Addr×Obj)}{σ:St}{H:Hp}{s:Shared}{a:Addr}{xs ys:List V}
theorem SqL.of {K:PySem.W.Frag} (h:H a=some (.lst xs)):SqL K H a xs:=.inl (.inl h)
theorem SqT.of {K:PySem.W.Frag} (h:H a=some (.tup xs)):SqT K H a xs:=.inl (.inl h)
theorem Inv.list (I:Inv X pins σ H s) (h:SqL X.K H a xs):∃ its:List Value,Vals xs its∧PlainL s.heap a its.toArray∧xs.length≤sizeLine:=by
 rcases h with h | ⟨o,its,n,hk,hc,hd,hs,hz,r⟩
 ·obtain ⟨z,its,n,r,e⟩:=h.ok I.hok
  exact ⟨its,r,⟨_,n,e,rfl,rfl,rfl⟩,z⟩
 ·refine ⟨its.toList,r,⟨o,n,I.kIn a o hk,hc,hd,by simpa using hs⟩,?_⟩
  have e:=r.length
  simp only [Array.length_toList] at e
  lia
theorem Inv.tuple (I:Inv X pins σ H s) (h:SqT X.K H a xs):∃ its:List Value,Vals xs its∧IsTup s.heap a its.toArray∧xs.length≤sizeLine:=by
 rcases h with h | ⟨o,its,n,hk,hc,hs,hz,r⟩
 ·obtain ⟨z,its,r,p⟩:=h.ok I.hok
  exact ⟨its,r,p,z⟩
 ·refine ⟨its.toList,r,⟨o,I.kIn a o hk,hc,n,by simpa using hs⟩,?_⟩
  have e:=r.length
  simp only [Array.length_toList] at e
  lia
theorem Inv.list_inj (I:Inv X pins σ H s) (h:SqL X.K H a xs) (h':SqL X.K H a ys):xs=ys:=by
 obtain ⟨its,r,⟨o,n,e,_,_,d⟩,_⟩:=I.list h
 obtain ⟨its',r',⟨o',n',e',_,_,d'⟩,_⟩:=I.list h'
 rw [e] at e';cases e'
 rw [d] at d'
 injection d' with d1 _
 have:its=its':=by simpa using congrArg Array.toList d1
 subst this
 exact r.inj r'
theorem Inv.tuple_inj (I:Inv X pins σ H s) (h:SqT X.K H a xs) (h':SqT X.K H a ys):xs=ys:=by
 obtain ⟨its,r,⟨o,e,_,n,d⟩,_⟩:=I.tuple h
 obtain ⟨its',r',⟨o',e',_,n',d'⟩,_⟩:=I.tuple h'
 rw [e] at e';cases e'
 rw [d] at d'
 injection d' with d1 _
 have:its=its':=by simpa using congrArg Array.toList d1
 subst this
 exact r.inj r'
end
abbrev Cx.wish (X:Cx) (E:Value→Shared→Prop):Cx:={ X with xe:=E }
abbrev Cx.nox (X:Cx):Cx:=X.wish fun _ _=>False
theorem Cx.Ok.wish {X:Cx} (ok:X.Ok) (E:Value→Shared→Prop):(X.wish E).Ok:=
 ⟨ok.mod,ok.kind,ok.glob,ok.blt,ok.above,ok.inj,ok.has,ok.cab,ok.hd,ok.frames,ok.stk,ok.exf,ok.bs,ok.bsz,ok.noex,ok.exfs,ok.funs,ok.frf⟩
theorem Cx.Ok.unwish {X:Cx}{E:Value→Shared→Prop} (ok:(X.wish E).Ok):X.Ok:=
 ⟨ok.mod,ok.kind,ok.glob,ok.blt,ok.above,ok.inj,ok.has,ok.cab,ok.hd,ok.frames,ok.stk,ok.exf,ok.bs,ok.bsz,ok.noex,ok.exfs,ok.funs,ok.frf⟩
section
variable {X:Cx}{pins:List (Addr×Obj)}{σ:St}{H:Hp}{s:Shared}{E:Value→Shared→Prop}
theorem Inv.wish (I:Inv X pins σ H s) (E:Value→Shared→Prop):Inv (X.wish E) pins σ H s:=⟨I.ok.wish E,I.os,I.bare,I.base,I.loc,I.cell,I.free,I.freeC,I.pin,I.hok,I.len⟩
theorem Inv.unwish (I:Inv (X.wish E) pins σ H s):Inv X pins σ H s:=⟨I.ok.unwish,I.os,I.bare,I.base,I.loc,I.cell,I.free,I.freeC,I.pin,I.hok,I.len⟩
theorem SP.unwish {D:Ends}{f:Flow}{s':Shared} (h:SP (X.wish E) pins D f s'):SP X pins D f s':=by
 cases f with
 | next=>obtain ⟨σ',H',I,q⟩:=h;exact ⟨σ',H',I.unwish,q⟩
 | brk=>obtain ⟨σ',H',I,q⟩:=h;exact ⟨σ',H',I.unwish,q⟩
 | cont=>obtain ⟨σ',H',I,q⟩:=h;exact ⟨σ',H',I.unwish,q⟩
 | ret u=>obtain ⟨v,σ',H',I,r,q⟩:=h;exact ⟨v,σ',H',I.unwish,r,q⟩
theorem PSs.nox {st:List Stmt}{t:TS} (h:PSs X.nox st t):PSs X st t:=fun pins s σ H D I hw=>
 wpAny_mono (h pins s σ H D (I.wish _) hw) (fun _ _ q=>q.unwish) fun _ _ z=>False.elim z
end
section
variable {X:Cx}{st:Stmt}{rest:List Stmt}{t u:TS}{e:Expr}{te:TE}{pos:Pos}
def tNext:TS:=fun D σ H=>D.nx σ H
def tSeq (t u:TS):TS:=fun D σ H=>t { D with nx:=u D } σ H
theorem pss_nil:PSs X [] tNext:=fun _ _ σ H _ I h=>wpAny_execs_nil ⟨σ,H,I,h⟩
theorem pss_cons (h1:PS X st t) (h2:PSs X rest u):PSs X (st::rest) (tSeq t u):=by
 intro pins s σ H D I h
 refine wpAny_execs_cons (thn (h1 pins s σ H { D with nx:=u D } I h) fun f s1 q=>?_)
 cases f with
 | next=>
  obtain ⟨σ',H',I',q⟩:=q
  exact h2 pins s1 σ' H' D I' q
 | ret v=>exact q
 | brk=>exact q
 | cont=>exact q
theorem pss_one (h1:PS X st t):PSs X [st] t:=by
 intro pins s σ H D I h
 refine wpAny_execs_cons (thn (h1 pins s σ H D I h) fun f s1 q=>?_)
 cases f with
 | next=>exact wpAny_execs_nil q
 | ret v=>exact q
 | brk=>exact q
 | cont=>exact q
theorem Inv.quiet {pins:List (Addr×Obj)}{σ:St}{H:Hp}{s:Shared} (I:Inv X pins σ H s):interactive X.env=false:=by simp [interactive,I.ok.kind]
def tDrop (te:TE):TS:=fun D σ H=>te σ H fun _ H1=>D.nx σ H1
theorem ps_expr (he:PE X e te) (hs:swapsWith e none pos.line X.env=pure false:=by rfl):PS X (.Expr e pos) (tDrop te):=by
 intro pins s σ H D I h
 exact wpAny_Expr_any (thn (he pins s σ H _ I h) fun v s1 ⟨x,H1,I1,r1,q1⟩=>⟨σ,H1,I1,q1⟩) I.quiet hs
def tRet (te:TE):TS:=fun D σ H=>te σ H D.rt
theorem ps_ret (he:PE X e te):PS X (.Return (some e) pos) (tRet te):=by
 intro pins s σ H D I h
 exact wpAny_Return_some (thn (he pins s σ H _ I h) fun v s1 ⟨x,H1,I1,r1,q1⟩=>⟨x,σ,H1,I1,r1,q1⟩)
def tIfS (c:TT) (t u:TS):TS:=fun D σ H=>c σ H fun b H1=>if b=true then t D σ H1 else u D σ H1
theorem ps_if {c:Expr}{a b:List Stmt}{tc:TT} (hc:PT X c tc) (ha:PSs X a t) (hb:PSs X b u):PS X (.If c a b pos) (tIfS tc t u):=by
 intro pins s σ H D I h
 refine wpAny_If (thn (hc pins s σ H _ I h) fun d s1 ⟨H1,I1,q1⟩=>?_)
 cases d with
 | true=>exact ha pins s1 σ H1 D I1 q1
 | false=>exact hb pins s1 σ H1 D I1 q1
def tNever:TS:=fun _ _ _=>False
theorem ps_never:PS X st tNever:=fun _ _ _ _ _ _ h=>h.elim
end
abbrev TG:=V→St→Hp→(St→Hp→Prop)→Prop
abbrev TGs:=List V→St→Hp→(St→Hp→Prop)→Prop
def PG (X:Cx) (target:Expr) (t:TG):Prop:=
 ∀ (pins:List (Addr×Obj)) (s:Shared) (σ:St) (H:Hp) (v:V) (u:Value) (Q:St→Hp→Prop),Inv X pins σ H s→RelV v u→t v σ H Q →
  wpAny (model X.prog X.w) X.A (assign target X.env u) (fun _ s'=>∃ σ' H',Inv X pins σ' H' s'∧Q σ' H') X.xe s
def PGs (X:Cx) (ts:List Expr) (t:TGs):Prop:=
 ∀ (pins:List (Addr×Obj)) (s:Shared) (σ:St) (H:Hp) (vs:List V) (us:List Value) (Q:St→Hp→Prop),Inv X pins σ H s→Vals vs us→t vs σ H Q →
  wpAny (model X.prog X.w) X.A (assignInOrder ((assignEach ts X.env).map (·.2)) us) (fun _ s'=>∃ σ' H',Inv X pins σ' H' s'∧Q σ' H') X.xe s
abbrev TSet:=V→V→V→Hp→(Hp→Prop)→Prop
def PSet (X:Cx) (t:TSet):Prop:=
 ∀ (pins:List (Addr×Obj)) (s:Shared) (σ:St) (H:Hp) (o i v:V) (ov iv u:Value) (Q:Hp→Prop),Inv X pins σ H s→RelV o ov→RelV i iv→RelV v u→t o i v H Q →
  wpAny (model X.prog X.w) X.A (setItem ov iv u) (fun _ s'=>∃ H',Inv X pins σ H' s'∧Q H') X.xe s
section
variable {X:Cx}{pos:Pos}
def gName (i:Nat):TG:=fun v σ H Q=>Q (σ.set i (some v)) H
theorem pg_name {i:Nat}{x:Str} (hN:X.N.Nodup) (hi:X.N[i]? = some x) (hx:Loc X.env.scope x) (hf:X.fn x=true∨X.env.scope.names.lookup x=some .local:=by first | exact .inl rfl | exact .inr rfl | assumption):PG X (.Name x pos) (gName i):=by
 intro pins s σ H v u Q I r h
 exact wpAny_assign_Name (store_ok I hN hi hx r (fun s' I'=>⟨_,H,I',h⟩) hf)
def gNil:TGs:=fun vs σ H Q=>vs=[]∧Q σ H
def gCons (t:TG) (u:TGs):TGs:=fun vs σ H Q=>∃ v r,vs=v::r∧t v σ H fun σ' H'=>u r σ' H' Q
theorem pgs_nil:PGs X [] gNil:=by
 intro pins s σ H vs us Q I r h
 obtain ⟨e,h⟩:=h
 subst e
 cases r
 exact assignInOrder_nil ⟨σ,H,I,h⟩
theorem pgs_cons {e:Expr}{es:List Expr}{t:TG}{u:TGs} (h1:PG X e t) (h2:PGs X es u)
  (hs:(assignEach (e::es) X.env).map (·.2)=assign e X.env::(assignEach es X.env).map (·.2):=by rfl):PGs X (e::es) (gCons t u):=by
 intro pins s σ H vs us Q I r h
 obtain ⟨v,vr,e1,h⟩:=h
 subst e1
 cases r with
 | cons r rr=>
  rw [hs]
  refine assignInOrder_cons (thn (h1 pins s σ H _ _ _ I r h) fun _ s1 ⟨σ1,H1,I1,q1⟩=>?_)
  exact h2 pins s1 σ1 H1 _ _ Q I1 rr q1
def gTup (K:PySem.W.Frag) (n:Nat) (t:TGs):TG:=fun v σ H Q=>∃ a xs,v = .ref a∧SqT K H a xs∧xs.length=n∧t xs σ H Q
theorem pg_tup {es:List Expr}{k:Nat}{t:TGs}{n:Nat} (hc:X.calm=true) (h:PGs X es t)
  (hn:(assignEach es X.env).length=n:=by rfl) (hst:(assignEach es X.env).findIdx? (·.1)=none:=by rfl):PG X (.Tuple es k pos) (gTup X.K n t):=by
 intro pins s σ H v u Q I r hw
 obtain ⟨a,xs,e1,hq,hl,hw⟩:=hw
 subst e1
 cases r
 obtain ⟨its,rv,ht,hz⟩:=I.tuple hq
 refine assign_Tuple_tuple (I.ok.hd hc) ht (by simp [hn,← hl,rv.length]) hst fun h' hx=>?_
 have I1:Inv X pins σ H { s with heap:=h' }:=I.kept (t':=s.toks) fun b o e=>hx b o (Nat.ne_of_lt (Heap.lt_size e)) e
 exact h pins _ σ H xs _ Q I1 (by simpa using rv) hw
def gSub (to ti:TE) (t:TSet):TG:=fun v σ H Q=>to σ H fun o H1=>ti σ H1 fun i H2=>t o i v H2 fun H3=>Q σ H3
theorem pg_sub {o i:Expr}{to ti:TE}{t:TSet} (ho:PE X o to) (hi:PE X i ti) (hs:PSet X t)
  (ha:∀ v,assign (.Subscript o i pos) X.env v=(do
   let ov ← holding [v] (eval o X.env)
   let iv ← holding [v,ov] (eval i X.env)
   standAt pos
   holding [v,ov,iv] (setItem ov iv v)
   release [v,ov,iv] []):=by intro _;rfl):PG X (.Subscript o i pos) (gSub to ti t):=by
 intro pins s σ H v u Q I r h
 rw [ha]
 refine wpAny_bind (wpAny_holding (thn (ho pins s σ H _ I h) fun ov s1 ⟨x,H1,I1,r1,q1⟩=>?_))
 refine wpAny_bind (wpAny_holding (thn (hi pins s1 σ H1 _ I1 q1) fun iv s2 ⟨y,H2,I2,r2,q2⟩=>?_))
 refine wpAny_bind (wpAny_standAt (wpAny_bind (wpAny_holding (thn (hs pins s2 σ H2 x y v ov iv u _ I2 r1 r2 r q2) fun _ s3 ⟨H3,I3,q3⟩=>?_))))
 exact wpAny_release ⟨σ,H3,I3,q3⟩
def tAsg (te:TE) (g:TG):TS:=fun D σ H=>te σ H fun x H1=>g x σ H1 D.nx
theorem ps_asg {tg e:Expr}{te:TE}{g:TG} (he:PE X e te) (hg:PG X tg g) (hs:swapsWithSole [tg] e pos.line X.env=pure false:=by rfl) (hw:swappedStores [tg] e X.env=pure none:=by rfl)
  (h1:(assignEach [tg] X.env).map (·.2)=[assign tg X.env]:=by rfl):PS X (.Assign [tg] e pos) (tAsg te g):=by
 intro pins s σ H D I h
 refine wpAny_Assign_stores (thn (he pins s σ H _ I h) fun v s1 ⟨x,H1,I1,r1,q1⟩=>?_) hs hw
 rw [h1]
 exact thn (hg pins s1 σ H1 x v _ I1 r1 q1) fun _ s2 q=>q
theorem ps_set {i:Nat}{x:Str}{e:Expr}{te:TE}{pos':Pos} (hN:X.N.Nodup) (hi:X.N[i]? = some x) (hx:Loc X.env.scope x) (he:PE X e te) (hs:swapsWith e (some (.Name x pos')) pos.line X.env=pure false:=by rfl) (hf:X.fn x=true∨X.env.scope.names.lookup x=some .local:=by first | exact .inl rfl | exact .inr rfl | assumption) :
  PS X (.Assign [.Name x pos'] e pos) (tAsg te (gName i)):=by
 intro pins s σ H D I h
 refine wpAny_Assign_Name (thn (he pins s σ H _ I h) fun v s1 ⟨y,H1,I1,r1,q1⟩=>?_) hs
 exact store_ok I1 hN hi hx r1 (fun s2 I2=>⟨_,H1,I2,q1⟩) hf
end
section
variable {X:Cx}{pos:Pos}
def tWhile (c:TT) (tb:TS):TS:=fun D σ H=>∃ W:Nat→St→Hp→Prop,(∃ m,W m σ H)∧∀ m σ H,W m σ H →
 c σ H fun b H1=>if b=true then ∃ N:St→Hp→Prop,(∀ σ' H',N σ' H'→∃ m',m' < m∧W m' σ' H')∧tb { D with nx:=N,ct:=N,bk:=D.nx } σ H1 else D.nx σ H1
theorem ps_while {c:Expr}{body:List Stmt}{tc:TT}{tb:TS} (hp:PassesOwn (model X.prog X.w) X.A X.env X.xe) (hc:PT X c tc) (hb:PSs X body tb):PS X (.While c body [] pos) (tWhile tc tb):=by
 intro pins s σ H D I h
 obtain ⟨W,⟨m0,w0⟩,turn⟩:=h
 refine wpAny_While (codeAny_whileLoop (fun n s'=>∃ σ' H',Inv X pins σ' H' s'∧W n σ' H') ?_ m0 ⟨σ,H,I,w0⟩)
 rintro n s1 ⟨σ1,H1,I1,w1⟩
 refine wpAny_passesOwn hp (thn (hc pins s1 σ1 H1 _ I1 (turn n σ1 H1 w1)) fun b s2 ⟨H2,I2,q2⟩=>?_)
 cases b with
 | true=>
  obtain ⟨N,hN,q2⟩:=q2
  rw [if_pos rfl]
  refine wpAny_passesOwn hp (thn (hb pins s2 σ1 H2 _ I2 q2) fun f s3 q3=>?_)
  cases f with
  | next=>
   obtain ⟨σ3,H3,I3,n3⟩:=q3
   obtain ⟨m',hm,w3⟩:=hN σ3 H3 n3
   exact ⟨m',hm,σ3,H3,I3,w3⟩
  | cont=>
   obtain ⟨σ3,H3,I3,n3⟩:=q3
   obtain ⟨m',hm,w3⟩:=hN σ3 H3 n3
   exact ⟨m',hm,σ3,H3,I3,w3⟩
  | brk=>exact q3
  | ret v=>exact q3
 | false=>
  rw [if_neg Bool.false_ne_true]
  exact wpAny_execs_nil ⟨σ1,H2,I2,q2⟩
end
structure It where
 go:Nat→Hp→Prop
 yld:Nat→Hp→V→Hp→Prop
 stop:Nat→Hp→Prop
def FpOk (X:Cx) (pins:List (Addr×Obj)) (H:Hp) (b:Addr):Prop:=
 H b=none∧b≠X.env.locals∧b∉X.fs∧(b∈X.ex∨X.s₀.heap.objs.size≤b)∧(∀ x c,X.env.cells.lookup x=some c→c≠b)∧∀ p∈X.pn++pins,p.1≠b
theorem Inv.fpOk {X:Cx}{pins:List (Addr×Obj)}{σ:St}{H H':Hp}{s:Shared}{b:Addr} (I:Inv X pins σ H s) (hb:s.heap.objs.size≤b) (hn:H' b=none):FpOk X pins H' b:=by
 refine ⟨hn,Nat.ne_of_gt (Nat.lt_of_lt_of_le I.lt hb),I.nofs hb,.inr (Nat.le_trans I.sz hb),fun x c e z=>?_,fun p hp z=>?_⟩
 ·obtain ⟨v,q⟩:=I.cell x c e
  exact absurd (Nat.lt_of_lt_of_le q.lt (by rw [z];exact hb)) (Nat.lt_irrefl _)
 ·exact absurd (Nat.lt_of_lt_of_le (Heap.lt_size (I.pin p hp).1) (by rw [z];exact hb)) (Nat.lt_irrefl _)
structure Turn (P:Program) (w:World) (K:PySem.W.Frag) (tg:Expr) (J:It) (fp:List Addr) (it:Addr) (tn:Nat→Heap→Prop):Prop where
 mem:it∈fp
 obj:∀ i h,tn i h→∀ b∈fp,∃ o,h.get? b=some o∧∀ v,o.data ≠ .cell v
 keep:∀ i h h',tn i h→(∀ b∈fp,∀ o,h.get? b=some o→h'.get? b=some o)→tn i h'
 item:∀ (X:Cx),X.prog=P→X.w=w→X.K=K→X.calm=true→∀ (i:Nat) (pins:List (Addr×Obj)) (s:Shared) (σ:St) (H:Hp) (E:Value→Shared→Prop),Inv X pins σ H s→(∀ b∈fp,FpOk X pins H b)→tn i s.heap→J.go i H →
  wpAny (model P w) X.A (pyNext (.ref it)) (fun r s1=>∃ u,r=some u ∧
   wpAny (model P w) X.A (letOwnedTupleGo tg (.ref it) u) (fun _ s2=>∃ x H',Inv X pins σ H' s2∧RelV x u∧J.yld i H x H'∧tn (i+1) s2.heap∧∀ b∈fp,H' b=none) E s1) E s
 done:∀ (X:Cx),X.prog=P→X.w=w→X.K=K→X.calm=true→∀ (i:Nat) (pins:List (Addr×Obj)) (s:Shared) (σ:St) (H:Hp) (E:Value→Shared→Prop),Inv X pins σ H s→(∀ b∈fp,FpOk X pins H b)→tn i s.heap→J.stop i H →
  wpAny (model P w) X.A (pyNext (.ref it)) (fun r s1=>r=none∧Inv X pins σ H s1) E s
 self:∀ (A:Around) (i:Nat) (s:Shared) (Q:Value→Shared→Prop) (E:Value→Shared→Prop),tn i s.heap→Q (.ref it) s→wpAny (model P w) A (pyIter (.ref it)) Q E s
abbrev TI:=St→Hp→(It→Hp→Prop)→Prop
def PIE (X:Cx) (pins:List (Addr×Obj)) (σ:St) (tg:Expr) (R:It→Hp→Prop) (itv:Value) (s2:Shared):Prop:=
 ∃ (it:Addr) (fp:List Addr) (tn:Nat→Heap→Prop) (J:It) (H':Hp),itv = .ref it∧Inv X pins σ H' s2∧Turn X.prog X.w X.K tg J fp it tn∧tn 0 s2.heap∧(∀ b∈fp,FpOk X pins H' b)∧R J H'
def PI (X:Cx) (tg iter:Expr) (wi:TI):Prop:=
 ∀ (pins:List (Addr×Obj)) (s:Shared) (σ:St) (H:Hp) (R:It→Hp→Prop),Inv X pins σ H s→wi σ H R →
  wpAny (model X.prog X.w) X.A (eval iter X.env) (fun v s1=>wpAny (model X.prog X.w) X.A (pyIter v) (PIE X pins σ tg R) X.xe s1) X.xe s
theorem go_of {M:Model}{A:Around}{E:Value→Shared→Prop}{s:Shared}{tg:Expr}{it:Addr}{u:Value}{o:Obj}{n:String}{vs:Array Value}{Q:Unit→Shared→Prop} (ho:s.heap.get? it=some o) (hc:o.cls = .type n) (hd:o.data = .fields vs)
  (hn:["enumerate", "zip", "dict_itemiterator", "dict_reverseitemiterator", "odict_iterator", "itertools.zip_longest", "itertools.pairwise"].contains n=false) (hQ:Q () s):wpAny M A (letOwnedTupleGo tg (.ref it) u) Q E s:=by
 unfold letOwnedTupleGo
 cases tg <;> first
  | exact wpAny_pure hQ
  | (cases u <;> first
    | exact wpAny_pure hQ
    | (refine wpAny_bind (wpAny_load ho ?_)
       rw [hc,hd]
       show wpAny M A (if (["enumerate", "zip", "dict_itemiterator", "dict_reverseitemiterator", "odict_iterator", "itertools.zip_longest", "itertools.pairwise"].contains n && vs[0]? == some (rawInt _))=true then _ else _) Q E s
       rw [if_neg (by intro h;rw [hn,Bool.false_and] at h;cases h)]
       exact wpAny_pure hQ))
def Itl (K:PySem.W.Frag) (a:Addr):It:=
 ⟨fun i H=>∃ xs x,SqL K H a xs∧xs[i]? = some x,fun i H x H'=>H' = H∧∀ xs,SqL K H a xs→xs[i]? = some x,fun i H=>∃ xs,SqL K H a xs∧xs.length≤i⟩
def Itt (K:PySem.W.Frag) (a:Addr):It:=
 ⟨fun i H=>∃ xs x,SqT K H a xs∧xs[i]? = some x,fun i H x H'=>H' = H∧∀ xs,SqT K H a xs→xs[i]? = some x,fun i H=>∃ xs,SqT K H a xs∧xs.length≤i⟩
def Itr (lo:Int) (n:Nat):It:=⟨fun i _=>i<n,fun i H x H'=>H' = H∧x = .int (lo+i),fun i _=>n≤i⟩
theorem turn_list {P:Program}{w:World}{K:PySem.W.Frag}{tg:Expr} (a it:Addr):Turn P w K tg (Itl K a) [it] it (fun i h=>h.IsListIter it a i) where
 mem:=by simp
 obj:=fun i h st b hb=>by
  have e:b=it:=by simpa using hb
  subst e
  obtain ⟨o,e,c,d⟩:=st
  exact ⟨o,e,fun v z=>by rw [d] at z;cases z⟩
 keep:=fun i h h' st k=>st.at fun o e=>k it (by simp) o e
 item:=by
  intro X hP hw hK hc i pins s σ H E I hf st hg
  subst hP hw hK
  obtain ⟨xs,x,hq,hx⟩:=hg
  obtain ⟨its,rv,p,hz⟩:=I.list hq
  obtain ⟨u,hu,ru⟩:=rv.get hx
  obtain ⟨f0,f1,f2,f3,f4,f5⟩:=hf it (by simp)
  refine wpAny_pyNext_list_item st p.isList (x:=u) (by simpa using hu) fun h' st' sb=>?_
  have I1:Inv X pins σ H { s with heap:=h' }:=I.turned (t':=s.toks) (fun b o hb e=>(sb.2 b hb).trans e) f0 f1 f3 f4 f5
  obtain ⟨o,e,c,d⟩:=id st'
  exact ⟨u,rfl,go_of (s:={ s with heap:=h' }) e c d (by decide) ⟨x,H,I1,ru,⟨rfl,fun ys hy=>by rw [I.list_inj hy hq];exact hx⟩,st',fun b hb=>(hf b hb).1⟩⟩
 done:=by
  intro X hP hw hK hc i pins s σ H E I hf st hg
  subst hP hw hK
  obtain ⟨xs,hq,hx⟩:=hg
  obtain ⟨its,rv,p,hz⟩:=I.list hq
  obtain ⟨f0,f1,f2,f3,f4,f5⟩:=hf it (by simp)
  have hl:=rv.length
  exact wpAny_pyNext_list_end (I.ok.hd hc) st p.isList (by simp;lia) fun h' eb=>⟨rfl,I.turned (t':=s.toks) (fun b o hb e=>eb b o hb e) f0 f1 f3 f4 f5⟩
 self:=fun _ _ _ _ _ st h=>wpAny_pyIter_listiter st h
theorem turn_tuple {P:Program}{w:World}{K:PySem.W.Frag}{tg:Expr} (a it:Addr):Turn P w K tg (Itt K a) [it] it (fun i h=>h.IsTupleIter it a i) where
 mem:=by simp
 obj:=fun i h st b hb=>by
  have e:b=it:=by simpa using hb
  subst e
  obtain ⟨o,e,c,d⟩:=st
  exact ⟨o,e,fun v z=>by rw [d] at z;cases z⟩
 keep:=fun i h h' st k=>st.at fun o e=>k it (by simp) o e
 item:=by
  intro X hP hw hK hc i pins s σ H E I hf st hg
  subst hP hw hK
  obtain ⟨xs,x,hq,hx⟩:=hg
  obtain ⟨its,rv,p,hz⟩:=I.tuple hq
  obtain ⟨u,hu,ru⟩:=rv.get hx
  obtain ⟨f0,f1,f2,f3,f4,f5⟩:=hf it (by simp)
  refine wpAny_pyNext_tuple_item st (show s.heap.IsTuple a its.toArray from p) (x:=u) (by simpa using hu) fun h' st' sb=>?_
  have I1:Inv X pins σ H { s with heap:=h' }:=I.turned (t':=s.toks) (fun b o hb e=>(sb.2 b hb).trans e) f0 f1 f3 f4 f5
  obtain ⟨o,e,c,d⟩:=id st'
  exact ⟨u,rfl,go_of (s:={ s with heap:=h' }) e c d (by decide) ⟨x,H,I1,ru,⟨rfl,fun ys hy=>by rw [I.tuple_inj hy hq];exact hx⟩,st',fun b hb=>(hf b hb).1⟩⟩
 done:=by
  intro X hP hw hK hc i pins s σ H E I hf st hg
  subst hP hw hK
  obtain ⟨xs,hq,hx⟩:=hg
  obtain ⟨its,rv,p,hz⟩:=I.tuple hq
  obtain ⟨f0,f1,f2,f3,f4,f5⟩:=hf it (by simp)
  have hl:=rv.length
  exact wpAny_pyNext_tuple_end (I.ok.hd hc) st (show s.heap.IsTuple a its.toArray from p) (by simp;lia) fun h' eb=>⟨rfl,I.turned (t':=s.toks) (fun b o hb e=>eb b o hb e) f0 f1 f3 f4 f5⟩
 self:=fun _ _ _ _ _ st h=>wpAny_pyIter_tupleiter st h
theorem turn_range {P:Program}{w:World}{K:PySem.W.Frag}{tg:Expr} (it:Addr) (lo:Int) (n:Nat):Turn P w K tg (Itr lo n) [it] it (fun i h=>IsRangeIter h it (lo+(i:Nat) * 1) ((n:Int) - (i:Nat)) 1) where
 mem:=by simp
 obj:=fun i h st b hb=>by
  have e:b=it:=by simpa using hb
  subst e
  exact ⟨_,st,fun v z=>by
   have z':Data.fields _=Data.cell v:=z
   cases z'⟩
 keep:=fun i h h' st k=>k it (by simp) _ st
 item:=by
  intro X hP hw hK hc i pins s σ H E I hf st hg
  subst hP hw hK
  obtain ⟨f0,f1,f2,f3,f4,f5⟩:=hf it (by simp)
  have W:=Walks.range (prog:=X.prog) (w:=X.w) (I.ok.hd hc) it lo 1 n
  refine W.item i s _ _ hg st fun v h' tk hv st' kk=>?_
  obtain ⟨t,rfl⟩:=hv
  have I1:Inv X pins σ H { s with heap:=h',toks:=tk }:=I.turned (fun b o hb e=>kk b o (by simpa using hb) e) f0 f1 f3 f4 f5
  refine ⟨_,rfl,go_of (s:={ s with heap:=h',toks:=tk }) (n:= "range_iterator") st' rfl rfl (by decide) ⟨.int (lo+i),H,I1,⟨t,?_⟩,⟨rfl,rfl⟩,st',fun b hb=>(hf b hb).1⟩⟩
  rw [Int.mul_one]
 done:=by
  intro X hP hw hK hc i pins s σ H E I hf st hg
  subst hP hw hK
  obtain ⟨f0,f1,f2,f3,f4,f5⟩:=hf it (by simp)
  exact wpAny_pyNext_range_end (I.ok.hd hc) st (by have:n≤i:=hg;lia) fun h' eb=>⟨rfl,I.turned (t':=s.toks) (fun b o hb e=>eb b o hb e) f0 f1 f3 f4 f5⟩
 self:=fun _ _ _ _ _ st h=>wpAny_pyIter_rangeiter st h
end L2
namespace L2
open PySem PySem.Spec PyProof.Rows
section
variable {X:Cx}{tg:Expr}
def iList (K:PySem.W.Frag) (tl:TE):TI:=fun σ H R=>tl σ H fun x H1=>∃ a,x = .ref a∧(∃ xs,SqL K H1 a xs)∧R (Itl K a) H1
def iTup (K:PySem.W.Frag) (tl:TE):TI:=fun σ H R=>tl σ H fun x H1=>∃ a,x = .ref a∧(∃ xs,SqT K H1 a xs)∧R (Itt K a) H1
theorem pi_list {l:Expr}{tl:TE} (hl:PE X l tl):PI X tg l (iList X.K tl):=by
 intro pins s σ H R I h
 refine thn (hl pins s σ H _ I h) fun v s1 ⟨x,H1,I1,r1,q1⟩=>?_
 obtain ⟨a,e,⟨xs,hq⟩,q⟩:=q1
 subst e
 cases r1
 obtain ⟨its,rv,p,hz⟩:=I1.list hq
 refine wpAny_pyIter_list p.isList ?_
 refine ⟨s1.heap.objs.size,[s1.heap.objs.size],_,_,H1,rfl,I1.kept (t':=s1.toks) fun b o e=>Heap.get?_push_of_some _ e,turn_list a _,⟨_,Heap.get?_push_size _ rfl,rfl,rfl⟩,fun b hb=>?_,q⟩
 have e:b=s1.heap.objs.size:=by simpa using hb
 subst e
 exact I1.fpOk (Nat.le_refl _) (I1.hok.fresh (Nat.le_refl _))
theorem pi_tup {l:Expr}{tl:TE} (hl:PE X l tl):PI X tg l (iTup X.K tl):=by
 intro pins s σ H R I h
 refine thn (hl pins s σ H _ I h) fun v s1 ⟨x,H1,I1,r1,q1⟩=>?_
 obtain ⟨a,e,⟨xs,hq⟩,q⟩:=q1
 subst e
 cases r1
 obtain ⟨its,rv,p,hz⟩:=I1.tuple hq
 refine wpAny_pyIter_tuple (show s1.heap.IsTuple a its.toArray from p) ?_
 refine ⟨s1.heap.objs.size,[s1.heap.objs.size],_,_,H1,rfl,I1.kept (t':=s1.toks) fun b o e=>Heap.get?_push_of_some _ e,turn_tuple a _,⟨_,Heap.get?_push_size _ rfl,rfl,rfl⟩,fun b hb=>?_,q⟩
 have e:b=s1.heap.objs.size:=by simpa using hb
 subst e
 exact I1.fpOk (Nat.le_refl _) (I1.hok.fresh (Nat.le_refl _))
theorem range_it {pins:List (Addr×Obj)}{σ:St}{H:Hp}{s:Shared}{R:It→Hp→Prop}{E:Value→Shared→Prop}{lo hi:Int}{t u v:Tok}{tk:Nat} (I:Inv X pins σ H s) (h1 : -(2 ^ 62)≤lo) (h2:lo<2 ^ 62) (h3 : -(2 ^ 62)≤hi) (h4:hi<2 ^ 62)
  (q:R (Itr lo (hi - lo).toNat) H):wpAny (model X.prog X.w) X.A (pyIter (.ref s.heap.objs.size)) (PIE X pins σ tg R) E { s with heap:=s.heap.push { cls:=.type "range",data:=.fields #[.int lo t,.int hi u,.int 1 v] },toks:=tk }:=by
 refine wpAny_pyIter_range (IsRange.new ..) (small_one h1 h2 h3 h4) ?_
 have I1:Inv X pins σ H { s with heap:=s.heap.push { cls:=.type "range",data:=.fields #[.int lo t,.int hi u,.int 1 v] },toks:=tk }:=I.kept fun b o e=>Heap.get?_push_of_some _ e
 refine ⟨(s.heap.push { cls:=.type "range",data:=.fields #[.int lo t,.int hi u,.int 1 v] }).objs.size,[(s.heap.push { cls:=.type "range",data:=.fields #[.int lo t,.int hi u,.int 1 v] }).objs.size],_,_,H,rfl,
  I1.kept (t':=tk) fun b o e=>Heap.get?_push_of_some _ e,turn_range _ lo (hi - lo).toNat,?_,fun b hb=>?_,q⟩
 ·have e1:lo+((0:Nat):Int) * 1=lo:=by simp
  have e2:(((hi - lo).toNat:Nat):Int) - ((0:Nat):Int)=Builtin.Range.rangeSize lo hi 1:=by rw [rangeSize_one];split <;> lia
  show IsRangeIter _ _ (lo+((0:Nat):Int) * 1) ((((hi - lo).toNat:Nat):Int) - ((0:Nat):Int)) 1
  rw [e1,e2]
  exact Heap.get?_push_size _ rfl
 ·have e:b=(s.heap.push { cls:=.type "range",data:=.fields #[.int lo t,.int hi u,.int 1 v] }).objs.size:=by simpa using hb
  subst e
  exact I1.fpOk (Nat.le_refl _) (I1.hok.fresh (Nat.le_refl _))
def iRng1 (ta:TA):TI:=fun σ H R=>ta σ H fun vs H1=>∃ j:Int,vs=[.int j] ∧ -(2 ^ 62)≤j∧j<2 ^ 62∧R (Itr 0 j.toNat) H1
def iRng2 (ta:TA):TI:=fun σ H R=>ta σ H fun vs H1=>∃ i j:Int,vs=[.int i,.int j]∧(-(2 ^ 62)≤i∧i<2 ^ 62 ∧ -(2 ^ 62)≤j∧j<2 ^ 62)∧R (Itr i (j - i).toNat) H1
theorem pi_range1 {a:Expr}{ta:TA}{p pos:Pos} (hg:Gl X "range") (hm:X.mg "range" = none) (ha:PA X [a] ta) (hs:starEach [a] X.env=[(false,eval a X.env)]:=by rfl):PI X tg (.Call (.Name "range" p) [a] [] pos) (iRng1 ta):=by
 intro pins s σ H R I h
 refine Call_ (ld_blt I hg hm boot_range (PyProof.Rows.callWith_type1 (thn (ha pos pins s σ H _ I h) fun us s1 ⟨vs,H1,I1,r1,q1⟩=>?_) hs rfl))
 obtain ⟨j,e,q1,q2,q⟩:=q1
 subst e
 cases r1 with
 | cons r rr=>
  cases rr
  obtain ⟨t,rfl⟩:=r
  exact call_range_1 (range_it I1 (by lia) (by lia) q1 q2 (by simpa using q))
theorem pi_range2 {a b:Expr}{ta:TA}{p pos:Pos} (hg:Gl X "range") (hm:X.mg "range" = none) (ha:PA X [a,b] ta) (hs:starEach [a,b] X.env=[(false,eval a X.env),(false,eval b X.env)]:=by rfl) (hs2:starEach [b] X.env=[(false,eval b X.env)]:=by rfl) :
  PI X tg (.Call (.Name "range" p) [a,b] [] pos) (iRng2 ta):=by
 intro pins s σ H R I h
 refine Call_ (ld_blt I hg hm boot_range (PyProof.Rows.callWith_type1 (thn (ha pos pins s σ H _ I h) fun us s1 ⟨vs,H1,I1,r1,q1⟩=>?_) (by rw [hs,hs2]) (by rw [hs2];rfl)))
 obtain ⟨i,j,e,⟨q1,q2,q3,q4⟩,q⟩:=q1
 subst e
 cases r1 with
 | cons r rr=>
  cases rr with
  | cons r' rr=>
   cases rr
   obtain ⟨t,rfl⟩:=r
   obtain ⟨t',rfl⟩:=r'
   exact call_range_2 (range_it I1 q1 q2 q3 q4 q)
def tFor (wi:TI) (g:TG) (tb:TS):TS:=fun D σ H=>wi σ H fun J H1=>∃ W:Nat→Nat→St→Hp→Prop,(∃ m,W 0 m σ H1)∧∀ i m σ H,W i m σ H →
 (J.stop i H∧D.nx σ H)∨(J.go i H∧∃ N:St→Hp→Prop,(∀ σ' H',N σ' H'→∃ m',m' < m∧W (i+1) m' σ' H')∧∀ x H',J.yld i H x H'→g x σ H' fun σ2 H2=>tb { D with nx:=N,ct:=N,bk:=D.nx } σ2 H2)
def pinsAt (fp:List Addr) (h:Heap):List (Addr×Obj):=fp.filterMap fun b=>(h.get? b).map fun o=>(b,o)
theorem mem_pinsAt {fp:List Addr}{h:Heap}{b:Addr}{o:Obj} (hb:b∈fp) (e:h.get? b=some o):(b,o)∈pinsAt fp h:=List.mem_filterMap.mpr ⟨b,hb,by rw [e];rfl⟩
theorem of_pinsAt {fp:List Addr}{h:Heap}{p:Addr×Obj} (hp:p∈pinsAt fp h):p.1∈fp∧h.get? p.1=some p.2:=by
 obtain ⟨b,hb,e⟩:=List.mem_filterMap.mp hp
 cases q:h.get? b with
 | none=>rw [q] at e;cases e
 | some o=>
  rw [q] at e
  have e':(b,o)=p:=Option.some.inj e
  subst e'
  exact ⟨hb,q⟩
theorem Inv.pinned {pins:List (Addr×Obj)}{σ:St}{H:Hp}{s:Shared}{fp:List Addr} (I:Inv X pins σ H s) (hf:∀ b∈fp,FpOk X pins H b) (ho:∀ b∈fp,∃ o,s.heap.get? b=some o∧∀ v,o.data ≠ .cell v):Inv X (pins++pinsAt fp s.heap) σ H s:=
 I.pins_of fun p hp=>(List.mem_append.mp hp).elim (fun z=>I.pin p (List.mem_append_right _ z)) fun z=>by
  obtain ⟨hb,e⟩:=of_pinsAt z
  obtain ⟨f0,f1,f2,_⟩:=hf p.1 hb
  obtain ⟨o,e',d⟩:=ho p.1 hb
  rw [e] at e';cases e'
  exact ⟨e,f0,f1,f2,d⟩
theorem Inv.unpinned {pins pl:List (Addr×Obj)}{σ:St}{H:Hp}{s:Shared} (I:Inv X (pins++pl) σ H s):Inv X pins σ H s:=I.pins_of fun p hp=>I.pin p (List.mem_append_right _ (List.mem_append_left _ hp))
theorem ps_for {iter:Expr}{body:List Stmt}{wi:TI}{g:TG}{tb:TS}{pos:Pos} (hp:PassesOwn (model X.prog X.w) X.A X.env X.xe) (hc:X.calm=true) (hi:PI X tg iter wi) (hg:PG X tg g) (hb:PSs X body tb)
  (hs:∀ x,foldedSetIterable iter X.env x=pure x:=by intro _;rfl):PS X (.For tg iter body [] pos) (tFor wi g tb):=by
 intro pins s σ H D I h
 refine wpAny_For (thn (hi pins s σ H _ I h) fun v s1 h1=>thn h1 fun itv s2 h2=>?_) hs
 obtain ⟨it,fp,tn,J,H2,e,I2,T,st2,f2,W,⟨m0,w0⟩,turn⟩:=h2
 subst e
 have stat:∀ {H':Hp},(∀ b∈fp,H' b=none)→∀ b∈fp,FpOk X pins H' b:=fun hn b hb=>⟨hn b hb,(f2 b hb).2⟩
 refine codeAny_forLoop_any (fun n s'=>∃ i σ' H',Inv X pins σ' H' s'∧tn i s'.heap∧(∀ b∈fp,H' b=none)∧W i n σ' H') ?_ m0 ⟨0,σ,H2,I2,st2,fun b hb=>(f2 b hb).1,w0⟩
 rintro n s3 ⟨i,σ3,H3,I3,st3,fr3,w3⟩
 rcases turn i n σ3 H3 w3 with ⟨stop,qn⟩ | ⟨go,N,hN,step⟩
 ·refine wpAny_passesOwn hp (thn (T.done X rfl rfl rfl hc i pins s3 σ3 H3 X.xe I3 (stat fr3) st3 stop) fun r s4 ⟨hr,I4⟩=>?_)
  subst hr
  exact wpAny_execs_nil ⟨σ3,H3,I4,qn⟩
 ·refine wpAny_passesOwn hp (thn (T.item X rfl rfl rfl hc i pins s3 σ3 H3 X.xe I3 (stat fr3) st3 go) fun r s4 ⟨u,hr,h4⟩=>?_)
  subst hr
  refine wpAny_passesOwn hp (thn h4 fun _ s5 ⟨x,H5,I5,r5,y5,st5,fr5⟩=>?_)
  have I5':=I5.pinned (stat fr5) (T.obj _ _ st5)
  refine wpAny_passesOwn hp (thn (hg _ s5 σ3 H5 x u _ I5' r5 (step x H5 y5)) fun _ s6 ⟨σ6,H6,I6,q6⟩=>?_)
  refine wpAny_passesOwn hp (thn (hb _ s6 σ6 H6 _ I6 q6) fun f s7 q7=>?_)
  have again:∀ {σ7:St}{H7:Hp},Inv X (pins++pinsAt fp s5.heap) σ7 H7 s7→N σ7 H7→∃ m,m<n∧∃ i σ' H',Inv X pins σ' H' s7∧tn i s7.heap∧(∀ b∈fp,H' b=none)∧W i m σ' H':=fun {σ7 H7} I7 n7=>by
   obtain ⟨m',hm,w7⟩:=hN σ7 H7 n7
   refine ⟨m',hm,i+1,σ7,H7,I7.unpinned,T.keep _ _ _ st5 fun b hb o e=>(I7.pin (b,o) (List.mem_append_right _ (List.mem_append_right _ (mem_pinsAt hb e)))).1,fun b hb=>?_,w7⟩
   obtain ⟨o,e,d⟩:=T.obj _ _ st5 b hb
   exact (I7.pin (b,o) (List.mem_append_right _ (List.mem_append_right _ (mem_pinsAt hb e)))).2.1
  cases f with
  | next=>obtain ⟨σ7,H7,I7,n7⟩:=q7;exact again I7 n7
  | cont=>obtain ⟨σ7,H7,I7,n7⟩:=q7;exact again I7 n7
  | brk=>obtain ⟨σ7,H7,I7,q7⟩:=q7;exact ⟨σ7,H7,I7.unpinned,q7⟩
  | ret v=>obtain ⟨x7,σ7,H7,I7,r7,q7⟩:=q7;exact ⟨x7,σ7,H7,I7.unpinned,r7,q7⟩
end
theorem for_list {K:PySem.W.Frag}{a:Addr}{xs:List V}{g:TG}{tb:TS}{D:Ends}{σ:St}{H:Hp} (Pv:Nat→St→Hp→Prop) (h0:Pv 0 σ H) (hl:∀ i σ H,i≤xs.length→Pv i σ H→SqL K H a xs)
  (hs:∀ i x σ H,xs[i]? = some x→Pv i σ H→g x σ H fun σ2 H2=>tb { D with nx:=Pv (i+1),ct:=Pv (i+1),bk:=D.nx } σ2 H2) (hd:∀ σ H,Pv xs.length σ H→D.nx σ H) :
  ∃ W:Nat→Nat→St→Hp→Prop,(∃ m,W 0 m σ H)∧∀ i m σ H,W i m σ H →
   ((Itl K a).stop i H∧D.nx σ H)∨((Itl K a).go i H∧∃ N:St→Hp→Prop,(∀ σ' H',N σ' H'→∃ m',m' < m∧W (i+1) m' σ' H')∧∀ x H',(Itl K a).yld i H x H'→g x σ H' fun σ2 H2=>tb { D with nx:=N,ct:=N,bk:=D.nx } σ2 H2):=by
 refine ⟨fun i m σ H=>m=xs.length - i∧i≤xs.length∧Pv i σ H,⟨xs.length,by simp,Nat.zero_le _,h0⟩,?_⟩
 rintro i m σ H ⟨rfl,hi,p⟩
 have q:=hl i σ H hi p
 by_cases hlt:i<xs.length
 ·refine .inr ⟨⟨xs,xs[i],q,by simp [hlt]⟩,Pv (i+1),fun σ' H' p'=>⟨xs.length - (i+1),by lia,rfl,hlt,p'⟩,fun x H' y=>?_⟩
  obtain ⟨e,y⟩:=y
  subst e
  exact hs i x σ _ (y xs q) p
 ·have e:i=xs.length:=by lia
  subst e
  exact .inl ⟨⟨xs,q,Nat.le_refl _⟩,hd σ H p⟩
theorem for_range {lo:Int}{n:Nat}{g:TG}{tb:TS}{D:Ends}{σ:St}{H:Hp} (Pv:Nat→St→Hp→Prop) (h0:Pv 0 σ H)
  (hs:∀ i σ H,i<n→Pv i σ H→g (.int (lo+i)) σ H fun σ2 H2=>tb { D with nx:=Pv (i+1),ct:=Pv (i+1),bk:=D.nx } σ2 H2) (hd:∀ σ H,Pv n σ H→D.nx σ H) :
  ∃ W:Nat→Nat→St→Hp→Prop,(∃ m,W 0 m σ H)∧∀ i m σ H,W i m σ H →
   ((Itr lo n).stop i H∧D.nx σ H)∨((Itr lo n).go i H∧∃ N:St→Hp→Prop,(∀ σ' H',N σ' H'→∃ m',m' < m∧W (i+1) m' σ' H')∧∀ x H',(Itr lo n).yld i H x H'→g x σ H' fun σ2 H2=>tb { D with nx:=N,ct:=N,bk:=D.nx } σ2 H2):=by
 refine ⟨fun i m σ H=>m=n - i∧i≤n∧Pv i σ H,⟨n,by simp,Nat.zero_le _,h0⟩,?_⟩
 rintro i m σ H ⟨rfl,hi,p⟩
 by_cases hlt:i<n
 ·refine .inr ⟨hlt,Pv (i+1),fun σ' H' p'=>⟨n - (i+1),by lia,rfl,hlt,p'⟩,fun x H' y=>?_⟩
  obtain ⟨e,y⟩:=y
  subst e y
  exact hs i σ _ hlt p
 ·have e:i=n:=by lia
  subst e
  exact .inl ⟨Nat.le_refl _,hd σ H p⟩
end L2
namespace L2
open PySem PySem.Spec PyProof.Rows
abbrev R2:=V→V→Hp→VK→Prop
def OpR (X:Cx) (f:Value→Value→Sem Value) (r:R2):Prop:=
 ∀ (pins:List (Addr×Obj)) (s:Shared) (σ:St) (H:Hp) (x y:V) (v u:Value) (Q:VK),Inv X pins σ H s→RelV x v→RelV y u→r x y H Q →
  wpAny (model X.prog X.w) X.A (f v u) (EP X pins σ Q) X.xe s
def UnR (X:Cx) (f:Value→Sem Value) (r:V→Hp→VK→Prop):Prop:=
 ∀ (pins:List (Addr×Obj)) (s:Shared) (σ:St) (H:Hp) (x:V) (v:Value) (Q:VK),Inv X pins σ H s→RelV x v→r x H Q →
  wpAny (model X.prog X.w) X.A (f v) (EP X pins σ Q) X.xe s
def CallR (X:Cx) (f:Value) (r:List V→Hp→VK→Prop):Prop:=
 ∀ (pins:List (Addr×Obj)) (s:Shared) (σ:St) (H:Hp) (xs:List V) (us:List Value) (Q:VK),Inv X pins σ H s→Vals xs us→r xs H Q →
  wpAny (model X.prog X.w) X.A (call f us) (EP X pins σ Q) X.xe s
def TruR (X:Cx) (r:V→Hp→(Bool→Hp→Prop)→Prop):Prop:=
 ∀ (pins:List (Addr×Obj)) (s:Shared) (σ:St) (H:Hp) (x:V) (v:Value) (Q:Bool→Hp→Prop),Inv X pins σ H s→RelV x v→r x H Q →
  wpAny (model X.prog X.w) X.A (truthy v) (TP X pins σ Q) X.xe s
def tOp (r:R2) (ta tb:TE):TE:=fun σ H Q=>ta σ H fun x H1=>tb σ H1 fun y H2=>r x y H2 Q
def tUn (r:V→Hp→VK→Prop) (ta:TE):TE:=fun σ H Q=>ta σ H fun x H1=>r x H1 Q
def rI (C:Int→Int→Prop) (g:Int→Int→V):R2:=fun x y H Q=>∃ i j,x = .int i∧y = .int j∧C i j∧Q (g i j) H
def rI0 (g:Int→Int→V):R2:=fun x y H Q=>∃ i j,x = .int i∧y = .int j∧Q (g i j) H
def rU (g:Int→V):V→Hp→VK→Prop:=fun x H Q=>∃ i,x = .int i∧Q (g i) H
section
variable {X:Cx}{a b c:Expr}{ta tb tc:TE}{pos:Pos}
theorem binT (ha:PE X a ta) (hb:PE X b tb) {pins:List (Addr×Obj)}{s:Shared}{σ:St}{H:Hp}{R:V→V→Hp→Prop} (I:Inv X pins σ H s)
  (h:ta σ H fun x H1=>tb σ H1 fun y H2=>R x y H2) {Q:Value→Shared→Prop}{f:Value→Value→Sem Value}
  (hf:∀ v u s2 x y H2,Inv X pins σ H2 s2→RelV x v→RelV y u→R x y H2→wpAny (model X.prog X.w) X.A (f v u) Q X.xe s2) :
  wpAny (model X.prog X.w) X.A (eval a X.env) (fun v s₁=>wpAny (model X.prog X.w) X.A (eval b X.env) (fun u s₂=>wpAny (model X.prog X.w) X.A (f v u) Q X.xe s₂) X.xe s₁) X.xe s:=by
 refine thn (ha pins s σ H _ I h) fun v s1 ⟨x,H1,I1,r1,q1⟩=>?_
 refine thn (hb pins s1 σ H1 _ I1 q1) fun u s2 ⟨y,H2,I2,r2,q2⟩=>?_
 exact hf v u s2 x y H2 I2 r1 r2 q2
theorem pe_op {op:Operator}{r:R2} (ho:OpR X (binaryOp op) r) (ha:PE X a ta) (hb:PE X b tb):PE X (.BinOp a op b pos) (tOp r ta tb):=by
 intro pins s σ H Q I h
 exact wpAny_BinOp (binT ha hb I h fun v u s2 x y H2 I2 rx ry q=>ho pins s2 σ H2 x y v u Q I2 rx ry q)
theorem pe_un {op:UnaryOp}{r:V→Hp→VK→Prop} (ho:UnR X (unaryOp op) r) (ha:PE X a ta):PE X (.UnaryOp op a pos) (tUn r ta):=by
 intro pins s σ H Q I h
 exact UnaryOp_ (thn (ha pins s σ H _ I h) fun v s1 ⟨x,H1,I1,r1,q1⟩=>ho pins s1 σ H1 x v Q I1 r1 q1)
theorem opI {f:Value→Value→Sem Value}{C:Int→Int→Prop}{g:Int→Int→Int}
  (rule:∀ (i j:Int) (t u:Tok) (s:Shared) (Q:Value→Shared→Prop) (E:Value→Shared→Prop),C i j→Q (.int (g i j) s.toks) { s with toks:=s.toks+1 }→wpAny (model X.prog X.w) X.A (f (.int i t) (.int j u)) Q E s) :
  OpR X f (rI C fun i j=>.int (g i j)):=by
 intro pins s σ H x y v u Q I rx ry h
 obtain ⟨i,j,rfl,rfl,hc,q⟩:=h
 obtain ⟨t,rfl⟩:=rx
 obtain ⟨t',rfl⟩:=ry
 exact rule i j t t' s _ _ hc ⟨.int (g i j),H,I.tok _,⟨_,rfl⟩,q⟩
theorem opI0 {f:Value→Value→Sem Value}{g:Int→Int→Int}
  (rule:∀ (i j:Int) (t u:Tok) (s:Shared) (Q:Value→Shared→Prop) (E:Value→Shared→Prop),Q (.int (g i j) s.toks) { s with toks:=s.toks+1 }→wpAny (model X.prog X.w) X.A (f (.int i t) (.int j u)) Q E s) :
  OpR X f (rI0 fun i j=>.int (g i j)):=by
 intro pins s σ H x y v u Q I rx ry h
 obtain ⟨i,j,rfl,rfl,q⟩:=h
 obtain ⟨t,rfl⟩:=rx
 obtain ⟨t',rfl⟩:=ry
 exact rule i j t t' s _ _ ⟨.int (g i j),H,I.tok _,⟨_,rfl⟩,q⟩
theorem opB0 {f:Value→Value→Sem Value}{g:Int→Int→Bool}
  (rule:∀ (i j:Int) (t u:Tok) (s:Shared) (Q:Value→Shared→Prop) (E:Value→Shared→Prop),Q (.bool (g i j)) s→wpAny (model X.prog X.w) X.A (f (.int i t) (.int j u)) Q E s) :
  OpR X f (rI0 fun i j=>.bl (g i j)):=by
 intro pins s σ H x y v u Q I rx ry h
 obtain ⟨i,j,rfl,rfl,q⟩:=h
 obtain ⟨t,rfl⟩:=rx
 obtain ⟨t',rfl⟩:=ry
 exact rule i j t t' s _ _ ⟨.bl (g i j),H,I,rfl,q⟩
def CDiv (i j:Int):Prop:=0<j∧j<1073741824
def CPow (i j:Int):Prop:=0≤j∧j≤1000000∧i.natAbs<2 ^ 64
def CMul (i j:Int):Prop:=(-(2 ^ 64)<i∧i<2 ^ 64)∨(-(2 ^ 64)<j∧j<2 ^ 64)
theorem CMul.ok {i j:Int} (h:CMul i j):IntMulOk i j:=by
 rcases h with ⟨h1,h2⟩ | ⟨h1,h2⟩
 ·exact .of_left (intBits_le_64 h1 h2)
 ·exact .of_right (intBits_le_64 h1 h2)
theorem op_add:OpR X (binaryOp .Add) (rI0 fun i j=>.int (i+j)):=opI0 fun _ _ _ _ _ _ _ q=>add_int q
theorem op_sub:OpR X (binaryOp .Sub) (rI0 fun i j=>.int (i - j)):=opI0 fun _ _ _ _ _ _ _ q=>sub_int q
theorem op_mul:OpR X (binaryOp .Mult) (rI CMul fun i j=>.int (i * j)):=opI fun _ _ _ _ _ _ _ hc q=>mul_int q hc.ok
theorem op_fdiv:OpR X (binaryOp .FloorDiv) (rI CDiv fun i j=>.int (i / j)):=opI fun i j _ _ _ _ _ hc q=>by
 have h1:(0:Int)<j:=hc.1
 have h2:j<1073741824:=hc.2
 exact floordiv_int (by lia) (by rw [Int.fdiv_eq_ediv_of_nonneg i (by lia)];exact q) (.inl (PyProof.noPylong_small (by lia)))
theorem op_mod:OpR X (binaryOp .Mod) (rI (fun _ j=>0<j) fun i j=>.int (i % j)):=opI fun i j _ _ _ _ _ hc q=>by
 have h1:(0:Int)<j:=hc
 exact mod_int' (by lia) (by rw [Int.fmod_eq_emod_of_nonneg i (by lia)];exact q)
theorem op_pow:OpR X (binaryOp .Pow) (rI CPow fun i j=>.int (i ^ j.toNat)):=opI fun _ _ _ _ _ _ _ hc q=>pow_int_small hc.1 hc.2.1 hc.2.2 q
theorem unI {f:Value→Sem Value}{g:Int→Int}
  (rule:∀ (i:Int) (t:Tok) (s:Shared) (Q:Value→Shared→Prop) (E:Value→Shared→Prop),Q (.int (g i) s.toks) { s with toks:=s.toks+1 }→wpAny (model X.prog X.w) X.A (f (.int i t)) Q E s) :
  UnR X f (rU fun i=>.int (g i)):=by
 intro pins s σ H x v Q I rx h
 obtain ⟨i,rfl,q⟩:=h
 obtain ⟨t,rfl⟩:=rx
 exact rule i t s _ _ ⟨.int (g i),H,I.tok _,⟨_,rfl⟩,q⟩
theorem un_neg:UnR X (unaryOp .USub) (rU fun i=>.int (-i)):=unI fun _ _ _ _ _ q=>neg_int q
end
def scal:V→V→Bool
 | .non,.non=>true | .non,.int _=>true | .int _,.non=>true | .non,.bl _=>true | .bl _,.non=>true | .non,.str _=>true | .str _,.non=>true
 | .int _,.int _=>true | .bl _,.bl _=>true | .str _,.str _=>true | .byt _,.byt _=>true
 | .int _,.str _=>true | .str _,.int _=>true | .bl _,.str _=>true | .str _,.bl _=>true
 | _,_=>false
def rEq:R2:=fun x y H Q=>scal x y=true∧Q (.bl (decide (x=y))) H
def rNe:R2:=fun x y H Q=>scal x y=true∧Q (.bl (!decide (x=y))) H
theorem dec_int {i j:Int}:decide (V.int i=V.int j)=(i == j):=by
 rw [Bool.eq_iff_iff]
 simp
theorem dec_bl {i j:Bool}:decide (V.bl i=V.bl j)=(i == j):=by
 rw [Bool.eq_iff_iff]
 simp
theorem dec_str {i j:Str}:decide (V.str i=V.str j)=(i == j):=by
 rw [Bool.eq_iff_iff]
 simp
theorem dec_byt {i j:Array UInt8}:decide (V.byt i=V.byt j)=(i.toList == j.toList):=by
 rw [Bool.eq_iff_iff]
 cases i
 cases j
 simp
section
variable {X:Cx}{a b c:Expr}{ta tb tc:TE}{pos:Pos}
theorem fin_bl {pins:List (Addr×Obj)}{σ:St}{H:Hp}{s:Shared}{Q:VK}{k k':Bool} (I:Inv X pins σ H s) (q:Q (.bl k) H) (e:k=k'):EP X pins σ Q (.bool k') s:=by
 subst e
 exact ⟨.bl k,H,I,rfl,q⟩
theorem op_eq:OpR X (compareOp .Eq) rEq:=by
 intro pins s σ H x y v u Q I rx ry h
 obtain ⟨hs,q⟩:=h
 cases x with
 | non=>
  cases rx
  cases y with
  | non=>cases ry;exact PySem.EqNone.eq_none_none (fin_bl I q (by simp))
  | bl j=>cases ry;exact PySem.EqNone.eq_none_bool (fin_bl I q (by simp))
  | int j=>obtain ⟨t',rfl⟩:=ry;exact PySem.EqNone.eq_none_int (fin_bl I q (by simp))
  | str j=>obtain ⟨t',rfl⟩:=ry;exact PySem.EqNone.eq_none_str (fin_bl I q (by simp))
  | _=>exact absurd (show false=true from hs) Bool.false_ne_true
 | bl i=>
  cases rx
  cases y with
  | non=>cases ry;exact PySem.EqNone.eq_bool_none (fin_bl I q (by simp))
  | bl j=>cases ry;exact eq_bool (fin_bl I q dec_bl)
  | str j=>obtain ⟨t',rfl⟩:=ry;exact PySem.EqMixed.eq_bool_str (fin_bl I q (by simp))
  | _=>exact absurd (show false=true from hs) Bool.false_ne_true
 | int i=>
  obtain ⟨t,rfl⟩:=rx
  cases y with
  | non=>cases ry;exact PySem.EqNone.eq_int_none (fin_bl I q (by simp))
  | int j=>obtain ⟨t',rfl⟩:=ry;exact eq_int (fin_bl I q dec_int)
  | str j=>obtain ⟨t',rfl⟩:=ry;exact PySem.EqMixed.eq_int_str (fin_bl I q (by simp))
  | _=>exact absurd (show false=true from hs) Bool.false_ne_true
 | str i=>
  obtain ⟨t,rfl⟩:=rx
  cases y with
  | non=>cases ry;exact PySem.EqNone.eq_str_none (fin_bl I q (by simp))
  | bl j=>cases ry;exact PySem.EqMixed.eq_str_bool (fin_bl I q (by simp))
  | int j=>obtain ⟨t',rfl⟩:=ry;exact PySem.EqMixed.eq_str_int (fin_bl I q (by simp))
  | str j=>obtain ⟨t',rfl⟩:=ry;exact eq_str (fin_bl I q dec_str)
  | _=>exact absurd (show false=true from hs) Bool.false_ne_true
 | byt i=>
  obtain ⟨t,rfl⟩:=rx
  cases y with
  | byt j=>obtain ⟨t',rfl⟩:=ry;exact PySem.W.eq_bytes (fin_bl I q dec_byt)
  | _=>exact absurd (show false=true from hs) Bool.false_ne_true
 | _=>cases y <;> exact absurd (show false=true from hs) Bool.false_ne_true
theorem op_ne:OpR X (compareOp .NotEq) rNe:=by
 intro pins s σ H x y v u Q I rx ry h
 obtain ⟨hs,q⟩:=h
 cases x with
 | non=>
  cases rx
  cases y with
  | non=>cases ry;exact PySem.EqNone.ne_none_none (fin_bl I q (by simp))
  | bl j=>cases ry;exact PySem.EqNone.ne_none_bool (fin_bl I q (by simp))
  | int j=>obtain ⟨t',rfl⟩:=ry;exact PySem.EqNone.ne_none_int (fin_bl I q (by simp))
  | str j=>obtain ⟨t',rfl⟩:=ry;exact PySem.EqNone.ne_none_str (fin_bl I q (by simp))
  | _=>exact absurd (show false=true from hs) Bool.false_ne_true
 | bl i=>
  cases rx
  cases y with
  | non=>cases ry;exact PySem.EqNone.ne_bool_none (fin_bl I q (by simp))
  | bl j=>cases ry;exact ne_bool (fin_bl I q (congrArg not dec_bl))
  | str j=>obtain ⟨t',rfl⟩:=ry;exact PySem.EqMixed.ne_bool_str (fin_bl I q (by simp))
  | _=>exact absurd (show false=true from hs) Bool.false_ne_true
 | int i=>
  obtain ⟨t,rfl⟩:=rx
  cases y with
  | non=>cases ry;exact PySem.EqNone.ne_int_none (fin_bl I q (by simp))
  | int j=>obtain ⟨t',rfl⟩:=ry;exact ne_int (fin_bl I q (congrArg not dec_int))
  | str j=>obtain ⟨t',rfl⟩:=ry;exact PySem.EqMixed.ne_int_str (fin_bl I q (by simp))
  | _=>exact absurd (show false=true from hs) Bool.false_ne_true
 | str i=>
  obtain ⟨t,rfl⟩:=rx
  cases y with
  | non=>cases ry;exact PySem.EqNone.ne_str_none (fin_bl I q (by simp))
  | bl j=>cases ry;exact PySem.EqMixed.ne_str_bool (fin_bl I q (by simp))
  | int j=>obtain ⟨t',rfl⟩:=ry;exact PySem.EqMixed.ne_str_int (fin_bl I q (by simp))
  | str j=>obtain ⟨t',rfl⟩:=ry;exact ne_str (fin_bl I q (congrArg not dec_str))
  | _=>exact absurd (show false=true from hs) Bool.false_ne_true
 | byt i=>
  obtain ⟨t,rfl⟩:=rx
  cases y with
  | byt j=>obtain ⟨t',rfl⟩:=ry;exact PySem.W.ne_bytes (fin_bl I q (congrArg not dec_byt))
  | _=>exact absurd (show false=true from hs) Bool.false_ne_true
 | _=>cases y <;> exact absurd (show false=true from hs) Bool.false_ne_true
theorem op_lt:OpR X (compareOp .Lt) (rI0 fun i j=>.bl (decide (i<j))):=opB0 fun _ _ _ _ _ _ _ q=>lt_int q
theorem op_gt:OpR X (compareOp .Gt) (rI0 fun i j=>.bl (decide (j<i))):=opB0 fun _ _ _ _ _ _ _ q=>gt_int q
theorem op_ge:OpR X (compareOp .GtE) (rI0 fun i j=>.bl (decide (j≤i))):=opB0 fun _ _ _ _ _ _ _ q=>ge_int q
theorem op_isN:OpR X (compareOp .Is) (fun x y H Q=>y = .non∧Q (.bl (decide (x = .non))) H):=by
 intro pins s σ H x y v u Q I rx ry h
 obtain ⟨rfl,q⟩:=h
 cases ry
 refine is_none_gen (fin_bl I q ?_)
 cases x <;> first
  | (cases rx;rfl)
  | (obtain ⟨t,rfl⟩:=rx;rfl)
theorem op_notN:OpR X (compareOp .IsNot) (fun x y H Q=>y = .non∧Q (.bl (!decide (x = .non))) H):=by
 intro pins s σ H x y v u Q I rx ry h
 obtain ⟨rfl,q⟩:=h
 cases ry
 refine isnot_none_gen (fin_bl I q ?_)
 cases x <;> first
  | (cases rx;rfl)
  | (obtain ⟨t,rfl⟩:=rx;rfl)
theorem nomark (b:Expr) {op:CmpOp} (h:op ≠ .In:=by decide) (h2:op ≠ .NotIn:=by decide):behindInMarks op b=false:=by
 have e1:(op == CmpOp.In)=false:=by cases op <;> first | rfl | exact absurd rfl h
 have e2:(op == CmpOp.NotIn)=false:=by cases op <;> first | rfl | exact absurd rfl h2
 cases b <;> simp [behindInMarks,e1,e2]
theorem pe_cmpR {op:CmpOp}{r:R2} (ho:OpR X (compareOp op) r) (ha:PE X a ta) (hb:PE X b tb) (hm:behindInMarks op b=false):PE X (.Compare a [op] [b] pos) (tOp r ta tb):=by
 intro pins s σ H Q I h
 exact wpAny_Compare1 (binT ha hb I h fun v u s2 x y H2 I2 rx ry q=>ho pins s2 σ H2 x y v u Q I2 rx ry q) hm
def tTest (t:TE):TT:=fun σ H Q=>t σ H fun x H'=>∃ k,x = .bl k∧Q k H'
theorem pt_cmpR {op:CmpOp}{r:R2} (ho:OpR X (compareOp op) r) (ha:PE X a ta) (hb:PE X b tb) (hm:behindInMarks op b=false):PT X (.Compare a [op] [b] pos) (tTest (tOp r ta tb)):=by
 intro pins s σ H Q I h
 refine wpAny_isTrue_Compare1 (thn (ha pins s σ H _ I h) fun v s1 ⟨x,H1,I1,r1,q1⟩=>thn (hb pins s1 σ H1 _ I1 q1) fun u s2 ⟨y,H2,I2,r2,q2⟩=>
  thn (ho pins s2 σ H2 x y v u _ I2 r1 r2 q2) fun c s3 ⟨z,H3,I3,r3,k,e,q3⟩=>?_) hm
 subst e
 cases r3
 exact wpAny_truthy_bool ⟨H3,I3,q3⟩
def tChain (r r':R2) (ta tb tc:TE):TE:=fun σ H Q=>ta σ H fun x H1=>tb σ H1 fun y H2=>r x y H2 fun z H3=>∃ k,z = .bl k ∧
 (if k=true then tc σ H3 fun w' H4=>r' y w' H4 Q else Q (.bl false) H3)
theorem pt_chain {op op':CmpOp}{r r':R2} (ho:OpR X (compareOp op) r) (ho':OpR X (compareOp op') r') (ha:PE X a ta) (hb:PE X b tb) (hc:PE X c tc)
  (hm:lastMarks [op,op'] [b,c]=false:=by with_unfolding_all rfl):PT X (.Compare a [op,op'] [b,c] pos) (tTest (tChain r r' ta tb tc)):=by
 intro pins s σ H Q I h
 refine isTrue_chain (thn (ha pins s σ H _ I h) fun v s1 ⟨x,H1,I1,r1,q1⟩=>test_link (thn (hb pins s1 σ H1 _ I1 q1) fun u s2 ⟨y,H2,I2,r2,q2⟩=>
  thn (ho pins s2 σ H2 x y v u _ I2 r1 r2 q2) fun d s3 ⟨z,H3,I3,r3,k,e,q3⟩=>?_)) hm
 subst e
 cases r3
 refine wpAny_truthy_bool ?_
 cases k with
 | false=>
  obtain ⟨k',e',q'⟩:=q3
  cases e'
  exact ite_ff ⟨H3,I3,q'⟩
 | true=>
  refine ite_tt (test_last (thn (hc pins s3 σ H3 _ I3 q3) fun w' s4 ⟨z',H4,I4,r4,q4⟩=>thn (ho' pins s4 σ H4 y z' u w' _ I4 r2 r4 q4) fun d' s5 ⟨z2,H5,I5,r5,k2,e2,q5⟩=>?_))
  subst e2
  cases r5
  exact wpAny_truthy_bool ⟨H5,I5,q5⟩
def TruV (K:PySem.W.Frag) (x:V) (H:Hp) (k:Bool):Prop:=
 match x with
 | .non=>k=false
 | .bl b=>k=b
 | .int i=>k=(i != 0)
 | .str y=>y.length≤sizeLine∧k=((y.length:Int) != 0)
 | .byt y=>y.size≤sizeLine∧k=((y.size:Int) != 0)
 | .ref p=>(∃ xs,SqL K H p xs∧k = !xs.isEmpty)∨(∃ xs,SqT K H p xs∧k = !xs.isEmpty)∨∃ kvs,H p=some (.dK kvs)∧k = !kvs.isEmpty
 | _=>False
theorem isEmpty_kv {κ:Type}{kvs:List (κ×V)}{vs:List (κ×Value)} (r:KV kvs vs):(!vs.isEmpty) = !kvs.isEmpty:=by
 cases r <;> rfl
theorem isEmpty_of {xs:List V}{its:List Value} (r:Vals xs its):(!its.toArray.isEmpty) = !xs.isEmpty:=by
 cases r <;> simp
theorem line63:(sizeLine:Nat)<2 ^ 63:=by rw [sizeLine_eq];decide
theorem tru_ok:TruR X (fun x H Q=>∃ k,TruV X.K x H k∧Q k H):=by
 intro pins s σ H x v Q I rx h
 obtain ⟨k,e,q⟩:=h
 have hl:=line63
 have hs:sizeLine=16777216:=sizeLine_eq
 cases x with
 | non=>
  cases rx
  have e':k=false:=e
  subst e'
  exact truthy_none ⟨H,I,q⟩
 | bl b=>
  cases rx
  have e':k=b:=e
  subst e'
  exact wpAny_truthy_bool ⟨H,I,q⟩
 | int i=>
  obtain ⟨t,rfl⟩:=rx
  have e':k=(i != 0):=e
  subst e'
  exact PySem.P.truthy_int ⟨H,I,q⟩
 | str y=>
  obtain ⟨t,rfl⟩:=rx
  obtain ⟨hy,e'⟩:y.length≤sizeLine∧k=((y.length:Int) != 0):=e
  subst e'
  exact PySem.P.truthy_str (by lia) ⟨H,I.tok _,q⟩
 | byt y=>
  obtain ⟨t,rfl⟩:=rx
  obtain ⟨hy,e'⟩:y.size≤sizeLine∧k=((y.size:Int) != 0):=e
  subst e'
  exact PySem.W.truthy_bytes (by lia) ⟨H,I.tok _,q⟩
 | ref p=>
  cases rx
  have e':(∃ xs,SqL X.K H p xs∧k = !xs.isEmpty)∨(∃ xs,SqT X.K H p xs∧k = !xs.isEmpty)∨∃ kvs,H p=some (.dK kvs)∧k = !kvs.isEmpty:=e
  rcases e' with ⟨xs,hx,e'⟩ | ⟨xs,hx,e'⟩ | ⟨kvs,hx,e'⟩
  ·subst e'
   obtain ⟨its,r,pl,hz⟩:=I.list hx
   have hlen:=r.length
   exact wpAny_truthy_list pl.isList (by simp only [List.size_toArray];lia) ⟨H,I.tok _,by rw [isEmpty_of r];exact q⟩
  ·subst e'
   obtain ⟨its,r,pl,hz⟩:=I.tuple hx
   have hlen:=r.length
   exact truthy_tuple pl (by simp only [List.size_toArray];lia) ⟨H,I.tok _,by rw [isEmpty_of r];exact q⟩
  ·subst e'
   obtain ⟨hz,hS,vs,r,m⟩:kvs.length≤sizeLine∧(p == sysModules)=false∧∃ vs,KV kvs vs∧s.heap.DictOf (mixKind X.prog X.w) p vs:=I.hok p _ hx
   have hlen:kvs.length=vs.length:=Paired.length r
   exact wpAny_truthy_dict hS m (by lia) ⟨H,I.tok _,by rw [isEmpty_kv r];exact q⟩
 | _=>exact (show False from e).elim
theorem pt_truth (ha:PE X a ta) (he:∀ whole,isTrue a X.env whole=(do let v ← whole;standAt a.pos;holding [v] (truthy v))) :
  PT X a (fun σ H Q=>ta σ H fun x H'=>∃ k,TruV X.K x H' k∧Q k H'):=by
 intro pins s σ H Q I h
 exact isTrue_plain (thn (ha pins s σ H _ I h) fun v s1 ⟨x,H1,I1,r1,q1⟩=>tru_ok pins s1 σ H1 x v Q I1 r1 q1) (he _)
theorem op_add_str:OpR X (binaryOp .Add) (fun x y H Q=>∃ i j,x = .str i∧y = .str j∧i.length+j.length≤sizeLine∧Q (.str (i++j)) H):=by
 intro pins s σ H x y v u Q I rx ry h
 obtain ⟨i,j,rfl,rfl,hz,q⟩:=h
 obtain ⟨t,rfl⟩:=rx
 obtain ⟨t',rfl⟩:=ry
 exact add_str (fun t' tk=>⟨.str (i++j),H,I.tok _,⟨_,rfl⟩,q⟩) hz
theorem vals1 {x:V}{us:List Value} (r:Vals [x] us):∃ u,us=[u]∧RelV x u:=by
 cases r with
 | cons r1 r2=>cases r2;exact ⟨_,rfl,r1⟩
theorem vals2 {x y:V}{us:List Value} (r:Vals [x,y] us):∃ u w',us=[u,w']∧RelV x u∧RelV y w':=by
 cases r with
 | cons r1 r2=>
  cases r2 with
  | cons r3 r4=>cases r4;exact ⟨_,_,rfl,r1,r3⟩
theorem call_int1:CallR X (.type "int") (fun xs H Q=>(∃ i,xs=[.int i]∧Q (.int i) H)∨∃ k,xs=[.bl k]∧Q (.int (if k then 1 else 0)) H):=by
 intro pins s σ H xs us Q I r h
 rcases h with ⟨i,rfl,q⟩ | ⟨k,rfl,q⟩
 ·obtain ⟨u,rfl,t,rfl⟩:=vals1 r
  exact call_int_int ⟨.int i,H,I,⟨_,rfl⟩,q⟩
 ·obtain ⟨u,rfl,r1⟩:=vals1 r
  cases r1
  exact call_int_bool ⟨.int (if k then 1 else 0),H,I.tok _,⟨_,rfl⟩,q⟩
end
end L2
namespace L2
open PySem PySem.Spec PyProof.Rows
structure ObjM (h:Heap) (x dx C:Addr) (mA:Str→Option Value):Prop where
 obj:h.get? x=some (PySem.W.instObj C dx)
 ns:h.Ns1 dx mA
 ne:dx≠x
theorem lookIn_ns {h:Heap}{dx:Addr}{mA:Str→Option Value} (n:h.Ns1 dx mA):∃ od,h.get? dx=some od∧∀ name,PySem.W.lookIn name od=some (mA name):=by
 obtain ⟨o,es,ep,ho,hd,hk,_,hm⟩:=n
 refine ⟨o,ho,fun name=>?_⟩
 have e:=hm name
 unfold nsFind findBy at e
 rw [← Array.find?_toList] at e
 unfold PySem.W.lookIn
 rw [hd]
 dsimp only
 split
 ·rename_i y q
  rw [q] at e
  exact congrArg some e
 ·rename_i q
  rw [q] at e
  have a:es.toList.any (·.refKey)=false:=by
   rw [List.any_eq_false]
   intro y hy
   obtain ⟨z,t,hkey⟩:=hk y (Array.mem_toList_iff.mp hy)
   simp [DictEntry.refKey,hkey]
  have a':¬ es.toList.any (·.refKey)=true:=by rw [a];exact Bool.false_ne_true
  rw [if_neg a']
  exact congrArg some e
theorem ObjM.look {h:Heap}{x dx C:Addr}{mA:Str→Option Value} (I:ObjM h x dx C mA):∃ od,PySem.W.InstAt h x (PySem.W.instObj C dx) C (some od)∧∀ name,PySem.W.lookIn name od=some (mA name):=
 let ⟨od,ho,hl⟩:=lookIn_ns I.ns
 ⟨od,⟨I.obj,rfl,rfl,ho⟩,hl⟩
section
variable {prog:Program}{w:World}{A:Around}{E:Value→Shared→Prop}{s:Shared}{K:PySem.W.Frag}{x dx C f:Addr}{mA:Str→Option Value}{name:Str}{v:Value}
end
theorem RelO.some_of {v:V}{o:Option Value} (r:RelO (some v) o):∃ u,o=some u∧RelV v u:=by
 cases o with
 | none=>exact (show False from r).elim
 | some u=>exact ⟨u,rfl,r⟩
theorem RelO.none_of {o:Option Value} (r:RelO none o):o=none:=by
 cases o with
 | none=>rfl
 | some u=>exact (show False from r).elim
section
variable {P:Program}{w:World}{H H':Hp}{h h':Heap}{a C dx:Addr}{fs fs':List (Str×V)}
theorem ins_get (hok:HOk P w H h) (e:H a=some (.ins C dx fs)):∃ mA,ObjM h a dx C mA∧(∀ f,RelO (fs.lookup f) (mA f))∧PySem.Within mA (fs.map (·.1))∧fs.length≤1000∧H dx=some (.own a):=by
 obtain ⟨d,z,ne,ob,mA,n,r,q⟩:=(show ObjOk P w H h a (.ins C dx fs) from hok a _ e)
 exact ⟨mA,⟨ob,n,ne⟩,r,q,z,d⟩
end
structure Cls (K:PySem.W.Frag) (C:Addr):Prop where
 pg:PySem.W.plainGet K C Str.empty=true
 hd:PySem.W.hasDictIn K C=true
 po:PySem.W.plainOver K C=true
 sa:PySem.W.findIn K (.ref C) "__setattr__" = some (some (.builtin "object.__setattr__"))
theorem Cls.get {K:PySem.W.Frag}{C:Addr} (c:Cls K C) (f:Str):PySem.W.plainGet K C f=true:=c.pg
structure Con (K:PySem.W.Frag) (C:Addr) (f:Str) (v:V) (u:Value):Prop where
 at_:PySem.W.findIn K (.ref C) f=some (some u)
 rel:RelV v u
 get:PySem.W.specialIn K u "__get__" = some none
 cp:PySem.W.copiedNames.contains f=false
structure Meth (K:PySem.W.Frag) (C:Addr) (m:Str) (f:Addr):Prop where
 at_:PySem.W.findIn K (.ref C) m=some (some (.ref f))
 fn:PySem.W.isFn K (.ref f)=true
 kp:PySem.W.keepIn K (.ref f)=true
section
variable {X:Cx}{pins:List (Addr×Obj)}{σ:St}{H:Hp}{s:Shared}{a C dx:Addr}{fs:List (Str×V)}{f:Str}{v:V}{A:Around}{E:Value→Shared→Prop}
theorem Inv.made (I:Inv X pins σ H s):Inv X pins σ (upd (upd H s.heap.objs.size (.own (s.heap.objs.size+1))) (s.heap.objs.size+1) (.ins C s.heap.objs.size []))
  { s with heap:=(s.heap.push PySem.W.emptyDict).push (PySem.W.instObj C s.heap.objs.size) }:=by
 have e1:(s.heap.push PySem.W.emptyDict).get? s.heap.objs.size=some PySem.W.emptyDict:=Heap.get?_push_size s.heap rfl
 have e2:((s.heap.push PySem.W.emptyDict).push (PySem.W.instObj C s.heap.objs.size)).get? (s.heap.objs.size+1)=some (PySem.W.instObj C s.heap.objs.size):=by
  have:=Heap.get?_push_size (s.heap.push PySem.W.emptyDict) (o:=PySem.W.instObj C s.heap.objs.size) rfl
  rwa [Heap.size_push] at this
 have e3:(s.heap.push PySem.W.emptyDict).Ns s.heap.objs.size (fun _=>none):=⟨PySem.W.emptyDict,#[],_,e1,rfl,(fun e he=>absurd he (by simp)),fun _=>rfl⟩
 have I1:=I.laid (a:=s.heap.objs.size) (o:=.own (s.heap.objs.size+1)) (h':=s.heap.push PySem.W.emptyDict) (t':=s.toks) (fun b u q=>Heap.get?_push_of_some _ q) (Nat.le_refl _) ⟨_,e1⟩
 refine I1.laid (a:=s.heap.objs.size+1) (o:=.ins C s.heap.objs.size []) (t':=s.toks) (fun b u q=>Heap.get?_push_of_some _ q) (Nat.le_of_eq (Heap.size_push _ _)) ?_
 have ne:s.heap.objs.size≠s.heap.objs.size+1:=Nat.ne_of_lt (Nat.lt_succ_self _)
 refine ⟨by rw [upd_ne ne,upd_same],Nat.zero_le _,ne,e2,fun _=>none,(Heap.Ns1.of_empty e3).at fun o q=>Heap.get?_push_of_some _ q,fun _=>True.intro,fun y hy=>absurd rfl hy⟩
end
section
variable {X:Cx}{o e value:Expr}{f:Str}{pos pos' tpos:Pos}{ta tv:TE}
end
section
variable {X:Cx}{pins:List (Addr×Obj)}{σ:St}{H:Hp}{s:Shared}{A:Around}{E:Value→Shared→Prop}{Q:Value→Shared→Prop}{c:Value}{b:Bool}
inductive TyOf (K:PySem.W.Frag) (H:Hp):V→Value→Prop where
 | non:TyOf K H .non (.type "NoneType")
 | bl (x:Bool):TyOf K H (.bl x) (.type "bool")
 | int (i:Int):TyOf K H (.int i) (.type "int")
 | str (x:Str):TyOf K H (.str x) (.type "str")
 | flt (x:UInt64):TyOf K H (.flt x) (.type "float")
 | lst {a:Addr}{xs:List V} (e:H a=some (.lst xs)):TyOf K H (.ref a) (.type "list")
 | frz {a:Addr}{o:Obj}{xs:List V} (e:H a=some (.frz o (.lst xs))):TyOf K H (.ref a) (.type "list")
 | tup {a:Addr}{xs:List V} (e:H a=some (.tup xs)):TyOf K H (.ref a) (.type "tuple")
 | dK {a:Addr}{kvs:List (Key×V)} (e:H a=some (.dK kvs)):TyOf K H (.ref a) (.type "dict")
 | dT {a:Addr}{kvs:List (List Key×V)} (e:H a=some (.dT kvs)):TyOf K H (.ref a) (.type "dict")
 | ins {a C dx:Addr}{fs:List (Str×V)} (e:H a=some (.ins C dx fs)) (cl:Cls K C) (ha:PySem.W.findIn K (.ref C) "__class__" = some (some (.builtin "object.__class__")))
   (hn:PySem.W.specialIn K (.builtin "object.__class__") "__get__" = some (some (.builtin "getset_descriptor.__get__"))) (htk:PySem.W.takesIn K (.builtin "object.__class__")=some true)
   (hm:PySem.W.mroIn K C (.type "object")=some true):TyOf K H (.ref a) (.ref C)
theorem isinst_ok {x:V}{u t:Value} (I:Inv X pins σ H s) (rx:RelV x u) (ty:TyOf X.K H x t) (e:PySem.W.kitOne X.K t c=some b) (h:∀ tk,Q (.bool b) { s with toks:=tk }) :
  wpAny (model X.prog X.w) A (call (.builtin "isinstance") [u,c]) Q E s:=by
 cases ty with
 | non=>cases (show u=Value.none from rx);exact PySem.W.kia_one PySem.W.kitx_none I.kIn True.intro e (fun z=>nomatch z) h
 | bl y=>cases (show u=Value.bool y from rx);exact PySem.W.kia_one PySem.W.kitx_bool I.kIn True.intro e (fun z=>nomatch z) h
 | int i=>obtain ⟨t,q⟩:=(show ∃ t,u=Value.int i t from rx);cases q;exact PySem.W.kia_one PySem.W.kitx_int I.kIn True.intro e (fun z=>nomatch z) h
 | str y=>obtain ⟨t,q⟩:=(show ∃ t,u=Value.str y t from rx);cases q;exact PySem.W.kia_one PySem.W.kitx_str I.kIn True.intro e (fun z=>nomatch z) h
 | flt y=>obtain ⟨t,q⟩:=(show ∃ t,u=Value.float y t from rx);cases q;exact PySem.W.kia_one PySem.W.kitx_float I.kIn True.intro e (fun z=>nomatch z) h
 | @lst a xs ea=>
  cases (show u=Value.ref a from rx)
  obtain ⟨_,_,n,_,h1⟩:=(show ObjOk X.prog X.w H s.heap a (.lst xs) from I.hok a _ ea)
  exact PySem.W.kia_one PySem.W.kitx_list I.kIn ⟨_,h1,rfl⟩ e (fun z=>nomatch z) h
 | @frz a ob xs ea=>
  cases (show u=Value.ref a from rx)
  obtain ⟨_,_,_,n,_,h1⟩:=(show ObjOk X.prog X.w H s.heap a (.frz ob (.lst xs)) from I.hok a _ ea)
  exact PySem.W.kia_one PySem.W.kitx_list I.kIn ⟨_,h1,rfl⟩ e (fun z=>nomatch z) h
 | @tup a xs ea=>
  cases (show u=Value.ref a from rx)
  obtain ⟨_,_,_,p⟩:=(show ObjOk X.prog X.w H s.heap a (.tup xs) from I.hok a _ ea)
  obtain ⟨o,h1,h2,_⟩:=p
  exact PySem.W.kia_one PySem.W.kitx_tuple I.kIn ⟨o,h1,h2⟩ e (fun z=>nomatch z) h
 | @dK a kvs ea=>
  cases (show u=Value.ref a from rx)
  obtain ⟨_,_,vs,_,p⟩:=(show ObjOk X.prog X.w H s.heap a (.dK kvs) from I.hok a _ ea)
  obtain ⟨o,es,ep,h1,h2,_⟩:=p
  exact PySem.W.kia_one PySem.W.kitx_dict I.kIn ⟨o,h1,h2.1⟩ e (fun z=>nomatch z) h
 | @dT a kvs ea=>
  cases (show u=Value.ref a from rx)
  obtain ⟨_,_,xs,_,o,es,ep,h1,h2,_⟩:=(show ObjOk X.prog X.w H s.heap a (.dT kvs) from I.hok a _ ea)
  exact PySem.W.kia_one PySem.W.kitx_dict I.kIn ⟨o,h1,h2.1⟩ e (fun z=>nomatch z) h
 | @ins a C dx fs ea cl ha hn htk hm=>
  cases (show u=Value.ref a from rx)
  obtain ⟨mA,O,_⟩:=ins_get I.hok ea
  obtain ⟨od,J,_⟩:=O.look
  exact PySem.W.kia_one (PySem.W.kitx_own (cl.get _) cl.hd ha hn htk hm) I.kIn J e (fun z=>nomatch z) h
end
end L2
namespace L2
open PySem PySem.Spec PyProof.Rows
structure Room (k:Nat) (A:Around):Prop where
 hd:A.handled=none
 dp:A.depth+3 * k+5<recursionLimit
 un:A.units+16 * k+200<cLine
 gd:A.guards=some []
theorem Room.mono {j k:Nat}{A:Around} (r:Room k A) (h:j≤k):Room j A:=⟨r.hd,by have:=r.dp;lia,by have:=r.un;lia,r.gd⟩
theorem Room.deeper {k:Nat}{A:Around} (r:Room (k+1) A) (env:Env):Room k (A.deeper env):=
 ⟨r.hd,by have:=r.dp;show A.depth+1+3 * k+5<_;lia,by have:=r.un;show A.units+3+16 * k+200<_;lia,r.gd⟩
theorem Room.in1 {k:Nat}{A:Around} (r:Room (k+1) A):Room k A.in1:=
 ⟨r.hd,by have:=r.dp;show A.depth+3 * k+5<_;lia,by have:=r.un;show A.units+1+16 * k+200<_;lia,r.gd⟩
theorem Room.depth {k:Nat}{A:Around} (r:Room k A):A.depth<recursionLimit:=by have:=r.dp;lia
theorem Room.units {k:Nat}{A:Around} (r:Room k A):A.units+64<cLine:=by have:=r.un;lia
def tNil:TA:=fun _ H Q=>Q [] H
def tCons (ta:TE) (tr:TA):TA:=fun σ H Q=>ta σ H fun x H1=>tr σ H1 fun xs H2=>Q (x::xs) H2
section
variable {X:Cx}{e:Expr}{es:List Expr}{te:TE}{t:TA}{pos:Pos}
theorem pa_nil:PA X [] tNil:=fun _ _ _ _ H Q I h=>Calls.spliced_nil ⟨[],H,I,.nil,h⟩
theorem pa_cons (ha:PE X e te) (hr:PA X es t) (hs:starEach (e::es) X.env=(false,eval e X.env)::starEach es X.env:=by rfl):PA X (e::es) (tCons te t):=by
 intro pos pins s σ H Q I h
 rw [hs]
 show wpAny _ _ (spliced ((false,eval e X.env)::backTo pos (starEach es X.env))) _ _ s
 refine Calls.spliced_cons (thn (ha pins s σ H _ I h) fun u s1 ⟨x,H1,I1,r1,q1⟩=>?_)
 exact thn (hr pos pins s1 σ H1 _ I1 q1) fun us s2 ⟨xs,H2,I2,r2,q2⟩=>⟨x::xs,H2,I2,.cons r1 r2,q2⟩
def tTup (t:TA):TE:=fun σ H Q=>t σ H fun xs H1=>xs.length≤sizeLine∧∀ p,H1 p=none→Q (.ref p) (upd H1 p (.tup xs))
def tLst (t:TA):TE:=fun σ H Q=>t σ H fun xs H1=>xs.length≤sizeLine∧∀ p,H1 p=none→Q (.ref p) (upd H1 p (.lst xs))
theorem pe_tup {x1} (h:PA X es t):PE X (.Tuple es x1 pos) (tTup t):=by
 intro pins s σ H Q I hq
 refine wpAny_Tuple_spliced (thn (h pos pins s σ H _ I hq) fun us s1 ⟨xs,H1,I1,r,z,q⟩=>⟨by rw [← r.length];exact z,?_⟩)
 have hf:H1 s1.heap.objs.size=none:=I1.hok.fresh (Nat.le_refl _)
 refine ⟨.ref s1.heap.objs.size,upd H1 s1.heap.objs.size (.tup xs),I1.laid (t':=s1.toks) (fun b u e=>Heap.get?_push_of_some _ e) (Nat.le_refl _) ?_,rfl,q _ hf⟩
 exact ⟨z,us,r,⟨_,Heap.get?_push_size _ rfl,rfl,_,rfl⟩⟩
theorem pe_lst (h:PA X es t):PE X (.List es pos) (tLst t):=by
 intro pins s σ H Q I hq
 refine wpAny_List_spliced (thn (h pos pins s σ H _ I hq) fun us s1 ⟨xs,H1,I1,r,z,q⟩=>⟨by rw [← r.length];exact z,?_⟩)
 have hf:H1 s1.heap.objs.size=none:=I1.hok.fresh (Nat.le_refl _)
 refine ⟨.ref s1.heap.objs.size,upd H1 s1.heap.objs.size (.lst xs),I1.laid (t':=s1.toks) (fun b u e=>Heap.get?_push_of_some _ e) (Nat.le_refl _) ?_,rfl,q _ hf⟩
 exact ⟨z,us,0,r,Heap.get?_push_size _ rfl⟩
end
abbrev Sp:=List V→Hp→VK→XK→Prop
abbrev CXT:=List Env→Hp→Shared→XK→Value→Shared→Prop
structure Env0 (P:Program) (w:World) (K:PySem.W.Frag) (mg:Str→Option Value) (base:Heap) (A:Around) (outer:List Env) (s:Shared) (H:Hp):Prop where
 frames:A.frames=some outer
 mod:Mod K mg base
 bs:∀ b o,base.get? b=some o→s.heap.get? b=some o∧H b=none
 bsz:base.objs.size≤s.heap.objs.size
 funs:s.heap.FunFrames base outer
 frf:∀ b∈frs outer,H b=none
 hok:HOk P w H s.heap
 bare:AllBare s.gens
def CE (outer:List Env) (P:Program) (w:World) (H:Hp) (s:Shared) (Q:VK) (u:Value) (s':Shared):Prop:=
 ∃ v H',s'.os=s.os∧AllBare s'.gens∧Un (frs outer) [] H H' s.heap s'.heap∧HOk P w H' s'.heap∧RelV v u∧Q v H'
def CR (CX:CXT) (outer:List Env) (P:Program) (w:World) (H:Hp) (s:Shared) (Q:VK) (E:XK) (r:Result) (s':Shared):Prop:=
 match r with
 | .ok (.ret u)=>CE outer P w H s Q u s'
 | .ok _=>False
 | .error e=>CX outer H s E e s'
structure FnOk (P:Program) (w:World) (K:PySem.W.Frag) (mg:Str→Option Value) (base:Heap) (CX:CXT) (k:Nat) (f:Addr) (fd:FuncData) (ps:List Str) (sp:Sp):Prop where
 len:∀ vs H Q E,sp vs H Q E→vs.length=ps.length
 run:∀ (A:Around) (outer:List Env) (s:Shared) (H:Hp) (args:Args) (us:List Value) (vs:List V) (Q:VK) (E:XK),Room k A→Env0 P w K mg base A outer s H→BindsTo s fd args (ps.zip us)→Vals vs us→sp vs H Q E →
  codeAny (model P w) A (.call (.ref f) args) (CR CX outer P w H s Q E) s
theorem FnOk.mono {P:Program}{w:World}{K:PySem.W.Frag}{mg:Str→Option Value}{base:Heap}{CX:CXT}{j k:Nat}{f:Addr}{fd:FuncData}{ps:List Str}{sp:Sp} (F:FnOk P w K mg base CX j f fd ps sp) (h:j≤k) :
  FnOk P w K mg base CX k f fd ps sp:=⟨F.len,fun A outer s H args us vs Q E hr=>F.run A outer s H args us vs Q E (hr.mono h)⟩
theorem Env0.in1 {P:Program}{w:World}{K:PySem.W.Frag}{mg:Str→Option Value}{base:Heap}{A:Around}{outer:List Env}{s:Shared}{H:Hp} (e:Env0 P w K mg base A outer s H) :
  Env0 P w K mg base A.in1 outer s H:=⟨e.frames,e.mod,e.bs,e.bsz,e.funs,e.frf,e.hok,e.bare⟩
section
variable {X:Cx}{pins:List (Addr×Obj)}{σ:St}{H:Hp}{s s':Shared}
theorem Inv.env0 (I:Inv X pins σ H s):Env0 X.prog X.w X.K X.mg X.base X.A X.stack s H:=
 ⟨I.ok.frames,I.ok.mod,I.bs,Nat.le_trans I.ok.bsz I.sz,I.stack,I.stkFree,I.hok,I.bare⟩
theorem Inv.after {Q:VK}{u:Value} (I:Inv X pins σ H s) (h:CE X.stack X.prog X.w H s Q u s'):EP X pins σ Q u s':=by
 obtain ⟨v,H',os,bare,un,hok,r,q⟩:=h
 obtain ⟨hh,g,d,t,os'⟩:=s'
 obtain rfl:os' = s.os:=os
 exact ⟨v,H',I.call (h':=hh) (g':=g) (d':=d) (t':=t) (ch:=[]) un hok bare (fun b z=>absurd z (by simp)),r,q⟩
end
def tCall (sp:Sp) (dvs:List V) (E:XK) (t:TA):TE:=fun σ H Q=>t σ H fun vs H1=>sp (vs++dvs) H1 Q E
def Binds (K:PySem.W.Frag) (fd:FuncData) (ps:List Str) (ds:List Value):Prop:=
 ∀ (s:Shared) (us:List Value),K.In s.heap→(us++ds).length=ps.length→BindsTo s fd ⟨us,[]⟩ (ps.zip (us++ds))
theorem Binds.all {K:PySem.W.Frag}{fd:FuncData}{ps:List Str} (h:∀ us:List Value,us.length=ps.length→bindArgs fd ⟨us,[]⟩=pure (ps.zip us)):Binds K fd ps []:=fun s us _ hl=>by
 rw [List.append_nil] at hl ⊢
 exact .of_eq (h us hl)
def Passes (CX:CXT) (X:Cx) (E:XK):Prop:=∀ (pins:List (Addr×Obj)) (σ:St) (H:Hp) (s:Shared) (e:Value) (s':Shared),Inv X pins σ H s→CX X.stack H s E e s'→X.xe e s'
section
variable {X:Cx}{CX:CXT}{k:Nat}{f C:Addr}{fd:FuncData}{ps:List Str}{sp:Sp}{dvs:List V}{ds:List Value}{E:XK}{x m:Str}{p pos apos:Pos}{e o:Expr}{es:List Expr}{ta:TE}{t:TA}
theorem run_fn {pins:List (Addr×Obj)}{σ:St}{H:Hp}{s:Shared}{Q:VK}{us:List Value}{vs:List V} (F:FnOk X.prog X.w X.K X.mg X.base CX k f fd ps sp) (hr:Room k X.A) (hb:Binds X.K fd ps ds) (hd:Vals dvs ds) (hx:Passes CX X E)
  (I:Inv X pins σ H s) (r:Vals vs us) (h:sp (vs++dvs) H Q E):wpAny (model X.prog X.w) X.A (call (.ref f) us) (EP X pins σ Q) X.xe s:=by
 have r2:Vals (vs++dvs) (us++ds):=r.append hd
 have hl:(us++ds).length=ps.length:=by rw [← r2.length];exact F.len _ _ _ _ h
 refine wpAny_call (codeAny_mono (F.run X.A X.stack s H ⟨us,[]⟩ (us++ds) (vs++dvs) Q E hr I.env0 (hb s us I.kIn hl) r2 h) fun r s' hq=>?_)
 cases r with
 | error e=>exact hx pins σ H s e s' I hq
 | ok fl=>
  cases fl with
  | ret u=>exact I.after hq
  | next=>exact False.elim hq
  | brk=>exact False.elim hq
  | cont=>exact False.elim hq
theorem pe_call (F:FnOk X.prog X.w X.K X.mg X.base CX k f fd ps sp) (hr:Room k X.A) (hg:Gl X x) (hm:X.mg x=some (.ref f)) (hk:PySem.W.keepIn X.K (.ref f)=true) (hb:Binds X.K fd ps ds) (hd:Vals dvs ds) (hx:Passes CX X E)
  (ha:PA X (e::es) t) (hdb:(x == ("__debug__" : Str))=false:=by decide) (he:starEach (e::es) X.env=(false,eval e X.env)::starEach es X.env:=by rfl) (hpl:(backTo pos (starEach es X.env)).any (·.1)=false:=by rfl) :
  PE X (.Call (.Name x p) (e::es) [] pos) (tCall sp dvs E t):=by
 intro pins s σ H Q I h
 refine wpAny_Call_Name_kw (ld_glob I hg hm ?_ hdb)
 refine PySem.W.callWith_K (h₀:=X.base) I.ok.mod.kin hk (thn (ha pos pins s σ H _ I h) fun us s1 ⟨vs,H1,I1,r,q⟩=>⟨I1.kIn,?_⟩) he hpl
 exact run_fn F hr hb hd hx I1 r q
structure Mk (K:PySem.W.Frag) (C f:Addr):Prop where
 makes:PySem.W.makesIn K C=true
 init:PySem.W.findIn K (.ref C) "__init__" = some (some (.ref f))
 fn:PySem.W.isFn K (.ref f)=true
 kp:PySem.W.keepIn K (.ref C)=true
end
section
variable {X:Cx}{CX:CXT}{k:Nat}{f C:Addr}{fd:FuncData}{ps ks:List Str}{sp:Sp}{E:XK}{x m:Str}{p pos apos kpos:Pos}{e o:Expr}{es:List Expr}{kws:List Keyword}{te ta:TE}{t tk:TA}{nm:Option Str}
structure KBinds (K:PySem.W.Frag) (fd:FuncData) (ps ks:List Str) (g:List Value→List Value→List Value) (gV:List V→List V→List V):Prop where
 to:∀ (s:Shared) (us ws:List Value),K.In s.heap→(g us ws).length=ps.length→BindsTo s fd ⟨us,ks.zip ws⟩ (ps.zip (g us ws))
 rel:∀ {vs:List V}{us:List Value}{zs:List V}{ws:List Value},Vals vs us→Vals zs ws→Vals (gV vs zs) (g us ws)
variable {g:List Value→List Value→List Value}{gV:List V→List V→List V}
end
structure FnScope (N P:List Str) (sc:Scope):Prop where
 kind:sc.kind = .function
 co:sc.isCoroutine=false
 gen:sc.isGenerator=false
 nd:N.Nodup
 pre:N.take P.length=P
 par:∀ x∈P,sc.names.lookup x=some .local∨sc.names.lookup x=some .cell
 nofree:∀ y∈sc.names,y.2 ≠ .free
theorem bindL_out {kindOf:Str→Option NameKind}{x:Str}:∀ {binds:List (Str×Value)}{m:Str→Option Value},(∀ v,(x,v)∉binds)→bindL kindOf binds m x=m x
 | [],_,_=>rfl
 | (n,v)::r,m,h=>by
  unfold bindL
  rw [bindL_out fun w hw=>h w (List.mem_cons_of_mem _ hw)]
  split
  ·have:x≠n:=by rintro rfl;exact h v List.mem_cons_self
   simp [this]
  ·rfl
theorem bindC_out {kindOf:Str→Option NameKind}{x:Str}:∀ {binds:List (Str×Value)}{m:Str→Option Value},(∀ v,(x,v)∉binds)→bindC kindOf binds m x=m x
 | [],_,_=>rfl
 | (n,v)::r,m,h=>by
  unfold bindC
  rw [bindC_out fun w hw=>h w (List.mem_cons_of_mem _ hw)]
  split
  ·rfl
  ·have:x≠n:=by rintro rfl;exact h v List.mem_cons_self
   simp [this]
theorem bindL_get {kindOf:Str→Option NameKind}{x:Str}{v:Value}:∀ {P:List Str}{vs:List Value}{i:Nat}{m:Str→Option Value},P.Nodup→P[i]? = some x→vs[i]? = some v→kindOf x=some .local →
  bindL kindOf (P.zip vs) m x=some v
 | [],_,_,_,_,h,_,_=>by simp at h
 | _::_,[],_,_,_,_,h,_=>by simp at h
 | p::P,w::vs,0,m,nd,h1,h2,hk=>by
  simp at h1 h2;subst h1;subst h2
  show bindL kindOf ((p,w)::P.zip vs) m p=_
  unfold bindL
  rw [bindL_out fun v hv=>(List.nodup_cons.mp nd).1 (List.of_mem_zip hv).1,if_pos hk]
  simp
 | p::P,w::vs,i+1,m,nd,h1,h2,hk=>by
  show bindL kindOf ((p,w)::P.zip vs) m x=_
  unfold bindL
  exact bindL_get (i:=i) (List.nodup_cons.mp nd).2 (by simpa using h1) (by simpa using h2) hk
theorem bindC_get {kindOf:Str→Option NameKind}{x:Str}{v:Value}:∀ {P:List Str}{vs:List Value}{i:Nat}{m:Str→Option Value},P.Nodup→P[i]? = some x→vs[i]? = some v→kindOf x≠some .local →
  bindC kindOf (P.zip vs) m x=some v
 | [],_,_,_,_,h,_,_=>by simp at h
 | _::_,[],_,_,_,_,h,_=>by simp at h
 | p::P,w::vs,0,m,nd,h1,h2,hk=>by
  simp at h1 h2;subst h1;subst h2
  show bindC kindOf ((p,w)::P.zip vs) m p=_
  unfold bindC
  rw [bindC_out fun v hv=>(List.nodup_cons.mp nd).1 (List.of_mem_zip hv).1,if_neg hk]
  simp
 | p::P,w::vs,i+1,m,nd,h1,h2,hk=>by
  show bindC kindOf ((p,w)::P.zip vs) m x=_
  unfold bindC
  exact bindC_get (i:=i) (List.nodup_cons.mp nd).2 (by simpa using h1) (by simpa using h2) hk
def start (N:List Str) (vs:List V):St:=vs.map some++List.replicate (N.length - vs.length) none
def cxOf (CX:CXT) (P:Program) (w:World) (K:PySem.W.Frag) (mg:Str→Option Value) (base:Heap) (N:List Str) (qual:Str) (scope:Scope) (f:Addr) (cd:Value) (A:Around) (outer:List Env) (s:Shared) (H:Hp) (E:XK):Cx where
 prog:=P
 w:=w
 K:=K
 mg:=mg
 base:=base
 A:=A.deeper (envOfC qual scope s.heap.objs.size f cd)
 N:=N
 s₀:=s
 H₀:=H
 env:=envOfC qual scope s.heap.objs.size f cd
 outer:=outer
 stack:=envOfC qual scope s.heap.objs.size f cd::outer
 ex:=[]
 calm:=true
 fn:=fun _=>true
 pn:=[]
 xe:=fun e s'=>wpAny (model P w) (A.deeper (envOfC qual scope s.heap.objs.size f cd)) (leaving (envOfC qual scope s.heap.objs.size f cd) e) (fun _ s''=>CX outer H s E e s'') (fun e' s''=>CX outer H s E e' s'') s'
theorem cell_has {sc:Scope}{n:Nat}{x:Str} (h:sc.names.lookup x=some .cell):∃ c,(cellsFrom n sc.names []).lookup x=some c:=by
 have q:=PySem.W.cellsFrom_some sc.names n [] (.inl h)
 exact Option.isSome_iff_exists.mp q
theorem inv_start {CX:CXT}{P:Program}{w:World}{K:PySem.W.Frag}{mg:Str→Option Value}{base:Heap}{N ps:List Str}{qual:Str}{scope:Scope}{f:Addr}{cd:Value}{A:Around}{outer:List Env}{s s1:Shared}{H:Hp}{E:XK}{us:List Value}{vs:List V}
  (S:FnScope N ps scope) (hd:A.handled=none) (e0:Env0 P w K mg base A outer s H) (hl:vs.length=ps.length) (r:Vals vs us)
  (x:InCallC s s.heap.objs.size (bindL (envOfC qual scope s.heap.objs.size f cd).kindOf (ps.zip us) fun _=>none) (cellsFrom (s.heap.objs.size+1) scope.names []) (bindC (envOfC qual scope s.heap.objs.size f cd).kindOf (ps.zip us) fun _=>none) s1) :
  Inv (cxOf CX P w K mg base N qual scope f cd A outer s H E) [] (start N vs) H s1:=by
 have hpl:ps.length≤N.length:=by have:=congrArg List.length S.pre;rw [List.length_take] at this;lia
 obtain ⟨h1,tk,rfl,hk⟩:=x.done
 have noA:∀ b:Addr,b∉(cxOf CX P w K mg base N qual scope f cd A outer s H E).ex:=fun b z=>absurd (show b∈([]:List Addr) from z) (by simp)
 refine ⟨⟨e0.mod,S.kind,rfl,rfl,Nat.le_refl _,fun y z c h1 h2=>?_,fun y hy=>?_,fun y c _ h=>?_,fun _=>hd,Around.frames_deeper e0.frames,.inr ⟨rfl,rfl⟩,fun b z=>absurd z (noA b),e0.bs,e0.bsz,fun b _ _=>noA b,fun b z=>absurd z (noA b),e0.funs,e0.frf⟩,
  rfl,e0.bare,Un.kept hk,⟨_,x.toInCall.ns,fun i y v h1 h2 h3=>?_⟩,fun y c h=>⟨_,x.cell y c h⟩,e0.hok.fresh (Nat.le_refl _),fun y c h=>?_,fun p hp=>absurd (show p∈([]:List (Addr×Obj)) from hp) (by simp),e0.hok.kept hk,?_⟩
 ·exact name_of_addr x.apart (PySem.mem_of_lookup h1) (PySem.mem_of_lookup h2)
 ·have hy:scope.names.lookup y=some .cell∨scope.names.lookup y=some .free:=hy
  rcases hy with hy | hy
  ·exact cell_has hy
  ·exact absurd rfl (S.nofree _ (PySem.mem_of_lookup hy))
 ·exact Nat.le_of_lt (x.above y c (PySem.mem_of_lookup h))
 ·have hi:i<vs.length:=by
   unfold start at h2
   by_cases hi:i<vs.length
   ·exact hi
   ·rw [List.getElem?_append_right (by simpa using hi)] at h2
    rw [List.getElem?_replicate] at h2
    split at h2 <;> cases h2
  have ha:vs[i]? = some v:=by
   unfold start at h2
   rw [List.getElem?_append_left (by simpa using hi),List.getElem?_map] at h2
   cases e:vs[i]? with
   | none=>rw [e] at h2;cases h2
   | some a=>rw [e] at h2;cases h2;rfl
  obtain ⟨u,hu,rv⟩:=r.get ha
  have hp:ps[i]? = some y:=by
   rw [← S.pre,List.getElem?_take_of_lt (by lia)];exact h1
  have ndP:ps.Nodup:=by rw [← S.pre];exact S.nd.sublist (List.take_sublist _ _)
  refine ⟨u,rv,?_⟩
  rcases S.par y (List.mem_of_getElem? hp) with k | k
  ·exact .inl ⟨k,bindL_get ndP hp hu k⟩
  ·obtain ⟨c,e⟩:=cell_has (n:=s.heap.objs.size+1) k
   refine .inr ⟨.inl k,c,e,?_⟩
   have q:=x.cell y c e
   rw [bindC_get ndP hp hu (by show scope.names.lookup y≠_;rw [k];decide)] at q
   exact q
 ·exact e0.hok.fresh (Nat.le_of_lt (x.above y c (PySem.mem_of_lookup h)))
 ·unfold start
  show _=N.length
  rw [List.length_append,List.length_map,List.length_replicate]
  lia
theorem fn_of {CX:CXT}{P:Program}{w:World}{K:PySem.W.Frag}{mg:Str→Option Value}{base:Heap}{k:Nat}{f:Addr}{name qual:Str}{params:Arguments}{body:List Stmt}{scope:Scope}{dV kV doc pm cdv ct oc:Value}{an od:Option Addr}
  {osl:Array (Option Value)}{N ps:List Str}{sp:Sp} (lk:K.lookup f=some ⟨oc,od,.func (PySem.W.fnOf name qual params body scope dV kV doc pm an cdv ct),osl⟩) (hcd:PySem.W.codeIn K cdv qual=true) (S:FnScope N ps scope)
  (len:∀ vs H Q E,sp vs H Q E→vs.length=ps.length)
  (hbody:∀ (A:Around) (outer:List Env) (s:Shared) (H:Hp) (vs:List V) (Q:VK) (E:XK),Room k (A.deeper (envOfC qual scope s.heap.objs.size f cdv))→sp vs H Q E →
   ∃ t,PSs (cxOf CX P w K mg base N qual scope f cdv A outer s H E) body t∧t { nx:=fun _ H'=>Q .non H',rt:=Q } (start N vs) H) :
  FnOk P w K mg base CX (k+1) f (PySem.W.fnOf name qual params body scope dV kV doc pm an cdv ct) ps sp:=by
 refine ⟨len,fun A outer s H args us vs Q E hr e0 hb r hsp=>?_⟩
 have hl:=len _ _ _ _ hsp
 have KX:K.In s.heap:=e0.mod.kin.keeps fun b o e=>(e0.bs b o e).1
 have lim:s.heap.NoLimit:=e0.mod.nolimit.keeps fun b o e=>(e0.bs b o e).1
 have hkind:∀ y∈ps.zip us,scope.names.lookup y.1=some .local∨(scope.names.lookup y.1=some .cell∧((cellsFrom (s.heap.objs.size+1) scope.names []).lookup y.1).isSome=true):=fun ⟨n,v⟩ hy=>by
  rcases S.par n (List.of_mem_zip hy).1 with q | q
  ·exact .inl q
  ·exact .inr ⟨q,PySem.W.cellsFrom_some _ _ _ (.inl q)⟩
 refine codeAny_call_function hr.depth (KX _ _ lk) rfl S.co S.gen rfl (PySem.W.codeRec_of KX hcd) (hb _ _ _ _ ?_)
 refine wpAny_newFunctionEnv_cells S.kind hkind fun env he s1 x=>?_
 subst he
 refine ⟨lim.keeps x.toInCall.keep,codeAny_func ?_⟩
 obtain ⟨t,ht,hq⟩:=hbody A outer s H vs Q E (hr.deeper _) hsp
 have I:Inv (cxOf CX P w K mg base N qual scope f cdv A outer s H E) [] (start N vs) H s1:=inv_start S hr.hd e0 hl r x
 refine wpAny_mono (ht [] s1 (start N vs) H _ I hq) (fun fl s' hs=>?_) fun e s' hs=>hs
 have fin:∀ {σ':St}{H':Hp}{v:V}{u:Value},Inv (cxOf CX P w K mg base N qual scope f cdv A outer s H E) [] σ' H' s'→RelV v u→Q v H'→CE outer P w H s Q u s':=
  fun {σ' H' v u} J rv q=>⟨v,H',J.os,J.bare,J.base,J.hok,rv,q⟩
 cases fl with
 | ret u=>
  obtain ⟨v,σ',H',J,rv,q⟩:=hs
  exact fin J rv q
 | next=>
  obtain ⟨σ',H',J,q⟩:=hs
  exact fin (v:=V.non) (u:=Value.none) J rfl q
 | brk=>
  obtain ⟨_,_,_,q⟩:=hs
  exact False.elim q
 | cont=>
  obtain ⟨_,_,_,q⟩:=hs
  exact False.elim q
end L2
namespace L2
open PySem PySem.Spec PyProof.Rows
section
variable {X:Cx}{x:Str}{p pos:Pos}{e:Expr}{es:List Expr}{t:TA}{id T:String}{r:List V→Hp→VK→Prop}
def tCB (r:List V→Hp→VK→Prop) (t:TA):TE:=fun σ H Q=>t σ H fun vs H1=>r vs H1 Q
theorem pe_callB (hc:CallR X (.builtin id) r) (hg:Gl X x) (hm:X.mg x=none) (hv:bootBuiltins x=some (.builtin id)) (ha:PA X (e::es) t) (hn:x ≠ "__name__" :=by decide) (hdb:(x == ("__debug__" : Str))=false:=by decide)
  (he:starEach (e::es) X.env=(false,eval e X.env)::starEach es X.env:=by rfl) (hpl:(backTo pos (starEach es X.env)).any (·.1)=false:=by rfl):PE X (.Call (.Name x p) (e::es) [] pos) (tCB r t):=by
 intro pins s σ H Q I h
 refine wpAny_Call_Name_kw (ld_blt I hg hm hv ?_ hn hdb)
 exact PyProof.Rows.callWith_builtin1 (thn (ha pos pins s σ H _ I h) fun us s1 ⟨vs,H1,I1,r1,q1⟩=>hc pins s1 σ H1 vs us Q I1 r1 q1) he hpl
theorem pe_callTy (hc:CallR X (.type T) r) (hg:Gl X x) (hm:X.mg x=none) (hv:bootBuiltins x=some (.type T)) (ha:PA X (e::es) t) (hn:x ≠ "__name__" :=by decide) (hdb:(x == ("__debug__" : Str))=false:=by decide)
  (he:starEach (e::es) X.env=(false,eval e X.env)::starEach es X.env:=by rfl) (hpl:(backTo pos (starEach es X.env)).any (·.1)=false:=by rfl):PE X (.Call (.Name x p) (e::es) [] pos) (tCB r t):=by
 intro pins s σ H Q I h
 refine wpAny_Call_Name_kw (ld_blt I hg hm hv ?_ hn hdb)
 exact PyProof.Rows.callWith_type1 (thn (ha pos pins s σ H _ I h) fun us s1 ⟨vs,H1,I1,r1,q1⟩=>hc pins s1 σ H1 vs us Q I1 r1 q1) he hpl
end
end L2
namespace HT
open PySem PyProof.Rows
theorem rcLt_int (A:Around) (s:Shared) (a:Int) (t:Tok) (c:Int) (u:Tok) (prog:Program) (w:World) (E:Value→Shared→Prop) (Q:Value→Shared→Prop) (h:Q (.bool (decide (a<c))) s) :
  wpAny (model prog w) A (richCompare .Lt (.int a t) (.int c u)) Q E s:=
 (PyProof.Rows.lt_int h:wpAny (model prog w) A (compareOp .Lt (.int a t) (.int c u)) Q E s)
section
open PySem.SeqAt
open PySem.AutoSeq1 (wpAny_loadPart')
open PySem.MeetsSeq PySem.MeetsSeq2 PySem.MeetsSeq3
end
section
variable {prog:Program}{w:World}{A:Around}{E:Value→Shared→Prop}{s:Shared}
def sIx (n d:Nat):Option Int→Nat
 | none=>d
 | some v=>if v<0 then (v+(n:Int)).toNat else min v.toNat n
theorem sIx_none (n d:Nat):sIx n d none=d:=rfl
theorem sIx_nat (n d k:Nat):sIx n d (some (k:Int))=min k n:=by
 show (if (k:Int)<0 then ((k:Int)+(n:Int)).toNat else min (k:Int).toNat n)=min k n
 rw [if_neg (by lia),Int.toNat_natCast]
end
end HT
namespace L2
open PySem PySem.Spec PyProof.Rows
abbrev TO:=St→Hp→(Option Int→Hp→Prop)→Prop
def PO (X:Cx) (e:Option Expr) (t:TO):Prop:=
 ∀ (pins:List (Addr×Obj)) (s:Shared) (σ:St) (H:Hp) (Q:Option Int→Hp→Prop),Inv X pins σ H s→t σ H Q →
  wpAny (model X.prog X.w) X.A (evalPart e X.env) (fun u s'=>∃ o H',Inv X pins σ H' s'∧IsPart u o∧Q o H') X.xe s
def tNoPart:TO:=fun _ H Q=>Q none H
def tPart (t:TE):TO:=fun σ H Q=>t σ H fun x H1=>∃ i,x = .int i∧Q (some i) H1
section
variable {X:Cx}{e:Expr}{te:TE}{lo hi:Option Expr}{tl th:TO}{pos p2:Pos}
theorem po_none:PO X none tNoPart:=by
 intro pins s σ H Q I h
 rw [evalPart_none]
 exact wpAny_pure ⟨none,H,I,.none,h⟩
theorem po_some (h:PE X e te):PO X (some e) (tPart te):=by
 intro pins s σ H Q I hw
 rw [evalPart_some]
 refine thn (h pins s σ H _ I hw) fun u s1 ⟨x,H1,I1,r1,q1⟩=>?_
 obtain ⟨i,rfl,q⟩:=q1
 obtain ⟨t,rfl⟩:=r1
 exact ⟨some i,H1,I1,.int i t,q⟩
def SlR (X:Cx) (r:V→Option Int→Option Int→Hp→VK→Prop):Prop:=
 ∀ (pins:List (Addr×Obj)) (s:Shared) (σ:St) (H:Hp) (x:V) (v vl vu:Value) (lo hi:Option Int) (sl:Addr) (Q:VK),Inv X pins σ H s→RelV x v→s.heap.IsSliceOf sl vl vu .none→IsPart vl lo→IsPart vu hi→r x lo hi H Q →
  ∃ T id,typeLookup (.type T) "__getitem__" = pure (some (.builtin id))∧s.TypeIs v T∧wpAny (model X.prog X.w) X.A (getItem v (.ref sl)) (EP X pins σ Q) X.xe s
def tSl (r:V→Option Int→Option Int→Hp→VK→Prop) (te:TE) (tl th:TO):TE:=fun σ H Q=>te σ H fun x H1=>tl σ H1 fun l H2=>th σ H2 fun u H3=>r x l u H3 Q
theorem pe_slice {r:V→Option Int→Option Int→Hp→VK→Prop} (hr:SlR X r) (he:PE X e te) (hl:PO X lo tl) (hu:PO X hi th):PE X (.Subscript e (.Slice lo hi none p2) pos) (tSl r te tl th):=by
 intro pins s σ H Q I h
 refine Subscript_ (thn (he pins s σ H _ I h) fun v s1 ⟨x,H1,I1,r1,q1⟩=>?_)
 refine wpAny_Slice (thn (hl pins s1 σ H1 _ I1 q1) fun vl s2 ⟨l,H2,I2,pl,q2⟩=>thn (hu pins s2 σ H2 _ I2 q2) fun vu s3 ⟨u,H3,I3,pu,q3⟩=>?_)
 rw [evalPart_none]
 refine wpAny_pure ?_
 have I4:Inv X pins σ H3 { s3 with heap:=s3.heap.push { cls:=.type "slice",data:=.fields #[vl,vu,.none] } }:=I3.kept (t':=s3.toks) fun b ob q=>Heap.get?_push_of_some _ q
 obtain ⟨T,id,hT,ht,hg⟩:=hr pins { s3 with heap:=s3.heap.push { cls:=.type "slice",data:=.fields #[vl,vu,.none] } } σ H3 x v vl vu l u s3.heap.objs.size Q I4 r1 (Heap.IsSliceOf.new ..) pl pu q3
 show wpAny (model X.prog X.w) X.A (subscriptTail e (.Slice lo hi none p2) v (.ref s3.heap.objs.size)) (EP X pins σ Q) X.xe { s3 with heap:=s3.heap.push { cls:=.type "slice",data:=.fields #[vl,vu,.none] } }
 exact tail_any (ops:=[.ref s3.heap.objs.size,v]) ht hT hg (by with_unfolding_all rfl)
def cutV (xs:List V) (lo hi:Option Int):List V:=(xs.drop (HT.sIx xs.length 0 lo)).take (HT.sIx xs.length xs.length hi - HT.sIx xs.length 0 lo)
theorem cutV_length (xs:List V) (lo hi:Option Int):(cutV xs lo hi).length≤xs.length:=by
 unfold cutV
 rw [List.length_take,List.length_drop]
 lia
end
end L2
namespace L2
open PySem PySem.Spec PyProof.Rows
def ixN (n:Nat) (i:Int):Option Nat:=if 0≤i then (if i<n then some i.toNat else none) else if -(n:Int)≤i then some (i+n).toNat else none
def atI {α:Type} (xs:List α) (i:Int):Option α:=(ixN xs.length i).bind fun j=>xs[j]?
theorem ixN_seq {n:Nat}{i:Int}{j:Nat} (h:ixN n i=some j):seqIndex? i n=some j∧j<n ∧ -(n:Int)≤i∧i<n:=by
 unfold ixN at h
 by_cases h0:0≤i
 ·rw [if_pos h0] at h
  by_cases h1:i<n
  ·rw [if_pos h1] at h
   have e:i.toNat=j:=Option.some.inj h
   exact ⟨by rw [seqIndex_of h0 h1,e],by lia,by lia,h1⟩
  ·rw [if_neg h1] at h;cases h
 ·rw [if_neg h0] at h
  by_cases h1 : -(n:Int)≤i
  ·rw [if_pos h1] at h
   have e:(i+n).toNat=j:=Option.some.inj h
   exact ⟨by rw [seqIndex_neg (by lia) h1,e],by lia,h1,by lia⟩
  ·rw [if_neg h1] at h;cases h
theorem atI_get {α:Type}{xs:List α}{i:Int}{v:α} (h:atI xs i=some v):∃ j,seqIndex? i xs.length=some j∧xs[j]? = some v∧j<xs.length ∧ -(xs.length:Int)≤i∧i<xs.length:=by
 unfold atI at h
 cases e:ixN xs.length i with
 | none=>rw [e] at h;cases h
 | some j=>
  rw [e] at h
  obtain ⟨h1,h2,h3,h4⟩:=ixN_seq e
  exact ⟨j,h1,h,h2,h3,h4⟩
theorem atI_nat {α:Type}{xs:List α}{j:Nat}{v:α} (h:xs[j]? = some v):atI xs (j:Int)=some v:=by
 have hj:j<xs.length:=(List.getElem?_eq_some_iff.mp h).1
 have e:ixN xs.length (j:Int)=some j:=by
  unfold ixN
  rw [if_pos (by lia),if_pos (by lia)];simp
 unfold atI;rw [e];exact h
def PlainIx (b:Expr):Prop:=∀ o i,subscripted b false o i=operate [o,i] (getItem o i)
def IxR (X:Cx) (r:R2):Prop:=
 ∀ (value slice:Expr) (pins:List (Addr×Obj)) (s:Shared) (σ:St) (H:Hp) (x y:V) (v u:Value) (Q:VK),Inv X pins σ H s→RelV x v→RelV y u→r x y H Q →
  subscripted slice false v u=operate [v,u] (getItem v u)→wpAny (model X.prog X.w) X.A (subscriptTail value slice v u) (EP X pins σ Q) X.xe s
def MtR (X:Cx) (id:String) (r:V→List V→Hp→VK→Prop):Prop:=
 ∀ (pins:List (Addr×Obj)) (s:Shared) (σ:St) (H:Hp) (x:V) (xs:List V) (v:Value) (us:List Value) (Q:VK),Inv X pins σ H s→RelV x v→Vals xs us→r x xs H Q →
  wpAny (model X.prog X.w) X.A (call (.builtin id) (v::us)) (EP X pins σ Q) X.xe s
section
variable {X:Cx}{a b:Expr}{ta tb:TE}{pos:Pos}
theorem pe_ix {r:R2} (hr:IxR X r) (ha:PE X a ta) (hb:PE X b tb) (hs:PlainIx b):PE X (.Subscript a b pos) (tOp r ta tb):=by
 intro pins s σ H Q I h
 exact Subscript_ (binT ha hb I h fun v u s2 x y H2 I2 rx ry q=>hr a b pins s2 σ H2 x y v u Q I2 rx ry q (hs _ _))
def rIxL (K:PySem.W.Frag):R2:=fun x y H Q=>∃ p xs i v,x = .ref p∧y = .int i∧SqL K H p xs∧atI xs i=some v∧Q v H
def rIxT (K:PySem.W.Frag):R2:=fun x y H Q=>∃ p xs i v,x = .ref p∧y = .int i∧SqT K H p xs∧atI xs i=some v∧Q v H
def rIxS:R2:=fun x y H Q=>∃ z i c,x = .str z∧y = .int i∧z.length≤sizeLine∧atI z.cps.toList i=some c∧Q (.str ⟨#[c]⟩) H
theorem ix_list:IxR X (rIxL X.K):=by
 intro value slice pins s σ H x y v u Q I rx ry h hs
 obtain ⟨p,xs,i,z,rfl,rfl,hq,he,q⟩:=h
 cases rx
 obtain ⟨t,rfl⟩:=ry
 obtain ⟨its,r,pl,hz⟩:=I.list hq
 obtain ⟨j,h1,h2,h3,h4,h5⟩:=atI_get he
 obtain ⟨w,ew,rw'⟩:=r.get h2
 have hl:=r.length
 have hn:=line63
 have fin:EP X pins σ Q w s:=⟨z,H,I,rw',q⟩
 by_cases h0:0≤i
 ·have hj:i.toNat=j:=by
   rw [seqIndex_of h0 h5] at h1
   exact Option.some.inj h1
  exact item_listR pl.isList h0 (by lia) (by rw [hj];simpa using ew) fin hs
 ·have hj:(i+(its.toArray.size:Int)).toNat=j:=by
   rw [seqIndex_neg (by lia) h4] at h1
   rw [List.size_toArray,← hl]
   exact Option.some.inj h1
  exact subscriptTail_builtinR (x:=w) pl.isList.typeIs slot_list_getitem.lookup
   (wpAny_getItem_list_neg (Q:=fun r s'=>r=w∧EP X pins σ Q r s') pl.isList (by lia) (by rw [List.size_toArray] <;> lia) (by lia) (by rw [hj];simpa using ew) ⟨rfl,fin⟩) hs
theorem ix_tup:IxR X (rIxT X.K):=by
 intro value slice pins s σ H x y v u Q I rx ry h hs
 obtain ⟨p,xs,i,z,rfl,rfl,hq,he,q⟩:=h
 cases rx
 obtain ⟨t,rfl⟩:=ry
 obtain ⟨its,r,pl,hz⟩:=I.tuple hq
 obtain ⟨j,h1,h2,h3,h4,h5⟩:=atI_get he
 obtain ⟨w,ew,rw'⟩:=r.get h2
 have hl:=r.length
 have hn:=line63
 have fin:EP X pins σ Q w s:=⟨z,H,I,rw',q⟩
 exact subscriptTail_builtinR (x:=w) pl.typeIs slot_tuple_getitem.lookup
  (getItem_tuple (j:=j) (Q:=fun r s'=>r=w∧EP X pins σ Q r s') pl (by lia) (by lia) (by rw [List.size_toArray,← hl];exact h1) (by simpa using ew) ⟨rfl,fin⟩) hs
theorem ix_str:IxR X rIxS:=by
 intro value slice pins s σ H x y v u Q I rx ry h hs
 obtain ⟨z,i,c,rfl,rfl,hz,he,q⟩:=h
 obtain ⟨t,rfl⟩:=rx
 obtain ⟨t',rfl⟩:=ry
 obtain ⟨j,h1,h2,h3,h4,h5⟩:=atI_get he
 have hl:z.cps.toList.length=z.length:=by simp [Str.length]
 rw [hl] at h1 h4 h5
 have hn:=line63
 exact tail_any (typeIs_str s z t) slot_str_getitem.lookup (getItem_str (c:=c) (by
  have e1:decide (i < -(2 ^ 63:Int))=false:=decide_eq_false (by lia)
  have e2:decide (i ≥ 2 ^ 63)=false:=decide_eq_false (by lia)
  rw [e1,e2,Bool.or_false]) (by rw [h1];simpa using h2) ⟨.str ⟨#[c]⟩,H,I.tok _,⟨_,rfl⟩,q⟩) hs
theorem mapSeq_set (its:List Value) (n j:Nat) (u:Value):Obj.mapSeq (·.setIfInBounds j u) { cls:=.type "list",data:=.seq its.toArray n }={ cls:=.type "list",data:=.seq (its.set j u).toArray n }:=by
 simp [Obj.mapSeq]
theorem Inv.lst {pins:List (Addr×Obj)}{σ:St}{H:Hp}{s:Shared}{p:Addr}{xs:List V} (I:Inv X pins σ H s) (h:H p=some (.lst xs)) :
  ∃ (its:List Value) (n:Nat),Vals xs its∧s.heap.get? p=some { cls:=.type "list",data:=.seq its.toArray n }∧xs.length≤sizeLine:=by
 obtain ⟨z,its,n,r,e⟩:=I.hok p _ h
 exact ⟨its,n,r,e,z⟩
theorem Inv.lstUpd {pins:List (Addr×Obj)}{σ:St}{H:Hp}{s:Shared}{p:Addr}{xs ys:List V}{its its':List Value}{n n':Nat}{f:Obj→Obj} (I:Inv X pins σ H s) (h:H p=some (.lst xs))
  (ho:s.heap.get? p=some { cls:=.type "list",data:=.seq its.toArray n }) (hf:f { cls:=.type "list",data:=.seq its.toArray n }={ cls:=.type "list",data:=.seq its'.toArray n' }) (r:Vals ys its') (hz:ys.length≤sizeLine) (t:Nat) :
  Inv X pins σ (upd H p (.lst ys)) { s with heap:=s.heap.update p f,toks:=t }:=by
 have e:(s.heap.update p f).get? p=some { cls:=.type "list",data:=.seq its'.toArray n' }:=by
  rw [Heap.get?_update_self f ho (by rw [hf] <;> rfl),hf]
 refine I.write (x:=p) (e:=p) (by rw [h];trivial) (.inl rfl) (fun b u hb q=>(Heap.get?_update_other _ _ (Ne.symm hb)).trans q) ⟨_,e⟩ ?_
 exact ⟨hz,its',n',r,e⟩
def rSetL:V→V→V→Hp→(Hp→Prop)→Prop:=fun o i v H Q=>∃ p xs k j,o = .ref p∧i = .int k∧H p=some (.lst xs)∧ixN xs.length k=some j∧Q (upd H p (.lst (xs.set j v)))
theorem set_list:PSet X rSetL:=by
 intro pins s σ H o i v ov iv u Q I ro ri rv h
 obtain ⟨p,xs,k,j,rfl,rfl,hp,hj,q⟩:=h
 cases ro
 obtain ⟨t,rfl⟩:=ri
 obtain ⟨its,n,r,ho,hz⟩:=I.lst hp
 obtain ⟨h1,h2,h3,h4⟩:=ixN_seq hj
 have hl:=r.length
 have hn:=line63
 have I':Inv X pins σ (upd H p (.lst (xs.set j v))) { s with heap:=s.heap.update p (Obj.mapSeq (·.setIfInBounds j u)) }:=
  I.lstUpd hp ho (mapSeq_set its n j u) (r.set rv j) (by rw [List.length_set];exact hz) s.toks
 by_cases h0:0≤k
 ·have hk:k.toNat=j:=by
   rw [seqIndex_of h0 h4] at h1
   exact Option.some.inj h1
  exact PySem.W.ki_setAt ho h0 (by lia) (by rw [List.size_toArray,← hl];exact h4) (by rw [hk];exact ⟨_,I',q⟩)
 ·have hk:(k+(its.toArray.size:Int)).toNat=j:=by
   rw [seqIndex_neg (by lia) h3] at h1
   rw [List.size_toArray,← hl]
   exact Option.some.inj h1
  exact PySem.W.ki_setBack ho (by lia) (by rw [List.size_toArray,← hl];exact h3) (by lia) (by rw [hk];exact ⟨_,I',q⟩)
theorem slice_bounds (lo hi:Option Int) (n:Nat):(sliceBounds lo hi none n).1=((HT.sIx n 0 lo:Nat):Int)∧(sliceBounds lo hi none n).2.1=((HT.sIx n n hi:Nat):Int)∧(sliceBounds lo hi none n).2.2=1:=by
 refine ⟨?_,?_,rfl⟩
 ·cases lo with
  | none=>simp [sliceBounds,HT.sIx]
  | some i=>
   simp only [sliceBounds,HT.sIx,Option.getD_none,show (1:Int) > 0 by decide,if_true]
   by_cases h:i<0
   ·simp only [h,if_true] <;> lia
   ·simp only [h,if_false] <;> lia
 ·cases hi with
  | none=>simp [sliceBounds,HT.sIx]
  | some i=>
   simp only [sliceBounds,HT.sIx,Option.getD_none,show (1:Int) > 0 by decide,if_true]
   by_cases h:i<0
   ·simp only [h,if_true] <;> lia
   ·simp only [h,if_false] <;> lia
theorem slicePick_cut (its:List Value) (lo hi:Option Int):slicePick its.toArray lo hi none=((its.drop (HT.sIx its.length 0 lo)).take (HT.sIx its.length its.length hi - HT.sIx its.length 0 lo)).toArray:=by
 obtain ⟨h1,h2,h3⟩:=slice_bounds lo hi its.toArray.size
 unfold slicePick
 rw [h1,h2,h3]
 simp only [sliceRange_one,pick_run,List.size_toArray] <;> rfl
def rSlL (K:PySem.W.Frag):V→Option Int→Option Int→Hp→VK→Prop:=fun x lo hi H Q=>∃ a xs,x = .ref a∧SqL K H a xs∧∀ p,H p=none→Q (.ref p) (upd H p (.lst (cutV xs lo hi)))
theorem sl_list:SlR X (rSlL X.K):=by
 intro pins s σ H x v vl vu lo hi sl Q I rx hs pl pu h
 obtain ⟨a,xs,rfl,hx,q⟩:=h
 cases rx
 obtain ⟨its,r,ht,hz⟩:=I.list hx
 have hlen:=r.length
 refine ⟨"list",_,slot_list_getitem.lookup,ht.isList.typeIs,?_⟩
 refine wpAny_getItem_list_slice ht.isList hs pl pu .none (by simp) ?_ (by rw [List.size_toArray] <;> lia)
 rw [slicePick_cut,← hlen]
 refine ⟨.ref s.heap.objs.size,_,I.laid (t':=s.toks) (o:=.lst (cutV xs lo hi)) (fun b ob q=>Heap.get?_push_of_some _ q) (Nat.le_refl _) ?_,rfl,q _ (I.hok.fresh (Nat.le_refl _))⟩
 exact ⟨Nat.le_trans (cutV_length xs lo hi) hz,_,0,(r.drop (HT.sIx xs.length 0 lo)).take (HT.sIx xs.length xs.length hi - HT.sIx xs.length 0 lo),Heap.get?_push_size _ rfl⟩
def flatV:V→Bool
 | .non=>true
 | .bl _=>true
 | .int _=>true
 | .str _=>true
 | _=>false
def eqV:V→V→Bool
 | .non,.non=>true
 | .bl a,.bl b=>a == b
 | .bl a,.int b=>(if a then 1 else 0) == b
 | .int a,.bl b=>a == (if b then 1 else 0)
 | .int a,.int b=>a == b
 | .str a,.str b=>a == b
 | _,_=>false
theorem eqAt_V {A:Around}{s:Shared}{y x:V}{u v:Value} (ry:RelV y u) (rx:RelV x v) (fy:flatV y=true) (fx:flatV x=true):SeqAt.EqAt A s u v (eqV y x):=by
 cases y with
 | non=>
  cases ry
  cases x with
  | non=>cases rx;exact SeqAt.EqAt.same _
  | bl b=>cases rx;exact SeqAt.EqAt.none_bool b
  | int b=>obtain ⟨t,rfl⟩:=rx;exact SeqAt.EqAt.none_int b t
  | str b=>obtain ⟨t,rfl⟩:=rx;exact SeqAt.EqAt.none_str b t
  | _=>exact absurd (show false=true from fx) Bool.false_ne_true
 | bl a=>
  cases ry
  cases x with
  | non=>cases rx;exact SeqAt.EqAt.bool_none a
  | bl b=>cases rx;exact SeqAt.EqAt.bool_bool a b
  | int b=>obtain ⟨t,rfl⟩:=rx;exact SeqAt.EqAt.bool_int a b t
  | str b=>obtain ⟨t,rfl⟩:=rx;exact SeqAt.EqAt.bool_str a b t
  | _=>exact absurd (show false=true from fx) Bool.false_ne_true
 | int a=>
  obtain ⟨t',rfl⟩:=ry
  cases x with
  | non=>cases rx;exact SeqAt.EqAt.int_none a t'
  | bl b=>cases rx;exact SeqAt.EqAt.int_bool a t' b
  | int b=>obtain ⟨t,rfl⟩:=rx;exact SeqAt.EqAt.int_int a t' b t
  | str b=>obtain ⟨t,rfl⟩:=rx;exact SeqAt.EqAt.int_str a t' b t
  | _=>exact absurd (show false=true from fx) Bool.false_ne_true
 | str a=>
  obtain ⟨t',rfl⟩:=ry
  cases x with
  | non=>cases rx;exact SeqAt.EqAt.str_none a t'
  | bl b=>cases rx;exact SeqAt.EqAt.str_bool a t' b
  | int b=>obtain ⟨t,rfl⟩:=rx;exact SeqAt.EqAt.str_int a t' b t
  | str b=>obtain ⟨t,rfl⟩:=rx;exact SeqAt.EqAt.str_str a t' b t
  | _=>exact absurd (show false=true from fx) Bool.false_ne_true
 | _=>exact absurd (show false=true from fy) Bool.false_ne_true
def eqU (x:V) (u:Value):Bool:=match u with
 | .none=>eqV .non x
 | .bool b=>eqV (.bl b) x
 | .int i _=>eqV (.int i) x
 | .str z _=>eqV (.str z) x
 | _=>false
theorem eqU_of {x y:V}{u:Value} (r:RelV y u) (f:flatV y=true):eqU x u=eqV y x:=by
 cases y with
 | non=>cases r;rfl
 | bl b=>cases r;rfl
 | int i=>obtain ⟨t,rfl⟩:=r;rfl
 | str z=>obtain ⟨t,rfl⟩:=r;rfl
 | _=>exact absurd (show false=true from f) Bool.false_ne_true
theorem any_eqU {x:V}:∀ {xs:List V}{us:List Value},Vals xs us→xs.all flatV=true→us.any (eqU x)=xs.any fun y=>eqV y x
 | _,_,.nil,_=>rfl
 | y::xs,u::us,.cons r t,f=>by
  rw [List.all_cons,Bool.and_eq_true] at f
  rw [List.any_cons,List.any_cons,eqU_of r f.1,any_eqU t f.2]
theorem mem_eqAt {A:Around}{s:Shared}{x:V}{v:Value} (rx:RelV x v) (fx:flatV x=true):∀ {xs:List V}{us:List Value},Vals xs us→xs.all flatV=true→∀ u∈us,SeqAt.EqAt A s u v (eqU x u)
 | _,_,.nil,_=>fun u hu=>by cases hu
 | y::xs,u::us,.cons r t,f=>fun u' hu=>by
  rw [List.all_cons,Bool.and_eq_true] at f
  rcases List.mem_cons.mp hu with rfl | hu
  ·rw [eqU_of r f.1];exact eqAt_V r rx f.1 fx
  ·exact mem_eqAt rx fx t f.2 u' hu
def inV (x:V) (xs:List V):Bool:=xs.any fun y=>eqV y x
def rIn (K:PySem.W.Frag) (neg:Bool):R2:=fun x y H Q=>∃ p xs,y = .ref p∧(SqL K H p xs∨SqT K H p xs)∧flatV x=true∧xs.all flatV=true∧Q (.bl (if neg then !inV x xs else inV x xs)) H
theorem op_in_seq:OpR X (compareOp .In) (rIn X.K false):=by
 intro pins s σ H x y v u Q I rx ry h
 obtain ⟨p,xs,rfl,hq,fx,fs,q⟩:=h
 cases ry
 rcases hq with hq | hq
 ·obtain ⟨its,r,pl,hz⟩:=I.list hq
  refine SeqAt.in_listAt (eqU x) pl.isList (fun w hw=>mem_eqAt rx fx r fs w (by simpa using hw)) ⟨.bl _,H,I,rfl,?_⟩
  rw [show its.toArray.any (eqU x)=its.any (eqU x) by simp,any_eqU r fs]
  exact q
 ·obtain ⟨its,r,pl,hz⟩:=I.tuple hq
  refine SeqAt.in_tupleAt (eqU x) pl (fun w hw=>mem_eqAt rx fx r fs w (by simpa using hw)) ⟨.bl _,H,I,rfl,?_⟩
  rw [show its.toArray.any (eqU x)=its.any (eqU x) by simp,any_eqU r fs]
  exact q
theorem op_notIn_seq:OpR X (compareOp .NotIn) (rIn X.K true):=by
 intro pins s σ H x y v u Q I rx ry h
 obtain ⟨p,xs,rfl,hq,fx,fs,q⟩:=h
 cases ry
 rcases hq with hq | hq
 ·obtain ⟨its,r,pl,hz⟩:=I.list hq
  refine SeqAt.notIn_listAt (eqU x) pl.isList (fun w hw=>mem_eqAt rx fx r fs w (by simpa using hw)) ⟨.bl _,H,I,rfl,?_⟩
  rw [show its.toArray.any (eqU x)=its.any (eqU x) by simp,any_eqU r fs]
  exact q
 ·obtain ⟨its,r,pl,hz⟩:=I.tuple hq
  refine SeqAt.notIn_tupleAt (eqU x) pl (fun w hw=>mem_eqAt rx fx r fs w (by simpa using hw)) ⟨.bl _,H,I,rfl,?_⟩
  rw [show its.toArray.any (eqU x)=its.any (eqU x) by simp,any_eqU r fs]
  exact q
theorem call_len_seq:CallR X (.builtin "len") (fun xs H Q=>∃ p ys,xs=[.ref p]∧(SqL X.K H p ys∨SqT X.K H p ys)∧Q (.int ys.length) H):=by
 intro pins s σ H xs us Q I r h
 obtain ⟨p,ys,rfl,hq,q⟩:=h
 obtain ⟨u,rfl,rx⟩:=vals1 r
 cases rx
 have hn:=line63
 rcases hq with hq | hq
 ·obtain ⟨its,r',pl,hz⟩:=I.list hq
  have hlen:=r'.length
  exact Calls.call_len_list pl.isList (by simp only [List.size_toArray] <;> lia) ⟨.int ys.length,H,I.tok _,⟨s.toks+1,by rw [List.size_toArray,hlen]⟩,q⟩
 ·obtain ⟨its,r',pl,hz⟩:=I.tuple hq
  have hlen:=r'.length
  exact len_tuple pl (by simp only [List.size_toArray] <;> lia) ⟨.int ys.length,H,I.tok _,⟨s.toks+1,by rw [List.size_toArray,hlen]⟩,q⟩
theorem call_len_str:CallR X (.builtin "len") (fun xs H Q=>∃ z,xs=[.str z]∧z.length≤sizeLine∧Q (.int z.length) H):=by
 intro pins s σ H xs us Q I r h
 obtain ⟨z,rfl,hz,q⟩:=h
 obtain ⟨u,rfl,t,rfl⟩:=vals1 r
 have hn:=line63
 exact len_str (by lia) ⟨.int z.length,H,I.tok _,⟨_,rfl⟩,q⟩
theorem call_list_of:CallR X (.type "list") (fun xs H Q=>∃ p ys,xs=[.ref p]∧(SqL X.K H p ys∨SqT X.K H p ys)∧∀ l,H l=none→Q (.ref l) (upd H l (.lst ys))):=by
 intro pins s σ H xs us Q I r h
 obtain ⟨p,ys,rfl,hq,q⟩:=h
 obtain ⟨u,rfl,rx⟩:=vals1 r
 cases rx
 have fin:∀ (its:List Value),Vals ys its→ys.length≤sizeLine→∀ (h':Heap) (c':Nat),(∀ b o',s.heap.get? b=some o'→h'.get? b=some o') →
   h'.get? s.heap.objs.size=some { cls:=.type "list",dict:=none,data:=.seq its.toArray c',slots:=#[] }→EP X pins σ Q (.ref s.heap.objs.size) { s with heap:=h' }:=fun its r' hz h' c' kp e=>
  ⟨.ref s.heap.objs.size,_,I.laid (t':=s.toks) kp (Nat.le_refl _) (show ObjOk X.prog X.w _ h' _ (.lst ys) from ⟨hz,its,c',r',e⟩),rfl,q _ (I.hok.fresh (Nat.le_refl _))⟩
 rcases hq with hq | hq
 ·obtain ⟨its,r',pl,hz⟩:=I.list hq
  have hlen:=r'.length
  obtain ⟨o,ho,hc,n,hd⟩:=pl.isList
  exact call_list_seq p (.inl rfl) ho hc hd (fun h' c' kp e=>fin its r' hz h' c' kp e) (by simp only [List.size_toArray] <;> lia)
 ·obtain ⟨its,r',pl,hz⟩:=I.tuple hq
  have hlen:=r'.length
  obtain ⟨o,ho,hc,n,hd⟩:=pl
  exact call_list_seq p (.inr rfl) ho hc hd (fun h' c' kp e=>fin its r' hz h' c' kp e) (by simp only [List.size_toArray] <;> lia)
def tyV (K:PySem.W.Frag) (T:String) (x:V) (H:Hp):Prop:=match x with
 | .str _=>T = "str"
 | .int _=>T = "int"
 | .ref p=>(T = "list" ∧ ∃ xs,SqL K H p xs)∨(T = "tuple" ∧ ∃ o,K.lookup p=some o∧o.cls = .type "tuple" ∧ o.dict=none) ∨
   (T = "dict" ∧ ((∃ kvs,H p=some (.dK kvs))∨∃ kvs,H p=some (.dT kvs)))∨(T = "set" ∧ ∃ S n,H p=some (.set S n))
 | _=>False
theorem tyV_is {pins:List (Addr×Obj)}{σ:St}{H:Hp}{s:Shared}{T:String}{x:V}{v:Value} (I:Inv X pins σ H s) (r:RelV x v) (ty:tyV X.K T x H) :
  s.TypeIs v T∧∀ a,v = .ref a→∃ ob,s.heap.get? a=some ob∧ob.dict=none:=by
 cases x with
 | str z=>
  obtain ⟨t,rfl⟩:=r
  cases (show T = "str" from ty)
  exact ⟨typeIs_str s z t,fun _ e=>nomatch e⟩
 | int i=>
  obtain ⟨t,rfl⟩:=r
  cases (show T = "int" from ty)
  exact ⟨typeIs_int s i t,fun _ e=>nomatch e⟩
 | ref p=>
  cases r
  rcases ty with ⟨rfl,xs,hq⟩ | ⟨rfl,o,hk,hc,hd⟩ | ⟨rfl,hk⟩ | ⟨rfl,S,n,hk⟩
  ·obtain ⟨its,_,pl,_⟩:=I.list hq
   refine ⟨pl.isList.typeIs,fun a e=>?_⟩
   cases e
   obtain ⟨o,n,e,c,hd,_⟩:=pl
   exact ⟨o,e,hd⟩
  ·refine ⟨⟨o,I.kIn p o hk,hc⟩,fun a e=>?_⟩
   cases e
   exact ⟨o,I.kIn _ o hk,hd⟩
  ·have z:∃ o,s.heap.get? p=some o∧o.ExactDict:=by
    rcases hk with ⟨kvs,hk⟩ | ⟨kvs,hk⟩
    ·obtain ⟨_,_,_,_,o,_,_,e,ex,_⟩:=I.hok p _ hk
     exact ⟨o,e,ex⟩
    ·obtain ⟨_,_,_,_,o,_,_,e,ex,_⟩:=I.hok p _ hk
     exact ⟨o,e,ex⟩
   obtain ⟨o,e,ex⟩:=z
   refine ⟨⟨o,e,ex.1⟩,fun a e2=>?_⟩
   cases e2
   exact ⟨o,e,ex.2.1⟩
  ·obtain ⟨o,_,_,_,e,ex,_⟩:=I.hok p _ hk
   refine ⟨⟨o,e,ex.1⟩,fun a e2=>?_⟩
   cases e2
   exact ⟨o,e,ex.2.1⟩
 | _=>exact False.elim ty
def tBM (K:PySem.W.Frag) (T:String) (r:V→List V→Hp→VK→Prop) (to:TE) (t:TA):TE:=fun σ H Q=>to σ H fun x H1=>tyV K T x H1∧t σ H1 fun xs H2=>r x xs H2 Q
variable {o e:Expr}{es:List Expr}{to:TE}{t:TA}{name:Str}{apos cpos:Pos}{T id:String}{r:V→List V→Hp→VK→Prop}
theorem pe_bm (pa:PlainAttrs T) (slot:Slot T name id) (hty:typeOf (.builtin id)=pure (.type "method_descriptor")) (hm:MtR X id r) (ho:PE X o to) (ha:PA X (e::es) t)
  (hbase:attributeBase o name X.env (eval o X.env)=eval o X.env:=by rfl)
  (hfew:((backTo cpos (starEach (e::es) X.env)).all (fun x=>!x.1) && (backToKw cpos (keywordEach [] X.env)).all (fun x=>x.1.isSome)
   && decide ((e::es).length+([]:List Keyword).length+(if ([]:List Keyword).isEmpty then 0 else 1)<30))=true:=by rfl)
  (hline:(apos.endLine == cpos.line)=true:=by rfl) (hs:starEach (e::es) X.env=(false,eval e X.env)::starEach es X.env:=by rfl) (hplain:(backTo cpos (starEach es X.env)).any (·.1)=false:=by rfl) :
  PE X (.Call (.Attribute o name apos) (e::es) [] cpos) (tBM X.K T r to t):=by
 intro pins s σ H Q I h
 refine wpAny_Call_method_late hbase hfew hline rfl (thn (ho pins s σ H _ I h) fun v s1 ⟨x,H1,I1,r1,ty,q1⟩=>?_)
 obtain ⟨h1,h2⟩:=tyV_is I1 r1 ty
 refine ⟨T,id,pa,slot,hty,h1,h2,?_⟩
 have hA:=ha cpos pins s1 σ H1 _ I1 q1
 rw [hs] at hA ⊢
 refine Calls.callWith_builtin (by show (false || (backTo cpos (starEach es X.env)).any (·.1))=false;rw [hplain] <;> rfl) (Calls.evalArgs_plain ?_)
 exact thn hA fun us s2 ⟨vs,H2,I2,r2,q2⟩=>hm pins s2 σ H2 x vs v us Q I2 r1 r2 q2
end
end L2
namespace L2
open PySem PySem.Spec PyProof.Rows
def MtM (X:Cx) (id:String) (r:V→List V→Hp→VK→Prop):Prop:=
 ∀ (pins:List (Addr×Obj)) (s:Shared) (σ:St) (H:Hp) (x:V) (xs:List V) (v:Value) (us:List Value) (Q:VK),Inv X pins σ H s→RelV x v→Vals xs us→r x xs H Q →
  wpAny (model X.prog X.w) X.A (call (.builtin id) (v::us)) (EP X pins σ Q) X.xe s
theorem Vals.one:∀ {x:V}{us:List Value},Vals [x] us→∃ u,us=[u]∧RelV x u
 | _,_,.cons r .nil=>⟨_,rfl,r⟩
theorem Vals.two:∀ {x y:V}{us:List Value},Vals [x,y] us→∃ u v,us=[u,v]∧RelV x u∧RelV y v
 | _,_,_,.cons r (.cons q .nil)=>⟨_,_,rfl,r,q⟩
theorem Vals.reverse {xs:List V}{us:List Value} (h:Vals xs us):Vals xs.reverse us.reverse:=by
 induction h with
 | nil=>exact .nil
 | cons r t ih=>rw [List.reverse_cons,List.reverse_cons];exact Vals.append ih (.cons r .nil)
section
variable {X:Cx}{pins:List (Addr×Obj)}{σ:St}{H:Hp}{s:Shared}{l b:Addr}{xs ys zs:List V}
theorem Inv.lset {its its':List Value}{n:Nat}{f:Array Value→Array Value}{t':Nat} (I:Inv X pins σ H s) (hH:H l=some (.lst xs))
  (e:s.heap.get? l=some { cls:=.type "list",data:=.seq its.toArray n }) (hf:f its.toArray=its'.toArray) (hv:Vals ys its') (hz:ys.length≤sizeLine) :
  Inv X pins σ (upd H l (.lst ys)) { s with heap:=s.heap.update l (Obj.mapSeq f),toks:=t' }:=by
 have q:=PySem.IsL.update e f
 rw [hf] at q
 refine I.write (x:=l) (e:=l) (by rw [hH];exact trivial) (.inl rfl) (fun b' u hb hu=>(Heap.get?_update_other s.heap (Obj.mapSeq f) (Ne.symm hb)).trans hu) ⟨_,q⟩ ?_
 exact ⟨hz,its',_,hv,q⟩
theorem Inv.lnew {its:List Value}{t':Nat} (I:Inv X pins σ H s) (hv:Vals ys its) (hz:ys.length≤sizeLine) :
  Inv X pins σ (upd H s.heap.objs.size (.lst ys)) { s with heap:=s.heap.push { cls:=.type "list",data:=.seq its.toArray },toks:=t' }:=
 I.laid (fun _ _ q=>Heap.get?_push_of_some _ q) (Nat.le_refl _) ⟨hz,its,0,hv,Heap.get?_push_size _ rfl⟩
theorem Inv.fresh (I:Inv X pins σ H s):H s.heap.objs.size=none:=I.hok.fresh (Nat.le_refl _)
theorem Inv.lstM (I:Inv X pins σ H s) (hH:H l=some (.lst xs)):xs.length≤sizeLine∧∃ (its:List Value) (n:Nat),Vals xs its∧xs.length=its.length∧s.heap.get? l=some { cls:=.type "list",data:=.seq its.toArray n }:=by
 obtain ⟨z,its,n,r,e⟩:=I.hok l _ hH
 exact ⟨z,its,n,r,r.length,e⟩
end
section
variable {X:Cx}
def rAppend:V→List V→Hp→VK→Prop:=fun x vs H Q=>∃ l xs y,x = .ref l∧vs=[y]∧H l=some (.lst xs)∧xs.length<sizeLine∧Q .non (upd H l (.lst (xs++[y])))
theorem mt_append:MtM X "list.append" rAppend:=by
 intro pins s σ H x vs v us Q I rx rv h
 obtain ⟨l,xs,y,rfl,rfl,hH,hz,q⟩:=h
 cases rx
 obtain ⟨u,rfl,ru⟩:=rv.one
 obtain ⟨z,its,n,r,hl,e⟩:=I.lstM hH
 refine call_meets F.slot_list_append ⟨_,e,rfl⟩ F.entry_list_append (F.args_list_append_2 _ _) (PySem.list_append l its.toArray n u (by rw [List.size_toArray];lia)) ⟨e,?_⟩
 refine ⟨.non,_,I.lset (its':=its++[u]) hH e (by simp) (r.append (.cons ru .nil)) ?_,rfl,q⟩
 rw [List.length_append,List.length_singleton]
 lia
end
section
variable {prog:Program}{w:World}{A:Around}{E:Value→Shared→Prop}{s:Shared}
end
section
variable {X:Cx}
end
end L2
namespace Att
open PySem PySem.W PySem.Calls PyProof.Rows
theorem ints_of_wellAll {P:Params}{h:Heap}:∀ (ns:List Int) (vs:List Value),WellAll P h vs (ns.map WData.int)→IntsAre vs ns:=by
 intro ns
 induction ns with
 | nil=>
  intro vs w
  rw [List.map_nil] at w
  cases w
  exact .nil
 | cons n ns ih=>
  intro vs w
  rw [List.map_cons] at w
  cases w with
  | cons a b=>
   cases a
   exact .cons _ _ (ih _ b)
theorem script_of {l:OpenLaw}{n:Nat} (hn:l.most=some n) {P:Params}{h:Heap}{args:List WData}{vals:List Value}
  (hpre:l.row.toRowW.claim.pre args=true) (hwl:WellAll P h vals args) :
  ∃ a vs ns,vals=[Value.ref a]∧args=[WData.list (ns.map WData.int)]∧h.get? a=some { cls:=.type "list",data:=.seq vs.toArray }∧IntsAre vs ns∧ns.length≤n:=by
 have hsh:WShape.hasAll [] args [.list .int]=true:=(pre_splitW hpre).1
 have hc:l.pre.holds [] { args:=args }=true:=(pre_splitW hpre).2
 obtain ⟨d,r,rfl,h1,h2⟩:=hasAllW_cons hsh
 obtain rfl:=hasAllW_nil h2
 obtain ⟨xs,rfl,h3⟩:=hasW_list h1
 obtain ⟨ns,rfl⟩:=items_int h3
 have hlen:ns.length≤n:=by
  unfold OpenLaw.pre at hc
  have h4:(WTm.not (.lt (.lit (.int (n:Int))) (.len (.arg 0)))).holds [] { args:=[.list (ns.map .int)] }=true:=by
   have h4:=(holds_andW hc).1
   rw [hn] at h4
   exact h4
  have h5:=condW_of h4 (w_not (w_lt w_lit (w_len_list (w_arg rfl))))
  rw [List.length_map] at h5
  refine Nat.le_of_not_lt fun q=>?_
  have q':(n:Int)<((ns.length:Nat):Int):=by lia
  first
   | (rw [decide_eq_true q'] at h5;exact absurd h5 (by decide))
   | (simp at h5;lia)
 cases hwl with
 | cons w1 w2=>
  cases w2
  cases w1 with
  | list ho hall=>exact ⟨_,_,ns,rfl,rfl,ho,ints_of_wellAll ns _ hall,hlen⟩
theorem post_true (l:OpenLaw) (args:List WData):l.row.toRowW.claim.post args (.bool true) args=true:=
 postW_of (r:=l.row.toRowW) (X:=(true == true))
  (show WShape.has [] (.bool true) .bool=true by first | rfl | decide | simp [WShape.has,WShape.arms,WShape.armsAll])
  (show (WTm.eq .res (.lit (.bool true))).value [] { args:=args,res:=some (.bool true),after:=args }=some (.bool (true == true)) from w_eq_bool (w_res rfl) w_lit) rfl
theorem attach_call {l:OpenLaw}{n:Nat}{q:Program}{loose:List Str}{XP:(Str→Option Value)→Heap→Prop}{YP:World→Heap→Prop}{d:DefRec}
  (hn:l.most=some n) (hdf:d.params.defaults=[])
  (call:∀ (w:World) (s₀ s₁:Shared) (mg mb:Str→Option Value) (fa:Addr) (o:Obj) (pm cd doc:Value) (a:Addr) (vs:List Value) (ns:List Int),
   Ground q loose [] XP w s₀ mg mb s₁.heap→YP w s₁.heap →
   s₁.heap.get? fa=some o→o.data = .func (docDef d.name d.params d.body d.scope pm cd doc)→s₁.heap.CodeRec cd d.name→mg d.name=some (.ref fa) →
   s₁.heap.get? a=some { cls:=.type "list",data:=.seq vs.toArray }→IntsAre vs ns→ns.length≤n→s₁.gens = #[] →
   codeAny (model l.prog w) callerA (.call (.ref fa) ⟨[.ref a],[]⟩) (fun r s'=>r = .ok (.ret (.bool true))∧OldK s₁.heap s'.heap∧s'.os=s₁.os∧AllBare s'.gens) s₁) :
  WalkO q loose XP YP l.row.toRowW d [] (fun f vs=>PySem.call f vs):=by
 intro w s₀ s₁ mg mb G Y fa o pm cd doc dV kV ho hd hcd hD hmg hg args vals as hpre hlay hrd hwl hlo
 obtain rfl:dV = .none:=Dflts.none hD hdf
 obtain rfl:kV = .none:=Dflts.noKw hD
 obtain ⟨a,vs,ns,rfl,rfl,hobj,hints,hlen⟩:=script_of hn hpre hwl
 refine enter_call (codeAny_mono (call w s₀ s₁ mg mb fa o pm cd doc a vs ns G Y ho (fd_plain hd) hcd hmg hobj hints hlen hg) fun r s' hq=>?_)
 obtain ⟨rfl,h2,h3,h4⟩:=hq
 exact ⟨.inl ⟨.bool true,.bool true,[],rfl,fun _=>rfl,.bool true,post_true l _,fun _=>⟨List.Pairwise.nil,fun _ hm=>(nomatch hm)⟩⟩,h2,h3,h4⟩
section
variable {prog:Program}{w:World}{A:Around}{E:Value→Shared→Prop}{s:Shared}{K:Frag}
end
end Att
namespace L2
open PySem PySem.Spec PyProof.Rows
theorem vals_ints:∀ {vs:List Value}{ns:List Int},IntsAre vs ns→Vals (ns.map V.int) vs
 | _,_,.nil=>.nil
 | _,_,.cons n t h=>.cons ⟨t,rfl⟩ (vals_ints h)
def Only (H:Hp):Prop:=∀ b,H b=none∨∃ o xs,H b=some (.frz o (.lst xs))
theorem law_call {P:Program}{w:World}{K:PySem.W.Frag}{mg mb:Str→Option Value}{CX:CXT}{k:Nat}{fa a:Addr}{fd:FuncData}{x:Str}{sp:Sp}{s₁:Shared}{vs:List Value}{ns:List Int}
  (KX:K.In s₁.heap) (hns:s₁.heap.Ns mainGlobals mg) (hb:s₁.heap.Ns builtinsNs mb) (hbb:∀ x:Str,x ≠ "__name__" → mb x=bootBuiltins x) (hlim:s₁.heap.NoLimit) (hg:s₁.gens = #[])
  (ha:s₁.heap.get? a=some { cls:=.type "list",data:=.seq vs.toArray }) (hi:IntsAre vs ns) (hl:ns.length≤sizeLine) (hr:Room k callerA)
  (F:∀ base:Heap,K.In base→base.Ns mainGlobals mg→FnOk P w K mg base CX k fa fd [x] sp) (hbind:∀ (s:Shared) (u:Value),BindsTo s fd ⟨[u],[]⟩ [(x,u)])
  (hsp:∀ H:Hp,Only H→SqL K H a (ns.map V.int)→sp [.ref a] H (fun v _=>v = .bl true) fun _ _ _=>False)
  (hCX:∀ H e s',CX [] H s₁ (fun _ _ _=>False) e s'→False) :
  codeAny (model P w) callerA (.call (.ref fa) ⟨[.ref a],[]⟩) (fun r s'=>r = .ok (.ret (.bool true))∧OldK s₁.heap s'.heap∧s'.os=s₁.os∧AllBare s'.gens) s₁:=by
 have rv:=vals_ints hi
 have lenV:=hi.length
 have core:∀ H:Hp,Only H→SqL K H a (ns.map V.int)→HOk P w H s₁.heap→(∀ b,H b≠none→b=a)→(H a≠none→K.lookup a=none) →
   codeAny (model P w) callerA (.call (.ref fa) ⟨[.ref a],[]⟩) (fun r s'=>r = .ok (.ret (.bool true))∧OldK s₁.heap s'.heap∧s'.os=s₁.os∧AllBare s'.gens) s₁:=by
  intro H hO hS hok hA hK
  have base_of:∀ {b:Addr}{o:Obj},s₁.heap.get? b=some o→H b=none→(hidT s₁.heap H).get? b=some o:=fun e n=>hidT_get e n
  have noA:∀ {b:Addr}{o:Obj}{es:Array DictEntry}{ep:Nat},s₁.heap.get? b=some o→o.data = .dict es ep→H b=none:=fun {b o es ep} e d=>by
   cases q:H b with
   | none=>rfl
   | some u=>
    have e':b=a:=hA b (by rw [q];simp)
    subst e'
    rw [ha] at e;cases e
    have d':Data.seq vs.toArray _=Data.dict es ep:=d
    cases d'
  have nsK:∀ {b:Addr}{m:Str→Option Value},s₁.heap.Ns b m→(hidT s₁.heap H).Ns b m:=fun {b m} ⟨o,es,ep,e,d,r⟩=>⟨o,es,ep,base_of e (noA e d),d,r⟩
  have hKb:K.In (hidT s₁.heap H):=fun b o e=>base_of (KX b o e) (by
   cases q:H b with
   | none=>rfl
   | some u=>
    have e':b=a:=hA b (by rw [q];simp)
    subst e'
    rw [hK (by rw [q];simp)] at e;cases e)
  have hM:Mod K mg (hidT s₁.heap H):=⟨hKb,nsK hns,⟨mb,nsK hb,hbb⟩,let ⟨mc,h1,h2⟩:=hlim;⟨mc,nsK h1,h2⟩⟩
  have e0:Env0 P w K mg (hidT s₁.heap H) callerA [] s₁ H:=⟨rfl,hM,fun b o e=>of_hidT e,Nat.le_of_eq (hidT_size _ _),trivial,fun b hb=>absurd (show b∈([]:List Addr) from hb) (by simp),hok,.of_eq hg⟩
  refine codeAny_mono ((F _ hKb (nsK hns)).run callerA [] s₁ H ⟨[.ref a],[]⟩ [.ref a] [.ref a] _ _ hr e0 (hbind s₁ (.ref a)) (.cons rfl .nil) (hsp H hO hS)) fun r s' h=>?_
  cases r with
  | error e=>exact (hCX H e s' h).elim
  | ok fl=>
   cases fl with
   | next=>exact False.elim h
   | brk=>exact False.elim h
   | cont=>exact False.elim h
   | ret u=>
    obtain ⟨v,H',os,bare,un,hok',r',q⟩:=h
    have q':v = .bl true:=q
    subst q'
    obtain rfl:u=Value.bool true:=r'
    refine ⟨rfl,OldK.of_keep fun b o e=>?_,os,bare⟩
    cases q:H b with
    | none=>exact un.keep b o e q (by intro z;exact absurd (show b∈([]:List Addr) from z) (by simp)) (by simp)
    | some u=>
     rcases hO b with z | ⟨ob,xs,z⟩
     ·rw [q] at z;cases z
     ·have z2:=un.frzs b ob _ z
      obtain ⟨e1,_⟩:=hok b _ z
      obtain ⟨e2,_⟩:=hok' b _ z2
      rw [e] at e1;cases e1
      exact e2
 cases hk:K.lookup a with
 | some o=>
  have e:=KX a o hk
  rw [ha] at e
  cases e
  refine core (fun _=>none) (fun _=>.inl rfl) (.inr ⟨_,vs.toArray,_,hk,rfl,rfl,rfl,by rw [List.size_toArray,lenV];exact hl,by simpa using rv⟩) (fun b u z=>by have z':(none:Option HO)=some u:=z;cases z') (fun b z=>absurd rfl z) fun z=>absurd rfl z
 | none=>
  refine core (fun b=>if b=a then some (.frz { cls:=.type "list",data:=.seq vs.toArray } (.lst (ns.map V.int))) else none) (fun b=>?_) (.inl (.inr ⟨{ cls:=.type "list",data:=.seq vs.toArray },if_pos rfl⟩)) (fun b u z=>?_) (fun b z=>?_) fun _=>hk
  ·by_cases hb:b=a
   ·exact .inr ⟨_,_,if_pos hb⟩
   ·exact .inl (if_neg hb)
  ·by_cases hb:b=a
   ·have z':=(if_pos hb).symm.trans z
    cases z'
    subst hb
    exact ⟨ha,by rw [List.length_map];exact hl,vs,_,rv,ha⟩
   ·have z':=(if_neg hb).symm.trans z
    cases z'
  ·by_cases hb:b=a
   ·exact hb
   ·exact absurd (if_neg hb) z
end L2
namespace L2
open PySem PySem.Spec PyProof.Rows
theorem walk_of {l:PySem.W.OpenLaw}{n k:Nat}{q:Program}{loose:List Str}{XP:(Str→Option Value)→Heap→Prop}{YP:World→Heap→Prop}{d:DefRec}{K:Params→PySem.W.Frag}{CX:World→CXT}{sp:World→Sp}{x:Str}
  (hn:l.most=some n) (hn2:n≤sizeLine) (hdf:d.params.defaults=[]) (hr:Room k callerA)
  (hY:∀ (w:World) (h:Heap),YP w h→(K w.params).In h)
  (F:∀ (w:World) (mg:Str→Option Value) (fa:Addr) (h:Heap),(K w.params).In h→h.Ns mainGlobals mg→mg d.name=some (.ref fa) →
   ∃ fd:FuncData,(∀ (s:Shared) (u:Value),BindsTo s fd ⟨[u],[]⟩ [(x,u)]) ∧
    ∀ base:Heap,(K w.params).In base→base.Ns mainGlobals mg→FnOk l.prog w (K w.params) mg base (CX w) k fa fd [x] (sp w))
  (hsp:∀ (w:World) (H:Hp) (a:Addr) (ns:List Int),ns.length≤n→Only H→SqL (K w.params) H a (ns.map V.int)→sp w [.ref a] H (fun v _=>v = .bl true) fun _ _ _=>False)
  (hCX:∀ (w:World) (H:Hp) (s:Shared) (e:Value) (s':Shared),CX w [] H s (fun _ _ _=>False) e s'→False) :
  PySem.W.WalkO q loose XP YP l.row.toRowW d [] (fun f vs=>PySem.call f vs):=by
 refine Att.attach_call hn hdf fun w s₀ s₁ mg mb fa o pm cd doc a vs ns G Y ho hd hcd hmg hobj hints hlen hg=>?_
 have KX:=hY w _ Y
 obtain ⟨fd,hb,hF⟩:=F w mg fa _ KX G.T.g hmg
 exact law_call KX G.T.g G.T.b G.T.builtins G.T.nolimit hg hobj hints (Nat.le_trans hlen hn2) hr hF hb (fun H hO hS=>hsp w H a ns hlen hO hS) fun H e s'=>hCX w H s₁ e s'
end L2
namespace L2
open PySem PySem.Spec PyProof.Rows
def defArgs (s:Stmt):Arguments:=match s with
 | .FunctionDef _ a _ _ _ _ _ _ _ _=>a
 | _=>{ posonlyargs:=[],args:=[],vararg:=none,kwonlyargs:=[],kw_defaults:=[],kwarg:=none,defaults:=[] }
def defBody (s:Stmt):List Stmt:=match s with
 | .FunctionDef _ _ b _ _ _ _ _ _ _=>b
 | _=>[]
def defScope (s:Stmt):Scope:=match s with
 | .FunctionDef _ _ _ _ _ _ sc _ _ _=>sc
 | _=>{ kind:=.function,names:=[],isGenerator:=false,isCoroutine:=false }
abbrev CX0:CXT:=fun _ _ _ _ _ _=>False
abbrev E0:XK:=fun _ _ _=>False
theorem pass0 {X:Cx}:Passes CX0 X E0:=fun _ _ _ _ _ _ _ h=>h.elim
structure Fun (K:PySem.W.Frag) (x qual:Str) (st:Stmt) (f:Addr) (fd:FuncData):Prop where
 ex:∃ (oc:Value) (od:Option Addr) (kV doc pm:Value) (an:Option Addr) (cdv ct:Value) (osl:Array (Option Value)),
  fd=PySem.W.fnOf x qual (defArgs st) (defBody st) (defScope st) .none kV doc pm an cdv ct∧K.lookup f=some ⟨oc,od,.func fd,osl⟩∧PySem.W.codeIn K cdv qual=true
 kp:PySem.W.keepIn K (.ref f)=true
section
variable {P:Program}{w:World}{K:PySem.W.Frag}{mg:Str→Option Value}{base:Heap}
theorem Fun.ok {x qual:Str}{st:Stmt}{f:Addr}{fd:FuncData}{N ps:List Str}{k:Nat}{sp:Sp} (F:Fun K x qual st f fd) (S:FnScope N ps (defScope st)) (len:∀ vs H Q E,sp vs H Q E→vs.length=ps.length)
  (hbody:∀ (cdv:Value) (A:Around) (outer:List Env) (s:Shared) (H:Hp) (vs:List V) (Q:VK) (E:XK),Room k (A.deeper (envOfC qual (defScope st) s.heap.objs.size f cdv))→sp vs H Q E →
   ∃ t,PSs (cxOf CX0 P w K mg base N qual (defScope st) f cdv A outer s H E).nox (defBody st) t∧t { nx:=fun _ H'=>Q .non H',rt:=Q } (start N vs) H):FnOk P w K mg base CX0 (k+1) f fd ps sp:=by
 obtain ⟨oc,od,kV,doc,pm,an,cdv,ct,osl,rfl,lk,hcd⟩:=F.ex
 refine fn_of lk hcd S len fun A outer s H vs Q E hr hsp=>?_
 obtain ⟨t,h,q⟩:=hbody cdv A outer s H vs Q E hr hsp
 exact ⟨t,h.nox,q⟩
theorem Fun.binds {x qual:Str}{st:Stmt}{f:Addr}{fd:FuncData}{ps:List Str} (F:Fun K x qual st f fd)
  (h:∀ (kV doc pm:Value) (an:Option Addr) (cdv ct:Value) (us:List Value),us.length=ps.length→bindArgs (PySem.W.fnOf x qual (defArgs st) (defBody st) (defScope st) .none kV doc pm an cdv ct) ⟨us,[]⟩=pure (ps.zip us)):Binds K fd ps []:=by
 obtain ⟨oc,od,kV,doc,pm,an,cdv,ct,osl,rfl,lk,hcd⟩:=F.ex
 exact .all (h kV doc pm an cdv ct)
theorem fun_mk {x qual:Str}{st:Stmt}{f:Addr}{oc:Value}{od an:Option Addr}{osl:Array (Option Value)}{kV doc pm cdv ct:Value} (l:K.lookup f=some ⟨oc,od,.func (PySem.W.fnOf x qual (defArgs st) (defBody st) (defScope st) .none kV doc pm an cdv ct),osl⟩)
  (c:PySem.W.codeIn K cdv qual=true) (k:PySem.W.keepIn K (.ref f)=true):Fun K x qual st f (PySem.W.fnOf x qual (defArgs st) (defBody st) (defScope st) .none kV doc pm an cdv ct):=⟨⟨oc,od,kV,doc,pm,an,cdv,ct,osl,rfl,l,c⟩,k⟩
end
theorem hu_of {A:Around}{k:Nat} (hr:Room k A):A.units+1<cLine:=Nat.lt_of_le_of_lt (Nat.add_le_add_left (by decide:1≤64) _) hr.units
section
variable {X:Cx}
theorem pv (i:Nat) {x:Str}{pos:Pos} (hN:X.N[i]? = some x:=by rfl) (hv:Vis X.env.scope x:=by first | exact Or.inl rfl | exact Or.inr (Or.inl rfl) | exact Or.inr (Or.inr rfl)) (hd:(x == ("__debug__" : Str))=false:=by decide)
  (hcd:(x == ("__classdict__" : Str))=false:=by decide):PE X (.Name x pos) (tVar i):=pe_var hN hv hd hcd
end
theorem iteF {A B:Prop} (h:B):if false=true then A else B:=by
 rw [if_neg Bool.false_ne_true]
 exact h
theorem iteT {A B:Prop} (h:A):if true=true then A else B:=by
 rw [if_pos rfl]
 exact h
theorem ite2 {c A B:Prop} [Decidable c] (h1:c→A) (h2:¬ c→B):if c then A else B:=by
 by_cases h:c
 ·rw [if_pos h]
  exact h1 h
 ·rw [if_neg h]
  exact h2 h
def Same (H H':Hp):Prop:=∀ b o,H b=some o→H' b=some o
theorem Same.refl (H:Hp):Same H H:=fun _ _ h=>h
theorem Same.trans {H H1 H2:Hp} (a:Same H H1) (b:Same H1 H2):Same H H2:=fun c o h=>b c o (a c o h)
theorem Same.free {H H':Hp} (e:Same H H') {l:Addr} (h:H' l=Option.none):H l=Option.none:=by
 cases q:H l with
 | none=>rfl
 | some o=>
  rw [e l o q] at h
  cases h
theorem Same.seq {K:PySem.W.Frag}{H H':Hp}{a:Addr}{xs:List V} (e:Same H H') (h:SqL K H a xs):SqL K H' a xs:=by
 rcases h with (h | ⟨o,h⟩) | h
 ·exact .inl (.inl (e _ _ h))
 ·exact .inl (.inr ⟨o,e _ _ h⟩)
 ·exact .inr h
end L2
namespace L2
open PySem PySem.Spec PyProof.Rows
section
variable {κ:Type} [DecidableEq κ]
def valV (kvs:List (κ×V)) (k:κ):Option V:=(kvs.find? fun kv=>decide (kv.1=k)).map (·.2)
def putK (kvs:List (κ×V)) (k:κ) (v:V):List (κ×V):=
 if (kvs.any fun kv=>decide (kv.1=k))=true then kvs.map (fun kv=>if kv.1=k then (kv.1,v) else kv) else kvs++[(k,v)]
theorem valV_pos {p:κ×V}{r:List (κ×V)}{k:κ} (e:p.1=k):valV (p::r) k=some p.2:=by simp [valV,List.find?_cons,e]
theorem valV_neg {p:κ×V}{r:List (κ×V)}{k:κ} (e:¬ p.1=k):valV (p::r) k=valV r k:=by simp [valV,List.find?_cons,e]
theorem valV_any (k:κ):∀ kvs:List (κ×V),(kvs.any fun kv=>decide (kv.1=k))=(valV kvs k).isSome
 | []=>rfl
 | p::r=>by
  rw [List.any_cons]
  by_cases e:p.1=k
  ·simp only [valV_pos e,decide_eq_true e,Bool.true_or,Option.isSome_some]
  ·rw [valV_neg e,decide_eq_false e,Bool.false_or];exact valV_any k r
theorem valV_map (k j:κ) (y:V):∀ kvs:List (κ×V),valV (kvs.map fun kv=>if kv.1=k then (kv.1,y) else kv) j=(valV kvs j).map fun x=>if j=k then y else x
 | []=>rfl
 | p::r=>by
  have ih:=valV_map k j y r
  rw [List.map_cons]
  by_cases h:p.1=k
  ·rw [if_pos h]
   by_cases e:p.1=j
   ·rw [valV_pos (p:=(p.1,y)) e,valV_pos e,Option.map_some,if_pos (e.symm.trans h)]
   ·rw [valV_neg (p:=(p.1,y)) e,valV_neg e,ih]
  ·rw [if_neg h]
   by_cases e:p.1=j
   ·rw [valV_pos (p:=p) e,valV_pos e,Option.map_some,if_neg (fun z=>h (e.trans z))]
   ·rw [valV_neg (p:=p) e,valV_neg e,ih]
theorem valV_snoc (k j:κ) (y:V):∀ kvs:List (κ×V),valV kvs k=none→valV (kvs++[(k,y)]) j=if j=k then some y else valV kvs j
 | [],_=>by
  by_cases e:k=j
  ·rw [if_pos e.symm];exact valV_pos (p:=(k,y)) e
  ·rw [if_neg (fun z=>e z.symm)];exact valV_neg (p:=(k,y)) e
 | p::r,hn=>by
  rw [List.cons_append]
  have hk:¬ p.1=k:=fun z=>by rw [valV_pos z] at hn;cases hn
  rw [valV_neg hk] at hn
  have ih:=valV_snoc k j y r hn
  by_cases e:p.1=j
  ·rw [valV_pos e,valV_pos e,if_neg (fun z=>hk (e.trans z))]
  ·rw [valV_neg e,valV_neg e,ih]
theorem valV_put (kvs:List (κ×V)) (k j:κ) (y:V):valV (putK kvs k y) j=if j=k then some y else valV kvs j:=by
 unfold putK
 by_cases a:(kvs.any fun kv=>decide (kv.1=k))=true
 ·rw [if_pos a,valV_map]
  rw [valV_any] at a
  by_cases e:j=k
  ·obtain ⟨x,hx⟩:=Option.isSome_iff_exists.mp a
   rw [if_pos e,e,hx,Option.map_some,if_pos rfl]
  ·rw [if_neg e]
   cases valV kvs j with
   | none=>rfl
   | some x=>rw [Option.map_some,if_neg e]
 ·rw [if_neg a]
  refine valV_snoc k j y kvs ?_
  rw [valV_any] at a
  cases q:valV kvs k with
  | none=>rfl
  | some x=>rw [q] at a;exact (a rfl).elim
theorem length_putK (kvs:List (κ×V)) (k:κ) (v:V):(putK kvs k v).length≤kvs.length+1:=by
 unfold putK
 split
 ·rw [List.length_map];lia
 ·rw [List.length_append,List.length_cons,List.length_nil];lia
theorem RelO.isSome_eq {o:Option V}{u:Option Value} (r:RelO o u):o.isSome=u.isSome:=by
 cases o with
 | none=>cases u with
  | none=>rfl
  | some _=>exact (show False from r).elim
 | some _=>cases u with
  | none=>exact (show False from r).elim
  | some _=>rfl
theorem RelO.getD {o:Option V}{u:Option Value}{d:V}{d':Value} (r:RelO o u) (rd:RelV d d'):RelV (o.getD d) (u.getD d'):=by
 cases o with
 | none=>cases u with
  | none=>exact rd
  | some _=>exact (show False from r).elim
 | some _=>cases u with
  | none=>exact (show False from r).elim
  | some _=>exact r
theorem KV.val {kvs:List (κ×V)}{vs:List (κ×Value)} (r:KV kvs vs) (k:κ):RelO (valV kvs k) (valueAt vs k):=by
 unfold KV at r
 induction r with
 | nil=>exact True.intro
 | @cons p q ps qs h t ih=>
  obtain ⟨h1,h2⟩:=h
  by_cases e:p.1=k
  ·have e':q.1=k:=h1.symm.trans e
   have b:valueAt (q::qs) k=some q.2:=by simp [valueAt,List.find?_cons,e']
   rw [valV_pos e,b];exact h2
  ·have e':¬ q.1=k:=fun z=>e (h1.trans z)
   have b:valueAt (q::qs) k=valueAt qs k:=by simp [valueAt,List.find?_cons,e']
   rw [valV_neg e,b];exact ih
theorem KV.any {kvs:List (κ×V)}{vs:List (κ×Value)} (r:KV kvs vs) (k:κ):(kvs.any fun kv=>decide (kv.1=k))=vs.any fun kv=>decide (kv.1=k):=by
 unfold KV at r
 induction r with
 | nil=>rfl
 | cons h t ih=>rw [List.any_cons,List.any_cons,ih,h.1]
theorem KV.repl {kvs:List (κ×V)}{vs:List (κ×Value)} (r:KV kvs vs) (k:κ) {y:V}{u:Value} (ry:RelV y u) :
  KV (kvs.map fun kv=>if kv.1=k then (kv.1,y) else kv) (vs.map fun kv=>if kv.1=k then (kv.1,u) else kv):=by
 unfold KV at r ⊢
 induction r with
 | nil=>exact .nil
 | @cons p q ps qs h t ih=>
  rw [List.map_cons,List.map_cons]
  refine .cons ?_ ih
  obtain ⟨h1,h2⟩:=h
  by_cases e:p.1=k
  ·rw [if_pos e,if_pos (h1.symm.trans e)];exact ⟨h1,ry⟩
  ·rw [if_neg e,if_neg (fun z=>e (h1.trans z))];exact ⟨h1,h2⟩
theorem KV.put {kvs:List (κ×V)}{vs:List (κ×Value)} (r:KV kvs vs) (k:κ) {y:V}{u:Value} (ry:RelV y u):KV (putK kvs k y) (stored vs k u):=by
 unfold putK stored
 rw [r.any k]
 by_cases e:(vs.any fun kv=>decide (kv.1=k))=true
 ·rw [if_pos e,if_pos e];exact r.repl k ry
 ·rw [if_neg e,if_neg e];exact Paired.snoc r ⟨rfl,ry⟩
theorem KV.length {kvs:List (κ×V)}{vs:List (κ×Value)} (r:KV kvs vs):kvs.length=vs.length:=Paired.length r
end
theorem kV_is {P:Program}{w:World}{k:Key}{u:Value} (r:RelV (kV k) u):(mixKind P w).is k u=true:=by
 cases k with
 | inl i=>obtain ⟨t,e⟩:=(show ∃ t,u=Value.int i t from r);subst e;exact mixKind_int P w i t
 | inr x=>obtain ⟨t,e⟩:=(show ∃ t,u=Value.str x t from r);subst e;exact mixKind_str P w x t
theorem items_are {P:Program}{w:World}:∀ {ks:List Key}{us:List Value},Vals (ks.map kV) us→ItemsAre (mixKind P w) ks us
 | [],_,r=>by rw [List.map_nil] at r;cases r;exact .nil
 | k::ks,_,r=>by
  rw [List.map_cons] at r
  cases r with
  | cons h t=>exact .cons (kV_is h) (items_are t)
abbrev KT (H:Hp):List (List Key×V)→List (List Key×Addr×Value)→Prop:=Paired fun p q=>p.1=q.1∧H q.2.1=some (.tup (p.1.map kV))∧RelV p.2 q.2.2
theorem KT.val {H:Hp}{kvs:List (List Key×V)}{xs:List (List Key×Addr×Value)} (r:KT H kvs xs) (k:List Key):RelO (valV kvs k) ((atKey xs k).map (·.2)):=by
 induction r with
 | nil=>exact True.intro
 | @cons p q ps qs h t ih=>
  obtain ⟨h1,_,h2⟩:=h
  by_cases e:p.1=k
  ·have e':q.1=k:=h1.symm.trans e
   have b:atKey (q::qs) k=some q.2:=by simp [atKey,List.find?_cons,e']
   rw [valV_pos e,b];exact h2
  ·have e':¬ q.1=k:=fun z=>e (h1.trans z)
   have b:atKey (q::qs) k=atKey qs k:=by simp [atKey,List.find?_cons,e']
   rw [valV_neg e,b];exact ih
theorem KT.repl {H:Hp}{kvs:List (List Key×V)}{xs:List (List Key×Addr×Value)} (r:KT H kvs xs) (k:List Key) {y:V}{u:Value} (ry:RelV y u) :
  KT H (kvs.map fun kv=>if kv.1=k then (kv.1,y) else kv) (xs.map (putAt k u)):=by
 induction r with
 | nil=>exact .nil
 | @cons p q ps qs h t ih=>
  rw [List.map_cons,List.map_cons]
  refine .cons ?_ ih
  obtain ⟨h1,h2,h3⟩:=h
  unfold putAt
  by_cases e:p.1=k
  ·rw [if_pos e,if_pos (h1.symm.trans e)];exact ⟨h1,h2,ry⟩
  ·rw [if_neg e,if_neg (fun z=>e (h1.trans z))];exact ⟨h1,h2,h3⟩
theorem KT.put {H:Hp}{kvs:List (List Key×V)}{xs:List (List Key×Addr×Value)} (r:KT H kvs xs) (k:List Key) {b:Addr}{y:V}{u:Value} (hb:H b=some (.tup (k.map kV))) (ry:RelV y u) :
  KT H (putK kvs k y) (storedH xs k b u):=by
 have e:(kvs.any fun kv=>decide (kv.1=k))=(atKey xs k).isSome:=by
  rw [valV_any,(r.val k).isSome_eq,Option.isSome_map]
 unfold putK storedH
 rw [e]
 by_cases q:(atKey xs k).isSome=true
 ·rw [if_pos q,if_pos q];exact r.repl k ry
 ·rw [if_neg q,if_neg q];exact Paired.snoc r ⟨rfl,hb,ry⟩
theorem KT.keeps {H H':Hp}{kvs:List (List Key×V)}{xs:List (List Key×Addr×Value)} (r:KT H kvs xs) (ht:∀ b ys,H b=some (.tup ys)→H' b=some (.tup ys)):KT H' kvs xs:=
 Paired.mapP r fun _ _ z=>⟨z.1,ht _ _ z.2.1,z.2.2⟩
section
variable {P:Program}{w:World}{H:Hp}{h:Heap}{a:Addr}
theorem rd_of {u:HO} (ok:HOk P w H h) (e:Rd H a u):ObjOk P w H h a u:=e.ok ok
theorem dk_rd {kvs:List (Key×V)} (ok:HOk P w H h) (e:Rd H a (.dK kvs)):kvs.length≤sizeLine∧(a == sysModules)=false∧∃ vs,KV kvs vs∧h.DictOf (mixKind P w) a vs:=
 show ObjOk P w H h a (.dK kvs) from rd_of ok e
theorem dk_of {kvs:List (Key×V)} (ok:HOk P w H h) (e:H a=some (.dK kvs)):kvs.length≤sizeLine∧(a == sysModules)=false∧∃ vs,KV kvs vs∧h.DictOf (mixKind P w) a vs:=dk_rd ok (.inl e)
theorem key_of {ks:List Key} (ok:HOk P w H h) (e:H a=some (.tup (ks.map kV))):(tupleKind (mixKind P w)).is h ks a:=by
 obtain ⟨_,its,r,o,h1,h2,n,h3⟩:=(show ObjOk P w H h a (.tup (ks.map kV)) from ok a _ e)
 exact ⟨o,its.toArray,n,h1,h2,h3,by simpa using items_are r⟩
theorem dt_rd {kvs:List (List Key×V)} (ok:HOk P w H h) (e:Rd H a (.dT kvs)):kvs.length≤sizeLine∧(a == sysModules)=false ∧
  ∃ xs,KT H kvs xs∧h.DictOfH (tupleKind (mixKind P w)) a xs:=by
 obtain ⟨z,y,xs,r,o,es,ep,h1,h2,h3,h4,h5⟩:=(show ObjOk P w H h a (.dT kvs) from rd_of ok e)
 refine ⟨z,y,xs,r,o,es,ep,h1,h2,h3,h4,fun x hx=>?_,h5⟩
 have all:∀ {l:List (List Key×V)}{m:List (List Key×Addr×Value)},KT H l m→∀ x∈m,(tupleKind (mixKind P w)).is h x.1 x.2.1:=by
  intro l m q
  induction q with
  | nil=>intro x hx;exact nomatch hx
  | @cons p q ps qs hq t ih=>
   intro x hx
   rcases List.mem_cons.mp hx with e | hx
   ·subst e
    exact key_of ok (by rw [← hq.1];exact hq.2.1)
   ·exact ih x hx
 exact all r x hx
theorem dt_of {kvs:List (List Key×V)} (ok:HOk P w H h) (e:H a=some (.dT kvs)):kvs.length≤sizeLine∧(a == sysModules)=false ∧
  ∃ xs,KT H kvs xs∧h.DictOfH (tupleKind (mixKind P w)) a xs:=dt_rd ok (.inl e)
end
def DGet (H:Hp) (a:Addr) (y:V) (r:Option V):Prop:=
 (∃ kvs k,Rd H a (.dK kvs)∧y=kV k∧r=valV kvs k)∨∃ kvs k b,Rd H a (.dT kvs)∧y = .ref b∧H b=some (.tup (k.map kV))∧r=valV kvs k
def DPut (H:Hp) (a:Addr) (y v:V) (H':Hp):Prop:=
 (∃ kvs k,H a=some (.dK kvs)∧y=kV k∧kvs.length<sizeLine∧H' = upd H a (.dK (putK kvs k v))) ∨
 ∃ kvs k b,H a=some (.dT kvs)∧y = .ref b∧H b=some (.tup (k.map kV))∧kvs.length<sizeLine∧H' = upd H a (.dT (putK kvs k v))
section
variable {X:Cx}{pins:List (Addr×Obj)}{σ:St}{H:Hp}{s:Shared}{a:Addr}{y v:V}{u r:Value}{o:Option V}{A:Around}{E:Value→Shared→Prop}
theorem Inv.big (I:Inv X pins σ H s):sysModules<s.heap.objs.size:=by
 have h:mainGlobals<s.heap.objs.size:=(I.mod.glob.keeps I.bk).lt
 exact Nat.lt_trans (by decide) h
theorem d_getItem {Q:Value→Shared→Prop} (hu:A.units+1<cLine) (I:Inv X pins σ H s) (g:DGet H a y (some v)) (ry:RelV y u) (h:∀ w' s',Inv X pins σ H s'→RelV v w'→Q w' s') :
  wpAny (model X.prog X.w) A (getItem (.ref a) u) Q E s:=by
 rcases g with ⟨kvs,k,e,ey,l⟩ | ⟨kvs,k,b,e,ey,eb,l⟩
 ·subst ey
  obtain ⟨z,hd,vs,rel,dd⟩:=dk_rd I.hok e
  obtain ⟨w',hw,rw'⟩:=RelO.some_of (v:=v) (o:=valueAt vs k) (by rw [l];exact rel.val k)
  exact wpAny_getItem_of (kV_is ry) dd.mapOf hw (h w' _ (I.tok _) rw')
 ·subst ey
  cases (show u=Value.ref b from ry)
  obtain ⟨z,hd,xs,rel,dd⟩:=dt_rd I.hok e
  obtain ⟨w',hw,rw'⟩:=RelO.some_of (v:=v) (o:=(atKey xs k).map (·.2)) (by rw [l];exact rel.val k)
  obtain ⟨p,hp,hp2⟩:=Option.map_eq_some_iff.mp hw
  refine wpAny_getItem_heap (tupleKind_room_in1 hu) (key_of I.hok eb) dd hp ?_
  rw [hp2]
  exact h w' _ (I.tok _) rw'
theorem d_notIn {Q:Value→Shared→Prop} (hu:A.units+1<cLine) (I:Inv X pins σ H s) (g:DGet H a y o) (ry:RelV y u) (h:∀ s',Inv X pins σ H s'→Q (.bool (!o.isSome)) s') :
  wpAny (model X.prog X.w) A (compareOp .NotIn u (.ref a)) Q E s:=by
 rcases g with ⟨kvs,k,e,ey,l⟩ | ⟨kvs,k,b,e,ey,eb,l⟩
 ·subst ey
  obtain ⟨z,hd,vs,rel,dd⟩:=dk_rd I.hok e
  refine wpAny_notIn_of (kV_is ry) hd dd.mapOf ?_
  rw [← (rel.val k).isSome_eq,← l]
  exact h _ (I.tok _)
 ·subst ey
  cases (show u=Value.ref b from ry)
  obtain ⟨z,hd,xs,rel,dd⟩:=dt_rd I.hok e
  refine wpAny_notIn_heap (tupleKind_room_in1 hu) (key_of I.hok eb) hd dd ?_
  have q:=(rel.val k).isSome_eq
  rw [Option.isSome_map] at q
  rw [← q,← l]
  exact h _ (I.tok _)
theorem d_write {h':Heap}{t':Nat}{ob:HO} (I:Inv X pins σ H s) (mu:Mut (H a)) (hs:Heap.SameBut a s.heap h') (he:∃ q,h'.get? a=some q) (new:ObjOk X.prog X.w (upd H a ob) h' a ob) :
  Inv X pins σ (upd H a ob) { s with heap:=h',toks:=t' }:=
 I.write (x:=a) (e:=a) mu (.inl rfl) (fun b q hb z=>(hs.2 b hb).trans z) he new
theorem dk_new {P:Program}{w:World}{H':Hp}{h':Heap}{kvs:List (Key×V)}{vs:List (Key×Value)} (z:kvs.length≤sizeLine) (hd:(a == sysModules)=false) (rel:KV kvs vs) (dd:h'.DictOf (mixKind P w) a vs) :
  ObjOk P w H' h' a (.dK kvs):=⟨z,hd,vs,rel,dd⟩
theorem d_setItem {H':Hp}{Q:Unit→Shared→Prop} (hu:A.units+1<cLine) (I:Inv X pins σ H s) (g:DPut H a y v H') (ry:RelV y u) (rv:RelV v r) (h:∀ s',Inv X pins σ H' s'→Q () s') :
  wpAny (model X.prog X.w) A (setItem (.ref a) u r) Q E s:=by
 rcases g with ⟨kvs,k,e,ey,l,eH⟩ | ⟨kvs,k,b,e,ey,eb,l,eH⟩
 ·subst ey eH
  obtain ⟨z,hd,vs,rel,dd⟩:=dk_of I.hok e
  have hz:vs.length≤sizeLine:=by rw [← rel.length];exact z
  have hl:(putK kvs k v).length≤sizeLine:=by have:=length_putK kvs k v;lia
  refine wpAny_setItem_pairs (hsz:=hz) (kV_is ry) dd fun h' dd' hs=>h _ ?_
  have he:∃ q,h'.get? a=some q:=let ⟨q,_,_,hq,_⟩:=dd';⟨q,hq⟩
  exact d_write I (by rw [e];exact True.intro) hs he (dk_new hl hd (rel.put k rv) dd')
 ·subst ey eH
  cases (show u=Value.ref b from ry)
  obtain ⟨z,hd,xs,rel,dd⟩:=dt_of I.hok e
  have hz:xs.length≤sizeLine:=by rw [← Paired.length rel];exact z
  have hl:(putK kvs k v).length≤sizeLine:=by have:=length_putK kvs k v;lia
  refine wpAny_setItem_heap (hsz:=hz) (tupleKind_room_in1 hu) (key_of I.hok eb) dd fun h' dd' hs=>h _ ?_
  obtain ⟨q,es,ep,hq,h2,h3,h4,_,h5⟩:=dd'
  refine d_write I (by rw [e];exact True.intro) hs ⟨q,hq⟩ ⟨hl,hd,_,(rel.put k eb rv).keeps fun c ys ec=>?_,q,es,ep,hq,h2,h3,h4,h5⟩
  rw [upd_ne (ne_of ec e (fun z=>nomatch z))]
  exact ec
end
section
variable {X:Cx}{pins:List (Addr×Obj)}{σ:St}{H:Hp}{s:Shared}{a:Addr}{kvs:List (Key×V)}{k:Key}{u:Value}{A:Around}{E:Value→Shared→Prop}
end
def NoSl (i:Expr):Prop:=∀ ov iv,subscripted i false ov iv=operate [ov,iv] (getItem ov iv)
theorem subD_of {prog:Program}{w:World}{A:Around}{E:Value→Shared→Prop}{s:Shared}{env:Env}{value slice:Expr}{pos:Pos}{T id:String}{Q:Value→Shared→Prop}
  (hl:typeLookup (.type T) "__getitem__" = pure (some (.builtin id))) (hs:NoSl slice)
  (h:wpAny (model prog w) A (eval value env) (fun o s₁=>wpAny (model prog w) A (eval slice env) (fun i s₂=>s₂.TypeIs o T∧wpAny (model prog w) A (getItem o i) Q E s₂) E s₁) E s) :
  wpAny (model prog w) A (eval (.Subscript value slice pos) env) Q E s:=by
 refine Subscript_ (wpAny_mono h (fun o s₁ h₁=>wpAny_mono h₁ (fun i s₂ h₂=>?_) fun _ _ x=>x) fun _ _ x=>x)
 obtain ⟨hT,h₂⟩:=h₂
 unfold subscriptTail
 refine wpAny_bind ?_
 rw [getitemInPython_of_ne hT.not_modules]
 refine wpAny_bind (wpAny_specialOf hT hl ?_)
 have fin:wpAny (model prog w) A (subscripted slice false o i) (fun r s₃=>wpAny (model prog w) A (letTemporaryGo value o r >>= fun _=>pure r) Q E s₃) E s₂:=by
  rw [hs o i]
  exact wpAny_operating (wpAny_mono h₂ (fun r s₃ h₃=>wpAny_bind (wpAny_letTemporaryGo (wpAny_pure h₃))) fun _ _ x=>x)
 first
  | exact wpAny_pure (wpAny_bind fin)
  | exact wpAny_bind (wpAny_pure (wpAny_bind fin))
  | exact wpAny_bind fin
theorem dict_typeIs {X:Cx}{pins:List (Addr×Obj)}{σ:St}{H:Hp}{s:Shared}{a:Addr}{y:V}{o:Option V} (I:Inv X pins σ H s) (g:DGet H a y o):s.TypeIs (.ref a) "dict" :=by
 rcases g with ⟨kvs,k,e,_,_⟩ | ⟨kvs,k,b,e,_,_,_⟩
 ·obtain ⟨_,_,vs,_,dd⟩:=dk_rd I.hok e
  exact dd.typeIs
 ·obtain ⟨_,_,xs,_,dd⟩:=dt_rd I.hok e
  exact dd.typeIs
def tDGet (td ty:TE):TE:=fun σ H Q=>td σ H fun x H1=>ty σ H1 fun y H2=>∃ a v,x = .ref a∧DGet H2 a y (some v)∧Q v H2
def tDNotIn (ty td:TE):TE:=fun σ H Q=>ty σ H fun y H1=>td σ H1 fun x H2=>∃ a o,x = .ref a∧DGet H2 a y o∧Q (.bl (!o.isSome)) H2
def sDPut (td ty tv:TE):TS:=fun D σ H=>tv σ H fun v H1=>td σ H1 fun x H2=>ty σ H2 fun y H3=>∃ a H4,x = .ref a∧DPut H3 a y v H4∧D.nx σ H4
section
variable {X:Cx}{o i e value:Expr}{pos pos' tpos:Pos}{td ty tv:TE}
theorem pe_dget (hu:X.A.units+1<cLine) (ho:PE X o td) (hi:PE X i ty) (hs:NoSl i):PE X (.Subscript o i pos) (tDGet td ty):=by
 intro pins s σ H Q I h
 refine subD_of PySem.F.slot_dict_getitem.lookup hs (thn (ho pins s σ H _ I h) fun u s1 ⟨x,H1,I1,rx,q1⟩=>thn (hi pins s1 σ H1 _ I1 q1) fun iv s2 ⟨y,H2,I2,ry,a,v,ex,g,q2⟩=>?_)
 subst ex
 obtain rfl:u=Value.ref a:=rx
 exact ⟨dict_typeIs I2 g,d_getItem hu I2 g ry fun w' s3 I3 rw'=>⟨v,H2,I3,rw',q2⟩⟩
theorem pc_dnotin (hu:X.A.units+1<cLine) (hi:PE X i ty) (ho:PE X o td):PC X .NotIn i o (tDNotIn ty td):=by
 intro pins s σ H Q I h
 refine thn (hi pins s σ H _ I h) fun iv s1 ⟨y,H1,I1,ry,q1⟩=>thn (ho pins s1 σ H1 _ I1 q1) fun u s2 ⟨x,H2,I2,rx,a,ov,ex,g,q2⟩=>?_
 subst ex
 obtain rfl:u=Value.ref a:=rx
 exact d_notIn hu I2 g ry fun s3 I3=>⟨.bl (!ov.isSome),H2,I3,rfl,q2⟩
theorem ps_dput (hu:X.A.units+1<cLine) (ho:PE X o td) (hi:PE X i ty) (hv:PE X value tv) (hs:swapsWith value (some (.Subscript o i pos')) pos.line X.env=pure false) :
  PS X (.Assign [.Subscript o i pos'] value pos) (sDPut td ty tv):=by
 intro pins s σ H D I h
 refine wpAny_Assign_Subscript (thn (hv pins s σ H _ I h) fun r s1 ⟨v,H1,I1,rv,q1⟩=>thn (ho pins s1 σ H1 _ I1 q1) fun u s2 ⟨x,H2,I2,rx,q2⟩=>thn (hi pins s2 σ H2 _ I2 q2) fun iv s3 ⟨y,H3,I3,ry,a,H4,ex,g,q3⟩=>?_) hs
 subst ex
 obtain rfl:u=Value.ref a:=rx
 exact d_setItem hu I3 g ry rv fun s4 I4=>⟨σ,H4,I4,q3⟩
end
theorem dk_empty {P:Program}{w:World}{H:Hp} (h:Heap) (hb:sysModules<h.objs.size):ObjOk P w H (h.push { cls:=.type "dict",data:=.dict #[] }) h.objs.size (.dK []):=
 ⟨Nat.zero_le _,beq_eq_false_iff_ne.mpr (Ne.symm (Nat.ne_of_lt hb)),[],.nil,Heap.DictOf.new h⟩
def tDNewK:TE:=fun _ H Q=>∀ p,H p=none→Q (.ref p) (upd H p (.dK []))
section
variable {X:Cx}{pos:Pos}
theorem pe_dnewK:PE X (.Dict [] [] pos) tDNewK:=fun pins s σ H Q I h=>
 wpAny_Dict_empty ⟨.ref s.heap.objs.size,_,I.laid (a:=s.heap.objs.size) (o:=.dK []) (t':=s.toks) (fun _ _ q=>Heap.get?_push_of_some _ q) (Nat.le_refl _) (dk_empty s.heap I.big),rfl,h _ (I.hok.fresh (Nat.le_refl _))⟩
end
structure M1 (X:Cx) (o:Expr) (m:Str) (apos:Pos) (e:Expr) (cpos:Pos):Prop where
 base:attributeBase o m X.env (eval o X.env)=eval o X.env
 few:((backTo cpos (starEach [e] X.env)).all (fun x=>!x.1) && (backToKw cpos (keywordEach [] X.env)).all (fun x=>x.1.isSome)
  && decide (([e]:List Expr).length+([]:List Keyword).length+(if ([]:List Keyword).isEmpty then 0 else 1)<30))=true
 line:(apos.endLine == cpos.line)=true
 trees:backTo cpos (starEach [e] X.env)=[(false,eval e X.env)]
structure M2 (X:Cx) (o:Expr) (m:Str) (apos:Pos) (e f:Expr) (cpos:Pos):Prop where
 base:attributeBase o m X.env (eval o X.env)=eval o X.env
 few:((backTo cpos (starEach [e,f] X.env)).all (fun x=>!x.1) && (backToKw cpos (keywordEach [] X.env)).all (fun x=>x.1.isSome)
  && decide (([e,f]:List Expr).length+([]:List Keyword).length+(if ([]:List Keyword).isEmpty then 0 else 1)<30))=true
 line:(apos.endLine == cpos.line)=true
 trees:backTo cpos (starEach [e,f] X.env)=[(false,eval e X.env),(false,eval f X.env)]
def IsD (H:Hp) (a:Addr):Prop:=(∃ kvs,Rd H a (.dK kvs))∨∃ kvs,Rd H a (.dT kvs)
theorem isD_at {X:Cx}{pins:List (Addr×Obj)}{σ:St}{H:Hp}{s:Shared}{a:Addr} (I:Inv X pins σ H s) (d:IsD H a) :
  s.TypeIs (.ref a) "dict" ∧ (∀ b,Value.ref a = .ref b→∃ ob,s.heap.get? b=some ob∧ob.dict=none)∧(a == sysModules)=false:=by
 rcases d with ⟨kvs,e⟩ | ⟨kvs,e⟩
 ·obtain ⟨_,hd,vs,_,dd⟩:=dk_rd I.hok e
  refine ⟨dd.typeIs,fun b q=>?_,hd⟩
  cases q
  obtain ⟨ob,_,_,h1,h2,_⟩:=dd
  exact ⟨ob,h1,h2.2.1⟩
 ·obtain ⟨_,hd,xs,_,dd⟩:=dt_rd I.hok e
  refine ⟨dd.typeIs,fun b q=>?_,hd⟩
  cases q
  obtain ⟨ob,_,_,h1,h2,_⟩:=dd
  exact ⟨ob,h1,h2.2.1⟩
section
variable {X:Cx}{pins:List (Addr×Obj)}{σ:St}{H:Hp}{s:Shared}{a:Addr}{y d:V}{u r:Value}{o:Option V}{A:Around}{E:Value→Shared→Prop}
theorem d_get2 {Q:Value→Shared→Prop} (hu:A.units+1<cLine) (I:Inv X pins σ H s) (g:DGet H a y o) (ry:RelV y u) (rd:RelV d r) (h:∀ w' s',Inv X pins σ H s'→RelV (o.getD d) w'→Q w' s') :
  wpAny (model X.prog X.w) A (call (.builtin "dict.get") [.ref a,u,r]) Q E s:=by
 rcases g with ⟨kvs,k,e,ey,l⟩ | ⟨kvs,k,b,e,ey,eb,l⟩
 ·subst ey
  obtain ⟨z,hd,vs,rel,dd⟩:=dk_rd I.hok e
  refine call_meetsIn PySem.F.slot_dict_get dd.typeIs PySem.F.entry_dict_get (PySem.F.args_dict_get_3 _ _ _) (meets_dict_get_default (mixKind X.prog X.w) a (kV_is ry) hd r) ⟨_,dd.mapOf,h _ _ (I.tok _) ?_⟩
  rw [l]
  exact (rel.val k).getD rd
 ·subst ey
  cases (show u=Value.ref b from ry)
  obtain ⟨z,hd,xs,rel,dd⟩:=dt_rd I.hok e
  refine call_meetsIn PySem.F.slot_dict_get dd.typeIs PySem.F.entry_dict_get (PySem.F.args_dict_get_3 _ _ _) (meetsH_dict_get_default (tupleKind (mixKind X.prog X.w)) a b hd r) ⟨tupleKind_room_in1 hu,k,xs,key_of I.hok eb,dd,h _ _ (I.tok _) ?_⟩
  rw [l]
  exact (rel.val k).getD rd
end
def tDGet2 (td ty tx:TE):TE:=fun σ H Q=>td σ H fun x H1=>∃ a,x = .ref a∧IsD H1 a∧ty σ H1 fun y H2=>tx σ H2 fun z H3=>∃ o,DGet H3 a y o∧Q (o.getD z) H3
section
variable {X:Cx}{o e f:Expr}{apos cpos:Pos}{td ty tx:TE}
theorem pe_dget2 (hu:X.A.units+1<cLine) (ho:PE X o td) (he:PE X e ty) (hf:PE X f tx) (m:M2 X o "get" apos e f cpos):PE X (.Call (.Attribute o "get" apos) [e,f] [] cpos) (tDGet2 td ty tx):=by
 intro pins s σ H Q I h
 refine wpAny_Call_method m.base m.few m.line PySem.F.plainAttrs_dict PySem.F.slot_dict_get PySem.F.type_dict_get (thn (ho pins s σ H _ I h) fun u s1 ⟨x,H1,I1,rx,a,ex,d,q1⟩=>?_)
 subst ex
 obtain rfl:u=Value.ref a:=rx
 obtain ⟨t1,t2,_⟩:=isD_at I1 d
 refine ⟨t1,t2,?_⟩
 rw [m.trees]
 refine Calls.callWith_builtin rfl (Calls.evalArgs_plain (Calls.spliced_cons (thn (he pins s1 σ H1 _ I1 q1) fun iv s2 ⟨y,H2,I2,ry,q2⟩=>
  Calls.spliced_cons (thn (hf pins s2 σ H2 _ I2 q2) fun fv s3 ⟨z,H3,I3,rz,ov,g,q3⟩=>Calls.spliced_nil ?_))))
 exact d_get2 hu I3 g ry rz fun w' s4 I4 rw'=>⟨_,H3,I4,rw',q3⟩
end
section
variable {X:Cx}{pins:List (Addr×Obj)}{σ:St}{H:Hp}{s:Shared}{a:Addr}{kvs:List (Key×V)}{A:Around}{E:Value→Shared→Prop}
end
section
variable {X:Cx}{pins:List (Addr×Obj)}{σ:St}{H:Hp}{s:Shared}{a:Addr}{y:V}{u:Value}{A:Around}{E:Value→Shared→Prop}
end
end L2
namespace L2
open PySem PySem.Spec PyProof.Rows
def clos (cells:List (Str×Addr)):List (Str×NameKind)→List (Str×Addr)→List (Str×Addr)
 | [],acc=>acc
 | (n,k)::r,acc=>clos cells r (if (k == NameKind.free)=true then (match cells.lookup n with | some c=>(n,c)::acc | none=>acc) else acc)
theorem closureFor_clos {env:Env}:∀ (names:List (Str×NameKind)) (acc:List (Str×Addr)),(∀ y∈names,y.2 = .free→∃ c,env.cells.lookup y.1=some c) →
  (forIn (m:=Sem) names acc fun (x:Str×NameKind) r=>(match x with | (name,kind)=>if (kind == NameKind.free)=true then (do let a ← cellOf env name;pure (ForInStep.yield ((name,a)::r))) else pure (ForInStep.yield r)))=pure (clos env.cells names acc)
 | [],acc,_=>rfl
 | (n,k)::r,acc,h=>by
  rw [List.forIn_cons]
  unfold clos
  by_cases hk:(k == NameKind.free)=true
  ·obtain ⟨c,e⟩:=h (n,k) List.mem_cons_self (by simpa using hk)
   simp only [hk,if_true]
   have e1:cellOf env n=pure c:=by unfold cellOf;rw [show env.cells.lookup n=some c from e]
   rw [e1,show env.cells.lookup n=some c from e]
   simp only [pure_bind]
   exact closureFor_clos r _ fun y hy=>h y (List.mem_cons_of_mem _ hy)
  ·have hk':(k == NameKind.free)=false:=by simpa using hk
   simp only [hk',Bool.false_eq_true,if_false,pure_bind]
   exact closureFor_clos r _ fun y hy=>h y (List.mem_cons_of_mem _ hy)
theorem closure_of {env:Env}{scope:Scope} (h:∀ y∈scope.names,y.2 = .free→∃ c,env.cells.lookup y.1=some c):closureFor scope env=pure (clos env.cells scope.names []):=by
 have e:=closureFor_clos (env:=env) scope.names [] h
 unfold closureFor
 simp only [bind_pure]
 exact e
theorem clos_sub {cells:List (Str×Addr)}{x:Str}{c:Addr}:∀ (names:List (Str×NameKind)) (acc:List (Str×Addr)),(∀ y d,acc.lookup y=some d→cells.lookup y=some d)→(clos cells names acc).lookup x=some c→cells.lookup x=some c
 | [],acc,ha,h=>ha _ _ h
 | (n,k)::r,acc,ha,h=>by
  unfold clos at h
  refine clos_sub r _ (fun y d hy=>?_) h
  split at hy
  ·split at hy
   ·rename_i c' e'
    rw [List.lookup_cons] at hy
    cases hb:y == n with
    | true=>rw [hb] at hy;cases hy;rw [beq_iff_eq.mp hb];exact e'
    | false=>rw [hb] at hy;exact ha _ _ hy
   ·exact ha _ _ hy
  ·exact ha _ _ hy
theorem lookup_cons_some {x n:Str}{c:Addr}{acc:List (Str×Addr)} (h:∃ d,acc.lookup x=some d):∃ d,((n,c)::acc).lookup x=some d:=by
 rw [List.lookup_cons]
 cases x == n with
 | true=>exact ⟨_,rfl⟩
 | false=>exact h
theorem clos_has {cells:List (Str×Addr)}{x:Str}:∀ (names:List (Str×NameKind)) (acc:List (Str×Addr)),((∃ d,acc.lookup x=some d)∨((x,NameKind.free)∈names∧∃ d,cells.lookup x=some d))→∃ d,(clos cells names acc).lookup x=some d
 | [],acc,h=>by
  rcases h with h | ⟨h,_⟩
  ·exact h
  ·cases h
 | (n,k)::r,acc,h=>by
  unfold clos
  refine clos_has r _ ?_
  rcases h with h | ⟨h,d,hd⟩
  ·refine .inl ?_
   split
   ·split
    ·exact lookup_cons_some h
    ·exact h
   ·exact h
  ·rcases List.mem_cons.mp h with e | h
   ·cases e
    refine .inl ?_
    rw [if_pos (by decide),hd]
    exact ⟨d,by rw [List.lookup_cons];simp⟩
   ·exact .inr ⟨h,d,hd⟩
theorem cellsFrom_app:∀ (names:List (Str×NameKind)) (n:Nat) (acc:List (Str×Addr)),cellsFrom n names acc=cellsFrom n names []++acc
 | [],n,acc=>rfl
 | (x,k)::r,n,acc=>by
  unfold cellsFrom
  split
  ·rw [cellsFrom_app r _ ((x,n)::acc),cellsFrom_app r _ [(x,n)]];simp
  ·exact cellsFrom_app r n acc
theorem lookup_app {x:Str}{c:Addr}:∀ {l l':List (Str×Addr)},(l++l').lookup x=some c→l.lookup x=some c∨l'.lookup x=some c
 | [],_,h=>.inr h
 | (n,d)::r,l',h=>by
  rw [List.cons_append,List.lookup_cons] at h
  rw [List.lookup_cons]
  cases hb:x == n with
  | true=>rw [hb] at h;exact .inl h
  | false=>rw [hb] at h;exact lookup_app h
theorem cellsFrom_has {x:Str}:∀ (names:List (Str×NameKind)) (n:Nat) (acc:List (Str×Addr)),((∃ d,acc.lookup x=some d)∨(x,NameKind.cell)∈names)→∃ d,(cellsFrom n names acc).lookup x=some d
 | [],n,acc,h=>by
  rcases h with h | h
  ·exact h
  ·cases h
 | (y,k)::r,n,acc,h=>
  by
  unfold cellsFrom
  rcases h with h | h
  ·split
   ·exact cellsFrom_has r _ _ (.inl (lookup_cons_some h))
   ·exact cellsFrom_has r _ _ (.inl h)
  ·rcases List.mem_cons.mp h with e | h
   ·cases e
    rw [if_pos (by decide)]
    exact cellsFrom_has r _ _ (.inl ⟨n,by rw [List.lookup_cons];simp⟩)
   ·split
    ·exact cellsFrom_has r _ _ (.inr h)
    ·exact cellsFrom_has r _ _ (.inr h)
def cenv (scope:Scope) (C:Addr) (env:Env):Env:=
 { scope:=relabel scope env,locals:=C,globals:=env.globals,cells:=cellsFrom (C+1) scope.names (clos env.cells scope.names []),qual:=env.qual,func:=none,code:=env.code,frame:=env.frame,builtins:=env.builtins }
theorem relabel_mem {scope:Scope}{env:Env}{x:Str}{k:NameKind} (h:(relabel scope env).names.lookup x=some k):∃ k',(x,k')∈scope.names∧(k' = k∨(k' = .free∧k = .cell∧env.kindOf x=some .cell)):=by
 have h':=List.mem_map.mp (mem_of_lookup h)
 obtain ⟨⟨n,q⟩,hm,e⟩:=h'
 dsimp only at e
 split at e
 ·rename_i hc
  injection e with e1 e2
  subst e1
  refine ⟨q,hm,.inr ?_⟩
  simp only [Bool.and_eq_true,beq_iff_eq] at hc
  exact ⟨hc.1.1,e2.symm,hc.2⟩
 ·injection e with e1 e2
  subst e1
  exact ⟨q,hm,.inl e2⟩
def compCx (X:Cx) (scope:Scope) (N':List Str) (s:Shared) (H:Hp) (fp:List Addr):Cx where
 prog:=X.prog
 w:=X.w
 K:=X.K
 mg:=X.mg
 base:=X.base
 A:=X.A
 N:=N'
 s₀:=s
 H₀:=H
 env:=cenv scope s.heap.objs.size X.env
 outer:=X.stack
 stack:=X.stack
 ex:=fp
 calm:=X.calm
 fn:=fun x=>decide ((x,NameKind.cell)∈scope.names∧(x,NameKind.free)∉scope.names)
 pn:=[]
 xe:=fun _ _=>False
def sub (n:Nat) (fi:List Nat) (σ:St):St:=List.replicate n none++fi.map fun k=>(σ[k]?).join
theorem sub_len (n:Nat) (fi:List Nat) (σ:St):(sub n fi σ).length=n+fi.length:=by simp [sub]
structure CScope (X:Cx) (scope:Scope) (N':List Str) (n:Nat) (fi:List Nat):Prop where
 kind:scope.kind = .function
 names:∀ y∈scope.names,y.2 = .local→scope.names.lookup y.1=some .local
 free:∀ y∈scope.names,y.2 = .free→X.env.kindOf y.1=some .cell∨X.env.kindOf y.1=some .free
 len:N'.length=n+fi.length
 at':∀ (j:Nat) (k:Nat),fi[j]? = some k→∃ x,N'[n+j]? = some x∧X.N[k]? = some x∧scope.names.lookup x=some .free∧(x,NameKind.cell)∉scope.names
theorem newEnvC {M:Model}{A:Around}{E:Value→Shared→Prop}{s:Shared}{scope:Scope}{globals:Addr}{cl:List (Str×Addr)}{qual:Str}{env:Env}{Q:Env→Shared→Prop}
  (h:∀ h',h'.Ns s.heap.objs.size (fun _=>none)→(∀ b o,s.heap.get? b=some o→h'.get? b=some o)→CellsOk h' (s.heap.objs.size+1) (cellsFrom (s.heap.objs.size+1) scope.names []) →
   Q { scope,locals:=s.heap.objs.size,globals,cells:=cellsFrom (s.heap.objs.size+1) scope.names cl,qual,func:=none,code:=env.code,frame:=env.frame,builtins:=env.builtins } { s with heap:=h' }) :
  wpAny M A (newFunctionEnv scope globals cl [] qual none .none (some env)) Q E s:=by
 have size:(s.heap.push { cls:=.type "dict",data:=.dict #[] }).objs.size=s.heap.objs.size+1:=Heap.size_push ..
 have before:∀ b o,s.heap.get? b=some o→(s.heap.push { cls:=.type "dict",data:=.dict #[] }).get? b=some o:=fun b o e=>Heap.get?_push_of_some _ e
 have names:=Heap.Ns.new s.heap (.type "dict")
 simp only [newFunctionEnv,if_true,Option.isSome_some]
 refine wpAny_bind (wpAny_alloc ?_)
 generalize s.heap.push { cls:=.type "dict",data:=.dict #[] }=h1 at size before names
 have none':CellsOk h1 (s.heap.objs.size+1) []:=⟨(fun _ _ z=>by cases z),List.Pairwise.nil⟩
 have laid:=cellsFrom_ok scope.names h1 _ [] none' (Nat.le_of_eq size.symm)
 have more:=pushCells_keeps scope.names h1
 rw [size] at laid
 refine wpAny_bind (wpAny_layCells _ (fun _ kind _=>?_) scope.names cl { s with heap:=h1 } _ (wpAny_bind (wpAny_pure (wpAny_pure ?_))))
 ·cases e:kind == NameKind.cell <;> simp [e]
 ·show Q { scope,locals:=s.heap.objs.size,globals,cells:=cellsFrom h1.objs.size scope.names cl,qual,func:=none,code:=env.code,frame:=env.frame,builtins:=env.builtins } _
  rw [size]
  exact h _ (names.keeps more) (fun b o e=>more b o (before b o e)) laid
section
variable {X:Cx}{pins:List (Addr×Obj)}{σ:St}{H:Hp}{s:Shared}{scope:Scope}{N':List Str}{n:Nat}{fi:List Nat}{fp:List Addr}{h':Heap}
theorem CScope.clHas (S:CScope X scope N' n fi) (ok:X.Ok):∀ y∈scope.names,y.2 = .free→∃ c,X.env.cells.lookup y.1=some c:=fun y hy hk=>ok.has _ (S.free y hy hk)
theorem cenv_cell {C:Addr}{x:Str}{c:Addr} (h:(cenv scope C X.env).cells.lookup x=some c):(cellsFrom (C+1) scope.names []).lookup x=some c∨X.env.cells.lookup x=some c:=by
 have h1:(cellsFrom (C+1) scope.names (clos X.env.cells scope.names [])).lookup x=some c:=h
 rw [cellsFrom_app] at h1
 rcases lookup_app h1 with z | z
 ·exact .inl z
 ·exact .inr (clos_sub _ _ (fun _ _ q=>by cases q) z)
theorem cellsFrom_names {x:Str}{c:Addr}:∀ (names:List (Str×NameKind)) (k:Nat) (acc:List (Str×Addr)),(x,c)∈cellsFrom k names acc→(x,NameKind.cell)∈names∨(x,c)∈acc
 | [],_,_,h=>.inr h
 | (y,q)::r,k,acc,h=>by
  unfold cellsFrom at h
  split at h
  ·rename_i hq
   have hq':q = .cell:=by simpa using hq
   subst hq'
   rcases cellsFrom_names r _ _ h with z | z
   ·exact .inl (List.mem_cons_of_mem _ z)
   ·rcases List.mem_cons.mp z with e | z
    ·cases e;exact .inl List.mem_cons_self
    ·exact .inr z
  ·rcases cellsFrom_names r _ _ h with z | z
   ·exact .inl (List.mem_cons_of_mem _ z)
   ·exact .inr z
theorem inv_block (I:Inv X pins σ H s) (S:CScope X scope N' n fi) (hf:∀ b∈fp,FpOk X pins H b) (ho:∀ b∈fp,∃ o,s.heap.get? b=some o)
  (hns:h'.Ns s.heap.objs.size (fun _=>none)) (hk:∀ b o,s.heap.get? b=some o→h'.get? b=some o) (hc:CellsOk h' (s.heap.objs.size+1) (cellsFrom (s.heap.objs.size+1) scope.names [])) :
  Inv (compCx X scope N' s H fp) [] (sub n fi σ) H { s with heap:=h' }:=by
 have ltC:∀ {b:Addr}{o:Obj},s.heap.get? b=some o→b<s.heap.objs.size:=fun e=>Heap.lt_size e
 have oldcell:∀ {x:Str}{c:Addr},X.env.cells.lookup x=some c→c<s.heap.objs.size:=fun {x c} e=>by
  obtain ⟨v,q⟩:=I.cell x c e
  exact q.lt
 have newcell:∀ {x:Str}{c:Addr},(cellsFrom (s.heap.objs.size+1) scope.names []).lookup x=some c→h'.IsCell c none∧s.heap.objs.size+1≤c:=fun {x c} e=>hc.empty x c (PySem.mem_of_lookup e)
 refine ⟨⟨I.ok.mod,S.kind,I.ok.glob,I.ok.blt,Nat.le_refl _,fun x y c h1 h2=>?_,fun x hx=>?_,fun x c hx h=>?_,I.ok.hd,I.ok.frames,.inl rfl,fun b hb=>?_,fun b o e=>?_,?_,fun b o e hb=>?_,fun b hb hz=>?_,I.stack,I.stkFree⟩,
  rfl,I.bare,Un.kept hk,⟨_,hns,fun i x v h1 h2 h3=>?_⟩,fun x c h=>?_,I.hok.fresh (Nat.le_refl _),fun x c h=>?_,fun p hp=>absurd (show p∈([]:List (Addr×Obj)) from hp) (by simp),I.hok.kept hk,?_⟩
 ·rcases cenv_cell h1 with z1 | z1 <;> rcases cenv_cell h2 with z2 | z2
  ·exact name_of_addr hc.apart (PySem.mem_of_lookup z1) (PySem.mem_of_lookup z2)
  ·exact absurd (Nat.lt_trans (oldcell z2) (newcell z1).2) (Nat.lt_irrefl _)
  ·exact absurd (Nat.lt_trans (oldcell z1) (newcell z2).2) (Nat.lt_irrefl _)
  ·exact I.ok.inj x y c z1 z2
 ·have hx:(relabel scope X.env).names.lookup x=some .cell∨(relabel scope X.env).names.lookup x=some .free:=hx
  have go:∀ k,(relabel scope X.env).names.lookup x=some k→(k = .cell∨k = .free)→∃ c,(cellsFrom (s.heap.objs.size+1) scope.names (clos X.env.cells scope.names [])).lookup x=some c:=fun k e hk=>by
   obtain ⟨k',hm,hkk⟩:=relabel_mem e
   have:k' = .cell∨k' = .free:=by
    rcases hkk with z | z
    ·rw [z];exact hk
    ·exact .inr z.1
   rcases this with z | z
   ·exact cellsFrom_has _ _ _ (.inr (z ▸ hm))
   ·exact cellsFrom_has _ _ _ (.inl (clos_has _ _ (.inr ⟨z ▸ hm,S.clHas I.ok (x,k') hm z⟩)))
  rcases hx with z | z
  ·exact go _ z (.inl rfl)
  ·exact go _ z (.inr rfl)
 ·have hx':(x,NameKind.cell)∈scope.names∧(x,NameKind.free)∉scope.names:=of_decide_eq_true hx
  have h1:(cellsFrom (s.heap.objs.size+1) scope.names (clos X.env.cells scope.names [])).lookup x=some c:=h
  rw [cellsFrom_app] at h1
  obtain ⟨d,hd⟩:=cellsFrom_has (x:=x) scope.names (s.heap.objs.size+1) [] (.inr hx'.1)
  have e2:(cellsFrom (s.heap.objs.size+1) scope.names []++clos X.env.cells scope.names []).lookup x=some d:=by
   have lk:∀ (l l':List (Str×Addr)),l.lookup x=some d→(l++l').lookup x=some d:=by
    intro l
    induction l with
    | nil=>intro l' q;cases q
    | cons p r ih=>
     obtain ⟨n,q⟩:=p
     intro l' e
     rw [List.cons_append,List.lookup_cons]
     rw [List.lookup_cons] at e
     cases hb:x == n with
     | true=>rw [hb] at e;exact e
     | false=>rw [hb] at e;exact ih l' e
   exact lk _ _ hd
  rw [h1] at e2
  cases e2
  exact Nat.le_of_lt (newcell hd).2
 ·refine ⟨?_,fun x c e z=>?_⟩
  ·obtain ⟨o,e⟩:=ho b hb
   exact Nat.ne_of_lt (ltC e)
  ·obtain ⟨o,eo⟩:=ho b hb
   rcases cenv_cell e with q | q
   ·have h1:=(newcell q).2
    have h2:=ltC eo
    rw [z] at h1
    exact Nat.lt_irrefl _ (Nat.lt_trans h2 h1)
   ·exact (hf b hb).2.2.2.2.1 x c q z
 ·exact I.bs b o e
 ·exact Nat.le_trans I.ok.bsz I.sz
 ·rcases (hf b hb).2.2.2.1 with z | z
  ·exact I.ok.noex b o e z
  ·exact absurd (Nat.lt_of_lt_of_le (Heap.lt_size (I.ok.bs b o e).1) z) (Nat.lt_irrefl _)
 ·rcases List.mem_cons.mp (I.stkSub b hz) with z | z
  ·exact (hf b hb).2.1 z
  ·exact (hf b hb).2.2.1 z
 ·have hi:n≤i:=by
   by_cases hi:n≤i
   ·exact hi
   ·unfold sub at h2
    rw [List.getElem?_append_left (by simp;lia),List.getElem?_replicate] at h2
    split at h2 <;> cases h2
  have h2':(fi.map fun k=>(σ[k]?).join)[i - n]? = some (some v):=by
   unfold sub at h2
   rw [List.getElem?_append_right (by simpa using hi)] at h2
   simpa using h2
  rw [List.getElem?_map] at h2'
  cases ek:fi[i - n]? with
  | none=>rw [ek] at h2';cases h2'
  | some k=>
   rw [ek] at h2'
   have h2'':(σ[k]?).join=some v:=Option.some.inj h2'
   have hσ:σ[k]? = some (some v):=by
    cases q:σ[k]? with
    | none=>rw [q] at h2'';cases h2''
    | some w'=>rw [q] at h2'';exact congrArg some h2''
   obtain ⟨x',e1,e2,e3,e4⟩:=S.at' (i - n) k ek
   have e1':N'[i]? = some x':=by rw [← e1];congr 1;lia
   have h1':N'[i]? = some x:=h1
   rw [e1'] at h1'
   cases h1'
   have hm:(x,NameKind.free)∈scope.names:=by
    generalize scope.names=l at e3
    induction l with
    | nil=>cases e3
    | cons p r ih=>
     obtain ⟨n',q⟩:=p
     rw [List.lookup_cons] at e3
     cases hb:x == n' with
     | true=>rw [hb] at e3;cases e3;rw [beq_iff_eq.mp hb];exact List.mem_cons_self
     | false=>rw [hb] at e3;exact List.mem_cons_of_mem _ (ih e3)
   have kx:=S.free _ hm rfl
   have vis:Vis X.env.scope x:=kx.elim (fun z=>.inr (.inl z)) fun z=>.inr (.inr z)
   obtain ⟨m0,hn0,hl0⟩:=I.loc
   obtain ⟨u,ru,lk⟩:=hl0 k x v e2 hσ vis
   refine ⟨u,ru,.inr ⟨?_,?_⟩⟩
   ·have h3:Vis (relabel scope X.env) x:=h3
    rcases h3 with z | z | z
    ·obtain ⟨k',hm',hk'⟩:=relabel_mem z
     rcases hk' with q | q
     ·exfalso
      have:=S.names (x,k') hm' (by rw [q])
      rw [show scope.names.lookup x=some .free from e3] at this
      cases this
     ·cases q.2.1
    ·exact .inl z
    ·exact .inr z
   ·rcases lk with ⟨kl,_⟩ | ⟨_,c,ec,hcell⟩
    ·rcases kx with z | z <;> (rw [show X.env.kindOf x=_ from kl] at z;cases z)
    ·refine ⟨c,?_,hcell.keeps hk⟩
     show (cellsFrom (s.heap.objs.size+1) scope.names (clos X.env.cells scope.names [])).lookup x=some c
     obtain ⟨d,hd⟩:=cellsFrom_has (x:=x) scope.names (s.heap.objs.size+1) (clos X.env.cells scope.names []) (.inl (clos_has _ _ (.inr ⟨hm,c,ec⟩)))
     rw [hd]
     have hd':=hd
     rw [cellsFrom_app] at hd'
     rcases lookup_app hd' with z | z
     ·rcases cellsFrom_names _ _ _ (PySem.mem_of_lookup z) with q | q
      ·exact absurd q e4
      ·cases q
     ·have:=clos_sub _ _ (fun _ _ q=>by cases q) z
      rw [ec] at this
      exact this.symm
 ·rcases cenv_cell h with z | z
  ·exact ⟨none,(newcell z).1⟩
  ·obtain ⟨v,q⟩:=I.cell x c z
   exact ⟨v,q.keeps hk⟩
 ·rcases cenv_cell h with z | z
  ·exact I.hok.fresh (Nat.le_of_lt (newcell z).2)
  ·exact I.freeC x c z
 ·show (sub n fi σ).length=N'.length
  rw [sub_len,S.len]
end
end L2
namespace L2
open PySem PySem.Spec PyProof.Rows
def PIfs (X:Cx) (ifs:List Expr) (t:TT):Prop:=
 ∀ (pins:List (Addr×Obj)) (s:Shared) (σ:St) (H:Hp) (Q:Bool→Hp→Prop),Inv X pins σ H s→t σ H Q →
  wpAny (model X.prog X.w) X.A (forIn ifs true fun c r=>if r=true then do let ok ← isTrue c X.env (eval c X.env);pure (ForInStep.yield ok) else pure (ForInStep.yield r)) (TP X pins σ Q) X.xe s
def tYes:TT:=fun _ H Q=>Q true H
theorem pifs_nil {X:Cx}:PIfs X [] tYes:=fun _ _ _ H _ I h=>wpAny_tests_nil ⟨H,I,h⟩
theorem pifs_one {X:Cx}{c:Expr}{t:TT} (h:PT X c t):PIfs X [c] t:=fun pins s σ H Q I q=>wpAny_tests_one (h pins s σ H Q I q)
def CompW (g:TG) (tt:TT) (te:TE) (J:It) (D:Addr) (Q:VK) (σ:St) (H:Hp):Prop:=
 ∃ W:Nat→Nat→St→Hp→Prop,(∃ m,W 0 m σ H)∧∀ i m σ H,W i m σ H →
  (J.stop i H∧Q (.ref D) H)∨(J.go i H∧∃ N:St→Hp→Prop,(∀ σ' H',N σ' H'→∃ m',m' < m∧W (i+1) m' σ' H') ∧
   ∀ x H',J.yld i H x H'→g x σ H' fun σ2 H2=>tt σ2 H2 fun b H3=>if b=true then te σ2 H3 fun v H4=>∃ xs,H4 D=some (.lst xs)∧xs.length<sizeLine∧N σ2 (upd H4 D (.lst (xs++[v]))) else N σ2 H3)
def tComp (wi:TI) (g:TG) (tt:TT) (te:TE) (n:Nat) (fi:List Nat):TE:=fun σ H Q=>
 wi σ H fun J H1=>∀ D,H1 D=none→CompW g tt te J D Q (sub n fi σ) (upd H1 D (.lst []))
section
variable {X:Cx}{elt tg iter:Expr}{ifs:List Expr}{scope:Scope}{pos:Pos}
theorem comp_loop {Y:Cx}{g:TG}{tt:TT}{te:TE}{J:It}{D it:Addr}{fp:List Addr}{tn:Nat→Heap→Prop}{Qr:VK}{σ:St}{H:Hp}{s:Shared} (hc:Y.calm=true) (hxe:∀ e s,¬ Y.xe e s)
  (hg:PG Y tg g) (hi:PIfs Y ifs tt) (he:PE Y elt te) (T:Turn Y.prog Y.w Y.K tg J fp it tn) (I:Inv Y [] σ H s) (st:tn 0 s.heap) (hf:∀ b∈fp,FpOk Y [] H b) (hw:CompW g tt te J D Qr σ H) :
  codeAny (model Y.prog Y.w) Y.A (.compLoop (.ListComp elt [⟨tg,iter,ifs,0⟩] scope pos) 0 (.ref it) (.ref D) Y.env) (fun r s'=>r = .ok .next∧∃ σ' H',Inv Y [] σ' H' s'∧Qr (.ref D) H') s:=by
 obtain ⟨W,⟨m0,w0⟩,turn⟩:=hw
 have stat:∀ {H':Hp},(∀ b∈fp,H' b=none)→∀ b∈fp,FpOk Y [] H' b:=fun hn b hb=>⟨hn b hb,(hf b hb).2⟩
 refine codeAny_loop rfl (fun n s'=>∃ i σ' H',Inv Y [] σ' H' s'∧tn i s'.heap∧(∀ b∈fp,H' b=none)∧W i n σ' H') ?_ m0 ⟨0,σ,H,I,st,fun b hb=>(hf b hb).1,w0⟩
 rintro n s3 ⟨i,σ3,H3,I3,st3,fr3,w3⟩
 show wpAny _ Y.A ((compTurn (.ListComp elt [⟨tg,iter,ifs,0⟩] scope pos) 0 (.ref it) (.ref D) Y.env).onRaise (fun x=>do noteFrame x Y.env;theTreesLotGoes x)) _ _ s3
 refine wpAny_noted ?_
 rw [compTurn_list]
 (refine wpAny_bind (wpAny_standAt (wpAny_bind ?_)))
 rcases turn i n σ3 H3 w3 with ⟨stop,qn⟩ | ⟨go,N,hN,step⟩
 ·refine thn (T.done Y rfl rfl rfl hc i [] s3 σ3 H3 _ I3 (stat fr3) st3 stop) fun r s4 ⟨hr,I4⟩=>?_
  subst hr
  exact wpAny_pure ⟨rfl,σ3,H3,I4,qn⟩
 ·refine thn (T.item Y rfl rfl rfl hc i [] s3 σ3 H3 _ I3 (stat fr3) st3 go) fun r s4 ⟨u,hr,h4⟩=>?_
  subst hr
  refine wpAny_bind (thn h4 fun _ s5 ⟨x,H5,I5,r5,y5,st5,fr5⟩=>?_)
  have I5':=I5.pinned (stat fr5) (T.obj _ _ st5)
  have again':∀ {σ7:St}{H7:Hp}{s7:Shared},Inv Y ([]++pinsAt fp s5.heap) σ7 H7 s7→N σ7 H7→∃ m,m<n∧∃ i σ' H',Inv Y [] σ' H' s7∧tn i s7.heap∧(∀ b∈fp,H' b=none)∧W i m σ' H':=fun {σ7 H7 s7} I7 n7=>by
   obtain ⟨m',hm,w7⟩:=hN σ7 H7 n7
   refine ⟨m',hm,i+1,σ7,H7,I7.unpinned,T.keep _ _ _ st5 fun b hb o e=>(I7.pin (b,o) (List.mem_append_right _ (List.mem_append_right _ (mem_pinsAt hb e)))).1,fun b hb=>?_,w7⟩
   obtain ⟨o,e,d⟩:=T.obj _ _ st5 b hb
   exact (I7.pin (b,o) (List.mem_append_right _ (List.mem_append_right _ (mem_pinsAt hb e)))).2.1
  refine wpAny_bind (wpAny_mono (hg _ s5 σ3 H5 x u _ I5' r5 (step x H5 y5)) (fun _ s6 ⟨σ6,H6,I6,q6⟩=>?_) fun e s' z=>(hxe e s' z).elim)
  refine wpAny_bind (wpAny_mono (hi _ s6 σ6 H6 _ I6 q6) (fun ok s7 ⟨H7,I7,q7⟩=>?_) fun e s' z=>(hxe e s' z).elim)
  cases ok with
  | false=>
   exact wpAny_pure ⟨rfl,again' I7 q7⟩
  | true=>
   refine wpAny_bind (wpAny_bind (wpAny_mono (he _ s7 σ6 H7 _ I7 q7) (fun u8 s8 ⟨v8,H8,I8,r8,xs,e8,z8,n8⟩=>?_) fun e s' z=>(hxe e s' z).elim))
   refine wpAny_bind (wpAny_mono (mt_append (X:=Y) _ s8 σ6 H8 (.ref D) [v8] (.ref D) [u8] (fun _ H9=>N σ6 H9) I8 rfl (.cons r8 .nil) ⟨D,xs,v8,rfl,rfl,e8,z8,n8⟩) (fun u9 s9 h9=>?_) fun e s' z=>(hxe e s' z).elim)
   obtain ⟨v9,H9,I9,_,n9⟩:=h9
   exact wpAny_pure (wpAny_pure ⟨rfl,again' I9 n9⟩)
theorem Inv.letGo {pins:List (Addr×Obj)}{σ:St}{H:Hp}{s:Shared}{C:Addr}{h':Heap} (I:Inv X pins σ H s) (hs:Heap.SameBut C s.heap h') (hn:H C=none) (hC:X.s₀.heap.objs.size≤C) (hL:C≠X.env.locals)
  (h2:∀ x c,X.env.cells.lookup x=some c→c≠C) (h3:∀ p∈X.pn++pins,p.1≠C):Inv X pins σ H { s with heap:=h' }:=
 I.turned (t':=s.toks) (fun b o hb e=>hs.extBut b o hb e) hn hL (.inr hC) h2 h3
theorem comp_core {N':List Str}{n:Nat}{fi:List Nat}{wi:TI}{g:TG}{tt:TT}{te:TE}{use:Option (Value→Sem Unit)}{Q:Value→Shared→Prop}{Qr:VK}{epos:Pos}{pins:List (Addr×Obj)}{σ:St}{H:Hp}{s:Shared}
  (hcalm:X.calm=true) (S:CScope X scope N' n fi) (hit:∀ R,wi σ H R→wpAny (model X.prog X.w) X.A (eval iter X.env) (fun v s1=>wpAny (model X.prog X.w) X.A (pyIter v) (PIE X pins σ tg R) X.xe s1) X.xe s)
  (hg:∀ s H fp,PG (compCx X scope N' s H fp) tg g) (hi:∀ s H fp,PIfs (compCx X scope N' s H fp) ifs tt) (he:∀ s H fp,PE (compCx X scope N' s H fp) elt te)
  (I:Inv X pins σ H s) (hw:tComp wi g tt te n fi σ H Qr) (hs:∀ x,foldedSetIterable iter X.env x=pure x)
  (post:∀ (D C:Addr) (s':Shared) (H':Hp) (m:Str→Option Value),Inv X pins σ H' s'→s'.heap.Ns C m→H' C=none→X.s₀.heap.objs.size≤C→C≠X.env.locals→(∀ x c,X.env.cells.lookup x=some c→c≠C)→(∀ p∈X.pn++pins,p.1≠C)→Qr (.ref D) H' →
   compPost (model X.prog X.w) X.A X.xe use Q (.ref D) C (.ok .next) s') :
  wpAny (model X.prog X.w) X.A (comprehension (.ListComp elt [⟨tg,iter,ifs,0⟩] scope pos) scope X.env epos (newList []) false (eval iter X.env) use) Q X.xe s:=by
 refine wpAny_comprehension_free (use:=use) (g:=⟨tg,iter,ifs,0⟩) (gs:=[]) rfl hs (closure_of (S.clHas I.ok)) S.kind S.names ?_
 refine thn (hit _ hw) fun v s1 h1=>thn h1 fun itv s2 h2=>?_
 obtain ⟨it,fp,tn,J,H2,e,I2,T,st2,f2,hw2⟩:=h2
 subst e
 refine wpAny_newList ?_ (Nat.zero_le _)
 have hD:H2 s2.heap.objs.size=none:=I2.hok.fresh (Nat.le_refl _)
 have I3:Inv X pins σ (upd H2 s2.heap.objs.size (.lst [])) { s2 with heap:=s2.heap.push { cls:=.type "list",data:=.seq ([]:List Value).toArray } }:=
  I2.laid (t':=s2.toks) (fun b u e=>Heap.get?_push_of_some _ e) (Nat.le_refl _) ⟨Nat.zero_le _,[],0,.nil,Heap.get?_push_size _ rfl⟩
 have hw3:=hw2 _ hD
 have u23:Un (frs X.stack) fp H2 (upd H2 s2.heap.objs.size (.lst [])) s2.heap (s2.heap.push { cls:=.type "list",data:=.seq ([]:List Value).toArray }):=
  Un.laid (fun b u e=>Heap.get?_push_of_some _ e) (Nat.le_refl _) hD
 generalize hs3:({ s2 with heap:=s2.heap.push { cls:=.type "list",data:=.seq ([]:List Value).toArray } }:Shared)=s3 at I3 ⊢
 have hh3:s3.heap=s2.heap.push { cls:=.type "list",data:=.seq ([]:List Value).toArray }:=by rw [← hs3]
 have ho3:s3.os=s2.os:=by rw [← hs3]
 have hz3:s3.heap.objs.size=s2.heap.objs.size+1:=by rw [hh3,Heap.size_push]
 rw [← hh3] at u23
 have hH3:∀ b,b≠s2.heap.objs.size→upd H2 s2.heap.objs.size (.lst []) b=H2 b:=fun b hb=>upd_ne hb
 generalize upd H2 s2.heap.objs.size (.lst [])=H3 at *
 have fpold:∀ b∈fp,∃ o,s2.heap.get? b=some o:=fun b hb=>let ⟨o,e,_⟩:=T.obj _ _ st2 b hb;⟨o,e⟩
 have k23:∀ b u,s2.heap.get? b=some u→s3.heap.get? b=some u:=fun b u e=>by rw [hh3];exact Heap.get?_push_of_some _ e
 have hfp3:∀ b∈fp,FpOk X pins H3 b:=fun b hb=>by
  obtain ⟨o,e⟩:=fpold b hb
  exact ⟨(hH3 b (Nat.ne_of_lt (Heap.lt_size e))).trans (f2 b hb).1,(f2 b hb).2⟩
 refine newEnvC fun h4 hns hk hc=>?_
 show codeAny _ _ (.compStart _ 0 _ _ (cenv scope s3.heap.objs.size X.env)) _ _
 have I4:=inv_block I3 S hfp3 (fun b hb=>let ⟨o,e⟩:=fpold b hb;⟨o,k23 b o e⟩) hns hk hc
 have hfY:∀ b∈fp,FpOk (compCx X scope N' s3 H3 fp) [] H3 b:=fun b hb=>⟨(hfp3 b hb).1,(I4.ok.exf b hb).1,I4.ok.exfs b hb,.inl hb,(I4.ok.exf b hb).2,fun p hp=>absurd (show p∈([]:List (Addr×Obj)) from hp) (by simp)⟩
 have st4:tn 0 h4:=T.keep _ _ _ st2 fun b hb o e=>hk b o (k23 b o e)
 have loop:=comp_loop (Y:=compCx X scope N' s3 H3 fp) (elt:=elt) (tg:=tg) (iter:=iter) (ifs:=ifs) (scope:=scope) (pos:=pos) hcalm (fun _ _ z=>z) (hg s3 H3 fp) (hi s3 H3 fp) (he s3 H3 fp) T I4 st4 hfY hw3
 have fin:codeAny (model X.prog X.w) X.A (.compLoop (.ListComp elt [⟨tg,iter,ifs,0⟩] scope pos) 0 (.ref it) (.ref s2.heap.objs.size) (cenv scope s3.heap.objs.size X.env)) (compPost (model X.prog X.w) X.A X.xe use Q (.ref s2.heap.objs.size) s3.heap.objs.size) { s3 with heap:=h4 }:=by
  refine codeAny_mono loop fun r s' ⟨hr,σ',H',J5,q5⟩=>?_
  subst hr
  have u5:Un (frs X.stack) fp H3 H' s3.heap s'.heap:=J5.base
  have I5:Inv X pins σ H' s':=I2.call' (ch:=fp) (J5.os.trans ho3) (u23.trans u5) J5.hok J5.bare fun b hb=>⟨(f2 b hb).2.2.2.1,(f2 b hb).2.1,(f2 b hb).2.2.2.2.1,(f2 b hb).2.2.2.2.2⟩
  obtain ⟨m,hm,_⟩:=J5.loc
  refine post _ _ s' H' m I5 hm J5.free I3.sz (Nat.ne_of_gt I3.lt) (fun x c e=>?_) (fun p hp=>?_) q5
  ·obtain ⟨v,q⟩:=I3.cell x c e
   exact Nat.ne_of_lt q.lt
  ·exact Nat.ne_of_lt (Heap.lt_size (I3.pin p hp).1)
 exact codeAny_compStart_list fin (T.self _ 0 _ _ _ st4 fin)
theorem pe_comp {N':List Str}{n:Nat}{fi:List Nat}{wi:TI}{g:TG}{tt:TT}{te:TE} (hcalm:X.calm=true) (S:CScope X scope N' n fi) (hit:PI X tg iter wi)
  (hg:∀ s H fp,PG (compCx X scope N' s H fp) tg g) (hi:∀ s H fp,PIfs (compCx X scope N' s H fp) ifs tt) (he:∀ s H fp,PE (compCx X scope N' s H fp) elt te)
  (hs:∀ x,foldedSetIterable iter X.env x=pure x:=by intro _;rfl):PE X (.ListComp elt [⟨tg,iter,ifs,0⟩] scope pos) (tComp wi g tt te n fi):=by
 intro pins s σ H Q I h
 rw [eval_ListComp]
 refine comp_core (use:=none) hcalm S (fun R z=>hit pins s σ H R I z) hg hi he I h hs fun D C s' H' m I' hm hn hC hL h2 h3 q=>⟨m,hm,fun h' hs'=>?_⟩
 exact ⟨.ref D,H',I'.letGo hs' hn hC hL h2 h3,rfl,q⟩
theorem ps_comp {N':List Str}{n i:Nat}{fi:List Nat}{wi:TI}{g:TG}{tt:TT}{te:TE}{x:Str}{pos' spos:Pos} (hN:X.N.Nodup) (hxi:X.N[i]? = some x) (hx:Loc X.env.scope x) (hcalm:X.calm=true) (S:CScope X scope N' n fi) (hit:PI X tg iter wi)
  (hg:∀ s H fp,PG (compCx X scope N' s H fp) tg g) (hi:∀ s H fp,PIfs (compCx X scope N' s H fp) ifs tt) (he:∀ s H fp,PE (compCx X scope N' s H fp) elt te)
  (hsw:swapsWith (.ListComp elt [⟨tg,iter,ifs,0⟩] scope pos) (some (.Name x pos')) spos.line X.env=pure true:=by rfl)
  (hs:∀ x,foldedSetIterable iter X.env x=pure x:=by intro _;rfl) (hf:X.fn x=true∨X.env.scope.names.lookup x=some .local:=by first | exact .inl rfl | exact .inr rfl | assumption) :
  PS X (.Assign [.Name x pos'] (.ListComp elt [⟨tg,iter,ifs,0⟩] scope pos) spos) (tAsg (tComp wi g tt te n fi) (gName i)):=by
 intro pins s σ H D I h
 (rw [exec_Assign_Name_used _ _ _ _ hsw])
 (refine wpAny_bind (wpAny_standAt (wpAny_bind ?_)))
 show wpAny _ X.A (do let _ ← comprehension (.ListComp elt [⟨tg,iter,ifs,0⟩] scope pos) scope X.env _ (newList []) false (eval iter X.env) (some (assign (.Name x pos') X.env))) _ _ s
 refine wpAny_bind (thn (comp_core (use:=some (assign (.Name x pos') X.env)) (Q:=fun _ s'=>SP X pins D .next s') hcalm S (fun R z=>hit pins s σ H R I z) hg hi he I h hs fun Da C s' H' m I' hm hn hC hL h2 h3 q=>?_) fun _ s' q=>wpAny_pure (wpAny_pure q))
 show wpAny _ _ (assign (.Name x pos') X.env (.ref Da)) _ _ s'
 refine wpAny_assign_Name (store_ok2 (v:=.ref Da) I' hN hxi hx rfl (fun s2 I2 ⟨a,hsb,ha⟩=>?_) hf)
 have hCa:C≠a:=by
  rcases ha with z | z
  ·rw [z];exact hL
  ·exact (h2 x a z).symm
 exact ⟨m,hm.sameBut hsb hCa,fun h' hs'=>⟨_,H',I2.letGo hs' hn hC hL h2 h3,q⟩⟩
end
end L2
namespace L2
open PySem PySem.Spec PyProof.Rows
section
variable {X:Cx}
theorem Inv.turnedL {pins:List (Addr×Obj)}{σ:St}{H:Hp}{s:Shared}{h':Heap}{t':Nat}{wr:List Addr} (I:Inv X pins σ H s) (hf:∀ b∈wr,FpOk X pins H b) (k:∀ b o,b∉wr→s.heap.get? b=some o→h'.get? b=some o) :
  Inv X pins σ H { s with heap:=h',toks:=t' }:=by
 have nit:∀ b u,H b=some u→b∉wr:=fun b u e z=>by rw [(hf b z).1] at e;cases e
 refine I.step (g':=s.gens) (d':=s.drawn) (ch:=wr) (fun b hb=>⟨(hf b hb).2.2.2.1,(hf b hb).2.1,(hf b hb).2.2.2.2.1,(hf b hb).2.2.2.2.2⟩) (fun b o _ _ hc e _=>k b o hc e) (fun b o _ _ hc e _=>⟨o.slots,k b o hc e⟩) (fun _ _ _ _ n=>n)
  (fun b o hc e=>⟨o,k b o hc e⟩) (fun _ _ e=>e) (fun _ _ _ e=>e) (fun b ps e=>⟨#[],by rw [e];simp⟩) (fun m hm=>?_) (fun b u e=>?_) I.bare
 ·obtain ⟨o,es,ep,ho,r⟩:=hm
  exact ⟨o,es,ep,k _ o (fun z=>(hf _ z).2.1 rfl) ho,r⟩
 ·refine (I.hok b u e).stay (fun c v hc q=>k c v ?_ q) (fun _ q=>q) fun _ _ q=>q
  rcases hc with z | z
  ·rw [z];exact nit b u e
  ·exact nit c _ z
theorem Inv.turnedLay {pins:List (Addr×Obj)}{σ:St}{H:Hp}{s:Shared}{h':Heap}{t':Nat}{wr:List Addr}{a:Addr}{o:HO} (I:Inv X pins σ H s) (hf:∀ b∈wr,FpOk X pins H b) (k:∀ b o,b∉wr→s.heap.get? b=some o→h'.get? b=some o)
  (ha:s.heap.objs.size≤a) (new:ObjOk X.prog X.w (upd H a o) h' a o):Inv X pins σ (upd H a o) { s with heap:=h',toks:=t' }:=by
 have nit:∀ b u,H b=some u→b∉wr:=fun b u e z=>by rw [(hf b z).1] at e;cases e
 have hfr:H a=none:=I.hok.fresh ha
 refine I.step (g':=s.gens) (d':=s.drawn) (ch:=wr) (fun b hb=>⟨(hf b hb).2.2.2.1,(hf b hb).2.1,(hf b hb).2.2.2.2.1,(hf b hb).2.2.2.2.2⟩) (fun b o _ _ hc e _=>k b o hc e) (fun b o _ _ hc e _=>⟨o.slots,k b o hc e⟩)
  (fun b ob _ e n=>by rw [upd_ne (Nat.ne_of_lt (Nat.lt_of_lt_of_le (Heap.lt_size e) ha))];exact n)
  (fun b o hc e=>⟨o,k b o hc e⟩) (fun b xs e=>by rw [upd_ne (ne_of_none e hfr)];exact e) (fun b ob u e=>by rw [upd_ne (ne_of_none e hfr)];exact e) (fun b ps e=>⟨#[],by rw [upd_ne (ne_of_none e hfr),e];simp⟩) (fun m hm=>?_) (fun b u e=>?_) I.bare
 ·obtain ⟨o,es,ep,ho,r⟩:=hm
  exact ⟨o,es,ep,k _ o (fun z=>(hf _ z).2.1 rfl) ho,r⟩
 ·by_cases hb:b=a
  ·subst hb;rw [upd_same] at e;cases e;exact new
  ·rw [upd_ne hb] at e
   refine (I.hok b u e).stay (fun c v hc q=>k c v ?_ q) (fun c q=>by rw [upd_ne (ne_of_none q hfr)];exact q) fun c xs q=>by rw [upd_ne (ne_of_none q hfr)];exact q
   rcases hc with z | z
   ·rw [z];exact nit b u e
   ·exact nit c _ z
def Its (z:Str):It:=⟨fun i _=>i<z.length,fun i H x H'=>H' = H∧∃ c,z.cps[i]? = some c∧x = .str ⟨#[c]⟩,fun i _=>z.length≤i⟩
theorem turn_str {P:Program}{w:World}{K:PySem.W.Frag}{tg:Expr}{ty:String} (it:Addr) (z:Str) (t:Tok)
  (hW:∀ A:Around,A.handled=none→Walks P w A it [it] [it] z.cps.size (SignAt z) (fun i h=>h.IsStrIter it ty z t i))
  (hty:["enumerate", "zip", "dict_itemiterator", "dict_reverseitemiterator", "odict_iterator", "itertools.zip_longest", "itertools.pairwise"].contains ty=false)
  (hself:∀ (A:Around) (i:Nat) (s:Shared) (Q:Value→Shared→Prop) (E:Value→Shared→Prop),s.heap.IsStrIter it ty z t i→Q (.ref it) s→wpAny (model P w) A (pyIter (.ref it)) Q E s) :
  Turn P w K tg (Its z) [it] it (fun i h=>i≤z.length∧h.IsStrIter it ty z t i) where
 mem:=by simp
 obj:=fun i h st b hb=>by
  have e:b=it:=by simpa using hb
  subst e
  obtain ⟨_,o,e,c,d⟩:=st
  exact ⟨o,e,fun v z=>by rw [d] at z;cases z⟩
 keep:=fun i h h' st k=>by
  obtain ⟨hi,o,e,c,d⟩:=st
  exact ⟨hi,o,k it (by simp) o e,c,d⟩
 item:=by
  intro X hP hw hK hc i pins s σ H E I hf st hg
  subst hP hw hK
  refine (hW X.A (I.ok.hd hc)).item i s _ _ hg st.2 fun v h' tk hv st' kk=>?_
  obtain ⟨c,u,ec,rfl⟩:=hv
  have I1:Inv X pins σ H { s with heap:=h',toks:=tk }:=I.turnedL hf kk
  obtain ⟨o,e,cl,d⟩:=id st'
  exact ⟨_,rfl,go_of (s:={ s with heap:=h',toks:=tk }) e cl d hty ⟨.str ⟨#[c]⟩,H,I1,⟨u,rfl⟩,⟨rfl,c,ec,rfl⟩,⟨hg,st'⟩,fun b hb=>(hf b hb).1⟩⟩
 done:=by
  intro X hP hw hK hc i pins s σ H E I hf st hg
  subst hP hw hK
  have e:i=z.cps.size:=Nat.le_antisymm st.1 hg
  subst e
  exact (hW X.A (I.ok.hd hc)).done s _ _ st.2 fun h' tk kk=>⟨rfl,I.turnedL hf kk⟩
 self:=fun A i s Q E st h=>hself A i s Q E st.2 h
def iStr (tl:TE):TI:=fun σ H R=>tl σ H fun x H1=>∃ z,x = .str z∧R (Its z) H1
theorem iter_str {tg:Expr}{z:Str}{t:Tok}{pins:List (Addr×Obj)}{s:Shared}{σ:St}{H:Hp}{R:It→Hp→Prop} (I:Inv X pins σ H s) (q:R (Its z) H):wpAny (model X.prog X.w) X.A (pyIter (.str z t)) (PIE X pins σ tg R) X.xe s:=by
 have fp:∀ b∈[s.heap.objs.size],FpOk X pins H b:=fun b hb=>by
  have e:b=s.heap.objs.size:=by simpa using hb
  subst e
  exact I.fpOk (Nat.le_refl _) (I.hok.fresh (Nat.le_refl _))
 cases ha:z.cps.all (· < 128) with
 | false=>
  refine wpAny_pyIter_wide ha ?_
  exact ⟨s.heap.objs.size,[s.heap.objs.size],_,_,H,rfl,I.kept (t':=s.toks) fun b o e=>Heap.get?_push_of_some _ e,turn_str (ty:= "str_iterator") _ z t (fun A hA=>Walks.strWide hA _ z t) (by decide) (fun A i s Q E st h=>wpAny_pyIter_striter_wide st h),
   ⟨Nat.zero_le _,_,Heap.get?_push_size _ rfl,rfl,rfl⟩,fp,q⟩
 | true=>
  refine wpAny_pyIter_ascii ha ?_
  exact ⟨s.heap.objs.size,[s.heap.objs.size],_,_,H,rfl,I.kept (t':=s.toks) fun b o e=>Heap.get?_push_of_some _ e,turn_str (ty:= "str_ascii_iterator") _ z t (fun A hA=>Walks.strAscii hA _ z t) (by decide) (fun A i s Q E st h=>wpAny_pyIter_striter_ascii st h),
   ⟨Nat.zero_le _,_,Heap.get?_push_size _ rfl,rfl,rfl⟩,fp,q⟩
theorem pi_str {tg l:Expr}{tl:TE} (hl:PE X l tl):PI X tg l (iStr tl):=by
 intro pins s σ H R I h
 refine thn (hl pins s σ H _ I h) fun v s1 ⟨x,H1,I1,r1,z,e,q⟩=>?_
 subst e
 obtain ⟨t,rfl⟩:=r1
 exact iter_str I1 q
end
end L2
set_option autoImplicit false
namespace L2
open PySem PySem.Spec PyProof.Rows
mutual
inductive Den (K:PySem.W.Frag) (H:Hp):V→PyData→Prop
 | non:Den K H .non .none
 | bl (b:Bool):Den K H (.bl b) (.bool b)
 | int (i:Int):Den K H (.int i) (.int i)
 | str {x:Str} (h:PyData.strOk x=true):Den K H (.str x) (.str x)
 | lst {a:Addr}{xs:List V}{ds:List PyData} (h:SqL K H a xs) (t:Dens K H xs ds):Den K H (.ref a) (.list ds)
 | tup {a:Addr}{xs:List V}{ds:List PyData} (h:SqT K H a xs) (t:Dens K H xs ds):Den K H (.ref a) (.tuple ds)
inductive Dens (K:PySem.W.Frag) (H:Hp):List V→List PyData→Prop
 | nil:Dens K H [] []
 | cons {x:V}{xs:List V}{d:PyData}{ds:List PyData} (h:Den K H x d) (t:Dens K H xs ds):Dens K H (x::xs) (d::ds)
end
section
variable {K:PySem.W.Frag}{H H':Hp}
theorem Dens.length:∀ {xs:List V}{ds:List PyData},Dens K H xs ds→xs.length=ds.length
 | _,_,.nil=>rfl
 | _,_,.cons _ t=>by rw [List.length_cons,List.length_cons,t.length]
theorem Dens.append:∀ {xs ys:List V}{ds es:List PyData},Dens K H xs ds→Dens K H ys es→Dens K H (xs++ys) (ds++es)
 | _,_,_,_,.nil,s=>s
 | _,_,_,_,.cons r t,s=>.cons r (t.append s)
theorem Dens.get:∀ {xs:List V}{ds:List PyData}{i:Nat}{x:V},Dens K H xs ds→xs[i]? = some x→∃ d,ds[i]? = some d∧Den K H x d
 | _,_,_,_,.nil,e=>by simp at e
 | _,_,0,_,.cons r _,e=>by simp at e;subst e;exact ⟨_,rfl,r⟩
 | _,_,i+1,x,.cons _ t,e=>by
  obtain ⟨u,h1,h2⟩:=Dens.get (i:=i) (x:=x) t (by simpa using e)
  exact ⟨u,by simpa using h1,h2⟩
theorem Dens.getD:∀ {xs:List V}{ds:List PyData}{i:Nat}{d:PyData},Dens K H xs ds→ds[i]? = some d→∃ x,xs[i]? = some x∧Den K H x d
 | _,_,_,_,.nil,e=>by simp at e
 | _,_,0,_,.cons r _,e=>by simp at e;subst e;exact ⟨_,rfl,r⟩
 | _,_,i+1,x,.cons _ t,e=>by
  obtain ⟨u,h1,h2⟩:=Dens.getD (i:=i) t (by simpa using e)
  exact ⟨u,by simpa using h1,h2⟩
mutual
theorem Den.keep (h1:∀ a xs,SqL K H a xs→SqL K H' a xs) (h2:∀ a xs,SqT K H a xs→SqT K H' a xs):∀ {v:V}{d:PyData},Den K H v d→Den K H' v d
 | _,_,.non=>.non
 | _,_,.bl b=>.bl b
 | _,_,.int i=>.int i
 | _,_,.str h=>.str h
 | _,_,.lst h t=>.lst (h1 _ _ h) (Dens.keep h1 h2 t)
 | _,_,.tup h t=>.tup (h2 _ _ h) (Dens.keep h1 h2 t)
theorem Dens.keep (h1:∀ a xs,SqL K H a xs→SqL K H' a xs) (h2:∀ a xs,SqT K H a xs→SqT K H' a xs):∀ {v:List V}{d:List PyData},Dens K H v d→Dens K H' v d
 | _,_,.nil=>.nil
 | _,_,.cons r t=>.cons (Den.keep h1 h2 r) (Dens.keep h1 h2 t)
end
theorem Same.seqT {a:Addr}{xs:List V} (e:Same H H') (h:SqT K H a xs):SqT K H' a xs:=by
 rcases h with (h | ⟨o,h⟩) | h
 ·exact .inl (.inl (e _ _ h))
 ·exact .inl (.inr ⟨o,e _ _ h⟩)
 ·exact .inr h
theorem Den.same {v:V}{d:PyData} (e:Same H H') (h:Den K H v d):Den K H' v d:=h.keep (fun _ _ q=>e.seq q) fun _ _ q=>e.seqT q
theorem Dens.same {v:List V}{d:List PyData} (e:Same H H') (h:Dens K H v d):Dens K H' v d:=h.keep (fun _ _ q=>e.seq q) fun _ _ q=>e.seqT q
mutual
theorem Den.lay:∀ {v:V}{d:PyData},Den K H v d→d.canLay0=true
 | _,_,.non=>rfl
 | _,_,.bl b=>rfl
 | _,_,.int i=>rfl
 | _,_,.str h=>h
 | _,_,.lst h t=>Dens.lay t
 | _,_,.tup h t=>Dens.lay t
theorem Dens.lay:∀ {v:List V}{d:List PyData},Dens K H v d→PyData.canLayAll0 d=true
 | _,_,.nil=>rfl
 | _,_,.cons r t=>by rw [PyData.canLayAll0,Den.lay r,Dens.lay t];rfl
end
end
section
variable {X:Cx}{pins:List (Addr×Obj)}{σ:St}{H:Hp}{s:Shared}
mutual
theorem Inv.reads (I:Inv X pins σ H s):∀ {v:V}{d:PyData}{u:Value},Den X.K H v d→RelV v u→∃ as,Reads s.heap u d as
 | _,_,_,.non,r=>by cases r;exact ⟨_,.none⟩
 | _,_,_,.bl b,r=>by cases r;exact ⟨_,.bool b⟩
 | _,_,_,.int i,r=>by obtain ⟨t,rfl⟩:=r;exact ⟨_,.int i t⟩
 | _,_,_,.str (x:=x) h,r=>by obtain ⟨t,rfl⟩:=r;exact ⟨_,.str x t⟩
 | _,_,_,.lst h t,r=>by
  cases r
  obtain ⟨its,rv,⟨o,n,e,c,_,d⟩,_⟩:=I.list h
  obtain ⟨as,ra⟩:=I.readsAll t rv
  exact ⟨_,.list e c d (by simpa using ra)⟩
 | _,_,_,.tup h t,r=>by
  cases r
  obtain ⟨its,rv,⟨o,e,c,n,d⟩,_⟩:=I.tuple h
  obtain ⟨as,ra⟩:=I.readsAll t rv
  exact ⟨_,.tuple e c d (by simpa using ra)⟩
theorem Inv.readsAll (I:Inv X pins σ H s):∀ {vs:List V}{ds:List PyData}{us:List Value},Dens X.K H vs ds→Vals vs us→∃ as,ReadsAll s.heap us ds as
 | _,_,_,.nil,.nil=>⟨_,.nil⟩
 | _,_,_,.cons h t,.cons r rr=>by
  obtain ⟨as,ra⟩:=I.reads h r
  obtain ⟨bs,rb⟩:=I.readsAll t rr
  exact ⟨_,.cons ra rb⟩
end
def rEqD (K:PySem.W.Frag):R2:=fun x y H Q=>∃ d e,Den K H x d∧Den K H y e∧d.depth≤100∧Q (.bl (PyData.eqv d e)) H
def rNeD (K:PySem.W.Frag):R2:=fun x y H Q=>∃ d e,Den K H x d∧Den K H y e∧d.depth≤100∧Q (.bl (!PyData.eqv d e)) H
theorem units_depth {k a b:Nat}{A:Around} (hr:Room k A) (h:a≤100):A.units+min a b<cLine:=by
 have:=hr.un
 have:min a b≤a:=Nat.min_le_left _ _
 lia
theorem op_eqD {k:Nat} (hr:Room k X.A):OpR X (compareOp .Eq) (rEqD X.K):=by
 intro pins s σ H x y v u Q I rx ry h
 obtain ⟨d,e,hd,he,hl,q⟩:=h
 obtain ⟨as,ra⟩:=I.reads hd rx
 obtain ⟨bs,rb⟩:=I.reads he ry
 exact SeqAt.compareEq_reads ra rb hd.lay he.lay (units_depth hr hl) ⟨.bl _,H,I,rfl,q⟩
theorem op_neD {k:Nat} (hr:Room k X.A):OpR X (compareOp .NotEq) (rNeD X.K):=by
 intro pins s σ H x y v u Q I rx ry h
 obtain ⟨d,e,hd,he,hl,q⟩:=h
 obtain ⟨as,ra⟩:=I.reads hd rx
 obtain ⟨bs,rb⟩:=I.reads he ry
 exact SeqAt.compareNe_reads ra rb hd.lay he.lay (units_depth hr hl) ⟨.bl _,H,I,rfl,q⟩
theorem op_le_str:OpR X (compareOp .LtE) (fun x y H Q=>∃ i j,x = .str i∧y = .str j∧Q (.bl (!decide (j.cps.toList<i.cps.toList))) H):=by
 intro pins s σ H x y v u Q I rx ry h
 obtain ⟨i,j,rfl,rfl,q⟩:=h
 obtain ⟨t,rfl⟩:=rx
 obtain ⟨t',rfl⟩:=ry
 exact PySem.P.le_str ⟨.bl _,H,I,rfl,q⟩
def rSlS:V→Option Int→Option Int→Hp→VK→Prop:=fun x lo hi H Q=>∃ z,x = .str z∧z.length≤sizeLine∧Q (.str (Txt.slice z lo hi)) H
theorem sl_str:SlR X rSlS:=by
 intro pins s σ H x v vl vu lo hi sl Q I rx hs pl pu h
 obtain ⟨z,rfl,hz,q⟩:=h
 obtain ⟨t,rfl⟩:=rx
 refine ⟨"str",_,F.slot_str_getitem.lookup,typeIs_str _ _ _,?_⟩
 have fin:∀ t' k,EP X pins σ Q (.str (Txt.slice z lo hi) t') { s with toks:=k }:=fun t' k=>⟨.str _,H,I.tok _,⟨_,rfl⟩,q⟩
 cases pl with
 | none=>
  cases pu with
  | none=>exact wpAny_getItem_str_slice (l:=none) (u:=none) (st:=none) hs rfl (post_val_or_str ⟨Nat.le_trans (Txt.slice_le z _ _) hz,fin⟩)
  | int j u=>exact wpAny_getItem_str_slice (l:=none) (u:=some (j,u)) (st:=none) hs rfl (post_val_or_str ⟨Nat.le_trans (Txt.slice_le z _ _) hz,fin⟩)
 | int i t1=>
  cases pu with
  | none=>exact wpAny_getItem_str_slice (l:=some (i,t1)) (u:=none) (st:=none) hs rfl (post_val_or_str ⟨Nat.le_trans (Txt.slice_le z _ _) hz,fin⟩)
  | int j u=>exact wpAny_getItem_str_slice (l:=some (i,t1)) (u:=some (j,u)) (st:=none) hs rfl (post_val_or_str ⟨Nat.le_trans (Txt.slice_le z _ _) hz,fin⟩)
theorem vals_strs:∀ (l:List (Str×Tok)),Vals ((l.map (·.1)).map V.str) (strValues l)
 | []=>.nil
 | p::r=>.cons ⟨p.2,rfl⟩ (vals_strs r)
def rSplit:V→List V→Hp→VK→Prop:=fun x vs H Q=>∃ z y,x = .str z∧vs=[.str y]∧y.length≠0∧z.length+2≤sizeLine∧∀ l,H l=none→Q (.ref l) (upd H l (.lst ((Txt.split z y).map V.str)))
theorem split_len (z y:Str) (hz:z.length+2≤sizeLine):(Builtin.Str.partsBetween z (Builtin.Str.occurrences z y 0 z.length (z.length+1)) y.length).length≤sizeLine:=by
 have e1:=StrLaws.occ_length_le z y 0 z.length (z.length+1)
 (rw [length_partsBetween];lia)
theorem mt_split:MtR X "str.split" rSplit:=by
 intro pins s σ H x vs v us Q I rx rv h
 obtain ⟨z,y,rfl,rfl,hy,hz,q⟩:=h
 obtain ⟨t,rfl⟩:=rx
 obtain ⟨u,rfl,ru⟩:=rv.one
 obtain ⟨t',rfl⟩:=ru
 have hn:=split_len z y hz
 have fin:∀ (l:List (Str×Tok)) (tk:Nat),l.map (·.1)=Txt.split z y→EP X pins σ Q (.ref s.heap.objs.size) { s with heap:=s.heap.push { cls:=.type "list",data:=.seq (strValues l).toArray },toks:=tk }:=fun l tk e=>by
  have hl:((Txt.split z y).map V.str).length≤sizeLine:=by
   rw [List.length_map]
   unfold Txt.split
   split
   ·show 1≤sizeLine;lia
   ·split
    ·show 1≤sizeLine;lia
    ·exact hn
  refine ⟨.ref s.heap.objs.size,_,I.laid (o:=.lst ((Txt.split z y).map V.str)) (fun b ob e=>Heap.get?_push_of_some _ e) (Nat.le_refl _) ⟨hl,strValues l,0,?_,Heap.get?_push_size _ rfl⟩,rfl,q _ (I.hok.fresh (Nat.le_refl _))⟩
  rw [← e]
  exact vals_strs l
 have hy':(y.length == 0)=false:=by simpa using hy
 cases h1:(decide (z.length<y.length) || decide (Builtin.Str.strKind z<Builtin.Str.strKind y))
 ·cases hf:(Builtin.Str.occurrences z y 0 z.length (z.length+1)).isEmpty
  ·refine call_meets F.slot_str_split (typeIs_str _ _ _) F.entry_str_split (F.args_str_split_2 _ _) (meets_str_split_sep z y t t' h1 hy' hf (by lia) hn) ?_
   show wants (EP X pins σ Q) X.xe _ { s with toks:=_,heap:=s.heap.push { cls:=.type "list",data:=.seq (strsFrom s.toks (Builtin.Str.partsBetween z (Builtin.Str.occurrences z y 0 z.length (z.length+1)) y.length)).toArray } }
   rw [strsFrom_eq]
   exact fin (numbered s.toks _) _ ((numbered_texts _ _).trans ((if_neg (ne_true_of_eq_false h1)).trans (if_neg (ne_true_of_eq_false hf))).symm)
  ·exact call_meets F.slot_str_split (typeIs_str _ _ _) F.entry_str_split (F.args_str_split_2 _ _) (meets_str_split_not_found z y t t' h1 hy' hf)
    (fin [(z,t)] s.toks ((if_neg (ne_true_of_eq_false h1)).trans (if_pos hf)).symm)
 ·exact call_meets F.slot_str_split (typeIs_str _ _ _) F.entry_str_split (F.args_str_split_2 _ _) (meets_str_split_cannot_occur z y t t' h1)
   (fin [(z,t)] s.toks (if_pos h1).symm)
theorem strs_of:∀ {ys:List Str}{us:List Value},Vals (ys.map V.str) us→∃ l:List (Str×Tok),us=strValues l∧l.map (·.1)=ys
 | [],_,.nil=>⟨[],rfl,rfl⟩
 | y::ys,_,.cons r t=>by
  obtain ⟨tk,rfl⟩:=r
  obtain ⟨l,rfl,rfl⟩:=strs_of t
  exact ⟨(y,tk)::l,rfl,rfl⟩
def rJoin (K:PySem.W.Frag):V→List V→Hp→VK→Prop:=fun x vs H Q=>∃ z l ys,x = .str z∧vs=[.ref l]∧SqL K H l (ys.map V.str)∧JoinOk z ys=true∧Q (.str (Txt.join z ys)) H
theorem mt_join:MtR X "str.join" (rJoin X.K):=by
 intro pins s σ H x vs v us Q I rx rv h
 obtain ⟨z,l,ys,rfl,rfl,hl,hok,q⟩:=h
 obtain ⟨t,rfl⟩:=rx
 obtain ⟨u,rfl,ru⟩:=rv.one
 cases ru
 obtain ⟨its,r,pl,_⟩:=I.list hl
 obtain ⟨l',rfl,e⟩:=strs_of r
 exact SC.join pl.isList e hok fun t' k=>⟨.str _,H,I.tok _,⟨_,rfl⟩,q⟩
end
end L2
namespace L2
open PySem PySem.Spec PyProof.Rows
mutual
def ltv:PyData→PyData→Bool
 | .int a,.int b=>decide (a<b)
 | .str x,.str y=>decide (x.cps.toList<y.cps.toList)
 | .list xs,.list ys=>ltvAll xs ys
 | .tuple xs,.tuple ys=>ltvAll xs ys
 | _,_=>false
def ltvAll:List PyData→List PyData→Bool
 | [],[]=>false
 | [],_::_=>true
 | _::_,[]=>false
 | x::xs,y::ys=>if PyData.eqv x y=true then ltvAll xs ys else ltv x y
end
mutual
def cmpb:PyData→PyData→Bool
 | .int _,.int _=>true
 | .str _,.str _=>true
 | .list xs,.list ys=>cmpAll xs ys
 | .tuple xs,.tuple ys=>cmpAll xs ys
 | _,_=>false
def cmpAll:List PyData→List PyData→Bool
 | [],_=>true
 | _::_,[]=>true
 | x::xs,y::ys=>if PyData.eqv x y=true then cmpAll xs ys else cmpb x y
end
theorem ltvAll_cons (x y:PyData) (xs ys:List PyData):ltvAll (x::xs) (y::ys)=if PyData.eqv x y=true then ltvAll xs ys else ltv x y:=by rw [ltvAll]
theorem cmpAll_cons (x y:PyData) (xs ys:List PyData):cmpAll (x::xs) (y::ys)=if PyData.eqv x y=true then cmpAll xs ys else cmpb x y:=by rw [cmpAll]
def LtAt (A:Around) (s:Shared) (y x:Value) (b:Bool):Prop:=
 ∀ (prog:Program) (w:World) (E:Value→Shared→Prop) (Q:Value→Shared→Prop),Q (.bool b) s→wpAny (model prog w) A (richCompare .Lt y x) Q E s
def LtAll (xs ys:List PyData):Prop:=∀ x y,x∈xs→y∈ys→cmpb x y=true→∀ (A:Around) (s:Shared) (a b:Value) (as bs:List Addr),Reads s.heap a x as→Reads s.heap b y bs→x.canLay0=true→y.canLay0=true→A.units+x.depth<cLine→LtAt A s a b (ltv x y)
theorem LtAll.tail {x y:PyData}{xs ys:List PyData} (h:LtAll (x::xs) (y::ys)):LtAll xs ys:=fun a b ha hb=>h a b (List.mem_cons_of_mem _ ha) (List.mem_cons_of_mem _ hb)
section
open PySem.SeqAt
open PySem.AutoSeq1 (wpAny_loadPart')
open PySem.MeetsSeq PySem.MeetsSeq2 PySem.MeetsSeq3
theorem depth_head {x:PyData}{xs:List PyData}{k:Nat} (h:k+PyData.depthAll (x::xs)<cLine):k+x.depth<cLine:=by
 rw [PyData.depthAll] at h
 have:=Nat.le_max_left x.depth (PyData.depthAll xs)
 lia
theorem depth_tail {x:PyData}{xs:List PyData}{k:Nat} (h:k+PyData.depthAll (x::xs)<cLine):k+PyData.depthAll xs<cLine:=by
 rw [PyData.depthAll] at h
 have:=Nat.le_max_right x.depth (PyData.depthAll xs)
 lia
theorem eq_room {k a b:Nat} (h:k+a<cLine):k+min a b<cLine:=by
 have:=Nat.min_le_left a b
 lia
def Sq (T:String) (hp:Heap) (a:Addr) (its:Array Value):Prop:=∃ n dd sl,hp.get? a=some { cls:=.type T,dict:=dd,data:=.seq its n,slots:=sl }
structure Sqs (hp:Heap) (i:Nat) (its its2:Array Value) (xs ys:List PyData):Prop where
 in1:i≤its.size
 in2:i≤its2.size
 r1:∃ as,ReadsAll hp (its.toList.drop i) xs as
 r2:∃ bs,ReadsAll hp (its2.toList.drop i) ys bs
theorem none_at {its:Array Value}{i:Nat} (h:its.size≤i):its[((i:Nat):Int).toNat]? = none:=by
 rw [Int.toNat_natCast]
 exact Array.getElem?_eq_none h
theorem some_at {its:Array Value}{i:Nat} (h:i<its.size):its[((i:Nat):Int).toNat]? = some its[i]:=by
 rw [Int.toNat_natCast]
 exact Array.getElem?_eq_getElem h
theorem next_nat (i:Nat):((i:Int)+1)=((i+1:Nat):Int):=rfl
theorem Sqs.size1 {hp:Heap}{i:Nat}{its its2:Array Value}{xs ys:List PyData} (q:Sqs hp i its its2 xs ys):xs.length=its.size - i:=by
 obtain ⟨as,r⟩:=q.r1
 have:=ReadsAll.length _ _ _ r
 rw [List.length_drop,Array.length_toList] at this
 exact this.symm
theorem Sqs.size2 {hp:Heap}{i:Nat}{its its2:Array Value}{xs ys:List PyData} (q:Sqs hp i its its2 xs ys):ys.length=its2.size - i:=by
 obtain ⟨bs,r⟩:=q.r2
 have:=ReadsAll.length _ _ _ r
 rw [List.length_drop,Array.length_toList] at this
 exact this.symm
theorem Sqs.over {hp:Heap}{i:Nat}{its its2:Array Value}{xs ys:List PyData} (q:Sqs hp i its its2 xs ys) (h:its.size≤i∨its2.size≤i):ltvAll xs ys=decide (its.size<its2.size)∧ltvAll ys xs=decide (its.size > its2.size):=by
 have z1:=q.size1
 have z2:=q.size2
 have i1:=q.in1
 have i2:=q.in2
 cases xs with
 | nil=>
  rw [List.length_nil] at z1
  cases ys with
  | nil=>
   rw [List.length_nil] at z2
   rw [ltvAll]
   exact ⟨(decide_eq_false (by lia)).symm,(decide_eq_false (by lia)).symm⟩
  | cons y ys=>
   rw [List.length_cons] at z2
   rw [ltvAll,ltvAll]
   exact ⟨(decide_eq_true (by lia)).symm,(decide_eq_false (by lia)).symm⟩
 | cons x xs=>
  rw [List.length_cons] at z1
  cases ys with
  | nil=>
   rw [List.length_nil] at z2
   rw [ltvAll,ltvAll]
   exact ⟨(decide_eq_false (by lia)).symm,(decide_eq_true (by lia)).symm⟩
  | cons y ys=>
   rw [List.length_cons] at z2
   lia
theorem Sqs.next {hp:Heap}{i:Nat}{its its2:Array Value}{xs ys:List PyData} (q:Sqs hp i its its2 xs ys) (h1:i<its.size) (h2:i<its2.size):∃ x xs' y ys',xs=x::xs'∧ys=y::ys'∧(∃ as,Reads hp its[i] x as)∧(∃ bs,Reads hp its2[i] y bs)∧Sqs hp (i+1) its its2 xs' ys':=by
 obtain ⟨_,_,⟨as,ra⟩,bs,rb⟩:=q
 rw [List.drop_eq_getElem_cons (by rw [Array.length_toList];exact h1),Array.getElem_toList] at ra
 rw [List.drop_eq_getElem_cons (by rw [Array.length_toList];exact h2),Array.getElem_toList] at rb
 cases ra with
 | cons r1 t1=>
  cases rb with
  | cons r2 t2=>exact ⟨_,_,_,_,rfl,rfl,⟨_,r1⟩,⟨_,r2⟩,h1,h2,⟨_,t1⟩,⟨_,t2⟩⟩
theorem lay_cons {x:PyData}{xs:List PyData} (h:PyData.canLayAll0 (x::xs)=true):x.canLay0=true∧PyData.canLayAll0 xs=true:=by simpa [PyData.canLayAll0] using h
theorem tuple_lt_data (l b:Addr) (items items2:Array Value) (xs ys:List PyData) (ih:LtAll xs ys) (hcmp:cmpAll xs ys=true) (hlx:PyData.canLayAll0 xs=true) (hly:PyData.canLayAll0 ys=true) :
  Meets (Builtin.«tuple.__lt__» ⟨[.ref l,.ref b],[]⟩)
   (fun A R s=>Sq "tuple" s.heap l items∧Sq "tuple" s.heap b items2∧Sqs s.heap 0 items items2 xs ys∧A.in1.units+PyData.depthAll xs<cLine∧R (.ok (.ret (.bool (ltvAll xs ys)))) s):=
 .of_wp fun prog w A R s h=>by
  obtain ⟨hp,g,d,tk,os⟩:=s
  obtain ⟨⟨n,dd,sl,hl⟩,⟨n2,dd2,sl2,hb⟩,⟨_,_,⟨as,hra⟩,bs,hrb⟩,hu,h⟩:=h
  rw [List.drop_zero] at hra hrb
  have f2:=AutoSeq1.sub_tuple_tuple
  have z1:items.size=xs.length:=by rw [← ReadsAll.length _ _ _ hra];simp
  have z2:items2.size=ys.length:=by rw [← ReadsAll.length _ _ _ hrb];simp
  wp_walk using wpAny_loadPart' hl,wpAny_loadPart' hb,wpAny_forIn_list _ (fun rest b s'=>b.1=none∧s' = ⟨hp,g,d,tk,os⟩∧∃ (vs ws:List Value) (xs' ys':List PyData) (as bs:List Addr),rest=vs.zip ws ∧
   ReadsAll hp vs xs' as∧ReadsAll hp ws ys' bs∧LtAll xs' ys'∧cmpAll xs' ys' = true∧PyData.canLayAll0 xs' = true∧PyData.canLayAll0 ys' = true∧A.in1.units+PyData.depthAll xs' < cLine∧xs'.length+items2.size=ys'.length+items.size∧R (.ok (.ret (.bool (ltvAll xs' ys')))) ⟨hp,g,d,tk,os⟩) _
  case turn=>
   rintro ⟨y,x⟩ rest b s' ⟨hb',rfl,vs,ws,xs',ys',as,bs,hz,hvi,hwi,iht,hct,hlx',hly',hu',hlen,hR⟩
   cases hvi with
   | nil=>rw [List.zip_nil_left] at hz;cases hz
   | @cons v0 vs0 d0 ds0 as0 as1 r1 hvi'=>
    cases hwi with
    | nil=>rw [List.zip_nil_right] at hz;cases hz
    | @cons w0 ws0 e0 es0 bs0 bs1 r2 hwi'=>
     rw [List.zip_cons_cons] at hz
     injection hz with hyx hrest
     injection hyx with hy hx
     subst hy hx
     rw [ltvAll_cons] at hR
     rw [cmpAll_cons] at hct
     have hlx2:d0.canLay0=true∧PyData.canLayAll0 ds0=true:=by simpa [PyData.canLayAll0] using hlx'
     have hly2:e0.canLay0=true∧PyData.canLayAll0 es0=true:=by simpa [PyData.canLayAll0] using hly'
     simp only [List.length_cons] at hlen
     have he:=eqAt_reads d0 e0 A.in1 ⟨hp,g,d,tk,os⟩ y x as0 bs0 r1 r2 hlx2.1 hly2.1 (eq_room (depth_head hu'))
     refine wpAny_bind (he prog w _ _ ?_)
     cases hq:PyData.eqv d0 e0 with
     | true=>
      rw [hq,if_pos rfl] at hR hct
      wp_walk
      exact ⟨rfl,rfl,_,_,_,_,_,_,hrest,hvi',hwi',iht.tail,hct,hlx2.2,hly2.2,depth_tail hu',by lia,hR⟩
     | false=>
      rw [hq,if_neg Bool.false_ne_true] at hR hct
      have hri:=iht d0 e0 List.mem_cons_self List.mem_cons_self hct A.in1 ⟨hp,g,d,tk,os⟩ y x as0 bs0 r1 r2 hlx2.1 hly2.1 (depth_head hu') prog w
      wp_walk using hri
      exact ⟨_,rfl,by simpa using hR⟩
  case fin=>
   rintro ⟨b1,b2⟩ s' ⟨hb',rfl,vs,ws,xs',ys',as,bs,hz,hvi,hwi,_,_,_,_,_,hlen,hR⟩
   simp only at hb'
   subst hb'
   have hv:ltvAll xs' ys' = decide (items.size<items2.size):=by
    cases hvi with
    | nil=>
     cases hwi with
     | nil=>
      simp only [List.length_nil] at hlen
      rw [ltvAll]
      exact (decide_eq_false (by lia)).symm
     | cons _ _=>
      simp only [List.length_nil,List.length_cons] at hlen
      rw [ltvAll]
      exact (decide_eq_true (by lia)).symm
    | cons _ _=>
     cases hwi with
     | nil=>
      simp only [List.length_nil,List.length_cons] at hlen
      rw [ltvAll]
      exact (decide_eq_false (by lia)).symm
     | cons _ _=>
      rw [List.zip_cons_cons] at hz
      cases hz
   rw [hv] at hR
   wp_walk
   exact ⟨_,rfl,by simpa [Builtin.Tuple.tupleCompareSizes] using hR⟩
  case h=>
   exact ⟨rfl,rfl,items.toList,items2.toList,xs,ys,as,bs,rfl,hra,hrb,ih,hcmp,hlx,hly,hu,by lia,h⟩
theorem list_lt_loop (l b:Addr) (items items2:Array Value) (k:Nat):∀ (i:Nat) (xs ys:List PyData),items.size - i=k→LtAll xs ys→cmpAll xs ys=true→PyData.canLayAll0 xs=true→PyData.canLayAll0 ys=true →
  Meets (Builtin.«list.__eq__.loop» ⟨[.ref l,.ref b,rawInt i,rawInt 0],[]⟩)
   (fun A R s=>Sq "list" s.heap l items∧Sq "list" s.heap b items2∧Sqs s.heap i items items2 xs ys∧A.in1.units+PyData.depthAll xs<cLine∧R (.ok (.ret (.bool (ltvAll xs ys)))) s):=by
 induction k with
 | zero=>
  intro i xs ys hk _ _ _ _ prog w A R s h
  obtain ⟨hp,g,d,tk,os⟩:=s
  obtain ⟨⟨n,dd,sl,hl⟩,⟨n2,dd2,sl2,hb⟩,sq,_,h⟩:=h
  rw [(sq.over (.inl (by lia))).1] at h
  wp_walk using wpAny_loadPart' hl,wpAny_loadPart' hb
  rw [none_at (its:=items) (i:=i) (by lia)]
  wp_walk using wpAny_loadPart' hl,wpAny_loadPart' hb
  exact h
 | succ k ihk=>
  intro i xs ys hk ih hcmp hlx hly prog w A R s h
  obtain ⟨hp,g,d,tk,os⟩:=s
  obtain ⟨L1,L2,sq,hu,h⟩:=h
  obtain ⟨n,dd,sl,hl⟩:=id L1
  obtain ⟨n2,dd2,sl2,hb⟩:=id L2
  have lt1:i<items.size:=by lia
  wp_walk using wpAny_loadPart' hl,wpAny_loadPart' hb
  rw [some_at lt1]
  rcases Nat.lt_or_ge i items2.size with lt2 | ge2
  ·obtain ⟨x,xs,y,ys,rfl,rfl,⟨as,rx⟩,⟨bs,ry⟩,sq'⟩:=sq.next lt1 lt2
   obtain ⟨lx,lxs⟩:=lay_cons hlx
   obtain ⟨ly,lys⟩:=lay_cons hly
   rw [ltvAll_cons] at h
   rw [cmpAll_cons] at hcmp
   rw [some_at lt2]
   refine wpAny_bind (eqAt_reads x y A.in1 _ _ _ as bs rx ry lx ly (eq_room (depth_head hu)) prog w _ _ ?_)
   cases hq:PyData.eqv x y
   ·simp only [hq,Bool.false_eq_true,if_false] at h hcmp
    have less:=ih x y List.mem_cons_self List.mem_cons_self hcmp A.in1 ⟨hp,g,d,tk,os⟩ _ _ as bs rx ry lx ly (depth_head hu) prog w
    wp_walk using wpAny_loadPart' hl,wpAny_loadPart' hb
    rw [some_at lt1,some_at lt2]
    wp_walk using less
    exact h
   ·simp only [hq,if_true] at h hcmp
    wp_walk
    rw [next_nat]
    have on:=ihk (i+1) xs ys (by lia) ih.tail hcmp lxs lys prog w A R _ ⟨L1,L2,sq',depth_tail hu,h⟩
    exact ⟨plainId_quiet plain_eq_loop _,codeAny_builtin entry_eq_loop (by rw [Around.under_plainId plain_eq_loop];exact on)⟩
  ·rw [(sq.over (.inr ge2)).1] at h
   rw [none_at (its:=items2) (i:=i) ge2]
   wp_walk using wpAny_loadPart' hl,wpAny_loadPart' hb
   exact h
theorem list_lt_data (l b:Addr) (items items2:Array Value) (xs ys:List PyData) (ih:LtAll xs ys) (hcmp:cmpAll xs ys=true) (hlx:PyData.canLayAll0 xs=true) (hly:PyData.canLayAll0 ys=true) :
  Meets (Builtin.«list.__lt__» ⟨[.ref l,.ref b],[]⟩)
   (fun A R s=>Sq "list" s.heap l items∧Sq "list" s.heap b items2∧Sqs s.heap 0 items items2 xs ys∧A.in1.units+PyData.depthAll xs<cLine∧R (.ok (.ret (.bool (ltvAll xs ys)))) s):=by
 intro prog w A R s h
 have on:=list_lt_loop l b items items2 _ 0 xs ys rfl ih hcmp hlx hly prog w A R s h
 obtain ⟨hp,g,d,tk,os⟩:=s
 obtain ⟨⟨n,dd,sl,hl⟩,⟨n2,dd2,sl2,hb⟩,_⟩:=h
 have both:=AutoSeq1.sub_list_list
 wp_walk using wpAny_loadPart' hl,wpAny_loadPart' hb
 exact ⟨plainId_quiet plain_eq_loop _,codeAny_builtin entry_eq_loop (by rw [Around.under_plainId plain_eq_loop];exact on)⟩
theorem depth_mem {x:PyData}:∀ {xs:List PyData},x∈xs→x.depth≤PyData.depthAll xs
 | y::ys,h=>by
  rw [PyData.depthAll]
  (rcases List.mem_cons.mp h with e | h)
  ·subst e;exact Nat.le_max_left _ _
  ·exact Nat.le_trans (depth_mem h) (Nat.le_max_right _ _)
end
end L2
namespace L2
open PySem PySem.Spec PyProof.Rows
section
open PySem.SeqAt
open PySem.MeetsSeq PySem.MeetsSeq2 PySem.MeetsSeq3
theorem ltAt_lists {A:Around}{s:Shared}{l b:Addr}{o o2:Obj}{vs ws:Array Value}{n n2:Nat}{xs ys:List PyData}{as bs:List Addr} (h1:s.heap.get? l=some o) (c1:o.cls = .type "list") (d1:o.data = .seq vs n) (h2:s.heap.get? b=some o2) (c2:o2.cls = .type "list") (d2:o2.data = .seq ws n2)
  (ra:ReadsAll s.heap vs.toList xs as) (rb:ReadsAll s.heap ws.toList ys bs) (ih:LtAll xs ys) (hcmp:cmpAll xs ys=true) (hlx:PyData.canLayAll0 xs=true) (hly:PyData.canLayAll0 ys=true) (hu:A.units+(PyData.depthAll xs+1)<cLine):LtAt A s (.ref l) (.ref b) (ltvAll xs ys):=fun prog w E Q h=>by
 obtain ⟨cls,dd,data,sl⟩:=o
 obtain ⟨cls2,dd2,data2,sl2⟩:=o2
 simp only at c1 d1 c2 d2
 subst c1 d1 c2 d2
 exact richCompare_meets_room (op:=.Lt) ⟨_,h1,rfl⟩ ⟨_,h2,rfl⟩ F.slot_list_lt F.entry_list_lt (F.args_list_lt_2 _ _) (list_lt_data l b vs ws xs ys ih hcmp hlx hly)
  ⟨⟨_,_,_,h1⟩,⟨_,_,_,h2⟩,⟨Nat.zero_le _,Nat.zero_le _,⟨_,ra⟩,⟨_,rb⟩⟩,by show A.units+1+PyData.depthAll xs<cLine;lia,show Value.bool (ltvAll xs ys)≠Value.notImplemented∧Q (.bool (ltvAll xs ys)) s from ⟨(fun x=>nomatch x),h⟩⟩ (by lia)
theorem ltAt_tuples {A:Around}{s:Shared}{l b:Addr}{o o2:Obj}{vs ws:Array Value}{n n2:Nat}{xs ys:List PyData}{as bs:List Addr} (h1:s.heap.get? l=some o) (c1:o.cls = .type "tuple") (d1:o.data = .seq vs n) (h2:s.heap.get? b=some o2) (c2:o2.cls = .type "tuple") (d2:o2.data = .seq ws n2)
  (ra:ReadsAll s.heap vs.toList xs as) (rb:ReadsAll s.heap ws.toList ys bs) (ih:LtAll xs ys) (hcmp:cmpAll xs ys=true) (hlx:PyData.canLayAll0 xs=true) (hly:PyData.canLayAll0 ys=true) (hu:A.units+(PyData.depthAll xs+1)<cLine):LtAt A s (.ref l) (.ref b) (ltvAll xs ys):=fun prog w E Q h=>by
 obtain ⟨cls,dd,data,sl⟩:=o
 obtain ⟨cls2,dd2,data2,sl2⟩:=o2
 simp only at c1 d1 c2 d2
 subst c1 d1 c2 d2
 exact richCompare_meets_room (op:=.Lt) ⟨_,h1,rfl⟩ ⟨_,h2,rfl⟩ F.slot_tuple_lt F.entry_tuple_lt (F.args_tuple_lt_2 _ _) (tuple_lt_data l b vs ws xs ys ih hcmp hlx hly)
  ⟨⟨_,_,_,h1⟩,⟨_,_,_,h2⟩,⟨Nat.zero_le _,Nat.zero_le _,⟨_,ra⟩,⟨_,rb⟩⟩,by show A.units+1+PyData.depthAll xs<cLine;lia,show Value.bool (ltvAll xs ys)≠Value.notImplemented∧Q (.bool (ltvAll xs ys)) s from ⟨(fun x=>nomatch x),h⟩⟩ (by lia)
theorem ltAt_int {A:Around}{s:Shared}{a b:Value}{i j:Int}{as bs:List Addr} (ra:Reads s.heap a (.int i) as) (rb:Reads s.heap b (.int j) bs):LtAt A s a b (ltv (.int i) (.int j)):=by
 cases ra with
 | int i t=>
  cases rb with
  | int j u=>intro prog w E Q h;exact HT.rcLt_int A s i t j u prog w E Q (by rw [ltv] at h;exact h)
theorem ltAt_str {A:Around}{s:Shared}{a b:Value}{x y:Str}{as bs:List Addr} (ra:Reads s.heap a (.str x) as) (rb:Reads s.heap b (.str y) bs):LtAt A s a b (ltv (.str x) (.str y)):=by
 cases ra with
 | str x t=>
  cases rb with
  | str y u=>intro prog w E Q h;exact (PyProof.Rows.lt_str (by rw [ltv] at h;exact h):wpAny (model prog w) A (compareOp .Lt (.str x t) (.str y u)) Q E s)
theorem cmp_cases {da db:PyData} (h:cmpb da db=true):(∃ i j,da = .int i∧db = .int j)∨(∃ x y,da = .str x∧db = .str y)∨(∃ xs ys,da = .list xs∧db = .list ys∧cmpAll xs ys=true)∨∃ xs ys,da = .tuple xs∧db = .tuple ys∧cmpAll xs ys=true:=by
 unfold cmpb at h
 split at h
 ·exact .inl ⟨_,_,rfl,rfl⟩
 ·exact .inr (.inl ⟨_,_,rfl,rfl⟩)
 ·exact .inr (.inr (.inl ⟨_,_,rfl,rfl,h⟩))
 ·exact .inr (.inr (.inr ⟨_,_,rfl,rfl,h⟩))
 ·cases h
theorem ltAt_reads:∀ (n:Nat) (da db:PyData),da.depth≤n→cmpb da db=true→∀ (A:Around) (s:Shared) (a b:Value) (as bs:List Addr),Reads s.heap a da as→Reads s.heap b db bs→da.canLay0=true→db.canLay0=true→A.units+da.depth<cLine→LtAt A s a b (ltv da db):=by
 intro n
 induction n with
 | zero=>
  intro da db hd hc A s a b as bs ra rb ha hb hu
  rcases cmp_cases hc with ⟨i,j,rfl,rfl⟩ | ⟨x,y,rfl,rfl⟩ | ⟨xs,ys,rfl,rfl,hc⟩ | ⟨xs,ys,rfl,rfl,hc⟩
  ·exact ltAt_int ra rb
  ·exact ltAt_str ra rb
  ·rw [PyData.depth] at hd;lia
  ·rw [PyData.depth] at hd;lia
 | succ n ih=>
  intro da db hd hc A s a b as bs ra rb ha hb hu
  rcases cmp_cases hc with ⟨i,j,rfl,rfl⟩ | ⟨x,y,rfl,rfl⟩ | ⟨xs,ys,rfl,rfl,hc⟩ | ⟨xs,ys,rfl,rfl,hc⟩
  ·exact ltAt_int ra rb
  ·exact ltAt_str ra rb
  ·rw [PyData.depth] at hd hu
   cases ra with
   | @list a o vs k xs as1 h1 c1 d1 r1=>
    cases rb with
    | @list b o2 ws k2 ys bs1 h2 c2 d2 r2=>
     rw [ltv]
     exact ltAt_lists h1 c1 d1 h2 c2 d2 r1 r2 (fun x y hx hy hxy A' s' a' b' as' bs' ra' rb' la lb hu'=>ih x y (by have:=depth_mem hx;lia) hxy A' s' a' b' as' bs' ra' rb' la lb hu') hc ha hb hu
  ·rw [PyData.depth] at hd hu
   cases ra with
   | @tuple a o vs k xs as1 h1 c1 d1 r1=>
    cases rb with
    | @tuple b o2 ws k2 ys bs1 h2 c2 d2 r2=>
     rw [ltv]
     exact ltAt_tuples h1 c1 d1 h2 c2 d2 r1 r2 (fun x y hx hy hxy A' s' a' b' as' bs' ra' rb' la lb hu'=>ih x y (by have:=depth_mem hx;lia) hxy A' s' a' b' as' bs' ra' rb' la lb hu') hc ha hb hu
variable {prog:Program}{w:World}{A:Around}{E:Value→Shared→Prop}{s:Shared}
theorem oneLt_any {x y:Value}{b:Bool}{Q:Bool→Shared→Prop} (h:LtAt A s x y b) (q:Q b s):wpAny (model prog w) A (oneLt' false x y) Q E s:=
 PySem.W.kat_one x y (h prog w E _ q)
theorem oneLt_str {x y:Str}{t u:Tok}{Q:Bool→Shared→Prop} (q:Q (decide (x.cps.toList<y.cps.toList)) s):wpAny (model prog w) A (oneLt' true (.str x t) (.str y u)) Q E s:=by
 have:=PySem.W.kas_lt_str (prog:=prog) (w:=w) (A:=A) (E:=E) (s:=s) (a:=x) (c:=y) (t:=t) (u:=u) (Q:=Q) q
 rwa [keyLt'_oneType] at this
theorem keyLt_data {b:Bool}{x y:Addr}{ox oy:Obj}{vx vy:Array Value}{n k:Nat}{xs ys:List PyData}{as bs:List Addr}{Q:Bool→Shared→Prop} (hx:s.heap.get? x=some ox) (dx:ox.data = .seq vx n) (hy:s.heap.get? y=some oy) (dy:oy.data = .seq vy k)
  (ra:ReadsAll s.heap vx.toList xs as) (rb:ReadsAll s.heap vy.toList ys bs) (ha:PyData.canLayAll0 xs=true) (hb:PyData.canLayAll0 ys=true) (hc:cmpAll xs ys=true) (hf:∀ d e,xs.head? = some d→ys.head? = some e→(b=true→(∃ i j,d = .int i∧e = .int j)∨∃ i j,d = .str i∧e = .str j))
  (hu:A.units+PyData.depthAll xs<cLine) (q:Q (ltvAll xs ys) s):wpAny (model prog w) A (keyLt' (tuples' b) (.ref x) (.ref y)) Q E s:=by
 refine PySem.W.kat_lt hx dx hy dy ?_
 have z1:vx.size=xs.length:=by rw [← ReadsAll.length _ _ _ ra];simp
 have z2:vy.size=ys.length:=by rw [← ReadsAll.length _ _ _ rb];simp
 have key:∀ (vs ws:List Value) (xs' ys':List PyData) (as bs:List Addr) (i:Nat),ReadsAll s.heap vs xs' as→ReadsAll s.heap ws ys' bs→PyData.canLayAll0 xs' = true→PyData.canLayAll0 ys' = true→cmpAll xs' ys' = true→A.units+PyData.depthAll xs' < cLine →
   xs'.length+vy.size=ys'.length+vx.size→(i=0→xs' = xs∧ys' = ys)→Q (ltvAll xs' ys') s→PySem.W.KatLex prog w A b (decide (vx.size<vy.size)) Q (vs.zip ws) i s:=by
  intro vs
  induction vs with
  | nil=>
   intro ws xs' ys' as bs i r1 r2 l1 l2 c u hl h0 hq
   cases r1
   rw [List.zip_nil_left]
   refine PySem.W.kat_nil ?_
   cases r2 with
   | nil=>
    rw [ltvAll] at hq
    simp only [List.length_nil] at hl
    rw [decide_eq_false (by lia)];exact hq
   | cons _ _=>
    rw [ltvAll] at hq
    simp only [List.length_nil,List.length_cons] at hl
    rw [decide_eq_true (by lia)];exact hq
  | cons v vs ihv=>
   intro ws xs' ys' as bs i r1 r2 l1 l2 c u hl h0 hq
   cases r1 with
   | @cons _ _ d0 ds0 as0 as1 r1 r1'=>
   cases r2 with
   | nil=>
    rw [List.zip_nil_right]
    refine PySem.W.kat_nil ?_
    rw [ltvAll] at hq
    simp only [List.length_nil,List.length_cons] at hl
    rw [decide_eq_false (by lia)];exact hq
   | @cons w0 ws0 e0 es0 bs0 bs1 r2 r2'=>
    rw [List.zip_cons_cons]
    rw [ltvAll_cons] at hq
    rw [cmpAll_cons] at c
    have l1':d0.canLay0=true∧PyData.canLayAll0 ds0=true:=by simpa [PyData.canLayAll0] using l1
    have l2':e0.canLay0=true∧PyData.canLayAll0 es0=true:=by simpa [PyData.canLayAll0] using l2
    refine PySem.W.kat_cons (eqAt_reads d0 e0 A s v w0 as0 bs0 r1 r2 l1'.1 l2'.1 (eq_room (depth_head u)) prog w _ _ ?_)
    cases hq':PyData.eqv d0 e0 with
    | true=>
     rw [hq',if_pos rfl] at hq c
     refine PySem.W.kat_yes (ihv ws0 ds0 es0 _ _ (i+1) r1' r2' l1'.2 l2'.2 c (depth_tail u) ?_ (fun z=>by lia) hq)
     simp only [List.length_cons] at hl
     lia
    | false=>
     rw [hq',if_neg Bool.false_ne_true] at hq c
     refine PySem.W.kat_no ?_
     by_cases hbi:(b && i == 0)=true
     ·have hb1:b=true:=by simp at hbi;exact hbi.1
      have hi0:i=0:=by simp at hbi;exact hbi.2
      obtain ⟨e1,e2⟩:=h0 hi0
      rw [hbi]
      rcases hf d0 e0 (by rw [← e1];rfl) (by rw [← e2];rfl) hb1 with ⟨p,q',rfl,rfl⟩ | ⟨p,q',rfl,rfl⟩
      ·cases r1
       cases r2
       rw [ltv] at hq
       exact oneLt_int hq
      ·cases r1
       cases r2
       rw [ltv] at hq
       exact oneLt_str hq
     ·have:(b && i == 0)=false:=by simpa using hbi
      rw [this]
      exact oneLt_any (ltAt_reads _ d0 e0 (Nat.le_refl _) c A s v w0 as0 bs0 r1 r2 l1'.1 l2'.1 (depth_head u)) hq
 exact key vx.toList vy.toList xs ys as bs 0 ra rb ha hb hc hu (by lia) (fun _=>⟨rfl,rfl⟩) q
end
end L2
namespace L2
open PySem PySem.Spec PyProof.Rows PySem.W
structure Weak (n:Nat) (lt:Nat→Nat→Bool):Prop where
 irrefl:∀ a,a<n→lt a a=false
 negTrans:∀ a b c,a<n→b<n→c<n→lt a c=true→lt a b=true∨lt b c=true
 asymm:∀ a b,a<n→b<n→lt a b=true→lt b a=false
def AllLt (n:Nat) (p:Array Nat):Prop:=∀ i,p.getD i 0<n
def UpTo (lt:Nat→Nat→Bool) (p:Array Nat) (k:Nat):Prop:=∀ i j,i≤j→j<k→lt (p.getD j 0) (p.getD i 0)=false
def DownTo (lt:Nat→Nat→Bool) (p:Array Nat) (k:Nat):Prop:=∀ i j,i≤j→j<k→lt (p.getD i 0) (p.getD j 0)=false
theorem AllLt.perm {n:Nat}{p q:Array Nat} (h:AllLt n p) (hn:0<n) (r:q.Perm p):AllLt n q:=by
 intro i
 by_cases hi:i<q.size
 ·have e:q.getD i 0=q[i]:=by simp [Array.getD,hi]
  rw [e]
  have hm:q[i]∈p.toList:=(Array.perm_iff_toList_perm.mp r).mem_iff.mp (by simp)
  obtain ⟨j,hj,e2⟩:=List.mem_iff_getElem.mp hm
  have:=h j
  have e3:p.getD j 0=q[i]:=by
   have hj':j<p.size:=by simpa using hj
   have:p.getD j 0=p[j]:=by simp [Array.getD,hj']
   rw [this,← e2];simp
  rw [← e3];exact this
 ·have e:q.getD i 0=0:=by simp [Array.getD,hi]
  rw [e];exact hn
section
variable {n:Nat}{lt:Nat→Nat→Bool}{cmp:Nat→Nat→(Bool→Shared→Prop)→Shared→Prop}{P:Shared→Prop}
theorem Weak.trans (W:Weak n lt) {a b c:Nat} (ha:a<n) (hb:b<n) (hc:c<n) (h1:lt b a=false) (h2:lt c b=false):lt c a=false:=by
 cases q:lt c a with
 | false=>rfl
 | true=>
  rcases W.negTrans c b a hc hb ha q with z | z
  ·rw [h2] at z;cases z
  ·rw [h1] at z;cases z
theorem UpTo.of_step (W:Weak n lt) {p:Array Nat} (hp:AllLt n p) {k m:Nat} (h:UpTo lt p k) (hk:1≤k) (hs:∀ i,k≤i→i<m→lt (p.getD i 0) (p.getD (i - 1) 0)=false):UpTo lt p m:=by
 have key:∀ d i j,j=i+d→j<m→lt (p.getD j 0) (p.getD i 0)=false:=by
  intro d
  induction d with
  | zero=>intro i j e hj;rw [e];exact W.irrefl _ (hp _)
  | succ d ih=>
   intro i j e hj
   by_cases hjk:j<k
   ·exact h i j (by lia) hjk
   ·exact W.trans (hp _) (hp (j - 1)) (hp _) (ih i (j - 1) (by lia) (by lia)) (hs j (by lia) hj)
 intro i j hij hj
 exact key (j - i) i j (by lia) hj
theorem getD_bubble {p:Array Nat}{k l:Nat} (hk:k<p.size) (hl:l≤k) (i:Nat):(bubble p k (k - l)).getD i 0=if i<l then p.getD i 0 else if i=l then p.getD k 0 else if i≤k then p.getD (i - 1) 0 else p.getD i 0:=by
 have h:=getElem?_bubble (xs:=p) hk (k - l) (by lia) i
 rw [Array.getD_eq_getD_getElem?,h]
 rw [show k - (k - l)=l by lia]
 simp only [Array.getD_eq_getD_getElem?]
 repeat' split
 all_goals first | rfl | (exfalso;lia) | skip
theorem getD_rev {p:Array Nat}{i j:Nat} (hj:j≤p.size) (k:Nat):(kas_rev p i j).getD k 0=if i≤k∧k<j then p.getD (i+j - 1 - k) 0 else p.getD k 0:=by
 have h:=getElem?_mirror_all (xs:=p) (i:=i) hj k
 unfold kas_rev
 rw [Array.getD_eq_getD_getElem?,h]
 simp only [Array.getD_eq_getD_getElem?]
 repeat' split
 all_goals first | rfl | (exfalso;lia) | skip
theorem asc_wp (hcmp:∀ i j C s,i<n→j<n→P s→(∀ s',P s'→C (lt i j) s')→cmp i j C s) {p:Array Nat} (hp:AllLt n p) {Q:Nat→Shared→Prop}:∀ (f k:Nat) (s:Shared),P s →
  (∀ m s',P s'→k≤m→m≤k+f→(∀ i,k≤i→i<m→lt (p.getD i 0) (p.getD (i - 1) 0)=false)→(m<k+f→lt (p.getD m 0) (p.getD (m - 1) 0)=true)→Q m s')→(kas_asc p f k).kasWp cmp Q s
 | 0,k,s,hs,h=>h k s hs (Nat.le_refl _) (Nat.le_refl _) (fun i h1 h2=>by lia) fun h1=>by lia
 | f+1,k,s,hs,h=>by
  refine hcmp _ _ _ s (hp _) (hp _) hs fun s' hs'=>?_
  cases hc:lt (p.getD k 0) (p.getD (k - 1) 0) with
  | true=>
   show KasT.kasWp cmp (if true=true then KasT.ret k else kas_asc p f (k+1)) Q s'
   rw [if_pos rfl]
   exact h k s' hs' (Nat.le_refl _) (by lia) (fun i h1 h2=>by lia) fun _=>hc
  | false=>
   show KasT.kasWp cmp (if false=true then KasT.ret k else kas_asc p f (k+1)) Q s'
   rw [if_neg Bool.false_ne_true]
   refine (asc_wp hcmp hp f (k+1) s' hs' fun m s'' hs'' h1 h2 h3 h4=>h m s'' hs'' (by lia) (by lia) (fun i h5 h6=>?_) fun h5=>h4 (by lia))
   by_cases e:i=k
   ·rw [e];exact hc
   ·exact h3 i (by lia) h6
def Alike (lt:Nat→Nat→Bool) (p:Array Nat) (k q:Nat):Prop:=∀ i,k - (q+1)≤i→i<k→lt (p.getD (k - 1) 0) (p.getD i 0)=false
theorem rev_alike (W:Weak n lt) {p:Array Nat}{k q:Nat} (hp:AllLt n p) (hk:k≤p.size) (hq:q+1≤k) (hd:DownTo lt p k) (ha:Alike lt p k q):DownTo lt (kas_rev p (k - (q+1)) k) k:=by
 intro i j hij hj
 rw [getD_rev hk,getD_rev hk]
 have eqv:∀ a b,k - (q+1)≤a→a<k→k - (q+1)≤b→b<k→lt (p.getD a 0) (p.getD b 0)=false:=fun a b h1 h2 h3 h4=>
  W.trans (hp b) (hp (k - 1)) (hp a) (ha b h3 h4) (hd a (k - 1) (by lia) (by lia))
 by_cases hi:k - (q+1)≤i
 ·rw [if_pos ⟨hi,by lia⟩,if_pos ⟨by lia,hj⟩]
  exact eqv _ _ (by lia) (by lia) (by lia) (by lia)
 ·rw [if_neg (by lia)]
  by_cases hj2:k - (q+1)≤j
  ·rw [if_pos ⟨hj2,hj⟩]
   exact hd _ _ (by lia) (by lia)
  ·rw [if_neg (by lia)]
   exact hd i j hij hj
theorem down_more (W:Weak n lt) {p:Array Nat}{k:Nat} (hp:AllLt n p) (h1:1≤k) (hd:DownTo lt p k) (h:lt (p.getD (k - 1) 0) (p.getD k 0)=false):DownTo lt p (k+1):=by
 intro i j hij hj
 by_cases e:j=k
 ·subst e
  by_cases e2:i=j
  ·subst e2;exact W.irrefl _ (hp _)
  ·exact W.trans (hp _) (hp (j - 1)) (hp _) h (hd i (j - 1) (by lia) (by lia))
 ·exact hd i j hij (by lia)
theorem desc_wp (W:Weak n lt) (hcmp:∀ i j C s,i<n→j<n→P s→(∀ s',P s'→C (lt i j) s')→cmp i j C s) (hn:0<n) {Q:Array Nat×Nat×Nat→Shared→Prop}:∀ (f:Nat) (p:Array Nat) (k q:Nat) (s:Shared),P s→AllLt n p→k+f≤p.size→q+1≤k→DownTo lt p k→Alike lt p k q →
  (∀ p' k' q' s',P s'→p'.Perm p→k≤k'→k'≤k+f→q' + 1≤k'→DownTo lt p' k'→Alike lt p' k' q'→Q (p',k',q') s')→(kas_desc f p k q).kasWp cmp Q s
 | 0,p,k,q,s,hs,hp,hz,hq,hd,ha,h=>h p k q s hs (Array.Perm.refl _) (Nat.le_refl _) (Nat.le_refl _) hq hd ha
 | f+1,p,k,q,s,hs,hp,hz,hq,hd,ha,h=>by
  refine hcmp _ _ _ s (hp _) (hp _) hs fun s' hs'=>?_
  cases hc:lt (p.getD k 0) (p.getD (k - 1) 0) with
  | true=>
   have hlt:lt (p.getD (k - 1) 0) (p.getD k 0)=false:=W.asymm _ _ (hp _) (hp _) hc
   show KasT.kasWp cmp (if true=true then (if q > 0 then kas_desc f (kas_rev p (k - (q+1)) k) (k+1) 0 else kas_desc f p (k+1) 0) else _) Q s'
   rw [if_pos rfl]
   split
   ·have hperm:(kas_rev p (k - (q+1)) k).Perm p:=mirror_perm _ _ _ _
    have hp2:=hp.perm hn hperm
    have hsz:(kas_rev p (k - (q+1)) k).size=p.size:=mirror_size _ _ _ _
    have hd2:=rev_alike W hp (by lia) hq hd ha
    refine desc_wp W hcmp hn f _ (k+1) 0 s' hs' hp2 (by rw [hsz];lia) (by lia) (down_more W hp2 (by lia) hd2 ?_) (fun i h1 h2=>?_) fun p' k' q' s'' a b c d e=>h p' k' q' s'' a (b.trans hperm) (by lia) (by lia) e
    ·rw [getD_rev (by lia),getD_rev (by lia),if_pos ⟨by lia,by lia⟩,if_neg (by lia)]
     refine W.trans (hp _) (hp (k - 1)) (hp _) hlt ?_
     exact hd _ _ (by lia) (by lia)
    ·have:i=k+1 - 1:=by lia
     rw [this];exact W.irrefl _ (hp2 _)
   ·refine desc_wp W hcmp hn f _ (k+1) 0 s' hs' hp (by lia) (by lia) (down_more W hp (by lia) hd hlt) (fun i h1 h2=>?_) fun p' k' q' s'' a b c d e=>h p' k' q' s'' a b (by lia) (by lia) e
    have:i=k+1 - 1:=by lia
    rw [this];exact W.irrefl _ (hp _)
  | false=>
   show KasT.kasWp cmp (if false=true then _ else KasT.ask (p.getD (k - 1) 0) (p.getD k 0) fun d=>if d=true then KasT.ret (p,k,q) else kas_desc f p (k+1) (q+1)) Q s'
   rw [if_neg Bool.false_ne_true]
   refine hcmp _ _ _ s' (hp _) (hp _) hs' fun s2 hs2=>?_
   cases hc2:lt (p.getD (k - 1) 0) (p.getD k 0) with
   | true=>
    show KasT.kasWp cmp (if true=true then KasT.ret (p,k,q) else _) Q s2
    rw [if_pos rfl]
    exact h p k q s2 hs2 (Array.Perm.refl _) (Nat.le_refl _) (by lia) hq hd ha
   | false=>
    show KasT.kasWp cmp (if false=true then _ else kas_desc f p (k+1) (q+1)) Q s2
    rw [if_neg Bool.false_ne_true]
    refine desc_wp W hcmp hn f _ (k+1) (q+1) s2 hs2 hp (by lia) (by lia) (down_more W hp (by lia) hd hc2) (fun i h1 h2=>?_) fun p' k' q' s'' a b c d e=>h p' k' q' s'' a b (by lia) (by lia) e
    rw [show k+1 - 1=k by lia]
    by_cases e:i=k
    ·rw [e];exact W.irrefl _ (hp _)
    ·exact W.trans (hp _) (hp (k - 1)) (hp _) (ha i (by lia) (by lia)) hc
theorem tail3_wp (W:Weak n lt) (hcmp:∀ i j C s,i<n→j<n→P s→(∀ s',P s'→C (lt i j) s')→cmp i j C s) (hn:0<n) {p:Array Nat}{k nrem:Nat}{s:Shared}{Q:Nat×Array Nat→Shared→Prop} (hs:P s) (hp:AllLt n p) (hk:k≤nrem) (h1:1≤k) (hz:nrem≤p.size) (hd:DownTo lt p k)
  (h:∀ m p' s',P s'→p'.Perm p→1≤m→m≤nrem→UpTo lt p' m→Q (m,p') s'):(kas_tail3 k nrem p).kasWp cmp Q s:=by
 unfold kas_tail3
 rw [KasT.kasWp_bind]
 have hperm:(kas_rev p 0 k).Perm p:=mirror_perm _ _ _ _
 have hp2:=hp.perm hn hperm
 have up:UpTo lt (kas_rev p 0 k) k:=fun i j hij hj=>by
  rw [getD_rev (by lia),getD_rev (by lia),if_pos ⟨by lia,hj⟩,if_pos ⟨by lia,by lia⟩]
  exact hd _ _ (by lia) (by lia)
 refine asc_wp hcmp hp2 _ _ s hs fun m s' hs' a b c d=>?_
 exact h m _ s' hs' hperm (by lia) (by lia) (up.of_step W hp2 h1 c)
theorem descPart_wp (W:Weak n lt) (hcmp:∀ i j C s,i<n→j<n→P s→(∀ s',P s'→C (lt i j) s')→cmp i j C s) (hn:0<n) {p:Array Nat}{k nrem:Nat}{s:Shared}{Q:Nat×Array Nat→Shared→Prop} (hs:P s) (hp:AllLt n p) (hk:k+1≤nrem) (h1:1≤k) (hz:nrem≤p.size) (hd:DownTo lt p (k+1))
  (h:∀ m p' s',P s'→p'.Perm p→1≤m→m≤nrem→UpTo lt p' m→Q (m,p') s'):(kas_descPart k nrem p).kasWp cmp Q s:=by
 unfold kas_descPart
 rw [KasT.kasWp_bind]
 refine desc_wp W hcmp hn _ p (k+1) 0 s hs hp (by lia) (by lia) hd (fun i h2 h3=>?_) fun p' k' q' s' hs' hperm a b c d e=>?_
 ·have:i=k+1 - 1:=by lia
  rw [this];exact W.irrefl _ (hp _)
 ·have hsz:p'.size=p.size:=hperm.size_eq
  have hp':=hp.perm hn hperm
  dsimp only
  split
  ·have hperm2:(kas_rev p' (k' - (q' + 1)) k').Perm p':=mirror_perm _ _ _ _
   have hsz2:(kas_rev p' (k' - (q' + 1)) k').size=p'.size:=mirror_size _ _ _ _
   exact tail3_wp W hcmp hn hs' (hp'.perm hn hperm2) (by lia) (by lia) (by lia) (rev_alike W hp' (by lia) c d e) fun m p2 s2 x y z w v=>h m p2 s2 x (y.trans (hperm2.trans hperm)) z w v
  ·exact tail3_wp W hcmp hn hs' hp' (by lia) (by lia) (by lia) d fun m p2 s2 x y z w v=>h m p2 s2 x (y.trans hperm) z w v
theorem count_wp (W:Weak n lt) (hcmp:∀ i j C s,i<n→j<n→P s→(∀ s',P s'→C (lt i j) s')→cmp i j C s) (hn:0<n) {p:Array Nat}{nrem:Nat}{s:Shared}{Q:Nat×Array Nat→Shared→Prop} (hs:P s) (hp:AllLt n p) (h1:1≤nrem) (hz:nrem≤p.size)
  (h:∀ m p' s',P s'→p'.Perm p→1≤m→m≤nrem→UpTo lt p' m→Q (m,p') s'):(kas_count nrem p).kasWp cmp Q s:=by
 unfold kas_count
 rw [KasT.kasWp_bind]
 refine asc_wp hcmp hp _ _ s hs fun m s' hs' a b c d=>?_
 have up1:UpTo lt p 1:=fun i j hij hj=>by
  have:i=0:=by lia
  have:j=0:=by lia
  subst_vars;exact W.irrefl _ (hp _)
 have up:UpTo lt p m:=up1.of_step W hp (Nat.le_refl _) c
 by_cases e:m=nrem
 ·rw [if_pos (by simpa using e)]
  exact h m p s' hs' (Array.Perm.refl _) a (by lia) up
 ·rw [if_neg (by simpa using e)]
  have hlt:lt (p.getD m 0) (p.getD (m - 1) 0)=true:=d (by lia)
  have hle:lt (p.getD (m - 1) 0) (p.getD m 0)=false:=W.asymm _ _ (hp _) (hp _) hlt
  split
  ·refine hcmp _ _ _ s' (hp _) (hp _) hs' fun s2 hs2=>?_
   cases hc:lt (p.getD 0 0) (p.getD (m - 1) 0) with
   | true=>
    show KasT.kasWp cmp (if true=true then KasT.ret (m,p) else _) Q s2
    rw [if_pos rfl]
    exact h m p s2 hs2 (Array.Perm.refl _) a (by lia) up
   | false=>
    show KasT.kasWp cmp (if false=true then _ else kas_descPart m nrem (kas_rev p 0 m)) Q s2
    rw [if_neg Bool.false_ne_true]
    have hperm:(kas_rev p 0 m).Perm p:=mirror_perm _ _ _ _
    have hsz:(kas_rev p 0 m).size=p.size:=mirror_size _ _ _ _
    have hp2:=hp.perm hn hperm
    have al:∀ i j,i<m→j<m→lt (p.getD i 0) (p.getD j 0)=false:=fun i j hi hj=>by
     have x1:lt (p.getD i 0) (p.getD (m - 1) 0)=false:=W.trans (hp _) (hp 0) (hp _) hc (by
      have y1:lt (p.getD (m - 1) 0) (p.getD i 0)=false:=up i (m - 1) (by lia) (by lia)
      cases q:lt (p.getD i 0) (p.getD 0 0) with
      | false=>rfl
      | true=>
       have y2:=up 0 i (Nat.zero_le _) hi
       rw [y2] at q;cases q)
     exact W.trans (hp _) (hp (m - 1)) (hp _) (up j (m - 1) (by lia) (by lia)) x1
    refine descPart_wp W hcmp hn hs2 hp2 (by lia) a (by lia) (down_more W hp2 a (fun i j hij hj=>?_) ?_) fun m' p2 s3 x y z w v=>h m' p2 s3 x (y.trans hperm) z w v
    ·rw [getD_rev (by lia),getD_rev (by lia),if_pos ⟨by lia,by lia⟩,if_pos ⟨by lia,by lia⟩]
     exact al _ _ (by lia) (by lia)
    ·rw [getD_rev (by lia),getD_rev (by lia),if_pos ⟨by lia,by lia⟩,if_neg (by lia)]
     exact W.trans (hp _) (hp (m - 1)) (hp _) hle (al _ _ (by lia) (by lia))
  ·have hm:m=1:=by lia
   refine descPart_wp W hcmp hn hs' hp (by lia) a hz (down_more W hp a (fun i j hij hj=>?_) hle) h
   have:i=0:=by lia
   have:j=0:=by lia
   subst_vars;exact W.irrefl _ (hp _)
theorem place_wp (W:Weak n lt) (hcmp:∀ i j C s,i<n→j<n→P s→(∀ s',P s'→C (lt i j) s')→cmp i j C s) {p:Array Nat} (hp:AllLt n p) {k:Nat} (up:UpTo lt p k) {Q:Nat→Shared→Prop}:∀ (f l r:Nat) (s:Shared),P s→l≤r→r≤k→r - l≤f →
  (∀ i,i<l→lt (p.getD k 0) (p.getD i 0)=false)→(∀ i,r≤i→i<k→lt (p.getD k 0) (p.getD i 0)=true) →
  (∀ m s',P s'→m≤k→(∀ i,i<m→lt (p.getD k 0) (p.getD i 0)=false)→(∀ i,m≤i→i<k→lt (p.getD k 0) (p.getD i 0)=true)→Q m s')→(kas_place p k f l r).kasWp cmp Q s
 | 0,l,r,s,hs,h1,h2,h3,h4,h5,h=>h l s hs (by lia) h4 fun i a b=>h5 i (by lia) b
 | f+1,l,r,s,hs,h1,h2,h3,h4,h5,h=>by
  unfold kas_place
  by_cases e:l ≥ r
  ·rw [if_pos e]
   exact h l s hs (by lia) h4 fun i a b=>h5 i (by lia) b
  ·rw [if_neg e]
   refine hcmp _ _ _ s (hp _) (hp _) hs fun s' hs'=>?_
   cases hc:lt (p.getD k 0) (p.getD ((l+r) / 2) 0) with
   | true=>
    show KasT.kasWp cmp (if true=true then kas_place p k f l ((l+r) / 2) else _) Q s'
    rw [if_pos rfl]
    refine place_wp W hcmp hp up f l ((l+r) / 2) s' hs' (by lia) (by lia) (by lia) h4 (fun i a b=>?_) h
    rcases W.negTrans _ (p.getD i 0) _ (hp _) (hp _) (hp _) hc with z | z
    ·exact z
    ·have:=up ((l+r) / 2) i a b
     rw [this] at z;cases z
   | false=>
    show KasT.kasWp cmp (if false=true then _ else kas_place p k f ((l+r) / 2+1) r) Q s'
    rw [if_neg Bool.false_ne_true]
    refine place_wp W hcmp hp up f ((l+r) / 2+1) r s' hs' (by lia) (by lia) (by lia) (fun i a=>?_) h5 h
    exact W.trans (hp _) (hp ((l+r) / 2)) (hp _) (up i ((l+r) / 2) (by lia) (by lia)) hc
theorem bin_wp (W:Weak n lt) (hcmp:∀ i j C s,i<n→j<n→P s→(∀ s',P s'→C (lt i j) s')→cmp i j C s) (hn:0<n) {Q:Array Nat→Shared→Prop}:∀ (f:Nat) (p:Array Nat) (k:Nat) (s:Shared),P s→AllLt n p→k+f≤p.size→UpTo lt p k →
  (∀ p' s',P s'→p'.Perm p→UpTo lt p' (k+f)→Q p' s')→(kas_bin f p k).kasWp cmp Q s
 | 0,p,k,s,hs,hp,hz,up,h=>h p s hs (Array.Perm.refl _) up
 | f+1,p,k,s,hs,hp,hz,up,h=>by
  unfold kas_bin
  rw [KasT.kasWp_bind]
  refine place_wp W hcmp hp up k 0 k s hs (Nat.zero_le _) (Nat.le_refl _) (by lia) (fun i a=>by lia) (fun i a b=>by lia) fun l s' hs' hl lo hi=>?_
  have hperm:(bubble p k (k - l)).Perm p:=bubble_perm _ _ _
  have hsz:(bubble p k (k - l)).size=p.size:=bubble_size _ _ _
  refine bin_wp W hcmp hn f _ (k+1) s' hs' (hp.perm hn hperm) (by rw [hsz];lia) (fun i j hij hj=>?_) fun p' s2 a b c=>h p' s2 a (b.trans hperm) (by rw [show k+(f+1)=k+1+f by lia];exact c)
  rw [getD_bubble (by lia) hl,getD_bubble (by lia) hl]
  by_cases i1:i<l
  ·rw [if_pos i1]
   by_cases j1:j<l
   ·rw [if_pos j1];exact up i j hij (by lia)
   ·rw [if_neg j1]
    by_cases j2:j=l
    ·rw [if_pos j2];exact lo i i1
    ·rw [if_neg j2,if_pos (by lia)];exact up i (j - 1) (by lia) (by lia)
  ·rw [if_neg i1,if_neg (show ¬ j<l by lia)]
   by_cases i2:i=l
   ·rw [if_pos i2]
    by_cases j2:j=l
    ·rw [if_pos j2];exact W.irrefl _ (hp _)
    ·rw [if_neg j2,if_pos (by lia)]
     exact W.asymm _ _ (hp _) (hp _) (hi (j - 1) (by lia) (by lia))
   ·rw [if_neg i2,if_pos (show i≤k by lia),if_neg (show ¬ j=l by lia),if_pos (show j≤k by lia)]
    exact up (i - 1) (j - 1) (by lia) (by lia)
theorem sort_wp (W:Weak n lt) (hcmp:∀ i j C s,i<n→j<n→P s→(∀ s',P s'→C (lt i j) s')→cmp i j C s) (hn:0<n) {s:Shared}{Q:Array Nat→Shared→Prop} (hs:P s)
  (h:∀ p s',P s'→p.toList.Perm (List.range n)→UpTo lt p n→Q p s'):(kas_sort n).kasWp cmp Q s:=by
 unfold kas_sort
 rw [KasT.kasWp_bind]
 have hp:AllLt n (List.toArray (List.range n)):=fun i=>by
  by_cases hi:i<n
  ·simp [Array.getD,hi]
  ·simp [Array.getD,hi];exact hn
 have hz:(List.toArray (List.range n)).size=n:=by simp
 refine count_wp W hcmp hn hs hp (by lia) (by rw [hz];exact Nat.le_refl _) fun m p' s' hs' hperm a b up=>?_
 have hsz:p'.size=n:=by rw [hperm.size_eq];exact hz
 have toL:∀ {q:Array Nat},q.Perm (List.toArray (List.range n))→q.toList.Perm (List.range n):=fun r=>by simpa using Array.perm_iff_toList_perm.mp r
 dsimp only
 split
 ·rw [show max m 1=m by lia]
  exact bin_wp W hcmp hn _ p' m s' hs' (hp.perm hn hperm) (by lia) up fun p2 s2 x y z=>h p2 s2 x (toL (y.trans hperm)) (by rw [show m+(n - m)=n by lia] at z;exact z)
 ·have:m=n:=by lia
  subst this
  exact h p' s' hs' (toL hperm) up
end
end L2
namespace L2
open PySem PySem.Spec PyProof.Rows PySem.W
inductive Sh where
 | int | str | list (e:Sh) | tnil | tcons (a r:Sh)
def Sh.has:Sh→PyData→Prop
 | .int,d=>∃ i,d = .int i
 | .str,d=>∃ x,d = .str x
 | .list e,d=>∃ ds,d = .list ds∧∀ x∈ds,Sh.has e x
 | .tnil,d=>d = .tuple []
 | .tcons a r,d=>∃ x ds,d = .tuple (x::ds)∧Sh.has a x∧Sh.has r (.tuple ds)
structure ShOk (S:PyData→Prop):Prop where
 cmp:∀ d e,S d→S e→cmpb d e=true
 eqv:∀ d e,S d→S e→(PyData.eqv d e=true↔d=e)
 irr:∀ d,S d→ltv d d=false
 tot:∀ d e,S d→S e→ltv d e=false→ltv e d=false→d=e
 trans:∀ d e f,S d→S e→S f→ltv d e=true→ltv e f=true→ltv d f=true
theorem ShOk.asymm {S:PyData→Prop} (o:ShOk S) {d e:PyData} (hd:S d) (he:S e) (h:ltv d e=true):ltv e d=false:=by
 cases q:ltv e d with
 | false=>rfl
 | true=>
  have:=o.trans d e d hd he hd h q
  rw [o.irr d hd] at this;cases this
theorem ShOk.neg {S:PyData→Prop} (o:ShOk S) {a b c:PyData} (ha:S a) (hb:S b) (hc:S c) (h:ltv a c=true):ltv a b=true∨ltv b c=true:=by
 cases q:ltv a b with
 | true=>exact .inl rfl
 | false=>
  cases q2:ltv b a with
  | true=>exact .inr (o.trans b a c hb ha hc q2 h)
  | false=>
   have:=o.tot a b ha hb q q2
   subst this
   exact .inr h
structure ShAll (S:PyData→Prop) (L:List PyData→Prop):Prop where
 cmp:∀ d e,L d→L e→cmpAll d e=true
 eqv:∀ d e,L d→L e→(PyData.eqvAll d e=true↔d=e)
 irr:∀ d,L d→ltvAll d d=false
 tot:∀ d e,L d→L e→ltvAll d e=false→ltvAll e d=false→d=e
 trans:∀ d e f,L d→L e→L f→ltvAll d e=true→ltvAll e f=true→ltvAll d f=true
theorem list_lex {a b:PyData}{S:PyData→Prop} (o:ShOk S):ShAll S (fun l=>∀ x∈l,S x) where
 cmp:=by
  intro d
  induction d with
  | nil=>intro e _ _;rw [cmpAll]
  | cons x xs ih=>
   intro e hd he
   cases e with
   | nil=>rw [cmpAll]
   | cons y ys=>
    rw [cmpAll_cons]
    split
    ·exact ih ys (fun z hz=>hd z (List.mem_cons_of_mem _ hz)) fun z hz=>he z (List.mem_cons_of_mem _ hz)
    ·exact o.cmp x y (hd x List.mem_cons_self) (he y List.mem_cons_self)
 eqv:=by
  intro d
  induction d with
  | nil=>
   intro e _ _
   cases e with
   | nil=>simp [PyData.eqvAll]
   | cons y ys=>simp [PyData.eqvAll]
  | cons x xs ih=>
   intro e hd he
   cases e with
   | nil=>simp [PyData.eqvAll]
   | cons y ys=>
    rw [PyData.eqvAll,Bool.and_eq_true,o.eqv x y (hd x List.mem_cons_self) (he y List.mem_cons_self),ih ys (fun z hz=>hd z (List.mem_cons_of_mem _ hz)) fun z hz=>he z (List.mem_cons_of_mem _ hz)]
    simp
 irr:=by
  intro d
  induction d with
  | nil=>intro _;rw [ltvAll]
  | cons x xs ih=>
   intro hd
   rw [ltvAll_cons,if_pos ((o.eqv x x (hd x List.mem_cons_self) (hd x List.mem_cons_self)).mpr rfl)]
   exact ih fun z hz=>hd z (List.mem_cons_of_mem _ hz)
 tot:=by
  intro d
  induction d with
  | nil=>
   intro e _ _ h1 h2
   cases e with
   | nil=>rfl
   | cons y ys=>rw [ltvAll] at h1;cases h1
  | cons x xs ih=>
   intro e hd he h1 h2
   cases e with
   | nil=>rw [ltvAll] at h2;cases h2
   | cons y ys=>
    have sx:=hd x List.mem_cons_self
    have sy:=he y List.mem_cons_self
    rw [ltvAll_cons] at h1 h2
    by_cases e1:x=y
    ·subst e1
     rw [if_pos ((o.eqv x x sx sx).mpr rfl)] at h1 h2
     rw [ih ys (fun z hz=>hd z (List.mem_cons_of_mem _ hz)) (fun z hz=>he z (List.mem_cons_of_mem _ hz)) h1 h2]
    ·rw [if_neg (fun z=>e1 ((o.eqv x y sx sy).mp z))] at h1
     rw [if_neg (fun z=>e1 ((o.eqv y x sy sx).mp z).symm)] at h2
     exact absurd (o.tot x y sx sy h1 h2) e1
 trans:=by
  intro d
  induction d with
  | nil=>
   intro e f _ _ _ h1 h2
   cases f with
   | nil=>cases e <;> (rw [ltvAll] at h2;cases h2)
   | cons z zs=>rw [ltvAll]
  | cons x xs ih=>
   intro e f hd he hf h1 h2
   cases e with
   | nil=>rw [ltvAll] at h1;cases h1
   | cons y ys=>
    cases f with
    | nil=>rw [ltvAll] at h2;cases h2
    | cons z zs=>
     have sx:=hd x List.mem_cons_self
     have sy:=he y List.mem_cons_self
     have sz:=hf z List.mem_cons_self
     rw [ltvAll_cons] at h1 h2 ⊢
     by_cases e1:x=y
     ·subst e1
      rw [if_pos ((o.eqv x x sx sx).mpr rfl)] at h1
      by_cases e2:x=z
      ·subst e2
       rw [if_pos ((o.eqv x x sx sx).mpr rfl)] at h2 ⊢
       exact ih ys zs (fun w hw=>hd w (List.mem_cons_of_mem _ hw)) (fun w hw=>he w (List.mem_cons_of_mem _ hw)) (fun w hw=>hf w (List.mem_cons_of_mem _ hw)) h1 h2
      ·rw [if_neg (fun w=>e2 ((o.eqv x z sx sz).mp w))] at h2 ⊢
       exact h2
     ·rw [if_neg (fun w=>e1 ((o.eqv x y sx sy).mp w))] at h1
      by_cases e2:y=z
      ·subst e2
       rw [if_neg (fun w=>e1 ((o.eqv x y sx sy).mp w))]
       exact h1
      ·rw [if_neg (fun w=>e2 ((o.eqv y z sy sz).mp w))] at h2
       by_cases e3:x=z
       ·subst e3
        have:=o.asymm sx sy h1
        rw [this] at h2;cases h2
       ·rw [if_neg (fun w=>e3 ((o.eqv x z sx sz).mp w))]
        exact o.trans x y z sx sy sz h1 h2
theorem str_lt_tri {x y:Str} (h1:decide (x.cps.toList<y.cps.toList)=false) (h2:decide (y.cps.toList<x.cps.toList)=false):x=y:=by
 have e:x.cps.toList=y.cps.toList:=List.le_antisymm (by simpa using h2) (by simpa using h1)
 cases x;cases y
 simp only [Str.mk.injEq]
 exact Array.toList_inj.mp e
theorem Sh.ok:∀ sh:Sh,ShOk sh.has
 | .int=>by
  refine ⟨?_,?_,?_,?_,?_⟩
  ·rintro _ _ ⟨i,rfl⟩ ⟨j,rfl⟩;rw [cmpb]
  ·rintro _ _ ⟨i,rfl⟩ ⟨j,rfl⟩;simp [PyData.eqv]
  ·rintro _ ⟨i,rfl⟩;rw [ltv];simp
  ·rintro _ _ ⟨i,rfl⟩ ⟨j,rfl⟩ h1 h2
   rw [ltv] at h1 h2
   have:i=j:=by simp at h1 h2;lia
   rw [this]
  ·rintro _ _ _ ⟨i,rfl⟩ ⟨j,rfl⟩ ⟨k,rfl⟩ h1 h2
   rw [ltv] at h1 h2 ⊢
   simp at h1 h2 ⊢;lia
 | .str=>by
  refine ⟨?_,?_,?_,?_,?_⟩
  ·rintro _ _ ⟨i,rfl⟩ ⟨j,rfl⟩;rw [cmpb]
  ·rintro _ _ ⟨i,rfl⟩ ⟨j,rfl⟩;simp [PyData.eqv]
  ·rintro _ ⟨i,rfl⟩;rw [ltv];exact decide_eq_false (List.lt_irrefl _)
  ·rintro _ _ ⟨i,rfl⟩ ⟨j,rfl⟩ h1 h2
   rw [ltv] at h1 h2
   rw [str_lt_tri h1 h2]
  ·rintro _ _ _ ⟨i,rfl⟩ ⟨j,rfl⟩ ⟨k,rfl⟩ h1 h2
   rw [ltv] at h1 h2 ⊢
   exact decide_eq_true (List.lt_trans (of_decide_eq_true h1) (of_decide_eq_true h2))
 | .list e=>by
  have L:=list_lex (a:=.none) (b:=.none) (Sh.ok e)
  refine ⟨?_,?_,?_,?_,?_⟩
  ·rintro _ _ ⟨i,rfl,hi⟩ ⟨j,rfl,hj⟩;rw [cmpb];exact L.cmp i j hi hj
  ·rintro _ _ ⟨i,rfl,hi⟩ ⟨j,rfl,hj⟩;rw [PyData.eqv,L.eqv i j hi hj];simp
  ·rintro _ ⟨i,rfl,hi⟩;rw [ltv];exact L.irr i hi
  ·rintro _ _ ⟨i,rfl,hi⟩ ⟨j,rfl,hj⟩ h1 h2
   rw [ltv] at h1 h2
   rw [L.tot i j hi hj h1 h2]
  ·rintro _ _ _ ⟨i,rfl,hi⟩ ⟨j,rfl,hj⟩ ⟨k,rfl,hk⟩ h1 h2
   rw [ltv] at h1 h2 ⊢
   exact L.trans i j k hi hj hk h1 h2
 | .tnil=>by
  refine ⟨?_,?_,?_,?_,?_⟩
  ·rintro _ _ rfl rfl;rw [cmpb,cmpAll]
  ·rintro _ _ rfl rfl;simp [PyData.eqv,PyData.eqvAll]
  ·rintro _ rfl;rw [ltv,ltvAll]
  ·rintro _ _ rfl rfl _ _;rfl
  ·rintro _ _ _ rfl rfl rfl h1 h2;rw [ltv,ltvAll] at h1;cases h1
 | .tcons a r=>by
  have oa:=Sh.ok a
  have or:=Sh.ok r
  refine ⟨?_,?_,?_,?_,?_⟩
  ·rintro _ _ ⟨x,xs,rfl,hx,hxs⟩ ⟨y,ys,rfl,hy,hys⟩
   have:=or.cmp _ _ hxs hys
   rw [cmpb] at this ⊢
   rw [cmpAll_cons]
   split
   ·exact this
   ·exact oa.cmp x y hx hy
  ·rintro _ _ ⟨x,xs,rfl,hx,hxs⟩ ⟨y,ys,rfl,hy,hys⟩
   have:=or.eqv _ _ hxs hys
   rw [PyData.eqv] at this ⊢
   rw [PyData.eqvAll,Bool.and_eq_true,oa.eqv x y hx hy,this]
   simp
  ·rintro _ ⟨x,xs,rfl,hx,hxs⟩
   have:=or.irr _ hxs
   rw [ltv] at this ⊢
   rw [ltvAll_cons,if_pos ((oa.eqv x x hx hx).mpr rfl)]
   exact this
  ·rintro _ _ ⟨x,xs,rfl,hx,hxs⟩ ⟨y,ys,rfl,hy,hys⟩ h1 h2
   have ih:=or.tot _ _ hxs hys
   rw [ltv] at h1 h2 ih
   rw [ltv] at ih
   rw [ltvAll_cons] at h1 h2
   by_cases e1:x=y
   ·subst e1
    rw [if_pos ((oa.eqv x x hx hx).mpr rfl)] at h1 h2
    have:=ih h1 h2
    injection this with this
    rw [this]
   ·rw [if_neg (fun w=>e1 ((oa.eqv x y hx hy).mp w))] at h1
    rw [if_neg (fun w=>e1 ((oa.eqv y x hy hx).mp w).symm)] at h2
    exact absurd (oa.tot x y hx hy h1 h2) e1
  ·rintro _ _ _ ⟨x,xs,rfl,hx,hxs⟩ ⟨y,ys,rfl,hy,hys⟩ ⟨z,zs,rfl,hz,hzs⟩ h1 h2
   have ih:=or.trans _ _ _ hxs hys hzs
   rw [ltv,ltv,ltv] at ih
   rw [ltv] at h1 h2 ⊢
   rw [ltvAll_cons] at h1 h2 ⊢
   by_cases e1:x=y
   ·subst e1
    rw [if_pos ((oa.eqv x x hx hx).mpr rfl)] at h1
    by_cases e2:x=z
    ·subst e2
     rw [if_pos ((oa.eqv x x hx hx).mpr rfl)] at h2 ⊢
     exact ih h1 h2
    ·rw [if_neg (fun w=>e2 ((oa.eqv x z hx hz).mp w))] at h2 ⊢
     exact h2
   ·rw [if_neg (fun w=>e1 ((oa.eqv x y hx hy).mp w))] at h1
    by_cases e2:y=z
    ·subst e2
     rw [if_neg (fun w=>e1 ((oa.eqv x y hx hy).mp w))]
     exact h1
    ·rw [if_neg (fun w=>e2 ((oa.eqv y z hy hz).mp w))] at h2
     by_cases e3:x=z
     ·subst e3
      have:=oa.asymm hx hy h1
      rw [this] at h2;cases h2
     ·rw [if_neg (fun w=>e3 ((oa.eqv x z hx hz).mp w))]
      exact oa.trans x y z hx hy hz h1 h2
end L2
namespace L2
open PySem PySem.Spec PyProof.Rows PySem.W
inductive FirstK:Sh→Bool→Prop
 | int:FirstK .int true
 | str:FirstK .str true
 | tnil:FirstK .tnil false
 | tcons (a r:Sh):FirstK (.tcons a r) false
section
variable {X:Cx}{pins:List (Addr×Obj)}{σ:St}{H:Hp}{s:Shared}
theorem vals_getD {xs:List V}{us:List Value} (r:Vals xs us) (i:Nat):RelV (xs.getD i .non) (us.getD i .none):=by
 rw [List.getD_eq_getElem?_getD,List.getD_eq_getElem?_getD]
 cases e:xs[i]? with
 | none=>rw [r.none_of e];rfl
 | some x=>
  obtain ⟨u,hu,ru⟩:=r.get e
  rw [hu];exact ru
theorem Dens.getD' {K:PySem.W.Frag}{xs:List V}{ds:List PyData} (h:Dens K H xs ds) (i:Nat) (hi:i<ds.length):Den K H (xs.getD i .non) (ds.getD i .none):=by
 have e:ds[i]? = some ds[i]:=by simp [hi]
 obtain ⟨x,hx,hd⟩:=h.getD e
 rw [List.getD_eq_getElem?_getD,List.getD_eq_getElem?_getD,hx,e]
 exact hd
theorem firsts {a r:Sh}:∀ {ks:List V}{us:List Value}{kds:List PyData},Inv X pins σ H s→Vals ks us→Dens X.K H ks kds→(∀ d∈kds,(Sh.tcons a r).has d) →
  ∃ fs:List Value,KatTups s.heap us fs∧fs.length=us.length∧∀ f∈fs,∃ d as,a.has d∧Reads s.heap f d as
 | _,_,_,I,.nil,.nil,_=>⟨[],.nil,rfl,fun _ h=>by cases h⟩
 | _,_,_,I,.cons rv rr,.cons hd ht,hs=>by
  obtain ⟨fs,h1,h2,h3⟩:=firsts I rr ht fun d hd=>hs d (List.mem_cons_of_mem _ hd)
  obtain ⟨x,ds,e,hx,_⟩:=hs _ List.mem_cons_self
  subst e
  cases hd with
  | tup hq t=>
   cases rv
   obtain ⟨its,rv',⟨o,eo,c,n,dt⟩,_⟩:=I.tuple hq
   cases t with
   | cons hd0 t0=>
    cases rv' with
    | @cons v0 u0 vs0 us0 r0 rr0=>
     obtain ⟨as,ra⟩:=I.reads hd0 r0
     refine ⟨u0::fs,.cons eo c dt (by simp) h1,by simp [h2],fun f hf=>?_⟩
     rcases List.mem_cons.mp hf with e | hf
     ·subst e;exact ⟨x,as,hx,ra⟩
     ·exact h3 f hf
theorem first_looks {a:Sh}{b:Bool} (hf:FirstK a b):∃ T:Value,(T == T)=true∧(T != Value.type "tuple")=b∧∀ (M:Model) (h:Heap) (f:Value) (d:PyData) (as:List Addr),a.has d→Reads h f d as→Looks M h (typeOf f) T:=by
 cases hf with
 | int=>exact ⟨.type "int",by decide,by decide,fun M h f d as hd r=>by obtain ⟨i,rfl⟩:=hd;cases r;exact .of_pure rfl⟩
 | str=>exact ⟨.type "str",by decide,by decide,fun M h f d as hd r=>by obtain ⟨i,rfl⟩:=hd;cases r;exact .of_pure rfl⟩
 | tnil=>exact ⟨.type "tuple",by decide,by decide,fun M h f d as hd r=>by
   have e:d = .tuple []:=hd
   subst e
   cases r with
   | tuple h1 h2 h3 h4=>rw [← h2];exact (Looks.ld h1).andThen .now⟩
 | tcons a r=>exact ⟨.type "tuple",by decide,by decide,fun M h f d as hd r=>by
   obtain ⟨x,ds,rfl,_,_⟩:=hd
   cases r with
   | tuple h1 h2 h3 h4=>rw [← h2];exact (Looks.ld h1).andThen .now⟩
theorem sort_engine {a r:Sh}{b:Bool}{A:Around} (hf:FirstK a b) {ks:List V}{us:List Value}{kds:List PyData} (I:Inv X pins σ H s) (hv:Vals ks us) (hd:Dens X.K H ks kds) (hs:∀ d∈kds,(Sh.tcons a r).has d) (hdep:∀ d∈kds,d.depth≤100)
  (h2:2≤us.length) (hu:A.units+101<cLine) {G:Array Nat→Shared→Prop}
  (h:∀ p:Array Nat,p.toList.Perm (List.range us.length)→(∀ i j,i≤j→j<us.length→ltv (kds.getD (p.getD j 0) .none) (kds.getD (p.getD i 0) .none)=false)→G p s) :
  wpAny (model X.prog X.w) A (keyKind' us.toArray) (fun κ s'=>(kas_sort us.length).kasWp (kas_ask X.prog X.w A κ us) G s') (fun _ _=>False) s:=by
 obtain ⟨fs,t1,t2,t3⟩:=firsts I hv hd hs
 obtain ⟨T,hT1,hT2,hT3⟩:=first_looks hf
 refine kat_kind t1 (by lia) (fun f hf=>?_) hT1 ?_
 ·obtain ⟨d,as,x,y⟩:=t3 f hf
  exact hT3 _ _ f d as x y
 rw [hT2]
 have l1:us.length=kds.length:=by rw [← hv.length];exact hd.length
 have o:=Sh.ok (.tcons a r)
 have hget:∀ i,i<us.length→(Sh.tcons a r).has (kds.getD i .none):=fun i hi=>by
  have e:kds[i]? = some kds[i]:=by simp [← l1,hi]
  (rw [List.getD_eq_getElem?_getD,e])
  exact hs _ (List.getElem_mem _)
 have hdp:∀ i,i<us.length→(kds.getD i .none).depth≤100:=fun i hi=>by
  have e:kds[i]? = some kds[i]:=by simp [← l1,hi]
  (rw [List.getD_eq_getElem?_getD,e])
  exact hdep _ (List.getElem_mem _)
 refine sort_wp (n:=us.length) (lt:=fun i j=>ltv (kds.getD i .none) (kds.getD j .none)) (P:=fun s'=>s' = s) ⟨fun i hi=>o.irr _ (hget i hi),fun i j k hi hj hk q=>o.neg (hget i hi) (hget j hj) (hget k hk) q,fun i j hi hj q=>o.asymm (hget i hi) (hget j hj) q⟩
  (fun i j C s' hi hj e q=>?_) (by lia) rfl fun p s' e hp up=>by subst e;exact h p hp up
 subst e
 show wpAny (model X.prog X.w) A (keyLt' (tuples' b) (us.getD i .none) (us.getD j .none)) C (fun _ _=>False) s'
 have di:=hd.getD' i (by lia)
 have dj:=hd.getD' j (by lia)
 have ri:=vals_getD hv i
 have rj:=vals_getD hv j
 have hi':=hget i hi
 have hj':=hget j hj
 have pi:=hdp i hi
 have qq:=q s' rfl
 have cc:=o.cmp _ _ hi' hj'
 have lyi:=di.lay
 have lyj:=dj.lay
 revert di dj hi' hj' pi qq cc lyi lyj
 generalize kds.getD i .none=d
 generalize kds.getD j .none=e
 intro di dj hi' hj' pi qq cc lyi lyj
 obtain ⟨x,ds,rfl,hx,_⟩:=hi'
 obtain ⟨y,es,rfl,hy,_⟩:=hj'
 revert di dj ri rj
 generalize ks.getD i .non=vi
 generalize ks.getD j .non=vj
 generalize us.getD i .none=ui
 generalize us.getD j .none=uj
 intro ri rj di dj
 cases di with
 | tup qi ti=>
  cases dj with
  | tup qj tj=>
   cases ri
   cases rj
   obtain ⟨its,rv,⟨oi,ei,ci,ni,dti⟩,_⟩:=I.tuple qi
   obtain ⟨jts,rw',⟨oj,ej,cj,nj,dtj⟩,_⟩:=I.tuple qj
   obtain ⟨as,ra⟩:=I.readsAll ti rv
   obtain ⟨bs,rb⟩:=I.readsAll tj rw'
   rw [ltv] at qq
   rw [cmpb] at cc
   rw [PyData.depth] at pi
   refine keyLt_data ei dti ej dtj (by simpa using ra) (by simpa using rb) lyi lyj cc (fun d0 e0 h1 h3 hb=>?_) (by lia) qq
   have e1:x=d0:=by simpa using h1
   have e2:y=e0:=by simpa using h3
   subst e1 e2
   cases hf with
   | int=>obtain ⟨p,rfl⟩:=hx;obtain ⟨q,rfl⟩:=hy;exact .inl ⟨p,q,rfl,rfl⟩
   | str=>obtain ⟨p,rfl⟩:=hx;obtain ⟨q,rfl⟩:=hy;exact .inr ⟨p,q,rfl,rfl⟩
   | tnil=>cases hb
   | tcons _ _=>cases hb
theorem Inv.adopt {h':Heap}{t':Nat}{wr:List Addr}{a:Addr}{o:HO} (I:Inv X pins σ H s) (hf:∀ b∈wr,FpOk X pins H b) (ha:a∈wr) (k:∀ b o,b∉wr→s.heap.get? b=some o→h'.get? b=some o)
  (new:ObjOk X.prog X.w (upd H a o) h' a o):Inv X pins σ (upd H a o) { s with heap:=h',toks:=t' }:=by
 have nit:∀ b u,H b=some u→b∉wr:=fun b u e z=>by rw [(hf b z).1] at e;cases e
 have hfr:H a=none:=(hf a ha).1
 refine I.step (g':=s.gens) (d':=s.drawn) (ch:=wr) (fun b hb=>⟨(hf b hb).2.2.2.1,(hf b hb).2.1,(hf b hb).2.2.2.2.1,(hf b hb).2.2.2.2.2⟩) (fun b o _ _ hc e _=>k b o hc e) (fun b o _ _ hc e _=>⟨o.slots,k b o hc e⟩)
  (fun b ob hc e n=>by rw [upd_ne (show b≠a from fun z=>hc (by rw [z];exact ha))];exact n)
  (fun b o hc e=>⟨o,k b o hc e⟩) (fun b xs e=>by rw [upd_ne (ne_of_none e hfr)];exact e) (fun b ob u e=>by rw [upd_ne (ne_of_none e hfr)];exact e) (fun b ps e=>⟨#[],by rw [upd_ne (ne_of_none e hfr),e];simp⟩) (fun m hm=>?_) (fun b u e=>?_) I.bare
 ·obtain ⟨o,es,ep,ho,r⟩:=hm
  exact ⟨o,es,ep,k _ o (fun z=>(hf _ z).2.1 rfl) ho,r⟩
 ·by_cases hb:b=a
  ·subst hb;rw [upd_same] at e;cases e;exact new
  ·rw [upd_ne hb] at e
   refine (I.hok b u e).stay (fun c v hc q=>k c v ?_ q) (fun c q=>by rw [upd_ne (ne_of_none q hfr)];exact q) fun c xs q=>by rw [upd_ne (ne_of_none q hfr)];exact q
   rcases hc with z | z
   ·rw [z];exact nit b u e
   ·exact nit c _ z
end
end L2
namespace L2
open PySem PySem.Spec PyProof.Rows PySem.W
section
variable {X:Cx}{pins:List (Addr×Obj)}{σ:St}{H:Hp}{s:Shared}
def picked (xs:List V) (p:List Nat):List V:=p.map fun i=>xs.getD i .non
theorem vals_picked {xs:List V}{us:List Value} (r:Vals xs us):∀ p:List Nat,Vals (picked xs p) (p.map fun i=>us.getD i .none)
 | []=>.nil
 | i::p=>.cons (vals_getD r i) (vals_picked r p)
theorem picked_len (xs:List V) (p:List Nat):(picked xs p).length=p.length:=by simp [picked]
theorem range_picked {α:Type} (us:List α) (d:α):(List.range us.length).map (fun i=>us.getD i d)=us:=by
 apply List.ext_getElem
 ·simp
 ·intro i h1 h2
  simp [h2]
def InOrd (kds:List PyData) (p:List Nat):Prop:=(p.map fun i=>kds.getD i .none).Pairwise fun a b=>ltv b a=false
theorem inord_of {kds:List PyData}{p:Array Nat}{n:Nat} (hn:p.toList.length=n) (h:∀ i j,i≤j→j<n→ltv (kds.getD (p.getD j 0) .none) (kds.getD (p.getD i 0) .none)=false):InOrd kds p.toList:=by
 unfold InOrd
 (rw [List.pairwise_iff_getElem])
 intro i j hi hj hij
 simp only [List.getElem_map]
 have hi':i<p.size:=by simpa using hi
 have hj':j<p.size:=by simpa using hj
 have:=h i j (by lia) (by simp at hn;lia)
 have e1:p.getD i 0=p[i]:=by simp [Array.getD,hi']
 have e2:p.getD j 0=p[j]:=by simp [Array.getD,hj']
 rw [e1,e2] at this
 simpa using this
theorem inord_short {kds:List PyData}{n:Nat} (hn:n<2):InOrd kds (List.range n):=by
 unfold InOrd
 match n,hn with
 | 0,_=>simp
 | 1,_=>simp
theorem sort_opened {D:Addr}{n0:Nat}{vs:List Value} (I:Inv X pins σ H s) (ho:s.heap.get? D=some (seqObj "list" vs.toArray n0)) (fD:FpOk X pins H D) :
  ∃ e1,(s.heap.update D (Obj.mapSeq fun _=>(#[]:Array Value))).get? D=some (seqObj "list" #[] e1) ∧
   ∀ h3,h3=((s.heap.update D (Obj.mapSeq fun _=>(#[]:Array Value))).push (seqObj "tuple" vs.toArray 0)).push (seqObj "list" #[] 0)→h3.get? D=some (seqObj "list" #[] e1)∧Inv X pins σ H { s with heap:=h3 }:=by
 have gone:=get?_update_seq ho fun _=>(#[]:Array Value)
 have rest:=(Heap.SameBut.update s.heap D (Obj.mapSeq fun _=>(#[]:Array Value))).2
 generalize s.heap.update D (Obj.mapSeq fun _=>(#[]:Array Value))=h1 at gone rest
 refine ⟨_,gone,fun h3 e3=>?_⟩
 have up:∀ c o,h1.get? c=some o→h3.get? c=some o:=fun c o e=>e3 ▸ Heap.get?_push_of_some _ (Heap.get?_push_of_some _ e)
 refine ⟨up D _ gone,I.turnedL (t':=s.toks) (wr:=[D]) (fun c hc=>?_) fun c o hc e=>up c o ((rest c fun z=>hc (z ▸ List.mem_singleton.mpr rfl)).trans e)⟩
 rw [List.mem_singleton.mp hc]
 exact fD
theorem lsort_by {A:Around}{D:Addr}{n0:Nat}{xs:List V}{vs:List Value}{ds:List PyData}{P:PySem.Fin→Shared→Prop}{E:Value→Shared→Prop} (I:Inv X pins σ H s) (ho:s.heap.get? D=some (seqObj "list" vs.toArray n0)) (fD:FpOk X pins H D)
  (hv:Vals xs vs) (eng:∀ (s':Shared) (G:Array Nat→Shared→Prop),Inv X pins σ H s'→2≤vs.length→(∀ p:Array Nat,p.toList.Perm (List.range vs.length)→(∀ i j,i≤j→j<vs.length→ltv (ds.getD (p.getD j 0) .none) (ds.getD (p.getD i 0) .none)=false)→G p s')→wpAny (model X.prog X.w) A (keyKind' vs.toArray) (fun κ s''=>(kas_sort vs.length).kasWp (kas_ask X.prog X.w A κ vs) G s'') (fun _ _=>False) s') (h64:vs.length<64)
  (h:∀ (p:List Nat) (h':Heap),p.Perm (List.range xs.length)→InOrd ds p→Inv X pins σ (upd H D (.lst (picked xs p))) { s with heap:=h' }→P (.done (.ret .none)) { s with heap:=h' }) :
  wpAny (model X.prog X.w) A (Builtin.«list.sort» ⟨[.ref D],[]⟩) P E s:=by
 have hlen:=hv.length
 obtain ⟨e1,ho1,at3⟩:=sort_opened I ho fD
 rw [list_sort_plain]
 refine wpAny_bind (listItems_at ho rfl (wpAny_bind (listUpdate_at ho rfl (wpAny_bind (seqEpoch_at ho1 rfl (wpAny_bind (wpAny_newTuple (wpAny_bind (wpAny_newList (wpAny_holding ?main) (Nat.zero_le _))) ?short)))) ?few (Nat.zero_le _))))
 case short=>show vs.length≤_;rw [sizeLine_eq];lia
 case few=>rw [List.size_toArray,sizeLine_eq];lia
 case main=>
 show wpAny (model X.prog X.w) A _ P E { s with heap:=((s.heap.update D (Obj.mapSeq fun _=>(#[]:Array Value))).push (seqObj "tuple" vs.toArray 0)).push (seqObj "list" #[] 0) }
 generalize hh3:((s.heap.update D (Obj.mapSeq fun _=>(#[]:Array Value))).push (seqObj "tuple" vs.toArray 0)).push (seqObj "list" #[] 0)=h3
 obtain ⟨hD3,I3⟩:=at3 h3 hh3.symm
 have fin:∀ (p:List Nat) (out:Array Value),p.Perm (List.range xs.length)→InOrd ds p→out=List.toArray (p.map fun i=>vs.getD i Value.none) →
   P (.done (.ret .none)) { s with heap:=h3.update D (Obj.mapSeq fun _=>out) }:=fun p out hp hord eo=>by
  have sb:=Heap.SameBut.update h3 D (Obj.mapSeq fun _=>out)
  obtain ⟨c2,hc2⟩:∃ c2,(h3.update D (Obj.mapSeq fun _=>out)).get? D=some (seqObj "list" out c2):=⟨_,get?_update_seq hD3 fun _=>out⟩
  have pl:p.length=xs.length:=by rw [hp.length_eq];simp
  refine h p _ hp hord (I3.adopt (t':=s.toks) (wr:=[D]) (a:=D) (fun c hc=>by rw [show c=D by simpa using hc];exact fD) (by simp) (fun c o hc e=>(sb.2 c (by simpa using hc)).trans e) ?_)
  refine ⟨by rw [picked_len,pl,sizeLine_eq];lia,p.map fun i=>vs.getD i Value.none,c2,vals_picked hv p,?_⟩
  rw [hc2,eo]
 dsimp only
 by_cases hn2:vs.toArray.size<2
 ·rw [if_pos hn2,if_pos hn2]
  refine wpAny_bind (wpAny_pure ?_)
  refine wpAny_bind ?_
  show wpAny _ _ ((pure ():StateT SortSt Sem Unit).run _) _ _ _
  rw [StateT.run_pure]
  refine wpAny_pure ?_
  dsimp only
  refine wpAny_bind (seqEpoch_at hD3 rfl ?_)
  have hout:(arrOf (SortSt.mk' general' (vs.toArray.zip vs.toArray) #[] 7 none)).map (·.2)=vs.toArray:=by
   show (vs.toArray.zip vs.toArray).map (·.2)=vs.toArray
   apply Array.toList_inj.mp
   simp [List.map_snd_zip]
  rw [hout]
  refine wpAny_bind (listUpdate_at hD3 rfl ?_ (Nat.zero_le _) (by show vs.toArray.size≤_;rw [List.size_toArray,sizeLine_eq];lia))
  (simp only [bne_self_eq_false,Bool.false_eq_true,if_false])
  refine wpAny_pure (fin (List.range xs.length) _ (List.Perm.refl _) (inord_short (by rw [List.size_toArray] at hn2;lia)) ?_)
  rw [hlen,range_picked]
 ·rw [if_neg hn2,if_neg hn2]
  have h2:2≤vs.length:=by rw [List.size_toArray] at hn2;lia
  refine wpAny_bind (wpAny_mono (eng _ (fun p s'=>s' = { s with heap:=h3 }∧p.toList.Perm (List.range vs.length)∧InOrd ds p.toList) I3 h2 fun p hp up=>⟨rfl,hp,inord_of (by rw [hp.length_eq];simp) up⟩) (fun κ s0 hk=>?_) fun _ _ x=>x.elim)
  refine wpAny_bind (wpAny_mono (kat_run (Q:=fun st' s'=>∃ p:Array Nat,arrOf st' = p.map (kas_item (vs.toArray.zip vs.toArray))∧failedOf st' = none∧s' = { s with heap:=h3 }∧p.toList.Perm (List.range vs.length)∧InOrd ds p.toList)
   rfl h2 h64 (fun p' st' s' a1 a2 a3 a4=>⟨p',a2,a3,a4⟩) hk) ?_ fun _ _ e=>e)
  rintro ⟨⟨⟩,st'⟩ s' ⟨p,har,hfl,rfl,hp,hord⟩
  dsimp only
  have hout:=kat_snds rfl har
  rw [hout]
  refine wpAny_bind (seqEpoch_at hD3 rfl ?_)
  refine wpAny_bind (listUpdate_at hD3 rfl ?_ (Nat.zero_le _) (by rw [List.size_toArray,List.length_map,hp.length_eq,List.length_range,sizeLine_eq];lia))
  rw [hfl]
  (simp only [bne_self_eq_false,Bool.false_eq_true,if_false])
  exact wpAny_pure (fin p.toList _ (by rw [hlen];exact hp) hord rfl)
theorem lsort_plain {a r:Sh}{b:Bool}{A:Around}{D:Addr}{n0:Nat} (hf:FirstK a b) {xs:List V}{vs:List Value}{ds:List PyData}{P:PySem.Fin→Shared→Prop}{E:Value→Shared→Prop} (I:Inv X pins σ H s) (ho:s.heap.get? D=some (seqObj "list" vs.toArray n0)) (fD:FpOk X pins H D)
  (hv:Vals xs vs) (hd:Dens X.K H xs ds) (hs:∀ d∈ds,(Sh.tcons a r).has d) (hdep:∀ d∈ds,d.depth≤100) (h64:vs.length<64) (hu:A.units+101<cLine)
  (h:∀ (p:List Nat) (h':Heap),p.Perm (List.range xs.length)→InOrd ds p→Inv X pins σ (upd H D (.lst (picked xs p))) { s with heap:=h' }→P (.done (.ret .none)) { s with heap:=h' }) :
  wpAny (model X.prog X.w) A (Builtin.«list.sort» ⟨[.ref D],[]⟩) P E s:=
 lsort_by I ho fD hv (fun s' G I' h2 hG=>sort_engine (A:=A) hf I' hv hd hs hdep h2 hu hG) h64 h
end
end L2
namespace L2
open PySem PySem.Spec PyProof.Rows PySem.W
section
open PySem.SeqAt
open PySem.AutoSeq1 (wpAny_loadPart')
open PySem.MeetsSeq PySem.MeetsSeq2 PySem.MeetsSeq3
end
section
variable {X:Cx}
def rIsi (K:PySem.W.Frag):List V→Hp→VK→Prop:=fun vs H Q=>∃ x n t b,vs=[x,.ty n]∧TyOf K H x t∧kitOne K t (.type n)=some b∧Q (.bl b) H
theorem call_isi:CallR X (.builtin "isinstance") (rIsi X.K):=by
 intro pins s σ H xs us Q I rv h
 obtain ⟨x,n,t,b,rfl,ty,e,q⟩:=h
 obtain ⟨u,w',rfl,r1,r2⟩:=vals2 rv
 obtain rfl:w' = Value.type n:=r2
 exact isinst_ok I r1 ty e fun tk=>⟨.bl b,H,I.tok _,rfl,q⟩
def tRev (K:PySem.W.Frag) (te:TE):TE:=fun σ H Q=>te σ H fun x H1=>∃ a xs,x = .ref a∧SqL K H1 a xs∧∀ p,H1 p=none→Q (.ref p) (upd H1 p (.lst xs.reverse))
theorem pe_rev {e:Expr}{te:TE}{k:Nat}{p1 p2 p3 pos:Pos} (he:PE X e te):PE X (.Subscript e (.Slice none none (some (.UnaryOp .USub (.Constant (.int 1) k p1) p2)) p3) pos) (tRev X.K te):=by
 intro pins s σ H Q I h
 refine Subscript_ (thn (he pins s σ H _ I h) fun v s1 ⟨x,H1,I1,r1,a,xs,ex,hq,q1⟩=>?_)
 subst ex
 cases r1
 refine wpAny_Slice ?_
 rw [evalPart_none]
 refine wpAny_pure ?_
 refine wpAny_pure ?_
 rw [evalPart_some]
 refine UnaryOp_ (wpAny_Constant_int (neg_int ?_))
 have I4:Inv X pins σ H1 { s1 with heap:=s1.heap.push { cls:=.type "slice",data:=.fields #[.none,.none,.int (-1) (s1.toks+1)] },toks:=s1.toks+1+1 }:=I1.kept (t':=s1.toks+1+1) fun b ob q=>Heap.get?_push_of_some _ q
 obtain ⟨its,r,ht,hz⟩:=I4.list hq
 have hlen:=r.length
 refine tail_any (ops:=[.ref a,.ref s1.heap.objs.size]) ht.isList.typeIs slot_list_getitem.lookup ?_ (by with_unfolding_all rfl)
 refine wpAny_getItem_list_slice ht.isList (Heap.IsSliceOf.new ..) .none .none (.int (-1) _) (by decide) ?_ (by rw [List.size_toArray];lia)
 rw [krv_pick]
 refine ⟨.ref _,_,I4.laid (o:=.lst xs.reverse) (fun b ob q=>Heap.get?_push_of_some _ q) (Nat.le_refl _) ⟨by rw [List.length_reverse];exact hz,_,0,r.reverse,Heap.get?_push_size _ rfl⟩,rfl,q1 _ (I4.hok.fresh (Nat.le_refl _))⟩
end
end L2
namespace L2
open PySem PySem.Spec PyProof.Rows
structure DefAt (K:PySem.W.Frag) (mg:Str→Option Value) (x:Str) (st:Stmt) (ps:List Str) (f:Addr) (fd:FuncData):Prop where
 fn:Fun K x x st f fd
 bd:Binds K fd ps []
 mg:mg x=some (.ref f)
theorem Same.new {H:Hp}{p:Addr}{o:HO} (h:H p=none):Same H (upd H p o):=fun b u e=>by rw [upd_ne (ne_of_none e h)];exact e
def CN (D:Addr) (Pv:List V→St→Hp→Prop):St→Hp→Prop:=fun σ H=>∃ acc,H D=some (.lst acc)∧Pv acc σ H
section
variable {K:PySem.W.Frag}{g:TG}{tt:TT}{te:TE}{D:Addr}{Q:VK}{σ:St}{H:Hp}
theorem comp_gen {J:It} (n:Nat) (Pv:Nat→List V→St→Hp→Prop) (hD:H D=some (.lst [])) (h0:Pv 0 [] σ H)
  (hgo:∀ i acc σ H,i<n→H D=some (.lst acc)→Pv i acc σ H→J.go i H) (hstop:∀ acc σ H,H D=some (.lst acc)→Pv n acc σ H→J.stop n H)
  (hs:∀ i acc σ H x H',i<n→H D=some (.lst acc)→Pv i acc σ H→J.yld i H x H'→g x σ H' fun σ2 H2=>tt σ2 H2 fun b H3=>if b=true then te σ2 H3 fun v H4=>∃ ys,H4 D=some (.lst ys)∧ys.length<sizeLine∧CN D (Pv (i+1)) σ2 (upd H4 D (.lst (ys++[v]))) else CN D (Pv (i+1)) σ2 H3)
  (hd:∀ acc σ H,H D=some (.lst acc)→Pv n acc σ H→Q (.ref D) H):CompW g tt te J D Q σ H:=by
 refine ⟨fun i m σ H=>m=n - i∧i≤n∧CN D (Pv i) σ H,⟨n,by simp,Nat.zero_le _,[],hD,h0⟩,?_⟩
 rintro i m σ H ⟨rfl,hi,acc,hacc,p⟩
 by_cases hlt:i<n
 ·exact .inr ⟨hgo i acc σ H hlt hacc p,CN D (Pv (i+1)),fun σ' H' p'=>⟨n - (i+1),by lia,rfl,hlt,p'⟩,fun x H' y=>hs i acc σ H x H' hlt hacc p y⟩
 ·have e:i=n:=by lia
  subst e
  exact .inl ⟨hstop acc σ H hacc p,hd acc σ H hacc p⟩
theorem comp_list {a:Addr}{xs:List V} (Pv:Nat→List V→St→Hp→Prop) (hD:H D=some (.lst [])) (h0:Pv 0 [] σ H) (hl:∀ i acc σ H,i≤xs.length→H D=some (.lst acc)→Pv i acc σ H→SqL K H a xs)
  (hs:∀ i x acc σ H,xs[i]? = some x→H D=some (.lst acc)→Pv i acc σ H→g x σ H fun σ2 H2=>tt σ2 H2 fun b H3=>if b=true then te σ2 H3 fun v H4=>∃ ys,H4 D=some (.lst ys)∧ys.length<sizeLine∧CN D (Pv (i+1)) σ2 (upd H4 D (.lst (ys++[v]))) else CN D (Pv (i+1)) σ2 H3)
  (hd:∀ acc σ H,H D=some (.lst acc)→Pv xs.length acc σ H→Q (.ref D) H):CompW g tt te (Itl K a) D Q σ H:=by
 refine comp_gen xs.length Pv hD h0 (fun i acc σ H hi hacc p=>⟨xs,xs[i],hl i acc σ H (Nat.le_of_lt hi) hacc p,by simp [hi]⟩) (fun acc σ H hacc p=>⟨xs,hl _ acc σ H (Nat.le_refl _) hacc p,Nat.le_refl _⟩) (fun i acc σ H x H' hi hacc p y=>?_) hd
 obtain ⟨e,y⟩:=y
 subst e
 exact hs i x acc σ _ (y xs (hl i acc σ _ (Nat.le_of_lt hi) hacc p)) hacc p
theorem comp_range {lo:Int}{n:Nat} (Pv:Nat→List V→St→Hp→Prop) (hD:H D=some (.lst [])) (h0:Pv 0 [] σ H)
  (hs:∀ i acc σ H,i<n→H D=some (.lst acc)→Pv i acc σ H→g (.int (lo+i)) σ H fun σ2 H2=>tt σ2 H2 fun b H3=>if b=true then te σ2 H3 fun v H4=>∃ ys,H4 D=some (.lst ys)∧ys.length<sizeLine∧CN D (Pv (i+1)) σ2 (upd H4 D (.lst (ys++[v]))) else CN D (Pv (i+1)) σ2 H3)
  (hd:∀ acc σ H,H D=some (.lst acc)→Pv n acc σ H→Q (.ref D) H):CompW g tt te (Itr lo n) D Q σ H:=by
 refine comp_gen n Pv hD h0 (fun i acc σ H hi hacc p=>hi) (fun acc σ H hacc p=>Nat.le_refl _) (fun i acc σ H x H' hi hacc p y=>?_) hd
 obtain ⟨e,y⟩:=y
 subst e y
 exact hs i acc σ _ hi hacc p
theorem comp_str {z:Str} (Pv:Nat→List V→St→Hp→Prop) (hD:H D=some (.lst [])) (h0:Pv 0 [] σ H)
  (hs:∀ i c acc σ H,z.cps[i]? = some c→H D=some (.lst acc)→Pv i acc σ H→g (.str ⟨#[c]⟩) σ H fun σ2 H2=>tt σ2 H2 fun b H3=>if b=true then te σ2 H3 fun v H4=>∃ ys,H4 D=some (.lst ys)∧ys.length<sizeLine∧CN D (Pv (i+1)) σ2 (upd H4 D (.lst (ys++[v]))) else CN D (Pv (i+1)) σ2 H3)
  (hd:∀ acc σ H,H D=some (.lst acc)→Pv z.length acc σ H→Q (.ref D) H):CompW g tt te (Its z) D Q σ H:=by
 refine comp_gen z.length Pv hD h0 (fun i acc σ H hi hacc p=>hi) (fun acc σ H hacc p=>Nat.le_refl _) (fun i acc σ H x H' hi hacc p y=>?_) hd
 obtain ⟨e,c,ec,y⟩:=y
 subst e y
 exact hs i c acc σ _ ec hacc p
end
end L2
namespace L2
open PySem PySem.Spec PyProof.Rows
def cscB (sc osc:Scope) (N N':List Str) (n:Nat) (fi:List Nat):Bool:=
 decide (sc.kind = .function) && decide (∀ y∈sc.names,y.2 = .local→sc.names.lookup y.1=some .local)
 && decide (∀ y∈sc.names,y.2 = .free→osc.names.lookup y.1=some .cell∨osc.names.lookup y.1=some .free)
 && decide (N'.length=n+fi.length)
 && (List.range fi.length).all fun j=>match fi[j]? with
  | some k=>match N'[n+j]? with
   | some x=>decide (N[k]? = some x) && decide (sc.names.lookup x=some .free) && decide ((x,NameKind.cell)∉sc.names)
   | none=>false
  | none=>false
theorem cscope {X:Cx}{sc:Scope}{N':List Str}{n:Nat}{fi:List Nat} (osc:Scope) (N:List Str) (h:cscB sc osc N N' n fi=true) (e1:X.env.scope=osc:=by rfl) (e2:X.N=N:=by rfl):CScope X sc N' n fi:=by
 subst e1 e2
 simp only [cscB,Bool.and_eq_true,decide_eq_true_eq] at h
 obtain ⟨⟨⟨⟨h1,h2⟩,h3⟩,h4⟩,h5⟩:=h
 refine ⟨h1,h2,h3,h4,fun j k hj=>?_⟩
 have hlt:j<fi.length:=by
  rcases Nat.lt_or_ge j fi.length with q | q
  ·exact q
  ·rw [List.getElem?_eq_none q] at hj;cases hj
 have h6:=List.all_eq_true.mp h5 j (List.mem_range.mpr hlt)
 rw [hj] at h6
 dsimp only at h6
 cases e:N'[n+j]? with
 | none=>rw [e] at h6;cases h6
 | some x=>
  rw [e] at h6
  simp only [Bool.and_eq_true,decide_eq_true_eq] at h6
  exact ⟨x,rfl,h6.1.1,h6.1.2,h6.2⟩
def lim (H H':Hp):Hp:=fun b=>match H b with | some (.lst _)=>none | _=>H' b
def wo (D:Addr) (H:Hp):Hp:=fun b=>if b=D then none else H b
section
variable {H H' H1 H2 H3:Hp}{D E p b:Addr}{o u:HO}{xs ys:List V}
theorem lim_at (h:∀ zs,H b≠some (.lst zs)):lim H H' b=H' b:=by
 unfold lim
 split
 ·rename_i zs e;exact (h zs e).elim
 ·rfl
theorem lim_new (h:H p=none):lim H H' p=H' p:=lim_at fun zs e=>by rw [h] at e;cases e
theorem lim_same:Same (lim H H') H':=fun b o e=>by
 unfold lim at e
 split at e
 ·cases e
 ·exact e
theorem lim_get (h:lim H H' b=some o):∀ zs,H b≠some (.lst zs):=fun zs e=>by
 simp only [lim,e] at h
 cases h
theorem lim_mono (h:Same H1 H2):Same (lim H H1) (lim H H2):=fun b o e=>by
 rw [lim_at (lim_get e)]
 exact h b o (lim_same b o e)
def LL (H H':Hp):Prop:=∀ b ys,H b=some (.lst ys)→∃ zs,H' b=some (.lst zs)
theorem Same.ll (h:Same H H'):LL H H':=fun b ys e=>⟨ys,h b _ e⟩
theorem lim_back (h:LL H H1):Same (lim H1 H2) (lim H H2):=fun b o e=>by
 rw [lim_at]
 ·exact lim_same b o e
 ·intro zs q
  obtain ⟨z2,q2⟩:=h b zs q
  exact lim_get e z2 q2
theorem wo_at (h:b≠D):wo D H b=H b:=by simp [wo,h]
theorem wo_self:wo D H D=none:=by simp [wo]
theorem wo_get (h:wo D H b=some o):b≠D∧H b=some o:=by
 unfold wo at h
 split at h
 ·cases h
 ·rename_i q;exact ⟨q,h⟩
theorem wo_same:Same (wo D H) H:=fun b o e=>(wo_get e).2
theorem wo_mono (h:Same H1 H2):Same (wo D H1) (wo D H2):=fun b o e=>by
 rw [wo_at (wo_get e).1];exact h b o (wo_get e).2
theorem wo_upd:wo D (upd H D o)=wo D H:=by
 funext b
 by_cases e:b=D
 ·subst e;rw [wo_self,wo_self]
 ·rw [wo_at e,wo_at e,upd_ne e]
theorem same_upd:Same (wo D H) (upd H D o):=fun b u e=>by rw [upd_ne (wo_get e).1];exact (wo_get e).2
theorem wo_trans (h:Same (wo D H1) H2) (g:Same (wo D H2) H3):Same (wo D H1) H3:=fun b o e=>g b o (by rw [wo_at (wo_get e).1];exact h b o e)
theorem lim_wo (h:H D=some (.lst ys)):Same (lim H H') (wo D H'):=fun b o e=>by
 have hb:b≠D:=fun q=>by subst q;exact lim_get e _ h
 rw [wo_at hb]
 exact lim_same b o e
theorem lim_upd (h:H D=some (.lst ys)):lim H (upd H' D o)=lim H H':=by
 funext b
 by_cases e:b=D
 ·subst e;simp only [lim,h]
 ·unfold lim;rw [upd_ne e]
theorem same_wo (h:H D=none) (s:Same H H'):Same H (wo D H'):=fun b o e=>by
 rw [wo_at (ne_of_none e h)];exact s b o e
theorem ge_len {α:Type}{xs:List α}{i:Nat}{x:α} (h:xs[i]? = some x):i<xs.length:=by
 rcases Nat.lt_or_ge i xs.length with q | q
 ·exact q
 ·rw [List.getElem?_eq_none q] at h;cases h
theorem take_next {α β:Type}{xs:List α}{i:Nat}{x:α} (h:xs[i]? = some x) (f:α→β):(xs.take (i+1)).map f=(xs.take i).map f++[f x]:=by
 rw [List.take_add_one,h];simp
theorem snap_upd (h:H D=none) (s:Same H H'):Same H (upd H' D o):=fun b u e=>by
 rw [upd_ne (ne_of_none e h)];exact s b u e
end
theorem compY {i:Nat}{x:V}{σ:St}{H:Hp}{F G:St→Hp→Prop} (h:F (σ.set i (some x)) H):gName i x σ H fun σ2 H2=>tYes σ2 H2 fun b H3=>if b=true then F σ2 H3 else G σ2 H3:=by
 show (if true=true then F (σ.set i (some x)) H else G (σ.set i (some x)) H);rw [if_pos rfl];exact h
theorem small {n:Nat} (h:n<10000000):n<sizeLine:=by rw [sizeLine_eq];exact Nat.lt_of_lt_of_le h (by decide)
end L2
namespace L2
open PySem PySem.Spec PyProof.Rows PySem.Builtin PySem.Builtin.Str
theorem SqT.lim {K:PySem.W.Frag}{H H0 H':Hp}{a:Addr}{xs:List V} (s1:Same H H0) (s2:Same H H') (h:SqT K H a xs):SqT K (L2.lim H0 H') a xs:=by
 rcases h with (h | ⟨o,h⟩) | h
 ·exact .inl (.inl (by rw [lim_at fun zs e=>by rw [s1 _ _ h] at e;cases e];exact s2 _ _ h))
 ·exact .inl (.inr ⟨o,by rw [lim_at fun zs e=>by rw [s1 _ _ h] at e;cases e];exact s2 _ _ h⟩)
 ·exact .inr h
def rListOf (K:PySem.W.Frag):List V→Hp→VK→Prop:=fun xs H Q=>∃ p ys,xs=[.ref p]∧(SqL K H p ys∨SqT K H p ys)∧∀ l,H l=none→Q (.ref l) (upd H l (.lst ys))
theorem call_listO {X:Cx}:CallR X (.type "list") (rListOf X.K):=call_list_of
theorem bt_list:bootBuiltins "list" = some (.type "list"):=by decide +kernel
theorem bt_sorted:bootBuiltins "sorted" = some (.builtin "sorted"):=by decide +kernel
theorem depthAll_le {n:Nat}:∀ (l:List PyData),(∀ d∈l,d.depth≤n)→PyData.depthAll l≤n
 | [],_=>Nat.zero_le _
 | d::r,h=>by
  have h1:=h d (List.mem_cons_self ..)
  have h2:=depthAll_le r fun e he=>h e (List.mem_cons_of_mem _ he)
  unfold PyData.depthAll
  exact Nat.max_le.mpr ⟨h1,h2⟩
theorem ok_sign {z:Str}{i c:Nat} (hz:PyData.strOk z=true) (h:z.cps[i]? = some c):PyData.strOk ⟨#[c]⟩=true:=by
 unfold PyData.strOk at hz ⊢
 rw [Array.all_eq_true] at hz
 have hi:i<z.cps.size:=by
  rcases Nat.lt_or_ge i z.cps.size with q | q
  ·exact q
  ·rw [Array.getElem?_eq_none q] at h;cases h
 have h1:=hz i hi
 rw [Array.getElem?_eq_getElem hi] at h
 cases h
 simpa using h1
theorem ok_of_mem {z:Str} (h:∀ c∈z.cps,c<1114112):PyData.strOk z=true:=by
 unfold PyData.strOk
 rw [Array.all_eq_true]
 intro i hi
 simpa using h _ (Array.getElem_mem hi)
theorem mem_of_ok {z:Str} (h:PyData.strOk z=true):∀ c∈z.cps,c<1114112:=by
 unfold PyData.strOk at h
 intro c hc
 obtain ⟨i,hi,rfl⟩:=Array.mem_iff_getElem.mp hc
 rw [Array.all_eq_true] at h
 simpa using h i hi
theorem ok_slice {z:Str}{l u:Option Int} (hz:PyData.strOk z=true):PyData.strOk (Txt.slice z l u)=true∧(Txt.slice z l u).length≤z.length:=by
 unfold Txt.slice
 split
 ·exact ⟨hz,Nat.le_refl _⟩
 ·constructor
  ·refine ok_of_mem fun c hc=>?_
   simp only [List.mem_toArray,List.mem_filterMap] at hc
   obtain ⟨i,_,e⟩:=hc
   refine mem_of_ok hz c ?_
   exact Array.mem_of_getElem? e
  ·show (List.toArray _).size≤z.cps.size
   simp only [List.size_toArray]
   exact Nat.le_trans (List.length_filterMap_le _ _) (sliceIndices_le l u _)
theorem ok_strSub {z:Str}{a b:Nat} (hz:PyData.strOk z=true):PyData.strOk (strSub z a b)=true∧(strSub z a b).length≤z.length:=by
 unfold strSub
 constructor
 ·refine ok_of_mem fun c hc=>?_
  refine mem_of_ok hz c ?_
  obtain ⟨i,hi,rfl⟩:=Array.mem_iff_getElem.mp hc
  simp only [Array.getElem_extract]
  exact Array.getElem_mem _
 ·show (Array.extract _ _ _).size≤z.cps.size
  rw [Array.size_extract]
  lia
theorem ok_split {z y:Str} (hz:PyData.strOk z=true):∀ x∈Txt.split z y,PyData.strOk x=true∧x.length≤z.length:=by
 intro x hx
 have one:x∈[z]→PyData.strOk x=true∧x.length≤z.length:=fun h=>by
  simp only [List.mem_singleton] at h
  subst h
  exact ⟨hz,Nat.le_refl _⟩
 unfold Txt.split at hx
 split at hx
 ·exact one hx
 ·split at hx
  ·exact one hx
  ·unfold partsBetween at hx
   simp only [List.mem_map] at hx
   obtain ⟨p,_,rfl⟩:=hx
   exact ok_strSub hz
theorem split_len1 {z y:Str}:1≤(Txt.split z y).length∧(Txt.split z y).length≤z.length+2:=by
 have h1:=StrLaws.occ_length_le z y 0 z.length (z.length+1)
 unfold Txt.split
 split
 ·simp
 ·split
  ·simp
  ·rw [length_partsBetween]
   lia
theorem glue_ok {y:Str} (hy:PyData.strOk y=true):∀ (xs:List Str) (acc:Array Nat),(∀ x∈xs,PyData.strOk x=true)→(∀ c∈acc,c<1114112)→∀ c∈xs.foldl (fun acc p=>acc++y.cps++p.cps) acc,c<1114112
 | [],acc,_,h=>h
 | x::r,acc,hx,h=>by
  refine glue_ok hy r _ (fun z hz=>hx z (List.mem_cons_of_mem _ hz)) fun c hc=>?_
  rcases Array.mem_append.mp hc with hc | hc
  ·rcases Array.mem_append.mp hc with hc | hc
   ·exact h c hc
   ·exact mem_of_ok hy c hc
  ·exact mem_of_ok (hx x (List.mem_cons_self ..)) c hc
theorem glue_len {y:Str}{m:Nat}:∀ (xs:List Str) (acc:Array Nat),(∀ x∈xs,x.length≤m)→(xs.foldl (fun acc p=>acc++y.cps++p.cps) acc).size≤acc.size+xs.length * (m+y.length)
 | [],acc,_=>by simp
 | x::r,acc,hx=>by
  have h1:=glue_len (y:=y) r (acc++y.cps++x.cps) fun z hz=>hx z (List.mem_cons_of_mem _ hz)
  have h2:x.cps.size≤m:=hx x (List.mem_cons_self ..)
  have h3:(acc++y.cps++x.cps).size=acc.size+y.cps.size+x.cps.size:=by simp;lia
  have h4:y.length=y.cps.size:=rfl
  simp only [List.foldl_cons,List.length_cons,Nat.add_mul,Nat.one_mul] at h1 ⊢
  lia
theorem ok_join {y:Str}{m:Nat} (hy:PyData.strOk y=true) {xs:List Str} (h:∀ x∈xs,PyData.strOk x=true∧x.length≤m):PyData.strOk (Txt.join y xs)=true∧(Txt.join y xs).length≤xs.length * (m+y.length):=by
 cases xs with
 | nil=>exact ⟨by show PyData.strOk Str.empty=true;decide +kernel,Nat.zero_le _⟩
 | cons x r=>
  have hx:=h x (List.mem_cons_self ..)
  have hr:∀ z∈r,PyData.strOk z=true∧z.length≤m:=fun z hz=>h z (List.mem_cons_of_mem _ hz)
  refine ⟨ok_of_mem (glue_ok hy r x.cps (fun z hz=>(hr z hz).1) (mem_of_ok hx.1)),?_⟩
  have h1:=glue_len (y:=y) (m:=m) r x.cps fun z hz=>(hr z hz).2
  have h2:x.cps.size≤m:=hx.2
  show (List.foldl (fun (acc:Array Nat) (p:Str)=>acc++y.cps++p.cps) x.cps r).size≤(x::r).length * (m+y.length)
  simp only [List.length_cons,Nat.add_mul,Nat.one_mul] at h1 ⊢
  lia
theorem sum_le {m:Nat}:∀ {xs:List Str},(∀ x∈xs,x.length≤m)→(xs.map (·.length)).sum≤xs.length * m
 | [],_=>by simp
 | x::r,h=>by
  have h1:=sum_le fun z hz=>h z (List.mem_cons_of_mem x hz)
  have h2:=h x (List.mem_cons_self ..)
  simp only [List.map_cons,List.sum_cons,List.length_cons,Nat.add_mul,Nat.one_mul] at h1 ⊢
  lia
theorem join_fits {y:Str}{m:Nat}{xs:List Str} (h:∀ x∈xs,x.length≤m) (hb:xs.length * m+xs.length * y.length≤16777216):JoinOk y xs=true:=by
 have h1:=sum_le h
 exact joinOk_of (by lia)
section
variable {K:PySem.W.Frag}{tt:TT}{D:Addr}{Q:VK}{H:Hp}
theorem dens_strs {K:PySem.W.Frag}{H:Hp}:∀ {l:List Str},(∀ x∈l,PyData.strOk x=true)→Dens K H (l.map V.str) (l.map PyData.str)
 | [],_=>.nil
 | x::r,h=>.cons (.str (h x (List.mem_cons_self ..))) (dens_strs fun y hy=>h y (List.mem_cons_of_mem _ hy))
end
end L2
namespace L2
open PySem PySem.Spec PyProof.Rows
def Itz (K:PySem.W.Frag) (a b:Addr):It:=
 ⟨fun i H=>∃ xs ys x y,SqL K H a xs∧SqL K H b ys∧xs[i]? = some x∧ys[i]? = some y,
   fun i H x H'=>∃ p u v,H p=none∧(∀ xs,SqL K H a xs→xs[i]? = some u)∧(∀ ys,SqL K H b ys→ys[i]? = some v)∧x = .ref p∧H' = upd H p (.tup [u,v]),
   fun i H=>∃ xs ys,SqL K H a xs∧SqL K H b ys∧(xs.length≤i∨ys.length≤i)⟩
theorem turn_zip {P:Program}{w:World}{K:PySem.W.Frag}{elts:List Expr}{k:Nat}{pos:Pos} (a b z TI TO i1 i2:Addr) (D:ZipApart z TI TO i1 i2 a b) :
  Turn P w K (.Tuple elts k pos) (Itz K a b) [z,TI,TO,i1,i2] z (fun i h=>IsZip h z TI TO .none∧IsPair h TI (.ref i1) (.ref i2)∧(∃ u v,IsPair h TO u v)∧h.IsListIter i1 a i∧h.IsListIter i2 b i) where
 mem:=by simp
 obj:=fun i h st c hc=>by
  obtain ⟨hz,hTI,⟨u,v,hTO⟩,⟨o1,e1,_,g1⟩,⟨o2,e2,_,g2⟩⟩:=st
  simp only [List.mem_cons,List.not_mem_nil,or_false] at hc
  rcases hc with rfl | rfl | rfl | rfl | rfl
  ·exact ⟨_,hz,fun v q=>by cases q⟩
  ·exact ⟨_,hTI,fun v q=>by cases q⟩
  ·exact ⟨_,hTO,fun v q=>by cases q⟩
  ·exact ⟨o1,e1,fun v q=>by rw [g1] at q;cases q⟩
  ·exact ⟨o2,e2,fun v q=>by rw [g2] at q;cases q⟩
 keep:=fun i h h' st kk=>by
  obtain ⟨hz,hTI,⟨u,v,hTO⟩,h1,h2⟩:=st
  exact ⟨kk z (by simp) _ hz,kk TI (by simp) _ hTI,⟨u,v,kk TO (by simp) _ hTO⟩,h1.at fun o e=>kk i1 (by simp) o e,h2.at fun o e=>kk i2 (by simp) o e⟩
 item:=by
  intro X hP hw hK hc i pins s σ H E I hf st hg
  subst hP hw hK
  obtain ⟨xs,ys,x,y,hq,hq',hx,hy⟩:=hg
  obtain ⟨its,rv,p,_⟩:=I.list hq
  obtain ⟨jts,rv',p',_⟩:=I.list hq'
  obtain ⟨u,hu,ru⟩:=rv.get hx
  obtain ⟨v,hv,rv2⟩:=rv'.get hy
  obtain ⟨hz,hTI,⟨u0,v0,hTO⟩,h1,h2⟩:=st
  have ltn:∀ {b:Addr}{o:Obj},s.heap.get? b=some o→b<s.heap.objs.size:=fun e=>Heap.lt_size e
  have hlz:=ltn hz
  have hlTI:=ltn hTI
  have hlTO:=ltn hTO
  have hl1:i1<s.heap.objs.size:=by obtain ⟨_,e,_⟩:=h1;exact ltn e
  have hl2:i2<s.heap.objs.size:=by obtain ⟨_,e,_⟩:=h2;exact ltn e
  refine wpAny_pyNext_zip_item D hz hTI hTO h1 h2 p.isList p'.isList (x:=u) (y:=v) (by simpa using hu) (by simpa using hv) fun h' a1 a2 a3 a4 a5 a6 kk=>?_
  refine ⟨_,rfl,?_⟩
  refine wpAny_letOwnedTupleGo_zip a1 fun g hz' sb=>?_
  have hfr:H s.heap.objs.size=none:=I.hok.fresh (Nat.le_refl _)
  have new:g.get? s.heap.objs.size=some { cls:=.type "tuple",data:=.seq #[u,v] }:=(sb.2 _ (Nat.ne_of_gt hlz)).trans a5
  have I2:Inv X pins σ (upd H s.heap.objs.size (.tup [x,y])) { s with heap:=g }:=I.turnedLay (t':=s.toks) (wr:=[z,TI,TO,i1,i2]) hf (fun c o hcm ec=>by
    have n1:c≠z:=fun q=>hcm (by simp [q])
    have n2:c≠TO:=fun q=>hcm (by simp [q])
    have n3:c≠i1:=fun q=>hcm (by simp [q])
    have n4:c≠i2:=fun q=>hcm (by simp [q])
    exact (sb.2 c n1).trans (kk c o n1 n2 n3 n4 ec)) (Nat.le_refl _) ⟨by show 2≤sizeLine;decide,[u,v],.cons ru (.cons rv2 .nil),⟨_,new,rfl,_,rfl⟩⟩
  refine ⟨.ref s.heap.objs.size,_,I2,rfl,⟨_,x,y,hfr,fun zs hzs=>by rw [I.list_inj hzs hq];exact hx,fun zs hzs=>by rw [I.list_inj hzs hq'];exact hy,rfl,rfl⟩,⟨hz',?_,⟨u,v,?_⟩,?_,?_⟩,fun c hcm=>?_⟩
  ·exact (sb.2 _ D.TIz).trans (kk _ _ D.TIz D.TITO D.TIi1 D.TIi2 hTI)
  ·exact (sb.2 _ D.TOz).trans a2
  ·exact a3.at fun o e=>(sb.2 _ D.i1z).trans e
  ·exact a4.at fun o e=>(sb.2 _ D.i2z).trans e
  ·have hb':c≠s.heap.objs.size:=by
    simp only [List.mem_cons,List.not_mem_nil,or_false] at hcm
    rcases hcm with rfl | rfl | rfl | rfl | rfl <;> exact Nat.ne_of_lt (by assumption)
   rw [upd_ne hb'];exact (hf c hcm).1
 done:=by
  intro X hP hw hK hc i pins s σ H E I hf st hg
  subst hP hw hK
  obtain ⟨xs,ys,hq,hq',hx⟩:=hg
  obtain ⟨its,rv,p,_⟩:=I.list hq
  obtain ⟨jts,rv',p',_⟩:=I.list hq'
  have hl:=rv.length
  have hl':=rv'.length
  obtain ⟨hz,hTI,⟨u0,v0,hTO⟩,h1,h2⟩:=st
  refine wpAny_pyNext_zip_end (I.ok.hd hc) D hz hTI hTO h1 h2 p.isList p'.isList ?_ fun h' kk=>⟨rfl,I.turnedL (t':=s.toks) (wr:=[z,TI,TO,i1,i2]) hf fun c o hcm e=>kk c o (fun q=>hcm (by simp [q])) (fun q=>hcm (by simp [q])) (fun q=>hcm (by simp [q])) (fun q=>hcm (by simp [q])) e⟩
  rcases hx with hx | hx
  ·exact .inl (by simp;lia)
  ·exact .inr (by simp;lia)
 self:=fun _ _ _ _ _ st h=>wpAny_pyIter_zip st.1 h
section
variable {X:Cx}
def iZip (K:PySem.W.Frag) (ta:TA):TI:=fun σ H R=>ta σ H fun vs H1=>∃ a b,vs=[.ref a,.ref b]∧(∃ xs,SqL K H1 a xs)∧(∃ ys,SqL K H1 b ys)∧R (Itz K a b) H1
theorem pi_zip {elts:List Expr}{k:Nat}{tpos:Pos}{a b:Expr}{ta:TA}{p pos:Pos} (hg:Gl X "zip") (hm:X.mg "zip" = none) (ha:PA X [a,b] ta) (hs:starEach [a,b] X.env=(false,eval a X.env)::starEach [b] X.env:=by rfl) (hpl:(backTo pos (starEach [b] X.env)).any (·.1)=false:=by rfl):PI X (.Tuple elts k tpos) (.Call (.Name "zip" p) [a,b] [] pos) (iZip X.K ta):=by
 intro pins s σ H R I h
 refine Call_ (ld_blt I hg hm boot_zip (PyProof.Rows.callWith_type1 (thn (ha pos pins s σ H _ I h) fun us s1 ⟨vs,H1,I1,r1,q1⟩=>?_) hs hpl))
 obtain ⟨a,b,e,⟨xs,hq⟩,⟨ys,hq'⟩,q⟩:=q1
 subst e
 obtain ⟨u1,u2,rfl,r1,r2⟩:=vals2 r1
 cases r1
 cases r2
 obtain ⟨its,rv,pl,_⟩:=I1.list hq
 obtain ⟨jts,rv',pl',_⟩:=I1.list hq'
 have la : @LT.lt Nat _ a s1.heap.objs.size:=by obtain ⟨_,e,_⟩:=pl.isList;exact Heap.lt_size e
 have lb : @LT.lt Nat _ b s1.heap.objs.size:=by obtain ⟨_,e,_⟩:=pl'.isList;exact Heap.lt_size e
 refine call_zip_2 pl.isList pl'.isList fun h' hz hTI hTO h1 h2 hsz hk=>wpAny_pyIter_zip hz ?_
 have D:ZipApart (s1.heap.objs.size+4) (s1.heap.objs.size+2) (s1.heap.objs.size+3) s1.heap.objs.size (s1.heap.objs.size+1) a b:=by constructor <;> (show ((_:Nat)≠_)) <;> lia
 refine ⟨s1.heap.objs.size+4,[s1.heap.objs.size+4,s1.heap.objs.size+2,s1.heap.objs.size+3,s1.heap.objs.size,s1.heap.objs.size+1],_,_,H1,rfl,I1.kept (t':=s1.toks) hk,turn_zip a b _ _ _ _ _ D,⟨hz,hTI,⟨_,_,hTO⟩,h1,h2⟩,fun c hc=>?_,q⟩
 have hb':s1.heap.objs.size≤c:=by
  simp only [List.mem_cons,List.not_mem_nil,or_false] at hc
  rcases hc with rfl | rfl | rfl | rfl | rfl <;> first | exact Nat.le_refl _ | exact Nat.le_add_right _ _
 exact I1.fpOk hb' (I1.hok.fresh hb')
end
end L2
namespace L2
open PySem PySem.Spec PyProof.Rows
section
variable {K:PySem.W.Frag}{g:TG}{tt:TT}{te:TE}{D:Addr}{Q:VK}{σ:St}{H:Hp}
theorem comp_zip {a b:Addr}{xs ys:List V} (Pv:Nat→List V→St→Hp→Prop) (hD:H D=some (.lst [])) (h0:Pv 0 [] σ H) (hl:∀ i acc σ H,H D=some (.lst acc)→Pv i acc σ H→SqL K H a xs∧SqL K H b ys)
  (hs:∀ i x y acc σ H p,xs[i]? = some x→ys[i]? = some y→H D=some (.lst acc)→Pv i acc σ H→H p=none→g (.ref p) σ (upd H p (.tup [x,y])) fun σ2 H2=>tt σ2 H2 fun b H3=>if b=true then te σ2 H3 fun v H4=>∃ ys,H4 D=some (.lst ys)∧ys.length<sizeLine∧CN D (Pv (i+1)) σ2 (upd H4 D (.lst (ys++[v]))) else CN D (Pv (i+1)) σ2 H3)
  (hd:∀ acc σ H,H D=some (.lst acc)→Pv (min xs.length ys.length) acc σ H→Q (.ref D) H):CompW g tt te (Itz K a b) D Q σ H:=by
 refine comp_gen (min xs.length ys.length) Pv hD h0 (fun i acc σ H hi hacc p=>?_) (fun acc σ H hacc p=>?_) (fun i acc σ H x H' hi hacc p y=>?_) hd
 ·obtain ⟨h1,h2⟩:=hl i acc σ H hacc p
  have h3:i<xs.length:=by lia
  have h4:i<ys.length:=by lia
  exact ⟨xs,ys,xs[i],ys[i],h1,h2,by simp [h3],by simp [h4]⟩
 ·obtain ⟨h1,h2⟩:=hl _ acc σ H hacc p
  exact ⟨xs,ys,h1,h2,by lia⟩
 ·obtain ⟨q,u,v,hq,hu,hv,e,e'⟩:=y
  subst e e'
  obtain ⟨h1,h2⟩:=hl i acc σ H hacc p
  exact hs i u v acc σ _ q (hu xs h1) (hv ys h2) hacc p hq
end
section
variable {X:Cx}
def rStripC:V→List V→Hp→VK→Prop:=fun x vs H Q=>∃ z y,x = .str z∧vs=[.str y]∧z.length≤sizeLine∧Q (.str (Txt.stripChars z y)) H
theorem mt_stripC:MtR X "str.strip" rStripC:=by
 intro pins s σ H x vs v us Q I rx rv h
 obtain ⟨z,y,rfl,rfl,hz,q⟩:=h
 obtain ⟨t,rfl⟩:=rx
 obtain ⟨u,rfl,t',rfl⟩:=rv.one
 exact SC.stripChars (fun t' k=>⟨.str _,H,I.tok _,⟨_,rfl⟩,q⟩) hz
def rRmPre:V→List V→Hp→VK→Prop:=fun x vs H Q=>∃ z y,x = .str z∧vs=[.str y]∧z.length≤sizeLine∧Q (.str (Txt.removeprefix z y)) H
theorem mt_rmpre:MtR X "str.removeprefix" rRmPre:=by
 intro pins s σ H x vs v us Q I rx rv h
 obtain ⟨z,y,rfl,rfl,hz,q⟩:=h
 obtain ⟨t,rfl⟩:=rx
 obtain ⟨u,rfl,t',rfl⟩:=rv.one
 exact SC.removeprefix (fun t' k=>⟨.str _,H,I.tok _,⟨_,rfl⟩,q⟩) hz
theorem vals_bools:∀ {bs:List Bool}{us:List Value},Vals (bs.map V.bl) us→us=bs.map Value.bool
 | [],_,h=>by cases h;rfl
 | b::r,_,h=>by
  cases h with
  | cons h1 t=>
   obtain rfl:=h1
   rw [vals_bools t]
   rfl
theorem range_all (bs:List Bool):(List.range bs.length).all (fun i=>bs.getD i true)=bs.all id:=by
 (rw [Bool.eq_iff_iff,List.all_eq_true,List.all_eq_true])
 constructor
 ·intro h x hx
  obtain ⟨i,hi,rfl⟩:=List.mem_iff_getElem.mp hx
  (have:=h i (List.mem_range.mpr hi))
  simpa [List.getD,List.getElem?_eq_getElem hi] using this
 ·intro h i hi
  (have hi':=List.mem_range.mp hi)
  have:=h bs[i] (List.getElem_mem hi')
  simpa [List.getD,List.getElem?_eq_getElem hi'] using this
theorem range_any (bs:List Bool):(List.range bs.length).any (fun i=>bs.getD i true)=bs.any id:=by
 (rw [Bool.eq_iff_iff,List.any_eq_true,List.any_eq_true])
 constructor
 ·rintro ⟨i,hi,h⟩
  (have hi':=List.mem_range.mp hi)
  refine ⟨bs[i],List.getElem_mem hi',?_⟩
  simpa [List.getD,List.getElem?_eq_getElem hi'] using h
 ·rintro ⟨x,hx,h⟩
  obtain ⟨i,hi,rfl⟩:=List.mem_iff_getElem.mp hx
  exact ⟨i,List.mem_range.mpr hi,by simpa [List.getD,List.getElem?_eq_getElem hi] using h⟩
def rAll (K:PySem.W.Frag):List V→Hp→VK→Prop:=fun xs H Q=>∃ (p:Addr) (bs:List Bool),xs=[.ref p]∧SqL K H p (bs.map V.bl)∧Q (.bl (bs.all id)) H
def rAny (K:PySem.W.Frag):List V→Hp→VK→Prop:=fun xs H Q=>∃ (p:Addr) (bs:List Bool),xs=[.ref p]∧SqL K H p (bs.map V.bl)∧Q (.bl (bs.any id)) H
theorem truth_bools {P:Program}{w:World}{A:Around} (bs:List Bool):TruthOf P w A (fun i v=>(bs.map Value.bool).toArray[i]? = some v) (fun i=>bs.getD i true):=by
 intro i v s Q E hv hq
 have hv':(bs.map Value.bool)[i]? = some v:=by simpa using hv
 rw [List.getElem?_map] at hv'
 cases e:bs[i]? with
 | none=>rw [e] at hv';cases hv'
 | some b=>
  rw [e] at hv'
  cases hv'
  refine wpAny_truthy_bool ?_
  have:bs.getD i true=b:=by simp [List.getD,e]
  have hq':Q (bs.getD i true) s:=hq
  rwa [this] at hq'
theorem call_all (hc:X.calm=true):CallR X (.builtin "all") (rAll X.K):=by
 intro pins s σ H xs us Q I r h
 obtain ⟨p,bs,rfl,hq,q⟩:=h
 obtain ⟨u,rfl,rx⟩:=vals1 r
 cases rx
 obtain ⟨its,r',pl,hz⟩:=I.list hq
 have e:=vals_bools r'
 subst e
 have hp:p≠s.heap.objs.size:=by obtain ⟨_,e,_⟩:=pl.isList;exact Nat.ne_of_lt (Heap.lt_size e)
 refine call_all_walk (wpAny_pyIter_list pl.isList ?_)
 refine ⟨s.heap.objs.size,_,_,_,_,_,_,rfl,Walks.list (A:=X.A.in1) (show X.A.in1.handled=none from I.ok.hd hc) s.heap.objs.size p hp (bs.map Value.bool).toArray,⟨⟨_,Heap.get?_push_size _ rfl,rfl,rfl⟩,pl.isList.push _⟩,truth_bools bs,fun h' tk hk=>?_⟩
 have hs:(bs.map Value.bool).toArray.size=bs.length:=by simp
 rw [hs,range_all]
 refine ⟨.bl _,H,I.kept (t':=tk) fun b o e=>hk b o (fun hb=>?_) (Heap.get?_push_of_some _ e),rfl,q⟩
 simp only [List.mem_singleton] at hb
 exact absurd (Heap.lt_size e) (by rw [hb];exact Nat.lt_irrefl _)
theorem call_any (hc:X.calm=true):CallR X (.builtin "any") (rAny X.K):=by
 intro pins s σ H xs us Q I r h
 obtain ⟨p,bs,rfl,hq,q⟩:=h
 obtain ⟨u,rfl,rx⟩:=vals1 r
 cases rx
 obtain ⟨its,r',pl,hz⟩:=I.list hq
 have e:=vals_bools r'
 subst e
 have hp:p≠s.heap.objs.size:=by obtain ⟨_,e,_⟩:=pl.isList;exact Nat.ne_of_lt (Heap.lt_size e)
 refine call_any_walk (wpAny_pyIter_list pl.isList ?_)
 refine ⟨s.heap.objs.size,_,_,_,_,_,_,rfl,Walks.list (A:=X.A.in1) (show X.A.in1.handled=none from I.ok.hd hc) s.heap.objs.size p hp (bs.map Value.bool).toArray,⟨⟨_,Heap.get?_push_size _ rfl,rfl,rfl⟩,pl.isList.push _⟩,truth_bools bs,fun h' tk hk=>?_⟩
 have hs:(bs.map Value.bool).toArray.size=bs.length:=by simp
 rw [hs,range_any]
 refine ⟨.bl _,H,I.kept (t':=tk) fun b o e=>hk b o (fun hb=>?_) (Heap.get?_push_of_some _ e),rfl,q⟩
 simp only [List.mem_singleton] at hb
 exact absurd (Heap.lt_size e) (by rw [hb];exact Nat.lt_irrefl _)
theorem bt_all:bootBuiltins "all" = some (.builtin "all"):=by decide +kernel
theorem bt_any:bootBuiltins "any" = some (.builtin "any"):=by decide +kernel
end
end L2
namespace L2
open PySem PySem.Spec PyProof.Rows PySem.W
def tMinK (K:PySem.W.Frag) (sp:Sp) (l:Addr) (xs:List V):List V→V→V→Hp→VK→Prop
 | [],b,_,H,Q=>SqL K H l xs∧Q b H
 | x::r,b,kb,H,Q=>SqL K H l xs∧sp [x] H (fun k H'=>∃ d e,Den K H' k d∧Den K H' kb e∧cmpb d e=true∧d.depth≤100∧if ltv d e=true then tMinK K sp l xs r x k H' Q else tMinK K sp l xs r b kb H' Q) E0
section
variable {X:Cx}{pins:List (Addr×Obj)}{σ:St}{H:Hp}{s:Shared}
theorem mink_args (a v d:Value):argsOk "min" ⟨[a],[(Str.ofString "key",v),(Str.ofString "default",d)]⟩:=by unfold argsOk;kernel_rfl
def KeyOk (X:Cx) (pins:List (Addr×Obj)) (σ:St) (f:Addr) (sp:Sp):Prop:=∀ (more:List (Addr×Obj)) (H:Hp) (s:Shared) (x:V) (u:Value) (Q:VK),Inv X (pins++more) σ H s→RelV x u→sp [x] H Q E0 →
 codeAny (model X.prog X.w) X.A.in1 (.call (.ref f) ⟨[u],[]⟩) (CR CX0 X.stack X.prog X.w H s Q E0) s
theorem keyOk_fn {k:Nat}{f:Addr}{fd:FuncData}{ps:List Str}{sp:Sp} (F:FnOk X.prog X.w X.K X.mg X.base CX0 k f fd ps sp) (hr:Room (k+1) X.A) (hb:Binds X.K fd ps []):KeyOk X pins σ f sp:=fun more H s x u Q I rx h=>by
 have hlp:[u].length=ps.length:=F.len _ _ _ _ h
 exact F.run X.A.in1 X.stack s H ⟨[u],[]⟩ [u] [x] _ E0 hr.in1 I.env0.in1 (by have:=hb s [u] I.kIn (by simpa using hlp);simpa using this) (.cons rx .nil) h
theorem mink_call {f I S:Addr}{sp:Sp}{oI oS:Obj}{x:V}{u:Value}{Q:VK} (C:KeyOk X pins σ f sp)
  (hI:∀ v,oI.data ≠ .cell v) (hS:∀ v,oS.data ≠ .cell v) (Iv:Inv X pins σ H s) (fI:FpOk X pins H I) (fS:FpOk X pins H S) (gI:s.heap.get? I=some oI) (gS:s.heap.get? S=some oS) (rx:RelV x u) (h:sp [x] H Q E0)
  {R:Value→Shared→Prop}{E:Value→Shared→Prop} (done:∀ v kv H1 s1,Inv X pins σ H1 s1→FpOk X pins H1 I→FpOk X pins H1 S→s1.heap.get? I=some oI→s1.heap.get? S=some oS→RelV v kv→Q v H1→R kv s1) :
  wpAny (model X.prog X.w) X.A.in1 (call (.ref f) [u]) R E s:=by
 have Ip:Inv X (pins++[(I,oI),(S,oS)]) σ H s:=Iv.pins_of fun p hp=>by
  rcases List.mem_append.mp hp with q | q
  ·exact Iv.pin p (List.mem_append_right _ q)
  ·rcases List.mem_cons.mp q with q | q
   ·subst q;exact ⟨gI,fI.1,fI.2.1,fI.2.2.1,hI⟩
   ·have q':p=(S,oS):=by simpa using q
    subst q';exact ⟨gS,fS.1,fS.2.1,fS.2.2.1,hS⟩
 have run:=C [(I,oI),(S,oS)] H s x u _ Ip rx h
 refine wpAny_call (codeAny_mono run fun r s1 hq=>?_)
 cases r with
 | error er=>exact hq.elim
 | ok fl=>
  cases fl with
  | ret kv=>
   obtain ⟨v,H1,I1,r1,q1⟩:=Ip.after hq
   have pI:=I1.pin (I,oI) (by simp)
   have pS:=I1.pin (S,oS) (by simp)
   exact done v kv H1 s1 I1.unpinned ⟨pI.2.1,fI.2⟩ ⟨pS.2.1,fS.2⟩ pI.1 pS.1 r1 q1
  | next=>exact False.elim hq
  | brk=>exact False.elim hq
  | cont=>exact False.elim hq
theorem mink_loop {k:Nat}{f I S l:Addr}{sp:Sp}{xs:List V}{kw:List (Str×Value)}{Q:VK}{R:Result→Shared→Prop} (C:KeyOk X pins σ f sp) (hr:Room (k+1) X.A) (hc:X.calm=true)
  (hlI:l≠I) (hSI:S≠I) (hR:∀ v u H' s',Inv X pins σ H' s'→RelV v u→Q v H'→R (.ok (.ret u)) s') :
  ∀ (r:List V) (j:Nat) (b kb:V) (H:Hp) (s:Shared) (ub uk:Value) (c:Nat),r=xs.drop j→j≤xs.length→Inv X pins σ H s→FpOk X pins H I→FpOk X pins H S→s.heap.get? S=some (seqObj "list" #[ub,uk] c)→s.heap.IsListIter I l j→RelV b ub→RelV kb uk→tMinK X.K sp l xs r b kb H Q →
   codeAny (model X.prog X.w) X.A (.builtin "min.loop" ⟨[.ref I,.ref f,.ref S],kw⟩) R s:=by
 (have hname:(toString "min" ++ toString ".loop" : String) = "min.loop" :=by decide)
 intro r
 induction r with
 | nil=>
  intro j b kb H s ub uk c hr' hj Iv fI fS gS hit rb rk h
  obtain ⟨hq,q⟩:=h
  obtain ⟨its,rv,pl,_⟩:=Iv.list hq
  have hlen:=rv.length
  have hjl:xs.length≤j:=List.drop_eq_nil_iff.mp hr'.symm
  have W:=Walks.list (prog:=X.prog) (w:=X.w) (A:=X.A.in1) (show X.A.in1.handled=none from Iv.ok.hd hc) I l hlI its.toArray
  (refine codeAny_builtin PySem.F.entry_min_loop ?_)
  (rw [Around.under_plainId PySem.F.plain_min_loop _])
  show wpAny _ X.A.in1 (seqItems? (.ref S) >>= _) _ _ _
  (refine wpAny_bind (wpAny_seqItems gS rfl ?_))
  show wpAny _ X.A.in1 (tryCatch (pyNext (.ref I)) _ >>= _) _ _ _
  refine wpAny_bind (wpAny_tryCatch (W.done _ _ _ ⟨by rw [List.size_toArray,show its.length=j by lia];exact hit,pl.isList⟩ fun h' tk' hk'=>?_))
  have gS':=hk' S _ (by simpa using hSI) gS
  have sb:=Heap.SameBut.update h' S (Obj.mapSeq fun _=>(#[]:Array Value))
  show wpAny _ X.A.in1 (updateSeq S (fun _=>#[]) >>= _) _ _ _
  refine wpAny_bind ?_
  refine wpAny_updateSeq gS' rfl (wpAny_bind (wpAny_letGo (wpAny_pure ?_)))
  have I1:Inv X pins σ H { s with heap:=h',toks:=tk' }:=Iv.turnedL (wr:=[I]) (fun c hc=>by rw [show c=I by simpa using hc];exact fI) fun c o hc e=>hk' c o hc e
  exact hR b ub H _ (I1.turnedL (t':=tk') (wr:=[S]) (fun c hc=>by rw [show c=S by simpa using hc];exact fS) fun c o hc e=>(sb.2 c (by simpa using hc)).trans e) rb q
 | cons x r ih=>
  intro j b kb H s ub uk c hr' hj Iv fI fS gS hit rb rk h
  obtain ⟨hq,q⟩:=h
  obtain ⟨its,rv,pl,_⟩:=Iv.list hq
  have hlen:=rv.length
  have hjl:j<xs.length:=by
   rcases Nat.lt_or_ge j xs.length with z | z
   ·exact z
   ·rw [List.drop_of_length_le z] at hr';cases hr'
  have hxj:xs[j]? = some x:=by
   rw [List.drop_eq_getElem_cons hjl] at hr'
   injection hr' with e1 e2
   rw [List.getElem?_eq_getElem hjl,← e1]
  have hrj:r=xs.drop (j+1):=by
   rw [List.drop_eq_getElem_cons hjl] at hr'
   injection hr' with e1 e2
  have W:=Walks.list (prog:=X.prog) (w:=X.w) (A:=X.A.in1) (show X.A.in1.handled=none from Iv.ok.hd hc) I l hlI its.toArray
  (refine codeAny_builtin PySem.F.entry_min_loop ?_)
  (rw [Around.under_plainId PySem.F.plain_min_loop _])
  show wpAny _ X.A.in1 (seqItems? (.ref S) >>= _) _ _ _
  (refine wpAny_bind (wpAny_seqItems gS rfl ?_))
  show wpAny _ X.A.in1 (tryCatch (pyNext (.ref I)) _ >>= _) _ _ _
  refine wpAny_bind (wpAny_tryCatch (W.item j _ _ _ (by rw [List.size_toArray];lia) ⟨hit,pl.isList⟩ fun v h' tk' hP hst' hk'=>?_))
  obtain ⟨u,hu,ru⟩:=rv.get hxj
  have hv:v=u:=by
   have:its[j]? = some v:=by simpa using hP
   rw [hu] at this
   cases this
   rfl
  subst hv
  have gS':=hk' S _ (by simpa using hSI) gS
  have I1:Inv X pins σ H { s with heap:=h',toks:=tk' }:=Iv.turnedL (wr:=[I]) (fun c hc=>by rw [show c=I by simpa using hc];exact fI) fun c o hc e=>hk' c o hc e
  obtain ⟨oI,eI,cI,dI⟩:=hst'.1
  show wpAny _ X.A.in1 (tryCatch (holding [v] (call (.ref f) [v])) _ >>= _) _ _ _
  refine wpAny_bind (wpAny_tryCatch (wpAny_holding (mink_call C (oI:=oI) (oS:=seqObj "list" #[ub,uk] c) (fun z q=>by rw [dI] at q;cases q) (fun z q=>by cases q) I1 fI fS eI gS' ru q fun kv uv H2 s2 I2 fI2 fS2 gI2 gS2 rkv q2=>?_)))
  obtain ⟨d,e,dk,de,hcmp,hdep,q3⟩:=q2
  obtain ⟨as1,rd1⟩:=I2.reads dk rkv
  obtain ⟨as2,rd2⟩:=I2.reads de rk
  have hit2:s2.heap.IsListIter I l (j+1):=⟨oI,gI2,cI,dI⟩
  have hu2:X.A.in1.units+d.depth<cLine:=by show X.A.units+1+d.depth<cLine;have:=hr.un;lia
  show wpAny _ X.A.in1 (tryCatch (holding [v,uv] (richCompare .Lt uv uk >>= _)) _ >>= _) _ _ _
  refine wpAny_bind (wpAny_tryCatch (wpAny_holding (wpAny_bind (ltAt_reads 100 d e hdep hcmp X.A.in1 s2 uv uk as1 as2 rd1 rd2 dk.lay de.lay hu2 _ _ _ _ ?_))))
  (refine wpAny_bind (wpAny_holding (wpAny_truthy_bool ?_)))
  (refine wpAny_bind (wpAny_letGo (wpAny_pure ?_)))
  cases hb':ltv d e with
  | true=>
   rw [hb',if_pos rfl] at q3
   have sb:=Heap.SameBut.update s2.heap S (Obj.mapSeq fun _=>#[v,uv])
   obtain ⟨c2,hc2⟩:∃ c2,(s2.heap.update S (Obj.mapSeq fun _=>#[v,uv])).get? S=some (seqObj "list" #[v,uv] c2):=⟨_,get?_update_seq gS2 fun _=>#[v,uv]⟩
   simp only [if_true]
   refine wpAny_bind ?_
   refine wpAny_updateSeq gS2 rfl (wpAny_bind (wpAny_letGo ?_))
   rw [hname]
   have I3:Inv X pins σ H2 { s2 with heap:=s2.heap.update S (Obj.mapSeq fun _=>#[v,uv]) }:=I2.turnedL (t':=s2.toks) (wr:=[S]) (fun c hc=>by rw [show c=S by simpa using hc];exact fS2) fun c o hc e=>(sb.2 c (by simpa using hc)).trans e
   exact wpAny_pure ⟨plainId_quiet PySem.F.plain_min_loop _,ih (j+1) x kv H2 _ v uv c2 hrj hjl I3 fI2 fS2 hc2 ⟨oI,(sb.2 I hSI.symm).trans gI2,cI,dI⟩ ru rkv q3⟩
  | false=>
   rw [hb',if_neg (by decide)] at q3
   (simp only [Bool.false_eq_true,if_false])
   refine wpAny_bind (wpAny_letGo ?_)
   rw [hname]
   exact wpAny_pure ⟨plainId_quiet PySem.F.plain_min_loop _,ih (j+1) b kb H2 _ ub uk c hrj hjl I2 fI2 fS2 gS2 hit2 rb rk q3⟩
def rMinK (K:PySem.W.Frag) (sp:Sp):V→Hp→VK→Prop:=fun x H Q=>∃ l xs,x = .ref l∧SqL K H l xs∧match xs with
 | []=>Q .non H
 | y::r=>sp [y] H (fun k H'=>tMinK K sp l xs r y k H' Q) E0
theorem min_first {k:Nat}{f Ia Sa l:Addr}{sp:Sp}{y:V}{r:List V}{kw:List (Str×Value)}{Q:VK}{R:Result→Shared→Prop} (C:KeyOk X pins σ f sp) (hr:Room (k+1) X.A) (hc:X.calm=true)
  (hlI:l≠Ia) (hSI:Sa≠Ia) (hR:∀ v u H' s',Inv X pins σ H' s'→RelV v u→Q v H'→R (.ok (.ret u)) s') (I0:Inv X pins σ H s) (fI:FpOk X pins H Ia) (fS:FpOk X pins H Sa) (gS:s.heap.get? Sa=some (seqObj "list" #[] 0)) (gI:s.heap.IsListIter Ia l 0) (hq:SqL X.K H l (y::r)) (q:sp [y] H (fun k H'=>tMinK X.K sp l (y::r) r y k H' Q) E0) :
  codeAny (model X.prog X.w) X.A (.builtin "min.loop" ⟨[.ref Ia,.ref f,.ref Sa],kw⟩) R s:=by
 (have hname:(toString "min" ++ toString ".loop" : String) = "min.loop" :=by decide)
 obtain ⟨its,rv,pl,_⟩:=I0.list hq
 have hlen:=rv.length
 have W:=Walks.list (prog:=X.prog) (w:=X.w) (A:=X.A.in1) (show X.A.in1.handled=none from I0.ok.hd hc) Ia l hlI its.toArray
 (refine codeAny_builtin PySem.F.entry_min_loop ?_)
 (rw [Around.under_plainId PySem.F.plain_min_loop _])
 show wpAny _ X.A.in1 (seqItems? (.ref Sa) >>= _) _ _ _
 (refine wpAny_bind (wpAny_seqItems gS rfl ?_))
 show wpAny _ X.A.in1 (tryCatch (pyNext (.ref Ia)) _ >>= _) _ _ _
 refine wpAny_bind (wpAny_tryCatch (W.item 0 _ _ _ (by rw [List.size_toArray,← hlen];exact Nat.succ_pos _) ⟨gI,pl.isList⟩ fun v h' tk' hP hst' hk'=>?_))
 obtain ⟨u,hu,ru⟩:=rv.get (i:=0) rfl
 have hv:v=u:=by
  have:its[0]? = some v:=by simpa using hP
  rw [hu] at this
  cases this
  rfl
 subst hv
 have gS':=hk' Sa _ (by simpa using hSI) gS
 have I1:Inv X pins σ H { s with heap:=h',toks:=tk' }:=I0.turnedL (wr:=[Ia]) (fun c hc=>by rw [show c=Ia by simpa using hc];exact fI) fun c o hc e=>hk' c o hc e
 obtain ⟨oI,eI,cI,dI⟩:=hst'.1
 show wpAny _ X.A.in1 (tryCatch (holding [v] (call (.ref f) [v])) _ >>= _) _ _ _
 refine wpAny_bind (wpAny_tryCatch (wpAny_holding (mink_call C (oI:=oI) (oS:=seqObj "list" #[] 0) (fun z q=>by rw [dI] at q;cases q) (fun z q=>by cases q) I1 fI fS eI gS' ru q fun kv uv H2 s2 I2 fI2 fS2 gI2 gS2 rkv q2=>?_)))
 have sb:=Heap.SameBut.update s2.heap Sa (Obj.mapSeq fun _=>#[v,uv])
 obtain ⟨c2,hc2⟩:∃ c2,(s2.heap.update Sa (Obj.mapSeq fun _=>#[v,uv])).get? Sa=some (seqObj "list" #[v,uv] c2):=⟨_,get?_update_seq gS2 fun _=>#[v,uv]⟩
 show wpAny _ X.A.in1 (updateSeq Sa (fun _=>#[v,uv]) >>= _) _ _ _
 refine wpAny_bind ?_
 refine wpAny_updateSeq gS2 rfl ?_
 rw [hname]
 have I3:Inv X pins σ H2 { s2 with heap:=s2.heap.update Sa (Obj.mapSeq fun _=>#[v,uv]) }:=I2.turnedL (t':=s2.toks) (wr:=[Sa]) (fun c hc=>by rw [show c=Sa by simpa using hc];exact fS2) fun c o hc e=>(sb.2 c (by simpa using hc)).trans e
 exact wpAny_pure ⟨plainId_quiet PySem.F.plain_min_loop _,mink_loop (Q:=Q) C hr hc hlI hSI hR r 1 y kv H2 _ v uv c2 rfl (by simp) I3 fI2 fS2 hc2 ⟨oI,(sb.2 Ia hSI.symm).trans gI2,cI,dI⟩ ru rkv q2⟩
structure TwoLaid (X:Cx) (pins:List (Addr×Obj)) (σ:St) (H:Hp) (s:Shared) (l:Addr) (h0:Heap) (Ia Sa:Addr):Prop where
 gI:h0.get? Ia=some { cls:=.type "list_iterator",data:=.fields #[.ref l,.int 0 0] }
 gS:h0.get? Sa=some (seqObj "list" #[] 0)
 keep:∀ b o,s.heap.get? b=some o→h0.get? b=some o
 inv:Inv X pins σ H { s with heap:=h0 }
 fI:FpOk X pins H Ia
 fS:FpOk X pins H Sa
 ne:l≠Ia
 two:Sa≠Ia
theorem two_laid {l:Addr} (I:Inv X pins σ H s) (hl:l<s.heap.objs.size) :
  TwoLaid X pins σ H s l ((s.heap.push { cls:=.type "list_iterator",data:=.fields #[.ref l,.int 0 0] }).push (seqObj "list" #[] 0)) s.heap.objs.size (s.heap.push { cls:=.type "list_iterator",data:=.fields #[.ref l,.int 0 0] }).objs.size:=by
 have keep1:=fun (o:Obj) (b:Addr) (ob:Obj) (e:s.heap.get? b=some ob)=>Heap.get?_push_of_some o e
 have first:=Heap.get?_push_size s.heap (o:={ cls:=.type "list_iterator",data:=.fields #[.ref l,.int 0 0] }) rfl
 have size:=size_push' s.heap { cls:=.type "list_iterator",data:=.fields #[.ref l,.int 0 0] }
 replace keep1:=keep1 { cls:=.type "list_iterator",data:=.fields #[.ref l,.int 0 0] }
 generalize s.heap.push { cls:=.type "list_iterator",data:=.fields #[.ref l,.int 0 0] }=h1 at keep1 first size
 have up:s.heap.objs.size≤h1.objs.size:=by rw [size];exact Nat.le_succ _
 have kp:∀ b o,s.heap.get? b=some o→(h1.push (seqObj "list" #[] 0)).get? b=some o:=fun b o e=>Heap.get?_push_of_some _ (keep1 b o e)
 exact { gI:=Heap.get?_push_of_some _ first,gS:=Heap.get?_push_size _ rfl,keep:=kp,inv:=I.kept (t':=s.toks) kp,fI:=I.fpOk (Nat.le_refl _) (I.hok.fresh (Nat.le_refl _)),fS:=I.fpOk up (I.hok.fresh up),ne:=Nat.ne_of_lt hl,two:=by rw [size];exact Nat.succ_ne_self _ }
theorem call_minKC {k:Nat}{f:Addr}{sp:Sp}{x:V}{u:Value}{Q:VK} (C:KeyOk X pins σ f sp) (hr:Room (k+1) X.A) (hc:X.calm=true) (Iv:Inv X pins σ H s) (rx:RelV x u) (h:rMinK X.K sp x H Q) :
  wpAny (model X.prog X.w) X.A (call (.builtin "min") [u] [(Str.ofString "key",.ref f),(Str.ofString "default",.none)]) (EP X pins σ Q) X.xe s:=by
 (have hname:(toString "min" ++ toString ".loop" : String) = "min.loop" :=by decide)
 obtain ⟨l,xs,rfl,hq,q⟩:=h
 cases rx
 obtain ⟨its,rv,pl,_⟩:=Iv.list hq
 have hlen:=rv.length
 have hll:l<s.heap.objs.size:=by obtain ⟨_,e,_⟩:=pl.isList;exact Heap.lt_size e
 refine kmk_tree PySem.F.kind_min PySem.F.plain_min PySem.F.entry_min (mink_args _ _ _) ?_
 show wpAny _ X.A.in1 (Builtin.Builtins.bindParams "min" ["key", "default"] 0 ⟨[],[(Str.ofString "key",.ref f),(Str.ofString "default",.none)]⟩ >>= _) _ _ s
 refine wpAny_bind (wpAny_of_eq (show Builtin.Builtins.bindParams "min" ["key", "default"] 0 ⟨[],[(Str.ofString "key",.ref f),(Str.ofString "default",.none)]⟩=pure [some (.ref f),some .none] from rfl) ?_)
 refine wpAny_bind (wpAny_pure ?_)
 refine wpAny_bind (wpAny_pyIter_list pl.isList ?_)
 refine wpAny_bind (wpAny_newList ?_ (Nat.zero_le _):wpAny _ _ _ _ _ _)
 rw [hname]
 have two:=two_laid (X:=X) (l:=l) Iv hll
 generalize (s.heap.push { cls:=.type "list_iterator",data:=.fields #[.ref l,.int 0 0] }).push (seqObj "list" #[] 0)=h0 at two ⊢
 generalize (s.heap.push { cls:=.type "list_iterator",data:=.fields #[.ref l,.int 0 0] }).objs.size=Sa at two ⊢
 generalize s.heap.objs.size=Ia at two ⊢
 obtain ⟨gI,gS,hkp,I0,fI,fS,hlI,hSI⟩:=two
 have pl0:h0.IsList l its.toArray:=pl.isList.at fun o e=>hkp l o e
 (refine wpAny_pure ⟨plainId_quiet PySem.F.plain_min_loop _,?_⟩)
 cases xs with
 | nil=>
  have W:=Walks.list (prog:=X.prog) (w:=X.w) (A:=X.A.in1) (show X.A.in1.handled=none from Iv.ok.hd hc) Ia l hlI its.toArray
  (refine codeAny_builtin PySem.F.entry_min_loop ?_)
  (rw [Around.under_plainId PySem.F.plain_min_loop _])
  show wpAny _ X.A.in1 (seqItems? (.ref Sa) >>= _) _ _ _
  (refine wpAny_bind (wpAny_seqItems gS rfl ?_))
  show wpAny _ X.A.in1 (tryCatch (pyNext (.ref Ia)) _ >>= _) _ _ _
  refine wpAny_bind (wpAny_tryCatch (W.done _ _ _ ⟨⟨_,(by rw [gI]),rfl,by rw [List.size_toArray,← hlen];rfl⟩,pl0⟩ fun h' tk' hk'=>?_))
  have I1:Inv X pins σ H { s with heap:=h',toks:=tk' }:=Inv.turnedL (s:={ s with heap:=h0 }) (t':=tk') (wr:=[Ia]) I0 (fun c hc=>by rw [show c=Ia by simpa using hc];exact fI) fun c o hc e=>hk' c o hc e
  (refine wpAny_bind (wpAny_rule (wpAny_pure ?_)))
  exact ⟨.non,H,I1,rfl,q⟩
 | cons y r=>
  exact min_first (Q:=Q) C hr hc hlI hSI (fun w' u' H' s' I' r' q'=>⟨w',H',I',r',q'⟩) I0 fI fS gS ⟨_,gI,rfl,rfl⟩ (hq) q
theorem call_minK {k:Nat}{f:Addr}{fd:FuncData}{ps:List Str}{sp:Sp}{x:V}{u:Value}{Q:VK} (F:FnOk X.prog X.w X.K X.mg X.base CX0 k f fd ps sp) (hr:Room (k+1) X.A) (hb:Binds X.K fd ps []) (hc:X.calm=true) (Iv:Inv X pins σ H s) (rx:RelV x u) (h:rMinK X.K sp x H Q) :
  wpAny (model X.prog X.w) X.A (call (.builtin "min") [u] [(Str.ofString "key",.ref f),(Str.ofString "default",.none)]) (EP X pins σ Q) X.xe s:=call_minKC (keyOk_fn F hr hb) hr hc Iv rx h
def tMinE (K:PySem.W.Frag) (sp:Sp) (ta:TA):TE:=fun σ H Q=>ta σ H fun vs H1=>∃ x,vs=[x]∧rMinK K sp x H1 Q
end
theorem bt_min:bootBuiltins "min" = some (.builtin "min"):=by decide +kernel
section
variable {X:Cx}
theorem pe_minK {k:Nat}{f:Addr}{fd:FuncData}{ps:List Str}{sp:Sp}{e:Expr}{ta:TA}{y:Str}{kn:Nat}{p py pos kp pd kp2:Pos} (F:FnOk X.prog X.w X.K X.mg X.base CX0 k f fd ps sp) (hr:Room (k+1) X.A) (hb:Binds X.K fd ps []) (hc:X.calm=true)
  (hg:Gl X "min") (hm:X.mg "min" = none) (hgf:Gl X y) (hmf:X.mg y=some (.ref f)) (ha:PA X [e] ta) (hdb:(y == ("__debug__" : Str))=false:=by decide)
  (he:backTo pos (starEach [e] X.env)=(false,eval e X.env)::backTo pos (starEach [] X.env):=by rfl) (hplain:(backTo pos (starEach [e] X.env)).any (·.1)=false:=by rfl)
  (hall:(backToKw pos (keywordEach [⟨some "key",.Name y py,kp⟩,⟨some "default",.Constant .none kn pd,kp2⟩] X.env)).all (·.1.isSome)=true:=by rfl) (hkw:(backToKw pos (keywordEach [⟨some "key",.Name y py,kp⟩,⟨some "default",.Constant .none kn pd,kp2⟩] X.env)).any (·.1.isNone)=false:=by rfl) :
  PE X (.Call (.Name "min" p) [e] [⟨some "key",.Name y py,kp⟩,⟨some "default",.Constant .none kn pd,kp2⟩] pos) (tMinE X.K sp ta):=by
 intro pins s σ H Q I h
 refine wpAny_Call_Name_kw (ld_blt I hg hm bt_min ?_)
 refine callWith_kw (thn (ha pos pins s σ H _ I h) fun us s1 ⟨vs,H1,I1,r1,q1⟩=>?_) he hplain hall hkw
 obtain ⟨x,rfl,q⟩:=q1
 obtain ⟨u,rfl,ru⟩:=r1.one
 refine kws_cons (ld_glob I1 hgf hmf (kws_cons (Constant_none (kws_nil ?_))) hdb)
 exact call_minK F hr hb hc I1 ru q
end
def leastGo:PyData→Nat→Nat→List PyData→Nat
 | _,i,_,[]=>i
 | db,i,j,d::r=>if ltv d db=true then leastGo d j (j+1) r else leastGo db i (j+1) r
def leastIx:List PyData→Nat
 | []=>0
 | d::r=>leastGo d 0 1 r
theorem leastGo_ok {S:PyData→Prop} (o:ShOk S):∀ (r:List PyData) (all:List PyData) (db:PyData) (i j:Nat),(∀ d∈all,S d)→all.drop j=r→i<j→all[i]? = some db→(∀ (m:Nat) (d:PyData),m<j→all[m]? = some d→ltv d db=false)→(∀ (m:Nat) (d:PyData),m<i→all[m]? = some d→ltv db d=true) →
  ∃ d,all[leastGo db i j r]? = some d∧(∀ (m:Nat) (e:PyData),all[m]? = some e→ltv e d=false)∧∀ (m:Nat) (e:PyData),m<leastGo db i j r→all[m]? = some e→ltv d e=true
 | [],all,db,i,j,hS,hd,hij,hi,h1,h2=>by
  have hj:all.length≤j:=List.drop_eq_nil_iff.mp hd
  exact ⟨db,hi,fun m e he=>h1 m e (Nat.lt_of_lt_of_le (ge_len he) hj) he,h2⟩
 | d::r,all,db,i,j,hS,hd,hij,hi,h1,h2=>by
  have hjl:j<all.length:=by
   rcases Nat.lt_or_ge j all.length with z | z
   ·exact z
   ·rw [List.drop_of_length_le z] at hd;cases hd
  have hc:=List.drop_eq_getElem_cons hjl
  rw [hd] at hc
  injection hc with e1 e2
  have hdj:all[j]? = some d:=by rw [List.getElem?_eq_getElem hjl,e1]
  have sd:S d:=hS d (List.mem_of_getElem? hdj)
  have sb:S db:=hS db (List.mem_of_getElem? hi)
  unfold leastGo
  by_cases hlt:ltv d db=true
  ·rw [if_pos hlt]
   have hall:∀ m e,m<j→all[m]? = some e→ltv d e=true:=fun m e hm he=>by
    have se:S e:=hS e (List.mem_of_getElem? he)
    rcases o.neg sd se sb hlt with z | z
    ·exact z
    ·rw [h1 m e hm he] at z;cases z
   refine leastGo_ok o r all d j (j+1) hS e2.symm (Nat.lt_succ_self _) hdj (fun m e hm he=>?_) hall
   rcases Nat.lt_or_ge m j with z | z
   ·exact o.asymm sd (hS e (List.mem_of_getElem? he)) (hall m e z he)
   ·have:m=j:=by lia
    subst this
    rw [hdj] at he
    cases he
    exact o.irr d sd
  ·rw [if_neg hlt]
   refine leastGo_ok o r all db i (j+1) hS e2.symm (Nat.lt_succ_of_lt hij) hi (fun m e hm he=>?_) h2
   rcases Nat.lt_or_ge m j with z | z
   ·exact h1 m e z he
   ·have:m=j:=by lia
    subst this
    rw [hdj] at he
    cases he
    exact Bool.eq_false_iff.mpr hlt
theorem leastIx_ok {S:PyData→Prop} (o:ShOk S) {all:List PyData} (hS:∀ d∈all,S d) (hne:all≠[]) :
  ∃ d,all[leastIx all]? = some d∧(∀ (m:Nat) (e:PyData),all[m]? = some e→ltv e d=false)∧∀ (m:Nat) (e:PyData),m<leastIx all→all[m]? = some e→ltv d e=true:=by
 cases all with
 | nil=>exact (hne rfl).elim
 | cons d r=>
  refine leastGo_ok o r (d::r) d 0 1 hS rfl Nat.zero_lt_one rfl (fun m e hm he=>?_) (fun m e hm he=>absurd hm (Nat.not_lt_zero _))
  have:m=0:=by lia
  subst this
  cases he
  exact o.irr d (hS d (List.mem_cons_self ..))
theorem tmin_all {K:PySem.W.Frag}{sp:Sp}{Q:VK}{H0:Hp}{l:Addr}{xs:List V}{S:PyData→Prop} (o:ShOk S) (hq:SqL K H0 l xs):∀ (r:List V) (kr:List PyData) (i j:Nat) (b kb:V) (db:PyData) (H:Hp),r.length=kr.length→Same H0 H→Den K H kb db→S db→(∀ d∈kr,S d∧d.depth≤100)→xs.drop j=r→xs[i]? = some b →
  (∀ (m:Nat) (x:V) (d:PyData) (H:Hp) (Q:VK),r[m]? = some x→kr[m]? = some d→Same H0 H→(∀ k H',Same H H'→Den K H' k d→Q k H')→sp [x] H Q E0)→(∀ H',Same H0 H'→Q (xs.getD (leastGo db i j kr) .non) H')→tMinK K sp l xs r b kb H Q:=by
 intro r
 induction r with
 | nil=>
  intro kr i j b kb db H hl s dk sb hS hdr hi hsp hQ
  cases kr with
  | nil=>exact ⟨s.seq hq,by have:=hQ H s;simpa [leastGo,List.getD,hi] using this⟩
  | cons d kr=>cases hl
 | cons x r ih=>
  intro kr i j b kb db H hl s dk sb hS hdr hi hsp hQ
  cases kr with
  | nil=>cases hl
  | cons d kr=>
   have hjl:j<xs.length:=by
    rcases Nat.lt_or_ge j xs.length with z | z
    ·exact z
    ·rw [List.drop_of_length_le z] at hdr;cases hdr
   have hc:=List.drop_eq_getElem_cons hjl
   rw [hdr] at hc
   injection hc with e1 e2
   have hxj:xs[j]? = some x:=by rw [List.getElem?_eq_getElem hjl,e1]
   have sd:=hS d (List.mem_cons_self ..)
   refine ⟨s.seq hq,hsp 0 x d H _ rfl rfl s fun k H' s' dk'=>⟨d,db,dk',dk.same s',o.cmp d db sd.1 sb,sd.2,?_⟩⟩
   have hS':∀ e∈kr,S e∧e.depth≤100:=fun e he=>hS e (List.mem_cons_of_mem _ he)
   by_cases hlt:ltv d db=true
   ·rw [if_pos hlt]
    refine ih kr j (j+1) x k d H' (by simpa using hl) (s.trans s') dk' sd.1 hS' e2.symm hxj (fun m y e H2 Q2 h1 h2=>hsp (m+1) y e H2 Q2 (by simpa using h1) (by simpa using h2)) fun H2 h2=>?_
    have:=hQ H2 h2
    unfold leastGo at this
    rwa [if_pos hlt] at this
   ·rw [if_neg hlt]
    refine ih kr i (j+1) b kb db H' (by simpa using hl) (s.trans s') (dk.same s') sb hS' e2.symm hi (fun m y e H2 Q2 h1 h2=>hsp (m+1) y e H2 Q2 (by simpa using h1) (by simpa using h2)) fun H2 h2=>?_
    have:=hQ H2 h2
    unfold leastGo at this
    rwa [if_neg hlt] at this
theorem rmin_data {K:PySem.W.Frag}{sp:Sp}{Q:VK}{H:Hp}{l:Addr}{xs:List V}{kds:List PyData}{S:PyData→Prop} (o:ShOk S) (hq:SqL K H l xs) (hl:xs.length=kds.length) (hS:∀ d∈kds,S d∧d.depth≤100)
  (hsp:∀ (m:Nat) (x:V) (d:PyData) (H2:Hp) (Q:VK),xs[m]? = some x→kds[m]? = some d→Same H H2→(∀ k H',Same H2 H'→Den K H' k d→Q k H')→sp [x] H2 Q E0) (h0:xs=[]→Q .non H) (hQ:xs≠[]→∀ H',Same H H'→Q (xs.getD (leastIx kds) .non) H'):rMinK K sp (.ref l) H Q:=by
 refine ⟨l,xs,rfl,hq,?_⟩
 cases xs with
 | nil=>exact h0 rfl
 | cons x r=>
  cases kds with
  | nil=>cases hl
  | cons d kr=>
   refine hsp 0 x d H _ rfl rfl (Same.refl _) fun k H' s' dk=>?_
   refine tmin_all o hq r kr 0 1 x k d H' (by simpa using hl) s' dk (hS d (List.mem_cons_self ..)).1 (fun e he=>hS e (List.mem_cons_of_mem _ he)) rfl rfl (fun m y e H2 Q2 h1 h2=>hsp (m+1) y e H2 Q2 (by simpa using h1) (by simpa using h2)) fun H2 h2=>?_
   exact hQ (by intro z;cases z) H2 h2
end L2
namespace L2
open PySem PySem.Spec PyProof.Rows
section
variable {X:Cx}
def rLenS (K:PySem.W.Frag):List V→Hp→VK→Prop:=fun xs H Q=>∃ p ys,xs=[.ref p]∧(SqL K H p ys∨SqT K H p ys)∧Q (.int ys.length) H
theorem call_lenS:CallR X (.builtin "len") (rLenS X.K):=call_len_seq
theorem bt_isinstance:bootBuiltins "isinstance" = some (.builtin "isinstance"):=by decide +kernel
theorem bt_str:bootBuiltins "str" = some (.type "str"):=by decide +kernel
theorem bt_int:bootBuiltins "int" = some (.type "int"):=by decide +kernel
theorem compT2 {K:PySem.W.Frag}{a:Addr}{x y:V}{σ:St}{H:Hp}{F G:St→Hp→Prop} (hq:SqT K H a [x,y]) (h:F ((σ.set 0 (some x)).set 1 (some y)) H) :
  gTup K 2 (gCons (gName 0) (gCons (gName 1) gNil)) (.ref a) σ H fun σ2 H2=>tYes σ2 H2 fun b H3=>if b=true then F σ2 H3 else G σ2 H3:=by
 refine ⟨a,_,rfl,hq,rfl,_,_,rfl,_,_,rfl,rfl,?_⟩
 show (if true=true then F ((σ.set 0 (some x)).set 1 (some y)) H else G ((σ.set 0 (some x)).set 1 (some y)) H)
 rw [if_pos rfl]
 exact h
end
theorem pe_bmK {X:Cx}{K:PySem.W.Frag}{o e:Expr}{es:List Expr}{to:TE}{t:TA}{name:Str}{apos cpos:Pos}{T id:String}{r:V→List V→Hp→VK→Prop} (eK:X.K=K) (pa:PlainAttrs T) (slot:Slot T name id) (hty:typeOf (.builtin id)=pure (.type "method_descriptor")) (hm:MtR X id r) (ho:PE X o to) (ha:PA X (e::es) t)
  (hbase:attributeBase o name X.env (eval o X.env)=eval o X.env:=by rfl)
  (hfew:((backTo cpos (starEach (e::es) X.env)).all (fun x=>!x.1) && (backToKw cpos (keywordEach [] X.env)).all (fun x=>x.1.isSome)
   && decide ((e::es).length+([]:List Keyword).length+(if ([]:List Keyword).isEmpty then 0 else 1)<30))=true:=by rfl)
  (hline:(apos.endLine == cpos.line)=true:=by rfl) (hs:starEach (e::es) X.env=(false,eval e X.env)::starEach es X.env:=by rfl) (hplain:(backTo cpos (starEach es X.env)).any (·.1)=false:=by rfl) :
  PE X (.Call (.Attribute o name apos) (e::es) [] cpos) (tBM K T r to t):=by
 subst eK
 exact pe_bm pa slot hty hm ho ha hbase hfew hline hs hplain
end L2
namespace L2
open PySem PySem.Spec PyProof.Rows
section
variable {X:Cx}
end
end L2
namespace L2
open PySem PySem.Spec PyProof.Rows
section
open PySem.SeqAt
open PySem.AutoSeq1 (wpAny_loadPart')
open PySem.MeetsSeq PySem.MeetsSeq2 PySem.MeetsSeq3
end
section
open PySem.SeqAt
open PySem.MeetsSeq PySem.MeetsSeq2 PySem.MeetsSeq3
variable {X:Cx}
end
end L2
namespace L2
open PySem PySem.Spec PyProof.Rows
section
variable {X:Cx}
end
end L2
namespace L2
open PySem PySem.Spec PyProof.Rows PySem.MeetsSeq PySem.MeetsSeq2 PySem.MeetsSeq3
section
variable {X:Cx}
def rCatS (K:PySem.W.Frag):R2:=fun x y H Q=>∃ l b xs zs,x = .ref l∧y = .ref b∧SqL K H l xs∧SqL K H b zs∧xs.length+zs.length≤sizeLine∧∀ p,H p=none→Q (.ref p) (upd H p (.lst (xs++zs)))
theorem op_catS:OpR X (binaryOp .Add) (rCatS X.K):=by
 intro pins s σ H x y v u Q I rx ry h
 obtain ⟨l,b,xs,zs,rfl,rfl,hl,hb,hz,q⟩:=h
 cases rx
 cases ry
 obtain ⟨its,r,pl,h1⟩:=I.list hl
 obtain ⟨jts,r2,pl2,h2⟩:=I.list hb
 have l1:=r.length
 have l2:=r2.length
 obtain ⟨⟨cls,dd,data,sl⟩,n,ho,hc,_,hd⟩:=pl
 obtain ⟨⟨cls2,dd2,data2,sl2⟩,n2,ho2,hc2,_,hd2⟩:=pl2
 simp only at hc hd hc2 hd2
 subst hc hd hc2 hd2
 have ea:its.toArray++jts.toArray=(its++jts).toArray:=by simp
 refine concat_meets ⟨_,ho,rfl⟩ ⟨_,ho2,rfl⟩ noFill_list_add seq_list_add PySem.F.slot_list_add PySem.F.entry_list_add (PySem.F.args_list_add_2 _ _) (list_addW l b its.toArray jts.toArray n n2 dd dd2 sl sl2 (by simp;lia)) ⟨ho,ho2,?_⟩
 rw [ea]
 exact ⟨.ref _,_,I.lnew (t':=s.toks) (r.append r2) (by rw [List.length_append];lia),rfl,q _ I.fresh⟩
end
end L2
namespace L2
open PySem PySem.Spec PyProof.Rows
section
variable {prog:Program}{w:World}{A:Around}{E:Value→Shared→Prop}{s:Shared}
end
section
variable {X:Cx}{tg:Expr}
end
end L2
namespace L2
open PySem PySem.Spec PyProof.Rows
def CompWi (g:TG) (tt:TT) (te:TE) (J:It) (D:Addr) (F:St→Hp→Prop) (σ:St) (H:Hp):Prop:=
 ∃ W:Nat→Nat→St→Hp→Prop,(∃ m,W 0 m σ H)∧∀ i m σ H,W i m σ H →
  (J.stop i H∧F σ H)∨(J.go i H∧∃ N:St→Hp→Prop,(∀ σ' H',N σ' H'→∃ m',m' < m∧W (i+1) m' σ' H') ∧
   ∀ x H',J.yld i H x H'→g x σ H' fun σ2 H2=>tt σ2 H2 fun b H3=>if b=true then te σ2 H3 fun v H4=>∃ xs,H4 D=some (.lst xs)∧xs.length<sizeLine∧N σ2 (upd H4 D (.lst (xs++[v]))) else N σ2 H3)
def CompW2 (g:TG) (tt:TT) (wi:TI) (g2:TG) (tt2:TT) (te:TE) (J:It) (D:Addr) (Q:VK) (σ:St) (H:Hp):Prop:=
 ∃ W:Nat→Nat→St→Hp→Prop,(∃ m,W 0 m σ H)∧∀ i m σ H,W i m σ H →
  (J.stop i H∧Q (.ref D) H)∨(J.go i H∧∃ N:St→Hp→Prop,(∀ σ' H',N σ' H'→∃ m',m' < m∧W (i+1) m' σ' H') ∧
   ∀ x H',J.yld i H x H'→g x σ H' fun σ2 H2=>tt σ2 H2 fun b H3=>if b=true then wi σ2 H3 fun J2 H4=>CompWi g2 tt2 te J2 D N σ2 H4 else N σ2 H3)
def tComp2 (wi:TI) (g:TG) (tt:TT) (wi2:TI) (g2:TG) (tt2:TT) (te:TE) (n:Nat) (fi:List Nat):TE:=fun σ H Q=>
 wi σ H fun J H1=>∀ D,H1 D=none→CompW2 g tt wi2 g2 tt2 te J D Q (sub n fi σ) (upd H1 D (.lst []))
section
variable {X:Cx}{elt tg iter tg2 iter2:Expr}{ifs ifs2:List Expr}{scope:Scope}{pos:Pos}
theorem start_inner {prog:Program}{w:World}{A:Around}{s:Shared}{R:Result→Shared→Prop}{it acc:Value}{env:Env}
  (h0:codeAny (model prog w) A (.compLoop (.ListComp elt [⟨tg,iter,ifs,0⟩,⟨tg2,iter2,ifs2,0⟩] scope pos) 1 it acc env) R s)
  (h:wpAny (model prog w) A (pyIter it) (fun it' s'=>codeAny (model prog w) A (.compLoop (.ListComp elt [⟨tg,iter,ifs,0⟩,⟨tg2,iter2,ifs2,0⟩] scope pos) 1 it' acc env) R s')
   (notedBy (model prog w) A env (fun x s2=>R (.error x) s2)) s) :
  codeAny (model prog w) A (.compStart (.ListComp elt [⟨tg,iter,ifs,0⟩,⟨tg2,iter2,ifs2,0⟩] scope pos) 1 it acc env) R s:=by
 refine codeAny_of_tree (wpAny_notedAt (m:=compStart (.ListComp elt [⟨tg,iter,ifs,0⟩,⟨tg2,iter2,ifs2,0⟩] scope pos) 1 it acc env) (pos:=theWindowsPlace) ?_)
 have direct:=fun (f:PySem.Fin→Shared→Prop) (hf:f (.again (.compLoop (.ListComp elt [⟨tg,iter,ifs,0⟩,⟨tg2,iter2,ifs2,0⟩] scope pos) 1 it acc env)) s)=>(wpAny_pure hf:wpAny (model prog w) A (pure _) f (notedBy (model prog w) A env fun x s2=>R (.error x) s2) s)
 unfold compStart
 refine wpAny_bind (wpAny_askSetting (wpAny_ite ?_))
 split
 ·first
   | exact direct _ ⟨rfl,h0⟩
   | exact wpAny_bind (wpAny_pure (direct _ ⟨rfl,h0⟩))
 ·exact wpAny_bind (wpAny_rule (wpAny_bind (wpAny_standAt (wpAny_bind (wpAny_mono h (fun it' s' h'=>wpAny_pure ⟨rfl,h'⟩) fun _ _ x=>x)))))
theorem comp_inner {Y:Cx}{g:TG}{tt:TT}{te:TE}{J:It}{D it:Addr}{fp:List Addr}{tn:Nat→Heap→Prop}{F:St→Hp→Prop}{σ:St}{H:Hp}{s:Shared}{pins:List (Addr×Obj)} (hc:Y.calm=true) (hxe:∀ e s,¬ Y.xe e s)
  (hg:PG Y tg2 g) (hi:PIfs Y ifs2 tt) (he:PE Y elt te) (T:Turn Y.prog Y.w Y.K tg2 J fp it tn) (I:Inv Y pins σ H s) (st:tn 0 s.heap) (hf:∀ b∈fp,FpOk Y pins H b) (hw:CompWi g tt te J D F σ H) :
  codeAny (model Y.prog Y.w) Y.A (.compLoop (.ListComp elt [⟨tg,iter,ifs,0⟩,⟨tg2,iter2,ifs2,0⟩] scope pos) 1 (.ref it) (.ref D) Y.env) (fun r s'=>r = .ok .next∧∃ σ' H',Inv Y pins σ' H' s'∧F σ' H') s:=by
 obtain ⟨W,⟨m0,w0⟩,turn⟩:=hw
 have stat:∀ {H':Hp},(∀ b∈fp,H' b=none)→∀ b∈fp,FpOk Y pins H' b:=fun hn b hb=>⟨hn b hb,(hf b hb).2⟩
 refine codeAny_loop rfl (fun n s'=>∃ i σ' H',Inv Y pins σ' H' s'∧tn i s'.heap∧(∀ b∈fp,H' b=none)∧W i n σ' H') ?_ m0 ⟨0,σ,H,I,st,fun b hb=>(hf b hb).1,w0⟩
 rintro n s3 ⟨i,σ3,H3,I3,st3,fr3,w3⟩
 show wpAny _ Y.A ((compTurn (.ListComp elt [⟨tg,iter,ifs,0⟩,⟨tg2,iter2,ifs2,0⟩] scope pos) 1 (.ref it) (.ref D) Y.env).onRaise (fun x=>do noteFrame x Y.env;theTreesLotGoes x)) _ _ s3
 refine wpAny_noted ?_
 show wpAny _ _ (standAt iter2.pos >>= fun _=>pyNext (.ref it) >>= _) _ _ s3
 refine wpAny_bind (wpAny_standAt ?_)
 refine wpAny_bind ?_
 rcases turn i n σ3 H3 w3 with ⟨stop,qn⟩ | ⟨go,N,hN,step⟩
 ·refine thn (T.done Y rfl rfl rfl hc i pins s3 σ3 H3 _ I3 (stat fr3) st3 stop) fun r s4 ⟨hr,I4⟩=>?_
  subst hr
  exact wpAny_pure ⟨rfl,σ3,H3,I4,qn⟩
 ·refine thn (T.item Y rfl rfl rfl hc i pins s3 σ3 H3 _ I3 (stat fr3) st3 go) fun r s4 ⟨u,hr,h4⟩=>?_
  subst hr
  show wpAny _ _ (letOwnedTupleGo tg2 (.ref it) u >>= fun _=>assign tg2 Y.env u >>= fun _=>forIn ifs2 true _ >>= _) _ _ s4
  refine wpAny_bind (thn h4 fun _ s5 ⟨x,H5,I5,r5,y5,st5,fr5⟩=>?_)
  have I5':=I5.pinned (stat fr5) (T.obj _ _ st5)
  have again':∀ {σ7:St}{H7:Hp}{s7:Shared},Inv Y (pins++pinsAt fp s5.heap) σ7 H7 s7→N σ7 H7→∃ m,m<n∧∃ i σ' H',Inv Y pins σ' H' s7∧tn i s7.heap∧(∀ b∈fp,H' b=none)∧W i m σ' H':=fun {σ7 H7 s7} I7 n7=>by
   obtain ⟨m',hm,w7⟩:=hN σ7 H7 n7
   refine ⟨m',hm,i+1,σ7,H7,I7.unpinned,T.keep _ _ _ st5 fun b hb o e=>(I7.pin (b,o) (List.mem_append_right _ (List.mem_append_right _ (mem_pinsAt hb e)))).1,fun b hb=>?_,w7⟩
   obtain ⟨o,e,d⟩:=T.obj _ _ st5 b hb
   exact (I7.pin (b,o) (List.mem_append_right _ (List.mem_append_right _ (mem_pinsAt hb e)))).2.1
  refine wpAny_bind (wpAny_mono (hg _ s5 σ3 H5 x u _ I5' r5 (step x H5 y5)) (fun _ s6 ⟨σ6,H6,I6,q6⟩=>?_) fun e s' z=>(hxe e s' z).elim)
  refine wpAny_bind (wpAny_mono (hi _ s6 σ6 H6 _ I6 q6) (fun ok s7 ⟨H7,I7,q7⟩=>?_) fun e s' z=>(hxe e s' z).elim)
  cases ok with
  | false=>
   exact wpAny_pure ⟨rfl,again' I7 q7⟩
  | true=>
   refine wpAny_bind (wpAny_bind (wpAny_mono (he _ s7 σ6 H7 _ I7 q7) (fun u8 s8 ⟨v8,H8,I8,r8,xs,e8,z8,n8⟩=>?_) fun e s' z=>(hxe e s' z).elim))
   refine wpAny_bind (wpAny_mono (mt_append (X:=Y) _ s8 σ6 H8 (.ref D) [v8] (.ref D) [u8] (fun _ H9=>N σ6 H9) I8 rfl (.cons r8 .nil) ⟨D,xs,v8,rfl,rfl,e8,z8,n8⟩) (fun u9 s9 h9=>?_) fun e s' z=>(hxe e s' z).elim)
   obtain ⟨v9,H9,I9,_,n9⟩:=h9
   exact wpAny_pure (wpAny_pure ⟨rfl,again' I9 n9⟩)
theorem comp_loop2 {Y:Cx}{g g2:TG}{tt tt2:TT}{wi2:TI}{te:TE}{J:It}{D it:Addr}{fp:List Addr}{tn:Nat→Heap→Prop}{Qr:VK}{σ:St}{H:Hp}{s:Shared} (hc:Y.calm=true) (hxe:∀ e s,¬ Y.xe e s)
  (hg:PG Y tg g) (hi:PIfs Y ifs tt) (hit2:PI Y tg2 iter2 wi2) (hg2:PG Y tg2 g2) (hi2:PIfs Y ifs2 tt2) (he:PE Y elt te) (hs2:∀ x,foldedSetIterable iter2 Y.env x=pure x) (T:Turn Y.prog Y.w Y.K tg J fp it tn) (I:Inv Y [] σ H s) (st:tn 0 s.heap) (hf:∀ b∈fp,FpOk Y [] H b) (hw:CompW2 g tt wi2 g2 tt2 te J D Qr σ H) :
  codeAny (model Y.prog Y.w) Y.A (.compLoop (.ListComp elt [⟨tg,iter,ifs,0⟩,⟨tg2,iter2,ifs2,0⟩] scope pos) 0 (.ref it) (.ref D) Y.env) (fun r s'=>r = .ok .next∧∃ σ' H',Inv Y [] σ' H' s'∧Qr (.ref D) H') s:=by
 obtain ⟨W,⟨m0,w0⟩,turn⟩:=hw
 have stat:∀ {H':Hp},(∀ b∈fp,H' b=none)→∀ b∈fp,FpOk Y [] H' b:=fun hn b hb=>⟨hn b hb,(hf b hb).2⟩
 refine codeAny_loop rfl (fun n s'=>∃ i σ' H',Inv Y [] σ' H' s'∧tn i s'.heap∧(∀ b∈fp,H' b=none)∧W i n σ' H') ?_ m0 ⟨0,σ,H,I,st,fun b hb=>(hf b hb).1,w0⟩
 rintro n s3 ⟨i,σ3,H3,I3,st3,fr3,w3⟩
 show wpAny _ Y.A ((compTurn (.ListComp elt [⟨tg,iter,ifs,0⟩,⟨tg2,iter2,ifs2,0⟩] scope pos) 0 (.ref it) (.ref D) Y.env).onRaise (fun x=>do noteFrame x Y.env;theTreesLotGoes x)) _ _ s3
 refine wpAny_noted ?_
 show wpAny _ _ (standAt iter.pos >>= fun _=>pyNext (.ref it) >>= _) _ _ s3
 (refine wpAny_bind (wpAny_standAt (wpAny_bind ?_)))
 rcases turn i n σ3 H3 w3 with ⟨stop,qn⟩ | ⟨go,N,hN,step⟩
 ·refine thn (T.done Y rfl rfl rfl hc i [] s3 σ3 H3 _ I3 (stat fr3) st3 stop) fun r s4 ⟨hr,I4⟩=>?_
  subst hr
  exact wpAny_pure ⟨rfl,σ3,H3,I4,qn⟩
 ·refine thn (T.item Y rfl rfl rfl hc i [] s3 σ3 H3 _ I3 (stat fr3) st3 go) fun r s4 ⟨u,hr,h4⟩=>?_
  subst hr
  show wpAny _ _ (letOwnedTupleGo tg (.ref it) u >>= fun _=>assign tg Y.env u >>= fun _=>forIn ifs true _ >>= _) _ _ s4
  refine wpAny_bind (thn h4 fun _ s5 ⟨x,H5,I5,r5,y5,st5,fr5⟩=>?_)
  have I5':=I5.pinned (stat fr5) (T.obj _ _ st5)
  have again':∀ {σ7:St}{H7:Hp}{s7:Shared},Inv Y ([]++pinsAt fp s5.heap) σ7 H7 s7→N σ7 H7→∃ m,m<n∧∃ i σ' H',Inv Y [] σ' H' s7∧tn i s7.heap∧(∀ b∈fp,H' b=none)∧W i m σ' H':=fun {σ7 H7 s7} I7 n7=>by
   obtain ⟨m',hm,w7⟩:=hN σ7 H7 n7
   refine ⟨m',hm,i+1,σ7,H7,I7.unpinned,T.keep _ _ _ st5 fun b hb o e=>(I7.pin (b,o) (List.mem_append_right _ (List.mem_append_right _ (mem_pinsAt hb e)))).1,fun b hb=>?_,w7⟩
   obtain ⟨o,e,d⟩:=T.obj _ _ st5 b hb
   exact (I7.pin (b,o) (List.mem_append_right _ (List.mem_append_right _ (mem_pinsAt hb e)))).2.1
  refine wpAny_bind (wpAny_mono (hg _ s5 σ3 H5 x u _ I5' r5 (step x H5 y5)) (fun _ s6 ⟨σ6,H6,I6,q6⟩=>?_) fun e s' z=>(hxe e s' z).elim)
  refine wpAny_bind (wpAny_mono (hi _ s6 σ6 H6 _ I6 q6) (fun ok s7 ⟨H7,I7,q7⟩=>?_) fun e s' z=>(hxe e s' z).elim)
  cases ok with
  | false=>
   exact wpAny_pure ⟨rfl,again' I7 q7⟩
  | true=>
   show wpAny _ _ (eval iter2 Y.env >>= fun x=>standAt iter2.pos >>= fun _=>foldedSetIterable iter2 Y.env x >>= fun x=>holding [x] (pyIter x) >>= fun y=>runOwn (.compStart (.ListComp elt [⟨tg,iter,ifs,0⟩,⟨tg2,iter2,ifs2,0⟩] scope pos) 1 y (.ref D) Y.env) Y.env >>= fun _=>_) _ _ s7
   refine wpAny_bind (wpAny_mono (hit2 _ s7 σ6 H7 _ I7 q7) (fun u8 s8 h8=>?_) fun e s' z=>(hxe e s' z).elim)
   refine wpAny_bind (wpAny_standAt (wpAny_bind ?_))
   rw [hs2]
   refine wpAny_pure ?_
   refine wpAny_bind (wpAny_holding (wpAny_mono h8 (fun itv s9 h9=>?_) fun e s' z=>(hxe e s' z).elim))
   obtain ⟨it2,fp2,tn2,J2,H9,e9,I9,T2,st9,f9,w9⟩:=h9
   subst e9
   have inner:=comp_inner (elt:=elt) (tg:=tg) (iter:=iter) (ifs:=ifs) (tg2:=tg2) (iter2:=iter2) (ifs2:=ifs2) (scope:=scope) (pos:=pos) hc hxe hg2 hi2 he T2 I9 st9 f9 w9
   refine wpAny_bind (wpAny_runOwn (h:=none) ?_)
   rw [show Y.A.mark none=Y.A by cases Y.A;rfl]
   refine start_inner (codeAny_mono inner fun r s' hh=>?_) (T2.self _ 0 _ _ _ st9 (codeAny_mono inner fun r s' hh=>?_))
   ·obtain ⟨hr,σa,Ha,Ia,na⟩:=hh
    subst hr
    exact wpAny_pure ⟨rfl,again' Ia na⟩
   ·obtain ⟨hr,σa,Ha,Ia,na⟩:=hh
    subst hr
    exact wpAny_pure ⟨rfl,again' Ia na⟩
theorem comp_core2 {N':List Str}{n:Nat}{fi:List Nat}{wi wi2:TI}{g g2:TG}{tt tt2:TT}{te:TE}{use:Option (Value→Sem Unit)}{Q:Value→Shared→Prop}{Qr:VK}{epos:Pos}{pins:List (Addr×Obj)}{σ:St}{H:Hp}{s:Shared}
  (hcalm:X.calm=true) (S:CScope X scope N' n fi) (hit:PI X tg iter wi)
  (hg:∀ s H fp,PG (compCx X scope N' s H fp) tg g) (hi:∀ s H fp,PIfs (compCx X scope N' s H fp) ifs tt) (hit2:∀ s H fp,PI (compCx X scope N' s H fp) tg2 iter2 wi2) (hg2:∀ s H fp,PG (compCx X scope N' s H fp) tg2 g2) (hi2:∀ s H fp,PIfs (compCx X scope N' s H fp) ifs2 tt2) (he:∀ s H fp,PE (compCx X scope N' s H fp) elt te)
  (I:Inv X pins σ H s) (hw:tComp2 wi g tt wi2 g2 tt2 te n fi σ H Qr) (hs:∀ x,foldedSetIterable iter X.env x=pure x) (hs2:∀ (C:Addr) x,foldedSetIterable iter2 (cenv scope C X.env) x=pure x)
  (post:∀ (D C:Addr) (s':Shared) (H':Hp) (m:Str→Option Value),Inv X pins σ H' s'→s'.heap.Ns C m→H' C=none→X.s₀.heap.objs.size≤C→C≠X.env.locals→(∀ x c,X.env.cells.lookup x=some c→c≠C)→(∀ p∈X.pn++pins,p.1≠C)→Qr (.ref D) H' →
   compPost (model X.prog X.w) X.A X.xe use Q (.ref D) C (.ok .next) s') :
  wpAny (model X.prog X.w) X.A (comprehension (.ListComp elt [⟨tg,iter,ifs,0⟩,⟨tg2,iter2,ifs2,0⟩] scope pos) scope X.env epos (newList []) false (eval iter X.env) use) Q X.xe s:=by
 refine wpAny_comprehension_free (use:=use) (g:=⟨tg,iter,ifs,0⟩) (gs:=[⟨tg2,iter2,ifs2,0⟩]) rfl hs (closure_of (S.clHas I.ok)) S.kind S.names ?_
 refine thn (hit pins s σ H _ I hw) fun v s1 h1=>thn h1 fun itv s2 h2=>?_
 obtain ⟨it,fp,tn,J,H2,e,I2,T,st2,f2,hw2⟩:=h2
 subst e
 refine wpAny_newList ?_ (Nat.zero_le _)
 have hD:H2 s2.heap.objs.size=none:=I2.hok.fresh (Nat.le_refl _)
 have I3:Inv X pins σ (upd H2 s2.heap.objs.size (.lst [])) { s2 with heap:=s2.heap.push { cls:=.type "list",data:=.seq ([]:List Value).toArray } }:=
  I2.laid (t':=s2.toks) (fun b u e=>Heap.get?_push_of_some _ e) (Nat.le_refl _) ⟨Nat.zero_le _,[],0,.nil,Heap.get?_push_size _ rfl⟩
 have hw3:=hw2 _ hD
 have u23:Un (frs X.stack) fp H2 (upd H2 s2.heap.objs.size (.lst [])) s2.heap (s2.heap.push { cls:=.type "list",data:=.seq ([]:List Value).toArray }):=
  Un.laid (fun b u e=>Heap.get?_push_of_some _ e) (Nat.le_refl _) hD
 generalize hs3:({ s2 with heap:=s2.heap.push { cls:=.type "list",data:=.seq ([]:List Value).toArray } }:Shared)=s3 at I3 ⊢
 have hh3:s3.heap=s2.heap.push { cls:=.type "list",data:=.seq ([]:List Value).toArray }:=by rw [← hs3]
 have ho3:s3.os=s2.os:=by rw [← hs3]
 have hz3:s3.heap.objs.size=s2.heap.objs.size+1:=by rw [hh3,Heap.size_push]
 rw [← hh3] at u23
 have hH3:∀ b,b≠s2.heap.objs.size→upd H2 s2.heap.objs.size (.lst []) b=H2 b:=fun b hb=>upd_ne hb
 generalize upd H2 s2.heap.objs.size (.lst [])=H3 at *
 have fpold:∀ b∈fp,∃ o,s2.heap.get? b=some o:=fun b hb=>let ⟨o,e,_⟩:=T.obj _ _ st2 b hb;⟨o,e⟩
 have k23:∀ b u,s2.heap.get? b=some u→s3.heap.get? b=some u:=fun b u e=>by rw [hh3];exact Heap.get?_push_of_some _ e
 have hfp3:∀ b∈fp,FpOk X pins H3 b:=fun b hb=>by
  obtain ⟨o,e⟩:=fpold b hb
  exact ⟨(hH3 b (Nat.ne_of_lt (Heap.lt_size e))).trans (f2 b hb).1,(f2 b hb).2⟩
 refine newEnvC fun h4 hns hk hc=>?_
 show codeAny _ _ (.compStart _ 0 _ _ (cenv scope s3.heap.objs.size X.env)) _ _
 have I4:=inv_block I3 S hfp3 (fun b hb=>let ⟨o,e⟩:=fpold b hb;⟨o,k23 b o e⟩) hns hk hc
 have hfY:∀ b∈fp,FpOk (compCx X scope N' s3 H3 fp) [] H3 b:=fun b hb=>⟨(hfp3 b hb).1,(I4.ok.exf b hb).1,I4.ok.exfs b hb,.inl hb,(I4.ok.exf b hb).2,fun p hp=>absurd (show p∈([]:List (Addr×Obj)) from hp) (by simp)⟩
 have st4:tn 0 h4:=T.keep _ _ _ st2 fun b hb o e=>hk b o (k23 b o e)
 have loop:=comp_loop2 (tg2:=tg2) (iter2:=iter2) (ifs2:=ifs2) (Y:=compCx X scope N' s3 H3 fp) (elt:=elt) (tg:=tg) (iter:=iter) (ifs:=ifs) (scope:=scope) (pos:=pos) hcalm (fun _ _ z=>z) (hg s3 H3 fp) (hi s3 H3 fp) (hit2 s3 H3 fp) (hg2 s3 H3 fp) (hi2 s3 H3 fp) (he s3 H3 fp) (hs2 _) T I4 st4 hfY hw3
 have fin:codeAny (model X.prog X.w) X.A (.compLoop (.ListComp elt [⟨tg,iter,ifs,0⟩,⟨tg2,iter2,ifs2,0⟩] scope pos) 0 (.ref it) (.ref s2.heap.objs.size) (cenv scope s3.heap.objs.size X.env)) (compPost (model X.prog X.w) X.A X.xe use Q (.ref s2.heap.objs.size) s3.heap.objs.size) { s3 with heap:=h4 }:=by
  refine codeAny_mono loop fun r s' ⟨hr,σ',H',J5,q5⟩=>?_
  subst hr
  have u5:Un (frs X.stack) fp H3 H' s3.heap s'.heap:=J5.base
  have I5:Inv X pins σ H' s':=I2.call' (ch:=fp) (J5.os.trans ho3) (u23.trans u5) J5.hok J5.bare fun b hb=>⟨(f2 b hb).2.2.2.1,(f2 b hb).2.1,(f2 b hb).2.2.2.2.1,(f2 b hb).2.2.2.2.2⟩
  obtain ⟨m,hm,_⟩:=J5.loc
  refine post _ _ s' H' m I5 hm J5.free I3.sz (Nat.ne_of_gt I3.lt) (fun x c e=>?_) (fun p hp=>?_) q5
  ·obtain ⟨v,q⟩:=I3.cell x c e
   exact Nat.ne_of_lt q.lt
  ·exact Nat.ne_of_lt (Heap.lt_size (I3.pin p hp).1)
 exact codeAny_compStart_list fin (T.self _ 0 _ _ _ st4 fin)
theorem ps_comp2 {N':List Str}{n i:Nat}{fi:List Nat}{wi wi2:TI}{g g2:TG}{tt tt2:TT}{te:TE}{x:Str}{pos' spos:Pos} (hN:X.N.Nodup) (hxi:X.N[i]? = some x) (hx:Loc X.env.scope x) (hcalm:X.calm=true) (S:CScope X scope N' n fi) (hit:PI X tg iter wi)
  (hg:∀ s H fp,PG (compCx X scope N' s H fp) tg g) (hi:∀ s H fp,PIfs (compCx X scope N' s H fp) ifs tt) (hit2:∀ s H fp,PI (compCx X scope N' s H fp) tg2 iter2 wi2) (hg2:∀ s H fp,PG (compCx X scope N' s H fp) tg2 g2) (hi2:∀ s H fp,PIfs (compCx X scope N' s H fp) ifs2 tt2) (he:∀ s H fp,PE (compCx X scope N' s H fp) elt te)
  (hsw:swapsWith (.ListComp elt [⟨tg,iter,ifs,0⟩,⟨tg2,iter2,ifs2,0⟩] scope pos) (some (.Name x pos')) spos.line X.env=pure true:=by rfl)
  (hs:∀ x,foldedSetIterable iter X.env x=pure x:=by intro _;rfl) (hs2:∀ (C:Addr) x,foldedSetIterable iter2 (cenv scope C X.env) x=pure x:=by intro _ _;rfl) (hf:X.fn x=true∨X.env.scope.names.lookup x=some .local:=by first | exact .inl rfl | exact .inr rfl | assumption) :
  PS X (.Assign [.Name x pos'] (.ListComp elt [⟨tg,iter,ifs,0⟩,⟨tg2,iter2,ifs2,0⟩] scope pos) spos) (tAsg (tComp2 wi g tt wi2 g2 tt2 te n fi) (gName i)):=by
 intro pins s σ H D I h
 (rw [exec_Assign_Name_used _ _ _ _ hsw])
 (refine wpAny_bind (wpAny_standAt (wpAny_bind ?_)))
 show wpAny _ X.A (do let _ ← comprehension (.ListComp elt [⟨tg,iter,ifs,0⟩,⟨tg2,iter2,ifs2,0⟩] scope pos) scope X.env _ (newList []) false (eval iter X.env) (some (assign (.Name x pos') X.env))) _ _ s
 refine wpAny_bind (thn (comp_core2 (use:=some (assign (.Name x pos') X.env)) (Q:=fun _ s'=>SP X pins D .next s') hcalm S hit hg hi hit2 hg2 hi2 he I h hs hs2 fun Da C s' H' m I' hm hn hC hL h2 h3 q=>?_) fun _ s' q=>wpAny_pure (wpAny_pure q))
 show wpAny _ _ (assign (.Name x pos') X.env (.ref Da)) _ _ s'
 refine wpAny_assign_Name (store_ok2 (v:=.ref Da) I' hN hxi hx rfl (fun s2 I2 ⟨a,hsb,ha⟩=>?_) hf)
 have hCa:C≠a:=by
  rcases ha with z | z
  ·rw [z];exact hL
  ·exact (h2 x a z).symm
 exact ⟨m,hm.sameBut hsb hCa,fun h' hs'=>⟨_,H',I2.letGo hs' hn hC hL h2 h3,q⟩⟩
end
end L2
namespace L2
open PySem PySem.Spec PyProof.Rows PySem.W
section
variable {X:Cx}{pins:List (Addr×Obj)}{σ:St}{H:Hp}{s:Shared}
theorem mino_args (a v:Value):argsOk "min" ⟨[a],[(Str.ofString "key",v)]⟩:=by unfold argsOk;kernel_rfl
def rMinO (K:PySem.W.Frag) (sp:Sp):V→Hp→VK→Prop:=fun x H Q=>∃ l xs,x = .ref l∧SqL K H l xs∧match xs with
 | []=>False
 | y::r=>sp [y] H (fun k H'=>tMinK K sp l xs r y k H' Q) E0
theorem call_minO {k:Nat}{f:Addr}{fd:FuncData}{ps:List Str}{sp:Sp}{x:V}{u:Value}{Q:VK} (F:FnOk X.prog X.w X.K X.mg X.base CX0 k f fd ps sp) (hr:Room (k+1) X.A) (hb:Binds X.K fd ps []) (hc:X.calm=true) (Iv:Inv X pins σ H s) (rx:RelV x u) (h:rMinO X.K sp x H Q) :
  wpAny (model X.prog X.w) X.A (call (.builtin "min") [u] [(Str.ofString "key",.ref f)]) (EP X pins σ Q) X.xe s:=by
 (have hname:(toString "min" ++ toString ".loop" : String) = "min.loop" :=by decide)
 obtain ⟨l,xs,rfl,hq,q⟩:=h
 cases rx
 obtain ⟨its,rv,pl,_⟩:=Iv.list hq
 have hlen:=rv.length
 have hll:l<s.heap.objs.size:=by obtain ⟨_,e,_⟩:=pl.isList;exact Heap.lt_size e
 refine kmk_tree PySem.F.kind_min PySem.F.plain_min PySem.F.entry_min (mino_args _ _) ?_
 show wpAny _ X.A.in1 (Builtin.Builtins.bindParams "min" ["key", "default"] 0 ⟨[],[(Str.ofString "key",.ref f)]⟩ >>= _) _ _ s
 refine wpAny_bind (wpAny_of_eq (show Builtin.Builtins.bindParams "min" ["key", "default"] 0 ⟨[],[(Str.ofString "key",.ref f)]⟩=pure [some (.ref f),none] from rfl) ?_)
 refine wpAny_bind (wpAny_pure ?_)
 refine wpAny_bind (wpAny_pyIter_list pl.isList ?_)
 refine wpAny_bind (wpAny_newList ?_ (Nat.zero_le _):wpAny _ _ _ _ _ _)
 rw [hname]
 have two:=two_laid (X:=X) (l:=l) Iv hll
 generalize (s.heap.push { cls:=.type "list_iterator",data:=.fields #[.ref l,.int 0 0] }).push (seqObj "list" #[] 0)=h0 at two ⊢
 generalize (s.heap.push { cls:=.type "list_iterator",data:=.fields #[.ref l,.int 0 0] }).objs.size=Sa at two ⊢
 generalize s.heap.objs.size=Ia at two ⊢
 obtain ⟨gI,gS,hkp,I0,fI,fS,hlI,hSI⟩:=two
 have pl0:h0.IsList l its.toArray:=pl.isList.at fun o e=>hkp l o e
 (refine wpAny_pure ⟨plainId_quiet PySem.F.plain_min_loop _,?_⟩)
 cases xs with
 | nil=>
  exact q.elim
 | cons y r=>
  exact min_first (Q:=Q) (keyOk_fn F hr hb) hr hc hlI hSI (fun w' u' H' s' I' r' q'=>⟨w',H',I',r',q'⟩) I0 fI fS gS ⟨_,gI,rfl,rfl⟩ (hq) q
def tMinF (K:PySem.W.Frag) (sp:Sp) (ta:TA):TE:=fun σ H Q=>ta σ H fun vs H1=>∃ x,vs=[x]∧rMinO K sp x H1 Q
end
section
variable {X:Cx}
theorem pe_minO {k:Nat}{f:Addr}{fd:FuncData}{ps:List Str}{sp:Sp}{e:Expr}{ta:TA}{y:Str}{p py pos kp:Pos} (F:FnOk X.prog X.w X.K X.mg X.base CX0 k f fd ps sp) (hr:Room (k+1) X.A) (hb:Binds X.K fd ps []) (hc:X.calm=true)
  (hg:Gl X "min") (hm:X.mg "min" = none) (hgf:Gl X y) (hmf:X.mg y=some (.ref f)) (ha:PA X [e] ta) (hdb:(y == ("__debug__" : Str))=false:=by decide)
  (he:backTo pos (starEach [e] X.env)=(false,eval e X.env)::backTo pos (starEach [] X.env):=by rfl) (hplain:(backTo pos (starEach [e] X.env)).any (·.1)=false:=by rfl)
  (hall:(backToKw pos (keywordEach [⟨some "key",.Name y py,kp⟩] X.env)).all (·.1.isSome)=true:=by rfl) (hkw:(backToKw pos (keywordEach [⟨some "key",.Name y py,kp⟩] X.env)).any (·.1.isNone)=false:=by rfl) :
  PE X (.Call (.Name "min" p) [e] [⟨some "key",.Name y py,kp⟩] pos) (tMinF X.K sp ta):=by
 intro pins s σ H Q I h
 refine wpAny_Call_Name_kw (ld_blt I hg hm bt_min ?_)
 refine callWith_kw (thn (ha pos pins s σ H _ I h) fun us s1 ⟨vs,H1,I1,r1,q1⟩=>?_) he hplain hall hkw
 obtain ⟨x,rfl,q⟩:=q1
 obtain ⟨u,rfl,ru⟩:=r1.one
 refine kws_cons (ld_glob I1 hgf hmf (kws_nil ?_) hdb)
 exact call_minO F hr hb hc I1 ru q
end
end L2
namespace L2
open PySem PySem.Spec PyProof.Rows PySem.W
theorem is_kV {P:Program}{w:World}{k:Key}{u:Value} (h:(mixKind P w).is k u=true):RelV (kV k) u:=by
 rcases keyIs_shape (show keyIs k u=true from h) with ⟨i,t,rfl,rfl⟩ | ⟨x,t,rfl,rfl⟩
 ·exact ⟨t,rfl⟩
 ·exact ⟨t,rfl⟩
section
variable {X:Cx}{tg:Expr}
end
section
variable {X:Cx}{pins:List (Addr×Obj)}{σ:St}{H:Hp}{s:Shared}
end
end L2
namespace L2
open PySem PySem.Spec PyProof.Rows
section
variable {X:Cx}
end
end L2
namespace L2
open PySem PySem.Spec PyProof.Rows
section
variable {P:Program}{w:World}
variable {s:Shared}{A:Around}{E:Value→Shared→Prop}
def byTx (w:World):Bool:=w.params.followText "set-order"
def fSet (w:World):Obj:={ cls:=.type "set",dict:=none,data:=.set #[] 0 (.fresh 0 0 (!byTx w)) }
theorem set_new (a:Value) {Q₁:Value→Shared→Prop} (h:Q₁ (.ref s.heap.objs.size) { s with heap:=s.heap.push (fSet w) }) :
  codeAny (model P w) A (.call (.builtin "set.__new__") ⟨[.type "set",a],[]⟩) (wants Q₁ E) s:=by
 have key:∀ led,led=(!byTx w)→Q₁ (.ref s.heap.objs.size) { s with heap:=s.heap.push { cls:=.type "set",dict:=none,data:=.set #[] 0 (.fresh 0 0 led) } }:=fun led e=>by subst e;exact h
 refine codeAny_of_tree (wpAny_bind (m:=checkBuiltinCall "set.__new__" ⟨[.type "set",a],[]⟩) (wpAny_of_eq (PySem.F.newCall_set_1 a) (wpAny_pure ⟨plainId_quiet PySem.F.plain_set_new _,codeAny_builtin PySem.F.entry_set_new ?_⟩)))
 rw [Around.under_plainId PySem.F.plain_set_new _]
 unfold Builtin.«set.__new__» Builtin.Frozenset.newClass
 have hsub:=sub_set_self
 clear h
 obtain ⟨hp,g,d,tk,os⟩:=s
 dsimp only at key ⊢
 wp_walk
 refine wpAny_askSetting (wpAny_pure ?_)
 dsimp only
 simp only [newObj]
 exact wpAny_bind (wpAny_alloc (wpAny_pure (wpAny_pure (key _ rfl))))
end
end L2
namespace L2
open PySem PySem.Spec PyProof.Rows PySem.W
namespace SF
theorem slot_next:Slot "set_iterator" "__next__" "set_iterator.__next__" :=
 .of (owner:= "set_iterator") (n:= "__next__") (by rw [typeLookup_type,builtinLookup_eq_fast];kernel_rfl) (by decide +kernel) (by decide +kernel) (by decide +kernel) (by first | exact .inl (by decide +kernel) | exact .inr (by decide +kernel)) (by rw [isSubtype_type];kernel_rfl)
theorem slot_iter:Slot "set_iterator" "__iter__" "set_iterator.__iter__" :=
 .of (owner:= "set_iterator") (n:= "__iter__") (by rw [typeLookup_type,builtinLookup_eq_fast];kernel_rfl) (by decide +kernel) (by decide +kernel) (by decide +kernel) (by first | exact .inl (by decide +kernel) | exact .inr (by decide +kernel)) (by rw [isSubtype_type];kernel_rfl)
theorem entry_next:entryFor table "set_iterator.__next__" = some Builtin.«set_iterator.__next__»:=entryFor_of_tree (by kernel_rfl)
theorem args_next (a:Value):argsOk "set_iterator.__next__" ⟨[a],[]⟩:=by unfold argsOk;kernel_rfl
theorem args_iter (a:Value):argsOk "set_iterator.__iter__" ⟨[a],[]⟩:=by unfold argsOk;kernel_rfl
theorem entry_set_iter:entryFor table "set.__iter__" = some Builtin.«frozenset.__iter__»:=entryFor_alias (id':= "frozenset.__iter__") (by kernel_rfl) rfl (by decide +kernel) (by kernel_rfl)
theorem entry_iter:entryFor table "set_iterator.__iter__" = some Builtin.«dict_keyiterator.__iter__»:=entryFor_alias (id':= "dict_keyiterator.__iter__") (by kernel_rfl) rfl (by decide +kernel) (by kernel_rfl)
end SF
section
variable {P:Program}{w:World}{A:Around}{E:Value→Shared→Prop}{s:Shared}
theorem wpAny_choose {M:Model}{src:Source}{n:Nat}{Q:Nat→Shared→Prop} (hn:n≠0) (h:∀ i d,i<n→Q i { s with drawn:=d }):wpAny M A (choose src n) Q E s:=fun Γ p hΓ=>by
 unfold choose
 rw [Sem.wp_choose]
 exact ⟨hn,h _ _ (Nat.mod_lt _ (Nat.pos_of_ne_zero hn))⟩
theorem erase_perm {α:Type}:∀ (l:List α) (i:Nat) (h:i<l.length),(l[i]::l.eraseIdx i).Perm l
 | [],_,h=>by cases h
 | x::r,0,_=>List.Perm.refl _
 | x::r,i+1,h=>by
  have ih:=erase_perm r i (by simpa using h)
  exact (List.Perm.swap _ _ _).trans (List.Perm.cons _ ih)
theorem wpAny_drawOrder {M:Model}{α:Type}:∀ (n:Nat) (xs:List α) (s:Shared) {Q:List α→Shared→Prop},xs.length=n→(∀ ys d,ys.Perm xs→Q ys { s with drawn:=d })→wpAny M A (drawOrder n xs) Q E s
 | 0,xs,s,Q,hn,h=>by
  have:xs=[]:=List.length_eq_zero_iff.mp hn
  subst this
  exact wpAny_pure (h [] s.drawn (List.Perm.refl _))
 | n+1,[],s,Q,hn,h=>by cases hn
 | n+1,x::xs,s,Q,hn,h=>by
  unfold drawOrder
  refine wpAny_bind (wpAny_choose (by simp) fun i d hi=>?_)
  rw [List.getElem?_eq_getElem hi]
  dsimp only
  refine wpAny_bind (wpAny_drawOrder n _ _ (by rw [List.length_eraseIdx_of_lt hi];simpa using hn) fun ys d' hp=>wpAny_pure (h _ d' ?_))
  exact (List.Perm.cons _ hp).trans (erase_perm _ i hi)
def sitO (first:Value) (i:Nat) (a:Addr) (n ep:Nat):Obj:={ cls:=.type "set_iterator",data:=.fields #[first,.int i 0,.ref a,.int n 0,.int ep 0] }
structure SAt (h:Heap) (a:Addr) (es:Array (Int×Value)) (ep:Nat) (t:SetTable):Prop where
 ob:∃ o,h.get? a=some o∧o.ExactSet∧o.data = .set es ep t
 ft:t.fits es.size=true
theorem wpAny_entries {a:Addr}{es:Array (Int×Value)}{ep:Nat}{tb:SetTable}{Q:Array (Int×Value)→Shared→Prop} (hs:SAt s.heap a es ep tb) (h:Q es s):wpAny (model P w) A (setEntries a) Q E s:=by
 obtain ⟨o,ho,_,hd⟩:=hs.ob
 exact wpAny_bind (wpAny_setState_of ho hd hs.ft (wpAny_pure h))
theorem size_same (n:Nat):¬ (((n:Int) != (n:Int))=true):=by simp
theorem stop_now {M:Model}{α:Type}{R:α→Shared→Prop} (hh:A.handled=none) (h:∀ h' e o,(∀ b o,s.heap.get? b=some o→h'.get? b=some o)→h'.get? e=some o→o.cls = .type "StopIteration" → E (.ref e) { s with heap:=h' }):wpAny M A (newExc (.type "StopIteration") [] >>= fun e=>(raiseNew e:Sem α)) R E s:=by
 refine wpAny_bind ?_
 unfold newExc newTuple
 refine wpAny_bind (wpAny_newObj_type ?_ (by size_fits))
 have fa:(firstArgMember (.type "StopIteration") []:Sem Value)=pure Value.none:=by first | rfl | (unfold firstArgMember;rfl)
 rw [fa]
 refine wpAny_bind (wpAny_pure (wpAny_newObj_type ?_ (by size_fits)))
 unfold raiseNew
 refine wpAny_bind (wpAny_handled ?_)
 rw [hh]
 exact wpAny_bind (wpAny_pure (wpAny_throw (h _ _ _ (fun b o e=>Heap.get?_push_of_some _ (Heap.get?_push_of_some _ e)) (Heap.get?_push_size _ rfl) rfl)))
theorem sit_call {it a:Addr}{first:Value}{i n ep:Nat}{Q:Option Value→Shared→Prop} (hit:s.heap.get? it=some (sitO first i a n ep))
  (h:wpAny (model P w) A.in1 (Builtin.«set_iterator.__next__» ⟨[.ref it],[]⟩) (fun f s'=>∃ v,f = .done (.ret v)∧Q (some v) s') (fun e s'=>∃ b o,e = .ref b∧s'.heap.get? b=some o∧o.cls = .type "StopIteration" ∧ Q none s') s) :
  wpAny (model P w) A (pyNext (.ref it)) Q E s:=by
 have hty:s.TypeIs (.ref it) "set_iterator" :=⟨_,hit,rfl⟩
 unfold pyNext
 refine wpAny_bind (wpAny_attempt (wpAny_callSpecial?_slot (name:=Str.ofString "__next__") hty SF.slot_next (wpAny_call_entry SF.slot_next hty SF.entry_next ?_ (SF.args_next _))))
 refine wpAny_mono h (fun f s' ⟨v,e,q⟩=>?_) fun e s' ⟨b,o,eb,ho,hc,q⟩=>?_
 ·exact ⟨v,e,wpAny_pure q⟩
 ·subst eb
  exact wpAny_bind (wpAny_isInstance (T:= "StopIteration") (b:=true) ⟨o,ho,hc⟩ isSubtype_stop (wpAny_pure q))
theorem sit_set {it a:Addr}{first x:Value}{i n ep k:Nat}{vs:Array Value}{Q:Unit→Shared→Prop} (hit:s.heap.get? it=some { cls:=.type "set_iterator",data:=.fields vs }) (hk:k<vs.size)
  (h:∀ h',Heap.SameBut it s.heap h'→h'.get? it=some { cls:=.type "set_iterator",data:=.fields (vs.setIfInBounds k x) }→Q () { s with heap:=h' }):wpAny (model P w) A (setField (.ref it) k x) Q E s:=
 wpAny_setField_rec hit hk fun h' e sb=>h h' sb e
theorem sit_some {it a:Addr}{slot i ep nx:Nat}{x:Value}{es:Array (Int×Value)}{tb:SetTable}{Q:Option Value→Shared→Prop} (hit:s.heap.get? it=some (sitO (.int slot 0) i a es.size ep)) (hs:SAt s.heap a es ep tb)
  (hn:∀ (A:Around) (E:Value→Shared→Prop) (R:Option (Value×Nat)→Shared→Prop),R (some (x,nx)) s→wpAny (model P w) A (setNext a slot i ep) R E s)
  (h:∀ h',Heap.SameBut it s.heap h'→h'.get? it=some (sitO (.int nx 0) (i+1:Nat) a es.size ep)→Q (some x) { s with heap:=h' }):wpAny (model P w) A (pyNext (.ref it)) Q E s:=by
 refine sit_call hit ?_
 unfold Builtin.«set_iterator.__next__»
 refine wpAny_bind (wpAny_pure ?_)
 refine wpAny_bind (wpAny_fieldsOf hit rfl ?_)
 show wpAny _ _ (setEntries a >>= _) _ _ _
 refine wpAny_bind (wpAny_entries hs ?_)
 rw [if_neg (size_same es.size)]
 show wpAny _ _ (setNext a slot i ep >>= _) _ _ _
 refine wpAny_bind (hn _ _ _ ?_)
 dsimp only
 refine wpAny_bind (sit_set (a:=a) (first:=x) (i:=i) (n:=0) (ep:=ep) hit (by simp) fun h1 sb1 hit1=>?_)
 refine wpAny_bind (sit_set (a:=a) (first:=x) (i:=i) (n:=0) (ep:=ep) hit1 (by simp) fun h2 sb2 hit2=>?_)
 exact wpAny_pure ⟨x,rfl,h h2 (sb1.trans sb2) hit2⟩
theorem sit_none {it a:Addr}{slot i ep:Nat}{es:Array (Int×Value)}{tb:SetTable}{Q:Option Value→Shared→Prop} (hh:A.handled=none) (hit:s.heap.get? it=some (sitO (.int slot 0) i a es.size ep)) (hs:SAt s.heap a es ep tb)
  (hn:∀ (A:Around) (E:Value→Shared→Prop) (R:Option (Value×Nat)→Shared→Prop),R none s→wpAny (model P w) A (setNext a slot i ep) R E s)
  (h:∀ h',(∀ b o,b≠it→s.heap.get? b=some o→h'.get? b=some o)→Q none { s with heap:=h' }):wpAny (model P w) A (pyNext (.ref it)) Q E s:=by
 refine sit_call hit ?_
 unfold Builtin.«set_iterator.__next__»
 refine wpAny_bind (wpAny_pure ?_)
 refine wpAny_bind (wpAny_fieldsOf hit rfl ?_)
 show wpAny _ _ (setEntries a >>= _) _ _ _
 refine wpAny_bind (wpAny_entries hs ?_)
 rw [if_neg (size_same es.size)]
 show wpAny _ _ (setNext a slot i ep >>= _) _ _ _
 refine wpAny_bind (hn _ _ _ ?_)
 dsimp only
 refine wpAny_bind (sit_set (a:=a) (first:=.none) (i:=i) (n:=0) (ep:=ep) hit (by simp) fun h1 sb1 hit1=>?_)
 refine stop_now (s:={ s with heap:=h1 }) (show A.in1.handled=none from hh) fun h' e o hk ho hc=>⟨e,o,rfl,ho,hc,h h' fun b ob hb he=>hk b ob ((sb1.2 b hb).trans he)⟩
theorem sit_someT {it a T:Addr}{i ep k:Nat}{hx:Int}{x:Value}{ps:List Nat}{es:Array (Int×Value)}{tb:SetTable}{oT:Obj}{nT:Nat}{Q:Option Value→Shared→Prop} (hit:s.heap.get? it=some (sitO (.ref T) i a es.size ep)) (hs:SAt s.heap a es ep tb)
  (hT:s.heap.get? T=some oT) (dT:oT.data = .seq (ps.map fun (j:Nat)=>rawInt j).toArray nT) (hp:ps[i]? = some k) (he:es[k]? = some (hx,x)) (h:∀ h',Heap.SameBut it s.heap h'→h'.get? it=some (sitO (.ref T) (i+1:Nat) a es.size ep)→Q (some x) { s with heap:=h' }) :
  wpAny (model P w) A (pyNext (.ref it)) Q E s:=by
 refine sit_call hit ?_
 unfold Builtin.«set_iterator.__next__»
 refine wpAny_bind (wpAny_pure ?_)
 refine wpAny_bind (wpAny_fieldsOf hit rfl ?_)
 show wpAny _ _ (setEntries a >>= _) _ _ _
 refine wpAny_bind (wpAny_entries hs ?_)
 rw [if_neg (size_same es.size)]
 show wpAny _ _ (seqItems? (.ref T) >>= _) _ _ _
 refine wpAny_bind (wpAny_seqItems hT dT ?_)
 have e1:(ps.map fun (j:Nat)=>rawInt j).toArray[(i:Int).toNat]? = some (.int k 0):=by
  rw [Int.toNat_natCast,List.getElem?_toArray,List.getElem?_map,hp];rfl
 dsimp only
 rw [e1]
 dsimp only
 refine wpAny_bind ?_
 unfold setNextDrawn
 obtain ⟨o,ho,_,hd⟩:=hs.ob
 refine wpAny_bind (wpAny_setState_of ho hd hs.ft ?_)
 dsimp only
 rw [if_neg (by simp)]
 refine wpAny_bind (wpAny_pure ?_)
 rw [Int.toNat_natCast,he]
 refine wpAny_pure ?_
 refine wpAny_bind (sit_set (a:=a) (first:=x) (i:=i) (n:=0) (ep:=ep) hit (by simp) fun h1 sb1 hit1=>?_)
 exact wpAny_pure ⟨x,rfl,h h1 sb1 hit1⟩
theorem sit_noneT {it a T:Addr}{i ep:Nat}{ps:List Nat}{es:Array (Int×Value)}{tb:SetTable}{oT:Obj}{nT:Nat}{Q:Option Value→Shared→Prop} (hh:A.handled=none) (hit:s.heap.get? it=some (sitO (.ref T) i a es.size ep)) (hs:SAt s.heap a es ep tb)
  (hT:s.heap.get? T=some oT) (dT:oT.data = .seq (ps.map fun (j:Nat)=>rawInt j).toArray nT) (hp:ps[i]? = none) (h:∀ h',(∀ b o,b≠it→s.heap.get? b=some o→h'.get? b=some o)→Q none { s with heap:=h' }) :
  wpAny (model P w) A (pyNext (.ref it)) Q E s:=by
 refine sit_call hit ?_
 unfold Builtin.«set_iterator.__next__»
 refine wpAny_bind (wpAny_pure ?_)
 refine wpAny_bind (wpAny_fieldsOf hit rfl ?_)
 show wpAny _ _ (setEntries a >>= _) _ _ _
 refine wpAny_bind (wpAny_entries hs ?_)
 rw [if_neg (size_same es.size)]
 show wpAny _ _ (seqItems? (.ref T) >>= _) _ _ _
 refine wpAny_bind (wpAny_seqItems hT dT ?_)
 have e1:(ps.map fun (j:Nat)=>rawInt j).toArray[(i:Int).toNat]? = none:=by
  rw [Int.toNat_natCast,List.getElem?_toArray,List.getElem?_map,hp];rfl
 dsimp only
 rw [e1]
 dsimp only
 refine wpAny_bind (sit_set (a:=a) (first:=.none) (i:=i) (n:=0) (ep:=ep) hit (by simp) fun h1 sb1 hit1=>?_)
 refine wpAny_bind (sit_set (a:=a) (first:=.none) (i:=i) (n:=0) (ep:=ep) hit1 (by simp) fun h2 sb2 hit2=>?_)
 refine stop_now (s:={ s with heap:=h2 }) (show A.in1.handled=none from hh) fun h' e o hk ho hc=>⟨e,o,rfl,ho,hc,h h' fun b ob hb he=>hk b ob (((sb1.trans sb2).2 b hb).trans he)⟩
theorem pick_perm {α:Type} (next:Nat→Nat):∀ (n k:Nat) (l:List α) (out:Array α),l.length=n→((pickOrder.go next n k l out).toList).Perm (out.toList++l)
 | 0,k,l,out,hn=>by
  have:l=[]:=List.length_eq_zero_iff.mp hn
  subst this
  unfold pickOrder.go
  simp
 | n+1,k,l,out,hn=>by
  unfold pickOrder.go
  have hl:next k % l.length<l.length:=Nat.mod_lt _ (by lia)
  rw [List.getElem?_eq_getElem hl]
  dsimp only
  refine (pick_perm next n (k+1) _ _ (by rw [List.length_eraseIdx_of_lt hl];lia)).trans ?_
  rw [Array.toList_push,List.append_assoc]
  exact List.Perm.append_left _ (erase_perm l _ hl)
theorem setNext_text {a:Addr}{slot i ep:Nat}{es:Array (Int×Value)}{tb:SetTable}{R:Option (Value×Nat)→Shared→Prop} (hb:byTx w=true) (hs:SAt s.heap a es ep tb)
  (h:R (((pickOrder (w.params.setOrder a ep) es)[i]?).map fun e=>(e.2,slot)) s):wpAny (model P w) A (setNext a slot i ep) R E s:=by
 obtain ⟨o,ho,_,hd⟩:=hs.ob
 unfold setNext setsByText
 refine wpAny_bind (wpAny_setState_of ho hd hs.ft ?_)
 dsimp only
 refine wpAny_bind (wpAny_bind (wpAny_askSetting (wpAny_pure ?_)))
 show wpAny _ _ (if byTx w=true then _ else _) _ _ _
 rw [if_pos hb,if_neg (by simp)]
 refine wpAny_bind ?_
 unfold setWalk setsByText
 refine wpAny_bind (wpAny_setState_of ho hd hs.ft ?_)
 dsimp only
 refine wpAny_bind (wpAny_bind (wpAny_askSetting (wpAny_pure ?_)))
 show wpAny _ _ (if byTx w=true then _ else _) _ _ _
 rw [if_pos hb]
 exact wpAny_bind (wpAny_askSetting (wpAny_pure (wpAny_pure h)))
theorem setNext_one {a:Addr}{slot i ep:Nat}{es:Array (Int×Value)}{tb:SetTable}{R:Option (Value×Nat)→Shared→Prop} (hb:byTx w=false) (hl:tb.led=true) (h1:es.size≤1) (hs:SAt s.heap a es ep tb)
  (h:R (match es[SetTable.below tb.place slot]?,tb.place[SetTable.below tb.place slot]? with | some (_,x),some j=>some (x,j+1) | _,_=>none) s):wpAny (model P w) A (setNext a slot i ep) R E s:=by
 obtain ⟨o,ho,_,hd⟩:=hs.ob
 unfold setNext setsByText
 refine wpAny_bind (wpAny_setState_of ho hd hs.ft ?_)
 dsimp only
 refine wpAny_bind (wpAny_bind (wpAny_askSetting (wpAny_pure ?_)))
 show wpAny _ _ (if byTx w=true then _ else _) _ _ _
 rw [if_neg (by rw [hb];decide)]
 refine wpAny_bind (wpAny_pure ?_)
 show wpAny _ _ (if (!tb.plain && decide (es.size > 1))=true then _ else _) _ _ _
 rw [if_neg (by simp;lia)]
 refine wpAny_bind ?_
 show wpAny _ _ (if (!tb.led && !es.isEmpty)=true then _ else _) _ _ _
 rw [if_neg (by simp [hl])]
 exact wpAny_pure (wpAny_pure h)
theorem below_zero (xs:Array Nat) (h:xs.size≤1):SetTable.below xs 0=0:=by
 unfold SetTable.below
 have:xs.size=0∨xs.size=1:=by lia
 rcases this with e | e
 ·rw [e];rfl
 ·rw [e]
  show SetTable.below.go xs 0 1 0 1=0
  unfold SetTable.below.go
  simp [SetTable.below.go]
theorem below_next (j:Nat):SetTable.below #[j] (j+1)=1:=by
 unfold SetTable.below
 show SetTable.below.go #[j] (j+1) 1 0 1=1
 unfold SetTable.below.go
 simp [SetTable.below.go]
structure Handed (es:Array (Int×Value)) (vs:List Value):Prop where
 perm:vs.Perm (es.toList.map (·.2))
theorem sat_keep {h h':Heap}{a:Addr}{es:Array (Int×Value)}{ep:Nat}{t:SetTable} (x:SAt h a es ep t) (k:∀ o,h.get? a=some o→h'.get? a=some o):SAt h' a es ep t:=by
 obtain ⟨o,e,r⟩:=x.ob
 exact ⟨⟨o,k o e,r⟩,x.ft⟩
theorem sit_self {it a:Addr}{first:Value}{i n ep:Nat}{Q:Value→Shared→Prop} (hit:s.heap.get? it=some (sitO first i a n ep)) (h:Q (.ref it) s):wpAny (model P w) A (pyIter (.ref it)) Q E s:=by
 have hty:s.TypeIs (.ref it) "set_iterator" :=⟨_,hit,rfl⟩
 refine wpAny_pyIter_slot hty SF.slot_iter (wpAny_call_entry SF.slot_iter hty SF.entry_iter ?_ (SF.args_iter _))
 exact wpAny_pure ⟨_,rfl, "set_iterator",_,hty,SF.slot_next.lookup,h⟩
theorem walk_text {it a:Addr}{ep:Nat}{es:Array (Int×Value)}{tb:SetTable} (hh:A.handled=none) (hne:a≠it) (hb:byTx w=true) :
  Walks P w A it [it,a] [it] es.size (fun i v=>((pickOrder (w.params.setOrder a ep) es).toList.map (·.2))[i]? = some v) (fun i h=>h.get? it=some (sitO (.int 0 0) i a es.size ep)∧SAt h a es ep tb) where
 sub:=fun b hb=>by rw [List.mem_singleton.mp hb];exact .head _
 frame:=fun i h h' st k=>⟨k it (by simp) _ st.1,sat_keep st.2 fun o e=>k a (by simp) o e⟩
 item:=fun i s Q E hi st hQ=>by
  have hl:(pickOrder (w.params.setOrder a ep) es).size=es.size:=by
   have:=(pick_perm (w.params.setOrder a ep) es.size 0 es.toList #[] (by simp)).length_eq
   unfold pickOrder
   simpa using this
  have hi':i<(pickOrder (w.params.setOrder a ep) es).size:=by lia
  refine sit_some (slot:=0) (nx:=0) (x:=(pickOrder (w.params.setOrder a ep) es)[i].2) st.1 st.2 (fun A E R hR=>setNext_text hb st.2 (by rw [Array.getElem?_eq_getElem hi'];exact hR)) fun h' sb hit=>?_
  refine hQ _ h' s.toks ?_ ⟨hit,sat_keep st.2 fun o e=>(sb.2 a hne).trans e⟩ fun b o hb e=>(sb.2 b (by simpa using hb)).trans e
  rw [List.getElem?_map,Array.getElem?_toList,Array.getElem?_eq_getElem hi']
  rfl
 done:=fun s Q E st hQ=>by
  have hl:(pickOrder (w.params.setOrder a ep) es).size=es.size:=by
   have:=(pick_perm (w.params.setOrder a ep) es.size 0 es.toList #[] (by simp)).length_eq
   unfold pickOrder
   simpa using this
  refine sit_none (slot:=0) hh st.1 st.2 (fun A E R hR=>setNext_text hb st.2 (by rw [Array.getElem?_eq_none (by lia)];exact hR)) fun h' k=>hQ h' s.toks fun b o hb e=>k b o (by simpa using hb) e
 self:=fun i s Q E st h=>sit_self st.1 h
theorem walk_drawn {it a T:Addr}{ep nT:Nat}{oT:Obj}{ps:List Nat}{es:Array (Int×Value)}{tb:SetTable} (hh:A.handled=none) (hne:a≠it) (hnT:T≠it) (hp:ps.Perm (List.range es.size)) (dT:oT.data = .seq (ps.map fun (j:Nat)=>rawInt j).toArray nT) :
  Walks P w A it [it,a,T] [it] es.size (fun i v=>(ps.map fun k=>(es.getD k (0,.none)).2)[i]? = some v) (fun i h=>h.get? it=some (sitO (.ref T) i a es.size ep)∧SAt h a es ep tb∧h.get? T=some oT) where
 sub:=fun b hb=>by rw [List.mem_singleton.mp hb];exact .head _
 frame:=fun i h h' st k=>⟨k it (by simp) _ st.1,sat_keep st.2.1 fun o e=>k a (by simp) o e,k T (by simp) _ st.2.2⟩
 item:=fun i s Q E hi st hQ=>by
  have hl:ps.length=es.size:=by rw [hp.length_eq];simp
  have hi':i<ps.length:=by lia
  have hk:ps[i]<es.size:=by have:=hp.mem_iff.mp (List.getElem_mem hi');simpa using this
  refine sit_someT (hx:=es[ps[i]].1) (x:=es[ps[i]].2) st.1 st.2.1 st.2.2 dT (List.getElem?_eq_getElem hi') (Array.getElem?_eq_getElem hk) fun h' sb hit=>?_
  refine hQ _ h' s.toks ?_ ⟨hit,sat_keep st.2.1 fun o e=>(sb.2 a hne).trans e,(sb.2 T hnT).trans st.2.2⟩ fun b o hb e=>(sb.2 b (by simpa using hb)).trans e
  rw [List.getElem?_map,List.getElem?_eq_getElem hi',Option.map_some]
  simp [Array.getD,hk]
 done:=fun s Q E st hQ=>by
  have hl:ps.length=es.size:=by rw [hp.length_eq];simp
  refine sit_noneT hh st.1 st.2.1 st.2.2 dT (List.getElem?_eq_none (by lia)) fun h' k=>hQ h' s.toks fun b o hb e=>k b o (by simpa using hb) e
 self:=fun i s Q E st h=>sit_self st.1 h
theorem walk_one {it a:Addr}{ep:Nat}{es:Array (Int×Value)}{tb:SetTable} (hh:A.handled=none) (hne:a≠it) (hb:byTx w=false) (hl:tb.led=true) (h1:es.size≤1) (hf:tb.fits es.size=true) :
  Walks P w A it [it,a] [it] es.size (fun i v=>(es.toList.map (·.2))[i]? = some v) (fun i h=>h.get? it=some (sitO (.int (if i=0 then 0 else tb.place.getD 0 0+1:Nat) 0) i a es.size ep)∧SAt h a es ep tb) where
 sub:=fun b hb=>by rw [List.mem_singleton.mp hb];exact .head _
 frame:=fun i h h' st k=>⟨k it (by simp) _ st.1,sat_keep st.2 fun o e=>k a (by simp) o e⟩
 item:=fun i s Q E hi st hQ=>by
  obtain rfl:i=0:=by lia
  have hpl:tb.place.size=es.size:=by simp only [SetTable.fits,Bool.and_eq_true,beq_iff_eq] at hf;exact hf.1
  have e0:=below_zero tb.place (by lia)
  have hp0:0<tb.place.size:=by lia
  refine sit_some (slot:=0) (nx:=tb.place[0]+1) (x:=es[0].2) st.1 st.2 (fun A E R hR=>setNext_one hb hl h1 st.2 (by rw [e0,Array.getElem?_eq_getElem hi,Array.getElem?_eq_getElem hp0];exact hR)) fun h' sb hit=>?_
  refine hQ _ h' s.toks ?_ ⟨?_,sat_keep st.2 fun o e=>(sb.2 a hne).trans e⟩ fun b o hb e=>(sb.2 b (by simpa using hb)).trans e
  ·rw [List.getElem?_map,Array.getElem?_toList,Array.getElem?_eq_getElem hi]
   rfl
  ·rw [hit]
   simp [Array.getD,hp0]
 done:=fun s Q E st hQ=>by
  have hpl:tb.place.size=es.size:=by simp only [SetTable.fits,Bool.and_eq_true,beq_iff_eq] at hf;exact hf.1
  refine sit_none hh st.1 st.2 (fun A E R hR=>setNext_one hb hl h1 st.2 ?_) fun h' k=>hQ h' s.toks fun b o hb e=>k b o (by simpa using hb) e
  rcases Nat.lt_or_ge 0 es.size with z | z
  ·have z1:es.size=1:=by lia
   obtain ⟨j,ej⟩:∃ j,tb.place = #[j]:=by
    match hq:tb.place,(show tb.place.size=1 by lia) with
    | ⟨[j]⟩,_=>exact ⟨j,rfl⟩
   rw [if_neg (by lia),ej]
   have:(#[j]:Array Nat).getD 0 0=j:=rfl
   rw [this,below_next,Array.getElem?_eq_none (by lia)]
   exact hR
  ·rw [if_pos (by lia),below_zero tb.place (by lia),Array.getElem?_eq_none z]
   exact hR
 self:=fun i s Q E st h=>sit_self st.1 h
end
end L2
namespace L2
open PySem PySem.Spec PyProof.Rows PySem.W
section
variable {P:Program}{w:World}{A:Around}{E:Value→Shared→Prop}{s:Shared}
theorem setDrawn_of {a:Addr}{es:Array (Int×Value)}{ep:Nat}{tb:SetTable}{Q:Bool→Shared→Prop} (hs:SAt s.heap a es ep tb) (h:Q (!byTx w && (!tb.plain && decide (es.size > 1))) s):wpAny (model P w) A (setDrawn a) Q E s:=by
 obtain ⟨o,ho,_,hd⟩:=hs.ob
 unfold setDrawn setsByText
 refine wpAny_bind (wpAny_setState_of ho hd hs.ft ?_)
 dsimp only
 exact wpAny_bind (wpAny_bind (wpAny_askSetting (wpAny_pure (wpAny_pure h))))
theorem range_take {es:Array (Int×Value)}{ps:List Nat} (hp:ps.Perm (List.range es.size)):(ps.map fun k=>(es.getD k (0,.none)).2).Perm (es.toList.map (·.2)):=by
 refine (hp.map _).trans ?_
 have e:(List.range es.size).map (fun k=>(es.getD k (0,.none)).2)=es.toList.map (·.2):=by
  apply List.ext_getElem?
  intro i
  rw [List.getElem?_map,List.getElem?_map]
  by_cases hi:i<es.size
  ·rw [List.getElem?_range hi]
   simp [Array.getD,hi]
  ·rw [List.getElem?_eq_none (by simp;lia),List.getElem?_eq_none (by simp;lia)]
   rfl
 rw [e]
theorem hint_set {r:Addr}{Q:Bool→Shared→Prop} (hT:s.TypeIs (.ref r) "set") (h:Q false s):wpAny (model P w) A (Builtin.List.listLengthHint (.ref r)) Q E s:=by
 unfold Builtin.List.listLengthHint
 refine wpAny_bind (wpAny_specialOf hT PySem.F.slot_set_len.lookup ?_)
 generalize hid:("set.__len__" : String)=id0
 wp_delta
 have sp:splitId id0=some ("set", "__len__"):=by subst hid;decide +kernel
 rw [sp]
 subst hid
 refine wpAny_bind (wpAny_isInstance (T:= "set") (b:=true) hT (by rw [isSubtype_type];kernel_rfl) ?_)
 refine wpAny_ite_split (fun z=>absurd z (by decide)) fun _=>?_
 refine wpAny_ite_split (fun _=>?_) fun z=>absurd (by decide +kernel) z
 exact wpAny_bind (wpAny_typeOf hT (wpAny_pure h))
end
section
variable {X:Cx}{x y:Str}{p q pos pos2:Pos}{e:Expr}{t:TA}{id:String}{r:List Str→Hp→VK→Prop}
theorem Inv.setd {pins:List (Addr×Obj)}{σ:St}{H:Hp}{s:Shared}{h':Heap}{tk:Nat}{d:Drawn} (I:Inv X pins σ H s) (k:∀ b o,s.heap.get? b=some o→h'.get? b=some o):Inv X pins σ H { s with heap:=h',toks:=tk,drawn:=d }:=by
 have J:=I.kept (t':=tk) k
 exact ⟨J.ok,J.os,J.bare,J.base,J.loc,J.cell,J.free,J.freeC,J.pin,J.hok,J.len⟩
end
section
variable {X:Cx}
end
end L2
namespace L2
open PySem PySem.Spec PyProof.Rows PySem.W
structure PAi (X:Cx) (es:List Expr) (t:TA):Prop where
 go:PA X es t
structure PSi (X:Cx) (st:Stmt) (t:TS):Prop where
 go:PS X st t
structure PSsi (X:Cx) (st:List Stmt) (t:TS):Prop where
 go:PSs X st t
section
variable {X:Cx}
theorem vals_signs {z:Str}{acc:Array Value} (h:ItemsOf (SignAt z) acc z.cps.size):Vals (z.cps.toList.map fun c=>V.str ⟨#[c]⟩) acc.toList:=by
 have key:∀ (l:List Nat) (us:List Value),us.length=l.length→(∀ (i:Nat) v,us[i]? = some v→∃ c u,l[i]? = some c∧v = .str ⟨#[c]⟩ u)→Vals (l.map fun c=>V.str ⟨#[c]⟩) us:=by
  intro l
  induction l with
  | nil=>intro us hl _;rw [List.length_eq_zero_iff.mp hl];exact .nil
  | cons c l ih=>
   intro us hl k
   cases us with
   | nil=>cases hl
   | cons u us=>
    obtain ⟨c',t,e1,e2⟩:=k 0 u rfl
    cases e1
    exact .cons ⟨t,e2⟩ (ih us (by simpa using hl) fun i v hv=>k (i+1) v hv)
 refine key z.cps.toList acc.toList (by rw [Array.length_toList,Array.length_toList];exact h.1) fun i v hv=>?_
 rw [Array.getElem?_toList] at hv
 obtain ⟨c,u,e1,e2⟩:=h.2 i v hv
 exact ⟨c,u,by rw [Array.getElem?_toList];exact e1,e2⟩
theorem bt_set:bootBuiltins "set" = some (.type "set"):=by decide +kernel
def rListT:List V→Hp→VK→Prop:=fun xs H Q=>∃ z:Str,xs=[.str z]∧z.length<1000∧∀ l,H l=none→Q (.ref l) (upd H l (.lst (z.cps.toList.map fun c=>V.str ⟨#[c]⟩)))
theorem call_listT (hc:X.calm=true):CallR X (.type "list") rListT:=by
 intro pins s σ H xs us Q I r h
 obtain ⟨z,rfl,hz,q⟩:=h
 obtain ⟨u,rfl,t,rfl⟩:=vals1 r
 have hz':z.cps.size<1000:=hz
 refine call_list_str (I.ok.hd hc) z t (fun h' tk acc c' kp e ia=>?_) (by rw [sizeLine_eq];lia)
 have e':h'.get? s.heap.objs.size=some { cls:=.type "list",data:=.seq acc.toList.toArray c' }:=by rw [Array.toArray_toList];exact e
 exact ⟨.ref s.heap.objs.size,_,I.laid (t':=tk) kp (Nat.le_refl _) (show ObjOk X.prog X.w _ h' _ (.lst _) from ⟨by rw [List.length_map,Array.length_toList,sizeLine_eq];lia,acc.toList,c',vals_signs ia,e'⟩),rfl,q _ (I.hok.fresh (Nat.le_refl _))⟩
end
end L2
namespace L2
open PySem PySem.Spec PyProof.Rows
end L2
namespace L2
open PySem PySem.Spec PyProof.Rows
def strV:PyData→Str
 | .str x=>x
 | d=>d.shown
structure Showy (d:PyData):Prop where
 able:d.showable=true
 nod:d.hasDict=false
 dep:d.depth≤100
 len:(∀ x,d ≠ .str x)→d.shown.length≤sizeLine
def rStr (K:PySem.W.Frag):List V→Hp→VK→Prop:=fun vs H Q=>∃ x d,vs=[x]∧Den K H x d∧Showy d∧Q (.str (strV d)) H
theorem bt_str':bootBuiltins "str" = some (.type "str"):=by decide +kernel
section
variable {X:Cx}
theorem call_strD {k:Nat} (hr:Room k X.A):CallR X (.type "str") (rStr X.K):=by
 intro pins s σ H xs us Q I rv h
 obtain ⟨x,d,rfl,hd,ok,q⟩:=h
 obtain ⟨u,rfl,ru⟩:=vals1 rv
 have hu:=hr.un
 have big:∀ a d,Den X.K H (.ref a) d→(∀ x,d ≠ .str x)→Showy d→Q (.str d.shown) H→wpAny (model X.prog X.w) X.A (call (.type "str") [.ref a]) (EP X pins σ Q) X.xe s:=fun a d hd hn ok q=>by
  obtain ⟨as,r⟩:=I.reads (u:=.ref a) hd rfl
  refine str_of_reads (h₀:=s.heap) r ok.able (fun e=>by rw [ok.nod] at e;cases e) hr.gd (by have:=ok.dep;lia) (fun b o e=>e) (fun h' u tk hk=>?_) (ok.len hn)
  exact ⟨.str d.shown,H,I.kept (t':=tk) hk,⟨u,rfl⟩,q⟩
 cases hd with
 | non=>cases ru;exact P.str_of_none ⟨.str "None",H,I.tok _,⟨_,rfl⟩,by simpa only [strV,PyData.shown] using q⟩
 | bl b=>cases ru;exact P.str_of_bool ⟨.str (if b then "True" else "False" : Str),H,I.tok _,⟨_,rfl⟩,by simpa only [strV,PyData.shown] using q⟩
 | int i=>
  obtain ⟨t,rfl⟩:=ru
  exact P.str_of_int (by simpa [PyData.showable] using ok.able) ⟨.str (toString i:String),H,I.tok _,⟨_,rfl⟩,by simpa only [strV,PyData.shown] using q⟩
 | str h=>
  obtain ⟨t,rfl⟩:=ru
  exact P.str_of_str ⟨.str _,H,I,⟨_,rfl⟩,q⟩
 | lst h t=>
  cases ru
  exact big _ _ (.lst h t) (fun _ e=>by cases e) ok q
 | tup h t=>
  cases ru
  exact big _ _ (.tup h t) (fun _ e=>by cases e) ok q
end
section
variable {X:Cx}
structure PAj (X:Cx) (es:List Expr) (t:TA):Prop where
 go:PA X es t
theorem paj_nil:PAj X [] tNil:=⟨pa_nil⟩
theorem paj_cons {e:Expr}{es:List Expr}{te:TE}{t:TA} (ha:PE X e te) (h:PAj X es t) (hs:starEach (e::es) X.env=(false,eval e X.env)::starEach es X.env:=by rfl):PAj X (e::es) (tCons te t):=⟨pa_cons ha h.go hs⟩
theorem pe_lstj {es:List Expr}{t:TA}{pos:Pos} (h:PAj X es t):PE X (.List es pos) (tLst t):=pe_lst h.go
structure PSj (X:Cx) (st:Stmt) (t:TS):Prop where
 go:PS X st t
structure PSsj (X:Cx) (st:List Stmt) (t:TS):Prop where
 go:PSs X st t
end
end L2
namespace L2
open PySem PySem.Spec PyProof.Rows
section
variable {X:Cx}{pins:List (Addr×Obj)}{σ:St}{H:Hp}{s:Shared}{a:Addr}{kvs:List (Key×V)}{k:Key}{x:V}{u r:Value}{A:Around}{E:Value→Shared→Prop}
end
section
variable {X:Cx}{o e f:Expr}{apos cpos:Pos}{td ty tx:TE}
end
section
variable {X:Cx}{x:Str}{p apos cpos pos:Pos}{o:Expr}{td:TE}
end
end L2
namespace L2
open PySem PySem.Spec PyProof.Rows
section
open SetTable
def hdI (mask:Nat) (b:Nat):Nat→Nat×Nat
 | 0=>(b % (mask+1),b)
 | n+1=>leap mask (hdI mask b n).1 (hdI mask b n).2
theorem hd_per (mask b:Nat):∀ n,(hdI mask b n).2=b / 32 ^ n
 | 0=>by simp [hdI]
 | n+1=>by
  show (hdI mask b n).2 / 32=_
  rw [hd_per mask b n,Nat.div_div_eq_div_mul,Nat.pow_succ]
theorem hd_lt (mask b:Nat):∀ n,(hdI mask b n).1<mask+1
 | 0=>Nat.mod_lt _ (Nat.succ_pos _)
 | n+1=>Nat.mod_lt _ (Nat.succ_pos _)
def turn5 (mask:Nat):Nat→Nat→Nat
 | 0,i=>i
 | n+1,i=>(turn5 mask n i * 5+1) % (mask+1)
theorem hd_late {mask b:Nat} (hb:b<2 ^ 64):∀ n,(hdI mask b (13+n)).1=turn5 mask n (hdI mask b 13).1
 | 0=>rfl
 | n+1=>by
  show ((hdI mask b (13+n)).1 * 5+1+(hdI mask b (13+n)).2 / 32) % (mask+1)=(turn5 mask n (hdI mask b 13).1 * 5+1) % (mask+1)
  rw [hd_late hb n,hd_per]
  have:b / 32 ^ (13+n)=0:=by
   refine Nat.div_eq_of_lt (Nat.lt_of_lt_of_le hb ?_)
   have h1:2 ^ 64≤32 ^ 13:=by decide
   exact Nat.le_trans h1 (Nat.pow_le_pow_right (by decide) (Nat.le_add_right _ _))
  rw [this]
theorem cover7:∀ i<8,∀ j<8,∃ k,k<8∧turn5 7 k i=j:=by decide +kernel
theorem cover31:∀ i<32,∀ j<32,∃ k,k<32∧turn5 31 k i=j:=by decide +kernel
def Msk (mask:Nat):Prop:=mask=7∨mask=31
theorem hd_cover {mask b:Nat} (hm:Msk mask) (hb:b<2 ^ 64) {j:Nat} (hj:j<mask+1):∃ n,n<mask+14∧(hdI mask b n).1=j:=by
 have hl:=hd_lt mask b 13
 rcases hm with rfl | rfl
 ·obtain ⟨k,h1,h2⟩:=cover7 _ hl j hj
  exact ⟨13+k,by lia,by rw [hd_late hb,h2]⟩
 ·obtain ⟨k,h1,h2⟩:=cover31 _ hl j hj
  exact ⟨13+k,by lia,by rw [hd_late hb,h2]⟩
theorem bits_lt (h:Int):bits h<2 ^ 64:=by
 unfold bits
 lia
def way (t:SetTable) (h:Int):Nat→Probe
 | 0=>t.probeStart h
 | n+1=>t.advance (way t h n)
theorem run_le (mask i:Nat):runEnd mask i - i≤9:=by unfold runEnd;split <;> lia
theorem way_run {t:SetTable}{h:Int}{n r:Nat}{p:Probe} (e:way t h n={ p with more:=r }):∀ k,k≤r→way t h (n+k)={ p with j:=p.j+k,more:=r - k }
 | 0,_=>by rw [Nat.add_zero,e];rfl
 | k+1,hk=>by
  have ih:=way_run e k (by lia)
  show t.advance (way t h (n+k))=_
  rw [ih]
  unfold advance
  rw [if_pos (show r - k > 0 by lia)]
  simp only [Probe.mk.injEq,true_and,and_true]
  exact ⟨by lia,by lia⟩
theorem way_head (t:SetTable) (h:Int):∀ m,∃ n,n≤10 * m∧way t h n=⟨(hdI t.mask (bits h) m).1,runEnd t.mask (hdI t.mask (bits h) m).1 - (hdI t.mask (bits h) m).1,(hdI t.mask (bits h) m).1,(hdI t.mask (bits h) m).2,none⟩
 | 0=>⟨0,Nat.le_refl _,rfl⟩
 | m+1=>by
  obtain ⟨n,hn,e⟩:=way_head t h m
  generalize hr:runEnd t.mask (hdI t.mask (bits h) m).1 - (hdI t.mask (bits h) m).1=r at e
  have hr9:r≤9:=by rw [← hr];exact run_le _ _
  have e2:=way_run (t:=t) (h:=h) (n:=n) (r:=r) (p:=⟨(hdI t.mask (bits h) m).1,r,(hdI t.mask (bits h) m).1,(hdI t.mask (bits h) m).2,none⟩) e r (Nat.le_refl _)
  refine ⟨n+r+1,by lia,?_⟩
  show t.advance (way t h (n+r))=_
  rw [e2]
  unfold advance
  rw [if_neg (show ¬ (r - r > 0) by lia)]
  rfl
theorem slot_free {t:SetTable} (hd:t.dummies = #[]) {j:Nat} (hj:j∉t.place.toList):t.slot j = .empty:=by
 have e1:¬ (t.place[below t.place j]? == some j)=true:=fun q=>by
  have q:=eq_of_beq q
  exact hj (by rw [← Array.getElem?_toList] at q;exact List.mem_of_getElem? q)
 have e2:¬ has t.dummies j=true:=by rw [hd];unfold has;simp
 unfold slot
 dsimp only
 rw [if_neg e1,if_neg e2]
theorem slot_kinds {t:SetTable} (hd:t.dummies = #[]) (j:Nat):t.slot j = .empty∨∃ i,t.slot j = .live i∧t.place[i]? = some j:=by
 have e2:¬ has t.dummies j=true:=by rw [hd];unfold has;simp
 unfold slot
 dsimp only
 by_cases q:(t.place[below t.place j]? == some j)=true
 ·rw [if_pos q]
  exact .inr ⟨_,rfl,eq_of_beq q⟩
 ·rw [if_neg q,if_neg e2]
  exact .inl rfl
theorem nat_left:∀ (l:List Nat) (n:Nat),l.length<n→∃ j,j<n∧j∉l:=by
 intro l n h
 apply Classical.byContradiction
 intro q
 have all:∀ x∈List.range n,x∈l:=fun x hx=>by
  apply Classical.byContradiction
  intro z
  exact q ⟨x,List.mem_range.mp hx,z⟩
 have:∀ (a b:List Nat),a.Nodup→(∀ x∈a,x∈b)→a.length≤b.length:=by
  intro a
  induction a with
  | nil=>intro b _ _;exact Nat.zero_le _
  | cons x r ih=>
   intro b hn hs
   rw [List.nodup_cons] at hn
   have hx:=hs x (List.mem_cons_self ..)
   have:=ih (b.erase x) hn.2 fun y hy=>(List.mem_erase_of_ne (show y≠x from fun e=>hn.1 (e ▸ hy))).mpr (hs y (List.mem_cons_of_mem _ hy))
   rw [List.length_erase_of_mem hx] at this
   have hp:=List.length_pos_of_mem hx
   simp only [List.length_cons]
   lia
 have:=this _ l List.nodup_range all
 rw [List.length_range] at this
 lia
theorem way_ends {t:SetTable} (hm:Msk t.mask) (hd:t.dummies = #[]) (hf:t.place.size≤t.mask) (h:Int):∃ N,N+1<10 * turns t.mask∧t.slot (way t h N).j = .empty:=by
 obtain ⟨j,hj,hn⟩:=nat_left t.place.toList (t.mask+1) (by rw [Array.length_toList];lia)
 obtain ⟨m,h1,h2⟩:=hd_cover hm (bits_lt h) hj
 obtain ⟨n,h3,h4⟩:=way_head t h m
 refine ⟨n,by unfold turns;lia,?_⟩
 rw [h4]
 show t.slot (hdI t.mask (bits h) m).1 = .empty
 rw [h2]
 exact slot_free hd hn
theorem way_dummy (t:SetTable) (h:Int):∀ n,(way t h n).dummy=none
 | 0=>rfl
 | n+1=>by
  have ih:=way_dummy t h n
  show (t.advance (way t h n)).dummy=none
  unfold advance
  split
  ·exact ih
  ·exact ih
theorem probe_meets {t:SetTable} (hd:t.dummies = #[]) {h:Int}{f:Nat→Int}{N:Nat} (hN:t.slot (way t h N).j = .empty):∀ (fuel n:Nat),n≤N→N<n+fuel →
  (∃ n',n≤n'∧n'≤N∧t.slot (way t h n').j = .empty∧probe.go t f h fuel (way t h n)=some (.empty (way t h n').j none)) ∨
  (∃ n' i,n≤n'∧n' < N∧t.slot (way t h n').j = .live i∧t.place[i]? = some (way t h n').j∧f i=h∧probe.go t f h fuel (way t h n)=some (.candidate (way t h n').j i (way t h (n' + 1))))
 | 0,n,h1,h2=>by lia
 | fuel+1,n,h1,h2=>by
  rcases slot_kinds hd (way t h n).j with e | ⟨i,e,ei⟩
  ·refine .inl ⟨n,Nat.le_refl _,h1,e,?_⟩
   rw [probe.go,e]
   simp only [way_dummy]
  ·have hlt:n<N:=by
    rcases Nat.eq_or_lt_of_le h1 with q | q
    ·rw [q,hN] at e;cases e
    ·exact q
   by_cases q:(f i == h)=true
   ·refine .inr ⟨n,i,Nat.le_refl _,hlt,e,ei,eq_of_beq q,?_⟩
    rw [probe.go,e]
    dsimp only
    rw [if_pos q]
    rfl
   ·have step:probe.go t f h (fuel+1) (way t h n)=probe.go t f h fuel (way t h (n+1)):=by
     rw [probe.go,e]
     dsimp only
     rw [if_neg q]
     rfl
    rcases probe_meets hd hN fuel (n+1) (by lia) (by lia) with ⟨n',a1,a2,a3,a4⟩ | ⟨n',i',a1,a2,a3,a4,a5,a6⟩
    ·exact .inl ⟨n',by lia,a2,a3,by rw [step];exact a4⟩
    ·exact .inr ⟨n',i',by lia,a2,a3,a4,a5,by rw [step];exact a6⟩
end
end L2
namespace L2
open PySem PySem.Spec PyProof.Rows
section
open SetTable
variable {mask:Nat}
theorem getD_none {owner:Array (Option Nat)}{j:Nat} (h:(owner.getD j (some 0)).isNone=true):owner[j]? = some none:=by
 rw [Array.getD_eq_getD_getElem?] at h
 cases q:owner[j]? with
 | none=>rw [q] at h;cases h
 | some o=>
  rw [q] at h
  cases o with
  | none=>rfl
  | some z=>cases h
theorem free_from {owner:Array (Option Nat)}{b:Nat}:∀ (fuel m:Nat),(∃ m',m≤m'∧m' < m+fuel∧owner[(hdI mask b m').1]? = some none)→∃ j,layClean.free mask owner fuel (hdI mask b m).1 (hdI mask b m).2=some j∧owner[j]? = some none
 | 0,m,⟨m',h1,h2,_⟩=>by lia
 | fuel+1,m,⟨m',h1,h2,h3⟩=>by
  rw [layClean.free]
  cases q:(List.range (runEnd mask (hdI mask b m).1+1 - (hdI mask b m).1)).find? fun k=>(owner.getD ((hdI mask b m).1+k) (some 0)).isNone with
  | some k=>exact ⟨_,rfl,getD_none (by simpa using List.find?_some q)⟩
  | none=>
   dsimp only
   have hne:m'≠m:=fun e=>by
    subst e
    have h0:0∈List.range (runEnd mask (hdI mask b m').1+1 - (hdI mask b m').1):=by
     rw [List.mem_range]
     unfold runEnd
     split <;> lia
    have:=List.find?_eq_none.mp q 0 h0
    rw [Nat.add_zero,Array.getD_eq_getD_getElem?,h3] at this
    exact this rfl
   exact free_from fuel (m+1) ⟨m',by lia,by lia,h3⟩
theorem free_ok (hm:Msk mask) {owner:Array (Option Nat)}{h:Int} (hn:∃ j,j<mask+1∧owner[j]? = some none):∃ j,layClean.free mask owner (turns mask) (bits h % (mask+1)) (bits h)=some j∧owner[j]? = some none:=by
 obtain ⟨j,hj,e⟩:=hn
 obtain ⟨m,h1,h2⟩:=hd_cover hm (bits_lt h) hj
 exact free_from (b:=bits h) (turns mask) 0 ⟨m,Nat.zero_le _,by unfold turns;lia,by rw [h2];exact e⟩
theorem set_some:∀ {l:List (Option Nat)}{j k:Nat},l[j]? = some none→((l.set j (some k)).filterMap id).Perm (k::l.filterMap id)
 | [],j,k,h=>by simp at h
 | none::l,0,k,h=>by simp
 | some z::l,0,k,h=>by simp at h
 | o::l,j+1,k,h=>by
  have ih:=set_some (l:=l) (j:=j) (k:=k) (by simpa using h)
  rw [List.set_cons_succ]
  cases o with
  | none=>simpa using ih
  | some z=>
   simp only [List.filterMap_cons,id]
   exact (ih.cons z).trans (List.Perm.swap k z _)
theorem none_there:∀ (l:List (Option Nat)),(l.filterMap id).length<l.length→∃ j:Nat,j<l.length∧l[j]? = some none
 | [],h=>by simp at h
 | none::l,h=>⟨0,by simp,rfl⟩
 | some z::l,h=>by
  obtain ⟨j,h1,h2⟩:=none_there l (by simpa using h)
  exact ⟨j+1,by simpa using h1,by simpa using h2⟩
def layStep (mask:Nat) (acc:Option (Array (Option Nat)×Nat)) (h:Int):Option (Array (Option Nat)×Nat):=do
 let (owner,k) ← acc
 let j ← layClean.free mask owner (turns mask) (bits h % (mask+1)) (bits h)
 pure (owner.setIfInBounds j (some k),k+1)
theorem lay_fold (hm:Msk mask):∀ (hs:List Int) (owner:Array (Option Nat)) (k:Nat),owner.size=mask+1→(owner.toList.filterMap id).Perm (List.range k)→k+hs.length≤mask →
  ∃ owner',hs.foldl (layStep mask) (some (owner,k))=some (owner',k+hs.length)∧owner'.size=mask+1∧(owner'.toList.filterMap id).Perm (List.range (k+hs.length))
 | [],owner,k,h1,h2,_=>⟨owner,rfl,h1,h2⟩
 | h::hs,owner,k,h1,h2,h3=>by
  have hl:=h2.length_eq
  rw [List.length_range] at hl
  obtain ⟨j,hj,ej⟩:=none_there owner.toList (by rw [hl,Array.length_toList,h1];simp only [List.length_cons] at h3;lia)
  rw [Array.length_toList] at hj
  rw [Array.getElem?_toList] at ej
  obtain ⟨f,e1,e2⟩:=free_ok hm (h:=h) ⟨j,by lia,ej⟩
  have hp:((owner.setIfInBounds f (some k)).toList.filterMap id).Perm (List.range (k+1)):=by
   rw [Array.toList_setIfInBounds]
   refine (set_some (by rw [Array.getElem?_toList];exact e2)).trans ?_
   rw [List.range_succ]
   exact (h2.cons k).trans (List.perm_append_singleton k (List.range k)).symm
  obtain ⟨owner',g1,g2,g3⟩:=lay_fold hm hs (owner.setIfInBounds f (some k)) (k+1) (by rw [Array.size_setIfInBounds];exact h1) hp (by simp only [List.length_cons] at h3;lia)
  have e:layStep mask (some (owner,k)) h=some (owner.setIfInBounds f (some k),k+1):=by
   show (layClean.free mask owner (turns mask) (bits h % (mask+1)) (bits h)).bind _=_
   rw [e1]
   rfl
  have el:k+(h::hs).length=k+1+hs.length:=by rw [List.length_cons];lia
  rw [List.foldl_cons,e,el]
  exact ⟨owner',g1,g2,g3⟩
theorem live_of {owner:Array (Option Nat)}{n:Nat} (h:owner.size=n):(((List.range n).filterMap fun j=>(owner.getD j none).map (j,·)).map (·.2))=owner.toList.filterMap id:=by
 have e:owner.toList=(List.range n).map fun j=>owner.getD j none:=by
  apply List.ext_getElem?
  intro i
  rw [List.getElem?_map,Array.getElem?_toList]
  rcases Nat.lt_or_ge i n with q | q
  ·rw [List.getElem?_range q,Array.getElem?_eq_getElem (by lia)]
   show _=some (owner.getD i none)
   rw [Array.getD_eq_getD_getElem?,Array.getElem?_eq_getElem (by lia)]
   rfl
  ·rw [Array.getElem?_eq_none (by lia),List.getElem?_eq_none (by rw [List.length_range];exact q)]
   rfl
 rw [e,List.filterMap_map,List.map_filterMap]
 congr 1
 funext j
 show ((owner.getD j none).map (j,·)).map (·.2)=owner.getD j none
 cases owner.getD j none <;> rfl
theorem laid_ok (hm:Msk mask) {finger moves:Nat}{led plain:Bool}{hs:Array Int} (hl:hs.size≤mask):∃ t order,laid mask finger moves led plain hs=some (t,order)∧t.mask=mask∧t.dummies = #[]∧t.led=led∧t.plain=plain∧t.place.size=hs.size∧order.toList.Perm (List.range hs.size):=by
 obtain ⟨owner,h1,h2,h3⟩:=lay_fold hm hs.toList (Array.replicate (mask+1) none) 0 (by rw [Array.size_replicate]) (by rw [Array.toList_replicate];simp) (by rw [Array.length_toList];lia)
 rw [Nat.zero_add,Array.length_toList] at h3
 have hc:layClean mask hs=some owner:=by
  unfold layClean
  rw [← Array.foldl_toList]
  have e:hs.toList.foldl (layStep mask) (some (Array.replicate (mask+1) none,0))=some (owner,0+hs.toList.length):=h1
  show (hs.toList.foldl (layStep mask) (some (Array.replicate (mask+1) none,0))).map (·.1)=some owner
  rw [e]
  rfl
 unfold laid
 rw [hc]
 refine ⟨_,_,rfl,rfl,rfl,rfl,rfl,?_,?_⟩
 ·have:=congrArg List.length (live_of h2)
  rw [List.length_map,h3.length_eq,List.length_range] at this
  show (List.map _ _).toArray.size=_
  rw [List.size_toArray,List.length_map]
  exact this
 ·show (List.map _ _).Perm _
  rw [live_of h2]
  exact h3
theorem order_perm {es:Array (Int×Value)}{order:Array Nat} (h:order.toList.Perm (List.range es.size)):(order.filterMap (es[·]?)).toList.Perm es.toList:=by
 rw [Array.toList_filterMap]
 refine (h.filterMap _).trans ?_
 have e:(List.range es.size).filterMap (es[·]?)=es.toList:=by
  have:∀ (l:List (Int×Value)),(List.range l.length).filterMap (l[·]?)=l:=by
   intro l
   induction l with
   | nil=>rfl
   | cons x l ih=>
    rw [List.length_cons,List.range_succ_eq_map,List.filterMap_cons]
    simp only [List.getElem?_cons_zero,List.filterMap_map]
    congr 1
  have h1:=this es.toList
  rw [Array.length_toList] at h1
  simpa using h1
 rw [e]
end
end L2
namespace L2
open PySem PySem.Spec PyProof.Rows
section
variable {P:Program}{w:World}{A:Around}{E:Value→Shared→Prop}{s:Shared}
abbrev tK (P:Program) (w:World):=tupleKind (mixKind P w)
def Tk (P:Program) (w:World) (h:Heap) (k:Int×Str) (b:Addr):Prop:=(tK P w).is h [.inl k.1,.inr k.2] b
theorem Tk.keep {h h':Heap}{k:Int×Str}{b:Addr} (x:Tk P w h k b) (q:∀ o,h.get? b=some o→h'.get? b=some o):Tk P w h' k b:=by
 obtain ⟨o,its,n,h1,r⟩:=x
 exact ⟨o,its,n,q o h1,r⟩
theorem Tk.typeIs {k:Int×Str}{b:Addr} (x:Tk P w s.heap k b):s.TypeIs (.ref b) "tuple" :=by
 obtain ⟨o,its,n,h1,h2,_⟩:=x
 exact ⟨o,h1,h2⟩
theorem Tk.items {h:Heap}{k:Int×Str}{b:Addr} (x:Tk P w h k b):∃ o n t1 t2,h.get? b=some o∧o.cls = .type "tuple" ∧ o.data = .seq #[.int k.1 t1,.str k.2 t2] n:=by
 obtain ⟨o,its,n,h1,h2,h3,h4⟩:=x
 obtain ⟨l⟩:=its
 cases h4 with
 | cons a r=>
  cases r with
  | cons b r=>
   cases r
   obtain ⟨t1,e1⟩:=is_kV a
   obtain ⟨t2,e2⟩:=is_kV b
   subst e1 e2
   exact ⟨o,n,t1,t2,h1,h2,h3⟩
theorem cls_val (d:Nat) {v:Value} (h:carriedByValue v=true):ofAClassStatement d v=pure false:=by
 cases v <;> first | (unfold ofAClassStatement;rfl) | cases h
theorem cls_no {k:Int×Str}{b:Addr}{Q:Bool→Shared→Prop} (x:Tk P w s.heap k b) (h:Q false s):wpAny (model P w) A (ofAClassStatement 8 (.ref b)) Q E s:=by
 have hT:=x.typeIs
 obtain ⟨o,n,t1,t2,h1,h2,h3⟩:=x.items
 unfold ofAClassStatement
 refine wpAny_bind (wpAny_typeOf hT ?_)
 dsimp only
 rw [if_pos (by decide)]
 refine wpAny_bind (wpAny_pure ?_)
 simp only [Bool.not_true,Bool.false_eq_true,if_false]
 refine wpAny_bind (wpAny_seqItems h1 h3 ?_)
 dsimp only
 refine wpAny_bind ?_
 rw [← Array.forIn_toList]
 refine wpAny_forIn_list _ (fun rest r s'=>r.1=none∧s' = s∧∀ v∈rest,carriedByValue v=true) _ ?_ ?_ _ _ ⟨rfl,rfl,by simp [carriedByValue]⟩
 ·rintro v rest r s' ⟨hr,rfl,hall⟩
  rw [cls_val 7 (hall v List.mem_cons_self)]
  refine wpAny_bind (wpAny_pure ?_)
  rw [if_neg Bool.false_ne_true]
  exact wpAny_pure ⟨rfl,rfl,fun u hu=>hall u (List.mem_cons_of_mem _ hu)⟩
 ·rintro ⟨r1,r2⟩ s' ⟨hr,rfl,_⟩
  simp only at hr
  subst hr
  exact wpAny_pure h
theorem seen_no {k:Int×Str}{b:Addr}{kf:Addr→Int×Str} (x:Tk P w s.heap k b) {Q:Bool→Shared→Prop}{ys:List Value} (hy:∀ y∈ys,∃ c,y = .ref c∧Tk P w s.heap (kf c) c) (h:Q false s):wpAny (model P w) A (searchCouldBeSeen (.ref b) ys) Q E s:=by
 unfold searchCouldBeSeen
 refine wpAny_bind ?_
 refine wpAny_forIn_list _ (fun rest r s'=>r.1=none∧s' = s∧∀ y∈rest,∃ c,y = .ref c∧Tk P w s.heap (kf c) c) _ ?_ ?_ _ _ ⟨rfl,rfl,hy⟩
 ·rintro y rest r s' ⟨hr,rfl,hall⟩
  obtain ⟨c,rfl,hc⟩:=hall y List.mem_cons_self
  have next:(∀ y∈rest,∃ c,y = .ref c∧Tk P w s'.heap (kf c) c):=fun u hu=>hall u (List.mem_cons_of_mem _ hu)
  dsimp only
  refine wpAny_ite_split (fun _=>wpAny_pure ⟨rfl,rfl,next⟩) fun _=>?_
  refine wpAny_bind ((tK P w).quiet x ?_)
  simp only [Bool.not_true,Bool.false_eq_true,if_false]
  refine wpAny_bind ((tK P w).quiet hc ?_)
  simp only [Bool.not_true,Bool.false_eq_true,if_false]
  refine wpAny_bind (cls_no x ?_)
  rw [if_neg Bool.false_ne_true]
  refine wpAny_bind (cls_no hc ?_)
  rw [if_neg Bool.false_ne_true]
  exact wpAny_pure ⟨rfl,rfl,next⟩
 ·rintro ⟨r1,r2⟩ s' ⟨hr,rfl,_⟩
  simp only at hr
  subst hr
  exact wpAny_pure h
theorem byval_no {k:Int×Str}{b:Addr}{Q:Bool→Shared→Prop} (x:Tk P w s.heap k b) (h:Q false s):wpAny (model P w) A (hashByValue 8 (.ref b)) Q E s:=by
 have hT:=x.typeIs
 obtain ⟨o,n,t1,t2,h1,h2,h3⟩:=x.items
 unfold hashByValue
 refine wpAny_bind (wpAny_specialOf hT PySem.F.slot_tuple_hash.lookup ?_)
 show wpAny _ _ (seqItems? (.ref b) >>= _) _ _ s
 refine wpAny_bind (wpAny_seqItems h1 h3 ?_)
 refine wpAny_bind ?_
 show wpAny _ _ (forIn #[Value.int k.fst t1,Value.str k.snd t2] _ _) _ _ s
 rw [← Array.forIn_toList]
 show wpAny _ _ (forIn [Value.int k.fst t1,Value.str k.snd t2] _ _) _ _ s
 have e1:hashByValue 7 (.int k.1 t1)=pure true:=by unfold hashByValue;rfl
 have e2:hashByValue 7 (.str k.2 t2)=pure false:=by unfold hashByValue;rfl
 rw [List.forIn_cons,e1]
 refine wpAny_bind (wpAny_bind (wpAny_pure ?_))
 simp only [Bool.not_true,Bool.false_eq_true,if_false]
 refine wpAny_pure ?_
 dsimp only
 rw [List.forIn_cons,e2]
 refine wpAny_bind (wpAny_bind (wpAny_pure ?_))
 simp only [Bool.not_false,if_true]
 exact wpAny_pure (wpAny_pure (wpAny_pure h))
variable {kf:Addr→Int×Str}{a x:Addr}{o:Obj}{es:Array (Int×Value)}{ep:Nat}{t:SetTable}
def hK (P:Program) (w:World) (k:Int×Str):Int:=(tK P w).hash [.inl k.1,.inr k.2]
theorem even_no (hm:Msk t.mask):t.gaveWay=false:=by
 unfold SetTable.gaveWay
 rcases hm with e | e <;> rw [e] <;> rfl
theorem search_from {h:Int}{N:Nat} (hu:A.units<cLine) (ho:s.heap.get? a=some o) (hd:o.data = .set es ep t) (hf:t.fits es.size=true) (hm:Msk t.mask) (h0:t.dummies = #[]) (hz:t.place.size=es.size)
  (hN:t.slot (way t h N).j = .empty) (hN2:N+1<10 * SetTable.turns t.mask)
  (hx:Tk P w s.heap (kf x) x) (hes:∀ e∈es.toList,∃ b,e.2 = .ref b∧Tk P w s.heap (kf b) b) {Q:SetFound→Shared→Prop}
  (q1:(∃ b,Value.ref b∈es.toList.map (·.2)∧kf b=kf x)→Q (.there none) s) (q2:∀ j,Q (.free j false) s) :
  ∀ (fuel n:Nat) (stand:Option SetTable.Probe),n≤N→N<n+fuel→stand.getD (t.probeStart h)=way t h n→wpAny (model P w) A (setSearchFrom a (.ref x) h true fuel stand) Q E s
 | 0,n,_,h1,h2,_=>by lia
 | fuel+1,n,stand,h1,h2,h3=>by
  unfold setSearchFrom
  refine wpAny_bind (wpAny_setState_of ho hd hf ?_)
  dsimp only
  rw [even_no hm,if_neg Bool.false_ne_true,h3]
  have main:∀ F:Nat→Int,(∃ j,t.probe F h (way t h n)=some (.empty j none))∨(∃ n' i,n≤n'∧n' < N∧t.slot (way t h n').j = .live i∧i<es.size∧t.probe F h (way t h n)=some (.candidate (way t h n').j i (way t h (n' + 1)))):=fun F=>by
   rcases probe_meets (f:=F) h0 hN (10 * SetTable.turns t.mask) n h1 (by lia) with ⟨n',a1,a2,a3,a4⟩ | ⟨n',i,a1,a2,a3,a4,a5,a6⟩
   ·exact .inl ⟨_,a4⟩
   ·refine .inr ⟨n',i,a1,a2,a3,?_,a6⟩
    have:=(Array.getElem?_eq_some_iff.mp a4).1
    lia
  generalize hp:t.probe _ h (way t h n)=m
  rcases main _ with ⟨j,e⟩ | ⟨n',i,a1,a2,a3,a4,e⟩
  ·rw [hp] at e
   subst e
   exact wpAny_pure (q2 j)
  ·rw [hp] at e
   subst e
   dsimp only
   have hes':∀ y∈((es.filter (·.1 == h)).toList.map (·.2)),∃ c,y = .ref c∧Tk P w s.heap (kf c) c:=fun y hy=>by
    obtain ⟨e,he,rfl⟩:=List.mem_map.mp hy
    rw [Array.toList_filter] at he
    exact hes e (List.mem_filter.mp he).1
   refine wpAny_ite_split (fun _=>wpAny_bind (seen_no (kf:=kf) hx hes' ?_)) fun _=>?_
   rw [if_neg Bool.false_ne_true]
   all_goals
    obtain ⟨⟨hh,y⟩,ei⟩:∃ e,es[i]? = some e:=⟨es[i],Array.getElem?_eq_getElem a4⟩
    have mem:(hh,y)∈es.toList:=List.mem_of_getElem? (by rw [Array.getElem?_toList];exact ei)
    obtain ⟨b,eb,hb⟩:=hes (hh,y) mem
    have eb:y = .ref b:=eb
    subst eb
    rw [ei]
    dsimp only
    refine wpAny_bind (wpAny_holding ((tK P w).eqBool hu hb hx ?_))
    refine wpAny_bind (wpAny_setState_of ho hd hf ?_)
    dsimp only
    by_cases ek:kf b=kf x
    ·rw [ek,decide_eq_true rfl,if_pos (by rfl)]
     exact wpAny_pure (q1 ⟨b,List.mem_map.mpr ⟨_,mem,rfl⟩,ek⟩)
    ·rw [decide_eq_false (fun z=>ek (by simp only [List.cons.injEq,Sum.inl.injEq,Sum.inr.injEq,and_true] at z;exact Prod.ext z.1 z.2)),if_neg (by decide)]
     have es1:t.sameMemory t.moves t.mask=some true:=by unfold SetTable.sameMemory;rw [if_pos (by simp)]
     rw [es1]
     dsimp only
     rw [if_pos rfl,a3]
     dsimp only
     rw [ei]
     dsimp only
     refine wpAny_bind (wpAny_isSame_ref_self ?_)
     rw [if_pos rfl]
     refine wpAny_bind (wpAny_pure ?_)
     dsimp only
     rw [if_neg Bool.false_ne_true]
     exact search_from hu ho hd hf hm h0 hz hN hN2 hx hes q1 q2 fuel (n' + 1) (some _) (by lia) (by lia) rfl
def SetT (P:Program) (w:World) (kf:Addr→Int×Str) (byT:Bool) (h:Heap) (a:Addr) (bs:List Addr):Prop:=∃ o es ep t,h.get? a=some o∧o.ExactSet∧o.data = .set es ep t∧Msk t.mask∧t.dummies = #[]∧t.place.size=es.size∧es.size * 5<t.mask * 3∧t.led=(!byT)∧(bs≠[]→t.plain=false) ∧
 (es.toList.map (·.2)).Perm (bs.map Value.ref)
theorem SetT.keep {byT:Bool}{h h':Heap}{bs:List Addr} (q:SetT P w kf byT h a bs) (k:∀ o,h.get? a=some o→h'.get? a=some o):SetT P w kf byT h' a bs:=by
 obtain ⟨o,es,ep,t,ho,r⟩:=q
 exact ⟨o,es,ep,t,k o ho,r⟩
theorem sett_empty {byT:Bool}{h:Heap} (hg:h.get? a=some { cls:=.type "set",dict:=none,data:=.set #[] 0 (.fresh 0 0 (!byT)) }):SetT P w kf byT h a []:=
 ⟨_,#[],0,_,hg,⟨rfl,rfl,rfl⟩,rfl,.inl rfl,rfl,rfl,(show 0 * 5<7 * 3 by decide),rfl,fun z=>(z rfl).elim,.refl _⟩
theorem sett_fits {n:Nat} (hz:t.place.size=n) (h0:t.dummies = #[]) (hl:n * 5<t.mask * 3):t.fits n=true:=by
 unfold SetTable.fits SetTable.fill
 rw [hz,h0]
 simp
 lia
theorem put_facts (h0:t.dummies = #[]) (j:Nat):(t.put j).1.mask=t.mask∧(t.put j).1.dummies = #[]∧(t.put j).1.place.size=t.place.size+1∧(t.put j).1.led=t.led∧(t.put j).1.plain=t.plain:=by
 refine ⟨rfl,?_,?_,rfl,rfl⟩
 ·show (if SetTable.has t.dummies j then _ else t.dummies) = #[]
  rw [if_neg (by rw [h0];unfold SetTable.has;simp),h0]
 ·show (SetTable.insertAt t.place (SetTable.below t.place j) j).size=_
  have:=(SetTable.insertAt_perm t.place (SetTable.below t.place j) j).length_eq
  rw [Array.length_toList,Array.length_toList,Array.size_push] at this
  exact this
theorem sett_of {byT:Bool}{h:Heap}{bs:List Addr}{es':Array (Int×Value)}{t':SetTable} (ho:h.get? a=some o) (hex:o.ExactSet) (hd:o.data = .set es ep t) (hm:Msk t'.mask) (h0:t'.dummies = #[]) (hz:t'.place.size=es'.size) (hl:es'.size * 5<t'.mask * 3) (hled:t'.led = !byT)
  (hpl:t'.plain=false) (hp:(es'.toList.map (·.2)).Perm (bs.map Value.ref)):SetT P w kf byT (h.update a (Obj.putSet es' t')) a bs:=by
 have q:=Heap.get?_update_self (Obj.putSet es' t') ho (by rw [putSet_of es' t' hd];rfl)
 rw [putSet_of es' t' hd] at q
 exact ⟨_,es',ep+1,t',q,hex,rfl,hm,h0,hz,hl,hled,fun _=>hpl,hp⟩
theorem sett_store {byT:Bool}{bs:List Addr}{es2:Array (Int×Value)}{t2:SetTable}{Q:Bool→Shared→Prop} (ho:s.heap.get? a=some o) (hex:o.ExactSet) (hd:o.data = .set es ep t) (hm:Msk t.mask) (hl:es.size * 5<t.mask * 3) (h18:es.size+1≤18)
  (m2:t2.mask=t.mask) (d2:t2.dummies = #[]) (z2:t2.place.size=es2.size) (e2:es2.size=es.size+1) (l2:t2.led = !byT) (p2:t2.plain=false) (hp:(es2.toList.map (·.2)).Perm (bs.map Value.ref))
  (h:∀ h',Heap.SameBut a s.heap h'→SetT P w kf byT h' a bs→Q true { s with heap:=h' }) :
  wpAny (model P w) A (storeSet a es2 t2 >>= fun _=>if (!false && t2.tooFull)=true then (setRelay a (SetTable.grown (es.size+1)) >>= fun _=>pure true) else pure true) Q E s:=by
 have sz:es2.size≤sizeLine:=by rw [sizeLine_eq];lia
 have sb:=Heap.SameBut.update s.heap a (Obj.putSet es2 t2)
 have q:=Heap.get?_update_self (Obj.putSet es2 t2) ho (by rw [putSet_of es2 t2 hd];rfl)
 rw [putSet_of es2 t2 hd] at q
 refine wpAny_bind (wpAny_storeSet_of ho hd ?_ sz)
 have tf:t2.tooFull=decide (es2.size * 5 ≥ t2.mask * 3):=by
  unfold SetTable.tooFull SetTable.fill
  rw [d2,z2]
  simp
 by_cases full:es2.size * 5 ≥ t2.mask * 3
 ·rw [tf,decide_eq_true full,if_pos (by rfl)]
  have m7:t.mask=7:=by
   rcases hm with e | e
   ·exact e
   ·rw [m2,e] at full;lia
  have e4:es.size=4:=by rw [m2,m7] at full;rw [m7] at hl;lia
  have fit:t2.fits es2.size=true:=by
   unfold SetTable.fits SetTable.fill
   rw [z2,d2,m2,m7,e2,e4]
   simp
  rw [show SetTable.grown (es.size+1)=20 by rw [e4];rfl]
  unfold setRelay
  obtain ⟨t3,order,r1,r2,r3,r4,r5,r6,r7⟩:=laid_ok (mask:=31) (.inr rfl) (finger:=t2.finger) (moves:=t2.movedTo 31) (led:=t2.led) (plain:=t2.plain) (hs:=es2.map (·.1)) (by rw [Array.size_map,e2,e4];decide)
  rw [Array.size_map] at r6 r7
  have rel:t2.relaid (es2.map (·.1)) 20=some (t3,order):=by
   have e31:SetTable.sizeAbove 20 - 1=31:=by decide
   unfold SetTable.relaid
   rw [e31]
   exact r1
  have op:=order_perm (es:=es2) r7
  have os:=op.length_eq
  rw [Array.length_toList,Array.length_toList] at os
  refine wpAny_bind (wpAny_bind (wpAny_setState_of (s:={ s with heap:=s.heap.update a (Obj.putSet es2 t2) }) q rfl fit ?_))
  dsimp only
  rw [if_neg (by rw [sizeLine_eq];decide),rel]
  refine wpAny_bind ?_
  show wpAny _ _ (if ((order.filterMap (es2[·]?)).size != es2.size)=true then _ else _) _ _ _
  rw [if_neg (by rw [os];simp)]
  refine wpAny_pure ?_
  dsimp only
  refine wpAny_storeSet_of q rfl ?_ (by rw [os];exact sz)
  refine wpAny_pure (h _ (sb.trans (Heap.SameBut.update _ a _)) (sett_of q hex rfl (.inr r2) r3 (by rw [r6,os]) (by rw [r2,os,e2,e4];decide) (by rw [r4,l2]) (by rw [r5,p2]) ((op.map _).trans hp)))
 ·rw [tf,decide_eq_false full,if_neg (by decide)]
  exact wpAny_pure (h _ sb (sett_of ho hex hd (by rw [m2];exact hm) d2 z2 (by lia) l2 p2 hp))
theorem sett_add {byT:Bool}{bs:List Addr}{Q:Bool→Shared→Prop} (hu:A.units<cLine) (hS:SetT P w kf byT s.heap a bs) (hx:Tk P w s.heap (kf x) x) (hbs:∀ b∈bs,Tk P w s.heap (kf b) b) (hroom:bs.length+1≤18)
  (h:∀ h' r bs',Heap.SameBut a s.heap h'→SetT P w kf byT h' a bs'→(bs' = bs∧(∃ b∈bs,kf b=kf x))∨bs' = bs++[x]→Q r { s with heap:=h' }) :
  wpAny (model P w) A (setAddHashed a (.ref x) (hK P w (kf x))) Q E s:=by
 obtain ⟨o,es,ep,t,ho,hex,hd,hm,h0,hz,hl,hled,hpl,hp⟩:=id hS
 have hf:=sett_fits hz h0 hl
 have hn:es.size=bs.length:=by
  have:=hp.length_eq
  rw [List.length_map,List.length_map,Array.length_toList] at this
  exact this
 have hes:∀ e∈es.toList,∃ b,e.2 = .ref b∧Tk P w s.heap (kf b) b:=fun e he=>by
  obtain ⟨b,hb,eb⟩:=List.mem_map.mp (hp.mem_iff.mp (List.mem_map.mpr ⟨e,he,rfl⟩))
  exact ⟨b,eb.symm,hbs b hb⟩
 obtain ⟨N,hN2,hN⟩:=way_ends hm h0 (by rw [hz];lia) (hK P w (kf x))
 unfold setAddHashed
 refine wpAny_holding ?_
 unfold setAddHashedIn
 refine wpAny_bind (wpAny_setState_of ho hd hf ?_)
 dsimp only
 rw [show byScan (.ref x) es=false from rfl,if_neg Bool.false_ne_true]
 refine wpAny_bind ?_
 unfold setSearch
 have fu:N<0+100000:=by rcases hm with e | e <;> rw [e] at hN2 <;> unfold SetTable.turns at hN2 <;> lia
 have back:∀ b,Value.ref b∈es.toList.map (·.2)→b∈bs:=fun b hb=>by
  obtain ⟨c,hc,e⟩:=List.mem_map.mp (hp.mem_iff.mp hb)
  cases e
  exact hc
 refine search_from hu ho hd hf hm h0 hz hN hN2 hx hes ?_ ?_ 100000 0 none (Nat.zero_le _) fu rfl
 ·intro ⟨b,hb,ek⟩
  exact wpAny_pure (h s.heap false bs (Heap.SameBut.refl a s.heap) hS (.inl ⟨rfl,b,back b hb,ek⟩))
 ·intro j
  dsimp only
  refine wpAny_bind (wpAny_setState_of ho hd hf ?_)
  dsimp only
  obtain ⟨f1,f2,f3,f4,f5⟩:=put_facts h0 j
  have ip:=SetTable.insertAt_perm es (t.put j).2 (hK P w (kf x),Value.ref x)
  have il:=ip.length_eq
  rw [Array.length_toList,Array.length_toList,Array.size_push] at il
  have perm:((SetTable.insertAt es (t.put j).2 (hK P w (kf x),Value.ref x)).toList.map (·.2)).Perm ((bs++[x]).map Value.ref):=by
   refine (ip.map _).trans ?_
   rw [Array.toList_push,List.map_append,List.map_append]
   exact hp.append_right _
  have fin:∀ h',Heap.SameBut a s.heap h'→SetT P w kf byT h' a (bs++[x])→Q true { s with heap:=h' }:=fun h' sb hs=>h h' true _ sb hs (.inr rfl)
  cases pq:(t.put j).1.plain with
  | true=>
   rw [if_pos rfl]
   refine wpAny_bind (byval_no hx ?_)
   simp only [Bool.false_eq_true,if_false]
   exact sett_store ho hex hd hm hl (by lia) f1 f2 (by rw [il];show (t.put j).1.place.size=_;rw [f3,hz]) il (by show (t.put j).1.led=_;rw [f4,hled]) rfl perm fin
  | false=>
   rw [if_neg Bool.false_ne_true]
   refine wpAny_bind (wpAny_pure ?_)
   simp only [if_true]
   exact sett_store ho hex hd hm hl (by lia) f1 f2 (by rw [il,f3,hz]) il (by rw [f4,hled]) pq perm fin
end
end L2
namespace L2
open PySem PySem.Spec PyProof.Rows
section
variable {P:Program}{w:World}{A:Around}{E:Value→Shared→Prop}{s:Shared}{kf:Addr→Int×Str}
def Ded (kf:Addr→Int×Str) (bs r bs':List Addr):Prop:=(∀ b∈bs',b∈bs∨b∈r)∧∀ l,l∈bs∨l∈r→∃ b∈bs',kf b=kf l
theorem Ded.next {bs bs1 r bs':List Addr}{x:Addr} (h:(bs1=bs∧∃ b∈bs,kf b=kf x)∨bs1=bs++[x]) (d:Ded kf bs1 r bs'):Ded kf bs (x::r) bs':=by
 rcases h with ⟨rfl,b,hb,e⟩ | rfl
 ·refine ⟨fun c hc=>(d.1 c hc).imp id (List.mem_cons_of_mem _),fun l hl=>?_⟩
  rcases hl with z | z
  ·exact d.2 l (.inl z)
  ·rcases List.mem_cons.mp z with z | z
   ·obtain ⟨c,hc,ec⟩:=d.2 b (.inl hb)
    exact ⟨c,hc,by rw [ec,e,z]⟩
   ·exact d.2 l (.inr z)
 ·refine ⟨fun c hc=>?_,fun l hl=>?_⟩
  ·rcases d.1 c hc with z | z
   ·rcases List.mem_append.mp z with z | z
    ·exact .inl z
    ·exact .inr (by rw [List.mem_singleton.mp z];exact List.mem_cons_self ..)
   ·exact .inr (List.mem_cons_of_mem _ z)
  ·rcases hl with z | z
   ·exact d.2 l (.inl (List.mem_append_left _ z))
   ·rcases List.mem_cons.mp z with z | z
    ·exact d.2 l (.inl (by rw [z];simp))
    ·exact d.2 l (.inr z)
theorem sett_loop {byT:Bool}{R:Result→Shared→Prop}{I:Addr}{fp wr:List Addr}{G:Array GenState→Array GenState→Prop}{n:Nat}{Pv:Nat→Value→Prop}{St:Nat→Shared→Prop} (W:WalksS P w A.in1 I fp wr G n Pv St) (S:Addr) (hSf:S∉fp) (hu:A.in1.units<cLine)
  (ls:List Addr) (hz:ls.length=n) (hval:∀ i v,Pv i v→∃ b,ls[i]? = some b∧v = .ref b) (hb:n≤18) (hls:∀ b∈ls,b≠S∧b∉wr) :
  ∀ (r:List Addr) (i:Nat) (s:Shared) (bs:List Addr),r=ls.drop i→i≤n→bs.length≤i→(∀ b∈bs,b∈ls)→(∀ b∈ls,Tk P w s.heap (kf b) b)→St i s→SetT P w kf byT s.heap S bs →
   (∀ s' bs',Moved (S::wr) G s s'→SetT P w kf byT s'.heap S bs'→Ded kf bs r bs'→R (.ok (.ret .none)) s') →
   codeAny (model P w) A (.builtin "set.update.loop" ⟨[.ref S,.ref I],[]⟩) R s:=by
 have hSw:S∉wr:=mt (W.sub S) hSf
 have hsub:=fun b (z:b∈wr)=>List.mem_cons_of_mem S z
 intro r
 induction r with
 | nil=>
  intro i s bs hr hi hbs hsub2 hk hst hS hR
  have hin:i=n:=by
   have:=List.drop_eq_nil_iff.mp hr.symm
   lia
  subst hin
  refine codeAny_builtin PyProof.Rows.F.entry_set_update_loop ?_
  rw [Around.under_plainId PyProof.Rows.F.plain_set_update_loop _]
  refine wpAny_bind (m:=pyNext (.ref I)) (W.done s _ _ hst fun s' hm=>?_)
  exact wpAny_pure (hR s' bs (hm.mono hsub) (hS.keep fun o e=>hm.heap S _ hSw e) ⟨fun b h=>.inl h,fun l h=>⟨l,h.elim id (fun z=>nomatch z),rfl⟩⟩)
 | cons x r ih=>
  intro i s bs hr hi hbs hsub2 hk hst hS hR
  have hlt:i<ls.length:=by
   rcases Nat.lt_or_ge i ls.length with z | z
   ·exact z
   ·rw [List.drop_of_length_le z] at hr;cases hr
  have hxe:ls[i]? = some x∧r=ls.drop (i+1):=by
   rw [List.drop_eq_getElem_cons hlt] at hr
   injection hr with e1 e2
   exact ⟨by rw [List.getElem?_eq_getElem hlt,← e1],e2⟩
  have hx:x∈ls:=List.mem_of_getElem? hxe.1
  refine codeAny_builtin PyProof.Rows.F.entry_set_update_loop ?_
  rw [Around.under_plainId PyProof.Rows.F.plain_set_update_loop _]
  refine wpAny_bind (m:=pyNext (.ref I)) (W.item i s _ _ (by lia) hst fun v s' hP hst' hm=>?_)
  obtain ⟨x',hx',rfl⟩:=hval i v hP
  rw [hxe.1] at hx'
  cases hx'
  have hS':SetT P w kf byT s'.heap S bs:=hS.keep fun o e=>hm.heap S _ hSw e
  have hk':∀ b∈ls,Tk P w s'.heap (kf b) b:=fun b hb=>(hk b hb).keep fun o e=>hm.heap b _ (hls b hb).2 e
  show wpAny _ A.in1 (holding [Value.ref x] (setAdd S (.ref x)) >>= _) _ _ s'
  refine wpAny_bind (wpAny_holding ?_)
  unfold setAdd
  refine wpAny_holding ?_
  refine wpAny_bind ((tK P w).pyHash hu (hk' x hx) ?_)
  refine sett_add (s:={ s' with toks:=s'.toks+(tK P w).draws [.inl (kf x).1,.inr (kf x).2] }) hu hS' (hk' x hx) (fun b hb=>hk' b (hsub2 b hb)) (by lia) fun h' b bs1 sb hS2 hd=>?_
  refine wpAny_pure ⟨plainId_quiet PyProof.Rows.F.plain_set_update_loop _,ih (i+1) _ bs1 hxe.2 (by lia) ?_ ?_ (fun b hb=>(hk' b hb).keep fun o e=>(sb.2 b (hls b hb).1).trans e) (W.frame _ s' _ _ hst' (Nat.le_add_right _ _) fun b hb o e=>?_) hS2 fun s'' bs' hm'' hS'' hd''=>?_⟩
  ·rcases hd with ⟨rfl,_⟩ | rfl
   ·lia
   ·simp;lia
  ·rcases hd with ⟨rfl,_⟩ | rfl
   ·exact hsub2
   ·intro b hb
    rcases List.mem_append.mp hb with z | z
    ·exact hsub2 b z
    ·rw [List.mem_singleton.mp z];exact hx
  ·rw [sb.2 b (fun h:b=S=>hSf (by rw [← h];exact hb))];exact e
  ·have first:=hm.mono hsub
   have put:=first.then_heap (Nat.le_add_right s'.toks ((tK P w).draws [.inl (kf x).1,.inr (kf x).2])) (h':=h') fun b o hb e=>(sb.2 b fun z=>hb (z ▸ List.mem_cons_self)).trans e
   exact hR s'' bs' (Moved.trans W.gtrans put hm'') hS'' (Ded.next hd hd'')
theorem sett_fill {l a:Addr}{items:Array Value}{ls:List Addr}{Q:PySem.Fin→Shared→Prop} (hh:A.handled=none) (hu:A.in1.units<cLine) (hl:s.heap.IsList l items) (hi:items.toList=ls.map Value.ref) (hk:∀ b∈ls,Tk P w s.heap (kf b) b) (hb:items.size≤18) (ha:s.heap.get? a=some (fSet w)) (hal:l≠a)
  (h:∀ (h':Heap) (tk:Nat) (bs:List Addr),SetT P w kf (byTx w) h' a bs→Ded kf [] ls bs→(∀ b o,b≠a→s.heap.get? b=some o→h'.get? b=some o)→Q (.done (.ret .none)) { s with heap:=h',toks:=tk }) :
  wpAny (model P w) A (Builtin.«set.__init__» ⟨[.ref a,.ref l],[]⟩) Q E s:=by
 have hT:s.TypeIs (.ref a) "set" :=⟨_,ha,rfl⟩
 obtain ⟨ol,hol,hcl,nl,hdl⟩:=id hl
 obtain ⟨ocls,odict,odata,oslots⟩:=ol
 simp only at hcl hdl
 subst hcl hdl
 have hsls:=PySem.F.sub_list_set
 have hslf:=PySem.F.sub_list_frozenset
 have hne:(Value.type "list" == Value.type "dict")=false:=by decide
 have ha':s.heap.get? a=some { cls:=.type "set",dict:=none,data:=.set #[] 0 (.fresh 0 0 (!byTx w)) }:=ha
 unfold Builtin.«set.__init__» noKeywords Builtin.Frozenset.updateFrom
 generalize hPI:pyIter=PI
 wp_walk
 subst hPI
 refine wpAny_pyIter_list hl (wpAny_bind (wpAny_runValue ?_))
 have hla:l<s.heap.objs.size:=Heap.lt_size hol
 have haa:a<s.heap.objs.size:=Heap.lt_size ha
 have hlen:ls.length=items.size:=by have:=congrArg List.length hi;rw [List.length_map,Array.length_toList] at this;exact this.symm
 have far:∀ b∈ls,b<s.heap.objs.size∧b≠a:=fun b hb=>by
  obtain ⟨o,n,t1,t2,e1,e2,_⟩:=(hk b hb).items
  refine ⟨Heap.lt_size e1,fun z=>?_⟩
  rw [z,ha'] at e1
  cases e1
  exact absurd (Value.type.inj e2) (by decide)
 refine sett_loop (byT:=byTx w) ((Walks.list (show A.in1.handled=none from hh) s.heap.objs.size l (Nat.ne_of_lt hla) items).toS) a (by simp only [List.mem_cons,List.not_mem_nil,or_false,not_or];exact ⟨Nat.ne_of_lt haa,hal.symm⟩) hu ls hlen (fun i v hv=>?_) hb
  (fun b hb=>⟨(far b hb).2,fun z=>absurd (far b hb).1 (by rw [List.mem_singleton.mp z];exact Nat.lt_irrefl _)⟩) ls 0 _ [] rfl (Nat.zero_le _) (Nat.le_refl _) (fun b hb=>nomatch hb) (fun b hb=>(hk b hb).keep fun o e=>Heap.get?_push_of_some _ e)
  ⟨⟨_,Heap.get?_push_size _ rfl,rfl,rfl⟩,hl.push _⟩ (sett_empty (Heap.get?_push_of_some _ ha')) fun s' bs hm hS' hd=>?_
 ·have hv':items.toList[i]? = some v:=by rw [Array.getElem?_toList];exact hv
  rw [hi,List.getElem?_map] at hv'
  cases e:ls[i]? with
  | none=>rw [e] at hv';cases hv'
  | some b=>rw [e] at hv';cases hv';exact ⟨b,rfl,rfl⟩
 ·obtain ⟨h',g',d',tk',os'⟩:=s'
  obtain rfl:g' = s.gens:=hm.gens
  obtain rfl:d' = s.drawn:=hm.drawn
  obtain rfl:os' = s.os:=hm.os
  refine wpAny_pure (wpAny_pure (h h' tk' bs hS' hd fun b o hb e=>hm.heap b o (fun z=>?_) (Heap.get?_push_of_some _ e)))
  rcases List.mem_cons.mp z with z | z
  ·exact hb z
  ·exact absurd (Heap.lt_size e) (by rw [List.mem_singleton.mp z];exact Nat.lt_irrefl _)
set_option maxHeartbeats 3000000 in
theorem call_set_tups {l:Addr}{items:Array Value}{ls:List Addr}{Q:Value→Shared→Prop} (hh:A.handled=none) (hu:A.in1.in1.in1.units<cLine) (hl:s.heap.IsList l items) (hi:items.toList=ls.map Value.ref) (hk:∀ b∈ls,Tk P w s.heap (kf b) b) (hb:items.size≤18)
  (h:∀ (h':Heap) (tk:Nat) (bs:List Addr),SetT P w kf (byTx w) h' s.heap.objs.size bs→Ded kf [] ls bs→(∀ b o,s.heap.get? b=some o→h'.get? b=some o)→Q (.ref s.heap.objs.size) { s with heap:=h',toks:=tk }) :
  wpAny (model P w) A (call (.type "set") [.ref l]) Q E s:=by
 obtain ⟨c,tl,hmro⟩:=PySem.F.called_set.mro
 have hmade:=PySem.F.called_set.made
 have hsub:=PySem.F.called_set.sub
 have h1:=PySem.F.called_set.notType
 have h2:=PySem.F.called_set.canCreate
 have hct:=PySem.F.typeCall_set_1 (.ref l)
 refine wpAny_call (codeAny_of_tree (show wpAny _ _ (callAny (.type "set") _) _ _ _ from wpAny_pure ⟨Code.quiet_builtin _ (by decide +kernel),codeAny_builtin PySem.F.entry_type_call ?_⟩))
 rw [Around.under_plain (weight_type_call_type "set" [.ref l] []) rfl]
 repeat any_goals (first | assumption | wp_step)
 refine codeAny_mono (set_new (P:=P) (w:=w) (.ref l) (E:=E) (Q₁:=fun obj s₁=>obj = .ref s.heap.objs.size∧s₁={ s with heap:=s.heap.push (fSet w) }) ⟨rfl,rfl⟩) fun r s₁ hr=>?_
 cases r with
 | error e=>exact hr
 | ok fl=>
  cases fl with
  | ret obj=>
   obtain ⟨rfl,rfl⟩:=hr
   have hS:(s.heap.push (fSet w)).get? s.heap.objs.size=some (fSet w):=Heap.get?_push_size _ rfl
   have hT:Shared.TypeIs { s with heap:=s.heap.push (fSet w) } (.ref s.heap.objs.size) "set" :=⟨_,hS,rfl⟩
   have hli:=PySem.F.called_set.init.lookup
   have hbi:=PySem.F.called_set.init.bind (.ref s.heap.objs.size)
   repeat any_goals (first | assumption | wp_step)
   refine codeAny_mono (codeAny_call_builtin (R:=wants (fun r s₂=>r = .none∧Q (.ref s.heap.objs.size) s₂) E) PySem.F.called_set.init.plain PySem.F.entry_set_init (check_set_init_1 hT ?_)) fun r₂ s₂ hr₂=>?_
   ·have hla:l<s.heap.objs.size:=by obtain ⟨_,e,_⟩:=hl;exact Heap.lt_size e
    refine sett_fill (A:=A.in1.in1) hh hu (hl.push _) hi (fun b hb=>(hk b hb).keep fun o e=>Heap.get?_push_of_some _ e) hb hS (Nat.ne_of_lt hla) fun h' tk bs hx hd hk=>?_
    exact ⟨rfl,h h' tk bs hx hd fun b o e=>hk b o (Nat.ne_of_lt (Heap.lt_size e)) (Heap.get?_push_of_some _ e)⟩
   ·cases r₂ with
    | error e=>exact hr₂
    | ok fl₂=>
     cases fl₂ with
     | ret r=>
      obtain ⟨rfl,hq⟩:=hr₂
      repeat any_goals (first | assumption | wp_step)
     | _=>exact hr₂.elim
  | _=>exact hr.elim
end
end L2
namespace L2
open PySem PySem.Spec PyProof.Rows PySem.W
section
variable {P:Program}{w:World}{A:Around}{E:Value→Shared→Prop}{s:Shared}
def GSet (w:World) (h:Heap) (a:Addr) (us:List Value):Prop:=∃ o es ep t,h.get? a=some o∧o.ExactSet∧o.data = .set es ep t∧es.size<scanBound∧t.fits es.size=true∧t.led=(!byTx w)∧(us≠[]→t.plain=false)∧(es.toList.map (·.2)).Perm us
theorem GSet.keep {h h':Heap}{a:Addr}{us:List Value} (x:GSet w h a us) (k:∀ o,h.get? a=some o→h'.get? a=some o):GSet w h' a us:=by
 obtain ⟨o,es,ep,t,ho,r⟩:=x
 exact ⟨o,es,ep,t,k o ho,r⟩
theorem SetT.gset {kf:Addr→Int×Str}{h:Heap}{a:Addr}{bs:List Addr} (q:SetT P w kf (byTx w) h a bs):GSet w h a (bs.map Value.ref):=by
 obtain ⟨o,es,ep,t,ho,hex,hd,hm,h0,hz,hl,hled,hpl,hp⟩:=q
 refine ⟨o,es,ep,t,ho,hex,hd,?_,sett_fits hz h0 hl,hled,fun z=>hpl fun e=>z (by rw [e];rfl),hp⟩
 unfold scanBound
 rcases hm with e | e <;> rw [e] at hl <;> lia
theorem gset_iter {a:Addr}{us:List Value}{Q:Value→Shared→Prop} (hh:A.handled=none) (hS:GSet w s.heap a us)
  (h:∀ (I:Addr) (vs:List Value) (h':Heap) (d:Drawn) (fp:List Addr) (St:Nat→Heap→Prop),(∀ b o,s.heap.get? b=some o→h'.get? b=some o)→(∀ b∈fp,b=a∨s.heap.objs.size≤b)→s.heap.objs.size≤I→vs.length=us.length→vs.Perm us →
   Walks P w A I fp [I] vs.length (fun i v=>vs[i]? = some v) St→St 0 h'→Q (.ref I) { s with heap:=h',drawn:=d }) :
  wpAny (model P w) A (pyIter (.ref a)) Q E s:=by
 obtain ⟨o,es,ep,t,ho,hex,hd,hb,hf,hl,hp,hm⟩:=id hS
 have sat:SAt s.heap a es ep t:=⟨⟨o,ho,hex,hd⟩,hf⟩
 have hT:s.TypeIs (.ref a) "set" :=⟨o,ho,hex.1⟩
 have hn:es.size=us.length:=by
  have:=hm.length_eq
  rw [List.length_map,Array.length_toList] at this
  exact this
 have vals:∀ vs:List Value,vs.Perm (es.toList.map (·.2))→vs.length=us.length∧vs.Perm us:=fun vs hv=>⟨by rw [hv.length_eq,List.length_map,Array.length_toList,hn],hv.trans hm⟩
 refine wpAny_pyIter_slot hT PySem.F.slot_set_iter (wpAny_call_entry PySem.F.slot_set_iter hT SF.entry_set_iter ?_ (PySem.F.args_set_iter_1 _))
 unfold Builtin.«frozenset.__iter__»
 refine wpAny_bind (wpAny_pure ?_)
 refine wpAny_bind (m:=Builtin.Frozenset.sizeOf a) (wpAny_bind (wpAny_entries sat (wpAny_pure ?_)))
 refine wpAny_bind (setDrawn_of sat ?_)
 dsimp only
 have hla:a<s.heap.objs.size:=Heap.lt_size ho
 by_cases hdr:(!byTx w && (!t.plain && decide (es.size > 1)))=true
 ·rw [if_pos hdr]
  refine wpAny_bind (wpAny_drawOrder es.size _ s (by simp) fun ps d hps=>?_)
  refine wpAny_bind (wpAny_newTuple ?_ (by rw [List.length_map,hps.length_eq,List.length_range,sizeLine_eq];unfold scanBound at hb;lia))
  have hoT:(s.heap.push { cls:=.type "tuple",data:=.seq (ps.map fun (i:Nat)=>rawInt i).toArray }).get? s.heap.objs.size=some { cls:=.type "tuple",data:=.seq (ps.map fun (i:Nat)=>rawInt i).toArray }:=Heap.get?_push_size _ rfl
  generalize hh1:s.heap.push { cls:=.type "tuple",data:=.seq (ps.map fun (i:Nat)=>rawInt i).toArray }=h1 at hoT ⊢
  have k1:∀ b o,s.heap.get? b=some o→h1.get? b=some o:=fun b o e=>by rw [← hh1];exact Heap.get?_push_of_some _ e
  have sat1:SAt h1 a es ep t:=sat_keep sat (k1 a)
  have z1:h1.objs.size=s.heap.objs.size+1:=by rw [← hh1,Heap.size_push]
  refine wpAny_bind (wpAny_setEpoch_of (s:={ s with heap:=h1,drawn:=d }) (k1 a o ho) hd hf ?_)
  refine wpAny_bind (wpAny_newObj_type ?_ (by size_fits))
  have hoI:(h1.push (sitO (.ref s.heap.objs.size) (0:Nat) a es.size ep)).get? h1.objs.size=some (sitO (.ref s.heap.objs.size) (0:Nat) a es.size ep):=Heap.get?_push_size _ rfl
  have k2:∀ b o,h1.get? b=some o→(h1.push (sitO (.ref s.heap.objs.size) (0:Nat) a es.size ep)).get? b=some o:=fun b o e=>Heap.get?_push_of_some _ e
  obtain ⟨v1,v2⟩:=vals _ (range_take hps)
  have hvl:(ps.map fun k=>(es.getD k (0,Value.none)).2).length=es.size:=by rw [List.length_map,hps.length_eq,List.length_range]
  have W:=walk_drawn (P:=P) (w:=w) (A:=A) (it:=h1.objs.size) (a:=a) (T:=s.heap.objs.size) (ep:=ep) (tb:=t) hh (Nat.ne_of_lt (by rw [z1];exact Nat.lt_succ_of_lt hla)) (Nat.ne_of_lt (by rw [z1];exact Nat.lt_succ_self _)) hps (oT:={ cls:=.type "tuple",data:=.seq (ps.map fun (i:Nat)=>rawInt i).toArray }) rfl
  rw [← hvl] at W
  refine wpAny_pure ⟨_,rfl, "set_iterator",_,⟨_,hoI,rfl⟩,SF.slot_next.lookup,?_⟩
  refine h h1.objs.size _ _ d [h1.objs.size,a,s.heap.objs.size] _ (fun b o e=>k2 b o (k1 b o e)) (fun b hb=>?_) (by rw [z1];exact Nat.le_succ _) v1 v2 W ⟨?_,sat_keep sat1 (k2 a),k2 _ _ hoT⟩
  ·simp only [List.mem_cons,List.not_mem_nil,or_false] at hb
   rcases hb with e | e | e
   ·exact .inr (by rw [e,z1];exact Nat.le_succ _)
   ·exact .inl e
   ·exact .inr (by rw [e];exact Nat.le_refl _)
  ·rw [hvl];exact hoI
 ·rw [if_neg hdr]
  refine wpAny_bind (wpAny_pure ?_)
  refine wpAny_bind (wpAny_setEpoch_of ho hd hf ?_)
  refine wpAny_bind (wpAny_newObj_type ?_ (by size_fits))
  have hoI:(s.heap.push (sitO (.int (0:Nat) 0) (0:Nat) a es.size ep)).get? s.heap.objs.size=some (sitO (.int (0:Nat) 0) (0:Nat) a es.size ep):=Heap.get?_push_size _ rfl
  have k2:∀ b o,s.heap.get? b=some o→(s.heap.push (sitO (.int (0:Nat) 0) (0:Nat) a es.size ep)).get? b=some o:=fun b o e=>Heap.get?_push_of_some _ e
  refine wpAny_pure ⟨_,rfl, "set_iterator",_,⟨_,hoI,rfl⟩,SF.slot_next.lookup,?_⟩
  have fpx:∀ b∈[s.heap.objs.size,a],b=a∨s.heap.objs.size≤b:=fun b hb=>by
   simp only [List.mem_cons,List.not_mem_nil,or_false] at hb
   rcases hb with e | e
   ·exact .inr (by rw [e];exact Nat.le_refl _)
   ·exact .inl e
  cases hbt:byTx w with
  | true=>
   have hpp:(pickOrder (w.params.setOrder a ep) es).toList.Perm es.toList:=by
    have:=pick_perm (w.params.setOrder a ep) es.size 0 es.toList #[] (by simp)
    unfold pickOrder
    simpa using this
   obtain ⟨v1,v2⟩:=vals _ (hpp.map (·.2))
   have hvl:((pickOrder (w.params.setOrder a ep) es).toList.map (·.2)).length=es.size:=by rw [List.length_map,hpp.length_eq,Array.length_toList]
   have W:=walk_text (P:=P) (w:=w) (A:=A) (it:=s.heap.objs.size) (a:=a) (ep:=ep) (es:=es) (tb:=t) hh (Nat.ne_of_lt hla) hbt
   rw [← hvl] at W
   refine h s.heap.objs.size _ _ s.drawn [s.heap.objs.size,a] _ k2 fpx (Nat.le_refl _) v1 v2 W ⟨?_,sat_keep sat (k2 a)⟩
   rw [hvl];exact hoI
  | false=>
   have h1:es.size≤1:=by
    rcases Nat.lt_or_ge 1 es.size with z | z
    ·have hne:us≠[]:=fun e=>by rw [e] at hn;rw [hn] at z;exact absurd z (by decide)
     rw [hbt,hp hne] at hdr
     simp at hdr
     lia
    ·exact z
   obtain ⟨v1,v2⟩:=vals _ (List.Perm.refl _)
   have hvl:(es.toList.map (·.2)).length=es.size:=by rw [List.length_map,Array.length_toList]
   have W:=walk_one (P:=P) (w:=w) (A:=A) (it:=s.heap.objs.size) (a:=a) (ep:=ep) (es:=es) (tb:=t) hh (Nat.ne_of_lt hla) hbt (by rw [hl,hbt];rfl) h1 hf
   rw [← hvl] at W
   refine h s.heap.objs.size _ _ s.drawn [s.heap.objs.size,a] _ k2 fpx (Nat.le_refl _) v1 v2 W ⟨?_,sat_keep sat (k2 a)⟩
   rw [hvl];exact hoI
theorem gset_collect {a:Addr}{us:List Value}{R:List Value→Shared→Prop} (hh:A.handled=none) (hS:GSet w s.heap a us) (hn:us.length≤sizeLine)
  (h:∀ (h':Heap) (tk:Nat) (d:Drawn) (vs:List Value),(∀ b o,s.heap.get? b=some o→h'.get? b=some o)→vs.Perm us→R vs { s with heap:=h',toks:=tk,drawn:=d }) :
  wpAny (model P w) A (collect (.ref a)) R E s:=by
 obtain ⟨o,_,_,_,ho,hex,_⟩:=id hS
 have hla:a<s.heap.objs.size:=Heap.lt_size ho
 unfold collect
 refine wpAny_bind (wpAny_runValue (codeAny_builtin entry_proto_collect' ?_))
 rw [Around.under_plainId PySem.F.plain_proto_collect _]
 refine wpAny_bind (m:=newList []) (wpAny_newList ?_ (Nat.zero_le _))
 have oS:(s.heap.push (seqObj "list" #[] 0)).get? s.heap.objs.size=some (seqObj "list" #[] 0):=Heap.get?_push_size _ rfl
 have k1:∀ b o,s.heap.get? b=some o→(s.heap.push (seqObj "list" #[] 0)).get? b=some o:=fun b o e=>Heap.get?_push_of_some _ e
 have z1:(s.heap.push (seqObj "list" #[] 0)).objs.size=s.heap.objs.size+1:=Heap.size_push _ _
 refine wpAny_pure ⟨plainId_quiet PySem.F.plain_list_iadd _,codeAny_builtin entry_list_iadd' ?_⟩
 rw [Around.under_plainId PySem.F.plain_list_iadd _]
 show wpAny _ _ (Builtin.List.listExtendWith (.ref s.heap.objs.size) (.ref a) (.ref s.heap.objs.size)) _ _ { s with heap:=s.heap.push (seqObj "list" #[] 0) }
 generalize s.heap.push (seqObj "list" #[] 0)=h1 at oS k1 z1 ⊢
 have hS1:GSet w h1 a us:=hS.keep (k1 a)
 have hT1:Shared.TypeIs { s with heap:=h1 } (.ref a) "set" :=⟨o,k1 a o ho,hex.1⟩
 generalize hd1:s.heap.objs.size=S at oS z1 hla ⊢
 have hSa:S≠a:=Nat.ne_of_gt hla
 unfold Builtin.List.listExtendWith
 refine wpAny_bind (wpAny_typeOf hT1 ?_)
 have e1:Builtin.List.listSameRef (.ref S) (.ref a)=false:=by simp [Builtin.List.listSameRef,hSa]
 have e2:(Value.type "set" == Value.type "list")=false:=by decide
 have e3:(Value.type "set" == Value.type "tuple")=false:=by decide
 simp only [e1,e2,e3,Bool.or_false,Bool.false_eq_true,if_false]
 refine wpAny_bind (gset_iter (s:={ s with heap:=h1 }) (show A.in1.handled=none from hh) hS1 fun I vs h2 d fp St k2 hfp hI hvl hvs W st=>?_)
 have hSI:S<I:=by rw [z1] at hI;exact hI
 have hSf:S∉fp:=fun z=>(hfp S z).elim hSa fun z=>absurd z (by rw [z1];exact Nat.not_succ_le_self _)
 have oS2:=k2 S _ oS
 have key:∀ (h3:Heap) (c tk:Nat),St 0 h3→(∀ b o,b≠S→h2.get? b=some o→h3.get? b=some o)→h3.get? S=some (seqObj "list" #[] c) →
   codeAny (model P w) A (.builtin "list.extend.loop" ⟨[.ref S,.ref I,.ref S],[]⟩) (fun q s'=>∃ (h':Heap) (tk:Nat) (acc:Array Value) (c':Nat),q = .ok (.ret (.ref S))∧s' = { s with heap:=h',toks:=tk,drawn:=d }∧(∀ b o,s.heap.get? b=some o→h'.get? b=some o)∧h'.get? S=some (seqObj "list" acc c')∧acc.toList=vs) { s with heap:=h3,toks:=tk,drawn:=d }:=fun h3 c tk st3 k3 o3=>by
  refine codeAny_extend_loopS W.toS (by rw [hvl];exact hn) S hSf (.ref S) vs.length 0 _ #[] c rfl (Nat.zero_le _) st3 o3 (ItemsOf.nil _) fun s' acc c' hm oS' hacc=>?_
  rw [Moved.eq_with hm]
  refine ⟨s'.heap,s'.toks,acc,c',rfl,rfl,fun b o e=>?_,oS',?_⟩
  ·have hbl:b<S:=by rw [← hd1];exact Heap.lt_size e
   refine hm.heap b o (fun z=>?_) (k3 b o (Nat.ne_of_lt hbl) (k2 b o (k1 b o e)))
   rcases List.mem_cons.mp z with z | z
   ·exact absurd z (Nat.ne_of_lt hbl)
   ·exact absurd (List.mem_singleton.mp z) (Nat.ne_of_lt (Nat.lt_trans hbl hSI))
  ·apply List.ext_getElem?
   intro i
   rw [Array.getElem?_toList]
   cases q:acc[i]? with
   | none=>
    have:=Array.getElem?_eq_none_iff.mp q
    rw [hacc.1] at this
    exact (List.getElem?_eq_none this).symm
   | some v=>exact (hacc.2 i v q).symm
 refine wpAny_bind (wpAny_holding (hint_set ⟨o,k2 a o (k1 a o ho),hex.1⟩ ?_))
 rw [if_pos (by decide)]
 refine wpAny_bind (wpAny_rule ?_)
 have u1:=get?_update_seq oS2 fun (xs:Array Value)=>xs.push Value.none
 have u2:=get?_update_seq u1 fun (xs:Array Value)=>xs.pop
 refine wpAny_bind (m:=Builtin.List.listTouch _) ?_
 unfold Builtin.List.listTouch
 refine wpAny_bind (listUpdate_at oS2 rfl ?_ (Nat.zero_le _) (by show 1≤_;rw [sizeLine_eq];lia))
 refine listUpdate_at u1 rfl ?_ (by show 1≤_;rw [sizeLine_eq];lia) (Nat.zero_le _)
 have k3:∀ b o,b≠S→h2.get? b=some o→((h2.update S (Obj.mapSeq fun xs=>xs.push Value.none)).update S (Obj.mapSeq fun xs=>xs.pop)).get? b=some o:=fun b o hb e=>(Heap.get?_update_other _ _ (Ne.symm hb)).trans ((Heap.get?_update_other _ _ (Ne.symm hb)).trans e)
 refine wpAny_pure ⟨plainId_quiet PySem.F.plain_extend_loop _,codeAny_mono (key _ _ s.toks (W.frame 0 _ _ st fun b hb o e=>k3 b o (fun z=>hSf (z ▸ hb)) e) k3 u2) fun q s' hq=>?_⟩
 obtain ⟨h',tk,acc,c',rfl,rfl,hk,hoS,hv⟩:=hq
 refine wpAny_bind (wpAny_load hoS (wpAny_pure ?_))
 subst hv
 exact h h' tk d acc.toList hk hvs
end
end L2
namespace L2
open PySem PySem.Spec PyProof.Rows
def kD (k:Int×Str):PyData:=.tuple [.int k.1,.str k.2]
def kSh:Sh:=.tcons .int (.tcons .str .tnil)
theorem sh_kD (k:Int×Str):kSh.has (kD k):=⟨_,_,rfl,⟨_,rfl⟩,_,_,rfl,⟨_,rfl⟩,rfl⟩
theorem dep_kD (k:Int×Str):(kD k).depth≤100:=by simp [kD,PyData.depth,PyData.depthAll]
def tSoT (t:TA):TE:=fun σ H Q=>t σ H fun vs H1=>∃ (l:Addr) (ls:List Addr) (kf:Addr→Int×Str),vs=[.ref l]∧Rd H1 l (.lst (ls.map V.ref))∧ls.length≤18∧(∀ b∈ls,H1 b=some (.tup [.int (kf b).1,.str (kf b).2])∧PyData.strOk (kf b).2=true) ∧
 ∀ (D:Addr) (ms:List Addr),H1 D=none→(∀ b∈ms,b∈ls)→(∀ b∈ls,∃ c∈ms,kf c=kf b)→(ms.Pairwise fun a b=>ltv (kD (kf b)) (kD (kf a))=false)→ms.length≤18→Q (.ref D) (upd H1 D (.lst (ms.map V.ref)))
theorem vals_refs:∀ (bs:List Addr),Vals (bs.map V.ref) (bs.map Value.ref)
 | []=>.nil
 | b::bs=>.cons rfl (vals_refs bs)
def adr:Value→Addr
 | .ref a=>a
 | _=>0
theorem refs_perm {acc:List Value}{bs:List Addr} (h:acc.Perm (bs.map Value.ref)):∃ cs:List Addr,acc=cs.map Value.ref∧cs.Perm bs:=by
 refine ⟨acc.map adr,?_,?_⟩
 ·rw [List.map_map]
  have:∀ v∈acc,(Value.ref ∘ adr) v=v:=fun v hv=>by
   obtain ⟨b,_,rfl⟩:=List.mem_map.mp (h.mem_iff.mp hv)
   rfl
  rw [List.map_congr_left this,List.map_id']
 ·refine (h.map adr).trans ?_
  rw [List.map_map]
  have:(adr ∘ Value.ref)=id:=rfl
  rw [this,List.map_id]
theorem vals_ref:∀ {ls:List Addr}{us:List Value},Vals (ls.map V.ref) us→us=ls.map Value.ref
 | [],_,h=>by cases h;rfl
 | b::ls,_,h=>by
  cases h with
  | cons r t=>cases r;rw [vals_ref t];rfl
section
variable {X:Cx}{x y:Str}{p q pos pos2:Pos}{e:Expr}{t:TA}
theorem den_kD {K:PySem.W.Frag}{H:Hp}{kf:Addr→Int×Str}:∀ {bs:List Addr},(∀ b∈bs,H b=some (.tup [.int (kf b).1,.str (kf b).2])∧PyData.strOk (kf b).2=true)→Dens K H (bs.map V.ref) (bs.map fun b=>kD (kf b))
 | [],_=>.nil
 | b::bs,h=>.cons (.tup (.inl (.inl (h b (List.mem_cons_self ..)).1)) (.cons (.int _) (.cons (.str (h b (List.mem_cons_self ..)).2) .nil))) (den_kD fun c hc=>h c (List.mem_cons_of_mem _ hc))
theorem call_sortedT {k:Nat} (hr:Room k X.A) {pins:List (Addr×Obj)}{s:Shared}{σ:St}{H:Hp}{Q:VK}{S:Addr}{bs:List Addr}{kf:Addr→Int×Str} (I:Inv X pins σ H s) (hS:SetT X.prog X.w kf (byTx X.w) s.heap S bs) (hk:∀ b∈bs,H b=some (.tup [.int (kf b).1,.str (kf b).2])∧PyData.strOk (kf b).2=true) (h18:bs.length≤18)
  (q:∀ (D:Addr) (ms:List Addr),H D=none→ms.Perm bs→(ms.Pairwise fun a b=>ltv (kD (kf b)) (kD (kf a))=false)→Q (.ref D) (upd H D (.lst (ms.map V.ref)))) :
  wpAny (model X.prog X.w) X.A (call (.builtin "sorted") [.ref S]) (EP X pins σ Q) X.xe s:=by
 (refine Calls.call_function_entry kind_sorted plain_sorted entry_sorted (args_sorted1 _) ?_)
 unfold Builtin.«sorted»
 (refine wpAny_bind (m:=checkCount "sorted" 1 1 _) (wpAny_pure ?_))
 refine wpAny_bind (gset_collect (A:=X.A.in1) (show X.A.in1.handled=none from hr.hd) hS.gset (by rw [List.length_map,sizeLine_eq];lia) fun h1 tk d acc hkp hpa=>?_)
 obtain ⟨cs,ea,hp⟩:=refs_perm hpa
 subst ea
 have hul:cs.length=bs.length:=hp.length_eq
 (refine wpAny_bind (wpAny_newList ?_ (by rw [List.length_map,hul,sizeLine_eq];lia)))
 have I1:Inv X pins σ H { s with heap:=h1,toks:=tk,drawn:=d }:=I.setd hkp
 have hoL:(h1.push (seqObj "list" (cs.map Value.ref).toArray 0)).get? h1.objs.size=some (seqObj "list" (cs.map Value.ref).toArray 0):=Heap.get?_push_size _ rfl
 have keep:∀ b o,s.heap.get? b=some o→(h1.push (seqObj "list" (cs.map Value.ref).toArray 0)).get? b=some o:=fun b o e=>Heap.get?_push_of_some _ (hkp b o e)
 show wpAny _ _ (_ >>= fun _=>_) _ _ { s with heap:=h1.push (seqObj "list" (cs.map Value.ref).toArray 0),toks:=tk,drawn:=d }
 generalize h1.push (seqObj "list" (cs.map Value.ref).toArray 0)=h2 at hoL keep ⊢
 have I2:Inv X pins σ H { s with heap:=h2,toks:=tk,drawn:=d }:=I.setd keep
 have hDn:H h1.objs.size=none:=I1.hok.fresh (Nat.le_refl _)
 have fD:FpOk X pins H h1.objs.size:=I1.fpOk (Nat.le_refl _) hDn
 generalize h1.objs.size=D at hoL hDn fD ⊢
 (refine wpAny_bind (wpAny_holding (wpAny_call_entry slot_list_sort ⟨_,hoL,rfl⟩ entry_list_sort ?body (args_list_sort _))))
 case body=>
  have hden:=den_kD (K:=X.K) (H:=H) (kf:=kf) (bs:=cs) fun b hb=>hk b (hp.mem_iff.mp hb)
  refine lsort_plain (s:={ s with heap:=h2,toks:=tk,drawn:=d }) (a:=.int) (r:=.tcons .str .tnil) (ds:=cs.map fun b=>kD (kf b)) FirstK.int I2 hoL fD (vals_refs cs) hden (fun d hd=>by obtain ⟨b,_,rfl⟩:=List.mem_map.mp hd;exact sh_kD (kf b)) (fun d hd=>by obtain ⟨b,_,rfl⟩:=List.mem_map.mp hd;exact dep_kD (kf b)) (by rw [List.length_map];lia) (by show X.A.units+1+1+101<cLine;have:=hr.un;lia) fun pp h' hp2 hord I'=>?_
  refine ⟨_,rfl,wpAny_pure ⟨_,rfl,?_⟩⟩
  rw [List.length_map] at hp2
  have hlt:∀ i∈pp,i<cs.length:=fun i hi=>by have:=hp2.mem_iff.mp hi;simpa using this
  have e1:picked (cs.map V.ref) pp=(pp.map fun i=>cs.getD i 0).map V.ref:=by
   unfold picked
   rw [List.map_map]
   refine List.map_congr_left fun i hi=>?_
   simp [List.getD_eq_getElem?_getD,hlt i hi]
  have e2:(pp.map fun i=>(cs.map fun b=>kD (kf b)).getD i .none)=(pp.map fun i=>cs.getD i 0).map fun b=>kD (kf b):=by
   rw [List.map_map]
   refine List.map_congr_left fun i hi=>?_
   simp [List.getD_eq_getElem?_getD,hlt i hi]
  have so:(pp.map fun i=>cs.getD i 0).Pairwise fun a b=>ltv (kD (kf b)) (kD (kf a))=false:=by
   unfold InOrd at hord
   rw [e2,List.pairwise_map] at hord
   exact hord
  have pr:(pp.map fun i=>cs.getD i 0).Perm cs:=(hp2.map fun i=>cs.getD i 0).trans (by rw [range_picked cs 0])
  rw [e1] at I'
  exact ⟨.ref _,_,I',rfl,q _ _ hDn (pr.trans hp) so⟩
theorem pe_sortT {k:Nat} (hr:Room k X.A) (hg:Gl X x) (hm:X.mg x=none) (hv:bootBuiltins x=some (.builtin "sorted")) (hg2:Gl X y) (hm2:X.mg y=none) (hv2:bootBuiltins y=some (.type "set")) (ha:PA X [e] t)
  (hn:x ≠ "__name__" :=by decide) (hdb:(x == ("__debug__" : Str))=false:=by decide) (hn2:y ≠ "__name__" :=by decide) (hdb2:(y == ("__debug__" : Str))=false:=by decide)
  (he:starEach [Expr.Call (.Name y q) [e] [] pos2] X.env=(false,eval (Expr.Call (.Name y q) [e] [] pos2) X.env)::starEach [] X.env:=by rfl) (he2:starEach [e] X.env=(false,eval e X.env)::starEach [] X.env:=by rfl) :
  PE X (.Call (.Name x p) [.Call (.Name y q) [e] [] pos2] [] pos) (tSoT t):=by
 intro pins s σ H Q I h
 refine wpAny_Call_Name_kw (ld_blt I hg hm hv ?_ hn hdb)
 refine PyProof.Rows.callWith_builtin1 ?_ he rfl
 rw [he]
 refine Calls.spliced_cons (wpAny_Call_Name_kw (ld_blt I hg2 hm2 hv2 ?_ hn2 hdb2))
 refine PyProof.Rows.callWith_type1 (thn (ha pos2 pins s σ H _ I h) fun us s1 ⟨vs,H1,I1,r1,q1⟩=>?_) he2 rfl
 obtain ⟨l,ls,kf,rfl,hrd,hl18,hk,q1⟩:=q1
 obtain ⟨u,rfl,ru⟩:=r1.one
 cases ru
 obtain ⟨_,its,n,vv,ho⟩:=hrd.ok I1.hok
 have ev:=vals_ref vv
 have il:its.length=ls.length:=by rw [ev,List.length_map]
 have hun:=hr.un
 have tk:∀ b∈ls,Tk X.prog X.w s1.heap (kf b) b:=fun b hb=>key_of (ks:=[.inl (kf b).1,.inr (kf b).2]) I1.hok (hk b hb).1
 refine call_set_tups (kf:=kf) (ls:=ls) hr.hd (show X.A.units+1+1+1<cLine by lia) ⟨_,ho,rfl,n,rfl⟩ ev tk (by rw [List.size_toArray];lia) fun h' tk bs hS hd k=>?_
 have hbs:∀ b∈bs,b∈ls:=fun b hb=>(hd.1 b hb).elim (fun z=>nomatch z) id
 have h18:bs.length≤18:=by
  obtain ⟨o,es,ep,t,_,_,_,hm,_,_,hl,_,_,hp⟩:=id hS
  have:=hp.length_eq
  rw [List.length_map,List.length_map,Array.length_toList] at this
  rcases hm with e | e <;> rw [e] at hl <;> lia
 refine Calls.spliced_nil (call_sortedT hr (I1.setd k) hS (fun b hb=>hk b (hbs b hb)) h18 fun D ms hD hp up=>?_)
 exact q1 D ms hD (fun b hb=>hbs b (hp.mem_iff.mp hb)) (fun b hb=>(hd.2 b (.inr hb)).imp fun c hc=>⟨hp.mem_iff.mpr hc.1,hc.2⟩) up (by rw [hp.length_eq];exact h18)
end
end L2
namespace LG
open PySem L2 PySem.Builtin PySem.Builtin.Str
def sgn (c:Nat):Bool:=decide (33≤c) && decide (c≤126) && decide (c≠37)
def dig (c:Nat):Bool:=decide (48≤c) && decide (c≤57)
def low (c:Nat):Bool:=decide (97≤c) && decide (c≤122)
def onlyB (p:Nat→Bool) (l:List Nat):Bool:=!l.isEmpty && l.all p
def unminus:List Nat→List Nat
 | 45::r=>r
 | l=>l
def kindL (l:List Nat):Nat:=if onlyB dig (unminus l)=true then 0 else if onlyB low l=true then 1 else 2
def wordB (z:Str):Bool:=onlyB sgn z.cps.toList
def kindT (z:Str):Nat:=kindL z.cps.toList
def kindW:Nat→Str
 | 0=> "number"
 | 1=> "name"
 | _=> "other"
def kindS:Nat→Str
 | 0=> "number"
 | 1=> "name"
 | _=> "any"
theorem str_ext {x y:Str} (h:x.cps.toList=y.cps.toList):x=y:=by
 cases x;cases y
 simp only [Str.mk.injEq]
 exact Array.toList_inj.mp h
theorem takeWhile_all {α:Type}{p:α→Bool}:∀ {l:List α},(l.takeWhile p).length=l.length↔l.all p=true
 | []=>by simp
 | a::r=>by
  rw [List.takeWhile_cons,List.all_cons]
  by_cases h:p a=true
  ·rw [if_pos h,h,Bool.true_and]
   simp only [List.length_cons,Nat.add_right_cancel_iff]
   exact takeWhile_all
  ·rw [if_neg h]
   simp [h]
theorem strip_nil (z y:Str):decide (V.str (Txt.stripChars z y)=V.str "")=z.cps.toList.all (fun c=>y.cps.contains c):=by
 have e:Txt.stripChars z y=strSub z (stripLo (fun c=>y.cps.contains c) true z) (stripHi (fun c=>y.cps.contains c) true z (stripLo (fun c=>y.cps.contains c) true z)):=PyProof.Rows.stripBy_eq _ true true z
 have h1:=PyProof.Rows.lo_facts (fun c=>y.cps.contains c) z
 have h2:=PyProof.Rows.hi_facts (fun c=>y.cps.contains c) z (stripLo (fun c=>y.cps.contains c) true z) h1.1
 have hlo:stripLo (fun c=>y.cps.contains c) true z=(z.cps.toList.takeWhile fun c=>y.cps.contains c).length:=by simp [stripLo]
 have hz:z.length=z.cps.toList.length:=by simp [Str.length]
 (rw [Bool.eq_iff_iff,decide_eq_true_eq])
 constructor
 ·intro h
  have h0:(Txt.stripChars z y).cps.size=0:=by
   have:Txt.stripChars z y = "" :=by injection h
   rw [this];rfl
  rw [e] at h0
  have h3:stripHi (fun c=>y.cps.contains c) true z (stripLo (fun c=>y.cps.contains c) true z)≤stripLo (fun c=>y.cps.contains c) true z:=by
   have h4:(Array.extract z.cps (stripLo (fun c=>y.cps.contains c) true z) (stripHi (fun c=>y.cps.contains c) true z (stripLo (fun c=>y.cps.contains c) true z))).size=0:=h0
   rw [Array.size_extract] at h4
   have h5:=h2.2.1
   have h6:z.length=z.cps.size:=rfl
   lia
  rcases Nat.lt_or_ge (stripLo (fun c=>y.cps.contains c) true z) z.length with hl | hl
  ·rcases h1.2.2 with q | q
   ·lia
   ·have:=h2.2.2.1 (stripLo (fun c=>y.cps.contains c) true z) h3 hl
    rw [q] at this
    cases this
  ·have q:stripLo (fun c=>y.cps.contains c) true z=z.length:=Nat.le_antisymm h1.1 hl
   rw [hlo,hz] at q
   exact takeWhile_all.mp q
 ·intro h
  have h3:=takeWhile_all.mpr h
  rw [← hlo,← hz] at h3
  have:Txt.stripChars z y = "" :=by
   rw [e,h3]
   refine str_ext ?_
   have h4:=h2.2.1
   refine List.eq_nil_of_length_eq_zero ?_
   show (Array.extract z.cps z.length _).toList.length=0
   rw [Array.length_toList,Array.size_extract]
   have h6:z.length=z.cps.size:=rfl
   lia
  rw [this]
theorem minus_eq (z:Str):(Txt.removeprefix z "-").cps.toList=unminus z.cps.toList:=by
 rw [StrLaws.removeprefix_eq]
 have h1:(("-" : Str)).length=1:=rfl
 have h2:(("-" : Str)).cps = #[45]:=by decide +kernel
 rw [h1]
 have hz:z.length=z.cps.toList.length:=by simp [Str.length]
 have hs:subAt z "-" 0=(z.cps.extract 0 (0+1) == #[45]):=by
  unfold subAt
  rw [h1,h2]
 rw [hs]
 cases e:z.cps.toList with
 | nil=>
  have h3:z.length=0:=by rw [hz,e];rfl
  rw [h3]
  simp [unminus,e]
 | cons a r=>
  have h3:z.length=r.length+1:=by rw [hz,e];rfl
  have h4:z.cps.extract 0 (0+1) = #[a]:=by
   apply Array.toList_inj.mp
   rw [Array.toList_extract,e]
   simp
  rw [h4,h3]
  by_cases ha:a=45
  ·subst ha
   simp [unminus]
  ·have h5:(#[a] == #[45])=false:=by
    rw [beq_eq_false_iff_ne]
    intro h
    apply ha
    simpa using h
   rw [h5]
   simp only [Bool.and_false,Bool.false_eq_true,if_false]
   rw [e]
   unfold unminus
   split
   ·rename_i q;cases q;exact (ha rfl).elim
   ·rfl
end LG
namespace LG
open PySem L2 PySem.Builtin PySem.Builtin.Str PySem.StrLaws
def isB (l:List Nat) (i:Nat):Bool:=decide (l[i]? = some 32)
theorem count_ix:∀ l:List Nat,(List.range l.length).countP (isB l)=l.count 32
 | []=>rfl
 | a::r=>by
  rw [List.length_cons,List.range_succ_eq_map,List.countP_cons,List.countP_map,List.count_cons]
  have e:(isB (a::r) ∘ Nat.succ)=isB r:=by funext i;simp [isB]
  rw [e,count_ix r]
  have e2:isB (a::r) 0=(a == 32):=by rw [Bool.eq_iff_iff];simp [isB]
  rw [e2]
theorem sub_blank (z:Str) (i:Nat):subAt z " " i=isB z.cps.toList i:=by
 have h2:((" " : Str)).cps.toList=[32]:=by decide +kernel
 have h1:((" " : Str)).length=1:=rfl
 rw [subAt_eq,h1,h2]
 unfold isB
 cases e:z.cps.toList[i]? with
 | none=>
  rw [List.drop_of_length_le (List.getElem?_eq_none_iff.mp e)]
  decide
 | some c=>
  have hi:=ge_len e
  rw [List.drop_eq_getElem_cons hi]
  rw [List.getElem?_eq_getElem hi] at e
  cases e
  rw [Bool.eq_iff_iff]
  simp
theorem occ_many (z:Str) (limit:Nat) (hl:z.length<limit):∀ (m k:Nat) (st:Array Nat×Nat),k+m≤z.length+1→st.1.size≤k→st.2≤k →
  st.1.size+(List.range' k m).countP (isB z.cps.toList)≤(forIn (List.range' k m) st (occBody z " " z.length limit)).run.1.size
 | 0,k,st,_,_,_=>by
  simp only [List.range'_zero,List.countP_nil,Nat.add_zero,List.forIn_nil]
  exact Nat.le_refl _
 | m+1,k,st,hk,hs,hf=>by
  have h1:((" " : Str)).length=1:=rfl
  rw [List.range'_succ,List.forIn_cons,List.countP_cons]
  unfold occBody
  by_cases hb:isB z.cps.toList k=true
  ·have hkl:k<z.length:=by
    have:z.cps.toList[k]? = some 32:=by simpa [isB] using hb
    have:=ge_len this
    simpa [Str.length] using this
   rw [if_pos hb,if_pos ⟨⟨⟨by lia,hf⟩,by rw [h1];lia⟩,by rw [sub_blank];exact hb⟩]
   have ih:=occ_many z limit hl m (k+1) (st.1.push k,k+((" " : Str)).length) (by lia) (by show (st.1.push k).size≤k+1;rw [Array.size_push];lia) (by show k+_≤k+1;rw [h1];exact Nat.le_refl _)
   have e:(st.1.push k,k+((" " : Str)).length).1.size=st.1.size+1:=by show (st.1.push k).size=_;rw [Array.size_push]
   rw [e] at ih
   refine Nat.le_trans ?_ ih
   lia
  ·rw [if_neg hb,if_neg (by rw [sub_blank];exact fun h=>hb h.2)]
   have ih:=occ_many z limit hl m (k+1) (st.1,st.2) (by lia) (by show st.1.size≤_;lia) (by show st.2≤_;lia)
   exact ih
theorem occ_count (z:Str):z.cps.toList.count 32≤(occurrences z " " 0 z.length (z.length+1)).length:=by
 rw [occ_eq]
 have h:=occ_many z (z.length+1) (Nat.lt_succ_self _) (z.length+1) 0 (#[],0) (by lia) (by simp) (Nat.le_refl _)
 have e:(List.range' 0 (z.length+1)).countP (isB z.cps.toList)=z.cps.toList.count 32:=by
  rw [← List.range_eq_range',List.range_succ,List.countP_append]
  have hz:z.length=z.cps.toList.length:=by simp [Str.length]
  have e2:isB z.cps.toList z.length=false:=by
   unfold isB
   rw [hz,List.getElem?_eq_none (Nat.le_refl _)]
   rfl
  rw [hz,count_ix,← hz]
  simp [e2]
 rw [e] at h
 simp only [Array.length_toList]
 have h0:((#[]:Array Nat),0).1.size=0:=rfl
 rw [h0,Nat.zero_add] at h
 exact h
theorem split_size (z:Str):(Txt.split z " ").length=(occurrences z " " 0 z.length (z.length+1)).length+1∨(Txt.split z " " = [z]∧z.cps.toList.count 32=0):=by
 unfold Txt.split
 split
 ·rename_i h
  right
  refine ⟨rfl,?_⟩
  rw [Bool.or_eq_true,decide_eq_true_eq,decide_eq_true_eq] at h
  have h1:((" " : Str)).length=1:=rfl
  rcases h with h | h
  ·have hz:z.cps.toList=[]:=List.eq_nil_of_length_eq_zero (by rw [Array.length_toList];have:z.length=z.cps.size:=rfl;lia)
   rw [hz];rfl
  ·exfalso
   have e:PySem.Builtin.Str.strKind (" " : Str)=1:=by decide +kernel
   rw [e] at h
   unfold PySem.Builtin.Str.strKind at h
   split at h
   ·lia
   ·split at h <;> lia
 ·split
  ·rename_i h
   right
   refine ⟨rfl,?_⟩
   have:=occ_count z
   rw [List.isEmpty_iff.mp h] at this
   simpa using this
  ·left
   rw [length_partsBetween]
theorem count_join (ts:List Str) (hne:ts≠[]):(Str.join " " ts).cps.toList.count 32=(ts.map fun t=>t.cps.toList.count 32).sum+(ts.length - 1):=by
 have h2:((" " : Str)).cps.toList=[32]:=by decide +kernel
 induction ts with
 | nil=>exact (hne rfl).elim
 | cons x r ih=>
  cases r with
  | nil=>show x.cps.toList.count 32=_;simp
  | cons y r=>
   have e:Str.join " " (x::y::r)=x ++ " " ++ Str.join " " (y::r):=rfl
   rw [e]
   have e2:(x++(" " : Str)++Str.join " " (y::r)).cps.toList=x.cps.toList++[32]++(Str.join " " (y::r)).cps.toList:=by
    rw [← h2]
    (simp only [Str.cps_append,Array.toList_append])
   rw [e2,List.count_append,List.count_append,ih (by simp)]
   simp only [List.map_cons,List.sum_cons,List.length_cons,List.count_singleton_self]
   lia
theorem sum_zero:∀ {l:List Nat},l.sum=0→∀ x∈l,x=0
 | [],_,x,h=>by cases h
 | a::r,hs,x,h=>by
  simp only [List.sum_cons] at hs
  (rcases List.mem_cons.mp h with rfl | h)
  ·lia
  ·exact sum_zero (by lia) x h
theorem split_free (z:Str):∀ x∈Txt.split z " ",32∉x.cps.toList:=by
 intro x hx
 have hj:=StrLaws.join_split z " "
 have hne:Txt.split z " " ≠ []:=by intro e;rw [e] at hx;cases hx
 have hc:=count_join (Txt.split z " ") hne
 rw [hj] at hc
 rcases split_size z with h | h
 ·rw [h] at hc
  have h3:=occ_count z
  have h4:(List.map (fun t:Str=>t.cps.toList.count 32) (Txt.split z " ")).sum=0:=by lia
  have h5:=sum_zero h4 (x.cps.toList.count 32) (List.mem_map.mpr ⟨x,hx,rfl⟩)
  exact List.count_eq_zero.mp h5
 ·rw [h.1] at hx
  simp only [List.mem_singleton] at hx
  subst hx
  exact List.count_eq_zero.mp h.2
theorem app_inj {a b c d:List Nat} (h:a++32::b=c++32::d) (ha:32∉a) (hc:32∉c):a=c∧b=d:=by
 induction a generalizing c with
 | nil=>
  cases c with
  | nil=>simp at h;exact ⟨rfl,h⟩
  | cons e c=>simp at h;exact (hc (by simp [← h.1])).elim
 | cons e a ih=>
  cases c with
  | nil=>simp at h;exact (ha (by simp [h.1])).elim
  | cons e' c=>
   simp only [List.cons_append,List.cons.injEq] at h
   obtain ⟨h1,h2⟩:=ih h.2 (fun q=>ha (List.mem_cons_of_mem _ q)) (fun q=>hc (List.mem_cons_of_mem _ q))
   exact ⟨by rw [h.1,h1],h2⟩
theorem joinL (x y:Str) (r:List Str):(Str.join " " (x::y::r)).cps.toList=x.cps.toList++32::(Str.join " " (y::r)).cps.toList:=by
 have h2:((" " : Str)).cps.toList=[32]:=by decide +kernel
 have e:Str.join " " (x::y::r)=x ++ " " ++ Str.join " " (y::r):=rfl
 rw [e]
 simp only [Str.cps_append,Array.toList_append,h2,List.append_assoc,List.singleton_append]
theorem join_inj:∀ {ts us:List Str},ts≠[]→us≠[]→(∀ x∈ts,32∉x.cps.toList)→(∀ x∈us,32∉x.cps.toList)→(Str.join " " ts).cps.toList=(Str.join " " us).cps.toList→ts=us
 | [x],[y],_,_,_,_,h=>by rw [str_ext (x:=x) (y:=y) h]
 | [x],y::y2::r,_,_,hx,_,h=>by
  rw [joinL] at h
  have h:x.cps.toList=y.cps.toList++32::(Str.join " " (y2::r)).cps.toList:=h
  exact (hx x (by simp) (by rw [h];simp)).elim
 | x::x2::r,[y],_,_,_,hy,h=>by
  rw [joinL] at h
  have h:x.cps.toList++32::(Str.join " " (x2::r)).cps.toList=y.cps.toList:=h
  exact (hy y (by simp) (by rw [← h];simp)).elim
 | x::x2::r,y::y2::q,_,_,hx,hy,h=>by
  rw [joinL,joinL] at h
  obtain ⟨h1,h2⟩:=app_inj h (hx x (by simp)) (hy y (by simp))
  have:=join_inj (ts:=x2::r) (us:=y2::q) (by simp) (by simp) (fun z hz=>hx z (List.mem_cons_of_mem _ hz)) (fun z hz=>hy z (List.mem_cons_of_mem _ hz)) h2
  rw [str_ext h1,this]
theorem split_join {ws:List Str} (hne:ws≠[]) (h:∀ x∈ws,32∉x.cps.toList):Txt.split (Txt.join " " ws) " " = ws:=by
 have e:Txt.join " " ws=Str.join " " ws:=StrLaws.glued_eq_join " " ws
 have hj:=StrLaws.join_split (Txt.join " " ws) " "
 refine join_inj ?_ hne (split_free _) h ?_
 ·intro e
  have:=(L2.split_len1 (z:=Txt.join " " ws) (y:= " ")).1
  rw [e] at this
  exact absurd this (by decide)
 ·rw [hj,e]
end LG
namespace LG
open PySem L2 PySem.Builtin PySem.Builtin.Str
theorem has_range (y:Str) (p:Nat→Bool) (h1:∀ c<200,y.cps.contains c=p c) (h2:∀ x∈y.cps.toList,x<200) (h3:∀ c,200≤c→p c=false):(fun c=>y.cps.contains c)=p:=by
 funext c
 rcases Nat.lt_or_ge c 200 with h | h
 ·exact h1 c h
 ·rw [h3 c h]
  rw [Bool.eq_false_iff]
  intro q
  have:=h2 c (by simpa using q)
  lia
theorem sgn_far (c:Nat) (h:200≤c):sgn c=false:=by unfold sgn;rw [decide_eq_false (show ¬ c≤126 by lia)];simp
theorem dig_far (c:Nat) (h:200≤c):dig c=false:=by unfold dig;rw [decide_eq_false (show ¬ c≤57 by lia)];simp
theorem low_far (c:Nat) (h:200≤c):low c=false:=by unfold low;rw [decide_eq_false (show ¬ c≤122 by lia)];simp
@[irreducible] def FIGS:Str:= "0123456789"
@[irreducible] def LOWS:Str:= "abcdefghijklmnopqrstuvwxyz"
@[irreducible] def SIGNS:Str:= "!\"#$&'()*+,-./0123456789:;<=>?@ABCDEFGHIJKLMNOPQRSTUVWXYZ[\\]^_`abcdefghijklmnopqrstuvwxyz{|}~"
theorem FIGS_is:FIGS = "0123456789" :=by unfold FIGS;rfl
theorem LOWS_is:LOWS = "abcdefghijklmnopqrstuvwxyz" :=by unfold LOWS;rfl
theorem SIGNS_is:SIGNS = "!\"#$&'()*+,-./0123456789:;<=>?@ABCDEFGHIJKLMNOPQRSTUVWXYZ[\\]^_`abcdefghijklmnopqrstuvwxyz{|}~" :=by unfold SIGNS;rfl
theorem has_figs:(fun c=>FIGS.cps.contains c)=dig:=has_range _ _ (by decide +kernel) (by decide +kernel) dig_far
theorem has_lows:(fun c=>LOWS.cps.contains c)=low:=has_range _ _ (by decide +kernel) (by decide +kernel) low_far
theorem has_signs:(fun c=>SIGNS.cps.contains c)=sgn:=has_range _ _ (by decide +kernel) (by decide +kernel) sgn_far
theorem dec_nil (z:Str):decide (V.str z=V.str "")=z.cps.toList.isEmpty:=by
 rw [Bool.eq_iff_iff,decide_eq_true_eq,List.isEmpty_iff]
 constructor
 ·intro h
  have:z = "" :=by injection h
  rw [this];rfl
 ·intro h
  have:z = "" :=str_ext (by rw [h];rfl)
  rw [this]
theorem only_eq (z y:Str):((!decide (V.str z=V.str "")) && decide (V.str (Txt.stripChars z y)=V.str ""))=onlyB (fun c=>y.cps.contains c) z.cps.toList:=by
 rw [dec_nil,strip_nil]
 rfl
theorem kindW_inj {i j:Nat} (hi:i<3) (hj:j<3):decide (V.str (kindW i)=V.str (kindW j))=decide (i=j):=by
 match i,j,hi,hj with
 | 0,0,_,_=>decide +kernel
 | 0,1,_,_=>decide +kernel
 | 0,2,_,_=>decide +kernel
 | 1,0,_,_=>decide +kernel
 | 1,1,_,_=>decide +kernel
 | 1,2,_,_=>decide +kernel
 | 2,0,_,_=>decide +kernel
 | 2,1,_,_=>decide +kernel
 | 2,2,_,_=>decide +kernel
theorem kindL_lt (l:List Nat):kindL l<3:=by
 unfold kindL
 split
 ·decide
 ·split <;> decide
def lawKindL (l:List Nat):Nat:=if onlyB dig (unminus l)=true then 0 else if l.all low=true then 1 else 2
theorem lawKind_eq {l:List Nat} (h:l≠[]):lawKindL l=kindL l:=by
 unfold lawKindL kindL
 have:onlyB low l=l.all low:=by
  unfold onlyB
  cases l with
  | nil=>exact (h rfl).elim
  | cons a r=>simp
 rw [this]
theorem pick_all (z:Str):∀ (n a:Nat),a+n≤z.cps.toList.length→((List.range n).map fun k=>a+k).filterMap (fun i=>z.cps[i]?)=(z.cps.toList.drop a).take n
 | 0,a,_=>by simp
 | n+1,a,h=>by
  rw [List.range_succ,List.map_append,List.filterMap_append,pick_all z n a (by lia)]
  have ha:a+n<z.cps.toList.length:=by lia
  have e:z.cps[a+n]? = some (z.cps.toList[a+n]):=by
   rw [← Array.getElem?_toList,List.getElem?_eq_getElem ha]
  simp only [List.map_cons,List.map_nil,List.filterMap_cons,e,List.filterMap_nil]
  rw [List.take_succ,List.getElem?_drop,List.getElem?_eq_getElem ha]
  rfl
theorem slice_idx (z:Str) {l u:Option Int}{a n:Nat} (h:strSliceIndices l u 1 z.length=(List.range n).map fun k=>a+k) (hn:a+n≤z.length):(Txt.slice z l u).cps.toList=(z.cps.toList.drop a).take n:=by
 have hz:z.length=z.cps.toList.length:=by simp [Str.length]
 unfold Txt.slice
 rw [h]
 split
 ·rename_i hc
  have hc':n=z.length:=by simpa using hc
  have ha:a=0:=by lia
  subst ha
  rw [List.drop_zero,List.take_of_length_le (by lia)]
 ·show (List.toArray _).toList=_
  rw [List.toList_toArray]
  exact pick_all z n a (by lia)
theorem slice_head (z:Str):(Txt.slice z none (some 1)).cps.toList=z.cps.toList.take 1:=by
 have hz:z.length=z.cps.toList.length:=by simp [Str.length]
 have h:strSliceIndices none (some 1) 1 z.length=(List.range (min 1 z.length)).map fun k=>0+k:=by
  (unfold strSliceIndices sliceRange)
  simp only [show (1:Int) > 0 by decide,if_true,show ¬ (1:Int)<0 by decide,if_false]
  have e:(if (0:Int)<max 0 (min 1 (z.length:Int)) then (max 0 (min 1 (z.length:Int)) - 0+1 - 1) / 1 else 0).toNat=min 1 z.length:=by
   split <;> lia
  rw [e]
  (refine List.map_congr_left fun k _=>?_)
  lia
 rw [slice_idx z h (by lia),List.drop_zero]
 rcases Nat.eq_zero_or_pos z.length with q | q
 ·have:z.cps.toList=[]:=List.eq_nil_of_length_eq_zero (by lia)
  rw [this];simp
 ·rw [Nat.min_eq_left q]
theorem slice_tail (z:Str):(Txt.slice z (some 1) none).cps.toList=z.cps.toList.drop 1:=by
 have hz:z.length=z.cps.toList.length:=by simp [Str.length]
 have h:strSliceIndices (some 1) none 1 z.length=(List.range (z.length - 1)).map fun k=>min 1 z.length+k:=by
  (unfold strSliceIndices sliceRange)
  simp only [show (1:Int) > 0 by decide,if_true,show ¬ (1:Int)<0 by decide,if_false]
  have e:(if max 0 (min 1 (z.length:Int))<(z.length:Int) then ((z.length:Int) - max 0 (min 1 (z.length:Int))+1 - 1) / 1 else 0).toNat=z.length - 1:=by
   split <;> lia
  rw [e]
  refine List.map_congr_left fun k hk=>?_
  have:=List.mem_range.mp hk
  lia
 rw [slice_idx z h (by lia)]
 rcases Nat.eq_zero_or_pos z.length with q | q
 ·have:z.cps.toList=[]:=List.eq_nil_of_length_eq_zero (by lia)
  rw [this];simp
 ·rw [Nat.min_eq_left q,List.take_of_length_le (by rw [List.length_drop];lia)]
theorem dash_head (z:Str):decide (V.str (Txt.slice z none (some 1))=V.str "-")=decide (z.cps.toList.head? = some 45):=by
 have h2:(("-" : Str)).cps.toList=[45]:=by decide +kernel
 (rw [Bool.eq_iff_iff,decide_eq_true_eq,decide_eq_true_eq])
 constructor
 ·intro h
  have e:Txt.slice z none (some 1) = "-" :=by injection h
  have e2:=slice_head z
  rw [e,h2] at e2
  cases q:z.cps.toList with
  | nil=>rw [q] at e2;simp at e2
  | cons a r=>rw [q] at e2;simp at e2;simp [e2]
 ·intro h
  have e:Txt.slice z none (some 1) = "-" :=by
   refine str_ext ?_
   rw [slice_head,h2]
   cases q:z.cps.toList with
   | nil=>rw [q] at h;simp at h
   | cons a r=>rw [q] at h;simp at h;simp [h]
  rw [e]
theorem unminus_yes {l:List Nat} (h:l.head? = some 45):l.drop 1=unminus l:=by
 cases l with
 | nil=>simp at h
 | cons a r=>simp at h;subst h;rfl
theorem unminus_no {l:List Nat} (h:l.head? ≠ some 45):l=unminus l:=by
 cases l with
 | nil=>rfl
 | cons a r=>
  unfold unminus
  split
  ·rename_i q;cases q;exact (h rfl).elim
  ·rfl
theorem lt1 (a b:Nat):decide ([a] < [b])=decide (a<b):=by
 (rw [Bool.eq_iff_iff,decide_eq_true_eq,decide_eq_true_eq])
 constructor
 ·intro h
  cases h with
  | rel h=>exact h
  | cons h=>cases h
 ·intro h
  exact List.Lex.rel h
end LG
namespace LG
open PySem L2 PySem.Builtin PySem.Builtin.Str
theorem le1 (a b:Nat):(!decide (([b]:List Nat) < [a]))=decide (a≤b):=by
 rw [lt1]
 by_cases h:b<a
 ·rw [decide_eq_true h,decide_eq_false (by lia)];rfl
 ·rw [decide_eq_false h,decide_eq_true (by lia)];rfl
theorem not_betweenX {a b:Str}{lo hi c:Nat} (ha:a=⟨#[lo]⟩) (hb:b=⟨#[hi]⟩) {H2:Hp}{R:Bool→Hp→Prop} (h:R (!(decide (lo≤c) && decide (c≤hi))) H2) :
  tNot (tTest (tChain (fun x y H Q=>∃ i j,x = .str i∧y = .str j∧Q (.bl (!decide (j.cps.toList<i.cps.toList))) H) (fun x y H Q=>∃ i j,x = .str i∧y = .str j∧Q (.bl (!decide (j.cps.toList<i.cps.toList))) H) (tC (.str a)) (tVar 0) (tC (.str b)))) [some (.str ⟨#[c]⟩)] H2 R:=by
 subst ha hb
 refine ⟨_,rfl,_,_,rfl,rfl,_,rfl,?_⟩
 have e1:(!decide ((⟨#[c]⟩:Str).cps.toList<(⟨#[lo]⟩:Str).cps.toList))=decide (lo≤c):=le1 lo c
 rw [e1]
 by_cases h1:lo≤c
 ·rw [decide_eq_true h1] at h ⊢
  rw [if_pos rfl]
  refine ⟨_,_,rfl,rfl,_,rfl,?_⟩
  have e2:(!decide ((⟨#[hi]⟩:Str).cps.toList<(⟨#[c]⟩:Str).cps.toList))=decide (c≤hi):=le1 c hi
  rw [e2]
  rw [Bool.true_and] at h
  exact h
 ·rw [decide_eq_false h1] at h ⊢
  rw [if_neg Bool.false_ne_true]
  refine ⟨_,rfl,?_⟩
  rw [Bool.false_and] at h
  exact h
def sg (c:Nat):Str:=⟨#[c]⟩
section
variable {K:PySem.W.Frag}{tt:TT}{D:Addr}{Q:VK}{H:Hp}
theorem comp_signsX {z:Str} (f:Nat→Bool) (hz:PyData.strOk z=true) (hl:z.length≤1000000) (hD:H D=none) (ht:∀ (c:Nat) (H2:Hp) (R:Bool→Hp→Prop),R (f c) H2→tt [some (.str ⟨#[c]⟩)] H2 R)
  (hq:∀ (H2:Hp),Same H H2→H2 D=some (.lst (((z.cps.toList.filter f).map sg).map V.str))→Q (.ref D) H2) :
  CompW (gName 0) tt (tVar 0) (Its z) D Q [none] (upd H D (.lst [])):=by
 have hzl:z.length=z.cps.toList.length:=by simp [Str.length]
 refine comp_str (fun i acc σ H2=>(∃ u,σ=[u])∧Same H H2∧acc=((((z.cps.toList.take i).filter f).map sg).map V.str)) upd_same ⟨⟨_,rfl⟩,Same.new hD,rfl⟩ (fun i c acc σ H2 hc hDx p=>?_) (fun acc σ H2 hDx p=>?_)
 ·obtain ⟨⟨u,rfl⟩,s2,rfl⟩:=p
  have hc':z.cps.toList[i]? = some c:=by rw [Array.getElem?_toList];exact hc
  have hi:i<z.cps.toList.length:=ge_len hc'
  have et:z.cps.toList.take (i+1)=z.cps.toList.take i++[c]:=by rw [List.take_add_one,hc'];rfl
  have hlen:((((z.cps.toList.take i).filter f).map sg).map V.str).length≤i:=by
   simp only [List.length_map]
   exact Nat.le_trans (List.length_filter_le _ _) (by rw [List.length_take];lia)
  show tt [some (.str ⟨#[c]⟩)] H2 _
  refine ht _ _ _ ?_
  cases hf:f c with
  | true=>
   refine iteT ?_
   refine ⟨_,rfl,_,hDx,small (by lia),_,upd_same,⟨_,rfl⟩,snap_upd hD s2,?_⟩
   rw [et,List.filter_append,List.map_append,List.map_append]
   simp [hf,sg]
  | false=>
   refine iteF ⟨_,hDx,⟨_,rfl⟩,s2,?_⟩
   rw [et,List.filter_append]
   simp [hf]
 ·obtain ⟨_,s2,rfl⟩:=p
  rw [List.take_of_length_le (by lia)] at hDx
  exact hq H2 s2 hDx
theorem ok_sg {z:Str} (hz:PyData.strOk z=true) {f:Nat→Bool}:∀ x∈(z.cps.toList.filter f).map sg,PyData.strOk x=true:=fun x hx=>by
 obtain ⟨c,hc,rfl⟩:=List.mem_map.mp hx
 have:=mem_of_ok hz c (by simpa using (List.mem_filter.mp hc).1)
 exact ok_of_mem fun d hd=>by simp [sg] at hd;lia
theorem no_signsX {σ:St}{i:Nat}{z:Str}{R:Bool→Hp→Prop} (f:Nat→Bool) (hs:σ[i]? = some (some (.str z))) (hz:PyData.strOk z=true) (hl:z.length≤1000000) (ht:∀ (c:Nat) (H2:Hp) (R:Bool→Hp→Prop),R (f c) H2→tt [some (.str ⟨#[c]⟩)] H2 R)
  (h:∀ H',Same H H'→R (z.cps.toList.all fun c=>!f c) H'):tTest (tOp (rEqD K) (tComp (iStr (tVar i)) (gName 0) tt (tVar 0) 1 []) (tLst tNil)) σ H R:=by
 refine ⟨_,hs,z,rfl,fun D hD=>?_⟩
 refine comp_signsX f hz hl hD ht fun H2 s2 hD2=>?_
 refine ⟨Nat.zero_le _,fun p hp=>?_⟩
 refine ⟨.list (((z.cps.toList.filter f).map sg).map .str),.list [],.lst (.of (by rw [upd_ne (ne_of_none hD2 hp)];exact hD2)) (dens_strs (ok_sg hz)),.lst (.of upd_same) .nil,?_,_,rfl,?_⟩
 ·have:PyData.depthAll (((z.cps.toList.filter f).map sg).map PyData.str)≤0:=depthAll_le _ fun d hd=>by
   obtain ⟨x,_,rfl⟩:=List.mem_map.mp hd
   exact Nat.le_refl _
  show PyData.depthAll _+1≤100
  lia
 ·have e:PyData.eqv (.list (((z.cps.toList.filter f).map sg).map .str)) (.list [])=z.cps.toList.all fun c=>!f c:=by
   have:PyData.eqv (.list (((z.cps.toList.filter f).map sg).map .str)) (.list [])=(z.cps.toList.filter f).isEmpty:=by
    cases z.cps.toList.filter f with
    | nil=>rfl
    | cons a r=>rfl
   rw [this,Bool.eq_iff_iff,List.isEmpty_iff,List.filter_eq_nil_iff,List.all_eq_true]
   simp
  rw [e]
  exact h _ (s2.trans (Same.new hp))
end
inductive Pt where
 | word (w:Str)
 | hole (k:Nat)
 deriving DecidableEq
def Pt.dat:Pt→PyData
 | .word w=>.tuple [.str "word",.str w]
 | .hole k=>.tuple [.str "hole",.str (kindS k)]
def TOk (w:Str):Prop:=w.length≤10000∧PyData.strOk w=true
def Pt.ok:Pt→Prop
 | .word w=>TOk w
 | .hole k=>k<3
def patD (ps:List Pt):PyData:=.list (ps.map Pt.dat)
def POk (ps:List Pt):Prop:=ps.length≤10000∧∀ p∈ps,p.ok
def Pt.takes:Pt→Str→Bool
 | .word x,w=>decide (w=x)
 | .hole 0,w=>decide (kindT w=0)
 | .hole 1,w=>decide (kindT w=1)
 | .hole _,w=>wordB w
def takesAll (ps:List Pt) (ws:List Str):Bool:=decide (ps.length=ws.length) && (ps.zip ws).all fun p=>p.1.takes p.2
def Pt.within:Pt→Pt→Bool
 | .word x,q=>q.takes x
 | .hole k,q=>decide (q = .hole k) || decide (q = .hole 2)
def withinAll (ps qs:List Pt):Bool:=decide (ps.length=qs.length) && (ps.zip qs).all fun p=>p.1.within p.2
def Pt.loose:Pt→Int
 | .word _=>0
 | .hole 0=>1
 | .hole 1=>1
 | .hole _=>2
theorem kindS_inj {i j:Nat} (hi:i<3) (hj:j<3) (h:kindS i=kindS j):i=j:=by
 have key:∀ i<3,∀ j<3,kindS i=kindS j→i=j:=by decide +kernel
 exact key i hi j hj h
theorem dat_inj {p q:Pt} (hp:p.ok) (hq:q.ok) (h:p.dat=q.dat):p=q:=by
 cases p with
 | word w=>
  cases q with
  | word w'=>simp [Pt.dat] at h;rw [h]
  | hole k=>
   have:("word" : Str) ≠ "hole" :=by decide +kernel
   simp [Pt.dat] at h
   exact (this h.1).elim
 | hole k=>
  cases q with
  | word w'=>
   have:("hole" : Str) ≠ "word" :=by decide +kernel
   simp [Pt.dat] at h
   exact (this h.1).elim
  | hole k'=>
   simp [Pt.dat] at h
   rw [kindS_inj hp hq h]
def ptSh:Sh:=.tcons .str (.tcons .str .tnil)
theorem sh_pt (p:Pt):ptSh.has p.dat:=by
 cases p with
 | word w=>exact ⟨_,_,rfl,⟨_,rfl⟩,_,_,rfl,⟨_,rfl⟩,rfl⟩
 | hole k=>exact ⟨_,_,rfl,⟨_,rfl⟩,_,_,rfl,⟨_,rfl⟩,rfl⟩
theorem pt_eqv {p q:Pt} (hp:p.ok) (hq:q.ok):PyData.eqv p.dat q.dat=decide (p=q):=by
 rw [Bool.eq_iff_iff,decide_eq_true_eq,(Sh.ok ptSh).eqv _ _ (sh_pt p) (sh_pt q)]
 exact ⟨dat_inj hp hq,fun h=>by rw [h]⟩
theorem dep_dat (pt:Pt):pt.dat.depth≤5:=by cases pt <;> simp [Pt.dat,PyData.depth,PyData.depthAll]
theorem dep_patD (ps:List Pt):(patD ps).depth≤90:=by
 have h:PyData.depthAll (ps.map Pt.dat)≤5:=depthAll_le _ fun d hd=>by
  obtain ⟨pt,_,rfl⟩:=List.mem_map.mp hd
  exact dep_dat pt
 simp only [patD,PyData.depth]
 lia
theorem den_strI {K:PySem.W.Frag}{H:Hp}{v:V}{x:Str} (h:Den K H v (.str x)):v = .str x∧PyData.strOk x=true:=by
 cases h with
 | str q=>exact ⟨rfl,q⟩
theorem den_two {K:PySem.W.Frag}{H:Hp}{v:V}{x y:Str} (h:Den K H v (.tuple [.str x,.str y])):∃ a,v = .ref a∧SqT K H a [.str x,.str y]∧PyData.strOk x=true∧PyData.strOk y=true:=by
 cases h with
 | tup hq t=>
  cases t with
  | cons h1 t=>cases t with
   | cons h2 t=>
    cases t
    obtain ⟨rfl,q1⟩:=den_strI h1
    obtain ⟨rfl,q2⟩:=den_strI h2
    exact ⟨_,rfl,hq,q1,q2⟩
theorem den_pt {K:PySem.W.Frag}{H:Hp}{v:V}{pt:Pt} (h:Den K H v pt.dat):∃ a x y,v = .ref a∧SqT K H a [.str x,.str y]∧PyData.strOk x=true∧PyData.strOk y=true∧(match pt with | .word w=>x = "word" ∧ y=w | .hole k=>x = "hole" ∧ y=kindS k):=by
 cases pt with
 | word w=>obtain ⟨a,rfl,hq,q1,q2⟩:=den_two h;exact ⟨a,_,_,rfl,hq,q1,q2,rfl,rfl⟩
 | hole k=>obtain ⟨a,rfl,hq,q1,q2⟩:=den_two h;exact ⟨a,_,_,rfl,hq,q1,q2,rfl,rfl⟩
theorem den_pat {K:PySem.W.Frag}{H:Hp}{v:V}{ps:List Pt} (h:Den K H v (patD ps)):∃ a xs,v = .ref a∧SqL K H a xs∧Dens K H xs (ps.map Pt.dat):=by
 cases h with
 | lst hq t=>exact ⟨_,_,rfl,hq,t⟩
end LG
namespace LG
open PySem L2 PySem.Builtin PySem.Builtin.Str
def LOk (w:Str):Prop:=w.length≤10000
theorem LOk.s {w:Str} (h:LOk w):w.length≤sizeLine:=Nat.le_trans h (by decide)
def sp_has_only (K:PySem.W.Frag):Sp:=fun vs H Q _=>∃ z y:Str,vs=[.str z,.str y]∧LOk z∧Q (.bl (onlyB (fun c=>y.cps.contains c) z.cps.toList)) H
def sp_is_word (K:PySem.W.Frag):Sp:=fun vs H Q _=>∃ z:Str,vs=[.str z]∧LOk z∧Q (.bl (wordB z)) H
def sp_kind_of (K:PySem.W.Frag):Sp:=fun vs H Q _=>∃ z:Str,vs=[.str z]∧LOk z∧Q (.str (kindW (kindT z))) H
def sp_words_of (K:PySem.W.Frag):Sp:=fun vs H Q _=>∃ z:Str,vs=[.str z]∧LOk z∧∀ l,H l=none→Q (.ref l) (upd H l (.lst ((Txt.split z " ").map V.str)))
def sp_is_hole (K:PySem.W.Frag):Sp:=fun vs H Q _=>∃ v pt,vs=[v]∧Den K H v (Pt.dat pt)∧Q (.bl (match pt with | .hole _=>true | _=>false)) H
def sp_part_takes (K:PySem.W.Frag):Sp:=fun vs H Q _=>∃ (v:V) (w:Str) (p:Pt),vs=[v,.str w]∧Den K H v p.dat∧p.ok∧LOk w∧Q (.bl (p.takes w)) H
def sp_is_part_within (K:PySem.W.Frag):Sp:=fun vs H Q _=>∃ (u v:V) (p q:Pt),vs=[u,v]∧Den K H u p.dat∧Den K H v q.dat∧p.ok∧q.ok∧∀ H',Same H H'→Q (.bl (p.within q)) H'
def sp_is_within (K:PySem.W.Frag):Sp:=fun vs H Q _=>∃ (u v:V) (ps qs:List Pt),vs=[u,v]∧Den K H u (patD ps)∧Den K H v (patD qs)∧POk ps∧POk qs∧∀ H',Same H H'→Q (.bl (withinAll ps qs)) H'
theorem kindS_ok {k:Nat}:PyData.strOk (kindS k)=true:=by
 match k with
 | 0=>decide +kernel
 | 1=>decide +kernel
 | (n+2)=>show PyData.strOk (kindS 2)=true;decide +kernel
theorem hole_any {k:Nat} (hk:k<3):decide (V.str (kindS k)=V.str "any")=decide (k=2):=by
 match k,hk with
 | 0,_=>decide +kernel
 | 1,_=>decide +kernel
 | 2,_=>decide +kernel
theorem kind_hole {k:Nat} (hk:k<2) (w:Str):decide (V.str (kindW (kindT w))=V.str (kindS k))=decide (kindT w=k):=by
 have h:kindS k=kindW k:=by
  match k,hk with
  | 0,_=>rfl
  | 1,_=>rfl
 rw [h]
 exact kindW_inj (kindL_lt _) (by lia)
theorem kindT_lt (z:Str):kindT z<3:=kindL_lt _
theorem within_hole (m:Nat) (q:Pt):(Pt.hole m).within q=(decide (q = .hole m) || decide (q = .hole 2)):=rfl
theorem minus_len (z:Str):(Txt.removeprefix z "-").length≤z.length:=by
 have h:=minus_eq z
 have h1:(Txt.removeprefix z "-").length=(Txt.removeprefix z "-").cps.toList.length:=by simp [Str.length]
 have h2:z.length=z.cps.toList.length:=by simp [Str.length]
 rw [h1,h,h2]
 generalize z.cps.toList=l
 unfold unminus
 split <;> simp
theorem dens_pt {K:PySem.W.Frag}{H:Hp}{xs:List V}{ps:List Pt}{i:Nat}{x:V} (h:Dens K H xs (ps.map Pt.dat)) (hx:xs[i]? = some x):∃ p,ps[i]? = some p∧Den K H x p.dat:=by
 obtain ⟨d,hd,hden⟩:=h.get hx
 rw [List.getElem?_map] at hd
 cases e:ps[i]? with
 | none=>rw [e] at hd;cases hd
 | some p=>rw [e] at hd;cases hd;exact ⟨p,rfl,hden⟩
theorem strs_at {ws:List Str}{i:Nat}{y:V} (h:(ws.map V.str)[i]? = some y):∃ w,ws[i]? = some w∧y = .str w:=by
 rw [List.getElem?_map] at h
 cases e:ws[i]? with
 | none=>rw [e] at h;cases h
 | some w=>rw [e] at h;cases h;exact ⟨w,rfl,rfl⟩
theorem dens_pat {K:PySem.W.Frag}{H:Hp}{xs:List V}{pss:List (List Pt)}{i:Nat}{x:V} (h:Dens K H xs (pss.map patD)) (hx:xs[i]? = some x):∃ ps,pss[i]? = some ps∧Den K H x (patD ps):=by
 obtain ⟨d,hd,hden⟩:=h.get hx
 rw [List.getElem?_map] at hd
 cases e:pss[i]? with
 | none=>rw [e] at hd;cases hd
 | some p=>rw [e] at hd;cases hd;exact ⟨p,rfl,hden⟩
end LG
namespace LG
open PySem L2
def Pt.key:Pt→PyData
 | .word w=>.tuple [.int 0,.int w.length,.str w]
 | .hole k=>.tuple [.int 1,.int k,.str ""]
def keyD (ps:List Pt):PyData:=.tuple [.int ps.length,.list (ps.map Pt.key)]
theorem map_inj {α β:Type}{f:α→β} (hf:∀ a b,f a=f b→a=b):∀ {l l':List α},l.map f=l'.map f→l=l'
 | [],[],_=>rfl
 | [],_::_,h=>by simp at h
 | _::_,[],h=>by simp at h
 | a::r,b::r',h=>by
  rw [List.map_cons,List.map_cons] at h
  injection h with h1 h2
  rw [hf a b h1,map_inj hf h2]
def KOrd (l:List (List Pt)):Prop:=l.Pairwise fun a b=>ltv (keyD b) (keyD a)=false
def sp_word_key (K:PySem.W.Frag):Sp:=fun vs H Q _=>∃ w,vs=[.str w]∧LOk w∧∀ p,H p=none→Q (.ref p) (upd H p (.tup [.int w.length,.str w]))
theorem pt_lim {K:PySem.W.Frag}{H H0 H':Hp} (s1:Same H H0) (s2:Same H H') {v:V}{pt:Pt} (h:Den K H v pt.dat):Den K (lim H0 H') v pt.dat:=by
 cases pt with
 | word w=>obtain ⟨a,rfl,hq,q1,q2⟩:=den_two h;exact .tup (hq.lim s1 s2) (.cons (.str q1) (.cons (.str q2) .nil))
 | hole k=>obtain ⟨a,rfl,hq,q1,q2⟩:=den_two h;exact .tup (hq.lim s1 s2) (.cons (.str q1) (.cons (.str q2) .nil))
theorem pts_lim {K:PySem.W.Frag}{H H0 H':Hp} (s1:Same H H0) (s2:Same H H'):∀ {ps:List Pt}{xs:List V},Dens K H xs (ps.map Pt.dat)→Dens K (lim H0 H') xs (ps.map Pt.dat)
 | [],_,h=>by cases h;exact .nil
 | pt::r,_,h=>by
  cases h with
  | cons h1 t=>exact .cons (pt_lim s1 s2 h1) (pts_lim s1 s2 t)
end LG
namespace LG
open PySem L2
def looseD (ps:List Pt):PyData:=.list (ps.map fun p=>.int p.loose)
def Least (l:List (List Pt)) (ps:List Pt):Prop:=ps∈l∧∀ q∈l,ltv (looseD q) (looseD ps)=false∧(looseD q=looseD ps→ltv (keyD q) (keyD ps)=false)
end LG
namespace LG
open PySem L2 PySem.Builtin PySem.Builtin.Str
def Dk (H:Hp) (d:Addr) (n:Nat):Prop:=∃ a b c:Int,H d=some (.lst [.int a,.int b,.int c])∧0≤a∧0≤b∧b<2147483579∧0≤c∧c≤n
theorem Dk.mono {H:Hp}{d:Addr}{n m:Nat} (h:Dk H d n) (hm:n≤m):Dk H d m:=by
 obtain ⟨a,b,c,h1,h2,h3,h4,h5,h6⟩:=h
 exact ⟨a,b,c,h1,h2,h3,h4,h5,by lia⟩
theorem Dk.lst {H:Hp}{d:Addr}{n:Nat} (h:Dk H d n):∃ ys,H d=some (.lst ys):=by
 obtain ⟨a,b,c,h1,_⟩:=h
 exact ⟨_,h1⟩
theorem Dk.same {H H':Hp}{d:Addr}{n:Nat} (h:Dk H d n) (s:Same H H'):Dk H' d n:=by
 obtain ⟨a,b,c,h1,h2⟩:=h
 exact ⟨a,b,c,s _ _ h1,h2⟩
theorem Dk.upd {H:Hp}{d D:Addr}{n:Nat}{o:HO} (h:Dk H d n) (hne:d≠D):Dk (upd H D o) d n:=by
 obtain ⟨a,b,c,h1,h2⟩:=h
 exact ⟨a,b,c,by rw [upd_ne hne];exact h1,h2⟩
theorem Dk.ne {H:Hp}{d p:Addr}{n:Nat} (h:Dk H d n) (hp:H p=none):d≠p:=by
 obtain ⟨ys,h1⟩:=h.lst
 exact ne_of_none h1 hp
theorem Dk.free {H H':Hp}{d p:Addr}{n:Nat} (h:Dk H' d n) (s:Same (wo d H) H') (hp:H' p=none):H p=none:=by
 have h1:(wo d H) p=none:=s.free hp
 rwa [wo_at (h.ne hp).symm] at h1
theorem keepN {H H':Hp}{d p:Addr}{o:HO} (s:Same (wo d H) H') (h:H p=some o) (hne:d≠p):H' p=some o:=s p o (by rw [wo_at (Ne.symm hne)];exact h)
theorem lim_wo_mono {H H3 H4:Hp}{d:Addr}{ys:List V} (h:H d=some (.lst ys)) (s:Same (wo d H3) H4):Same (lim H H3) (lim H H4):=fun b o e=>by
 have h1:=lim_get e
 have hb:b≠d:=fun q=>by subst q;exact h1 _ h
 rw [lim_at h1]
 exact s b o (by rw [wo_at hb];exact lim_same b o e)
theorem at_strs {l:List Str}{r:Int} (h0:0≤r) (h1:r<l.length):∃ x∈l,atI (l.map V.str) r=some (.str x):=by
 obtain ⟨j,rfl⟩:=Int.eq_ofNat_of_zero_le (h0:(0:Int)≤r)
 have hj:j<l.length:=by lia
 exact ⟨l[j],List.getElem_mem hj,atI_nat (by rw [List.getElem?_map,List.getElem?_eq_getElem hj];rfl)⟩
theorem at_sign {z:Str}{r:Int} (h0:0≤r) (h1:r<z.length):∃ (c i:Nat),atI z.cps.toList r=some c∧z.cps[i]? = some c:=by
 obtain ⟨j,rfl⟩:=Int.eq_ofNat_of_zero_le (h0:(0:Int)≤r)
 have hj:j<z.cps.size:=by have:z.length=z.cps.size:=rfl;lia
 exact ⟨z.cps[j],j,atI_nat (by rw [Array.getElem?_toList,Array.getElem?_eq_getElem hj]),Array.getElem?_eq_getElem hj⟩
theorem ixN_in {n:Nat}{i:Int} (h0:0≤i) (h1:i<n):ixN n i=some i.toNat:=by
 unfold ixN
 rw [if_pos h0,if_pos h1]
theorem cut_take {xs:List V}{i:Int} (h:0≤i):cutV xs none (some i)=xs.take i.toNat:=by
 unfold cutV
 have h1:HT.sIx xs.length 0 none=0:=by simp [HT.sIx]
 rw [h1]
 obtain ⟨j,rfl⟩:=Int.eq_ofNat_of_zero_le (h:(0:Int)≤i)
 rw [HT.sIx_nat,Int.toNat_natCast,List.drop_zero,Nat.sub_zero]
 rcases Nat.le_total j xs.length with q | q
 ·rw [Nat.min_eq_left q]
 ·rw [Nat.min_eq_right q,List.take_of_length_le (Nat.le_refl _),List.take_of_length_le q]
structure WOk (w:Str):Prop where
 word:wordB w=true
 len:w.length≤5
 ok:PyData.strOk w=true
theorem sgn_no32:sgn 32=false:=by decide
theorem WOk.blank {w:Str} (h:WOk w):32∉w.cps.toList:=fun q=>by
 have h1:=h.word
 unfold wordB onlyB at h1
 rw [Bool.and_eq_true,List.all_eq_true] at h1
 have:=h1.2 32 q
 rw [sgn_no32] at this
 cases this
def words1:List Str:=["get", "put", "a"]
def words2:List Str:=["0", "7", "12", "-3", "007"]
def words3:List Str:=["id=4", "<any>", "=", "x1", "-", "A", "<", "none"]
def words4:List Str:=["abcdefghijklmnopqrstuvwxyz", "0123456789", "-09az", "!\"#$&'()*+,-./:;<=>?@AZ[\\]^_{|}~"]
theorem w1:∀ x∈words1,wordB x=true∧x.length≤5∧PyData.strOk x=true:=by decide +kernel
theorem w2:∀ x∈words2,wordB x=true∧x.length≤5∧PyData.strOk x=true:=by decide +kernel
theorem w3:∀ x∈words3,wordB x=true∧x.length≤5∧PyData.strOk x=true:=by decide +kernel
theorem w4:∀ x∈words4,PyData.strOk x=true∧x.length≤100∧0<x.length∧x.cps.toList.all sgn=true:=by decide +kernel
theorem glue_p {p:Nat→Prop}{y:Str} (hy:∀ c∈y.cps,p c):∀ (xs:List Str) (acc:Array Nat),(∀ x∈xs,∀ c∈x.cps,p c)→(∀ c∈acc,p c)→(∀ c∈xs.foldl (fun acc q=>acc++y.cps++q.cps) acc,p c)∧acc.size≤(xs.foldl (fun acc q=>acc++y.cps++q.cps) acc).size
 | [],acc,_,h=>⟨h,Nat.le_refl _⟩
 | x::r,acc,hx,h=>by
  have ih:=glue_p hy r (acc++y.cps++x.cps) (fun z hz=>hx z (List.mem_cons_of_mem _ hz)) fun c hc=>by
   rcases Array.mem_append.mp hc with hc | hc
   ·rcases Array.mem_append.mp hc with hc | hc
    ·exact h c hc
    ·exact hy c hc
   ·exact hx x (List.mem_cons_self ..) c hc
  refine ⟨ih.1,Nat.le_trans ?_ ih.2⟩
  rw [Array.size_append,Array.size_append]
  lia
theorem join_word {l:List Str} (hn:1≤l.length) (hl:l.length≤4) (h:∀ y∈l,PyData.strOk y=true∧y.length≤1∧∃ c,y=⟨#[c]⟩∧sgn c=true):WOk (Txt.join "" l):=by
 have hj:=ok_join (y:= "") (m:=1) (by decide +kernel) (fun y hy=>⟨(h y hy).1,(h y hy).2.1⟩)
 have h0:(("" : Str)).length=0:=rfl
 rw [h0] at hj
 refine ⟨?_,by lia,hj.1⟩
 cases l with
 | nil=>simp at hn
 | cons x r=>
  have hx:=h x (List.mem_cons_self ..)
  obtain ⟨c,hxc,hsc⟩:=hx.2.2
  have hp:=glue_p (p:=fun c=>sgn c=true) (y:= "") (fun c hc=>by rw [show (Str.ofString "").cps = #[] from rfl] at hc;simp at hc) r x.cps (fun y hy c hc=>by
   obtain ⟨c',rfl,h'⟩:=(h y (List.mem_cons_of_mem _ hy)).2.2
   simp at hc
   subst hc
   exact h') (fun c hc=>by
   subst hxc
   simp at hc
   subst hc
   exact hsc)
  have e:(Txt.join "" (x::r)).cps=r.foldl (fun acc q=>acc++(("" : Str)).cps++q.cps) x.cps:=rfl
  unfold wordB onlyB
  rw [e,Bool.and_eq_true]
  constructor
  ·have hs:1≤(r.foldl (fun acc q=>acc++(("" : Str)).cps++q.cps) x.cps).size:=Nat.le_trans (by subst hxc;simp) hp.2
   cases q:(r.foldl (fun acc q=>acc++(("" : Str)).cps++q.cps) x.cps).toList with
   | nil=>rw [← Array.length_toList,q] at hs;simp at hs
   | cons a b=>rfl
  ·rw [List.all_eq_true]
   intro c hc
   exact hp.1 c (by simpa using hc)
def sp__law_deck (K:PySem.W.Frag):Sp:=fun vs H Q _=>∃ c:Int,vs=[.int c,.int 0]∧∀ d H',H d=none→Same H H'→Dk H' d 0→Q (.ref d) H'
def sp__law_pick (K:PySem.W.Frag):Sp:=fun vs H Q _=>∃ (d:Addr) (m:Int) (n:Nat),vs=[.ref d,.int m]∧Dk H d n∧n<1000000∧0<m∧m<1000000∧∀ (r:Int) H',Same (wo d H) H'→Dk H' d (n+1)→0≤r→r<m→Q (.int r) H'
def sp__law_kind (K:PySem.W.Frag):Sp:=fun vs H Q _=>∃ z:Str,vs=[.str z]∧TOk z∧∀ H',Same H H'→Q (.str (kindW (lawKindL z.cps.toList))) H'
def sp__law_word (K:PySem.W.Frag):Sp:=fun vs H Q _=>∃ (d:Addr) (n:Nat),vs=[.ref d]∧Dk H d n∧n<900000∧∀ (x:Str) H',Same (wo d H) H'→Dk H' d (n+6)→WOk x→Q (.str x) H'
structure LnOk (m:Nat) (x:Str) (ws:List Str):Prop where
 eq:x=Txt.join " " ws
 pos:1≤ws.length
 le:ws.length≤m
 wd:∀ w∈ws,WOk w
theorem LnOk.split {m:Nat}{x:Str}{ws:List Str} (h:LnOk m x ws):Txt.split x " " = ws:=by
 rw [h.eq]
 exact split_join (by intro e;have:=h.pos;rw [e] at this;simp at this) fun w hw=>(h.wd w hw).blank
theorem LnOk.ok {m:Nat}{x:Str}{ws:List Str} (h:LnOk m x ws) (hm:m≤12):PyData.strOk x=true∧x.length≤72:=by
 have hj:=ok_join (y:= " ") (m:=5) (by decide +kernel) (fun y hy=>⟨(h.wd y hy).ok,(h.wd y hy).len⟩)
 have h1:((" " : Str)).length=1:=rfl
 rw [h1,← h.eq] at hj
 have:=h.le
 exact ⟨hj.1,by lia⟩
def sp__law_line (K:PySem.W.Frag):Sp:=fun vs H Q _=>∃ (d:Addr) (m:Int) (n:Nat),vs=[.ref d,.int m]∧Dk H d n∧n<800000∧0<m∧m<13∧∀ (x:Str) (ws:List Str) H',Same (wo d H) H'→Dk H' d (n+80)→LnOk m.toNat x ws→Q (.str x) H'
def Drawn (w:Str) (p:Pt):Prop:=p = .word w∨(p = .hole (lawKindL w.cps.toList)∧lawKindL w.cps.toList<2)∨p = .hole 2
def DrawnAll (ws:List Str) (ps:List Pt):Prop:=ps.length=ws.length∧∀ (i:Nat) w p,ws[i]? = some w→ps[i]? = some p→Drawn w p
def sp__law_pattern (K:PySem.W.Frag):Sp:=fun vs H Q _=>∃ (d:Addr) (z:Str) (n:Nat),vs=[.ref d,.str z]∧Dk H d n∧n<800000∧z.length≤9000∧PyData.strOk z=true ∧
 ∀ F H' ps,H F=none→Same (wo d H) H'→Dk H' d (n+(z.length+2))→POk ps→DrawnAll (Txt.split z " ") ps→(∃ ys,H' F=some (.lst ys))→Den K (lim H H') (.ref F) (patD ps)→Q (.ref F) H'
end LG
namespace LG
open PySem L2
def PatInv (K:PySem.W.Frag) (H:Hp) (d:Addr) (z:Str) (F L:Addr) (n i:Nat) (σ:St) (H3:Hp):Prop:=
 (∃ u1 u2 u3,σ=[some (.ref d),some (.str z),some (.ref F),u1,u2,u3])∧Same (wo d H) H3∧Dk H3 d (n+i)∧H3 L=some (.lst ((Txt.split z " ").map V.str)) ∧
 ∃ (acc:List V) (ps:List Pt),H3 F=some (.lst acc)∧ps.length=i∧(∀ p∈ps,Pt.ok p)∧(∀ (j:Nat) w p,(Txt.split z " ")[j]? = some w→ps[j]? = some p→Drawn w p)∧Dens K (lim (upd H F (.lst [])) H3) acc (ps.map Pt.dat)
theorem PatInv.step {K:PySem.W.Frag}{H H5:Hp}{d F L t:Addr}{z a b wd:Str}{acc:List V}{n i:Nat}{σ:St}{ps:List Pt}{pt:Pt} (hdF:d≠F) (hFL:F≠L) (hF:H F=none)
  (hσ:∃ u1 u2 u3,σ=[some (.ref d),some (.str z),some (.ref F),u1,u2,u3]) (s5:Same (wo d H) H5) (dk5:Dk H5 d (n+(i+1))) (hL:H5 L=some (.lst ((Txt.split z " ").map V.str))) (hF5:H5 F=some (.lst acc)) (hps:ps.length=i) (hok:∀ p∈ps,Pt.ok p)
  (hdr:∀ (j:Nat) w p,(Txt.split z " ")[j]? = some w→ps[j]? = some p→Drawn w p) (dn:Dens K (lim (upd H F (.lst [])) H5) acc (ps.map Pt.dat)) (hw:(Txt.split z " ")[i]? = some wd) (hd:Drawn wd pt) (e:pt.dat = .tuple [.str a,.str b]) (hpt:pt.ok) (ha:PyData.strOk a=true) (hb:PyData.strOk b=true) (ht:H5 t=none) :
  PatInv K H d z F L n (i+1) σ (upd (upd H5 t (.tup [.str a,.str b])) F (.lst (acc++[.ref t]))):=by
 have hFt:F≠t:=ne_of_none hF5 ht
 have hLt:L≠t:=ne_of_none hL ht
 have st:Same H5 (upd H5 t (.tup [.str a,.str b])):=Same.new ht
 refine ⟨hσ,snap_upd (by rw [wo_at hdF.symm];exact hF) (s5.trans st),(dk5.same st).upd hdF,by rw [upd_ne hFL.symm];exact st _ _ hL,acc++[.ref t],ps++[pt],upd_same,by simp [hps],fun p hp=>?_,fun j w p hj hp=>?_,?_⟩
 ·(rcases List.mem_append.mp hp with hp | hp)
  ·exact hok p hp
  ·simp only [List.mem_singleton] at hp
   subst hp
   exact hpt
 ·rcases Nat.lt_trichotomy j ps.length with q | q | q
  ·rw [List.getElem?_append_left q] at hp
   exact hdr j w p hj hp
  ·subst q
   rw [List.getElem?_append_right (Nat.le_refl _)] at hp
   simp at hp
   subst hp
   rw [hps,hw] at hj
   cases hj
   exact hd
  ·rw [List.getElem?_eq_none (by rw [List.length_append,List.length_singleton];lia)] at hp
   cases hp
 ·rw [lim_upd (ys:=[]) upd_same,List.map_append]
  refine (dn.same (lim_mono st)).append (.cons ?_ .nil)
  have hn:(upd H F (.lst [])) t=none:=by rw [upd_ne hFt.symm];exact dk5.free s5 ht
  rw [e]
  exact .tup (.of ((lim_new hn).trans upd_same)) (.cons (.str ha) (.cons (.str hb) .nil))
theorem lawKind_lt (l:List Nat):lawKindL l<3:=by
 unfold lawKindL
 split
 ·decide
 ·split <;> decide
theorem law_other {k:Nat} (hk:k<3):decide (V.str (kindW k)=V.str "other")=decide (k=2):=by
 match k,hk with
 | 0,_=>decide +kernel
 | 1,_=>decide +kernel
 | 2,_=>decide +kernel
theorem kindW_S {k:Nat} (hk:k<2):kindW k=kindS k:=by
 match k,hk with
 | 0,_=>rfl
 | 1,_=>rfl
end LG
namespace LG
open PySem L2
structure WsOk (ws:List Str):Prop where
 pos:1≤ws.length
 le:ws.length≤12
 wd:∀ w∈ws,WOk w
theorem WsOk.line {ws:List Str} (h:WsOk ws):LnOk 12 (Txt.join " " ws) ws:=⟨rfl,h.pos,h.le,h.wd⟩
def sp__law_lines (K:PySem.W.Frag):Sp:=fun vs H Q _=>∃ (d:Addr) (m:Int) (n:Nat),vs=[.ref d,.int m]∧Dk H d n∧n<700000∧0≤m∧m≤60 ∧
 ∀ D (ls:List Str) H',H D=none→Same (wo d H) H'→Dk H' d (n+2000)→H' D=some (.lst (ls.map V.str))→(∀ x∈ls,∃ ws,LnOk 12 x ws)→ls.length≤m.toNat→Q (.ref D) H'
def Shapes (Hs:Hp) (acc:List V):Prop:=∀ x∈acc,∃ (s:Addr) (ws:List Str),x = .ref s∧Hs s=some (.lst (ws.map V.str))∧WsOk ws
theorem at_ints {r:Int} (h0:0≤r) (h1:r<3):∃ v:Int,atI [V.int 3,V.int 6,V.int 12] r=some (.int v)∧0<v∧v<13:=by
 have:r=0∨r=1∨r=2:=by lia
 rcases this with rfl | rfl | rfl
 ·exact ⟨3,rfl,by decide,by decide⟩
 ·exact ⟨6,rfl,by decide,by decide⟩
 ·exact ⟨12,rfl,by decide,by decide⟩
theorem WsOk.set {ws:List Str} (h:WsOk ws) {i:Nat}{x:Str} (hx:WOk x):WsOk (ws.set i x):=by
 refine ⟨by rw [List.length_set];exact h.pos,by rw [List.length_set];exact h.le,fun w hw=>?_⟩
 rcases List.mem_or_eq_of_mem_set hw with q | q
 ·exact h.wd w q
 ·rw [q];exact hx
end LG
namespace LG
open PySem L2
structure FitsW (ws:List Str) (ps:List Pt):Prop where
 ok:POk ps
 len:ps.length=ws.length
 takes:∀ (i:Nat) w p,ws[i]? = some w→ps[i]? = some p→p.takes w=true
theorem dats_inj:∀ {ps qs:List Pt},(∀ p∈ps,p.ok)→(∀ p∈qs,p.ok)→ps.map Pt.dat=qs.map Pt.dat→ps=qs
 | [],[],_,_,_=>rfl
 | [],_::_,_,_,h=>by simp at h
 | _::_,[],_,_,h=>by simp at h
 | p::r,q::t,hp,hq,h=>by
  rw [List.map_cons,List.map_cons] at h
  injection h with h1 h2
  rw [dat_inj (hp p (List.mem_cons_self ..)) (hq q (List.mem_cons_self ..)) h1,dats_inj (fun x hx=>hp x (List.mem_cons_of_mem _ hx)) (fun x hx=>hq x (List.mem_cons_of_mem _ hx)) h2]
end LG
namespace LG
open PySem L2
section
variable {K:PySem.W.Frag}{H0 H H':Hp}{d S:Addr}{ws:List Str}{n n' m:Nat}{xs:List V}{pss:List (List Pt)}
end
end LG
namespace LG
open PySem L2
def sp_law (K:PySem.W.Frag):Sp:=fun vs H Q _=>∃ (a:Addr) (ns:List Int),vs=[.ref a]∧SqL K H a (ns.map V.int)∧ns.length≤63∧∀ H',Q (.bl true) H'
structure FallsO (l:List (List Pt)) (o:Option (List Pt)):Prop where
 nil:o=none↔l=[]
 least:∀ ps,o=some ps→Least l ps
theorem pats_nil (pss:List (List Pt)):PyData.eqv (.list (pss.map patD)) (.list [])=pss.isEmpty:=by
 cases pss with
 | nil=>rfl
 | cons p r=>rfl
theorem dep_pats (pss:List (List Pt)):(PyData.list (pss.map patD)).depth≤100:=by
 have h:PyData.depthAll (pss.map patD)≤90:=depthAll_le _ fun d hd=>by
  obtain ⟨ps,_,rfl⟩:=List.mem_map.mp hd
  exact dep_patD ps
 simp only [PyData.depth]
 lia
theorem dens_rev {K:PySem.W.Frag}{H:Hp}:∀ {xs:List V}{ds:List PyData},Dens K H xs ds→Dens K H xs.reverse ds.reverse
 | _,_,.nil=>.nil
 | _,_,.cons h t=>by
  (rw [List.reverse_cons,List.reverse_cons])
  exact (dens_rev t).append (.cons h .nil)
end LG
namespace LG
open PySem L2 PySem.Builtin PySem.Builtin.Str
def PtW:Pt→Prop
 | .word w=>wordB w=true∧w.length≤500∧PyData.strOk w=true
 | .hole k=>k<3
def PW (ps:List Pt):Prop:=∀ p∈ps,PtW p
def Words (ws:List Str):Prop:=∀ w∈ws,wordB w=true
def knows (pss:List (List Pt)) (ws:List Str):Bool:=pss.any fun ps=>takesAll ps ws
def needless (ps:List Pt) (oss:List (List Pt)):Bool:=oss.any fun os=>withinAll ps os
theorem PtW.ok {p:Pt} (h:PtW p):p.ok:=by
 cases p with
 | word w=>exact ⟨Nat.le_trans h.2.1 (by decide),h.2.2⟩
 | hole k=>exact h
theorem takes_cons (p:Pt) (ps:List Pt) (w:Str) (ws:List Str):takesAll (p::ps) (w::ws)=(p.takes w && takesAll ps ws):=by
 simp only [takesAll,List.length_cons,List.zip_cons_cons,List.all_cons,Nat.add_right_cancel_iff]
 cases p.takes w <;> simp
theorem takes_nc (w:Str) (ws:List Str):takesAll [] (w::ws)=false:=rfl
theorem takes_cn (p:Pt) (ps:List Pt):takesAll (p::ps) []=false:=rfl
theorem within_cons (p:Pt) (ps:List Pt) (q:Pt) (qs:List Pt):withinAll (p::ps) (q::qs)=(p.within q && withinAll ps qs):=by
 simp only [withinAll,List.length_cons,List.zip_cons_cons,List.all_cons,Nat.add_right_cancel_iff]
 cases p.within q <;> simp
theorem within_nc (w:Pt) (ws:List Pt):withinAll [] (w::ws)=false:=rfl
theorem within_cn (p:Pt) (ps:List Pt):withinAll (p::ps) []=false:=rfl
theorem sgn_dig {c:Nat} (h:dig c=true):sgn c=true:=by
 unfold dig at h;unfold sgn
 rw [Bool.and_eq_true,decide_eq_true_eq,decide_eq_true_eq] at h
 rw [Bool.and_eq_true,Bool.and_eq_true,decide_eq_true_eq,decide_eq_true_eq,decide_eq_true_eq]
 lia
theorem sgn_low {c:Nat} (h:low c=true):sgn c=true:=by
 unfold low at h;unfold sgn
 rw [Bool.and_eq_true,decide_eq_true_eq,decide_eq_true_eq] at h
 rw [Bool.and_eq_true,Bool.and_eq_true,decide_eq_true_eq,decide_eq_true_eq,decide_eq_true_eq]
 lia
theorem only_sgn {p:Nat→Bool} (hp:∀ c,p c=true→sgn c=true) {l:List Nat} (h:onlyB p l=true):onlyB sgn l=true:=by
 unfold onlyB at h ⊢
 rw [Bool.and_eq_true,List.all_eq_true] at h ⊢
 exact ⟨h.1,fun c hc=>hp c (h.2 c hc)⟩
theorem kind_word {w:Str} (h:kindT w<2):wordB w=true:=by
 unfold kindT kindL at h
 unfold wordB
 by_cases h0:onlyB dig (unminus w.cps.toList)=true
 ·generalize w.cps.toList=l at h0
  unfold unminus at h0
  split at h0
  ·rename_i r
   have h1:=only_sgn (fun c=>sgn_dig) h0
   unfold onlyB at h1 ⊢
   rw [Bool.and_eq_true] at h1 ⊢
   refine ⟨rfl,?_⟩
   rw [List.all_cons,h1.2]
   rfl
  ·exact only_sgn (fun c=>sgn_dig) h0
 ·rw [if_neg h0] at h
  by_cases h1:onlyB low w.cps.toList=true
  ·exact only_sgn (fun c=>sgn_low) h1
  ·rw [if_neg h1] at h
   lia
theorem takes_hole {m:Nat} (hm:m<2) (w:Str):(Pt.hole m).takes w=decide (kindT w=m):=by
 have:m=0∨m=1:=by lia
 rcases this with rfl | rfl <;> rfl
theorem takes_any (w:Str):(Pt.hole 2).takes w=wordB w:=rfl
theorem hole_cases {m:Nat} (hm:m<3):m<2∨m=2:=by lia
theorem takes_word {p:Pt}{w:Str} (hp:PtW p) (h:p.takes w=true):wordB w=true:=by
 cases p with
 | word x=>
  have e:w=x:=by simpa [Pt.takes] using h
  rw [e];exact hp.1
 | hole m=>
  rcases hole_cases hp with hm | rfl
  ·rw [takes_hole hm,decide_eq_true_eq] at h
   exact kind_word (by lia)
  ·exact h
theorem within_takes {p q:Pt}{w:Str} (hp:PtW p) (h:p.within q=true) (hw:p.takes w=true):q.takes w=true:=by
 cases p with
 | word x=>
  have e:w=x:=by simpa [Pt.takes] using hw
  rw [e];exact h
 | hole m=>
  rw [within_hole,Bool.or_eq_true,decide_eq_true_eq,decide_eq_true_eq] at h
  rcases h with rfl | rfl
  ·exact hw
  ·exact takes_word hp hw
theorem all_within_takes:∀ {ps qs:List Pt}{ws:List Str},PW ps→withinAll ps qs=true→takesAll ps ws=true→takesAll qs ws=true
 | [],[],ws,_,_,h=>h
 | [],_::_,_,_,h,_=>by rw [within_nc] at h;cases h
 | _::_,[],_,_,h,_=>by rw [within_cn] at h;cases h
 | p::ps,q::qs,[],_,_,h=>by rw [takes_cn] at h;cases h
 | p::ps,q::qs,w::ws,hp,h,hw=>by
  rw [within_cons,Bool.and_eq_true] at h
  rw [takes_cons,Bool.and_eq_true] at hw ⊢
  exact ⟨within_takes (hp p (List.mem_cons_self ..)) h.1 hw.1,all_within_takes (fun x hx=>hp x (List.mem_cons_of_mem _ hx)) h.2 hw.2⟩
theorem takes_words:∀ {ps:List Pt}{ws:List Str},PW ps→takesAll ps ws=true→Words ws
 | [],[],_,_=>fun w hw=>by cases hw
 | [],_::_,_,h=>by rw [takes_nc] at h;cases h
 | _::_,[],_,h=>by rw [takes_cn] at h;cases h
 | p::ps,w::ws,hp,h=>by
  rw [takes_cons,Bool.and_eq_true] at h
  intro x hx
  rcases List.mem_cons.mp hx with rfl | hx
  ·exact takes_word (hp p (List.mem_cons_self ..)) h.1
  ·exact takes_words (fun x hx=>hp x (List.mem_cons_of_mem _ hx)) h.2 x hx
theorem takes_lens {ps:List Pt}{ws:List Str} (h:takesAll ps ws=true):ps.length=ws.length:=by
 unfold takesAll at h
 rw [Bool.and_eq_true,decide_eq_true_eq] at h
 exact h.1
theorem needless_knows {ps:List Pt}{oss:List (List Pt)}{ws:List Str} (hp:PW ps) (h:needless ps oss=true) (hw:takesAll ps ws=true):knows oss ws=true:=by
 unfold needless at h
 unfold knows
 rw [List.any_eq_true] at h ⊢
 obtain ⟨os,ho,hw2⟩:=h
 exact ⟨os,ho,all_within_takes hp hw2 hw⟩
def rep (c n:Nat):Str:=⟨(List.replicate (n+1) c).toArray⟩
theorem rep_len (c n:Nat):(rep c n).length=n+1:=by simp [rep,Str.length]
theorem rep_list (c n:Nat):(rep c n).cps.toList=List.replicate (n+1) c:=by simp [rep]
theorem only_rep (p:Nat→Bool) (c n:Nat):onlyB p (List.replicate (n+1) c)=p c:=by
 unfold onlyB
 rw [List.all_replicate]
 simp [List.replicate_succ]
def freshC:Nat→Nat
 | 0=>48
 | 1=>97
 | _=>65
theorem unminus_rep {c:Nat} (hc:c≠45) (n:Nat):unminus (List.replicate (n+1) c)=List.replicate (n+1) c:=by
 rw [List.replicate_succ]
 unfold unminus
 split
 ·rename_i r e
  injection e with e1 e2
  exact (hc e1).elim
 ·rfl
theorem rep_kind {k:Nat} (hk:k<3) (n:Nat):kindT (rep (freshC k) n)=k∧wordB (rep (freshC k) n)=true:=by
 unfold kindT wordB
 rw [rep_list]
 have:k=0∨k=1∨k=2:=by lia
 unfold kindL
 rcases this with rfl | rfl | rfl
 ·rw [unminus_rep (by decide),only_rep dig,only_rep sgn];exact ⟨rfl,rfl⟩
 ·rw [unminus_rep (by decide),only_rep dig,only_rep low,only_rep sgn];exact ⟨rfl,rfl⟩
 ·rw [unminus_rep (by decide),only_rep dig,only_rep low,only_rep sgn];exact ⟨rfl,rfl⟩
def pickW (n:Nat):Pt→Str
 | .word x=>x
 | .hole m=>rep (freshC m) n
def Short (n:Nat) (p:Pt):Prop:=∀ y,p = .word y→y.length≤n
theorem short_of:∀ (ps:List Pt),PW ps→∀ p∈ps,Short 500 p:=fun ps h p hp y e=>by
 subst e
 exact (h _ hp).2.1
theorem takes_pick {p:Pt} (hp:PtW p) (n:Nat):p.takes (pickW n p)=true:=by
 cases p with
 | word x=>simp [Pt.takes,pickW]
 | hole m=>
  rcases hole_cases hp with hm | rfl
  ·rw [takes_hole hm,decide_eq_true_eq];exact (rep_kind (by lia) n).1
  ·exact (rep_kind (k:=2) (by decide) n).2
theorem pick_within {p q:Pt}{n:Nat} (hp:PtW p) (hq:PtW q) (hs:Short n q) (h:q.takes (pickW n p)=true):p.within q=true:=by
 cases p with
 | word x=>exact h
 | hole m=>
  have hm:m<3:=hp
  rw [within_hole,Bool.or_eq_true,decide_eq_true_eq,decide_eq_true_eq]
  cases q with
  | word y=>
   exfalso
   have e:rep (freshC m) n=y:=of_decide_eq_true h
   have h1:=hs y rfl
   have h2:=rep_len (freshC m) n
   rw [e] at h2
   lia
  | hole j=>
   rcases hole_cases hq with hj | rfl
   ·rw [takes_hole hj,decide_eq_true_eq] at h
    have h3:kindT (rep (freshC m) n)=m:=(rep_kind hm n).1
    have h4:kindT (rep (freshC m) n)=j:=h
    left
    rw [← h4,h3]
   ·exact .inr rfl
theorem all_pick:∀ {ps:List Pt} (n:Nat),PW ps→takesAll ps (ps.map (pickW n))=true
 | [],_,_=>rfl
 | p::ps,n,h=>by
  rw [List.map_cons,takes_cons,takes_pick (h p (List.mem_cons_self ..)),all_pick n fun x hx=>h x (List.mem_cons_of_mem _ hx)]
  rfl
theorem all_pick_within:∀ {ps qs:List Pt} (n:Nat),PW ps→PW qs→(∀ q∈qs,Short n q)→takesAll qs (ps.map (pickW n))=true→withinAll ps qs=true
 | [],[],_,_,_,_,_=>rfl
 | [],_::_,_,_,_,_,h=>by cases h
 | p::ps,[],_,_,_,_,h=>by cases h
 | p::ps,q::qs,n,hp,hq,hs,h=>by
  rw [List.map_cons,takes_cons,Bool.and_eq_true] at h
  rw [within_cons,Bool.and_eq_true]
  exact ⟨pick_within (hp p (List.mem_cons_self ..)) (hq q (List.mem_cons_self ..)) (hs q (List.mem_cons_self ..)) h.1,
   all_pick_within n (fun x hx=>hp x (List.mem_cons_of_mem _ hx)) (fun x hx=>hq x (List.mem_cons_of_mem _ hx)) (fun x hx=>hs x (List.mem_cons_of_mem _ hx)) h.2⟩
theorem cover {ps:List Pt}{oss:List (List Pt)} (hp:PW ps) (ho:∀ os∈oss,PW os) (h:needless ps oss=false):∃ ws,takesAll ps ws=true∧knows oss ws=false:=by
 refine ⟨ps.map (pickW 500),all_pick _ hp,?_⟩
 rw [Bool.eq_false_iff]
 intro q
 unfold knows at q
 rw [List.any_eq_true] at q
 obtain ⟨os,h1,h2⟩:=q
 have h3:=all_pick_within 500 hp (ho os h1) (short_of os (ho os h1)) h2
 have h4:needless ps oss=true:=by
  unfold needless
  rw [List.any_eq_true]
  exact ⟨os,h1,h3⟩
 rw [h] at h4
 cases h4
theorem not_needless {ps:List Pt}{oss:List (List Pt)}{ws:List Str} (hp:PW ps) (hw:takesAll ps ws=true) (hk:knows oss ws=false):needless ps oss=false:=by
 rw [Bool.eq_false_iff]
 intro q
 rw [needless_knows hp q hw] at hk
 cases hk
def startsW (w:Str):List Pt→Bool
 | []=>false
 | p::_=>p.takes w
def behindP (oss:List (List Pt)) (w:Str):List (List Pt):=(oss.filter (startsW w)).map List.tail
theorem behind_cons (p:Pt) (os:List Pt) (oss:List (List Pt)) (w:Str):behindP ((p::os)::oss) w=if p.takes w=true then os::behindP oss w else behindP oss w:=by
 unfold behindP
 by_cases h:p.takes w=true
 ·rw [if_pos h,List.filter_cons_of_pos (p:=startsW w) (a:=p::os) h];rfl
 ·rw [if_neg h,List.filter_cons_of_neg (p:=startsW w) (a:=p::os) h]
theorem knows_behind:∀ (oss:List (List Pt)) (w:Str) (ws:List Str),(∀ os∈oss,os≠[])→knows oss (w::ws)=knows (behindP oss w) ws
 | [],_,_,_=>rfl
 | []::oss,_,_,h=>(h [] (List.mem_cons_self ..) rfl).elim
 | (p::os)::oss,w,ws,h=>by
  have ih:=knows_behind oss w ws fun x hx=>h x (List.mem_cons_of_mem _ hx)
  have e:knows ((p::os)::oss) (w::ws)=((p.takes w && takesAll os ws) || knows oss (w::ws)):=by
   show (takesAll (p::os) (w::ws) || _)=_
   rw [takes_cons]
   rfl
  rw [e,ih,behind_cons]
  cases p.takes w with
  | true=>rw [if_pos rfl];rfl
  | false=>rw [if_neg Bool.false_ne_true];rfl
theorem behind_pw {oss:List (List Pt)}{w:Str} (h:∀ os∈oss,PW os):∀ os∈behindP oss w,PW os:=fun os ho=>by
 unfold behindP at ho
 obtain ⟨o1,h1,rfl⟩:=List.mem_map.mp ho
 have h2:=(List.mem_filter.mp h1).1
 exact fun p hp=>h o1 h2 p (List.mem_of_mem_tail hp)
theorem behind_len {oss:List (List Pt)}{w:Str}{n:Nat} (h:∀ os∈oss,os.length=n+1):∀ os∈behindP oss w,os.length=n:=fun os ho=>by
 unfold behindP at ho
 obtain ⟨o1,h1,rfl⟩:=List.mem_map.mp ho
 have h2:=h o1 (List.mem_filter.mp h1).1
 rw [List.length_tail,h2]
 rfl
theorem behind_many (oss:List (List Pt)) (w:Str):(behindP oss w).length≤oss.length:=by
 unfold behindP
 rw [List.length_map]
 exact List.length_filter_le _ _
end LG
namespace LG
open PySem L2 PySem.Builtin PySem.Builtin.Str
def wkD (w:Str):PyData:=.tuple [.int w.length,.str w]
def wkSh:Sh:=.tcons .int (.tcons .str .tnil)
theorem sh_wk (w:Str):wkSh.has (wkD w):=⟨_,_,rfl,⟨_,rfl⟩,_,_,rfl,⟨_,rfl⟩,rfl⟩
theorem wk_inj {a b:Str} (h:wkD a=wkD b):a=b:=by
 simp only [wkD,PyData.tuple.injEq,List.cons.injEq,PyData.str.injEq] at h
 exact h.2.1
def lkD (ws:List Str):PyData:=.tuple [.int ws.length,.list (ws.map wkD)]
def lkSh:Sh:=.tcons .int (.tcons (.list wkSh) .tnil)
theorem sh_wks (ws:List Str):(Sh.list wkSh).has (.list (ws.map wkD)):=⟨_,rfl,fun x hx=>by
 obtain ⟨w,_,rfl⟩:=List.mem_map.mp hx
 exact sh_wk w⟩
theorem sh_lk (ws:List Str):lkSh.has (lkD ws):=⟨_,_,rfl,⟨_,rfl⟩,_,_,rfl,sh_wks ws,rfl⟩
theorem wks_inj {a b:List Str} (h:a.map wkD=b.map wkD):a=b:=map_inj (fun x y=>wk_inj) h
theorem lk_inj {a b:List Str} (h:lkD a=lkD b):a=b:=by
 simp only [lkD,PyData.tuple.injEq,List.cons.injEq,PyData.list.injEq,and_true] at h
 exact wks_inj h.2
theorem dep_wk (w:Str):(wkD w).depth≤5:=by simp [wkD,PyData.depth,PyData.depthAll]
theorem dep_lk (ws:List Str):(lkD ws).depth≤100:=by
 have h:PyData.depthAll (ws.map wkD)≤5:=depthAll_le _ fun d hd=>by
  obtain ⟨w,_,rfl⟩:=List.mem_map.mp hd
  exact dep_wk w
 simp only [lkD,PyData.depth,PyData.depthAll]
 lia
def wlt (a b:Str):Bool:=ltv (wkD a) (wkD b)
theorem wlt_irr (a:Str):wlt a a=false:=(Sh.ok wkSh).irr _ (sh_wk a)
theorem wle_trans {a b c:Str} (h1:wlt a b=false) (h2:wlt b c=false):wlt a c=false:=by
 cases q:wlt a c with
 | false=>rfl
 | true=>
  rcases (Sh.ok wkSh).neg (sh_wk a) (sh_wk b) (sh_wk c) q with z | z
  ·unfold wlt at h1;rw [h1] at z;cases z
  ·unfold wlt at h2;rw [h2] at z;cases z
theorem lle_trans {a b c:List Str} (h1:ltv (lkD a) (lkD b)=false) (h2:ltv (lkD b) (lkD c)=false):ltv (lkD a) (lkD c)=false:=by
 cases q:ltv (lkD a) (lkD c) with
 | false=>rfl
 | true=>
  rcases (Sh.ok lkSh).neg (sh_lk a) (sh_lk b) (sh_lk c) q with z | z
  ·rw [h1] at z;cases z
  ·rw [h2] at z;cases z
theorem wk_eqv (a b:Str):PyData.eqv (wkD a) (wkD b)=decide (a=b):=by
 rw [Bool.eq_iff_iff,decide_eq_true_eq,(Sh.ok wkSh).eqv _ _ (sh_wk a) (sh_wk b)]
 exact ⟨wk_inj,fun h=>by rw [h]⟩
theorem eqv_int (n:Int):PyData.eqv (.int n) (.int n)=true:=((Sh.ok .int).eqv _ _ ⟨_,rfl⟩ ⟨_,rfl⟩).mpr rfl
theorem eqv_int' {m n:Int} (h:m≠n):PyData.eqv (.int m) (.int n)=false:=by
 rw [Bool.eq_false_iff]
 intro q
 have:=((Sh.ok .int).eqv _ _ ⟨_,rfl⟩ ⟨_,rfl⟩).mp q
 simp only [PyData.int.injEq] at this
 exact h this
theorem lk_le {vs ws:List Str} (hl:vs.length=ws.length) (h:ltvAll (vs.map wkD) (ws.map wkD)=false):ltv (lkD vs) (lkD ws)=false:=by
 show ltvAll [.int vs.length,.list (vs.map wkD)] [.int ws.length,.list (ws.map wkD)]=false
 rw [hl,ltvAll_cons,if_pos (eqv_int _),ltvAll_cons]
 split
 ·rfl
 ·exact h
theorem wlt_len {a b:Str} (h:b.length<a.length):wlt a b=false:=by
 show ltvAll [.int a.length,.str a] [.int b.length,.str b]=false
 rw [ltvAll_cons,if_neg (by rw [eqv_int' (by lia)];exact Bool.false_ne_true)]
 show decide ((a.length:Int)<b.length)=false
 exact decide_eq_false (by lia)
theorem wlt_eq {a b:Str} (h:a.length=b.length):wlt a b=(if a=b then false else decide (a.cps.toList<b.cps.toList)):=by
 show ltvAll [.int a.length,.str a] [.int b.length,.str b]=_
 rw [h,ltvAll_cons,if_pos (eqv_int _),ltvAll_cons]
 have e:PyData.eqv (.str a) (.str b)=decide (a=b):=by
  rw [Bool.eq_iff_iff,decide_eq_true_eq,(Sh.ok .str).eqv _ _ ⟨_,rfl⟩ ⟨_,rfl⟩]
  simp
 rw [e]
 by_cases q:a=b
 ·rw [decide_eq_true q,if_pos rfl,if_pos q];rfl
 ·rw [decide_eq_false q,if_neg Bool.false_ne_true,if_neg q];rfl
def Bd (w:Str):Prop:=w.length≤500∧PyData.strOk w=true
structure LW (k:Nat) (named:List Str) (x:Str):Prop where
 wd:wordB x=true
 kd:kindT x=k
 no:x∉named
 le:∀ y,wordB y=true→kindT y=k→y∉named→wlt y x=false
 bd:Bd x
def named:List Pt→List Str
 | []=>[]
 | .word w::r=>w::named r
 | .hole _::r=>named r
theorem mem_named:∀ {qs:List Pt}{w:Str},w∈named qs↔Pt.word w∈qs
 | [],w=>by simp [named]
 | .word x::r,w=>by simp [named,mem_named (qs:=r)]
 | .hole _::r,w=>by simp [named,mem_named (qs:=r)]
theorem named_len:∀ (qs:List Pt),(named qs).length≤qs.length
 | []=>Nat.le_refl _
 | .word x::r=>by simp [named];exact named_len r
 | .hole _::r=>by simp [named];exact Nat.le_succ_of_le (named_len r)
def heads (oss:List (List Pt)):List Pt:=oss.map fun os=>os.headD (.hole 2)
def cand (p:Pt) (qs:List Pt) (ls:List Str):List Str:=match p with
 | .word x=>[x]
 | .hole m=>(named qs++ls).filter (Pt.hole m).takes
structure FW (p:Pt) (ps:List Pt) (oss:List (List Pt)) (w:Str):Prop where
 tk:p.takes w=true
 nd:needless ps (behindP oss w)=false
 le:∀ y,p.takes y=true→needless ps (behindP oss y)=false→wlt y w=false
 bd:Bd w
theorem behind_congr {oss:List (List Pt)}{x y:Str} (h:∀ os∈oss,startsW x os=startsW y os):behindP oss x=behindP oss y:=by
 unfold behindP
 rw [List.filter_congr h]
theorem cand_ok {p:Pt}{ps:List Pt}{oss:List (List Pt)}{x0 x1 x2:Str} (hp:PtW p) (ho:∀ os∈oss,PW os∧os≠[]) (h0:LW 0 (named (heads oss)) x0) (h1:LW 1 (named (heads oss)) x1) (h2:LW 2 (named (heads oss)) x2) {y:Str}
  (ty:p.takes y=true) (ny:needless ps (behindP oss y)=false):∃ x∈cand p (heads oss) [x0,x1,x2],needless ps (behindP oss x)=false∧wlt y x=false:=by
 cases p with
 | word x=>
  have e:y=x:=of_decide_eq_true ty
  subst e
  exact ⟨y,List.mem_singleton.mpr rfl,ny,wlt_irr y⟩
 | hole m=>
  by_cases hy:y∈named (heads oss)
  ·exact ⟨y,List.mem_filter.mpr ⟨List.mem_append_left _ hy,ty⟩,ny,wlt_irr y⟩
  ·have wy:=takes_word hp ty
   have hk:=kindT_lt y
   have key:∀ (k:Nat) (x:Str),LW k (named (heads oss)) x→kindT y=k→x∈[x0,x1,x2]→∃ x∈cand (Pt.hole m) (heads oss) [x0,x1,x2],needless ps (behindP oss x)=false∧wlt y x=false:=fun k x hx hk hm=>by
    have tx:(Pt.hole m).takes x=true:=by
     rcases hole_cases hp with h | rfl
     ·rw [takes_hole h,decide_eq_true_eq] at ty ⊢
      rw [hx.kd,← hk,ty]
     ·exact hx.wd
    refine ⟨x,List.mem_filter.mpr ⟨List.mem_append_right _ hm,tx⟩,?_,hx.le y wy hk hy⟩
    rw [behind_congr (y:=y) fun os hos=>?_]
    ·exact ny
    ·obtain ⟨hw,hne⟩:=ho os hos
     cases os with
     | nil=>exact (hne rfl).elim
     | cons q r=>
      have hq:q∈heads oss:=List.mem_map.mpr ⟨_,hos,rfl⟩
      show q.takes x=q.takes y
      cases q with
      | word z=>
       have hz:z∈named (heads oss):=mem_named.mpr hq
       have n1:x≠z:=fun e=>hx.no (e ▸ hz)
       have n2:y≠z:=fun e=>hy (e ▸ hz)
       show decide (x=z)=decide (y=z)
       rw [decide_eq_false n1,decide_eq_false n2]
      | hole j=>
       have hj:PtW (.hole j):=hw _ (List.mem_cons_self ..)
       rcases hole_cases hj with h | rfl
       ·rw [takes_hole h,takes_hole h,hx.kd,hk]
       ·rw [takes_any,takes_any,hx.wd,wy]
   have:kindT y=0∨kindT y=1∨kindT y=2:=by lia
   rcases this with e | e | e
   ·exact key 0 x0 h0 e (by simp)
   ·exact key 1 x1 h1 e (by simp)
   ·exact key 2 x2 h2 e (by simp)
theorem cand_takes {p:Pt}{qs:List Pt}{ls:List Str}{x:Str} (h:x∈cand p qs ls):p.takes x=true:=by
 cases p with
 | word w=>
  have:=List.mem_singleton.mp h
  subst this
  exact decide_eq_true rfl
 | hole m=>exact (List.mem_filter.mp h).2
theorem cand_bd {p:Pt}{qs:List Pt}{ls:List Str}{x:Str} (hp:PtW p) (hq:PW qs) (hl:∀ y∈ls,Bd y) (h:x∈cand p qs ls):Bd x:=by
 cases p with
 | word w=>
  have:=List.mem_singleton.mp h
  subst this
  exact hp.2
 | hole m=>
  rcases List.mem_append.mp (List.mem_filter.mp h).1 with z | z
  ·exact (hq _ (mem_named.mp z)).2
  ·exact hl x z
structure LP (ps:List Pt) (oss:List (List Pt)) (ws:List Str):Prop where
 tk:takesAll ps ws=true
 kn:knows oss ws=false
 le:∀ vs,takesAll ps vs=true→knows oss vs=false→ltvAll (vs.map wkD) (ws.map wkD)=false
 bd:∀ w∈ws,Bd w
theorem LP.step {p:Pt}{ps:List Pt}{oss:List (List Pt)}{w:Str}{ws:List Str} (hp:PW (p::ps)) (ho:∀ os∈oss,os≠[]) (f:FW p ps oss w) (h:LP ps (behindP oss w) ws):LP (p::ps) oss (w::ws):=by
 refine ⟨by rw [takes_cons,f.tk,h.tk];rfl,by rw [knows_behind _ _ _ ho];exact h.kn,fun vs hv hk=>?_,fun x hx=>?_⟩
 ·cases vs with
  | nil=>rw [takes_cn] at hv;cases hv
  | cons v vs=>
   rw [takes_cons,Bool.and_eq_true] at hv
   rw [knows_behind _ _ _ ho] at hk
   have hps:PW ps:=fun x hx=>hp x (List.mem_cons_of_mem _ hx)
   have h1:=f.le v hv.1 (not_needless hps hv.2 hk)
   rw [List.map_cons,List.map_cons,ltvAll_cons,wk_eqv]
   by_cases e:v=w
   ·subst e
    rw [decide_eq_true rfl,if_pos rfl]
    exact h.le vs hv.2 hk
   ·rw [decide_eq_false e,if_neg Bool.false_ne_true]
    exact h1
 ·rcases List.mem_cons.mp hx with rfl | hx
  ·exact f.bd
  ·exact h.bd x hx
theorem LP.nil {oss:List (List Pt)} (h:needless [] oss=false) (hl:∀ os∈oss,os.length=0):LP [] oss []:=by
 refine ⟨rfl,?_,fun vs hv _=>?_,fun x hx=>by cases hx⟩
 ·rw [Bool.eq_false_iff]
  intro q
  unfold knows at q
  rw [List.any_eq_true] at q
  obtain ⟨os,h1,_⟩:=q
  have h2:=List.eq_nil_of_length_eq_zero (hl os h1)
  subst h2
  have:needless [] oss=true:=by
   unfold needless
   rw [List.any_eq_true]
   exact ⟨[],h1,rfl⟩
  rw [h] at this
  cases this
 ·cases vs with
  | nil=>rfl
  | cons v vs=>rw [takes_nc] at hv;cases hv
theorem knows_same {oss:List (List Pt)}{ps:List Pt}{ws:List Str} (h:takesAll ps ws=true):knows (oss.filter fun os=>decide (os.length=ps.length)) ws=knows oss ws:=by
 unfold knows
 rw [List.any_filter,Bool.eq_iff_iff,List.any_eq_true,List.any_eq_true]
 constructor
 ·rintro ⟨os,h1,h2⟩
  rw [Bool.and_eq_true] at h2
  exact ⟨os,h1,h2.2⟩
 ·rintro ⟨os,h1,h2⟩
  refine ⟨os,h1,?_⟩
  rw [Bool.and_eq_true,decide_eq_true_eq]
  exact ⟨by rw [takes_lens h,takes_lens h2],h2⟩
theorem LP.wide {ps:List Pt}{oss:List (List Pt)}{ws:List Str} (h:LP ps (oss.filter fun os=>decide (os.length=ps.length)) ws):LP ps oss ws:=
 ⟨h.tk,by rw [← knows_same h.tk];exact h.kn,fun vs hv hk=>h.le vs hv (by rw [knows_same hv];exact hk),h.bd⟩
theorem needless_same {ps:List Pt}{oss:List (List Pt)} (h:needless ps oss=false):needless ps (oss.filter fun os=>decide (os.length=ps.length))=false:=by
 rw [Bool.eq_false_iff] at h ⊢
 intro q
 apply h
 unfold needless at q ⊢
 rw [List.any_eq_true] at q ⊢
 obtain ⟨os,h1,h2⟩:=q
 exact ⟨os,(List.mem_filter.mp h1).1,h2⟩
structure PLn (pss qss:List (List Pt)) (ws:List Str):Prop where
 pa:knows pss ws≠knows qss ws
 wd:Words ws
 bd:∀ w∈ws,Bd w
 ne:ws≠[]
 ln:ws.length≤12
 le:∀ vs,knows pss vs≠knows qss vs→ltv (lkD vs) (lkD ws)=false
def Parts (pss qss:List (List Pt)):Option (List Str)→Prop
 | none=>∀ vs,knows pss vs=knows qss vs
 | some ws=>PLn pss qss ws
theorem parts_unique {a b c d:List (List Pt)}{o o':Option (List Str)} (h:Parts a b o) (h':Parts c d o') (he:∀ vs,knows a vs≠knows b vs↔knows c vs≠knows d vs):o=o':=by
 cases o with
 | none=>
  cases o' with
  | none=>rfl
  | some ws=>
   have h':PLn c d ws:=h'
   exact ((he ws).mpr h'.pa (h ws)).elim
 | some ws=>
  have h:PLn a b ws:=h
  cases o' with
  | none=>exact ((he ws).mp h.pa (h' ws)).elim
  | some ws'=>
   have h':PLn c d ws':=h'
   have h1:=h.le ws' ((he ws').mpr h'.pa)
   have h2:=h'.le ws ((he ws).mp h.pa)
   rw [lk_inj ((Sh.ok lkSh).tot _ _ (sh_lk ws) (sh_lk ws') h2 h1)]
structure LinesOf (pss qss:List (List Pt)) (L:List (List Str)):Prop where
 of:∀ ws∈L,∃ ps∈pss,LP ps qss ws
 all:∀ ps∈pss,needless ps qss=true∨∃ ws∈L,LP ps qss ws
def PsOk (pss:List (List Pt)):Prop:=∀ ps∈pss,PW ps∧ps≠[]∧ps.length≤12
theorem knows_of {pss:List (List Pt)}{ps:List Pt}{ws:List Str} (h:ps∈pss) (ht:takesAll ps ws=true):knows pss ws=true:=by
 unfold knows
 rw [List.any_eq_true]
 exact ⟨ps,h,ht⟩
theorem LinesOf.part {pss qss:List (List Pt)}{L:List (List Str)} (h:LinesOf pss qss L) {ws:List Str} (hw:ws∈L):knows pss ws=true∧knows qss ws=false:=by
 obtain ⟨ps,h1,h2⟩:=h.of ws hw
 exact ⟨knows_of h1 h2.tk,h2.kn⟩
theorem LinesOf.less {pss qss:List (List Pt)}{L:List (List Str)} (hp:PsOk pss) (h:LinesOf pss qss L) {vs:List Str} (h1:knows pss vs=true) (h2:knows qss vs=false):∃ ws∈L,ltv (lkD vs) (lkD ws)=false:=by
 unfold knows at h1
 rw [List.any_eq_true] at h1
 obtain ⟨ps,hm,ht⟩:=h1
 rcases h.all ps hm with z | ⟨ws,hw,lp⟩
 ·rw [not_needless (hp ps hm).1 ht h2] at z;cases z
 ·exact ⟨ws,hw,lk_le (by rw [← takes_lens ht,takes_lens lp.tk]) (lp.le vs ht h2)⟩
theorem parts_nil {pss qss:List (List Pt)} (hp:PsOk pss) (hq:PsOk qss) (h1:LinesOf pss qss []) (h2:LinesOf qss pss []):Parts pss qss none:=by
 intro vs
 cases a:knows pss vs with
 | true=>
  cases b:knows qss vs with
  | true=>rfl
  | false=>obtain ⟨ws,hw,_⟩:=h1.less hp a b;cases hw
 | false=>
  cases b:knows qss vs with
  | false=>rfl
  | true=>obtain ⟨ws,hw,_⟩:=h2.less hq b a;cases hw
theorem parts_some {pss qss:List (List Pt)}{L M:List (List Str)}{ws:List Str} (hp:PsOk pss) (hq:PsOk qss) (h1:LinesOf pss qss L) (h2:LinesOf qss pss M) (hm:ws∈L++M) (hl:∀ vs∈L++M,ltv (lkD vs) (lkD ws)=false):Parts pss qss (some ws):=by
 have key:∀ {rss sss:List (List Pt)}{N:List (List Str)},PsOk rss→LinesOf rss sss N→ws∈N→Words ws∧(∀ w∈ws,Bd w)∧ws≠[]∧ws.length≤12:=fun {rss sss N} hr hN hw=>by
  obtain ⟨ps,m1,m2⟩:=hN.of ws hw
  obtain ⟨r1,r2,r3⟩:=hr ps m1
  have hl:=takes_lens m2.tk
  refine ⟨takes_words r1 m2.tk,m2.bd,fun e=>r2 (List.eq_nil_of_length_eq_zero (by rw [hl,e];rfl)),by lia⟩
 have kk:Words ws∧(∀ w∈ws,Bd w)∧ws≠[]∧ws.length≤12:=by
  rcases List.mem_append.mp hm with z | z
  ·exact key hp h1 z
  ·exact key hq h2 z
 refine ⟨?_,kk.1,kk.2.1,kk.2.2.1,kk.2.2.2,fun vs hv=>?_⟩
 ·rcases List.mem_append.mp hm with z | z
  ·obtain ⟨a,b⟩:=h1.part z;rw [a,b];decide
  ·obtain ⟨a,b⟩:=h2.part z;rw [a,b];decide
 ·cases a:knows pss vs with
  | true=>
   cases b:knows qss vs with
   | true=>rw [a,b] at hv;exact (hv rfl).elim
   | false=>
    obtain ⟨us,hu,hle⟩:=h1.less hp a b
    exact lle_trans hle (hl us (List.mem_append_left _ hu))
  | false=>
   cases b:knows qss vs with
   | false=>rw [a,b] at hv;exact (hv rfl).elim
   | true=>
    obtain ⟨us,hu,hle⟩:=h2.less hq b a
    exact lle_trans hle (hl us (List.mem_append_right _ hu))
end LG
namespace LG
open PySem L2 PySem.Builtin PySem.Builtin.Str
theorem rminO_data {K:PySem.W.Frag}{sp:Sp}{Q:VK}{H:Hp}{l:Addr}{xs:List V}{kds:List PyData}{S:PyData→Prop} (o:ShOk S) (hq:SqL K H l xs) (hne:xs≠[]) (hl:xs.length=kds.length) (hS:∀ d∈kds,S d∧d.depth≤100)
  (hsp:∀ (m:Nat) (x:V) (d:PyData) (H2:Hp) (Q:VK),xs[m]? = some x→kds[m]? = some d→Same H H2→(∀ k H',Same H2 H'→Den K H' k d→Q k H')→sp [x] H2 Q E0) (hQ:∀ H',Same H H'→Q (xs.getD (leastIx kds) .non) H'):rMinO K sp (.ref l) H Q:=by
 refine ⟨l,xs,rfl,hq,?_⟩
 cases xs with
 | nil=>exact (hne rfl).elim
 | cons x r=>
  cases kds with
  | nil=>cases hl
  | cons d kr=>
   refine hsp 0 x d H _ rfl rfl (Same.refl _) fun k H' s' dk=>?_
   refine tmin_all o hq r kr 0 1 x k d H' (by simpa using hl) s' dk (hS d (List.mem_cons_self ..)).1 (fun e he=>hS e (List.mem_cons_of_mem _ he)) rfl rfl (fun m y e H2 Q2 h1 h2=>hsp (m+1) y e H2 Q2 (by simpa using h1) (by simpa using h2)) fun H2 h2=>?_
   exact hQ H2 h2
theorem nodup_le:∀ {l m:List Str},l.Nodup→(∀ x∈l,x∈m)→l.length≤m.length
 | [],_,_,_=>Nat.zero_le _
 | x::r,m,hn,h=>by
  have hx:=h x (List.mem_cons_self ..)
  rw [List.nodup_cons] at hn
  have:=nodup_le (l:=r) (m:=m.erase x) hn.2 fun y hy=>(List.mem_erase_of_ne (show y≠x from fun e=>hn.1 (by rw [← e];exact hy))).mpr (h y (List.mem_cons_of_mem _ hy))
  rw [List.length_erase_of_mem hx] at this
  have hp:0<m.length:=List.length_pos_of_mem hx
  simp only [List.length_cons]
  lia
def sgL:List Nat:=SIGNS.cps.toList
theorem sgL_sorted:sgL.Pairwise (· < ·):=by unfold sgL;rw [SIGNS_is];decide +kernel
theorem sgL_len:sgL.length=93:=by unfold sgL;rw [SIGNS_is];decide +kernel
theorem sgL_mem {c:Nat}:c∈sgL↔sgn c=true:=by
 have h:=congrFun has_signs c
 rw [← h]
 unfold sgL
 simp
theorem sg_len (c:Nat):(sg c).length=1:=rfl
theorem sg_inj {a b:Nat} (h:sg a=sg b):a=b:=by
 simp only [sg,Str.mk.injEq] at h
 simpa using h
def tens:Nat→List Nat
 | 0=>[48,49,50,51,52,53,54,55,56,57]
 | 1=>[97,98,99,100,101,102,103,104,105,106]
 | _=>[65,66,67,68,69,70,71,72,73,74]
theorem tens_ok:∀ k<3,(tens k).length=10∧((tens k).map sg).Nodup∧∀ c∈tens k,kindT (sg c)=k∧sgn c=true:=by decide +kernel
theorem sign_there {k:Nat} (hk:k<3) {nm:List Str} (hn:nm.length≤9):∃ c∈sgL,kindT (sg c)=k∧sg c∉nm:=by
 obtain ⟨h1,h2,h3⟩:=tens_ok k hk
 by_cases h:∀ x∈(tens k).map sg,x∈nm
 ·have:=nodup_le h2 h
  rw [List.length_map,h1] at this
  lia
 ·have:∃ x∈(tens k).map sg,x∉nm:=by
   apply Classical.byContradiction
   intro q
   apply h
   intro x hx
   apply Classical.byContradiction
   intro q2
   exact q ⟨x,hx,q2⟩
  obtain ⟨x,hx,hq⟩:=this
  obtain ⟨c,hc,rfl⟩:=List.mem_map.mp hx
  exact ⟨c,sgL_mem.mpr (h3 c hc).2,(h3 c hc).1,hq⟩
theorem sg_word {c:Nat} (h:sgn c=true):wordB (sg c)=true:=by
 show onlyB sgn [c]=true
 unfold onlyB
 simp [h]
theorem one_sign {y:Str} (h:y.length=1) (hw:wordB y=true):∃ c,y=sg c∧sgn c=true:=by
 have hl:y.cps.toList.length=1:=by simpa [Str.length] using h
 obtain ⟨c,hc⟩:=List.length_eq_one_iff.mp hl
 refine ⟨c,str_ext (by rw [hc];rfl),?_⟩
 unfold wordB onlyB at hw
 rw [hc] at hw
 simpa using hw
theorem word_pos {y:Str} (hw:wordB y=true):1≤y.length:=by
 have hl:y.length=y.cps.toList.length:=by simp [Str.length]
 rw [hl]
 unfold wordB onlyB at hw
 cases q:y.cps.toList with
 | nil=>rw [q] at hw;cases hw
 | cons a r=>simp
theorem sg_lt (a b:Nat):wlt (sg a) (sg b)=decide (a<b):=by
 rw [wlt_eq (show (sg a).length=(sg b).length from rfl)]
 have e:decide ((sg a).cps.toList<(sg b).cps.toList)=decide (a<b):=lt1 a b
 by_cases h:sg a=sg b
 ·rw [if_pos h,sg_inj h]
  exact (decide_eq_false (Nat.lt_irrefl _)).symm
 ·rw [if_neg h,e]
theorem sg_bd {c:Nat} (h:sgn c=true):Bd (sg c):=by
 refine ⟨by rw [sg_len];decide,ok_of_mem fun d hd=>?_⟩
 have e:d=c:=by simpa [sg] using hd
 subst e
 unfold sgn at h
 rw [Bool.and_eq_true,Bool.and_eq_true,decide_eq_true_eq,decide_eq_true_eq] at h
 lia
theorem lw_of {k:Nat}{nm:List Str}{i c:Nat} (hc:sgL[i]? = some c) (hk:kindT (sg c)=k) (hn:sg c∉nm) (hb:∀ (j d:Nat),j<i→sgL[j]? = some d → ¬ (kindT (sg d)=k∧sg d∉nm)):LW k nm (sg c):=by
 have hs:sgn c=true:=sgL_mem.mp (List.mem_of_getElem? hc)
 refine ⟨sg_word hs,hk,hn,fun y hw hy hny=>?_,sg_bd hs⟩
 have hp:=word_pos hw
 by_cases h1:y.length=1
 ·obtain ⟨d,rfl,hd⟩:=one_sign h1 hw
  rw [sg_lt]
  refine decide_eq_false fun hlt=>?_
  obtain ⟨j,hj⟩:=List.getElem?_of_mem (sgL_mem.mpr hd)
  rcases Nat.lt_or_ge j i with q | q
  ·exact hb j d q hj ⟨hy,hny⟩
  ·rcases Nat.eq_or_lt_of_le q with e | q
   ·subst e
    rw [hc] at hj
    cases hj
    exact Nat.lt_irrefl _ hlt
   ·have hli:=ge_len hc
    have hlj:=ge_len hj
    have:=List.pairwise_iff_getElem.mp sgL_sorted i j hli hlj q
    rw [List.getElem?_eq_getElem hli] at hc
    rw [List.getElem?_eq_getElem hlj] at hj
    cases hc
    cases hj
    lia
 ·exact wlt_len (by rw [sg_len];lia)
def sp_line_key (K:PySem.W.Frag):Sp:=fun vs H Q _=>∃ z:Str,vs=[.str z]∧LOk z∧PyData.strOk z=true∧∀ r H',Same H H'→Den K H' r (lkD (Txt.split z " "))→Q r H'
def sp_least_word_but (K:PySem.W.Frag):Sp:=fun vs H Q _=>∃ (k:Nat) (b:Addr) (nm:List Str),vs=[.str (kindW k),.ref b]∧k<3∧SqL K H b (nm.map V.str)∧nm.length≤9∧∀ x H',Same H H'→LW k nm x→Q (.str x) H'
def sp_is_needless (K:PySem.W.Frag):Sp:=fun vs H Q _=>∃ (u:V) (b:Addr) (xs:List V) (ps:List Pt) (oss:List (List Pt)),vs=[u,.ref b]∧Den K H u (patD ps)∧SqL K H b xs∧Dens K H xs (oss.map patD)∧POk ps∧(∀ os∈oss,POk os)∧xs.length≤1000∧∀ H',Same H H'→Q (.bl (needless ps oss)) H'
def Cands (p:Pt) (qs:List Pt) (l:List Str):Prop:=∃ ls,l=cand p qs ls∧((∃ x,p = .word x)∨∃ x0 x1 x2,ls=[x0,x1,x2]∧LW 0 (named qs) x0∧LW 1 (named qs) x1∧LW 2 (named qs) x2)
def sp_words_to_try (K:PySem.W.Frag):Sp:=fun vs H Q _=>∃ (v:V) (b:Addr) (xs:List V) (p:Pt) (qs:List Pt),vs=[v,.ref b]∧Den K H v p.dat∧SqL K H b xs∧Dens K H xs (qs.map Pt.dat)∧PtW p∧PW qs∧qs.length≤9 ∧
 ∀ D H' l,H D=none→Same H H'→H' D=some (.lst (l.map V.str))→Cands p qs l→Q (.ref D) H'
def sp_behind (K:PySem.W.Frag):Sp:=fun vs H Q _=>∃ (a:Addr) (xs:List V) (oss:List (List Pt)) (w:Str),vs=[.ref a,.str w]∧SqL K H a xs∧Dens K H xs (oss.map patD)∧(∀ os∈oss,POk os∧os≠[])∧LOk w∧xs.length≤1000 ∧
 ∀ D acc H',H D=none→Same H H'→H' D=some (.lst acc)→Dens K (lim H H') acc ((behindP oss w).map patD)→Q (.ref D) H'
def sp_first_word_past (K:PySem.W.Frag):Sp:=fun vs H Q _=>∃ (u:V) (b:Addr) (xs:List V) (p:Pt) (ps:List Pt) (oss:List (List Pt)),vs=[u,.ref b]∧Den K H u (patD (p::ps))∧SqL K H b xs∧Dens K H xs (oss.map patD)∧PW (p::ps)∧ps.length<12 ∧
 (∀ os∈oss,PW os∧os≠[]∧os.length≤12)∧oss.length≤9∧needless (p::ps) oss=false∧∀ w H',Same H H'→FW p ps oss w→Q (.str w) H'
def sp_least_line_past (K:PySem.W.Frag):Sp:=fun vs H Q _=>∃ (u:V) (b:Addr) (xs:List V) (ps:List Pt) (oss:List (List Pt)),vs=[u,.ref b]∧Den K H u (patD ps)∧SqL K H b xs∧Dens K H xs (oss.map patD)∧PW ps∧ps≠[]∧ps.length≤12∧PsOk oss∧oss.length≤9 ∧
 (needless ps oss=true→∀ H',Same H H'→Q .non H')∧∀ ws H',Same H H'→LP ps oss ws→Q (.str (Txt.join " " ws)) H'
def lnV (ws:List Str):V:=.str (Txt.join " " ws)
def sp_lines_past (K:PySem.W.Frag):Sp:=fun vs H Q _=>∃ (a b:Addr) (xs ys:List V) (pss qss:List (List Pt)),vs=[.ref a,.ref b]∧SqL K H a xs∧Dens K H xs (pss.map patD)∧SqL K H b ys∧Dens K H ys (qss.map patD)∧PsOk pss∧PsOk qss∧pss.length≤9∧qss.length≤9 ∧
 ∀ D H' L,H D=none→Same H H'→H' D=some (.lst (L.map lnV))→LinesOf pss qss L→L.length≤9→Q (.ref D) H'
def oS:Option (List Str)→V
 | none=>.non
 | some ws=>lnV ws
def sp_parting_line (K:PySem.W.Frag):Sp:=fun vs H Q _=>∃ (a b:Addr) (xs ys:List V) (pss qss:List (List Pt)),vs=[.ref a,.ref b]∧SqL K H a xs∧Dens K H xs (pss.map patD)∧SqL K H b ys∧Dens K H ys (qss.map patD)∧PsOk pss∧PsOk qss∧pss.length≤9∧qss.length≤9 ∧
 ∀ o H',Same H H'→Parts pss qss o→Q (oS o) H'
end LG
namespace LG
open PySem L2 PySem.Builtin PySem.Builtin.Str
theorem cut_tail1 (y:V) (ys:List V):cutV (y::ys) (some 1) none=ys:=by
 unfold cutV
 have h1:HT.sIx (y::ys).length 0 (some ((1:Nat):Int))=1:=by rw [HT.sIx_nat];simp
 have h2:HT.sIx (y::ys).length 0 (some 1)=1:=h1
 rw [h2,HT.sIx_none]
 simp
end LG
namespace LG
open PySem L2 PySem.Builtin PySem.Builtin.Str
theorem at_of {α:Type}{l:List α}{i:Nat} (h:i<l.length):∃ x,l[i]? = some x:=⟨l[i],List.getElem?_eq_getElem h⟩
theorem knows_app (a b:List (List Pt)) (ws:List Str):knows (a++b) ws=(knows a ws || knows b ws):=by unfold knows;rw [List.any_append]
theorem knows_perm {a b:List (List Pt)} (h:∀ x,x∈a↔x∈b) (ws:List Str):knows a ws=knows b ws:=by
 unfold knows
 rw [Bool.eq_iff_iff,List.any_eq_true,List.any_eq_true]
 constructor
 ·rintro ⟨x,h1,h2⟩;exact ⟨x,(h x).mp h1,h2⟩
 ·rintro ⟨x,h1,h2⟩;exact ⟨x,(h x).mpr h1,h2⟩
end LG
namespace LG
open PySem L2
theorem ex_1 {C:St→Prop}{σ:St}{f:Option V→St} (h:∃ u0,σ=f u0) (k:∀ u0,C (f u0)):C σ:=by
 obtain ⟨u0,rfl⟩:=h
 exact k _
theorem ex_2 {C:St→Prop}{σ:St}{f:Option V→Option V→St} (h:∃ u0 u1,σ=f u0 u1) (k:∀ u0 u1,C (f u0 u1)):C σ:=by
 obtain ⟨u0,u1,rfl⟩:=h
 exact k _ _
theorem ex_3 {C:St→Prop}{σ:St}{f:Option V→Option V→Option V→St} (h:∃ u0 u1 u2,σ=f u0 u1 u2) (k:∀ u0 u1 u2,C (f u0 u1 u2)):C σ:=by
 obtain ⟨u0,u1,u2,rfl⟩:=h
 exact k _ _ _
theorem ex_4 {C:St→Prop}{σ:St}{f:Option V→Option V→Option V→Option V→St} (h:∃ u0 u1 u2 u3,σ=f u0 u1 u2 u3) (k:∀ u0 u1 u2 u3,C (f u0 u1 u2 u3)):C σ:=by
 obtain ⟨u0,u1,u2,u3,rfl⟩:=h
 exact k _ _ _ _
theorem ex_9 {C:St→Prop}{σ:St}{f:Option V→Option V→Option V→Option V→Option V→Option V→Option V→Option V→Option V→St} (h:∃ u0 u1 u2 u3 u4 u5 u6 u7 u8,σ=f u0 u1 u2 u3 u4 u5 u6 u7 u8) (k:∀ u0 u1 u2 u3 u4 u5 u6 u7 u8,C (f u0 u1 u2 u3 u4 u5 u6 u7 u8)):C σ:=by
 obtain ⟨u0,u1,u2,u3,u4,u5,u6,u7,u8,rfl⟩:=h
 exact k _ _ _ _ _ _ _ _ _
end LG
namespace LG
open PySem L2 PySem.Builtin PySem.Builtin.Str
end LG
namespace LG
open PySem L2 PySem.Builtin PySem.Builtin.Str
structure HW (hs:List Nat) (xs:List Str):Prop where
 h2:∀ k∈hs,k<2
 hn:hs.Nodup
 xn:xs.Nodup
 xw:∀ x∈xs,wordB x=true∧Bd x
 ln:hs.length+xs.length≤5
structure Lst (hs:List Nat) (xs:List Str) (x:Str):Prop where
 wd:wordB x=true
 kd:kindT x∉hs
 no:x∉xs
 le:∀ y,wordB y=true→kindT y∉hs→y∉xs→wlt y x=false
 bd:Bd x
end LG
namespace LG
open PySem L2 PySem.Builtin PySem.Builtin.Str
section
variable {hs:List Nat}{xs ws:List Str}{i:Nat}{ord:List Pt}
end
end LG
namespace LG
open PySem L2 PySem.Builtin PySem.Builtin.Str
def kV (k:Nat):V:=.str (kindW k)
theorem in_strs (x:Str) (l:List Str):inV (.str x) (l.map V.str)=decide (x∈l):=by
 unfold inV
 rw [List.any_map,Bool.eq_iff_iff,List.any_eq_true,decide_eq_true_eq]
 constructor
 ·rintro ⟨y,h1,h2⟩
  have:y=x:=by
   have h2':eqV (.str y) (.str x)=true:=h2
   simpa [eqV] using h2'
  rw [← this]
  exact h1
 ·intro h
  refine ⟨x,h,?_⟩
  show eqV (.str x) (.str x)=true
  simp [eqV]
theorem flat_strs (l:List Str):(l.map V.str).all flatV=true:=by
 rw [List.all_eq_true]
 intro x hx
 obtain ⟨y,_,rfl⟩:=List.mem_map.mp hx
 rfl
end LG
namespace LG
open PySem L2
def Pt.place:Pt→PyData
 | .word w=>.tuple [.int 0,.int w.length,.str w]
 | .hole k=>.tuple [.int (k+1),.int 0,.str ""]
end LG
namespace LG
open PySem L2 PySem.Builtin PySem.Builtin.Str
theorem tup_longer {m n:Nat}{a b:PyData} (h:n<m):ltv (.tuple [.int m,a]) (.tuple [.int n,b])=false:=by
 show ltvAll [.int m,a] [.int n,b]=false
 rw [ltvAll_cons,if_neg (by rw [eqv_int' (by lia)];exact Bool.false_ne_true)]
 show decide ((m:Int)<n)=false
 exact decide_eq_false (by lia)
theorem lk_longer {vs ws:List Str} (h:ws.length<vs.length):ltv (lkD vs) (lkD ws)=false:=tup_longer h
theorem knows_len {n:Nat}{pss:List (List Pt)}{ws:List Str} (h:∀ p∈pss,p.length=n) (hk:knows pss ws=true):ws.length=n:=by
 unfold knows at hk
 rw [List.any_eq_true] at hk
 obtain ⟨p,h1,h2⟩:=hk
 rw [← takes_lens h2,h p h1]
theorem knows_not {pss:List (List Pt)}{ws:List Str} (h:∀ p∈pss,p.length≠ws.length):knows pss ws=false:=by
 cases e:knows pss ws with
 | false=>rfl
 | true=>
  unfold knows at e
  rw [List.any_eq_true] at e
  obtain ⟨p,h1,h2⟩:=e
  exact (h p h1 (takes_lens h2)).elim
def LenIs (n:Nat) (pss:List (List Pt)):Prop:=∀ p∈pss,p.length=n
def LenLt (n:Nat) (pss:List (List Pt)):Prop:=∀ p∈pss,p.length<n
theorem parts_len {l o:List (List Pt)}{n:Nat}{ws:List Str} (hl:LenIs n l) (ho:LenIs n o) (h:knows l ws≠knows o ws):ws.length=n:=by
 cases e:knows l ws with
 | true=>exact knows_len hl e
 | false=>
  cases e':knows o ws with
  | true=>exact knows_len ho e'
  | false=>rw [e,e'] at h;exact (h rfl).elim
theorem parts_lt {l o:List (List Pt)}{n:Nat}{ws:List Str} (hl:LenLt n l) (ho:LenLt n o) (h:knows l ws≠knows o ws):ws.length<n:=by
 rcases Nat.lt_or_ge ws.length n with z | z
 ·exact z
 ·rw [knows_not fun p hp=>Nat.ne_of_lt (Nat.lt_of_lt_of_le (hl p hp) z),knows_not fun p hp=>Nat.ne_of_lt (Nat.lt_of_lt_of_le (ho p hp) z)] at h
  exact (h rfl).elim
theorem parts_step {P O l o:List (List Pt)}{n:Nat}{d t:Option (List Str)} (hP:LenLt n P) (hO:LenLt n O) (hl:LenIs n l) (ho:LenIs n o) (hd:Parts P O d) (ht:Parts l o t):Parts (P++l) (o++O) (d.or t):=by
 have two:∀ vs,knows (P++l) vs≠knows (o++O) vs→knows P vs≠knows O vs∨knows l vs≠knows o vs:=fun vs h=>by
  by_cases e:knows P vs=knows O vs
  ·refine .inr fun e'=>h ?_
   rw [knows_app,knows_app,e,e',Bool.or_comm]
  ·exact .inl e
 cases d with
 | none=>
  have hd:∀ vs,knows P vs=knows O vs:=hd
  cases t with
  | none=>
   have ht:∀ vs,knows l vs=knows o vs:=ht
   intro vs
   rw [knows_app,knows_app,hd,ht,Bool.or_comm]
  | some ws=>
   have ht:PLn l o ws:=ht
   have hn:=parts_len hl ho ht.pa
   have e1:knows P ws=false:=knows_not fun p hp=>by have:=hP p hp;lia
   have e2:knows O ws=false:=knows_not fun p hp=>by have:=hO p hp;lia
   refine ⟨?_,ht.wd,ht.bd,ht.ne,ht.ln,fun vs h=>ht.le vs ((two vs h).resolve_left fun z=>z (hd vs))⟩
   rw [knows_app,knows_app,e1,e2,Bool.false_or,Bool.or_false]
   exact ht.pa
 | some ws=>
  have hd:PLn P O ws:=hd
  have hn:=parts_lt hP hO hd.pa
  have e1:knows l ws=false:=knows_not fun p hp=>by have:=hl p hp;lia
  have e2:knows o ws=false:=knows_not fun p hp=>by have:=ho p hp;lia
  refine ⟨?_,hd.wd,hd.bd,hd.ne,hd.ln,fun vs h=>?_⟩
  ·rw [knows_app,knows_app,e1,e2,Bool.false_or,Bool.or_false]
   exact hd.pa
  ·rcases two vs h with z | z
   ·exact hd.le vs z
   ·have:=parts_len hl ho z
    exact lk_longer (by lia)
theorem parts_eq {P O:List (List Pt)}{d t:Option (List Str)} (h:Parts P O d) (h':Parts P O t):d=t:=parts_unique h h' fun _=>Iff.rfl
structure Mx (P N:List (List Pt)):Prop where
 nd:N.Nodup
 ko:KOrd N
 mem:∀ p,p∈N↔p∈P∧∀ q∈P,withinAll p q=true→q=p
end LG
namespace LG
open PySem L2 PySem.Builtin PySem.Builtin.Str
def pts (d:PyData):List Nat:=d.shown.cps.toList
def Cut (A:PyData→Prop):Prop:=∀ x y,A x→A y→∀ r r':List Nat,pts x++r=pts y++r'→x=y∧r=r'
theorem print_sgn:∀ c<127,sgn c=true→Unicode.isPrintable c=true∧c≠10∧c≠13∧c≠9:=by decide +kernel
theorem esc_one {q c:Nat} (h:sgn c=true):reprChar q c=if c=q∨c=92 then [92,c] else [c]:=by
 have hc:c<127:=by simp only [sgn,Bool.and_eq_true,decide_eq_true_eq] at h;lia
 obtain ⟨h1,h2,h3,h4⟩:=print_sgn c hc h
 unfold reprChar
 by_cases e:c=q∨c=92
 ·rw [if_pos e,if_pos (by simpa using e)]
 ·rw [if_neg e,if_neg (by simpa using e),if_neg (by simpa using h2),if_neg (by simpa using h3),if_neg (by simpa using h4),if_pos h1]
theorem esc_fold (q:Nat):∀ (l:List Nat) (acc:Array Nat),(l.foldl (fun out c=>out++(reprChar q c).toArray) acc).toList=acc.toList++l.flatMap (reprChar q)
 | [],acc=>by simp
 | c::l,acc=>by
  rw [List.foldl_cons,esc_fold q l,List.flatMap_cons]
  simp
theorem pts_str (x:Str):pts (.str x)=reprQuote x::(x.cps.toList.flatMap (reprChar (reprQuote x))++[reprQuote x]):=by
 unfold pts
 rw [PyData.shown_str]
 unfold reprText
 rw [Array.toList_push,← Array.foldl_toList,esc_fold]
 simp
theorem esc_cut {q:Nat} (hq:q≠92):∀ (xs ys:List Nat),(∀ c∈xs,sgn c=true)→(∀ c∈ys,sgn c=true)→∀ r r':List Nat,xs.flatMap (reprChar q)++q::r=ys.flatMap (reprChar q)++q::r'→xs=ys∧r=r'
 | [],[],_,_,r,r',h=>by simpa using h
 | [],y::ys,_,hy,r,r',h=>by
  rw [List.flatMap_cons,esc_one (hy y (List.mem_cons_self ..))] at h
  by_cases e:y=q∨y=92
  ·rw [if_pos e] at h;simp at h;exact absurd h.1 hq
  ·rw [if_neg e] at h;simp at h;exact absurd h.1.symm (fun z=>e (.inl z))
 | x::xs,[],hx,_,r,r',h=>by
  rw [List.flatMap_cons,esc_one (hx x (List.mem_cons_self ..))] at h
  by_cases e:x=q∨x=92
  ·rw [if_pos e] at h;simp at h;exact absurd h.1.symm hq
  ·rw [if_neg e] at h;simp at h;exact absurd h.1 (fun z=>e (.inl z))
 | x::xs,y::ys,hx,hy,r,r',h=>by
  rw [List.flatMap_cons,List.flatMap_cons,esc_one (hx x (List.mem_cons_self ..)),esc_one (hy y (List.mem_cons_self ..))] at h
  have ih:=esc_cut hq xs ys (fun c hc=>hx c (List.mem_cons_of_mem _ hc)) (fun c hc=>hy c (List.mem_cons_of_mem _ hc)) r r'
  by_cases e:x=q∨x=92
  ·rw [if_pos e] at h
   by_cases e':y=q∨y=92
   ·rw [if_pos e'] at h
    simp only [List.cons_append,List.nil_append,List.cons.injEq,true_and] at h
    obtain ⟨i1,i2⟩:=ih h.2
    exact ⟨by rw [h.1,i1],i2⟩
   ·rw [if_neg e'] at h
    simp only [List.cons_append,List.nil_append,List.cons.injEq] at h
    exact absurd h.1.symm (fun z=>e' (.inr z))
  ·rw [if_neg e] at h
   by_cases e':y=q∨y=92
   ·rw [if_pos e'] at h
    simp only [List.cons_append,List.nil_append,List.cons.injEq] at h
    exact absurd h.1 (fun z=>e (.inr z))
   ·rw [if_neg e'] at h
    simp only [List.cons_append,List.nil_append,List.cons.injEq] at h
    obtain ⟨i1,i2⟩:=ih h.2
    exact ⟨by rw [h.1,i1],i2⟩
def Sgs (x:Str):Prop:=∀ c∈x.cps.toList,sgn c=true
theorem quote_ne (x:Str):reprQuote x≠92:=by
 unfold reprQuote
 split <;> decide
theorem cut_str:Cut fun d=>∃ x,d = .str x∧Sgs x:=by
 rintro _ _ ⟨x,rfl,hx⟩ ⟨y,rfl,hy⟩ r r' h
 rw [pts_str,pts_str] at h
 simp only [List.cons_append,List.append_assoc,List.nil_append,List.cons.injEq] at h
 obtain ⟨h1,h2⟩:=h
 rw [← h1] at h2
 obtain ⟨h3,h4⟩:=esc_cut (quote_ne x) _ _ hx hy _ _ h2
 exact ⟨by rw [str_ext h3],h4⟩
theorem pts_pair (a b:Str):pts (.tuple [.str a,.str b])=40::(pts (.str a)++44::32::(pts (.str b)++[41])):=by
 have e1:(("(" : Str)).cps.toList=[40]:=by decide +kernel
 have e2:(((if ([PyData.str a,PyData.str b].length == 1)=true then ",)" else ")" : String)):Str).cps.toList=[41]:=by
  show ((")" : String):Str).cps.toList=[41]
  decide +kernel
 have e3:((", " : Str)).cps.toList=[44,32]:=by decide +kernel
 have e4:∀ x y:Str,Str.join ", " [x,y]=x ++ ", " ++ y:=fun _ _=>rfl
 unfold pts
 rw [PyData.shown_tuple,PyData.shownAll_cons,PyData.shownAll_cons,PyData.shownAll_nil,e4]
 simp only [Str.cps_append,Array.toList_append,e1,e2,e3,List.append_assoc,List.cons_append,List.nil_append]
theorem cut_pair:Cut fun d=>∃ a b,d = .tuple [.str a,.str b]∧Sgs a∧Sgs b:=by
 rintro _ _ ⟨a,b,rfl,ha,hb⟩ ⟨a',b',rfl,ha',hb'⟩ r r' h
 rw [pts_pair,pts_pair] at h
 simp only [List.cons_append,List.append_assoc,List.nil_append,List.cons.injEq,true_and] at h
 obtain ⟨h1,h2⟩:=cut_str _ _ ⟨a,rfl,ha⟩ ⟨a',rfl,ha'⟩ _ _ h
 simp only [List.cons.injEq,true_and] at h2
 obtain ⟨h3,h4⟩:=cut_str _ _ ⟨b,rfl,hb⟩ ⟨b',rfl,hb'⟩ _ _ h2
 simp only [List.cons.injEq,true_and] at h4
 exact ⟨by rw [h1,h3],h4⟩
def jn:List (List Nat)→List Nat
 | []=>[]
 | [t]=>t
 | t::u::r=>t++44::32::jn (u::r)
theorem join_jn:∀ xs:List PyData,(Str.join ", " (PyData.shownAll xs)).cps.toList=jn (xs.map pts)
 | []=>by rw [PyData.shownAll_nil];rfl
 | [x]=>by rw [PyData.shownAll_cons,PyData.shownAll_nil];rfl
 | x::y::r=>by
  have e3:((", " : Str)).cps.toList=[44,32]:=by decide +kernel
  have ih:=join_jn (y::r)
  rw [PyData.shownAll_cons] at ih
  rw [PyData.shownAll_cons,PyData.shownAll_cons]
  have e:Str.join ", " (x.shown::y.shown::PyData.shownAll r)=x.shown ++ ", " ++ Str.join ", " (y.shown::PyData.shownAll r):=rfl
  rw [e]
  simp only [Str.cps_append,Array.toList_append,e3,List.append_assoc,ih]
  rfl
theorem pts_list (xs:List PyData):pts (.list xs)=91::(jn (xs.map pts)++[93]):=by
 have e1:(("[" : Str)).cps.toList=[91]:=by decide +kernel
 have e2:(("]" : Str)).cps.toList=[93]:=by decide +kernel
 unfold pts
 rw [PyData.shown_list]
 simp only [Str.cps_append,Array.toList_append,e1,e2,join_jn,List.append_assoc,List.cons_append,List.nil_append]
 rfl
def Open (A:PyData→Prop):Prop:=∀ x,A x→∃ c t,pts x=c::t∧c≠93
theorem jn_head {a:List Nat}{c:Nat}{t:List Nat} (h:a=c::t):∀ l:List (List Nat),∃ t',jn (a::l)=c::t'
 | []=>⟨t,h⟩
 | u::l=>⟨t++44::32::jn (u::l),by show a++44::32::jn (u::l)=_;rw [h];rfl⟩
theorem jn_cut {A:PyData→Prop} (hc:Cut A) (ho:Open A):∀ xs ys:List PyData,(∀ x∈xs,A x)→(∀ y∈ys,A y)→∀ r r':List Nat,jn (xs.map pts)++93::r=jn (ys.map pts)++93::r'→xs=ys∧r=r'
 | [],[],_,_,r,r',h=>by simpa [jn] using h
 | [],y::ys,_,hy,r,r',h=>by
  obtain ⟨c,t,e,n⟩:=ho y (hy y (List.mem_cons_self ..))
  obtain ⟨t',e'⟩:=jn_head e (ys.map pts)
  rw [List.map_cons,e'] at h
  simp [jn] at h
  exact absurd h.1.symm n
 | x::xs,[],hx,_,r,r',h=>by
  obtain ⟨c,t,e,n⟩:=ho x (hx x (List.mem_cons_self ..))
  obtain ⟨t',e'⟩:=jn_head e (xs.map pts)
  rw [List.map_cons,e'] at h
  simp [jn] at h
  exact absurd h.1 n
 | [x],[y],hx,hy,r,r',h=>by
  obtain ⟨h1,h2⟩:=hc x y (hx x (List.mem_cons_self ..)) (hy y (List.mem_cons_self ..)) _ _ h
  simp only [List.cons.injEq,true_and] at h2
  exact ⟨by rw [h1],h2⟩
 | [x],y::y2::ys,hx,hy,r,r',h=>by
  have h:pts x++93::r=(pts y++44::32::jn ((y2::ys).map pts))++93::r':=h
  rw [List.append_assoc] at h
  obtain ⟨_,h2⟩:=hc x y (hx x (List.mem_cons_self ..)) (hy y (List.mem_cons_self ..)) _ _ h
  simp at h2
 | x::x2::xs,[y],hx,hy,r,r',h=>by
  have h:(pts x++44::32::jn ((x2::xs).map pts))++93::r=pts y++93::r':=h
  rw [List.append_assoc] at h
  obtain ⟨_,h2⟩:=hc x y (hx x (List.mem_cons_self ..)) (hy y (List.mem_cons_self ..)) _ _ h
  simp at h2
 | x::x2::xs,y::y2::ys,hx,hy,r,r',h=>by
  have h:(pts x++44::32::jn ((x2::xs).map pts))++93::r=(pts y++44::32::jn ((y2::ys).map pts))++93::r':=h
  rw [List.append_assoc,List.append_assoc] at h
  obtain ⟨h1,h2⟩:=hc x y (hx x (List.mem_cons_self ..)) (hy y (List.mem_cons_self ..)) _ _ h
  simp only [List.cons_append,List.cons.injEq,true_and] at h2
  obtain ⟨h3,h4⟩:=jn_cut hc ho (x2::xs) (y2::ys) (fun z hz=>hx z (List.mem_cons_of_mem _ hz)) (fun z hz=>hy z (List.mem_cons_of_mem _ hz)) r r' h2
  exact ⟨by rw [h1,h3],h4⟩
def AllOf (A:PyData→Prop) (d:PyData):Prop:=∃ xs,d = .list xs∧∀ x∈xs,A x
theorem cut_list {A:PyData→Prop} (hc:Cut A) (ho:Open A):Cut (AllOf A):=by
 rintro _ _ ⟨xs,rfl,hx⟩ ⟨ys,rfl,hy⟩ r r' h
 rw [pts_list,pts_list] at h
 simp only [List.cons_append,List.append_assoc,List.nil_append,List.cons.injEq,true_and] at h
 obtain ⟨h1,h2⟩:=jn_cut hc ho xs ys hx hy r r' h
 exact ⟨by rw [h1],h2⟩
theorem open_list (A:PyData→Prop):Open (AllOf A):=by
 rintro _ ⟨xs,rfl,_⟩
 exact ⟨91,_,pts_list xs,by decide⟩
def Part (d:PyData):Prop:=∃ p,PtW p∧d=Pt.dat p
theorem sgs_of {w:Str} (h:wordB w=true):Sgs w:=by
 unfold wordB onlyB at h
 rw [Bool.and_eq_true] at h
 exact fun c hc=>List.all_eq_true.mp h.2 c hc
theorem sgs_say:Sgs "word" ∧ Sgs "hole" ∧ Sgs "number" ∧ Sgs "name" ∧ Sgs "any" :=by
 refine ⟨?_,?_,?_,?_,?_⟩ <;> exact sgs_of (by decide +kernel)
theorem Part.pair {d:PyData} (h:Part d):∃ a b,d = .tuple [.str a,.str b]∧Sgs a∧Sgs b:=by
 obtain ⟨p,hp,rfl⟩:=h
 cases p with
 | word w=>exact ⟨_,_,rfl,sgs_say.1,sgs_of hp.1⟩
 | hole k=>
  refine ⟨_,_,rfl,sgs_say.2.1,?_⟩
  match k with
  | 0=>exact sgs_say.2.2.1
  | 1=>exact sgs_say.2.2.2.1
  | k+2=>exact sgs_say.2.2.2.2
theorem cut_part:Cut Part:=fun x y hx hy r r' h=>cut_pair x y hx.pair hy.pair r r' h
theorem open_part:Open Part:=by
 intro x hx
 obtain ⟨a,b,rfl,_⟩:=hx.pair
 exact ⟨40,_,pts_pair a b,by decide⟩
theorem cut_pats:Cut (AllOf (AllOf Part)):=cut_list (cut_list cut_part open_part) (open_list _)
def patsD (pss:List (List Pt)):PyData:=.list (pss.map patD)
theorem allOf_pat {ps:List Pt} (h:PW ps):AllOf Part (patD ps):=⟨_,rfl,fun x hx=>by obtain ⟨p,hp,rfl⟩:=List.mem_map.mp hx;exact ⟨p,h p hp,rfl⟩⟩
theorem allOf_pats {pss:List (List Pt)} (h:∀ ps∈pss,PW ps):AllOf (AllOf Part) (patsD pss):=⟨_,rfl,fun x hx=>by obtain ⟨ps,hp,rfl⟩:=List.mem_map.mp hx;exact allOf_pat (h ps hp)⟩
theorem pats_inj:∀ {pss qss:List (List Pt)},(∀ ps∈pss,PW ps)→(∀ qs∈qss,PW qs)→pss.map patD=qss.map patD→pss=qss
 | [],[],_,_,_=>rfl
 | [],_::_,_,_,h=>by simp at h
 | _::_,[],_,_,h=>by simp at h
 | ps::pss,qs::qss,hp,hq,h=>by
  rw [List.map_cons,List.map_cons,List.cons.injEq] at h
  have h1:ps.map Pt.dat=qs.map Pt.dat:=PyData.list.inj h.1
  rw [dats_inj (fun p m=>(hp ps (List.mem_cons_self ..) p m).ok) (fun p m=>(hq qs (List.mem_cons_self ..) p m).ok) h1,
   pats_inj (fun x hx=>hp x (List.mem_cons_of_mem _ hx)) (fun x hx=>hq x (List.mem_cons_of_mem _ hx)) h.2]
def kyD (n:Nat) (one other:List (List Pt)):PyData:=.list [.int n,patsD one,patsD other]
theorem app_cut {c:Nat}:∀ {a b r r':List Nat},c∉a→c∉b→a++c::r=b++c::r'→a=b∧r=r'
 | [],[],_,_,_,_,h=>by simpa using h
 | [],y::b,_,_,_,hb,h=>by simp at h;exact absurd (by simp [h.1]) hb
 | x::a,[],_,_,ha,_,h=>by simp at h;exact absurd (by simp [h.1]) ha
 | x::a,y::b,_,_,ha,hb,h=>by
  simp only [List.cons_append,List.cons.injEq] at h
  obtain ⟨h1,h2⟩:=app_cut (fun m=>ha (List.mem_cons_of_mem _ m)) (fun m=>hb (List.mem_cons_of_mem _ m)) h.2
  exact ⟨by rw [h.1,h1],h2⟩
def ptsI (n:Nat):List Nat:=((toString (n:Int):String):Str).cps.toList
theorem ptsI_ok:∀ n<14,44∉ptsI n∧∀ m<14,ptsI n=ptsI m→n=m:=by decide +kernel
theorem pts_int (n:Nat):pts (.int n)=ptsI n:=by
 unfold pts ptsI
 rw [PyData.shown_int]
theorem ky_inj {n m:Nat}{one other one' other':List (List Pt)} (hn:n<14) (hm:m<14) (h1:∀ ps∈one,PW ps) (h2:∀ ps∈other,PW ps) (h1':∀ ps∈one',PW ps) (h2':∀ ps∈other',PW ps)
  (h:strV (kyD n one other)=strV (kyD m one' other')):n=m∧one=one'∧other=other':=by
 have h:(kyD n one other).shown=(kyD m one' other').shown:=h
 have h:pts (kyD n one other)=pts (kyD m one' other'):=by unfold pts;rw [h]
 unfold kyD at h
 rw [pts_list,pts_list] at h
 have h:91::((pts (.int n)++44::32::(pts (patsD one)++44::32::pts (patsD other)))++[93])=91::((pts (.int m)++44::32::(pts (patsD one')++44::32::pts (patsD other')))++[93]):=h
 simp only [List.cons.injEq,true_and,List.append_assoc,List.cons_append] at h
 rw [pts_int,pts_int] at h
 obtain ⟨e1,e2⟩:=app_cut (ptsI_ok n hn).1 (ptsI_ok m hm).1 h
 simp only [List.cons.injEq,true_and] at e2
 obtain ⟨e3,e4⟩:=cut_pats _ _ (allOf_pats h1) (allOf_pats h1') _ _ e2
 simp only [List.cons.injEq,true_and] at e4
 obtain ⟨e5,_⟩:=cut_pats _ _ (allOf_pats h2) (allOf_pats h2') _ _ e4
 exact ⟨(ptsI_ok n hn).2 m hm e1,pats_inj h1 h1' (PyData.list.inj e3),pats_inj h2 h2' (PyData.list.inj e5)⟩
end LG
namespace LG
open PySem L2 PySem.Builtin PySem.Builtin.Str
def So (n:Nat) (P Q:List (List Pt)):Option (List Str)→Prop
 | none=>∀ vs,knows P vs=knows Q vs
 | some ws=>knows P ws≠knows Q ws∧Words ws∧(∀ w∈ws,Bd w)∧ws.length=n∧∀ vs,knows P vs≠knows Q vs→ltvAll (vs.map wkD) (ws.map wkD)=false
theorem knows_nn {P:List (List Pt)} (h:LenIs 0 P) (vs:List Str):knows P vs=(decide (P≠[]) && decide (vs=[])):=by
 cases vs with
 | cons v vs=>rw [knows_not fun p hp=>by rw [h p hp];simp];simp
 | nil=>
  cases P with
  | nil=>rfl
  | cons p P=>
   have e:p=[]:=List.eq_nil_of_length_eq_zero (h p (List.mem_cons_self ..))
   subst e
   rfl
theorem so_zero {P Q:List (List Pt)} (hP:LenIs 0 P) (hQ:LenIs 0 Q):So 0 P Q (if decide (P=[])≠decide (Q=[]) then some [] else none):=by
 by_cases hp:P=[] <;> by_cases hq:Q=[]
 ·subst hp hq;exact fun _=>rfl
 ·rw [if_pos (by simp [hp,hq])]
  refine ⟨by rw [knows_nn hP,knows_nn hQ];simp [hp,hq],(fun w hw=>by cases hw),(fun w hw=>by cases hw),rfl,fun vs hv=>?_⟩
  rw [knows_nn hP,knows_nn hQ] at hv
  have e:vs=[]:=by
   cases vs with
   | nil=>rfl
   | cons v vs=>exact (hv (by simp)).elim
  subst e
  rfl
 ·rw [if_pos (by simp [hp,hq])]
  refine ⟨by rw [knows_nn hP,knows_nn hQ];simp [hp,hq],(fun w hw=>by cases hw),(fun w hw=>by cases hw),rfl,fun vs hv=>?_⟩
  rw [knows_nn hP,knows_nn hQ] at hv
  have e:vs=[]:=by
   cases vs with
   | nil=>rfl
   | cons v vs=>exact (hv (by simp)).elim
  subst e
  rfl
 ·rw [if_neg (by simp [hp,hq])]
  intro vs
  rw [knows_nn hP,knows_nn hQ]
  simp [hp,hq]
theorem behind_none {P:List (List Pt)}{y:Str} (h:∀ ps∈P,PW ps) (hy:wordB y=false):behindP P y=[]:=by
 unfold behindP
 rw [List.filter_eq_nil_iff.mpr]
 ·rfl
 ·intro ps hp
  cases ps with
  | nil=>exact Bool.false_ne_true
  | cons p ps=>
   intro q
   have:=takes_word (h _ hp p (List.mem_cons_self ..)) q
   rw [hy] at this
   cases this
structure Tries (P Q:List (List Pt)) (l:List Str):Prop where
 wd:∀ x∈l,wordB x=true∧Bd x
 up:l.Pairwise fun a b=>wlt b a=false
 all:∀ y,wordB y=true→∃ x∈l,wlt y x=false∧behindP P x=behindP P y∧behindP Q x=behindP Q y
theorem so_step {n:Nat}{P Q:List (List Pt)}{l:List Str}{os:Str→Option (List Str)} (hP:∀ ps∈P,PW ps∧ps.length=n+1) (hQ:∀ ps∈Q,PW ps∧ps.length=n+1) (T:Tries P Q l)
  (ho:∀ x∈l,So n (behindP P x) (behindP Q x) (os x)):So (n+1) P Q (l.findSome? fun x=>(os x).map (x :: ·)):=by
 have neP:∀ ps∈P,ps≠[]:=fun ps h e=>by have:=(hP ps h).2;rw [e] at this;cases this
 have neQ:∀ ps∈Q,ps≠[]:=fun ps h e=>by have:=(hQ ps h).2;rw [e] at this;cases this
 have go:∀ y r,knows P (y::r)≠knows Q (y::r)→∃ x∈l,wlt y x=false∧behindP P x=behindP P y∧behindP Q x=behindP Q y∧knows (behindP P x) r≠knows (behindP Q x) r:=fun y r h=>by
  rw [knows_behind P y r neP,knows_behind Q y r neQ] at h
  cases hy:wordB y with
  | false=>rw [behind_none (fun ps q=>(hP ps q).1) hy,behind_none (fun ps q=>(hQ ps q).1) hy] at h;exact (h rfl).elim
  | true=>
   obtain ⟨x,hx,h1,h2,h3⟩:=T.all y hy
   exact ⟨x,hx,h1,h2,h3,by rw [h2,h3];exact h⟩
 have nil0:knows P []=knows Q []:=by
  rw [knows_not fun p hp=>by rw [(hP p hp).2];simp,knows_not fun p hp=>by rw [(hQ p hp).2];simp]
 cases e:l.findSome? fun x=>(os x).map (x :: ·) with
 | none=>
  intro vs
  cases vs with
  | nil=>exact nil0
  | cons y r=>
   by_cases h:knows P (y::r)=knows Q (y::r)
   ·exact h
   ·obtain ⟨x,hx,_,_,_,h4⟩:=go y r h
    have hn:os x=none:=by
     have:=List.findSome?_eq_none_iff.mp e x hx
     cases q:os x with
     | none=>rfl
     | some z=>rw [q] at this;cases this
    have hs:=ho x hx
    rw [hn] at hs
    exact (h4 (hs r)).elim
 | some ws=>
  obtain ⟨pre,x,post,rfl,hx,hpre⟩:=List.findSome?_eq_some_iff.mp e
  have mx:x∈pre++x::post:=List.mem_append_right _ (List.mem_cons_self ..)
  cases q:os x with
  | none=>rw [q] at hx;cases hx
  | some rest=>
   rw [q] at hx
   cases hx
   have hs:=ho x mx
   rw [q] at hs
   obtain ⟨s1,s2,s3,s4,s5⟩:=hs
   obtain ⟨w1,w2⟩:=T.wd x mx
   refine ⟨by rw [knows_behind P x rest neP,knows_behind Q x rest neQ];exact s1,(fun w hw=>(List.mem_cons.mp hw).elim (fun z=>z ▸ w1) (s2 w)),(fun w hw=>(List.mem_cons.mp hw).elim (fun z=>z ▸ w2) (s3 w)),by rw [List.length_cons,s4],fun vs hv=>?_⟩
   cases vs with
   | nil=>exact (hv nil0).elim
   | cons y r=>
    obtain ⟨x',hx',h1,h2,h3,h4⟩:=go y r hv
    rw [List.map_cons,List.map_cons,ltvAll_cons,wk_eqv]
    by_cases ey:y=x
    ·subst ey
     rw [if_pos (by simp)]
     refine s5 r ?_
     rw [h2,h3] at h4
     exact h4
    ·rw [if_neg (by simpa using ey)]
     have hle:wlt x' x=false:=by
      rcases List.mem_append.mp hx' with m | m
      ·have hn:os x' = none:=by
        have:=hpre x' m
        cases q:os x' with
        | none=>rfl
        | some z=>rw [q] at this;cases this
       have hs:=ho x' hx'
       rw [hn] at hs
       exact (h4 (hs r)).elim
      ·rcases List.mem_cons.mp m with z | z
       ·rw [z];exact wlt_irr x
       ·exact (List.pairwise_cons.mp (List.pairwise_append.mp T.up).2.1).1 x' z
     exact wle_trans h1 hle
theorem tries_of {P Q:List (List Pt)}{l:List Str}{x0 x1 x2:Str} (hP:∀ ps∈P,PW ps∧ps≠[]) (hQ:∀ ps∈Q,PW ps∧ps≠[]) (hl:∀ x,x∈l↔x∈named (heads (P++Q))++[x0,x1,x2]) (up:l.Pairwise fun a b=>wlt b a=false)
  (h0:LW 0 (named (heads (P++Q))) x0) (h1:LW 1 (named (heads (P++Q))) x1) (h2:LW 2 (named (heads (P++Q))) x2):Tries P Q l:=by
 have hR:∀ ps∈P++Q,PW ps∧ps≠[]:=fun ps h=>by
  rcases List.mem_append.mp h with z | z
  ·exact hP ps z
  ·exact hQ ps z
 refine ⟨fun x hx=>?_,up,fun y hy=>?_⟩
 ·rcases List.mem_append.mp ((hl x).mp hx) with m | m
  ·have m:=mem_named.mp m
   obtain ⟨os,ho,e⟩:=List.mem_map.mp m
   obtain ⟨hw,hne⟩:=hR os ho
   cases os with
   | nil=>exact (hne rfl).elim
   | cons q r=>
    have e:q = .word x:=e
    have:=hw q (List.mem_cons_self ..)
    rw [e] at this
    exact ⟨this.1,this.2⟩
  ·simp only [List.mem_cons,List.not_mem_nil,or_false] at m
   rcases m with rfl | rfl | rfl
   ·exact ⟨h0.wd,h0.bd⟩
   ·exact ⟨h1.wd,h1.bd⟩
   ·exact ⟨h2.wd,h2.bd⟩
 ·by_cases hn:y∈named (heads (P++Q))
  ·exact ⟨y,(hl y).mpr (List.mem_append_left _ hn),wlt_irr y,rfl,rfl⟩
  ·have key:∀ (k:Nat) (x:Str),LW k (named (heads (P++Q))) x→kindT y=k→x∈[x0,x1,x2]→∃ x∈l,wlt y x=false∧behindP P x=behindP P y∧behindP Q x=behindP Q y:=fun k x hx hk hm=>by
    have same:∀ os∈P++Q,startsW x os=startsW y os:=fun os hos=>by
     obtain ⟨hw,hne⟩:=hR os hos
     cases os with
     | nil=>exact (hne rfl).elim
     | cons q r=>
      have hq:q∈heads (P++Q):=List.mem_map.mpr ⟨_,hos,rfl⟩
      show q.takes x=q.takes y
      cases q with
      | word z=>
       have hz:=mem_named.mpr hq
       show decide (x=z)=decide (y=z)
       rw [decide_eq_false (fun e:x=z=>hx.no (e ▸ hz)),decide_eq_false (fun e:y=z=>hn (e ▸ hz))]
      | hole j=>
       have hj:PtW (.hole j):=hw _ (List.mem_cons_self ..)
       rcases hole_cases hj with h | rfl
       ·rw [takes_hole h,takes_hole h,hx.kd,hk]
       ·rw [takes_any,takes_any,hx.wd,hy]
    exact ⟨x,(hl x).mpr (List.mem_append_right _ hm),hx.le y hy hk hn,behind_congr fun os h=>same os (List.mem_append_left _ h),behind_congr fun os h=>same os (List.mem_append_right _ h)⟩
   have hk:=kindT_lt y
   have:kindT y=0∨kindT y=1∨kindT y=2:=by lia
   rcases this with e | e | e
   ·exact key 0 x0 h0 e (by simp)
   ·exact key 1 x1 h1 e (by simp)
   ·exact key 2 x2 h2 e (by simp)
def dr (n:Nat) (P:List (List Pt)):List (List Pt):=P.map (List.drop n)
def at_ (n:Nat) (w:Str) (P:List (List Pt)):List (List Pt):=P.filter fun ps=>(ps.getD n (.hole 2)).takes w
theorem dr_at {n:Nat}{w:Str}:∀ {P:List (List Pt)},(∀ ps∈P,n<ps.length)→behindP (dr n P) w=dr (n+1) (at_ n w P)
 | [],_=>rfl
 | ps::P,h=>by
  have hl:=h ps (List.mem_cons_self ..)
  have ih:=dr_at (w:=w) (P:=P) fun qs hq=>h qs (List.mem_cons_of_mem _ hq)
  have e:ps.drop n=ps.getD n (.hole 2)::ps.drop (n+1):=by
   rw [List.drop_eq_getElem_cons hl,List.getD_eq_getElem?_getD,List.getElem?_eq_getElem hl];rfl
  show behindP (ps.drop n::dr n P) w=dr (n+1) (at_ n w (ps::P))
  rw [e,behind_cons,ih]
  unfold at_
  by_cases ht:(ps.getD n (.hole 2)).takes w=true
  ·rw [if_pos ht,List.filter_cons_of_pos (by simpa using ht)];rfl
  ·rw [if_neg ht,List.filter_cons_of_neg (by simpa using ht)]
def partsAt (n:Nat) (P:List (List Pt)):List Pt:=P.map fun ps=>ps.getD n (.hole 2)
theorem heads_dr {n:Nat}:∀ (P:List (List Pt)),heads (dr n P)=partsAt n P
 | []=>rfl
 | ps::P=>by
  have ih:=heads_dr (n:=n) P
  show (ps.drop n).headD (.hole 2)::heads (dr n P)=ps.getD n (.hole 2)::partsAt n P
  rw [ih,List.getD_eq_getElem?_getD,List.headD_eq_head?_getD,List.head?_drop]
theorem dr_app (n:Nat) (P Q:List (List Pt)):dr n (P++Q)=dr n P++dr n Q:=List.map_append
theorem so_parts {n:Nat}{P Q:List (List Pt)}{o:Option (List Str)} (h0:1≤n) (h12:n≤12) (h:So n P Q o) (hP:LenIs n P) (hQ:LenIs n Q):Parts P Q o:=by
 cases o with
 | none=>exact h
 | some ws=>
  obtain ⟨h1,h2,h3,h4,h5⟩:=h
  refine ⟨h1,h2,h3,fun e=>by rw [e] at h4;simp at h4;lia,by lia,fun vs hv=>lk_le ?_ (h5 vs hv)⟩
  rw [h4]
  exact parts_len hP hQ hv
end LG
namespace LG
open PySem L2 PySem.Builtin PySem.Builtin.Str
def sgsOf:Nat→List Nat
 | 0=>[48,49,50,51,52,53,54,55,56,57]
 | 1=>[97,98,99,100,101,102,103,104,105,106,107,108,109,110,111,112,113,114,115,116,117,118,119,120,121,122]
 | _=>[33,34,35,36,38,39,40,41,42,43,44,45,46,47,58,59,60,61,62,63,64,65,66]
def ng (c:Nat):Str:=⟨#[45,c]⟩
def negs:List Str:=(sgsOf 0).map ng
def tried (k:Nat):List Str:=(sgsOf k).map sg++negs
theorem sgs_nodup:∀ k<3,((sgsOf k).map sg).Nodup∧(sgsOf k).Pairwise (· < ·):=by decide +kernel
theorem tried0_nodup:(tried 0).Nodup∧(tried 0).length=20:=by decide +kernel
theorem sgs_len:(sgsOf 1).length=26∧(sgsOf 2).length=23:=by decide
theorem sgs_in:∀ k<3,∀ c∈sgsOf k,sgn c=true∧kindT (sg c)=k:=by decide +kernel
theorem sgs_all0:∀ c<127,sgn c=true→decide (kindT (sg c)=0)=true→c∈sgsOf 0:=by decide +kernel
theorem sgs_all1:∀ c<127,sgn c=true→decide (kindT (sg c)=1)=true→c∈sgsOf 1:=by decide +kernel
theorem sgs_all2:∀ c<67,sgn c=true→decide (kindT (sg c)=2)=true→c∈sgsOf 2:=by decide +kernel
theorem sgs_all (c:Nat) (hc:c<127) (h:sgn c=true):(kindT (sg c)=0→c∈sgsOf 0)∧(kindT (sg c)=1→c∈sgsOf 1)∧(kindT (sg c)=2→c<67→c∈sgsOf 2):=
 ⟨fun e=>sgs_all0 c hc h (decide_eq_true e),fun e=>sgs_all1 c hc h (decide_eq_true e),fun e q=>sgs_all2 c q h (decide_eq_true e)⟩
theorem sgs2_lt:∀ c∈sgsOf 2,c<67:=by decide
theorem ng_in:∀ c∈sgsOf 0,wordB (ng c)=true∧kindT (ng c)=0∧PyData.strOk (ng c)=true:=by decide +kernel
theorem sgn_lt {c:Nat} (h:sgn c=true):c<127:=by simp only [sgn,Bool.and_eq_true,decide_eq_true_eq] at h;lia
theorem sgs_below {k d c:Nat} (hk:k<3) (hc:c∈sgsOf k) (hs:sgn d=true) (hd:kindT (sg d)=k) (hl:d<c):d∈sgsOf k:=by
 obtain ⟨h0,h1,h2⟩:=sgs_all d (sgn_lt hs) hs
 have:k=0∨k=1∨k=2:=by lia
 rcases this with rfl | rfl | rfl
 ·exact h0 hd
 ·exact h1 hd
 ·exact h2 hd (by have:=sgs2_lt c hc;lia)
theorem lw_sign {k c:Nat}{nm:List Str} (hs:sgn c=true) (hk:kindT (sg c)=k) (hn:sg c∉nm) (hb:∀ d,sgn d=true→kindT (sg d)=k→d<c→sg d∈nm):LW k nm (sg c):=by
 refine ⟨sg_word hs,hk,hn,fun y hw hy hny=>?_,sg_bd hs⟩
 have hp:=word_pos hw
 by_cases h1:y.length=1
 ·obtain ⟨d,rfl,hd⟩:=one_sign h1 hw
  rw [sg_lt]
  exact decide_eq_false fun q=>hny (hb d hd hy q)
 ·exact wlt_len (by rw [sg_len];lia)
theorem two_signs {y:Str} (h:y.length=2):∃ a b,y=⟨#[a,b]⟩:=by
 have hl:y.cps.toList.length=2:=by simpa [Str.length] using h
 match q:y.cps.toList,hl with
 | [a,b],_=>exact ⟨a,b,str_ext (by rw [q])⟩
theorem lt_two {a b c d:Nat} (h:([a,b]:List Nat) < [c,d]):a<c∨(a=c∧b<d):=by
 rcases List.cons_lt_cons_iff.mp h with q | ⟨e,q⟩
 ·exact .inl q
 ·rcases List.cons_lt_cons_iff.mp q with q | ⟨_,q⟩
  ·exact .inr ⟨e,q⟩
  ·exact absurd q (by decide)
theorem num_two {a b:Nat} (h:kindT ⟨#[a,b]⟩=0):(a=45∨48≤a)∧b∈sgsOf 0:=by
 have h:(if onlyB dig (unminus [a,b])=true then 0 else if onlyB low [a,b]=true then 1 else 2)=0:=h
 by_cases q:onlyB dig (unminus [a,b])=true
 ·have hb:∀ b,dig b=true→b∈sgsOf 0:=fun b h=>by
   simp only [dig,Bool.and_eq_true,decide_eq_true_eq] at h
   obtain ⟨h1,h2⟩:=h
   have:b=48∨b=49∨b=50∨b=51∨b=52∨b=53∨b=54∨b=55∨b=56∨b=57:=by lia
   simpa [sgsOf] using this
  by_cases e:a=45
  ·subst e
   have q:onlyB dig [b]=true:=q
   exact ⟨.inl rfl,hb b (by simpa [onlyB] using q)⟩
  ·have e2:unminus [a,b]=[a,b]:=by
    unfold unminus
    split
    ·next h=>simp only [List.cons.injEq] at h;exact (e h.1).elim
    ·rfl
   rw [e2] at q
   simp only [onlyB,List.isEmpty_cons,Bool.not_false,Bool.true_and,List.all_cons,List.all_nil,Bool.and_true,Bool.and_eq_true] at q
   refine ⟨.inr ?_,hb b q.2⟩
   have:=q.1
   simp only [dig,Bool.and_eq_true,decide_eq_true_eq] at this
   lia
 ·rw [if_neg q] at h
  split at h <;> cases h
theorem lw_neg {c:Nat}{nm:List Str} (hc:c∈sgsOf 0) (hn:ng c∉nm) (h1:∀ d∈sgsOf 0,sg d∈nm) (hb:∀ d∈sgsOf 0,d<c→ng d∈nm):LW 0 nm (ng c):=by
 obtain ⟨w1,w2,w3⟩:=ng_in c hc
 refine ⟨w1,w2,hn,fun y hw hy hny=>?_,⟨by show 2≤500;decide,w3⟩⟩
 have hp:=word_pos hw
 have hl:(ng c).length=2:=rfl
 by_cases e1:y.length=1
 ·obtain ⟨d,rfl,hd⟩:=one_sign e1 hw
  exact (hny (h1 d ((sgs_all d (sgn_lt hd) hd).1 hy))).elim
 ·by_cases e2:y.length=2
  ·obtain ⟨a,b,rfl⟩:=two_signs e2
   rw [wlt_eq (by rw [hl];exact e2)]
   split
   ·rfl
   ·refine decide_eq_false fun q=>?_
    have q:([a,b]:List Nat) < [45,c]:=q
    obtain ⟨k1,k2⟩:=num_two hy
    rcases lt_two q with z | ⟨z,z2⟩
    ·lia
    ·subst z
     exact hny (hb b k2 z2)
  ·exact wlt_len (by rw [hl];lia)
theorem find_first {l words:List Str}{x:Str} (h:(l.filter fun z=>!words.contains z).head? = some x):∃ i:Nat,l[i]? = some x∧x∉words∧∀ (j:Nat) (z:Str),j<i→l[j]? = some z→z∈words:=by
 rw [List.head?_filter] at h
 obtain ⟨h1,as,bs,e,h2⟩:=List.find?_eq_some_iff_append.mp h
 subst e
 refine ⟨as.length,by simp,by simpa using h1,fun j z hj hz=>?_⟩
 rw [List.getElem?_append_left hj] at hz
 simpa using h2 z (List.mem_of_getElem? hz)
theorem first_there {k:Nat}{words:List Str} (h:(k=0∧words.length≤19)∨(k=1∧words.length≤25)∨(k=2∧words.length≤22)):∃ x,((tried k).filter fun z=>!words.contains z).head? = some x:=by
 cases q:((tried k).filter fun z=>!words.contains z).head? with
 | some x=>exact ⟨x,rfl⟩
 | none=>
  have hall:∀ x∈tried k,x∈words:=fun x hx=>by
   rw [List.head?_filter,List.find?_eq_none] at q
   simpa using q x hx
  rcases h with ⟨rfl,hl⟩ | ⟨rfl,hl⟩ | ⟨rfl,hl⟩
  ·have:=nodup_le tried0_nodup.1 hall
   rw [tried0_nodup.2] at this
   lia
  ·have:=nodup_le (sgs_nodup 1 (by decide)).1 fun x hx=>hall x (List.mem_append_left _ hx)
   rw [List.length_map,sgs_len.1] at this
   lia
  ·have:=nodup_le (sgs_nodup 2 (by decide)).1 fun x hx=>hall x (List.mem_append_left _ hx)
   rw [List.length_map,sgs_len.2] at this
   lia
theorem before_of {l:List Nat} (hp:l.Pairwise (· < ·)) {i:Nat}{c d:Nat} (hc:l[i]? = some c) (hd:d∈l) (hl:d<c):∃ j,j<i∧l[j]? = some d:=by
 obtain ⟨j,hj⟩:=List.getElem?_of_mem hd
 refine ⟨j,?_,hj⟩
 rcases Nat.lt_or_ge j i with q | q
 ·exact q
 ·obtain ⟨hi,ei⟩:=List.getElem?_eq_some_iff.mp hc
  obtain ⟨hj',ej⟩:=List.getElem?_eq_some_iff.mp hj
  rcases Nat.eq_or_lt_of_le q with e | e
  ·subst e
   rw [ei] at ej
   lia
  ·have:=List.pairwise_iff_getElem.mp hp i j hi hj' e
   rw [ei,ej] at this
   lia
theorem tried_lw {k:Nat}{nm more:List Str}{x:Str} (hk:k<3) (hm:∀ y∈more,kindT y≠k) (hn:k=1∨k=2→nm.length+more.length≤22) (h:((tried k).filter fun z=>!(nm++more).contains z).head? = some x):LW k nm x:=by
 obtain ⟨i,hi,hx,hb⟩:=find_first h
 have innm:∀ y,y∈nm++more→kindT y=k→y∈nm:=fun y hy e=>by
  rcases List.mem_append.mp hy with z | z
  ·exact z
  ·exact (hm y z e).elim
 have hxn:x∉nm:=fun z=>hx (List.mem_append_left _ z)
 obtain ⟨nd,so⟩:=sgs_nodup k hk
 rcases Nat.lt_or_ge i (sgsOf k).length with q | q
 ·unfold tried at hi
  rw [List.getElem?_append_left (by rw [List.length_map];exact q),List.getElem?_map] at hi
  cases hc:(sgsOf k)[i]? with
  | none=>rw [hc] at hi;cases hi
  | some c=>
   rw [hc] at hi
   cases hi
   have mc:c∈sgsOf k:=List.mem_of_getElem? hc
   obtain ⟨s1,s2⟩:=sgs_in k hk c mc
   refine lw_sign s1 s2 hxn fun d hd hdk hl=>innm _ ?_ hdk
   obtain ⟨j,hj,ej⟩:=before_of so hc (sgs_below hk mc hd hdk hl) hl
   refine hb j (sg d) hj ?_
   unfold tried
   rw [List.getElem?_append_left (by rw [List.length_map];lia),List.getElem?_map,ej]
   rfl
 ·have first:∀ d∈sgsOf k,sg d∈nm++more:=fun d hd=>by
   obtain ⟨j,hj⟩:=List.getElem?_of_mem hd
   have hjl:j<(sgsOf k).length:=(List.getElem?_eq_some_iff.mp hj).1
   refine hb j _ (by lia) ?_
   unfold tried
   rw [List.getElem?_append_left (by rw [List.length_map];lia),List.getElem?_map,hj]
   rfl
  have:k=0∨k=1∨k=2:=by lia
  rcases this with rfl | rfl | rfl
  ·unfold tried at hi
   rw [List.getElem?_append_right (by rw [List.length_map];exact q),List.length_map] at hi
   unfold negs at hi
   rw [List.getElem?_map] at hi
   cases hc:(sgsOf 0)[i - (sgsOf 0).length]? with
   | none=>rw [hc] at hi;cases hi
   | some c=>
    rw [hc] at hi
    cases hi
    have mc:c∈sgsOf 0:=List.mem_of_getElem? hc
    refine lw_neg mc hxn (fun d hd=>innm _ (first d hd) (sgs_in 0 (by decide) d hd).2) fun d hd hl=>innm _ ?_ (ng_in d hd).2.1
    obtain ⟨j,hj,ej⟩:=before_of so hc hd hl
    refine hb ((sgsOf 0).length+j) (ng d) (by lia) ?_
    unfold tried negs
    rw [List.getElem?_append_right (by rw [List.length_map];lia),List.length_map,Nat.add_sub_cancel_left,List.getElem?_map,ej]
    rfl
  ·have:=nodup_le nd fun x hx=>by obtain ⟨d,hd,rfl⟩:=List.mem_map.mp hx;exact first d hd
   rw [List.length_map,sgs_len.1,List.length_append] at this
   have:=hn (.inl rfl)
   lia
  ·have:=nodup_le nd fun x hx=>by obtain ⟨d,hd,rfl⟩:=List.mem_map.mp hx;exact first d hd
   rw [List.length_map,sgs_len.2,List.length_append] at this
   have:=hn (.inr rfl)
   lia
end LG
namespace LG
open PySem L2 PySem.Builtin PySem.Builtin.Str
theorem esc_len {q:Nat}:∀ {l:List Nat},(∀ c∈l,sgn c=true)→(l.flatMap (reprChar q)).length≤2 * l.length
 | [],_=>by simp
 | c::l,h=>by
  have ih:=esc_len (q:=q) (l:=l) fun d hd=>h d (List.mem_cons_of_mem _ hd)
  rw [List.flatMap_cons,List.length_append,List.length_cons,esc_one (h c (List.mem_cons_self ..))]
  split
  ·show 2+_≤_;lia
  ·show 1+_≤_;lia
theorem pts_str_len {x:Str} (h:Sgs x):(pts (.str x)).length≤2 * x.length+2:=by
 rw [pts_str,List.length_cons,List.length_append,List.length_singleton]
 have:=esc_len (q:=reprQuote x) h
 have e:x.length=x.cps.toList.length:=by simp [Str.length]
 lia
theorem part_len {p:Pt} (h:PtW p):(pts p.dat).length≤1100:=by
 cases p with
 | word w=>
  show (pts (.tuple [.str "word",.str w])).length≤1100
  rw [pts_pair]
  have h1:=pts_str_len sgs_say.1
  have e1:("word" : Str).length=4:=by decide +kernel
  have h2:=pts_str_len (sgs_of h.1)
  have h3:=h.2.1
  simp only [List.length_cons,List.length_append,List.length_nil]
  lia
 | hole k=>
  show (pts (.tuple [.str "hole",.str (kindS k)])).length≤1100
  rw [pts_pair]
  have h1:=pts_str_len sgs_say.2.1
  have e1:("hole" : Str).length=4:=by decide +kernel
  have h2:(pts (.str (kindS k))).length≤20:=by
   match k with
   | 0=>have:=pts_str_len sgs_say.2.2.1;have e:("number" : Str).length=6:=(by decide +kernel);show (pts (.str "number")).length≤20;lia
   | 1=>have:=pts_str_len sgs_say.2.2.2.1;have e:("name" : Str).length=4:=(by decide +kernel);show (pts (.str "name")).length≤20;lia
   | k+2=>have:=pts_str_len sgs_say.2.2.2.2;have e:("any" : Str).length=3:=(by decide +kernel);show (pts (.str "any")).length≤20;lia
  simp only [List.length_cons,List.length_append,List.length_nil]
  lia
theorem jn_len {B:Nat}:∀ {l:List (List Nat)},(∀ t∈l,t.length≤B)→(jn l).length≤l.length * (B+2)
 | [],_=>by simp [jn]
 | [t],h=>by
  have:=h t (List.mem_cons_self ..)
  show t.length≤1 * (B+2)
  lia
 | t::u::r,h=>by
  have ih:=jn_len (l:=u::r) fun x hx=>h x (List.mem_cons_of_mem _ hx)
  have:=h t (List.mem_cons_self ..)
  show (t++44::32::jn (u::r)).length≤(u::r).length.succ * (B+2)
  rw [List.length_append,List.length_cons,List.length_cons,Nat.succ_mul]
  lia
theorem pts_list_len {B:Nat}{xs:List PyData} (h:∀ x∈xs,(pts x).length≤B):(pts (.list xs)).length≤xs.length * (B+2)+2:=by
 rw [pts_list,List.length_cons,List.length_append,List.length_singleton]
 have:=jn_len (B:=B) (l:=xs.map pts) fun t ht=>by obtain ⟨x,hx,rfl⟩:=List.mem_map.mp ht;exact h x hx
 rw [List.length_map] at this
 lia
theorem pat_len {ps:List Pt} (h:PW ps) (hl:ps.length≤12):(pts (patD ps)).length≤13226:=by
 have:=pts_list_len (B:=1100) (xs:=ps.map Pt.dat) fun x hx=>by obtain ⟨p,hp,rfl⟩:=List.mem_map.mp hx;exact part_len (h p hp)
 rw [List.length_map] at this
 exact Nat.le_trans this (by have:=Nat.mul_le_mul_right 1102 hl;lia)
theorem pats_len {pss:List (List Pt)} (h:∀ ps∈pss,PW ps∧ps.length≤12) (hl:pss.length≤15):(pts (patsD pss)).length≤198422:=by
 have:=pts_list_len (B:=13226) (xs:=pss.map patD) fun x hx=>by obtain ⟨p,hp,rfl⟩:=List.mem_map.mp hx;exact pat_len (h p hp).1 (h p hp).2
 rw [List.length_map] at this
 exact Nat.le_trans this (by have:=Nat.mul_le_mul_right 13228 hl;lia)
theorem ptsI_len:∀ n<14,(ptsI n).length≤2:=by decide +kernel
theorem showable_pats (pss:List (List Pt)):(patsD pss).showable=true∧(patsD pss).hasDict=false:=by
 have p1:∀ p:Pt,p.dat.showable=true∧p.dat.hasDict=false:=fun p=>by cases p <;> exact ⟨rfl,rfl⟩
 have l1:∀ l:List PyData,(∀ d∈l,d.showable=true∧d.hasDict=false)→PyData.showableAll l=true∧PyData.hasDictAll l=false:=by
  intro l
  induction l with
  | nil=>intro _;exact ⟨by simp only [PyData.showableAll],by simp only [PyData.hasDictAll]⟩
  | cons d l ih=>
   intro h
   obtain ⟨a,b⟩:=ih fun x hx=>h x (List.mem_cons_of_mem _ hx)
   obtain ⟨c,e⟩:=h d (List.mem_cons_self ..)
   exact ⟨by simp only [PyData.showableAll,a,c,Bool.and_self],by simp only [PyData.hasDictAll,b,e,Bool.or_self]⟩
 have p2:∀ ps:List Pt,(patD ps).showable=true∧(patD ps).hasDict=false:=fun ps=>by
  have:=l1 (ps.map Pt.dat) fun d hd=>by obtain ⟨p,_,rfl⟩:=List.mem_map.mp hd;exact p1 p
  exact ⟨by show (PyData.list _).showable=true;simp only [PyData.showable];exact this.1,by show (PyData.list _).hasDict=false;simp only [PyData.hasDict];exact this.2⟩
 have:=l1 (pss.map patD) fun d hd=>by obtain ⟨p,_,rfl⟩:=List.mem_map.mp hd;exact p2 p
 exact ⟨by show (PyData.list _).showable=true;simp only [PyData.showable];exact this.1,by show (PyData.list _).hasDict=false;simp only [PyData.hasDict];exact this.2⟩
theorem dep_ky (n:Nat) (P Q:List (List Pt)):(kyD n P Q).depth≤100:=by
 have h:∀ pss:List (List Pt),(patsD pss).depth≤91:=fun pss=>by
  have h:PyData.depthAll (pss.map patD)≤90:=depthAll_le _ fun d hd=>by
   obtain ⟨ps,_,rfl⟩:=List.mem_map.mp hd
   have:PyData.depthAll (ps.map Pt.dat)≤10:=depthAll_le _ fun d hd=>by obtain ⟨p,_,rfl⟩:=List.mem_map.mp hd;exact Nat.le_trans (dep_dat _) (by decide)
   show (PyData.list _).depth≤90
   simp only [PyData.depth]
   lia
  show (PyData.list _).depth≤91
  simp only [PyData.depth]
  lia
 have:PyData.depthAll [.int n,patsD P,patsD Q]≤95:=depthAll_le _ fun d hd=>by
  simp only [List.mem_cons,List.not_mem_nil,or_false] at hd
  rcases hd with rfl | rfl | rfl
  ·simp [PyData.depth]
  ·exact Nat.le_trans (h P) (by decide)
  ·exact Nat.le_trans (h Q) (by decide)
 show (PyData.list _).depth≤100
 simp only [PyData.depth]
 lia
theorem ky_showy {n:Nat}{P Q:List (List Pt)} (hn:n<14) (hP:∀ ps∈P,PW ps∧ps.length≤12) (hQ:∀ ps∈Q,PW ps∧ps.length≤12) (lP:P.length≤15) (lQ:Q.length≤15):Showy (kyD n P Q):=by
 have sP:=showable_pats P
 have sQ:=showable_pats Q
 refine ⟨?_,?_,dep_ky n P Q,fun _=>?_⟩
 ·show (PyData.list _).showable=true
  simp only [PyData.showable,PyData.showableAll,sP.1,sQ.1,Bool.and_true,Bool.and_self,decide_eq_true_eq]
  have:((n:Int)).natAbs=n:=rfl
  rw [this]
  have:n.log2≤n:=Nat.log2_le_self n
  lia
 ·show (PyData.list _).hasDict=false
  simp only [PyData.hasDict,PyData.hasDictAll,sP.2,sQ.2,Bool.or_self]
 ·have e:(kyD n P Q).shown.length=(pts (kyD n P Q)).length:=by unfold pts;simp [Str.length]
  rw [e]
  have h1:=pats_len hP lP
  have h2:=pats_len hQ lQ
  have h3:=ptsI_len n hn
  have:=pts_list_len (B:=198422) (xs:=[.int n,patsD P,patsD Q]) fun x hx=>by
   simp only [List.mem_cons,List.not_mem_nil,or_false] at hx
   rcases hx with rfl | rfl | rfl
   ·rw [pts_int];lia
   ·exact h1
   ·exact h2
  refine Nat.le_trans this ?_
  show 3 * (198422+2)+2≤16777216
  decide
def ky (n:Nat) (P Q:List (List Pt)):Key:=.inr (strV (kyD n P Q))
structure Base (m:Nat) (P0 Q0:List (List Pt)):Prop where
 m12:m≤12
 p:∀ ps∈P0,PW ps∧ps.length=m
 q:∀ ps∈Q0,PW ps∧ps.length=m
 lp:P0.length≤7
 lq:Q0.length≤8
theorem Base.inj {m n n':Nat}{P0 Q0 P Q P' Q':List (List Pt)} (b:Base m P0 Q0) (h1:P.Sublist P0) (h2:Q.Sublist Q0) (h3:P'.Sublist P0) (h4:Q'.Sublist Q0) (hn:n<14) (hn':n' < 14) (h:ky n P Q=ky n' P' Q'):n=n'∧P=P'∧Q=Q':=
 ky_inj hn hn' (fun ps hp=>(b.p ps (h1.subset hp)).1) (fun ps hp=>(b.q ps (h2.subset hp)).1) (fun ps hp=>(b.p ps (h3.subset hp)).1) (fun ps hp=>(b.q ps (h4.subset hp)).1) (Sum.inr.inj h)
def subs {α:Type}:List α→List (List α)
 | []=>[[]]
 | x::l=>subs l++(subs l).map (x :: ·)
theorem subs_len {α:Type}:∀ l:List α,(subs l).length=2 ^ l.length
 | []=>rfl
 | x::l=>by
  show (subs l++(subs l).map (x :: ·)).length=2 ^ (l.length+1)
  rw [List.length_append,List.length_map,subs_len l,Nat.pow_succ]
  lia
theorem subs_mem {α:Type}{a l:List α} (h:a.Sublist l):a∈subs l:=by
 induction h with
 | slnil=>exact List.mem_singleton.mpr rfl
 | cons x _ ih=>exact List.mem_append_left _ ih
 | cons_cons x _ ih=>exact List.mem_append_right _ (List.mem_map.mpr ⟨_,ih,rfl⟩)
def allKeys (P0 Q0:List (List Pt)):List Key:=(List.range 13).flatMap fun n=>(subs P0).flatMap fun P=>(subs Q0).map fun Q=>ky n P Q
theorem flat_len {α β:Type}{c:Nat}{f:α→List β}:∀ {l:List α},(∀ x∈l,(f x).length≤c)→(l.flatMap f).length≤l.length * c
 | [],_=>by simp
 | x::l,h=>by
  have ih:=flat_len (l:=l) fun y hy=>h y (List.mem_cons_of_mem _ hy)
  have:=h x (List.mem_cons_self ..)
  rw [List.flatMap_cons,List.length_append,List.length_cons,Nat.succ_mul]
  lia
theorem allKeys_len {m:Nat}{P0 Q0:List (List Pt)} (b:Base m P0 Q0):(allKeys P0 Q0).length≤13 * (2 ^ 7 * 2 ^ 8):=by
 refine flat_len (l:=List.range 13) fun n _=>?_
 refine Nat.le_trans (flat_len (c:=2 ^ 8) (l:=subs P0) fun P _=>?_) (Nat.mul_le_mul_right _ ?_)
 ·rw [List.length_map,subs_len]
  exact Nat.pow_le_pow_right (by decide) b.lq
 ·rw [subs_len]
  exact Nat.pow_le_pow_right (by decide) b.lp
structure KnK (P0 Q0:List (List Pt)) (kvs:List (Key×V)):Prop where
 nd:(kvs.map (·.1)).Nodup
 of:∀ k∈kvs.map (·.1),∃ n P Q,n<13∧P.Sublist P0∧Q.Sublist Q0∧k=ky n P Q
theorem nodup_leK:∀ {l m:List Key},l.Nodup→(∀ x∈l,x∈m)→l.length≤m.length
 | [],_,_,_=>Nat.zero_le _
 | x::r,m,hn,h=>by
  have hx:=h x (List.mem_cons_self ..)
  rw [List.nodup_cons] at hn
  have:=nodup_leK (l:=r) (m:=m.filter fun y=>decide (y≠x)) hn.2 fun y hy=>List.mem_filter.mpr ⟨h y (List.mem_cons_of_mem _ hy),decide_eq_true fun e=>hn.1 (e ▸ hy)⟩
  have lt:(m.filter fun y=>decide (y≠x)).length<m.length:=List.length_filter_lt_length_iff_exists.mpr ⟨x,hx,by simp⟩
  simp only [List.length_cons]
  lia
theorem KnK.len {m:Nat}{P0 Q0:List (List Pt)}{kvs:List (Key×V)} (k:KnK P0 Q0 kvs) (b:Base m P0 Q0):kvs.length≤425984:=by
 have:=nodup_leK k.nd fun x hx=>by
  obtain ⟨n,P,Q,h1,h2,h3,rfl⟩:=k.of x hx
  exact List.mem_flatMap.mpr ⟨n,List.mem_range.mpr h1,List.mem_flatMap.mpr ⟨P,subs_mem h2,List.mem_map.mpr ⟨Q,subs_mem h3,rfl⟩⟩⟩
 rw [List.length_map] at this
 exact Nat.le_trans this (Nat.le_trans (allKeys_len b) (by decide))
theorem put_keys (kvs:List (Key×V)) (k:Key) (v:V):((putK kvs k v).map (·.1)=kvs.map (·.1))∨(k∉kvs.map (·.1)∧(putK kvs k v).map (·.1)=kvs.map (·.1)++[k]):=by
 unfold putK
 by_cases h:(kvs.any fun kv=>decide (kv.1=k))=true
 ·rw [if_pos h,List.map_map]
  refine .inl (List.map_congr_left fun kv _=>?_)
  show (if kv.1=k then (kv.1,v) else kv).1=kv.1
  split <;> rfl
 ·rw [if_neg h,List.map_append]
  refine .inr ⟨fun z=>h ?_,rfl⟩
  obtain ⟨kv,h1,h2⟩:=List.mem_map.mp z
  exact List.any_eq_true.mpr ⟨kv,h1,decide_eq_true h2⟩
theorem KnK.put {P0 Q0:List (List Pt)}{kvs:List (Key×V)}{n:Nat}{P Q:List (List Pt)} (h:KnK P0 Q0 kvs) (hn:n<13) (h1:P.Sublist P0) (h2:Q.Sublist Q0) (v:V):KnK P0 Q0 (putK kvs (ky n P Q) v):=by
 rcases put_keys kvs (ky n P Q) v with e | ⟨q,e⟩
 ·exact ⟨by rw [e];exact h.nd,by rw [e];exact h.of⟩
 ·refine ⟨?_,fun k hk=>?_⟩
  ·rw [e]
   exact List.nodup_append.mpr ⟨h.nd,by simp,fun a ha b hb e=>q (by rw [List.mem_singleton.mp hb] at e;rw [← e];exact ha)⟩
  ·rw [e] at hk
   rcases List.mem_append.mp hk with z | z
   ·exact h.of k z
   ·exact ⟨n,P,Q,hn,h1,h2,List.mem_singleton.mp z⟩
theorem KnK.nil (P0 Q0:List (List Pt)):KnK P0 Q0 []:=⟨List.nodup_nil,fun k hk=>by cases hk⟩
def ResV (K:PySem.W.Frag) (H:Hp) (v:V):Option (List Str)→Prop
 | none=>v = .non
 | some ws=>∃ c,v = .ref c∧SqL K H c (ws.map V.str)
theorem ResV.same {K:PySem.W.Frag}{H H':Hp}{v:V}{o:Option (List Str)} (h:ResV K H v o) (s:Same H H'):ResV K H' v o:=by
 cases o with
 | none=>exact h
 | some ws=>
  obtain ⟨c,e,q⟩:=h
  exact ⟨c,e,s.seq q⟩
def KnOk (K:PySem.W.Frag) (H:Hp) (m:Nat) (P0 Q0:List (List Pt)) (at0:Nat) (kvs:List (Key×V)):Prop:=
 ∀ (n:Nat) (P Q:List (List Pt)) (v:V),at0≤n→n<13→P.Sublist P0→Q.Sublist Q0→valV kvs (ky n P Q)=some v→∃ o,So (m - n) (dr n P) (dr n Q) o∧ResV K H v o
def KnKeep (P0 Q0:List (List Pt)) (at0:Nat) (kvs kvs':List (Key×V)):Prop:=∀ k,(∀ (n:Nat) (P Q:List (List Pt)),at0≤n→n<13→P.Sublist P0→Q.Sublist Q0→k≠ky n P Q)→valV kvs' k=valV kvs k
theorem KnOk.same {K:PySem.W.Frag}{H H':Hp}{m:Nat}{P0 Q0:List (List Pt)}{at0:Nat}{kvs:List (Key×V)} (h:KnOk K H m P0 Q0 at0 kvs) (s:Same H H'):KnOk K H' m P0 Q0 at0 kvs:=fun n P Q v h1 h2 h3 h4 h5=>by
 obtain ⟨o,h6,h7⟩:=h n P Q v h1 h2 h3 h4 h5
 exact ⟨o,h6,h7.same s⟩
theorem KnOk.up {K:PySem.W.Frag}{H:Hp}{m:Nat}{P0 Q0:List (List Pt)}{at0 at1:Nat}{kvs:List (Key×V)} (h:KnOk K H m P0 Q0 at0 kvs) (hl:at0≤at1):KnOk K H m P0 Q0 at1 kvs:=fun n P Q v h1=>h n P Q v (Nat.le_trans hl h1)
theorem KnOk.put {K:PySem.W.Frag}{H:Hp}{m:Nat}{P0 Q0 P Q:List (List Pt)}{at0:Nat}{kvs:List (Key×V)}{v:V} (b:Base m P0 Q0) (h:KnOk K H m P0 Q0 (at0+1) kvs) (hn:at0<13) (h1:P.Sublist P0) (h2:Q.Sublist Q0):KnOk K H m P0 Q0 (at0+1) (putK kvs (ky at0 P Q) v):=fun n P' Q' v' g1 g2 g3 g4 g5=>by
 rw [valV_put,if_neg (fun e=>by have:=(b.inj g3 g4 h1 h2 (by lia) (by lia) e).1;lia)] at g5
 exact h n P' Q' v' g1 g2 g3 g4 g5
theorem sub_at {n:Nat}{w:Str}{P P0:List (List Pt)} (h:P.Sublist P0):(at_ n w P).Sublist P0:=List.Sublist.trans (List.filter_sublist) h
end LG
namespace LG
open PySem L2
section
variable {K:PySem.W.Frag}
def ptV:Pt→List V
 | .word w=>[.str "word",.str w]
 | .hole k=>[.str "hole",.str (kindS k)]
def PtAt (H:Hp) (v:V) (p:Pt):Prop:=∃ t,v = .ref t∧H t=some (.tup (ptV p))
def NL (o:HO):Prop:=∀ xs,o ≠ .lst xs
def tO (H:Hp):Hp:=fun a=>match H a with
 | some (.lst _)=>none
 | o=>o
theorem tO_some {H:Hp}{a:Addr}{o:HO} (h:tO H a=some o):NL o∧H a=some o:=by
 unfold tO at h
 split at h
 ·cases h
 ·rename_i n
  exact ⟨fun xs e=>n xs (by rw [h,e]),h⟩
theorem tO_at {H:Hp}{a:Addr}{o:HO} (h:H a=some o) (n:NL o):tO H a=some o:=by
 unfold tO
 split
 ·rename_i xs e
  rw [h] at e
  cases e
  exact (n xs rfl).elim
 ·exact h
theorem tO_same {H:Hp}:Same (tO H) H:=fun a o h=>(tO_some h).2
theorem tO_keep {H H':Hp} (k:∀ a o,NL o→H a=some o→H' a=some o):Same (tO H) (tO H'):=fun a o h=>by
 obtain ⟨n,e⟩:=tO_some h
 exact tO_at (k a o n e) n
theorem nl_tup {xs:List V}:NL (.tup xs):=fun ys e=>by cases e
theorem nl_frz {o:Obj}{u:HO}:NL (.frz o u):=fun ys e=>by cases e
inductive PL (K:PySem.W.Frag) (H:Hp):List Addr→List (List Pt)→Prop
 | nil:PL K H [] []
 | cons {a:Addr}{ys:List V}{as:List Addr}{ps:List Pt}{pss:List (List Pt)} (h1:H a=some (.lst ys)) (h2:Dens K (tO H) ys (ps.map Pt.dat)) (h3:a∉as) (t:PL K H as pss):PL K H (a::as) (ps::pss)
theorem PL.len {H:Hp}{as:List Addr}{pss:List (List Pt)} (h:PL K H as pss):as.length=pss.length:=by
 induction h with
 | nil=>rfl
 | cons _ _ _ _ ih=>rw [List.length_cons,List.length_cons,ih]
theorem PL.mem {H:Hp}{as:List Addr}{pss:List (List Pt)} (h:PL K H as pss):∀ a∈as,∃ ys,H a=some (.lst ys):=by
 induction h with
 | nil=>intro a ha;cases ha
 | cons h1 h2 h3 t ih=>
  intro a ha
  rcases List.mem_cons.mp ha with e | ha
  ·subst e;exact ⟨_,h1⟩
  ·exact ih a ha
theorem PL.keep {H H':Hp}{as:List Addr}{pss:List (List Pt)} (h:PL K H as pss) (k:∀ a∈as,H' a=H a) (s:Same (tO H) (tO H')):PL K H' as pss:=by
 induction h with
 | nil=>exact .nil
 | cons h1 h2 h3 t ih=>exact .cons ((k _ (.head _)).trans h1) (h2.same s) h3 (ih fun a ha=>k a (.tail _ ha))
theorem PL.snoc {H:Hp}{as:List Addr}{pss:List (List Pt)}{a:Addr}{ys:List V}{ps:List Pt} (h:PL K H as pss) (h1:H a=some (.lst ys)) (h2:Dens K (tO H) ys (ps.map Pt.dat)) (h3:a∉as):PL K H (as++[a]) (pss++[ps]):=by
 induction h with
 | nil=>exact .cons h1 h2 (by simp) .nil
 | cons g1 g2 g3 t ih=>
  rw [List.mem_cons,not_or] at h3
  refine .cons g1 g2 (fun z=>?_) (ih h3.2)
  rcases List.mem_append.mp z with z | z
  ·exact g3 z
  ·exact h3.1 (List.mem_singleton.mp z).symm
theorem PL.dens {H:Hp}{as:List Addr}{pss:List (List Pt)} (h:PL K H as pss):Dens K H (as.map V.ref) (pss.map patD):=by
 induction h with
 | nil=>exact .nil
 | cons h1 h2 h3 t ih=>exact .cons (.lst (.of h1) (h2.same tO_same)) ih
theorem PL.at {H:Hp}{as:List Addr}{pss:List (List Pt)} (h:PL K H as pss):∀ {i:Nat}{a:Addr},as[i]? = some a→∃ ys ps,H a=some (.lst ys)∧pss[i]? = some ps∧Dens K (tO H) ys (ps.map Pt.dat):=by
 induction h with
 | nil=>intro i a e;cases e
 | cons h1 h2 h3 t ih=>
  intro i a e
  cases i with
  | zero=>cases e;exact ⟨_,_,h1,rfl,h2⟩
  | succ i=>exact ih e
theorem densS {H:Hp}{v:V}{d:PyData}:∀ {xs:List V}{ds:List PyData} (i:Nat),Dens K H xs ds→Den K H v d→Dens K H (xs.set i v) (ds.set i d)
 | _,_,_,.nil,_=>.nil
 | _,_,0,.cons _ t,h=>.cons h t
 | _,_,i+1,.cons r t,h=>.cons r (densS i t h)
theorem PL.put {H:Hp}{as:List Addr}{pss:List (List Pt)}{a:Addr}{ys:List V}{v:V}{p:Pt} (h:PL K H as pss):∀ {i:Nat}{ps:List Pt} (j:Nat),as[i]? = some a→pss[i]? = some ps→H a=some (.lst ys)→Den K (tO H) v p.dat→PL K (upd H a (.lst (ys.set j v))) as (pss.set i (ps.set j p)):=by
 induction h with
 | nil=>intro i ps j e;cases e
 | @cons b zs as qs pss h1 h2 h3 t ih=>
  intro i ps j e e2 ha hv
  have st:Same (tO H) (tO (upd H a (.lst (ys.set j v)))):=tO_keep fun c o n hc=>by
   have:c≠a:=fun z=>by rw [z,ha] at hc;cases hc;exact n _ rfl
   rw [upd_ne this];exact hc
  cases i with
  | zero=>
   cases e;cases e2
   rw [h1] at ha
   cases ha
   refine .cons upd_same ?_ h3 (t.keep (fun c hc=>upd_ne fun (z:c=a)=>h3 (z ▸ hc)) st)
   rw [List.map_set]
   exact (densS j h2 hv).same st
  | succ i=>
   have hb:b≠a:=fun z=>h3 (by rw [z];exact List.mem_of_getElem? e)
   exact .cons (by rw [upd_ne hb];exact h1) (h2.same st) h3 (ih j e e2 ha hv)
theorem PtAt.same {H H':Hp}{v:V}{p:Pt} (h:PtAt H v p) (s:Same (tO H) (tO H')):PtAt H' v p:=by
 obtain ⟨t,e,h⟩:=h
 exact ⟨t,e,tO_same _ _ (s _ _ (tO_at h nl_tup))⟩
theorem PtAt.den {H:Hp}{v:V}{p:Pt} (h:PtAt H v p) (ok:PtW p):Den K (tO H) v p.dat:=by
 obtain ⟨t,rfl,h⟩:=h
 cases p with
 | word w=>exact .tup (.of (tO_at h nl_tup)) (.cons (.str (by decide +kernel)) (.cons (.str ok.2.2) .nil))
 | hole k=>exact .tup (.of (tO_at h nl_tup)) (.cons (.str (by decide +kernel)) (.cons (.str kindS_ok) .nil))
theorem tO_pick {H H':Hp}{d:Addr}{n:Nat} (dk:Dk H d n) (s:Same (wo d H) H'):Same (tO H) (tO H'):=tO_keep fun a o n h=>by
 obtain ⟨ys,hd⟩:=dk.lst
 have:a≠d:=fun z=>by rw [z,hd] at h;cases h;exact n _ rfl
 exact s a _ (by rw [wo_at this];exact h)
theorem tO_up {H H':Hp} (s:Same H H'):Same (tO H) (tO H'):=tO_keep fun a o _ h=>s a _ h
theorem tO_upd {H:Hp}{a:Addr}{xs ys:List V} (h:H a=some (.lst xs)):Same (tO H) (tO (upd H a (.lst ys))):=tO_keep fun c o n hc=>by
 have:c≠a:=fun z=>by rw [z,h] at hc;cases hc;exact n _ rfl
 rw [upd_ne this];exact hc
theorem PL.pick {H H':Hp}{d:Addr}{n:Nat}{as:List Addr}{pss:List (List Pt)} (h:PL K H as pss) (dk:Dk H d n) (hd:d∉as) (s:Same (wo d H) H'):PL K H' as pss:=h.keep (fun a ha=>by
 obtain ⟨ys,e⟩:=h.mem a ha
 have:a≠d:=fun z=>hd (z ▸ ha)
 rw [e]
 exact s a _ (by rw [wo_at this];exact e)) (tO_pick dk s)
theorem PL.up {H H':Hp}{as:List Addr}{pss:List (List Pt)} (h:PL K H as pss) (s:Same H H'):PL K H' as pss:=h.keep (fun a ha=>by
 obtain ⟨ys,e⟩:=h.mem a ha
 rw [e]
 exact s a _ e) (tO_up s)
theorem PL.updF {H:Hp}{F:Addr}{xs ys:List V}{as:List Addr}{pss:List (List Pt)} (h:PL K H as pss) (hF:H F=some (.lst xs)) (hn:F∉as):PL K (upd H F (.lst ys)) as pss:=h.keep (fun a ha=>upd_ne fun (z:a=F)=>hn (z ▸ ha)) (tO_upd hF)
theorem den_tO {H:Hp}{v:V}{p:Pt} (h:Den K H v p.dat):Den K (tO H) v p.dat:=by
 have allS:∀ {xs:List V}{ss:List Str},Dens K H xs (ss.map PyData.str)→Dens K (tO H) xs (ss.map PyData.str):=fun {xs ss}=>by
  induction ss generalizing xs with
  | nil=>intro h;cases h;exact .nil
  | cons s ss ih=>
   intro h
   cases h with
   | cons a t=>
    cases a with
    | str ok=>exact .cons (.str ok) (ih t)
 have two:∀ {xs:List V}{a b:Str},Dens K H xs [.str a,.str b]→Dens K (tO H) xs [.str a,.str b]:=fun {xs a b} h=>allS (ss:=[a,b]) h
 cases p with
 | word w=>
  cases h with
  | tup hq t=>
   refine .tup ?_ (two t)
   rcases hq with (hq | ⟨o,hq⟩) | hq
   ·exact .inl (.inl (tO_at hq nl_tup))
   ·exact .inl (.inr ⟨o,tO_at hq nl_frz⟩)
   ·exact .inr hq
 | hole k=>
  cases h with
  | tup hq t=>
   refine .tup ?_ (two t)
   rcases hq with (hq | ⟨o,hq⟩) | hq
   ·exact .inl (.inl (tO_at hq nl_tup))
   ·exact .inl (.inr ⟨o,tO_at hq nl_frz⟩)
   ·exact .inr hq
theorem dens_tO {H:Hp}:∀ {ps:List Pt}{xs:List V},Dens K H xs (ps.map Pt.dat)→Dens K (tO H) xs (ps.map Pt.dat)
 | [],_,h=>by cases h;exact .nil
 | p::ps,_,h=>by
  cases h with
  | cons a t=>exact .cons (den_tO a) (dens_tO t)
theorem psok_set {pss:List (List Pt)}{ps:List Pt}{i j:Nat}{p:Pt} (h:PsOk pss) (e:pss[i]? = some ps) (hp:PtW p):PsOk (pss.set i (ps.set j p)):=fun q hq=>by
 have hps:=h ps (List.mem_of_getElem? e)
 rcases List.mem_or_eq_of_mem_set hq with z | z
 ·exact h q z
 ·rw [z]
  refine ⟨fun r hr=>?_,fun z=>hps.2.1 ?_,by rw [List.length_set];exact hps.2.2⟩
  ·rcases List.mem_or_eq_of_mem_set hr with y | y
   ·exact hps.1 r y
   ·rw [y];exact hp
  ·have:=congrArg List.length z
   rw [List.length_set] at this
   exact List.length_eq_zero_iff.mp this
theorem psok_snoc {pss:List (List Pt)}{ps:List Pt} (h:PsOk pss) (h1:PW ps) (h2:ps≠[]) (h3:ps.length≤12):PsOk (pss++[ps]):=fun q hq=>by
 rcases List.mem_append.mp hq with z | z
 ·exact h q z
 ·rw [List.mem_singleton.mp z];exact ⟨h1,h2,h3⟩
theorem drawn_pw {ws:List Str}{ps:List Pt} (hw:∀ w∈ws,WOk w) (h:DrawnAll ws ps):PW ps:=fun p hp=>by
 obtain ⟨i,hi⟩:=List.getElem?_of_mem hp
 have hl:=ge_len hi
 obtain ⟨w,e⟩:=at_of (l:=ws) (i:=i) (by rw [← h.1];exact hl)
 have hwo:=hw w (List.mem_of_getElem? e)
 rcases h.2 i w p e hi with rfl | ⟨rfl,hk⟩ | rfl
 ·exact ⟨hwo.word,Nat.le_trans hwo.len (by decide),hwo.ok⟩
 ·show lawKindL w.cps.toList<3
  lia
 ·exact (by decide:2<3)
theorem at_lastV {xs:List V}{v:V}:atI (xs++[v]) (-1)=some v:=by
 unfold atI
 have e:ixN (xs++[v]).length (-1)=some xs.length:=by
  unfold ixN
  rw [if_neg (by decide),if_pos (by rw [List.length_append,List.length_singleton];lia)]
  congr 1
  rw [List.length_append,List.length_singleton]
  lia
 rw [e]
 show (xs++[v])[xs.length]? = some v
 simp
theorem at_hk {r:Int} (h0:0≤r) (h1:r<3):∃ k:Nat,k<3∧atI [V.str "number",V.str "name",V.str "any"] r=some (.str (kindS k)):=by
 have:r=0∨r=1∨r=2:=by lia
 rcases this with rfl | rfl | rfl
 ·exact ⟨0,by decide,rfl⟩
 ·exact ⟨1,by decide,rfl⟩
 ·exact ⟨2,by decide,rfl⟩
end
end LG
namespace K10
open PySem L2 LG
def top (i:Nat):Stmt:=PySem.Challenge.pw_loggather_k10_whole_parting_lines.main.body.getD i (.Pass ⟨0,0,0,0⟩)
set_option genSizeOf false in
set_option genInjectivity false in
structure Ad where
 f_has_only:Addr
 d_has_only:FuncData
 f_is_word:Addr
 d_is_word:FuncData
 f_kind_of:Addr
 d_kind_of:FuncData
 f_words_of:Addr
 d_words_of:FuncData
 f_word_key:Addr
 d_word_key:FuncData
 f_line_key:Addr
 d_line_key:FuncData
 f_is_hole:Addr
 d_is_hole:FuncData
 f_part_takes:Addr
 d_part_takes:FuncData
 f_is_part_within:Addr
 d_is_part_within:FuncData
 f_is_within:Addr
 d_is_within:FuncData
 f_least_word_but:Addr
 d_least_word_but:FuncData
 f_is_needless:Addr
 d_is_needless:FuncData
 f_words_to_try:Addr
 d_words_to_try:FuncData
 f_behind:Addr
 d_behind:FuncData
 f_first_word_past:Addr
 d_first_word_past:FuncData
 f_least_line_past:Addr
 d_least_line_past:FuncData
 f_lines_past:Addr
 d_lines_past:FuncData
 f_parting_line:Addr
 d_parting_line:FuncData
 f__law_deck:Addr
 d__law_deck:FuncData
 f__law_pick:Addr
 d__law_pick:FuncData
 f__law_kind:Addr
 d__law_kind:FuncData
 f__law_fits_part:Addr
 d__law_fits_part:FuncData
 f__law_fits:Addr
 d__law_fits:FuncData
 f__law_word:Addr
 d__law_word:FuncData
 f__law_line:Addr
 d__law_line:FuncData
 f__law_lines:Addr
 d__law_lines:FuncData
 f__law_pattern:Addr
 d__law_pattern:FuncData
 f__law_patterns:Addr
 d__law_patterns:FuncData
 f__law_words:Addr
 d__law_words:FuncData
 f__law_sought:Addr
 d__law_sought:FuncData
 f__law_due:Addr
 d__law_due:FuncData
 f__law_is_of:Addr
 d__law_is_of:FuncData
 f__law_right:Addr
 d__law_right:FuncData
 f_law:Addr
 d_law:FuncData
structure Tx (K:PySem.W.Frag) (mg:Str→Option Value) (A:Ad):Prop where
 n_all:mg "all" = none
 n_any:mg "any" = none
 n_int:mg "int" = none
 n_isinstance:mg "isinstance" = none
 n_len:mg "len" = none
 n_list:mg "list" = none
 n_min:mg "min" = none
 n_range:mg "range" = none
 n_set:mg "set" = none
 n_sorted:mg "sorted" = none
 n_str:mg "str" = none
 n_zip:mg "zip" = none
 g_FIGURES:∃ t,mg "FIGURES" = some (.str FIGS t)
 g_SMALL_LETTERS:∃ t,mg "SMALL_LETTERS" = some (.str LOWS t)
 g_WORD_SIGNS:∃ t,mg "WORD_SIGNS" = some (.str SIGNS t)
 has_only:DefAt K mg "has_only" (top 4) ["text", "signs"] A.f_has_only A.d_has_only
 is_word:DefAt K mg "is_word" (top 5) ["thing"] A.f_is_word A.d_is_word
 kind_of:DefAt K mg "kind_of" (top 6) ["word"] A.f_kind_of A.d_kind_of
 words_of:DefAt K mg "words_of" (top 7) ["line"] A.f_words_of A.d_words_of
 word_key:DefAt K mg "word_key" (top 8) ["word"] A.f_word_key A.d_word_key
 line_key:DefAt K mg "line_key" (top 9) ["line"] A.f_line_key A.d_line_key
 is_hole:DefAt K mg "is_hole" (top 11) ["part"] A.f_is_hole A.d_is_hole
 part_takes:DefAt K mg "part_takes" (top 12) ["part", "word"] A.f_part_takes A.d_part_takes
 is_part_within:DefAt K mg "is_part_within" (top 13) ["one", "other"] A.f_is_part_within A.d_is_part_within
 is_within:DefAt K mg "is_within" (top 14) ["one", "other"] A.f_is_within A.d_is_within
 least_word_but:DefAt K mg "least_word_but" (top 16) ["kind", "words"] A.f_least_word_but A.d_least_word_but
 is_needless:DefAt K mg "is_needless" (top 17) ["pattern", "others"] A.f_is_needless A.d_is_needless
 words_to_try:DefAt K mg "words_to_try" (top 18) ["part", "beside"] A.f_words_to_try A.d_words_to_try
 behind:DefAt K mg "behind" (top 19) ["patterns", "word"] A.f_behind A.d_behind
 first_word_past:DefAt K mg "first_word_past" (top 20) ["pattern", "others"] A.f_first_word_past A.d_first_word_past
 least_line_past:DefAt K mg "least_line_past" (top 21) ["pattern", "others"] A.f_least_line_past A.d_least_line_past
 lines_past:DefAt K mg "lines_past" (top 22) ["patterns", "others"] A.f_lines_past A.d_lines_past
 parting_line:DefAt K mg "parting_line" (top 23) ["one", "other"] A.f_parting_line A.d_parting_line
 _law_deck:DefAt K mg "_law_deck" (top 25) ["cell", "turn"] A.f__law_deck A.d__law_deck
 _law_pick:DefAt K mg "_law_pick" (top 26) ["deck", "many"] A.f__law_pick A.d__law_pick
 _law_kind:DefAt K mg "_law_kind" (top 27) ["word"] A.f__law_kind A.d__law_kind
 _law_fits_part:DefAt K mg "_law_fits_part" (top 28) ["part", "word"] A.f__law_fits_part A.d__law_fits_part
 _law_fits:DefAt K mg "_law_fits" (top 29) ["pattern", "line"] A.f__law_fits A.d__law_fits
 _law_word:DefAt K mg "_law_word" (top 30) ["deck"] A.f__law_word A.d__law_word
 _law_line:DefAt K mg "_law_line" (top 31) ["deck", "most"] A.f__law_line A.d__law_line
 _law_lines:DefAt K mg "_law_lines" (top 32) ["deck", "most"] A.f__law_lines A.d__law_lines
 _law_pattern:DefAt K mg "_law_pattern" (top 33) ["deck", "line"] A.f__law_pattern A.d__law_pattern
 _law_patterns:DefAt K mg "_law_patterns" (top 34) ["deck"] A.f__law_patterns A.d__law_patterns
 _law_words:DefAt K mg "_law_words" (top 35) ["patterns", "at"] A.f__law_words A.d__law_words
 _law_sought:DefAt K mg "_law_sought" (top 36) ["ones", "others", "at", "many", "known"] A.f__law_sought A.d__law_sought
 _law_due:DefAt K mg "_law_due" (top 37) ["one", "other"] A.f__law_due A.d__law_due
 _law_is_of:DefAt K mg "_law_is_of" (top 38) ["patterns", "line"] A.f__law_is_of A.d__law_is_of
 _law_right:DefAt K mg "_law_right" (top 39) ["deck", "one", "other"] A.f__law_right A.d__law_right
section
variable {P:Program}{w:World}{K:PySem.W.Frag}{mg:Str→Option Value}{base:Heap}{A:Ad}
theorem sc_has_only:FnScope ["text", "signs"] ["text", "signs"] (defScope (top 4)):=⟨rfl,rfl,rfl,by decide +kernel,rfl,by decide +kernel,by decide +kernel⟩
set_option maxHeartbeats 8000000 in
theorem ok_has_only (T:Tx K mg A):FnOk P w K mg base CX0 1 A.f_has_only A.d_has_only ["text", "signs"] (sp_has_only K):=by
 refine T.has_only.fn.ok sc_has_only (fun vs H Q E h=>?_) (fun cdv Ar outer s H vs Q E hr h=>?_)
 ·obtain ⟨z,y,rfl,_⟩:=h;rfl
 ·obtain ⟨z,y,rfl,hz,k⟩:=h
  refine ⟨_,pss_one (ps_ret (pe_and (pe_cmpR (op_ne) (pv 0) (pe_str) (nomark _)) (pe_one (pe_cmpR (op_eq) (pe_bm PySem.F.plainAttrs_str PySem.F.slot_str_strip PySem.F.type_str_strip mt_stripC (pv 0) (pa_cons (pv 1) (pa_nil))) (pe_str) (nomark _))))),?_⟩
  refine ⟨_,rfl,rfl,_,rfl,?_⟩
  have e:=only_eq z y
  by_cases hn:z.cps.toList.isEmpty=true
  ·have e1:(!decide (V.str z=V.str ""))=false:=by rw [dec_nil,hn];rfl
   rw [e1,Bool.false_and] at e
   rw [e1,if_neg Bool.false_ne_true,e]
   exact k
  ·have e1:(!decide (V.str z=V.str ""))=true:=by rw [dec_nil,Bool.eq_false_iff.mpr hn];rfl
   rw [e1,Bool.true_and] at e
   rw [e1,if_pos rfl]
   refine ⟨_,rfl,rfl,_,rfl,z,y,rfl,rfl,hz.s,rfl,?_⟩
   rw [e]
   exact k
theorem sc_is_word:FnScope ["thing"] ["thing"] (defScope (top 5)):=⟨rfl,rfl,rfl,by decide +kernel,rfl,by decide +kernel,by decide +kernel⟩
set_option maxHeartbeats 8000000 in
theorem ok_is_word (T:Tx K mg A):FnOk P w K mg base CX0 2 A.f_is_word A.d_is_word ["thing"] (sp_is_word K):=by
 have G_has_only:FnOk P w K mg base CX0 1 A.f_has_only A.d_has_only ["text", "signs"] (sp_has_only K):=(ok_has_only T).mono (by decide)
 refine T.is_word.fn.ok sc_is_word (fun vs H Q E h=>?_) (fun cdv Ar outer s H vs Q E hr h=>?_)
 ·obtain ⟨z,rfl,_⟩:=h;rfl
 ·obtain ⟨z,rfl,hz,k⟩:=h
  refine ⟨_,pss_one (ps_ret (pe_and (pe_callB (r:=rIsi K) call_isi (by rfl) T.n_isinstance bt_isinstance (pa_cons (pv 0) (pa_cons (pe_bltn (v:=.ty "str") (by rfl) T.n_str bt_str rfl) (pa_nil)))) (pe_one (pe_call G_has_only hr (by rfl) T.has_only.mg T.has_only.fn.kp T.has_only.bd .nil pass0 (pa_cons (pv 0) (pa_cons (pe_glob (v:=.str SIGNS) (by rfl) (Exists.choose_spec T.g_WORD_SIGNS) ⟨_,rfl⟩) (pa_nil))))))),?_⟩
  refine ⟨_,rfl,_, "str",_,true,rfl,.str z,by rfl,_,rfl,iteT ?_⟩
  refine ⟨_,rfl,z,SIGNS,rfl,hz,?_⟩
  rw [has_signs]
  exact k
theorem sc_kind_of:FnScope ["word"] ["word"] (defScope (top 6)):=⟨rfl,rfl,rfl,by decide +kernel,rfl,by decide +kernel,by decide +kernel⟩
set_option maxHeartbeats 8000000 in
theorem ok_kind_of (T:Tx K mg A):FnOk P w K mg base CX0 2 A.f_kind_of A.d_kind_of ["word"] (sp_kind_of K):=by
 have G_has_only:FnOk P w K mg base CX0 1 A.f_has_only A.d_has_only ["text", "signs"] (sp_has_only K):=(ok_has_only T).mono (by decide)
 refine T.kind_of.fn.ok sc_kind_of (fun vs H Q E h=>?_) (fun cdv Ar outer s H vs Q E hr h=>?_)
 ·obtain ⟨z,rfl,_⟩:=h;rfl
 ·obtain ⟨z,rfl,hz,k⟩:=h
  refine ⟨_,pss_cons (ps_if (pt_val (pe_call G_has_only hr (by rfl) T.has_only.mg T.has_only.fn.kp T.has_only.bd .nil pass0 (pa_cons (pe_bm PySem.F.plainAttrs_str PySem.F.slot_str_removeprefix PySem.F.type_str_removeprefix mt_rmpre (pv 0) (pa_cons (pe_str) (pa_nil))) (pa_cons (pe_glob (v:=.str FIGS) (by rfl) (Exists.choose_spec T.g_FIGURES) ⟨_,rfl⟩) (pa_nil))))) (pss_one (ps_ret (pe_str))) (pss_nil))
   (pss_cons (ps_if (pt_val (pe_call G_has_only hr (by rfl) T.has_only.mg T.has_only.fn.kp T.has_only.bd .nil pass0 (pa_cons (pv 0) (pa_cons (pe_glob (v:=.str LOWS) (by rfl) (Exists.choose_spec T.g_SMALL_LETTERS) ⟨_,rfl⟩) (pa_nil))))) (pss_one (ps_ret (pe_str))) (pss_nil))
   (pss_one (ps_ret (pe_str)))),?_⟩
  refine ⟨_,rfl,rfl,z, "-",rfl,rfl,hz.s,_,FIGS,rfl,Nat.le_trans (minus_len z) hz,_,rfl,?_⟩
  rw [has_figs,minus_eq]
  have e:kindT z=if onlyB dig (unminus z.cps.toList)=true then 0 else if onlyB low z.cps.toList=true then 1 else 2:=rfl
  rw [e] at k
  by_cases h1:onlyB dig (unminus z.cps.toList)=true
  ·rw [h1,if_pos rfl] at k
   rw [h1]
   exact iteT k
  ·rw [if_neg h1] at k
   rw [Bool.eq_false_iff.mpr h1]
   refine iteF ?_
   refine ⟨_,rfl,z,LOWS,rfl,hz,_,rfl,?_⟩
   rw [has_lows]
   by_cases h2:onlyB low z.cps.toList=true
   ·rw [if_pos h2] at k
    rw [h2]
    exact iteT k
   ·rw [if_neg h2] at k
    rw [Bool.eq_false_iff.mpr h2]
    exact iteF k
theorem sc_words_of:FnScope ["line"] ["line"] (defScope (top 7)):=⟨rfl,rfl,rfl,by decide +kernel,rfl,by decide +kernel,by decide +kernel⟩
set_option maxHeartbeats 8000000 in
theorem ok_words_of (T:Tx K mg A):FnOk P w K mg base CX0 1 A.f_words_of A.d_words_of ["line"] (sp_words_of K):=by
 refine T.words_of.fn.ok sc_words_of (fun vs H Q E h=>?_) (fun cdv Ar outer s H vs Q E hr h=>?_)
 ·obtain ⟨z,rfl,_⟩:=h;rfl
 ·obtain ⟨z,rfl,hz,k⟩:=h
  refine ⟨_,pss_one (ps_ret (pe_bm PySem.F.plainAttrs_str PySem.F.slot_str_split PySem.F.type_str_split mt_split (pv 0) (pa_cons (pe_str) (pa_nil)))),?_⟩
  exact ⟨_,rfl,rfl,z, " ",rfl,rfl,by decide +kernel,Nat.le_trans (Nat.add_le_add_right hz 2) (by decide),fun l hl=>k l hl⟩
theorem sc_is_hole:FnScope ["part"] ["part"] (defScope (top 11)):=⟨rfl,rfl,rfl,by decide +kernel,rfl,by decide +kernel,by decide +kernel⟩
set_option maxHeartbeats 8000000 in
theorem ok_is_hole (T:Tx K mg A):FnOk P w K mg base CX0 1 A.f_is_hole A.d_is_hole ["part"] (sp_is_hole K):=by
 refine T.is_hole.fn.ok sc_is_hole (fun vs H Q E h=>?_) (fun cdv Ar outer s H vs Q E hr h=>?_)
 ·obtain ⟨v,pt,rfl,_⟩:=h;rfl
 ·obtain ⟨v,pt,rfl,hd,k⟩:=h
  obtain ⟨a,x,y,rfl,hq,_,_,hx⟩:=den_pt hd
  refine ⟨_,pss_one (ps_ret (pe_cmpR (op_eq) (pe_ix (r:=rIxT K) ix_tup (pv 0) (pe_int) (fun _ _=>rfl)) (pe_str) (nomark _))),?_⟩
  refine ⟨_,rfl,a,_,0,_,rfl,rfl,hq,rfl,rfl,?_⟩
  cases pt with
  | word w=>
   obtain ⟨rfl,_⟩:=hx
   rw [decide_eq_false (by decide)]
   exact k
  | hole m=>
   obtain ⟨rfl,_⟩:=hx
   rw [decide_eq_true rfl]
   exact k
theorem sc_part_takes:FnScope ["part", "word"] ["part", "word"] (defScope (top 12)):=⟨rfl,rfl,rfl,by decide +kernel,rfl,by decide +kernel,by decide +kernel⟩
set_option maxHeartbeats 8000000 in
theorem ok_part_takes (T:Tx K mg A):FnOk P w K mg base CX0 3 A.f_part_takes A.d_part_takes ["part", "word"] (sp_part_takes K):=by
 have G_is_hole:FnOk P w K mg base CX0 2 A.f_is_hole A.d_is_hole ["part"] (sp_is_hole K):=(ok_is_hole T).mono (by decide)
 have G_is_word:FnOk P w K mg base CX0 2 A.f_is_word A.d_is_word ["thing"] (sp_is_word K):=(ok_is_word T).mono (by decide)
 have G_kind_of:FnOk P w K mg base CX0 2 A.f_kind_of A.d_kind_of ["word"] (sp_kind_of K):=(ok_kind_of T).mono (by decide)
 refine T.part_takes.fn.ok sc_part_takes (fun vs H Q E h=>?_) (fun cdv Ar outer s H vs Q E hr h=>?_)
 ·obtain ⟨v,x,p,rfl,_⟩:=h;rfl
 ·obtain ⟨v,x,p,rfl,hd,hok,hw,k⟩:=h
  obtain ⟨a,x1,y1,ev,hq,_,_,hx⟩:=den_pt hd
  refine ⟨_,pss_cons (ps_if (pt_not (pt_val (pe_call G_is_hole hr (by rfl) T.is_hole.mg T.is_hole.fn.kp T.is_hole.bd .nil pass0 (pa_cons (pv 0) (pa_nil))))) (pss_one (ps_ret (pe_cmpR (op_eq) (pv 1) (pe_ix (r:=rIxT K) ix_tup (pv 0) (pe_int) (fun _ _=>rfl)) (nomark _)))) (pss_nil))
   (pss_cons (ps_if (pt_cmpR (op_eq) (pe_ix (r:=rIxT K) ix_tup (pv 0) (pe_int) (fun _ _=>rfl)) (pe_str) (nomark _)) (pss_one (ps_ret (pe_call G_is_word hr (by rfl) T.is_word.mg T.is_word.fn.kp T.is_word.bd .nil pass0 (pa_cons (pv 1) (pa_nil))))) (pss_nil))
   (pss_one (ps_ret (pe_cmpR (op_eq) (pe_call G_kind_of hr (by rfl) T.kind_of.mg T.kind_of.fn.kp T.kind_of.bd .nil pass0 (pa_cons (pv 1) (pa_nil))) (pe_ix (r:=rIxT K) ix_tup (pv 0) (pe_int) (fun _ _=>rfl)) (nomark _))))),?_⟩
  refine ⟨_,rfl,v,p,rfl,hd,_,rfl,?_⟩
  subst ev
  cases p with
  | word y=>
   obtain ⟨rfl,rfl⟩:=hx
   refine iteT ⟨_,rfl,_,rfl,a,_,1,_,rfl,rfl,hq,rfl,rfl,?_⟩
   have e:decide (V.str x=V.str y1)=(Pt.word y1).takes x:=by
    rw [Bool.eq_iff_iff];simp [Pt.takes]
   rw [e]
   exact k
  | hole m=>
   obtain ⟨rfl,rfl⟩:=hx
   have hm:m<3:=hok
   refine iteF ?_
   refine ⟨_,rfl,a,_,1,_,rfl,rfl,hq,rfl,rfl,_,rfl,?_⟩
   rw [hole_any hm]
   by_cases h2:m=2
   ·rw [decide_eq_true h2]
    refine iteT ?_
    subst h2
    exact ⟨_,rfl,x,rfl,hw,k⟩
   ·rw [decide_eq_false h2]
    refine iteF ?_
    refine ⟨_,rfl,x,rfl,hw,_,rfl,a,_,1,_,rfl,rfl,hq,rfl,rfl,?_⟩
    have e:(Pt.hole m).takes x=decide (kindT x=m):=by
     have:m=0∨m=1:=by lia
     rcases this with rfl | rfl <;> rfl
    rw [kind_hole (k:=m) (by lia),← e]
    exact k
end
end K10
namespace K10
open PySem L2 LG
section
variable {P:Program}{w:World}{K:PySem.W.Frag}{mg:Str→Option Value}{base:Heap}{A:Ad}
theorem sc__law_deck:FnScope ["cell", "turn"] ["cell", "turn"] (defScope (top 25)):=⟨rfl,rfl,rfl,by decide +kernel,rfl,by decide +kernel,by decide +kernel⟩
set_option maxHeartbeats 8000000 in
theorem ok__law_deck (T:Tx K mg A):FnOk P w K mg base CX0 1 A.f__law_deck A.d__law_deck ["cell", "turn"] (sp__law_deck K):=by
 refine T._law_deck.fn.ok sc__law_deck (fun vs H Q E h=>?_) (fun cdv Ar outer s H vs Q E hr h=>?_)
 ·obtain ⟨c,rfl,_⟩:=h;rfl
 ·obtain ⟨c,rfl,k⟩:=h
  refine ⟨_,pss_cons (ps_if (pt_cmpR (op_ge) (pv 0) (pe_op op_pow (pe_int) (pe_int)) (nomark _)) (pss_one (ps_ret (pe_lst (pa_cons (pe_op op_sub (pv 0) (pe_op op_pow (pe_int) (pe_int))) (pa_cons (pe_op op_mod (pv 0) (pe_int)) (pa_cons (pv 1) (pa_nil))))))) (pss_nil))
   (pss_one (ps_ret (pe_lst (pa_cons (pe_int) (pa_cons (pe_op op_mod (pv 0) (pe_int)) (pa_cons (pv 1) (pa_nil))))))),?_⟩
  refine ⟨_,rfl,_,_,rfl,rfl,⟨by decide,by decide,by decide⟩,_,_,rfl,rfl,_,rfl,?_⟩
  refine ite2 (fun hc=>?_) (fun hc=>?_)
  ·refine ⟨_,rfl,_,_,rfl,rfl,⟨by decide,by decide,by decide⟩,_,_,rfl,rfl,_,rfl,_,_,rfl,rfl,(by show (0:Int)<2147483579;decide),_,rfl,(by show 3≤sizeLine;decide),fun d hd=>?_⟩
   have hc':(10:Int) ^ (18:Int).toNat≤c:=of_decide_eq_true hc
   exact k d _ hd (Same.new hd) ⟨_,_,_,upd_same,by lia,Int.emod_nonneg _ (by decide),Int.emod_lt_of_pos _ (by decide),by decide,by decide⟩
  ·refine ⟨_,rfl,_,_,rfl,rfl,(by show (0:Int)<2147483579;decide),_,rfl,(by show 3≤sizeLine;decide),fun d hd=>?_⟩
   exact k d _ hd (Same.new hd) ⟨_,_,_,upd_same,by decide,Int.emod_nonneg _ (by decide),Int.emod_lt_of_pos _ (by decide),by decide,by decide⟩
theorem sc__law_pick:FnScope ["deck", "many", "found", "number"] ["deck", "many"] (defScope (top 26)):=⟨rfl,rfl,rfl,by decide +kernel,rfl,by decide +kernel,by decide +kernel⟩
set_option maxHeartbeats 8000000 in
theorem ok__law_pick (T:Tx K mg A):FnOk P w K mg base CX0 1 A.f__law_pick A.d__law_pick ["deck", "many"] (sp__law_pick K):=by
 refine T._law_pick.fn.ok sc__law_pick (fun vs H Q E h=>?_) (fun cdv Ar outer s H vs Q E hr h=>?_)
 ·obtain ⟨d,m,n,rfl,_⟩:=h;rfl
 ·obtain ⟨d,m,n,rfl,hdk,hn,hm0,hm1,k⟩:=h
  refine ⟨_,pss_cons (ps_if (pt_cmpR (op_gt) (pe_ix (r:=rIxL K) ix_list (pv 0) (pe_int) (fun _ _=>rfl)) (pe_int) (nomark _)) (pss_cons (ps_set (i:=2) sc__law_pick.nd rfl (Or.inl rfl) (pe_op op_mod (pe_ix (r:=rIxL K) ix_list (pv 0) (pe_int) (fun _ _=>rfl)) (pv 1)))
   (pss_cons (ps_asg (pe_op op_fdiv (pe_ix (r:=rIxL K) ix_list (pv 0) (pe_int) (fun _ _=>rfl)) (pv 1)) (pg_sub (pv 0) (pe_int) set_list))
   (pss_one (ps_ret (pv 2))))) (pss_nil))
   (pss_cons (ps_asg (pe_op op_add (pe_ix (r:=rIxL K) ix_list (pv 0) (pe_int) (fun _ _=>rfl)) (pe_int)) (pg_sub (pv 0) (pe_int) set_list))
   (pss_cons (ps_set (i:=3) sc__law_pick.nd rfl (Or.inl rfl) (pe_op op_mod (pe_op op_pow (pe_op op_add (pe_ix (r:=rIxL K) ix_list (pv 0) (pe_int) (fun _ _=>rfl)) (pe_op op_mul (pe_int) (pe_ix (r:=rIxL K) ix_list (pv 0) (pe_int) (fun _ _=>rfl)))) (pe_int)) (pe_int)))
   (pss_cons (ps_set (i:=2) sc__law_pick.nd rfl (Or.inl rfl) (pe_op op_fdiv (pe_op op_mod (pe_op op_pow (pe_op op_add (pv 3) (pe_op op_mul (pe_int) (pe_ix (r:=rIxL K) ix_list (pv 0) (pe_int) (fun _ _=>rfl)))) (pe_int)) (pe_int)) (pe_int)))
   (pss_cons (ps_if (pt_cmpR (op_gt) (pv 1) (pe_int) (nomark _)) (pss_one ps_never) (pss_nil))
   (pss_one (ps_ret (pe_op op_mod (pv 2) (pv 1)))))))),?_⟩
  obtain ⟨a,b,c,hd,ha,hb,hb2,hc,hc2⟩:=hdk
  have hq:SqL K H d [.int a,.int b,.int c]:=.of hd
  refine ⟨_,rfl,d,_,0,_,rfl,rfl,hq,rfl,_,_,rfl,rfl,_,rfl,?_⟩
  refine ite2 (fun h1=>?_) (fun h1=>?_)
  ·refine ⟨_,rfl,d,_,0,_,rfl,rfl,hq,rfl,_,rfl,_,_,rfl,rfl,hm0,?_⟩
   refine ⟨_,rfl,d,_,0,_,rfl,rfl,hq,rfl,_,rfl,_,_,rfl,rfl,⟨hm0,by lia⟩,?_⟩
   refine ⟨_,rfl,d,_,0,0,rfl,rfl,hd,rfl,?_⟩
   refine ⟨_,rfl,?_⟩
   exact k _ _ same_upd ⟨_,_,_,upd_same,Int.ediv_nonneg ha (by lia),hb,hb2,hc,by lia⟩ (Int.emod_nonneg _ (by lia)) (Int.emod_lt_of_pos _ hm0)
  ·refine ⟨_,rfl,d,_,2,_,rfl,rfl,hq,rfl,_,_,rfl,rfl,?_⟩
   refine ⟨_,rfl,d,_,2,2,rfl,rfl,hd,rfl,?_⟩
   have hq2:SqL K (upd H d (.lst [.int a,.int b,.int (c+1)])) d [.int a,.int b,.int (c+1)]:=.of upd_same
   refine ⟨_,rfl,d,_,1,_,rfl,rfl,hq2,rfl,_,rfl,d,_,2,_,rfl,rfl,hq2,rfl,_,_,rfl,rfl,.inl ⟨by decide,by decide⟩,_,_,rfl,rfl,_,_,rfl,rfl,⟨by decide,by decide,by lia⟩,_,_,rfl,rfl,(by show (0:Int)<2147483647;decide),?_⟩
   refine ⟨_,rfl,_,rfl,d,_,2,_,rfl,rfl,hq2,rfl,_,_,rfl,rfl,.inl ⟨by decide,by decide⟩,_,_,rfl,rfl,_,_,rfl,rfl,⟨by decide,by decide,?_⟩,_,_,rfl,rfl,(by show (0:Int)<2147483629;decide),_,_,rfl,rfl,⟨by decide,by decide⟩,?_⟩
   ·have h2:=Int.emod_nonneg ((b+15485867 * (c+1)) ^ (5:Int).toNat) (show (2147483647:Int)≠0 by decide)
    have h3:=Int.emod_lt_of_pos ((b+15485867 * (c+1)) ^ (5:Int).toNat) (show (0:Int)<2147483647 by decide)
    lia
   ·refine ⟨_,rfl,_,_,rfl,rfl,_,rfl,?_⟩
    rw [decide_eq_false (show ¬ (1000000:Int)<m by lia)]
    refine iteF ?_
    refine ⟨_,rfl,_,rfl,_,_,rfl,rfl,hm0,?_⟩
    exact k _ _ same_upd ⟨_,_,_,upd_same,ha,hb,hb2,by lia,by lia⟩ (Int.emod_nonneg _ (by lia)) (Int.emod_lt_of_pos _ hm0)
theorem sc__law_kind:FnScope ["word", "figures"] ["word"] (defScope (top 27)):=⟨rfl,rfl,rfl,by decide +kernel,rfl,by decide +kernel,by decide +kernel⟩
set_option maxHeartbeats 8000000 in
theorem ok__law_kind (T:Tx K mg A):FnOk P w K mg base CX0 1 A.f__law_kind A.d__law_kind ["word"] (sp__law_kind K):=by
 refine T._law_kind.fn.ok sc__law_kind (fun vs H Q E h=>?_) (fun cdv Ar outer s H vs Q E hr h=>?_)
 ·obtain ⟨z,rfl,_⟩:=h;rfl
 ·obtain ⟨z,rfl,hz,k⟩:=h
  refine ⟨_,pss_cons (ps_set (i:=1) sc__law_kind.nd rfl (Or.inl rfl) (pe_ifExp (pt_cmpR (op_eq) (pe_slice sl_str (pv 0) (po_none) (po_some (pe_int))) (pe_str) (nomark _)) (pe_slice sl_str (pv 0) (po_some (pe_int)) (po_none)) (pv 0)))
   (pss_cons (ps_if ((pw_and (pt_cmpR (op_ne) (pv 1) (pe_str) (nomark _)) (pw_and1 (pt_cmpR (r:=rEqD K) (op_eqD hr) (pe_comp (N':=["sign"]) (n:=1) (fi:=[]) (g:=gName 0) rfl (cscope (defScope (top 27)) ["word", "figures"] (by decide +kernel)) (pi_str (pv 1)) (fun s H fp=>pg_name (i:=0) (show (["sign"]:List Str).Nodup by decide +kernel) rfl (Or.inl rfl) (.inr rfl)) (fun s H fp=>pifs_one (pt_not (pt_chain op_le_str op_le_str (pe_str) (pv 0) (pe_str)))) (fun s H fp=>pv 0)) (pe_lst (pa_nil)) (nomark _)))).pt) (pss_one (ps_ret (pe_str))) (pss_nil))
   (pss_one (ps_ret (pe_ifExp (pt_cmpR (r:=rEqD K) (op_eqD hr) (pe_comp (N':=["sign"]) (n:=1) (fi:=[]) (g:=gName 0) rfl (cscope (defScope (top 27)) ["word", "figures"] (by decide +kernel)) (pi_str (pv 0)) (fun s H fp=>pg_name (i:=0) (show (["sign"]:List Str).Nodup by decide +kernel) rfl (Or.inl rfl) (.inr rfl)) (fun s H fp=>pifs_one (pt_not (pt_chain op_le_str op_le_str (pe_str) (pv 0) (pe_str)))) (fun s H fp=>pv 0)) (pe_lst (pa_nil)) (nomark _)) (pe_str) (pe_str))))),?_⟩
  have hl:z.length≤sizeLine:=Nat.le_trans hz.1 (by decide)
  have hf:=ok_slice (z:=z) (l:=some 1) (u:=none) hz.2
  have c0:("0" : Str)=⟨#[48]⟩:=by decide +kernel
  have c9:("9" : Str)=⟨#[57]⟩:=by decide +kernel
  have ca:("a" : Str)=⟨#[97]⟩:=by decide +kernel
  have cz:("z" : Str)=⟨#[122]⟩:=by decide +kernel
  have ek:lawKindL z.cps.toList=if onlyB dig (unminus z.cps.toList)=true then 0 else if z.cps.toList.all low=true then 1 else 2:=rfl
  rw [ek] at k
  refine ⟨_,rfl,_,rfl,z,rfl,hl,rfl,_,rfl,?_⟩
  rw [dash_head]
  have hfig:∃ f:Str,f.cps.toList=unminus z.cps.toList∧PyData.strOk f=true∧f.length≤10000∧(f=if z.cps.toList.head? = some 45 then Txt.slice z (some 1) none else z):=by
   by_cases hd:z.cps.toList.head? = some 45
   ·exact ⟨_,by rw [if_pos hd,slice_tail];exact unminus_yes hd,by rw [if_pos hd];exact hf.1,by rw [if_pos hd];exact Nat.le_trans hf.2 hz.1,rfl⟩
   ·exact ⟨_,by rw [if_neg hd];exact unminus_no hd,by rw [if_neg hd];exact hz.2,by rw [if_neg hd];exact hz.1,rfl⟩
  obtain ⟨f,f1,f2,f3,f4⟩:=hfig
  have tail:∀ H2,Same H H2→onlyB dig (unminus z.cps.toList)=false→tRet (tIf (tTest (tOp (rEqD K) (tComp (iStr (tVar 0)) (gName 0) (tNot (tTest (tChain (fun x y H Q=>∃ i j,x = .str i∧y = .str j∧Q (.bl (!decide (j.cps.toList<i.cps.toList))) H) (fun x y H Q=>∃ i j,x = .str i∧y = .str j∧Q (.bl (!decide (j.cps.toList<i.cps.toList))) H) (tC (.str "a")) (tVar 0) (tC (.str "z"))))) (tVar 0) 1 []) (tLst tNil))) (tC (.str "name")) (tC (.str "other"))) { nx:=fun _ H'=>Q .non H',rt:=Q } [some (.str z),some (.str f)] H2:=fun H2 s2 hno=>by
   refine no_signsX (fun c=>!(decide (97≤c) && decide (c≤122))) rfl hz.2 (Nat.le_trans hz.1 (by decide)) (fun c H2 R h=>not_betweenX ca cz h) fun H3 s3=>?_
   have e:(z.cps.toList.all fun c=>!(!(decide (97≤c) && decide (c≤122))))=z.cps.toList.all low:=by
    congr 1
    funext c
    simp [low]
   rw [e]
   have kk:=k H3 (s2.trans s3)
   rw [hno,if_neg Bool.false_ne_true] at kk
   by_cases hb:z.cps.toList.all low=true
   ·rw [if_pos hb] at kk
    rw [hb]
    exact iteT kk
   ·rw [if_neg hb] at kk
    rw [Bool.eq_false_iff.mpr hb]
    exact iteF kk
  by_cases hd:z.cps.toList.head? = some 45
  ·rw [decide_eq_true hd]
   rw [if_pos hd] at f4
   subst f4
   refine iteT ⟨_,rfl,_,rfl,z,rfl,hl,?_⟩
   refine ⟨_,rfl,rfl,_,rfl,?_⟩
   rw [dec_nil,f1]
   by_cases he:(unminus z.cps.toList).isEmpty=true
   ·rw [he]
    refine iteF ?_
    refine iteF ?_
    exact tail H (Same.refl _) (by unfold onlyB;rw [he];rfl)
   ·rw [Bool.eq_false_iff.mpr he]
    refine iteT ?_
    refine no_signsX (fun c=>!(decide (48≤c) && decide (c≤57))) rfl f2 (Nat.le_trans f3 (by decide)) (fun c H2 R h=>not_betweenX c0 c9 h) fun H2 s2=>?_
    have e:((Txt.slice z (some 1) none).cps.toList.all fun c=>!(!(decide (48≤c) && decide (c≤57))))=(unminus z.cps.toList).all dig:=by
     rw [f1]
     congr 1
     funext c
     simp [dig]
    rw [e]
    by_cases hb:(unminus z.cps.toList).all dig=true
    ·rw [hb]
     refine iteT ?_
     have ho:onlyB dig (unminus z.cps.toList)=true:=by unfold onlyB;rw [Bool.eq_false_iff.mpr he,hb];rfl
     have kk:=k H2 s2
     rw [ho,if_pos rfl] at kk
     exact kk
    ·rw [Bool.eq_false_iff.mpr hb]
     refine iteF ?_
     exact tail H2 s2 (by unfold onlyB;rw [Bool.eq_false_iff.mpr hb,Bool.and_false])
  ·rw [decide_eq_false hd]
   rw [if_neg hd] at f4
   subst f4
   refine iteF ⟨_,rfl,?_⟩
   refine ⟨_,rfl,rfl,_,rfl,?_⟩
   rw [dec_nil,f1]
   by_cases he:(unminus f.cps.toList).isEmpty=true
   ·rw [he]
    refine iteF ?_
    refine iteF ?_
    exact tail H (Same.refl _) (by unfold onlyB;rw [he];rfl)
   ·rw [Bool.eq_false_iff.mpr he]
    refine iteT ?_
    refine no_signsX (fun c=>!(decide (48≤c) && decide (c≤57))) rfl f2 (Nat.le_trans f3 (by decide)) (fun c H2 R h=>not_betweenX c0 c9 h) fun H2 s2=>?_
    have e:(f.cps.toList.all fun c=>!(!(decide (48≤c) && decide (c≤57))))=(unminus f.cps.toList).all dig:=by
     rw [← f1]
     congr 1
     funext c
     simp [dig]
    rw [e]
    by_cases hb:(unminus f.cps.toList).all dig=true
    ·rw [hb]
     refine iteT ?_
     have ho:onlyB dig (unminus f.cps.toList)=true:=by unfold onlyB;rw [Bool.eq_false_iff.mpr he,hb];rfl
     have kk:=k H2 s2
     rw [ho,if_pos rfl] at kk
     exact kk
    ·rw [Bool.eq_false_iff.mpr hb]
     refine iteF ?_
     exact tail H2 s2 (by unfold onlyB;rw [Bool.eq_false_iff.mpr hb,Bool.and_false])
theorem sc__law_word:FnScope ["deck", "way", "some"] ["deck"] (defScope (top 30)):=⟨rfl,rfl,rfl,by decide +kernel,rfl,by decide +kernel,by decide +kernel⟩
set_option maxHeartbeats 8000000 in
theorem ok__law_word (T:Tx K mg A):FnOk P w K mg base CX0 2 A.f__law_word A.d__law_word ["deck"] (sp__law_word K):=by
 have G__law_pick:FnOk P w K mg base CX0 1 A.f__law_pick A.d__law_pick ["deck", "many"] (sp__law_pick K):=(ok__law_pick T).mono (by decide)
 refine T._law_word.fn.ok sc__law_word (fun vs H Q E h=>?_) (fun cdv Ar outer s H vs Q E hr h=>?_)
 ·obtain ⟨d,n,rfl,_⟩:=h;rfl
 ·obtain ⟨d,n,rfl,hdk,hn,k⟩:=h
  refine ⟨_,pss_cons (ps_set (i:=1) sc__law_word.nd rfl (Or.inl rfl) (pe_call G__law_pick hr (by rfl) T._law_pick.mg T._law_pick.fn.kp T._law_pick.bd .nil pass0 (pa_cons (pv 0) (pa_cons (pe_int) (pa_nil)))))
   (pss_cons (ps_if (pt_cmpR (op_lt) (pv 1) (pe_int) (nomark _)) (pss_one (ps_ret (pe_ix (r:=rIxL K) ix_list (pe_lst (pa_cons (pe_str) (pa_cons (pe_str) (pa_cons (pe_str) (pa_nil))))) (pe_call G__law_pick hr (by rfl) T._law_pick.mg T._law_pick.fn.kp T._law_pick.bd .nil pass0 (pa_cons (pv 0) (pa_cons (pe_int) (pa_nil)))) (fun _ _=>rfl)))) (pss_nil))
   (pss_cons (ps_if (pt_cmpR (op_lt) (pv 1) (pe_int) (nomark _)) (pss_one (ps_ret (pe_ix (r:=rIxL K) ix_list (pe_lst (pa_cons (pe_str) (pa_cons (pe_str) (pa_cons (pe_str) (pa_cons (pe_str) (pa_cons (pe_str) (pa_nil))))))) (pe_call G__law_pick hr (by rfl) T._law_pick.mg T._law_pick.fn.kp T._law_pick.bd .nil pass0 (pa_cons (pv 0) (pa_cons (pe_int) (pa_nil)))) (fun _ _=>rfl)))) (pss_nil))
   (pss_cons (ps_if (pt_cmpR (op_lt) (pv 1) (pe_int) (nomark _)) (pss_one (ps_ret (pe_ix (r:=rIxL K) ix_list (pe_lst (pa_cons (pe_str) (pa_cons (pe_str) (pa_cons (pe_str) (pa_cons (pe_str) (pa_cons (pe_str) (pa_cons (pe_str) (pa_cons (pe_str) (pa_cons (pe_str) (pa_nil)))))))))) (pe_call G__law_pick hr (by rfl) T._law_pick.mg T._law_pick.fn.kp T._law_pick.bd .nil pass0 (pa_cons (pv 0) (pa_cons (pe_int) (pa_nil)))) (fun _ _=>rfl)))) (pss_nil))
   (pss_cons (ps_set (i:=2) sc__law_word.nd rfl (Or.inr rfl) (pe_ix (r:=rIxL K) ix_list (pe_lst (pa_cons (pe_str) (pa_cons (pe_str) (pa_cons (pe_str) (pa_cons (pe_str) (pa_nil)))))) (pe_op op_sub (pv 1) (pe_int)) (fun _ _=>rfl)))
   (pss_one (ps_ret (pe_bm (r:=rJoin K) PySem.F.plainAttrs_str PySem.F.slot_str_join PySem.F.type_str_join mt_join (pe_str) (pa_cons (pe_comp (N':=["k", "some", "deck"]) (n:=1) (fi:=[2,0]) (g:=gName 0) rfl (cscope (defScope (top 30)) ["deck", "way", "some"] (by decide +kernel)) (pi_range1 (by rfl) T.n_range (pa_cons (pe_op op_add (pe_int) (pe_call G__law_pick hr (by rfl) T._law_pick.mg T._law_pick.fn.kp T._law_pick.bd .nil pass0 (pa_cons (pv 0) (pa_cons (pe_int) (pa_nil))))) (pa_nil))) (fun s H fp=>pg_name (i:=0) (show (["k", "some", "deck"]:List Str).Nodup by decide +kernel) rfl (Or.inl rfl) (.inr rfl)) (fun s H fp=>pifs_nil) (fun s H fp=>pe_ix ix_str (pv 1) (pe_call G__law_pick hr (by rfl) T._law_pick.mg T._law_pick.fn.kp T._law_pick.bd .nil pass0 (pa_cons (pv 2) (pa_cons (pe_callB call_len_str (by rfl) T.n_len PySem.boot_len (pa_cons (pv 1) (pa_nil))) (pa_nil)))) (fun _ _=>rfl))) (pa_nil))))))))),?_⟩
  refine ⟨_,rfl,d,12,n,rfl,hdk,by lia,by decide,by decide,fun way H1 s1 dk1 w0 w12=>?_⟩
  refine ⟨_,rfl,_,_,rfl,rfl,_,rfl,?_⟩
  refine ite2 (fun _=>?_) (fun _=>?_)
  ·refine ⟨(by show 3≤sizeLine;decide),fun p hp=>⟨_,rfl,d,3,n+1,rfl,dk1.same (Same.new hp),by lia,by decide,by decide,fun r H2 s2 dk2 r0 r1=>?_⟩⟩
   obtain ⟨x,hx,ha⟩:=at_strs (l:=words1) r0 r1
   have hp2:H2 p=some (.lst (words1.map V.str)):=keepN s2 upd_same (dk1.ne hp)
   have hw:=w1 x hx
   exact ⟨p,_,r,_,rfl,rfl,.of hp2,ha,k x H2 (wo_trans (s1.trans (Same.new hp)) s2) (dk2.mono (by lia)) ⟨hw.1,hw.2.1,hw.2.2⟩⟩
  ·refine ⟨_,rfl,_,_,rfl,rfl,_,rfl,?_⟩
   refine ite2 (fun _=>?_) (fun _=>?_)
   ·refine ⟨(by show 5≤sizeLine;decide),fun p hp=>⟨_,rfl,d,5,n+1,rfl,dk1.same (Same.new hp),by lia,by decide,by decide,fun r H2 s2 dk2 r0 r1=>?_⟩⟩
    obtain ⟨x,hx,ha⟩:=at_strs (l:=words2) r0 r1
    have hp2:H2 p=some (.lst (words2.map V.str)):=keepN s2 upd_same (dk1.ne hp)
    have hw:=w2 x hx
    exact ⟨p,_,r,_,rfl,rfl,.of hp2,ha,k x H2 (wo_trans (s1.trans (Same.new hp)) s2) (dk2.mono (by lia)) ⟨hw.1,hw.2.1,hw.2.2⟩⟩
   ·refine ⟨_,rfl,_,_,rfl,rfl,_,rfl,?_⟩
    refine ite2 (fun _=>?_) (fun h8=>?_)
    ·refine ⟨(by show 8≤sizeLine;decide),fun p hp=>⟨_,rfl,d,8,n+1,rfl,dk1.same (Same.new hp),by lia,by decide,by decide,fun r H2 s2 dk2 r0 r1=>?_⟩⟩
     obtain ⟨x,hx,ha⟩:=at_strs (l:=words3) r0 r1
     have hp2:H2 p=some (.lst (words3.map V.str)):=keepN s2 upd_same (dk1.ne hp)
     have hw:=w3 x hx
     exact ⟨p,_,r,_,rfl,rfl,.of hp2,ha,k x H2 (wo_trans (s1.trans (Same.new hp)) s2) (dk2.mono (by lia)) ⟨hw.1,hw.2.1,hw.2.2⟩⟩
    ·have h8':¬ way<8:=fun h=>h8 (decide_eq_true h)
     obtain ⟨x,hx,ha⟩:=at_strs (l:=words4) (r:=way - 8) (by lia) (by show way - 8<4;lia)
     have hxx:=w4 x hx
     refine ⟨(by show 4≤sizeLine;decide),fun p hp=>⟨_,rfl,_,_,rfl,rfl,p,_,way - 8,_,rfl,rfl,.of upd_same,ha,?_⟩⟩
     have dkp:Dk (upd H1 p (.lst (words4.map V.str))) d (n+1):=dk1.same (Same.new hp)
     refine ⟨rfl,_,rfl,d,4,n+1,rfl,dkp,by lia,by decide,by decide,fun r4 H2 s2 dk2 r0 r1=>?_⟩
     refine ⟨_,_,rfl,rfl,1+r4,rfl,by lia,by lia,fun D hD=>?_⟩
     have hdD:d≠D:=dk2.ne hD
     refine comp_range (fun i acc σ H3=>(∃ u,σ=[u,some (.str x),some (.ref d)])∧Same (wo d H2) H3∧Dk H3 d (n+2+i)∧∃ l:List Str,acc=l.map V.str∧l.length=i∧∀ y∈l,PyData.strOk y=true∧y.length≤1∧∃ c,y=⟨#[c]⟩∧sgn c=true) upd_same ⟨⟨_,rfl⟩,wo_same.trans (Same.new hD),dk2.same (Same.new hD),[],rfl,rfl,fun y hy=>by cases hy⟩ (fun i acc σ H3 hi hD3 q=>?_) (fun acc σ H3 hD3 q=>?_)
     ·obtain ⟨q0,s3,dk3,l,rfl,hl,hok⟩:=q
      apply ex_1 q0
      clear q0
      intro u
      refine compY ⟨_,rfl,_,rfl,_,rfl,x,rfl,Nat.le_trans hxx.2.1 (by decide),d,x.length,n+2+i,rfl,dk3,by lia,by lia,by lia,fun r H4 s4 dk4 q0 q1=>?_⟩
      obtain ⟨c,j,hc,hj⟩:=at_sign q0 q1
      have hsc:sgn c=true:=List.all_eq_true.mp hxx.2.2.2 c (by simpa using Array.mem_of_getElem? hj)
      refine ⟨x,r,c,rfl,rfl,Nat.le_trans hxx.2.1 (by decide),hc,_,keepN s4 hD3 hdD,small (by simp only [List.length_map];lia),_,upd_same,⟨_,rfl⟩,snap_upd (by rw [wo_at hdD.symm];exact hD) (wo_trans s3 s4),dk4.upd hdD,l++[⟨#[c]⟩],by simp,by simp [hl],fun y hy=>?_⟩
      rcases List.mem_append.mp hy with hy | hy
      ·exact hok y hy
      ·simp only [List.mem_singleton] at hy
       subst hy
       exact ⟨ok_sign hxx.1 hj,Nat.le_refl _,c,rfl,hsc⟩
     ·obtain ⟨_,s3,dk3,l,rfl,hl,hok⟩:=q
      have hl4:l.length≤4:=by lia
      refine ⟨"",D,l,rfl,rfl,.of hD3,join_fits (fun y hy=>(hok y hy).2.1) ?_,?_⟩
      ·have:(("" : Str)).length=0:=rfl
       rw [this];lia
      ·exact k _ H3 (wo_trans (wo_trans (s1.trans (Same.new hp)) s2) s3) (dk3.mono (by lia)) (join_word (by lia) hl4 hok)
theorem sc__law_line:FnScope ["deck", "most"] ["deck", "most"] (defScope (top 31)):=⟨rfl,rfl,rfl,by decide +kernel,rfl,by decide +kernel,by decide +kernel⟩
set_option maxHeartbeats 8000000 in
theorem ok__law_line (T:Tx K mg A):FnOk P w K mg base CX0 3 A.f__law_line A.d__law_line ["deck", "most"] (sp__law_line K):=by
 have G__law_word:FnOk P w K mg base CX0 2 A.f__law_word A.d__law_word ["deck"] (sp__law_word K):=(ok__law_word T).mono (by decide)
 have G__law_pick:FnOk P w K mg base CX0 2 A.f__law_pick A.d__law_pick ["deck", "many"] (sp__law_pick K):=(ok__law_pick T).mono (by decide)
 refine T._law_line.fn.ok sc__law_line (fun vs H Q E h=>?_) (fun cdv Ar outer s H vs Q E hr h=>?_)
 ·obtain ⟨d,m,n,rfl,_⟩:=h;rfl
 ·obtain ⟨d,m,n,rfl,hdk,hn,hm0,hm1,k⟩:=h
  refine ⟨_,pss_one (ps_ret (pe_bm (r:=rJoin K) PySem.F.plainAttrs_str PySem.F.slot_str_join PySem.F.type_str_join mt_join (pe_str) (pa_cons (pe_comp (N':=["k", "deck"]) (n:=1) (fi:=[0]) (g:=gName 0) rfl (cscope (defScope (top 31)) ["deck", "most"] (by decide +kernel)) (pi_range1 (by rfl) T.n_range (pa_cons (pe_op op_add (pe_int) (pe_call G__law_pick hr (by rfl) T._law_pick.mg T._law_pick.fn.kp T._law_pick.bd .nil pass0 (pa_cons (pv 0) (pa_cons (pv 1) (pa_nil))))) (pa_nil))) (fun s H fp=>pg_name (i:=0) (show (["k", "deck"]:List Str).Nodup by decide +kernel) rfl (Or.inl rfl) (.inr rfl)) (fun s H fp=>pifs_nil) (fun s H fp=>pe_call G__law_word hr (by rfl) T._law_word.mg T._law_word.fn.kp T._law_word.bd .nil pass0 (pa_cons (pv 1) (pa_nil)))) (pa_nil)))),?_⟩
  refine ⟨rfl,_,rfl,_,rfl,d,m,n,rfl,hdk,by lia,hm0,by lia,fun r4 H2 s2 dk2 r0 r1=>?_⟩
  refine ⟨_,_,rfl,rfl,1+r4,rfl,by lia,by lia,fun D hD=>?_⟩
  have hdD:d≠D:=dk2.ne hD
  refine comp_range (fun i acc σ H3=>(∃ u,σ=[u,some (.ref d)])∧Same (wo d H2) H3∧Dk H3 d (n+1+6 * i)∧∃ l:List Str,acc=l.map V.str∧l.length=i∧∀ y∈l,WOk y) upd_same ⟨⟨_,rfl⟩,wo_same.trans (Same.new hD),dk2.same (Same.new hD),[],rfl,rfl,fun y hy=>by cases hy⟩ (fun i acc σ H3 hi hD3 q=>?_) (fun acc σ H3 hD3 q=>?_)
  ·obtain ⟨q0,s3,dk3,l,rfl,hl,hok⟩:=q
   apply ex_1 q0
   clear q0
   intro u
   refine compY ⟨_,rfl,d,n+1+6 * i,rfl,dk3,by lia,fun x H4 s4 dk4 hx=>?_⟩
   refine ⟨_,keepN s4 hD3 hdD,small (by simp only [List.length_map];lia),_,upd_same,⟨_,rfl⟩,snap_upd (by rw [wo_at hdD.symm];exact hD) (wo_trans s3 s4),(dk4.upd hdD).mono (by lia),l++[x],by simp,by simp [hl],fun y hy=>?_⟩
   rcases List.mem_append.mp hy with hy | hy
   ·exact hok y hy
   ·simp only [List.mem_singleton] at hy
    subst hy
    exact hx
  ·obtain ⟨_,s3,dk3,l,rfl,hl,hok⟩:=q
   have h1:((" " : Str)).length=1:=rfl
   refine ⟨" ",D,l,rfl,rfl,.of hD3,join_fits (fun y hy=>(hok y hy).len) ?_,?_⟩
   ·rw [h1];lia
   ·exact k _ l H3 (wo_trans s2 s3) (dk3.mono (by lia)) ⟨rfl,by lia,by lia,hok⟩
end
end K10
namespace K10
open PySem L2 LG
section
variable {P:Program}{w:World}{K:PySem.W.Frag}{mg:Str→Option Value}{base:Heap}{A:Ad}
def sp__law_pattern (K:PySem.W.Frag):Sp:=fun vs H Q _=>∃ (d:Addr) (z:Str) (n:Nat),vs=[.ref d,.str z]∧Dk H d n∧n<800000∧z.length≤9000∧PyData.strOk z=true ∧
 ∀ F H' ps ys,H F=none→Same (wo d H) H'→Dk H' d (n+(z.length+2))→DrawnAll (Txt.split z " ") ps→H' F=some (.lst ys)→Dens K (tO H') ys (ps.map Pt.dat)→Q (.ref F) H'
theorem sc__law_pattern:FnScope ["deck", "line", "found", "word", "kind", "way"] ["deck", "line"] (defScope (top 33)):=⟨rfl,rfl,rfl,by decide +kernel,rfl,by decide +kernel,by decide +kernel⟩
set_option maxHeartbeats 8000000 in
theorem ok__law_pattern (T:Tx K mg A):FnOk P w K mg base CX0 2 A.f__law_pattern A.d__law_pattern ["deck", "line"] (sp__law_pattern K):=by
 have G__law_kind:FnOk P w K mg base CX0 1 A.f__law_kind A.d__law_kind ["word"] (sp__law_kind K):=(ok__law_kind T).mono (by decide)
 have G__law_pick:FnOk P w K mg base CX0 1 A.f__law_pick A.d__law_pick ["deck", "many"] (sp__law_pick K):=(ok__law_pick T).mono (by decide)
 refine T._law_pattern.fn.ok sc__law_pattern (fun vs H Q E h=>?_) (fun cdv Ar outer s H vs Q E hr h=>?_)
 ·obtain ⟨d,z,n,rfl,_⟩:=h;rfl
 ·obtain ⟨d,z,n,rfl,hdk,hn,hzl,hzs,k⟩:=h
  refine ⟨_,pss_cons (ps_set (i:=2) sc__law_pattern.nd rfl (Or.inl rfl) (pe_lst (pa_nil)))
   (pss_cons (ps_for PassesOwn.never rfl (pi_list (pe_bm PySem.F.plainAttrs_str PySem.F.slot_str_split PySem.F.type_str_split mt_split (pv 1) (pa_cons (pe_str) (pa_nil)))) (pg_name (i:=3) sc__law_pattern.nd rfl (Or.inl rfl)) (pss_cons (ps_set (i:=4) sc__law_pattern.nd rfl (Or.inl rfl) (pe_call G__law_kind hr (by rfl) T._law_kind.mg T._law_kind.fn.kp T._law_kind.bd .nil pass0 (pa_cons (pv 3) (pa_nil))))
   (pss_cons (ps_set (i:=5) sc__law_pattern.nd rfl (Or.inl rfl) (pe_call G__law_pick hr (by rfl) T._law_pick.mg T._law_pick.fn.kp T._law_pick.bd .nil pass0 (pa_cons (pv 0) (pa_cons (pe_int) (pa_nil)))))
   (pss_one (ps_if (pt_cmpR (op_lt) (pv 5) (pe_int) (nomark _)) (pss_one (ps_expr (pe_bm PySem.F.plainAttrs_list PySem.F.slot_list_append PySem.F.type_list_append mt_append (pv 2) (pa_cons (pe_tup (pa_cons (pe_str) (pa_cons (pv 3) (pa_nil)))) (pa_nil))))) (pss_one (ps_if ((pw_and (pt_cmpR (op_lt) (pv 5) (pe_int) (nomark _)) (pw_and1 (pt_cmpR (op_ne) (pv 4) (pe_str) (nomark _)))).pt) (pss_one (ps_expr (pe_bm PySem.F.plainAttrs_list PySem.F.slot_list_append PySem.F.type_list_append mt_append (pv 2) (pa_cons (pe_tup (pa_cons (pe_str) (pa_cons (pv 4) (pa_nil)))) (pa_nil))))) (pss_one (ps_expr (pe_bm PySem.F.plainAttrs_list PySem.F.slot_list_append PySem.F.type_list_append mt_append (pv 2) (pa_cons (pe_tup (pa_cons (pe_str) (pa_cons (pe_str) (pa_nil)))) (pa_nil))))))))))))
   (pss_one (ps_ret (pv 2)))),?_⟩
  have h1:((" " : Str)).length≠0:=by decide +kernel
  obtain ⟨ys0,hd0⟩:=hdk.lst
  refine ⟨Nat.zero_le _,fun F hF=>?_⟩
  have hdF:d≠F:=hdk.ne hF
  refine ⟨_,rfl,rfl,z, " ",rfl,rfl,h1,Nat.le_trans (Nat.add_le_add_right hzl 2) (by decide),fun L hL=>⟨L,rfl,⟨_,.of upd_same⟩,?_⟩⟩
  have hLF:F≠L:=ne_of_none (upd_same (H:=H)) hL
  have sF:Same H (upd H F (.lst [])):=Same.new hF
  have sL:Same (upd H F (.lst [])) (upd (upd H F (.lst [])) L (.lst ((Txt.split z " ").map V.str))):=Same.new hL
  have hdL:d≠L:=(hdk.same sF).ne hL
  have hsp:=ok_split (z:=z) (y:= " ") hzs
  have hsl:=(split_len1 (z:=z) (y:= " ")).2
  refine for_list (K:=K) (xs:=(Txt.split z " ").map V.str) (PatInv K H d z F L n) ⟨⟨_,_,_,rfl⟩,wo_same.trans (sF.trans sL),hdk.same (sF.trans sL),upd_same,[],[],sL _ _ upd_same,rfl,(fun p hp=>by cases hp),(fun j w p _ hp=>by simp at hp),.nil⟩ (fun i σ H3 _ q=>.of q.2.2.2.1) (fun i x σ H3 hx q=>?_) (fun σ H3 q=>?_)
  ·obtain ⟨q0,s3,dk3,hL3,acc,ps,hF3,hps,hok,hdr,dn⟩:=q
   apply ex_3 q0
   clear q0
   intro u1 u2 u3
   obtain ⟨wd,e,rfl⟩:=strs_at hx
   have hil:i<(Txt.split z " ").length:=ge_len e
   have hw:=hsp wd (List.mem_of_getElem? e)
   have hwt:TOk wd:=⟨Nat.le_trans hw.2 (Nat.le_trans hzl (by decide)),hw.1⟩
   refine ⟨_,rfl,wd,rfl,hwt,fun H4 s4=>?_⟩
   refine ⟨_,rfl,d,6,n+i,rfl,dk3.same s4,by lia,by decide,by decide,fun way H5 s5 dk5 _ _=>?_⟩
   have hL5:H5 L=some (.lst ((Txt.split z " ").map V.str)):=keepN s5 (s4 _ _ hL3) hdL
   have hF5:H5 F=some (.lst acc):=keepN s5 (s4 _ _ hF3) hdF
   have dn5:Dens K (lim (upd H F (.lst [])) H5) acc (ps.map Pt.dat):=(dn.same (lim_mono s4)).same (lim_wo_mono (sF _ _ hd0) s5)
   have hs5:Same (wo d H) H5:=wo_trans (s3.trans s4) s5
   have hal:acc.length=i:=by rw [dn.length,List.length_map,hps]
   have hk3:=lawKind_lt wd.cps.toList
   refine ⟨_,rfl,_,_,rfl,rfl,_,rfl,?_⟩
   refine ite2 (fun _=>?_) (fun _=>?_)
   ·refine ⟨_,rfl,.inl ⟨rfl,_,.of hF5⟩,_,rfl,(by show 2≤sizeLine;decide),fun t ht=>⟨F,acc,_,rfl,rfl,Same.new ht _ _ hF5,small (by lia),?_⟩⟩
    exact PatInv.step (pt:=.word wd) hdF hLF hF ⟨_,_,_,rfl⟩ hs5 dk5 hL5 hF5 hps hok hdr dn5 e (.inl rfl) rfl hwt (by decide +kernel) hw.1 ht
   ·have anyb:∀ (t:Addr) (ht:H5 t=none) (σ:St),(∃ u1 u2 u3,σ=[some (.ref d),some (.str z),some (.ref F),u1,u2,u3])→PatInv K H d z F L n (i+1) σ (upd (upd H5 t (.tup [.str "hole",.str "any"])) F (.lst (acc++[.ref t]))):=fun t ht σ hσ=>
     PatInv.step (pt:=.hole 2) hdF hLF hF hσ hs5 dk5 hL5 hF5 hps hok hdr dn5 e (.inr (.inr rfl)) rfl (by decide:2<3) (by decide +kernel) (by decide +kernel) ht
    refine ⟨_,rfl,_,_,rfl,rfl,_,rfl,?_⟩
    refine ite2 (fun _=>?_) (fun _=>?_)
    ·refine ⟨_,rfl,rfl,_,rfl,?_⟩
     rw [law_other hk3]
     by_cases h2:lawKindL wd.cps.toList=2
     ·rw [decide_eq_true h2]
      refine iteF ?_
      exact ⟨_,rfl,.inl ⟨rfl,_,.of hF5⟩,(by show 2≤sizeLine;decide),fun t ht=>⟨F,acc,_,rfl,rfl,Same.new ht _ _ hF5,small (by lia),anyb t ht _ ⟨_,_,_,rfl⟩⟩⟩
     ·rw [decide_eq_false h2]
      refine iteT ?_
      refine ⟨_,rfl,.inl ⟨rfl,_,.of hF5⟩,_,rfl,(by show 2≤sizeLine;decide),fun t ht=>⟨F,acc,_,rfl,rfl,Same.new ht _ _ hF5,small (by lia),?_⟩⟩
      have hk2:lawKindL wd.cps.toList<2:=by lia
      rw [kindW_S hk2]
      exact PatInv.step (pt:=.hole (lawKindL wd.cps.toList)) hdF hLF hF ⟨_,_,_,rfl⟩ hs5 dk5 hL5 hF5 hps hok hdr dn5 e (.inr (.inl ⟨rfl,hk2⟩)) rfl hk3 (by decide +kernel) kindS_ok ht
    ·refine iteF ?_
     exact ⟨_,rfl,.inl ⟨rfl,_,.of hF5⟩,(by show 2≤sizeLine;decide),fun t ht=>⟨F,acc,_,rfl,rfl,Same.new ht _ _ hF5,small (by lia),anyb t ht _ ⟨_,_,_,rfl⟩⟩⟩
  ·obtain ⟨q0,s3,dk3,hL3,acc,ps,hF3,hps,hok,hdr,dn⟩:=q
   apply ex_3 q0
   clear q0
   intro u1 u2 u3
   rw [List.length_map] at hps dk3
   exact ⟨_,rfl,k F H3 ps acc hF s3 (dk3.mono (by lia)) ⟨hps,hdr⟩ hF3 (dens_tO (dn.same lim_same))⟩
end
end K10
namespace K10
open PySem L2 LG
section
variable {P:Program}{w:World}{K:PySem.W.Frag}{mg:Str→Option Value}{base:Heap}{A:Ad}
theorem sc__law_lines:FnScope ["deck", "most", "shapes", "found", "k", "words", "turn"] ["deck", "most"] (defScope (top 32)):=⟨rfl,rfl,rfl,by decide +kernel,rfl,by decide +kernel,by decide +kernel⟩
set_option maxHeartbeats 8000000 in
theorem ok__law_lines (T:Tx K mg A):FnOk P w K mg base CX0 4 A.f__law_lines A.d__law_lines ["deck", "most"] (sp__law_lines K):=by
 have G__law_pick:FnOk P w K mg base CX0 3 A.f__law_pick A.d__law_pick ["deck", "many"] (sp__law_pick K):=(ok__law_pick T).mono (by decide)
 have G__law_word:FnOk P w K mg base CX0 3 A.f__law_word A.d__law_word ["deck"] (sp__law_word K):=(ok__law_word T).mono (by decide)
 have G__law_line:FnOk P w K mg base CX0 3 A.f__law_line A.d__law_line ["deck", "most"] (sp__law_line K):=(ok__law_line T).mono (by decide)
 refine T._law_lines.fn.ok sc__law_lines (fun vs H Q E h=>?_) (fun cdv Ar outer s H vs Q E hr h=>?_)
 ·obtain ⟨d,m,n,rfl,_⟩:=h;rfl
 ·obtain ⟨d,m,n,rfl,hdk,hn,hm0,hm1,k⟩:=h
  refine ⟨_,pss_cons (ps_comp (i:=2) (N':=["k", "deck"]) (n:=1) (fi:=[0]) (g:=gName 0) sc__law_lines.nd rfl (Or.inl rfl) rfl (cscope (defScope (top 32)) ["deck", "most", "shapes", "found", "k", "words", "turn"] (by decide +kernel)) (pi_range1 (by rfl) T.n_range (pa_cons (pe_op op_add (pe_int) (pe_call G__law_pick hr (by rfl) T._law_pick.mg T._law_pick.fn.kp T._law_pick.bd .nil pass0 (pa_cons (pv 0) (pa_cons (pe_int) (pa_nil))))) (pa_nil))) (fun s H fp=>pg_name (i:=0) (show (["k", "deck"]:List Str).Nodup by decide +kernel) rfl (Or.inl rfl) (.inr rfl)) (fun s H fp=>pifs_nil) (fun s H fp=>pe_bmK (K:=K) rfl PySem.F.plainAttrs_str PySem.F.slot_str_split PySem.F.type_str_split mt_split (pe_call G__law_line hr (by rfl) T._law_line.mg T._law_line.fn.kp T._law_line.bd .nil pass0 (pa_cons (pv 1) (pa_cons (pe_ix (r:=rIxL K) ix_list (pe_lst (pa_cons (pe_int) (pa_cons (pe_int) (pa_cons (pe_int) (pa_nil))))) (pe_call G__law_pick hr (by rfl) T._law_pick.mg T._law_pick.fn.kp T._law_pick.bd .nil pass0 (pa_cons (pv 1) (pa_cons (pe_int) (pa_nil)))) (fun _ _=>rfl)) (pa_nil)))) (pa_cons (pe_str) (pa_nil))))
   (pss_cons (ps_set (i:=3) sc__law_lines.nd rfl (Or.inl rfl) (pe_lst (pa_nil)))
   (pss_cons (ps_for PassesOwn.never rfl (pi_range1 (by rfl) T.n_range (pa_cons (pe_call G__law_pick hr (by rfl) T._law_pick.mg T._law_pick.fn.kp T._law_pick.bd .nil pass0 (pa_cons (pv 0) (pa_cons (pe_op op_add (pv 1) (pe_int)) (pa_nil)))) (pa_nil))) (pg_name (i:=4) sc__law_lines.nd rfl (Or.inl rfl)) (pss_cons (ps_set (i:=5) sc__law_lines.nd rfl (Or.inl rfl) (pe_callTy (r:=rListOf K) call_listO (by rfl) T.n_list bt_list (pa_cons (pe_ix (r:=rIxL K) ix_list (pv 2) (pe_call G__law_pick hr (by rfl) T._law_pick.mg T._law_pick.fn.kp T._law_pick.bd .nil pass0 (pa_cons (pv 0) (pa_cons (pe_callB (r:=rLenS K) call_lenS (by rfl) T.n_len PySem.boot_len (pa_cons (pv 2) (pa_nil))) (pa_nil)))) (fun _ _=>rfl)) (pa_nil))))
   (pss_cons (ps_for PassesOwn.never rfl (pi_range1 (by rfl) T.n_range (pa_cons (pe_call G__law_pick hr (by rfl) T._law_pick.mg T._law_pick.fn.kp T._law_pick.bd .nil pass0 (pa_cons (pv 0) (pa_cons (pe_int) (pa_nil)))) (pa_nil))) (pg_name (i:=6) sc__law_lines.nd rfl (Or.inl rfl)) (pss_one (ps_asg (pe_call G__law_word hr (by rfl) T._law_word.mg T._law_word.fn.kp T._law_word.bd .nil pass0 (pa_cons (pv 0) (pa_nil))) (pg_sub (pv 5) (pe_call G__law_pick hr (by rfl) T._law_pick.mg T._law_pick.fn.kp T._law_pick.bd .nil pass0 (pa_cons (pv 0) (pa_cons (pe_callB (r:=rLenS K) call_lenS (by rfl) T.n_len PySem.boot_len (pa_cons (pv 5) (pa_nil))) (pa_nil)))) set_list))))
   (pss_cons (ps_expr (pe_bm PySem.F.plainAttrs_list PySem.F.slot_list_append PySem.F.type_list_append mt_append (pv 3) (pa_cons (pe_bm (r:=rJoin K) PySem.F.plainAttrs_str PySem.F.slot_str_join PySem.F.type_str_join mt_join (pe_str) (pa_cons (pv 5) (pa_nil))) (pa_nil))))
   (pss_one (ps_if (pt_cmpR (op_eq) (pe_call G__law_pick hr (by rfl) T._law_pick.mg T._law_pick.fn.kp T._law_pick.bd .nil pass0 (pa_cons (pv 0) (pa_cons (pe_int) (pa_nil)))) (pe_int) (nomark _)) (pss_one (ps_expr (pe_bm PySem.F.plainAttrs_list PySem.F.slot_list_append PySem.F.type_list_append mt_append (pv 3) (pa_cons (pe_ix (r:=rIxL K) ix_list (pv 3) (pe_call G__law_pick hr (by rfl) T._law_pick.mg T._law_pick.fn.kp T._law_pick.bd .nil pass0 (pa_cons (pv 0) (pa_cons (pe_callB (r:=rLenS K) call_lenS (by rfl) T.n_len PySem.boot_len (pa_cons (pv 3) (pa_nil))) (pa_nil)))) (fun _ _=>rfl)) (pa_nil))))) (pss_nil)))))))
   (pss_one (ps_ret (pe_slice (r:=rSlL K) sl_list (pv 3) (po_none) (po_some (pv 1))))))),?_⟩
  have h1:((" " : Str)).length=1:=rfl
  refine ⟨_,rfl,d,3,n,rfl,hdk,by lia,by decide,by decide,fun r H1 s1 dk1 r0 r1=>⟨_,_,rfl,rfl,1+r,rfl,by lia,by lia,fun SH hSH=>?_⟩⟩
  have hdSH:d≠SH:=dk1.ne hSH
  refine comp_range (fun i acc σ H3=>(∃ u,σ=[u,some (.ref d)])∧Same (wo d H1) H3∧Dk H3 d (n+1+81 * i)∧acc.length=i∧∀ x∈acc,∃ (s:Addr) (ws:List Str),x = .ref s∧s≠d∧s≠SH∧H3 s=some (.lst (ws.map V.str))∧WsOk ws) upd_same ⟨⟨_,rfl⟩,wo_same.trans (Same.new hSH),dk1.same (Same.new hSH),rfl,fun x hx=>by cases hx⟩ (fun i acc σ H3 hi hD3 q=>?_) (fun acc σ H3 hD3 q=>?_)
  ·obtain ⟨q0,s3,dk3,hal,hsh⟩:=q
   apply ex_1 q0
   clear q0
   intro u
   refine compY ?_
   refine ⟨_,rfl,(by show 3≤sizeLine;decide),fun p hp=>⟨_,rfl,d,3,_,rfl,dk3.same (Same.new hp),by lia,by decide,by decide,fun r3 H4 s4 dk4 q0 q1=>?_⟩⟩
   have hp4:H4 p=some (.lst [.int 3,.int 6,.int 12]):=keepN s4 upd_same (dk3.ne hp)
   obtain ⟨v,hv,hv0,hv1⟩:=at_ints q0 q1
   refine ⟨p,_,r3,_,rfl,rfl,.of hp4,hv,d,v,_,rfl,dk4,by lia,hv0,hv1,fun x ws H5 s5 dk5 hln=>?_⟩
   have hlo:=hln.ok (by lia)
   have hs35:Same (wo d H3) H5:=wo_trans (wo_trans (wo_same.trans (Same.new hp)) s4) s5
   have hSH5:H5 SH=some (.lst acc):=keepN hs35 hD3 hdSH
   refine ⟨rfl,x, " ",rfl,rfl,by rw [h1];decide,Nat.le_trans (Nat.add_le_add_right hlo.2 2) (by decide),fun l hl=>?_⟩
   have sl:Same H5 (upd H5 l (.lst ((Txt.split x " ").map V.str))):=Same.new hl
   have hlSH:l≠SH:=(ne_of_none hSH5 hl).symm
   have hld:l≠d:=(dk5.ne hl).symm
   refine ⟨acc,sl _ _ hSH5,small (by lia),_,upd_same,⟨_,rfl⟩,snap_upd (by rw [wo_at hdSH.symm];exact hSH) (wo_trans s3 (hs35.trans sl)),((dk5.same sl).upd hdSH).mono (by lia),by rw [List.length_append,hal];rfl,fun y hy=>?_⟩
   rcases List.mem_append.mp hy with hy | hy
   ·obtain ⟨s,ws',rfl,g1,g2,g3,g4⟩:=hsh y hy
    exact ⟨s,ws',rfl,g1,g2,by rw [upd_ne g2];exact sl _ _ (keepN hs35 g3 g1.symm),g4⟩
   ·simp only [List.mem_singleton] at hy
    subst hy
    refine ⟨l,ws,rfl,hld,hlSH,by rw [upd_ne hlSH,upd_same,hln.split],hln.pos,Nat.le_trans hln.le (by lia),hln.wd⟩
  ·obtain ⟨_,s3,dk3,hal,hsh⟩:=q
   have hHs1:Same (wo d H) (wo d H3):=same_wo wo_self (wo_trans s1 s3)
   have hSHs:(wo d H3) SH=some (.lst acc):=by rw [wo_at hdSH.symm];exact hD3
   have hshs:Shapes (wo d H3) acc:=fun x hx=>by
    obtain ⟨s,ws,rfl,g1,g2,g3,g4⟩:=hsh x hx
    exact ⟨s,ws,rfl,by rw [wo_at g1];exact g3,g4⟩
   have hds:(wo d H3) d=none:=wo_self
   have hsm0:Same (wo d H3) H3:=wo_same
   refine ⟨Nat.zero_le _,fun F hF=>?_⟩
   have hdF:d≠F:=dk3.ne hF
   have hFs:(wo d H3) F=none:=hsm0.free hF
   have hFH:H F=none:=by
    have:=hHs1.free hFs
    rwa [wo_at hdF.symm] at this
   generalize wo d H3=Hs at hHs1 hSHs hshs hds hsm0 hFs
   have sF:Same H3 (upd H3 F (.lst [])):=Same.new hF
   refine ⟨_,rfl,_,rfl,_,_,rfl,rfl,d,_,_,rfl,dk3.same sF,by lia,by lia,by lia,fun r2 H4 s4 dk4 q0 q1=>⟨r2,rfl,by lia,by lia,?_⟩⟩
   have hacc1:1≤acc.length:=by lia
   refine for_range (fun i σ H5=>(∃ u4 u5 u6,σ=[some (.ref d),some (.int m),some (.ref SH),some (.ref F),u4,u5,u6])∧Same Hs H5∧Dk H5 d (n+400+20 * i)∧∃ ls:List Str,H5 F=some (.lst (ls.map V.str))∧ls.length≤2 * i∧∀ x∈ls,∃ ws,LnOk 12 x ws)
    ⟨⟨_,_,_,rfl⟩,fun b o e=>s4 b o (by rw [wo_at (ne_of_none e hds)];exact sF b o (hsm0 b o e)),dk4.mono (by lia),[],keepN s4 upd_same hdF,Nat.le_refl _,fun x hx=>by cases hx⟩ (fun i σ H5 hi q=>?_) (fun σ H5 q=>?_)
   ·obtain ⟨q0,s5,dk5,ls,hF5,hll,hlok⟩:=q
    apply ex_3 q0
    clear q0
    intro u4 u5 u6
    have keepS:∀ {Ha Hb:Hp},Same Hs Ha→Same (wo d Ha) Hb→Same Hs Hb:=fun sa sb b o e=>sb b o (by rw [wo_at (ne_of_none e hds)];exact sa b o e)
    refine ⟨_,rfl,_,rfl,_,rfl,SH,_,rfl,.inl (.of (s5 _ _ hSHs)),d,_,_,rfl,dk5,by lia,by lia,by lia,fun rk H6 s6 dk6 k0 k1=>?_⟩
    have s6':=keepS s5 s6
    have hF6:=keepN s6 hF5 hdF
    obtain ⟨jj,rfl⟩:=Int.eq_ofNat_of_zero_le (k0:(0:Int)≤rk)
    have hjj:jj<acc.length:=by lia
    have hxj:acc[jj]? = some acc[jj]:=List.getElem?_eq_getElem hjj
    obtain ⟨sA,ws,ex,hsA,hws⟩:=hshs acc[jj] (List.mem_of_getElem? hxj)
    refine ⟨SH,acc,_,_,rfl,rfl,.of (s6' _ _ hSHs),atI_nat hxj,sA,_,by rw [ex],.inl (.of (s6' _ _ hsA)),fun W hW=>?_⟩
    have sW:Same H6 (upd H6 W (.lst (ws.map V.str))):=Same.new hW
    have hdW:d≠W:=dk6.ne hW
    have hFW:F≠W:=ne_of_none hF6 hW
    have hWs:Hs W=none:=s6'.free hW
    refine ⟨_,rfl,d,3,_,rfl,dk6.same sW,by lia,by decide,by decide,fun r3 H8 s8 dk8 g0 g1=>⟨r3,rfl,by lia,by lia,?_⟩⟩
    refine for_range (fun j σ H9=>(∃ u4 u6,σ=[some (.ref d),some (.int m),some (.ref SH),some (.ref F),u4,some (.ref W),u6])∧Same Hs H9∧Dk H9 d (n+400+20 * i+2+7 * j)∧H9 F=some (.lst (ls.map V.str))∧∃ l:List Str,H9 W=some (.lst (l.map V.str))∧WsOk l)
     ⟨⟨_,_,rfl⟩,keepS (s6'.trans sW) s8,dk8.mono (by lia),keepN s8 (sW _ _ hF6) hdF,ws,keepN s8 upd_same hdW,hws⟩ (fun j σ H9 hj q=>?_) (fun σ H9 q=>?_)
    ·obtain ⟨q0,s9,dk9,hF9,l,hW9,hl9⟩:=q
     apply ex_2 q0
     clear q0
     intro u4 u6
     have hlp:=hl9.pos
     have hlq:=hl9.le
     refine ⟨_,rfl,d,_,rfl,dk9,by lia,fun x H10 s10 dk10 hx=>?_⟩
     have hW10:=keepN s10 hW9 hdW
     refine ⟨_,rfl,_,rfl,_,rfl,W,_,rfl,.inl (.of hW10),d,_,_,rfl,dk10,by lia,by rw [List.length_map];lia,by rw [List.length_map];lia,fun rj H11 s11 dk11 j0 j1=>?_⟩
     have hW11:=keepN s11 hW10 hdW
     exact ⟨W,_,rj,_,rfl,rfl,hW11,ixN_in j0 j1,⟨_,_,rfl⟩,snap_upd hWs (keepS (keepS s9 s10) s11),(dk11.upd hdW).mono (by lia),by rw [upd_ne hFW];exact keepN s11 (keepN s10 hF9 hdF) hdF,l.set rj.toNat x,by rw [upd_same,List.map_set],hl9.set hx⟩
    ·obtain ⟨q0,s9,dk9,hF9,l,hW9,hl9⟩:=q
     apply ex_2 q0
     clear q0
     intro u4 u6
     have hlp:=hl9.pos
     have hlq:=hl9.le
     refine ⟨_,rfl,.inl ⟨rfl,_,.of hF9⟩,rfl,_,rfl, " ",W,l,rfl,rfl,.of hW9,join_fits (fun y hy=>(hl9.wd y hy).len) (by rw [h1];lia),F,_,_,rfl,rfl,hF9,small (by rw [List.length_map];lia),?_⟩
     have hF12:(upd H9 F (.lst (ls.map V.str++[.str (Txt.join " " l)]))) F=some (.lst ((ls++[Txt.join " " l]).map V.str)):=by rw [upd_same];simp
     have hok12:∀ x∈ls++[Txt.join " " l],∃ ws,LnOk 12 x ws:=fun x hx=>by
      rcases List.mem_append.mp hx with hx | hx
      ·exact hlok x hx
      ·simp only [List.mem_singleton] at hx
       subst hx
       exact ⟨l,hl9.line⟩
     refine ⟨_,rfl,d,6,_,rfl,dk9.upd hdF,by lia,by decide,by decide,fun r5 H13 s13 dk13 t0 t1=>⟨rfl,_,rfl,?_⟩⟩
     have hF13:=keepN s13 hF12 hdF
     have s13':=keepS (snap_upd (D:=F) (o:=.lst (ls.map V.str++[.str (Txt.join " " l)])) hFs s9) s13
     have hlen12:(ls++[Txt.join " " l]).length=ls.length+1:=by simp
     refine ite2 (fun _=>?_) (fun _=>?_)
     ·refine ⟨_,rfl,.inl ⟨rfl,_,.of hF13⟩,_,rfl,_,rfl,_,rfl,F,_,rfl,.inl (.of hF13),d,_,_,rfl,dk13,by lia,by rw [List.length_map];lia,by rw [List.length_map];lia,fun rq H14 s14 dk14 z0 z1=>?_⟩
      rw [List.length_map] at z1
      obtain ⟨x,hx,hat⟩:=at_strs z0 z1
      have hF14:=keepN s14 hF13 hdF
      refine ⟨F,_,_,_,rfl,rfl,.of hF14,hat,F,_,_,rfl,rfl,hF14,small (by rw [List.length_map];lia),⟨_,_,_,rfl⟩,snap_upd hFs (keepS s13' s14),(dk14.upd hdF).mono (by lia),(ls++[Txt.join " " l])++[x],by rw [upd_same];simp,by rw [List.length_append,hlen12];simp;lia,fun y hy=>?_⟩
      rcases List.mem_append.mp hy with hy | hy
      ·exact hok12 y hy
      ·simp only [List.mem_singleton] at hy
       subst hy
       exact hok12 y hx
     ·exact ⟨⟨_,_,_,rfl⟩,s13',dk13.mono (by lia),ls++[Txt.join " " l],hF13,by lia,hok12⟩
   ·obtain ⟨q0,s5,dk5,ls,hF5,hll,hlok⟩:=q
    apply ex_3 q0
    clear q0
    intro u4 u5 u6
    refine ⟨_,rfl,_,rfl,m,rfl,F,_,rfl,.of hF5,fun D hD=>?_⟩
    rw [cut_take hm0,← List.map_take]
    have hdD:d≠D:=dk5.ne hD
    have hDH:H D=none:=by
     have:=(hHs1.trans s5).free hD
     rwa [wo_at hdD.symm] at this
    exact k D (ls.take m.toNat) _ hDH ((hHs1.trans s5).trans (Same.new hD)) ((dk5.same (Same.new hD)).mono (by lia)) upd_same (fun x hx=>hlok x (List.mem_of_mem_take hx)) (by rw [List.length_take];lia)
end
end K10
namespace K10
open PySem L2 LG
section
variable {P:Program}{w:World}{K:PySem.W.Frag}{mg:Str→Option Value}{base:Heap}{A:Ad}
theorem sc_is_part_within:FnScope ["one", "other"] ["one", "other"] (defScope (top 13)):=⟨rfl,rfl,rfl,by decide +kernel,rfl,by decide +kernel,by decide +kernel⟩
set_option maxHeartbeats 8000000 in
theorem ok_is_part_within (T:Tx K mg A):FnOk P w K mg base CX0 4 A.f_is_part_within A.d_is_part_within ["one", "other"] (sp_is_part_within K):=by
 have G_is_hole:FnOk P w K mg base CX0 3 A.f_is_hole A.d_is_hole ["part"] (sp_is_hole K):=(ok_is_hole T).mono (by decide)
 have G_part_takes:FnOk P w K mg base CX0 3 A.f_part_takes A.d_part_takes ["part", "word"] (sp_part_takes K):=(ok_part_takes T).mono (by decide)
 refine T.is_part_within.fn.ok sc_is_part_within (fun vs H Q E h=>?_) (fun cdv Ar outer s H vs Q E hr h=>?_)
 ·obtain ⟨u,v,p,q,rfl,_⟩:=h;rfl
 ·obtain ⟨u,v,p,q,rfl,hu,hv,hp,hq,k⟩:=h
  obtain ⟨a,x1,y1,eu,hqa,_,hy1,hx⟩:=den_pt hu
  refine ⟨_,pss_cons (ps_if (pt_not (pt_val (pe_call G_is_hole hr (by rfl) T.is_hole.mg T.is_hole.fn.kp T.is_hole.bd .nil pass0 (pa_cons (pv 0) (pa_nil))))) (pss_one (ps_ret (pe_call G_part_takes hr (by rfl) T.part_takes.mg T.part_takes.fn.kp T.part_takes.bd .nil pass0 (pa_cons (pv 1) (pa_cons (pe_ix (r:=rIxT K) ix_tup (pv 0) (pe_int) (fun _ _=>rfl)) (pa_nil)))))) (pss_nil))
   (pss_one (ps_ret (pe_or (pe_cmpR (r:=rEqD K) (op_eqD hr) (pv 1) (pv 0) (nomark _)) (pe_one (pe_cmpR (r:=rEqD K) (op_eqD hr) (pv 1) (pe_tup (pa_cons (pe_str) (pa_cons (pe_str) (pa_nil)))) (nomark _)))))),?_⟩
  refine ⟨_,rfl,u,p,rfl,hu,_,rfl,?_⟩
  cases p with
  | word y=>
   obtain ⟨rfl,rfl⟩:=hx
   refine iteT ?_
   subst eu
   have hy:TOk y1:=hp
   exact ⟨_,rfl,_,rfl,a,_,1,_,rfl,rfl,hqa,rfl,v,y1,q,rfl,hv,hq,hy.1,k H (Same.refl _)⟩
  | hole m=>
   refine iteF ?_
   refine ⟨_,rfl,_,rfl,_,_,hv,hu,Nat.le_trans (dep_dat _) (by decide),_,rfl,?_⟩
   rw [pt_eqv hq hp]
   by_cases e:q = .hole m
   ·rw [decide_eq_true e]
    refine iteT ?_
    have:=k H (Same.refl _)
    have e2:(Pt.hole m).within q=true:=by rw [within_hole,decide_eq_true e];rfl
    rw [e2] at this
    exact this
   ·rw [decide_eq_false e]
    refine iteF ?_
    refine ⟨_,rfl,(by show 2≤sizeLine;decide),fun t ht=>?_⟩
    have st:Same H (upd H t (.tup [.str "hole",.str "any"])):=Same.new ht
    have h2:(Pt.hole 2).ok:=(by decide:2<3)
    refine ⟨_,_,hv.same st,(show Den K _ (.ref t) (Pt.hole 2).dat from .tup (.of upd_same) (.cons (.str (by decide +kernel)) (.cons (.str (by decide +kernel)) .nil))),Nat.le_trans (dep_dat _) (by decide),?_⟩
    rw [pt_eqv hq h2]
    have:=k _ st
    have e2:(Pt.hole m).within q=decide (q = .hole 2):=by rw [within_hole,decide_eq_false e];rfl
    rw [e2] at this
    exact this
end
end K10
namespace K10
open PySem L2 LG
section
variable {P:Program}{w:World}{K:PySem.W.Frag}{mg:Str→Option Value}{base:Heap}{A:Ad}
theorem sc_is_within:FnScope ["one", "other"] ["one", "other"] (defScope (top 14)):=⟨rfl,rfl,rfl,by decide +kernel,rfl,by decide +kernel,by decide +kernel⟩
set_option maxHeartbeats 8000000 in
theorem ok_is_within (T:Tx K mg A):FnOk P w K mg base CX0 5 A.f_is_within A.d_is_within ["one", "other"] (sp_is_within K):=by
 have G_is_part_within:FnOk P w K mg base CX0 4 A.f_is_part_within A.d_is_part_within ["one", "other"] (sp_is_part_within K):=(ok_is_part_within T).mono (by decide)
 refine T.is_within.fn.ok sc_is_within (fun vs H Q E h=>?_) (fun cdv Ar outer s H vs Q E hr h=>?_)
 ·obtain ⟨u,v,ps,qs,rfl,_⟩:=h;rfl
 ·obtain ⟨u,v,ps,qs,rfl,hu,hv,hp,hq,k⟩:=h
  obtain ⟨a,xs,eu,hqa,hda⟩:=den_pat hu
  obtain ⟨b,ys,ev,hqb,hdb⟩:=den_pat hv
  have hxl:xs.length=ps.length:=by rw [hda.length,List.length_map]
  have hyl:ys.length=qs.length:=by rw [hdb.length,List.length_map]
  have hpl:=hp.1
  refine ⟨_,pss_cons (ps_if (pt_cmpR (op_ne) (pe_callB (r:=rLenS K) call_lenS (by rfl) T.n_len PySem.boot_len (pa_cons (pv 0) (pa_nil))) (pe_callB (r:=rLenS K) call_lenS (by rfl) T.n_len PySem.boot_len (pa_cons (pv 1) (pa_nil))) (nomark _)) (pss_one (ps_ret (pe_bl))) (pss_nil))
   (pss_one (ps_ret (pe_callB (r:=rAll K) (call_all rfl) (by rfl) T.n_all bt_all (pa_cons (pe_comp (N':=["part", "wider"]) (n:=2) (fi:=[]) (g:=gTup K 2 (gCons (gName 0) (gCons (gName 1) (gNil)))) rfl (cscope (defScope (top 14)) ["one", "other"] (by decide +kernel)) (pi_zip (by rfl) T.n_zip (pa_cons (pv 0) (pa_cons (pv 1) (pa_nil)))) (fun s H fp=>pg_tup rfl (pgs_cons (pg_name (i:=0) (show (["part", "wider"]:List Str).Nodup by decide +kernel) rfl (Or.inl rfl) (.inr rfl)) (pgs_cons (pg_name (i:=1) (show (["part", "wider"]:List Str).Nodup by decide +kernel) rfl (Or.inl rfl) (.inr rfl)) (pgs_nil)))) (fun s H fp=>pifs_nil) (fun s H fp=>pe_call G_is_part_within hr (by rfl) T.is_part_within.mg T.is_part_within.fn.kp T.is_part_within.bd .nil pass0 (pa_cons (pv 0) (pa_cons (pv 1) (pa_nil))))) (pa_nil))))),?_⟩
  subst eu ev
  refine ⟨_,rfl,a,xs,rfl,.inl hqa,_,rfl,b,_,rfl,.inl hqb,rfl,_,rfl,?_⟩
  by_cases hl:ps.length=qs.length
  ·have e:decide (V.int (xs.length:Int)=V.int (ys.length:Int))=true:=decide_eq_true (by rw [hxl,hyl,hl])
   rw [e]
   refine iteF ?_
   refine ⟨_,rfl,_,rfl,a,b,rfl,⟨_,hqa⟩,⟨_,hqb⟩,fun D hD=>?_⟩
   refine comp_zip (K:=K) (xs:=xs) (ys:=ys) (fun i acc σ H2=>(∃ u v,σ=[u,v])∧Same H H2∧acc=(((ps.zip qs).take i).map fun p=>p.1.within p.2).map V.bl) upd_same ⟨⟨_,_,rfl⟩,Same.new hD,rfl⟩ (fun i acc σ H2 _ q=>⟨q.2.1.seq hqa,q.2.1.seq hqb⟩) (fun i x y acc σ H2 t hx hy hDx q ht=>?_) (fun acc σ H2 hDx q=>?_)
   ·obtain ⟨q0,s2,rfl⟩:=q
    apply ex_2 q0
    clear q0
    intro u v
    obtain ⟨p,hpi,hdp⟩:=dens_pt hda hx
    obtain ⟨q,hqi,hdq⟩:=dens_pt hdb hy
    have st:Same H2 (upd H2 t (.tup [x,y])):=Same.new ht
    refine compT2 (.of upd_same) ⟨_,rfl,_,rfl,x,y,p,q,rfl,hdp.same (s2.trans st),hdq.same (s2.trans st),hp.2 p (List.mem_of_getElem? hpi),hq.2 q (List.mem_of_getElem? hqi),fun H4 s4=>?_⟩
    have hi:=ge_len hpi
    refine ⟨_,s4 _ _ (st _ _ hDx),small (by simp only [List.length_map,List.length_take];lia),_,upd_same,⟨_,_,rfl⟩,snap_upd hD ((s2.trans st).trans s4),?_⟩
    have hz:(ps.zip qs)[i]? = some (p,q):=by rw [List.getElem?_zip_eq_some];exact ⟨hpi,hqi⟩
    rw [take_next hz,List.map_append]
    rfl
   ·obtain ⟨_,s2,rfl⟩:=q
    refine ⟨D,_,rfl,.of hDx,?_⟩
    rw [List.take_of_length_le (by rw [List.length_zip];lia)]
    have e2:(((ps.zip qs).map fun p=>p.1.within p.2).all id)=withinAll ps qs:=by
     unfold withinAll
     rw [decide_eq_true hl,Bool.true_and,List.all_map]
     rfl
    rw [e2]
    exact k H2 s2
  ·have e:decide (V.int (xs.length:Int)=V.int (ys.length:Int))=false:=decide_eq_false (fun q=>hl (by rw [hxl,hyl] at q;injection q with q;lia))
   rw [e]
   refine iteT ?_
   have e2:withinAll ps qs=false:=by unfold withinAll;rw [decide_eq_false hl];rfl
   have:=k H (Same.refl _)
   rw [e2] at this
   exact this
end
end K10
namespace K10
open PySem L2 LG
section
variable {P:Program}{w:World}{K:PySem.W.Frag}{mg:Str→Option Value}{base:Heap}{A:Ad}
theorem sc_word_key:FnScope ["word"] ["word"] (defScope (top 8)):=⟨rfl,rfl,rfl,by decide +kernel,rfl,by decide +kernel,by decide +kernel⟩
set_option maxHeartbeats 8000000 in
theorem ok_word_key (T:Tx K mg A):FnOk P w K mg base CX0 1 A.f_word_key A.d_word_key ["word"] (sp_word_key K):=by
 refine T.word_key.fn.ok sc_word_key (fun vs H Q E h=>?_) (fun cdv Ar outer s H vs Q E hr h=>?_)
 ·obtain ⟨x,rfl,_⟩:=h;rfl
 ·obtain ⟨x,rfl,hw,k⟩:=h
  refine ⟨_,pss_one (ps_ret (pe_tup (pa_cons (pe_callB call_len_str (by rfl) T.n_len PySem.boot_len (pa_cons (pv 0) (pa_nil))) (pa_cons (pv 0) (pa_nil))))),?_⟩
  exact ⟨_,rfl,x,rfl,hw.s,_,rfl,(by show 2≤sizeLine;decide),fun p hp=>k p hp⟩
end
end K10
namespace K10
open PySem L2 LG
section
variable {P:Program}{w:World}{K:PySem.W.Frag}{mg:Str→Option Value}{base:Heap}{A:Ad}
theorem sc_line_key:FnScope ["line", "words"] ["line"] (defScope (top 9)):=⟨rfl,rfl,rfl,by decide +kernel,rfl,by decide +kernel,by decide +kernel⟩
set_option maxHeartbeats 8000000 in
theorem ok_line_key (T:Tx K mg A):FnOk P w K mg base CX0 2 A.f_line_key A.d_line_key ["line"] (sp_line_key K):=by
 have G_words_of:FnOk P w K mg base CX0 1 A.f_words_of A.d_words_of ["line"] (sp_words_of K):=(ok_words_of T).mono (by decide)
 have G_word_key:FnOk P w K mg base CX0 1 A.f_word_key A.d_word_key ["word"] (sp_word_key K):=(ok_word_key T).mono (by decide)
 refine T.line_key.fn.ok sc_line_key (fun vs H Q E h=>?_) (fun cdv Ar outer s H vs Q E hr h=>?_)
 ·obtain ⟨z,rfl,_⟩:=h;rfl
 ·obtain ⟨z,rfl,hz,hzs,k⟩:=h
  refine ⟨_,pss_cons (ps_set (i:=1) sc_line_key.nd rfl (Or.inl rfl) (pe_call G_words_of hr (by rfl) T.words_of.mg T.words_of.fn.kp T.words_of.bd .nil pass0 (pa_cons (pv 0) (pa_nil))))
   (pss_one (ps_ret (pe_tup (pa_cons (pe_callB (r:=rLenS K) call_lenS (by rfl) T.n_len PySem.boot_len (pa_cons (pv 1) (pa_nil))) (pa_cons (pe_comp (N':=["word"]) (n:=1) (fi:=[]) (g:=gName 0) rfl (cscope (defScope (top 9)) ["line", "words"] (by decide +kernel)) (pi_list (pv 1)) (fun s H fp=>pg_name (i:=0) (show (["word"]:List Str).Nodup by decide +kernel) rfl (Or.inl rfl) (.inr rfl)) (fun s H fp=>pifs_nil) (fun s H fp=>pe_call G_word_key hr (by rfl) T.word_key.mg T.word_key.fn.kp T.word_key.bd .nil pass0 (pa_cons (pv 0) (pa_nil)))) (pa_nil)))))),?_⟩
  have hz':z.length≤10000:=hz
  refine ⟨_,rfl,z,rfl,hz,fun l hl=>?_⟩
  have sl:Same H (upd H l (.lst ((Txt.split z " ").map V.str))):=Same.new hl
  have hsz:=(L2.split_len1 (z:=z) (y:= " ")).2
  have hws:=ok_split (y:= " ") hzs
  generalize Txt.split z " " = ws at sl k hsz hws
  have hq:SqL K (upd H l (.lst (ws.map V.str))) l (ws.map V.str):=.of upd_same
  refine ⟨_,rfl,l,_,rfl,.inl hq,?_⟩
  rw [List.length_map]
  refine ⟨_,rfl,l,rfl,⟨_,hq⟩,fun D hD=>?_⟩
  generalize upd H l (.lst (ws.map V.str))=H1 at sl hq hD
  refine comp_list (K:=K) (xs:=ws.map V.str) (fun i acc σ H2=>(∃ u,σ=[u])∧Same H1 H2∧Dens K (lim (upd H1 D (.lst [])) H2) acc ((ws.take i).map wkD)) upd_same ⟨⟨_,rfl⟩,Same.new hD,.nil⟩ (fun i acc σ H2 _ _ p=>p.2.1.seq hq) (fun i x acc σ H2 hx hDx p=>?_) (fun acc σ H2 hDx p=>?_)
  ·obtain ⟨⟨u,rfl⟩,s2,dn⟩:=p
   obtain ⟨w,hw,rfl⟩:=strs_at hx
   have hi:=ge_len hw
   have hal:acc.length=i:=by rw [dn.length,List.length_map,List.length_take];lia
   have hwo:=hws w (List.mem_of_getElem? hw)
   refine compY ⟨_,rfl,w,rfl,Nat.le_trans hwo.2 hz,fun p hp=>⟨acc,(Same.new hp) _ _ hDx,small (by lia),_,upd_same,⟨_,rfl⟩,snap_upd hD (s2.trans (Same.new hp)),?_⟩⟩
   rw [lim_upd (ys:=[]) upd_same,take_next hw]
   exact (dn.same (lim_mono (Same.new hp))).append (.cons (.tup (.of ((lim_new (by rw [upd_ne (ne_of_none hDx hp).symm];exact s2.free hp)).trans upd_same)) (.cons (.int _) (.cons (.str hwo.1) .nil))) .nil)
  ·obtain ⟨_,s2,dn⟩:=p
   refine ⟨(by show 2≤sizeLine;decide),fun t ht=>?_⟩
   rw [List.length_map,List.take_of_length_le (Nat.le_refl _)] at dn
   refine k _ _ ((sl.trans s2).trans (Same.new ht)) ?_
   exact .tup (.of upd_same) (.cons (.int _) (.cons (.lst (.of ((Same.new ht) _ _ hDx)) ((dn.same lim_same).same (Same.new ht))) .nil))
end
end K10
namespace K10
open PySem L2 LG
section
variable {P:Program}{w:World}{K:PySem.W.Frag}{mg:Str→Option Value}{base:Heap}{A:Ad}
theorem at0 (y:V) (ys:List V):atI (y::ys) 0=some y:=atI_nat (xs:=y::ys) (j:=0) rfl
theorem sc_is_needless:FnScope ["pattern", "others"] ["pattern", "others"] (defScope (top 17)):=⟨rfl,rfl,rfl,by decide +kernel,rfl,by decide +kernel,by decide +kernel⟩
set_option maxHeartbeats 8000000 in
theorem ok_is_needless (T:Tx K mg A):FnOk P w K mg base CX0 6 A.f_is_needless A.d_is_needless ["pattern", "others"] (sp_is_needless K):=by
 have G_is_within:FnOk P w K mg base CX0 5 A.f_is_within A.d_is_within ["one", "other"] (sp_is_within K):=(ok_is_within T).mono (by decide)
 refine T.is_needless.fn.ok sc_is_needless (fun vs H Q E h=>?_) (fun cdv Ar outer s H vs Q E hr h=>?_)
 ·obtain ⟨u,b,xs,ps,oss,rfl,_⟩:=h;rfl
 ·obtain ⟨u,b,xs,ps,oss,rfl,hu,hq,hds,hp,ho,hx1000,k⟩:=h
  have hxl:xs.length=oss.length:=by rw [hds.length,List.length_map]
  refine ⟨_,pss_one (ps_ret (pe_callB (r:=rAny K) (call_any rfl) (by rfl) T.n_any bt_any (pa_cons (pe_comp (N':=["other", "pattern"]) (n:=1) (fi:=[0]) (g:=gName 0) rfl (cscope (defScope (top 17)) ["pattern", "others"] (by decide +kernel)) (pi_list (pv 1)) (fun s H fp=>pg_name (i:=0) (show (["other", "pattern"]:List Str).Nodup by decide +kernel) rfl (Or.inl rfl) (.inr rfl)) (fun s H fp=>pifs_nil) (fun s H fp=>pe_call G_is_within hr (by rfl) T.is_within.mg T.is_within.fn.kp T.is_within.bd .nil pass0 (pa_cons (pv 1) (pa_cons (pv 0) (pa_nil))))) (pa_nil)))),?_⟩
  refine ⟨_,rfl,b,rfl,⟨_,hq⟩,fun D hD=>?_⟩
  refine comp_list (K:=K) (xs:=xs) (fun i acc σ H2=>(∃ v,σ=[v,some u])∧Same H H2∧acc=((oss.take i).map fun os=>withinAll ps os).map V.bl) upd_same ⟨⟨_,rfl⟩,Same.new hD,rfl⟩ (fun i acc σ H2 _ _ q=>q.2.1.seq hq) (fun i x acc σ H2 hx hDx q=>?_) (fun acc σ H2 hDx q=>?_)
  ·obtain ⟨q0,s2,rfl⟩:=q
   apply ex_1 q0
   clear q0
   intro v
   obtain ⟨os,hoi,hdo⟩:=dens_pat hds hx
   have hi:=ge_len hoi
   refine compY ⟨_,rfl,_,rfl,u,x,ps,os,rfl,hu.same s2,hdo.same s2,hp,ho os (List.mem_of_getElem? hoi),fun H4 s4=>?_⟩
   refine ⟨_,s4 _ _ hDx,small (by simp only [List.length_map,List.length_take];lia),_,upd_same,⟨_,rfl⟩,snap_upd hD (s2.trans s4),?_⟩
   rw [take_next hoi,List.map_append]
   rfl
  ·obtain ⟨_,s2,rfl⟩:=q
   refine ⟨D,_,rfl,.of hDx,?_⟩
   rw [List.take_of_length_le (by lia)]
   have e2:((oss.map fun os=>withinAll ps os).any id)=needless ps oss:=by
    unfold needless
    rw [List.any_map]
    rfl
   rw [e2]
   exact k H2 s2
theorem sc_behind:FnScope ["patterns", "word"] ["patterns", "word"] (defScope (top 19)):=⟨rfl,rfl,rfl,by decide +kernel,rfl,by decide +kernel,by decide +kernel⟩
set_option maxHeartbeats 8000000 in
theorem ok_behind (T:Tx K mg A):FnOk P w K mg base CX0 4 A.f_behind A.d_behind ["patterns", "word"] (sp_behind K):=by
 have G_part_takes:FnOk P w K mg base CX0 3 A.f_part_takes A.d_part_takes ["part", "word"] (sp_part_takes K):=(ok_part_takes T).mono (by decide)
 refine T.behind.fn.ok sc_behind (fun vs H Q E h=>?_) (fun cdv Ar outer s H vs Q E hr h=>?_)
 ·obtain ⟨a,xs,oss,w,rfl,_⟩:=h;rfl
 ·obtain ⟨a,xs,oss,w,rfl,hq,hds,ho,hw,hx1000,k⟩:=h
  have hxl:xs.length=oss.length:=by rw [hds.length,List.length_map]
  refine ⟨_,pss_one (ps_ret (pe_comp (N':=["pattern", "word"]) (n:=1) (fi:=[1]) (g:=gName 0) rfl (cscope (defScope (top 19)) ["patterns", "word"] (by decide +kernel)) (pi_list (pv 0)) (fun s H fp=>pg_name (i:=0) (show (["pattern", "word"]:List Str).Nodup by decide +kernel) rfl (Or.inl rfl) (.inr rfl)) (fun s H fp=>pifs_one (pt_val (pe_call G_part_takes hr (by rfl) T.part_takes.mg T.part_takes.fn.kp T.part_takes.bd .nil pass0 (pa_cons (pe_ix (r:=rIxL K) ix_list (pv 0) (pe_int) (fun _ _=>rfl)) (pa_cons (pv 1) (pa_nil)))))) (fun s H fp=>pe_slice (r:=rSlL K) sl_list (pv 0) (po_some (pe_int)) (po_none)))),?_⟩
  refine ⟨_,rfl,a,rfl,⟨_,hq⟩,fun D hD=>?_⟩
  refine comp_list (K:=K) (xs:=xs) (fun i acc σ H2=>(∃ v,σ=[v,some (.str w)])∧Same H H2∧Dens K (lim (upd H D (.lst [])) H2) acc ((behindP (oss.take i) w).map patD)) upd_same ⟨⟨_,rfl⟩,Same.new hD,.nil⟩ (fun i acc σ H2 _ _ q=>q.2.1.seq hq) (fun i x acc σ H2 hx hDx q=>?_) (fun acc σ H2 hDx q=>?_)
  ·obtain ⟨q0,s2,dn⟩:=q
   apply ex_1 q0
   clear q0
   intro v
   obtain ⟨os,hoi,hdo⟩:=dens_pat hds hx
   have hi:=ge_len hoi
   have hom:=ho os (List.mem_of_getElem? hoi)
   have hal:acc.length≤i:=by
    rw [dn.length,List.length_map]
    exact Nat.le_trans (behind_many _ _) (by rw [List.length_take];lia)
   obtain ⟨c,ys,rfl,hqc,hdc⟩:=den_pat hdo
   cases os with
   | nil=>exact (hom.2 rfl).elim
   | cons p r=>
    cases hdc with
    | cons hd1 hdr=>
     rename_i y1 yr
     have eb:behindP (oss.take (i+1)) w=behindP (oss.take i) w++(if p.takes w=true then [r] else []):=by
      rw [List.take_add_one,hoi]
      show behindP (oss.take i++[p::r]) w=_
      unfold behindP
      rw [List.filter_append,List.map_append]
      congr 1
      by_cases ht:p.takes w=true
      ·rw [if_pos ht,List.filter_cons_of_pos (p:=startsW w) (a:=p::r) ht];rfl
      ·rw [if_neg ht,List.filter_cons_of_neg (p:=startsW w) (a:=p::r) ht];rfl
     refine ⟨_,rfl,c,_,0,_,rfl,rfl,s2.seq hqc,at0 _ _,_,rfl,y1,w,p,rfl,hd1.same s2,hom.1.2 p (List.mem_cons_self ..),hw,_,rfl,?_⟩
     by_cases ht:p.takes w=true
     ·rw [ht]
      refine iteT ⟨_,rfl,_,rfl,c,_,rfl,s2.seq hqc,fun t ht'=>?_⟩
      rw [cut_tail1]
      have st:Same H2 (upd H2 t (.lst yr)):=Same.new ht'
      have hDt:t≠D:=(ne_of_none hDx ht').symm
      refine ⟨acc,st _ _ hDx,small (by lia),_,upd_same,⟨_,rfl⟩,snap_upd hD (s2.trans st),?_⟩
      rw [eb,if_pos ht,List.map_append]
      rw [lim_upd (ys:=[]) upd_same]
      refine (dn.same (lim_mono st)).append (.cons (.lst (.of ((lim_new (by rw [upd_ne hDt];exact s2.free ht')).trans upd_same)) ?_) .nil)
      exact pts_lim (Same.new hD) (s2.trans st) hdr
     ·rw [Bool.eq_false_iff.mpr ht]
      refine iteF ⟨acc,hDx,⟨_,rfl⟩,s2,?_⟩
      rw [eb,if_neg ht,List.append_nil]
      exact dn
  ·obtain ⟨_,s2,dn⟩:=q
   rw [List.take_of_length_le (by lia)] at dn
   exact k D acc H2 hD s2 hDx (dn.same (lim_back (Same.new hD).ll))
end
end K10
namespace K10
open PySem L2 LG
section
variable {P:Program}{w:World}{K:PySem.W.Frag}{mg:Str→Option Value}{base:Heap}{A:Ad}
theorem nil_sg (c:Nat):(("" : Str)++sg c)=sg c:=str_ext (by
 rw [Str.cps_append,Array.toList_append]
 rfl)
theorem signs_comp {K:PySem.W.Frag}{H1:Hp}{p D:Addr}{Q:VK} (hp:H1 p=some (.lst [.str ""])) (hD:H1 D=none) (k:∀ H',Same H1 H'→H' D=some (.lst (sgL.map fun c=>V.str (sg c)))→Q (.ref D) H') :
  CompW2 (gName 0) tYes (iStr (tC (.str SIGNS))) (gName 1) tYes (tOp (fun x y H Q=>∃ i j,x = .str i∧y = .str j∧i.length+j.length≤sizeLine∧Q (.str (i++j)) H) (tVar 0) (tVar 1)) (Itl K p) D Q [none,none] (upd H1 D (.lst [])):=by
 have hpD:p≠D:=ne_of_none hp hD
 have hz:SIGNS.length=sgL.length:=by unfold sgL;simp [Str.length]
 refine ⟨fun i m σ H'=>(i=0∧m=1∧σ=[none,none]∧H' = upd H1 D (.lst []))∨(i=1∧Same H1 H'∧H' D=some (.lst (sgL.map fun c=>V.str (sg c)))),⟨1,.inl ⟨rfl,rfl,rfl,rfl⟩⟩,?_⟩
 rintro i m σ H' (⟨rfl,rfl,rfl,rfl⟩ | ⟨rfl,s',hD'⟩)
 ·refine .inr ⟨⟨_,_,.of (by rw [upd_ne hpD];exact hp),rfl⟩,fun σ' H'=>Same H1 H'∧H' D=some (.lst (sgL.map fun c=>V.str (sg c))),fun σ' H' q=>⟨0,Nat.one_pos,.inr ⟨rfl,q⟩⟩,?_⟩
  rintro x H2 ⟨rfl,hx⟩
  have hx0:=hx _ (.of (by rw [upd_ne hpD];exact hp))
  cases hx0
  refine compY (i:=0) (x:=.str "") (σ:=[none,none]) ?_
  refine ⟨SIGNS,rfl,?_⟩
  refine ⟨fun i m σ H'=>m=sgL.length - i∧i≤sgL.length∧(∃ u,σ=[some (.str ""),u])∧Same H1 H'∧H' D=some (.lst ((sgL.take i).map fun c=>V.str (sg c))),⟨_,rfl,Nat.zero_le _,⟨_,rfl⟩,Same.new hD,upd_same⟩,?_⟩
  rintro i m σ H' ⟨rfl,hi,⟨u,rfl⟩,s',hD'⟩
  rcases Nat.eq_or_lt_of_le hi with e | hlt
  ·left
   subst e
   rw [List.take_of_length_le (Nat.le_refl _)] at hD'
   exact ⟨Nat.le_of_eq hz,s',hD'⟩
  ·right
   refine ⟨show i<SIGNS.length by rw [hz];exact hlt,fun σ2 H2=>(∃ u,σ2=[some (.str ""),u])∧Same H1 H2∧H2 D=some (.lst ((sgL.take (i+1)).map fun c=>V.str (sg c))),fun σ2 H2 q=>⟨sgL.length - (i+1),by lia,rfl,hlt,q⟩,?_⟩
   rintro x H2 ⟨rfl,c,hc,rfl⟩
   have hc':sgL[i]? = some c:=by unfold sgL;rw [Array.getElem?_toList];exact hc
   refine compY (i:=1) ?_
   refine ⟨_,rfl,_,rfl,_,_,rfl,rfl,(by show 0+1≤sizeLine;decide),_,hD',small (by have:=sgL_len;rw [List.length_map,List.length_take];lia),⟨_,rfl⟩,snap_upd hD s',?_⟩
   have e:(("" : Str)++(⟨#[c]⟩:Str))=sg c:=nil_sg c
   rw [e,upd_same,List.take_add_one,hc',List.map_append]
   rfl
 ·exact .inl ⟨⟨_,.of (s' _ _ hp),Nat.le_refl _⟩,k H' s' hD'⟩
theorem sc_least_word_but:FnScope ["kind", "words", "texts", "text"] ["kind", "words"] (defScope (top 16)):=⟨rfl,rfl,rfl,by decide +kernel,rfl,by decide +kernel,by decide +kernel⟩
set_option maxHeartbeats 8000000 in
theorem ok_least_word_but (T:Tx K mg A):FnOk P w K mg base CX0 3 A.f_least_word_but A.d_least_word_but ["kind", "words"] (sp_least_word_but K):=by
 have G_kind_of:FnOk P w K mg base CX0 2 A.f_kind_of A.d_kind_of ["word"] (sp_kind_of K):=(ok_kind_of T).mono (by decide)
 refine T.least_word_but.fn.ok sc_least_word_but (fun vs H Q E h=>?_) (fun cdv Ar outer s H vs Q E hr h=>?_)
 ·obtain ⟨k,b,nm,rfl,_⟩:=h;rfl
 ·obtain ⟨k,b,nm,rfl,hk3,hq,hn,kk⟩:=h
  refine ⟨_,pss_cons (ps_set (i:=2) sc_least_word_but.nd rfl (Or.inl rfl) (pe_lst (pa_cons (pe_str) (pa_nil))))
   (pss_one (ps_while PassesOwn.never (pt_val (pe_bl)) (pss_cons (ps_comp2 (i:=2) (N':=["text", "sign"]) (n:=2) (fi:=[]) (g:=gName 0) (g2:=gName 1) sc_least_word_but.nd rfl (Or.inl rfl) rfl (cscope (defScope (top 16)) ["kind", "words", "texts", "text"] (by decide +kernel)) (pi_list (pv 2)) (fun s H fp=>pg_name (i:=0) (show (["text", "sign"]:List Str).Nodup by decide +kernel) rfl (Or.inl rfl) (.inr rfl)) (fun s H fp=>pifs_nil) (fun s H fp=>pi_str (pe_glob (v:=.str SIGNS) (by rfl) (Exists.choose_spec T.g_WORD_SIGNS) ⟨_,rfl⟩)) (fun s H fp=>pg_name (i:=1) (show (["text", "sign"]:List Str).Nodup by decide +kernel) rfl (Or.inl rfl) (.inr rfl)) (fun s H fp=>pifs_nil) (fun s H fp=>pe_op op_add_str (pv 0) (pv 1)))
   (pss_one (ps_for PassesOwn.never rfl (pi_list (pv 2)) (pg_name (i:=3) sc_least_word_but.nd rfl (Or.inl rfl)) (pss_one (ps_if ((pw_and (pt_cmpR (op_eq) (pe_call G_kind_of hr (by rfl) T.kind_of.mg T.kind_of.fn.kp T.kind_of.bd .nil pass0 (pa_cons (pv 3) (pa_nil))) (pv 0) (nomark _)) (pw_and1 (pt_cmpR (r:=rIn K true) (op_notIn_seq) (pv 3) (pv 1) (by rfl)))).pt) (pss_one (ps_ret (pv 3))) (pss_nil)))))))),?_⟩
  refine ⟨(by show 1≤sizeLine;decide),fun p hp=>?_⟩
  have sp':Same H (upd H p (.lst [.str ""])):=Same.new hp
  have hpp:(upd H p (.lst [.str ""])) p=some (.lst [.str ""]):=upd_same
  generalize upd H p (.lst [.str ""])=H1 at sp' hpp
  refine ⟨fun m σ H'=>σ=[some (.str (kindW k)),some (.ref b),some (.ref p),none]∧H' = H1,⟨0,rfl,rfl⟩,?_⟩
  rintro m σ H' ⟨rfl,rfl⟩
  refine ⟨_,rfl,iteT ⟨fun _ _=>False,fun _ _ q=>q.elim,?_⟩⟩
  refine ⟨_,rfl,p,rfl,⟨_,.of hpp⟩,fun D hD=>?_⟩
  refine signs_comp hpp hD fun H2 s2 hD2=>?_
  have hs:Same H H2:=sp'.trans s2
  have hqD:SqL K H2 D (sgL.map fun c=>V.str (sg c)):=.of hD2
  refine ⟨_,rfl,D,rfl,⟨_,hqD⟩,?_⟩
  refine for_list (K:=K) (xs:=sgL.map fun c=>V.str (sg c)) (fun i σ H3=>(∃ u,σ=[some (.str (kindW k)),some (.ref b),some (.ref D),u])∧H3=H2∧∀ (j d:Nat),j<i→sgL[j]? = some d → ¬ (kindT (sg d)=k∧sg d∉nm)) ⟨⟨_,rfl⟩,rfl,fun j d hj=>absurd hj (Nat.not_lt_zero _)⟩ (fun i σ H3 _ q=>by rw [q.2.1];exact hqD) (fun i x σ H3 hx q=>?_) (fun σ H3 q=>?_)
  ·obtain ⟨q0,rfl,hb⟩:=q
   apply ex_1 q0
   clear q0
   intro u
   rw [List.getElem?_map] at hx
   cases e:sgL[i]? with
   | none=>rw [e] at hx;cases hx
   | some c=>
    rw [e] at hx
    cases hx
    have hsg:=sgL_mem.mp (List.mem_of_getElem? e)
    refine ⟨_,rfl,sg c,rfl,(by show 1≤10000;decide),_,rfl,rfl,_,rfl,?_⟩
    rw [kindW_inj (kindT_lt _) hk3]
    have nxt:∀ {q:Prop},¬ (kindT (sg c)=k∧sg c∉nm)→(∀ (j d:Nat),j<i+1→sgL[j]? = some d → ¬ (kindT (sg d)=k∧sg d∉nm)):=fun {q} hc j d hj hd=>by
     rcases Nat.lt_or_ge j i with z | z
     ·exact hb j d z hd
     ·have:j=i:=by lia
      subst this
      rw [e] at hd
      cases hd
      exact hc
    by_cases h1:kindT (sg c)=k
    ·rw [decide_eq_true h1]
     refine iteT ?_
     have hin:inV (.str (sg c)) (nm.map V.str)=decide (sg c∈nm):=by
      unfold inV
      rw [List.any_map,Bool.eq_iff_iff,List.any_eq_true,decide_eq_true_eq]
      constructor
      ·rintro ⟨y,hy,he⟩
       have:y=sg c:=by
        have he':eqV (.str y) (.str (sg c))=true:=he
        simpa [eqV] using he'
       rw [← this];exact hy
      ·intro hm
       exact ⟨sg c,hm,by show eqV (.str (sg c)) (.str (sg c))=true;simp [eqV]⟩
     refine ⟨_,rfl,_,rfl,b,_,rfl,.inl (hs.seq hq),rfl,by simp [flatV],_,rfl,?_⟩
     rw [if_pos rfl,hin]
     by_cases h2:sg c∈nm
     ·rw [decide_eq_true h2]
      exact iteF ⟨⟨_,rfl⟩,rfl,nxt (q:=True) fun z=>z.2 h2⟩
     ·rw [decide_eq_false h2]
      refine iteT ⟨_,rfl,?_⟩
      exact kk _ _ hs (lw_of e h1 h2 hb)
    ·rw [decide_eq_false h1]
     refine iteF (iteF ⟨⟨_,rfl⟩,rfl,nxt (q:=True) fun z=>h1 z.1⟩)
  ·obtain ⟨_,rfl,hb⟩:=q
   obtain ⟨c,hc,h1,h2⟩:=sign_there hk3 hn
   obtain ⟨j,hj⟩:=List.getElem?_of_mem hc
   rw [List.length_map] at hb
   exact hb j c (ge_len hj) hj ⟨h1,h2⟩
end
end K10
namespace K10
open PySem L2 LG
section
variable {P:Program}{w:World}{K:PySem.W.Frag}{mg:Str→Option Value}{base:Heap}{A:Ad}
theorem named_app:∀ (a b:List Pt),named (a++b)=named a++named b
 | [],_=>rfl
 | .word x::r,b=>by show x::named (r++b)=_;rw [named_app r b];rfl
 | .hole _::r,b=>named_app r b
theorem comp_tupX {K:PySem.W.Frag}{g:TG}{tt:TT}{te:TE}{D:Addr}{Q:VK}{σ:St}{H:Hp}{a:Addr}{xs:List V} (Pv:Nat→List V→St→Hp→Prop) (hD:H D=some (.lst [])) (h0:Pv 0 [] σ H) (hl:∀ i acc σ H,i≤xs.length→H D=some (.lst acc)→Pv i acc σ H→SqT K H a xs)
  (hs:∀ i x acc σ H,xs[i]? = some x→H D=some (.lst acc)→Pv i acc σ H→g x σ H fun σ2 H2=>tt σ2 H2 fun b H3=>if b=true then te σ2 H3 fun v H4=>∃ ys,H4 D=some (.lst ys)∧ys.length<sizeLine∧CN D (Pv (i+1)) σ2 (upd H4 D (.lst (ys++[v]))) else CN D (Pv (i+1)) σ2 H3)
  (hd:∀ acc σ H,H D=some (.lst acc)→Pv xs.length acc σ H→Q (.ref D) H):CompW g tt te (Itt K a) D Q σ H:=by
 refine comp_gen xs.length Pv hD h0 (fun i acc σ H hi hacc p=>⟨xs,xs[i],hl i acc σ H (Nat.le_of_lt hi) hacc p,by simp [hi]⟩) (fun acc σ H hacc p=>⟨xs,hl _ acc σ H (Nat.le_refl _) hacc p,Nat.le_refl _⟩) (fun i acc σ H x H' hi hacc p y=>?_) hd
 obtain ⟨e,y⟩:=y
 subst e
 exact hs i x acc σ _ (y xs (hl i acc σ _ (Nat.le_of_lt hi) hacc p)) hacc p
theorem sc_words_to_try:FnScope ["part", "beside", "named", "words"] ["part", "beside"] (defScope (top 18)):=⟨rfl,rfl,rfl,by decide +kernel,rfl,by decide +kernel,by decide +kernel⟩
set_option maxHeartbeats 8000000 in
theorem ok_words_to_try (T:Tx K mg A):FnOk P w K mg base CX0 4 A.f_words_to_try A.d_words_to_try ["part", "beside"] (sp_words_to_try K):=by
 have G_is_hole:FnOk P w K mg base CX0 3 A.f_is_hole A.d_is_hole ["part"] (sp_is_hole K):=(ok_is_hole T).mono (by decide)
 have G_least_word_but:FnOk P w K mg base CX0 3 A.f_least_word_but A.d_least_word_but ["kind", "words"] (sp_least_word_but K):=(ok_least_word_but T).mono (by decide)
 have G_part_takes:FnOk P w K mg base CX0 3 A.f_part_takes A.d_part_takes ["part", "word"] (sp_part_takes K):=(ok_part_takes T).mono (by decide)
 refine T.words_to_try.fn.ok sc_words_to_try (fun vs H Q E h=>?_) (fun cdv Ar outer s H vs Q E hr h=>?_)
 ·obtain ⟨v,b,xs,p,qs,rfl,_⟩:=h;rfl
 ·obtain ⟨v,b,xs,p,qs,rfl,hd,hq,hds,hp,hqs,h9,k⟩:=h
  obtain ⟨a,x1,y1,ev,hqa,_,_,hx⟩:=den_pt hd
  have hxl:xs.length=qs.length:=by rw [hds.length,List.length_map]
  refine ⟨_,pss_cons (ps_if (pt_not (pt_val (pe_call G_is_hole hr (by rfl) T.is_hole.mg T.is_hole.fn.kp T.is_hole.bd .nil pass0 (pa_cons (pv 0) (pa_nil))))) (pss_one (ps_ret (pe_lst (pa_cons (pe_ix (r:=rIxT K) ix_tup (pv 0) (pe_int) (fun _ _=>rfl)) (pa_nil))))) (pss_nil))
   (pss_cons (ps_set (i:=2) sc_words_to_try.nd rfl (Or.inr rfl) (pe_comp (N':=["other"]) (n:=1) (fi:=[]) (g:=gName 0) rfl (cscope (defScope (top 18)) ["part", "beside", "named", "words"] (by decide +kernel)) (pi_list (pv 1)) (fun s H fp=>pg_name (i:=0) (show (["other"]:List Str).Nodup by decide +kernel) rfl (Or.inl rfl) (.inr rfl)) (fun s H fp=>pifs_one (pt_not (pt_val (pe_call G_is_hole hr (by rfl) T.is_hole.mg T.is_hole.fn.kp T.is_hole.bd .nil pass0 (pa_cons (pv 0) (pa_nil)))))) (fun s H fp=>pe_ix (r:=rIxT K) ix_tup (pv 0) (pe_int) (fun _ _=>rfl))))
   (pss_cons (ps_set (i:=3) sc_words_to_try.nd rfl (Or.inl rfl) (pe_op (r:=rCatS K) op_catS (pv 2) (pe_comp (N':=["kind", "named"]) (n:=1) (fi:=[2]) (g:=gName 0) rfl (cscope (defScope (top 18)) ["part", "beside", "named", "words"] (by decide +kernel)) (pi_tup (pe_tup (pa_cons (pe_str) (pa_cons (pe_str) (pa_cons (pe_str) (pa_nil)))))) (fun s H fp=>pg_name (i:=0) (show (["kind", "named"]:List Str).Nodup by decide +kernel) rfl (Or.inl rfl) (.inr rfl)) (fun s H fp=>pifs_nil) (fun s H fp=>pe_call G_least_word_but hr (by rfl) T.least_word_but.mg T.least_word_but.fn.kp T.least_word_but.bd .nil pass0 (pa_cons (pv 0) (pa_cons (pv 1) (pa_nil)))))))
   (pss_one (ps_ret (pe_comp (N':=["word", "part"]) (n:=1) (fi:=[0]) (g:=gName 0) rfl (cscope (defScope (top 18)) ["part", "beside", "named", "words"] (by decide +kernel)) (pi_list (pv 3)) (fun s H fp=>pg_name (i:=0) (show (["word", "part"]:List Str).Nodup by decide +kernel) rfl (Or.inl rfl) (.inr rfl)) (fun s H fp=>pifs_one (pt_val (pe_call G_part_takes hr (by rfl) T.part_takes.mg T.part_takes.fn.kp T.part_takes.bd .nil pass0 (pa_cons (pv 1) (pa_cons (pv 0) (pa_nil)))))) (fun s H fp=>pv 0)))))),?_⟩
  refine ⟨_,rfl,v,p,rfl,hd,_,rfl,?_⟩
  cases p with
  | word y=>
   obtain ⟨rfl,rfl⟩:=hx
   subst ev
   refine iteT ⟨_,rfl,a,_,1,_,rfl,rfl,hqa,rfl,(by show 1≤sizeLine;decide),fun D hD=>?_⟩
   exact k D _ [y1] hD (Same.new hD) upd_same ⟨[],rfl,.inl ⟨_,rfl⟩⟩
  | hole m=>
   refine iteF ?_
   refine ⟨_,rfl,b,rfl,⟨_,hq⟩,fun N hN=>?_⟩
   refine comp_list (K:=K) (xs:=xs) (fun i acc σ H2=>(∃ u,σ=[u])∧Same H H2∧acc=(named (qs.take i)).map V.str) upd_same ⟨⟨_,rfl⟩,Same.new hN,rfl⟩ (fun i acc σ H2 _ _ q=>q.2.1.seq hq) (fun i x acc σ H2 hx hDx q=>?_) (fun acc σ H2 hDx q=>?_)
   ·obtain ⟨q0,s2,rfl⟩:=q
    apply ex_1 q0
    clear q0
    intro u
    obtain ⟨q,hqi,hdq⟩:=dens_pt hds hx
    have hi:=ge_len hqi
    obtain ⟨c,x2,y2,rfl,hqc,_,_,hx2⟩:=den_pt hdq
    have hal:((named (qs.take i)).map V.str).length≤i:=by
     rw [List.length_map]
     exact Nat.le_trans (named_len _) (by rw [List.length_take];lia)
    have en:named (qs.take (i+1))=named (qs.take i)++named [q]:=by rw [List.take_add_one,hqi,← named_app];rfl
    refine ⟨_,rfl,_,q,rfl,hdq.same s2,_,rfl,?_⟩
    cases q with
    | word y=>
     obtain ⟨rfl,rfl⟩:=hx2
     refine iteT ⟨_,rfl,c,_,1,_,rfl,rfl,s2.seqT hqc,rfl,_,hDx,small (by lia),_,upd_same,⟨_,rfl⟩,snap_upd hN s2,?_⟩
     rw [en,List.map_append]
     rfl
    | hole j=>
     refine iteF ⟨_,hDx,⟨_,rfl⟩,s2,?_⟩
     rw [en]
     simp [named]
   ·obtain ⟨_,s2,rfl⟩:=q
    rw [List.take_of_length_le (by lia)] at hDx
    have hnl:(named qs).length≤9:=Nat.le_trans (named_len qs) h9
    refine ⟨_,rfl,(by show 3≤sizeLine;decide),fun t ht=>⟨t,rfl,⟨_,.of upd_same⟩,fun D hD=>?_⟩⟩
    have st:Same H2 (upd H2 t (.tup [.str "number",.str "name",.str "other"])):=Same.new ht
    have htt:(upd H2 t (.tup [.str "number",.str "name",.str "other"])) t=some (.tup [.str "number",.str "name",.str "other"]):=upd_same
    generalize upd H2 t (.tup [.str "number",.str "name",.str "other"])=H3 at st htt hD
    have hN3:=st _ _ hDx
    refine comp_tupX (K:=K) (xs:=[.str "number",.str "name",.str "other"]) (fun i acc σ H4=>(∃ u,σ=[u,some (.ref N)])∧Same H3 H4∧∃ l:List Str,acc=l.map V.str∧l.length=i∧∀ (j:Nat) x,l[j]? = some x→LW j (named qs) x) upd_same ⟨⟨_,rfl⟩,Same.new hD,[],rfl,rfl,fun j x hj=>by simp at hj⟩ (fun i acc σ H4 _ _ q=>.of (q.2.1 _ _ htt)) (fun i x acc σ H4 hx hDx q=>?_) (fun acc σ H4 hDx q=>?_)
    ·obtain ⟨q0,s4,l,rfl,hll,hlw⟩:=q
     apply ex_1 q0
     clear q0
     intro u
     have hi3:i<3:=ge_len hx
     have hxk:x = .str (kindW i):=by
      have:i=0∨i=1∨i=2:=by lia
      rcases this with rfl | rfl | rfl <;> (cases hx;rfl)
     subst hxk
     refine compY ⟨_,rfl,_,rfl,i,N,named qs,rfl,hi3,.of (s4 _ _ hN3),hnl,fun x H5 s5 hx5=>?_⟩
     refine ⟨_,s5 _ _ hDx,small (by rw [List.length_map];lia),_,upd_same,⟨_,rfl⟩,snap_upd hD (s4.trans s5),l++[x],by simp,by simp [hll],fun j y hj=>?_⟩
     rcases Nat.lt_or_ge j l.length with z | z
     ·rw [List.getElem?_append_left z] at hj;exact hlw j y hj
     ·rw [List.getElem?_append_right z] at hj
      have:j - l.length=0:=by
       have:=ge_len hj
       simp at this
       lia
      rw [this] at hj
      cases hj
      have:j=i:=by lia
      subst this
      exact hx5
    ·obtain ⟨_,s4,l,rfl,hll,hlw⟩:=q
     have hl3:l.length=3:=hll
     match l,hl3 with
     | [x0,x1,x2],_=>
      refine ⟨N,D,_,_,rfl,rfl,.of (s4 _ _ hN3),.of hDx,by rw [List.length_map,List.length_map];exact Nat.le_trans (Nat.add_le_add hnl (Nat.le_refl 3)) (by decide),fun C hC=>?_⟩
      have s5:Same H4 (upd H4 C (.lst ((named qs).map V.str++[x0,x1,x2].map V.str))):=Same.new hC
      have hCC:(upd H4 C (.lst ((named qs).map V.str++[x0,x1,x2].map V.str))) C=some (.lst ((named qs++[x0,x1,x2]).map V.str)):=by rw [upd_same,List.map_append]
      generalize upd H4 C (.lst ((named qs).map V.str++[x0,x1,x2].map V.str))=H5 at s5 hCC
      have hs:Same H H5:=((s2.trans st).trans s4).trans s5
      have l0:=hlw 0 x0 rfl
      have l1:=hlw 1 x1 rfl
      have l2:=hlw 2 x2 rfl
      have hwb:∀ x∈named qs++[x0,x1,x2],Bd x:=fun x hx=>by
       rcases List.mem_append.mp hx with z | z
       ·exact (hqs _ (mem_named.mp z)).2
       ·simp only [List.mem_cons,List.not_mem_nil,or_false] at z
        rcases z with rfl | rfl | rfl
        ·exact l0.bd
        ·exact l1.bd
        ·exact l2.bd
      have hwl:(named qs++[x0,x1,x2]).length≤12:=by rw [List.length_append];exact Nat.add_le_add hnl (Nat.le_refl 3)
      refine ⟨_,rfl,C,rfl,⟨_,.of hCC⟩,fun F hF=>?_⟩
      generalize hcs:named qs++[x0,x1,x2]=cs at hCC hwb hwl
      refine comp_list (K:=K) (xs:=cs.map V.str) (fun i acc σ H6=>(∃ u,σ=[u,some v])∧Same H5 H6∧acc=((cs.take i).filter (Pt.hole m).takes).map V.str) upd_same ⟨⟨_,rfl⟩,Same.new hF,rfl⟩ (fun i acc σ H6 _ _ q=>.of (q.2.1 _ _ hCC)) (fun i x acc σ H6 hx hFx q=>?_) (fun acc σ H6 hFx q=>?_)
      ·obtain ⟨q0,s6,rfl⟩:=q
       apply ex_1 q0
       clear q0
       intro u
       obtain ⟨w,hw,rfl⟩:=strs_at hx
       have hi:=ge_len hw
       have hbd:=hwb w (List.mem_of_getElem? hw)
       have hal:(((cs.take i).filter (Pt.hole m).takes).map V.str).length≤12:=by
        rw [List.length_map]
        exact Nat.le_trans (List.length_filter_le _ _) (by rw [List.length_take];lia)
       refine ⟨_,rfl,_,rfl,v,w,.hole m,rfl,hd.same (hs.trans s6),hp,Nat.le_trans hbd.1 (by decide),_,rfl,?_⟩
       have et:(cs.take (i+1)).filter (Pt.hole m).takes=(cs.take i).filter (Pt.hole m).takes++[w].filter (Pt.hole m).takes:=by rw [List.take_add_one,hw,← List.filter_append];rfl
       by_cases htk:(Pt.hole m).takes w=true
       ·rw [htk]
        refine iteT ⟨_,rfl,_,hFx,small (by lia),_,upd_same,⟨_,rfl⟩,snap_upd hF s6,?_⟩
        rw [et,List.filter_cons_of_pos htk,List.map_append]
        rfl
       ·rw [Bool.eq_false_iff.mpr htk]
        refine iteF ⟨_,hFx,⟨_,rfl⟩,s6,?_⟩
        rw [et,List.filter_cons_of_neg htk]
        simp
      ·obtain ⟨_,s6,rfl⟩:=q
       rw [List.length_map,List.take_of_length_le (Nat.le_refl _)] at hFx
       refine k F H6 _ (hs.free hF) (hs.trans s6) hFx ⟨[x0,x1,x2],?_,.inr ⟨x0,x1,x2,rfl,l0,l1,l2⟩⟩
       rw [← hcs]
       rfl
end
end K10
namespace K10
open PySem L2 LG
section
variable {P:Program}{w:World}{K:PySem.W.Frag}{mg:Str→Option Value}{base:Heap}{A:Ad}
theorem heads_pw {oss:List (List Pt)} (h:∀ os∈oss,PW os∧os≠[]∧os.length≤12):PW (heads oss):=fun p hp=>by
 obtain ⟨os,ho,rfl⟩:=List.mem_map.mp hp
 obtain ⟨h1,h2,_⟩:=h os ho
 cases os with
 | nil=>exact (h2 rfl).elim
 | cons q r=>exact h1 q (List.mem_cons_self ..)
theorem cands_ok {p:Pt}{ps:List Pt}{oss:List (List Pt)}{l:List Str} (hp:PtW p) (ho:∀ os∈oss,PW os∧os≠[]) (hc:Cands p (heads oss) l) {y:Str}
  (ty:p.takes y=true) (ny:needless ps (behindP oss y)=false):∃ x∈l,needless ps (behindP oss x)=false∧wlt y x=false:=by
 obtain ⟨ls,rfl,h⟩:=hc
 rcases h with ⟨x,rfl⟩ | ⟨x0,x1,x2,rfl,h0,h1,h2⟩
 ·have e:y=x:=of_decide_eq_true ty
  subst e
  exact ⟨y,List.mem_singleton.mpr rfl,ny,wlt_irr y⟩
 ·exact cand_ok hp ho h0 h1 h2 ty ny
theorem cands_bd {p:Pt}{qs:List Pt}{l:List Str} (hp:PtW p) (hq:PW qs) (hc:Cands p qs l):∀ x∈l,Bd x∧p.takes x=true:=fun x hx=>by
 obtain ⟨ls,rfl,h⟩:=hc
 refine ⟨?_,cand_takes hx⟩
 rcases h with ⟨y,rfl⟩ | ⟨x0,x1,x2,rfl,h0,h1,h2⟩
 ·have:=List.mem_singleton.mp hx
  subst this
  exact hp.2
 ·refine cand_bd hp hq (fun y hy=>?_) hx
  simp only [List.mem_cons,List.not_mem_nil,or_false] at hy
  rcases hy with rfl | rfl | rfl
  ·exact h0.bd
  ·exact h1.bd
  ·exact h2.bd
theorem cands_len {p:Pt}{qs:List Pt}{l:List Str} (hc:Cands p qs l) (h9:qs.length≤9):l.length≤12:=by
 obtain ⟨ls,rfl,h⟩:=hc
 rcases h with ⟨y,rfl⟩ | ⟨x0,x1,x2,rfl,_⟩
 ·exact (by decide:1≤12)
 ·cases p with
  | word x=>exact (by decide:1≤12)
  | hole m=>
   refine Nat.le_trans (List.length_filter_le _ _) ?_
   rw [List.length_append]
   exact Nat.add_le_add (Nat.le_trans (named_len qs) h9) (Nat.le_refl 3)
theorem pok_of {ps:List Pt} (h:PW ps) (hl:ps.length≤12):POk ps:=⟨Nat.le_trans hl (by decide),fun p hp=>(h p hp).ok⟩
theorem sc_first_word_past:FnScope ["pattern", "others", "words"] ["pattern", "others"] (defScope (top 20)):=⟨rfl,rfl,rfl,by decide +kernel,rfl,by decide +kernel,by decide +kernel⟩
set_option maxHeartbeats 8000000 in
theorem ok_first_word_past (T:Tx K mg A):FnOk P w K mg base CX0 7 A.f_first_word_past A.d_first_word_past ["pattern", "others"] (sp_first_word_past K):=by
 have G_words_to_try:FnOk P w K mg base CX0 6 A.f_words_to_try A.d_words_to_try ["part", "beside"] (sp_words_to_try K):=(ok_words_to_try T).mono (by decide)
 have GK_word_key:FnOk P w K mg base CX0 5 A.f_word_key A.d_word_key ["word"] (sp_word_key K):=(ok_word_key T).mono (by decide)
 have G_is_needless:FnOk P w K mg base CX0 6 A.f_is_needless A.d_is_needless ["pattern", "others"] (sp_is_needless K):=(ok_is_needless T).mono (by decide)
 have G_behind:FnOk P w K mg base CX0 6 A.f_behind A.d_behind ["patterns", "word"] (sp_behind K):=(ok_behind T).mono (by decide)
 refine T.first_word_past.fn.ok sc_first_word_past (fun vs H Q E h=>?_) (fun cdv Ar outer s H vs Q E hr h=>?_)
 ·obtain ⟨u,b,xs,p,ps,oss,rfl,_⟩:=h;rfl
 ·obtain ⟨u,b,xs,p,ps,oss,rfl,hu,hq,hds,hpw,hpl,ho,h9,hnd,k⟩:=h
  have hxl:xs.length=oss.length:=by rw [hds.length,List.length_map]
  have hp:PtW p:=hpw p (List.mem_cons_self ..)
  have hps:PW ps:=fun x hx=>hpw x (List.mem_cons_of_mem _ hx)
  obtain ⟨a,ys,eu,hqa,hda⟩:=den_pat hu
  subst eu
  cases hda with
  | cons hd1 hdr=>
   rename_i y1 yr
   refine ⟨_,pss_cons (ps_set (i:=2) sc_first_word_past.nd rfl (Or.inl rfl) (pe_call G_words_to_try hr (by rfl) T.words_to_try.mg T.words_to_try.fn.kp T.words_to_try.bd .nil pass0 (pa_cons (pe_ix (r:=rIxL K) ix_list (pv 0) (pe_int) (fun _ _=>rfl)) (pa_cons (pe_comp (N':=["other"]) (n:=1) (fi:=[]) (g:=gName 0) rfl (cscope (defScope (top 20)) ["pattern", "others", "words"] (by decide +kernel)) (pi_list (pv 1)) (fun s H fp=>pg_name (i:=0) (show (["other"]:List Str).Nodup by decide +kernel) rfl (Or.inl rfl) (.inr rfl)) (fun s H fp=>pifs_nil) (fun s H fp=>pe_ix (r:=rIxL K) ix_list (pv 0) (pe_int) (fun _ _=>rfl))) (pa_nil)))))
   (pss_one (ps_ret (pe_minO GK_word_key hr T.word_key.bd rfl (by rfl) T.n_min (by rfl) T.word_key.mg (pa_cons (pe_comp (N':=["word", "pattern", "others"]) (n:=1) (fi:=[0,1]) (g:=gName 0) rfl (cscope (defScope (top 20)) ["pattern", "others", "words"] (by decide +kernel)) (pi_list (pv 2)) (fun s H fp=>pg_name (i:=0) (show (["word", "pattern", "others"]:List Str).Nodup by decide +kernel) rfl (Or.inl rfl) (.inr rfl)) (fun s H fp=>pifs_one (pt_not (pt_val (pe_call G_is_needless hr (by rfl) T.is_needless.mg T.is_needless.fn.kp T.is_needless.bd .nil pass0 (pa_cons (pe_slice (r:=rSlL K) sl_list (pv 1) (po_some (pe_int)) (po_none)) (pa_cons (pe_call G_behind hr (by rfl) T.behind.mg T.behind.fn.kp T.behind.bd .nil pass0 (pa_cons (pv 2) (pa_cons (pv 0) (pa_nil)))) (pa_nil))))))) (fun s H fp=>pv 0)) (pa_nil))))),?_⟩
   refine ⟨_,rfl,a,_,0,_,rfl,rfl,hqa,at0 _ _,?_⟩
   refine ⟨_,rfl,b,rfl,⟨_,hq⟩,fun D hD=>?_⟩
   refine comp_list (K:=K) (xs:=xs) (fun i acc σ H2=>(∃ u,σ=[u])∧Same H H2∧Dens K H acc ((heads (oss.take i)).map Pt.dat)) upd_same ⟨⟨_,rfl⟩,Same.new hD,.nil⟩ (fun i acc σ H2 _ _ q=>q.2.1.seq hq) (fun i x acc σ H2 hx hDx q=>?_) (fun acc σ H2 hDx q=>?_)
   ·obtain ⟨q0,s2,dn⟩:=q
    apply ex_1 q0
    clear q0
    intro u
    obtain ⟨os,hoi,hdo⟩:=dens_pat hds hx
    have hi:=ge_len hoi
    have hom:=ho os (List.mem_of_getElem? hoi)
    have hal:acc.length≤9:=by
     rw [dn.length,List.length_map]
     unfold heads
     rw [List.length_map,List.length_take]
     lia
    obtain ⟨c,zs,rfl,hqc,hdc⟩:=den_pat hdo
    cases os with
    | nil=>exact (hom.2.1 rfl).elim
    | cons q r=>
     cases hdc with
     | cons hc1 hcr=>
      refine compY ⟨_,rfl,c,_,0,_,rfl,rfl,s2.seq hqc,at0 _ _,acc,hDx,small (by lia),_,upd_same,⟨_,rfl⟩,snap_upd hD s2,?_⟩
      have e:heads (oss.take (i+1))=heads (oss.take i)++[q]:=by
       unfold heads
       rw [List.take_add_one,hoi,List.map_append]
       rfl
      rw [e,List.map_append]
      exact dn.append (.cons hc1 .nil)
   ·obtain ⟨_,s2,dn⟩:=q
    rw [List.take_of_length_le (by lia)] at dn
    have hhl:(heads oss).length≤9:=by unfold heads;rw [List.length_map];exact h9
    refine ⟨y1,D,acc,p,heads oss,rfl,hd1.same s2,.of hDx,dn.same s2,hp,heads_pw ho,hhl,fun W H3 l hW s3 hW3 hc=>?_⟩
    have hs3:Same H H3:=s2.trans s3
    have hbd:=cands_bd hp (heads_pw ho) hc
    have hcl:=cands_len hc hhl
    have hne:∀ os∈oss,PW os∧os≠[]:=fun os h=>⟨(ho os h).1,(ho os h).2.1⟩
    refine ⟨_,rfl,W,rfl,⟨_,.of hW3⟩,fun F hF=>?_⟩
    refine comp_list (K:=K) (xs:=l.map V.str) (fun i acc σ H4=>(∃ v,σ=[v,some (.ref a),some (.ref b)])∧Same H3 H4∧acc=((l.take i).filter fun w=>!needless ps (behindP oss w)).map V.str) upd_same ⟨⟨_,rfl⟩,Same.new hF,rfl⟩ (fun i acc σ H4 _ _ q=>.of (q.2.1 _ _ hW3)) (fun i x acc σ H4 hx hFx q=>?_) (fun acc σ H4 hFx q=>?_)
    ·obtain ⟨q0,s4,rfl⟩:=q
     apply ex_1 q0
     clear q0
     intro v
     obtain ⟨w,hw,rfl⟩:=strs_at hx
     have hi:=ge_len hw
     have hwb:=(hbd w (List.mem_of_getElem? hw)).1
     have hs4:Same H H4:=hs3.trans s4
     have hal:(((l.take i).filter fun w=>!needless ps (behindP oss w)).map V.str).length≤12:=by
      rw [List.length_map]
      exact Nat.le_trans (List.length_filter_le _ _) (by rw [List.length_take];lia)
     refine ⟨_,rfl,_,rfl,a,_,rfl,hs4.seq hqa,fun R hR=>?_⟩
     rw [cut_tail1]
     have sR:Same H4 (upd H4 R (.lst yr)):=Same.new hR
     have hRR:(upd H4 R (.lst yr)) R=some (.lst yr):=upd_same
     generalize upd H4 R (.lst yr)=H5 at sR hRR
     have hs5:=hs4.trans sR
     refine ⟨_,rfl,_,rfl,b,xs,oss,w,rfl,hs5.seq hq,hds.same hs5,fun os h=>⟨pok_of (ho os h).1 (ho os h).2.2,(ho os h).2.1⟩,Nat.le_trans hwb.1 (by decide),by lia,fun B acc2 H6 hB s6 hB6 dn6=>?_⟩
     have hs6:=hs5.trans s6
     have hb6:=behind_pw (oss:=oss) (w:=w) fun os h=>(ho os h).1
     have hbl:∀ os∈behindP oss w,os.length≤12:=fun os h=>by
      unfold behindP at h
      obtain ⟨o1,h1,rfl⟩:=List.mem_map.mp h
      have h2:=(ho o1 (List.mem_filter.mp h1).1).2.2
      rw [List.length_tail]
      lia
     have hacc2:acc2.length≤9:=by
      rw [dn6.length,List.length_map]
      exact Nat.le_trans (behind_many oss w) h9
     refine ⟨.ref R,B,acc2,ps,behindP oss w,rfl,.lst (.of (s6 _ _ hRR)) (hdr.same hs6),.of hB6,dn6.same lim_same,pok_of hps (by lia),fun os h=>pok_of (hb6 os h) (hbl os h),by lia,fun H7 s7=>⟨_,rfl,?_⟩⟩
     have et:(l.take (i+1)).filter (fun w=>!needless ps (behindP oss w))=(l.take i).filter (fun w=>!needless ps (behindP oss w))++[w].filter (fun w=>!needless ps (behindP oss w)):=by rw [List.take_add_one,hw,← List.filter_append];rfl
     have hF7:=s7 _ _ (s6 _ _ (sR _ _ hFx))
     cases hnw:needless ps (behindP oss w) with
     | false=>
      refine iteT ⟨_,rfl,_,hF7,small (by lia),_,upd_same,⟨_,rfl⟩,snap_upd hF (s4.trans ((sR.trans s6).trans s7)),?_⟩
      rw [et,List.filter_cons_of_pos (by rw [hnw];rfl),List.map_append]
      rfl
     | true=>
      refine iteF ⟨_,hF7,⟨_,rfl⟩,s4.trans ((sR.trans s6).trans s7),?_⟩
      rw [et,List.filter_cons_of_neg (by rw [hnw];decide)]
      simp
    ·obtain ⟨_,s4,rfl⟩:=q
     rw [List.length_map,List.take_of_length_le (Nat.le_refl _)] at hFx
     have hs4:Same H H4:=hs3.trans s4
     generalize hfs:l.filter (fun w=>!needless ps (behindP oss w))=fs at hFx
     have hfm:∀ w∈fs,w∈l∧needless ps (behindP oss w)=false:=fun w hw=>by
      rw [← hfs] at hw
      obtain ⟨h1,h2⟩:=List.mem_filter.mp hw
      exact ⟨h1,by simpa using h2⟩
     have hfn:∀ w∈l,needless ps (behindP oss w)=false→w∈fs:=fun w hw hn=>by
      rw [← hfs]
      exact List.mem_filter.mpr ⟨hw,by rw [hn];rfl⟩
     obtain ⟨ws,hw1,hw2⟩:=cover hpw (fun os h=>(ho os h).1) hnd
     have hfne:fs≠[]:=by
      cases ws with
      | nil=>rw [takes_cn] at hw1;cases hw1
      | cons y yt=>
       rw [takes_cons,Bool.and_eq_true] at hw1
       rw [knows_behind _ _ _ fun os h=>(ho os h).2.1] at hw2
       obtain ⟨x,hx,hn,_⟩:=cands_ok hp hne hc hw1.1 (not_needless hps hw1.2 hw2)
       intro e
       have:=hfn x hx hn
       rw [e] at this
       cases this
     refine ⟨_,rfl,?_⟩
     refine rminO_data (kds:=fs.map wkD) (Sh.ok wkSh) (.of hFx) (by intro e;exact hfne (List.map_eq_nil_iff.mp e)) (by rw [List.length_map,List.length_map]) (fun d hd=>?_) (fun m x d H6 Q6 hx hd s6 kk=>?_) (fun H6 s6=>?_)
     ·obtain ⟨w,_,rfl⟩:=List.mem_map.mp hd
      exact ⟨sh_wk w,Nat.le_trans (dep_wk w) (by decide)⟩
     ·obtain ⟨w,hw,rfl⟩:=strs_at hx
      rw [List.getElem?_map,hw] at hd
      cases hd
      have hwb:=(hbd w (hfm w (List.mem_of_getElem? hw)).1).1
      exact ⟨w,rfl,Nat.le_trans hwb.1 (by decide),fun p hp=>kk _ _ (Same.new hp) (.tup (.of upd_same) (.cons (.int _) (.cons (.str hwb.2) .nil)))⟩
     ·obtain ⟨d,hd1,hd2,_⟩:=leastIx_ok (Sh.ok wkSh) (all:=fs.map wkD) (fun d hd=>by obtain ⟨w,_,rfl⟩:=List.mem_map.mp hd;exact sh_wk w) (by intro e;exact hfne (List.map_eq_nil_iff.mp e))
      rw [List.getElem?_map] at hd1
      cases e:fs[leastIx (fs.map wkD)]? with
      | none=>rw [e] at hd1;cases hd1
      | some w=>
       rw [e] at hd1
       cases hd1
       have eg:(fs.map V.str).getD (leastIx (fs.map wkD)) .non = .str w:=by
        rw [List.getD_eq_getElem?_getD,List.getElem?_map,e]
        rfl
       rw [eg]
       have hwm:=hfm w (List.mem_of_getElem? e)
       refine k w H6 (hs4.trans s6) ⟨(hbd w hwm.1).2,hwm.2,fun y ty ny=>?_,(hbd w hwm.1).1⟩
       obtain ⟨x,hx,hn,hle⟩:=cands_ok hp hne hc ty ny
       obtain ⟨j,hj⟩:=List.getElem?_of_mem (hfn x hx hn)
       have:=hd2 j (wkD x) (by rw [List.getElem?_map,hj];rfl)
       exact wle_trans hle this
end
end K10
namespace K10
open PySem L2 LG
section
variable {P:Program}{w:World}{K:PySem.W.Frag}{mg:Str→Option Value}{base:Heap}{A:Ad}
structure Seek (K:PySem.W.Frag) (ps:List Pt) (oss:List (List Pt)) (W:Addr) (H0 H:Hp) (R:V) (L:Addr) (rest:List Pt) (left:List (List Pt)) (done:List Str):Prop where
 same:Same H0 H
 dn:H W=some (.lst (done.map V.str))
 rd:Den K (wo W H) R (patD rest)
 ld:∃ xs,SqL K (wo W H) L xs∧Dens K (wo W H) xs (left.map patD)
 pw:PW rest
 ow:∀ os∈left,PW os∧os.length=rest.length
 few:left.length≤9
 nd:needless rest left=false
 len:done.length+rest.length=ps.length
 bd:∀ w∈done,Bd w
 lp:∀ ws,LP rest left ws→LP ps oss (done++ws)
theorem sc_least_line_past:FnScope ["pattern", "others", "rest", "left", "words", "word"] ["pattern", "others"] (defScope (top 21)):=⟨rfl,rfl,rfl,by decide +kernel,rfl,by decide +kernel,by decide +kernel⟩
set_option maxHeartbeats 8000000 in
theorem ok_least_line_past (T:Tx K mg A):FnOk P w K mg base CX0 8 A.f_least_line_past A.d_least_line_past ["pattern", "others"] (sp_least_line_past K):=by
 have G_is_needless:FnOk P w K mg base CX0 7 A.f_is_needless A.d_is_needless ["pattern", "others"] (sp_is_needless K):=(ok_is_needless T).mono (by decide)
 have G_first_word_past:FnOk P w K mg base CX0 7 A.f_first_word_past A.d_first_word_past ["pattern", "others"] (sp_first_word_past K):=(ok_first_word_past T).mono (by decide)
 have G_behind:FnOk P w K mg base CX0 7 A.f_behind A.d_behind ["patterns", "word"] (sp_behind K):=(ok_behind T).mono (by decide)
 refine T.least_line_past.fn.ok sc_least_line_past (fun vs H Q E h=>?_) (fun cdv Ar outer s H vs Q E hr h=>?_)
 ·obtain ⟨u,b,xs,ps,oss,rfl,_⟩:=h;rfl
 ·obtain ⟨u,b,xs,ps,oss,rfl,hu,hq,hds,hpw,hne,h12,ho,h9,k0,k⟩:=h
  have hxl:xs.length=oss.length:=by rw [hds.length,List.length_map]
  have hpok:=pok_of hpw h12
  have hook:∀ os∈oss,POk os:=fun os h=>pok_of (ho os h).1 (ho os h).2.2
  refine ⟨_,pss_cons (ps_if (pt_val (pe_call G_is_needless hr (by rfl) T.is_needless.mg T.is_needless.fn.kp T.is_needless.bd .nil pass0 (pa_cons (pv 0) (pa_cons (pv 1) (pa_nil))))) (pss_one (ps_ret (pe_non))) (pss_nil))
   (pss_cons (ps_set (i:=2) sc_least_line_past.nd rfl (Or.inl rfl) (pv 0))
   (pss_cons (ps_comp (i:=3) (N':=["other", "pattern"]) (n:=1) (fi:=[0]) (g:=gName 0) sc_least_line_past.nd rfl (Or.inl rfl) rfl (cscope (defScope (top 21)) ["pattern", "others", "rest", "left", "words", "word"] (by decide +kernel)) (pi_list (pv 1)) (fun s H fp=>pg_name (i:=0) (show (["other", "pattern"]:List Str).Nodup by decide +kernel) rfl (Or.inl rfl) (.inr rfl)) (fun s H fp=>pifs_one (pt_cmpR (op_eq) (pe_callB (r:=rLenS K) call_lenS (by rfl) T.n_len PySem.boot_len (pa_cons (pv 0) (pa_nil))) (pe_callB (r:=rLenS K) call_lenS (by rfl) T.n_len PySem.boot_len (pa_cons (pv 1) (pa_nil))) (nomark _))) (fun s H fp=>pv 0))
   (pss_cons (ps_set (i:=4) sc_least_line_past.nd rfl (Or.inl rfl) (pe_lst (pa_nil)))
   (pss_cons (ps_while PassesOwn.never (pt_truth (pv 2) (fun _=>rfl)) (pss_cons (ps_set (i:=5) sc_least_line_past.nd rfl (Or.inl rfl) (pe_call G_first_word_past hr (by rfl) T.first_word_past.mg T.first_word_past.fn.kp T.first_word_past.bd .nil pass0 (pa_cons (pv 2) (pa_cons (pv 3) (pa_nil)))))
   (pss_cons (ps_expr (pe_bm PySem.F.plainAttrs_list PySem.F.slot_list_append PySem.F.type_list_append mt_append (pv 4) (pa_cons (pv 5) (pa_nil))))
   (pss_cons (ps_set (i:=2) sc_least_line_past.nd rfl (Or.inl rfl) (pe_slice (r:=rSlL K) sl_list (pv 2) (po_some (pe_int)) (po_none)))
   (pss_one (ps_set (i:=3) sc_least_line_past.nd rfl (Or.inl rfl) (pe_call G_behind hr (by rfl) T.behind.mg T.behind.fn.kp T.behind.bd .nil pass0 (pa_cons (pv 3) (pa_cons (pv 5) (pa_nil))))))))))
   (pss_one (ps_ret (pe_bm (r:=rJoin K) PySem.F.plainAttrs_str PySem.F.slot_str_join PySem.F.type_str_join mt_join (pe_str) (pa_cons (pv 4) (pa_nil))))))))),?_⟩
  refine ⟨_,rfl,_,rfl,u,b,xs,ps,oss,rfl,hu,hq,hds,hpok,hook,by lia,fun H1 s1=>⟨_,rfl,?_⟩⟩
  cases hnd:needless ps oss with
  | true=>exact iteT (k0 hnd H1 s1)
  | false=>
   refine iteF ⟨_,rfl,?_⟩
   obtain ⟨a,ys,eu,hqa,hda⟩:=den_pat hu
   have hyl:ys.length=ps.length:=by rw [hda.length,List.length_map]
   refine ⟨_,rfl,b,rfl,⟨_,s1.seq hq⟩,fun L hL=>?_⟩
   refine comp_list (K:=K) (xs:=xs) (fun i acc σ H2=>(∃ v,σ=[v,some u])∧Same H1 H2∧Dens K H acc (((oss.take i).filter fun os=>decide (os.length=ps.length)).map patD)) upd_same ⟨⟨_,rfl⟩,Same.new hL,.nil⟩ (fun i acc σ H2 _ _ q=>(s1.trans q.2.1).seq hq) (fun i x acc σ H2 hx hLx q=>?_) (fun acc σ H2 hLx q=>?_)
   ·obtain ⟨q0,s2,dn⟩:=q
    apply ex_1 q0
    clear q0
    intro v
    obtain ⟨os,hoi,hdo⟩:=dens_pat hds hx
    have hi:=ge_len hoi
    obtain ⟨c,zs,rfl,hqc,hdc⟩:=den_pat hdo
    have hzl:zs.length=os.length:=by rw [hdc.length,List.length_map]
    have hal:acc.length≤9:=by
     rw [dn.length,List.length_map]
     exact Nat.le_trans (List.length_filter_le _ _) (by rw [List.length_take];lia)
    have et:(oss.take (i+1)).filter (fun os=>decide (os.length=ps.length))=(oss.take i).filter (fun os=>decide (os.length=ps.length))++[os].filter (fun os=>decide (os.length=ps.length)):=by rw [List.take_add_one,hoi,← List.filter_append];rfl
    subst eu
    refine ⟨_,rfl,c,zs,rfl,.inl ((s1.trans s2).seq hqc),_,rfl,a,ys,rfl,.inl ((s1.trans s2).seq hqa),rfl,_,rfl,?_⟩
    by_cases hl:os.length=ps.length
    ·rw [decide_eq_true (show V.int (zs.length:Int)=V.int (ys.length:Int) by rw [hzl,hyl,hl])]
     refine iteT ⟨_,rfl,acc,hLx,small (by lia),_,upd_same,⟨_,rfl⟩,snap_upd hL s2,?_⟩
     have e2:[os].filter (fun os=>decide (os.length=ps.length))=[os]:=by simp [hl]
     rw [et,e2,List.map_append]
     exact dn.append (.cons hdo .nil)
    ·rw [decide_eq_false (show ¬ V.int (zs.length:Int)=V.int (ys.length:Int) from fun q=>hl (by injection q with q;lia))]
     refine iteF ⟨acc,hLx,⟨_,rfl⟩,s2,?_⟩
     have e2:[os].filter (fun os=>decide (os.length=ps.length))=[]:=by simp [hl]
     rw [et,e2,List.append_nil]
     exact dn
   ·obtain ⟨_,s2,dn⟩:=q
    rw [List.take_of_length_le (by lia)] at dn
    refine ⟨Nat.zero_le _,fun W hW=>?_⟩
    have hs2:Same H H2:=s1.trans s2
    have hLW:L≠W:=ne_of_none hLx hW
    have hwo:Same H2 (wo W (upd H2 W (.lst []))):=same_wo hW (Same.new hW)
    have start:Seek K ps oss W H2 (upd H2 W (.lst [])) u L ps (oss.filter fun os=>decide (os.length=ps.length)) []:=
     ⟨Same.new hW,upd_same,hu.same (hs2.trans hwo),⟨acc,.of (hwo _ _ hLx),dn.same (hs2.trans hwo)⟩,hpw,fun os h=>⟨(ho os (List.mem_filter.mp h).1).1,of_decide_eq_true (List.mem_filter.mp h).2⟩,Nat.le_trans (List.length_filter_le _ _) h9,needless_same hnd,by simp,(fun w hw=>by cases hw),fun ws h=>by simpa using h.wide⟩
    refine ⟨fun m σ H'=>∃ R L' rest left done v,σ=[some u,some (.ref b),some R,some (.ref L'),some (.ref W),v]∧m=rest.length∧Seek K ps oss W H2 H' R L' rest left done,⟨ps.length,u,L,ps,_,[],_,rfl,rfl,start⟩,?_⟩
    rintro m σ H' ⟨R,L',rest,left,done,v,rfl,rfl,sk⟩
    have hwS:Same (wo W H') H':=wo_same
    obtain ⟨c,cs,eR,hqR,hdR⟩:=den_pat sk.rd
    obtain ⟨lx,hqL,hdL⟩:=sk.ld
    have h12':done.length+rest.length≤12:=by rw [sk.len];exact h12
    subst eR
    cases rest with
    | nil=>
     cases hdR
     refine ⟨_,rfl,false,.inl ⟨[],hwS.seq hqR,rfl⟩,iteF ?_⟩
     have hlp:=sk.lp [] (LP.nil sk.nd fun os h=>(sk.ow os h).2)
     rw [List.append_nil] at hlp
     have h1:((" " : Str)).length=1:=rfl
     refine ⟨rfl,_,rfl, " ",W,done,rfl,rfl,.of sk.dn,join_fits (m:=500) (fun w hw=>(sk.bd w hw).1) (by rw [h1];lia),?_⟩
     exact k done H' (hs2.trans sk.same) hlp
    | cons p r=>
     have hrl:(p::r).length=r.length+1:=rfl
     refine ⟨_,rfl,true,.inl ⟨cs,hwS.seq hqR,by cases hdR;rfl⟩,iteT ?_⟩
     refine ⟨fun σ' H''=>∃ R L' rest left done v,σ' = [some u,some (.ref b),some R,some (.ref L'),some (.ref W),v]∧rest.length=r.length∧Seek K ps oss W H2 H'' R L' rest left done,fun σ' H'' ⟨R,L',rest,left,done,v,e,hr,sk'⟩=>⟨rest.length,by rw [hr,hrl];exact Nat.lt_succ_self _,R,L',rest,left,done,v,e,rfl,sk'⟩,?_⟩
     have how:∀ os∈left,PW os∧os≠[]∧os.length≤12:=fun os h=>by
      have h1:=sk.ow os h
      refine ⟨h1.1,fun e=>?_,by lia⟩
      rw [e] at h1
      cases h1.2
     refine ⟨_,rfl,_,rfl,.ref c,L',lx,p,r,left,rfl,sk.rd.same hwS,hwS.seq hqL,hdL.same hwS,sk.pw,by lia,how,sk.few,sk.nd,fun w H4 s4 fw=>?_⟩
     have hW4:=s4 _ _ sk.dn
     refine ⟨_,rfl,.inl ⟨rfl,_,.of hW4⟩,_,rfl,W,_,_,rfl,rfl,hW4,small (by rw [List.length_map];lia),?_⟩
     have hup:Same (wo W H') (upd H4 W (.lst (done.map V.str++[.str w]))):=fun b o e=>by
      have e1:=wo_get e
      rw [upd_ne e1.1]
      exact s4 _ _ e1.2
     have hWW:(upd H4 W (.lst (done.map V.str++[.str w]))) W=some (.lst ((done++[w]).map V.str)):=by rw [upd_same,List.map_append];rfl
     have hs5:Same H2 (upd H4 W (.lst (done.map V.str++[.str w]))):=snap_upd hW (sk.same.trans s4)
     generalize upd H4 W (.lst (done.map V.str++[.str w]))=H5 at hup hWW hs5
     cases hdR with
     | cons hd1 hdr=>
      rename_i y1 yr
      refine ⟨_,rfl,_,rfl,c,_,rfl,hup.seq hqR,fun R2 hR2=>?_⟩
      rw [cut_tail1]
      have sR:Same H5 (upd H5 R2 (.lst yr)):=Same.new hR2
      have hRR:(upd H5 R2 (.lst yr)) R2=some (.lst yr):=upd_same
      have hRW:R2≠W:=(ne_of_none hWW hR2).symm
      generalize upd H5 R2 (.lst yr)=H6 at sR hRR
      have hup6:=hup.trans sR
      refine ⟨_,rfl,_,rfl,L',lx,left,w,rfl,hup6.seq hqL,hdL.same hup6,fun os h=>⟨pok_of (how os h).1 (how os h).2.2,(how os h).2.1⟩,Nat.le_trans fw.bd.1 (by decide),by have:=sk.few;have:=hdL.length;rw [List.length_map] at this;lia,fun B acc2 H7 hB s7 hB7 dn7=>?_⟩
      have hW7:=s7 _ _ (sR _ _ hWW)
      have hBW:B≠W:=fun e=>by rw [e,sR _ _ hWW] at hB;cases hB
      refine ⟨.ref R2,B,r,behindP left w,done++[w],some (.str w),rfl,rfl,?_⟩
      have hwo7:Same (wo W H') (wo W H7):=same_wo wo_self (hup6.trans s7)
      refine ⟨hs5.trans (sR.trans s7),hW7,.lst (.of (by rw [wo_at hRW];exact s7 _ _ hRR)) (hdr.same hwo7),⟨acc2,.of (by rw [wo_at hBW];exact hB7),dn7.same (lim_wo (sR _ _ hWW))⟩,fun x hx=>sk.pw x (List.mem_cons_of_mem _ hx),fun os h=>⟨behind_pw (fun o h=>(sk.ow o h).1) os h,behind_len (fun o h=>(sk.ow o h).2) os h⟩,Nat.le_trans (behind_many left w) sk.few,fw.nd,?_,fun x hx=>?_,fun ws h=>?_⟩
      ·have:=sk.len
       rw [List.length_append,List.length_singleton]
       rw [hrl] at this
       lia
      ·rcases List.mem_append.mp hx with z | z
       ·exact sk.bd x z
       ·rw [List.mem_singleton.mp z];exact fw.bd
      ·have:=sk.lp (w::ws) (LP.step sk.pw (fun os h=>(how os h).2.1) fw h)
       rw [List.append_assoc]
       exact this
end
end K10
namespace K10
open PySem L2 LG
section
variable {P:Program}{w:World}{K:PySem.W.Frag}{mg:Str→Option Value}{base:Heap}{A:Ad}
theorem sc_lines_past:FnScope ["patterns", "others", "lines"] ["patterns", "others"] (defScope (top 22)):=⟨rfl,rfl,rfl,by decide +kernel,rfl,by decide +kernel,by decide +kernel⟩
set_option maxHeartbeats 8000000 in
theorem ok_lines_past (T:Tx K mg A):FnOk P w K mg base CX0 9 A.f_lines_past A.d_lines_past ["patterns", "others"] (sp_lines_past K):=by
 have G_least_line_past:FnOk P w K mg base CX0 8 A.f_least_line_past A.d_least_line_past ["pattern", "others"] (sp_least_line_past K):=(ok_least_line_past T).mono (by decide)
 refine T.lines_past.fn.ok sc_lines_past (fun vs H Q E h=>?_) (fun cdv Ar outer s H vs Q E hr h=>?_)
 ·obtain ⟨a,b,xs,ys,pss,qss,rfl,_⟩:=h;rfl
 ·obtain ⟨a,b,xs,ys,pss,qss,rfl,hqa,hda,hqb,hdb,hp,hq,hp9,hq9,k⟩:=h
  have hxl:xs.length=pss.length:=by rw [hda.length,List.length_map]
  refine ⟨_,pss_cons (ps_comp (i:=2) (N':=["pattern", "others"]) (n:=1) (fi:=[1]) (g:=gName 0) sc_lines_past.nd rfl (Or.inl rfl) rfl (cscope (defScope (top 22)) ["patterns", "others", "lines"] (by decide +kernel)) (pi_list (pv 0)) (fun s H fp=>pg_name (i:=0) (show (["pattern", "others"]:List Str).Nodup by decide +kernel) rfl (Or.inl rfl) (.inr rfl)) (fun s H fp=>pifs_nil) (fun s H fp=>pe_call G_least_line_past hr (by rfl) T.least_line_past.mg T.least_line_past.fn.kp T.least_line_past.bd .nil pass0 (pa_cons (pv 0) (pa_cons (pv 1) (pa_nil)))))
   (pss_one (ps_ret (pe_comp (N':=["line"]) (n:=1) (fi:=[]) (g:=gName 0) rfl (cscope (defScope (top 22)) ["patterns", "others", "lines"] (by decide +kernel)) (pi_list (pv 2)) (fun s H fp=>pg_name (i:=0) (show (["line"]:List Str).Nodup by decide +kernel) rfl (Or.inl rfl) (.inr rfl)) (fun s H fp=>pifs_one (pt_cmpR (op_notN) (pv 0) (pe_non) (nomark _))) (fun s H fp=>pv 0)))),?_⟩
  refine ⟨_,rfl,a,rfl,⟨_,hqa⟩,fun D hD=>?_⟩
  refine comp_list (K:=K) (xs:=xs) (fun i acc σ H2=>(∃ v,σ=[v,some (.ref b)])∧Same H H2∧∃ os:List (Option (List Str)),acc=os.map oS∧os.length=i∧∀ (j:Nat) ps o,pss[j]? = some ps→os[j]? = some o→(o=none∧needless ps qss=true)∨∃ ws,o=some ws∧LP ps qss ws) upd_same ⟨⟨_,rfl⟩,Same.new hD,[],rfl,rfl,fun j ps o _ hj=>by simp at hj⟩ (fun i acc σ H2 _ _ q=>q.2.1.seq hqa) (fun i x acc σ H2 hx hDx q=>?_) (fun acc σ H2 hDx q=>?_)
  ·obtain ⟨q0,s2,os,rfl,hol,hos⟩:=q
   apply ex_1 q0
   clear q0
   intro v
   obtain ⟨ps,hpi,hdp⟩:=dens_pat hda hx
   have hi:=ge_len hpi
   obtain ⟨w1,w2,w3⟩:=hp ps (List.mem_of_getElem? hpi)
   have nxt:∀ (o:Option (List Str)),((o=none∧needless ps qss=true)∨∃ ws,o=some ws∧LP ps qss ws)→∀ (j:Nat) ps' o',pss[j]? = some ps'→(os++[o])[j]? = some o'→(o' = none∧needless ps' qss=true)∨∃ ws,o' = some ws∧LP ps' qss ws:=fun o ho j ps' o' h1 h2=>by
    rcases Nat.lt_or_ge j os.length with z | z
    ·rw [List.getElem?_append_left z] at h2;exact hos j ps' o' h1 h2
    ·rw [List.getElem?_append_right z] at h2
     have:j - os.length=0:=by
      have:=ge_len h2
      simp at this
      lia
     rw [this] at h2
     cases h2
     have:j=i:=by lia
     subst this
     rw [hpi] at h1
     cases h1
     exact ho
   refine compY ⟨_,rfl,_,rfl,x,b,ys,ps,qss,rfl,hdp.same s2,s2.seq hqb,hdb.same s2,w1,w2,w3,hq,hq9,fun hn H4 s4=>?_,fun ws H4 s4 hlp=>?_⟩
   ·exact ⟨_,s4 _ _ hDx,small (by rw [List.length_map];lia),_,upd_same,⟨_,rfl⟩,snap_upd hD (s2.trans s4),os++[none],by simp [oS],by simp [hol],nxt none (.inl ⟨rfl,hn⟩)⟩
   ·exact ⟨_,s4 _ _ hDx,small (by rw [List.length_map];lia),_,upd_same,⟨_,rfl⟩,snap_upd hD (s2.trans s4),os++[some ws],by simp [oS,lnV],by simp [hol],nxt (some ws) (.inr ⟨ws,rfl,hlp⟩)⟩
  ·obtain ⟨_,s2,os,rfl,hol,hos⟩:=q
   refine ⟨_,rfl,D,rfl,⟨_,.of hDx⟩,fun F hF=>?_⟩
   refine comp_list (K:=K) (xs:=os.map oS) (fun i acc σ H4=>(∃ v,σ=[v])∧Same H2 H4∧acc=((os.take i).filterMap id).map lnV) upd_same ⟨⟨_,rfl⟩,Same.new hF,rfl⟩ (fun i acc σ H4 _ _ q=>.of (q.2.1 _ _ hDx)) (fun i x acc σ H4 hx hFx q=>?_) (fun acc σ H4 hFx q=>?_)
   ·obtain ⟨q0,s4,rfl⟩:=q
    apply ex_1 q0
    clear q0
    intro v
    rw [List.getElem?_map] at hx
    cases e:os[i]? with
    | none=>rw [e] at hx;cases hx
    | some o=>
     rw [e] at hx
     cases hx
     have hi:=ge_len e
     have hal:(((os.take i).filterMap id).map lnV).length≤9:=by
      rw [List.length_map]
      exact Nat.le_trans (List.length_filterMap_le _ _) (by rw [List.length_take];lia)
     have et:(os.take (i+1)).filterMap id=(os.take i).filterMap id++[o].filterMap id:=by rw [List.take_add_one,e,← List.filterMap_append];rfl
     cases o with
     | none=>
      refine ⟨_,rfl,rfl,_,rfl,?_⟩
      refine iteF ⟨_,hFx,⟨_,rfl⟩,s4,?_⟩
      rw [et]
      simp
     | some ws=>
      refine ⟨_,rfl,rfl,_,rfl,?_⟩
      refine iteT ⟨_,rfl,_,hFx,small (by lia),_,upd_same,⟨_,rfl⟩,snap_upd hF s4,?_⟩
      rw [et,List.map_append]
      rfl
   ·obtain ⟨_,s4,rfl⟩:=q
    rw [List.length_map,List.take_of_length_le (Nat.le_refl _)] at hFx
    have hol':os.length=pss.length:=by rw [hol,hxl]
    refine k F H4 _ (s2.free hF) (s2.trans s4) hFx ⟨fun ws hw=>?_,fun ps hps=>?_⟩ (Nat.le_trans (List.length_filterMap_le _ _) (by lia))
    ·obtain ⟨o,ho,he⟩:=List.mem_filterMap.mp hw
     have he':o=some ws:=he
     subst he'
     obtain ⟨j,hj⟩:=List.getElem?_of_mem ho
     have hjl:=ge_len hj
     have hpj:pss[j]? = some pss[j]:=List.getElem?_eq_getElem (by lia)
     rcases hos j _ _ hpj hj with ⟨z,_⟩ | ⟨ws',z,hlp⟩
     ·cases z
     ·cases z
      exact ⟨_,List.mem_of_getElem? hpj,hlp⟩
    ·obtain ⟨j,hj⟩:=List.getElem?_of_mem hps
     have hjl:=ge_len hj
     have hoj:os[j]? = some os[j]:=List.getElem?_eq_getElem (by lia)
     rcases hos j _ _ hj hoj with ⟨_,z⟩ | ⟨ws',z,hlp⟩
     ·exact .inl z
     ·exact .inr ⟨ws',List.mem_filterMap.mpr ⟨_,List.mem_of_getElem? hoj,z⟩,hlp⟩
theorem lines_ok {pss qss:List (List Pt)}{L:List (List Str)} (hp:PsOk pss) (h:LinesOf pss qss L):∀ ws∈L,Words ws∧(∀ w∈ws,Bd w)∧ws≠[]∧ws.length≤12:=fun ws hw=>by
 obtain ⟨ps,m1,m2⟩:=h.of ws hw
 obtain ⟨r1,r2,r3⟩:=hp ps m1
 have hl:=takes_lens m2.tk
 exact ⟨takes_words r1 m2.tk,m2.bd,fun e=>r2 (List.eq_nil_of_length_eq_zero (by rw [hl,e];rfl)),by lia⟩
theorem word_blank {w:Str} (h:wordB w=true):32∉w.cps.toList:=fun q=>by
 unfold wordB onlyB at h
 rw [Bool.and_eq_true,List.all_eq_true] at h
 have:=h.2 32 q
 rw [sgn_no32] at this
 cases this
theorem line_ok {ws:List Str} (hw:Words ws) (hb:∀ w∈ws,Bd w) (hne:ws≠[]) (hl:ws.length≤12):Txt.split (Txt.join " " ws) " " = ws∧PyData.strOk (Txt.join " " ws)=true∧LOk (Txt.join " " ws):=by
 have hj:=ok_join (y:= " ") (m:=500) (by decide +kernel) (fun w h=>⟨(hb w h).2,(hb w h).1⟩)
 have h1:((" " : Str)).length=1:=rfl
 rw [h1] at hj
 refine ⟨split_join hne fun w h=>word_blank (hw w h),hj.1,?_⟩
 show (Txt.join " " ws).length≤10000
 have:ws.length * (500+1)≤12 * 501:=Nat.mul_le_mul hl (Nat.le_refl _)
 lia
theorem sc_parting_line:FnScope ["one", "other"] ["one", "other"] (defScope (top 23)):=⟨rfl,rfl,rfl,by decide +kernel,rfl,by decide +kernel,by decide +kernel⟩
set_option maxHeartbeats 8000000 in
theorem ok_parting_line (T:Tx K mg A):FnOk P w K mg base CX0 10 A.f_parting_line A.d_parting_line ["one", "other"] (sp_parting_line K):=by
 have GK_line_key:FnOk P w K mg base CX0 8 A.f_line_key A.d_line_key ["line"] (sp_line_key K):=(ok_line_key T).mono (by decide)
 have G_lines_past:FnOk P w K mg base CX0 9 A.f_lines_past A.d_lines_past ["patterns", "others"] (sp_lines_past K):=(ok_lines_past T).mono (by decide)
 refine T.parting_line.fn.ok sc_parting_line (fun vs H Q E h=>?_) (fun cdv Ar outer s H vs Q E hr h=>?_)
 ·obtain ⟨a,b,xs,ys,pss,qss,rfl,_⟩:=h;rfl
 ·obtain ⟨a,b,xs,ys,pss,qss,rfl,hqa,hda,hqb,hdb,hp,hq,hp9,hq9,k⟩:=h
  refine ⟨_,pss_one (ps_ret (pe_minK GK_line_key hr T.line_key.bd rfl (by rfl) T.n_min (by rfl) T.line_key.mg (pa_cons (pe_op (r:=rCatS K) op_catS (pe_call G_lines_past hr (by rfl) T.lines_past.mg T.lines_past.fn.kp T.lines_past.bd .nil pass0 (pa_cons (pv 0) (pa_cons (pv 1) (pa_nil)))) (pe_call G_lines_past hr (by rfl) T.lines_past.mg T.lines_past.fn.kp T.lines_past.bd .nil pass0 (pa_cons (pv 1) (pa_cons (pv 0) (pa_nil))))) (pa_nil)))),?_⟩
  refine ⟨_,rfl,_,rfl,a,b,xs,ys,pss,qss,rfl,hqa,hda,hqb,hdb,hp,hq,hp9,hq9,fun D H1 L hD s1 hD1 hL hL9=>?_⟩
  refine ⟨_,rfl,_,rfl,b,a,ys,xs,qss,pss,rfl,s1.seq hqb,hdb.same s1,s1.seq hqa,hda.same s1,hq,hp,hq9,hp9,fun F H2 M hF s2 hF2 hM hM9=>?_⟩
  refine ⟨D,F,_,_,rfl,rfl,.of (s2 _ _ hD1),.of hF2,by rw [List.length_map,List.length_map];exact Nat.le_trans (Nat.add_le_add hL9 hM9) (by decide),fun G hG=>?_⟩
  have sG:Same H2 (upd H2 G (.lst (L.map lnV++M.map lnV))):=Same.new hG
  have hGG:(upd H2 G (.lst (L.map lnV++M.map lnV))) G=some (.lst ((L++M).map lnV)):=by rw [upd_same,List.map_append]
  generalize upd H2 G (.lst (L.map lnV++M.map lnV))=H3 at sG hGG
  have hs:Same H H3:=(s1.trans s2).trans sG
  have hok:∀ ws∈L++M,Words ws∧(∀ w∈ws,Bd w)∧ws≠[]∧ws.length≤12:=fun ws hw=>by
   rcases List.mem_append.mp hw with z | z
   ·exact lines_ok hp hL ws z
   ·exact lines_ok hq hM ws z
  refine ⟨_,rfl,?_⟩
  refine rmin_data (kds:=(L++M).map lkD) (Sh.ok lkSh) (.of hGG) (by rw [List.length_map,List.length_map]) (fun d hd=>?_) (fun m x d H6 Q6 hx hd s6 kk=>?_) (fun hnil=>?_) (fun hnn H6 s6=>?_)
  ·obtain ⟨ws,_,rfl⟩:=List.mem_map.mp hd
   exact ⟨sh_lk ws,dep_lk ws⟩
  ·rw [List.getElem?_map] at hx hd
   cases e:(L++M)[m]? with
   | none=>rw [e] at hx;cases hx
   | some ws=>
    rw [e] at hx hd
    cases hx
    cases hd
    obtain ⟨o1,o2,o3,o4⟩:=hok ws (List.mem_of_getElem? e)
    obtain ⟨l1,l2,l3⟩:=line_ok o1 o2 o3 o4
    refine ⟨_,rfl,l3,l2,fun r H7 s7 dr=>kk r H7 s7 ?_⟩
    rw [l1] at dr
    exact dr
  ·have hnil':L++M=[]:=List.map_eq_nil_iff.mp hnil
   have e1:L=[]:=(List.append_eq_nil_iff.mp hnil').1
   have e2:M=[]:=(List.append_eq_nil_iff.mp hnil').2
   subst e1 e2
   exact k none H3 hs (parts_nil hp hq hL hM)
  ·have hne:L++M≠[]:=fun e=>hnn (by rw [e];rfl)
   obtain ⟨d,hd1,hd2,_⟩:=leastIx_ok (Sh.ok lkSh) (all:=(L++M).map lkD) (fun d hd=>by obtain ⟨w,_,rfl⟩:=List.mem_map.mp hd;exact sh_lk w) (by intro e;exact hne (List.map_eq_nil_iff.mp e))
   rw [List.getElem?_map] at hd1
   cases e:(L++M)[leastIx ((L++M).map lkD)]? with
   | none=>rw [e] at hd1;cases hd1
   | some ws=>
    rw [e] at hd1
    cases hd1
    have eg:((L++M).map lnV).getD (leastIx ((L++M).map lkD)) .non=lnV ws:=by
     rw [List.getD_eq_getElem?_getD,List.getElem?_map,e]
     rfl
    rw [eg]
    refine k (some ws) H6 (hs.trans s6) (parts_some hp hq hL hM (List.mem_of_getElem? e) fun vs hv=>?_)
    obtain ⟨j,hj⟩:=List.getElem?_of_mem hv
    exact hd2 j (lkD vs) (by rw [List.getElem?_map,hj];rfl)
end
end K10
namespace K10
open PySem L2 LG
section
variable {P:Program}{w:World}{K:PySem.W.Frag}{mg:Str→Option Value}{base:Heap}{A:Ad}
def sp__law_fits_part (K:PySem.W.Frag):Sp:=fun vs H Q _=>∃ (v:V) (x:Str) (p:Pt),vs=[v,.str x]∧Den K H v p.dat∧p.ok∧wordB x=true∧TOk x∧∀ H',Same H H'→Q (.bl (p.takes x)) H'
theorem in_any {m:Nat}{x:Str} (hm:m<3) (hx:wordB x=true):inV (V.str (kindS m)) [V.str "any",V.str (kindW (lawKindL x.cps.toList))]=(Pt.hole m).takes x:=by
 have hne:x.cps.toList≠[]:=by
  intro e
  unfold wordB onlyB at hx
  rw [e] at hx
  cases hx
 rw [lawKind_eq hne]
 show (eqV (.str "any") (.str (kindS m)) || (eqV (.str (kindW (kindT x))) (.str (kindS m)) || false))=_
 have hk:=kindT_lt x
 have c:kindT x=0∨kindT x=1∨kindT x=2:=by lia
 have d:m=0∨m=1∨m=2:=by lia
 rcases d with rfl | rfl | rfl
 ·rcases c with e | e | e <;> (show _=decide (kindT x=0);rw [e];decide +kernel)
 ·rcases c with e | e | e <;> (show _=decide (kindT x=1);rw [e];decide +kernel)
 ·show _=wordB x
  rw [hx]
  rcases c with e | e | e <;> (rw [e];decide +kernel)
theorem sc__law_fits_part:FnScope ["part", "word"] ["part", "word"] (defScope (top 28)):=⟨rfl,rfl,rfl,by decide +kernel,rfl,by decide +kernel,by decide +kernel⟩
set_option maxHeartbeats 8000000 in
theorem ok__law_fits_part (T:Tx K mg A):FnOk P w K mg base CX0 2 A.f__law_fits_part A.d__law_fits_part ["part", "word"] (sp__law_fits_part K):=by
 have G__law_kind:FnOk P w K mg base CX0 1 A.f__law_kind A.d__law_kind ["word"] (sp__law_kind K):=(ok__law_kind T).mono (by decide)
 refine T._law_fits_part.fn.ok sc__law_fits_part (fun vs H Q E h=>?_) (fun cdv Ar outer s H vs Q E hr h=>?_)
 ·obtain ⟨v,x,p,rfl,_⟩:=h;rfl
 ·obtain ⟨v,x,p,rfl,hd,hok,hw,hto,k⟩:=h
  obtain ⟨a,x1,y1,ev,hq,_,_,hx⟩:=den_pt hd
  refine ⟨_,pss_cons (ps_if (pt_cmpR (op_eq) (pe_ix (r:=rIxT K) ix_tup (pv 0) (pe_int) (fun _ _=>rfl)) (pe_str) (nomark _)) (pss_one (ps_ret (pe_cmpR (op_eq) (pe_ix (r:=rIxT K) ix_tup (pv 0) (pe_int) (fun _ _=>rfl)) (pv 1) (nomark _)))) (pss_nil))
   (pss_one (ps_ret (pe_cmpR (r:=rIn K false) (op_in_seq) (pe_ix (r:=rIxT K) ix_tup (pv 0) (pe_int) (fun _ _=>rfl)) (pe_tup (pa_cons (pe_str) (pa_cons (pe_call G__law_kind hr (by rfl) T._law_kind.mg T._law_kind.fn.kp T._law_kind.bd .nil pass0 (pa_cons (pv 1) (pa_nil))) (pa_nil)))) (by rfl)))),?_⟩
  subst ev
  refine ⟨_,rfl,a,_,0,_,rfl,rfl,hq,rfl,rfl,_,rfl,?_⟩
  cases p with
  | word y=>
   obtain ⟨rfl,rfl⟩:=hx
   rw [decide_eq_true rfl]
   refine iteT ⟨_,rfl,a,_,1,_,rfl,rfl,hq,rfl,_,rfl,rfl,?_⟩
   have e:decide (V.str y1=V.str x)=(Pt.word y1).takes x:=by
    rw [Bool.eq_iff_iff];simp [Pt.takes,eq_comm]
   show Q (V.bl (decide (V.str y1=V.str x))) H
   rw [e]
   exact k H (Same.refl _)
  | hole m=>
   obtain ⟨rfl,rfl⟩:=hx
   rw [decide_eq_false (by decide)]
   refine iteF ⟨_,rfl,a,_,1,_,rfl,rfl,hq,rfl,?_⟩
   refine ⟨_,rfl,x,rfl,hto,fun H1 s1=>⟨(by show 2≤sizeLine;decide),fun t ht=>⟨t,_,rfl,.inr (.of upd_same),rfl,rfl,?_⟩⟩⟩
   show Q (V.bl (inV (V.str (kindS m)) [V.str "any",V.str (kindW (lawKindL x.cps.toList))])) _
   rw [in_any hok hw]
   exact k _ (s1.trans (Same.new ht))
theorem list_nil (ds:List PyData):PyData.eqv (.list ds) (.list [])=ds.isEmpty:=by
 cases ds with
 | nil=>rfl
 | cons p r=>rfl
def badL (ps:List Pt) (ws:List Str):List (Pt×Str):=(ps.zip ws).filter fun q=>!q.1.takes q.2
theorem bad_all {ps:List Pt}{ws:List Str} (h:ps.length=ws.length):(badL ps ws).isEmpty=takesAll ps ws:=by
 unfold badL takesAll
 rw [decide_eq_true h,Bool.true_and,Bool.eq_iff_iff,List.isEmpty_iff,List.filter_eq_nil_iff,List.all_eq_true]
 constructor
 ·intro q x hx
  simpa using q x hx
 ·intro q x hx
  simpa using q x hx
theorem dens_ones {K:PySem.W.Frag}{H:Hp}:∀ n:Nat,Dens K H (List.replicate n (V.int 1)) (List.replicate n (PyData.int 1))
 | 0=>.nil
 | n+1=>.cons (.int 1) (dens_ones n)
theorem dep_ones (n:Nat):(PyData.list (List.replicate n (PyData.int 1))).depth≤100:=by
 have h:PyData.depthAll (List.replicate n (PyData.int 1))≤90:=depthAll_le _ fun d hd=>by
  rw [(List.mem_replicate.mp hd).2]
  simp [PyData.depth]
 simp only [PyData.depth]
 lia
def badT (ps:List Pt) (ws:List Str) (i:Nat):List (Pt×Str):=((ps.zip ws).take i).filter fun q=>!q.1.takes q.2
theorem badT_len (ps:List Pt) (ws:List Str) (i:Nat):(badT ps ws i).length≤i:=Nat.le_trans (List.length_filter_le _ _) (by rw [List.length_take];lia)
def sp__law_fits (K:PySem.W.Frag):Sp:=fun vs H Q _=>∃ (v:V) (z:Str) (ps:List Pt),vs=[v,.str z]∧Den K H v (patD ps)∧POk ps∧LOk z∧PyData.strOk z=true∧Words (Txt.split z " ")∧∀ H',Same H H'→Q (.bl (takesAll ps (Txt.split z " "))) H'
theorem sc__law_fits:FnScope ["pattern", "line", "words"] ["pattern", "line"] (defScope (top 29)):=⟨rfl,rfl,rfl,by decide +kernel,rfl,by decide +kernel,by decide +kernel⟩
set_option maxHeartbeats 8000000 in
theorem ok__law_fits (T:Tx K mg A):FnOk P w K mg base CX0 3 A.f__law_fits A.d__law_fits ["pattern", "line"] (sp__law_fits K):=by
 have G__law_fits_part:FnOk P w K mg base CX0 2 A.f__law_fits_part A.d__law_fits_part ["part", "word"] (sp__law_fits_part K):=(ok__law_fits_part T).mono (by decide)
 refine T._law_fits.fn.ok sc__law_fits (fun vs H Q E h=>?_) (fun cdv Ar outer s H vs Q E hr h=>?_)
 ·obtain ⟨v,z,ps,rfl,_⟩:=h;rfl
 ·obtain ⟨v,z,ps,rfl,hd,hok,hz,hzs,hws,k⟩:=h
  obtain ⟨a,xs,ev,hq,hds⟩:=den_pat hd
  have hxl:xs.length=ps.length:=by rw [hds.length,List.length_map]
  have hz':z.length≤10000:=hz
  refine ⟨_,pss_cons (ps_set (i:=2) sc__law_fits.nd rfl (Or.inl rfl) (pe_bm PySem.F.plainAttrs_str PySem.F.slot_str_split PySem.F.type_str_split mt_split (pv 1) (pa_cons (pe_str) (pa_nil))))
   (pss_cons (ps_if (pt_cmpR (op_ne) (pe_callB (r:=rLenS K) call_lenS (by rfl) T.n_len PySem.boot_len (pa_cons (pv 2) (pa_nil))) (pe_callB (r:=rLenS K) call_lenS (by rfl) T.n_len PySem.boot_len (pa_cons (pv 0) (pa_nil))) (nomark _)) (pss_one (ps_ret (pe_bl))) (pss_nil))
   (pss_one (ps_ret (pe_cmpR (r:=rEqD K) (op_eqD hr) (pe_comp (N':=["part", "word"]) (n:=2) (fi:=[]) (g:=gTup K 2 (gCons (gName 0) (gCons (gName 1) (gNil)))) rfl (cscope (defScope (top 29)) ["pattern", "line", "words"] (by decide +kernel)) (pi_zip (by rfl) T.n_zip (pa_cons (pv 0) (pa_cons (pv 2) (pa_nil)))) (fun s H fp=>pg_tup rfl (pgs_cons (pg_name (i:=0) (show (["part", "word"]:List Str).Nodup by decide +kernel) rfl (Or.inl rfl) (.inr rfl)) (pgs_cons (pg_name (i:=1) (show (["part", "word"]:List Str).Nodup by decide +kernel) rfl (Or.inl rfl) (.inr rfl)) (pgs_nil)))) (fun s H fp=>pifs_one (pt_not (pt_val (pe_call G__law_fits_part hr (by rfl) T._law_fits_part.mg T._law_fits_part.fn.kp T._law_fits_part.bd .nil pass0 (pa_cons (pv 0) (pa_cons (pv 1) (pa_nil))))))) (fun s H fp=>pe_int)) (pe_lst (pa_nil)) (nomark _))))),?_⟩
  subst ev
  refine ⟨_,rfl,rfl,z,_,rfl,rfl,by decide +kernel,by show z.length+2≤16777216;lia,fun l hl=>?_⟩
  have sl:Same H (upd H l (.lst ((Txt.split z " ").map V.str))):=Same.new hl
  have hlen:((Txt.split z " ").map V.str).length=(Txt.split z " ").length:=by rw [List.length_map]
  refine ⟨_,rfl,l,_,rfl,.inl (.of upd_same),_,rfl,a,xs,rfl,.inl (sl.seq hq),rfl,_,rfl,?_⟩
  by_cases he:ps.length=(Txt.split z " ").length
  ·have e:decide (V.int (((Txt.split z " ").map V.str).length:Int)=V.int (xs.length:Int))=true:=decide_eq_true (by rw [hlen,hxl,he])
   rw [e]
   refine iteF ?_
   refine ⟨_,rfl,_,rfl,a,l,rfl,⟨_,sl.seq hq⟩,⟨_,.of upd_same⟩,fun D hD=>?_⟩
   refine comp_zip (K:=K) (xs:=xs) (ys:=(Txt.split z " ").map V.str) (fun i acc σ H2=>(∃ u v,σ=[u,v])∧Same (upd H l (.lst ((Txt.split z " ").map V.str))) H2∧acc=List.replicate (badT ps (Txt.split z " ") i).length (V.int 1)) upd_same ⟨⟨_,_,rfl⟩,Same.new hD,rfl⟩ (fun i acc σ H2 _ q=>⟨(sl.trans q.2.1).seq hq,.of (q.2.1 _ _ upd_same)⟩) (fun i x y acc σ H2 t hx hy hDx q ht=>?_) (fun acc σ H2 hDx q=>?_)
   ·obtain ⟨q0,s2,rfl⟩:=q
    apply ex_2 q0
    clear q0
    intro u v
    obtain ⟨p,hpi,hdp⟩:=dens_pt hds hx
    rw [List.getElem?_map] at hy
    cases hwi:(Txt.split z " ")[i]? with
    | none=>rw [hwi] at hy;cases hy
    | some x1=>
     rw [hwi] at hy
     cases hy
     have st:Same H2 (upd H2 t (.tup [x,.str x1])):=Same.new ht
     have hmem:x1∈Txt.split z " " :=List.mem_of_getElem? hwi
     have hsp:=ok_split hzs x1 hmem
     have hi:=ge_len hpi
     have hpl:=hok.1
     have eb:badT ps (Txt.split z " ") (i+1)=badT ps (Txt.split z " ") i++(if p.takes x1=true then [] else [(p,x1)]):=by
      unfold badT
      rw [List.take_add_one,show (ps.zip (Txt.split z " "))[i]? = some (p,x1) by rw [List.getElem?_zip_eq_some];exact ⟨hpi,hwi⟩]
      rw [List.filter_append]
      congr 1
      by_cases ht:p.takes x1=true
      ·rw [if_pos ht];simp [ht]
      ·rw [if_neg ht];simp [ht]
     refine ⟨t,_,rfl,.of upd_same,rfl,_,_,rfl,_,_,rfl,rfl,?_⟩
     refine ⟨_,rfl,_,rfl,x,x1,p,rfl,hdp.same ((sl.trans s2).trans st),hok.2 p (List.mem_of_getElem? hpi),hws x1 hmem,⟨Nat.le_trans hsp.2 hz',hsp.1⟩,fun H4 s4=>⟨_,rfl,?_⟩⟩
     have hbl:=badT_len ps (Txt.split z " ") i
     by_cases htk:p.takes x1=true
     ·rw [htk]
      refine iteF ⟨_,s4 _ _ (st _ _ hDx),⟨_,_,rfl⟩,(s2.trans st).trans s4,?_⟩
      rw [eb,if_pos htk,List.append_nil]
     ·rw [Bool.eq_false_iff.mpr htk]
      refine iteT ⟨_,s4 _ _ (st _ _ hDx),small (by simp only [List.length_replicate];lia),_,upd_same,⟨_,_,rfl⟩,snap_upd hD ((s2.trans st).trans s4),?_⟩
      rw [eb,if_neg htk,List.length_append,List.length_singleton,List.replicate_succ']
   ·obtain ⟨_,s2,rfl⟩:=q
    refine ⟨Nat.zero_le _,fun L hL=>?_⟩
    have sL:Same H2 (upd H2 L (.lst [])):=Same.new hL
    refine ⟨_,_,.lst (.of (sL _ _ hDx)) (dens_ones _),.lst (.of upd_same) .nil,dep_ones _,?_⟩
    have eb:badT ps (Txt.split z " ") (min xs.length ((Txt.split z " ").map V.str).length)=badL ps (Txt.split z " "):=by
     unfold badT badL
     rw [List.take_of_length_le (by rw [List.length_zip,hlen];lia)]
    rw [list_nil,eb]
    have ei:(List.replicate (badL ps (Txt.split z " ")).length (PyData.int 1)).isEmpty=takesAll ps (Txt.split z " "):=by
     rw [← bad_all he]
     cases badL ps (Txt.split z " ") <;> rfl
    rw [ei]
    exact k _ ((sl.trans s2).trans sL)
  ·have e:decide (V.int (((Txt.split z " ").map V.str).length:Int)=V.int (xs.length:Int))=false:=decide_eq_false (fun q=>he (by rw [hlen,hxl] at q;injection q with q;lia))
   rw [e]
   refine iteT ?_
   have e2:takesAll ps (Txt.split z " ")=false:=by unfold takesAll;rw [decide_eq_false he];rfl
   have:=k _ sl
   rw [e2] at this
   exact this
def sp__law_is_of (K:PySem.W.Frag):Sp:=fun vs H Q _=>∃ (a:Addr) (xs:List V) (pss:List (List Pt)) (z:Str),vs=[.ref a,.str z]∧SqL K H a xs∧Dens K H xs (pss.map patD)∧(∀ ps∈pss,POk ps)∧pss.length≤1000∧LOk z∧PyData.strOk z=true∧Words (Txt.split z " ")∧∀ H',Same H H'→Q (.bl (knows pss (Txt.split z " "))) H'
theorem knows_filter (pss:List (List Pt)) (ws:List Str):(!(pss.filter fun ps=>takesAll ps ws).isEmpty)=knows pss ws:=by
 unfold knows
 induction pss with
 | nil=>rfl
 | cons p r ih=>
  by_cases h:takesAll p ws=true
  ·rw [List.filter_cons_of_pos (by simpa using h),List.any_cons,h];rfl
  ·rw [List.filter_cons_of_neg (by simpa using h),List.any_cons,ih,Bool.eq_false_iff.mpr h,Bool.false_or]
theorem sc__law_is_of:FnScope ["patterns", "line"] ["patterns", "line"] (defScope (top 38)):=⟨rfl,rfl,rfl,by decide +kernel,rfl,by decide +kernel,by decide +kernel⟩
set_option maxHeartbeats 8000000 in
theorem ok__law_is_of (T:Tx K mg A):FnOk P w K mg base CX0 4 A.f__law_is_of A.d__law_is_of ["patterns", "line"] (sp__law_is_of K):=by
 have G__law_fits:FnOk P w K mg base CX0 3 A.f__law_fits A.d__law_fits ["pattern", "line"] (sp__law_fits K):=(ok__law_fits T).mono (by decide)
 refine T._law_is_of.fn.ok sc__law_is_of (fun vs H Q E h=>?_) (fun cdv Ar outer s H vs Q E hr h=>?_)
 ·obtain ⟨a,xs,pss,z,rfl,_⟩:=h;rfl
 ·obtain ⟨a,xs,pss,z,rfl,hq,hds,hok,hl,hz,hzs,hws,k⟩:=h
  have hxl:xs.length=pss.length:=by rw [hds.length,List.length_map]
  refine ⟨_,pss_one (ps_ret (pe_cmpR (r:=rNeD K) (op_neD hr) (pe_comp (N':=["pattern", "line"]) (n:=1) (fi:=[1]) (g:=gName 0) rfl (cscope (defScope (top 38)) ["patterns", "line"] (by decide +kernel)) (pi_list (pv 0)) (fun s H fp=>pg_name (i:=0) (show (["pattern", "line"]:List Str).Nodup by decide +kernel) rfl (Or.inl rfl) (.inr rfl)) (fun s H fp=>pifs_one (pt_val (pe_call G__law_fits hr (by rfl) T._law_fits.mg T._law_fits.fn.kp T._law_fits.bd .nil pass0 (pa_cons (pv 0) (pa_cons (pv 1) (pa_nil)))))) (fun s H fp=>pv 0)) (pe_lst (pa_nil)) (nomark _))),?_⟩
  refine ⟨_,rfl,a,rfl,⟨_,hq⟩,fun D hD=>?_⟩
  refine comp_list (K:=K) (xs:=xs) (fun i acc σ H2=>(∃ u,σ=[u,some (.str z)])∧Same H H2∧Dens K H acc (((pss.take i).filter fun ps=>takesAll ps (Txt.split z " ")).map patD)) upd_same ⟨⟨_,rfl⟩,Same.new hD,.nil⟩ (fun i acc σ H2 _ _ q=>q.2.1.seq hq) (fun i x acc σ H2 hx hDx q=>?_) (fun acc σ H2 hDx q=>?_)
  ·obtain ⟨q0,s2,dn⟩:=q
   apply ex_1 q0
   clear q0
   intro u
   obtain ⟨ps,hpi,hdp⟩:=dens_pat hds hx
   have hi:=ge_len hpi
   have hal:acc.length≤i:=by
    rw [dn.length,List.length_map]
    exact Nat.le_trans (List.length_filter_le _ _) (by rw [List.length_take];lia)
   have eb:((pss.take (i+1)).filter fun ps=>takesAll ps (Txt.split z " "))=((pss.take i).filter fun ps=>takesAll ps (Txt.split z " "))++(if takesAll ps (Txt.split z " ")=true then [ps] else []):=by
    rw [List.take_add_one,hpi,List.filter_append]
    congr 1
    by_cases ht:takesAll ps (Txt.split z " ")=true
    ·rw [if_pos ht];simp [ht]
    ·rw [if_neg ht];simp [ht]
   refine ⟨_,rfl,_,rfl,x,z,ps,rfl,hdp.same s2,hok ps (List.mem_of_getElem? hpi),hz,hzs,hws,fun H4 s4=>?_⟩
   by_cases htk:takesAll ps (Txt.split z " ")=true
   ·rw [htk]
    refine ⟨_,rfl,iteT ⟨_,rfl,_,s4 _ _ hDx,small (by lia),_,upd_same,⟨_,rfl⟩,snap_upd hD (s2.trans s4),?_⟩⟩
    rw [eb,if_pos htk,List.map_append]
    exact dn.append (.cons hdp .nil)
   ·rw [Bool.eq_false_iff.mpr htk]
    refine ⟨_,rfl,iteF ⟨_,s4 _ _ hDx,⟨_,rfl⟩,s2.trans s4,?_⟩⟩
    rw [eb,if_neg htk,List.append_nil]
    exact dn
  ·obtain ⟨_,s2,dn⟩:=q
   rw [List.take_of_length_le (by lia)] at dn
   refine ⟨Nat.zero_le _,fun L hL=>?_⟩
   have sL:Same H2 (upd H2 L (.lst [])):=Same.new hL
   refine ⟨_,_,.lst (.of (sL _ _ hDx)) (dn.same (s2.trans sL)),.lst (.of upd_same) .nil,dep_pats _,?_⟩
   rw [pats_nil,knows_filter]
   exact k _ (s2.trans sL)
end
end K10
namespace K10
open PySem L2 LG
section
variable {P:Program}{w:World}{K:PySem.W.Frag}{mg:Str→Option Value}{base:Heap}{A:Ad}
def S0:Str:= "0123456789"
def S1:Str:= "abcdefghijklmnopqrstuvwxyz"
def S2:Str:= "!\"#$&'()*+,-./:;<=>?@AB"
def three:List Str:=[S0,S1,S2]
theorem three_is:∀ i<3,∃ x,three[i]? = some x∧x.cps.toList=sgsOf i∧x.length≤26:=by decide +kernel
def LWs (nm:List Str) (i:Nat) (ls:List Str):Prop:=ls.length=i∧∀ k x,ls[k]? = some x→LW k nm x
def sp__law_words (K:PySem.W.Frag):Sp:=fun vs H Q _=>∃ (a:Addr) (xs:List V) (pss:List (List Pt)) (n:Nat),vs=[.ref a,.int (n:Int)]∧SqL K H a xs∧Dens K H xs (pss.map patD)∧(∀ ps∈pss,PW ps∧n<ps.length∧ps.length≤12)∧pss.length≤15 ∧
 ∀ (F:Addr) (H':Hp) (l:List Str) (x0 x1 x2:Str),H F=none→Same H H'→H' F=some (.lst (l.map V.str))→LW 0 (named (partsAt n pss)) x0→LW 1 (named (partsAt n pss)) x1→LW 2 (named (partsAt n pss)) x2→(∀ x,x∈l↔x∈named (partsAt n pss)++[x0,x1,x2])→(l.Pairwise fun a b=>wlt b a=false)→l.length≤18→Q (.ref F) H'
theorem partsAt_next {pss:List (List Pt)}{ps:List Pt}{n i:Nat} (h:pss[i]? = some ps):partsAt n (pss.take (i+1))=partsAt n (pss.take i)++[ps.getD n (.hole 2)]:=by
 unfold partsAt
 rw [List.take_add_one,h,List.map_append]
 rfl
theorem tried_is {i:Nat}{z:Str} (h:z.cps.toList=sgsOf i):(z.cps.toList.map fun c=>V.str ⟨#[c]⟩)++((sgsOf 0).map fun c=>V.str (ng c))=(tried i).map V.str:=by
 unfold tried negs
 rw [h,List.map_append,List.map_map,List.map_map]
 rfl
def kfOf (H:Hp) (b:Addr):Int×Str:=match H b with
 | some (.tup [.int i,.str w])=>(i,w)
 | _=>(0,Str.empty)
theorem sc__law_words:FnScope ["patterns", "at", "words", "some"] ["patterns", "at"] (defScope (top 35)):=⟨rfl,rfl,rfl,by decide +kernel,rfl,by decide +kernel,by decide +kernel⟩
set_option maxHeartbeats 8000000 in
theorem ok__law_words (T:Tx K mg A):FnOk P w K mg base CX0 1 A.f__law_words A.d__law_words ["patterns", "at"] (sp__law_words K):=by
 refine T._law_words.fn.ok sc__law_words (fun vs H Q E h=>?_) (fun cdv Ar outer s H vs Q E hr h=>?_)
 ·obtain ⟨a,xs,pss,n,rfl,_⟩:=h;rfl
 ·obtain ⟨a,xs,pss,n,rfl,hq,hds,hok,hl,k⟩:=h
  have hxl:xs.length=pss.length:=by rw [hds.length,List.length_map]
  refine ⟨_,pss_cons (ps_set (i:=2) sc__law_words.nd rfl (Or.inr rfl) (pe_comp (N':=["pattern", "at"]) (n:=1) (fi:=[1]) (g:=gName 0) rfl (cscope (defScope (top 35)) ["patterns", "at", "words", "some"] (by decide +kernel)) (pi_list (pv 0)) (fun s H fp=>pg_name (i:=0) (show (["pattern", "at"]:List Str).Nodup by decide +kernel) rfl (Or.inl rfl) (.inr rfl)) (fun s H fp=>pifs_one (pt_cmpR (op_eq) (pe_ix (r:=rIxT K) ix_tup (pe_ix (r:=rIxL K) ix_list (pv 0) (pv 1) (fun _ _=>rfl)) (pe_int) (fun _ _=>rfl)) (pe_str) (nomark _))) (fun s H fp=>pe_ix (r:=rIxT K) ix_tup (pe_ix (r:=rIxL K) ix_list (pv 0) (pv 1) (fun _ _=>rfl)) (pe_int) (fun _ _=>rfl))))
   (pss_cons (ps_for PassesOwn.never rfl (pi_list (pe_lst (pa_cons (pe_str) (pa_cons (pe_str) (pa_cons (pe_str) (pa_nil)))))) (pg_name (i:=3) sc__law_words.nd rfl (Or.inl rfl)) (pss_one (ps_expr (pe_bm PySem.F.plainAttrs_list PySem.F.slot_list_append PySem.F.type_list_append mt_append (pv 2) (pa_cons (pe_ix (r:=rIxL K) ix_list (pe_comp (N':=["sign", "words"]) (n:=1) (fi:=[2]) (g:=gName 0) rfl (cscope (defScope (top 35)) ["patterns", "at", "words", "some"] (by decide +kernel)) (pi_list (pe_op (r:=rCatS K) op_catS (pe_callTy (call_listT rfl) (by rfl) T.n_list bt_list (pa_cons (pv 3) (pa_nil))) (pe_comp (N':=["sign"]) (n:=1) (fi:=[]) (g:=gName 0) rfl (cscope (defScope (top 35)) ["patterns", "at", "words", "some"] (by decide +kernel)) (pi_str (pe_str)) (fun s H fp=>pg_name (i:=0) (show (["sign"]:List Str).Nodup by decide +kernel) rfl (Or.inl rfl) (.inr rfl)) (fun s H fp=>pifs_nil) (fun s H fp=>pe_op op_add_str (pe_str) (pv 0))))) (fun s H fp=>pg_name (i:=0) (show (["sign", "words"]:List Str).Nodup by decide +kernel) rfl (Or.inl rfl) (.inr rfl)) (fun s H fp=>pifs_one (pt_cmpR (r:=rIn K true) (op_notIn_seq) (pv 0) (pv 1) (by rfl))) (fun s H fp=>pv 0)) (pe_int) (fun _ _=>rfl)) (pa_nil))))))
   (pss_one (ps_ret (pe_comp (N':=["size", "word"]) (n:=2) (fi:=[]) (g:=gTup K 2 (gCons (gName 0) (gCons (gName 1) (gNil)))) rfl (cscope (defScope (top 35)) ["patterns", "at", "words", "some"] (by decide +kernel)) (pi_list (pe_sortT hr (by rfl) T.n_sorted bt_sorted (by rfl) T.n_set bt_set (pa_cons (pe_comp (N':=["word"]) (n:=1) (fi:=[]) (g:=gName 0) rfl (cscope (defScope (top 35)) ["patterns", "at", "words", "some"] (by decide +kernel)) (pi_list (pv 2)) (fun s H fp=>pg_name (i:=0) (show (["word"]:List Str).Nodup by decide +kernel) rfl (Or.inl rfl) (.inr rfl)) (fun s H fp=>pifs_nil) (fun s H fp=>pe_tup (pa_cons (pe_callB call_len_str (by rfl) T.n_len PySem.boot_len (pa_cons (pv 0) (pa_nil))) (pa_cons (pv 0) (pa_nil))))) (pa_nil)))) (fun s H fp=>pg_tup rfl (pgs_cons (pg_name (i:=0) (show (["size", "word"]:List Str).Nodup by decide +kernel) rfl (Or.inl rfl) (.inr rfl)) (pgs_cons (pg_name (i:=1) (show (["size", "word"]:List Str).Nodup by decide +kernel) rfl (Or.inl rfl) (.inr rfl)) (pgs_nil)))) (fun s H fp=>pifs_nil) (fun s H fp=>pv 1))))),?_⟩
  refine ⟨_,rfl,a,rfl,⟨_,hq⟩,fun F hF=>?_⟩
  refine comp_list (K:=K) (xs:=xs) (fun i acc σ H2=>(∃ u,σ=[u,some (.int n)])∧Same H H2∧acc=(named (partsAt n (pss.take i))).map V.str) upd_same ⟨⟨_,rfl⟩,Same.new hF,rfl⟩ (fun i acc σ H2 _ _ q=>q.2.1.seq hq) (fun i x acc σ H2 hx hDx q=>?_) (fun acc σ H2 hDx q=>?_)
  ·obtain ⟨q0,s2,rfl⟩:=q
   apply ex_1 q0
   clear q0
   intro u
   obtain ⟨ps,hpi,hdp⟩:=dens_pat hds hx
   obtain ⟨hpw,hn,hp12⟩:=hok ps (List.mem_of_getElem? hpi)
   obtain ⟨c,ys,rfl,hqc,hdc⟩:=den_pat hdp
   have hi:=ge_len hpi
   obtain ⟨p,hpn⟩:=at_of (l:=ps) (i:=n) hn
   have hgd:ps.getD n (.hole 2)=p:=by rw [List.getD_eq_getElem?_getD,hpn];rfl
   obtain ⟨y,hyn⟩:=at_of (l:=ys) (i:=n) (by rw [hdc.length,List.length_map];exact hn)
   obtain ⟨p',hpn',hdq⟩:=dens_pt hdc hyn
   rw [hpn] at hpn'
   cases hpn'
   obtain ⟨b,x1,y1,ey,hqb,_,hoky,hxx⟩:=den_pt hdq
   subst ey
   have en:named (partsAt n (pss.take (i+1)))=named (partsAt n (pss.take i))++named [p]:=by rw [partsAt_next hpi,named_app,hgd]
   have hnl:(named (partsAt n (pss.take i))).length≤i:=Nat.le_trans (named_len _) (by unfold partsAt;rw [List.length_map,List.length_take];lia)
   refine ⟨_,rfl,_,rfl,c,ys,n,_,rfl,rfl,s2.seq hqc,atI_nat hyn,b,_,0,_,rfl,rfl,s2.seqT hqb,rfl,rfl,_,rfl,?_⟩
   cases p with
   | word y=>
    obtain ⟨rfl,rfl⟩:=hxx
    rw [decide_eq_true rfl]
    refine iteT ⟨_,rfl,_,rfl,c,ys,n,_,rfl,rfl,s2.seq hqc,atI_nat hyn,b,_,1,_,rfl,rfl,s2.seqT hqb,rfl,_,hDx,small (by rw [List.length_map];lia),_,upd_same,⟨_,rfl⟩,snap_upd hF s2,?_⟩
    rw [en,List.map_append]
    rfl
   | hole m=>
    obtain ⟨rfl,rfl⟩:=hxx
    rw [decide_eq_false (by decide)]
    refine iteF ⟨_,hDx,⟨_,rfl⟩,s2,?_⟩
    rw [en]
    simp [named]
  ·obtain ⟨_,s2,rfl⟩:=q
   rw [List.take_of_length_le (by lia)] at hDx
   refine ⟨(by show 3≤sizeLine;decide),fun L hL=>?_⟩
   have hFL:F≠L:=ne_of_none hDx hL
   have hnm:(named (partsAt n pss)).length≤15:=Nat.le_trans (named_len _) (by unfold partsAt;rw [List.length_map];exact hl)
   generalize hne:named (partsAt n pss)=nm at *
   have sL:Same H2 (upd H2 L (.lst (three.map V.str))):=Same.new hL
   refine ⟨L,rfl,⟨_,.of upd_same⟩,?_⟩
   refine for_list (K:=K) (xs:=three.map V.str) (fun i σ H3=>∃ (ls:List Str) (u:Option V),σ=[some (.ref a),some (.int n),some (.ref F),u]∧Same H H3∧H3 L=some (.lst (three.map V.str))∧H3 F=some (.lst ((nm++ls).map V.str))∧LWs nm i ls) ⟨[],_,rfl,s2.trans sL,upd_same,by rw [List.append_nil];exact sL _ _ hDx,rfl,fun k x h=>by simp at h⟩ (fun i σ H3 _ q=>by obtain ⟨ls,u,_,_,hL3,_⟩:=q;exact .of hL3) (fun i x σ H3 hx q=>?_) (fun σ H3 q=>?_)
   ·obtain ⟨ls,u,rfl,s3,hL3,hF3,hls⟩:=q
    have hi3:i<3:=by have:=ge_len hx;simpa [three] using this
    obtain ⟨z,hz,hzl,hz26⟩:=three_is i hi3
    have ex:x = .str z:=by rw [List.getElem?_map,hz] at hx;cases hx;rfl
    subst ex
    refine ⟨_,rfl,.inl ⟨rfl,_,.of hF3⟩,_,rfl,z,rfl,by lia,fun l1 hl1=>?_⟩
    have sl1:Same H3 (upd H3 l1 (.lst (z.cps.toList.map fun c=>V.str ⟨#[c]⟩))):=Same.new hl1
    have hl11:(upd H3 l1 (.lst (z.cps.toList.map fun c=>V.str ⟨#[c]⟩))) l1=_:=upd_same
    generalize upd H3 l1 (.lst (z.cps.toList.map fun c=>V.str ⟨#[c]⟩))=H4 at sl1 hl11 ⊢
    have s4:Same H H4:=s3.trans sl1
    refine ⟨_,rfl,fun D2 hD2=>?_⟩
    refine comp_str (z:= "0123456789") (fun j acc σ H5=>(∃ u,σ=[u])∧Same H4 H5∧acc=((sgsOf 0).take j).map fun c=>V.str (ng c)) upd_same ⟨⟨_,rfl⟩,Same.new hD2,rfl⟩ (fun j c acc σ H5 hc hDx q=>?_) (fun acc σ H5 hDx q=>?_)
    ·obtain ⟨q0,s5,rfl⟩:=q
     apply ex_1 q0
     clear q0
     intro u
     have hcj:(sgsOf 0)[j]? = some c:=by
      have e:("0123456789" : Str).cps.toList=sgsOf 0:=by decide +kernel
      rw [← e,Array.getElem?_toList]
      exact hc
     have hj:=ge_len hcj
     have ea:("-" : Str)++(⟨#[c]⟩:Str)=ng c:=str_ext (by rw [Str.cps_append,Array.toList_append];rfl)
     refine compY ⟨_,rfl, "-",⟨#[c]⟩,rfl,rfl,(by show 2≤sizeLine;decide),?_⟩
     rw [ea]
     refine ⟨_,hDx,small (by rw [List.length_map,List.length_take];have:(sgsOf 0).length=10:=rfl;lia),_,upd_same,⟨_,rfl⟩,snap_upd hD2 s5,?_⟩
     rw [List.take_add_one,hcj,List.map_append]
     rfl
    ·obtain ⟨_,s5,rfl⟩:=q
     have e10:((sgsOf 0).take ("0123456789" : Str).length)=sgsOf 0:=by decide +kernel
     rw [e10] at hDx
     refine ⟨l1,D2,_,_,rfl,rfl,.of (s5 _ _ hl11),.of hDx,?_,fun l3 hl3=>?_⟩
     ·rw [List.length_map,List.length_map,hzl]
      have:(sgsOf i).length≤26:=by rw [← hzl];simpa [Str.length] using hz26
      exact Nat.le_trans (Nat.add_le_add this (show (sgsOf 0).length≤10 by decide)) (by decide)
     rw [tried_is hzl]
     have s6:Same H5 (upd H5 l3 (.lst ((tried i).map V.str))):=Same.new hl3
     have hl33:(upd H5 l3 (.lst ((tried i).map V.str))) l3=_:=upd_same
     generalize upd H5 l3 (.lst ((tried i).map V.str))=H6 at s6 hl33 ⊢
     have s36:Same H3 H6:=(sl1.trans s5).trans s6
     have hF6:=s36 _ _ hF3
     refine ⟨l3,rfl,⟨_,.of hl33⟩,fun D3 hD3=>?_⟩
     refine comp_list (K:=K) (xs:=(tried i).map V.str) (fun j acc σ H7=>(∃ u,σ=[u,some (.ref F)])∧Same H6 H7∧acc=(((tried i).take j).filter fun y=>!(nm++ls).contains y).map V.str) upd_same ⟨⟨_,rfl⟩,Same.new hD3,rfl⟩ (fun j acc σ H7 _ _ q=>.of (q.2.1 _ _ hl33)) (fun j y acc σ H7 hy hDy q=>?_) (fun acc σ H7 hDy q=>?_)
     ·obtain ⟨q0,s7,rfl⟩:=q
      apply ex_1 q0
      clear q0
      intro u
      obtain ⟨o,ho,rfl⟩:=strs_at hy
      have hj:=ge_len ho
      have htl:(tried i).length≤36:=by
       have:∀ i<3,(tried i).length≤36:=by decide
       exact this i hi3
      refine ⟨_,rfl,_,rfl,F,_,rfl,.inl (.of (s7 _ _ hF6)),rfl,flat_strs _,_,rfl,?_⟩
      rw [in_strs]
      have eb:(((tried i).take (j+1)).filter fun y=>!(nm++ls).contains y)=(((tried i).take j).filter fun y=>!(nm++ls).contains y)++(if o∈nm++ls then [] else [o]):=by
       rw [List.take_add_one,ho,List.filter_append]
       congr 1
       by_cases ht:o∈nm++ls
       ·rw [if_pos ht]
        show List.filter _ [o]=[]
        rw [List.filter_cons_of_neg (by rw [List.contains_eq_mem,decide_eq_true ht];exact Bool.false_ne_true)]
        rfl
       ·rw [if_neg ht]
        show List.filter _ [o]=[o]
        rw [List.filter_cons_of_pos (by rw [List.contains_eq_mem,decide_eq_false ht];rfl)]
        rfl
      have hal:((((tried i).take j).filter fun y=>!(nm++ls).contains y).map V.str).length≤36:=by
       rw [List.length_map]
       exact Nat.le_trans (List.length_filter_le _ _) (by rw [List.length_take];lia)
      by_cases ht:o∈nm++ls
      ·rw [decide_eq_true ht]
       refine iteF ⟨_,hDy,⟨_,rfl⟩,s7,?_⟩
       rw [eb,if_pos ht,List.append_nil]
      ·rw [decide_eq_false ht]
       refine iteT ⟨_,rfl,_,hDy,small (by lia),_,upd_same,⟨_,rfl⟩,snap_upd hD3 s7,?_⟩
       rw [eb,if_neg ht,List.map_append]
       rfl
     ·obtain ⟨_,s7,rfl⟩:=q
      rw [List.take_of_length_le (by rw [List.length_map];exact Nat.le_refl _)] at hDy
      obtain ⟨hl1,hl2⟩:=hls
      have hwl:(nm++ls).length≤15+i:=by rw [List.length_append];lia
      obtain ⟨w1,hw1⟩:=first_there (k:=i) (words:=nm++ls) (by
       have:i=0∨i=1∨i=2:=by lia
       rcases this with e | e | e
       ·exact .inl ⟨e,by lia⟩
       ·exact .inr (.inl ⟨e,by lia⟩)
       ·exact .inr (.inr ⟨e,by lia⟩))
      have lw:LW i nm w1:=tried_lw hi3 (fun y hy=>by
       obtain ⟨k1,hk1⟩:=List.getElem?_of_mem hy
       have:=(hl2 k1 y hk1).kd
       have:=ge_len hk1
       lia) (fun _=>by lia) hw1
      have hat:atI ((((tried i).filter fun y=>!(nm++ls).contains y)).map V.str) 0=some (.str w1):=by
       refine atI_nat (j:=0) ?_
       rw [List.getElem?_map,← List.head?_eq_getElem?,hw1]
       rfl
      have hF7:=s7 _ _ hF6
      refine ⟨_,_,_,_,rfl,rfl,.of hDy,hat,F,_,_,rfl,rfl,hF7,small (by rw [List.length_map];lia),ls++[w1],_,rfl,snap_upd hF (s3.trans (s36.trans s7)),?_,?_,?_,?_⟩
      ·rw [upd_ne hFL.symm]
       exact s7 _ _ (s36 _ _ hL3)
      ·rw [upd_same,← List.append_assoc,List.map_append (l₁:=nm++ls)]
       rfl
      ·rw [List.length_append,hl1];rfl
      ·intro k1 y hy
       rcases Nat.lt_or_ge k1 ls.length with q | q
       ·rw [List.getElem?_append_left q] at hy
        exact hl2 k1 y hy
       ·rw [List.getElem?_append_right q] at hy
        have hk0:k1 - ls.length=0:=by have:=ge_len hy;simp at this;lia
        rw [hk0] at hy
        cases hy
        have:k1=i:=by lia
        rw [this]
        exact lw
   ·obtain ⟨ls,u,rfl,s3,hL3,hF3,hl1,hl2⟩:=q
    have hl1:ls.length=3:=hl1
    obtain ⟨x0,x1,x2,rfl⟩:∃ x0 x1 x2,ls=[x0,x1,x2]:=by
     match ls,hl1 with
     | [x0,x1,x2],_=>exact ⟨x0,x1,x2,rfl⟩
    have w0:=hl2 0 x0 rfl
    have w1:=hl2 1 x1 rfl
    have w2:=hl2 2 x2 rfl
    have hwok:∀ w∈nm++[x0,x1,x2],Bd w:=fun w hw=>by
     rcases List.mem_append.mp hw with q | q
     ·rw [← hne] at q
      obtain ⟨ps,hps,e⟩:=List.mem_map.mp (mem_named.mp q)
      obtain ⟨hpw,hn,_⟩:=hok ps hps
      have hm:=hpw (ps.getD n (.hole 2)) (by rw [List.getD_eq_getElem?_getD,List.getElem?_eq_getElem hn];exact List.getElem_mem hn)
      rw [e] at hm
      exact hm.2
     ·simp only [List.mem_cons,List.not_mem_nil,or_false] at q
      rcases q with rfl | rfl | rfl
      ·exact w0.bd
      ·exact w1.bd
      ·exact w2.bd
    have hwl:(nm++[x0,x1,x2]).length≤18:=by rw [List.length_append];show nm.length+3≤18;lia
    generalize hwe:nm++[x0,x1,x2]=ws at *
    refine ⟨_,rfl,F,rfl,⟨_,.of hF3⟩,fun D hD=>?_⟩
    refine comp_list (K:=K) (xs:=ws.map V.str) (fun j acc σ H4=>(∃ u,σ=[u])∧Same H3 H4∧∃ bs:List Addr,acc=bs.map V.ref∧bs.length=j∧∀ (i:Nat) (b:Addr),bs[i]? = some b→∃ w,ws[i]? = some w∧H4 b=some (.tup [.int w.length,.str w])) upd_same ⟨⟨_,rfl⟩,Same.new hD,[],rfl,rfl,fun i b h=>by simp at h⟩ (fun j acc σ H4 _ _ q=>.of (q.2.1 _ _ hF3)) (fun j y acc σ H4 hy hDy q=>?_) (fun acc σ H4 hDy q=>?_)
    ·obtain ⟨q0,s4,bs,rfl,hbl,hbs⟩:=q
     apply ex_1 q0
     clear q0
     intro u
     obtain ⟨o,ho,rfl⟩:=strs_at hy
     have hj:=ge_len ho
     have hob:=hwok o (List.mem_of_getElem? ho)
     refine compY ⟨_,rfl,o,rfl,Nat.le_trans hob.1 (by decide),_,rfl,(by show 2≤sizeLine;decide),fun t ht=>?_⟩
     have st:Same H4 (upd H4 t (.tup [.int o.length,.str o])):=Same.new ht
     have htD:t≠D:=(ne_of_none hDy ht).symm
     have hbD:∀ (i:Nat) (b:Addr),bs[i]? = some b→b≠D:=fun i b hb e=>by
      obtain ⟨w,_,h2⟩:=hbs i b hb
      rw [e,hDy] at h2
      cases h2
     refine ⟨_,st _ _ hDy,small (by rw [List.length_map];lia),_,upd_same,⟨_,rfl⟩,snap_upd hD (s4.trans st),bs++[t],by rw [List.map_append];rfl,by rw [List.length_append,hbl];rfl,fun i b hb=>?_⟩
     rcases Nat.lt_or_ge i bs.length with q | q
     ·rw [List.getElem?_append_left q] at hb
      obtain ⟨w,h1,h2⟩:=hbs i b hb
      exact ⟨w,h1,by rw [upd_ne (hbD i b hb)];exact st _ _ h2⟩
     ·rw [List.getElem?_append_right q] at hb
      have hk0:i - bs.length=0:=by have:=ge_len hb;simp at this;lia
      rw [hk0] at hb
      cases hb
      have:i=j:=by lia
      exact ⟨o,by rw [this];exact ho,by rw [upd_ne htD];exact upd_same⟩
    ·obtain ⟨_,s4,bs,rfl,hbl,hbs⟩:=q
     rw [List.length_map] at hbl
     have hkb:∀ b∈bs,∃ w,w∈ws∧H4 b=some (.tup [.int w.length,.str w]):=fun b hb=>by
      obtain ⟨i,hi⟩:=List.getElem?_of_mem hb
      obtain ⟨w,h1,h2⟩:=hbs i b hi
      exact ⟨w,List.mem_of_getElem? h1,h2⟩
     have hkf:∀ (b:Addr) (w:Str),H4 b=some (.tup [.int w.length,.str w])→kfOf H4 b=((w.length:Int),w):=fun b w h=>by unfold kfOf;rw [h]
     refine ⟨D,bs,kfOf H4,rfl,.inl hDy,by lia,fun b hb=>?_,fun D2 ms hD2 hsub hcov up h18=>?_⟩
     ·obtain ⟨w,h1,h2⟩:=hkb b hb
      rw [hkf b w h2]
      exact ⟨h2,(hwok w h1).2⟩
     have s5:Same H4 (upd H4 D2 (.lst (ms.map V.ref))):=Same.new hD2
     have hD22:(upd H4 D2 (.lst (ms.map V.ref))) D2=_:=upd_same
     generalize upd H4 D2 (.lst (ms.map V.ref))=H5 at s5 hD22 ⊢
     refine ⟨D2,rfl,⟨_,.of hD22⟩,fun D3 hD3=>?_⟩
     refine comp_list (K:=K) (xs:=ms.map V.ref) (fun j acc σ H6=>(∃ u v,σ=[u,v])∧Same H5 H6∧acc=((ms.take j).map fun b=>(kfOf H4 b).2).map V.str) upd_same ⟨⟨_,_,rfl⟩,Same.new hD3,rfl⟩ (fun j acc σ H6 _ _ q=>.of (q.2.1 _ _ hD22)) (fun j y acc σ H6 hy hDy6 q=>?_) (fun acc σ H6 hDy6 q=>?_)
     ·obtain ⟨q0,s6,rfl⟩:=q
      apply ex_2 q0
      clear q0
      intro u v
      rw [List.getElem?_map] at hy
      cases hmj:ms[j]? with
      | none=>rw [hmj] at hy;cases hy
      | some b=>
       rw [hmj] at hy
       cases hy
       obtain ⟨w,h1,h2⟩:=hkb b (hsub b (List.mem_of_getElem? hmj))
       have hj:=ge_len hmj
       refine compT2 (.of (s6 _ _ (s5 _ _ h2))) ⟨_,rfl,_,hDy6,small (by simp only [List.length_map,List.length_take];lia),_,upd_same,⟨_,_,rfl⟩,snap_upd hD3 s6,?_⟩
       rw [List.take_add_one,hmj,List.map_append,List.map_append]
       show _=_++[V.str (kfOf H4 b).2]
       rw [hkf b w h2]
     ·obtain ⟨_,s6,rfl⟩:=q
      rw [List.take_of_length_le (by rw [List.length_map];exact Nat.le_refl _)] at hDy6
      have sH:Same H H6:=((s3.trans s4).trans s5).trans s6
      refine k D3 H6 _ x0 x1 x2 (((s3.trans s4).trans s5).free hD3) sH hDy6 w0 w1 w2 (fun x=>?_) ?_ (by rw [List.length_map];exact h18)
      ·rw [hwe]
       constructor
       ·intro hx
        obtain ⟨b,hb,rfl⟩:=List.mem_map.mp hx
        obtain ⟨w,h1,h2⟩:=hkb b (hsub b hb)
        rw [hkf b w h2]
        exact h1
       ·intro hx
        obtain ⟨i,hi⟩:=List.getElem?_of_mem hx
        have hil:=ge_len hi
        obtain ⟨b,hb⟩:=at_of (l:=bs) (i:=i) (by lia)
        obtain ⟨w,h1,h2⟩:=hbs i b hb
        rw [hi] at h1
        cases h1
        obtain ⟨c,hc,e⟩:=hcov b (List.mem_of_getElem? hb)
        refine List.mem_map.mpr ⟨c,hc,?_⟩
        rw [e,hkf b _ h2]
      ·rw [List.pairwise_map]
       refine up.imp_of_mem fun {a b} ha hb h=>?_
       obtain ⟨wa,_,h2⟩:=hkb a (hsub a ha)
       obtain ⟨wb,_,h3⟩:=hkb b (hsub b hb)
       rw [hkf a wa h2,hkf b wb h3] at h ⊢
       exact h
end
end K10
namespace K10
open PySem L2 LG
section
variable {P:Program}{w:World}{K:PySem.W.Frag}{mg:Str→Option Value}{base:Heap}{A:Ad}
def sp_sought (N:Nat) (K:PySem.W.Frag):Sp:=fun vs H R _=>∃ (a b kn:Addr) (xs ys:List V) (P Q P0 Q0:List (List Pt)) (n m:Nat) (kvs:List (Key×V)),vs=[.ref a,.ref b,.int (n:Int),.int (m:Int),.ref kn]∧SqL K (wo kn H) a xs∧Dens K (wo kn H) xs (P.map patD)∧SqL K (wo kn H) b ys∧Dens K (wo kn H) ys (Q.map patD) ∧
 P.Sublist P0∧Q.Sublist Q0∧Base m P0 Q0∧n≤m∧m<n+N∧H kn=some (.dK kvs)∧KnK P0 Q0 kvs∧KnOk K (wo kn H) m P0 Q0 n kvs ∧
 ∀ (v:V) (H':Hp) (kvs':List (Key×V)) (o:Option (List Str)),Same (wo kn H) (wo kn H')→H' kn=some (.dK kvs')→KnK P0 Q0 kvs'→KnOk K (wo kn H') m P0 Q0 n kvs'→KnKeep P0 Q0 n kvs kvs'→So (m - n) (dr n P) (dr n Q) o→ResV K (wo kn H') v o→R v H'
theorem len_dr {m:Nat}{P P0:List (List Pt)} (h:∀ ps∈P0,PW ps∧ps.length=m) (s:P.Sublist P0) (n:Nat):∀ ps∈dr n P,PW ps∧ps.length=m - n:=fun ps hp=>by
 obtain ⟨q,hq,rfl⟩:=List.mem_map.mp hp
 obtain ⟨h1,h2⟩:=h q (s.subset hq)
 exact ⟨fun x hx=>h1 x (List.mem_of_mem_drop hx),by rw [List.length_drop,h2]⟩
theorem so_end {m:Nat}{P Q P0 Q0:List (List Pt)} (b:Base m P0 Q0) (hP:P.Sublist P0) (hQ:Q.Sublist Q0):So (m - m) (dr m P) (dr m Q) (if P.isEmpty≠Q.isEmpty then some [] else none):=by
 have h1:=len_dr b.p hP m
 have h2:=len_dr b.q hQ m
 rw [Nat.sub_self] at h1 h2 ⊢
 have e:=so_zero (P:=dr m P) (Q:=dr m Q) (fun p hp=>(h1 p hp).2) fun p hp=>(h2 p hp).2
 have n1:∀ X:List (List Pt),decide (dr m X=[])=X.isEmpty:=fun X=>by cases X <;> rfl
 rw [n1,n1] at e
 exact e
theorem so_unique {n:Nat}{P Q:List (List Pt)}{o o':Option (List Str)} (h12:n≤12) (hP:LenIs n P) (hQ:LenIs n Q) (h:So n P Q o) (h':So n P Q o'):o=o':=by
 rcases Nat.eq_zero_or_pos n with e | e
 ·subst e
  cases o with
  | none=>
   cases o' with
   | none=>rfl
   | some ws=>exact (h'.1 (h ws)).elim
  | some ws=>
   cases o' with
   | none=>exact (h.1 (h' ws)).elim
   | some ws'=>rw [List.eq_nil_of_length_eq_zero h.2.2.2.1,List.eq_nil_of_length_eq_zero h'.2.2.2.1]
 ·exact parts_eq (so_parts e h12 h hP hQ) (so_parts e h12 h' hP hQ)
noncomputable def gO (m n:Nat) (P Q:List (List Pt)) (w:Str):Option (List Str):=open Classical in if h:∃ o,So (m - (n+1)) (dr (n+1) (at_ n w P)) (dr (n+1) (at_ n w Q)) o then h.choose else none
theorem gO_eq {m n:Nat}{P Q P0 Q0:List (List Pt)}{w:Str}{o:Option (List Str)} (b:Base m P0 Q0) (hP:P.Sublist P0) (hQ:Q.Sublist Q0) (h:So (m - (n+1)) (dr (n+1) (at_ n w P)) (dr (n+1) (at_ n w Q)) o):gO m n P Q w=o:=by
 have hm:=b.m12
 unfold gO
 rw [dif_pos ⟨o,h⟩]
 have hc:=Exists.choose_spec (p:=fun o=>So (m - (n+1)) (dr (n+1) (at_ n w P)) (dr (n+1) (at_ n w Q)) o) ⟨o,h⟩
 exact so_unique (by lia) (fun p hp=>(len_dr b.p (sub_at hP) (n+1) p hp).2) (fun p hp=>(len_dr b.q (sub_at hQ) (n+1) p hp).2) hc h
def KnBut (P0 Q0:List (List Pt)) (n:Nat) (P Q:List (List Pt)) (kvs kvs':List (Key×V)):Prop:=∀ k,k≠ky n P Q→(∀ (n':Nat) (P' Q':List (List Pt)),n+1≤n'→n' < 13→P'.Sublist P0→Q'.Sublist Q0→k≠ky n' P' Q')→valV kvs' k=valV kvs k
theorem KnBut.keep {P0 Q0:List (List Pt)}{n:Nat}{P Q:List (List Pt)}{kvs kvs':List (Key×V)} (h:KnBut P0 Q0 n P Q kvs kvs') (hn:n<13) (hP:P.Sublist P0) (hQ:Q.Sublist Q0):KnKeep P0 Q0 n kvs kvs':=fun k hk=>h k (hk n P Q (Nat.le_refl _) hn hP hQ) fun n' P' Q' g1 g2 g3 g4=>hk n' P' Q' (by lia) g2 g3 g4
theorem at_next {n i:Nat}{w:Str}{P:List (List Pt)}{ps:List Pt} (h:P[i]? = some ps):at_ n w (P.take (i+1))=at_ n w (P.take i)++(if (ps.getD n (.hole 2)).takes w=true then [ps] else []):=by
 unfold at_
 rw [List.take_add_one,h,List.filter_append]
 congr 1
 by_cases ht:(ps.getD n (.hole 2)).takes w=true
 ·rw [if_pos ht]
  exact List.filter_cons_of_pos (l:=[]) ht
 ·rw [if_neg ht]
  exact List.filter_cons_of_neg (l:=[]) ht
theorem at_len (n:Nat) (w:Str) (P:List (List Pt)):(at_ n w P).length≤P.length:=List.length_filter_le _ _
def sp__law_sought (K:PySem.W.Frag):Sp:=sp_sought 13 K
theorem sc__law_sought:FnScope ["ones", "others", "at", "many", "known", "key", "word", "here", "there", "rest"] ["ones", "others", "at", "many", "known"] (defScope (top 36)):=⟨rfl,rfl,rfl,by decide +kernel,rfl,by decide +kernel,by decide +kernel⟩
set_option maxHeartbeats 8000000 in
theorem ok_sought (T:Tx K mg A):∀ N,FnOk P w K mg base CX0 (3+N) A.f__law_sought A.d__law_sought ["ones", "others", "at", "many", "known"] (sp_sought N K)
 | 0=>⟨fun vs H Q E h=>by obtain ⟨a,b,kn,xs,ys,P,Q,P0,Q0,n,m,kvs,rfl,_,_,_,_,_,_,_,h1,h2,_⟩:=h;lia,fun _ _ _ _ _ _ _ _ _ _ _ _ _ h=>by obtain ⟨a,b,kn,xs,ys,P,Q,P0,Q0,n,m,kvs,_,_,_,_,_,_,_,_,h1,h2,_⟩:=h;lia⟩
 | N+1=>by
  have G__law_fits_part:FnOk P w K mg base CX0 (3+N) A.f__law_fits_part A.d__law_fits_part ["part", "word"] (sp__law_fits_part K):=(ok__law_fits_part T).mono (by lia)
  have G__law_words:FnOk P w K mg base CX0 (3+N) A.f__law_words A.d__law_words ["patterns", "at"] (sp__law_words K):=(ok__law_words T).mono (by lia)
  have G__law_sought:FnOk P w K mg base CX0 (3+N) A.f__law_sought A.d__law_sought ["ones", "others", "at", "many", "known"] (sp_sought N K):=ok_sought T N
  show FnOk P w K mg base CX0 ((3+N)+1) A.f__law_sought A.d__law_sought ["ones", "others", "at", "many", "known"] (sp_sought (N+1) K)
  refine T._law_sought.fn.ok sc__law_sought (fun vs H Q E h=>?_) (fun cdv Ar outer s H vs R E hr h=>?_)
  ·obtain ⟨a,b,kn,xs,ys,P,Q,P0,Q0,n,m,kvs,rfl,_⟩:=h;rfl
  ·obtain ⟨a,b,kn,xs,ys,P1,Q1,P0,Q0,n,m,kvs,rfl,hqa,hda,hqb,hdb,hP,hQ,hb,hnm,hN,hkn,hkk,hko,k⟩:=h
   refine ⟨_,pss_cons (ps_if (pt_cmpR (op_eq) (pv 2) (pv 3) (nomark _)) (pss_one (ps_ret (pe_ifExp (pt_cmpR (op_ne) (pe_cmpR (r:=rEqD K) (op_eqD hr) (pv 0) (pe_lst (pa_nil)) (nomark _)) (pe_cmpR (r:=rEqD K) (op_eqD hr) (pv 1) (pe_lst (pa_nil)) (nomark _)) (nomark _)) (pe_lst (pa_nil)) (pe_non)))) (pss_nil))
   (pss_cons (ps_set (i:=5) sc__law_sought.nd rfl (Or.inl rfl) (pe_callTy (r:=rStr K) (call_strD hr) (by rfl) T.n_str bt_str' (pa_cons (pe_lst (pa_cons (pv 2) (pa_cons (pv 0) (pa_cons (pv 1) (pa_nil))))) (pa_nil))))
   (pss_cons (ps_if ((pw_and (pt_cmp (pc_dnotin (hu_of hr) (pv 5) (pv 4))) (pw_and1 (pt_cmpR (r:=rNeD K) (op_neD hr) (pe_op (r:=rCatS K) op_catS (pv 0) (pv 1)) (pe_lst (pa_nil)) (nomark _)))).pt) (pss_cons (ps_dput (hu_of hr) (pv 4) (pv 5) (pe_non) rfl)
   (pss_one (ps_for PassesOwn.never rfl (pi_list (pe_call G__law_words hr (by rfl) T._law_words.mg T._law_words.fn.kp T._law_words.bd .nil pass0 (pa_cons (pe_op (r:=rCatS K) op_catS (pv 0) (pv 1)) (pa_cons (pv 2) (pa_nil))))) (pg_name (i:=6) sc__law_sought.nd rfl (Or.inr rfl)) (pss_cons (ps_comp (i:=7) (N':=["pattern", "word", "at"]) (n:=1) (fi:=[6,2]) (g:=gName 0) sc__law_sought.nd rfl (Or.inl rfl) rfl (cscope (defScope (top 36)) ["ones", "others", "at", "many", "known", "key", "word", "here", "there", "rest"] (by decide +kernel)) (pi_list (pv 0)) (fun s H fp=>pg_name (i:=0) (show (["pattern", "word", "at"]:List Str).Nodup by decide +kernel) rfl (Or.inl rfl) (.inr rfl)) (fun s H fp=>pifs_one (pt_val (pe_call G__law_fits_part hr (by rfl) T._law_fits_part.mg T._law_fits_part.fn.kp T._law_fits_part.bd .nil pass0 (pa_cons (pe_ix (r:=rIxL K) ix_list (pv 0) (pv 2) (fun _ _=>rfl)) (pa_cons (pv 1) (pa_nil)))))) (fun s H fp=>pv 0))
   (pss_cons (ps_comp (i:=8) (N':=["pattern", "word", "at"]) (n:=1) (fi:=[6,2]) (g:=gName 0) sc__law_sought.nd rfl (Or.inl rfl) rfl (cscope (defScope (top 36)) ["ones", "others", "at", "many", "known", "key", "word", "here", "there", "rest"] (by decide +kernel)) (pi_list (pv 1)) (fun s H fp=>pg_name (i:=0) (show (["pattern", "word", "at"]:List Str).Nodup by decide +kernel) rfl (Or.inl rfl) (.inr rfl)) (fun s H fp=>pifs_one (pt_val (pe_call G__law_fits_part hr (by rfl) T._law_fits_part.mg T._law_fits_part.fn.kp T._law_fits_part.bd .nil pass0 (pa_cons (pe_ix (r:=rIxL K) ix_list (pv 0) (pv 2) (fun _ _=>rfl)) (pa_cons (pv 1) (pa_nil)))))) (fun s H fp=>pv 0))
   (pss_cons (ps_set (i:=9) sc__law_sought.nd rfl (Or.inl rfl) (pe_call G__law_sought hr (by rfl) T._law_sought.mg T._law_sought.fn.kp T._law_sought.bd .nil pass0 (pa_cons (pv 7) (pa_cons (pv 8) (pa_cons (pe_op op_add (pv 2) (pe_int)) (pa_cons (pv 3) (pa_cons (pv 4) (pa_nil))))))))
   (pss_one (ps_if ((pw_and (pt_cmpR (op_notN) (pv 9) (pe_non) (nomark _)) (pw_and1 (pt_cmpR (op_isN) (pe_dget (hu_of hr) (pv 4) (pv 5) (fun _ _=>rfl)) (pe_non) (nomark _)))).pt) (pss_one (ps_dput (hu_of hr) (pv 4) (pv 5) (pe_op (r:=rCatS K) op_catS (pe_lst (pa_cons (pv 6) (pa_nil))) (pv 9)) rfl)) (pss_nil))))))))) (pss_nil))
   (pss_one (ps_ret (pe_dget2 (hu_of hr) (pv 4) (pv 5) (pe_non) ⟨rfl,rfl,rfl,rfl⟩))))),?_⟩
   refine ⟨_,rfl,_,rfl,rfl,_,rfl,?_⟩
   by_cases hen:n=m
   ·rw [decide_eq_true (by rw [hen])]
    refine iteT ?_
    refine ⟨_,rfl,Nat.zero_le _,fun L1 hL1=>?_⟩
    have s1:Same H (upd H L1 (.lst [])):=Same.new hL1
    have hL11:(upd H L1 (.lst [])) L1=_:=upd_same
    generalize upd H L1 (.lst [])=H1 at s1 hL11 ⊢
    refine ⟨_,_,.lst ((wo_same.trans s1).seq hqa) (hda.same (wo_same.trans s1)),.lst (.of hL11) .nil,dep_pats _,_,rfl,Nat.zero_le _,fun L2 hL2=>?_⟩
    have s2:Same H (upd H1 L2 (.lst [])):=s1.trans (Same.new hL2)
    have hL22:(upd H1 L2 (.lst [])) L2=_:=upd_same
    generalize upd H1 L2 (.lst [])=H2 at s2 hL22 ⊢
    refine ⟨_,_,.lst ((wo_same.trans s2).seq hqb) (hdb.same (wo_same.trans s2)),.lst (.of hL22) .nil,dep_pats _,rfl,_,rfl,?_⟩
    rw [pats_nil,pats_nil]
    have so:=so_end hb hP hQ
    have w2:Same (wo kn H) (wo kn H2):=wo_mono s2
    subst hen
    by_cases hpq:P1.isEmpty=Q1.isEmpty
    ·rw [decide_eq_true (by rw [hpq])]
     rw [if_neg (by simpa using hpq)] at so
     refine iteF ?_
     exact k .non H2 kvs none w2 (s2 _ _ hkn) hkk (hko.same w2) (fun _ _=>rfl) so rfl
    ·rw [decide_eq_false (by intro e;injection e with e;exact hpq e)]
     rw [if_pos (by simpa using hpq)] at so
     refine iteT ⟨Nat.zero_le _,fun L3 hL3=>?_⟩
     have s3:Same H (upd H2 L3 (.lst [])):=s2.trans (Same.new hL3)
     have w3:Same (wo kn H) (wo kn (upd H2 L3 (.lst []))):=wo_mono s3
     have hk3:L3≠kn:=(ne_of_none (s2 _ _ hkn) hL3).symm
     exact k (.ref L3) _ kvs (some []) w3 (s3 _ _ hkn) hkk (hko.same w3) (fun _ _=>rfl) so ⟨L3,rfl,.of (by rw [wo_at hk3];exact upd_same)⟩
   ·rw [decide_eq_false (by intro e;injection e with e;lia)]
    refine iteF ?_
    have hlt:n<m:=by lia
    have hm12:=hb.m12
    have pP:∀ ps∈P1,PW ps∧ps.length=m:=fun ps hp=>hb.p ps (hP.subset hp)
    have pQ:∀ ps∈Q1,PW ps∧ps.length=m:=fun ps hp=>hb.q ps (hQ.subset hp)
    have lP:P1.length≤7:=Nat.le_trans hP.length_le hb.lp
    have lQ:Q1.length≤8:=Nat.le_trans hQ.length_le hb.lq
    have hxl:xs.length=P1.length:=by rw [hda.length,List.length_map]
    have hyl:ys.length=Q1.length:=by rw [hdb.length,List.length_map]
    refine ⟨_,rfl,_,rfl,_,rfl,(by show 3≤sizeLine;decide),fun T1 hT1=>?_⟩
    have s1:Same H (upd H T1 (.lst [.int n,.ref a,.ref b])):=Same.new hT1
    have hT11:(upd H T1 (.lst [.int n,.ref a,.ref b])) T1=_:=upd_same
    generalize upd H T1 (.lst [.int n,.ref a,.ref b])=H1 at s1 hT11 ⊢
    have w1:Same (wo kn H) H1:=wo_same.trans s1
    refine ⟨_,kyD n P1 Q1,rfl,.lst (.of hT11) (.cons (.int _) (.cons (.lst (w1.seq hqa) (hda.same w1)) (.cons (.lst (w1.seq hqb) (hdb.same w1)) .nil))),ky_showy (by lia) (fun ps hp=>⟨(pP ps hp).1,by rw [(pP ps hp).2];exact hm12⟩) (fun ps hp=>⟨(pQ ps hp).1,by rw [(pQ ps hp).2];exact hm12⟩) (by lia) (by lia),?_⟩
    have hkn1:=s1 _ _ hkn
    have ww1:Same (wo kn H) (wo kn H1):=wo_mono s1
    have hko1:=hko.same ww1
    have end_:∀ (H':Hp) (kvs':List (Key×V)) (u6 u7 u8 u9:Option V) (o:Option (List Str)),Same (wo kn H) (wo kn H')→H' kn=some (.dK kvs')→KnK P0 Q0 kvs'→KnOk K (wo kn H') m P0 Q0 n kvs'→KnKeep P0 Q0 n kvs kvs'→So (m - n) (dr n P1) (dr n Q1) o→ResV K (wo kn H') ((valV kvs' (ky n P1 Q1)).getD .non) o →
      tRet (tDGet2 (tVar 4) (tVar 5) (tC .non)) { nx:=fun x H'=>R V.non H',rt:=R } [some (.ref a),some (.ref b),some (.int n),some (.int m),some (.ref kn),some (.str (strV (kyD n P1 Q1))),u6,u7,u8,u9] H':=fun H' kvs' u6 u7 u8 u9 o g1 g2 g3 g4 g5 g6 g7=>by
     refine ⟨_,rfl,kn,rfl,.inl ⟨_,.inl g2⟩,_,rfl,valV kvs' (ky n P1 Q1),.inl ⟨kvs',ky n P1 Q1,.inl g2,rfl,rfl⟩,?_⟩
     exact k _ H' kvs' o g1 g2 g3 g4 g5 g6 g7
    refine ⟨_,rfl,_,rfl,kn,_,rfl,.inl ⟨kvs,ky n P1 Q1,.inl hkn1,rfl,rfl⟩,_,rfl,?_⟩
    cases hv:valV kvs (ky n P1 Q1) with
    | some v=>
     refine iteF ?_
     obtain ⟨o,so,rv⟩:=hko1 n P1 Q1 v (Nat.le_refl _) (by lia) hP hQ hv
     refine iteF (end_ H1 kvs _ _ _ _ o ww1 hkn1 hkk hko1 (fun _ _=>rfl) so ?_)
     rw [hv]
     exact rv
    | none=>
     refine iteT ?_
     refine ⟨_,rfl,_,rfl,a,b,_,_,rfl,rfl,w1.seq hqa,w1.seq hqb,Nat.le_trans (show xs.length+ys.length≤15 by lia) (by decide),fun C hC=>?_⟩
     have s2:Same H1 (upd H1 C (.lst (xs++ys))):=Same.new hC
     have hC2:(upd H1 C (.lst (xs++ys))) C=_:=upd_same
     generalize upd H1 C (.lst (xs++ys))=H2 at s2 hC2 ⊢
     refine ⟨Nat.zero_le _,fun L hL=>?_⟩
     have s3:Same H2 (upd H2 L (.lst [])):=Same.new hL
     have hL3:(upd H2 L (.lst [])) L=_:=upd_same
     generalize upd H2 L (.lst [])=H3 at s3 hL3 ⊢
     have w3:Same (wo kn H) H3:=(w1.trans s2).trans s3
     have ww3:Same (wo kn H) (wo kn H3):=wo_mono ((s1.trans s2).trans s3)
     have hkn3:=s3 _ _ (s2 _ _ hkn1)
     have hko3:=hko.same ww3
     have dcat:Dens K H3 (xs++ys) ((P1++Q1).map patD):=by rw [List.map_append];exact (hda.same w3).append (hdb.same w3)
     refine ⟨_,_,.lst (.of (s3 _ _ hC2)) dcat,.lst (.of hL3) .nil,dep_pats _,_,rfl,?_⟩
     rw [pats_nil]
     cases hpe:(P1++Q1).isEmpty with
     | true=>
      have e0:=List.isEmpty_iff.mp hpe
      obtain ⟨e1,e2⟩:=List.append_eq_nil_iff.mp e0
      refine iteF (end_ H3 kvs _ _ _ _ none ww3 hkn3 hkk hko3 (fun _ _=>rfl) ?_ ?_)
      ·rw [e1,e2];exact fun _=>rfl
      ·rw [hv];rfl
     | false=>
      refine iteT ?_
      have hkl:=hkk.len hb
      refine ⟨_,rfl,_,rfl,kn,_,rfl,.inl ⟨kvs,ky n P1 Q1,hkn3,rfl,Nat.lt_of_le_of_lt hkl (by decide),rfl⟩,?_⟩
      have hkk4:KnK P0 Q0 (putK kvs (ky n P1 Q1) .non):=hkk.put (by lia) hP hQ .non
      have hko4:KnOk K (wo kn H3) m P0 Q0 (n+1) (putK kvs (ky n P1 Q1) .non):=(hko3.up (Nat.le_succ n)).put hb (by lia) hP hQ
      have hkv4:valV (putK kvs (ky n P1 Q1) .non) (ky n P1 Q1)=some .non:=by rw [valV_put,if_pos rfl]
      have hke4:KnBut P0 Q0 n P1 Q1 kvs (putK kvs (ky n P1 Q1) .non):=fun k0 hk0 _=>by rw [valV_put,if_neg hk0]
      have hkn4:(upd H3 kn (.dK (putK kvs (ky n P1 Q1) .non))) kn=some (.dK (putK kvs (ky n P1 Q1) .non)):=upd_same
      have e4:wo kn (upd H3 kn (.dK (putK kvs (ky n P1 Q1) .non)))=wo kn H3:=wo_upd
      rw [← e4] at hko4 ww3
      generalize putK kvs (ky n P1 Q1) .non=kvs4 at *
      generalize upd H3 kn (.dK kvs4)=H4 at *
      have w4:Same (wo kn H) H4:=ww3.trans wo_same
      refine ⟨_,rfl,_,rfl,a,b,_,_,rfl,rfl,w4.seq hqa,w4.seq hqb,Nat.le_trans (show xs.length+ys.length≤15 by lia) (by decide),fun C5 hC5=>?_⟩
      have s5:Same H4 (upd H4 C5 (.lst (xs++ys))):=Same.new hC5
      have hC55:(upd H4 C5 (.lst (xs++ys))) C5=_:=upd_same
      generalize upd H4 C5 (.lst (xs++ys))=H5 at s5 hC55 ⊢
      have w5:Same (wo kn H) H5:=w4.trans s5
      have dcat5:Dens K H5 (xs++ys) ((P1++Q1).map patD):=by rw [List.map_append];exact (hda.same w5).append (hdb.same w5)
      refine ⟨_,rfl,C5,_,P1++Q1,n,rfl,.of hC55,dcat5,fun ps hp=>?_,by rw [List.length_append];lia,fun F H6 l x0 x1 x2 hF s6 hFl lw0 lw1 lw2 hmem up hl18=>?_⟩
      ·rcases List.mem_append.mp hp with z | z
       ·exact ⟨(pP ps z).1,by rw [(pP ps z).2];exact hlt,by rw [(pP ps z).2];exact hm12⟩
       ·exact ⟨(pQ ps z).1,by rw [(pQ ps z).2];exact hlt,by rw [(pQ ps z).2];exact hm12⟩
      have ehd:heads (dr n P1++dr n Q1)=partsAt n (P1++Q1):=by rw [← dr_app,heads_dr]
      have tr:Tries (dr n P1) (dr n Q1) l:=by
       have ne1:∀ {X X0:List (List Pt)},(∀ ps∈X0,PW ps∧ps.length=m)→X.Sublist X0→∀ ps∈dr n X,PW ps∧ps≠[]:=fun h hs ps hp=>by
        obtain ⟨g1,g2⟩:=len_dr h hs n ps hp
        exact ⟨g1,fun e=>by rw [e] at g2;simp at g2;lia⟩
       exact tries_of (ne1 hb.p hP) (ne1 hb.q hQ) (by rw [ehd];exact hmem) up (by rw [ehd];exact lw0) (by rw [ehd];exact lw1) (by rw [ehd];exact lw2)
      have hkn6:=s6 _ _ (s5 _ _ hkn4)
      have ww6:Same (wo kn H) (wo kn H6):=ww3.trans (wo_mono (s5.trans s6))
      have hFk:F≠kn:=fun e=>by rw [e,hkn6] at hFl;cases hFl
      refine ⟨F,rfl,⟨_,.of hFl⟩,?_⟩
      refine for_list (K:=K) (xs:=l.map V.str) (fun j σ H7=>∃ (u6 u7 u8 u9:Option V) (kvs7:List (Key×V)) (r:V),σ=[some (.ref a),some (.ref b),some (.int n),some (.int m),some (.ref kn),some (.str (strV (kyD n P1 Q1))),u6,u7,u8,u9]∧Same (wo kn H) (wo kn H7)∧H7 F=some (.lst (l.map V.str))∧H7 kn=some (.dK kvs7)∧KnK P0 Q0 kvs7∧KnOk K (wo kn H7) m P0 Q0 (n+1) kvs7∧KnBut P0 Q0 n P1 Q1 kvs kvs7 ∧
       (∀ w∈l.take j,So (m - (n+1)) (dr (n+1) (at_ n w P1)) (dr (n+1) (at_ n w Q1)) (gO m n P1 Q1 w))∧valV kvs7 (ky n P1 Q1)=some r∧ResV K (wo kn H7) r ((l.take j).findSome? fun x=>(gO m n P1 Q1 x).map (x :: ·)))
       ⟨_,_,_,_,kvs4,.non,rfl,ww6,hFl,hkn6,hkk4,hko4.same (wo_mono (s5.trans s6)),hke4,fun w hw=>by simp at hw,hkv4,rfl⟩ (fun j σ H7 _ q=>by obtain ⟨_,_,_,_,_,_,_,_,q,_⟩:=q;exact .of q) (fun j x σ H7 hx q=>?_) (fun σ H7 q=>?_)
      ·obtain ⟨u6,u7,u8,u9,kvs7,r,rfl,ww7,hF7,hkn7,hkk7,hko7,hke7,hso7,hkv7,hr7⟩:=q
       obtain ⟨w1',hw,rfl⟩:=strs_at hx
       have hwd:=tr.wd w1' (List.mem_of_getElem? hw)
       have s77:Same H7 H7:=Same.refl _
       refine ⟨_,rfl,a,rfl,⟨_,(ww7.trans (wo_same.trans s77)).seq hqa⟩,fun D1 hD1=>?_⟩
       refine comp_list (K:=K) (xs:=xs) (fun i acc σ H8=>(∃ u,σ=[u,some (.str w1'),some (.int n)])∧Same H7 H8∧Dens K (wo kn H) acc ((at_ n w1' (P1.take i)).map patD)) upd_same ⟨⟨_,rfl⟩,Same.new hD1,.nil⟩ (fun i acc σ H8 _ _ q=>(ww7.trans (wo_same.trans (s77.trans q.2.1))).seq hqa) (fun i y acc σ H8 hy hDy q=>?_) (fun acca σ H8a hDa q=>?_)
       ·obtain ⟨q0,s8,dn⟩:=q
        apply ex_1 q0
        clear q0
        intro u
        obtain ⟨ps,hpi,hdp⟩:=dens_pat hda hy
        obtain ⟨hpw,hpl⟩:=pP ps (List.mem_of_getElem? hpi)
        obtain ⟨c,zs,rfl,hqc,hdc⟩:=den_pat hdp
        have hi:=ge_len hpi
        obtain ⟨p,hpn⟩:=at_of (l:=ps) (i:=n) (by lia)
        have hgd:ps.getD n (.hole 2)=p:=by rw [List.getD_eq_getElem?_getD,hpn];rfl
        obtain ⟨z,hzn⟩:=at_of (l:=zs) (i:=n) (by rw [hdc.length,List.length_map];lia)
        obtain ⟨p',hpn',hdq⟩:=dens_pt hdc hzn
        rw [hpn] at hpn'
        cases hpn'
        have en:=at_next (n:=n) (w:=w1') hpi
        rw [hgd] at en
        have hal:acc.length≤8:=by
         rw [dn.length,List.length_map]
         exact Nat.le_trans (at_len _ _ _) (by rw [List.length_take];lia)
        have w8:Same (wo kn H) H8:=ww7.trans (wo_same.trans (s77.trans s8))
        refine ⟨_,rfl,_,rfl,c,zs,n,z,rfl,rfl,w8.seq hqc,atI_nat hzn,_,rfl,z,w1',p,rfl,hdq.same w8,(hpw p (List.mem_of_getElem? hpn)).ok,hwd.1,⟨Nat.le_trans hwd.2.1 (by decide),hwd.2.2⟩,fun H9 s9=>?_⟩
        by_cases htk:p.takes w1' = true
        ·rw [htk]
         refine ⟨_,rfl,iteT ⟨_,rfl,_,s9 _ _ hDy,small (by lia),_,upd_same,⟨_,rfl⟩,snap_upd hD1 (s8.trans s9),?_⟩⟩
         rw [en,if_pos htk,List.map_append]
         exact dn.append (.cons hdp .nil)
        ·rw [Bool.eq_false_iff.mpr htk]
         refine ⟨_,rfl,iteF ⟨_,s9 _ _ hDy,⟨_,rfl⟩,s8.trans s9,?_⟩⟩
         rw [en,if_neg htk,List.append_nil]
         exact dn
       obtain ⟨_,ta,dna⟩:=q
       rw [hxl,List.take_of_length_le (Nat.le_refl _)] at dna
       have s7b:Same H7 H8a:=ta
       refine ⟨_,rfl,b,rfl,⟨_,(ww7.trans (wo_same.trans s7b)).seq hqb⟩,fun D2 hD2=>?_⟩
       refine comp_list (K:=K) (xs:=ys) (fun i acc σ H8=>(∃ u,σ=[u,some (.str w1'),some (.int n)])∧Same H8a H8∧Dens K (wo kn H) acc ((at_ n w1' (Q1.take i)).map patD)) upd_same ⟨⟨_,rfl⟩,Same.new hD2,.nil⟩ (fun i acc σ H8 _ _ q=>(ww7.trans (wo_same.trans (s7b.trans q.2.1))).seq hqb) (fun i y acc σ H8 hy hDy q=>?_) (fun accb σ H8b hDb q=>?_)
       ·obtain ⟨q0,s8,dn⟩:=q
        apply ex_1 q0
        clear q0
        intro u
        obtain ⟨ps,hpi,hdp⟩:=dens_pat hdb hy
        obtain ⟨hpw,hpl⟩:=pQ ps (List.mem_of_getElem? hpi)
        obtain ⟨c,zs,rfl,hqc,hdc⟩:=den_pat hdp
        have hi:=ge_len hpi
        obtain ⟨p,hpn⟩:=at_of (l:=ps) (i:=n) (by lia)
        have hgd:ps.getD n (.hole 2)=p:=by rw [List.getD_eq_getElem?_getD,hpn];rfl
        obtain ⟨z,hzn⟩:=at_of (l:=zs) (i:=n) (by rw [hdc.length,List.length_map];lia)
        obtain ⟨p',hpn',hdq⟩:=dens_pt hdc hzn
        rw [hpn] at hpn'
        cases hpn'
        have en:=at_next (n:=n) (w:=w1') hpi
        rw [hgd] at en
        have hal:acc.length≤8:=by
         rw [dn.length,List.length_map]
         exact Nat.le_trans (at_len _ _ _) (by rw [List.length_take];lia)
        have w8:Same (wo kn H) H8:=ww7.trans (wo_same.trans (s7b.trans s8))
        refine ⟨_,rfl,_,rfl,c,zs,n,z,rfl,rfl,w8.seq hqc,atI_nat hzn,_,rfl,z,w1',p,rfl,hdq.same w8,(hpw p (List.mem_of_getElem? hpn)).ok,hwd.1,⟨Nat.le_trans hwd.2.1 (by decide),hwd.2.2⟩,fun H9 s9=>?_⟩
        by_cases htk:p.takes w1' = true
        ·rw [htk]
         refine ⟨_,rfl,iteT ⟨_,rfl,_,s9 _ _ hDy,small (by lia),_,upd_same,⟨_,rfl⟩,snap_upd hD2 (s8.trans s9),?_⟩⟩
         rw [en,if_pos htk,List.map_append]
         exact dn.append (.cons hdp .nil)
        ·rw [Bool.eq_false_iff.mpr htk]
         refine ⟨_,rfl,iteF ⟨_,s9 _ _ hDy,⟨_,rfl⟩,s8.trans s9,?_⟩⟩
         rw [en,if_neg htk,List.append_nil]
         exact dn
       obtain ⟨_,tb,dnb⟩:=q
       rw [hyl,List.take_of_length_le (Nat.le_refl _)] at dnb
       have wwb:Same (wo kn H7) (wo kn H8b):=wo_mono (ta.trans tb)
       have hkn8:=tb _ _ (ta _ _ hkn7)
       have hD1b:=tb _ _ hDa
       have nk1:D1≠kn:=fun e=>by rw [e,hkn8] at hD1b;cases hD1b
       have nk2:D2≠kn:=fun e=>by rw [e,hkn8] at hDb;cases hDb
       have wwc:=ww7.trans wwb
       refine ⟨_,rfl,_,rfl,_,rfl,_,_,rfl,rfl,_,rfl,_,rfl,D1,D2,kn,acca,accb,at_ n w1' P1,at_ n w1' Q1,P0,Q0,n+1,m,kvs7,rfl,.of (by rw [wo_at nk1];exact hD1b),dna.same wwc,.of (by rw [wo_at nk2];exact hDb),dnb.same wwc,sub_at hP,sub_at hQ,hb,hlt,by lia,hkn8,hkk7,hko7.same wwb,fun v H10 kvs10 o g1 g2 g3 g4 g5 g6 g7=>?_⟩
       have hkv10:valV kvs10 (ky n P1 Q1)=some r:=by
        rw [g5 _ (fun n' P' Q' f1 f2 f3 f4 f5=>by have:=(hb.inj hP hQ f3 f4 (by lia) (by lia) f5).1;lia)]
        exact hkv7
       have hg:gO m n P1 Q1 w1' = o:=gO_eq hb hP hQ g6
       have ww10:=wwc.trans g1
       have hr10:=hr7.same (wwb.trans g1)
       have hF10:H10 F=some (.lst (l.map V.str)):=wo_same _ _ (g1 _ _ (wwb _ _ (by rw [wo_at hFk];exact hF7)))
       have hke10:KnBut P0 Q0 n P1 Q1 kvs kvs10:=fun k0 e1 e2=>(g5 k0 e2).trans (hke7 k0 e1 e2)
       have hso10:∀ w∈l.take (j+1),So (m - (n+1)) (dr (n+1) (at_ n w P1)) (dr (n+1) (at_ n w Q1)) (gO m n P1 Q1 w):=fun w hw'=>by
        rw [List.take_add_one,hw] at hw'
        rcases List.mem_append.mp hw' with z | z
        ·exact hso7 w z
        ·rw [List.mem_singleton.mp z,hg]
         exact g6
       have efs:((l.take (j+1)).findSome? fun x=>(gO m n P1 Q1 x).map (x :: ·))=((l.take j).findSome? fun x=>(gO m n P1 Q1 x).map (x :: ·)).or (o.map (w1' :: ·)):=by
        rw [List.take_add_one,hw,List.findSome?_append]
        congr 1
        show ([w1'].findSome? fun x=>(gO m n P1 Q1 x).map (x :: ·))=_
        rw [List.findSome?_singleton,hg]
       cases o with
       | none=>
        have ev:v = .non:=g7
        subst ev
        refine ⟨_,rfl,rfl,_,rfl,iteF (iteF ⟨_,_,_,_,kvs10,r,rfl,ww10,hF10,g2,g3,g4,hke10,hso10,hkv10,?_⟩)⟩
        rw [efs]
        show ResV K (wo kn H10) r (Option.or _ none)
        rw [Option.or_none]
        exact hr10
       | some ws=>
        obtain ⟨c,rfl,hc⟩:=g7
        refine ⟨_,rfl,rfl,_,rfl,iteT ?_⟩
        refine ⟨_,rfl,_,rfl,kn,r,rfl,.inl ⟨kvs10,ky n P1 Q1,.inl g2,rfl,hkv10.symm⟩,rfl,_,rfl,?_⟩
        cases hfs:(l.take j).findSome? fun x=>(gO m n P1 Q1 x).map (x :: ·) with
        | some y=>
         rw [hfs] at hr10 efs
         obtain ⟨c',rfl,hc'⟩:=id hr10
         refine iteF ⟨_,_,_,_,kvs10,.ref c',rfl,ww10,hF10,g2,g3,g4,hke10,hso10,hkv10,?_⟩
         rw [efs]
         exact hr10
        | none=>
         rw [hfs] at hr10 efs
         have er:r = .non:=hr10
         subst er
         have hwl:ws.length=m - (n+1):=g6.2.2.2.1
         refine iteT ?_
         refine ⟨_,rfl,(by show 1≤sizeLine;decide),fun L1 hL1=>?_⟩
         have s11:Same H10 (upd H10 L1 (.lst [.str w1'])):=Same.new hL1
         have hL11:(upd H10 L1 (.lst [.str w1'])) L1=_:=upd_same
         generalize upd H10 L1 (.lst [.str w1'])=H11 at s11 hL11 ⊢
         refine ⟨_,rfl,L1,c,_,_,rfl,rfl,.of hL11,(wo_same.trans s11).seq hc,Nat.le_trans (show [V.str w1'].length+(ws.map V.str).length≤13 by rw [List.length_map];show 1+ws.length≤13;lia) (by decide),fun L2 hL2=>?_⟩
         have s12:Same H10 (upd H11 L2 (.lst ([.str w1']++ws.map V.str))):=s11.trans (Same.new hL2)
         have hL22:(upd H11 L2 (.lst ([.str w1']++ws.map V.str))) L2=_:=upd_same
         generalize upd H11 L2 (.lst ([.str w1']++ws.map V.str))=H12 at s12 hL22 ⊢
         have hkn12:=s12 _ _ g2
         have nk3:L2≠kn:=fun e=>by rw [e,hkn12] at hL22;cases hL22
         refine ⟨_,rfl,_,rfl,kn,_,rfl,.inl ⟨kvs10,ky n P1 Q1,hkn12,rfl,Nat.lt_of_le_of_lt (g3.len hb) (by decide),rfl⟩,?_⟩
         have e13:wo kn (upd H12 kn (.dK (putK kvs10 (ky n P1 Q1) (.ref L2))))=wo kn H12:=wo_upd
         have ww12:Same (wo kn H10) (wo kn H12):=wo_mono s12
         refine ⟨_,_,_,_,putK kvs10 (ky n P1 Q1) (.ref L2),.ref L2,rfl,by rw [e13];exact ww10.trans ww12,by rw [upd_ne hFk];exact s12 _ _ hF10,upd_same,g3.put (by lia) hP hQ _,?_,?_,hso10,by rw [valV_put,if_pos rfl],?_⟩
         ·rw [e13]
          exact (g4.same ww12).put hb (by lia) hP hQ
         ·intro k0 f1 f2
          rw [valV_put,if_neg f1]
          exact hke10 k0 f1 f2
         ·rw [efs,e13]
          exact ⟨L2,rfl,.of (by rw [wo_at nk3];exact hL22)⟩
      ·obtain ⟨u6,u7,u8,u9,kvs7,r,rfl,ww7,hF7,hkn7,hkk7,hko7,hke7,hso7,hkv7,hr7⟩:=q
       rw [List.length_map,List.take_of_length_le (Nat.le_refl _)] at hso7 hr7
       have so:=so_step (n:=m - (n+1)) (P:=dr n P1) (Q:=dr n Q1) (l:=l) (os:=gO m n P1 Q1) (fun ps hp=>by have:=len_dr hb.p hP n ps hp;exact ⟨this.1,by rw [this.2];lia⟩) (fun ps hp=>by have:=len_dr hb.q hQ n ps hp;exact ⟨this.1,by rw [this.2];lia⟩) tr (fun x hx=>by
        rw [dr_at (fun ps hp=>by rw [(pP ps hp).2];exact hlt),dr_at (fun ps hp=>by rw [(pQ ps hp).2];exact hlt)]
        exact hso7 x hx)
       rw [show m - (n+1)+1=m - n by lia] at so
       refine end_ H7 kvs7 _ _ _ _ _ ww7 hkn7 hkk7 ?_ (hke7.keep (by lia) hP hQ) so ?_
       ·intro n' P' Q' v' g1 g2 g3 g4 g5
        rcases Nat.eq_or_lt_of_le g1 with e | e
        ·subst e
         by_cases ek:ky n P' Q' = ky n P1 Q1
         ·obtain ⟨_,e1,e2⟩:=hb.inj g3 g4 hP hQ (by lia) (by lia) ek
          subst e1 e2
          rw [hkv7] at g5
          cases g5
          exact ⟨_,so,hr7⟩
         ·rw [hke7 _ ek (fun n'' P'' Q'' f1 f2 f3 f4 f5=>by have:=(hb.inj g3 g4 f3 f4 (by lia) (by lia) f5).1;lia)] at g5
          obtain ⟨o,h1,h2⟩:=hko n P' Q' v' (Nat.le_refl _) g2 g3 g4 g5
          exact ⟨o,h1,h2.same ww7⟩
        ·exact hko7 n' P' Q' v' e g2 g3 g4 g5
       ·rw [hkv7];exact hr7
theorem ok__law_sought (T:Tx K mg A):FnOk P w K mg base CX0 16 A.f__law_sought A.d__law_sought ["ones", "others", "at", "many", "known"] (sp__law_sought K):=ok_sought T 13
end
end K10
namespace K10
open PySem L2 LG
section
variable {P:Program}{w:World}{K:PySem.W.Frag}{mg:Str→Option Value}{base:Heap}{A:Ad}
def sp__law_due (K:PySem.W.Frag):Sp:=fun vs H R _=>∃ (a b:Addr) (xs ys:List V) (P Q:List (List Pt)),vs=[.ref a,.ref b]∧SqL K H a xs∧Dens K H xs (P.map patD)∧SqL K H b ys∧Dens K H ys (Q.map patD)∧PsOk P∧PsOk Q∧P.length≤7∧Q.length≤8 ∧
 ∀ o H',Same H H'→Parts P Q o→R (oS o) H'
def ofLen (n:Nat) (P:List (List Pt)):List (List Pt):=P.filter fun ps=>decide (ps.length=n)
def below (n:Nat) (P:List (List Pt)):List (List Pt):=P.filter fun ps=>decide (ps.length<n)
theorem ofLen_is (n:Nat) (P:List (List Pt)):LenIs n (ofLen n P):=fun p hp=>of_decide_eq_true (List.mem_filter.mp hp).2
theorem below_lt (n:Nat) (P:List (List Pt)):LenLt n (below n P):=fun p hp=>of_decide_eq_true (List.mem_filter.mp hp).2
theorem below_next (n:Nat) (P:List (List Pt)) (x:List Pt):x∈below (n+1) P↔x∈below n P++ofLen n P:=by
 unfold below ofLen
 simp only [List.mem_append,List.mem_filter,decide_eq_true_eq]
 constructor
 ·rintro ⟨h1,h2⟩
  by_cases e:x.length=n
  ·exact .inr ⟨h1,e⟩
  ·exact .inl ⟨h1,by lia⟩
 ·rintro (⟨h1,h2⟩ | ⟨h1,h2⟩)
  ·exact ⟨h1,by lia⟩
  ·exact ⟨h1,by lia⟩
theorem parts_cong {P Q P' Q':List (List Pt)}{o:Option (List Str)} (h:Parts P Q o) (e1:∀ x,x∈P'↔x∈P) (e2:∀ x,x∈Q'↔x∈Q):Parts P' Q' o:=by
 have k1:∀ ws,knows P' ws=knows P ws:=fun ws=>knows_perm e1 ws
 have k2:∀ ws,knows Q' ws=knows Q ws:=fun ws=>knows_perm e2 ws
 cases o with
 | none=>exact fun vs=>by rw [k1,k2];exact h vs
 | some ws=>exact ⟨by rw [k1,k2];exact h.pa,h.wd,h.bd,h.ne,h.ln,fun vs hv=>h.le vs (by rw [← k1,← k2];exact hv)⟩
theorem due_step {P Q:List (List Pt)}{n:Nat}{t:Option (List Str)} (h1:1≤n) (h12:n≤12) (hd:Parts (below n P) (below n Q) none) (ht:So n (ofLen n P) (ofLen n Q) t):Parts (below (n+1) P) (below (n+1) Q) t:=by
 have:=parts_step (below_lt n P) (below_lt n Q) (ofLen_is n P) (ofLen_is n Q) hd (so_parts h1 h12 ht (ofLen_is n P) (ofLen_is n Q))
 refine parts_cong this (below_next n P) fun x=>?_
 rw [below_next n Q x,List.mem_append,List.mem_append]
 exact Or.comm
theorem due_some {P Q:List (List Pt)}{n:Nat}{ws:List Str} (h:Parts (below (n+1) P) (below (n+1) Q) (some ws)) (hl:ws.length=n):Parts P Q (some ws):=by
 have kn:∀ (X:List (List Pt)) (vs:List Str),vs.length<n+1→knows (below (n+1) X) vs=knows X vs:=fun X vs hv=>by
  unfold knows below
  rw [List.any_filter,Bool.eq_iff_iff,List.any_eq_true,List.any_eq_true]
  constructor
  ·rintro ⟨x,h1,h2⟩
   rw [Bool.and_eq_true] at h2
   exact ⟨x,h1,h2.2⟩
  ·rintro ⟨x,h1,h2⟩
   exact ⟨x,h1,by rw [Bool.and_eq_true,decide_eq_true_eq];exact ⟨by rw [takes_lens h2];exact hv,h2⟩⟩
 have h:PLn _ _ ws:=h
 refine ⟨by rw [← kn P ws (by lia),← kn Q ws (by lia)];exact h.pa,h.wd,h.bd,h.ne,h.ln,fun vs hv=>?_⟩
 rcases Nat.lt_or_ge vs.length (n+1) with q | q
 ·exact h.le vs (by rw [kn P vs q,kn Q vs q];exact hv)
 ·exact lk_longer (by lia)
theorem below_all {P:List (List Pt)} (h:PsOk P) (x:List Pt):x∈below 13 P↔x∈P:=by
 unfold below
 rw [List.mem_filter,decide_eq_true_eq]
 exact ⟨fun h=>h.1,fun hx=>⟨hx,by have:=(h x hx).2.2;lia⟩⟩
theorem below_none {P:List (List Pt)} (h:PsOk P):below 1 P=[]:=by
 unfold below
 rw [List.filter_eq_nil_iff]
 intro x hx
 have:=(h x hx).2.1
 rw [decide_eq_true_eq]
 intro q
 exact this (List.eq_nil_of_length_eq_zero (by lia))
theorem ofLen_next {n i:Nat}{P:List (List Pt)}{ps:List Pt} (h:P[i]? = some ps):ofLen n (P.take (i+1))=ofLen n (P.take i)++(if ps.length=n then [ps] else []):=by
 unfold ofLen
 rw [List.take_add_one,h,List.filter_append]
 congr 1
 by_cases ht:ps.length=n
 ·rw [if_pos ht]
  exact List.filter_cons_of_pos (l:=[]) (decide_eq_true ht)
 ·rw [if_neg ht]
  exact List.filter_cons_of_neg (l:=[]) (by rw [decide_eq_false ht];exact Bool.false_ne_true)
theorem sc__law_due:FnScope ["one", "other", "many", "ones", "others", "found"] ["one", "other"] (defScope (top 37)):=⟨rfl,rfl,rfl,by decide +kernel,rfl,by decide +kernel,by decide +kernel⟩
set_option maxHeartbeats 8000000 in
theorem ok__law_due (T:Tx K mg A):FnOk P w K mg base CX0 17 A.f__law_due A.d__law_due ["one", "other"] (sp__law_due K):=by
 have G__law_sought:FnOk P w K mg base CX0 16 A.f__law_sought A.d__law_sought ["ones", "others", "at", "many", "known"] (sp__law_sought K):=(ok__law_sought T).mono (by decide)
 refine T._law_due.fn.ok sc__law_due (fun vs H Q E h=>?_) (fun cdv Ar outer s H vs Q E hr h=>?_)
 ·obtain ⟨a,b,xs,ys,P,Q,rfl,_⟩:=h;rfl
 ·obtain ⟨a,b,xs,ys,P1,Q1,rfl,hqa,hda,hqb,hdb,hP,hQ,lP,lQ,k⟩:=h
  have hxl:xs.length=P1.length:=by rw [hda.length,List.length_map]
  have hyl:ys.length=Q1.length:=by rw [hdb.length,List.length_map]
  refine ⟨_,pss_cons (ps_for PassesOwn.never rfl (pi_range2 (by rfl) T.n_range (pa_cons (pe_int) (pa_cons (pe_int) (pa_nil)))) (pg_name (i:=2) sc__law_due.nd rfl (Or.inr rfl)) (pss_cons (ps_comp (i:=3) (N':=["pattern", "many"]) (n:=1) (fi:=[2]) (g:=gName 0) sc__law_due.nd rfl (Or.inl rfl) rfl (cscope (defScope (top 37)) ["one", "other", "many", "ones", "others", "found"] (by decide +kernel)) (pi_list (pv 0)) (fun s H fp=>pg_name (i:=0) (show (["pattern", "many"]:List Str).Nodup by decide +kernel) rfl (Or.inl rfl) (.inr rfl)) (fun s H fp=>pifs_one (pt_cmpR (op_eq) (pe_callB (r:=rLenS K) call_lenS (by rfl) T.n_len PySem.boot_len (pa_cons (pv 0) (pa_nil))) (pv 1) (nomark _))) (fun s H fp=>pv 0))
   (pss_cons (ps_comp (i:=4) (N':=["pattern", "many"]) (n:=1) (fi:=[2]) (g:=gName 0) sc__law_due.nd rfl (Or.inl rfl) rfl (cscope (defScope (top 37)) ["one", "other", "many", "ones", "others", "found"] (by decide +kernel)) (pi_list (pv 1)) (fun s H fp=>pg_name (i:=0) (show (["pattern", "many"]:List Str).Nodup by decide +kernel) rfl (Or.inl rfl) (.inr rfl)) (fun s H fp=>pifs_one (pt_cmpR (op_eq) (pe_callB (r:=rLenS K) call_lenS (by rfl) T.n_len PySem.boot_len (pa_cons (pv 0) (pa_nil))) (pv 1) (nomark _))) (fun s H fp=>pv 0))
   (pss_cons (ps_set (i:=5) sc__law_due.nd rfl (Or.inl rfl) (pe_call G__law_sought hr (by rfl) T._law_sought.mg T._law_sought.fn.kp T._law_sought.bd .nil pass0 (pa_cons (pv 3) (pa_cons (pv 4) (pa_cons (pe_int) (pa_cons (pv 2) (pa_cons (pe_dnewK) (pa_nil))))))))
   (pss_one (ps_if (pt_cmpR (op_notN) (pv 5) (pe_non) (nomark _)) (pss_one (ps_ret (pe_bm (r:=rJoin K) PySem.F.plainAttrs_str PySem.F.slot_str_join PySem.F.type_str_join mt_join (pe_str) (pa_cons (pv 5) (pa_nil))))) (pss_nil)))))))
   (pss_one (ps_ret (pe_non))),?_⟩
  refine ⟨1,13,rfl,by decide,?_⟩
  refine for_range (lo:=1) (n:=12) (fun i σ H2=>(∃ u2 u3 u4 u5,σ=[some (.ref a),some (.ref b),u2,u3,u4,u5])∧Same H H2∧Parts (below (i+1) P1) (below (i+1) Q1) none) ⟨⟨_,_,_,_,rfl⟩,Same.refl _,by rw [below_none hP,below_none hQ];exact fun _=>rfl⟩ (fun i0 σ H2 hi0 q=>?_) (fun σ H2 q=>?_)
  ·obtain ⟨q0,s2,hpa⟩:=q
   apply ex_4 q0
   clear q0
   intro u2 u3 u4 u5
   rw [show (1:Int)+(i0:Int)=((i0+1:Nat):Int) by lia]
   have s22:Same H2 H2:=Same.refl _
   refine ⟨_,rfl,a,rfl,⟨_,(s2.trans s22).seq hqa⟩,fun D1 hD1=>?_⟩
   refine comp_list (K:=K) (xs:=xs) (fun i acc σ H8=>(∃ u,σ=[u,some (.int ((i0:Nat)+1:Nat))])∧Same H2 H8∧Dens K H acc ((ofLen (i0+1) (P1.take i)).map patD)) upd_same ⟨⟨_,rfl⟩,Same.new hD1,.nil⟩ (fun i acc σ H8 _ _ q=>(s2.trans (s22.trans q.2.1)).seq hqa) (fun i y acc σ H8 hy hDy q=>?_) (fun acca σ H8a hDa q=>?_)
   ·obtain ⟨q0,s8,dn⟩:=q
    apply ex_1 q0
    clear q0
    intro u
    obtain ⟨ps,hpi,hdp⟩:=dens_pat hda hy
    obtain ⟨c,zs,rfl,hqc,hdc⟩:=den_pat hdp
    have hzl:zs.length=ps.length:=by rw [hdc.length,List.length_map]
    have hi:=ge_len hpi
    have en:=ofLen_next (n:=i0+1) hpi
    have hal:acc.length≤8:=by
     rw [dn.length,List.length_map]
     exact Nat.le_trans (List.length_filter_le _ _) (by rw [List.length_take];lia)
    have w8:Same H H8:=s2.trans (s22.trans s8)
    refine ⟨_,rfl,c,zs,rfl,.inl (w8.seq hqc),_,rfl,rfl,_,rfl,?_⟩
    by_cases htk:ps.length=i0+1
    ·rw [decide_eq_true (show V.int (zs.length:Int)=V.int ((i0+1:Nat):Int) by rw [hzl,htk])]
     refine iteT ⟨_,rfl,_,hDy,small (by lia),_,upd_same,⟨_,rfl⟩,snap_upd hD1 s8,?_⟩
     rw [en,if_pos htk,List.map_append]
     exact dn.append (.cons hdp .nil)
    ·rw [decide_eq_false (show ¬ V.int (zs.length:Int)=V.int ((i0+1:Nat):Int) by intro e;injection e with e;rw [hzl] at e;lia)]
     refine iteF ⟨_,hDy,⟨_,rfl⟩,s8,?_⟩
     rw [en,if_neg htk,List.append_nil]
     exact dn
   obtain ⟨_,ta,dna⟩:=q
   rw [hxl,List.take_of_length_le (Nat.le_refl _)] at dna
   refine ⟨_,rfl,b,rfl,⟨_,(s2.trans ta).seq hqb⟩,fun D2 hD2=>?_⟩
   refine comp_list (K:=K) (xs:=ys) (fun i acc σ H8=>(∃ u,σ=[u,some (.int ((i0:Nat)+1:Nat))])∧Same H8a H8∧Dens K H acc ((ofLen (i0+1) (Q1.take i)).map patD)) upd_same ⟨⟨_,rfl⟩,Same.new hD2,.nil⟩ (fun i acc σ H8 _ _ q=>(s2.trans (ta.trans q.2.1)).seq hqb) (fun i y acc σ H8 hy hDy q=>?_) (fun accb σ H8b hDb q=>?_)
   ·obtain ⟨q0,s8,dn⟩:=q
    apply ex_1 q0
    clear q0
    intro u
    obtain ⟨ps,hpi,hdp⟩:=dens_pat hdb hy
    obtain ⟨c,zs,rfl,hqc,hdc⟩:=den_pat hdp
    have hzl:zs.length=ps.length:=by rw [hdc.length,List.length_map]
    have hi:=ge_len hpi
    have en:=ofLen_next (n:=i0+1) hpi
    have hal:acc.length≤8:=by
     rw [dn.length,List.length_map]
     exact Nat.le_trans (List.length_filter_le _ _) (by rw [List.length_take];lia)
    have w8:Same H H8:=s2.trans (ta.trans s8)
    refine ⟨_,rfl,c,zs,rfl,.inl (w8.seq hqc),_,rfl,rfl,_,rfl,?_⟩
    by_cases htk:ps.length=i0+1
    ·rw [decide_eq_true (show V.int (zs.length:Int)=V.int ((i0+1:Nat):Int) by rw [hzl,htk])]
     refine iteT ⟨_,rfl,_,hDy,small (by lia),_,upd_same,⟨_,rfl⟩,snap_upd hD2 s8,?_⟩
     rw [en,if_pos htk,List.map_append]
     exact dn.append (.cons hdp .nil)
    ·rw [decide_eq_false (show ¬ V.int (zs.length:Int)=V.int ((i0+1:Nat):Int) by intro e;injection e with e;rw [hzl] at e;lia)]
     refine iteF ⟨_,hDy,⟨_,rfl⟩,s8,?_⟩
     rw [en,if_neg htk,List.append_nil]
     exact dn
   obtain ⟨_,tb,dnb⟩:=q
   rw [hyl,List.take_of_length_le (Nat.le_refl _)] at dnb
   have s8:Same H H8b:=s2.trans (ta.trans tb)
   have hD1b:=tb _ _ hDa
   have bs:Base (i0+1) (ofLen (i0+1) P1) (ofLen (i0+1) Q1):=⟨by lia,fun ps hp=>⟨(hP ps (List.mem_filter.mp hp).1).1,ofLen_is _ _ ps hp⟩,fun ps hp=>⟨(hQ ps (List.mem_filter.mp hp).1).1,ofLen_is _ _ ps hp⟩,Nat.le_trans (List.length_filter_le _ _) lP,Nat.le_trans (List.length_filter_le _ _) lQ⟩
   refine ⟨_,rfl,_,rfl,_,rfl,fun kn hkn=>?_⟩
   have s9:Same H8b (upd H8b kn (.dK [])):=Same.new hkn
   have e9:wo kn (upd H8b kn (.dK []))=H8b:=by
    rw [wo_upd]
    funext x
    by_cases e:x=kn
    ·rw [e,wo_self,hkn]
    ·exact wo_at e
   refine ⟨D1,D2,kn,acca,accb,_,_,_,_,0,i0+1,[],rfl,by rw [e9];exact .of hD1b,by rw [e9];exact dna.same s8,by rw [e9];exact .of hDb,by rw [e9];exact dnb.same s8,List.Sublist.refl _,List.Sublist.refl _,bs,Nat.zero_le _,by lia,upd_same,KnK.nil _ _,(fun n P Q v _ _ _ _ h=>by cases h),fun v H10 kvs10 o g1 g2 g3 g4 g5 g6 g7=>?_⟩
   rw [e9] at g1
   have s10:Same H H10:=s8.trans (g1.trans wo_same)
   have d0:∀ X:List (List Pt),dr 0 X=X:=fun X=>(List.map_congr_left fun x _=>List.drop_zero).trans (List.map_id _)
   rw [d0,d0,Nat.sub_zero] at g6
   have hst:=due_step (by lia) (by lia) hpa g6
   cases o with
   | none=>
    have ev:v = .non:=g7
    subst ev
    refine ⟨_,rfl,rfl,_,rfl,iteF ⟨⟨_,_,_,_,rfl⟩,s10,hst⟩⟩
   | some ws=>
    obtain ⟨c,rfl,hc⟩:=g7
    have hfin:=due_some hst g6.2.2.2.1
    refine ⟨_,rfl,rfl,_,rfl,iteT ?_⟩
    have hwl:ws.length≤12:=by have:=g6.2.2.2.1;lia
    have h1:((" " : Str)).length=1:=rfl
    exact ⟨rfl,_,rfl, " ",c,ws,rfl,rfl,wo_same.seq hc,join_fits (m:=500) (fun w hw=>(g6.2.2.1 w hw).1) (by rw [h1];lia),k (some ws) H10 s10 hfin⟩
  ·obtain ⟨q0,s2,hpa⟩:=q
   apply ex_4 q0
   clear q0
   intro u2 u3 u4 u5
   exact k none H2 s2 (parts_cong hpa (fun x=>(below_all hP x).symm) fun x=>(below_all hQ x).symm)
end
end K10
namespace K10
open PySem L2 LG
section
variable {P:Program}{w:World}{K:PySem.W.Frag}{mg:Str→Option Value}{base:Heap}{A:Ad}
theorem at_246 {r:Int} (h0:0≤r) (h1:r<3):∃ v:Int,atI [V.int 2,V.int 4,V.int 6] r=some (.int v)∧0<v∧v<7:=by
 have:r=0∨r=1∨r=2:=by lia
 rcases this with rfl | rfl | rfl
 ·exact ⟨2,rfl,by decide,by decide⟩
 ·exact ⟨4,rfl,by decide,by decide⟩
 ·exact ⟨6,rfl,by decide,by decide⟩
def sp__law_patterns (K:PySem.W.Frag):Sp:=fun vs H Q _=>∃ (d:Addr) (n:Nat),vs=[.ref d]∧Dk H d n∧n<500000 ∧
 ∀ (F:Addr) (as:List Addr) (pss:List (List Pt)) H',H F=none→(∀ a∈as,H a=none)→F∉as→Same (wo d H) H'→Dk H' d (n+2000)→H' F=some (.lst (as.map V.ref))→PL K H' as pss→PsOk pss→pss.length≤6→Q (.ref F) H'
def NP10 (K:PySem.W.Frag) (d F:Addr) (z:Str) (n:Nat) (H2:Hp) (i:Nat) (σ:St) (H5:Hp):Prop:=(∃ u v w,σ=[some (.ref d),some (.str z),some (.ref F),u,v,w])∧Same (wo d H2) H5∧Dk H5 d (n+100+200 * i)∧∃ (as:List Addr) (pss:List (List Pt)),H5 F=some (.lst (as.map V.ref))∧(∀ a∈as,H2 a=none)∧F∉as∧PL K H5 as pss∧PsOk pss∧pss.length=i
theorem sc__law_patterns:FnScope ["deck", "line", "found", "k", "words", "at"] ["deck"] (defScope (top 34)):=⟨rfl,rfl,rfl,by decide +kernel,rfl,by decide +kernel,by decide +kernel⟩
set_option maxHeartbeats 8000000 in
theorem ok__law_patterns (T:Tx K mg A):FnOk P w K mg base CX0 4 A.f__law_patterns A.d__law_patterns ["deck"] (sp__law_patterns K):=by
 have G__law_line:FnOk P w K mg base CX0 3 A.f__law_line A.d__law_line ["deck", "most"] (sp__law_line K):=(ok__law_line T).mono (by decide)
 have G__law_pick:FnOk P w K mg base CX0 3 A.f__law_pick A.d__law_pick ["deck", "many"] (sp__law_pick K):=(ok__law_pick T).mono (by decide)
 have G__law_word:FnOk P w K mg base CX0 3 A.f__law_word A.d__law_word ["deck"] (sp__law_word K):=(ok__law_word T).mono (by decide)
 have G__law_pattern:FnOk P w K mg base CX0 3 A.f__law_pattern A.d__law_pattern ["deck", "line"] (sp__law_pattern K):=(ok__law_pattern T).mono (by decide)
 refine T._law_patterns.fn.ok sc__law_patterns (fun vs H Q E h=>?_) (fun cdv Ar outer s H vs Q E hr h=>?_)
 ·obtain ⟨d,n,rfl,_⟩:=h;rfl
 ·obtain ⟨d,n,rfl,hdk,hn,k⟩:=h
  refine ⟨_,pss_cons (ps_set (i:=1) sc__law_patterns.nd rfl (Or.inl rfl) (pe_call G__law_line hr (by rfl) T._law_line.mg T._law_line.fn.kp T._law_line.bd .nil pass0 (pa_cons (pv 0) (pa_cons (pe_ix (r:=rIxL K) ix_list (pe_lst (pa_cons (pe_int) (pa_cons (pe_int) (pa_cons (pe_int) (pa_nil))))) (pe_call G__law_pick hr (by rfl) T._law_pick.mg T._law_pick.fn.kp T._law_pick.bd .nil pass0 (pa_cons (pv 0) (pa_cons (pe_int) (pa_nil)))) (fun _ _=>rfl)) (pa_nil)))))
   (pss_cons (ps_set (i:=2) sc__law_patterns.nd rfl (Or.inl rfl) (pe_lst (pa_nil)))
   (pss_cons (ps_for PassesOwn.never rfl (pi_range1 (by rfl) T.n_range (pa_cons (pe_call G__law_pick hr (by rfl) T._law_pick.mg T._law_pick.fn.kp T._law_pick.bd .nil pass0 (pa_cons (pv 0) (pa_cons (pe_int) (pa_nil)))) (pa_nil))) (pg_name (i:=3) sc__law_patterns.nd rfl (Or.inl rfl)) (pss_cons (ps_set (i:=4) sc__law_patterns.nd rfl (Or.inl rfl) (pe_bm PySem.F.plainAttrs_str PySem.F.slot_str_split PySem.F.type_str_split mt_split (pv 1) (pa_cons (pe_str) (pa_nil))))
   (pss_cons (ps_if (pt_cmpR (op_eq) (pe_call G__law_pick hr (by rfl) T._law_pick.mg T._law_pick.fn.kp T._law_pick.bd .nil pass0 (pa_cons (pv 0) (pa_cons (pe_int) (pa_nil)))) (pe_int) (nomark _)) (pss_one (ps_asg (pe_call G__law_word hr (by rfl) T._law_word.mg T._law_word.fn.kp T._law_word.bd .nil pass0 (pa_cons (pv 0) (pa_nil))) (pg_sub (pv 4) (pe_call G__law_pick hr (by rfl) T._law_pick.mg T._law_pick.fn.kp T._law_pick.bd .nil pass0 (pa_cons (pv 0) (pa_cons (pe_callB (r:=rLenS K) call_lenS (by rfl) T.n_len PySem.boot_len (pa_cons (pv 4) (pa_nil))) (pa_nil)))) set_list))) (pss_nil))
   (pss_cons (ps_expr (pe_bm PySem.F.plainAttrs_list PySem.F.slot_list_append PySem.F.type_list_append mt_append (pv 2) (pa_cons (pe_call G__law_pattern hr (by rfl) T._law_pattern.mg T._law_pattern.fn.kp T._law_pattern.bd .nil pass0 (pa_cons (pv 0) (pa_cons (pe_bm (r:=rJoin K) PySem.F.plainAttrs_str PySem.F.slot_str_join PySem.F.type_str_join mt_join (pe_str) (pa_cons (pv 4) (pa_nil))) (pa_nil)))) (pa_nil))))
   (pss_one (ps_if (pt_cmpR (op_eq) (pe_call G__law_pick hr (by rfl) T._law_pick.mg T._law_pick.fn.kp T._law_pick.bd .nil pass0 (pa_cons (pv 0) (pa_cons (pe_int) (pa_nil)))) (pe_int) (nomark _)) (pss_cons (ps_set (i:=5) sc__law_patterns.nd rfl (Or.inl rfl) (pe_call G__law_pick hr (by rfl) T._law_pick.mg T._law_pick.fn.kp T._law_pick.bd .nil pass0 (pa_cons (pv 0) (pa_cons (pe_callB (r:=rLenS K) call_lenS (by rfl) T.n_len PySem.boot_len (pa_cons (pv 4) (pa_nil))) (pa_nil)))))
   (pss_one (ps_asg (pe_tup (pa_cons (pe_str) (pa_cons (pe_ix (r:=rIxL K) ix_list (pe_lst (pa_cons (pe_str) (pa_cons (pe_str) (pa_cons (pe_str) (pa_nil))))) (pe_call G__law_pick hr (by rfl) T._law_pick.mg T._law_pick.fn.kp T._law_pick.bd .nil pass0 (pa_cons (pv 0) (pa_cons (pe_int) (pa_nil)))) (fun _ _=>rfl)) (pa_nil)))) (pg_sub (pe_ix (r:=rIxL K) ix_list (pv 2) (pe_un un_neg (pe_int)) (fun _ _=>rfl)) (pv 5) set_list)))) (pss_nil)))))))
   (pss_one (ps_ret (pe_slice (r:=rSlL K) sl_list (pv 2) (po_none) (po_some (pe_int))))))),?_⟩
  have h1:((" " : Str)).length=1:=rfl
  refine ⟨_,rfl,(by show 3≤sizeLine;decide),fun p hp=>⟨_,rfl,d,3,n,rfl,hdk.same (Same.new hp),by lia,by decide,by decide,fun r3 H1 s1 dk1 q0 q1=>?_⟩⟩
  have hp1:H1 p=some (.lst [.int 2,.int 4,.int 6]):=keepN s1 upd_same (hdk.ne hp)
  have s01:Same (wo d H) H1:=wo_trans (wo_same.trans (Same.new hp)) s1
  obtain ⟨v,hv,hv0,hv1⟩:=at_246 q0 q1
  refine ⟨p,_,r3,_,rfl,rfl,.of hp1,hv,d,v,_,rfl,dk1,by lia,hv0,by lia,fun z ws H2 s2 dk2 hln3=>?_⟩
  have s02:Same (wo d H) H2:=wo_trans s01 s2
  clear s1 s01 hp1 dk1 hp hv q0 q1 s2
  have hl6:ws.length≤6:=by have:=hln3.le;lia
  have hln:LnOk 12 z ws:=⟨hln3.eq,hln3.pos,by lia,hln3.wd⟩
  have hlo:=hln.ok (by decide)
  have hsp:=hln.split
  have hws:WsOk ws:=⟨hln.pos,hln.le,hln.wd⟩
  refine ⟨Nat.zero_le _,fun F hF=>?_⟩
  have hdF:d≠F:=dk2.ne hF
  have sF:Same H2 (upd H2 F (.lst [])):=Same.new hF
  have hFF:(upd H2 F (.lst [])) F=some (.lst []):=upd_same
  have dkF:=dk2.same sF
  generalize upd H2 F (.lst [])=H3 at sF hFF dkF
  refine ⟨_,rfl,d,7,_,rfl,dkF,by lia,by decide,by decide,fun r4 H4 s4 dk4 q0 q1=>⟨r4,rfl,by lia,by lia,?_⟩⟩
  have hFd:(wo d H2) F=none:=by rw [wo_at hdF.symm];exact hF
  obtain ⟨zs0,hd0⟩:=dk2.lst
  refine for_range (NP10 K d F z n H2) ⟨⟨_,_,_,rfl⟩,wo_trans (wo_same.trans sF) s4,dk4.mono (by lia),[],[],keepN s4 hFF hdF,(fun a ha=>nomatch ha),(fun z=>nomatch z),.nil,(fun ps hps=>nomatch hps),rfl⟩ (fun i σ H5 hi q=>?_) (fun σ H5 q=>?_)
  ·obtain ⟨⟨u,v',w',rfl⟩,s5,dk5,as,pss,hF5,hfr,hFa,pl,hok,hpl⟩:=q
   have hda:d∉as:=fun z=>by rw [hfr d z] at hd0;cases hd0
   have hi8:i<7:=by lia
   refine ⟨_,rfl,rfl,z, " ",rfl,rfl,by decide +kernel,Nat.le_trans (Nat.add_le_add_right hlo.2 2) (by decide),fun W hW=>?_⟩
   have hdW:d≠W:=dk5.ne hW
   have hFW:F≠W:=ne_of_none hF5 hW
   have sW:Same H5 (upd H5 W (.lst ((Txt.split z " ").map V.str))):=Same.new hW
   have hWW:(upd H5 W (.lst ((Txt.split z " ").map V.str))) W=some (.lst (ws.map V.str)):=by rw [upd_same,hsp]
   have dkW:=dk5.same sW
   generalize upd H5 W (.lst ((Txt.split z " ").map V.str))=H6 at sW hWW dkW
   have hWd:(wo d H5) W=none:=by rw [wo_at hdW.symm];exact hW
   refine ⟨_,rfl,d,3,_,rfl,dkW,by lia,by decide,by decide,fun r7 H7 s7 dk7 _ _=>⟨rfl,_,rfl,?_⟩⟩
   have hW7:H7 W=some (.lst (ws.map V.str)):=keepN s7 hWW hdW
   have s57:Same (wo d H5) H7:=wo_trans (wo_same.trans sW) s7
   refine ite2 (fun hz=>?ya) (fun hz=>?no)
   case' ya=>
    refine ⟨_,rfl,d,_,rfl,dk7,by lia,fun x H8 s8 dk8 hx=>?_⟩
    have hW8:=keepN s8 hW7 hdW
    refine ⟨_,rfl,_,rfl,_,rfl,W,_,rfl,.inl (.of hW8),d,_,_,rfl,dk8,by lia,by rw [List.length_map];have:=hws.pos;lia,by rw [List.length_map];have:=hws.le;lia,fun rk H9 s9 dk9 k0 k1=>?_⟩
    have hW9:=keepN s9 hW8 hdW
    rw [List.length_map] at k1
    refine ⟨W,_,rk,rk.toNat,rfl,rfl,hW9,by rw [List.length_map];exact ixN_in k0 k1,?_⟩
    have hvv:(ws.map V.str).set rk.toNat (.str x)=(ws.set rk.toNat x).map V.str:=by rw [List.map_set]
    rw [hvv]
    have hvs:WsOk (ws.set rk.toNat x):=hws.set hx
    have s10:Same (wo d H5) (upd H9 W (.lst ((ws.set rk.toNat x).map V.str))):=snap_upd hWd (wo_trans (wo_trans s57 s8) s9)
    have hW10:(upd H9 W (.lst ((ws.set rk.toNat x).map V.str))) W=some (.lst ((ws.set rk.toNat x).map V.str)):=upd_same
    have dk10:Dk (upd H9 W (.lst ((ws.set rk.toNat x).map V.str))) d (n+100+200 * i+10):=(dk9.upd hdW).mono (by lia)
    generalize upd H9 W (.lst ((ws.set rk.toNat x).map V.str))=H10 at s10 hW10 dk10
    generalize ws.set rk.toNat x=vs at hvs hW10
   case' no=>
    have s10:Same (wo d H5) H7:=s57
    have hW10:H7 W=some (.lst (ws.map V.str)):=hW7
    have dk10:Dk H7 d (n+100+200 * i+10):=dk7.mono (by lia)
    have hvs:WsOk ws:=hws
    generalize hev:ws=vs at hvs hW10
    clear s57 hW7 dk7 s7
    generalize H7=H10 at s10 hW10 dk10 ⊢
   all_goals
    have hl10:=hvs.line
    have hlo10:=hl10.ok (by decide)
    have hF10:H10 F=some (.lst (as.map V.ref)):=keepN s10 hF5 hdF
    have pl10:=pl.pick dk5 hda s10
    refine ⟨_,rfl,.inl ⟨rfl,_,.of hF10⟩,_,rfl,rfl,_,rfl, " ",W,vs,rfl,rfl,.of hW10,join_fits (fun y hy=>(hl10.wd y hy).len) (by rw [h1];have:=hvs.le;lia),d,_,_,rfl,dk10,by lia,by lia,hlo10.1,fun P H11 ps ys hP s11 dk11 hdr hys dns=>?_⟩
    rw [hl10.split] at hdr
    have hF11:=keepN s11 hF10 hdF
    have hW11:=keepN s11 hW10 hdW
    have pl11:=pl10.pick dk10 hda s11
    have hPa:P∉as:=fun z=>by
     obtain ⟨ys,e⟩:=pl10.mem P z
     rw [hP] at e;cases e
    have hFP:F≠P:=ne_of_none hF10 hP
    have hWP:W≠P:=ne_of_none hW10 hP
    have hdP:d≠P:=dk10.ne hP
    have e1:as.map V.ref++[.ref P]=(as++[P]).map V.ref:=by simp
    refine ⟨F,_,_,rfl,rfl,hF11,small (by rw [List.length_map,pl11.len];lia),?_⟩
    rw [e1]
    have s12:Same (wo d H2) (upd H11 F (.lst ((as++[P]).map V.ref))):=snap_upd hFd (wo_trans (wo_trans s5 s10) s11)
    have dk12:Dk (upd H11 F (.lst ((as++[P]).map V.ref))) d (n+100+200 * i+90):=(dk11.upd hdF).mono (by lia)
    have hF12:(upd H11 F (.lst ((as++[P]).map V.ref))) F=some (.lst ((as++[P]).map V.ref)):=upd_same
    have hP12:(upd H11 F (.lst ((as++[P]).map V.ref))) P=some (.lst ys):=by rw [upd_ne hFP.symm];exact hys
    have hW12:(upd H11 F (.lst ((as++[P]).map V.ref))) W=some (.lst (vs.map V.str)):=by rw [upd_ne hFW.symm];exact hW11
    have pl12:=(pl11.updF (ys:=(as++[P]).map V.ref) hF11 hFa).snoc hP12 (dns.same (tO_upd hF11)) hPa
    generalize upd H11 F (.lst ((as++[P]).map V.ref))=H12 at s12 dk12 hF12 hP12 hW12 pl12 ⊢
    have hpn:ps.length=vs.length:=hdr.1
    have hvp:=hvs.pos
    have hvl:=hvs.le
    have hok12:PsOk (pss++[ps]):=psok_snoc hok (drawn_pw hvs.wd hdr) (fun e=>by rw [e] at hpn;simp at hpn;lia) (by lia)
    have hpl12:(pss++[ps]).length=i+1:=by rw [List.length_append,List.length_singleton,hpl]
    have hps12:(pss++[ps])[as.length]? = some ps:=by rw [pl.len];simp
    have has12:(as++[P])[as.length]? = some P:=by simp
    have hfr12:∀ a∈as++[P],H2 a=none:=fun a ha=>by
     rcases List.mem_append.mp ha with z | z
     ·exact hfr a z
     ·rw [List.mem_singleton.mp z]
      have:=(wo_trans s5 s10).free hP
      rwa [wo_at hdP.symm] at this
    have hFa12:F∉as++[P]:=fun z=>by
     rcases List.mem_append.mp z with z | z
     ·exact hFa z
     ·exact hFP (List.mem_singleton.mp z)
    have hda12:d∉as++[P]:=fun z=>by rw [hfr12 d z] at hd0;cases hd0
    have hyn:ys.length=ps.length:=by rw [dns.length,List.length_map]
    have hall:as.map V.ref++[.ref P]=(as++[P]).map V.ref:=e1
    generalize hA:as++[P]=as12 at hF12 pl12 has12 hfr12 hFa12 hda12 hall
    generalize pss++[ps]=pss12 at pl12 hok12 hpl12 hps12
    refine ⟨_,rfl,d,4,_,rfl,dk12,by lia,by decide,by decide,fun r13 H13 s13 dk13 _ _=>⟨rfl,_,rfl,?_⟩⟩
    have hF13:=keepN s13 hF12 hdF
    have hP13:=keepN s13 hP12 hdP
    have hW13:=keepN s13 hW12 hdW
    have pl13:=pl12.pick dk12 hda12 s13
    have s213:=wo_trans s12 s13
    refine ite2 (fun hz=>?_) (fun hz=>?_)
    ·refine ⟨_,rfl,_,rfl,W,_,rfl,.inl (.of hW13),d,_,_,rfl,dk13,by lia,by rw [List.length_map];lia,by rw [List.length_map];lia,fun r14 H14 s14 dk14 m0 m1=>?_⟩
     rw [List.length_map] at m1
     have hF14:=keepN s14 hF13 hdF
     have hP14:=keepN s14 hP13 hdP
     have pl14:=pl13.pick dk13 hda12 s14
     have s214:=wo_trans s213 s14
     refine ⟨(by show 3≤sizeLine;decide),fun L hL=>?_⟩
     have sL:Same H14 (upd H14 L (.lst [.str "number",.str "name",.str "any"])):=Same.new hL
     have hLL:(upd H14 L (.lst [.str "number",.str "name",.str "any"])) L=some (.lst [.str "number",.str "name",.str "any"]):=upd_same
     have hdL:d≠L:=dk14.ne hL
     have dkL:=dk14.same sL
     refine ⟨_,rfl,d,3,_,rfl,dkL,by lia,by decide,by decide,fun r15 H15 s15 dk15 g0 g1=>?_⟩
     obtain ⟨m,hm,hx⟩:=at_hk g0 g1
     have pl15:=(pl14.up sL).pick dkL hda12 s15
     have hF15:=keepN s15 (sL _ _ hF14) hdF
     have hP15:=keepN s15 (sL _ _ hP14) hdP
     have s215:=wo_trans (s214.trans sL) s15
     refine ⟨L,_,r15,_,rfl,rfl,.of (keepN s15 hLL hdL),hx,(by show 2≤sizeLine;decide),fun t ht=>?_⟩
     have st:Same H15 (upd H15 t (.tup [.str "hole",.str (kindS m)])):=Same.new ht
     have pt:PtAt (upd H15 t (.tup [.str "hole",.str (kindS m)])) (.ref t) (.hole m):=⟨t,rfl,upd_same⟩
     have hF16:=st _ _ hF15
     have hP16:=st _ _ hP15
     have pl16:=pl15.up st
     have dk16:=dk15.same st
     have s216:=s215.trans st
     generalize upd H15 t (.tup [.str "hole",.str (kindS m)])=H16 at st pt hF16 hP16 pl16 dk16 s216 ⊢
     have hPw:PtW (.hole m):=hm
     rw [← hall] at hF16
     refine ⟨_,rfl,1,rfl,F,_,-1,_,rfl,rfl,.of hF16,at_lastV,_,rfl,P,ys,r14,r14.toNat,rfl,rfl,hP16,ixN_in m0 (by lia),?_⟩
     rw [hall] at hF16
     refine ⟨⟨_,_,_,rfl⟩,snap_upd (by rw [wo_at hdP.symm];exact hfr12 P (List.mem_of_getElem? has12)) s216,(dk16.upd hdP).mono (by lia),as12,pss12.set as.length (ps.set r14.toNat (.hole m)),by rw [upd_ne hFP];exact hF16,hfr12,hFa12,pl16.put _ has12 hps12 hP16 (pt.den hPw),psok_set hok12 hps12 hPw,by rw [List.length_set];exact hpl12⟩
    ·exact ⟨⟨_,_,_,rfl⟩,s213,dk13.mono (by lia),as12,pss12,hF13,hfr12,hFa12,pl13,hok12,hpl12⟩
  ·obtain ⟨⟨u,v',w',rfl⟩,s5,dk5,as,pss,hF5,hfr,hFa,pl,hok,hpl⟩:=q
   have hda:d∉as:=fun z=>by rw [hfr d z] at hd0;cases hd0
   have hal:=pl.len
   refine ⟨_,rfl,8,rfl,F,_,rfl,.of hF5,fun R hR=>?_⟩
   have e8:cutV (as.map V.ref) none (some 8)=as.map V.ref:=by rw [cut_take (by decide),List.take_of_length_le];rw [List.length_map];show _≤8;lia
   rw [e8]
   have sR:Same H5 (upd H5 R (.lst (as.map V.ref))):=Same.new hR
   have hRd:d≠R:=dk5.ne hR
   have s05:Same (wo d H) H5:=wo_trans s02 s5
   refine k R as pss _ ?_ (fun a ha=>?_) (fun z=>?_) (s05.trans sR) ((dk5.same sR).mono (by lia)) upd_same (pl.up sR) hok (by lia)
   ·have:=s05.free hR
    rwa [wo_at hRd.symm] at this
   ·have h2:=s02.free (hfr a ha)
    have:a≠d:=fun e=>hda (e ▸ ha)
    rwa [wo_at this] at h2
   ·obtain ⟨ys,e⟩:=pl.mem R z
    rw [hR] at e;cases e
end
end K10
namespace K10
open PySem L2 LG
section
variable {P:Program}{w:World}{K:PySem.W.Frag}{mg:Str→Option Value}{base:Heap}{A:Ad}
def sp__law_right (K:PySem.W.Frag):Sp:=fun vs H R _=>∃ (d a b:Addr) (n:Nat) (xs ys:List V) (P Q:List (List Pt)),vs=[.ref d,.ref a,.ref b]∧Dk H d n∧n<650000∧SqL K (wo d H) a xs∧Dens K (wo d H) xs (P.map patD)∧SqL K (wo d H) b ys∧Dens K (wo d H) ys (Q.map patD)∧PsOk P∧PsOk Q∧P.length≤7∧Q.length≤8 ∧
 ∀ H',Same (wo d H) H'→R (.bl true) H'
theorem dep_two (P Q:List (List Pt)):(PyData.tuple [patsD P,patsD Q]).depth≤100:=by
 have h:=dep_ky 0 P Q
 have e:(kyD 0 P Q).depth=1+PyData.depthAll [.int (0:Nat),patsD P,patsD Q]:=by show (PyData.list _).depth=_;simp only [PyData.depth];lia
 simp only [PyData.depth,PyData.depthAll] at e ⊢
 lia
def ptSh:Sh:=.tcons .str (.tcons .str .tnil)
def psSh:Sh:=.list (.list ptSh)
theorem sh_pats (pss:List (List Pt)):psSh.has (patsD pss):=⟨_,rfl,fun x hx=>by
 obtain ⟨ps,_,rfl⟩:=List.mem_map.mp hx
 exact ⟨_,rfl,fun y hy=>by
  obtain ⟨p,_,rfl⟩:=List.mem_map.mp hy
  cases p <;> exact ⟨_,_,rfl,⟨_,rfl⟩,_,_,rfl,⟨_,rfl⟩,rfl⟩⟩⟩
theorem eqv_two {P Q:List (List Pt)} (hP:∀ ps∈P,PW ps) (hQ:∀ ps∈Q,PW ps):PyData.eqv (.tuple [patsD P,patsD Q]) (.tuple [patsD P,patsD Q])=true:=by
 have h:(Sh.tcons psSh (.tcons psSh .tnil)).has (.tuple [patsD P,patsD Q]):=⟨_,_,rfl,sh_pats P,_,_,rfl,sh_pats Q,rfl⟩
 exact ((Sh.ok (.tcons psSh (.tcons psSh .tnil))).eqv _ _ h h).mpr rfl
theorem sc__law_right:FnScope ["deck", "one", "other", "due", "kept", "first", "second", "line"] ["deck", "one", "other"] (defScope (top 39)):=⟨rfl,rfl,rfl,by decide +kernel,rfl,by decide +kernel,by decide +kernel⟩
set_option maxHeartbeats 8000000 in
theorem ok__law_right (T:Tx K mg A):FnOk P w K mg base CX0 18 A.f__law_right A.d__law_right ["deck", "one", "other"] (sp__law_right K):=by
 have G__law_due:FnOk P w K mg base CX0 17 A.f__law_due A.d__law_due ["one", "other"] (sp__law_due K):=(ok__law_due T).mono (by decide)
 have G__law_lines:FnOk P w K mg base CX0 17 A.f__law_lines A.d__law_lines ["deck", "most"] (sp__law_lines K):=(ok__law_lines T).mono (by decide)
 have G_parting_line:FnOk P w K mg base CX0 17 A.f_parting_line A.d_parting_line ["one", "other"] (sp_parting_line K):=(ok_parting_line T).mono (by decide)
 have G__law_is_of:FnOk P w K mg base CX0 17 A.f__law_is_of A.d__law_is_of ["patterns", "line"] (sp__law_is_of K):=(ok__law_is_of T).mono (by decide)
 refine T._law_right.fn.ok sc__law_right (fun vs H Q E h=>?_) (fun cdv Ar outer s H vs Q E hr h=>?_)
 ·obtain ⟨d,a,b,n,xs,ys,P,Q,rfl,_⟩:=h;rfl
 ·obtain ⟨d,a,b,n,xs,ys,P1,Q1,rfl,hdk,hn,hqa,hda,hqb,hdb,hP,hQ,lP,lQ,k⟩:=h
  have hxl:xs.length=P1.length:=by rw [hda.length,List.length_map]
  have hyl:ys.length=Q1.length:=by rw [hdb.length,List.length_map]
  refine ⟨_,pss_cons (ps_set (i:=3) sc__law_right.nd rfl (Or.inl rfl) (pe_call G__law_due hr (by rfl) T._law_due.mg T._law_due.fn.kp T._law_due.bd .nil pass0 (pa_cons (pv 1) (pa_cons (pv 2) (pa_nil)))))
   (pss_cons (ps_set (i:=4) sc__law_right.nd rfl (Or.inl rfl) (pe_tup (pa_cons (pe_comp (N':=["pattern"]) (n:=1) (fi:=[]) (g:=gName 0) rfl (cscope (defScope (top 39)) ["deck", "one", "other", "due", "kept", "first", "second", "line"] (by decide +kernel)) (pi_list (pv 1)) (fun s H fp=>pg_name (i:=0) (show (["pattern"]:List Str).Nodup by decide +kernel) rfl (Or.inl rfl) (.inr rfl)) (fun s H fp=>pifs_nil) (fun s H fp=>pe_callTy (r:=rListOf K) call_listO (by rfl) T.n_list bt_list (pa_cons (pv 0) (pa_nil)))) (pa_cons (pe_comp (N':=["pattern"]) (n:=1) (fi:=[]) (g:=gName 0) rfl (cscope (defScope (top 39)) ["deck", "one", "other", "due", "kept", "first", "second", "line"] (by decide +kernel)) (pi_list (pv 2)) (fun s H fp=>pg_name (i:=0) (show (["pattern"]:List Str).Nodup by decide +kernel) rfl (Or.inl rfl) (.inr rfl)) (fun s H fp=>pifs_nil) (fun s H fp=>pe_callTy (r:=rListOf K) call_listO (by rfl) T.n_list bt_list (pa_cons (pv 0) (pa_nil)))) (pa_nil)))))
   (pss_cons (ps_for PassesOwn.never rfl (pi_list (pe_lst (pa_cons (pe_tup (pa_cons (pv 1) (pa_cons (pv 2) (pa_nil)))) (pa_cons (pe_tup (pa_cons (pv 2) (pa_cons (pv 1) (pa_nil)))) (pa_cons (pe_tup (pa_cons (pe_rev (pv 1)) (pa_cons (pe_rev (pv 2)) (pa_nil)))) (pa_nil)))))) (pg_tup rfl (pgs_cons (pg_name (i:=5) sc__law_right.nd rfl (Or.inl rfl)) (pgs_cons (pg_name (i:=6) sc__law_right.nd rfl (Or.inl rfl)) (pgs_nil)))) (pss_one (ps_if ((pw_or (pt_cmpR (op_ne) (pe_call G_parting_line hr (by rfl) T.parting_line.mg T.parting_line.fn.kp T.parting_line.bd .nil pass0 (pa_cons (pv 5) (pa_cons (pv 6) (pa_nil)))) (pv 3) (nomark _)) (pw_or1 (pt_cmpR (r:=rNeD K) (op_neD hr) (pv 4) (pe_tup (pa_cons (pv 1) (pa_cons (pv 2) (pa_nil)))) (nomark _)))).pt) (pss_one (ps_ret (pe_bl))) (pss_nil))))
   (pss_cons (ps_if ((pw_and (pt_cmpR (op_notN) (pv 3) (pe_non) (nomark _)) (pw_and1 (pt_cmpR (op_eq) (pe_call G__law_is_of hr (by rfl) T._law_is_of.mg T._law_is_of.fn.kp T._law_is_of.bd .nil pass0 (pa_cons (pv 1) (pa_cons (pv 3) (pa_nil)))) (pe_call G__law_is_of hr (by rfl) T._law_is_of.mg T._law_is_of.fn.kp T._law_is_of.bd .nil pass0 (pa_cons (pv 2) (pa_cons (pv 3) (pa_nil)))) (nomark _)))).pt) (pss_one (ps_ret (pe_bl))) (pss_nil))
   (pss_cons (ps_for PassesOwn.never rfl (pi_list (pe_call G__law_lines hr (by rfl) T._law_lines.mg T._law_lines.fn.kp T._law_lines.bd .nil pass0 (pa_cons (pv 0) (pa_cons (pe_int) (pa_nil))))) (pg_name (i:=7) sc__law_right.nd rfl (Or.inl rfl)) (pss_one (ps_if ((pw_and (pt_cmpR (op_isN) (pv 3) (pe_non) (nomark _)) (pw_and1 (pt_cmpR (op_ne) (pe_call G__law_is_of hr (by rfl) T._law_is_of.mg T._law_is_of.fn.kp T._law_is_of.bd .nil pass0 (pa_cons (pv 1) (pa_cons (pv 7) (pa_nil)))) (pe_call G__law_is_of hr (by rfl) T._law_is_of.mg T._law_is_of.fn.kp T._law_is_of.bd .nil pass0 (pa_cons (pv 2) (pa_cons (pv 7) (pa_nil)))) (nomark _)))).pt) (pss_one (ps_ret (pe_bl))) (pss_nil))))
   (pss_one (ps_ret (pe_cmpR (op_isN) (pe_call G_parting_line hr (by rfl) T.parting_line.mg T.parting_line.fn.kp T.parting_line.bd .nil pass0 (pa_cons (pv 1) (pa_cons (pe_rev (pv 1)) (pa_nil)))) (pe_non) (nomark _)))))))),?_⟩
  have w0:Same (wo d H) H:=wo_same
  refine ⟨_,rfl,_,rfl,a,b,xs,ys,P1,Q1,rfl,w0.seq hqa,hda.same w0,w0.seq hqb,hdb.same w0,hP,hQ,lP,lQ,fun o H1 s1 hpa=>?_⟩
  have w1:Same (wo d H) H1:=w0.trans s1
  have tH1:Same H1 H1:=Same.refl _
  refine ⟨_,rfl,a,rfl,⟨_,(w1.trans tH1).seq hqa⟩,fun KP hKP=>?_⟩
  refine comp_list (K:=K) (xs:=xs) (fun i acc σ H4=>(∃ u,σ=[u])∧Same H1 H4∧Dens K (wo KP H4) acc ((P1.take i).map patD)) upd_same ⟨⟨_,rfl⟩,Same.new hKP,.nil⟩ (fun i acc σ H4 _ _ q=>((w1.trans tH1).trans q.2.1).seq hqa) (fun i x acc σ H4 hx hKx q=>?_) (fun accA σ HA hKA q=>?_)
  ·obtain ⟨q0,s4,dn4⟩:=q
   apply ex_1 q0
   clear q0
   intro u
   obtain ⟨ps,hpi,hdp⟩:=dens_pat hda hx
   obtain ⟨a1,zs,rfl,hqa1,hda1⟩:=den_pat hdp
   have hi:=ge_len hpi
   have hal:acc.length≤8:=by rw [dn4.length,List.length_map,List.length_take];lia
   refine compY ⟨_,rfl,a1,zs,rfl,.inl (((w1.trans tH1).trans s4).seq hqa1),fun L hL=>?_⟩
   have sL:=Same.new (o:=.lst zs) hL
   have hLK:L≠KP:=(ne_of_none hKx hL).symm
   refine ⟨_,sL _ _ hKx,small (by lia),_,upd_same,⟨_,rfl⟩,snap_upd hKP (s4.trans sL),?_⟩
   rw [take_next hpi,wo_upd]
   refine (dn4.same (wo_mono sL)).append (.cons (.lst (xs:=zs) (.of (by rw [wo_at hLK];exact upd_same)) ?_) .nil)
   have b3:Same H1 (wo KP (upd H4 L (.lst zs))):=same_wo hKP (s4.trans sL)
   exact hda1.same ((w1.trans tH1).trans b3)
  obtain ⟨_,sA,dnA⟩:=q
  rw [hxl,List.take_of_length_le (Nat.le_refl _)] at dnA
  have tA':Dens K HA accA (P1.map patD):=dnA.same wo_same
  have tHA:Same H1 HA:=sA
  refine ⟨_,rfl,b,rfl,⟨_,(w1.trans tHA).seq hqb⟩,fun KQ hKQ=>?_⟩
  refine comp_list (K:=K) (xs:=ys) (fun i acc σ H4=>(∃ u,σ=[u])∧Same HA H4∧Dens K (wo KQ H4) acc ((Q1.take i).map patD)) upd_same ⟨⟨_,rfl⟩,Same.new hKQ,.nil⟩ (fun i acc σ H4 _ _ q=>((w1.trans tHA).trans q.2.1).seq hqb) (fun i x acc σ H4 hx hKx q=>?_) (fun accB σ HB hKB q=>?_)
  ·obtain ⟨q0,s4,dn4⟩:=q
   apply ex_1 q0
   clear q0
   intro u
   obtain ⟨ps,hpi,hdp⟩:=dens_pat hdb hx
   obtain ⟨a1,zs,rfl,hqa1,hda1⟩:=den_pat hdp
   have hi:=ge_len hpi
   have hal:acc.length≤8:=by rw [dn4.length,List.length_map,List.length_take];lia
   refine compY ⟨_,rfl,a1,zs,rfl,.inl (((w1.trans tHA).trans s4).seq hqa1),fun L hL=>?_⟩
   have sL:=Same.new (o:=.lst zs) hL
   have hLK:L≠KQ:=(ne_of_none hKx hL).symm
   refine ⟨_,sL _ _ hKx,small (by lia),_,upd_same,⟨_,rfl⟩,snap_upd hKQ (s4.trans sL),?_⟩
   rw [take_next hpi,wo_upd]
   refine (dn4.same (wo_mono sL)).append (.cons (.lst (xs:=zs) (.of (by rw [wo_at hLK];exact upd_same)) ?_) .nil)
   have b3:Same HA (wo KQ (upd H4 L (.lst zs))):=same_wo hKQ (s4.trans sL)
   exact hda1.same ((w1.trans tHA).trans b3)
  obtain ⟨_,sB,dnB⟩:=q
  rw [hyl,List.take_of_length_le (Nat.le_refl _)] at dnB
  have tB':Dens K HB accB (Q1.map patD):=dnB.same wo_same
  have tHB:Same H1 HB:=sA.trans sB
  refine ⟨(by show 2≤sizeLine;decide),fun KT hKT=>?_⟩
  have sT:Same HB (upd HB KT (.tup [.ref KP,.ref KQ])):=Same.new hKT
  have hKTT:(upd HB KT (.tup [.ref KP,.ref KQ])) KT=_:=upd_same
  generalize upd HB KT (.tup [.ref KP,.ref KQ])=H2 at sT hKTT ⊢
  have s2:Same H1 H2:=tHB.trans sT
  have w2:Same (wo d H) H2:=w1.trans s2
  have kept:Den K H2 (.ref KT) (.tuple [patsD P1,patsD Q1]):=.tup (.of hKTT) (.cons (.lst (.of (sT _ _ (sB _ _ hKA))) (tA'.same (sB.trans sT))) (.cons (.lst (.of (sT _ _ hKB)) (tB'.same sT)) .nil))
  refine ⟨_,rfl,_,rfl,(by show 2≤sizeLine;decide),fun p1 hp1=>?_⟩
  have u1:Same H2 (upd H2 p1 (.tup [.ref a,.ref b])):=Same.new hp1
  have hp11:(upd H2 p1 (.tup [.ref a,.ref b])) p1=_:=upd_same
  generalize upd H2 p1 (.tup [.ref a,.ref b])=H3 at u1 hp11 ⊢
  refine ⟨_,rfl,_,rfl,(by show 2≤sizeLine;decide),fun p2 hp2=>?_⟩
  have u2:Same H3 (upd H3 p2 (.tup [.ref b,.ref a])):=Same.new hp2
  have hp22:(upd H3 p2 (.tup [.ref b,.ref a])) p2=_:=upd_same
  generalize upd H3 p2 (.tup [.ref b,.ref a])=H4 at u2 hp22 ⊢
  have w4:Same (wo d H) H4:=w2.trans (u1.trans u2)
  refine ⟨_,rfl,a,xs,rfl,w4.seq hqa,fun ra hra=>?_⟩
  have u3:Same H4 (upd H4 ra (.lst xs.reverse)):=Same.new hra
  have hraa:(upd H4 ra (.lst xs.reverse)) ra=_:=upd_same
  generalize upd H4 ra (.lst xs.reverse)=H5 at u3 hraa ⊢
  have w5:Same (wo d H) H5:=w4.trans u3
  refine ⟨_,rfl,b,ys,rfl,w5.seq hqb,fun rb hrb=>?_⟩
  have u4:Same H5 (upd H5 rb (.lst ys.reverse)):=Same.new hrb
  have hrbb:(upd H5 rb (.lst ys.reverse)) rb=_:=upd_same
  generalize upd H5 rb (.lst ys.reverse)=H6 at u4 hrbb ⊢
  refine ⟨(by show 2≤sizeLine;decide),fun p3 hp3=>?_⟩
  have u5:Same H6 (upd H6 p3 (.tup [.ref ra,.ref rb])):=Same.new hp3
  have hp33:(upd H6 p3 (.tup [.ref ra,.ref rb])) p3=_:=upd_same
  generalize upd H6 p3 (.tup [.ref ra,.ref rb])=H7 at u5 hp33 ⊢
  refine ⟨(by show 3≤sizeLine;decide),fun L hL=>?_⟩
  have u6:Same H7 (upd H7 L (.lst [.ref p1,.ref p2,.ref p3])):=Same.new hL
  have hLL:(upd H7 L (.lst [.ref p1,.ref p2,.ref p3])) L=_:=upd_same
  generalize upd H7 L (.lst [.ref p1,.ref p2,.ref p3])=H8 at u6 hLL ⊢
  have u58:=u5.trans u6
  have u38:Same H3 H8:=u2.trans (u3.trans (u4.trans u58))
  have s28:Same H2 H8:=u1.trans u38
  have w8:Same (wo d H) H8:=w2.trans s28
  have kept8:=kept.same s28
  have dra:Dens K H8 xs.reverse (P1.reverse.map patD):=by rw [List.map_reverse];exact dens_rev (hda.same w8)
  have drb:Dens K H8 ys.reverse (Q1.reverse.map patD):=by rw [List.map_reverse];exact dens_rev (hdb.same w8)
  have tri:∀ (i:Nat) (x:V),([V.ref p1,.ref p2,.ref p3]:List V)[i]? = some x→∃ (t f g:Addr) (fs gs:List V) (F G:List (List Pt)),x = .ref t∧H8 t=some (.tup [.ref f,.ref g])∧SqL K H8 f fs∧Dens K H8 fs (F.map patD)∧SqL K H8 g gs∧Dens K H8 gs (G.map patD)∧PsOk F∧PsOk G∧F.length≤9∧G.length≤9∧∀ vs,knows F vs≠knows G vs↔knows P1 vs≠knows Q1 vs:=fun i x hx=>by
   match i,hx with
   | 0,hx=>cases hx;exact ⟨p1,a,b,xs,ys,P1,Q1,rfl,u38 _ _ hp11,w8.seq hqa,hda.same w8,w8.seq hqb,hdb.same w8,hP,hQ,by lia,by lia,fun _=>Iff.rfl⟩
   | 1,hx=>cases hx;exact ⟨p2,b,a,ys,xs,Q1,P1,rfl,(u3.trans (u4.trans u58)) _ _ hp22,w8.seq hqb,hdb.same w8,w8.seq hqa,hda.same w8,hQ,hP,by lia,by lia,fun _=>⟨Ne.symm,Ne.symm⟩⟩
   | 2,hx=>
    cases hx
    refine ⟨p3,ra,rb,_,_,P1.reverse,Q1.reverse,rfl,u6 _ _ hp33,.of ((u4.trans u58) _ _ hraa),dra,.of (u58 _ _ hrbb),drb,fun p hp=>hP p (List.mem_reverse.mp hp),fun p hp=>hQ p (List.mem_reverse.mp hp),by rw [List.length_reverse];lia,by rw [List.length_reverse];lia,fun vs=>?_⟩
    rw [knows_perm (a:=P1.reverse) (b:=P1) (fun x=>List.mem_reverse) vs,knows_perm (a:=Q1.reverse) (b:=Q1) (fun x=>List.mem_reverse) vs]
  have fl:scal (oS o) (oS o)=true:=by cases o <;> rfl
  refine ⟨L,rfl,⟨_,.of hLL⟩,?_⟩
  refine for_list (K:=K) (xs:=[.ref p1,.ref p2,.ref p3]) (fun i σ H9=>(∃ v5 v6 v7,σ=[some (.ref d),some (.ref a),some (.ref b),some (oS o),some (.ref KT),v5,v6,v7])∧Same H8 H9) ⟨⟨_,_,_,rfl⟩,Same.refl _⟩ (fun i σ H9 _ q=>.of (q.2 _ _ hLL)) (fun i x σ H9 hx q=>?_) (fun σ H9 q=>?_)
  ·obtain ⟨q0,s9⟩:=q
   apply ex_3 q0
   clear q0
   intro v5 v6 v7
   obtain ⟨t,f,g,fs,gs,F,G,rfl,ht,hf,hdf,hg,hdg,oF,oG,lF,lG,hiff⟩:=tri i x hx
   refine ⟨t,_,rfl,.of (s9 _ _ ht),rfl,_,_,rfl,_,_,rfl,rfl,?_⟩
   refine ⟨_,rfl,_,rfl,f,g,fs,gs,F,G,rfl,s9.seq hf,hdf.same s9,s9.seq hg,hdg.same s9,oF,oG,lF,lG,fun o' H10 s10 hp10=>?_⟩
   have eo:o' = o:=parts_unique hp10 hpa hiff
   subst eo
   refine ⟨_,rfl,fl,_,rfl,?_⟩
   rw [decide_eq_true rfl]
   refine iteF ?_
   have w10:Same (wo d H) H10:=w8.trans (s9.trans s10)
   refine ⟨_,rfl,_,rfl,_,rfl,(by show 2≤sizeLine;decide),fun t2 ht2=>?_⟩
   have s11:Same H10 (upd H10 t2 (.tup [.ref a,.ref b])):=Same.new ht2
   have w11:=w10.trans s11
   refine ⟨_,_,kept8.same (s9.trans (s10.trans s11)),.tup (.of upd_same) (.cons (.lst (w11.seq hqa) (hda.same w11)) (.cons (.lst (w11.seq hqb) (hdb.same w11)) .nil)),dep_two P1 Q1,_,rfl,?_⟩
   show if (!PyData.eqv (.tuple [patsD P1,patsD Q1]) (.tuple [patsD P1,patsD Q1]))=true then _ else _
   rw [eqv_two (fun ps hp=>(hP ps hp).1) (fun ps hp=>(hQ ps hp).1)]
   exact iteF ⟨⟨_,_,_,rfl⟩,s9.trans (s10.trans s11)⟩
  ·obtain ⟨q0,s9⟩:=q
   apply ex_3 q0
   clear q0
   intro v5 v6 v7
   have w9:Same (wo d H) H9:=w8.trans s9
   have pok:∀ ps∈P1,POk ps:=fun ps hp=>pok_of (hP ps hp).1 (hP ps hp).2.2
   have qok:∀ ps∈Q1,POk ps:=fun ps hp=>pok_of (hQ ps hp).1 (hQ ps hp).2.2
   have last:∀ (H':Hp) (v7:Option V),Same (wo d H) H'→tRet (tOp (fun x y H Q=>y=V.non∧Q (V.bl (decide (x=V.non))) H) (tCall (sp_parting_line K) [] E0 (tCons (tVar 1) (tCons (tRev K (tVar 1)) tNil))) (tC V.non)) { nx:=fun x H'=>Q V.non H',rt:=Q } [some (.ref d),some (.ref a),some (.ref b),some (oS o),some (.ref KT),v5,v6,v7] H':=fun H' v7 w'=>by
    refine ⟨_,rfl,_,rfl,a,xs,rfl,w'.seq hqa,fun rr hrr=>?_⟩
    have wr:=w'.trans (Same.new (o:=.lst xs.reverse) hrr)
    refine ⟨a,rr,xs,xs.reverse,P1,P1.reverse,rfl,wr.seq hqa,hda.same wr,.of upd_same,by rw [List.map_reverse];exact dens_rev (hda.same wr),hP,fun p hp=>hP p (List.mem_reverse.mp hp),by lia,by rw [List.length_reverse];lia,fun o2 H12 s12 hp12=>?_⟩
    have e2:o2=none:=by
     cases o2 with
     | none=>rfl
     | some ws=>exact (hp12.pa (knows_perm (fun x=>List.mem_reverse.symm) ws)).elim
    subst e2
    exact ⟨rfl,k H12 (wr.trans s12)⟩
   have hdk9:Dk H9 d n:=hdk.same (s1.trans (s2.trans (s28.trans s9)))
   have hd0:(wo d H) d=none:=wo_self
   cases o with
   | none=>
    have hkn:∀ vs,knows P1 vs=knows Q1 vs:=hpa
    refine ⟨_,rfl,rfl,_,rfl,iteF (iteF ?_)⟩
    refine ⟨_,rfl,d,6,n,rfl,hdk9,by lia,by decide,by decide,fun D ls H10 hD s10 dk10 hDl hls hll=>?_⟩
    have w10:Same (wo d H) H10:=(same_wo hd0 w9).trans s10
    refine ⟨D,rfl,⟨_,.of hDl⟩,?_⟩
    refine for_list (K:=K) (xs:=ls.map V.str) (fun i σ H11=>(∃ v7,σ=[some (.ref d),some (.ref a),some (.ref b),some (oS none),some (.ref KT),v5,v6,v7])∧Same H10 H11) ⟨⟨_,rfl⟩,Same.refl _⟩ (fun i σ H11 _ q=>.of (q.2 _ _ hDl)) (fun i x σ H11 hx q=>?_) (fun σ H11 q=>?_)
    ·obtain ⟨q0,s11⟩:=q
     apply ex_1 q0
     clear q0
     intro v7
     obtain ⟨z,hz,rfl⟩:=strs_at hx
     obtain ⟨ws,hln⟩:=hls z (List.mem_of_getElem? hz)
     have hlo:=hln.ok (by decide)
     have hsp:=hln.split
     have hws:Words (Txt.split z " "):=by rw [hsp];exact fun w hw=>(hln.wd w hw).word
     have w11:=w10.trans s11
     refine ⟨_,rfl,rfl,_,rfl,iteT ?_⟩
     refine ⟨_,rfl,_,rfl,a,xs,P1,z,rfl,w11.seq hqa,hda.same w11,pok,by lia,Nat.le_trans hlo.2 (by decide),hlo.1,hws,fun H12 s12=>?_⟩
     have w12:=w11.trans s12
     refine ⟨_,rfl,_,rfl,b,ys,Q1,z,rfl,w12.seq hqb,hdb.same w12,qok,by lia,Nat.le_trans hlo.2 (by decide),hlo.1,hws,fun H13 s13=>⟨rfl,_,rfl,?_⟩⟩
     rw [hkn,decide_eq_true rfl]
     exact iteF ⟨⟨_,rfl⟩,s11.trans (s12.trans s13)⟩
    ·obtain ⟨q0,s11⟩:=q
     apply ex_1 q0
     clear q0
     intro v7
     exact last H11 v7 (w10.trans s11)
   | some ws0=>
    have hpl:PLn P1 Q1 ws0:=hpa
    obtain ⟨l1,l2,l3⟩:=line_ok hpl.wd hpl.bd hpl.ne hpl.ln
    have hws0:Words (Txt.split (Txt.join " " ws0) " "):=by rw [l1];exact hpl.wd
    refine ⟨_,rfl,rfl,_,rfl,iteT ?_⟩
    refine ⟨_,rfl,_,rfl,a,xs,P1,Txt.join " " ws0,rfl,w9.seq hqa,hda.same w9,pok,by lia,l3,l2,hws0,fun H10 s10=>?_⟩
    have w10:=w9.trans s10
    refine ⟨_,rfl,_,rfl,b,ys,Q1,Txt.join " " ws0,rfl,w10.seq hqb,hdb.same w10,qok,by lia,l3,l2,hws0,fun H11 s11=>⟨rfl,_,rfl,?_⟩⟩
    rw [l1,decide_eq_false (fun e=>hpl.pa (V.bl.inj e))]
    refine iteF ?_
    have w11:=w10.trans s11
    refine ⟨_,rfl,d,6,n,rfl,hdk9.same (s10.trans s11),by lia,by decide,by decide,fun D ls H12 hD s12 dk12 hDl hls hll=>?_⟩
    have w12:Same (wo d H) H12:=(same_wo hd0 w11).trans s12
    refine ⟨D,rfl,⟨_,.of hDl⟩,?_⟩
    refine for_list (K:=K) (xs:=ls.map V.str) (fun i σ H13=>(∃ v7,σ=[some (.ref d),some (.ref a),some (.ref b),some (oS (some ws0)),some (.ref KT),v5,v6,v7])∧Same H12 H13) ⟨⟨_,rfl⟩,Same.refl _⟩ (fun i σ H13 _ q=>.of (q.2 _ _ hDl)) (fun i x σ H13 hx q=>?_) (fun σ H13 q=>?_)
    ·obtain ⟨q0,s13⟩:=q
     apply ex_1 q0
     clear q0
     intro v7
     exact ⟨_,rfl,rfl,_,rfl,iteF (iteF ⟨⟨_,rfl⟩,s13⟩)⟩
    ·obtain ⟨q0,s13⟩:=q
     apply ex_1 q0
     clear q0
     intro v7
     exact last H13 v7 (w12.trans s13)
end
end K10
namespace K10
open PySem L2 LG
section
variable {P:Program}{w:World}{K:PySem.W.Frag}{mg:Str→Option Value}{base:Heap}{A:Ad}
def rd_law_0 (K:PySem.W.Frag):TS:=tAsg (tOp (rIxL K) (tLst (tCons (tTup (tCons (tC (V.str (PySem.Str.ofString "hole"))) (tCons (tC (V.str (PySem.Str.ofString "any"))) tNil))) (tCons (tTup (tCons (tC (V.str (PySem.Str.ofString "hole"))) (tCons (tC (V.str (PySem.Str.ofString "number"))) tNil))) (tCons (tTup (tCons (tC (V.str (PySem.Str.ofString "word"))) (tCons (tCall (sp__law_word K) [] E0 (tCons (tVar 2) tNil)) tNil))) tNil)))) (tCall (sp__law_pick K) [] E0 (tCons (tVar 2) (tCons (tC (V.int 3)) tNil)))) (gSub (tVar 6) (tVar 7) rSetL)
def rd_law_1 (K:PySem.W.Frag):TS:=tSeq (tAsg (tCall (sp__law_pick K) [] E0 (tCons (tVar 2) (tCons (tCB (rLenS K) (tCons (tVar 6) tNil)) tNil))) (gName 7)) (rd_law_0 K)
def rd_law_2 (K:PySem.W.Frag):TS:=tSeq (tAsg (tOp (rIxL K) (tVar 4) (tCall (sp__law_pick K) [] E0 (tCons (tVar 2) (tCons (tCB (rLenS K) (tCons (tVar 4) tNil)) tNil)))) (gName 6)) (rd_law_1 K)
def rd_law_3 (K:PySem.W.Frag):TS:=tAsg (tSl (rSlL K) (tOp (rCatS K) (tVar 4) (tLst (tCons (tComp (iList K (tVar 8)) (gName 0) tYes (tTup (tCons (tC (V.str (PySem.Str.ofString "word"))) (tCons (tVar 0) tNil))) 1 []) tNil))) tNoPart (tPart (tC (V.int 8)))) (gName 4)
def rd_law_4 (K:PySem.W.Frag):TS:=tSeq (tAsg (tComp (iList K (tOp (rIxL K) (tVar 3) (tC (V.int 0)))) (gName 0) tYes (tIf (tTest (tOp rEq (tOp (rIxT K) (tVar 0) (tC (V.int 0))) (tC (V.str (PySem.Str.ofString "word"))))) (tOp (rIxT K) (tVar 0) (tC (V.int 1))) (tC (V.str (PySem.Str.ofString "7")))) 1 []) (gName 8)) (rd_law_3 K)
def rd_law_5 (K:PySem.W.Frag):TS:=tIfS (tNot (tB (tCall (sp__law_right K) [] E0 (tCons (tVar 2) (tCons (tVar 3) (tCons (tVar 4) tNil)))))) (tRet (tC (V.bl Bool.false))) (tNext)
def rd_law_6 (K:PySem.W.Frag):TS:=tSeq (tIfS (tAnd (tTest (tOp (rNeD K) (tVar 3) (tLst tNil))) (tTest (tOp rEq (tCall (sp__law_pick K) [] E0 (tCons (tVar 2) (tCons (tC (V.int 3)) tNil))) (tC (V.int 0))))) (rd_law_4 K) (tNext)) (rd_law_5 K)
def rd_law_7 (K:PySem.W.Frag):TS:=tSeq (tFor (iRng1 (tCons (tOp (rI CMul fun i j=>V.int (i * j)) (tCall (sp__law_pick K) [] E0 (tCons (tVar 2) (tCons (tC (V.int 3)) tNil))) (tCB (fun xs H Q=>(∃ i,xs=[V.int i]∧Q (V.int i) H)∨∃ k,xs=[V.bl k]∧Q (V.int (if k=Bool.true then 1 else 0)) H) (tCons (tOp (rNeD K) (tVar 4) (tLst tNil)) tNil))) tNil)) (gName 5) (rd_law_2 K)) (rd_law_6 K)
def rd_law_8 (K:PySem.W.Frag):TS:=tSeq (tAsg (tOp (rIxL K) (tLst (tCons (tCall (sp__law_patterns K) [] E0 (tCons (tVar 2) tNil)) (tCons (tComp (iList K (tVar 3)) (gName 0) tYes (tCB (rListOf K) (tCons (tVar 0) tNil)) 1 []) tNil))) (tCall (sp__law_pick K) [] E0 (tCons (tVar 2) (tCons (tC (V.int 2)) tNil)))) (gName 4)) (rd_law_7 K)
def rd_law_9 (K:PySem.W.Frag):TS:=tSeq (tAsg (tCall (sp__law_patterns K) [] E0 (tCons (tVar 2) tNil)) (gName 3)) (rd_law_8 K)
def rd_law_10 (K:PySem.W.Frag):TS:=tSeq (tAsg (tCall (sp__law_deck K) [] E0 (tCons (tVar 1) (tCons (tC (V.int 0)) tNil))) (gName 2)) (rd_law_9 K)
def rd_law_11 (K:PySem.W.Frag):TS:=tSeq (tFor (iList K (tSl (rSlL K) (tOp (rCatS K) (tVar 0) (tLst (tCons (tC (V.int 0)) tNil))) tNoPart (tPart (tC (V.int 3))))) (gName 1) (rd_law_10 K)) (tRet (tC (V.bl Bool.true)))
def Sh10 (σ:St):Prop:=∃ u0 u1 u2 u3 u4 u5 u6 u7 u8,σ=[u0,u1,u2,u3,u4,u5,u6,u7,u8]
structure PsAt (K:PySem.W.Frag) (H:Hp) (a:Addr) (pss:List (List Pt)):Prop where
 lst:∃ xs,SqL K H a xs∧Dens K H xs (pss.map patD)
 ok:PsOk pss
theorem PsAt.same {H H':Hp}{a:Addr}{pss:List (List Pt)} (h:PsAt K H a pss) (s:Same H H'):PsAt K H' a pss:=by
 obtain ⟨⟨xs,h1,h2⟩,h3⟩:=h
 exact ⟨⟨xs,s.seq h1,h2.same s⟩,h3⟩
theorem pl_ps {H:Hp}{d F:Addr}{n:Nat}{as:List Addr}{pss:List (List Pt)} (pl:PL K H as pss) (dk:Dk H d n) (hda:d∉as) (hdF:d≠F) (hF:H F=some (.lst (as.map V.ref))) (ok:PsOk pss):PsAt K (wo d H) F pss:=by
 refine ⟨⟨_,.of (by rw [wo_at hdF.symm];exact hF),?_⟩,ok⟩
 refine (pl.keep (H':=wo d H) (fun c hc=>wo_at fun (e:c=d)=>hda (e ▸ hc)) (tO_keep fun c o n hc=>?_)).dens
 obtain ⟨zs,hd⟩:=dk.lst
 have:c≠d:=fun e=>by rw [e,hd] at hc;cases hc;exact n _ rfl
 rw [wo_at this];exact hc
theorem law_5 {X:Ends}{H:Hp}{d a b:Addr}{n:Nat}{P1 Q1:List (List Pt)}{u0 u1 u5 u6 u7 u8:Option V} (hdk:Dk H d n) (hn:n<600000) (ha:PsAt K (wo d H) a P1) (hb:PsAt K (wo d H) b Q1) (lP:P1.length≤6) (lQ:Q1.length≤7)
  (hX:∀ σ H',Sh10 σ→Same (wo d H) H'→X.nx σ H'):rd_law_5 K X [u0,u1,some (.ref d),some (.ref a),some (.ref b),u5,u6,u7,u8] H:=by
 obtain ⟨⟨xs,hqa,hda⟩,oka⟩:=ha
 obtain ⟨⟨ys,hqb,hdb⟩,okb⟩:=hb
 refine ⟨_,rfl,_,rfl,_,rfl,d,a,b,n,xs,ys,P1,Q1,rfl,hdk,by lia,hqa,hda,hqb,hdb,oka,okb,by lia,by lia,fun H' s'=>⟨_,rfl,iteF (hX _ _ ⟨_,_,_,_,_,_,_,_,_,rfl⟩ s')⟩⟩
def wd7:Pt→Str
 | .word w=>w
 | .hole _=> "7"
theorem w7:wordB "7" = true∧("7" : Str).length≤500∧PyData.strOk "7" = true:=by decide +kernel
theorem wd7_ok {p:Pt} (h:PtW p):PtW (.word (wd7 p)):=by
 cases p with
 | word w=>exact h
 | hole k=>exact w7
theorem law_6 {X:Ends}{H:Hp}{d a F:Addr}{n:Nat}{as:List Addr}{P1 Q1:List (List Pt)}{u0 u1 u5 u6 u7 u8:Option V} (hdk:Dk H d n) (hn:n<500000) (ha:PsAt K (wo d H) a P1) (lP:P1.length≤6) (hF:H F=some (.lst (as.map V.ref))) (hdF:d≠F) (hda:d∉as) (pl:PL K H as Q1) (okQ:PsOk Q1) (lQ:Q1.length≤6)
  (hX:∀ σ H',Sh10 σ→Same (wo d H) H'→X.nx σ H'):rd_law_6 K X [u0,u1,some (.ref d),some (.ref a),some (.ref F),u5,u6,u7,u8] H:=by
 have hal:=pl.len
 obtain ⟨⟨xs,hqa,hdna⟩,oka⟩:=id ha
 have w0:Same (wo d H) H:=wo_same
 refine ⟨_,rfl,Nat.zero_le _,fun L hL=>?_⟩
 have sL:Same H (upd H L (.lst [])):=Same.new hL
 refine ⟨_,_,.lst ((w0.trans sL).seq hqa) (hdna.same (w0.trans sL)),.lst (.of upd_same) .nil,dep_pats _,_,rfl,?_⟩
 rw [pats_nil]
 have dk1:=hdk.same sL
 have s1:Same (wo d H) (upd H L (.lst [])):=w0.trans sL
 have hF1:=sL _ _ hF
 have pl1:=pl.up sL
 generalize upd H L (.lst [])=H1 at dk1 s1 hF1 pl1 ⊢
 have hwd:(wo d H) d=none:=wo_self
 have fin:∀ (H':Hp) (n':Nat) (u8:Option V),n' < 600000→Dk H' d n'→Same (wo d H) H'→H' F=some (.lst (as.map V.ref))→PL K H' as Q1→rd_law_5 K X [u0,u1,some (.ref d),some (.ref a),some (.ref F),u5,u6,u7,u8] H':=fun H' n' u8 hn' dk' s' hF' pl'=>by
  have sw:Same (wo d H) (wo d H'):=same_wo hwd s'
  exact law_5 dk' hn' (ha.same sw) (pl_ps pl' dk' hda hdF hF' okQ) lP (by lia) fun σ H2 sh s2=>hX σ H2 sh (sw.trans s2)
 cases P1 with
 | nil=>exact iteF (iteF (fin H1 n _ (by lia) dk1 s1 hF1 pl1))
 | cons p0 P1=>
  refine iteT ⟨_,rfl,d,3,n,rfl,dk1,by lia,by decide,by decide,fun r H2 s2 dk2 _ _=>⟨rfl,_,rfl,?_⟩⟩
  have hF2:H2 F=_:=keepN s2 hF1 hdF
  have pl2:=pl1.pick dk1 hda s2
  have s02:Same (wo d H) H2:=(same_wo hwd s1).trans s2
  refine ite2 (fun _=>?_) (fun _=>fin H2 (n+1) _ (by lia) dk2 s02 hF2 pl2)
  have hx0:∃ x,xs[0]? = some x:=by
   cases xs with
   | nil=>have:=hdna.length;simp at this
   | cons x r=>exact ⟨x,rfl⟩
  obtain ⟨x,hx⟩:=hx0
  obtain ⟨ps,hps,hdp⟩:=dens_pat hdna hx
  cases hps
  obtain ⟨c,ys,rfl,hqc,hdc⟩:=den_pat hdp
  obtain ⟨okp,nep,lep⟩:=oka p0 (.head _)
  have hyl:ys.length=p0.length:=by rw [hdc.length,List.length_map]
  refine ⟨_,rfl,a,xs,0,_,rfl,rfl,s02.seq hqa,atI_nat (j:=0) hx,c,rfl,⟨_,s02.seq hqc⟩,fun W hW=>?_⟩
  refine comp_list (K:=K) (xs:=ys) (fun i acc σ H4=>(∃ u,σ=[u])∧Same H2 H4∧acc=((p0.take i).map wd7).map V.str) upd_same ⟨⟨_,rfl⟩,Same.new hW,rfl⟩ (fun i acc σ H4 _ _ q=>(s02.trans q.2.1).seq hqc) (fun i y acc σ H4 hy hWx q=>?_) (fun acc σ H4 hW4 q=>?_)
  ·obtain ⟨q0,s4,rfl⟩:=q
   apply ex_1 q0
   clear q0
   intro u
   have hiy:=ge_len hy
   obtain ⟨e,he,hde⟩:=hdc.get hy
   rw [List.getElem?_map] at he
   obtain ⟨p,hp,rfl⟩:∃ p,p0[i]? = some p∧e=p.dat:=by
    cases e2:p0[i]? with
    | none=>rw [e2] at he;cases he
    | some p=>rw [e2] at he;cases he;exact ⟨p,rfl,rfl⟩
   obtain ⟨t,x1,y1,rfl,hqt,_,_,hxy⟩:=den_pt hde
   have hq4:=(s02.trans s4).seqT hqt
   have et:(p0.take (i+1)).map wd7=(p0.take i).map wd7++[wd7 p]:=by rw [List.take_add_one,hp];simp
   have hsm:(((p0.take i).map wd7).map V.str).length+1≤20:=by simp only [List.length_map,List.length_take];lia
   refine compY ⟨_,rfl,t,_,0,_,rfl,rfl,hq4,rfl,rfl,_,rfl,?_⟩
   cases p with
   | word y=>
    obtain ⟨rfl,rfl⟩:=hxy
    rw [decide_eq_true rfl]
    refine iteT ⟨_,rfl,t,_,1,_,rfl,rfl,hq4,rfl,_,hWx,small (by lia),_,upd_same,⟨_,rfl⟩,snap_upd hW s4,?_⟩
    rw [et,List.map_append]
    rfl
   | hole m=>
    obtain ⟨rfl,rfl⟩:=hxy
    rw [decide_eq_false (by decide)]
    refine iteF ⟨_,hWx,small (by lia),_,upd_same,⟨_,rfl⟩,snap_upd hW s4,?_⟩
    rw [et,List.map_append]
    rfl
  ·obtain ⟨_,s4,rfl⟩:=q
   rw [hyl,List.take_of_length_le (Nat.le_refl _)] at hW4
   have hwl:(p0.map wd7).length=p0.length:=List.length_map _
   have hwo:∀ w∈p0.map wd7,PtW (.word w):=fun w hw=>by
    obtain ⟨p,hp,rfl⟩:=List.mem_map.mp hw
    exact wd7_ok (okp p hp)
   generalize p0.map wd7=ws at hW4 hwl hwo
   have hF4:=s4 _ _ hF2
   have pl4:=pl2.up s4
   have dk4:=dk2.same s4
   have s04:=s02.trans s4
   refine ⟨_,rfl,_,rfl,W,rfl,⟨_,.of hW4⟩,fun M hM=>?_⟩
   refine comp_list (K:=K) (xs:=ws.map V.str) (fun i acc σ H5=>(∃ u,σ=[u])∧Same H4 H5∧Dens K (tO H5) acc (((ws.take i).map Pt.word).map Pt.dat)) upd_same ⟨⟨_,rfl⟩,Same.new hM,.nil⟩ (fun i acc σ H5 _ _ q=>.of (q.2.1 _ _ hW4)) (fun i y acc σ H5 hy hMx q=>?_) (fun acc σ H5 hM5 q=>?_)
   ·obtain ⟨q0,s5,dn5⟩:=q
    apply ex_1 q0
    clear q0
    intro u
    obtain ⟨w,hw,rfl⟩:=strs_at hy
    have hiw:=ge_len hw
    have hwk:=hwo w (List.mem_of_getElem? hw)
    have hal5:acc.length+1≤20:=by rw [dn5.length,List.length_map,List.length_map,List.length_take];lia
    refine compY ⟨_,rfl,(by show 2≤sizeLine;decide),fun t ht=>?_⟩
    have st:Same H5 (upd H5 t (.tup [.str "word",.str w])):=Same.new ht
    have pt:PtAt (upd H5 t (.tup [.str "word",.str w])) (.ref t) (.word w):=⟨t,rfl,upd_same⟩
    have hM6:=st _ _ hMx
    refine ⟨_,hM6,small (by lia),_,upd_same,⟨_,rfl⟩,snap_upd hM (s5.trans st),?_⟩
    have et:(ws.take (i+1)).map Pt.word=(ws.take i).map Pt.word++[.word w]:=by rw [List.take_add_one,hw];simp
    rw [et,List.map_append]
    have tt:=tO_upd (ys:=acc++[.ref t]) hM6
    exact (dn5.same ((tO_up st).trans tt)).append (.cons ((pt.den hwk).same tt) .nil)
   ·obtain ⟨_,s5,dn5⟩:=q
    rw [List.length_map,List.take_of_length_le (Nat.le_refl _)] at dn5
    have hF5:=s5 _ _ hF4
    have pl5:=pl4.up s5
    have dk5:=dk4.same s5
    have s05:=s04.trans s5
    have hMa:M∉as:=fun z=>by
     obtain ⟨zs,e⟩:=pl4.mem M z
     rw [hM] at e;cases e
    have hdM:d≠M:=dk4.ne hM
    have pl6:=pl5.snoc hM5 dn5 hMa
    refine ⟨(by show 1≤sizeLine;decide),fun N hN=>?_⟩
    have sN:Same H5 (upd H5 N (.lst [.ref M])):=Same.new hN
    have hNN:(upd H5 N (.lst [.ref M])) N=some (.lst [.ref M]):=upd_same
    refine ⟨F,N,_,_,rfl,rfl,.of (sN _ _ hF5),.of hNN,Nat.le_trans (show _≤100 by rw [List.length_map,List.length_singleton];lia) (by decide),fun C hC=>?_⟩
    have sC:Same (upd H5 N (.lst [.ref M])) (upd (upd H5 N (.lst [.ref M])) C (.lst (as.map V.ref++[.ref M]))):=Same.new hC
    have e1:as.map V.ref++[.ref M]=(as++[M]).map V.ref:=by simp
    refine ⟨8,rfl,C,_,rfl,.of upd_same,fun R hR=>?_⟩
    have sR:=Same.new (o:=.lst (cutV (as.map V.ref++[.ref M]) none (some 8))) hR
    have s57:=sN.trans (sC.trans sR)
    have e8:cutV (as.map V.ref++[.ref M]) none (some 8)=(as++[M]).map V.ref:=by
     rw [cut_take (by decide),List.take_of_length_le,e1]
     rw [List.length_append,List.length_map,List.length_singleton];show _≤8;lia
    have hRR:(upd (upd (upd H5 N (.lst [.ref M])) C (.lst (as.map V.ref++[.ref M]))) R (.lst (cutV (as.map V.ref++[.ref M]) none (some 8)))) R=some (.lst ((as++[M]).map V.ref)):=by rw [upd_same,e8]
    have hdR:d≠R:=(dk5.same (sN.trans sC)).ne hR
    generalize upd (upd (upd H5 N (.lst [.ref M])) C (.lst (as.map V.ref++[.ref M]))) R (.lst (cutV (as.map V.ref++[.ref M]) none (some 8)))=H7 at s57 hRR ⊢
    have dk7:=dk5.same s57
    have s07:=s05.trans s57
    have sw:Same (wo d H) (wo d H7):=same_wo hwd s07
    have hda6:d∉as++[M]:=fun z=>by
     rcases List.mem_append.mp z with z | z
     ·exact hda z
     ·exact hdM (List.mem_singleton.mp z)
    refine law_5 dk7 (by lia) (ha.same sw) (pl_ps (pl6.up s57) dk7 hda6 hdR hRR (psok_snoc okQ (fun p hp=>?_) (fun e=>?_) (by rw [List.length_map];lia))) lP (by rw [List.length_append,List.length_singleton];lia) fun σ H2 sh s2=>hX σ H2 sh (sw.trans s2)
    ·obtain ⟨w,hw,rfl⟩:=List.mem_map.mp hp
     exact hwo w hw
    ·have:=congrArg List.length e
     rw [List.length_map,hwl] at this
     exact nep (List.length_eq_zero_iff.mp this)
def I10 (K:PySem.W.Frag) (B:Hp) (d a F:Addr) (as:List Addr) (m:Nat) (u0 u1 u8:Option V) (n i:Nat) (σ:St) (H5:Hp):Prop:=(∃ u v w,σ=[u0,u1,some (.ref d),some (.ref a),some (.ref F),u,v,w,u8])∧Same B H5∧Dk H5 d (n+20 * i)∧H5 F=some (.lst (as.map V.ref))∧∃ Q1,PL K H5 as Q1∧PsOk Q1∧Q1.length=m
theorem law_7 {X:Ends}{B H:Hp}{d a F:Addr}{n:Nat}{as:List Addr}{P1 Q1:List (List Pt)}{u0 u1 u5 u6 u7 u8:Option V} (hdk:Dk H d n) (hn:n<400000) (hB:B d=none) (ha:PsAt K B a P1) (lP:P1.length≤6) (sB:Same B H) (hF:H F=some (.lst (as.map V.ref))) (hdF:d≠F) (hfr:∀ c∈as,B c=none) (hda:d∉as) (hFa:F∉as) (pl:PL K H as Q1) (okQ:PsOk Q1) (lQ:Q1.length≤6)
  (hX:∀ σ H',Sh10 σ→Same B H'→X.nx σ H'):rd_law_7 K X [u0,u1,some (.ref d),some (.ref a),some (.ref F),u5,u6,u7,u8] H:=by
 have hal:=pl.len
 refine ⟨_,rfl,d,3,n,rfl,hdk,by lia,by decide,by decide,fun r H1 s1 dk1 r0 r1=>?_⟩
 have hF1:H1 F=_:=keepN s1 hF hdF
 have pl1:=pl.pick hdk hda s1
 have sB1:Same B H1:=(same_wo hB sB).trans s1
 refine ⟨_,rfl,Nat.zero_le _,fun L hL=>?_⟩
 have sL:Same H1 (upd H1 L (.lst [])):=Same.new hL
 refine ⟨_,_,.lst (.of (sL _ _ hF1)) (pl1.dens.same sL),.lst (.of upd_same) .nil,dep_pats _,.inr ⟨_,rfl,?_⟩⟩
 rw [pats_nil]
 have dk2:=dk1.same sL
 have sB2:=sB1.trans sL
 have hF2:=sL _ _ hF1
 have pl2:=pl1.up sL
 show rI CMul _ _ _ (upd H1 L (.lst [])) _
 generalize upd H1 L (.lst [])=H2 at dk2 sB2 hF2 pl2 ⊢
 have hm:∃ m:Int,r * (if (!Q1.isEmpty)=true then (1:Int) else 0)=m∧0≤m∧m≤2∧(0<m→0<Q1.length):=by
  cases Q1 with
  | nil=>exact ⟨0,by simp,by decide,by decide,fun h=>absurd h (by decide)⟩
  | cons p q=>exact ⟨r,by simp,r0,by lia,fun _=>by simp⟩
 obtain ⟨m,em,m0,m2,mp⟩:=hm
 refine ⟨_,_,rfl,rfl,.inl ⟨by lia,by lia⟩,?_⟩
 refine ⟨m,congrArg (fun z=>[V.int z]) em,by lia,by lia,?_⟩
 refine for_range (I10 K B d a F as Q1.length u0 u1 u8 (n+1)) ⟨⟨_,_,_,rfl⟩,sB2,dk2.mono (by lia),hF2,Q1,pl2,okQ,rfl⟩ (fun i σ H3 hi q=>?_) (fun σ H3 q=>?_)
 ·obtain ⟨⟨u,v,w,rfl⟩,sB3,dk3,hF3,Q2,pl3,ok3,l3⟩:=q
  have hpos:0<Q1.length:=mp (by lia)
  have hal3:=pl3.len
  refine ⟨_,rfl,_,rfl,_,rfl,F,_,rfl,.inl (.of hF3),d,_,_,rfl,dk3,by lia,by rw [List.length_map];lia,by rw [List.length_map];lia,fun rk H4 s4 dk4 k0 k1=>?_⟩
  rw [List.length_map] at k1
  obtain ⟨j,rfl⟩:=Int.eq_ofNat_of_zero_le k0
  have hj:j<as.length:=by lia
  have hcj:as[j]? = some as[j]:=List.getElem?_eq_getElem hj
  have hcm:as[j]∈as:=List.getElem_mem hj
  generalize as[j]=c at hcj hcm
  have hF4:H4 F=_:=keepN s4 hF3 hdF
  have pl4:=pl3.pick dk3 hda s4
  have sB4:Same B H4:=(same_wo hB sB3).trans s4
  obtain ⟨ys,ps,hc4,hpj,dn4⟩:=pl4.at hcj
  have hdc:d≠c:=fun e=>hda (e ▸ hcm)
  have hFc:F≠c:=fun e=>hFa (e ▸ hcm)
  obtain ⟨p1,p2,p3⟩:=ok3 ps (List.mem_of_getElem? hpj)
  have hyl:ys.length=ps.length:=by rw [dn4.length,List.length_map]
  have hy0:0<ys.length:=by
   rcases Nat.eq_zero_or_pos ys.length with z | z
   ·exact (p2 (List.length_eq_zero_iff.mp (hyl ▸ z))).elim
   ·exact z
  refine ⟨F,_,_,.ref c,rfl,rfl,.of hF4,atI_nat (by rw [List.getElem?_map,hcj];rfl),?_⟩
  refine ⟨_,rfl,_,rfl,c,_,rfl,.inl (.of hc4),d,_,_,rfl,dk4,by lia,by lia,by lia,fun ra H5 s5 dk5 g0 g1=>?_⟩
  have hF5:H5 F=_:=keepN s5 hF4 hdF
  have hc5:H5 c=_:=keepN s5 hc4 hdc
  have pl5:=pl4.pick dk4 hda s5
  have sB5:Same B H5:=(same_wo hB sB4).trans s5
  refine ⟨(by show 2≤sizeLine;decide),fun t1 ht1=>?_⟩
  have st1:Same H5 (upd H5 t1 (.tup [.str "hole",.str "any"])):=Same.new ht1
  have at1:PtAt (upd H5 t1 (.tup [.str "hole",.str "any"])) (.ref t1) (.hole 2):=⟨t1,rfl,upd_same⟩
  show tCons _ _ _ (upd H5 t1 (.tup [.str "hole",.str "any"])) _
  generalize upd H5 t1 (.tup [.str "hole",.str "any"])=H6 at st1 at1 ⊢
  refine ⟨(by show 2≤sizeLine;decide),fun t2 ht2=>?_⟩
  have st2:Same H6 (upd H6 t2 (.tup [.str "hole",.str "number"])):=Same.new ht2
  have at2:PtAt (upd H6 t2 (.tup [.str "hole",.str "number"])) (.ref t2) (.hole 0):=⟨t2,rfl,upd_same⟩
  show tCons _ _ _ (upd H6 t2 (.tup [.str "hole",.str "number"])) _
  generalize upd H6 t2 (.tup [.str "hole",.str "number"])=H7 at st2 at2 ⊢
  have s57:=st1.trans st2
  refine ⟨_,rfl,d,_,rfl,dk5.same s57,by lia,fun x H8 s8 dk8 hx=>?_⟩
  refine ⟨(by show 2≤sizeLine;decide),fun t3 ht3=>?_⟩
  have st3:Same H8 (upd H8 t3 (.tup [.str "word",.str x])):=Same.new ht3
  have at3:PtAt (upd H8 t3 (.tup [.str "word",.str x])) (.ref t3) (.word x):=⟨t3,rfl,upd_same⟩
  have dk9:=dk8.same st3
  have pl9:=((pl5.up s57).pick (dk5.same s57) hda s8).up st3
  have sB9:Same B (upd H8 t3 (.tup [.str "word",.str x])):=((same_wo hB (sB5.trans s57)).trans s8).trans st3
  have hF9:=st3 _ _ (keepN s8 (s57 _ _ hF5) hdF)
  have hc9:=st3 _ _ (keepN s8 (s57 _ _ hc5) hdc)
  have tO9:Same (tO H7) (tO (upd H8 t3 (.tup [.str "word",.str x]))):=(tO_pick (dk5.same s57) s8).trans (tO_up st3)
  have a1:=at1.same ((tO_up st2).trans tO9)
  have a2:=at2.same tO9
  refine ⟨(by show 3≤sizeLine;decide),fun Z hZ=>?_⟩
  generalize upd H8 t3 (.tup [.str "word",.str x])=H9 at at3 dk9 pl9 sB9 hF9 hc9 a1 a2 hZ ⊢
  have sZ:Same H9 (upd H9 Z (.lst [.ref t1,.ref t2,.ref t3])):=Same.new hZ
  have hZZ:(upd H9 Z (.lst [.ref t1,.ref t2,.ref t3])) Z=some (.lst [.ref t1,.ref t2,.ref t3]):=upd_same
  have hdZ:d≠Z:=dk9.ne hZ
  refine ⟨_,rfl,d,3,_,rfl,dk9.same sZ,by lia,by decide,by decide,fun rz H10 s10 dk10 z0 z1=>?_⟩
  have hF10:H10 F=_:=keepN s10 (sZ _ _ hF9) hdF
  have hc10:H10 c=_:=keepN s10 (sZ _ _ hc9) hdc
  have pl10:=(pl9.up sZ).pick (dk9.same sZ) hda s10
  have sB10:Same B H10:=(same_wo hB (sB9.trans sZ)).trans s10
  have tO10:Same (tO H9) (tO H10):=(tO_up sZ).trans (tO_pick (dk9.same sZ) s10)
  have hv:∃ (v:V) (p:Pt),atI [V.ref t1,.ref t2,.ref t3] rz=some v∧PtAt H10 v p∧PtW p:=by
   have:rz=0∨rz=1∨rz=2:=by lia
   rcases this with rfl | rfl | rfl
   ·exact ⟨.ref t1,.hole 2,rfl,a1.same tO10,(by decide:2<3)⟩
   ·exact ⟨.ref t2,.hole 0,rfl,a2.same tO10,(by decide:0<3)⟩
   ·exact ⟨.ref t3,.word x,rfl,at3.same tO10,hx.word,Nat.le_trans hx.len (by decide),hx.ok⟩
  obtain ⟨v,p,hva,hvp,hvw⟩:=hv
  refine ⟨Z,_,rz,v,rfl,rfl,.of (keepN s10 hZZ hdZ),hva,_,rfl,_,rfl,c,ys,ra,ra.toNat,rfl,rfl,hc10,ixN_in g0 g1,?_⟩
  exact ⟨⟨_,_,_,rfl⟩,snap_upd (hfr c hcm) sB10,(dk10.upd hdc).mono (by lia),by rw [upd_ne hFc];exact hF10,_,pl10.put _ hcj hpj hc10 (hvp.den hvw),psok_set ok3 hpj hvw,by rw [List.length_set];exact l3⟩
 ·obtain ⟨⟨u,v,w,rfl⟩,sB3,dk3,hF3,Q2,pl3,ok3,l3⟩:=q
  have sw:Same B (wo d H3):=same_wo hB sB3
  exact law_6 dk3 (by lia) (ha.same sw) lP hF3 hdF hda pl3 ok3 (by lia) fun σ H2 sh s2=>hX σ H2 sh (sw.trans s2)
end
end K10
namespace K10
open PySem L2 LG
section
variable {P:Program}{w:World}{K:PySem.W.Frag}{mg:Str→Option Value}{base:Heap}{A:Ad}
theorem law_8 {X:Ends}{H:Hp}{d a:Addr}{n:Nat}{as:List Addr}{pss:List (List Pt)}{u0 u1 u4 u5 u6 u7 u8:Option V} (hdk:Dk H d n) (hn:n<300000) (ha:H a=some (.lst (as.map V.ref))) (hda:d≠a) (hdas:d∉as) (pl:PL K H as pss) (hok:PsOk pss) (hl:pss.length≤6)
  (hX:∀ σ H',Sh10 σ→Same (wo d H) H'→X.nx σ H'):rd_law_8 K X [u0,u1,some (.ref d),some (.ref a),u4,u5,u6,u7,u8] H:=by
 have hal:=pl.len
 obtain ⟨zs0,hd0⟩:=hdk.lst
 have ba:PsAt K (wo d H) a pss:=pl_ps pl hdk hdas hda ha hok
 refine ⟨_,rfl,d,n,rfl,hdk,by lia,fun F as2 qss H2 hF hfr hFa s2 dk2 hF2 pl2 hok2 hl2=>?_⟩
 have ha2:H2 a=_:=keepN s2 ha hda
 have plO:=pl.pick hdk hdas s2
 have hdF:d≠F:=fun e=>by rw [e,hF] at hd0;cases hd0
 have hd2:d∉as2:=fun z=>by rw [hfr d z] at hd0;cases hd0
 refine ⟨_,rfl,a,rfl,⟨_,.of ha2⟩,fun D hD=>?_⟩
 have hdD:d≠D:=dk2.ne hD
 refine comp_list (K:=K) (xs:=as.map V.ref) (fun i acc σ H3=>(∃ u,σ=[u])∧Same H2 H3∧∃ as3:List Addr,acc=as3.map V.ref∧PL K H3 as3 (pss.take i)∧(∀ c∈as3,H2 c=none)∧D∉as3) upd_same ⟨⟨_,rfl⟩,Same.new hD,[],rfl,.nil,(fun c hc=>nomatch hc),fun z=>nomatch z⟩ (fun i acc σ H3 _ _ q=>.of (q.2.1 _ _ ha2)) (fun i x acc σ H3 hx hDx q=>?_) (fun acc σ H3 hDx q=>?_)
 ·obtain ⟨q0,s3,as3,rfl,pl3,hf3,hD3⟩:=q
  apply ex_1 q0
  clear q0
  intro u
  rw [List.getElem?_map] at hx
  obtain ⟨c,hci,rfl⟩:∃ c,as[i]? = some c∧x = .ref c:=by
   cases e:as[i]? with
   | none=>rw [e] at hx;cases hx
   | some c=>rw [e] at hx;cases hx;exact ⟨c,rfl,rfl⟩
  have hi:=ge_len hci
  obtain ⟨ys,ps,hc2,hpi,dn2⟩:=plO.at hci
  refine compY ⟨_,rfl,c,ys,rfl,.inl (.of (s3 _ _ hc2)),fun l hl'=>?_⟩
  have sl:Same H3 (upd H3 l (.lst ys)):=Same.new hl'
  have hlD:l≠D:=(ne_of_none hDx hl').symm
  have hl3:l∉as3:=fun z=>by
   obtain ⟨zs,e⟩:=pl3.mem l z
   rw [hl'] at e;cases e
  have hl2n:H2 l=none:=s3.free hl'
  have hDl:=sl _ _ hDx
  have e1:as3.map V.ref++[.ref l]=(as3++[l]).map V.ref:=by simp
  refine ⟨_,hDl,small (by rw [List.length_map,pl3.len,List.length_take];lia),?_⟩
  rw [e1]
  refine ⟨_,upd_same,⟨_,rfl⟩,snap_upd hD (s3.trans sl),as3++[l],rfl,?_,fun b hb=>?_,fun z=>?_⟩
  ·rw [List.take_add_one,hpi]
   have t1:Same (tO H2) (tO (upd (upd H3 l (.lst ys)) D (.lst ((as3++[l]).map V.ref)))):=((tO_up s3).trans (tO_up sl)).trans (tO_upd hDl)
   exact ((pl3.up sl).updF hDl hD3).snoc (by rw [upd_ne hlD];exact upd_same) (dn2.same t1) hl3
  ·rcases List.mem_append.mp hb with z | z
   ·exact hf3 b z
   ·rw [List.mem_singleton.mp z];exact hl2n
  ·rcases List.mem_append.mp z with z | z
   ·exact hD3 z
   ·exact hlD (List.mem_singleton.mp z).symm
 ·obtain ⟨_,s3,as3,rfl,pl3,hf3,hD3⟩:=q
  rw [List.length_map,List.take_of_length_le (by lia)] at pl3
  refine ⟨(by show 2≤sizeLine;decide),fun Z hZ=>?_⟩
  have sZ:Same H3 (upd H3 Z (.lst [.ref F,.ref D])):=Same.new hZ
  have hZZ:(upd H3 Z (.lst [.ref F,.ref D])) Z=some (.lst [.ref F,.ref D]):=upd_same
  have dk3:=dk2.same (s3.trans sZ)
  have hdZ:d≠Z:=(dk2.same s3).ne hZ
  have pl3Z:=pl3.up sZ
  have pl2Z:=pl2.up (s3.trans sZ)
  have hF3:=(s3.trans sZ) _ _ hF2
  have hD3Z:=sZ _ _ hDx
  have sB3:Same (wo d H) (upd H3 Z (.lst [.ref F,.ref D])):=s2.trans (s3.trans sZ)
  generalize upd H3 Z (.lst [.ref F,.ref D])=H4 at sZ hZZ dk3 pl3Z pl2Z hF3 hD3Z sB3 ⊢
  have hd3:d∉as3:=fun z=>by
   obtain ⟨zs,e⟩:=dk2.lst
   rw [hf3 d z] at e;cases e
  have hwd:(wo d H) d=none:=wo_self
  refine ⟨_,rfl,d,2,_,rfl,dk3,by lia,by decide,by decide,fun r H5 s5 dk5 r0 r1=>?_⟩
  have hZ5:H5 Z=_:=keepN s5 hZZ hdZ
  have sB5:Same (wo d H) H5:=(same_wo hwd sB3).trans s5
  have:r=0∨r=1:=by lia
  rcases this with rfl | rfl
  ·refine ⟨Z,_,0,.ref F,rfl,rfl,.of hZ5,rfl,?_⟩
   refine law_7 dk5 (by lia) hwd ba hl sB5 (keepN s5 hF3 hdF) hdF (fun c hc=>?_) hd2 hFa (pl2Z.pick dk3 hd2 s5) hok2 hl2 hX
   rw [wo_at fun (e:c=d)=>hd2 (e ▸ hc)]
   exact hfr c hc
  ·refine ⟨Z,_,1,.ref D,rfl,rfl,.of hZ5,rfl,?_⟩
   exact law_7 dk5 (by lia) hwd ba hl sB5 (keepN s5 hD3Z hdD) hdD (fun c hc=>s2.free (hf3 c hc)) hd3 hD3 (pl3Z.pick dk3 hd3 s5) hok hl hX
def LI0 (Z:Addr) (cells:List V) (i:Nat) (σ:St) (H:Hp):Prop:=Sh10 σ∧H Z=some (.lst cells)
theorem sc_law:FnScope ["script", "cell", "deck", "one", "other", "turn", "pattern", "at", "words"] ["script"] (defScope (top 40)):=⟨rfl,rfl,rfl,by decide +kernel,rfl,by decide +kernel,by decide +kernel⟩
set_option maxHeartbeats 8000000 in
theorem ok_law (F:Fun K "law" "law" (top 40) A.f_law A.d_law) (T:Tx K mg A):FnOk P w K mg base CX0 19 A.f_law A.d_law ["script"] (sp_law K):=by
 have G__law_deck:FnOk P w K mg base CX0 18 A.f__law_deck A.d__law_deck ["cell", "turn"] (sp__law_deck K):=(ok__law_deck T).mono (by decide)
 have G__law_patterns:FnOk P w K mg base CX0 18 A.f__law_patterns A.d__law_patterns ["deck"] (sp__law_patterns K):=(ok__law_patterns T).mono (by decide)
 have G__law_pick:FnOk P w K mg base CX0 18 A.f__law_pick A.d__law_pick ["deck", "many"] (sp__law_pick K):=(ok__law_pick T).mono (by decide)
 have G__law_right:FnOk P w K mg base CX0 18 A.f__law_right A.d__law_right ["deck", "one", "other"] (sp__law_right K):=(ok__law_right T).mono (by decide)
 have G__law_word:FnOk P w K mg base CX0 18 A.f__law_word A.d__law_word ["deck"] (sp__law_word K):=(ok__law_word T).mono (by decide)
 refine F.ok sc_law (fun vs H Q E h=>?_) (fun cdv Ar outer s H vs Q E hr h=>?_)
 ·obtain ⟨a,ns,rfl,_⟩:=h;rfl
 ·obtain ⟨a,ns,rfl,hScr,hn,k⟩:=h
  refine ⟨rd_law_11 K,pss_cons (ps_for PassesOwn.never rfl (pi_list (pe_slice (r:=rSlL K) sl_list (pe_op (r:=rCatS K) op_catS (pv 0) (pe_lstj (paj_cons (pe_int) (paj_nil)))) (po_none) (po_some (pe_int)))) (pg_name (i:=1) sc_law.nd rfl (Or.inl rfl)) (pss_cons (ps_set (i:=2) sc_law.nd rfl (Or.inl rfl) (pe_call G__law_deck hr (by rfl) T._law_deck.mg T._law_deck.fn.kp T._law_deck.bd .nil pass0 (pa_cons (pv 1) (pa_cons (pe_int) (pa_nil)))))
   (pss_cons (ps_set (i:=3) sc_law.nd rfl (Or.inl rfl) (pe_call G__law_patterns hr (by rfl) T._law_patterns.mg T._law_patterns.fn.kp T._law_patterns.bd .nil pass0 (pa_cons (pv 2) (pa_nil))))
   (pss_cons (ps_set (i:=4) sc_law.nd rfl (Or.inl rfl) (pe_ix (r:=rIxL K) ix_list (pe_lstj (paj_cons (pe_call G__law_patterns hr (by rfl) T._law_patterns.mg T._law_patterns.fn.kp T._law_patterns.bd .nil pass0 (pa_cons (pv 2) (pa_nil))) (paj_cons (pe_comp (N':=["pattern"]) (n:=1) (fi:=[]) (g:=gName 0) rfl (cscope (defScope (top 40)) ["script", "cell", "deck", "one", "other", "turn", "pattern", "at", "words"] (by decide +kernel)) (pi_list (pv 3)) (fun s H fp=>pg_name (i:=0) (show (["pattern"]:List Str).Nodup by decide +kernel) rfl (Or.inl rfl) (.inr rfl)) (fun s H fp=>pifs_nil) (fun s H fp=>pe_callTy (r:=rListOf K) call_listO (by rfl) T.n_list bt_list (pa_cons (pv 0) (pa_nil)))) (paj_nil)))) (pe_call G__law_pick hr (by rfl) T._law_pick.mg T._law_pick.fn.kp T._law_pick.bd .nil pass0 (pa_cons (pv 2) (pa_cons (pe_int) (pa_nil)))) (fun _ _=>rfl)))
   (pss_cons (ps_for PassesOwn.never rfl (pi_range1 (by rfl) T.n_range (pa_cons (pe_op op_mul (pe_call G__law_pick hr (by rfl) T._law_pick.mg T._law_pick.fn.kp T._law_pick.bd .nil pass0 (pa_cons (pv 2) (pa_cons (pe_int) (pa_nil)))) (pe_callTy call_int1 (by rfl) T.n_int bt_int (pa_cons (pe_cmpR (r:=rNeD K) (op_neD hr) (pv 4) (pe_lstj (paj_nil)) (nomark _)) (pa_nil)))) (pa_nil))) (pg_name (i:=5) sc_law.nd rfl (Or.inl rfl)) (pss_cons (ps_set (i:=6) sc_law.nd rfl (Or.inl rfl) (pe_ix (r:=rIxL K) ix_list (pv 4) (pe_call G__law_pick hr (by rfl) T._law_pick.mg T._law_pick.fn.kp T._law_pick.bd .nil pass0 (pa_cons (pv 2) (pa_cons (pe_callB (r:=rLenS K) call_lenS (by rfl) T.n_len PySem.boot_len (pa_cons (pv 4) (pa_nil))) (pa_nil)))) (fun _ _=>rfl)))
   (pss_cons (ps_set (i:=7) sc_law.nd rfl (Or.inl rfl) (pe_call G__law_pick hr (by rfl) T._law_pick.mg T._law_pick.fn.kp T._law_pick.bd .nil pass0 (pa_cons (pv 2) (pa_cons (pe_callB (r:=rLenS K) call_lenS (by rfl) T.n_len PySem.boot_len (pa_cons (pv 6) (pa_nil))) (pa_nil)))))
   (pss_one (ps_asg (pe_ix (r:=rIxL K) ix_list (pe_lstj (paj_cons (pe_tup (pa_cons (pe_str) (pa_cons (pe_str) (pa_nil)))) (paj_cons (pe_tup (pa_cons (pe_str) (pa_cons (pe_str) (pa_nil)))) (paj_cons (pe_tup (pa_cons (pe_str) (pa_cons (pe_call G__law_word hr (by rfl) T._law_word.mg T._law_word.fn.kp T._law_word.bd .nil pass0 (pa_cons (pv 2) (pa_nil))) (pa_nil)))) (paj_nil))))) (pe_call G__law_pick hr (by rfl) T._law_pick.mg T._law_pick.fn.kp T._law_pick.bd .nil pass0 (pa_cons (pv 2) (pa_cons (pe_int) (pa_nil)))) (fun _ _=>rfl)) (pg_sub (pv 6) (pv 7) set_list))))))
   (pss_cons (ps_if ((pw_and (pt_cmpR (r:=rNeD K) (op_neD hr) (pv 3) (pe_lstj (paj_nil)) (nomark _)) (pw_and1 (pt_cmpR (op_eq) (pe_call G__law_pick hr (by rfl) T._law_pick.mg T._law_pick.fn.kp T._law_pick.bd .nil pass0 (pa_cons (pv 2) (pa_cons (pe_int) (pa_nil)))) (pe_int) (nomark _)))).pt) (pss_cons (ps_comp (i:=8) (N':=["part"]) (n:=1) (fi:=[]) (g:=gName 0) sc_law.nd rfl (Or.inl rfl) rfl (cscope (defScope (top 40)) ["script", "cell", "deck", "one", "other", "turn", "pattern", "at", "words"] (by decide +kernel)) (pi_list (pe_ix (r:=rIxL K) ix_list (pv 3) (pe_int) (fun _ _=>rfl))) (fun s H fp=>pg_name (i:=0) (show (["part"]:List Str).Nodup by decide +kernel) rfl (Or.inl rfl) (.inr rfl)) (fun s H fp=>pifs_nil) (fun s H fp=>pe_ifExp (pt_cmpR (op_eq) (pe_ix (r:=rIxT K) ix_tup (pv 0) (pe_int) (fun _ _=>rfl)) (pe_str) (nomark _)) (pe_ix (r:=rIxT K) ix_tup (pv 0) (pe_int) (fun _ _=>rfl)) (pe_str)))
   (pss_one (ps_set (i:=4) sc_law.nd rfl (Or.inl rfl) (pe_slice (r:=rSlL K) sl_list (pe_op (r:=rCatS K) op_catS (pv 4) (pe_lstj (paj_cons (pe_comp (N':=["word"]) (n:=1) (fi:=[]) (g:=gName 0) rfl (cscope (defScope (top 40)) ["script", "cell", "deck", "one", "other", "turn", "pattern", "at", "words"] (by decide +kernel)) (pi_list (pv 8)) (fun s H fp=>pg_name (i:=0) (show (["word"]:List Str).Nodup by decide +kernel) rfl (Or.inl rfl) (.inr rfl)) (fun s H fp=>pifs_nil) (fun s H fp=>pe_tup (pa_cons (pe_str) (pa_cons (pv 0) (pa_nil))))) (paj_nil)))) (po_none) (po_some (pe_int)))))) (pss_nil))
   (pss_one (ps_if (pt_not (pt_val (pe_call G__law_right hr (by rfl) T._law_right.mg T._law_right.fn.kp T._law_right.bd .nil pass0 (pa_cons (pv 2) (pa_cons (pv 3) (pa_cons (pv 4) (pa_nil))))))) (pss_one (ps_ret (pe_bl))) (pss_nil)))))))))
   (pss_one (ps_ret (pe_bl))),?_⟩
  refine ⟨_,rfl,(by show 1≤sizeLine;decide),fun p hp=>⟨a,p,_,_,rfl,rfl,(Same.new hp).seq hScr,.of upd_same,by rw [List.length_map,List.length_singleton];exact Nat.le_trans (Nat.add_le_add_right hn 1) (by decide),fun q hq=>⟨3,rfl,q,_,rfl,.of upd_same,fun Z hZ=>⟨Z,rfl,⟨_,.of upd_same⟩,?_⟩⟩⟩⟩
  have hcells:∀ i x,(cutV (ns.map V.int++[V.int 0]) none (some 3))[i]? = some x→∃ c:Int,x=V.int c:=fun i x hx=>by
   rw [cut_take (by decide)] at hx
   have hm:=List.mem_of_mem_take (List.mem_of_getElem? hx)
   rcases List.mem_append.mp hm with hm | hm
   ·obtain ⟨c,_,rfl⟩:=List.mem_map.mp hm
    exact ⟨c,rfl⟩
   ·simp only [List.mem_singleton] at hm
    exact ⟨0,hm⟩
  generalize cutV (ns.map V.int++[V.int 0]) none (some 3)=cells at hcells
  refine for_list (K:=K) (xs:=cells) (LI0 Z cells) ⟨⟨_,_,_,_,_,_,_,_,_,rfl⟩,upd_same⟩ (fun i σ H _ q=>.of q.2) (fun i x σ H0 hx q=>?_) (fun σ H q=>?_)
  ·obtain ⟨c,rfl⟩:=hcells i x hx
   obtain ⟨q0,hZ0⟩:=q
   apply ex_9 q0
   clear q0
   intro u0 u1 u2 u3 u4 u5 u6 u7 u8
   refine ⟨_,rfl,c,rfl,fun d H1 hd s1 dk1=>?_⟩
   have hZ1:=s1 _ _ hZ0
   have hdZ:d≠Z:=(ne_of_none hZ0 hd).symm
   refine ⟨_,rfl,d,0,rfl,dk1,by decide,fun F as pss H2 hF hfr hFa s2 dk2 hF2 pl hok hl=>?_⟩
   obtain ⟨zs0,hd0⟩:=dk1.lst
   have hdF:d≠F:=fun e=>by rw [e,hF] at hd0;cases hd0
   have hda:d∉as:=fun z=>by rw [hfr d z] at hd0;cases hd0
   have hZ2:=keepN s2 hZ1 hdZ
   refine law_8 dk2 (by decide) hF2 hdF hda pl hok hl fun σ H3 sh s3=>⟨sh,keepN s3 hZ2 hdZ⟩
  ·exact k H
end
end K10
namespace K10
open PySem L2 LG
def hEn (P:Params) (x:Str) (t:Nat) (v:Value):DictEntry:=⟨PyData.keyHash P x,.str x t,v⟩
def hFn (i:Nat) (x:Str) (m:Value) (c:Nat):Obj:=⟨.type "function",none,.func { name:=x,qualname:=x,params:=defArgs (top i),body:=.stmts (defBody (top i)),scope:=defScope (top i),globals:=3,closure:=[],defaults:=.none,kwdefaults:=.none,pyModule:=m,code:=.ref c },#[]⟩
def hV:Program:={ PySem.Challenge.pw_loggather_k10_whole_parting_lines with main:={ PySem.Challenge.pw_loggather_k10_whole_parting_lines.main with body:=[1,2,3,4,5,6,7,8,9,11,12,13,14,16,17,18,19,20,21,22,23,25,26,27,28,29,30,31,32,33,34,35,36,37,38,39,40].map top } }
def hK (P:Params):PySem.W.Frag:=[(3,⟨.type "dict",none,.dict #[hEn P "__name__" 165 (.str "law_loggather_k10_whole_parting_lines" 320),hEn P "__doc__" 166 (.none),hEn P "__package__" 167 (.none),hEn P "__loader__" 168 (.builtin "__main__.__loader__#opaque"),hEn P "__spec__" 169 (.none),hEn P "__annotations__" 170 (.ref 6),hEn P "__builtins__" 171 (.ref 4),hEn P "__file__" 173 (.str "/claim/cut.py" 172),hEn P "__cached__" 174 (.none),hEn P "FIGURES" 190 (.str "0123456789" 189),hEn P "SMALL_LETTERS" 192 (.str "abcdefghijklmnopqrstuvwxyz" 191),hEn P "WORD_SIGNS" 194 (.str "!\"#$&'()*+,-./0123456789:;<=>?@ABCDEFGHIJKLMNOPQRSTUVWXYZ[\\]^_`abcdefghijklmnopqrstuvwxyz{|}~" 193),hEn P "has_only" 202 (.ref 21),hEn P "is_word" 209 (.ref 28),hEn P "kind_of" 216 (.ref 35),hEn P "words_of" 223 (.ref 42),hEn P "word_key" 230 (.ref 49),hEn P "line_key" 236 (.ref 54),hEn P "is_hole" 245 (.ref 61),hEn P "part_takes" 253 (.ref 68),hEn P "is_part_within" 261 (.ref 75),hEn P "is_within" 267 (.ref 80),hEn P "least_word_but" 275 (.ref 85),hEn P "is_needless" 281 (.ref 90),hEn P "words_to_try" 287 (.ref 95),hEn P "behind" 293 (.ref 100),hEn P "first_word_past" 299 (.ref 105),hEn P "least_line_past" 305 (.ref 110),hEn P "lines_past" 311 (.ref 115),hEn P "parting_line" 319 (.ref 122),hEn P "_law_deck" 329 (.ref 129),hEn P "_law_pick" 339 (.ref 136),hEn P "_law_kind" 345 (.ref 141),hEn P "_law_fits_part" 353 (.ref 148),hEn P "_law_fits" 359 (.ref 153),hEn P "_law_word" 365 (.ref 158),hEn P "_law_line" 371 (.ref 163),hEn P "_law_lines" 377 (.ref 168),hEn P "_law_pattern" 389 (.ref 175),hEn P "_law_patterns" 401 (.ref 182),hEn P "_law_words" 407 (.ref 187),hEn P "_law_sought" 413 (.ref 192),hEn P "_law_due" 419 (.ref 197),hEn P "_law_is_of" 425 (.ref 202),hEn P "_law_right" 431 (.ref 207),hEn P "law" 437 (.ref 212)] 46,#[]⟩),
 (20,⟨.type "code",none,.fields #[.str "has_only" 195,.str "has_only" 196,.str "/claim/cut.py" 197,.int 5 0,.int 2 0,.int 0 0,.int 0 0,.int 3 0,.ref 15,.bool true,.int 181 0,.ref 16,.none,.ref 17,.ref 18,.ref 19,.int 200 0,.int 5 0,.str "/claim/cut.py" 201],#[]⟩),
 (21,hFn 4 "has_only" (.str "loggather.words" 187) 20),
 (27,⟨.type "code",none,.fields #[.str "is_word" 203,.str "is_word" 204,.str "/claim/cut.py" 205,.int 7 0,.int 1 0,.int 0 0,.int 0 0,.int 3 0,.ref 22,.bool true,.int 181 0,.ref 23,.none,.ref 24,.ref 25,.ref 26,.int 207 0,.int 7 0,.str "/claim/cut.py" 208],#[]⟩),
 (28,hFn 5 "is_word" (.str "loggather.words" 187) 27),
 (34,⟨.type "code",none,.fields #[.str "kind_of" 210,.str "kind_of" 211,.str "/claim/cut.py" 212,.int 9 0,.int 1 0,.int 0 0,.int 0 0,.int 3 0,.ref 29,.bool true,.int 181 0,.ref 30,.none,.ref 31,.ref 32,.ref 33,.int 214 0,.int 9 0,.str "/claim/cut.py" 215],#[]⟩),
 (35,hFn 6 "kind_of" (.str "loggather.words" 187) 34),
 (41,⟨.type "code",none,.fields #[.str "words_of" 217,.str "words_of" 218,.str "/claim/cut.py" 219,.int 15 0,.int 1 0,.int 0 0,.int 0 0,.int 3 0,.ref 36,.bool true,.int 181 0,.ref 37,.none,.ref 38,.ref 39,.ref 40,.int 221 0,.int 15 0,.str "/claim/cut.py" 222],#[]⟩),
 (42,hFn 7 "words_of" (.str "loggather.words" 187) 41),
 (48,⟨.type "code",none,.fields #[.str "word_key" 224,.str "word_key" 225,.str "/claim/cut.py" 226,.int 17 0,.int 1 0,.int 0 0,.int 0 0,.int 3 0,.ref 43,.bool true,.int 181 0,.ref 44,.none,.ref 45,.ref 46,.ref 47,.int 228 0,.int 17 0,.str "/claim/cut.py" 229],#[]⟩),
 (49,hFn 8 "word_key" (.str "loggather.words" 187) 48),
 (53,⟨.type "code",none,.fields #[.str "line_key" 231,.str "line_key" 232,.str "/claim/cut.py" 233,.int 19 0,.int 1 0,.int 0 0,.int 0 0,.int 3 0,.ref 50,.bool true,.int 181 0,.ref 51,.none,.none,.none,.ref 52,.int 234 0,.int 19 0,.str "/claim/cut.py" 235],#[]⟩),
 (54,hFn 9 "line_key" (.str "loggather.words" 187) 53),
 (60,⟨.type "code",none,.fields #[.str "is_hole" 239,.str "is_hole" 240,.str "/claim/cut.py" 241,.int 23 0,.int 1 0,.int 0 0,.int 0 0,.int 3 0,.ref 55,.bool true,.int 181 0,.ref 56,.none,.ref 57,.ref 58,.ref 59,.int 243 0,.int 23 0,.str "/claim/cut.py" 244],#[]⟩),
 (61,hFn 11 "is_hole" (.str "loggather.patterns" 237) 60),
 (67,⟨.type "code",none,.fields #[.str "part_takes" 246,.str "part_takes" 247,.str "/claim/cut.py" 248,.int 25 0,.int 2 0,.int 0 0,.int 0 0,.int 3 0,.ref 62,.bool true,.int 181 0,.ref 63,.none,.ref 64,.ref 65,.ref 66,.int 251 0,.int 25 0,.str "/claim/cut.py" 252],#[]⟩),
 (68,hFn 12 "part_takes" (.str "loggather.patterns" 237) 67),
 (74,⟨.type "code",none,.fields #[.str "is_part_within" 254,.str "is_part_within" 255,.str "/claim/cut.py" 256,.int 31 0,.int 2 0,.int 0 0,.int 0 0,.int 3 0,.ref 69,.bool true,.int 181 0,.ref 70,.none,.ref 71,.ref 72,.ref 73,.int 259 0,.int 31 0,.str "/claim/cut.py" 260],#[]⟩),
 (75,hFn 13 "is_part_within" (.str "loggather.patterns" 237) 74),
 (79,⟨.type "code",none,.fields #[.str "is_within" 262,.str "is_within" 263,.str "/claim/cut.py" 264,.int 35 0,.int 2 0,.int 0 0,.int 0 0,.int 3 0,.ref 76,.bool true,.int 181 0,.ref 77,.none,.none,.none,.ref 78,.int 265 0,.int 35 0,.str "/claim/cut.py" 266],#[]⟩),
 (80,hFn 14 "is_within" (.str "loggather.patterns" 237) 79),
 (84,⟨.type "code",none,.fields #[.str "least_word_but" 270,.str "least_word_but" 271,.str "/claim/cut.py" 272,.int 40 0,.int 2 0,.int 0 0,.int 0 0,.int 3 0,.ref 81,.bool true,.int 181 0,.ref 82,.none,.none,.none,.ref 83,.int 273 0,.int 40 0,.str "/claim/cut.py" 274],#[]⟩),
 (85,hFn 16 "least_word_but" (.str "loggather.alike" 268) 84),
 (89,⟨.type "code",none,.fields #[.str "is_needless" 276,.str "is_needless" 277,.str "/claim/cut.py" 278,.int 47 0,.int 2 0,.int 0 0,.int 0 0,.int 3 0,.ref 86,.bool true,.int 181 0,.ref 87,.none,.none,.none,.ref 88,.int 279 0,.int 47 0,.str "/claim/cut.py" 280],#[]⟩),
 (90,hFn 17 "is_needless" (.str "loggather.alike" 268) 89),
 (94,⟨.type "code",none,.fields #[.str "words_to_try" 282,.str "words_to_try" 283,.str "/claim/cut.py" 284,.int 49 0,.int 2 0,.int 0 0,.int 0 0,.int 3 0,.ref 91,.bool true,.int 181 0,.ref 92,.none,.none,.none,.ref 93,.int 285 0,.int 49 0,.str "/claim/cut.py" 286],#[]⟩),
 (95,hFn 18 "words_to_try" (.str "loggather.alike" 268) 94),
 (99,⟨.type "code",none,.fields #[.str "behind" 288,.str "behind" 289,.str "/claim/cut.py" 290,.int 55 0,.int 2 0,.int 0 0,.int 0 0,.int 3 0,.ref 96,.bool true,.int 181 0,.ref 97,.none,.none,.none,.ref 98,.int 291 0,.int 55 0,.str "/claim/cut.py" 292],#[]⟩),
 (100,hFn 19 "behind" (.str "loggather.alike" 268) 99),
 (104,⟨.type "code",none,.fields #[.str "first_word_past" 294,.str "first_word_past" 295,.str "/claim/cut.py" 296,.int 57 0,.int 2 0,.int 0 0,.int 0 0,.int 3 0,.ref 101,.bool true,.int 181 0,.ref 102,.none,.none,.none,.ref 103,.int 297 0,.int 57 0,.str "/claim/cut.py" 298],#[]⟩),
 (105,hFn 20 "first_word_past" (.str "loggather.alike" 268) 104),
 (109,⟨.type "code",none,.fields #[.str "least_line_past" 300,.str "least_line_past" 301,.str "/claim/cut.py" 302,.int 60 0,.int 2 0,.int 0 0,.int 0 0,.int 3 0,.ref 106,.bool true,.int 181 0,.ref 107,.none,.none,.none,.ref 108,.int 303 0,.int 60 0,.str "/claim/cut.py" 304],#[]⟩),
 (110,hFn 21 "least_line_past" (.str "loggather.alike" 268) 109),
 (114,⟨.type "code",none,.fields #[.str "lines_past" 306,.str "lines_past" 307,.str "/claim/cut.py" 308,.int 72 0,.int 2 0,.int 0 0,.int 0 0,.int 3 0,.ref 111,.bool true,.int 181 0,.ref 112,.none,.none,.none,.ref 113,.int 309 0,.int 72 0,.str "/claim/cut.py" 310],#[]⟩),
 (115,hFn 22 "lines_past" (.str "loggather.alike" 268) 114),
 (121,⟨.type "code",none,.fields #[.str "parting_line" 312,.str "parting_line" 313,.str "/claim/cut.py" 314,.int 75 0,.int 2 0,.int 0 0,.int 0 0,.int 3 0,.ref 116,.bool true,.int 181 0,.ref 117,.none,.ref 118,.ref 119,.ref 120,.int 317 0,.int 75 0,.str "/claim/cut.py" 318],#[]⟩),
 (122,hFn 23 "parting_line" (.str "loggather.alike" 268) 121),
 (128,⟨.type "code",none,.fields #[.str "_law_deck" 322,.str "_law_deck" 323,.str "/claim/cut.py" 324,.int 78 0,.int 2 0,.int 0 0,.int 0 0,.int 3 0,.ref 123,.bool true,.int 181 0,.ref 124,.none,.ref 125,.ref 126,.ref 127,.int 327 0,.int 78 0,.str "/claim/cut.py" 328],#[]⟩),
 (129,hFn 25 "_law_deck" (.str "law_loggather_k10_whole_parting_lines" 320) 128),
 (135,⟨.type "code",none,.fields #[.str "_law_pick" 330,.str "_law_pick" 331,.str "/claim/cut.py" 332,.int 82 0,.int 2 0,.int 0 0,.int 0 0,.int 3 0,.ref 130,.bool true,.int 181 0,.ref 131,.none,.ref 132,.ref 133,.ref 134,.int 337 0,.int 82 0,.str "/claim/cut.py" 338],#[]⟩),
 (136,hFn 26 "_law_pick" (.str "law_loggather_k10_whole_parting_lines" 320) 135),
 (140,⟨.type "code",none,.fields #[.str "_law_kind" 340,.str "_law_kind" 341,.str "/claim/cut.py" 342,.int 93 0,.int 1 0,.int 0 0,.int 0 0,.int 3 0,.ref 137,.bool true,.int 181 0,.ref 138,.none,.none,.none,.ref 139,.int 343 0,.int 93 0,.str "/claim/cut.py" 344],#[]⟩),
 (141,hFn 27 "_law_kind" (.str "law_loggather_k10_whole_parting_lines" 320) 140),
 (147,⟨.type "code",none,.fields #[.str "_law_fits_part" 346,.str "_law_fits_part" 347,.str "/claim/cut.py" 348,.int 98 0,.int 2 0,.int 0 0,.int 0 0,.int 3 0,.ref 142,.bool true,.int 181 0,.ref 143,.none,.ref 144,.ref 145,.ref 146,.int 351 0,.int 98 0,.str "/claim/cut.py" 352],#[]⟩),
 (148,hFn 28 "_law_fits_part" (.str "law_loggather_k10_whole_parting_lines" 320) 147),
 (152,⟨.type "code",none,.fields #[.str "_law_fits" 354,.str "_law_fits" 355,.str "/claim/cut.py" 356,.int 102 0,.int 2 0,.int 0 0,.int 0 0,.int 3 0,.ref 149,.bool true,.int 181 0,.ref 150,.none,.none,.none,.ref 151,.int 357 0,.int 102 0,.str "/claim/cut.py" 358],#[]⟩),
 (153,hFn 29 "_law_fits" (.str "law_loggather_k10_whole_parting_lines" 320) 152),
 (157,⟨.type "code",none,.fields #[.str "_law_word" 360,.str "_law_word" 361,.str "/claim/cut.py" 362,.int 107 0,.int 1 0,.int 0 0,.int 0 0,.int 3 0,.ref 154,.bool true,.int 181 0,.ref 155,.none,.none,.none,.ref 156,.int 363 0,.int 107 0,.str "/claim/cut.py" 364],#[]⟩),
 (158,hFn 30 "_law_word" (.str "law_loggather_k10_whole_parting_lines" 320) 157),
 (162,⟨.type "code",none,.fields #[.str "_law_line" 366,.str "_law_line" 367,.str "/claim/cut.py" 368,.int 117 0,.int 2 0,.int 0 0,.int 0 0,.int 3 0,.ref 159,.bool true,.int 181 0,.ref 160,.none,.none,.none,.ref 161,.int 369 0,.int 117 0,.str "/claim/cut.py" 370],#[]⟩),
 (163,hFn 31 "_law_line" (.str "law_loggather_k10_whole_parting_lines" 320) 162),
 (167,⟨.type "code",none,.fields #[.str "_law_lines" 372,.str "_law_lines" 373,.str "/claim/cut.py" 374,.int 119 0,.int 2 0,.int 0 0,.int 0 0,.int 3 0,.ref 164,.bool true,.int 181 0,.ref 165,.none,.none,.none,.ref 166,.int 375 0,.int 119 0,.str "/claim/cut.py" 376],#[]⟩),
 (168,hFn 32 "_law_lines" (.str "law_loggather_k10_whole_parting_lines" 320) 167),
 (174,⟨.type "code",none,.fields #[.str "_law_pattern" 378,.str "_law_pattern" 379,.str "/claim/cut.py" 380,.int 130 0,.int 2 0,.int 0 0,.int 0 0,.int 3 0,.ref 169,.bool true,.int 181 0,.ref 170,.none,.ref 171,.ref 172,.ref 173,.int 387 0,.int 130 0,.str "/claim/cut.py" 388],#[]⟩),
 (175,hFn 33 "_law_pattern" (.str "law_loggather_k10_whole_parting_lines" 320) 174),
 (181,⟨.type "code",none,.fields #[.str "_law_patterns" 390,.str "_law_patterns" 391,.str "/claim/cut.py" 392,.int 142 0,.int 1 0,.int 0 0,.int 0 0,.int 3 0,.ref 176,.bool true,.int 181 0,.ref 177,.none,.ref 178,.ref 179,.ref 180,.int 399 0,.int 142 0,.str "/claim/cut.py" 400],#[]⟩),
 (182,hFn 34 "_law_patterns" (.str "law_loggather_k10_whole_parting_lines" 320) 181),
 (186,⟨.type "code",none,.fields #[.str "_law_words" 402,.str "_law_words" 403,.str "/claim/cut.py" 404,.int 154 0,.int 2 0,.int 0 0,.int 0 0,.int 3 0,.ref 183,.bool true,.int 181 0,.ref 184,.none,.none,.none,.ref 185,.int 405 0,.int 154 0,.str "/claim/cut.py" 406],#[]⟩),
 (187,hFn 35 "_law_words" (.str "law_loggather_k10_whole_parting_lines" 320) 186),
 (191,⟨.type "code",none,.fields #[.str "_law_sought" 408,.str "_law_sought" 409,.str "/claim/cut.py" 410,.int 159 0,.int 5 0,.int 0 0,.int 0 0,.int 3 0,.ref 188,.bool true,.int 181 0,.ref 189,.none,.none,.none,.ref 190,.int 411 0,.int 159 0,.str "/claim/cut.py" 412],#[]⟩),
 (192,hFn 36 "_law_sought" (.str "law_loggather_k10_whole_parting_lines" 320) 191),
 (196,⟨.type "code",none,.fields #[.str "_law_due" 414,.str "_law_due" 415,.str "/claim/cut.py" 416,.int 172 0,.int 2 0,.int 0 0,.int 0 0,.int 3 0,.ref 193,.bool true,.int 181 0,.ref 194,.none,.none,.none,.ref 195,.int 417 0,.int 172 0,.str "/claim/cut.py" 418],#[]⟩),
 (197,hFn 37 "_law_due" (.str "law_loggather_k10_whole_parting_lines" 320) 196),
 (201,⟨.type "code",none,.fields #[.str "_law_is_of" 420,.str "_law_is_of" 421,.str "/claim/cut.py" 422,.int 180 0,.int 2 0,.int 0 0,.int 0 0,.int 3 0,.ref 198,.bool true,.int 181 0,.ref 199,.none,.none,.none,.ref 200,.int 423 0,.int 180 0,.str "/claim/cut.py" 424],#[]⟩),
 (202,hFn 38 "_law_is_of" (.str "law_loggather_k10_whole_parting_lines" 320) 201),
 (206,⟨.type "code",none,.fields #[.str "_law_right" 426,.str "_law_right" 427,.str "/claim/cut.py" 428,.int 182 0,.int 3 0,.int 0 0,.int 0 0,.int 3 0,.ref 203,.bool true,.int 181 0,.ref 204,.none,.none,.none,.ref 205,.int 429 0,.int 182 0,.str "/claim/cut.py" 430],#[]⟩),
 (207,hFn 39 "_law_right" (.str "law_loggather_k10_whole_parting_lines" 320) 206),
 (211,⟨.type "code",none,.fields #[.str "law" 432,.str "law" 433,.str "/claim/cut.py" 434,.int 194 0,.int 1 0,.int 0 0,.int 0 0,.int 3 0,.ref 208,.bool true,.int 181 0,.ref 209,.none,.none,.none,.ref 210,.int 435 0,.int 194 0,.str "/claim/cut.py" 436],#[]⟩),
 (212,hFn 40 "law" (.str "law_loggather_k10_whole_parting_lines" 320) 211)]
def hH:PySem.W.Hook:=PySem.W.kHook hK [3,20,21,27,28,34,35,41,42,48,49,53,54,60,61,67,68,74,75,79,80,84,85,89,90,94,95,99,100,104,105,109,110,114,115,121,122,128,129,135,136,140,141,147,148,152,153,157,158,162,163,167,168,174,175,181,182,186,187,191,192,196,197,201,202,206,207,211,212] fun _=>by kernel_rfl
def hX (s:Shared):Bool:=PySem.W.xlAt hV [] s && PySem.W.recOk (PySem.W.RowW.records (PySem.W.OpenRow.toRowW (PySem.W.OpenLaw.row PySem.Challenge.rw_loggather_k10_whole_parting_lines))) s
theorem hL:PySem.W.LeftO PySem.Challenge.pw_loggather_k10_whole_parting_lines hV [] hX hH.obs hH.val 2142:=fun w=>by kernel_rfl
theorem hX1 {s:Shared} (e:hX s=true):PySem.W.xlAt hV [] s=true:=by unfold hX at e;exact (Bool.and_eq_true_iff.mp e).1
theorem hX2 {s:Shared} (e:hX s=true):PySem.W.recOk (PySem.W.RowW.records (PySem.W.OpenRow.toRowW (PySem.W.OpenLaw.row PySem.Challenge.rw_loggather_k10_whole_parting_lines))) s=true:=by unfold hX at e;exact (Bool.and_eq_true_iff.mp e).2
theorem hS:PySem.Challenge.rw_loggather_k10_whole_parting_lines.wellSaid=true:=by kernel_rfl
abbrev hFo (i:Nat) (x:Str) (m:Value) (c:Nat):FuncData:=PySem.W.fnOf x x (defArgs (top i)) (defBody (top i)) (defScope (top i)) .none .none .none m none (.ref c) .none
theorem hDf {P:Params}{h:Heap}{mg:Str→Option Value}{i f c:Nat}{x:Str}{m:Value} (X:(hK P).In h) (G:h.Ns mainGlobals mg) (ps:List Str) (l:(hK P).lookup f=some (hFn i x m c)) (d:PySem.W.codeIn (hK P) (.ref c) x=true) (k:PySem.W.keepIn (hK P) (.ref f)=true) (a:PySem.W.nsIn (hK P) mainGlobals x=some (some (.ref f)))
  (b:∀ (kV doc pm:Value) (an:Option Addr) (cdv ct:Value) (us:List Value),us.length=ps.length→bindArgs (PySem.W.fnOf x x (defArgs (top i)) (defBody (top i)) (defScope (top i)) .none kV doc pm an cdv ct) ⟨us,[]⟩=pure (ps.zip us)):DefAt (hK P) mg x (top i) ps f (hFo i x m c):=
 have F:Fun (hK P) x x (top i) f (hFo i x m c):=fun_mk l d k
 ⟨F,F.binds b,PySem.W.mg_of X G a⟩
theorem on1 {C:List Value→Prop} (h:∀ a0,C [a0]):∀ us:List Value,us.length=1→C us
 | [a0],_=>h a0
theorem on2 {C:List Value→Prop} (h:∀ a0 a1,C [a0,a1]):∀ us:List Value,us.length=2→C us
 | [a0,a1],_=>h a0 a1
theorem on3 {C:List Value→Prop} (h:∀ a0 a1 a2,C [a0,a1,a2]):∀ us:List Value,us.length=3→C us
 | [a0,a1,a2],_=>h a0 a1 a2
theorem on5 {C:List Value→Prop} (h:∀ a0 a1 a2 a3 a4,C [a0,a1,a2,a3,a4]):∀ us:List Value,us.length=5→C us
 | [a0,a1,a2,a3,a4],_=>h a0 a1 a2 a3 a4
def hA:Ad:=⟨21,hFo 4 "has_only" (.str "loggather.words" 187) 20,28,hFo 5 "is_word" (.str "loggather.words" 187) 27,35,hFo 6 "kind_of" (.str "loggather.words" 187) 34,42,hFo 7 "words_of" (.str "loggather.words" 187) 41,49,hFo 8 "word_key" (.str "loggather.words" 187) 48,54,hFo 9 "line_key" (.str "loggather.words" 187) 53,61,hFo 11 "is_hole" (.str "loggather.patterns" 237) 60,68,hFo 12 "part_takes" (.str "loggather.patterns" 237) 67,75,hFo 13 "is_part_within" (.str "loggather.patterns" 237) 74,80,hFo 14 "is_within" (.str "loggather.patterns" 237) 79,85,hFo 16 "least_word_but" (.str "loggather.alike" 268) 84,90,hFo 17 "is_needless" (.str "loggather.alike" 268) 89,95,hFo 18 "words_to_try" (.str "loggather.alike" 268) 94,100,hFo 19 "behind" (.str "loggather.alike" 268) 99,105,hFo 20 "first_word_past" (.str "loggather.alike" 268) 104,110,hFo 21 "least_line_past" (.str "loggather.alike" 268) 109,115,hFo 22 "lines_past" (.str "loggather.alike" 268) 114,122,hFo 23 "parting_line" (.str "loggather.alike" 268) 121,129,hFo 25 "_law_deck" (.str "law_loggather_k10_whole_parting_lines" 320) 128,136,hFo 26 "_law_pick" (.str "law_loggather_k10_whole_parting_lines" 320) 135,141,hFo 27 "_law_kind" (.str "law_loggather_k10_whole_parting_lines" 320) 140,148,hFo 28 "_law_fits_part" (.str "law_loggather_k10_whole_parting_lines" 320) 147,153,hFo 29 "_law_fits" (.str "law_loggather_k10_whole_parting_lines" 320) 152,158,hFo 30 "_law_word" (.str "law_loggather_k10_whole_parting_lines" 320) 157,163,hFo 31 "_law_line" (.str "law_loggather_k10_whole_parting_lines" 320) 162,168,hFo 32 "_law_lines" (.str "law_loggather_k10_whole_parting_lines" 320) 167,175,hFo 33 "_law_pattern" (.str "law_loggather_k10_whole_parting_lines" 320) 174,182,hFo 34 "_law_patterns" (.str "law_loggather_k10_whole_parting_lines" 320) 181,187,hFo 35 "_law_words" (.str "law_loggather_k10_whole_parting_lines" 320) 186,192,hFo 36 "_law_sought" (.str "law_loggather_k10_whole_parting_lines" 320) 191,197,hFo 37 "_law_due" (.str "law_loggather_k10_whole_parting_lines" 320) 196,202,hFo 38 "_law_is_of" (.str "law_loggather_k10_whole_parting_lines" 320) 201,207,hFo 39 "_law_right" (.str "law_loggather_k10_whole_parting_lines" 320) 206,212,hFo 40 "law" (.str "law_loggather_k10_whole_parting_lines" 320) 211⟩
set_option maxHeartbeats 8000000 in
theorem hT {P:Params}{h:Heap}{mg:Str→Option Value} (X:(hK P).In h) (G:h.Ns mainGlobals mg):Tx (hK P) mg hA:=⟨PySem.W.mg_none_of X G (by kernel_rfl),
 PySem.W.mg_none_of X G (by kernel_rfl),
 PySem.W.mg_none_of X G (by kernel_rfl),
 PySem.W.mg_none_of X G (by kernel_rfl),
 PySem.W.mg_none_of X G (by kernel_rfl),
 PySem.W.mg_none_of X G (by kernel_rfl),
 PySem.W.mg_none_of X G (by kernel_rfl),
 PySem.W.mg_none_of X G (by kernel_rfl),
 PySem.W.mg_none_of X G (by kernel_rfl),
 PySem.W.mg_none_of X G (by kernel_rfl),
 PySem.W.mg_none_of X G (by kernel_rfl),
 PySem.W.mg_none_of X G (by kernel_rfl),
 (by rw [FIGS_is];exact ⟨189,PySem.W.mg_of X G (by kernel_rfl)⟩),
 (by rw [LOWS_is];exact ⟨191,PySem.W.mg_of X G (by kernel_rfl)⟩),
 (by rw [SIGNS_is];exact ⟨193,PySem.W.mg_of X G (by kernel_rfl)⟩),
 hDf X G ["text", "signs"] rfl (by kernel_rfl) (by kernel_rfl) (by kernel_rfl) fun _ _ _ _ _ _=>on2 fun _ _=>rfl,
 hDf X G ["thing"] rfl (by kernel_rfl) (by kernel_rfl) (by kernel_rfl) fun _ _ _ _ _ _=>on1 fun _=>rfl,
 hDf X G ["word"] rfl (by kernel_rfl) (by kernel_rfl) (by kernel_rfl) fun _ _ _ _ _ _=>on1 fun _=>rfl,
 hDf X G ["line"] rfl (by kernel_rfl) (by kernel_rfl) (by kernel_rfl) fun _ _ _ _ _ _=>on1 fun _=>rfl,
 hDf X G ["word"] rfl (by kernel_rfl) (by kernel_rfl) (by kernel_rfl) fun _ _ _ _ _ _=>on1 fun _=>rfl,
 hDf X G ["line"] rfl (by kernel_rfl) (by kernel_rfl) (by kernel_rfl) fun _ _ _ _ _ _=>on1 fun _=>rfl,
 hDf X G ["part"] rfl (by kernel_rfl) (by kernel_rfl) (by kernel_rfl) fun _ _ _ _ _ _=>on1 fun _=>rfl,
 hDf X G ["part", "word"] rfl (by kernel_rfl) (by kernel_rfl) (by kernel_rfl) fun _ _ _ _ _ _=>on2 fun _ _=>rfl,
 hDf X G ["one", "other"] rfl (by kernel_rfl) (by kernel_rfl) (by kernel_rfl) fun _ _ _ _ _ _=>on2 fun _ _=>rfl,
 hDf X G ["one", "other"] rfl (by kernel_rfl) (by kernel_rfl) (by kernel_rfl) fun _ _ _ _ _ _=>on2 fun _ _=>rfl,
 hDf X G ["kind", "words"] rfl (by kernel_rfl) (by kernel_rfl) (by kernel_rfl) fun _ _ _ _ _ _=>on2 fun _ _=>rfl,
 hDf X G ["pattern", "others"] rfl (by kernel_rfl) (by kernel_rfl) (by kernel_rfl) fun _ _ _ _ _ _=>on2 fun _ _=>rfl,
 hDf X G ["part", "beside"] rfl (by kernel_rfl) (by kernel_rfl) (by kernel_rfl) fun _ _ _ _ _ _=>on2 fun _ _=>rfl,
 hDf X G ["patterns", "word"] rfl (by kernel_rfl) (by kernel_rfl) (by kernel_rfl) fun _ _ _ _ _ _=>on2 fun _ _=>rfl,
 hDf X G ["pattern", "others"] rfl (by kernel_rfl) (by kernel_rfl) (by kernel_rfl) fun _ _ _ _ _ _=>on2 fun _ _=>rfl,
 hDf X G ["pattern", "others"] rfl (by kernel_rfl) (by kernel_rfl) (by kernel_rfl) fun _ _ _ _ _ _=>on2 fun _ _=>rfl,
 hDf X G ["patterns", "others"] rfl (by kernel_rfl) (by kernel_rfl) (by kernel_rfl) fun _ _ _ _ _ _=>on2 fun _ _=>rfl,
 hDf X G ["one", "other"] rfl (by kernel_rfl) (by kernel_rfl) (by kernel_rfl) fun _ _ _ _ _ _=>on2 fun _ _=>rfl,
 hDf X G ["cell", "turn"] rfl (by kernel_rfl) (by kernel_rfl) (by kernel_rfl) fun _ _ _ _ _ _=>on2 fun _ _=>rfl,
 hDf X G ["deck", "many"] rfl (by kernel_rfl) (by kernel_rfl) (by kernel_rfl) fun _ _ _ _ _ _=>on2 fun _ _=>rfl,
 hDf X G ["word"] rfl (by kernel_rfl) (by kernel_rfl) (by kernel_rfl) fun _ _ _ _ _ _=>on1 fun _=>rfl,
 hDf X G ["part", "word"] rfl (by kernel_rfl) (by kernel_rfl) (by kernel_rfl) fun _ _ _ _ _ _=>on2 fun _ _=>rfl,
 hDf X G ["pattern", "line"] rfl (by kernel_rfl) (by kernel_rfl) (by kernel_rfl) fun _ _ _ _ _ _=>on2 fun _ _=>rfl,
 hDf X G ["deck"] rfl (by kernel_rfl) (by kernel_rfl) (by kernel_rfl) fun _ _ _ _ _ _=>on1 fun _=>rfl,
 hDf X G ["deck", "most"] rfl (by kernel_rfl) (by kernel_rfl) (by kernel_rfl) fun _ _ _ _ _ _=>on2 fun _ _=>rfl,
 hDf X G ["deck", "most"] rfl (by kernel_rfl) (by kernel_rfl) (by kernel_rfl) fun _ _ _ _ _ _=>on2 fun _ _=>rfl,
 hDf X G ["deck", "line"] rfl (by kernel_rfl) (by kernel_rfl) (by kernel_rfl) fun _ _ _ _ _ _=>on2 fun _ _=>rfl,
 hDf X G ["deck"] rfl (by kernel_rfl) (by kernel_rfl) (by kernel_rfl) fun _ _ _ _ _ _=>on1 fun _=>rfl,
 hDf X G ["patterns", "at"] rfl (by kernel_rfl) (by kernel_rfl) (by kernel_rfl) fun _ _ _ _ _ _=>on2 fun _ _=>rfl,
 hDf X G ["ones", "others", "at", "many", "known"] rfl (by kernel_rfl) (by kernel_rfl) (by kernel_rfl) fun _ _ _ _ _ _=>on5 fun _ _ _ _ _=>rfl,
 hDf X G ["one", "other"] rfl (by kernel_rfl) (by kernel_rfl) (by kernel_rfl) fun _ _ _ _ _ _=>on2 fun _ _=>rfl,
 hDf X G ["patterns", "line"] rfl (by kernel_rfl) (by kernel_rfl) (by kernel_rfl) fun _ _ _ _ _ _=>on2 fun _ _=>rfl,
 hDf X G ["deck", "one", "other"] rfl (by kernel_rfl) (by kernel_rfl) (by kernel_rfl) fun _ _ _ _ _ _=>on3 fun _ _ _=>rfl⟩
theorem hF (w:World) (mg:Str→Option Value) (fa:Addr) (h:Heap) (X:(hK w.params).In h) (G:h.Ns mainGlobals mg) (e:mg "law" = some (.ref fa)) :
  ∃ fd:FuncData,(∀ (s:Shared) (u:Value),BindsTo s fd ⟨[u],[]⟩ [("script",u)])∧∀ base:Heap,(hK w.params).In base→base.Ns mainGlobals mg→FnOk PySem.Challenge.rw_loggather_k10_whole_parting_lines.prog w (hK w.params) mg base CX0 19 fa fd ["script"] (sp_law (hK w.params)):=by
 have q:=e.symm.trans (PySem.W.mg_of X G (show PySem.W.nsIn (hK w.params) mainGlobals "law" = some (some (.ref 212)) by kernel_rfl))
 cases q
 exact ⟨hFo 40 "law" (.str "law_loggather_k10_whole_parting_lines" 320) 211,fun s v=>.of_eq rfl,fun base _ _=>ok_law (A:=hA) (fun_mk rfl (by kernel_rfl) (by kernel_rfl)) (hT X G)⟩
abbrev hSp:=sp_law
end K10
open PySem PySem.W PyProof.Rows
set_option maxRecDepth 100000 in
set_option maxHeartbeats 0 in
theorem PySem.Challenge.cw_loggather_k10_whole_parting_lines_holds : PySem.Challenge.rw_loggather_k10_whole_parting_lines.Holds := by
 refine holds_law K10.hS fun said=>@PySem.W.holds_open (OpenLaw.row PySem.Challenge.rw_loggather_k10_whole_parting_lines) K10.hV [] K10.hX (XL K10.hV []) _ K10.hH.obs K10.hH.val K10.hH.says ?dr ?kw 2142 K10.hL K10.hH.of K10.hH.keeps
  (fun s e=>xl_of s (K10.hX1 e)) XL.keeps ?x1 ?x2 ?x3 (fun s e=>recFacts_of (K10.hX2 e)) ?x4 said ?x5 ?x6 ?hw ?hc
 case x1=>exact rfl
 case x2=>exact rfl
 case x3=>exact rfl
 case x4=>rfl
 case x5=>decide +kernel
 case x6=>exact ⟨rfl,rfl,rfl,rfl,rfl,by decide +kernel⟩
 case hw=>w_witness2
 exact L2.walk_of (l:=PySem.Challenge.rw_loggather_k10_whole_parting_lines) (n:=63) (k:=19) (x:= "script") (CX:=fun _=>L2.CX0) (sp:=fun w=>K10.hSp (K10.hK w.params)) rfl (by decide) rfl ⟨rfl,by decide,by decide,rfl⟩ (fun w h Y=>PySem.W.kIn_of Y) K10.hF (fun _ _ a ns hl _ hS=>⟨a,ns,rfl,hS,hl,fun _=>rfl⟩) fun _ _ _ _ _ z=>z
