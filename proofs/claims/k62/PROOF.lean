import PyProof.Rows.All
import Wide.All
import OpenK.AllK
import Wide.FinOn
import Lean
import PyProof.EqAt
import PyProof.EqKinds
import PyProof.TupleCall
import PySem.Challenge.RW_outweave_k62_plans_refused
set_option Elab.async false
set_option linter.all false
set_option maxRecDepth 100000
set_option maxHeartbeats 4000000
section
open PySem PyProof.Rows
abbrev za:=@wpAny_bind
abbrev zb:=@wpAny_pure
abbrev zc:=@Nat.le_refl
abbrev zd:=@Heap.lt_size
abbrev ze:=@List.map_cons
abbrev zf:=@Heap.get?_push_of_some
abbrev zg:=@Bool.and_eq_true
abbrev zh:=@decide_eq_true
abbrev zj:=@List.mem_cons
abbrev zk:=@Bool.false_ne_true
abbrev zl:=@Nat.ne_of_lt
abbrev zm:=@decide_eq_false
abbrev zn:=@List.getElem?_eq_some_iff
abbrev zo:=@List.length_map
abbrev zp:=@List.size_toArray
abbrev zq:=@List.getElem?_set_ne
abbrev zr:=@wpAny_mono
abbrev zt:=@List.mem_singleton
abbrev zu:=@List.getElem?_append_left
abbrev zv:=@Nat.lt_of_lt_of_le
abbrev zw:=@List.getElem?_append_right
abbrev zx:=@List.length_append
abbrev zy:=@List.getElem?_eq_getElem
abbrev zz:=@Nat.le_trans
abbrev zA:=@List.mem_append
abbrev zB:=@List.getElem?_map
abbrev zC:=@wpAny_holding
abbrev zD:=@Heap.get?_push_size
abbrev zE:=@List.mem_cons_of_mem
abbrev zF:=@List.map_append
abbrev zG:=@Option.some.inj
abbrev zH:=@Nat.lt_irrefl
abbrev zI:=@List.getElem?_set_self
abbrev zJ:=@List.length_cons
abbrev zK:=@List.mem_cons_self
abbrev zL:=@List.append_nil
abbrev zM:=@List.length_set
abbrev zN:=@List.mem_append_right
abbrev zO:=@List.getD_eq_getElem?_getD
abbrev zP:=@List.mem_of_getElem?
abbrev zQ:=@Int.emod_nonneg
abbrev zR:=@wpAny_call
abbrev zS:=@List.getElem?_cons_zero
abbrev zT:=@wpAny_rule
abbrev zU:=@List.mem_map
abbrev zV:=@Int.emod_lt_of_pos
abbrev zW:=@wpAny_of_eq
abbrev zX:=@List.nil_append
abbrev zY:=@Heap.get?_update_other
abbrev zZ:=@List.append_assoc
abbrev jc:=@List.map_nil
abbrev jd:=@List.getElem_mem
abbrev je:=@List.getElem?_cons_succ
abbrev jf:=@Nat.lt_succ_self
abbrev jg:=@List.length_singleton
abbrev jh:=@List.all_eq_true
abbrev ji:=@Classical.not_not
abbrev jj:=@codeAny_builtin
abbrev jk:=@List.nodup_append
end
namespace PySem.W.Fast
abbrev tw18418465876243066102:=()
abbrev tw14918625223107292767:=()
abbrev tw13939818287724322938:=()
abbrev tw15220647709031333455:=()
abbrev tw16311316056470300915:=()
abbrev tw2003441943668952250:=()
abbrev tw10825885048845166843:=()
abbrev tw14728598773951944614:=()
abbrev tw1335046133416188149:=()
abbrev tw17155481314195294346:=()
abbrev tw2105774960250699751:=()
abbrev tw6518290718385873144:=()
abbrev tw6192223966120790886:=()
abbrev tw6384355749766557105:=()
abbrev tw15232911879806080222:=()
abbrev tw275974266073626388:=()
abbrev tw10761646573733913469:=()
abbrev tw9152190443116353811:=()
abbrev tw12998286671970341406:=()
abbrev tw5965457870504484749:=()
abbrev tw9178719386320867606:=()
abbrev tw15607741535772925982:=()
abbrev tw13947893611043130263:=()
abbrev tw7669610440308330343:=()
abbrev tw2592820383564079908:=()
abbrev tw9892465547427568725:=()
end PySem.W.Fast
namespace L2
open PySem PySem.Spec PyProof.Rows
abbrev Key:=Sum Int Str
def QeV:Key→Value→Bool
 | .inl k,v=>Value.isInt k v
 | .inr x,v=>Value.isStrOf x v
def Qu7 (w:World):Key→Int
 | .inl k=>hashInt k
 | .inr x=>hashStr w x
theorem Qb7:∀{k:Key}{v:Value},QeV k v=true→(∃i t,k=Sum.inl i∧v=Value.int i t)∨(∃x t,k=Sum.inr x∧v=Value.str x t)
 | .inl i,v,h=>by
  obtain ⟨t,e⟩:=Value.isInt_shape (k:=i) (v:=v) h;exact .inl ⟨i,t,rfl,e⟩
 | .inr x,v,h=>by
  obtain ⟨t,e⟩:=Value.isStrOf_shape (x:=x) (v:=v) h;exact .inr ⟨x,t,rfl,e⟩
theorem Qnt (i:Int) (t:Tok):QeV (.inl i) (.int i t)=true:=by simp [QeV,Value.isInt]
theorem Qn3 (x:Str) (t:Tok):QeV (.inr x) (.str x t)=true:=by simp [QeV,Value.isStrOf]
theorem Qst (a b:Int):decide ((Sum.inl a:Key)=Sum.inl b)=(a == b):=by
 by_cases e:a=b
 ·subst e; simp
 ·have h:¬(Sum.inl a:Key)=Sum.inl b:=fun q=>e (Sum.inl.inj q)
  rw [zm h];exact (beq_eq_false_iff_ne.mpr e).symm
theorem QrN (a b:Str):decide ((Sum.inr a:Key)=Sum.inr b)=decide (a=b):=by
 by_cases e:a=b
 ·subst e; simp
 ·have h:¬(Sum.inr a:Key)=Sum.inr b:=fun q=>e (Sum.inr.inj q)
  rw [zm h,zm e]
theorem Qs1 (a:Int) (b:Str):decide ((Sum.inl a:Key)=Sum.inr b)=false:=zm (fun q=>nomatch q)
theorem Qr2 (a:Str) (b:Int):decide ((Sum.inr a:Key)=Sum.inl b)=false:=zm (fun q=>nomatch q)
def Qb5 (prog:Program) (w:World):PySem.KeyKind prog w Key where
 is:=QeV
 hash:=Qu7 w
 inj:=fun v a b ha hb=>by
  rcases Qb7 ha with ⟨i,t,rfl,rfl⟩ | ⟨x,t,rfl,rfl⟩
  ·rcases Qb7 hb with ⟨j,u,rfl,e⟩ | ⟨y,u,rfl,e⟩
   ·injection e with e1 _; rw [e1]
   ·exact nomatch e
  ·rcases Qb7 hb with ⟨j,u,rfl,e⟩ | ⟨y,u,rfl,e⟩
   ·exact nomatch e
   ·injection e with e1 _; rw [e1]
 byValue:=fun k v h=>by
  rcases Qb7 h with ⟨i,t,rfl,rfl⟩ | ⟨x,t,rfl,rfl⟩ <;> rfl
 pyHash:=fun hv h=>by
  rcases Qb7 hv with ⟨i,t,rfl,rfl⟩ | ⟨x,t,rfl,rfl⟩
  ·exact wpAny_pyHash_int h
  ·exact wpAny_pyHash_str h
 eqBool:=fun hu hv h=>by
  rcases Qb7 hu with ⟨i,t,rfl,rfl⟩ | ⟨x,t,rfl,rfl⟩
  ·rcases Qb7 hv with ⟨j,u,rfl,rfl⟩ | ⟨y,u,rfl,rfl⟩
   ·rw [Qst] at h; exact wpAny_eqBool_int h
   ·rw [Qs1] at h; exact SeqAt.EqAt.int_str i t y u _ _ _ _ h
  ·rcases Qb7 hv with ⟨j,u,rfl,rfl⟩ | ⟨y,u,rfl,rfl⟩
   ·rw [Qr2] at h; exact SeqAt.EqAt.str_int x t j u _ _ _ _ h
   ·rw [QrN] at h; exact wpAny_eqBool_str h
 «strs»:=fun k x t v h=>by
  rcases Qb7 h with ⟨i,u,rfl,e⟩ | ⟨y,u,rfl,e⟩
  ·exact nomatch e
  ·injection e with e1 _
   subst e1
   cases v <;> rfl
theorem Qk4 (prog:Program) (w:World) (i:Int) (t:Tok):(Qb5 prog w).is (.inl i) (.int i t)=true:=Qnt i t
theorem Qk7 (prog:Program) (w:World) (x:Str) (t:Tok):(Qb5 prog w).is (.inr x) (.str x t)=true:=Qn3 x t
inductive V where
 | non | bl (b:Bool) | int (i:Int) | str (x:Str) | byt (b:Array UInt8) | flt (b:UInt64) | ref (a:Addr) | ty (n:String)
 deriving DecidableEq
def RelV:V→Value→Prop
 | .non,u=>u=Value.none
 | .bl b,u=>u=Value.bool b
 | .int i,u=>∃t,u=Value.int i t
 | .str x,u=>∃t,u=Value.str x t
 | .byt b,u=>∃t,u=Value.bytes b t
 | .flt b,u=>∃t,u=Value.float b t
 | .ref a,u=>u=Value.ref a
 | .ty n,u=>u=Value.type n
abbrev Qaz:List V→List Value→Prop:=Paired RelV
theorem Qaz.length {xs:List V}{us:List Value} (r:Qaz xs us):xs.length=us.length:=Paired.length r
theorem Qaz.get:∀{xs:List V}{us:List Value}{i:Nat}{x:V},Qaz xs us→xs[i]? = some x→∃u,us[i]? = some u∧RelV x u
 | _,_,_,_,.nil,e=>by simp at e
 | _,_,0,_,.cons r _,e=>by simp at e; subst e; exact ⟨_,rfl,r⟩
 | _,_,i+1,x,.cons _ t,e=>by
  obtain ⟨u,h1,h2⟩:=Qaz.get (i:=i) (x:=x) t (by simpa using e);exact ⟨u,by simpa using h1,h2⟩
theorem Qaz.set {x:V}{u:Value} (r:RelV x u):∀{xs:List V}{us:List Value} (i:Nat),Qaz xs us→Qaz (xs.set i x) (us.set i u)
 | _,_,_,.nil=>.nil
 | _,_,0,.cons _ t=>.cons r t
 | _,_,i+1,.cons q t=>.cons q (Qaz.set r i t)
theorem Qaz.append:∀{xs ys:List V}{us ws:List Value},Qaz xs us→Qaz ys ws→Qaz (xs++ys) (us++ws)
 | _,_,_,_,.nil,s=>s
 | _,_,_,_,.cons r t,s=>.cons r (Qaz.append t s)
theorem Qaz.take:∀{xs:List V}{us:List Value} (n:Nat),Qaz xs us→Qaz (xs.take n) (us.take n)
 | _,_,0,_=>.nil
 | _,_,_+1,.nil=>.nil
 | _,_,n+1,.cons r t=>.cons r (Qaz.take n t)
theorem Qaz.drop:∀{xs:List V}{us:List Value} (n:Nat),Qaz xs us→Qaz (xs.drop n) (us.drop n)
 | _,_,0,r=>r
 | _,_,_+1,.nil=>.nil
 | _,_,n+1,.cons _ t=>Qaz.drop n t
theorem Qaz.none_of:∀{xs:List V}{us:List Value}{i:Nat},Qaz xs us→xs[i]? = none→us[i]? = none:=fun {xs us i} r e=>by
 have h1:=r.length;have h2:xs.length≤i:=List.getElem?_eq_none_iff.mp e;exact List.getElem?_eq_none_iff.mpr (by omega)
def Qc4:Option V→Option Value→Prop
 | some v,some u=>RelV v u
 | none,none=>True
 | _,_=>False
def KV {κ:Type}:List (κ×V)→List (κ×Value)→Prop:=Paired fun (p:κ×V) (q:κ×Value)=>p.1=q.1∧RelV p.2 q.2
def kV:Key→V
 | .inl i=>.int i
 | .inr x=>.str x
inductive HO where
  | lst (xs:List V)
  | tup (xs:List V)
  | dK (kvs:List (Key×V)) | dT (kvs:List (List Key×V))
  | set (S:Int→Bool) (n:Nat)
  | ins (C dx:Addr) (fs:List (Str×V))
  | own (x:Addr)
  | xd (fs:List (Str×V))
  | met (f x:Addr)
  | rng (lo hi:Int)
  | frz (o:Obj) (u:HO)
  | tbl (ps:Array Value)
  | ext (φ:Heap→Prop)
abbrev Hp:=Addr→Option HO
def upd (H:Hp) (a:Addr) (o:HO):Hp:=fun b=>if b=a then some o else H b
theorem QaE {H:Hp}{a:Addr}{o:HO}:upd H a o a=some o:=by unfold upd; rw [if_pos rfl]
theorem Qan {H:Hp}{a b:Addr}{o:HO} (h:b≠a):upd H a o b=H b:=by unfold upd; rw [if_neg h]
theorem ne_of {H:Hp}{a b:Addr}{o u:HO} (h:H a=some o) (h':H b=some u) (d:o≠u):a≠b:=by
 intro e; subst e; rw [h] at h'; exact d (zG h')
theorem QaA {H:Hp}{a b:Addr}{o:HO} (h:H a=some o) (h':H b=none):a≠b:=by
 intro e; subst e; rw [h] at h'; cases h'
section
variable (P:Program) (w:World)
def Qbh (H:Hp) (h:Heap) (a:Addr):HO→Prop
 | .lst xs=>xs.length≤sizeLine∧∃(its:List Value) (n:Nat),Qaz xs its∧h.get? a=some { cls:=.type "list",data:=.seq its.toArray n }
 | .tup xs=>xs.length≤sizeLine∧∃its:List Value,Qaz xs its∧IsTup h a its.toArray
 | .dK kvs=>kvs.length≤sizeLine∧(a == sysModules)=false∧∃vs,KV kvs vs∧h.DictOf (Qb5 P w) a vs
 | .dT kvs=>kvs.length≤sizeLine∧(a == sysModules)=false∧∃xs:List (List Key×Addr×Value),
   Paired (fun (p:List Key×V) (q:List Key×Addr×Value)=>p.1=q.1∧H q.2.1=some (.tup (p.1.map kV))∧RelV p.2 q.2.2) kvs xs ∧
   ∃o es ep,h.get? a=some o∧o.ExactDict∧o.data = .dict es ep∧es.toList=xs.map (entryOfKey (tupleKind (Qb5 P w)))∧(xs.map (·.1)).Nodup
 | .set S n=>h.SetOf (intKind P w) a S n
 | .ins C dx fs=>H dx=some (.own a)∧fs.length≤1000∧dx≠a∧h.get? a=some (PySem.W.instObj C dx) ∧
   ∃mA,h.Ns1 dx mA∧(∀f,Qc4 (fs.lookup f) (mA f))∧PySem.Within mA (fs.map (·.1))
 | .own _=>∃o,h.get? a=some o
 | .xd fs=>∃mA,h.Ns1 a mA∧∀f,Qc4 (fs.lookup f) (mA f)
 | .rng lo hi=>∃t u v,h.get? a=some { cls:=.type "range",data:=.fields #[.int lo t,.int hi u,.int 1 v] }
 | .frz o u=>h.get? a=some o∧Qbh H h a u
 | .tbl ps=>h.get? a=some { cls:=.none,data:=.fields ps }
 | .met f x=>h.get? a=some (PySem.W.methodObj (.ref f) (.ref x))
 | .ext φ=>φ h∧(∃o,h.get? a=some o)∧∀h1 h2:Heap,φ h1→(∀o,h1.get? a=some o→h2.get? a=some o)→φ h2
def HOk (H:Hp) (h:Heap):Prop:=∀a o,H a=some o→Qbh P w H h a o
end
section
variable {P:Program}{w:World}{H H':Hp}{h h':Heap}{a:Addr}{o:HO}
theorem Qbh.lt (x:Qbh P w H h a o):a < h.objs.size:=by
 cases o with
 | lst xs=>obtain ⟨_,_,_,_,e⟩:=x; exact zd e
 | tup xs=>obtain ⟨_,_,_,p⟩:=x; exact p.lt
 | dK kvs=>obtain ⟨_,_,_,_,o,_,_,e,_⟩:=x; exact zd e
 | dT kvs=>obtain ⟨_,_,_,_,o,_,_,e,_⟩:=x; exact zd e
 | set S n=>obtain ⟨o,_,_,_,e,_⟩:=x; exact zd e
 | ins C dx fs=>obtain ⟨_,_,_,e,_⟩:=x; exact zd e
 | own y=>obtain ⟨_,e⟩:=x; exact zd e
 | xd fs=>obtain ⟨_,⟨_,_,_,e,_⟩,_⟩:=x; exact zd e
 | rng lo hi=>obtain ⟨_,_,_,e⟩:=x; exact zd e
 | frz ob u=>obtain ⟨e,_⟩:=x; exact zd e
 | tbl ps=>exact zd (show h.get? a=some _ from x)
 | met f y=>exact zd (show h.get? a=some _ from x)
 | ext φ=>obtain ⟨_,⟨_,e⟩,_⟩:=x; exact zd e
theorem Paired.mapP {α β:Type}{F G:α→β→Prop}:∀{l₁:List α}{l₂:List β},Paired F l₁ l₂→(∀a b,F a b→G a b)→Paired G l₁ l₂
 | _,_,.nil,_=>.nil
 | _,_,.cons r t,f=>.cons (f _ _ r) (Paired.mapP t f)
theorem Qbh.stay (x:Qbh P w H h a o) (k:∀b u,(b=a∨H b=some (.own a))→h.get? b=some u→h'.get? b=some u)
  (ho:∀b,H b=some (.own a)→H' b=some (.own a)) (ht:∀b xs,H b=some (.tup xs)→H' b=some (.tup xs)):Qbh P w H' h' a o:=by
 induction o with
 | lst xs=>obtain ⟨z,its,n,r,e⟩:=x; exact ⟨z,its,n,r,k _ _ (.inl rfl) e⟩
 | tup xs=>obtain ⟨z,its,r,ob,e,c⟩:=x; exact ⟨z,its,r,ob,k _ _ (.inl rfl) e,c⟩
 | dK kvs=>obtain ⟨z,y,vs,r,ob,es,ep,e,c⟩:=x; exact ⟨z,y,vs,r,ob,es,ep,k _ _ (.inl rfl) e,c⟩
 | dT kvs =>
  obtain ⟨z,y,xs,r,ob,es,ep,e,c⟩:=x;exact ⟨z,y,xs,Paired.mapP r fun p q z=>⟨z.1,ht _ _ z.2.1,z.2.2⟩,ob,es,ep,k _ _ (.inl rfl) e,c⟩
 | set S n=>obtain ⟨ob,es,ep,t,e,c⟩:=x; exact ⟨ob,es,ep,t,k _ _ (.inl rfl) e,c⟩
 | ins C dx fs =>
  obtain ⟨d,z,ne,e,mA,⟨od,es,ep,e2,c⟩,r⟩:=x;exact ⟨ho _ d,z,ne,k _ _ (.inl rfl) e,mA,⟨od,es,ep,k _ _ (.inr d) e2,c⟩,r⟩
 | own y=>obtain ⟨ob,e⟩:=x; exact ⟨ob,k _ _ (.inl rfl) e⟩
 | xd fs=>obtain ⟨mA,⟨od,es,ep,e,c⟩,r⟩:=x; exact ⟨mA,⟨od,es,ep,k _ _ (.inl rfl) e,c⟩,r⟩
 | rng lo hi=>obtain ⟨t,u,v,e⟩:=x; exact ⟨t,u,v,k _ _ (.inl rfl) e⟩
 | frz ob u ih=>obtain ⟨e,q⟩:=x; exact ⟨k _ _ (.inl rfl) e,ih q⟩
 | tbl ps =>
  have e:h.get? a=some { cls:=.none,data:=.fields ps }:=x;show h'.get? a=some { cls:=.none,data:=.fields ps };exact k a _ (.inl rfl) e
 | met f y =>
  have e:h.get? a=some (PySem.W.methodObj (.ref f) (.ref y)):=x;show h'.get? a=some (PySem.W.methodObj (.ref f) (.ref y));exact k a _ (.inl rfl) e
 | ext φ=>obtain ⟨p,⟨o,e⟩,st⟩:=x; exact ⟨st _ _ p fun o q=>k _ _ (.inl rfl) q,⟨o,k _ _ (.inl rfl) e⟩,st⟩
theorem HOk.lt (x:HOk P w H h) (e:H a=some o):a < h.objs.size:=(x a o e).lt
theorem HOk.fresh (x:HOk P w H h) (e:h.objs.size≤a):H a=none:=by
 cases q:H a with
 | none=>rfl
 | some u=>exact absurd (zv (x.lt q) e) (zH _)
theorem HOk.kept (x:HOk P w H h) (k:∀b u,h.get? b=some u→h'.get? b=some u):HOk P w H h':=fun a o e =>
 (x a o e).stay (fun b u _ q=>k b u q) (fun _ q=>q) fun _ _ q=>q
theorem HOk.laid (x:HOk P w H h) (k:∀b u,h.get? b=some u→h'.get? b=some u) (hp:h.objs.size≤a) (new:Qbh P w (upd H a o) h' a o):HOk P w (upd H a o) h':=fun b u e=>by
 have hn:=x.fresh hp
 by_cases hb:b=a
 ·subst hb; rw [QaE] at e; cases e; exact new
 ·rw [Qan hb] at e
  exact (x b u e).stay (fun c v _ q=>k c v q) (fun c q=>by rw [Qan (QaA q hn)]; exact q) fun c xs q=>by rw [Qan (QaA q hn)]; exact q
end
def Rd (H:Hp) (a:Addr) (u:HO):Prop:=H a=some u∨∃o,H a=some (.frz o u)
theorem Rd.of {H:Hp}{a:Addr}{u:HO} (h:H a=some u):Rd H a u:=.inl h
theorem Rd.ok {P:Program}{w:World}{H:Hp}{h:Heap}{a:Addr}{u:HO} (r:Rd H a u) (x:HOk P w H h):Qbh P w H h a u:=by
 rcases r with r | ⟨o,r⟩
 ·exact x a u r
 ·obtain ⟨_,q⟩:=x a _ r;exact q
def Mut:Option HO→Prop
 | some (.lst _)=>True
 | some (.dK _)=>True
 | some (.dT _)=>True
 | some (.set _ _)=>True
 | some (.ins _ _ _)=>True
 | some (.ext _)=>True
 | _=>False
section
variable {P:Program}{w:World}{H:Hp}{h h':Heap}{x e:Addr}{o':HO}
theorem HOk.write (ok:HOk P w H h) (mu:Mut (H x)) (he:e=x∨H e=some (.own x)) (k:∀b u,b≠e→h.get? b=some u→h'.get? b=some u) (heo:∃u,h'.get? e=some u)
  (new:Qbh P w (upd H x o') h' x o'):HOk P w (upd H x o') h':=fun b u q=>by
 have nown:∀c y,H c=some (.own y)→c≠x:=fun c y r z=>by subst z; rw [r] at mu; exact mu
 have ntup:∀c xs,H c=some (.tup xs)→c≠x:=fun c xs r z=>by subst z; rw [r] at mu; exact mu
 by_cases hb:b=x
 ·subst hb; rw [QaE] at q; cases q; exact new
 ·rw [Qan hb] at q
  by_cases hbe:b=e
  ·have q':H b=some (.own x):=by
    rcases he with z | z
    ·exact absurd (hbe.trans z) hb
    ·rw [hbe]; exact z
   rw [q] at q'; cases q';obtain ⟨v,hv⟩:=heo;exact ⟨v,by rw [hbe]; exact hv⟩
  ·refine (ok b u q).stay (fun c v hc r=>k c v ?_ r) (fun c r=>by rw [Qan (nown c b r)]; exact r) fun c xs r=>by rw [Qan (ntup c xs r)]; exact r
   rcases hc with rfl | hc
   ·exact hbe
   ·rintro rfl
    rcases he with z | z
    ·exact nown c b hc z
    ·rw [hc] at z; cases z; exact hb rfl
end
structure Un (fs ex:List Addr) (H H':Hp) (h h':Heap):Prop where
 keep:∀b o,h.get? b=some o→H b=none→b∉fs→b∉ex→h'.get? b=some o
 slot:∀b o,h.get? b=some o→H b=none→b∈fs→b∉ex→∃sl,h'.get? b=some { o with slots:=sl }
 free:∀b o,h.get? b=some o→H b=none→b∉ex→H' b=none
 there:∀b o,h.get? b=some o→b∉ex→∃o',h'.get? b=some o'
 tups:∀b xs,H b=some (.tup xs)→H' b=some (.tup xs)
 frzs:∀b o u,H b=some (.frz o u)→H' b=some (.frz o u)
 tbls:∀b ps,H b=some (.tbl ps)→∃more,H' b=some (.tbl (ps++more))
section
variable {fs fs' ex ex':List Addr}{H H1 H2:Hp}{h h1 h2 h':Heap}{a x e:Addr}{o:HO}
theorem Un.any (u:Un fs ex H H1 h h1) {b:Addr}{ob:Obj} (q:h.get? b=some ob) (n:H b=none) (hx:b∉ex):∃sl,h1.get? b=some { ob with slots:=sl }:=by
 by_cases hb:b∈fs
 ·exact u.slot b ob q n hb hx
 ·exact ⟨ob.slots,u.keep b ob q n hb hx⟩
theorem Un.trans (a:Un fs ex H H1 h h1) (b:Un fs ex H1 H2 h1 h2):Un fs ex H H2 h h2 where
 keep:=fun c ob q n hc hx=>b.keep c ob (a.keep c ob q n hc hx) (a.free c ob q n hx) hc hx
 slot:=fun c ob q n hc hx=>by
  obtain ⟨sl,e1⟩:=a.slot c ob q n hc hx;obtain ⟨sl',e2⟩:=b.slot c _ e1 (a.free c ob q n hx) hc hx;exact ⟨sl',e2⟩
 free:=fun c ob q n hx=>by
  obtain ⟨o',e1⟩:=a.there c ob q hx;exact b.free c o' e1 (a.free c ob q n hx) hx
 there:=fun c ob q hx=>by
  obtain ⟨o',e1⟩:=a.there c ob q hx;exact b.there c o' e1 hx
 tups:=fun c xs q=>b.tups c xs (a.tups c xs q)
 frzs:=fun c ob xs q=>b.frzs c ob xs (a.frzs c ob xs q)
 tbls:=fun c ps q=>by
  obtain ⟨m1,e1⟩:=a.tbls c ps q;obtain ⟨m2,e2⟩:=b.tbls c _ e1;exact ⟨m1++m2,by rw [e2,Array.append_assoc]⟩
theorem Un.kept (k:∀b u,h.get? b=some u→h'.get? b=some u):Un fs ex H H h h' :=
 ⟨fun b ob q _ _ _=>k b ob q,fun b ob q _ _ _=>⟨ob.slots,k b ob q⟩,fun _ _ _ n _=>n,fun b ob q _=>⟨ob,k b ob q⟩,fun _ _ q=>q,fun _ _ _ q=>q,fun _ ps q=>⟨#[],by rw [q]; simp⟩⟩
theorem Un.refl:Un fs ex H H h h:=Un.kept fun _ _ q=>q
theorem Un.laid (k:∀b u,h.get? b=some u→h'.get? b=some u) (hp:h.objs.size≤a) (hn:H a=none):Un fs ex H (upd H a o) h h' where
 keep:=fun b u q _ _ _=>k b u q
 slot:=fun b u q _ _ _=>⟨u.slots,k b u q⟩
 free:=fun b u q n _=>by rw [Qan (zl (zv (zd q) hp))]; exact n
 there:=fun b u q _=>⟨u,k b u q⟩
 tups:=fun b xs q=>by rw [Qan (QaA q hn)]; exact q
 frzs:=fun b u xs q=>by rw [Qan (QaA q hn)]; exact q
 tbls:=fun b ps q=>⟨#[],by rw [Qan (QaA q hn),q]; simp⟩
theorem Un.write (mu:Mut (H x)) (he:e=x∨H e=some (.own x)) (k:∀b u,b≠e→h.get? b=some u→h'.get? b=some u) (heo:∃u,h'.get? e=some u):Un fs ex H (upd H x o) h h':=by
 have hx:∀b,H b=none→b≠x:=fun b n z=>by subst z; rw [n] at mu; exact mu
 have hb:∀b,H b=none→b≠e:=fun b n z=>by
  subst z
  rcases he with r | r
  ·exact hx b n r
  ·rw [n] at r; cases r
 have hm:∀b u,H b=some u→¬Mut (some u)→b≠x:=fun b u q nm z=>by subst z; rw [q] at mu; exact nm mu
 refine ⟨fun b u q n _ _=>k b u (hb b n) q,fun b u q n _ _=>⟨u.slots,k b u (hb b n) q⟩,fun b u q n _=>by rw [Qan (hx b n)]; exact n,fun b u q _=>?_,
  fun b xs q=>by rw [Qan (hm b _ q fun z=>z)]; exact q,fun b u xs q=>by rw [Qan (hm b _ q fun z=>z)]; exact q,fun b ps q=>⟨#[],by rw [Qan (hm b _ q fun z=>z),q]; simp⟩⟩
 by_cases hbe:b=e
 ·subst hbe; exact heo
 ·exact ⟨u,k b u hbe q⟩
theorem Un.mono (u:Un fs ex H H1 h h1) (hs:∀b∈fs,b∈fs') (hx:∀b∈ex,b∈ex'):Un fs' ex' H H1 h h1 :=
 ⟨fun b ob q n hb he=>u.keep b ob q n (fun z=>hb (hs b z)) fun z=>he (hx b z),fun _ _ q n _ he=>u.any q n fun z=>he (hx _ z),fun b ob q n he=>u.free b ob q n fun z=>he (hx b z),fun b ob q he=>u.there b ob q fun z=>he (hx b z),u.tups,u.frzs,u.tbls⟩
end
def trk (h:Heap) (H:Hp):List Addr:=(List.range h.objs.size).filter fun a=>(H a).isSome
def QdV (h:Heap) (H:Hp):Heap:=PySem.W.hideAll h (trk h H)
theorem Qjr (h:Heap) (H:Hp):(QdV h H).objs.size=h.objs.size:=PySem.W.hideAll_size _ _
theorem QkQ {h:Heap}{H:Hp}{b:Addr}{o:Obj} (e:h.get? b=some o) (n:H b=none):(QdV h H).get? b=some o :=
 PySem.W.hideAll_get _ e fun hm=>by
  have q:(H b).isSome=true:=(List.mem_filter.mp hm).2;rw [n] at q; simp at q
theorem QlF {h:Heap}{H:Hp}{b:Addr}{o:Obj} (e:(QdV h H).get? b=some o):h.get? b=some o∧H b=none:=by
 have e':h.get? b=some o:=PySem.W.of_hideAll (trk h H) e;refine ⟨e',?_⟩
 cases q:H b with
 | none=>rfl
 | some x =>
  have hm:b∈trk h H:=List.mem_filter.mpr ⟨List.mem_range.mpr (zd e'),by simp [q]⟩;have z:(QdV h H).get? b=none:=PySem.W.hideAll_none (trk h H) hm;rw [z] at e; cases e
def Qqh (g h:Heap) (L:Addr):List (Addr×Obj):=(List.range h.objs.size).filterMap fun a=>if a=L∨(g.get? a).isSome=true then none else (h.get? a).map fun o=>(a,o)
def rest (g h:Heap) (L d:Addr):List (Addr×Obj):=(Qqh g h L).filter fun p=>decide (p.1≠d)
structure Mod (K:PySem.W.Frag) (mg:Str→Option Value) (base:Heap):Prop where
 kin:K.In base
 glob:base.Ns mainGlobals mg
 blt:∃mb,base.Ns builtinsNs mb∧∀x:Str,x≠"__name__"→mb x=bootBuiltins x
 nolimit:base.NoLimit
structure Cx where
 prog:Program
 w:World
 K:PySem.W.Frag
 mg:Str→Option Value
 base:Heap
 A:Around
 N:List Str
 s₀:Shared
 H₀:Hp
 env:Env
 outer:List Env
 stack:List Env
 ex:List Addr
 fn:Str→Bool
 calm:Bool
 pn:List (Addr×Obj)
 xe:Value→Shared→Prop
def frs (l:List Env):List Addr:=l.filterMap (·.frame)
abbrev Cx.fs (X:Cx):List Addr:=frs X.outer
def Vis (sc:Scope) (x:Str):Prop:=sc.names.lookup x=some .local∨sc.names.lookup x=some .cell∨sc.names.lookup x=some .free
def Loc (sc:Scope) (x:Str):Prop:=sc.names.lookup x=some .local∨sc.names.lookup x=some .cell
def Look (env:Env) (h:Heap) (m:Str→Option Value) (x:Str) (u:Value):Prop :=
 (env.kindOf x=some .local∧m x=some u)∨((env.kindOf x=some .cell∨env.kindOf x=some .free)∧∃c,env.cells.lookup x=some c∧h.IsCell c (some u))
structure Cx.Ok (X:Cx):Prop where
 mod:Mod X.K X.mg X.base
 kind:X.env.scope.kind = .function
 glob:X.env.globals=mainGlobals
 blt:X.env.builtins=builtinsNs
 above:X.s₀.heap.objs.size≤X.env.locals
 inj:∀x y c,X.env.cells.lookup x=some c→X.env.cells.lookup y=some c→x=y
 has:∀x,(X.env.kindOf x=some .cell∨X.env.kindOf x=some .free)→∃c,X.env.cells.lookup x=some c
 cab:∀x c,X.fn x=true→X.env.cells.lookup x=some c→X.s₀.heap.objs.size≤c
 hd:X.calm=true→X.A.handled=none
 frames:X.A.frames=some X.stack
 stk:X.stack=X.outer∨(X.stack=X.env::X.outer∧X.env.frame=some X.env.locals)
 exf:∀b∈X.ex,b≠X.env.locals∧∀x c,X.env.cells.lookup x=some c→c≠b
 bs:∀b o,X.base.get? b=some o→X.s₀.heap.get? b=some o∧X.H₀ b=none
 bsz:X.base.objs.size≤X.s₀.heap.objs.size
 noex:∀b o,X.base.get? b=some o→b∉X.ex
 exfs:∀b∈X.ex,b∉X.fs
 funs:X.s₀.heap.FunFrames X.base X.outer
 frf:∀b∈X.fs,X.H₀ b=none
structure Inv (X:Cx) (pins:List (Addr×Obj)) (σ:List (Option V)) (H:Hp) (s:Shared):Prop where
 ok:X.Ok
 os:s.os=X.s₀.os
 bare:AllBare s.gens
 base:Un X.fs X.ex X.H₀ H X.s₀.heap s.heap
 loc:∃m,s.heap.Ns X.env.locals m∧∀(i:Nat) (x:Str) (v:V),X.N[i]? = some x→σ[i]? = some (some v)→Vis X.env.scope x→∃u,RelV v u∧Look X.env s.heap m x u
 cell:∀x c,X.env.cells.lookup x=some c→∃v,s.heap.IsCell c v
 free:H X.env.locals=none
 freeC:∀x c,X.env.cells.lookup x=some c→H c=none
 pin:∀p∈X.pn++pins,s.heap.get? p.1=some p.2∧H p.1=none∧p.1≠X.env.locals∧p.1∉X.fs∧∀v,p.2.data≠.cell v
 hok:HOk X.prog X.w H s.heap
 len:σ.length=X.N.length
section
variable {X:Cx}{pins:List (Addr×Obj)}{σ:List (Option V)}{H H':Hp}{s:Shared}{h':Heap}
theorem Cx.Ok.nofr (ok:X.Ok) {b:Addr}{o:Obj} (e:X.base.get? b=some o):b∉X.fs:=fun hb=>by
 have:=(ok.funs.mem hb).1
 rw [e] at this; cases this
theorem Inv.bs (I:Inv X pins σ H s):∀b o,X.base.get? b=some o→s.heap.get? b=some o∧H b=none:=fun b o e =>
 ⟨I.base.keep b o (I.ok.bs b o e).1 (I.ok.bs b o e).2 (I.ok.nofr e) (I.ok.noex b o e),I.base.free b o (I.ok.bs b o e).1 (I.ok.bs b o e).2 (I.ok.noex b o e)⟩
theorem Inv.bk (I:Inv X pins σ H s):∀b o,X.base.get? b=some o→s.heap.get? b=some o:=fun b o e=>(I.bs b o e).1
theorem Inv.mod (I:Inv X pins σ H s):Mod X.K X.mg X.base:=I.ok.mod
theorem Inv.kIn (I:Inv X pins σ H s):X.K.In s.heap:=I.ok.mod.kin.keeps I.bk
theorem Inv.nolimit (I:Inv X pins σ H s):s.heap.NoLimit:=I.ok.mod.nolimit.keeps I.bk
theorem Inv.fr (I:Inv X pins σ H s):∃m,Fr X.base X.env.locals s.heap m :=
 let ⟨m,hn,_⟩:=I.loc
 ⟨m,hn,I.bk,zz I.ok.bsz I.ok.above⟩
theorem Inv.lt (I:Inv X pins σ H s):X.env.locals < s.heap.objs.size:=let ⟨_,hn,_⟩:=I.loc; hn.lt
theorem Inv.sz (I:Inv X pins σ H s):X.s₀.heap.objs.size≤s.heap.objs.size:=zz I.ok.above (Nat.le_of_lt I.lt)
theorem Inv.nofs (I:Inv X pins σ H s) {a:Addr} (h:s.heap.objs.size≤a):a∉X.fs:=fun hb=>by
 obtain ⟨_,o,ho,_⟩:=I.ok.funs.mem hb;exact absurd (zv (zd ho) (zz I.sz h)) (zH _)
theorem Inv.cne (I:Inv X pins σ H s):∀x c,X.env.cells.lookup x=some c→c≠X.env.locals:=fun x c e z=>by
 obtain ⟨v,o,ho,hd⟩:=I.cell x c e;obtain ⟨m,⟨o',es,ep,ho',hd',_⟩,_⟩:=I.loc;rw [z,ho'] at ho; cases ho; rw [hd'] at hd; cases hd
theorem Inv.funs (I:Inv X pins σ H s):s.heap.FunFrames X.base X.outer:=by
 have all:∀(l:List Env),(∀b∈frs l,b∈X.fs)→X.s₀.heap.FunFrames X.base l→s.heap.FunFrames X.base l:=by
  intro l
  induction l with
  | nil=>intro _ _; trivial
  | cons env r ih =>
   intro hs hl;obtain ⟨hk,⟨L,o,hf,hn,ho,hd⟩,hr⟩:=hl;have hL:L∈X.fs:=hs L (by unfold frs; rw [List.filterMap_cons,hf]; exact zK)
   obtain ⟨sl,e⟩:=I.base.slot L o ho (I.ok.frf L hL) hL fun z=>I.ok.exfs L z hL
   exact ⟨hk,⟨L,_,hf,hn,e,hd⟩,ih (fun b hb=>hs b (by unfold frs; rw [List.filterMap_cons,hf]; exact zE _ hb)) hr⟩
 exact all X.outer (fun _ hb=>hb) I.ok.funs
theorem Inv.stack (I:Inv X pins σ H s):s.heap.FunFrames X.base X.stack:=by
 rcases I.ok.stk with e | ⟨e,hf⟩
 ·rw [e]; exact I.funs
 ·rw [e];obtain ⟨m,hn,_⟩:=I.loc;refine .cons (by rw [I.ok.kind]; decide) hf hn ?_ I.funs;exact Heap.get?_none_of_le (zz I.ok.bsz I.ok.above)
theorem Inv.stkSub (I:Inv X pins σ H s):∀b∈frs X.stack,b∈X.env.locals::X.fs:=fun b hb=>by
 rcases I.ok.stk with e | ⟨e,hf⟩
 ·rw [e] at hb; exact zE _ hb
 ·rw [e] at hb;unfold frs at hb;rw [List.filterMap_cons,hf] at hb;exact hb
theorem Inv.stkFree (I:Inv X pins σ H s):∀b∈frs X.stack,H b=none:=fun b hb=>by
 rcases zj.mp (I.stkSub b hb) with e | hb
 ·rw [e]; exact I.free
 ·obtain ⟨_,o,ho,_⟩:=I.ok.funs.mem hb
  exact I.base.free b o ho (I.ok.frf b hb) fun z=>I.ok.exfs b z hb
theorem Inv.step {g':Array GenState}{t':Nat}{d':Drawn}{ch:List Addr} (I:Inv X pins σ H s)
  (hch:∀b∈ch,(b∈X.ex∨X.s₀.heap.objs.size≤b)∧b≠X.env.locals∧(∀x c,X.env.cells.lookup x=some c→c≠b)∧∀p∈X.pn++pins,p.1≠b)
  (keep:∀b o,b≠X.env.locals→b∉X.fs→b∉ch→s.heap.get? b=some o→H b=none→h'.get? b=some o)
  (slot:∀b o,b≠X.env.locals→b∈X.fs→b∉ch→s.heap.get? b=some o→H b=none→∃sl,h'.get? b=some { o with slots:=sl }) (free:∀b o,b∉ch→s.heap.get? b=some o→H b=none→H' b=none)
  (there:∀b o,b∉ch→s.heap.get? b=some o→∃o',h'.get? b=some o')
  (tups:∀b xs,H b=some (.tup xs)→H' b=some (.tup xs)) (frzs:∀b o u,H b=some (.frz o u)→H' b=some (.frz o u)) (tbls:∀b ps,H b=some (.tbl ps)→∃more,H' b=some (.tbl (ps++more)))
  (ns:∀m,s.heap.Ns X.env.locals m→h'.Ns X.env.locals m) (hok:HOk X.prog X.w H' h') (hg:AllBare g') :
  Inv X pins σ H' { s with heap:=h',gens:=g',drawn:=d',toks:=t' }:=by
 have neL:∀b o,X.s₀.heap.get? b=some o→b≠X.env.locals:=fun b o e=>zl (zv (zd e) I.ok.above)
 have neC:∀b o,X.s₀.heap.get? b=some o→b∉X.ex→b∉ch:=fun b o e hx hb=>by
  rcases (hch b hb).1 with z | z
  ·exact hx z
  ·exact absurd (zv (zd e) z) (zH _)
 have cellK:∀x c,X.env.cells.lookup x=some c→∀v,s.heap.IsCell c v→h'.IsCell c v:=fun x c e v ⟨o,ho,hd⟩=>by
  have nch:c∉ch:=fun z=>(hch c z).2.2.1 x c e rfl
  by_cases hc:c∈X.fs
  ·obtain ⟨sl,q⟩:=slot c o (I.cne x c e) hc nch ho (I.freeC x c e);exact ⟨_,q,hd⟩
  ·exact ⟨o,keep c o (I.cne x c e) hc nch ho (I.freeC x c e),hd⟩
 refine ⟨I.ok,I.os,hg,⟨fun b o e n hb hx=>?_,fun b o e n hb hx=>?_,fun b o e n hx=>?_,fun b o e hx=>?_,fun b xs e=>tups b xs (I.base.tups b xs e),fun b o xs e=>frzs b o xs (I.base.frzs b o xs e),fun b ps e=>?_⟩,?_,fun x c e=>?_,?_,fun x c e=>?_,fun p hp=>?_,hok,I.len⟩
 ·exact keep b o (neL b o e) hb (neC b o e hx) (I.base.keep b o e n hb hx) (I.base.free b o e n hx)
 ·obtain ⟨sl,e1⟩:=I.base.slot b o e n hb hx;obtain ⟨sl',e2⟩:=slot b _ (neL b o e) hb (neC b o e hx) e1 (I.base.free b o e n hx);exact ⟨sl',e2⟩
 ·obtain ⟨o',e1⟩:=I.base.there b o e hx;exact free b o' (neC b o e hx) e1 (I.base.free b o e n hx)
 ·obtain ⟨o',e1⟩:=I.base.there b o e hx;exact there b o' (neC b o e hx) e1
 ·obtain ⟨m1,e1⟩:=I.base.tbls b ps e;obtain ⟨m2,e2⟩:=tbls b _ e1;exact ⟨m1++m2,by rw [e2,Array.append_assoc]⟩
 ·obtain ⟨m,hn,hl⟩:=I.loc;refine ⟨m,ns m hn,fun i x v e1 e2 e3=>?_⟩;obtain ⟨u,r,l⟩:=hl i x v e1 e2 e3;refine ⟨u,r,?_⟩
  rcases l with l | ⟨k,c,e,z⟩
  ·exact .inl l
  ·exact .inr ⟨k,c,e,cellK x c e _ z⟩
 ·obtain ⟨v,z⟩:=I.cell x c e;exact ⟨v,cellK x c e v z⟩
 ·obtain ⟨m,⟨o,_,_,ho,_⟩,_⟩:=I.loc;exact free _ o (fun z=>(hch _ z).2.1 rfl) ho I.free
 ·obtain ⟨v,o,ho,hd⟩:=I.cell x c e;exact free c o (fun z=>(hch c z).2.2.1 x c e rfl) ho (I.freeC x c e)
 ·obtain ⟨e,n,ne,nf,d⟩:=I.pin p hp
  have nch:p.1∉ch:=fun z=>(hch p.1 z).2.2.2 p hp rfl
  exact ⟨keep p.1 p.2 ne nf nch e n,free p.1 p.2 nch e n,ne,nf,d⟩
theorem Inv.un {t':Nat} (I:Inv X pins σ H s) (u:Un X.fs [] H H' s.heap h') (hok:HOk X.prog X.w H' h'):Inv X pins σ H' { s with heap:=h',toks:=t' }:=by
 obtain ⟨m,⟨o,es,ep,ho,r⟩,_⟩:=id I.loc;obtain ⟨sl,hL⟩:=u.any ho I.free (by simp)
 exact I.step (g':=s.gens) (d':=s.drawn) (ch:=[]) (fun _ z=>nomatch z) (fun b o _ hb _ e n=>u.keep b o e n hb (by simp)) (fun b o _ hb _ e n=>u.slot b o e n hb (by simp)) (fun b o _ e n=>u.free b o e n (by simp)) (fun b o _ e=>u.there b o e (by simp)) u.tups u.frzs u.tbls (fun m' hm=>by
  obtain ⟨o',es',ep',ho',r'⟩:=hm;rw [ho] at ho'; cases ho'
  exact ⟨_,es',ep',hL,r'⟩) hok I.bare
theorem Inv.call {g':Array GenState}{t':Nat}{d':Drawn}{ch:List Addr} (I:Inv X pins σ H s) (u:Un (frs X.stack) ch H H' s.heap h') (hok:HOk X.prog X.w H' h') (hg:AllBare g')
  (hch:∀b∈ch,(b∈X.ex∨X.s₀.heap.objs.size≤b)∧b≠X.env.locals∧(∀x c,X.env.cells.lookup x=some c→c≠b)∧∀p∈X.pn++pins,p.1≠b) :
  Inv X pins σ H' { s with heap:=h',gens:=g',drawn:=d',toks:=t' }:=by
 obtain ⟨m,⟨o,es,ep,ho,r⟩,_⟩:=id I.loc
 obtain ⟨sl,hL⟩:=u.any ho I.free fun z=>(hch _ z).2.1 rfl
 exact I.step (ch:=ch) hch (fun b o hL hb hc e n=>u.keep b o e n (fun z=>(zj.mp (I.stkSub b z)).elim hL hb) hc) (fun b o _ _ hc e n=>u.any e n hc) (fun b o hc e n=>u.free b o e n hc) (fun b o hc e=>u.there b o e hc) u.tups u.frzs u.tbls (fun m' hm=>by
  obtain ⟨o',es',ep',ho',r'⟩:=hm;rw [ho] at ho'; cases ho'
  exact ⟨_,es',ep',hL,r'⟩) hok hg
theorem Inv.turned {t':Nat}{it:Addr} (I:Inv X pins σ H s) (k:∀b o,b≠it→s.heap.get? b=some o→h'.get? b=some o) (hn:H it=none) (hL:it≠X.env.locals)
  (h1:it∈X.ex∨X.s₀.heap.objs.size≤it) (h2:∀x c,X.env.cells.lookup x=some c→c≠it) (h3:∀p∈X.pn++pins,p.1≠it):Inv X pins σ H { s with heap:=h',toks:=t' }:=by
 have nit:∀b u,H b=some u→b≠it:=fun b u e z=>by rw [z,hn] at e; cases e
 refine I.step (g':=s.gens) (d':=s.drawn) (ch:=[it]) (fun b hb=>?_) (fun b o _ _ hc e _=>k b o (fun z=>hc (by simp [z])) e) (fun b o _ _ hc e _=>⟨o.slots,k b o (fun z=>hc (by simp [z])) e⟩) (fun _ _ _ _ n=>n)
  (fun b o hc e=>⟨o,k b o (fun z=>hc (by simp [z])) e⟩) (fun _ _ e=>e) (fun _ _ _ e=>e) (fun b ps e=>⟨#[],by rw [e]; simp⟩) (fun m hm=>?_) (fun b u e=>?_) I.bare
 ·have e:b=it:=by simpa using hb
  subst e;exact ⟨h1,hL,h2,h3⟩
 ·obtain ⟨o,es,ep,ho,r⟩:=hm;exact ⟨o,es,ep,k _ o (Ne.symm hL) ho,r⟩
 ·refine (I.hok b u e).stay (fun c v hc q=>k c v ?_ q) (fun _ q=>q) fun _ _ q=>q
  rcases hc with z | z
  ·rw [z]; exact nit b u e
  ·exact nit c _ z
theorem Inv.tok (I:Inv X pins σ H s) (t:Nat):Inv X pins σ H { s with toks:=t }:=I.un (h':=s.heap) (t':=t) Un.refl I.hok
theorem Inv.kept {t':Nat} (I:Inv X pins σ H s) (k:∀b u,s.heap.get? b=some u→h'.get? b=some u):Inv X pins σ H { s with heap:=h',toks:=t' }:=I.un (Un.kept k) (I.hok.kept k)
theorem Inv.laid {a:Addr}{o:HO}{t':Nat} (I:Inv X pins σ H s) (k:∀b u,s.heap.get? b=some u→h'.get? b=some u) (hp:s.heap.objs.size≤a) (new:Qbh X.prog X.w (upd H a o) h' a o) :
  Inv X pins σ (upd H a o) { s with heap:=h',toks:=t' }:=I.un (Un.laid k hp (I.hok.fresh hp)) (I.hok.laid k hp new)
theorem Inv.write {x e:Addr}{o:HO}{t':Nat} (I:Inv X pins σ H s) (mu:Mut (H x)) (he:e=x∨H e=some (.own x)) (k:∀b u,b≠e→s.heap.get? b=some u→h'.get? b=some u) (heo:∃u,h'.get? e=some u)
  (new:Qbh X.prog X.w (upd H x o) h' x o):Inv X pins σ (upd H x o) { s with heap:=h',toks:=t' }:=I.un (Un.write mu he k heo) (I.hok.write mu he k heo new)
theorem Inv.pins_of {pins':List (Addr×Obj)} (I:Inv X pins σ H s) (h:∀p∈pins',s.heap.get? p.1=some p.2∧H p.1=none∧p.1≠X.env.locals∧p.1∉X.fs∧∀v,p.2.data≠.cell v):Inv X pins' σ H s :=
 ⟨I.ok,I.os,I.bare,I.base,I.loc,I.cell,I.free,I.freeC,fun p hp=>(zA.mp hp).elim (fun z=>I.pin p (List.mem_append_left _ z)) (h p),I.hok,I.len⟩
theorem Qka {N:List Str} (hN:N.Nodup) {i j:Nat}{x:Str} (a:N[i]? = some x) (b:N[j]? = some x):i=j:=by
 obtain ⟨h1,e1⟩:=zn.mp a;obtain ⟨h2,e2⟩:=zn.mp b;exact (List.getElem_inj hN).mp (e1.trans e2.symm)
theorem Qny {M:Model}{A:Around}{E:Value→Shared→Prop}{i:Nat}{x:Str}{v:V}{u:Value}{Q:Unit→Shared→Prop} (I:Inv X pins σ H s) (hN:X.N.Nodup) (hi:X.N[i]? = some x) (hx:Loc X.env.scope x) (r:RelV v u)
  (h:∀s',Inv X pins (σ.set i (some v)) H s'→(∃a,Heap.SameBut a s.heap s'.heap∧(a=X.env.locals∨X.env.cells.lookup x=some a))→Q () s') (hf:X.fn x=true∨X.env.scope.names.lookup x=some .local:=by first | exact .inl rfl | exact .inr rfl | assumption):wpAny M A (storeName X.env x u) Q E s:=by
 obtain ⟨m,hn,hl⟩:=id I.loc
 have hcls:(X.env.scope.kind == .class || (X.env.scope.kind == .module&&X.env.locals != X.env.globals))=false:=by rw [I.ok.kind]; rfl
 have hiσ:i < σ.length:=by rw [I.len]; exact (zn.mp hi).1
 have cne:=I.cne
 have tracked:∀{a:Addr}{h':Heap},(∃o,s.heap.get? a=some o∧H a=none)→Heap.SameBut a s.heap h'→HOk X.prog X.w H h':=fun {a h'} ha hs b ob e=>by
  obtain ⟨_,_,hfree⟩:=ha
  refine (I.hok b ob e).stay (fun c w' hc q=>(hs.2 c ?_).trans q) (fun _ q=>q) fun _ _ q=>q
  rintro rfl
  rcases hc with rfl | hc
  ·rw [hfree] at e; cases e
  ·rw [hfree] at hc; cases hc
 rcases hx with hk | hk
 ·refine wpAny_storeName_local hk hn (fun h' hn' hs=>?_) hcls;obtain ⟨oL,_,_,hoL,_⟩:=id hn;refine h _ ⟨I.ok,I.os,I.bare,⟨fun b o e n hb hx=>?_,fun b o e n hb hx=>?_,I.base.free,fun b o e hx=>?_,I.base.tups,I.base.frzs,I.base.tbls⟩,⟨_,hn',fun j y v' e1 e2 e3=>?_⟩,fun y c e=>?_,I.free,I.freeC,fun p hp=>?_,tracked ⟨oL,hoL,I.free⟩ hs,by simpa using I.len⟩ ⟨_,hs,.inl rfl⟩
  ·exact (hs.2 b (zl (zv (zd e) I.ok.above))).trans (I.base.keep b o e n hb hx)
  ·obtain ⟨sl,e1⟩:=I.base.slot b o e n hb hx;exact ⟨sl,(hs.2 b (zl (zv (zd e) I.ok.above))).trans e1⟩
  ·obtain ⟨o',e1⟩:=I.base.there b o e hx;exact ⟨o',(hs.2 b (zl (zv (zd e) I.ok.above))).trans e1⟩
  ·by_cases hj:j=i
   ·subst hj;rw [hi] at e1; cases e1;rw [zI hiσ] at e2;cases e2;exact ⟨u,r,.inl ⟨hk,by simp⟩⟩
   ·rw [zq (Ne.symm hj)] at e2;obtain ⟨u',r',q⟩:=hl j y v' e1 e2 e3;refine ⟨u',r',?_⟩
    rcases q with ⟨k,e⟩ | ⟨k,c,e,z⟩
    ·refine .inl ⟨k,?_⟩
     have:y≠x:=fun e=>hj (Qka hN e1 (e ▸ hi))
     simp [this,e]
    ·exact .inr ⟨k,c,e,z.sameBut hs (cne y c e)⟩
  ·obtain ⟨w',z⟩:=I.cell y c e;exact ⟨w',z.sameBut hs (cne y c e)⟩
  ·obtain ⟨e,n,ne,nf,d⟩:=I.pin p hp;exact ⟨(hs.2 p.1 ne).trans e,n,ne,nf,d⟩
 ·have hfn:X.fn x=true:=by
   rcases hf with z | z
   ·exact z
   ·rw [z] at hk; cases hk
  obtain ⟨c,hc⟩:=I.ok.has x (.inl hk);obtain ⟨w',z⟩:=I.cell x c hc;refine wpAny_storeName_cell I.ok.kind hk hc z (fun h' hc' hs=>?_);obtain ⟨oc,hoc,hocd⟩:=id z;refine h { s with heap:=h' } ⟨I.ok,I.os,I.bare,⟨fun b o e n hb hx=>?_,fun b o e n hb hx=>?_,I.base.free,fun b o e hx=>?_,I.base.tups,I.base.frzs,I.base.tbls⟩,⟨m,hn.sameBut hs (Ne.symm (cne x c hc)),fun j y v' e1 e2 e3=>?_⟩,fun y c' e=>?_,I.free,I.freeC,fun p hp=>?_,tracked ⟨oc,hoc,I.freeC x c hc⟩ hs,by simpa using I.len⟩ ⟨c,hs,.inr hc⟩
  ·exact (hs.2 b (zl (zv (zd e) (I.ok.cab x c hfn hc)))).trans (I.base.keep b o e n hb hx)
  ·obtain ⟨sl,e1⟩:=I.base.slot b o e n hb hx;exact ⟨sl,(hs.2 b (zl (zv (zd e) (I.ok.cab x c hfn hc)))).trans e1⟩
  ·obtain ⟨o',e1⟩:=I.base.there b o e hx;exact ⟨o',(hs.2 b (zl (zv (zd e) (I.ok.cab x c hfn hc)))).trans e1⟩
  ·by_cases hj:j=i
   ·subst hj;rw [hi] at e1; cases e1;rw [zI hiσ] at e2;cases e2;exact ⟨u,r,.inr ⟨.inl hk,c,hc,hc'⟩⟩
   ·rw [zq (Ne.symm hj)] at e2;obtain ⟨u',r',q⟩:=hl j y v' e1 e2 e3;refine ⟨u',r',?_⟩
    rcases q with q | ⟨k,c',e,z'⟩
    ·exact .inl q
    ·refine .inr ⟨k,c',e,z'.sameBut hs ?_⟩;rintro rfl;exact hj (Qka hN e1 (I.ok.inj _ _ _ e hc ▸ hi))
  ·by_cases hcc:c'=c
   ·subst hcc; exact ⟨_,hc'⟩
   ·obtain ⟨w2,z2⟩:=I.cell y c' e;exact ⟨w2,z2.sameBut hs hcc⟩
  ·obtain ⟨e,n,ne,nf,d⟩:=I.pin p hp;refine ⟨(hs.2 p.1 ?_).trans e,n,ne,nf,d⟩;intro q;rw [q,hoc] at e;have q':oc=p.2:=zG e;exact d w' (by rw [←q']; exact hocd)
theorem Qie {M:Model}{A:Around}{E:Value→Shared→Prop}{i:Nat}{x:Str}{v:V}{u:Value}{Q:Unit→Shared→Prop} (I:Inv X pins σ H s) (hN:X.N.Nodup) (hi:X.N[i]? = some x) (hx:Loc X.env.scope x) (r:RelV v u)
  (h:∀s',Inv X pins (σ.set i (some v)) H s'→Q () s') (hf:X.fn x=true∨X.env.scope.names.lookup x=some .local:=by first | exact .inl rfl | exact .inr rfl | assumption):wpAny M A (storeName X.env x u) Q E s :=
 Qny I hN hi hx r (fun s' I' _=>h s' I') hf
theorem Inv.call' {s':Shared}{ch:List Addr} (I:Inv X pins σ H s) (ho:s'.os=s.os) (u:Un (frs X.stack) ch H H' s.heap s'.heap) (hok:HOk X.prog X.w H' s'.heap) (hg:AllBare s'.gens)
  (hch:∀b∈ch,(b∈X.ex∨X.s₀.heap.objs.size≤b)∧b≠X.env.locals∧(∀x c,X.env.cells.lookup x=some c→c≠b)∧∀p∈X.pn++pins,p.1≠b):Inv X pins σ H' s':=by
 obtain ⟨h',g',d',t',o'⟩:=s';have e:o'=s.os:=ho;subst e;exact I.call (g':=g') (t':=t') (d':=d') u hok hg hch
end
abbrev XK:=Value→Option Addr→Hp→Prop
abbrev St:=List (Option V)
abbrev VK:=V→Hp→Prop
abbrev TE:=St→Hp→VK→Prop
abbrev TT:=St→Hp→(Bool→Hp→Prop)→Prop
abbrev TA:=St→Hp→(List V→Hp→Prop)→Prop
structure Ends where
 nx:St→Hp→Prop
 rt:VK
 bk:St→Hp→Prop:=fun _ _=>False
 ct:St→Hp→Prop:=fun _ _=>False
abbrev TS:=Ends→St→Hp→Prop
def EP (X:Cx) (pins:List (Addr×Obj)) (σ:St) (Q:VK) (u:Value) (s':Shared):Prop:=∃v H',Inv X pins σ H' s'∧RelV v u∧Q v H'
def TP (X:Cx) (pins:List (Addr×Obj)) (σ:St) (Q:Bool→Hp→Prop) (b:Bool) (s':Shared):Prop:=∃H',Inv X pins σ H' s'∧Q b H'
def AP (X:Cx) (pins:List (Addr×Obj)) (σ:St) (Q:List V→Hp→Prop) (us:List Value) (s':Shared):Prop:=∃vs H',Inv X pins σ H' s'∧Qaz vs us∧Q vs H'
def SP (X:Cx) (pins:List (Addr×Obj)) (D:Ends) (f:Flow) (s':Shared):Prop :=
 match f with
 | .next=>∃σ' H',Inv X pins σ' H' s'∧D.nx σ' H'
 | .brk=>∃σ' H',Inv X pins σ' H' s'∧D.bk σ' H'
 | .cont=>∃σ' H',Inv X pins σ' H' s'∧D.ct σ' H'
 | .ret u=>∃v σ' H',Inv X pins σ' H' s'∧RelV v u∧D.rt v H'
def PE (X:Cx) (e:Expr) (t:TE):Prop :=
 ∀(pins:List (Addr×Obj)) (s:Shared) (σ:St) (H:Hp) (Q:VK),Inv X pins σ H s→t σ H Q→wpAny (model X.prog X.w) X.A (eval e X.env) (EP X pins σ Q) X.xe s
def PT (X:Cx) (e:Expr) (t:TT):Prop :=
 ∀(pins:List (Addr×Obj)) (s:Shared) (σ:St) (H:Hp) (Q:Bool→Hp→Prop),Inv X pins σ H s→t σ H Q→wpAny (model X.prog X.w) X.A (isTrue e X.env (eval e X.env)) (TP X pins σ Q) X.xe s
def PW (X:Cx) (e:Expr) (t:TT):Prop :=
 ∀(whole:Sem Value) (pins:List (Addr×Obj)) (s:Shared) (σ:St) (H:Hp) (Q:Bool→Hp→Prop),Inv X pins σ H s→t σ H Q→wpAny (model X.prog X.w) X.A (isTrue e X.env whole) (TP X pins σ Q) X.xe s
theorem PW.pt {X:Cx}{e:Expr}{t:TT} (h:PW X e t):PT X e t:=h _
def PA (X:Cx) (es:List Expr) (t:TA):Prop :=
 ∀(pos:Pos) (pins:List (Addr×Obj)) (s:Shared) (σ:St) (H:Hp) (Q:List V→Hp→Prop),Inv X pins σ H s→t σ H Q→wpAny (model X.prog X.w) X.A (spliced (backTo pos (starEach es X.env))) (AP X pins σ Q) X.xe s
def PS (X:Cx) (st:Stmt) (t:TS):Prop :=
 ∀(pins:List (Addr×Obj)) (s:Shared) (σ:St) (H:Hp) (D:Ends),Inv X pins σ H s→t D σ H→wpAny (model X.prog X.w) X.A (exec st X.env) (SP X pins D) X.xe s
def PSs (X:Cx) (st:List Stmt) (t:TS):Prop :=
 ∀(pins:List (Addr×Obj)) (s:Shared) (σ:St) (H:Hp) (D:Ends),Inv X pins σ H s→t D σ H→wpAny (model X.prog X.w) X.A (execs st X.env) (SP X pins D) X.xe s
theorem thn {α:Type}{t:Sem α}{Q Q':α→Shared→Prop}{M:Model}{A:Around}{E:Value→Shared→Prop}{s:Shared} (h:wpAny M A t Q E s) (hQ:∀a s,Q a s→Q' a s):wpAny M A t Q' E s:=zr h hQ fun _ _ x=>x
section
variable {X:Cx}
def QuX (i:Nat):TE:=fun σ H Q=>∃v,σ[i]? = some (some v)∧Q v H
def tC (v:V):TE:=fun _ H Q=>Q v H
theorem QeD {i:Nat}{x:Str}{pos:Pos} (hN:X.N[i]? = some x) (hv:Vis X.env.scope x) (hd:(x == ("__debug__":Str))=false:=by decide) (hcd:(x == ("__classdict__":Str))=false:=by decide):PE X (.Name x pos) (QuX i):=by
 intro pins s σ H Q I h;obtain ⟨v,e,h⟩:=h;obtain ⟨m,hn,hl⟩:=I.loc;obtain ⟨u,r,l⟩:=hl i x v hN e hv;have fin:EP X pins σ Q u s:=⟨v,H,I,r,h⟩
 rcases l with ⟨hk,hm⟩ | ⟨hk,c,hc,hcell⟩
 ·exact wpAny_Name (wpAny_loadName_local I.ok.kind hk hn hm fin) hd
 ·rcases hk with hk | hk
  ·exact wpAny_Name (wpAny_loadName_cell I.ok.kind hk hc hcell fin) hd
  ·exact wpAny_Name (wpAny_loadName_free I.ok.kind hk hc hcell fin hcd) hd
theorem Qtc {i j pos}:PE X (.Constant (.int i) j pos) (tC (.int i)):=fun _ _ _ H _ I h=>wpAny_Constant_int ⟨.int i,H,I.tok _,⟨_,rfl⟩,h⟩
theorem Qtu {b j pos}:PE X (.Constant (.bool b) j pos) (tC (.bl b)):=fun _ _ _ H _ I h=>Constant_bool ⟨.bl b,H,I,rfl,h⟩
theorem Qrq {j pos}:PE X (.Constant .none j pos) (tC .non):=fun _ _ _ H _ I h=>Constant_none ⟨.non,H,I,rfl,h⟩
theorem QkI {x j pos}:PE X (.Constant (.str x) j pos) (tC (.str x)):=fun _ _ _ H _ I h=>Calls.Constant_str ⟨.str x,H,I.tok _,⟨_,rfl⟩,h⟩
def Gl (X:Cx) (x:Str):Prop:=X.env.kindOf x=some .globalImplicit
theorem Qd7 {E:Value→Shared→Prop}{pins:List (Addr×Obj)}{s:Shared}{σ:St}{H:Hp}{x:Str}{u:Value}{pos:Pos}{Q:Value→Shared→Prop} (I:Inv X pins σ H s) (hg:Gl X x) (hm:X.mg x=some u) (h:Q u s)
  (hd:(x == ("__debug__":Str))=false:=by decide):wpAny (model X.prog X.w) X.A (eval (.Name x pos) X.env) Q E s :=
 Calls.Name_function_global I.ok.kind hg (Calls.loadGlobal_global (by rw [I.ok.glob]; exact I.mod.glob.keeps I.bk) hm h) hd
theorem Qgb {E:Value→Shared→Prop}{pins:List (Addr×Obj)}{s:Shared}{σ:St}{H:Hp}{x:Str}{u:Value}{pos:Pos}{Q:Value→Shared→Prop} (I:Inv X pins σ H s) (hg:Gl X x) (hm:X.mg x=none) (hv:bootBuiltins x=some u) (h:Q u s)
  (hn:x≠"__name__":=by decide) (hd:(x == ("__debug__":Str))=false:=by decide):wpAny (model X.prog X.w) X.A (eval (.Name x pos) X.env) Q E s:=by
 obtain ⟨mb,h1,h2⟩:=I.mod.blt;exact Calls.Name_function_global I.ok.kind hg (Calls.loadGlobal_builtin (by rw [I.ok.glob]; exact I.mod.glob.keeps I.bk) hm (by rw [I.ok.blt]; exact h1.keeps I.bk) ((h2 x hn).trans hv) h) hd
theorem Qi8 {x:Str}{v:V}{u:Value}{pos:Pos} (hg:Gl X x) (hm:X.mg x=some u) (r:RelV v u) (hd:(x == ("__debug__":Str))=false:=by decide):PE X (.Name x pos) (tC v) :=
 fun _ _ _ H _ I h=>Qd7 I hg hm ⟨v,H,I,r,h⟩ hd
theorem QlE {x:Str}{v:V}{u:Value}{pos:Pos} (hg:Gl X x) (hm:X.mg x=none) (hv:bootBuiltins x=some u) (r:RelV v u) (hn:x≠"__name__":=by decide) (hd:(x == ("__debug__":Str))=false:=by decide):PE X (.Name x pos) (tC v) :=
 fun _ _ _ H _ I h=>Qgb I hg hm hv ⟨v,H,I,r,h⟩ hn hd
variable {a b:Expr}{ta tb:TE}{pos:Pos}
def tB (t:TE):TT:=fun σ H Q=>t σ H fun x H1=>∃c,x = .bl c∧Q c H1
variable {tA tB':TT}{rest:List Expr}
def QsH (t u:TT):TT:=fun σ H Q=>t σ H fun c H1=>if c=true then u σ H1 Q else Q false H1
def tOr (t u:TT):TT:=fun σ H Q=>t σ H fun c H1=>if c=true then Q true H1 else u σ H1 Q
def Qvj (t:TT):TT:=fun σ H Q=>t σ H fun c H1=>Q (!c) H1
theorem QpW (ha:PT X a tA):PW X (.BoolOp .And [a] pos) tA:=by
 intro wh pins s σ H Q I h;refine isTrue_and (thn (ha pins s σ H Q I h) fun c s1 e=>?_)
 cases c with
 | true=>exact isTrue_and_nil e
 | false=>exact e
theorem Qrx (ha:PT X a tA):PW X (.BoolOp .Or [a] pos) tA:=by
 intro wh pins s σ H Q I h;refine isTrue_or (thn (ha pins s σ H Q I h) fun c s1 e=>?_)
 cases c with
 | false=>exact isTrue_or_nil e
 | true=>exact e
theorem Qsj (ha:PT X a tA) (hb:PW X (.BoolOp .And (b::rest) pos) tB'):PW X (.BoolOp .And (a::b::rest) pos) (QsH tA tB'):=by
 intro wh pins s σ H Q I h;refine isTrue_and (thn (ha pins s σ H _ I h) fun c s1 ⟨H1,I1,q1⟩=>?_)
 cases c with
 | true=>exact hb wh pins s1 σ H1 Q I1 q1
 | false=>exact ⟨H1,I1,q1⟩
theorem QtV (ha:PT X a tA) (hb:PW X (.BoolOp .Or (b::rest) pos) tB'):PW X (.BoolOp .Or (a::b::rest) pos) (tOr tA tB'):=by
 intro wh pins s σ H Q I h;refine isTrue_or (thn (ha pins s σ H _ I h) fun c s1 ⟨H1,I1,q1⟩=>?_)
 cases c with
 | true=>exact ⟨H1,I1,q1⟩
 | false=>exact hb wh pins s1 σ H1 Q I1 q1
theorem Qr0 (ha:PT X a tA):PT X (.UnaryOp .Not a pos) (Qvj tA):=by
 intro pins s σ H Q I h;exact isTrue_not (ha pins s σ H (fun c H1=>Q (!c) H1) I h)
def QtF (ta tb:TE):TE:=fun σ H Q=>ta σ H fun x H1=>∃c,x = .bl c∧if c=true then tb σ H1 Q else Q (.bl false) H1
def Qud (ta:TE):TE:=fun σ H Q=>ta σ H fun x H1=>∃c,x = .bl c∧Q (.bl (!c)) H1
theorem Qtf {op}{t:TE} (h:PE X a t):PE X (.BoolOp op [a] pos) t:=fun pins s σ H Q I hw=>BoolOp_one (h pins s σ H Q I hw)
theorem QrQ (ha:PE X a ta) (hb:PE X (.BoolOp .And (b::rest) pos) tb):PE X (.BoolOp .And (a::b::rest) pos) (QtF ta tb):=by
 intro pins s σ H Q I h;refine BoolOp_and (thn (ha pins s σ H _ I h) fun v s1 ⟨x,H1,I1,r1,q1⟩=>?_);obtain ⟨c,rfl,q1⟩:=q1;cases r1;refine wpAny_truthy_bool ?_
 cases c with
 | true=>exact hb pins s1 σ H1 Q I1 q1
 | false=>exact ⟨.bl false,H1,I1,rfl,q1⟩
theorem Qrw (ha:PE X a ta):PE X (.UnaryOp .Not a pos) (Qud ta):=by
 intro pins s σ H Q I h;refine UnaryOp_ (thn (ha pins s σ H _ I h) fun v s1 ⟨x,H1,I1,r1,q1⟩=>?_);obtain ⟨c,rfl,q1⟩:=q1;cases r1;exact not_of (wpAny_truthy_bool ⟨.bl (!c),H1,I1,rfl,q1⟩)
end
def SqL (K:PySem.W.Frag) (H:Hp) (a:Addr) (xs:List V):Prop :=
 Rd H a (.lst xs) ∨
  ∃(o:Obj) (its:Array Value) (n:Nat),K.lookup a=some o∧o.cls = .type "list"∧o.dict=none∧o.data = .seq its n∧its.size≤sizeLine∧Qaz xs its.toList
def SqT (K:PySem.W.Frag) (H:Hp) (a:Addr) (xs:List V):Prop :=
 Rd H a (.tup xs) ∨
  ∃(o:Obj) (its:Array Value) (n:Nat),K.lookup a=some o∧o.cls = .type "tuple"∧o.data = .seq its n∧its.size≤sizeLine∧Qaz xs its.toList
def QuL:Value→Option V
 | .none=>some .non
 | .bool b=>some (.bl b)
 | .int i _=>some (.int i)
 | .str x _=>some (.str x)
 | .bytes b _=>some (.byt b)
 | .float b _=>some (.flt b)
 | .ref a=>some (.ref a)
 | .type n=>some (.ty n)
 | _=>none
theorem RelV.abs {x:V}{u:Value} (r:RelV x u):QuL u=some x:=by
 cases x with
 | non=>cases r; rfl
 | bl _=>cases r; rfl
 | int _=>obtain ⟨t,rfl⟩:=r; rfl
 | str _=>obtain ⟨t,rfl⟩:=r; rfl
 | byt _=>obtain ⟨t,rfl⟩:=r; rfl
 | flt _=>obtain ⟨t,rfl⟩:=r; rfl
 | ref _=>cases r; rfl
 | ty _=>cases r; rfl
theorem RelV.inj {x y:V}{u:Value} (r:RelV x u) (q:RelV y u):x=y:=zG (r.abs.symm.trans q.abs)
theorem Qaz.inj:∀{xs ys:List V}{us:List Value},Qaz xs us→Qaz ys us→xs=ys
 | _,_,_,.nil,.nil=>rfl
 | _,_,_,.cons r t,.cons r' t'=>by rw [r.inj r',Qaz.inj t t']
section
variable {X:Cx}{pins:List (Addr×Obj)}{σ:St}{H:Hp}{s:Shared}{a:Addr}{xs ys:List V}
theorem SqL.of {K:PySem.W.Frag} (h:H a=some (.lst xs)):SqL K H a xs:=.inl (.inl h)
theorem SqT.of {K:PySem.W.Frag} (h:H a=some (.tup xs)):SqT K H a xs:=.inl (.inl h)
theorem Inv.list (I:Inv X pins σ H s) (h:SqL X.K H a xs):∃its:List Value,Qaz xs its∧PlainL s.heap a its.toArray∧xs.length≤sizeLine:=by
 rcases h with h | ⟨o,its,n,hk,hc,hd,hs,hz,r⟩
 ·obtain ⟨z,its,n,r,e⟩:=h.ok I.hok;exact ⟨its,r,⟨_,n,e,rfl,rfl,rfl⟩,z⟩
 ·refine ⟨its.toList,r,⟨o,n,I.kIn a o hk,hc,hd,by simpa using hs⟩,?_⟩;have e:=r.length;simp only [Array.length_toList] at e;omega
theorem Inv.tuple (I:Inv X pins σ H s) (h:SqT X.K H a xs):∃its:List Value,Qaz xs its∧IsTup s.heap a its.toArray∧xs.length≤sizeLine:=by
 rcases h with h | ⟨o,its,n,hk,hc,hs,hz,r⟩
 ·obtain ⟨z,its,r,p⟩:=h.ok I.hok;exact ⟨its,r,p,z⟩
 ·refine ⟨its.toList,r,⟨o,I.kIn a o hk,hc,n,by simpa using hs⟩,?_⟩;have e:=r.length;simp only [Array.length_toList] at e;omega
theorem Inv.list_inj (I:Inv X pins σ H s) (h:SqL X.K H a xs) (h':SqL X.K H a ys):xs=ys:=by
 obtain ⟨its,r,⟨o,n,e,_,_,d⟩,_⟩:=I.list h;obtain ⟨its',r',⟨o',n',e',_,_,d'⟩,_⟩:=I.list h';rw [e] at e'; cases e';rw [d] at d'
 injection d' with d1 _
 have:its=its':=by simpa using congrArg Array.toList d1
 subst this;exact r.inj r'
theorem Inv.tuple_inj (I:Inv X pins σ H s) (h:SqT X.K H a xs) (h':SqT X.K H a ys):xs=ys:=by
 obtain ⟨its,r,⟨o,e,_,n,d⟩,_⟩:=I.tuple h;obtain ⟨its',r',⟨o',e',_,n',d'⟩,_⟩:=I.tuple h';rw [e] at e'; cases e';rw [d] at d'
 injection d' with d1 _
 have:its=its':=by simpa using congrArg Array.toList d1
 subst this;exact r.inj r'
end
abbrev Cx.wish (X:Cx) (E:Value→Shared→Prop):Cx:={ X with xe:=E }
abbrev Cx.nox (X:Cx):Cx:=X.wish fun _ _=>False
theorem Cx.Ok.wish {X:Cx} (ok:X.Ok) (E:Value→Shared→Prop):(X.wish E).Ok :=
 ⟨ok.mod,ok.kind,ok.glob,ok.blt,ok.above,ok.inj,ok.has,ok.cab,ok.hd,ok.frames,ok.stk,ok.exf,ok.bs,ok.bsz,ok.noex,ok.exfs,ok.funs,ok.frf⟩
theorem Cx.Ok.unwish {X:Cx}{E:Value→Shared→Prop} (ok:(X.wish E).Ok):X.Ok :=
 ⟨ok.mod,ok.kind,ok.glob,ok.blt,ok.above,ok.inj,ok.has,ok.cab,ok.hd,ok.frames,ok.stk,ok.exf,ok.bs,ok.bsz,ok.noex,ok.exfs,ok.funs,ok.frf⟩
section
variable {X:Cx}{pins:List (Addr×Obj)}{σ:St}{H:Hp}{s:Shared}{E:Value→Shared→Prop}
theorem Inv.wish (I:Inv X pins σ H s) (E:Value→Shared→Prop):Inv (X.wish E) pins σ H s:=⟨I.ok.wish E,I.os,I.bare,I.base,I.loc,I.cell,I.free,I.freeC,I.pin,I.hok,I.len⟩
theorem Inv.unwish (I:Inv (X.wish E) pins σ H s):Inv X pins σ H s:=⟨I.ok.unwish,I.os,I.bare,I.base,I.loc,I.cell,I.free,I.freeC,I.pin,I.hok,I.len⟩
theorem SP.unwish {D:Ends}{f:Flow}{s':Shared} (h:SP (X.wish E) pins D f s'):SP X pins D f s':=by
 cases f with
 | next=>obtain ⟨σ',H',I,q⟩:=h; exact ⟨σ',H',I.unwish,q⟩
 | brk=>obtain ⟨σ',H',I,q⟩:=h; exact ⟨σ',H',I.unwish,q⟩
 | cont=>obtain ⟨σ',H',I,q⟩:=h; exact ⟨σ',H',I.unwish,q⟩
 | ret u=>obtain ⟨v,σ',H',I,r,q⟩:=h; exact ⟨v,σ',H',I.unwish,r,q⟩
theorem PE.nox {e:Expr}{t:TE} (h:PE X.nox e t):PE X e t:=fun pins s σ H Q I hw =>
 zr (h pins s σ H Q (I.wish _) hw) (fun _ _ ⟨v,H',I',r,q⟩=>⟨v,H',I'.unwish,r,q⟩) fun _ _ z=>False.elim z
theorem PT.nox {e:Expr}{t:TT} (h:PT X.nox e t):PT X e t:=fun pins s σ H Q I hw =>
 zr (h pins s σ H Q (I.wish _) hw) (fun _ _ ⟨H',I',q⟩=>⟨H',I'.unwish,q⟩) fun _ _ z=>False.elim z
theorem PSs.nox {st:List Stmt}{t:TS} (h:PSs X.nox st t):PSs X st t:=fun pins s σ H D I hw =>
 zr (h pins s σ H D (I.wish _) hw) (fun _ _ q=>q.unwish) fun _ _ z=>False.elim z
end
section
variable {X:Cx}{st:Stmt}{rest:List Stmt}{t u:TS}{e:Expr}{te:TE}{pos:Pos}
def QtR:TS:=fun D σ H=>D.nx σ H
def Qvr (t u:TS):TS:=fun D σ H=>t { D with nx:=u D } σ H
theorem QlG:PSs X [] QtR:=fun _ _ σ H _ I h=>wpAny_execs_nil ⟨σ,H,I,h⟩
theorem Qku (h1:PS X st t) (h2:PSs X rest u):PSs X (st::rest) (Qvr t u):=by
 intro pins s σ H D I h;refine wpAny_execs_cons (thn (h1 pins s σ H { D with nx:=u D } I h) fun f s1 q=>?_)
 cases f with
 | next =>
  obtain ⟨σ',H',I',q⟩:=q;exact h2 pins s1 σ' H' D I' q
 | ret v=>exact q
 | brk=>exact q
 | cont=>exact q
theorem Qlb (h1:PS X st t):PSs X [st] t:=by
 intro pins s σ H D I h;refine wpAny_execs_cons (thn (h1 pins s σ H D I h) fun f s1 q=>?_)
 cases f with
 | next=>exact wpAny_execs_nil q
 | ret v=>exact q
 | brk=>exact q
 | cont=>exact q
theorem Inv.quiet {pins:List (Addr×Obj)}{σ:St}{H:Hp}{s:Shared} (I:Inv X pins σ H s):interactive X.env=false:=by simp [interactive,I.ok.kind]
def Qtv (te:TE):TS:=fun D σ H=>te σ H fun _ H1=>D.nx σ H1
theorem QlA (he:PE X e te) (hs:swapsWith e none pos.line X.env=pure false:=by rfl):PS X (.Expr e pos) (Qtv te):=by
 intro pins s σ H D I h;exact wpAny_Expr_any (thn (he pins s σ H _ I h) fun v s1 ⟨x,H1,I1,r1,q1⟩=>⟨σ,H1,I1,q1⟩) I.quiet hs
def QuJ (te:TE):TS:=fun D σ H=>te σ H D.rt
theorem QnM (he:PE X e te):PS X (.Return (some e) pos) (QuJ te):=by
 intro pins s σ H D I h;exact wpAny_Return_some (thn (he pins s σ H _ I h) fun v s1 ⟨x,H1,I1,r1,q1⟩=>⟨x,σ,H1,I1,r1,q1⟩)
def Qvk (c:TT) (t u:TS):TS:=fun D σ H=>c σ H fun b H1=>if b=true then t D σ H1 else u D σ H1
theorem QpE {c:Expr}{a b:List Stmt}{tc:TT} (hc:PT X c tc) (ha:PSs X a t) (hb:PSs X b u):PS X (.If c a b pos) (Qvk tc t u):=by
 intro pins s σ H D I h;refine wpAny_If (thn (hc pins s σ H _ I h) fun d s1 ⟨H1,I1,q1⟩=>?_)
 cases d with
 | true=>exact ha pins s1 σ H1 D I1 q1
 | false=>exact hb pins s1 σ H1 D I1 q1
end
abbrev TG:=V→St→Hp→(St→Hp→Prop)→Prop
abbrev TGs:=List V→St→Hp→(St→Hp→Prop)→Prop
def PG (X:Cx) (target:Expr) (t:TG):Prop :=
 ∀(pins:List (Addr×Obj)) (s:Shared) (σ:St) (H:Hp) (v:V) (u:Value) (Q:St→Hp→Prop),Inv X pins σ H s→RelV v u→t v σ H Q →
  wpAny (model X.prog X.w) X.A (assign target X.env u) (fun _ s'=>∃σ' H',Inv X pins σ' H' s'∧Q σ' H') X.xe s
def PGs (X:Cx) (ts:List Expr) (t:TGs):Prop :=
 ∀(pins:List (Addr×Obj)) (s:Shared) (σ:St) (H:Hp) (vs:List V) (us:List Value) (Q:St→Hp→Prop),Inv X pins σ H s→Qaz vs us→t vs σ H Q →
  wpAny (model X.prog X.w) X.A (assignInOrder ((assignEach ts X.env).map (·.2)) us) (fun _ s'=>∃σ' H',Inv X pins σ' H' s'∧Q σ' H') X.xe s
abbrev Qoq:=V→V→V→Hp→(Hp→Prop)→Prop
def QrM (X:Cx) (t:Qoq):Prop :=
 ∀(pins:List (Addr×Obj)) (s:Shared) (σ:St) (H:Hp) (o i v:V) (ov iv u:Value) (Q:Hp→Prop),Inv X pins σ H s→RelV o ov→RelV i iv→RelV v u→t o i v H Q →
  wpAny (model X.prog X.w) X.A (setItem ov iv u) (fun _ s'=>∃H',Inv X pins σ H' s'∧Q H') X.xe s
section
variable {X:Cx}{pos:Pos}
def QjV (i:Nat):TG:=fun v σ H Q=>Q (σ.set i (some v)) H
theorem Qqv {i:Nat}{x:Str} (hN:X.N.Nodup) (hi:X.N[i]? = some x) (hx:Loc X.env.scope x) (hf:X.fn x=true∨X.env.scope.names.lookup x=some .local:=by first | exact .inl rfl | exact .inr rfl | assumption):PG X (.Name x pos) (QjV i):=by
 intro pins s σ H v u Q I r h;exact wpAny_assign_Name (Qie I hN hi hx r (fun s' I'=>⟨_,H,I',h⟩) hf)
def Qva:TGs:=fun vs σ H Q=>vs = []∧Q σ H
def QtL (t:TG) (u:TGs):TGs:=fun vs σ H Q=>∃v r,vs=v::r∧t v σ H fun σ' H'=>u r σ' H' Q
theorem Qq2:PGs X [] Qva:=by
 intro pins s σ H vs us Q I r h;obtain ⟨e,h⟩:=h;subst e;cases r;exact assignInOrder_nil ⟨σ,H,I,h⟩
theorem Qpc {e:Expr}{es:List Expr}{t:TG}{u:TGs} (h1:PG X e t) (h2:PGs X es u)
  (hs:(assignEach (e::es) X.env).map (·.2)=assign e X.env::(assignEach es X.env).map (·.2):=by rfl):PGs X (e::es) (QtL t u):=by
 intro pins s σ H vs us Q I r h;obtain ⟨v,vr,e1,h⟩:=h;subst e1
 cases r with
 | cons r rr =>
  rw [hs];refine assignInOrder_cons (thn (h1 pins s σ H _ _ _ I r h) fun _ s1 ⟨σ1,H1,I1,q1⟩=>?_);exact h2 pins s1 σ1 H1 _ _ Q I1 rr q1
def Qvc (K:PySem.W.Frag) (n:Nat) (t:TGs):TG:=fun v σ H Q=>∃a xs,v = .ref a∧SqT K H a xs∧xs.length=n∧t xs σ H Q
theorem Qrp {es:List Expr}{k:Nat}{t:TGs}{n:Nat} (hc:X.calm=true) (h:PGs X es t)
  (hn:(assignEach es X.env).length=n:=by rfl) (hst:(assignEach es X.env).findIdx? (·.1)=none:=by rfl):PG X (.Tuple es k pos) (Qvc X.K n t):=by
 intro pins s σ H v u Q I r hw;obtain ⟨a,xs,e1,hq,hl,hw⟩:=hw;subst e1;cases r;obtain ⟨its,rv,ht,hz⟩:=I.tuple hq
 refine assign_Tuple_tuple (I.ok.hd hc) ht (by simp [hn,←hl,rv.length]) hst fun h' hx=>?_
 have I1:Inv X pins σ H { s with heap:=h' }:=I.kept (t':=s.toks) fun b o e=>hx b o (zl (zd e)) e
 exact h pins _ σ H xs _ Q I1 (by simpa using rv) hw
def QuP (to ti:TE) (t:Qoq):TG:=fun v σ H Q=>to σ H fun o H1=>ti σ H1 fun i H2=>t o i v H2 fun H3=>Q σ H3
theorem Qsk {o i:Expr}{to ti:TE}{t:Qoq} (ho:PE X o to) (hi:PE X i ti) (hs:QrM X t)
  (ha:∀v,assign (.Subscript o i pos) X.env v=(do
   let ov ←holding [v] (eval o X.env)
   let iv ←holding [v,ov] (eval i X.env)
   standAt pos
   holding [v,ov,iv] (setItem ov iv v)
   release [v,ov,iv] []):=by intro _; rfl):PG X (.Subscript o i pos) (QuP to ti t):=by
 intro pins s σ H v u Q I r h;rw [ha];refine za (zC (thn (ho pins s σ H _ I h) fun ov s1 ⟨x,H1,I1,r1,q1⟩=>?_));refine za (zC (thn (hi pins s1 σ H1 _ I1 q1) fun iv s2 ⟨y,H2,I2,r2,q2⟩=>?_));refine za (wpAny_standAt (za (zC (thn (hs pins s2 σ H2 x y v ov iv u _ I2 r1 r2 r q2) fun _ s3 ⟨H3,I3,q3⟩=>?_))));exact wpAny_release ⟨σ,H3,I3,q3⟩
def QmH (te:TE) (g:TG):TS:=fun D σ H=>te σ H fun x H1=>g x σ H1 D.nx
theorem Qm2 {tg e:Expr}{te:TE}{g:TG} (he:PE X e te) (hg:PG X tg g) (hs:swapsWithSole [tg] e pos.line X.env=pure false:=by rfl) (hw:swappedStores [tg] e X.env=pure none:=by rfl)
  (h1:(assignEach [tg] X.env).map (·.2) = [assign tg X.env]:=by rfl):PS X (.Assign [tg] e pos) (QmH te g):=by
 intro pins s σ H D I h;refine wpAny_Assign_stores (thn (he pins s σ H _ I h) fun v s1 ⟨x,H1,I1,r1,q1⟩=>?_) hs hw;rw [h1]
 exact thn (hg pins s1 σ H1 x v _ I1 r1 q1) fun _ s2 q=>q
theorem Qnu {i:Nat}{x:Str}{e:Expr}{te:TE}{pos':Pos} (hN:X.N.Nodup) (hi:X.N[i]? = some x) (hx:Loc X.env.scope x) (he:PE X e te) (hs:swapsWith e (some (.Name x pos')) pos.line X.env=pure false:=by rfl) (hf:X.fn x=true∨X.env.scope.names.lookup x=some .local:=by first | exact .inl rfl | exact .inr rfl | assumption) :
  PS X (.Assign [.Name x pos'] e pos) (QmH te (QjV i)):=by
 intro pins s σ H D I h;refine wpAny_Assign_Name (thn (he pins s σ H _ I h) fun v s1 ⟨y,H1,I1,r1,q1⟩=>?_) hs;exact Qie I1 hN hi hx r1 (fun s2 I2=>⟨_,H1,I2,q1⟩) hf
end
section
variable {X:Cx}{pos:Pos}
end
structure It where
 go:Nat→Hp→Prop
 yld:Nat→Hp→V→Hp→Prop
 stop:Nat→Hp→Prop
def QdL (X:Cx) (pins:List (Addr×Obj)) (H:Hp) (b:Addr):Prop :=
 H b=none∧b≠X.env.locals∧b∉X.fs∧(b∈X.ex∨X.s₀.heap.objs.size≤b)∧(∀x c,X.env.cells.lookup x=some c→c≠b)∧∀p∈X.pn++pins,p.1≠b
theorem Inv.fpOk {X:Cx}{pins:List (Addr×Obj)}{σ:St}{H H':Hp}{s:Shared}{b:Addr} (I:Inv X pins σ H s) (hb:s.heap.objs.size≤b) (hn:H' b=none):QdL X pins H' b:=by
 refine ⟨hn,Nat.ne_of_gt (zv I.lt hb),I.nofs hb,.inr (zz I.sz hb),fun x c e z=>?_,fun p hp z=>?_⟩
 ·obtain ⟨v,q⟩:=I.cell x c e;exact absurd (zv q.lt (by rw [z]; exact hb)) (zH _)
 ·exact absurd (zv (zd (I.pin p hp).1) (by rw [z]; exact hb)) (zH _)
structure Turn (P:Program) (w:World) (K:PySem.W.Frag) (tg:Expr) (J:It) (fp:List Addr) (it:Addr) (tn:Nat→Heap→Prop):Prop where
 mem:it∈fp
 obj:∀i h,tn i h→∀b∈fp,∃o,h.get? b=some o∧∀v,o.data≠.cell v
 keep:∀i h h',tn i h→(∀b∈fp,∀o,h.get? b=some o→h'.get? b=some o)→tn i h'
 item:∀(X:Cx),X.prog=P→X.w=w→X.K=K→X.calm=true→∀(i:Nat) (pins:List (Addr×Obj)) (s:Shared) (σ:St) (H:Hp) (E:Value→Shared→Prop),Inv X pins σ H s→(∀b∈fp,QdL X pins H b)→tn i s.heap→J.go i H →
  wpAny (model P w) X.A (pyNext (.ref it)) (fun r s1=>∃u,r=some u ∧
   wpAny (model P w) X.A (letOwnedTupleGo tg (.ref it) u) (fun _ s2=>∃x H',Inv X pins σ H' s2∧RelV x u∧J.yld i H x H'∧tn (i+1) s2.heap∧∀b∈fp,H' b=none) E s1) E s
 done:∀(X:Cx),X.prog=P→X.w=w→X.K=K→X.calm=true→∀(i:Nat) (pins:List (Addr×Obj)) (s:Shared) (σ:St) (H:Hp) (E:Value→Shared→Prop),Inv X pins σ H s→(∀b∈fp,QdL X pins H b)→tn i s.heap→J.stop i H →
  wpAny (model P w) X.A (pyNext (.ref it)) (fun r s1=>r=none∧Inv X pins σ H s1) E s
 self:∀(A:Around) (i:Nat) (s:Shared) (Q:Value→Shared→Prop) (E:Value→Shared→Prop),tn i s.heap→Q (.ref it) s→wpAny (model P w) A (pyIter (.ref it)) Q E s
abbrev TI:=St→Hp→(It→Hp→Prop)→Prop
def PIE (X:Cx) (pins:List (Addr×Obj)) (σ:St) (tg:Expr) (R:It→Hp→Prop) (itv:Value) (s2:Shared):Prop :=
 ∃(it:Addr) (fp:List Addr) (tn:Nat→Heap→Prop) (J:It) (H':Hp),itv = .ref it∧Inv X pins σ H' s2∧Turn X.prog X.w X.K tg J fp it tn∧tn 0 s2.heap∧(∀b∈fp,QdL X pins H' b)∧R J H'
def PI (X:Cx) (tg iter:Expr) (wi:TI):Prop :=
 ∀(pins:List (Addr×Obj)) (s:Shared) (σ:St) (H:Hp) (R:It→Hp→Prop),Inv X pins σ H s→wi σ H R →
  wpAny (model X.prog X.w) X.A (eval iter X.env) (fun v s1=>wpAny (model X.prog X.w) X.A (pyIter v) (PIE X pins σ tg R) X.xe s1) X.xe s
theorem QjT {M:Model}{A:Around}{E:Value→Shared→Prop}{s:Shared}{tg:Expr}{it:Addr}{u:Value}{o:Obj}{n:String}{vs:Array Value}{Q:Unit→Shared→Prop} (ho:s.heap.get? it=some o) (hc:o.cls = .type n) (hd:o.data = .fields vs)
  (hn:["enumerate","zip","dict_itemiterator","dict_reverseitemiterator","odict_iterator","itertools.zip_longest","itertools.pairwise"].contains n=false) (hQ:Q () s):wpAny M A (letOwnedTupleGo tg (.ref it) u) Q E s:=by
 unfold letOwnedTupleGo
 cases tg <;> first
  | exact zb hQ
  | (cases u <;> first
    | exact zb hQ
    | (refine za (wpAny_load ho ?_)
       rw [hc,hd];show wpAny M A (if (["enumerate","zip","dict_itemiterator","dict_reverseitemiterator","odict_iterator","itertools.zip_longest","itertools.pairwise"].contains n&&vs[0]? == some (rawInt _))=true then _ else _) Q E s;rw [if_neg (by intro h; rw [hn,Bool.false_and] at h; cases h)]
       exact zb hQ))
def Itl (K:PySem.W.Frag) (a:Addr):It :=
 ⟨fun i H=>∃xs x,SqL K H a xs∧xs[i]? = some x,fun i H x H'=>H'=H∧∀xs,SqL K H a xs→xs[i]? = some x,fun i H=>∃xs,SqL K H a xs∧xs.length≤i⟩
def Itt (K:PySem.W.Frag) (a:Addr):It :=
 ⟨fun i H=>∃xs x,SqT K H a xs∧xs[i]? = some x,fun i H x H'=>H'=H∧∀xs,SqT K H a xs→xs[i]? = some x,fun i H=>∃xs,SqT K H a xs∧xs.length≤i⟩
def Itr (lo:Int) (n:Nat):It:=⟨fun i _=>i < n,fun i H x H'=>H'=H∧x = .int (lo+i),fun i _=>n≤i⟩
theorem QnG {P:Program}{w:World}{K:PySem.W.Frag}{tg:Expr} (a it:Addr):Turn P w K tg (Itl K a) [it] it (fun i h=>h.IsListIter it a i) where
 mem:=by simp
 obj:=fun i h st b hb=>by
  have e:b=it:=by simpa using hb
  subst e;obtain ⟨o,e,c,d⟩:=st;exact ⟨o,e,fun v z=>by rw [d] at z; cases z⟩
 keep:=fun i h h' st k=>st.at fun o e=>k it (by simp) o e
 item:=by
  intro X hP hw hK hc i pins s σ H E I hf st hg;subst hP hw hK;obtain ⟨xs,x,hq,hx⟩:=hg;obtain ⟨its,rv,p,hz⟩:=I.list hq;obtain ⟨u,hu,ru⟩:=rv.get hx;obtain ⟨f0,f1,f2,f3,f4,f5⟩:=hf it (by simp)
  refine wpAny_pyNext_list_item st p.isList (x:=u) (by simpa using hu) fun h' st' sb=>?_
  have I1:Inv X pins σ H { s with heap:=h' }:=I.turned (t':=s.toks) (fun b o hb e=>(sb.2 b hb).trans e) f0 f1 f3 f4 f5;obtain ⟨o,e,c,d⟩:=id st';exact ⟨u,rfl,QjT (s:={ s with heap:=h' }) e c d (by decide) ⟨x,H,I1,ru,⟨rfl,fun ys hy=>by rw [I.list_inj hy hq]; exact hx⟩,st',fun b hb=>(hf b hb).1⟩⟩
 done:=by
  intro X hP hw hK hc i pins s σ H E I hf st hg;subst hP hw hK;obtain ⟨xs,hq,hx⟩:=hg;obtain ⟨its,rv,p,hz⟩:=I.list hq;obtain ⟨f0,f1,f2,f3,f4,f5⟩:=hf it (by simp);have hl:=rv.length
  exact wpAny_pyNext_list_end (I.ok.hd hc) st p.isList (by simp; omega) fun h' eb=>⟨rfl,I.turned (t':=s.toks) (fun b o hb e=>eb b o hb e) f0 f1 f3 f4 f5⟩
 self:=fun _ _ _ _ _ st h=>wpAny_pyIter_listiter st h
theorem Qmf {P:Program}{w:World}{K:PySem.W.Frag}{tg:Expr} (a it:Addr):Turn P w K tg (Itt K a) [it] it (fun i h=>h.IsTupleIter it a i) where
 mem:=by simp
 obj:=fun i h st b hb=>by
  have e:b=it:=by simpa using hb
  subst e;obtain ⟨o,e,c,d⟩:=st;exact ⟨o,e,fun v z=>by rw [d] at z; cases z⟩
 keep:=fun i h h' st k=>st.at fun o e=>k it (by simp) o e
 item:=by
  intro X hP hw hK hc i pins s σ H E I hf st hg;subst hP hw hK;obtain ⟨xs,x,hq,hx⟩:=hg;obtain ⟨its,rv,p,hz⟩:=I.tuple hq;obtain ⟨u,hu,ru⟩:=rv.get hx;obtain ⟨f0,f1,f2,f3,f4,f5⟩:=hf it (by simp)
  refine wpAny_pyNext_tuple_item st (show s.heap.IsTuple a its.toArray from p) (x:=u) (by simpa using hu) fun h' st' sb=>?_
  have I1:Inv X pins σ H { s with heap:=h' }:=I.turned (t':=s.toks) (fun b o hb e=>(sb.2 b hb).trans e) f0 f1 f3 f4 f5;obtain ⟨o,e,c,d⟩:=id st';exact ⟨u,rfl,QjT (s:={ s with heap:=h' }) e c d (by decide) ⟨x,H,I1,ru,⟨rfl,fun ys hy=>by rw [I.tuple_inj hy hq]; exact hx⟩,st',fun b hb=>(hf b hb).1⟩⟩
 done:=by
  intro X hP hw hK hc i pins s σ H E I hf st hg;subst hP hw hK;obtain ⟨xs,hq,hx⟩:=hg;obtain ⟨its,rv,p,hz⟩:=I.tuple hq;obtain ⟨f0,f1,f2,f3,f4,f5⟩:=hf it (by simp);have hl:=rv.length
  exact wpAny_pyNext_tuple_end (I.ok.hd hc) st (show s.heap.IsTuple a its.toArray from p) (by simp; omega) fun h' eb=>⟨rfl,I.turned (t':=s.toks) (fun b o hb e=>eb b o hb e) f0 f1 f3 f4 f5⟩
 self:=fun _ _ _ _ _ st h=>wpAny_pyIter_tupleiter st h
theorem Qmq {P:Program}{w:World}{K:PySem.W.Frag}{tg:Expr} (it:Addr) (lo:Int) (n:Nat):Turn P w K tg (Itr lo n) [it] it (fun i h=>IsRangeIter h it (lo+(i:Nat) * 1) ((n:Int) - (i:Nat)) 1) where
 mem:=by simp
 obj:=fun i h st b hb=>by
  have e:b=it:=by simpa using hb
  subst e
  exact ⟨_,st,fun v z=>by
   have z':Data.fields _=Data.cell v:=z
   cases z'⟩
 keep:=fun i h h' st k=>k it (by simp) _ st
 item:=by
  intro X hP hw hK hc i pins s σ H E I hf st hg;subst hP hw hK;obtain ⟨f0,f1,f2,f3,f4,f5⟩:=hf it (by simp);have W:=Walks.range (prog:=X.prog) (w:=X.w) (I.ok.hd hc) it lo 1 n
  refine W.item i s _ _ hg st fun v h' tk hv st' kk=>?_
  obtain ⟨t,rfl⟩:=hv;have I1:Inv X pins σ H { s with heap:=h',toks:=tk }:=I.turned (fun b o hb e=>kk b o (by simpa using hb) e) f0 f1 f3 f4 f5;refine ⟨_,rfl,QjT (s:={ s with heap:=h',toks:=tk }) (n:="range_iterator") st' rfl rfl (by decide) ⟨.int (lo+i),H,I1,⟨t,?_⟩,⟨rfl,rfl⟩,st',fun b hb=>(hf b hb).1⟩⟩;rw [Int.mul_one]
 done:=by
  intro X hP hw hK hc i pins s σ H E I hf st hg;subst hP hw hK;obtain ⟨f0,f1,f2,f3,f4,f5⟩:=hf it (by simp)
  exact wpAny_pyNext_range_end (I.ok.hd hc) st (by have:n≤i:=hg; omega) fun h' eb=>⟨rfl,I.turned (t':=s.toks) (fun b o hb e=>eb b o hb e) f0 f1 f3 f4 f5⟩
 self:=fun _ _ _ _ _ st h=>wpAny_pyIter_rangeiter st h
section
variable {X:Cx}{tg:Expr}
def Qtq (K:PySem.W.Frag) (tl:TE):TI:=fun σ H R=>tl σ H fun x H1=>∃a,x = .ref a∧(∃xs,SqL K H1 a xs)∧R (Itl K a) H1
def QuY (K:PySem.W.Frag) (tl:TE):TI:=fun σ H R=>tl σ H fun x H1=>∃a,x = .ref a∧(∃xs,SqT K H1 a xs)∧R (Itt K a) H1
theorem Qle {l:Expr}{tl:TE} (hl:PE X l tl):PI X tg l (Qtq X.K tl):=by
 intro pins s σ H R I h
 refine thn (hl pins s σ H _ I h) fun v s1 ⟨x,H1,I1,r1,q1⟩=>?_
 obtain ⟨a,e,⟨xs,hq⟩,q⟩:=q1;subst e;cases r1;obtain ⟨its,rv,p,hz⟩:=I1.list hq;refine wpAny_pyIter_list p.isList ?_;refine ⟨s1.heap.objs.size,[s1.heap.objs.size],_,_,H1,rfl,I1.kept (t':=s1.toks) fun b o e=>zf _ e,QnG a _,⟨_,zD _ rfl,rfl,rfl⟩,fun b hb=>?_,q⟩
 have e:b=s1.heap.objs.size:=by simpa using hb
 subst e;exact I1.fpOk (zc _) (I1.hok.fresh (zc _))
theorem QsN {l:Expr}{tl:TE} (hl:PE X l tl):PI X tg l (QuY X.K tl):=by
 intro pins s σ H R I h
 refine thn (hl pins s σ H _ I h) fun v s1 ⟨x,H1,I1,r1,q1⟩=>?_
 obtain ⟨a,e,⟨xs,hq⟩,q⟩:=q1;subst e;cases r1;obtain ⟨its,rv,p,hz⟩:=I1.tuple hq;refine wpAny_pyIter_tuple (show s1.heap.IsTuple a its.toArray from p) ?_;refine ⟨s1.heap.objs.size,[s1.heap.objs.size],_,_,H1,rfl,I1.kept (t':=s1.toks) fun b o e=>zf _ e,Qmf a _,⟨_,zD _ rfl,rfl,rfl⟩,fun b hb=>?_,q⟩
 have e:b=s1.heap.objs.size:=by simpa using hb
 subst e;exact I1.fpOk (zc _) (I1.hok.fresh (zc _))
theorem Qo3 {pins:List (Addr×Obj)}{σ:St}{H:Hp}{s:Shared}{R:It→Hp→Prop}{E:Value→Shared→Prop}{lo hi:Int}{t u v:Tok}{tk:Nat} (I:Inv X pins σ H s) (h1:-(2 ^ 62)≤lo) (h2:lo < 2 ^ 62) (h3:-(2 ^ 62)≤hi) (h4:hi < 2 ^ 62)
  (q:R (Itr lo (hi - lo).toNat) H):wpAny (model X.prog X.w) X.A (pyIter (.ref s.heap.objs.size)) (PIE X pins σ tg R) E { s with heap:=s.heap.push { cls:=.type "range",data:=.fields #[.int lo t,.int hi u,.int 1 v] },toks:=tk }:=by
 refine wpAny_pyIter_range (IsRange.new ..) (small_one h1 h2 h3 h4) ?_
 have I1:Inv X pins σ H { s with heap:=s.heap.push { cls:=.type "range",data:=.fields #[.int lo t,.int hi u,.int 1 v] },toks:=tk }:=I.kept fun b o e=>zf _ e
 refine ⟨(s.heap.push { cls:=.type "range",data:=.fields #[.int lo t,.int hi u,.int 1 v] }).objs.size,[(s.heap.push { cls:=.type "range",data:=.fields #[.int lo t,.int hi u,.int 1 v] }).objs.size],_,_,H,rfl,
  I1.kept (t':=tk) fun b o e=>zf _ e,Qmq _ lo (hi - lo).toNat,?_,fun b hb=>?_,q⟩
 ·have e1:lo+((0:Nat):Int) * 1=lo:=by simp
  have e2:(((hi - lo).toNat:Nat):Int) - ((0:Nat):Int)=Builtin.Range.rangeSize lo hi 1:=by rw [rangeSize_one]; split <;> omega
  show IsRangeIter _ _ (lo+((0:Nat):Int) * 1) ((((hi - lo).toNat:Nat):Int) - ((0:Nat):Int)) 1;rw [e1,e2];exact zD _ rfl
 ·have e:b=(s.heap.push { cls:=.type "range",data:=.fields #[.int lo t,.int hi u,.int 1 v] }).objs.size:=by simpa using hb
  subst e;exact I1.fpOk (zc _) (I1.hok.fresh (zc _))
def Quh (ta:TA):TI:=fun σ H R=>ta σ H fun vs H1=>∃j:Int,vs = [.int j]∧-(2 ^ 62)≤j∧j < 2 ^ 62∧R (Itr 0 j.toNat) H1
theorem QnC {a:Expr}{ta:TA}{p pos:Pos} (hg:Gl X "range") (hm:X.mg "range" = none) (ha:PA X [a] ta) (hs:starEach [a] X.env = [(false,eval a X.env)]:=by rfl):PI X tg (.Call (.Name "range" p) [a] [] pos) (Quh ta):=by
 intro pins s σ H R I h;refine Call_ (Qgb I hg hm boot_range (PyProof.Rows.callWith_type1 (thn (ha pos pins s σ H _ I h) fun us s1 ⟨vs,H1,I1,r1,q1⟩=>?_) hs rfl));obtain ⟨j,e,q1,q2,q⟩:=q1;subst e
 cases r1 with
 | cons r rr =>
  cases rr;obtain ⟨t,rfl⟩:=r;exact call_range_1 (Qo3 I1 (by omega) (by omega) q1 q2 (by simpa using q))
def QoE (wi:TI) (g:TG) (tb:TS):TS:=fun D σ H=>wi σ H fun J H1=>∃W:Nat→Nat→St→Hp→Prop,(∃m,W 0 m σ H1)∧∀i m σ H,W i m σ H →
 (J.stop i H∧D.nx σ H)∨(J.go i H∧∃N:St→Hp→Prop,(∀σ' H',N σ' H'→∃m',m' < m∧W (i+1) m' σ' H')∧∀x H',J.yld i H x H'→g x σ H' fun σ2 H2=>tb { D with nx:=N,ct:=N,bk:=D.nx } σ2 H2)
def Qho (fp:List Addr) (h:Heap):List (Addr×Obj):=fp.filterMap fun b=>(h.get? b).map fun o=>(b,o)
theorem QeY {fp:List Addr}{h:Heap}{b:Addr}{o:Obj} (hb:b∈fp) (e:h.get? b=some o):(b,o)∈Qho fp h:=List.mem_filterMap.mpr ⟨b,hb,by rw [e]; rfl⟩
theorem Qm7 {fp:List Addr}{h:Heap}{p:Addr×Obj} (hp:p∈Qho fp h):p.1∈fp∧h.get? p.1=some p.2:=by
 obtain ⟨b,hb,e⟩:=List.mem_filterMap.mp hp
 cases q:h.get? b with
 | none=>rw [q] at e; cases e
 | some o =>
  rw [q] at e;have e':(b,o)=p:=zG e;subst e';exact ⟨hb,q⟩
theorem Inv.pinned {pins:List (Addr×Obj)}{σ:St}{H:Hp}{s:Shared}{fp:List Addr} (I:Inv X pins σ H s) (hf:∀b∈fp,QdL X pins H b) (ho:∀b∈fp,∃o,s.heap.get? b=some o∧∀v,o.data≠.cell v):Inv X (pins++Qho fp s.heap) σ H s :=
 I.pins_of fun p hp=>(zA.mp hp).elim (fun z=>I.pin p (zN _ z)) fun z=>by
  obtain ⟨hb,e⟩:=Qm7 z;obtain ⟨f0,f1,f2,_⟩:=hf p.1 hb;obtain ⟨o,e',d⟩:=ho p.1 hb;rw [e] at e'; cases e';exact ⟨e,f0,f1,f2,d⟩
theorem Inv.unpinned {pins pl:List (Addr×Obj)}{σ:St}{H:Hp}{s:Shared} (I:Inv X (pins++pl) σ H s):Inv X pins σ H s:=I.pins_of fun p hp=>I.pin p (zN _ (List.mem_append_left _ hp))
theorem Qnb {iter:Expr}{body:List Stmt}{wi:TI}{g:TG}{tb:TS}{pos:Pos} (hp:PassesOwn (model X.prog X.w) X.A X.env X.xe) (hc:X.calm=true) (hi:PI X tg iter wi) (hg:PG X tg g) (hb:PSs X body tb)
  (hs:∀x,foldedSetIterable iter X.env x=pure x:=by intro _; rfl):PS X (.For tg iter body [] pos) (QoE wi g tb):=by
 intro pins s σ H D I h;refine wpAny_For (thn (hi pins s σ H _ I h) fun v s1 h1=>thn h1 fun itv s2 h2=>?_) hs;obtain ⟨it,fp,tn,J,H2,e,I2,T,st2,f2,W,⟨m0,w0⟩,turn⟩:=h2;subst e
 have stat:∀{H':Hp},(∀b∈fp,H' b=none)→∀b∈fp,QdL X pins H' b:=fun hn b hb=>⟨hn b hb,(f2 b hb).2⟩
 refine codeAny_forLoop_any (fun n s'=>∃i σ' H',Inv X pins σ' H' s'∧tn i s'.heap∧(∀b∈fp,H' b=none)∧W i n σ' H') ?_ m0 ⟨0,σ,H2,I2,st2,fun b hb=>(f2 b hb).1,w0⟩;rintro n s3 ⟨i,σ3,H3,I3,st3,fr3,w3⟩
 rcases turn i n σ3 H3 w3 with ⟨stop,qn⟩ | ⟨go,N,hN,step⟩
 ·refine wpAny_passesOwn hp (thn (T.done X rfl rfl rfl hc i pins s3 σ3 H3 X.xe I3 (stat fr3) st3 stop) fun r s4 ⟨hr,I4⟩=>?_);subst hr;exact wpAny_execs_nil ⟨σ3,H3,I4,qn⟩
 ·refine wpAny_passesOwn hp (thn (T.item X rfl rfl rfl hc i pins s3 σ3 H3 X.xe I3 (stat fr3) st3 go) fun r s4 ⟨u,hr,h4⟩=>?_);subst hr;refine wpAny_passesOwn hp (thn h4 fun _ s5 ⟨x,H5,I5,r5,y5,st5,fr5⟩=>?_);have I5':=I5.pinned (stat fr5) (T.obj _ _ st5);refine wpAny_passesOwn hp (thn (hg _ s5 σ3 H5 x u _ I5' r5 (step x H5 y5)) fun _ s6 ⟨σ6,H6,I6,q6⟩=>?_);refine wpAny_passesOwn hp (thn (hb _ s6 σ6 H6 _ I6 q6) fun f s7 q7=>?_)
  have again:∀{σ7:St}{H7:Hp},Inv X (pins++Qho fp s5.heap) σ7 H7 s7→N σ7 H7→∃m,m < n∧∃i σ' H',Inv X pins σ' H' s7∧tn i s7.heap∧(∀b∈fp,H' b=none)∧W i m σ' H':=fun {σ7 H7} I7 n7=>by
   obtain ⟨m',hm,w7⟩:=hN σ7 H7 n7;refine ⟨m',hm,i+1,σ7,H7,I7.unpinned,T.keep _ _ _ st5 fun b hb o e=>(I7.pin (b,o) (zN _ (zN _ (QeY hb e)))).1,fun b hb=>?_,w7⟩;obtain ⟨o,e,d⟩:=T.obj _ _ st5 b hb;exact (I7.pin (b,o) (zN _ (zN _ (QeY hb e)))).2.1
  cases f with
  | next=>obtain ⟨σ7,H7,I7,n7⟩:=q7; exact again I7 n7
  | cont=>obtain ⟨σ7,H7,I7,n7⟩:=q7; exact again I7 n7
  | brk=>obtain ⟨σ7,H7,I7,q7⟩:=q7; exact ⟨σ7,H7,I7.unpinned,q7⟩
  | ret v=>obtain ⟨x7,σ7,H7,I7,r7,q7⟩:=q7; exact ⟨x7,σ7,H7,I7.unpinned,r7,q7⟩
end
abbrev R2:=V→V→Hp→VK→Prop
def OpR (X:Cx) (f:Value→Value→Sem Value) (r:R2):Prop :=
 ∀(pins:List (Addr×Obj)) (s:Shared) (σ:St) (H:Hp) (x y:V) (v u:Value) (Q:VK),Inv X pins σ H s→RelV x v→RelV y u→r x y H Q →
  wpAny (model X.prog X.w) X.A (f v u) (EP X pins σ Q) X.xe s
def UnR (X:Cx) (f:Value→Sem Value) (r:V→Hp→VK→Prop):Prop :=
 ∀(pins:List (Addr×Obj)) (s:Shared) (σ:St) (H:Hp) (x:V) (v:Value) (Q:VK),Inv X pins σ H s→RelV x v→r x H Q →
  wpAny (model X.prog X.w) X.A (f v) (EP X pins σ Q) X.xe s
def QdK (X:Cx) (f:Value) (r:List V→Hp→VK→Prop):Prop :=
 ∀(pins:List (Addr×Obj)) (s:Shared) (σ:St) (H:Hp) (xs:List V) (us:List Value) (Q:VK),Inv X pins σ H s→Qaz xs us→r xs H Q →
  wpAny (model X.prog X.w) X.A (call f us) (EP X pins σ Q) X.xe s
def Qvt (X:Cx) (r:V→Hp→(Bool→Hp→Prop)→Prop):Prop :=
 ∀(pins:List (Addr×Obj)) (s:Shared) (σ:St) (H:Hp) (x:V) (v:Value) (Q:Bool→Hp→Prop),Inv X pins σ H s→RelV x v→r x H Q →
  wpAny (model X.prog X.w) X.A (truthy v) (TP X pins σ Q) X.xe s
def tOp (r:R2) (ta tb:TE):TE:=fun σ H Q=>ta σ H fun x H1=>tb σ H1 fun y H2=>r x y H2 Q
def tUn (r:V→Hp→VK→Prop) (ta:TE):TE:=fun σ H Q=>ta σ H fun x H1=>r x H1 Q
def rI (C:Int→Int→Prop) (g:Int→Int→V):R2:=fun x y H Q=>∃i j,x = .int i∧y = .int j∧C i j∧Q (g i j) H
def rI0 (g:Int→Int→V):R2:=fun x y H Q=>∃i j,x = .int i∧y = .int j∧Q (g i j) H
def rU (g:Int→V):V→Hp→VK→Prop:=fun x H Q=>∃i,x = .int i∧Q (g i) H
section
variable {X:Cx}{a b c:Expr}{ta tb tc:TE}{pos:Pos}
theorem Qoo (ha:PE X a ta) (hb:PE X b tb) {pins:List (Addr×Obj)}{s:Shared}{σ:St}{H:Hp}{R:V→V→Hp→Prop} (I:Inv X pins σ H s)
  (h:ta σ H fun x H1=>tb σ H1 fun y H2=>R x y H2) {Q:Value→Shared→Prop}{f:Value→Value→Sem Value}
  (hf:∀v u s2 x y H2,Inv X pins σ H2 s2→RelV x v→RelV y u→R x y H2→wpAny (model X.prog X.w) X.A (f v u) Q X.xe s2) :
  wpAny (model X.prog X.w) X.A (eval a X.env) (fun v s₁=>wpAny (model X.prog X.w) X.A (eval b X.env) (fun u s₂=>wpAny (model X.prog X.w) X.A (f v u) Q X.xe s₂) X.xe s₁) X.xe s:=by
 refine thn (ha pins s σ H _ I h) fun v s1 ⟨x,H1,I1,r1,q1⟩=>?_
 refine thn (hb pins s1 σ H1 _ I1 q1) fun u s2 ⟨y,H2,I2,r2,q2⟩=>?_
 exact hf v u s2 x y H2 I2 r1 r2 q2
theorem Quf {op:Operator}{r:R2} (ho:OpR X (binaryOp op) r) (ha:PE X a ta) (hb:PE X b tb):PE X (.BinOp a op b pos) (tOp r ta tb):=by
 intro pins s σ H Q I h;exact wpAny_BinOp (Qoo ha hb I h fun v u s2 x y H2 I2 rx ry q=>ho pins s2 σ H2 x y v u Q I2 rx ry q)
theorem Qty {op:UnaryOp}{r:V→Hp→VK→Prop} (ho:UnR X (unaryOp op) r) (ha:PE X a ta):PE X (.UnaryOp op a pos) (tUn r ta):=by
 intro pins s σ H Q I h;exact UnaryOp_ (thn (ha pins s σ H _ I h) fun v s1 ⟨x,H1,I1,r1,q1⟩=>ho pins s1 σ H1 x v Q I1 r1 q1)
theorem opI {f:Value→Value→Sem Value}{C:Int→Int→Prop}{g:Int→Int→Int}
  (rule:∀(i j:Int) (t u:Tok) (s:Shared) (Q:Value→Shared→Prop) (E:Value→Shared→Prop),C i j→Q (.int (g i j) s.toks) { s with toks:=s.toks+1 }→wpAny (model X.prog X.w) X.A (f (.int i t) (.int j u)) Q E s) :
  OpR X f (rI C fun i j=>.int (g i j)):=by
 intro pins s σ H x y v u Q I rx ry h;obtain ⟨i,j,rfl,rfl,hc,q⟩:=h;obtain ⟨t,rfl⟩:=rx;obtain ⟨t',rfl⟩:=ry;exact rule i j t t' s _ _ hc ⟨.int (g i j),H,I.tok _,⟨_,rfl⟩,q⟩
theorem Qsa {f:Value→Value→Sem Value}{g:Int→Int→Int}
  (rule:∀(i j:Int) (t u:Tok) (s:Shared) (Q:Value→Shared→Prop) (E:Value→Shared→Prop),Q (.int (g i j) s.toks) { s with toks:=s.toks+1 }→wpAny (model X.prog X.w) X.A (f (.int i t) (.int j u)) Q E s) :
  OpR X f (rI0 fun i j=>.int (g i j)):=by
 intro pins s σ H x y v u Q I rx ry h;obtain ⟨i,j,rfl,rfl,q⟩:=h;obtain ⟨t,rfl⟩:=rx;obtain ⟨t',rfl⟩:=ry;exact rule i j t t' s _ _ ⟨.int (g i j),H,I.tok _,⟨_,rfl⟩,q⟩
theorem QmF {f:Value→Value→Sem Value}{g:Int→Int→Bool}
  (rule:∀(i j:Int) (t u:Tok) (s:Shared) (Q:Value→Shared→Prop) (E:Value→Shared→Prop),Q (.bool (g i j)) s→wpAny (model X.prog X.w) X.A (f (.int i t) (.int j u)) Q E s) :
  OpR X f (rI0 fun i j=>.bl (g i j)):=by
 intro pins s σ H x y v u Q I rx ry h;obtain ⟨i,j,rfl,rfl,q⟩:=h;obtain ⟨t,rfl⟩:=rx;obtain ⟨t',rfl⟩:=ry;exact rule i j t t' s _ _ ⟨.bl (g i j),H,I,rfl,q⟩
def QuN (i j:Int):Prop:=0 < j∧j < 1073741824
def QuI (i j:Int):Prop:=0≤j∧j≤1000000∧i.natAbs < 2 ^ 64
def Qpg (i j:Int):Prop:=(-(2 ^ 64) < i∧i < 2 ^ 64)∨(-(2 ^ 64) < j∧j < 2 ^ 64)
theorem Qpg.ok {i j:Int} (h:Qpg i j):IntMulOk i j:=by
 rcases h with ⟨h1,h2⟩ | ⟨h1,h2⟩
 ·exact .of_left (intBits_le_64 h1 h2)
 ·exact .of_right (intBits_le_64 h1 h2)
theorem Qsq:OpR X (binaryOp .Add) (rI0 fun i j=>.int (i+j)):=Qsa fun _ _ _ _ _ _ _ q=>add_int q
theorem Qs0:OpR X (binaryOp .Sub) (rI0 fun i j=>.int (i - j)):=Qsa fun _ _ _ _ _ _ _ q=>sub_int q
theorem QrB:OpR X (binaryOp .Mult) (rI Qpg fun i j=>.int (i * j)):=opI fun _ _ _ _ _ _ _ hc q=>mul_int q hc.ok
theorem Qrd:OpR X (binaryOp .FloorDiv) (rI QuN fun i j=>.int (i / j)):=opI fun i j _ _ _ _ _ hc q=>by
 have h1:(0:Int) < j:=hc.1;have h2:j < 1073741824:=hc.2;exact floordiv_int (by omega) (by rw [Int.fdiv_eq_ediv_of_nonneg i (by omega)]; exact q) (.inl (PyProof.noPylong_small (by omega)))
theorem Qsp:OpR X (binaryOp .Mod) (rI (fun _ j=>0 < j) fun i j=>.int (i % j)):=opI fun i j _ _ _ _ _ hc q=>by
 have h1:(0:Int) < j:=hc;exact mod_int' (by omega) (by rw [Int.fmod_eq_emod_of_nonneg i (by omega)]; exact q)
theorem Qsg:OpR X (binaryOp .Pow) (rI QuI fun i j=>.int (i ^ j.toNat)):=opI fun _ _ _ _ _ _ _ hc q=>pow_int_small hc.1 hc.2.1 hc.2.2 q
theorem unI {f:Value→Sem Value}{g:Int→Int}
  (rule:∀(i:Int) (t:Tok) (s:Shared) (Q:Value→Shared→Prop) (E:Value→Shared→Prop),Q (.int (g i) s.toks) { s with toks:=s.toks+1 }→wpAny (model X.prog X.w) X.A (f (.int i t)) Q E s) :
  UnR X f (rU fun i=>.int (g i)):=by
 intro pins s σ H x v Q I rx h;obtain ⟨i,rfl,q⟩:=h;obtain ⟨t,rfl⟩:=rx;exact rule i t s _ _ ⟨.int (g i),H,I.tok _,⟨_,rfl⟩,q⟩
theorem Qs7:UnR X (unaryOp .USub) (rU fun i=>.int (-i)):=unI fun _ _ _ _ _ q=>neg_int q
theorem QnY:OpR X (binaryOp .Add) (fun x y H Q=>∃i k,x = .int i∧y = .bl k∧Q (.int (i+b2i k)) H):=by
 intro pins s σ H x y v u Q I rx ry h;obtain ⟨i,k,rfl,rfl,q⟩:=h;obtain ⟨t,rfl⟩:=rx;cases ry;exact add_int_bool ⟨.int (i+b2i k),H,I.tok _,⟨_,rfl⟩,q⟩
end
def QsF:V→V→Bool
 | .non,.non=>true | .non,.int _=>true | .int _,.non=>true | .non,.bl _=>true | .bl _,.non=>true | .non,.str _=>true | .str _,.non=>true
 | .int _,.int _=>true | .bl _,.bl _=>true | .str _,.str _=>true | .byt _,.byt _=>true
 | .int _,.str _=>true | .str _,.int _=>true | .bl _,.str _=>true | .str _,.bl _=>true
 | _,_=>false
def rEq:R2:=fun x y H Q=>QsF x y=true∧Q (.bl (decide (x=y))) H
def rNe:R2:=fun x y H Q=>QsF x y=true∧Q (.bl (!decide (x=y))) H
theorem Qld {i j:Int}:decide (V.int i=V.int j)=(i == j):=by
 rw [Bool.eq_iff_iff];simp
theorem Qoc {i j:Bool}:decide (V.bl i=V.bl j)=(i == j):=by
 rw [Bool.eq_iff_iff];simp
theorem Qls {i j:Str}:decide (V.str i=V.str j)=(i == j):=by
 rw [Bool.eq_iff_iff];simp
theorem QlC {i j:Array UInt8}:decide (V.byt i=V.byt j)=(i.toList == j.toList):=by
 rw [Bool.eq_iff_iff];cases i;cases j;simp
section
variable {X:Cx}{a b c:Expr}{ta tb tc:TE}{pos:Pos}
theorem Qa6 {pins:List (Addr×Obj)}{σ:St}{H:Hp}{s:Shared}{Q:VK}{k k':Bool} (I:Inv X pins σ H s) (q:Q (.bl k) H) (e:k=k'):EP X pins σ Q (.bool k') s:=by
 subst e;exact ⟨.bl k,H,I,rfl,q⟩
theorem QlR:OpR X (compareOp .Eq) rEq:=by
 intro pins s σ H x y v u Q I rx ry h;obtain ⟨hs,q⟩:=h
 cases x with
 | non =>
  cases rx
  cases y with
  | non=>cases ry; exact PySem.EqNone.eq_none_none (Qa6 I q (by simp))
  | bl j=>cases ry; exact PySem.EqNone.eq_none_bool (Qa6 I q (by simp))
  | int j=>obtain ⟨t',rfl⟩:=ry; exact PySem.EqNone.eq_none_int (Qa6 I q (by simp))
  | str j=>obtain ⟨t',rfl⟩:=ry; exact PySem.EqNone.eq_none_str (Qa6 I q (by simp))
  | _=>exact absurd (show false=true from hs) zk
 | bl i =>
  cases rx
  cases y with
  | non=>cases ry; exact PySem.EqNone.eq_bool_none (Qa6 I q (by simp))
  | bl j=>cases ry; exact eq_bool (Qa6 I q Qoc)
  | str j=>obtain ⟨t',rfl⟩:=ry; exact PySem.EqMixed.eq_bool_str (Qa6 I q (by simp))
  | _=>exact absurd (show false=true from hs) zk
 | int i =>
  obtain ⟨t,rfl⟩:=rx
  cases y with
  | non=>cases ry; exact PySem.EqNone.eq_int_none (Qa6 I q (by simp))
  | int j=>obtain ⟨t',rfl⟩:=ry; exact eq_int (Qa6 I q Qld)
  | str j=>obtain ⟨t',rfl⟩:=ry; exact PySem.EqMixed.eq_int_str (Qa6 I q (by simp))
  | _=>exact absurd (show false=true from hs) zk
 | str i =>
  obtain ⟨t,rfl⟩:=rx
  cases y with
  | non=>cases ry; exact PySem.EqNone.eq_str_none (Qa6 I q (by simp))
  | bl j=>cases ry; exact PySem.EqMixed.eq_str_bool (Qa6 I q (by simp))
  | int j=>obtain ⟨t',rfl⟩:=ry; exact PySem.EqMixed.eq_str_int (Qa6 I q (by simp))
  | str j=>obtain ⟨t',rfl⟩:=ry; exact eq_str (Qa6 I q Qls)
  | _=>exact absurd (show false=true from hs) zk
 | byt i =>
  obtain ⟨t,rfl⟩:=rx
  cases y with
  | byt j=>obtain ⟨t',rfl⟩:=ry; exact PySem.W.eq_bytes (Qa6 I q QlC)
  | _=>exact absurd (show false=true from hs) zk
 | _=>cases y <;> exact absurd (show false=true from hs) zk
theorem Ql9:OpR X (compareOp .NotEq) rNe:=by
 intro pins s σ H x y v u Q I rx ry h;obtain ⟨hs,q⟩:=h
 cases x with
 | non =>
  cases rx
  cases y with
  | non=>cases ry; exact PySem.EqNone.ne_none_none (Qa6 I q (by simp))
  | bl j=>cases ry; exact PySem.EqNone.ne_none_bool (Qa6 I q (by simp))
  | int j=>obtain ⟨t',rfl⟩:=ry; exact PySem.EqNone.ne_none_int (Qa6 I q (by simp))
  | str j=>obtain ⟨t',rfl⟩:=ry; exact PySem.EqNone.ne_none_str (Qa6 I q (by simp))
  | _=>exact absurd (show false=true from hs) zk
 | bl i =>
  cases rx
  cases y with
  | non=>cases ry; exact PySem.EqNone.ne_bool_none (Qa6 I q (by simp))
  | bl j=>cases ry; exact ne_bool (Qa6 I q (congrArg not Qoc))
  | str j=>obtain ⟨t',rfl⟩:=ry; exact PySem.EqMixed.ne_bool_str (Qa6 I q (by simp))
  | _=>exact absurd (show false=true from hs) zk
 | int i =>
  obtain ⟨t,rfl⟩:=rx
  cases y with
  | non=>cases ry; exact PySem.EqNone.ne_int_none (Qa6 I q (by simp))
  | int j=>obtain ⟨t',rfl⟩:=ry; exact ne_int (Qa6 I q (congrArg not Qld))
  | str j=>obtain ⟨t',rfl⟩:=ry; exact PySem.EqMixed.ne_int_str (Qa6 I q (by simp))
  | _=>exact absurd (show false=true from hs) zk
 | str i =>
  obtain ⟨t,rfl⟩:=rx
  cases y with
  | non=>cases ry; exact PySem.EqNone.ne_str_none (Qa6 I q (by simp))
  | bl j=>cases ry; exact PySem.EqMixed.ne_str_bool (Qa6 I q (by simp))
  | int j=>obtain ⟨t',rfl⟩:=ry; exact PySem.EqMixed.ne_str_int (Qa6 I q (by simp))
  | str j=>obtain ⟨t',rfl⟩:=ry; exact ne_str (Qa6 I q (congrArg not Qls))
  | _=>exact absurd (show false=true from hs) zk
 | byt i =>
  obtain ⟨t,rfl⟩:=rx
  cases y with
  | byt j=>obtain ⟨t',rfl⟩:=ry; exact PySem.W.ne_bytes (Qa6 I q (congrArg not QlC))
  | _=>exact absurd (show false=true from hs) zk
 | _=>cases y <;> exact absurd (show false=true from hs) zk
theorem QtE:OpR X (compareOp .Lt) (rI0 fun i j=>.bl (decide (i < j))):=QmF fun _ _ _ _ _ _ _ q=>lt_int q
theorem QtC:OpR X (compareOp .LtE) (rI0 fun i j=>.bl (decide (i≤j))):=QmF fun _ _ _ _ _ _ _ q=>le_int q
theorem Qua:OpR X (compareOp .Gt) (rI0 fun i j=>.bl (decide (j < i))):=QmF fun _ _ _ _ _ _ _ q=>gt_int q
theorem Qt4:OpR X (compareOp .GtE) (rI0 fun i j=>.bl (decide (j≤i))):=QmF fun _ _ _ _ _ _ _ q=>ge_int q
theorem Qm8:OpR X (compareOp .In) (fun x y H Q=>∃i j,x = .str i∧y = .str j∧Q (.bl (!(Builtin.Str.occurrences j i 0 j.length 1).isEmpty)) H):=by
 intro pins s σ H x y v u Q I rx ry h;obtain ⟨i,j,rfl,rfl,q⟩:=h;obtain ⟨t,rfl⟩:=rx;obtain ⟨t',rfl⟩:=ry;exact in_str (Qa6 I q rfl)
theorem Qa9 (b:Expr) {op:CmpOp} (h:op≠.In:=by decide) (h2:op≠.NotIn:=by decide):behindInMarks op b=false:=by
 have e1:(op == CmpOp.In)=false:=by cases op <;> first | rfl | exact absurd rfl h
 have e2:(op == CmpOp.NotIn)=false:=by cases op <;> first | rfl | exact absurd rfl h2
 cases b <;> simp [behindInMarks,e1,e2]
theorem Qqn {op:CmpOp}{r:R2} (ho:OpR X (compareOp op) r) (ha:PE X a ta) (hb:PE X b tb) (hm:behindInMarks op b=false):PE X (.Compare a [op] [b] pos) (tOp r ta tb):=by
 intro pins s σ H Q I h;exact wpAny_Compare1 (Qoo ha hb I h fun v u s2 x y H2 I2 rx ry q=>ho pins s2 σ H2 x y v u Q I2 rx ry q) hm
def QpC (t:TE):TT:=fun σ H Q=>t σ H fun x H'=>∃k,x = .bl k∧Q k H'
theorem QqR {op:CmpOp}{r:R2} (ho:OpR X (compareOp op) r) (ha:PE X a ta) (hb:PE X b tb) (hm:behindInMarks op b=false):PT X (.Compare a [op] [b] pos) (QpC (tOp r ta tb)):=by
 intro pins s σ H Q I h
 refine wpAny_isTrue_Compare1 (thn (ha pins s σ H _ I h) fun v s1 ⟨x,H1,I1,r1,q1⟩=>thn (hb pins s1 σ H1 _ I1 q1) fun u s2 ⟨y,H2,I2,r2,q2⟩ =>
  thn (ho pins s2 σ H2 x y v u _ I2 r1 r2 q2) fun c s3 ⟨z,H3,I3,r3,k,e,q3⟩=>?_) hm
 subst e;cases r3;exact wpAny_truthy_bool ⟨H3,I3,q3⟩
def Qoi (r r':R2) (ta tb tc:TE):TE:=fun σ H Q=>ta σ H fun x H1=>tb σ H1 fun y H2=>r x y H2 fun z H3=>∃k,z = .bl k ∧
 (if k=true then tc σ H3 fun w' H4=>r' y w' H4 Q else Q (.bl false) H3)
theorem QoD {op op':CmpOp}{r r':R2} (ho:OpR X (compareOp op) r) (ho':OpR X (compareOp op') r') (ha:PE X a ta) (hb:PE X b tb) (hc:PE X c tc)
  (hm:lastMarks [op,op'] [b,c]=false:=by with_unfolding_all rfl):PE X (.Compare a [op,op'] [b,c] pos) (Qoi r r' ta tb tc):=by
 intro pins s σ H Q I h
 refine Compare_chain (thn (ha pins s σ H _ I h) fun v s1 ⟨x,H1,I1,r1,q1⟩=>chain_link (thn (hb pins s1 σ H1 _ I1 q1) fun u s2 ⟨y,H2,I2,r2,q2⟩ =>
  thn (ho pins s2 σ H2 x y v u _ I2 r1 r2 q2) fun d s3 ⟨z,H3,I3,r3,k,e,q3⟩=>?_)) hm
 subst e;cases r3;refine wpAny_truthy_bool ?_
 cases k with
 | false=>exact ite_ff ⟨.bl false,H3,I3,rfl,q3⟩
 | true=>exact ite_tt (chain_last (thn (hc pins s3 σ H3 _ I3 q3) fun w' s4 ⟨z',H4,I4,r4,q4⟩=>ho' pins s4 σ H4 y z' u w' Q I4 r2 r4 q4))
def Qon (K:PySem.W.Frag) (x:V) (H:Hp) (k:Bool):Prop :=
 match x with
 | .non=>k=false
 | .bl b=>k=b
 | .int i=>k=(i != 0)
 | .str y=>y.length≤sizeLine∧k=((y.length:Int) != 0)
 | .byt y=>y.size≤sizeLine∧k=((y.size:Int) != 0)
 | .ref p=>(∃xs,SqL K H p xs∧k = !xs.isEmpty)∨(∃xs,SqT K H p xs∧k = !xs.isEmpty)∨∃kvs,H p=some (.dK kvs)∧k = !kvs.isEmpty
 | _=>False
theorem QlW {κ:Type}{kvs:List (κ×V)}{vs:List (κ×Value)} (r:KV kvs vs):(!vs.isEmpty) = !kvs.isEmpty:=by
 cases r <;> rfl
theorem Qin {xs:List V}{its:List Value} (r:Qaz xs its):(!its.toArray.isEmpty) = !xs.isEmpty:=by
 cases r <;> simp
theorem Qf4:(sizeLine:Nat) < 2 ^ 63:=by rw [sizeLine_eq]; decide
theorem Qsm:Qvt X (fun x H Q=>∃k,Qon X.K x H k∧Q k H):=by
 intro pins s σ H x v Q I rx h;obtain ⟨k,e,q⟩:=h;have hl:=Qf4;have hs:sizeLine=16777216:=sizeLine_eq
 cases x with
 | non =>
  cases rx;have e':k=false:=e;subst e';exact truthy_none ⟨H,I,q⟩
 | bl b =>
  cases rx;have e':k=b:=e;subst e';exact wpAny_truthy_bool ⟨H,I,q⟩
 | int i =>
  obtain ⟨t,rfl⟩:=rx;have e':k=(i != 0):=e;subst e';exact PySem.P.truthy_int ⟨H,I,q⟩
 | str y =>
  obtain ⟨t,rfl⟩:=rx;obtain ⟨hy,e'⟩:y.length≤sizeLine∧k=((y.length:Int) != 0):=e;subst e';exact PySem.P.truthy_str (by omega) ⟨H,I.tok _,q⟩
 | byt y =>
  obtain ⟨t,rfl⟩:=rx;obtain ⟨hy,e'⟩:y.size≤sizeLine∧k=((y.size:Int) != 0):=e;subst e';exact PySem.W.truthy_bytes (by omega) ⟨H,I.tok _,q⟩
 | ref p =>
  cases rx;have e':(∃xs,SqL X.K H p xs∧k = !xs.isEmpty)∨(∃xs,SqT X.K H p xs∧k = !xs.isEmpty)∨∃kvs,H p=some (.dK kvs)∧k = !kvs.isEmpty:=e
  rcases e' with ⟨xs,hx,e'⟩ | ⟨xs,hx,e'⟩ | ⟨kvs,hx,e'⟩
  ·subst e';obtain ⟨its,r,pl,hz⟩:=I.list hx;have hlen:=r.length;exact wpAny_truthy_list pl.isList (by simp only [zp]; omega) ⟨H,I.tok _,by rw [Qin r]; exact q⟩
  ·subst e';obtain ⟨its,r,pl,hz⟩:=I.tuple hx;have hlen:=r.length;exact truthy_tuple pl (by simp only [zp]; omega) ⟨H,I.tok _,by rw [Qin r]; exact q⟩
  ·subst e';obtain ⟨hz,hS,vs,r,m⟩:kvs.length≤sizeLine∧(p == sysModules)=false∧∃vs,KV kvs vs∧s.heap.DictOf (Qb5 X.prog X.w) p vs:=I.hok p _ hx;have hlen:kvs.length=vs.length:=Paired.length r;exact wpAny_truthy_dict hS m (by omega) ⟨H,I.tok _,by rw [QlW r]; exact q⟩
 | _=>exact (show False from e).elim
theorem QoB (ha:PE X a ta) (he:∀whole,isTrue a X.env whole=(do let v ←whole; standAt a.pos; holding [v] (truthy v))) :
  PT X a (fun σ H Q=>ta σ H fun x H'=>∃k,Qon X.K x H' k∧Q k H'):=by
 intro pins s σ H Q I h;exact isTrue_plain (thn (ha pins s σ H _ I h) fun v s1 ⟨x,H1,I1,r1,q1⟩=>Qsm pins s1 σ H1 x v Q I1 r1 q1) (he _)
theorem Qmj:OpR X (binaryOp .Add) (fun x y H Q=>∃i j,x = .str i∧y = .str j∧i.length+j.length≤sizeLine∧Q (.str (i++j)) H):=by
 intro pins s σ H x y v u Q I rx ry h;obtain ⟨i,j,rfl,rfl,hz,q⟩:=h;obtain ⟨t,rfl⟩:=rx;obtain ⟨t',rfl⟩:=ry;exact add_str (fun t' tk=>⟨.str (i++j),H,I.tok _,⟨_,rfl⟩,q⟩) hz
theorem vals1 {x:V}{us:List Value} (r:Qaz [x] us):∃u,us = [u]∧RelV x u:=by
 cases r with
 | cons r1 r2=>cases r2; exact ⟨_,rfl,r1⟩
theorem vals2 {x y:V}{us:List Value} (r:Qaz [x,y] us):∃u w',us = [u,w']∧RelV x u∧RelV y w':=by
 cases r with
 | cons r1 r2 =>
  cases r2 with
  | cons r3 r4=>cases r4; exact ⟨_,_,rfl,r1,r3⟩
theorem QnS (hc:X.calm=true):QdK X (.builtin "max") (fun xs H Q=>∃i j,xs = [.int i,.int j]∧Q (.int (if j > i then j else i)) H):=by
 intro pins s σ H xs us Q I r h;obtain ⟨i,j,rfl,q⟩:=h;obtain ⟨u,w',rfl,⟨t,rfl⟩,⟨t',rfl⟩⟩:=vals2 r
 refine max_two_ints (I.ok.hd hc) fun h' tk k=>⟨_,H,I.kept k,?_,q⟩
 by_cases hj:j > i
 ·rw [if_pos hj,if_pos hj]; exact ⟨_,rfl⟩
 ·rw [if_neg hj,if_neg hj]; exact ⟨_,rfl⟩
def QuC (K:PySem.W.Frag) (x:V) (H:Hp) (n:Nat):Prop :=
 match x with
 | .str y=>y.length≤sizeLine∧n=y.length
 | .byt y=>y.size≤sizeLine∧n=y.size
 | .ref p=>(∃xs,SqL K H p xs∧n=xs.length)∨∃xs,SqT K H p xs∧n=xs.length
 | _=>False
theorem call_len:QdK X (.builtin "len") (fun xs H Q=>∃x n,xs = [x]∧QuC X.K x H n∧Q (.int n) H):=by
 intro pins s σ H xs us Q I r h;obtain ⟨x,n,rfl,e,q⟩:=h;obtain ⟨u,rfl,rx⟩:=vals1 r;have hl:=Qf4;have hs:sizeLine=16777216:=sizeLine_eq
 cases x with
 | str y =>
  obtain ⟨t,rfl⟩:=rx;obtain ⟨hy,e'⟩:y.length≤sizeLine∧n=y.length:=e;subst e';exact len_str (by omega) ⟨.int _,H,I.tok _,⟨_,rfl⟩,q⟩
 | byt y =>
  obtain ⟨t,rfl⟩:=rx;obtain ⟨hy,e'⟩:y.size≤sizeLine∧n=y.size:=e;subst e';exact PySem.W.len_bytes (by omega) ⟨.int _,H,I.tok _,⟨_,rfl⟩,q⟩
 | ref p =>
  cases rx;have e':(∃xs,SqL X.K H p xs∧n=xs.length)∨∃xs,SqT X.K H p xs∧n=xs.length:=e
  rcases e' with ⟨xs,hx,e'⟩ | ⟨xs,hx,e'⟩
  ·subst e';obtain ⟨its,r',pl,hz⟩:=I.list hx;have hlen:=r'.length;exact Calls.call_len_list pl.isList (by simp only [zp]; omega) ⟨.int xs.length,H,I.tok _,⟨_,by simp only [zp]; rw [hlen]⟩,q⟩
  ·subst e';obtain ⟨its,r',pl,hz⟩:=I.tuple hx;have hlen:=r'.length;exact len_tuple pl (by simp only [zp]; omega) ⟨.int xs.length,H,I.tok _,⟨_,by simp only [zp]; rw [hlen]⟩,q⟩
 | _=>exact (show False from e).elim
end
structure Qh4 (h:Heap) (x dx C:Addr) (mA:Str→Option Value):Prop where
 obj:h.get? x=some (PySem.W.instObj C dx)
 ns:h.Ns1 dx mA
 ne:dx≠x
theorem QjF {h:Heap}{dx:Addr}{mA:Str→Option Value} (n:h.Ns1 dx mA):∃od,h.get? dx=some od∧∀name,PySem.W.lookIn name od=some (mA name):=by
 obtain ⟨o,es,ep,ho,hd,hk,_,hm⟩:=n;refine ⟨o,ho,fun name=>?_⟩;have e:=hm name;unfold nsFind findBy at e;rw [←Array.find?_toList] at e;unfold PySem.W.lookIn;rw [hd];dsimp only
 split
 ·rename_i y q;rw [q] at e;exact congrArg some e
 ·rename_i q;rw [q] at e
  have a:es.toList.any (·.refKey)=false:=by
   rw [List.any_eq_false];intro y hy;obtain ⟨z,t,hkey⟩:=hk y (Array.mem_toList_iff.mp hy);simp [DictEntry.refKey,hkey]
  have a':¬es.toList.any (·.refKey)=true:=by rw [a]; exact zk
  rw [if_neg a'];exact congrArg some e
theorem Qh4.look {h:Heap}{x dx C:Addr}{mA:Str→Option Value} (I:Qh4 h x dx C mA):∃od,PySem.W.InstAt h x (PySem.W.instObj C dx) C (some od)∧∀name,PySem.W.lookIn name od=some (mA name) :=
 let ⟨od,ho,hl⟩:=QjF I.ns
 ⟨od,⟨I.obj,rfl,rfl,ho⟩,hl⟩
section
variable {prog:Program}{w:World}{A:Around}{E:Value→Shared→Prop}{s:Shared}{K:PySem.W.Frag}{x dx C f:Addr}{mA:Str→Option Value}{name:Str}{v:Value}
theorem Qp2 {expr:Bool}{Q:Value→Shared→Prop} (X:K.In s.heap) (I:Qh4 s.heap x dx C mA) (hg:PySem.W.plainGet K C name=true) (hh:PySem.W.hasDictIn K C=true)
  (ha:PySem.W.findIn K (.ref C) name=some none) (hv:mA name=some v) (hv':PySem.W.handedIn v=true) (h:Q v { s with toks:=s.toks+1 }) :
  wpAny (model prog w) A (getAttr (.ref x) name expr) Q E s:=by
 obtain ⟨od,J,hl⟩:=I.look;exact PySem.W.get_value X J (PySem.W.plainGet_of hg).1 (PySem.W.findObj_own hh ha rfl (by rw [hl,hv])) hv' h
theorem Qo7 {pl:Sem Bool}{Q:Value×List Value→Shared→Prop} (X:K.In s.heap) (I:Qh4 s.heap x dx C mA) (hg:PySem.W.plainGet K C name=true)
  (hf:PySem.W.findIn K (.ref C) name=some (some (.ref f))) (ht:PySem.W.isFn K (.ref f)=true) (hv:mA name=none) (h:Q (.ref f,[.ref x]) s) :
  wpAny (model prog w) A (getMethod (.ref x) name pl) Q E s:=by
 obtain ⟨od,J,hl⟩:=I.look;exact PySem.W.method_fn X J (PySem.W.plainGet_of hg).1 (PySem.W.plainGet_of hg).2 hf (beq_iff_eq.mp ht) (by show (PySem.W.lookIn name od).map (·.isSome)=some false; rw [hl,hv]; rfl) h
theorem Qp6 {ns:List Str}{Q:Unit→Shared→Prop} (X:K.In s.heap) (I:Qh4 s.heap x dx C mA)
  (hs:PySem.W.findIn K (.ref C) "__setattr__" = some (some (.builtin "object.__setattr__"))) (hp:PySem.W.plainOver K C=true) (ht:PySem.W.takerIn K C name=some none) (hh:PySem.W.hasDictIn K C=true)
  (hw:PySem.Within mA ns) (hsz:ns.length≤sizeLine)
  (h:∀h',Qh4 h' x dx C (fun y=>if y=name then some v else mA y)→Heap.SameBut dx s.heap h'→Q () { s with heap:=h',toks:=s.toks+2 }) :
  wpAny (model prog w) A (setAttr (.ref x) name v) Q E s:=by
 obtain ⟨od,J,hl⟩:=I.look;refine PySem.W.set_plain X J hs (PySem.W.osa_open (s:={ s with toks:=s.toks+1 }) (r:=none) X J hp ht fun b=>?_);obtain ⟨cd,hc,hd'⟩:=PySem.W.any_some hh;have hx:s.heap.get? x=some ⟨.ref C,some dx,.plain,#[]⟩:=I.obj;refine za (zb (za (za (wpAny_loadPart hx (za (PySem.W.Looks.here (s:={ s with toks:=s.toks+1 }) (PySem.W.looks_clsIn X hc) ?_))))));rw [hd'];refine zb (a:=some dx) (za (zb (za ?_)))
 refine wpAny_nsSet1 (s:={ s with toks:=s.toks+1 }) I.ns fun h' hn2 hs2=>?_
 obtain ⟨oD,esD,epD,hoD,hdD,hcD⟩:=hn2.count (PySem.Within.cons name v hw);refine za (wpAny_lookBehind hoD (by rw [hdD]; exact pastItsLine_dict (zz hcD (by rw [zJ]; omega))) ?_);exact zb (h _ ⟨(hs2.2 _ (Ne.symm I.ne)).trans I.obj,hn2,I.ne⟩ hs2)
theorem Qj9 {R:Result→Shared→Prop}{vs:List Value}{kw:List (Str×Value)} (X:K.In s.heap) (hm:PySem.W.makesIn K C=true)
  (hi:PySem.W.findIn K (.ref C) "__init__" = some (some (.ref f))) (hf:PySem.W.typeIn K (.ref f)=some (.type "function"))
  (h:codeAny (model prog w) (A.under (.builtin "type.__call__" ⟨.ref C::vs,kw⟩)) (.call (.ref f) ⟨.ref (s.heap.objs.size+1)::vs,kw⟩) (PySem.W.InitBack (s.heap.objs.size+1) R)
   { s with heap:=(s.heap.push PySem.W.emptyDict).push (PySem.W.instObj C s.heap.objs.size) }) :
  codeAny (model prog w) A (.call (.ref C) ⟨vs,kw⟩) R s:=by
 obtain ⟨hh,g,d,t,os⟩:=s;exact PySem.W.make_core (PySem.W.makes_of X hm) (PySem.W.looks_findIn X hi) (fun self=>PySem.W.bind_fn X self hf) (.inl rfl) h
end
def QcT (f:Str) (v:V):List (Str×V)→List (Str×V)
 | []=>[(f,v)]
 | (g,x)::r=>if g=f then (g,v)::r else (g,x)::QcT f v r
theorem QhS (f g:Str) (v:V):∀fs:List (Str×V),(QcT f v fs).lookup g=if g=f then some v else fs.lookup g
 | []=>by
  show List.lookup g [(f,v)]=_
  by_cases h:g=f
  ·have hb:(g == f)=true:=beq_iff_eq.mpr h;simp only [List.lookup,hb,if_pos h]
  ·have hb:(g == f)=false:=beq_eq_false_iff_ne.mpr h;simp only [List.lookup,hb,if_neg h]
 | (k,x)::r=>by
  have ih:=QhS f g v r;rw [show QcT f v ((k,x)::r)=(if k=f then (k,v)::r else (k,x)::QcT f v r) from rfl]
  by_cases hk:k=f
  ·rw [if_pos hk]
   by_cases h:g=k
   ·have hb:(g == k)=true:=beq_iff_eq.mpr h;simp only [List.lookup,hb,if_pos (h.trans hk)]
   ·have hb:(g == k)=false:=beq_eq_false_iff_ne.mpr h;simp only [List.lookup,hb,if_neg (fun e:g=f=>h (e.trans hk.symm))]
  ·rw [if_neg hk]
   by_cases h:g=k
   ·have hb:(g == k)=true:=beq_iff_eq.mpr h;simp only [List.lookup,hb,if_neg (fun e:g=f=>hk (h.symm.trans e))]
   ·have hb:(g == k)=false:=beq_eq_false_iff_ne.mpr h;simp only [List.lookup,hb];exact ih
theorem Qg3 (f:Str) (v:V):∀fs:List (Str×V),f∈(QcT f v fs).map (·.1)∧∀g,g∈fs.map (·.1)→g∈(QcT f v fs).map (·.1)
 | []=>⟨by simp [QcT],fun g h=>by simp at h⟩
 | (k,x)::r=>by
  obtain ⟨i1,i2⟩:=Qg3 f v r;rw [show QcT f v ((k,x)::r)=(if k=f then (k,v)::r else (k,x)::QcT f v r) from rfl]
  by_cases hk:k=f
  ·rw [if_pos hk];subst hk;exact ⟨by simp,fun g h=>by simpa using h⟩
  ·rw [if_neg hk];refine ⟨?_,fun g h=>?_⟩
   ·rw [ze];exact zE _ i1
   ·rw [ze] at h ⊢
    rcases zj.mp h with e | e
    ·exact zj.mpr (.inl e)
    ·exact zE _ (i2 g e)
theorem Qh0 (f:Str) (v:V):∀fs:List (Str×V),(QcT f v fs).length≤fs.length+1
 | []=>by simp [QcT]
 | (k,x)::r=>by
  have ih:=Qh0 f v r;rw [show QcT f v ((k,x)::r)=(if k=f then (k,v)::r else (k,x)::QcT f v r) from rfl]
  by_cases hk:k=f
  ·rw [if_pos hk,zJ,zJ]; omega
  ·rw [if_neg hk,zJ,zJ]; omega
theorem Qc4.some_of {v:V}{o:Option Value} (r:Qc4 (some v) o):∃u,o=some u∧RelV v u:=by
 cases o with
 | none=>exact (show False from r).elim
 | some u=>exact ⟨u,rfl,r⟩
theorem Qc4.none_of {o:Option Value} (r:Qc4 none o):o=none:=by
 cases o with
 | none=>rfl
 | some u=>exact (show False from r).elim
theorem Qjs {v:V}{u:Value} (r:RelV v u):PySem.W.handedIn u=true:=by
 cases v with
 | non=>cases (show u=Value.none from r); rfl
 | bl b=>cases (show u=Value.bool b from r); rfl
 | int i=>obtain ⟨t,e⟩:=(show ∃t,u=Value.int i t from r); cases e; rfl
 | str x=>obtain ⟨t,e⟩:=(show ∃t,u=Value.str x t from r); cases e; rfl
 | byt b=>obtain ⟨t,e⟩:=(show ∃t,u=Value.bytes b t from r); cases e; rfl
 | flt b=>obtain ⟨t,e⟩:=(show ∃t,u=Value.float b t from r); cases e; rfl
 | ref a=>cases (show u=Value.ref a from r); rfl
 | ty n=>cases (show u=Value.type n from r); rfl
section
variable {P:Program}{w:World}{H H':Hp}{h h':Heap}{a C dx:Addr}{fs fs':List (Str×V)}
theorem QhC (hok:HOk P w H h) (e:H a=some (.ins C dx fs)):∃mA,Qh4 h a dx C mA∧(∀f,Qc4 (fs.lookup f) (mA f))∧PySem.Within mA (fs.map (·.1))∧fs.length≤1000∧H dx=some (.own a):=by
 obtain ⟨d,z,ne,ob,mA,n,r,q⟩:=(show Qbh P w H h a (.ins C dx fs) from hok a _ e);exact ⟨mA,⟨ob,n,ne⟩,r,q,z,d⟩
end
structure Cls (K:PySem.W.Frag) (C:Addr):Prop where
 pg:PySem.W.plainGet K C Str.empty=true
 hd:PySem.W.hasDictIn K C=true
 po:PySem.W.plainOver K C=true
 sa:PySem.W.findIn K (.ref C) "__setattr__" = some (some (.builtin "object.__setattr__"))
theorem Cls.get {K:PySem.W.Frag}{C:Addr} (c:Cls K C) (f:Str):PySem.W.plainGet K C f=true:=c.pg
def Qfb (K:PySem.W.Frag) (C:Addr) (f:Str):Prop:=PySem.W.findIn K (.ref C) f=some none
theorem Qfb.taker {K:PySem.W.Frag}{C:Addr}{f:Str} (n:Qfb K C f):PySem.W.takerIn K C f=some none:=by
 unfold PySem.W.takerIn;rw [show PySem.W.findIn K (.ref C) f=some none from n];rfl
structure Con (K:PySem.W.Frag) (C:Addr) (f:Str) (v:V) (u:Value):Prop where
 at_:PySem.W.findIn K (.ref C) f=some (some u)
 rel:RelV v u
 get:PySem.W.specialIn K u "__get__" = some none
 cp:PySem.W.copiedNames.contains f=false
structure QiW (K:PySem.W.Frag) (C:Addr) (m:Str) (f:Addr):Prop where
 at_:PySem.W.findIn K (.ref C) m=some (some (.ref f))
 fn:PySem.W.isFn K (.ref f)=true
 kp:PySem.W.keepIn K (.ref f)=true
section
variable {X:Cx}{pins:List (Addr×Obj)}{σ:St}{H:Hp}{s:Shared}{a C dx:Addr}{fs:List (Str×V)}{f:Str}{v:V}{A:Around}{E:Value→Shared→Prop}
theorem QlZ {b:Bool}{Q:Value→Shared→Prop} (I:Inv X pins σ H s) (e:H a=some (.ins C dx fs)) (c:Cls X.K C) (n:Qfb X.K C f) (l:fs.lookup f=some v)
  (h:∀u s',Inv X pins σ H s'→RelV v u→Q u s'):wpAny (model X.prog X.w) A (getAttr (.ref a) f b) Q E s:=by
 obtain ⟨mA,O,r,_,_,_⟩:=QhC I.hok e;obtain ⟨u,hu,ru⟩:=Qc4.some_of (v:=v) (o:=mA f) (by rw [←l]; exact r f);exact Qp2 I.kIn O (c.get f) c.hd n hu (Qjs ru) (h u _ (I.tok _) ru)
theorem QlY {m:Str}{g:Addr}{pl:Sem Bool}{Q:Value×List Value→Shared→Prop} (I:Inv X pins σ H s) (e:H a=some (.ins C dx fs)) (c:Cls X.K C) (k:QiW X.K C m g) (l:fs.lookup m=none)
  (h:Q (.ref g,[.ref a]) s):wpAny (model X.prog X.w) A (getMethod (.ref a) m pl) Q E s:=by
 obtain ⟨mA,O,r,_,_,_⟩:=QhC I.hok e;have hn:mA m=none:=Qc4.none_of (by rw [←l]; exact r m);exact Qo7 I.kIn O (c.get m) k.at_ k.fn hn h
theorem QmR {y:V}{u:Value}{Q:Unit→Shared→Prop} (I:Inv X pins σ H s) (e:H a=some (.ins C dx fs)) (c:Cls X.K C) (n:Qfb X.K C f) (hl:fs.length < 1000) (ry:RelV y u)
  (h:∀s',Inv X pins σ (upd H a (.ins C dx (QcT f y fs))) s'→Q () s'):wpAny (model X.prog X.w) A (setAttr (.ref a) f u) Q E s:=by
 obtain ⟨mA,O,r,wi,_,ho⟩:=QhC I.hok e
 have hz:(fs.map (·.1)).length≤sizeLine:=by rw [zo,sizeLine_eq]; omega
 refine Qp6 I.kIn O c.sa c.po n.taker c.hd wi hz fun h' O' sb=>h _ ?_
 have hd:∃o,h'.get? dx=some o:=let ⟨o,_,_,e',_⟩:=O'.ns; ⟨o,e'⟩;refine I.write (x:=a) (e:=dx) (by rw [e]; exact True.intro) (.inr ho) (fun b q hb z=>(sb.2 b hb).trans z) hd ?_;refine ⟨by rw [Qan O.ne]; exact ho,?_,O.ne,O'.obj,_,O'.ns,fun g=>?_,fun g hg=>?_⟩
 ·have:=Qh0 f y fs; omega
 ·show Qc4 ((QcT f y fs).lookup g) (if g=f then some u else mA g);rw [QhS]
  by_cases q:g=f
  ·rw [if_pos q,if_pos q]; exact ry
  ·rw [if_neg q,if_neg q]; exact r g
 ·by_cases q:g=f
  ·rw [q]; exact (Qg3 f y fs).1
  ·refine (Qg3 f y fs).2 g (wi g fun z=>hg ?_);show (if g=f then some u else mA g)=none;rw [if_neg q]; exact z
theorem Inv.made (I:Inv X pins σ H s):Inv X pins σ (upd (upd H s.heap.objs.size (.own (s.heap.objs.size+1))) (s.heap.objs.size+1) (.ins C s.heap.objs.size []))
  { s with heap:=(s.heap.push PySem.W.emptyDict).push (PySem.W.instObj C s.heap.objs.size) }:=by
 have e1:(s.heap.push PySem.W.emptyDict).get? s.heap.objs.size=some PySem.W.emptyDict:=zD s.heap rfl
 have e2:((s.heap.push PySem.W.emptyDict).push (PySem.W.instObj C s.heap.objs.size)).get? (s.heap.objs.size+1)=some (PySem.W.instObj C s.heap.objs.size):=by
  have:=zD (s.heap.push PySem.W.emptyDict) (o:=PySem.W.instObj C s.heap.objs.size) rfl
  rwa [Heap.size_push] at this
 have e3:(s.heap.push PySem.W.emptyDict).Ns s.heap.objs.size (fun _=>none):=⟨PySem.W.emptyDict,#[],_,e1,rfl,(fun e he=>absurd he (by simp)),fun _=>rfl⟩;have I1:=I.laid (a:=s.heap.objs.size) (o:=.own (s.heap.objs.size+1)) (h':=s.heap.push PySem.W.emptyDict) (t':=s.toks) (fun b u q=>zf _ q) (zc _) ⟨_,e1⟩;refine I1.laid (a:=s.heap.objs.size+1) (o:=.ins C s.heap.objs.size []) (t':=s.toks) (fun b u q=>zf _ q) (Nat.le_of_eq (Heap.size_push _ _)) ?_;have ne:s.heap.objs.size≠s.heap.objs.size+1:=zl (jf _);refine ⟨by rw [Qan ne,QaE],Nat.zero_le _,ne,e2,fun _=>none,(Heap.Ns1.of_empty e3).at fun o q=>zf _ q,fun _=>True.intro,fun y hy=>absurd rfl hy⟩
theorem Qlm {prog:Program}{w:World}{env:Env}{e:Expr}{f:Str}{pos:Pos}{s:Shared}{Q:Value→Shared→Prop} (hb:attributeBase e f env (eval e env)=eval e env)
  (h:wpAny (model prog w) A (eval e env) (fun o s₁=>wpAny (model prog w) A (getAttr o f true) Q E s₁) E s):wpAny (model prog w) A (eval (.Attribute e f pos) env) Q E s :=
 Attribute_any_ h (by rw [arm_eval_Attribute,hb])
end
def QuA (K:PySem.W.Frag) (ta:TE) (f:Str):TE:=fun σ H Q=>ta σ H fun x H1=>∃a C dx fs v,x = .ref a∧H1 a=some (.ins C dx fs)∧Cls K C∧Qfb K C f∧fs.lookup f=some v∧Q v H1
def Quy (K:PySem.W.Frag) (ta tv:TE) (f:Str):TS:=fun D σ H=>tv σ H fun y H1=>ta σ H1 fun x H2=>∃a C dx fs,x = .ref a∧H2 a=some (.ins C dx fs)∧Cls K C∧Qfb K C f∧fs.length < 1000 ∧
 D.nx σ (upd H2 a (.ins C dx (QcT f y fs)))
section
variable {X:Cx}{o e value:Expr}{f:Str}{pos pos' tpos:Pos}{ta tv:TE}
theorem QsL (he:PE X e ta) (hb:attributeBase e f X.env (eval e X.env)=eval e X.env):PE X (.Attribute e f pos) (QuA X.K ta f):=by
 intro pins s σ H Q I h;refine Qlm hb (thn (he pins s σ H _ I h) fun u s1 ⟨x,H1,I1,rx,a,C,dx,fs,v,ex,ea,c,n,l,q⟩=>?_);subst ex;obtain rfl:u=Value.ref a:=rx
 exact QlZ I1 ea c n l fun u' s2 I2 ru=>⟨v,H1,I2,ru,q⟩
theorem Qsb (ha:PE X o ta) (hv:PE X value tv) (hs:swapsWith value (some (.Attribute o f pos')) pos.line X.env=pure false):PS X (.Assign [.Attribute o f pos'] value pos) (Quy X.K ta tv f):=by
 intro pins s σ H D I h;refine plainObj_wpAny_Assign_Attribute (thn (hv pins s σ H _ I h) fun u s1 ⟨y,H1,I1,ry,q⟩=>thn (ha pins s1 σ H1 _ I1 q) fun ov s2 ⟨x,H2,I2,rx,a,C,dx,fs,ex,ea,c,n,l,q2⟩=>?_) hs;subst ex;obtain rfl:ov=Value.ref a:=rx
 exact QmR I2 ea c n l ry fun s3 I3=>⟨σ,_,I3,q2⟩
end
section
variable {X:Cx}{pins:List (Addr×Obj)}{σ:St}{H:Hp}{s:Shared}{A:Around}{E:Value→Shared→Prop}{Q:Value→Shared→Prop}{c:Value}{b:Bool}
inductive QeK (K:PySem.W.Frag) (H:Hp):V→Value→Prop where
 | non:QeK K H .non (.type "NoneType")
 | bl (x:Bool):QeK K H (.bl x) (.type "bool")
 | int (i:Int):QeK K H (.int i) (.type "int")
 | str (x:Str):QeK K H (.str x) (.type "str")
 | flt (x:UInt64):QeK K H (.flt x) (.type "float")
 | lst {a:Addr}{xs:List V} (e:H a=some (.lst xs)):QeK K H (.ref a) (.type "list")
 | frz {a:Addr}{o:Obj}{xs:List V} (e:H a=some (.frz o (.lst xs))):QeK K H (.ref a) (.type "list")
 | tup {a:Addr}{xs:List V} (e:H a=some (.tup xs)):QeK K H (.ref a) (.type "tuple")
 | dK {a:Addr}{kvs:List (Key×V)} (e:H a=some (.dK kvs)):QeK K H (.ref a) (.type "dict")
 | dT {a:Addr}{kvs:List (List Key×V)} (e:H a=some (.dT kvs)):QeK K H (.ref a) (.type "dict")
 | ins {a C dx:Addr}{fs:List (Str×V)} (e:H a=some (.ins C dx fs)) (cl:Cls K C) (ha:PySem.W.findIn K (.ref C) "__class__" = some (some (.builtin "object.__class__")))
   (hn:PySem.W.specialIn K (.builtin "object.__class__") "__get__" = some (some (.builtin "getset_descriptor.__get__"))) (htk:PySem.W.takesIn K (.builtin "object.__class__")=some true)
   (hm:PySem.W.mroIn K C (.type "object")=some true):QeK K H (.ref a) (.ref C)
theorem Qev {x:V}{u t:Value} (I:Inv X pins σ H s) (rx:RelV x u) (ty:QeK X.K H x t) (e:PySem.W.kitOne X.K t c=some b) (h:∀tk,Q (.bool b) { s with toks:=tk }) :
  wpAny (model X.prog X.w) A (call (.builtin "isinstance") [u,c]) Q E s:=by
 cases ty with
 | non=>cases (show u=Value.none from rx); exact PySem.W.kia_one PySem.W.kitx_none I.kIn True.intro e (fun z=>nomatch z) h
 | bl y=>cases (show u=Value.bool y from rx); exact PySem.W.kia_one PySem.W.kitx_bool I.kIn True.intro e (fun z=>nomatch z) h
 | int i=>obtain ⟨t,q⟩:=(show ∃t,u=Value.int i t from rx); cases q; exact PySem.W.kia_one PySem.W.kitx_int I.kIn True.intro e (fun z=>nomatch z) h
 | str y=>obtain ⟨t,q⟩:=(show ∃t,u=Value.str y t from rx); cases q; exact PySem.W.kia_one PySem.W.kitx_str I.kIn True.intro e (fun z=>nomatch z) h
 | flt y=>obtain ⟨t,q⟩:=(show ∃t,u=Value.float y t from rx); cases q; exact PySem.W.kia_one PySem.W.kitx_float I.kIn True.intro e (fun z=>nomatch z) h
 | @lst a xs ea =>
  cases (show u=Value.ref a from rx);obtain ⟨_,_,n,_,h1⟩:=(show Qbh X.prog X.w H s.heap a (.lst xs) from I.hok a _ ea);exact PySem.W.kia_one PySem.W.kitx_list I.kIn ⟨_,h1,rfl⟩ e (fun z=>nomatch z) h
 | @frz a ob xs ea =>
  cases (show u=Value.ref a from rx);obtain ⟨_,_,_,n,_,h1⟩:=(show Qbh X.prog X.w H s.heap a (.frz ob (.lst xs)) from I.hok a _ ea);exact PySem.W.kia_one PySem.W.kitx_list I.kIn ⟨_,h1,rfl⟩ e (fun z=>nomatch z) h
 | @tup a xs ea =>
  cases (show u=Value.ref a from rx);obtain ⟨_,_,_,p⟩:=(show Qbh X.prog X.w H s.heap a (.tup xs) from I.hok a _ ea);obtain ⟨o,h1,h2,_⟩:=p;exact PySem.W.kia_one PySem.W.kitx_tuple I.kIn ⟨o,h1,h2⟩ e (fun z=>nomatch z) h
 | @dK a kvs ea =>
  cases (show u=Value.ref a from rx);obtain ⟨_,_,vs,_,p⟩:=(show Qbh X.prog X.w H s.heap a (.dK kvs) from I.hok a _ ea);obtain ⟨o,es,ep,h1,h2,_⟩:=p;exact PySem.W.kia_one PySem.W.kitx_dict I.kIn ⟨o,h1,h2.1⟩ e (fun z=>nomatch z) h
 | @dT a kvs ea =>
  cases (show u=Value.ref a from rx);obtain ⟨_,_,xs,_,o,es,ep,h1,h2,_⟩:=(show Qbh X.prog X.w H s.heap a (.dT kvs) from I.hok a _ ea);exact PySem.W.kia_one PySem.W.kitx_dict I.kIn ⟨o,h1,h2.1⟩ e (fun z=>nomatch z) h
 | @ins a C dx fs ea cl ha hn htk hm =>
  cases (show u=Value.ref a from rx);obtain ⟨mA,O,_⟩:=QhC I.hok ea;obtain ⟨od,J,_⟩:=O.look;exact PySem.W.kia_one (PySem.W.kitx_own (cl.get _) cl.hd ha hn htk hm) I.kIn J e (fun z=>nomatch z) h
end
structure QaR (k:Nat) (A:Around):Prop where
 hd:A.handled=none
 dp:A.depth+3 * k+5 < recursionLimit
 un:A.units+16 * k+200 < cLine
theorem QaR.mono {j k:Nat}{A:Around} (r:QaR k A) (h:j≤k):QaR j A:=⟨r.hd,by have:=r.dp; omega,by have:=r.un; omega⟩
theorem QaR.deeper {k:Nat}{A:Around} (r:QaR (k+1) A) (env:Env):QaR k (A.deeper env) :=
 ⟨r.hd,by have:=r.dp; show A.depth+1+3 * k+5 < _; omega,by have:=r.un; show A.units+3+16 * k+200 < _; omega⟩
theorem QaR.in1 {k:Nat}{A:Around} (r:QaR (k+1) A):QaR k A.in1 :=
 ⟨r.hd,by have:=r.dp; show A.depth+3 * k+5 < _; omega,by have:=r.un; show A.units+1+16 * k+200 < _; omega⟩
theorem QlO {A:Around}{C:Addr}{us:List Value}{kw:List (Str×Value)}:(A.under (.builtin "type.__call__" ⟨.ref C::us,kw⟩)).depth=A.depth+1:=by
 first | rfl | simp [Around.under,Code.weight,Code.isCreation,Code.isGuard,Code.isCaller,Code.frames,Code.isFrame,guardIds]
theorem QlP {A:Around}{C:Addr}{us:List Value}{kw:List (Str×Value)}:(A.under (.builtin "type.__call__" ⟨.ref C::us,kw⟩)).units=A.units+1:=by
 first | rfl | simp [Around.under,Code.cUnits,Code.frames,Code.isFrame]
theorem QaR.make {k:Nat}{A:Around} (r:QaR (k+1) A) (C:Addr) (us:List Value) (kw:List (Str×Value)):QaR k (A.under (.builtin "type.__call__" ⟨.ref C::us,kw⟩)) :=
 ⟨r.hd,by have:=r.dp; rw [QlO]; omega,by have:=r.un; rw [QlP]; omega⟩
theorem QaR.depth {k:Nat}{A:Around} (r:QaR k A):A.depth < recursionLimit:=by have:=r.dp; omega
theorem QaR.units {k:Nat}{A:Around} (r:QaR k A):A.units+64 < cLine:=by have:=r.un; omega
def Qsx:TA:=fun _ H Q=>Q [] H
def Qti (ta:TE) (tr:TA):TA:=fun σ H Q=>ta σ H fun x H1=>tr σ H1 fun xs H2=>Q (x::xs) H2
section
variable {X:Cx}{e:Expr}{es:List Expr}{te:TE}{t:TA}{pos:Pos}
theorem Qdc:PA X [] Qsx:=fun _ _ _ _ H Q I h=>Calls.spliced_nil ⟨[],H,I,.nil,h⟩
theorem Qcb (ha:PE X e te) (hr:PA X es t) (hs:starEach (e::es) X.env=(false,eval e X.env)::starEach es X.env:=by rfl):PA X (e::es) (Qti te t):=by
 intro pos pins s σ H Q I h;rw [hs];show wpAny _ _ (spliced ((false,eval e X.env)::backTo pos (starEach es X.env))) _ _ s;refine Calls.spliced_cons (thn (ha pins s σ H _ I h) fun u s1 ⟨x,H1,I1,r1,q1⟩=>?_)
 exact thn (hr pos pins s1 σ H1 _ I1 q1) fun us s2 ⟨xs,H2,I2,r2,q2⟩=>⟨x::xs,H2,I2,.cons r1 r2,q2⟩
def Qvb (t:TA):TE:=fun σ H Q=>t σ H fun xs H1=>xs.length≤sizeLine∧∀p,H1 p=none→Q (.ref p) (upd H1 p (.tup xs))
def QuB (t:TA):TE:=fun σ H Q=>t σ H fun xs H1=>xs.length≤sizeLine∧∀p,H1 p=none→Q (.ref p) (upd H1 p (.lst xs))
theorem QnU {x1} (h:PA X es t):PE X (.Tuple es x1 pos) (Qvb t):=by
 intro pins s σ H Q I hq;refine wpAny_Tuple_spliced (thn (h pos pins s σ H _ I hq) fun us s1 ⟨xs,H1,I1,r,z,q⟩=>⟨by rw [←r.length]; exact z,?_⟩);have hf:H1 s1.heap.objs.size=none:=I1.hok.fresh (zc _);refine ⟨.ref s1.heap.objs.size,upd H1 s1.heap.objs.size (.tup xs),I1.laid (t':=s1.toks) (fun b u e=>zf _ e) (zc _) ?_,rfl,q _ hf⟩;exact ⟨z,us,r,⟨_,zD _ rfl,rfl,_,rfl⟩⟩
theorem Qs6 (h:PA X es t):PE X (.List es pos) (QuB t):=by
 intro pins s σ H Q I hq;refine wpAny_List_spliced (thn (h pos pins s σ H _ I hq) fun us s1 ⟨xs,H1,I1,r,z,q⟩=>⟨by rw [←r.length]; exact z,?_⟩);have hf:H1 s1.heap.objs.size=none:=I1.hok.fresh (zc _);refine ⟨.ref s1.heap.objs.size,upd H1 s1.heap.objs.size (.lst xs),I1.laid (t':=s1.toks) (fun b u e=>zf _ e) (zc _) ?_,rfl,q _ hf⟩;exact ⟨z,us,0,r,zD _ rfl⟩
end
abbrev Sp:=List V→Hp→VK→XK→Prop
abbrev CXT:=List Env→Hp→Shared→XK→Value→Shared→Prop
structure QeH (P:Program) (w:World) (K:PySem.W.Frag) (mg:Str→Option Value) (base:Heap) (A:Around) (outer:List Env) (s:Shared) (H:Hp):Prop where
 frames:A.frames=some outer
 mod:Mod K mg base
 bs:∀b o,base.get? b=some o→s.heap.get? b=some o∧H b=none
 bsz:base.objs.size≤s.heap.objs.size
 funs:s.heap.FunFrames base outer
 frf:∀b∈frs outer,H b=none
 hok:HOk P w H s.heap
 bare:AllBare s.gens
def CE (outer:List Env) (P:Program) (w:World) (H:Hp) (s:Shared) (Q:VK) (u:Value) (s':Shared):Prop :=
 ∃v H',s'.os=s.os∧AllBare s'.gens∧Un (frs outer) [] H H' s.heap s'.heap∧HOk P w H' s'.heap∧RelV v u∧Q v H'
def CR (CX:CXT) (outer:List Env) (P:Program) (w:World) (H:Hp) (s:Shared) (Q:VK) (E:XK) (r:Result) (s':Shared):Prop :=
 match r with
 | .ok (.ret u)=>CE outer P w H s Q u s'
 | .ok _=>False
 | .error e=>CX outer H s E e s'
structure QbB (P:Program) (w:World) (K:PySem.W.Frag) (mg:Str→Option Value) (base:Heap) (CX:CXT) (k:Nat) (f:Addr) (fd:FuncData) (ps:List Str) (sp:Sp):Prop where
 len:∀vs H Q E,sp vs H Q E→vs.length=ps.length
 run:∀(A:Around) (outer:List Env) (s:Shared) (H:Hp) (args:Args) (us:List Value) (vs:List V) (Q:VK) (E:XK),QaR k A→QeH P w K mg base A outer s H→BindsTo s fd args (ps.zip us)→Qaz vs us→sp vs H Q E →
  codeAny (model P w) A (.call (.ref f) args) (CR CX outer P w H s Q E) s
theorem QbB.mono {P:Program}{w:World}{K:PySem.W.Frag}{mg:Str→Option Value}{base:Heap}{CX:CXT}{j k:Nat}{f:Addr}{fd:FuncData}{ps:List Str}{sp:Sp} (F:QbB P w K mg base CX j f fd ps sp) (h:j≤k) :
  QbB P w K mg base CX k f fd ps sp:=⟨F.len,fun A outer s H args us vs Q E hr=>F.run A outer s H args us vs Q E (hr.mono h)⟩
theorem QbB.imp {P:Program}{w:World}{K:PySem.W.Frag}{mg:Str→Option Value}{base:Heap}{CX:CXT}{k:Nat}{f:Addr}{fd:FuncData}{ps:List Str}{sp sp':Sp} (F:QbB P w K mg base CX k f fd ps sp)
  (h:∀vs H Q E,sp' vs H Q E→sp vs H Q E):QbB P w K mg base CX k f fd ps sp' :=
 ⟨fun vs H Q E q=>F.len vs H Q E (h _ _ _ _ q),fun A outer s H args us vs Q E hr he hb hv hs=>F.run A outer s H args us vs Q E hr he hb hv (h _ _ _ _ hs)⟩
theorem QeH.make {P:Program}{w:World}{K:PySem.W.Frag}{mg:Str→Option Value}{base:Heap}{A:Around}{outer:List Env}{s:Shared}{H:Hp} (e:QeH P w K mg base A outer s H) (C:Addr) (us:List Value) (kw:List (Str×Value)) :
  QeH P w K mg base (A.under (.builtin "type.__call__" ⟨.ref C::us,kw⟩)) outer s H:=⟨by first | exact e.frames | (simpa [Around.under,Code.envs,Code.isFrame,pushEnvs] using e.frames),e.mod,e.bs,e.bsz,e.funs,e.frf,e.hok,e.bare⟩
theorem QeH.in1 {P:Program}{w:World}{K:PySem.W.Frag}{mg:Str→Option Value}{base:Heap}{A:Around}{outer:List Env}{s:Shared}{H:Hp} (e:QeH P w K mg base A outer s H) :
  QeH P w K mg base A.in1 outer s H:=⟨e.frames,e.mod,e.bs,e.bsz,e.funs,e.frf,e.hok,e.bare⟩
section
variable {X:Cx}{pins:List (Addr×Obj)}{σ:St}{H:Hp}{s s':Shared}
theorem Inv.env0 (I:Inv X pins σ H s):QeH X.prog X.w X.K X.mg X.base X.A X.stack s H :=
 ⟨I.ok.frames,I.ok.mod,I.bs,zz I.ok.bsz I.sz,I.stack,I.stkFree,I.hok,I.bare⟩
theorem Inv.after {Q:VK}{u:Value} (I:Inv X pins σ H s) (h:CE X.stack X.prog X.w H s Q u s'):EP X pins σ Q u s':=by
 obtain ⟨v,H',os,bare,un,hok,r,q⟩:=h;obtain ⟨hh,g,d,t,os'⟩:=s';obtain rfl:os'=s.os:=os;exact ⟨v,H',I.call (h':=hh) (g':=g) (d':=d) (t':=t) (ch:=[]) un hok bare (fun b z=>absurd z (by simp)),r,q⟩
end
def QjS (sp:Sp) (dvs:List V) (E:XK) (t:TA):TE:=fun σ H Q=>t σ H fun vs H1=>sp (vs++dvs) H1 Q E
def QpA (C:Addr) (m:Str) (sp:Sp) (dvs:List V) (E:XK) (ta:TE) (t:TA):TE:=fun σ H Q=>ta σ H fun x H1=>∃a dx fs,x = .ref a∧H1 a=some (.ins C dx fs)∧fs.lookup m=none ∧
 t σ H1 fun vs H2=>sp (x::(vs++dvs)) H2 Q E
def Qpz (C:Addr) (sp:Sp) (dvs:List V) (E:XK) (t:TA):TE:=fun σ H Q=>t σ H fun vs H1=>∀x dx,H1 x=none→H1 dx=none→dx≠x →
 sp (.ref x::(vs++dvs)) (upd (upd H1 dx (.own x)) x (.ins C dx [])) (fun v H2=>v = .non∧Q (.ref x) H2) E
def Binds (K:PySem.W.Frag) (fd:FuncData) (ps:List Str) (ds:List Value):Prop :=
 ∀(s:Shared) (us:List Value),K.In s.heap→(us++ds).length=ps.length→BindsTo s fd ⟨us,[]⟩ (ps.zip (us++ds))
theorem Binds.all {K:PySem.W.Frag}{fd:FuncData}{ps:List Str} (h:∀us:List Value,us.length=ps.length→bindArgs fd ⟨us,[]⟩=pure (ps.zip us)):Binds K fd ps []:=fun s us _ hl=>by
 rw [zL] at hl ⊢;exact .of_eq (h us hl)
def Qe9 (CX:CXT) (X:Cx) (E:XK):Prop:=∀(pins:List (Addr×Obj)) (σ:St) (H:Hp) (s:Shared) (e:Value) (s':Shared),Inv X pins σ H s→CX X.stack H s E e s'→X.xe e s'
section
variable {X:Cx}{CX:CXT}{k:Nat}{f C:Addr}{fd:FuncData}{ps:List Str}{sp:Sp}{dvs:List V}{ds:List Value}{E:XK}{x m:Str}{p pos apos:Pos}{e o:Expr}{es:List Expr}{ta:TE}{t:TA}
theorem Qnx {pins:List (Addr×Obj)}{σ:St}{H:Hp}{s:Shared}{Q:VK}{us:List Value}{vs:List V} (F:QbB X.prog X.w X.K X.mg X.base CX k f fd ps sp) (hr:QaR k X.A) (hb:Binds X.K fd ps ds) (hd:Qaz dvs ds) (hx:Qe9 CX X E)
  (I:Inv X pins σ H s) (r:Qaz vs us) (h:sp (vs++dvs) H Q E):wpAny (model X.prog X.w) X.A (call (.ref f) us) (EP X pins σ Q) X.xe s:=by
 have r2:Qaz (vs++dvs) (us++ds):=r.append hd
 have hl:(us++ds).length=ps.length:=by rw [←r2.length]; exact F.len _ _ _ _ h
 refine zR (codeAny_mono (F.run X.A X.stack s H ⟨us,[]⟩ (us++ds) (vs++dvs) Q E hr I.env0 (hb s us I.kIn hl) r2 h) fun r s' hq=>?_)
 cases r with
 | error e=>exact hx pins σ H s e s' I hq
 | ok fl =>
  cases fl with
  | ret u=>exact I.after hq
  | next=>exact False.elim hq
  | brk=>exact False.elim hq
  | cont=>exact False.elim hq
theorem Qlk (F:QbB X.prog X.w X.K X.mg X.base CX k f fd ps sp) (hr:QaR k X.A) (hg:Gl X x) (hm:X.mg x=some (.ref f)) (hk:PySem.W.keepIn X.K (.ref f)=true) (hb:Binds X.K fd ps ds) (hd:Qaz dvs ds) (hx:Qe9 CX X E)
  (ha:PA X (e::es) t) (hdb:(x == ("__debug__":Str))=false:=by decide) (he:starEach (e::es) X.env=(false,eval e X.env)::starEach es X.env:=by rfl) (hpl:(backTo pos (starEach es X.env)).any (·.1)=false:=by rfl) :
  PE X (.Call (.Name x p) (e::es) [] pos) (QjS sp dvs E t):=by
 intro pins s σ H Q I h;refine wpAny_Call_Name_kw (Qd7 I hg hm ?_ hdb);refine PySem.W.callWith_K (h₀:=X.base) I.ok.mod.kin hk (thn (ha pos pins s σ H _ I h) fun us s1 ⟨vs,H1,I1,r,q⟩=>⟨I1.kIn,?_⟩) he hpl;exact Qnx F hr hb hd hx I1 r q
theorem Qpj {pl:Sem Bool} (he:PE X o ta) (c:Cls X.K C) (hm:QiW X.K C m f) (F:QbB X.prog X.w X.K X.mg X.base CX k f fd ps sp) (hr:QaR k X.A) (hb:Binds X.K fd ps ds) (hd:Qaz dvs ds) (hx:Qe9 CX X E)
  (ht:eval (.Call (.Attribute o m apos) [] [] pos) X.env=(do
   let ov ←eval o X.env
   standAt apos.atName
   let (f,first) ←holding [ov] (getMethod ov m pl)
   callWith pos f first (backTo pos (starEach [] X.env)) (backToKw pos (keywordEach [] X.env))):=by rfl) :
  PE X (.Call (.Attribute o m apos) [] [] pos) (QpA C m sp dvs E ta Qsx):=by
 intro pins s σ H Q I h;refine PySem.W.methodCall_KW (pl:=pl) (thn (he pins s σ H _ I h) fun u s1 ⟨x,H1,I1,rx,a,dx,fs,ex,ea,l,q⟩=>?_) ht;subst ex;obtain rfl:u=Value.ref a:=rx;refine QlY I1 ea c hm l ?_;exact PySem.W.callWith_K0 (first:=[.ref a]) I1.kIn hm.kp (Qnx (us:=[.ref a]) (vs:=[.ref a]) F hr hb hd hx I1 (.cons rfl .nil) q)
structure Mk (K:PySem.W.Frag) (C f:Addr):Prop where
 makes:PySem.W.makesIn K C=true
 init:PySem.W.findIn K (.ref C) "__init__" = some (some (.ref f))
 fn:PySem.W.isFn K (.ref f)=true
 kp:PySem.W.keepIn K (.ref C)=true
theorem QoW {pins:List (Addr×Obj)}{σ:St}{H:Hp}{s:Shared}{Q:VK}{us:List Value}{vs:List V} (M:Mk X.K C f) (F:QbB X.prog X.w X.K X.mg X.base CX k f fd ps sp) (hr:QaR (k+1) X.A) (hb:Binds X.K fd ps ds) (hd:Qaz dvs ds)
  (hx:Qe9 CX X E) (I:Inv X pins σ H s) (r:Qaz vs us)
  (h:∀x dx,H x=none→H dx=none→dx≠x→sp (.ref x::(vs++dvs)) (upd (upd H dx (.own x)) x (.ins C dx [])) (fun v H2=>v = .non∧Q (.ref x) H2) E) :
  wpAny (model X.prog X.w) X.A (call (.ref C) us) (EP X pins σ Q) X.xe s:=by
 have hq:=h (s.heap.objs.size+1) s.heap.objs.size (I.hok.fresh (Nat.le_succ _)) (I.hok.fresh (zc _)) (zl (jf _));have I2:=Inv.made (C:=C) I;have r2:Qaz (V.ref (s.heap.objs.size+1)::(vs++dvs)) (Value.ref (s.heap.objs.size+1)::(us++ds)):=.cons rfl (r.append hd)
 have hl:(Value.ref (s.heap.objs.size+1)::us++ds).length=ps.length:=by
  have e:=r2.length;rw [F.len _ _ _ _ hq] at e;exact e.symm
 refine zR (Qj9 (f:=f) I.kIn M.makes M.init (beq_iff_eq.mp M.fn) (codeAny_mono (F.run _ X.stack _ _ ⟨Value.ref (s.heap.objs.size+1)::us,[]⟩ (Value.ref (s.heap.objs.size+1)::(us++ds)) _ _ E (hr.make C us [])
  (I2.env0.make C us []) (hb _ (Value.ref (s.heap.objs.size+1)::us) I2.kIn hl) r2 hq) fun r s' hq'=>?_))
 cases r with
 | error e=>exact hx pins σ _ _ e s' I2 hq'
 | ok fl =>
  cases fl with
  | ret u =>
   obtain ⟨v,H',I3,rv,ev,q3⟩:=I2.after hq';subst ev;exact ⟨rv,⟨V.ref (s.heap.objs.size+1),H',I3,rfl,q3⟩⟩
  | next=>exact False.elim hq'
  | brk=>exact False.elim hq'
  | cont=>exact False.elim hq'
theorem QqT (M:Mk X.K C f) (F:QbB X.prog X.w X.K X.mg X.base CX k f fd ps sp) (hr:QaR (k+1) X.A) (hg:Gl X x) (hm:X.mg x=some (.ref C)) (hb:Binds X.K fd ps ds) (hd:Qaz dvs ds) (hx:Qe9 CX X E)
  (ha:PA X (e::es) t) (hdb:(x == ("__debug__":Str))=false:=by decide) (he:starEach (e::es) X.env=(false,eval e X.env)::starEach es X.env:=by rfl) (hpl:(backTo pos (starEach es X.env)).any (·.1)=false:=by rfl) :
  PE X (.Call (.Name x p) (e::es) [] pos) (Qpz C sp dvs E t):=by
 intro pins s σ H Q I h;refine wpAny_Call_Name_kw (Qd7 I hg hm ?_ hdb);refine PySem.W.callWith_K (h₀:=X.base) I.ok.mod.kin M.kp (thn (ha pos pins s σ H _ I h) fun us s1 ⟨vs,H1,I1,r,q⟩=>⟨I1.kIn,?_⟩) he hpl;exact QoW M F hr hb hd hx I1 r q
end
section
variable {X:Cx}{CX:CXT}{k:Nat}{f C:Addr}{fd:FuncData}{ps ks:List Str}{sp:Sp}{E:XK}{x m:Str}{p pos apos kpos:Pos}{e o:Expr}{es:List Expr}{kws:List Keyword}{te ta:TE}{t tk:TA}{nm:Option Str}
structure Qv8 (K:PySem.W.Frag) (fd:FuncData) (ps ks:List Str) (g:List Value→List Value→List Value) (gV:List V→List V→List V):Prop where
 to:∀(s:Shared) (us ws:List Value),K.In s.heap→(g us ws).length=ps.length→BindsTo s fd ⟨us,ks.zip ws⟩ (ps.zip (g us ws))
 rel:∀{vs:List V}{us:List Value}{zs:List V}{ws:List Value},Qaz vs us→Qaz zs ws→Qaz (gV vs zs) (g us ws)
variable {g:List Value→List Value→List Value}{gV:List V→List V→List V}
end
structure QaO (N P:List Str) (sc:Scope):Prop where
 kind:sc.kind = .function
 co:sc.isCoroutine=false
 gen:sc.isGenerator=false
 nd:N.Nodup
 pre:N.take P.length=P
 par:∀x∈P,sc.names.lookup x=some .local∨sc.names.lookup x=some .cell
 nofree:∀y∈sc.names,y.2≠.free
theorem Qjz {kindOf:Str→Option NameKind}{x:Str}:∀{binds:List (Str×Value)}{m:Str→Option Value},(∀v,(x,v)∉binds)→bindL kindOf binds m x=m x
 | [],_,_=>rfl
 | (n,v)::r,m,h=>by
  unfold bindL;rw [Qjz fun w hw=>h w (zE _ hw)]
  split
  ·have:x≠n:=by rintro rfl; exact h v zK
   simp [this]
  ·rfl
theorem Qjy {kindOf:Str→Option NameKind}{x:Str}:∀{binds:List (Str×Value)}{m:Str→Option Value},(∀v,(x,v)∉binds)→bindC kindOf binds m x=m x
 | [],_,_=>rfl
 | (n,v)::r,m,h=>by
  unfold bindC;rw [Qjy fun w hw=>h w (zE _ hw)]
  split
  ·rfl
  ·have:x≠n:=by rintro rfl; exact h v zK
   simp [this]
theorem QjE {kindOf:Str→Option NameKind}{x:Str}{v:Value}:∀{P:List Str}{vs:List Value}{i:Nat}{m:Str→Option Value},P.Nodup→P[i]? = some x→vs[i]? = some v→kindOf x=some .local →
  bindL kindOf (P.zip vs) m x=some v
 | [],_,_,_,_,h,_,_=>by simp at h
 | _::_,[],_,_,_,_,h,_=>by simp at h
 | p::P,w::vs,0,m,nd,h1,h2,hk=>by
  simp at h1 h2; subst h1; subst h2
  show bindL kindOf ((p,w)::P.zip vs) m p=_;unfold bindL;rw [Qjz fun v hv=>(List.nodup_cons.mp nd).1 (List.of_mem_zip hv).1,if_pos hk];simp
 | p::P,w::vs,i+1,m,nd,h1,h2,hk=>by
  show bindL kindOf ((p,w)::P.zip vs) m x=_;unfold bindL;exact QjE (i:=i) (List.nodup_cons.mp nd).2 (by simpa using h1) (by simpa using h2) hk
theorem Qjl {kindOf:Str→Option NameKind}{x:Str}{v:Value}:∀{P:List Str}{vs:List Value}{i:Nat}{m:Str→Option Value},P.Nodup→P[i]? = some x→vs[i]? = some v→kindOf x≠some .local →
  bindC kindOf (P.zip vs) m x=some v
 | [],_,_,_,_,h,_,_=>by simp at h
 | _::_,[],_,_,_,_,h,_=>by simp at h
 | p::P,w::vs,0,m,nd,h1,h2,hk=>by
  simp at h1 h2; subst h1; subst h2
  show bindC kindOf ((p,w)::P.zip vs) m p=_;unfold bindC;rw [Qjy fun v hv=>(List.nodup_cons.mp nd).1 (List.of_mem_zip hv).1,if_neg hk];simp
 | p::P,w::vs,i+1,m,nd,h1,h2,hk=>by
  show bindC kindOf ((p,w)::P.zip vs) m x=_;unfold bindC;exact Qjl (i:=i) (List.nodup_cons.mp nd).2 (by simpa using h1) (by simpa using h2) hk
def start (N:List Str) (vs:List V):St:=vs.map some++List.replicate (N.length - vs.length) none
def QcS (CX:CXT) (P:Program) (w:World) (K:PySem.W.Frag) (mg:Str→Option Value) (base:Heap) (N:List Str) (qual:Str) (scope:Scope) (f:Addr) (cd:Value) (A:Around) (outer:List Env) (s:Shared) (H:Hp) (E:XK):Cx where
 prog:=P
 w:=w
 K:=K
 mg:=mg
 base:=base
 A:=A.deeper (envOfC qual scope s.heap.objs.size f cd)
 N:=N
 s₀:=s
 H₀:=H
 env:=envOfC qual scope s.heap.objs.size f cd
 outer:=outer
 stack:=envOfC qual scope s.heap.objs.size f cd::outer
 ex:=[]
 calm:=true
 fn:=fun _=>true
 pn:=[]
 xe:=fun e s'=>wpAny (model P w) (A.deeper (envOfC qual scope s.heap.objs.size f cd)) (leaving (envOfC qual scope s.heap.objs.size f cd) e) (fun _ s''=>CX outer H s E e s'') (fun e' s''=>CX outer H s E e' s'') s'
theorem Qj0 {sc:Scope}{n:Nat}{x:Str} (h:sc.names.lookup x=some .cell):∃c,(cellsFrom n sc.names []).lookup x=some c:=by
 have q:=PySem.W.cellsFrom_some sc.names n [] (.inl h);exact Option.isSome_iff_exists.mp q
theorem Qnk {CX:CXT}{P:Program}{w:World}{K:PySem.W.Frag}{mg:Str→Option Value}{base:Heap}{N ps:List Str}{qual:Str}{scope:Scope}{f:Addr}{cd:Value}{A:Around}{outer:List Env}{s s1:Shared}{H:Hp}{E:XK}{us:List Value}{vs:List V}
  (S:QaO N ps scope) (hd:A.handled=none) (e0:QeH P w K mg base A outer s H) (hl:vs.length=ps.length) (r:Qaz vs us)
  (x:InCallC s s.heap.objs.size (bindL (envOfC qual scope s.heap.objs.size f cd).kindOf (ps.zip us) fun _=>none) (cellsFrom (s.heap.objs.size+1) scope.names []) (bindC (envOfC qual scope s.heap.objs.size f cd).kindOf (ps.zip us) fun _=>none) s1) :
  Inv (QcS CX P w K mg base N qual scope f cd A outer s H E) [] (start N vs) H s1:=by
 have hpl:ps.length≤N.length:=by have:=congrArg List.length S.pre; rw [List.length_take] at this; omega
 obtain ⟨h1,tk,rfl,hk⟩:=x.done
 have noA:∀b:Addr,b∉(QcS CX P w K mg base N qual scope f cd A outer s H E).ex:=fun b z=>absurd (show b∈([]:List Addr) from z) (by simp)
 refine ⟨⟨e0.mod,S.kind,rfl,rfl,zc _,fun y z c h1 h2=>?_,fun y hy=>?_,fun y c _ h=>?_,fun _=>hd,Around.frames_deeper e0.frames,.inr ⟨rfl,rfl⟩,fun b z=>absurd z (noA b),e0.bs,e0.bsz,fun b _ _=>noA b,fun b z=>absurd z (noA b),e0.funs,e0.frf⟩,
  rfl,e0.bare,Un.kept hk,⟨_,x.toInCall.ns,fun i y v h1 h2 h3=>?_⟩,fun y c h=>⟨_,x.cell y c h⟩,e0.hok.fresh (zc _),fun y c h=>?_,fun p hp=>absurd (show p∈([]:List (Addr×Obj)) from hp) (by simp),e0.hok.kept hk,?_⟩
 ·exact name_of_addr x.apart (PySem.mem_of_lookup h1) (PySem.mem_of_lookup h2)
 ·have hy:scope.names.lookup y=some .cell∨scope.names.lookup y=some .free:=hy
  rcases hy with hy | hy
  ·exact Qj0 hy
  ·exact absurd rfl (S.nofree _ (PySem.mem_of_lookup hy))
 ·exact Nat.le_of_lt (x.above y c (PySem.mem_of_lookup h))
 ·have hi:i < vs.length:=by
   unfold start at h2
   by_cases hi:i < vs.length
   ·exact hi
   ·rw [zw (by simpa using hi)] at h2;rw [List.getElem?_replicate] at h2
    split at h2 <;> cases h2
  have ha:vs[i]? = some v:=by
   unfold start at h2;rw [zu (by simpa using hi),zB] at h2
   cases e:vs[i]? with
   | none=>rw [e] at h2; cases h2
   | some a=>rw [e] at h2; cases h2; rfl
  obtain ⟨u,hu,rv⟩:=r.get ha
  have hp:ps[i]? = some y:=by
   rw [←S.pre,List.getElem?_take_of_lt (by omega)]; exact h1
  have ndP:ps.Nodup:=by rw [←S.pre]; exact S.nd.sublist (List.take_sublist _ _)
  refine ⟨u,rv,?_⟩
  rcases S.par y (zP hp) with k | k
  ·exact .inl ⟨k,QjE ndP hp hu k⟩
  ·obtain ⟨c,e⟩:=Qj0 (n:=s.heap.objs.size+1) k;refine .inr ⟨.inl k,c,e,?_⟩;have q:=x.cell y c e;rw [Qjl ndP hp hu (by show scope.names.lookup y≠_; rw [k]; decide)] at q;exact q
 ·exact e0.hok.fresh (Nat.le_of_lt (x.above y c (PySem.mem_of_lookup h)))
 ·unfold start;show _=N.length;rw [zx,zo,List.length_replicate];omega
theorem QmK {CX:CXT}{P:Program}{w:World}{K:PySem.W.Frag}{mg:Str→Option Value}{base:Heap}{k:Nat}{f:Addr}{name qual:Str}{params:Arguments}{body:List Stmt}{scope:Scope}{dV kV doc pm cdv ct oc:Value}{an od:Option Addr}
  {osl:Array (Option Value)}{N ps:List Str}{sp:Sp} (lk:K.lookup f=some ⟨oc,od,.func (PySem.W.fnOf name qual params body scope dV kV doc pm an cdv ct),osl⟩) (hcd:PySem.W.codeIn K cdv qual=true) (S:QaO N ps scope)
  (len:∀vs H Q E,sp vs H Q E→vs.length=ps.length)
  (hbody:∀(A:Around) (outer:List Env) (s:Shared) (H:Hp) (vs:List V) (Q:VK) (E:XK),QaR k (A.deeper (envOfC qual scope s.heap.objs.size f cdv))→sp vs H Q E →
   ∃t,PSs (QcS CX P w K mg base N qual scope f cdv A outer s H E) body t∧t { nx:=fun _ H'=>Q .non H',rt:=Q } (start N vs) H) :
  QbB P w K mg base CX (k+1) f (PySem.W.fnOf name qual params body scope dV kV doc pm an cdv ct) ps sp:=by
 refine ⟨len,fun A outer s H args us vs Q E hr e0 hb r hsp=>?_⟩;have hl:=len _ _ _ _ hsp
 have KX:K.In s.heap:=e0.mod.kin.keeps fun b o e=>(e0.bs b o e).1
 have lim:s.heap.NoLimit:=e0.mod.nolimit.keeps fun b o e=>(e0.bs b o e).1
 have hkind:∀y∈ps.zip us,scope.names.lookup y.1=some .local∨(scope.names.lookup y.1=some .cell∧((cellsFrom (s.heap.objs.size+1) scope.names []).lookup y.1).isSome=true):=fun ⟨n,v⟩ hy=>by
  rcases S.par n (List.of_mem_zip hy).1 with q | q
  ·exact .inl q
  ·exact .inr ⟨q,PySem.W.cellsFrom_some _ _ _ (.inl q)⟩
 refine codeAny_call_function hr.depth (KX _ _ lk) rfl S.co S.gen rfl (PySem.W.codeRec_of KX hcd) (hb _ _ _ _ ?_)
 refine wpAny_newFunctionEnv_cells S.kind hkind fun env he s1 x=>?_
 subst he;refine ⟨lim.keeps x.toInCall.keep,codeAny_func ?_⟩;obtain ⟨t,ht,hq⟩:=hbody A outer s H vs Q E (hr.deeper _) hsp;have I:Inv (QcS CX P w K mg base N qual scope f cdv A outer s H E) [] (start N vs) H s1:=Qnk S hr.hd e0 hl r x
 refine zr (ht [] s1 (start N vs) H _ I hq) (fun fl s' hs=>?_) fun e s' hs=>hs
 have fin:∀{σ':St}{H':Hp}{v:V}{u:Value},Inv (QcS CX P w K mg base N qual scope f cdv A outer s H E) [] σ' H' s'→RelV v u→Q v H'→CE outer P w H s Q u s' :=
  fun {σ' H' v u} J rv q=>⟨v,H',J.os,J.bare,J.base,J.hok,rv,q⟩
 cases fl with
 | ret u =>
  obtain ⟨v,σ',H',J,rv,q⟩:=hs;exact fin J rv q
 | next =>
  obtain ⟨σ',H',J,q⟩:=hs;exact fin (v:=V.non) (u:=Value.none) J rfl q
 | brk =>
  obtain ⟨_,_,_,q⟩:=hs;exact False.elim q
 | cont =>
  obtain ⟨_,_,_,q⟩:=hs;exact False.elim q
section
variable {X:Cx}{x:Str}{p pos:Pos}{e:Expr}{es:List Expr}{t:TA}{id T:String}{r:List V→Hp→VK→Prop}
def tCB (r:List V→Hp→VK→Prop) (t:TA):TE:=fun σ H Q=>t σ H fun vs H1=>r vs H1 Q
theorem Qgx (hc:QdK X (.builtin id) r) (hg:Gl X x) (hm:X.mg x=none) (hv:bootBuiltins x=some (.builtin id)) (ha:PA X (e::es) t) (hn:x≠"__name__":=by decide) (hdb:(x == ("__debug__":Str))=false:=by decide)
  (he:starEach (e::es) X.env=(false,eval e X.env)::starEach es X.env:=by rfl) (hpl:(backTo pos (starEach es X.env)).any (·.1)=false:=by rfl):PE X (.Call (.Name x p) (e::es) [] pos) (tCB r t):=by
 intro pins s σ H Q I h;refine wpAny_Call_Name_kw (Qgb I hg hm hv ?_ hn hdb);exact PyProof.Rows.callWith_builtin1 (thn (ha pos pins s σ H _ I h) fun us s1 ⟨vs,H1,I1,r1,q1⟩=>hc pins s1 σ H1 vs us Q I1 r1 q1) he hpl
theorem Qjo (hc:QdK X (.type T) r) (hg:Gl X x) (hm:X.mg x=none) (hv:bootBuiltins x=some (.type T)) (ha:PA X (e::es) t) (hn:x≠"__name__":=by decide) (hdb:(x == ("__debug__":Str))=false:=by decide)
  (he:starEach (e::es) X.env=(false,eval e X.env)::starEach es X.env:=by rfl) (hpl:(backTo pos (starEach es X.env)).any (·.1)=false:=by rfl):PE X (.Call (.Name x p) (e::es) [] pos) (tCB r t):=by
 intro pins s σ H Q I h;refine wpAny_Call_Name_kw (Qgb I hg hm hv ?_ hn hdb);exact PyProof.Rows.callWith_type1 (thn (ha pos pins s σ H _ I h) fun us s1 ⟨vs,H1,I1,r1,q1⟩=>hc pins s1 σ H1 vs us Q I1 r1 q1) he hpl
end
end L2
namespace HT
open PySem PyProof.Rows
section
open PySem.SeqAt
open PySem.AutoSeq1 (wpAny_loadPart')
open PySem.MeetsSeq PySem.MeetsSeq2 PySem.MeetsSeq3
end
section
variable {prog:Program}{w:World}{A:Around}{E:Value→Shared→Prop}{s:Shared}
theorem cat_tup {t b:Addr}{vs ws:List Value}{Q:Value→Shared→Prop} (ht:IsTup s.heap t vs.toArray) (hb:IsTup s.heap b ws.toArray) (hv:vs≠[])
  (h1:ws = []→Q (.ref t) s) (h2:ws≠[]→Q (.ref s.heap.objs.size) { s with heap:=s.heap.push { cls:=.type "tuple",data:=.seq (vs++ws).toArray } })
  (hsz:vs.length+ws.length≤sizeLine):wpAny (model prog w) A (binaryOp .Add (.ref t) (.ref b)) Q E s:=by
 obtain ⟨⟨cls,dd,data,sl⟩,ho,hc,n,hd⟩:=id ht;obtain ⟨⟨cls2,dd2,data2,sl2⟩,ho2,hc2,n2,hd2⟩:=id hb;simp only at hc hd hc2 hd2;subst hc hd hc2 hd2
 have e:vs.toArray++ws.toArray=(vs++ws).toArray:=by simp
 by_cases hw:ws = []
 ·exact concat_meets ⟨_,ho,rfl⟩ ⟨_,ho2,rfl⟩ noFill_tuple_add seq_tuple_add PySem.F.slot_tuple_add PySem.F.entry_tuple_add (PySem.F.args_tuple_add_2 _ _)
   (tuple_addW1 t b vs.toArray ws.toArray n n2 dd dd2 sl sl2 (by simpa using hv) (by simp [hw])) ⟨ho,ho2,h1 hw⟩
 ·refine concat_meets ⟨_,ho,rfl⟩ ⟨_,ho2,rfl⟩ noFill_tuple_add seq_tuple_add PySem.F.slot_tuple_add PySem.F.entry_tuple_add (PySem.F.args_tuple_add_2 _ _)
   (tuple_addW2 t b vs.toArray ws.toArray n n2 dd dd2 sl sl2 (by simpa using hv) (by simpa using hw) (by rw [zp,zp]; exact hsz)) ⟨ho,ho2,?_⟩
  rw [e];exact h2 hw
def sIx (n d:Nat):Option Int→Nat
 | none=>d
 | some v=>if v < 0 then (v+(n:Int)).toNat else min v.toNat n
theorem sIx_none (n d:Nat):sIx n d none=d:=rfl
theorem sIx_nat (n d k:Nat):sIx n d (some (k:Int))=min k n:=by
 show (if (k:Int) < 0 then ((k:Int)+(n:Int)).toNat else min (k:Int).toNat n)=min k n;rw [if_neg (by omega),Int.toNat_natCast]
theorem sIx_le (n d:Nat) (hd:d≤n) (o:Option Int):sIx n d o≤n:=by
 cases o with
 | none=>exact hd
 | some v =>
  show (if v < 0 then (v+(n:Int)).toNat else min v.toNat n)≤n
  by_cases hv:v < 0
  ·rw [if_pos hv]; omega
  ·rw [if_neg hv]; exact Nat.min_le_right _ _
theorem QlH (v:Int) (n d:Nat):(if v < 0 then max (v+(n:Int)) 0 else min v (n:Int))=((sIx n d (some v):Nat):Int):=by
 show (if v < 0 then max (v+(n:Int)) 0 else min v (n:Int))=(((if v < 0 then (v+(n:Int)).toNat else min v.toNat n):Nat):Int)
 by_cases hv:v < 0
 ·simp only [if_pos hv]; omega
 ·simp only [if_neg hv]; omega
theorem Qma (lo hi:Option Int) (n:Nat):Builtin.Slice.sliceAdjust lo hi 1 (n:Int)=(((sIx n 0 lo:Nat):Int),((sIx n n hi:Nat):Int)):=by
 have h1:¬((1:Int) < 0):=by omega
 unfold Builtin.Slice.sliceAdjust;simp only [h1,if_false];refine Prod.ext ?_ ?_
 ·cases lo with
  | none=>rfl
  | some v=>exact QlH v n 0
 ·cases hi with
  | none=>rfl
  | some v=>exact QlH v n n
theorem QmG (i j:Nat):Builtin.Slice.slicePlaces (i:Int) (j:Int) 1=j - i:=by
 unfold Builtin.Slice.slicePlaces
 have h1:(1:Int) > 0:=by omega
 simp only [h1,if_true,Int.ediv_one]
 split <;> omega
theorem QiS {v:Value}{o:Option Int}{Q:Option Int→Shared→Prop} (p:IsPart v o) (h:Q o s):wpAny (model prog w) A (Builtin.Slice.slicePartIndex v) Q E s:=by
 cases p with
 | none=>exact slicePart_none h
 | int i t=>exact slicePart_int h
theorem sliceApplied_gen {sl:Addr}{vl vu:Value}{lo hi:Option Int}{n:Nat}{Q:Int×Int×Nat→Shared→Prop} (hs:s.heap.IsSliceOf sl vl vu .none) (pl:IsPart vl lo) (pu:IsPart vu hi)
  (h:Q (((sIx n 0 lo:Nat):Int),1,sIx n n hi - sIx n 0 lo) s):wpAny (model prog w) A (Builtin.Slice.sliceApplied (.ref sl) (pure (n:Int))) Q E s:=by
 obtain ⟨os,hos,hcs,hds⟩:=id hs;unfold Builtin.Slice.sliceApplied Builtin.Slice.sliceFields;refine za (za (wpAny_field hos hds (x:=vl) rfl (za (wpAny_field hos hds (x:=vu) rfl (za (wpAny_field hos hds (x:=.none) rfl (zb ?_)))))));refine za (slicePart_none ?_);show wpAny _ _ (if ((1:Int) == 0)=true then _ else _) _ _ s;rw [if_neg (by decide)];refine za (QiS pl (za (QiS pu (za (zb ?_)))));show wpAny _ _ (match Builtin.Slice.sliceAdjust lo hi 1 (n:Int) with | (lo,hi)=>pure (lo,(1:Int),Builtin.Slice.slicePlaces lo hi 1)) _ _ s;rw [Qma lo hi n];show wpAny _ _ (pure (((sIx n 0 lo:Nat):Int),(1:Int),Builtin.Slice.slicePlaces ((sIx n 0 lo:Nat):Int) ((sIx n n hi:Nat):Int) 1)) _ _ s
 rw [QmG];exact zb h
theorem QoL (xs:Array Value) (i k:Nat):((List.range k).filterMap fun (m:Nat)=>xs[((i:Int)+(m:Int) * 1).toNat]?).toArray=((xs.toList.drop i).take k).toArray:=by
 have e:(fun (m:Nat)=>xs[((i:Int)+(m:Int) * 1).toNat]?)=fun m=>xs[i+m]?:=by
  funext m
  have:((i:Int)+(m:Int) * 1).toNat=i+m:=by omega
  rw [this]
 rw [e]
 have:=pick_run xs i k
 rw [List.filterMap_map] at this
 have e2:((fun x=>xs[x]?) ∘ fun x=>i+x)=fun m=>xs[i+m]?:=rfl
 rw [e2] at this;rw [this]
theorem getItem_tuple_cut {t sl:Addr}{items:Array Value}{vl vu:Value}{lo hi:Option Int}{Q:Value→Shared→Prop} (ht:IsTup s.heap t items) (hs:s.heap.IsSliceOf sl vl vu .none) (pl:IsPart vl lo) (pu:IsPart vu hi)
  (hw:¬(sIx items.size 0 lo=0∧sIx items.size items.size hi=items.size))
  (h:Q (.ref s.heap.objs.size) { s with heap:=s.heap.push { cls:=.type "tuple",data:=.seq ((items.toList.drop (sIx items.size 0 lo)).take (sIx items.size items.size hi - sIx items.size 0 lo)).toArray } })
  (hsz:items.size≤sizeLine):wpAny (model prog w) A (getItem (.ref t) (.ref sl)) Q E s:=by
 have htake:sizeOk (.seq ((items.toList.drop (sIx items.size 0 lo)).take (sIx items.size items.size hi - sIx items.size 0 lo)).toArray):=by
  show ((items.toList.drop (sIx items.size 0 lo)).take (sIx items.size items.size hi - sIx items.size 0 lo)).toArray.size≤sizeLine;rw [zp,List.length_take,List.length_drop,Array.length_toList];omega
 have hj:sIx items.size items.size hi≤items.size:=sIx_le _ _ (zc _) hi;obtain ⟨os,hos,hcs,hds⟩:=id hs;have hTs:s.TypeIs (.ref sl) "slice":=⟨os,hos,hcs⟩;unfold getItem
 try with_reducible refine zC ?_
 first | refine za (zb ?_) | skip
 refine za (wpAny_sequenceKey ht.typeIs (by decide) ?_)
 refine za (wpAny_callSpecial?_slot (name:=Str.ofString "__getitem__") ht.typeIs PyProof.Rows.slot_tuple_getitem
  (wpAny_call_entry PyProof.Rows.slot_tuple_getitem ht.typeIs entry_tuple_getitem ?_ (args_tuple_getitem _ _)))
 show wpAny _ _ (Builtin.Tuple.tupleItemsOf (.ref t) >>= _) _ _ s;refine za (tupleItemsOf_ ht ?_);refine za (wpAny_typeOf hTs ?_);rw [if_pos (by decide)];refine za (sliceApplied_gen hs pl pu ?_)
 have hno:¬((((sIx items.size 0 lo:Nat):Int) == 0&&(1:Int) == 1&&(sIx items.size items.size hi - sIx items.size 0 lo) == items.size)=true):=by
  intro q;rw [zg,zg] at q;have q1:((sIx items.size 0 lo:Nat):Int)=0:=eq_of_beq q.1.1;have q2:sIx items.size items.size hi - sIx items.size 0 lo=items.size:=eq_of_beq q.2;exact hw ⟨by omega,by omega⟩
 show wpAny _ _ (if (((sIx items.size 0 lo:Nat):Int) == 0&&(1:Int) == 1&&(sIx items.size items.size hi - sIx items.size 0 lo) == items.size)=true then _ else _) _ _ s;rw [if_neg hno,QoL]
 first
  | exact za (m:=Builtin.Tuple.tupleExact _) (wpAny_newObj_type (zb ⟨_,rfl,zb h⟩) htake)
  | exact za (m:=Builtin.Tuple.tupleExact _) (wpAny_newObj_type (za (zb (zb ⟨_,rfl,zb h⟩))) htake)
  | exact za (za (m:=Builtin.Tuple.tupleExact _) (wpAny_newObj_type (zb (zb ⟨_,rfl,zb h⟩)) htake))
  | exact za (za (m:=Builtin.Tuple.tupleExact _) (wpAny_newObj_type (zb ⟨_,rfl,zb h⟩) htake))
end
end HT
namespace L2
open PySem PySem.Spec PyProof.Rows
abbrev TO:=St→Hp→(Option Int→Hp→Prop)→Prop
def PO (X:Cx) (e:Option Expr) (t:TO):Prop :=
 ∀(pins:List (Addr×Obj)) (s:Shared) (σ:St) (H:Hp) (Q:Option Int→Hp→Prop),Inv X pins σ H s→t σ H Q →
  wpAny (model X.prog X.w) X.A (evalPart e X.env) (fun u s'=>∃o H',Inv X pins σ H' s'∧IsPart u o∧Q o H') X.xe s
def Qqq:TO:=fun _ H Q=>Q none H
def QtX (t:TE):TO:=fun σ H Q=>t σ H fun x H1=>∃i,x = .int i∧Q (some i) H1
section
variable {X:Cx}{e:Expr}{te:TE}{lo hi:Option Expr}{tl th:TO}{pos p2:Pos}
theorem Qqg:PO X none Qqq:=by
 intro pins s σ H Q I h;rw [evalPart_none];exact zb ⟨none,H,I,.none,h⟩
theorem QqI (h:PE X e te):PO X (some e) (QtX te):=by
 intro pins s σ H Q I hw;rw [evalPart_some]
 refine thn (h pins s σ H _ I hw) fun u s1 ⟨x,H1,I1,r1,q1⟩=>?_
 obtain ⟨i,rfl,q⟩:=q1;obtain ⟨t,rfl⟩:=r1;exact ⟨some i,H1,I1,.int i t,q⟩
def SlR (X:Cx) (r:V→Option Int→Option Int→Hp→VK→Prop):Prop :=
 ∀(pins:List (Addr×Obj)) (s:Shared) (σ:St) (H:Hp) (x:V) (v vl vu:Value) (lo hi:Option Int) (sl:Addr) (Q:VK),Inv X pins σ H s→RelV x v→s.heap.IsSliceOf sl vl vu .none→IsPart vl lo→IsPart vu hi→r x lo hi H Q →
  ∃T id,typeLookup (.type T) "__getitem__" = pure (some (.builtin id))∧s.TypeIs v T∧wpAny (model X.prog X.w) X.A (getItem v (.ref sl)) (EP X pins σ Q) X.xe s
def tSl (r:V→Option Int→Option Int→Hp→VK→Prop) (te:TE) (tl th:TO):TE:=fun σ H Q=>te σ H fun x H1=>tl σ H1 fun l H2=>th σ H2 fun u H3=>r x l u H3 Q
theorem Qpm {r:V→Option Int→Option Int→Hp→VK→Prop} (hr:SlR X r) (he:PE X e te) (hl:PO X lo tl) (hu:PO X hi th):PE X (.Subscript e (.Slice lo hi none p2) pos) (tSl r te tl th):=by
 intro pins s σ H Q I h;refine Subscript_ (thn (he pins s σ H _ I h) fun v s1 ⟨x,H1,I1,r1,q1⟩=>?_);refine wpAny_Slice (thn (hl pins s1 σ H1 _ I1 q1) fun vl s2 ⟨l,H2,I2,pl,q2⟩=>thn (hu pins s2 σ H2 _ I2 q2) fun vu s3 ⟨u,H3,I3,pu,q3⟩=>?_);rw [evalPart_none];refine zb ?_
 have I4:Inv X pins σ H3 { s3 with heap:=s3.heap.push { cls:=.type "slice",data:=.fields #[vl,vu,.none] } }:=I3.kept (t':=s3.toks) fun b ob q=>zf _ q
 obtain ⟨T,id,hT,ht,hg⟩:=hr pins { s3 with heap:=s3.heap.push { cls:=.type "slice",data:=.fields #[vl,vu,.none] } } σ H3 x v vl vu l u s3.heap.objs.size Q I4 r1 (Heap.IsSliceOf.new ..) pl pu q3;show wpAny (model X.prog X.w) X.A (subscriptTail e (.Slice lo hi none p2) v (.ref s3.heap.objs.size)) (EP X pins σ Q) X.xe { s3 with heap:=s3.heap.push { cls:=.type "slice",data:=.fields #[vl,vu,.none] } };exact tail_any (ops:=[.ref s3.heap.objs.size,v]) ht hT hg (by with_unfolding_all rfl)
def QgE (xs:List V) (lo hi:Option Int):List V:=(xs.drop (HT.sIx xs.length 0 lo)).take (HT.sIx xs.length xs.length hi - HT.sIx xs.length 0 lo)
theorem QhU (xs:List V) (lo hi:Option Int):(QgE xs lo hi).length≤xs.length:=by
 unfold QgE;rw [List.length_take,List.length_drop];omega
def Quw (K:PySem.W.Frag):V→Option Int→Option Int→Hp→VK→Prop:=fun x lo hi H Q=>∃a xs,x = .ref a∧SqT K H a xs ∧
 ¬(HT.sIx xs.length 0 lo=0∧HT.sIx xs.length xs.length hi=xs.length)∧∀p,H p=none→Q (.ref p) (upd H p (.tup (QgE xs lo hi)))
theorem Qsf:SlR X (Quw X.K):=by
 intro pins s σ H x v vl vu lo hi sl Q I rx hs pl pu h;obtain ⟨a,xs,rfl,hx,hw,q⟩:=h;cases rx;obtain ⟨its,r,ht,hz⟩:=I.tuple hx
 have hlen:its.toArray.size=xs.length:=by rw [zp]; exact r.length.symm
 refine ⟨"tuple",_,PyProof.Rows.slot_tuple_getitem.lookup,ht.typeIs,?_⟩;refine HT.getItem_tuple_cut ht hs pl pu (by rw [hlen]; exact hw) ?_ (by rw [hlen]; exact hz);rw [hlen];refine ⟨.ref s.heap.objs.size,_,I.laid (t':=s.toks) (o:=.tup (QgE xs lo hi)) (fun b ob q=>zf _ q) (zc _) ?_,rfl,q _ (I.hok.fresh (zc _))⟩;exact ⟨zz (QhU xs lo hi) hz,_,(r.drop (HT.sIx xs.length 0 lo)).take (HT.sIx xs.length xs.length hi - HT.sIx xs.length 0 lo),IsTup.new _ _⟩
def QtB (K:PySem.W.Frag):R2:=fun x y H Q=>∃a b xs ys,x = .ref a∧y = .ref b∧SqT K H a xs∧SqT K H b ys∧xs≠[]∧xs.length+ys.length≤sizeLine ∧
 (ys = []→Q (.ref a) H)∧(ys≠[]→∀p,H p=none→Q (.ref p) (upd H p (.tup (xs++ys))))
theorem Qaz.nil_iff {xs:List V}{us:List Value} (r:Qaz xs us):us = []↔xs = []:=by
 cases r with
 | nil=>simp
 | cons _ _=>simp
theorem Qp8:OpR X (binaryOp .Add) (QtB X.K):=by
 intro pins s σ H x y v u Q I rx ry h;obtain ⟨a,b,xs,ys,rfl,rfl,ha,hb,hx,hz,q1,q2⟩:=h;cases rx;cases ry;obtain ⟨its,r1,p1,_⟩:=I.tuple ha;obtain ⟨its2,r2,p2,_⟩:=I.tuple hb;refine HT.cat_tup p1 p2 (fun z=>hx (r1.nil_iff.mp z)) (fun z=>⟨.ref a,H,I,rfl,q1 (r2.nil_iff.mp z)⟩) (fun z=>?_) (by rw [←r1.length,←r2.length]; exact hz);refine ⟨.ref s.heap.objs.size,_,I.laid (t':=s.toks) (o:=.tup (xs++ys)) (fun b ob q=>zf _ q) (zc _) ?_,rfl,q2 (fun w=>z (r2.nil_iff.mpr w)) _ (I.hok.fresh (zc _))⟩;exact ⟨by rw [zx]; exact hz,_,r1.append r2,IsTup.new _ _⟩
end
def ixN (n:Nat) (i:Int):Option Nat:=if 0≤i then (if i < n then some i.toNat else none) else if -(n:Int)≤i then some (i+n).toNat else none
def atI {α:Type} (xs:List α) (i:Int):Option α:=(ixN xs.length i).bind fun j=>xs[j]?
theorem Qlt {n:Nat}{i:Int}{j:Nat} (h:ixN n i=some j):seqIndex? i n=some j∧j < n∧-(n:Int)≤i∧i < n:=by
 unfold ixN at h
 by_cases h0:0≤i
 ·rw [if_pos h0] at h
  by_cases h1:i < n
  ·rw [if_pos h1] at h;have e:i.toNat=j:=zG h;exact ⟨by rw [seqIndex_of h0 h1,e],by omega,by omega,h1⟩
  ·rw [if_neg h1] at h; cases h
 ·rw [if_neg h0] at h
  by_cases h1:-(n:Int)≤i
  ·rw [if_pos h1] at h;have e:(i+n).toNat=j:=zG h;exact ⟨by rw [seqIndex_neg (by omega) h1,e],by omega,h1,by omega⟩
  ·rw [if_neg h1] at h; cases h
theorem Qjj {α:Type}{xs:List α}{i:Int}{v:α} (h:atI xs i=some v):∃j,seqIndex? i xs.length=some j∧xs[j]? = some v∧j < xs.length∧-(xs.length:Int)≤i∧i < xs.length:=by
 unfold atI at h
 cases e:ixN xs.length i with
 | none=>rw [e] at h; cases h
 | some j =>
  rw [e] at h;obtain ⟨h1,h2,h3,h4⟩:=Qlt e;exact ⟨j,h1,h,h2,h3,h4⟩
def Qlu (b:Expr):Prop:=∀o i,subscripted b false o i=operate [o,i] (getItem o i)
def IxR (X:Cx) (r:R2):Prop :=
 ∀(value slice:Expr) (pins:List (Addr×Obj)) (s:Shared) (σ:St) (H:Hp) (x y:V) (v u:Value) (Q:VK),Inv X pins σ H s→RelV x v→RelV y u→r x y H Q →
  subscripted slice false v u=operate [v,u] (getItem v u)→wpAny (model X.prog X.w) X.A (subscriptTail value slice v u) (EP X pins σ Q) X.xe s
def MtR (X:Cx) (id:String) (r:V→List V→Hp→VK→Prop):Prop :=
 ∀(pins:List (Addr×Obj)) (s:Shared) (σ:St) (H:Hp) (x:V) (xs:List V) (v:Value) (us:List Value) (Q:VK),Inv X pins σ H s→RelV x v→Qaz xs us→r x xs H Q →
  wpAny (model X.prog X.w) X.A (call (.builtin id) (v::us)) (EP X pins σ Q) X.xe s
section
variable {X:Cx}{a b:Expr}{ta tb:TE}{pos:Pos}
theorem QtI {r:R2} (hr:IxR X r) (ha:PE X a ta) (hb:PE X b tb) (hs:Qlu b):PE X (.Subscript a b pos) (tOp r ta tb):=by
 intro pins s σ H Q I h;exact Subscript_ (Qoo ha hb I h fun v u s2 x y H2 I2 rx ry q=>hr a b pins s2 σ H2 x y v u Q I2 rx ry q (hs _ _))
def Qvi (K:PySem.W.Frag):R2:=fun x y H Q=>∃p xs i v,x = .ref p∧y = .int i∧SqL K H p xs∧atI xs i=some v∧Q v H
def Qvo (K:PySem.W.Frag):R2:=fun x y H Q=>∃p xs i v,x = .ref p∧y = .int i∧SqT K H p xs∧atI xs i=some v∧Q v H
def Quz:R2:=fun x y H Q=>∃z i c,x = .str z∧y = .int i∧z.length≤sizeLine∧atI z.cps.toList i=some c∧Q (.str ⟨#[c]⟩) H
theorem Qqa:IxR X (Qvi X.K):=by
 intro value slice pins s σ H x y v u Q I rx ry h hs;obtain ⟨p,xs,i,z,rfl,rfl,hq,he,q⟩:=h;cases rx;obtain ⟨t,rfl⟩:=ry;obtain ⟨its,r,pl,hz⟩:=I.list hq;obtain ⟨j,h1,h2,h3,h4,h5⟩:=Qjj he;obtain ⟨w,ew,rw'⟩:=r.get h2;have hl:=r.length;have hn:=Qf4;have fin:EP X pins σ Q w s:=⟨z,H,I,rw',q⟩
 by_cases h0:0≤i
 ·have hj:i.toNat=j:=by
   rw [seqIndex_of h0 h5] at h1;exact zG h1
  exact item_listR pl.isList h0 (by omega) (by rw [hj]; simpa using ew) fin hs
 ·have hj:(i+(its.toArray.size:Int)).toNat=j:=by
   rw [seqIndex_neg (by omega) h4] at h1;rw [zp,←hl];exact zG h1
  exact subscriptTail_builtinR (x:=w) pl.isList.typeIs slot_list_getitem.lookup
   (wpAny_getItem_list_neg (Q:=fun r s'=>r=w∧EP X pins σ Q r s') pl.isList (by omega) (by rw [zp] <;> omega) (by omega) (by rw [hj]; simpa using ew) ⟨rfl,fin⟩) hs
theorem Qr1:IxR X (Qvo X.K):=by
 intro value slice pins s σ H x y v u Q I rx ry h hs;obtain ⟨p,xs,i,z,rfl,rfl,hq,he,q⟩:=h;cases rx;obtain ⟨t,rfl⟩:=ry;obtain ⟨its,r,pl,hz⟩:=I.tuple hq;obtain ⟨j,h1,h2,h3,h4,h5⟩:=Qjj he;obtain ⟨w,ew,rw'⟩:=r.get h2;have hl:=r.length;have hn:=Qf4;have fin:EP X pins σ Q w s:=⟨z,H,I,rw',q⟩;exact subscriptTail_builtinR (x:=w) pl.typeIs slot_tuple_getitem.lookup
  (getItem_tuple (j:=j) (Q:=fun r s'=>r=w∧EP X pins σ Q r s') pl (by omega) (by omega) (by rw [zp,←hl]; exact h1) (by simpa using ew) ⟨rfl,fin⟩) hs
theorem Qro:IxR X Quz:=by
 intro value slice pins s σ H x y v u Q I rx ry h hs;obtain ⟨z,i,c,rfl,rfl,hz,he,q⟩:=h;obtain ⟨t,rfl⟩:=rx;obtain ⟨t',rfl⟩:=ry;obtain ⟨j,h1,h2,h3,h4,h5⟩:=Qjj he
 have hl:z.cps.toList.length=z.length:=by simp [Str.length]
 rw [hl] at h1 h4 h5;have hn:=Qf4
 exact tail_any (typeIs_str s z t) slot_str_getitem.lookup (getItem_str (c:=c) (by
  have e1:decide (i < -(2 ^ 63:Int))=false:=zm (by omega);have e2:decide (i≥2 ^ 63)=false:=zm (by omega)
  rw [e1,e2,Bool.or_false]) (by rw [h1]; simpa using h2) ⟨.str ⟨#[c]⟩,H,I.tok _,⟨_,rfl⟩,q⟩) hs
theorem Qmu (its:List Value) (n j:Nat) (u:Value):Obj.mapSeq (·.setIfInBounds j u) { cls:=.type "list",data:=.seq its.toArray n } = { cls:=.type "list",data:=.seq (its.set j u).toArray n }:=by
 simp [Obj.mapSeq]
theorem Inv.lst {pins:List (Addr×Obj)}{σ:St}{H:Hp}{s:Shared}{p:Addr}{xs:List V} (I:Inv X pins σ H s) (h:H p=some (.lst xs)) :
  ∃(its:List Value) (n:Nat),Qaz xs its∧s.heap.get? p=some { cls:=.type "list",data:=.seq its.toArray n }∧xs.length≤sizeLine:=by
 obtain ⟨z,its,n,r,e⟩:=I.hok p _ h;exact ⟨its,n,r,e,z⟩
theorem Inv.lstUpd {pins:List (Addr×Obj)}{σ:St}{H:Hp}{s:Shared}{p:Addr}{xs ys:List V}{its its':List Value}{n n':Nat}{f:Obj→Obj} (I:Inv X pins σ H s) (h:H p=some (.lst xs))
  (ho:s.heap.get? p=some { cls:=.type "list",data:=.seq its.toArray n }) (hf:f { cls:=.type "list",data:=.seq its.toArray n } = { cls:=.type "list",data:=.seq its'.toArray n' }) (r:Qaz ys its') (hz:ys.length≤sizeLine) (t:Nat) :
  Inv X pins σ (upd H p (.lst ys)) { s with heap:=s.heap.update p f,toks:=t }:=by
 have e:(s.heap.update p f).get? p=some { cls:=.type "list",data:=.seq its'.toArray n' }:=by
  rw [Heap.get?_update_self f ho (by rw [hf] <;> rfl),hf]
 refine I.write (x:=p) (e:=p) (by rw [h]; trivial) (.inl rfl) (fun b u hb q=>(zY _ _ (Ne.symm hb)).trans q) ⟨_,e⟩ ?_;exact ⟨hz,its',n',r,e⟩
def Qt5:V→V→V→Hp→(Hp→Prop)→Prop:=fun o i v H Q=>∃p xs k j,o = .ref p∧i = .int k∧H p=some (.lst xs)∧ixN xs.length k=some j∧Q (upd H p (.lst (xs.set j v)))
theorem set_list:QrM X Qt5:=by
 intro pins s σ H o i v ov iv u Q I ro ri rv h;obtain ⟨p,xs,k,j,rfl,rfl,hp,hj,q⟩:=h;cases ro;obtain ⟨t,rfl⟩:=ri;obtain ⟨its,n,r,ho,hz⟩:=I.lst hp;obtain ⟨h1,h2,h3,h4⟩:=Qlt hj;have hl:=r.length;have hn:=Qf4;have I':Inv X pins σ (upd H p (.lst (xs.set j v))) { s with heap:=s.heap.update p (Obj.mapSeq (·.setIfInBounds j u)) } :=
  I.lstUpd hp ho (Qmu its n j u) (r.set rv j) (by rw [zM]; exact hz) s.toks
 by_cases h0:0≤k
 ·have hk:k.toNat=j:=by
   rw [seqIndex_of h0 h4] at h1;exact zG h1
  exact PySem.W.ki_setAt ho h0 (by omega) (by rw [zp,←hl]; exact h4) (by rw [hk]; exact ⟨_,I',q⟩)
 ·have hk:(k+(its.toArray.size:Int)).toNat=j:=by
   rw [seqIndex_neg (by omega) h3] at h1;rw [zp,←hl];exact zG h1
  exact PySem.W.ki_setBack ho (by omega) (by rw [zp,←hl]; exact h3) (by omega) (by rw [hk]; exact ⟨_,I',q⟩)
theorem Qhi (lo hi:Option Int) (n:Nat):(sliceBounds lo hi none n).1=((HT.sIx n 0 lo:Nat):Int)∧(sliceBounds lo hi none n).2.1=((HT.sIx n n hi:Nat):Int)∧(sliceBounds lo hi none n).2.2=1:=by
 refine ⟨?_,?_,rfl⟩
 ·cases lo with
  | none=>simp [sliceBounds,HT.sIx]
  | some i =>
   simp only [sliceBounds,HT.sIx,Option.getD_none,show (1:Int) > 0 by decide,if_true]
   by_cases h:i < 0
   ·simp only [h,if_true] <;> omega
   ·simp only [h,if_false] <;> omega
 ·cases hi with
  | none=>simp [sliceBounds,HT.sIx]
  | some i =>
   simp only [sliceBounds,HT.sIx,Option.getD_none,show (1:Int) > 0 by decide,if_true]
   by_cases h:i < 0
   ·simp only [h,if_true] <;> omega
   ·simp only [h,if_false] <;> omega
theorem QjQ (its:List Value) (lo hi:Option Int):slicePick its.toArray lo hi none=((its.drop (HT.sIx its.length 0 lo)).take (HT.sIx its.length its.length hi - HT.sIx its.length 0 lo)).toArray:=by
 obtain ⟨h1,h2,h3⟩:=Qhi lo hi its.toArray.size;unfold slicePick;rw [h1,h2,h3]
 simp only [sliceRange_one,pick_run,zp] <;> rfl
def QuD (K:PySem.W.Frag):V→Option Int→Option Int→Hp→VK→Prop:=fun x lo hi H Q=>∃a xs,x = .ref a∧SqL K H a xs∧∀p,H p=none→Q (.ref p) (upd H p (.lst (QgE xs lo hi)))
theorem QqU:SlR X (QuD X.K):=by
 intro pins s σ H x v vl vu lo hi sl Q I rx hs pl pu h;obtain ⟨a,xs,rfl,hx,q⟩:=h;cases rx;obtain ⟨its,r,ht,hz⟩:=I.list hx;have hlen:=r.length;refine ⟨"list",_,slot_list_getitem.lookup,ht.isList.typeIs,?_⟩;refine wpAny_getItem_list_slice ht.isList hs pl pu .none (by simp) ?_ (by rw [zp] <;> omega);rw [QjQ,←hlen];refine ⟨.ref s.heap.objs.size,_,I.laid (t':=s.toks) (o:=.lst (QgE xs lo hi)) (fun b ob q=>zf _ q) (zc _) ?_,rfl,q _ (I.hok.fresh (zc _))⟩;exact ⟨zz (QhU xs lo hi) hz,_,0,(r.drop (HT.sIx xs.length 0 lo)).take (HT.sIx xs.length xs.length hi - HT.sIx xs.length 0 lo),zD _ rfl⟩
def Qem:V→Bool
 | .non=>true
 | .bl _=>true
 | .int _=>true
 | .str _=>true
 | _=>false
def eqV:V→V→Bool
 | .non,.non=>true
 | .bl a,.bl b=>a == b
 | .bl a,.int b=>(if a then 1 else 0) == b
 | .int a,.bl b=>a == (if b then 1 else 0)
 | .int a,.int b=>a == b
 | .str a,.str b=>a == b
 | _,_=>false
theorem QrX {A:Around}{s:Shared}{y x:V}{u v:Value} (ry:RelV y u) (rx:RelV x v) (fy:Qem y=true) (fx:Qem x=true):SeqAt.EqAt A s u v (eqV y x):=by
 cases y with
 | non =>
  cases ry
  cases x with
  | non=>cases rx; exact SeqAt.EqAt.same _
  | bl b=>cases rx; exact SeqAt.EqAt.none_bool b
  | int b=>obtain ⟨t,rfl⟩:=rx; exact SeqAt.EqAt.none_int b t
  | str b=>obtain ⟨t,rfl⟩:=rx; exact SeqAt.EqAt.none_str b t
  | _=>exact absurd (show false=true from fx) zk
 | bl a =>
  cases ry
  cases x with
  | non=>cases rx; exact SeqAt.EqAt.bool_none a
  | bl b=>cases rx; exact SeqAt.EqAt.bool_bool a b
  | int b=>obtain ⟨t,rfl⟩:=rx; exact SeqAt.EqAt.bool_int a b t
  | str b=>obtain ⟨t,rfl⟩:=rx; exact SeqAt.EqAt.bool_str a b t
  | _=>exact absurd (show false=true from fx) zk
 | int a =>
  obtain ⟨t',rfl⟩:=ry
  cases x with
  | non=>cases rx; exact SeqAt.EqAt.int_none a t'
  | bl b=>cases rx; exact SeqAt.EqAt.int_bool a t' b
  | int b=>obtain ⟨t,rfl⟩:=rx; exact SeqAt.EqAt.int_int a t' b t
  | str b=>obtain ⟨t,rfl⟩:=rx; exact SeqAt.EqAt.int_str a t' b t
  | _=>exact absurd (show false=true from fx) zk
 | str a =>
  obtain ⟨t',rfl⟩:=ry
  cases x with
  | non=>cases rx; exact SeqAt.EqAt.str_none a t'
  | bl b=>cases rx; exact SeqAt.EqAt.str_bool a t' b
  | int b=>obtain ⟨t,rfl⟩:=rx; exact SeqAt.EqAt.str_int a t' b t
  | str b=>obtain ⟨t,rfl⟩:=rx; exact SeqAt.EqAt.str_str a t' b t
  | _=>exact absurd (show false=true from fx) zk
 | _=>exact absurd (show false=true from fy) zk
def eqU (x:V) (u:Value):Bool:=match u with
 | .none=>eqV .non x
 | .bool b=>eqV (.bl b) x
 | .int i _=>eqV (.int i) x
 | .str z _=>eqV (.str z) x
 | _=>false
theorem Qna {x y:V}{u:Value} (r:RelV y u) (f:Qem y=true):eqU x u=eqV y x:=by
 cases y with
 | non=>cases r; rfl
 | bl b=>cases r; rfl
 | int i=>obtain ⟨t,rfl⟩:=r; rfl
 | str z=>obtain ⟨t,rfl⟩:=r; rfl
 | _=>exact absurd (show false=true from f) zk
theorem Qi1 {x:V}:∀{xs:List V}{us:List Value},Qaz xs us→xs.all Qem=true→us.any (eqU x)=xs.any fun y=>eqV y x
 | _,_,.nil,_=>rfl
 | y::xs,u::us,.cons r t,f=>by
  rw [List.all_cons,zg] at f;rw [List.any_cons,List.any_cons,Qna r f.1,Qi1 t f.2]
theorem Qid {A:Around}{s:Shared}{x:V}{v:Value} (rx:RelV x v) (fx:Qem x=true):∀{xs:List V}{us:List Value},Qaz xs us→xs.all Qem=true→∀u∈us,SeqAt.EqAt A s u v (eqU x u)
 | _,_,.nil,_=>fun u hu=>by cases hu
 | y::xs,u::us,.cons r t,f=>fun u' hu=>by
  rw [List.all_cons,zg] at f
  rcases zj.mp hu with rfl | hu
  ·rw [Qna r f.1]; exact QrX r rx f.1 fx
  ·exact Qid rx fx t f.2 u' hu
def inV (x:V) (xs:List V):Bool:=xs.any fun y=>eqV y x
def rIn (K:PySem.W.Frag) (neg:Bool):R2:=fun x y H Q=>∃p xs,y = .ref p∧(SqL K H p xs∨SqT K H p xs)∧Qem x=true∧xs.all Qem=true∧Q (.bl (if neg then !inV x xs else inV x xs)) H
theorem Qm0:OpR X (compareOp .In) (rIn X.K false):=by
 intro pins s σ H x y v u Q I rx ry h;obtain ⟨p,xs,rfl,hq,fx,fs,q⟩:=h;cases ry
 rcases hq with hq | hq
 ·obtain ⟨its,r,pl,hz⟩:=I.list hq;refine SeqAt.in_listAt (eqU x) pl.isList (fun w hw=>Qid rx fx r fs w (by simpa using hw)) ⟨.bl _,H,I,rfl,?_⟩;rw [show its.toArray.any (eqU x)=its.any (eqU x) by simp,Qi1 r fs];exact q
 ·obtain ⟨its,r,pl,hz⟩:=I.tuple hq;refine SeqAt.in_tupleAt (eqU x) pl (fun w hw=>Qid rx fx r fs w (by simpa using hw)) ⟨.bl _,H,I,rfl,?_⟩;rw [show its.toArray.any (eqU x)=its.any (eqU x) by simp,Qi1 r fs];exact q
theorem Qg6:QdK X (.type "list") (fun xs H Q=>∃p ys,xs = [.ref p]∧(SqL X.K H p ys∨SqT X.K H p ys)∧∀l,H l=none→Q (.ref l) (upd H l (.lst ys))):=by
 intro pins s σ H xs us Q I r h;obtain ⟨p,ys,rfl,hq,q⟩:=h;obtain ⟨u,rfl,rx⟩:=vals1 r;cases rx;have fin:∀(its:List Value),Qaz ys its→ys.length≤sizeLine→∀(h':Heap) (c':Nat),(∀b o',s.heap.get? b=some o'→h'.get? b=some o') →
   h'.get? s.heap.objs.size=some { cls:=.type "list",dict:=none,data:=.seq its.toArray c',slots:=#[] }→EP X pins σ Q (.ref s.heap.objs.size) { s with heap:=h' }:=fun its r' hz h' c' kp e =>
  ⟨.ref s.heap.objs.size,_,I.laid (t':=s.toks) kp (zc _) (show Qbh X.prog X.w _ h' _ (.lst ys) from ⟨hz,its,c',r',e⟩),rfl,q _ (I.hok.fresh (zc _))⟩
 rcases hq with hq | hq
 ·obtain ⟨its,r',pl,hz⟩:=I.list hq;have hlen:=r'.length;obtain ⟨o,ho,hc,n,hd⟩:=pl.isList;exact call_list_seq p (.inl rfl) ho hc hd (fun h' c' kp e=>fin its r' hz h' c' kp e) (by simp only [zp] <;> omega)
 ·obtain ⟨its,r',pl,hz⟩:=I.tuple hq;have hlen:=r'.length;obtain ⟨o,ho,hc,n,hd⟩:=pl;exact call_list_seq p (.inr rfl) ho hc hd (fun h' c' kp e=>fin its r' hz h' c' kp e) (by simp only [zp] <;> omega)
def tyV (K:PySem.W.Frag) (T:String) (x:V) (H:Hp):Prop:=match x with
 | .str _=>T = "str"
 | .int _=>T = "int"
 | .ref p=>(T = "list"∧∃xs,SqL K H p xs)∨(T = "tuple"∧∃o,K.lookup p=some o∧o.cls = .type "tuple"∧o.dict=none) ∨
   (T = "dict"∧((∃kvs,H p=some (.dK kvs))∨∃kvs,H p=some (.dT kvs)))∨(T = "set"∧∃S n,H p=some (.set S n))
 | _=>False
theorem Qrs {pins:List (Addr×Obj)}{σ:St}{H:Hp}{s:Shared}{T:String}{x:V}{v:Value} (I:Inv X pins σ H s) (r:RelV x v) (ty:tyV X.K T x H) :
  s.TypeIs v T∧∀a,v = .ref a→∃ob,s.heap.get? a=some ob∧ob.dict=none:=by
 cases x with
 | str z =>
  obtain ⟨t,rfl⟩:=r;cases (show T = "str" from ty);exact ⟨typeIs_str s z t,fun _ e=>nomatch e⟩
 | int i =>
  obtain ⟨t,rfl⟩:=r;cases (show T = "int" from ty);exact ⟨typeIs_int s i t,fun _ e=>nomatch e⟩
 | ref p =>
  cases r
  rcases ty with ⟨rfl,xs,hq⟩ | ⟨rfl,o,hk,hc,hd⟩ | ⟨rfl,hk⟩ | ⟨rfl,S,n,hk⟩
  ·obtain ⟨its,_,pl,_⟩:=I.list hq;refine ⟨pl.isList.typeIs,fun a e=>?_⟩;cases e;obtain ⟨o,n,e,c,hd,_⟩:=pl;exact ⟨o,e,hd⟩
  ·refine ⟨⟨o,I.kIn p o hk,hc⟩,fun a e=>?_⟩;cases e;exact ⟨o,I.kIn _ o hk,hd⟩
  ·have z:∃o,s.heap.get? p=some o∧o.ExactDict:=by
    rcases hk with ⟨kvs,hk⟩ | ⟨kvs,hk⟩
    ·obtain ⟨_,_,_,_,o,_,_,e,ex,_⟩:=I.hok p _ hk;exact ⟨o,e,ex⟩
    ·obtain ⟨_,_,_,_,o,_,_,e,ex,_⟩:=I.hok p _ hk;exact ⟨o,e,ex⟩
   obtain ⟨o,e,ex⟩:=z;refine ⟨⟨o,e,ex.1⟩,fun a e2=>?_⟩;cases e2;exact ⟨o,e,ex.2.1⟩
  ·obtain ⟨o,_,_,_,e,ex,_⟩:=I.hok p _ hk;refine ⟨⟨o,e,ex.1⟩,fun a e2=>?_⟩;cases e2;exact ⟨o,e,ex.2.1⟩
 | _=>exact False.elim ty
def tBM (K:PySem.W.Frag) (T:String) (r:V→List V→Hp→VK→Prop) (to:TE) (t:TA):TE:=fun σ H Q=>to σ H fun x H1=>tyV K T x H1∧t σ H1 fun xs H2=>r x xs H2 Q
variable {o e:Expr}{es:List Expr}{to:TE}{t:TA}{name:Str}{apos cpos:Pos}{T id:String}{r:V→List V→Hp→VK→Prop}
theorem Qul (pa:PlainAttrs T) (slot:Slot T name id) (hty:typeOf (.builtin id)=pure (.type "method_descriptor")) (hm:MtR X id r) (ho:PE X o to) (ha:PA X (e::es) t)
  (hbase:attributeBase o name X.env (eval o X.env)=eval o X.env:=by rfl)
  (hfew:((backTo cpos (starEach (e::es) X.env)).all (fun x=>!x.1)&&(backToKw cpos (keywordEach [] X.env)).all (fun x=>x.1.isSome)
   && decide ((e::es).length+([]:List Keyword).length+(if ([]:List Keyword).isEmpty then 0 else 1) < 30))=true:=by rfl)
  (hline:(apos.endLine == cpos.line)=true:=by rfl) (hs:starEach (e::es) X.env=(false,eval e X.env)::starEach es X.env:=by rfl) (hplain:(backTo cpos (starEach es X.env)).any (·.1)=false:=by rfl) :
  PE X (.Call (.Attribute o name apos) (e::es) [] cpos) (tBM X.K T r to t):=by
 intro pins s σ H Q I h;refine wpAny_Call_method_late hbase hfew hline rfl (thn (ho pins s σ H _ I h) fun v s1 ⟨x,H1,I1,r1,ty,q1⟩=>?_);obtain ⟨h1,h2⟩:=Qrs I1 r1 ty;refine ⟨T,id,pa,slot,hty,h1,h2,?_⟩;have hA:=ha cpos pins s1 σ H1 _ I1 q1;rw [hs] at hA ⊢;refine Calls.callWith_builtin (by show (false || (backTo cpos (starEach es X.env)).any (·.1))=false; rw [hplain] <;> rfl) (Calls.evalArgs_plain ?_)
 exact thn hA fun us s2 ⟨vs,H2,I2,r2,q2⟩=>hm pins s2 σ H2 x vs v us Q I2 r1 r2 q2
/- xs.append(e),list.index on a module's tuple .. are MtR facts of 06m -/
end
def MtM (X:Cx) (id:String) (r:V→List V→Hp→VK→Prop):Prop :=
 ∀(pins:List (Addr×Obj)) (s:Shared) (σ:St) (H:Hp) (x:V) (xs:List V) (v:Value) (us:List Value) (Q:VK),Inv X pins σ H s→RelV x v→Qaz xs us→r x xs H Q →
  wpAny (model X.prog X.w) X.A (call (.builtin id) (v::us)) (EP X pins σ Q) X.xe s
theorem Qaz.one:∀{x:V}{us:List Value},Qaz [x] us→∃u,us = [u]∧RelV x u
 | _,_,.cons r .nil=>⟨_,rfl,r⟩
theorem Qaz.two:∀{x y:V}{us:List Value},Qaz [x,y] us→∃u v,us = [u,v]∧RelV x u∧RelV y v
 | _,_,_,.cons r (.cons q .nil)=>⟨_,_,rfl,r,q⟩
theorem Qaz.zero:∀{us:List Value},Qaz [] us→us = []
 | _,.nil=>rfl
theorem Qaz.dropLast {xs:List V}{us:List Value} (h:Qaz xs us):Qaz xs.dropLast us.dropLast:=by
 induction h with
 | nil=>exact .nil
 | cons r t ih =>
  cases t with
  | nil=>exact .nil
  | cons q t'=>exact .cons r ih
theorem Qaz.reverse {xs:List V}{us:List Value} (h:Qaz xs us):Qaz xs.reverse us.reverse:=by
 induction h with
 | nil=>exact .nil
 | cons r t ih=>rw [List.reverse_cons,List.reverse_cons]; exact Qaz.append ih (.cons r .nil)
theorem Qaz.rep {xs:List V}{us:List Value} (h:Qaz xs us):∀k:Nat,Qaz (List.replicate k xs).flatten (List.replicate k us).flatten
 | 0=>.nil
 | k+1=>by
  rw [List.replicate_succ,List.replicate_succ,List.flatten_cons,List.flatten_cons];exact Qaz.append h (Qaz.rep h k)
theorem foldl_rep (its:List Value):∀(k:Nat) (acc:List Value),
  List.foldl (fun x1 x2=>x1++x2) acc.toArray (List.replicate k its.toArray)=(acc++(List.replicate k its).flatten).toArray
 | 0,acc=>by simp
 | k+1,acc=>by
  have e:acc.toArray++its.toArray=(acc++its).toArray:=by simp
  have e2:(acc++its)++(List.replicate k its).flatten=acc++(List.replicate (k+1) its).flatten:=by
   rw [List.replicate_succ,List.flatten_cons,zZ]
  rw [←e2,←foldl_rep its k (acc++its),←e,List.replicate_succ,List.foldl_cons]
section
variable {X:Cx}{pins:List (Addr×Obj)}{σ:St}{H:Hp}{s:Shared}{l b:Addr}{xs ys zs:List V}
theorem Inv.lset {its its':List Value}{n:Nat}{f:Array Value→Array Value}{t':Nat} (I:Inv X pins σ H s) (hH:H l=some (.lst xs))
  (e:s.heap.get? l=some { cls:=.type "list",data:=.seq its.toArray n }) (hf:f its.toArray=its'.toArray) (hv:Qaz ys its') (hz:ys.length≤sizeLine) :
  Inv X pins σ (upd H l (.lst ys)) { s with heap:=s.heap.update l (Obj.mapSeq f),toks:=t' }:=by
 have q:=PySem.IsL.update e f;rw [hf] at q;refine I.write (x:=l) (e:=l) (by rw [hH]; exact trivial) (.inl rfl) (fun b' u hb hu=>(zY s.heap (Obj.mapSeq f) (Ne.symm hb)).trans hu) ⟨_,q⟩ ?_;exact ⟨hz,its',_,hv,q⟩
theorem Inv.lnew {its:List Value}{t':Nat} (I:Inv X pins σ H s) (hv:Qaz ys its) (hz:ys.length≤sizeLine) :
  Inv X pins σ (upd H s.heap.objs.size (.lst ys)) { s with heap:=s.heap.push { cls:=.type "list",data:=.seq its.toArray },toks:=t' } :=
 I.laid (fun _ _ q=>zf _ q) (zc _) ⟨hz,its,0,hv,zD _ rfl⟩
theorem Inv.fresh (I:Inv X pins σ H s):H s.heap.objs.size=none:=I.hok.fresh (zc _)
theorem Inv.lstM (I:Inv X pins σ H s) (hH:H l=some (.lst xs)):xs.length≤sizeLine∧∃(its:List Value) (n:Nat),Qaz xs its∧xs.length=its.length∧s.heap.get? l=some { cls:=.type "list",data:=.seq its.toArray n }:=by
 obtain ⟨z,its,n,r,e⟩:=I.hok l _ hH;exact ⟨z,its,n,r,r.length,e⟩
theorem Qh8 {n:Nat} (h:n≤sizeLine):Builtin.List.listTooLong n=false:=by
 unfold Builtin.List.listTooLong;exact zm (by omega)
end
section
variable {X:Cx}
def QpX:V→List V→Hp→VK→Prop:=fun x vs H Q=>∃l xs y,x = .ref l∧vs = [y]∧H l=some (.lst xs)∧xs.length < sizeLine∧Q .non (upd H l (.lst (xs ++ [y])))
theorem QnD:MtM X "list.append" QpX:=by
 intro pins s σ H x vs v us Q I rx rv h;obtain ⟨l,xs,y,rfl,rfl,hH,hz,q⟩:=h;cases rx;obtain ⟨u,rfl,ru⟩:=rv.one;obtain ⟨z,its,n,r,hl,e⟩:=I.lstM hH;refine call_meets F.slot_list_append ⟨_,e,rfl⟩ F.entry_list_append (F.args_list_append_2 _ _) (PySem.list_append l its.toArray n u (by rw [zp]; omega)) ⟨e,?_⟩;refine ⟨.non,_,I.lset (its':=its ++ [u]) hH e (by simp) (r.append (.cons ru .nil)) ?_,rfl,q⟩;rw [zx,jg];omega
theorem len_rep {α:Type} (xs:List α) (k:Nat):(List.replicate k xs).flatten.length=k * xs.length:=by
 induction k with
 | zero=>simp
 | succ k ih=>rw [List.replicate_succ,List.flatten_cons,zx,ih,Nat.succ_mul,Nat.add_comm]
end
section
variable {prog:Program}{w:World}{A:Around}{E:Value→Shared→Prop}{s:Shared}
theorem QlV {a c n:Nat} (hac:a≤c) (hc:c≤n):sliceBounds (some (a:Int)) (some (c:Int)) none n=((a:Int),(c:Int),1):=by
 simp only [sliceBounds,Option.getD_none]
 have h1:¬((a:Int) < 0):=by omega
 have h2:¬((c:Int) < 0):=by omega
 simp only [h1,h2,if_false,show (1:Int) > 0 by decide,if_true];congr 1
 ·omega
 ·congr 1; omega
set_option maxRecDepth 100000 in
theorem Qrm {l b sl:Addr}{items new:Array Value}{n n2:Nat}{vl vu:Value}{a c:Nat}{Q:Unit→Shared→Prop}
  (e:s.heap.get? l=some { cls:=.type "list",data:=.seq items n }) (e2:s.heap.get? b=some { cls:=.type "list",data:=.seq new n2 }) (hne:l≠b)
  (hs:s.heap.IsSliceOf sl vl vu .none) (pl:IsPart vl (some (a:Int))) (pu:IsPart vu (some (c:Int))) (hac:a≤c) (hc:c≤items.size)
  (hsz:items.size+new.size≤sizeLine) (h:Q () { s with heap:=s.heap.update l (Obj.mapSeq fun xs=>xs.extract 0 a++new++xs.extract c xs.size) }) :
  wpAny (model prog w) A (setItem (.ref l) (.ref sl) (.ref b)) Q E s:=by
 have hl:s.heap.IsList l items:=PySem.IsL.isList e;have hb:s.heap.IsList b new:=PySem.IsL.isList e2;obtain ⟨os,hos,hcs,hds⟩:=id hs;have hTs:s.TypeIs (.ref sl) "slice":=⟨os,hos,hcs⟩;have hstep:¬((rawPart none == rawInt 0)=true):=zk
 have hsame:Builtin.List.listSameRef (.ref l) (.ref b)=false:=by
  unfold Builtin.List.listSameRef;exact beq_eq_false_iff_ne.mpr hne
 have hmax:(max (a:Int) (c:Int)).toNat=c:=by omega
 have hz':((fun xs:Array Value=>xs.extract 0 a++new++xs.extract c xs.size) items).size≤sizeLine+1:=by
  simp only [Array.size_append,Array.size_extract];omega
 unfold setItem
 try with_reducible refine zC ?_
 first | refine za (zb ?_) | skip
 refine za (wpAny_sequenceKey hl.typeIs (by decide) ?_)
 refine za (wpAny_callSpecial?_slot (name:=Str.ofString "__setitem__") hl.typeIs slot_list_setitem
  (wpAny_call_entry slot_list_setitem hl.typeIs entry_list_setitem ?_ (args_list_setitem _ _ _)))
 show wpAny _ _ (Builtin.List.listSubscript? (.ref sl) >>= _) _ _ s;refine za ?_;unfold Builtin.List.listSubscript?;refine za (wpAny_specialOf hTs slice_no_index ?_);simp only [Option.isNone_none,if_true];refine zb ?_;show wpAny _ _ (typeOf (.ref sl) >>= _) _ _ s;refine za (wpAny_typeOf hTs ?_)
 first
  | rw [if_neg (by decide)]
  | refine PySem.W.KFB.if_not (by decide) ?_
 rw [listSliceParts_eq];refine za (za (wpAny_field hos hds (x:=.none) rfl (za (wpAny_listPart .none ?_))));rw [if_neg hstep];refine za (wpAny_field hos hds (x:=vl) rfl (za (wpAny_listPart pl ?_)));refine za (wpAny_field hos hds (x:=vu) rfl (za (wpAny_listPart pu (zb ?_))))
 first
  | simp only [hsame,Bool.false_eq_true,if_false]
  | refine PySem.W.KFB.if_not hsame ?_
  | (dsimp only
     rw [if_neg (by rw [hsame]; exact zk)])
 refine za (m:=Builtin.List.listAllItems (.ref b) "must assign iterable to extended slice") ?_;unfold Builtin.List.listAllItems;refine za (wpAny_typeOf hb.typeIs ?_)
 first
  | refine PySem.W.KFB.if_so (by decide) ?_
  | rw [if_pos (by decide)]
  | simp only [beq_self_eq_true,Bool.true_or,if_true]
 unfold Builtin.List.listItems;refine za (wpAny_seqItems e2 rfl (zb ?_));refine za (za (wpAny_seqItems e rfl (zb ?_)));refine za (zW ((sliceIndices_raw (some (a:Int)) (some (c:Int)) none items.size (by simp)).trans (congrArg (pure:Int×Int×Int→Sem (Int×Int×Int)) (QlV hac hc))) ?_);show wpAny _ _ (if ((1:Int) == 1)=true then _ else _) _ _ s;rw [if_pos (by decide)];refine za (zT ?_)
 first
  | simp only [Qh8 hsz,Bool.false_eq_true,if_false]
  | refine PySem.W.KFB.if_not (Qh8 hsz) ?_
 first | refine za (zb ?_) | skip
 show wpAny _ _ (updateSeq l (fun xs=>xs.extract 0 ((a:Int)).toNat++new++xs.extract (max (a:Int) (c:Int)).toNat xs.size) >>= _) _ _ s;rw [hmax,Int.toNat_natCast];refine za (wpAny_updateSeq (hz:=zz (Nat.le_add_right _ _) hsz) (_hz':=hz') e rfl ?_);refine za (wpAny_letGo ?_)
 first
  | exact za (zb (zb ⟨.none,rfl,zb h⟩))
  | exact zb ⟨.none,rfl,zb h⟩
end
section
variable {X:Cx}
end
end L2
namespace Att
open PySem PySem.W PySem.Calls PyProof.Rows
theorem Qiy {P:Params}{h:Heap}:∀(ns:List Int) (vs:List Value),WellAll P h vs (ns.map WData.int)→IntsAre vs ns:=by
 intro ns
 induction ns with
 | nil =>
  intro vs w;rw [jc] at w;cases w;exact .nil
 | cons n ns ih =>
  intro vs w;rw [ze] at w
  cases w with
  | cons a b =>
   cases a;exact .cons _ _ (ih _ b)
theorem Qm4 {l:OpenLaw}{n:Nat} (hn:l.most=some n) {P:Params}{h:Heap}{args:List WData}{vals:List Value}
  (hpre:l.row.toRowW.claim.pre args=true) (hwl:WellAll P h vals args) :
  ∃a vs ns,vals = [Value.ref a]∧args = [WData.list (ns.map WData.int)]∧h.get? a=some { cls:=.type "list",data:=.seq vs.toArray }∧IntsAre vs ns∧ns.length≤n:=by
 have hsh:WShape.hasAll [] args [.list .int]=true:=(pre_splitW hpre).1;have hc:l.pre.holds [] { args:=args }=true:=(pre_splitW hpre).2;obtain ⟨d,r,rfl,h1,h2⟩:=hasAllW_cons hsh;obtain rfl:=hasAllW_nil h2;obtain ⟨xs,rfl,h3⟩:=hasW_list h1;obtain ⟨ns,rfl⟩:=items_int h3
 have hlen:ns.length≤n:=by
  unfold OpenLaw.pre at hc
  have h4:(WTm.not (.lt (.lit (.int (n:Int))) (.len (.arg 0)))).holds [] { args:=[.list (ns.map .int)] }=true:=by
   have h4:=(holds_andW hc).1;rw [hn] at h4;exact h4
  have h5:=condW_of h4 (w_not (w_lt w_lit (w_len_list (w_arg rfl))));rw [zo] at h5
  refine Nat.le_of_not_lt fun q=>?_
  have q':(n:Int) < ((ns.length:Nat):Int):=by omega
  first
   | (rw [zh q'] at h5; exact absurd h5 (by decide))
   | (simp at h5; omega)
 cases hwl with
 | cons w1 w2 =>
  cases w2
  cases w1 with
  | list ho hall=>exact ⟨_,_,ns,rfl,rfl,ho,Qiy ns _ hall,hlen⟩
theorem QnV (l:OpenLaw) (args:List WData):l.row.toRowW.claim.post args (.bool true) args=true :=
 postW_of (r:=l.row.toRowW) (X:=(true == true))
  (show WShape.has [] (.bool true) .bool=true by first | rfl | decide | simp [WShape.has,WShape.arms,WShape.armsAll])
  (show (WTm.eq .res (.lit (.bool true))).value [] { args:=args,res:=some (.bool true),after:=args }=some (.bool (true == true)) from w_eq_bool (w_res rfl) w_lit) rfl
theorem attach_call {l:OpenLaw}{n:Nat}{q:Program}{loose:List Str}{XP:(Str→Option Value)→Heap→Prop}{YP:World→Heap→Prop}{d:DefRec}
  (hn:l.most=some n) (hdf:d.params.defaults = [])
  (call:∀(w:World) (s₀ s₁:Shared) (mg mb:Str→Option Value) (fa:Addr) (o:Obj) (pm cd doc:Value) (a:Addr) (vs:List Value) (ns:List Int),
   Ground q loose [] XP w s₀ mg mb s₁.heap→YP w s₁.heap →
   s₁.heap.get? fa=some o→o.data = .func (docDef d.name d.params d.body d.scope pm cd doc)→s₁.heap.CodeRec cd d.name→mg d.name=some (.ref fa) →
   s₁.heap.get? a=some { cls:=.type "list",data:=.seq vs.toArray }→IntsAre vs ns→ns.length≤n→s₁.gens = #[] →
   codeAny (model l.prog w) callerA (.call (.ref fa) ⟨[.ref a],[]⟩) (fun r s'=>r = .ok (.ret (.bool true))∧OldK s₁.heap s'.heap∧s'.os=s₁.os∧AllBare s'.gens) s₁) :
  WalkO q loose XP YP l.row.toRowW d [] (fun f vs=>PySem.call f vs):=by
 intro w s₀ s₁ mg mb G Y fa o pm cd doc dV kV ho hd hcd hD hmg hg args vals as hpre hlay hrd hwl hlo;obtain rfl:dV = .none:=Dflts.none hD hdf;obtain rfl:kV = .none:=Dflts.noKw hD;obtain ⟨a,vs,ns,rfl,rfl,hobj,hints,hlen⟩:=Qm4 hn hpre hwl;refine enter_call (codeAny_mono (call w s₀ s₁ mg mb fa o pm cd doc a vs ns G Y ho (fd_plain hd) hcd hmg hobj hints hlen hg) fun r s' hq=>?_);obtain ⟨rfl,h2,h3,h4⟩:=hq;exact ⟨.inl ⟨.bool true,.bool true,[],rfl,fun _=>rfl,.bool true,QnV l _,fun _=>⟨List.Pairwise.nil,fun _ hm=>(nomatch hm)⟩⟩,h2,h3,h4⟩
section
variable {prog:Program}{w:World}{A:Around}{E:Value→Shared→Prop}{s:Shared}{K:Frag}
end
end Att
namespace L2
open PySem PySem.Spec PyProof.Rows
theorem Qhp:∀{vs:List Value}{ns:List Int},IntsAre vs ns→Qaz (ns.map V.int) vs
 | _,_,.nil=>.nil
 | _,_,.cons n t h=>.cons ⟨t,rfl⟩ (Qhp h)
def Qh6 (H:Hp):Prop:=∀b,H b=none∨∃o xs,H b=some (.frz o (.lst xs))
theorem Qpl {P:Program}{w:World}{K:PySem.W.Frag}{mg mb:Str→Option Value}{CX:CXT}{k:Nat}{fa a:Addr}{fd:FuncData}{x:Str}{sp:Sp}{s₁:Shared}{vs:List Value}{ns:List Int}
  (KX:K.In s₁.heap) (hns:s₁.heap.Ns mainGlobals mg) (hb:s₁.heap.Ns builtinsNs mb) (hbb:∀x:Str,x≠"__name__"→mb x=bootBuiltins x) (hlim:s₁.heap.NoLimit) (hg:s₁.gens = #[])
  (ha:s₁.heap.get? a=some { cls:=.type "list",data:=.seq vs.toArray }) (hi:IntsAre vs ns) (hl:ns.length≤sizeLine) (hr:QaR k callerA)
  (F:∀base:Heap,K.In base→base.Ns mainGlobals mg→QbB P w K mg base CX k fa fd [x] sp) (hbind:∀(s:Shared) (u:Value),BindsTo s fd ⟨[u],[]⟩ [(x,u)])
  (hsp:∀H:Hp,Qh6 H→SqL K H a (ns.map V.int)→sp [.ref a] H (fun v _=>v = .bl true) fun _ _ _=>False)
  (hCX:∀H e s',CX [] H s₁ (fun _ _ _=>False) e s'→False) :
  codeAny (model P w) callerA (.call (.ref fa) ⟨[.ref a],[]⟩) (fun r s'=>r = .ok (.ret (.bool true))∧OldK s₁.heap s'.heap∧s'.os=s₁.os∧AllBare s'.gens) s₁:=by
 have rv:=Qhp hi;have lenV:=hi.length;have core:∀H:Hp,Qh6 H→SqL K H a (ns.map V.int)→HOk P w H s₁.heap→(∀b,H b≠none→b=a)→(H a≠none→K.lookup a=none) →
   codeAny (model P w) callerA (.call (.ref fa) ⟨[.ref a],[]⟩) (fun r s'=>r = .ok (.ret (.bool true))∧OldK s₁.heap s'.heap∧s'.os=s₁.os∧AllBare s'.gens) s₁:=by
  intro H hO hS hok hA hK
  have base_of:∀{b:Addr}{o:Obj},s₁.heap.get? b=some o→H b=none→(QdV s₁.heap H).get? b=some o:=fun e n=>QkQ e n
  have noA:∀{b:Addr}{o:Obj}{es:Array DictEntry}{ep:Nat},s₁.heap.get? b=some o→o.data = .dict es ep→H b=none:=fun {b o es ep} e d=>by
   cases q:H b with
   | none=>rfl
   | some u =>
    have e':b=a:=hA b (by rw [q]; simp);subst e';rw [ha] at e; cases e;have d':Data.seq vs.toArray _=Data.dict es ep:=d;cases d'
  have nsK:∀{b:Addr}{m:Str→Option Value},s₁.heap.Ns b m→(QdV s₁.heap H).Ns b m:=fun {b m} ⟨o,es,ep,e,d,r⟩=>⟨o,es,ep,base_of e (noA e d),d,r⟩
  have hKb:K.In (QdV s₁.heap H):=fun b o e=>base_of (KX b o e) (by
   cases q:H b with
   | none=>rfl
   | some u =>
    have e':b=a:=hA b (by rw [q]; simp);subst e'
    rw [hK (by rw [q]; simp)] at e; cases e)
  have hM:Mod K mg (QdV s₁.heap H):=⟨hKb,nsK hns,⟨mb,nsK hb,hbb⟩,let ⟨mc,h1,h2⟩:=hlim; ⟨mc,nsK h1,h2⟩⟩;have e0:QeH P w K mg (QdV s₁.heap H) callerA [] s₁ H:=⟨rfl,hM,fun b o e=>QlF e,Nat.le_of_eq (Qjr _ _),trivial,fun b hb=>absurd (show b∈([]:List Addr) from hb) (by simp),hok,.of_eq hg⟩
  refine codeAny_mono ((F _ hKb (nsK hns)).run callerA [] s₁ H ⟨[.ref a],[]⟩ [.ref a] [.ref a] _ _ hr e0 (hbind s₁ (.ref a)) (.cons rfl .nil) (hsp H hO hS)) fun r s' h=>?_
  cases r with
  | error e=>exact (hCX H e s' h).elim
  | ok fl =>
   cases fl with
   | next=>exact False.elim h
   | brk=>exact False.elim h
   | cont=>exact False.elim h
   | ret u =>
    obtain ⟨v,H',os,bare,un,hok',r',q⟩:=h;have q':v = .bl true:=q;subst q';obtain rfl:u=Value.bool true:=r';refine ⟨rfl,OldK.of_keep fun b o e=>?_,os,bare⟩
    cases q:H b with
    | none=>exact un.keep b o e q (by intro z; exact absurd (show b∈([]:List Addr) from z) (by simp)) (by simp)
    | some u =>
     rcases hO b with z | ⟨ob,xs,z⟩
     ·rw [q] at z; cases z
     ·have z2:=un.frzs b ob _ z;obtain ⟨e1,_⟩:=hok b _ z;obtain ⟨e2,_⟩:=hok' b _ z2;rw [e] at e1; cases e1;exact e2
 cases hk:K.lookup a with
 | some o =>
  have e:=KX a o hk;rw [ha] at e;cases e
  refine core (fun _=>none) (fun _=>.inl rfl) (.inr ⟨_,vs.toArray,_,hk,rfl,rfl,rfl,by rw [zp,lenV]; exact hl,by simpa using rv⟩) (fun b u z=>by have z':(none:Option HO)=some u:=z; cases z') (fun b z=>absurd rfl z) fun z=>absurd rfl z
 | none =>
  refine core (fun b=>if b=a then some (.frz { cls:=.type "list",data:=.seq vs.toArray } (.lst (ns.map V.int))) else none) (fun b=>?_) (.inl (.inr ⟨{ cls:=.type "list",data:=.seq vs.toArray },if_pos rfl⟩)) (fun b u z=>?_) (fun b z=>?_) fun _=>hk
  ·by_cases hb:b=a
   ·exact .inr ⟨_,_,if_pos hb⟩
   ·exact .inl (if_neg hb)
  ·by_cases hb:b=a
   ·have z':=(if_pos hb).symm.trans z;cases z';subst hb;exact ⟨ha,by rw [zo]; exact hl,vs,_,rv,ha⟩
   ·have z':=(if_neg hb).symm.trans z;cases z'
  ·by_cases hb:b=a
   ·exact hb
   ·exact absurd (if_neg hb) z
abbrev KOf {K:PySem.W.Frag}{h:Heap} (_:K.In h):PySem.W.Frag:=K
theorem walk_of {l:PySem.W.OpenLaw}{n k:Nat}{q:Program}{loose:List Str}{XP:(Str→Option Value)→Heap→Prop}{YP:World→Heap→Prop}{d:DefRec}{K:Params→PySem.W.Frag}{CX:World→CXT}{sp:World→Sp}{x:Str}
  (hn:l.most=some n) (hn2:n≤sizeLine) (hdf:d.params.defaults = []) (hr:QaR k callerA)
  (hY:∀(w:World) (h:Heap),YP w h→(K w.params).In h)
  (F:∀(w:World) (mg:Str→Option Value) (fa:Addr) (h:Heap),(K w.params).In h→h.Ns mainGlobals mg→mg d.name=some (.ref fa) →
   ∃fd:FuncData,(∀(s:Shared) (u:Value),BindsTo s fd ⟨[u],[]⟩ [(x,u)]) ∧
    ∀base:Heap,(K w.params).In base→base.Ns mainGlobals mg→QbB l.prog w (K w.params) mg base (CX w) k fa fd [x] (sp w))
  (hsp:∀(w:World) (H:Hp) (a:Addr) (ns:List Int),ns.length≤n→Qh6 H→SqL (K w.params) H a (ns.map V.int)→sp w [.ref a] H (fun v _=>v = .bl true) fun _ _ _=>False)
  (hCX:∀(w:World) (H:Hp) (s:Shared) (e:Value) (s':Shared),CX w [] H s (fun _ _ _=>False) e s'→False) :
  PySem.W.WalkO q loose XP YP l.row.toRowW d [] (fun f vs=>PySem.call f vs):=by
 refine Att.attach_call hn hdf fun w s₀ s₁ mg mb fa o pm cd doc a vs ns G Y ho hd hcd hmg hobj hints hlen hg=>?_
 have KX:=hY w _ Y;obtain ⟨fd,hb,hF⟩:=F w mg fa _ KX G.T.g hmg
 exact Qpl KX G.T.g G.T.b G.T.builtins G.T.nolimit hg hobj hints (zz hlen hn2) hr hF hb (fun H hO hS=>hsp w H a ns hlen hO hS) fun H e s'=>hCX w H s₁ e s'
end L2
/- THE LAST THEOREM (shape; LID,My.* are yours):
   My.Adr: a structure of the addresses that your layer names (classes,functions); My.Txt K t: a structure (Prop) of the equations over K;
   My.txt_mk:{K}{implicit addresses ..} (e1:nsIn K mainGlobals "law" = some (some (.ref f))) (e2:K.lookup f=some ⟨oc,od,.func (fnOf "law" "law" params body scope dV kV doc pm an cdv ct),sl⟩) (e3:codeIn K cdv "law" = true) ..:∃t,My.Txt K t
set_option maxRecDepth 100000 in
set_option maxHeartbeats 0 in
theorem PySem.Challenge.cw_LID_holds : PySem.Challenge.rw_LID.Holds := by
 w_on; o_law; k_head; (case hw=>w_witness2)
 k_fill
 refine L2.walk_of (l:=PySem.Challenge.rw_LID) (n:=63) (k:=40) (x:="script") (CX:=fun w=>..) (sp:=fun _=>My.sp_law) rfl (by decide) rfl ⟨rfl,by decide,by decide⟩ (fun w h Y=>PySem.W.kIn_of Y) ?F ?S ?C
 case F =>
  intro w mg fa h KX G hmg
  have T:∃t,My.Txt (L2.KOf KX) t:=by
   dsimp only [L2.KOf]                          -- K must stand as «<heap const> w.params» for k_is
   refine' My.txt_mk ?e1 ?e2 ?e3 ..
   (case e1=>PySem.W.k_is)                    -- in the order: a name -> its address -> its object -> its parts
   (case e2=>PySem.W.k_is)
   ..
  obtain ⟨t,T⟩:=T;have e0:=hmg.symm.trans (PySem.W.mg_of KX G T.law);cases e0                                       -- fa is the law's own address
  exact ⟨_,fun s u=>.of_eq rfl,fun base kb nb=>My.law_fn T kb nb⟩     -- if «.of_eq rfl» comes too early: refine' ⟨_,?b,fun base kb nb=>My.law_fn T kb nb⟩; exact fun s u=>.of_eq rfl
 case S=>exact fun w H a ns hl hO hS=>..
 case C=>exact ..
(the tactic k_is has no namespace: write k_is) -/
namespace L2
open PySem PySem.Spec PyProof.Rows
def inClass (s:Stmt) (j:Nat):Stmt:=match s with
 | .ClassDef _ _ _ body _ _ _ _ _ _ _=>body.getD j (.Pass ⟨0,0,0,0⟩)
 | _=>.Pass ⟨0,0,0,0⟩
def QbU (s:Stmt):Arguments:=match s with
 | .FunctionDef _ a _ _ _ _ _ _ _ _=>a
 | _=>{ posonlyargs:=[],args:=[],vararg:=none,kwonlyargs:=[],kw_defaults:=[],kwarg:=none,defaults:=[] }
def Qa8 (s:Stmt):List Stmt:=match s with
 | .FunctionDef _ _ b _ _ _ _ _ _ _=>b
 | _=>[]
def Qao (s:Stmt):Scope:=match s with
 | .FunctionDef _ _ _ _ _ _ sc _ _ _=>sc
 | _=>{ kind:=.function,names:=[],isGenerator:=false,isCoroutine:=false }
abbrev CX0:CXT:=fun _ _ _ _ _ _=>False
abbrev E0:XK:=fun _ _ _=>False
theorem Qmy {X:Cx}:Qe9 CX0 X E0:=fun _ _ _ _ _ _ _ h=>h.elim
structure Fun (K:PySem.W.Frag) (x qual:Str) (st:Stmt) (f:Addr) (fd:FuncData):Prop where
 ex:∃(oc:Value) (od:Option Addr) (kV doc pm:Value) (an:Option Addr) (cdv ct:Value) (osl:Array (Option Value)),
  fd=PySem.W.fnOf x qual (QbU st) (Qa8 st) (Qao st) .none kV doc pm an cdv ct∧K.lookup f=some ⟨oc,od,.func fd,osl⟩∧PySem.W.codeIn K cdv qual=true
 kp:PySem.W.keepIn K (.ref f)=true
section
variable {P:Program}{w:World}{K:PySem.W.Frag}{mg:Str→Option Value}{base:Heap}
theorem Fun.ok {x qual:Str}{st:Stmt}{f:Addr}{fd:FuncData}{N ps:List Str}{k:Nat}{sp:Sp} (F:Fun K x qual st f fd) (S:QaO N ps (Qao st)) (len:∀vs H Q E,sp vs H Q E→vs.length=ps.length)
  (hbody:∀(cdv:Value) (A:Around) (outer:List Env) (s:Shared) (H:Hp) (vs:List V) (Q:VK) (E:XK),QaR k (A.deeper (envOfC qual (Qao st) s.heap.objs.size f cdv))→sp vs H Q E →
   ∃t,PSs (QcS CX0 P w K mg base N qual (Qao st) f cdv A outer s H E).nox (Qa8 st) t∧t { nx:=fun _ H'=>Q .non H',rt:=Q } (start N vs) H):QbB P w K mg base CX0 (k+1) f fd ps sp:=by
 obtain ⟨oc,od,kV,doc,pm,an,cdv,ct,osl,rfl,lk,hcd⟩:=F.ex
 refine QmK lk hcd S len fun A outer s H vs Q E hr hsp=>?_
 obtain ⟨t,h,q⟩:=hbody cdv A outer s H vs Q E hr hsp;exact ⟨t,h.nox,q⟩
theorem Fun.binds {x qual:Str}{st:Stmt}{f:Addr}{fd:FuncData}{ps:List Str} (F:Fun K x qual st f fd)
  (h:∀(kV doc pm:Value) (an:Option Addr) (cdv ct:Value) (us:List Value),us.length=ps.length→bindArgs (PySem.W.fnOf x qual (QbU st) (Qa8 st) (Qao st) .none kV doc pm an cdv ct) ⟨us,[]⟩=pure (ps.zip us)):Binds K fd ps []:=by
 obtain ⟨oc,od,kV,doc,pm,an,cdv,ct,osl,rfl,lk,hcd⟩:=F.ex;exact .all (h kV doc pm an cdv ct)
theorem QiF {x qual:Str}{st:Stmt}{f:Addr}{oc:Value}{od an:Option Addr}{osl:Array (Option Value)}{kV doc pm cdv ct:Value} (l:K.lookup f=some ⟨oc,od,.func (PySem.W.fnOf x qual (QbU st) (Qa8 st) (Qao st) .none kV doc pm an cdv ct),osl⟩)
  (c:PySem.W.codeIn K cdv qual=true) (k:PySem.W.keepIn K (.ref f)=true):Fun K x qual st f (PySem.W.fnOf x qual (QbU st) (Qa8 st) (Qao st) .none kV doc pm an cdv ct):=⟨⟨oc,od,kV,doc,pm,an,cdv,ct,osl,rfl,l,c⟩,k⟩
end
theorem Qtm {A:Around}{k:Nat} (hr:QaR k A):A.units+1 < cLine:=Nat.lt_of_le_of_lt (Nat.add_le_add_left (by decide:1≤64) _) hr.units
section
variable {X:Cx}
end
def Same (H H':Hp):Prop:=∀b o,H b=some o→H' b=some o
theorem Same.refl (H:Hp):Same H H:=fun _ _ h=>h
theorem Same.trans {H H1 H2:Hp} (a:Same H H1) (b:Same H1 H2):Same H H2:=fun c o h=>b c o (a c o h)
theorem Same.free {H H':Hp} (e:Same H H') {l:Addr} (h:H' l=Option.none):H l=Option.none:=by
 cases q:H l with
 | none=>rfl
 | some o =>
  rw [e l o q] at h;cases h
theorem Same.seq {K:PySem.W.Frag}{H H':Hp}{a:Addr}{xs:List V} (e:Same H H') (h:SqL K H a xs):SqL K H' a xs:=by
 rcases h with (h | ⟨o,h⟩) | h
 ·exact .inl (.inl (e _ _ h))
 ·exact .inl (.inr ⟨o,e _ _ h⟩)
 ·exact .inr h
section
variable {κ:Type} [DecidableEq κ]
def Qdk (kvs:List (κ×V)) (k:κ):Option V:=(kvs.find? fun kv=>decide (kv.1=k)).map (·.2)
def putK (kvs:List (κ×V)) (k:κ) (v:V):List (κ×V) :=
 if (kvs.any fun kv=>decide (kv.1=k))=true then kvs.map (fun kv=>if kv.1=k then (kv.1,v) else kv) else kvs ++ [(k,v)]
def QpP (kvs:List (κ×V)) (k:κ):List (κ×V):=kvs.filter fun kv=>decide (kv.1≠k)
theorem Qfj {p:κ×V}{r:List (κ×V)}{k:κ} (e:p.1=k):Qdk (p::r) k=some p.2:=by simp [Qdk,List.find?_cons,e]
theorem Qfo {p:κ×V}{r:List (κ×V)}{k:κ} (e:¬p.1=k):Qdk (p::r) k=Qdk r k:=by simp [Qdk,List.find?_cons,e]
theorem QkC (k:κ):∀kvs:List (κ×V),(kvs.any fun kv=>decide (kv.1=k))=(Qdk kvs k).isSome
 | []=>rfl
 | p::r=>by
  rw [List.any_cons]
  by_cases e:p.1=k
  ·simp only [Qfj e,zh e,Bool.true_or,Option.isSome_some]
  ·rw [Qfo e,zm e,Bool.false_or]; exact QkC k r
theorem QhR (kvs:List (κ×V)) (k:κ) (v:V):(putK kvs k v).length≤kvs.length+1:=by
 unfold putK
 split
 ·rw [zo]; omega
 ·rw [zx,zJ,List.length_nil]; omega
theorem Qc4.isSome_eq {o:Option V}{u:Option Value} (r:Qc4 o u):o.isSome=u.isSome:=by
 cases o with
 | none=>cases u with
  | none=>rfl
  | some _=>exact (show False from r).elim
 | some _=>cases u with
  | none=>exact (show False from r).elim
  | some _=>rfl
theorem Qc4.getD {o:Option V}{u:Option Value}{d:V}{d':Value} (r:Qc4 o u) (rd:RelV d d'):RelV (o.getD d) (u.getD d'):=by
 cases o with
 | none=>cases u with
  | none=>exact rd
  | some _=>exact (show False from r).elim
 | some _=>cases u with
  | none=>exact (show False from r).elim
  | some _=>exact r
theorem KV.val {kvs:List (κ×V)}{vs:List (κ×Value)} (r:KV kvs vs) (k:κ):Qc4 (Qdk kvs k) (valueAt vs k):=by
 unfold KV at r
 induction r with
 | nil=>exact True.intro
 | @cons p q ps qs h t ih =>
  obtain ⟨h1,h2⟩:=h
  by_cases e:p.1=k
  ·have e':q.1=k:=h1.symm.trans e
   have b:valueAt (q::qs) k=some q.2:=by simp [valueAt,List.find?_cons,e']
   rw [Qfj e,b]; exact h2
  ·have e':¬q.1=k:=fun z=>e (h1.trans z)
   have b:valueAt (q::qs) k=valueAt qs k:=by simp [valueAt,List.find?_cons,e']
   rw [Qfo e,b]; exact ih
theorem KV.any {kvs:List (κ×V)}{vs:List (κ×Value)} (r:KV kvs vs) (k:κ):(kvs.any fun kv=>decide (kv.1=k))=vs.any fun kv=>decide (kv.1=k):=by
 unfold KV at r
 induction r with
 | nil=>rfl
 | cons h t ih=>rw [List.any_cons,List.any_cons,ih,h.1]
theorem KV.repl {kvs:List (κ×V)}{vs:List (κ×Value)} (r:KV kvs vs) (k:κ) {y:V}{u:Value} (ry:RelV y u) :
  KV (kvs.map fun kv=>if kv.1=k then (kv.1,y) else kv) (vs.map fun kv=>if kv.1=k then (kv.1,u) else kv):=by
 unfold KV at r ⊢
 induction r with
 | nil=>exact .nil
 | @cons p q ps qs h t ih =>
  rw [ze,ze];refine .cons ?_ ih;obtain ⟨h1,h2⟩:=h
  by_cases e:p.1=k
  ·rw [if_pos e,if_pos (h1.symm.trans e)]; exact ⟨h1,ry⟩
  ·rw [if_neg e,if_neg (fun z=>e (h1.trans z))]; exact ⟨h1,h2⟩
theorem KV.put {kvs:List (κ×V)}{vs:List (κ×Value)} (r:KV kvs vs) (k:κ) {y:V}{u:Value} (ry:RelV y u):KV (putK kvs k y) (stored vs k u):=by
 unfold putK stored;rw [r.any k]
 by_cases e:(vs.any fun kv=>decide (kv.1=k))=true
 ·rw [if_pos e,if_pos e]; exact r.repl k ry
 ·rw [if_neg e,if_neg e]; exact Paired.snoc r ⟨rfl,ry⟩
theorem KV.drop {kvs:List (κ×V)}{vs:List (κ×Value)} (r:KV kvs vs) (k:κ):KV (QpP kvs k) (without vs k):=by
 unfold KV at r ⊢;unfold QpP without
 induction r with
 | nil=>exact .nil
 | @cons p q ps qs h t ih =>
  obtain ⟨h1,h2⟩:=h;rw [List.filter_cons,List.filter_cons]
  by_cases e:p.1=k
  ·have a:¬decide (p.1≠k)=true:=by simp [e]
   have b:¬decide (q.1≠k)=true:=by simp [h1.symm.trans e]
   rw [if_neg a,if_neg b]; exact ih
  ·have e':¬q.1=k:=fun z=>e (h1.trans z)
   have a:decide (p.1≠k)=true:=by simp [e]
   have b:decide (q.1≠k)=true:=by simp [e']
   rw [if_pos a,if_pos b]; exact .cons ⟨h1,h2⟩ ih
theorem KV.keys {kvs:List (κ×V)}{vs:List (κ×Value)} (r:KV kvs vs):kvs.map (·.1)=vs.map (·.1):=by
 unfold KV at r
 induction r with
 | nil=>rfl
 | cons h t ih=>rw [ze,ze,ih,h.1]
theorem KV.length {kvs:List (κ×V)}{vs:List (κ×Value)} (r:KV kvs vs):kvs.length=vs.length:=Paired.length r
end
theorem QpO {P:Program}{w:World}{k:Key}{u:Value} (r:RelV (kV k) u):(Qb5 P w).is k u=true:=by
 cases k with
 | inl i=>obtain ⟨t,e⟩:=(show ∃t,u=Value.int i t from r); subst e; exact Qk4 P w i t
 | inr x=>obtain ⟨t,e⟩:=(show ∃t,u=Value.str x t from r); subst e; exact Qk7 P w x t
theorem QjH {P:Program}{w:World}:∀{ks:List Key}{us:List Value},Qaz (ks.map kV) us→ItemsAre (Qb5 P w) ks us
 | [],_,r=>by rw [jc] at r; cases r; exact .nil
 | k::ks,_,r=>by
  rw [ze] at r
  cases r with
  | cons h t=>exact .cons (QpO h) (QjH t)
abbrev KT (H:Hp):List (List Key×V)→List (List Key×Addr×Value)→Prop:=Paired fun p q=>p.1=q.1∧H q.2.1=some (.tup (p.1.map kV))∧RelV p.2 q.2.2
theorem KT.val {H:Hp}{kvs:List (List Key×V)}{xs:List (List Key×Addr×Value)} (r:KT H kvs xs) (k:List Key):Qc4 (Qdk kvs k) ((atKey xs k).map (·.2)):=by
 induction r with
 | nil=>exact True.intro
 | @cons p q ps qs h t ih =>
  obtain ⟨h1,_,h2⟩:=h
  by_cases e:p.1=k
  ·have e':q.1=k:=h1.symm.trans e
   have b:atKey (q::qs) k=some q.2:=by simp [atKey,List.find?_cons,e']
   rw [Qfj e,b]; exact h2
  ·have e':¬q.1=k:=fun z=>e (h1.trans z)
   have b:atKey (q::qs) k=atKey qs k:=by simp [atKey,List.find?_cons,e']
   rw [Qfo e,b]; exact ih
theorem KT.repl {H:Hp}{kvs:List (List Key×V)}{xs:List (List Key×Addr×Value)} (r:KT H kvs xs) (k:List Key) {y:V}{u:Value} (ry:RelV y u) :
  KT H (kvs.map fun kv=>if kv.1=k then (kv.1,y) else kv) (xs.map (putAt k u)):=by
 induction r with
 | nil=>exact .nil
 | @cons p q ps qs h t ih =>
  rw [ze,ze];refine .cons ?_ ih;obtain ⟨h1,h2,h3⟩:=h;unfold putAt
  by_cases e:p.1=k
  ·rw [if_pos e,if_pos (h1.symm.trans e)]; exact ⟨h1,h2,ry⟩
  ·rw [if_neg e,if_neg (fun z=>e (h1.trans z))]; exact ⟨h1,h2,h3⟩
theorem KT.put {H:Hp}{kvs:List (List Key×V)}{xs:List (List Key×Addr×Value)} (r:KT H kvs xs) (k:List Key) {b:Addr}{y:V}{u:Value} (hb:H b=some (.tup (k.map kV))) (ry:RelV y u) :
  KT H (putK kvs k y) (storedH xs k b u):=by
 have e:(kvs.any fun kv=>decide (kv.1=k))=(atKey xs k).isSome:=by
  rw [QkC,(r.val k).isSome_eq,Option.isSome_map]
 unfold putK storedH;rw [e]
 by_cases q:(atKey xs k).isSome=true
 ·rw [if_pos q,if_pos q]; exact r.repl k ry
 ·rw [if_neg q,if_neg q]; exact Paired.snoc r ⟨rfl,hb,ry⟩
theorem KT.keeps {H H':Hp}{kvs:List (List Key×V)}{xs:List (List Key×Addr×Value)} (r:KT H kvs xs) (ht:∀b ys,H b=some (.tup ys)→H' b=some (.tup ys)):KT H' kvs xs :=
 Paired.mapP r fun _ _ z=>⟨z.1,ht _ _ z.2.1,z.2.2⟩
section
variable {P:Program}{w:World}{H:Hp}{h:Heap}{a:Addr}
theorem QpR {u:HO} (ok:HOk P w H h) (e:Rd H a u):Qbh P w H h a u:=e.ok ok
theorem Qt7 {kvs:List (Key×V)} (ok:HOk P w H h) (e:Rd H a (.dK kvs)):kvs.length≤sizeLine∧(a == sysModules)=false∧∃vs,KV kvs vs∧h.DictOf (Qb5 P w) a vs :=
 show Qbh P w H h a (.dK kvs) from QpR ok e
theorem QpF {kvs:List (Key×V)} (ok:HOk P w H h) (e:H a=some (.dK kvs)):kvs.length≤sizeLine∧(a == sysModules)=false∧∃vs,KV kvs vs∧h.DictOf (Qb5 P w) a vs:=Qt7 ok (.inl e)
theorem QnE {ks:List Key} (ok:HOk P w H h) (e:H a=some (.tup (ks.map kV))):(tupleKind (Qb5 P w)).is h ks a:=by
 obtain ⟨_,its,r,o,h1,h2,n,h3⟩:=(show Qbh P w H h a (.tup (ks.map kV)) from ok a _ e);exact ⟨o,its.toArray,n,h1,h2,h3,by simpa using QjH r⟩
theorem Quk {kvs:List (List Key×V)} (ok:HOk P w H h) (e:Rd H a (.dT kvs)):kvs.length≤sizeLine∧(a == sysModules)=false ∧
  ∃xs,KT H kvs xs∧h.DictOfH (tupleKind (Qb5 P w)) a xs:=by
 obtain ⟨z,y,xs,r,o,es,ep,h1,h2,h3,h4,h5⟩:=(show Qbh P w H h a (.dT kvs) from QpR ok e);refine ⟨z,y,xs,r,o,es,ep,h1,h2,h3,h4,fun x hx=>?_,h5⟩
 have all:∀{l:List (List Key×V)}{m:List (List Key×Addr×Value)},KT H l m→∀x∈m,(tupleKind (Qb5 P w)).is h x.1 x.2.1:=by
  intro l m q
  induction q with
  | nil=>intro x hx; exact nomatch hx
  | @cons p q ps qs hq t ih =>
   intro x hx
   rcases zj.mp hx with e | hx
   ·subst e;exact QnE ok (by rw [←hq.1]; exact hq.2.1)
   ·exact ih x hx
 exact all r x hx
theorem Qtp {kvs:List (List Key×V)} (ok:HOk P w H h) (e:H a=some (.dT kvs)):kvs.length≤sizeLine∧(a == sysModules)=false ∧
  ∃xs,KT H kvs xs∧h.DictOfH (tupleKind (Qb5 P w)) a xs:=Quk ok (.inl e)
end
def QmJ (H:Hp) (a:Addr) (y:V) (r:Option V):Prop :=
 (∃kvs k,Rd H a (.dK kvs)∧y=kV k∧r=Qdk kvs k)∨∃kvs k b,Rd H a (.dT kvs)∧y = .ref b∧H b=some (.tup (k.map kV))∧r=Qdk kvs k
def Qh9 (H:Hp) (a:Addr) (y v:V) (H':Hp):Prop :=
 (∃kvs k,H a=some (.dK kvs)∧y=kV k∧kvs.length < sizeLine∧H'=upd H a (.dK (putK kvs k v))) ∨
 ∃kvs k b,H a=some (.dT kvs)∧y = .ref b∧H b=some (.tup (k.map kV))∧kvs.length < sizeLine∧H'=upd H a (.dT (putK kvs k v))
theorem QmJ.k {H:Hp}{a:Addr}{kvs:List (Key×V)}{k:Key} (e:H a=some (.dK kvs)):QmJ H a (kV k) (Qdk kvs k):=.inl ⟨kvs,k,.inl e,rfl,rfl⟩
theorem QmJ.t {H:Hp}{a b:Addr}{kvs:List (List Key×V)}{k:List Key} (e:H a=some (.dT kvs)) (eb:H b=some (.tup (k.map kV))):QmJ H a (.ref b) (Qdk kvs k):=.inr ⟨kvs,k,b,.inl e,rfl,eb,rfl⟩
theorem Qh9.k {H:Hp}{a:Addr}{kvs:List (Key×V)}{k:Key}{v:V} (e:H a=some (.dK kvs)) (hl:kvs.length < sizeLine):Qh9 H a (kV k) v (upd H a (.dK (putK kvs k v))):=.inl ⟨kvs,k,e,rfl,hl,rfl⟩
theorem Qh9.t {H:Hp}{a b:Addr}{kvs:List (List Key×V)}{k:List Key}{v:V} (e:H a=some (.dT kvs)) (eb:H b=some (.tup (k.map kV))) (hl:kvs.length < sizeLine) :
  Qh9 H a (.ref b) v (upd H a (.dT (putK kvs k v))):=.inr ⟨kvs,k,b,e,rfl,eb,hl,rfl⟩
section
variable {X:Cx}{pins:List (Addr×Obj)}{σ:St}{H:Hp}{s:Shared}{a:Addr}{y v:V}{u r:Value}{o:Option V}{A:Around}{E:Value→Shared→Prop}
theorem Inv.big (I:Inv X pins σ H s):sysModules < s.heap.objs.size:=by
 have h:mainGlobals < s.heap.objs.size:=(I.mod.glob.keeps I.bk).lt;exact Nat.lt_trans (by decide) h
theorem Qlz {h':Heap}{t':Nat}{ob:HO} (I:Inv X pins σ H s) (mu:Mut (H a)) (hs:Heap.SameBut a s.heap h') (he:∃q,h'.get? a=some q) (new:Qbh X.prog X.w (upd H a ob) h' a ob) :
  Inv X pins σ (upd H a ob) { s with heap:=h',toks:=t' } :=
 I.write (x:=a) (e:=a) mu (.inl rfl) (fun b q hb z=>(hs.2 b hb).trans z) he new
theorem Qss {P:Program}{w:World}{H':Hp}{h':Heap}{kvs:List (Key×V)}{vs:List (Key×Value)} (z:kvs.length≤sizeLine) (hd:(a == sysModules)=false) (rel:KV kvs vs) (dd:h'.DictOf (Qb5 P w) a vs) :
  Qbh P w H' h' a (.dK kvs):=⟨z,hd,vs,rel,dd⟩
theorem Qno {H':Hp}{Q:Unit→Shared→Prop} (hu:A.units+1 < cLine) (I:Inv X pins σ H s) (g:Qh9 H a y v H') (ry:RelV y u) (rv:RelV v r) (h:∀s',Inv X pins σ H' s'→Q () s') :
  wpAny (model X.prog X.w) A (setItem (.ref a) u r) Q E s:=by
 rcases g with ⟨kvs,k,e,ey,l,eH⟩ | ⟨kvs,k,b,e,ey,eb,l,eH⟩
 ·subst ey eH;obtain ⟨z,hd,vs,rel,dd⟩:=QpF I.hok e
  have hz:vs.length≤sizeLine:=by rw [←rel.length]; exact z
  have hl:(putK kvs k v).length≤sizeLine:=by have:=QhR kvs k v; omega
  refine wpAny_setItem_pairs (hsz:=hz) (QpO ry) dd fun h' dd' hs=>h _ ?_
  have he:∃q,h'.get? a=some q:=let ⟨q,_,_,hq,_⟩:=dd'; ⟨q,hq⟩;exact Qlz I (by rw [e]; exact True.intro) hs he (Qss hl hd (rel.put k rv) dd')
 ·subst ey eH;cases (show u=Value.ref b from ry);obtain ⟨z,hd,xs,rel,dd⟩:=Qtp I.hok e
  have hz:xs.length≤sizeLine:=by rw [←Paired.length rel]; exact z
  have hl:(putK kvs k v).length≤sizeLine:=by have:=QhR kvs k v; omega
  refine wpAny_setItem_heap (hsz:=hz) (tupleKind_room_in1 hu) (QnE I.hok eb) dd fun h' dd' hs=>h _ ?_
  obtain ⟨q,es,ep,hq,h2,h3,h4,_,h5⟩:=dd';refine Qlz I (by rw [e]; exact True.intro) hs ⟨q,hq⟩ ⟨hl,hd,_,(rel.put k eb rv).keeps fun c ys ec=>?_,q,es,ep,hq,h2,h3,h4,h5⟩;rw [Qan (ne_of ec e (fun z=>nomatch z))];exact ec
end
section
variable {X:Cx}{pins:List (Addr×Obj)}{σ:St}{H:Hp}{s:Shared}{a:Addr}{kvs:List (Key×V)}{k:Key}{u:Value}{A:Around}{E:Value→Shared→Prop}
end
def Qt3 (td ty tv:TE):TS:=fun D σ H=>tv σ H fun v H1=>td σ H1 fun x H2=>ty σ H2 fun y H3=>∃a H4,x = .ref a∧Qh9 H3 a y v H4∧D.nx σ H4
section
variable {X:Cx}{o i e value:Expr}{pos pos' tpos:Pos}{td ty tv:TE}
theorem Qqy (hu:X.A.units+1 < cLine) (ho:PE X o td) (hi:PE X i ty) (hv:PE X value tv) (hs:swapsWith value (some (.Subscript o i pos')) pos.line X.env=pure false) :
  PS X (.Assign [.Subscript o i pos'] value pos) (Qt3 td ty tv):=by
 intro pins s σ H D I h;refine wpAny_Assign_Subscript (thn (hv pins s σ H _ I h) fun r s1 ⟨v,H1,I1,rv,q1⟩=>thn (ho pins s1 σ H1 _ I1 q1) fun u s2 ⟨x,H2,I2,rx,q2⟩=>thn (hi pins s2 σ H2 _ I2 q2) fun iv s3 ⟨y,H3,I3,ry,a,H4,ex,g,q3⟩=>?_) hs;subst ex;obtain rfl:u=Value.ref a:=rx
 exact Qno hu I3 g ry rv fun s4 I4=>⟨σ,H4,I4,q3⟩
end
theorem QoP {P:Program}{w:World}{H:Hp} (h:Heap) (hb:sysModules < h.objs.size):Qbh P w H (h.push { cls:=.type "dict",data:=.dict #[] }) h.objs.size (.dK []) :=
 ⟨Nat.zero_le _,beq_eq_false_iff_ne.mpr (Ne.symm (zl hb)),[],.nil,Heap.DictOf.new h⟩
def QsI:TE:=fun _ H Q=>∀p,H p=none→Q (.ref p) (upd H p (.dK []))
section
variable {X:Cx}{pos:Pos}
theorem QkO:PE X (.Dict [] [] pos) QsI:=fun pins s σ H Q I h =>
 wpAny_Dict_empty ⟨.ref s.heap.objs.size,_,I.laid (a:=s.heap.objs.size) (o:=.dK []) (t':=s.toks) (fun _ _ q=>zf _ q) (zc _) (QoP s.heap I.big),rfl,h _ (I.hok.fresh (zc _))⟩
end
def Qkb:List (TE×TE)→St→Hp→(List (V×V)→Hp→Prop)→Prop
 | [],_,H,Q=>Q [] H
 | (tk,tv)::r,σ,H,Q=>tk σ H fun x H1=>tv σ H1 fun y H2=>Qkb r σ H2 fun ps H3=>Q ((x,y)::ps) H3
abbrev VV:List (V×V)→List (Value×Value)→Prop:=Paired fun p q=>RelV p.1 q.1∧RelV p.2 q.2
def PPs (X:Cx) (pos:Pos) (keys:List (Option Expr)) (values:List Expr) (trs:List (TE×TE)):Prop :=
 ∀(pins:List (Addr×Obj)) (s:Shared) (σ:St) (H:Hp) (Q:List (V×V)→Hp→Prop),Inv X pins σ H s→Qkb trs σ H Q →
  wpAny (model X.prog X.w) X.A (evalPairs (pairTrees keys values X.env pos)) (fun vs s'=>∃ps H',Inv X pins σ H' s'∧VV ps vs∧Q ps H') X.xe s
structure M1 (X:Cx) (o:Expr) (m:Str) (apos:Pos) (e:Expr) (cpos:Pos):Prop where
 base:attributeBase o m X.env (eval o X.env)=eval o X.env
 few:((backTo cpos (starEach [e] X.env)).all (fun x=>!x.1)&&(backToKw cpos (keywordEach [] X.env)).all (fun x=>x.1.isSome)
  && decide (([e]:List Expr).length+([]:List Keyword).length+(if ([]:List Keyword).isEmpty then 0 else 1) < 30))=true
 line:(apos.endLine == cpos.line)=true
 trees:backTo cpos (starEach [e] X.env) = [(false,eval e X.env)]
structure M2 (X:Cx) (o:Expr) (m:Str) (apos:Pos) (e f:Expr) (cpos:Pos):Prop where
 base:attributeBase o m X.env (eval o X.env)=eval o X.env
 few:((backTo cpos (starEach [e,f] X.env)).all (fun x=>!x.1)&&(backToKw cpos (keywordEach [] X.env)).all (fun x=>x.1.isSome)
  && decide (([e,f]:List Expr).length+([]:List Keyword).length+(if ([]:List Keyword).isEmpty then 0 else 1) < 30))=true
 line:(apos.endLine == cpos.line)=true
 trees:backTo cpos (starEach [e,f] X.env) = [(false,eval e X.env),(false,eval f X.env)]
section
variable {X:Cx}{pins:List (Addr×Obj)}{σ:St}{H:Hp}{s:Shared}{a:Addr}{y d:V}{u r:Value}{o:Option V}{A:Around}{E:Value→Shared→Prop}
end
section
variable {X:Cx}{o e f:Expr}{apos cpos:Pos}{td ty tx:TE}
end
section
variable {X:Cx}{pins:List (Addr×Obj)}{σ:St}{H:Hp}{s:Shared}{a:Addr}{kvs:List (Key×V)}{A:Around}{E:Value→Shared→Prop}
end
section
variable {X:Cx}{pins:List (Addr×Obj)}{σ:St}{H:Hp}{s:Shared}{a:Addr}{y:V}{u:Value}{A:Around}{E:Value→Shared→Prop}
end
section
variable {X:Cx}
end
section
variable {κ:Type} [DecidableEq κ]
end
def QdW (cells:List (Str×Addr)):List (Str×NameKind)→List (Str×Addr)→List (Str×Addr)
 | [],acc=>acc
 | (n,k)::r,acc=>if k == .free then QdW cells r ((n,(cells.lookup n).getD 0)::acc) else QdW cells r acc
def Qez (scope:Scope) (env:Env):List (Str×Addr):=QdW env.cells scope.names []
theorem QjO {scope:Scope}{env:Env} (hf:∀y∈scope.names,y.2 = .free→∃c,env.cells.lookup y.1=some c):closureFor scope env=pure (Qez scope env):=by
 simp only [closureFor,Qez]
 generalize ([]:List (Str×Addr))=acc
 generalize scope.names=names at hf
 induction names generalizing acc with
 | nil=>rfl
 | cons y r ih =>
  obtain ⟨n,k⟩:=y
  have hr:=fun a=>ih a fun z hz=>hf z (zE _ hz)
  by_cases hk:k = .free
  ·obtain ⟨c,hc⟩:=hf (n,k) zK hk;have hc':env.cells.lookup n=some c:=hc;subst hk;simp only [List.forIn_cons,beq_self_eq_true,if_true,cellOf,hc',pure_bind,bind_assoc,QdW,Option.getD_some];exact hr _
  ·have hb:(k == NameKind.free)=false:=by simpa using hk
   simp only [List.forIn_cons,hb,Bool.false_eq_true,if_false,pure_bind,bind_assoc,QdW];exact hr _
theorem QfD {cells:List (Str×Addr)}{x:Str}{c:Addr}:∀{names:List (Str×NameKind)}{acc:List (Str×Addr)},(QdW cells names acc).lookup x=some c→acc.lookup x=some c∨(∃k,(x,k)∈names∧k = .free∧(cells.lookup x).getD 0=c)
 | [],acc,h=>.inl h
 | (n,k)::r,acc,h=>by
  unfold QdW at h
  by_cases hk:k = .free
  ·subst hk;simp only [beq_self_eq_true,if_true] at h
   rcases QfD h with z | ⟨k,hm,q⟩
   ·rw [List.lookup_cons] at z
    by_cases hx:x=n
    ·subst hx;simp at z;exact .inr ⟨.free,zK,rfl,z⟩
    ·have hb:(x == n)=false:=by simpa using hx
     rw [hb] at z;exact .inl z
   ·exact .inr ⟨k,zE _ hm,q⟩
  ·have hb:(k == NameKind.free)=false:=by simpa using hk
   simp only [hb,Bool.false_eq_true,if_false] at h
   rcases QfD h with z | ⟨k,hm,q⟩
   ·exact .inl z
   ·exact .inr ⟨k,zE _ hm,q⟩
theorem Qe2 {cells:List (Str×Addr)}{x:Str}:∀{names:List (Str×NameKind)}{acc:List (Str×Addr)},((∃c,acc.lookup x=some c)∨(x,NameKind.free)∈names)→∃c,(QdW cells names acc).lookup x=some c
 | [],acc,h=>by
  rcases h with h | h
  ·exact h
  ·cases h
 | (n,k)::r,acc,h=>by
  unfold QdW
  by_cases hk:k = .free
  ·subst hk;simp only [beq_self_eq_true,if_true];refine Qe2 ?_
   by_cases hx:x=n
   ·subst hx;exact .inl ⟨(cells.lookup x).getD 0,by simp [List.lookup_cons]⟩
   ·have hb:(x == n)=false:=by simpa using hx
    rcases h with ⟨c,h⟩ | h
    ·exact .inl ⟨c,by rw [List.lookup_cons,hb]; exact h⟩
    ·rcases zj.mp h with e | h
     ·cases e; exact absurd rfl hx
     ·exact .inr h
  ·have hb:(k == NameKind.free)=false:=by simpa using hk
   simp only [hb,Bool.false_eq_true,if_false];refine Qe2 ?_
   rcases h with h | h
   ·exact .inl h
   ·rcases zj.mp h with e | h
    ·cases e; exact absurd rfl hk
    ·exact .inr h
def QcI (scope sc0:Scope):List (Str×NameKind) :=
 scope.names.map fun (n,k)=>if (k == .free&&sc0.kind == .function&&sc0.names.lookup n == some .cell) then (n,.cell) else (n,k)
theorem QhW {scope sc0:Scope} (hc:∀y∈scope.names,y.2≠.cell) {x:Str}{k:NameKind} (h:(QcI scope sc0).lookup x=some k) (hk:k = .cell∨k = .free):(x,NameKind.free)∈scope.names:=by
 have hm:=PySem.mem_of_lookup h;unfold QcI at hm;obtain ⟨⟨n,k0⟩,h1,h2⟩:=zU.mp hm;dsimp only at h2
 by_cases hb:(k0 == NameKind.free&&sc0.kind == .function&&sc0.names.lookup n == some .cell)=true
 ·rw [if_pos hb] at h2
  have e:k0 = .free:=by
   simp only [zg,beq_iff_eq] at hb;exact hb.1.1
  cases h2;rw [←e]; exact h1
 ·rw [if_neg hb] at h2;cases h2
  rcases hk with e | e
  ·exact absurd e (hc _ h1)
  ·rw [←e]; exact h1
def Qbk (N0 own:List Str) (cap:List Nat):List Str:=own++cap.map fun j=>N0.getD j (Str.ofString "")
def compSt (own:List Str) (cap:List Nat) (σ:St):St:=own.map (fun _=>none)++cap.map fun j=>(σ[j]?).join
def QiK (sc0:Scope) (N0:List Str) (scope:Scope) (own:List Str) (cap:List Nat):Bool :=
 (scope.kind == .function)&&scope.names.all (fun y=>y.2 != .cell)&&scope.names.all (fun y=>y.2 != .local || scope.names.lookup y.1 == some .local) &&
 scope.names.all (fun y=>y.2 != .free || sc0.names.lookup y.1 == some .cell || sc0.names.lookup y.1 == some .free) &&
 cap.all fun j=>decide (j < N0.length)&&scope.names.contains (N0.getD j (Str.ofString ""),NameKind.free)&&((QcI scope sc0).lookup (N0.getD j (Str.ofString "")) == some .cell || (QcI scope sc0).lookup (N0.getD j (Str.ofString "")) == some .free)
structure Qey (sc0:Scope) (N0:List Str) (scope:Scope) (own:List Str) (cap:List Nat):Prop where
 kind:scope.kind = .function
 nocell:∀y∈scope.names,y.2≠.cell
 names:∀y∈scope.names,y.2 = .local→scope.names.lookup y.1=some .local
 free:∀y∈scope.names,y.2 = .free→sc0.names.lookup y.1=some .cell∨sc0.names.lookup y.1=some .free
 cap:∀j∈cap,j < N0.length∧(N0.getD j (Str.ofString ""),NameKind.free)∈scope.names∧((QcI scope sc0).lookup (N0.getD j (Str.ofString ""))=some .cell∨(QcI scope sc0).lookup (N0.getD j (Str.ofString ""))=some .free)
theorem Qey.of {sc0:Scope}{N0:List Str}{scope:Scope}{own:List Str}{cap:List Nat} (h:QiK sc0 N0 scope own cap=true):Qey sc0 N0 scope own cap:=by
 unfold QiK at h;simp only [zg,jh,beq_iff_eq,bne_iff_ne,ne_eq,Bool.or_eq_true,decide_eq_true_eq,List.contains_iff_mem] at h;obtain ⟨⟨⟨⟨h1,h2⟩,h3⟩,h4⟩,h5⟩:=h;refine ⟨h1,h2,fun y hy e=>?_,fun y hy e=>?_,fun j hj=>?_⟩
 ·rcases h3 y hy with z | z
  ·exact absurd e z
  ·exact z
 ·rcases h4 y hy with (z | z) | z
  ·exact absurd e z
  ·exact .inl z
  ·exact .inr z
 ·obtain ⟨⟨a,b⟩,c⟩:=h5 j hj;exact ⟨a,b,c⟩
def Qbl (X:Cx) (scope:Scope) (C:Addr) (N':List Str) (s:Shared) (H:Hp) (ex:List Addr):Cx where
 prog:=X.prog
 w:=X.w
 K:=X.K
 mg:=X.mg
 base:=X.base
 A:=X.A
 N:=N'
 s₀:=s
 H₀:=H
 env:=compEnvC scope (Qez scope X.env) C X.env
 outer:=X.stack
 stack:=X.stack
 ex:=ex
 fn:=fun _=>false
 calm:=X.calm
 pn:=[]
 xe:=fun _ _=>False
section
variable {X:Cx}
def QiZ (X:Cx) (ifs:List Expr) (t:TT):Prop :=
 ∀(pins:List (Addr×Obj)) (s:Shared) (σ:St) (H:Hp) (Q:Bool→Hp→Prop),Inv X pins σ H s→t σ H Q →
  wpAny (model X.prog X.w) X.A (forIn ifs true fun c r=>if r=true then do let ok ←isTrue c X.env (eval c X.env); pure (ForInStep.yield ok) else pure (ForInStep.yield r)) (TP X pins σ Q) X.xe s
def Qu3:TT:=fun _ H Q=>Q true H
theorem Qph:QiZ X [] Qu3:=fun _ _ _ H _ I h=>wpAny_tests_nil ⟨H,I,h⟩
end
def Qpw (J:It) (g:TG) (tt:TT) (te:TE) (Q:List V→Hp→Prop) (σ0:St) (H1:Hp):Prop :=
 ∃W:Nat→Nat→List V→St→Hp→Prop,(∃m,W 0 m [] σ0 H1)∧∀i m ys σ H,W i m ys σ H →
  (J.stop i H∧Q ys H)∨(J.go i H∧ys.length < sizeLine∧∃N:List V→St→Hp→Prop,(∀ys σ' H',N ys σ' H'→∃m',m' < m∧W (i+1) m' ys σ' H')∧∀x H',J.yld i H x H'→g x σ H' fun σ2 H2=>tt σ2 H2 fun b H3 =>
   if b=true then te σ2 H3 fun y H4=>N (ys ++ [y]) σ2 H4 else N ys σ2 H3)
def Qpv (wi:TI) (own:List Str) (cap:List Nat) (g:TG) (tt:TT) (te:TE):TE:=fun σ H Q =>
 wi σ H fun J H1=>Qpw J g tt te (fun ys H'=>ys.length≤sizeLine∧∀p,H' p=none→Q (.ref p) (upd H' p (.lst ys))) (compSt own cap σ) H1
section
variable {prog:Program}{w:World}{A:Around}{R:Result→Shared→Prop}{s:Shared}
theorem QgS {elt target iter:Expr}{ifs:List Expr}{scope:Scope}{pos:Pos}{it acc:Value}{env:Env} (I:Nat→Shared→Prop)
  (turn:∀n s,I n s→wpAny (model prog w) A (pyNext it) (fun r s₁=>match r with
   | none=>R (.ok .next) s₁
   | some v=>wpAny (model prog w) A (letOwnedTupleGo target it v) (fun _ s₁'=>wpAny (model prog w) A (assign target env v) (fun _ s₂ =>
     wpAny (model prog w) A (forIn ifs true fun c r=>if r=true then do let ok ←isTrue c env (eval c env); pure (ForInStep.yield ok) else pure (ForInStep.yield r)) (fun ok s₃ =>
      if ok=true then wpAny (model prog w) A (eval elt env) (fun x s₄ =>
       wpAny (model prog w) A (call (.builtin "list.append") [acc,x]) (fun _ s₅=>∃m,m < n∧I m s₅) (fun _ _=>False) s₄) (fun _ _=>False) s₃
      else ∃m,m < n∧I m s₃) (fun _ _=>False) s₂) (fun _ _=>False) s₁') (fun _ _=>False) s₁) (fun _ _=>False) s)
  (n:Nat) (h:I n s) :
  codeAny (model prog w) A (.compLoop (.ListComp elt [⟨target,iter,ifs,0⟩] scope pos) 0 it acc env) R s:=by
 refine codeAny_loop rfl I (fun n s hI=>?_) n h;show wpAny _ A ((compTurn (.ListComp elt [⟨target,iter,ifs,0⟩] scope pos) 0 it acc env).onRaise (fun x=>do noteFrame x env; theTreesLotGoes x)) _ _ s;refine wpAny_noted ?_;rw [compTurn_list];refine za (wpAny_standAt (za (zr (turn n s hI) (fun r s₁ h₁=>?_) fun _ _ h'=>h'.elim)))
 cases r with
 | none=>exact zb h₁
 | some v =>
  refine za (zr h₁ (fun _ s₁' h₁'=>?_) fun _ _ h'=>h'.elim);refine za (zr h₁' (fun _ s₂ h₂=>za (zr h₂ (fun ok s₃ h₃=>?_) fun _ _ h'=>h'.elim)) fun _ _ h'=>h'.elim)
  cases ok with
  | false=>exact zb ⟨rfl,h₃⟩
  | true =>
   exact za (za (zr h₃ (fun x s₄ h₄=>za (zr h₄ (fun _ s₅ h₅=>zb (zb ⟨rfl,h₅⟩)) fun _ _ h'=>h'.elim)) fun _ _ h'=>h'.elim))
end
section
variable {X:Cx}{pins:List (Addr×Obj)}{σ:St}{s2:Shared}{H2:Hp}{elt tg iter:Expr}{ifs:List Expr}{scope:Scope}{pos:Pos}{g:TG}{tt:TT}{te:TE}{sc0:Scope}{N0 own:List Str}{cap:List Nat}
 {it:Addr}{fp:List Addr}{tn:Nat→Heap→Prop}{J:It}
theorem QkZ (I2:Inv X pins σ H2 s2) (hsc:X.env.scope=sc0) (ok:Qey sc0 N0 scope own cap):∀y∈scope.names,y.2 = .free→∃c,X.env.cells.lookup y.1=some c:=fun y hy e=>by
 refine I2.ok.has y.1 ?_;have q:=ok.free y hy e;rw [←hsc] at q;exact q
theorem Qcm (I2:Inv X pins σ H2 s2) (hsc:X.env.scope=sc0) (ok:Qey sc0 N0 scope own cap) {x:Str}{c:Addr} (h:(Qez scope X.env).lookup x=some c):X.env.cells.lookup x=some c:=by
 rcases QfD h with z | ⟨k,hm,hk,q⟩
 ·simp at z
 ·obtain ⟨c',e⟩:=QkZ I2 hsc ok (x,k) hm hk;have e':X.env.cells.lookup x=some c':=e;rw [e'] at q;rw [e',←q]; rfl
theorem Qnl (I2:Inv X pins σ H2 s2) (hsc:X.env.scope=sc0) (ok:Qey sc0 N0 scope own cap) (T:Turn X.prog X.w X.K tg J fp it tn) (st2:tn 0 s2.heap) (f2:∀b∈fp,QdL X pins H2 b)
  (C:Addr) (hC:s2.heap.objs.size≤C):(Qbl X scope C (Qbk N0 own cap) s2 H2 fp).Ok:=by
 have lt:∀b∈fp,b < s2.heap.objs.size:=fun b hb=>by
  obtain ⟨o,e,_⟩:=T.obj 0 _ st2 b hb;exact zd e
 have rel:(relabel scope X.env).names=QcI scope sc0:=by rw [←hsc]; rfl
 refine ⟨I2.ok.mod,ok.kind,I2.ok.glob,I2.ok.blt,hC,fun x y c h1 h2=>?_,fun x hx=>?_,fun x c hf _=>absurd hf (by simp [Qbl]),I2.ok.hd,I2.ok.frames,.inl rfl,fun b hb=>⟨?_,fun x c h=>?_⟩,I2.bs,zz I2.ok.bsz I2.sz,
  fun b o e hb=>?_,fun b hb hz=>?_,I2.stack,I2.stkFree⟩
 ·exact I2.ok.inj x y c (Qcm I2 hsc ok h1) (Qcm I2 hsc ok h2)
 ·have hx':(QcI scope sc0).lookup x=some .cell∨(QcI scope sc0).lookup x=some .free:=by rw [←rel]; exact hx
  have hm:(x,NameKind.free)∈scope.names:=by
   rcases hx' with q | q
   ·exact QhW ok.nocell q (.inl rfl)
   ·exact QhW ok.nocell q (.inr rfl)
  exact Qe2 (.inr hm)
 ·exact zl (zv (lt b hb) hC)
 ·exact (f2 b hb).2.2.2.2.1 x c (Qcm I2 hsc ok h)
 ·rcases (f2 b hb).2.2.2.1 with z | z
  ·exact I2.ok.noex b o e z
  ·exact absurd (zv (zd e) (zz I2.ok.bsz z)) (zH _)
 ·rcases zj.mp (I2.stkSub b hz) with z | z
  ·exact (f2 b hb).2.1 z
  ·exact (f2 b hb).2.2.1 z
theorem QoK (I2:Inv X pins σ H2 s2) (hsc:X.env.scope=sc0) (hN0:X.N=N0) (ok:Qey sc0 N0 scope own cap) (T:Turn X.prog X.w X.K tg J fp it tn) (st2:tn 0 s2.heap) (f2:∀b∈fp,QdL X pins H2 b)
  (C:Addr) (hC:s2.heap.objs.size≤C) {h₁:Heap}{tk:Nat}{m:Str→Option Value} (old:∀b o,s2.heap.get? b=some o→h₁.get? b=some o) (hns:h₁.Ns C m) :
  Inv (Qbl X scope C (Qbk N0 own cap) s2 H2 fp) [] (compSt own cap σ) H2 { s2 with heap:=h₁,toks:=tk }:=by
 have rel:(relabel scope X.env).names=QcI scope sc0:=by rw [←hsc]; rfl
 refine ⟨Qnl I2 hsc ok T st2 f2 C hC,rfl,I2.bare,Un.kept old,⟨m,hns,fun i x v e1 e2 _=>?_⟩,fun x c h=>?_,I2.hok.fresh hC,fun x c h=>?_,fun p hp=>absurd (show p∈([]:List (Addr×Obj)) from hp) (by simp),I2.hok.kept old,?_⟩
 ·have e1':(Qbk N0 own cap)[i]? = some x:=e1;unfold Qbk at e1';unfold compSt at e2
  by_cases hi:i < own.length
  ·rw [zu (by simpa using hi),zB] at e2
   cases q:own[i]? with
   | none=>rw [q] at e2; cases e2
   | some z=>rw [q] at e2; cases e2
  ·rw [zw (by simpa using hi),zB] at e2;rw [zw (by simpa using hi),zB] at e1';rw [zo] at e2
   cases q:cap[i - own.length]? with
   | none=>rw [q] at e2; cases e2
   | some j =>
    rw [q] at e1' e2;have ex:N0.getD j (Str.ofString "")=x:=zG e1';have ev:(σ[j]?).join=some v:=zG e2;obtain ⟨hj,hm,hk⟩:=ok.cap j (zP q);rw [ex] at hm hk
    have eN:X.N[j]? = some x:=by
     rw [hN0,zy hj];rw [zO,zy hj] at ex;exact congrArg some ex
    have eσ:σ[j]? = some (some v):=by
     cases z:σ[j]? with
     | none=>rw [z] at ev; cases ev
     | some o=>rw [z] at ev; cases o with
      | none=>cases ev
      | some y=>exact congrArg some ev
    have kf:X.env.kindOf x=some .cell∨X.env.kindOf x=some .free:=by
     have z:=ok.free _ hm rfl;rw [←hsc] at z;exact z
    obtain ⟨m0,hn0,hl⟩:=I2.loc;obtain ⟨u,r,l⟩:=hl j x v eN eσ (kf.elim (fun z=>.inr (.inl z)) fun z=>.inr (.inr z));refine ⟨u,r,.inr ⟨?_,?_⟩⟩
    ·show (relabel scope X.env).names.lookup x=_∨(relabel scope X.env).names.lookup x=_;rw [rel]; exact hk
    ·rcases l with ⟨l,_⟩ | ⟨_,c,hc,⟨o,ho,hd⟩⟩
     ·rcases kf with z | z <;> (rw [z] at l; cases l)
     ·obtain ⟨c',hc'⟩:=Qe2 (cells:=X.env.cells) (names:=scope.names) (acc:=[]) (.inr hm);have z:=Qcm I2 hsc ok hc';rw [hc] at z;cases z;exact ⟨c,hc',o,old _ _ ho,hd⟩
 ·obtain ⟨v,o,ho,hd⟩:=I2.cell x c (Qcm I2 hsc ok h);exact ⟨v,o,old _ _ ho,hd⟩
 ·exact I2.freeC x c (Qcm I2 hsc ok h)
 ·show (compSt own cap σ).length=(Qbk N0 own cap).length;unfold compSt Qbk;simp
theorem QmD {Q:List V→Hp→Prop}{RR:Value→Addr→Result→Shared→Prop}{E:Value→Shared→Prop} (hc:X.calm=true) (I2:Inv X pins σ H2 s2) (hsc:X.env.scope=sc0) (hN0:X.N=N0) (ok:Qey sc0 N0 scope own cap)
  (hg:∀C s H ex,PG (Qbl X scope C (Qbk N0 own cap) s H ex) tg g) (ht:∀C s H ex,QiZ (Qbl X scope C (Qbk N0 own cap) s H ex) ifs tt) (he:∀C s H ex,PE (Qbl X scope C (Qbk N0 own cap) s H ex) elt te)
  (T:Turn X.prog X.w X.K tg J fp it tn) (st2:tn 0 s2.heap) (f2:∀b∈fp,QdL X pins H2 b) (hW:Qpw J g tt te Q (compSt own cap σ) H2)
  (hRR:∀D C oC ys H' s',Inv X (pins ++ [(C,oC)]) σ (upd H' D (.lst ys)) s'→(∀h:Heap,h.get? C=some oC→∃m,h.Ns C m)→QdL X pins (upd H' D (.lst ys)) C→H' D=none→Q ys H'→RR (.ref D) C (.ok .next) s')
  (hQsz:∀ys H',Q ys H'→ys.length≤sizeLine) :
  wpAny (model X.prog X.w) X.A (newList []) (fun acc s₃=>wpAny (model X.prog X.w) X.A (newFunctionEnv scope X.env.globals (Qez scope X.env) [] X.env.qual none .none (some X.env)) (fun cenv s₄ =>
   codeAny (model X.prog X.w) X.A (.compStart (.ListComp elt [⟨tg,iter,ifs,0⟩] scope pos) 0 (.ref it) acc { cenv with scope:=relabel scope X.env }) (RR acc cenv.locals) s₄) E s₃) E s2:=by
 refine wpAny_newObj_type (wpAny_newFunctionEnv ok.nocell (by intro y hy; simp at hy) (fun h₁ hns₁ hsb₁=>?_) ok.kind);dsimp only at hns₁ hsb₁ ⊢
 generalize hP2:s2.heap.push { cls:=.type "list",dict:=none,data:=.seq ([]:List Value).toArray }=P2 at hns₁ hsb₁ ⊢
 have hC:P2.objs.size=s2.heap.objs.size+1:=by rw [←hP2,Heap.size_push]
 have hDC:s2.heap.objs.size≠P2.objs.size:=by rw [hC]; exact zl (jf _)
 have hCle:s2.heap.objs.size≤P2.objs.size:=by rw [hC]; exact Nat.le_succ _
 have below:∀b,b < s2.heap.objs.size→b≠P2.objs.size∧b≠s2.heap.objs.size:=fun b hb=>⟨by rw [hC]; exact zl (Nat.lt_succ_of_lt hb),zl hb⟩
 have ltf:∀b∈fp,b < s2.heap.objs.size:=fun b hb=>by
  obtain ⟨o,e,_⟩:=T.obj 0 _ st2 b hb;exact zd e
 have old:∀b o,s2.heap.get? b=some o→h₁.get? b=some o:=fun b o e=>hsb₁.extBut b o (below b (zd e)).1 (zf _ (hP2 ▸ zf _ e))
 have hacc:h₁.PlainList s2.heap.objs.size #[]:=⟨_,hsb₁.extBut _ _ hDC (zf _ (hP2 ▸ zD _ rfl))⟩
 have st₁:tn 0 h₁:=T.keep _ _ _ st2 fun b _ o e=>old b o e
 have hDno:∀b∈fp,s2.heap.objs.size≠b:=fun b hb=>(below b (ltf b hb)).2.symm
 generalize hXe:Qbl X scope P2.objs.size (Qbk N0 own cap) s2 H2 fp=X'
 have loop:∀s₃:Shared,s₃ = { s2 with heap:=h₁,toks:=s2.toks+([]:List (Str×Value)).length } →
   codeAny (model X.prog X.w) X.A (.compLoop (.ListComp elt [⟨tg,iter,ifs,0⟩] scope pos) 0 (.ref it) (.ref s2.heap.objs.size) (compEnvC scope (Qez scope X.env) P2.objs.size X.env))
    (RR (.ref s2.heap.objs.size) P2.objs.size) s₃:=by
  rintro s₃ rfl;obtain ⟨W,⟨m0,w0⟩,turn⟩:=hW;subst hXe
  have stat:∀{H':Hp}{oD:Obj},(∀b∈fp,H' b=none)→∀b∈fp,QdL (Qbl X scope P2.objs.size (Qbk N0 own cap) s2 H2 fp) [(s2.heap.objs.size,oD)] H' b:=fun {H' oD} hn b hb =>
   ⟨hn b hb,(below b (ltf b hb)).1,fun z=>by
    rcases zj.mp (I2.stkSub b z) with z | z
    ·exact (f2 b hb).2.1 z
    ·exact (f2 b hb).2.2.1 z,.inl hb,fun x c h=>(f2 b hb).2.2.2.2.1 x c (Qcm I2 hsc ok h),fun p hp=>by
    have e:p=(s2.heap.objs.size,oD):=by simpa [Qbl] using hp
    rw [e]; exact hDno b hb⟩
  have notcell:∀x c,(Qez scope X.env).lookup x=some c→c≠s2.heap.objs.size:=fun x c h z=>by
   obtain ⟨v,o,ho,hd⟩:=I2.cell x c (Qcm I2 hsc ok h);exact absurd (zd ho) (by rw [z]; exact zH _)
  have nofs:s2.heap.objs.size∉frs X.stack:=fun z=>by
   rcases zj.mp (I2.stkSub _ z) with z | z
   ·exact absurd I2.lt (by rw [z]; exact zH _)
   ·exact I2.nofs (zc _) z
  have pinD:∀{σ':St}{H':Hp}{s':Shared}{its:Array Value}{k:Nat},Inv (Qbl X scope P2.objs.size (Qbk N0 own cap) s2 H2 fp) [] σ' H' s'→H' s2.heap.objs.size=none →
    s'.heap.get? s2.heap.objs.size=some { cls:=.type "list",data:=.seq its k }→Inv (Qbl X scope P2.objs.size (Qbk N0 own cap) s2 H2 fp) [(s2.heap.objs.size,{ cls:=.type "list",data:=.seq its k })] σ' H' s' :=
   fun {σ' H' s' its k} I hn hd=>I.pins_of fun p hp=>by
    have e:p=(s2.heap.objs.size,{ cls:=.type "list",data:=.seq its k }):=by simpa using hp
    subst e;exact ⟨hd,hn,hDC,nofs,fun v z=>by cases z⟩
  obtain ⟨k0,hk0⟩:=hacc;refine QgS (env:=compEnvC scope (Qez scope X.env) P2.objs.size X.env)
   (fun n s'=>∃i ys its k σ' H',Inv (Qbl X scope P2.objs.size (Qbk N0 own cap) s2 H2 fp) [(s2.heap.objs.size,{ cls:=.type "list",data:=.seq its k })] σ' H' s'∧tn i s'.heap∧(∀b∈fp,H' b=none)∧Qaz ys its.toList∧W i n ys σ' H') ?_ m0
   ⟨0,[],#[],k0,_,H2,pinD (QoK I2 hsc hN0 ok T st2 f2 _ hCle old hns₁) (I2.hok.fresh (zc _)) hk0,st₁,fun b hb=>(f2 b hb).1,.nil,w0⟩
  rintro n s3 ⟨i,ys,its,k,σ3,H3,I3,st3,fr3,hv,w3⟩
  rcases turn i n ys σ3 H3 w3 with ⟨stop,qn⟩ | ⟨go,hsz,N,hN,step⟩
  ·refine thn (T.done (Qbl X scope P2.objs.size (Qbk N0 own cap) s2 H2 fp) rfl rfl rfl hc i _ s3 σ3 H3 _ I3 (stat fr3) st3 stop) fun r s4 ⟨hr,I4⟩=>?_
   subst hr;show RR _ _ (.ok .next) s4;obtain ⟨hd4,hn4,_⟩:=I4.pin (s2.heap.objs.size,{ cls:=.type "list",data:=.seq its k }) (by simp [Qbl]);dsimp only at hd4 hn4;obtain ⟨m4,hns4,_⟩:=id I4.loc;have hns4':s4.heap.Ns P2.objs.size m4:=hns4;obtain ⟨oC,es,ep,hoC,rC⟩:=id hns4';have cne:P2.objs.size≠s2.heap.objs.size:=hDC.symm;have freeC:H3 P2.objs.size=none:=I4.free;have hchC:QdL X pins (upd H3 s2.heap.objs.size (.lst ys)) P2.objs.size:=I2.fpOk hCle (by rw [Qan cne]; exact freeC)
   have hlen:ys.length=its.size:=by have e:=hv.length; simpa using e
   have I5:Inv X pins σ (upd H3 s2.heap.objs.size (.lst ys)) s4:=by
    refine I2.call' (ch:=fp) I4.os ⟨I4.base.keep,I4.base.slot,fun b o e n hx=>?_,I4.base.there,fun b xs e=>?_,fun b o u e=>?_,fun b ps e=>?_⟩ (fun b u e=>?_) I4.bare fun b hb=>?_
    ·rw [Qan (zl (zd e))]; exact I4.base.free b o e n hx
    ·have q:=I4.base.tups b xs e;rw [Qan (QaA q hn4)]; exact q
    ·have q:=I4.base.frzs b o u e;rw [Qan (QaA q hn4)]; exact q
    ·obtain ⟨more,q⟩:=I4.base.tbls b ps e;exact ⟨more,by rw [Qan (QaA q hn4)]; exact q⟩
    ·by_cases hb:b=s2.heap.objs.size
     ·subst hb;rw [QaE] at e;cases e;exact ⟨hQsz ys H3 qn,its.toList,k,hv,by simpa using hd4⟩
     ·rw [Qan hb] at e
      exact (I4.hok b u e).stay (fun _ _ _ q=>q) (fun c q=>by rw [Qan (QaA q hn4)]; exact q) fun c xs q=>by rw [Qan (QaA q hn4)]; exact q
    ·obtain ⟨_,a2,_,a4,a5,a6⟩:=f2 b hb;exact ⟨a4,a2,a5,a6⟩
   refine hRR s2.heap.objs.size P2.objs.size oC ys H3 s4 (I5.pins_of fun p hp=>?_) (fun h e=>⟨m4,oC,es,ep,e,rC⟩) hchC hn4 qn
   rcases zA.mp hp with z | z
   ·exact I5.pin p (zN _ z)
   ·have e:p=(P2.objs.size,oC):=by simpa using z
    subst e
    exact ⟨hoC,hchC.1,hchC.2.1,hchC.2.2.1,fun v z=>by
     have:=rC.1
     rw [this] at z; cases z⟩
  ·refine thn (T.item (Qbl X scope P2.objs.size (Qbk N0 own cap) s2 H2 fp) rfl rfl rfl hc i _ s3 σ3 H3 _ I3 (stat fr3) st3 go) fun r s4 ⟨u,hr,h4⟩=>?_
   subst hr
   refine thn h4 fun _ s5 ⟨x,H5,I5,r5,y5,st5,fr5⟩=>?_
   have I5':=I5.pinned (stat fr5) (T.obj _ _ st5)
   refine thn (hg _ _ _ _ _ s5 σ3 H5 x u _ I5' r5 (step x H5 y5)) fun _ s6 ⟨σ6,H6,I6,q6⟩=>?_
   refine thn (ht _ _ _ _ _ s6 σ6 H6 _ I6 q6) fun b s7 ⟨H7,I7,q7⟩=>?_
   have keepT:∀{σ':St}{H':Hp}{s':Shared},Inv (Qbl X scope P2.objs.size (Qbk N0 own cap) s2 H2 fp) ([(s2.heap.objs.size,{ cls:=.type "list",data:=.seq its k })]++Qho fp s5.heap) σ' H' s'→tn (i+1) s'.heap∧∀b∈fp,H' b=none:=fun {σ' H' s'} I'=>by
    refine ⟨T.keep _ _ _ st5 fun b hb o e=>(I'.pin (b,o) (zN _ (zN _ (QeY hb e)))).1,fun b hb=>?_⟩;obtain ⟨o,e,d⟩:=T.obj _ _ st5 b hb;exact (I'.pin (b,o) (zN _ (zN _ (QeY hb e)))).2.1
   cases b with
   | false =>
    rw [if_neg zk] at q7 ⊢;obtain ⟨m',hm,w7⟩:=hN _ _ _ q7;obtain ⟨a,b⟩:=keepT I7;exact ⟨m',hm,i+1,ys,its,k,σ6,H7,I7.unpinned,a,b,hv,w7⟩
   | true =>
    rw [if_pos rfl] at q7 ⊢
    refine thn (he _ _ _ _ _ s7 σ6 H7 _ I7 q7) fun v s8 ⟨y,H8,I8,r8,q8⟩=>?_
    obtain ⟨m',hm,w8⟩:=hN _ _ _ q8;obtain ⟨a,b⟩:=keepT I8;obtain ⟨hd8,hn8,_⟩:=I8.pin (s2.heap.objs.size,{ cls:=.type "list",data:=.seq its k }) (by simp [Qbl]);dsimp only at hd8 hn8
    have hl:its.size≤sizeLine:=by
     have e:=hv.length;simp at e;omega
    refine wpAny_list_append_plain (hsz:=hl) ⟨k,hd8⟩ fun h9 hl9 hs9=>?_
    obtain ⟨k9,hd9⟩:=hl9
    have I8':Inv (Qbl X scope P2.objs.size (Qbk N0 own cap) s2 H2 fp) [] σ6 H8 s8:=I8.pins_of fun p hp=>absurd hp (by simp)
    have I9:Inv (Qbl X scope P2.objs.size (Qbk N0 own cap) s2 H2 fp) [] σ6 H8 { s8 with heap:=h9 } :=
     I8'.turned (t':=s8.toks) (it:=s2.heap.objs.size) (fun b o hb e=>hs9.extBut b o hb e) hn8 hDC (.inr (zc _)) notcell (fun p hp=>absurd (show p∈([]:List (Addr×Obj)) from hp) (by simp))
    refine ⟨m',hm,i+1,ys ++ [y],its.push v,k9,σ6,H8,pinD I9 hn8 hd9,T.keep _ _ _ a fun b hb o e=>hs9.extBut b o (hDno b hb).symm e,b,?_,w8⟩;rw [Array.toList_push];exact hv.append (.cons r8 .nil)
 exact codeAny_compStart_list (loop _ rfl) (T.self _ 0 _ _ _ st₁ (loop _ rfl))
theorem QqK {wi:TI} (sc0:Scope) (N0 own:List Str) (cap:List Nat) (hc:X.calm=true) (hi:PI X tg iter wi)
  (hg:∀C s H ex,PG (Qbl X scope C (Qbk N0 own cap) s H ex) tg g) (ht:∀C s H ex,QiZ (Qbl X scope C (Qbk N0 own cap) s H ex) ifs tt) (he:∀C s H ex,PE (Qbl X scope C (Qbk N0 own cap) s H ex) elt te)
  (hsc:X.env.scope=sc0:=by rfl) (hN0:X.N=N0:=by rfl) (ok:QiK sc0 N0 scope own cap=true:=by decide +kernel) (hs:∀x,foldedSetIterable iter X.env x=pure x:=by intro _; rfl) :
  PE X (.ListComp elt [⟨tg,iter,ifs,0⟩] scope pos) (Qpv wi own cap g tt te):=by
 intro pins s σ H Q I h;have ok:=Qey.of ok;rw [eval_ListComp];refine wpAny_comprehension_free (use:=none) rfl hs (QjO (QkZ I hsc ok)) ok.kind ok.names (thn (hi pins s σ H _ I h) fun xv s1 h1=>thn h1 fun itv s2 h2=>?_);obtain ⟨it,fp,tn,J,H2,e,I2,T,st2,f2,hW⟩:=h2;subst e
 refine QmD (RR:=fun acc C=>compPost (model X.prog X.w) X.A X.xe none (EP X pins σ Q) acc C) hc I2 hsc hN0 ok hg ht he T st2 f2 hW (fun D C oC ys H' s' I' hns fpC hD q=>?_) fun ys H' q=>q.1
 obtain ⟨hC,hCn,_⟩:=I'.pin (C,oC) (by simp);obtain ⟨m,hm⟩:=hns _ hC;refine ⟨m,hm,fun h' hs'=>⟨.ref D,upd H' D (.lst ys),?_,rfl,q.2 D hD⟩⟩;obtain ⟨f0,f1,f2',f3,f4,f5⟩:=fpC;exact I'.unpinned.turned (t':=s'.toks) (it:=C) (fun b o hb e=>hs'.extBut b o hb e) f0 f1 f3 f4 f5
end
def Can (P:Program) (w:World) (K:PySem.W.Frag) (mg:Str→Option Value) (base:Heap) (x:Str) (ps:List Str) (k:Nat) (sp:Sp):Prop :=
 ∃f fd,mg x=some (.ref f)∧PySem.W.keepIn K (.ref f)=true∧Binds K fd ps []∧QbB P w K mg base CX0 k f fd ps sp∧∃oc od osl,K.lookup f=some ⟨oc,od,.func fd,osl⟩
def Def (K:PySem.W.Frag) (mg:Str→Option Value) (x:Str) (st:Stmt):Prop:=∃f fd,mg x=some (.ref f)∧Fun K x x st f fd
section
variable {P:Program}{w:World}{K:PySem.W.Frag}{mg:Str→Option Value}{base:Heap}
theorem Can.mono {x:Str}{ps:List Str}{j k:Nat}{sp:Sp} (c:Can P w K mg base x ps j sp) (h:j≤k):Can P w K mg base x ps k sp :=
 let ⟨f,fd,a,b,d,e,g⟩:=c; ⟨f,fd,a,b,d,e.mono h,g⟩
theorem Def.can {x:Str}{st:Stmt}{N ps:List Str}{k:Nat}{sp:Sp} (D:Def K mg x st) (S:QaO N ps (Qao st))
  (hb:∀(kV doc pm:Value) (an:Option Addr) (cdv ct:Value) (us:List Value),us.length=ps.length→bindArgs (PySem.W.fnOf x x (QbU st) (Qa8 st) (Qao st) .none kV doc pm an cdv ct) ⟨us,[]⟩=pure (ps.zip us))
  (len:∀vs H Q E,sp vs H Q E→vs.length=ps.length)
  (hbody:∀(f:Addr) (cdv:Value) (A:Around) (outer:List Env) (s:Shared) (H:Hp) (vs:List V) (Q:VK) (E:XK),QaR k (A.deeper (envOfC x (Qao st) s.heap.objs.size f cdv))→sp vs H Q E →
   ∃t,PSs (QcS CX0 P w K mg base N x (Qao st) f cdv A outer s H E).nox (Qa8 st) t∧t { nx:=fun _ H'=>Q .non H',rt:=Q } (start N vs) H):Can P w K mg base x ps (k+1) sp:=by
 obtain ⟨f,fd,hm,F⟩:=D;obtain ⟨oc,od,_,_,_,_,_,_,osl,_,lk,_⟩:=F.ex;exact ⟨f,fd,hm,F.kp,F.binds hb,F.ok S len fun cdv A outer s H vs Q E hr h=>hbody f cdv A outer s H vs Q E hr h,oc,od,osl,lk⟩
end
section
variable {X:Cx}{k:Nat}{x:Str}{ps:List Str}{sp:Sp}{p pos:Pos}{e:Expr}{es:List Expr}{t:TA}
theorem Qtd (C:Can X.prog X.w X.K X.mg X.base x ps k sp) (hr:QaR k X.A) (ha:PA X (e::es) t) (hg:Gl X x:=by rfl) (hdb:(x == ("__debug__":Str))=false:=by decide)
  (he:starEach (e::es) X.env=(false,eval e X.env)::starEach es X.env:=by rfl) (hpl:(backTo pos (starEach es X.env)).any (·.1)=false:=by rfl) :
  PE X (.Call (.Name x p) (e::es) [] pos) (QjS sp [] E0 t):=by
 obtain ⟨f,fd,hm,hk,hb,F,_⟩:=C;exact Qlk F hr hg hm hk hb .nil Qmy ha hdb he hpl
end
theorem Same.seqT {K:PySem.W.Frag}{H H':Hp}{a:Addr}{xs:List V} (e:Same H H') (h:SqT K H a xs):SqT K H' a xs:=by
 rcases h with (h | ⟨o,h⟩) | h
 ·exact .inl (.inl (e _ _ h))
 ·exact .inl (.inr ⟨o,e _ _ h⟩)
 ·exact .inr h
theorem Same.upd {H:Hp}{a:Addr}{o:HO} (h:H a=none):Same H (upd H a o):=fun b u e=>by rw [Qan (QaA e h)]; exact e
mutual
def Rep (K:PySem.W.Frag) (H:Hp):V→PyData→Prop
 | v,.none=>v = .non
 | v,.bool b=>v = .bl b
 | v,.int i=>v = .int i
 | v,.str x=>v = .str x
 | v,.list ds=>∃a xs,v = .ref a∧SqL K H a xs∧QaF K H xs ds
 | v,.tuple ds=>∃a xs,v = .ref a∧SqT K H a xs∧QaF K H xs ds
 | _,.dict _=>False
def QaF (K:PySem.W.Frag) (H:Hp):List V→List PyData→Prop
 | xs,[]=>xs = []
 | xs,d::ds=>∃x r,xs=x::r∧Rep K H x d∧QaF K H r ds
end
mutual
theorem Rep.mono {K:PySem.W.Frag}{H H':Hp} (e:Same H H'):∀(d:PyData) {v:V},Rep K H v d→Rep K H' v d
 | .none,v,h=>by rw [Rep] at h ⊢; exact h
 | .bool b,v,h=>by rw [Rep] at h ⊢; exact h
 | .int i,v,h=>by rw [Rep] at h ⊢; exact h
 | .str x,v,h=>by rw [Rep] at h ⊢; exact h
 | .list ds,v,h=>by
  rw [Rep] at h ⊢;obtain ⟨a,xs,h1,h2,h3⟩:=h;exact ⟨a,xs,h1,e.seq h2,QaF.mono e ds h3⟩
 | .tuple ds,v,h=>by
  rw [Rep] at h ⊢;obtain ⟨a,xs,h1,h2,h3⟩:=h;exact ⟨a,xs,h1,e.seqT h2,QaF.mono e ds h3⟩
 | .dict _,v,h=>by rw [Rep] at h; exact h.elim
theorem QaF.mono {K:PySem.W.Frag}{H H':Hp} (e:Same H H'):∀(ds:List PyData) {xs:List V},QaF K H xs ds→QaF K H' xs ds
 | [],xs,h=>by rw [QaF] at h ⊢; exact h
 | d::ds,xs,h=>by
  rw [QaF] at h ⊢;obtain ⟨x,r,h1,h2,h3⟩:=h;exact ⟨x,r,h1,Rep.mono e d h2,QaF.mono e ds h3⟩
end
theorem QaF.nil {K:PySem.W.Frag}{H:Hp}:QaF K H [] []:=by rw [QaF]
theorem QaF.cons {K:PySem.W.Frag}{H:Hp}{x:V}{xs:List V}{d:PyData}{ds:List PyData} (h:Rep K H x d) (hs:QaF K H xs ds):QaF K H (x::xs) (d::ds):=by
 rw [QaF]; exact ⟨x,xs,rfl,h,hs⟩
theorem QaF.un {K:PySem.W.Frag}{H:Hp}{xs:List V}{d:PyData}{ds:List PyData} (h:QaF K H xs (d::ds)):∃x r,xs=x::r∧Rep K H x d∧QaF K H r ds:=by rw [QaF] at h; exact h
theorem QaF.un0 {K:PySem.W.Frag}{H:Hp}{xs:List V} (h:QaF K H xs []):xs = []:=by rw [QaF] at h; exact h
theorem Rep.unL {K:PySem.W.Frag}{H:Hp}{v:V}{ds:List PyData} (h:Rep K H v (.list ds)):∃a xs,v = .ref a∧SqL K H a xs∧QaF K H xs ds:=by rw [Rep] at h; exact h
theorem Rep.unT {K:PySem.W.Frag}{H:Hp}{v:V}{ds:List PyData} (h:Rep K H v (.tuple ds)):∃a xs,v = .ref a∧SqT K H a xs∧QaF K H xs ds:=by rw [Rep] at h; exact h
theorem Rep.unS {K:PySem.W.Frag}{H:Hp}{v:V}{x:Str} (h:Rep K H v (.str x)):v = .str x:=by rw [Rep] at h; exact h
theorem Rep.unI {K:PySem.W.Frag}{H:Hp}{v:V}{x:Int} (h:Rep K H v (.int x)):v = .int x:=by rw [Rep] at h; exact h
theorem Rep.s {K:PySem.W.Frag}{H:Hp}{x:Str}:Rep K H (.str x) (.str x):=by rw [Rep]
theorem Rep.i {K:PySem.W.Frag}{H:Hp}{x:Int}:Rep K H (.int x) (.int x):=by rw [Rep]
theorem Rep.b {K:PySem.W.Frag}{H:Hp}{x:Bool}:Rep K H (.bl x) (.bool x):=by rw [Rep]
theorem QaF.length {K:PySem.W.Frag}{H:Hp}:∀{ds:List PyData}{xs:List V},QaF K H xs ds→xs.length=ds.length
 | [],xs,h=>by rw [QaF] at h; rw [h]; rfl
 | d::ds,xs,h=>by
  rw [QaF] at h;obtain ⟨x,r,rfl,_,h3⟩:=h;simp [QaF.length h3]
theorem QaF.get {K:PySem.W.Frag}{H:Hp}:∀{ds:List PyData}{xs:List V}{i:Nat}{x:V},QaF K H xs ds→xs[i]? = some x→∃d,ds[i]? = some d∧Rep K H x d
 | [],xs,i,x,h,e=>by rw [QaF] at h; rw [h] at e; simp at e
 | d::ds,xs,i,x,h,e=>by
  rw [QaF] at h;obtain ⟨y,r,rfl,h2,h3⟩:=h
  cases i with
  | zero=>simp at e; subst e; exact ⟨d,rfl,h2⟩
  | succ i =>
   obtain ⟨d',e',q⟩:=QaF.get (i:=i) (x:=x) h3 (by simpa using e);exact ⟨d',by simpa using e',q⟩
theorem QaF.snoc {K:PySem.W.Frag}{H:Hp}{x:V}{d:PyData} (hx:Rep K H x d):∀{ds:List PyData}{xs:List V},QaF K H xs ds→QaF K H (xs ++ [x]) (ds ++ [d])
 | [],xs,h=>by rw [QaF] at h; rw [h]; exact QaF.cons hx QaF.nil
 | e::ds,xs,h=>by
  rw [QaF] at h;obtain ⟨y,r,rfl,h2,h3⟩:=h;exact QaF.cons h2 (QaF.snoc hx h3)
theorem QaF.append {K:PySem.W.Frag}{H:Hp}{ys:List V}{es:List PyData} (hy:QaF K H ys es):∀{ds:List PyData}{xs:List V},QaF K H xs ds→QaF K H (xs++ys) (ds++es)
 | [],xs,h=>by rw [QaF] at h; rw [h]; exact hy
 | e::ds,xs,h=>by
  rw [QaF] at h;obtain ⟨y,r,rfl,h2,h3⟩:=h;exact QaF.cons h2 (QaF.append hy h3)
theorem QaF.take {K:PySem.W.Frag}{H:Hp}:∀{ds:List PyData}{xs:List V} (n:Nat),QaF K H xs ds→QaF K H (xs.take n) (ds.take n)
 | _,_,0,_=>by simpa using QaF.nil
 | [],xs,n+1,h=>by rw [QaF] at h; rw [h]; simpa using QaF.nil
 | d::ds,xs,n+1,h=>by
  rw [QaF] at h;obtain ⟨y,r,rfl,h2,h3⟩:=h;exact QaF.cons h2 (QaF.take n h3)
theorem QaF.drop {K:PySem.W.Frag}{H:Hp}:∀{ds:List PyData}{xs:List V} (n:Nat),QaF K H xs ds→QaF K H (xs.drop n) (ds.drop n)
 | _,_,0,h=>by simpa using h
 | [],xs,n+1,h=>by rw [QaF] at h; rw [h]; simpa using QaF.nil
 | d::ds,xs,n+1,h=>by
  rw [QaF] at h;obtain ⟨y,r,rfl,h2,h3⟩:=h;exact QaF.drop n h3
section
variable {X:Cx}{pins:List (Addr×Obj)}{σ:St}{H:Hp}{s:Shared}
mutual
theorem Rep.reads (I:Inv X pins σ H s):∀(d:PyData) {v:V}{u:Value},Rep X.K H v d→RelV v u→∃as,Reads s.heap u d as
 | .none,v,u,h,r=>by rw [Rep] at h; subst h; cases (show u = .none from r); exact ⟨_,.none⟩
 | .bool b,v,u,h,r=>by rw [Rep] at h; subst h; cases (show u = .bool b from r); exact ⟨_,.bool b⟩
 | .int i,v,u,h,r=>by rw [Rep] at h; subst h; obtain ⟨t,rfl⟩:=(show ∃t,u = .int i t from r); exact ⟨_,.int i t⟩
 | .str x,v,u,h,r=>by rw [Rep] at h; subst h; obtain ⟨t,rfl⟩:=(show ∃t,u = .str x t from r); exact ⟨_,.str x t⟩
 | .list ds,v,u,h,r=>by
  rw [Rep] at h;obtain ⟨a,xs,rfl,h2,h3⟩:=h;cases (show u = .ref a from r);obtain ⟨its,rv,pl,_⟩:=I.list h2;obtain ⟨as,q⟩:=QaF.reads I ds h3 rv;obtain ⟨o,ho,hc,n,hd⟩:=pl.isList;exact ⟨_,.list ho hc hd (by simpa using q)⟩
 | .tuple ds,v,u,h,r=>by
  rw [Rep] at h;obtain ⟨a,xs,rfl,h2,h3⟩:=h;cases (show u = .ref a from r);obtain ⟨its,rv,pl,_⟩:=I.tuple h2;obtain ⟨as,q⟩:=QaF.reads I ds h3 rv;obtain ⟨o,ho,hc,n,hd⟩:=pl;exact ⟨_,.tuple ho hc hd (by simpa using q)⟩
 | .dict _,v,u,h,r=>by rw [Rep] at h; exact h.elim
theorem QaF.reads (I:Inv X pins σ H s):∀(ds:List PyData) {xs:List V}{us:List Value},QaF X.K H xs ds→Qaz xs us→∃as,ReadsAll s.heap us ds as
 | [],xs,us,h,r=>by rw [QaF] at h; subst h; cases r; exact ⟨_,.nil⟩
 | d::ds,xs,us,h,r=>by
  rw [QaF] at h;obtain ⟨x,rest,rfl,h2,h3⟩:=h
  cases r with
  | cons r1 r2 =>
   obtain ⟨as,q⟩:=Rep.reads I d h2 r1;obtain ⟨bs,q'⟩:=QaF.reads I ds h3 r2;exact ⟨_,.cons q q'⟩
end
end
def okD (d:PyData):Bool:=d.canLay0&&decide (d.depth≤60)
def QrI (K:PySem.W.Frag) (neg:Bool):R2:=fun x y H Q=>∃d e,Rep K H x d∧Rep K H y e∧okD d=true∧okD e=true∧Q (.bl (if neg then !PyData.eqv d e else PyData.eqv d e)) H
section
variable {X:Cx}
theorem QrT {k:Nat} (hr:QaR k X.A):OpR X (compareOp .Eq) (QrI X.K false):=by
 intro pins s σ H x y v u Q I rx ry h;obtain ⟨d,e,h1,h2,k1,k2,q⟩:=h;obtain ⟨as,r1⟩:=Rep.reads I d h1 rx;obtain ⟨bs,r2⟩:=Rep.reads I e h2 ry;unfold okD at k1 k2;simp only [zg,decide_eq_true_eq] at k1 k2;exact SeqAt.compareEq_reads r1 r2 k1.1 k2.1 (by have:=hr.units; omega) ⟨.bl _,H,I,rfl,q⟩
theorem Qte {k:Nat} (hr:QaR k X.A):OpR X (compareOp .NotEq) (QrI X.K true):=by
 intro pins s σ H x y v u Q I rx ry h;obtain ⟨d,e,h1,h2,k1,k2,q⟩:=h;obtain ⟨as,r1⟩:=Rep.reads I d h1 rx;obtain ⟨bs,r2⟩:=Rep.reads I e h2 ry;unfold okD at k1 k2;simp only [zg,decide_eq_true_eq] at k1 k2;exact SeqAt.compareNe_reads r1 r2 k1.1 k2.1 (by have:=hr.units; omega) ⟨.bl _,H,I,rfl,q⟩
end
def S (l:List Nat):Str:=⟨l.toArray⟩
theorem QgK (l:List Nat):(S l).cps.toList=l:=by simp [S]
theorem Qb4 (l:List Nat):(S l).length=l.length:=by simp [S,Str.length]
theorem Qos (a b:List Nat):S a++S b=S (a++b):=by
 show Str.mk _=Str.mk _;simp [S]
theorem QpK {a b:List Nat} (h:S a=S b):a=b:=by have:=congrArg (fun x:Str=>x.cps.toList) h; simpa [QgK] using this
section
variable {X:Cx}
theorem QmW:OpR X (compareOp .LtE) (fun x y H Q=>∃i j,x = .str i∧y = .str j∧Q (.bl (!decide (j.cps.toList < i.cps.toList))) H):=by
 intro pins s σ H x y v u Q I rx ry h;obtain ⟨i,j,rfl,rfl,q⟩:=h;obtain ⟨t,rfl⟩:=rx;obtain ⟨t',rfl⟩:=ry;exact P.le_str ⟨.bl _,H,I,rfl,q⟩
theorem QnT:OpR X (compareOp .In) (fun x y H Q=>∃c l,x = .str (S [c])∧y = .str (S l)∧Q (.bl (decide (c∈l))) H):=by
 intro pins s σ H x y v u Q I rx ry h;obtain ⟨c,l,rfl,rfl,q⟩:=h;refine Qm8 pins s σ H _ _ v u Q I rx ry ⟨S [c],S l,rfl,rfl,?_⟩;have e:=PySem.StrLaws.found_one (S l) c;rw [QgK] at e;show Q (.bl (!(Builtin.Str.occurrences (S l) (S [c]) 0 (S l).length 1).isEmpty)) H;rw [show S [c]=⟨#[c]⟩ from rfl,e];exact q
def Its (l:List Nat):It:=⟨fun i _=>i < l.length,fun i H x H'=>H'=H∧∃c,l[i]? = some c∧x = .str (S [c]),fun i _=>l.length≤i⟩
theorem Qpf {P:Program}{w:World}{K:PySem.W.Frag}{tg:Expr} (l:List Nat) (it:Addr) (t:Tok):Turn P w K tg (Its l) [it] it (fun i h=>h.IsStrIter it "str_ascii_iterator" (S l) t i) where
 mem:=by simp
 obj:=fun i h st b hb=>by
  have e:b=it:=by simpa using hb
  subst e;obtain ⟨o,e,c,d⟩:=st;exact ⟨o,e,fun v z=>by rw [d] at z; cases z⟩
 keep:=fun i h h' st k=>let ⟨o,ho,r⟩:=st; ⟨o,k it (by simp) o ho,r⟩
 item:=by
  intro X hP hw hK hc i pins s σ H E I hf st hg;subst hP hw hK;obtain ⟨f0,f1,f2,f3,f4,f5⟩:=hf it (by simp);have hg':i < l.length:=hg
  refine wpAny_pyNext_ascii_item st (c:=l[i]) (by simp [S,hg']) fun h' st' sb=>?_
  have I1:Inv X pins σ H { s with heap:=h',toks:=s.toks+1 }:=I.turned (fun b o hb e=>(sb.2 b hb).trans e) f0 f1 f3 f4 f5;obtain ⟨o,e,c,d⟩:=id st';exact ⟨_,rfl,QjT (s:={ s with heap:=h',toks:=s.toks+1 }) e c d (by decide) ⟨.str (S [l[i]]),H,I1,⟨_,rfl⟩,⟨rfl,l[i],by simp [hg'],rfl⟩,st',fun b hb=>(hf b hb).1⟩⟩
 done:=by
  intro X hP hw hK hc i pins s σ H E I hf st hg;subst hP hw hK;obtain ⟨f0,f1,f2,f3,f4,f5⟩:=hf it (by simp);have hg':l.length≤i:=hg
  exact wpAny_pyNext_ascii_end (I.ok.hd hc) st (by simp [S,hg']) fun h' eb=>⟨rfl,I.turned (t':=s.toks) (fun b o hb e=>eb b o hb e) f0 f1 f3 f4 f5⟩
 self:=fun _ _ _ _ _ st h=>wpAny_pyIter_striter_ascii st h
def ascii (l:List Nat):Bool:=l.all (· < 128)
def Qvg (tl:TE):TI:=fun σ H R=>tl σ H fun x H1=>∃l,x = .str (S l)∧ascii l=true∧R (Its l) H1
theorem Qrr {tg e:Expr}{tl:TE} (hl:PE X e tl):PI X tg e (Qvg tl):=by
 intro pins s σ H R I h
 refine thn (hl pins s σ H _ I h) fun v s1 ⟨x,H1,I1,r1,q1⟩=>?_
 obtain ⟨l,e,ha,q⟩:=q1;subst e;obtain ⟨t,rfl⟩:=r1;refine wpAny_pyIter_ascii (by simpa [S,ascii] using ha) ?_;refine ⟨s1.heap.objs.size,[s1.heap.objs.size],_,_,H1,rfl,I1.kept (t':=s1.toks) fun b o e=>zf _ e,Qpf l _ t,⟨_,zD _ rfl,rfl,rfl⟩,fun b hb=>?_,q⟩
 have e:b=s1.heap.objs.size:=by simpa using hb
 subst e;exact I1.fpOk (zc _) (I1.hok.fresh (zc _))
theorem Qnp (hc:X.calm=true):QdK X (.builtin "all") (fun xs H Q=>∃(a:Addr) (bs:List Bool),xs = [.ref a]∧SqL X.K H a (bs.map V.bl)∧Q (.bl (bs.all id)) H):=by
 intro pins s σ H xs us Q I r h;obtain ⟨a,bs,rfl,ha,q⟩:=h;obtain ⟨u,rfl,ru⟩:=vals1 r;cases ru;obtain ⟨its,rv,p,hz⟩:=I.list ha;refine call_all_walk (wpAny_pyIter_list p.isList ?_);have hne:a≠s.heap.objs.size:=zl (zd p.isList.choose_spec.1)
 refine ⟨s.heap.objs.size,_,_,its.toArray.size,_,_,fun i=>bs.getD i true,rfl,Walks.list (A:=X.A.in1) (I.ok.hd hc) s.heap.objs.size a hne its.toArray,
  ⟨⟨_,zD _ rfl,rfl,rfl⟩,p.isList.at fun o e=>zf _ e⟩,fun i v s' Q' E' hv hq=>?_,fun h' tk hk=>?_⟩
 ·have hb:(bs.map V.bl)[i]? = some (V.bl (bs.getD i true)):=by
   have hi:i < its.length:=by
    have z:=Array.getElem?_eq_some_iff.mp hv;simpa using z.1
   have hl:=rv.length;rw [zo] at hl;rw [zB,zy (by omega),zO,zy (by omega)];rfl
  obtain ⟨u,hu,ru⟩:=rv.get hb
  have hv':its[i]? = some v:=by simpa using hv
  rw [hv'] at hu;cases hu;cases (show v = .bool _ from ru);exact wpAny_truthy_bool hq
 ·refine ⟨.bl (bs.all id),H,I.kept fun b o e=>hk b o (fun z=>?_) (zf _ e),?_,q⟩
  ·have z':b=s.heap.objs.size:=by simpa using z
   exact absurd (zd e) (by rw [z']; exact zH _)
  ·have hl:its.length=bs.length:=by have:=rv.length; rw [zo] at this; exact this.symm
   have e:(List.range its.toArray.size).all (fun i=>bs.getD i true)=bs.all id:=by
    rw [zp,hl];rw [Bool.eq_iff_iff,jh,jh];constructor
    ·intro h x hx;obtain ⟨i,hi,rfl⟩:=List.mem_iff_getElem.mp hx
     have:=h i (List.mem_range.mpr hi)
     rw [zO,zy hi] at this;exact this
    ·intro h i hi;have hi':=List.mem_range.mp hi;rw [zO,zy hi'];exact h _ (jd hi')
   show Value.bool _=Value.bool _;rw [e]
end
structure Blt (mg:Str→Option Value):Prop where
 len_:mg "len" = none
 isinstance_:mg "isinstance" = none
 all_:mg "all" = none
 sum_:mg "sum" = none
 max_:mg "max" = none
 min_:mg "min" = none
 int_:mg "int" = none
 str_:mg "str" = none
 bool_:mg "bool" = none
 list_:mg "list" = none
 tuple_:mg "tuple" = none
 dict_:mg "dict" = none
 range_:mg "range" = none
 enumerate_:mg "enumerate" = none
 zip_:mg "zip" = none
section
variable {X:Cx}
theorem Qkz {x:Str}{v:V}{pos:Pos} (h:∃u,X.mg x=some u∧RelV v u) (hg:Gl X x:=by rfl) (hd:(x == ("__debug__":Str))=false:=by decide):PE X (.Name x pos) (tC v):=by
 obtain ⟨u,hm,r⟩:=h;exact Qi8 hg hm r hd
end
def QcF {α:Type} (l:List α) (lo hi:Option Int):List α:=(l.drop (HT.sIx l.length 0 lo)).take (HT.sIx l.length l.length hi - HT.sIx l.length 0 lo)
theorem QlK (l:List Nat) (lo hi:Option Int):Txt.slice (S l) lo hi=S (QcF l lo hi):=by
 obtain ⟨h1,h2,h3⟩:=Qhi lo hi l.length
 have e:Builtin.Str.strSliceIndices lo hi 1 (S l).length=(List.range (HT.sIx l.length l.length hi - HT.sIx l.length 0 lo)).map (HT.sIx l.length 0 lo + ·):=by
  rw [Qb4];show sliceRange (sliceBounds lo hi none l.length).1 (sliceBounds lo hi none l.length).2.1 (sliceBounds lo hi none l.length).2.2=_;rw [h1,h2,h3,sliceRange_one]
 unfold Txt.slice;rw [e,pick_run,QgK]
 split
 ·rename_i h
  have hl:HT.sIx l.length l.length hi - HT.sIx l.length 0 lo=l.length:=by simpa [Qb4] using h
  have hle:HT.sIx l.length l.length hi≤l.length:=HT.sIx_le _ _ (zc _) hi;have hlo:HT.sIx l.length 0 lo≤l.length:=HT.sIx_le _ _ (Nat.zero_le _) lo
  have h0:HT.sIx l.length 0 lo=0:=by omega
  have h1:HT.sIx l.length l.length hi=l.length:=by omega
  unfold QcF;rw [h0,h1];simp
 ·rfl
section
variable {X:Cx}
def QuU:V→Option Int→Option Int→Hp→VK→Prop:=fun x lo hi H Q=>∃l,x = .str (S l)∧l.length≤sizeLine∧Q (.str (S (QcF l lo hi))) H
theorem part_of {v:Value}{o:Option Int} (p:IsPart v o):∃q:Option (Int×Tok),v=partValue q∧q.map (·.1)=o:=by
 cases p with
 | none=>exact ⟨none,rfl,rfl⟩
 | int i t=>exact ⟨some (i,t),rfl,rfl⟩
theorem QsS:SlR X QuU:=by
 intro pins s σ H x v vl vu lo hi sl Q I rx hs pl pu h;obtain ⟨l,rfl,hz,q⟩:=h;obtain ⟨t,rfl⟩:=rx;obtain ⟨ql,rfl,e1⟩:=part_of pl;obtain ⟨qu,rfl,e2⟩:=part_of pu;refine ⟨"str",_,F.slot_str_getitem.lookup,typeIs_str _ _ _,?_⟩;refine wpAny_getItem_str_slice (l:=ql) (u:=qu) (st:=none) hs rfl ?_;have key:(if ((1:Int) == 1&&(Builtin.Str.strSliceIndices lo hi 1 (S l).length).length == (S l).length)=true then S l else ⟨((Builtin.Str.strSliceIndices lo hi 1 (S l).length).filterMap ((S l).cps[·]?)).toArray⟩)=S (QcF l lo hi):=QlK l lo hi;unfold sliceMade slicePicked;rw [e1,e2];refine post_val_or_str ⟨?_,fun t' k=>?_⟩
 ·show (Txt.slice (S l) lo hi).length≤_;exact zz (Txt.slice_le _ _ _) (by rw [Qb4]; exact hz)
 ·have e3:=QlK l lo hi;unfold Txt.slice at e3;show EP X pins σ Q (.str (if ((1:Int) == 1&&(Builtin.Str.strSliceIndices lo hi 1 (S l).length).length == (S l).length)=true then S l else ⟨((Builtin.Str.strSliceIndices lo hi 1 (S l).length).filterMap ((S l).cps[·]?)).toArray⟩) t') { s with toks:=k };rw [e3];exact ⟨.str _,H,I.tok k,⟨t',rfl⟩,q⟩
end
namespace HT2
theorem getItem_tuple_whole {prog:Program}{w:World}{A:Around}{E:Value→Shared→Prop}{s:Shared}{t sl:Addr}{items:Array Value}{vl vu:Value}{lo hi:Option Int}{Q:Value→Shared→Prop} (ht:IsTup s.heap t items) (hs:s.heap.IsSliceOf sl vl vu .none) (pl:IsPart vl lo) (pu:IsPart vu hi)
  (hw:HT.sIx items.size 0 lo=0∧HT.sIx items.size items.size hi=items.size) (h:Q (.ref t) s):wpAny (model prog w) A (getItem (.ref t) (.ref sl)) Q E s:=by
 obtain ⟨os,hos,hcs,hds⟩:=id hs;have hTs:s.TypeIs (.ref sl) "slice":=⟨os,hos,hcs⟩;unfold getItem
 try with_reducible refine zC ?_
 first | refine za (zb ?_) | skip
 refine za (wpAny_sequenceKey ht.typeIs (by decide) ?_)
 refine za (wpAny_callSpecial?_slot (name:=Str.ofString "__getitem__") ht.typeIs PyProof.Rows.slot_tuple_getitem
  (wpAny_call_entry PyProof.Rows.slot_tuple_getitem ht.typeIs entry_tuple_getitem ?_ (args_tuple_getitem _ _)))
 show wpAny _ _ (Builtin.Tuple.tupleItemsOf (.ref t) >>= _) _ _ s;refine za (tupleItemsOf_ ht ?_);refine za (wpAny_typeOf hTs ?_);rw [if_pos (by decide)];refine za (HT.sliceApplied_gen hs pl pu ?_)
 have hyes:(((HT.sIx items.size 0 lo:Nat):Int) == 0&&(1:Int) == 1&&(HT.sIx items.size items.size hi - HT.sIx items.size 0 lo) == items.size)=true:=by
  rw [hw.1,hw.2];simp
 show wpAny _ _ (if (((HT.sIx items.size 0 lo:Nat):Int) == 0&&(1:Int) == 1&&(HT.sIx items.size items.size hi - HT.sIx items.size 0 lo) == items.size)=true then _ else _) _ _ s;rw [if_pos hyes]
 have hex:∀{A':Around}{E':Value→Shared→Prop}{Q':Bool→Shared→Prop},Q' true s→wpAny (model prog w) A' (Builtin.Tuple.tupleIsExact (.ref t)) Q' E' s:=fun {A' E' Q'} hq=>by
  unfold Builtin.Tuple.tupleIsExact;exact za (wpAny_typeOf ht.typeIs (zb hq))
 refine za (hex ?_);rw [if_pos rfl];exact za (zT (zb ⟨_,rfl,zb h⟩))
end HT2
section
variable {X:Cx}
def QtN (K:PySem.W.Frag):V→Option Int→Option Int→Hp→VK→Prop:=fun x lo hi H Q=>∃a xs,x = .ref a∧SqT K H a xs ∧
 ((HT.sIx xs.length 0 lo=0∧HT.sIx xs.length xs.length hi=xs.length)→Q (.ref a) H)∧(¬(HT.sIx xs.length 0 lo=0∧HT.sIx xs.length xs.length hi=xs.length)→∀p,H p=none→Q (.ref p) (upd H p (.tup (QgE xs lo hi))))
theorem Qqw (K:PySem.W.Frag) (hK:X.K=K:=by rfl):SlR X (QtN K):=by
 subst hK;intro pins s σ H x v vl vu lo hi sl Q I rx hs pl pu h;obtain ⟨a,xs,rfl,hx,q1,q2⟩:=h
 by_cases hw:HT.sIx xs.length 0 lo=0∧HT.sIx xs.length xs.length hi=xs.length
 ·cases rx;obtain ⟨its,r,ht,hz⟩:=I.tuple hx
  have hlen:its.toArray.size=xs.length:=by rw [zp]; exact r.length.symm
  exact ⟨"tuple",_,PyProof.Rows.slot_tuple_getitem.lookup,ht.typeIs,HT2.getItem_tuple_whole ht hs pl pu (by rw [hlen]; exact hw) ⟨.ref a,H,I,rfl,q1 hw⟩⟩
 ·exact Qsf pins s σ H _ v vl vu lo hi sl Q I rx hs pl pu ⟨a,xs,rfl,hx,hw,q2 hw⟩
inductive TyQ (K:PySem.W.Frag) (H:Hp):V→String→Prop where
 | non:TyQ K H .non "NoneType"
 | bl (x:Bool):TyQ K H (.bl x) "bool"
 | int (i:Int):TyQ K H (.int i) "int"
 | str (x:Str):TyQ K H (.str x) "str"
 | lst {a:Addr}{xs:List V} (e:SqL K H a xs):TyQ K H (.ref a) "list"
 | tup {a:Addr}{xs:List V} (e:SqT K H a xs):TyQ K H (.ref a) "tuple"
 | dK {a:Addr}{kvs:List (Key×V)} (e:H a=some (.dK kvs)):TyQ K H (.ref a) "dict"
def Qu8 (K:PySem.W.Frag):List V→Hp→VK→Prop:=fun xs H Q=>∃x n t b,xs = [x,.ty n]∧TyQ K H x t∧PySem.W.kitOne K (.type t) (.type n)=some b∧Q (.bl b) H
theorem Qok (K:PySem.W.Frag) (hK:X.K=K:=by rfl):QdK X (.builtin "isinstance") (Qu8 K):=by
 subst hK;intro pins s σ H xs us Q I r h;obtain ⟨x,n,t,b,rfl,ty,e,q⟩:=h;obtain ⟨u,c,rfl,r1,r2⟩:=vals2 r;cases (show c = .type n from r2)
 have fin:∀tk,EP X pins σ Q (.bool b) { s with toks:=tk }:=fun tk=>⟨.bl b,H,I.tok tk,rfl,q⟩
 cases ty with
 | non=>exact Qev I r1 .non e fin
 | bl y=>exact Qev I r1 (.bl y) e fin
 | int i=>exact Qev I r1 (.int i) e fin
 | str y=>exact Qev I r1 (.str y) e fin
 | @lst a xs ea =>
  cases (show u=Value.ref a from r1);obtain ⟨its,_,p,_⟩:=I.list ea;obtain ⟨o,ho,hc,_⟩:=p.isList;exact PySem.W.kia_one PySem.W.kitx_list I.kIn ⟨o,ho,hc⟩ e (fun z=>nomatch z) fin
 | @tup a xs ea =>
  cases (show u=Value.ref a from r1);obtain ⟨its,_,p,_⟩:=I.tuple ea;obtain ⟨o,ho,hc,_⟩:=p;exact PySem.W.kia_one PySem.W.kitx_tuple I.kIn ⟨o,ho,hc⟩ e (fun z=>nomatch z) fin
 | @dK a kvs ea=>exact Qev I r1 (.dK ea) e fin
theorem Qow (K:PySem.W.Frag) (n:String):PySem.W.kitOne K (.type n) (.type n)=some true:=by
 unfold PySem.W.kitOne;rw [if_pos (beq_self_eq_true _)]
end
theorem Qlw:∀{ds:List PyData},(∀d∈ds,d.canLay0=true)→PyData.canLayAll0 ds=true
 | [],_=>rfl
 | d::ds,h=>by rw [PyData.canLayAll0,h d zK,Qlw fun x hx=>h x (zE _ hx)]; rfl
theorem QkX {n:Nat}:∀{ds:List PyData},(∀d∈ds,d.depth≤n)→PyData.depthAll ds≤n
 | [],_=>by rw [PyData.depthAll]; exact Nat.zero_le _
 | d::ds,h=>by
  rw [PyData.depthAll];exact Nat.max_le.mpr ⟨h d zK,QkX fun x hx=>h x (zE _ hx)⟩
theorem Qrg {n:Nat} (hn:n < 60) {ds:List PyData} (h:∀d∈ds,d.canLay0=true∧d.depth≤n):okD (.list ds)=true:=by
 unfold okD;rw [zg];refine ⟨?_,zh ?_⟩
 ·show PyData.canLayAll0 ds=true
  exact Qlw fun d hd=>(h d hd).1
 ·show PyData.depthAll ds+1≤60
  have:=QkX fun d hd=>(h d hd).2
  omega
section
variable {X:Cx}
def Qtx:R2:=fun x y H Q=>∃(l:List Nat) (n:Int),x = .str (S l)∧y = .int n∧-1000000 < n∧n < 1000000∧l.length * n.toNat≤16777216∧Q (.str (S (List.replicate n.toNat l).flatten)) H
theorem QpV (l:List Nat):∀(n:Nat) (a:Array Nat),(List.replicate n (S l).cps).foldl (· ++ ·) a=a++(List.replicate n l).flatten.toArray
 | 0,a=>by simp
 | n+1,a=>by
  rw [List.replicate_succ,List.foldl_cons,QpV l n,List.replicate_succ,List.flatten_cons];simp [S]
theorem QmL:OpR X (binaryOp .Mult) Qtx:=by
 intro pins s σ H x y v u Q I rx ry h;obtain ⟨l,n,rfl,rfl,h1,h2,h3,q⟩:=h;obtain ⟨t,rfl⟩:=rx;obtain ⟨t',rfl⟩:=ry;have hs:sizeLine=16777216:=sizeLine_eq
 by_cases hn:n < 1
 ·have e0:n.toNat=0:=by omega
  rw [e0] at q;exact P.mul_str_none hn (by omega) ⟨.str (S []),H,I.tok _,⟨s.toks,rfl⟩,q⟩
 refine P.mul_str ?_ (fun _ _=>?_) (fun _ _=>?_) ?_
 ·rw [zm (by omega),zm (by omega)];rfl
 ·rw [Qb4];intro hz
  have h4:(l.length:Int) * n≤16777216:=by
   have:((l.length * n.toNat:Nat):Int)≤16777216:=by omega
   rw [Int.natCast_mul,Int.toNat_of_nonneg (by omega)] at this;exact this
  have h5:(2 ^ 63 - 1) / n < (l.length:Int):=hz;have h6:=(Int.ediv_lt_iff_lt_mul (show 0 < n by omega)).mp h5;omega
 ·rw [Qb4];unfold Builtin.Str.tooLong;exact zm (by omega)
 ·rw [if_neg (by omega)]
  by_cases hl:(n == 1 || (S l).length == 0)=true
  ·rw [if_pos hl]
   have e:(List.replicate n.toNat l).flatten=l:=by
    rw [Bool.or_eq_true,beq_iff_eq,beq_iff_eq,Qb4] at hl
    rcases hl with z | z
    ·rw [z];show (List.replicate 1 l).flatten=l;simp
    ·have z':=List.eq_nil_of_length_eq_zero z;subst z';rw [List.flatten_eq_nil_iff];intro x hx;exact (List.mem_replicate.mp hx).2
   rw [e] at q;exact ⟨.str (S l),H,I,⟨t,rfl⟩,q⟩
  ·rw [if_neg hl,QpV];refine ⟨?_,.str (S (List.replicate n.toNat l).flatten),H,I.tok _,⟨s.toks,?_⟩,q⟩
   ·show (#[]++(List.replicate n.toNat l).flatten.toArray).size≤sizeLine;simp only [Array.size_append,zp,List.length_flatten,List.map_replicate,List.sum_replicate_nat];simp;rw [Nat.mul_comm];omega
   ·congr 1;simp [S]
end
inductive D where
 | non | bl (b:Bool) | int (i:Int) | str (l:List Nat) | lst (ds:List D) | tup (ds:List D) | dic (ks vs:List D) | ob (n:Nat)
inductive Ob where
 | ins (c:Str) (fs:List (Str×D))
 | ml (ds:List D)
 | dt (kvs:List (List Key×D))
 | df (kvs:List (List Key×D))
 | dk (kvs:List (Key×D))
 | xc (c:Str) (fs:List (Str×D))
abbrev Qae:=List Ob
abbrev Qam:=List (Option D)
structure Xc where
 cls:Str
 fs:List (Str×D)
inductive Res (α:Type) where
 | ok (a:α) (O:Qae) | ex (x:Xc) (O:Qae) | no
inductive Fl where
 | nx (ρ:Qam) (O:Qae) | rt (d:D) (O:Qae) | bk (ρ:Qam) (O:Qae) | ct (ρ:Qam) (O:Qae) | ex (x:Xc) (O:Qae) | no
abbrev M (α:Type):=Qam→Qae→Res α
abbrev MS:=Qam→Qae→Fl
def Res.bind {α β:Type} (r:Res α) (f:α→Qae→Res β):Res β:=match r with
 | .ok a O=>f a O
 | .ex x O=>.ex x O
 | .no=>.no
theorem Res.bind_ok {α β:Type}{r:Res α}{f:α→Qae→Res β}{b:β}{O':Qae} (h:r.bind f = .ok b O'):∃a O,r = .ok a O∧f a O = .ok b O':=by
 cases r with
 | ok a O=>exact ⟨a,O,rfl,h⟩
 | ex x O=>cases h
 | no=>cases h
def QkG:Expr→Bool
 | .Starred _ _=>false
 | _=>true
theorem Qbq {e:Expr}{es:List Expr}{env:Env} (h:QkG e=true):starEach (e::es) env=(false,eval e env)::starEach es env:=by
 cases e <;> first | rfl | cases h
theorem QbL {pos:Pos}{env:Env}:∀{es:List Expr},es.all QkG=true→(backTo pos (starEach es env)).any (·.1)=false
 | [],_=>by simp [starEach,backTo]
 | e::es,h=>by
  rw [List.all_cons,zg] at h;rw [Qbq h.1];show (false || (backTo pos (starEach es env)).any (·.1))=false;rw [QbL h.2];rfl
theorem QhG {e:Expr}{env:Env} (h:QkG e=true):starEach [e] env = [(false,eval e env)]:=by rw [Qbq h]; simp [starEach]
abbrev Frag:=PySem.W.Frag
def Qhd:Key→D
 | .inl i=>.int i
 | .inr x=>.str x.cps.toList
def RdK (K:Frag) (H:Hp) (a:Addr) (xs:List V):Prop:=Rd H a (.lst xs)∨∃(its:List Value) (n:Nat),K.lookup a=some { cls:=.type "list",data:=.seq its.toArray n }∧its.length≤sizeLine∧Qaz xs its
theorem RdK.sq {K:Frag}{H:Hp}{a:Addr}{xs:List V} (h:RdK K H a xs):SqL K H a xs:=by
 rcases h with h | ⟨its,n,h1,h2,h3⟩
 ·exact .inl h
 ·exact .inr ⟨_,its.toArray,n,h1,rfl,rfl,rfl,by simpa using h2,by simpa using h3⟩
theorem RdK.ok {X:Cx}{pins:List (Addr×Obj)}{σ:St}{H:Hp}{s:Shared}{a:Addr}{xs:List V} (h:RdK X.K H a xs) (I:Inv X pins σ H s):xs.length≤sizeLine∧∃(its:List Value) (n:Nat),Qaz xs its∧s.heap.get? a=some { cls:=.type "list",data:=.seq its.toArray n }:=by
 rcases h with h | ⟨its,n,h1,h2,h3⟩
 ·exact h.ok I.hok
 ·exact ⟨by rw [h3.length]; exact h2,its,n,h3,I.kIn a _ h1⟩
def TqT (K:Frag) (F:Hp) (a:Addr) (xs:List V):Prop :=
 F a=some (.tup xs)∨∃(o:Obj) (its:Array Value) (n:Nat),K.lookup a=some o∧o.cls = .type "tuple"∧o.data = .seq its n∧its.size≤sizeLine∧Qaz xs its.toList
theorem TqT.sq {K:Frag}{F:Hp}{a:Addr}{xs:List V} (h:TqT K F a xs):SqT K F a xs:=h.imp .inl id
mutual
def Rp (K:Frag) (F:Hp) (as:List Addr):V→D→Prop
 | v,.non=>v = .non
 | v,.bl b=>v = .bl b
 | v,.int i=>v = .int i
 | v,.str l=>v = .str (S l)
 | v,.lst ds=>∃a xs,v = .ref a∧RdK K F a xs∧Rps K F as xs ds
 | v,.tup ds=>∃a xs,v = .ref a∧TqT K F a xs∧Rps K F as xs ds
 | v,.dic ks vs=>∃(a:Addr) (kvs:List (Key×V)),v = .ref a∧F a=some (.dK kvs)∧ks=kvs.map (fun p=>Qhd p.1)∧Rps K F as (kvs.map (·.2)) vs
 | v,.ob n=>∃a,v = .ref a∧as[n]? = some a
def Rps (K:Frag) (F:Hp) (as:List Addr):List V→List D→Prop
 | xs,[]=>xs = []
 | xs,d::ds=>∃x r,xs=x::r∧Rp K F as x d∧Rps K F as r ds
end
section
variable {K:Frag}{F F':Hp}{as as':List Addr}
theorem Rd.mono {H H':Hp}{a:Addr}{u:HO} (e:Same H H') (h:Rd H a u):Rd H' a u:=by
 rcases h with h | ⟨o,h⟩
 ·exact .inl (e _ _ h)
 ·exact .inr ⟨o,e _ _ h⟩
theorem RdK.mono {H H':Hp}{a:Addr}{xs:List V} (e:Same H H') (h:RdK K H a xs):RdK K H' a xs:=h.imp (fun z=>z.mono e) id
mutual
theorem Rp.mono (e:Same F F') (ea:∀(n:Nat) (a:Addr),as[n]? = some a→as'[n]? = some a):∀(d:D) {v:V},Rp K F as v d→Rp K F' as' v d
 | .non,v,h=>by rw [Rp] at h ⊢; exact h
 | .bl b,v,h=>by rw [Rp] at h ⊢; exact h
 | .int i,v,h=>by rw [Rp] at h ⊢; exact h
 | .str x,v,h=>by rw [Rp] at h ⊢; exact h
 | .lst ds,v,h=>by
  rw [Rp] at h ⊢;obtain ⟨a,xs,h1,h2,h3⟩:=h;exact ⟨a,xs,h1,h2.mono e,Rps.mono e ea ds h3⟩
 | .tup ds,v,h=>by
  rw [Rp] at h ⊢;obtain ⟨a,xs,h1,h2,h3⟩:=h;exact ⟨a,xs,h1,h2.imp (e _ _) id,Rps.mono e ea ds h3⟩
 | .dic ks vs,v,h=>by
  rw [Rp] at h ⊢;obtain ⟨a,kvs,h1,h2,h3,h4⟩:=h;exact ⟨a,kvs,h1,e _ _ h2,h3,Rps.mono e ea vs h4⟩
 | .ob n,v,h=>by
  rw [Rp] at h ⊢;obtain ⟨a,h1,h2⟩:=h;exact ⟨a,h1,ea _ _ h2⟩
theorem Rps.mono (e:Same F F') (ea:∀(n:Nat) (a:Addr),as[n]? = some a→as'[n]? = some a):∀(ds:List D) {xs:List V},Rps K F as xs ds→Rps K F' as' xs ds
 | [],xs,h=>by rw [Rps] at h ⊢; exact h
 | d::ds,xs,h=>by
  rw [Rps] at h ⊢;obtain ⟨x,r,h1,h2,h3⟩:=h;exact ⟨x,r,h1,Rp.mono e ea d h2,Rps.mono e ea ds h3⟩
end
theorem Rp.non:Rp K F as .non .non:=by rw [Rp]
theorem Rp.bl {b:Bool}:Rp K F as (.bl b) (.bl b):=by rw [Rp]
theorem Rp.int {i:Int}:Rp K F as (.int i) (.int i):=by rw [Rp]
theorem Rp.str {l:List Nat}:Rp K F as (.str (S l)) (.str l):=by rw [Rp]
theorem Rp.unN {v:V} (h:Rp K F as v .non):v = .non:=by rw [Rp] at h; exact h
theorem Rp.unB {v:V}{b:Bool} (h:Rp K F as v (.bl b)):v = .bl b:=by rw [Rp] at h; exact h
theorem Rp.unI {v:V}{i:Int} (h:Rp K F as v (.int i)):v = .int i:=by rw [Rp] at h; exact h
theorem Rp.unS {v:V}{l:List Nat} (h:Rp K F as v (.str l)):v = .str (S l):=by rw [Rp] at h; exact h
theorem Rp.unL {v:V}{ds:List D} (h:Rp K F as v (.lst ds)):∃a xs,v = .ref a∧RdK K F a xs∧Rps K F as xs ds:=by rw [Rp] at h; exact h
theorem Rp.unT' {v:V}{ds:List D} (h:Rp K F as v (.tup ds)):∃a xs,v = .ref a∧TqT K F a xs∧Rps K F as xs ds:=by rw [Rp] at h; exact h
theorem Rp.unT {v:V}{ds:List D} (h:Rp K F as v (.tup ds)):∃a xs,v = .ref a∧SqT K F a xs∧Rps K F as xs ds:=let ⟨a,xs,e,h1,h2⟩:=h.unT'; ⟨a,xs,e,h1.sq,h2⟩
theorem Rp.unO {v:V}{n:Nat} (h:Rp K F as v (.ob n)):∃a,v = .ref a∧as[n]? = some a:=by rw [Rp] at h; exact h
theorem Rp.unD {v:V}{ks vs:List D} (h:Rp K F as v (.dic ks vs)):∃(a:Addr) (kvs:List (Key×V)),v = .ref a∧F a=some (.dK kvs)∧ks=kvs.map (fun p=>Qhd p.1)∧Rps K F as (kvs.map (·.2)) vs:=by rw [Rp] at h; exact h
theorem Rp.mkL {a:Addr}{xs:List V}{ds:List D} (h:RdK K F a xs) (hs:Rps K F as xs ds):Rp K F as (.ref a) (.lst ds):=by rw [Rp]; exact ⟨a,xs,rfl,h,hs⟩
theorem Rp.mkT {a:Addr}{xs:List V}{ds:List D} (h:TqT K F a xs) (hs:Rps K F as xs ds):Rp K F as (.ref a) (.tup ds):=by rw [Rp]; exact ⟨a,xs,rfl,h,hs⟩
theorem Rp.mkO {a:Addr}{n:Nat} (h:as[n]? = some a):Rp K F as (.ref a) (.ob n):=by rw [Rp]; exact ⟨a,rfl,h⟩
theorem Rps.nil:Rps K F as [] []:=by rw [Rps]
theorem Rps.cons {x:V}{xs:List V}{d:D}{ds:List D} (h:Rp K F as x d) (hs:Rps K F as xs ds):Rps K F as (x::xs) (d::ds):=by
 rw [Rps]; exact ⟨x,xs,rfl,h,hs⟩
theorem Rps.un {xs:List V}{d:D}{ds:List D} (h:Rps K F as xs (d::ds)):∃x r,xs=x::r∧Rp K F as x d∧Rps K F as r ds:=by rw [Rps] at h; exact h
theorem Rps.un0 {xs:List V} (h:Rps K F as xs []):xs = []:=by rw [Rps] at h; exact h
theorem Rps.length:∀{ds:List D}{xs:List V},Rps K F as xs ds→xs.length=ds.length
 | [],xs,h=>by rw [h.un0]; rfl
 | d::ds,xs,h=>by
  obtain ⟨x,r,rfl,_,h3⟩:=h.un;simp [Rps.length h3]
theorem Rps.get:∀{ds:List D}{xs:List V}{i:Nat}{x:V},Rps K F as xs ds→xs[i]? = some x→∃d,ds[i]? = some d∧Rp K F as x d
 | [],xs,i,x,h,e=>by rw [h.un0] at e; simp at e
 | d::ds,xs,i,x,h,e=>by
  obtain ⟨y,r,rfl,h2,h3⟩:=h.un
  cases i with
  | zero=>simp at e; subst e; exact ⟨d,rfl,h2⟩
  | succ i =>
   obtain ⟨d',e',q⟩:=Rps.get (i:=i) (x:=x) h3 (by simpa using e);exact ⟨d',by simpa using e',q⟩
theorem Rps.get':∀{ds:List D}{xs:List V}{i:Nat}{d:D},Rps K F as xs ds→ds[i]? = some d→∃x,xs[i]? = some x∧Rp K F as x d:=by
 intro ds xs i d h e;have hl:=h.length
 have hi:i < xs.length:=by rw [hl]; exact (zn.mp e).1
 obtain ⟨d',e',q⟩:=h.get (zy hi);rw [e] at e'; cases e';exact ⟨_,zy hi,q⟩
theorem Rps.append {ys:List V}{es:List D} (hy:Rps K F as ys es):∀{ds:List D}{xs:List V},Rps K F as xs ds→Rps K F as (xs++ys) (ds++es)
 | [],xs,h=>by rw [h.un0]; exact hy
 | e::ds,xs,h=>by
  obtain ⟨y,r,rfl,h2,h3⟩:=h.un;exact Rps.cons h2 (Rps.append hy h3)
theorem Rps.snoc {x:V}{d:D}{ds:List D}{xs:List V} (h:Rps K F as xs ds) (hx:Rp K F as x d):Rps K F as (xs ++ [x]) (ds ++ [d]):=Rps.append (Rps.cons hx Rps.nil) h
theorem Rps.take:∀{ds:List D}{xs:List V} (n:Nat),Rps K F as xs ds→Rps K F as (xs.take n) (ds.take n)
 | _,_,0,_=>by simpa using Rps.nil
 | [],xs,n+1,h=>by rw [h.un0]; simpa using Rps.nil
 | d::ds,xs,n+1,h=>by
  obtain ⟨y,r,rfl,h2,h3⟩:=h.un;exact Rps.cons h2 (Rps.take n h3)
theorem Rps.drop:∀{ds:List D}{xs:List V} (n:Nat),Rps K F as xs ds→Rps K F as (xs.drop n) (ds.drop n)
 | _,_,0,h=>by simpa using h
 | [],xs,n+1,h=>by rw [h.un0]; simpa using Rps.nil
 | d::ds,xs,n+1,h=>by
  obtain ⟨y,r,rfl,h2,h3⟩:=h.un;exact Rps.drop n h3
theorem Rps.set:∀{ds:List D}{xs:List V}{x:V}{d:D} (n:Nat),Rps K F as xs ds→Rp K F as x d→Rps K F as (xs.set n x) (ds.set n d)
 | [],xs,x,d,n,h,_=>by rw [h.un0]; simpa using Rps.nil
 | e::ds,xs,x,d,0,h,hx=>by
  obtain ⟨y,r,rfl,h2,h3⟩:=h.un;exact Rps.cons hx h3
 | e::ds,xs,x,d,n+1,h,hx=>by
  obtain ⟨y,r,rfl,h2,h3⟩:=h.un;exact Rps.cons h2 (Rps.set n h3 hx)
theorem Rps.rep {ds:List D}{xs:List V} (h:Rps K F as xs ds):∀n:Nat,Rps K F as (List.replicate n xs).flatten (List.replicate n ds).flatten
 | 0=>by simpa using Rps.nil
 | n+1=>by
  rw [List.replicate_succ,List.replicate_succ,List.flatten_cons,List.flatten_cons];exact Rps.append (Rps.rep h n) h
theorem Rps.dropLast {ds:List D}{xs:List V} (h:Rps K F as xs ds):Rps K F as xs.dropLast ds.dropLast:=by
 rw [List.dropLast_eq_take,List.dropLast_eq_take,h.length];exact h.take _
end
def isD:HO→Bool
 | .ins _ _ _=>false
 | .own _=>false
 | .xd _=>false
 | _=>true
def isL:HO→Bool
 | .lst _=>true
 | .dK _=>true
 | _=>false
theorem QpT {o:HO} (h:isL o=true):isD o=true:=by
 cases o <;> first | rfl | cases h
structure Gr (H F:Hp) (as:List Addr) (H' F':Hp) (as':List Addr):Prop where
 fz:∀a o,H a=some o→a∉as→isL o=true→F' a=F a
 ff:Same F F'
 nw:∃new,as'=as++new∧∀a∈new,H a=none
 fr:∀a o,H a=some o→a∉as→isD o=true→H' a=some o
 dm:∀a,H' a=none→H a=none
 kz:∀a o u,H a=some (.frz o u)→H' a=some (.frz o u)
structure Pt where
 p:Addr→Prop
 ss:List (Nat×V×D)
instance:CoeFun Pt (fun _=>Addr→Prop):=⟨Pt.p⟩
def Pt.all (H:Hp):Pt:=⟨fun a=>H a≠none,[]⟩
structure GrS (P:Pt) (H F:Hp) (as:List Addr) (H' F':Hp) (as':List Addr):Prop where
 fz:∀a o,P a→H a=some o→a∉as→isL o=true→F' a=F a
 ff:Same F F'
 nw:∃new,as'=as++new∧∀a∈new,H a=none
 fr:∀a o,P a→H a=some o→a∉as→isD o=true→H' a=some o
 dm:∀a,H' a=none→H a=none
 kz:∀a o u,H a=some (.frz o u)→H' a=some (.frz o u)
section
variable {H F H' F' H2 F2:Hp}{as as' as2:List Addr}{P:Pt}
theorem Gr.refl:Gr H F as H F as:=⟨fun _ _ _ _ _=>rfl,Same.refl F,⟨[],by simp,fun _ h=>nomatch h⟩,fun _ _ h _ _=>h,fun _ h=>h,fun _ _ _ h=>h⟩
theorem Gr.trans (a:Gr H F as H' F' as') (b:Gr H' F' as' H2 F2 as2):Gr H F as H2 F2 as2:=by
 obtain ⟨n1,e1,h1⟩:=a.nw;obtain ⟨n2,e2,h2⟩:=b.nw;refine ⟨fun c o hc hn hd=>?_,a.ff.trans b.ff,⟨n1++n2,by rw [e2,e1,zZ],fun c hc=>?_⟩,fun c o e hn hd=>?_,fun c h=>a.dm c (b.dm c h),fun c o u h=>b.kz c o u (a.kz c o u h)⟩
 ·have q:=a.fr c o hc hn (QpT hd);refine (b.fz c o q ?_ hd).trans (a.fz c o hc hn hd);rw [e1];intro z
  rcases zA.mp z with z | z
  ·exact hn z
  ·rw [h1 c z] at hc; cases hc
 ·rcases zA.mp hc with z | z
  ·exact h1 c z
  ·exact a.dm c (h2 c z)
 ·have q:=a.fr c o e hn hd;refine b.fr c o q ?_ hd;rw [e1];intro z
  rcases zA.mp z with z | z
  ·exact hn z
  ·rw [h1 c z] at e; cases e
theorem Gr.toS (a:Gr H F as H' F' as'):GrS P H F as H' F' as':=⟨fun c o _=>a.fz c o,a.ff,a.nw,fun c o _ e hn hd=>a.fr c o e hn hd,a.dm,a.kz⟩
theorem GrS.refl:GrS P H F as H F as:=Gr.refl.toS
theorem GrS.trans (a:GrS P H F as H' F' as') (b:GrS P H' F' as' H2 F2 as2):GrS P H F as H2 F2 as2:=by
 obtain ⟨n1,e1,h1⟩:=a.nw;obtain ⟨n2,e2,h2⟩:=b.nw;refine ⟨fun c o p hc hn hd=>?_,a.ff.trans b.ff,⟨n1++n2,by rw [e2,e1,zZ],fun c hc=>?_⟩,fun c o p e hn hd=>?_,fun c h=>a.dm c (b.dm c h),fun c o u h=>b.kz c o u (a.kz c o u h)⟩
 ·have q:=a.fr c o p hc hn (QpT hd);refine (b.fz c o p q ?_ hd).trans (a.fz c o p hc hn hd);rw [e1];intro z
  rcases zA.mp z with z | z
  ·exact hn z
  ·rw [h1 c z] at hc; cases hc
 ·rcases zA.mp hc with z | z
  ·exact h1 c z
  ·exact a.dm c (h2 c z)
 ·have q:=a.fr c o p e hn hd;refine b.fr c o p q ?_ hd;rw [e1];intro z
  rcases zA.mp z with z | z
  ·exact hn z
  ·rw [h1 c z] at e; cases e
theorem GrS.mono {P':Pt} (a:GrS P H F as H' F' as') (h:∀c,P' c→P c):GrS P' H F as H' F' as':=⟨fun c o p=>a.fz c o (h c p),a.ff,a.nw,fun c o p=>a.fr c o (h c p),a.dm,a.kz⟩
theorem GrS.gr (a:GrS (Pt.all H) H F as H' F' as'):Gr H F as H' F' as':=⟨fun c o e=>a.fz c o (show H c≠none by rw [e]; exact fun z=>nomatch z) e,a.ff,a.nw,fun c o e=>a.fr c o (show H c≠none by rw [e]; exact fun z=>nomatch z) e,a.dm,a.kz⟩
theorem Gr.at_ (a:Gr H F as H' F' as'):∀(n:Nat) (c:Addr),as[n]? = some c→as'[n]? = some c:=fun n c h=>by
 obtain ⟨new,e,_⟩:=a.nw;rw [e,zu (zn.mp h).1];exact h
theorem GrS.at_ (a:GrS P H F as H' F' as'):∀(n:Nat) (c:Addr),as[n]? = some c→as'[n]? = some c:=fun n c h=>by
 obtain ⟨new,e,_⟩:=a.nw;rw [e,zu (zn.mp h).1];exact h
theorem Gr.out (a:Gr H F as H' F' as') {c:Addr} (h:c∉as) (e:H c≠none):c∉as':=by
 obtain ⟨new,e1,h1⟩:=a.nw;rw [e1];intro z
 rcases zA.mp z with z | z
 ·exact h z
 ·exact e (h1 c z)
theorem GrS.out (a:GrS P H F as H' F' as') {c:Addr} (h:c∉as) (e:H c≠none):c∉as':=by
 obtain ⟨new,e1,h1⟩:=a.nw;rw [e1];intro z
 rcases zA.mp z with z | z
 ·exact h z
 ·exact e (h1 c z)
theorem Rp.gr {K:Frag}{v:V}{d:D} (h:Rp K F as v d) (a:Gr H F as H' F' as'):Rp K F' as' v d:=Rp.mono a.ff a.at_ d h
theorem Rps.gr {K:Frag}{v:List V}{d:List D} (h:Rps K F as v d) (a:Gr H F as H' F' as'):Rps K F' as' v d:=Rps.mono a.ff a.at_ d h
theorem Rp.grS {K:Frag}{v:V}{d:D} (h:Rp K F as v d) (a:GrS P H F as H' F' as'):Rp K F' as' v d:=Rp.mono a.ff a.at_ d h
theorem Rps.grS {K:Frag}{v:List V}{d:List D} (h:Rps K F as v d) (a:GrS P H F as H' F' as'):Rps K F' as' v d:=Rps.mono a.ff a.at_ d h
end
structure FsR (K:Frag) (F:Hp) (as:List Addr) (gs:List (Str×V)) (fs:List (Str×D)):Prop where
 nm:gs.map (·.1)=fs.map (·.1)
 vl:Rps K F as (gs.map (·.2)) (fs.map (·.2))
def XF (K:Frag) (F:Hp) (as:List Addr) (dxo:Option Addr) (fs:List (Str×D)):Prop:=fs = []∨∃dx od gs,dxo=some dx∧F dx=some (.frz od (.xd gs))∧FsR K F as gs fs
theorem XF.mono {K:Frag}{F F':Hp}{as as':List Addr}{dxo:Option Addr}{fs:List (Str×D)} (h:XF K F as dxo fs) (e:Same F F') (ea:∀(n:Nat) (a:Addr),as[n]? = some a→as'[n]? = some a):XF K F' as' dxo fs:=by
 rcases h with h | ⟨dx,od,gs,h1,h2,h3,h4⟩
 ·exact .inl h
 ·exact .inr ⟨dx,od,gs,h1,e _ _ h2,h3,Rps.mono e ea _ h4⟩
def ObR (K:Frag) (mg:Str→Option Value) (H F:Hp) (as:List Addr) (a:Addr):Ob→Prop
 | .ins c fs=>∃C dx gs,mg c=some (.ref C)∧H a=some (.ins C dx gs)∧FsR K F as gs fs
 | .ml ds=>∃xs,H a=some (.lst xs)∧Rps K F as xs ds
 | .dt kvs=>∃xs:List (List Key×V),H a=some (.dT xs)∧xs.map (·.1)=kvs.map (·.1)∧Rps K F as (xs.map (·.2)) (kvs.map (·.2))
 | .df kvs=>∃(o:Obj) (xs:List (List Key×V)),H a=some (.frz o (.dT xs))∧xs.map (·.1)=kvs.map (·.1)∧Rps K F as (xs.map (·.2)) (kvs.map (·.2))
 | .dk kvs=>∃xs:List (Key×V),H a=some (.dK xs)∧xs.map (·.1)=kvs.map (·.1)∧Rps K F as (xs.map (·.2)) (kvs.map (·.2))
 | .xc c fs=>∃(C:Addr) (oe:Obj) (u:HO),mg c=some (.ref C)∧H a=some (.frz oe u)∧oe.cls = .ref C∧(∃ws,oe.data = .fields ws)∧XF K F as oe.dict fs
structure RlO (K:Frag) (mg:Str→Option Value) (O:Qae) (H F:Hp) (as:List Addr):Prop where
 fh:Same F H
 fd:∀a o,F a=some o→isD o=true
 nd:as.Nodup
 len:as.length=O.length
 fa:∀a∈as,F a=none
 ob:∀(n:Nat) (a:Addr) (o:Ob),as[n]? = some a→O[n]? = some o→ObR K mg H F as a o
inductive Md where
 | v | s | o
 deriving DecidableEq
def Qd4:D→Bool
 | .lst _=>false
 | _=>true
def Qet (P:Pt) (K:Frag) (H F:Hp) (as:List Addr):Md→V→D→Prop
 | .v,v,d=>Rp K F as v d
 | .s,v,d=>Rp K F as v d∨∃a xs ds,v = .ref a∧d = .lst ds∧H a=some (.lst xs)∧a∉as∧P a∧Rps K F as xs ds
 | .o,v,d=>(Qd4 d=true∧Rp K F as v d)∨∃a xs ds,v = .ref a∧d = .lst ds∧H a=some (.lst xs)∧F a=none∧a∉as∧¬P a∧Rps K F as xs ds
structure SlO (K:Frag) (md:List Md) (P:Pt) (ρ:Qam) (σ:St) (H F:Hp) (as:List Addr):Prop where
 len:σ.length=md.length
 len':ρ.length=md.length
 pd:∀a,P a→H a≠none
 sl:∀(i:Nat) (m:Md) (d:D),md[i]? = some m→ρ[i]? = some (some d)→∃v,σ[i]? = some (some v)∧Qet P K H F as m v d
 inj:∀(i j:Nat) (a:Addr) (ds es:List D),md[i]? = some .o→md[j]? = some .o→ρ[i]? = some (some (.lst ds))→ρ[j]? = some (some (.lst es))→σ[i]? = some (some (.ref a))→σ[j]? = some (some (.ref a))→i=j
 pin:∀x∈P.ss,md[x.1]? = some .s∧ρ[x.1]? = some (some x.2.2)∧σ[x.1]? = some (some x.2.1)
section
variable {K:Frag}{mg:Str→Option Value}{md:List Md}{P:Pt}{ρ:Qam}{σ:St}{H F H' F':Hp}{as as':List Addr}{O O':Qae}
theorem Qet.step {m:Md}{v:V}{d:D} (h:Qet P K H F as m v d) (g:Gr H F as H' F' as'):Qet P K H' F' as' m v d:=by
 cases m with
 | v=>exact Rp.gr (show Rp K F as v d from h) g
 | s =>
  rcases h with h | ⟨a,xs,ds,e1,e2,e3,e4,e5,e6⟩
  ·exact .inl (h.gr g)
  ·exact .inr ⟨a,xs,ds,e1,e2,g.fr _ _ e3 e4 rfl,g.out e4 (by rw [e3]; exact fun z=>nomatch z),e5,e6.gr g⟩
 | o =>
  rcases h with ⟨h1,h⟩ | ⟨a,xs,ds,e1,e2,e3,e0,e4,e5,e6⟩
  ·exact .inl ⟨h1,h.gr g⟩
  ·have hn:H a≠none:=by rw [e3]; exact fun z=>nomatch z
   exact .inr ⟨a,xs,ds,e1,e2,g.fr _ _ e3 e4 rfl,by rw [g.fz a _ e3 e4 rfl]; exact e0,g.out e4 hn,e5,e6.gr g⟩
theorem SlO.step (h:SlO K md P ρ σ H F as) (g:Gr H F as H' F' as'):SlO K md P ρ σ H' F' as' :=
 ⟨h.len,h.len',fun a p z=>h.pd a p (g.dm a z),fun i m d e1 e2=>let ⟨v,q,r⟩:=h.sl i m d e1 e2; ⟨v,q,r.step g⟩,h.inj,h.pin⟩
end
def Sv (K:Frag) (H F:Hp) (as:List Addr) (v:V) (d:D):Prop :=
 Rp K F as v d∨∃a xs ds,v = .ref a∧d = .lst ds∧H a=some (.lst xs)∧a∉as∧Rps K F as xs ds
def Lk (K:Frag) (H F:Hp) (as:List Addr) (v:V) (d:D):Prop :=
 Rp K F as v d∨∃a xs ds,v = .ref a∧d = .lst ds∧H a=some (.lst xs)∧Rps K F as xs ds
def Ow (K:Frag) (N:Addr→Prop) (H F:Hp) (as:List Addr) (v:V) (d:D):Prop :=
 (Qd4 d=true∧Rp K F as v d)∨∃a xs ds,v = .ref a∧d = .lst ds∧H a=some (.lst xs)∧F a=none∧a∉as∧N a∧Rps K F as xs ds
def QaU (O:Qae) (d:D):D:=match d with
 | .ob n=>match O[n]? with
  | some (.ml ds)=>.lst ds
  | _=>.ob n
 | d=>d
section
variable {K:Frag}{mg:Str→Option Value}{H0 H F H' F':Hp}{as as':List Addr}{O:Qae}{v:V}{d:D}
theorem Sv.gr (h:Sv K H F as v d) (g:Gr H F as H' F' as'):Sv K H' F' as' v d:=by
 rcases h with h | ⟨a,xs,ds,e1,e2,e3,e4,e5⟩
 ·exact .inl (h.gr g)
 ·exact .inr ⟨a,xs,ds,e1,e2,g.fr _ _ e3 e4 rfl,g.out e4 (by rw [e3]; exact fun z=>nomatch z),e5.gr g⟩
theorem Sv.lk (h:Sv K H F as v d) (r:RlO K mg O H F as):Lk K H F as v (QaU O d):=by
 rcases h with h | ⟨a,xs,ds,rfl,rfl,e3,e4,e5⟩
 ·cases d with
  | ob n =>
   obtain ⟨a,rfl,ha⟩:=h.unO;unfold QaU;dsimp only
   split
   ·rename_i ds e;obtain ⟨xs,e1,e2⟩:=r.ob n a _ ha e;exact .inr ⟨a,xs,ds,rfl,rfl,e1,e2⟩
   ·exact .inl (Rp.mkO ha)
  | _=>exact .inl h
 ·exact .inr ⟨a,xs,ds,rfl,rfl,e3,e5⟩
theorem Lk.list {ds:List D} (h:Lk K H F as v (.lst ds)) (fh:Same F H):∃a xs,v = .ref a∧RdK K H a xs∧Rps K F as xs ds:=by
 rcases h with h | ⟨a,xs,ds',e1,e2,e3,e4⟩
 ·obtain ⟨a,xs,e,h1,h2⟩:=h.unL;exact ⟨a,xs,e,h1.mono fh,h2⟩
 ·cases e2;exact ⟨a,xs,e1,.inl (.inl e3),e4⟩
theorem Lk.rp (h:Lk K H F as v d) (hn:Qd4 d=true):Rp K F as v d:=by
 rcases h with h | ⟨a,xs,ds',e1,rfl,e3,e4⟩
 ·exact h
 ·cases hn
theorem Sv.rp (h:Sv K H F as v d) (hn:Qd4 d=true):Rp K F as v d:=by
 rcases h with h | ⟨a,xs,ds',e1,rfl,e3,e4⟩
 ·exact h
 ·cases hn
theorem Ow.sv {N:Addr→Prop} (h:Ow K N H F as v d):Sv K H F as v d:=by
 rcases h with ⟨_,h⟩ | ⟨a,xs,ds,e1,e2,e3,e4,e5,e6,e7⟩
 ·exact .inl h
 ·exact .inr ⟨a,xs,ds,e1,e2,e3,e5,e7⟩
theorem Gr.lay {p:Addr}{o:HO} (hp:H p=none):Gr H F as (upd H p o) F as :=
 ⟨fun _ _ _ _ _=>rfl,Same.refl F,⟨[],by simp,fun _ h=>nomatch h⟩,fun a o' e _ _=>by rw [Qan (QaA e hp)]; exact e,fun a e=>by
  by_cases h:a=p
  ·subst h; exact hp
  ·rwa [Qan h] at e,fun a o' u e=>by rw [Qan (QaA e hp)]; exact e⟩
theorem ObR.keep {a:Addr}{o:Ob} (h:ObR K mg H F as a o) (hH:H' a=H a) (e:Same F F') (ea:∀(n:Nat) (a:Addr),as[n]? = some a→as'[n]? = some a):ObR K mg H' F' as' a o:=by
 cases o with
 | ins c fs =>
  obtain ⟨C,dx,gs,h1,h2,h3,h4⟩:=h;exact ⟨C,dx,gs,h1,by rw [hH]; exact h2,h3,Rps.mono e ea _ h4⟩
 | ml ds =>
  obtain ⟨xs,h1,h2⟩:=h;exact ⟨xs,by rw [hH]; exact h1,Rps.mono e ea _ h2⟩
 | dt kvs =>
  obtain ⟨xs,h1,h2,h3⟩:=h;exact ⟨xs,by rw [hH]; exact h1,h2,Rps.mono e ea _ h3⟩
 | df kvs =>
  obtain ⟨o,xs,h1,h2,h3⟩:=h;exact ⟨o,xs,by rw [hH]; exact h1,h2,Rps.mono e ea _ h3⟩
 | dk kvs =>
  obtain ⟨xs,h1,h2,h3⟩:=h;exact ⟨xs,by rw [hH]; exact h1,h2,Rps.mono e ea _ h3⟩
 | xc c fs =>
  obtain ⟨C,oe,u,h1,h2,h3,h4,h5⟩:=h;exact ⟨C,oe,u,h1,by rw [hH]; exact h2,h3,h4,h5.mono e ea⟩
theorem RlO.at {n:Nat}{a:Addr}{o:Ob} (r:RlO K mg O H F as) (ha:as[n]? = some a) (ho:O[n]? = some o):H a≠none:=by
 have q:=r.ob n a o ha ho
 cases o with
 | ins c fs=>obtain ⟨C,dx,gs,h1,h2,_⟩:=q; rw [h2]; exact fun z=>nomatch z
 | ml ds=>obtain ⟨xs,h1,_⟩:=q; rw [h1]; exact fun z=>nomatch z
 | dt kvs=>obtain ⟨xs,h1,_⟩:=q; rw [h1]; exact fun z=>nomatch z
 | df kvs=>obtain ⟨o,xs,h1,_⟩:=q; rw [h1]; exact fun z=>nomatch z
 | dk kvs=>obtain ⟨xs,h1,_⟩:=q; rw [h1]; exact fun z=>nomatch z
 | xc c fs=>obtain ⟨C,oe,u,_,h1,_⟩:=q; rw [h1]; exact fun z=>nomatch z
theorem RlO.all {a:Addr} (r:RlO K mg O H F as) (ha:a∈as):H a≠none:=by
 obtain ⟨n,hn,e⟩:=List.mem_iff_getElem.mp ha
 have hO:n < O.length:=by rw [←r.len]; exact hn
 exact r.at (n:=n) (by rw [zy hn,e]) (zy hO)
theorem RlO.lay {p:Addr}{o:HO} (r:RlO K mg O H F as) (hp:H p=none):RlO K mg O (upd H p o) F as:=by
 refine ⟨fun a u e=>?_,r.fd,r.nd,r.len,r.fa,fun n a u ha hu=>(r.ob n a u ha hu).keep (Qan ?_) (Same.refl F) fun _ _ h=>h⟩
 ·have q:=r.fh a u e;rw [Qan (QaA q hp)]; exact q
 ·intro z; subst z; exact r.at ha hu hp
theorem Gr.frz {p:Addr}{o:HO} (hp:H p=none) (g:Gr H F as H' F' as') (hf:F' p=none):Gr H F as H' (upd F' p o) as' :=
 ⟨fun a o' ha hn hd=>by rw [Qan (fun z=>by subst z; rw [hp] at ha; cases ha)]; exact g.fz a o' ha hn hd,fun a u e=>by
  have q:=g.ff a u e
  rw [Qan (QaA q hf)]; exact q,g.nw,g.fr,g.dm,g.kz⟩
theorem RlO.frz {p:Addr}{o:HO} (r:RlO K mg O H F as) (hp:H p=some o) (hf:F p=none) (ha:p∉as) (hd:isD o=true):RlO K mg O H (upd F p o) as:=by
 have ff:Same F (upd F p o):=fun a u e=>by rw [Qan (QaA e hf)]; exact e
 refine ⟨fun a u e=>?_,fun a u e=>?_,r.nd,r.len,fun a h=>?_,fun n a u h1 h2=>(r.ob n a u h1 h2).keep rfl ff fun _ _ h=>h⟩
 ·by_cases h:a=p
  ·subst h; rw [QaE] at e; cases e; exact hp
  ·rw [Qan h] at e; exact r.fh a u e
 ·by_cases h:a=p
  ·subst h; rw [QaE] at e; cases e; exact hd
  ·rw [Qan h] at e; exact r.fd a u e
 ·rw [Qan (fun z=>by subst z; exact ha h)]; exact r.fa a h
end
abbrev RR:=(Addr→Prop)→Hp→Hp→List Addr→V→D→Prop
def rV (K:Frag):RR:=fun _ _ F as v d=>Rp K F as v d
def rS (K:Frag):RR:=fun _ H F as v d=>Sv K H F as v d
def rO (K:Frag):RR:=fun N H F as v d=>Ow K N H F as v d
def rA (K:Frag):Md→RR
 | .v=>rV K
 | _=>rS K
def QdB (R:RR):Prop:=∀(N N':Addr→Prop) (H F:Hp) (as:List Addr) (v:V) (d:D),(∀a,N a→N' a)→R N H F as v d→R N' H F as v d
theorem QbF {K:Frag}:QdB (rV K):=fun _ _ _ _ _ _ _ _ h=>h
theorem Qes {K:Frag}:QdB (rO K):=fun N N' H F as v d hn h=>by
 rcases h with h | ⟨a,xs,ds,e1,e2,e3,e4,e5,e6,e7⟩
 ·exact .inl h
 ·exact .inr ⟨a,xs,ds,e1,e2,e3,e4,e5,hn a e6,e7⟩
def tM (K:Frag) (mg:Str→Option Value) (md:List Md) (P:Pt) (R:RR) (m:M D):TE:=fun σ H Q =>
 ∃ρ O F as d O',RlO K mg O H F as∧SlO K md P ρ σ H F as∧m ρ O = .ok d O' ∧
  ∀v H' F' as',Gr H F as H' F' as'→RlO K mg O' H' F' as'→R (fun a=>H a=none) H' F' as' v d→Q v H'
def tMT (K:Frag) (mg:Str→Option Value) (md:List Md) (P:Pt) (m:M Bool):TT:=fun σ H Q =>
 ∃ρ O F as b O',RlO K mg O H F as∧SlO K md P ρ σ H F as∧m ρ O = .ok b O' ∧
  ∀H' F' as',Gr H F as H' F' as'→RlO K mg O' H' F' as'→Q b H'
def Qbz (K:Frag) (H F:Hp) (as:List Addr):List Md→List V→List D→Prop
 | [],[],[]=>True
 | m::ms,v::vs,d::ds=>rA K m (fun _=>True) H F as v d∧Qbz K H F as ms vs ds
 | _,_,_=>False
def tMA (K:Frag) (mg:Str→Option Value) (md:List Md) (P:Pt) (ms:List Md) (m:M (List D)):TA:=fun σ H Q =>
 ∃ρ O F as ds O',RlO K mg O H F as∧SlO K md P ρ σ H F as∧m ρ O = .ok ds O' ∧
  ∀vs H' F' as',Gr H F as H' F' as'→RlO K mg O' H' F' as'→Qbz K H' F' as' ms vs ds→Q vs H'
def XE (X:Cx) (md:List Md) (P:Pt) (R:RR) (e:Expr) (m:M D):Prop:=PE X e (tM X.K X.mg md P R m)
def VE (X:Cx) (md:List Md) (P:Pt) (e:Expr) (m:M D):Prop:=PE X e (tM X.K X.mg md P (rV X.K) m)
def SE (X:Cx) (md:List Md) (P:Pt) (e:Expr) (m:M D):Prop:=PE X e (tM X.K X.mg md P (rS X.K) m)
def OE (X:Cx) (md:List Md) (P:Pt) (e:Expr) (m:M D):Prop:=PE X e (tM X.K X.mg md P (rO X.K) m)
def TsE (X:Cx) (md:List Md) (P:Pt) (e:Expr) (m:M Bool):Prop:=PT X e (tMT X.K X.mg md P m)
def TwE (X:Cx) (md:List Md) (P:Pt) (e:Expr) (m:M Bool):Prop:=PW X e (tMT X.K X.mg md P m)
def AE (X:Cx) (md:List Md) (P:Pt) (ms:List Md) (es:List Expr) (m:M (List D)):Prop:=PA X es (tMA X.K X.mg md P ms m)
def QfS (K:Frag) (mg:Str→Option Value) (md:List Md) (P:Pt) (R:RR) (D:Ends) (H F:Hp) (as:List Addr):Fl→Prop
 | .nx ρ' O'=>∀σ' H' F' as',GrS P H F as H' F' as'→RlO K mg O' H' F' as'→SlO K md P ρ' σ' H' F' as'→D.nx σ' H'
 | .bk ρ' O'=>∀σ' H' F' as',GrS P H F as H' F' as'→RlO K mg O' H' F' as'→SlO K md P ρ' σ' H' F' as'→D.bk σ' H'
 | .ct ρ' O'=>∀σ' H' F' as',GrS P H F as H' F' as'→RlO K mg O' H' F' as'→SlO K md P ρ' σ' H' F' as'→D.ct σ' H'
 | .rt d O'=>∀v H' F' as',GrS P H F as H' F' as'→RlO K mg O' H' F' as'→R (fun a=>¬P a) H' F' as' v d→D.rt v H'
 | .ex _ _=>False
 | .no=>False
def tMS (K:Frag) (mg:Str→Option Value) (md:List Md) (P:Pt) (R:RR) (m:MS):TS:=fun D σ H =>
 ∃ρ O F as,RlO K mg O H F as∧SlO K md P ρ σ H F as∧QfS K mg md P R D H F as (m ρ O)
def VS (X:Cx) (md:List Md) (P:Pt) (R:RR) (st:Stmt) (m:MS):Prop:=PS X st (tMS X.K X.mg md P R m)
def VSs (X:Cx) (md:List Md) (P:Pt) (R:RR) (st:List Stmt) (m:MS):Prop:=PSs X st (tMS X.K X.mg md P R m)
section
variable {X:Cx}{md:List Md}{P:Pt}{R:RR}
theorem PE.imp {e:Expr}{t t':TE} (h:PE X e t) (k:∀σ H Q,t' σ H Q→t σ H Q):PE X e t':=fun pins s σ H Q I q=>h pins s σ H Q I (k σ H Q q)
theorem PT.imp {e:Expr}{t t':TT} (h:PT X e t) (k:∀σ H Q,t' σ H Q→t σ H Q):PT X e t':=fun pins s σ H Q I q=>h pins s σ H Q I (k σ H Q q)
theorem PW.imp {e:Expr}{t t':TT} (h:PW X e t) (k:∀σ H Q,t' σ H Q→t σ H Q):PW X e t':=fun w pins s σ H Q I q=>h w pins s σ H Q I (k σ H Q q)
theorem PA.imp {e:List Expr}{t t':TA} (h:PA X e t) (k:∀σ H Q,t' σ H Q→t σ H Q):PA X e t':=fun pos pins s σ H Q I q=>h pos pins s σ H Q I (k σ H Q q)
theorem PS.imp {e:Stmt}{t t':TS} (h:PS X e t) (k:∀D σ H,t' D σ H→t D σ H):PS X e t':=fun pins s σ H D I q=>h pins s σ H D I (k D σ H q)
theorem PSs.imp {e:List Stmt}{t t':TS} (h:PSs X e t) (k:∀D σ H,t' D σ H→t D σ H):PSs X e t':=fun pins s σ H D I q=>h pins s σ H D I (k D σ H q)
def Qab (i:Nat):M D:=fun ρ O=>match ρ[i]? with
 | some (some d)=>.ok d O
 | _=>.no
def mC (d:D):M D:=fun _ O=>.ok d O
def mG (m:M D):M D:=fun ρ O=>match m ρ O with
 | .ok d O'=>if Qd4 d=true then .ok d O' else .no
 | r=>r
theorem QhD {i:Nat}{ρ:Qam}{O O':Qae}{d:D} (h:Qab i ρ O = .ok d O'):ρ[i]? = some (some d)∧O'=O:=by
 unfold Qab at h;split at h
 ·rename_i d' e;cases h;exact ⟨e,rfl⟩
 ·cases h
theorem Qtt {m:M D}{ρ:Qam}{O O':Qae}{d:D} (h:mG m ρ O = .ok d O'):m ρ O = .ok d O'∧Qd4 d=true:=by
 unfold mG at h;split at h
 ·rename_i d' O1 e;split at h
  ·rename_i hn;cases h;exact ⟨e,hn⟩
  ·cases h
 ·rename_i hne;exact absurd h (hne _ _)
theorem SlO.get {K:Frag}{ρ:Qam}{σ:St}{H F:Hp}{as:List Addr}{i:Nat}{d:D} (s:SlO K md P ρ σ H F as) (h:ρ[i]? = some (some d)):∃m v,md[i]? = some m∧σ[i]? = some (some v)∧Qet P K H F as m v d:=by
 have hi:i < md.length:=by rw [←s.len']; exact (zn.mp h).1
 obtain ⟨v,h1,h2⟩:=s.sl i md[i] d (zy hi) h;exact ⟨_,v,zy hi,h1,h2⟩
theorem Qet.sv {K:Frag}{H F:Hp}{as:List Addr}{m:Md}{v:V}{d:D} (h:Qet P K H F as m v d):Sv K H F as v d:=by
 cases m with
 | v=>exact .inl h
 | s =>
  rcases h with h | ⟨a,xs,ds,e1,e2,e3,e4,e5,e6⟩
  ·exact .inl h
  ·exact .inr ⟨a,xs,ds,e1,e2,e3,e4,e6⟩
 | o =>
  rcases h with ⟨_,h⟩ | ⟨a,xs,ds,e1,e2,e3,e0,e4,e5,e6⟩
  ·exact .inl h
  ·exact .inr ⟨a,xs,ds,e1,e2,e3,e4,e6⟩
theorem Qai (i:Nat) {x:Str}{pos:Pos} (hN:X.N[i]? = some x:=by rfl) (hv:Vis X.env.scope x:=by first | exact Or.inl rfl | exact Or.inr (Or.inl rfl) | exact Or.inr (Or.inr rfl))
  (hd:(x == ("__debug__":Str))=false:=by decide) (hcd:(x == ("__classdict__":Str))=false:=by decide):SE X md P (.Name x pos) (Qab i):=by
 refine (QeD (i:=i) hN hv hd hcd).imp fun σ H Q h=>?_
 obtain ⟨ρ,O,F,as,d,O',r,s,e,k⟩:=h;obtain ⟨e1,rfl⟩:=QhD e;obtain ⟨m,v,h1,h2,h3⟩:=s.get e1;exact ⟨v,h2,k v H F as Gr.refl r h3.sv⟩
theorem Qah (i:Nat) {x:Str}{pos:Pos} (hm:md[i]? = some .v:=by rfl) (hN:X.N[i]? = some x:=by rfl) (hv:Vis X.env.scope x:=by first | exact Or.inl rfl | exact Or.inr (Or.inl rfl) | exact Or.inr (Or.inr rfl))
  (hd:(x == ("__debug__":Str))=false:=by decide) (hcd:(x == ("__classdict__":Str))=false:=by decide):VE X md P (.Name x pos) (Qab i):=by
 refine (QeD (i:=i) hN hv hd hcd).imp fun σ H Q h=>?_
 obtain ⟨ρ,O,F,as,d,O',r,s,e,k⟩:=h;obtain ⟨e1,rfl⟩:=QhD e;obtain ⟨v,h2,h3⟩:=s.sl i .v d hm e1;exact ⟨v,h2,k v H F as Gr.refl r h3⟩
theorem Qac {e:Expr}{m:M D} (h:VE X md P e m):SE X md P e m:=h.imp fun σ H Q q=>by
 obtain ⟨ρ,O,F,as,d,O',r,s,e,k⟩:=q;exact ⟨ρ,_,F,as,_,_,r,s,e,fun v H' F' as' g r' hv=>k v H' F' as' g r' (.inl hv)⟩
theorem Qal {e:Expr}{m:M D} (h:OE X md P e m):SE X md P e m:=h.imp fun σ H Q q=>by
 obtain ⟨ρ,O,F,as,d,O',r,s,e,k⟩:=q;exact ⟨ρ,_,F,as,_,_,r,s,e,fun v H' F' as' g r' hv=>k v H' F' as' g r' (Ow.sv hv)⟩
theorem Qej {e:Expr}{m:M D} (h:SE X md P e m):VE X md P e (mG m):=h.imp fun σ H Q q=>by
 obtain ⟨ρ,O,F,as,d,O',r,s,e,k⟩:=q;obtain ⟨e,hn⟩:=Qtt e;exact ⟨ρ,_,F,as,_,_,r,s,e,fun v H' F' as' g r' hv=>k v H' F' as' g r' (Sv.rp hv hn)⟩
theorem Qaw {e:Expr}{m:M D} (h:OE X md P e m):VE X md P e m:=h.imp fun σ H Q q=>by
 obtain ⟨ρ,O,F,as,d,O',r,s,e,k⟩:=q;refine ⟨ρ,_,F,as,_,_,r,s,e,fun v H' F' as' g r' hv=>?_⟩
 rcases hv with ⟨_,hv⟩ | ⟨a,xs,ds,rfl,rfl,e3,e4,e5,e6,e7⟩
 ·exact k v H' F' as' g r' hv
 ·have ff:Same F' (upd F' a (.lst xs)):=fun b u q=>by rw [Qan (QaA q e4)]; exact q
  refine k _ H' (upd F' a (.lst xs)) as' (g.frz e6 e4) (r'.frz e3 e4 e5 rfl) (Rp.mkL (.inl (.inl QaE)) (Rps.mono ff (fun _ _ z=>z) _ e7))
theorem QkW {e:Expr}{v:V}{d:D} (h:PE X e (tC v)) (hd:∀K F as,Rp K F as v d):VE X md P e (mC d):=h.imp fun σ H Q q=>by
 obtain ⟨ρ,O,F,as,d,O',r,s,e,k⟩:=q;cases e;exact k v H F as Gr.refl r (hd _ _ _)
theorem Qag {i:Int}{j pos}:VE X md P (.Constant (.int i) j pos) (mC (.int i)):=QkW Qtc fun _ _ _=>Rp.int
theorem Qce {b:Bool}{j pos}:VE X md P (.Constant (.bool b) j pos) (mC (.bl b)):=QkW Qtu fun _ _ _=>Rp.bl
theorem QcA {j pos}:VE X md P (.Constant .none j pos) (mC .non):=QkW Qrq fun _ _ _=>Rp.non
theorem Qa5 {x:Str}{j pos} (l:List Nat) (hx:x=S l:=by decide +kernel):VE X md P (.Constant (.str x) j pos) (mC (.str l)):=QkW QkI fun _ _ _=>by rw [hx]; exact Rp.str
theorem QaT {x:Str}{v:V}{d:D}{pos:Pos} (h:∃u,X.mg x=some u∧RelV v u) (hd:∀K F as,Rp K F as v d) (hg:Gl X x:=by rfl) (hdb:(x == ("__debug__":Str))=false:=by decide):VE X md P (.Name x pos) (mC d):=QkW (Qkz h hg hdb) hd
def Qaf:M (List D):=fun _ O=>.ok [] O
def Qaa (m:M D) (r:M (List D)):M (List D):=fun ρ O=>(m ρ O).bind fun d O1=>(r ρ O1).bind fun ds O2=>.ok (d::ds) O2
theorem Qak:AE X md P [] [] Qaf:=Qdc.imp fun σ H Q q=>by
 obtain ⟨ρ,O,F,as,d,O',r,s,e,k⟩:=q;cases e;exact k [] H F as Gr.refl r trivial
theorem rA.gr {K:Frag}{m:Md}{N:Addr→Prop}{H F H' F':Hp}{as as':List Addr}{v:V}{d:D} (h:rA K m N H F as v d) (g:Gr H F as H' F' as'):rA K m (fun _=>True) H' F' as' v d:=by
 cases m with
 | v=>exact Rp.gr (show Rp K F as v d from h) g
 | s=>exact Sv.gr (show Sv K H F as v d from h) g
 | o=>exact Sv.gr (show Sv K H F as v d from h) g
theorem Qbz.gr {K:Frag}{H F H' F':Hp}{as as':List Addr} (g:Gr H F as H' F' as'):∀{ms:List Md}{vs:List V}{ds:List D},Qbz K H F as ms vs ds→Qbz K H' F' as' ms vs ds
 | [],[],[],_=>trivial
 | m::ms,v::vs,d::ds,h=>⟨rA.gr h.1 g,Qbz.gr g h.2⟩
 | [],[],_::_,h=>h.elim
 | [],_::_,[],h=>h.elim
 | [],_::_,_::_,h=>h.elim
 | _::_,[],[],h=>h.elim
 | _::_,[],_::_,h=>h.elim
 | _::_,_::_,[],h=>h.elim
theorem Qlr (md0:Md) {e:Expr}{es:List Expr}{m:M D}{ms:List Md}{r:M (List D)} (h:XE X md P (rA X.K md0) e m) (hr:AE X md P ms es r)
  (hs:starEach (e::es) X.env=(false,eval e X.env)::starEach es X.env:=by exact Qbq rfl):AE X md P (md0::ms) (e::es) (Qaa m r):=(Qcb h hr hs).imp fun σ H Q q=>by
 obtain ⟨ρ,O,F,as,d,O',r0,s,e,k⟩:=q;obtain ⟨d,O1,e1,e⟩:=Res.bind_ok e;obtain ⟨ds',O2,e2,e⟩:=Res.bind_ok e;cases e;refine ⟨ρ,_,F,as,_,_,r0,s,e1,fun v H1 F1 as1 g1 r1 hv=>?_⟩;refine ⟨ρ,_,F1,as1,_,_,r1,s.step g1,e2,fun vs H2 F2 as2 g2 r2 hvs=>?_⟩;exact k (v::vs) H2 F2 as2 (g1.trans g2) r2 ⟨rA.gr hv g2,hvs⟩
theorem Qap {e:Expr}{es:List Expr}{m:M D}{ms:List Md}{r:M (List D)} (h:VE X md P e m) (hr:AE X md P ms es r)
  (hs:starEach (e::es) X.env=(false,eval e X.env)::starEach es X.env:=by exact Qbq rfl):AE X md P (.v::ms) (e::es) (Qaa m r):=Qlr .v h hr hs
theorem Qat {e:Expr}{es:List Expr}{m:M D}{ms:List Md}{r:M (List D)} (h:SE X md P e m) (hr:AE X md P ms es r)
  (hs:starEach (e::es) X.env=(false,eval e X.env)::starEach es X.env:=by exact Qbq rfl):AE X md P (.s::ms) (e::es) (Qaa m r):=Qlr .s h hr hs
theorem Qbz.rps {K:Frag}{H F:Hp}{as:List Addr}:∀{n:Nat}{vs:List V}{ds:List D},Qbz K H F as (List.replicate n .v) vs ds→Rps K F as vs ds
 | 0,[],[],_=>Rps.nil
 | n+1,v::vs,d::ds,h=>by
  rw [List.replicate_succ] at h;exact Rps.cons h.1 (Qbz.rps h.2)
 | 0,[],_::_,h=>h.elim
 | 0,_::_,[],h=>h.elim
 | 0,_::_,_::_,h=>h.elim
 | n+1,[],[],h=>h.elim
 | n+1,[],_::_,h=>h.elim
 | n+1,_::_,[],h=>h.elim
def Qa1 (r:M (List D)):M D:=fun ρ O=>(r ρ O).bind fun ds O1=>if ds.length≤1000000 then .ok (.lst ds) O1 else .no
def Qbd (r:M (List D)):M D:=fun ρ O=>(r ρ O).bind fun ds O1=>if ds.length≤1000000 then .ok (.tup ds) O1 else .no
theorem QdS {n:Nat} (h:n≤1000000):n≤sizeLine:=zz h (by decide)
theorem Qa7 {es:List Expr}{pos:Pos}{r:M (List D)} (n:Nat) (h:AE X md P (List.replicate n .v) es r):OE X md P (.List es pos) (Qa1 r):=(Qs6 h).imp fun σ H Q q=>by
 obtain ⟨ρ,O,F,as,d,O',r0,s,e,k⟩:=q;obtain ⟨ds,O1,e1,e⟩:=Res.bind_ok e;split at e
 ·rename_i hz;cases e;refine ⟨ρ,_,F,as,_,_,r0,s,e1,fun vs H1 F1 as1 g1 r1 hv=>?_⟩;have hr:=hv.rps;refine ⟨by rw [hr.length]; exact QdS hz,fun p hp=>?_⟩
  have hF:F1 p=none:=by
   cases q:F1 p with
   | none=>rfl
   | some o=>rw [r1.fh p o q] at hp; cases hp
  refine k _ _ F1 as1 (g1.trans (Gr.lay hp)) (r1.lay hp) (.inr ⟨p,vs,ds,rfl,rfl,QaE,hF,fun z=>r1.all z hp,g1.dm p hp,hr⟩)
 ·cases e
theorem Qbg {es:List Expr}{pos:Pos}{x1}{r:M (List D)} (n:Nat) (h:AE X md P (List.replicate n .v) es r):VE X md P (.Tuple es x1 pos) (Qbd r):=(QnU h).imp fun σ H Q q=>by
 obtain ⟨ρ,O,F,as,d,O',r0,s,e,k⟩:=q;obtain ⟨ds,O1,e1,e⟩:=Res.bind_ok e;split at e
 ·rename_i hz;cases e;refine ⟨ρ,_,F,as,_,_,r0,s,e1,fun vs H1 F1 as1 g1 r1 hv=>?_⟩;have hr:=hv.rps;refine ⟨by rw [hr.length]; exact QdS hz,fun p hp=>?_⟩
  have hF:F1 p=none:=by
   cases q:F1 p with
   | none=>rfl
   | some o=>rw [r1.fh p o q] at hp; cases hp
  have ff:Same F1 (upd F1 p (.tup vs)):=fun b u q=>by rw [Qan (QaA q hF)]; exact q
  refine k _ _ (upd F1 p (.tup vs)) as1 ((g1.trans (Gr.lay hp)).frz (g1.dm p hp) hF) ((r1.lay hp).frz QaE hF (fun z=>r1.all z hp) rfl) (Rp.mkT (.inl QaE) (Rps.mono ff (fun _ _ z=>z) _ hr))
 ·cases e
def rD (K:Frag) (mg:Str→Option Value) (g:D→D→Option D):R2:=fun x y H Q=>∃O F as dx dy d,RlO K mg O H F as∧Lk K H F as x dx∧Lk K H F as y dy∧g dx dy=some d ∧
 ∀v' H' F',Gr H F as H' F' as→RlO K mg O H' F' as→Ow K (fun a=>H a=none) H' F' as v' d→Q v' H'
abbrev OpD (X:Cx) (f:Value→Value→Sem Value) (g:D→D→Option D):Prop:=OpR X f (rD X.K X.mg g)
def Qad (g:D→D→Option D) (ma mb:M D):M D:=fun ρ O=>(ma ρ O).bind fun x O1=>(mb ρ O1).bind fun y O2=>match g (QaU O2 x) (QaU O2 y) with
 | some d=>.ok d O2
 | none=>.no
theorem QkF {K:Frag}{mg:Str→Option Value}{g:D→D→Option D}{ma mb:M D}{σ:St}{H:Hp}{Q:VK} (h:tM K mg md P (rO K) (Qad g ma mb) σ H Q):tOp (rD K mg g) (tM K mg md P (rS K) ma) (tM K mg md P (rS K) mb) σ H Q:=by
 obtain ⟨ρ,O,F,as,d,O',r,sl,e,k⟩:=h;obtain ⟨x,O1,e1,e⟩:=Res.bind_ok e;obtain ⟨y,O2,e2,e⟩:=Res.bind_ok e;split at e
 ·rename_i d' hg;cases e;refine ⟨ρ,_,F,as,_,_,r,sl,e1,fun v H1 F1 as1 g1 r1 hv=>?_⟩;refine ⟨ρ,_,F1,as1,_,_,r1,sl.step g1,e2,fun u H2 F2 as2 g2 r2 hu=>?_⟩;refine ⟨_,F2,as2,_,_,_,r2,Sv.lk (Sv.gr hv g2) r2,Sv.lk hu r2,hg,fun v' H' F' g' r' hw=>?_⟩;exact k v' H' F' as2 ((g1.trans g2).trans g') r' (Qes _ _ _ _ _ _ _ (fun a ha=>(g1.trans g2).dm a ha) hw)
 ·cases e
theorem Qaj {e1 e2:Expr}{pos:Pos}{op:Operator}{g:D→D→Option D}{ma mb:M D} (ho:OpD X (binaryOp op) g) (ha:SE X md P e1 ma) (hb:SE X md P e2 mb):OE X md P (.BinOp e1 op e2 pos) (Qad g ma mb) :=
 (Quf ho ha hb).imp fun _ _ _=>QkF
theorem Qda {e1 e2:Expr}{pos:Pos}{op:CmpOp}{g:D→D→Option D}{ma mb:M D} (ho:OpD X (compareOp op) g) (ha:SE X md P e1 ma) (hb:SE X md P e2 mb) (hm:behindInMarks op e2=false):OE X md P (.Compare e1 [op] [e2] pos) (Qad g ma mb) :=
 (Qqn ho ha hb hm).imp fun _ _ _=>QkF
def QaM (m:M D):M Bool:=fun ρ O=>(m ρ O).bind fun d O1=>match d with
 | .bl b=>.ok b O1
 | _=>.no
theorem Qp5 {K:Frag}{mg:Str→Option Value}{m:M D}{σ:St}{H:Hp}{Q:Bool→Hp→Prop} (h:tMT K mg md P (QaM m) σ H Q):QpC (tM K mg md P (rO K) m) σ H Q:=by
 obtain ⟨ρ,O,F,as,d,O',r,sl,e,k⟩:=h;obtain ⟨d,O1,e1,e⟩:=Res.bind_ok e
 cases d with
 | bl c =>
  cases e;refine ⟨ρ,_,F,as,_,_,r,sl,e1,fun v H1 F1 as1 g1 r1 hv=>?_⟩
  rcases hv with ⟨_,hv⟩ | ⟨a,xs,ds,_,e2,_⟩
  ·exact ⟨_,hv.unB,k H1 F1 as1 g1 r1⟩
  ·cases e2
 | _=>cases e
theorem QbM {e1 e2:Expr}{pos:Pos}{op:CmpOp}{g:D→D→Option D}{ma mb:M D} (ho:OpD X (compareOp op) g) (ha:SE X md P e1 ma) (hb:SE X md P e2 mb) (hm:behindInMarks op e2=false):TsE X md P (.Compare e1 [op] [e2] pos) (QaM (Qad g ma mb)) :=
 (QqR ho ha hb hm).imp fun σ H Q h=>by
  have q:=Qp5 h;exact QkF q
def QdN (g g':D→D→Option D) (ma mb mc:M D):M D:=fun ρ O=>(ma ρ O).bind fun x O1=>(mb ρ O1).bind fun y O2=>match g (QaU O2 x) (QaU O2 y) with
 | some (.bl true)=>(mc ρ O2).bind fun z O3=>match g' (QaU O3 y) (QaU O3 z) with
  | some d=>.ok d O3
  | none=>.no
 | some (.bl false)=>.ok (.bl false) O2
 | _=>.no
theorem QoY {K:Frag}{mg:Str→Option Value}{g g':D→D→Option D}{ma mb mc:M D}{σ:St}{H:Hp}{Q:VK} (h:tM K mg md P (rO K) (QdN g g' ma mb mc) σ H Q) :
  Qoi (rD K mg g) (rD K mg g') (tM K mg md P (rS K) ma) (tM K mg md P (rS K) mb) (tM K mg md P (rS K) mc) σ H Q:=by
 obtain ⟨ρ,O,F,as,d,O',r,sl,e,k⟩:=h;obtain ⟨x,O1,e1,e⟩:=Res.bind_ok e;obtain ⟨y,O2,e2,e⟩:=Res.bind_ok e;refine ⟨ρ,_,F,as,_,_,r,sl,e1,fun v H1 F1 as1 g1 r1 hv=>?_⟩;refine ⟨ρ,_,F1,as1,_,_,r1,sl.step g1,e2,fun u H2 F2 as2 g2 r2 hu=>?_⟩;split at e
 ·rename_i hg;obtain ⟨z,O3,e3,e⟩:=Res.bind_ok e;refine ⟨_,F2,as2,_,_,_,r2,Sv.lk (Sv.gr hv g2) r2,Sv.lk hu r2,hg,fun v' H' F' g' r' hw=>?_⟩
  rcases hw with ⟨_,hw⟩ | ⟨a,xs,ds,_,z,_⟩
  ·refine ⟨true,hw.unB,?_⟩;rw [if_pos rfl];split at e
   ·rename_i d' hg';cases e;have g3:=(g1.trans g2).trans g';refine ⟨ρ,_,F',as2,_,_,r',sl.step g3,e3,fun w H4 F4 as4 g4 r4 hz=>?_⟩;refine ⟨_,F4,as4,_,_,_,r4,Sv.lk (Sv.gr (Sv.gr hu g') g4) r4,Sv.lk hz r4,hg',fun v5 H5 F5 g5 r5 hw5=>?_⟩;exact k v5 H5 F5 as4 ((g3.trans g4).trans g5) r5 (Qes _ _ _ _ _ _ _ (fun a ha=>(g3.trans g4).dm a ha) hw5)
   ·cases e
  ·cases z
 ·rename_i hg;cases e;refine ⟨_,F2,as2,_,_,_,r2,Sv.lk (Sv.gr hv g2) r2,Sv.lk hu r2,hg,fun v' H' F' g' r' hw=>?_⟩
  rcases hw with ⟨_,hw⟩ | ⟨a,xs,ds,_,z,_⟩
  ·refine ⟨false,hw.unB,?_⟩;rw [if_neg zk];exact k _ H' F' as2 ((g1.trans g2).trans g') r' (.inl ⟨rfl,Rp.bl⟩)
  ·cases z
 ·cases e
theorem Qib {a b c:Expr}{pos:Pos}{op op':CmpOp}{g g':D→D→Option D}{ma mb mc:M D} (ho:OpD X (compareOp op) g) (ho':OpD X (compareOp op') g') (ha:SE X md P a ma) (hb:SE X md P b mb) (hc:SE X md P c mc)
  (hm:lastMarks [op,op'] [b,c]=false:=by with_unfolding_all rfl):OE X md P (.Compare a [op,op'] [b,c] pos) (QdN g g' ma mb mc):=(QoD ho ho' ha hb hc hm).imp fun _ _ _=>QoY
def isNon:D→Bool
 | .non=>true
 | _=>false
def Qu2 (m:M D):M D:=fun ρ O=>(m ρ O).bind fun d O1=>.ok (.bl (isNon d)) O1
def QtG (m:M D):M D:=fun ρ O=>(m ρ O).bind fun d O1=>.ok (.bl (!isNon d)) O1
def Qje:D→Option Bool
 | .non=>some false
 | .bl b=>some b
 | .int i=>some (i != 0)
 | .str l=>if l.length≤1000000 then some (!l.isEmpty) else none
 | .lst ds=>some (!ds.isEmpty)
 | .tup ds=>some (!ds.isEmpty)
 | .dic ks _=>some (!ks.isEmpty)
 | .ob _=>none
def QbC (m:M D):M Bool:=fun ρ O=>(m ρ O).bind fun d O1=>match Qje (QaU O1 d) with
 | some b=>.ok b O1
 | none=>.no
theorem Qjk {α β:Type}{xs:List α}{ys:List β} (h:xs.length=ys.length):(!xs.isEmpty) = !ys.isEmpty:=by
 cases xs <;> cases ys <;> simp_all
theorem Lk.tru {K:Frag}{H F:Hp}{as:List Addr}{v:V}{d:D}{b:Bool} (h:Lk K H F as v d) (fh:Same F H) (e:Qje d=some b):Qon K v H b:=by
 cases d with
 | non=>rw [(h.rp rfl).unN]; cases e; rfl
 | bl b=>rw [(h.rp rfl).unB]; cases e; rfl
 | int b=>rw [(h.rp rfl).unI]; cases e; rfl
 | str l =>
  rw [(h.rp rfl).unS];simp only [Qje] at e;split at e
  ·rename_i hl;cases e;refine ⟨by rw [Qb4]; exact QdS hl,?_⟩;rw [Qb4]
   cases l with
   | nil=>rfl
   | cons c l =>
    have:((((c::l).length:Nat):Int) != 0)=true:=by
     rw [bne_iff_ne,zJ];omega
    rw [this];rfl
  ·cases e
 | lst ds =>
  obtain ⟨a,xs,rfl,h1,h2⟩:=h.list fh;cases e;exact .inl ⟨xs,h1.sq,(Qjk h2.length).symm⟩
 | tup ds =>
  obtain ⟨a,xs,rfl,h1,h2⟩:=(h.rp rfl).unT;cases e;exact .inr (.inl ⟨xs,Same.seqT fh h1,(Qjk h2.length).symm⟩)
 | dic ks vs =>
  obtain ⟨a,kvs,rfl,h1,rfl,h2⟩:=(h.rp rfl).unD;cases e;exact .inr (.inr ⟨kvs,fh _ _ h1,by cases kvs <;> rfl⟩)
 | ob n=>cases e
theorem Qcq {a:Expr}{m:M D} (h:SE X md P a m) (he:∀whole,isTrue a X.env whole=(do let v ←whole; standAt a.pos; holding [v] (truthy v)):=by intro _; rfl):TsE X md P a (QbC m):=(QoB h he).imp fun σ H Q q=>by
 obtain ⟨ρ,O,F,as,d,O',r,sl,e,k⟩:=q;obtain ⟨d,O1,e1,e⟩:=Res.bind_ok e;split at e
 ·rename_i c hc;cases e;exact ⟨ρ,_,F,as,_,_,r,sl,e1,fun v H1 F1 as1 g1 r1 hv=>⟨_,Lk.tru (Sv.lk hv r1) r1.fh hc,k H1 F1 as1 g1 r1⟩⟩
 ·cases e
def QcJ (a b:M Bool):M Bool:=fun ρ O=>(a ρ O).bind fun c O1=>if c=true then b ρ O1 else .ok false O1
def Qc3 (a b:M Bool):M Bool:=fun ρ O=>(a ρ O).bind fun c O1=>if c=true then .ok true O1 else b ρ O1
def Qbs (a:M Bool):M Bool:=fun ρ O=>(a ρ O).bind fun c O1=>.ok (!c) O1
theorem Qp9 {K:Frag}{mg:Str→Option Value}{ma mb:M Bool}{σ:St}{H:Hp}{Q:Bool→Hp→Prop} (h:tMT K mg md P (QcJ ma mb) σ H Q):QsH (tMT K mg md P ma) (tMT K mg md P mb) σ H Q:=by
 obtain ⟨ρ,O,F,as,d,O',r,sl,e,k⟩:=h;obtain ⟨c,O1,e1,e⟩:=Res.bind_ok e;refine ⟨ρ,_,F,as,_,_,r,sl,e1,fun H1 F1 as1 g1 r1=>?_⟩
 cases c with
 | true =>
  rw [if_pos rfl] at e ⊢;exact ⟨ρ,_,F1,as1,_,_,r1,sl.step g1,e,fun H2 F2 as2 g2 r2=>k H2 F2 as2 (g1.trans g2) r2⟩
 | false =>
  rw [if_neg zk] at e ⊢;cases e;exact k H1 F1 as1 g1 r1
theorem Qrz {K:Frag}{mg:Str→Option Value}{ma mb:M Bool}{σ:St}{H:Hp}{Q:Bool→Hp→Prop} (h:tMT K mg md P (Qc3 ma mb) σ H Q):tOr (tMT K mg md P ma) (tMT K mg md P mb) σ H Q:=by
 obtain ⟨ρ,O,F,as,d,O',r,sl,e,k⟩:=h;obtain ⟨c,O1,e1,e⟩:=Res.bind_ok e;refine ⟨ρ,_,F,as,_,_,r,sl,e1,fun H1 F1 as1 g1 r1=>?_⟩
 cases c with
 | true =>
  rw [if_pos rfl] at e ⊢;cases e;exact k H1 F1 as1 g1 r1
 | false =>
  rw [if_neg zk] at e ⊢;exact ⟨ρ,_,F1,as1,_,_,r1,sl.step g1,e,fun H2 F2 as2 g2 r2=>k H2 F2 as2 (g1.trans g2) r2⟩
theorem Qf0 {a:Expr}{pos:Pos}{m:M Bool} (h:TsE X md P a m):TwE X md P (.BoolOp .And [a] pos) m:=QpW h
theorem QiM {a:Expr}{pos:Pos}{m:M Bool} (h:TsE X md P a m):TwE X md P (.BoolOp .Or [a] pos) m:=Qrx h
theorem QgZ {a b:Expr}{rest:List Expr}{pos:Pos}{ma mb:M Bool} (ha:TsE X md P a ma) (hb:TwE X md P (.BoolOp .And (b::rest) pos) mb):TwE X md P (.BoolOp .And (a::b::rest) pos) (QcJ ma mb):=(Qsj ha hb).imp fun _ _ _=>Qp9
theorem QiD {a b:Expr}{rest:List Expr}{pos:Pos}{ma mb:M Bool} (ha:TsE X md P a ma) (hb:TwE X md P (.BoolOp .Or (b::rest) pos) mb):TwE X md P (.BoolOp .Or (a::b::rest) pos) (Qc3 ma mb):=(QtV ha hb).imp fun _ _ _=>Qrz
theorem Qgt {e:Expr}{m:M Bool} (h:TwE X md P e m):TsE X md P e m:=PW.pt h
theorem QcD {a:Expr}{pos:Pos}{m:M Bool} (h:TsE X md P a m):TsE X md P (.UnaryOp .Not a pos) (Qbs m):=(Qr0 h).imp fun σ H Q q=>by
 obtain ⟨ρ,O,F,as,d,O',r,sl,e,k⟩:=q;obtain ⟨c,O1,e1,e⟩:=Res.bind_ok e;cases e;exact ⟨ρ,_,F,as,_,_,r,sl,e1,k⟩
def Qbi (ma mb:M D):M D:=fun ρ O=>(ma ρ O).bind fun d O1=>match d with
 | .bl true=>mb ρ O1
 | .bl false=>.ok (.bl false) O1
 | _=>.no
def QsO (ma mb:M D):M D:=fun ρ O=>(ma ρ O).bind fun d O1=>match d with
 | .bl true=>.ok (.bl true) O1
 | .bl false=>mb ρ O1
 | _=>.no
def Qc6 (ma:M D):M D:=fun ρ O=>(ma ρ O).bind fun d O1=>match d with
 | .bl b=>.ok (.bl (!b)) O1
 | _=>.no
theorem QcX {a:Expr}{pos:Pos}{op}{m:M D} (h:VE X md P a m):VE X md P (.BoolOp op [a] pos) m:=Qtf h
theorem Qck {a b:Expr}{rest:List Expr}{pos:Pos}{ma mb:M D} (ha:VE X md P a ma) (hb:VE X md P (.BoolOp .And (b::rest) pos) mb):VE X md P (.BoolOp .And (a::b::rest) pos) (Qbi ma mb):=(QrQ ha hb).imp fun σ H Q q=>by
 obtain ⟨ρ,O,F,as,d,O',r,sl,e,k⟩:=q;obtain ⟨x,O1,e1,e⟩:=Res.bind_ok e;refine ⟨ρ,_,F,as,_,_,r,sl,e1,fun v H1 F1 as1 g1 r1 hv=>?_⟩
 cases x with
 | bl c =>
  refine ⟨c,Rp.unB hv,?_⟩
  cases c with
  | true =>
   rw [if_pos rfl];exact ⟨ρ,_,F1,as1,_,_,r1,sl.step g1,e,fun v2 H2 F2 as2 g2 r2 hv2=>k v2 H2 F2 as2 (g1.trans g2) r2 hv2⟩
  | false =>
   rw [if_neg zk];cases e;exact k _ H1 F1 as1 g1 r1 Rp.bl
 | _=>cases e
theorem Qiz {a:Expr}{pos:Pos}{m:M D} (h:VE X md P a m):VE X md P (.UnaryOp .Not a pos) (Qc6 m):=(Qrw h).imp fun σ H Q q=>by
 obtain ⟨ρ,O,F,as,d,O',r,sl,e,k⟩:=q;obtain ⟨x,O1,e1,e⟩:=Res.bind_ok e;refine ⟨ρ,_,F,as,_,_,r,sl,e1,fun v H1 F1 as1 g1 r1 hv=>?_⟩
 cases x with
 | bl c =>
  cases e;exact ⟨c,Rp.unB hv,k _ H1 F1 as1 g1 r1 Rp.bl⟩
 | _=>cases e
def mIf (t:M Bool) (a b:M D):M D:=fun ρ O=>(t ρ O).bind fun c O1=>if c=true then a ρ O1 else b ρ O1
end
section
variable {K:Frag}{mg:Str→Option Value}{md:List Md}{P:Pt}{R:RR}{ρ:Qam}{σ:St}{H F H' F':Hp}{as as':List Addr}{O O':Qae}
theorem SlO.set {i:Nat}{m:Md}{v:V}{d:D} (s:SlO K md P ρ σ H F as) (hm:md[i]? = some m) (hns:m≠.s) (hv:Qet P K H F as m v d)
  (hj:∀(a:Addr) (ds:List D) (j:Nat) (es:List D),m = .o→v = .ref a→d = .lst ds→i≠j→md[j]? = some .o→ρ[j]? = some (some (.lst es))→σ[j]?≠some (some (.ref a))):SlO K md P (ρ.set i (some d)) (σ.set i (some v)) H F as:=by
 have hi:i < md.length:=(zn.mp hm).1;refine ⟨by rw [zM]; exact s.len,by rw [zM]; exact s.len',s.pd,fun j m' d' e1 e2=>?_,fun j k a ds es h1 h2 h3 h4 h5 h6=>?_,fun x hx=>?_⟩
 ·by_cases h:i=j
  ·subst h;rw [hm] at e1; cases e1;rw [zI (by rw [s.len']; exact hi)] at e2;cases e2;exact ⟨v,zI (by rw [s.len]; exact hi),hv⟩
  ·rw [zq h] at e2;rw [zq h];exact s.sl j m' d' e1 e2
 ·by_cases hij:i=j
  ·by_cases hik:i=k
   ·rw [←hij,←hik]
   ·exfalso
    subst hij;rw [hm] at h1; cases h1;rw [zI (by rw [s.len']; exact hi)] at h3;rw [zI (by rw [s.len]; exact hi)] at h5;rw [zq hik] at h4 h6;cases h3; cases h5;exact hj a ds k es rfl rfl rfl hik h2 h4 h6
  ·by_cases hik:i=k
   ·exfalso
    subst hik;rw [hm] at h2; cases h2;rw [zI (by rw [s.len']; exact hi)] at h4;rw [zI (by rw [s.len]; exact hi)] at h6;rw [zq hij] at h3 h5;cases h4; cases h6;exact hj a es j ds rfl rfl rfl hij h1 h3 h5
   ·rw [zq hij] at h3 h5;rw [zq hik] at h4 h6;exact s.inj j k a ds es h1 h2 h3 h4 h5 h6
 ·obtain ⟨p1,p2,p3⟩:=s.pin x hx
  have hne:i≠x.1:=fun z=>by
   rw [←z,hm] at p1;exact hns (zG p1)
  exact ⟨p1,by rw [zq hne]; exact p2,by rw [zq hne]; exact p3⟩
theorem SlO.setV {i:Nat}{v:V}{d:D} (s:SlO K md P ρ σ H F as) (hm:md[i]? = some .v) (hv:Rp K F as v d):SlO K md P (ρ.set i (some d)) (σ.set i (some v)) H F as :=
 s.set hm (by decide) hv fun _ _ _ _ z=>nomatch z
theorem SlO.setN {i:Nat}{v:V}{d:D} (s:SlO K md P ρ σ H F as) (hm:md[i]? = some .o) (hn:Qd4 d=true) (hv:Rp K F as v d):SlO K md P (ρ.set i (some d)) (σ.set i (some v)) H F as :=
 s.set hm (by decide) (.inl ⟨hn,hv⟩) fun _ _ _ _ _ _ z=>by subst z; cases hn
theorem SlO.setO {i:Nat}{v:V}{d:D}{H0:Hp} (s:SlO K md P ρ σ H0 F as) (g:Gr H0 F as H' F' as') (hm:md[i]? = some .o) (hv:Ow K (fun a=>H0 a=none) H' F' as' v d):SlO K md P (ρ.set i (some d)) (σ.set i (some v)) H' F' as':=by
 have s':=s.step g
 rcases hv with ⟨hn,hv⟩ | ⟨a,xs,ds,rfl,rfl,e3,e4,e5,e6,e7⟩
 ·exact s'.setN hm hn hv
 ·refine s'.set hm (by decide) (.inr ⟨a,xs,ds,rfl,rfl,e3,e4,e5,fun p=>s.pd a p e6,e7⟩) fun b ds' j es _ hb hd hij hj he hs=>?_
  cases hb;obtain ⟨v,h1,h2⟩:=s.sl j .o _ hj he;rw [hs] at h1; cases h1
  rcases h2 with ⟨h2,_⟩ | ⟨a',xs',_,z1,_,z3,_⟩
  ·cases h2
  ·cases z1;rw [e6] at z3; cases z3
end
section
variable {X:Cx}{md:List Md}{P:Pt}{R:RR}
def QaQ:MS:=fun ρ O=>.nx ρ O
def Qaq (a b:MS):MS:=fun ρ O=>match a ρ O with
 | .nx ρ' O'=>b ρ' O'
 | r=>r
theorem Qbu:VSs X md P R [] QaQ:=QlG.imp fun D σ H q=>by
 obtain ⟨ρ,O,F,as,r,s,k⟩:=q;exact k σ H F as GrS.refl r s
theorem QeA {K:Frag}{mg:Str→Option Value}{D:Ends}{H F H1 F1:Hp}{as as1:List Addr} (g:GrS P H F as H1 F1 as1) {f:Fl} (k:QfS K mg md P R D H F as f):QfS K mg md P R D H1 F1 as1 f:=by
 cases f with
 | nx ρ' O'=>exact fun σ' H' F' as' g'=>k σ' H' F' as' (g.trans g')
 | bk ρ' O'=>exact fun σ' H' F' as' g'=>k σ' H' F' as' (g.trans g')
 | ct ρ' O'=>exact fun σ' H' F' as' g'=>k σ' H' F' as' (g.trans g')
 | rt d O'=>exact fun σ' H' F' as' g'=>k σ' H' F' as' (g.trans g')
 | ex _ _=>exact k
 | no=>exact k
theorem Qar {st:Stmt}{rest:List Stmt}{a b:MS} (h1:VS X md P R st a) (h2:VSs X md P R rest b):VSs X md P R (st::rest) (Qaq a b):=(Qku h1 h2).imp fun D σ H q=>by
 obtain ⟨ρ,O,F,as,r,s,k⟩:=q;refine ⟨ρ,O,F,as,r,s,?_⟩;unfold Qaq at k
 cases e:a ρ O with
 | nx ρ' O' =>
  rw [e] at k;dsimp only at k
  exact fun σ' H' F' as' g r' s'=>⟨ρ',O',F',as',r',s',QeA g k⟩
 | bk ρ' O'=>rw [e] at k; exact k
 | ct ρ' O'=>rw [e] at k; exact k
 | rt d O'=>rw [e] at k; exact k
 | ex x O'=>rw [e] at k; exact k
 | no=>rw [e] at k; exact k
theorem QaC {st:Stmt}{a:MS} (h1:VS X md P R st a):VSs X md P R [st] a:=Qlb h1
def QsX (m:M D):MS:=fun ρ O=>match m ρ O with
 | .ok _ O'=>.nx ρ O'
 | .ex x O'=>.ex x O'
 | .no=>.no
def QaL (m:M D):MS:=fun ρ O=>match m ρ O with
 | .ok d O'=>.rt d O'
 | .ex x O'=>.ex x O'
 | .no=>.no
theorem QnJ (hR:QdB R) {e:Expr}{pos:Pos}{m:M D} (h:PE X e (tM X.K X.mg md P R m)):VS X md P R (.Return (some e) pos) (QaL m):=(QnM h).imp fun D σ H q=>by
 obtain ⟨ρ,O,F,as,r,s,k⟩:=q;unfold QaL at k
 cases e:m ρ O with
 | ok d O' =>
  rw [e] at k;exact ⟨ρ,_,F,as,_,_,r,s,e,fun v H' F' as' g r' hv=>k v H' F' as' g.toS r' (hR _ _ _ _ _ _ _ (fun a ha p=>s.pd a p ha) hv)⟩
 | ex x O'=>rw [e] at k; exact False.elim k
 | no=>rw [e] at k; exact False.elim k
theorem QaK {e:Expr}{pos:Pos}{m:M D} (h:VE X md P e m):VS X md P (rV X.K) (.Return (some e) pos) (QaL m):=QnJ QbF h
theorem Qlv {e:Expr}{pos:Pos}{m:M D} (h:OE X md P e m):VS X md P (rO X.K) (.Return (some e) pos) (QaL m):=QnJ Qes h
theorem QqE (i:Nat) {x:Str}{p pos:Pos} (hm:md[i]? = some .o:=by rfl) (hN:X.N[i]? = some x:=by rfl) (hv:Vis X.env.scope x:=by first | exact Or.inl rfl | exact Or.inr (Or.inl rfl) | exact Or.inr (Or.inr rfl))
  (hd:(x == ("__debug__":Str))=false:=by decide) (hcd:(x == ("__classdict__":Str))=false:=by decide):VS X md P (rO X.K) (.Return (some (.Name x p)) pos) (QaL (Qab i)):=(QnM (QeD (i:=i) hN hv hd hcd)).imp fun D σ H q=>by
 obtain ⟨ρ,O,F,as,r,s,k⟩:=q;unfold QaL at k
 cases e:Qab i ρ O with
 | ok d O' =>
  rw [e] at k;obtain ⟨e1,rfl⟩:=QhD e;obtain ⟨v,h1,h2⟩:=s.sl i .o d hm e1;refine ⟨v,h1,k v H F as GrS.refl r ?_⟩
  rcases h2 with h2 | ⟨a,xs,ds,e1,e2,e3,e0,e4,e5,e6⟩
  ·exact .inl h2
  ·exact .inr ⟨a,xs,ds,e1,e2,e3,e0,e4,e5,e6⟩
 | ex x O'=>rw [e] at k; exact False.elim k
 | no=>rw [e] at k; exact False.elim k
def Qb0 (t:M Bool) (a b:MS):MS:=fun ρ O=>match t ρ O with
 | .ok c O'=>if c=true then a ρ O' else b ρ O'
 | .ex x O'=>.ex x O'
 | .no=>.no
theorem Qcc {c:Expr}{a b:List Stmt}{pos:Pos}{t:M Bool}{ma mb:MS} (hc:TsE X md P c t) (ha:VSs X md P R a ma) (hb:VSs X md P R b mb):VS X md P R (.If c a b pos) (Qb0 t ma mb):=(QpE hc ha hb).imp fun D σ H q=>by
 obtain ⟨ρ,O,F,as,r,s,k⟩:=q;unfold Qb0 at k
 cases e:t ρ O with
 | ok c O' =>
  rw [e] at k;refine ⟨ρ,_,F,as,_,_,r,s,e,fun H1 F1 as1 g r1=>?_⟩;dsimp only at k
  cases c with
  | true =>
   rw [if_pos rfl] at k ⊢;exact ⟨ρ,O',F1,as1,r1,s.step g,QeA g.toS k⟩
  | false =>
   rw [if_neg zk] at k ⊢;exact ⟨ρ,O',F1,as1,r1,s.step g,QeA g.toS k⟩
 | ex x O'=>rw [e] at k; exact False.elim k
 | no=>rw [e] at k; exact False.elim k
def Qas (i:Nat) (m:M D):MS:=fun ρ O=>match m ρ O with
 | .ok d O'=>.nx (ρ.set i (some d)) O'
 | .ex x O'=>.ex x O'
 | .no=>.no
theorem Qq7 {K:Frag}{mg:Str→Option Value}{i:Nat}{m:M D}{t:TE} (hm:md[i]? = some .v) (ht:∀σ H Q,tM K mg md P (rV K) m σ H Q→t σ H Q) {D:Ends}{σ:St}{H:Hp} (q:tMS K mg md P R (Qas i m) D σ H):QmH t (QjV i) D σ H:=by
 obtain ⟨ρ,O,F,as,r,s,k⟩:=q;unfold Qas at k
 cases e:m ρ O with
 | ok d O' =>
  rw [e] at k;exact ht _ _ _ ⟨ρ,_,F,as,_,_,r,s,e,fun v H' F' as' g r' hv=>k _ H' F' as' g.toS r' ((s.step g).setV hm hv)⟩
 | ex x O'=>rw [e] at k; exact False.elim k
 | no=>rw [e] at k; exact False.elim k
theorem QqH {K:Frag}{mg:Str→Option Value}{i:Nat}{m:M D}{t:TE} (hm:md[i]? = some .o) (ht:∀σ H Q,tM K mg md P (rO K) m σ H Q→t σ H Q) {D:Ends}{σ:St}{H:Hp} (q:tMS K mg md P R (Qas i m) D σ H):QmH t (QjV i) D σ H:=by
 obtain ⟨ρ,O,F,as,r,s,k⟩:=q;unfold Qas at k
 cases e:m ρ O with
 | ok d O' =>
  rw [e] at k;exact ht _ _ _ ⟨ρ,_,F,as,_,_,r,s,e,fun v H' F' as' g r' hv=>k _ H' F' as' g.toS r' (s.setO g hm hv)⟩
 | ex x O'=>rw [e] at k; exact False.elim k
 | no=>rw [e] at k; exact False.elim k
theorem QaD {i:Nat}{x:Str}{e:Expr}{pos pos':Pos}{m:M D} (hN:X.N.Nodup) (hi:X.N[i]? = some x) (hx:Loc X.env.scope x) (h:VE X md P e m) (hm:md[i]? = some .v:=by rfl) (hs:swapsWith e (some (.Name x pos')) pos.line X.env=pure false:=by rfl)
  (hf:X.fn x=true∨X.env.scope.names.lookup x=some .local:=by first | exact .inl rfl | exact .inr rfl | assumption):VS X md P R (.Assign [.Name x pos'] e pos) (Qas i m):=(Qnu (i:=i) hN hi hx h hs hf).imp fun D σ H q=>Qq7 hm (fun _ _ _ z=>z) q
theorem QhK {i:Nat}{x:Str}{e:Expr}{pos pos':Pos}{m:M D} (hN:X.N.Nodup) (hi:X.N[i]? = some x) (hx:Loc X.env.scope x) (h:OE X md P e m) (hm:md[i]? = some .o:=by rfl) (hs:swapsWith e (some (.Name x pos')) pos.line X.env=pure false:=by rfl)
  (hf:X.fn x=true∨X.env.scope.names.lookup x=some .local:=by first | exact .inl rfl | exact .inr rfl | assumption):VS X md P R (.Assign [.Name x pos'] e pos) (Qas i m):=(Qnu (i:=i) hN hi hx h hs hf).imp fun D σ H q=>QqH hm (fun _ _ _ z=>z) q
abbrev MG:=D→Qam→Option Qam
def tMG (K:Frag) (mg:Str→Option Value) (md:List Md) (P:Pt) (g:MG):TG:=fun v σ H Q=>∃ρ O F as d ρ',RlO K mg O H F as∧SlO K md P ρ σ H F as∧Rp K F as v d∧g d ρ=some ρ'∧∀σ',SlO K md P ρ' σ' H F as→Q σ' H
def Qvm (K:Frag) (mg:Str→Option Value) (md:List Md) (P:Pt) (g:List D→Qam→Option Qam):TGs:=fun vs σ H Q=>∃ρ O F as ds ρ',RlO K mg O H F as∧SlO K md P ρ σ H F as∧Rps K F as vs ds∧g ds ρ=some ρ'∧∀σ',SlO K md P ρ' σ' H F as→Q σ' H
def VG (X:Cx) (md:List Md) (P:Pt) (tg:Expr) (g:MG):Prop:=PG X tg (tMG X.K X.mg md P g)
def VGs (X:Cx) (md:List Md) (P:Pt) (tg:List Expr) (g:List D→Qam→Option Qam):Prop:=PGs X tg (Qvm X.K X.mg md P g)
theorem PG.imp {e:Expr}{t t':TG} (h:PG X e t) (k:∀v σ H Q,t' v σ H Q→t v σ H Q):PG X e t':=fun pins s σ H v u Q I r q=>h pins s σ H v u Q I r (k v σ H Q q)
theorem PGs.imp {e:List Expr}{t t':TGs} (h:PGs X e t) (k:∀v σ H Q,t' v σ H Q→t v σ H Q):PGs X e t':=fun pins s σ H v u Q I r q=>h pins s σ H v u Q I r (k v σ H Q q)
def mgN (i:Nat):MG:=fun d ρ=>some (ρ.set i (some d))
theorem Qbf {i:Nat}{x:Str}{pos:Pos} (hN:X.N.Nodup) (hi:X.N[i]? = some x) (hx:Loc X.env.scope x) (hm:md[i]? = some .v:=by rfl) (hf:X.fn x=true∨X.env.scope.names.lookup x=some .local:=by first | exact .inl rfl | exact .inr rfl | assumption):VG X md P (.Name x pos) (mgN i) :=
 (Qqv (i:=i) hN hi hx hf).imp fun v σ H Q q=>by
  obtain ⟨ρ,O,F,as,d,ρ',r,s,hv,e,k⟩:=q;cases e;exact k _ (s.setV hm hv)
def Qf6:List D→Qam→Option Qam:=fun ds ρ=>match ds with
 | []=>some ρ
 | _=>none
def QbJ (g:MG) (r:List D→Qam→Option Qam):List D→Qam→Option Qam:=fun ds ρ=>match ds with
 | d::ds=>(g d ρ).bind fun ρ1=>r ds ρ1
 | []=>none
theorem Qjg:VGs X md P [] Qf6:=Qq2.imp fun v σ H Q q=>by
 obtain ⟨ρ,O,F,as,ds,ρ',r,s,hv,e,k⟩:=q
 cases ds with
 | nil=>cases e; exact ⟨hv.un0,k _ s⟩
 | cons _ _=>cases e
theorem Qcr {e:Expr}{es:List Expr}{g:MG}{r:List D→Qam→Option Qam} (h1:VG X md P e g) (h2:VGs X md P es r) (hs:(assignEach (e::es) X.env).map (·.2)=assign e X.env::(assignEach es X.env).map (·.2):=by rfl):VGs X md P (e::es) (QbJ g r) :=
 (Qpc h1 h2 hs).imp fun v σ H Q q=>by
  obtain ⟨ρ,O,F,as,ds,ρ',r0,s,hv,e,k⟩:=q
  cases ds with
  | nil=>cases e
  | cons d ds =>
   obtain ⟨x,rs,rfl,hx,hr⟩:=hv.un;unfold QbJ at e;dsimp only at e
   cases e1:g d ρ with
   | none=>rw [e1] at e; cases e
   | some ρ1 =>
    rw [e1] at e;exact ⟨x,rs,rfl,ρ,O,F,as,d,ρ1,r0,s,hx,e1,fun σ' s'=>⟨ρ1,O,F,as,ds,ρ',r0,s',hr,e,k⟩⟩
def Qh7 (n:Nat) (r:List D→Qam→Option Qam):MG:=fun d ρ=>match d with
 | .tup ds=>if ds.length=n then r ds ρ else none
 | _=>none
theorem QkT {es:List Expr}{pos:Pos}{k:Nat}{r:List D→Qam→Option Qam} (n:Nat) (hc:X.calm=true) (h:VGs X md P es r) (hn:(assignEach es X.env).length=n:=by rfl) (hst:(assignEach es X.env).findIdx? (·.1)=none:=by rfl):VG X md P (.Tuple es k pos) (Qh7 n r) :=
 (Qrp hc h hn hst).imp fun v σ H Q q=>by
  obtain ⟨ρ,O,F,as,d,ρ',r0,s,hv,e,k⟩:=q
  cases d with
  | tup ds =>
   obtain ⟨a,xs,rfl,h1,h2⟩:=hv.unT;unfold Qh7 at e;dsimp only at e;split at e
   ·rename_i hl;exact ⟨a,xs,rfl,Same.seqT r0.fh h1,by rw [h2.length]; exact hl,ρ,O,F,as,ds,ρ',r0,s,h2,e,k⟩
   ·cases e
  | _=>cases e
def QgG (m:M D) (g:MG):MS:=fun ρ O=>match m ρ O with
 | .ok d O'=>match g d ρ with
  | some ρ'=>.nx ρ' O'
  | none=>.no
 | .ex x O'=>.ex x O'
 | .no=>.no
theorem QnA {tg e:Expr}{pos:Pos}{m:M D}{g:MG} (h:VE X md P e m) (hg:VG X md P tg g) (hs:swapsWithSole [tg] e pos.line X.env=pure false:=by rfl) (hw:swappedStores [tg] e X.env=pure none:=by rfl)
  (h1:(assignEach [tg] X.env).map (·.2) = [assign tg X.env]:=by rfl):VS X md P R (.Assign [tg] e pos) (QgG m g):=(Qm2 h hg hs hw h1).imp fun D σ H q=>by
 obtain ⟨ρ,O,F,as,r,s,k⟩:=q;unfold QgG at k
 cases e:m ρ O with
 | ok d O' =>
  rw [e] at k;dsimp only at k
  cases e2:g d ρ with
  | none=>rw [e2] at k; exact False.elim k
  | some ρ' =>
   rw [e2] at k;refine ⟨ρ,_,F,as,_,_,r,s,e,fun v H1 F1 as1 g1 r1 hv=>?_⟩;exact ⟨ρ,O',F1,as1,d,ρ',r1,s.step g1,hv,e2,fun σ' s'=>k σ' H1 F1 as1 g1.toS r1 s'⟩
 | ex x O'=>rw [e] at k; exact False.elim k
 | no=>rw [e] at k; exact False.elim k
end
structure JOk (K:Frag) (mg:Str→Option Value) (P:Pt) (J:It) (ds:List D) (H F:Hp) (as:List Addr):Prop where
 turn:∀(i:Nat) (d:D) (H2 F2:Hp) (as2:List Addr),GrS P H F as H2 F2 as2→(∃O,RlO K mg O H2 F2 as2)→ds[i]? = some d→J.go i H2∧∀x H3,J.yld i H2 x H3→∃F3,Gr H2 F2 as2 H3 F3 as2∧(∀O,RlO K mg O H2 F2 as2→RlO K mg O H3 F3 as2)∧Rp K F3 as2 x d
 stop:∀(H2 F2:Hp) (as2:List Addr),GrS P H F as H2 F2 as2→(∃O,RlO K mg O H2 F2 as2)→J.stop ds.length H2
structure Qr8 (K:Frag) (mg:Str→Option Value) (J:It) (ds:List D) (H F:Hp) (as:List Addr):Prop where
 turn:∀(i:Nat) (d:D) (H2 F2:Hp) (as2:List Addr),Gr H F as H2 F2 as2→(∃O,RlO K mg O H2 F2 as2)→ds[i]? = some d→J.go i H2∧∀x H3,J.yld i H2 x H3→∃F3,Gr H2 F2 as2 H3 F3 as2∧(∀O,RlO K mg O H2 F2 as2→RlO K mg O H3 F3 as2)∧Rp K F3 as2 x d
 stop:∀(H2 F2:Hp) (as2:List Addr),Gr H F as H2 F2 as2→(∃O,RlO K mg O H2 F2 as2)→J.stop ds.length H2
theorem JOk.e {K:Frag}{mg:Str→Option Value}{P:Pt}{J:It}{ds:List D}{H F:Hp}{as:List Addr} (h:JOk K mg P J ds H F as):Qr8 K mg J ds H F as:=⟨fun i d H2 F2 as2 g=>h.turn i d H2 F2 as2 g.toS,fun H2 F2 as2 g=>h.stop H2 F2 as2 g.toS⟩
def QsG (K:Frag) (mg:Str→Option Value) (md:List Md) (P:Pt) (m:M (List D)):TI:=fun σ H Q=>∃ρ O F as ds O',RlO K mg O H F as∧SlO K md P ρ σ H F as∧m ρ O = .ok ds O' ∧
 ∀J H' F' as',Gr H F as H' F' as'→RlO K mg O' H' F' as'→Qr8 K mg J ds H' F' as'→Q J H'
def VIc (X:Cx) (md:List Md) (P:Pt) (tg iter:Expr) (m:M (List D)):Prop:=PI X tg iter (QsG X.K X.mg md P m)
def tMI (K:Frag) (mg:Str→Option Value) (md:List Md) (P:Pt) (m:M (List D)):TI:=fun σ H Q=>∃ρ O F as ds O',RlO K mg O H F as∧SlO K md P ρ σ H F as∧m ρ O = .ok ds O' ∧
 ∀J H' F' as',Gr H F as H' F' as'→RlO K mg O' H' F' as'→JOk K mg P J ds H' F' as'→Q J H'
def VI (X:Cx) (md:List Md) (P:Pt) (tg iter:Expr) (m:M (List D)):Prop:=PI X tg iter (tMI X.K X.mg md P m)
section
variable {X:Cx}{md:List Md}{P:Pt}{R:RR}
theorem PI.imp {tg e:Expr}{t t':TI} (h:PI X tg e t) (k:∀σ H Q,t' σ H Q→t σ H Q):PI X tg e t':=fun pins s σ H Q I q=>h pins s σ H Q I (k σ H Q q)
theorem QkH {tg e:Expr}{m:M (List D)} (h:VI X md P tg e m):VIc X md P tg e m:=h.imp fun σ H Q q=>by
 obtain ⟨ρ,O,F,as,ds,O',r,s,e,k⟩:=q;exact ⟨ρ,O,F,as,ds,O',r,s,e,fun J H' F' as' g r' hJ=>k J H' F' as' g r' hJ.e⟩
def QbA (g:MG) (b:MS):List D→MS
 | [],ρ,O=>.nx ρ O
 | d::ds,ρ,O=>match g d ρ with
  | none=>.no
  | some ρ1=>match b ρ1 O with
   | .nx ρ2 O2=>QbA g b ds ρ2 O2
   | .ct ρ2 O2=>QbA g b ds ρ2 O2
   | .bk ρ2 O2=>.nx ρ2 O2
   | r=>r
def QcV (m:M (List D)) (g:MG) (b:MS):MS:=fun ρ O=>match m ρ O with
 | .ok ds O'=>QbA g b ds ρ O'
 | .ex x O'=>.ex x O'
 | .no=>.no
theorem Qs3 {K:Frag}{mg:Str→Option Value}{m:M (List D)}{g:MG}{b:MS}{D:Ends}{σ:St}{H:Hp} (q:tMS K mg md P R (QcV m g b) D σ H):QoE (tMI K mg md P m) (tMG K mg md P g) (tMS K mg md P R b) D σ H:=by
 obtain ⟨ρ,O,F,as,r,s,k⟩:=q;unfold QcV at k
 cases e:m ρ O with
 | ex x O'=>rw [e] at k; exact False.elim k
 | no=>rw [e] at k; exact False.elim k
 | ok ds O1 =>
  rw [e] at k;dsimp only at k;refine ⟨ρ,_,F,as,_,_,r,s,e,fun J H1 F1 as1 g1 r1 hJ=>?_⟩;have k1:=QeA (R:=R) g1.toS k;refine ⟨fun i m σ' H'=>m=ds.length - i∧i≤ds.length∧∃ρ' O' F' as',GrS P H1 F1 as1 H' F' as'∧RlO K mg O' H' F' as'∧SlO K md P ρ' σ' H' F' as'∧QfS K mg md P R D H' F' as' (QbA g b (ds.drop i) ρ' O'),⟨ds.length,by simp,Nat.zero_le _,ρ,O1,F1,as1,GrS.refl,r1,s.step g1,by rw [List.drop_zero]; exact k1⟩,?_⟩;rintro i n σ' H' ⟨rfl,hi,ρ',O',F',as',g',r',s',k'⟩
  by_cases hlt:i < ds.length
  ·have hd:=zy hlt;obtain ⟨go,yl⟩:=hJ.turn i _ H' F' as' g' ⟨O',r'⟩ hd;rw [List.drop_eq_getElem_cons hlt] at k';refine .inr ⟨go,fun σ2 H2=>∃ρ2 O2 F2 as2,GrS P H1 F1 as1 H2 F2 as2∧RlO K mg O2 H2 F2 as2∧SlO K md P ρ2 σ2 H2 F2 as2∧QfS K mg md P R D H2 F2 as2 (QbA g b (ds.drop (i+1)) ρ2 O2),fun σ2 H2 h2=>⟨ds.length - (i+1),by omega,rfl,hlt,h2⟩,fun x H3 y=>?_⟩;obtain ⟨F3,g3,r3,hx⟩:=yl x H3 y;have r3':=r3 O' r';unfold QbA at k'
   cases eg:g ds[i] ρ' with
   | none=>rw [eg] at k'; exact False.elim k'
   | some ρ1 =>
    rw [eg] at k';dsimp only at k';refine ⟨ρ',O',F3,as',ds[i],ρ1,r3',s'.step g3,hx,eg,fun σ4 s4=>?_⟩;refine ⟨ρ1,O',F3,as',r3',s4,?_⟩;have g4:GrS P H1 F1 as1 H3 F3 as':=g'.trans g3.toS
    have keep:=fun {f}=>QeA (K:=K) (mg:=mg) (md:=md) (R:=R) (D:=D) (f:=f) (g3.toS (P:=P))
    cases eb:b ρ1 O' with
    | nx ρ2 O2 =>
     rw [eb] at k'
     exact fun σ2 H2 F2 as2 g2 r2 s2=>⟨ρ2,O2,F2,as2,g4.trans g2,r2,s2,QeA g2 (keep k')⟩
    | ct ρ2 O2 =>
     rw [eb] at k'
     exact fun σ2 H2 F2 as2 g2 r2 s2=>⟨ρ2,O2,F2,as2,g4.trans g2,r2,s2,QeA g2 (keep k')⟩
    | bk ρ2 O2 =>
     rw [eb] at k'
     exact fun σ2 H2 F2 as2 g2 r2 s2=>k' σ2 H2 F2 as2 (g3.toS.trans g2) r2 s2
    | rt d O2 =>
     rw [eb] at k'
     exact fun v H2 F2 as2 g2 r2 s2=>k' v H2 F2 as2 (g3.toS.trans g2) r2 s2
    | ex _ _=>rw [eb] at k'; exact False.elim k'
    | no=>rw [eb] at k'; exact False.elim k'
  ·have hi':i=ds.length:=by omega
   subst hi';refine .inl ⟨hJ.stop H' F' as' g' ⟨O',r'⟩,?_⟩;rw [List.drop_length] at k';exact k' σ' H' F' as' GrS.refl r' s'
theorem Qhu {tg iter:Expr}{body:List Stmt}{pos:Pos}{m:M (List D)}{g:MG}{b:MS} (hc:X.calm=true) (hi:VI X md P tg iter m) (hg:VG X md P tg g) (hb:VSs X md P R body b) (hp:PassesOwn (model X.prog X.w) X.A X.env X.xe:=by exact PassesOwn.never)
  (hs:∀x,foldedSetIterable iter X.env x=pure x:=by intro _; rfl):VS X md P R (.For tg iter body [] pos) (QcV m g b):=(Qnb hp hc hi hg hb hs).imp fun _ _ _ q=>Qs3 q
def Qb1 (g:MG) (t:M Bool) (m:M D):List D→Qam→Qae→List D→Res (List D)
 | [],ρ,O,acc=>.ok acc O
 | d::ds,ρ,O,acc=>match g d ρ with
  | none=>.no
  | some ρ1=>match t ρ1 O with
   | .ok true O1=>match m ρ1 O1 with
    | .ok y O2=>Qb1 g t m ds ρ1 O2 (acc ++ [y])
    | .ex x O'=>.ex x O'
    | .no=>.no
   | .ok false O1=>Qb1 g t m ds ρ1 O1 acc
   | .ex x O'=>.ex x O'
   | .no=>.no
def Qd3 (own:Nat) (cap:List Nat) (ρ:Qam):Qam:=List.replicate own none++cap.map fun j=>(ρ[j]?).join
def Qcz (m:M (List D)) (own:Nat) (cap:List Nat) (g:MG) (t:M Bool) (e:M D):M D:=fun ρ O=>(m ρ O).bind fun ds O1=>if ds.length≤1000000 then (Qb1 g t e ds (Qd3 own cap ρ) O1 []).bind fun ys O2=>.ok (.lst ys) O2 else .no
def QbZ:M Bool:=fun _ O=>.ok true O
def cMd (own:Nat) (cap:List Nat) (md:List Md):List Md:=List.replicate own .v++cap.map fun j=>match md[j]? with
 | some .v=>.v
 | _=>.s
theorem Qmv {K:Frag}{ρ:Qam}{σ:St}{H F:Hp}{as:List Addr}{own:List Str}{cap:List Nat} (s:SlO K md P ρ σ H F as) (hcap:∀j∈cap,j < md.length):SlO K (cMd own.length cap md) (Pt.all H) (Qd3 own.length cap ρ) (compSt own cap σ) H F as:=by
 refine ⟨by simp [compSt,cMd],by simp [Qd3,cMd],fun a h=>h,fun i m d e1 e2=>?_,fun i j a ds es h1=>?_,fun _ z=>nomatch z⟩
 ·unfold Qd3 at e2;unfold cMd at e1;unfold compSt
  by_cases hi:i < own.length
  ·rw [zu (by simpa using hi),List.getElem?_replicate_of_lt hi] at e2;cases e2
  ·have hi':own.length≤i:=Nat.le_of_not_lt hi;rw [zw (by simpa using hi'),List.length_replicate,zB] at e2 e1;rw [zw (by simpa using hi'),zo,zB]
   cases q:cap[i - own.length]? with
   | none=>rw [q] at e2; cases e2
   | some j =>
    rw [q] at e1 e2;simp only [Option.map_some,Option.some.injEq] at e1 e2 ⊢
    cases q2:ρ[j]? with
    | none=>rw [q2] at e2; cases e2
    | some o =>
     rw [q2] at e2;have e2':o=some d:=e2;subst e2';obtain ⟨m0,v,h1,h2,h3⟩:=s.get q2;rw [h1] at e1;refine ⟨v,by rw [h2]; rfl,?_⟩
     cases m0 with
     | v=>dsimp only at e1; subst e1; exact h3
     | s =>
      dsimp only at e1; subst e1
      rcases h3 with h3 | ⟨a,xs,ds,e1,e2,e3,e4,e5,e6⟩
      ·exact .inl h3
      ·exact .inr ⟨a,xs,ds,e1,e2,e3,e4,(show H a≠none by rw [e3]; exact fun z=>nomatch z),e6⟩
     | o =>
      dsimp only at e1; subst e1
      rcases h3 with ⟨_,h3⟩ | ⟨a,xs,ds,e1,e2,e3,e0,e4,e5,e6⟩
      ·exact .inl h3
      ·exact .inr ⟨a,xs,ds,e1,e2,e3,e4,(show H a≠none by rw [e3]; exact fun z=>nomatch z),e6⟩
 ·exfalso
  unfold cMd at h1
  by_cases hi:i < own.length
  ·rw [zu (by simpa using hi),List.getElem?_replicate_of_lt hi] at h1;cases h1
  ·have hi':own.length≤i:=Nat.le_of_not_lt hi;rw [zw (by simpa using hi'),List.length_replicate,zB] at h1
   cases q:cap[i - own.length]? with
   | none=>rw [q] at h1; cases h1
   | some j =>
    rw [q] at h1;simp only [Option.map_some,Option.some.injEq] at h1
    split at h1 <;> cases h1
end
section
variable {X:Cx}{md:List Md}{P:Pt}{R:RR}
def xM (K:Frag) (mg:Str→Option Value) (md:List Md) (R:RR) (m:M D):TE:=fun σ H Q=>∃P,tM K mg md P R m σ H Q
def xMT (K:Frag) (mg:Str→Option Value) (md:List Md) (m:M Bool):TT:=fun σ H Q=>∃P,tMT K mg md P m σ H Q
def xMG (K:Frag) (mg:Str→Option Value) (md:List Md) (g:MG):TG:=fun v σ H Q=>∃P,tMG K mg md P g v σ H Q
theorem xm {e:Expr}{m:M D} (h:∀P,PE X e (tM X.K X.mg md P R m)):PE X e (xM X.K X.mg md R m):=fun pins s σ H Q I ⟨P,q⟩=>h P pins s σ H Q I q
theorem xmg {e:Expr}{g:MG} (h:∀P,VG X md P e g):PG X e (xMG X.K X.mg md g):=fun pins s σ H v u Q I r ⟨P,q⟩=>h P pins s σ H v u Q I r q
theorem xmt {e:List Expr}{m:M Bool} (h:∀P,QiZ X e (tMT X.K X.mg md P m)):QiZ X e (xMT X.K X.mg md m):=fun pins s σ H Q I ⟨P,q⟩=>h P pins s σ H Q I q
def VIf (X:Cx) (md:List Md) (P:Pt) (e:List Expr) (m:M Bool):Prop:=QiZ X e (tMT X.K X.mg md P m)
theorem Qe6:VIf X md P [] QbZ:=fun pins s σ H Q I q=>by
 obtain ⟨ρ,O,F,as,d,O',r,s,e,k⟩:=q;cases e;exact Qph pins _ σ H Q I (k H F as Gr.refl r)
theorem Qq1 {K:Frag}{mg:Str→Option Value}{m:M (List D)}{own:List Str}{cap:List Nat}{g:MG}{t:M Bool}{e:M D} (hcap:∀j∈cap,j < md.length) {σ:St}{H:Hp}{Q:VK} (q:tM K mg md P (rO K) (Qcz m own.length cap g t e) σ H Q) :
  Qpv (QsG K mg md P m) own cap (xMG K mg (cMd own.length cap md) g) (xMT K mg (cMd own.length cap md) t) (xM K mg (cMd own.length cap md) (rV K) e) σ H Q:=by
 obtain ⟨ρ,O,F,as,d,OZ,r,s,eq,k⟩:=q;obtain ⟨ds,O1,e1,eq⟩:=Res.bind_ok eq;split at eq
 ·rename_i hz;obtain ⟨yf,O2,e2,eq⟩:=Res.bind_ok eq;cases eq;refine ⟨ρ,_,F,as,_,_,r,s,e1,fun J H1 F1 as1 g1 r1 hJ=>?_⟩;have sb:=Qmv (own:=own) (s.step g1) hcap
  refine ⟨fun i n ys σ' H'=>n=ds.length - i∧i≤ds.length∧∃ρ' O' F' as' acc,Gr H1 F1 as1 H' F' as'∧RlO K mg O' H' F' as'∧SlO K (cMd own.length cap md) (Pt.all H1) ρ' σ' H' F' as'∧Rps K F' as' ys acc∧acc.length≤i ∧
   Qb1 g t e (ds.drop i) ρ' O' acc = .ok yf OZ,⟨ds.length,by simp,Nat.zero_le _,Qd3 own.length cap ρ,O1,F1,as1,[],Gr.refl,r1,sb,Rps.nil,zc _,by rw [List.drop_zero]; exact e2⟩,?_⟩
  rintro i n ys σ' H' ⟨rfl,hi,ρ',O',F',as',acc,g',r',s',hy,hl,ec⟩
  by_cases hlt:i < ds.length
  ·obtain ⟨go,yl⟩:=hJ.turn i _ H' F' as' g' ⟨O',r'⟩ (zy hlt)
   refine .inr ⟨go,?_,fun ys σ2 H2=>∃ρ2 O3 F2 as2 acc2,Gr H1 F1 as1 H2 F2 as2∧RlO K mg O3 H2 F2 as2∧SlO K (cMd own.length cap md) (Pt.all H1) ρ2 σ2 H2 F2 as2∧Rps K F2 as2 ys acc2∧acc2.length≤i+1 ∧
    Qb1 g t e (ds.drop (i+1)) ρ2 O3 acc2 = .ok yf OZ,fun ys2 σ2 H2 h2=>⟨ds.length - (i+1),by omega,rfl,hlt,h2⟩,fun x H3 y=>?_⟩
   ·rw [hy.length]
    have:=QdS hz
    omega
   obtain ⟨F3,g3,r3,hx⟩:=yl x H3 y;have r3':=r3 O' r';have g13:=g'.trans g3;rw [List.drop_eq_getElem_cons hlt] at ec;unfold Qb1 at ec
   cases eg:g ds[i] ρ' with
   | none=>rw [eg] at ec; cases ec
   | some ρ1 =>
    rw [eg] at ec;dsimp only at ec;refine ⟨_,ρ',O',F3,as',ds[i],ρ1,r3',s'.step g3,hx,eg,fun σ4 s4=>?_⟩
    cases et:t ρ1 O' with
    | ex _ _=>rw [et] at ec; cases ec
    | no=>rw [et] at ec; cases ec
    | ok c O4 =>
     rw [et] at ec;refine ⟨_,ρ1,O',F3,as',c,O4,r3',s4,et,fun H5 F5 as5 g5 r5=>?_⟩
     cases c with
     | false =>
      rw [if_neg zk];exact ⟨ρ1,O4,F5,as5,acc,g13.trans g5,r5,s4.step g5,(hy.gr g3).gr g5,by omega,ec⟩
     | true =>
      rw [if_pos rfl];dsimp only at ec
      cases em:e ρ1 O4 with
      | ex _ _=>rw [em] at ec; cases ec
      | no=>rw [em] at ec; cases ec
      | ok yd O6 =>
       rw [em] at ec;refine ⟨_,ρ1,O4,F5,as5,yd,O6,r5,s4.step g5,em,fun vy H7 F7 as7 g7 r7 hvy=>?_⟩;exact ⟨ρ1,O6,F7,as7,acc ++ [yd],(g13.trans g5).trans g7,r7,(s4.step g5).step g7,(((hy.gr g3).gr g5).gr g7).snoc hvy,by rw [zx]; show acc.length+1≤i+1; omega,ec⟩
  ·have hi':i=ds.length:=by omega
   subst hi';rw [List.drop_length] at ec;cases ec;refine .inl ⟨hJ.stop H' F' as' g' ⟨_,r'⟩,?_,fun p hp=>?_⟩
   ·rw [hy.length];exact zz hl (QdS hz)
   ·have hF:F' p=none:=by
     cases q:F' p with
     | none=>rfl
     | some o=>rw [r'.fh p o q] at hp; cases hp
    exact k _ _ F' as' ((g1.trans g').trans (Gr.lay hp)) (r'.lay hp) (.inr ⟨p,ys,yf,rfl,rfl,QaE,hF,fun z=>r'.all z hp,(g1.trans g').dm p hp,hy⟩)
 ·cases eq
variable {tg iter elt:Expr}{ifs:List Expr}{scope:Scope}{pos:Pos}{mi:M (List D)}{g:MG}{t:M Bool}{e:M D}
theorem Qe5 (sc0:Scope) (N0 own:List Str) (cap:List Nat) (hc:X.calm=true) (hi:VIc X md P tg iter mi)
  (hg:∀C s H ex P,VG (Qbl X scope C (Qbk N0 own cap) s H ex) (cMd own.length cap md) P tg g) (ht:∀C s H ex P,VIf (Qbl X scope C (Qbk N0 own cap) s H ex) (cMd own.length cap md) P ifs t)
  (he:∀C s H ex P,VE (Qbl X scope C (Qbk N0 own cap) s H ex) (cMd own.length cap md) P elt e)
  (hcap:∀j∈cap,j < md.length:=by decide) (hsc:X.env.scope=sc0:=by rfl) (hN0:X.N=N0:=by rfl) (ok:QiK sc0 N0 scope own cap=true:=by decide +kernel) (hs:∀x,foldedSetIterable iter X.env x=pure x:=by intro _; rfl) :
  OE X md P (.ListComp elt [⟨tg,iter,ifs,0⟩] scope pos) (Qcz mi own.length cap g t e) :=
 (QqK sc0 N0 own cap hc hi (fun C s H ex=>xmg (hg C s H ex)) (fun C s H ex=>xmt (ht C s H ex)) (fun C s H ex=>xm (he C s H ex)) hsc hN0 ok hs).imp fun _ _ _ q=>Qq1 hcap q
end
def vSp (K:Frag) (mg:Str→Option Value) (pm:List Md) (R:RR) (c:List D→Qae→Res D):Sp:=fun vs H Q _ =>
 ∃ds O F as d O',RlO K mg O H F as∧Qbz K H F as pm vs ds∧c ds O = .ok d O'∧∀v H' F' as',Gr H F as H' F' as'→RlO K mg O' H' F' as'→R (fun a=>H a=none) H' F' as' v d→Q v H'
def Qbw (n:Nat) (b:MS):List D→Qae→Res D:=fun ds O=>match b (ds.map some++List.replicate (n - ds.length) none) O with
 | .rt d O'=>.ok d O'
 | .nx _ O'=>.ok .non O'
 | .ex x O'=>.ex x O'
 | _=>.no
theorem Qbz.len {K:Frag}{H F:Hp}{as:List Addr}:∀{ms:List Md}{vs:List V}{ds:List D},Qbz K H F as ms vs ds→vs.length=ms.length∧ds.length=ms.length
 | [],[],[],_=>⟨rfl,rfl⟩
 | m::ms,v::vs,d::ds,h=>by
  have:=Qbz.len h.2
  simp [this.1,this.2]
 | [],[],_::_,h=>h.elim
 | [],_::_,[],h=>h.elim
 | [],_::_,_::_,h=>h.elim
 | _::_,[],[],h=>h.elim
 | _::_,[],_::_,h=>h.elim
 | _::_,_::_,[],h=>h.elim
theorem Qbz.get {K:Frag}{H F:Hp}{as:List Addr}:∀{ms:List Md}{vs:List V}{ds:List D}{i:Nat}{m:Md}{d:D},Qbz K H F as ms vs ds→ms[i]? = some m→ds[i]? = some d→∃v,vs[i]? = some v∧rA K m (fun _=>True) H F as v d
 | m::ms,v::vs,d::ds,0,m',d',h,e1,e2=>by
  simp at e1 e2
  subst e1 e2;exact ⟨v,rfl,h.1⟩
 | m::ms,v::vs,d::ds,i+1,m',d',h,e1,e2=>by
  obtain ⟨v',h1,h2⟩:=Qbz.get (i:=i) (m:=m') (d:=d') h.2 (by simpa using e1) (by simpa using e2);exact ⟨v',by simpa using h1,h2⟩
 | [],[],[],_,_,_,_,e1,_=>by simp at e1
 | [],[],_::_,_,_,_,h,_,_=>h.elim
 | [],_::_,[],_,_,_,h,_,_=>h.elim
 | [],_::_,_::_,_,_,_,h,_,_=>h.elim
 | _::_,[],[],_,_,_,h,_,_=>h.elim
 | _::_,[],_::_,_,_,_,h,_,_=>h.elim
 | _::_,_::_,[],_,_,_,h,_,_=>h.elim
theorem QfM {K:Frag}{H F:Hp}{as:List Addr}{N:List Str}{pm lm:List Md}{vs:List V}{ds:List D} (h:Qbz K H F as pm vs ds) (hl:(pm++lm).length=N.length) (hp:∀m∈pm,m≠.o) :
  SlO K (pm++lm) (Pt.all H) (ds.map some++List.replicate (N.length - ds.length) none) (start N vs) H F as:=by
 obtain ⟨h1,h2⟩:=h.len;rw [zx] at hl
 have vsl:vs.length≤N.length:=by omega
 have no:∀i a,(ds.map some++List.replicate (N.length - ds.length) none)[i]? = some (some a)→i < ds.length:=fun i a e=>by
  by_cases hi:i < ds.length
  ·exact hi
  ·rw [zw (by simpa using hi),List.getElem?_replicate] at e
   split at e <;> cases e
 refine ⟨by unfold start; simp; omega,by simp; omega,fun a z=>z,fun i m d e1 e2=>?_,fun i j a es fs e1 e2 e3=>?_,fun _ z=>nomatch z⟩
 ·have hi:=no i d e2;rw [zu (by simpa using hi),zB] at e2;rw [zu (by omega)] at e1
  cases q:ds[i]? with
  | none=>rw [q] at e2; cases e2
  | some d' =>
   rw [q] at e2;cases e2;obtain ⟨v,h3,h4⟩:=h.get e1 q;refine ⟨v,?_,?_⟩
   ·unfold start;rw [zu (by simp; omega),zB,h3];rfl
   ·cases m with
    | v=>exact h4
    | s =>
     rcases h4 with h4 | ⟨a,xs,es,z1,z2,z3,z4,z5⟩
     ·exact .inl h4
     ·exact .inr ⟨a,xs,es,z1,z2,z3,z4,(show H a≠none by rw [z3]; exact fun z=>nomatch z),z5⟩
    | o=>exact absurd rfl (hp .o (zP e1))
 ·have hi:=no i _ e3;rw [zu (by omega)] at e1;exact absurd rfl (hp .o (zP e1))
section
variable {Pr:Program}{w:World}{K:Frag}{mg:Str→Option Value}{base:Heap}
theorem QcR {x:Str}{st:Stmt}{N ps:List Str}{k:Nat} (Df:Def K mg x st) (S:QaO N ps (Qao st))
  (hb:∀(kV doc pm:Value) (an:Option Addr) (cdv ct:Value) (us:List Value),us.length=ps.length→bindArgs (PySem.W.fnOf x x (QbU st) (Qa8 st) (Qao st) .none kV doc pm an cdv ct) ⟨us,[]⟩=pure (ps.zip us))
  (pm lm:List Md) {R:RR}{b:MS} (hR:QdB R) (hR0:∀N H F as,R N H F as .non .non) (hpl:pm.length=ps.length:=by rfl) (hl:(pm++lm).length=N.length:=by rfl) (hp:∀m∈pm,m≠.o:=by decide)
  (body:∀(f:Addr) (cdv:Value) (A:Around) (outer:List Env) (s:Shared) (H:Hp) (E:XK),QaR k (A.deeper (envOfC x (Qao st) s.heap.objs.size f cdv))→∀P,VSs ((QcS CX0 Pr w K mg base N x (Qao st) f cdv A outer s H E).nox) (pm++lm) P R (Qa8 st) b) :
  Can Pr w K mg base x ps (k+1) (vSp K mg pm R (Qbw N.length b)):=by
 refine Df.can (k:=k) S hb (fun vs H Q E h=>?_) (fun f cdv A outer s H vs Q E hr h=>?_)
 ·obtain ⟨ds,O,F,as,d,O',r,a,_⟩:=h;rw [a.len.1,hpl]
 ·obtain ⟨ds,O,F,as,d,O',r,a,e,q⟩:=h;refine ⟨_,body f cdv A outer s H E hr (Pt.all H),?_⟩;refine ⟨_,O,F,as,r,QfM a hl hp,?_⟩;unfold Qbw at e
  cases eb:b (ds.map some++List.replicate (N.length - ds.length) none) O with
  | rt d' O2 =>
   rw [eb] at e;cases e
   exact fun v H' F' as' g r' hv=>q v H' F' as' g.gr r' (hR _ _ _ _ _ _ _ (fun c hc=>ji.mp hc) hv)
  | nx ρ O2 =>
   rw [eb] at e;cases e
   exact fun σ' H' F' as' g r' _=>q _ H' F' as' g.gr r' (hR0 _ _ _ _)
  | bk _ _=>rw [eb] at e; cases e
  | ct _ _=>rw [eb] at e; cases e
  | ex _ _=>rw [eb] at e; cases e
  | no=>rw [eb] at e; cases e
end
section
variable {X:Cx}{md:List Md}{P:Pt}{R:RR}{k:Nat}{x:Str}{ps:List Str}{p pos:Pos}{e:Expr}{es:List Expr}{pm:List Md}{c:List D→Qae→Res D}{ma:M (List D)}
def Qax (c:List D→Qae→Res D) (ma:M (List D)):M D:=fun ρ O=>(ma ρ O).bind fun ds O1=>c ds O1
theorem QqF {K:Frag}{mg:Str→Option Value} (hR:QdB R) {E:XK}{σ:St}{H:Hp}{Q:VK} (q:tM K mg md P R (Qax c ma) σ H Q):QjS (vSp K mg pm R c) [] E (tMA K mg md P pm ma) σ H Q:=by
 obtain ⟨ρ,O,F,as,d,O',r,s,e,k⟩:=q;obtain ⟨ds,O1,e1,e⟩:=Res.bind_ok e;refine ⟨ρ,_,F,as,_,_,r,s,e1,fun vs H1 F1 as1 g1 r1 hv=>?_⟩;dsimp only;rw [zL];exact ⟨ds,O1,F1,as1,d,O',r1,hv,e,fun v H' F' as' g' r' hw=>k v H' F' as' (g1.trans g') r' (hR _ _ _ _ _ _ _ (fun a ha=>g1.dm a ha) hw)⟩
theorem Qly (hR:QdB R) (C:Can X.prog X.w X.K X.mg X.base x ps k (vSp X.K X.mg pm R c)) (hr:QaR k X.A) (ha:AE X md P pm (e::es) ma) (hg:Gl X x:=by rfl) (hdb:(x == ("__debug__":Str))=false:=by decide)
  (he:starEach (e::es) X.env=(false,eval e X.env)::starEach es X.env:=by exact Qbq rfl) (hpl:(backTo pos (starEach es X.env)).any (·.1)=false:=by exact QbL rfl):PE X (.Call (.Name x p) (e::es) [] pos) (tM X.K X.mg md P R (Qax c ma)) :=
 (Qtd C hr ha hg hdb he hpl).imp fun _ _ _ q=>QqF hR q
end
section
variable {K:Frag}{mg:Str→Option Value}{H F:Hp}{as:List Addr}{O:Qae}{Q:VK}{d:D}{p:Addr}{xs:List V}{ds:List D}
theorem Qbr {v:V} (r:RlO K mg O H F as) (k:∀v' H' F',Gr H F as H' F' as→RlO K mg O H' F' as→Ow K (fun a=>H a=none) H' F' as v' d→Q v' H') (hn:Qd4 d=true) (hv:Rp K F as v d):Q v H:=k v H F Gr.refl r (.inl ⟨hn,hv⟩)
theorem RlO.frF (r:RlO K mg O H F as) (hp:H p=none):F p=none:=by
 cases q:F p with
 | none=>rfl
 | some o=>rw [r.fh p o q] at hp; cases hp
theorem QhB (r:RlO K mg O H F as) (k:∀v' H' F',Gr H F as H' F' as→RlO K mg O H' F' as→Ow K (fun a=>H a=none) H' F' as v' (.lst ds)→Q v' H') (hp:H p=none) (hs:Rps K F as xs ds):Q (.ref p) (upd H p (.lst xs)) :=
 k _ _ F (Gr.lay hp) (r.lay hp) (.inr ⟨p,xs,ds,rfl,rfl,QaE,r.frF hp,fun z=>r.all z hp,hp,hs⟩)
theorem QpM (r:RlO K mg O H F as) (k:∀v' H' F',Gr H F as H' F' as→RlO K mg O H' F' as→Ow K (fun a=>H a=none) H' F' as v' (.tup ds)→Q v' H') (hp:H p=none) (hs:Rps K F as xs ds):Q (.ref p) (upd H p (.tup xs)):=by
 have hF:=r.frF hp
 have ff:Same F (upd F p (.tup xs)):=fun b u q=>by rw [Qan (QaA q hF)]; exact q
 exact k _ _ (upd F p (.tup xs)) ((Gr.lay hp).frz hp hF) ((r.lay hp).frz QaE hF (fun z=>r.all z hp) rfl) (.inl ⟨rfl,Rp.mkT (.inl QaE) (Rps.mono ff (fun _ _ z=>z) _ hs)⟩)
end
section
variable {X:Cx}
def QtD (K:Frag):R2:=fun x y H Q=>∃l b xs zs,x = .ref l∧y = .ref b∧RdK K H l xs∧RdK K H b zs∧xs.length+zs.length≤sizeLine∧∀p,H p=none→Q (.ref p) (upd H p (.lst (xs++zs)))
theorem Qql:OpR X (binaryOp .Add) (QtD X.K):=by
 intro pins s σ H x y v u Q I rx ry h;obtain ⟨l,b,xs,zs,rfl,rfl,hH,hB,hz,q⟩:=h;cases rx;cases ry;obtain ⟨z,its,n,r,e⟩:=hH.ok I;obtain ⟨z2,its2,n2,r2,e2⟩:=hB.ok I;have hl:=r.length;have hl2:=r2.length;refine PySem.P.add_list e e2 ?_ (by rw [zp,zp]; omega)
 have ea:its.toArray++its2.toArray=(its++its2).toArray:=by simp
 rw [ea];exact ⟨.ref _,_,I.lnew (t':=s.toks) (r.append r2) (by rw [zx]; omega),rfl,q _ I.fresh⟩
def Qtr (K:Frag):R2:=fun x y H Q=>∃l k xs,x = .ref l∧y = .int k∧RdK K H l xs∧-(2 ^ 63)≤k∧k < 2 ^ 63∧xs.length * k.toNat≤sizeLine ∧
 ∀p,H p=none→Q (.ref p) (upd H p (.lst (List.replicate k.toNat xs).flatten))
theorem Qqf:OpR X (binaryOp .Mult) (Qtr X.K):=by
 intro pins s σ H x y v u Q I rx ry h;obtain ⟨l,k,xs,rfl,rfl,hH,h1,h2,hz,q⟩:=h;cases rx;obtain ⟨t,rfl⟩:=ry;obtain ⟨z,its,n,r,e⟩:=hH.ok I;have hl:=r.length
 have hlen:its.toArray.size * k.toNat≤sizeLine:=by rw [zp,←hl]; exact hz
 have hcap:¬its.toArray.size * k.toNat > (2 ^ 63 - 1) / 8:=by
  have:(sizeLine:Nat)≤(2 ^ 63 - 1) / 8:=by decide
  omega
 have hfit:¬(!Builtin.List.listFitsIndex k)=true:=by
  rw [fitsIndex_both h1 h2];exact zk
 have hlong:¬Builtin.List.listTooLong (its.toArray.size * k.toNat)=true:=by
  rw [Qh8 hlen];exact zk
 have hnew:List.foldl (fun x1 x2=>x1++x2) #[] (List.replicate (if its.toArray.isEmpty=true then 0 else k.toNat) its.toArray)=(List.replicate k.toNat its).flatten.toArray:=by
  have f0:∀m:Nat,List.foldl (fun x1 x2=>x1++x2) #[] (List.replicate m its.toArray)=(List.replicate m its).flatten.toArray:=fun m=>by
   have:=foldl_rep its m []
   rw [zX] at this;exact this
  rw [f0]
  cases its with
  | nil=>simp
  | cons a r'=>rw [if_neg (by simp)]
 refine wpAny_binaryOp_repeat_ref (T:="list") (U:="int") (by decide) ⟨_,e,rfl⟩ (fun s'=>typeIs_int s' k t) noFill_list_mul F.fills_int_mul F.slot_int_rmul repeat_list F.slot_int_index.lookup
  (call_meets F.slot_int_rmul (typeIs_int s k t) F.entry_int_rmul (F.args_int_rmul_2 _ _) (int___rmul___int_list k t l its.toArray n)
   ⟨e,rfl,⟨_,e,rfl⟩,call_meets F.slot_list_mul ⟨_,e,rfl⟩ F.entry_list_mul (F.args_list_mul_2 _ _) (AutoListH.list___mul___list_int_3 l its.toArray n k t hfit hcap hlong) ⟨e,?_⟩⟩)
 rw [hnew];exact ⟨.ref _,_,I.lnew (t':=s.toks) (r.rep k.toNat) (by rw [len_rep,Nat.mul_comm]; exact hz),rfl,q _ I.fresh⟩
def Qay:D→D→Option D
 | .int i,.int j=>some (.int (i+j))
 | .int i,.bl k=>some (.int (i+b2i k))
 | .str a,.str b=>if a.length+b.length≤1000000 then some (.str (a++b)) else none
 | .lst a,.lst b=>if a.length+b.length≤1000000 then some (.lst (a++b)) else none
 | .tup a,.tup b=>if a.length+b.length≤1000000∧a≠[] then some (.tup (a++b)) else none
 | _,_=>none
instance (a:List D):Decidable (a≠[]):=match a with
 | []=>isFalse fun h=>h rfl
 | _::_=>isTrue fun h=>nomatch h
theorem QaG:OpD X (binaryOp .Add) Qay:=by
 intro pins s σ H x y v u Q I rx ry h;obtain ⟨O,F,as,dx,dy,d,r,hx,hy,e,k⟩:=h
 cases dx with
 | int i =>
  cases (hx.rp rfl).unI
  cases dy with
  | int j =>
   cases (hy.rp rfl).unI;cases e;exact Qsq pins s σ H _ _ v u Q I rx ry ⟨i,j,rfl,rfl,Qbr r k rfl Rp.int⟩
  | bl j =>
   cases (hy.rp rfl).unB;cases e;exact QnY pins s σ H _ _ v u Q I rx ry ⟨i,j,rfl,rfl,Qbr r k rfl Rp.int⟩
  | _=>cases e
 | str a =>
  cases (hx.rp rfl).unS
  cases dy with
  | str b =>
   cases (hy.rp rfl).unS;simp only [Qay] at e;split at e
   ·rename_i hz;cases e;refine Qmj pins s σ H _ _ v u Q I rx ry ⟨S a,S b,rfl,rfl,by rw [Qb4,Qb4]; exact QdS hz,?_⟩;rw [Qos];exact Qbr r k rfl Rp.str
   ·cases e
  | _=>cases e
 | lst a =>
  obtain ⟨p,xs,rfl,h1,h2⟩:=hx.list r.fh
  cases dy with
  | lst b =>
   obtain ⟨p',ys,rfl,h3,h4⟩:=hy.list r.fh;simp only [Qay] at e;split at e
   ·rename_i hz;cases e;exact Qql pins s σ H _ _ v u Q I rx ry ⟨p,p',xs,ys,rfl,rfl,h1,h3,by rw [h2.length,h4.length]; exact QdS hz,fun q hq=>QhB r k hq (Rps.append h4 h2)⟩
   ·cases e
  | _=>cases e
 | tup a =>
  obtain ⟨p,xs,rfl,h1,h2⟩:=(hx.rp rfl).unT
  cases dy with
  | tup b =>
   obtain ⟨p',ys,rfl,h3,h4⟩:=(hy.rp rfl).unT;simp only [Qay] at e;split at e
   ·rename_i hz;cases e
    have hxs:xs≠[]:=fun z=>hz.2 (List.eq_nil_of_length_eq_zero (by rw [←h2.length,z]; rfl))
    refine Qp8 pins s σ H _ _ v u Q I rx ry ⟨p,p',xs,ys,rfl,rfl,Same.seqT r.fh h1,Same.seqT r.fh h3,hxs,by rw [h2.length,h4.length]; exact QdS hz.1,fun z=>?_,fun _ q hq=>QpM r k hq (Rps.append h4 h2)⟩;have hb:b = []:=List.eq_nil_of_length_eq_zero (by rw [←h4.length,z]; rfl);subst hb;rw [zL] at k;exact Qbr r k rfl (hx.rp rfl)
   ·cases e
  | _=>cases e
 | _=>cases e
def gI (C:Int→Int→Bool) (f:Int→Int→Int):D→D→Option D
 | .int i,.int j=>if C i j=true then some (.int (f i j)) else none
 | _,_=>none
theorem QoX {f:Value→Value→Sem Value}{Cp:Int→Int→Prop}{g:Int→Int→Int}{C:Int→Int→Bool} (h:OpR X f (rI Cp fun i j=>.int (g i j))) (hc:∀i j,C i j=true→Cp i j):OpD X f (gI C g):=by
 intro pins s σ H x y v u Q I rx ry h';obtain ⟨O,F,as,dx,dy,d,r,hx,hy,e,k⟩:=h'
 cases dx with
 | int i =>
  cases (hx.rp rfl).unI
  cases dy with
  | int j =>
   cases (hy.rp rfl).unI;simp only [gI] at e;split at e
   ·rename_i hC;cases e;exact h pins s σ H _ _ v u Q I rx ry ⟨i,j,rfl,rfl,hc i j hC,Qbr r k rfl Rp.int⟩
   ·cases e
  | _=>cases e
 | _=>cases e
def Qbj:D→D→Option D:=gI (fun _ _=>true) fun i j=>i - j
theorem Qcs:OpD X (binaryOp .Sub) Qbj:=by
 intro pins s σ H x y v u Q I rx ry h';obtain ⟨O,F,as,dx,dy,d,r,hx,hy,e,k⟩:=h'
 cases dx with
 | int i =>
  cases (hx.rp rfl).unI
  cases dy with
  | int j =>
   cases (hy.rp rfl).unI;cases e;exact Qs0 pins s σ H _ _ v u Q I rx ry ⟨i,j,rfl,rfl,Qbr r k rfl Rp.int⟩
  | _=>cases e
 | _=>cases e
def Qdf (i:Int):Bool:=decide (-(2 ^ 64) < i)&&decide (i < 2 ^ 64)
theorem QfF {i:Int} (h:Qdf i=true):-(2 ^ 64) < i∧i < 2 ^ 64:=by
 unfold Qdf at h;rw [zg,decide_eq_true_eq,decide_eq_true_eq] at h;exact h
def Qcu:D→D→Option D
 | .int i,.int j=>if (Qdf i || Qdf j)=true then some (.int (i * j)) else none
 | .str l,.int n=>if -1000000 < n∧n < 1000000∧l.length * n.toNat≤16777216 then some (.str (List.replicate n.toNat l).flatten) else none
 | .lst l,.int n=>if -1000000 < n∧n < 1000000∧l.length * n.toNat≤1000000 then some (.lst (List.replicate n.toNat l).flatten) else none
 | _,_=>none
theorem Qf1:OpD X (binaryOp .Mult) Qcu:=by
 intro pins s σ H x y v u Q I rx ry h;obtain ⟨O,F,as,dx,dy,d,r,hx,hy,e,k⟩:=h
 cases dx with
 | int i =>
  cases (hx.rp rfl).unI
  cases dy with
  | int j =>
   cases (hy.rp rfl).unI;simp only [Qcu] at e;split at e
   ·rename_i hz;cases e;refine QrB pins s σ H _ _ v u Q I rx ry ⟨i,j,rfl,rfl,?_,Qbr r k rfl Rp.int⟩;rw [Bool.or_eq_true] at hz
    rcases hz with z | z
    ·exact .inl (QfF z)
    ·exact .inr (QfF z)
   ·cases e
  | _=>cases e
 | str l =>
  cases (hx.rp rfl).unS
  cases dy with
  | int n =>
   cases (hy.rp rfl).unI;simp only [Qcu] at e;split at e
   ·rename_i hz;cases e;exact QmL pins s σ H _ _ v u Q I rx ry ⟨l,n,rfl,rfl,hz.1,hz.2.1,hz.2.2,Qbr r k rfl Rp.str⟩
   ·cases e
  | _=>cases e
 | lst l =>
  obtain ⟨p,xs,rfl,h1,h2⟩:=hx.list r.fh
  cases dy with
  | int n =>
   cases (hy.rp rfl).unI;simp only [Qcu] at e;split at e
   ·rename_i hz;cases e;exact Qqf pins s σ H _ _ v u Q I rx ry ⟨p,n,xs,rfl,rfl,h1,by omega,by omega,by rw [h2.length]; exact QdS hz.2.2,fun q hq=>QhB r k hq (h2.rep _)⟩
   ·cases e
  | _=>cases e
 | _=>cases e
def QaB:D→D→Option D:=gI (fun _ j=>decide (0 < j)) fun i j=>i % j
theorem QaP:OpD X (binaryOp .Mod) QaB:=QoX Qsp fun _ _ h=>of_decide_eq_true h
def QaS:D→D→Option D:=gI (fun _ j=>decide (0 < j)&&decide (j < 1073741824)) fun i j=>i / j
theorem Qba:OpD X (binaryOp .FloorDiv) QaS:=QoX Qrd fun i j h=>by
 rw [zg,decide_eq_true_eq,decide_eq_true_eq] at h;exact h
def QdA:D→D→Option D:=gI (fun i j=>decide (0≤j)&&(decide (j≤1000000)&&Qdf i)) fun i j=>i ^ j.toNat
theorem Qhq:OpD X (binaryOp .Pow) QdA:=QoX Qsg fun i j h=>by
 rw [zg,zg,decide_eq_true_eq,decide_eq_true_eq] at h
 have:=QfF h.2.2
 exact ⟨h.1,h.2.1,by omega⟩
def mUn (g:D→Option D) (m:M D):M D:=fun ρ O=>(m ρ O).bind fun d O1=>match g (QaU O1 d) with
 | some y=>.ok y O1
 | none=>.no
def Qhk:D→Option D
 | .int i=>some (.int (-i))
 | _=>none
theorem Qhc {md:List Md}{P:Pt}{a:Expr}{pos:Pos}{m:M D} (h:SE X md P a m):OE X md P (.UnaryOp .USub a pos) (mUn Qhk m):=(Qty Qs7 h).imp fun σ H Q q=>by
 obtain ⟨ρ,O,F,as,d,O',r,s,e,k⟩:=q;obtain ⟨x,O1,e1,e⟩:=Res.bind_ok e;refine ⟨ρ,_,F,as,_,_,r,s,e1,fun v H1 F1 as1 g1 r1 hv=>?_⟩
 cases ed:QaU O1 x with
 | int i =>
  rw [ed] at e;cases e
  have:=Sv.lk hv r1
  rw [ed] at this;exact ⟨i,(this.rp rfl).unI,k _ H1 F1 as1 g1 r1 (.inl ⟨rfl,Rp.int⟩)⟩
 | _=>rw [ed] at e; cases e
def gCI (f:Int→Int→Bool):D→D→Option D
 | .int i,.int j=>some (.bl (f i j))
 | _,_=>none
theorem Qmd {f:Value→Value→Sem Value}{g:Int→Int→Bool} (h:OpR X f (rI0 fun i j=>.bl (g i j))):OpD X f (gCI g):=by
 intro pins s σ H x y v u Q I rx ry h';obtain ⟨O,F,as,dx,dy,d,r,hx,hy,e,k⟩:=h'
 cases dx with
 | int i =>
  cases (hx.rp rfl).unI
  cases dy with
  | int j =>
   cases (hy.rp rfl).unI;cases e;exact h pins s σ H _ _ v u Q I rx ry ⟨i,j,rfl,rfl,Qbr r k rfl Rp.bl⟩
  | _=>cases e
 | _=>cases e
def gLt:D→D→Option D:=gCI fun i j=>decide (i < j)
def gGt:D→D→Option D:=gCI fun i j=>decide (j < i)
def gGe:D→D→Option D:=gCI fun i j=>decide (j≤i)
def gLe:D→D→Option D
 | .int i,.int j=>some (.bl (decide (i≤j)))
 | .str a,.str b=>some (.bl (!decide (b < a)))
 | _,_=>none
theorem QfA:OpD X (compareOp .LtE) gLe:=by
 intro pins s σ H x y v u Q I rx ry h';obtain ⟨O,F,as,dx,dy,d,r,hx,hy,e,k⟩:=h'
 cases dx with
 | int i =>
  cases (hx.rp rfl).unI
  cases dy with
  | int j =>
   cases (hy.rp rfl).unI;cases e;exact QtC pins s σ H _ _ v u Q I rx ry ⟨i,j,rfl,rfl,Qbr r k rfl Rp.bl⟩
  | _=>cases e
 | str a =>
  cases (hx.rp rfl).unS
  cases dy with
  | str b =>
   cases (hy.rp rfl).unS;cases e;refine QmW pins s σ H _ _ v u Q I rx ry ⟨S a,S b,rfl,rfl,?_⟩;rw [QgK,QgK];exact Qbr r k rfl Rp.bl
  | _=>cases e
 | _=>cases e
theorem Qmc:OpD X (compareOp .Lt) gLt:=Qmd QtE
theorem QtP:OpD X (compareOp .Gt) gGt:=Qmd Qua
theorem Qip:OpD X (compareOp .GtE) gGe:=Qmd Qt4
mutual
def toP:D→PyData
 | .non=>.none
 | .bl b=>.bool b
 | .int i=>.int i
 | .str l=>.str (S l)
 | .lst ds=>.list (QgU ds)
 | .tup ds=>.tuple (QgU ds)
 | .dic _ _=>.none
 | .ob _=>.none
def QgU:List D→List PyData
 | []=>[]
 | d::ds=>toP d::QgU ds
end
mutual
def QcQ:D→Bool
 | .lst ds=>Qd6 ds
 | .tup ds=>Qd6 ds
 | .dic _ _=>false
 | .ob _=>false
 | _=>true
def Qd6:List D→Bool
 | []=>true
 | d::ds=>QcQ d&&Qd6 ds
end
section
variable {K:Frag}{F:Hp}{as:List Addr}
mutual
theorem Rp.rep:∀(d:D) {v:V},QcQ d=true→Rp K F as v d→Rep K F v (toP d)
 | .non,v,_,h=>by rw [toP,Rep]; exact h.unN
 | .bl b,v,_,h=>by rw [toP,Rep]; exact h.unB
 | .int i,v,_,h=>by rw [toP,Rep]; exact h.unI
 | .str x,v,_,h=>by rw [toP,Rep]; exact h.unS
 | .lst ds,v,hp,h=>by
  obtain ⟨a,xs,h1,h2,h3⟩:=h.unL;rw [toP,Rep];rw [QcQ] at hp;exact ⟨a,xs,h1,h2.sq,Rps.rep' ds hp h3⟩
 | .tup ds,v,hp,h=>by
  obtain ⟨a,xs,h1,h2,h3⟩:=h.unT;rw [toP,Rep];rw [QcQ] at hp;exact ⟨a,xs,h1,h2,Rps.rep' ds hp h3⟩
 | .dic _ _,v,hp,h=>by rw [QcQ] at hp; cases hp
 | .ob _,v,hp,h=>by rw [QcQ] at hp; cases hp
theorem Rps.rep':∀(ds:List D) {xs:List V},Qd6 ds=true→Rps K F as xs ds→QaF K F xs (QgU ds)
 | [],xs,_,h=>by rw [h.un0,QgU]; exact QaF.nil
 | d::ds,xs,hp,h=>by
  obtain ⟨x,r,rfl,h2,h3⟩:=h.un;rw [Qd6,zg] at hp;rw [QgU];exact QaF.cons (Rp.rep d hp.1 h2) (Rps.rep' ds hp.2 h3)
end
theorem Lk.rep {H:Hp}{d:D}{v:V} (h:Lk K H F as v d) (fh:Same F H) (hp:QcQ d=true):Rep K H v (toP d):=by
 rcases h with h | ⟨a,xs,ds,rfl,rfl,h1,h2⟩
 ·exact Rep.mono fh _ (Rp.rep d hp h)
 ·rw [QcQ] at hp;rw [toP,Rep];exact ⟨a,xs,rfl,.inl (.inl h1),QaF.mono fh _ (Rps.rep' ds hp h2)⟩
end
def okE (d:D):Bool:=QcQ d&&okD (toP d)
def Qg5 (a b:D):Bool:=PyData.eqv (toP a) (toP b)
def gEq:D→D→Option D
 | .int i,.int j=>some (.bl (decide (i=j)))
 | .str a,.str b=>some (.bl (decide (a=b)))
 | .bl a,.bl b=>some (.bl (decide (a=b)))
 | a,b=>if (okE a&&okE b)=true then some (.bl (Qg5 a b)) else none
def gNe:D→D→Option D
 | .int i,.int j=>some (.bl (!decide (i=j)))
 | .str a,.str b=>some (.bl (!decide (a=b)))
 | .bl a,.bl b=>some (.bl (!decide (a=b)))
 | a,b=>if (okE a&&okE b)=true then some (.bl (!Qg5 a b)) else none
theorem QpN (a b:List Nat):decide (V.str (S a)=V.str (S b))=decide (a=b):=by
 by_cases h:a=b
 ·subst h; simp
 ·rw [zm h,zm];intro z;exact h (QpK (V.str.inj z))
theorem Qpu (a b:Int):decide (V.int a=V.int b)=decide (a=b):=by
 by_cases h:a=b
 ·subst h; simp
 ·rw [zm h,zm];intro z;exact h (V.int.inj z)
theorem QpS (a b:Bool):decide (V.bl a=V.bl b)=decide (a=b):=by
 cases a <;> cases b <;> rfl
theorem Qqu {a b d:D} (h:gEq a b=some d):(∃i j,a = .int i∧b = .int j∧d = .bl (decide (i=j)))∨(∃i j,a = .str i∧b = .str j∧d = .bl (decide (i=j)))∨(∃i j,a = .bl i∧b = .bl j∧d = .bl (decide (i=j))) ∨
  (okE a=true∧okE b=true∧d = .bl (Qg5 a b)):=by
 unfold gEq at h;split at h
 ·cases h; exact .inl ⟨_,_,rfl,rfl,rfl⟩
 ·cases h; exact .inr (.inl ⟨_,_,rfl,rfl,rfl⟩)
 ·cases h; exact .inr (.inr (.inl ⟨_,_,rfl,rfl,rfl⟩))
 ·split at h
  ·rename_i hk;rw [zg] at hk;cases h;exact .inr (.inr (.inr ⟨hk.1,hk.2,rfl⟩))
  ·cases h
theorem Qq4 {a b d:D} (h:gNe a b=some d):(∃i j,a = .int i∧b = .int j∧d = .bl (!decide (i=j)))∨(∃i j,a = .str i∧b = .str j∧d = .bl (!decide (i=j)))∨(∃i j,a = .bl i∧b = .bl j∧d = .bl (!decide (i=j))) ∨
  (okE a=true∧okE b=true∧d = .bl (!Qg5 a b)):=by
 unfold gNe at h;split at h
 ·cases h; exact .inl ⟨_,_,rfl,rfl,rfl⟩
 ·cases h; exact .inr (.inl ⟨_,_,rfl,rfl,rfl⟩)
 ·cases h; exact .inr (.inr (.inl ⟨_,_,rfl,rfl,rfl⟩))
 ·split at h
  ·rename_i hk;rw [zg] at hk;cases h;exact .inr (.inr (.inr ⟨hk.1,hk.2,rfl⟩))
  ·cases h
theorem QcL {k:Nat} (hr:QaR k X.A):OpD X (compareOp .Eq) gEq:=by
 intro pins s σ H x y v u Q I rx ry h';obtain ⟨O,F,as,dx,dy,d,r,hx,hy,e,k⟩:=h'
 rcases Qqu e with ⟨i,j,rfl,rfl,rfl⟩ | ⟨i,j,rfl,rfl,rfl⟩ | ⟨i,j,rfl,rfl,rfl⟩ | ⟨h1,h2,rfl⟩
 ·cases (hx.rp rfl).unI;cases (hy.rp rfl).unI;refine QlR pins s σ H _ _ v u Q I rx ry ⟨rfl,?_⟩;rw [Qpu];exact Qbr r k rfl Rp.bl
 ·cases (hx.rp rfl).unS;cases (hy.rp rfl).unS;refine QlR pins s σ H _ _ v u Q I rx ry ⟨rfl,?_⟩;rw [QpN];exact Qbr r k rfl Rp.bl
 ·cases (hx.rp rfl).unB;cases (hy.rp rfl).unB;refine QlR pins s σ H _ _ v u Q I rx ry ⟨rfl,?_⟩;rw [QpS];exact Qbr r k rfl Rp.bl
 ·unfold okE at h1 h2;rw [zg] at h1 h2;exact QrT hr pins s σ H _ _ v u Q I rx ry ⟨toP dx,toP dy,hx.rep r.fh h1.1,hy.rep r.fh h2.1,h1.2,h2.2,Qbr r k rfl Rp.bl⟩
theorem QlT {k:Nat} (hr:QaR k X.A):OpD X (compareOp .NotEq) gNe:=by
 intro pins s σ H x y v u Q I rx ry h';obtain ⟨O,F,as,dx,dy,d,r,hx,hy,e,k⟩:=h'
 rcases Qq4 e with ⟨i,j,rfl,rfl,rfl⟩ | ⟨i,j,rfl,rfl,rfl⟩ | ⟨i,j,rfl,rfl,rfl⟩ | ⟨h1,h2,rfl⟩
 ·cases (hx.rp rfl).unI;cases (hy.rp rfl).unI;refine Ql9 pins s σ H _ _ v u Q I rx ry ⟨rfl,?_⟩;rw [Qpu];exact Qbr r k rfl Rp.bl
 ·cases (hx.rp rfl).unS;cases (hy.rp rfl).unS;refine Ql9 pins s σ H _ _ v u Q I rx ry ⟨rfl,?_⟩;rw [QpN];exact Qbr r k rfl Rp.bl
 ·cases (hx.rp rfl).unB;cases (hy.rp rfl).unB;refine Ql9 pins s σ H _ _ v u Q I rx ry ⟨rfl,?_⟩;rw [QpS];exact Qbr r k rfl Rp.bl
 ·unfold okE at h1 h2;rw [zg] at h1 h2;exact Qte hr pins s σ H _ _ v u Q I rx ry ⟨toP dx,toP dy,hx.rep r.fh h1.1,hy.rep r.fh h2.1,h1.2,h2.2,Qbr r k rfl Rp.bl⟩
def toV:D→V
 | .bl b=>.bl b
 | .int i=>.int i
 | .str l=>.str (S l)
 | _=>.non
def Qe1:D→Bool
 | .non=>true
 | .bl _=>true
 | .int _=>true
 | .str _=>true
 | _=>false
def eqF (x y:D):Bool:=eqV (toV x) (toV y)
theorem Rp.flat {K:Frag}{F:Hp}{as:List Addr}{v:V}{d:D} (h:Rp K F as v d) (hf:Qe1 d=true):v=toV d∧Qem v=true:=by
 cases d with
 | non=>rw [h.unN]; exact ⟨rfl,rfl⟩
 | bl b=>rw [h.unB]; exact ⟨rfl,rfl⟩
 | int b=>rw [h.unI]; exact ⟨rfl,rfl⟩
 | str b=>rw [h.unS]; exact ⟨rfl,rfl⟩
 | _=>cases hf
theorem Rps.flat {K:Frag}{F:Hp}{as:List Addr}:∀{ds:List D}{xs:List V},Rps K F as xs ds→ds.all Qe1=true→xs=ds.map toV∧xs.all Qem=true
 | [],xs,h,_=>by rw [h.un0]; exact ⟨rfl,rfl⟩
 | d::ds,xs,h,hf=>by
  obtain ⟨x,r,rfl,h2,h3⟩:=h.un;rw [List.all_cons,zg] at hf;obtain ⟨e1,e2⟩:=h2.flat hf.1;obtain ⟨e3,e4⟩:=Rps.flat h3 hf.2;exact ⟨by rw [ze,←e1,←e3],by rw [List.all_cons,e2,e4]; rfl⟩
def gIn (neg:Bool):D→D→Option D
 | .str [c],.str l=>some (.bl (neg ^^ decide (c∈l)))
 | x,.lst ds=>if (Qe1 x&&ds.all Qe1)=true then some (.bl (neg ^^ ds.any fun y=>eqF y x)) else none
 | x,.tup ds=>if (Qe1 x&&ds.all Qe1)=true then some (.bl (neg ^^ ds.any fun y=>eqF y x)) else none
 | _,_=>none
theorem Qqs {neg:Bool}{a b d:D} (h:gIn neg a b=some d):(∃c l,a = .str [c]∧b = .str l∧d = .bl (neg ^^ decide (c∈l)))∨(∃ds,(b = .lst ds∨b = .tup ds)∧Qe1 a=true∧ds.all Qe1=true∧d = .bl (neg ^^ ds.any fun y=>eqF y a)):=by
 unfold gIn at h;split at h
 ·cases h; exact .inl ⟨_,_,rfl,rfl,rfl⟩
 ·split at h
  ·rename_i hk;rw [zg] at hk;cases h;exact .inr ⟨_,.inl rfl,hk.1,hk.2,rfl⟩
  ·cases h
 ·split at h
  ·rename_i hk;rw [zg] at hk;cases h;exact .inr ⟨_,.inr rfl,hk.1,hk.2,rfl⟩
  ·cases h
 ·cases h
theorem Qre {x:D}{ds:List D}:inV (toV x) (ds.map toV)=ds.any fun y=>eqF y x:=by
 unfold inV;rw [List.any_map];rfl
theorem Qo1 {K:Frag}{mg:Str→Option Value}{H F:Hp}{as:List Addr}{O:Qae}{v:V}{b:D}{ds:List D} (r:RlO K mg O H F as) (hy:Lk K H F as v b) (hb:b = .lst ds∨b = .tup ds):∃p xs,v = .ref p∧(SqL K H p xs∨SqT K H p xs)∧Rps K F as xs ds:=by
 rcases hb with rfl | rfl
 ·obtain ⟨p,xs,e,h1,h2⟩:=hy.list r.fh;exact ⟨p,xs,e,.inl h1.sq,h2⟩
 ·obtain ⟨p,xs,e,h1,h2⟩:=(hy.rp rfl).unT;exact ⟨p,xs,e,.inr (Same.seqT r.fh h1),h2⟩
theorem Qnc {d:D} (h:Qe1 d=true):Qd4 d=true:=by cases d <;> first | rfl | cases h
theorem Qt9:OpD X (compareOp .In) (gIn false):=by
 intro pins s σ H x y v u Q I rx ry h';obtain ⟨O,F,as,dx,dy,d,r,hx,hy,e,k⟩:=h'
 rcases Qqs e with ⟨c,l,rfl,rfl,rfl⟩ | ⟨ds,hb,h1,h2,rfl⟩
 ·cases (hx.rp rfl).unS;cases (hy.rp rfl).unS;refine QnT pins s σ H _ _ v u Q I rx ry ⟨c,l,rfl,rfl,?_⟩;rw [Bool.false_xor] at k;exact Qbr r k rfl Rp.bl
 ·obtain ⟨p,xs,rfl,h3,h4⟩:=Qo1 r hy hb;obtain ⟨e1,e2⟩:=(hx.rp (Qnc h1)).flat h1;obtain ⟨e3,e4⟩:=h4.flat h2;refine Qm0 pins s σ H _ _ v u Q I rx ry ⟨p,xs,rfl,h3,e2,e4,?_⟩;rw [if_neg zk,e1,e3,Qre];rw [Bool.false_xor] at k;exact Qbr r k rfl Rp.bl
def gIx:D→D→Option D
 | .lst ds,.int i=>atI ds i
 | .tup ds,.int i=>atI ds i
 | .str l,.int i=>if l.length≤1000000 then (atI l i).map fun c=>.str [c] else none
 | _,_=>none
theorem Rps.atI {K:Frag}{F:Hp}{as:List Addr}{xs:List V}{ds:List D}{i:Int}{d:D} (h:Rps K F as xs ds) (e:atI ds i=some d):∃v,L2.atI xs i=some v∧Rp K F as v d:=by
 unfold L2.atI at e ⊢;rw [h.length]
 cases q:ixN ds.length i with
 | none=>rw [q] at e; cases e
 | some j =>
  rw [q] at e;exact h.get' e
def rDv (K:Frag) (mg:Str→Option Value) (g:D→D→Option D):R2:=fun x y H Q=>∃O F as dx dy d,RlO K mg O H F as∧Lk K H F as x dx∧Lk K H F as y dy∧g dx dy=some d∧∀v',Rp K F as v' d→Q v' H
theorem Qu0:IxR X (rDv X.K X.mg gIx):=by
 intro value slice pins s σ H x y v u Q I rx ry h' hsb;obtain ⟨O,F,as,dx,dy,d,r,hx,hy,e,k⟩:=h'
 cases dx with
 | lst ds =>
  obtain ⟨p,xs,rfl,h1,h2⟩:=hx.list r.fh
  cases dy with
  | int i =>
   cases (hy.rp rfl).unI;obtain ⟨z,e1,e2⟩:=h2.atI e;exact Qqa value slice pins s σ H _ _ v u Q I rx ry ⟨p,xs,i,z,rfl,rfl,h1.sq,e1,k z e2⟩ hsb
  | _=>cases e
 | tup ds =>
  obtain ⟨p,xs,rfl,h1,h2⟩:=(hx.rp rfl).unT
  cases dy with
  | int i =>
   cases (hy.rp rfl).unI;obtain ⟨z,e1,e2⟩:=h2.atI e;exact Qr1 value slice pins s σ H _ _ v u Q I rx ry ⟨p,xs,i,z,rfl,rfl,Same.seqT r.fh h1,e1,k z e2⟩ hsb
  | _=>cases e
 | str l =>
  cases (hx.rp rfl).unS
  cases dy with
  | int i =>
   cases (hy.rp rfl).unI;simp only [gIx] at e;split at e
   ·rename_i hz
    cases q:L2.atI l i with
    | none=>rw [q] at e; cases e
    | some c =>
     rw [q] at e;cases e;exact Qro value slice pins s σ H _ _ v u Q I rx ry ⟨S l,i,c,rfl,rfl,by rw [Qb4]; exact QdS hz,by rw [QgK]; exact q,k _ Rp.str⟩ hsb
   ·cases e
  | _=>cases e
 | _=>cases e
theorem QaI {md:List Md}{P:Pt}{a b:Expr}{pos:Pos}{ma mb:M D} (ha:SE X md P a ma) (hb:SE X md P b mb) (hs:Qlu b:=by intro _ _; rfl):VE X md P (.Subscript a b pos) (Qad gIx ma mb):=(QtI Qu0 ha hb hs).imp fun σ H Q h=>by
 obtain ⟨ρ,O,F,as,d,O',r,sl,e,k⟩:=h;obtain ⟨x,O1,e1,e⟩:=Res.bind_ok e;obtain ⟨y,O2,e2,e⟩:=Res.bind_ok e;split at e
 ·rename_i d' hg;cases e;refine ⟨ρ,_,F,as,_,_,r,sl,e1,fun v H1 F1 as1 g1 r1 hv=>?_⟩;refine ⟨ρ,_,F1,as1,_,_,r1,sl.step g1,e2,fun u H2 F2 as2 g2 r2 hu=>?_⟩;exact ⟨_,F2,as2,_,_,_,r2,Sv.lk (Sv.gr hv g2) r2,Sv.lk hu r2,hg,fun v' hw=>k v' H2 F2 as2 (g1.trans g2) r2 hw⟩
 ·cases e
def tMO (K:Frag) (mg:Str→Option Value) (md:List Md) (P:Pt) (m:M (Option Int)):TO:=fun σ H Q =>
 ∃ρ O F as b O',RlO K mg O H F as∧SlO K md P ρ σ H F as∧m ρ O = .ok b O'∧∀H' F' as',Gr H F as H' F' as'→RlO K mg O' H' F' as'→Q b H'
def VO (X:Cx) (md:List Md) (P:Pt) (e:Option Expr) (m:M (Option Int)):Prop:=PO X e (tMO X.K X.mg md P m)
theorem PO.imp {e:Option Expr}{t t':TO} (h:PO X e t) (k:∀σ H Q,t' σ H Q→t σ H Q):PO X e t':=fun pins s σ H Q I q=>h pins s σ H Q I (k σ H Q q)
def moN:M (Option Int):=fun _ O=>.ok none O
def moS (m:M D):M (Option Int):=fun ρ O=>(m ρ O).bind fun d O1=>match d with
 | .int i=>.ok (some i) O1
 | _=>.no
theorem Qco {md:List Md}{P:Pt}:VO X md P none moN:=Qqg.imp fun σ H Q q=>by
 obtain ⟨ρ,O,F,as,d,O',r,s,e,k⟩:=q;cases e;exact k H F as Gr.refl r
theorem Qb2 {md:List Md}{P:Pt}{e:Expr}{m:M D} (h:VE X md P e m):VO X md P (some e) (moS m):=(QqI h).imp fun σ H Q q=>by
 obtain ⟨ρ,O,F,as,d,O',r,s,e,k⟩:=q;obtain ⟨x,O1,e1,e⟩:=Res.bind_ok e
 cases x with
 | int i =>
  cases e;exact ⟨ρ,_,F,as,_,_,r,s,e1,fun v H1 F1 as1 g1 r1 hv=>⟨i,Rp.unI hv,k H1 F1 as1 g1 r1⟩⟩
 | _=>cases e
def gSl (d:D) (lo hi:Option Int):Option D:=match d with
 | .lst ds=>some (.lst (QcF ds lo hi))
 | .tup ds=>some (.tup (QcF ds lo hi))
 | .str l=>if l.length≤16777216 then some (.str (QcF l lo hi)) else none
 | _=>none
def Qvq (K:Frag) (mg:Str→Option Value):V→Option Int→Option Int→Hp→VK→Prop:=fun x lo hi H Q=>∃O F as dx d,RlO K mg O H F as∧Lk K H F as x dx∧gSl dx lo hi=some d ∧
 ∀v' H' F',Gr H F as H' F' as→RlO K mg O H' F' as→Ow K (fun a=>H a=none) H' F' as v' d→Q v' H'
theorem Rps.cut {K:Frag}{F:Hp}{as:List Addr}{xs:List V}{ds:List D} (h:Rps K F as xs ds) (lo hi:Option Int):Rps K F as (QgE xs lo hi) (QcF ds lo hi):=by
 unfold QgE QcF;rw [h.length];exact (h.drop _).take _
theorem Qvu:SlR X (Qvq X.K X.mg):=by
 intro pins s σ H x v vl vu lo hi sl Q I rx hs pl pu h;obtain ⟨O,F,as,dx,d,r,hx,e,k⟩:=h
 cases dx with
 | lst ds =>
  obtain ⟨p,xs,rfl,h1,h2⟩:=hx.list r.fh;cases e;exact QqU pins s σ H _ v vl vu lo hi sl Q I rx hs pl pu ⟨p,xs,rfl,h1.sq,fun q hq=>QhB r k hq (h2.cut lo hi)⟩
 | tup ds =>
  obtain ⟨p,xs,rfl,h1,h2⟩:=(hx.rp rfl).unT;cases e;refine Qqw X.K rfl pins s σ H _ v vl vu lo hi sl Q I rx hs pl pu ⟨p,xs,rfl,Same.seqT r.fh h1,fun z=>?_,fun _ q hq=>QpM r k hq (h2.cut lo hi)⟩
  have:QcF ds lo hi=ds:=by
   unfold QcF;rw [←h2.length,z.1,z.2,List.drop_zero,Nat.sub_zero,h2.length,List.take_length]
  rw [this] at k;exact Qbr r k rfl (hx.rp rfl)
 | str l =>
  cases (hx.rp rfl).unS;simp only [gSl] at e;split at e
  ·rename_i hz;cases e;exact QsS pins s σ H _ v vl vu lo hi sl Q I rx hs pl pu ⟨l,rfl,zz hz (Nat.le_of_eq sizeLine_eq.symm),Qbr r k rfl Rp.str⟩
  ·cases e
 | _=>cases e
def mSl (m:M D) (lo hi:M (Option Int)):M D:=fun ρ O=>(m ρ O).bind fun d O1=>(lo ρ O1).bind fun l O2=>(hi ρ O2).bind fun h O3=>match gSl (QaU O3 d) l h with
 | some y=>.ok y O3
 | none=>.no
end
section
variable {X:Cx}{md:List Md}{P:Pt}{R:RR}
theorem QbT {e:Expr}{lo hi:Option Expr}{p2 pos:Pos}{m:M D}{ml mh:M (Option Int)} (he:SE X md P e m) (hl:VO X md P lo ml) (hh:VO X md P hi mh):OE X md P (.Subscript e (.Slice lo hi none p2) pos) (mSl m ml mh):=(Qpm Qvu he hl hh).imp fun σ H Q q=>by
 obtain ⟨ρ,O,F,as,d,O',r,s,e,k⟩:=q;obtain ⟨x,O1,e1,e⟩:=Res.bind_ok e;obtain ⟨l,O2,e2,e⟩:=Res.bind_ok e;obtain ⟨h,O3,e3,e⟩:=Res.bind_ok e;split at e
 ·rename_i y hg;cases e;refine ⟨ρ,_,F,as,_,_,r,s,e1,fun v H1 F1 as1 g1 r1 hv=>?_⟩;refine ⟨ρ,_,F1,as1,_,_,r1,s.step g1,e2,fun H2 F2 as2 g2 r2=>?_⟩;have g12:=g1.trans g2;refine ⟨ρ,_,F2,as2,_,_,r2,s.step g12,e3,fun H3 F3 as3 g3 r3=>?_⟩;have g13:=g12.trans g3;exact ⟨_,F3,as3,_,_,r3,Sv.lk (Sv.gr (Sv.gr hv g2) g3) r3,hg,fun v' H' F' g' r' hw=>k v' H' F' as3 (g13.trans g') r' (Qes _ _ _ _ _ _ _ (fun a ha=>g13.dm a ha) hw)⟩
 ·cases e
def Lks (K:Frag) (H F:Hp) (as:List Addr):List V→List D→Prop
 | [],[]=>True
 | v::vs,d::ds=>Lk K H F as v d∧Lks K H F as vs ds
 | _,_=>False
theorem Qbz.lks {K:Frag}{mg:Str→Option Value}{O:Qae}{H F:Hp}{as:List Addr} (r:RlO K mg O H F as):∀{ms:List Md}{vs:List V}{ds:List D},Qbz K H F as ms vs ds→Lks K H F as vs (ds.map (QaU O))
 | [],[],[],_=>trivial
 | m::ms,v::vs,d::ds,h=>by
  refine ⟨?_,Qbz.lks r h.2⟩
  have h1:Sv K H F as v d:=by
   cases m with
   | v=>exact .inl h.1
   | s=>exact h.1
   | o=>exact h.1
  exact h1.lk r
 | [],[],_::_,h=>h.elim
 | [],_::_,[],h=>h.elim
 | [],_::_,_::_,h=>h.elim
 | _::_,[],[],h=>h.elim
 | _::_,[],_::_,h=>h.elim
 | _::_,_::_,[],h=>h.elim
def rC (K:Frag) (mg:Str→Option Value) (g:List D→Option D):List V→Hp→VK→Prop:=fun vs H Q=>∃O F as ds d,RlO K mg O H F as∧Lks K H F as vs ds∧g ds=some d ∧
 ∀v' H' F',Gr H F as H' F' as→RlO K mg O H' F' as→Ow K (fun a=>H a=none) H' F' as v' d→Q v' H'
abbrev Qgr (X:Cx) (f:Value) (g:List D→Option D):Prop:=QdK X f (rC X.K X.mg g)
def QaX (g:List D→Option D) (ma:M (List D)):M D:=fun ρ O=>(ma ρ O).bind fun ds O1=>match g (ds.map (QaU O1)) with
 | some d=>.ok d O1
 | none=>.no
theorem Qkx {K:Frag}{mg:Str→Option Value}{g:List D→Option D}{ms:List Md}{ma:M (List D)}{σ:St}{H:Hp}{Q:VK} (q:tM K mg md P (rO K) (QaX g ma) σ H Q):tCB (rC K mg g) (tMA K mg md P ms ma) σ H Q:=by
 obtain ⟨ρ,O,F,as,d,O',r,s,e,k⟩:=q;obtain ⟨ds,O1,e1,e⟩:=Res.bind_ok e;split at e
 ·rename_i y hg;cases e;refine ⟨ρ,_,F,as,_,_,r,s,e1,fun vs H1 F1 as1 g1 r1 hv=>?_⟩;exact ⟨_,F1,as1,_,_,r1,hv.lks r1,hg,fun v' H' F' g' r' hw=>k v' H' F' as1 (g1.trans g') r' (Qes _ _ _ _ _ _ _ (fun a ha=>g1.dm a ha) hw)⟩
 ·cases e
theorem Qcg {x:Str}{p pos:Pos}{e:Expr}{es:List Expr}{id:String}{g:List D→Option D}{ms:List Md}{ma:M (List D)} (hc:Qgr X (.builtin id) g) (hm:X.mg x=none) (ha:AE X md P ms (e::es) ma) (hv:bootBuiltins x=some (.builtin id):=by decide +kernel) (hg:Gl X x:=by rfl)
  (hn:x≠"__name__":=by decide) (hdb:(x == ("__debug__":Str))=false:=by decide) (he:starEach (e::es) X.env=(false,eval e X.env)::starEach es X.env:=by exact Qbq rfl) (hpl:(backTo pos (starEach es X.env)).any (·.1)=false:=by exact QbL rfl) :
  OE X md P (.Call (.Name x p) (e::es) [] pos) (QaX g ma):=(Qgx hc hg hm hv ha hn hdb he hpl).imp fun _ _ _ q=>Qkx q
theorem QgP {x:Str}{p pos:Pos}{e:Expr}{es:List Expr}{T:String}{g:List D→Option D}{ms:List Md}{ma:M (List D)} (hc:Qgr X (.type T) g) (hm:X.mg x=none) (ha:AE X md P ms (e::es) ma) (hv:bootBuiltins x=some (.type T):=by decide +kernel) (hg:Gl X x:=by rfl)
  (hn:x≠"__name__":=by decide) (hdb:(x == ("__debug__":Str))=false:=by decide) (he:starEach (e::es) X.env=(false,eval e X.env)::starEach es X.env:=by exact Qbq rfl) (hpl:(backTo pos (starEach es X.env)).any (·.1)=false:=by exact QbL rfl) :
  OE X md P (.Call (.Name x p) (e::es) [] pos) (QaX g ma):=(Qjo hc hg hm hv ha hn hdb he hpl).imp fun _ _ _ q=>Qkx q
theorem Lks.one {K:Frag}{H F:Hp}{as:List Addr}{vs:List V}{d:D} (h:Lks K H F as vs [d]):∃v,vs = [v]∧Lk K H F as v d:=by
 cases vs with
 | nil=>exact h.elim
 | cons v vs =>
  cases vs with
  | nil=>exact ⟨v,rfl,h.1⟩
  | cons u us=>exact h.2.elim
theorem Lks.two {K:Frag}{H F:Hp}{as:List Addr}{vs:List V}{d e:D} (h:Lks K H F as vs [d,e]):∃v u,vs = [v,u]∧Lk K H F as v d∧Lk K H F as u e:=by
 cases vs with
 | nil=>exact h.elim
 | cons v vs =>
  cases vs with
  | nil=>exact h.2.elim
  | cons u us =>
   cases us with
   | nil=>exact ⟨v,u,rfl,h.1,h.2.1⟩
   | cons w ws=>exact h.2.2.elim
def Qdj:List D→Option D
 | [.str l]=>if l.length≤1000000 then some (.int l.length) else none
 | [.lst ds]=>some (.int ds.length)
 | [.tup ds]=>some (.int ds.length)
 | _=>none
theorem Qf7:Qgr X (.builtin "len") Qdj:=by
 intro pins s σ H xs us Q I rs h;obtain ⟨O,F,as,ds,d,r,hvs,e,k⟩:=h;unfold Qdj at e;split at e
 ·rename_i l;obtain ⟨v,rfl,hv⟩:=hvs.one;split at e
  ·rename_i hz;cases e;cases (hv.rp rfl).unS;refine call_len pins s σ H _ us Q I rs ⟨_,_,rfl,⟨by rw [Qb4]; exact QdS hz,rfl⟩,?_⟩;rw [Qb4];exact Qbr r k rfl Rp.int
  ·cases e
 ·rename_i l;obtain ⟨v,rfl,hv⟩:=hvs.one;cases e;obtain ⟨p,xs,rfl,h1,h2⟩:=hv.list r.fh;refine call_len pins s σ H _ us Q I rs ⟨_,_,rfl,.inl ⟨xs,h1.sq,rfl⟩,?_⟩;rw [h2.length];exact Qbr r k rfl Rp.int
 ·rename_i l;obtain ⟨v,rfl,hv⟩:=hvs.one;cases e;obtain ⟨p,xs,rfl,h1,h2⟩:=(hv.rp rfl).unT;refine call_len pins s σ H _ us Q I rs ⟨_,_,rfl,.inr ⟨xs,Same.seqT r.fh h1,rfl⟩,?_⟩;rw [h2.length];exact Qbr r k rfl Rp.int
 ·cases e
def QgC:List D→Option D
 | [.int i,.int j]=>some (.int (if j > i then j else i))
 | _=>none
def QuS:List D→Option D
 | [.int i,.int j]=>some (.int (if j < i then j else i))
 | _=>none
theorem Qoj (hc:X.calm=true):Qgr X (.builtin "max") QgC:=by
 intro pins s σ H xs us Q I rs h;obtain ⟨O,F,as,ds,d,r,hvs,e,k⟩:=h;unfold QgC at e;split at e
 ·obtain ⟨v,u,rfl,hv,hu⟩:=hvs.two;cases e;cases (hv.rp rfl).unI;cases (hu.rp rfl).unI;exact QnS hc pins s σ H _ us Q I rs ⟨_,_,rfl,Qbr r k rfl Rp.int⟩
 ·cases e
def QrW:List D→Option D
 | [.int i]=>some (.int i)
 | [.bl b]=>some (.int (if b then 1 else 0))
 | _=>none
def Qen:List D→Option D
 | [.lst ds]=>some (.lst ds)
 | [.tup ds]=>some (.lst ds)
 | _=>none
theorem QhA:Qgr X (.type "list") Qen:=by
 intro pins s σ H xs us Q I rs h;obtain ⟨O,F,as,ds,d,r,hvs,e,k⟩:=h;unfold Qen at e;split at e
 ·obtain ⟨v,rfl,hv⟩:=hvs.one;cases e;obtain ⟨p,xs,rfl,h1,h2⟩:=hv.list r.fh;exact Qg6 pins s σ H _ us Q I rs ⟨p,xs,rfl,.inl h1.sq,fun l hl=>QhB r k hl h2⟩
 ·obtain ⟨v,rfl,hv⟩:=hvs.one;cases e;obtain ⟨p,xs,rfl,h1,h2⟩:=(hv.rp rfl).unT;exact Qg6 pins s σ H _ us Q I rs ⟨p,xs,rfl,.inr (Same.seqT r.fh h1),fun l hl=>QhB r k hl h2⟩
 ·cases e
def Qcy:List D→Option (List Bool)
 | []=>some []
 | .bl b::ds=>(Qcy ds).map (b :: ·)
 | _=>none
theorem Rps.bools {K:Frag}{F:Hp}{as:List Addr}:∀{ds:List D}{xs:List V}{bs:List Bool},Rps K F as xs ds→Qcy ds=some bs→xs=bs.map V.bl
 | [],xs,bs,h,e=>by cases e; rw [h.un0]; rfl
 | d::ds,xs,bs,h,e=>by
  obtain ⟨x,r,rfl,h2,h3⟩:=h.un
  cases d with
  | bl b =>
   unfold Qcy at e
   cases q:Qcy ds with
   | none=>rw [q] at e; cases e
   | some cs =>
    rw [q] at e;cases e;rw [h2.unB,Rps.bools h3 q];rfl
  | _=>cases e
def Qhe:List D→Option D
 | [.lst ds]=>(Qcy ds).map fun bs=>.bl (bs.all id)
 | _=>none
theorem Qkh (hc:X.calm=true):Qgr X (.builtin "all") Qhe:=by
 intro pins s σ H xs us Q I rs h;obtain ⟨O,F,as,ds,d,r,hvs,e,k⟩:=h;unfold Qhe at e;split at e
 ·rename_i es;obtain ⟨v,rfl,hv⟩:=hvs.one;obtain ⟨p,xs,rfl,h1,h2⟩:=hv.list r.fh
  cases q:Qcy es with
  | none=>rw [q] at e; cases e
  | some bs =>
   rw [q] at e;cases e;refine Qnp hc pins s σ H _ us Q I rs ⟨p,bs,rfl,?_,Qbr r k rfl Rp.bl⟩;rw [←h2.bools q];exact h1.sq
 ·cases e
theorem Qga:bootBuiltins "len" = some (.builtin "len"):=by decide +kernel
theorem Qnj:bootBuiltins "max" = some (.builtin "max"):=by decide +kernel
theorem Qj5:bootBuiltins "all" = some (.builtin "all"):=by decide +kernel
theorem QrE:bootBuiltins "int" = some (.type "int"):=by decide +kernel
theorem Qol:bootBuiltins "str" = some (.type "str"):=by decide +kernel
theorem Qlf:bootBuiltins "bool" = some (.type "bool"):=by decide +kernel
theorem Qe7:bootBuiltins "list" = some (.type "list"):=by decide +kernel
theorem Qpi:bootBuiltins "tuple" = some (.type "tuple"):=by decide +kernel
def tyD:D→Option String
 | .non=>some "NoneType"
 | .bl _=>some "bool"
 | .int _=>some "int"
 | .str _=>some "str"
 | .lst _=>some "list"
 | .tup _=>some "tuple"
 | .dic _ _=>some "dict"
 | .ob _=>none
def Qdd (t n:String):Bool:=t == n || (t == "bool" && n == "int")
def QdD (n:String) (m:M D):M D:=fun ρ O=>(m ρ O).bind fun d O1=>match tyD (QaU O1 d) with
 | some t=>.ok (.bl (Qdd t n)) O1
 | none=>.no
def Qo2:List String:=["str","int","bool","list","tuple","dict"]
theorem Qp4 (K:Frag):∀d t,tyD d=some t→∀n∈Qo2,PySem.W.kitOne K (.type t) (.type n)=some (Qdd t n):=by
 intro d t e n hn;simp only [Qo2,zj,List.not_mem_nil,or_false] at hn
 cases d <;> cases e <;> rcases hn with rfl | rfl | rfl | rfl | rfl | rfl <;> first | exact Qow K _ | kernel_rfl
theorem Lk.ty {K:Frag}{H F:Hp}{as:List Addr}{v:V}{d:D}{t:String} (h:Lk K H F as v d) (fh:Same F H) (e:tyD d=some t):TyQ K H v t:=by
 cases d with
 | non=>cases e; rw [(h.rp rfl).unN]; exact .non
 | bl b=>cases e; rw [(h.rp rfl).unB]; exact .bl _
 | int b=>cases e; rw [(h.rp rfl).unI]; exact .int _
 | str b=>cases e; rw [(h.rp rfl).unS]; exact .str _
 | lst ds=>cases e; obtain ⟨p,xs,rfl,h1,h2⟩:=h.list fh; exact .lst h1.sq
 | tup ds=>cases e; obtain ⟨p,xs,rfl,h1,h2⟩:=(h.rp rfl).unT; exact .tup (Same.seqT fh h1)
 | dic ks vs=>cases e; obtain ⟨p,xs,rfl,h1,h2⟩:=(h.rp rfl).unD; exact .dK (fh _ _ h1)
 | ob n=>cases e
theorem Qfc (n:String) {T:Str}{a:Expr}{p p' pos:Pos}{m:M D} (hm:X.mg "isinstance" = none) (hT:X.mg T=none) (h:SE X md P a m) (hb:bootBuiltins T=some (.type n):=by decide +kernel) (hn:n∈Qo2:=by decide) (hg:Gl X "isinstance":=by rfl) (hgT:Gl X T:=by rfl)
  (hTn:T≠"__name__":=by decide) (hTd:(T == ("__debug__":Str))=false:=by decide)
  (hs1:starEach [a,.Name T p'] X.env=(false,eval a X.env)::starEach [.Name T p'] X.env:=by exact Qbq rfl) (hs2:starEach [.Name T p'] X.env=(false,eval (.Name T p') X.env)::starEach [] X.env:=by rfl) (hpl:(backTo pos (starEach [.Name T p'] X.env)).any (·.1)=false:=by exact QbL rfl) :
  OE X md P (.Call (.Name "isinstance" p) [a,.Name T p'] [] pos) (QdD n m) :=
 (Qgx (Qok X.K) hg hm (by decide +kernel) (Qcb h (Qcb (QlE (v:=.ty n) hgT hT hb rfl hTn hTd) Qdc hs2) hs1) (by decide) (by decide) hs1 hpl).imp fun σ H Q q=>by
  obtain ⟨ρ,O,F,as,d,O',r,s,e,k⟩:=q;obtain ⟨x,O1,e1,e⟩:=Res.bind_ok e;split at e
  ·rename_i t ht;cases e;refine ⟨ρ,_,F,as,_,_,r,s,e1,fun v H1 F1 as1 g1 r1 hv=>?_⟩;exact ⟨v,n,t,_,rfl,Lk.ty (Sv.lk hv r1) r1.fh ht,Qp4 _ _ t ht n hn,k _ H1 F1 as1 g1 r1 (.inl ⟨rfl,Rp.bl⟩)⟩
  ·cases e
def QjU (m:M D):M (List D):=fun ρ O=>(m ρ O).bind fun d O1=>match d with
 | .lst ds=>.ok ds O1
 | _=>.no
def Ql0 (m:M D):M (List D):=fun ρ O=>(m ρ O).bind fun d O1=>match d with
 | .tup ds=>.ok ds O1
 | _=>.no
theorem Qo8 {K:Frag}{mg:Str→Option Value}{H F:Hp}{as:List Addr}{a:Addr}{xs:List V}{ds:List D} (hs:Rps K F as xs ds) (hp:∀(H2 F2:Hp) (as2:List Addr),GrS P H F as H2 F2 as2→(∃O,RlO K mg O H2 F2 as2)→RdK K H2 a xs):JOk K mg P (Itl K a) ds H F as:=by
 refine ⟨fun i d H2 F2 as2 g r e=>?_,fun H2 F2 as2 g r=>⟨xs,(hp H2 F2 as2 g r).sq,by rw [hs.length]; exact zc _⟩⟩;obtain ⟨x,h1,h2⟩:=hs.get' e;have q:=hp H2 F2 as2 g r;refine ⟨⟨xs,x,q.sq,h1⟩,fun y H3 hy=>?_⟩;obtain ⟨rfl,hy⟩:=hy
 have:=hy xs q.sq
 rw [h1] at this;cases this;exact ⟨F2,Gr.refl,fun _ r=>r,h2.grS g⟩
end
section
variable {X:Cx}{pins:List (Addr×Obj)}{σ:St}{H:Hp}{s:Shared}
theorem Inv.turnL {ch:List Addr}{h':Heap}{t':Nat} (I:Inv X pins σ H s) (hch:∀b∈ch,QdL X pins H b) (k:∀b o,b∉ch→s.heap.get? b=some o→h'.get? b=some o):Inv X pins σ H { s with heap:=h',toks:=t' }:=by
 have nit:∀b u,H b=some u→b∉ch:=fun b u e z=>by rw [(hch b z).1] at e; cases e
 refine I.step (g':=s.gens) (d':=s.drawn) (ch:=ch) (fun b hb=>?_) (fun b o _ _ hc e _=>k b o hc e) (fun b o _ _ hc e _=>⟨o.slots,k b o hc e⟩) (fun _ _ _ _ n=>n)
  (fun b o hc e=>⟨o,k b o hc e⟩) (fun _ _ e=>e) (fun _ _ _ e=>e) (fun b ps e=>⟨#[],by rw [e]; simp⟩) (fun m hm=>?_) (fun b u e=>?_) I.bare
 ·obtain ⟨f0,f1,f2,f3,f4,f5⟩:=hch b hb;exact ⟨f3,f1,f4,f5⟩
 ·obtain ⟨o,es,ep,ho,r⟩:=hm;exact ⟨o,es,ep,k _ o (fun z=>(hch _ z).2.1 rfl) ho,r⟩
 ·refine (I.hok b u e).stay (fun c v hc q=>k c v ?_ q) (fun _ q=>q) fun _ _ q=>q
  rcases hc with z | z
  ·rw [z]; exact nit b u e
  ·exact nit c _ z
theorem Inv.turnT {ch:List Addr}{h':Heap}{t':Nat}{T:Addr}{vs:List V}{us:List Value} (I:Inv X pins σ H s) (hch:∀b∈ch,QdL X pins H b) (k:∀b o,b∉ch→s.heap.get? b=some o→h'.get? b=some o)
  (hT:s.heap.objs.size≤T) (new:IsTup h' T us.toArray) (hv:Qaz vs us) (hz:vs.length≤sizeLine):Inv X pins σ (upd H T (.tup vs)) { s with heap:=h',toks:=t' }:=by
 have hn:H T=none:=I.hok.fresh hT
 have nit:∀b u,H b=some u→b∉ch:=fun b u e z=>by rw [(hch b z).1] at e; cases e
 have ne:∀b o,s.heap.get? b=some o→b≠T:=fun b o e z=>by
  subst z;exact absurd (zd e) (Nat.not_lt_of_le hT)
 refine I.step (g':=s.gens) (d':=s.drawn) (ch:=ch) (fun b hb=>?_) (fun b o _ _ hc e _=>k b o hc e) (fun b o _ _ hc e _=>⟨o.slots,k b o hc e⟩) (fun b o _ e n=>by rw [Qan (ne b o e)]; exact n)
  (fun b o hc e=>⟨o,k b o hc e⟩) (fun b _ e=>by rw [Qan (QaA e hn)]; exact e) (fun b _ _ e=>by rw [Qan (QaA e hn)]; exact e) (fun b ps e=>⟨#[],by rw [Qan (QaA e hn),e]; simp⟩) (fun m hm=>?_) (fun b u e=>?_) I.bare
 ·obtain ⟨f0,f1,f2,f3,f4,f5⟩:=hch b hb;exact ⟨f3,f1,f4,f5⟩
 ·obtain ⟨o,es,ep,ho,r⟩:=hm;exact ⟨o,es,ep,k _ o (fun z=>(hch _ z).2.1 rfl) ho,r⟩
 ·by_cases hb:b=T
  ·subst hb;rw [QaE] at e;cases e;exact ⟨hz,us,hv,new⟩
  ·rw [Qan hb] at e
   refine (I.hok b u e).stay (fun c v hc q=>k c v ?_ q) (fun c q=>by rw [Qan (QaA q hn)]; exact q) fun c xs q=>by rw [Qan (QaA q hn)]; exact q
   rcases hc with z | z
   ·rw [z]; exact nit b u e
   ·exact nit c _ z
end
def Ite (K:Frag) (l:Addr):It:=⟨fun i H=>∃xs x,SqL K H l xs∧xs[i]? = some x,fun i H v H'=>∃T x,v = .ref T∧H T=none∧H'=upd H T (.tup [.int i,x])∧∀xs,SqL K H l xs→xs[i]? = some x,fun i H=>∃xs,SqL K H l xs∧xs.length≤i⟩
def QsW (l:List Nat):It:=⟨fun i _=>i < l.length,fun i H v H'=>∃T c,v = .ref T∧H T=none∧H'=upd H T (.tup [.int i,.str (S [c])])∧l[i]? = some c,fun i _=>l.length≤i⟩
theorem QeX {h:Heap}{b:Addr}{o:Obj}{vs:Array Value} (e:h.get? b=some o) (d:o.data = .fields vs):∃o,h.get? b=some o∧∀v,o.data≠.cell v:=⟨o,e,fun v z=>by rw [d] at z; cases z⟩
theorem Qmg {P:Program}{w:World}{K:Frag}{elts:List Expr}{x1}{pos:Pos} (e it l:Addr) (hne:e≠it):Turn P w K (.Tuple elts x1 pos) (Ite K l) [e,it] e (fun i h=>(∃old,IsEnum h e it i old)∧h.IsListIter it l i) where
 mem:=by simp
 obj:=fun i h st b hb=>by
  obtain ⟨⟨old,he⟩,o,ho,hc,hd⟩:=st
  rcases zj.mp hb with rfl | hb
  ·exact QeX he rfl
  ·rw [zt.mp hb];exact QeX ho hd
 keep:=fun i h h' st k=>by
  obtain ⟨⟨old,he⟩,o,ho,r⟩:=st;exact ⟨⟨old,k e (by simp) _ he⟩,o,k it (by simp) o ho,r⟩
 item:=by
  intro X hP hw hK hc i pins s σ H E I hf st hg;subst hP hw hK;obtain ⟨⟨old,he⟩,hit⟩:=st;obtain ⟨xs,x,hq,hx⟩:=hg;obtain ⟨its,rv,pl,hz⟩:=I.list hq;obtain ⟨u,hu,ru⟩:=rv.get hx;have hT:H s.heap.objs.size=none:=I.hok.fresh (zc _);have elt:e < s.heap.objs.size:=zd he
  refine wpAny_pyNext_enum_item he hit pl.isList (x:=u) (by simpa using hu) hne fun h' ho hit' hTup hsz hk=>⟨_,rfl,?_⟩
  refine wpAny_letOwnedTupleGo_enum ho fun h'' he'' hs''=>⟨.ref s.heap.objs.size,_,?_,rfl,⟨s.heap.objs.size,x,rfl,hT,rfl,fun ys hy=>by rw [I.list_inj hy hq]; exact hx⟩,⟨⟨_,by simpa using he''⟩,hit'.extBut hs''.extBut (Ne.symm hne)⟩,fun b hb=>?_⟩
  ·show Inv X pins σ _ { s with heap:=h'',toks:=s.toks+1 };refine I.turnT (ch:=[e,it]) (us:=[.int i s.toks,u]) hf (fun b o hb q=>?_) (zc _) ⟨_,hs''.extBut _ _ (Nat.ne_of_gt elt) hTup,rfl,_,rfl⟩ (.cons ⟨_,rfl⟩ (.cons ru .nil)) (by show 2≤sizeLine; decide)
   have h1:b≠e:=fun z=>hb (by simp [z])
   have h2:b≠it:=fun z=>hb (by simp [z])
   exact hs''.extBut _ _ h1 (hk b o h1 h2 q)
  ·have q:=hf b hb;rw [Qan (fun z=>?_)]
   ·exact q.1
   ·obtain ⟨o,ho⟩:∃o,s.heap.get? b=some o:=by
     rcases zj.mp hb with rfl | hb
     ·exact ⟨_,he⟩
     ·rw [zt.mp hb];obtain ⟨o,ho,_⟩:=hit;exact ⟨o,ho⟩
    exact absurd (zd ho) (by rw [z]; exact zH _)
 done:=by
  intro X hP hw hK hc i pins s σ H E I hf st hg;subst hP hw hK;obtain ⟨⟨old,he⟩,hit⟩:=st;obtain ⟨xs,hq,hl⟩:=hg;obtain ⟨its,rv,pl,hz⟩:=I.list hq
  refine wpAny_pyNext_enum_end (I.ok.hd hc) he hit pl.isList (by have:=rv.length; simp; omega) fun h' hx=>⟨rfl,?_⟩
  exact I.turnL (t':=s.toks) (ch:=[e,it]) hf fun b o hb q=>hx b o (fun z=>hb (by simp [z])) q
 self:=fun A i s Q E st h=>by
  obtain ⟨⟨old,he⟩,_⟩:=st;exact wpAny_pyIter_enum he h
theorem QmC {P:Program}{w:World}{K:Frag}{elts:List Expr}{x1}{pos:Pos} (e it:Addr) (l:List Nat) (t:Tok) (hne:e≠it):Turn P w K (.Tuple elts x1 pos) (QsW l) [e,it] e (fun i h=>(∃old,IsEnum h e it i old)∧h.IsStrIter it "str_ascii_iterator" (S l) t i) where
 mem:=by simp
 obj:=fun i h st b hb=>by
  obtain ⟨⟨old,he⟩,o,ho,hc,hd⟩:=st
  rcases zj.mp hb with rfl | hb
  ·exact QeX he rfl
  ·rw [zt.mp hb];exact QeX ho hd
 keep:=fun i h h' st k=>by
  obtain ⟨⟨old,he⟩,o,ho,r⟩:=st;exact ⟨⟨old,k e (by simp) _ he⟩,o,k it (by simp) o ho,r⟩
 item:=by
  intro X hP hw hK hc i pins s σ H E I hf st hg;subst hP hw hK;obtain ⟨⟨old,he⟩,hit⟩:=st;have hg':i < l.length:=hg;have hT:H s.heap.objs.size=none:=I.hok.fresh (zc _);have elt:e < s.heap.objs.size:=zd he;have hd:X.A.in1.handled=none:=I.ok.hd hc
  refine wpAny_pyNext_enum_itemD (Draws.strAscii hd it (S l) t) he hit (by simpa [S] using hg') hne (fun z=>hne (by simpa using z)) fun u h' tk hP ho hit' hTup hsz hk=>⟨_,rfl,?_⟩
  obtain ⟨c,tc,hcx,rfl⟩:=hP
  have hcl:l[i]? = some c:=by
   rw [←hcx];simp [S]
  refine wpAny_letOwnedTupleGo_enum ho fun h'' he'' hs''=>⟨.ref s.heap.objs.size,_,?_,rfl,⟨s.heap.objs.size,c,rfl,hT,rfl,hcl⟩,⟨⟨_,by simpa using he''⟩,?_⟩,fun b hb=>?_⟩
  ·show Inv X pins σ _ { s with heap:=h'',toks:=tk+1 };refine I.turnT (ch:=[e,it]) (us:=[.int i tk,.str ⟨#[c]⟩ tc]) hf (fun b o hb q=>?_) (zc _) ⟨_,hs''.extBut _ _ (Nat.ne_of_gt elt) hTup,rfl,_,rfl⟩ (.cons ⟨_,rfl⟩ (.cons ⟨_,rfl⟩ .nil)) (by show 2≤sizeLine; decide)
   have h1:b≠e:=fun z=>hb (by simp [z])
   have h2:b≠it:=fun z=>hb (by simp [z])
   exact hs''.extBut _ _ h1 (hk b o h1 h2 q)
  ·obtain ⟨o,ho',r⟩:=hit';exact ⟨o,hs''.extBut _ _ (Ne.symm hne) ho',r⟩
  ·have q:=hf b hb;rw [Qan (fun z=>?_)]
   ·exact q.1
   ·obtain ⟨o,ho⟩:∃o,s.heap.get? b=some o:=by
     rcases zj.mp hb with rfl | hb
     ·exact ⟨_,he⟩
     ·rw [zt.mp hb];obtain ⟨o,ho,_⟩:=hit;exact ⟨o,ho⟩
    exact absurd (zd ho) (by rw [z]; exact zH _)
 done:=by
  intro X hP hw hK hc i pins s σ H E I hf st hg;subst hP hw hK;obtain ⟨⟨old,he⟩,hit⟩:=st;have hd:X.A.in1.handled=none:=I.ok.hd hc;have hg':l.length≤i:=hg;have hT:s.TypeIs (.ref e) "enumerate":=⟨_,he,rfl⟩;unfold pyNext
  refine za (wpAny_attempt (wpAny_callSpecial?_slot (name:=Str.ofString "__next__") hT F.slot_enumerate_next
   (wpAny_call_entry F.slot_enumerate_next hT F.entry_enumerate_next ?_ (F.args_enumerate_next_1 _))))
  show wpAny _ _ (field (.ref e) 2 >>= _) _ _ _;refine za (wpAny_field he rfl (x:=.ref it) rfl ?_);refine za (wpAny_nextOf_ascii_end hd hit (by simp [S]; exact hg') fun h' x he' hx'=>?_);obtain ⟨o,ho,hc⟩:=hx';refine za (wpAny_isInstance (T:="StopIteration") (b:=true) ⟨o,ho,hc⟩ isSubtype_stop ?_);exact zb ⟨rfl,I.turnL (t':=s.toks) (ch:=[e,it]) hf fun b o hb q=>he' b o (fun z=>hb (by simp [z])) q⟩
 self:=fun A i s Q E st h=>by
  obtain ⟨⟨old,he⟩,_⟩:=st;exact wpAny_pyIter_enum he h
section
variable {X:Cx}{elts:List Expr}{x1:Nat}{tpos:Pos}
def QsZ (K:Frag) (ta:TA):TI:=fun σ H R=>ta σ H fun vs H1=>∃a,vs = [.ref a]∧(∃xs,SqL K H1 a xs)∧R (Ite K a) H1
def QrA (ta:TA):TI:=fun σ H R=>ta σ H fun vs H1=>∃l,vs = [.str (S l)]∧ascii l=true∧R (QsW l) H1
theorem QjP {l:List Nat} (h:ascii l=true):strIterType (S l) = "str_ascii_iterator":=by
 unfold strIterType;rw [if_pos];unfold ascii at h;rw [jh] at h;simp [S];intro i hi;simpa using h i hi
theorem Qpk {a:Expr}{ta:TA}{p pos:Pos} (hg:Gl X "enumerate") (hm:X.mg "enumerate" = none) (ha:PA X [a] ta) (hs:starEach [a] X.env = [(false,eval a X.env)]:=by exact QhG rfl):PI X (.Tuple elts x1 tpos) (.Call (.Name "enumerate" p) [a] [] pos) (QsZ X.K ta):=by
 intro pins s σ H R I h;refine Call_ (Qgb I hg hm boot_enumerate (PyProof.Rows.callWith_type1 (thn (ha pos pins s σ H _ I h) fun us s1 ⟨vs,H1,I1,r1,q1⟩=>?_) hs rfl));obtain ⟨l,e,⟨xs,hq⟩,q⟩:=q1;subst e;obtain ⟨u,rfl,ru⟩:=vals1 r1;cases ru;obtain ⟨its,rv,pl,hz⟩:=I1.list hq
 refine call_enumerate_list pl.isList fun h' he hit hsz hk=>wpAny_pyIter_enum he ?_
 refine ⟨s1.heap.objs.size+1,[s1.heap.objs.size+1,s1.heap.objs.size],_,_,H1,rfl,I1.kept (t':=s1.toks) hk,Qmg (s1.heap.objs.size+1) s1.heap.objs.size l (Nat.succ_ne_self _),⟨⟨_,he⟩,hit⟩,fun b hb=>?_,q⟩
 have hb':s1.heap.objs.size≤b:=by
  rcases zj.mp hb with rfl | hb
  ·exact Nat.le_succ _
  ·rw [zt.mp hb]; exact zc _
 exact I1.fpOk hb' (I1.hok.fresh hb')
theorem Qpe {a:Expr}{ta:TA}{p pos:Pos} (hg:Gl X "enumerate") (hm:X.mg "enumerate" = none) (ha:PA X [a] ta) (hs:starEach [a] X.env = [(false,eval a X.env)]:=by exact QhG rfl):PI X (.Tuple elts x1 tpos) (.Call (.Name "enumerate" p) [a] [] pos) (QrA ta):=by
 intro pins s σ H R I h;refine Call_ (Qgb I hg hm boot_enumerate (PyProof.Rows.callWith_type1 (thn (ha pos pins s σ H _ I h) fun us s1 ⟨vs,H1,I1,r1,q1⟩=>?_) hs rfl));obtain ⟨l,e,hl,q⟩:=q1;subst e;obtain ⟨u,rfl,t,rfl⟩:=vals1 r1
 refine call_enumerate_str fun h' he hit hsz hk=>wpAny_pyIter_enum he ?_
 rw [QjP hl] at hit;refine ⟨s1.heap.objs.size+1,[s1.heap.objs.size+1,s1.heap.objs.size],_,_,H1,rfl,I1.kept (t':=s1.toks) hk,QmC (s1.heap.objs.size+1) s1.heap.objs.size l t (Nat.succ_ne_self _),⟨⟨_,he⟩,hit⟩,fun b hb=>?_,q⟩
 have hb':s1.heap.objs.size≤b:=by
  rcases zj.mp hb with rfl | hb
  ·exact Nat.le_succ _
  ·rw [zt.mp hb]; exact zc _
 exact I1.fpOk hb' (I1.hok.fresh hb')
end
def rW (K:Frag) (P:Pt):RR:=fun _ H F as v d=>Rp K F as v d∨∃a xs ds,v = .ref a∧d = .lst ds∧H a=some (.lst xs)∧a∉as∧P a∧Rps K F as xs ds
def WE (X:Cx) (md:List Md) (P:Pt) (e:Expr) (m:M D):Prop:=PE X e (tM X.K X.mg md P (rW X.K P) m)
section
variable {X:Cx}{md:List Md}{P:Pt}{R:RR}
theorem Qnq (i:Nat) {x:Str}{pos:Pos} (hm:md[i]? = some .s:=by rfl) (hN:X.N[i]? = some x:=by rfl) (hv:Vis X.env.scope x:=by first | exact Or.inl rfl | exact Or.inr (Or.inl rfl) | exact Or.inr (Or.inr rfl))
  (hd:(x == ("__debug__":Str))=false:=by decide) (hcd:(x == ("__classdict__":Str))=false:=by decide):WE X md P (.Name x pos) (Qab i):=by
 refine (QeD (i:=i) hN hv hd hcd).imp fun σ H Q h=>?_
 obtain ⟨ρ,O,F,as,d,O',r,s,e,k⟩:=h;obtain ⟨e1,rfl⟩:=QhD e;obtain ⟨v,h2,h3⟩:=s.sl i .s d hm e1;exact ⟨v,h2,k v H F as Gr.refl r h3⟩
theorem Qpr {K:Frag}{mg:Str→Option Value}{N:Addr→Prop}{H F:Hp}{as:List Addr}{v:V}{ds:List D} (hv:rW K P N H F as v (.lst ds)) :
  ∃a xs,v = .ref a∧Rps K F as xs ds∧∀(H2 F2:Hp) (as2:List Addr),GrS P H F as H2 F2 as2→(∃O,RlO K mg O H2 F2 as2)→RdK K H2 a xs:=by
 rcases hv with hv | ⟨a,xs,ds',rfl,e,e3,e4,e5,e6⟩
 ·obtain ⟨a,xs,rfl,h1,h2⟩:=hv.unL;exact ⟨a,xs,rfl,h2,fun H2 F2 as2 g ⟨O,r⟩=>(h1.mono g.ff).mono r.fh⟩
 ·cases e;exact ⟨a,xs,rfl,e6,fun H2 F2 as2 g _=>.inl (.inl (g.fr _ _ e5 e3 e4 rfl))⟩
theorem Qqx {tg e:Expr}{m:M D} (h:WE X md P e m):VI X md P tg e (QjU m):=(Qle h).imp fun σ H Q q=>by
 obtain ⟨ρ,O,F,as,ds,O',r,s,e,k⟩:=q;obtain ⟨d,O1,e1,e⟩:=Res.bind_ok e
 cases d with
 | lst es =>
  cases e;refine ⟨ρ,_,F,as,_,_,r,s,e1,fun v H1 F1 as1 g1 r1 hv=>?_⟩;obtain ⟨a,xs,rfl,h1,h2⟩:=Qpr (mg:=X.mg) hv;exact ⟨a,rfl,⟨xs,(h2 H1 F1 as1 GrS.refl ⟨_,r1⟩).sq⟩,k _ H1 F1 as1 g1 r1 (Qo8 h1 h2)⟩
 | _=>cases e
theorem QnB {tg e:Expr}{m:M D} (h:VE X md P e m):VI X md P tg e (Ql0 m):=(QsN h).imp fun σ H Q q=>by
 obtain ⟨ρ,O,F,as,ds,O',r,s,e,k⟩:=q;obtain ⟨d,O1,e1,e⟩:=Res.bind_ok e
 cases d with
 | tup es =>
  cases e;refine ⟨ρ,_,F,as,_,_,r,s,e1,fun v H1 F1 as1 g1 r1 hv=>?_⟩;obtain ⟨a,xs,rfl,h1,h2⟩:=Rp.unT hv
  have hp:∀(H2 F2:Hp) (as2:List Addr),GrS P H1 F1 as1 H2 F2 as2→(∃O,RlO X.K X.mg O H2 F2 as2)→SqT X.K H2 a xs:=fun H2 F2 as2 g ⟨O,r⟩=>Same.seqT r.fh (Same.seqT g.ff h1)
  refine ⟨a,rfl,⟨xs,hp H1 F1 as1 GrS.refl ⟨_,r1⟩⟩,k _ H1 F1 as1 g1 r1 ⟨fun i d H2 F2 as2 g r e=>?_,fun H2 F2 as2 g r=>⟨xs,hp H2 F2 as2 g r,by rw [h2.length]; exact zc _⟩⟩⟩;obtain ⟨x,h3,h4⟩:=h2.get' e;have q:=hp H2 F2 as2 g r;refine ⟨⟨xs,x,q,h3⟩,fun y H3 hy=>?_⟩;obtain ⟨rfl,hy⟩:=hy
  have:=hy xs q
  rw [h3] at this;cases this;exact ⟨F2,Gr.refl,fun _ r=>r,h4.grS g⟩
 | _=>cases e
def Qcj (l:List Nat):List D:=l.map fun c=>.str [c]
def QmA (m:M D):M (List D):=fun ρ O=>(m ρ O).bind fun d O1=>match d with
 | .str l=>if ascii l=true then .ok (Qcj l) O1 else .no
 | _=>.no
theorem Qkg {K:Frag}{mg:Str→Option Value}{J:It}{ds:List D}{H F:Hp}{as:List Addr} (h1:∀(i:Nat) (d:D) (H2:Hp),ds[i]? = some d→J.go i H2∧∀x H3,J.yld i H2 x H3→H3=H2∧∀K F as,Rp K F as x d) (h2:∀H2,J.stop ds.length H2):JOk K mg P J ds H F as :=
 ⟨fun i d H2 F2 as2 _ _ e=>⟨(h1 i d H2 e).1,fun x H3 y=>by
  obtain ⟨rfl,hx⟩:=(h1 i d H2 e).2 x H3 y
  exact ⟨F2,Gr.refl,fun _ r=>r,hx _ _ _⟩⟩,fun H2 _ _ _ _=>h2 H2⟩
theorem Qnh {tg e:Expr}{m:M D} (h:SE X md P e m):VI X md P tg e (QmA m):=(Qrr h).imp fun σ H Q q=>by
 obtain ⟨ρ,O,F,as,ds,O',r,s,e,k⟩:=q;obtain ⟨d,O1,e1,e⟩:=Res.bind_ok e
 cases d with
 | str l =>
  dsimp only at e;split at e
  ·rename_i hl;cases e;refine ⟨ρ,_,F,as,_,_,r,s,e1,fun v H1 F1 as1 g1 r1 hv=>?_⟩;refine ⟨l,(Sv.rp hv rfl).unS,hl,k _ H1 F1 as1 g1 r1 (Qkg (fun i d H2 e=>?_) fun H2=>by simp [Qcj,Its])⟩;unfold Qcj at e;rw [zB] at e
   cases q:l[i]? with
   | none=>rw [q] at e; cases e
   | some c =>
    rw [q] at e;cases e;refine ⟨(zn.mp q).1,fun x H3 y=>?_⟩;obtain ⟨e1,c',e2,rfl⟩:=y;rw [q] at e2;cases e2;exact ⟨e1,fun _ _ _=>Rp.str⟩
  ·cases e
 | _=>cases e
def QbR (lo:Int) (n:Nat):List D:=(List.range n).map fun (k:Nat)=>.int (lo+(k:Int))
def Qc7 (m:M (List D)):M (List D):=fun ρ O=>(m ρ O).bind fun ds O1=>match ds with
 | [.int j]=>if j≤1000000000∧-1000000000≤j then .ok (QbR 0 j.toNat) O1 else .no
 | _=>.no
theorem QnR {K:Frag}{mg:Str→Option Value}{lo:Int}{n:Nat}{H F:Hp}{as:List Addr}:JOk K mg P (Itr lo n) (QbR lo n) H F as:=Qkg (fun i d H2 e=>by
 unfold QbR at e;rw [zB] at e
 by_cases hi:i < n
 ·rw [List.getElem?_range hi] at e;cases e;refine ⟨hi,fun x H3 y=>?_⟩;obtain ⟨e1,rfl⟩:=y;exact ⟨e1,fun _ _ _=>Rp.int⟩
 ·rw [List.getElem?_eq_none (by simpa using hi)] at e
  cases e) fun H2=>by simp [QbR,Itr]
theorem Qbz.one {K:Frag}{H F:Hp}{as:List Addr}{m:Md}{vs:List V}{d:D} (h:Qbz K H F as [m] vs [d]):∃v,vs = [v]∧rA K m (fun _=>True) H F as v d:=by
 cases vs with
 | nil=>exact h.elim
 | cons v vs =>
  cases vs with
  | nil=>exact ⟨v,rfl,h.1⟩
  | cons u us=>exact h.2.elim
theorem Qbz.two {K:Frag}{H F:Hp}{as:List Addr}{m n:Md}{vs:List V}{d e:D} (h:Qbz K H F as [m,n] vs [d,e]):∃v u,vs = [v,u]∧rA K m (fun _=>True) H F as v d∧rA K n (fun _=>True) H F as u e:=by
 cases vs with
 | nil=>exact h.elim
 | cons v vs =>
  cases vs with
  | nil=>exact h.2.elim
  | cons u us =>
   cases us with
   | nil=>exact ⟨v,u,rfl,h.1,h.2.1⟩
   | cons w ws=>exact h.2.2.elim
theorem QdF {tg a:Expr}{p pos:Pos}{m:M (List D)} (hm:X.mg "range" = none) (ha:AE X md P [.s] [a] m) (hg:Gl X "range":=by rfl) (hs:starEach [a] X.env = [(false,eval a X.env)]:=by exact QhG rfl):VI X md P tg (.Call (.Name "range" p) [a] [] pos) (Qc7 m):=(QnC hg hm ha hs).imp fun σ H Q q=>by
 obtain ⟨ρ,O,F,as,ds,O',r,s,e,k⟩:=q;obtain ⟨es,O1,e1,e⟩:=Res.bind_ok e;split at e
 ·rename_i j;split at e
  ·rename_i hj;cases e;refine ⟨ρ,_,F,as,_,_,r,s,e1,fun vs H1 F1 as1 g1 r1 hv=>?_⟩;obtain ⟨v,rfl,hv1⟩:=hv.one
   have:=(Sv.rp hv1 rfl).unI
   subst this;exact ⟨j,rfl,by omega,by omega,k _ H1 F1 as1 g1 r1 QnR⟩
  ·cases e
 ·cases e
def Qb9:Nat→List D→List D
 | _,[]=>[]
 | k,d::ds=>.tup [.int k,d]::Qb9 (k+1) ds
theorem Qhx:∀(k:Nat) (ds:List D),(Qb9 k ds).length=ds.length
 | _,[]=>rfl
 | k,d::ds=>by simp [Qb9,Qhx (k+1) ds]
theorem Qg1:∀(k:Nat) (ds:List D) (i:Nat),(Qb9 k ds)[i]? = (ds[i]?).map fun d=>.tup [.int ((k+i:Nat):Int),d]
 | k,[],i=>by simp [Qb9]
 | k,d::ds,0=>by simp [Qb9]
 | k,d::ds,i+1=>by
  rw [Qb9,je,je,Qg1 (k+1) ds i];congr 1
  funext d
  congr 3;omega
theorem QkU {K:Frag}{mg:Str→Option Value}{H2 F2:Hp}{as2:List Addr}{T:Addr}{xs:List V}{ds:List D} (hr:∃O,RlO K mg O H2 F2 as2) (hT:H2 T=none) (hx:Rps K F2 as2 xs ds) :
  ∃F3,Gr H2 F2 as2 (upd H2 T (.tup xs)) F3 as2∧(∀O,RlO K mg O H2 F2 as2→RlO K mg O (upd H2 T (.tup xs)) F3 as2)∧Rp K F3 as2 (.ref T) (.tup ds):=by
 obtain ⟨O,r⟩:=hr;have hF:=r.frF hT
 have ff:Same F2 (upd F2 T (.tup xs)):=fun b u q=>by rw [Qan (QaA q hF)]; exact q
 exact ⟨upd F2 T (.tup xs),(Gr.lay hT).frz hT hF,fun O' r'=>(r'.lay hT).frz QaE hF (fun z=>r'.all z hT) rfl,Rp.mkT (.inl QaE) (Rps.mono ff (fun _ _ z=>z) _ hx)⟩
def QmZ (m:M D):M (List D):=fun ρ O=>(m ρ O).bind fun d O1=>match d with
 | .lst ds=>.ok (Qb9 0 ds) O1
 | _=>.no
def Qnv (m:M D):M (List D):=fun ρ O=>(m ρ O).bind fun d O1=>match d with
 | .str l=>if ascii l=true then .ok (Qb9 0 (Qcj l)) O1 else .no
 | _=>.no
variable {elts:List Expr}{x1:Nat}{tpos:Pos}
theorem QoR {a:Expr}{p pos:Pos}{m:M D} (hm:X.mg "enumerate" = none) (h:WE X md P a m) (hg:Gl X "enumerate":=by rfl) (hs:starEach [a] X.env = [(false,eval a X.env)]:=by exact QhG rfl) (hs':starEach [a] X.env=(false,eval a X.env)::starEach [] X.env:=by exact Qbq rfl) :
  VI X md P (.Tuple elts x1 tpos) (.Call (.Name "enumerate" p) [a] [] pos) (QmZ m):=(Qpk hg hm (Qcb h Qdc hs') hs).imp fun σ H Q q=>by
 obtain ⟨ρ,O,F,as,ds,O',r,s,e,k⟩:=q;obtain ⟨d,O1,e1,e⟩:=Res.bind_ok e
 cases d with
 | lst es =>
  cases e;refine ⟨ρ,_,F,as,_,_,r,s,e1,fun v H1 F1 as1 g1 r1 hv=>?_⟩;obtain ⟨a,xs,rfl,h1,h2⟩:=Qpr (mg:=X.mg) hv;refine ⟨a,rfl,⟨xs,(h2 H1 F1 as1 GrS.refl ⟨_,r1⟩).sq⟩,k _ H1 F1 as1 g1 r1 ⟨fun i d H2 F2 as2 g r e=>?_,fun H2 F2 as2 g r=>⟨xs,(h2 H2 F2 as2 g r).sq,by rw [Qhx,h1.length]; exact zc _⟩⟩⟩;rw [Qg1] at e
  cases q:es[i]? with
  | none=>rw [q] at e; cases e
  | some y =>
   rw [q] at e;cases e;obtain ⟨x,h3,h4⟩:=h1.get' q;have hq:=h2 H2 F2 as2 g r;refine ⟨⟨xs,x,hq.sq,h3⟩,fun z H3 hz=>?_⟩;obtain ⟨T,x',rfl,hT,rfl,hx'⟩:=hz
   have:=hx' xs hq.sq
   rw [h3] at this;cases this;rw [Nat.zero_add];exact QkU r hT (Rps.cons Rp.int (Rps.cons (h4.grS g) Rps.nil))
 | _=>cases e
theorem Qop {a:Expr}{p pos:Pos}{m:M D} (hm:X.mg "enumerate" = none) (h:SE X md P a m) (hg:Gl X "enumerate":=by rfl) (hs:starEach [a] X.env = [(false,eval a X.env)]:=by exact QhG rfl) (hs':starEach [a] X.env=(false,eval a X.env)::starEach [] X.env:=by exact Qbq rfl) :
  VI X md P (.Tuple elts x1 tpos) (.Call (.Name "enumerate" p) [a] [] pos) (Qnv m):=(Qpe hg hm (Qcb h Qdc hs') hs).imp fun σ H Q q=>by
 obtain ⟨ρ,O,F,as,ds,O',r,s,e,k⟩:=q;obtain ⟨d,O1,e1,e⟩:=Res.bind_ok e
 cases d with
 | str l =>
  dsimp only at e;split at e
  ·rename_i hl;cases e;refine ⟨ρ,_,F,as,_,_,r,s,e1,fun v H1 F1 as1 g1 r1 hv=>?_⟩;refine ⟨l,by rw [(Sv.rp hv rfl).unS],hl,k _ H1 F1 as1 g1 r1 ⟨fun i d H2 F2 as2 g r e=>?_,fun H2 F2 as2 g r=>?_⟩⟩
   ·rw [Qg1] at e;unfold Qcj at e;rw [zB] at e
    cases q:l[i]? with
    | none=>rw [q] at e; cases e
    | some c =>
     rw [q] at e;cases e;refine ⟨(zn.mp q).1,fun z H3 hz=>?_⟩;obtain ⟨T,c',rfl,hT,rfl,hc'⟩:=hz;rw [q] at hc';cases hc';rw [Nat.zero_add];exact QkU r hT (Rps.cons Rp.int (Rps.cons Rp.str Rps.nil))
   ·show l.length≤_;rw [Qhx];simp [Qcj]
  ·cases e
 | _=>cases e
def Qgm:List D→Option (List (List Nat))
 | []=>some []
 | .str l::ds=>(Qgm ds).map (l :: ·)
 | _=>none
theorem Rps.strs {K:Frag}{F:Hp}{as:List Addr}:∀{ds:List D}{xs:List V}{ls:List (List Nat)},Rps K F as xs ds→Qgm ds=some ls→xs=ls.map fun l=>V.str (S l)
 | [],xs,bs,h,e=>by cases e; rw [h.un0]; rfl
 | d::ds,xs,bs,h,e=>by
  obtain ⟨x,r,rfl,h2,h3⟩:=h.un
  cases d with
  | str b =>
   unfold Qgm at e
   cases q:Qgm ds with
   | none=>rw [q] at e; cases e
   | some cs =>
    rw [q] at e;cases e;rw [h2.unS,Rps.strs h3 q];rfl
  | _=>cases e
def Qts (m:M D):M D:=fun ρ O=>(m ρ O).bind fun d O1=>match QaU O1 d with
 | .lst ds=>match Qgm ds with
  | some ls=>if (ls.map List.length).sum≤1000000 then .ok (.str ls.flatten) O1 else .no
  | none=>.no
 | _=>.no
def Qp1 (mo m:M D):M D:=fun ρ O=>(mo ρ O).bind fun a O1=>(m ρ O1).bind fun b O2=>match a,b with
 | .str l,.str n=>.ok (.bl (decide (l.take n.length=n))) O2
 | _,_=>.no
end
section
variable {K:Frag}{mg:Str→Option Value}{md:List Md}{P:Pt}{ρ:Qam}{σ:St}{H F:Hp}{as:List Addr}{O:Qae}{i:Nat}{a:Addr}{xs xs':List V}{ds ds':List D}
theorem SlO.own (s:SlO K md P ρ σ H F as) (hm:md[i]? = some .o) (hρ:ρ[i]? = some (some (.lst ds))):∃a xs,σ[i]? = some (some (.ref a))∧H a=some (.lst xs)∧F a=none∧a∉as∧¬P a∧Rps K F as xs ds:=by
 obtain ⟨v,h1,h2⟩:=s.sl i .o _ hm hρ
 rcases h2 with ⟨h2,_⟩ | ⟨a,xs,es,rfl,e2,e3,e0,e4,e5,e6⟩
 ·cases h2
 ·cases e2;exact ⟨a,xs,h1,e3,e0,e4,e5,e6⟩
theorem SlO.mut (s:SlO K md P ρ σ H F as) (hm:md[i]? = some .o) (hρ:ρ[i]? = some (some (.lst ds))) (hσ:σ[i]? = some (some (.ref a))) (hF:F a=none) (ha:a∉as) (hP:¬P a) (r:Rps K F as xs' ds'):SlO K md P (ρ.set i (some (.lst ds'))) σ (upd H a (.lst xs')) F as:=by
 have hi:i < md.length:=(zn.mp hm).1;refine ⟨s.len,by rw [zM]; exact s.len',fun c p=>?_,fun j m d e1 e2=>?_,fun j k c es fs h1 h2 h3 h4 h5 h6=>?_,fun x hx=>?_⟩
 ·have:=s.pd c p
  unfold upd
  split
  ·exact fun z=>nomatch z
  ·exact this
 ·by_cases h:i=j
  ·subst h;rw [hm] at e1; cases e1;rw [zI (by rw [s.len']; exact hi)] at e2;cases e2;exact ⟨_,hσ,.inr ⟨a,xs',ds',rfl,rfl,QaE,hF,ha,hP,r⟩⟩
  ·rw [zq h] at e2;obtain ⟨v,q1,q2⟩:=s.sl j m d e1 e2;refine ⟨v,q1,?_⟩
   cases m with
   | v=>exact q2
   | s =>
    rcases q2 with q2 | ⟨c,ys,es,z1,z2,z3,z4,z5,z6⟩
    ·exact .inl q2
    ·exact .inr ⟨c,ys,es,z1,z2,by rw [Qan (fun z=>hP (by rw [←z]; exact z5))]; exact z3,z4,z5,z6⟩
   | o =>
    rcases q2 with q2 | ⟨c,ys,es,z1,z2,z3,z0,z4,z5,z6⟩
    ·exact .inl q2
    ·refine .inr ⟨c,ys,es,z1,z2,?_,z0,z4,z5,z6⟩;rw [Qan]
     ·exact z3
     ·intro z;subst z z1 z2;exact h (s.inj i j c ds es hm e1 hρ e2 hσ q1)
 ·have f:∀k es,(ρ.set i (some (.lst ds')))[k]? = some (some (D.lst es))→∃es',ρ[k]? = some (some (D.lst es')):=fun k es q=>by
   by_cases h:i=k
   ·subst h; exact ⟨ds,hρ⟩
   ·rw [zq h] at q; exact ⟨es,q⟩
  obtain ⟨es',q3⟩:=f j es h3;obtain ⟨fs',q4⟩:=f k fs h4;exact s.inj j k c es' fs' h1 h2 q3 q4 h5 h6
 ·obtain ⟨p1,p2,p3⟩:=s.pin x hx
  have hne:i≠x.1:=fun z=>by rw [←z,hm] at p1; cases p1
  exact ⟨p1,by rw [zq hne]; exact p2,p3⟩
theorem Qob {xs:List V} (hH:H a=some (.lst xs)) (hP:¬P a) {o:HO}:GrS P H F as (upd H a o) F as :=
 ⟨fun _ _ _ _ _ _=>rfl,Same.refl F,⟨[],by simp,fun _ h=>nomatch h⟩,fun c u p e _ _=>by rw [Qan (fun z=>hP (by rw [←z]; exact p))]; exact e,fun c e=>by
  by_cases h:c=a
  ·subst h; rw [QaE] at e; cases e
  ·rwa [Qan h] at e,fun c o' u e=>by rw [Qan (fun z=>by rw [z,hH] at e; cases e)]; exact e⟩
theorem RlO.mut (r:RlO K mg O H F as) (hF:F a=none) (ha:a∉as) {o:HO}:RlO K mg O (upd H a o) F as:=by
 refine ⟨fun c u e=>?_,r.fd,r.nd,r.len,r.fa,fun n c u hc hu=>(r.ob n c u hc hu).keep (Qan ?_) (Same.refl F) fun _ _ h=>h⟩
 ·rw [Qan (QaA e hF)]; exact r.fh c u e
 ·intro z; subst z; exact ha (zP hc)
end
section
variable {X:Cx}{md:List Md}{P:Pt}{R:RR}
def Qef (i:Nat) (m:M D):MS:=fun ρ O=>match m ρ O with
 | .ok d O'=>match ρ[i]? with
  | some (some (.lst ds))=>if ds.length < 1000000 then .nx (ρ.set i (some (.lst (ds ++ [d])))) O' else .no
  | _=>.no
 | .ex x O'=>.ex x O'
 | .no=>.no
theorem Qne {i:Nat}{m:M D}{ρ:Qam}{O:Qae} (K:Frag) (mg:Str→Option Value) {D:Ends}{H F:Hp}{as:List Addr} (k:QfS K mg md P R D H F as (Qef i m ρ O)) :
  ∃d O' ds,m ρ O = .ok d O'∧ρ[i]? = some (some (.lst ds))∧ds.length < 1000000∧QfS K mg md P R D H F as (.nx (ρ.set i (some (.lst (ds ++ [d])))) O'):=by
 unfold Qef at k;split at k
 ·rename_i d O' e;split at k
  ·rename_i ds e2;split at k
   ·rename_i hz;exact ⟨d,O',ds,e,e2,hz,k⟩
   ·exact False.elim k
  ·exact False.elim k
 ·exact False.elim k
 ·exact False.elim k
theorem Qjm (i:Nat) {x:Str}{p apos cpos pos:Pos}{e:Expr}{m:M D} (h:VE X md P e m) (hm:md[i]? = some .o:=by rfl) (hN:X.N[i]? = some x:=by rfl) (hv:Vis X.env.scope x:=by first | exact Or.inl rfl | exact Or.inr (Or.inl rfl) | exact Or.inr (Or.inr rfl))
  (hd:(x == ("__debug__":Str))=false:=by decide) (hcd:(x == ("__classdict__":Str))=false:=by decide)
  (hbase:attributeBase (.Name x p) "append" X.env (eval (.Name x p) X.env)=eval (.Name x p) X.env:=by rfl)
  (hfew:((backTo cpos (starEach [e] X.env)).all (fun x=>!x.1)&&(backToKw cpos (keywordEach [] X.env)).all (fun x=>x.1.isSome)&&decide ([e].length+([]:List Keyword).length+(if ([]:List Keyword).isEmpty then 0 else 1) < 30))=true:=by rfl)
  (hline:(apos.endLine == cpos.line)=true:=by rfl) (hs:starEach [e] X.env=(false,eval e X.env)::starEach [] X.env:=by exact Qbq rfl) (hplain:(backTo cpos (starEach [] X.env)).any (·.1)=false:=by exact QbL rfl)
  (hsw:swapsWith (.Call (.Attribute (.Name x p) "append" apos) [e] [] cpos) none pos.line X.env=pure false:=by rfl) :
  VS X md P R (.Expr (.Call (.Attribute (.Name x p) "append" apos) [e] [] cpos) pos) (Qef i m) :=
 (QlA (Qul PySem.F.plainAttrs_list PySem.F.slot_list_append PySem.F.type_list_append QnD (QeD (i:=i) hN hv hd hcd) (Qcb h Qdc hs) hbase hfew hline hs hplain) hsw).imp fun D σ H q=>by
  obtain ⟨ρ,O,F,as,r,s,k⟩:=q;obtain ⟨d,O',ds,e,e2,hz,k⟩:=Qne X.K X.mg k;obtain ⟨a,xs,h1,h2,h3,h4,h5,h6⟩:=s.own hm e2;refine ⟨_,h1,.inl ⟨rfl,xs,.inl (.inl h2)⟩,ρ,O,F,as,d,O',r,s,e,fun y H1 F1 as1 g1 r1 hy=>?_⟩;have s1:=s.step g1
  have hn:H a≠none:=by rw [h2]; exact fun z=>nomatch z
  have q2:=g1.fr _ _ h2 h4 rfl
  have q3:F1 a=none:=by rw [g1.fz a _ h2 h4 rfl]; exact h3
  have q4:=g1.out h4 hn
  have hn1:H1 a≠none:=by rw [q2]; exact fun z=>nomatch z
  exact ⟨a,xs,y,rfl,rfl,q2,by rw [h6.length]; exact zv hz (by decide),k σ _ F1 as1 (g1.toS.trans (Qob q2 h5)) (r1.mut q3 q4) (s1.mut hm e2 h1 q3 q4 h5 ((h6.gr g1).snoc hy))⟩
def Qt2 (i:Nat) (m:M D):MS:=fun ρ O=>match m ρ O with
 | .ok d O'=>match ρ[i]?,QaU O' d with
  | some (some (.lst ds)),.lst es=>if ds.length+es.length≤1000000 then .nx (ρ.set i (some (.lst (ds++es)))) O' else .no
  | _,_=>.no
 | .ex x O'=>.ex x O'
 | .no=>.no
def Qgd (i:Nat) (mi m:M D):MS:=fun ρ O=>match m ρ O with
 | .ok d O1=>match mi ρ O1 with
  | .ok (.int j) O2=>match ρ[i]? with
   | some (some (.lst ds))=>match ixN ds.length j with
    | some n=>.nx (ρ.set i (some (.lst (ds.set n d)))) O2
    | none=>.no
   | _=>.no
  | _=>.no
 | .ex x O'=>.ex x O'
 | .no=>.no
theorem Qox (i:Nat) {x:Str}{p pos apos:Pos}{e ix:Expr}{mi m:M D} (h:VE X md P e m) (hi:VE X md P ix mi) (hm:md[i]? = some .o:=by rfl) (hN:X.N[i]? = some x:=by rfl) (hv:Vis X.env.scope x:=by first | exact Or.inl rfl | exact Or.inr (Or.inl rfl) | exact Or.inr (Or.inr rfl))
  (hd:(x == ("__debug__":Str))=false:=by decide) (hcd:(x == ("__classdict__":Str))=false:=by decide)
  (ha:∀v,assign (.Subscript (.Name x p) ix apos) X.env v=(do
   let ov ←holding [v] (eval (.Name x p) X.env)
   let iv ←holding [v,ov] (eval ix X.env)
   standAt apos
   holding [v,ov,iv] (setItem ov iv v)
   release [v,ov,iv] []):=by intro _; rfl)
  (hs:swapsWithSole [.Subscript (.Name x p) ix apos] e pos.line X.env=pure false:=by rfl) (hw:swappedStores [.Subscript (.Name x p) ix apos] e X.env=pure none:=by rfl)
  (h1:(assignEach [.Subscript (.Name x p) ix apos] X.env).map (·.2) = [assign (.Subscript (.Name x p) ix apos) X.env]:=by rfl) :
  VS X md P R (.Assign [.Subscript (.Name x p) ix apos] e pos) (Qgd i mi m) :=
 (Qm2 h (Qsk (QeD (i:=i) hN hv hd hcd) hi set_list ha) hs hw h1).imp fun D σ H q=>by
  obtain ⟨ρ,O,F,as,r,s,k⟩:=q;unfold Qgd at k;split at k
  ·rename_i d O1 e1;split at k
   ·rename_i j O2 e2;split at k
    ·rename_i ds e3;split at k
     ·rename_i n e4;obtain ⟨a,xs,h1,h2,h3,h4,h5,h6⟩:=s.own hm e3;refine ⟨ρ,O,F,as,d,O1,r,s,e1,fun y H1 F1 as1 g1 r1 hy=>?_⟩;refine ⟨_,h1,ρ,O1,F1,as1,.int j,O2,r1,s.step g1,e2,fun z H2 F2 as2 g2 r2 hz=>?_⟩;have g:=g1.trans g2
      have hn:H a≠none:=by rw [h2]; exact fun z=>nomatch z
      have q2:=g.fr _ _ h2 h4 rfl
      have q3:F2 a=none:=by rw [g.fz a _ h2 h4 rfl]; exact h3
      have q4:=g.out h4 hn
      have hn1:H2 a≠none:=by rw [q2]; exact fun z=>nomatch z
      exact ⟨a,xs,j,n,rfl,Rp.unI hz,q2,by rw [h6.length]; exact e4,k σ _ F2 as2 (g.toS.trans (Qob q2 h5)) (r2.mut q3 q4) ((s.step g).mut hm e3 h1 q3 q4 h5 ((h6.gr g).set n (Rp.gr hy g2)))⟩
     ·exact False.elim k
    ·exact False.elim k
   ·exact False.elim k
  ·exact False.elim k
  ·exact False.elim k
end
def putD (f:Str) (v:D):List (Str×D)→List (Str×D)
 | []=>[(f,v)]
 | (g,x)::r=>if g=f then (g,v)::r else (g,x)::putD f v r
section
variable {K:Frag}{F:Hp}{as:List Addr}
theorem FsR.cons_inv {gs:List (Str×V)}{f:Str}{d:D}{fs:List (Str×D)} (h:FsR K F as gs ((f,d)::fs)):∃v gs',gs=(f,v)::gs'∧Rp K F as v d∧FsR K F as gs' fs:=by
 obtain ⟨h1,h2⟩:=h
 cases gs with
 | nil=>cases h1
 | cons g gs' =>
  obtain ⟨g1,g2⟩:=g;simp only [ze,List.cons.injEq] at h1;obtain ⟨x,r,e,h3,h4⟩:=h2.un;simp only [ze,List.cons.injEq] at e;obtain ⟨rfl,rfl⟩:=e;exact ⟨g2,gs',by rw [h1.1],h3,⟨h1.2,h4⟩⟩
theorem FsR.nil_inv {gs:List (Str×V)} (h:FsR K F as gs []):gs = []:=List.map_eq_nil_iff.mp h.nm
theorem FsR.get:∀{fs:List (Str×D)}{gs:List (Str×V)}{f:Str}{d:D},FsR K F as gs fs→fs.lookup f=some d→∃v,gs.lookup f=some v∧Rp K F as v d
 | [],_,_,_,_,e=>by cases e
 | (g,x)::fs,gs,f,d,h,e=>by
  obtain ⟨v,gs',rfl,h1,h2⟩:=h.cons_inv;rw [List.lookup_cons] at e ⊢
  cases q:f == g with
  | true =>
   rw [q] at e;cases e;exact ⟨v,rfl,h1⟩
  | false =>
   rw [q] at e;exact FsR.get h2 e
theorem FsR.no:∀{fs:List (Str×D)}{gs:List (Str×V)}{f:Str},FsR K F as gs fs→fs.lookup f=none→gs.lookup f=none
 | [],_,_,h,e=>by rw [h.nil_inv]; rfl
 | (g,x)::fs,gs,f,h,e=>by
  obtain ⟨v,gs',rfl,h1,h2⟩:=h.cons_inv;rw [List.lookup_cons] at e ⊢
  cases q:f == g with
  | true=>rw [q] at e; cases e
  | false =>
   rw [q] at e;exact FsR.no h2 e
theorem FsR.put {f:Str}{v:V}{d:D} (hv:Rp K F as v d):∀{fs:List (Str×D)}{gs:List (Str×V)},FsR K F as gs fs→FsR K F as (QcT f v gs) (putD f d fs)
 | [],_,h=>by
  rw [h.nil_inv];exact ⟨rfl,Rps.cons hv Rps.nil⟩
 | (g,x)::fs,gs,h=>by
  obtain ⟨u,gs',rfl,h1,h2⟩:=h.cons_inv;rw [QcT,putD]
  by_cases q:g=f
  ·rw [if_pos q,if_pos q];exact ⟨by simp [h2.nm],Rps.cons hv h2.vl⟩
  ·rw [if_neg q,if_neg q];have ih:=FsR.put (f:=f) hv h2;exact ⟨by simp [ih.nm],Rps.cons h1 ih.vl⟩
theorem FsR.length {fs:List (Str×D)}{gs:List (Str×V)} (h:FsR K F as gs fs):gs.length=fs.length:=by
 have:=congrArg List.length h.nm
 simpa using this
theorem RlO.set {mg:Str→Option Value}{O:Qae}{H:Hp}{n:Nat}{a:Addr}{o:Ob}{u:HO} (r:RlO K mg O H F as) (ha:as[n]? = some a) (ho:ObR K mg (upd H a u) F as a o):RlO K mg (O.set n o) (upd H a u) F as:=by
 have hF:=r.fa a (zP ha);refine ⟨fun c w e=>?_,r.fd,r.nd,by rw [zM]; exact r.len,r.fa,fun k c w hc hw=>?_⟩
 ·rw [Qan (QaA e hF)]; exact r.fh c w e
 ·by_cases h:n=k
  ·subst h;rw [ha] at hc; cases hc;rw [zI (by rw [←r.len]; exact (zn.mp ha).1)] at hw;cases hw;exact ho
  ·rw [zq h] at hw
   refine (r.ob k c w hc hw).keep (Qan ?_) (Same.refl F) fun _ _ h=>h
   intro z;subst z;obtain ⟨l1,q1⟩:=zn.mp ha;obtain ⟨l2,q2⟩:=zn.mp hc;exact h ((List.getElem_inj r.nd).mp (q1.trans q2.symm))
end
def KC (K:Frag) (mg:Str→Option Value) (c f:Str):Prop:=∃C,mg c=some (.ref C)∧Cls K C∧Qfb K C f
section
variable {X:Cx}{md:List Md}{P:Pt}{R:RR}
def Qhj (cs:List Str) (f:Str) (m:M D):M D:=fun ρ O=>(m ρ O).bind fun d O1=>match d with
 | .ob n=>match O1[n]? with
  | some (.ins c fs)=>if c∈cs then match fs.lookup f with
   | some y=>.ok y O1
   | none=>.no else .no
  | _=>.no
 | _=>.no
theorem Qm3 {cs:List Str}{f:Str}{o:Expr}{pos:Pos}{m:M D} (hc:∀c∈cs,KC X.K X.mg c f) (h:VE X md P o m) (hb:attributeBase o f X.env (eval o X.env)=eval o X.env:=by rfl):VE X md P (.Attribute o f pos) (Qhj cs f m):=(QsL h hb).imp fun σ H Q q=>by
 obtain ⟨ρ,O,F,as,d,O',r,s,e,k⟩:=q;obtain ⟨x,O1,e1,e⟩:=Res.bind_ok e
 cases x with
 | ob n =>
  dsimp only at e;split at e
  ·rename_i c fs eo;split at e
   ·rename_i hcs;split at e
    ·rename_i y ey;cases e;refine ⟨ρ,_,F,as,_,_,r,s,e1,fun v H1 F1 as1 g1 r1 hv=>?_⟩;obtain ⟨a,rfl,ha⟩:=Rp.unO hv;obtain ⟨C,dx,gs,h1,h2,h3⟩:=r1.ob n a _ ha eo;obtain ⟨C',h4,h5,h6⟩:=hc c hcs;rw [h1] at h4; cases h4;obtain ⟨w,h7,h8⟩:=h3.get ey;exact ⟨a,C,dx,gs,w,rfl,h2,h5,h6,h7,k w H1 F1 as1 g1 r1 h8⟩
    ·cases e
   ·cases e
  ·cases e
 | _=>cases e
def Qeo (cs:List Str) (f:Str) (mo mv:M D):MS:=fun ρ O=>match mv ρ O with
 | .ok d O1=>match mo ρ O1 with
  | .ok (.ob n) O2=>match O2[n]? with
   | some (.ins c fs)=>if c∈cs∧fs.length < 900 then .nx ρ (O2.set n (.ins c (putD f d fs))) else .no
   | _=>.no
  | _=>.no
 | .ex x O'=>.ex x O'
 | .no=>.no
theorem Qky {cs:List Str}{f:Str}{o value:Expr}{pos pos':Pos}{mo mv:M D} (hc:∀c∈cs,KC X.K X.mg c f) (ho:VE X md P o mo) (hv:VE X md P value mv) (hs:swapsWith value (some (.Attribute o f pos')) pos.line X.env=pure false:=by rfl):VS X md P R (.Assign [.Attribute o f pos'] value pos) (Qeo cs f mo mv):=(Qsb ho hv hs).imp fun D σ H q=>by
 obtain ⟨ρ,O,F,as,r,s,k⟩:=q;unfold Qeo at k;split at k
 ·rename_i d O1 e1;split at k
  ·rename_i n O2 e2;split at k
   ·rename_i c fs eo;split at k
    ·rename_i hcs;refine ⟨ρ,O,F,as,d,O1,r,s,e1,fun y H1 F1 as1 g1 r1 hy=>?_⟩;refine ⟨ρ,O1,F1,as1,.ob n,O2,r1,s.step g1,e2,fun z H2 F2 as2 g2 r2 hz=>?_⟩;have g:=g1.trans g2;obtain ⟨a,rfl,ha⟩:=Rp.unO hz;obtain ⟨C,dx,gs,h1,h2,h3⟩:=r2.ob n a _ ha eo;obtain ⟨C',h4,h5,h6⟩:=hc c hcs.1;rw [h1] at h4; cases h4;have hmem:=zP ha
     have hn:H2 a≠none:=by rw [h2]; exact fun z=>nomatch z
     have gg:Gr H2 F2 as2 (upd H2 a (.ins C dx (QcT f y gs))) F2 as2:=⟨fun _ _ _ _ _=>rfl,Same.refl _,⟨[],by simp,fun _ h=>nomatch h⟩,fun b u e hb _=>by rw [Qan (fun z=>hb (by rw [z]; exact hmem))]; exact e,fun b e=>by
      by_cases h:b=a
      ·subst h; rw [QaE] at e; cases e
      ·rwa [Qan h] at e,fun b o' u e=>by rw [Qan (fun z=>by rw [z,h2] at e; cases e)]; exact e⟩
     refine ⟨a,C,dx,gs,rfl,h2,h5,h6,by rw [h3.length]; omega,?_⟩;exact k σ _ F2 as2 (g.trans gg).toS (r2.set ha ⟨C,dx,_,h1,QaE,h3.put (Rp.gr hy g2)⟩) ((s.step g).step gg)
    ·exact False.elim k
   ·exact False.elim k
  ·exact False.elim k
 ·exact False.elim k
 ·exact False.elim k
end
section
variable {Pr:Program}{w:World}{K:Frag}{mg:Str→Option Value}{base:Heap}
theorem QuZ {x qual:Str}{st:Stmt}{f:Addr}{fd:FuncData}{N ps:List Str}{k:Nat} (Fn:Fun K x qual st f fd) (S:QaO N ps (Qao st))
  (pm lm:List Md) {R:RR}{b:MS} (hR:QdB R) (hR0:∀N H F as,R N H F as .non .non) (hpl:pm.length=ps.length) (hl:(pm++lm).length=N.length) (hp:∀m∈pm,m≠.o)
  (body:∀(cdv:Value) (A:Around) (outer:List Env) (s:Shared) (H:Hp) (E:XK),QaR k (A.deeper (envOfC qual (Qao st) s.heap.objs.size f cdv))→∀P,VSs ((QcS CX0 Pr w K mg base N qual (Qao st) f cdv A outer s H E).nox) (pm++lm) P R (Qa8 st) b) :
  QbB Pr w K mg base CX0 (k+1) f fd ps (vSp K mg pm R (Qbw N.length b)):=by
 refine Fn.ok S (fun vs H Q E h=>?_) (fun cdv A outer s H vs Q E hr h=>?_)
 ·obtain ⟨ds,O,F,as,d,O',r,a,_⟩:=h;rw [a.len.1,hpl]
 ·obtain ⟨ds,O,F,as,d,O',r,a,e,q⟩:=h;refine ⟨_,body cdv A outer s H E hr (Pt.all H),?_⟩;refine ⟨_,O,F,as,r,QfM a hl hp,?_⟩;unfold Qbw at e
  cases eb:b (ds.map some++List.replicate (N.length - ds.length) none) O with
  | rt d' O2 =>
   rw [eb] at e;cases e
   exact fun v H' F' as' g r' hv=>q v H' F' as' g.gr r' (hR _ _ _ _ _ _ _ (fun c hc=>ji.mp hc) hv)
  | nx ρ O2 =>
   rw [eb] at e;cases e
   exact fun σ' H' F' as' g r' _=>q _ H' F' as' g.gr r' (hR0 _ _ _ _)
  | bk _ _=>rw [eb] at e; cases e
  | ct _ _=>rw [eb] at e; cases e
  | ex _ _=>rw [eb] at e; cases e
  | no=>rw [eb] at e; cases e
def QoI (K:Frag) (mg:Str→Option Value) (c m qual:Str) (st:Stmt):Prop:=∃C f fd,mg c=some (.ref C)∧Cls K C∧QiW K C m f∧Fun K m qual st f fd
def Qjb (P:Program) (w:World) (K:Frag) (mg:Str→Option Value) (base:Heap) (c m:Str) (ps:List Str) (k:Nat) (sp:Sp):Prop :=
 ∃C f fd,mg c=some (.ref C)∧Cls K C∧QiW K C m f∧Binds K fd ps []∧QbB P w K mg base CX0 k f fd ps sp
def QoG (P:Program) (w:World) (K:Frag) (mg:Str→Option Value) (base:Heap) (c:Str) (ps:List Str) (k:Nat) (sp:Sp):Prop :=
 ∃C f fd,mg c=some (.ref C)∧Mk K C f∧Binds K fd ps []∧QbB P w K mg base CX0 k f fd ps sp
def QoZ (K:Frag) (mg:Str→Option Value) (c qual:Str) (st:Stmt):Prop:=∃C f fd,mg c=some (.ref C)∧Mk K C f∧Fun K "__init__" qual st f fd
theorem QtW {c x qual:Str}{st:Stmt}{N ps:List Str}{k:Nat} (Df:QoI K mg c x qual st) (S:QaO N ps (Qao st))
  (hb:∀(kV doc pm:Value) (an:Option Addr) (cdv ct:Value) (us:List Value),us.length=ps.length→bindArgs (PySem.W.fnOf x qual (QbU st) (Qa8 st) (Qao st) .none kV doc pm an cdv ct) ⟨us,[]⟩=pure (ps.zip us))
  (pm lm:List Md) {R:RR}{b:MS} (hR:QdB R) (hR0:∀N H F as,R N H F as .non .non) (hpl:pm.length=ps.length:=by rfl) (hl:(pm++lm).length=N.length:=by rfl) (hp:∀m∈pm,m≠.o:=by decide)
  (body:∀(f:Addr) (cdv:Value) (A:Around) (outer:List Env) (s:Shared) (H:Hp) (E:XK),QaR k (A.deeper (envOfC qual (Qao st) s.heap.objs.size f cdv))→∀P,VSs ((QcS CX0 Pr w K mg base N qual (Qao st) f cdv A outer s H E).nox) (pm++lm) P R (Qa8 st) b) :
  Qjb Pr w K mg base c x ps (k+1) (vSp K mg pm R (Qbw N.length b)):=by
 obtain ⟨C,f,fd,h1,h2,h3,h4⟩:=Df;exact ⟨C,f,fd,h1,h2,h3,h4.binds hb,QuZ h4 S pm lm hR hR0 hpl hl hp (body f)⟩
end
section
variable {X:Cx}{md:List Md}{P:Pt}{R:RR}{k:Nat}{c m:Str}{ps:List Str}{p pos apos:Pos}{o e:Expr}{es:List Expr}{pm:List Md}{cf:List D→Qae→Res D}{mo:M D}{ma:M (List D)}
def Qhz (c m:Str) (cf:List D→Qae→Res D) (mo:M D) (ma:M (List D)):M D:=fun ρ O=>(mo ρ O).bind fun d O1=>match d with
 | .ob n=>match O1[n]? with
  | some (.ins c' fs)=>if c'=c∧(fs.lookup m).isNone=true then (ma ρ O1).bind fun ds O2=>cf (.ob n::ds) O2 else .no
  | _=>.no
 | _=>.no
theorem Qqo {K:Frag}{mg:Str→Option Value}{C:Addr} (hR:QdB R) (hC:mg c=some (.ref C)) {E:XK}{σ:St}{H:Hp}{Q:VK} (q:tM K mg md P R (Qhz c m cf mo ma) σ H Q) :
  QpA C m (vSp K mg (.v::pm) R cf) [] E (tM K mg md P (rV K) mo) (tMA K mg md P pm ma) σ H Q:=by
 obtain ⟨ρ,O,F,as,d,O',r,s,e,k⟩:=q;obtain ⟨x,O1,e1,e⟩:=Res.bind_ok e
 cases x with
 | ob n =>
  dsimp only at e;split at e
  ·rename_i c' fs eo;split at e
   ·rename_i hc;obtain ⟨ds,O2,e2,e⟩:=Res.bind_ok e;refine ⟨ρ,O,F,as,.ob n,O1,r,s,e1,fun v H1 F1 as1 g1 r1 hv=>?_⟩;obtain ⟨a,rfl,ha⟩:=Rp.unO hv;obtain ⟨C',dx,gs,h1,h2,h3⟩:=r1.ob n a _ ha eo;rw [hc.1,hC] at h1; cases h1;refine ⟨a,dx,gs,rfl,h2,h3.no (Option.isNone_iff_eq_none.mp hc.2),?_⟩;refine ⟨ρ,O1,F1,as1,ds,O2,r1,s.step g1,e2,fun vs H2 F2 as2 g2 r2 hvs=>?_⟩;dsimp only;rw [zL];exact ⟨.ob n::ds,O2,F2,as2,d,O',r2,⟨Rp.gr hv g2,hvs⟩,e,fun v' H' F' as' g' r' hw=>k v' H' F' as' ((g1.trans g2).trans g') r' (hR _ _ _ _ _ _ _ (fun b hb=>(g1.trans g2).dm b hb) hw)⟩
   ·cases e
  ·cases e
 | _=>cases e
theorem QoU {pl:Sem Bool} (hR:QdB R) (M:Qjb X.prog X.w X.K X.mg X.base c m ps k (vSp X.K X.mg [.v] R cf)) (hr:QaR k X.A) (ho:VE X md P o mo)
  (ht:eval (.Call (.Attribute o m apos) [] [] pos) X.env=(do
   let ov ←eval o X.env
   standAt apos.atName
   let (f,first) ←holding [ov] (getMethod ov m pl)
   callWith pos f first (backTo pos (starEach [] X.env)) (backToKw pos (keywordEach [] X.env))):=by rfl) :
  PE X (.Call (.Attribute o m apos) [] [] pos) (tM X.K X.mg md P R (Qhz c m cf mo Qaf)):=by
 obtain ⟨C,f,fd,h1,h2,h3,h4,h5⟩:=M
 refine (Qpj (pl:=pl) (E:=E0) (ds:=[]) (dvs:=[]) ho h2 h3 h5 hr h4 .nil Qmy ht).imp fun σ H Q q=>?_
 obtain ⟨ρ,O,F,as,d,O',r,s,e,k⟩:=Qqo (pm:=[]) (E:=E0) hR h1 q;refine ⟨ρ,O,F,as,d,O',r,s,e,fun v H' F' as' g r' hv=>?_⟩;obtain ⟨a,dx,fs,e1,e2,e3,t⟩:=k v H' F' as' g r' hv;refine ⟨a,dx,fs,e1,e2,e3,?_⟩;obtain ⟨ρ1,O1,F1,as1,ds1,O2,r1,s1,e4,k4⟩:=t;cases e4;exact k4 [] H' F1 as1 Gr.refl r1 trivial
def Qgj (c:Str) (cf:List D→Qae→Res D) (ma:M (List D)):M D:=fun ρ O=>(ma ρ O).bind fun ds O1=>match cf (.ob O1.length::ds) (O1 ++ [.ins c []]) with
 | .ok .non O2=>.ok (.ob O1.length) O2
 | .ok _ _=>.no
 | .ex x O2=>.ex x O2
 | .no=>.no
theorem QqL {K:Frag}{mg:Str→Option Value}{C:Addr} (hC:mg c=some (.ref C)) {E:XK}{σ:St}{H:Hp}{Q:VK} (q:tM K mg md P (rV K) (Qgj c cf ma) σ H Q) :
  Qpz C (vSp K mg (.v::pm) (rV K) cf) [] E (tMA K mg md P pm ma) σ H Q:=by
 obtain ⟨ρ,O,F,as,d,O',r,s,e,k⟩:=q;obtain ⟨ds,O1,e1,e⟩:=Res.bind_ok e;split at e
 ·rename_i O2 ec;cases e;refine ⟨ρ,O,F,as,ds,O1,r,s,e1,fun vs H1 F1 as1 g1 r1 hvs=>?_⟩;intro x dx hx hdx hne;rw [zL]
  have hx2:upd H1 dx (.own x) x=none:=by rw [Qan hne.symm]; exact hx
  have gA:Gr H1 F1 as1 (upd H1 dx (.own x)) F1 as1:=Gr.lay hdx;have gB:Gr (upd H1 dx (.own x)) F1 as1 (upd (upd H1 dx (.own x)) x (.ins C dx [])) F1 as1:=Gr.lay hx2;have gC:Gr (upd (upd H1 dx (.own x)) x (.ins C dx [])) F1 as1 (upd (upd H1 dx (.own x)) x (.ins C dx [])) F1 as1:=Gr.refl;have gAB:=gA.trans gB;have g2:Gr H1 F1 as1 (upd (upd H1 dx (.own x)) x (.ins C dx [])) F1 (as1 ++ [x]):=⟨gAB.fz,gAB.ff,⟨[x],rfl,fun a ha=>by rw [zt.mp ha]; exact hx⟩,fun a o e ha hd=>gAB.fr a o e ha hd,gAB.dm,gAB.kz⟩
  have nx:x∉as1:=fun z=>r1.all z hx
  have rB:=(r1.lay (o:=.own x) hdx).lay (o:=.ins C dx []) hx2
  have at_:∀(n:Nat) (a:Addr),as1[n]? = some a→(as1 ++ [x])[n]? = some a:=fun n a h=>by
   rw [zu (zn.mp h).1]; exact h
  have r2:RlO K mg (O1 ++ [.ins c []]) (upd (upd H1 dx (.own x)) x (.ins C dx [])) F1 (as1 ++ [x]):=by
   refine ⟨rB.fh,rB.fd,?_,by simp [r1.len],fun a ha=>?_,fun n a o ha ho=>?_⟩
   ·rw [jk];refine ⟨r1.nd,by simp,fun a ha b hb=>?_⟩;rw [zt.mp hb];intro z;subst z;exact nx ha
   ·rcases zA.mp ha with z | z
    ·exact r1.fa a z
    ·rw [zt.mp z];exact r1.frF hx
   ·by_cases hn:n < O1.length
    ·rw [zu (by rw [r1.len]; exact hn)] at ha;rw [zu hn] at ho;exact (rB.ob n a o ha ho).keep rfl (Same.refl _) at_
    ·have hn':n=O1.length:=by
      have:=(zn.mp ho).1
      simp at this
      omega
     subst hn';rw [zw (zc _),Nat.sub_self] at ho;rw [←r1.len,zw (zc _),Nat.sub_self] at ha;cases ho;cases ha;exact ⟨C,dx,[],hC,QaE,⟨rfl,Rps.nil⟩⟩
  have hox:Rp K F1 (as1 ++ [x]) (.ref x) (.ob O1.length):=Rp.mkO (by rw [←r1.len,zw (zc _),Nat.sub_self]; rfl);refine ⟨.ob O1.length::ds,_,F1,as1 ++ [x],.non,_,r2,⟨hox,hvs.gr g2⟩,ec,fun v H3 F3 as3 g3 r3 hv=>?_⟩;exact ⟨Rp.unN hv,k _ H3 F3 as3 ((g1.trans g2).trans g3) r3 (Rp.gr hox g3)⟩
 ·cases e
 ·cases e
 ·cases e
theorem Qrf (M:QoG X.prog X.w X.K X.mg X.base c ps k (vSp X.K X.mg (.v::pm) (rV X.K) cf)) (hr:QaR (k+1) X.A) (ha:AE X md P pm (e::es) ma) (hg:Gl X c:=by rfl) (hdb:(c == ("__debug__":Str))=false:=by decide)
  (he:starEach (e::es) X.env=(false,eval e X.env)::starEach es X.env:=by exact Qbq rfl) (hpl:(backTo pos (starEach es X.env)).any (·.1)=false:=by exact QbL rfl):VE X md P (.Call (.Name c p) (e::es) [] pos) (Qgj c cf ma):=by
 obtain ⟨C,f,fd,h1,h3,h4,h5⟩:=M
 exact (QqT (E:=E0) (ds:=[]) (dvs:=[]) h3 h5 hr hg h1 h4 .nil Qmy ha hdb he hpl).imp fun _ _ _ q=>QqL h1 q
end
section
variable {X:Cx}{md:List Md}{P:Pt}{R:RR}
def Qgy:D→Option (List D)
 | .lst ds=>some ds
 | .tup ds=>some ds
 | .str l=>if ascii l=true then some (Qcj l) else none
 | _=>none
def Qb8 (m:M D):M (List D):=fun ρ O=>(m ρ O).bind fun d O1=>match Qgy d with
 | some ds=>.ok ds O1
 | none=>.no
theorem Qmk {e:Expr}{m:M D} (h:WE X md P e m):SE X md P e m:=h.imp fun σ H Q q=>by
 obtain ⟨ρ,O,F,as,d,O',r,s,e,k⟩:=q;refine ⟨ρ,O,F,as,d,O',r,s,e,fun v H' F' as' g r' hv=>k v H' F' as' g r' ?_⟩
 rcases hv with hv | ⟨a,xs,ds,e1,e2,e3,e4,e5,e6⟩
 ·exact .inl hv
 ·exact .inr ⟨a,xs,ds,e1,e2,e3,e4,e6⟩
theorem Qsr {tg e:Expr}{m:M D} (h:WE X md P e m):VI X md P tg e (Qb8 m):=fun pins s σ H Q I q=>by
 obtain ⟨ρ,O,F,as,ds,O',r,sl,e,k⟩:=q;obtain ⟨d,O1,e1,e⟩:=Res.bind_ok e
 cases d with
 | lst es =>
  cases e;exact Qqx h pins s σ H Q I ⟨ρ,O,F,as,_,_,r,sl,by unfold QjU; rw [e1]; rfl,k⟩
 | tup es =>
  cases e;exact QnB (Qej (Qmk h)) pins s σ H Q I ⟨ρ,O,F,as,_,_,r,sl,by unfold Ql0 mG; rw [e1]; rfl,k⟩
 | str l =>
  simp only [Qgy] at e;split at e
  ·rename_i es hes;split at hes
   ·rename_i hl;cases hes;cases e;refine Qnh (Qmk h) pins s σ H Q I ⟨ρ,O,F,as,Qcj l,_,r,sl,?_,k⟩;unfold QmA;rw [e1];show (if ascii l=true then _ else _)=_;rw [if_pos hl]
   ·cases hes
  ·cases e
 | _=>cases e
theorem Qom {tg e:Expr}{m:M D} (h:SE X md P e m):VIc X md P tg e (QjU m):=(Qle h).imp fun σ H Q q=>by
 obtain ⟨ρ,O,F,as,ds,O',r,s,e,k⟩:=q;obtain ⟨d,O1,e1,e⟩:=Res.bind_ok e
 cases d with
 | lst es =>
  cases e;refine ⟨ρ,_,F,as,_,_,r,s,e1,fun v H1 F1 as1 g1 r1 hv=>?_⟩
  obtain ⟨a,xs,rfl,h1,h2⟩:∃a xs,v = .ref a∧Rps X.K F1 as1 xs ds∧∀(H2 F2:Hp) (as2:List Addr),Gr H1 F1 as1 H2 F2 as2→(∃O,RlO X.K X.mg O H2 F2 as2)→RdK X.K H2 a xs:=by
   rcases hv with hv | ⟨a,xs,ds',rfl,e,e3,e4,e6⟩
   ·obtain ⟨a,xs,rfl,h1,h2⟩:=hv.unL;exact ⟨a,xs,rfl,h2,fun H2 F2 as2 g ⟨O,r⟩=>(h1.mono g.ff).mono r.fh⟩
   ·cases e;exact ⟨a,xs,rfl,e6,fun H2 F2 as2 g _=>.inl (.inl (g.fr _ _ e3 e4 rfl))⟩
  refine ⟨a,rfl,⟨xs,(h2 H1 F1 as1 Gr.refl ⟨_,r1⟩).sq⟩,k _ H1 F1 as1 g1 r1 ⟨fun i d H2 F2 as2 g r e=>?_,fun H2 F2 as2 g r=>⟨xs,(h2 H2 F2 as2 g r).sq,by rw [h1.length]; exact zc _⟩⟩⟩;obtain ⟨x,h3,h4⟩:=h1.get' e;have q:=h2 H2 F2 as2 g r;refine ⟨⟨xs,x,q.sq,h3⟩,fun y H3 hy=>?_⟩;obtain ⟨rfl,hy⟩:=hy
  have:=hy xs q.sq
  rw [h3] at this;cases this;exact ⟨F2,Gr.refl,fun _ r=>r,h4.gr g⟩
 | _=>cases e
theorem Qgi {tg e:Expr}{m:M D} (h:SE X md P e m):VIc X md P tg e (Qb8 m):=fun pins s σ H Q I q=>by
 obtain ⟨ρ,O,F,as,ds,O',r,sl,e,k⟩:=q;obtain ⟨d,O1,e1,e⟩:=Res.bind_ok e
 cases d with
 | lst es =>
  cases e;exact Qom h pins s σ H Q I ⟨ρ,O,F,as,_,_,r,sl,by unfold QjU; rw [e1]; rfl,k⟩
 | tup es =>
  cases e;exact QkH (QnB (Qej h)) pins s σ H Q I ⟨ρ,O,F,as,_,_,r,sl,by unfold Ql0 mG; rw [e1]; rfl,k⟩
 | str l =>
  simp only [Qgy] at e;split at e
  ·rename_i es hes;split at hes
   ·rename_i hl;cases hes;cases e;refine QkH (Qnh h) pins s σ H Q I ⟨ρ,O,F,as,Qcj l,_,r,sl,?_,k⟩;unfold QmA;rw [e1];show (if ascii l=true then _ else _)=_;rw [if_pos hl]
   ·cases hes
  ·cases e
 | _=>cases e
def QhH (m:M D):M (List D):=fun ρ O=>(m ρ O).bind fun d O1=>match d with
 | .lst ds=>.ok (Qb9 0 ds) O1
 | .str l=>if ascii l=true then .ok (Qb9 0 (Qcj l)) O1 else .no
 | _=>.no
variable {elts:List Expr}{x1:Nat}{tpos:Pos}
theorem Qqb {a:Expr}{p pos:Pos}{m:M D} (hm:X.mg "enumerate" = none) (h:WE X md P a m) (hg:Gl X "enumerate":=by rfl) (hs:starEach [a] X.env = [(false,eval a X.env)]:=by exact QhG rfl) (hs':starEach [a] X.env=(false,eval a X.env)::starEach [] X.env:=by exact Qbq rfl) :
  VI X md P (.Tuple elts x1 tpos) (.Call (.Name "enumerate" p) [a] [] pos) (QhH m):=fun pins s σ H Q I q=>by
 obtain ⟨ρ,O,F,as,ds,O',r,sl,e,k⟩:=q;obtain ⟨d,O1,e1,e⟩:=Res.bind_ok e
 cases d with
 | lst es =>
  cases e;exact QoR hm h hg hs hs' pins s σ H Q I ⟨ρ,O,F,as,_,_,r,sl,by unfold QmZ; rw [e1]; rfl,k⟩
 | str l=>exact Qop hm (Qmk h) hg hs hs' pins s σ H Q I ⟨ρ,O,F,as,ds,O',r,sl,by unfold Qnv; rw [e1]; exact e,k⟩
 | _=>cases e
def Pt.with (P:Pt) (a:Addr) (i:Nat) (d:D) (l:List (Nat×V×D)):Pt:=⟨fun c=>P c∨c=a,(i,.ref a,d)::(l++P.ss)⟩
end
theorem Qm1 {P:Program}{w:World}{K:PySem.W.Frag}{mg mb:Str→Option Value}{CX:CXT}{k:Nat}{fa a:Addr}{fd:FuncData}{x:Str}{sp:Sp}{s₁:Shared}{vs:List Value}{ns:List Int}
  (KX:K.In s₁.heap) (hns:s₁.heap.Ns mainGlobals mg) (hb:s₁.heap.Ns builtinsNs mb) (hbb:∀x:Str,x≠"__name__"→mb x=bootBuiltins x) (hlim:s₁.heap.NoLimit) (hg:s₁.gens = #[])
  (ha:s₁.heap.get? a=some { cls:=.type "list",data:=.seq vs.toArray }) (hi:IntsAre vs ns) (hl:ns.length≤sizeLine) (hr:QaR k callerA)
  (F:∀base:Heap,K.In base→base.Ns mainGlobals mg→QbB P w K mg base CX k fa fd [x] sp) (hbind:∀(s:Shared) (u:Value),BindsTo s fd ⟨[u],[]⟩ [(x,u)])
  (hsp:∀H:Hp,Qh6 H→RdK K H a (ns.map V.int)→sp [.ref a] H (fun v _=>v = .bl true) fun _ _ _=>False)
  (hCX:∀H e s',CX [] H s₁ (fun _ _ _=>False) e s'→False) :
  codeAny (model P w) callerA (.call (.ref fa) ⟨[.ref a],[]⟩) (fun r s'=>r = .ok (.ret (.bool true))∧OldK s₁.heap s'.heap∧s'.os=s₁.os∧AllBare s'.gens) s₁:=by
 have rv:=Qhp hi;have lenV:=hi.length;have core:∀H:Hp,Qh6 H→RdK K H a (ns.map V.int)→HOk P w H s₁.heap→(∀b,H b≠none→b=a)→(H a≠none→K.lookup a=none) →
   codeAny (model P w) callerA (.call (.ref fa) ⟨[.ref a],[]⟩) (fun r s'=>r = .ok (.ret (.bool true))∧OldK s₁.heap s'.heap∧s'.os=s₁.os∧AllBare s'.gens) s₁:=by
  intro H hO hS hok hA hK
  have base_of:∀{b:Addr}{o:Obj},s₁.heap.get? b=some o→H b=none→(QdV s₁.heap H).get? b=some o:=fun e n=>QkQ e n
  have noA:∀{b:Addr}{o:Obj}{es:Array DictEntry}{ep:Nat},s₁.heap.get? b=some o→o.data = .dict es ep→H b=none:=fun {b o es ep} e d=>by
   cases q:H b with
   | none=>rfl
   | some u =>
    have e':b=a:=hA b (by rw [q]; simp);subst e';rw [ha] at e; cases e;have d':Data.seq vs.toArray _=Data.dict es ep:=d;cases d'
  have nsK:∀{b:Addr}{m:Str→Option Value},s₁.heap.Ns b m→(QdV s₁.heap H).Ns b m:=fun {b m} ⟨o,es,ep,e,d,r⟩=>⟨o,es,ep,base_of e (noA e d),d,r⟩
  have hKb:K.In (QdV s₁.heap H):=fun b o e=>base_of (KX b o e) (by
   cases q:H b with
   | none=>rfl
   | some u =>
    have e':b=a:=hA b (by rw [q]; simp);subst e'
    rw [hK (by rw [q]; simp)] at e; cases e)
  have hM:Mod K mg (QdV s₁.heap H):=⟨hKb,nsK hns,⟨mb,nsK hb,hbb⟩,let ⟨mc,h1,h2⟩:=hlim; ⟨mc,nsK h1,h2⟩⟩;have e0:QeH P w K mg (QdV s₁.heap H) callerA [] s₁ H:=⟨rfl,hM,fun b o e=>QlF e,Nat.le_of_eq (Qjr _ _),trivial,fun b hb=>absurd (show b∈([]:List Addr) from hb) (by simp),hok,.of_eq hg⟩
  refine codeAny_mono ((F _ hKb (nsK hns)).run callerA [] s₁ H ⟨[.ref a],[]⟩ [.ref a] [.ref a] _ _ hr e0 (hbind s₁ (.ref a)) (.cons rfl .nil) (hsp H hO hS)) fun r s' h=>?_
  cases r with
  | error e=>exact (hCX H e s' h).elim
  | ok fl =>
   cases fl with
   | next=>exact False.elim h
   | brk=>exact False.elim h
   | cont=>exact False.elim h
   | ret u =>
    obtain ⟨v,H',os,bare,un,hok',r',q⟩:=h;have q':v = .bl true:=q;subst q';obtain rfl:u=Value.bool true:=r';refine ⟨rfl,OldK.of_keep fun b o e=>?_,os,bare⟩
    cases q:H b with
    | none=>exact un.keep b o e q (by intro z; exact absurd (show b∈([]:List Addr) from z) (by simp)) (by simp)
    | some u =>
     rcases hO b with z | ⟨ob,xs,z⟩
     ·rw [q] at z; cases z
     ·have z2:=un.frzs b ob _ z;obtain ⟨e1,_⟩:=hok b _ z;obtain ⟨e2,_⟩:=hok' b _ z2;rw [e] at e1; cases e1;exact e2
 cases hk:K.lookup a with
 | some o =>
  have e:=KX a o hk;rw [ha] at e;cases e
  refine core (fun _=>none) (fun _=>.inl rfl) (.inr ⟨vs,_,hk,by rw [lenV]; exact hl,rv⟩) (fun b u z=>by have z':(none:Option HO)=some u:=z; cases z') (fun b z=>absurd rfl z) fun z=>absurd rfl z
 | none =>
  refine core (fun b=>if b=a then some (.frz { cls:=.type "list",data:=.seq vs.toArray } (.lst (ns.map V.int))) else none) (fun b=>?_) (.inl (.inr ⟨{ cls:=.type "list",data:=.seq vs.toArray },if_pos rfl⟩)) (fun b u z=>?_) (fun b z=>?_) fun _=>hk
  ·by_cases hb:b=a
   ·exact .inr ⟨_,_,if_pos hb⟩
   ·exact .inl (if_neg hb)
  ·by_cases hb:b=a
   ·have z':=(if_pos hb).symm.trans z;cases z';subst hb;exact ⟨ha,by rw [zo]; exact hl,vs,_,rv,ha⟩
   ·have z':=(if_neg hb).symm.trans z;cases z'
  ·by_cases hb:b=a
   ·exact hb
   ·exact absurd (if_neg hb) z
theorem walk_ofR {l:PySem.W.OpenLaw}{n k:Nat}{q:Program}{loose:List Str}{XP:(Str→Option Value)→Heap→Prop}{YP:World→Heap→Prop}{d:DefRec}{K:Params→PySem.W.Frag}{CX:World→CXT}{sp:World→Sp}{x:Str}
  (hn:l.most=some n) (hn2:n≤sizeLine) (hdf:d.params.defaults = []) (hr:QaR k callerA)
  (hY:∀(w:World) (h:Heap),YP w h→(K w.params).In h)
  (F:∀(w:World) (mg:Str→Option Value) (fa:Addr) (h:Heap),(K w.params).In h→h.Ns mainGlobals mg→mg d.name=some (.ref fa) →
   ∃fd:FuncData,(∀(s:Shared) (u:Value),BindsTo s fd ⟨[u],[]⟩ [(x,u)]) ∧
    ∀base:Heap,(K w.params).In base→base.Ns mainGlobals mg→QbB l.prog w (K w.params) mg base (CX w) k fa fd [x] (sp w))
  (hsp:∀(w:World) (H:Hp) (a:Addr) (ns:List Int),ns.length≤n→Qh6 H→RdK (K w.params) H a (ns.map V.int)→sp w [.ref a] H (fun v _=>v = .bl true) fun _ _ _=>False)
  (hCX:∀(w:World) (H:Hp) (s:Shared) (e:Value) (s':Shared),CX w [] H s (fun _ _ _=>False) e s'→False) :
  PySem.W.WalkO q loose XP YP l.row.toRowW d [] (fun f vs=>PySem.call f vs):=by
 refine Att.attach_call hn hdf fun w s₀ s₁ mg mb fa o pm cd doc a vs ns G Y ho hd hcd hmg hobj hints hlen hg=>?_
 have KX:=hY w _ Y;obtain ⟨fd,hb,hF⟩:=F w mg fa _ KX G.T.g hmg
 exact Qm1 KX G.T.g G.T.b G.T.builtins G.T.nolimit hg hobj hints (zz hlen hn2) hr hF hb (fun H hO hS=>hsp w H a ns hlen hO hS) fun H e s'=>hCX w H s₁ e s'
theorem Qg4 {K:Frag}{mg:Str→Option Value}{f:Str}:∀c∈([]:List Str),KC K mg c f:=fun _ h=>nomatch h
theorem Qgg {K:Frag}{mg:Str→Option Value}{f c:Str}{cs:List Str} (h:KC K mg c f) (hr:∀c∈cs,KC K mg c f):∀c'∈c::cs,KC K mg c' f:=fun c' hc=>by
 rcases zj.mp hc with rfl | hc
 ·exact h
 ·exact hr c' hc
def sp_law (K:Frag):Sp:=fun vs H Q _=>∃(a:Addr) (ns:List Int),vs = [.ref a]∧RdK K H a (ns.map V.int)∧ns.length≤63∧Qh6 H∧∀H',Q (.bl true) H'
theorem Rps.ofInts {K:Frag}{F:Hp}{as:List Addr}:∀ns:List Int,Rps K F as (ns.map V.int) (ns.map D.int)
 | []=>Rps.nil
 | n::ns=>Rps.cons Rp.int (Rps.ofInts ns)
theorem QqJ {K:Frag}{mg:Str→Option Value}{c:List D→Qae→Res D} (h:∀ns:List Int,ns.length≤63→∃O',c [.lst (ns.map D.int)] [] = .ok (.bl true) O'):∀vs H Q E,sp_law K vs H Q E→vSp K mg [.s] (rV K) c vs H Q E:=by
 rintro vs H Q E ⟨a,ns,rfl,hS,hl,hO,q⟩;obtain ⟨O',e⟩:=h ns hl
 have r:RlO K mg [] H H []:=⟨Same.refl H,fun b o e=>by
  rcases hO b with z | ⟨o',xs,z⟩
  ·rw [e] at z; cases z
  ·rw [e] at z; cases z; rfl,List.nodup_nil,rfl,(fun _ z=>nomatch z),fun n b o z=>by cases z⟩
 refine ⟨[.lst (ns.map D.int)],[],H,[],.bl true,O',r,⟨.inl (Rp.mkL hS (Rps.ofInts ns)),trivial⟩,e,fun v H' F' as' g r' hv=>?_⟩;rw [Rp.unB hv];exact q H'
def keyOf:D→Option Key
 | .int i=>some (.inl i)
 | .str l=>some (.inr (S l))
 | _=>none
theorem Qri {d:D}{k:Key} (h:keyOf d=some k):Qhd k=d:=by
 cases d with
 | int i=>cases h; rfl
 | str l=>cases h; show D.str (S l).cps.toList=_; rw [QgK]
 | _=>cases h
theorem Rp.key {K:Frag}{F:Hp}{as:List Addr}{v:V}{d:D}{k:Key} (h:Rp K F as v d) (e:keyOf d=some k):v=kV k:=by
 cases d with
 | int i=>cases e; exact h.unI
 | str l=>cases e; exact h.unS
 | _=>cases e
section
variable {X:Cx}{md:List Md}{P:Pt}
theorem Qrc {pos:Pos}:VE X md P (.Dict [] [] pos) (mC (.dic [] [])):=QkO.imp fun σ H Q q=>by
 obtain ⟨ρ,O,F,as,d,O',r,s,e,k⟩:=q;cases e;intro p hp;have hF:=r.frF hp;refine k _ _ (upd F p (.dK [])) as ((Gr.lay hp).frz hp hF) ((r.lay hp).frz QaE hF (fun z=>r.all z hp) rfl) ?_;show Rp X.K _ _ _ _;rw [Rp];exact ⟨p,[],rfl,QaE,rfl,Rps.nil⟩
def Prs (K:Frag) (F:Hp) (as:List Addr):List (V×V)→List (D×D)→Prop
 | [],[]=>True
 | p::ps,d::ds=>Rp K F as p.1 d.1∧Rp K F as p.2 d.2∧Prs K F as ps ds
 | _,_=>False
def DPE (X:Cx) (md:List Md) (P:Pt) (pos:Pos) (keys:List (Option Expr)) (values:List Expr) (m:M (List (D×D))):Prop:=∃trs:List (TE×TE),
 PPs X pos keys values trs∧∀σ H Q,(∃ρ O F as kv O',RlO X.K X.mg O H F as∧SlO X.K md P ρ σ H F as∧m ρ O = .ok kv O'∧∀ps H' F' as',Gr H F as H' F' as'→RlO X.K X.mg O' H' F' as'→Prs X.K F' as' ps kv→Q ps H')→Qkb trs σ H Q
def QtS:M (List (D×D)):=fun _ O=>.ok [] O
def QrH (mk mv:M D) (r:M (List (D×D))):M (List (D×D)):=fun ρ O=>(mk ρ O).bind fun a O1=>(mv ρ O1).bind fun b O2=>(r ρ O2).bind fun ps O3=>.ok ((a,b)::ps) O3
def keysOf:List (D×D)→Option (List Key)
 | []=>some []
 | (a,_)::r=>(keyOf a).bind fun k=>(keysOf r).map (k :: ·)
theorem Prs.kvs {K:Frag}{F:Hp}{as:List Addr}:∀{kv:List (D×D)}{ps:List (V×V)}{ks:List Key},Prs K F as ps kv→keysOf kv=some ks →
  ∃kvs:List (Key×V),ps=kvs.map (fun p=>(kV p.1,p.2))∧kvs.map (·.1)=ks∧kv.map (·.1)=kvs.map (fun p=>Qhd p.1)∧Rps K F as (kvs.map (·.2)) (kv.map (·.2))
 | [],ps,ks,h,e=>by
  cases ps with
  | nil=>cases e; exact ⟨[],rfl,rfl,rfl,Rps.nil⟩
  | cons _ _=>exact h.elim
 | (a,b)::kv,ps,ks,h,e=>by
  cases ps with
  | nil=>exact h.elim
  | cons p ps =>
   obtain ⟨p1,p2⟩:=p;unfold keysOf at e
   cases ea:keyOf a with
   | none=>rw [ea] at e; cases e
   | some k =>
    rw [ea] at e
    cases er:keysOf kv with
    | none=>rw [er] at e; cases e
    | some ks' =>
     rw [er] at e;cases e;obtain ⟨kvs,h1,h2,h3,h4⟩:=Prs.kvs h.2.2 er;refine ⟨(k,p2)::kvs,?_,?_,?_,Rps.cons h.2.1 h4⟩
     ·rw [ze,←h1]
      have:p1=kV k:=Rp.key h.1 ea
      rw [this]
     ·rw [ze,h2]
     ·rw [ze,ze,h3,Qri ea]
def Qug (m:M (List (D×D))):M D:=fun ρ O=>(m ρ O).bind fun kv O1=>match keysOf kv with
 | some ks=>if ks.Nodup∧kv.length≤15 then .ok (.dic (kv.map (·.1)) (kv.map (·.2))) O1 else .no
 | none=>.no
theorem Prs.length {K:Frag}{F:Hp}{as:List Addr}:∀{kv:List (D×D)}{ps:List (V×V)},Prs K F as ps kv→ps.length=kv.length
 | [],[],_=>rfl
 | _::kv,_::ps,h=>by simp [Prs.length h.2.2]
 | [],_::_,h=>h.elim
 | _::_,[],h=>h.elim
end
section
variable {X:Cx}{md:List Md}{P:Pt}{k:Nat}{c x m:Str}{ps:List Str}{p pos apos:Pos}{o e:Expr}{es:List Expr}{pm:List Md}{cf:List D→Qae→Res D}{mo:M D}{ma:M (List D)}
theorem QaJ (C:Can X.prog X.w X.K X.mg X.base x ps k (vSp X.K X.mg pm (rV X.K) cf)) (hr:QaR k X.A) (ha:AE X md P pm (e::es) ma) (hg:Gl X x:=by rfl) (hdb:(x == ("__debug__":Str))=false:=by decide) (he:starEach (e::es) X.env=(false,eval e X.env)::starEach es X.env:=by exact Qbq rfl) (hpl:(backTo pos (starEach es X.env)).any (·.1)=false:=by exact QbL rfl) :
  VE X md P (.Call (.Name x p) (e::es) [] pos) (Qax cf ma):=Qly QbF C hr ha hg hdb he hpl
theorem QqQ (C:Can X.prog X.w X.K X.mg X.base x ps k (vSp X.K X.mg pm (rO X.K) cf)) (hr:QaR k X.A) (ha:AE X md P pm (e::es) ma) (hg:Gl X x:=by rfl) (hdb:(x == ("__debug__":Str))=false:=by decide) (he:starEach (e::es) X.env=(false,eval e X.env)::starEach es X.env:=by exact Qbq rfl) (hpl:(backTo pos (starEach es X.env)).any (·.1)=false:=by exact QbL rfl) :
  OE X md P (.Call (.Name x p) (e::es) [] pos) (Qax cf ma):=Qly Qes C hr ha hg hdb he hpl
theorem QoC {pl:Sem Bool} (M:Qjb X.prog X.w X.K X.mg X.base c m ps k (vSp X.K X.mg [.v] (rO X.K) cf)) (hr:QaR k X.A) (ho:VE X md P o mo)
  (ht:eval (.Call (.Attribute o m apos) [] [] pos) X.env=(do
   let ov ←eval o X.env
   standAt apos.atName
   let (f,first) ←holding [ov] (getMethod ov m pl)
   callWith pos f first (backTo pos (starEach [] X.env)) (backToKw pos (keywordEach [] X.env))):=by rfl):OE X md P (.Call (.Attribute o m apos) [] [] pos) (Qhz c m cf mo Qaf):=QoU Qes M hr ho ht
end
section
variable {X:Cx}{md:List Md}{P:Pt}{R:RR}{elts:List Expr}{x1:Nat}{tpos:Pos}
def QlS:List D→List D→List D
 | d::ds,e::es=>.tup [d,e]::QlS ds es
 | _,_=>[]
def QsC (ma mb:M D):M (List D):=fun ρ O=>(ma ρ O).bind fun d O1=>(mb ρ O1).bind fun e O2=>match d,e with
 | .lst ds,.lst es=>.ok (QlS ds es) O2
 | _,_=>.no
def Qj8 (m:MS):MS:=fun ρ O=>match m ρ O with
 | .rt d O'=>.rt d O'
 | _=>.no
theorem SlO.toV {K:Frag}{ρ:Qam}{σ:St}{H F F':Hp}{as:List Addr}{i:Nat} (s:SlO K md P ρ σ H F as) (hm:md[i]? = some .o) (ff:Same F F')
  (hown:∀(j:Nat) (ds:List D) (a:Addr),j≠i→md[j]? = some .o→ρ[j]? = some (some (.lst ds))→σ[j]? = some (some (.ref a))→F' a=F a)
  (hv:∀d,ρ[i]? = some (some d)→∃v,σ[i]? = some (some v)∧Rp K F' as v d):SlO K (md.set i .v) P ρ σ H F' as:=by
 have hi:i < md.length:=(zn.mp hm).1
 have back:∀(j:Nat),(md.set i Md.v)[j]? = some Md.o→j≠i∧md[j]? = some .o:=fun j e=>by
  by_cases hj:j=i
  ·subst hj;rw [zI hi] at e;cases e
  ·rw [zq (Ne.symm hj)] at e;exact ⟨hj,e⟩
 refine ⟨by rw [zM]; exact s.len,by rw [zM]; exact s.len',s.pd,fun j m d e1 e2=>?_,fun j k a ds es h1 h2 h3 h4 h5 h6=>s.inj j k a ds es (back j h1).2 (back k h2).2 h3 h4 h5 h6,fun x hx=>?_⟩
 ·by_cases hj:j=i
  ·subst hj;rw [zI hi] at e1;cases e1;exact hv d e2
  ·rw [zq (Ne.symm hj)] at e1;obtain ⟨v,q,t⟩:=s.sl j m d e1 e2;refine ⟨v,q,?_⟩
   cases m with
   | v=>exact Rp.mono ff (fun _ _ z=>z) _ t
   | s =>
    rcases t with t | ⟨a,xs,ds,t1,t2,t3,t4,t5,t6⟩
    ·exact .inl (Rp.mono ff (fun _ _ z=>z) _ t)
    ·exact .inr ⟨a,xs,ds,t1,t2,t3,t4,t5,Rps.mono ff (fun _ _ z=>z) _ t6⟩
   | o =>
    rcases t with ⟨t0,t⟩ | ⟨a,xs,ds,rfl,rfl,t3,t0,t4,t5,t6⟩
    ·exact .inl ⟨t0,Rp.mono ff (fun _ _ z=>z) _ t⟩
    ·exact .inr ⟨a,xs,ds,rfl,rfl,t3,by rw [hown j ds a hj e1 e2 q]; exact t0,t4,t5,Rps.mono ff (fun _ _ z=>z) _ t6⟩
 ·obtain ⟨p1,p2,p3⟩:=s.pin x hx
  have hne:i≠x.1:=fun z=>by rw [←z,hm] at p1; cases p1
  exact ⟨by rw [zq hne]; exact p1,p2,p3⟩
theorem QsT {K:Frag}{mg:Str→Option Value}{i:Nat}{m:MS} (hm:md[i]? = some .o) {D:Ends}{σ:St}{H:Hp} (q:tMS K mg md P R (Qj8 m) D σ H):tMS K mg (md.set i .v) P R m D σ H:=by
 obtain ⟨ρ,O,F,as,r,s,k⟩:=q;unfold Qj8 at k
 cases e:m ρ O with
 | rt d O' =>
  rw [e] at k
  by_cases hl:∃ds,ρ[i]? = some (some (.lst ds))
  ·obtain ⟨ds,hρ⟩:=hl;obtain ⟨a,xs,h1,h2,h3,h4,h5,h6⟩:=s.own hm hρ
   have ff:Same F (upd F a (.lst xs)):=fun b u q=>by rw [Qan (QaA q h3)]; exact q
   have g0:GrS P H F as H (upd F a (.lst xs)) as:=⟨fun c _ p _ _ _=>Qan (fun z=>h5 (by rw [←z]; exact p)),ff,⟨[],by simp,fun _ h=>nomatch h⟩,fun _ _ _ h _ _=>h,fun _ h=>h,fun _ _ _ h=>h⟩;refine ⟨ρ,O,upd F a (.lst xs),as,r.frz h2 h3 h4 rfl,s.toV hm ff (fun j es b hj m1 m2 m3=>?_) (fun d' hd'=>?_),?_⟩
   ·refine Qan fun z=>hj ?_
    rw [z] at m3;exact s.inj j i a es ds m1 hm m2 hρ m3 h1
   ·rw [hρ] at hd';cases hd';exact ⟨_,h1,Rp.mkL (.inl (.inl QaE)) (Rps.mono ff (fun _ _ z=>z) _ h6)⟩
   ·rw [e]
    exact fun v H' F' as' g r' hv=>k v H' F' as' (g0.trans g) r' hv
  ·refine ⟨ρ,O,F,as,r,s.toV hm (Same.refl F) (fun _ _ _ _ _ _ _=>rfl) (fun d' hd'=>?_),by rw [e]; exact k⟩;obtain ⟨v,h1,h2⟩:=s.sl i .o d' hm hd'
   rcases h2 with ⟨_,h2⟩ | ⟨a,xs,ds,_,rfl,_⟩
   ·exact ⟨v,h1,h2⟩
   ·exact absurd ⟨ds,hd'⟩ hl
 | _=>rw [e] at k; exact False.elim k
theorem QrR (i:Nat) {st:Stmt}{m:MS} (hm:md[i]? = some .o) (h:VS X (md.set i .v) P R st m):VS X md P R st (Qj8 m):=h.imp fun _ _ _=>QsT hm
end
section
variable {prog:Program}{w:World}{A:Around}{E:Value→Shared→Prop}
end
section
variable {X:Cx}{md:List Md}{P:Pt}{R:RR}
theorem Qp3 {as:List Addr}{a:Addr}:∀(n:Nat) (c:Addr),as[n]? = some c→(as ++ [a])[n]? = some c:=fun n c h=>by
 rw [zu (zn.mp h).1]; exact h
theorem QpZ {H F:Hp}{as:List Addr}{a:Addr}{h:HO} (ha:a∈as) (hh:H a=some h) {o:HO} (hf:∀o u,h≠.frz o u:=by intro _ _ z; cases z):Gr H F as (upd H a o) F as :=
 ⟨fun _ _ _ _ _=>rfl,Same.refl F,⟨[],by simp,fun _ h=>nomatch h⟩,fun c u e hn _=>by rw [Qan (fun z=>hn (by rw [z]; exact ha))]; exact e,fun c e=>by
  by_cases h:c=a
  ·subst h; rw [QaE] at e; cases e
  ·rwa [Qan h] at e,fun c o' u e=>by rw [Qan (fun z=>by rw [z,hh] at e; cases e; exact hf _ _ rfl)]; exact e⟩
theorem RlO.ml {K:Frag}{mg:Str→Option Value}{O:Qae}{H F:Hp}{as:List Addr}{n:Nat}{a:Addr}{ds:List D} (r:RlO K mg O H F as) (hn:as[n]? = some a) (hO:O[n]? = some (.ml ds)):∃xs,H a=some (.lst xs)∧Rps K F as xs ds:=r.ob n a _ hn hO
end
def QoO (K:Frag) (mg:Str→Option Value) (x:Str) (ls:List (List Nat)):Prop:=∃(a:Addr) (o:Obj) (its:Array Value) (n:Nat),mg x=some (.ref a)∧K.lookup a=some o∧o.cls = .type "tuple"∧o.data = .seq its n∧its.size≤sizeLine∧Qaz (ls.map fun l=>V.str (S l)) its.toList
theorem Rps.texts {K:Frag}{F:Hp}{as:List Addr}:∀ls:List (List Nat),Rps K F as (ls.map fun l=>V.str (S l)) (ls.map D.str)
 | []=>Rps.nil
 | l::ls=>Rps.cons Rp.str (Rps.texts ls)
theorem Qq6 {X:Cx}{md:List Md}{P:Pt}{x:Str}{ls:List (List Nat)}{pos:Pos} (h:QoO X.K X.mg x ls) (hg:Gl X x:=by rfl) (hdb:(x == ("__debug__":Str))=false:=by decide):VE X md P (.Name x pos) (mC (.tup (ls.map D.str))):=by
 obtain ⟨a,o,its,n,hm,hk,h1,h2,h3,h4⟩:=h
 refine (Qkz (v:=.ref a) ⟨_,hm,rfl⟩ hg hdb).imp fun σ H Q q=>?_
 obtain ⟨ρ,O,F,as,d,O',r,s,e,k⟩:=q;cases e;exact k _ H F as Gr.refl r (Rp.mkT (.inr ⟨o,its,n,hk,h1,h2,h3,h4⟩) (Rps.texts ls))
theorem Qcf {α:Type}{p:List α→Prop} (h:p []):∀us:List α,us.length=0→p us:=fun us e=>by
 cases us with
 | nil=>exact h
 | cons a as=>cases e
theorem QaN {α:Type}{p:List α→Prop}{n:Nat} (h:∀a,∀us:List α,us.length=n→p (a::us)):∀us:List α,us.length=n+1→p us:=fun us e=>by
 cases us with
 | nil=>cases e
 | cons a as=>exact h a as (Nat.succ.inj e)
section
variable {prog:Program}{w:World}{κ:Type} [DecidableEq κ] {knd:HeapKind prog w κ}{A:Around}{E:Value→Shared→Prop}{s:Shared}
end
section
variable {X:Cx}{pins:List (Addr×Obj)}{σ:St}{H:Hp}{s:Shared}{a b:Addr}{v:V}{r:Value}{kvs:List (List Key×V)}{k:List Key}{A:Around}{E:Value→Shared→Prop}
end
def Qml:List D→Option (List Key)
 | []=>some []
 | .int i::ds=>(Qml ds).map (Sum.inl i :: ·)
 | _=>none
theorem Rps.keys {K:Frag}{F:Hp}{as:List Addr}:∀{ds:List D}{xs:List V}{ks:List Key},Rps K F as xs ds→Qml ds=some ks→xs=ks.map kV∧∃is:List Int,ks=is.map Sum.inl
 | [],xs,ks,h,e=>by cases e; exact ⟨h.un0,[],rfl⟩
 | .int i::ds,xs,ks,h,e=>by
  obtain ⟨x,r,rfl,h1,h2⟩:=h.un;obtain ⟨ks',e1,rfl⟩:=Option.map_eq_some_iff.mp (show (Qml ds).map (Sum.inl i :: ·)=some ks from e);obtain ⟨q1,is,rfl⟩:=Rps.keys h2 e1;exact ⟨by rw [h1.unI,q1]; rfl,i::is,rfl⟩
 | .non::ds,xs,ks,h,e=>by cases e
 | .bl _::ds,xs,ks,h,e=>by cases e
 | .str _::ds,xs,ks,h,e=>by cases e
 | .lst _::ds,xs,ks,h,e=>by cases e
 | .tup _::ds,xs,ks,h,e=>by cases e
 | .dic _ _::ds,xs,ks,h,e=>by cases e
 | .ob _::ds,xs,ks,h,e=>by cases e
def Qi6 (kvs:List (List Key×D)) (k:List Key):Option D:=(kvs.find? fun p=>decide (p.1=k)).map (·.2)
def Qsy (kvs:List (List Key×D)) (k:List Key) (d:D):List (List Key×D) :=
 if (kvs.any fun p=>decide (p.1=k))=true then kvs.map (fun p=>if p.1=k then (p.1,d) else p) else kvs ++ [(k,d)]
def DtR (K:Frag) (F:Hp) (as:List Addr) (xs:List (List Key×V)) (kvs:List (List Key×D)):Prop:=xs.map (·.1)=kvs.map (·.1)∧Rps K F as (xs.map (·.2)) (kvs.map (·.2))
section
variable {K:Frag}{mg:Str→Option Value}{O:Qae}{H F H' F':Hp}{as as':List Addr}
theorem DtR.len {xs:List (List Key×V)}{kvs:List (List Key×D)} (h:DtR K F as xs kvs):xs.length=kvs.length:=by
 have:=congrArg List.length h.1
 simpa using this
theorem DtR.un {xs:List (List Key×V)}{p:List Key×D}{kvs:List (List Key×D)} (h:DtR K F as xs (p::kvs)):∃v r,xs=(p.1,v)::r∧Rp K F as v p.2∧DtR K F as r kvs:=by
 obtain ⟨h1,h2⟩:=h
 cases xs with
 | nil=>cases h1
 | cons x r =>
  obtain ⟨v,r',e,q1,q2⟩:=h2.un;cases e;rw [ze,ze] at h1;have q3:=(List.cons.inj h1).1;refine ⟨x.2,r,?_,q1,(List.cons.inj h1).2,q2⟩;rw [←q3]
theorem DtR.val {k:List Key}:∀{kvs:List (List Key×D)}{xs:List (List Key×V)},DtR K F as xs kvs→(Qi6 kvs k=none∧Qdk xs k=none)∨∃d v,Qi6 kvs k=some d∧Qdk xs k=some v∧Rp K F as v d
 | [],xs,h=>by
  have:=h.len
  cases xs with
  | nil=>exact .inl ⟨rfl,rfl⟩
  | cons=>cases this
 | p::kvs,xs,h=>by
  obtain ⟨v,r,rfl,h1,h2⟩:=h.un
  by_cases e:p.1=k
  ·exact .inr ⟨p.2,v,by simp [Qi6,List.find?_cons,e],Qfj e,h1⟩
  ·rw [show Qi6 (p::kvs) k=Qi6 kvs k by simp [Qi6,List.find?_cons,e],Qfo (p:=(p.1,v)) e];exact DtR.val h2
theorem DtR.any {k:List Key}:∀{kvs:List (List Key×D)}{xs:List (List Key×V)},DtR K F as xs kvs→(xs.any fun p=>decide (p.1=k))=kvs.any fun p=>decide (p.1=k)
 | [],xs,h=>by
  have:=h.len
  cases xs with
  | nil=>rfl
  | cons=>cases this
 | p::kvs,xs,h=>by
  obtain ⟨v,r,rfl,h1,h2⟩:=h.un;rw [List.any_cons,List.any_cons,DtR.any h2]
theorem DtR.repl {k:List Key}{v:V}{d:D} (hv:Rp K F as v d):∀{kvs:List (List Key×D)}{xs:List (List Key×V)},DtR K F as xs kvs →
  DtR K F as (xs.map fun p=>if p.1=k then (p.1,v) else p) (kvs.map fun p=>if p.1=k then (p.1,d) else p)
 | [],xs,h=>by
  have:=h.len
  cases xs with
  | nil=>exact ⟨rfl,Rps.nil⟩
  | cons=>cases this
 | p::kvs,xs,h=>by
  obtain ⟨u,r,rfl,h1,h2⟩:=h.un;obtain ⟨i1,i2⟩:=DtR.repl (k:=k) hv h2
  by_cases e:p.1=k
  ·rw [ze,ze,if_pos e,if_pos e];exact ⟨by rw [ze,ze,i1],Rps.cons hv i2⟩
  ·rw [ze,ze,if_neg e,if_neg e];exact ⟨by rw [ze,ze,i1],Rps.cons h1 i2⟩
theorem DtR.put {xs:List (List Key×V)}{kvs:List (List Key×D)} (h:DtR K F as xs kvs) (k:List Key) {v:V}{d:D} (hv:Rp K F as v d):DtR K F as (putK xs k v) (Qsy kvs k d):=by
 unfold putK Qsy;rw [h.any]
 split
 ·exact h.repl hv
 ·exact ⟨by rw [zF,zF,h.1]; rfl,by rw [zF,zF]; exact Rps.snoc h.2 hv⟩
theorem DtR.mono {xs:List (List Key×V)}{kvs:List (List Key×D)} (h:DtR K F as xs kvs) (e:Same F F') (ea:∀(n:Nat) (a:Addr),as[n]? = some a→as'[n]? = some a):DtR K F' as' xs kvs:=⟨h.1,Rps.mono e ea _ h.2⟩
theorem RlO.dt {n:Nat}{a:Addr}{kvs:List (List Key×D)} (r:RlO K mg O H F as) (hn:as[n]? = some a) (hO:O[n]? = some (.dt kvs)):∃xs,H a=some (.dT xs)∧DtR K F as xs kvs:=let ⟨xs,h1,h2,h3⟩:=r.ob n a _ hn hO; ⟨xs,h1,h2,h3⟩
theorem RlO.snocO {a:Addr}{o:Ob} (r:RlO K mg O H F as) (hF:F a=none) (ha:a∉as) (ho:ObR K mg H F (as ++ [a]) a o):RlO K mg (O ++ [o]) H F (as ++ [a]):=by
 refine ⟨r.fh,r.fd,jk.mpr ⟨r.nd,by simp,fun c hc d hd=>by rw [zt.mp hd]; exact fun z=>ha (z ▸ hc)⟩,by rw [zx,zx,r.len]; rfl,fun c hc=>?_,fun n c u hc hu=>?_⟩
 ·rcases zA.mp hc with hc | hc
  ·exact r.fa c hc
  ·rw [zt.mp hc]; exact hF
 ·by_cases hn:n < as.length
  ·rw [zu hn] at hc;rw [zu (by rw [←r.len]; exact hn)] at hu;exact (r.ob n c u hc hu).keep rfl (Same.refl F) Qp3
  ·have hn':n=as.length:=by
    have:=(zn.mp hc).1
    rw [zx,jg] at this;omega
   subst hn';rw [zw (zc _),Nat.sub_self] at hc;rw [r.len,zw (zc _),Nat.sub_self] at hu;cases hc;cases hu;exact ho
theorem RlO.mutG {n:Nat}{a:Addr}{o:Ob}{h:HO} (r:RlO K mg O H F as) (hn:as[n]? = some a) (hx:ObR K mg (upd H a h) F as a o):RlO K mg (O.set n o) (upd H a h) F as:=by
 have ha:=zP hn;refine ⟨fun c u e=>?_,r.fd,r.nd,by rw [zM]; exact r.len,r.fa,fun m c u hc hu=>?_⟩
 ·rw [Qan (fun z=>by rw [z,r.fa a ha] at e; cases e)]; exact r.fh c u e
 ·by_cases hm:m=n
  ·subst hm;rw [hn] at hc;cases hc
   have hlt:m < O.length:=by rw [←r.len]; exact (zn.mp hn).1
   rw [zI hlt] at hu;cases hu;exact hx
  ·rw [zq (Ne.symm hm)] at hu
   refine (r.ob m c u hc hu).keep (Qan fun z=>hm ?_) (Same.refl F) fun _ _ h=>h
   obtain ⟨q0,q1⟩:=zn.mp hc;obtain ⟨p0,p1⟩:=zn.mp hn;exact (List.getElem_inj r.nd).mp (q1.trans (z.trans p1.symm))
theorem RlO.unF {p:Addr} (r:RlO K mg O H F as) (hp:H p=none):F p=none:=by
 cases e:F p with
 | none=>rfl
 | some o=>rw [r.fh p o e] at hp; cases hp
theorem Gr.snoc {p:Addr}{o:HO} (hp:H p=none):Gr H F as (upd H p o) F (as ++ [p]) :=
 ⟨fun _ _ _ _ _=>rfl,Same.refl F,⟨[p],rfl,fun a h=>by rw [zt.mp h]; exact hp⟩,fun a u e _ _=>by rw [Qan (QaA e hp)]; exact e,fun a e=>by
  by_cases h:a=p
  ·subst h; exact hp
  ·rwa [Qan h] at e,fun a o' u e=>by rw [Qan (QaA e hp)]; exact e⟩
end
section
variable {X:Cx}{md:List Md}{P:Pt}{R:RR}
end
section
variable {X:Cx}
open Classical in
noncomputable def eqR (s:Shared) (x:PyData) (u:Value):Bool:=decide (∃d as,Reads s.heap u d as∧d.canLay0=true∧PyData.eqv d x=true)
open Classical in
theorem Qwg {s:Shared}{x d:PyData}{u:Value}{as:List Addr} (h:Reads s.heap u d as) (hd:d.canLay0=true):eqR s x u=PyData.eqv d x:=by
 unfold eqR
 cases e:PyData.eqv d x with
 | true=>exact zh ⟨d,as,h,hd,e⟩
 | false =>
  refine zm fun ⟨d',as',h',hd',e'⟩=>?_
  rw [←SeqAt.Reads.unique d d' u as as' hd h h',e] at e';cases e'
end
section
variable {X:Cx}{md:List Md}{P:Pt}{R:RR}
end
section
variable {K:Frag}{mg:Str→Option Value}{O:Qae}{H F:Hp}{as:List Addr}
end
section
variable {X:Cx}{md:List Md}{P:Pt}{R:RR}
end
section
variable {X:Cx}{md:List Md}{P:Pt}{R:RR}
end
end L2
namespace L2
open PySem PySem.Spec PyProof.Rows PySem.W PySem.Calls
section
variable {prog:Program}{w:World}{A:Around}{E:Value→Shared→Prop}{s:Shared}{a:Addr}{vs out:List Value}{p:Array Nat}
end
def Qmb {α:Type} (cmp:Nat→Nat→Bool→Prop):KasT α→α→Prop
 | .ret a,r=>r=a
 | .ask i j k,r=>∃b,cmp i j b∧Qmb cmp (k b) r
theorem Qmb.wp {α:Type}{cmp:Nat→Nat→Bool→Prop}{ask:Nat→Nat→(Bool→Shared→Prop)→Shared→Prop}{s:Shared} (hc:∀i j b,cmp i j b→∀C:Bool→Shared→Prop,C b s→ask i j C s) {G:α→Shared→Prop}{r:α} (hg:G r s):∀t:KasT α,Qmb cmp t r→t.kasWp ask G s
 | .ret a,h=>by
  cases (show r=a from h);exact hg
 | .ask i j k,h=>by
  obtain ⟨b,h1,h2⟩:=h;exact hc i j b h1 _ (Qmb.wp hc hg (k b) h2)
section
variable {X:Cx}
theorem Rps.getD {K:Frag}{F:Hp}{as:List Addr}{ds:List D}{xs:List V} (h:Rps K F as xs ds) (i:Nat):Rp K F as (xs.getD i V.non) (ds.getD i .non):=by
 rw [zO,zO]
 cases e:ds[i]? with
 | none =>
  have:xs[i]? = none:=by
   rw [List.getElem?_eq_none_iff] at e ⊢;rw [h.length];exact e
  rw [this];exact Rp.non
 | some d =>
  obtain ⟨v,hv,r⟩:=h.get' e;rw [hv];exact r
end
structure Qrt (mg:Str→Option Value):Prop extends Blt mg where
 sorted_:mg "sorted" = none
end L2
namespace L2
open PySem PySem.Spec PyProof.Rows
abbrev QsA (h:Heap) (z TI TO T:Addr) (b:Bool):Prop :=
 h.get? z=some { cls:=.type "zip",dict:=none,data:=.fields #[rawInt T,.bool b,.bool false,.ref TI,.ref TO],slots:=#[] }
section
variable {prog:Program}{w:World}{A:Around}{E:Value→Shared→Prop}{s:Shared}
structure ZS (base:Nat) (h:Heap) (z TI TO i1 i2 l1 l2 S:Addr) (xs ys acc:Array Value) (c i:Nat):Prop where
 zi:(IsZip h z TI TO .none∧∃a b,IsPair h TO a b)∨∃T b o,QsA h z TI TO T b∧h.get? T=some o∧T∉[z,TO,i1,i2,S]
 ti:IsPair h TI (.ref i1) (.ref i2)
 it1:h.IsListIter i1 l1 i
 it2:h.IsListIter i2 l2 i
 a1:h.IsList l1 xs
 a2:h.IsList l2 ys
 ls:h.get? S=some { cls:=.type "list",dict:=none,data:=.seq acc c,slots:=#[] }
 sz:acc.size=i
 tl:TO < h.objs.size
 nd:acc.toList.Nodup
 ts:∀(j:Nat) (v:Value),acc[j]? = some v→∃(T:Addr) (x y:Value),v=Value.ref T∧xs[j]? = some x∧ys[j]? = some y∧IsPair h T x y∧T∉[z,TO,i1,i2,S]∧base≤T
variable {R:PySem.Result→Shared→Prop}
end
theorem Un.more {fs ex:List Addr}{H H1:Hp}{h h':Heap}{a:Addr}{o:HO} (u:Un fs ex H H1 h h') (hp:h.objs.size≤a) (hn:H1 a=none):Un fs ex H (upd H1 a o) h h' where
 keep:=u.keep
 slot:=u.slot
 free:=fun b ob q n hx=>by rw [Qan (zl (zv (zd q) hp))]; exact u.free b ob q n hx
 there:=u.there
 tups:=fun b xs q=>by have z:=u.tups b xs q; rw [Qan (QaA z hn)]; exact z
 frzs:=fun b ob v q=>by have z:=u.frzs b ob v q; rw [Qan (QaA z hn)]; exact z
 tbls:=fun b ps q=>by obtain ⟨m,z⟩:=u.tbls b ps q; exact ⟨m,by rw [Qan (QaA z hn)]; exact z⟩
theorem HOk.more {P:Program}{w:World}{H:Hp}{h:Heap}{a:Addr}{o:HO} (x:HOk P w H h) (hn:H a=none) (new:Qbh P w (upd H a o) h a o):HOk P w (upd H a o) h:=fun b u e=>by
 by_cases hb:b=a
 ·subst hb; rw [QaE] at e; cases e; exact new
 ·rw [Qan hb] at e
  exact (x b u e).stay (fun c v _ q=>q) (fun c q=>by rw [Qan (QaA q hn)]; exact q) fun c xs q=>by rw [Qan (QaA q hn)]; exact q
theorem QjJ {α β:Type}{R:α→β→Prop}:∀(ps:List α) (vs:List β),ps.length=vs.length→(∀(j:Nat) p v,ps[j]? = some p→vs[j]? = some v→R p v)→Paired R ps vs
 | [],[],_,_=>.nil
 | [],_::_,h,_=>by cases h
 | _::_,[],h,_=>by cases h
 | p::ps,v::vs,h,f=>.cons (f 0 p v rfl rfl) (QjJ ps vs (Nat.succ.inj h) fun j p v a b=>f (j+1) p v a b)
section
variable {X:Cx}
end
section
variable {X:Cx}{md:List Md}{P:Pt}
end
section
end
end L2
namespace L2
open PySem PySem.Spec PyProof.Rows PySem.W
section
variable {X:Cx}{md:List Md}{P:Pt}
end
end L2
namespace L2
open PySem PySem.Spec PyProof.Rows
section
variable {X:Cx}{md:List Md}{P:Pt}{R:RR}
variable {elts:List Expr}{x1:Nat}{tpos:Pos}{a elt:Expr}{ifs:List Expr}{scope:Scope}{p pos pe:Pos}{m:M D}{g:MG}{t:M Bool}{e:M D}
end
section
variable {X:Cx}{md:List Md}{P:Pt}{R:RR}{tg:Expr}
end
structure QwI (mg:Str→Option Value):Prop extends Qrt mg where
 reversed_:mg "reversed" = none
end L2
namespace L2
open PySem PySem.Spec PyProof.Rows PySem.W
section
variable {prog:Program}{w:World}{A:Around}{E:Value→Shared→Prop}
end
section
variable {X:Cx}{md:List Md}{P:Pt}{R:RR}
end
section
variable {X:Cx}{tg:Expr}{md:List Md}{P:Pt}
end
section
variable {X:Cx}{pins:List (Addr×Obj)}{σ:List (Option V)}{H:Hp}{s:Shared}{a:Addr}{xs:List (List Key×V)}{o:Obj}
end
section
variable {prog:Program}{w:World}{A:Around}{E:Value→Shared→Prop}{s:Shared}
end
section
variable {K:Frag}{mg:Str→Option Value}{O:Qae}{H F:Hp}{as:List Addr}
theorem QiX:∀ks:List Key,Rps K F as (ks.map kV) (ks.map Qhd)
 | []=>Rps.nil
 | .inl i::ks=>Rps.cons (show Rp K F as (.int i) (.int i) from rfl) (QiX ks)
 | .inr x::ks=>Rps.cons (show Rp K F as (.str x) (.str x.cps.toList) from by
   show V.str x=V.str (S x.cps.toList)
   rw [show S x.cps.toList=x by cases x; simp [S]]) (QiX ks)
theorem RlO.df {n:Nat}{a:Addr}{kvs:List (List Key×D)} (r:RlO K mg O H F as) (hn:as[n]? = some a) (hO:O[n]? = some (.df kvs)):∃o xs,H a=some (.frz o (.dT xs))∧DtR K F as xs kvs:=let ⟨o,xs,h1,h2,h3⟩:=r.ob n a _ hn hO; ⟨o,xs,h1,h2,h3⟩
end
section
variable {X:Cx}{md:List Md}{P:Pt}{R:RR}
end
section
variable {K:Frag}{mg:Str→Option Value}{md:List Md}{P:Pt}{ρ:Qam}{σ:St}{O:Qae}{H F H' F':Hp}{as as':List Addr}
end
section
variable {X:Cx}{md:List Md}{P:Pt}{R:RR}
end
section
variable {X:Cx}{md:List Md}{P:Pt}{R:RR}
end
section
variable {prog:Program}{w:World}
end
section
variable {X:Cx}{md:List Md}{P:Pt}{R:RR}
end
def Qi2 (kvs:List (Key×D)) (k:Key):Option D:=(kvs.find? fun p=>decide (p.1=k)).map (·.2)
def QiY (kvs:List (Key×D)) (k:Key) (d:D):List (Key×D) :=
 if (kvs.any fun p=>decide (p.1=k))=true then kvs.map (fun p=>if p.1=k then (p.1,d) else p) else kvs ++ [(k,d)]
def DkR (K:Frag) (F:Hp) (as:List Addr) (xs:List (Key×V)) (kvs:List (Key×D)):Prop:=xs.map (·.1)=kvs.map (·.1)∧Rps K F as (xs.map (·.2)) (kvs.map (·.2))
section
variable {K:Frag}{mg:Str→Option Value}{O:Qae}{H F H' F':Hp}{as as':List Addr}
theorem DkR.len {xs:List (Key×V)}{kvs:List (Key×D)} (h:DkR K F as xs kvs):xs.length=kvs.length:=by
 have:=congrArg List.length h.1
 simpa using this
theorem DkR.un {xs:List (Key×V)}{p:Key×D}{kvs:List (Key×D)} (h:DkR K F as xs (p::kvs)):∃v r,xs=(p.1,v)::r∧Rp K F as v p.2∧DkR K F as r kvs:=by
 obtain ⟨h1,h2⟩:=h
 cases xs with
 | nil=>cases h1
 | cons x r =>
  obtain ⟨v,r',e,q1,q2⟩:=h2.un;cases e;rw [ze,ze] at h1;have q3:=(List.cons.inj h1).1;refine ⟨x.2,r,?_,q1,(List.cons.inj h1).2,q2⟩;rw [←q3]
theorem DkR.val {k:Key}:∀{kvs:List (Key×D)}{xs:List (Key×V)},DkR K F as xs kvs→(Qi2 kvs k=none∧Qdk xs k=none)∨∃d v,Qi2 kvs k=some d∧Qdk xs k=some v∧Rp K F as v d
 | [],xs,h=>by
  have:=h.len
  cases xs with
  | nil=>exact .inl ⟨rfl,rfl⟩
  | cons=>cases this
 | p::kvs,xs,h=>by
  obtain ⟨v,r,rfl,h1,h2⟩:=h.un
  by_cases e:p.1=k
  ·exact .inr ⟨p.2,v,by simp [Qi2,List.find?_cons,e],Qfj e,h1⟩
  ·rw [show Qi2 (p::kvs) k=Qi2 kvs k by simp [Qi2,List.find?_cons,e],Qfo (p:=(p.1,v)) e];exact DkR.val h2
theorem DkR.any {k:Key}:∀{kvs:List (Key×D)}{xs:List (Key×V)},DkR K F as xs kvs→(xs.any fun p=>decide (p.1=k))=kvs.any fun p=>decide (p.1=k)
 | [],xs,h=>by
  have:=h.len
  cases xs with
  | nil=>rfl
  | cons=>cases this
 | p::kvs,xs,h=>by
  obtain ⟨v,r,rfl,h1,h2⟩:=h.un;rw [List.any_cons,List.any_cons,DkR.any h2]
theorem DkR.repl {k:Key}{v:V}{d:D} (hv:Rp K F as v d):∀{kvs:List (Key×D)}{xs:List (Key×V)},DkR K F as xs kvs →
  DkR K F as (xs.map fun p=>if p.1=k then (p.1,v) else p) (kvs.map fun p=>if p.1=k then (p.1,d) else p)
 | [],xs,h=>by
  have:=h.len
  cases xs with
  | nil=>exact ⟨rfl,Rps.nil⟩
  | cons=>cases this
 | p::kvs,xs,h=>by
  obtain ⟨u,r,rfl,h1,h2⟩:=h.un;obtain ⟨i1,i2⟩:=DkR.repl (k:=k) hv h2
  by_cases e:p.1=k
  ·rw [ze,ze,if_pos e,if_pos e];exact ⟨by rw [ze,ze,i1],Rps.cons hv i2⟩
  ·rw [ze,ze,if_neg e,if_neg e];exact ⟨by rw [ze,ze,i1],Rps.cons h1 i2⟩
theorem DkR.put {xs:List (Key×V)}{kvs:List (Key×D)} (h:DkR K F as xs kvs) (k:Key) {v:V}{d:D} (hv:Rp K F as v d):DkR K F as (putK xs k v) (QiY kvs k d):=by
 unfold putK QiY;rw [h.any]
 split
 ·exact h.repl hv
 ·exact ⟨by rw [zF,zF,h.1]; rfl,by rw [zF,zF]; exact Rps.snoc h.2 hv⟩
theorem RlO.dk {n:Nat}{a:Addr}{kvs:List (Key×D)} (r:RlO K mg O H F as) (hn:as[n]? = some a) (hO:O[n]? = some (.dk kvs)):∃xs,H a=some (.dK xs)∧DkR K F as xs kvs:=let ⟨xs,h1,h2,h3⟩:=r.ob n a _ hn hO; ⟨xs,h1,h2,h3⟩
end
section
variable {X:Cx}{md:List Md}{P:Pt}{R:RR}
def Qir:M D:=fun _ O=>.ok (.ob O.length) (O ++ [.dk []])
theorem QoS {pos:Pos}:VE X md P (.Dict [] [] pos) Qir:=QkO.imp fun σ H Q q p hp=>by
 obtain ⟨ρ,O,F,as,d,O',r,s,e,k⟩:=q;cases e;refine k _ _ F (as ++ [p]) (Gr.snoc hp) ((r.lay hp).snocO (r.unF hp) (fun z=>r.all z hp) ⟨[],QaE,rfl,Rps.nil⟩) (Rp.mkO ?_);rw [←r.len,zw (zc _),Nat.sub_self];rfl
def Qf9 (mo my mv:M D):MS:=fun ρ O=>match mv ρ O with
 | .ok d O1=>match mo ρ O1 with
  | .ok (.ob n) O2=>match my ρ O2 with
   | .ok y O3=>match keyOf y,O3[n]? with
    | some k,some (.dk kvs)=>if kvs.length < 1000000 then .nx ρ (O3.set n (.dk (QiY kvs k d))) else .no
    | _,_=>.no
   | _=>.no
  | _=>.no
 | _=>.no
theorem Qqt {kk:Nat} (hr:QaR kk X.A) {o i value:Expr}{pos pos':Pos}{mo my mv:M D} (ho:VE X md P o mo) (hi:VE X md P i my) (hv:VE X md P value mv)
  (hs:swapsWith value (some (.Subscript o i pos')) pos.line X.env=pure false:=by rfl):VS X md P R (.Assign [.Subscript o i pos'] value pos) (Qf9 mo my mv) :=
 (Qqy (Qtm hr) ho hi hv hs).imp fun D σ H q=>by
  obtain ⟨ρ,O,F,as,r,s,k⟩:=q;unfold Qf9 at k;split at k
  ·rename_i d O1 e1;split at k
   ·rename_i n O2 e2;split at k
    ·rename_i y O3 e3;split at k
     ·rename_i ks kvs e4 e5;split at k
      ·rename_i hz;refine ⟨ρ,O,F,as,_,_,r,s,e1,fun v H1 F1 as1 g1 r1 hv=>⟨ρ,O1,F1,as1,_,_,r1,s.step g1,e2,fun x H2 F2 as2 g2 r2 hx=>⟨ρ,O2,F2,as2,_,_,r2,s.step (g1.trans g2),e3,fun u H3 F3 as3 g3 r3 hu=>?_⟩⟩⟩;obtain ⟨a,rfl,ha⟩:=Rp.unO hx;have ha3:=g3.at_ n a ha;obtain ⟨xs,x1,x2⟩:=r3.dk ha3 e5;have hkv:u=kV ks:=(show Rp X.K F3 as3 u y from hu).key e4;subst hkv;have hv3:=(show Rp X.K F1 as1 v d from hv).gr (g2.trans g3)
       have hl:xs.length < sizeLine:=by rw [x2.len]; exact zv hz (by decide)
       have g4:Gr H3 F3 as3 (upd H3 a (.dK (putK xs ks v))) F3 as3:=QpZ (zP ha3) x1;have gg:=((g1.trans g2).trans g3).trans g4;obtain ⟨z1,z2⟩:=x2.put ks hv3;exact ⟨a,_,rfl,Qh9.k x1 hl,k σ _ F3 as3 gg.toS (r3.mutG ha3 ⟨_,QaE,z1,z2⟩) (s.step gg)⟩
      ·exact False.elim k
     ·exact False.elim k
    ·exact False.elim k
   ·exact False.elim k
  ·exact False.elim k
end
theorem Rps.reverse {K:Frag}{F:Hp}{as:List Addr}:∀{ds:List D}{xs:List V},Rps K F as xs ds→Rps K F as xs.reverse ds.reverse
 | [],xs,h=>by rw [h.un0]; exact Rps.nil
 | d::ds,xs,h=>by
  obtain ⟨x,r,rfl,h1,h2⟩:=h.un;rw [List.reverse_cons,List.reverse_cons];exact Rps.snoc (Rps.reverse h2) h1
section
variable {X:Cx}{md:List Md}{P:Pt}{R:RR}
end
section
variable {X:Cx}{md:List Md}{P:Pt}{R:RR}
theorem Qet.int {K:Frag}{H F:Hp}{as:List Addr}{m:Md}{v:V}{a:Int} (h:Qet P K H F as m v (.int a)):v = .int a:=by
 cases m with
 | v=>exact (show Rp K F as v (.int a) from h).unI
 | s =>
  rcases h with h | ⟨_,_,_,_,h,_⟩
  ·exact h.unI
  ·cases h
 | o =>
  rcases h with ⟨_,h⟩ | ⟨_,_,_,_,h,_⟩
  ·exact h.unI
  ·cases h
end
end L2
namespace L2
open PySem PySem.Spec PyProof.Rows PySem.W PySem.Calls
def QeZ (ss:List Str) (x:Str):List Str:=if x∈ss then ss else ss ++ [x]
def QhE (es:Array (Int×Value)):List Str:=es.toList.map fun e=>strOf e.2
def Qmi (prog:Program) (w:World) (h:Heap) (a:Addr) (ss:List Str) (o:Obj) (es:Array (Int×Value)) (ep:Nat) (t:SetTable):Prop :=
 h.get? a=some o∧o.ExactSet∧o.data = .set es ep t∧ElemsOf (PySem.strKind prog w) es.toList∧(QhE es).Perm ss∧es.size < scanBound∧t.fits es.size=true∧(es.size=0∨t.plain=false)∧t.led = !w.params.followText "set-order"
def Qdn (prog:Program) (w:World) (h:Heap) (a:Addr) (ss:List Str):Prop:=∃o es ep t,Qmi prog w h a ss o es ep t
section
variable {prog:Program}{w:World}{A:Around}{E:Value→Shared→Prop}{s:Shared}{a:Addr}{ss:List Str}
theorem Qdn.at {h h':Heap} (x:Qdn prog w h a ss) (k:∀o,h.get? a=some o→h'.get? a=some o):Qdn prog w h' a ss :=
 let ⟨o,es,ep,t,h1,r⟩:=x; ⟨o,es,ep,t,k o h1,r⟩
theorem Qdn.len {h:Heap} (x:Qdn prog w h a ss):ss.length < scanBound:=by
 obtain ⟨o,es,ep,t,h1,h2,h3,h4,h5,h6,_⟩:=x;rw [←h5.length_eq];unfold QhE;rw [zo];exact h6
theorem Qk2 (t:SetTable) (es:Array (Int×Value)) (n:Nat) (h:t.plain=false):(relayAll t es n).2.1.plain=false:=by
 unfold relayAll
 split
 ·rename_i t' order e;dsimp only
  split
  ·unfold SetTable.relaid SetTable.laid at e
   cases q:SetTable.layClean (SetTable.sizeAbove n - 1) (Array.map (fun x=>x.fst) es) with
   | none=>rw [q] at e; cases e
   | some ow =>
    rw [q] at e;cases e;exact h
  ·rfl
 ·rfl
theorem Qof (t:SetTable) (es:Array (Int×Value)) (n:Nat):(relayAll t es n).2.1.led=t.led:=by
 unfold relayAll
 split
 ·rename_i t' order e;dsimp only
  split
  ·unfold SetTable.relaid SetTable.laid at e
   cases q:SetTable.layClean (SetTable.sizeAbove n - 1) (Array.map (fun x=>x.fst) es) with
   | none=>rw [q] at e; cases e
   | some ow =>
    rw [q] at e;cases e;rfl
  ·rfl
 ·rfl
theorem QnI (t:SetTable) (n:Nat):(t.orStandIn n).led=t.led:=by
 unfold SetTable.orStandIn
 split <;> rfl
theorem QqV (t:SetTable) (es:Array (Int×Value)) (h:Int) (x:Value):(layNew t es h x).2.1.led=t.led:=by
 unfold layNew
 split
 ·exact QnI _ _
 ·rfl
theorem QiH {h:Heap}{o:Obj}{es:Array (Int×Value)}{ep:Nat}{t:SetTable} (ho:h.get? a=some o) (hex:o.ExactSet) (hd:o.data = .set es ep t)
  {es':Array (Int×Value)}{t':SetTable} (hel:ElemsOf (PySem.strKind prog w) es'.toList) (hp:(QhE es').Perm ss) (hb:es'.size < scanBound) (hf:t'.fits es'.size=true) (hpl:t'.plain=false) (hled:t'.led = !w.params.followText "set-order") :
  (h.update a (Obj.putSet es' t')).get? a=some { o with data:=.set es' (ep+1) t' }∧Qdn prog w (h.update a (Obj.putSet es' t')) a ss:=by
 have hg:(h.update a (Obj.putSet es' t')).get? a=some { o with data:=.set es' (ep+1) t' }:=by
  have:=Heap.get?_update_self (Obj.putSet es' t') ho (by rw [putSet_of es' t' hd]; rfl)
  rw [putSet_of es' t' hd] at this; exact this
 exact ⟨hg,_,es',ep+1,t',hg,hex,rfl,hel,hp,hb,hf,.inr hpl,hled⟩
theorem Qjw {g:Bool→Sem Unit} (hg:∀(b:Bool) (s₁:Shared) (Q':Unit→Shared→Prop),Q' () s₁→wpAny (model prog w) A (g b) Q' E s₁)
  {o:Obj}{es:Array (Int×Value)}{ep:Nat}{t:SetTable} (ho:s.heap.get? a=some o) (hex:o.ExactSet) (hd:o.data = .set es ep t)
  {es1:Array (Int×Value)}{t2:SetTable} (hel1:ElemsOf (PySem.strKind prog w) es1.toList) (hp1:(QhE es1).Perm ss) (hb1:es1.size < scanBound) (hf2:t2.fits es1.size=true) (hpl:t2.plain=false) (hled:t2.led = !w.params.followText "set-order") {wasDummy:Bool}{R:Option Bool→Shared→Prop}
  (h:∀h',Heap.SameBut a s.heap h'→Qdn prog w h' a ss→R (some true) { s with heap:=h' }) :
  wpAny (model prog w) A (do
    storeSet a es1 t2
    if (!wasDummy&&t2.tooFull)=true then do
      g (relayAll t2 es1 (SetTable.grown es1.size)).2.2
      storeSet a (relayAll t2 es1 (SetTable.grown es1.size)).1 (relayAll t2 es1 (SetTable.grown es1.size)).2.1
      pure (some true)
     else pure (some true)) R E s:=by
 refine za (wpAny_storeSet_of ho hd ?_ (fits_of_scanBound hb1));obtain ⟨ho1,hS1⟩:=QiH (prog:=prog) (w:=w) ho hex hd hel1 hp1 hb1 hf2 hpl hled;have hsb1:=Heap.SameBut.update s.heap a (Obj.putSet es1 t2)
 split
 ·have hp:=relayAll_perm t2 es1 (SetTable.grown es1.size);have hfr:=relayAll_fits t2 es1 (SetTable.grown es1.size);have hpr:=Qk2 t2 es1 (SetTable.grown es1.size) hpl;have hlr:=Qof t2 es1 (SetTable.grown es1.size)
  generalize hRl:relayAll t2 es1 (SetTable.grown es1.size)=Rl at hp hfr hpr hlr ⊢
  obtain ⟨es2,t3,gave2⟩:=Rl;dsimp only at hp hfr hpr hlr ⊢;have hel2:ElemsOf (PySem.strKind prog w) es2.toList:=hel1.perm hp
  have hsz:es2.size=es1.size:=by rw [←Array.length_toList,hp.length_eq,Array.length_toList]
  have hb2:es2.size < scanBound:=by rw [hsz]; exact hb1
  refine za (hg _ _ _ ?_);refine za (wpAny_storeSet_of ho1 rfl ?_ (fits_of_scanBound hb2));obtain ⟨_,hS2⟩:=QiH (prog:=prog) (w:=w) ho1 hex rfl hel2 ((hp.map _).trans hp1) hb2 hfr hpr (hlr.trans hled);exact zb (h _ (hsb1.trans (Heap.SameBut.update _ a _)) hS2)
 ·exact zb (h _ hsb1 hS1)
theorem Qoy {x:Str}{tk:Tok}{Q:Bool→Shared→Prop} (hS:Qdn prog w s.heap a ss) (hroom:ss.length+1 < scanBound)
  (h:∀h' b,Heap.SameBut a s.heap h'→Qdn prog w h' a (QeZ ss x)→Q b { s with heap:=h' }) :
  wpAny (model prog w) A (setAddHashed a (.str x tk) ((PySem.strKind prog w).hash x)) Q E s:=by
 obtain ⟨o,es,ep,t,ho,hex,hd,hel,hp,hb,hf,hpl,hled⟩:=hS
 have hkey:(PySem.strKind prog w).is x (.str x tk)=true:=by
  show Value.isStrOf x (.str x tk)=true;simp [Value.isStrOf]
 have hlen:es.size=ss.length:=by rw [←hp.length_eq]; unfold QhE; rw [zo,Array.length_toList]
 have hb1:es.size+1 < scanBound:=by rw [hlen]; exact hroom
 have hsc:(Value.str x tk).scannable=true:=rfl
 have key:∀e∈es.toList,∀y,(PySem.strKind prog w).is y e.2=true↔strOf e.2=y:=fun e he y=>by
  obtain ⟨⟨k,hk,_⟩,_⟩:=hel e he;obtain ⟨t',ht⟩:=Value.isStrOf_shape hk;rw [ht];show Value.isStrOf y (.str k t')=true↔k=y;simp [Value.isStrOf]
 unfold setAddHashed setAddHashedIn;refine zC (za (wpAny_setState_of ho hd hf ?_));dsimp only;rw [byScan_of hsc hb hel];simp only [↓reduceIte];unfold setAddByScan;refine za ?_;refine za (zT ?_);refine za (wpAny_setScan_of hkey ho hd hf hel ?_)
 cases hr:List.findIdx? (fun e=>(PySem.strKind prog w).is x e.2) es.toList with
 | some j =>
  dsimp only;obtain ⟨hj,hpj,_⟩:=List.findIdx?_eq_some_iff_getElem.mp hr;have hx:x∈ss:=hp.mem_iff.mp (zU.mpr ⟨es.toList[j],jd hj,(key _ (jd hj) x).mp hpj⟩);refine zb (zb ?_)
  have e:s = { s with heap:=s.heap }:=by cases s; rfl
  rw [e];exact h s.heap _ (Heap.SameBut.refl a s.heap) ⟨o,es,ep,t,ho,hex,hd,hel,by rw [QeZ,if_pos hx]; exact hp,hb,hf,hpl,hled⟩
 | none =>
  dsimp only
  have hx:x∉ss:=fun hx=>by
   obtain ⟨e,he,q⟩:=zU.mp (hp.mem_iff.mpr hx)
   have:=List.findIdx?_eq_none_iff.mp hr e he
   rw [(key e he x).mpr q] at this;exact Bool.noConfusion this
  have hgw:∀(b:Bool) {s₁:Shared}{Q':Unit→Shared→Prop},Q' () s₁→wpAny (model prog w) A (match b with | true=>rule "set.scan.the-table-gave-way" | false=>pure ()) Q' E s₁ :=
   fun b s₁ Q' hq=>by cases b <;> first | exact zb hq | exact zT hq
  have hperm:=layNew_perm t es ((PySem.strKind prog w).hash x) (.str x tk);have hfits:=layNew_fits t es ((PySem.strKind prog w).hash x) (.str x tk);have hll:=QqV t es ((PySem.strKind prog w).hash x) (.str x tk)
  generalize hL:layNew t es ((PySem.strKind prog w).hash x) (.str x tk)=L at hperm hfits hll ⊢
  obtain ⟨es1,t1,wasDummy,gave⟩:=L;dsimp only at hperm hfits hll ⊢;rw [Array.toList_push] at hperm;have hel1:ElemsOf (PySem.strKind prog w) es1.toList:=(hel.push hkey hsc).perm hperm
  have hp1:(QhE es1).Perm (QeZ ss x):=by
   rw [QeZ,if_neg hx];refine (hperm.map fun e=>strOf e.2).trans ?_;rw [zF];exact hp.append_right _
  have hb1':es1.size < scanBound:=by rw [←Array.length_toList,hperm.length_eq,zx,Array.length_toList]; simpa using hb1
  refine za (hgw _ ?_)
  split
  ·refine za ?_;refine za (m:=hashByValue 8 (.str x tk)) (zb ?_);refine zb ?_;simp only [Bool.false_eq_true,↓reduceIte];refine Qjw (t2:={ t1 with plain:=false }) ?_ ho hex hd hel1 hp1 hb1' (SetTable.fits_plain_off hfits) rfl (hll.trans hled) ?_
   ·intro b s₁ Q' hq; cases b <;> first | exact zb hq | exact zT hq
   ·intro h' hsb hS'; dsimp only; exact zb (h h' _ hsb hS')
  ·rename_i hnp;refine za (zb ?_);simp only [↓reduceIte];refine Qjw ?_ ho hex hd hel1 hp1 hb1' hfits (by simpa using hnp) (hll.trans hled) ?_
   ·intro b s₁ Q' hq; cases b <;> first | exact zb hq | exact zT hq
   ·intro h' hsb hS'; dsimp only; exact zb (h h' _ hsb hS')
theorem isS (x:Str) (t:Tok):(PySem.strKind prog w).is x (.str x t)=true:=by
 show Value.isStrOf x (.str x t)=true;simp [Value.isStrOf]
theorem map_getD (ns:List Str):(List.range' 0 ns.length).map (fun i=>ns.getD i ⟨#[]⟩)=ns:=by
 apply List.ext_getElem
 ·simp
 ·intro i h1 h2;simp [zO,h2]
theorem Qns {R:Result→Shared→Prop}{I:Addr}{fp wr:List Addr}{G:Array GenState→Array GenState→Prop}{n:Nat}{P:Nat→Value→Prop}{St:Nat→Shared→Prop} (W:WalksS prog w A.in1 I fp wr G n P St) (S:Addr) (hSf:S∉fp)
  (val:Nat→Str) (hval:∀i v,P i v→∃t,v = .str (val i) t) (hb:n+1 < scanBound) :
  ∀(k i:Nat) (s:Shared) (ss:List Str),n - i=k→i≤n→St i s→ss.length≤i→Qdn prog w s.heap S ss →
   (∀s',Moved (S::wr) G s s'→Qdn prog w s'.heap S (((List.range' i (n - i)).map val).foldl QeZ ss)→R (.ok (.ret .none)) s') →
   codeAny (model prog w) A (.builtin "set.update.loop" ⟨[.ref S,.ref I],[]⟩) R s:=by
 have hSw:S∉wr:=fun h=>hSf (W.sub _ h)
 have hsub:∀b∈wr,b∈S::wr:=fun b hb=>zE _ hb
 intro k
 induction k with
 | zero =>
  intro i s ss hk hi hst hle hS hR
  have hin:i=n:=by omega
  subst hin;refine jj PyProof.Rows.F.entry_set_update_loop ?_;rw [Around.under_plainId PyProof.Rows.F.plain_set_update_loop _];show wpAny _ A.in1 (pyNext (.ref I) >>= _) _ _ s;refine za (W.done s _ _ hst fun s' hm=>?_);show wpAny _ A.in1 (ret Value.none) _ _ s';refine zb (hR s' (hm.mono hsub) ?_);rw [Nat.sub_self]
  exact hS.at fun o e=>hm.heap S _ hSw e
 | succ k ih =>
  intro i s ss hk hi hst hle hS hR
  have hlt:i < n:=by omega
  refine jj PyProof.Rows.F.entry_set_update_loop ?_;rw [Around.under_plainId PyProof.Rows.F.plain_set_update_loop _];show wpAny _ A.in1 (pyNext (.ref I) >>= _) _ _ s;refine za (W.item i s _ _ hlt hst fun v s' hP hst' hm=>?_);obtain ⟨t,rfl⟩:=hval i v hP
  have hS':Qdn prog w s'.heap S ss:=hS.at fun o e=>hm.heap S _ hSw e
  show wpAny _ A.in1 (holding [Value.str (val i) t] (setAdd S (.str (val i) t)) >>= _) _ _ s';refine za (zC ?_);unfold setAdd;refine zC ?_;refine za ((PySem.strKind prog w).pyHash (k:=val i) (isS _ _) ?_)
  refine Qoy (s:={ s' with toks:=s'.toks+1 }) hS' (by omega) fun h' b hsb hS2=>?_
  refine zb ⟨plainId_quiet PyProof.Rows.F.plain_set_update_loop _,ih (i+1) _ (QeZ ss (val i)) (by omega) hlt (W.frame _ s' _ _ hst' (Nat.le_succ _) fun b hb o e=>?_) ?_ hS2 fun s'' hm'' hS''=>?_⟩
  ·rw [hsb.2 b (fun h:b=S=>hSf (by rw [←h]; exact hb))]; exact e
  ·unfold QeZ
   split
   ·omega
   ·rw [zx,jg]; omega
  ·refine hR s'' (Moved.trans W.gtrans ((hm.mono hsub).then_heap (Nat.le_succ _) fun b o hb e=>?_) hm'') ?_
   ·rw [hsb.2 b (fun h:b=S=>hb (by rw [h]; exact zK))]; exact e
   ·rw [show n - i=(n - (i+1))+1 by omega,List.range'_succ,ze,List.foldl_cons];exact hS''
theorem QoH (x:Value) {Q₁:Value→Shared→Prop}
  (h:Q₁ (.ref s.heap.objs.size) { s with heap:=s.heap.push { cls:=.type "set",dict:=none,data:=.set #[] 0 (.fresh 0 0 (!w.params.followText "set-order")) } }) :
  codeAny (model prog w) A (.call (.builtin "set.__new__") ⟨[.type "set",x],[]⟩) (wants Q₁ E) s:=by
 refine codeAny_of_tree ?_;show wpAny _ A.in1 (do checkBuiltinCall "set.__new__" ⟨[.type "set",x],[]⟩; again (.builtin "set.__new__" ⟨[.type "set",x],[]⟩)) _ _ s;refine za (zW (PySem.F.newCall_set_1 x) (zb ⟨plainId_quiet PySem.F.plain_set_new _,jj PySem.F.entry_set_new ?_⟩));rw [Around.under_plainId PySem.F.plain_set_new _];unfold Builtin.«set.__new__» Builtin.Frozenset.newClass;have hsub:=sub_set_self;obtain ⟨hp,g,d,tk,os⟩:=s;dsimp only
 wp_walk
 refine wpAny_askSetting (zb ?_);dsimp only;simp only [newObj];refine za (wpAny_alloc (zb ?_));exact zb h
theorem Qn2 {h:Heap}:Qdn prog w (h.push { cls:=.type "set",dict:=none,data:=.set #[] 0 (.fresh 0 0 (!w.params.followText "set-order")) }) h.objs.size [] :=
 ⟨_,#[],0,_,zD _ rfl,⟨rfl,rfl,rfl⟩,rfl,fun e he=>by simp at he,.nil,by decide,by rfl,.inl rfl,rfl⟩
set_option maxHeartbeats 8000000 in
theorem Qp0 {l:Addr}{items:Array Value}{ns:List Str}{Q:Value→Shared→Prop}
  (hh:A.handled=none) (hl:s.heap.IsList l items) (hi:StrsAre items.toList ns) (hb:items.size+1 < scanBound)
  (h:∀(h':Heap) (tk:Nat),Qdn prog w h' s.heap.objs.size (ns.foldl QeZ []) →
   (∀b o,s.heap.get? b=some o→h'.get? b=some o)→Q (.ref s.heap.objs.size) { s with heap:=h',toks:=tk }) :
  wpAny (model prog w) A (call (.type "set") [.ref l]) Q E s:=by
 obtain ⟨c,tl,hmro⟩:=PySem.F.called_set.mro;have hmade:=PySem.F.called_set.made;have hsub:=PySem.F.called_set.sub;refine zR (codeAny_of_tree ?_);show wpAny _ _ (callAny (.type "set") _) _ _ _;refine zb ⟨Code.quiet_builtin _ (by decide +kernel),jj PySem.F.entry_type_call ?_⟩;rw [Around.under_plain (weight_type_call_type "set" [.ref l] []) rfl];have h1:=PySem.F.called_set.notType;have h2:=PySem.F.called_set.canCreate;have hct:=PySem.F.typeCall_set_1 (.ref l)
 repeat (any_goals (first | assumption | wp_step))
 generalize hO:({ cls:=.type "set",dict:=none,data:=.set #[] 0 (.fresh 0 0 (!w.params.followText "set-order")) }:Obj)=O0
 refine codeAny_mono (QoH (.ref l) (E:=E) (Q₁:=fun obj s₁=>obj = .ref s.heap.objs.size∧s₁ = { s with heap:=s.heap.push O0 }) (by rw [hO]; exact ⟨rfl,rfl⟩)) fun r s₁ hr=>?_
 cases r with
 | error e=>exact hr
 | ok fl =>
  cases fl with
  | ret obj =>
   obtain ⟨rfl,rfl⟩:=hr
   have hfr:Qdn prog w (s.heap.push O0) s.heap.objs.size []:=by rw [←hO]; exact Qn2
   have hS:(s.heap.push O0).get? s.heap.objs.size=some O0:=by rw [←hO]; exact zD _ rfl
   have hcls:O0.cls = .type "set":=by rw [←hO]
   have hdat:O0.data = .set #[] 0 (.fresh 0 0 (!w.params.followText "set-order")):=by rw [←hO]
   have hT:Shared.TypeIs { s with heap:=s.heap.push O0 } (.ref s.heap.objs.size) "set":=⟨_,hS,hcls⟩;have hli:=PySem.F.called_set.init.lookup;have hbi:=PySem.F.called_set.init.bind (.ref s.heap.objs.size)
   repeat (any_goals (first | assumption | wp_step))
   refine codeAny_mono (codeAny_call_builtin (R:=wants (fun r s₂=>r = .none∧∃h' tk,s₂ = { s with heap:=h',toks:=tk } ∧
     Qdn prog w h' s.heap.objs.size (ns.foldl QeZ []) ∧
     (∀b o,s.heap.get? b=some o→h'.get? b=some o)) E) PySem.F.called_set.init.plain PySem.F.entry_set_init (check_set_init_1 hT ?_)) fun r₂ s₂ hr₂=>?_
   ·subst hO;obtain ⟨ol,hol,hcl,nl,hdl⟩:=hl;obtain ⟨ocls,odict,odata,oslots⟩:=ol;simp only at hcl hdl;subst hcl; subst hdl;have hol':(s.heap.push { cls:=.type "set",dict:=none,data:=.set #[] 0 (.fresh 0 0 (!w.params.followText "set-order")) }).get? l=some { cls:=.type "list",dict:=odict,data:=.seq items nl,slots:=oslots }:=zf _ hol;have hsls:=PySem.F.sub_list_set;have hslf:=PySem.F.sub_list_frozenset
    have hne:(Value.type "list" == Value.type "dict")=false:=by decide
    have hl1:(s.heap.push { cls:=.type "set",dict:=none,data:=.set #[] 0 (.fresh 0 0 (!w.params.followText "set-order")) }).IsList l items:=⟨_,hol',rfl,nl,rfl⟩;unfold Builtin.«set.__init__» noKeywords Builtin.Frozenset.updateFrom
    generalize hPI:pyIter=PI
    wp_walk
    subst hPI;refine wpAny_pyIter_list hl1 ?_;refine za (wpAny_runValue ?_);have hlS:l < s.heap.objs.size:=zd hol
    have hh3:A.in1.in1.in1.handled=none:=by simp [hh]
    have hneI:l≠(s.heap.push { cls:=.type "set",dict:=none,data:=.set #[] 0 (.fresh 0 0 (!w.params.followText "set-order")) }).objs.size:=by
     rw [Heap.size_push]; exact zl (Nat.lt_succ_of_lt hlS)
    have hSf:s.heap.objs.size∉[(s.heap.push { cls:=.type "set",dict:=none,data:=.set #[] 0 (.fresh 0 0 (!w.params.followText "set-order")) }).objs.size,l]:=by
     rw [Heap.size_push]; simp only [zj,zt,List.not_mem_nil,or_false,not_or];exact ⟨zl (jf _),Nat.ne_of_gt hlS⟩
    have hnl:ns.length=items.size:=by rw [←hi.strs,zo,Array.length_toList]
    have hval:∀(i:Nat) (v:Value),items[i]? = some v→∃t,v = .str ((fun i=>ns.getD i ⟨#[]⟩) i) t:=fun i v hv=>by
     have hv':items.toList[i]? = some v:=by rw [Array.getElem?_toList]; exact hv
     obtain ⟨x,t,rfl⟩:=hi.all v (zP hv');refine ⟨t,?_⟩
     have hm:(items.toList.map strOf)[i]? = some x:=by rw [zB,hv']; rfl
     rw [hi.strs] at hm;show Value.str x t=Value.str (ns.getD i ⟨#[]⟩) t;rw [zO,hm];rfl
    refine Qns ((Walks.list hh3 _ l hneI items).toS) s.heap.objs.size
     hSf (fun i=>ns.getD i ⟨#[]⟩) hval hb (items.size - 0) 0 _ [] (by omega) (Nat.zero_le _)
     ⟨⟨_,zD _ rfl,rfl,rfl⟩,(hl1.push _)⟩ (zc _) (Qn2.at fun o e=>zf _ e) ?hR
    intro s' hm hS';rw [Nat.sub_zero,←hnl] at hS';rw [map_getD] at hS';obtain ⟨h',g',d',tk',os'⟩:=s';have eg:g'=s.gens:=hm.gens;have ed:d'=s.drawn:=hm.drawn;have eo:os'=s.os:=hm.os;subst eg; subst ed; subst eo;show wpAny _ _ _ _ _ _;refine zb ?_;show wpAny _ _ (ret Value.none) _ _ _;refine zb ⟨rfl,h',tk',rfl,hS',fun b o e=>?_⟩;have hb':=zd e;have hb1:b≠s.heap.objs.size:=zl hb'
    have hb2:b≠(s.heap.push { cls:=.type "set",dict:=none,data:=.set #[] 0 (.fresh 0 0 (!w.params.followText "set-order")) }).objs.size:=by
     rw [Heap.size_push]; exact zl (Nat.lt_succ_of_lt hb')
    exact hm.heap b o (by simp only [zj,zt,List.not_mem_nil,or_false,not_or]; exact ⟨hb1,hb2⟩) (zf _ (zf _ e))
   ·cases r₂ with
    | error e=>exact hr₂
    | ok fl₂ =>
     cases fl₂ with
     | ret r =>
      obtain ⟨rfl,h',tk,rfl,hS',hk'⟩:=hr₂
      repeat (any_goals (first | assumption | wp_step))
      exact h _ _ hS' hk'
     | _=>exact hr₂.elim
  | _=>exact hr.elim
end
def ItS (h:Heap) (I a:Addr) (first:Value) (i n ep:Nat):Prop:=∃o,h.get? I=some o∧o.cls = .type "set_iterator"∧o.data = .fields #[first,.int i 0,.ref a,.int n 0,.int ep 0]
section
variable {prog:Program}{w:World}{A:Around}{E:Value→Shared→Prop}{s:Shared}{a:Addr}{ss:List Str}{o:Obj}{es:Array (Int×Value)}{ep:Nat}{t:SetTable}
theorem ItS.typeIs {I:Addr}{first:Value}{i n:Nat} (h:ItS s.heap I a first i n ep):s.TypeIs (.ref I) "set_iterator":=let ⟨o,h1,h2,_⟩:=h; ⟨o,h1,h2⟩
end
section
variable {prog:Program}{w:World}{A:Around}{E:Value→Shared→Prop}{s:Shared}{a:Addr}{ss:List Str}{o:Obj}{es:Array (Int×Value)}{ep:Nat}{t:SetTable}
theorem ItS.at {h h':Heap}{I:Addr}{first:Value}{i n:Nat} (x:ItS h I a first i n ep) (e:∀o,h.get? I=some o→h'.get? I=some o):ItS h' I a first i n ep:=let ⟨o,ho,r⟩:=x; ⟨o,e _ ho,r⟩
theorem Qmi.at {h h':Heap} (x:Qmi prog w h a ss o es ep t) (e:∀o,h.get? a=some o→h'.get? a=some o):Qmi prog w h' a ss o es ep t:=⟨e _ x.1,x.2⟩
end
section
variable {X:Cx}
variable {md:List Md}{P:Pt}
end
structure QwG (mg:Str→Option Value):Prop extends Qrt mg where
 set_:mg "set" = none
section
variable {prog:Program}{w:World}{A:Around}{E:Value→Shared→Prop}{s:Shared}{K:Frag}{H F:Hp}{as:List Addr}
end
section
variable {X:Cx}
end
end L2
namespace L2
open PySem PySem.Spec PyProof.Rows
section
variable {X:Cx}{md:List Md}{P:Pt}{R:RR}
end
section
variable {X:Cx}{md:List Md}{P:Pt}
variable {tg iter elt:Expr}{ifs:List Expr}{scope:Scope}{pos:Pos}{mi:M D}{g:MG}{t:M Bool}{e:M D}
end
end L2
namespace L2
open PySem PySem.Spec PyProof.Rows PySem.W
def CXE (Pr:Program) (w:World):CXT:=fun outer H s E e s'=>∃(ea C:Addr) (H':Hp) (B:Heap) (a0:Value),e = .ref ea∧s'.os=s.os∧AllBare s'.gens∧Un (frs outer) [] H H' s.heap s'.heap∧HOk Pr w H' s'.heap ∧
 Heap.FlyingW B outer ea (.ref C) a0 s'.heap∧(∀b u,H' b=some u→∃o,B.get? b=some o)∧(∀b o,s.heap.get? b=some o→b∉frs outer→∃o',B.get? b=some o')∧E (.ref C) none H'
section
variable {X:Cx}{md:List Md}{P:Pt}{R:RR}
def Ql2 (K:Frag) (mg:Str→Option Value) (md:List Md) (P:Pt) (R:RR) (W:Xc→Hp→Prop) (D:Ends) (H F:Hp) (as:List Addr):Fl→Prop
 | .ex x O'=>∀H' F' as',GrS P H F as H' F' as'→RlO K mg O' H' F' as'→W x H'
 | f=>QfS K mg md P R D H F as f
theorem Ql2.gr {K:Frag}{mg:Str→Option Value}{W:Xc→Hp→Prop}{D:Ends}{H F H' F':Hp}{as as':List Addr}{f:Fl} (g:GrS P H F as H' F' as') (h:Ql2 K mg md P R W D H F as f):Ql2 K mg md P R W D H' F' as' f:=by
 cases f with
 | ex x O'=>exact fun H2 F2 as2 g2 r2=>h H2 F2 as2 (g.trans g2) r2
 | nx ρ' O'=>exact fun σ' H2 F2 as2 g2 r2 s2=>h σ' H2 F2 as2 (g.trans g2) r2 s2
 | bk ρ' O'=>exact fun σ' H2 F2 as2 g2 r2 s2=>h σ' H2 F2 as2 (g.trans g2) r2 s2
 | ct ρ' O'=>exact fun σ' H2 F2 as2 g2 r2 s2=>h σ' H2 F2 as2 (g.trans g2) r2 s2
 | rt d O'=>exact fun v H2 F2 as2 g2 r2 s2=>h v H2 F2 as2 (g.trans g2) r2 s2
 | no=>exact h
def msN (m:MS):MS:=fun ρ O=>match m ρ O with
 | .ex _ _=>.no
 | f=>f
def Qc5 (t:M Bool) (a b:MS):MS:=fun ρ O=>match t ρ O with
 | .ok v O'=>if v=true then a ρ O' else b ρ O'
 | _=>.no
end
def bmV:List Value:=[.type "ValueError",.type "Exception",.type "BaseException",.type "object"]
def Qo5 (K:Frag) (mg:Str→Option Value) (c:Str):Prop:=∃C,mg c=some (.ref C)∧excIn K C bmV "ValueError.__new__" = true
theorem Qqi {K:Frag}{h:Heap}{C:Addr}{id:String} (hK:K.In h) (hq:excIn K C bmV id=true) :
  ∃bm N nm qn bs hd sn sub ab col dd k0 k1 k2 k3 k5 mN,h.get? C=some (excClassObj nm qn C N bs bm hd sn sub ab col dd k0 k1 k2 k3 k5 id)∧h.Ns N mN∧mN "__init__" = none∧OwnTail h bmV bm:=by
 unfold excIn at hq;split at hq
 case h_2=>cases hq
 case h_1 dd cd sl lk =>
  split at hq
  case h_2=>cases hq
  case h_1 C1 bm k0 k1 k2 k3 nn k5 e1 e2 =>
   rw [zg,zg,zg,zg,zg] at hq;obtain ⟨⟨⟨⟨⟨p1,p2⟩,p3⟩,p4⟩,p5⟩,p6⟩:=hq;have q1:C1=C:=beq_iff_eq.mp p1;have q2:nn=id:=beq_iff_eq.mp p2;subst q1;subst q2
   rcases cd with ⟨nm,bs,mro,ns,qn,hd,sn,sub,ab,col,del⟩
   have e1':mro = .ref C1::bm:=e1
   have p3':del=false:=by
    have z:(!del)=true:=p3
    cases del with
    | false=>rfl
    | true=>cases z
   subst e1';subst p3'
   rcases sl with ⟨ls⟩
   have e2':ls = [k0,k1,k2,k3,some (.builtin nn),k5]:=e2;subst e2';exact ⟨bm,ns,nm,qn,bs,hd,sn,sub,ab,col,dd,k0,k1,k2,k3,k5,_,hK _ _ lk,.of_isNs (isNs_of_in hK p5),nsMap_none_of_in hK p5 (beq_iff_eq.mp p6),tail_of_in hK p4⟩
section
variable {X:Cx}{md:List Md}{P:Pt}{R:RR}
def QiU (c:Str):MS:=fun _ O=>.ex ⟨c,[]⟩ O
end
theorem Qbh.has {P:Program}{w:World}{H:Hp}{h:Heap}{a:Addr}{o:HO} (x:Qbh P w H h a o):∃u,h.get? a=some u:=by
 cases o with
 | lst xs=>exact let ⟨_,_,_,_,e⟩:=x; ⟨_,e⟩
 | tup xs=>exact let ⟨_,_,_,_,e,_⟩:=x; ⟨_,e⟩
 | dK kvs=>exact let ⟨_,_,_,_,_,_,_,e,_⟩:=x; ⟨_,e⟩
 | dT kvs=>exact let ⟨_,_,_,_,_,_,_,e,_⟩:=x; ⟨_,e⟩
 | set S n=>exact let ⟨_,_,_,_,e,_⟩:=x; ⟨_,e⟩
 | ins C dx fs=>exact let ⟨_,_,_,e,_⟩:=x; ⟨_,e⟩
 | own y=>exact let ⟨_,e⟩:=x; ⟨_,e⟩
 | xd fs=>exact let ⟨_,⟨_,_,_,e,_⟩,_⟩:=x; ⟨_,e⟩
 | rng lo hi=>exact let ⟨_,_,_,e⟩:=x; ⟨_,e⟩
 | frz ob u=>exact ⟨_,x.1⟩
 | tbl ps=>exact ⟨_,x⟩
 | met f y=>exact ⟨_,x⟩
 | ext φ=>exact x.2.1
theorem HOk.only {P:Program}{w:World}{H:Hp}{h h':Heap} (x:HOk P w H h) (k:∀b v u,H b=some v→h.get? b=some u→h'.get? b=some u):HOk P w H h':=fun a o e =>
 (x a o e).stay (fun b u hb q=>by
  rcases hb with rfl | hb
  ·exact k _ _ u e q
  ·exact k b _ u hb q) (fun _ q=>q) fun _ _ q=>q
theorem Un.then {fs:List Addr}{H0 H:Hp}{h0 h1 h2:Heap} (u:Un fs [] H0 H h0 h1) (st:∀b o,h1.get? b=some o→b∉fs→(∃o',h0.get? b=some o')→h2.get? b=some o)
  (fr:∀b o,h1.get? b=some o→b∈fs→∃sl,h2.get? b=some { o with slots:=sl }):Un fs [] H0 H h0 h2 where
 keep:=fun b o q n nf nx=>st b o (u.keep b o q n nf nx) nf ⟨o,q⟩
 slot:=fun b o q n hb nx=>by
  obtain ⟨sl,e⟩:=u.slot b o q n hb nx;obtain ⟨sl2,e2⟩:=fr b _ e hb;exact ⟨sl2,e2⟩
 free:=u.free
 there:=fun b o q nx=>by
  obtain ⟨o',e⟩:=u.there b o q nx
  by_cases hb:b∈fs
  ·obtain ⟨sl,e2⟩:=fr b o' e hb;exact ⟨_,e2⟩
  ·exact ⟨o',st b o' e hb ⟨o,q⟩⟩
 tups:=u.tups
 frzs:=u.frzs
 tbls:=u.tbls
theorem QmX {l:List Env}{H H':Hp}{h0 h1 h2 B:Heap} (un:Un (frs l) [] H H' h0 h1) (hB:B.StaysIn h1) (ff:h1.FunFrames B l) (old:∀b o,h0.get? b=some o→b∉frs l→∃o',B.get? b=some o') (hB2:B.StaysIn h2) (up:h1.UpToSlots h2):Un (frs l) [] H H' h0 h2 :=
 Un.then un (fun b o q n z=>by
  obtain ⟨o0,z⟩:=z;obtain ⟨o',e⟩:=old b o0 z n;have e1:=hB b o' e;rw [q] at e1;cases e1
  exact hB2 b _ e) fun b o q z=>by
  obtain ⟨_,o',q',nf⟩:=ff.mem z;rw [q] at q';cases q';exact up b o q nf
theorem QmT {P:Program}{w:World}{H:Hp}{h1 h2 B:Heap} (hok:HOk P w H h1) (trk:∀b u,H b=some u→∃o,B.get? b=some o) (hB:B.StaysIn h1) (hB2:B.StaysIn h2):HOk P w H h2:=hok.only fun b v u e q=>by
 obtain ⟨o,e1⟩:=trk b v e;have e2:=hB b o e1;rw [q] at e2;cases e2;exact hB2 b _ e1
def Qrn (P:Program) (w:World) (K:Frag) (mg:Str→Option Value) (base:Heap) (x:Str) (ps:List Str) (k:Nat) (sp:Sp):Prop :=
 ∃f fd,mg x=some (.ref f)∧keepIn K (.ref f)=true∧Binds K fd ps []∧QbB P w K mg base (CXE P w) k f fd ps sp∧∃oc od osl,K.lookup f=some ⟨oc,od,.func fd,osl⟩
def Qtl (K:Frag) (mg:Str→Option Value) (R:RR) (H F:Hp) (as:List Addr) (Q:VK) (E:XK):Res D→Prop
 | .ok d O'=>∀v H' F' as',Gr H F as H' F' as'→RlO K mg O' H' F' as'→R (fun a=>H a=none) H' F' as' v d→Q v H'
 | .ex x O'=>∀C H' F' as',mg x.cls=some (.ref C)→Gr H F as H' F' as'→RlO K mg O' H' F' as'→E (.ref C) none H'
 | .no=>False
def QlM (K:Frag) (mg:Str→Option Value) (pm:List Md) (R:RR) (c:List D→Qae→Res D):Sp:=fun vs H Q E =>
 ∃ds O F as,RlO K mg O H F as∧Qbz K H F as pm vs ds∧Qtl K mg R H F as Q E (c ds O)
section
variable {Pr:Program}{w:World}{K:Frag}{mg:Str→Option Value}{base:Heap}
theorem Qrn.can {x:Str}{ps:List Str}{k:Nat}{pm:List Md}{R:RR}{c:List D→Qae→Res D} (C:Qrn Pr w K mg base x ps k (QlM K mg pm R c)) (hl:pm.length=ps.length:=by rfl):Can Pr w K mg base x ps k (vSp K mg pm R c):=by
 obtain ⟨f,fd,hm,hk,hb,Fn,lk⟩:=C;refine ⟨f,fd,hm,hk,hb,⟨fun vs H Q E h=>?_,fun A outer s H args us vs Q E hr e0 hbi r h=>?_⟩,lk⟩
 ·obtain ⟨ds,O,F,as,d,O',r,a,_⟩:=h;rw [a.len.1,hl]
 ·obtain ⟨ds,O,F,as,d,O',ro,a,e,q⟩:=h
  have z:QlM K mg pm R c vs H Q fun _ _ _=>False:=⟨ds,O,F,as,ro,a,by rw [e]; exact q⟩
  refine codeAny_mono (Fn.run A outer s H args us vs Q _ hr e0 hbi r z) fun res s' hq=>?_
  cases res with
  | error ev =>
   obtain ⟨_,_,_,_,_,_,_,_,_,_,_,_,_,f0⟩:=hq;exact f0.elim
  | ok fl=>cases fl <;> exact hq
end
section
variable {X:Cx}{pins:List (Addr×Obj)}{σ:St}{H:Hp}{s:Shared}{ea:Addr}{oe:Obj}
theorem Inv.gone {h':Heap}{m':Str→Option Value}{t':Nat} (I:Inv X pins σ H s) (hn:h'.Ns X.env.locals m') (hs:Heap.SameBut X.env.locals s.heap h'):Inv X pins (List.replicate X.N.length none) H { s with heap:=h',toks:=t' }:=by
 have ne:∀b o,X.s₀.heap.get? b=some o→b≠X.env.locals:=fun b o e=>zl (zv (zd e) I.ok.above)
 refine ⟨I.ok,I.os,I.bare,⟨fun b o e n hb hx=>(hs.2 b (ne b o e)).trans (I.base.keep b o e n hb hx),fun b o e n hb hx=>?_,I.base.free,fun b o e hx=>?_,I.base.tups,I.base.frzs,I.base.tbls⟩,⟨m',hn,fun i x v _ e2 _=>?_⟩,fun y c e=>?_,I.free,I.freeC,fun p hp=>?_,I.hok.only fun b v u e q=>(hs.2 b fun z=>?_).trans q,List.length_replicate⟩
 ·obtain ⟨sl,e1⟩:=I.base.slot b o e n hb hx;exact ⟨sl,(hs.2 b (ne b o e)).trans e1⟩
 ·obtain ⟨o',e1⟩:=I.base.there b o e hx;exact ⟨o',(hs.2 b (ne b o e)).trans e1⟩
 ·rw [List.getElem?_replicate] at e2
  split at e2 <;> cases e2
 ·obtain ⟨v,z⟩:=I.cell y c e;exact ⟨v,z.sameBut hs (I.cne y c e)⟩
 ·obtain ⟨e,n,nl,nf,d⟩:=I.pin p hp;exact ⟨(hs.2 p.1 nl).trans e,n,nl,nf,d⟩
 ·rw [z,I.free] at e;cases e
end
end L2
namespace L2
open PySem PySem.Spec PyProof.Rows PySem.W PySem.Calls PySem.Builtin PySem.Builtin.ObjectAttr PySem.Builtin.Getset_descriptor
section
variable {prog:Program}{w:World}{A:Around}{E:Value→Shared→Prop}{K:Frag}{a C:Addr}{o:Obj}{h:Heap}{g:Array GenState}{d:Drawn}{t:Nat}{os:OsState}
theorem Qo4 {R:Result→Shared→Prop}{tp:Value} (X:K.In h) (hx:h.get? a=some o) (hc:o.cls = .ref C) (hm:mroIn K C (.type "object")=some true) (hq:R (.ok (.ret (.ref C))) ⟨h,g,d,t,os⟩) :
  codeAny (model prog w) A (.call (.builtin "getset_descriptor.__get__") ⟨[.builtin "object.__class__",.ref a,tp],[]⟩) R ⟨h,g,d,t,os⟩:=by
 have L0:Looks (model prog w) h (typeOf (.ref a)) (.ref C):=hc ▸ (Looks.ld hx).andThen .now;have L1:=looks_mroIn (M:=model prog w) X hm;refine codeAny_call_builtin KF.slot_gs.plain KF.entry_gs (KF.slot_gs.check _ _ _ _ _ _ _ _ KF.type_class (KF.args_gs _ _ _) ?_); unfold Builtin.«getset_descriptor.__get__» descrGet;rw [dga_obj]; refine za (zb ?_);unfold descrGetter descrCheckInstance descrNameAndClass isInstance; simp only [KF.owner_class]
 repeat lk
 refine ⟨Code.quiet_builtin _ (by decide +kernel),jj KF.entry_class ?_⟩; unfold Builtin.«object.__class__» shownTypeOf
 repeat lk
 exact hq
structure Qd1 (K:Frag) (C:Addr):Prop where
 ga:findIn K (.ref C) "__getattribute__" = some (some (.builtin "BaseException.__getattribute__"))
 na:findIn K (.ref C) "__getattr__" = some none
 ca:findIn K (.ref C) "__class__" = some (some (.builtin "object.__class__"))
 sp:specialIn K (.builtin "object.__class__") "__get__" = some (some (.builtin "getset_descriptor.__get__"))
 tk:takesIn K (.builtin "object.__class__")=some true
 ob:mroIn K C (.type "object")=some true
 be:mroIn K C (.type "BaseException")=some true
 cl:(clsIn K C).isSome=true
theorem Qpa {tk:Tok}{Q:Fin→Shared→Prop} (F0:Qd1 K C) (X:K.In h) (hx:h.get? a=some o) (hc:o.cls = .ref C) (hq:Q (.done (.ret (.ref C))) ⟨h,g,d,t,os⟩) :
  wpAny (model prog w) A (Builtin.«object.__getattribute__» ⟨[.ref a,.str "__class__" tk],[]⟩) Q E ⟨h,g,d,t,os⟩:=by
 have L0:Looks (model prog w) h (typeOf (.ref a)) (.ref C):=hc ▸ (Looks.ld hx).andThen .now;have L1:=looks_findIn (M:=model prog w) X F0.ca;have L2:=looks_specialIn (M:=model prog w) X F0.sp;have L3:=looks_takesIn (M:=model prog w) X F0.tk;unfold Builtin.«object.__getattribute__»;refine za (zW (a:=(Value.ref a,[Value.str "__class__" tk])) rfl ?_);dsimp only;refine za (zb ?_);refine za (L0.at ?_);unfold find getOf;refine za (za (L1.at (za (L2.at (za ?_)))));unfold dataDescriptor?;refine za (L3.at ?_);rw [if_pos rfl];refine zb ?_;dsimp only;refine za (zT (zb ?_));dsimp only;unfold bindTo;dsimp only
 refine za (zC (zR (Qo4 X hx hc F0.ob ?_)));exact zb hq
theorem QjC {nv:Value}{Q:Unit→Shared→Prop} (F0:Qd1 K C) (X:K.In h) (hx:h.get? a=some o) (hc:o.cls = .ref C) (hq:Q () ⟨h,g,d,t,os⟩):wpAny (model prog w) A (checkBuiltinCall "BaseException.__getattribute__" ⟨[.ref a,nv],[]⟩) Q E ⟨h,g,d,t,os⟩:=by
 have L4:Looks (model prog w) h (isInstance (.ref a) (.type "BaseException")) true:=(show Looks (model prog w) h (typeOf (.ref a)) (.ref C) from hc ▸ (Looks.ld hx).andThen .now).andThen (looks_mroIn X F0.be)
 have e1:builtinKind "BaseException.__getattribute__" = some .slot:=by decide +kernel
 have e2:splitId "BaseException.__getattribute__" = some ("BaseException","__getattribute__"):=by decide +kernel
 have e3:=PySem.F.args_bexc_ga (.ref a) nv;simp only [checkBuiltinCall,e1,e2];refine za (L4.at ?_);rw [if_neg (by decide)];exact zW (a:=()) e3 hq
theorem Qoh {Q:Option Value→Shared→Prop} (F0:Qd1 K C) (X:K.In h) (hx:h.get? a=some o) (hc:o.cls = .ref C) (hq:Q (some (.ref C)) ⟨h,g,d,t+1,os⟩) :
  wpAny (model prog w) A (getAttr? (.ref a) "__class__") Q E ⟨h,g,d,t,os⟩:=by
 have L0:Looks (model prog w) h (typeOf (.ref a)) (.ref C):=hc ▸ (Looks.ld hx).andThen .now;have L1:=looks_findIn (M:=model prog w) X F0.ga;have L2:=looks_findIn (M:=model prog w) X F0.na;have L4:Looks (model prog w) h (isInstance (.ref a) (.type "BaseException")) true:=L0.andThen (looks_mroIn X F0.be);have bnd:=PySem.F.attrBase_ValueError.ga.bind (.ref a)
 have hne:(onTheHeap (Value.ref C)&&Value.builtin "BaseException.__getattribute__" == Value.builtin "object.__getattribute__")=false:=by rw [show (Value.builtin "BaseException.__getattribute__" == Value.builtin "object.__getattribute__")=false by decide +kernel,Bool.and_false]
 unfold getAttr? getAttrBy? getAttrBy;refine za (wpAny_mkText ?_);refine za (wpAny_attempt (zC ?_));refine za (L0.at ?_);refine za (L1.at ?_);dsimp only;rw [if_neg (by rw [hne]; exact zk)];unfold getAttrByItsOwn;refine za ?_;unfold hookBefore;rw [if_pos (show onTheHeap (Value.ref C)=true from rfl)];refine L2.at ?_;refine za (wpAny_attempt (zC ?_));unfold callGetattribute;rw [if_neg (by decide)];unfold boundAndCalled;refine za (zW bnd ?_);refine zR (codeAny_call_builtin PySem.F.attrBase_ValueError.ga.plain PySem.F.entry_bexc_ga (QjC F0 X hx hc (Qpa F0 X hx hc ?_)));show wpAny (model prog w) A (handedOut (.ref C)) _ _ _
 exact handed_on rfl (zb hq)
def HX (a C:Addr) (h:Heap):Prop:=∃o,h.get? a=some o∧o.cls = .ref C
theorem Qkm (F0:Qd1 K C):KitX K (.ref a) (.ref C) (HX a C) where
 ty:=fun _ _ _ p=>by
  obtain ⟨o,q1,q2⟩:=p;exact q2 ▸ (Looks.ld q1).andThen .now
 it:=fun _ _ X _=>by
  have z:=F0.cl;unfold clsIn at z;split at z
  case h_1 c1 d1 cd1 sl1 lk1=>exact fun A1 Q1 E1 s1 k1 q1=>by unfold isType loadHead; exact za (wpAny_loadPart (k1 _ _ (X _ _ lk1)) (zb q1))
  case h_2=>cases z
 ne:=fun h tp dd its n sl X p=>by
  cases e:(Value.ref C == Value.ref tp) with
  | false=>rfl
  | true =>
   have e':C=tp:=Value.ref.inj (beq_iff_eq.mp e);subst e';have z:=F0.cl;unfold clsIn at z;split at z
   case h_1 =>
    have y:=X _ _ ‹_›;rw [p] at y;cases y
   case h_2=>cases z
 ca:=fun {_ _ _ _ _ s} X p k=>by
  obtain ⟨o,q1,q2⟩:=p;obtain ⟨h,g,d,t,os⟩:=s;exact Qoh F0 X q1 q2 k
end
end L2
namespace L2
open PySem PySem.Spec PyProof.Rows PySem.W
section
variable {X:Cx}{ea C:Addr}{oe:Obj}
def Ql6:V→Option Value
 | .ref a=>some (.ref a)
 | .ty n=>some (.type n)
 | _=>none
theorem Qkl {v:V}{u c:Value} (h:RelV v u) (e:Ql6 v=some c):u=c:=by
 cases v <;> cases e <;> exact h
def QhM:List V→Option (List Value)
 | []=>some []
 | v::vs=>(Ql6 v).bind fun c=>(QhM vs).map (c :: ·)
theorem QjA:∀{vs:List V}{us cs:List Value},Qaz vs us→QhM vs=some cs→us=cs
 | [],_,_,.nil,e=>by cases e; rfl
 | v::vs,_,_,.cons r t,e=>by
  obtain ⟨c,e1,e2⟩:=Option.bind_eq_some_iff.mp e;obtain ⟨l,e3,rfl⟩:=Option.map_eq_some_iff.mp e2;rw [Qkl r e1,QjA t e3]
end
section
variable {X:Cx}{md:List Md}{P:Pt}{R:RR}
end
section
variable {X:Cx}{ea C:Addr}{oe:Obj}{i:Nat}{b:Bool}{n:Str}{p p1 pos:Pos}
def Qf3 (X:Cx):List Expr→List V→Prop
 | [],vs=>vs = []
 | e::es,vs=>∃v r,vs=v::r∧(∀Y:Cx,Y.env=X.env→Y.mg=X.mg→PE Y e (tC v))∧starEach (e::es) X.env=(false,eval e X.env)::starEach es X.env∧Qf3 X es r
end
end L2
namespace L2
open PySem PySem.Spec PyProof.Rows
section
variable {X:Cx}
variable {md:List Md}{P:Pt}
end
end L2
namespace L2
open PySem PySem.Spec PyProof.Rows PySem.W
section
variable {prog:Program}{w:World}{A:Around}{E:Value→Shared→Prop}
end
section
variable {X:Cx}{md:List Md}{P:Pt}{R:RR}
end
def Qd2 (mg:Str→Option Value):List Str→List Addr→Prop
 | [],as=>as = []
 | n::ns,as=>∃a r,as=a::r∧mg n=some (.ref a)∧Qd2 mg ns r
theorem Qik:∀as:List Addr,QhM (as.map V.ref)=some (as.map Value.ref)
 | []=>rfl
 | a::as=>by
  show QhM (V.ref a::as.map V.ref)=_;unfold QhM;rw [Qik as];rfl
theorem Qd2.len {mg:Str→Option Value}:∀{ns:List Str}{as:List Addr},Qd2 mg ns as→as.length=ns.length
 | [],as,h=>by
  have h':as = []:=h;rw [h'];rfl
 | n::ns,as,h=>by
  obtain ⟨a,r,rfl,_,h2⟩:=h;rw [zJ,h2.len,zJ]
section
variable {X:Cx}{md:List Md}{P:Pt}{R:RR}
theorem Qqd:∀as,Qd2 X.mg [] as→Qf3 X [] (as.map V.ref):=fun as h=>by
 have h':as = []:=h;subst h';exact rfl
theorem Qgv {n:Str}{ns:List Str}{es:List Expr}{p:Pos} (h:∀as,Qd2 X.mg ns as→Qf3 X es (as.map V.ref)) (hg:Gl X n:=by rfl) (hd:(n == ("__debug__":Str))=false:=by decide) (hs:starEach (.Name n p::es) X.env=(false,eval (.Name n p) X.env)::starEach es X.env:=by rfl) :
  ∀as,Qd2 X.mg (n::ns) as→Qf3 X (.Name n p::es) (as.map V.ref):=fun as z=>by
 obtain ⟨a,r,rfl,hm,z⟩:=z;exact ⟨.ref a,_,rfl,fun Y e1 e2=>Qi8 (show Y.env.kindOf n=_ by rw [e1]; exact hg) (by rw [e2]; exact hm) rfl hd,hs,h r z⟩
end
section
variable {X:Cx}{pins:List (Addr×Obj)}{σ:St}{H:Hp}{s:Shared}{ea:Addr}{oe:Obj}
theorem Inv.goneI {h':Heap}{m:Str→Option Value}{v:Option Value}{t' i:Nat}{n:Str} (I:Inv X pins σ H s) (hN:X.N.Nodup) (hi:X.N[i]? = some n)
  (hl:∀(i:Nat) (x:Str) (v:V),X.N[i]? = some x→σ[i]? = some (some v)→Vis X.env.scope x→∃u,RelV v u∧Look X.env s.heap m x u)
  (hn:h'.Ns X.env.locals (fun x=>if x=n then v else m x)) (hs:Heap.SameBut X.env.locals s.heap h'):Inv X pins (σ.set i none) H { s with heap:=h',toks:=t' }:=by
 have ne:∀b o,X.s₀.heap.get? b=some o→b≠X.env.locals:=fun b o e=>zl (zv (zd e) I.ok.above)
 refine ⟨I.ok,I.os,I.bare,⟨fun b o e n hb hx=>(hs.2 b (ne b o e)).trans (I.base.keep b o e n hb hx),fun b o e n hb hx=>?_,I.base.free,fun b o e hx=>?_,I.base.tups,I.base.frzs,I.base.tbls⟩,⟨_,hn,fun j x v' e1 e2 e3=>?_⟩,fun y c e=>?_,I.free,I.freeC,fun p hp=>?_,I.hok.only fun b v u e q=>(hs.2 b fun z=>?_).trans q,by rw [zM]; exact I.len⟩
 ·obtain ⟨sl,e1⟩:=I.base.slot b o e n hb hx;exact ⟨sl,(hs.2 b (ne b o e)).trans e1⟩
 ·obtain ⟨o',e1⟩:=I.base.there b o e hx;exact ⟨o',(hs.2 b (ne b o e)).trans e1⟩
 ·have hji:j≠i:=fun z=>by
   subst z;rw [zI (by rw [I.len]; exact (zn.mp hi).1)] at e2;cases e2
  rw [zq (Ne.symm hji)] at e2;obtain ⟨u,r,lk⟩:=hl j x v' e1 e2 e3;refine ⟨u,r,?_⟩
  have hxn:x≠n:=fun z=>by
   subst z;obtain ⟨q1,q2⟩:=zn.mp e1;obtain ⟨q3,q4⟩:=zn.mp hi
   rcases Nat.lt_trichotomy j i with q | q | q
   ·exact List.pairwise_iff_getElem.mp hN j i q1 q3 q (q2.trans q4.symm)
   ·exact hji q
   ·exact List.pairwise_iff_getElem.mp hN i j q3 q1 q (q4.trans q2.symm)
  rcases lk with ⟨k1,k2⟩ | ⟨k1,c,k2,k3⟩
  ·exact .inl ⟨k1,(if_neg hxn).trans k2⟩
  ·exact .inr ⟨k1,c,k2,k3.sameBut hs (I.cne x c k2)⟩
 ·obtain ⟨v,z⟩:=I.cell y c e;exact ⟨v,z.sameBut hs (I.cne y c e)⟩
 ·obtain ⟨e,n,nl,nf,d⟩:=I.pin p hp;exact ⟨(hs.2 p.1 nl).trans e,n,nl,nf,d⟩
 ·rw [z,I.free] at e;cases e
end
section
variable {X:Cx}{md:List Md}{P:Pt}{R:RR}
theorem SlO.drop {K:Frag}{ρ:Qam}{σ:St}{H F:Hp}{as:List Addr}{i:Nat}{x:Option V} (s:SlO K md P ρ σ H F as) (hm:md[i]? = some .v):SlO K md P (ρ.set i none) (σ.set i x) H F as:=by
 have hi:i < ρ.length:=by rw [s.len']; exact (zn.mp hm).1
 have ne:∀(j:Nat) (d:D),(ρ.set i none)[j]? = some (some d)→j≠i∧ρ[j]? = some (some d):=fun j d e=>by
  by_cases hj:j=i
  ·subst hj;rw [zI hi] at e;cases e
  ·rw [zq (Ne.symm hj)] at e;exact ⟨hj,e⟩
 refine ⟨by rw [zM]; exact s.len,by rw [zM]; exact s.len',s.pd,fun j m d e1 e2=>?_,fun j k a ds es h1 h2 h3 h4 h5 h6=>?_,fun y hy=>?_⟩
 ·obtain ⟨hj,e2⟩:=ne j d e2;rw [zq (Ne.symm hj)];exact s.sl j m d e1 e2
 ·obtain ⟨hj,h3⟩:=ne j _ h3;obtain ⟨hk,h4⟩:=ne k _ h4;rw [zq (Ne.symm hj)] at h5;rw [zq (Ne.symm hk)] at h6;exact s.inj j k a ds es h1 h2 h3 h4 h5 h6
 ·obtain ⟨p1,p2,p3⟩:=s.pin y hy
  have hne:i≠y.1:=fun z=>by rw [←z,hm] at p1; cases p1
  rw [zq hne,zq hne];exact ⟨p1,p2,p3⟩
end
section
variable {X:Cx}{ea C:Addr}{oe:Obj}{i ja jb:Nat}{b:Bool}{n na nb w1 w2:Str}{p p1 pos:Pos}
end
section
variable {X:Cx}{md:List Md}{P:Pt}{R:RR}
end
def DK (h h':Heap):Prop:=∀b o,h.get? b=some o→∃o',h'.get? b=some o'∧o'.dict=o.dict
theorem DK.refl (h:Heap):DK h h:=fun _ o e=>⟨o,e,rfl⟩
theorem DK.trans {h h' h2:Heap} (x:DK h h') (y:DK h' h2):DK h h2:=fun b o e=>by
 obtain ⟨o1,e1,q1⟩:=x b o e;obtain ⟨o2,e2,q2⟩:=y b o1 e1;exact ⟨o2,e2,q2.trans q1⟩
theorem DK.upd {h:Heap}{a:Addr}{f:Obj→Obj} (hf:∀o,o.isFreed=false→(f o).isFreed=false∧(f o).dict=o.dict):DK h (h.update a f):=fun b o e=>by
 by_cases z:a=b
 ·subst z;have hz:=(Heap.get?_some_iff.mp e).2;exact ⟨f o,Heap.get?_update_self f e (hf o hz).1,(hf o hz).2⟩
 ·exact ⟨o,(zY h f z).trans e,rfl⟩
def KD {α:Type}:Sem α→Prop
 | .pure _=>True
 | .raise _=>True
 | .unsupported _=>True
 | .finish _=>True
 | .rule _ k=>KD (k ())
 | .at _ k=>KD (k ())
 | .load _ _ k=>∀o,KD (k o)
 | .update _ _ f k=>(∀o,o.isFreed=false→(f o).isFreed=false∧(f o).dict=o.dict)∧KD (k ())
 | .alloc _ k=>∀a,KD (k a)
 | .loadIfAlive _ k=>∀o,KD (k o)
 | .point _ k=>KD (k ())
 | .fresh k=>∀t,KD (k t)
 | .ask k=>∀x,KD (k x)
 | .handled _ k=>∀v,KD (k v)
 | .stack k=>∀l,KD (k l)
 | .thread k=>∀n,KD (k n)
 | _=>False
theorem Qa4 {α β:Type}{t:Sem α}{f:α→Sem β} (h:KD t) (hf:∀a,KD (f a)):KD (t.bind f):=by
 induction t with
 | pure a=>exact hf a
 | raise | unsupported | finish=>trivial
 | rule _ k ih=>exact ih () h
 | «at» _ k ih=>exact ih () h
 | point _ k ih=>exact ih () h
 | load _ _ k ih=>exact fun o=>ih o (h o)
 | update _ _ g k ih=>exact ⟨h.1,ih () h.2⟩
 | alloc _ k ih=>exact fun o=>ih o (h o)
 | loadIfAlive _ k ih=>exact fun o=>ih o (h o)
 | fresh k ih=>exact fun o=>ih o (h o)
 | ask k ih=>exact fun o=>ih o (h o)
 | handled _ k ih=>exact fun o=>ih o (h o)
 | stack k ih=>exact fun o=>ih o (h o)
 | thread k ih=>exact fun o=>ih o (h o)
 | _=>exact False.elim h
theorem QtT {α:Type}{M:Model}{Γ:PySem.Ctx}{t:Sem α} (h:KD t) {h0:Heap}{Q:α→Pos→Shared→Prop}{E:Value→Pos→Shared→Prop}{p:Pos}{s:Shared} (d:DK h0 s.heap) (w:Sem.wp M Γ t Q E p s) :
  Sem.wp M Γ t (fun a p' s'=>Q a p' s'∧DK h0 s'.heap) (fun e p' s'=>E e p' s'∧DK h0 s'.heap) p s:=by
 induction t generalizing p s with
 | pure a=>exact ⟨w,d⟩
 | raise e=>exact ⟨w,d⟩
 | unsupported=>exact w
 | finish=>exact w
 | rule _ k ih=>exact ih () h d w
 | «at» _ k ih=>exact ih () h d w
 | point _ k ih=>exact ih () h d w
 | load _ _ k ih=>obtain ⟨o,e,w⟩:=w; exact ⟨o,e,ih o (h o) d w⟩
 | update _ _ g k ih=>obtain ⟨e,w⟩:=w; exact ⟨e,ih () h.2 (d.trans (DK.upd h.1)) w⟩
 | alloc o k ih=>exact ih _ (h _) (d.trans fun b o' e=>⟨o',zf _ e,rfl⟩) w
 | loadIfAlive _ k ih=>exact ih _ (h _) d w
 | fresh k ih=>exact ih _ (h _) d w
 | ask k ih=>exact ih _ (h _) d w
 | handled _ k ih=>exact ih _ (h _) d w
 | stack k ih=>exact ih _ (h _) d w
 | thread k ih=>exact ih _ (h _) d w
 | _=>exact False.elim h
theorem Qfd {α:Type}{M:Model}{A:Around}{t:Sem α} (h:KD t) {Q:α→Shared→Prop}{E:Value→Shared→Prop}{s:Shared} (w:wpAny M A t Q E s):wpAny M A t (fun a s'=>Q a s'∧DK s.heap s'.heap) (fun e s'=>E e s'∧DK s.heap s'.heap) s:=fun Γ p hΓ=>QtT h (DK.refl _) (w Γ p hΓ)
theorem Qi4 (a:Addr):KD (load a):=fun _=>trivial
theorem Qh5:KD stack:=fun _=>trivial
theorem QgF (v:Value) (i:Nat):KD (field v i):=by
 unfold field fieldsOf
 refine Qa4 ?_ fun a=>?_
 ·split
  ·refine Qa4 (Qi4 _) fun o=>?_
   split <;> trivial
  ·trivial
 ·split <;> trivial
theorem Qm9 {a:Addr}{f:Obj→Obj} (hf:∀o,o.isFreed=false→(f o).isFreed=false∧(f o).dict=o.dict):KD (update a f):=⟨hf,trivial⟩
theorem Qei (v:Value) (i:Nat) (x:Value):KD (setField v i x):=by
 unfold setField
 split
 ·unfold updateField
  refine Qa4 (Qi4 _) fun o=>?_
  split
  ·split
   ·refine Qm9 fun o h=>?_
    unfold Obj.mapFields
    split
    ·exact ⟨rfl,rfl⟩
    ·exact ⟨h,rfl⟩
   ·trivial
  ·trivial
 ·trivial
theorem Qfe (e:Value) (f:Option Addr):KD (setFlight e f):=by
 unfold setFlight
 refine Qa4 (QgF _ _) fun tb=>?_
 split
 ·exact Qei _ _ _
 ·trivial
theorem QkJ:KD frameEnvs:=by
 unfold frameEnvs
 exact Qa4 Qh5 fun _=>trivial
theorem QnH (env:Env) (l:List Env):KD (behindIsImport env l):=by
 unfold behindIsImport
 split
 ·trivial
 ·split
  ·trivial
  ·exact Qa4 (QgF _ _) fun _=>trivial
theorem QqG (env:Env) (b:Bool) (l:List Env):KD (keptBack env b l):=by
 unfold keptBack
 split
 ·split
  ·trivial
  ·refine Qa4 ?_ fun _=>trivial
   unfold underTheClaimsCaller
   exact Qa4 Qh5 fun _=>trivial
 ·trivial
theorem Qkd:∀l:List Env,KD (readyFrames l)
 | []=>trivial
 | env::outer=>by
  unfold readyFrames
  split
  ·refine Qa4 (Qi4 _) fun o=>?_
   split
   ·trivial
   ·exact Qa4 (QnH _ _) fun b=>Qa4 (QqG _ _ _) fun k=>Qa4 (Qm9 fun o h=>⟨(by revert h; unfold Obj.isFreed; cases o with | mk c d dt sl=>cases dt <;> exact id),rfl⟩) fun _=>Qkd outer
  ·trivial
theorem QiN (env:Env):KD (PySem.frameOf env):=by
 unfold PySem.frameOf
 refine Qa4 QkJ fun l=>Qa4 ?_ fun o=>?_
 ·unfold frameObject
  split
  ·trivial
  ·exact Qa4 (Qkd _) fun _=>trivial
 ·split <;> trivial
theorem kd_new (ty:String) (vs:List Value):KD (newFields ty vs):=by
 have k:KD (newObjAsIs (.type ty) (.fields vs.toArray)):=by
  unfold newObjAsIs
  exact Qa4 (t:=alloc _) (fun _=>trivial) fun _=>trivial
 unfold newFields newObj;dsimp only
 split
 ·exact Qa4 (t:=unsupported _) trivial fun _=>k
 ·exact k
theorem Qj4 (a b c d e:Value) (l:List Value):KD (EntryCells.newEntry a b c d e l):=kd_new _ _
theorem QkR (f:Addr) (b:Bool):KD (entryPlaceOf f b):=by
 unfold entryPlaceOf
 refine Qa4 Qh5 fun l=>?_
 split <;> trivial
theorem QlJ (e:Value) (env:Env):KD (noteFrame e env):=by
 unfold noteFrame
 split
 ·refine Qa4 (QgF _ _) fun h=>?_
  split
  ·refine Qa4 (QgF _ _) fun x=>?_
   split
   ·trivial
   ·exact Qa4 (Qei _ _ _) fun _=>Qa4 (QiN _) fun _=>Qa4 (QkR _ _) fun _=>Qa4 (Qj4 _ _ _ _ _ _) fun _=>Qei _ _ _
  ·exact Qa4 (QiN _) fun _=>Qa4 (QkR _ _) fun _=>Qa4 (Qj4 _ _ _ _ _ _) fun _=>Qei _ _ _
 ·trivial
theorem QiL (env:Env) (e:Value):KD (leaving env e):=Qa4 (QlJ _ _) fun _=>Qfe _ _
section
variable {X:Cx}{md:List Md}{P:Pt}{R:RR}
end
section
variable {X:Cx}{md:List Md}{P:Pt}{R:RR}
def Qde (m:M (List D)) (g:MG) (b:MS):MS:=fun ρ O=>match m ρ O with
 | .ok ds O'=>QbA g b ds ρ O'
 | _=>.no
end
section
variable {Pr:Program}{w:World}{K:Frag}{mg:Str→Option Value}{base:Heap}
def QpU (P:Program) (w:World) (K:Frag) (mg:Str→Option Value) (base:Heap) (c m:Str) (ps:List Str) (k:Nat) (sp:Sp):Prop :=
 ∃C f fd,mg c=some (.ref C)∧Cls K C∧QiW K C m f∧Binds K fd ps []∧QbB P w K mg base (CXE P w) k f fd ps sp
theorem QpU.can {c x:Str}{ps:List Str}{k:Nat}{pm:List Md}{R:RR}{cf:List D→Qae→Res D} (C:QpU Pr w K mg base c x ps k (QlM K mg pm R cf)) (hl:pm.length=ps.length:=by rfl):Qjb Pr w K mg base c x ps k (vSp K mg pm R cf):=by
 obtain ⟨C,f,fd,h1,h2,h3,hb,Fn⟩:=C;refine ⟨C,f,fd,h1,h2,h3,hb,⟨fun vs H Q E h=>?_,fun A outer s H args us vs Q E hr e0 hbi r h=>?_⟩⟩
 ·obtain ⟨ds,O,F,as,d,O',r,a,_⟩:=h;rw [a.len.1,hl]
 ·obtain ⟨ds,O,F,as,d,O',ro,a,e,q⟩:=h
  have z:QlM K mg pm R cf vs H Q fun _ _ _=>False:=⟨ds,O,F,as,ro,a,by rw [e]; exact q⟩
  refine codeAny_mono (Fn.run A outer s H args us vs Q _ hr e0 hbi r z) fun res s' hq=>?_
  cases res with
  | error ev =>
   obtain ⟨_,_,_,_,_,_,_,_,_,_,_,_,_,f0⟩:=hq;exact f0.elim
  | ok fl=>cases fl <;> exact hq
end
section
variable {X:Cx}{md:List Md}{P:Pt}{R:RR}
def Qew (c:List D→Qae→Res D) (ma:M (List D)):M D:=fun ρ O=>match ma ρ O with
 | .ok ds O1=>c ds O1
 | _=>.no
def QdI (m:M D):MS:=fun ρ O=>match m ρ O with
 | .ok _ O'=>.nx ρ O'
 | .ex x O'=>.ex x O'
 | .no=>.no
end
section
variable {X:Cx}{md:List Md}{P:Pt}{R:RR}{k:Nat}{c m:Str}{ps:List Str}{p pos apos:Pos}{o e:Expr}{es:List Expr}{pm:List Md}{cf:List D→Qae→Res D}{mo:M D}{ma:M (List D)}
end
def CXF (Pr:Program) (w:World):CXT:=fun outer H s E e s'=>∃(ea C:Addr) (H':Hp) (B:Heap) (a0:Value) (dxo:Option Addr),e = .ref ea∧s'.os=s.os∧AllBare s'.gens∧Un (frs outer) [] H H' s.heap s'.heap∧HOk Pr w H' s'.heap ∧
 Heap.FlyingW B outer ea (.ref C) a0 s'.heap∧(∀b u,H' b=some u→∃o,B.get? b=some o)∧(∀b o,s.heap.get? b=some o→b∉frs outer→∃o',B.get? b=some o')∧(∃oe,s'.heap.get? ea=some oe∧oe.dict=dxo)∧E (.ref C) dxo H'
def Raw (X:Cx) (H:Hp) (s:Shared) (ea C:Addr) (dxo:Option Addr):Prop:=∃(oe:Obj) (ws:Array Value) (a0:Value),s.heap.get? ea=some oe∧oe.cls = .ref C∧oe.dict=dxo∧oe.data = .fields ws∧ws[1]? = some .none∧ws[0]? = some a0∧H ea=none∧X.s₀.heap.get? ea=none
section
variable {X:Cx}{md:List Md}{P:Pt}{R:RR}
def exR (X:Cx) (x:Xc) (dxo:Option Addr) (H:Hp):Prop:=∀(pins:List (Addr×Obj)) (σ:St) (s:Shared) (ea C:Addr),X.mg x.cls=some (.ref C)→Inv X pins σ H s→Raw X H s ea C dxo→X.xe (.ref ea) s
def exL (X:Cx) (x:Xc) (dxo:Option Addr) (H:Hp):Prop:=∀(pins:List (Addr×Obj)) (σ:St) (H0:Hp) (s:Shared) (e:Value) (s':Shared),Inv X pins σ H0 s→CXF X.prog X.w X.stack H0 s (fun cv d H'=>∃C,cv = .ref C∧X.mg x.cls=some (.ref C)∧d=dxo∧H'=H) e s'→X.xe e s'
def exV (X:Cx) (x:Xc) (dxo:Option Addr) (H:Hp):Prop:=exR X x dxo H∧exL X x dxo H
abbrev WX:=Xc→Option Addr→Hp→Prop
def Qc8 (K:Frag) (mg:Str→Option Value) (md:List Md) (P:Pt) (R:RR) (W:WX) (D:Ends) (H F:Hp) (as:List Addr):Fl→Prop
 | .ex x O'=>∀dxo H' F' as',GrS P H F as H' F' as'→RlO K mg O' H' F' as'→XF K F' as' dxo x.fs→W x dxo H'
 | f=>QfS K mg md P R D H F as f
def QmO (K:Frag) (mg:Str→Option Value) (md:List Md) (P:Pt) (R:RR) (W:WX) (m:MS):TS:=fun D σ H =>
 ∃ρ O F as,RlO K mg O H F as∧SlO K md P ρ σ H F as∧Qc8 K mg md P R W D H F as (m ρ O)
def VSF (X:Cx) (md:List Md) (P:Pt) (R:RR) (st:Stmt) (m:MS):Prop:=PS X st (QmO X.K X.mg md P R (exV X) m)
def QfR (X:Cx) (md:List Md) (P:Pt) (R:RR) (st:List Stmt) (m:MS):Prop:=PSs X st (QmO X.K X.mg md P R (exV X) m)
theorem Qc8.gr {K:Frag}{mg:Str→Option Value}{W:WX}{D:Ends}{H F H' F':Hp}{as as':List Addr}{f:Fl} (g:GrS P H F as H' F' as') (h:Qc8 K mg md P R W D H F as f):Qc8 K mg md P R W D H' F' as' f:=by
 cases f with
 | ex x O'=>exact fun d H2 F2 as2 g2 r2=>h d H2 F2 as2 (g.trans g2) r2
 | nx ρ' O'=>exact fun σ' H2 F2 as2 g2 r2 s2=>h σ' H2 F2 as2 (g.trans g2) r2 s2
 | bk ρ' O'=>exact fun σ' H2 F2 as2 g2 r2 s2=>h σ' H2 F2 as2 (g.trans g2) r2 s2
 | ct ρ' O'=>exact fun σ' H2 F2 as2 g2 r2 s2=>h σ' H2 F2 as2 (g.trans g2) r2 s2
 | rt d O'=>exact fun v H2 F2 as2 g2 r2 s2=>h v H2 F2 as2 (g.trans g2) r2 s2
 | no=>exact h
theorem QlN {st:Stmt}{m:MS} (h:VS X md P R st m):VSF X md P R st (msN m):=h.imp fun D σ H q=>by
 obtain ⟨ρ,O,F,as,r,s,k⟩:=q;refine ⟨ρ,O,F,as,r,s,?_⟩;unfold msN at k
 cases e:m ρ O with
 | ex x O'=>rw [e] at k; exact False.elim k
 | nx ρ' O'=>rw [e] at k; exact k
 | bk ρ' O'=>rw [e] at k; exact k
 | ct ρ' O'=>rw [e] at k; exact k
 | rt d O'=>rw [e] at k; exact k
 | no=>rw [e] at k; exact k
theorem Qb3:QfR X md P R [] QaQ:=QlG.imp fun D σ H q=>by
 obtain ⟨ρ,O,F,as,r,s,k⟩:=q;exact k σ H F as GrS.refl r s
theorem Qbo {st:Stmt}{rest:List Stmt}{a b:MS} (h1:VSF X md P R st a) (h2:QfR X md P R rest b):QfR X md P R (st::rest) (Qaq a b):=(Qku h1 h2).imp fun D σ H q=>by
 obtain ⟨ρ,O,F,as,r,s,k⟩:=q;refine ⟨ρ,O,F,as,r,s,?_⟩;unfold Qaq at k
 cases e:a ρ O with
 | nx ρ1 O1 =>
  rw [e] at k
  exact fun σ' H' F' as' g r' s'=>⟨ρ1,O1,F',as',r',s',Qc8.gr g k⟩
 | ex x O'=>rw [e] at k; exact k
 | bk ρ' O'=>rw [e] at k; exact k
 | ct ρ' O'=>rw [e] at k; exact k
 | rt d O'=>rw [e] at k; exact k
 | no=>rw [e] at k; exact k
theorem Qij {c:Expr}{a b:List Stmt}{pos:Pos}{t:M Bool}{ma mb:MS} (hc:TsE X md P c t) (ha:QfR X md P R a ma) (hb:QfR X md P R b mb):VSF X md P R (.If c a b pos) (Qc5 t ma mb):=(QpE hc ha hb).imp fun D σ H q=>by
 obtain ⟨ρ,O,F,as,r,s,k⟩:=q;unfold Qc5 at k
 cases e:t ρ O with
 | ok v O' =>
  rw [e] at k;refine ⟨ρ,_,F,as,_,_,r,s,e,fun H1 F1 as1 g r1=>?_⟩;dsimp only at k
  cases v with
  | true =>
   rw [if_pos rfl] at k ⊢;exact ⟨ρ,O',F1,as1,r1,s.step g,Qc8.gr g.toS k⟩
  | false =>
   rw [if_neg zk] at k ⊢;exact ⟨ρ,O',F1,as1,r1,s.step g,Qc8.gr g.toS k⟩
 | ex x O'=>rw [e] at k; exact False.elim k
 | no=>rw [e] at k; exact False.elim k
end
section
variable {Pr:Program}{w:World}{K:Frag}{mg:Str→Option Value}{base:Heap}{N:List Str}{qual:Str}{scope:Scope}{f:Addr}{cd:Value}{A:Around}{outer:List Env}{s0:Shared}{H0:Hp}{E E':XK}{pins:List (Addr×Obj)}{σ:St}{H:Hp}{s s':Shared}
theorem Qra {ea C:Addr}{dxo:Option Addr} (I:Inv (QcS (CXF Pr w) Pr w K mg base N qual scope f cd A outer s0 H0 E) pins σ H s) (hr:Raw (QcS (CXF Pr w) Pr w K mg base N qual scope f cd A outer s0 H0 E) H s ea C dxo) (hE:E (.ref C) dxo H) :
  (QcS (CXF Pr w) Pr w K mg base N qual scope f cd A outer s0 H0 E).xe (.ref ea) s:=by
 have stk:=I.stack;have sfr:=I.stkFree;have hfr:=I.ok.frames;have hb0:=I.base;obtain ⟨oe,ws,a0,he,hc,hdi,hd,h1,h0,hn,hold⟩:=hr;have hold:s0.heap.get? ea=none:=hold
 have nfr:ea∉frs (envOfC qual scope s0.heap.objs.size f cd::outer):=fun z=>by
  obtain ⟨_,o,ho,nf⟩:=stk.mem z;rw [he] at ho;cases ho;exact nf ws hd
 show wpAny (model Pr w) (A.deeper (envOfC qual scope s0.heap.objs.size f cd)) (leaving (envOfC qual scope s0.heap.objs.size f cd) (.ref ea)) (fun _ s''=>CXF Pr w outer H0 s0 E (.ref ea) s'') _ s
 have kd:=Qfd (QiL _ _) (wpAny_leaving_firstW (M:=model Pr w) (A:=A.deeper (envOfC qual scope s0.heap.objs.size f cd)) (E:=fun e' s''=>CXF Pr w outer H0 s0 E e' s'') (base:=hideAll s.heap (ea::frs (envOfC qual scope s0.heap.objs.size f cd::outer)))
  (Q:=fun _ s''=>∃h',s'' = { s with heap:=h' }∧Heap.LeftW (hideAll s.heap (ea::frs (envOfC qual scope s0.heap.objs.size f cd::outer))) (envOfC qual scope s0.heap.objs.size f cd::outer) ea oe.cls a0 s.heap h')
  hfr (funFrames_hide stk fun env he a ha=>zE _ (List.mem_filterMap.mpr ⟨env,he,ha⟩)) rfl he (fun b o q=>of_hideAll _ q) (hideAll_none _ zK) hd h1 h0 fun h' hL=>⟨h',rfl,hL⟩)
 refine zr kd (fun _ s2 z=>?_) fun _ _ z=>z.1
 obtain ⟨⟨h2,rfl,k1,⟨_,_,k2⟩,k3,up⟩,dk⟩:=z
 have keepB:∀b o,s.heap.get? b=some o→b≠ea→b∉frs (envOfC qual scope s0.heap.objs.size f cd::outer)→h2.get? b=some o:=fun b o q n n2=>k1 b o (hideAll_get _ q fun z=>by
  rcases zj.mp z with z | z
  ·exact n z
  ·exact n2 z)
 have notE:∀b o,s0.heap.get? b=some o→b≠ea:=fun b o q z=>by rw [z,hold] at q; cases q
 have Qd4:∀b o,s0.heap.get? b=some o→b∉frs outer→b∉frs (envOfC qual scope s0.heap.objs.size f cd::outer):=fun b o q n z=>by
  rcases zj.mp (show b∈s0.heap.objs.size::frs outer from z) with rfl | z
  ·exact absurd (zd q) (zH _)
  ·exact n z
 have sub:∀b,b∈frs outer→b∈frs (envOfC qual scope s0.heap.objs.size f cd::outer):=fun b z=>zE _ z
 have tr:∀b u,H b=some u→∃o,s.heap.get? b=some o∧b≠ea∧b∉frs (envOfC qual scope s0.heap.objs.size f cd::outer):=fun b u e=>by
  obtain ⟨o,q⟩:=(I.hok b u e).has;exact ⟨o,q,(fun z=>by rw [z,hn] at e; cases e),fun z=>by rw [sfr b z] at e; cases e⟩
 have frm:∀b o,s.heap.get? b=some o→b∈frs outer→∃sl,h2.get? b=some { o with slots:=sl }:=fun b o q z=>by
  obtain ⟨_,o',q',nf⟩:=stk.mem (sub b z);rw [q] at q';cases q';exact up b o q nf
 obtain ⟨oe2,he2,hd2⟩:=dk ea oe he;refine ⟨ea,C,H,_,a0,dxo,rfl,I.os,I.bare,Un.then hb0 (fun b o q n z=>by obtain ⟨o',z⟩:=z; exact keepB b o q (notE b o' z) (Qd4 b o' z n)) frm,I.hok.only fun b v u e q=>(by obtain ⟨_,_,n1,n2⟩:=tr b v e; exact keepB b u q n1 n2),⟨k1,hideAll_none _ zK,k2,hc ▸ k3⟩,fun b u e=>?_,fun b o q n=>?_,⟨oe2,he2,hd2.trans hdi⟩,hE⟩
 ·obtain ⟨o,q,n1,n2⟩:=tr b u e
  exact ⟨o,hideAll_get _ q fun z=>by
   rcases zj.mp z with z | z
   ·exact n1 z
   ·exact n2 z⟩
 ·obtain ⟨o',q'⟩:=hb0.there b o q (fun z=>nomatch z)
  exact ⟨o',hideAll_get _ q' fun z=>by
   rcases zj.mp z with z | z
   ·exact notE b o q z
   ·exact Qd4 b o q n z⟩
theorem QmV {e:Value} (I:Inv (QcS (CXF Pr w) Pr w K mg base N qual scope f cd A outer s0 H0 E) pins σ H s) (hx:CXF Pr w (QcS (CXF Pr w) Pr w K mg base N qual scope f cd A outer s0 H0 E).stack H s E' e s') (hE:∀C d H',E' (.ref C) d H'→E (.ref C) d H') :
  (QcS (CXF Pr w) Pr w K mg base N qual scope f cd A outer s0 H0 E).xe e s':=by
 obtain ⟨ea,C,H',B,a0,dxo,rfl,hos,hbare,un,hok,fl,trk,old,⟨oe,he,hd⟩,hE'⟩:=hx;have hfr:=I.ok.frames;show wpAny (model Pr w) (A.deeper (envOfC qual scope s0.heap.objs.size f cd)) (leaving (envOfC qual scope s0.heap.objs.size f cd) (.ref ea)) (fun _ s''=>CXF Pr w outer H0 s0 E (.ref ea) s'') _ s'
 have kd:=Qfd (QiL _ _) (wpAny_leaves_onW (M:=model Pr w) (A:=A.deeper (envOfC qual scope s0.heap.objs.size f cd)) (E:=fun e' s''=>CXF Pr w outer H0 s0 E e' s'')
  (Q:=fun _ s''=>∃h',s'' = { s' with heap:=h' }∧Heap.FlyingW B outer ea (.ref C) a0 h'∧s'.heap.UpToSlots h') hfr rfl fl fun h' fl' up=>⟨h',rfl,fl',up⟩)
 refine zr kd (fun _ s2 z=>?_) fun _ _ z=>z.1
 obtain ⟨⟨h',rfl,fl',up⟩,dk⟩:=z;have I':=I.call' (s':={ s' with heap:=h' }) (ch:=[]) hos (QmX un fl.1 fl.2.2.1 old fl'.1 up) (QmT hok trk fl.1 fl'.1) hbare (fun _ z=>nomatch z);obtain ⟨oe2,he2,hd2⟩:=dk ea oe he;refine ⟨ea,C,H',B,a0,dxo,rfl,I'.os,I'.bare,I'.base,I'.hok,fl',trk,fun b o q n=>?_,⟨oe2,he2,hd2.trans hd⟩,hE C dxo H' hE'⟩;obtain ⟨o',q'⟩:=I.base.there b o q (fun z=>nomatch z)
 refine old b o' q' fun z=>?_
 rcases zj.mp (show b∈s0.heap.objs.size::frs outer from z) with rfl | z
 ·exact absurd (zd q) (zH _)
 ·exact n z
end
def Qh3 (P:Program) (w:World) (K:Frag) (mg:Str→Option Value) (base:Heap) (x:Str) (ps:List Str) (k:Nat) (sp:Sp):Prop :=
 ∃f fd,mg x=some (.ref f)∧keepIn K (.ref f)=true∧Binds K fd ps []∧QbB P w K mg base (CXF P w) k f fd ps sp∧∃oc od osl,K.lookup f=some ⟨oc,od,.func fd,osl⟩
def Qpy (P:Program) (w:World) (K:Frag) (mg:Str→Option Value) (base:Heap) (c m:Str) (ps:List Str) (k:Nat) (sp:Sp):Prop :=
 ∃C f fd,mg c=some (.ref C)∧Cls K C∧QiW K C m f∧Binds K fd ps []∧QbB P w K mg base (CXF P w) k f fd ps sp
def Qu6 (K:Frag) (mg:Str→Option Value) (R:RR) (H F:Hp) (as:List Addr) (Q:VK) (E:XK):Res D→Prop
 | .ok d O'=>∀v H' F' as',Gr H F as H' F' as'→RlO K mg O' H' F' as'→R (fun a=>H a=none) H' F' as' v d→Q v H'
 | .ex x O'=>∀C dxo H' F' as',mg x.cls=some (.ref C)→Gr H F as H' F' as'→RlO K mg O' H' F' as'→XF K F' as' dxo x.fs→E (.ref C) dxo H'
 | .no=>False
def Qdi (K:Frag) (mg:Str→Option Value) (pm:List Md) (R:RR) (c:List D→Qae→Res D):Sp:=fun vs H Q E =>
 ∃ds O F as,RlO K mg O H F as∧Qbz K H F as pm vs ds∧Qu6 K mg R H F as Q E (c ds O)
section
variable {Pr:Program}{w:World}{K:Frag}{mg:Str→Option Value}{base:Heap}
theorem QpI {x qual:Str}{st:Stmt}{f:Addr}{fd:FuncData}{N ps:List Str}{k:Nat} (Fn:Fun K x qual st f fd) (S:QaO N ps (Qao st))
  (pm lm:List Md) {R:RR}{b:MS} (hR:QdB R) (hR0:∀N H F as,R N H F as .non .non) (hpl:pm.length=ps.length) (hl:(pm++lm).length=N.length) (hp:∀m∈pm,m≠.o)
  (body:∀(cdv:Value) (A:Around) (outer:List Env) (s:Shared) (H:Hp) (E:XK),QaR k (A.deeper (envOfC qual (Qao st) s.heap.objs.size f cdv))→∀P,QfR (QcS (CXF Pr w) Pr w K mg base N qual (Qao st) f cdv A outer s H E) (pm++lm) P R (Qa8 st) b) :
  QbB Pr w K mg base (CXF Pr w) (k+1) f fd ps (Qdi K mg pm R (Qbw N.length b)):=by
 obtain ⟨oc,od,kV,doc,pmv,an,cdv,ct,osl,rfl,lk,hcd⟩:=Fn.ex
 refine QmK lk hcd S (fun vs H Q E h=>?_) fun A outer s H vs Q E hr h=>?_
 ·obtain ⟨ds,O,F,as,r,a,_⟩:=h;rw [a.len.1,hpl]
 ·obtain ⟨ds,O,F,as,r,a,q⟩:=h;refine ⟨_,body cdv A outer s H E hr (Pt.all H),?_⟩;refine ⟨_,O,F,as,r,QfM a hl hp,?_⟩;unfold Qbw at q
  cases eb:b (ds.map some++List.replicate (N.length - ds.length) none) O with
  | rt d' O2 =>
   rw [eb] at q
   exact fun v H' F' as' g r' hv=>q v H' F' as' g.gr r' (hR _ _ _ _ _ _ _ (fun c hc=>ji.mp hc) hv)
  | nx ρ O2 =>
   rw [eb] at q
   exact fun σ' H' F' as' g r' _=>q _ H' F' as' g.gr r' (hR0 _ _ _ _)
  | ex x' O2 =>
   rw [eb] at q
   exact fun dxo H' F' as' g r' hx=>⟨fun pins σ s1 ea C hC I hr=>Qra I hr (q C dxo H' F' as' hC g.gr r' hx),fun pins σ H0 s1 e s2 I hz=>QmV I hz fun C d H2 ⟨C',z1,z2,z3,z4⟩=>by
    cases z1;subst z3 z4
    exact q C _ _ F' as' z2 g.gr r' hx⟩
  | bk _ _=>rw [eb] at q; exact False.elim q
  | ct _ _=>rw [eb] at q; exact False.elim q
  | no=>rw [eb] at q; exact False.elim q
theorem QpB {x:Str}{st:Stmt}{N ps:List Str}{k:Nat} (Df:Def K mg x st) (S:QaO N ps (Qao st))
  (hb:∀(kV doc pm:Value) (an:Option Addr) (cdv ct:Value) (us:List Value),us.length=ps.length→bindArgs (PySem.W.fnOf x x (QbU st) (Qa8 st) (Qao st) .none kV doc pm an cdv ct) ⟨us,[]⟩=pure (ps.zip us))
  (pm lm:List Md) {R:RR}{b:MS} (hR:QdB R) (hR0:∀N H F as,R N H F as .non .non) (hpl:pm.length=ps.length:=by rfl) (hl:(pm++lm).length=N.length:=by rfl) (hp:∀m∈pm,m≠.o:=by decide)
  (body:∀(f:Addr) (cdv:Value) (A:Around) (outer:List Env) (s:Shared) (H:Hp) (E:XK),QaR k (A.deeper (envOfC x (Qao st) s.heap.objs.size f cdv))→∀P,QfR (QcS (CXF Pr w) Pr w K mg base N x (Qao st) f cdv A outer s H E) (pm++lm) P R (Qa8 st) b) :
  Qh3 Pr w K mg base x ps (k+1) (Qdi K mg pm R (Qbw N.length b)):=by
 obtain ⟨f,fd,hm,Fn⟩:=Df;have hbi:=Fn.binds hb;have hkp:=Fn.kp;have ok:=QpI Fn S pm lm hR hR0 hpl hl hp (body f);obtain ⟨oc,od,kV,doc,pmv,an,cdv,ct,osl,rfl,lk,hcd⟩:=Fn.ex;exact ⟨f,_,hm,hkp,hbi,ok,oc,od,osl,lk⟩
theorem Qja {f:Addr}{fd:FuncData}{ps:List Str}{k:Nat}{pm:List Md}{R:RR}{c:List D→Qae→Res D} (Fn:QbB Pr w K mg base (CXF Pr w) k f fd ps (Qdi K mg pm R c)) (hl:pm.length=ps.length) {CX:CXT}:QbB Pr w K mg base CX k f fd ps (vSp K mg pm R c):=by
 refine ⟨fun vs H Q E h=>?_,fun A outer s H args us vs Q E hr e0 hbi r h=>?_⟩
 ·obtain ⟨ds,O,F,as,d,O',r,a,_⟩:=h;rw [a.len.1,hl]
 ·obtain ⟨ds,O,F,as,d,O',ro,a,e,q⟩:=h
  have z:Qdi K mg pm R c vs H Q fun _ _ _=>False:=⟨ds,O,F,as,ro,a,by rw [e]; exact q⟩
  refine codeAny_mono (Fn.run A outer s H args us vs Q _ hr e0 hbi r z) fun res s' hq=>?_
  cases res with
  | error ev =>
   obtain ⟨_,_,_,_,_,_,_,_,_,_,_,_,_,_,_,f0⟩:=hq;exact f0.elim
  | ok fl=>cases fl <;> exact hq
theorem Qh3.can {x:Str}{ps:List Str}{k:Nat}{pm:List Md}{R:RR}{c:List D→Qae→Res D} (C:Qh3 Pr w K mg base x ps k (Qdi K mg pm R c)) (hl:pm.length=ps.length:=by rfl):Can Pr w K mg base x ps k (vSp K mg pm R c):=by
 obtain ⟨f,fd,hm,hk,hb,Fn,lk⟩:=C;exact ⟨f,fd,hm,hk,hb,Qja Fn hl,lk⟩
theorem Qpy.can {c x:Str}{ps:List Str}{k:Nat}{pm:List Md}{R:RR}{cf:List D→Qae→Res D} (C:Qpy Pr w K mg base c x ps k (Qdi K mg pm R cf)) (hl:pm.length=ps.length:=by rfl):Qjb Pr w K mg base c x ps k (vSp K mg pm R cf):=by
 obtain ⟨C,f,fd,h1,h2,h3,hb,Fn⟩:=C;exact ⟨C,f,fd,h1,h2,h3,hb,Qja Fn hl⟩
end
section
variable {X:Cx}{md:List Md}{P:Pt}{R:RR}
def exG (X:Cx):XK:=fun cv d H'=>∃x C,cv = .ref C∧X.mg x.cls=some (.ref C)∧exL X x d H'
theorem Qov:Qe9 (CXF X.prog X.w) X (exG X):=fun pins σ H s e s' I hx=>by
 obtain ⟨ea,C,H',B,a0,dxo,rfl,x1,x2,x3,x4,x5,x6,x7,x8,x,C',e1,hC,hw⟩:=hx;cases e1;exact hw pins σ H s (.ref ea) s' I ⟨ea,C,H',B,a0,dxo,rfl,x1,x2,x3,x4,x5,x6,x7,x8,C,rfl,hC,rfl,rfl⟩
def QsJ (K:Frag) (mg:Str→Option Value) (R:RR) (W:WX) (H F:Hp) (as:List Addr) (Q:VK):Res D→Prop
 | .ok d O'=>∀v H' F' as',Gr H F as H' F' as'→RlO K mg O' H' F' as'→R (fun a=>H a=none) H' F' as' v d→Q v H'
 | .ex x O'=>∀dxo H' F' as',Gr H F as H' F' as'→RlO K mg O' H' F' as'→XF K F' as' dxo x.fs→W x dxo H'
 | .no=>False
def tMF (K:Frag) (mg:Str→Option Value) (md:List Md) (P:Pt) (R:RR) (W:WX) (m:M D):TE:=fun σ H Q=>∃ρ O F as,RlO K mg O H F as∧SlO K md P ρ σ H F as∧QsJ K mg R W H F as Q (m ρ O)
def VEF (X:Cx) (md:List Md) (P:Pt) (R:RR) (e:Expr) (m:M D):Prop:=PE X e (tMF X.K X.mg md P R (exL X) m)
theorem Qo6 {pm:List Md}{c:List D→Qae→Res D}{ma:M (List D)} (hR:QdB R) {σ:St}{H:Hp}{Q:VK} (q:tMF X.K X.mg md P R (exL X) (Qew c ma) σ H Q):QjS (Qdi X.K X.mg pm R c) [] (exG X) (tMA X.K X.mg md P pm ma) σ H Q:=by
 obtain ⟨ρ,O,F,as,r,s,k⟩:=q;unfold Qew at k
 cases em:ma ρ O with
 | ex x O'=>rw [em] at k; exact False.elim k
 | no=>rw [em] at k; exact False.elim k
 | ok ds O1 =>
  rw [em] at k;dsimp only at k;refine ⟨ρ,O,F,as,ds,O1,r,s,em,fun vs H1 F1 as1 g1 r1 h1=>?_⟩;dsimp only;rw [zL];refine ⟨ds,O1,F1,as1,r1,h1,?_⟩
  cases ec:c ds O1 with
  | ok d O2 =>
   rw [ec] at k
   exact fun v H2 F2 as2 g2 r2 h=>k v H2 F2 as2 (g1.trans g2) r2 (hR _ _ _ _ _ _ _ (fun a z=>g1.dm a z) h)
  | ex x O2 =>
   rw [ec] at k
   exact fun C dxo H2 F2 as2 hC g2 r2 hx=>⟨x,C,rfl,hC,k dxo H2 F2 as2 (g1.trans g2) r2 hx⟩
  | no=>rw [ec] at k; exact False.elim k
theorem Qpn {f:Str}{ps:List Str}{k:Nat}{a:Expr}{as:List Expr}{pm:List Md}{c:List D→Qae→Res D}{ma:M (List D)}{p1 p2:Pos} (hR:QdB R)
  (Cn:Qh3 X.prog X.w X.K X.mg X.base f ps k (Qdi X.K X.mg pm R c)) (hr:QaR k X.A) (ha:AE X md P pm (a::as) ma) (hg:Gl X f:=by rfl) (hfd:(f == ("__debug__":Str))=false:=by decide)
  (hs:starEach (a::as) X.env=(false,eval a X.env)::starEach as X.env:=by exact Qbq rfl) (hpl:(backTo p2 (starEach as X.env)).any (·.1)=false:=by exact QbL rfl):VEF X md P R (.Call (.Name f p1) (a::as) [] p2) (Qew c ma):=by
 obtain ⟨fa,fd,hm,hk,hb,Fn,_⟩:=Cn
 exact (Qlk (dvs:=[]) (ds:=[]) Fn hr hg hm hk hb .nil Qov ha hfd hs hpl).imp fun σ H Q q=>Qo6 hR q
theorem Qlx {R':RR}{e:Expr}{pos:Pos}{m:M D} (h:VEF X md P R' e m) (hs:swapsWith e none pos.line X.env=pure false:=by rfl):VSF X md P R (.Expr e pos) (QdI m):=(QlA h hs).imp fun D σ H q=>by
 obtain ⟨ρ,O,F,as,r,s,k⟩:=q;refine ⟨ρ,O,F,as,r,s,?_⟩;unfold QdI at k
 cases e:m ρ O with
 | ok d O'=>rw [e] at k; exact fun v H' F' as' g r' _=>k σ H' F' as' g.toS r' (s.step g)
 | ex x O'=>rw [e] at k; exact fun d H' F' as' g r' hx=>(k d H' F' as' g.toS r' hx).2
 | no=>rw [e] at k; exact False.elim k
end
section
variable {X:Cx}{md:List Md}{P:Pt}{R:RR}{k:Nat}{c m:Str}{ps:List Str}{p pos apos:Pos}{o e:Expr}{es:List Expr}{pm:List Md}{cf:List D→Qae→Res D}{mo:M D}{ma:M (List D)}
end
section
variable {X:Cx}{md:List Md}{P:Pt}{R:RR}
theorem QqZ {K:Frag}{mg:Str→Option Value}{W:WX}{m:M (List D)}{g:MG}{b:MS}{D:Ends}{σ:St}{H:Hp} (q:QmO K mg md P R W (Qde m g b) D σ H):QoE (tMI K mg md P m) (tMG K mg md P g) (QmO K mg md P R W b) D σ H:=by
 obtain ⟨ρ,O,F,as,r,s,k⟩:=q;unfold Qde at k
 cases e:m ρ O with
 | ex x O'=>rw [e] at k; exact False.elim k
 | no=>rw [e] at k; exact False.elim k
 | ok ds O1 =>
  rw [e] at k;dsimp only at k;refine ⟨ρ,_,F,as,_,_,r,s,e,fun J H1 F1 as1 g1 r1 hJ=>?_⟩;have k1:=Qc8.gr (R:=R) (W:=W) g1.toS k;refine ⟨fun i m σ' H'=>m=ds.length - i∧i≤ds.length∧∃ρ' O' F' as',GrS P H1 F1 as1 H' F' as'∧RlO K mg O' H' F' as'∧SlO K md P ρ' σ' H' F' as'∧Qc8 K mg md P R W D H' F' as' (QbA g b (ds.drop i) ρ' O'),⟨ds.length,by simp,Nat.zero_le _,ρ,O1,F1,as1,GrS.refl,r1,s.step g1,by rw [List.drop_zero]; exact k1⟩,?_⟩;rintro i n σ' H' ⟨rfl,hi,ρ',O',F',as',g',r',s',k'⟩
  by_cases hlt:i < ds.length
  ·have hd:=zy hlt;obtain ⟨go,yl⟩:=hJ.turn i _ H' F' as' g' ⟨O',r'⟩ hd;rw [List.drop_eq_getElem_cons hlt] at k';refine .inr ⟨go,fun σ2 H2=>∃ρ2 O2 F2 as2,GrS P H1 F1 as1 H2 F2 as2∧RlO K mg O2 H2 F2 as2∧SlO K md P ρ2 σ2 H2 F2 as2∧Qc8 K mg md P R W D H2 F2 as2 (QbA g b (ds.drop (i+1)) ρ2 O2),fun σ2 H2 h2=>⟨ds.length - (i+1),by omega,rfl,hlt,h2⟩,fun x H3 y=>?_⟩;obtain ⟨F3,g3,r3,hx⟩:=yl x H3 y;have r3':=r3 O' r';unfold QbA at k'
   cases eg:g ds[i] ρ' with
   | none=>rw [eg] at k'; exact False.elim k'
   | some ρ1 =>
    rw [eg] at k';dsimp only at k';refine ⟨ρ',O',F3,as',ds[i],ρ1,r3',s'.step g3,hx,eg,fun σ4 s4=>?_⟩;refine ⟨ρ1,O',F3,as',r3',s4,?_⟩;have g4:GrS P H1 F1 as1 H3 F3 as':=g'.trans g3.toS
    cases eb:b ρ1 O' with
    | nx ρ2 O2 =>
     rw [eb] at k'
     exact fun σ2 H2 F2 as2 g2 r2 s2=>⟨ρ2,O2,F2,as2,g4.trans g2,r2,s2,Qc8.gr g2 (Qc8.gr g3.toS k')⟩
    | ct ρ2 O2 =>
     rw [eb] at k'
     exact fun σ2 H2 F2 as2 g2 r2 s2=>⟨ρ2,O2,F2,as2,g4.trans g2,r2,s2,Qc8.gr g2 (Qc8.gr g3.toS k')⟩
    | bk ρ2 O2 =>
     rw [eb] at k'
     exact fun σ2 H2 F2 as2 g2 r2 s2=>k' σ2 H2 F2 as2 (g3.toS.trans g2) r2 s2
    | rt d O2 =>
     rw [eb] at k'
     exact fun v H2 F2 as2 g2 r2 s2=>k' v H2 F2 as2 (g3.toS.trans g2) r2 s2
    | ex x O2 =>
     rw [eb] at k'
     exact fun d H2 F2 as2 g2 r2 hx=>k' d H2 F2 as2 (g3.toS.trans g2) r2 hx
    | no=>rw [eb] at k'; exact False.elim k'
  ·have hi':i=ds.length:=by omega
   subst hi';refine .inl ⟨hJ.stop H' F' as' g' ⟨O',r'⟩,?_⟩;rw [List.drop_length] at k';exact k' σ' H' F' as' GrS.refl r' s'
theorem QnO {tg iter:Expr}{body:List Stmt}{pos:Pos}{m:M (List D)}{g:MG}{b:MS} (hc:X.calm=true) (hi:VI X md P tg iter m) (hg:VG X md P tg g) (hb:QfR X md P R body b) (hp:PassesOwn (model X.prog X.w) X.A X.env X.xe:=by exact PassesOwn.leaving)
  (hs:∀x,foldedSetIterable iter X.env x=pure x:=by intro _; rfl):VSF X md P R (.For tg iter body [] pos) (Qde m g b):=(Qnb hp hc hi hg hb hs).imp fun _ _ _ q=>QqZ q
def Qvn (K:Frag) (mg:Str→Option Value) (md:List Md) (P:Pt) (W:WX) (m:M (List D)):TI:=fun σ H Q=>∃ρ O F as,RlO K mg O H F as∧SlO K md P ρ σ H F as ∧
 match m ρ O with
 | .ok ds O'=>∀J H' F' as',Gr H F as H' F' as'→RlO K mg O' H' F' as'→JOk K mg P J ds H' F' as'→Q J H'
 | .ex x O'=>∀dxo H' F' as',Gr H F as H' F' as'→RlO K mg O' H' F' as'→XF K F' as' dxo x.fs→W x dxo H'
 | .no=>False
def VIF (X:Cx) (md:List Md) (P:Pt) (tg iter:Expr) (m:M (List D)):Prop:=PI X tg iter (Qvn X.K X.mg md P (exL X) m)
end
end L2
namespace L2
open PySem PySem.Spec PyProof.Rows PySem.W PySem.Builtin PySem.Builtin.ObjectAttr
theorem Ql5 {K:Frag}{h:Heap}{N:Addr}{m:Str→Option Value}{n:Str}{v:Value} (X:K.In h) (G:h.Ns N m) (e:nsIn K N n=some (some v)):m n=some v:=by
 obtain ⟨o,es,ep,ho,hd,_,hf⟩:=G;unfold nsIn at e;split at e
 ·rename_i q;have z:=X _ _ q;rw [ho] at z;cases z;cases hd;split at e
  ·rename_i en he;cases e;rw [←hf];unfold nsFind findBy;rw [←Array.find?_toList,he];rfl
  ·split at e <;> cases e
 ·cases e
def Qil (K:Frag) (C:Addr) (bmB:List Value) (newId:String) (fI:Addr):Bool:=match K.lookup C with
 | some ⟨.type "type",_,.cls cd,sl⟩=>(match cd.mro,sl.toList with
  | .ref C'::bm,[_,_,_,_,some (.builtin n),_]=>C' == C&&n == newId && !cd.hasDel&&tailIn K bmB bm&&nsOkIn K cd.ns&&nsIn K cd.ns "__init__" == some (some (.ref fI))&&cd.hasDict
  | _,_=>false)
 | _=>false
theorem Qki {K:Frag}{C fI:Addr}{id:String} (hq:Qil K C bmV id fI=true) :
  ∃bm N nm qn bs sn sub ab col dd k0 k1 k2 k3 k5,K.lookup C=some (excClassObj nm qn C N bs bm true sn sub ab col dd k0 k1 k2 k3 k5 id)∧tailIn K bmV bm=true∧nsOkIn K N=true∧nsIn K N "__init__" = some (some (.ref fI)):=by
 unfold Qil at hq;split at hq
 case h_2=>cases hq
 case h_1 dd cd sl lk =>
  split at hq
  case h_2=>cases hq
  case h_1 C1 bm k0 k1 k2 k3 nn k5 e1 e2 =>
   rw [zg,zg,zg,zg,zg,zg] at hq;obtain ⟨⟨⟨⟨⟨⟨p1,p2⟩,p3⟩,p4⟩,p5⟩,p6⟩,p7⟩:=hq;have q1:C1=C:=beq_iff_eq.mp p1;have q2:nn=id:=beq_iff_eq.mp p2;subst q1;subst q2
   rcases cd with ⟨nm,bs,mro,ns,qn,hd,sn,sub,ab,col,del⟩
   have e1':mro = .ref C1::bm:=e1
   have p3':del=false:=by
    have z:(!del)=true:=p3
    cases del with
    | false=>rfl
    | true=>cases z
   have p7':hd=true:=p7;subst e1';subst p3';subst p7'
   rcases sl with ⟨ls⟩
   have e2':ls = [k0,k1,k2,k3,some (.builtin nn),k5]:=e2;subst e2';exact ⟨bm,ns,nm,qn,bs,sn,sub,ab,col,dd,k0,k1,k2,k3,k5,lk,p4,p5,beq_iff_eq.mp p6⟩
theorem QhY {K:Frag} (self:Value):∀{l:List Value},tailIn K bmV l=true→refuseLoop self "__setattr__" l=pure ()
 | [],e=>by rw [show ([]:List Value)=bmV from (beq_iff_eq.mp e).symm]; exact PySem.F.store_ValueError.passes self
 | v::r,e=>by
  unfold tailIn at e
  rcases Bool.or_eq_true_iff.mp e with q | q
  ·rw [beq_iff_eq.mp q];exact PySem.F.store_ValueError.passes self
  ·split at q
   ·split at q
    ·rw [zg,zg] at q;rw [refuseLoop_ref];exact QhY self q.2
    ·cases q
   ·cases q
def Qgl (h:Heap) (C:Addr) (rest:List Value):Heap:=(h.push { cls:=.type "tuple",data:=.seq rest.toArray }).push { cls:=.ref C,data:=.fields #[.ref h.objs.size,.none,.none,.none,.bool false,.none] }
def QeC (C t:Addr) (dxo:Option Addr):Obj:={ cls:=.ref C,dict:=dxo,data:=.fields #[.ref t,.none,.none,.none,.bool false,.none] }
section
variable {prog:Program}{w:World}{A:Around}{E:Value→Shared→Prop}{h:Heap}{g:Array GenState}{d:Drawn}{t:Nat}{os:OsState}
variable {nm q:Str}{C N:Addr}{bs bm bmB:List Value}{hdct:Bool}{sn:List Str}{sub:List Value}{ab:Bool}{col:Option Bool}{dd:Option Addr}{k0 k1 k2 k3 k5:Option Value}{B newId initId:String}
theorem Qiu (F:ExcBaseFacts B newId initId bmB) (T:OwnTail h bmB bm) {mN:Str→Option Value}{rest:List Value}{fI:Addr}{oI:Obj}{Q:Fin→Shared→Prop}
  (hC:h.get? C=some (excClassObj nm q C N bs bm hdct sn sub ab col dd k0 k1 k2 k3 k5 newId)) (hn:h.Ns N mN) (hi:mN "__init__" = some (.ref fI)) (hfI:h.get? fI=some oI) (hfc:oI.cls = .type "function")
  (hq:wpAny (model prog w) A (call (.ref fI) (.ref (h.objs.size+1)::rest)) (fun r s'=>r = .none∧Q (.done (.ret (.ref (h.objs.size+1)))) s') E ⟨Qgl h C rest,g,d,t,os⟩) (hrest:rest.length≤sizeLine) :
  wpAny (model prog w) A (Builtin.«type.__call__» ⟨.ref C::rest,[]⟩) Q E ⟨h,g,d,t,os⟩:=by
 repeat (first | with_reducible refine wpAny_loadPart_at hC ?_ | with_reducible refine wpAny_madeBy_exc hC ?_ | wp_step)
 refine codeAny_call_builtin_code (Code.quiet_builtin _ F.quiet) (wpAny_check_new_subT F T hC ?_);refine codeAny_exc_new_subT F T hC ?_ hrest;show wpAny _ _ _ _ _ _;have hC₁:=zf { cls:=.ref C,data:=.fields #[.ref h.objs.size,.none,.none,.none,.bool false,.none] }
  (zf { cls:=.type "tuple",data:=.seq rest.toArray } hC)
 have hfI₁:=zf { cls:=.ref C,data:=.fields #[.ref h.objs.size,.none,.none,.none,.bool false,.none] }
  (zf { cls:=.type "tuple",data:=.seq rest.toArray } hfI)
 have hn₁:((h.push { cls:=.type "tuple",data:=.seq rest.toArray }).push { cls:=.ref C,data:=.fields #[.ref h.objs.size,.none,.none,.none,.bool false,.none] }).Ns N mN :=
  let ⟨o,es,ep,e,r⟩:=hn; ⟨o,es,ep,zf _ (zf _ e),r⟩
 have hget:((h.push { cls:=.type "tuple",data:=.seq rest.toArray }).push
   { cls:=.ref C,data:=.fields #[.ref h.objs.size,.none,.none,.none,.bool false,.none] }).get? (h.objs.size+1)=some
   { cls:=.ref C,data:=.fields #[.ref h.objs.size,.none,.none,.none,.bool false,.none] }:=by heap_get
 have hcC:(Value.ref C::bm).contains (.ref C)=true:=by simp
 have T₁:=T.keeps (h':=(h.push { cls:=.type "tuple",data:=.seq rest.toArray }).push { cls:=.ref C,data:=.fields #[.ref h.objs.size,.none,.none,.none,.bool false,.none] })
  fun b o e=>zf _ (zf _ e)
 unfold isInstance
 repeat (first | with_reducible refine wpAny_loadPart_at hget ?_ | (with_reducible refine wpAny_isSubtype_exc hC₁ ?_; rw [hcC]) | wp_step)
 show wpAny _ _ (typeLookup (.ref C) _) _ _ _;refine wpAny_typeLookup_tail hC₁ hn₁ T₁ F.mroIs F.init.lookup ?_;rw [hi];refine zC (za ?_);unfold bindSpecial;refine za (wpAny_typeOf (T:="function") ⟨_,hfI₁,hfc⟩ ?_);rw [if_pos (by decide)];refine zb (za (zr hq (fun r s' hr=>?_) fun _ _ x=>x));obtain ⟨rfl,hQ⟩:=hr
 wp_walk
 exact hQ
theorem Ql3 (F:ExcBaseFacts B newId initId bmB) (T:OwnTail h bmB bm) {mN:Str→Option Value}{rest:List Value}{fI:Addr}{oI:Obj}{Q:Value→Shared→Prop}
  (hC:h.get? C=some (excClassObj nm q C N bs bm hdct sn sub ab col dd k0 k1 k2 k3 k5 newId)) (hn:h.Ns N mN) (hi:mN "__init__" = some (.ref fI)) (hfI:h.get? fI=some oI) (hfc:oI.cls = .type "function")
  (hq:wpAny (model prog w) (A.under (.builtin "type.__call__" ⟨.ref C::rest,[]⟩)) (call (.ref fI) (.ref (h.objs.size+1)::rest)) (fun r s'=>r = .none∧Q (.ref (h.objs.size+1)) s') E ⟨Qgl h C rest,g,d,t,os⟩) (hrest:rest.length≤sizeLine) :
  wpAny (model prog w) A (call (.ref C) rest) Q E ⟨h,g,d,t,os⟩:=by
 have f1:=tc_lookup;have f2:=tc_bind (.ref C);have hT:(⟨h,g,d,t,os⟩:Shared).TypeIs (.ref C) "type":=⟨_,hC,rfl⟩;refine zR (codeAny_of_tree ?_);show wpAny _ _ (callAny (.ref C) _) _ _ _
 repeat (any_goals (first | assumption | with_reducible refine wpAny_loadPart_at hC ?_ | wp_step))
 refine ⟨rfl,?_⟩;exact codeAny_call_builtin_at (Code.quiet_builtin _ (by decide +kernel)) entry_typeCall (wpAny_check_type_call_sub hC (Qiu F T hC hn hi hfI hfc hq hrest))
theorem QjD {M:Model}{env:Env}{s:Shared}{x:Sem Value}{Q:Flow→Shared→Prop} (hbase:bm.contains (.type "BaseException")=true) (hh:A.handled=none)
  (h:wpAny M A x (fun v s₁=>∃e t dxo,v = .ref e∧s₁.heap.get? C=some (excClassObj nm q C N bs bm hdct sn sub ab col dd k0 k1 k2 k3 k5 newId)∧s₁.heap.get? e=some (QeC C t dxo)∧E (.ref e) s₁) E s) :
  wpAny M A (raiseStmt env (some x) none) Q E s:=by
 have hcB:(Value.ref C::bm).contains (.type "BaseException")=true:=by rw [List.contains_cons,hbase,Bool.or_true]
 unfold raiseStmt;refine za (zr h (fun v s₁ h₁=>?_) fun _ _ x=>x);obtain ⟨e,t,dxo,rfl,hC,he,hE⟩:=h₁;unfold QeC at he;obtain ⟨hp,g,d,tk,os⟩:=s₁
 repeat (first | with_reducible refine wpAny_loadPart_at he ?_ | with_reducible refine wpAny_loadPart_at hC ?_ | (with_reducible refine wpAny_isSubtype_exc hC ?_; rw [hcB]) | wp_step)
 exact wpAny_raiseNew_none hh hE
theorem QqM {K:Frag}{x:Addr}{ox:Obj}{name:Str}{tk:Tok}{v:Value}{cd:ClassData}{Q:Fin→Shared→Prop} (X:K.In h) (hx:h.get? x=some ox) (hc:ox.cls = .ref C) (hnd:ox.dict=none) (hda:∃ws,ox.data = .fields ws)
  (hcd:clsIn K C=some cd) (hhd:cd.hasDict=true) (hrf:refuseLoop (.ref x) "__setattr__" cd.mro=pure ()) (hna:findIn K (.ref C) name=some none)
  (hq:∀h' tk',h'.Ns1 h.objs.size (fun y=>if y=name then some v else none)→h'.get? x=some { ox with dict:=some h.objs.size }→(∀b o,b≠x→h.get? b=some o→h'.get? b=some o)→Q (.done (.ret .none)) ⟨h',g,d,tk',os⟩) :
  wpAny (model prog w) A (Builtin.«object.__setattr__» ⟨[.ref x,.str name tk,v],[]⟩) Q E ⟨h,g,d,t,os⟩:=by
 obtain ⟨ws,hda⟩:=hda;have L0:Looks (model prog w) h (typeOf (.ref x)) (.ref C):=hc ▸ (Looks.ld hx).andThen .now;have hm:Looks (model prog w) h (mroOf (.ref C)) cd.mro:=(looks_clsIn X hcd).andThen .now;have L2:=looks_findIn (M:=model prog w) X hna;rw [osa_eq,refuse_eq];refine za (za (L0.at (za (hm.at ?_))));rw [hrf];refine zb (za (L0.at (za (L2.at (za (zb ?_))))));show wpAny _ _ (storeInOwnDict _ _ _ _ _ _) _ _ _;unfold storeInOwnDict;refine za (zb (za ?_));unfold ownDictForStores instanceDict;dsimp only;refine za (wpAny_loadPart hx ?_);obtain ⟨oc,odi,oda,osl⟩:=ox;dsimp only at hc hnd hda
 subst hc hnd hda;refine za ((looks_clsIn X hcd).at ?_);rw [hhd];rw [if_neg (by decide),if_neg (by simp [typeHasDict])];have hx₁:=zf { cls:=.type "dict",data:=.dict #[] } hx;have hxs:x≠h.objs.size:=zl (zd hx);refine za (wpAny_alloc' ?_);refine za (wpAny_update' hx₁ ?_);refine zb ?_;have hgd:((h.push { cls:=.type "dict",data:=.dict #[] }).update x fun o=>{ cls:=o.cls,dict:=some h.objs.size,data:=o.data,slots:=o.slots }).get? h.objs.size=some { cls:=.type "dict",data:=.dict #[] } :=
  (Heap.get?_update_ne _ _ _ _ hxs.symm).trans (Heap.get?_push_at rfl rfl)
 have hnd:((h.push { cls:=.type "dict",data:=.dict #[] }).update x fun o=>{ cls:=o.cls,dict:=some h.objs.size,data:=o.data,slots:=o.slots }).Ns h.objs.size (fun _=>none) :=
  ⟨_,#[],_,hgd,rfl,fun e he=>absurd he (by simp),fun _=>rfl⟩
 show wpAny _ _ (storeInDict h.objs.size (.str name tk) name v) _ _ _;unfold storeInDict newKeyGuard;refine za (zb (za (wpAny_nsSet1 (Heap.Ns1.of_empty hnd) fun h' hn' hs=>?_)));obtain ⟨oD,esD,epD,hoD,hdD,hcD⟩:=hn'.count (Within.cons name v Within.nil);refine za (wpAny_lookBehind hoD (by rw [hdD]; exact pastItsLine_dict (zz hcD (by rw [zJ,List.length_nil,sizeLine_eq]; omega))) ?_)
 wp_walk
 refine hq h' _ hn' ((hs.2 x hxs).trans (Heap.get?_update_self _ hx₁ rfl)) fun b ob hbx hb=>?_
 exact (hs.2 b (zl (zd hb))).trans ((Heap.get?_update_ne _ _ _ _ hbx).trans (zf _ hb))
end
def xoK (C t ea:Addr) (dxo:Option Addr):HO:=.ext fun h=>h.get? ea=some (QeC C t dxo)
theorem Qm5 {P:Program}{w:World}{H:Hp}{h:Heap}{C t ea:Addr}{dxo:Option Addr} (e:h.get? ea=some (QeC C t dxo)):Qbh P w H h ea (xoK C t ea dxo):=⟨e,⟨_,e⟩,fun _ _ z k=>k _ z⟩
theorem QnQ {P:Program}{w:World}{H:Hp}{h:Heap}{C t ea:Addr}{dxo:Option Addr} (q:Qbh P w H h ea (xoK C t ea dxo)):h.get? ea=some (QeC C t dxo):=q.1
def spI (C:Addr) (name:Str):Sp:=fun vs H Q _=>∃ea t v,vs = [.ref ea,v]∧H ea=some (xoK C t ea none)∧∀dx od,H dx=none→dx≠ea→Q .non (upd (upd H dx (.frz od (.xd [(name,v)]))) ea (xoK C t ea (some dx)))
structure QkL (K:Frag) (C fI:Addr) (name:Str):Prop where
 cl:Qil K C bmV "ValueError.__new__" fI=true
 sa:findIn K (.ref C) "__setattr__" = some (some (.builtin "object.__setattr__"))
 na:findIn K (.ref C) name=some none
 ob:mroIn K C (.type "object")=some true
section
variable {X:Cx}{pins:List (Addr×Obj)}{σ:St}{H:Hp}{s:Shared}{ea C fI t:Addr}{name:Str}{v:V}{u:Value}
theorem Qqj {A:Around}{E:Value→Shared→Prop}{Q:Unit→Shared→Prop} (I:Inv X pins σ H s) (Z:QkL X.K C fI name) (e:H ea=some (xoK C t ea none)) (rv:RelV v u)
  (hq:∀dx od s',H dx=none→dx≠ea→Inv X pins σ (upd (upd H dx (.frz od (.xd [(name,v)]))) ea (xoK C t ea (some dx))) s'→Q () s'):wpAny (model X.prog X.w) A (setAttr (.ref ea) name u) Q E s:=by
 have hx:=QnQ (I.hok ea _ e);obtain ⟨bm,N,nm,qn,bs,sn,sub,ab,col,dd,k0,k1,k2,k3,k5,lk,ht,_,_⟩:=Qki Z.cl;have SF:=PySem.F.store_object
 obtain ⟨cd,hcl,hm,hhd⟩:∃cd,clsIn X.K C=some cd∧cd.mro = .ref C::bm∧cd.hasDict=true:=by
  refine ⟨_,by unfold clsIn; rw [show X.K.lookup C=_ from lk],rfl,rfl⟩
 refine set_plain (od:=none) I.kIn ⟨hx,rfl,rfl,trivial⟩ Z.sa ?_;have L0:Looks (model X.prog X.w) s.heap (isInstance (.ref ea) (.type "object")) true:=(show Looks (model X.prog X.w) s.heap (typeOf (.ref ea)) (.ref C) from (Looks.ld hx).andThen .now).andThen (looks_mroIn I.kIn Z.ob);refine codeAny_call_builtin SF.slot.plain SF.entry (@check_slot (model X.prog X.w) _ _ { s with toks:=s.toks+1 } "object.__setattr__" "object" "__setattr__" (.ref ea) [.str name s.toks,u] [] _ SF.kind SF.split L0 (SF.args (.ref ea) (.str name s.toks) u) ?_)
 refine QqM I.kIn hx rfl rfl ⟨_,rfl⟩ hcl hhd (by rw [hm,refuseLoop_ref]; exact QhY _ ht) Z.na fun h' tk' hns hex hk=>?_
 show Q () _;have hfr:H s.heap.objs.size=none:=I.hok.fresh (zc _);have hne:s.heap.objs.size≠ea:=(zl (zd hx)).symm;obtain ⟨od,es,ep,hod,hr⟩:=id hns;refine hq s.heap.objs.size od _ hfr hne (I.un ⟨fun b o q n _ _=>?_,fun b o q n _ _=>?_,fun b o q n _=>?_,fun b o q _=>?_,fun b xs q=>?_,fun b o u' q=>?_,fun b ps q=>?_⟩ fun b o q=>?_)
 ·exact hk b o (fun z=>by rw [z,e] at n; cases n) q
 ·exact ⟨o.slots,hk b o (fun z=>by rw [z,e] at n; cases n) q⟩
 ·rw [Qan (fun z=>by rw [z,e] at n; cases n),Qan (zl (zd q))];exact n
 ·by_cases z:b=ea
  ·exact ⟨_,z ▸ hex⟩
  ·exact ⟨o,hk b o z q⟩
 ·rw [Qan (fun z=>by rw [z,e] at q; cases q),Qan (fun z=>by rw [z,hfr] at q; cases q)];exact q
 ·rw [Qan (fun z=>by rw [z,e] at q; cases q),Qan (fun z=>by rw [z,hfr] at q; cases q)];exact q
 ·refine ⟨#[],?_⟩;rw [Qan (fun z=>by rw [z,e] at q; cases q),Qan (fun z=>by rw [z,hfr] at q; cases q),Array.append_empty];exact q
 ·by_cases z:b=ea
  ·subst z;rw [QaE] at q;cases q;exact Qm5 hex
  ·rw [Qan z] at q
   by_cases y:b=s.heap.objs.size
   ·subst y;rw [QaE] at q;cases q;refine ⟨hod,_,hns,fun f=>?_⟩
    by_cases hf:f=name
    ·rw [if_pos hf,hf];show Qc4 (List.lookup name [(name,v)]) _;rw [show List.lookup name [(name,v)]=some v by simp [List.lookup]];exact rv
    ·have hb:(f == name)=false:=beq_eq_false_iff_ne.mpr hf;rw [if_neg hf,show List.lookup f [(name,v)]=none by simp only [List.lookup,hb]];exact True.intro
   ·rw [Qan y] at q
    refine (I.hok b o q).stay (fun b' u' hb' q'=>hk b' u' (fun x=>?_) q') (fun b' q'=>?_) fun b' xs q'=>?_
    ·rcases hb' with rfl | hb'
     ·exact z x
     ·rw [x,e] at hb';cases hb'
    ·rw [Qan (fun x=>by rw [x,e] at q'; cases q'),Qan (fun x=>by rw [x,hfr] at q'; cases q')];exact q'
    ·rw [Qan (fun x=>by rw [x,e] at q'; cases q'),Qan (fun x=>by rw [x,hfr] at q'; cases q')];exact q'
def QtH (C:Addr) (name:Str):TS:=fun D σ H=>∃ea t v,σ[0]? = some (some (.ref ea))∧σ[1]? = some (some v)∧H ea=some (xoK C t ea none)∧∀dx od,H dx=none→dx≠ea→D.nx σ (upd (upd H dx (.frz od (.xd [(name,v)]))) ea (xoK C t ea (some dx)))
theorem Qqe {sf pn:Str}{p1 p2 p3 p4:Pos} (Z:QkL X.K C fI name) (h0:X.N[0]? = some sf) (h1:X.N[1]? = some pn) (v0:Vis X.env.scope sf) (v1:Vis X.env.scope pn) (d0:(sf == ("__debug__":Str))=false) (d1:(pn == ("__debug__":Str))=false) (c0:(sf == ("__classdict__":Str))=false) (c1:(pn == ("__classdict__":Str))=false)
  (hs:swapsWith (.Name pn p3) (some (.Attribute (.Name sf p1) name p2)) p4.line X.env=pure false):PS X (.Assign [.Attribute (.Name sf p1) name p2] (.Name pn p3) p4) (QtH C name):=by
 intro pins s σ H D I q;obtain ⟨ea,t,v,e0,e1,eh,k⟩:=q;refine plainObj_wpAny_Assign_Attribute (thn (QeD (i:=1) h1 v1 d1 c1 pins s σ H (fun v' H1=>v'=v∧H1=H) I ⟨v,e1,rfl,rfl⟩) fun u s1 z=>?_) hs;obtain ⟨_,_,I1,ru,rfl,rfl⟩:=z
 refine thn (QeD (i:=0) h0 v0 d0 c0 pins s1 σ _ (fun v' H1=>v' = .ref ea∧H1=_) I1 ⟨.ref ea,e0,rfl,rfl⟩) fun ov s2 z=>?_
 obtain ⟨_,_,I2,ro,rfl,rfl⟩:=z;obtain rfl:ov=Value.ref ea:=ro
 exact Qqj I2 Z eh ru fun dx od s3 n1 n2 I3=>⟨σ,_,I3,k dx od n1 n2⟩
theorem Inv.dropH {H':Hp}{φ:Heap→Prop} (I:Inv X pins σ H s) (he:H ea=some (.ext φ)) (h1:∀b,b≠ea→H' b=H b) (h2:H' ea=none):Inv X pins σ H' s:=by
 have nn:∀b,H b=none→H' b=none:=fun b n=>by
  by_cases z:b=ea
  ·rw [z]; exact h2
  ·rw [h1 b z]; exact n
 have ne:∀b o,H b=some o→(∀φ,o≠.ext φ)→H' b=some o:=fun b o q n=>by
  rw [h1 b fun z=>by rw [z,he] at q; cases q; exact n _ rfl];exact q
 refine ⟨I.ok,I.os,I.bare,⟨I.base.keep,I.base.slot,fun b o q n hx=>nn b (I.base.free b o q n hx),I.base.there,fun b xs q=>ne b _ (I.base.tups b xs q) (fun _ z=>nomatch z),fun b o u q=>ne b _ (I.base.frzs b o u q) (fun _ z=>nomatch z),fun b ps q=>?_⟩,I.loc,I.cell,nn _ I.free,fun x c q=>nn _ (I.freeC x c q),fun p hp=>?_,fun b o q=>?_,I.len⟩
 ·obtain ⟨more,q'⟩:=I.base.tbls b ps q;exact ⟨more,ne b _ q' fun _ z=>nomatch z⟩
 ·obtain ⟨e,n,nl,nf,d⟩:=I.pin p hp;exact ⟨e,nn _ n,nl,nf,d⟩
 ·have hb:b≠ea:=fun z=>by rw [z,h2] at q; cases q
  rw [h1 b hb] at q
  exact (I.hok b o q).stay (fun _ _ _ e=>e) (fun b' q'=>ne b' _ q' fun _ z=>nomatch z) fun b' xs q'=>ne b' _ q' fun _ z=>nomatch z
end
def QkA (P:Program) (w:World) (K:Frag) (mg:Str→Option Value) (base:Heap) (c name:Str) (k:Nat):Prop :=
 ∃(C fI:Addr) (fd:FuncData) (ps:List Str),mg c=some (.ref C)∧QkL K C fI name∧isFn K (.ref fI)=true∧Binds K fd ps []∧QbB P w K mg base CX0 k fI fd ps (spI C name)
section
variable {Pr:Program}{w:World}{K:Frag}{mg:Str→Option Value}{base:Heap}
theorem QtA {c name qual sf pn:Str}{st:Stmt}{C fI:Addr}{fd:FuncData}{p1 p2 p3 p4:Pos} (hC:mg c=some (.ref C)) (Z:QkL K C fI name) (hf:isFn K (.ref fI)=true) (Fn:Fun K "__init__" qual st fI fd) (S:QaO [sf,pn] [sf,pn] (Qao st))
  (hb:∀(kV doc pm:Value) (an:Option Addr) (cdv ct:Value) (us:List Value),us.length = [sf,pn].length→bindArgs (PySem.W.fnOf "__init__" qual (QbU st) (Qa8 st) (Qao st) .none kV doc pm an cdv ct) ⟨us,[]⟩=pure ([sf,pn].zip us))
  (hbo:Qa8 st = [.Assign [.Attribute (.Name sf p1) name p2] (.Name pn p3) p4]) (v0:Vis (Qao st) sf) (v1:Vis (Qao st) pn) (d0:(sf == ("__debug__":Str))=false) (d1:(pn == ("__debug__":Str))=false) (c0:(sf == ("__classdict__":Str))=false) (c1:(pn == ("__classdict__":Str))=false)
  (hs:∀L f cdv,swapsWith (.Name pn p3) (some (.Attribute (.Name sf p1) name p2)) p4.line (envOfC qual (Qao st) L f cdv)=pure false):QkA Pr w K mg base c name 1:=by
 have hbi:=Fn.binds hb;obtain ⟨oc,od,kV,doc,pmv,an,cdv,ct,osl,rfl,lk,hcd⟩:=Fn.ex;refine ⟨C,fI,_,_,hC,Z,hf,hbi,QmK lk hcd S (fun vs H Q E h=>?_) fun A outer s H vs Q E hr h=>?_⟩
 ·obtain ⟨ea,t,v,rfl,_⟩:=h;rfl
 ·obtain ⟨ea,t,v,rfl,e,k⟩:=h;rw [hbo];exact ⟨_,Qlb (Qqe (X:=QcS CX0 Pr w K mg base [sf,pn] qual (Qao st) fI cdv A outer s H E) Z rfl rfl v0 v1 d0 d1 c0 c1 (hs _ _ _)),ea,t,v,rfl,rfl,e,k⟩
end
section
variable {prog:Program}{w:World}{A:Around}{E:Value→Shared→Prop}{s:Shared}{env:Env}
variable {nm q:Str}{C N:Addr}{bs bm:List Value}{hdct:Bool}{sn:List Str}{sub:List Value}{ab:Bool}{col:Option Bool}{dd:Option Addr}{k0 k1 k2 k3 k5:Option Value}{newId:String}
theorem Qk3 {x:Str}{np cpos pos:Pos}{args:List Expr}{Q:Flow→Shared→Prop} (hbase:bm.contains (.type "BaseException")=true) (hh:A.handled=none) (hplain:(backTo cpos (starEach args env)).any (·.1)=false)
  (h:wpAny (model prog w) A (eval (.Name x np) env) (fun f s₁=>f = .ref C∧wpAny (model prog w) A (evalArgs (.ref C) true (backTo cpos (starEach args env)) [])
   (fun a s₂=>a.kw = []∧s₂.heap.get? C=some (excClassObj nm q C N bs bm hdct sn sub ab col dd k0 k1 k2 k3 k5 newId)∧wpAny (model prog w) A (call (.ref C) a.pos) (fun v s₃=>∃e t dxo,v = .ref e∧s₃.heap.get? C=some (excClassObj nm q C N bs bm hdct sn sub ab col dd k0 k1 k2 k3 k5 newId)∧s₃.heap.get? e=some (QeC C t dxo)∧E (.ref e) s₃) E s₂) E s₁) E s) :
  wpAny (model prog w) A (exec (.Raise (some (.Call (.Name x np) args [] cpos)) none pos) env) Q E s:=by
 rw [arm_exec_Raise]
 first
  | refine za (wpAny_standAt (QjD (C:=C) (nm:=nm) (q:=q) (N:=N) (bs:=bs) (bm:=bm) (hdct:=hdct) (sn:=sn) (sub:=sub) (ab:=ab) (col:=col) (dd:=dd) (k0:=k0) (k1:=k1) (k2:=k2) (k3:=k3) (k5:=k5) (newId:=newId) hbase hh (za (zr (wpAny_Call_ofName (zr h (fun f s₁ h₁=>?_) fun _ _ x=>x)) (fun v s₃ h₃=>za (wpAny_standAt (zb h₃))) fun _ _ x=>x))))
  | (simp only [evalOpt,Option.map]; refine za (wpAny_standAt (QjD (C:=C) (nm:=nm) (q:=q) (N:=N) (bs:=bs) (bm:=bm) (hdct:=hdct) (sn:=sn) (sub:=sub) (ab:=ab) (col:=col) (dd:=dd) (k0:=k0) (k1:=k1) (k2:=k2) (k3:=k3) (k5:=k5) (newId:=newId) hbase hh (za (zr (wpAny_Call_ofName (zr h (fun f s₁ h₁=>?_) fun _ _ x=>x)) (fun v s₃ h₃=>za (wpAny_standAt (zb h₃))) fun _ _ x=>x)))))
 obtain ⟨rfl,h₁⟩:=h₁;unfold callWith;refine za (zC (zr h₁ (fun a s₂ h₂=>za (wpAny_standAt ?_)) fun _ _ x=>x));obtain ⟨apos,akw⟩:=a;obtain ⟨hkw,hC,h₂⟩:=h₂;obtain rfl:akw = []:=hkw;obtain ⟨hp,g,d,tk,os⟩:=s₂;simp only [hplain];refine za (wpAny_keeperOf_exc hC ?_);exact za (zr h₂ (fun v s₃ h₃=>za (zC (wpAny_point (zb h₃)))) fun _ _ z=>z)
end
section
variable {X:Cx}{md:List Md}{P:Pt}{R:RR}
def QcE (c name:Str) (m:M D):MS:=fun ρ O=>match m ρ O with
 | .ok d O'=>.ex ⟨c,[(name,d)]⟩ O'
 | _=>.no
theorem Qhr {c name:Str}{k:Nat}{p cpos pos:Pos}{a:Expr}{m:M D} (Cn:QkA X.prog X.w X.K X.mg X.base c name k) (hr:QaR (k+1) X.A) (hc:X.calm=true) (ha:VE X md P a m) (hg:Gl X c:=by rfl) (hd:(c == ("__debug__":Str))=false:=by decide)
  (hs1:starEach [a] X.env=(false,eval a X.env)::starEach [] X.env:=by exact Qbq rfl) (hpl:(backTo cpos (starEach [a] X.env)).any (·.1)=false:=by rfl) :
  VSF X md P R (.Raise (some (.Call (.Name c p) [a] [] cpos)) none pos) (QcE c name m):=by
 intro pins s σ H D I q;obtain ⟨ρ,O,F,as,r,sl,k0⟩:=q;obtain ⟨C,fI,fd,ps,hC,Z,hf,hb,Fn⟩:=Cn;unfold QcE at k0
 cases em:m ρ O with
 | ex x O'=>rw [em] at k0; exact False.elim k0
 | no=>rw [em] at k0; exact False.elim k0
 | ok d O' =>
  rw [em] at k0;dsimp only at k0;obtain ⟨bm,N,nm,qn,bs,sn,sub,ab,col,dd,kk0,kk1,kk2,kk3,kk5,lk,ht,hno,hin⟩:=Qki Z.cl;refine Qk3 (C:=C) (nm:=nm) (q:=qn) (N:=N) (bs:=bs) (bm:=bm) (hdct:=true) (sn:=sn) (sub:=sub) (ab:=ab) (col:=col) (dd:=dd) (k0:=kk0) (k1:=kk1) (k2:=kk2) (k3:=kk3) (k5:=kk5) (newId:="ValueError.__new__") ((tail_of_in I.kIn ht).hasType PySem.F.excBase_ValueError.hasBase) (I.ok.hd hc) hpl (Qd7 I hg hC ⟨rfl,?_⟩ hd);have hA:=Qcb ha Qdc hs1 cpos pins s σ H (fun vs H1=>∃v F1 as1,vs = [v]∧Gr H F as H1 F1 as1∧RlO X.K X.mg O' H1 F1 as1∧Rp X.K F1 as1 v d) I ⟨ρ,O,F,as,d,O',r,sl,em,fun v H1 F1 as1 g1 r1 hv=>⟨v,F1,as1,rfl,g1,r1,hv⟩⟩
  rw [hs1] at hA ⊢;refine Calls.evalArgs_plain (thn hA fun us s1 z=>?_);obtain ⟨vs,H1,I1,rv,v,F1,as1,rfl,g1,r1,hv⟩:=z;obtain ⟨u,rfl,ru⟩:=vals1 rv;refine ⟨rfl,I1.kIn _ _ lk,?_⟩;have hfr:H1 (s1.heap.objs.size+1)=none:=I1.hok.fresh (Nat.le_succ _)
  have kp:∀b o,s1.heap.get? b=some o→(Qgl s1.heap C [u]).get? b=some o:=fun b o e=>zf _ (zf _ e)
  have hge:(Qgl s1.heap C [u]).get? (s1.heap.objs.size+1)=some (QeC C s1.heap.objs.size none):=by
   unfold Qgl QeC;exact Heap.get?_push_at (by rw [Heap.size_push]) rfl
  have I2:Inv X pins σ (upd H1 (s1.heap.objs.size+1) (xoK C s1.heap.objs.size (s1.heap.objs.size+1) none)) { s1 with heap:=Qgl s1.heap C [u] }:=I1.laid (t':=s1.toks) kp (Nat.le_succ _) (Qm5 hge);have hns:s1.heap.Ns N _:=.of_isNs (isNs_of_in I1.kIn hno);have hfo:typeIn X.K (.ref fI)=some (.type "function"):=beq_iff_eq.mp hf
  obtain ⟨oI,hoI,hoc⟩:∃oI,s1.heap.get? fI=some oI∧oI.cls = .type "function":=by
   obtain ⟨o,ho,hc'⟩:=Option.map_eq_some_iff.mp (show (X.K.lookup fI).map (·.cls)=some (.type "function") from hfo);exact ⟨o,I1.kIn _ _ ho,hc'⟩
  obtain ⟨hh,gg,dr,tk,os⟩:=s1;refine Ql3 PySem.F.excBase_ValueError (tail_of_in I1.kIn ht) (I1.kIn _ _ lk) hns (Ql5 I1.kIn hns hin) hoI hoc ?_ (by rw [sizeLine_eq]; show (1:Nat)≤16777216; decide);have sp:spI C name [.ref (hh.objs.size+1),v] (upd H1 (hh.objs.size+1) (xoK C hh.objs.size (hh.objs.size+1) none)) (fun v' H2=>v' = .non∧∃dx od,upd H1 (hh.objs.size+1) (xoK C hh.objs.size (hh.objs.size+1) none) dx=none∧dx≠hh.objs.size+1∧H2=upd (upd (upd H1 (hh.objs.size+1) (xoK C hh.objs.size (hh.objs.size+1) none)) dx (.frz od (.xd [(name,v)]))) (hh.objs.size+1) (xoK C hh.objs.size (hh.objs.size+1) (some dx))) (fun _ _ _=>False) :=
   ⟨_,_,v,rfl,QaE,fun dx od n1 n2=>⟨rfl,dx,od,n1,n2,rfl⟩⟩
  have hl:=Fn.len _ _ _ _ sp;have bi:=hb { heap:=Qgl hh C [u],gens:=gg,drawn:=dr,toks:=tk,os:=os } [.ref (hh.objs.size+1),u] I2.kIn hl;rw [zL] at bi;refine zR (codeAny_mono (Fn.run _ X.stack _ _ ⟨[.ref (hh.objs.size+1),u],[]⟩ [.ref (hh.objs.size+1),u] [.ref (hh.objs.size+1),v] _ _ (hr.make C [u] []) (I2.env0.make C [u] []) bi (.cons rfl (.cons ru .nil)) sp) fun res s2 hq=>?_)
  cases res with
  | error e=>exact False.elim hq
  | ok fl =>
   cases fl with
   | ret u' =>
    obtain ⟨v',H2,I3,rv',rfl,dx,od,n1,n2,rfl⟩:=I2.after hq;refine ⟨rv',?_⟩;have hx:=QnQ (I3.hok (hh.objs.size+1) _ QaE)
    have e1:H1 dx=none:=by rw [Qan n2] at n1; exact n1
    have I4:Inv X pins σ (upd H1 dx (.frz od (.xd [(name,v)]))) s2:=I3.dropH (ea:=hh.objs.size+1) QaE (fun b hb=>by
     rw [Qan hb];unfold upd
     rw [if_neg hb]) (by rw [Qan n2.symm]; exact hfr)
    refine ⟨_,_,_,rfl,I3.kIn _ _ lk,hx,?_⟩;have fN:F1 dx=none:=r1.frF e1;have g2:Gr H1 F1 as1 (upd H1 dx (.frz od (.xd [(name,v)]))) (upd F1 dx (.frz od (.xd [(name,v)]))) as1:=(Gr.lay e1).frz e1 fN;have r2:RlO X.K X.mg O' (upd H1 dx (.frz od (.xd [(name,v)]))) (upd F1 dx (.frz od (.xd [(name,v)]))) as1:=(r1.lay e1).frz QaE fN (fun z=>r1.all z e1) rfl;have wx:=k0 (some dx) _ _ as1 (g1.trans g2).toS r2 (.inr ⟨dx,od,[(name,v)],rfl,QaE,rfl,Rps.cons (Rp.gr hv g2) Rps.nil⟩);refine wx.1 pins σ s2 (hh.objs.size+1) C hC I4 ⟨_,_,_,hx,rfl,rfl,rfl,rfl,rfl,by rw [Qan n2.symm]; exact hfr,Heap.get?_none_of_le (zz I1.sz (Nat.le_succ _))⟩
   | next=>exact False.elim hq
   | brk=>exact False.elim hq
   | cont=>exact False.elim hq
end
end L2
namespace L2
open PySem PySem.Spec PyProof.Rows PySem.W
def Cx.inH (X:Cx) (ea:Addr):Cx:={ X with A:=X.A.mark (some (.ref ea)),calm:=false,xe:=fun _ _=>False }
def xcO (oe:Obj):HO:=.frz oe (.ext fun _=>True)
section
variable {X:Cx}{md:List Md}{P:Pt}{R:RR}{pins:List (Addr×Obj)}{σ:St}{H:Hp}{s:Shared}{ea:Addr}{oe:Obj}
theorem Inv.inH (I:Inv X pins σ H s) (ea:Addr):Inv (X.inH ea) pins σ H s:=by
 have ok:=I.ok;exact ⟨⟨ok.mod,ok.kind,ok.glob,ok.blt,ok.above,ok.inj,ok.has,ok.cab,(fun z=>(nomatch z)),ok.frames,ok.stk,ok.exf,ok.bs,ok.bsz,ok.noex,ok.exfs,ok.funs,ok.frf⟩,I.os,I.bare,I.base,I.loc,I.cell,I.free,I.freeC,I.pin,I.hok,I.len⟩
theorem Inv.outH (ok:X.Ok) (I:Inv (X.inH ea) pins σ H s):Inv X pins σ H s:=⟨ok,I.os,I.bare,I.base,I.loc,I.cell,I.free,I.freeC,I.pin,I.hok,I.len⟩
theorem Inv.trackX {ws:Array Value} (I:Inv X pins σ H s) (he:s.heap.get? ea=some oe) (hd:oe.data = .fields ws) (hn:H ea=none) (h0:X.s₀.heap.get? ea=none) (hl:ea≠X.env.locals) (hp:∀p∈X.pn++pins,p.1≠ea):Inv X pins σ (upd H ea (xcO oe)) s:=by
 have ne:∀b o,H b=some o→upd H ea (xcO oe) b=some o:=fun b o q=>by
  rw [Qan (QaA q hn)];exact q
 refine ⟨I.ok,I.os,I.bare,⟨I.base.keep,I.base.slot,fun b o q n hx=>?_,I.base.there,fun b xs q=>ne b _ (I.base.tups b xs q),fun b o u q=>ne b _ (I.base.frzs b o u q),fun b ps q=>?_⟩,I.loc,I.cell,?_,fun x c q=>?_,fun p hp'=>?_,fun b o q=>?_,I.len⟩
 ·rw [Qan (fun z=>by rw [z,h0] at q; cases q)];exact I.base.free b o q n hx
 ·obtain ⟨more,q'⟩:=I.base.tbls b ps q;exact ⟨more,ne b _ q'⟩
 ·rw [Qan hl.symm];exact I.free
 ·rw [Qan (fun z=>?_)]
  ·exact I.freeC x c q
  ·obtain ⟨v,o,ho,hc⟩:=I.cell x c q;rw [z,he] at ho;cases ho;rw [hd] at hc;cases hc
 ·obtain ⟨e,n,nl,nf,d⟩:=I.pin p hp';exact ⟨e,by rw [Qan (hp p hp')]; exact n,nl,nf,d⟩
 ·by_cases z:b=ea
  ·subst z;rw [QaE] at q;cases q;exact ⟨he,True.intro,⟨_,he⟩,fun _ _ _ _=>True.intro⟩
  ·rw [Qan z] at q
   exact (I.hok b o q).stay (fun _ _ _ e=>e) (fun b' q'=>ne b' _ q') fun b' xs q'=>ne b' _ q'
def D3F (D:Ends) (i:Nat):Ends:={ nx:=fun σ' H'=>D.nx (σ'.set i none) H',rt:=D.rt }
def HsF (X:Cx) (D:Ends) (σ:St) (H:Hp) (ea C:Addr) (dxo:Option Addr):List ExceptHandler→Prop
 | .ExceptHandler (some (.Name T p)) (some n) (b₀::suite) pos::rest=>∃A,X.mg T=some (.ref A)∧Gl X T∧(T == ("__debug__":Str))=false ∧
   ((exmOne X.K (.ref C) (.ref A)=some false∧HsF X D σ H ea C dxo rest)∨(exmOne X.K (.ref C) (.ref A)=some true∧∃i,X.N[i]? = some n∧X.env.kindOf n=some .local ∧
    ∀oe:Obj,oe.cls = .ref C→oe.dict=dxo→(∃ws,oe.data = .fields ws)→∃t,PSs (X.inH ea) (b₀::suite) t∧t (D3F D i) (σ.set i (some (.ref ea))) (upd H ea (xcO oe))))
 | _=>False
theorem QqW {D:Ends}{B:Heap}{C:Addr}{a0:Value}{dxo:Option Addr} (hst:X.stack=X.env::X.outer) (hfr:X.env.frame=some X.env.locals) (hN:X.N.Nodup) (hn:H ea=none) (h0:X.s₀.heap.get? ea=none) (hp:∀p∈X.pn++pins,p.1≠ea)
  (inv:∀h2:Heap,B.StaysIn h2→s.heap.UpToSlots h2→Inv X pins σ H { s with heap:=h2 }) (fl:Heap.FlyingW B (X.env::X.outer) ea (.ref C) a0 s.heap) (hdi:∃oe,s.heap.get? ea=some oe∧oe.dict=dxo) :
  ∀{hs:List ExceptHandler},HsF X D σ H ea C dxo hs→wpAny (model X.prog X.w) X.A (handleBy (.ref ea) X.env hs) (SP X pins D) X.xe s:=by
 have apart:∀(h2:Heap) (oe:Obj) (ws:Array Value),h2.FunFrames B (X.env::X.outer)→h2.get? ea=some oe→oe.data = .fields ws→ea≠X.env.locals:=fun h2 oe ws ff he hd z=>by
  have hb:X.env.locals∈(X.env::X.outer).filterMap (·.frame):=by
   rw [List.filterMap_cons,hfr];exact zK
  obtain ⟨_,o,ho,nf⟩:=ff.mem hb;rw [←z,he] at ho;cases ho;exact nf ws hd
 have I2:Inv X pins σ H s:=inv s.heap fl.1 (Heap.UpToSlots.refl _)
 obtain ⟨oe,ws,hoe,hoec,hoed,_⟩:=fl.first
 intro hs
 induction hs with
 | nil=>exact fun h=>False.elim h
 | cons hd rest ih =>
  intro h;unfold HsF at h;split at h
  ·rename_i T p n b₀ suite pos rest' eq;cases eq;obtain ⟨A,hT,hgT,hTd,h⟩:=h;refine wpAny_handleBy_cons (codeAny_handlers_test ?_) (by intro q; cases q);refine Qd7 (X:=X.inH ea) (I2.inH ea) hgT hT ?_ hTd
   rcases h with ⟨hex,h⟩ | ⟨hex,i,hi,hlo,k⟩
   ·refine (exm_one I2.kIn (hoec ▸ (Looks.ld hoe).andThen .now) hex).at ?_;exact ih h
   ·refine (exm_one I2.kIn (hoec ▸ (Looks.ld hoe).andThen .now) hex).at ?_;refine codeAny_handlers_suite_as ?_
    refine zr (Qfd (Qfe _ _) (lands_againW (Q:=fun _ s2=>∃h3,s2 = { s with heap:=h3 }∧Heap.FlyingW B (X.env::X.outer) ea (.ref C) a0 h3∧s.heap.UpToSlots h3) fl fun h3 fl3 up3=>⟨h3,rfl,fl3,up3⟩)) (fun _ s2 z=>?_) fun _ _ z=>z.1
    obtain ⟨⟨h3,rfl,fl3,up3⟩,dk⟩:=z;have I3:=inv h3 fl3.1 up3
    obtain ⟨oe3,ws3,hoe3,hoec3,hoed3,_⟩:=fl3.first
    obtain ⟨oeD,hoeD,hdi⟩:=hdi;obtain ⟨oe4,hoe4,hd4⟩:=dk ea oeD hoeD;have e4:oe4=oe3:=zG (hoe4.symm.trans hoe3);subst e4;have nl3:=apart h3 oe4 ws3 fl3.2.2.1 hoe3 hoed3;have I3x:=(I3.trackX hoe3 hoed3 hn h0 nl3 hp).inH ea;obtain ⟨t,hs,ht⟩:=k oe4 hoec3 (hd4.trans hdi) ⟨ws3,hoed3⟩;refine Qie (X:=X.inH ea) (v:=.ref ea) I3x hN hi (.inl hlo) rfl (fun s4 I4=>?_) (.inr hlo);refine zr (hs pins s4 _ _ (D3F D i) I4 ht) (fun f s5 sp=>?_) (fun _ _ z=>z.elim)
    cases f with
    | next =>
     obtain ⟨σ5,H5,I5,q5⟩:=sp;have J:=I5.outH I2.ok;obtain ⟨m,hm,hl⟩:=J.loc
     refine wpAny_nameGoes_keeps hlo hm (by rw [I2.ok.kind]; rfl) fun h6 v hm6 hs6=>?_
     exact ⟨_,H5,J.goneI hN hi hl hm6 hs6,q5⟩
    | ret u =>
     obtain ⟨v,σ5,H5,I5,r5,q5⟩:=sp;have J:=I5.outH I2.ok;obtain ⟨m,hm,_⟩:=J.loc
     refine wpAny_nameGoes hlo hm (by rw [I2.ok.kind]; rfl) fun h6 m6 hm6 hs6=>?_
     exact ⟨v,_,H5,J.gone hm6 hs6,r5,q5⟩
    | brk=>obtain ⟨_,_,_,q⟩:=sp; exact q.elim
    | cont=>obtain ⟨_,_,_,q⟩:=sp; exact q.elim
  ·exact False.elim h
theorem QrK {E:XK}{e:Value}{s':Shared}{D:Ends}{hs:List ExceptHandler} (I:Inv X pins σ H s) (hx:CXF X.prog X.w X.stack H s E e s') (hst:X.stack=X.env::X.outer) (hfr:X.env.frame=some X.env.locals) (hN:X.N.Nodup) (hex:X.ex = [])
  (k:∀(ea C:Addr) (dxo:Option Addr) (H':Hp),E (.ref C) dxo H'→H' ea=none→HsF X D σ H' ea C dxo hs) :
  wpAny (model X.prog X.w) X.A (noteFrame e X.env) (fun _ s₂=>wpAny (model X.prog X.w) X.A (setFlight e none) (fun _ s₃=>wpAny (model X.prog X.w) X.A (handleBy e X.env hs) (SP X pins D) X.xe s₃) X.xe s₂) X.xe s':=by
 obtain ⟨ea,C,H',B,a0,dxo,rfl,hos,hbare,un,hok,fl,trk,old,⟨oe,hoe,hdi⟩,hE⟩:=hx;have fl':=fl;rw [hst] at fl';have frames:=I.ok.frames;rw [hst] at frames
 have hn:H' ea=none:=by
  cases q:H' ea with
  | none=>rfl
  | some u =>
   obtain ⟨o,z⟩:=trk ea u q;rw [fl.2.1] at z;cases z
 have nfr:ea∉frs X.stack:=fun z=>by
  obtain ⟨oe2,ws,he2,_,hd,_⟩:=fl.first
  obtain ⟨_,o,ho,nf⟩:=fl.2.2.1.mem z;rw [he2] at ho;cases ho;exact nf ws hd
 have hold:s.heap.get? ea=none:=by
  cases q:s.heap.get? ea with
  | none=>rfl
  | some o =>
   obtain ⟨o',z⟩:=old ea o q nfr;rw [fl.2.1] at z;cases z
 have h0:X.s₀.heap.get? ea=none:=by
  cases q:X.s₀.heap.get? ea with
  | none=>rfl
  | some o =>
   obtain ⟨o',z⟩:=I.base.there ea o q (by rw [hex]; exact fun z=>nomatch z);rw [hold] at z;cases z
 have hp:∀p∈X.pn++pins,p.1≠ea:=fun p hp z=>by
  have q:=(I.pin p hp).1;rw [z,hold] at q;cases q
 have inv:∀h2:Heap,B.StaysIn h2→s'.heap.UpToSlots h2→Inv X pins σ H' { s' with heap:=h2 }:=fun h2 hb up=>I.call' (s':={ s' with heap:=h2 }) (ch:=[]) hos (QmX un fl.1 fl.2.2.1 old hb up) (QmT hok trk fl.1 hb) hbare fun _ z=>nomatch z
 refine zr (Qfd (QlJ _ _) (wpAny_looks_onW (Q:=fun _ s2=>∃h1,s2 = { s' with heap:=h1 }∧Heap.HeldW B (X.env::X.outer) ea (.ref C) a0 X.env.locals h1∧s'.heap.UpToSlots h1) frames hfr fl' fun h1 held up1=>⟨h1,rfl,held,up1⟩)) (fun _ s2 z=>?_) fun _ _ z=>z.1
 obtain ⟨⟨h1,rfl,held,up1⟩,dk1⟩:=z
 refine zr (Qfd (Qfe _ _) (wpAny_landsW (s:={ s' with heap:=h1 }) (Q:=fun _ s2=>∃h2,s2 = { s' with heap:=h2 }∧Heap.FlyingW B (X.env::X.outer) ea (.ref C) a0 h2∧h1.UpToSlots h2) held fun h2 fl2 up2=>⟨h2,rfl,fl2,up2⟩)) (fun _ s3 z=>?_) fun _ _ z=>z.1
 obtain ⟨⟨h2,rfl,fl2,up2⟩,dk2⟩:=z;obtain ⟨oe1,e1,d1⟩:=dk1 ea oe hoe;obtain ⟨oe2,e2,d2⟩:=dk2 ea oe1 e1;exact QqW (s:={ s' with heap:=h2 }) hst hfr hN hn h0 hp (fun h3 hb up=>inv h3 hb ((up1.trans up2).trans up)) fl2 ⟨oe2,e2,(d2.trans d1).trans hdi⟩ (k ea C dxo H' hE hn)
end
end L2
namespace L2
open PySem PySem.Spec PyProof.Rows PySem.W PySem.Calls PySem.Builtin PySem.Builtin.ObjectAttr
section
variable {X:Cx}{md:List Md}{P:Pt}{R:RR}
def VEH (X:Cx) (md:List Md) (P:Pt) (R:RR) (e:Expr) (m:M D):Prop:=∀(pins:List (Addr×Obj)) (s:Shared) (σ:St) (H:Hp) (ρ:Qam) (O:Qae) (F:Hp) (as:List Addr) (Q:VK) (W:Value→Shared→Prop),Inv X pins σ H s→RlO X.K X.mg O H F as→SlO X.K md P ρ σ H F as →
 QsJ X.K X.mg R (fun x dxo H'=>∀(H0:Hp) (s0:Shared) (e:Value) (s':Shared),Inv X pins σ H0 s0→CXF X.prog X.w X.stack H0 s0 (fun cv d H''=>∃C,cv = .ref C∧X.mg x.cls=some (.ref C)∧d=dxo∧H''=H') e s'→W e s') H F as Q (m ρ O)→wpAny (model X.prog X.w) X.A (eval e X.env) (EP X pins σ Q) W s
def exJ (X:Cx) (pins:List (Addr×Obj)) (σ:St) (W:Value→Shared→Prop):XK:=fun cv d H'=>∃(x:Xc) (C:Addr),cv = .ref C∧X.mg x.cls=some (.ref C)∧∀(H0:Hp) (s0:Shared) (e:Value) (s':Shared),Inv X pins σ H0 s0→CXF X.prog X.w X.stack H0 s0 (fun cv d' H''=>∃C,cv = .ref C∧X.mg x.cls=some (.ref C)∧d'=d∧H''=H') e s'→W e s'
theorem QrG {pins:List (Addr×Obj)}{σ:St}{W:Value→Shared→Prop}{H:Hp}{s:Shared} (I:Inv X pins σ H s) (e:Value) (s':Shared) (hx:CXF X.prog X.w X.stack H s (exJ X pins σ W) e s'):W e s':=by
 obtain ⟨ea,C,H',B,a0,dxo,rfl,x1,x2,x3,x4,x5,x6,x7,x8,x,C',e1,hC,hw⟩:=hx;cases e1;exact hw H s (.ref ea) s' I ⟨ea,C,H',B,a0,dxo,rfl,x1,x2,x3,x4,x5,x6,x7,x8,C,rfl,hC,rfl,rfl⟩
def EXM (K:Frag) (mg:Str→Option Value) (T c:Str) (b:Bool):Prop:=∃C A,mg c=some (.ref C)∧mg T=some (.ref A)∧exmOne K (.ref C) (.ref A)=some b
abbrev HM:=List Str×List Str×Nat×MS
def Qdp:List HM→Xc→MS
 | [],_=>fun _ _=>.no
 | (ys,ns,i,hb)::rest,x=>fun ρ O=>if ys.contains x.cls=true then (match hb (ρ.set i (some (.ob O.length))) (O ++ [.xc x.cls x.fs]) with
   | .nx ρ' O2=>.nx (ρ'.set i none) O2
   | .rt d O2=>.rt d O2
   | _=>.no) else if ns.contains x.cls=true then Qdp rest x ρ O else .no
def Qg7 (m:M D) (hs:List HM):MS:=fun ρ O=>match m ρ O with
 | .ok _ O1=>.nx ρ O1
 | .ex x O1=>Qdp hs x ρ O1
 | .no=>.no
def VHs (X:Cx) (md:List Md) (P:Pt) (R:RR):List ExceptHandler→List HM→Prop
 | _,[]=>True
 | .ExceptHandler (some (.Name T p)) (some n) (b₀::suite) pos::rest,(ys,ns,i,hb)::rest'=>(∀c∈ys,EXM X.K X.mg T c true)∧(∀c∈ns,EXM X.K X.mg T c false)∧Gl X T∧(T == ("__debug__":Str))=false∧X.N[i]? = some n∧X.env.kindOf n=some .local∧md[i]? = some .v ∧
   (∀ea,VSs (X.inH ea) md P R (b₀::suite) hb)∧VHs X md P R rest rest'
 | _,_=>False
theorem Qr9 {hs:List ExceptHandler}:VHs X md P R hs []:=by
 cases hs <;> simp [VHs]
theorem Qln {T n:Str}{p pos:Pos}{b₀:Stmt}{suite:List Stmt}{rest:List ExceptHandler}{ys ns:List Str}{i:Nat}{hb:MS}{rest':List HM} (h1:∀c∈ys,EXM X.K X.mg T c true) (h2:∀c∈ns,EXM X.K X.mg T c false)
  (hs:∀ea,VSs (X.inH ea) md P R (b₀::suite) hb) (hr:VHs X md P R rest rest') (hg:Gl X T:=by rfl) (hd:(T == ("__debug__":Str))=false:=by decide) (hi:X.N[i]? = some n:=by rfl) (hl:X.env.kindOf n=some .local:=by rfl) (hm:md[i]? = some .v:=by rfl) :
  VHs X md P R (.ExceptHandler (some (.Name T p)) (some n) (b₀::suite) pos::rest) ((ys,ns,i,hb)::rest'):=⟨h1,h2,hg,hd,hi,hl,hm,hs,hr⟩
theorem RlO.xc {K:Frag}{mg:Str→Option Value}{O:Qae}{H F:Hp}{as:List Addr}{ea C:Addr}{oe:Obj}{c:Str}{fs:List (Str×D)} (r:RlO K mg O H F as) (hn:H ea=none) (hC:mg c=some (.ref C)) (hc:oe.cls = .ref C) (hd:∃ws,oe.data = .fields ws) (hx:XF K F as oe.dict fs) :
  RlO K mg (O ++ [.xc c fs]) (upd H ea (xcO oe)) F (as ++ [ea])∧Gr H F as (upd H ea (xcO oe)) F (as ++ [ea]):=by
 have at_:∀(n:Nat) (a:Addr),as[n]? = some a→(as ++ [ea])[n]? = some a:=fun n a h=>by
  rw [zu (zn.mp h).1]; exact h
 have g0:Gr H F as (upd H ea (xcO oe)) F as:=Gr.lay hn;have rB:RlO K mg O (upd H ea (xcO oe)) F as:=r.lay hn;refine ⟨⟨rB.fh,rB.fd,?_,by simp [r.len],fun a ha=>?_,fun n a o ha ho=>?_⟩,⟨g0.fz,g0.ff,⟨[ea],rfl,fun a ha=>by rw [zt.mp ha]; exact hn⟩,fun a o e ha hd=>g0.fr a o e ha hd,g0.dm,g0.kz⟩⟩
 ·rw [jk];refine ⟨r.nd,by simp,fun a ha b hb=>?_⟩;rw [zt.mp hb];intro z;subst z;exact r.all ha hn
 ·rcases zA.mp ha with z | z
  ·exact r.fa a z
  ·rw [zt.mp z];exact r.frF hn
 ·by_cases hn':n < O.length
  ·rw [zu (by rw [r.len]; exact hn')] at ha;rw [zu hn'] at ho;exact (rB.ob n a o ha ho).keep rfl (Same.refl _) at_
  ·have hn2:n=O.length:=by
    have:=(zn.mp ho).1
    simp at this
    omega
   subst hn2;rw [zw (zc _),Nat.sub_self] at ho;rw [←r.len,zw (zc _),Nat.sub_self] at ha;cases ho;cases ha;exact ⟨C,oe,_,hC,QaE,hc,hd,hx.mono (Same.refl _) at_⟩
theorem Qrk {D:Ends}{pins:List (Addr×Obj)}{σ:St}{ρ:Qam}{O:Qae}{H F:Hp}{as:List Addr}{x:Xc}{ea C:Addr}{dxo:Option Addr} (r:RlO X.K X.mg O H F as) (sl:SlO X.K md P ρ σ H F as) (hC:X.mg x.cls=some (.ref C)) (hn:H ea=none) (hx:XF X.K F as dxo x.fs) :
  ∀{hs:List ExceptHandler}{hm:List HM},VHs X md P R hs hm→QfS X.K X.mg md P R D H F as (Qdp hm x ρ O)→HsF X D σ H ea C dxo hs:=by
 intro hs
 induction hs with
 | nil =>
  intro hm h k
  cases hm with
  | nil=>exact False.elim k
  | cons a b=>exact False.elim h
 | cons hd rest ih =>
  intro hm h k
  cases hm with
  | nil=>exact False.elim k
  | cons a b =>
   unfold VHs at h;split at h
   ·rename_i q; cases q
   ·rename_i T p n b₀ suite pos rest1 ys ns i hb rest' eq1 eq2;cases eq1;cases eq2;obtain ⟨h1,h2,hg,hdb,hi,hl,hmi,hsu,hre⟩:=h;unfold Qdp at k;split at k
    ·rename_i hy;obtain ⟨C',A,e1,e2,e3⟩:=h1 x.cls (List.contains_iff_mem.mp hy);rw [hC] at e1;cases e1;refine ⟨A,e2,hg,hdb,.inr ⟨e3,i,hi,hl,fun oe hoc hod hda=>⟨_,hsu ea,?_⟩⟩⟩;obtain ⟨r2,g2⟩:=r.xc (oe:=oe) hn hC hoc hda (hod ▸ hx);refine ⟨ρ.set i (some (.ob O.length)),_,F,as ++ [ea],r2,(sl.step g2).setV hmi (Rp.mkO (by rw [←r.len,zw (zc _),Nat.sub_self]; rfl)),?_⟩
     cases eb:hb (ρ.set i (some (.ob O.length))) (O ++ [.xc x.cls x.fs]) with
     | nx ρ' O2 =>
      rw [eb] at k
      exact fun σ' H' F' as' g' r' s'=>k _ H' F' as' (g2.toS.trans g') r' (s'.drop (x:=none) hmi)
     | rt d O2 =>
      rw [eb] at k
      exact fun v H' F' as' g' r' s'=>k v H' F' as' (g2.toS.trans g') r' s'
     | bk _ _=>rw [eb] at k; exact False.elim k
     | ct _ _=>rw [eb] at k; exact False.elim k
     | ex _ _=>rw [eb] at k; exact False.elim k
     | no=>rw [eb] at k; exact False.elim k
    ·split at k
     ·rename_i _ hy;obtain ⟨C',A,e1,e2,e3⟩:=h2 x.cls (List.contains_iff_mem.mp hy);rw [hC] at e1;cases e1;exact ⟨A,e2,hg,hdb,.inl ⟨e3,ih hre k⟩⟩
     ·exact False.elim k
   ·exact False.elim h
theorem QpY {e:Expr}{m:M D}{R':RR}{h0:ExceptHandler}{hs:List ExceptHandler}{hm:List HM}{p3 p6:Pos} (he:VEH X md P R' e m) (hh:VHs X md P R (h0::hs) hm) (hN:X.N.Nodup) (hst:X.stack=X.env::X.outer:=by rfl) (hfr:X.env.frame=some X.env.locals:=by rfl) (hex:X.ex = []:=by rfl)
  (hsw:swapsWith e none p3.line X.env=pure false:=by rfl):VS X md P R (.Try [.Expr e p3] (h0::hs) [] [] p6) (Qg7 m hm):=by
 intro pins s σ H D I q;obtain ⟨ρ,O,F,as,r,sl,kk⟩:=q;refine wpAny_Try_except ?_
 have ev:=he pins s σ H ρ O F as (fun _ H2=>D.nx σ H2) (fun e s1=>wpAny (model X.prog X.w) X.A (noteFrame e X.env) (fun _ s₂=>wpAny (model X.prog X.w) X.A (setFlight e none) (fun _ s₃=>wpAny (model X.prog X.w) X.A (handleBy e X.env (h0::hs)) (SP X pins D) X.xe s₃) X.xe s₂) X.xe s1) I r sl (by
  unfold Qg7 at kk
  cases em:m ρ O with
  | ok d O1 =>
   rw [em] at kk
   exact fun v H' F' as' g r' _=>kk σ H' F' as' g.toS r' (sl.step g)
  | ex x O1 =>
   rw [em] at kk;intro dxo H' F' as' g r' hx H0 s0 e s' I0 hz
   refine QrK I0 hz hst hfr hN hex fun ea C d H2 hE hn=>?_
   obtain ⟨C',z1,z2,rfl,rfl⟩:=hE;cases z1;exact Qrk (pins:=pins) r' (sl.step g) z2 hn hx hh (QeA (R:=R) g.toS kk)
  | no=>rw [em] at kk; exact False.elim kk)
 refine wpAny_execs_cons (thn (wpAny_Expr_any (Q:=fun fl s1=>fl = .next∧∃H2,Inv X pins σ H2 s1∧D.nx σ H2) (thn ev fun v s1 z=>?_) I.quiet hsw) fun fl s1 z=>?_)
 ·obtain ⟨_,H2,I2,_,q2⟩:=z;exact ⟨rfl,H2,I2,q2⟩
 ·obtain ⟨rfl,H2,I2,q2⟩:=z;exact wpAny_execs_nil (wpAny_execs_nil ⟨σ,H2,I2,q2⟩)
end
section
variable {prog:Program}{w:World}{A:Around}{E:Value→Shared→Prop}{K:Frag}{a C:Addr}{o od:Obj}{h:Heap}{g:Array GenState}{d:Drawn}{t:Nat}{os:OsState}{name:Str}{v:Value}
theorem QqY {tk:Tok}{Q:Fin→Shared→Prop} (X:K.In h) (I:InstAt h a o C (some od)) (hf:findObj K C (some od) name=some (.value v)) (hq:Q (.done (.ret v)) ⟨h,g,d,t,os⟩) :
  wpAny (model prog w) A (Builtin.«object.__getattribute__» ⟨[.ref a,.str name tk],[]⟩) Q E ⟨h,g,d,t,os⟩:=by
 have L0:=I.type (M:=model prog w);have L1:=looks_find (M:=model prog w) X I hf;unfold Builtin.«object.__getattribute__»;refine za (zW (a:=(Value.ref a,[Value.str name tk])) rfl ?_);dsimp only;refine za (zb ?_);refine za (L0.at ?_);refine za (L1.at ?_);exact zb hq
theorem QqS {expr:Bool}{Q:Value→Shared→Prop} (F0:Qd1 K C) (X:K.In h) (I:InstAt h a o C (some od)) (hh:hasDictIn K C=true) (hn:findIn K (.ref C) name=some none) (hl:lookIn name od=some (some v)) (hv:handedIn v=true) (hq:Q v ⟨h,g,d,t+1,os⟩) :
  wpAny (model prog w) A (getAttr (.ref a) name expr) Q E ⟨h,g,d,t,os⟩:=by
 have L0:=I.type (M:=model prog w);have L1:=looks_findIn (M:=model prog w) X F0.ga;have L2:=looks_findIn (M:=model prog w) X F0.na;have bnd:=PySem.F.attrBase_ValueError.ga.bind (.ref a)
 have hne:(onTheHeap (Value.ref C)&&Value.builtin "BaseException.__getattribute__" == Value.builtin "object.__getattribute__")=false:=by rw [show (Value.builtin "BaseException.__getattribute__" == Value.builtin "object.__getattribute__")=false by decide +kernel,Bool.and_false]
 have hf:=findObj_own (od:=od) (v:=v) hh hn rfl hl;unfold getAttr getAttrBy;refine za (wpAny_mkText (zC ?_));refine za (L0.at ?_);refine za (L1.at ?_);dsimp only;rw [if_neg (by rw [hne]; exact zk)];unfold getAttrByItsOwn;refine za ?_;unfold hookBefore;rw [if_pos (show onTheHeap (Value.ref C)=true from rfl)];refine L2.at ?_;refine za (wpAny_attempt (zC ?_));unfold callGetattribute;rw [if_neg (by cases expr <;> decide)];unfold boundAndCalled;refine za (zW bnd ?_);refine zR (codeAny_call_builtin PySem.F.attrBase_ValueError.ga.plain PySem.F.entry_bexc_ga (QjC F0 X I.at_ I.cls (QqY X I hf ?_)));show wpAny (model prog w) A (handedOut v) _ _ _
 exact handed_on hv hq
end
section
variable {X:Cx}{md:List Md}{P:Pt}{R:RR}
theorem QjK:QdK X (.builtin "isinstance") (fun xs H Q=>∃(a C:Addr) (oe:Obj) (u:HO) (b:Bool),H a=some (.frz oe u)∧oe.cls = .ref C∧Qd1 X.K C∧Q (.bl b) H ∧
  ((∃v c,xs = [.ref a,v]∧Ql6 v=some c∧kitOne X.K (.ref C) c=some b)∨∃tp ys cs,xs = [.ref a,.ref tp]∧H tp=some (.tup ys)∧QhM ys=some cs∧kitAny X.K (.ref C) cs=some b)):=by
 intro pins s σ H xs us Q I r h;obtain ⟨ea,C,oe,u,b,he0,hc,F0,q,h⟩:=h;have he:s.heap.get? ea=some oe:=(I.hok ea _ he0).1
 have nb:Value.ref ea≠.builtin "__main__.__loader__#opaque":=fun z=>nomatch z
 rcases h with ⟨v,c,rfl,ev,ek⟩ | ⟨tp,ys,cs,rfl,et,ev,ek⟩
 ·obtain ⟨u1,u2,rfl,r1,r2⟩:=vals2 r;cases r1;rw [Qkl r2 ev]
  exact kia_one (Qkm F0) I.kIn ⟨oe,he,hc⟩ ek nb fun tk=>⟨.bl b,H,I.tok tk,rfl,q⟩
 ·obtain ⟨u1,u2,rfl,r1,r2⟩:=vals2 r;cases r1;cases r2;obtain ⟨_,its,rv,ot,ho,hcl,n,hda⟩:=I.hok tp _ et;have ei:=QjA rv ev;subst ei;obtain ⟨c0,d0,da0,sl0⟩:=ot;dsimp only at hcl hda;subst hcl hda
  exact kia_tup (Qkm F0) I.kIn ⟨oe,he,hc⟩ ho ek nb fun tk=>⟨.bl b,H,I.tok tk,rfl,q⟩
def Qcl (tb:List (Str×Bool)) (mo:M D):M D:=fun ρ O=>(mo ρ O).bind fun d O1=>match d with
 | .ob n=>match O1[n]? with
  | some (.xc c _)=>match tb.lookup c with
   | some b=>.ok (.bl b) O1
   | none=>.no
  | _=>.no
 | _=>.no
theorem Qnr {tb:List (Str×Bool)}{mo:M D}{ρ:Qam}{O O':Qae}{d:D} (e:Qcl tb mo ρ O = .ok d O'):∃n c fs b,mo ρ O = .ok (.ob n) O'∧O'[n]? = some (.xc c fs)∧tb.lookup c=some b∧d = .bl b:=by
 obtain ⟨x,O1,e1,e⟩:=Res.bind_ok e
 cases x with
 | ob n =>
  dsimp only at e;split at e
  ·rename_i c fs eo;split at e
   ·rename_i b eb;cases e;exact ⟨n,c,fs,b,e1,eo,eb,rfl⟩
   ·cases e
  ·cases e
 | _=>cases e
def ISN (K:Frag) (mg:Str→Option Value) (T c:Str) (b:Bool):Prop:=∃C A,mg c=some (.ref C)∧Qd1 K C∧mg T=some (.ref A)∧kitOne K (.ref C) (.ref A)=some b
def ISV (K:Frag) (mg:Str→Option Value) (c:Str):Prop:=∃C,mg c=some (.ref C)∧Qd1 K C∧kitOne K (.ref C) (.type "ValueError")=some true
def Qia (K:Frag) (mg:Str→Option Value) (ns:List Str) (c:Str) (b:Bool):Prop:=∃C as,mg c=some (.ref C)∧Qd1 K C∧Qd2 mg ns as∧kitAny K (.ref C) (as.map Value.ref)=some b
theorem Qd2.det {mg:Str→Option Value}:∀{ns:List Str}{as bs:List Addr},Qd2 mg ns as→Qd2 mg ns bs→as=bs
 | [],as,bs,h,h'=>by
  have e:as = []:=h;have e':bs = []:=h';rw [e,e']
 | n::ns,as,bs,h,h'=>by
  obtain ⟨a,r,rfl,h1,h2⟩:=h;obtain ⟨b,r',rfl,h3,h4⟩:=h';rw [h1] at h3;cases h3;rw [h2.det h4]
theorem Qjv:∀{es:List Expr}{vs:List V},Qf3 X es vs→PA X es (fun _ H Q=>Q vs H)
 | [],vs,h=>by
  have h':vs = []:=h;subst h';exact Qdc
 | e::es,vs,h=>by
  obtain ⟨v,r,rfl,h1,h2,h3⟩:=h;exact Qcb (h1 X rfl rfl) (Qjv h3) h2
theorem Qn7 {o eT:Expr}{p pos:Pos}{v:V}{cv:Value}{mo:M D}{tb:List (Str×Bool)} (hm:X.mg "isinstance" = none) (ho:VE X md P o mo) (hT:PE X eT (tC v)) (hv:Ql6 v=some cv)
  (hE:∀c b,tb.lookup c=some b→∃C,X.mg c=some (.ref C)∧Qd1 X.K C∧kitOne X.K (.ref C) cv=some b) (hg:Gl X "isinstance":=by rfl)
  (hs1:starEach [o,eT] X.env=(false,eval o X.env)::starEach [eT] X.env:=by exact Qbq rfl) (hs2:starEach [eT] X.env=(false,eval eT X.env)::starEach [] X.env:=by exact Qbq rfl) (hpl:(backTo pos (starEach [eT] X.env)).any (·.1)=false:=by exact QbL rfl) :
  VE X md P (.Call (.Name "isinstance" p) [o,eT] [] pos) (Qcl tb mo) :=
 (Qgx QjK hg hm (by decide +kernel) (Qcb ho (Qcb hT Qdc hs2) hs1) (by decide) (by decide) hs1 hpl).imp fun σ H Q q=>by
  obtain ⟨ρ,O,F,as,d,O',r,s,e,k⟩:=q;obtain ⟨n,c,fs,b,e1,e2,e3,rfl⟩:=Qnr e;refine ⟨ρ,O,F,as,.ob n,O',r,s,e1,fun v1 H1 F1 as1 g1 r1 hv1=>?_⟩;obtain ⟨a,rfl,ha⟩:=Rp.unO hv1;obtain ⟨C,oe,u,hC,hH,hoc,_,_⟩:=r1.ob n a _ ha e2;obtain ⟨C',hC',F0,kk⟩:=hE c b e3;rw [hC] at hC';cases hC';exact ⟨a,C,oe,u,b,hH,hoc,F0,k _ H1 F1 as1 g1 r1 Rp.bl,.inl ⟨v,cv,rfl,hv,kk⟩⟩
theorem Qkp {o:Expr}{T:Str}{p p1 pos:Pos}{mo:M D}{tb:List (Str×Bool)} (hm:X.mg "isinstance" = none) (hT:∃A,X.mg T=some (.ref A)) (ho:VE X md P o mo)
  (hE:∀c b,tb.lookup c=some b→ISN X.K X.mg T c b) (hg:Gl X "isinstance":=by rfl) (hgT:Gl X T:=by rfl) (hd:(T == ("__debug__":Str))=false:=by decide)
  (hs1:starEach [o,.Name T p1] X.env=(false,eval o X.env)::starEach [.Name T p1] X.env:=by exact Qbq rfl) (hs2:starEach [.Name T p1] X.env=(false,eval (.Name T p1) X.env)::starEach [] X.env:=by exact Qbq rfl) (hpl:(backTo pos (starEach [.Name T p1] X.env)).any (·.1)=false:=by exact QbL rfl) :
  VE X md P (.Call (.Name "isinstance" p) [o,.Name T p1] [] pos) (Qcl tb mo):=by
 obtain ⟨A,hA⟩:=hT;refine Qn7 (v:=.ref A) (cv:=.ref A) hm ho (Qi8 hgT hA rfl hd) rfl (fun c b e=>?_) hg hs1 hs2 hpl;obtain ⟨C,A',h1,h2,h3,h4⟩:=hE c b e;rw [hA] at h3;cases h3;exact ⟨C,h1,h2,h4⟩
theorem QrY {o:Expr}{p p1 pos:Pos}{mo:M D}{tb:List (Str×Bool)} (hm:X.mg "isinstance" = none) (hT:X.mg "ValueError" = none) (ho:VE X md P o mo)
  (hE:∀c b,tb.lookup c=some b→b=true∧ISV X.K X.mg c) (hg:Gl X "isinstance":=by rfl) (hgT:Gl X "ValueError":=by rfl)
  (hs1:starEach [o,.Name "ValueError" p1] X.env=(false,eval o X.env)::starEach [.Name "ValueError" p1] X.env:=by exact Qbq rfl) (hs2:starEach [.Name "ValueError" p1] X.env=(false,eval (.Name "ValueError" p1) X.env)::starEach [] X.env:=by exact Qbq rfl) (hpl:(backTo pos (starEach [.Name "ValueError" p1] X.env)).any (·.1)=false:=by exact QbL rfl) :
  VE X md P (.Call (.Name "isinstance" p) [o,.Name "ValueError" p1] [] pos) (Qcl tb mo):=by
 refine Qn7 (v:=.ty "ValueError") (cv:=.type "ValueError") hm ho (QlE hgT hT (by decide +kernel) rfl) rfl (fun c b e=>?_) hg hs1 hs2 hpl;obtain ⟨rfl,C,h1,h2,h3⟩:=hE c b e;exact ⟨C,h1,h2,h3⟩
theorem Qs9 {o:Expr}{ns:List Str}{es:List Expr}{x1:Nat}{p p1 pos:Pos}{mo:M D}{tb:List (Str×Bool)} (hm:X.mg "isinstance" = none) (hT:∃as,Qd2 X.mg ns as) (hNV:∀as,Qd2 X.mg ns as→Qf3 X es (as.map V.ref)) (ho:VE X md P o mo)
  (hE:∀c b,tb.lookup c=some b→Qia X.K X.mg ns c b) (hns:ns.length≤1000:=by decide) (hg:Gl X "isinstance":=by rfl)
  (hs1:starEach [o,.Tuple es x1 p1] X.env=(false,eval o X.env)::starEach [.Tuple es x1 p1] X.env:=by exact Qbq rfl) (hs2:starEach [.Tuple es x1 p1] X.env=(false,eval (.Tuple es x1 p1) X.env)::starEach [] X.env:=by exact Qbq rfl) (hpl:(backTo pos (starEach [.Tuple es x1 p1] X.env)).any (·.1)=false:=by exact QbL rfl) :
  VE X md P (.Call (.Name "isinstance" p) [o,.Tuple es x1 p1] [] pos) (Qcl tb mo):=by
 obtain ⟨la,hla⟩:=hT
 refine (Qgx QjK hg hm (by decide +kernel) (Qcb ho (Qcb (QnU (Qjv (hNV la hla))) Qdc hs2) hs1) (by decide) (by decide) hs1 hpl).imp fun σ H Q q=>?_
 obtain ⟨ρ,O,F,as,d,O',r,s,e,k⟩:=q;obtain ⟨n,c,fs,b,e1,e2,e3,rfl⟩:=Qnr e;refine ⟨ρ,O,F,as,.ob n,O',r,s,e1,fun v1 H1 F1 as1 g1 r1 hv1=>?_⟩;obtain ⟨a,rfl,ha⟩:=Rp.unO hv1;obtain ⟨C,oe,u,hC,hH,hoc,_,_⟩:=r1.ob n a _ ha e2;obtain ⟨C',la',hC',F0,hla',kk⟩:=hE c b e3;rw [hC] at hC';cases hC';rw [hla'.det hla] at kk;have hsz:sizeLine=16777216:=sizeLine_eq;refine ⟨by rw [zo,hla.len]; omega,fun tp htp=>?_⟩;refine ⟨a,C,oe,u,b,by rw [Qan (QaA hH htp)]; exact hH,hoc,F0,k _ _ F1 as1 (g1.trans (Gr.lay htp)) (r1.lay htp) Rp.bl,.inr ⟨tp,la.map V.ref,la.map Value.ref,rfl,QaE,Qik la,kk⟩⟩
def Qeg (f:Str) (L:List Str) (mo:M D):M D:=fun ρ O=>(mo ρ O).bind fun d O1=>match d with
 | .ob n=>match O1[n]? with
  | some (.xc c fs)=>if L.contains c=true then (match fs.lookup f with
   | some d=>.ok d O1
   | none=>.no) else .no
  | _=>.no
 | _=>.no
def XFC (K:Frag) (mg:Str→Option Value) (f c:Str):Prop:=∃C,mg c=some (.ref C)∧Qd1 K C∧findIn K (.ref C) f=some none∧hasDictIn K C=true
theorem FsR.at {K:Frag}{F:Hp}{as:List Addr}{f:Str}{d:D}:∀{fs:List (Str×D)}{gs:List (Str×V)},FsR K F as gs fs→fs.lookup f=some d→∃v,gs.lookup f=some v∧Rp K F as v d
 | [],gs,h,e=>by cases e
 | (g,y)::fs,gs,h,e=>by
  obtain ⟨h1,h2⟩:=h
  cases gs with
  | nil=>cases h1
  | cons p gs =>
   obtain ⟨g',x⟩:=p;have hg:g'=g:=(List.cons.inj h1).1;subst hg;obtain ⟨x',r,ex,hx,hr⟩:=Rps.un h2;cases ex
   by_cases hf:(f == g')=true
   ·have e':some y=some d:=by
     simp only [List.lookup,hf] at e;exact e
    cases e';exact ⟨x,by simp only [List.lookup,hf],hx⟩
   ·have hf':(f == g')=false:=by simpa using hf
    have e':fs.lookup f=some d:=by
     simp only [List.lookup,hf'] at e;exact e
    obtain ⟨v,q1,q2⟩:=FsR.at (fs:=fs) (gs:=gs) ⟨(List.cons.inj h1).2,hr⟩ e';exact ⟨v,by simp only [List.lookup,hf']; exact q1,q2⟩
theorem Qlq {o:Expr}{f:Str}{pos:Pos}{L:List Str}{mo:M D} (ho:VE X md P o mo) (hL:∀c∈L,XFC X.K X.mg f c) (hb:attributeBase o f X.env (eval o X.env)=eval o X.env:=by rfl):VE X md P (.Attribute o f pos) (Qeg f L mo):=by
 intro pins s σ H Q I q;obtain ⟨ρ,O,F,as,d,O',r,sl,e,k⟩:=q;obtain ⟨x,O1,e1,e⟩:=Res.bind_ok e
 cases x with
 | ob n =>
  dsimp only at e;split at e
  ·rename_i c fs eo;split at e
   ·rename_i hc;split at e
    ·rename_i d' el;cases e;refine Qlm hb (thn (ho pins s σ H (fun v H1=>∃F1 as1,Gr H F as H1 F1 as1∧RlO X.K X.mg O' H1 F1 as1∧Rp X.K F1 as1 v (.ob n)) I ⟨ρ,O,F,as,.ob n,O',r,sl,e1,fun v H1 F1 as1 g1 r1 hv=>⟨F1,as1,g1,r1,hv⟩⟩) fun u s1 z=>?_);obtain ⟨v,H1,I1,rv,F1,as1,g1,r1,hv⟩:=z;obtain ⟨a,rfl,ha⟩:=Rp.unO hv;obtain rfl:u=Value.ref a:=rv;obtain ⟨C,oe,uu,hC,hH,hoc,⟨ws,hda⟩,hx⟩:=r1.ob n a _ ha eo;obtain ⟨C',hC',F0,hn,hh⟩:=hL c (List.contains_iff_mem.mp hc);rw [hC] at hC';cases hC'
     rcases hx with hx | ⟨dx,od,gs,hdx,hF,hfs⟩
     ·rw [hx] at el; cases el
     ·obtain ⟨w1,hw,hrp⟩:=hfs.at el;have hHd:=r1.fh _ _ hF;have hoe:s1.heap.get? a=some oe:=(I1.hok a _ hH).1;obtain ⟨hod,mA,hns,hrel⟩:=I1.hok dx _ hHd;obtain ⟨u1,hu1,ru1⟩:=Qc4.some_of (v:=w1) (o:=mA f) (by rw [←hw]; exact hrel f);obtain ⟨od',ho',hl⟩:=QjF hns;have hia:InstAt s1.heap a oe C (some od'):=⟨hoe,hoc,by unfold notCls; rw [hda],by rw [hdx]; exact ho'⟩;obtain ⟨hh1,gg,dr,tk,os⟩:=s1;exact QqS F0 I1.kIn hia hh hn (by rw [hl,hu1]) (Qjs ru1) ⟨w1,H1,I1.tok (tk+1),ru1,k w1 H1 F1 as1 g1 r1 hrp⟩
    ·cases e
   ·cases e
  ·cases e
 | _=>cases e
end
end L2
namespace L2
open PySem PySem.Spec PyProof.Rows PySem.W
def QiC (A:Around):Around:={ A with handled:=none }
theorem RoomH.deeper {k:Nat}{A:Around} (r:QaR (k+1) (QiC A)) (env:Env):QaR k (QiC (A.deeper env)):=⟨rfl,(r.deeper env).dp,(r.deeper env).un⟩
theorem QaR.h {k:Nat}{A:Around} (r:QaR k A):QaR k (QiC A):=⟨rfl,r.dp,r.un⟩
theorem QaR.inH {k:Nat}{A:Around}{e:Option Value} (r:QaR k A):QaR k (QiC (A.mark e)):=⟨rfl,r.dp,r.un⟩
structure QlU (P:Program) (w:World) (K:Frag) (mg:Str→Option Value) (base:Heap) (k:Nat) (f:Addr) (fd:FuncData) (ps:List Str) (sp:Sp):Prop where
 len:∀vs H Q E,sp vs H Q E→vs.length=ps.length
 run:∀(A:Around) (outer:List Env) (s:Shared) (H:Hp) (args:Args) (us:List Value) (vs:List V) (Q:VK) (E:XK),QaR k (QiC A)→QeH P w K mg base A outer s H→BindsTo s fd args (ps.zip us)→Qaz vs us→sp vs H Q E →
  codeAny (model P w) A (.call (.ref f) args) (CR CX0 outer P w H s Q E) s
theorem QlU.fn {P:Program}{w:World}{K:Frag}{mg:Str→Option Value}{base:Heap}{k:Nat}{f:Addr}{fd:FuncData}{ps:List Str}{sp:Sp} (F:QlU P w K mg base k f fd ps sp):QbB P w K mg base CX0 k f fd ps sp:=⟨F.len,fun A outer s H args us vs Q E hr=>F.run A outer s H args us vs Q E hr.h⟩
def Qrv (P:Program) (w:World) (K:Frag) (mg:Str→Option Value) (base:Heap) (x:Str) (ps:List Str) (k:Nat) (sp:Sp):Prop :=
 ∃f fd,mg x=some (.ref f)∧keepIn K (.ref f)=true∧Binds K fd ps []∧QlU P w K mg base k f fd ps sp∧∃oc od osl,K.lookup f=some ⟨oc,od,.func fd,osl⟩
section
variable {Pr:Program}{w:World}{K:Frag}{mg:Str→Option Value}{base:Heap}
theorem Qrv.can {x:Str}{ps:List Str}{k:Nat}{sp:Sp} (C:Qrv Pr w K mg base x ps k sp):Can Pr w K mg base x ps k sp:=by
 obtain ⟨f,fd,h1,h2,h3,h4,h5⟩:=C;exact ⟨f,fd,h1,h2,h3,h4.fn,h5⟩
end
section
variable {X:Cx}{md:List Md}{P:Pt}{R:RR}
end
section
variable {X:Cx}{md:List Md}{P:Pt}{R:RR}
theorem Qko {c:Str}{v:V}{p cpos pos:Pos}{a:Expr} (hE:Qo5 X.K X.mg c) (hc:X.calm=true) (ha:PE X a (tC v)) (hex:X.ex = []:=by rfl) (hg:Gl X c:=by rfl) (hd:(c == ("__debug__":Str))=false:=by decide)
  (hs1:starEach [a] X.env=(false,eval a X.env)::starEach [] X.env:=by rfl) (hpl:(backTo cpos (starEach [a] X.env)).any (·.1)=false:=by rfl) :
  VSF X md P R (.Raise (some (.Call (.Name c p) [a] [] cpos)) none pos) (QiU c):=by
 intro pins s σ H D I q;obtain ⟨ρ,O,F,as,r,sl,k⟩:=q;obtain ⟨C,hC,hx⟩:=hE;obtain ⟨bm,N,nm,qn,bs,hdd,sn,sub,ab,col,dd,k0,k1,k2,k3,k5,mN,oC,hN,hni,T⟩:=Qqi I.ok.mod.kin hx;refine wpAny_Raise_call_subT (C:=C) (nm:=nm) (q:=qn) (N:=N) (bs:=bs) (bm:=bm) (hdct:=hdd) (sn:=sn) (sub:=sub) (ab:=ab) (col:=col) (dd:=dd) (k0:=k0) (k1:=k1) (k2:=k2) (k3:=k3) (k5:=k5) PySem.F.excBase_ValueError (mN:=mN) (T.hasType PySem.F.excBase_ValueError.hasBase) (I.ok.hd hc) hpl hni (Qd7 I hg hC ⟨rfl,?_⟩ hd);have hA:=Qcb ha Qdc hs1 cpos pins s σ H (fun vs H1=>vs.length=1∧H1=H) I ⟨rfl,rfl⟩;rw [hs1] at hA ⊢
 refine Calls.evalArgs_plain (thn hA fun us s1 z=>?_);obtain ⟨vs,H1,I1,r1,e1,e2⟩:=z;subst e2;refine ⟨rfl,?_,I1.bk _ _ oC,hN.keeps I1.bk,T.keeps I1.bk,fun h' ea hm=>?_⟩
 ·show us.length≤sizeLine;rw [←r1.length,e1];decide
 ·obtain ⟨t,ht,_,_⟩:=hm.there
  have hn:H1 ea=none:=by
   cases q:H1 ea with
   | none=>rfl
   | some u =>
    obtain ⟨o,z⟩:=(I1.hok ea u q).has;rw [hm.new] at z;cases z
  have h0:X.s₀.heap.get? ea=none:=by
   cases q:X.s₀.heap.get? ea with
   | none=>rfl
   | some o =>
    obtain ⟨o',z⟩:=I1.base.there ea o q (by rw [hex]; exact fun z=>nomatch z);rw [hm.new] at z;cases z
  have I2:Inv X pins σ H1 { s1 with heap:=h' }:=I1.un (t':=s1.toks) (Un.kept hm.keeps) (I1.hok.kept hm.keeps);exact (k none H1 F as GrS.refl r (.inl rfl)).1 pins σ _ ea C hC I2 ⟨_,_,_,ht,rfl,rfl,rfl,rfl,rfl,hn,h0⟩
theorem Qjt {f:Str}{ps:List Str}{k:Nat}{a:Expr}{as:List Expr}{pm:List Md}{c:List D→Qae→Res D}{ma:M (List D)}{p1 p2:Pos} (Cn:Qh3 X.prog X.w X.K X.mg X.base f ps k (Qdi X.K X.mg pm (rV X.K) c)) (hr:QaR k X.A) (ha:AE X md P pm (a::as) ma) (hg:Gl X f:=by rfl) (hfd:(f == ("__debug__":Str))=false:=by decide)
  (hs:starEach (a::as) X.env=(false,eval a X.env)::starEach as X.env:=by exact Qbq rfl) (hpl:(backTo p2 (starEach as X.env)).any (·.1)=false:=by exact QbL rfl):VEF X md P (rV X.K) (.Call (.Name f p1) (a::as) [] p2) (Qew c ma):=Qpn QbF Cn hr ha hg hfd hs hpl
end
theorem Qha {P:Str→Bool→Prop}:∀c b,([]:List (Str×Bool)).lookup c=some b→P c b:=fun _ _ e=>nomatch e
theorem Qc0 {P:Str→Bool→Prop}{c:Str}{b:Bool}{tb:List (Str×Bool)} (h:P c b) (t:∀c b,tb.lookup c=some b→P c b):∀c' b',((c,b)::tb).lookup c'=some b'→P c' b':=fun c' b' e=>by
 by_cases hc:(c' == c)=true
 ·have e':some b=some b':=by
   simp only [List.lookup,hc] at e;exact e
  cases e';rw [beq_iff_eq.mp hc];exact h
 ·have hf:(c' == c)=false:=by simpa using hc
  refine t c' b' ?_;simp only [List.lookup,hf] at e;exact e
theorem QfY {P:Str→Prop}:∀c∈([]:List Str),P c:=fun _ e=>nomatch e
theorem Qe8 {P:Str→Prop}{c:Str}{l:List Str} (h:P c) (t:∀c∈l,P c):∀c'∈c::l,P c':=fun c' e=>by
 rcases zj.mp e with rfl | e
 ·exact h
 ·exact t c' e
theorem ISN.nm {K:Frag}{mg:Str→Option Value}{T c:Str}{b:Bool} (h:ISN K mg T c b):∃A,mg T=some (.ref A):=let ⟨_,A,_,_,e,_⟩:=h; ⟨A,e⟩
theorem Qia.nm {K:Frag}{mg:Str→Option Value}{ns:List Str}{c:Str}{b:Bool} (h:Qia K mg ns c b):∃as,Qd2 mg ns as:=let ⟨_,as,_,_,e,_⟩:=h; ⟨as,e⟩
theorem ISV.tb {K:Frag}{mg:Str→Option Value}{c:Str} (h:ISV K mg c):true=true∧ISV K mg c:=⟨rfl,h⟩
def QmE (K:Frag) (mg:Str→Option Value) (c name qual:Str) (st:Stmt):Prop:=∃C fI fd,mg c=some (.ref C)∧QkL K C fI name∧isFn K (.ref fI)=true∧Fun K "__init__" qual st fI fd
theorem QmE.can {Pr:Program}{w:World}{K:Frag}{mg:Str→Option Value}{base:Heap}{c name qual sf pn:Str}{st:Stmt}{p1 p2 p3 p4:Pos} (h:QmE K mg c name qual st) (S:QaO [sf,pn] [sf,pn] (Qao st))
  (hb:∀(kV doc pm:Value) (an:Option Addr) (cdv ct:Value) (us:List Value),us.length = [sf,pn].length→bindArgs (PySem.W.fnOf "__init__" qual (QbU st) (Qa8 st) (Qao st) .none kV doc pm an cdv ct) ⟨us,[]⟩=pure ([sf,pn].zip us))
  (hbo:Qa8 st = [.Assign [.Attribute (.Name sf p1) name p2] (.Name pn p3) p4]) (v0:Vis (Qao st) sf) (v1:Vis (Qao st) pn) (hs:∀L f cdv,swapsWith (.Name pn p3) (some (.Attribute (.Name sf p1) name p2)) p4.line (envOfC qual (Qao st) L f cdv)=pure false)
  (d0:(sf == ("__debug__":Str))=false:=by decide) (d1:(pn == ("__debug__":Str))=false:=by decide) (c0:(sf == ("__classdict__":Str))=false:=by decide) (c1:(pn == ("__classdict__":Str))=false:=by decide):QkA Pr w K mg base c name 1:=by
 obtain ⟨C,fI,fd,h1,h2,h3,h4⟩:=h;exact QtA h1 h2 h3 h4 S hb hbo v0 v1 d0 d1 c0 c1 hs
section
variable {X:Cx}{md:List Md}{P:Pt}{R:RR}
end
def QiR (P:Program) (w:World) (K:Frag) (mg:Str→Option Value) (base:Heap) (c:Str) (ps:List Str) (k:Nat) (sp:Sp):Prop :=
 ∃C f fd,mg c=some (.ref C)∧Mk K C f∧Binds K fd ps []∧QbB P w K mg base (CXF P w) k f fd ps sp
section
variable {Pr:Program}{w:World}{K:Frag}{mg:Str→Option Value}{base:Heap}
theorem QsE {c qual:Str}{st:Stmt}{N ps:List Str}{k:Nat} (Df:QoZ K mg c qual st) (S:QaO N ps (Qao st))
  (hb:∀(kV doc pm:Value) (an:Option Addr) (cdv ct:Value) (us:List Value),us.length=ps.length→bindArgs (PySem.W.fnOf "__init__" qual (QbU st) (Qa8 st) (Qao st) .none kV doc pm an cdv ct) ⟨us,[]⟩=pure (ps.zip us))
  (pm lm:List Md) {R:RR}{b:MS} (hR:QdB R) (hR0:∀N H F as,R N H F as .non .non) (hpl:pm.length=ps.length:=by rfl) (hl:(pm++lm).length=N.length:=by rfl) (hp:∀m∈pm,m≠.o:=by decide)
  (body:∀(f:Addr) (cdv:Value) (A:Around) (outer:List Env) (s:Shared) (H:Hp) (E:XK),QaR k (A.deeper (envOfC qual (Qao st) s.heap.objs.size f cdv))→∀P,QfR (QcS (CXF Pr w) Pr w K mg base N qual (Qao st) f cdv A outer s H E) (pm++lm) P R (Qa8 st) b) :
  QiR Pr w K mg base c ps (k+1) (Qdi K mg pm R (Qbw N.length b)):=by
 obtain ⟨C,f,fd,h1,h2,h3⟩:=Df;exact ⟨C,f,fd,h1,h2,h3.binds hb,QpI h3 S pm lm hR hR0 hpl hl hp (body f)⟩
theorem QiR.can {c:Str}{ps:List Str}{k:Nat}{pm:List Md}{R:RR}{cf:List D→Qae→Res D} (C:QiR Pr w K mg base c ps k (Qdi K mg pm R cf)) (hl:pm.length=ps.length:=by rfl):QoG Pr w K mg base c ps k (vSp K mg pm R cf):=by
 obtain ⟨C,f,fd,h1,h2,hb,Fn⟩:=C;exact ⟨C,f,fd,h1,h2,hb,Qja Fn hl⟩
end
theorem RlO.ins {K:Frag}{mg:Str→Option Value}{O:Qae}{H F:Hp}{as:List Addr}{x dx C:Addr}{c:Str} (r1:RlO K mg O H F as) (hC:mg c=some (.ref C)) (hx:H x=none) (hdx:H dx=none) (hne:dx≠x) :
  RlO K mg (O ++ [.ins c []]) (upd (upd H dx (.own x)) x (.ins C dx [])) F (as ++ [x])∧Gr H F as (upd (upd H dx (.own x)) x (.ins C dx [])) F (as ++ [x])∧Rp K F (as ++ [x]) (.ref x) (.ob O.length):=by
 have hx2:upd H dx (.own x) x=none:=by rw [Qan hne.symm]; exact hx
 have gAB:Gr H F as (upd (upd H dx (.own x)) x (.ins C dx [])) F as:=(Gr.lay hdx).trans (Gr.lay hx2)
 have nx:x∉as:=fun z=>r1.all z hx
 have rB:=(r1.lay (o:=.own x) hdx).lay (o:=.ins C dx []) hx2
 have at_:∀(n:Nat) (a:Addr),as[n]? = some a→(as ++ [x])[n]? = some a:=fun n a h=>by
  rw [zu (zn.mp h).1]; exact h
 refine ⟨⟨rB.fh,rB.fd,?_,by simp [r1.len],fun a ha=>?_,fun n a o ha ho=>?_⟩,⟨gAB.fz,gAB.ff,⟨[x],rfl,fun a ha=>by rw [zt.mp ha]; exact hx⟩,fun a o e ha hd=>gAB.fr a o e ha hd,gAB.dm,gAB.kz⟩,Rp.mkO (by rw [←r1.len,zw (zc _),Nat.sub_self]; rfl)⟩
 ·rw [jk];refine ⟨r1.nd,by simp,fun a ha b hb=>?_⟩;rw [zt.mp hb];intro z;subst z;exact nx ha
 ·rcases zA.mp ha with z | z
  ·exact r1.fa a z
  ·rw [zt.mp z];exact r1.frF hx
 ·by_cases hn:n < O.length
  ·rw [zu (by rw [r1.len]; exact hn)] at ha;rw [zu hn] at ho;exact (rB.ob n a o ha ho).keep rfl (Same.refl _) at_
  ·have hn':n=O.length:=by
    have:=(zn.mp ho).1
    simp at this
    omega
   subst hn';rw [zw (zc _),Nat.sub_self] at ho;rw [←r1.len,zw (zc _),Nat.sub_self] at ha;cases ho;cases ha;exact ⟨C,dx,[],hC,QaE,⟨rfl,Rps.nil⟩⟩
section
variable {X:Cx}{md:List Md}{P:Pt}{k:Nat}{c:Str}{ps:List Str}{p pos:Pos}{e:Expr}{es:List Expr}{pm:List Md}{cf:List D→Qae→Res D}{ma:M (List D)}
def Qhm (c:Str) (cf:List D→Qae→Res D) (ma:M (List D)):M D:=fun ρ O=>match ma ρ O with
 | .ok ds O1=>match cf (.ob O1.length::ds) (O1 ++ [.ins c []]) with
  | .ok .non O2=>.ok (.ob O1.length) O2
  | .ex x O2=>.ex x O2
  | _=>.no
 | _=>.no
theorem Qo0 (M:QiR X.prog X.w X.K X.mg X.base c ps k (Qdi X.K X.mg (.v::pm) (rV X.K) cf)) (hr:QaR (k+1) X.A) (ha:∀E,AE (X.wish E) md P pm (e::es) ma) (hg:Gl X c:=by rfl) (hdb:(c == ("__debug__":Str))=false:=by decide)
  (he:starEach (e::es) X.env=(false,eval e X.env)::starEach es X.env:=by exact Qbq rfl) (hpl:(backTo pos (starEach es X.env)).any (·.1)=false:=by exact QbL rfl):VEH X md P (rV X.K) (.Call (.Name c p) (e::es) [] pos) (Qhm c cf ma):=by
 intro pins s σ H ρ O F as Q W I r sl k;obtain ⟨C,f,fd,hC,hM,hb,Fn⟩:=M;unfold Qhm at k
 cases em:ma ρ O with
 | ex x O'=>rw [em] at k; exact False.elim k
 | no=>rw [em] at k; exact False.elim k
 | ok ds O1 =>
  rw [em] at k;dsimp only at k;refine wpAny_Call_Name_kw (Qd7 I hg hC ?_ hdb);refine PySem.W.callWith_K (h₀:=X.base) I.ok.mod.kin hM.kp (thn (ha W pos pins s σ H (fun vs H1=>∃F1 as1,Gr H F as H1 F1 as1∧RlO X.K X.mg O1 H1 F1 as1∧Qbz X.K H1 F1 as1 pm vs ds) (I.wish W) ⟨ρ,O,F,as,ds,O1,r,sl,em,fun vs H1 F1 as1 g1 r1 h1=>⟨F1,as1,g1,r1,h1⟩⟩) fun us s1 z=>?_) he hpl;obtain ⟨vs,H1,J1,rv,F1,as1,g1,r1,hvs⟩:=z;have J:=J1.unwish;refine ⟨J.kIn,?_⟩;have hx:=J.hok.fresh (Nat.le_succ s1.heap.objs.size);have hdx:=J.hok.fresh (zc s1.heap.objs.size);have hne:s1.heap.objs.size≠s1.heap.objs.size+1:=zl (jf _)
  obtain ⟨r2,g2,hox⟩:=r1.ins (c:=c) hC hx hdx hne;have I2:=Inv.made (C:=C) J
  have sp:Qdi X.K X.mg (.v::pm) (rV X.K) cf (.ref (s1.heap.objs.size+1)::vs) (upd (upd H1 s1.heap.objs.size (.own (s1.heap.objs.size+1))) (s1.heap.objs.size+1) (.ins C s1.heap.objs.size [])) (fun v H2=>v = .non∧Q (.ref (s1.heap.objs.size+1)) H2) (exJ X pins σ W):=by
   refine ⟨.ob O1.length::ds,_,F1,as1 ++ [s1.heap.objs.size+1],r2,⟨hox,hvs.gr g2⟩,?_⟩
   cases ec:cf (.ob O1.length::ds) (O1 ++ [.ins c []]) with
   | ok d O2 =>
    rw [ec] at k
    cases d with
    | non=>exact fun v H3 F3 as3 g3 r3 hv=>⟨Rp.unN hv,k _ H3 F3 as3 ((g1.trans g2).trans g3) r3 (Rp.gr hox g3)⟩
    | _=>exact False.elim k
   | ex y O2 =>
    rw [ec] at k
    exact fun C' dxo H3 F3 as3 hC' g3 r3 hx3=>⟨y,C',rfl,hC',k dxo H3 F3 as3 ((g1.trans g2).trans g3) r3 hx3⟩
   | no=>rw [ec] at k; exact False.elim k
  have r3:Qaz (V.ref (s1.heap.objs.size+1)::vs) (Value.ref (s1.heap.objs.size+1)::us):=.cons rfl rv
  have hl:(Value.ref (s1.heap.objs.size+1)::us).length=ps.length:=by rw [←r3.length]; exact Fn.len _ _ _ _ sp
  have bi:=hb { s1 with heap:=(s1.heap.push PySem.W.emptyDict).push (PySem.W.instObj C s1.heap.objs.size) } (Value.ref (s1.heap.objs.size+1)::us) I2.kIn (by rw [zL]; exact hl);rw [zL] at bi;refine zR (Qj9 (f:=f) J.kIn hM.makes hM.init (beq_iff_eq.mp hM.fn) (codeAny_mono (Fn.run _ X.stack _ _ ⟨Value.ref (s1.heap.objs.size+1)::us,[]⟩ (Value.ref (s1.heap.objs.size+1)::us) _ _ _ (hr.make C us []) (I2.env0.make C us []) bi r3 sp) fun res s' hq=>?_))
  cases res with
  | error e=>exact QrG I2 e s' hq
  | ok fl =>
   cases fl with
   | ret u =>
    obtain ⟨v,H',I3,rv3,ev,q3⟩:=I2.after hq;subst ev;exact ⟨rv3,⟨V.ref (s1.heap.objs.size+1),H',I3,rfl,q3⟩⟩
   | next=>exact False.elim hq
   | brk=>exact False.elim hq
   | cont=>exact False.elim hq
end
end L2
namespace L2
open PySem PySem.Spec PyProof.Rows PySem.W PySem.Calls
section
variable {prog:Program}{w:World}{A:Around}{E:Value→Shared→Prop}{s:Shared}{R:Result→Shared→Prop}
theorem Qni {d:Addr}{Q:Bool→Shared→Prop} (hT:s.TypeIs (.ref d) "dict") (h:Q false s):wpAny (model prog w) A (Builtin.List.listLengthHint (.ref d)) Q E s:=by
 unfold Builtin.List.listLengthHint;refine za (wpAny_specialOf (r:=some (.builtin "dict.__len__")) hT PySem.F.slot_dict_len.lookup ?_);dsimp only
 have e:splitId "dict.__len__" = some ("dict","__len__"):=by decide +kernel
 rw [e];dsimp only;refine za (wpAny_isInstance (T:="dict") hT (b:=true) PySem.F.sub_dict_dict ?_);rw [if_neg (by decide),if_pos (by decide +kernel)];exact za (wpAny_typeOf hT (zb h))
theorem Qse {knd:KeyKind prog w Key}{d S:Addr}{kvs:List (Key×Value)} (hh:A.handled=none) (hd:(d == sysModules)=false) (hm:s.heap.DictOf knd d kvs) (hn:kvs.length≤sizeLine) (hne:d≠S) (res:Value) (c₀:Nat)
  (hS:s.heap.get? S=some { cls:=.type "list",data:=.seq #[] c₀ })
  (hR:∀s' acc' c',(∀b o,b≠S→s.heap.get? b=some o→s'.heap.get? b=some o)→s'.gens=s.gens→s'.drawn=s.drawn→s'.os=s.os→s'.heap.get? S=some { cls:=.type "list",dict:=none,data:=.seq acc' c',slots:=#[] }→ItemsOf (fun i v=>∃k x,kvs[i]? = some (k,x)∧knd.is k v=true) acc' kvs.length→R (.ok (.ret res)) s') :
  wpAny (model prog w) A.in1 (Builtin.List.listExtendWith (.ref S) (.ref d) res)
   (fun fin s'=>match fin with | .done f=>R (.ok f) s' | .again c'=>c'.quiet=true∧codeAny (model prog w) A c' R s') (fun e s'=>R (.error e) s') s:=by
 obtain ⟨ep,hat⟩:=hm.dictAt;have hT:s.TypeIs (.ref d) "dict":=hm.typeIs;have ltS:S < s.heap.objs.size:=zd hS;have ltd:d < s.heap.objs.size:=hat.lt_size;unfold Builtin.List.listExtendWith;refine za (wpAny_typeOf hT ?_)
 have h1:Builtin.List.listSameRef (.ref S) (.ref d)=false:=by simp [Builtin.List.listSameRef,hne.symm]
 have h2:(Value.type "dict" == Value.type "list")=false:=by decide
 have h3:(Value.type "dict" == Value.type "tuple")=false:=by decide
 simp only [h1,h2,h3,Bool.or_false,Bool.false_eq_true,if_false];refine za (wpAny_pyIter_dict hd hat ?_);refine za (zC ?_)
 generalize hI:s.heap.objs.size=I at *
 generalize hh1:s.heap.push { cls:=.type "dict_keyiterator",data:=.fields #[.ref d,.int 0 0,.int kvs.length 0,.int ep 0] }=h1'
 have k1:∀b o,s.heap.get? b=some o→h1'.get? b=some o:=fun b o e=>by rw [←hh1]; exact zf _ e
 have it1:h1'.IsKeyIter I d 0 kvs.length ep:=by rw [←hh1,←hI]; exact ⟨_,zD _ rfl,rfl,rfl⟩
 have hS1:=k1 _ _ hS;have hat1:=hat.keep k1;refine Qni (s:={ s with heap:=h1' }) ⟨_,k1 _ _ hT.choose_spec.1,hT.choose_spec.2⟩ ?_;rw [if_pos (by decide +kernel)];refine za (zT ?_);refine za ?_;show wpAny _ A.in1 (updateSeq S (·.push .none) >>= fun _=>updateSeq S (·.pop)) _ _ _;refine za (wpAny_updateSeq hS1 rfl ?_);have hS₂:=Heap.get?_update_self (Obj.mapSeq (·.push Value.none)) hS1 rfl;refine wpAny_updateSeq (hz:=by seq_fits) hS₂ rfl ?_;have hS₃:=Heap.get?_update_self (Obj.mapSeq (·.pop)) hS₂ rfl;have oth:∀b o,b≠S→h1'.get? b=some o→((h1'.update S (Obj.mapSeq (·.push Value.none))).update S (Obj.mapSeq (·.pop))).get? b=some o :=
  fun b o hb e=>(zY _ _ (Ne.symm hb)).trans ((zY _ _ (Ne.symm hb)).trans e)
 have W:=(Walks.dictKeys (knd:=knd) (prog:=prog) (w:=w) (A:=A.in1) hh I d (zl ltd) kvs ep).toS
 refine zb ⟨plainId_quiet PySem.F.plain_extend_loop _,codeAny_extend_loopS W hn S (by simp only [zj,List.not_mem_nil,or_false,not_or]; exact ⟨zl ltS,hne.symm⟩) _ kvs.length 0 _ _ _ rfl (Nat.zero_le _)
  ⟨it1.at fun o e=>oth I o (Nat.ne_of_gt ltS) e,hat1.at' fun o e=>oth d o hne e⟩ hS₃ (ItemsOf.nil _) fun s' acc' c' hmv hS' hacc=>?_⟩
 refine hR s' acc' c' (fun b o hb e=>hmv.heap b o (fun hz=>?_) (oth b o hb (k1 b o e))) hmv.gens hmv.drawn hmv.os hS' hacc;simp only [zj,List.not_mem_nil,or_false] at hz
 rcases hz with hz | hz
 ·exact hb hz
 ·exact absurd (zd e) (by rw [hz,hI]; exact zH _)
theorem QkN {knd:KeyKind prog w Key}{d:Addr}{kvs:List (Key×Value)}{Q:Value→Shared→Prop} (hh:A.handled=none) (hd:(d == sysModules)=false) (hm:s.heap.DictOf knd d kvs) (hn:kvs.length≤sizeLine)
  (hQ:∀s' acc' c',(∀b o,s.heap.get? b=some o→s'.heap.get? b=some o)→s'.gens=s.gens→s'.drawn=s.drawn→s'.os=s.os→s'.heap.get? s.heap.objs.size=some { cls:=.type "list",dict:=none,data:=.seq acc' c',slots:=#[] }→ItemsOf (fun i v=>∃k x,kvs[i]? = some (k,x)∧knd.is k v=true) acc' kvs.length→Q (.ref s.heap.objs.size) s') :
  wpAny (model prog w) A (call (.type "list") [.ref d]) Q E s:=by
 have ltd:d < s.heap.objs.size:=by
  obtain ⟨ep,hat⟩:=hm.dictAt;exact hat.lt_size
 refine callType_codes (Q₁:=fun obj s₁=>obj = .ref s.heap.objs.size∧s₁ = { s with heap:=s.heap.push { cls:=.type "list",data:=.seq #[] } }) PySem.F.called_list (PySem.F.typeCall_list_1 _) PySem.F.entry_list_init
  (code_list_new _ ⟨rfl,rfl⟩) fun obj s₁ h₁=>?_
 obtain ⟨rfl,rfl⟩:=h₁;have hS:(s.heap.push { cls:=.type "list",data:=.seq #[] }).get? s.heap.objs.size=some { cls:=.type "list",data:=.seq #[] }:=zD _ rfl;refine ⟨⟨_,hS,rfl⟩,PySem.F.args_list_init_2 _ _,?_⟩;show wpAny _ _ (do let old ←Builtin.List.listItems (.ref s.heap.objs.size); Builtin.List.listUpdate (.ref s.heap.objs.size) (fun _=>#[]); letGo old.toList.reverse; Builtin.List.listExtendWith (.ref s.heap.objs.size) (.ref d) .none) _ _ _;refine za ?_;unfold Builtin.List.listItems;refine za (wpAny_seqItems hS rfl (zb ?_));show wpAny _ _ (updateSeq s.heap.objs.size (fun _=>#[]) >>= fun _=>letGo (#[]:Array Value).toList.reverse >>= fun _=>Builtin.List.listExtendWith (.ref s.heap.objs.size) (.ref d) .none) _ _ _
 refine za (wpAny_updateSeq hS rfl ?_);have hS₂:=Heap.get?_update_self (Obj.mapSeq (fun _=>(#[]:Array Value))) hS rfl;refine za (wpAny_letGo ?_);have oth:∀b o,s.heap.get? b=some o→((s.heap.push { cls:=.type "list",data:=.seq #[] }).update s.heap.objs.size (Obj.mapSeq (fun _=>(#[]:Array Value)))).get? b=some o :=
  fun b o e=>(zY _ _ (Nat.ne_of_gt (zd e))).trans (zf _ e)
 have hm2:((s.heap.push { cls:=.type "list",data:=.seq #[] }).update s.heap.objs.size (Obj.mapSeq (fun _=>(#[]:Array Value)))).DictOf knd d kvs:=by
  obtain ⟨ep,hat⟩:=hm.dictAt;exact (hat.keep oth).dictOf
 refine Qse (by exact hh) hd hm2 hn (zl ltd) .none _ hS₂ fun s' acc' c' kp g1 g2 g3 e1 e2=>?_
 exact ⟨rfl,hQ s' acc' c' (fun b o e=>kp b o (zl (zd e)) (oth b o e)) g1 g2 g3 e1 e2⟩
end
section
variable {X:Cx}{md:List Md}{P:Pt}{R:RR}
theorem Qrj {P:Program}{w:World}{k:Key}{u:Value} (h:(Qb5 P w).is k u=true):RelV (kV k) u:=by
 have h':QeV k u=true:=h
 cases k with
 | inl i=>cases u <;> simp [QeV,Value.isInt] at h' <;> exact ⟨_,by rw [h']⟩
 | inr x=>cases u <;> simp [QeV,Value.isStrOf] at h' <;> exact ⟨_,by rw [h']⟩
theorem Ql8 (hc:X.calm=true):QdK X (.type "list") (fun xs H Q=>∃a kvs,xs = [V.ref a]∧H a=some (.dK kvs)∧∀l,H l=none→Q (.ref l) (upd H l (.lst (kvs.map fun p=>kV p.1)))):=by
 intro pins s σ H xs us Q I r h;obtain ⟨a,kvs,rfl,ha,q⟩:=h;obtain ⟨u,rfl,ru⟩:=vals1 r;cases ru;obtain ⟨z,hsy,vs,rel,dd⟩:=QpF I.hok ha;have hlen:=rel.length;have hkeys:=rel.keys
 refine QkN (I.ok.hd hc) hsy dd (by omega) fun s' acc' c' kp g1 g2 g3 e1 e2=>?_
 obtain ⟨hp',gn',dr',tk',os'⟩:=s';obtain ⟨hp,gn,dr,tk,os⟩:=s;dsimp only at *;subst g1 g2 g3
 have rv:Qaz (kvs.map fun p=>kV p.1) acc'.toList:=by
  refine QjJ _ _ (by rw [zo,hlen,←e2.1]; simp) fun j p v hp hv=>?_
  obtain ⟨k,x,f1,f2⟩:=e2.2 j v (by simpa using hv)
  have f3:(kvs.map (·.1))[j]? = some k:=by rw [hkeys,zB,f1]; rfl
  rw [zB] at hp f3
  cases e:kvs[j]? with
  | none=>rw [e] at hp; cases hp
  | some y =>
   rw [e] at hp f3;cases hp;cases f3;exact Qrj f2
 exact ⟨.ref hp.objs.size,_,I.laid (t':=tk') kp (zc _) (show Qbh X.prog X.w _ hp' _ (.lst (kvs.map fun p=>kV p.1)) from ⟨by rw [zo]; exact z,acc'.toList,c',rv,by simpa using e1⟩),rfl,q _ (I.hok.fresh (zc _))⟩
def QiJ (mo:M D):M D:=fun ρ O=>(mo ρ O).bind fun x O1=>match x with
 | .ob n=>match O1[n]? with
  | some (.dk kvs)=>.ok (.lst (kvs.map fun p=>Qhd p.1)) O1
  | _=>.no
 | _=>.no
theorem QoJ {a:Expr}{p pos:Pos}{m:M D} (hc:X.calm=true) (hm:X.mg "list" = none) (h:VE X md P a m) (hg:Gl X "list":=by rfl) (hs1:starEach [a] X.env=(false,eval a X.env)::starEach [] X.env:=by exact Qbq rfl) (hpl:(backTo pos (starEach [] X.env)).any (·.1)=false:=by exact QbL rfl):OE X md P (.Call (.Name "list" p) [a] [] pos) (QiJ m) :=
 (Qjo (Ql8 hc) hg hm Qe7 (Qcb h Qdc hs1) (by decide) (by decide) hs1 hpl).imp fun σ H Q q=>by
  obtain ⟨ρ,O,F,as,d,O',r,s,e,k⟩:=q;obtain ⟨x,O1,e1,e⟩:=Res.bind_ok e;split at e
  ·rename_i n;split at e
   ·rename_i kvs e4;cases e;refine ⟨ρ,_,F,as,_,_,r,s,e1,fun v H1 F1 as1 g1 r1 hv=>?_⟩;obtain ⟨a,rfl,ha⟩:=Rp.unO hv;obtain ⟨xs,x1,x2⟩:=r1.dk ha e4;refine ⟨a,xs,rfl,x1,fun l hl=>?_⟩
    have e5:(xs.map fun p=>kV p.1)=(kvs.map (·.1)).map kV:=by rw [←x2.1,List.map_map]; rfl
    have e6:(kvs.map fun p=>Qhd p.1)=(kvs.map (·.1)).map Qhd:=by rw [List.map_map]; rfl
    rw [e5];rw [e6] at k;exact QhB r1 (fun v H2 F2 g2 r2 hv=>k v H2 F2 as1 (g1.trans g2) r2 (Qes _ _ _ _ _ _ _ (fun a ha=>g1.dm a ha) hv)) hl (QiX _)
   ·cases e
  ·cases e
theorem QnL (hc:X.calm=true):QdK X (.builtin "any") (fun xs H Q=>∃(a:Addr) (bs:List Bool),xs = [.ref a]∧SqL X.K H a (bs.map V.bl)∧Q (.bl (bs.any id)) H):=by
 intro pins s σ H xs us Q I r h;obtain ⟨a,bs,rfl,ha,q⟩:=h;obtain ⟨u,rfl,ru⟩:=vals1 r;cases ru;obtain ⟨its,rv,p,hz⟩:=I.list ha;refine call_any_walk (wpAny_pyIter_list p.isList ?_);have hne:a≠s.heap.objs.size:=zl (zd p.isList.choose_spec.1)
 refine ⟨s.heap.objs.size,_,_,its.toArray.size,_,_,fun i=>bs.getD i false,rfl,Walks.list (A:=X.A.in1) (I.ok.hd hc) s.heap.objs.size a hne its.toArray,
  ⟨⟨_,zD _ rfl,rfl,rfl⟩,p.isList.at fun o e=>zf _ e⟩,fun i v s' Q' E' hv hq=>?_,fun h' tk hk=>?_⟩
 ·have hb:(bs.map V.bl)[i]? = some (V.bl (bs.getD i false)):=by
   have hi:i < its.length:=by
    have z:=Array.getElem?_eq_some_iff.mp hv;simpa using z.1
   have hl:=rv.length;rw [zo] at hl;rw [zB,zy (by omega),zO,zy (by omega)];rfl
  obtain ⟨u,hu,ru⟩:=rv.get hb
  have hv':its[i]? = some v:=by simpa using hv
  rw [hv'] at hu;cases hu;cases (show v = .bool _ from ru);exact wpAny_truthy_bool hq
 ·refine ⟨.bl (bs.any id),H,I.kept fun b o e=>hk b o (fun z=>?_) (zf _ e),?_,q⟩
  ·have z':b=s.heap.objs.size:=by simpa using z
   exact absurd (zd e) (by rw [z']; exact zH _)
  ·have hl:its.length=bs.length:=by have:=rv.length; rw [zo] at this; exact this.symm
   have e:(List.range its.toArray.size).any (fun i=>bs.getD i false)=bs.any id:=by
    rw [zp,hl];rw [Bool.eq_iff_iff,List.any_eq_true,List.any_eq_true];constructor
    ·rintro ⟨i,hi,h⟩;have hi':=List.mem_range.mp hi;rw [zO,zy hi'] at h;exact ⟨_,jd hi',h⟩
    ·rintro ⟨x,hx,h⟩;obtain ⟨i,hi,rfl⟩:=List.mem_iff_getElem.mp hx;refine ⟨i,List.mem_range.mpr hi,?_⟩;rw [zO,zy hi];exact h
   show Value.bool _=Value.bool _;rw [e]
def Qjh:List D→Option D
 | [.lst ds]=>(Qcy ds).map fun bs=>.bl (bs.any id)
 | _=>none
theorem QrC (hc:X.calm=true):Qgr X (.builtin "any") Qjh:=by
 intro pins s σ H xs us Q I rs h;obtain ⟨O,F,as,ds,d,r,hvs,e,k⟩:=h;unfold Qjh at e;split at e
 ·rename_i es;obtain ⟨v,rfl,hv⟩:=hvs.one;obtain ⟨p,xs,rfl,h1,h2⟩:=hv.list r.fh
  cases q:Qcy es with
  | none=>rw [q] at e; cases e
  | some bs =>
   rw [q] at e;cases e;refine QnL hc pins s σ H _ us Q I rs ⟨p,bs,rfl,?_,Qbr r k rfl Rp.bl⟩;rw [←h2.bools q];exact h1.sq
 ·cases e
theorem QrL:bootBuiltins "any" = some (.builtin "any"):=by decide +kernel
structure Qch (mg:Str→Option Value):Prop extends Blt mg where
 any_:mg "any" = none
end
end L2
namespace L2
open PySem PySem.Spec PyProof.Rows PySem.W
section
variable {K:Frag}{h:Heap}{mg:Str→Option Value}
theorem mkD {x:Str}{st:Stmt}{f:Addr}{oc:Value}{od an:Option Addr}{sl:Array (Option Value)}{kV dc pm cd ct:Value} (X:K.In h) (G:h.Ns mainGlobals mg) (a:nsIn K mainGlobals x=some (some (.ref f))) (l:K.lookup f=some ⟨oc,od,.func (fnOf x x (QbU st) (Qa8 st) (Qao st) .none kV dc pm an cd ct),sl⟩) (c:codeIn K cd x=true) (k:keepIn K (.ref f)=true):Def K mg x st:=⟨_,_,mg_of X G a,QiF l c k⟩
structure ClsAt (K:Frag) (c:Str) (A:Addr):Prop where
 ns:nsIn K mainGlobals c=some (some (.ref A))
 pg:plainGet K A Str.empty=true
 hd:hasDictIn K A=true
 po:plainOver K A=true
 sa:findIn K (.ref A) "__setattr__" = some (some (.builtin "object.__setattr__"))
 mks:makesIn K A=true
 kc:keepIn K (.ref A)=true
def MethAt (K:Frag) (A:Addr) (m qual:Str) (st:Stmt):Prop:=∃f fd,findIn K (.ref A) m=some (some (.ref f))∧isFn K (.ref f)=true∧keepIn K (.ref f)=true∧Fun K m qual st f fd
theorem mkM {A:Addr}{m qual:Str}{st:Stmt}{f:Addr}{oc:Value}{od an:Option Addr}{sl:Array (Option Value)}{kV dc pm cd ct:Value} (a:findIn K (.ref A) m=some (some (.ref f))) (i:isFn K (.ref f)=true) (l:K.lookup f=some ⟨oc,od,.func (fnOf m qual (QbU st) (Qa8 st) (Qao st) .none kV dc pm an cd ct),sl⟩) (c:codeIn K cd qual=true) (k:keepIn K (.ref f)=true):MethAt K A m qual st:=⟨_,_,a,i,k,QiF l c k⟩
variable {A:Addr}{c:Str}
theorem ClsAt.cl (z:ClsAt K c A):Cls K A:=⟨z.pg,z.hd,z.po,z.sa⟩
theorem ClsAt.dm (z:ClsAt K c A) (X:K.In h) (G:h.Ns mainGlobals mg) {m qual:Str}{st:Stmt} (q:MethAt K A m qual st):QoI K mg c m qual st:=by
 obtain ⟨f,fd,a,i,k,fu⟩:=q;exact ⟨_,_,_,mg_of X G z.ns,z.cl,⟨a,i,k⟩,fu⟩
theorem ClsAt.dc (z:ClsAt K c A) (X:K.In h) (G:h.Ns mainGlobals mg) {qual:Str}{st:Stmt} (q:MethAt K A "__init__" qual st):QoZ K mg c qual st:=by
 obtain ⟨f,fd,a,i,k,fu⟩:=q;exact ⟨_,_,_,mg_of X G z.ns,⟨z.mks,a,i,z.kc⟩,fu⟩
theorem ClsAt.kf (z:ClsAt K c A) (X:K.In h) (G:h.Ns mainGlobals mg) {f:Str} (n:findIn K (.ref A) f=some none):KC K mg c f:=⟨_,mg_of X G z.ns,z.cl,n⟩
end
end L2
namespace L2
open PySem PySem.Spec PyProof.Rows
section
variable {X:Cx}
end
def ofO (o:Option D) (O:Qae):Res D:=match o with
 | some d=>.ok d O
 | none=>.no
@[simp] theorem Qcp {d:D}{O:Qae}:ofO (some d) O = .ok d O:=rfl
@[simp] theorem Qav {α β:Type}{a:α}{O:Qae}{f:α→Qae→Res β}:(Res.ok a O).bind f=f a O:=rfl
@[simp] theorem Qus {O:Qae}:QaU O .non = .non:=rfl
@[simp] theorem Qpd {O:Qae}{b:Bool}:QaU O (.bl b) = .bl b:=rfl
@[simp] theorem Qbv {O:Qae}{b:Int}:QaU O (.int b) = .int b:=rfl
@[simp] theorem QeB {O:Qae}{b:List Nat}:QaU O (.str b) = .str b:=rfl
@[simp] theorem QdJ {O:Qae}{b:List D}:QaU O (.lst b) = .lst b:=rfl
@[simp] theorem Quq {O:Qae}{b:List D}:QaU O (.tup b) = .tup b:=rfl
@[simp] theorem Qut {O:Qae}{a b:List D}:QaU O (.dic a b) = .dic a b:=rfl
@[simp] theorem QcN {i:Nat}{ρ:Qam}{O:Qae}:Qab i ρ O=(match ρ[i]? with | some (some d)=>.ok d O | _=>.no):=rfl
@[simp] theorem m_c {d:D}{ρ:Qam}{O:Qae}:mC d ρ O = .ok d O:=rfl
@[simp] theorem Qiw {g:D→D→Option D}{a b:M D}{ρ:Qam}{O:Qae}:Qad g a b ρ O=(a ρ O).bind fun x O1=>(b ρ O1).bind fun y O2=>ofO (g (QaU O2 x) (QaU O2 y)) O2:=rfl
def gF (r:Res D):Res D:=match r with
 | .ok d O'=>if Qd4 d=true then .ok d O' else .no
 | r=>r
@[simp] theorem m_g {m:M D}{ρ:Qam}{O:Qae}:mG m ρ O=gF (m ρ O):=rfl
@[simp] theorem Qod {i:Int}{O:Qae}:gF (.ok (.int i) O) = .ok (.int i) O:=rfl
@[simp] theorem Qv2 {i:List Nat}{O:Qae}:gF (.ok (.str i) O) = .ok (.str i) O:=rfl
@[simp] theorem Qwm {i:Bool}{O:Qae}:gF (.ok (.bl i) O) = .ok (.bl i) O:=rfl
@[simp] theorem Qwe {O:Qae}:gF (.ok .non O) = .ok .non O:=rfl
@[simp] theorem Qv5 {l:List D}{O:Qae}:gF (.ok (.tup l) O) = .ok (.tup l) O:=rfl
@[simp] theorem Qwx {n:Nat}{O:Qae}:gF (.ok (.ob n) O) = .ok (.ob n) O:=rfl
def chF (o:Option D) (O:Qae) (f:Unit→Res D):Res D:=match o with
 | some (.bl true)=>f ()
 | some (.bl false)=>.ok (.bl false) O
 | _=>.no
@[simp] theorem Qui {b:Bool}{O:Qae}{f:Unit→Res D}:chF (some (.bl b)) O f=if b=true then f () else .ok (.bl false) O:=by cases b <;> rfl
@[simp] theorem QqX {g g':D→D→Option D}{a b c:M D}{ρ:Qam}{O:Qae}:QdN g g' a b c ρ O=(a ρ O).bind fun x O1=>(b ρ O1).bind fun y O2=>chF (g (QaU O2 x) (QaU O2 y)) O2 fun _=>(c ρ O2).bind fun z O3=>ofO (g' (QaU O3 y) (QaU O3 z)) O3:=by
 unfold QdN;congr 1
@[simp] theorem Qwo {m:M D}{ρ:Qam}{O:Qae}:Qu2 m ρ O=(m ρ O).bind fun d O1=>.ok (.bl (isNon d)) O1:=rfl
@[simp] theorem QvX {m:M D}{ρ:Qam}{O:Qae}:QtG m ρ O=(m ρ O).bind fun d O1=>.ok (.bl (!isNon d)) O1:=rfl
@[simp] theorem Qur:isNon .non=true:=rfl
@[simp] theorem Quv {l:List D}:isNon (.lst l)=false:=rfl
@[simp] theorem Qup {l:List D}:isNon (.tup l)=false:=rfl
@[simp] theorem Qum {l:List Nat}:isNon (.str l)=false:=rfl
@[simp] theorem Quo {l:Int}:isNon (.int l)=false:=rfl
@[simp] theorem QuH {l:Nat}:isNon (.ob l)=false:=rfl
def teF (d:D) (O:Qae):Res Bool:=match d with
 | .bl b=>.ok b O
 | _=>.no
@[simp] theorem Qsv {b:Bool}{O:Qae}:teF (.bl b) O = .ok b O:=rfl
@[simp] theorem Qsh {m:M D}{ρ:Qam}{O:Qae}:QaM m ρ O=(m ρ O).bind teF:=rfl
def ofB (o:Option Bool) (O:Qae):Res Bool:=match o with
 | some d=>.ok d O
 | none=>.no
@[simp] theorem QoM {d:Bool}{O:Qae}:ofB (some d) O = .ok d O:=rfl
@[simp] theorem QhF {m:M D}{ρ:Qam}{O:Qae}:QbC m ρ O=(m ρ O).bind fun d O1=>ofB (Qje (QaU O1 d)) O1:=rfl
@[simp] theorem Qrb {b:Bool}:Qje (.bl b)=some b:=rfl
@[simp] theorem QuQ {b:List D}:Qje (.lst b)=some (!b.isEmpty):=rfl
@[simp] theorem Qj7 {a b:M Bool}{ρ:Qam}{O:Qae}:QcJ a b ρ O=(a ρ O).bind fun c O1=>if c=true then b ρ O1 else .ok false O1:=rfl
@[simp] theorem Qmt {a b:M Bool}{ρ:Qam}{O:Qae}:Qc3 a b ρ O=(a ρ O).bind fun c O1=>if c=true then .ok true O1 else b ρ O1:=rfl
@[simp] theorem Qge {a:M Bool}{ρ:Qam}{O:Qae}:Qbs a ρ O=(a ρ O).bind fun c O1=>.ok (!c) O1:=rfl
def anF (d:D) (O:Qae) (f:Unit→Res D):Res D:=match d with
 | .bl true=>f ()
 | .bl false=>.ok (.bl false) O
 | _=>.no
def orF (d:D) (O:Qae) (f:Unit→Res D):Res D:=match d with
 | .bl true=>.ok (.bl true) O
 | .bl false=>f ()
 | _=>.no
@[simp] theorem QwD {b:Bool}{O:Qae}{f:Unit→Res D}:anF (.bl b) O f=if b=true then f () else .ok (.bl false) O:=by cases b <;> rfl
@[simp] theorem Qwt {b:Bool}{O:Qae}{f:Unit→Res D}:orF (.bl b) O f=if b=true then .ok (.bl true) O else f ():=by cases b <;> rfl
@[simp] theorem Qc9 {a b:M D}{ρ:Qam}{O:Qae}:Qbi a b ρ O=(a ρ O).bind fun d O1=>anF d O1 fun _=>b ρ O1:=by
 unfold Qbi;congr 1
@[simp] theorem Qwq {a b:M D}{ρ:Qam}{O:Qae}:QsO a b ρ O=(a ρ O).bind fun d O1=>orF d O1 fun _=>b ρ O1:=by
 unfold QsO;congr 1
def noF (d:D) (O:Qae):Res D:=match d with
 | .bl b=>.ok (.bl (!b)) O
 | _=>.no
@[simp] theorem Qwv {b:Bool}{O:Qae}:noF (.bl b) O = .ok (.bl (!b)) O:=rfl
@[simp] theorem Qkn {a:M D}{ρ:Qam}{O:Qae}:Qc6 a ρ O=(a ρ O).bind noF:=rfl
@[simp] theorem QwE {t:M Bool}{a b:M D}{ρ:Qam}{O:Qae}:mIf t a b ρ O=(t ρ O).bind fun c O1=>if c=true then a ρ O1 else b ρ O1:=rfl
@[simp] theorem Qn0 {ρ:Qam}{O:Qae}:Qaf ρ O = .ok [] O:=rfl
@[simp] theorem QhL {m:M D}{r:M (List D)}{ρ:Qam}{O:Qae}:Qaa m r ρ O=(m ρ O).bind fun d O1=>(r ρ O1).bind fun ds O2=>.ok (d::ds) O2:=rfl
@[simp] theorem Quc {r:M (List D)}{ρ:Qam}{O:Qae}:Qa1 r ρ O=(r ρ O).bind fun ds O1=>if ds.length≤1000000 then .ok (.lst ds) O1 else .no:=rfl
@[simp] theorem QtY {r:M (List D)}{ρ:Qam}{O:Qae}:Qbd r ρ O=(r ρ O).bind fun ds O1=>if ds.length≤1000000 then .ok (.tup ds) O1 else .no:=rfl
@[simp] theorem Qm6 {c:List D→Qae→Res D}{ma:M (List D)}{ρ:Qam}{O:Qae}:Qax c ma ρ O=(ma ρ O).bind fun ds O1=>c ds O1:=rfl
@[simp] theorem QiV {g:List D→Option D}{ma:M (List D)}{ρ:Qam}{O:Qae}:QaX g ma ρ O=(ma ρ O).bind fun ds O1=>ofO (g (ds.map (QaU O1))) O1:=rfl
@[simp] theorem QwF {g:D→Option D}{ma:M D}{ρ:Qam}{O:Qae}:mUn g ma ρ O=(ma ρ O).bind fun d O1=>ofO (g (QaU O1 d)) O1:=rfl
def isF (n:String) (o:Option String) (O:Qae):Res D:=match o with
 | some t=>.ok (.bl (Qdd t n)) O
 | none=>.no
@[simp] theorem Qpb {n t:String}{O:Qae}:isF n (some t) O = .ok (.bl (Qdd t n)) O:=rfl
@[simp] theorem QpJ {n:String}{m:M D}{ρ:Qam}{O:Qae}:QdD n m ρ O=(m ρ O).bind fun d O1=>isF n (tyD (QaU O1 d)) O1:=rfl
@[simp] theorem QvG:tyD .non=some "NoneType":=rfl
@[simp] theorem Qv1 {b:Bool}:tyD (.bl b)=some "bool":=rfl
@[simp] theorem QvM {b:Int}:tyD (.int b)=some "int":=rfl
@[simp] theorem QqC {b:List Nat}:tyD (.str b)=some "str":=rfl
@[simp] theorem QvJ {b:List D}:tyD (.lst b)=some "list":=rfl
@[simp] theorem Qvy {b:List D}:tyD (.tup b)=some "tuple":=rfl
@[simp] theorem QvH {a b:List D}:tyD (.dic a b)=some "dict":=rfl
@[simp] theorem QuV {ρ:Qam}{O:Qae}:moN ρ O = .ok none O:=rfl
def osF (d:D) (O:Qae):Res (Option Int):=match d with
 | .int i=>.ok (some i) O
 | _=>.no
@[simp] theorem Qtw {i:Int}{O:Qae}:osF (.int i) O = .ok (some i) O:=rfl
@[simp] theorem Qve {m:M D}{ρ:Qam}{O:Qae}:moS m ρ O=(m ρ O).bind osF:=rfl
@[simp] theorem QmM {m:M D}{lo hi:M (Option Int)}{ρ:Qam}{O:Qae}:mSl m lo hi ρ O=(m ρ O).bind fun d O1=>(lo ρ O1).bind fun l O2=>(hi ρ O2).bind fun h O3=>ofO (gSl (QaU O3 d) l h) O3:=rfl
@[simp] theorem QlB {l:List Nat}{lo hi:Option Int}:gSl (.str l) lo hi=if l.length≤16777216 then some (.str (QcF l lo hi)) else none:=rfl
@[simp] theorem Qqp {l:List D}{lo hi:Option Int}:gSl (.lst l) lo hi=some (.lst (QcF l lo hi)):=rfl
@[simp] theorem Qrl {l:List D}{lo hi:Option Int}:gSl (.tup l) lo hi=some (.tup (QcF l lo hi)):=rfl
def Qgs (f:Fl) (b:MS):Fl:=match f with
 | .nx ρ' O'=>b ρ' O'
 | r=>r
@[simp] theorem QiA {a b:MS}{ρ:Qam}{O:Qae}:Qaq a b ρ O=Qgs (a ρ O) b:=rfl
@[simp] theorem Qli {ρ:Qam}{O:Qae}{b:MS}:Qgs (.nx ρ O) b=b ρ O:=rfl
@[simp] theorem Qq8 {d:D}{O:Qae}{b:MS}:Qgs (.rt d O) b = .rt d O:=rfl
@[simp] theorem QvC {ρ:Qam}{O:Qae}{b:MS}:Qgs (.bk ρ O) b = .bk ρ O:=rfl
@[simp] theorem QvP {ρ:Qam}{O:Qae}{b:MS}:Qgs (.ct ρ O) b = .ct ρ O:=rfl
@[simp] theorem QvE {b:MS}:Qgs .no b = .no:=rfl
@[simp] theorem Qsu {ρ:Qam}{O:Qae}:QaQ ρ O = .nx ρ O:=rfl
def Qh2 (r:Res D):Fl:=match r with
 | .ok d O'=>.rt d O'
 | .ex x O'=>.ex x O'
 | .no=>.no
@[simp] theorem Qbt {m:M D}{ρ:Qam}{O:Qae}:QaL m ρ O=Qh2 (m ρ O):=rfl
@[simp] theorem QbN {d:D}{O:Qae}:Qh2 (.ok d O) = .rt d O:=rfl
def Qpp (r:Res D) (ρ:Qam):Fl:=match r with
 | .ok _ O'=>.nx ρ O'
 | .ex x O'=>.ex x O'
 | .no=>.no
@[simp] theorem QvB {m:M D}{ρ:Qam}{O:Qae}:QsX m ρ O=Qpp (m ρ O) ρ:=rfl
@[simp] theorem QuM {d:D}{O:Qae}{ρ:Qam}:Qpp (.ok d O) ρ = .nx ρ O:=rfl
def ifF (r:Res Bool) (a b:MS) (ρ:Qam):Fl:=match r with
 | .ok c O'=>if c=true then a ρ O' else b ρ O'
 | .ex x O'=>.ex x O'
 | .no=>.no
@[simp] theorem Ql1 {t:M Bool}{a b:MS}{ρ:Qam}{O:Qae}:Qb0 t a b ρ O=ifF (t ρ O) a b ρ:=rfl
@[simp] theorem Qj2 {c:Bool}{O:Qae}{a b:MS}{ρ:Qam}:ifF (.ok c O) a b ρ=if c=true then a ρ O else b ρ O:=rfl
def QkS (i:Nat) (r:Res D) (ρ:Qam):Fl:=match r with
 | .ok d O'=>.nx (ρ.set i (some d)) O'
 | .ex x O'=>.ex x O'
 | .no=>.no
@[simp] theorem QsB {i:Nat}{m:M D}{ρ:Qam}{O:Qae}:Qas i m ρ O=QkS i (m ρ O) ρ:=rfl
@[simp] theorem Qqc {i:Nat}{d:D}{O:Qae}{ρ:Qam}:QkS i (.ok d O) ρ = .nx (ρ.set i (some d)) O:=rfl
def QrF (r:Res (List D)) (g:MG) (b:MS) (ρ:Qam):Fl:=match r with
 | .ok ds O'=>QbA g b ds ρ O'
 | .ex x O'=>.ex x O'
 | .no=>.no
@[simp] theorem Qsl {m:M (List D)}{g:MG}{b:MS}{ρ:Qam}{O:Qae}:QcV m g b ρ O=QrF (m ρ O) g b ρ:=rfl
@[simp] theorem Qq5 {ds:List D}{O:Qae}{g:MG}{b:MS}{ρ:Qam}:QrF (.ok ds O) g b ρ=QbA g b ds ρ O:=rfl
@[simp] theorem mg_n {i:Nat}{d:D}{ρ:Qam}:mgN i d ρ=some (ρ.set i (some d)):=rfl
def Qbc (f:Fl):Res D:=match f with
 | .rt d O'=>.ok d O'
 | .nx _ O'=>.ok .non O'
 | .ex x O'=>.ex x O'
 | _=>.no
@[simp] theorem QtO {n:Nat}{b:MS}{ds:List D}{O:Qae}:Qbw n b ds O=Qbc (b (ds.map some++List.replicate (n - ds.length) none) O):=rfl
@[simp] theorem QvI {d:D}{O:Qae}:Qbc (.rt d O) = .ok d O:=rfl
@[simp] theorem QvF {ρ:Qam}{O:Qae}:Qbc (.nx ρ O) = .ok .non O:=rfl
@[simp] theorem QsK {m:M (List D)}{ρ:Qam}{O:Qae}:Qc7 m ρ O=(m ρ O).bind fun ds O1=>match ds with
 | [.int j]=>if j≤1000000000∧-1000000000≤j then .ok (QbR 0 j.toNat) O1 else .no
 | _=>.no:=rfl
def itF (o:Option (List D)) (O:Qae):Res (List D):=match o with
 | some ds=>.ok ds O
 | none=>.no
@[simp] theorem Qkv {ds:List D}{O:Qae}:itF (some ds) O = .ok ds O:=rfl
@[simp] theorem Qn5 {m:M D}{ρ:Qam}{O:Qae}:Qb8 m ρ O=(m ρ O).bind fun d O1=>itF (Qgy d) O1:=rfl
@[simp] theorem QnZ {ds:List D}:Qgy (.lst ds)=some ds:=rfl
@[simp] theorem Qun {ds:List D}:Qgy (.tup ds)=some ds:=rfl
theorem Qn4 {l:List Nat} (h:ascii l=true):Qgy (.str l)=some (Qcj l):=by
 show (if ascii l=true then some (Qcj l) else none)=_;rw [if_pos h]
@[simp] theorem QfX {m:M (List D)}{own:Nat}{cap:List Nat}{g:MG}{t:M Bool}{e:M D}{ρ:Qam}{O:Qae}:Qcz m own cap g t e ρ O=(m ρ O).bind fun ds O1=>if ds.length≤1000000 then (Qb1 g t e ds (Qd3 own cap ρ) O1 []).bind fun ys O2=>.ok (.lst ys) O2 else .no:=rfl
@[simp] theorem QnX {i j:Int}:Qay (.int i) (.int j)=some (.int (i+j)):=rfl
@[simp] theorem QsD {a b:List Nat}:Qay (.str a) (.str b)=if a.length+b.length≤1000000 then some (.str (a++b)) else none:=rfl
@[simp] theorem Qr6 {a b:List D}:Qay (.lst a) (.lst b)=if a.length+b.length≤1000000 then some (.lst (a++b)) else none:=rfl
@[simp] theorem QuG {i j:Int}:Qbj (.int i) (.int j)=some (.int (i - j)):=rfl
@[simp] theorem Qs8 {i j:Int}:QaB (.int i) (.int j)=if 0 < j then some (.int (i % j)) else none:=by
 unfold QaB gI
 by_cases h:0 < j <;> simp [h]
@[simp] theorem Qq0 {i j:Int}:QaS (.int i) (.int j)=if 0 < j∧j < 1073741824 then some (.int (i / j)) else none:=by
 unfold QaS gI
 by_cases h:0 < j∧j < 1073741824 <;> simp [h]
theorem QnF {i j:Int} (h:(-(2 ^ 64) < i∧i < 2 ^ 64)∨(-(2 ^ 64) < j∧j < 2 ^ 64)):Qcu (.int i) (.int j)=some (.int (i * j)):=by
 unfold Qcu;dsimp only;rw [if_pos];rw [Bool.or_eq_true];unfold Qdf;rw [zg,zg,decide_eq_true_eq,decide_eq_true_eq,decide_eq_true_eq,decide_eq_true_eq];exact h
@[simp] theorem Qto {i j:Int}:gLt (.int i) (.int j)=some (.bl (decide (i < j))):=rfl
@[simp] theorem Qwp {i j:Int}:gGt (.int i) (.int j)=some (.bl (decide (j < i))):=rfl
@[simp] theorem QpL {i j:Int}:gGe (.int i) (.int j)=some (.bl (decide (j≤i))):=rfl
@[simp] theorem Qpt {i j:Int}:gLe (.int i) (.int j)=some (.bl (decide (i≤j))):=rfl
theorem Qnf (a b:Nat):(([a]:List Nat) < [b])↔a < b:=by
 constructor
 ·intro h
  rcases List.cons_lt_cons_iff.mp h with h | ⟨_,h⟩
  ·exact h
  ·exact absurd h (List.not_lt_nil _)
 ·intro h;exact List.cons_lt_cons_iff.mpr (.inl h)
@[simp] theorem Qwy {a b:Nat}:gLe (.str [a]) (.str [b])=some (.bl (decide (a≤b))):=by
 show some (D.bl (!decide (([b]:List Nat) < [a])))=_
 have:decide (([b]:List Nat) < [a])=decide (b < a):=by
  by_cases h:b < a
  ·rw [zh h,zh ((Qnf _ _).mpr h)]
  ·rw [zm h,zm (fun z=>h ((Qnf _ _).mp z))]
 rw [this]
 by_cases h:b < a
 ·rw [zh h,zm (by omega)]; rfl
 ·rw [zm h,zh (by omega)]; rfl
@[simp] theorem Qt6 {i j:Int}:gEq (.int i) (.int j)=some (.bl (decide (i=j))):=rfl
@[simp] theorem QwB {i j:List Nat}:gEq (.str i) (.str j)=some (.bl (decide (i=j))):=rfl
@[simp] theorem Qwr {i j:Bool}:gEq (.bl i) (.bl j)=some (.bl (decide (i=j))):=rfl
@[simp] theorem Qub {i j:List D}:gEq (.lst i) (.lst j)=if (okE (.lst i)&&okE (.lst j))=true then some (.bl (Qg5 (.lst i) (.lst j))) else none:=rfl
@[simp] theorem Qwn {i j:Int}:gNe (.int i) (.int j)=some (.bl (!decide (i=j))):=rfl
@[simp] theorem Qwk {i j:List Nat}:gNe (.str i) (.str j)=some (.bl (!decide (i=j))):=rfl
@[simp] theorem Qwz {i j:Bool}:gNe (.bl i) (.bl j)=some (.bl (!decide (i=j))):=rfl
@[simp] theorem QtQ {i j:List D}:gNe (.lst i) (.lst j)=if (okE (.lst i)&&okE (.lst j))=true then some (.bl (!Qg5 (.lst i) (.lst j))) else none:=rfl
@[simp] theorem Qwu {n:Bool}{c:Nat}{l:List Nat}:gIn n (.str [c]) (.str l)=some (.bl (n ^^ decide (c∈l))):=rfl
theorem QjW {ds:List D}{i:Int}:gIx (.lst ds) (.int i)=atI ds i:=rfl
theorem Qt8 {l:List Nat}{i:Int}:gIx (.str l) (.int i)=if l.length≤1000000 then (atI l i).map (fun c=>.str [c]) else none:=rfl
@[simp] theorem QrJ {l:List Nat}:Qdj [.str l]=if l.length≤1000000 then some (.int l.length) else none:=rfl
@[simp] theorem Qwa {l:List D}:Qdj [.lst l]=some (.int l.length):=rfl
@[simp] theorem Qwj {l:List D}:Qdj [.tup l]=some (.int l.length):=rfl
@[simp] theorem Qng {i j:Int}:QgC [.int i,.int j]=some (.int (if j > i then j else i)):=rfl
@[simp] theorem Qv6 {i j:Int}:QuS [.int i,.int j]=some (.int (if j < i then j else i)):=rfl
@[simp] theorem Qv9 {i:Int}:QrW [.int i]=some (.int i):=rfl
@[simp] theorem Qwd {b:Bool}:QrW [.bl b]=some (.int (if b then 1 else 0)):=rfl
@[simp] theorem QvZ:QdA (.int 10) (.int 18)=some (.int 1000000000000000000):=by rfl
@[simp] theorem Qv0:QdA (.int 10) (.int 9)=some (.int 1000000000):=by rfl
@[simp] theorem Qfy {α:Type}{xs:List α}{j:Nat}:atI xs (j:Int)=xs[j]?:=by
 unfold atI ixN;rw [if_pos (by omega)]
 by_cases h:j < xs.length
 ·rw [if_pos (by omega)];simp
 ·rw [if_neg (by omega),List.getElem?_eq_none (by omega)];rfl
theorem QrU {α:Type}{xs:List α}{i:Int} (h0:0≤i) (h1:i < xs.length):∃x,atI xs i=some x∧x∈xs:=by
 obtain ⟨j,rfl⟩:=Int.eq_ofNat_of_zero_le h0
 have hj:j < xs.length:=by omega
 exact ⟨xs[j],by show atI xs (j:Int)=_; rw [Qfy,zy hj],jd hj⟩
section
variable {c:Prop} [Decidable c]
@[simp] theorem Qu5 {a b:Fl}:Qbc (if c then a else b)=if c then Qbc a else Qbc b:=by split <;> rfl
@[simp] theorem Qvx {a b:Res D}:Qh2 (if c then a else b)=if c then Qh2 a else Qh2 b:=by split <;> rfl
@[simp] theorem QuW {a b:Fl}{r:MS}:Qgs (if c then a else b) r=if c then Qgs a r else Qgs b r:=by split <;> rfl
@[simp] theorem Qu4 {α β:Type}{a b:Res α}{f:α→Qae→Res β}:(if c then a else b).bind f=if c then a.bind f else b.bind f:=by split <;> rfl
@[simp] theorem QvK {a b:Res Bool}{x y:MS}{ρ:Qam}:ifF (if c then a else b) x y ρ=if c then ifF a x y ρ else ifF b x y ρ:=by split <;> rfl
@[simp] theorem Qvs {a b:Res D}{i:Nat}{ρ:Qam}:QkS i (if c then a else b) ρ=if c then QkS i a ρ else QkS i b ρ:=by split <;> rfl
@[simp] theorem QvL {a b:Option D}{O:Qae}:ofO (if c then a else b) O=if c then ofO a O else ofO b O:=by split <;> rfl
end
@[simp] theorem Qr3:Qdd "str" "str" = true:=by decide
@[simp] theorem Qv4:Qdd "int" "str" = false:=by decide
@[simp] theorem QvY:Qdd "bool" "str" = false:=by decide
@[simp] theorem QvT:Qdd "list" "str" = false:=by decide
@[simp] theorem Qv7:Qdd "tuple" "str" = false:=by decide
@[simp] theorem QvV:Qdd "dict" "str" = false:=by decide
@[simp] theorem QvW:Qdd "NoneType" "str" = false:=by decide
@[simp] theorem Qwh:Qdd "int" "int" = true:=by decide
@[simp] theorem Qv3:Qdd "int" "bool" = false:=by decide
@[simp] theorem Qvz:Qdd "bool" "bool" = true:=by decide
@[simp] theorem QvO:Qdd "list" "list" = true:=by decide
@[simp] theorem QvN:Qdd "tuple" "tuple" = true:=by decide
@[simp] theorem QvR:Qdd "NoneType" "list" = false:=by decide
theorem Qhh {g:MG}{b:MS} (Pv:Nat→Qam→Qae→Prop):∀(ds:List D) (k:Nat) (ρ:Qam) (O:Qae),Pv k ρ O →
  (∀i d ρ O,ds[i]? = some d→Pv (k+i) ρ O→∃ρ1,g d ρ=some ρ1∧∃ρ2 O2,(b ρ1 O = .nx ρ2 O2∨b ρ1 O = .ct ρ2 O2)∧Pv (k+i+1) ρ2 O2)→∃ρ' O',QbA g b ds ρ O = .nx ρ' O'∧Pv (k+ds.length) ρ' O'
 | [],k,ρ,O,h,_=>⟨ρ,O,rfl,h⟩
 | d::ds,k,ρ,O,h,hs=>by
  obtain ⟨ρ1,e1,ρ2,O2,e2,h2⟩:=hs 0 d ρ O rfl h
  obtain ⟨ρ',O',e3,h3⟩:=Qhh Pv ds (k+1) ρ2 O2 h2 fun i d' ρ' O' hi hp=>by
   have:=hs (i+1) d' ρ' O' (by simpa using hi) (by rw [show k+(i+1)=k+1+i by omega]; exact hp)
   rw [show k+(i+1)+1=k+1+i+1 by omega] at this;exact this
  refine ⟨ρ',O',?_,by rw [zJ,show k+(ds.length+1)=k+1+ds.length by omega]; exact h3⟩;unfold QbA;rw [e1];dsimp only
  rcases e2 with e2 | e2 <;> rw [e2] <;> exact e3
@[simp] theorem QvU {ρ:Qam}{O:Qae}:QtS ρ O = .ok [] O:=rfl
@[simp] theorem QvA {a b:M D}{r:M (List (D×D))}{ρ:Qam}{O:Qae}:QrH a b r ρ O=(a ρ O).bind fun x O1=>(b ρ O1).bind fun y O2=>(r ρ O2).bind fun ps O3=>.ok ((x,y)::ps) O3:=rfl
def diF (o:Option (List Key)) (kv:List (D×D)) (O:Qae):Res D:=match o with
 | some ks=>if ks.Nodup∧kv.length≤15 then .ok (.dic (kv.map (·.1)) (kv.map (·.2))) O else .no
 | none=>.no
@[simp] theorem Qvp {ks:List Key}{kv:List (D×D)}{O:Qae}:diF (some ks) kv O=if ks.Nodup∧kv.length≤15 then .ok (.dic (kv.map (·.1)) (kv.map (·.2))) O else .no:=rfl
@[simp] theorem Qwc {m:M (List (D×D))}{ρ:Qam}{O:Qae}:Qug m ρ O=(m ρ O).bind fun kv O1=>diF (keysOf kv) kv O1:=rfl
@[simp] theorem QvQ {i:Int}:keyOf (.int i)=some (.inl i):=rfl
@[simp] theorem QvD {i:List Nat}:keyOf (.str i)=some (.inr (S i)):=rfl
@[simp] theorem Qtz:keysOf []=some []:=rfl
@[simp] theorem Qth {a b:D}{r:List (D×D)}:keysOf ((a,b)::r)=(keyOf a).bind fun k=>(keysOf r).map (k :: ·):=rfl
def joF (o:Option (List (List Nat))) (O:Qae):Res D:=match o with
 | some ls=>if (ls.map List.length).sum≤1000000 then .ok (.str ls.flatten) O else .no
 | none=>.no
@[simp] theorem QuO {ls:List (List Nat)}{O:Qae}:joF (some ls) O=if (ls.map List.length).sum≤1000000 then .ok (.str ls.flatten) O else .no:=rfl
def jdF (d:D) (O:Qae):Res D:=match d with
 | .lst ds=>joF (Qgm ds) O
 | _=>.no
@[simp] theorem QwA {ds:List D}{O:Qae}:jdF (.lst ds) O=joF (Qgm ds) O:=rfl
@[simp] theorem Qwf {m:M D}{ρ:Qam}{O:Qae}:Qts m ρ O=(m ρ O).bind fun d O1=>jdF (QaU O1 d) O1:=rfl
@[simp] theorem Qws {own:Nat}{cap:List Nat}{ρ:Qam}:Qd3 own cap ρ=List.replicate own none++cap.map fun j=>(ρ[j]?).join:=rfl
@[simp] theorem Quu {g:MG}{t:M Bool}{m:M D}{ρ:Qam}{O:Qae}{acc:List D}:Qb1 g t m [] ρ O acc = .ok acc O:=rfl
theorem QkV:∀ds:List D,QgU ds=ds.map toP
 | []=>rfl
 | d::ds=>by rw [QgU,QkV ds]; rfl
theorem QhZ:∀{ds:List D},(∀d∈ds,QcQ d=true)→Qd6 ds=true
 | [],_=>rfl
 | d::ds,h=>by rw [Qd6,h d zK,QhZ fun x hx=>h x (zE _ hx)]; rfl
theorem QlI {n:Nat} (hn:n < 60) {ds:List D} (h:∀d∈ds,QcQ d=true∧(toP d).canLay0=true∧(toP d).depth≤n):okE (.lst ds)=true:=by
 unfold okE;rw [zg];refine ⟨?_,?_⟩
 ·rw [QcQ]; exact QhZ fun d hd=>(h d hd).1
 ·rw [toP,QkV]
  refine Qrg hn fun d hd=>?_
  obtain ⟨x,hx,rfl⟩:=zU.mp hd;exact (h x hx).2
theorem QhI {l:List Nat} (h:∀c∈l,c < 1114112):(PyData.str (S l)).canLay0=true:=by
 show PyData.strOk (S l)=true;unfold PyData.strOk S;simp;exact h
theorem QjI {d:D} (h:okE d=true):Qg5 d d=true:=by
 unfold okE at h;rw [zg] at h
 have:=h.2
 unfold okD at this;rw [zg] at this;exact SeqAt.eqv_refl _ this.1
def it (f:Int→Int):Nat→Int→Int
 | 0,x=>x
 | n+1,x=>f (it f n x)
def mix (n k:Int):Int:=if n > 1000000000000000000 then it (fun r=>r / 1000000000) k.toNat n % 1000000000
 else
  let m:=it (fun m=>(m * 48271+104729) % 2147483629) (k+2).toNat (n % 2147483647+7919)
  m * m % 998244353 / 11
theorem QpH (j:Nat) (x:Int) (h0:0≤x) (h1:x < 2147491566):0≤it (fun m=>(m * 48271+104729) % 2147483629) j x∧it (fun m=>(m * 48271+104729) % 2147483629) j x < 2147491566:=by
 induction j with
 | zero=>exact ⟨h0,h1⟩
 | succ j ih =>
  refine ⟨zQ _ (by decide),?_⟩
  have:=zV (it (fun m=>(m * 48271+104729) % 2147483629) j x * 48271+104729) (show (0:Int) < 2147483629 by decide)
  show (it (fun m=>(m * 48271+104729) % 2147483629) j x * 48271+104729) % 2147483629 < _;omega
def Qmo:MS:=(Qaq (Qb0 (QaM (Qad gGt (Qab 0) (Qad QdA (mC (.int 10)) (mC (.int 18))))) (Qaq (Qas 2 (mG (Qab 0)))
  (Qaq (QcV (Qc7 (Qaa (Qab 1) Qaf)) (mgN 3) (Qas 2 (Qad QaS (Qab 2) (Qad QdA (mC (.int 10)) (mC (.int 9))))))
  (QaL (Qad QaB (Qab 2) (Qad QdA (mC (.int 10)) (mC (.int 9))))))) QaQ)
  (Qaq (Qas 4 (Qad Qay (Qad QaB (Qab 0) (mC (.int 2147483647))) (mC (.int 7919))))
  (Qaq (QcV (Qc7 (Qaa (Qad Qay (Qab 1) (mC (.int 2))) Qaf)) (mgN 3) (Qas 4 (Qad QaB (Qad Qay (Qad Qcu (Qab 4) (mC (.int 48271))) (mC (.int 104729))) (mC (.int 2147483629)))))
  (QaL (Qad QaS (Qad QaB (Qad Qcu (Qab 4) (Qab 4)) (mC (.int 998244353))) (mC (.int 11)))))))
theorem QiG (lo:Int) (n:Nat):(QbR lo n).length=n:=by simp [QbR]
theorem Qru (n k:Int) (h0:0≤k) (h1:k≤1000000) (O:Qae):Qbw 5 Qmo [.int n,.int k] O = .ok (.int (mix n k)) O:=by
 unfold mix
 by_cases hn:n > 1000000000000000000
 ·obtain ⟨ρ',O',e,rfl,o3,rfl⟩:=Qhh (g:=mgN 3) (b:=Qas 2 (Qad QaS (Qab 2) (Qad QdA (mC (.int 10)) (mC (.int 9)))))
   (fun i ρ O'=>O'=O∧∃o3,ρ = [some (.int n),some (.int k),some (.int (it (fun r=>r / 1000000000) i n)),o3,none]) (QbR 0 k.toNat) 0 [some (.int n),some (.int k),some (.int n),none,none] O ⟨rfl,none,rfl⟩ (by
    rintro i d ρ O' hi ⟨rfl,o3,rfl⟩;refine ⟨_,rfl,?_⟩;simp;rw [show it (fun r=>r / 1000000000) (i+1) n=it (fun r=>r / 1000000000) i n / 1000000000 from rfl]
    exact ⟨_,_,⟨rfl,rfl⟩,rfl,_,rfl⟩)
  rw [QiG,Nat.zero_add] at e
  have hk:k≤1000000000∧-1000000000≤k:=by omega
  simp [Qmo,hn,hk,e]
 ·have hm0:0≤n % 2147483647+7919:=by have:=zQ n (show (2147483647:Int)≠0 by decide); omega
  have hm1:n % 2147483647+7919 < 2147491566:=by have:=zV n (show (0:Int) < 2147483647 by decide); omega
  obtain ⟨ρ',O',e,rfl,o3,rfl⟩:=Qhh (g:=mgN 3) (b:=Qas 4 (Qad QaB (Qad Qay (Qad Qcu (Qab 4) (mC (.int 48271))) (mC (.int 104729))) (mC (.int 2147483629))))
   (fun i ρ O'=>O'=O∧∃o3,ρ = [some (.int n),some (.int k),none,o3,some (.int (it (fun m=>(m * 48271+104729) % 2147483629) i (n % 2147483647+7919)))]) (QbR 0 (k+2).toNat) 0 [some (.int n),some (.int k),none,none,some (.int (n % 2147483647+7919))] O ⟨rfl,none,rfl⟩ (by
    rintro i d ρ O' hi ⟨rfl,o3,rfl⟩;refine ⟨_,rfl,?_⟩;obtain ⟨b0,b1⟩:=QpH i _ hm0 hm1
    have:=QnF (i:=it (fun m=>(m * 48271+104729) % 2147483629) i (n % 2147483647+7919)) (j:=48271) (.inr ⟨by decide,by decide⟩)
    simp [this]
    rw [show it (fun m=>(m * 48271+104729) % 2147483629) (i+1) (n % 2147483647+7919)=(it (fun m=>(m * 48271+104729) % 2147483629) i (n % 2147483647+7919) * 48271+104729) % 2147483629 from rfl]
    exact ⟨_,_,⟨rfl,rfl⟩,rfl,_,rfl⟩)
  rw [QiG,Nat.zero_add] at e
  have hk:k+2≤1000000000∧-1000000000≤k+2:=by omega
  obtain ⟨b0,b1⟩:=QpH (k+2).toNat _ hm0 hm1;have hq:=QnF (i:=it (fun m=>(m * 48271+104729) % 2147483629) (k+2).toNat (n % 2147483647+7919)) (j:=it (fun m=>(m * 48271+104729) % 2147483629) (k+2).toNat (n % 2147483647+7919)) (.inl ⟨by omega,by omega⟩);simp [Qmo,hn,hk,e,hq]
def Qor (cs:List Str) (f:Str) (d:D) (O:Qae):Res D:=match d with
 | .ob n=>match O[n]? with
  | some (.ins c fs)=>if c∈cs then match fs.lookup f with
   | some y=>.ok y O
   | none=>.no else .no
  | _=>.no
 | _=>.no
@[simp] theorem Qps {cs:List Str}{f:Str}{m:M D}{ρ:Qam}{O:Qae}:Qhj cs f m ρ O=(m ρ O).bind (Qor cs f):=rfl
def puF (cs:List Str) (f:Str) (d:D) (ρ:Qam) (r:Res D):Fl:=match r with
 | .ok (.ob n) O2=>match O2[n]? with
  | some (.ins c fs)=>if c∈cs∧fs.length < 900 then .nx ρ (O2.set n (.ins c (putD f d fs))) else .no
  | _=>.no
 | _=>.no
def sfF (cs:List Str) (f:Str) (mo:M D) (r:Res D) (ρ:Qam):Fl:=match r with
 | .ok d O1=>puF cs f d ρ (mo ρ O1)
 | .ex x O'=>.ex x O'
 | .no=>.no
@[simp] theorem Qkr {cs:List Str}{f:Str}{mo mv:M D}{ρ:Qam}{O:Qae}:Qeo cs f mo mv ρ O=sfF cs f mo (mv ρ O) ρ:=by
 unfold Qeo sfF puF
 cases mv ρ O <;> rfl
@[simp] theorem Qke {cs:List Str}{f:Str}{mo:M D}{d:D}{O:Qae}{ρ:Qam}:sfF cs f mo (.ok d O) ρ=puF cs f d ρ (mo ρ O):=rfl
def meF (c m:Str) (cf:List D→Qae→Res D) (ma:Qae→Res (List D)) (d:D) (O1:Qae):Res D:=match d with
 | .ob n=>match O1[n]? with
  | some (.ins c' fs)=>if c'=c∧(fs.lookup m).isNone=true then (ma O1).bind fun ds O2=>cf (.ob n::ds) O2 else .no
  | _=>.no
 | _=>.no
@[simp] theorem QrZ {c m:Str}{cf:List D→Qae→Res D}{mo:M D}{ma:M (List D)}{ρ:Qam}{O:Qae}:Qhz c m cf mo ma ρ O=(mo ρ O).bind (meF c m cf (ma ρ)):=rfl
def mkF (n:Nat) (r:Res D):Res D:=match r with
 | .ok .non O2=>.ok (.ob n) O2
 | .ok _ _=>.no
 | .ex x O2=>.ex x O2
 | .no=>.no
@[simp] theorem Qsn {c:Str}{cf:List D→Qae→Res D}{ma:M (List D)}{ρ:Qam}{O:Qae}:Qgj c cf ma ρ O=(ma ρ O).bind fun ds O1=>mkF O1.length (cf (.ob O1.length::ds) (O1 ++ [.ins c []])):=by
 unfold Qgj;congr 1
@[simp] theorem QsR {n:Nat}{O:Qae}:mkF n (.ok .non O) = .ok (.ob n) O:=rfl
def apF (i:Nat) (r:Res D) (ρ:Qam):Fl:=match r with
 | .ok d O'=>match ρ[i]? with
  | some (some (.lst ds))=>if ds.length < 1000000 then .nx (ρ.set i (some (.lst (ds ++ [d])))) O' else .no
  | _=>.no
 | .ex x O'=>.ex x O'
 | .no=>.no
@[simp] theorem Qr7 {i:Nat}{m:M D}{ρ:Qam}{O:Qae}:Qef i m ρ O=apF i (m ρ O) ρ:=rfl
theorem Qs2 {i:Nat}{d:D}{ds:List D}{ρ:Qam}{O:Qae} (h:ρ[i]? = some (some (.lst ds))) (hl:ds.length < 1000000):apF i (.ok d O) ρ = .nx (ρ.set i (some (.lst (ds ++ [d])))) O:=by
 unfold apF; dsimp only; rw [h]; dsimp only; rw [if_pos hl]
def exF (i:Nat) (r:Res D) (ρ:Qam):Fl:=match r with
 | .ok d O'=>match ρ[i]?,QaU O' d with
  | some (some (.lst ds)),.lst es=>if ds.length+es.length≤1000000 then .nx (ρ.set i (some (.lst (ds++es)))) O' else .no
  | _,_=>.no
 | .ex x O'=>.ex x O'
 | .no=>.no
@[simp] theorem Qwb {i:Nat}{m:M D}{ρ:Qam}{O:Qae}:Qt2 i m ρ O=exF i (m ρ O) ρ:=rfl
def enF (d:D) (O1:Qae):Res (List D):=match d with
 | .lst ds=>.ok (Qb9 0 ds) O1
 | .str l=>if ascii l=true then .ok (Qb9 0 (Qcj l)) O1 else .no
 | _=>.no
@[simp] theorem Qwi {m:M D}{ρ:Qam}{O:Qae}:QhH m ρ O=(m ρ O).bind enF:=rfl
def asF (r:Res D) (g:MG) (ρ:Qam):Fl:=match r with
 | .ok d O'=>match g d ρ with
  | some ρ'=>.nx ρ' O'
  | none=>.no
 | .ex x O'=>.ex x O'
 | .no=>.no
@[simp] theorem Qtb {m:M D}{g:MG}{ρ:Qam}{O:Qae}:QgG m g ρ O=asF (m ρ O) g ρ:=rfl
@[simp] theorem QwH {i j:Nat}{a b:D}{ρ:Qam}:Qh7 2 (QbJ (mgN i) (QbJ (mgN j) Qf6)) (.tup [a,b]) ρ=some ((ρ.set i (some a)).set j (some b)):=rfl
def stF (a b:D) (O:Qae):Res D:=match a,b with
 | .str l,.str n=>.ok (.bl (decide (l.take n.length=n))) O
 | _,_=>.no
@[simp] theorem QuE {a b:M D}{ρ:Qam}{O:Qae}:Qp1 a b ρ O=(a ρ O).bind fun x O1=>(b ρ O1).bind fun y O2=>stF x y O2:=rfl
@[simp] theorem Qww {l n:List Nat}{O:Qae}:stF (.str l) (.str n) O = .ok (.bl (decide (l.take n.length=n))) O:=rfl
theorem QdO {α:Type}{g:MG}{t:M Bool}{m:M D} (Pv:Qam→Prop) (f h:α→D):∀(xs:List α) (ρ:Qam) (O:Qae) (acc:List D),Pv ρ→(∀x∈xs,∀ρ,Pv ρ→∃ρ1,g (f x) ρ=some ρ1∧Pv ρ1∧t ρ1 O = .ok true O∧m ρ1 O = .ok (h x) O)→Qb1 g t m (xs.map f) ρ O acc = .ok (acc++xs.map h) O
 | [],ρ,O,acc,_,_=>by simp [Qb1]
 | x::xs,ρ,O,acc,hp,hs=>by
  obtain ⟨ρ1,e1,h1,e2,e3⟩:=hs x zK ρ hp;rw [ze];unfold Qb1;rw [e1];dsimp only;rw [e2];dsimp only;rw [e3];dsimp only;rw [QdO Pv f h xs ρ1 O _ h1 fun d' hd'=>hs d' (zE _ hd')];simp
def QsV:List Nat:=[101,110,100]
def Qpx:List Nat:=[97,110,101,119]
def Qn8:List Nat:=[112,108,97,105,110]
def Qdw:List Nat:=[115,105,103,110]
def QsP:List Nat:=[105,110,107]
def Qlc:List Nat:=[103,114,111,117,110,100]
def item (p:Int) (k v:List Nat):D:=.tup [.int p,.str k,.str v]
def col (c:Nat):Bool:=decide (c∈[97,98,99,100,101,102,103,104,46])
def Qu1 (x:Nat):List Nat→List Nat×List Nat×Nat
 | []=>(Qdw,[91],0)
 | e::_=>if e=93 then (Qlc,[x],3) else (Qdw,[91],0)
def Qvf:List Nat→List Nat×List Nat×Nat
 | []=>(Qdw,[91],0)
 | x::t=>if col x=true then Qu1 x t else (Qdw,[91],0)
def QuT (x:Nat):List Nat→List Nat×List Nat×Nat
 | []=>(Qdw,[91],0)
 | e::_=>if e=93 then (QsP,[x],2) else (Qdw,[91],0)
def QuF:List Nat→List Nat×List Nat×Nat
 | []=>(Qdw,[91],0)
 | d::t=>if d=93 then (Qn8,[],1) else if d=91 then (Qdw,[91],1) else if col d=true then QuT d t else if d=47 then Qvf t else (Qdw,[91],0)
def one (c:Nat) (t:List Nat):List Nat×List Nat×Nat :=
 if c=10 then (QsV,[],0) else if c=9 then (Qpx,[],0) else if c=91 then QuF t else (Qdw,[c],0)
def items (p:Int):List Nat→List D
 | []=>[]
 | c::t=>item p (one c t).1 (one c t).2.1::items (p+((one c t).2.2+1:Nat)) (t.drop (one c t).2.2)
termination_by l=>l.length
decreasing_by
 simp only [List.length_drop,zJ];omega
def own (p:Int) (c:Nat):D:=if c=10 then item p QsV [] else if c=9 then item p Qpx [] else item p Qdw [c]
def Qou:Int→List Nat→List D
 | _,[]=>[]
 | p,c::l=>own p c::Qou (p+1) l
def Qvl:List Nat→Bool
 | [a]=>decide (a=91)
 | [a,b]=>decide (a=91)&&(decide (b=47) || col b)
 | [a,b,c]=>decide (a=91)&&(decide (b=47)&&col c)
 | _=>false
def markB:List Nat→Option (List Nat×List Nat)
 | [a,b]=>if a=91∧b=93 then some (Qn8,[]) else if a=91∧b=91 then some (Qdw,[91]) else none
 | [a,b,c]=>if a=91∧col b=true∧c=93 then some (QsP,[b]) else none
 | [a,b,c,d]=>if a=91∧b=47∧col c=true∧d=93 then some (Qlc,[c]) else none
 | _=>none
def tk (h:List Nat) (c:Nat) (p:Int):List D×List Nat :=
 if Qvl (h ++ [c])=true then ([],h ++ [c]) else match markB (h ++ [c]) with
 | some (k,v)=>([item p k v],[])
 | none=>if c=91 then (Qou p h,[91]) else (Qou p (h ++ [c]),[])
inductive Held:List Nat→Prop where
 | h0:Held []
 | h1:Held [91]
 | h2:Held [91,47]
 | h3 (x:Nat) (h:col x=true):Held [91,x]
 | h4 (x:Nat) (h:col x=true):Held [91,47,x]
theorem Held.len {h:List Nat} (H:Held h):h.length≤3:=by cases H <;> simp
@[simp] theorem QvS {l:List D}:Qen [.lst l]=some (.lst l):=rfl
def fzF (f:Fl):Fl:=match f with
 | .rt d O'=>.rt d O'
 | _=>.no
@[simp] theorem Que {m:MS}{ρ:Qam}{O:Qae}:Qj8 m ρ O=fzF (m ρ O):=rfl
@[simp] theorem Qs5 {d:D}{O:Qae}:fzF (.rt d O) = .rt d O:=rfl
def ziF (d e:D) (O:Qae):Res (List D):=match d,e with
 | .lst ds,.lst es=>.ok (QlS ds es) O
 | _,_=>.no
@[simp] theorem Qwl {ma mb:M D}{ρ:Qam}{O:Qae}:QsC ma mb ρ O=(ma ρ O).bind fun d O1=>(mb ρ O1).bind fun e O2=>ziF d e O2:=by
 unfold QsC;congr 1
@[simp] theorem QwC {ds es:List D}{O:Qae}:ziF (.lst ds) (.lst es) O = .ok (QlS ds es) O:=rfl
end L2
namespace L2
open PySem
section
variable {ρ ρ':Qam}{O O' O1 O2:Qae}{d:D}{x:Xc}{a b m:MS}{r:M D}{t:M Bool}{ma:M (List D)}{c:List D→Qae→Res D}{ds:List D}
theorem Qau (h:a ρ O = .nx ρ' O'):Qaq a b ρ O=b ρ' O':=by rw [QiA,h,Qli]
theorem Qek (h:a ρ O = .rt d O'):Qaq a b ρ O = .rt d O':=by rw [QiA,h,Qq8]
theorem QcM (h:a ρ O = .ex x O'):Qaq a b ρ O = .ex x O':=by rw [QiA,h]; rfl
theorem Qfl (h:t ρ O = .ok true O'):Qc5 t a b ρ O=a ρ O':=by unfold Qc5; rw [h]; rfl
theorem Qt0 (h:t ρ O = .ok false O'):Qc5 t a b ρ O=b ρ O':=by unfold Qc5; rw [h]; rfl
theorem QdM (h:t ρ O = .ok false O'):Qc5 t a QaQ ρ O = .nx ρ O':=Qt0 h
theorem QjX (h:m ρ O = .nx ρ' O'):msN m ρ O = .nx ρ' O':=by unfold msN; rw [h]
theorem Qix (h:ma ρ O = .ok ds O1):Qew c ma ρ O=c ds O1:=by unfold Qew; rw [h]
theorem Qms (h:r ρ O = .ok d O'):QdI r ρ O = .nx ρ O':=by unfold QdI; rw [h]
theorem QkY (h:r ρ O = .ex x O'):QdI r ρ O = .ex x O':=by unfold QdI; rw [h]
theorem Qj3 {cc nn:Str} (h:r ρ O = .ok d O'):QcE cc nn r ρ O = .ex ⟨cc,[(nn,d)]⟩ O':=by unfold QcE; rw [h]
theorem Qme {g:MG} (h:ma ρ O = .ok ds O'):Qde ma g b ρ O=QbA g b ds ρ O':=by unfold Qde; rw [h]
theorem Qmw {g:MG} (h:ma ρ O = .ok ds O'):QcV ma g b ρ O=QbA g b ds ρ O':=by rw [Qsl,h,Qq5]
theorem Qll {hs:List HM} (h:r ρ O = .ex x O'):Qg7 r hs ρ O=Qdp hs x ρ O':=by unfold Qg7; rw [h]
theorem QkK {ys ns:List Str}{i:Nat}{rest:List HM} (hy:ys.contains x.cls=true) (h:m (ρ.set i (some (.ob O.length))) (O ++ [.xc x.cls x.fs]) = .nx ρ' O'):Qdp ((ys,ns,i,m)::rest) x ρ O = .nx (ρ'.set i none) O':=by
 unfold Qdp;rw [if_pos hy,h]
theorem QoA {ys ns:List Str}{i:Nat}{rest:List HM} (hy:ys.contains x.cls=false) (hn:ns.contains x.cls=true):Qdp ((ys,ns,i,m)::rest) x ρ O=Qdp rest x ρ O:=by
 conv=>lhs; unfold Qdp
 rw [if_neg (by rw [hy]; exact zk),if_pos hn]
theorem Qry {tb:List (Str×Bool)}{n:Nat}{cc:Str}{fs:List (Str×D)}{bb:Bool} (h:r ρ O = .ok (.ob n) O') (h2:O'[n]? = some (.xc cc fs)) (h3:tb.lookup cc=some bb):Qcl tb r ρ O = .ok (.bl bb) O':=by
 unfold Qcl;rw [h];show (match O'[n]? with | some (.xc c _)=>(match tb.lookup c with | some b=>Res.ok (D.bl b) O' | none=>.no) | _=>.no)=_;rw [h2];dsimp only;rw [h3]
theorem Qvv {f:Str}{L:List Str}{n:Nat}{cc:Str}{fs:List (Str×D)} (h:r ρ O = .ok (.ob n) O') (h2:O'[n]? = some (.xc cc fs)) (h3:L.contains cc=true) (h4:fs.lookup f=some d):Qeg f L r ρ O = .ok d O':=by
 unfold Qeg;rw [h];show (match O'[n]? with | some (.xc c fs)=>(if L.contains c=true then (match fs.lookup f with | some d=>Res.ok d O' | none=>.no) else .no) | _=>.no)=_;rw [h2];dsimp only;rw [if_pos h3,h4]
end
end L2
namespace K62
open PySem L2
seal VE SE OE WE TsE TwE AE VS VSs VG VGs VI VIc VO VIf DPE VSF QfR VEF VIF VEH VHs
def top (i:Nat):Stmt:=PySem.Challenge.pw_outweave_k62_plans_refused.main.body.getD i (.Pass ⟨0,0,0,0⟩)
local macro_rules | `(tactic| trivial) => `(tactic| exact ⟨rfl, rfl, rfl, by decide +kernel, rfl, by decide +kernel, by decide +kernel⟩)
section
variable {Pr:Program}{w:World}{K:Frag}{mg:Str→Option Value}{base:Heap}
abbrev Qcx:Stmt:=inClass (top 3) 0
theorem Qnd (Qot:QmE K mg "NoRoom" "at" "NoRoom.__init__" Qcx):QkA Pr w K mg base "NoRoom" "at" 1:=Qot.can (sf:="self") (pn:="at") (by trivial) (fun _ _ _ _ _ _=>QaN fun _=>QaN fun _=>Qcf rfl) rfl (.inl rfl) (.inl rfl) (fun _ _ _=>rfl)
abbrev Qft:Stmt:=top 11
theorem Qmz:QaO ["thing"] ["thing"] (Qao Qft):=by trivial
def Qfz:MS :=
  (Qaq (Qb0 (Qbs (QbC (QdD "str" (Qab 0)))) (QaL (mC (.bl false))) QaQ)
  (QaL (Qbi (QdN gLe gLe (mC (.int 1)) (QaX Qdj (Qaa (Qab 0) Qaf)) (mC (.int 8))) (QaX Qhe (Qaa (Qcz (Qb8 (Qab 0)) 1 [] (mgN 0) QbZ (QdN gLe gLe (mC (.str [97])) (Qab 0) (mC (.str [122])))) Qaf)))))
def QdH:List D→Qae→Res D:=Qbw 1 Qfz
abbrev QjM (Pr:Program) (w:World) (K:Frag) (mg:Str→Option Value) (base:Heap):Prop:=Can Pr w K mg base "is_name" ["thing"] 1 (vSp K mg [.s] (rV K) QdH)
theorem QmP (Qhl:Def K mg "is_name" Qft)
  (B:Qch mg)
  (Qd5:∃u,mg "LONGEST_NAME" = some u∧RelV (.int 8) u) :
  QjM Pr w K mg base:=by
 refine QcR (k:=0) (b:=Qfz) Qhl Qmz (fun _ _ _ _ _ _=>QaN fun _=>Qcf rfl) [.s] [] QbF (fun _ _ _ _=>Rp.non) (body:=fun f cdv A outer s H E hr P=>?_);refine Qar ?_ ?_;refine Qcc ?_ ?_ Qbu;refine QcD ?_;refine Qcq ?_;refine Qal (Qfc "str" (hb:=Qol) B.isinstance_ B.str_ (Qai 0));refine QaC (QaK Qce);refine QaC ?_;refine QaK ?_;refine Qck ?_ ?_;refine Qaw ?_;refine Qib QfA QfA (Qac Qag) ?_ ?_;refine Qal ?_;refine Qcg (ms:=[.s]) (hv:=Qga) Qf7 B.len_ ?_;refine Qat (Qai 0) Qak;refine Qac ?_;refine QaT Qd5 (fun _ _ _=>Rp.int);refine QcX ?_;refine Qaw ?_;refine Qcg (ms:=[.s]) (hv:=Qj5) (Qkh rfl) B.all_ ?_
 refine Qat ?_ Qak;refine Qal ?_;refine Qe5 (Qao Qft) ["thing"] ["letter"] [] rfl (Qgi (Qai 0)) (fun _ _ _ _ P=>?_) (fun _ _ _ _ P=>?_) (fun _ _ _ _ P=>?_);exact Qbf (i:=0) (show (Qbk ["thing"] ["letter"] []).Nodup by decide +kernel) rfl (.inl rfl);exact Qe6;refine Qaw ?_;refine Qib QfA QfA (Qac (Qa5 [97])) (Qac (Qah 0)) (Qac (Qa5 [122]))
abbrev QgA:Stmt:=top 13
theorem Qk8:QaO ["thing"] ["thing"] (Qao QgA):=by trivial
def Qe0:MS :=
  (QaL (Qbi (QdD "int" (Qab 0)) (Qc6 (QdD "bool" (Qab 0)))))
def QaW:List D→Qae→Res D:=Qbw 1 Qe0
abbrev Qgw (Pr:Program) (w:World) (K:Frag) (mg:Str→Option Value) (base:Heap):Prop:=Can Pr w K mg base "is_whole" ["thing"] 1 (vSp K mg [.s] (rV K) QaW)
theorem Qk1 (Qgq:Def K mg "is_whole" QgA)
  (B:Qch mg) :
  Qgw Pr w K mg base:=by
 refine QcR (k:=0) (b:=Qe0) Qgq Qk8 (fun _ _ _ _ _ _=>QaN fun _=>Qcf rfl) [.s] [] QbF (fun _ _ _ _=>Rp.non) (body:=fun f cdv A outer s H E hr P=>?_);refine QaC ?_;refine QaK ?_;refine Qck ?_ ?_;refine Qaw (Qfc "int" (hb:=QrE) B.isinstance_ B.int_ (Qai 0));refine QcX ?_;refine Qiz ?_;refine Qaw (Qfc "bool" (hb:=Qlf) B.isinstance_ B.bool_ (Qai 0))
abbrev QfG:Stmt:=top 14
theorem Qks:QaO ["thing","least","greatest"] ["thing","least","greatest"] (Qao QfG):=by trivial
def QfJ:MS :=
  (QaL (Qbi (Qax QaW (Qaa (Qab 0) Qaf)) (QdN gLe gLe (Qab 1) (Qab 0) (Qab 2))))
def QbO:List D→Qae→Res D:=Qbw 3 QfJ
abbrev QhQ (Pr:Program) (w:World) (K:Frag) (mg:Str→Option Value) (base:Heap):Prop:=Can Pr w K mg base "is_within" ["thing","least","greatest"] 2 (vSp K mg [.s,.s,.s] (rV K) QbO)
theorem Qkk (QfN:Def K mg "is_within" QfG)
  (B:Qch mg)
  (Qdg:Qgw Pr w K mg base) :
  QhQ Pr w K mg base:=by
 refine QcR (k:=1) (b:=QfJ) QfN Qks (fun _ _ _ _ _ _=>QaN fun _=>QaN fun _=>QaN fun _=>Qcf rfl) [.s,.s,.s] [] QbF (fun _ _ _ _=>Rp.non) (body:=fun f cdv A outer s H E hr P=>?_);refine QaC ?_;refine QaK ?_;refine Qck ?_ ?_;refine QaJ Qdg (hr.mono (by decide)) ?_;refine Qat (Qai 0) Qak;refine QcX ?_;refine Qaw ?_;refine Qib QfA QfA (Qai 1) (Qai 0) (Qai 2)
abbrev Qh1:Stmt:=top 17
theorem Qn6:QaO ["thing"] ["thing"] (Qao Qh1):=by trivial
def Qkw:MS :=
  (QaL (Qbi (QdD "str" (Qab 0)) (Qad (gIn false) (Qab 0) (mC (.tup [.str [99,117,116],.str [99,101,108,108,115],.str [119,111,114,100,115],.str [101,118,101,110]])))))
def Qdb:List D→Qae→Res D:=Qbw 1 Qkw
abbrev QkM (Pr:Program) (w:World) (K:Frag) (mg:Str→Option Value) (base:Heap):Prop:=Can Pr w K mg base "is_way" ["thing"] 1 (vSp K mg [.s] (rV K) Qdb)
theorem QmY (Qif:Def K mg "is_way" Qh1)
  (B:Qch mg)
  (Qkc:QoO K mg "WAYS" [[99,117,116],[99,101,108,108,115],[119,111,114,100,115],[101,118,101,110]]) :
  QkM Pr w K mg base:=by
 refine QcR (k:=0) (b:=Qkw) Qif Qn6 (fun _ _ _ _ _ _=>QaN fun _=>Qcf rfl) [.s] [] QbF (fun _ _ _ _=>Rp.non) (body:=fun f cdv A outer s H E hr P=>?_);refine QaC ?_;refine QaK ?_;refine Qck ?_ ?_;refine Qaw (Qfc "str" (hb:=Qol) B.isinstance_ B.str_ (Qai 0));refine QcX ?_;refine Qaw ?_;refine Qda Qt9 (Qai 0) (Qac (Qq6 (ls:=[[99,117,116],[99,101,108,108,115],[119,111,114,100,115],[101,118,101,110]]) Qkc)) (by with_unfolding_all rfl)
abbrev Qfs:Stmt:=top 30
theorem Qim:QaO ["thing","least_ones"] ["thing"] (Qao Qfs):=by trivial
def QdG:MS :=
  (Qaq (Qb0 (Qc3 (Qbs (QbC (QdD "tuple" (Qab 0)))) (QaM (Qad gNe (QaX Qdj (Qaa (Qab 0) Qaf)) (mC (.int 6))))) (QaL (mC (.bl false))) QaQ)
  (Qaq (Qb0 (Qbs (QbC (QaX Qhe (Qaa (Qcz (Qb8 (mSl (Qab 0) (moS (mC (.int 1))) (moS (mC (.int 5))))) 1 [] (mgN 0) QbZ (Qax QaW (Qaa (Qab 0) Qaf))) Qaf)))) (QaL (mC (.bl false))) QaQ)
  (Qaq (Qas 1 (Qbi (Qad gGe (Qad gIx (Qab 0) (mC (.int 1))) (mC (.int 0))) (Qbi (Qad gGe (Qad gIx (Qab 0) (mC (.int 2))) (mC (.int 0))) (Qbi (Qad gGe (Qad gIx (Qab 0) (mC (.int 3))) (mC (.int 1))) (Qad gGe (Qad gIx (Qab 0) (mC (.int 4))) (mC (.int 2)))))))
  (QaL (Qbi (Qax QdH (Qaa (Qad gIx (Qab 0) (mC (.int 0))) Qaf)) (Qbi (Qab 1) (Qax Qdb (Qaa (Qad gIx (Qab 0) (mC (.int 5))) Qaf))))))))
def QbK:List D→Qae→Res D:=Qbw 2 QdG
abbrev Qjp (Pr:Program) (w:World) (K:Frag) (mg:Str→Option Value) (base:Heap):Prop:=Can Pr w K mg base "is_room" ["thing"] 2 (vSp K mg [.s] (rV K) QbK)
theorem Qmm (Qht:Def K mg "is_room" Qfs)
  (B:Qch mg)
  (Qc1:∃u,mg "BROAD" = some u∧RelV (.int 4) u)
  (Qdr:∃u,mg "LEFT" = some u∧RelV (.int 2) u)
  (Qds:∃u,mg "NAME" = some u∧RelV (.int 0) u)
  (QeL:∃u,mg "ROOM_THINGS" = some u∧RelV (.int 6) u)
  (Qdq:∃u,mg "TALL" = some u∧RelV (.int 3) u)
  (QdQ:∃u,mg "TOP" = some u∧RelV (.int 1) u)
  (QjR:∃u,mg "WAY" = some u∧RelV (.int 5) u)
  (Qdg:Qgw Pr w K mg base)
  (Qhs:QjM Pr w K mg base)
  (Qii:QkM Pr w K mg base) :
  Qjp Pr w K mg base:=by
 refine QcR (k:=1) (b:=QdG) Qht Qim (fun _ _ _ _ _ _=>QaN fun _=>Qcf rfl) [.s] [.v] QbF (fun _ _ _ _=>Rp.non) (body:=fun f cdv A outer s H E hr P=>?_);refine Qar ?_ ?_;refine Qcc ?_ ?_ Qbu;refine Qgt ?_;refine QiD ?_ ?_;refine QcD ?_;refine Qcq ?_;refine Qal (Qfc "tuple" (hb:=Qpi) B.isinstance_ B.tuple_ (Qai 0));refine QiM ?_;refine QbM (QlT hr) ?_ ?_ (Qa9 _);refine Qal ?_;refine Qcg (ms:=[.s]) (hv:=Qga) Qf7 B.len_ ?_;refine Qat (Qai 0) Qak;refine Qac ?_;refine QaT QeL (fun _ _ _=>Rp.int);refine QaC (QaK Qce);refine Qar ?_ ?_;refine Qcc ?_ ?_ Qbu;refine QcD ?_;refine Qcq ?_;refine Qal ?_;refine Qcg (ms:=[.s]) (hv:=Qj5) (Qkh rfl) B.all_ ?_
 refine Qat ?_ Qak;refine Qal ?_;refine Qe5 (Qao Qfs) ["thing","least_ones"] ["number"] [] rfl ?_ (fun _ _ _ _ P=>?_) (fun _ _ _ _ P=>?_) (fun _ _ _ _ P=>?_);refine Qgi ?_;refine Qal ?_;refine QbT (Qai 0) ?_ ?_;refine Qb2 ?_;refine QaT QdQ (fun _ _ _=>Rp.int);refine Qb2 ?_;refine QaT QjR (fun _ _ _=>Rp.int);exact Qbf (i:=0) (show (Qbk ["thing","least_ones"] ["number"] []).Nodup by decide +kernel) rfl (.inl rfl);exact Qe6;refine QaJ Qdg (hr.mono (by decide)) ?_;refine Qat (Qac (Qah 0)) Qak;refine QaC (QaK Qce);refine Qar ?_ ?_;refine QaD (i:=1) Qim.nd rfl (.inl rfl) ?_;refine Qck ?_ ?_;refine Qaw ?_
 refine Qda Qip ?_ (Qac Qag) (Qa9 _);refine Qac ?_;refine QaI (Qai 0) ?_;refine Qac ?_;refine QaT QdQ (fun _ _ _=>Rp.int);refine Qck ?_ ?_;refine Qaw ?_;refine Qda Qip ?_ (Qac Qag) (Qa9 _);refine Qac ?_;refine QaI (Qai 0) ?_;refine Qac ?_;refine QaT Qdr (fun _ _ _=>Rp.int);refine Qck ?_ ?_;refine Qaw ?_;refine Qda Qip ?_ (Qac Qag) (Qa9 _);refine Qac ?_;refine QaI (Qai 0) ?_;refine Qac ?_;refine QaT Qdq (fun _ _ _=>Rp.int);refine QcX ?_;refine Qaw ?_;refine Qda Qip ?_ (Qac Qag) (Qa9 _);refine Qac ?_;refine QaI (Qai 0) ?_;refine Qac ?_;refine QaT Qc1 (fun _ _ _=>Rp.int);refine QaC ?_;refine QaK ?_
 refine Qck ?_ ?_;refine QaJ Qhs (hr.mono (by decide)) ?_;refine Qat ?_ Qak;refine Qac ?_;refine QaI (Qai 0) ?_;refine Qac ?_;refine QaT Qds (fun _ _ _=>Rp.int);refine Qck (Qah 1) ?_;refine QcX ?_;refine QaJ Qii (hr.mono (by decide)) ?_;refine Qat ?_ Qak;refine Qac ?_;refine QaI (Qai 0) ?_;refine Qac ?_;refine QaT QjR (fun _ _ _=>Rp.int)
abbrev QeO:Stmt:=top 31
theorem QiT:QaO ["room","high","wide"] ["room","high","wide"] (Qao QeO):=by trivial
def Qdt:MS :=
  (QaL (Qbi (Qad gLe (Qad Qay (Qad gIx (Qab 0) (mC (.int 1))) (Qad gIx (Qab 0) (mC (.int 3)))) (Qab 1)) (Qad gLe (Qad Qay (Qad gIx (Qab 0) (mC (.int 2))) (Qad gIx (Qab 0) (mC (.int 4)))) (Qab 2))))
def Qby:List D→Qae→Res D:=Qbw 3 Qdt
abbrev QgR (Pr:Program) (w:World) (K:Frag) (mg:Str→Option Value) (base:Heap):Prop:=Can Pr w K mg base "lies_within" ["room","high","wide"] 1 (vSp K mg [.s,.s,.s] (rV K) Qby)
theorem Qi7 (QeF:Def K mg "lies_within" QeO)
  (B:Qch mg)
  (Qc1:∃u,mg "BROAD" = some u∧RelV (.int 4) u)
  (Qdr:∃u,mg "LEFT" = some u∧RelV (.int 2) u)
  (Qdq:∃u,mg "TALL" = some u∧RelV (.int 3) u)
  (QdQ:∃u,mg "TOP" = some u∧RelV (.int 1) u) :
  QgR Pr w K mg base:=by
 refine QcR (k:=0) (b:=Qdt) QeF QiT (fun _ _ _ _ _ _=>QaN fun _=>QaN fun _=>QaN fun _=>Qcf rfl) [.s,.s,.s] [] QbF (fun _ _ _ _=>Rp.non) (body:=fun f cdv A outer s H E hr P=>?_);refine QaC ?_;refine QaK ?_;refine Qck ?_ ?_;refine Qaw ?_;refine Qda QfA ?_ (Qai 1) (Qa9 _);refine Qal ?_;refine Qaj QaG ?_ ?_;refine Qac ?_;refine QaI (Qai 0) ?_;refine Qac ?_;refine QaT QdQ (fun _ _ _=>Rp.int);refine Qac ?_;refine QaI (Qai 0) ?_;refine Qac ?_;refine QaT Qdq (fun _ _ _=>Rp.int);refine QcX ?_;refine Qaw ?_;refine Qda QfA ?_ (Qai 2) (Qa9 _);refine Qal ?_;refine Qaj QaG ?_ ?_;refine Qac ?_;refine QaI (Qai 0) ?_
 refine Qac ?_;refine QaT Qdr (fun _ _ _=>Rp.int);refine Qac ?_;refine QaI (Qai 0) ?_;refine Qac ?_;refine QaT Qc1 (fun _ _ _=>Rp.int)
abbrev Qg8:Stmt:=top 32
theorem Qmp:QaO ["start","length","other_start","other_length"] ["start","length","other_start","other_length"] (Qao Qg8):=by trivial
def Qfu:MS :=
  (QaL (Qbi (Qad gLt (Qab 0) (Qad Qay (Qab 2) (Qab 3))) (Qad gLt (Qab 2) (Qad Qay (Qab 0) (Qab 1)))))
def QdE:List D→Qae→Res D:=Qbw 4 Qfu
abbrev Qjn (Pr:Program) (w:World) (K:Frag) (mg:Str→Option Value) (base:Heap):Prop:=Can Pr w K mg base "overlap" ["start","length","other_start","other_length"] 1 (vSp K mg [.s,.s,.s,.s] (rV K) QdE)
theorem QmS (Qhv:Def K mg "overlap" Qg8)
  (B:Qch mg) :
  Qjn Pr w K mg base:=by
 refine QcR (k:=0) (b:=Qfu) Qhv Qmp (fun _ _ _ _ _ _=>QaN fun _=>QaN fun _=>QaN fun _=>QaN fun _=>Qcf rfl) [.s,.s,.s,.s] [] QbF (fun _ _ _ _=>Rp.non) (body:=fun f cdv A outer s H E hr P=>?_);refine QaC ?_;refine QaK ?_;refine Qck ?_ ?_;refine Qaw ?_;refine Qda Qmc (Qai 0) ?_ (Qa9 _);refine Qal ?_;refine Qaj QaG (Qai 2) (Qai 3);refine QcX ?_;refine Qaw ?_;refine Qda Qmc (Qai 2) ?_ (Qa9 _);refine Qal ?_;refine Qaj QaG (Qai 0) (Qai 1)
abbrev Qdx:Stmt:=top 33
theorem QeU:QaO ["one","other","rows"] ["one","other"] (Qao Qdx):=by trivial
def QcU:MS :=
  (Qaq (Qb0 (QaM (Qad gEq (Qad gIx (Qab 0) (mC (.int 0))) (Qad gIx (Qab 1) (mC (.int 0))))) (QaL (mC (.bl true))) QaQ)
  (Qaq (Qas 2 (Qax QdE (Qaa (Qad gIx (Qab 0) (mC (.int 1))) (Qaa (Qad gIx (Qab 0) (mC (.int 3))) (Qaa (Qad gIx (Qab 1) (mC (.int 1))) (Qaa (Qad gIx (Qab 1) (mC (.int 3))) Qaf))))))
  (QaL (Qbi (Qab 2) (Qax QdE (Qaa (Qad gIx (Qab 0) (mC (.int 2))) (Qaa (Qad gIx (Qab 0) (mC (.int 4))) (Qaa (Qad gIx (Qab 1) (mC (.int 2))) (Qaa (Qad gIx (Qab 1) (mC (.int 4))) Qaf)))))))))
def QbH:List D→Qae→Res D:=Qbw 3 QcU
abbrev Qfi (Pr:Program) (w:World) (K:Frag) (mg:Str→Option Value) (base:Heap):Prop:=Can Pr w K mg base "get_in_the_way" ["one","other"] 2 (vSp K mg [.s,.s] (rV K) QbH)
theorem QhN (QdC:Def K mg "get_in_the_way" Qdx)
  (B:Qch mg)
  (Qc1:∃u,mg "BROAD" = some u∧RelV (.int 4) u)
  (Qdr:∃u,mg "LEFT" = some u∧RelV (.int 2) u)
  (Qds:∃u,mg "NAME" = some u∧RelV (.int 0) u)
  (Qdq:∃u,mg "TALL" = some u∧RelV (.int 3) u)
  (QdQ:∃u,mg "TOP" = some u∧RelV (.int 1) u)
  (Qfx:Qjn Pr w K mg base) :
  Qfi Pr w K mg base:=by
 refine QcR (k:=1) (b:=QcU) QdC QeU (fun _ _ _ _ _ _=>QaN fun _=>QaN fun _=>Qcf rfl) [.s,.s] [.v] QbF (fun _ _ _ _=>Rp.non) (body:=fun f cdv A outer s H E hr P=>?_);refine Qar ?_ ?_;refine Qcc ?_ ?_ Qbu;refine QbM (QcL hr) ?_ ?_ (Qa9 _);refine Qac ?_;refine QaI (Qai 0) ?_;refine Qac ?_;refine QaT Qds (fun _ _ _=>Rp.int);refine Qac ?_;refine QaI (Qai 1) ?_;refine Qac ?_;refine QaT Qds (fun _ _ _=>Rp.int);refine QaC (QaK Qce);refine Qar ?_ ?_;refine QaD (i:=2) QeU.nd rfl (.inl rfl) ?_;refine QaJ Qfx (hr.mono (by decide)) ?_;refine Qat ?_ ?_;refine Qac ?_;refine QaI (Qai 0) ?_;refine Qac ?_;refine QaT QdQ (fun _ _ _=>Rp.int)
 refine Qat ?_ ?_;refine Qac ?_;refine QaI (Qai 0) ?_;refine Qac ?_;refine QaT Qdq (fun _ _ _=>Rp.int);refine Qat ?_ ?_;refine Qac ?_;refine QaI (Qai 1) ?_;refine Qac ?_;refine QaT QdQ (fun _ _ _=>Rp.int);refine Qat ?_ Qak;refine Qac ?_;refine QaI (Qai 1) ?_;refine Qac ?_;refine QaT Qdq (fun _ _ _=>Rp.int);refine QaC ?_;refine QaK ?_;refine Qck (Qah 2) ?_;refine QcX ?_;refine QaJ Qfx (hr.mono (by decide)) ?_;refine Qat ?_ ?_;refine Qac ?_;refine QaI (Qai 0) ?_;refine Qac ?_;refine QaT Qdr (fun _ _ _=>Rp.int);refine Qat ?_ ?_;refine Qac ?_;refine QaI (Qai 0) ?_;refine Qac ?_;refine QaT Qc1 (fun _ _ _=>Rp.int)
 refine Qat ?_ ?_;refine Qac ?_;refine QaI (Qai 1) ?_;refine Qac ?_;refine QaT Qdr (fun _ _ _=>Rp.int);refine Qat ?_ Qak;refine Qac ?_;refine QaI (Qai 1) ?_;refine Qac ?_;refine QaT Qc1 (fun _ _ _=>Rp.int)
abbrev Qd9:Stmt:=top 34
theorem QiP:QaO ["high","wide"] ["high","wide"] (Qao Qd9):=by trivial
def QbI:MS :=
  (Qaq (Qc5 (Qbs (QbC (Qax QbO (Qaa (Qab 0) (Qaa (mC (.int 1)) (Qaa (mC (.int 12)) Qaf)))))) (Qaq (QiU "NoSize")
  QaQ) QaQ)
  (Qaq (Qc5 (Qbs (QbC (Qax QbO (Qaa (Qab 1) (Qaa (mC (.int 2)) (Qaa (mC (.int 40)) Qaf)))))) (Qaq (QiU "NoSize")
  QaQ) QaQ)
  QaQ))
def Qb6:List D→Qae→Res D:=Qbw 2 QbI
abbrev Qf8 (Pr:Program) (w:World) (K:Frag) (mg:Str→Option Value) (base:Heap):Prop:=Qh3 Pr w K mg base "check_screen" ["high","wide"] 3 (Qdi K mg [.s,.s] (rV K) Qb6)
theorem QiQ (Qd0:Def K mg "check_screen" Qd9)
  (B:Qch mg)
  (Qdo:∃u,mg "GREATEST_HEIGHT" = some u∧RelV (.int 12) u)
  (Qdz:∃u,mg "GREATEST_WIDTH" = some u∧RelV (.int 40) u)
  (QeM:∃u,mg "LEAST_WIDTH" = some u∧RelV (.int 2) u)
  (X_NoSize:Qo5 K mg "NoSize")
  (Qeb:QhQ Pr w K mg base) :
  Qf8 Pr w K mg base:=by
 refine QpB (k:=2) (b:=QbI) Qd0 QiP (fun _ _ _ _ _ _=>QaN fun _=>QaN fun _=>Qcf rfl) [.s,.s] [] QbF (fun _ _ _ _=>Rp.non) (body:=fun f cdv A outer s H E hr P=>?_)
 refine Qbo (Qij (QcD (Qcq (Qac (QaJ Qeb (hr.mono (by decide)) (Qat (Qai 0) (Qat (Qac Qag) (Qat (Qac (QaT Qdo (fun _ _ _=>Rp.int))) Qak))))))) (Qbo (Qko X_NoSize rfl QkI)
   Qb3) Qb3) (Qbo (Qij (QcD (Qcq (Qac (QaJ Qeb (hr.mono (by decide)) (Qat (Qai 1) (Qat (Qac (QaT QeM (fun _ _ _=>Rp.int))) (Qat (Qac (QaT Qdz (fun _ _ _=>Rp.int))) Qak))))))) (Qbo (Qko X_NoSize rfl QkI)
   Qb3) Qb3)
   Qb3)
abbrev Qdu:Stmt:=top 35
theorem QdZ:QaO ["high","wide","rooms","place","room"] ["high","wide","rooms"] (Qao Qdu):=by trivial
def Qbx:MS :=
  (Qaq (Qc5 (Qc3 (Qbs (QbC (QdD "list" (Qab 2)))) (QaM (Qad gEq (QaX Qdj (Qaa (Qab 2) Qaf)) (mC (.int 0))))) (Qaq (QcE "NoRoom" "at" (mC (.int 0)))
  QaQ) QaQ)
  (Qaq (Qde (QhH (Qab 2)) (Qh7 2 (QbJ (mgN 3) (QbJ (mgN 4) Qf6))) (Qaq (Qc5 (Qc3 (QaM (Qad gGe (Qab 3) (mC (.int 6)))) (Qc3 (Qbs (QbC (Qax QbK (Qaa (Qab 4) Qaf)))) (Qbs (QbC (Qax Qby (Qaa (Qab 4) (Qaa (Qab 0) (Qaa (Qab 1) Qaf)))))))) (Qaq (QcE "NoRoom" "at" (Qab 3))
  QaQ) QaQ)
  (Qaq (Qc5 (QbC (QaX Qjh (Qaa (Qcz (Qb8 (mSl (Qab 2) moN (moS (Qab 3)))) 1 [4] (mgN 0) QbZ (Qax QbH (Qaa (Qab 1) (Qaa (Qab 0) Qaf)))) Qaf))) (Qaq (QcE "NoRoom" "at" (Qab 3))
  QaQ) QaQ)
  QaQ)))
  QaQ))
def Qci:List D→Qae→Res D:=Qbw 5 Qbx
abbrev QgQ (Pr:Program) (w:World) (K:Frag) (mg:Str→Option Value) (base:Heap):Prop:=Qh3 Pr w K mg base "check_rooms" ["high","wide","rooms"] 3 (Qdi K mg [.s,.s,.s] (rV K) Qci)
theorem Qi0 (QeG:Def K mg "check_rooms" Qdu)
  (B:Qch mg)
  (Qff:∃u,mg "MOST_ROOMS" = some u∧RelV (.int 6) u)
  (XI_NoRoom:QkA Pr w K mg base "NoRoom" "at" 1)
  (Qg0:Qjp Pr w K mg base)
  (QeQ:QgR Pr w K mg base)
  (Qdy:Qfi Pr w K mg base) :
  QgQ Pr w K mg base:=by
 refine QpB (k:=2) (b:=Qbx) QeG QdZ (fun _ _ _ _ _ _=>QaN fun _=>QaN fun _=>QaN fun _=>Qcf rfl) [.s,.s,.s] [.v,.v] QbF (fun _ _ _ _=>Rp.non) (body:=fun f cdv A outer s H E hr P=>?_)
 refine Qbo (Qij (Qgt (QiD (QcD (Qcq (Qal (Qfc "list" (hb:=Qe7) B.isinstance_ B.list_ (Qai 2))))) (QiM (QbM (QcL hr) (Qal (Qcg (ms:=[.s]) (hv:=Qga) Qf7 B.len_ (Qat (Qai 2) Qak))) (Qac Qag) (Qa9 _))))) (Qbo (Qhr XI_NoRoom (hr.mono (by decide)) rfl Qag)
   Qb3) Qb3) (Qbo (QnO rfl (Qqb B.enumerate_ (Qnq 2)) (QkT 2 rfl (Qcr (Qbf (i:=3) QdZ.nd rfl (.inl rfl)) (Qcr (Qbf (i:=4) QdZ.nd rfl (.inr rfl)) Qjg))) (Qbo (Qij (Qgt (QiD (QbM Qip (Qac (Qah 3)) (Qac (QaT Qff (fun _ _ _=>Rp.int))) (Qa9 _)) (QiD (QcD (Qcq (Qac (QaJ Qg0 (hr.mono (by decide)) (Qat (Qac (Qah 4)) Qak))))) (QiM (QcD (Qcq (Qac (QaJ QeQ (hr.mono (by decide)) (Qat (Qac (Qah 4)) (Qat (Qai 0) (Qat (Qai 1) Qak))))))))))) (Qbo (Qhr XI_NoRoom (hr.mono (by decide)) rfl (Qah 3))
   Qb3) Qb3)
   (Qbo (Qij (Qcq (Qal (Qcg (ms:=[.s]) (hv:=QrL) (QrC rfl) B.any_ (Qat (Qal (Qe5 (Qao Qdu) ["high","wide","rooms","place","room"] ["ahead"] [4] rfl (Qgi (Qal (QbT (Qai 2) Qco (Qb2 (Qah 3))))) (fun _ _ _ _ P=>(Qbf (i:=0) (show (Qbk ["high","wide","rooms","place","room"] ["ahead"] [4]).Nodup by decide +kernel) rfl (.inl rfl))) (fun _ _ _ _ P=>Qe6) (fun _ _ _ _ P=>(QaJ Qdy (hr.mono (by decide)) (Qat (Qac (Qah 1)) (Qat (Qac (Qah 0)) Qak)))))) Qak)))) (Qbo (Qhr XI_NoRoom (hr.mono (by decide)) rfl (Qah 3))
   Qb3) Qb3)
   Qb3)))
   Qb3)
abbrev QdY:Stmt:=inClass (top 36) 0
theorem Qfa:QaO ["self","high","wide","rooms","room"] ["self","high","wide","rooms"] (Qao QdY):=by trivial
def QbD:MS :=
  (Qaq (QdI (Qew Qb6 (Qaa (Qab 1) (Qaa (Qab 2) Qaf))))
  (Qaq (QdI (Qew Qci (Qaa (Qab 1) (Qaa (Qab 2) (Qaa (Qab 3) Qaf)))))
  (Qaq (msN (Qeo ["Plan"] "high" (Qab 0) (mG (Qab 1))))
  (Qaq (msN (Qeo ["Plan"] "wide" (Qab 0) (mG (Qab 2))))
  (Qaq (msN (Qeo ["Plan"] "room_by_name" (Qab 0) Qir))
  (Qaq (Qde (Qb8 (Qab 3)) (mgN 4) (Qaq (msN (Qf9 (Qhj ["Plan"] "room_by_name" (Qab 0)) (Qad gIx (Qab 4) (mC (.int 0))) (Qab 4)))
  QaQ))
  QaQ))))))
def Qa2:List D→Qae→Res D:=Qbw 5 QbD
abbrev Qfv (Pr:Program) (w:World) (K:Frag) (mg:Str→Option Value) (base:Heap):Prop:=QiR Pr w K mg base "Plan" ["self","high","wide","rooms"] 4 (Qdi K mg [.v,.s,.s,.s] (rV K) Qa2)
theorem Qih (QdR:QoZ K mg "Plan" "Plan.__init__" QdY)
  (B:Qch mg)
  (Qds:∃u,mg "NAME" = some u∧RelV (.int 0) u)
  (QfE:KC K mg "Plan" "high")
  (QfC:KC K mg "Plan" "wide")
  (Qbn:KC K mg "Plan" "room_by_name")
  (Qd8:Qf8 Pr w K mg base)
  (QeP:QgQ Pr w K mg base) :
  Qfv Pr w K mg base:=by
 refine QsE (k:=3) (b:=QbD) QdR Qfa (fun _ _ _ _ _ _=>QaN fun _=>QaN fun _=>QaN fun _=>QaN fun _=>Qcf rfl) [.v,.s,.s,.s] [.v] QbF (fun _ _ _ _=>Rp.non) (body:=fun f cdv A outer s H E hr P=>?_)
 refine Qbo (Qlx (Qjt Qd8 (hr.mono (by decide)) (Qat (Qai 1) (Qat (Qai 2) Qak)))) (Qbo (Qlx (Qjt QeP (hr.mono (by decide)) (Qat (Qai 1) (Qat (Qai 2) (Qat (Qai 3) Qak)))))
   (Qbo (QlN (Qky (Qgg QfE Qg4) (Qah 0) (Qej (Qai 1))))
   (Qbo (QlN (Qky (Qgg QfC Qg4) (Qah 0) (Qej (Qai 2))))
   (Qbo (QlN (Qky (Qgg Qbn Qg4) (Qah 0) QoS))
   (Qbo (QnO rfl (Qsr (Qnq 3)) (Qbf (i:=4) Qfa.nd rfl (.inl rfl)) (Qbo (QlN (Qqt hr (Qm3 (Qgg Qbn Qg4) (Qah 0)) (QaI (Qac (Qah 4)) (Qac (QaT Qds (fun _ _ _=>Rp.int)))) (Qah 4)))
   Qb3))
   Qb3)))))
abbrev Qdm:Stmt:=inClass (top 36) 2
theorem QgX:QaO ["self"] ["self"] (Qao Qdm):=by trivial
def QcO:MS :=
  (QaL (QiJ (Qhj ["Plan"] "room_by_name" (Qab 0))))
def QcK:List D→Qae→Res D:=Qbw 1 QcO
abbrev QeT (Pr:Program) (w:World) (K:Frag) (mg:Str→Option Value) (base:Heap):Prop:=Qjb Pr w K mg base "Plan" "room_names" ["self"] 1 (vSp K mg [.v] (rO K) QcK)
theorem Qg2 (Qdh:QoI K mg "Plan" "room_names" "Plan.room_names" Qdm)
  (B:Qch mg)
  (Qbn:KC K mg "Plan" "room_by_name") :
  QeT Pr w K mg base:=by
 refine QtW (k:=0) (b:=QcO) Qdh QgX (fun _ _ _ _ _ _=>QaN fun _=>Qcf rfl) [.v] [] Qes (fun _ _ _ _=>.inl ⟨rfl,Rp.non⟩) (body:=fun f cdv A outer s H E hr P=>?_);refine QaC ?_;refine Qlv ?_;refine QoJ rfl B.list_ (Qm3 (Qgg Qbn Qg4) (Qah 0))
abbrev QeJ:Stmt:=top 38
theorem Qi3:QaO ["_law_script","_law_k"] ["_law_script","_law_k"] (Qao QeJ):=by trivial
def QeS:MS :=
  (Qaq (Qb0 (QaM (Qad gLt (Qab 1) (QaX Qdj (Qaa (Qab 0) Qaf)))) (QaL (Qad gIx (Qab 0) (Qab 1))) QaQ)
  (QaL (mC (.int 0))))
def QaZ:List D→Qae→Res D:=Qbw 2 QeS
abbrev Qdv (Pr:Program) (w:World) (K:Frag) (mg:Str→Option Value) (base:Heap):Prop:=Can Pr w K mg base "_law_cell_at" ["_law_script","_law_k"] 1 (vSp K mg [.s,.s] (rV K) QaZ)
theorem Qjc (QeN:Def K mg "_law_cell_at" QeJ)
  (B:Qch mg) :
  Qdv Pr w K mg base:=by
 refine QcR (k:=0) (b:=QeS) QeN Qi3 (fun _ _ _ _ _ _=>QaN fun _=>QaN fun _=>Qcf rfl) [.s,.s] [] QbF (fun _ _ _ _=>Rp.non) (body:=fun f cdv A outer s H E hr P=>?_);refine Qar ?_ ?_;refine Qcc ?_ ?_ Qbu;refine QbM Qmc (Qai 1) ?_ (Qa9 _);refine Qal ?_;refine Qcg (ms:=[.s]) (hv:=Qga) Qf7 B.len_ ?_;refine Qat (Qai 0) Qak;refine QaC ?_;refine QaK ?_;refine QaI (Qai 0) (Qai 1);refine QaC (QaK Qag)
abbrev Qhb:Stmt:=top 39
theorem QcW:QaO ["_law_cell","_law_k","_law_rest","_law_turn","_law_number_here"] ["_law_cell","_law_k"] (Qao Qhb):=by trivial
def QjB:MS :=
  (Qaq (Qb0 (QaM (Qad gGt (Qab 0) (Qad QdA (mC (.int 10)) (mC (.int 18))))) (Qaq (Qas 2 (mG (Qab 0)))
  (Qaq (QcV (Qc7 (Qaa (Qab 1) Qaf)) (mgN 3) (Qas 2 (Qad QaS (Qab 2) (Qad QdA (mC (.int 10)) (mC (.int 9))))))
  (QaL (Qad QaB (Qab 2) (Qad QdA (mC (.int 10)) (mC (.int 9))))))) QaQ)
  (Qaq (Qas 4 (Qad Qay (Qad QaB (Qab 0) (mC (.int 2147483647))) (mC (.int 7919))))
  (Qaq (QcV (Qc7 (Qaa (Qad Qay (Qab 1) (mC (.int 2))) Qaf)) (mgN 3) (Qas 4 (Qad QaB (Qad Qay (Qad Qcu (Qab 4) (mC (.int 48271))) (mC (.int 104729))) (mC (.int 2147483629)))))
  (QaL (Qad QaS (Qad QaB (Qad Qcu (Qab 4) (Qab 4)) (mC (.int 998244353))) (mC (.int 11)))))))
def Qbb:List D→Qae→Res D:=Qbw 5 QjB
abbrev Qhg (Pr:Program) (w:World) (K:Frag) (mg:Str→Option Value) (base:Heap):Prop:=Can Pr w K mg base "_law_mix" ["_law_cell","_law_k"] 1 (vSp K mg [.s,.s] (rV K) Qbb)
theorem QlX (Qhn:Def K mg "_law_mix" Qhb)
  (B:Qch mg) :
  Qhg Pr w K mg base:=by
 refine QcR (k:=0) (b:=QjB) Qhn QcW (fun _ _ _ _ _ _=>QaN fun _=>QaN fun _=>Qcf rfl) [.s,.s] [.v,.v,.v] QbF (fun _ _ _ _=>Rp.non) (body:=fun f cdv A outer s H E hr P=>?_);refine Qar ?_ ?_;refine Qcc ?_ ?_ Qbu;refine QbM QtP (Qai 0) ?_ (Qa9 _);refine Qal ?_;refine Qaj Qhq (Qac Qag) (Qac Qag);refine Qar ?_ ?_;refine QaD (i:=2) QcW.nd rfl (.inl rfl) (Qej (Qai 0));refine Qar ?_ ?_;refine Qhu rfl ?_ (Qbf (i:=3) QcW.nd rfl (.inl rfl)) ?_;refine QdF B.range_ ?_;refine Qat (Qai 1) Qak;refine QaC ?_;refine QaD (i:=2) QcW.nd rfl (.inl rfl) ?_;refine Qaw ?_;refine Qaj Qba (Qac (Qah 2)) ?_;refine Qal ?_;refine Qaj Qhq (Qac Qag) (Qac Qag)
 refine QaC ?_;refine QaK ?_;refine Qaw ?_;refine Qaj QaP (Qac (Qah 2)) ?_;refine Qal ?_;refine Qaj Qhq (Qac Qag) (Qac Qag);refine Qar ?_ ?_;refine QaD (i:=4) QcW.nd rfl (.inl rfl) ?_;refine Qaw ?_;refine Qaj QaG ?_ (Qac Qag);refine Qal ?_;refine Qaj QaP (Qai 0) (Qac Qag);refine Qar ?_ ?_;refine Qhu rfl ?_ (Qbf (i:=3) QcW.nd rfl (.inl rfl)) ?_;refine QdF B.range_ ?_;refine Qat ?_ Qak;refine Qal ?_;refine Qaj QaG (Qai 1) (Qac Qag);refine QaC ?_;refine QaD (i:=4) QcW.nd rfl (.inl rfl) ?_;refine Qaw ?_;refine Qaj QaP ?_ (Qac Qag);refine Qal ?_;refine Qaj QaG ?_ (Qac Qag);refine Qal ?_;refine Qaj Qf1 (Qac (Qah 4)) (Qac Qag)
 refine QaC ?_;refine QaK ?_;refine Qaw ?_;refine Qaj Qba ?_ (Qac Qag);refine Qal ?_;refine Qaj QaP ?_ (Qac Qag);refine Qal ?_;refine Qaj Qf1 (Qac (Qah 4)) (Qac (Qah 4))
abbrev Qed:Stmt:=top 40
theorem QbQ:QaO ["_law_cell","_law_many","_law_letters","_law_base","_law_k","_law_at","_law_names_here","_law_sign"] ["_law_cell","_law_many"] (Qao Qed):=by trivial
def QcZ:MS :=
  (Qaq (Qas 2 (mC (.str [97,98,99,100,101,102,103,104,105,106,107,108,109,110,111,112,113,114,115,116,117,118,119,120,121,122])))
  (Qaq (Qas 3 (mC (.str [])))
  (Qaq (QcV (Qc7 (Qaa (mC (.int 8)) Qaf)) (mgN 4) (Qas 3 (Qad Qay (Qab 3) (Qad gIx (Qab 2) (Qad QaB (Qax Qbb (Qaa (Qab 0) (Qaa (Qab 4) Qaf))) (mC (.int 26)))))))
  (Qaq (Qb0 (QaM (Qad gEq (Qad QaB (Qab 0) (mC (.int 3))) (mC (.int 0)))) (QaL (Qcz (Qc7 (Qaa (Qab 1) Qaf)) 1 [3] (mgN 0) QbZ (mSl (Qab 1) moN (moS (Qad Qay (Qab 0) (mC (.int 1))))))) QaQ)
  (Qaq (Qas 5 (Qad QaB (Qad QaS (Qab 0) (mC (.int 3))) (mC (.int 8))))
  (Qaq (Qas 6 (Qa1 Qaf))
  (Qaq (QcV (Qc7 (Qaa (Qab 1) Qaf)) (mgN 4) (Qaq (Qas 7 (Qad gIx (Qab 2) (Qad QaB (Qad Qay (Qax Qbb (Qaa (Qab 0) (Qaa (mC (.int 8)) Qaf))) (Qab 4)) (mC (.int 26)))))
  (Qef 6 (mSl (Qad Qay (Qad Qay (mSl (Qab 3) moN (moS (Qab 5))) (Qab 7)) (mSl (Qab 3) (moS (Qad Qay (Qab 5) (mC (.int 1)))) moN)) moN (moS (QaX QgC (Qaa (Qad Qay (Qab 5) (mC (.int 1))) (Qaa (Qad Qay (mC (.int 1)) (Qad QaB (Qad QaS (Qab 0) (mC (.int 24))) (mC (.int 8)))) Qaf))))))))
  (QaL (Qab 6)))))))))
def QfO:List D→Qae→Res D:=Qbw 8 QcZ
abbrev QhP (Pr:Program) (w:World) (K:Frag) (mg:Str→Option Value) (base:Heap):Prop:=Can Pr w K mg base "_law_names" ["_law_cell","_law_many"] 2 (vSp K mg [.s,.s] (rO K) QfO)
theorem QjZ (QfQ:Def K mg "_law_names" Qed)
  (B:Qch mg)
  (QbY:Qhg Pr w K mg base) :
  QhP Pr w K mg base:=by
 refine QcR (k:=1) (b:=QcZ) QfQ QbQ (fun _ _ _ _ _ _=>QaN fun _=>QaN fun _=>Qcf rfl) [.s,.s] [.v,.v,.v,.v,.o,.v] Qes (fun _ _ _ _=>.inl ⟨rfl,Rp.non⟩) (body:=fun f cdv A outer s H E hr P=>?_);refine Qar (QaD (i:=2) QbQ.nd rfl (.inl rfl) (Qa5 [97,98,99,100,101,102,103,104,105,106,107,108,109,110,111,112,113,114,115,116,117,118,119,120,121,122])) ?_;refine Qar (QaD (i:=3) QbQ.nd rfl (.inr rfl) (Qa5 [])) ?_;refine Qar ?_ ?_;refine Qhu rfl ?_ (Qbf (i:=4) QbQ.nd rfl (.inl rfl)) ?_;refine QdF B.range_ ?_;refine Qat (Qac Qag) Qak;refine QaC ?_;refine QaD (i:=3) QbQ.nd rfl (.inr rfl) ?_;refine Qaw ?_
 refine Qaj QaG (Qac (Qah 3)) ?_;refine Qac ?_;refine QaI (Qac (Qah 2)) ?_;refine Qal ?_;refine Qaj QaP ?_ (Qac Qag);refine Qac ?_;refine QaJ QbY (hr.mono (by decide)) ?_;refine Qat (Qai 0) ?_;refine Qat (Qac (Qah 4)) Qak;refine Qar ?_ ?_;refine Qcc ?_ ?_ Qbu;refine QbM (QcL hr) ?_ (Qac Qag) (Qa9 _);refine Qal ?_;refine Qaj QaP (Qai 0) (Qac Qag);refine QaC ?_;refine Qlv ?_;refine Qe5 (Qao Qed) ["_law_cell","_law_many","_law_letters","_law_base","_law_k","_law_at","_law_names_here","_law_sign"] ["_law_k"] [3] rfl ?_ (fun _ _ _ _ P=>?_) (fun _ _ _ _ P=>?_) (fun _ _ _ _ P=>?_);refine QkH ?_;refine QdF B.range_ ?_
 refine Qat (Qai 1) Qak;exact Qbf (i:=0) (show (Qbk ["_law_cell","_law_many","_law_letters","_law_base","_law_k","_law_at","_law_names_here","_law_sign"] ["_law_k"] [3]).Nodup by decide +kernel) rfl (.inl rfl);exact Qe6;refine Qaw ?_;refine QbT (Qac (Qah 1)) Qco ?_;refine Qb2 ?_;refine Qaw ?_;refine Qaj QaG (Qac (Qah 0)) (Qac Qag);refine Qar ?_ ?_;refine QaD (i:=5) QbQ.nd rfl (.inl rfl) ?_;refine Qaw ?_;refine Qaj QaP ?_ (Qac Qag);refine Qal ?_;refine Qaj Qba (Qai 0) (Qac Qag);refine Qar ?_ ?_;refine QhK (i:=6) QbQ.nd rfl (.inl rfl) (Qa7 0 Qak);refine Qar ?_ (QaC (QqE 6));refine Qhu rfl ?_ (Qbf (i:=4) QbQ.nd rfl (.inl rfl)) ?_
 refine QdF B.range_ ?_;refine Qat (Qai 1) Qak;refine Qar ?_ ?_;refine QaD (i:=7) QbQ.nd rfl (.inl rfl) ?_;refine QaI (Qac (Qah 2)) ?_;refine Qal ?_;refine Qaj QaP ?_ (Qac Qag);refine Qal ?_;refine Qaj QaG ?_ (Qac (Qah 4));refine Qac ?_;refine QaJ QbY (hr.mono (by decide)) ?_;refine Qat (Qai 0) ?_;refine Qat (Qac Qag) Qak;refine QaC ?_;refine Qjm 6 ?_;refine Qaw ?_;refine QbT ?_ Qco ?_;refine Qal ?_;refine Qaj QaG ?_ ?_;refine Qal ?_;refine Qaj QaG ?_ (Qac (Qah 7));refine Qal ?_;refine QbT (Qac (Qah 3)) Qco (Qb2 (Qah 5));refine Qal ?_;refine QbT (Qac (Qah 3)) ?_ Qco;refine Qb2 ?_;refine Qaw ?_
 refine Qaj QaG (Qac (Qah 5)) (Qac Qag);refine Qb2 ?_;refine Qaw ?_;refine Qcg (ms:=[.s,.s]) (hv:=Qnj) (Qoj rfl) B.max_ ?_;refine Qat ?_ ?_;refine Qal ?_;refine Qaj QaG (Qac (Qah 5)) (Qac Qag);refine Qat ?_ Qak;refine Qal ?_;refine Qaj QaG (Qac Qag) ?_;refine Qal ?_;refine Qaj QaP ?_ (Qac Qag);refine Qal ?_;refine Qaj Qba (Qai 0) (Qac Qag)
abbrev QgI:Stmt:=top 41
theorem QbP:QaO ["_law_script","_law_many","_law_cell","_law_names_here","_law_rooms","_law_at","_law_k","_law_tall","_law_broad","_law_way"] ["_law_script","_law_many"] (Qao QgI):=by trivial
def Qe3:MS :=
  (Qaq (Qas 2 (Qax QaZ (Qaa (Qab 0) (Qaa (mC (.int 0)) Qaf))))
  (Qaq (Qas 3 (Qax QfO (Qaa (Qax QaZ (Qaa (Qab 0) (Qaa (mC (.int 1)) Qaf))) (Qaa (Qab 1) Qaf))))
  (Qaq (Qas 4 (Qa1 Qaf))
  (Qaq (Qas 5 (mC (.int 0)))
  (Qaq (QcV (Qc7 (Qaa (Qab 1) Qaf)) (mgN 6) (Qaq (Qas 7 (Qad Qay (mC (.int 1)) (Qad QaB (Qax Qbb (Qaa (Qab 2) (Qaa (Qad Qay (mC (.int 14)) (Qad Qcu (mC (.int 6)) (Qab 6))) Qaf))) (mC (.int 3)))))
  (Qaq (Qas 8 (Qad Qay (mC (.int 2)) (Qad QaB (Qax Qbb (Qaa (Qab 2) (Qaa (Qad Qay (mC (.int 15)) (Qad Qcu (mC (.int 6)) (Qab 6))) Qaf))) (mC (.int 3)))))
  (Qaq (Qas 9 (Qad gIx (Qa1 (Qaa (mC (.str [99,117,116])) (Qaa (mC (.str [99,101,108,108,115])) (Qaa (mC (.str [119,111,114,100,115])) (Qaa (mC (.str [101,118,101,110])) Qaf))))) (Qad QaB (Qax Qbb (Qaa (Qab 2) (Qaa (Qad Qay (mC (.int 16)) (Qad Qcu (mC (.int 6)) (Qab 6))) Qaf))) (mC (.int 4)))))
  (Qaq (Qef 4 (Qbd (Qaa (Qad gIx (Qab 3) (Qab 6)) (Qaa (Qad QaB (Qax Qbb (Qaa (Qab 2) (Qaa (Qad Qay (mC (.int 17)) (Qad Qcu (mC (.int 6)) (Qab 6))) Qaf))) (mC (.int 3))) (Qaa (Qab 5) (Qaa (Qab 7) (Qaa (Qab 8) (Qaa (Qab 9) Qaf))))))))
  (Qas 5 (Qad Qay (Qab 5) (Qab 8))))))))
  (Qj8 (QaL (Qbd (Qaa (Qad Qay (mC (.int 5)) (Qad QaB (Qax Qbb (Qaa (Qab 2) (Qaa (mC (.int 9)) Qaf))) (mC (.int 3)))) (Qaa (Qad Qay (mC (.int 30)) (Qad QaB (Qax Qbb (Qaa (Qab 2) (Qaa (mC (.int 10)) Qaf))) (mC (.int 3)))) (Qaa (Qab 4) Qaf)))))))))))
def Qgo:List D→Qae→Res D:=Qbw 10 Qe3
abbrev Qiq (Pr:Program) (w:World) (K:Frag) (mg:Str→Option Value) (base:Heap):Prop:=Can Pr w K mg base "_law_good" ["_law_script","_law_many"] 3 (vSp K mg [.s,.s] (rV K) Qgo)
theorem Qla (QgL:Def K mg "_law_good" QgI)
  (B:Qch mg)
  (Qbe:Qdv Pr w K mg base)
  (QfU:QhP Pr w K mg base)
  (QbY:Qhg Pr w K mg base) :
  Qiq Pr w K mg base:=by
 refine QcR (k:=2) (b:=Qe3) QgL QbP (fun _ _ _ _ _ _=>QaN fun _=>QaN fun _=>Qcf rfl) [.s,.s] [.v,.v,.o,.v,.v,.v,.v,.v] QbF (fun _ _ _ _=>Rp.non) (body:=fun f cdv A outer s H E hr P=>?_);refine Qar ?_ ?_;refine QaD (i:=2) QbP.nd rfl (.inl rfl) ?_;refine QaJ Qbe (hr.mono (by decide)) ?_;refine Qat (Qai 0) ?_;refine Qat (Qac Qag) Qak;refine Qar ?_ ?_;refine QaD (i:=3) QbP.nd rfl (.inl rfl) ?_;refine Qaw ?_;refine QqQ QfU (hr.mono (by decide)) ?_;refine Qat ?_ ?_;refine Qac ?_;refine QaJ Qbe (hr.mono (by decide)) ?_;refine Qat (Qai 0) ?_;refine Qat (Qac Qag) Qak;refine Qat (Qai 1) Qak;refine Qar ?_ ?_
 refine QhK (i:=4) QbP.nd rfl (.inl rfl) (Qa7 0 Qak);refine Qar (QaD (i:=5) QbP.nd rfl (.inl rfl) Qag) ?_;refine Qar ?_ ?_;refine Qhu rfl ?_ (Qbf (i:=6) QbP.nd rfl (.inl rfl)) ?_;refine QdF B.range_ ?_;refine Qat (Qai 1) Qak;refine Qar ?_ ?_;refine QaD (i:=7) QbP.nd rfl (.inl rfl) ?_;refine Qaw ?_;refine Qaj QaG (Qac Qag) ?_;refine Qal ?_;refine Qaj QaP ?_ (Qac Qag);refine Qac ?_;refine QaJ QbY (hr.mono (by decide)) ?_;refine Qat (Qac (Qah 2)) ?_;refine Qat ?_ Qak;refine Qal ?_;refine Qaj QaG (Qac Qag) ?_;refine Qal ?_;refine Qaj Qf1 (Qac Qag) (Qac (Qah 6));refine Qar ?_ ?_;refine QaD (i:=8) QbP.nd rfl (.inl rfl) ?_
 refine Qaw ?_;refine Qaj QaG (Qac Qag) ?_;refine Qal ?_;refine Qaj QaP ?_ (Qac Qag);refine Qac ?_;refine QaJ QbY (hr.mono (by decide)) ?_;refine Qat (Qac (Qah 2)) ?_;refine Qat ?_ Qak;refine Qal ?_;refine Qaj QaG (Qac Qag) ?_;refine Qal ?_;refine Qaj Qf1 (Qac Qag) (Qac (Qah 6));refine Qar ?_ ?_;refine QaD (i:=9) QbP.nd rfl (.inl rfl) ?_;refine QaI ?_ ?_;refine Qal ?_;refine Qa7 4 ?_;refine Qap (Qa5 [99,117,116]) ?_;refine Qap (Qa5 [99,101,108,108,115]) ?_;refine Qap (Qa5 [119,111,114,100,115]) ?_;refine Qap (Qa5 [101,118,101,110]) Qak;refine Qal ?_;refine Qaj QaP ?_ (Qac Qag);refine Qac ?_;refine QaJ QbY (hr.mono (by decide)) ?_
 refine Qat (Qac (Qah 2)) ?_;refine Qat ?_ Qak;refine Qal ?_;refine Qaj QaG (Qac Qag) ?_;refine Qal ?_;refine Qaj Qf1 (Qac Qag) (Qac (Qah 6));refine Qar ?_ ?_;refine Qjm 4 ?_;refine Qbg 6 ?_;refine Qap ?_ ?_;refine QaI (Qac (Qah 3)) (Qac (Qah 6));refine Qap ?_ ?_;refine Qaw ?_;refine Qaj QaP ?_ (Qac Qag);refine Qac ?_;refine QaJ QbY (hr.mono (by decide)) ?_;refine Qat (Qac (Qah 2)) ?_;refine Qat ?_ Qak;refine Qal ?_;refine Qaj QaG (Qac Qag) ?_;refine Qal ?_;refine Qaj Qf1 (Qac Qag) (Qac (Qah 6));refine Qap (Qah 5) ?_;refine Qap (Qah 7) ?_;refine Qap (Qah 8) ?_;refine Qap (Qah 9) Qak;refine QaC ?_
 refine QaD (i:=5) QbP.nd rfl (.inl rfl) ?_;refine Qaw ?_;refine Qaj QaG (Qac (Qah 5)) (Qac (Qah 8));refine QaC ?_;refine QrR 4 rfl ?_;refine QaK ?_;refine Qbg 3 ?_;refine Qap ?_ ?_;refine Qaw ?_;refine Qaj QaG (Qac Qag) ?_;refine Qal ?_;refine Qaj QaP ?_ (Qac Qag);refine Qac ?_;refine QaJ QbY (hr.mono (by decide)) ?_;refine Qat (Qac (Qah 2)) ?_;refine Qat (Qac Qag) Qak;refine Qap ?_ ?_;refine Qaw ?_;refine Qaj QaG (Qac Qag) ?_;refine Qal ?_;refine Qaj QaP ?_ (Qac Qag);refine Qac ?_;refine QaJ QbY (hr.mono (by decide)) ?_;refine Qat (Qac (Qah 2)) ?_;refine Qat (Qac Qag) Qak;refine Qap (Qah 4) Qak
abbrev Qfk:Stmt:=top 42
theorem Qcv:QaO ["_law_cell","_law_room","_law_high","_law_wide","_law_at","_law_some","_law_far","_law_near","_law_bad_here"] ["_law_cell","_law_room","_law_high","_law_wide"] (Qao Qfk):=by trivial
def QdX:MS :=
  (Qaq (Qas 4 (Qad Qay (mC (.int 1)) (Qad QaB (Qab 0) (mC (.int 4)))))
  (Qaq (Qas 5 (Qa1 (Qaa (Qa1 (Qaa (mUn Qhk (mC (.int 1))) (Qaa (mC .non) (Qaa (mC (.bl true)) (Qaa (mC (.str [48])) Qaf))))) (Qaa (Qa1 (Qaa (mUn Qhk (mC (.int 1))) (Qaa (mC .non) (Qaa (mC (.bl false)) (Qaa (mC (.str [48])) Qaf))))) (Qaa (Qa1 (Qaa (mC (.int 0)) (Qaa (mC .non) (Qaa (mC (.bl true)) (Qaa (mC (.str [49])) Qaf))))) (Qaa (Qa1 (Qaa (mC (.int 1)) (Qaa (mC .non) (Qaa (mC (.bl true)) (Qaa (mC (.str [50])) Qaf))))) Qaf))))))
  (Qaq (Qas 6 (Qad gIx (Qa1 (Qaa (mG (Qab 2)) (Qaa (mG (Qab 3)) (Qaa (Qad Qay (Qab 2) (mC (.int 1))) (Qaa (Qad Qay (Qab 3) (mC (.int 1))) Qaf))))) (Qad Qbj (Qab 4) (mC (.int 1)))))
  (Qaq (Qas 7 (Qad Qay (Qad gIx (Qa1 (Qaa (Qad Qbj (Qab 2) (Qad gIx (Qab 1) (mC (.int 3)))) (Qaa (Qad Qbj (Qab 3) (Qad gIx (Qab 1) (mC (.int 4)))) (Qaa (Qad Qbj (Qab 2) (Qad gIx (Qab 1) (mC (.int 1)))) (Qaa (Qad Qbj (Qab 3) (Qad gIx (Qab 1) (mC (.int 2)))) Qaf))))) (Qad Qbj (Qab 4) (mC (.int 1)))) (mC (.int 1))))
  (Qaq (Qas 8 (Qad gIx (Qad Qay (Qad gIx (Qab 5) (Qad Qbj (Qab 4) (mC (.int 1)))) (Qa1 (Qaa (Qab 6) (Qaa (Qab 7) Qaf)))) (Qad QaB (Qad QaS (Qab 0) (mC (.int 4))) (mC (.int 6)))))
  (QaL (Qad Qay (Qad Qay (mSl (Qab 1) moN (moS (Qab 4))) (Qbd (Qaa (Qab 8) Qaf))) (mSl (Qab 1) (moS (Qad Qay (Qab 4) (mC (.int 1)))) moN))))))))
def QdT:List D→Qae→Res D:=Qbw 9 QdX
abbrev QgY (Pr:Program) (w:World) (K:Frag) (mg:Str→Option Value) (base:Heap):Prop:=Can Pr w K mg base "_law_number" ["_law_cell","_law_room","_law_high","_law_wide"] 1 (vSp K mg [.s,.s,.s,.s] (rV K) QdT)
theorem QjN (Qfh:Def K mg "_law_number" Qfk)
  (B:Qch mg) :
  QgY Pr w K mg base:=by
 refine QcR (k:=0) (b:=QdX) Qfh Qcv (fun _ _ _ _ _ _=>QaN fun _=>QaN fun _=>QaN fun _=>QaN fun _=>Qcf rfl) [.s,.s,.s,.s] [.v,.v,.v,.v,.v] QbF (fun _ _ _ _=>Rp.non) (body:=fun f cdv A outer s H E hr P=>?_);refine Qar ?_ ?_;refine QaD (i:=4) Qcv.nd rfl (.inl rfl) ?_;refine Qaw ?_;refine Qaj QaG (Qac Qag) ?_;refine Qal ?_;refine Qaj QaP (Qai 0) (Qac Qag);refine Qar ?_ ?_;refine QaD (i:=5) Qcv.nd rfl (.inl rfl) ?_;refine Qaw ?_;refine Qa7 4 ?_;refine Qap ?_ ?_;refine Qaw ?_;refine Qa7 4 ?_;refine Qap ?_ ?_;refine Qaw ?_;refine Qhc (Qac Qag);refine Qap QcA ?_;refine Qap Qce ?_;refine Qap (Qa5 [48]) Qak
 refine Qap ?_ ?_;refine Qaw ?_;refine Qa7 4 ?_;refine Qap ?_ ?_;refine Qaw ?_;refine Qhc (Qac Qag);refine Qap QcA ?_;refine Qap Qce ?_;refine Qap (Qa5 [48]) Qak;refine Qap ?_ ?_;refine Qaw ?_;refine Qa7 4 ?_;refine Qap Qag ?_;refine Qap QcA ?_;refine Qap Qce ?_;refine Qap (Qa5 [49]) Qak;refine Qap ?_ Qak;refine Qaw ?_;refine Qa7 4 ?_;refine Qap Qag ?_;refine Qap QcA ?_;refine Qap Qce ?_;refine Qap (Qa5 [50]) Qak;refine Qar ?_ ?_;refine QaD (i:=6) Qcv.nd rfl (.inl rfl) ?_;refine QaI ?_ ?_;refine Qal ?_;refine Qa7 4 ?_;refine Qap (Qej (Qai 2)) ?_;refine Qap (Qej (Qai 3)) ?_;refine Qap ?_ ?_;refine Qaw ?_
 refine Qaj QaG (Qai 2) (Qac Qag);refine Qap ?_ Qak;refine Qaw ?_;refine Qaj QaG (Qai 3) (Qac Qag);refine Qal ?_;refine Qaj Qcs (Qac (Qah 4)) (Qac Qag);refine Qar ?_ ?_;refine QaD (i:=7) Qcv.nd rfl (.inl rfl) ?_;refine Qaw ?_;refine Qaj QaG ?_ (Qac Qag);refine Qac ?_;refine QaI ?_ ?_;refine Qal ?_;refine Qa7 4 ?_;refine Qap ?_ ?_;refine Qaw ?_;refine Qaj Qcs (Qai 2) ?_;refine Qac ?_;refine QaI (Qai 1) (Qac Qag);refine Qap ?_ ?_;refine Qaw ?_;refine Qaj Qcs (Qai 3) ?_;refine Qac ?_;refine QaI (Qai 1) (Qac Qag);refine Qap ?_ ?_;refine Qaw ?_;refine Qaj Qcs (Qai 2) ?_;refine Qac ?_;refine QaI (Qai 1) (Qac Qag)
 refine Qap ?_ Qak;refine Qaw ?_;refine Qaj Qcs (Qai 3) ?_;refine Qac ?_;refine QaI (Qai 1) (Qac Qag);refine Qal ?_;refine Qaj Qcs (Qac (Qah 4)) (Qac Qag);refine Qar ?_ ?_;refine QaD (i:=8) Qcv.nd rfl (.inl rfl) ?_;refine QaI ?_ ?_;refine Qal ?_;refine Qaj QaG ?_ ?_;refine Qac ?_;refine QaI (Qac (Qah 5)) ?_;refine Qal ?_;refine Qaj Qcs (Qac (Qah 4)) (Qac Qag);refine Qal ?_;refine Qa7 2 ?_;refine Qap (Qah 6) ?_;refine Qap (Qah 7) Qak;refine Qal ?_;refine Qaj QaP ?_ (Qac Qag);refine Qal ?_;refine Qaj Qba (Qai 0) (Qac Qag);refine QaC ?_;refine QaK ?_;refine Qaw ?_;refine Qaj QaG ?_ ?_;refine Qal ?_
 refine Qaj QaG ?_ ?_;refine Qal ?_;refine QbT (Qai 1) Qco (Qb2 (Qah 4));refine Qac ?_;refine Qbg 1 ?_;refine Qap (Qah 8) Qak;refine Qal ?_;refine QbT (Qai 1) ?_ Qco;refine Qb2 ?_;refine Qaw ?_;refine Qaj QaG (Qac (Qah 4)) (Qac Qag)
abbrev QgB:Stmt:=top 43
theorem QcH:QaO ["_law_cell","_law_room","_law_other","_law_high","_law_wide","_law_row","_law_col","_law_top","_law_tall","_law_left","_law_broad"] ["_law_cell","_law_room","_law_other","_law_high","_law_wide"] (Qao QgB):=by trivial
def Qe4:MS :=
  (Qaq (Qas 5 (Qad Qay (Qad gIx (Qab 2) (mC (.int 1))) (Qad QaB (Qad QaS (Qab 0) (mC (.int 64))) (Qad gIx (Qab 2) (mC (.int 3))))))
  (Qaq (Qas 6 (Qad Qay (Qad gIx (Qab 2) (mC (.int 2))) (Qad QaB (Qad QaS (Qab 0) (mC (.int 256))) (Qad gIx (Qab 2) (mC (.int 4))))))
  (Qaq (Qas 7 (Qad QaB (Qad QaS (Qab 0) (mC (.int 1024))) (Qad Qay (Qab 5) (mC (.int 1)))))
  (Qaq (Qas 8 (Qad Qay (Qad Qay (Qad Qbj (Qab 5) (Qab 7)) (mC (.int 1))) (Qad QaB (Qad QaS (Qab 0) (mC (.int 4096))) (Qad Qbj (Qab 3) (Qab 5)))))
  (Qaq (Qas 9 (Qad QaB (Qad QaS (Qab 0) (mC (.int 65536))) (Qad Qay (Qab 6) (mC (.int 1)))))
  (Qaq (Qas 10 (QaX QgC (Qaa (mC (.int 2)) (Qaa (Qad Qay (Qad Qay (Qad Qbj (Qab 6) (Qab 9)) (mC (.int 1))) (Qad QaB (Qad QaS (Qab 0) (mC (.int 1048576))) (Qad Qbj (Qab 4) (Qab 6)))) Qaf))))
  (QaL (Qbd (Qaa (Qad gIx (Qab 1) (mC (.int 0))) (Qaa (Qab 7) (Qaa (Qab 9) (Qaa (Qab 8) (Qaa (Qab 10) (Qaa (Qad gIx (Qab 1) (mC (.int 5))) Qaf))))))))))))))
def Qgk:List D→Qae→Res D:=Qbw 11 Qe4
abbrev Qio (Pr:Program) (w:World) (K:Frag) (mg:Str→Option Value) (base:Heap):Prop:=Can Pr w K mg base "_law_over" ["_law_cell","_law_room","_law_other","_law_high","_law_wide"] 1 (vSp K mg [.s,.s,.s,.s,.s] (rV K) Qgk)
theorem Qk9 (QgM:Def K mg "_law_over" QgB)
  (B:Qch mg) :
  Qio Pr w K mg base:=by
 refine QcR (k:=0) (b:=Qe4) QgM QcH (fun _ _ _ _ _ _=>QaN fun _=>QaN fun _=>QaN fun _=>QaN fun _=>QaN fun _=>Qcf rfl) [.s,.s,.s,.s,.s] [.v,.v,.v,.v,.v,.v] QbF (fun _ _ _ _=>Rp.non) (body:=fun f cdv A outer s H E hr P=>?_);refine Qar ?_ ?_;refine QaD (i:=5) QcH.nd rfl (.inl rfl) ?_;refine Qaw ?_;refine Qaj QaG ?_ ?_;refine Qac ?_;refine QaI (Qai 2) (Qac Qag);refine Qal ?_;refine Qaj QaP ?_ ?_;refine Qal ?_;refine Qaj Qba (Qai 0) (Qac Qag);refine Qac ?_;refine QaI (Qai 2) (Qac Qag);refine Qar ?_ ?_;refine QaD (i:=6) QcH.nd rfl (.inl rfl) ?_;refine Qaw ?_;refine Qaj QaG ?_ ?_;refine Qac ?_;refine QaI (Qai 2) (Qac Qag)
 refine Qal ?_;refine Qaj QaP ?_ ?_;refine Qal ?_;refine Qaj Qba (Qai 0) (Qac Qag);refine Qac ?_;refine QaI (Qai 2) (Qac Qag);refine Qar ?_ ?_;refine QaD (i:=7) QcH.nd rfl (.inl rfl) ?_;refine Qaw ?_;refine Qaj QaP ?_ ?_;refine Qal ?_;refine Qaj Qba (Qai 0) (Qac Qag);refine Qal ?_;refine Qaj QaG (Qac (Qah 5)) (Qac Qag);refine Qar ?_ ?_;refine QaD (i:=8) QcH.nd rfl (.inl rfl) ?_;refine Qaw ?_;refine Qaj QaG ?_ ?_;refine Qal ?_;refine Qaj QaG ?_ (Qac Qag);refine Qal ?_;refine Qaj Qcs (Qac (Qah 5)) (Qac (Qah 7));refine Qal ?_;refine Qaj QaP ?_ ?_;refine Qal ?_;refine Qaj Qba (Qai 0) (Qac Qag);refine Qal ?_
 refine Qaj Qcs (Qai 3) (Qac (Qah 5));refine Qar ?_ ?_;refine QaD (i:=9) QcH.nd rfl (.inl rfl) ?_;refine Qaw ?_;refine Qaj QaP ?_ ?_;refine Qal ?_;refine Qaj Qba (Qai 0) (Qac Qag);refine Qal ?_;refine Qaj QaG (Qac (Qah 6)) (Qac Qag);refine Qar ?_ ?_;refine QaD (i:=10) QcH.nd rfl (.inl rfl) ?_;refine Qaw ?_;refine Qcg (ms:=[.s,.s]) (hv:=Qnj) (Qoj rfl) B.max_ ?_;refine Qat (Qac Qag) ?_;refine Qat ?_ Qak;refine Qal ?_;refine Qaj QaG ?_ ?_;refine Qal ?_;refine Qaj QaG ?_ (Qac Qag);refine Qal ?_;refine Qaj Qcs (Qac (Qah 6)) (Qac (Qah 9));refine Qal ?_;refine Qaj QaP ?_ ?_;refine Qal ?_;refine Qaj Qba (Qai 0) (Qac Qag)
 refine Qal ?_;refine Qaj Qcs (Qai 4) (Qac (Qah 6));refine QaC ?_;refine QaK ?_;refine Qbg 6 ?_;refine Qap ?_ ?_;refine QaI (Qai 1) (Qac Qag);refine Qap (Qah 7) ?_;refine Qap (Qah 9) ?_;refine Qap (Qah 8) ?_;refine Qap (Qah 10) ?_;refine Qap ?_ Qak;refine QaI (Qai 1) (Qac Qag)
abbrev Qhf:Stmt:=top 44
theorem Qis:QaO ["_law_cell","_law_room","_law_ahead","_law_high","_law_wide","_law_way"] ["_law_cell","_law_room","_law_ahead","_law_high","_law_wide"] (Qao Qhf):=by trivial
def Qca:MS :=
  (Qaq (Qas 5 (Qad QaB (Qab 0) (mC (.int 8))))
  (Qaq (Qb0 (QaM (Qad gEq (Qab 5) (mC (.int 0)))) (QaL (Qad gIx (Qa1 (Qaa (mC .non) (Qaa (QaX Qen (Qaa (Qab 1) Qaf)) (Qaa (mC (.str [114,111,111,109])) (Qaa (mC (.int 7)) (Qaa (Qbd Qaf) Qaf)))))) (Qad QaB (Qad QaS (Qab 0) (mC (.int 8))) (mC (.int 5))))) QaQ)
  (Qaq (Qb0 (QaM (Qad gEq (Qab 5) (mC (.int 1)))) (QaL (Qad gIx (Qa1 (Qaa (mSl (Qab 1) moN (moS (mC (.int 5)))) (Qaa (Qad Qay (Qab 1) (Qbd (Qaa (mC (.int 0)) Qaf))) Qaf))) (Qad QaB (Qad QaS (Qab 0) (mC (.int 8))) (mC (.int 2))))) QaQ)
  (Qaq (Qb0 (QaM (Qad gEq (Qab 5) (mC (.int 2)))) (QaL (Qad Qay (Qbd (Qaa (Qad gIx (Qa1 (Qaa (mC .non) (Qaa (mC (.str [])) (Qaa (mC (.str [65])) (Qaa (mC (.str [97,98,99,100,101,102,103,104,105])) (Qaa (mC (.str [97,32,98])) (Qaa (mC (.int 1)) (Qaa (Qa1 (Qaa (mC (.str [97])) Qaf)) Qaf)))))))) (Qad QaB (Qad QaS (Qab 0) (mC (.int 8))) (mC (.int 7)))) Qaf)) (mSl (Qab 1) (moS (mC (.int 1))) moN))) QaQ)
  (Qaq (Qb0 (QaM (Qad gEq (Qab 5) (mC (.int 3)))) (QaL (Qad Qay (mSl (Qab 1) moN (moS (mC (.int 5)))) (Qbd (Qaa (Qad gIx (Qa1 (Qaa (mC .non) (Qaa (mC (.str [])) (Qaa (mC (.str [101,118,101,110,32])) (Qaa (mC (.str [99,101,108,108,115,44])) (Qaa (mC (.int 0)) (Qaa (Qbd (Qaa (mC (.str [99,117,116])) Qaf)) Qaf))))))) (Qad QaB (Qad QaS (Qab 0) (mC (.int 8))) (mC (.int 6)))) Qaf)))) QaQ)
  (Qaq (Qb0 (QcJ (QaM (Qad gEq (Qab 5) (mC (.int 4)))) (QaM (Qad gNe (Qab 2) (Qa1 Qaf)))) (QaL (Qad Qay (Qbd (Qaa (Qad gIx (Qad gIx (Qab 2) (Qad QaB (Qad QaS (Qab 0) (mC (.int 8))) (QaX Qdj (Qaa (Qab 2) Qaf)))) (mC (.int 0))) Qaf)) (mSl (Qab 1) (moS (mC (.int 1))) moN))) QaQ)
  (Qaq (Qb0 (QcJ (QaM (Qad gEq (Qab 5) (mC (.int 5)))) (QaM (Qad gNe (Qab 2) (Qa1 Qaf)))) (QaL (Qax Qgk (Qaa (Qab 0) (Qaa (Qab 1) (Qaa (Qad gIx (Qab 2) (Qad QaB (Qad QaS (Qab 0) (mC (.int 8))) (QaX Qdj (Qaa (Qab 2) Qaf)))) (Qaa (Qab 3) (Qaa (Qab 4) Qaf))))))) QaQ)
  (QaL (Qax QdT (Qaa (Qad QaS (Qab 0) (mC (.int 8))) (Qaa (Qab 1) (Qaa (Qab 3) (Qaa (Qab 4) Qaf)))))))))))))
def Qex:List D→Qae→Res D:=Qbw 6 Qca
abbrev Qjx (Pr:Program) (w:World) (K:Frag) (mg:Str→Option Value) (base:Heap):Prop:=Can Pr w K mg base "_law_bad" ["_law_cell","_law_room","_law_ahead","_law_high","_law_wide"] 2 (vSp K mg [.s,.s,.s,.s,.s] (rV K) Qex)
theorem Ql7 (Qhw:Def K mg "_law_bad" Qhf)
  (B:Qch mg)
  (QgJ:Qio Pr w K mg base)
  (Qfm:QgY Pr w K mg base) :
  Qjx Pr w K mg base:=by
 refine QcR (k:=1) (b:=Qca) Qhw Qis (fun _ _ _ _ _ _=>QaN fun _=>QaN fun _=>QaN fun _=>QaN fun _=>QaN fun _=>Qcf rfl) [.s,.s,.s,.s,.s] [.v] QbF (fun _ _ _ _=>Rp.non) (body:=fun f cdv A outer s H E hr P=>?_);refine Qar ?_ ?_;refine QaD (i:=5) Qis.nd rfl (.inl rfl) ?_;refine Qaw ?_;refine Qaj QaP (Qai 0) (Qac Qag);refine Qar ?_ ?_;refine Qcc ?_ ?_ Qbu;refine QbM (QcL hr) (Qac (Qah 5)) (Qac Qag) (Qa9 _);refine QaC ?_;refine QaK ?_;refine QaI ?_ ?_;refine Qal ?_;refine Qa7 5 ?_;refine Qap QcA ?_;refine Qap ?_ ?_;refine Qaw ?_;refine QgP (ms:=[.s]) (hv:=Qe7) QhA B.list_ ?_;refine Qat (Qai 1) Qak;refine Qap (Qa5 [114,111,111,109]) ?_
 refine Qap Qag ?_;refine Qap (Qbg 0 Qak) Qak;refine Qal ?_;refine Qaj QaP ?_ (Qac Qag);refine Qal ?_;refine Qaj Qba (Qai 0) (Qac Qag);refine Qar ?_ ?_;refine Qcc ?_ ?_ Qbu;refine QbM (QcL hr) (Qac (Qah 5)) (Qac Qag) (Qa9 _);refine QaC ?_;refine QaK ?_;refine QaI ?_ ?_;refine Qal ?_;refine Qa7 2 ?_;refine Qap ?_ ?_;refine Qaw ?_;refine QbT (Qai 1) Qco (Qb2 Qag);refine Qap ?_ Qak;refine Qaw ?_;refine Qaj QaG (Qai 1) ?_;refine Qac ?_;refine Qbg 1 ?_;refine Qap Qag Qak;refine Qal ?_;refine Qaj QaP ?_ (Qac Qag);refine Qal ?_;refine Qaj Qba (Qai 0) (Qac Qag);refine Qar ?_ ?_;refine Qcc ?_ ?_ Qbu;refine QbM (QcL hr) (Qac (Qah 5)) (Qac Qag) (Qa9 _)
 refine QaC ?_;refine QaK ?_;refine Qaw ?_;refine Qaj QaG ?_ ?_;refine Qac ?_;refine Qbg 1 ?_;refine Qap ?_ Qak;refine QaI ?_ ?_;refine Qal ?_;refine Qa7 7 ?_;refine Qap QcA ?_;refine Qap (Qa5 []) ?_;refine Qap (Qa5 [65]) ?_;refine Qap (Qa5 [97,98,99,100,101,102,103,104,105]) ?_;refine Qap (Qa5 [97,32,98]) ?_;refine Qap Qag ?_;refine Qap ?_ Qak;refine Qaw ?_;refine Qa7 1 ?_;refine Qap (Qa5 [97]) Qak;refine Qal ?_;refine Qaj QaP ?_ (Qac Qag);refine Qal ?_;refine Qaj Qba (Qai 0) (Qac Qag);refine Qal ?_;refine QbT (Qai 1) (Qb2 Qag) Qco;refine Qar ?_ ?_;refine Qcc ?_ ?_ Qbu;refine QbM (QcL hr) (Qac (Qah 5)) (Qac Qag) (Qa9 _)
 refine QaC ?_;refine QaK ?_;refine Qaw ?_;refine Qaj QaG ?_ ?_;refine Qal ?_;refine QbT (Qai 1) Qco (Qb2 Qag);refine Qac ?_;refine Qbg 1 ?_;refine Qap ?_ Qak;refine QaI ?_ ?_;refine Qal ?_;refine Qa7 6 ?_;refine Qap QcA ?_;refine Qap (Qa5 []) ?_;refine Qap (Qa5 [101,118,101,110,32]) ?_;refine Qap (Qa5 [99,101,108,108,115,44]) ?_;refine Qap Qag ?_;refine Qap ?_ Qak;refine Qbg 1 ?_;refine Qap (Qa5 [99,117,116]) Qak;refine Qal ?_;refine Qaj QaP ?_ (Qac Qag);refine Qal ?_;refine Qaj Qba (Qai 0) (Qac Qag);refine Qar ?_ ?_;refine Qcc ?_ ?_ Qbu;refine Qgt ?_;refine QgZ ?_ ?_;refine QbM (QcL hr) (Qac (Qah 5)) (Qac Qag) (Qa9 _)
 refine Qf0 ?_;refine QbM (QlT hr) (Qai 2) ?_ (Qa9 _);refine Qal (Qa7 0 Qak);refine QaC ?_;refine QaK ?_;refine Qaw ?_;refine Qaj QaG ?_ ?_;refine Qac ?_;refine Qbg 1 ?_;refine Qap ?_ Qak;refine QaI ?_ (Qac Qag);refine Qac ?_;refine QaI (Qai 2) ?_;refine Qal ?_;refine Qaj QaP ?_ ?_;refine Qal ?_;refine Qaj Qba (Qai 0) (Qac Qag);refine Qal ?_;refine Qcg (ms:=[.s]) (hv:=Qga) Qf7 B.len_ ?_;refine Qat (Qai 2) Qak;refine Qal ?_;refine QbT (Qai 1) (Qb2 Qag) Qco;refine Qar ?_ ?_;refine Qcc ?_ ?_ Qbu;refine Qgt ?_;refine QgZ ?_ ?_;refine QbM (QcL hr) (Qac (Qah 5)) (Qac Qag) (Qa9 _);refine Qf0 ?_;refine QbM (QlT hr) (Qai 2) ?_ (Qa9 _)
 refine Qal (Qa7 0 Qak);refine QaC ?_;refine QaK ?_;refine QaJ QgJ (hr.mono (by decide)) ?_;refine Qat (Qai 0) ?_;refine Qat (Qai 1) ?_;refine Qat ?_ ?_;refine Qac ?_;refine QaI (Qai 2) ?_;refine Qal ?_;refine Qaj QaP ?_ ?_;refine Qal ?_;refine Qaj Qba (Qai 0) (Qac Qag);refine Qal ?_;refine Qcg (ms:=[.s]) (hv:=Qga) Qf7 B.len_ ?_;refine Qat (Qai 2) Qak;refine Qat (Qai 3) ?_;refine Qat (Qai 4) Qak;refine QaC ?_;refine QaK ?_;refine QaJ Qfm (hr.mono (by decide)) ?_;refine Qat ?_ ?_;refine Qal ?_;refine Qaj Qba (Qai 0) (Qac Qag);refine Qat (Qai 1) ?_;refine Qat (Qai 3) ?_;refine Qat (Qai 4) Qak
abbrev QeI:Stmt:=top 45
theorem Qcn:QaO ["_law_high","_law_wide","_law_rooms","_law_due","_law_found","e","_law_good_here"] ["_law_high","_law_wide","_law_rooms","_law_due"] (Qao QeI):=by trivial
def Qcw:MS :=
  (Qaq (Qas 4 (mC .non))
  (Qaq (Qg7 (Qhm "Plan" Qa2 (Qaa (Qab 0) (Qaa (Qab 1) (Qaa (Qab 2) Qaf)))) ((["NoSize"],["NoRoom"],5,(Qas 4 (Qbd (Qaa (mC (.str [115,105,122,101])) (Qaa (mC (.int 0)) (Qaa (Qbi (Qc6 (Qcl [("NoSize",false),("NoRoom",true)] (Qab 5))) (Qcl [("NoSize",true),("NoRoom",true)] (Qab 5))) Qaf))))))::((["NoRoom"],["NoSize"],5,(Qaq (Qas 6 (Qbi (Qcl [("NoSize",true),("NoRoom",true)] (Qab 5)) (Qbi (Qcl [("NoSize",true),("NoRoom",true)] (Qab 5)) (Qc6 (QdD "bool" (Qeg "at" ["NoRoom"] (Qab 5)))))))
  (Qas 4 (Qbd (Qaa (mC (.str [114,111,111,109])) (Qaa (Qeg "at" ["NoRoom"] (Qab 5)) (Qaa (Qbi (Qab 6) (Qc6 (Qcl [("NoSize",false),("NoRoom",false)] (Qab 5)))) Qaf))))))) :: [])))
  (QaL (Qad gEq (Qab 4) (Qab 3)))))
def Qbm:List D→Qae→Res D:=Qbw 7 Qcw
abbrev QeE (Pr:Program) (w:World) (K:Frag) (mg:Str→Option Value) (base:Heap):Prop:=Can Pr w K mg base "_law_refused" ["_law_high","_law_wide","_law_rooms","_law_due"] 6 (vSp K mg [.s,.s,.s,.s] (rV K) Qbm)
theorem Qjf (QeR:Def K mg "_law_refused" QeI)
  (B:Qch mg)
  (EX_NoSize_NoSize:EXM K mg "NoSize" "NoSize" true)
  (EX_NoSize_NoRoom:EXM K mg "NoSize" "NoRoom" false)
  (EX_NoRoom_NoSize:EXM K mg "NoRoom" "NoSize" false)
  (EX_NoRoom_NoRoom:EXM K mg "NoRoom" "NoRoom" true)
  (IS_OutError_NoSize:ISN K mg "OutError" "NoSize" true)
  (IS_OutError_NoRoom:ISN K mg "OutError" "NoRoom" true)
  (VN:mg "ValueError" = none)
  (IV_NoSize:ISV K mg "NoSize")
  (IV_NoRoom:ISV K mg "NoRoom")
  (XA_at_NoRoom:XFC K mg "at" "NoRoom")
  (IS_NoRoom_NoSize:ISN K mg "NoRoom" "NoSize" false)
  (IS_NoRoom_NoRoom:ISN K mg "NoRoom" "NoRoom" true)
  (IT_NoCellNoHandNoNameTwice_NoSize:Qia K mg ["NoCell","NoHand","NoName","Twice"] "NoSize" false)
  (IT_NoCellNoHandNoNameTwice_NoRoom:Qia K mg ["NoCell","NoHand","NoName","Twice"] "NoRoom" false)
  (Qcd:Qfv Pr w K mg base) :
  QeE Pr w K mg base:=by
 refine QcR (k:=5) (b:=Qcw) QeR Qcn (fun _ _ _ _ _ _=>QaN fun _=>QaN fun _=>QaN fun _=>QaN fun _=>Qcf rfl) [.s,.s,.s,.s] [.v,.v,.v] QbF (fun _ _ _ _=>Rp.non) (body:=fun f cdv A outer s H E hr P=>?_);refine Qar (QaD (i:=4) Qcn.nd rfl (.inl rfl) QcA) ?_;refine Qar ?_ ?_
 refine QpY (Qo0 Qcd (hr.mono (by decide)) (fun E=>(Qat (Qai 0) (Qat (Qai 1) (Qat (Qai 2) Qak))))) (Qln (ys:=["NoSize"]) (ns:=["NoRoom"]) (i:=5) (Qe8 EX_NoSize_NoSize QfY) (Qe8 EX_NoSize_NoRoom QfY) (fun ea=>(QaC (QaD (i:=4) Qcn.nd rfl (.inl rfl) (Qbg 3 (Qap (Qa5 [115,105,122,101]) (Qap Qag (Qap (Qck (Qiz (Qkp (tb:=[("NoSize",false),("NoRoom",true)]) B.isinstance_ IS_NoRoom_NoSize.nm (Qah 5) (Qc0 IS_NoRoom_NoSize (Qc0 IS_NoRoom_NoRoom Qha)))) (QcX (Qkp (tb:=[("NoSize",true),("NoRoom",true)]) B.isinstance_ IS_OutError_NoSize.nm (Qah 5) (Qc0 IS_OutError_NoSize (Qc0 IS_OutError_NoRoom Qha))))) Qak))))))) (Qln (ys:=["NoRoom"]) (ns:=["NoSize"]) (i:=5) (Qe8 EX_NoRoom_NoRoom QfY) (Qe8 EX_NoRoom_NoSize QfY) (fun ea=>(Qar (QaD (i:=6) Qcn.nd rfl (.inl rfl) (Qck (Qkp (tb:=[("NoSize",true),("NoRoom",true)]) B.isinstance_ IS_OutError_NoSize.nm (Qah 5) (Qc0 IS_OutError_NoSize (Qc0 IS_OutError_NoRoom Qha))) (Qck (QrY (tb:=[("NoSize",true),("NoRoom",true)]) B.isinstance_ VN (Qah 5) (Qc0 (ISV.tb IV_NoSize) (Qc0 (ISV.tb IV_NoRoom) Qha))) (QcX (Qiz (Qaw (Qfc "bool" (hb:=Qlf) B.isinstance_ B.bool_ (Qac (Qlq (L:=["NoRoom"]) (Qah 5) (Qe8 XA_at_NoRoom QfY))))))))))
   (QaC (QaD (i:=4) Qcn.nd rfl (.inl rfl) (Qbg 3 (Qap (Qa5 [114,111,111,109]) (Qap (Qlq (L:=["NoRoom"]) (Qah 5) (Qe8 XA_at_NoRoom QfY)) (Qap (Qck (Qah 6) (QcX (Qiz (Qs9 (ns:=["NoCell","NoHand","NoName","Twice"]) (tb:=[("NoSize",false),("NoRoom",false)]) B.isinstance_ IT_NoCellNoHandNoNameTwice_NoSize.nm (Qgv (Qgv (Qgv (Qgv Qqd)))) (Qah 5) (Qc0 IT_NoCellNoHandNoNameTwice_NoSize (Qc0 IT_NoCellNoHandNoNameTwice_NoRoom Qha)))))) Qak)))))))) Qr9)) Qcn.nd
 refine QaC ?_;refine QaK ?_;refine Qaw ?_;refine Qda (QcL hr) (Qac (Qah 4)) (Qai 3) (Qa9 _)
abbrev Qeq:Stmt:=top 46
theorem QkE:QaO ["_law_high","_law_wide","_law_rooms"] ["_law_high","_law_wide","_law_rooms"] (Qao Qeq):=by trivial
def Qeu:MS :=
  (QaL (Qad gEq (Qhz "Plan" "room_names" QcK (Qgj "Plan" Qa2 (Qaa (Qab 0) (Qaa (Qab 1) (Qaa (QaX Qen (Qaa (Qab 2) Qaf)) Qaf)))) Qaf) (Qcz (Qb8 (Qab 2)) 1 [] (mgN 0) QbZ (Qad gIx (Qab 0) (mC (.int 0))))))
def QcY:List D→Qae→Res D:=Qbw 3 Qeu
abbrev QfK (Pr:Program) (w:World) (K:Frag) (mg:Str→Option Value) (base:Heap):Prop:=Can Pr w K mg base "_law_taken" ["_law_high","_law_wide","_law_rooms"] 6 (vSp K mg [.s,.s,.s] (rV K) QcY)
theorem Qj6 (QfB:Def K mg "_law_taken" Qeq)
  (B:Qch mg)
  (Qdl:QeT Pr w K mg base)
  (Qcd:QoG Pr w K mg base "Plan" ["self","high","wide","rooms"] 4 (vSp K mg [.v,.s,.s,.s] (rV K) Qa2)) :
  QfK Pr w K mg base:=by
 refine QcR (k:=5) (b:=Qeu) QfB QkE (fun _ _ _ _ _ _=>QaN fun _=>QaN fun _=>QaN fun _=>Qcf rfl) [.s,.s,.s] [] QbF (fun _ _ _ _=>Rp.non) (body:=fun f cdv A outer s H E hr P=>?_);refine QaC ?_;refine QaK ?_;refine Qaw ?_;refine Qda (QcL hr) ?_ ?_ (Qa9 _);refine Qal ?_;refine QoC Qdl (hr.mono (by decide)) ?_;refine Qrf Qcd (hr.mono (by decide)) ?_;refine Qat (Qai 0) ?_;refine Qat (Qai 1) ?_;refine Qat ?_ Qak;refine Qal ?_;refine QgP (ms:=[.s]) (hv:=Qe7) QhA B.list_ ?_;refine Qat (Qai 2) Qak;refine Qal ?_;refine Qe5 (Qao Qeq) ["_law_high","_law_wide","_law_rooms"] ["_law_room"] [] rfl (Qgi (Qai 2)) (fun _ _ _ _ P=>?_) (fun _ _ _ _ P=>?_) (fun _ _ _ _ P=>?_)
 exact Qbf (i:=0) (show (Qbk ["_law_high","_law_wide","_law_rooms"] ["_law_room"] []).Nodup by decide +kernel) rfl (.inl rfl)
 exact Qe6
 refine QaI (Qac (Qah 0)) (Qac Qag)
abbrev Qee:Stmt:=top 47
theorem QbS:QaO ["_law_high","_law_wide","_law_room","_law_name","_law_top","_law_left","_law_tall","_law_broad","_law_way","_law_some"] ["_law_high","_law_wide","_law_room"] (Qao Qee):=by trivial
def Qer:MS :=
  (Qaq (QgG (mG (Qab 2)) (Qh7 6 (QbJ (mgN 3) (QbJ (mgN 4) (QbJ (mgN 5) (QbJ (mgN 6) (QbJ (mgN 7) (QbJ (mgN 8) Qf6))))))))
  (Qaq (Qas 9 (Qa1 (Qaa (Qbd (Qaa (Qad Qbj (Qab 0) (Qab 6)) (Qaa (Qab 5) (Qaa (Qab 6) (Qaa (Qab 7) Qaf))))) (Qaa (Qbd (Qaa (Qab 4) (Qaa (Qad Qbj (Qab 1) (Qab 7)) (Qaa (Qab 6) (Qaa (Qab 7) Qaf))))) Qaf))))
  (Qaq (Qas 9 (Qad Qay (Qab 9) (Qa1 (Qaa (Qbd (Qaa (Qab 4) (Qaa (Qab 5) (Qaa (Qad Qbj (Qab 0) (Qab 4)) (Qaa (Qab 7) Qaf))))) (Qaa (Qbd (Qaa (Qab 4) (Qaa (Qab 5) (Qaa (Qab 6) (Qaa (Qad Qbj (Qab 1) (Qab 5)) Qaf))))) (Qaa (Qbd (Qaa (mC (.int 0)) (Qaa (mC (.int 0)) (Qaa (mG (Qab 0)) (Qaa (mG (Qab 1)) Qaf))))) Qaf))))))
  (QaL (QaX Qhe (Qaa (Qcz (Qb8 (Qab 9)) 1 [0,1,3,8] (mgN 0) QbZ (Qax QcY (Qaa (Qab 1) (Qaa (Qab 2) (Qaa (Qa1 (Qaa (Qad Qay (Qad Qay (Qbd (Qaa (Qab 3) Qaf)) (Qab 0)) (Qbd (Qaa (Qab 4) Qaf))) Qaf)) Qaf))))) Qaf))))))
def Qec:List D→Qae→Res D:=Qbw 10 Qer
abbrev QhT (Pr:Program) (w:World) (K:Frag) (mg:Str→Option Value) (base:Heap):Prop:=Can Pr w K mg base "_law_edges" ["_law_high","_law_wide","_law_room"] 7 (vSp K mg [.s,.s,.s] (rV K) Qec)
theorem QkB (QfH:Def K mg "_law_edges" Qee)
  (B:Qch mg)
  (QcG:QfK Pr w K mg base) :
  QhT Pr w K mg base:=by
 refine QcR (k:=6) (b:=Qer) QfH QbS (fun _ _ _ _ _ _=>QaN fun _=>QaN fun _=>QaN fun _=>Qcf rfl) [.s,.s,.s] [.v,.v,.v,.v,.v,.v,.v] QbF (fun _ _ _ _=>Rp.non) (body:=fun f cdv A outer s H E hr P=>?_);refine Qar ?_ ?_;refine QnA (Qej (Qai 2)) ?_;refine QkT 6 rfl ?_;refine Qcr (Qbf (i:=3) QbS.nd rfl (.inr rfl)) ?_;refine Qcr (Qbf (i:=4) QbS.nd rfl (.inl rfl)) ?_;refine Qcr (Qbf (i:=5) QbS.nd rfl (.inl rfl)) ?_;refine Qcr (Qbf (i:=6) QbS.nd rfl (.inl rfl)) ?_;refine Qcr (Qbf (i:=7) QbS.nd rfl (.inl rfl)) ?_;refine Qcr (Qbf (i:=8) QbS.nd rfl (.inr rfl)) Qjg;refine Qar ?_ ?_;refine QaD (i:=9) QbS.nd rfl (.inl rfl) ?_
 refine Qaw ?_;refine Qa7 2 ?_;refine Qap ?_ ?_;refine Qbg 4 ?_;refine Qap ?_ ?_;refine Qaw ?_;refine Qaj Qcs (Qai 0) (Qac (Qah 6));refine Qap (Qah 5) ?_;refine Qap (Qah 6) ?_;refine Qap (Qah 7) Qak;refine Qap ?_ Qak;refine Qbg 4 ?_;refine Qap (Qah 4) ?_;refine Qap ?_ ?_;refine Qaw ?_;refine Qaj Qcs (Qai 1) (Qac (Qah 7));refine Qap (Qah 6) ?_;refine Qap (Qah 7) Qak;refine Qar ?_ ?_;refine QaD (i:=9) QbS.nd rfl (.inl rfl) ?_;refine Qaw ?_;refine Qaj QaG (Qac (Qah 9)) ?_;refine Qal ?_;refine Qa7 3 ?_;refine Qap ?_ ?_;refine Qbg 4 ?_;refine Qap (Qah 4) ?_;refine Qap (Qah 5) ?_;refine Qap ?_ ?_;refine Qaw ?_
 refine Qaj Qcs (Qai 0) (Qac (Qah 4));refine Qap (Qah 7) Qak;refine Qap ?_ ?_;refine Qbg 4 ?_;refine Qap (Qah 4) ?_;refine Qap (Qah 5) ?_;refine Qap (Qah 6) ?_;refine Qap ?_ Qak;refine Qaw ?_;refine Qaj Qcs (Qai 1) (Qac (Qah 5));refine Qap ?_ Qak;refine Qbg 4 ?_;refine Qap Qag ?_;refine Qap Qag ?_;refine Qap (Qej (Qai 0)) ?_;refine Qap (Qej (Qai 1)) Qak;refine QaC ?_;refine QaK ?_;refine Qaw ?_;refine Qcg (ms:=[.s]) (hv:=Qj5) (Qkh rfl) B.all_ ?_;refine Qat ?_ Qak;refine Qal ?_;refine Qe5 (Qao Qee) ["_law_high","_law_wide","_law_room","_law_name","_law_top","_law_left","_law_tall","_law_broad","_law_way","_law_some"] ["_law_one"] [0,1,3,8] rfl ?_ (fun _ _ _ _ P=>?_) (fun _ _ _ _ P=>?_) (fun _ _ _ _ P=>?_)
 refine Qgi (Qac (Qah 9));exact Qbf (i:=0) (show (Qbk ["_law_high","_law_wide","_law_room","_law_name","_law_top","_law_left","_law_tall","_law_broad","_law_way","_law_some"] ["_law_one"] [0,1,3,8]).Nodup by decide +kernel) rfl (.inl rfl);exact Qe6;refine QaJ QcG (hr.mono (by decide)) ?_;refine Qat (Qai 1) ?_;refine Qat (Qai 2) ?_;refine Qat ?_ Qak;refine Qal ?_;refine Qa7 1 ?_;refine Qap ?_ Qak;refine Qaw ?_;refine Qaj QaG ?_ ?_;refine Qal ?_;refine Qaj QaG ?_ (Qac (Qah 0));refine Qac ?_;refine Qbg 1 ?_;refine Qap (Qah 3) Qak;refine Qac ?_;refine Qbg 1 ?_;refine Qap (Qah 4) Qak
abbrev QfL:Stmt:=top 48
theorem QdP:QaO ["_law_script","_law_high","_law_wide","_law_rooms","_law_cell","_law_some","_law_bad_here"] ["_law_script","_law_high","_law_wide","_law_rooms"] (Qao QfL):=by trivial
def Qc2:MS :=
  (Qaq (Qas 4 (Qax QaZ (Qaa (Qab 0) (Qaa (mC (.int 3)) Qaf))))
  (Qaq (Qas 5 (Qad gIx (Qa1 (Qaa (Qab 3) (Qaa (Qa1 Qaf) (Qaa (mC .non) (Qaa (Qa1 (Qaa (mC .non) Qaf)) Qaf))))) (Qad QaB (Qad QaS (Qab 4) (mC (.int 16))) (mC (.int 4)))))
  (Qaq (Qb0 (QaM (Qad gEq (Qad QaB (Qab 4) (mC (.int 2))) (mC (.int 0)))) (QaL (Qax Qbm (Qaa (Qad gIx (Qa1 (Qaa (mC (.int 0)) (Qaa (mC (.int 13)) (Qaa (mUn Qhk (mC (.int 1))) (Qaa (mC .non) (Qaa (mC (.bl true)) (Qaa (mC (.str [53])) (Qaa (Qad QdA (mC (.int 10)) (mC (.int 30))) (Qaa (Qbd (Qaa (mC (.int 5)) Qaf)) Qaf))))))))) (Qad QaB (Qad QaS (Qab 4) (mC (.int 2))) (mC (.int 8)))) (Qaa (Qab 2) (Qaa (Qab 5) (Qaa (Qbd (Qaa (mC (.str [115,105,122,101])) (Qaa (mC (.int 0)) (Qaa (mC (.bl true)) Qaf)))) Qaf)))))) QaQ)
  (Qaq (Qas 6 (Qad gIx (Qa1 (Qaa (mC (.int 1)) (Qaa (mC (.int 41)) (Qaa (mUn Qhk (mC (.int 2))) (Qaa (mC .non) (Qaa (mC (.bl true)) (Qaa (mC (.str [51,48])) (Qaa (Qad QdA (mC (.int 10)) (mC (.int 30))) (Qaa (Qa1 (Qaa (mC (.int 30)) Qaf)) Qaf))))))))) (Qad QaB (Qad QaS (Qab 4) (mC (.int 2))) (mC (.int 8)))))
  (QaL (Qax Qbm (Qaa (Qab 1) (Qaa (Qab 6) (Qaa (Qab 5) (Qaa (Qbd (Qaa (mC (.str [115,105,122,101])) (Qaa (mC (.int 0)) (Qaa (mC (.bl true)) Qaf)))) Qaf))))))))))
def Qeh:List D→Qae→Res D:=Qbw 7 Qc2
abbrev QhV (Pr:Program) (w:World) (K:Frag) (mg:Str→Option Value) (base:Heap):Prop:=Can Pr w K mg base "_law_sizes" ["_law_script","_law_high","_law_wide","_law_rooms"] 7 (vSp K mg [.s,.s,.s,.v] (rV K) Qeh)
theorem Qkj (QfP:Def K mg "_law_sizes" QfL)
  (B:Qch mg)
  (Qbe:Qdv Pr w K mg base)
  (QbG:QeE Pr w K mg base) :
  QhV Pr w K mg base:=by
 refine QcR (k:=6) (b:=Qc2) QfP QdP (fun _ _ _ _ _ _=>QaN fun _=>QaN fun _=>QaN fun _=>QaN fun _=>Qcf rfl) [.s,.s,.s,.v] [.v,.v,.v] QbF (fun _ _ _ _=>Rp.non) (body:=fun f cdv A outer s H E hr P=>?_);refine Qar ?_ ?_;refine QaD (i:=4) QdP.nd rfl (.inl rfl) ?_;refine QaJ Qbe (hr.mono (by decide)) ?_;refine Qat (Qai 0) ?_;refine Qat (Qac Qag) Qak;refine Qar ?_ ?_;refine QaD (i:=5) QdP.nd rfl (.inl rfl) ?_;refine QaI ?_ ?_;refine Qal ?_;refine Qa7 4 ?_;refine Qap (Qah 3) ?_;refine Qap ?_ ?_;refine Qaw (Qa7 0 Qak);refine Qap QcA ?_;refine Qap ?_ Qak;refine Qaw ?_;refine Qa7 1 ?_;refine Qap QcA Qak;refine Qal ?_
 refine Qaj QaP ?_ (Qac Qag);refine Qal ?_;refine Qaj Qba (Qac (Qah 4)) (Qac Qag);refine Qar ?_ ?_;refine Qcc ?_ ?_ Qbu;refine QbM (QcL hr) ?_ (Qac Qag) (Qa9 _);refine Qal ?_;refine Qaj QaP (Qac (Qah 4)) (Qac Qag);refine QaC ?_;refine QaK ?_;refine QaJ QbG (hr.mono (by decide)) ?_;refine Qat ?_ ?_;refine Qac ?_;refine QaI ?_ ?_;refine Qal ?_;refine Qa7 8 ?_;refine Qap Qag ?_;refine Qap Qag ?_;refine Qap ?_ ?_;refine Qaw ?_;refine Qhc (Qac Qag);refine Qap QcA ?_;refine Qap Qce ?_;refine Qap (Qa5 [53]) ?_;refine Qap ?_ ?_;refine Qaw ?_;refine Qaj Qhq (Qac Qag) (Qac Qag);refine Qap ?_ Qak;refine Qbg 1 ?_
 refine Qap Qag Qak;refine Qal ?_;refine Qaj QaP ?_ (Qac Qag);refine Qal ?_;refine Qaj Qba (Qac (Qah 4)) (Qac Qag);refine Qat (Qai 2) ?_;refine Qat (Qac (Qah 5)) ?_;refine Qat ?_ Qak;refine Qac ?_;refine Qbg 3 ?_;refine Qap (Qa5 [115,105,122,101]) ?_;refine Qap Qag ?_;refine Qap Qce Qak;refine Qar ?_ ?_;refine QaD (i:=6) QdP.nd rfl (.inl rfl) ?_;refine QaI ?_ ?_;refine Qal ?_;refine Qa7 8 ?_;refine Qap Qag ?_;refine Qap Qag ?_;refine Qap ?_ ?_;refine Qaw ?_;refine Qhc (Qac Qag);refine Qap QcA ?_;refine Qap Qce ?_;refine Qap (Qa5 [51,48]) ?_;refine Qap ?_ ?_;refine Qaw ?_;refine Qaj Qhq (Qac Qag) (Qac Qag)
 refine Qap ?_ Qak;refine Qaw ?_;refine Qa7 1 ?_;refine Qap Qag Qak;refine Qal ?_;refine Qaj QaP ?_ (Qac Qag);refine Qal ?_;refine Qaj Qba (Qac (Qah 4)) (Qac Qag);refine QaC ?_;refine QaK ?_;refine QaJ QbG (hr.mono (by decide)) ?_;refine Qat (Qai 1) ?_;refine Qat (Qac (Qah 6)) ?_;refine Qat (Qac (Qah 5)) ?_;refine Qat ?_ Qak;refine Qac ?_;refine Qbg 3 ?_;refine Qap (Qa5 [115,105,122,101]) ?_;refine Qap Qag ?_;refine Qap Qce Qak
abbrev Qel:Stmt:=top 49
theorem QcP:QaO ["_law_script","_law_cell","_law_many","_law_high","_law_wide","_law_rooms","_law_good_here","_law_none","_law_first","_law_at","_law_spoilt","_law_second"] ["_law_script"] (Qao Qel):=by trivial
def QjY:MS :=
  (Qaq (Qas 1 (Qax QaZ (Qaa (Qab 0) (Qaa (mC (.int 2)) Qaf))))
  (Qaq (Qas 2 (Qad Qay (mC (.int 1)) (Qad QaB (Qad QaS (Qab 1) (mC (.int 4))) (mC (.int 6)))))
  (Qaq (QgG (Qax Qgo (Qaa (Qab 0) (Qaa (mC (.int 7)) Qaf))) (Qh7 3 (QbJ (mgN 3) (QbJ (mgN 4) (QbJ (mgN 5) Qf6)))))
  (Qaq (Qas 6 (mSl (Qab 5) moN (moS (Qab 2))))
  (Qaq (Qb0 (Qc3 (Qbs (QbC (Qax QcY (Qaa (Qab 3) (Qaa (Qab 4) (Qaa (Qab 6) Qaf)))))) (Qbs (QbC (Qax Qec (Qaa (Qab 3) (Qaa (Qab 4) (Qaa (Qad gIx (Qab 6) (mUn Qhk (mC (.int 1)))) Qaf))))))) (QaL (mC (.bl false))) QaQ)
  (Qaq (Qb0 (QcJ (QaM (Qad gEq (Qad QaB (Qab 1) (mC (.int 4))) (mC (.int 0)))) (Qbs (QbC (Qax Qeh (Qaa (Qab 0) (Qaa (Qab 3) (Qaa (Qab 4) (Qaa (Qab 6) Qaf)))))))) (QaL (mC (.bl false))) QaQ)
  (Qaq (Qas 7 (Qad gIx (Qa1 (Qaa (mC .non) (Qaa (Qbd Qaf) (Qaa (mC (.str [])) (Qaa (mC (.dic [] [])) (Qaa (Qa1 Qaf) (Qaa (mC (.int 0)) Qaf))))))) (Qad QaB (Qad QaS (Qab 1) (mC (.int 24))) (mC (.int 6)))))
  (Qaq (Qb0 (QcJ (QaM (Qad gEq (Qad QaB (Qab 1) (mC (.int 4))) (mC (.int 1)))) (Qbs (QbC (Qax Qbm (Qaa (Qab 3) (Qaa (Qab 4) (Qaa (Qab 7) (Qaa (Qbd (Qaa (mC (.str [114,111,111,109])) (Qaa (mC (.int 0)) (Qaa (mC (.bl true)) Qaf)))) Qaf)))))))) (QaL (mC (.bl false))) QaQ)
  (Qaq (Qb0 (QcJ (QaM (Qad gEq (Qad QaB (Qab 1) (mC (.int 4))) (mC (.int 2)))) (Qbs (QbC (Qax Qbm (Qaa (Qab 3) (Qaa (Qab 4) (Qaa (QaX Qen (Qaa (Qab 5) Qaf)) (Qaa (Qbd (Qaa (mC (.str [114,111,111,109])) (Qaa (mC (.int 6)) (Qaa (mC (.bl true)) Qaf)))) Qaf)))))))) (QaL (mC (.bl false))) QaQ)
  (Qaq (Qas 8 (Qax QaZ (Qaa (Qab 0) (Qaa (mC (.int 4)) Qaf))))
  (Qaq (Qas 9 (Qad QaB (Qab 8) (Qab 2)))
  (Qaq (Qas 10 (QaX Qen (Qaa (Qab 6) Qaf)))
  (Qaq (Qgd 10 (Qab 9) (Qax Qex (Qaa (Qad QaS (Qab 8) (mC (.int 8))) (Qaa (Qad gIx (Qab 6) (Qab 9)) (Qaa (mSl (Qab 6) moN (moS (Qab 9))) (Qaa (Qab 3) (Qaa (Qab 4) Qaf)))))))
  (Qaq (Qas 11 (Qax QaZ (Qaa (Qab 0) (Qaa (mC (.int 5)) Qaf))))
  (Qaq (Qb0 (QaM (Qad gEq (Qad QaB (Qab 11) (mC (.int 2))) (mC (.int 1)))) (Qas 10 (Qad Qay (Qab 10) (Qa1 (Qaa (Qad gIx (Qa1 (Qaa (mC .non) (Qaa (Qbd Qaf) (Qaa (mC (.int 5)) Qaf)))) (Qad QaB (Qad QaS (Qab 11) (mC (.int 2))) (mC (.int 3)))) Qaf)))) QaQ)
  (Qaq (Qb0 (Qbs (QbC (Qax Qbm (Qaa (Qab 3) (Qaa (Qab 4) (Qaa (Qab 10) (Qaa (Qbd (Qaa (mC (.str [114,111,111,109])) (Qaa (Qab 9) (Qaa (mC (.bl true)) Qaf)))) Qaf))))))) (QaL (mC (.bl false))) QaQ)
  (QaL (Qax QcY (Qaa (Qab 3) (Qaa (Qab 4) (Qaa (Qab 6) Qaf)))))))))))))))))))))
def QpD:List D→Qae→Res D:=Qbw 12 QjY
abbrev Qtj (Pr:Program) (w:World) (K:Frag) (mg:Str→Option Value) (base:Heap):Prop:=Can Pr w K mg base "law" ["_law_script"] 8 (vSp K mg [.s] (rV K) QpD)
theorem Qtg (QmB:Def K mg "law" Qel)
  (B:Qch mg)
  (Qbe:Qdv Pr w K mg base)
  (QgN:Qiq Pr w K mg base)
  (QcG:QfK Pr w K mg base)
  (QfT:QhT Pr w K mg base)
  (QfI:QhV Pr w K mg base)
  (QbG:QeE Pr w K mg base)
  (QgV:Qjx Pr w K mg base) :
  Qtj Pr w K mg base:=by
 refine QcR (k:=7) (b:=QjY) QmB QcP (fun _ _ _ _ _ _=>QaN fun _=>Qcf rfl) [.s] [.v,.v,.v,.v,.v,.v,.v,.v,.v,.o,.v] QbF (fun _ _ _ _=>Rp.non) (body:=fun f cdv A outer s H E hr P=>?_);refine Qar ?_ ?_;refine QaD (i:=1) QcP.nd rfl (.inl rfl) ?_;refine QaJ Qbe (hr.mono (by decide)) ?_;refine Qat (Qai 0) ?_;refine Qat (Qac Qag) Qak;refine Qar ?_ ?_;refine QaD (i:=2) QcP.nd rfl (.inl rfl) ?_;refine Qaw ?_;refine Qaj QaG (Qac Qag) ?_;refine Qal ?_;refine Qaj QaP ?_ (Qac Qag);refine Qal ?_;refine Qaj Qba (Qac (Qah 1)) (Qac Qag);refine Qar ?_ ?_;refine QnA ?_ ?_;refine QaJ QgN (hr.mono (by decide)) ?_;refine Qat (Qai 0) ?_
 refine Qat (Qac Qag) Qak;refine QkT 3 rfl ?_;refine Qcr (Qbf (i:=3) QcP.nd rfl (.inl rfl)) ?_;refine Qcr (Qbf (i:=4) QcP.nd rfl (.inl rfl)) ?_;refine Qcr (Qbf (i:=5) QcP.nd rfl (.inl rfl)) Qjg;refine Qar ?_ ?_;refine QaD (i:=6) QcP.nd rfl (.inl rfl) ?_;refine Qaw ?_;refine QbT (Qac (Qah 5)) Qco (Qb2 (Qah 2));refine Qar ?_ ?_;refine Qcc ?_ ?_ Qbu;refine Qgt ?_;refine QiD ?_ ?_;refine QcD ?_;refine Qcq ?_;refine Qac ?_;refine QaJ QcG (hr.mono (by decide)) ?_;refine Qat (Qac (Qah 3)) ?_;refine Qat (Qac (Qah 4)) ?_;refine Qat (Qac (Qah 6)) Qak;refine QiM ?_;refine QcD ?_;refine Qcq ?_;refine Qac ?_
 refine QaJ QfT (hr.mono (by decide)) ?_;refine Qat (Qac (Qah 3)) ?_;refine Qat (Qac (Qah 4)) ?_;refine Qat ?_ Qak;refine Qac ?_;refine QaI (Qac (Qah 6)) ?_;refine Qal ?_;refine Qhc (Qac Qag);refine QaC (QaK Qce);refine Qar ?_ ?_;refine Qcc ?_ ?_ Qbu;refine Qgt ?_;refine QgZ ?_ ?_;refine QbM (QcL hr) ?_ (Qac Qag) (Qa9 _);refine Qal ?_;refine Qaj QaP (Qac (Qah 1)) (Qac Qag);refine Qf0 ?_;refine QcD ?_;refine Qcq ?_;refine Qac ?_;refine QaJ QfI (hr.mono (by decide)) ?_;refine Qat (Qai 0) ?_;refine Qat (Qac (Qah 3)) ?_;refine Qat (Qac (Qah 4)) ?_;refine Qap (Qah 6) Qak;refine QaC (QaK Qce);refine Qar ?_ ?_
 refine QaD (i:=7) QcP.nd rfl (.inl rfl) ?_;refine QaI ?_ ?_;refine Qal ?_;refine Qa7 6 ?_;refine Qap QcA ?_;refine Qap (Qbg 0 Qak) ?_;refine Qap (Qa5 []) ?_;refine Qap Qrc ?_;refine Qap ?_ ?_;refine Qaw (Qa7 0 Qak);refine Qap Qag Qak;refine Qal ?_;refine Qaj QaP ?_ (Qac Qag);refine Qal ?_;refine Qaj Qba (Qac (Qah 1)) (Qac Qag);refine Qar ?_ ?_;refine Qcc ?_ ?_ Qbu;refine Qgt ?_;refine QgZ ?_ ?_;refine QbM (QcL hr) ?_ (Qac Qag) (Qa9 _);refine Qal ?_;refine Qaj QaP (Qac (Qah 1)) (Qac Qag);refine Qf0 ?_;refine QcD ?_;refine Qcq ?_;refine Qac ?_;refine QaJ QbG (hr.mono (by decide)) ?_;refine Qat (Qac (Qah 3)) ?_
 refine Qat (Qac (Qah 4)) ?_;refine Qat (Qac (Qah 7)) ?_;refine Qat ?_ Qak;refine Qac ?_;refine Qbg 3 ?_;refine Qap (Qa5 [114,111,111,109]) ?_;refine Qap Qag ?_;refine Qap Qce Qak;refine QaC (QaK Qce);refine Qar ?_ ?_;refine Qcc ?_ ?_ Qbu;refine Qgt ?_;refine QgZ ?_ ?_;refine QbM (QcL hr) ?_ (Qac Qag) (Qa9 _);refine Qal ?_;refine Qaj QaP (Qac (Qah 1)) (Qac Qag);refine Qf0 ?_;refine QcD ?_;refine Qcq ?_;refine Qac ?_;refine QaJ QbG (hr.mono (by decide)) ?_;refine Qat (Qac (Qah 3)) ?_;refine Qat (Qac (Qah 4)) ?_;refine Qat ?_ ?_;refine Qal ?_;refine QgP (ms:=[.s]) (hv:=Qe7) QhA B.list_ ?_;refine Qat (Qac (Qah 5)) Qak
 refine Qat ?_ Qak;refine Qac ?_;refine Qbg 3 ?_;refine Qap (Qa5 [114,111,111,109]) ?_;refine Qap Qag ?_;refine Qap Qce Qak;refine QaC (QaK Qce);refine Qar ?_ ?_;refine QaD (i:=8) QcP.nd rfl (.inl rfl) ?_;refine QaJ Qbe (hr.mono (by decide)) ?_;refine Qat (Qai 0) ?_;refine Qat (Qac Qag) Qak;refine Qar ?_ ?_;refine QaD (i:=9) QcP.nd rfl (.inl rfl) ?_;refine Qaw ?_;refine Qaj QaP (Qac (Qah 8)) (Qac (Qah 2));refine Qar ?_ ?_;refine QhK (i:=10) QcP.nd rfl (.inl rfl) ?_;refine QgP (ms:=[.s]) (hv:=Qe7) QhA B.list_ ?_;refine Qat (Qac (Qah 6)) Qak;refine Qar ?_ ?_;refine Qox 10 ?_ (Qah 9);refine QaJ QgV (hr.mono (by decide)) ?_
 refine Qat ?_ ?_;refine Qal ?_;refine Qaj Qba (Qac (Qah 8)) (Qac Qag);refine Qat ?_ ?_;refine Qac ?_;refine QaI (Qac (Qah 6)) (Qac (Qah 9));refine Qat ?_ ?_;refine Qal ?_;refine QbT (Qac (Qah 6)) Qco (Qb2 (Qah 9));refine Qat (Qac (Qah 3)) ?_;refine Qat (Qac (Qah 4)) Qak;refine Qar ?_ ?_;refine QaD (i:=11) QcP.nd rfl (.inl rfl) ?_;refine QaJ Qbe (hr.mono (by decide)) ?_;refine Qat (Qai 0) ?_;refine Qat (Qac Qag) Qak;refine Qar ?_ ?_;refine Qcc ?_ ?_ Qbu;refine QbM (QcL hr) ?_ (Qac Qag) (Qa9 _);refine Qal ?_;refine Qaj QaP (Qac (Qah 11)) (Qac Qag);refine QaC ?_;refine QhK (i:=10) QcP.nd rfl (.inl rfl) ?_
 refine Qaj QaG (Qai 10) ?_;refine Qal ?_;refine Qa7 1 ?_;refine Qap ?_ Qak;refine QaI ?_ ?_;refine Qal ?_;refine Qa7 3 ?_;refine Qap QcA ?_;refine Qap (Qbg 0 Qak) ?_;refine Qap Qag Qak;refine Qal ?_;refine Qaj QaP ?_ (Qac Qag);refine Qal ?_;refine Qaj Qba (Qac (Qah 11)) (Qac Qag);refine Qar ?_ ?_;refine Qcc ?_ ?_ Qbu;refine QcD ?_;refine Qcq ?_;refine Qac ?_;refine QaJ QbG (hr.mono (by decide)) ?_;refine Qat (Qac (Qah 3)) ?_;refine Qat (Qac (Qah 4)) ?_;refine Qat (Qai 10) ?_;refine Qat ?_ Qak;refine Qac ?_;refine Qbg 3 ?_;refine Qap (Qa5 [114,111,111,109]) ?_;refine Qap (Qah 9) ?_;refine Qap Qce Qak
 refine QaC (QaK Qce);refine QaC ?_;refine QaK ?_;refine QaJ QcG (hr.mono (by decide)) ?_;refine Qat (Qac (Qah 3)) ?_;refine Qat (Qac (Qah 4)) ?_;refine Qat (Qac (Qah 6)) Qak
end
theorem QaH {g:D→D→Option D}{a b:L2.M D}{ρ:Qam}{O:Qae}{x y z:D} (ha:a ρ O = .ok x O) (hb:b ρ O = .ok y O) (h:g (QaU O x) (QaU O y)=some z):Qad g a b ρ O = .ok z O:=by
 rw [Qiw,ha,Qav,hb,Qav,h,Qcp]
theorem ma1 {a:L2.M D}{ρ:Qam}{O:Qae}{x:D} (h:a ρ O = .ok x O):Qaa a Qaf ρ O = .ok [x] O:=by
 rw [QhL,h,Qav,Qn0,Qav]
theorem maS {a:L2.M D}{r:L2.M (List D)}{ρ:Qam}{O:Qae}{x:D}{xs:List D} (h:a ρ O = .ok x O) (h2:r ρ O = .ok xs O):Qaa a r ρ O = .ok (x::xs) O:=by
 rw [QhL,h,Qav,h2,Qav]
theorem Qfp {m:L2.M (List D)}{ρ:Qam}{O:Qae}{xs:List D} (h:m ρ O = .ok xs O) (hl:xs.length≤1000000):Qbd m ρ O = .ok (.tup xs) O:=by
 rw [QtY,h,Qav,if_pos hl]
theorem QoT {m:L2.M (List D)}{ρ:Qam}{O:Qae}{xs:List D} (h:m ρ O = .ok xs O) (hl:xs.length≤1000000):Qa1 m ρ O = .ok (.lst xs) O:=by
 rw [Quc,h,Qav,if_pos hl]
theorem Qea {g:List D→Option D}{m:L2.M (List D)}{ρ:Qam}{O:Qae}{xs:List D}{z:D} (h:m ρ O = .ok xs O) (hg:g (xs.map (QaU O))=some z):QaX g m ρ O = .ok z O:=by
 rw [QiV,h,Qav,hg,Qcp]
theorem QmU {i:Nat}{m:L2.M D}{ρ:Qam}{O:Qae}{d:D}{ds:List D} (hm:m ρ O = .ok d O) (h:ρ[i]? = some (some (.lst ds))) (hl:ds.length < 1000000):Qef i m ρ O = .nx (ρ.set i (some (.lst (ds ++ [d])))) O:=by
 rw [Qr7,hm,Qs2 h hl]
theorem QaY {i:Nat}{m:L2.M D}{ρ:Qam}{O:Qae}{d:D} (h:m ρ O = .ok d O):Qas i m ρ O = .nx (ρ.set i (some d)) O:=by
 rw [QsB,h,Qqc]
theorem QaV {c:List D→Qae→Res D}{ma:L2.M (List D)}{ρ:Qam}{O:Qae}{ds:List D} (h:ma ρ O = .ok ds O):Qax c ma ρ O=c ds O:=by
 rw [Qm6,h,Qav]
theorem QfW {m:L2.M D}{ρ:Qam}{O:Qae}{b:Bool} (h:m ρ O = .ok (.bl b) O):QaM m ρ O = .ok b O:=by
 rw [Qsh,h,Qav,Qsv]
theorem QnN {m:L2.M D}{ρ:Qam}{O:Qae}{l:List D} (h:m ρ O = .ok (.lst l) O):QaX Qdj (Qaa m Qaf) ρ O = .ok (.int (l.length:Int)) O:=Qea (ma1 h) rfl
theorem QiO {m:L2.M D}{ρ:Qam}{O:Qae}{n:Nat} (h:m ρ O = .ok (.int (n:Int)) O) (hn:n≤1000000):Qc7 (Qaa m Qaf) ρ O = .ok (QbR 0 n) O:=by
 rw [QsK,ma1 h,Qav];show (if (n:Int)≤1000000000∧-1000000000≤(n:Int) then Res.ok (QbR 0 (n:Int).toNat) O else .no)=_;rw [if_pos ⟨by omega,by omega⟩,Int.toNat_natCast]
theorem Qa3 {a b:L2.M D}{ρ:Qam}{O:Qae}{i j:Int} (ha:a ρ O = .ok (.int i) O) (hb:b ρ O = .ok (.int j) O) (hj:0 < j):Qad QaB a b ρ O = .ok (.int (i % j)) O:=QaH ha hb (by rw [Qbv,Qbv,Qs8,if_pos hj])
theorem QbE {a b:L2.M D}{ρ:Qam}{O:Qae}{i j:Int} (ha:a ρ O = .ok (.int i) O) (hb:b ρ O = .ok (.int j) O):Qad Qay a b ρ O = .ok (.int (i+j)) O:=QaH ha hb rfl
theorem Qit {a b:L2.M D}{ρ:Qam}{O:Qae}{i j:Int} (ha:a ρ O = .ok (.int i) O) (hb:b ρ O = .ok (.int j) O):Qad Qbj a b ρ O = .ok (.int (i - j)) O:=QaH ha hb rfl
theorem Qgn {a b:L2.M D}{ρ:Qam}{O:Qae}{i j:Int} (ha:a ρ O = .ok (.int i) O) (hb:b ρ O = .ok (.int j) O):QaM (Qad gEq a b) ρ O = .ok (decide (i=j)) O:=QfW (QaH ha hb rfl)
theorem Qu9 {a:L2.M D}{r:L2.M (List D)}{ρ:Qam}{O O1 O2:Qae}{x:D}{xs:List D} (h:a ρ O = .ok x O1) (h2:r ρ O1 = .ok xs O2):Qaa a r ρ O = .ok (x::xs) O2:=by
 rw [QhL,h,Qav,h2,Qav]
theorem Qvw {a:L2.M D}{ρ:Qam}{O O1:Qae}{x:D} (h:a ρ O = .ok x O1):Qaa a Qaf ρ O = .ok [x] O1:=Qu9 h rfl
theorem QeW {m:L2.M D}{ρ:Qam}{O O':Qae} (h:m ρ O = .ok (.bl true) O'):Qbs (QbC m) ρ O = .ok false O':=by
 rw [Qge,QhF,h];rfl
theorem QtJ {a b:L2.M Bool}{ρ:Qam}{O O1 O2:Qae} (ha:a ρ O = .ok false O1) (hb:b ρ O1 = .ok false O2):Qc3 a b ρ O = .ok false O2:=by
 rw [Qmt,ha,Qav,if_neg zk,hb]
theorem ifN {t:L2.M Bool}{a:MS}{ρ:Qam}{O O':Qae} (h:t ρ O = .ok false O'):Qb0 t a QaQ ρ O = .nx ρ O':=by
 rw [Ql1,h,Qj2];rfl
theorem ifY {t:L2.M Bool}{a b:MS}{ρ:Qam}{O O':Qae} (h:t ρ O = .ok true O'):Qb0 t a b ρ O=a ρ O':=by
 rw [Ql1,h,Qj2];rfl
theorem Qf2 {c:List D→Qae→Res D}{ma:L2.M (List D)}{ρ:Qam}{O O1:Qae}{ds:List D} (h:ma ρ O = .ok ds O1):Qax c ma ρ O=c ds O1:=by
 rw [Qm6,h,Qav]
theorem QtK {g:D→D→Option D}{a b:L2.M D}{ρ:Qam}{O O1 O2:Qae}{x y z:D} (ha:a ρ O = .ok x O1) (hb:b ρ O1 = .ok y O2) (h:g (QaU O2 x) (QaU O2 y)=some z):Qad g a b ρ O = .ok z O2:=by
 rw [Qiw,ha,Qav,hb,Qav,h,Qcp]
theorem Qoe {a b:L2.M Bool}{ρ:Qam}{O O1:Qae} (ha:a ρ O = .ok true O1) (hb:b ρ O1 = .ok false O1):QcJ a b ρ O = .ok false O1:=by
 rw [Qj7,ha,Qav,if_pos rfl,hb]
theorem and_f {a b:L2.M Bool}{ρ:Qam}{O O1:Qae} (ha:a ρ O = .ok false O1):QcJ a b ρ O = .ok false O1:=by
 rw [Qj7,ha,Qav];rfl
theorem Qgh {a b:L2.M Bool}{ρ:Qam}{O O1 O2:Qae}{x:Bool} (ha:a ρ O = .ok true O1) (hb:b ρ O1 = .ok x O2):QcJ a b ρ O = .ok x O2:=by
 rw [Qj7,ha,Qav,if_pos rfl,hb]
theorem Qf5 {α:Type} (l:List α) (b:Nat):QcF l none (some (b:Int))=l.take b:=by
 unfold QcF;rw [HT.sIx_nat,HT.sIx_none,List.drop_zero,Nat.sub_zero]
 by_cases hb:b≤l.length
 ·rw [Nat.min_eq_left hb]
 ·rw [Nat.min_eq_right (by omega),List.take_of_length_le (by omega),List.take_of_length_le (by omega)]
theorem QrO {α:Type} (l:List α) (a:Nat):QcF l (some (a:Int)) none=l.drop a:=by
 unfold QcF;rw [HT.sIx_nat,HT.sIx_none]
 by_cases h:a≤l.length
 ·rw [Nat.min_eq_left h,List.take_of_length_le (by rw [List.length_drop]; omega)]
 ·rw [Nat.min_eq_right (by omega),List.drop_eq_nil_of_le (by omega),List.drop_eq_nil_of_le (by omega)];simp
theorem Qp7 {pre:List D}{x:D}:gIx (.lst (pre ++ [x])) (.int (-1))=some x:=by
 rw [QjW]
 have q:atI (pre ++ [x]) (-1)=(pre ++ [x])[pre.length]?:=by
  have z:ixN (pre ++ [x]).length (-1)=some pre.length:=by
   unfold ixN;rw [zx,jg,if_neg (by omega),if_pos (by omega)];congr 1;omega
  unfold atI;rw [z];rfl
 rw [q,zw (zc _),Nat.sub_self];rfl
theorem Qep {m:L2.M D}{ρ:Qam}{O:Qae}{i:Int} (h:m ρ O = .ok (.int i) O):moS m ρ O = .ok (some i) O:=by rw [Qve,h,Qav,Qtw]
theorem Qi5 {a b:L2.M D}{ρ:Qam}{O:Qae}{x y:List Nat} (ha:a ρ O = .ok (.str x) O) (hb:b ρ O = .ok (.str y) O) (hl:x.length+y.length≤1000000):Qad Qay a b ρ O = .ok (.str (x++y)) O:=QaH ha hb (by rw [QeB,QeB,QsD,if_pos hl])
theorem ixL {l:List D}{v n:Int} (h:(l.length:Int)=n) (hn:0 < n):∃c,c∈l∧gIx (.lst l) (.int (v % n))=some c:=by
 obtain ⟨c,h1,h2⟩:=QrU (xs:=l) (i:=v % n) (zQ _ (by omega)) (by rw [h]; exact zV _ hn);exact ⟨c,h2,h1⟩
theorem QiI (n k:Int) (h0:0≤k) (h1:k≤1000000) (O:Qae):Qbb [.int n,.int k] O = .ok (.int (mix n k)) O:=Qru n k h0 h1 O
theorem QoF {a b:L2.M (Option Int)}{m:L2.M D}{ρ:Qam}{O:Qae}{t:List D}{x y:Option Int} (hm:m ρ O = .ok (.lst t) O) (ha:a ρ O = .ok x O) (hb:b ρ O = .ok y O):mSl m a b ρ O = .ok (.lst (QcF t x y)) O:=by
 rw [QmM,hm,Qav,ha,Qav,hb,Qav,QdJ,Qqp,Qcp]
theorem Qfg {g:MG}{b:MS}{d:D}{ds:List D}{ρ ρ1 ρ2:Qam}{O O2:Qae} (hg:g d ρ=some ρ1) (hb:b ρ1 O = .nx ρ2 O2):QbA g b (d::ds) ρ O=QbA g b ds ρ2 O2:=by
 rw [QbA,hg];dsimp only;rw [hb]
theorem QfZ (ns:List Int) (k:Nat) (O:Qae):QaZ [.lst (ns.map D.int),.int k] O = .ok (.int (ns.getD k 0)) O:=by
 simp [QaZ,QeS,QjW]
 by_cases h:k < ns.length
 ·simp [h]
 ·simp [h]
theorem apN {O:Qae}{y:Ob}:(O ++ [y])[O.length]? = some y:=by simp
theorem gs' {O:Qae}{o:Nat}{x y:Ob} (e:O[o]? = some x):(O.set o y)[o]? = some y:=by
 obtain ⟨h,_⟩:=zn.mp e;simp [h]
theorem ap1 {O:Qae}{o:Nat}{x y:Ob} (e:O[o]? = some x):(O ++ [y])[o]? = some x:=by
 rw [zu (zn.mp e).1]; exact e
structure Rm where
 n:List Nat
 t:Int
 l:Int
 h:Int
 b:Int
 w:List Nat
def rD (r:Rm):D:=.tup [.str r.n,.int r.t,.int r.l,.int r.h,.int r.b,.str r.w]
structure NOk (n:List Nat):Prop where
 one:1≤n.length
 len:n.length≤8
 ok:∀c∈n,97≤c∧c≤122
def WOk (w:List Nat):Prop:=w = [99,117,116]∨w = [99,101,108,108,115]∨w = [119,111,114,100,115]∨w = [101,118,101,110]
theorem NOk.asc {n:List Nat} (h:NOk n):ascii n=true:=by
 unfold ascii;rw [jh];intro c hc
 have:=h.ok c hc
 exact zh (by omega)
theorem QkD {n:List Nat} (h:NOk n) (O:Qae):QdH [.str n] O = .ok (.bl true) O:=by
 have h1:=h.one;have h2:=h.len
 have ec:Qb1 (mgN 0) QbZ (QdN gLe gLe (mC (.str [97])) (Qab 0) (mC (.str [122]))) (Qcj n) [none] O [] = .ok (n.map fun _=>.bl true) O:=by
  have z:=QdO (g:=mgN 0) (t:=QbZ) (m:=QdN gLe gLe (mC (.str [97])) (Qab 0) (mC (.str [122]))) (fun ρ=>∃a,ρ = [a]) (fun c:Nat=>D.str [c]) (fun _=>.bl true) n [none] O [] ⟨none,rfl⟩ (by
   rintro c hc ρ ⟨a,rfl⟩;have q:=h.ok c hc;refine ⟨_,rfl,⟨_,rfl⟩,rfl,?_⟩
   simp [q])
  rw [zX] at z;exact z
 have eb:∀n:List Nat,Qcy (n.map fun _=>D.bl true)=some (n.map fun _=>true):=fun n=>by
  induction n with
  | nil=>rfl
  | cons c n ih=>simp only [ze,Qcy,ih]; rfl
 have ea:Qhe [.lst (n.map fun _=>.bl true)]=some (.bl true):=by
  show (Qcy (n.map fun _=>D.bl true)).map (fun bs=>D.bl (bs.all id))=_;rw [eb];simp
 show Qbc (Qfz [some (.str n)] O)=_;unfold Qfz;have hz:(n.length:Int)≤8∧(1:Int)≤n.length:=⟨by omega,by omega⟩
 have hm:n.length≤16777216:=by omega
 have hs:(Qcj n).length≤1000000:=by unfold Qcj; rw [zo]; omega
 have hm2:n.length≤1000000:=by omega
 simp only [QiA,Ql1,Qge,QhF,QpJ,QcN,zS,Qav,QeB,QqC,Qpb,Qr3,Qpd,Qrb,QoM,Bool.not_true,Qj2,Bool.false_eq_true,if_false,Qsu,Qli,Qbt,Qc9,QqX,m_c,QiV,QhL,Qn0,Qbv,ze,jc,QrJ,if_pos hm2,Qcp,Qpt,zh hz.1,zh hz.2,Qui,if_true,QfX,Qn5,Qn4 h.asc,Qkv,if_pos hs,show Qd3 1 [] [some (.str n)] = [none] from rfl,ec,QdJ,ea];rfl
theorem QlL {w:List Nat} (h:WOk w) (O:Qae):Qdb [.str w] O = .ok (.bl true) O:=by
 rcases h with rfl | rfl | rfl | rfl <;> rfl
theorem QbW (i:Int) (O:Qae):QaW [.int i] O = .ok (.bl true) O:=by
 simp [QaW,Qe0]
def QcC (t l h b:Int):Bool:=decide (0≤t)&&(decide (0≤l)&&(decide (1≤h)&&decide (2≤b)))
theorem QuK (b1 b2 b3 b4:Bool):Qhe [.lst [.bl b1,.bl b2,.bl b3,.bl b4]]=some (.bl (b1&&(b2&&(b3&&b4)))):=by
 cases b1 <;> cases b2 <;> cases b3 <;> cases b4 <;> rfl
def six (n t l h b w:D):D:=.tup [n,t,l,h,b,w]
theorem Qjq {x1 x2 x3 x4 n w:D}{b1 b2 b3 b4:Bool}{O:Qae} (h1:QaW [x1] O = .ok (.bl b1) O) (h2:QaW [x2] O = .ok (.bl b2) O) (h3:QaW [x3] O = .ok (.bl b3) O) (h4:QaW [x4] O = .ok (.bl b4) O) (o1:Option D) :
  QbC (QaX Qhe (Qaa (Qcz (Qb8 (mSl (Qab 0) (moS (mC (.int 1))) (moS (mC (.int 5))))) 1 [] (mgN 0) QbZ (Qax QaW (Qaa (Qab 0) Qaf))) Qaf)) [some (six n x1 x2 x3 x4 w),o1] O = .ok (b1&&(b2&&(b3&&b4))) O:=by
 have ei:Qb8 (mSl (Qab 0) (moS (mC (.int 1))) (moS (mC (.int 5)))) [some (six n x1 x2 x3 x4 w),o1] O = .ok [x1,x2,x3,x4] O:=rfl
 have q:∀(d:D) (b:Bool),QaW [d] O = .ok (.bl b) O→∀(ds:List D) (o:Option D) (acc:List D),Qb1 (mgN 0) QbZ (Qax QaW (Qaa (Qab 0) Qaf)) (d::ds) [o] O acc=Qb1 (mgN 0) QbZ (Qax QaW (Qaa (Qab 0) Qaf)) ds [some d] O (acc ++ [.bl b]):=fun d b hb ds o acc=>by
  conv=>lhs; unfold Qb1
  show (match Qax QaW (Qaa (Qab 0) Qaf) [some d] O with
   | .ok y O2=>Qb1 (mgN 0) QbZ (Qax QaW (Qaa (Qab 0) Qaf)) ds [some d] O2 (acc ++ [y])
   | .ex x O'=>.ex x O'
   | .no=>.no)=_
  rw [QaV (ds:=[d]) rfl,hb]
 have ec:Qcz (Qb8 (mSl (Qab 0) (moS (mC (.int 1))) (moS (mC (.int 5))))) 1 [] (mgN 0) QbZ (Qax QaW (Qaa (Qab 0) Qaf)) [some (six n x1 x2 x3 x4 w),o1] O = .ok (.lst [.bl b1,.bl b2,.bl b3,.bl b4]) O:=by
  rw [QfX,ei,Qav,if_pos (show [x1,x2,x3,x4].length≤1000000 from (show (4:Nat)≤1000000 by decide)),show Qd3 1 [] [some (six n x1 x2 x3 x4 w),o1] = [none] from rfl,q _ _ h1,q _ _ h2,q _ _ h3,q _ _ h4];rfl
 rw [QhF,Qea (ma1 ec) (QuK b1 b2 b3 b4),Qav];rfl
theorem Qso (n t l h b w:D) (o1:Option D) (O:Qae):Qc3 (Qbs (QbC (QdD "tuple" (Qab 0)))) (QaM (Qad gNe (QaX Qdj (Qaa (Qab 0) Qaf)) (mC (.int 6)))) [some (six n t l h b w),o1] O = .ok false O:=rfl
theorem Qfw {x1 x2 x3 x4 n w:D}{b1 b2 b3 b4:Bool}{O:Qae} (h1:QaW [x1] O = .ok (.bl b1) O) (h2:QaW [x2] O = .ok (.bl b2) O) (h3:QaW [x3] O = .ok (.bl b3) O) (h4:QaW [x4] O = .ok (.bl b4) O) (hb:(b1&&(b2&&(b3&&b4)))=false):QbK [six n x1 x2 x3 x4 w] O = .ok (.bl false) O:=by
 have e:=Qjq (n:=n) (w:=w) h1 h2 h3 h4 none;rw [hb] at e;show Qbc (QdG [some (six n x1 x2 x3 x4 w),none] O)=_;unfold QdG;rw [Qau (ifN (Qso ..)),Qek ((ifY (by rw [Qge,e]; rfl)).trans rfl)];rfl
theorem QgO {t l h b:Int}{n w:D}{bn bw:Bool}{O:Qae} (hn:QdH [n] O = .ok (.bl bn) O) (hw:Qdb [w] O = .ok (.bl bw) O):QbK [six n (.int t) (.int l) (.int h) (.int b) w] O = .ok (.bl (bn&&(QcC t l h b&&bw))) O:=by
 have e:=Qjq (n:=n) (w:=w) (QbW t O) (QbW l O) (QbW h O) (QbW b O) none
 have el:Qbi (Qad gGe (Qad gIx (Qab 0) (mC (.int 1))) (mC (.int 0))) (Qbi (Qad gGe (Qad gIx (Qab 0) (mC (.int 2))) (mC (.int 0))) (Qbi (Qad gGe (Qad gIx (Qab 0) (mC (.int 3))) (mC (.int 1))) (Qad gGe (Qad gIx (Qab 0) (mC (.int 4))) (mC (.int 2))))) [some (six n (.int t) (.int l) (.int h) (.int b) w),none] O = .ok (.bl (QcC t l h b)) O:=by
  have i1:gIx (six n (.int t) (.int l) (.int h) (.int b) w) (.int 1)=some (.int t):=rfl;have i2:gIx (six n (.int t) (.int l) (.int h) (.int b) w) (.int 2)=some (.int l):=rfl;have i3:gIx (six n (.int t) (.int l) (.int h) (.int b) w) (.int 3)=some (.int h):=rfl;have i4:gIx (six n (.int t) (.int l) (.int h) (.int b) w) (.int 4)=some (.int b):=rfl
  have ds:∀O:Qae,QaU O (six n (.int t) (.int l) (.int h) (.int b) w)=six n (.int t) (.int l) (.int h) (.int b) w:=fun _=>rfl
  simp only [Qc9,Qiw,QcN,m_c,zS,Qav,ds,Qbv,i1,i2,i3,i4,Qcp,QpL,QcC]
  cases decide (0≤t) <;> cases decide (0≤l) <;> cases decide (1≤h) <;> cases decide (2≤b) <;> rfl
 have er:Qbi (Qax QdH (Qaa (Qad gIx (Qab 0) (mC (.int 0))) Qaf)) (Qbi (Qab 1) (Qax Qdb (Qaa (Qad gIx (Qab 0) (mC (.int 5))) Qaf))) [some (six n (.int t) (.int l) (.int h) (.int b) w),some (.bl (QcC t l h b))] O = .ok (.bl (bn&&(QcC t l h b&&bw))) O:=by
  have j0:Qad gIx (Qab 0) (mC (.int 0)) [some (six n (.int t) (.int l) (.int h) (.int b) w),some (.bl (QcC t l h b))] O = .ok n O:=rfl
  have j5:∀o:Option D,Qad gIx (Qab 0) (mC (.int 5)) [some (six n (.int t) (.int l) (.int h) (.int b) w),o] O = .ok w O:=fun _=>rfl
  rw [Qc9,QaV (ma1 j0),hn,Qav];cases bn
  ·rfl
  ·rw [Bool.true_and];show (Qbi (Qab 1) (Qax Qdb (Qaa (Qad gIx (Qab 0) (mC (.int 5))) Qaf))) [some (six n (.int t) (.int l) (.int h) (.int b) w),some (.bl (QcC t l h b))] O=_;rw [Qc9,QcN];show (Res.ok (D.bl (QcC t l h b)) O).bind _=_;rw [Qav];cases QcC t l h b
   ·rfl
   ·show (Qax Qdb (Qaa (Qad gIx (Qab 0) (mC (.int 5))) Qaf)) _ O=_;rw [QaV (ma1 (j5 _)),hw];rfl
 show Qbc (QdG [some (six n (.int t) (.int l) (.int h) (.int b) w),none] O)=_;unfold QdG;rw [Qau (ifN (Qso ..)),Qau (ifN (by rw [Qge,e]; rfl)),Qau (show Qas 1 _ [some (six n (.int t) (.int l) (.int h) (.int b) w),none] O = .nx [some (six n (.int t) (.int l) (.int h) (.int b) w),some (.bl (QcC t l h b))] O from QaY el),Qbt,er,QbN];rfl
def Lies (t l h b hi wi:Int):Bool:=decide (t+h≤hi)&&decide (l+b≤wi)
theorem QnP (n w:D) (t l h b hi wi:Int) (O:Qae):Qby [six n (.int t) (.int l) (.int h) (.int b) w,.int hi,.int wi] O = .ok (.bl (Lies t l h b hi wi)) O:=by
 have i1:gIx (six n (.int t) (.int l) (.int h) (.int b) w) (.int 1)=some (.int t):=rfl;have i2:gIx (six n (.int t) (.int l) (.int h) (.int b) w) (.int 2)=some (.int l):=rfl;have i3:gIx (six n (.int t) (.int l) (.int h) (.int b) w) (.int 3)=some (.int h):=rfl;have i4:gIx (six n (.int t) (.int l) (.int h) (.int b) w) (.int 4)=some (.int b):=rfl
 have ds:∀O:Qae,QaU O (six n (.int t) (.int l) (.int h) (.int b) w)=six n (.int t) (.int l) (.int h) (.int b) w:=fun _=>rfl
 show Qbc (Qdt [_,_,_] O)=_;unfold Qdt;simp only [Qbt,Qc9,Qiw,QcN,m_c,zS,je,Qav,ds,Qbv,i1,i2,i3,i4,Qcp,QnX,Qpt,Lies]
 cases decide (t+h≤hi) <;> cases decide (l+b≤wi) <;> rfl
def Ov (s l s' l':Int):Bool:=decide (s < s'+l')&&decide (s' < s+l)
theorem QrS (s l s' l':Int) (O:Qae):QdE [.int s,.int l,.int s',.int l'] O = .ok (.bl (Ov s l s' l')) O:=by
 show Qbc (Qfu [_,_,_,_] O)=_;unfold Qfu;simp only [Qbt,Qc9,Qiw,QcN,m_c,zS,je,Qav,Qbv,Qcp,QnX,Qto,Ov]
 cases decide (s < s'+l') <;> cases decide (s' < s+l) <;> rfl
def Qct (x y:Rm):Bool:=decide (x.n=y.n) || (Ov x.t x.h y.t y.h&&Ov x.l x.b y.l y.b)
theorem QsY (x y:Rm) (O:Qae):QbH [rD x,rD y] O = .ok (.bl (Qct x y)) O:=by
 have e0:QaM (Qad gEq (Qad gIx (Qab 0) (mC (.int 0))) (Qad gIx (Qab 1) (mC (.int 0)))) [some (rD x),some (rD y),none] O = .ok (decide (x.n=y.n)) O:=QfW (QaH (x:=.str x.n) (y:=.str y.n) rfl rfl rfl);show Qbc (QcU [some (rD x),some (rD y),none] O)=_;unfold QcU Qct;cases hd:decide (x.n=y.n)
 ·rw [hd] at e0;rw [Qau (ifN e0),Qau (show Qas 2 _ [some (rD x),some (rD y),none] O = .nx [some (rD x),some (rD y),some (.bl (Ov x.t x.h y.t y.h))] O from QaY ((QaV (ds:=[.int x.t,.int x.h,.int y.t,.int y.h]) rfl).trans (QrS ..)))]
  have e2:∀o:Option D,Qax QdE (Qaa (Qad gIx (Qab 0) (mC (.int 2))) (Qaa (Qad gIx (Qab 0) (mC (.int 4))) (Qaa (Qad gIx (Qab 1) (mC (.int 2))) (Qaa (Qad gIx (Qab 1) (mC (.int 4))) Qaf)))) [some (rD x),some (rD y),o] O = .ok (.bl (Ov x.l x.b y.l y.b)) O:=fun _=>(QaV (ds:=[.int x.l,.int x.b,.int y.l,.int y.b]) rfl).trans (QrS ..)
  rw [Qbt,Qc9,QcN];show Qbc (Qh2 ((Res.ok (D.bl (Ov x.t x.h y.t y.h)) O).bind _))=_;rw [Qav];cases Ov x.t x.h y.t y.h
  ·rfl
  ·show Qbc (Qh2 (Qax QdE _ _ O))=_;rw [e2]
   cases Ov x.l x.b y.l y.b <;> rfl
 ·rw [hd] at e0;rw [Qek ((ifY e0).trans rfl)];rfl
def bCk:MS:=(Qaq (Qc5 (Qc3 (QaM (Qad gGe (Qab 3) (mC (.int 6)))) (Qc3 (Qbs (QbC (Qax QbK (Qaa (Qab 4) Qaf)))) (Qbs (QbC (Qax Qby (Qaa (Qab 4) (Qaa (Qab 0) (Qaa (Qab 1) Qaf)))))))) (Qaq (QcE "NoRoom" "at" (Qab 3))
  QaQ) QaQ)
  (Qaq (Qc5 (QbC (QaX Qjh (Qaa (Qcz (Qb8 (mSl (Qab 2) moN (moS (Qab 3)))) 1 [4] (mgN 0) QbZ (Qax QbH (Qaa (Qab 1) (Qaa (Qab 0) Qaf)))) Qaf))) (Qaq (QcE "NoRoom" "at" (Qab 3))
  QaQ) QaQ)
  QaQ))
def gCk:MG:=(Qh7 2 (QbJ (mgN 3) (QbJ (mgN 4) Qf6)))
def tA:L2.M Bool:=(Qc3 (QaM (Qad gGe (Qab 3) (mC (.int 6)))) (Qc3 (Qbs (QbC (Qax QbK (Qaa (Qab 4) Qaf)))) (Qbs (QbC (Qax Qby (Qaa (Qab 4) (Qaa (Qab 0) (Qaa (Qab 1) Qaf))))))))
def tB:L2.M Bool:=(QbC (QaX Qjh (Qaa (Qcz (Qb8 (mSl (Qab 2) moN (moS (Qab 3)))) 1 [4] (mgN 0) QbZ (Qax QbH (Qaa (Qab 1) (Qaa (Qab 0) Qaf)))) Qaf)))
structure GoodR (hi wi:Int) (r:Rm):Prop where
 n:NOk r.n
 w:WOk r.w
 le:QcC r.t r.l r.h r.b=true
 li:Lies r.t r.l r.h r.b hi wi=true
theorem GoodR.room {hi wi:Int}{r:Rm} (g:GoodR hi wi r) (O:Qae):QbK [rD r] O = .ok (.bl true) O:=by
 have e:=QgO (t:=r.t) (l:=r.l) (h:=r.h) (b:=r.b) (QkD g.n O) (QlL g.w O);rw [g.le] at e;exact e
theorem GoodR.lies {hi wi:Int}{r:Rm} (g:GoodR hi wi r) (O:Qae):Qby [rD r,.int hi,.int wi] O = .ok (.bl true) O:=by
 have e:=QnP (.str r.n) (.str r.w) r.t r.l r.h r.b hi wi O;rw [g.li] at e;exact e
theorem QrP {a b:L2.M Bool}{ρ:Qam}{O O1:Qae} (ha:a ρ O = .ok true O1):Qc3 a b ρ O = .ok true O1:=by
 rw [Qmt,ha,Qav];rfl
theorem Qjd {a b:L2.M Bool}{ρ:Qam}{O O1 O2:Qae}{x:Bool} (ha:a ρ O = .ok false O1) (hb:b ρ O1 = .ok x O2):Qc3 a b ρ O = .ok x O2:=by
 rw [Qmt,ha,Qav,if_neg zk,hb]
theorem QpQ {m:L2.M D}{ρ:Qam}{O O':Qae} (h:m ρ O = .ok (.bl false) O'):Qbs (QbC m) ρ O = .ok true O':=by
 rw [Qge,QhF,h];rfl
section
variable {hi wi:Int}{p:Nat}{o2:Option D}{O:Qae}
theorem p6 (hp:p < 6) (d:Option D):QaM (Qad gGe (Qab 3) (mC (.int 6))) [some (.int hi),some (.int wi),o2,some (.int (p:Int)),d] O = .ok false O:=QfW (QaH (x:=.int (p:Int)) (y:=.int 6) rfl rfl (by
 rw [Qbv,Qbv,QpL,zm (by omega)]))
theorem QpG (hp:p < 6) {d:D} (h1:QbK [d] O = .ok (.bl true) O) (h2:Qby [d,.int hi,.int wi] O = .ok (.bl true) O):tA [some (.int hi),some (.int wi),o2,some (.int (p:Int)),some d] O = .ok false O:=by
 unfold tA;exact Qjd (p6 hp _) (Qjd (QeW ((QaV (ds:=[d]) rfl).trans h1)) (QeW ((QaV (ds:=[d,.int hi,.int wi]) rfl).trans h2)))
theorem Qux (hp:p < 6) {d:D} (h1:QbK [d] O = .ok (.bl false) O):tA [some (.int hi),some (.int wi),o2,some (.int (p:Int)),some d] O = .ok true O:=by
 unfold tA;exact Qjd (p6 hp _) (QrP (QpQ ((QaV (ds:=[d]) rfl).trans h1)))
theorem Qvh (hp:p < 6) {d:D} (h1:QbK [d] O = .ok (.bl true) O) (h2:Qby [d,.int hi,.int wi] O = .ok (.bl false) O):tA [some (.int hi),some (.int wi),o2,some (.int (p:Int)),some d] O = .ok true O:=by
 unfold tA;exact Qjd (p6 hp _) (Qjd (QeW ((QaV (ds:=[d]) rfl).trans h1)) (QpQ ((QaV (ds:=[d,.int hi,.int wi]) rfl).trans h2)))
theorem QuR (d:Option D):tA [some (.int hi),some (.int wi),o2,some (.int (6:Nat)),d] O = .ok true O:=by
 unfold tA;exact QrP rfl
theorem QiE (x:Rm):∀pre:List Rm,Qcy (pre.map fun y=>D.bl (Qct x y))=some (pre.map (Qct x))
 | []=>rfl
 | y::pre=>by
  simp only [ze,Qcy,QiE x pre];rfl
theorem Qpo {x:Rm}{pre:List Rm}{ds:List D} (hl:pre.length≤100) (hd:ds.take p=pre.map rD):tB [some (.int hi),some (.int wi),some (.lst ds),some (.int (p:Int)),some (rD x)] O = .ok (pre.any (Qct x)) O:=by
 have ei:Qb8 (mSl (Qab 2) moN (moS (Qab 3))) [some (.int hi),some (.int wi),some (.lst ds),some (.int (p:Int)),some (rD x)] O = .ok (pre.map rD) O:=by
  rw [Qn5,QoF (t:=ds) (x:=none) (y:=some (p:Int)) rfl rfl rfl,Qav,Qf5,hd,QnZ,Qkv]
 have ec:Qcz (Qb8 (mSl (Qab 2) moN (moS (Qab 3)))) 1 [4] (mgN 0) QbZ (Qax QbH (Qaa (Qab 1) (Qaa (Qab 0) Qaf))) [some (.int hi),some (.int wi),some (.lst ds),some (.int (p:Int)),some (rD x)] O = .ok (.lst (pre.map fun y=>.bl (Qct x y))) O:=by
  have z:=QdO (g:=mgN 0) (t:=QbZ) (m:=Qax QbH (Qaa (Qab 1) (Qaa (Qab 0) Qaf))) (fun ρ=>∃a,ρ = [a,some (rD x)]) rD (fun y=>.bl (Qct x y)) pre [none,some (rD x)] O [] ⟨none,rfl⟩ (by
   rintro y hy ρ ⟨a,rfl⟩
   exact ⟨_,rfl,⟨_,rfl⟩,rfl,(QaV (ds:=[rD x,rD y]) rfl).trans (QsY x y O)⟩)
  rw [zX] at z;rw [QfX,ei,Qav,if_pos (by rw [zo]; omega),show Qd3 1 [4] [some (.int hi),some (.int wi),some (.lst ds),some (.int (p:Int)),some (rD x)] = [none,some (rD x)] from rfl,z,Qav]
 have ea:Qjh [QaU O (.lst (pre.map fun y=>.bl (Qct x y)))]=some (.bl (pre.any (Qct x))):=by
  show (Qcy (pre.map fun y=>D.bl (Qct x y))).map (fun bs=>D.bl (bs.any id))=_;rw [QiE];simp
 unfold tB;rw [QhF,Qea (xs:=[.lst (pre.map fun y=>.bl (Qct x y))]) (ma1 ec) ea,Qav];rfl
end
inductive QdU (hi wi:Int) (pre:List Rm) (d:D):Prop where
 | nr (h:∀O,QbK [d] O = .ok (.bl false) O)
 | nl (h:∀O,QbK [d] O = .ok (.bl true) O) (h2:∀O,Qby [d,.int hi,.int wi] O = .ok (.bl false) O)
 | cf (x:Rm) (e:d=rD x) (g:GoodR hi wi x) (h:pre.any (Qct x)=true)
theorem Qsc {hi wi:Int}{p:Nat} (hp:p < 6) {x:Rm} (g:GoodR hi wi x) {pre:List Rm}{ds:List D} (hl:pre.length≤100) (hd:ds.take p=pre.map rD) (hc:pre.any (Qct x)=false) (O:Qae) :
  bCk [some (.int hi),some (.int wi),some (.lst ds),some (.int (p:Int)),some (rD x)] O = .nx [some (.int hi),some (.int wi),some (.lst ds),some (.int (p:Int)),some (rD x)] O:=by
 have e1:=QpG (o2:=some (.lst ds)) hp (g.room O) (g.lies O);have e2:=Qpo (hi:=hi) (wi:=wi) (O:=O) (x:=x) hl hd;rw [hc] at e2;unfold tA at e1;unfold tB at e2;unfold bCk;rw [Qau (QdM e1),Qau (QdM e2)];rfl
theorem Qrh {hi wi:Int}{p:Nat} (hp:p < 6) {d:D}{pre:List Rm}{ds:List D} (hl:pre.length≤100) (hd:ds.take p=pre.map rD) (hb:QdU hi wi pre d) (O:Qae) :
  bCk [some (.int hi),some (.int wi),some (.lst ds),some (.int (p:Int)),some d] O = .ex ⟨"NoRoom",[("at",.int (p:Int))]⟩ O:=by
 have r:∀(b:MS),Qaq (QcE "NoRoom" "at" (Qab 3)) b [some (.int hi),some (.int wi),some (.lst ds),some (.int (p:Int)),some d] O = .ex ⟨"NoRoom",[("at",.int (p:Int))]⟩ O:=fun b=>QcM (Qj3 rfl)
 cases hb with
 | nr h =>
  have e1:=Qux (hi:=hi) (wi:=wi) (o2:=some (.lst ds)) hp (h O);unfold tA at e1;unfold bCk;exact QcM ((Qfl e1).trans (r _))
 | nl h h2 =>
  have e1:=Qvh (o2:=some (.lst ds)) hp (h O) (h2 O);unfold tA at e1;unfold bCk;exact QcM ((Qfl e1).trans (r _))
 | cf x e g h =>
  subst e;have e1:=QpG (o2:=some (.lst ds)) hp (g.room O) (g.lies O);have e2:=Qpo (hi:=hi) (wi:=wi) (O:=O) (x:=x) hl hd;rw [h] at e2;unfold tA at e1;unfold tB at e2;unfold bCk;rw [Qau (QdM e1)];exact QcM ((Qfl e2).trans (r _))
def Fit (hi wi:Int):List Rm→List Rm→Prop
 | _,[]=>True
 | done,x::xs=>GoodR hi wi x∧done.any (Qct x)=false∧Fit hi wi (done ++ [x]) xs
theorem QhJ {hi wi:Int}{ds rest:List D}:∀(todo done:List Rm) (o3 o4:Option D) (O:Qae),Fit hi wi done todo→ds=(done++todo).map rD++rest→(done++todo).length≤6 →
  ∃p3 p4,QbA gCk bCk (Qb9 done.length (todo.map rD++rest)) [some (.int hi),some (.int wi),some (.lst ds),o3,o4] O=QbA gCk bCk (Qb9 (done++todo).length rest) [some (.int hi),some (.int wi),some (.lst ds),p3,p4] O
 | [],done,o3,o4,O,_,_,_=>⟨o3,o4,by rw [zL]; rfl⟩
 | x::todo,done,o3,o4,O,hf,hd,hl=>by
  obtain ⟨g,hc,hf'⟩:=hf;rw [zx,zJ] at hl;have e:=Qsc (p:=done.length) (by omega) g (pre:=done) (ds:=ds) (by omega) (by rw [hd,zF,zZ,List.take_left' (zo ..)]) hc O;obtain ⟨p3,p4,e2⟩:=QhJ (ds:=ds) (rest:=rest) todo (done ++ [x]) (some (.int (done.length:Int))) (some (rD x)) O hf' (by rw [hd]; simp) (by simp; omega);refine ⟨p3,p4,?_⟩;rw [ze,List.cons_append,Qb9,Qfg (ρ1:=[some (.int hi),some (.int wi),some (.lst ds),some (.int (done.length:Int)),some (rD x)]) rfl e]
  have z:(done ++ [x]).length=done.length+1:=by simp
  rw [z] at e2;rw [e2];simp
theorem Qj1 {g:MG}{b:MS}{d:D}{ds:List D}{ρ ρ1:Qam}{O O2:Qae}{x:Xc} (hg:g d ρ=some ρ1) (hb:b ρ1 O = .ex x O2):QbA g b (d::ds) ρ O = .ex x O2:=by
 rw [QbA,hg];dsimp only;rw [hb]
theorem Qji {hi wi:Int}{ds:List D} (h:ds≠[]) (O:Qae):Qc3 (Qbs (QbC (QdD "list" (Qab 2)))) (QaM (Qad gEq (QaX Qdj (Qaa (Qab 2) Qaf)) (mC (.int 0)))) [some (.int hi),some (.int wi),some (.lst ds),none,none] O = .ok false O:=by
 refine Qjd rfl (QfW (QaH (QnN rfl) rfl ?_));rw [Qbv,Qbv,Qt6,zm];intro z;exact h (List.eq_nil_of_length_eq_zero (by omega))
theorem Qqz {hi wi:Int}{rs:List Rm} (hf:Fit hi wi [] rs) (h1:rs≠[]) (h6:rs.length≤6) (O:Qae):Qci [.int hi,.int wi,.lst (rs.map rD)] O = .ok .non O:=by
 obtain ⟨p3,p4,e⟩:=QhJ (ds:=rs.map rD) (rest:=[]) rs [] none none O hf (by simp) (by simpa using h6);show Qbc (Qbx [some (.int hi),some (.int wi),some (.lst (rs.map rD)),none,none] O)=_;unfold Qbx;rw [Qau (QdM (Qji (by simpa using h1) O))];show Qbc (Qaq (Qde (QhH (Qab 2)) gCk bCk) _ _ _)=_;rw [zL] at e;rw [Qau ((Qme (ds:=Qb9 0 (rs.map rD)) rfl).trans e)];rfl
theorem Qk5 {hi wi:Int}{rs:List Rm}{d:D}{rest:List D} (hf:Fit hi wi [] rs) (hp:rs.length < 6) (hb:QdU hi wi rs d) (O:Qae):Qci [.int hi,.int wi,.lst (rs.map rD++d::rest)] O = .ex ⟨"NoRoom",[("at",.int (rs.length:Int))]⟩ O:=by
 obtain ⟨p3,p4,e⟩:=QhJ (ds:=rs.map rD++d::rest) (rest:=d::rest) rs [] none none O hf (by simp) (by simp; omega);have e2:=Qrh (ds:=rs.map rD++d::rest) hp (by omega) (List.take_left' (zo ..)) hb O;rw [zX,Qb9,Qj1 (ρ1:=[some (.int hi),some (.int wi),some (.lst (rs.map rD++d::rest)),some (.int (rs.length:Int)),some d]) rfl e2] at e;show Qbc (Qbx [some (.int hi),some (.int wi),some (.lst (rs.map rD++d::rest)),none,none] O)=_;unfold Qbx;rw [Qau (QdM (Qji (by simp) O))];show Qbc (Qaq (Qde (QhH (Qab 2)) gCk bCk) _ _ _)=_;rw [QcM ((Qme (ds:=Qb9 0 (rs.map rD++d::rest)) rfl).trans e)];rfl
theorem QnW {hi wi:Int}{rs:List Rm}{d:D}{rest:List D} (hf:Fit hi wi [] rs) (hp:rs.length=6) (O:Qae):Qci [.int hi,.int wi,.lst (rs.map rD++d::rest)] O = .ex ⟨"NoRoom",[("at",.int 6)]⟩ O:=by
 obtain ⟨p3,p4,e⟩:=QhJ (ds:=rs.map rD++d::rest) (rest:=d::rest) rs [] none none O hf (by simp) (by simp; omega);have e1:=QuR (hi:=hi) (wi:=wi) (o2:=some (.lst (rs.map rD++d::rest))) (O:=O) (some d)
 have e2:bCk [some (.int hi),some (.int wi),some (.lst (rs.map rD++d::rest)),some (.int (6:Nat)),some d] O = .ex ⟨"NoRoom",[("at",.int 6)]⟩ O:=by
  unfold tA at e1;unfold bCk;exact QcM ((Qfl e1).trans (QcM (Qj3 rfl)))
 rw [zX,hp,Qb9,Qj1 (ρ1:=[some (.int hi),some (.int wi),some (.lst (rs.map rD++d::rest)),some (.int (6:Nat)),some d]) rfl e2] at e;show Qbc (Qbx [some (.int hi),some (.int wi),some (.lst (rs.map rD++d::rest)),none,none] O)=_;unfold Qbx;rw [Qau (QdM (Qji (by simp) O))];show Qbc (Qaq (Qde (QhH (Qab 2)) gCk bCk) _ _ _)=_;rw [QcM ((Qme (ds:=Qb9 0 (rs.map rD++d::rest)) rfl).trans e)];rfl
def bFi:MS:=(Qaq (msN (Qf9 (Qhj ["Plan"] "room_by_name" (Qab 0)) (Qad gIx (Qab 4) (mC (.int 0))) (Qab 4)))
  QaQ)
theorem Qgp (M lo hi:Int) (O:Qae):QbO [.int M,.int lo,.int hi] O = .ok (.bl (decide (lo≤M)&&decide (M≤hi))) O:=by
 simp [QbO,QfJ,QaW,Qe0]
 by_cases h:lo≤M <;> by_cases h2:M≤hi <;> simp [h,h2]
def NoH (d:D):Prop:=∀O,QbO [d,.int 1,.int 12] O = .ok (.bl false) O
def NoW (d:D):Prop:=∀O,QbO [d,.int 2,.int 40] O = .ok (.bl false) O
theorem Qiv {d a b:D}{O:Qae}{x:Bool}{m:L2.M D}{ρ:Qam} (h:QbO [d,a,b] O = .ok (.bl x) O) (hm:m ρ O = .ok d O):(Qbs (QbC (Qax QbO (Qaa m (Qaa (mC a) (Qaa (mC b) Qaf)))))) ρ O = .ok (!x) O:=by
 rw [Qge,QhF,QaV (ds:=[d,a,b]) (maS hm rfl),h];rfl
theorem Qgu {hi wi:Int} (h1:1≤hi∧hi≤12) (h2:2≤wi∧wi≤40) (O:Qae):Qb6 [.int hi,.int wi] O = .ok .non O:=by
 have e1:=Qgp hi 1 12 O;rw [zh h1.1,zh h1.2] at e1;have e2:=Qgp wi 2 40 O;rw [zh h2.1,zh h2.2] at e2;show Qbc (QbI [some (.int hi),some (.int wi)] O)=_;unfold QbI;rw [Qau (QdM (Qiv e1 rfl)),Qau (QdM (Qiv e2 rfl))];rfl
theorem QmN {d w:D} (h:NoH d) (O:Qae):Qb6 [d,w] O = .ex ⟨"NoSize",[]⟩ O:=by
 show Qbc (QbI [some d,some w] O)=_;unfold QbI;rw [QcM ((Qfl (Qiv (h O) rfl)).trans (QcM rfl))];rfl
theorem QmQ {hi:Int}{d:D} (h1:1≤hi∧hi≤12) (h:NoW d) (O:Qae):Qb6 [.int hi,d] O = .ex ⟨"NoSize",[]⟩ O:=by
 have e1:=Qgp hi 1 12 O;rw [zh h1.1,zh h1.2] at e1;show Qbc (QbI [some (.int hi),some d] O)=_;unfold QbI;rw [Qau (QdM (Qiv e1 rfl)),QcM ((Qfl (Qiv (h O) rfl)).trans (QcM rfl))];rfl
theorem QhO {h w r:D}{n:Nat}{O:Qae} (e:Qb6 [h,w] O = .ex ⟨"NoSize",[]⟩ O):Qa2 [.ob n,h,w,r] O = .ex ⟨"NoSize",[]⟩ O:=by
 show Qbc (QbD [some (.ob n),some h,some w,some r,none] O)=_;unfold QbD;rw [QcM (QkY ((Qix (ds:=[h,w]) rfl).trans e))];rfl
theorem QfV {h w r:D}{n:Nat}{O:Qae}{x:Xc} (e0:Qb6 [h,w] O = .ok .non O) (e:Qci [h,w,r] O = .ex x O):Qa2 [.ob n,h,w,r] O = .ex x O:=by
 show Qbc (QbD [some (.ob n),some h,some w,some r,none] O)=_;unfold QbD;rw [Qau (Qms ((Qix (ds:=[h,w]) rfl).trans e0)),QcM (QkY ((Qix (ds:=[h,w,r]) rfl).trans e))];rfl
def plO (hi wi:Int) (m:Nat):Ob:=.ins "Plan" [("high",.int hi),("wide",.int wi),("room_by_name",.ob m)]
theorem pF {O:Qae}{o:Nat}{fs:List (Str×D)}{f:Str}{d:D}{ρ:Qam} (e:O[o]? = some (.ins "Plan" fs)) (h:fs.length < 900):puF ["Plan"] f d ρ (.ok (.ob o) O) = .nx ρ (O.set o (.ins "Plan" (putD f d fs))):=by
 unfold puF;dsimp only;rw [e];dsimp only;rw [if_pos ⟨by simp,h⟩]
theorem fR {O:Qae}{o m:Nat}{hi wi:Int} (e:O[o]? = some (plO hi wi m)):Qor ["Plan"] "room_by_name" (.ob o) O = .ok (.ob m) O:=by
 unfold Qor;dsimp only;rw [e];rfl
theorem Qvd {mo my mv:L2.M D}{ρ:Qam}{O:Qae}{m:Nat}{d y:D}{k:Key}{kvs:List (Key×D)} (hv:mv ρ O = .ok d O) (ho:mo ρ O = .ok (.ob m) O) (hy:my ρ O = .ok y O) (hk:keyOf y=some k) (hm:O[m]? = some (.dk kvs)) (hl:kvs.length < 1000000):Qf9 mo my mv ρ O = .nx ρ (O.set m (.dk (QiY kvs k d))):=by
 unfold Qf9;rw [hv];dsimp only;rw [ho];dsimp only;rw [hy];dsimp only;rw [hk,hm];dsimp only;rw [if_pos hl]
def kvsOf (rs:List Rm):List (Key×D):=rs.map fun r=>(.inr (S r.n),rD r)
theorem QqD {rs:List Rm}{x:Rm} (h:rs.any (Qct x)=false):QiY (kvsOf rs) (.inr (S x.n)) (rD x)=kvsOf (rs ++ [x]):=by
 have hn:((kvsOf rs).any fun p=>decide (p.1 = .inr (S x.n)))=false:=by
  rw [List.any_eq_false];intro p hp;obtain ⟨y,hy,rfl⟩:=zU.mp hp;rw [List.any_eq_false] at h;have hc:=h y hy;intro z;have z':=of_decide_eq_true z;have e:y.n=x.n:=QpK (Sum.inr.inj z')
  apply hc
  unfold Qct;rw [zh e.symm];rfl
 unfold QiY;rw [if_neg (by rw [hn]; exact zk)];unfold kvsOf;rw [zF];rfl
theorem fill {hi wi hi' wi':Int}{n m:Nat} (hne:n≠m) (a1 a2 a3:Option D):∀(todo done:List Rm) (O:Qae) (o4:Option D),Fit hi wi done todo→(done++todo).length≤6→O[n]? = some (plO hi' wi' m)→O[m]? = some (.dk (kvsOf done)) →
  ∃O' p4,QbA (mgN 4) bFi (todo.map rD) [some (.ob n),a1,a2,a3,o4] O = .nx [some (.ob n),a1,a2,a3,p4] O'∧O'[n]? = some (plO hi' wi' m)∧O'[m]? = some (.dk (kvsOf (done++todo)))
 | [],done,O,o4,_,_,h1,h2=>⟨O,o4,rfl,h1,by rw [zL]; exact h2⟩
 | x::todo,done,O,o4,hf,hl,h1,h2=>by
  obtain ⟨g,hc,hf'⟩:=hf;have hl':=hl;rw [zx,zJ] at hl
  have e:bFi [some (.ob n),a1,a2,a3,some (rD x)] O = .nx [some (.ob n),a1,a2,a3,some (rD x)] (O.set m (.dk (kvsOf (done ++ [x])))):=by
   unfold bFi;have k:=Qvd (mo:=Qhj ["Plan"] "room_by_name" (Qab 0)) (my:=Qad gIx (Qab 4) (mC (.int 0))) (mv:=Qab 4) (ρ:=[some (.ob n),a1,a2,a3,some (rD x)]) (O:=O) (m:=m) (d:=rD x) (y:=.str x.n) (k:=.inr (S x.n)) (kvs:=kvsOf done) rfl (by simp only [Qps,QcN,zS,Qav,fR h1]) rfl rfl h2 (by unfold kvsOf; rw [zo]; omega);rw [QqD hc] at k;rw [Qau (QjX k)];rfl
  obtain ⟨O',p4,e2,f1,f2⟩:=fill (hi:=hi) (wi:=wi) hne a1 a2 a3 todo (done ++ [x]) (O.set m (.dk (kvsOf (done ++ [x])))) (some (rD x)) hf' (by simpa using hl') (by rw [zq (Ne.symm hne)]; exact h1) (gs' h2);refine ⟨O',p4,?_,f1,by simpa using f2⟩;rw [ze,Qfg (ρ1:=[some (.ob n),a1,a2,a3,some (rD x)]) rfl e];exact e2
theorem Qta {hi wi:Int}{rs:List Rm} (h1:1≤hi∧hi≤12) (h2:2≤wi∧wi≤40) (hf:Fit hi wi [] rs) (hne:rs≠[]) (h6:rs.length≤6) (O:Qae):∃O',Qa2 [.ob O.length,.int hi,.int wi,.lst (rs.map rD)] (O ++ [.ins "Plan" []]) = .ok .non O'∧O'[O.length]? = some (plO hi wi (O.length+1))∧O'[O.length+1]? = some (.dk (kvsOf rs)):=by
 have e0:(O ++ [Ob.ins "Plan" []])[O.length]? = some (.ins "Plan" []):=apN
 have p0:=fun ρ=>pF (f:="high") (d:=.int hi) (ρ:=ρ) e0 (by decide)
 have e1:=gs' (y:=.ins "Plan" (putD "high" (.int hi) [])) e0
 generalize hS1:(O ++ [Ob.ins "Plan" []]).set O.length (.ins "Plan" (putD "high" (.int hi) []))=S1 at p0 e1
 have l1:S1.length=O.length+1:=by rw [←hS1]; simp
 have p1:=fun ρ=>pF (f:="wide") (d:=.int wi) (ρ:=ρ) e1 (by show 1 < 900; decide)
 have e2:=gs' (y:=.ins "Plan" (putD "wide" (.int wi) (putD "high" (.int hi) []))) e1
 generalize hS2:S1.set O.length (.ins "Plan" (putD "wide" (.int wi) (putD "high" (.int hi) [])))=S2 at p1 e2
 have l2:S2.length=O.length+1:=by rw [←hS2,zM]; exact l1
 have e3:(S2 ++ [Ob.dk []])[O.length]? = some (.ins "Plan" (putD "wide" (.int wi) (putD "high" (.int hi) []))):=ap1 e2
 have p2:=fun ρ=>pF (f:="room_by_name") (d:=.ob S2.length) (ρ:=ρ) e3 (by show 2 < 900; decide)
 have e4:((S2 ++ [Ob.dk []]).set O.length (.ins "Plan" (putD "room_by_name" (.ob S2.length) (putD "wide" (.int wi) (putD "high" (.int hi) [])))))[O.length]? = some (plO hi wi (O.length+1)):=by
  rw [gs' e3,l2];rfl
 have e5:((S2 ++ [Ob.dk []]).set O.length (.ins "Plan" (putD "room_by_name" (.ob S2.length) (putD "wide" (.int wi) (putD "high" (.int hi) [])))))[O.length+1]? = some (.dk (kvsOf [])):=by
  rw [zq (by omega),←l2];exact apN
 generalize hS3:(S2 ++ [Ob.dk []]).set O.length (.ins "Plan" (putD "room_by_name" (.ob S2.length) (putD "wide" (.int wi) (putD "high" (.int hi) []))))=S3 at p2 e4 e5
 obtain ⟨O',p4,ef,f1,f2⟩:=fill (hi:=hi) (wi:=wi) (n:=O.length) (m:=O.length+1) (by omega) (some (.int hi)) (some (.int wi)) (some (.lst (rs.map rD))) rs [] S3 none hf (by simpa using h6) e4 e5
 have q1:Qeo ["Plan"] "high" (Qab 0) (mG (Qab 1)) [some (.ob O.length),some (.int hi),some (.int wi),some (.lst (rs.map rD)),none] (O ++ [Ob.ins "Plan" []]) = .nx [some (.ob O.length),some (.int hi),some (.int wi),some (.lst (rs.map rD)),none] S1:=by
  simp only [Qkr,m_g,Qod,Qke,QcN,zS,je,Qav,p0]
 have q2:Qeo ["Plan"] "wide" (Qab 0) (mG (Qab 2)) [some (.ob O.length),some (.int hi),some (.int wi),some (.lst (rs.map rD)),none] S1 = .nx [some (.ob O.length),some (.int hi),some (.int wi),some (.lst (rs.map rD)),none] S2:=by
  simp only [Qkr,m_g,Qod,Qke,QcN,zS,je,Qav,p1]
 have q3:Qeo ["Plan"] "room_by_name" (Qab 0) Qir [some (.ob O.length),some (.int hi),some (.int wi),some (.lst (rs.map rD)),none] S2 = .nx [some (.ob O.length),some (.int hi),some (.int wi),some (.lst (rs.map rD)),none] S3:=by
  rw [Qkr,show Qir [some (.ob O.length),some (.int hi),some (.int wi),some (.lst (rs.map rD)),none] S2 = .ok (.ob S2.length) (S2 ++ [.dk []]) from rfl];simp only [Qke,QcN,zS,p2]
 refine ⟨O',?_,f1,f2⟩;show Qbc (QbD [some (.ob O.length),some (.int hi),some (.int wi),some (.lst (rs.map rD)),none] (O ++ [Ob.ins "Plan" []]))=_;unfold QbD;rw [Qau (Qms ((Qix (ds:=[.int hi,.int wi]) rfl).trans (Qgu h1 h2 _))),Qau (Qms ((Qix (ds:=[.int hi,.int wi,.lst (rs.map rD)]) rfl).trans (Qqz hf hne h6 _))),Qau (QjX q1),Qau (QjX q2),Qau (QjX q3)];show Qbc (Qaq (Qde (Qb8 (Qab 3)) (mgN 4) bFi) _ _ _)=_;rw [Qau ((Qme (ds:=rs.map rD) rfl).trans ef)];rfl
theorem Qqk {hi wi:Int}{n m:Nat}{rs:List Rm}{O:Qae} (h1:O[n]? = some (plO hi wi m)) (h2:O[m]? = some (.dk (kvsOf rs))):QcK [.ob n] O = .ok (.lst (rs.map fun r=>.str r.n)) O:=by
 show Qbc (QcO [some (.ob n)] O)=_;unfold QcO
 have e:QiJ (Qhj ["Plan"] "room_by_name" (Qab 0)) [some (.ob n)] O = .ok (.lst (rs.map fun r=>.str r.n)) O:=by
  unfold QiJ;rw [show Qhj ["Plan"] "room_by_name" (Qab 0) [some (.ob n)] O = .ok (.ob m) O by simp only [Qps,QcN,zS,Qav,fR h1],Qav];dsimp only;rw [h2];dsimp only;unfold kvsOf;rw [List.map_map];congr 3
 rw [Qbt,e,QbN];rfl
theorem Qi9 {hi wi:Int}{rs:List Rm} (h1:1≤hi∧hi≤12) (h2:2≤wi∧wi≤40) (hf:Fit hi wi [] rs) (hne:rs≠[]) (h6:rs.length≤6) (hn:∀r∈rs,NOk r.n) (O:Qae):∃O',QcY [.int hi,.int wi,.lst (rs.map rD)] O = .ok (.bl true) O':=by
 obtain ⟨O',e,f1,f2⟩:=Qta h1 h2 hf hne h6 O
 have em:Qgj "Plan" Qa2 (Qaa (Qab 0) (Qaa (Qab 1) (Qaa (QaX Qen (Qaa (Qab 2) Qaf)) Qaf))) [some (.int hi),some (.int wi),some (.lst (rs.map rD))] O = .ok (.ob O.length) O':=by
  rw [Qsn,maS (x:=.int hi) rfl (maS (x:=.int wi) rfl (ma1 (Qea (z:=.lst (rs.map rD)) (ma1 (x:=.lst (rs.map rD)) rfl) rfl))),Qav,e,QsR]
 have en:=Qqk f1 f2
 have e1:Qhz "Plan" "room_names" QcK (Qgj "Plan" Qa2 (Qaa (Qab 0) (Qaa (Qab 1) (Qaa (QaX Qen (Qaa (Qab 2) Qaf)) Qaf)))) Qaf [some (.int hi),some (.int wi),some (.lst (rs.map rD))] O = .ok (.lst (rs.map fun r=>.str r.n)) O':=by
  rw [QrZ,em,Qav];unfold meF;dsimp only;rw [f1];exact en
 have e2:Qcz (Qb8 (Qab 2)) 1 [] (mgN 0) QbZ (Qad gIx (Qab 0) (mC (.int 0))) [some (.int hi),some (.int wi),some (.lst (rs.map rD))] O' = .ok (.lst (rs.map fun r=>.str r.n)) O':=by
  have z:=QdO (g:=mgN 0) (t:=QbZ) (m:=Qad gIx (Qab 0) (mC (.int 0))) (fun ρ=>∃a,ρ = [a]) rD (fun r=>.str r.n) rs [none] O' [] ⟨none,rfl⟩ (by
   rintro y hy ρ ⟨a,rfl⟩
   exact ⟨_,rfl,⟨_,rfl⟩,rfl,rfl⟩)
  rw [zX] at z;rw [QfX,show Qb8 (Qab 2) [some (.int hi),some (.int wi),some (.lst (rs.map rD))] O' = .ok (rs.map rD) O' from rfl,Qav,if_pos (by rw [zo]; omega),show Qd3 1 [] [some (.int hi),some (.int wi),some (.lst (rs.map rD))] = [none] from rfl,z,Qav]
 have ok:okE (.lst (rs.map fun r=>.str r.n))=true:=QlI (n:=5) (by decide) fun d hd=>by
  obtain ⟨r,hr,rfl⟩:=zU.mp hd;refine ⟨rfl,QhI fun c hc=>?_,by show PyData.depth (.str (S r.n))≤5; simp [PyData.depth]⟩
  have:=(hn r hr).ok c hc
  omega
 refine ⟨O',?_⟩;show Qbc (Qeu [some (.int hi),some (.int wi),some (.lst (rs.map rD))] O)=_;unfold Qeu;rw [Qbt,QtK (z:=.bl true) e1 e2 (by rw [QdJ,Qub,ok,QjI ok]; rfl),QbN];rfl
theorem QtM {i j:List D}:gEq (.tup i) (.tup j)=if (okE (.tup i)&&okE (.tup j))=true then some (.bl (Qg5 (.tup i) (.tup j))) else none:=rfl
theorem QtZ {w:List Nat} (hw:∀c∈w,c < 128) (p:Int):okE (.tup [.str w,.int p,.bl true])=true:=by
 unfold okE;show (true&&okD (.tuple [.str (S w),.int p,.bool true]))=true;unfold okD
 rw [show (PyData.tuple [.str (S w),.int p,.bool true]).canLay0=true by
  show ((PyData.str (S w)).canLay0&&((PyData.int p).canLay0&&((PyData.bool true).canLay0&&true)))=true;rw [QhI fun c hc=>Nat.lt_trans (hw c hc) (by decide)]
  rfl]
 rfl
theorem Qsd {w:List Nat} (hw:∀c∈w,c < 128) (p:Int):gEq (.tup [.str w,.int p,.bl true]) (.tup [.str w,.int p,.bl true])=some (.bl true):=by
 have ok:=QtZ hw p;rw [QtM,ok,QjI ok];rfl
def dSz:D:=.tup [.str [115,105,122,101],.int 0,.bl true]
def dRo (p:Int):D:=.tup [.str [114,111,111,109],.int p,.bl true]
theorem QlD {h w r:D}{O:Qae}{x:Xc}{O1:Qae}{o3 o4 o5 o6:Option D} (e:Qa2 [.ob O.length,h,w,r] (O ++ [.ins "Plan" []]) = .ex x O1):Qhm "Plan" Qa2 (Qaa (Qab 0) (Qaa (Qab 1) (Qaa (Qab 2) Qaf))) [some h,some w,some r,o3,o4,o5,o6] O = .ex x O1:=by
 unfold Qhm;rw [show Qaa (Qab 0) (Qaa (Qab 1) (Qaa (Qab 2) Qaf)) [some h,some w,some r,o3,o4,o5,o6] O = .ok [h,w,r] O from rfl];dsimp only;rw [e]
theorem QiB {h w r:D}{O:Qae}{O1:Qae} (e:Qa2 [.ob O.length,h,w,r] (O ++ [.ins "Plan" []]) = .ex ⟨"NoSize",[]⟩ O1):∃O',Qbm [h,w,r,dSz] O = .ok (.bl true) O':=by
 refine ⟨O1 ++ [.xc "NoSize" []],?_⟩
 have q:∀tb b,List.lookup ("NoSize":Str) tb=some b→Qcl tb (Qab 5) [some h,some w,some r,some dSz,some .non,some (.ob O1.length),none] (O1 ++ [.xc "NoSize" []]) = .ok (.bl b) (O1 ++ [.xc "NoSize" []]):=fun tb b e=>Qry rfl apN e
 have eh:(Qas 4 (Qbd (Qaa (mC (.str [115,105,122,101])) (Qaa (mC (.int 0)) (Qaa (Qbi (Qc6 (Qcl [("NoSize",false),("NoRoom",true)] (Qab 5))) (Qcl [("NoSize",true),("NoRoom",true)] (Qab 5))) Qaf))))) [some h,some w,some r,some dSz,some .non,some (.ob O1.length),none] (O1 ++ [.xc "NoSize" []]) = .nx [some h,some w,some r,some dSz,some dSz,some (.ob O1.length),none] (O1 ++ [.xc "NoSize" []]):=by
  have a:Qbi (Qc6 (Qcl [("NoSize",false),("NoRoom",true)] (Qab 5))) (Qcl [("NoSize",true),("NoRoom",true)] (Qab 5)) [some h,some w,some r,some dSz,some .non,some (.ob O1.length),none] (O1 ++ [.xc "NoSize" []]) = .ok (.bl true) (O1 ++ [.xc "NoSize" []]):=by
   rw [Qc9,Qkn,q _ false rfl];exact q _ true rfl
  exact QaY (Qfp (maS rfl (maS rfl (ma1 a))) (show (3:Nat)≤1000000 by decide))
 show Qbc (Qcw [some h,some w,some r,some dSz,none,none,none] O)=_;unfold Qcw;rw [Qau (show Qas 4 (mC .non) [some h,some w,some r,some dSz,none,none,none] O = .nx [some h,some w,some r,some dSz,some .non,none,none] O from rfl),Qau ((Qll (QlD e)).trans (QkK (show List.contains [("NoSize":Str)] "NoSize" = true by decide) eh))];rw [Qbt,QaH (x:=dSz) (y:=dSz) rfl rfl (Qsd (by decide) 0),QbN];rfl
theorem Qgz {h w r:D}{O:Qae}{O1:Qae}{p:Int} (e:Qa2 [.ob O.length,h,w,r] (O ++ [.ins "Plan" []]) = .ex ⟨"NoRoom",[("at",.int p)]⟩ O1):∃O',Qbm [h,w,r,dRo p] O = .ok (.bl true) O':=by
 refine ⟨O1 ++ [.xc "NoRoom" [("at",.int p)]],?_⟩
 have q:∀o4 o6 tb b,List.lookup ("NoRoom":Str) tb=some b→Qcl tb (Qab 5) [some h,some w,some r,some (dRo p),o4,some (.ob O1.length),o6] (O1 ++ [.xc "NoRoom" [("at",.int p)]]) = .ok (.bl b) (O1 ++ [.xc "NoRoom" [("at",.int p)]]):=fun o4 o6 tb b e=>Qry rfl apN e
 have f:∀o4 o6,Qeg "at" ["NoRoom"] (Qab 5) [some h,some w,some r,some (dRo p),o4,some (.ob O1.length),o6] (O1 ++ [.xc "NoRoom" [("at",.int p)]]) = .ok (.int p) (O1 ++ [.xc "NoRoom" [("at",.int p)]]):=fun o4 o6=>Qvv rfl apN (by decide) rfl
 have s6:Qas 6 (Qbi (Qcl [("NoSize",true),("NoRoom",true)] (Qab 5)) (Qbi (Qcl [("NoSize",true),("NoRoom",true)] (Qab 5)) (Qc6 (QdD "bool" (Qeg "at" ["NoRoom"] (Qab 5)))))) [some h,some w,some r,some (dRo p),some .non,some (.ob O1.length),none] (O1 ++ [.xc "NoRoom" [("at",.int p)]]) = .nx [some h,some w,some r,some (dRo p),some .non,some (.ob O1.length),some (.bl true)] (O1 ++ [.xc "NoRoom" [("at",.int p)]]):=by
  refine QaY ?_;rw [Qc9,q _ _ _ true rfl,Qav];show Qbi (Qcl [("NoSize",true),("NoRoom",true)] (Qab 5)) (Qc6 (QdD "bool" (Qeg "at" ["NoRoom"] (Qab 5)))) _ _=_;rw [Qc9,q _ _ _ true rfl,Qav];show Qc6 (QdD "bool" (Qeg "at" ["NoRoom"] (Qab 5))) _ _=_;rw [Qkn,QpJ,f];rfl
 have s4:Qas 4 (Qbd (Qaa (mC (.str [114,111,111,109])) (Qaa (Qeg "at" ["NoRoom"] (Qab 5)) (Qaa (Qbi (Qab 6) (Qc6 (Qcl [("NoSize",false),("NoRoom",false)] (Qab 5)))) Qaf)))) [some h,some w,some r,some (dRo p),some .non,some (.ob O1.length),some (.bl true)] (O1 ++ [.xc "NoRoom" [("at",.int p)]]) = .nx [some h,some w,some r,some (dRo p),some (dRo p),some (.ob O1.length),some (.bl true)] (O1 ++ [.xc "NoRoom" [("at",.int p)]]):=by
  have a:Qbi (Qab 6) (Qc6 (Qcl [("NoSize",false),("NoRoom",false)] (Qab 5))) [some h,some w,some r,some (dRo p),some .non,some (.ob O1.length),some (.bl true)] (O1 ++ [.xc "NoRoom" [("at",.int p)]]) = .ok (.bl true) (O1 ++ [.xc "NoRoom" [("at",.int p)]]):=by
   rw [Qc9,show Qab 6 [some h,some w,some r,some (dRo p),some .non,some (.ob O1.length),some (.bl true)] (O1 ++ [.xc "NoRoom" [("at",.int p)]]) = .ok (.bl true) (O1 ++ [.xc "NoRoom" [("at",.int p)]]) from rfl,Qav];show Qc6 (Qcl [("NoSize",false),("NoRoom",false)] (Qab 5)) _ _=_;rw [Qkn,q _ _ _ false rfl];rfl
  exact QaY (Qfp (maS rfl (maS (f _ _) (ma1 a))) (show (3:Nat)≤1000000 by decide))
 show Qbc (Qcw [some h,some w,some r,some (dRo p),none,none,none] O)=_;unfold Qcw;rw [Qau (show Qas 4 (mC .non) [some h,some w,some r,some (dRo p),none,none,none] O = .nx [some h,some w,some r,some (dRo p),some .non,none,none] O from rfl),Qau ((Qll (QlD e)).trans ((QoA (show List.contains [("NoSize":Str)] "NoRoom" = false by decide) (show List.contains [("NoRoom":Str)] "NoRoom" = true by decide)).trans (QkK (show List.contains [("NoRoom":Str)] "NoRoom" = true by decide) ((Qau s6).trans s4))))];rw [Qbt,QaH (x:=dRo p) (y:=dRo p) rfl rfl (Qsd (by decide) p),QbN];rfl
def bNa:MS:=(Qas 3 (Qad Qay (Qab 3) (Qad gIx (Qab 2) (Qad QaB (Qax Qbb (Qaa (Qab 0) (Qaa (Qab 4) Qaf))) (mC (.int 26))))))
def bNb:MS:=(Qaq (Qas 7 (Qad gIx (Qab 2) (Qad QaB (Qad Qay (Qax Qbb (Qaa (Qab 0) (Qaa (mC (.int 8)) Qaf))) (Qab 4)) (mC (.int 26)))))
  (Qef 6 (mSl (Qad Qay (Qad Qay (mSl (Qab 3) moN (moS (Qab 5))) (Qab 7)) (mSl (Qab 3) (moS (Qad Qay (Qab 5) (mC (.int 1)))) moN)) moN (moS (QaX QgC (Qaa (Qad Qay (Qab 5) (mC (.int 1))) (Qaa (Qad Qay (mC (.int 1)) (Qad QaB (Qad QaS (Qab 0) (mC (.int 24))) (mC (.int 8)))) Qaf)))))))
def bGo:MS:=(Qaq (Qas 7 (Qad Qay (mC (.int 1)) (Qad QaB (Qax Qbb (Qaa (Qab 2) (Qaa (Qad Qay (mC (.int 14)) (Qad Qcu (mC (.int 6)) (Qab 6))) Qaf))) (mC (.int 3)))))
  (Qaq (Qas 8 (Qad Qay (mC (.int 2)) (Qad QaB (Qax Qbb (Qaa (Qab 2) (Qaa (Qad Qay (mC (.int 15)) (Qad Qcu (mC (.int 6)) (Qab 6))) Qaf))) (mC (.int 3)))))
  (Qaq (Qas 9 (Qad gIx (Qa1 (Qaa (mC (.str [99,117,116])) (Qaa (mC (.str [99,101,108,108,115])) (Qaa (mC (.str [119,111,114,100,115])) (Qaa (mC (.str [101,118,101,110])) Qaf))))) (Qad QaB (Qax Qbb (Qaa (Qab 2) (Qaa (Qad Qay (mC (.int 16)) (Qad Qcu (mC (.int 6)) (Qab 6))) Qaf))) (mC (.int 4)))))
  (Qaq (Qef 4 (Qbd (Qaa (Qad gIx (Qab 3) (Qab 6)) (Qaa (Qad QaB (Qax Qbb (Qaa (Qab 2) (Qaa (Qad Qay (mC (.int 17)) (Qad Qcu (mC (.int 6)) (Qab 6))) Qaf))) (mC (.int 3))) (Qaa (Qab 5) (Qaa (Qab 7) (Qaa (Qab 8) (Qaa (Qab 9) Qaf))))))))
  (Qas 5 (Qad Qay (Qab 5) (Qab 8)))))))
def abc:List Nat:=[97,98,99,100,101,102,103,104,105,106,107,108,109,110,111,112,113,114,115,116,117,118,119,120,121,122]
theorem QbV {a b:L2.M D}{ρ:Qam}{O:Qae}{i j:Int} (ha:a ρ O = .ok (.int i) O) (hb:b ρ O = .ok (.int j) O) (hj:0 < j∧j < 1073741824):Qad QaS a b ρ O = .ok (.int (i / j)) O:=QaH ha hb (by rw [Qbv,Qbv,Qq0,if_pos hj])
theorem Qr4:∀i:Nat,i < 26→abc[i]? = some (97+i):=by decide
theorem Qnz (v:Int):∃i:Nat,i < 26∧v % 26=(i:Int)∧gIx (.str abc) (.int (v % 26))=some (.str [97+i]):=by
 refine ⟨(v % 26).toNat,by omega,by omega,?_⟩;obtain ⟨i,hi⟩:∃i:Nat,v % 26=(i:Int):=⟨(v % 26).toNat,by omega⟩
 have hlt:i < 26:=by omega
 rw [hi,Qt8,if_pos (by decide),Qfy,Int.toNat_natCast,Qr4 i hlt];rfl
theorem Qic (lo:Int) (n:Nat):QbR lo (n+1) = .int lo::QbR (lo+1) n:=by
 unfold QbR;rw [List.range_succ_eq_map,ze,List.map_map];congr 1
 ·simp
 ·congr 1
  funext i
  simp only [Function.comp];congr 1
  push_cast
  omega
theorem Qlo (c:Int) (O:Qae):∀(m k:Nat) (base:List Nat) (o4:Option D),base.length=k→k+m≤8→(∀x∈base,97≤x∧x≤122) →
  ∃base' p4,QbA (mgN 4) bNa (QbR (k:Int) m) [some (.int c),some (.int 7),some (.str abc),some (.str base),o4,none,none,none] O = .nx [some (.int c),some (.int 7),some (.str abc),some (.str base'),p4,none,none,none] O∧base'.length=k+m∧∀x∈base',97≤x∧x≤122
 | 0,k,base,o4,hl,_,hb=>⟨base,o4,rfl,hl,hb⟩
 | m+1,k,base,o4,hl,hk,hb=>by
  obtain ⟨i,h1,_,h3⟩:=Qnz (mix c k);have e:bNa [some (.int c),some (.int 7),some (.str abc),some (.str base),some (.int (k:Int)),none,none,none] O = .nx [some (.int c),some (.int 7),some (.str abc),some (.str (base ++ [97+i])),some (.int (k:Int)),none,none,none] O:=QaY (Qi5 rfl (QaH (x:=.str abc) rfl (Qa3 ((QaV (ds:=[.int c,.int (k:Int)]) rfl).trans (QiI c k (by omega) (by omega) O)) rfl (by decide)) h3) (by show base.length+1≤1000000; omega))
  obtain ⟨base',p4,e2,f1,f2⟩:=Qlo c O m (k+1) (base ++ [97+i]) (some (.int (k:Int))) (by simp [hl]) (by omega) (fun x hx=>by
   rcases zA.mp hx with hx | hx
   ·exact hb x hx
   ·rw [zt.mp hx]; omega)
  refine ⟨base',p4,?_,by omega,f2⟩;rw [Qic,Qfg (ρ1:=[some (.int c),some (.int 7),some (.str abc),some (.str base),some (.int (k:Int)),none,none,none]) rfl e];exact e2
def nmB (base:List Nat) (a L:Nat) (v:Int) (k:Nat):List Nat:=(base.take a ++ [97+((v+k) % 26).toNat]++base.drop (a+1)).take L
theorem Qlj (c:Int) {base:List Nat}{a L:Nat} (hb:base.length=8) (ha:(c / 3 % 8:Int)=a) (hL:(if (1+c / 24 % 8:Int) > (a:Int)+1 then 1+c / 24 % 8 else (a:Int)+1)=(L:Int)) (O:Qae):∀(m k:Nat) (acc:List (List Nat)) (o4 o7:Option D),acc=(List.range k).map (nmB base a L (mix c 8))→k+m≤7 →
  ∃p4 p7,QbA (mgN 4) bNb (QbR (k:Int) m) [some (.int c),some (.int 7),some (.str abc),some (.str base),o4,some (.int (a:Int)),some (.lst (acc.map D.str)),o7] O = .nx [some (.int c),some (.int 7),some (.str abc),some (.str base),p4,some (.int (a:Int)),some (.lst (((List.range (k+m)).map (nmB base a L (mix c 8))).map D.str)),p7] O
 | 0,k,acc,o4,o7,hacc,_=>⟨o4,o7,by rw [hacc]; rfl⟩
 | m+1,k,acc,o4,o7,hacc,hk=>by
  obtain ⟨i,h1,h2,h3⟩:=Qnz (mix c 8+k)
  have hlen:acc.length=k:=by rw [hacc]; simp
  have s7:Qas 7 (Qad gIx (Qab 2) (Qad QaB (Qad Qay (Qax Qbb (Qaa (Qab 0) (Qaa (mC (.int 8)) Qaf))) (Qab 4)) (mC (.int 26)))) [some (.int c),some (.int 7),some (.str abc),some (.str base),some (.int (k:Int)),some (.int (a:Int)),some (.lst (acc.map D.str)),o7] O = .nx [some (.int c),some (.int 7),some (.str abc),some (.str base),some (.int (k:Int)),some (.int (a:Int)),some (.lst (acc.map D.str)),some (.str [97+i])] O:=QaY (QaH (x:=.str abc) rfl (Qa3 (QbE ((QaV (ds:=[.int c,.int 8]) rfl).trans (QiI c 8 (by decide) (by decide) O)) rfl) rfl (by decide)) h3)
  have hi:nmB base a L (mix c 8) k=(base.take a ++ [97+i]++base.drop (a+1)).take L:=by
   unfold nmB;rw [h2,Int.toNat_natCast]
  have sl:∀{m:L2.M D}{p q:L2.M (Option Int)}{ρ:Qam}{t:List Nat}{x y:Option Int},m ρ O = .ok (.str t) O→p ρ O = .ok x O→q ρ O = .ok y O→t.length≤1000000→mSl m p q ρ O = .ok (.str (QcF t x y)) O:=fun hm hp hq hz=>by
   rw [QmM,hm,Qav,hp,Qav,hq,Qav,QeB,QlB,if_pos (by omega),Qcp]
  have ap:Qef 6 (mSl (Qad Qay (Qad Qay (mSl (Qab 3) moN (moS (Qab 5))) (Qab 7)) (mSl (Qab 3) (moS (Qad Qay (Qab 5) (mC (.int 1)))) moN)) moN (moS (QaX QgC (Qaa (Qad Qay (Qab 5) (mC (.int 1))) (Qaa (Qad Qay (mC (.int 1)) (Qad QaB (Qad QaS (Qab 0) (mC (.int 24))) (mC (.int 8)))) Qaf))))) [some (.int c),some (.int 7),some (.str abc),some (.str base),some (.int (k:Int)),some (.int (a:Int)),some (.lst (acc.map D.str)),some (.str [97+i])] O = .nx [some (.int c),some (.int 7),some (.str abc),some (.str base),some (.int (k:Int)),some (.int (a:Int)),some (.lst ((acc ++ [nmB base a L (mix c 8) k]).map D.str)),some (.str [97+i])] O:=by
   have z1:=sl (m:=Qab 3) (p:=moN) (q:=moS (Qab 5)) (ρ:=[some (.int c),some (.int 7),some (.str abc),some (.str base),some (.int (k:Int)),some (.int (a:Int)),some (.lst (acc.map D.str)),some (.str [97+i])]) (t:=base) (x:=none) (y:=some (a:Int)) rfl rfl rfl (by omega);rw [Qf5] at z1;have z2:=sl (m:=Qab 3) (p:=moS (Qad Qay (Qab 5) (mC (.int 1)))) (q:=moN) (ρ:=[some (.int c),some (.int 7),some (.str abc),some (.str base),some (.int (k:Int)),some (.int (a:Int)),some (.lst (acc.map D.str)),some (.str [97+i])]) (t:=base) (x:=some ((a+1:Nat):Int)) (y:=none) rfl rfl rfl (by omega);rw [QrO] at z2;have z3:=Qi5 (Qi5 z1 (b:=Qab 7) (y:=[97+i]) rfl (by rw [List.length_take]; simp; omega)) z2 (by rw [zx,List.length_take,List.length_drop]; simp; omega)
   have z4:QaX QgC (Qaa (Qad Qay (Qab 5) (mC (.int 1))) (Qaa (Qad Qay (mC (.int 1)) (Qad QaB (Qad QaS (Qab 0) (mC (.int 24))) (mC (.int 8)))) Qaf)) [some (.int c),some (.int 7),some (.str abc),some (.str base),some (.int (k:Int)),some (.int (a:Int)),some (.lst (acc.map D.str)),some (.str [97+i])] O = .ok (.int (L:Int)) O:=by
    rw [←hL];exact Qea (xs:=[.int ((a:Int)+1),.int (1+c / 24 % 8)]) (maS (QbE rfl rfl) (ma1 (QbE rfl (Qa3 (QbV rfl rfl (by decide)) rfl (by decide))))) Qng
   have z5:=sl (p:=moN) (q:=moS (QaX QgC (Qaa (Qad Qay (Qab 5) (mC (.int 1))) (Qaa (Qad Qay (mC (.int 1)) (Qad QaB (Qad QaS (Qab 0) (mC (.int 24))) (mC (.int 8)))) Qaf)))) (x:=none) (y:=some (L:Int)) z3 rfl (Qep z4) (by rw [zx,zx,List.length_take,List.length_drop]; simp; omega);rw [Qf5,←hi] at z5;have z6:=QmU (i:=6) (ds:=acc.map D.str) z5 rfl (by rw [zo]; omega);rw [z6,zF];rfl
  obtain ⟨p4,p7,e2⟩:=Qlj c hb ha hL O m (k+1) (acc ++ [nmB base a L (mix c 8) k]) (some (.int (k:Int))) (some (.str [97+i])) (by rw [hacc,List.range_succ,zF]; rfl) (by omega);refine ⟨p4,p7,?_⟩
  have e:bNb [some (.int c),some (.int 7),some (.str abc),some (.str base),some (.int (k:Int)),some (.int (a:Int)),some (.lst (acc.map D.str)),o7] O = .nx [some (.int c),some (.int 7),some (.str abc),some (.str base),some (.int (k:Int)),some (.int (a:Int)),some (.lst ((acc ++ [nmB base a L (mix c 8) k]).map D.str)),some (.str [97+i])] O:=by
   unfold bNb;rw [Qau s7,ap]
  rw [Qic,Qfg (ρ1:=[some (.int c),some (.int 7),some (.str abc),some (.str base),some (.int (k:Int)),some (.int (a:Int)),some (.lst (acc.map D.str)),o7]) rfl e]
  have z:k+1+m=k+(m+1):=by omega
  rw [z] at e2;exact e2
structure Nms (nm:Nat→List Nat):Prop where
 ok:∀k,k < 7→NOk (nm k)
 ne:∀j k,j < k→k < 7→nm j≠nm k
theorem QsU {base:List Nat} (hl:base.length=8) (hb:∀x∈base,97≤x∧x≤122):Nms fun k=>base.take (k+1):=⟨fun k hk=>⟨by rw [List.length_take]; omega,by rw [List.length_take]; omega,fun x hx=>hb x (List.mem_of_mem_take hx)⟩,fun j k hj hk e=>by
 have:=congrArg List.length e
 rw [List.length_take,List.length_take] at this
 omega⟩
theorem Qsi {base:List Nat} (hl:base.length=8) (hb:∀x∈base,97≤x∧x≤122) {a L:Nat} (ha:a < 8) (hL:a+1≤L∧L≤8) (v:Int):Nms (nmB base a L v):=by
 have hat:∀k,(nmB base a L v k)[a]? = some (97+((v+k) % 26).toNat):=fun k=>by
  unfold nmB;rw [List.getElem?_take_of_lt (by omega),zZ,zw (by rw [List.length_take]; omega),List.length_take,show a - min a base.length=0 by omega];rfl
 refine ⟨fun k hk=>?_,fun j k hj hk e=>?_⟩
 ·have hlen:(nmB base a L v k).length=L:=by
   unfold nmB;rw [List.length_take,zx,zx,List.length_take,List.length_drop,jg];omega
  refine ⟨by omega,by omega,fun x hx=>?_⟩;have hx':=List.mem_of_mem_take hx
  rcases zA.mp hx' with hx' | hx'
  ·rcases zA.mp hx' with hx' | hx'
   ·exact hb x (List.mem_of_mem_take hx')
   ·rw [zt.mp hx'];omega
  ·exact hb x (List.mem_of_mem_drop hx')
 ·have h1:=hat j;rw [e,hat k] at h1
  have:=zG h1
  omega
theorem Qtn (c:Int) (O:Qae):∃nm,Nms nm∧QfO [.int c,.int 7] O = .ok (.lst ((List.range 7).map fun k=>.str (nm k))) O:=by
 obtain ⟨base,p4,e1,hl,hb⟩:=Qlo c O 8 0 [] none rfl (by omega) (fun x hx=>nomatch hx)
 have er8:∀(ρ:Qam),Qc7 (Qaa (mC (.int 8)) Qaf) ρ O = .ok (QbR 0 8) O:=fun ρ=>QiO (n:=8) rfl (by decide)
 have pre:∀r:Fl,(∀p4,(Qaq (Qb0 (QaM (Qad gEq (Qad QaB (Qab 0) (mC (.int 3))) (mC (.int 0)))) (QaL (Qcz (Qc7 (Qaa (Qab 1) Qaf)) 1 [3] (mgN 0) QbZ (mSl (Qab 1) moN (moS (Qad Qay (Qab 0) (mC (.int 1))))))) QaQ)
  (Qaq (Qas 5 (Qad QaB (Qad QaS (Qab 0) (mC (.int 3))) (mC (.int 8))))
  (Qaq (Qas 6 (Qa1 Qaf))
  (Qaq (QcV (Qc7 (Qaa (Qab 1) Qaf)) (mgN 4) bNb)
  (QaL (Qab 6)))))) [some (.int c),some (.int 7),some (.str abc),some (.str base),p4,none,none,none] O=r)→QcZ [some (.int c),some (.int 7),none,none,none,none,none,none] O=r:=fun r h=>by
  unfold QcZ;rw [Qau (show Qas 2 _ [some (.int c),some (.int 7),none,none,none,none,none,none] O = .nx [some (.int c),some (.int 7),some (.str abc),none,none,none,none,none] O from rfl),Qau (show Qas 3 _ [some (.int c),some (.int 7),some (.str abc),none,none,none,none,none] O = .nx [some (.int c),some (.int 7),some (.str abc),some (.str []),none,none,none,none] O from rfl)];show Qaq (QcV _ (mgN 4) bNa) _ _ _=_;rw [Qau ((Qmw (er8 _)).trans e1)];exact h p4
 have t3:∀p4,QaM (Qad gEq (Qad QaB (Qab 0) (mC (.int 3))) (mC (.int 0))) [some (.int c),some (.int 7),some (.str abc),some (.str base),p4,none,none,none] O = .ok (decide (c % 3=0)) O:=fun p4=>Qgn (Qa3 rfl rfl (by decide)) rfl
 have hl8:base.length=8:=hl
 by_cases h3:c % 3=0
 ·refine ⟨_,QsU hl8 hb,?_⟩
  have z:=QdO (g:=mgN 0) (t:=QbZ) (m:=mSl (Qab 1) moN (moS (Qad Qay (Qab 0) (mC (.int 1))))) (fun ρ=>∃a,ρ = [a,some (.str base)]) (fun i:Nat=>D.int (0+(i:Int))) (fun k=>.str (base.take (k+1))) (List.range 7) [none,some (.str base)] O [] ⟨none,rfl⟩ (by
   rintro k hk ρ ⟨a,rfl⟩;refine ⟨_,rfl,⟨_,rfl⟩,rfl,?_⟩;rw [QmM];show (Res.ok (D.str base) O).bind _=_
   rw [Qav,QuV,Qav,Qep (QbE (i:=0+(k:Int)) (j:=1) rfl rfl),Qav,QeB,QlB,if_pos (by omega),show (0+(k:Int)+1)=((k+1:Nat):Int) by omega,Qf5,Qcp])
  rw [zX] at z;show Qbc (QcZ [some (.int c),some (.int 7),none,none,none,none,none,none] O)=_
  rw [pre _ (fun p4=>Qek ((ifY ((t3 p4).trans (by rw [zh h3]))).trans (show QaL _ _ O = .rt (.lst ((List.range 7).map fun k=>.str (base.take (k+1)))) O by
   rw [Qbt,QfX,QiO (n:=7) rfl (by decide),Qav,if_pos (by decide),show Qd3 1 [3] [some (.int c),some (.int 7),some (.str abc),some (.str base),p4,none,none,none] = [none,some (.str base)] from rfl];unfold QbR;rw [z]
   rfl)))]
  rfl
 ·obtain ⟨a,ha⟩:∃a:Nat,(c / 3 % 8:Int)=(a:Int):=⟨(c / 3 % 8).toNat,by omega⟩;obtain ⟨L,hL⟩:∃L:Nat,(if (1+c / 24 % 8:Int) > (a:Int)+1 then 1+c / 24 % 8 else (a:Int)+1)=(L:Int):=⟨(if (1+c / 24 % 8:Int) > (a:Int)+1 then 1+c / 24 % 8 else (a:Int)+1).toNat,by split <;> omega⟩
  have hLb:a+1≤L∧L≤8:=by
   split at hL <;> omega
  refine ⟨_,Qsi hl8 hb (by omega) hLb (mix c 8),?_⟩;show Qbc (QcZ [some (.int c),some (.int 7),none,none,none,none,none,none] O)=_
  rw [pre (.rt (.lst ((List.range 7).map fun k=>.str (nmB base a L (mix c 8) k))) O) (fun p4=>by
   obtain ⟨q4,q7,e2⟩:=Qlj c hl8 ha hL O 7 0 [] p4 none rfl (by omega);rw [jc] at e2;rw [Qau (ifN ((t3 p4).trans (by rw [zm h3]))),Qau (show Qas 5 _ [some (.int c),some (.int 7),some (.str abc),some (.str base),p4,none,none,none] O = .nx [some (.int c),some (.int 7),some (.str abc),some (.str base),p4,some (.int (a:Int)),none,none] O from QaY (by rw [←ha]; exact Qa3 (QbV rfl rfl (by decide)) rfl (by decide))),Qau (show Qas 6 _ [some (.int c),some (.int 7),some (.str abc),some (.str base),p4,some (.int (a:Int)),none,none] O = .nx [some (.int c),some (.int 7),some (.str abc),some (.str base),p4,some (.int (a:Int)),some (.lst []),none] O from rfl),Qau ((Qmw (QiO (n:=7) rfl (by decide))).trans e2)]
   rw [Qbt];show Fl.rt _ O=_;rw [List.map_map]
   rfl)]
  rfl
structure Sml (r:Rm):Prop where
 t:0≤r.t∧r.t≤2
 h:1≤r.h∧r.h≤3
 b:2≤r.b∧r.b≤4
 l:0≤r.l∧r.l≤24
theorem Qkq {hi wi:Int}{x:Rm} (g:GoodR hi wi x):∀(rs done:List Rm),Fit hi wi done rs→(done++rs).any (Qct x)=false→Fit hi wi done (rs ++ [x])
 | [],done,_,h=>⟨g,by simpa using h,trivial⟩
 | y::rs,done,hf,h=>by
  obtain ⟨a,b,c⟩:=hf;exact ⟨a,b,Qkq g rs (done ++ [y]) c (by simpa using h)⟩
theorem QqP {hi wi:Int} (hh:5≤hi) (hw:30≤wi) {r:Rm} (n:NOk r.n) (w:WOk r.w) (s:Sml r):GoodR hi wi r:=by
 obtain ⟨⟨a1,a2⟩,⟨b1,b2⟩,⟨c1,c2⟩,⟨d1,d2⟩⟩:=s;refine ⟨n,w,?_,?_⟩
 ·unfold QcC;rw [zh a1,zh d1,zh b1,zh c1];rfl
 ·unfold Lies;rw [zh (by omega),zh (by omega)];rfl
theorem Qsw (v:Int):∃w,WOk w∧gIx (.lst [.str [99,117,116],.str [99,101,108,108,115],.str [119,111,114,100,115],.str [101,118,101,110]]) (.int (v % 4))=some (.str w):=by
 obtain ⟨d,hd,e⟩:=ixL (l:=[.str [99,117,116],.str [99,101,108,108,115],.str [119,111,114,100,115],.str [101,118,101,110]]) (v:=v) (n:=4) rfl (by decide);simp only [zj,List.not_mem_nil,or_false] at hd
 rcases hd with rfl | rfl | rfl | rfl
 ·exact ⟨_,.inl rfl,e⟩
 ·exact ⟨_,.inr (.inl rfl),e⟩
 ·exact ⟨_,.inr (.inr (.inl rfl)),e⟩
 ·exact ⟨_,.inr (.inr (.inr rfl)),e⟩
theorem Qmh {c:Int}{ρ:Qam}{O:Qae}{j:Int}{k:Nat}{q:Int} (h2:ρ[2]? = some (some (.int c))) (h6:ρ[6]? = some (some (.int (k:Int)))) (hk:k≤100) (hj:0≤j∧j≤100) (hq:0 < q):Qad QaB (Qax Qbb (Qaa (Qab 2) (Qaa (Qad Qay (mC (.int j)) (Qad Qcu (mC (.int 6)) (Qab 6))) Qaf))) (mC (.int q)) ρ O = .ok (.int (mix c (j+6 * (k:Int)) % q)) O:=by
 have v2:Qab 2 ρ O = .ok (.int c) O:=by rw [QcN,h2]
 have v6:Qab 6 ρ O = .ok (.int (k:Int)) O:=by rw [QcN,h6]
 have em:Qad Qcu (mC (.int 6)) (Qab 6) ρ O = .ok (.int (6 * (k:Int))) O:=QaH rfl v6 (by
  rw [Qbv,Qbv];show (if (Qdf 6 || Qdf (k:Int))=true then some (D.int (6 * (k:Int))) else none)=_
  rw [if_pos (by rw [show Qdf 6=true by decide]; rfl)])
 exact Qa3 ((QaV (maS v2 (ma1 (QbE rfl em)))).trans (QiI c _ (by omega) (by omega) O)) rfl hq
theorem Qlh {hi wi:Int} (hh:5≤hi) (hw:30≤wi) (c:Int) {nm:Nat→List Nat} (hn:Nms nm) (o0:Option D) (O:Qae):∀(m k:Nat) (rs:List Rm) (at_:Int) (o6 o7 o8 o9:Option D),k+m≤7→rs.length=k→0≤at_→at_≤4 * k→(∀r∈rs,Sml r∧r.l+r.b≤at_∧∃j,j < k∧r.n=nm j)→Fit hi wi [] rs →
  ∃rs' at' p6 p7 p8 p9,QbA (mgN 6) bGo (QbR (k:Int) m) [o0,some (.int 7),some (.int c),some (.lst ((List.range 7).map fun k=>.str (nm k))),some (.lst (rs.map rD)),some (.int at_),o6,o7,o8,o9] O = .nx [o0,some (.int 7),some (.int c),some (.lst ((List.range 7).map fun k=>.str (nm k))),some (.lst (rs'.map rD)),some (.int at'),p6,p7,p8,p9] O∧rs'.length=k+m∧(∀r∈rs',Sml r)∧Fit hi wi [] rs'∧(∀r∈rs',NOk r.n∧WOk r.w→True)
 | 0,k,rs,at_,o6,o7,o8,o9,_,hl,_,_,hr,hf=>⟨rs,at_,o6,o7,o8,o9,rfl,hl,fun r h=>(hr r h).1,hf,fun _ _ _=>trivial⟩
 | m+1,k,rs,at_,o6,o7,o8,o9,hk,hl,h0,h4,hr,hf=>by
  obtain ⟨w,hw',ew⟩:=Qsw (mix c (16+6 * (k:Int)))
  have i0:gIx (.lst ((List.range 7).map fun k=>.str (nm k))) (.int (k:Int))=some (.str (nm k)):=by
   rw [QjW,Qfy,zB,List.getElem?_range (by omega)];rfl
  generalize hx:(⟨nm k,mix c (17+6 * (k:Int)) % 3,at_,1+mix c (14+6 * (k:Int)) % 3,2+mix c (15+6 * (k:Int)) % 3,w⟩:Rm)=x
  have xn:x.n=nm k:=by rw [←hx]
  have xl:x.l=at_:=by rw [←hx]
  have xw:x.w=w:=by rw [←hx]
  have xb:x.b=2+mix c (15+6 * (k:Int)) % 3:=by rw [←hx]
  have sx:Sml x:=by
   rw [←hx];exact ⟨⟨by show 0≤mix c (17+6 * (k:Int)) % 3; omega,by show mix c (17+6 * (k:Int)) % 3≤2; omega⟩,⟨by show 1≤1+mix c (14+6 * (k:Int)) % 3; omega,by show 1+mix c (14+6 * (k:Int)) % 3≤3; omega⟩,⟨by show 2≤2+mix c (15+6 * (k:Int)) % 3; omega,by show 2+mix c (15+6 * (k:Int)) % 3≤4; omega⟩,⟨h0,by show at_≤24; omega⟩⟩
  have gx:GoodR hi wi x:=QqP hh hw (by rw [xn]; exact hn.ok k (by omega)) (by rw [xw]; exact hw') sx
  have cx:rs.any (Qct x)=false:=by
   rw [List.any_eq_false];intro y hy z;obtain ⟨_,h1,j,hj,ey⟩:=hr y hy;unfold Qct Ov at z;rw [xn,ey,zm (fun e=>hn.ne j k hj (by omega) e.symm),xl,show decide (at_ < y.l+y.b)=false from zm (by omega)] at z;simp at z
  have e:bGo [o0,some (.int 7),some (.int c),some (.lst ((List.range 7).map fun k=>.str (nm k))),some (.lst (rs.map rD)),some (.int at_),some (.int (k:Int)),o7,o8,o9] O = .nx [o0,some (.int 7),some (.int c),some (.lst ((List.range 7).map fun k=>.str (nm k))),some (.lst ((rs ++ [x]).map rD)),some (.int (at_+x.b)),some (.int (k:Int)),some (.int (1+mix c (14+6 * (k:Int)) % 3)),some (.int (2+mix c (15+6 * (k:Int)) % 3)),some (.str w)] O:=by
   have ap:=QmU (i:=4) (ds:=rs.map rD) (d:=rD x) (m:=Qbd (Qaa (Qad gIx (Qab 3) (Qab 6)) (Qaa (Qad QaB (Qax Qbb (Qaa (Qab 2) (Qaa (Qad Qay (mC (.int 17)) (Qad Qcu (mC (.int 6)) (Qab 6))) Qaf))) (mC (.int 3))) (Qaa (Qab 5) (Qaa (Qab 7) (Qaa (Qab 8) (Qaa (Qab 9) Qaf))))))) (ρ:=[o0,some (.int 7),some (.int c),some (.lst ((List.range 7).map fun k=>.str (nm k))),some (.lst (rs.map rD)),some (.int at_),some (.int (k:Int)),some (.int (1+mix c (14+6 * (k:Int)) % 3)),some (.int (2+mix c (15+6 * (k:Int)) % 3)),some (.str w)]) (O:=O) (by
    rw [←hx]
    exact Qfp (maS (QaH (x:=.lst ((List.range 7).map fun k=>.str (nm k))) (y:=.int (k:Int)) rfl rfl i0) (maS (Qmh (j:=17) rfl rfl (by omega) (by decide) (by decide)) rfl)) (show (6:Nat)≤1000000 by decide)) rfl (by rw [zo]; omega)
   unfold bGo
   rw [Qau (show Qas 7 _ [o0,some (.int 7),some (.int c),some (.lst ((List.range 7).map fun k=>.str (nm k))),some (.lst (rs.map rD)),some (.int at_),some (.int (k:Int)),o7,o8,o9] O = .nx [o0,some (.int 7),some (.int c),some (.lst ((List.range 7).map fun k=>.str (nm k))),some (.lst (rs.map rD)),some (.int at_),some (.int (k:Int)),some (.int (1+mix c (14+6 * (k:Int)) % 3)),o8,o9] O from QaY (QbE (a:=mC (.int 1)) rfl (Qmh (j:=14) rfl rfl (by omega) (by decide) (by decide)))),
    Qau (show Qas 8 _ [o0,some (.int 7),some (.int c),some (.lst ((List.range 7).map fun k=>.str (nm k))),some (.lst (rs.map rD)),some (.int at_),some (.int (k:Int)),some (.int (1+mix c (14+6 * (k:Int)) % 3)),o8,o9] O = .nx [o0,some (.int 7),some (.int c),some (.lst ((List.range 7).map fun k=>.str (nm k))),some (.lst (rs.map rD)),some (.int at_),some (.int (k:Int)),some (.int (1+mix c (14+6 * (k:Int)) % 3)),some (.int (2+mix c (15+6 * (k:Int)) % 3)),o9] O from QaY (QbE (a:=mC (.int 2)) rfl (Qmh (j:=15) rfl rfl (by omega) (by decide) (by decide)))),
    Qau (show Qas 9 _ [o0,some (.int 7),some (.int c),some (.lst ((List.range 7).map fun k=>.str (nm k))),some (.lst (rs.map rD)),some (.int at_),some (.int (k:Int)),some (.int (1+mix c (14+6 * (k:Int)) % 3)),some (.int (2+mix c (15+6 * (k:Int)) % 3)),o9] O = .nx [o0,some (.int 7),some (.int c),some (.lst ((List.range 7).map fun k=>.str (nm k))),some (.lst (rs.map rD)),some (.int at_),some (.int (k:Int)),some (.int (1+mix c (14+6 * (k:Int)) % 3)),some (.int (2+mix c (15+6 * (k:Int)) % 3)),some (.str w)] O from QaY (QaH (x:=.lst [.str [99,117,116],.str [99,101,108,108,115],.str [119,111,114,100,115],.str [101,118,101,110]]) rfl (Qmh (j:=16) rfl rfl (by omega) (by decide) (by decide)) ew)),
    Qau ap,xb,zF]
   exact QaY (QbE rfl rfl)
  obtain ⟨rs',at',p6,p7,p8,p9,e2,f1,f2,f3,f4⟩:=Qlh hh hw c hn o0 O m (k+1) (rs ++ [x]) (at_+x.b) (some (.int (k:Int))) (some (.int (1+mix c (14+6 * (k:Int)) % 3))) (some (.int (2+mix c (15+6 * (k:Int)) % 3))) (some (.str w)) (by omega) (by simp [hl]) (by have:=sx.b; omega) (by have:=sx.b; push_cast; omega) (fun r hr'=>by
   rcases zA.mp hr' with hr' | hr'
   ·obtain ⟨q1,q2,j,q3,q4⟩:=hr r hr'
    have:=sx.b
    exact ⟨q1,by omega,j,by omega,q4⟩
   ·rw [zt.mp hr']
    exact ⟨sx,by rw [xl]; omega,k,by omega,xn⟩) (Qkq gx rs [] hf (by simpa using cx))
  refine ⟨rs',at',p6,p7,p8,p9,?_,by omega,f2,f3,f4⟩;rw [Qic,Qfg (ρ1:=[o0,some (.int 7),some (.int c),some (.lst ((List.range 7).map fun k=>.str (nm k))),some (.lst (rs.map rD)),some (.int at_),some (.int (k:Int)),o7,o8,o9]) rfl e];exact e2
theorem QsM (ns:List Int) (O:Qae):∃(hi wi:Int) (rs:List Rm),Qgo [.lst (ns.map D.int),.int 7] O = .ok (.tup [.int hi,.int wi,.lst (rs.map rD)]) O∧(5≤hi∧hi≤7)∧(30≤wi∧wi≤32)∧rs.length=7∧(∀r∈rs,Sml r)∧Fit hi wi [] rs:=by
 have e0:QaZ [.lst (ns.map D.int),.int 0] O = .ok (.int (ns.getD 0 0)) O:=QfZ ns 0 O;have e1:QaZ [.lst (ns.map D.int),.int 1] O = .ok (.int (ns.getD 1 0)) O:=QfZ ns 1 O
 generalize ns.getD 0 0=c at e0
 generalize ns.getD 1 0=c1 at e1
 obtain ⟨nm,hn,en⟩:=Qtn c1 O
 have hh:5≤5+mix c 9 % 3:=by omega
 have hw:30≤30+mix c 10 % 3:=by omega
 obtain ⟨rs,at',p6,p7,p8,p9,e2,f1,f2,f3,_⟩:=Qlh hh hw c hn (some (.lst (ns.map D.int))) O 7 0 [] 0 none none none none (by omega) rfl (by omega) (by omega) (fun r hr=>nomatch hr) trivial;refine ⟨5+mix c 9 % 3,30+mix c 10 % 3,rs,?_,⟨hh,by omega⟩,⟨hw,by omega⟩,by omega,f2,f3⟩;rw [jc] at e2;show Qbc (Qe3 [some (.lst (ns.map D.int)),some (.int 7),none,none,none,none,none,none,none,none] O)=_;unfold Qe3
 rw [Qau (show Qas 2 _ [some (.lst (ns.map D.int)),some (.int 7),none,none,none,none,none,none,none,none] O = .nx [some (.lst (ns.map D.int)),some (.int 7),some (.int c),none,none,none,none,none,none,none] O from QaY ((QaV (ds:=[.lst (ns.map D.int),.int 0]) rfl).trans e0)),
  Qau (show Qas 3 _ [some (.lst (ns.map D.int)),some (.int 7),some (.int c),none,none,none,none,none,none,none] O = .nx [some (.lst (ns.map D.int)),some (.int 7),some (.int c),some (.lst ((List.range 7).map fun k=>.str (nm k))),none,none,none,none,none,none] O from QaY ((QaV (ds:=[.int c1,.int 7]) (maS ((QaV (ds:=[.lst (ns.map D.int),.int 1]) rfl).trans e1) rfl)).trans en)),
  Qau (show Qas 4 _ [some (.lst (ns.map D.int)),some (.int 7),some (.int c),some (.lst ((List.range 7).map fun k=>.str (nm k))),none,none,none,none,none,none] O = .nx [some (.lst (ns.map D.int)),some (.int 7),some (.int c),some (.lst ((List.range 7).map fun k=>.str (nm k))),some (.lst []),none,none,none,none,none] O from rfl),
  Qau (show Qas 5 _ [some (.lst (ns.map D.int)),some (.int 7),some (.int c),some (.lst ((List.range 7).map fun k=>.str (nm k))),some (.lst []),none,none,none,none,none] O = .nx [some (.lst (ns.map D.int)),some (.int 7),some (.int c),some (.lst ((List.range 7).map fun k=>.str (nm k))),some (.lst []),some (.int 0),none,none,none,none] O from rfl)]
 show Qbc (Qaq (QcV _ (mgN 6) bGo) _ _ _)=_;rw [Qau ((Qmw (QiO (n:=7) rfl (by decide))).trans e2)];rw [Que,Qbt,Qfp (maS (QbE rfl (Qa3 ((QaV (ds:=[.int c,.int 9]) rfl).trans (QiI c 9 (by decide) (by decide) O)) rfl (by decide))) (maS (QbE rfl (Qa3 ((QaV (ds:=[.int c,.int 10]) rfl).trans (QiI c 10 (by decide) (by decide) O)) rfl (by decide))) (ma1 rfl))) (show (3:Nat)≤1000000 by decide),QbN,Qs5];rfl
theorem Qg9 {a b:L2.M (Option Int)}{m:L2.M D}{ρ:Qam}{O:Qae}{t:List D}{x y:Option Int} (hm:m ρ O = .ok (.tup t) O) (ha:a ρ O = .ok x O) (hb:b ρ O = .ok y O):mSl m a b ρ O = .ok (.tup (QcF t x y)) O:=by
 rw [QmM,hm,Qav,ha,Qav,hb,Qav,show QaU O (.tup t) = .tup t from rfl,Qrl,Qcp]
theorem Qkt {hi wi:Int}{pre:List Rm}{x:Rm} (hn:NOk x.n) (hw:WOk x.w) (h:QcC x.t x.l x.h x.b=true→Lies x.t x.l x.h x.b hi wi=true→pre.any (Qct x)=true):QdU hi wi pre (rD x):=by
 have er:∀O,QbK [rD x] O = .ok (.bl (QcC x.t x.l x.h x.b)) O:=fun O=>by
  have e:=QgO (t:=x.t) (l:=x.l) (h:=x.h) (b:=x.b) (QkD hn O) (QlL hw O);rw [Bool.true_and,Bool.and_true] at e;exact e
 have el:∀O,Qby [rD x,.int hi,.int wi] O = .ok (.bl (Lies x.t x.l x.h x.b hi wi)) O:=fun O=>QnP (.str x.n) (.str x.w) x.t x.l x.h x.b hi wi O
 cases hL:QcC x.t x.l x.h x.b with
 | false=>exact .nr fun O=>by rw [er,hL]
 | true =>
  cases hI:Lies x.t x.l x.h x.b hi wi with
  | false=>exact .nl (fun O=>by rw [er,hL]) (fun O=>by rw [el,hI])
  | true=>exact .cf x rfl ⟨hn,hw,hL,hI⟩ (h hL hI)
def NW (x:D):Prop:=∀O,QaW [x] O = .ok (.bl false) O
theorem Qmn {hi wi:Int}{pre:List Rm}{n w x:D}{l h b:Int} (hx:NW x):QdU hi wi pre (six n x (.int l) (.int h) (.int b) w):=.nr fun O=>Qfw (hx O) (QbW l O) (QbW h O) (QbW b O) rfl
theorem Ql4 {hi wi:Int}{pre:List Rm}{n w x:D}{t h b:Int} (hx:NW x):QdU hi wi pre (six n (.int t) x (.int h) (.int b) w):=.nr fun O=>Qfw (QbW t O) (hx O) (QbW h O) (QbW b O) rfl
theorem QmI {hi wi:Int}{pre:List Rm}{n w x:D}{t l b:Int} (hx:NW x):QdU hi wi pre (six n (.int t) (.int l) x (.int b) w):=.nr fun O=>Qfw (QbW t O) (QbW l O) (hx O) (QbW b O) rfl
theorem Qmx {hi wi:Int}{pre:List Rm}{n w x:D}{t l h:Int} (hx:NW x):QdU hi wi pre (six n (.int t) (.int l) (.int h) x w):=.nr fun O=>Qfw (QbW t O) (QbW l O) (QbW h O) (hx O) rfl
def smL:D:=.lst [.lst [.int (-1),.non,.bl true,.str [48]],.lst [.int (-1),.non,.bl false,.str [48]],.lst [.int 0,.non,.bl true,.str [49]],.lst [.int 1,.non,.bl true,.str [50]]]
theorem Qhy {v hi wi:Int}{r:Rm}{a:Int}{x0 x1 x2 x3:D}{far near:Int}{F:D→D} (ha:v % 4=a) (e5:gIx smL (.int a)=some (.lst [x0,x1,x2,x3])) (ef:gIx (.lst [.int hi,.int wi,.int (hi+1),.int (wi+1)]) (.int a)=some (.int far)) (en:gIx (.lst [.int (hi - r.h),.int (wi - r.b),.int (hi - r.t),.int (wi - r.l)]) (.int a)=some (.int near)) (O:Qae)
  (ed:∀x (ρ:Qam),ρ[1]? = some (some (rD r))→ρ[4]? = some (some (.int (1+a)))→ρ[8]? = some (some x)→Qad Qay (Qad Qay (mSl (Qab 1) moN (moS (Qab 4))) (Qbd (Qaa (Qab 8) Qaf))) (mSl (Qab 1) (moS (Qad Qay (Qab 4) (mC (.int 1)))) moN) ρ O = .ok (F x) O) :
  ∃x,(x=x0∨x=x1∨x=x2∨x=x3∨x = .int far∨x = .int (near+1))∧QdT [.int v,rD r,.int hi,.int wi] O = .ok (F x) O:=by
 obtain ⟨x,hx,e8⟩:=ixL (l:=[x0,x1,x2,x3,.int far,.int (near+1)]) (v:=v / 4) (n:=6) rfl (by decide);simp only [zj,List.not_mem_nil,or_false] at hx;refine ⟨x,hx,?_⟩
 have sub1:∀(ρ:Qam),ρ[4]? = some (some (.int (1+a)))→Qad Qbj (Qab 4) (mC (.int 1)) ρ O = .ok (.int a) O:=fun ρ h4=>by
  have v4:Qab 4 ρ O = .ok (.int (1+a)) O:=by rw [QcN,h4]
  have z:=Qit v4 (b:=mC (.int 1)) (j:=1) rfl;rw [show 1+a - 1=a by omega] at z;exact z
 have eh:∀(ρ:Qam),ρ[2]? = some (some (.int hi))→Qab 2 ρ O = .ok (.int hi) O:=fun ρ h=>by rw [QcN,h]
 have s4:Qas 4 (Qad Qay (mC (.int 1)) (Qad QaB (Qab 0) (mC (.int 4)))) [some (.int v),some (rD r),some (.int hi),some (.int wi),none,none,none,none,none] O = .nx [some (.int v),some (rD r),some (.int hi),some (.int wi),some (.int (1+a)),none,none,none,none] O:=by
  rw [←ha];exact QaY (QbE rfl (Qa3 rfl rfl (by decide)))
 have s6:Qas 6 (Qad gIx (Qa1 (Qaa (mG (Qab 2)) (Qaa (mG (Qab 3)) (Qaa (Qad Qay (Qab 2) (mC (.int 1))) (Qaa (Qad Qay (Qab 3) (mC (.int 1))) Qaf))))) (Qad Qbj (Qab 4) (mC (.int 1)))) [some (.int v),some (rD r),some (.int hi),some (.int wi),some (.int (1+a)),some smL,none,none,none] O = .nx [some (.int v),some (rD r),some (.int hi),some (.int wi),some (.int (1+a)),some smL,some (.int far),none,none] O:=QaY (QaH (x:=.lst [.int hi,.int wi,.int (hi+1),.int (wi+1)]) rfl (sub1 _ rfl) ef);have s7:Qas 7 (Qad Qay (Qad gIx (Qa1 (Qaa (Qad Qbj (Qab 2) (Qad gIx (Qab 1) (mC (.int 3)))) (Qaa (Qad Qbj (Qab 3) (Qad gIx (Qab 1) (mC (.int 4)))) (Qaa (Qad Qbj (Qab 2) (Qad gIx (Qab 1) (mC (.int 1)))) (Qaa (Qad Qbj (Qab 3) (Qad gIx (Qab 1) (mC (.int 2)))) Qaf))))) (Qad Qbj (Qab 4) (mC (.int 1)))) (mC (.int 1))) [some (.int v),some (rD r),some (.int hi),some (.int wi),some (.int (1+a)),some smL,some (.int far),none,none] O = .nx [some (.int v),some (rD r),some (.int hi),some (.int wi),some (.int (1+a)),some smL,some (.int far),some (.int (near+1)),none] O:=QaY (QbE (QaH (x:=.lst [.int (hi - r.h),.int (wi - r.b),.int (hi - r.t),.int (wi - r.l)]) rfl (sub1 _ rfl) en) rfl)
 have s8:Qas 8 (Qad gIx (Qad Qay (Qad gIx (Qab 5) (Qad Qbj (Qab 4) (mC (.int 1)))) (Qa1 (Qaa (Qab 6) (Qaa (Qab 7) Qaf)))) (Qad QaB (Qad QaS (Qab 0) (mC (.int 4))) (mC (.int 6)))) [some (.int v),some (rD r),some (.int hi),some (.int wi),some (.int (1+a)),some smL,some (.int far),some (.int (near+1)),none] O = .nx [some (.int v),some (rD r),some (.int hi),some (.int wi),some (.int (1+a)),some smL,some (.int far),some (.int (near+1)),some x] O:=QaY (QaH (QaH (z:=.lst [x0,x1,x2,x3,.int far,.int (near+1)]) (QaH (x:=smL) rfl (sub1 _ rfl) e5) (y:=.lst [.int far,.int (near+1)]) rfl rfl) (Qa3 (QbV rfl rfl (by decide)) rfl (by decide)) e8)
 show Qbc (QdX [some (.int v),some (rD r),some (.int hi),some (.int wi),none,none,none,none,none] O)=_;unfold QdX;rw [Qau s4,Qau (show Qas 5 _ [some (.int v),some (rD r),some (.int hi),some (.int wi),some (.int (1+a)),none,none,none,none] O = .nx [some (.int v),some (rD r),some (.int hi),some (.int wi),some (.int (1+a)),some smL,none,none,none] O from rfl),Qau s6,Qau s7,Qau s8,Qbt,ed x _ rfl rfl rfl,QbN];rfl
theorem QoN {v hi wi:Int}{r:Rm}{pre:List Rm} (g:GoodR hi wi r) (s:Sml r) (O:Qae):∃d,QdT [.int v,rD r,.int hi,.int wi] O = .ok d O∧QdU hi wi pre d:=by
 obtain ⟨⟨a1,a2⟩,⟨b1,b2⟩,⟨c1,c2⟩,⟨d1,d2⟩⟩:=s;have hn:=g.n;have hw:=g.w
 have nN:NW .non:=fun O=>rfl
 have nB:∀b,NW (.bl b):=fun b O=>by cases b <;> rfl
 have nS:∀l,NW (.str l):=fun l O=>rfl
 have bi:∀t l h b:Int,(0≤t→0≤l→1≤h→2≤b→t+h≤hi→l+b≤wi→False)→QdU hi wi pre (rD ⟨r.n,t,l,h,b,r.w⟩):=fun t l h b hf=>Qkt hn hw (fun hL hI=>by
  exfalso
  unfold QcC at hL;unfold Lies at hI;simp only [zg,decide_eq_true_eq] at hL hI
  exact hf hL.1 hL.2.1 hL.2.2.1 hL.2.2.2 hI.1 hI.2)
 have h4:v % 4=0∨v % 4=1∨v % 4=2∨v % 4=3:=by omega
 have V:∀{ρ:Qam}{i:Nat}{d:D},ρ[i]? = some (some d)→Qab i ρ O = .ok d O:=fun h=>by rw [QcN,h]
 rcases h4 with ha | ha | ha | ha
 ·obtain ⟨x,hx,e⟩:=Qhy (r:=r) (F:=fun x=>six (.str r.n) x (.int r.l) (.int r.h) (.int r.b) (.str r.w)) (hi:=hi) (wi:=wi) ha rfl rfl rfl O (fun x ρ r1 r4 r8=>by
   exact QaH (QaH (Qg9 (V r1) rfl (Qep (V r4))) (Qfp (ma1 (V r8)) (show (1:Nat)≤1000000 by decide)) rfl) (Qg9 (V r1) (Qep (QbE (V r4) rfl)) rfl) rfl)
  refine ⟨_,e,?_⟩
  rcases hx with rfl | rfl | rfl | rfl | rfl | rfl
  ·exact bi (-1) r.l r.h r.b (by omega)
  ·exact Qmn nN
  ·exact Qmn (nB _)
  ·exact Qmn (nS _)
  ·exact bi hi r.l r.h r.b (by omega)
  ·exact bi (hi - r.h+1) r.l r.h r.b (by omega)
 ·obtain ⟨x,hx,e⟩:=Qhy (r:=r) (F:=fun x=>six (.str r.n) (.int r.t) x (.int r.h) (.int r.b) (.str r.w)) (hi:=hi) (wi:=wi) ha rfl rfl rfl O (fun x ρ r1 r4 r8=>by
   exact QaH (QaH (Qg9 (V r1) rfl (Qep (V r4))) (Qfp (ma1 (V r8)) (show (1:Nat)≤1000000 by decide)) rfl) (Qg9 (V r1) (Qep (QbE (V r4) rfl)) rfl) rfl)
  refine ⟨_,e,?_⟩
  rcases hx with rfl | rfl | rfl | rfl | rfl | rfl
  ·exact bi r.t (-1) r.h r.b (by omega)
  ·exact Ql4 nN
  ·exact Ql4 (nB _)
  ·exact Ql4 (nS _)
  ·exact bi r.t wi r.h r.b (by omega)
  ·exact bi r.t (wi - r.b+1) r.h r.b (by omega)
 ·obtain ⟨x,hx,e⟩:=Qhy (r:=r) (F:=fun x=>six (.str r.n) (.int r.t) (.int r.l) x (.int r.b) (.str r.w)) (hi:=hi) (wi:=wi) ha rfl rfl rfl O (fun x ρ r1 r4 r8=>by
   exact QaH (QaH (Qg9 (V r1) rfl (Qep (V r4))) (Qfp (ma1 (V r8)) (show (1:Nat)≤1000000 by decide)) rfl) (Qg9 (V r1) (Qep (QbE (V r4) rfl)) rfl) rfl)
  refine ⟨_,e,?_⟩
  rcases hx with rfl | rfl | rfl | rfl | rfl | rfl
  ·exact bi r.t r.l 0 r.b (by omega)
  ·exact QmI nN
  ·exact QmI (nB _)
  ·exact QmI (nS _)
  ·exact bi r.t r.l (hi+1) r.b (by omega)
  ·exact bi r.t r.l (hi - r.t+1) r.b (by omega)
 ·obtain ⟨x,hx,e⟩:=Qhy (r:=r) (F:=fun x=>six (.str r.n) (.int r.t) (.int r.l) (.int r.h) x (.str r.w)) (hi:=hi) (wi:=wi) ha rfl rfl rfl O (fun x ρ r1 r4 r8=>by
   exact QaH (QaH (Qg9 (V r1) rfl (Qep (V r4))) (Qfp (ma1 (V r8)) (show (1:Nat)≤1000000 by decide)) rfl) (Qg9 (V r1) (Qep (QbE (V r4) rfl)) rfl) rfl)
  refine ⟨_,e,?_⟩
  rcases hx with rfl | rfl | rfl | rfl | rfl | rfl
  ·exact bi r.t r.l r.h 1 (by omega)
  ·exact Qmx nN
  ·exact Qmx (nB _)
  ·exact Qmx (nS _)
  ·exact bi r.t r.l r.h (wi+1) (by omega)
  ·exact bi r.t r.l r.h (wi - r.l+1) (by omega)
theorem Qsz {v hi wi:Int}{r y:Rm}{pre:List Rm} (g:GoodR hi wi r) (hy:y∈pre) (sy:Sml y) (hh:5≤hi) (hw:30≤wi) (O:Qae):∃d,Qgk [.int v,rD r,rD y,.int hi,.int wi] O = .ok d O∧QdU hi wi pre d:=by
 obtain ⟨⟨a1,a2⟩,⟨b1,b2⟩,⟨c1,c2⟩,⟨d1,d2⟩⟩:=sy;have m1:=zQ (v / 64) (show y.h≠0 by omega);have m2:=zV (v / 64) (show 0 < y.h by omega);have m3:=zQ (v / 256) (show y.b≠0 by omega);have m4:=zV (v / 256) (show 0 < y.b by omega)
 generalize hrow:y.t+v / 64 % y.h=row
 generalize hcol:y.l+v / 256 % y.b=col
 have m5:=zQ (v / 1024) (show row+1≠0 by omega);have m6:=zV (v / 1024) (show 0 < row+1 by omega);have m7:=zQ (v / 4096) (show hi - row≠0 by omega);have m8:=zQ (v / 65536) (show col+1≠0 by omega);have m9:=zV (v / 65536) (show 0 < col+1 by omega);have m10:=zQ (v / 1048576) (show wi - col≠0 by omega)
 generalize htop:v / 1024 % (row+1)=top at m5 m6
 generalize htal:row - top+1+v / 4096 % (hi - row)=tal
 generalize hlef:v / 65536 % (col+1)=lef at m8 m9
 generalize hbro:(if col - lef+1+v / 1048576 % (wi - col) > 2 then col - lef+1+v / 1048576 % (wi - col) else (2:Int))=bro
 have hb2:col - lef+1≤bro:=by
  rw [←hbro]
  split <;> omega
 refine ⟨rD ⟨r.n,top,lef,tal,bro,r.w⟩,?_,Qkt g.n g.w fun _ _=>List.any_eq_true.mpr ⟨y,hy,?_⟩⟩
 ·show Qbc (Qe4 [some (.int v),some (rD r),some (rD y),some (.int hi),some (.int wi),none,none,none,none,none,none] O)=_;unfold Qe4
  rw [Qau (show Qas 5 _ [some (.int v),some (rD r),some (rD y),some (.int hi),some (.int wi),none,none,none,none,none,none] O = .nx [some (.int v),some (rD r),some (rD y),some (.int hi),some (.int wi),some (.int row),none,none,none,none,none] O from QaY (by
    rw [←hrow]
    exact QbE rfl (Qa3 (QbV rfl rfl (by decide)) rfl (by omega)))),
   Qau (show Qas 6 _ [some (.int v),some (rD r),some (rD y),some (.int hi),some (.int wi),some (.int row),none,none,none,none,none] O = .nx [some (.int v),some (rD r),some (rD y),some (.int hi),some (.int wi),some (.int row),some (.int col),none,none,none,none] O from QaY (by
    rw [←hcol]
    exact QbE rfl (Qa3 (QbV rfl rfl (by decide)) rfl (by omega)))),
   Qau (show Qas 7 _ [some (.int v),some (rD r),some (rD y),some (.int hi),some (.int wi),some (.int row),some (.int col),none,none,none,none] O = .nx [some (.int v),some (rD r),some (rD y),some (.int hi),some (.int wi),some (.int row),some (.int col),some (.int top),none,none,none] O from QaY (by
    rw [←htop]
    exact Qa3 (QbV rfl rfl (by decide)) (QbE rfl rfl) (by omega))),
   Qau (show Qas 8 _ [some (.int v),some (rD r),some (rD y),some (.int hi),some (.int wi),some (.int row),some (.int col),some (.int top),none,none,none] O = .nx [some (.int v),some (rD r),some (rD y),some (.int hi),some (.int wi),some (.int row),some (.int col),some (.int top),some (.int tal),none,none] O from QaY (by
    rw [←htal]
    exact QbE (QbE (Qit rfl rfl) rfl) (Qa3 (QbV rfl rfl (by decide)) (Qit rfl rfl) (by omega)))),
   Qau (show Qas 9 _ [some (.int v),some (rD r),some (rD y),some (.int hi),some (.int wi),some (.int row),some (.int col),some (.int top),some (.int tal),none,none] O = .nx [some (.int v),some (rD r),some (rD y),some (.int hi),some (.int wi),some (.int row),some (.int col),some (.int top),some (.int tal),some (.int lef),none] O from QaY (by
    rw [←hlef]
    exact Qa3 (QbV rfl rfl (by decide)) (QbE rfl rfl) (by omega))),
   Qau (show Qas 10 _ [some (.int v),some (rD r),some (rD y),some (.int hi),some (.int wi),some (.int row),some (.int col),some (.int top),some (.int tal),some (.int lef),none] O = .nx [some (.int v),some (rD r),some (rD y),some (.int hi),some (.int wi),some (.int row),some (.int col),some (.int top),some (.int tal),some (.int lef),some (.int bro)] O from QaY (by
    rw [←hbro]
    exact Qea (xs:=[.int 2,.int (col - lef+1+v / 1048576 % (wi - col))]) (maS rfl (ma1 (QbE (QbE (Qit rfl rfl) rfl) (Qa3 (QbV rfl rfl (by decide)) (Qit rfl rfl) (by omega))))) Qng))]
  rfl
 ·unfold Qct Ov;rw [show decide (top < y.t+y.h)=true from zh (by omega),show decide (y.t < top+tal)=true from zh (by omega),show decide (lef < y.l+y.b)=true from zh (by omega),show decide (y.l < lef+bro)=true from zh (by omega)];simp
theorem Qtk {r:Rm} (n:NOk r.n) (w:WOk r.w):QcQ (rD r)=true∧(toP (rD r)).canLay0=true∧(toP (rD r)).depth≤5:=by
 have hn:=QhI (l:=r.n) (fun c hc=>by have:=n.ok c hc; omega);have hw:=QhI (l:=r.w) (fun c hc=>by rcases w with h | h | h | h <;> rw [h] at hc <;> revert c <;> decide);refine ⟨rfl,?_,?_⟩
 ·show ((PyData.str (S r.n)).canLay0&&((PyData.int r.t).canLay0&&((PyData.int r.l).canLay0&&((PyData.int r.h).canLay0&&((PyData.int r.b).canLay0&&((PyData.str (S r.w)).canLay0&&true))))))=true;rw [hn,hw];rfl
 ·show PyData.depth (.tuple [.str (S r.n),.int r.t,.int r.l,.int r.h,.int r.b,.str (S r.w)])≤5;simp [PyData.depth,PyData.depthAll]
theorem QrV {pre:List Rm} (h:∀r∈pre,NOk r.n∧WOk r.w):gNe (.lst (pre.map rD)) (.lst [])=some (.bl (!pre.isEmpty)):=by
 have ok:okE (.lst (pre.map rD))=true:=QlI (n:=5) (by decide) fun d hd=>by
  obtain ⟨r,hr,rfl⟩:=zU.mp hd;exact Qtk (h r hr).1 (h r hr).2
 rw [QtQ,ok,show okE (.lst [])=true from rfl]
 cases pre with
 | nil=>rfl
 | cons x xs=>rfl
theorem Quj {v hi wi:Int}{r:Rm}{pre:List Rm} (g:GoodR hi wi r) (s:Sml r) (hp:∀y∈pre,Sml y∧NOk y.n∧WOk y.w) (hh:5≤hi) (hw:30≤wi) (O:Qae):∃d,Qex [.int v,rD r,.lst (pre.map rD),.int hi,.int wi] O = .ok d O∧QdU hi wi pre d:=by
 have tw:∀k:Int,QaM (Qad gEq (Qab 5) (mC (.int k))) [some (.int v),some (rD r),some (.lst (pre.map rD)),some (.int hi),some (.int wi),some (.int (v % 8))] O = .ok (decide (v % 8=k)) O:=fun k=>Qgn rfl rfl
 have no:∀k:Int,v % 8≠k→QaM (Qad gEq (Qab 5) (mC (.int k))) [some (.int v),some (rD r),some (.lst (pre.map rD)),some (.int hi),some (.int wi),some (.int (v % 8))] O = .ok false O:=fun k h=>by rw [tw,zm h]
 have ye:∀k:Int,v % 8=k→QaM (Qad gEq (Qab 5) (mC (.int k))) [some (.int v),some (rD r),some (.lst (pre.map rD)),some (.int hi),some (.int wi),some (.int (v % 8))] O = .ok true O:=fun k h=>by rw [tw,zh h]
 have ne:QaM (Qad gNe (Qab 2) (Qa1 Qaf)) [some (.int v),some (rD r),some (.lst (pre.map rD)),some (.int hi),some (.int wi),some (.int (v % 8))] O = .ok (!pre.isEmpty) O:=QfW (QaH (y:=.lst []) rfl rfl (QrV fun y hy=>(hp y hy).2));have u8:Qad QaS (Qab 0) (mC (.int 8)) [some (.int v),some (rD r),some (.lst (pre.map rD)),some (.int hi),some (.int wi),some (.int (v % 8))] O = .ok (.int (v / 8)) O:=QbV rfl rfl (by decide);have s5:Qas 5 (Qad QaB (Qab 0) (mC (.int 8))) [some (.int v),some (rD r),some (.lst (pre.map rD)),some (.int hi),some (.int wi),none] O = .nx [some (.int v),some (rD r),some (.lst (pre.map rD)),some (.int hi),some (.int wi),some (.int (v % 8))] O:=QaY (Qa3 rfl rfl (by decide))
 have fin:∀{d:D},Qca [some (.int v),some (rD r),some (.lst (pre.map rD)),some (.int hi),some (.int wi),none] O = .rt d O→Qex [.int v,rD r,.lst (pre.map rD),.int hi,.int wi] O = .ok d O:=fun h=>by
  show Qbc (Qca [some (.int v),some (rD r),some (.lst (pre.map rD)),some (.int hi),some (.int wi),none] O)=_;rw [h];rfl
 have hpl:∀{y:D}{n:Int},pre≠[]→∃y,y∈pre∧gIx (.lst (pre.map rD)) (.int (v / 8 % (pre.length:Int)))=some (rD y):=fun h=>by
  have h0:0 < pre.length:=List.length_pos_iff.mpr h;obtain ⟨d,hd,e⟩:=ixL (l:=pre.map rD) (v:=v / 8) (n:=(pre.length:Int)) (by rw [zo]) (by omega);obtain ⟨y,hy,rfl⟩:=zU.mp hd;exact ⟨y,hy,e⟩
 have ahd:∀y,gIx (.lst (pre.map rD)) (.int (v / 8 % (pre.length:Int)))=some (rD y)→pre≠[]→Qad gIx (Qab 2) (Qad QaB (Qad QaS (Qab 0) (mC (.int 8))) (QaX Qdj (Qaa (Qab 2) Qaf))) [some (.int v),some (rD r),some (.lst (pre.map rD)),some (.int hi),some (.int wi),some (.int (v % 8))] O = .ok (rD y) O:=fun y e h=>by
  have h0:0 < pre.length:=List.length_pos_iff.mpr h;have l:=QnN (m:=Qab 2) (ρ:=[some (.int v),some (rD r),some (.lst (pre.map rD)),some (.int hi),some (.int wi),some (.int (v % 8))]) (O:=O) (l:=pre.map rD) rfl;rw [zo] at l;exact QaH (x:=.lst (pre.map rD)) rfl (Qa3 u8 l (by omega)) e
 by_cases h0:v % 8=0
 ·obtain ⟨d,hd,e⟩:=ixL (l:=[.non,.lst [.str r.n,.int r.t,.int r.l,.int r.h,.int r.b,.str r.w],.str [114,111,111,109],.int 7,.tup []]) (v:=v / 8) (n:=5) rfl (by decide);refine ⟨d,fin ?_,.nr ?_⟩
  ·unfold Qca;rw [Qau s5,Qek ((ifY (ye 0 h0)).trans (by rw [Qbt,QaH (x:=.lst [.non,.lst [.str r.n,.int r.t,.int r.l,.int r.h,.int r.b,.str r.w],.str [114,111,111,109],.int 7,.tup []]) rfl (Qa3 u8 rfl (by decide)) e,QbN]))]
  ·simp only [zj,List.not_mem_nil,or_false] at hd
   rcases hd with rfl | rfl | rfl | rfl | rfl <;> exact fun O=>rfl
 by_cases h1:v % 8=1
 ·obtain ⟨d,hd,e⟩:=ixL (l:=[.tup [.str r.n,.int r.t,.int r.l,.int r.h,.int r.b],.tup [.str r.n,.int r.t,.int r.l,.int r.h,.int r.b,.str r.w,.int 0]]) (v:=v / 8) (n:=2) rfl (by decide);refine ⟨d,fin ?_,.nr ?_⟩
  ·unfold Qca;rw [Qau s5,Qau (ifN (no 0 h0)),Qek ((ifY (ye 1 h1)).trans (by rw [Qbt,QaH (x:=.lst [.tup [.str r.n,.int r.t,.int r.l,.int r.h,.int r.b],.tup [.str r.n,.int r.t,.int r.l,.int r.h,.int r.b,.str r.w,.int 0]]) rfl (Qa3 u8 rfl (by decide)) e,QbN]))]
  ·simp only [zj,List.not_mem_nil,or_false] at hd
   rcases hd with rfl | rfl <;> exact fun O=>rfl
 by_cases h2:v % 8=2
 ·obtain ⟨x,hx,e⟩:=ixL (l:=[.non,.str [],.str [65],.str [97,98,99,100,101,102,103,104,105],.str [97,32,98],.int 1,.lst [.str [97]]]) (v:=v / 8) (n:=7) rfl (by decide);refine ⟨six x (.int r.t) (.int r.l) (.int r.h) (.int r.b) (.str r.w),fin ?_,.nr fun O=>?_⟩
  ·unfold Qca;rw [Qau s5,Qau (ifN (no 0 h0)),Qau (ifN (no 1 h1)),Qek ((ifY (ye 2 h2)).trans (by rw [Qbt,QaH (z:=six x (.int r.t) (.int r.l) (.int r.h) (.int r.b) (.str r.w)) (Qfp (ma1 (QaH (x:=.lst [.non,.str [],.str [65],.str [97,98,99,100,101,102,103,104,105],.str [97,32,98],.int 1,.lst [.str [97]]]) rfl (Qa3 u8 rfl (by decide)) e)) (show (1:Nat)≤1000000 by decide)) (y:=.tup [.int r.t,.int r.l,.int r.h,.int r.b,.str r.w]) rfl rfl,QbN]))]
  ·have hb:QdH [x] O = .ok (.bl false) O:=by
    simp only [zj,List.not_mem_nil,or_false] at hx
    rcases hx with rfl | rfl | rfl | rfl | rfl | rfl | rfl <;> rfl
   have er:=QgO (t:=r.t) (l:=r.l) (h:=r.h) (b:=r.b) hb (QlL g.w O);rw [Bool.false_and] at er;exact er
 by_cases h3:v % 8=3
 ·obtain ⟨x,hx,e⟩:=ixL (l:=[.non,.str [],.str [101,118,101,110,32],.str [99,101,108,108,115,44],.int 0,.tup [.str [99,117,116]]]) (v:=v / 8) (n:=6) rfl (by decide);refine ⟨six (.str r.n) (.int r.t) (.int r.l) (.int r.h) (.int r.b) x,fin ?_,.nr fun O=>?_⟩
  ·unfold Qca;rw [Qau s5,Qau (ifN (no 0 h0)),Qau (ifN (no 1 h1)),Qau (ifN (no 2 h2)),Qek ((ifY (ye 3 h3)).trans (by rw [Qbt,QaH (z:=six (.str r.n) (.int r.t) (.int r.l) (.int r.h) (.int r.b) x) (x:=.tup [.str r.n,.int r.t,.int r.l,.int r.h,.int r.b]) rfl (Qfp (ma1 (QaH (x:=.lst [.non,.str [],.str [101,118,101,110,32],.str [99,101,108,108,115,44],.int 0,.tup [.str [99,117,116]]]) rfl (Qa3 u8 rfl (by decide)) e)) (show (1:Nat)≤1000000 by decide)) rfl,QbN]))]
  ·have hb:Qdb [x] O = .ok (.bl false) O:=by
    simp only [zj,List.not_mem_nil,or_false] at hx
    rcases hx with rfl | rfl | rfl | rfl | rfl | rfl <;> rfl
   have er:=QgO (t:=r.t) (l:=r.l) (h:=r.h) (b:=r.b) (QkD g.n O) hb;rw [Bool.and_false,Bool.and_false] at er;exact er
 by_cases h4:v % 8=4∧pre≠[]
 ·obtain ⟨y,hy,e⟩:=hpl (y:=.non) (n:=0) h4.2
  have em:pre.isEmpty=false:=by
   cases pre with
   | nil=>exact absurd rfl h4.2
   | cons a b=>rfl
  refine ⟨rD ⟨y.n,r.t,r.l,r.h,r.b,r.w⟩,fin ?_,Qkt (hp y hy).2.1 g.w fun _ _=>List.any_eq_true.mpr ⟨y,hy,?_⟩⟩
  ·unfold Qca;rw [Qau s5,Qau (ifN (no 0 h0)),Qau (ifN (no 1 h1)),Qau (ifN (no 2 h2)),Qau (ifN (no 3 h3)),Qek ((ifY (Qgh (ye 4 h4.1) (ne.trans (by rw [em]; rfl)))).trans (by rw [Qbt,QaH (z:=rD ⟨y.n,r.t,r.l,r.h,r.b,r.w⟩) (Qfp (ma1 (QaH (z:=.str y.n) (ahd y e h4.2) rfl rfl)) (show (1:Nat)≤1000000 by decide)) (y:=.tup [.int r.t,.int r.l,.int r.h,.int r.b,.str r.w]) rfl rfl,QbN]))]
  ·unfold Qct;simp
 by_cases h5:v % 8=5∧pre≠[]
 ·obtain ⟨y,hy,e⟩:=hpl (y:=.non) (n:=0) h5.2
  have em:pre.isEmpty=false:=by
   cases pre with
   | nil=>exact absurd rfl h5.2
   | cons a b=>rfl
  obtain ⟨d,e2,hb⟩:=Qsz (v:=v) g hy (hp y hy).1 hh hw O;refine ⟨d,fin ?_,hb⟩;unfold Qca;rw [Qau s5,Qau (ifN (no 0 h0)),Qau (ifN (no 1 h1)),Qau (ifN (no 2 h2)),Qau (ifN (no 3 h3)),Qau (ifN (and_f (no 4 (by omega)))),Qek ((ifY (Qgh (ye 5 h5.1) (ne.trans (by rw [em]; rfl)))).trans (by rw [Qbt,QaV (maS rfl (maS rfl (maS (ahd y e h5.2) rfl))),e2,QbN]))]
 ·obtain ⟨d,e2,hb⟩:=QoN (v:=v / 8) (pre:=pre) g s O;refine ⟨d,fin ?_,hb⟩
  have a4:QcJ (QaM (Qad gEq (Qab 5) (mC (.int 4)))) (QaM (Qad gNe (Qab 2) (Qa1 Qaf))) [some (.int v),some (rD r),some (.lst (pre.map rD)),some (.int hi),some (.int wi),some (.int (v % 8))] O = .ok false O:=by
   by_cases q:v % 8=4
   ·exact Qoe (ye 4 q) (ne.trans (by rw [show pre = [] from ji.mp fun z=>h4 ⟨q,z⟩]; rfl))
   ·exact and_f (no 4 q)
  have a5:QcJ (QaM (Qad gEq (Qab 5) (mC (.int 5)))) (QaM (Qad gNe (Qab 2) (Qa1 Qaf))) [some (.int v),some (rD r),some (.lst (pre.map rD)),some (.int hi),some (.int wi),some (.int (v % 8))] O = .ok false O:=by
   by_cases q:v % 8=5
   ·exact Qoe (ye 5 q) (ne.trans (by rw [show pre = [] from ji.mp fun z=>h5 ⟨q,z⟩]; rfl))
   ·exact and_f (no 5 q)
  unfold Qca;rw [Qau s5,Qau (ifN (no 0 h0)),Qau (ifN (no 1 h1)),Qau (ifN (no 2 h2)),Qau (ifN (no 3 h3)),Qau (ifN a4),Qau (ifN a5),Qbt,QaV (maS u8 rfl),e2,QbN]
theorem QqO {hi wi:Int}{x:Rm} (g:GoodR hi wi x):Fit hi wi [] [x]:=⟨g,rfl,trivial⟩
def Qig:L2.M D:=(Qax QcY (Qaa (Qab 1) (Qaa (Qab 2) (Qaa (Qa1 (Qaa (Qad Qay (Qad Qay (Qbd (Qaa (Qab 3) Qaf)) (Qab 0)) (Qbd (Qaa (Qab 4) Qaf))) Qaf)) Qaf))))
theorem QgW {hi wi t l h b:Int}{n w:List Nat} (h1:1≤hi∧hi≤12) (h2:2≤wi∧wi≤40) (hn:NOk n) (hw:WOk w) (q:0≤t∧0≤l∧1≤h∧2≤b∧t+h≤hi∧l+b≤wi) (O:Qae):∃O',Qig [some (.tup [.int t,.int l,.int h,.int b]),some (.int hi),some (.int wi),some (.str n),some (.str w)] O = .ok (.bl true) O':=by
 obtain ⟨q1,q2,q3,q4,q5,q6⟩:=q;have g:GoodR hi wi ⟨n,t,l,h,b,w⟩:=⟨hn,hw,by unfold QcC; rw [zh q1,zh q2,zh q3,zh q4]; rfl,by unfold Lies; rw [zh q5,zh q6]; rfl⟩;obtain ⟨O',e⟩:=Qi9 h1 h2 (QqO g) (by simp) (by simp) (fun r hr=>by rw [zt.mp hr]; exact hn) O;refine ⟨O',?_⟩;unfold Qig;exact (QaV (ds:=[.int hi,.int wi,.lst [rD ⟨n,t,l,h,b,w⟩]]) rfl).trans e
theorem QqN {m:L2.M D}{d y:D}{ds acc:List D}{o:Option D}{r:Qam}{O O2:Qae} (h:m (some d::r) O = .ok y O2):Qb1 (mgN 0) QbZ m (d::ds) (o::r) O acc=Qb1 (mgN 0) QbZ m ds (some d::r) O2 (acc ++ [y]):=by
 conv=>lhs; unfold Qb1
 show (match m (some d::r) O with
  | .ok y O2=>Qb1 (mgN 0) QbZ m ds (some d::r) O2 (acc ++ [y])
  | .ex x O'=>.ex x O'
  | .no=>.no)=_
 rw [h]
def edL (hi wi:Int) (r:Rm):List D:=[.tup [.int (hi - r.h),.int r.l,.int r.h,.int r.b],.tup [.int r.t,.int (wi - r.b),.int r.h,.int r.b],.tup [.int r.t,.int r.l,.int (hi - r.t),.int r.b],.tup [.int r.t,.int r.l,.int r.h,.int (wi - r.l)],.tup [.int 0,.int 0,.int hi,.int wi]]
theorem QqB {hi wi:Int}{r:Rm} (g:GoodR hi wi r) (s:Sml r) (hh:5≤hi∧hi≤7) (hw:30≤wi∧wi≤32) (O:Qae):∃O',Qec [.int hi,.int wi,rD r] O = .ok (.bl true) O':=by
 obtain ⟨⟨a1,a2⟩,⟨b1,b2⟩,⟨c1,c2⟩,⟨d1,d2⟩⟩:=s
 have h1:1≤hi∧hi≤12:=by omega
 have h2:2≤wi∧wi≤40:=by omega
 obtain ⟨O1,e1⟩:=QgW (t:=hi - r.h) (l:=r.l) (h:=r.h) (b:=r.b) h1 h2 g.n g.w (by omega) O;obtain ⟨O2,e2⟩:=QgW (t:=r.t) (l:=wi - r.b) (h:=r.h) (b:=r.b) h1 h2 g.n g.w (by omega) O1;obtain ⟨O3,e3⟩:=QgW (t:=r.t) (l:=r.l) (h:=hi - r.t) (b:=r.b) h1 h2 g.n g.w (by omega) O2;obtain ⟨O4,e4⟩:=QgW (t:=r.t) (l:=r.l) (h:=r.h) (b:=wi - r.l) h1 h2 g.n g.w (by omega) O3;obtain ⟨O5,e5⟩:=QgW (t:=0) (l:=0) (h:=hi) (b:=wi) h1 h2 g.n g.w (by omega) O4
 have st:∀(d:D) (ds:List D) (o:Option D) (O O2:Qae) (acc:List D),Qig [some d,some (.int hi),some (.int wi),some (.str r.n),some (.str r.w)] O = .ok (.bl true) O2→Qb1 (mgN 0) QbZ Qig (d::ds) [o,some (.int hi),some (.int wi),some (.str r.n),some (.str r.w)] O acc=Qb1 (mgN 0) QbZ Qig ds [some d,some (.int hi),some (.int wi),some (.str r.n),some (.str r.w)] O2 (acc ++ [.bl true]):=fun d ds o O O2 acc h=>QqN h
 have ec:Qcz (Qb8 (Qab 9)) 1 [0,1,3,8] (mgN 0) QbZ Qig [some (.int hi),some (.int wi),some (rD r),some (.str r.n),some (.int r.t),some (.int r.l),some (.int r.h),some (.int r.b),some (.str r.w),some (.lst (edL hi wi r))] O = .ok (.lst [.bl true,.bl true,.bl true,.bl true,.bl true]) O5:=by
  rw [QfX,show Qb8 (Qab 9) [some (.int hi),some (.int wi),some (rD r),some (.str r.n),some (.int r.t),some (.int r.l),some (.int r.h),some (.int r.b),some (.str r.w),some (.lst (edL hi wi r))] O = .ok (edL hi wi r) O from rfl,Qav,if_pos (show (edL hi wi r).length≤1000000 from (show (5:Nat)≤1000000 by decide)),show Qd3 1 [0,1,3,8] [some (.int hi),some (.int wi),some (rD r),some (.str r.n),some (.int r.t),some (.int r.l),some (.int r.h),some (.int r.b),some (.str r.w),some (.lst (edL hi wi r))] = [none,some (.int hi),some (.int wi),some (.str r.n),some (.str r.w)] from rfl];unfold edL;rw [st _ _ _ _ _ _ e1,st _ _ _ _ _ _ e2,st _ _ _ _ _ _ e3,st _ _ _ _ _ _ e4,st _ _ _ _ _ _ e5]
  rfl
 refine ⟨O5,?_⟩;unfold Qec;rw [QtO];show Qbc (Qer [some (.int hi),some (.int wi),some (rD r),none,none,none,none,none,none,none] O)=_;unfold Qer
 rw [Qau (show QgG (mG (Qab 2)) _ [some (.int hi),some (.int wi),some (rD r),none,none,none,none,none,none,none] O = .nx [some (.int hi),some (.int wi),some (rD r),some (.str r.n),some (.int r.t),some (.int r.l),some (.int r.h),some (.int r.b),some (.str r.w),none] O from rfl),
  Qau (show Qas 9 _ [some (.int hi),some (.int wi),some (rD r),some (.str r.n),some (.int r.t),some (.int r.l),some (.int r.h),some (.int r.b),some (.str r.w),none] O = .nx [some (.int hi),some (.int wi),some (rD r),some (.str r.n),some (.int r.t),some (.int r.l),some (.int r.h),some (.int r.b),some (.str r.w),some (.lst [.tup [.int (hi - r.h),.int r.l,.int r.h,.int r.b],.tup [.int r.t,.int (wi - r.b),.int r.h,.int r.b]])] O from rfl),
  Qau (show Qas 9 _ [some (.int hi),some (.int wi),some (rD r),some (.str r.n),some (.int r.t),some (.int r.l),some (.int r.h),some (.int r.b),some (.str r.w),some (.lst [.tup [.int (hi - r.h),.int r.l,.int r.h,.int r.b],.tup [.int r.t,.int (wi - r.b),.int r.h,.int r.b]])] O = .nx [some (.int hi),some (.int wi),some (rD r),some (.str r.n),some (.int r.t),some (.int r.l),some (.int r.h),some (.int r.b),some (.str r.w),some (.lst (edL hi wi r))] O from rfl)]
 unfold Qig at ec;rw [Qbt,QiV,Qvw ec,Qav];rfl
theorem QgH {hi wi:Int}:∀(k:Nat) (rs done:List Rm),Fit hi wi done rs→Fit hi wi done (rs.take k)
 | 0,rs,done,_=>trivial
 | k+1,[],done,_=>trivial
 | k+1,x::rs,done,h=>⟨h.1,h.2.1,QgH k rs _ h.2.2⟩
theorem Qlg {hi wi:Int}:∀(rs done:List Rm),Fit hi wi done rs→∀r∈rs,GoodR hi wi r
 | [],done,_,r,hr=>nomatch hr
 | x::rs,done,h,r,hr=>by
  rcases zj.mp hr with rfl | hr
  ·exact h.1
  ·exact Qlg rs _ h.2.2 r hr
theorem noI {lo hi i:Int} (h:¬(lo≤i∧i≤hi)) (O:Qae):QbO [.int i,.int lo,.int hi] O = .ok (.bl false) O:=by
 rw [Qgp]
 by_cases h1:lo≤i
 ·rw [zm (fun z=>h ⟨h1,z⟩),Bool.and_false]
 ·rw [zm h1,Bool.false_and]
theorem Qq9 (ns:List Int) {hi wi:Int} (hh:5≤hi∧hi≤7) (hw:30≤wi∧wi≤32) (ds:List D) (O:Qae):∃O',Qeh [.lst (ns.map D.int),.int hi,.int wi,.lst ds] O = .ok (.bl true) O':=by
 have e3:QaZ [.lst (ns.map D.int),.int 3] O = .ok (.int (ns.getD 3 0)) O:=QfZ ns 3 O
 generalize ns.getD 3 0=c at e3
 obtain ⟨sm,_,esm⟩:=ixL (l:=[.lst ds,.lst [],.non,.lst [.non]]) (v:=c / 16) (n:=4) rfl (by decide);have s4:Qas 4 (Qax QaZ (Qaa (Qab 0) (Qaa (mC (.int 3)) Qaf))) [some (.lst (ns.map D.int)),some (.int hi),some (.int wi),some (.lst ds),none,none,none] O = .nx [some (.lst (ns.map D.int)),some (.int hi),some (.int wi),some (.lst ds),some (.int c),none,none] O:=QaY ((QaV (ds:=[.lst (ns.map D.int),.int 3]) rfl).trans e3);have s5:Qas 5 (Qad gIx (Qa1 (Qaa (Qab 3) (Qaa (Qa1 Qaf) (Qaa (mC .non) (Qaa (Qa1 (Qaa (mC .non) Qaf)) Qaf))))) (Qad QaB (Qad QaS (Qab 4) (mC (.int 16))) (mC (.int 4)))) [some (.lst (ns.map D.int)),some (.int hi),some (.int wi),some (.lst ds),some (.int c),none,none] O = .nx [some (.lst (ns.map D.int)),some (.int hi),some (.int wi),some (.lst ds),some (.int c),some sm,none] O:=QaY (QaH (x:=.lst [.lst ds,.lst [],.non,.lst [.non]]) rfl (Qa3 (QbV rfl rfl (by decide)) rfl (by decide)) esm)
 have t:QaM (Qad gEq (Qad QaB (Qab 4) (mC (.int 2))) (mC (.int 0))) [some (.lst (ns.map D.int)),some (.int hi),some (.int wi),some (.lst ds),some (.int c),some sm,none] O = .ok (decide (c % 2=0)) O:=Qgn (Qa3 rfl rfl (by decide)) rfl;have u2:Qad QaB (Qad QaS (Qab 4) (mC (.int 2))) (mC (.int 8)) [some (.lst (ns.map D.int)),some (.int hi),some (.int wi),some (.lst ds),some (.int c),some sm,none] O = .ok (.int (c / 2 % 8)) O:=Qa3 (QbV rfl rfl (by decide)) rfl (by decide)
 have p30:∀ρ:Qam,Qad QdA (mC (.int 10)) (mC (.int 30)) ρ O = .ok (.int (10 ^ 30)) O:=fun ρ=>QaH (x:=.int 10) (y:=.int 30) rfl rfl rfl
 by_cases h2:c % 2=0
 ·obtain ⟨d,hd,e⟩:=ixL (l:=[.int 0,.int 13,.int (-1),.non,.bl true,.str [53],.int (10 ^ 30),.tup [.int 5]]) (v:=c / 2) (n:=8) rfl (by decide)
  have hb:NoH d:=by
   simp only [zj,List.not_mem_nil,or_false] at hd
   rcases hd with rfl | rfl | rfl | rfl | rfl | rfl | rfl | rfl
   ·exact noI (by omega)
   ·exact noI (by omega)
   ·exact noI (by omega)
   ·exact fun O=>rfl
   ·exact fun O=>rfl
   ·exact fun O=>rfl
   ·exact noI (by omega)
   ·exact fun O=>rfl
  have x1:=QmN (w:=.int wi) hb (O ++ [Ob.ins "Plan" []]);have x2:=QhO (n:=O.length) (r:=sm) x1;obtain ⟨O',er⟩:=QiB x2;refine ⟨O',?_⟩;have ed:Qad gIx (Qa1 (Qaa (mC (.int 0)) (Qaa (mC (.int 13)) (Qaa (mUn Qhk (mC (.int 1))) (Qaa (mC .non) (Qaa (mC (.bl true)) (Qaa (mC (.str [53])) (Qaa (Qad QdA (mC (.int 10)) (mC (.int 30))) (Qaa (Qbd (Qaa (mC (.int 5)) Qaf)) Qaf))))))))) (Qad QaB (Qad QaS (Qab 4) (mC (.int 2))) (mC (.int 8))) [some (.lst (ns.map D.int)),some (.int hi),some (.int wi),some (.lst ds),some (.int c),some sm,none] O = .ok d O:=QaH (QoT (maS rfl (maS rfl (maS (x:=.int (-1)) rfl (maS rfl (maS rfl (maS rfl (maS (p30 _) rfl))))))) (show (8:Nat)≤1000000 by decide)) u2 e
  show Qbc (Qc2 [some (.lst (ns.map D.int)),some (.int hi),some (.int wi),some (.lst ds),none,none,none] O)=_;unfold Qc2;rw [Qau s4,Qau s5,Qek ((ifY (t.trans (by rw [zh h2]))).trans (by rw [Qbt,QaV (ds:=[d,.int wi,sm,dSz]) (maS ed rfl),er,QbN]))];rfl
 ·obtain ⟨d,hd,e⟩:=ixL (l:=[.int 1,.int 41,.int (-2),.non,.bl true,.str [51,48],.int (10 ^ 30),.lst [.int 30]]) (v:=c / 2) (n:=8) rfl (by decide)
  have hb:NoW d:=by
   simp only [zj,List.not_mem_nil,or_false] at hd
   rcases hd with rfl | rfl | rfl | rfl | rfl | rfl | rfl | rfl
   ·exact noI (by omega)
   ·exact noI (by omega)
   ·exact noI (by omega)
   ·exact fun O=>rfl
   ·exact fun O=>rfl
   ·exact fun O=>rfl
   ·exact noI (by omega)
   ·exact fun O=>rfl
  have x1:=QmQ (hi:=hi) (by omega) hb (O ++ [Ob.ins "Plan" []]);have x2:=QhO (n:=O.length) (r:=sm) x1;obtain ⟨O',er⟩:=QiB x2;refine ⟨O',?_⟩;have ed:Qad gIx (Qa1 (Qaa (mC (.int 1)) (Qaa (mC (.int 41)) (Qaa (mUn Qhk (mC (.int 2))) (Qaa (mC .non) (Qaa (mC (.bl true)) (Qaa (mC (.str [51,48])) (Qaa (Qad QdA (mC (.int 10)) (mC (.int 30))) (Qaa (Qa1 (Qaa (mC (.int 30)) Qaf)) Qaf))))))))) (Qad QaB (Qad QaS (Qab 4) (mC (.int 2))) (mC (.int 8))) [some (.lst (ns.map D.int)),some (.int hi),some (.int wi),some (.lst ds),some (.int c),some sm,none] O = .ok d O:=QaH (QoT (maS rfl (maS rfl (maS (x:=.int (-2)) rfl (maS rfl (maS rfl (maS rfl (maS (p30 _) rfl))))))) (show (8:Nat)≤1000000 by decide)) u2 e
  show Qbc (Qc2 [some (.lst (ns.map D.int)),some (.int hi),some (.int wi),some (.lst ds),none,none,none] O)=_;unfold Qc2;rw [Qau s4,Qau s5,Qau (ifN (t.trans (by rw [zm h2]))),Qau (QaY ed),Qbt,QaV (ds:=[.int hi,d,sm,dSz]) rfl,er,QbN];rfl
theorem Qn1 (v:Int) {hi wi:Int}:∃d,gIx (.lst [.non,.tup [],.str [],.dic [] [],.lst [],.int 0]) (.int (v % 6))=some d∧∀O,Qci [.int hi,.int wi,d] O = .ex ⟨"NoRoom",[("at",.int 0)]⟩ O:=by
 obtain ⟨d,hd,e⟩:=ixL (l:=[.non,.tup [],.str [],.dic [] [],.lst [],.int 0]) (v:=v) (n:=6) rfl (by decide);refine ⟨d,e,fun O=>?_⟩
 have t0:Qc3 (Qbs (QbC (QdD "list" (Qab 2)))) (QaM (Qad gEq (QaX Qdj (Qaa (Qab 2) Qaf)) (mC (.int 0)))) [some (.int hi),some (.int wi),some d,none,none] O = .ok true O:=by
  simp only [zj,List.not_mem_nil,or_false] at hd
  rcases hd with rfl | rfl | rfl | rfl | rfl | rfl <;> rfl
 show Qbc (Qbx [some (.int hi),some (.int wi),some d,none,none] O)=_;unfold Qbx;rw [QcM ((Qfl t0).trans (QcM (Qj3 rfl)))];rfl
theorem Qqr {α:Type} (l:List α) (k:Nat) (d:α) (h:k < l.length):l.set k d=l.take k++d::l.drop (k+1):=by
 rw [List.set_eq_take_append_cons_drop,if_pos h]
theorem Qqm {n k:Nat} (h:k < n):ixN n (k:Int)=some k:=by
 unfold ixN;rw [if_pos (by omega)];simp [h]
theorem Qo9 (ns:List Int) (hn:ns.length≤63):∃O',QpD [.lst (ns.map D.int)] [] = .ok (.bl true) O':=by
 have e2:∀O,QaZ [.lst (ns.map D.int),.int 2] O = .ok (.int (ns.getD 2 0)) O:=QfZ ns 2;have e4:∀O,QaZ [.lst (ns.map D.int),.int 4] O = .ok (.int (ns.getD 4 0)) O:=QfZ ns 4;have e5:∀O,QaZ [.lst (ns.map D.int),.int 5] O = .ok (.int (ns.getD 5 0)) O:=QfZ ns 5
 generalize ns.getD 2 0=c at e2
 generalize ns.getD 4 0=f at e4
 generalize ns.getD 5 0=q at e5
 obtain ⟨hi,wi,rs,eg,hh,hw,hl,hs,hf⟩:=QsM ns [];obtain ⟨m,hm⟩:∃m:Nat,1+c / 4 % 6=(m:Int):=⟨(1+c / 4 % 6).toNat,by omega⟩
 have hm1:1≤m∧m≤6:=by omega
 have h1:1≤hi∧hi≤12:=by omega
 have h2:2≤wi∧wi≤40:=by omega
 have fg:=QgH m rs [] hf
 have lg:(rs.take m).length=m:=by rw [List.length_take]; omega
 have sg:∀r∈rs.take m,Sml r:=fun r hr=>hs r (List.mem_of_mem_take hr)
 have gg:=Qlg _ _ fg
 have e7:rs.map rD=(rs.take 6).map rD++(rs.drop 6).map rD:=by rw [←zF,List.take_append_drop]
 have f6:=QgH 6 rs [] hf
 have l6:(rs.take 6).length=6:=by rw [List.length_take]; omega
 obtain ⟨x7,hx7⟩:∃x7,rs.drop 6 = [x7]:=by
  have:(rs.drop 6).length=1:=by rw [List.length_drop]; omega
  exact List.length_eq_one_iff.mp this
 rw [hx7,ze,jc] at e7;obtain ⟨a,ha⟩:∃a:Nat,f % (m:Int)=(a:Int):=⟨(f % (m:Int)).toNat,by have:=zQ f (show (m:Int)≠0 by omega); omega⟩
 have ham:a < m:=by have:=zV f (show (0:Int) < m by omega); omega
 have hgm:((rs.take m).map rD)=(rs.map rD).take m:=by rw [List.map_take]
 generalize hG:rs.take m=gs at fg lg sg gg hgm
 have gne:gs≠[]:=fun z=>by rw [z] at lg; simp at lg; omega
 have hal:a < gs.length:=by omega
 have ga:gs[a]? = some gs[a]:=zy hal
 have gl:∃x,x∈gs∧gIx (.lst (gs.map rD)) (.int (-1))=some (rD x):=by
  obtain ⟨pre,x,hx⟩:∃pre x,gs=pre ++ [x]:=⟨gs.dropLast,gs.getLast gne,(List.dropLast_concat_getLast gne).symm⟩;refine ⟨x,by rw [hx]; simp,?_⟩;rw [hx,zF];exact Qp7
 obtain ⟨xl,hxl,exl⟩:=gl;obtain ⟨O1,w1⟩:=Qi9 h1 h2 fg gne (by omega) (fun r hr=>(gg r hr).n) [];obtain ⟨O2,w2⟩:=QqB (gg xl hxl) (sg xl hxl) hh hw O1;obtain ⟨O3,w3⟩:=Qq9 ns hh hw (gs.map rD) O2
 obtain ⟨O3',hO3,i3⟩:∃O3',(O3'=O2∨O3'=O3)∧QcJ (QaM (Qad gEq (Qad QaB (Qab 1) (mC (.int 4))) (mC (.int 0)))) (Qbs (QbC (Qax Qeh (Qaa (Qab 0) (Qaa (Qab 3) (Qaa (Qab 4) (Qaa (Qab 6) Qaf))))))) [some (.lst (ns.map D.int)),some (.int c),some (.int (m:Int)),some (.int hi),some (.int wi),some (.lst (rs.map rD)),some (.lst (gs.map rD)),none,none,none,none,none] O2 = .ok false O3':=by
  have t:QaM (Qad gEq (Qad QaB (Qab 1) (mC (.int 4))) (mC (.int 0))) [some (.lst (ns.map D.int)),some (.int c),some (.int (m:Int)),some (.int hi),some (.int wi),some (.lst (rs.map rD)),some (.lst (gs.map rD)),none,none,none,none,none] O2 = .ok (decide (c % 4=0)) O2:=Qgn (Qa3 rfl rfl (by decide)) rfl
  by_cases z:c % 4=0
  ·exact ⟨O3,.inr rfl,Qgh (t.trans (by rw [zh z])) (QeW ((Qf2 (ds:=[.lst (ns.map D.int),.int hi,.int wi,.lst (gs.map rD)]) rfl).trans w3))⟩
  ·exact ⟨O2,.inl rfl,and_f (t.trans (by rw [zm z]))⟩
 obtain ⟨d7,ed7,w7⟩:=Qn1 (c / 24) (hi:=hi) (wi:=wi)
 obtain ⟨O4,i4⟩:∃O4,QcJ (QaM (Qad gEq (Qad QaB (Qab 1) (mC (.int 4))) (mC (.int 1)))) (Qbs (QbC (Qax Qbm (Qaa (Qab 3) (Qaa (Qab 4) (Qaa (Qab 7) (Qaa (Qbd (Qaa (mC (.str [114,111,111,109])) (Qaa (mC (.int 0)) (Qaa (mC (.bl true)) Qaf)))) Qaf))))))) [some (.lst (ns.map D.int)),some (.int c),some (.int (m:Int)),some (.int hi),some (.int wi),some (.lst (rs.map rD)),some (.lst (gs.map rD)),some d7,none,none,none,none] O3' = .ok false O4:=by
  have t:QaM (Qad gEq (Qad QaB (Qab 1) (mC (.int 4))) (mC (.int 1))) [some (.lst (ns.map D.int)),some (.int c),some (.int (m:Int)),some (.int hi),some (.int wi),some (.lst (rs.map rD)),some (.lst (gs.map rD)),some d7,none,none,none,none] O3' = .ok (decide (c % 4=1)) O3':=Qgn (Qa3 rfl rfl (by decide)) rfl
  by_cases z:c % 4=1
  ·have x1:=QfV (n:=O3'.length) (Qgu h1 h2 (O3' ++ [Ob.ins "Plan" []])) (w7 (O3' ++ [Ob.ins "Plan" []]));obtain ⟨O4,x2⟩:=Qgz x1;exact ⟨O4,Qgh (t.trans (by rw [zh z])) (QeW ((Qf2 (ds:=[.int hi,.int wi,d7,dRo 0]) rfl).trans x2))⟩
  ·exact ⟨O3',and_f (t.trans (by rw [zm z]))⟩
 obtain ⟨O5,i5⟩:∃O5,QcJ (QaM (Qad gEq (Qad QaB (Qab 1) (mC (.int 4))) (mC (.int 2)))) (Qbs (QbC (Qax Qbm (Qaa (Qab 3) (Qaa (Qab 4) (Qaa (QaX Qen (Qaa (Qab 5) Qaf)) (Qaa (Qbd (Qaa (mC (.str [114,111,111,109])) (Qaa (mC (.int 6)) (Qaa (mC (.bl true)) Qaf)))) Qaf))))))) [some (.lst (ns.map D.int)),some (.int c),some (.int (m:Int)),some (.int hi),some (.int wi),some (.lst (rs.map rD)),some (.lst (gs.map rD)),some d7,none,none,none,none] O4 = .ok false O5:=by
  have t:QaM (Qad gEq (Qad QaB (Qab 1) (mC (.int 4))) (mC (.int 2))) [some (.lst (ns.map D.int)),some (.int c),some (.int (m:Int)),some (.int hi),some (.int wi),some (.lst (rs.map rD)),some (.lst (gs.map rD)),some d7,none,none,none,none] O4 = .ok (decide (c % 4=2)) O4:=Qgn (Qa3 rfl rfl (by decide)) rfl
  by_cases z:c % 4=2
  ·have x0:=QnW (d:=rD x7) (rest:=[]) f6 l6 (O4 ++ [Ob.ins "Plan" []]);rw [←e7] at x0;have x1:=QfV (n:=O4.length) (Qgu h1 h2 (O4 ++ [Ob.ins "Plan" []])) x0;obtain ⟨O5,x2⟩:=Qgz x1;exact ⟨O5,Qgh (t.trans (by rw [zh z])) (QeW ((Qf2 (ds:=[.int hi,.int wi,.lst (rs.map rD),dRo 6]) rfl).trans x2))⟩
  ·exact ⟨O4,and_f (t.trans (by rw [zm z]))⟩
 have gp:∀y∈gs.take a,Sml y∧NOk y.n∧WOk y.w:=fun y hy=>by
  have hy':=List.mem_of_mem_take hy;exact ⟨sg y hy',(gg y hy').n,(gg y hy').w⟩
 have gmem:gs[a]∈gs:=jd hal;obtain ⟨bd,eb,hb⟩:=Quj (v:=f / 8) (gg _ gmem) (sg _ gmem) gp hh.1 hw.1 O5
 have lta:(gs.take a).length=a:=by rw [List.length_take]; omega
 have bad:∀(rest:List D) (O:Qae),∃O',Qbm [.int hi,.int wi,.lst ((gs.take a).map rD++bd::rest),dRo (a:Int)] O = .ok (.bl true) O':=fun rest O=>by
  have x0:=Qk5 (rest:=rest) (QgH a gs [] fg) (by omega) hb (O ++ [Ob.ins "Plan" []]);rw [lta] at x0;have x1:=QfV (n:=O.length) (Qgu h1 h2 (O ++ [Ob.ins "Plan" []])) x0;exact Qgz x1
 have hset:(gs.map rD).set a bd=(gs.take a).map rD++bd::(gs.map rD).drop (a+1):=by
  rw [Qqr _ _ _ (by rw [zo]; exact hal),List.map_take]
 generalize hE:([some (.lst (ns.map D.int)),some (.int c),some (.int (m:Int)),some (.int hi),some (.int wi),some (.lst (rs.map rD)),some (.lst (gs.map rD)),some d7,some (.int f),some (.int (a:Int)),some (.lst (gs.map rD)),none]:Qam)=ρ0
 have s10:Qgd 10 (Qab 9) (Qax Qex (Qaa (Qad QaS (Qab 8) (mC (.int 8))) (Qaa (Qad gIx (Qab 6) (Qab 9)) (Qaa (mSl (Qab 6) moN (moS (Qab 9))) (Qaa (Qab 3) (Qaa (Qab 4) Qaf)))))) ρ0 O5 = .nx [some (.lst (ns.map D.int)),some (.int c),some (.int (m:Int)),some (.int hi),some (.int wi),some (.lst (rs.map rD)),some (.lst (gs.map rD)),some d7,some (.int f),some (.int (a:Int)),some (.lst ((gs.take a).map rD++bd::(gs.map rD).drop (a+1))),none] O5:=by
  rw [←hE,←hset]
  have z1:Qad gIx (Qab 6) (Qab 9) [some (.lst (ns.map D.int)),some (.int c),some (.int (m:Int)),some (.int hi),some (.int wi),some (.lst (rs.map rD)),some (.lst (gs.map rD)),some d7,some (.int f),some (.int (a:Int)),some (.lst (gs.map rD)),none] O5 = .ok (rD gs[a]) O5:=QaH (x:=.lst (gs.map rD)) (y:=.int (a:Int)) rfl rfl (by
   rw [QdJ,Qbv,QjW,Qfy,zB,ga]
   rfl)
  have z2:=QoF (m:=Qab 6) (a:=moN) (b:=moS (Qab 9)) (ρ:=[some (.lst (ns.map D.int)),some (.int c),some (.int (m:Int)),some (.int hi),some (.int wi),some (.lst (rs.map rD)),some (.lst (gs.map rD)),some d7,some (.int f),some (.int (a:Int)),some (.lst (gs.map rD)),none]) (O:=O5) (t:=gs.map rD) (x:=none) (y:=some (a:Int)) rfl rfl rfl;rw [Qf5,←List.map_take] at z2;unfold Qgd;rw [QaV (maS (QbV (i:=f) (j:=8) rfl rfl (by decide)) (maS z1 (maS z2 rfl))),eb];show (match ixN (gs.map rD).length (a:Int) with | some n=>Fl.nx _ O5 | none=>.no)=_;rw [Qqm (by rw [zo]; exact hal)];rfl
 obtain ⟨pr,hpr,i11⟩:∃rest,True∧Qb0 (QaM (Qad gEq (Qad QaB (Qab 11) (mC (.int 2))) (mC (.int 1)))) (Qas 10 (Qad Qay (Qab 10) (Qa1 (Qaa (Qad gIx (Qa1 (Qaa (mC .non) (Qaa (Qbd Qaf) (Qaa (mC (.int 5)) Qaf)))) (Qad QaB (Qad QaS (Qab 11) (mC (.int 2))) (mC (.int 3)))) Qaf)))) QaQ [some (.lst (ns.map D.int)),some (.int c),some (.int (m:Int)),some (.int hi),some (.int wi),some (.lst (rs.map rD)),some (.lst (gs.map rD)),some d7,some (.int f),some (.int (a:Int)),some (.lst ((gs.take a).map rD++bd::(gs.map rD).drop (a+1))),some (.int q)] O5 = .nx [some (.lst (ns.map D.int)),some (.int c),some (.int (m:Int)),some (.int hi),some (.int wi),some (.lst (rs.map rD)),some (.lst (gs.map rD)),some d7,some (.int f),some (.int (a:Int)),some (.lst ((gs.take a).map rD++bd::rest)),some (.int q)] O5:=by
  have t:QaM (Qad gEq (Qad QaB (Qab 11) (mC (.int 2))) (mC (.int 1))) [some (.lst (ns.map D.int)),some (.int c),some (.int (m:Int)),some (.int hi),some (.int wi),some (.lst (rs.map rD)),some (.lst (gs.map rD)),some d7,some (.int f),some (.int (a:Int)),some (.lst ((gs.take a).map rD++bd::(gs.map rD).drop (a+1))),some (.int q)] O5 = .ok (decide (q % 2=1)) O5:=Qgn (Qa3 rfl rfl (by decide)) rfl
  by_cases z:q % 2=1
  ·obtain ⟨y,_,ey⟩:=ixL (l:=[.non,.tup [],.int 5]) (v:=q / 2) (n:=3) rfl (by decide);refine ⟨(gs.map rD).drop (a+1) ++ [y],trivial,(ifY (t.trans (by rw [zh z]))).trans ?_⟩
   have z3:Qad Qay (Qab 10) (Qa1 (Qaa (Qad gIx (Qa1 (Qaa (mC .non) (Qaa (Qbd Qaf) (Qaa (mC (.int 5)) Qaf)))) (Qad QaB (Qad QaS (Qab 11) (mC (.int 2))) (mC (.int 3)))) Qaf)) [some (.lst (ns.map D.int)),some (.int c),some (.int (m:Int)),some (.int hi),some (.int wi),some (.lst (rs.map rD)),some (.lst (gs.map rD)),some d7,some (.int f),some (.int (a:Int)),some (.lst ((gs.take a).map rD++bd::(gs.map rD).drop (a+1))),some (.int q)] O5 = .ok (.lst ((gs.take a).map rD++bd::((gs.map rD).drop (a+1) ++ [y]))) O5:=QaH (x:=.lst ((gs.take a).map rD++bd::(gs.map rD).drop (a+1))) (y:=.lst [y]) rfl (QoT (ma1 (QaH (x:=.lst [.non,.tup [],.int 5]) rfl (Qa3 (QbV rfl rfl (by decide)) rfl (by decide)) ey)) (show (1:Nat)≤1000000 by decide)) (by
    rw [QdJ,QdJ,Qr6,if_pos (by simp; omega),zZ]
    rfl)
   exact QaY z3
  ·exact ⟨(gs.map rD).drop (a+1),trivial,ifN (t.trans (by rw [zm z]))⟩
 obtain ⟨O6,w6⟩:=bad pr O5;obtain ⟨O8,w8⟩:=Qi9 h1 h2 fg gne (by omega) (fun r hr=>(gg r hr).n) O6;refine ⟨O8,?_⟩;have g6:=QoF (m:=Qab 5) (a:=moN) (b:=moS (Qab 2)) (ρ:=[some (.lst (ns.map D.int)),some (.int c),some (.int (m:Int)),some (.int hi),some (.int wi),some (.lst (rs.map rD)),none,none,none,none,none,none]) (O:=[]) (t:=rs.map rD) (x:=none) (y:=some (m:Int)) rfl rfl rfl;rw [Qf5,←hgm] at g6;show Qbc (QjY [some (.lst (ns.map D.int)),none,none,none,none,none,none,none,none,none,none,none] [])=_;unfold QjY
 rw [Qau (show Qas 1 _ [some (.lst (ns.map D.int)),none,none,none,none,none,none,none,none,none,none,none] [] = .nx [some (.lst (ns.map D.int)),some (.int c),none,none,none,none,none,none,none,none,none,none] [] from QaY ((QaV (ds:=[.lst (ns.map D.int),.int 2]) rfl).trans (e2 []))),
  Qau (show Qas 2 _ [some (.lst (ns.map D.int)),some (.int c),none,none,none,none,none,none,none,none,none,none] [] = .nx [some (.lst (ns.map D.int)),some (.int c),some (.int (m:Int)),none,none,none,none,none,none,none,none,none] [] from QaY (by rw [←hm]; exact QbE rfl (Qa3 (QbV rfl rfl (by decide)) rfl (by decide)))),
  Qau (show QgG _ _ [some (.lst (ns.map D.int)),some (.int c),some (.int (m:Int)),none,none,none,none,none,none,none,none,none] [] = .nx [some (.lst (ns.map D.int)),some (.int c),some (.int (m:Int)),some (.int hi),some (.int wi),some (.lst (rs.map rD)),none,none,none,none,none,none] [] from by rw [Qtb,QaV (ds:=[.lst (ns.map D.int),.int 7]) rfl,eg]; rfl),
  Qau (show Qas 6 _ [some (.lst (ns.map D.int)),some (.int c),some (.int (m:Int)),some (.int hi),some (.int wi),some (.lst (rs.map rD)),none,none,none,none,none,none] [] = .nx [some (.lst (ns.map D.int)),some (.int c),some (.int (m:Int)),some (.int hi),some (.int wi),some (.lst (rs.map rD)),some (.lst (gs.map rD)),none,none,none,none,none] [] from QaY g6),
  Qau (ifN (QtJ (QeW ((Qf2 (ds:=[.int hi,.int wi,.lst (gs.map rD)]) rfl).trans w1)) (QeW ((Qf2 (ds:=[.int hi,.int wi,rD xl]) (maS rfl (maS rfl (ma1 (QaH (x:=.lst (gs.map rD)) (y:=.int (-1)) rfl rfl exl))))).trans w2)))),
  Qau (ifN i3),
  Qau (show Qas 7 _ [some (.lst (ns.map D.int)),some (.int c),some (.int (m:Int)),some (.int hi),some (.int wi),some (.lst (rs.map rD)),some (.lst (gs.map rD)),none,none,none,none,none] O3' = .nx [some (.lst (ns.map D.int)),some (.int c),some (.int (m:Int)),some (.int hi),some (.int wi),some (.lst (rs.map rD)),some (.lst (gs.map rD)),some d7,none,none,none,none] O3' from QaY (QaH (x:=.lst [.non,.tup [],.str [],.dic [] [],.lst [],.int 0]) rfl (Qa3 (QbV rfl rfl (by decide)) rfl (by decide)) ed7)),
  Qau (ifN i4),Qau (ifN i5),
  Qau (show Qas 8 _ [some (.lst (ns.map D.int)),some (.int c),some (.int (m:Int)),some (.int hi),some (.int wi),some (.lst (rs.map rD)),some (.lst (gs.map rD)),some d7,none,none,none,none] O5 = .nx [some (.lst (ns.map D.int)),some (.int c),some (.int (m:Int)),some (.int hi),some (.int wi),some (.lst (rs.map rD)),some (.lst (gs.map rD)),some d7,some (.int f),none,none,none] O5 from QaY ((QaV (ds:=[.lst (ns.map D.int),.int 4]) rfl).trans (e4 O5))),
  Qau (show Qas 9 _ [some (.lst (ns.map D.int)),some (.int c),some (.int (m:Int)),some (.int hi),some (.int wi),some (.lst (rs.map rD)),some (.lst (gs.map rD)),some d7,some (.int f),none,none,none] O5 = .nx [some (.lst (ns.map D.int)),some (.int c),some (.int (m:Int)),some (.int hi),some (.int wi),some (.lst (rs.map rD)),some (.lst (gs.map rD)),some d7,some (.int f),some (.int (a:Int)),none,none] O5 from QaY (by rw [←ha]; exact Qa3 rfl rfl (by omega))),
  Qau (show Qas 10 _ [some (.lst (ns.map D.int)),some (.int c),some (.int (m:Int)),some (.int hi),some (.int wi),some (.lst (rs.map rD)),some (.lst (gs.map rD)),some d7,some (.int f),some (.int (a:Int)),none,none] O5 = .nx ρ0 O5 by rw [←hE]; rfl),
  Qau s10,
  Qau (show Qas 11 _ [some (.lst (ns.map D.int)),some (.int c),some (.int (m:Int)),some (.int hi),some (.int wi),some (.lst (rs.map rD)),some (.lst (gs.map rD)),some d7,some (.int f),some (.int (a:Int)),some (.lst ((gs.take a).map rD++bd::(gs.map rD).drop (a+1))),none] O5 = .nx [some (.lst (ns.map D.int)),some (.int c),some (.int (m:Int)),some (.int hi),some (.int wi),some (.lst (rs.map rD)),some (.lst (gs.map rD)),some d7,some (.int f),some (.int (a:Int)),some (.lst ((gs.take a).map rD++bd::(gs.map rD).drop (a+1))),some (.int q)] O5 from QaY ((QaV (ds:=[.lst (ns.map D.int),.int 5]) rfl).trans (e5 O5))),
  Qau i11,
  Qau (ifN (QeW ((Qf2 (ds:=[.int hi,.int wi,.lst ((gs.take a).map rD++bd::pr),dRo (a:Int)]) rfl).trans w6)))]
 rw [Qbt,QaV (ds:=[.int hi,.int wi,.lst (gs.map rD)]) rfl,w8,QbN];rfl
theorem all_mk {l:PySem.W.OpenLaw}{w:World}{K:PySem.W.Frag}{h:Heap}{mg:Str→Option Value}{fa:Addr} (X:K.In h) (G:h.Ns mainGlobals mg) (hfa:mg "law" = some (.ref fa))
  {Qgc:Addr}
  {Qmr:Addr}{Qr5 Qn9:Option Addr}{Qs4:Array (Option Value)}{QrD Qnn Qnm Qoa Qkf Qog:Value}
  {ad_WAYS:Addr}{Qlp:Value}{QqA:Option Addr}{it_WAYS:Array Value}{nn_WAYS:Nat}{Qq3:Array (Option Value)}
  {Qbp:Addr}
  {Qa0:Addr}
  {QgD:Addr}
  {Qfq:Addr}
  {Qfr:Addr}
  {Qfn:Addr}
  {Qgf:Addr}
  {Qnw:ClassData}
  {QnK:ClassData}
  {fI_NoRoom:Addr}{odI_NoRoom anI_NoRoom:Option Addr}{slI_NoRoom:Array (Option Value)}{ocI_NoRoom kVI_NoRoom dcI_NoRoom pmI_NoRoom cdI_NoRoom ctI_NoRoom:Value}
  (Z_Plan:ClsAt K "Plan" Qgc)
  (Qk6:PySem.W.findIn K (.ref Qgc) "high" = some none)
  (QgT:PySem.W.findIn K (.ref Qgc) "room_by_name" = some none)
  (Qk0:PySem.W.findIn K (.ref Qgc) "wide" = some none)
  (Qhl:Def K mg "is_name" Qft)
  (Qgq:Def K mg "is_whole" QgA)
  (QfN:Def K mg "is_within" QfG)
  (Qif:Def K mg "is_way" Qh1)
  (Qht:Def K mg "is_room" Qfs)
  (QeF:Def K mg "lies_within" QeO)
  (Qhv:Def K mg "overlap" Qg8)
  (QdC:Def K mg "get_in_the_way" Qdx)
  (Qd0:Def K mg "check_screen" Qd9)
  (QeG:Def K mg "check_rooms" Qdu)
  (M_Plan___init__:MethAt K Qgc "__init__" "Plan.__init__" QdY)
  (M_Plan_room_names:MethAt K Qgc "room_names" "Plan.room_names" Qdm)
  (QeN:Def K mg "_law_cell_at" QeJ)
  (Qhn:Def K mg "_law_mix" Qhb)
  (QfQ:Def K mg "_law_names" Qed)
  (QgL:Def K mg "_law_good" QgI)
  (Qfh:Def K mg "_law_number" Qfk)
  (QgM:Def K mg "_law_over" QgB)
  (Qhw:Def K mg "_law_bad" Qhf)
  (QeR:Def K mg "_law_refused" QeI)
  (QfB:Def K mg "_law_taken" Qeq)
  (QfH:Def K mg "_law_edges" Qee)
  (QfP:Def K mg "_law_sizes" QfL)
  (QlQ:PySem.W.nsIn K mainGlobals "law" = some (some (.ref Qmr))) (Qpq:K.lookup Qmr=some ⟨QrD,Qr5,.func (PySem.W.fnOf "law" "law" (QbU Qel) (Qa8 Qel) (Qao Qel) .none Qnn Qnm Qoa Qn9 Qkf Qog),Qs4⟩) (QsQ:PySem.W.codeIn K Qkf "law" = true) (QtU:PySem.W.keepIn K (.ref Qmr)=true)
  (B:Qch mg)
  (Qc1:∃u,mg "BROAD" = some u∧RelV (.int 4) u)
  (Qdo:∃u,mg "GREATEST_HEIGHT" = some u∧RelV (.int 12) u)
  (Qdz:∃u,mg "GREATEST_WIDTH" = some u∧RelV (.int 40) u)
  (QeM:∃u,mg "LEAST_WIDTH" = some u∧RelV (.int 2) u)
  (Qdr:∃u,mg "LEFT" = some u∧RelV (.int 2) u)
  (Qd5:∃u,mg "LONGEST_NAME" = some u∧RelV (.int 8) u)
  (Qff:∃u,mg "MOST_ROOMS" = some u∧RelV (.int 6) u)
  (Qds:∃u,mg "NAME" = some u∧RelV (.int 0) u)
  (QeL:∃u,mg "ROOM_THINGS" = some u∧RelV (.int 6) u)
  (Qdq:∃u,mg "TALL" = some u∧RelV (.int 3) u)
  (QdQ:∃u,mg "TOP" = some u∧RelV (.int 1) u)
  (QjR:∃u,mg "WAY" = some u∧RelV (.int 5) u)
  (QoV:PySem.W.nsIn K mainGlobals "WAYS" = some (some (.ref ad_WAYS))) (QoQ:K.lookup ad_WAYS=some ⟨Qlp,QqA,.seq it_WAYS nn_WAYS,Qq3⟩) (t_c_WAYS:Qlp = .type "tuple") (Qoz:it_WAYS.size≤sizeLine) (v_c_WAYS:Qaz (List.map (fun l=>V.str (S l)) [[99,117,116],[99,101,108,108,115],[119,111,114,100,115],[101,118,101,110]]) it_WAYS.toList)
  (QcB:PySem.W.nsIn K mainGlobals "NoSize" = some (some (.ref Qbp)))
  (QbX:PySem.W.nsIn K mainGlobals "NoRoom" = some (some (.ref Qa0)))
  (QhX:PySem.W.nsIn K mainGlobals "OutError" = some (some (.ref QgD)))
  (Qju:PySem.W.nsIn K mainGlobals "NoCell" = some (some (.ref Qfq)))
  (QjG:PySem.W.nsIn K mainGlobals "NoHand" = some (some (.ref Qfr)))
  (QjL:PySem.W.nsIn K mainGlobals "NoName" = some (some (.ref Qfn)))
  (QkP:PySem.W.nsIn K mainGlobals "Twice" = some (some (.ref Qgf)))
  (xsp:PySem.W.specialIn K (.builtin "object.__class__") "__get__" = some (some (.builtin "getset_descriptor.__get__")))
  (xtk:PySem.W.takesIn K (.builtin "object.__class__")=some true)
  (xga_NoSize:PySem.W.findIn K (.ref Qbp) "__getattribute__" = some (some (.builtin "BaseException.__getattribute__")))
  (xna_NoSize:PySem.W.findIn K (.ref Qbp) "__getattr__" = some none)
  (xca_NoSize:PySem.W.findIn K (.ref Qbp) "__class__" = some (some (.builtin "object.__class__")))
  (xob_NoSize:PySem.W.mroIn K Qbp (.type "object")=some true)
  (xbe_NoSize:PySem.W.mroIn K Qbp (.type "BaseException")=some true)
  (xcl_NoSize:PySem.W.clsIn K Qbp=some Qnw)
  (xga_NoRoom:PySem.W.findIn K (.ref Qa0) "__getattribute__" = some (some (.builtin "BaseException.__getattribute__")))
  (xna_NoRoom:PySem.W.findIn K (.ref Qa0) "__getattr__" = some none)
  (xca_NoRoom:PySem.W.findIn K (.ref Qa0) "__class__" = some (some (.builtin "object.__class__")))
  (xob_NoRoom:PySem.W.mroIn K Qa0 (.type "object")=some true)
  (xbe_NoRoom:PySem.W.mroIn K Qa0 (.type "BaseException")=some true)
  (xcl_NoRoom:PySem.W.clsIn K Qa0=some QnK)
  (xif_NoRoom:PySem.W.findIn K (.ref Qa0) "__init__" = some (some (.ref fI_NoRoom)))
  (xii_NoRoom:PySem.W.isFn K (.ref fI_NoRoom)=true)
  (xil_NoRoom:K.lookup fI_NoRoom=some ⟨ocI_NoRoom,odI_NoRoom,.func (PySem.W.fnOf "__init__" "NoRoom.__init__" (QbU Qcx) (Qa8 Qcx) (Qao Qcx) .none kVI_NoRoom dcI_NoRoom pmI_NoRoom anI_NoRoom cdI_NoRoom ctI_NoRoom),slI_NoRoom⟩)
  (xic_NoRoom:PySem.W.codeIn K cdI_NoRoom "NoRoom.__init__" = true)
  (xik_NoRoom:PySem.W.keepIn K (.ref fI_NoRoom)=true)
  (xis_NoRoom:PySem.W.findIn K (.ref Qa0) "__setattr__" = some (some (.builtin "object.__setattr__")))
  (xin_NoRoom:PySem.W.findIn K (.ref Qa0) "at" = some none)
  (xio_NoRoom:PySem.W.mroIn K Qa0 (.type "object")=some true)
  (xix_NoRoom:Qil K Qa0 bmV "ValueError.__new__" fI_NoRoom=true)
  (xN_NoSize:PySem.W.excIn K Qbp bmV "ValueError.__new__" = true)
  (fEX_NoSize_NoSize:PySem.W.exmOne K (.ref Qbp) (.ref Qbp)=some true)
  (fEX_NoSize_NoRoom:PySem.W.exmOne K (.ref Qa0) (.ref Qbp)=some false)
  (fEX_NoRoom_NoSize:PySem.W.exmOne K (.ref Qbp) (.ref Qa0)=some false)
  (fEX_NoRoom_NoRoom:PySem.W.exmOne K (.ref Qa0) (.ref Qa0)=some true)
  (fIS_OutError_NoSize:PySem.W.kitOne K (.ref Qbp) (.ref QgD)=some true)
  (fIS_OutError_NoRoom:PySem.W.kitOne K (.ref Qa0) (.ref QgD)=some true)
  (xve:PySem.W.nsIn K mainGlobals "ValueError" = some none)
  (fIV_NoSize:PySem.W.kitOne K (.ref Qbp) (.type "ValueError")=some true)
  (fIV_NoRoom:PySem.W.kitOne K (.ref Qa0) (.type "ValueError")=some true)
  (fXA_at_NoRoom:PySem.W.findIn K (.ref Qa0) "at" = some none) (hXA_at_NoRoom:PySem.W.hasDictIn K Qa0=true)
  (fIS_NoRoom_NoSize:PySem.W.kitOne K (.ref Qbp) (.ref Qa0)=some false)
  (fIS_NoRoom_NoRoom:PySem.W.kitOne K (.ref Qa0) (.ref Qa0)=some true)
  (fIT_NoCellNoHandNoNameTwice_NoSize:PySem.W.kitAny K (.ref Qbp) [.ref Qfq,.ref Qfr,.ref Qfn,.ref Qgf]=some false)
  (fIT_NoCellNoHandNoNameTwice_NoRoom:PySem.W.kitAny K (.ref Qa0) [.ref Qfq,.ref Qfr,.ref Qfn,.ref Qgf]=some false) :
  ∃fd:FuncData,(∀(s:Shared) (v:Value),BindsTo s fd ⟨[v],[]⟩ [("_law_script",v)])∧∀base:Heap,K.In base→base.Ns mainGlobals mg→QbB l.prog w K mg base CX0 8 fa fd ["_law_script"] (sp_law K):=by
 have e:=hfa.symm.trans (PySem.W.mg_of X G QlQ);cases e;have QfE:=Z_Plan.kf X G Qk6;have Qbn:=Z_Plan.kf X G QgT;have QfC:=Z_Plan.kf X G Qk0;have QdR:=Z_Plan.dc X G M_Plan___init__;have Qdh:=Z_Plan.dm X G M_Plan_room_names;have QmB:Def K mg "law" Qel:=⟨_,_,PySem.W.mg_of X G QlQ,QiF (st:=Qel) Qpq QsQ QtU⟩;have Qkc:QoO K mg "WAYS" [[99,117,116],[99,101,108,108,115],[119,111,114,100,115],[101,118,101,110]]:=⟨ad_WAYS,_,it_WAYS,nn_WAYS,PySem.W.mg_of X G QoV,QoQ,t_c_WAYS,rfl,Qoz,v_c_WAYS⟩;have XF_NoSize:Qd1 K Qbp:=⟨xga_NoSize,xna_NoSize,xca_NoSize,xsp,xtk,xob_NoSize,xbe_NoSize,by rw [xcl_NoSize]; rfl⟩
 have XF_NoRoom:Qd1 K Qa0:=⟨xga_NoRoom,xna_NoRoom,xca_NoRoom,xsp,xtk,xob_NoRoom,xbe_NoRoom,by rw [xcl_NoRoom]; rfl⟩;have DI_NoRoom:QmE K mg "NoRoom" "at" "NoRoom.__init__" Qcx:=⟨_,_,_,PySem.W.mg_of X G QbX,⟨xix_NoRoom,xis_NoRoom,xin_NoRoom,xio_NoRoom⟩,xii_NoRoom,QiF (st:=Qcx) xil_NoRoom xic_NoRoom xik_NoRoom⟩;have X_NoSize:Qo5 K mg "NoSize":=⟨_,PySem.W.mg_of X G QcB,xN_NoSize⟩;have EX_NoSize_NoSize:EXM K mg "NoSize" "NoSize" true:=⟨_,_,PySem.W.mg_of X G QcB,PySem.W.mg_of X G QcB,fEX_NoSize_NoSize⟩;have EX_NoSize_NoRoom:EXM K mg "NoSize" "NoRoom" false:=⟨_,_,PySem.W.mg_of X G QbX,PySem.W.mg_of X G QcB,fEX_NoSize_NoRoom⟩
 have EX_NoRoom_NoSize:EXM K mg "NoRoom" "NoSize" false:=⟨_,_,PySem.W.mg_of X G QcB,PySem.W.mg_of X G QbX,fEX_NoRoom_NoSize⟩;have EX_NoRoom_NoRoom:EXM K mg "NoRoom" "NoRoom" true:=⟨_,_,PySem.W.mg_of X G QbX,PySem.W.mg_of X G QbX,fEX_NoRoom_NoRoom⟩;have IS_OutError_NoSize:ISN K mg "OutError" "NoSize" true:=⟨_,_,PySem.W.mg_of X G QcB,XF_NoSize,PySem.W.mg_of X G QhX,fIS_OutError_NoSize⟩;have IS_OutError_NoRoom:ISN K mg "OutError" "NoRoom" true:=⟨_,_,PySem.W.mg_of X G QbX,XF_NoRoom,PySem.W.mg_of X G QhX,fIS_OutError_NoRoom⟩;have VN:=PySem.W.mg_none_of X G xve;have IV_NoSize:ISV K mg "NoSize":=⟨_,PySem.W.mg_of X G QcB,XF_NoSize,fIV_NoSize⟩
 have IV_NoRoom:ISV K mg "NoRoom":=⟨_,PySem.W.mg_of X G QbX,XF_NoRoom,fIV_NoRoom⟩;have XA_at_NoRoom:XFC K mg "at" "NoRoom":=⟨_,PySem.W.mg_of X G QbX,XF_NoRoom,fXA_at_NoRoom,hXA_at_NoRoom⟩;have IS_NoRoom_NoSize:ISN K mg "NoRoom" "NoSize" false:=⟨_,_,PySem.W.mg_of X G QcB,XF_NoSize,PySem.W.mg_of X G QbX,fIS_NoRoom_NoSize⟩;have IS_NoRoom_NoRoom:ISN K mg "NoRoom" "NoRoom" true:=⟨_,_,PySem.W.mg_of X G QbX,XF_NoRoom,PySem.W.mg_of X G QbX,fIS_NoRoom_NoRoom⟩;have IT_NoCellNoHandNoNameTwice_NoSize:Qia K mg ["NoCell","NoHand","NoName","Twice"] "NoSize" false:=⟨Qbp,[Qfq,Qfr,Qfn,Qgf],PySem.W.mg_of X G QcB,XF_NoSize,⟨_,_,rfl,PySem.W.mg_of X G Qju,⟨_,_,rfl,PySem.W.mg_of X G QjG,⟨_,_,rfl,PySem.W.mg_of X G QjL,⟨_,_,rfl,PySem.W.mg_of X G QkP,rfl⟩⟩⟩⟩,fIT_NoCellNoHandNoNameTwice_NoSize⟩
 have IT_NoCellNoHandNoNameTwice_NoRoom:Qia K mg ["NoCell","NoHand","NoName","Twice"] "NoRoom" false:=⟨Qa0,[Qfq,Qfr,Qfn,Qgf],PySem.W.mg_of X G QbX,XF_NoRoom,⟨_,_,rfl,PySem.W.mg_of X G Qju,⟨_,_,rfl,PySem.W.mg_of X G QjG,⟨_,_,rfl,PySem.W.mg_of X G QjL,⟨_,_,rfl,PySem.W.mg_of X G QkP,rfl⟩⟩⟩⟩,fIT_NoCellNoHandNoNameTwice_NoRoom⟩;refine ⟨PySem.W.fnOf "law" "law" (QbU Qel) (Qa8 Qel) (Qao Qel) .none Qnn Qnm Qoa Qn9 Qkf Qog,fun s v=>.of_eq rfl,fun base _ _=>?_⟩;have XI_NoRoom:=@Qnd l.prog w K mg base DI_NoRoom;have Qhs:=@QmP l.prog w K mg base Qhl B Qd5;have Qdg:=@Qk1 l.prog w K mg base Qgq B
 have Qeb:=@Qkk l.prog w K mg base QfN B Qdg;have Qii:=@QmY l.prog w K mg base Qif B Qkc;have Qg0:=@Qmm l.prog w K mg base Qht B Qc1 Qdr Qds QeL Qdq QdQ QjR Qdg Qhs Qii;have QeQ:=@Qi7 l.prog w K mg base QeF B Qc1 Qdr Qdq QdQ;have Qfx:=@QmS l.prog w K mg base Qhv B;have Qdy:=@QhN l.prog w K mg base QdC B Qc1 Qdr Qds Qdq QdQ Qfx;have Qd8:=@QiQ l.prog w K mg base Qd0 B Qdo Qdz QeM X_NoSize Qeb;have QeP:=@Qi0 l.prog w K mg base QeG B Qff XI_NoRoom Qg0 QeQ Qdy;have Qcd:=@Qih l.prog w K mg base QdR B Qds QfE QfC Qbn Qd8 QeP;have Qdl:=@Qg2 l.prog w K mg base Qdh B Qbn;have Qbe:=@Qjc l.prog w K mg base QeN B
 have QbY:=@QlX l.prog w K mg base Qhn B;have QfU:=@QjZ l.prog w K mg base QfQ B QbY;have QgN:=@Qla l.prog w K mg base QgL B Qbe QfU QbY;have Qfm:=@QjN l.prog w K mg base Qfh B;have QgJ:=@Qk9 l.prog w K mg base QgM B;have QgV:=@Ql7 l.prog w K mg base Qhw B QgJ Qfm;have QbG:=@Qjf l.prog w K mg base QeR B EX_NoSize_NoSize EX_NoSize_NoRoom EX_NoRoom_NoSize EX_NoRoom_NoRoom IS_OutError_NoSize IS_OutError_NoRoom VN IV_NoSize IV_NoRoom XA_at_NoRoom IS_NoRoom_NoSize IS_NoRoom_NoRoom IT_NoCellNoHandNoNameTwice_NoSize IT_NoCellNoHandNoNameTwice_NoRoom Qcd;have QcG:=@Qj6 l.prog w K mg base QfB B Qdl Qcd.can
 have QfT:=@QkB l.prog w K mg base QfH B QcG;have QfI:=@Qkj l.prog w K mg base QfP B Qbe QbG;have Qt1:=@Qtg l.prog w K mg base QmB B Qbe QgN QcG QfT QfI QbG QgV;obtain ⟨f',fd',hm',hk',hb',F',oc',od',osl',lk'⟩:=Qt1;have e2:=(PySem.W.mg_of X G QlQ).symm.trans hm';cases e2;have e3:=Qpq.symm.trans lk';cases e3;exact F'.imp (QqJ Qo9)
theorem walk {l:PySem.W.OpenLaw}{q:Program}{loose:List Str}{XP:(Str→Option Value)→Heap→Prop}{YP:World→Heap→Prop}{d:DefRec}{K:Params→PySem.W.Frag} (hn:l.most=some 63) (hdf:d.params.defaults = [])
  (hY:∀(w:World) (h:Heap),YP w h→(K w.params).In h)
  (F:∀(w:World) (mg:Str→Option Value) (fa:Addr) (h:Heap),(K w.params).In h→h.Ns mainGlobals mg→mg d.name=some (.ref fa) →
   ∃fd:FuncData,(∀(s:Shared) (u:Value),BindsTo s fd ⟨[u],[]⟩ [("_law_script",u)])∧∀base:Heap,(K w.params).In base→base.Ns mainGlobals mg→QbB l.prog w (K w.params) mg base CX0 8 fa fd ["_law_script"] (sp_law (K w.params))) :
  PySem.W.WalkO q loose XP YP l.row.toRowW d [] (fun f vs=>PySem.call f vs) :=
 L2.walk_ofR (n:=63) (k:=8) (x:="_law_script") (CX:=fun _=>CX0) (sp:=fun w=>sp_law (K w.params)) hn (by decide) hdf ⟨rfl,by decide,by decide⟩ hY F (fun _ _ a ns hl ho hS=>⟨a,ns,rfl,hS,hl,ho,fun _=>rfl⟩) fun _ _ _ _ _ z=>z
end K62
open PySem PySem.W PyProof.Rows L2
set_option maxRecDepth 100000 in
set_option maxHeartbeats 0 in
theorem PySem.Challenge.cw_outweave_k62_plans_refused_holds : PySem.Challenge.rw_outweave_k62_plans_refused.Holds := by
 w_on; o_law; k_head; (case hw=>w_witness2)
 k_fill
 refine K62.walk (l:=PySem.Challenge.rw_outweave_k62_plans_refused) rfl rfl (fun w h Y=>PySem.W.kIn_of Y) ?F
 case F =>
  intro w mg fa h KX G hmg
  refine' K62.all_mk KX G hmg ⟨?x1,?x2,?x3,?x4,?x5,?x6,?x7⟩ ?x8 ?x9 ?x10 (mkD KX G ?x11 ?x12 ?x13 ?x14) (mkD KX G ?x15 ?x16 ?x17 ?x18) (mkD KX G ?x19 ?x20 ?x21 ?x22) (mkD KX G ?x23 ?x24 ?x25 ?x26) (mkD KX G ?x27 ?x28 ?x29 ?x30) (mkD KX G ?x31 ?x32 ?x33 ?x34) (mkD KX G ?x35 ?x36 ?x37 ?x38) (mkD KX G ?x39 ?x40 ?x41 ?x42) (mkD KX G ?x43 ?x44 ?x45 ?x46) (mkD KX G ?x47 ?x48 ?x49 ?x50) (mkM ?x51 ?x52 ?x53 ?x54 ?x55) (mkM ?x56 ?x57 ?x58 ?x59 ?x60) (mkD KX G ?x61 ?x62 ?x63 ?x64) (mkD KX G ?x65 ?x66 ?x67 ?x68) (mkD KX G ?x69 ?x70 ?x71 ?x72) (mkD KX G ?x73 ?x74 ?x75 ?x76) (mkD KX G ?x77 ?x78 ?x79 ?x80) (mkD KX G ?x81 ?x82 ?x83 ?x84) (mkD KX G ?x85 ?x86 ?x87 ?x88) (mkD KX G ?x89 ?x90 ?x91 ?x92) (mkD KX G ?x93 ?x94 ?x95 ?x96) (mkD KX G ?x97 ?x98 ?x99 ?x100) (mkD KX G ?x101 ?x102 ?x103 ?x104) ?x105 ?x106 ?x107 ?x108 ⟨⟨PySem.W.mg_none_of KX G ?x109,PySem.W.mg_none_of KX G ?x110,PySem.W.mg_none_of KX G ?x111,PySem.W.mg_none_of KX G ?x112,PySem.W.mg_none_of KX G ?x113,PySem.W.mg_none_of KX G ?x114,PySem.W.mg_none_of KX G ?x115,PySem.W.mg_none_of KX G ?x116,PySem.W.mg_none_of KX G ?x117,PySem.W.mg_none_of KX G ?x118,PySem.W.mg_none_of KX G ?x119,PySem.W.mg_none_of KX G ?x120,PySem.W.mg_none_of KX G ?x121,PySem.W.mg_none_of KX G ?x122,PySem.W.mg_none_of KX G ?x123⟩,PySem.W.mg_none_of KX G ?x124⟩ ⟨_,PySem.W.mg_of KX G ?x125,?x126⟩ ⟨_,PySem.W.mg_of KX G ?x127,?x128⟩ ⟨_,PySem.W.mg_of KX G ?x129,?x130⟩ ⟨_,PySem.W.mg_of KX G ?x131,?x132⟩ ⟨_,PySem.W.mg_of KX G ?x133,?x134⟩ ⟨_,PySem.W.mg_of KX G ?x135,?x136⟩ ⟨_,PySem.W.mg_of KX G ?x137,?x138⟩ ⟨_,PySem.W.mg_of KX G ?x139,?x140⟩ ⟨_,PySem.W.mg_of KX G ?x141,?x142⟩ ⟨_,PySem.W.mg_of KX G ?x143,?x144⟩ ⟨_,PySem.W.mg_of KX G ?x145,?x146⟩ ⟨_,PySem.W.mg_of KX G ?x147,?x148⟩ ?x149 ?x150 ?x151 ?x152 ?x153 ?x154 ?x155 ?x156 ?x157 ?x158 ?x159 ?x160 ?x161 ?x162 ?x163 ?x164 ?x165 ?x166 ?x167 ?x168 ?x169 ?x170 ?x171 ?x172 ?x173 ?x174 ?x175 ?x176 ?x177 ?x178 ?x179 ?x180 ?x181 ?x182 ?x183 ?x184 ?x185 ?x186 ?x187 ?x188 ?x189 ?x190 ?x191 ?x192 ?x193 ?x194 ?x195 ?x196 ?x197 ?x198 ?x199
  (case x1 | x2 | x3 | x4 | x5 | x6 | x7 | x8 | x9 | x10 | x11 | x12 | x13 | x14 | x15 | x16 | x17 | x18 | x19 | x20 | x21 | x22 | x23 | x24 | x25 | x26 | x27 | x28 | x29 | x30 | x31 | x32 | x33 | x34 | x35 | x36 | x37 | x38 | x39 | x40 | x41 | x42 | x43 | x44 | x45 | x46 | x47 | x48 | x49 | x50 | x51 | x52 | x53 | x54 | x55 | x56 | x57 | x58 | x59 | x60 | x61 | x62 | x63 | x64 | x65 | x66 | x67 | x68 | x69 | x70 | x71 | x72 | x73 | x74 | x75 | x76 | x77 | x78 | x79 | x80 | x81 | x82 | x83 | x84 | x85 | x86 | x87 | x88 | x89 | x90 | x91 | x92 | x93 | x94 | x95 | x96 | x97 | x98 | x99 | x100 | x101 | x102 | x103 | x104 | x105 | x106 | x107 | x108 | x109 | x110 | x111 | x112 | x113 | x114 | x115 | x116 | x117 | x118 | x119 | x120 | x121 | x122 | x123 | x124 | x125 | x127 | x129 | x131 | x133 | x135 | x137 | x139 | x141 | x143 | x145 | x147 | x149 | x150 | x154 | x155 | x156 | x157 | x158 | x159 | x160 | x161 | x162 | x163 | x164 | x165 | x166 | x167 | x168 | x169 | x170 | x171 | x172 | x173 | x174 | x175 | x176 | x177 | x178 | x179 | x180 | x181 | x182 | x191 | x194 | x195=>k_is)
  (case x126 | x128 | x130 | x132 | x134 | x136 | x138 | x140 | x142 | x144 | x146 | x148=>exact ⟨_,rfl⟩)
  (case x151=>rfl)
  (case x152=>decide +kernel)
  (case x153=>repeat (first | exact .nil | refine .cons ⟨_,rfl⟩ ?_))
  (case x183=>first | kernel_rfl | decide +kernel)
  (case x184=>k_exc)
  (case x185 | x186 | x187 | x188=>kts_exm)
  (case x189 | x190 | x192 | x193 | x196 | x197 | x198 | x199=>kit_is)
