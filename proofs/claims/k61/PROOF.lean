import PyProof.Rows.All
import Wide.All
import OpenK.AllK
import Wide.FinOn
import Lean
import PyProof.EqAt
import PyProof.EqKinds
import PyProof.TupleCall
import PySem.Challenge.RW_outweave_k61_plans_told
set_option Elab.async false
set_option linter.all false
set_option maxRecDepth 100000
set_option maxHeartbeats 4000000
section
open PySem PyProof.Rows
abbrev zc:=@wpAny_bind
abbrev zd:=@wpAny_pure
abbrev ze:=@Nat.le_refl
abbrev zf:=@Heap.lt_size
abbrev zg:=@List.map_cons
abbrev zh:=@Heap.get?_push_of_some
abbrev zj:=@Bool.false_ne_true
abbrev zk:=@Bool.and_eq_true
abbrev zl:=@decide_eq_true
abbrev zm:=@List.mem_cons
abbrev zn:=@decide_eq_false
abbrev zo:=@List.getElem?_eq_some_iff
abbrev zp:=@List.length_map
abbrev zq:=@Nat.ne_of_lt
abbrev zr:=@wpAny_mono
abbrev zt:=@List.getElem?_set_ne
abbrev zu:=@List.size_toArray
abbrev zv:=@List.mem_singleton
abbrev zw:=@List.mem_cons_of_mem
abbrev zx:=@List.getElem?_eq_getElem
abbrev zy:=@List.getElem?_append_left
abbrev zz:=@List.mem_cons_self
abbrev zA:=@Nat.lt_of_lt_of_le
abbrev zB:=@Nat.le_trans
abbrev zC:=@List.mem_append
abbrev zD:=@Heap.get?_push_size
abbrev zE:=@List.getElem?_append_right
abbrev zF:=@List.length_append
abbrev zG:=@List.getElem?_map
abbrev zH:=@Nat.lt_irrefl
abbrev zI:=@List.getElem?_set_self
abbrev zJ:=@List.length_cons
abbrev zK:=@wpAny_holding
abbrev zL:=@Option.some.inj
abbrev zM:=@List.map_append
abbrev zN:=@List.getElem?_cons_zero
abbrev zO:=@List.mem_append_right
abbrev zP:=@List.append_nil
abbrev zQ:=@List.mem_map
abbrev zR:=@List.mem_of_getElem?
abbrev zS:=@List.getD_eq_getElem?_getD
abbrev zT:=@List.length_set
abbrev zU:=@wpAny_call
abbrev zV:=@wpAny_rule
abbrev zW:=@wpAny_of_eq
abbrev zX:=@List.nil_append
abbrev zY:=@List.map_nil
abbrev zZ:=@List.all_eq_true
abbrev jc:=@List.getElem?_cons_succ
abbrev jd:=@List.map_map
abbrev je:=@List.append_assoc
abbrev jf:=@Heap.get?_update_other
abbrev jg:=@List.getElem_mem
abbrev jh:=@of_decide_eq_true
abbrev ji:=@codeAny_builtin
abbrev jj:=@Nat.lt_succ_self
abbrev jk:=@List.length_singleton
abbrev jl:=@Option.map_eq_some_iff
abbrev jm:=@List.nodup_append
end
namespace PySem.W.Fast
abbrev tw11682559121883894022:=()
abbrev tw10968587337396581502:=()
abbrev tw12707022936535772747:=()
abbrev tw5995535731147825782:=()
abbrev tw10824529532009540930:=()
abbrev tw1047767648538682814:=()
abbrev tw7456442296138346601:=()
abbrev tw12500273115807755103:=()
abbrev tw6303281849370455447:=()
abbrev tw4329580775235138387:=()
abbrev tw839731697243863526:=()
abbrev tw3152569267087029496:=()
abbrev tw3110044986012961171:=()
abbrev tw7872068598049899877:=()
abbrev tw16026384691642704121:=()
abbrev tw4397153489209955335:=()
abbrev tw13003623708999306417:=()
abbrev tw9670624145120831906:=()
abbrev tw1881566429362945014:=()
abbrev tw15406681003615966023:=()
abbrev tw16141608580079280750:=()
abbrev tw14762522263111976321:=()
abbrev tw2484633859163830387:=()
abbrev tw6570133877483146364:=()
end PySem.W.Fast
namespace L2
open PySem PySem.Spec PyProof.Rows
abbrev Key:=Sum Int Str
def Qfz:Key→Value→Bool
 | .inl k,v=>Value.isInt k v
 | .inr x,v=>Value.isStrOf x v
def QwZ (w:World):Key→Int
 | .inl k=>hashInt k
 | .inr x=>hashStr w x
theorem QbU:∀{k:Key}{v:Value},Qfz k v=true→(∃i t,k=Sum.inl i∧v=Value.int i t)∨(∃x t,k=Sum.inr x∧v=Value.str x t)
 | .inl i,v,h=>by
  obtain ⟨t,e⟩:=Value.isInt_shape (k:=i) (v:=v) h;exact .inl ⟨i,t,rfl,e⟩
 | .inr x,v,h=>by
  obtain ⟨t,e⟩:=Value.isStrOf_shape (x:=x) (v:=v) h;exact .inr ⟨x,t,rfl,e⟩
theorem Qpn (i:Int) (t:Tok):Qfz (.inl i) (.int i t)=true:=by simp [Qfz,Value.isInt]
theorem Qo7 (x:Str) (t:Tok):Qfz (.inr x) (.str x t)=true:=by simp [Qfz,Value.isStrOf]
theorem QtU (a b:Int):decide ((Sum.inl a:Key)=Sum.inl b)=(a == b):=by
 by_cases e:a=b
 ·subst e; simp
 ·have h:¬(Sum.inl a:Key)=Sum.inl b:=fun q=>e (Sum.inl.inj q)
  rw [zn h];exact (beq_eq_false_iff_ne.mpr e).symm
theorem QtE (a b:Str):decide ((Sum.inr a:Key)=Sum.inr b)=decide (a=b):=by
 by_cases e:a=b
 ·subst e; simp
 ·have h:¬(Sum.inr a:Key)=Sum.inr b:=fun q=>e (Sum.inr.inj q)
  rw [zn h,zn e]
theorem QsZ (a:Int) (b:Str):decide ((Sum.inl a:Key)=Sum.inr b)=false:=zn (fun q=>nomatch q)
theorem Qs9 (a:Str) (b:Int):decide ((Sum.inr a:Key)=Sum.inl b)=false:=zn (fun q=>nomatch q)
def Qbx (prog:Program) (w:World):PySem.KeyKind prog w Key where
 is:=Qfz
 hash:=QwZ w
 inj:=fun v a b ha hb=>by
  rcases QbU ha with ⟨i,t,rfl,rfl⟩ | ⟨x,t,rfl,rfl⟩
  ·rcases QbU hb with ⟨j,u,rfl,e⟩ | ⟨y,u,rfl,e⟩
   ·injection e with e1 _; rw [e1]
   ·exact nomatch e
  ·rcases QbU hb with ⟨j,u,rfl,e⟩ | ⟨y,u,rfl,e⟩
   ·exact nomatch e
   ·injection e with e1 _; rw [e1]
 byValue:=fun k v h=>by
  rcases QbU h with ⟨i,t,rfl,rfl⟩ | ⟨x,t,rfl,rfl⟩ <;> rfl
 pyHash:=fun hv h=>by
  rcases QbU hv with ⟨i,t,rfl,rfl⟩ | ⟨x,t,rfl,rfl⟩
  ·exact wpAny_pyHash_int h
  ·exact wpAny_pyHash_str h
 eqBool:=fun hu hv h=>by
  rcases QbU hu with ⟨i,t,rfl,rfl⟩ | ⟨x,t,rfl,rfl⟩
  ·rcases QbU hv with ⟨j,u,rfl,rfl⟩ | ⟨y,u,rfl,rfl⟩
   ·rw [QtU] at h; exact wpAny_eqBool_int h
   ·rw [QsZ] at h; exact SeqAt.EqAt.int_str i t y u _ _ _ _ h
  ·rcases QbU hv with ⟨j,u,rfl,rfl⟩ | ⟨y,u,rfl,rfl⟩
   ·rw [Qs9] at h; exact SeqAt.EqAt.str_int x t j u _ _ _ _ h
   ·rw [QtE] at h; exact wpAny_eqBool_str h
 «strs»:=fun k x t v h=>by
  rcases QbU h with ⟨i,u,rfl,e⟩ | ⟨y,u,rfl,e⟩
  ·exact nomatch e
  ·injection e with e1 _
   subst e1
   cases v <;> rfl
theorem Ql0 (prog:Program) (w:World) (i:Int) (t:Tok):(Qbx prog w).is (.inl i) (.int i t)=true:=Qpn i t
theorem QlV (prog:Program) (w:World) (x:Str) (t:Tok):(Qbx prog w).is (.inr x) (.str x t)=true:=Qo7 x t
inductive V where
 | non | bl (b:Bool) | int (i:Int) | str (x:Str) | byt (b:Array UInt8) | flt (b:UInt64) | ref (a:Addr) | ty (n:String)
 deriving DecidableEq
def RelV:V→Value→Prop
 | .non,u=>u=Value.none
 | .bl b,u=>u=Value.bool b
 | .int i,u=>∃t,u=Value.int i t
 | .str x,u=>∃t,u=Value.str x t
 | .byt b,u=>∃t,u=Value.bytes b t
 | .flt b,u=>∃t,u=Value.float b t
 | .ref a,u=>u=Value.ref a
 | .ty n,u=>u=Value.type n
abbrev Qax:List V→List Value→Prop:=Paired RelV
theorem Qax.length {xs:List V}{us:List Value} (r:Qax xs us):xs.length=us.length:=Paired.length r
theorem Qax.get:∀{xs:List V}{us:List Value}{i:Nat}{x:V},Qax xs us→xs[i]? = some x→∃u,us[i]? = some u∧RelV x u
 | _,_,_,_,.nil,e=>by simp at e
 | _,_,0,_,.cons r _,e=>by simp at e; subst e; exact ⟨_,rfl,r⟩
 | _,_,i+1,x,.cons _ t,e=>by
  obtain ⟨u,h1,h2⟩:=Qax.get (i:=i) (x:=x) t (by simpa using e);exact ⟨u,by simpa using h1,h2⟩
theorem Qax.set {x:V}{u:Value} (r:RelV x u):∀{xs:List V}{us:List Value} (i:Nat),Qax xs us→Qax (xs.set i x) (us.set i u)
 | _,_,_,.nil=>.nil
 | _,_,0,.cons _ t=>.cons r t
 | _,_,i+1,.cons q t=>.cons q (Qax.set r i t)
theorem Qax.append:∀{xs ys:List V}{us ws:List Value},Qax xs us→Qax ys ws→Qax (xs++ys) (us++ws)
 | _,_,_,_,.nil,s=>s
 | _,_,_,_,.cons r t,s=>.cons r (Qax.append t s)
theorem Qax.take:∀{xs:List V}{us:List Value} (n:Nat),Qax xs us→Qax (xs.take n) (us.take n)
 | _,_,0,_=>.nil
 | _,_,_+1,.nil=>.nil
 | _,_,n+1,.cons r t=>.cons r (Qax.take n t)
theorem Qax.drop:∀{xs:List V}{us:List Value} (n:Nat),Qax xs us→Qax (xs.drop n) (us.drop n)
 | _,_,0,r=>r
 | _,_,_+1,.nil=>.nil
 | _,_,n+1,.cons _ t=>Qax.drop n t
theorem Qax.none_of:∀{xs:List V}{us:List Value}{i:Nat},Qax xs us→xs[i]? = none→us[i]? = none:=fun {xs us i} r e=>by
 have h1:=r.length;have h2:xs.length≤i:=List.getElem?_eq_none_iff.mp e;exact List.getElem?_eq_none_iff.mpr (by omega)
def QcI:Option V→Option Value→Prop
 | some v,some u=>RelV v u
 | none,none=>True
 | _,_=>False
def KV {κ:Type}:List (κ×V)→List (κ×Value)→Prop:=Paired fun (p:κ×V) (q:κ×Value)=>p.1=q.1∧RelV p.2 q.2
def kV:Key→V
 | .inl i=>.int i
 | .inr x=>.str x
inductive HO where
  | lst (xs:List V)
  | tup (xs:List V)
  | dK (kvs:List (Key×V)) | dT (kvs:List (List Key×V))
  | set (S:Int→Bool) (n:Nat)
  | ins (C dx:Addr) (fs:List (Str×V))
  | own (x:Addr)
  | xd (fs:List (Str×V))
  | met (f x:Addr)
  | rng (lo hi:Int)
  | frz (o:Obj) (u:HO)
  | tbl (ps:Array Value)
  | ext (φ:Heap→Prop)
abbrev Hp:=Addr→Option HO
def upd (H:Hp) (a:Addr) (o:HO):Hp:=fun b=>if b=a then some o else H b
theorem Qay {H:Hp}{a:Addr}{o:HO}:upd H a o a=some o:=by unfold upd; rw [if_pos rfl]
theorem Qah {H:Hp}{a b:Addr}{o:HO} (h:b≠a):upd H a o b=H b:=by unfold upd; rw [if_neg h]
theorem ne_of {H:Hp}{a b:Addr}{o u:HO} (h:H a=some o) (h':H b=some u) (d:o≠u):a≠b:=by
 intro e; subst e; rw [h] at h'; exact d (zL h')
theorem Qaw {H:Hp}{a b:Addr}{o:HO} (h:H a=some o) (h':H b=none):a≠b:=by
 intro e; subst e; rw [h] at h'; cases h'
section
variable (P:Program) (w:World)
def Qbb (H:Hp) (h:Heap) (a:Addr):HO→Prop
 | .lst xs=>xs.length≤sizeLine∧∃(its:List Value) (n:Nat),Qax xs its∧h.get? a=some { cls:=.type "list",data:=.seq its.toArray n }
 | .tup xs=>xs.length≤sizeLine∧∃its:List Value,Qax xs its∧IsTup h a its.toArray
 | .dK kvs=>kvs.length≤sizeLine∧(a == sysModules)=false∧∃vs,KV kvs vs∧h.DictOf (Qbx P w) a vs
 | .dT kvs=>kvs.length≤sizeLine∧(a == sysModules)=false∧∃xs:List (List Key×Addr×Value),
   Paired (fun (p:List Key×V) (q:List Key×Addr×Value)=>p.1=q.1∧H q.2.1=some (.tup (p.1.map kV))∧RelV p.2 q.2.2) kvs xs ∧
   ∃o es ep,h.get? a=some o∧o.ExactDict∧o.data = .dict es ep∧es.toList=xs.map (entryOfKey (tupleKind (Qbx P w)))∧(xs.map (·.1)).Nodup
 | .set S n=>h.SetOf (intKind P w) a S n
 | .ins C dx fs=>H dx=some (.own a)∧fs.length≤1000∧dx≠a∧h.get? a=some (PySem.W.instObj C dx) ∧
   ∃mA,h.Ns1 dx mA∧(∀f,QcI (fs.lookup f) (mA f))∧PySem.Within mA (fs.map (·.1))
 | .own _=>∃o,h.get? a=some o
 | .xd fs=>∃mA,h.Ns1 a mA∧∀f,QcI (fs.lookup f) (mA f)
 | .rng lo hi=>∃t u v,h.get? a=some { cls:=.type "range",data:=.fields #[.int lo t,.int hi u,.int 1 v] }
 | .frz o u=>h.get? a=some o∧Qbb H h a u
 | .tbl ps=>h.get? a=some { cls:=.none,data:=.fields ps }
 | .met f x=>h.get? a=some (PySem.W.methodObj (.ref f) (.ref x))
 | .ext φ=>φ h∧(∃o,h.get? a=some o)∧∀h1 h2:Heap,φ h1→(∀o,h1.get? a=some o→h2.get? a=some o)→φ h2
def HOk (H:Hp) (h:Heap):Prop:=∀a o,H a=some o→Qbb P w H h a o
end
section
variable {P:Program}{w:World}{H H':Hp}{h h':Heap}{a:Addr}{o:HO}
theorem Qbb.lt (x:Qbb P w H h a o):a < h.objs.size:=by
 cases o with
 | lst xs=>obtain ⟨_,_,_,_,e⟩:=x; exact zf e
 | tup xs=>obtain ⟨_,_,_,p⟩:=x; exact p.lt
 | dK kvs=>obtain ⟨_,_,_,_,o,_,_,e,_⟩:=x; exact zf e
 | dT kvs=>obtain ⟨_,_,_,_,o,_,_,e,_⟩:=x; exact zf e
 | set S n=>obtain ⟨o,_,_,_,e,_⟩:=x; exact zf e
 | ins C dx fs=>obtain ⟨_,_,_,e,_⟩:=x; exact zf e
 | own y=>obtain ⟨_,e⟩:=x; exact zf e
 | xd fs=>obtain ⟨_,⟨_,_,_,e,_⟩,_⟩:=x; exact zf e
 | rng lo hi=>obtain ⟨_,_,_,e⟩:=x; exact zf e
 | frz ob u=>obtain ⟨e,_⟩:=x; exact zf e
 | tbl ps=>exact zf (show h.get? a=some _ from x)
 | met f y=>exact zf (show h.get? a=some _ from x)
 | ext φ=>obtain ⟨_,⟨_,e⟩,_⟩:=x; exact zf e
theorem Paired.mapP {α β:Type}{F G:α→β→Prop}:∀{l₁:List α}{l₂:List β},Paired F l₁ l₂→(∀a b,F a b→G a b)→Paired G l₁ l₂
 | _,_,.nil,_=>.nil
 | _,_,.cons r t,f=>.cons (f _ _ r) (Paired.mapP t f)
theorem Qbb.stay (x:Qbb P w H h a o) (k:∀b u,(b=a∨H b=some (.own a))→h.get? b=some u→h'.get? b=some u)
  (ho:∀b,H b=some (.own a)→H' b=some (.own a)) (ht:∀b xs,H b=some (.tup xs)→H' b=some (.tup xs)):Qbb P w H' h' a o:=by
 induction o with
 | lst xs=>obtain ⟨z,its,n,r,e⟩:=x; exact ⟨z,its,n,r,k _ _ (.inl rfl) e⟩
 | tup xs=>obtain ⟨z,its,r,ob,e,c⟩:=x; exact ⟨z,its,r,ob,k _ _ (.inl rfl) e,c⟩
 | dK kvs=>obtain ⟨z,y,vs,r,ob,es,ep,e,c⟩:=x; exact ⟨z,y,vs,r,ob,es,ep,k _ _ (.inl rfl) e,c⟩
 | dT kvs =>
  obtain ⟨z,y,xs,r,ob,es,ep,e,c⟩:=x;exact ⟨z,y,xs,Paired.mapP r fun p q z=>⟨z.1,ht _ _ z.2.1,z.2.2⟩,ob,es,ep,k _ _ (.inl rfl) e,c⟩
 | set S n=>obtain ⟨ob,es,ep,t,e,c⟩:=x; exact ⟨ob,es,ep,t,k _ _ (.inl rfl) e,c⟩
 | ins C dx fs =>
  obtain ⟨d,z,ne,e,mA,⟨od,es,ep,e2,c⟩,r⟩:=x;exact ⟨ho _ d,z,ne,k _ _ (.inl rfl) e,mA,⟨od,es,ep,k _ _ (.inr d) e2,c⟩,r⟩
 | own y=>obtain ⟨ob,e⟩:=x; exact ⟨ob,k _ _ (.inl rfl) e⟩
 | xd fs=>obtain ⟨mA,⟨od,es,ep,e,c⟩,r⟩:=x; exact ⟨mA,⟨od,es,ep,k _ _ (.inl rfl) e,c⟩,r⟩
 | rng lo hi=>obtain ⟨t,u,v,e⟩:=x; exact ⟨t,u,v,k _ _ (.inl rfl) e⟩
 | frz ob u ih=>obtain ⟨e,q⟩:=x; exact ⟨k _ _ (.inl rfl) e,ih q⟩
 | tbl ps =>
  have e:h.get? a=some { cls:=.none,data:=.fields ps }:=x;show h'.get? a=some { cls:=.none,data:=.fields ps };exact k a _ (.inl rfl) e
 | met f y =>
  have e:h.get? a=some (PySem.W.methodObj (.ref f) (.ref y)):=x;show h'.get? a=some (PySem.W.methodObj (.ref f) (.ref y));exact k a _ (.inl rfl) e
 | ext φ=>obtain ⟨p,⟨o,e⟩,st⟩:=x; exact ⟨st _ _ p fun o q=>k _ _ (.inl rfl) q,⟨o,k _ _ (.inl rfl) e⟩,st⟩
theorem HOk.lt (x:HOk P w H h) (e:H a=some o):a < h.objs.size:=(x a o e).lt
theorem HOk.fresh (x:HOk P w H h) (e:h.objs.size≤a):H a=none:=by
 cases q:H a with
 | none=>rfl
 | some u=>exact absurd (zA (x.lt q) e) (zH _)
theorem HOk.kept (x:HOk P w H h) (k:∀b u,h.get? b=some u→h'.get? b=some u):HOk P w H h':=fun a o e =>
 (x a o e).stay (fun b u _ q=>k b u q) (fun _ q=>q) fun _ _ q=>q
theorem HOk.laid (x:HOk P w H h) (k:∀b u,h.get? b=some u→h'.get? b=some u) (hp:h.objs.size≤a) (new:Qbb P w (upd H a o) h' a o):HOk P w (upd H a o) h':=fun b u e=>by
 have hn:=x.fresh hp
 by_cases hb:b=a
 ·subst hb; rw [Qay] at e; cases e; exact new
 ·rw [Qah hb] at e
  exact (x b u e).stay (fun c v _ q=>k c v q) (fun c q=>by rw [Qah (Qaw q hn)]; exact q) fun c xs q=>by rw [Qah (Qaw q hn)]; exact q
end
def Rd (H:Hp) (a:Addr) (u:HO):Prop:=H a=some u∨∃o,H a=some (.frz o u)
theorem Rd.of {H:Hp}{a:Addr}{u:HO} (h:H a=some u):Rd H a u:=.inl h
theorem Rd.ok {P:Program}{w:World}{H:Hp}{h:Heap}{a:Addr}{u:HO} (r:Rd H a u) (x:HOk P w H h):Qbb P w H h a u:=by
 rcases r with r | ⟨o,r⟩
 ·exact x a u r
 ·obtain ⟨_,q⟩:=x a _ r;exact q
def Mut:Option HO→Prop
 | some (.lst _)=>True
 | some (.dK _)=>True
 | some (.dT _)=>True
 | some (.set _ _)=>True
 | some (.ins _ _ _)=>True
 | some (.ext _)=>True
 | _=>False
section
variable {P:Program}{w:World}{H:Hp}{h h':Heap}{x e:Addr}{o':HO}
theorem HOk.write (ok:HOk P w H h) (mu:Mut (H x)) (he:e=x∨H e=some (.own x)) (k:∀b u,b≠e→h.get? b=some u→h'.get? b=some u) (heo:∃u,h'.get? e=some u)
  (new:Qbb P w (upd H x o') h' x o'):HOk P w (upd H x o') h':=fun b u q=>by
 have nown:∀c y,H c=some (.own y)→c≠x:=fun c y r z=>by subst z; rw [r] at mu; exact mu
 have ntup:∀c xs,H c=some (.tup xs)→c≠x:=fun c xs r z=>by subst z; rw [r] at mu; exact mu
 by_cases hb:b=x
 ·subst hb; rw [Qay] at q; cases q; exact new
 ·rw [Qah hb] at q
  by_cases hbe:b=e
  ·have q':H b=some (.own x):=by
    rcases he with z | z
    ·exact absurd (hbe.trans z) hb
    ·rw [hbe]; exact z
   rw [q] at q'; cases q';obtain ⟨v,hv⟩:=heo;exact ⟨v,by rw [hbe]; exact hv⟩
  ·refine (ok b u q).stay (fun c v hc r=>k c v ?_ r) (fun c r=>by rw [Qah (nown c b r)]; exact r) fun c xs r=>by rw [Qah (ntup c xs r)]; exact r
   rcases hc with rfl | hc
   ·exact hbe
   ·rintro rfl
    rcases he with z | z
    ·exact nown c b hc z
    ·rw [hc] at z; cases z; exact hb rfl
end
structure Un (fs ex:List Addr) (H H':Hp) (h h':Heap):Prop where
 keep:∀b o,h.get? b=some o→H b=none→b∉fs→b∉ex→h'.get? b=some o
 slot:∀b o,h.get? b=some o→H b=none→b∈fs→b∉ex→∃sl,h'.get? b=some { o with slots:=sl }
 free:∀b o,h.get? b=some o→H b=none→b∉ex→H' b=none
 there:∀b o,h.get? b=some o→b∉ex→∃o',h'.get? b=some o'
 tups:∀b xs,H b=some (.tup xs)→H' b=some (.tup xs)
 frzs:∀b o u,H b=some (.frz o u)→H' b=some (.frz o u)
 tbls:∀b ps,H b=some (.tbl ps)→∃more,H' b=some (.tbl (ps++more))
section
variable {fs fs' ex ex':List Addr}{H H1 H2:Hp}{h h1 h2 h':Heap}{a x e:Addr}{o:HO}
theorem Un.any (u:Un fs ex H H1 h h1) {b:Addr}{ob:Obj} (q:h.get? b=some ob) (n:H b=none) (hx:b∉ex):∃sl,h1.get? b=some { ob with slots:=sl }:=by
 by_cases hb:b∈fs
 ·exact u.slot b ob q n hb hx
 ·exact ⟨ob.slots,u.keep b ob q n hb hx⟩
theorem Un.trans (a:Un fs ex H H1 h h1) (b:Un fs ex H1 H2 h1 h2):Un fs ex H H2 h h2 where
 keep:=fun c ob q n hc hx=>b.keep c ob (a.keep c ob q n hc hx) (a.free c ob q n hx) hc hx
 slot:=fun c ob q n hc hx=>by
  obtain ⟨sl,e1⟩:=a.slot c ob q n hc hx;obtain ⟨sl',e2⟩:=b.slot c _ e1 (a.free c ob q n hx) hc hx;exact ⟨sl',e2⟩
 free:=fun c ob q n hx=>by
  obtain ⟨o',e1⟩:=a.there c ob q hx;exact b.free c o' e1 (a.free c ob q n hx) hx
 there:=fun c ob q hx=>by
  obtain ⟨o',e1⟩:=a.there c ob q hx;exact b.there c o' e1 hx
 tups:=fun c xs q=>b.tups c xs (a.tups c xs q)
 frzs:=fun c ob xs q=>b.frzs c ob xs (a.frzs c ob xs q)
 tbls:=fun c ps q=>by
  obtain ⟨m1,e1⟩:=a.tbls c ps q;obtain ⟨m2,e2⟩:=b.tbls c _ e1;exact ⟨m1++m2,by rw [e2,Array.append_assoc]⟩
theorem Un.kept (k:∀b u,h.get? b=some u→h'.get? b=some u):Un fs ex H H h h' :=
 ⟨fun b ob q _ _ _=>k b ob q,fun b ob q _ _ _=>⟨ob.slots,k b ob q⟩,fun _ _ _ n _=>n,fun b ob q _=>⟨ob,k b ob q⟩,fun _ _ q=>q,fun _ _ _ q=>q,fun _ ps q=>⟨#[],by rw [q]; simp⟩⟩
theorem Un.refl:Un fs ex H H h h:=Un.kept fun _ _ q=>q
theorem Un.laid (k:∀b u,h.get? b=some u→h'.get? b=some u) (hp:h.objs.size≤a) (hn:H a=none):Un fs ex H (upd H a o) h h' where
 keep:=fun b u q _ _ _=>k b u q
 slot:=fun b u q _ _ _=>⟨u.slots,k b u q⟩
 free:=fun b u q n _=>by rw [Qah (zq (zA (zf q) hp))]; exact n
 there:=fun b u q _=>⟨u,k b u q⟩
 tups:=fun b xs q=>by rw [Qah (Qaw q hn)]; exact q
 frzs:=fun b u xs q=>by rw [Qah (Qaw q hn)]; exact q
 tbls:=fun b ps q=>⟨#[],by rw [Qah (Qaw q hn),q]; simp⟩
theorem Un.write (mu:Mut (H x)) (he:e=x∨H e=some (.own x)) (k:∀b u,b≠e→h.get? b=some u→h'.get? b=some u) (heo:∃u,h'.get? e=some u):Un fs ex H (upd H x o) h h':=by
 have hx:∀b,H b=none→b≠x:=fun b n z=>by subst z; rw [n] at mu; exact mu
 have hb:∀b,H b=none→b≠e:=fun b n z=>by
  subst z
  rcases he with r | r
  ·exact hx b n r
  ·rw [n] at r; cases r
 have hm:∀b u,H b=some u→¬Mut (some u)→b≠x:=fun b u q nm z=>by subst z; rw [q] at mu; exact nm mu
 refine ⟨fun b u q n _ _=>k b u (hb b n) q,fun b u q n _ _=>⟨u.slots,k b u (hb b n) q⟩,fun b u q n _=>by rw [Qah (hx b n)]; exact n,fun b u q _=>?_,
  fun b xs q=>by rw [Qah (hm b _ q fun z=>z)]; exact q,fun b u xs q=>by rw [Qah (hm b _ q fun z=>z)]; exact q,fun b ps q=>⟨#[],by rw [Qah (hm b _ q fun z=>z),q]; simp⟩⟩
 by_cases hbe:b=e
 ·subst hbe; exact heo
 ·exact ⟨u,k b u hbe q⟩
theorem Un.mono (u:Un fs ex H H1 h h1) (hs:∀b∈fs,b∈fs') (hx:∀b∈ex,b∈ex'):Un fs' ex' H H1 h h1 :=
 ⟨fun b ob q n hb he=>u.keep b ob q n (fun z=>hb (hs b z)) fun z=>he (hx b z),fun _ _ q n _ he=>u.any q n fun z=>he (hx _ z),fun b ob q n he=>u.free b ob q n fun z=>he (hx b z),fun b ob q he=>u.there b ob q fun z=>he (hx b z),u.tups,u.frzs,u.tbls⟩
end
def trk (h:Heap) (H:Hp):List Addr:=(List.range h.objs.size).filter fun a=>(H a).isSome
def Qd7 (h:Heap) (H:Hp):Heap:=PySem.W.hideAll h (trk h H)
theorem Qj8 (h:Heap) (H:Hp):(Qd7 h H).objs.size=h.objs.size:=PySem.W.hideAll_size _ _
theorem Qk8 {h:Heap}{H:Hp}{b:Addr}{o:Obj} (e:h.get? b=some o) (n:H b=none):(Qd7 h H).get? b=some o :=
 PySem.W.hideAll_get _ e fun hm=>by
  have q:(H b).isSome=true:=(List.mem_filter.mp hm).2;rw [n] at q; simp at q
theorem QmF {h:Heap}{H:Hp}{b:Addr}{o:Obj} (e:(Qd7 h H).get? b=some o):h.get? b=some o∧H b=none:=by
 have e':h.get? b=some o:=PySem.W.of_hideAll (trk h H) e;refine ⟨e',?_⟩
 cases q:H b with
 | none=>rfl
 | some x =>
  have hm:b∈trk h H:=List.mem_filter.mpr ⟨List.mem_range.mpr (zf e'),by simp [q]⟩;have z:(Qd7 h H).get? b=none:=PySem.W.hideAll_none (trk h H) hm;rw [z] at e; cases e
def QrG (g h:Heap) (L:Addr):List (Addr×Obj):=(List.range h.objs.size).filterMap fun a=>if a=L∨(g.get? a).isSome=true then none else (h.get? a).map fun o=>(a,o)
def rest (g h:Heap) (L d:Addr):List (Addr×Obj):=(QrG g h L).filter fun p=>decide (p.1≠d)
structure Mod (K:PySem.W.Frag) (mg:Str→Option Value) (base:Heap):Prop where
 kin:K.In base
 glob:base.Ns mainGlobals mg
 blt:∃mb,base.Ns builtinsNs mb∧∀x:Str,x≠"__name__"→mb x=bootBuiltins x
 nolimit:base.NoLimit
structure Cx where
 prog:Program
 w:World
 K:PySem.W.Frag
 mg:Str→Option Value
 base:Heap
 A:Around
 N:List Str
 s₀:Shared
 H₀:Hp
 env:Env
 outer:List Env
 stack:List Env
 ex:List Addr
 fn:Str→Bool
 calm:Bool
 pn:List (Addr×Obj)
 xe:Value→Shared→Prop
def frs (l:List Env):List Addr:=l.filterMap (·.frame)
abbrev Cx.fs (X:Cx):List Addr:=frs X.outer
def Vis (sc:Scope) (x:Str):Prop:=sc.names.lookup x=some .local∨sc.names.lookup x=some .cell∨sc.names.lookup x=some .free
def Loc (sc:Scope) (x:Str):Prop:=sc.names.lookup x=some .local∨sc.names.lookup x=some .cell
def Look (env:Env) (h:Heap) (m:Str→Option Value) (x:Str) (u:Value):Prop :=
 (env.kindOf x=some .local∧m x=some u)∨((env.kindOf x=some .cell∨env.kindOf x=some .free)∧∃c,env.cells.lookup x=some c∧h.IsCell c (some u))
structure Cx.Ok (X:Cx):Prop where
 mod:Mod X.K X.mg X.base
 kind:X.env.scope.kind = .function
 glob:X.env.globals=mainGlobals
 blt:X.env.builtins=builtinsNs
 above:X.s₀.heap.objs.size≤X.env.locals
 inj:∀x y c,X.env.cells.lookup x=some c→X.env.cells.lookup y=some c→x=y
 has:∀x,(X.env.kindOf x=some .cell∨X.env.kindOf x=some .free)→∃c,X.env.cells.lookup x=some c
 cab:∀x c,X.fn x=true→X.env.cells.lookup x=some c→X.s₀.heap.objs.size≤c
 hd:X.calm=true→X.A.handled=none
 frames:X.A.frames=some X.stack
 stk:X.stack=X.outer∨(X.stack=X.env::X.outer∧X.env.frame=some X.env.locals)
 exf:∀b∈X.ex,b≠X.env.locals∧∀x c,X.env.cells.lookup x=some c→c≠b
 bs:∀b o,X.base.get? b=some o→X.s₀.heap.get? b=some o∧X.H₀ b=none
 bsz:X.base.objs.size≤X.s₀.heap.objs.size
 noex:∀b o,X.base.get? b=some o→b∉X.ex
 exfs:∀b∈X.ex,b∉X.fs
 funs:X.s₀.heap.FunFrames X.base X.outer
 frf:∀b∈X.fs,X.H₀ b=none
structure Inv (X:Cx) (pins:List (Addr×Obj)) (σ:List (Option V)) (H:Hp) (s:Shared):Prop where
 ok:X.Ok
 os:s.os=X.s₀.os
 bare:AllBare s.gens
 base:Un X.fs X.ex X.H₀ H X.s₀.heap s.heap
 loc:∃m,s.heap.Ns X.env.locals m∧∀(i:Nat) (x:Str) (v:V),X.N[i]? = some x→σ[i]? = some (some v)→Vis X.env.scope x→∃u,RelV v u∧Look X.env s.heap m x u
 cell:∀x c,X.env.cells.lookup x=some c→∃v,s.heap.IsCell c v
 free:H X.env.locals=none
 freeC:∀x c,X.env.cells.lookup x=some c→H c=none
 pin:∀p∈X.pn++pins,s.heap.get? p.1=some p.2∧H p.1=none∧p.1≠X.env.locals∧p.1∉X.fs∧∀v,p.2.data≠.cell v
 hok:HOk X.prog X.w H s.heap
 len:σ.length=X.N.length
section
variable {X:Cx}{pins:List (Addr×Obj)}{σ:List (Option V)}{H H':Hp}{s:Shared}{h':Heap}
theorem Cx.Ok.nofr (ok:X.Ok) {b:Addr}{o:Obj} (e:X.base.get? b=some o):b∉X.fs:=fun hb=>by
 have:=(ok.funs.mem hb).1
 rw [e] at this; cases this
theorem Inv.bs (I:Inv X pins σ H s):∀b o,X.base.get? b=some o→s.heap.get? b=some o∧H b=none:=fun b o e =>
 ⟨I.base.keep b o (I.ok.bs b o e).1 (I.ok.bs b o e).2 (I.ok.nofr e) (I.ok.noex b o e),I.base.free b o (I.ok.bs b o e).1 (I.ok.bs b o e).2 (I.ok.noex b o e)⟩
theorem Inv.bk (I:Inv X pins σ H s):∀b o,X.base.get? b=some o→s.heap.get? b=some o:=fun b o e=>(I.bs b o e).1
theorem Inv.mod (I:Inv X pins σ H s):Mod X.K X.mg X.base:=I.ok.mod
theorem Inv.kIn (I:Inv X pins σ H s):X.K.In s.heap:=I.ok.mod.kin.keeps I.bk
theorem Inv.nolimit (I:Inv X pins σ H s):s.heap.NoLimit:=I.ok.mod.nolimit.keeps I.bk
theorem Inv.fr (I:Inv X pins σ H s):∃m,Fr X.base X.env.locals s.heap m :=
 let ⟨m,hn,_⟩:=I.loc
 ⟨m,hn,I.bk,zB I.ok.bsz I.ok.above⟩
theorem Inv.lt (I:Inv X pins σ H s):X.env.locals < s.heap.objs.size:=let ⟨_,hn,_⟩:=I.loc; hn.lt
theorem Inv.sz (I:Inv X pins σ H s):X.s₀.heap.objs.size≤s.heap.objs.size:=zB I.ok.above (Nat.le_of_lt I.lt)
theorem Inv.nofs (I:Inv X pins σ H s) {a:Addr} (h:s.heap.objs.size≤a):a∉X.fs:=fun hb=>by
 obtain ⟨_,o,ho,_⟩:=I.ok.funs.mem hb;exact absurd (zA (zf ho) (zB I.sz h)) (zH _)
theorem Inv.cne (I:Inv X pins σ H s):∀x c,X.env.cells.lookup x=some c→c≠X.env.locals:=fun x c e z=>by
 obtain ⟨v,o,ho,hd⟩:=I.cell x c e;obtain ⟨m,⟨o',es,ep,ho',hd',_⟩,_⟩:=I.loc;rw [z,ho'] at ho; cases ho; rw [hd'] at hd; cases hd
theorem Inv.funs (I:Inv X pins σ H s):s.heap.FunFrames X.base X.outer:=by
 have all:∀(l:List Env),(∀b∈frs l,b∈X.fs)→X.s₀.heap.FunFrames X.base l→s.heap.FunFrames X.base l:=by
  intro l
  induction l with
  | nil=>intro _ _; trivial
  | cons env r ih =>
   intro hs hl;obtain ⟨hk,⟨L,o,hf,hn,ho,hd⟩,hr⟩:=hl;have hL:L∈X.fs:=hs L (by unfold frs; rw [List.filterMap_cons,hf]; exact zz)
   obtain ⟨sl,e⟩:=I.base.slot L o ho (I.ok.frf L hL) hL fun z=>I.ok.exfs L z hL
   exact ⟨hk,⟨L,_,hf,hn,e,hd⟩,ih (fun b hb=>hs b (by unfold frs; rw [List.filterMap_cons,hf]; exact zw _ hb)) hr⟩
 exact all X.outer (fun _ hb=>hb) I.ok.funs
theorem Inv.stack (I:Inv X pins σ H s):s.heap.FunFrames X.base X.stack:=by
 rcases I.ok.stk with e | ⟨e,hf⟩
 ·rw [e]; exact I.funs
 ·rw [e];obtain ⟨m,hn,_⟩:=I.loc;refine .cons (by rw [I.ok.kind]; decide) hf hn ?_ I.funs;exact Heap.get?_none_of_le (zB I.ok.bsz I.ok.above)
theorem Inv.stkSub (I:Inv X pins σ H s):∀b∈frs X.stack,b∈X.env.locals::X.fs:=fun b hb=>by
 rcases I.ok.stk with e | ⟨e,hf⟩
 ·rw [e] at hb; exact zw _ hb
 ·rw [e] at hb;unfold frs at hb;rw [List.filterMap_cons,hf] at hb;exact hb
theorem Inv.stkFree (I:Inv X pins σ H s):∀b∈frs X.stack,H b=none:=fun b hb=>by
 rcases zm.mp (I.stkSub b hb) with e | hb
 ·rw [e]; exact I.free
 ·obtain ⟨_,o,ho,_⟩:=I.ok.funs.mem hb
  exact I.base.free b o ho (I.ok.frf b hb) fun z=>I.ok.exfs b z hb
theorem Inv.step {g':Array GenState}{t':Nat}{d':Drawn}{ch:List Addr} (I:Inv X pins σ H s)
  (hch:∀b∈ch,(b∈X.ex∨X.s₀.heap.objs.size≤b)∧b≠X.env.locals∧(∀x c,X.env.cells.lookup x=some c→c≠b)∧∀p∈X.pn++pins,p.1≠b)
  (keep:∀b o,b≠X.env.locals→b∉X.fs→b∉ch→s.heap.get? b=some o→H b=none→h'.get? b=some o)
  (slot:∀b o,b≠X.env.locals→b∈X.fs→b∉ch→s.heap.get? b=some o→H b=none→∃sl,h'.get? b=some { o with slots:=sl }) (free:∀b o,b∉ch→s.heap.get? b=some o→H b=none→H' b=none)
  (there:∀b o,b∉ch→s.heap.get? b=some o→∃o',h'.get? b=some o')
  (tups:∀b xs,H b=some (.tup xs)→H' b=some (.tup xs)) (frzs:∀b o u,H b=some (.frz o u)→H' b=some (.frz o u)) (tbls:∀b ps,H b=some (.tbl ps)→∃more,H' b=some (.tbl (ps++more)))
  (ns:∀m,s.heap.Ns X.env.locals m→h'.Ns X.env.locals m) (hok:HOk X.prog X.w H' h') (hg:AllBare g') :
  Inv X pins σ H' { s with heap:=h',gens:=g',drawn:=d',toks:=t' }:=by
 have neL:∀b o,X.s₀.heap.get? b=some o→b≠X.env.locals:=fun b o e=>zq (zA (zf e) I.ok.above)
 have neC:∀b o,X.s₀.heap.get? b=some o→b∉X.ex→b∉ch:=fun b o e hx hb=>by
  rcases (hch b hb).1 with z | z
  ·exact hx z
  ·exact absurd (zA (zf e) z) (zH _)
 have cellK:∀x c,X.env.cells.lookup x=some c→∀v,s.heap.IsCell c v→h'.IsCell c v:=fun x c e v ⟨o,ho,hd⟩=>by
  have nch:c∉ch:=fun z=>(hch c z).2.2.1 x c e rfl
  by_cases hc:c∈X.fs
  ·obtain ⟨sl,q⟩:=slot c o (I.cne x c e) hc nch ho (I.freeC x c e);exact ⟨_,q,hd⟩
  ·exact ⟨o,keep c o (I.cne x c e) hc nch ho (I.freeC x c e),hd⟩
 refine ⟨I.ok,I.os,hg,⟨fun b o e n hb hx=>?_,fun b o e n hb hx=>?_,fun b o e n hx=>?_,fun b o e hx=>?_,fun b xs e=>tups b xs (I.base.tups b xs e),fun b o xs e=>frzs b o xs (I.base.frzs b o xs e),fun b ps e=>?_⟩,?_,fun x c e=>?_,?_,fun x c e=>?_,fun p hp=>?_,hok,I.len⟩
 ·exact keep b o (neL b o e) hb (neC b o e hx) (I.base.keep b o e n hb hx) (I.base.free b o e n hx)
 ·obtain ⟨sl,e1⟩:=I.base.slot b o e n hb hx;obtain ⟨sl',e2⟩:=slot b _ (neL b o e) hb (neC b o e hx) e1 (I.base.free b o e n hx);exact ⟨sl',e2⟩
 ·obtain ⟨o',e1⟩:=I.base.there b o e hx;exact free b o' (neC b o e hx) e1 (I.base.free b o e n hx)
 ·obtain ⟨o',e1⟩:=I.base.there b o e hx;exact there b o' (neC b o e hx) e1
 ·obtain ⟨m1,e1⟩:=I.base.tbls b ps e;obtain ⟨m2,e2⟩:=tbls b _ e1;exact ⟨m1++m2,by rw [e2,Array.append_assoc]⟩
 ·obtain ⟨m,hn,hl⟩:=I.loc;refine ⟨m,ns m hn,fun i x v e1 e2 e3=>?_⟩;obtain ⟨u,r,l⟩:=hl i x v e1 e2 e3;refine ⟨u,r,?_⟩
  rcases l with l | ⟨k,c,e,z⟩
  ·exact .inl l
  ·exact .inr ⟨k,c,e,cellK x c e _ z⟩
 ·obtain ⟨v,z⟩:=I.cell x c e;exact ⟨v,cellK x c e v z⟩
 ·obtain ⟨m,⟨o,_,_,ho,_⟩,_⟩:=I.loc;exact free _ o (fun z=>(hch _ z).2.1 rfl) ho I.free
 ·obtain ⟨v,o,ho,hd⟩:=I.cell x c e;exact free c o (fun z=>(hch c z).2.2.1 x c e rfl) ho (I.freeC x c e)
 ·obtain ⟨e,n,ne,nf,d⟩:=I.pin p hp
  have nch:p.1∉ch:=fun z=>(hch p.1 z).2.2.2 p hp rfl
  exact ⟨keep p.1 p.2 ne nf nch e n,free p.1 p.2 nch e n,ne,nf,d⟩
theorem Inv.un {t':Nat} (I:Inv X pins σ H s) (u:Un X.fs [] H H' s.heap h') (hok:HOk X.prog X.w H' h'):Inv X pins σ H' { s with heap:=h',toks:=t' }:=by
 obtain ⟨m,⟨o,es,ep,ho,r⟩,_⟩:=id I.loc;obtain ⟨sl,hL⟩:=u.any ho I.free (by simp)
 exact I.step (g':=s.gens) (d':=s.drawn) (ch:=[]) (fun _ z=>nomatch z) (fun b o _ hb _ e n=>u.keep b o e n hb (by simp)) (fun b o _ hb _ e n=>u.slot b o e n hb (by simp)) (fun b o _ e n=>u.free b o e n (by simp)) (fun b o _ e=>u.there b o e (by simp)) u.tups u.frzs u.tbls (fun m' hm=>by
  obtain ⟨o',es',ep',ho',r'⟩:=hm;rw [ho] at ho'; cases ho'
  exact ⟨_,es',ep',hL,r'⟩) hok I.bare
theorem Inv.call {g':Array GenState}{t':Nat}{d':Drawn}{ch:List Addr} (I:Inv X pins σ H s) (u:Un (frs X.stack) ch H H' s.heap h') (hok:HOk X.prog X.w H' h') (hg:AllBare g')
  (hch:∀b∈ch,(b∈X.ex∨X.s₀.heap.objs.size≤b)∧b≠X.env.locals∧(∀x c,X.env.cells.lookup x=some c→c≠b)∧∀p∈X.pn++pins,p.1≠b) :
  Inv X pins σ H' { s with heap:=h',gens:=g',drawn:=d',toks:=t' }:=by
 obtain ⟨m,⟨o,es,ep,ho,r⟩,_⟩:=id I.loc
 obtain ⟨sl,hL⟩:=u.any ho I.free fun z=>(hch _ z).2.1 rfl
 exact I.step (ch:=ch) hch (fun b o hL hb hc e n=>u.keep b o e n (fun z=>(zm.mp (I.stkSub b z)).elim hL hb) hc) (fun b o _ _ hc e n=>u.any e n hc) (fun b o hc e n=>u.free b o e n hc) (fun b o hc e=>u.there b o e hc) u.tups u.frzs u.tbls (fun m' hm=>by
  obtain ⟨o',es',ep',ho',r'⟩:=hm;rw [ho] at ho'; cases ho'
  exact ⟨_,es',ep',hL,r'⟩) hok hg
theorem Inv.turned {t':Nat}{it:Addr} (I:Inv X pins σ H s) (k:∀b o,b≠it→s.heap.get? b=some o→h'.get? b=some o) (hn:H it=none) (hL:it≠X.env.locals)
  (h1:it∈X.ex∨X.s₀.heap.objs.size≤it) (h2:∀x c,X.env.cells.lookup x=some c→c≠it) (h3:∀p∈X.pn++pins,p.1≠it):Inv X pins σ H { s with heap:=h',toks:=t' }:=by
 have nit:∀b u,H b=some u→b≠it:=fun b u e z=>by rw [z,hn] at e; cases e
 refine I.step (g':=s.gens) (d':=s.drawn) (ch:=[it]) (fun b hb=>?_) (fun b o _ _ hc e _=>k b o (fun z=>hc (by simp [z])) e) (fun b o _ _ hc e _=>⟨o.slots,k b o (fun z=>hc (by simp [z])) e⟩) (fun _ _ _ _ n=>n)
  (fun b o hc e=>⟨o,k b o (fun z=>hc (by simp [z])) e⟩) (fun _ _ e=>e) (fun _ _ _ e=>e) (fun b ps e=>⟨#[],by rw [e]; simp⟩) (fun m hm=>?_) (fun b u e=>?_) I.bare
 ·have e:b=it:=by simpa using hb
  subst e;exact ⟨h1,hL,h2,h3⟩
 ·obtain ⟨o,es,ep,ho,r⟩:=hm;exact ⟨o,es,ep,k _ o (Ne.symm hL) ho,r⟩
 ·refine (I.hok b u e).stay (fun c v hc q=>k c v ?_ q) (fun _ q=>q) fun _ _ q=>q
  rcases hc with z | z
  ·rw [z]; exact nit b u e
  ·exact nit c _ z
theorem Inv.tok (I:Inv X pins σ H s) (t:Nat):Inv X pins σ H { s with toks:=t }:=I.un (h':=s.heap) (t':=t) Un.refl I.hok
theorem Inv.kept {t':Nat} (I:Inv X pins σ H s) (k:∀b u,s.heap.get? b=some u→h'.get? b=some u):Inv X pins σ H { s with heap:=h',toks:=t' }:=I.un (Un.kept k) (I.hok.kept k)
theorem Inv.laid {a:Addr}{o:HO}{t':Nat} (I:Inv X pins σ H s) (k:∀b u,s.heap.get? b=some u→h'.get? b=some u) (hp:s.heap.objs.size≤a) (new:Qbb X.prog X.w (upd H a o) h' a o) :
  Inv X pins σ (upd H a o) { s with heap:=h',toks:=t' }:=I.un (Un.laid k hp (I.hok.fresh hp)) (I.hok.laid k hp new)
theorem Inv.write {x e:Addr}{o:HO}{t':Nat} (I:Inv X pins σ H s) (mu:Mut (H x)) (he:e=x∨H e=some (.own x)) (k:∀b u,b≠e→s.heap.get? b=some u→h'.get? b=some u) (heo:∃u,h'.get? e=some u)
  (new:Qbb X.prog X.w (upd H x o) h' x o):Inv X pins σ (upd H x o) { s with heap:=h',toks:=t' }:=I.un (Un.write mu he k heo) (I.hok.write mu he k heo new)
theorem Inv.pins_of {pins':List (Addr×Obj)} (I:Inv X pins σ H s) (h:∀p∈pins',s.heap.get? p.1=some p.2∧H p.1=none∧p.1≠X.env.locals∧p.1∉X.fs∧∀v,p.2.data≠.cell v):Inv X pins' σ H s :=
 ⟨I.ok,I.os,I.bare,I.base,I.loc,I.cell,I.free,I.freeC,fun p hp=>(zC.mp hp).elim (fun z=>I.pin p (List.mem_append_left _ z)) (h p),I.hok,I.len⟩
theorem Qlh {N:List Str} (hN:N.Nodup) {i j:Nat}{x:Str} (a:N[i]? = some x) (b:N[j]? = some x):i=j:=by
 obtain ⟨h1,e1⟩:=zo.mp a;obtain ⟨h2,e2⟩:=zo.mp b;exact (List.getElem_inj hN).mp (e1.trans e2.symm)
theorem Qpv {M:Model}{A:Around}{E:Value→Shared→Prop}{i:Nat}{x:Str}{v:V}{u:Value}{Q:Unit→Shared→Prop} (I:Inv X pins σ H s) (hN:X.N.Nodup) (hi:X.N[i]? = some x) (hx:Loc X.env.scope x) (r:RelV v u)
  (h:∀s',Inv X pins (σ.set i (some v)) H s'→(∃a,Heap.SameBut a s.heap s'.heap∧(a=X.env.locals∨X.env.cells.lookup x=some a))→Q () s') (hf:X.fn x=true∨X.env.scope.names.lookup x=some .local:=by first | exact .inl rfl | exact .inr rfl | assumption):wpAny M A (storeName X.env x u) Q E s:=by
 obtain ⟨m,hn,hl⟩:=id I.loc
 have hcls:(X.env.scope.kind == .class || (X.env.scope.kind == .module&&X.env.locals != X.env.globals))=false:=by rw [I.ok.kind]; rfl
 have hiσ:i < σ.length:=by rw [I.len]; exact (zo.mp hi).1
 have cne:=I.cne
 have tracked:∀{a:Addr}{h':Heap},(∃o,s.heap.get? a=some o∧H a=none)→Heap.SameBut a s.heap h'→HOk X.prog X.w H h':=fun {a h'} ha hs b ob e=>by
  obtain ⟨_,_,hfree⟩:=ha
  refine (I.hok b ob e).stay (fun c w' hc q=>(hs.2 c ?_).trans q) (fun _ q=>q) fun _ _ q=>q
  rintro rfl
  rcases hc with rfl | hc
  ·rw [hfree] at e; cases e
  ·rw [hfree] at hc; cases hc
 rcases hx with hk | hk
 ·refine wpAny_storeName_local hk hn (fun h' hn' hs=>?_) hcls;obtain ⟨oL,_,_,hoL,_⟩:=id hn;refine h _ ⟨I.ok,I.os,I.bare,⟨fun b o e n hb hx=>?_,fun b o e n hb hx=>?_,I.base.free,fun b o e hx=>?_,I.base.tups,I.base.frzs,I.base.tbls⟩,⟨_,hn',fun j y v' e1 e2 e3=>?_⟩,fun y c e=>?_,I.free,I.freeC,fun p hp=>?_,tracked ⟨oL,hoL,I.free⟩ hs,by simpa using I.len⟩ ⟨_,hs,.inl rfl⟩
  ·exact (hs.2 b (zq (zA (zf e) I.ok.above))).trans (I.base.keep b o e n hb hx)
  ·obtain ⟨sl,e1⟩:=I.base.slot b o e n hb hx;exact ⟨sl,(hs.2 b (zq (zA (zf e) I.ok.above))).trans e1⟩
  ·obtain ⟨o',e1⟩:=I.base.there b o e hx;exact ⟨o',(hs.2 b (zq (zA (zf e) I.ok.above))).trans e1⟩
  ·by_cases hj:j=i
   ·subst hj;rw [hi] at e1; cases e1;rw [zI hiσ] at e2;cases e2;exact ⟨u,r,.inl ⟨hk,by simp⟩⟩
   ·rw [zt (Ne.symm hj)] at e2;obtain ⟨u',r',q⟩:=hl j y v' e1 e2 e3;refine ⟨u',r',?_⟩
    rcases q with ⟨k,e⟩ | ⟨k,c,e,z⟩
    ·refine .inl ⟨k,?_⟩
     have:y≠x:=fun e=>hj (Qlh hN e1 (e ▸ hi))
     simp [this,e]
    ·exact .inr ⟨k,c,e,z.sameBut hs (cne y c e)⟩
  ·obtain ⟨w',z⟩:=I.cell y c e;exact ⟨w',z.sameBut hs (cne y c e)⟩
  ·obtain ⟨e,n,ne,nf,d⟩:=I.pin p hp;exact ⟨(hs.2 p.1 ne).trans e,n,ne,nf,d⟩
 ·have hfn:X.fn x=true:=by
   rcases hf with z | z
   ·exact z
   ·rw [z] at hk; cases hk
  obtain ⟨c,hc⟩:=I.ok.has x (.inl hk);obtain ⟨w',z⟩:=I.cell x c hc;refine wpAny_storeName_cell I.ok.kind hk hc z (fun h' hc' hs=>?_);obtain ⟨oc,hoc,hocd⟩:=id z;refine h { s with heap:=h' } ⟨I.ok,I.os,I.bare,⟨fun b o e n hb hx=>?_,fun b o e n hb hx=>?_,I.base.free,fun b o e hx=>?_,I.base.tups,I.base.frzs,I.base.tbls⟩,⟨m,hn.sameBut hs (Ne.symm (cne x c hc)),fun j y v' e1 e2 e3=>?_⟩,fun y c' e=>?_,I.free,I.freeC,fun p hp=>?_,tracked ⟨oc,hoc,I.freeC x c hc⟩ hs,by simpa using I.len⟩ ⟨c,hs,.inr hc⟩
  ·exact (hs.2 b (zq (zA (zf e) (I.ok.cab x c hfn hc)))).trans (I.base.keep b o e n hb hx)
  ·obtain ⟨sl,e1⟩:=I.base.slot b o e n hb hx;exact ⟨sl,(hs.2 b (zq (zA (zf e) (I.ok.cab x c hfn hc)))).trans e1⟩
  ·obtain ⟨o',e1⟩:=I.base.there b o e hx;exact ⟨o',(hs.2 b (zq (zA (zf e) (I.ok.cab x c hfn hc)))).trans e1⟩
  ·by_cases hj:j=i
   ·subst hj;rw [hi] at e1; cases e1;rw [zI hiσ] at e2;cases e2;exact ⟨u,r,.inr ⟨.inl hk,c,hc,hc'⟩⟩
   ·rw [zt (Ne.symm hj)] at e2;obtain ⟨u',r',q⟩:=hl j y v' e1 e2 e3;refine ⟨u',r',?_⟩
    rcases q with q | ⟨k,c',e,z'⟩
    ·exact .inl q
    ·refine .inr ⟨k,c',e,z'.sameBut hs ?_⟩;rintro rfl;exact hj (Qlh hN e1 (I.ok.inj _ _ _ e hc ▸ hi))
  ·by_cases hcc:c'=c
   ·subst hcc; exact ⟨_,hc'⟩
   ·obtain ⟨w2,z2⟩:=I.cell y c' e;exact ⟨w2,z2.sameBut hs hcc⟩
  ·obtain ⟨e,n,ne,nf,d⟩:=I.pin p hp;refine ⟨(hs.2 p.1 ?_).trans e,n,ne,nf,d⟩;intro q;rw [q,hoc] at e;have q':oc=p.2:=zL e;exact d w' (by rw [←q']; exact hocd)
theorem QgV {M:Model}{A:Around}{E:Value→Shared→Prop}{i:Nat}{x:Str}{v:V}{u:Value}{Q:Unit→Shared→Prop} (I:Inv X pins σ H s) (hN:X.N.Nodup) (hi:X.N[i]? = some x) (hx:Loc X.env.scope x) (r:RelV v u)
  (h:∀s',Inv X pins (σ.set i (some v)) H s'→Q () s') (hf:X.fn x=true∨X.env.scope.names.lookup x=some .local:=by first | exact .inl rfl | exact .inr rfl | assumption):wpAny M A (storeName X.env x u) Q E s :=
 Qpv I hN hi hx r (fun s' I' _=>h s' I') hf
theorem Inv.call' {s':Shared}{ch:List Addr} (I:Inv X pins σ H s) (ho:s'.os=s.os) (u:Un (frs X.stack) ch H H' s.heap s'.heap) (hok:HOk X.prog X.w H' s'.heap) (hg:AllBare s'.gens)
  (hch:∀b∈ch,(b∈X.ex∨X.s₀.heap.objs.size≤b)∧b≠X.env.locals∧(∀x c,X.env.cells.lookup x=some c→c≠b)∧∀p∈X.pn++pins,p.1≠b):Inv X pins σ H' s':=by
 obtain ⟨h',g',d',t',o'⟩:=s';have e:o'=s.os:=ho;subst e;exact I.call (g':=g') (t':=t') (d':=d') u hok hg hch
end
abbrev XK:=Value→Option Addr→Hp→Prop
abbrev St:=List (Option V)
abbrev VK:=V→Hp→Prop
abbrev TE:=St→Hp→VK→Prop
abbrev TT:=St→Hp→(Bool→Hp→Prop)→Prop
abbrev TA:=St→Hp→(List V→Hp→Prop)→Prop
structure Ends where
 nx:St→Hp→Prop
 rt:VK
 bk:St→Hp→Prop:=fun _ _=>False
 ct:St→Hp→Prop:=fun _ _=>False
abbrev TS:=Ends→St→Hp→Prop
def EP (X:Cx) (pins:List (Addr×Obj)) (σ:St) (Q:VK) (u:Value) (s':Shared):Prop:=∃v H',Inv X pins σ H' s'∧RelV v u∧Q v H'
def TP (X:Cx) (pins:List (Addr×Obj)) (σ:St) (Q:Bool→Hp→Prop) (b:Bool) (s':Shared):Prop:=∃H',Inv X pins σ H' s'∧Q b H'
def AP (X:Cx) (pins:List (Addr×Obj)) (σ:St) (Q:List V→Hp→Prop) (us:List Value) (s':Shared):Prop:=∃vs H',Inv X pins σ H' s'∧Qax vs us∧Q vs H'
def SP (X:Cx) (pins:List (Addr×Obj)) (D:Ends) (f:Flow) (s':Shared):Prop :=
 match f with
 | .next=>∃σ' H',Inv X pins σ' H' s'∧D.nx σ' H'
 | .brk=>∃σ' H',Inv X pins σ' H' s'∧D.bk σ' H'
 | .cont=>∃σ' H',Inv X pins σ' H' s'∧D.ct σ' H'
 | .ret u=>∃v σ' H',Inv X pins σ' H' s'∧RelV v u∧D.rt v H'
def PE (X:Cx) (e:Expr) (t:TE):Prop :=
 ∀(pins:List (Addr×Obj)) (s:Shared) (σ:St) (H:Hp) (Q:VK),Inv X pins σ H s→t σ H Q→wpAny (model X.prog X.w) X.A (eval e X.env) (EP X pins σ Q) X.xe s
def PT (X:Cx) (e:Expr) (t:TT):Prop :=
 ∀(pins:List (Addr×Obj)) (s:Shared) (σ:St) (H:Hp) (Q:Bool→Hp→Prop),Inv X pins σ H s→t σ H Q→wpAny (model X.prog X.w) X.A (isTrue e X.env (eval e X.env)) (TP X pins σ Q) X.xe s
def PW (X:Cx) (e:Expr) (t:TT):Prop :=
 ∀(whole:Sem Value) (pins:List (Addr×Obj)) (s:Shared) (σ:St) (H:Hp) (Q:Bool→Hp→Prop),Inv X pins σ H s→t σ H Q→wpAny (model X.prog X.w) X.A (isTrue e X.env whole) (TP X pins σ Q) X.xe s
theorem PW.pt {X:Cx}{e:Expr}{t:TT} (h:PW X e t):PT X e t:=h _
def PA (X:Cx) (es:List Expr) (t:TA):Prop :=
 ∀(pos:Pos) (pins:List (Addr×Obj)) (s:Shared) (σ:St) (H:Hp) (Q:List V→Hp→Prop),Inv X pins σ H s→t σ H Q→wpAny (model X.prog X.w) X.A (spliced (backTo pos (starEach es X.env))) (AP X pins σ Q) X.xe s
def PS (X:Cx) (st:Stmt) (t:TS):Prop :=
 ∀(pins:List (Addr×Obj)) (s:Shared) (σ:St) (H:Hp) (D:Ends),Inv X pins σ H s→t D σ H→wpAny (model X.prog X.w) X.A (exec st X.env) (SP X pins D) X.xe s
def PSs (X:Cx) (st:List Stmt) (t:TS):Prop :=
 ∀(pins:List (Addr×Obj)) (s:Shared) (σ:St) (H:Hp) (D:Ends),Inv X pins σ H s→t D σ H→wpAny (model X.prog X.w) X.A (execs st X.env) (SP X pins D) X.xe s
theorem thn {α:Type}{t:Sem α}{Q Q':α→Shared→Prop}{M:Model}{A:Around}{E:Value→Shared→Prop}{s:Shared} (h:wpAny M A t Q E s) (hQ:∀a s,Q a s→Q' a s):wpAny M A t Q' E s:=zr h hQ fun _ _ x=>x
section
variable {X:Cx}
def Qw2 (i:Nat):TE:=fun σ H Q=>∃v,σ[i]? = some (some v)∧Q v H
def tC (v:V):TE:=fun _ H Q=>Q v H
theorem QeQ {i:Nat}{x:Str}{pos:Pos} (hN:X.N[i]? = some x) (hv:Vis X.env.scope x) (hd:(x == ("__debug__":Str))=false:=by decide) (hcd:(x == ("__classdict__":Str))=false:=by decide):PE X (.Name x pos) (Qw2 i):=by
 intro pins s σ H Q I h;obtain ⟨v,e,h⟩:=h;obtain ⟨m,hn,hl⟩:=I.loc;obtain ⟨u,r,l⟩:=hl i x v hN e hv;have fin:EP X pins σ Q u s:=⟨v,H,I,r,h⟩
 rcases l with ⟨hk,hm⟩ | ⟨hk,c,hc,hcell⟩
 ·exact wpAny_Name (wpAny_loadName_local I.ok.kind hk hn hm fin) hd
 ·rcases hk with hk | hk
  ·exact wpAny_Name (wpAny_loadName_cell I.ok.kind hk hc hcell fin) hd
  ·exact wpAny_Name (wpAny_loadName_free I.ok.kind hk hc hcell fin hcd) hd
theorem Qtr {i j pos}:PE X (.Constant (.int i) j pos) (tC (.int i)):=fun _ _ _ H _ I h=>wpAny_Constant_int ⟨.int i,H,I.tok _,⟨_,rfl⟩,h⟩
theorem Qu9 {b j pos}:PE X (.Constant (.bool b) j pos) (tC (.bl b)):=fun _ _ _ H _ I h=>Constant_bool ⟨.bl b,H,I,rfl,h⟩
theorem Qt2 {j pos}:PE X (.Constant .none j pos) (tC .non):=fun _ _ _ H _ I h=>Constant_none ⟨.non,H,I,rfl,h⟩
theorem Qi2 {x j pos}:PE X (.Constant (.str x) j pos) (tC (.str x)):=fun _ _ _ H _ I h=>Calls.Constant_str ⟨.str x,H,I.tok _,⟨_,rfl⟩,h⟩
def Gl (X:Cx) (x:Str):Prop:=X.env.kindOf x=some .globalImplicit
theorem QfC {E:Value→Shared→Prop}{pins:List (Addr×Obj)}{s:Shared}{σ:St}{H:Hp}{x:Str}{u:Value}{pos:Pos}{Q:Value→Shared→Prop} (I:Inv X pins σ H s) (hg:Gl X x) (hm:X.mg x=some u) (h:Q u s)
  (hd:(x == ("__debug__":Str))=false:=by decide):wpAny (model X.prog X.w) X.A (eval (.Name x pos) X.env) Q E s :=
 Calls.Name_function_global I.ok.kind hg (Calls.loadGlobal_global (by rw [I.ok.glob]; exact I.mod.glob.keeps I.bk) hm h) hd
theorem Qgw {E:Value→Shared→Prop}{pins:List (Addr×Obj)}{s:Shared}{σ:St}{H:Hp}{x:Str}{u:Value}{pos:Pos}{Q:Value→Shared→Prop} (I:Inv X pins σ H s) (hg:Gl X x) (hm:X.mg x=none) (hv:bootBuiltins x=some u) (h:Q u s)
  (hn:x≠"__name__":=by decide) (hd:(x == ("__debug__":Str))=false:=by decide):wpAny (model X.prog X.w) X.A (eval (.Name x pos) X.env) Q E s:=by
 obtain ⟨mb,h1,h2⟩:=I.mod.blt;exact Calls.Name_function_global I.ok.kind hg (Calls.loadGlobal_builtin (by rw [I.ok.glob]; exact I.mod.glob.keeps I.bk) hm (by rw [I.ok.blt]; exact h1.keeps I.bk) ((h2 x hn).trans hv) h) hd
theorem QjO {x:Str}{v:V}{u:Value}{pos:Pos} (hg:Gl X x) (hm:X.mg x=some u) (r:RelV v u) (hd:(x == ("__debug__":Str))=false:=by decide):PE X (.Name x pos) (tC v) :=
 fun _ _ _ H _ I h=>QfC I hg hm ⟨v,H,I,r,h⟩ hd
theorem Qmv {x:Str}{v:V}{u:Value}{pos:Pos} (hg:Gl X x) (hm:X.mg x=none) (hv:bootBuiltins x=some u) (r:RelV v u) (hn:x≠"__name__":=by decide) (hd:(x == ("__debug__":Str))=false:=by decide):PE X (.Name x pos) (tC v) :=
 fun _ _ _ H _ I h=>Qgw I hg hm hv ⟨v,H,I,r,h⟩ hn hd
variable {a b:Expr}{ta tb:TE}{pos:Pos}
def PC (X:Cx) (op:CmpOp) (a b:Expr) (t:TE):Prop :=
 ∀(pins:List (Addr×Obj)) (s:Shared) (σ:St) (H:Hp) (Q:VK),Inv X pins σ H s→t σ H Q →
  wpAny (model X.prog X.w) X.A (eval a X.env) (fun v s₁=>wpAny (model X.prog X.w) X.A (eval b X.env) (fun u s₂=>wpAny (model X.prog X.w) X.A (compareOp op v u) (EP X pins σ Q) X.xe s₂) X.xe s₁) X.xe s
theorem Qqt (b:Expr) {op:CmpOp} (h:op≠.In) (h2:op≠.NotIn):behindInMarks op b=false:=by
 have e1:(op == CmpOp.In)=false:=by cases op <;> first | rfl | exact absurd rfl h
 have e2:(op == CmpOp.NotIn)=false:=by cases op <;> first | rfl | exact absurd rfl h2
 cases b <;> simp [behindInMarks,e1,e2]
def tB (t:TE):TT:=fun σ H Q=>t σ H fun x H1=>∃c,x = .bl c∧Q c H1
theorem Qt8 {op:CmpOp}{t:TE} (h:PC X op a b t) (h1:behindInMarks op b=false:=by first | exact Qqt _ (by decide) (by decide) | rfl):PT X (.Compare a [op] [b] pos) (tB t):=by
 intro pins s σ H Q I hw;refine wpAny_isTrue_Compare1 (thn (h pins s σ H _ I hw) fun v s1 h1=>thn h1 fun u s2 h2=>thn h2 fun c s3 ⟨x,H1,I1,r1,q1⟩=>?_) h1;obtain ⟨d,rfl,q⟩:=q1;cases r1;exact wpAny_truthy_bool ⟨H1,I1,q⟩
variable {tA tB':TT}{rest:List Expr}
def Quf (t u:TT):TT:=fun σ H Q=>t σ H fun c H1=>if c=true then u σ H1 Q else Q false H1
def tOr (t u:TT):TT:=fun σ H Q=>t σ H fun c H1=>if c=true then Q true H1 else u σ H1 Q
def QwY (t:TT):TT:=fun σ H Q=>t σ H fun c H1=>Q (!c) H1
theorem Qra (ha:PT X a tA):PW X (.BoolOp .And [a] pos) tA:=by
 intro wh pins s σ H Q I h;refine isTrue_and (thn (ha pins s σ H Q I h) fun c s1 e=>?_)
 cases c with
 | true=>exact isTrue_and_nil e
 | false=>exact e
theorem Quq (ha:PT X a tA):PW X (.BoolOp .Or [a] pos) tA:=by
 intro wh pins s σ H Q I h;refine isTrue_or (thn (ha pins s σ H Q I h) fun c s1 e=>?_)
 cases c with
 | false=>exact isTrue_or_nil e
 | true=>exact e
theorem Qts (ha:PT X a tA) (hb:PW X (.BoolOp .And (b::rest) pos) tB'):PW X (.BoolOp .And (a::b::rest) pos) (Quf tA tB'):=by
 intro wh pins s σ H Q I h;refine isTrue_and (thn (ha pins s σ H _ I h) fun c s1 ⟨H1,I1,q1⟩=>?_)
 cases c with
 | true=>exact hb wh pins s1 σ H1 Q I1 q1
 | false=>exact ⟨H1,I1,q1⟩
theorem QuN (ha:PT X a tA) (hb:PW X (.BoolOp .Or (b::rest) pos) tB'):PW X (.BoolOp .Or (a::b::rest) pos) (tOr tA tB'):=by
 intro wh pins s σ H Q I h;refine isTrue_or (thn (ha pins s σ H _ I h) fun c s1 ⟨H1,I1,q1⟩=>?_)
 cases c with
 | true=>exact ⟨H1,I1,q1⟩
 | false=>exact hb wh pins s1 σ H1 Q I1 q1
theorem Quw (ha:PT X a tA):PT X (.UnaryOp .Not a pos) (QwY tA):=by
 intro pins s σ H Q I h;exact isTrue_not (ha pins s σ H (fun c H1=>Q (!c) H1) I h)
def Qvj (ta tb:TE):TE:=fun σ H Q=>ta σ H fun x H1=>∃c,x = .bl c∧if c=true then tb σ H1 Q else Q (.bl false) H1
def QvU (ta:TE):TE:=fun σ H Q=>ta σ H fun x H1=>∃c,x = .bl c∧Q (.bl (!c)) H1
theorem QuC {op}{t:TE} (h:PE X a t):PE X (.BoolOp op [a] pos) t:=fun pins s σ H Q I hw=>BoolOp_one (h pins s σ H Q I hw)
theorem Quj (ha:PE X a ta) (hb:PE X (.BoolOp .And (b::rest) pos) tb):PE X (.BoolOp .And (a::b::rest) pos) (Qvj ta tb):=by
 intro pins s σ H Q I h;refine BoolOp_and (thn (ha pins s σ H _ I h) fun v s1 ⟨x,H1,I1,r1,q1⟩=>?_);obtain ⟨c,rfl,q1⟩:=q1;cases r1;refine wpAny_truthy_bool ?_
 cases c with
 | true=>exact hb pins s1 σ H1 Q I1 q1
 | false=>exact ⟨.bl false,H1,I1,rfl,q1⟩
theorem QuJ (ha:PE X a ta):PE X (.UnaryOp .Not a pos) (QvU ta):=by
 intro pins s σ H Q I h;refine UnaryOp_ (thn (ha pins s σ H _ I h) fun v s1 ⟨x,H1,I1,r1,q1⟩=>?_);obtain ⟨c,rfl,q1⟩:=q1;cases r1;exact not_of (wpAny_truthy_bool ⟨.bl (!c),H1,I1,rfl,q1⟩)
end
def SqL (K:PySem.W.Frag) (H:Hp) (a:Addr) (xs:List V):Prop :=
 Rd H a (.lst xs) ∨
  ∃(o:Obj) (its:Array Value) (n:Nat),K.lookup a=some o∧o.cls = .type "list"∧o.dict=none∧o.data = .seq its n∧its.size≤sizeLine∧Qax xs its.toList
def SqT (K:PySem.W.Frag) (H:Hp) (a:Addr) (xs:List V):Prop :=
 Rd H a (.tup xs) ∨
  ∃(o:Obj) (its:Array Value) (n:Nat),K.lookup a=some o∧o.cls = .type "tuple"∧o.data = .seq its n∧its.size≤sizeLine∧Qax xs its.toList
def Qwq:Value→Option V
 | .none=>some .non
 | .bool b=>some (.bl b)
 | .int i _=>some (.int i)
 | .str x _=>some (.str x)
 | .bytes b _=>some (.byt b)
 | .float b _=>some (.flt b)
 | .ref a=>some (.ref a)
 | .type n=>some (.ty n)
 | _=>none
theorem RelV.abs {x:V}{u:Value} (r:RelV x u):Qwq u=some x:=by
 cases x with
 | non=>cases r; rfl
 | bl _=>cases r; rfl
 | int _=>obtain ⟨t,rfl⟩:=r; rfl
 | str _=>obtain ⟨t,rfl⟩:=r; rfl
 | byt _=>obtain ⟨t,rfl⟩:=r; rfl
 | flt _=>obtain ⟨t,rfl⟩:=r; rfl
 | ref _=>cases r; rfl
 | ty _=>cases r; rfl
theorem RelV.inj {x y:V}{u:Value} (r:RelV x u) (q:RelV y u):x=y:=zL (r.abs.symm.trans q.abs)
theorem Qax.inj:∀{xs ys:List V}{us:List Value},Qax xs us→Qax ys us→xs=ys
 | _,_,_,.nil,.nil=>rfl
 | _,_,_,.cons r t,.cons r' t'=>by rw [r.inj r',Qax.inj t t']
section
variable {X:Cx}{pins:List (Addr×Obj)}{σ:St}{H:Hp}{s:Shared}{a:Addr}{xs ys:List V}
theorem SqL.of {K:PySem.W.Frag} (h:H a=some (.lst xs)):SqL K H a xs:=.inl (.inl h)
theorem SqT.of {K:PySem.W.Frag} (h:H a=some (.tup xs)):SqT K H a xs:=.inl (.inl h)
theorem Inv.list (I:Inv X pins σ H s) (h:SqL X.K H a xs):∃its:List Value,Qax xs its∧PlainL s.heap a its.toArray∧xs.length≤sizeLine:=by
 rcases h with h | ⟨o,its,n,hk,hc,hd,hs,hz,r⟩
 ·obtain ⟨z,its,n,r,e⟩:=h.ok I.hok;exact ⟨its,r,⟨_,n,e,rfl,rfl,rfl⟩,z⟩
 ·refine ⟨its.toList,r,⟨o,n,I.kIn a o hk,hc,hd,by simpa using hs⟩,?_⟩;have e:=r.length;simp only [Array.length_toList] at e;omega
theorem Inv.tuple (I:Inv X pins σ H s) (h:SqT X.K H a xs):∃its:List Value,Qax xs its∧IsTup s.heap a its.toArray∧xs.length≤sizeLine:=by
 rcases h with h | ⟨o,its,n,hk,hc,hs,hz,r⟩
 ·obtain ⟨z,its,r,p⟩:=h.ok I.hok;exact ⟨its,r,p,z⟩
 ·refine ⟨its.toList,r,⟨o,I.kIn a o hk,hc,n,by simpa using hs⟩,?_⟩;have e:=r.length;simp only [Array.length_toList] at e;omega
theorem Inv.list_inj (I:Inv X pins σ H s) (h:SqL X.K H a xs) (h':SqL X.K H a ys):xs=ys:=by
 obtain ⟨its,r,⟨o,n,e,_,_,d⟩,_⟩:=I.list h;obtain ⟨its',r',⟨o',n',e',_,_,d'⟩,_⟩:=I.list h';rw [e] at e'; cases e';rw [d] at d'
 injection d' with d1 _
 have:its=its':=by simpa using congrArg Array.toList d1
 subst this;exact r.inj r'
theorem Inv.tuple_inj (I:Inv X pins σ H s) (h:SqT X.K H a xs) (h':SqT X.K H a ys):xs=ys:=by
 obtain ⟨its,r,⟨o,e,_,n,d⟩,_⟩:=I.tuple h;obtain ⟨its',r',⟨o',e',_,n',d'⟩,_⟩:=I.tuple h';rw [e] at e'; cases e';rw [d] at d'
 injection d' with d1 _
 have:its=its':=by simpa using congrArg Array.toList d1
 subst this;exact r.inj r'
end
abbrev Cx.wish (X:Cx) (E:Value→Shared→Prop):Cx:={ X with xe:=E }
abbrev Cx.nox (X:Cx):Cx:=X.wish fun _ _=>False
theorem Cx.Ok.wish {X:Cx} (ok:X.Ok) (E:Value→Shared→Prop):(X.wish E).Ok :=
 ⟨ok.mod,ok.kind,ok.glob,ok.blt,ok.above,ok.inj,ok.has,ok.cab,ok.hd,ok.frames,ok.stk,ok.exf,ok.bs,ok.bsz,ok.noex,ok.exfs,ok.funs,ok.frf⟩
theorem Cx.Ok.unwish {X:Cx}{E:Value→Shared→Prop} (ok:(X.wish E).Ok):X.Ok :=
 ⟨ok.mod,ok.kind,ok.glob,ok.blt,ok.above,ok.inj,ok.has,ok.cab,ok.hd,ok.frames,ok.stk,ok.exf,ok.bs,ok.bsz,ok.noex,ok.exfs,ok.funs,ok.frf⟩
section
variable {X:Cx}{pins:List (Addr×Obj)}{σ:St}{H:Hp}{s:Shared}{E:Value→Shared→Prop}
theorem Inv.wish (I:Inv X pins σ H s) (E:Value→Shared→Prop):Inv (X.wish E) pins σ H s:=⟨I.ok.wish E,I.os,I.bare,I.base,I.loc,I.cell,I.free,I.freeC,I.pin,I.hok,I.len⟩
theorem Inv.unwish (I:Inv (X.wish E) pins σ H s):Inv X pins σ H s:=⟨I.ok.unwish,I.os,I.bare,I.base,I.loc,I.cell,I.free,I.freeC,I.pin,I.hok,I.len⟩
theorem SP.unwish {D:Ends}{f:Flow}{s':Shared} (h:SP (X.wish E) pins D f s'):SP X pins D f s':=by
 cases f with
 | next=>obtain ⟨σ',H',I,q⟩:=h; exact ⟨σ',H',I.unwish,q⟩
 | brk=>obtain ⟨σ',H',I,q⟩:=h; exact ⟨σ',H',I.unwish,q⟩
 | cont=>obtain ⟨σ',H',I,q⟩:=h; exact ⟨σ',H',I.unwish,q⟩
 | ret u=>obtain ⟨v,σ',H',I,r,q⟩:=h; exact ⟨v,σ',H',I.unwish,r,q⟩
theorem PE.nox {e:Expr}{t:TE} (h:PE X.nox e t):PE X e t:=fun pins s σ H Q I hw =>
 zr (h pins s σ H Q (I.wish _) hw) (fun _ _ ⟨v,H',I',r,q⟩=>⟨v,H',I'.unwish,r,q⟩) fun _ _ z=>False.elim z
theorem PT.nox {e:Expr}{t:TT} (h:PT X.nox e t):PT X e t:=fun pins s σ H Q I hw =>
 zr (h pins s σ H Q (I.wish _) hw) (fun _ _ ⟨H',I',q⟩=>⟨H',I'.unwish,q⟩) fun _ _ z=>False.elim z
theorem PSs.nox {st:List Stmt}{t:TS} (h:PSs X.nox st t):PSs X st t:=fun pins s σ H D I hw =>
 zr (h pins s σ H D (I.wish _) hw) (fun _ _ q=>q.unwish) fun _ _ z=>False.elim z
end
section
variable {X:Cx}{st:Stmt}{rest:List Stmt}{t u:TS}{e:Expr}{te:TE}{pos:Pos}
def QvI:TS:=fun D σ H=>D.nx σ H
def Qwy (t u:TS):TS:=fun D σ H=>t { D with nx:=u D } σ H
theorem Qmm:PSs X [] QvI:=fun _ _ σ H _ I h=>wpAny_execs_nil ⟨σ,H,I,h⟩
theorem QlP (h1:PS X st t) (h2:PSs X rest u):PSs X (st::rest) (Qwy t u):=by
 intro pins s σ H D I h;refine wpAny_execs_cons (thn (h1 pins s σ H { D with nx:=u D } I h) fun f s1 q=>?_)
 cases f with
 | next =>
  obtain ⟨σ',H',I',q⟩:=q;exact h2 pins s1 σ' H' D I' q
 | ret v=>exact q
 | brk=>exact q
 | cont=>exact q
theorem Qmh (h1:PS X st t):PSs X [st] t:=by
 intro pins s σ H D I h;refine wpAny_execs_cons (thn (h1 pins s σ H D I h) fun f s1 q=>?_)
 cases f with
 | next=>exact wpAny_execs_nil q
 | ret v=>exact q
 | brk=>exact q
 | cont=>exact q
theorem Inv.quiet {pins:List (Addr×Obj)}{σ:St}{H:Hp}{s:Shared} (I:Inv X pins σ H s):interactive X.env=false:=by simp [interactive,I.ok.kind]
def QuS (te:TE):TS:=fun D σ H=>te σ H fun _ H1=>D.nx σ H1
theorem QjJ (he:PE X e te) (hs:swapsWith e none pos.line X.env=pure false:=by rfl):PS X (.Expr e pos) (QuS te):=by
 intro pins s σ H D I h;exact wpAny_Expr_any (thn (he pins s σ H _ I h) fun v s1 ⟨x,H1,I1,r1,q1⟩=>⟨σ,H1,I1,q1⟩) I.quiet hs
def QwP (te:TE):TS:=fun D σ H=>te σ H D.rt
theorem QkV (he:PE X e te):PS X (.Return (some e) pos) (QwP te):=by
 intro pins s σ H D I h;exact wpAny_Return_some (thn (he pins s σ H _ I h) fun v s1 ⟨x,H1,I1,r1,q1⟩=>⟨x,σ,H1,I1,r1,q1⟩)
def QwD (c:TT) (t u:TS):TS:=fun D σ H=>c σ H fun b H1=>if b=true then t D σ H1 else u D σ H1
theorem Qq0 {c:Expr}{a b:List Stmt}{tc:TT} (hc:PT X c tc) (ha:PSs X a t) (hb:PSs X b u):PS X (.If c a b pos) (QwD tc t u):=by
 intro pins s σ H D I h;refine wpAny_If (thn (hc pins s σ H _ I h) fun d s1 ⟨H1,I1,q1⟩=>?_)
 cases d with
 | true=>exact ha pins s1 σ H1 D I1 q1
 | false=>exact hb pins s1 σ H1 D I1 q1
end
abbrev TG:=V→St→Hp→(St→Hp→Prop)→Prop
abbrev TGs:=List V→St→Hp→(St→Hp→Prop)→Prop
def PG (X:Cx) (target:Expr) (t:TG):Prop :=
 ∀(pins:List (Addr×Obj)) (s:Shared) (σ:St) (H:Hp) (v:V) (u:Value) (Q:St→Hp→Prop),Inv X pins σ H s→RelV v u→t v σ H Q →
  wpAny (model X.prog X.w) X.A (assign target X.env u) (fun _ s'=>∃σ' H',Inv X pins σ' H' s'∧Q σ' H') X.xe s
def PGs (X:Cx) (ts:List Expr) (t:TGs):Prop :=
 ∀(pins:List (Addr×Obj)) (s:Shared) (σ:St) (H:Hp) (vs:List V) (us:List Value) (Q:St→Hp→Prop),Inv X pins σ H s→Qax vs us→t vs σ H Q →
  wpAny (model X.prog X.w) X.A (assignInOrder ((assignEach ts X.env).map (·.2)) us) (fun _ s'=>∃σ' H',Inv X pins σ' H' s'∧Q σ' H') X.xe s
section
variable {X:Cx}{pos:Pos}
def Qi0 (i:Nat):TG:=fun v σ H Q=>Q (σ.set i (some v)) H
theorem Qsh {i:Nat}{x:Str} (hN:X.N.Nodup) (hi:X.N[i]? = some x) (hx:Loc X.env.scope x) (hf:X.fn x=true∨X.env.scope.names.lookup x=some .local:=by first | exact .inl rfl | exact .inr rfl | assumption):PG X (.Name x pos) (Qi0 i):=by
 intro pins s σ H v u Q I r h;exact wpAny_assign_Name (QgV I hN hi hx r (fun s' I'=>⟨_,H,I',h⟩) hf)
def Qwh:TGs:=fun vs σ H Q=>vs = []∧Q σ H
def Qvh (t:TG) (u:TGs):TGs:=fun vs σ H Q=>∃v r,vs=v::r∧t v σ H fun σ' H'=>u r σ' H' Q
theorem Qrp:PGs X [] Qwh:=by
 intro pins s σ H vs us Q I r h;obtain ⟨e,h⟩:=h;subst e;cases r;exact assignInOrder_nil ⟨σ,H,I,h⟩
theorem QpN {e:Expr}{es:List Expr}{t:TG}{u:TGs} (h1:PG X e t) (h2:PGs X es u)
  (hs:(assignEach (e::es) X.env).map (·.2)=assign e X.env::(assignEach es X.env).map (·.2):=by rfl):PGs X (e::es) (Qvh t u):=by
 intro pins s σ H vs us Q I r h;obtain ⟨v,vr,e1,h⟩:=h;subst e1
 cases r with
 | cons r rr =>
  rw [hs];refine assignInOrder_cons (thn (h1 pins s σ H _ _ _ I r h) fun _ s1 ⟨σ1,H1,I1,q1⟩=>?_);exact h2 pins s1 σ1 H1 _ _ Q I1 rr q1
def Qwd (K:PySem.W.Frag) (n:Nat) (t:TGs):TG:=fun v σ H Q=>∃a xs,v = .ref a∧SqT K H a xs∧xs.length=n∧t xs σ H Q
theorem Qud {es:List Expr}{k:Nat}{t:TGs}{n:Nat} (hc:X.calm=true) (h:PGs X es t)
  (hn:(assignEach es X.env).length=n:=by rfl) (hst:(assignEach es X.env).findIdx? (·.1)=none:=by rfl):PG X (.Tuple es k pos) (Qwd X.K n t):=by
 intro pins s σ H v u Q I r hw;obtain ⟨a,xs,e1,hq,hl,hw⟩:=hw;subst e1;cases r;obtain ⟨its,rv,ht,hz⟩:=I.tuple hq
 refine assign_Tuple_tuple (I.ok.hd hc) ht (by simp [hn,←hl,rv.length]) hst fun h' hx=>?_
 have I1:Inv X pins σ H { s with heap:=h' }:=I.kept (t':=s.toks) fun b o e=>hx b o (zq (zf e)) e
 exact h pins _ σ H xs _ Q I1 (by simpa using rv) hw
def QlH (te:TE) (g:TG):TS:=fun D σ H=>te σ H fun x H1=>g x σ H1 D.nx
theorem QsG {tg e:Expr}{te:TE}{g:TG} (he:PE X e te) (hg:PG X tg g) (hs:swapsWithSole [tg] e pos.line X.env=pure false:=by rfl) (hw:swappedStores [tg] e X.env=pure none:=by rfl)
  (h1:(assignEach [tg] X.env).map (·.2) = [assign tg X.env]:=by rfl):PS X (.Assign [tg] e pos) (QlH te g):=by
 intro pins s σ H D I h;refine wpAny_Assign_stores (thn (he pins s σ H _ I h) fun v s1 ⟨x,H1,I1,r1,q1⟩=>?_) hs hw;rw [h1]
 exact thn (hg pins s1 σ H1 x v _ I1 r1 q1) fun _ s2 q=>q
theorem QoL {i:Nat}{x:Str}{e:Expr}{te:TE}{pos':Pos} (hN:X.N.Nodup) (hi:X.N[i]? = some x) (hx:Loc X.env.scope x) (he:PE X e te) (hs:swapsWith e (some (.Name x pos')) pos.line X.env=pure false:=by rfl) (hf:X.fn x=true∨X.env.scope.names.lookup x=some .local:=by first | exact .inl rfl | exact .inr rfl | assumption) :
  PS X (.Assign [.Name x pos'] e pos) (QlH te (Qi0 i)):=by
 intro pins s σ H D I h;refine wpAny_Assign_Name (thn (he pins s σ H _ I h) fun v s1 ⟨y,H1,I1,r1,q1⟩=>?_) hs;exact QgV I1 hN hi hx r1 (fun s2 I2=>⟨_,H1,I2,q1⟩) hf
end
section
variable {X:Cx}{pos:Pos}
end
structure It where
 go:Nat→Hp→Prop
 yld:Nat→Hp→V→Hp→Prop
 stop:Nat→Hp→Prop
def Qeg (X:Cx) (pins:List (Addr×Obj)) (H:Hp) (b:Addr):Prop :=
 H b=none∧b≠X.env.locals∧b∉X.fs∧(b∈X.ex∨X.s₀.heap.objs.size≤b)∧(∀x c,X.env.cells.lookup x=some c→c≠b)∧∀p∈X.pn++pins,p.1≠b
theorem Inv.fpOk {X:Cx}{pins:List (Addr×Obj)}{σ:St}{H H':Hp}{s:Shared}{b:Addr} (I:Inv X pins σ H s) (hb:s.heap.objs.size≤b) (hn:H' b=none):Qeg X pins H' b:=by
 refine ⟨hn,Nat.ne_of_gt (zA I.lt hb),I.nofs hb,.inr (zB I.sz hb),fun x c e z=>?_,fun p hp z=>?_⟩
 ·obtain ⟨v,q⟩:=I.cell x c e;exact absurd (zA q.lt (by rw [z]; exact hb)) (zH _)
 ·exact absurd (zA (zf (I.pin p hp).1) (by rw [z]; exact hb)) (zH _)
structure Turn (P:Program) (w:World) (K:PySem.W.Frag) (tg:Expr) (J:It) (fp:List Addr) (it:Addr) (tn:Nat→Heap→Prop):Prop where
 mem:it∈fp
 obj:∀i h,tn i h→∀b∈fp,∃o,h.get? b=some o∧∀v,o.data≠.cell v
 keep:∀i h h',tn i h→(∀b∈fp,∀o,h.get? b=some o→h'.get? b=some o)→tn i h'
 item:∀(X:Cx),X.prog=P→X.w=w→X.K=K→X.calm=true→∀(i:Nat) (pins:List (Addr×Obj)) (s:Shared) (σ:St) (H:Hp) (E:Value→Shared→Prop),Inv X pins σ H s→(∀b∈fp,Qeg X pins H b)→tn i s.heap→J.go i H →
  wpAny (model P w) X.A (pyNext (.ref it)) (fun r s1=>∃u,r=some u ∧
   wpAny (model P w) X.A (letOwnedTupleGo tg (.ref it) u) (fun _ s2=>∃x H',Inv X pins σ H' s2∧RelV x u∧J.yld i H x H'∧tn (i+1) s2.heap∧∀b∈fp,H' b=none) E s1) E s
 done:∀(X:Cx),X.prog=P→X.w=w→X.K=K→X.calm=true→∀(i:Nat) (pins:List (Addr×Obj)) (s:Shared) (σ:St) (H:Hp) (E:Value→Shared→Prop),Inv X pins σ H s→(∀b∈fp,Qeg X pins H b)→tn i s.heap→J.stop i H →
  wpAny (model P w) X.A (pyNext (.ref it)) (fun r s1=>r=none∧Inv X pins σ H s1) E s
 self:∀(A:Around) (i:Nat) (s:Shared) (Q:Value→Shared→Prop) (E:Value→Shared→Prop),tn i s.heap→Q (.ref it) s→wpAny (model P w) A (pyIter (.ref it)) Q E s
abbrev TI:=St→Hp→(It→Hp→Prop)→Prop
def PIE (X:Cx) (pins:List (Addr×Obj)) (σ:St) (tg:Expr) (R:It→Hp→Prop) (itv:Value) (s2:Shared):Prop :=
 ∃(it:Addr) (fp:List Addr) (tn:Nat→Heap→Prop) (J:It) (H':Hp),itv = .ref it∧Inv X pins σ H' s2∧Turn X.prog X.w X.K tg J fp it tn∧tn 0 s2.heap∧(∀b∈fp,Qeg X pins H' b)∧R J H'
def PI (X:Cx) (tg iter:Expr) (wi:TI):Prop :=
 ∀(pins:List (Addr×Obj)) (s:Shared) (σ:St) (H:Hp) (R:It→Hp→Prop),Inv X pins σ H s→wi σ H R →
  wpAny (model X.prog X.w) X.A (eval iter X.env) (fun v s1=>wpAny (model X.prog X.w) X.A (pyIter v) (PIE X pins σ tg R) X.xe s1) X.xe s
theorem Qja {M:Model}{A:Around}{E:Value→Shared→Prop}{s:Shared}{tg:Expr}{it:Addr}{u:Value}{o:Obj}{n:String}{vs:Array Value}{Q:Unit→Shared→Prop} (ho:s.heap.get? it=some o) (hc:o.cls = .type n) (hd:o.data = .fields vs)
  (hn:["enumerate","zip","dict_itemiterator","dict_reverseitemiterator","odict_iterator","itertools.zip_longest","itertools.pairwise"].contains n=false) (hQ:Q () s):wpAny M A (letOwnedTupleGo tg (.ref it) u) Q E s:=by
 unfold letOwnedTupleGo
 cases tg <;> first
  | exact zd hQ
  | (cases u <;> first
    | exact zd hQ
    | (refine zc (wpAny_load ho ?_)
       rw [hc,hd];show wpAny M A (if (["enumerate","zip","dict_itemiterator","dict_reverseitemiterator","odict_iterator","itertools.zip_longest","itertools.pairwise"].contains n&&vs[0]? == some (rawInt _))=true then _ else _) Q E s;rw [if_neg (by intro h; rw [hn,Bool.false_and] at h; cases h)]
       exact zd hQ))
def Itl (K:PySem.W.Frag) (a:Addr):It :=
 ⟨fun i H=>∃xs x,SqL K H a xs∧xs[i]? = some x,fun i H x H'=>H'=H∧∀xs,SqL K H a xs→xs[i]? = some x,fun i H=>∃xs,SqL K H a xs∧xs.length≤i⟩
def Itt (K:PySem.W.Frag) (a:Addr):It :=
 ⟨fun i H=>∃xs x,SqT K H a xs∧xs[i]? = some x,fun i H x H'=>H'=H∧∀xs,SqT K H a xs→xs[i]? = some x,fun i H=>∃xs,SqT K H a xs∧xs.length≤i⟩
def Itr (lo:Int) (n:Nat):It:=⟨fun i _=>i < n,fun i H x H'=>H'=H∧x = .int (lo+i),fun i _=>n≤i⟩
theorem Qpd {P:Program}{w:World}{K:PySem.W.Frag}{tg:Expr} (a it:Addr):Turn P w K tg (Itl K a) [it] it (fun i h=>h.IsListIter it a i) where
 mem:=by simp
 obj:=fun i h st b hb=>by
  have e:b=it:=by simpa using hb
  subst e;obtain ⟨o,e,c,d⟩:=st;exact ⟨o,e,fun v z=>by rw [d] at z; cases z⟩
 keep:=fun i h h' st k=>st.at fun o e=>k it (by simp) o e
 item:=by
  intro X hP hw hK hc i pins s σ H E I hf st hg;subst hP hw hK;obtain ⟨xs,x,hq,hx⟩:=hg;obtain ⟨its,rv,p,hz⟩:=I.list hq;obtain ⟨u,hu,ru⟩:=rv.get hx;obtain ⟨f0,f1,f2,f3,f4,f5⟩:=hf it (by simp)
  refine wpAny_pyNext_list_item st p.isList (x:=u) (by simpa using hu) fun h' st' sb=>?_
  have I1:Inv X pins σ H { s with heap:=h' }:=I.turned (t':=s.toks) (fun b o hb e=>(sb.2 b hb).trans e) f0 f1 f3 f4 f5;obtain ⟨o,e,c,d⟩:=id st';exact ⟨u,rfl,Qja (s:={ s with heap:=h' }) e c d (by decide) ⟨x,H,I1,ru,⟨rfl,fun ys hy=>by rw [I.list_inj hy hq]; exact hx⟩,st',fun b hb=>(hf b hb).1⟩⟩
 done:=by
  intro X hP hw hK hc i pins s σ H E I hf st hg;subst hP hw hK;obtain ⟨xs,hq,hx⟩:=hg;obtain ⟨its,rv,p,hz⟩:=I.list hq;obtain ⟨f0,f1,f2,f3,f4,f5⟩:=hf it (by simp);have hl:=rv.length
  exact wpAny_pyNext_list_end (I.ok.hd hc) st p.isList (by simp; omega) fun h' eb=>⟨rfl,I.turned (t':=s.toks) (fun b o hb e=>eb b o hb e) f0 f1 f3 f4 f5⟩
 self:=fun _ _ _ _ _ st h=>wpAny_pyIter_listiter st h
theorem QnU {P:Program}{w:World}{K:PySem.W.Frag}{tg:Expr} (a it:Addr):Turn P w K tg (Itt K a) [it] it (fun i h=>h.IsTupleIter it a i) where
 mem:=by simp
 obj:=fun i h st b hb=>by
  have e:b=it:=by simpa using hb
  subst e;obtain ⟨o,e,c,d⟩:=st;exact ⟨o,e,fun v z=>by rw [d] at z; cases z⟩
 keep:=fun i h h' st k=>st.at fun o e=>k it (by simp) o e
 item:=by
  intro X hP hw hK hc i pins s σ H E I hf st hg;subst hP hw hK;obtain ⟨xs,x,hq,hx⟩:=hg;obtain ⟨its,rv,p,hz⟩:=I.tuple hq;obtain ⟨u,hu,ru⟩:=rv.get hx;obtain ⟨f0,f1,f2,f3,f4,f5⟩:=hf it (by simp)
  refine wpAny_pyNext_tuple_item st (show s.heap.IsTuple a its.toArray from p) (x:=u) (by simpa using hu) fun h' st' sb=>?_
  have I1:Inv X pins σ H { s with heap:=h' }:=I.turned (t':=s.toks) (fun b o hb e=>(sb.2 b hb).trans e) f0 f1 f3 f4 f5;obtain ⟨o,e,c,d⟩:=id st';exact ⟨u,rfl,Qja (s:={ s with heap:=h' }) e c d (by decide) ⟨x,H,I1,ru,⟨rfl,fun ys hy=>by rw [I.tuple_inj hy hq]; exact hx⟩,st',fun b hb=>(hf b hb).1⟩⟩
 done:=by
  intro X hP hw hK hc i pins s σ H E I hf st hg;subst hP hw hK;obtain ⟨xs,hq,hx⟩:=hg;obtain ⟨its,rv,p,hz⟩:=I.tuple hq;obtain ⟨f0,f1,f2,f3,f4,f5⟩:=hf it (by simp);have hl:=rv.length
  exact wpAny_pyNext_tuple_end (I.ok.hd hc) st (show s.heap.IsTuple a its.toArray from p) (by simp; omega) fun h' eb=>⟨rfl,I.turned (t':=s.toks) (fun b o hb e=>eb b o hb e) f0 f1 f3 f4 f5⟩
 self:=fun _ _ _ _ _ st h=>wpAny_pyIter_tupleiter st h
theorem QnL {P:Program}{w:World}{K:PySem.W.Frag}{tg:Expr} (it:Addr) (lo:Int) (n:Nat):Turn P w K tg (Itr lo n) [it] it (fun i h=>IsRangeIter h it (lo+(i:Nat) * 1) ((n:Int) - (i:Nat)) 1) where
 mem:=by simp
 obj:=fun i h st b hb=>by
  have e:b=it:=by simpa using hb
  subst e
  exact ⟨_,st,fun v z=>by
   have z':Data.fields _=Data.cell v:=z
   cases z'⟩
 keep:=fun i h h' st k=>k it (by simp) _ st
 item:=by
  intro X hP hw hK hc i pins s σ H E I hf st hg;subst hP hw hK;obtain ⟨f0,f1,f2,f3,f4,f5⟩:=hf it (by simp);have W:=Walks.range (prog:=X.prog) (w:=X.w) (I.ok.hd hc) it lo 1 n
  refine W.item i s _ _ hg st fun v h' tk hv st' kk=>?_
  obtain ⟨t,rfl⟩:=hv;have I1:Inv X pins σ H { s with heap:=h',toks:=tk }:=I.turned (fun b o hb e=>kk b o (by simpa using hb) e) f0 f1 f3 f4 f5;refine ⟨_,rfl,Qja (s:={ s with heap:=h',toks:=tk }) (n:="range_iterator") st' rfl rfl (by decide) ⟨.int (lo+i),H,I1,⟨t,?_⟩,⟨rfl,rfl⟩,st',fun b hb=>(hf b hb).1⟩⟩;rw [Int.mul_one]
 done:=by
  intro X hP hw hK hc i pins s σ H E I hf st hg;subst hP hw hK;obtain ⟨f0,f1,f2,f3,f4,f5⟩:=hf it (by simp)
  exact wpAny_pyNext_range_end (I.ok.hd hc) st (by have:n≤i:=hg; omega) fun h' eb=>⟨rfl,I.turned (t':=s.toks) (fun b o hb e=>eb b o hb e) f0 f1 f3 f4 f5⟩
 self:=fun _ _ _ _ _ st h=>wpAny_pyIter_rangeiter st h
section
variable {X:Cx}{tg:Expr}
def Qu3 (K:PySem.W.Frag) (tl:TE):TI:=fun σ H R=>tl σ H fun x H1=>∃a,x = .ref a∧(∃xs,SqL K H1 a xs)∧R (Itl K a) H1
def Qwf (K:PySem.W.Frag) (tl:TE):TI:=fun σ H R=>tl σ H fun x H1=>∃a,x = .ref a∧(∃xs,SqT K H1 a xs)∧R (Itt K a) H1
theorem QmA {l:Expr}{tl:TE} (hl:PE X l tl):PI X tg l (Qu3 X.K tl):=by
 intro pins s σ H R I h
 refine thn (hl pins s σ H _ I h) fun v s1 ⟨x,H1,I1,r1,q1⟩=>?_
 obtain ⟨a,e,⟨xs,hq⟩,q⟩:=q1;subst e;cases r1;obtain ⟨its,rv,p,hz⟩:=I1.list hq;refine wpAny_pyIter_list p.isList ?_;refine ⟨s1.heap.objs.size,[s1.heap.objs.size],_,_,H1,rfl,I1.kept (t':=s1.toks) fun b o e=>zh _ e,Qpd a _,⟨_,zD _ rfl,rfl,rfl⟩,fun b hb=>?_,q⟩
 have e:b=s1.heap.objs.size:=by simpa using hb
 subst e;exact I1.fpOk (ze _) (I1.hok.fresh (ze _))
theorem QsW {l:Expr}{tl:TE} (hl:PE X l tl):PI X tg l (Qwf X.K tl):=by
 intro pins s σ H R I h
 refine thn (hl pins s σ H _ I h) fun v s1 ⟨x,H1,I1,r1,q1⟩=>?_
 obtain ⟨a,e,⟨xs,hq⟩,q⟩:=q1;subst e;cases r1;obtain ⟨its,rv,p,hz⟩:=I1.tuple hq;refine wpAny_pyIter_tuple (show s1.heap.IsTuple a its.toArray from p) ?_;refine ⟨s1.heap.objs.size,[s1.heap.objs.size],_,_,H1,rfl,I1.kept (t':=s1.toks) fun b o e=>zh _ e,QnU a _,⟨_,zD _ rfl,rfl,rfl⟩,fun b hb=>?_,q⟩
 have e:b=s1.heap.objs.size:=by simpa using hb
 subst e;exact I1.fpOk (ze _) (I1.hok.fresh (ze _))
theorem Qp9 {pins:List (Addr×Obj)}{σ:St}{H:Hp}{s:Shared}{R:It→Hp→Prop}{E:Value→Shared→Prop}{lo hi:Int}{t u v:Tok}{tk:Nat} (I:Inv X pins σ H s) (h1:-(2 ^ 62)≤lo) (h2:lo < 2 ^ 62) (h3:-(2 ^ 62)≤hi) (h4:hi < 2 ^ 62)
  (q:R (Itr lo (hi - lo).toNat) H):wpAny (model X.prog X.w) X.A (pyIter (.ref s.heap.objs.size)) (PIE X pins σ tg R) E { s with heap:=s.heap.push { cls:=.type "range",data:=.fields #[.int lo t,.int hi u,.int 1 v] },toks:=tk }:=by
 refine wpAny_pyIter_range (IsRange.new ..) (small_one h1 h2 h3 h4) ?_
 have I1:Inv X pins σ H { s with heap:=s.heap.push { cls:=.type "range",data:=.fields #[.int lo t,.int hi u,.int 1 v] },toks:=tk }:=I.kept fun b o e=>zh _ e
 refine ⟨(s.heap.push { cls:=.type "range",data:=.fields #[.int lo t,.int hi u,.int 1 v] }).objs.size,[(s.heap.push { cls:=.type "range",data:=.fields #[.int lo t,.int hi u,.int 1 v] }).objs.size],_,_,H,rfl,
  I1.kept (t':=tk) fun b o e=>zh _ e,QnL _ lo (hi - lo).toNat,?_,fun b hb=>?_,q⟩
 ·have e1:lo+((0:Nat):Int) * 1=lo:=by simp
  have e2:(((hi - lo).toNat:Nat):Int) - ((0:Nat):Int)=Builtin.Range.rangeSize lo hi 1:=by rw [rangeSize_one]; split <;> omega
  show IsRangeIter _ _ (lo+((0:Nat):Int) * 1) ((((hi - lo).toNat:Nat):Int) - ((0:Nat):Int)) 1;rw [e1,e2];exact zD _ rfl
 ·have e:b=(s.heap.push { cls:=.type "range",data:=.fields #[.int lo t,.int hi u,.int 1 v] }).objs.size:=by simpa using hb
  subst e;exact I1.fpOk (ze _) (I1.hok.fresh (ze _))
def Qvf (ta:TA):TI:=fun σ H R=>ta σ H fun vs H1=>∃j:Int,vs = [.int j]∧-(2 ^ 62)≤j∧j < 2 ^ 62∧R (Itr 0 j.toNat) H1
theorem Qo5 {a:Expr}{ta:TA}{p pos:Pos} (hg:Gl X "range") (hm:X.mg "range" = none) (ha:PA X [a] ta) (hs:starEach [a] X.env = [(false,eval a X.env)]:=by rfl):PI X tg (.Call (.Name "range" p) [a] [] pos) (Qvf ta):=by
 intro pins s σ H R I h;refine Call_ (Qgw I hg hm boot_range (PyProof.Rows.callWith_type1 (thn (ha pos pins s σ H _ I h) fun us s1 ⟨vs,H1,I1,r1,q1⟩=>?_) hs rfl));obtain ⟨j,e,q1,q2,q⟩:=q1;subst e
 cases r1 with
 | cons r rr =>
  cases rr;obtain ⟨t,rfl⟩:=r;exact call_range_1 (Qp9 I1 (by omega) (by omega) q1 q2 (by simpa using q))
def Qqh (wi:TI) (g:TG) (tb:TS):TS:=fun D σ H=>wi σ H fun J H1=>∃W:Nat→Nat→St→Hp→Prop,(∃m,W 0 m σ H1)∧∀i m σ H,W i m σ H →
 (J.stop i H∧D.nx σ H)∨(J.go i H∧∃N:St→Hp→Prop,(∀σ' H',N σ' H'→∃m',m' < m∧W (i+1) m' σ' H')∧∀x H',J.yld i H x H'→g x σ H' fun σ2 H2=>tb { D with nx:=N,ct:=N,bk:=D.nx } σ2 H2)
def Qhw (fp:List Addr) (h:Heap):List (Addr×Obj):=fp.filterMap fun b=>(h.get? b).map fun o=>(b,o)
theorem Qfq {fp:List Addr}{h:Heap}{b:Addr}{o:Obj} (hb:b∈fp) (e:h.get? b=some o):(b,o)∈Qhw fp h:=List.mem_filterMap.mpr ⟨b,hb,by rw [e]; rfl⟩
theorem Qpy {fp:List Addr}{h:Heap}{p:Addr×Obj} (hp:p∈Qhw fp h):p.1∈fp∧h.get? p.1=some p.2:=by
 obtain ⟨b,hb,e⟩:=List.mem_filterMap.mp hp
 cases q:h.get? b with
 | none=>rw [q] at e; cases e
 | some o =>
  rw [q] at e;have e':(b,o)=p:=zL e;subst e';exact ⟨hb,q⟩
theorem Inv.pinned {pins:List (Addr×Obj)}{σ:St}{H:Hp}{s:Shared}{fp:List Addr} (I:Inv X pins σ H s) (hf:∀b∈fp,Qeg X pins H b) (ho:∀b∈fp,∃o,s.heap.get? b=some o∧∀v,o.data≠.cell v):Inv X (pins++Qhw fp s.heap) σ H s :=
 I.pins_of fun p hp=>(zC.mp hp).elim (fun z=>I.pin p (zO _ z)) fun z=>by
  obtain ⟨hb,e⟩:=Qpy z;obtain ⟨f0,f1,f2,_⟩:=hf p.1 hb;obtain ⟨o,e',d⟩:=ho p.1 hb;rw [e] at e'; cases e';exact ⟨e,f0,f1,f2,d⟩
theorem Inv.unpinned {pins pl:List (Addr×Obj)}{σ:St}{H:Hp}{s:Shared} (I:Inv X (pins++pl) σ H s):Inv X pins σ H s:=I.pins_of fun p hp=>I.pin p (zO _ (List.mem_append_left _ hp))
theorem Qow {iter:Expr}{body:List Stmt}{wi:TI}{g:TG}{tb:TS}{pos:Pos} (hp:PassesOwn (model X.prog X.w) X.A X.env X.xe) (hc:X.calm=true) (hi:PI X tg iter wi) (hg:PG X tg g) (hb:PSs X body tb)
  (hs:∀x,foldedSetIterable iter X.env x=pure x:=by intro _; rfl):PS X (.For tg iter body [] pos) (Qqh wi g tb):=by
 intro pins s σ H D I h;refine wpAny_For (thn (hi pins s σ H _ I h) fun v s1 h1=>thn h1 fun itv s2 h2=>?_) hs;obtain ⟨it,fp,tn,J,H2,e,I2,T,st2,f2,W,⟨m0,w0⟩,turn⟩:=h2;subst e
 have stat:∀{H':Hp},(∀b∈fp,H' b=none)→∀b∈fp,Qeg X pins H' b:=fun hn b hb=>⟨hn b hb,(f2 b hb).2⟩
 refine codeAny_forLoop_any (fun n s'=>∃i σ' H',Inv X pins σ' H' s'∧tn i s'.heap∧(∀b∈fp,H' b=none)∧W i n σ' H') ?_ m0 ⟨0,σ,H2,I2,st2,fun b hb=>(f2 b hb).1,w0⟩;rintro n s3 ⟨i,σ3,H3,I3,st3,fr3,w3⟩
 rcases turn i n σ3 H3 w3 with ⟨stop,qn⟩ | ⟨go,N,hN,step⟩
 ·refine wpAny_passesOwn hp (thn (T.done X rfl rfl rfl hc i pins s3 σ3 H3 X.xe I3 (stat fr3) st3 stop) fun r s4 ⟨hr,I4⟩=>?_);subst hr;exact wpAny_execs_nil ⟨σ3,H3,I4,qn⟩
 ·refine wpAny_passesOwn hp (thn (T.item X rfl rfl rfl hc i pins s3 σ3 H3 X.xe I3 (stat fr3) st3 go) fun r s4 ⟨u,hr,h4⟩=>?_);subst hr;refine wpAny_passesOwn hp (thn h4 fun _ s5 ⟨x,H5,I5,r5,y5,st5,fr5⟩=>?_);have I5':=I5.pinned (stat fr5) (T.obj _ _ st5);refine wpAny_passesOwn hp (thn (hg _ s5 σ3 H5 x u _ I5' r5 (step x H5 y5)) fun _ s6 ⟨σ6,H6,I6,q6⟩=>?_);refine wpAny_passesOwn hp (thn (hb _ s6 σ6 H6 _ I6 q6) fun f s7 q7=>?_)
  have again:∀{σ7:St}{H7:Hp},Inv X (pins++Qhw fp s5.heap) σ7 H7 s7→N σ7 H7→∃m,m < n∧∃i σ' H',Inv X pins σ' H' s7∧tn i s7.heap∧(∀b∈fp,H' b=none)∧W i m σ' H':=fun {σ7 H7} I7 n7=>by
   obtain ⟨m',hm,w7⟩:=hN σ7 H7 n7;refine ⟨m',hm,i+1,σ7,H7,I7.unpinned,T.keep _ _ _ st5 fun b hb o e=>(I7.pin (b,o) (zO _ (zO _ (Qfq hb e)))).1,fun b hb=>?_,w7⟩;obtain ⟨o,e,d⟩:=T.obj _ _ st5 b hb;exact (I7.pin (b,o) (zO _ (zO _ (Qfq hb e)))).2.1
  cases f with
  | next=>obtain ⟨σ7,H7,I7,n7⟩:=q7; exact again I7 n7
  | cont=>obtain ⟨σ7,H7,I7,n7⟩:=q7; exact again I7 n7
  | brk=>obtain ⟨σ7,H7,I7,q7⟩:=q7; exact ⟨σ7,H7,I7.unpinned,q7⟩
  | ret v=>obtain ⟨x7,σ7,H7,I7,r7,q7⟩:=q7; exact ⟨x7,σ7,H7,I7.unpinned,r7,q7⟩
end
abbrev R2:=V→V→Hp→VK→Prop
def OpR (X:Cx) (f:Value→Value→Sem Value) (r:R2):Prop :=
 ∀(pins:List (Addr×Obj)) (s:Shared) (σ:St) (H:Hp) (x y:V) (v u:Value) (Q:VK),Inv X pins σ H s→RelV x v→RelV y u→r x y H Q →
  wpAny (model X.prog X.w) X.A (f v u) (EP X pins σ Q) X.xe s
def UnR (X:Cx) (f:Value→Sem Value) (r:V→Hp→VK→Prop):Prop :=
 ∀(pins:List (Addr×Obj)) (s:Shared) (σ:St) (H:Hp) (x:V) (v:Value) (Q:VK),Inv X pins σ H s→RelV x v→r x H Q →
  wpAny (model X.prog X.w) X.A (f v) (EP X pins σ Q) X.xe s
def Qc5 (X:Cx) (f:Value) (r:List V→Hp→VK→Prop):Prop :=
 ∀(pins:List (Addr×Obj)) (s:Shared) (σ:St) (H:Hp) (xs:List V) (us:List Value) (Q:VK),Inv X pins σ H s→Qax xs us→r xs H Q →
  wpAny (model X.prog X.w) X.A (call f us) (EP X pins σ Q) X.xe s
def QwR (X:Cx) (r:V→Hp→(Bool→Hp→Prop)→Prop):Prop :=
 ∀(pins:List (Addr×Obj)) (s:Shared) (σ:St) (H:Hp) (x:V) (v:Value) (Q:Bool→Hp→Prop),Inv X pins σ H s→RelV x v→r x H Q →
  wpAny (model X.prog X.w) X.A (truthy v) (TP X pins σ Q) X.xe s
def tOp (r:R2) (ta tb:TE):TE:=fun σ H Q=>ta σ H fun x H1=>tb σ H1 fun y H2=>r x y H2 Q
def tUn (r:V→Hp→VK→Prop) (ta:TE):TE:=fun σ H Q=>ta σ H fun x H1=>r x H1 Q
def rI (C:Int→Int→Prop) (g:Int→Int→V):R2:=fun x y H Q=>∃i j,x = .int i∧y = .int j∧C i j∧Q (g i j) H
def rI0 (g:Int→Int→V):R2:=fun x y H Q=>∃i j,x = .int i∧y = .int j∧Q (g i j) H
def rU (g:Int→V):V→Hp→VK→Prop:=fun x H Q=>∃i,x = .int i∧Q (g i) H
section
variable {X:Cx}{a b c:Expr}{ta tb tc:TE}{pos:Pos}
theorem QpO (ha:PE X a ta) (hb:PE X b tb) {pins:List (Addr×Obj)}{s:Shared}{σ:St}{H:Hp}{R:V→V→Hp→Prop} (I:Inv X pins σ H s)
  (h:ta σ H fun x H1=>tb σ H1 fun y H2=>R x y H2) {Q:Value→Shared→Prop}{f:Value→Value→Sem Value}
  (hf:∀v u s2 x y H2,Inv X pins σ H2 s2→RelV x v→RelV y u→R x y H2→wpAny (model X.prog X.w) X.A (f v u) Q X.xe s2) :
  wpAny (model X.prog X.w) X.A (eval a X.env) (fun v s₁=>wpAny (model X.prog X.w) X.A (eval b X.env) (fun u s₂=>wpAny (model X.prog X.w) X.A (f v u) Q X.xe s₂) X.xe s₁) X.xe s:=by
 refine thn (ha pins s σ H _ I h) fun v s1 ⟨x,H1,I1,r1,q1⟩=>?_
 refine thn (hb pins s1 σ H1 _ I1 q1) fun u s2 ⟨y,H2,I2,r2,q2⟩=>?_
 exact hf v u s2 x y H2 I2 r1 r2 q2
theorem Qvd {op:Operator}{r:R2} (ho:OpR X (binaryOp op) r) (ha:PE X a ta) (hb:PE X b tb):PE X (.BinOp a op b pos) (tOp r ta tb):=by
 intro pins s σ H Q I h;exact wpAny_BinOp (QpO ha hb I h fun v u s2 x y H2 I2 rx ry q=>ho pins s2 σ H2 x y v u Q I2 rx ry q)
theorem Qvi {op:UnaryOp}{r:V→Hp→VK→Prop} (ho:UnR X (unaryOp op) r) (ha:PE X a ta):PE X (.UnaryOp op a pos) (tUn r ta):=by
 intro pins s σ H Q I h;exact UnaryOp_ (thn (ha pins s σ H _ I h) fun v s1 ⟨x,H1,I1,r1,q1⟩=>ho pins s1 σ H1 x v Q I1 r1 q1)
theorem opI {f:Value→Value→Sem Value}{C:Int→Int→Prop}{g:Int→Int→Int}
  (rule:∀(i j:Int) (t u:Tok) (s:Shared) (Q:Value→Shared→Prop) (E:Value→Shared→Prop),C i j→Q (.int (g i j) s.toks) { s with toks:=s.toks+1 }→wpAny (model X.prog X.w) X.A (f (.int i t) (.int j u)) Q E s) :
  OpR X f (rI C fun i j=>.int (g i j)):=by
 intro pins s σ H x y v u Q I rx ry h;obtain ⟨i,j,rfl,rfl,hc,q⟩:=h;obtain ⟨t,rfl⟩:=rx;obtain ⟨t',rfl⟩:=ry;exact rule i j t t' s _ _ hc ⟨.int (g i j),H,I.tok _,⟨_,rfl⟩,q⟩
theorem Qt1 {f:Value→Value→Sem Value}{g:Int→Int→Int}
  (rule:∀(i j:Int) (t u:Tok) (s:Shared) (Q:Value→Shared→Prop) (E:Value→Shared→Prop),Q (.int (g i j) s.toks) { s with toks:=s.toks+1 }→wpAny (model X.prog X.w) X.A (f (.int i t) (.int j u)) Q E s) :
  OpR X f (rI0 fun i j=>.int (g i j)):=by
 intro pins s σ H x y v u Q I rx ry h;obtain ⟨i,j,rfl,rfl,q⟩:=h;obtain ⟨t,rfl⟩:=rx;obtain ⟨t',rfl⟩:=ry;exact rule i j t t' s _ _ ⟨.int (g i j),H,I.tok _,⟨_,rfl⟩,q⟩
theorem QnP {f:Value→Value→Sem Value}{g:Int→Int→Bool}
  (rule:∀(i j:Int) (t u:Tok) (s:Shared) (Q:Value→Shared→Prop) (E:Value→Shared→Prop),Q (.bool (g i j)) s→wpAny (model X.prog X.w) X.A (f (.int i t) (.int j u)) Q E s) :
  OpR X f (rI0 fun i j=>.bl (g i j)):=by
 intro pins s σ H x y v u Q I rx ry h;obtain ⟨i,j,rfl,rfl,q⟩:=h;obtain ⟨t,rfl⟩:=rx;obtain ⟨t',rfl⟩:=ry;exact rule i j t t' s _ _ ⟨.bl (g i j),H,I,rfl,q⟩
def Qwk (i j:Int):Prop:=0 < j∧j < 1073741824
def QwF (i j:Int):Prop:=0≤j∧j≤1000000∧i.natAbs < 2 ^ 64
def Qqd (i j:Int):Prop:=(-(2 ^ 64) < i∧i < 2 ^ 64)∨(-(2 ^ 64) < j∧j < 2 ^ 64)
theorem Qqd.ok {i j:Int} (h:Qqd i j):IntMulOk i j:=by
 rcases h with ⟨h1,h2⟩ | ⟨h1,h2⟩
 ·exact .of_left (intBits_le_64 h1 h2)
 ·exact .of_right (intBits_le_64 h1 h2)
theorem Quc:OpR X (binaryOp .Add) (rI0 fun i j=>.int (i+j)):=Qt1 fun _ _ _ _ _ _ _ q=>add_int q
theorem Qux:OpR X (binaryOp .Sub) (rI0 fun i j=>.int (i - j)):=Qt1 fun _ _ _ _ _ _ _ q=>sub_int q
theorem Qua:OpR X (binaryOp .Mult) (rI Qqd fun i j=>.int (i * j)):=opI fun _ _ _ _ _ _ _ hc q=>mul_int q hc.ok
theorem Qrh:OpR X (binaryOp .FloorDiv) (rI Qwk fun i j=>.int (i / j)):=opI fun i j _ _ _ _ _ hc q=>by
 have h1:(0:Int) < j:=hc.1;have h2:j < 1073741824:=hc.2;exact floordiv_int (by omega) (by rw [Int.fdiv_eq_ediv_of_nonneg i (by omega)]; exact q) (.inl (PyProof.noPylong_small (by omega)))
theorem QtF:OpR X (binaryOp .Mod) (rI (fun _ j=>0 < j) fun i j=>.int (i % j)):=opI fun i j _ _ _ _ _ hc q=>by
 have h1:(0:Int) < j:=hc;exact mod_int' (by omega) (by rw [Int.fmod_eq_emod_of_nonneg i (by omega)]; exact q)
theorem QtC:OpR X (binaryOp .Pow) (rI QwF fun i j=>.int (i ^ j.toNat)):=opI fun _ _ _ _ _ _ _ hc q=>pow_int_small hc.1 hc.2.1 hc.2.2 q
theorem unI {f:Value→Sem Value}{g:Int→Int}
  (rule:∀(i:Int) (t:Tok) (s:Shared) (Q:Value→Shared→Prop) (E:Value→Shared→Prop),Q (.int (g i) s.toks) { s with toks:=s.toks+1 }→wpAny (model X.prog X.w) X.A (f (.int i t)) Q E s) :
  UnR X f (rU fun i=>.int (g i)):=by
 intro pins s σ H x v Q I rx h;obtain ⟨i,rfl,q⟩:=h;obtain ⟨t,rfl⟩:=rx;exact rule i t s _ _ ⟨.int (g i),H,I.tok _,⟨_,rfl⟩,q⟩
theorem Qur:UnR X (unaryOp .USub) (rU fun i=>.int (-i)):=unI fun _ _ _ _ _ q=>neg_int q
theorem QoQ:OpR X (binaryOp .Add) (fun x y H Q=>∃i k,x = .int i∧y = .bl k∧Q (.int (i+b2i k)) H):=by
 intro pins s σ H x y v u Q I rx ry h;obtain ⟨i,k,rfl,rfl,q⟩:=h;obtain ⟨t,rfl⟩:=rx;cases ry;exact add_int_bool ⟨.int (i+b2i k),H,I.tok _,⟨_,rfl⟩,q⟩
end
def Qun:V→V→Bool
 | .non,.non=>true | .non,.int _=>true | .int _,.non=>true | .non,.bl _=>true | .bl _,.non=>true | .non,.str _=>true | .str _,.non=>true
 | .int _,.int _=>true | .bl _,.bl _=>true | .str _,.str _=>true | .byt _,.byt _=>true
 | .int _,.str _=>true | .str _,.int _=>true | .bl _,.str _=>true | .str _,.bl _=>true
 | _,_=>false
def rEq:R2:=fun x y H Q=>Qun x y=true∧Q (.bl (decide (x=y))) H
def rNe:R2:=fun x y H Q=>Qun x y=true∧Q (.bl (!decide (x=y))) H
theorem Ql4 {i j:Int}:decide (V.int i=V.int j)=(i == j):=by
 rw [Bool.eq_iff_iff];simp
theorem Qn4 {i j:Bool}:decide (V.bl i=V.bl j)=(i == j):=by
 rw [Bool.eq_iff_iff];simp
theorem Qmr {i j:Str}:decide (V.str i=V.str j)=(i == j):=by
 rw [Bool.eq_iff_iff];simp
theorem QmR {i j:Array UInt8}:decide (V.byt i=V.byt j)=(i.toList == j.toList):=by
 rw [Bool.eq_iff_iff];cases i;cases j;simp
section
variable {X:Cx}{a b c:Expr}{ta tb tc:TE}{pos:Pos}
theorem Qa5 {pins:List (Addr×Obj)}{σ:St}{H:Hp}{s:Shared}{Q:VK}{k k':Bool} (I:Inv X pins σ H s) (q:Q (.bl k) H) (e:k=k'):EP X pins σ Q (.bool k') s:=by
 subst e;exact ⟨.bl k,H,I,rfl,q⟩
theorem Qh5:OpR X (compareOp .Eq) rEq:=by
 intro pins s σ H x y v u Q I rx ry h;obtain ⟨hs,q⟩:=h
 cases x with
 | non =>
  cases rx
  cases y with
  | non=>cases ry; exact PySem.EqNone.eq_none_none (Qa5 I q (by simp))
  | bl j=>cases ry; exact PySem.EqNone.eq_none_bool (Qa5 I q (by simp))
  | int j=>obtain ⟨t',rfl⟩:=ry; exact PySem.EqNone.eq_none_int (Qa5 I q (by simp))
  | str j=>obtain ⟨t',rfl⟩:=ry; exact PySem.EqNone.eq_none_str (Qa5 I q (by simp))
  | _=>exact absurd (show false=true from hs) zj
 | bl i =>
  cases rx
  cases y with
  | non=>cases ry; exact PySem.EqNone.eq_bool_none (Qa5 I q (by simp))
  | bl j=>cases ry; exact eq_bool (Qa5 I q Qn4)
  | str j=>obtain ⟨t',rfl⟩:=ry; exact PySem.EqMixed.eq_bool_str (Qa5 I q (by simp))
  | _=>exact absurd (show false=true from hs) zj
 | int i =>
  obtain ⟨t,rfl⟩:=rx
  cases y with
  | non=>cases ry; exact PySem.EqNone.eq_int_none (Qa5 I q (by simp))
  | int j=>obtain ⟨t',rfl⟩:=ry; exact eq_int (Qa5 I q Ql4)
  | str j=>obtain ⟨t',rfl⟩:=ry; exact PySem.EqMixed.eq_int_str (Qa5 I q (by simp))
  | _=>exact absurd (show false=true from hs) zj
 | str i =>
  obtain ⟨t,rfl⟩:=rx
  cases y with
  | non=>cases ry; exact PySem.EqNone.eq_str_none (Qa5 I q (by simp))
  | bl j=>cases ry; exact PySem.EqMixed.eq_str_bool (Qa5 I q (by simp))
  | int j=>obtain ⟨t',rfl⟩:=ry; exact PySem.EqMixed.eq_str_int (Qa5 I q (by simp))
  | str j=>obtain ⟨t',rfl⟩:=ry; exact eq_str (Qa5 I q Qmr)
  | _=>exact absurd (show false=true from hs) zj
 | byt i =>
  obtain ⟨t,rfl⟩:=rx
  cases y with
  | byt j=>obtain ⟨t',rfl⟩:=ry; exact PySem.W.eq_bytes (Qa5 I q QmR)
  | _=>exact absurd (show false=true from hs) zj
 | _=>cases y <;> exact absurd (show false=true from hs) zj
theorem QnD:OpR X (compareOp .NotEq) rNe:=by
 intro pins s σ H x y v u Q I rx ry h;obtain ⟨hs,q⟩:=h
 cases x with
 | non =>
  cases rx
  cases y with
  | non=>cases ry; exact PySem.EqNone.ne_none_none (Qa5 I q (by simp))
  | bl j=>cases ry; exact PySem.EqNone.ne_none_bool (Qa5 I q (by simp))
  | int j=>obtain ⟨t',rfl⟩:=ry; exact PySem.EqNone.ne_none_int (Qa5 I q (by simp))
  | str j=>obtain ⟨t',rfl⟩:=ry; exact PySem.EqNone.ne_none_str (Qa5 I q (by simp))
  | _=>exact absurd (show false=true from hs) zj
 | bl i =>
  cases rx
  cases y with
  | non=>cases ry; exact PySem.EqNone.ne_bool_none (Qa5 I q (by simp))
  | bl j=>cases ry; exact ne_bool (Qa5 I q (congrArg not Qn4))
  | str j=>obtain ⟨t',rfl⟩:=ry; exact PySem.EqMixed.ne_bool_str (Qa5 I q (by simp))
  | _=>exact absurd (show false=true from hs) zj
 | int i =>
  obtain ⟨t,rfl⟩:=rx
  cases y with
  | non=>cases ry; exact PySem.EqNone.ne_int_none (Qa5 I q (by simp))
  | int j=>obtain ⟨t',rfl⟩:=ry; exact ne_int (Qa5 I q (congrArg not Ql4))
  | str j=>obtain ⟨t',rfl⟩:=ry; exact PySem.EqMixed.ne_int_str (Qa5 I q (by simp))
  | _=>exact absurd (show false=true from hs) zj
 | str i =>
  obtain ⟨t,rfl⟩:=rx
  cases y with
  | non=>cases ry; exact PySem.EqNone.ne_str_none (Qa5 I q (by simp))
  | bl j=>cases ry; exact PySem.EqMixed.ne_str_bool (Qa5 I q (by simp))
  | int j=>obtain ⟨t',rfl⟩:=ry; exact PySem.EqMixed.ne_str_int (Qa5 I q (by simp))
  | str j=>obtain ⟨t',rfl⟩:=ry; exact ne_str (Qa5 I q (congrArg not Qmr))
  | _=>exact absurd (show false=true from hs) zj
 | byt i =>
  obtain ⟨t,rfl⟩:=rx
  cases y with
  | byt j=>obtain ⟨t',rfl⟩:=ry; exact PySem.W.ne_bytes (Qa5 I q (congrArg not QmR))
  | _=>exact absurd (show false=true from hs) zj
 | _=>cases y <;> exact absurd (show false=true from hs) zj
theorem QvT:OpR X (compareOp .Lt) (rI0 fun i j=>.bl (decide (i < j))):=QnP fun _ _ _ _ _ _ _ q=>lt_int q
theorem QuX:OpR X (compareOp .LtE) (rI0 fun i j=>.bl (decide (i≤j))):=QnP fun _ _ _ _ _ _ _ q=>le_int q
theorem QuT:OpR X (compareOp .Gt) (rI0 fun i j=>.bl (decide (j < i))):=QnP fun _ _ _ _ _ _ _ q=>gt_int q
theorem Qvl:OpR X (compareOp .GtE) (rI0 fun i j=>.bl (decide (j≤i))):=QnP fun _ _ _ _ _ _ _ q=>ge_int q
theorem Qpe:OpR X (compareOp .In) (fun x y H Q=>∃i j,x = .str i∧y = .str j∧Q (.bl (!(Builtin.Str.occurrences j i 0 j.length 1).isEmpty)) H):=by
 intro pins s σ H x y v u Q I rx ry h;obtain ⟨i,j,rfl,rfl,q⟩:=h;obtain ⟨t,rfl⟩:=rx;obtain ⟨t',rfl⟩:=ry;exact in_str (Qa5 I q rfl)
theorem Qlb:OpR X (compareOp .NotIn) (fun x y H Q=>∃i j,x = .str i∧y = .str j∧Q (.bl (!(!(Builtin.Str.occurrences j i 0 j.length 1).isEmpty))) H):=by
 intro pins s σ H x y v u Q I rx ry h;obtain ⟨i,j,rfl,rfl,q⟩:=h;obtain ⟨t,rfl⟩:=rx;obtain ⟨t',rfl⟩:=ry;exact notIn_str (Qa5 I q rfl)
theorem Qbq (b:Expr) {op:CmpOp} (h:op≠.In:=by decide) (h2:op≠.NotIn:=by decide):behindInMarks op b=false:=by
 have e1:(op == CmpOp.In)=false:=by cases op <;> first | rfl | exact absurd rfl h
 have e2:(op == CmpOp.NotIn)=false:=by cases op <;> first | rfl | exact absurd rfl h2
 cases b <;> simp [behindInMarks,e1,e2]
theorem QrY {op:CmpOp}{r:R2} (ho:OpR X (compareOp op) r) (ha:PE X a ta) (hb:PE X b tb) (hm:behindInMarks op b=false):PE X (.Compare a [op] [b] pos) (tOp r ta tb):=by
 intro pins s σ H Q I h;exact wpAny_Compare1 (QpO ha hb I h fun v u s2 x y H2 I2 rx ry q=>ho pins s2 σ H2 x y v u Q I2 rx ry q) hm
def QnK (t:TE):TT:=fun σ H Q=>t σ H fun x H'=>∃k,x = .bl k∧Q k H'
theorem Qrn {op:CmpOp}{r:R2} (ho:OpR X (compareOp op) r) (ha:PE X a ta) (hb:PE X b tb) (hm:behindInMarks op b=false):PT X (.Compare a [op] [b] pos) (QnK (tOp r ta tb)):=by
 intro pins s σ H Q I h
 refine wpAny_isTrue_Compare1 (thn (ha pins s σ H _ I h) fun v s1 ⟨x,H1,I1,r1,q1⟩=>thn (hb pins s1 σ H1 _ I1 q1) fun u s2 ⟨y,H2,I2,r2,q2⟩ =>
  thn (ho pins s2 σ H2 x y v u _ I2 r1 r2 q2) fun c s3 ⟨z,H3,I3,r3,k,e,q3⟩=>?_) hm
 subst e;cases r3;exact wpAny_truthy_bool ⟨H3,I3,q3⟩
def Qld (r r':R2) (ta tb tc:TE):TE:=fun σ H Q=>ta σ H fun x H1=>tb σ H1 fun y H2=>r x y H2 fun z H3=>∃k,z = .bl k ∧
 (if k=true then tc σ H3 fun w' H4=>r' y w' H4 Q else Q (.bl false) H3)
theorem QpD {op op':CmpOp}{r r':R2} (ho:OpR X (compareOp op) r) (ho':OpR X (compareOp op') r') (ha:PE X a ta) (hb:PE X b tb) (hc:PE X c tc)
  (hm:lastMarks [op,op'] [b,c]=false:=by with_unfolding_all rfl):PE X (.Compare a [op,op'] [b,c] pos) (Qld r r' ta tb tc):=by
 intro pins s σ H Q I h
 refine Compare_chain (thn (ha pins s σ H _ I h) fun v s1 ⟨x,H1,I1,r1,q1⟩=>chain_link (thn (hb pins s1 σ H1 _ I1 q1) fun u s2 ⟨y,H2,I2,r2,q2⟩ =>
  thn (ho pins s2 σ H2 x y v u _ I2 r1 r2 q2) fun d s3 ⟨z,H3,I3,r3,k,e,q3⟩=>?_)) hm
 subst e;cases r3;refine wpAny_truthy_bool ?_
 cases k with
 | false=>exact ite_ff ⟨.bl false,H3,I3,rfl,q3⟩
 | true=>exact ite_tt (chain_last (thn (hc pins s3 σ H3 _ I3 q3) fun w' s4 ⟨z',H4,I4,r4,q4⟩=>ho' pins s4 σ H4 y z' u w' Q I4 r2 r4 q4))
theorem QqF {op op':CmpOp}{r r':R2} (ho:OpR X (compareOp op) r) (ho':OpR X (compareOp op') r') (ha:PE X a ta) (hb:PE X b tb) (hc:PE X c tc)
  (hm:lastMarks [op,op'] [b,c]=false:=by with_unfolding_all rfl):PT X (.Compare a [op,op'] [b,c] pos) (QnK (Qld r r' ta tb tc)):=by
 intro pins s σ H Q I h
 refine isTrue_chain (thn (ha pins s σ H _ I h) fun v s1 ⟨x,H1,I1,r1,q1⟩=>test_link (thn (hb pins s1 σ H1 _ I1 q1) fun u s2 ⟨y,H2,I2,r2,q2⟩ =>
  thn (ho pins s2 σ H2 x y v u _ I2 r1 r2 q2) fun d s3 ⟨z,H3,I3,r3,k,e,q3⟩=>?_)) hm
 subst e;cases r3;refine wpAny_truthy_bool ?_
 cases k with
 | false =>
  obtain ⟨k',e',q'⟩:=q3;cases e';exact ite_ff ⟨H3,I3,q'⟩
 | true =>
  refine ite_tt (test_last (thn (hc pins s3 σ H3 _ I3 q3) fun w' s4 ⟨z',H4,I4,r4,q4⟩=>thn (ho' pins s4 σ H4 y z' u w' _ I4 r2 r4 q4) fun d' s5 ⟨z2,H5,I5,r5,k2,e2,q5⟩=>?_));subst e2;cases r5;exact wpAny_truthy_bool ⟨H5,I5,q5⟩
def Qp5 (K:PySem.W.Frag) (x:V) (H:Hp) (k:Bool):Prop :=
 match x with
 | .non=>k=false
 | .bl b=>k=b
 | .int i=>k=(i != 0)
 | .str y=>y.length≤sizeLine∧k=((y.length:Int) != 0)
 | .byt y=>y.size≤sizeLine∧k=((y.size:Int) != 0)
 | .ref p=>(∃xs,SqL K H p xs∧k = !xs.isEmpty)∨(∃xs,SqT K H p xs∧k = !xs.isEmpty)∨∃kvs,H p=some (.dK kvs)∧k = !kvs.isEmpty
 | _=>False
theorem QmZ {κ:Type}{kvs:List (κ×V)}{vs:List (κ×Value)} (r:KV kvs vs):(!vs.isEmpty) = !kvs.isEmpty:=by
 cases r <;> rfl
theorem QiY {xs:List V}{its:List Value} (r:Qax xs its):(!its.toArray.isEmpty) = !xs.isEmpty:=by
 cases r <;> simp
theorem Qhy:(sizeLine:Nat) < 2 ^ 63:=by rw [sizeLine_eq]; decide
theorem QtG:QwR X (fun x H Q=>∃k,Qp5 X.K x H k∧Q k H):=by
 intro pins s σ H x v Q I rx h;obtain ⟨k,e,q⟩:=h;have hl:=Qhy;have hs:sizeLine=16777216:=sizeLine_eq
 cases x with
 | non =>
  cases rx;have e':k=false:=e;subst e';exact truthy_none ⟨H,I,q⟩
 | bl b =>
  cases rx;have e':k=b:=e;subst e';exact wpAny_truthy_bool ⟨H,I,q⟩
 | int i =>
  obtain ⟨t,rfl⟩:=rx;have e':k=(i != 0):=e;subst e';exact PySem.P.truthy_int ⟨H,I,q⟩
 | str y =>
  obtain ⟨t,rfl⟩:=rx;obtain ⟨hy,e'⟩:y.length≤sizeLine∧k=((y.length:Int) != 0):=e;subst e';exact PySem.P.truthy_str (by omega) ⟨H,I.tok _,q⟩
 | byt y =>
  obtain ⟨t,rfl⟩:=rx;obtain ⟨hy,e'⟩:y.size≤sizeLine∧k=((y.size:Int) != 0):=e;subst e';exact PySem.W.truthy_bytes (by omega) ⟨H,I.tok _,q⟩
 | ref p =>
  cases rx;have e':(∃xs,SqL X.K H p xs∧k = !xs.isEmpty)∨(∃xs,SqT X.K H p xs∧k = !xs.isEmpty)∨∃kvs,H p=some (.dK kvs)∧k = !kvs.isEmpty:=e
  rcases e' with ⟨xs,hx,e'⟩ | ⟨xs,hx,e'⟩ | ⟨kvs,hx,e'⟩
  ·subst e';obtain ⟨its,r,pl,hz⟩:=I.list hx;have hlen:=r.length;exact wpAny_truthy_list pl.isList (by simp only [zu]; omega) ⟨H,I.tok _,by rw [QiY r]; exact q⟩
  ·subst e';obtain ⟨its,r,pl,hz⟩:=I.tuple hx;have hlen:=r.length;exact truthy_tuple pl (by simp only [zu]; omega) ⟨H,I.tok _,by rw [QiY r]; exact q⟩
  ·subst e';obtain ⟨hz,hS,vs,r,m⟩:kvs.length≤sizeLine∧(p == sysModules)=false∧∃vs,KV kvs vs∧s.heap.DictOf (Qbx X.prog X.w) p vs:=I.hok p _ hx;have hlen:kvs.length=vs.length:=Paired.length r;exact wpAny_truthy_dict hS m (by omega) ⟨H,I.tok _,by rw [QmZ r]; exact q⟩
 | _=>exact (show False from e).elim
theorem Qqp (ha:PE X a ta) (he:∀whole,isTrue a X.env whole=(do let v ←whole; standAt a.pos; holding [v] (truthy v))) :
  PT X a (fun σ H Q=>ta σ H fun x H'=>∃k,Qp5 X.K x H' k∧Q k H'):=by
 intro pins s σ H Q I h;exact isTrue_plain (thn (ha pins s σ H _ I h) fun v s1 ⟨x,H1,I1,r1,q1⟩=>QtG pins s1 σ H1 x v Q I1 r1 q1) (he _)
theorem Qnk:OpR X (binaryOp .Add) (fun x y H Q=>∃i j,x = .str i∧y = .str j∧i.length+j.length≤sizeLine∧Q (.str (i++j)) H):=by
 intro pins s σ H x y v u Q I rx ry h;obtain ⟨i,j,rfl,rfl,hz,q⟩:=h;obtain ⟨t,rfl⟩:=rx;obtain ⟨t',rfl⟩:=ry;exact add_str (fun t' tk=>⟨.str (i++j),H,I.tok _,⟨_,rfl⟩,q⟩) hz
theorem vals1 {x:V}{us:List Value} (r:Qax [x] us):∃u,us = [u]∧RelV x u:=by
 cases r with
 | cons r1 r2=>cases r2; exact ⟨_,rfl,r1⟩
theorem vals2 {x y:V}{us:List Value} (r:Qax [x,y] us):∃u w',us = [u,w']∧RelV x u∧RelV y w':=by
 cases r with
 | cons r1 r2 =>
  cases r2 with
  | cons r3 r4=>cases r4; exact ⟨_,_,rfl,r1,r3⟩
theorem Qn8 (hc:X.calm=true):Qc5 X (.builtin "max") (fun xs H Q=>∃i j,xs = [.int i,.int j]∧Q (.int (if j > i then j else i)) H):=by
 intro pins s σ H xs us Q I r h;obtain ⟨i,j,rfl,q⟩:=h;obtain ⟨u,w',rfl,⟨t,rfl⟩,⟨t',rfl⟩⟩:=vals2 r
 refine max_two_ints (I.ok.hd hc) fun h' tk k=>⟨_,H,I.kept k,?_,q⟩
 by_cases hj:j > i
 ·rw [if_pos hj,if_pos hj]; exact ⟨_,rfl⟩
 ·rw [if_neg hj,if_neg hj]; exact ⟨_,rfl⟩
theorem QoA (hc:X.calm=true):Qc5 X (.builtin "min") (fun xs H Q=>∃i j,xs = [.int i,.int j]∧Q (.int (if j < i then j else i)) H):=by
 intro pins s σ H xs us Q I r h;obtain ⟨i,j,rfl,q⟩:=h;obtain ⟨u,w',rfl,⟨t,rfl⟩,⟨t',rfl⟩⟩:=vals2 r
 refine min_two_ints (I.ok.hd hc) fun h' tk k=>⟨_,H,I.kept k,?_,q⟩
 by_cases hj:j < i
 ·rw [if_pos hj,if_pos hj]; exact ⟨_,rfl⟩
 ·rw [if_neg hj,if_neg hj]; exact ⟨_,rfl⟩
theorem Qj9:Qc5 X (.type "int") (fun xs H Q=>(∃i,xs = [.int i]∧Q (.int i) H)∨∃k,xs = [.bl k]∧Q (.int (if k then 1 else 0)) H):=by
 intro pins s σ H xs us Q I r h
 rcases h with ⟨i,rfl,q⟩ | ⟨k,rfl,q⟩
 ·obtain ⟨u,rfl,t,rfl⟩:=vals1 r;exact call_int_int ⟨.int i,H,I,⟨_,rfl⟩,q⟩
 ·obtain ⟨u,rfl,r1⟩:=vals1 r;cases r1;exact call_int_bool ⟨.int (if k then 1 else 0),H,I.tok _,⟨_,rfl⟩,q⟩
def QwE (K:PySem.W.Frag) (x:V) (H:Hp) (n:Nat):Prop :=
 match x with
 | .str y=>y.length≤sizeLine∧n=y.length
 | .byt y=>y.size≤sizeLine∧n=y.size
 | .ref p=>(∃xs,SqL K H p xs∧n=xs.length)∨∃xs,SqT K H p xs∧n=xs.length
 | _=>False
theorem call_len:Qc5 X (.builtin "len") (fun xs H Q=>∃x n,xs = [x]∧QwE X.K x H n∧Q (.int n) H):=by
 intro pins s σ H xs us Q I r h;obtain ⟨x,n,rfl,e,q⟩:=h;obtain ⟨u,rfl,rx⟩:=vals1 r;have hl:=Qhy;have hs:sizeLine=16777216:=sizeLine_eq
 cases x with
 | str y =>
  obtain ⟨t,rfl⟩:=rx;obtain ⟨hy,e'⟩:y.length≤sizeLine∧n=y.length:=e;subst e';exact len_str (by omega) ⟨.int _,H,I.tok _,⟨_,rfl⟩,q⟩
 | byt y =>
  obtain ⟨t,rfl⟩:=rx;obtain ⟨hy,e'⟩:y.size≤sizeLine∧n=y.size:=e;subst e';exact PySem.W.len_bytes (by omega) ⟨.int _,H,I.tok _,⟨_,rfl⟩,q⟩
 | ref p =>
  cases rx;have e':(∃xs,SqL X.K H p xs∧n=xs.length)∨∃xs,SqT X.K H p xs∧n=xs.length:=e
  rcases e' with ⟨xs,hx,e'⟩ | ⟨xs,hx,e'⟩
  ·subst e';obtain ⟨its,r',pl,hz⟩:=I.list hx;have hlen:=r'.length;exact Calls.call_len_list pl.isList (by simp only [zu]; omega) ⟨.int xs.length,H,I.tok _,⟨_,by simp only [zu]; rw [hlen]⟩,q⟩
  ·subst e';obtain ⟨its,r',pl,hz⟩:=I.tuple hx;have hlen:=r'.length;exact len_tuple pl (by simp only [zu]; omega) ⟨.int xs.length,H,I.tok _,⟨_,by simp only [zu]; rw [hlen]⟩,q⟩
 | _=>exact (show False from e).elim
end
structure QiD (h:Heap) (x dx C:Addr) (mA:Str→Option Value):Prop where
 obj:h.get? x=some (PySem.W.instObj C dx)
 ns:h.Ns1 dx mA
 ne:dx≠x
theorem Qj5 {h:Heap}{dx:Addr}{mA:Str→Option Value} (n:h.Ns1 dx mA):∃od,h.get? dx=some od∧∀name,PySem.W.lookIn name od=some (mA name):=by
 obtain ⟨o,es,ep,ho,hd,hk,_,hm⟩:=n;refine ⟨o,ho,fun name=>?_⟩;have e:=hm name;unfold nsFind findBy at e;rw [←Array.find?_toList] at e;unfold PySem.W.lookIn;rw [hd];dsimp only
 split
 ·rename_i y q;rw [q] at e;exact congrArg some e
 ·rename_i q;rw [q] at e
  have a:es.toList.any (·.refKey)=false:=by
   rw [List.any_eq_false];intro y hy;obtain ⟨z,t,hkey⟩:=hk y (Array.mem_toList_iff.mp hy);simp [DictEntry.refKey,hkey]
  have a':¬es.toList.any (·.refKey)=true:=by rw [a]; exact zj
  rw [if_neg a'];exact congrArg some e
theorem QiD.look {h:Heap}{x dx C:Addr}{mA:Str→Option Value} (I:QiD h x dx C mA):∃od,PySem.W.InstAt h x (PySem.W.instObj C dx) C (some od)∧∀name,PySem.W.lookIn name od=some (mA name) :=
 let ⟨od,ho,hl⟩:=Qj5 I.ns
 ⟨od,⟨I.obj,rfl,rfl,ho⟩,hl⟩
section
variable {prog:Program}{w:World}{A:Around}{E:Value→Shared→Prop}{s:Shared}{K:PySem.W.Frag}{x dx C f:Addr}{mA:Str→Option Value}{name:Str}{v:Value}
theorem Qrw {expr:Bool}{Q:Value→Shared→Prop} (X:K.In s.heap) (I:QiD s.heap x dx C mA) (hg:PySem.W.plainGet K C name=true) (hh:PySem.W.hasDictIn K C=true)
  (ha:PySem.W.findIn K (.ref C) name=some none) (hv:mA name=some v) (hv':PySem.W.handedIn v=true) (h:Q v { s with toks:=s.toks+1 }) :
  wpAny (model prog w) A (getAttr (.ref x) name expr) Q E s:=by
 obtain ⟨od,J,hl⟩:=I.look;exact PySem.W.get_value X J (PySem.W.plainGet_of hg).1 (PySem.W.findObj_own hh ha rfl (by rw [hl,hv])) hv' h
theorem Qqz {pl:Sem Bool}{Q:Value×List Value→Shared→Prop} (X:K.In s.heap) (I:QiD s.heap x dx C mA) (hg:PySem.W.plainGet K C name=true)
  (hf:PySem.W.findIn K (.ref C) name=some (some (.ref f))) (ht:PySem.W.isFn K (.ref f)=true) (hv:mA name=none) (h:Q (.ref f,[.ref x]) s) :
  wpAny (model prog w) A (getMethod (.ref x) name pl) Q E s:=by
 obtain ⟨od,J,hl⟩:=I.look;exact PySem.W.method_fn X J (PySem.W.plainGet_of hg).1 (PySem.W.plainGet_of hg).2 hf (beq_iff_eq.mp ht) (by show (PySem.W.lookIn name od).map (·.isSome)=some false; rw [hl,hv]; rfl) h
theorem QsB {ns:List Str}{Q:Unit→Shared→Prop} (X:K.In s.heap) (I:QiD s.heap x dx C mA)
  (hs:PySem.W.findIn K (.ref C) "__setattr__" = some (some (.builtin "object.__setattr__"))) (hp:PySem.W.plainOver K C=true) (ht:PySem.W.takerIn K C name=some none) (hh:PySem.W.hasDictIn K C=true)
  (hw:PySem.Within mA ns) (hsz:ns.length≤sizeLine)
  (h:∀h',QiD h' x dx C (fun y=>if y=name then some v else mA y)→Heap.SameBut dx s.heap h'→Q () { s with heap:=h',toks:=s.toks+2 }) :
  wpAny (model prog w) A (setAttr (.ref x) name v) Q E s:=by
 obtain ⟨od,J,hl⟩:=I.look;refine PySem.W.set_plain X J hs (PySem.W.osa_open (s:={ s with toks:=s.toks+1 }) (r:=none) X J hp ht fun b=>?_);obtain ⟨cd,hc,hd'⟩:=PySem.W.any_some hh;have hx:s.heap.get? x=some ⟨.ref C,some dx,.plain,#[]⟩:=I.obj;refine zc (zd (zc (zc (wpAny_loadPart hx (zc (PySem.W.Looks.here (s:={ s with toks:=s.toks+1 }) (PySem.W.looks_clsIn X hc) ?_))))));rw [hd'];refine zd (a:=some dx) (zc (zd (zc ?_)))
 refine wpAny_nsSet1 (s:={ s with toks:=s.toks+1 }) I.ns fun h' hn2 hs2=>?_
 obtain ⟨oD,esD,epD,hoD,hdD,hcD⟩:=hn2.count (PySem.Within.cons name v hw);refine zc (wpAny_lookBehind hoD (by rw [hdD]; exact pastItsLine_dict (zB hcD (by rw [zJ]; omega))) ?_);exact zd (h _ ⟨(hs2.2 _ (Ne.symm I.ne)).trans I.obj,hn2,I.ne⟩ hs2)
theorem Qql {R:Result→Shared→Prop}{vs:List Value}{kw:List (Str×Value)} (X:K.In s.heap) (hm:PySem.W.makesIn K C=true)
  (hi:PySem.W.findIn K (.ref C) "__init__" = some (some (.ref f))) (hf:PySem.W.typeIn K (.ref f)=some (.type "function"))
  (h:codeAny (model prog w) (A.under (.builtin "type.__call__" ⟨.ref C::vs,kw⟩)) (.call (.ref f) ⟨.ref (s.heap.objs.size+1)::vs,kw⟩) (PySem.W.InitBack (s.heap.objs.size+1) R)
   { s with heap:=(s.heap.push PySem.W.emptyDict).push (PySem.W.instObj C s.heap.objs.size) }) :
  codeAny (model prog w) A (.call (.ref C) ⟨vs,kw⟩) R s:=by
 obtain ⟨hh,g,d,t,os⟩:=s;exact PySem.W.make_core (PySem.W.makes_of X hm) (PySem.W.looks_findIn X hi) (fun self=>PySem.W.bind_fn X self hf) (.inl rfl) h
end
def QcW (f:Str) (v:V):List (Str×V)→List (Str×V)
 | []=>[(f,v)]
 | (g,x)::r=>if g=f then (g,v)::r else (g,x)::QcW f v r
theorem Qip (f g:Str) (v:V):∀fs:List (Str×V),(QcW f v fs).lookup g=if g=f then some v else fs.lookup g
 | []=>by
  show List.lookup g [(f,v)]=_
  by_cases h:g=f
  ·have hb:(g == f)=true:=beq_iff_eq.mpr h;simp only [List.lookup,hb,if_pos h]
  ·have hb:(g == f)=false:=beq_eq_false_iff_ne.mpr h;simp only [List.lookup,hb,if_neg h]
 | (k,x)::r=>by
  have ih:=Qip f g v r;rw [show QcW f v ((k,x)::r)=(if k=f then (k,v)::r else (k,x)::QcW f v r) from rfl]
  by_cases hk:k=f
  ·rw [if_pos hk]
   by_cases h:g=k
   ·have hb:(g == k)=true:=beq_iff_eq.mpr h;simp only [List.lookup,hb,if_pos (h.trans hk)]
   ·have hb:(g == k)=false:=beq_eq_false_iff_ne.mpr h;simp only [List.lookup,hb,if_neg (fun e:g=f=>h (e.trans hk.symm))]
  ·rw [if_neg hk]
   by_cases h:g=k
   ·have hb:(g == k)=true:=beq_iff_eq.mpr h;simp only [List.lookup,hb,if_neg (fun e:g=f=>hk (h.symm.trans e))]
   ·have hb:(g == k)=false:=beq_eq_false_iff_ne.mpr h;simp only [List.lookup,hb];exact ih
theorem QhE (f:Str) (v:V):∀fs:List (Str×V),f∈(QcW f v fs).map (·.1)∧∀g,g∈fs.map (·.1)→g∈(QcW f v fs).map (·.1)
 | []=>⟨by simp [QcW],fun g h=>by simp at h⟩
 | (k,x)::r=>by
  obtain ⟨i1,i2⟩:=QhE f v r;rw [show QcW f v ((k,x)::r)=(if k=f then (k,v)::r else (k,x)::QcW f v r) from rfl]
  by_cases hk:k=f
  ·rw [if_pos hk];subst hk;exact ⟨by simp,fun g h=>by simpa using h⟩
  ·rw [if_neg hk];refine ⟨?_,fun g h=>?_⟩
   ·rw [zg];exact zw _ i1
   ·rw [zg] at h ⊢
    rcases zm.mp h with e | e
    ·exact zm.mpr (.inl e)
    ·exact zw _ (i2 g e)
theorem Qil (f:Str) (v:V):∀fs:List (Str×V),(QcW f v fs).length≤fs.length+1
 | []=>by simp [QcW]
 | (k,x)::r=>by
  have ih:=Qil f v r;rw [show QcW f v ((k,x)::r)=(if k=f then (k,v)::r else (k,x)::QcW f v r) from rfl]
  by_cases hk:k=f
  ·rw [if_pos hk,zJ,zJ]; omega
  ·rw [if_neg hk,zJ,zJ]; omega
theorem QcI.some_of {v:V}{o:Option Value} (r:QcI (some v) o):∃u,o=some u∧RelV v u:=by
 cases o with
 | none=>exact (show False from r).elim
 | some u=>exact ⟨u,rfl,r⟩
theorem QcI.none_of {o:Option Value} (r:QcI none o):o=none:=by
 cases o with
 | none=>rfl
 | some u=>exact (show False from r).elim
theorem Qj6 {v:V}{u:Value} (r:RelV v u):PySem.W.handedIn u=true:=by
 cases v with
 | non=>cases (show u=Value.none from r); rfl
 | bl b=>cases (show u=Value.bool b from r); rfl
 | int i=>obtain ⟨t,e⟩:=(show ∃t,u=Value.int i t from r); cases e; rfl
 | str x=>obtain ⟨t,e⟩:=(show ∃t,u=Value.str x t from r); cases e; rfl
 | byt b=>obtain ⟨t,e⟩:=(show ∃t,u=Value.bytes b t from r); cases e; rfl
 | flt b=>obtain ⟨t,e⟩:=(show ∃t,u=Value.float b t from r); cases e; rfl
 | ref a=>cases (show u=Value.ref a from r); rfl
 | ty n=>cases (show u=Value.type n from r); rfl
section
variable {P:Program}{w:World}{H H':Hp}{h h':Heap}{a C dx:Addr}{fs fs':List (Str×V)}
theorem Qii (hok:HOk P w H h) (e:H a=some (.ins C dx fs)):∃mA,QiD h a dx C mA∧(∀f,QcI (fs.lookup f) (mA f))∧PySem.Within mA (fs.map (·.1))∧fs.length≤1000∧H dx=some (.own a):=by
 obtain ⟨d,z,ne,ob,mA,n,r,q⟩:=(show Qbb P w H h a (.ins C dx fs) from hok a _ e);exact ⟨mA,⟨ob,n,ne⟩,r,q,z,d⟩
end
structure Cls (K:PySem.W.Frag) (C:Addr):Prop where
 pg:PySem.W.plainGet K C Str.empty=true
 hd:PySem.W.hasDictIn K C=true
 po:PySem.W.plainOver K C=true
 sa:PySem.W.findIn K (.ref C) "__setattr__" = some (some (.builtin "object.__setattr__"))
theorem Cls.get {K:PySem.W.Frag}{C:Addr} (c:Cls K C) (f:Str):PySem.W.plainGet K C f=true:=c.pg
def QfR (K:PySem.W.Frag) (C:Addr) (f:Str):Prop:=PySem.W.findIn K (.ref C) f=some none
theorem QfR.taker {K:PySem.W.Frag}{C:Addr}{f:Str} (n:QfR K C f):PySem.W.takerIn K C f=some none:=by
 unfold PySem.W.takerIn;rw [show PySem.W.findIn K (.ref C) f=some none from n];rfl
structure Con (K:PySem.W.Frag) (C:Addr) (f:Str) (v:V) (u:Value):Prop where
 at_:PySem.W.findIn K (.ref C) f=some (some u)
 rel:RelV v u
 get:PySem.W.specialIn K u "__get__" = some none
 cp:PySem.W.copiedNames.contains f=false
structure Qiy (K:PySem.W.Frag) (C:Addr) (m:Str) (f:Addr):Prop where
 at_:PySem.W.findIn K (.ref C) m=some (some (.ref f))
 fn:PySem.W.isFn K (.ref f)=true
 kp:PySem.W.keepIn K (.ref f)=true
section
variable {X:Cx}{pins:List (Addr×Obj)}{σ:St}{H:Hp}{s:Shared}{a C dx:Addr}{fs:List (Str×V)}{f:Str}{v:V}{A:Around}{E:Value→Shared→Prop}
theorem Qnw {b:Bool}{Q:Value→Shared→Prop} (I:Inv X pins σ H s) (e:H a=some (.ins C dx fs)) (c:Cls X.K C) (n:QfR X.K C f) (l:fs.lookup f=some v)
  (h:∀u s',Inv X pins σ H s'→RelV v u→Q u s'):wpAny (model X.prog X.w) A (getAttr (.ref a) f b) Q E s:=by
 obtain ⟨mA,O,r,_,_,_⟩:=Qii I.hok e;obtain ⟨u,hu,ru⟩:=QcI.some_of (v:=v) (o:=mA f) (by rw [←l]; exact r f);exact Qrw I.kIn O (c.get f) c.hd n hu (Qj6 ru) (h u _ (I.tok _) ru)
theorem QgO {m:Str}{g:Addr}{pl:Sem Bool}{Q:Value×List Value→Shared→Prop} (I:Inv X pins σ H s) (e:H a=some (.ins C dx fs)) (c:Cls X.K C) (k:Qiy X.K C m g) (l:fs.lookup m=none)
  (h:Q (.ref g,[.ref a]) s):wpAny (model X.prog X.w) A (getMethod (.ref a) m pl) Q E s:=by
 obtain ⟨mA,O,r,_,_,_⟩:=Qii I.hok e;have hn:mA m=none:=QcI.none_of (by rw [←l]; exact r m);exact Qqz I.kIn O (c.get m) k.at_ k.fn hn h
theorem QnI {y:V}{u:Value}{Q:Unit→Shared→Prop} (I:Inv X pins σ H s) (e:H a=some (.ins C dx fs)) (c:Cls X.K C) (n:QfR X.K C f) (hl:fs.length < 1000) (ry:RelV y u)
  (h:∀s',Inv X pins σ (upd H a (.ins C dx (QcW f y fs))) s'→Q () s'):wpAny (model X.prog X.w) A (setAttr (.ref a) f u) Q E s:=by
 obtain ⟨mA,O,r,wi,_,ho⟩:=Qii I.hok e
 have hz:(fs.map (·.1)).length≤sizeLine:=by rw [zp,sizeLine_eq]; omega
 refine QsB I.kIn O c.sa c.po n.taker c.hd wi hz fun h' O' sb=>h _ ?_
 have hd:∃o,h'.get? dx=some o:=let ⟨o,_,_,e',_⟩:=O'.ns; ⟨o,e'⟩;refine I.write (x:=a) (e:=dx) (by rw [e]; exact True.intro) (.inr ho) (fun b q hb z=>(sb.2 b hb).trans z) hd ?_;refine ⟨by rw [Qah O.ne]; exact ho,?_,O.ne,O'.obj,_,O'.ns,fun g=>?_,fun g hg=>?_⟩
 ·have:=Qil f y fs; omega
 ·show QcI ((QcW f y fs).lookup g) (if g=f then some u else mA g);rw [Qip]
  by_cases q:g=f
  ·rw [if_pos q,if_pos q]; exact ry
  ·rw [if_neg q,if_neg q]; exact r g
 ·by_cases q:g=f
  ·rw [q]; exact (QhE f y fs).1
  ·refine (QhE f y fs).2 g (wi g fun z=>hg ?_);show (if g=f then some u else mA g)=none;rw [if_neg q]; exact z
theorem Inv.made (I:Inv X pins σ H s):Inv X pins σ (upd (upd H s.heap.objs.size (.own (s.heap.objs.size+1))) (s.heap.objs.size+1) (.ins C s.heap.objs.size []))
  { s with heap:=(s.heap.push PySem.W.emptyDict).push (PySem.W.instObj C s.heap.objs.size) }:=by
 have e1:(s.heap.push PySem.W.emptyDict).get? s.heap.objs.size=some PySem.W.emptyDict:=zD s.heap rfl
 have e2:((s.heap.push PySem.W.emptyDict).push (PySem.W.instObj C s.heap.objs.size)).get? (s.heap.objs.size+1)=some (PySem.W.instObj C s.heap.objs.size):=by
  have:=zD (s.heap.push PySem.W.emptyDict) (o:=PySem.W.instObj C s.heap.objs.size) rfl
  rwa [Heap.size_push] at this
 have e3:(s.heap.push PySem.W.emptyDict).Ns s.heap.objs.size (fun _=>none):=⟨PySem.W.emptyDict,#[],_,e1,rfl,(fun e he=>absurd he (by simp)),fun _=>rfl⟩;have I1:=I.laid (a:=s.heap.objs.size) (o:=.own (s.heap.objs.size+1)) (h':=s.heap.push PySem.W.emptyDict) (t':=s.toks) (fun b u q=>zh _ q) (ze _) ⟨_,e1⟩;refine I1.laid (a:=s.heap.objs.size+1) (o:=.ins C s.heap.objs.size []) (t':=s.toks) (fun b u q=>zh _ q) (Nat.le_of_eq (Heap.size_push _ _)) ?_;have ne:s.heap.objs.size≠s.heap.objs.size+1:=zq (jj _);refine ⟨by rw [Qah ne,Qay],Nat.zero_le _,ne,e2,fun _=>none,(Heap.Ns1.of_empty e3).at fun o q=>zh _ q,fun _=>True.intro,fun y hy=>absurd rfl hy⟩
theorem Qmd {prog:Program}{w:World}{env:Env}{e:Expr}{f:Str}{pos:Pos}{s:Shared}{Q:Value→Shared→Prop} (hb:attributeBase e f env (eval e env)=eval e env)
  (h:wpAny (model prog w) A (eval e env) (fun o s₁=>wpAny (model prog w) A (getAttr o f true) Q E s₁) E s):wpAny (model prog w) A (eval (.Attribute e f pos) env) Q E s :=
 Attribute_any_ h (by rw [arm_eval_Attribute,hb])
end
def Qv8 (K:PySem.W.Frag) (ta:TE) (f:Str):TE:=fun σ H Q=>ta σ H fun x H1=>∃a C dx fs v,x = .ref a∧H1 a=some (.ins C dx fs)∧Cls K C∧QfR K C f∧fs.lookup f=some v∧Q v H1
def QwT (K:PySem.W.Frag) (ta tv:TE) (f:Str):TS:=fun D σ H=>tv σ H fun y H1=>ta σ H1 fun x H2=>∃a C dx fs,x = .ref a∧H2 a=some (.ins C dx fs)∧Cls K C∧QfR K C f∧fs.length < 1000 ∧
 D.nx σ (upd H2 a (.ins C dx (QcW f y fs)))
section
variable {X:Cx}{o e value:Expr}{f:Str}{pos pos' tpos:Pos}{ta tv:TE}
theorem QsR (he:PE X e ta) (hb:attributeBase e f X.env (eval e X.env)=eval e X.env):PE X (.Attribute e f pos) (Qv8 X.K ta f):=by
 intro pins s σ H Q I h;refine Qmd hb (thn (he pins s σ H _ I h) fun u s1 ⟨x,H1,I1,rx,a,C,dx,fs,v,ex,ea,c,n,l,q⟩=>?_);subst ex;obtain rfl:u=Value.ref a:=rx
 exact Qnw I1 ea c n l fun u' s2 I2 ru=>⟨v,H1,I2,ru,q⟩
theorem Qt0 (ha:PE X o ta) (hv:PE X value tv) (hs:swapsWith value (some (.Attribute o f pos')) pos.line X.env=pure false):PS X (.Assign [.Attribute o f pos'] value pos) (QwT X.K ta tv f):=by
 intro pins s σ H D I h;refine plainObj_wpAny_Assign_Attribute (thn (hv pins s σ H _ I h) fun u s1 ⟨y,H1,I1,ry,q⟩=>thn (ha pins s1 σ H1 _ I1 q) fun ov s2 ⟨x,H2,I2,rx,a,C,dx,fs,ex,ea,c,n,l,q2⟩=>?_) hs;subst ex;obtain rfl:ov=Value.ref a:=rx
 exact QnI I2 ea c n l ry fun s3 I3=>⟨σ,_,I3,q2⟩
end
section
variable {X:Cx}{pins:List (Addr×Obj)}{σ:St}{H:Hp}{s:Shared}{A:Around}{E:Value→Shared→Prop}{Q:Value→Shared→Prop}{c:Value}{b:Bool}
inductive Qe4 (K:PySem.W.Frag) (H:Hp):V→Value→Prop where
 | non:Qe4 K H .non (.type "NoneType")
 | bl (x:Bool):Qe4 K H (.bl x) (.type "bool")
 | int (i:Int):Qe4 K H (.int i) (.type "int")
 | str (x:Str):Qe4 K H (.str x) (.type "str")
 | flt (x:UInt64):Qe4 K H (.flt x) (.type "float")
 | lst {a:Addr}{xs:List V} (e:H a=some (.lst xs)):Qe4 K H (.ref a) (.type "list")
 | frz {a:Addr}{o:Obj}{xs:List V} (e:H a=some (.frz o (.lst xs))):Qe4 K H (.ref a) (.type "list")
 | tup {a:Addr}{xs:List V} (e:H a=some (.tup xs)):Qe4 K H (.ref a) (.type "tuple")
 | dK {a:Addr}{kvs:List (Key×V)} (e:H a=some (.dK kvs)):Qe4 K H (.ref a) (.type "dict")
 | dT {a:Addr}{kvs:List (List Key×V)} (e:H a=some (.dT kvs)):Qe4 K H (.ref a) (.type "dict")
 | ins {a C dx:Addr}{fs:List (Str×V)} (e:H a=some (.ins C dx fs)) (cl:Cls K C) (ha:PySem.W.findIn K (.ref C) "__class__" = some (some (.builtin "object.__class__")))
   (hn:PySem.W.specialIn K (.builtin "object.__class__") "__get__" = some (some (.builtin "getset_descriptor.__get__"))) (htk:PySem.W.takesIn K (.builtin "object.__class__")=some true)
   (hm:PySem.W.mroIn K C (.type "object")=some true):Qe4 K H (.ref a) (.ref C)
theorem QeK {x:V}{u t:Value} (I:Inv X pins σ H s) (rx:RelV x u) (ty:Qe4 X.K H x t) (e:PySem.W.kitOne X.K t c=some b) (h:∀tk,Q (.bool b) { s with toks:=tk }) :
  wpAny (model X.prog X.w) A (call (.builtin "isinstance") [u,c]) Q E s:=by
 cases ty with
 | non=>cases (show u=Value.none from rx); exact PySem.W.kia_one PySem.W.kitx_none I.kIn True.intro e (fun z=>nomatch z) h
 | bl y=>cases (show u=Value.bool y from rx); exact PySem.W.kia_one PySem.W.kitx_bool I.kIn True.intro e (fun z=>nomatch z) h
 | int i=>obtain ⟨t,q⟩:=(show ∃t,u=Value.int i t from rx); cases q; exact PySem.W.kia_one PySem.W.kitx_int I.kIn True.intro e (fun z=>nomatch z) h
 | str y=>obtain ⟨t,q⟩:=(show ∃t,u=Value.str y t from rx); cases q; exact PySem.W.kia_one PySem.W.kitx_str I.kIn True.intro e (fun z=>nomatch z) h
 | flt y=>obtain ⟨t,q⟩:=(show ∃t,u=Value.float y t from rx); cases q; exact PySem.W.kia_one PySem.W.kitx_float I.kIn True.intro e (fun z=>nomatch z) h
 | @lst a xs ea =>
  cases (show u=Value.ref a from rx);obtain ⟨_,_,n,_,h1⟩:=(show Qbb X.prog X.w H s.heap a (.lst xs) from I.hok a _ ea);exact PySem.W.kia_one PySem.W.kitx_list I.kIn ⟨_,h1,rfl⟩ e (fun z=>nomatch z) h
 | @frz a ob xs ea =>
  cases (show u=Value.ref a from rx);obtain ⟨_,_,_,n,_,h1⟩:=(show Qbb X.prog X.w H s.heap a (.frz ob (.lst xs)) from I.hok a _ ea);exact PySem.W.kia_one PySem.W.kitx_list I.kIn ⟨_,h1,rfl⟩ e (fun z=>nomatch z) h
 | @tup a xs ea =>
  cases (show u=Value.ref a from rx);obtain ⟨_,_,_,p⟩:=(show Qbb X.prog X.w H s.heap a (.tup xs) from I.hok a _ ea);obtain ⟨o,h1,h2,_⟩:=p;exact PySem.W.kia_one PySem.W.kitx_tuple I.kIn ⟨o,h1,h2⟩ e (fun z=>nomatch z) h
 | @dK a kvs ea =>
  cases (show u=Value.ref a from rx);obtain ⟨_,_,vs,_,p⟩:=(show Qbb X.prog X.w H s.heap a (.dK kvs) from I.hok a _ ea);obtain ⟨o,es,ep,h1,h2,_⟩:=p;exact PySem.W.kia_one PySem.W.kitx_dict I.kIn ⟨o,h1,h2.1⟩ e (fun z=>nomatch z) h
 | @dT a kvs ea =>
  cases (show u=Value.ref a from rx);obtain ⟨_,_,xs,_,o,es,ep,h1,h2,_⟩:=(show Qbb X.prog X.w H s.heap a (.dT kvs) from I.hok a _ ea);exact PySem.W.kia_one PySem.W.kitx_dict I.kIn ⟨o,h1,h2.1⟩ e (fun z=>nomatch z) h
 | @ins a C dx fs ea cl ha hn htk hm =>
  cases (show u=Value.ref a from rx);obtain ⟨mA,O,_⟩:=Qii I.hok ea;obtain ⟨od,J,_⟩:=O.look;exact PySem.W.kia_one (PySem.W.kitx_own (cl.get _) cl.hd ha hn htk hm) I.kIn J e (fun z=>nomatch z) h
end
structure QaG (k:Nat) (A:Around):Prop where
 hd:A.handled=none
 dp:A.depth+3 * k+5 < recursionLimit
 un:A.units+16 * k+200 < cLine
theorem QaG.mono {j k:Nat}{A:Around} (r:QaG k A) (h:j≤k):QaG j A:=⟨r.hd,by have:=r.dp; omega,by have:=r.un; omega⟩
theorem QaG.deeper {k:Nat}{A:Around} (r:QaG (k+1) A) (env:Env):QaG k (A.deeper env) :=
 ⟨r.hd,by have:=r.dp; show A.depth+1+3 * k+5 < _; omega,by have:=r.un; show A.units+3+16 * k+200 < _; omega⟩
theorem QaG.in1 {k:Nat}{A:Around} (r:QaG (k+1) A):QaG k A.in1 :=
 ⟨r.hd,by have:=r.dp; show A.depth+3 * k+5 < _; omega,by have:=r.un; show A.units+1+16 * k+200 < _; omega⟩
theorem Qnr {A:Around}{C:Addr}{us:List Value}{kw:List (Str×Value)}:(A.under (.builtin "type.__call__" ⟨.ref C::us,kw⟩)).depth=A.depth+1:=by
 first | rfl | simp [Around.under,Code.weight,Code.isCreation,Code.isGuard,Code.isCaller,Code.frames,Code.isFrame,guardIds]
theorem Qnu {A:Around}{C:Addr}{us:List Value}{kw:List (Str×Value)}:(A.under (.builtin "type.__call__" ⟨.ref C::us,kw⟩)).units=A.units+1:=by
 first | rfl | simp [Around.under,Code.cUnits,Code.frames,Code.isFrame]
theorem QaG.make {k:Nat}{A:Around} (r:QaG (k+1) A) (C:Addr) (us:List Value) (kw:List (Str×Value)):QaG k (A.under (.builtin "type.__call__" ⟨.ref C::us,kw⟩)) :=
 ⟨r.hd,by have:=r.dp; rw [Qnr]; omega,by have:=r.un; rw [Qnu]; omega⟩
theorem QaG.depth {k:Nat}{A:Around} (r:QaG k A):A.depth < recursionLimit:=by have:=r.dp; omega
theorem QaG.units {k:Nat}{A:Around} (r:QaG k A):A.units+64 < cLine:=by have:=r.un; omega
def Qum:TA:=fun _ H Q=>Q [] H
def Qvr (ta:TE) (tr:TA):TA:=fun σ H Q=>ta σ H fun x H1=>tr σ H1 fun xs H2=>Q (x::xs) H2
section
variable {X:Cx}{e:Expr}{es:List Expr}{te:TE}{t:TA}{pos:Pos}
theorem Qdf:PA X [] Qum:=fun _ _ _ _ H Q I h=>Calls.spliced_nil ⟨[],H,I,.nil,h⟩
theorem QbY (ha:PE X e te) (hr:PA X es t) (hs:starEach (e::es) X.env=(false,eval e X.env)::starEach es X.env:=by rfl):PA X (e::es) (Qvr te t):=by
 intro pos pins s σ H Q I h;rw [hs];show wpAny _ _ (spliced ((false,eval e X.env)::backTo pos (starEach es X.env))) _ _ s;refine Calls.spliced_cons (thn (ha pins s σ H _ I h) fun u s1 ⟨x,H1,I1,r1,q1⟩=>?_)
 exact thn (hr pos pins s1 σ H1 _ I1 q1) fun us s2 ⟨xs,H2,I2,r2,q2⟩=>⟨x::xs,H2,I2,.cons r1 r2,q2⟩
def QwI (t:TA):TE:=fun σ H Q=>t σ H fun xs H1=>xs.length≤sizeLine∧∀p,H1 p=none→Q (.ref p) (upd H1 p (.tup xs))
def Qwc (t:TA):TE:=fun σ H Q=>t σ H fun xs H1=>xs.length≤sizeLine∧∀p,H1 p=none→Q (.ref p) (upd H1 p (.lst xs))
theorem Qpk {x1} (h:PA X es t):PE X (.Tuple es x1 pos) (QwI t):=by
 intro pins s σ H Q I hq;refine wpAny_Tuple_spliced (thn (h pos pins s σ H _ I hq) fun us s1 ⟨xs,H1,I1,r,z,q⟩=>⟨by rw [←r.length]; exact z,?_⟩);have hf:H1 s1.heap.objs.size=none:=I1.hok.fresh (ze _);refine ⟨.ref s1.heap.objs.size,upd H1 s1.heap.objs.size (.tup xs),I1.laid (t':=s1.toks) (fun b u e=>zh _ e) (ze _) ?_,rfl,q _ hf⟩;exact ⟨z,us,r,⟨_,zD _ rfl,rfl,_,rfl⟩⟩
theorem QuG (h:PA X es t):PE X (.List es pos) (Qwc t):=by
 intro pins s σ H Q I hq;refine wpAny_List_spliced (thn (h pos pins s σ H _ I hq) fun us s1 ⟨xs,H1,I1,r,z,q⟩=>⟨by rw [←r.length]; exact z,?_⟩);have hf:H1 s1.heap.objs.size=none:=I1.hok.fresh (ze _);refine ⟨.ref s1.heap.objs.size,upd H1 s1.heap.objs.size (.lst xs),I1.laid (t':=s1.toks) (fun b u e=>zh _ e) (ze _) ?_,rfl,q _ hf⟩;exact ⟨z,us,0,r,zD _ rfl⟩
end
abbrev Sp:=List V→Hp→VK→XK→Prop
abbrev CXT:=List Env→Hp→Shared→XK→Value→Shared→Prop
structure Qe0 (P:Program) (w:World) (K:PySem.W.Frag) (mg:Str→Option Value) (base:Heap) (A:Around) (outer:List Env) (s:Shared) (H:Hp):Prop where
 frames:A.frames=some outer
 mod:Mod K mg base
 bs:∀b o,base.get? b=some o→s.heap.get? b=some o∧H b=none
 bsz:base.objs.size≤s.heap.objs.size
 funs:s.heap.FunFrames base outer
 frf:∀b∈frs outer,H b=none
 hok:HOk P w H s.heap
 bare:AllBare s.gens
def CE (outer:List Env) (P:Program) (w:World) (H:Hp) (s:Shared) (Q:VK) (u:Value) (s':Shared):Prop :=
 ∃v H',s'.os=s.os∧AllBare s'.gens∧Un (frs outer) [] H H' s.heap s'.heap∧HOk P w H' s'.heap∧RelV v u∧Q v H'
def CR (CX:CXT) (outer:List Env) (P:Program) (w:World) (H:Hp) (s:Shared) (Q:VK) (E:XK) (r:Result) (s':Shared):Prop :=
 match r with
 | .ok (.ret u)=>CE outer P w H s Q u s'
 | .ok _=>False
 | .error e=>CX outer H s E e s'
structure Qbp (P:Program) (w:World) (K:PySem.W.Frag) (mg:Str→Option Value) (base:Heap) (CX:CXT) (k:Nat) (f:Addr) (fd:FuncData) (ps:List Str) (sp:Sp):Prop where
 len:∀vs H Q E,sp vs H Q E→vs.length=ps.length
 run:∀(A:Around) (outer:List Env) (s:Shared) (H:Hp) (args:Args) (us:List Value) (vs:List V) (Q:VK) (E:XK),QaG k A→Qe0 P w K mg base A outer s H→BindsTo s fd args (ps.zip us)→Qax vs us→sp vs H Q E →
  codeAny (model P w) A (.call (.ref f) args) (CR CX outer P w H s Q E) s
theorem Qbp.mono {P:Program}{w:World}{K:PySem.W.Frag}{mg:Str→Option Value}{base:Heap}{CX:CXT}{j k:Nat}{f:Addr}{fd:FuncData}{ps:List Str}{sp:Sp} (F:Qbp P w K mg base CX j f fd ps sp) (h:j≤k) :
  Qbp P w K mg base CX k f fd ps sp:=⟨F.len,fun A outer s H args us vs Q E hr=>F.run A outer s H args us vs Q E (hr.mono h)⟩
theorem Qbp.imp {P:Program}{w:World}{K:PySem.W.Frag}{mg:Str→Option Value}{base:Heap}{CX:CXT}{k:Nat}{f:Addr}{fd:FuncData}{ps:List Str}{sp sp':Sp} (F:Qbp P w K mg base CX k f fd ps sp)
  (h:∀vs H Q E,sp' vs H Q E→sp vs H Q E):Qbp P w K mg base CX k f fd ps sp' :=
 ⟨fun vs H Q E q=>F.len vs H Q E (h _ _ _ _ q),fun A outer s H args us vs Q E hr he hb hv hs=>F.run A outer s H args us vs Q E hr he hb hv (h _ _ _ _ hs)⟩
theorem Qe0.make {P:Program}{w:World}{K:PySem.W.Frag}{mg:Str→Option Value}{base:Heap}{A:Around}{outer:List Env}{s:Shared}{H:Hp} (e:Qe0 P w K mg base A outer s H) (C:Addr) (us:List Value) (kw:List (Str×Value)) :
  Qe0 P w K mg base (A.under (.builtin "type.__call__" ⟨.ref C::us,kw⟩)) outer s H:=⟨by first | exact e.frames | (simpa [Around.under,Code.envs,Code.isFrame,pushEnvs] using e.frames),e.mod,e.bs,e.bsz,e.funs,e.frf,e.hok,e.bare⟩
theorem Qe0.in1 {P:Program}{w:World}{K:PySem.W.Frag}{mg:Str→Option Value}{base:Heap}{A:Around}{outer:List Env}{s:Shared}{H:Hp} (e:Qe0 P w K mg base A outer s H) :
  Qe0 P w K mg base A.in1 outer s H:=⟨e.frames,e.mod,e.bs,e.bsz,e.funs,e.frf,e.hok,e.bare⟩
section
variable {X:Cx}{pins:List (Addr×Obj)}{σ:St}{H:Hp}{s s':Shared}
theorem Inv.env0 (I:Inv X pins σ H s):Qe0 X.prog X.w X.K X.mg X.base X.A X.stack s H :=
 ⟨I.ok.frames,I.ok.mod,I.bs,zB I.ok.bsz I.sz,I.stack,I.stkFree,I.hok,I.bare⟩
theorem Inv.after {Q:VK}{u:Value} (I:Inv X pins σ H s) (h:CE X.stack X.prog X.w H s Q u s'):EP X pins σ Q u s':=by
 obtain ⟨v,H',os,bare,un,hok,r,q⟩:=h;obtain ⟨hh,g,d,t,os'⟩:=s';obtain rfl:os'=s.os:=os;exact ⟨v,H',I.call (h':=hh) (g':=g) (d':=d) (t':=t) (ch:=[]) un hok bare (fun b z=>absurd z (by simp)),r,q⟩
end
def QkG (sp:Sp) (dvs:List V) (E:XK) (t:TA):TE:=fun σ H Q=>t σ H fun vs H1=>sp (vs++dvs) H1 Q E
def Qnf (C:Addr) (m:Str) (sp:Sp) (dvs:List V) (E:XK) (ta:TE) (t:TA):TE:=fun σ H Q=>ta σ H fun x H1=>∃a dx fs,x = .ref a∧H1 a=some (.ins C dx fs)∧fs.lookup m=none ∧
 t σ H1 fun vs H2=>sp (x::(vs++dvs)) H2 Q E
def QqM (C:Addr) (sp:Sp) (dvs:List V) (E:XK) (t:TA):TE:=fun σ H Q=>t σ H fun vs H1=>∀x dx,H1 x=none→H1 dx=none→dx≠x →
 sp (.ref x::(vs++dvs)) (upd (upd H1 dx (.own x)) x (.ins C dx [])) (fun v H2=>v = .non∧Q (.ref x) H2) E
def Binds (K:PySem.W.Frag) (fd:FuncData) (ps:List Str) (ds:List Value):Prop :=
 ∀(s:Shared) (us:List Value),K.In s.heap→(us++ds).length=ps.length→BindsTo s fd ⟨us,[]⟩ (ps.zip (us++ds))
theorem Binds.all {K:PySem.W.Frag}{fd:FuncData}{ps:List Str} (h:∀us:List Value,us.length=ps.length→bindArgs fd ⟨us,[]⟩=pure (ps.zip us)):Binds K fd ps []:=fun s us _ hl=>by
 rw [zP] at hl ⊢;exact .of_eq (h us hl)
def QeJ (CX:CXT) (X:Cx) (E:XK):Prop:=∀(pins:List (Addr×Obj)) (σ:St) (H:Hp) (s:Shared) (e:Value) (s':Shared),Inv X pins σ H s→CX X.stack H s E e s'→X.xe e s'
section
variable {X:Cx}{CX:CXT}{k:Nat}{f C:Addr}{fd:FuncData}{ps:List Str}{sp:Sp}{dvs:List V}{ds:List Value}{E:XK}{x m:Str}{p pos apos:Pos}{e o:Expr}{es:List Expr}{ta:TE}{t:TA}
theorem QlG {pins:List (Addr×Obj)}{σ:St}{H:Hp}{s:Shared}{Q:VK}{us:List Value}{vs:List V} (F:Qbp X.prog X.w X.K X.mg X.base CX k f fd ps sp) (hr:QaG k X.A) (hb:Binds X.K fd ps ds) (hd:Qax dvs ds) (hx:QeJ CX X E)
  (I:Inv X pins σ H s) (r:Qax vs us) (h:sp (vs++dvs) H Q E):wpAny (model X.prog X.w) X.A (call (.ref f) us) (EP X pins σ Q) X.xe s:=by
 have r2:Qax (vs++dvs) (us++ds):=r.append hd
 have hl:(us++ds).length=ps.length:=by rw [←r2.length]; exact F.len _ _ _ _ h
 refine zU (codeAny_mono (F.run X.A X.stack s H ⟨us,[]⟩ (us++ds) (vs++dvs) Q E hr I.env0 (hb s us I.kIn hl) r2 h) fun r s' hq=>?_)
 cases r with
 | error e=>exact hx pins σ H s e s' I hq
 | ok fl =>
  cases fl with
  | ret u=>exact I.after hq
  | next=>exact False.elim hq
  | brk=>exact False.elim hq
  | cont=>exact False.elim hq
theorem QmI (F:Qbp X.prog X.w X.K X.mg X.base CX k f fd ps sp) (hr:QaG k X.A) (hg:Gl X x) (hm:X.mg x=some (.ref f)) (hk:PySem.W.keepIn X.K (.ref f)=true) (hb:Binds X.K fd ps ds) (hd:Qax dvs ds) (hx:QeJ CX X E)
  (ha:PA X (e::es) t) (hdb:(x == ("__debug__":Str))=false:=by decide) (he:starEach (e::es) X.env=(false,eval e X.env)::starEach es X.env:=by rfl) (hpl:(backTo pos (starEach es X.env)).any (·.1)=false:=by rfl) :
  PE X (.Call (.Name x p) (e::es) [] pos) (QkG sp dvs E t):=by
 intro pins s σ H Q I h;refine wpAny_Call_Name_kw (QfC I hg hm ?_ hdb);refine PySem.W.callWith_K (h₀:=X.base) I.ok.mod.kin hk (thn (ha pos pins s σ H _ I h) fun us s1 ⟨vs,H1,I1,r,q⟩=>⟨I1.kIn,?_⟩) he hpl;exact QlG F hr hb hd hx I1 r q
theorem Qrc {pl:Sem Bool} (he:PE X o ta) (c:Cls X.K C) (hm:Qiy X.K C m f) (F:Qbp X.prog X.w X.K X.mg X.base CX k f fd ps sp) (hr:QaG k X.A) (hb:Binds X.K fd ps ds) (hd:Qax dvs ds) (hx:QeJ CX X E) (ha:PA X (e::es) t)
  (hst:starEach (e::es) X.env=(false,eval e X.env)::starEach es X.env:=by rfl) (hpl:(backTo pos (starEach es X.env)).any (·.1)=false:=by rfl)
  (ht:eval (.Call (.Attribute o m apos) (e::es) [] pos) X.env=(do
   let ov ←eval o X.env
   standAt apos.atName
   let (f,first) ←holding [ov] (getMethod ov m pl)
   callWith pos f first (backTo pos (starEach (e::es) X.env)) (backToKw pos (keywordEach [] X.env))):=by rfl) :
  PE X (.Call (.Attribute o m apos) (e::es) [] pos) (Qnf C m sp dvs E ta t):=by
 intro pins s σ H Q I h;refine PySem.W.methodCall_KW (pl:=pl) (thn (he pins s σ H _ I h) fun u s1 ⟨x,H1,I1,rx,a,dx,fs,ex,ea,l,q⟩=>?_) ht;subst ex;obtain rfl:u=Value.ref a:=rx;refine QgO I1 ea c hm l ?_;refine PySem.W.callWith_K (first:=[.ref a]) (h₀:=X.base) I.ok.mod.kin hm.kp (thn (ha pos pins s1 σ H1 _ I1 q) fun us s2 ⟨vs,H2,I2,r,q2⟩=>⟨I2.kIn,?_⟩) hst hpl;exact QlG (us:=.ref a::us) (vs:=.ref a::vs) F hr hb hd hx I2 (.cons rfl r) q2
theorem Qqq {pl:Sem Bool} (he:PE X o ta) (c:Cls X.K C) (hm:Qiy X.K C m f) (F:Qbp X.prog X.w X.K X.mg X.base CX k f fd ps sp) (hr:QaG k X.A) (hb:Binds X.K fd ps ds) (hd:Qax dvs ds) (hx:QeJ CX X E)
  (ht:eval (.Call (.Attribute o m apos) [] [] pos) X.env=(do
   let ov ←eval o X.env
   standAt apos.atName
   let (f,first) ←holding [ov] (getMethod ov m pl)
   callWith pos f first (backTo pos (starEach [] X.env)) (backToKw pos (keywordEach [] X.env))):=by rfl) :
  PE X (.Call (.Attribute o m apos) [] [] pos) (Qnf C m sp dvs E ta Qum):=by
 intro pins s σ H Q I h;refine PySem.W.methodCall_KW (pl:=pl) (thn (he pins s σ H _ I h) fun u s1 ⟨x,H1,I1,rx,a,dx,fs,ex,ea,l,q⟩=>?_) ht;subst ex;obtain rfl:u=Value.ref a:=rx;refine QgO I1 ea c hm l ?_;exact PySem.W.callWith_K0 (first:=[.ref a]) I1.kIn hm.kp (QlG (us:=[.ref a]) (vs:=[.ref a]) F hr hb hd hx I1 (.cons rfl .nil) q)
structure Mk (K:PySem.W.Frag) (C f:Addr):Prop where
 makes:PySem.W.makesIn K C=true
 init:PySem.W.findIn K (.ref C) "__init__" = some (some (.ref f))
 fn:PySem.W.isFn K (.ref f)=true
 kp:PySem.W.keepIn K (.ref C)=true
theorem Qqo {pins:List (Addr×Obj)}{σ:St}{H:Hp}{s:Shared}{Q:VK}{us:List Value}{vs:List V} (M:Mk X.K C f) (F:Qbp X.prog X.w X.K X.mg X.base CX k f fd ps sp) (hr:QaG (k+1) X.A) (hb:Binds X.K fd ps ds) (hd:Qax dvs ds)
  (hx:QeJ CX X E) (I:Inv X pins σ H s) (r:Qax vs us)
  (h:∀x dx,H x=none→H dx=none→dx≠x→sp (.ref x::(vs++dvs)) (upd (upd H dx (.own x)) x (.ins C dx [])) (fun v H2=>v = .non∧Q (.ref x) H2) E) :
  wpAny (model X.prog X.w) X.A (call (.ref C) us) (EP X pins σ Q) X.xe s:=by
 have hq:=h (s.heap.objs.size+1) s.heap.objs.size (I.hok.fresh (Nat.le_succ _)) (I.hok.fresh (ze _)) (zq (jj _));have I2:=Inv.made (C:=C) I;have r2:Qax (V.ref (s.heap.objs.size+1)::(vs++dvs)) (Value.ref (s.heap.objs.size+1)::(us++ds)):=.cons rfl (r.append hd)
 have hl:(Value.ref (s.heap.objs.size+1)::us++ds).length=ps.length:=by
  have e:=r2.length;rw [F.len _ _ _ _ hq] at e;exact e.symm
 refine zU (Qql (f:=f) I.kIn M.makes M.init (beq_iff_eq.mp M.fn) (codeAny_mono (F.run _ X.stack _ _ ⟨Value.ref (s.heap.objs.size+1)::us,[]⟩ (Value.ref (s.heap.objs.size+1)::(us++ds)) _ _ E (hr.make C us [])
  (I2.env0.make C us []) (hb _ (Value.ref (s.heap.objs.size+1)::us) I2.kIn hl) r2 hq) fun r s' hq'=>?_))
 cases r with
 | error e=>exact hx pins σ _ _ e s' I2 hq'
 | ok fl =>
  cases fl with
  | ret u =>
   obtain ⟨v,H',I3,rv,ev,q3⟩:=I2.after hq';subst ev;exact ⟨rv,⟨V.ref (s.heap.objs.size+1),H',I3,rfl,q3⟩⟩
  | next=>exact False.elim hq'
  | brk=>exact False.elim hq'
  | cont=>exact False.elim hq'
theorem Qrg (M:Mk X.K C f) (F:Qbp X.prog X.w X.K X.mg X.base CX k f fd ps sp) (hr:QaG (k+1) X.A) (hg:Gl X x) (hm:X.mg x=some (.ref C)) (hb:Binds X.K fd ps ds) (hd:Qax dvs ds) (hx:QeJ CX X E)
  (ha:PA X (e::es) t) (hdb:(x == ("__debug__":Str))=false:=by decide) (he:starEach (e::es) X.env=(false,eval e X.env)::starEach es X.env:=by rfl) (hpl:(backTo pos (starEach es X.env)).any (·.1)=false:=by rfl) :
  PE X (.Call (.Name x p) (e::es) [] pos) (QqM C sp dvs E t):=by
 intro pins s σ H Q I h;refine wpAny_Call_Name_kw (QfC I hg hm ?_ hdb);refine PySem.W.callWith_K (h₀:=X.base) I.ok.mod.kin M.kp (thn (ha pos pins s σ H _ I h) fun us s1 ⟨vs,H1,I1,r,q⟩=>⟨I1.kIn,?_⟩) he hpl;exact Qqo M F hr hb hd hx I1 r q
end
section
variable {X:Cx}{CX:CXT}{k:Nat}{f C:Addr}{fd:FuncData}{ps ks:List Str}{sp:Sp}{E:XK}{x m:Str}{p pos apos kpos:Pos}{e o:Expr}{es:List Expr}{kws:List Keyword}{te ta:TE}{t tk:TA}{nm:Option Str}
structure QxW (K:PySem.W.Frag) (fd:FuncData) (ps ks:List Str) (g:List Value→List Value→List Value) (gV:List V→List V→List V):Prop where
 to:∀(s:Shared) (us ws:List Value),K.In s.heap→(g us ws).length=ps.length→BindsTo s fd ⟨us,ks.zip ws⟩ (ps.zip (g us ws))
 rel:∀{vs:List V}{us:List Value}{zs:List V}{ws:List Value},Qax vs us→Qax zs ws→Qax (gV vs zs) (g us ws)
variable {g:List Value→List Value→List Value}{gV:List V→List V→List V}
end
structure QaI (N P:List Str) (sc:Scope):Prop where
 kind:sc.kind = .function
 co:sc.isCoroutine=false
 gen:sc.isGenerator=false
 nd:N.Nodup
 pre:N.take P.length=P
 par:∀x∈P,sc.names.lookup x=some .local∨sc.names.lookup x=some .cell
 nofree:∀y∈sc.names,y.2≠.free
theorem Qke {kindOf:Str→Option NameKind}{x:Str}:∀{binds:List (Str×Value)}{m:Str→Option Value},(∀v,(x,v)∉binds)→bindL kindOf binds m x=m x
 | [],_,_=>rfl
 | (n,v)::r,m,h=>by
  unfold bindL;rw [Qke fun w hw=>h w (zw _ hw)]
  split
  ·have:x≠n:=by rintro rfl; exact h v zz
   simp [this]
  ·rfl
theorem Qkk {kindOf:Str→Option NameKind}{x:Str}:∀{binds:List (Str×Value)}{m:Str→Option Value},(∀v,(x,v)∉binds)→bindC kindOf binds m x=m x
 | [],_,_=>rfl
 | (n,v)::r,m,h=>by
  unfold bindC;rw [Qkk fun w hw=>h w (zw _ hw)]
  split
  ·rfl
  ·have:x≠n:=by rintro rfl; exact h v zz
   simp [this]
theorem Qkm {kindOf:Str→Option NameKind}{x:Str}{v:Value}:∀{P:List Str}{vs:List Value}{i:Nat}{m:Str→Option Value},P.Nodup→P[i]? = some x→vs[i]? = some v→kindOf x=some .local →
  bindL kindOf (P.zip vs) m x=some v
 | [],_,_,_,_,h,_,_=>by simp at h
 | _::_,[],_,_,_,_,h,_=>by simp at h
 | p::P,w::vs,0,m,nd,h1,h2,hk=>by
  simp at h1 h2; subst h1; subst h2
  show bindL kindOf ((p,w)::P.zip vs) m p=_;unfold bindL;rw [Qke fun v hv=>(List.nodup_cons.mp nd).1 (List.of_mem_zip hv).1,if_pos hk];simp
 | p::P,w::vs,i+1,m,nd,h1,h2,hk=>by
  show bindL kindOf ((p,w)::P.zip vs) m x=_;unfold bindL;exact Qkm (i:=i) (List.nodup_cons.mp nd).2 (by simpa using h1) (by simpa using h2) hk
theorem Qkd {kindOf:Str→Option NameKind}{x:Str}{v:Value}:∀{P:List Str}{vs:List Value}{i:Nat}{m:Str→Option Value},P.Nodup→P[i]? = some x→vs[i]? = some v→kindOf x≠some .local →
  bindC kindOf (P.zip vs) m x=some v
 | [],_,_,_,_,h,_,_=>by simp at h
 | _::_,[],_,_,_,_,h,_=>by simp at h
 | p::P,w::vs,0,m,nd,h1,h2,hk=>by
  simp at h1 h2; subst h1; subst h2
  show bindC kindOf ((p,w)::P.zip vs) m p=_;unfold bindC;rw [Qkk fun v hv=>(List.nodup_cons.mp nd).1 (List.of_mem_zip hv).1,if_neg hk];simp
 | p::P,w::vs,i+1,m,nd,h1,h2,hk=>by
  show bindC kindOf ((p,w)::P.zip vs) m x=_;unfold bindC;exact Qkd (i:=i) (List.nodup_cons.mp nd).2 (by simpa using h1) (by simpa using h2) hk
def start (N:List Str) (vs:List V):St:=vs.map some++List.replicate (N.length - vs.length) none
def Qcy (CX:CXT) (P:Program) (w:World) (K:PySem.W.Frag) (mg:Str→Option Value) (base:Heap) (N:List Str) (qual:Str) (scope:Scope) (f:Addr) (cd:Value) (A:Around) (outer:List Env) (s:Shared) (H:Hp) (E:XK):Cx where
 prog:=P
 w:=w
 K:=K
 mg:=mg
 base:=base
 A:=A.deeper (envOfC qual scope s.heap.objs.size f cd)
 N:=N
 s₀:=s
 H₀:=H
 env:=envOfC qual scope s.heap.objs.size f cd
 outer:=outer
 stack:=envOfC qual scope s.heap.objs.size f cd::outer
 ex:=[]
 calm:=true
 fn:=fun _=>true
 pn:=[]
 xe:=fun e s'=>wpAny (model P w) (A.deeper (envOfC qual scope s.heap.objs.size f cd)) (leaving (envOfC qual scope s.heap.objs.size f cd) e) (fun _ s''=>CX outer H s E e s'') (fun e' s''=>CX outer H s E e' s'') s'
theorem QkW {sc:Scope}{n:Nat}{x:Str} (h:sc.names.lookup x=some .cell):∃c,(cellsFrom n sc.names []).lookup x=some c:=by
 have q:=PySem.W.cellsFrom_some sc.names n [] (.inl h);exact Option.isSome_iff_exists.mp q
theorem Qpg {CX:CXT}{P:Program}{w:World}{K:PySem.W.Frag}{mg:Str→Option Value}{base:Heap}{N ps:List Str}{qual:Str}{scope:Scope}{f:Addr}{cd:Value}{A:Around}{outer:List Env}{s s1:Shared}{H:Hp}{E:XK}{us:List Value}{vs:List V}
  (S:QaI N ps scope) (hd:A.handled=none) (e0:Qe0 P w K mg base A outer s H) (hl:vs.length=ps.length) (r:Qax vs us)
  (x:InCallC s s.heap.objs.size (bindL (envOfC qual scope s.heap.objs.size f cd).kindOf (ps.zip us) fun _=>none) (cellsFrom (s.heap.objs.size+1) scope.names []) (bindC (envOfC qual scope s.heap.objs.size f cd).kindOf (ps.zip us) fun _=>none) s1) :
  Inv (Qcy CX P w K mg base N qual scope f cd A outer s H E) [] (start N vs) H s1:=by
 have hpl:ps.length≤N.length:=by have:=congrArg List.length S.pre; rw [List.length_take] at this; omega
 obtain ⟨h1,tk,rfl,hk⟩:=x.done
 have noA:∀b:Addr,b∉(Qcy CX P w K mg base N qual scope f cd A outer s H E).ex:=fun b z=>absurd (show b∈([]:List Addr) from z) (by simp)
 refine ⟨⟨e0.mod,S.kind,rfl,rfl,ze _,fun y z c h1 h2=>?_,fun y hy=>?_,fun y c _ h=>?_,fun _=>hd,Around.frames_deeper e0.frames,.inr ⟨rfl,rfl⟩,fun b z=>absurd z (noA b),e0.bs,e0.bsz,fun b _ _=>noA b,fun b z=>absurd z (noA b),e0.funs,e0.frf⟩,
  rfl,e0.bare,Un.kept hk,⟨_,x.toInCall.ns,fun i y v h1 h2 h3=>?_⟩,fun y c h=>⟨_,x.cell y c h⟩,e0.hok.fresh (ze _),fun y c h=>?_,fun p hp=>absurd (show p∈([]:List (Addr×Obj)) from hp) (by simp),e0.hok.kept hk,?_⟩
 ·exact name_of_addr x.apart (PySem.mem_of_lookup h1) (PySem.mem_of_lookup h2)
 ·have hy:scope.names.lookup y=some .cell∨scope.names.lookup y=some .free:=hy
  rcases hy with hy | hy
  ·exact QkW hy
  ·exact absurd rfl (S.nofree _ (PySem.mem_of_lookup hy))
 ·exact Nat.le_of_lt (x.above y c (PySem.mem_of_lookup h))
 ·have hi:i < vs.length:=by
   unfold start at h2
   by_cases hi:i < vs.length
   ·exact hi
   ·rw [zE (by simpa using hi)] at h2;rw [List.getElem?_replicate] at h2
    split at h2 <;> cases h2
  have ha:vs[i]? = some v:=by
   unfold start at h2;rw [zy (by simpa using hi),zG] at h2
   cases e:vs[i]? with
   | none=>rw [e] at h2; cases h2
   | some a=>rw [e] at h2; cases h2; rfl
  obtain ⟨u,hu,rv⟩:=r.get ha
  have hp:ps[i]? = some y:=by
   rw [←S.pre,List.getElem?_take_of_lt (by omega)]; exact h1
  have ndP:ps.Nodup:=by rw [←S.pre]; exact S.nd.sublist (List.take_sublist _ _)
  refine ⟨u,rv,?_⟩
  rcases S.par y (zR hp) with k | k
  ·exact .inl ⟨k,Qkm ndP hp hu k⟩
  ·obtain ⟨c,e⟩:=QkW (n:=s.heap.objs.size+1) k;refine .inr ⟨.inl k,c,e,?_⟩;have q:=x.cell y c e;rw [Qkd ndP hp hu (by show scope.names.lookup y≠_; rw [k]; decide)] at q;exact q
 ·exact e0.hok.fresh (Nat.le_of_lt (x.above y c (PySem.mem_of_lookup h)))
 ·unfold start;show _=N.length;rw [zF,zp,List.length_replicate];omega
theorem Qns {CX:CXT}{P:Program}{w:World}{K:PySem.W.Frag}{mg:Str→Option Value}{base:Heap}{k:Nat}{f:Addr}{name qual:Str}{params:Arguments}{body:List Stmt}{scope:Scope}{dV kV doc pm cdv ct oc:Value}{an od:Option Addr}
  {osl:Array (Option Value)}{N ps:List Str}{sp:Sp} (lk:K.lookup f=some ⟨oc,od,.func (PySem.W.fnOf name qual params body scope dV kV doc pm an cdv ct),osl⟩) (hcd:PySem.W.codeIn K cdv qual=true) (S:QaI N ps scope)
  (len:∀vs H Q E,sp vs H Q E→vs.length=ps.length)
  (hbody:∀(A:Around) (outer:List Env) (s:Shared) (H:Hp) (vs:List V) (Q:VK) (E:XK),QaG k (A.deeper (envOfC qual scope s.heap.objs.size f cdv))→sp vs H Q E →
   ∃t,PSs (Qcy CX P w K mg base N qual scope f cdv A outer s H E) body t∧t { nx:=fun _ H'=>Q .non H',rt:=Q } (start N vs) H) :
  Qbp P w K mg base CX (k+1) f (PySem.W.fnOf name qual params body scope dV kV doc pm an cdv ct) ps sp:=by
 refine ⟨len,fun A outer s H args us vs Q E hr e0 hb r hsp=>?_⟩;have hl:=len _ _ _ _ hsp
 have KX:K.In s.heap:=e0.mod.kin.keeps fun b o e=>(e0.bs b o e).1
 have lim:s.heap.NoLimit:=e0.mod.nolimit.keeps fun b o e=>(e0.bs b o e).1
 have hkind:∀y∈ps.zip us,scope.names.lookup y.1=some .local∨(scope.names.lookup y.1=some .cell∧((cellsFrom (s.heap.objs.size+1) scope.names []).lookup y.1).isSome=true):=fun ⟨n,v⟩ hy=>by
  rcases S.par n (List.of_mem_zip hy).1 with q | q
  ·exact .inl q
  ·exact .inr ⟨q,PySem.W.cellsFrom_some _ _ _ (.inl q)⟩
 refine codeAny_call_function hr.depth (KX _ _ lk) rfl S.co S.gen rfl (PySem.W.codeRec_of KX hcd) (hb _ _ _ _ ?_)
 refine wpAny_newFunctionEnv_cells S.kind hkind fun env he s1 x=>?_
 subst he;refine ⟨lim.keeps x.toInCall.keep,codeAny_func ?_⟩;obtain ⟨t,ht,hq⟩:=hbody A outer s H vs Q E (hr.deeper _) hsp;have I:Inv (Qcy CX P w K mg base N qual scope f cdv A outer s H E) [] (start N vs) H s1:=Qpg S hr.hd e0 hl r x
 refine zr (ht [] s1 (start N vs) H _ I hq) (fun fl s' hs=>?_) fun e s' hs=>hs
 have fin:∀{σ':St}{H':Hp}{v:V}{u:Value},Inv (Qcy CX P w K mg base N qual scope f cdv A outer s H E) [] σ' H' s'→RelV v u→Q v H'→CE outer P w H s Q u s' :=
  fun {σ' H' v u} J rv q=>⟨v,H',J.os,J.bare,J.base,J.hok,rv,q⟩
 cases fl with
 | ret u =>
  obtain ⟨v,σ',H',J,rv,q⟩:=hs;exact fin J rv q
 | next =>
  obtain ⟨σ',H',J,q⟩:=hs;exact fin (v:=V.non) (u:=Value.none) J rfl q
 | brk =>
  obtain ⟨_,_,_,q⟩:=hs;exact False.elim q
 | cont =>
  obtain ⟨_,_,_,q⟩:=hs;exact False.elim q
section
variable {X:Cx}{x:Str}{p pos:Pos}{e:Expr}{es:List Expr}{t:TA}{id T:String}{r:List V→Hp→VK→Prop}
def tCB (r:List V→Hp→VK→Prop) (t:TA):TE:=fun σ H Q=>t σ H fun vs H1=>r vs H1 Q
theorem QgW (hc:Qc5 X (.builtin id) r) (hg:Gl X x) (hm:X.mg x=none) (hv:bootBuiltins x=some (.builtin id)) (ha:PA X (e::es) t) (hn:x≠"__name__":=by decide) (hdb:(x == ("__debug__":Str))=false:=by decide)
  (he:starEach (e::es) X.env=(false,eval e X.env)::starEach es X.env:=by rfl) (hpl:(backTo pos (starEach es X.env)).any (·.1)=false:=by rfl):PE X (.Call (.Name x p) (e::es) [] pos) (tCB r t):=by
 intro pins s σ H Q I h;refine wpAny_Call_Name_kw (Qgw I hg hm hv ?_ hn hdb);exact PyProof.Rows.callWith_builtin1 (thn (ha pos pins s σ H _ I h) fun us s1 ⟨vs,H1,I1,r1,q1⟩=>hc pins s1 σ H1 vs us Q I1 r1 q1) he hpl
theorem Qkl (hc:Qc5 X (.type T) r) (hg:Gl X x) (hm:X.mg x=none) (hv:bootBuiltins x=some (.type T)) (ha:PA X (e::es) t) (hn:x≠"__name__":=by decide) (hdb:(x == ("__debug__":Str))=false:=by decide)
  (he:starEach (e::es) X.env=(false,eval e X.env)::starEach es X.env:=by rfl) (hpl:(backTo pos (starEach es X.env)).any (·.1)=false:=by rfl):PE X (.Call (.Name x p) (e::es) [] pos) (tCB r t):=by
 intro pins s σ H Q I h;refine wpAny_Call_Name_kw (Qgw I hg hm hv ?_ hn hdb);exact PyProof.Rows.callWith_type1 (thn (ha pos pins s σ H _ I h) fun us s1 ⟨vs,H1,I1,r1,q1⟩=>hc pins s1 σ H1 vs us Q I1 r1 q1) he hpl
end
end L2
namespace HT
open PySem PyProof.Rows
section
open PySem.SeqAt
open PySem.AutoSeq1 (wpAny_loadPart')
open PySem.MeetsSeq PySem.MeetsSeq2 PySem.MeetsSeq3
end
section
variable {prog:Program}{w:World}{A:Around}{E:Value→Shared→Prop}{s:Shared}
theorem cat_tup {t b:Addr}{vs ws:List Value}{Q:Value→Shared→Prop} (ht:IsTup s.heap t vs.toArray) (hb:IsTup s.heap b ws.toArray) (hv:vs≠[])
  (h1:ws = []→Q (.ref t) s) (h2:ws≠[]→Q (.ref s.heap.objs.size) { s with heap:=s.heap.push { cls:=.type "tuple",data:=.seq (vs++ws).toArray } })
  (hsz:vs.length+ws.length≤sizeLine):wpAny (model prog w) A (binaryOp .Add (.ref t) (.ref b)) Q E s:=by
 obtain ⟨⟨cls,dd,data,sl⟩,ho,hc,n,hd⟩:=id ht;obtain ⟨⟨cls2,dd2,data2,sl2⟩,ho2,hc2,n2,hd2⟩:=id hb;simp only at hc hd hc2 hd2;subst hc hd hc2 hd2
 have e:vs.toArray++ws.toArray=(vs++ws).toArray:=by simp
 by_cases hw:ws = []
 ·exact concat_meets ⟨_,ho,rfl⟩ ⟨_,ho2,rfl⟩ noFill_tuple_add seq_tuple_add PySem.F.slot_tuple_add PySem.F.entry_tuple_add (PySem.F.args_tuple_add_2 _ _)
   (tuple_addW1 t b vs.toArray ws.toArray n n2 dd dd2 sl sl2 (by simpa using hv) (by simp [hw])) ⟨ho,ho2,h1 hw⟩
 ·refine concat_meets ⟨_,ho,rfl⟩ ⟨_,ho2,rfl⟩ noFill_tuple_add seq_tuple_add PySem.F.slot_tuple_add PySem.F.entry_tuple_add (PySem.F.args_tuple_add_2 _ _)
   (tuple_addW2 t b vs.toArray ws.toArray n n2 dd dd2 sl sl2 (by simpa using hv) (by simpa using hw) (by rw [zu,zu]; exact hsz)) ⟨ho,ho2,?_⟩
  rw [e];exact h2 hw
def sIx (n d:Nat):Option Int→Nat
 | none=>d
 | some v=>if v < 0 then (v+(n:Int)).toNat else min v.toNat n
theorem sIx_none (n d:Nat):sIx n d none=d:=rfl
theorem sIx_nat (n d k:Nat):sIx n d (some (k:Int))=min k n:=by
 show (if (k:Int) < 0 then ((k:Int)+(n:Int)).toNat else min (k:Int).toNat n)=min k n;rw [if_neg (by omega),Int.toNat_natCast]
theorem sIx_le (n d:Nat) (hd:d≤n) (o:Option Int):sIx n d o≤n:=by
 cases o with
 | none=>exact hd
 | some v =>
  show (if v < 0 then (v+(n:Int)).toNat else min v.toNat n)≤n
  by_cases hv:v < 0
  ·rw [if_pos hv]; omega
  ·rw [if_neg hv]; exact Nat.min_le_right _ _
theorem QmL (v:Int) (n d:Nat):(if v < 0 then max (v+(n:Int)) 0 else min v (n:Int))=((sIx n d (some v):Nat):Int):=by
 show (if v < 0 then max (v+(n:Int)) 0 else min v (n:Int))=(((if v < 0 then (v+(n:Int)).toNat else min v.toNat n):Nat):Int)
 by_cases hv:v < 0
 ·simp only [if_pos hv]; omega
 ·simp only [if_neg hv]; omega
theorem Qna (lo hi:Option Int) (n:Nat):Builtin.Slice.sliceAdjust lo hi 1 (n:Int)=(((sIx n 0 lo:Nat):Int),((sIx n n hi:Nat):Int)):=by
 have h1:¬((1:Int) < 0):=by omega
 unfold Builtin.Slice.sliceAdjust;simp only [h1,if_false];refine Prod.ext ?_ ?_
 ·cases lo with
  | none=>rfl
  | some v=>exact QmL v n 0
 ·cases hi with
  | none=>rfl
  | some v=>exact QmL v n n
theorem Qnt (i j:Nat):Builtin.Slice.slicePlaces (i:Int) (j:Int) 1=j - i:=by
 unfold Builtin.Slice.slicePlaces
 have h1:(1:Int) > 0:=by omega
 simp only [h1,if_true,Int.ediv_one]
 split <;> omega
theorem Qjf {v:Value}{o:Option Int}{Q:Option Int→Shared→Prop} (p:IsPart v o) (h:Q o s):wpAny (model prog w) A (Builtin.Slice.slicePartIndex v) Q E s:=by
 cases p with
 | none=>exact slicePart_none h
 | int i t=>exact slicePart_int h
theorem sliceApplied_gen {sl:Addr}{vl vu:Value}{lo hi:Option Int}{n:Nat}{Q:Int×Int×Nat→Shared→Prop} (hs:s.heap.IsSliceOf sl vl vu .none) (pl:IsPart vl lo) (pu:IsPart vu hi)
  (h:Q (((sIx n 0 lo:Nat):Int),1,sIx n n hi - sIx n 0 lo) s):wpAny (model prog w) A (Builtin.Slice.sliceApplied (.ref sl) (pure (n:Int))) Q E s:=by
 obtain ⟨os,hos,hcs,hds⟩:=id hs;unfold Builtin.Slice.sliceApplied Builtin.Slice.sliceFields;refine zc (zc (wpAny_field hos hds (x:=vl) rfl (zc (wpAny_field hos hds (x:=vu) rfl (zc (wpAny_field hos hds (x:=.none) rfl (zd ?_)))))));refine zc (slicePart_none ?_);show wpAny _ _ (if ((1:Int) == 0)=true then _ else _) _ _ s;rw [if_neg (by decide)];refine zc (Qjf pl (zc (Qjf pu (zc (zd ?_)))));show wpAny _ _ (match Builtin.Slice.sliceAdjust lo hi 1 (n:Int) with | (lo,hi)=>pure (lo,(1:Int),Builtin.Slice.slicePlaces lo hi 1)) _ _ s;rw [Qna lo hi n];show wpAny _ _ (pure (((sIx n 0 lo:Nat):Int),(1:Int),Builtin.Slice.slicePlaces ((sIx n 0 lo:Nat):Int) ((sIx n n hi:Nat):Int) 1)) _ _ s
 rw [Qnt];exact zd h
theorem Qqv (xs:Array Value) (i k:Nat):((List.range k).filterMap fun (m:Nat)=>xs[((i:Int)+(m:Int) * 1).toNat]?).toArray=((xs.toList.drop i).take k).toArray:=by
 have e:(fun (m:Nat)=>xs[((i:Int)+(m:Int) * 1).toNat]?)=fun m=>xs[i+m]?:=by
  funext m
  have:((i:Int)+(m:Int) * 1).toNat=i+m:=by omega
  rw [this]
 rw [e]
 have:=pick_run xs i k
 rw [List.filterMap_map] at this
 have e2:((fun x=>xs[x]?) ∘ fun x=>i+x)=fun m=>xs[i+m]?:=rfl
 rw [e2] at this;rw [this]
theorem getItem_tuple_cut {t sl:Addr}{items:Array Value}{vl vu:Value}{lo hi:Option Int}{Q:Value→Shared→Prop} (ht:IsTup s.heap t items) (hs:s.heap.IsSliceOf sl vl vu .none) (pl:IsPart vl lo) (pu:IsPart vu hi)
  (hw:¬(sIx items.size 0 lo=0∧sIx items.size items.size hi=items.size))
  (h:Q (.ref s.heap.objs.size) { s with heap:=s.heap.push { cls:=.type "tuple",data:=.seq ((items.toList.drop (sIx items.size 0 lo)).take (sIx items.size items.size hi - sIx items.size 0 lo)).toArray } })
  (hsz:items.size≤sizeLine):wpAny (model prog w) A (getItem (.ref t) (.ref sl)) Q E s:=by
 have htake:sizeOk (.seq ((items.toList.drop (sIx items.size 0 lo)).take (sIx items.size items.size hi - sIx items.size 0 lo)).toArray):=by
  show ((items.toList.drop (sIx items.size 0 lo)).take (sIx items.size items.size hi - sIx items.size 0 lo)).toArray.size≤sizeLine;rw [zu,List.length_take,List.length_drop,Array.length_toList];omega
 have hj:sIx items.size items.size hi≤items.size:=sIx_le _ _ (ze _) hi;obtain ⟨os,hos,hcs,hds⟩:=id hs;have hTs:s.TypeIs (.ref sl) "slice":=⟨os,hos,hcs⟩;unfold getItem
 try with_reducible refine zK ?_
 first | refine zc (zd ?_) | skip
 refine zc (wpAny_sequenceKey ht.typeIs (by decide) ?_)
 refine zc (wpAny_callSpecial?_slot (name:=Str.ofString "__getitem__") ht.typeIs PyProof.Rows.slot_tuple_getitem
  (wpAny_call_entry PyProof.Rows.slot_tuple_getitem ht.typeIs entry_tuple_getitem ?_ (args_tuple_getitem _ _)))
 show wpAny _ _ (Builtin.Tuple.tupleItemsOf (.ref t) >>= _) _ _ s;refine zc (tupleItemsOf_ ht ?_);refine zc (wpAny_typeOf hTs ?_);rw [if_pos (by decide)];refine zc (sliceApplied_gen hs pl pu ?_)
 have hno:¬((((sIx items.size 0 lo:Nat):Int) == 0&&(1:Int) == 1&&(sIx items.size items.size hi - sIx items.size 0 lo) == items.size)=true):=by
  intro q;rw [zk,zk] at q;have q1:((sIx items.size 0 lo:Nat):Int)=0:=eq_of_beq q.1.1;have q2:sIx items.size items.size hi - sIx items.size 0 lo=items.size:=eq_of_beq q.2;exact hw ⟨by omega,by omega⟩
 show wpAny _ _ (if (((sIx items.size 0 lo:Nat):Int) == 0&&(1:Int) == 1&&(sIx items.size items.size hi - sIx items.size 0 lo) == items.size)=true then _ else _) _ _ s;rw [if_neg hno,Qqv]
 first
  | exact zc (m:=Builtin.Tuple.tupleExact _) (wpAny_newObj_type (zd ⟨_,rfl,zd h⟩) htake)
  | exact zc (m:=Builtin.Tuple.tupleExact _) (wpAny_newObj_type (zc (zd (zd ⟨_,rfl,zd h⟩))) htake)
  | exact zc (zc (m:=Builtin.Tuple.tupleExact _) (wpAny_newObj_type (zd (zd ⟨_,rfl,zd h⟩)) htake))
  | exact zc (zc (m:=Builtin.Tuple.tupleExact _) (wpAny_newObj_type (zd ⟨_,rfl,zd h⟩) htake))
end
end HT
namespace L2
open PySem PySem.Spec PyProof.Rows
abbrev TO:=St→Hp→(Option Int→Hp→Prop)→Prop
def PO (X:Cx) (e:Option Expr) (t:TO):Prop :=
 ∀(pins:List (Addr×Obj)) (s:Shared) (σ:St) (H:Hp) (Q:Option Int→Hp→Prop),Inv X pins σ H s→t σ H Q →
  wpAny (model X.prog X.w) X.A (evalPart e X.env) (fun u s'=>∃o H',Inv X pins σ H' s'∧IsPart u o∧Q o H') X.xe s
def Qsf:TO:=fun _ H Q=>Q none H
def Qu8 (t:TE):TO:=fun σ H Q=>t σ H fun x H1=>∃i,x = .int i∧Q (some i) H1
theorem intsAre_of {ns:List Int}:∀{us:List Value},Qax (ns.map V.int) us→IntsAre us ns:=by
 induction ns with
 | nil=>intro us r; rw [zY] at r; cases r; exact .nil
 | cons n ns ih =>
  intro us r;rw [zg] at r
  cases r with
  | cons r1 r2 =>
   obtain ⟨t,e⟩:=r1;subst e;exact .cons n t (ih r2)
section
variable {X:Cx}{e:Expr}{te:TE}{lo hi:Option Expr}{tl th:TO}{pos p2:Pos}
theorem Qr5:PO X none Qsf:=by
 intro pins s σ H Q I h;rw [evalPart_none];exact zd ⟨none,H,I,.none,h⟩
theorem Qsx (h:PE X e te):PO X (some e) (Qu8 te):=by
 intro pins s σ H Q I hw;rw [evalPart_some]
 refine thn (h pins s σ H _ I hw) fun u s1 ⟨x,H1,I1,r1,q1⟩=>?_
 obtain ⟨i,rfl,q⟩:=q1;obtain ⟨t,rfl⟩:=r1;exact ⟨some i,H1,I1,.int i t,q⟩
def SlR (X:Cx) (r:V→Option Int→Option Int→Hp→VK→Prop):Prop :=
 ∀(pins:List (Addr×Obj)) (s:Shared) (σ:St) (H:Hp) (x:V) (v vl vu:Value) (lo hi:Option Int) (sl:Addr) (Q:VK),Inv X pins σ H s→RelV x v→s.heap.IsSliceOf sl vl vu .none→IsPart vl lo→IsPart vu hi→r x lo hi H Q →
  ∃T id,typeLookup (.type T) "__getitem__" = pure (some (.builtin id))∧s.TypeIs v T∧wpAny (model X.prog X.w) X.A (getItem v (.ref sl)) (EP X pins σ Q) X.xe s
def tSl (r:V→Option Int→Option Int→Hp→VK→Prop) (te:TE) (tl th:TO):TE:=fun σ H Q=>te σ H fun x H1=>tl σ H1 fun l H2=>th σ H2 fun u H3=>r x l u H3 Q
theorem Qqk {r:V→Option Int→Option Int→Hp→VK→Prop} (hr:SlR X r) (he:PE X e te) (hl:PO X lo tl) (hu:PO X hi th):PE X (.Subscript e (.Slice lo hi none p2) pos) (tSl r te tl th):=by
 intro pins s σ H Q I h;refine Subscript_ (thn (he pins s σ H _ I h) fun v s1 ⟨x,H1,I1,r1,q1⟩=>?_);refine wpAny_Slice (thn (hl pins s1 σ H1 _ I1 q1) fun vl s2 ⟨l,H2,I2,pl,q2⟩=>thn (hu pins s2 σ H2 _ I2 q2) fun vu s3 ⟨u,H3,I3,pu,q3⟩=>?_);rw [evalPart_none];refine zd ?_
 have I4:Inv X pins σ H3 { s3 with heap:=s3.heap.push { cls:=.type "slice",data:=.fields #[vl,vu,.none] } }:=I3.kept (t':=s3.toks) fun b ob q=>zh _ q
 obtain ⟨T,id,hT,ht,hg⟩:=hr pins { s3 with heap:=s3.heap.push { cls:=.type "slice",data:=.fields #[vl,vu,.none] } } σ H3 x v vl vu l u s3.heap.objs.size Q I4 r1 (Heap.IsSliceOf.new ..) pl pu q3;show wpAny (model X.prog X.w) X.A (subscriptTail e (.Slice lo hi none p2) v (.ref s3.heap.objs.size)) (EP X pins σ Q) X.xe { s3 with heap:=s3.heap.push { cls:=.type "slice",data:=.fields #[vl,vu,.none] } };exact tail_any (ops:=[.ref s3.heap.objs.size,v]) ht hT hg (by with_unfolding_all rfl)
def Qg2 (xs:List V) (lo hi:Option Int):List V:=(xs.drop (HT.sIx xs.length 0 lo)).take (HT.sIx xs.length xs.length hi - HT.sIx xs.length 0 lo)
theorem Qim (xs:List V) (lo hi:Option Int):(Qg2 xs lo hi).length≤xs.length:=by
 unfold Qg2;rw [List.length_take,List.length_drop];omega
def QwH (K:PySem.W.Frag):V→Option Int→Option Int→Hp→VK→Prop:=fun x lo hi H Q=>∃a xs,x = .ref a∧SqT K H a xs ∧
 ¬(HT.sIx xs.length 0 lo=0∧HT.sIx xs.length xs.length hi=xs.length)∧∀p,H p=none→Q (.ref p) (upd H p (.tup (Qg2 xs lo hi)))
theorem QsL:SlR X (QwH X.K):=by
 intro pins s σ H x v vl vu lo hi sl Q I rx hs pl pu h;obtain ⟨a,xs,rfl,hx,hw,q⟩:=h;cases rx;obtain ⟨its,r,ht,hz⟩:=I.tuple hx
 have hlen:its.toArray.size=xs.length:=by rw [zu]; exact r.length.symm
 refine ⟨"tuple",_,PyProof.Rows.slot_tuple_getitem.lookup,ht.typeIs,?_⟩;refine HT.getItem_tuple_cut ht hs pl pu (by rw [hlen]; exact hw) ?_ (by rw [hlen]; exact hz);rw [hlen];refine ⟨.ref s.heap.objs.size,_,I.laid (t':=s.toks) (o:=.tup (Qg2 xs lo hi)) (fun b ob q=>zh _ q) (ze _) ?_,rfl,q _ (I.hok.fresh (ze _))⟩;exact ⟨zB (Qim xs lo hi) hz,_,(r.drop (HT.sIx xs.length 0 lo)).take (HT.sIx xs.length xs.length hi - HT.sIx xs.length 0 lo),IsTup.new _ _⟩
def Qvw (K:PySem.W.Frag):R2:=fun x y H Q=>∃a b xs ys,x = .ref a∧y = .ref b∧SqT K H a xs∧SqT K H b ys∧xs≠[]∧xs.length+ys.length≤sizeLine ∧
 (ys = []→Q (.ref a) H)∧(ys≠[]→∀p,H p=none→Q (.ref p) (upd H p (.tup (xs++ys))))
theorem Qax.nil_iff {xs:List V}{us:List Value} (r:Qax xs us):us = []↔xs = []:=by
 cases r with
 | nil=>simp
 | cons _ _=>simp
theorem QrQ:OpR X (binaryOp .Add) (Qvw X.K):=by
 intro pins s σ H x y v u Q I rx ry h;obtain ⟨a,b,xs,ys,rfl,rfl,ha,hb,hx,hz,q1,q2⟩:=h;cases rx;cases ry;obtain ⟨its,r1,p1,_⟩:=I.tuple ha;obtain ⟨its2,r2,p2,_⟩:=I.tuple hb;refine HT.cat_tup p1 p2 (fun z=>hx (r1.nil_iff.mp z)) (fun z=>⟨.ref a,H,I,rfl,q1 (r2.nil_iff.mp z)⟩) (fun z=>?_) (by rw [←r1.length,←r2.length]; exact hz);refine ⟨.ref s.heap.objs.size,_,I.laid (t':=s.toks) (o:=.tup (xs++ys)) (fun b ob q=>zh _ q) (ze _) ?_,rfl,q2 (fun w=>z (r2.nil_iff.mpr w)) _ (I.hok.fresh (ze _))⟩;exact ⟨by rw [zF]; exact hz,_,r1.append r2,IsTup.new _ _⟩
end
def ixN (n:Nat) (i:Int):Option Nat:=if 0≤i then (if i < n then some i.toNat else none) else if -(n:Int)≤i then some (i+n).toNat else none
def atI {α:Type} (xs:List α) (i:Int):Option α:=(ixN xs.length i).bind fun j=>xs[j]?
theorem Qsm {n:Nat}{i:Int}{j:Nat} (h:ixN n i=some j):seqIndex? i n=some j∧j < n∧-(n:Int)≤i∧i < n:=by
 unfold ixN at h
 by_cases h0:0≤i
 ·rw [if_pos h0] at h
  by_cases h1:i < n
  ·rw [if_pos h1] at h;have e:i.toNat=j:=zL h;exact ⟨by rw [seqIndex_of h0 h1,e],by omega,by omega,h1⟩
  ·rw [if_neg h1] at h; cases h
 ·rw [if_neg h0] at h
  by_cases h1:-(n:Int)≤i
  ·rw [if_pos h1] at h;have e:(i+n).toNat=j:=zL h;exact ⟨by rw [seqIndex_neg (by omega) h1,e],by omega,h1,by omega⟩
  ·rw [if_neg h1] at h; cases h
theorem QjG {α:Type}{xs:List α}{i:Int}{v:α} (h:atI xs i=some v):∃j,seqIndex? i xs.length=some j∧xs[j]? = some v∧j < xs.length∧-(xs.length:Int)≤i∧i < xs.length:=by
 unfold atI at h
 cases e:ixN xs.length i with
 | none=>rw [e] at h; cases h
 | some j =>
  rw [e] at h;obtain ⟨h1,h2,h3,h4⟩:=Qsm e;exact ⟨j,h1,h,h2,h3,h4⟩
theorem Qrf {α:Type}{xs:List α}{j:Nat}{v:α} (h:xs[j]? = some v):atI xs (j:Int)=some v:=by
 have hj:j < xs.length:=(zo.mp h).1
 have e:ixN xs.length (j:Int)=some j:=by
  unfold ixN;rw [if_pos (by omega),if_pos (by omega)]; simp
 unfold atI; rw [e]; exact h
def Qj2 (b:Expr):Prop:=∀o i,subscripted b false o i=operate [o,i] (getItem o i)
def IxR (X:Cx) (r:R2):Prop :=
 ∀(value slice:Expr) (pins:List (Addr×Obj)) (s:Shared) (σ:St) (H:Hp) (x y:V) (v u:Value) (Q:VK),Inv X pins σ H s→RelV x v→RelV y u→r x y H Q →
  subscripted slice false v u=operate [v,u] (getItem v u)→wpAny (model X.prog X.w) X.A (subscriptTail value slice v u) (EP X pins σ Q) X.xe s
def MtR (X:Cx) (id:String) (r:V→List V→Hp→VK→Prop):Prop :=
 ∀(pins:List (Addr×Obj)) (s:Shared) (σ:St) (H:Hp) (x:V) (xs:List V) (v:Value) (us:List Value) (Q:VK),Inv X pins σ H s→RelV x v→Qax xs us→r x xs H Q →
  wpAny (model X.prog X.w) X.A (call (.builtin id) (v::us)) (EP X pins σ Q) X.xe s
section
variable {X:Cx}{a b:Expr}{ta tb:TE}{pos:Pos}
theorem Qve {r:R2} (hr:IxR X r) (ha:PE X a ta) (hb:PE X b tb) (hs:Qj2 b):PE X (.Subscript a b pos) (tOp r ta tb):=by
 intro pins s σ H Q I h;exact Subscript_ (QpO ha hb I h fun v u s2 x y H2 I2 rx ry q=>hr a b pins s2 σ H2 x y v u Q I2 rx ry q (hs _ _))
def Qwl (K:PySem.W.Frag):R2:=fun x y H Q=>∃p xs i v,x = .ref p∧y = .int i∧SqL K H p xs∧atI xs i=some v∧Q v H
def QwG (K:PySem.W.Frag):R2:=fun x y H Q=>∃p xs i v,x = .ref p∧y = .int i∧SqT K H p xs∧atI xs i=some v∧Q v H
def QwX:R2:=fun x y H Q=>∃z i c,x = .str z∧y = .int i∧z.length≤sizeLine∧atI z.cps.toList i=some c∧Q (.str ⟨#[c]⟩) H
theorem Qsj:IxR X (Qwl X.K):=by
 intro value slice pins s σ H x y v u Q I rx ry h hs;obtain ⟨p,xs,i,z,rfl,rfl,hq,he,q⟩:=h;cases rx;obtain ⟨t,rfl⟩:=ry;obtain ⟨its,r,pl,hz⟩:=I.list hq;obtain ⟨j,h1,h2,h3,h4,h5⟩:=QjG he;obtain ⟨w,ew,rw'⟩:=r.get h2;have hl:=r.length;have hn:=Qhy;have fin:EP X pins σ Q w s:=⟨z,H,I,rw',q⟩
 by_cases h0:0≤i
 ·have hj:i.toNat=j:=by
   rw [seqIndex_of h0 h5] at h1;exact zL h1
  exact item_listR pl.isList h0 (by omega) (by rw [hj]; simpa using ew) fin hs
 ·have hj:(i+(its.toArray.size:Int)).toNat=j:=by
   rw [seqIndex_neg (by omega) h4] at h1;rw [zu,←hl];exact zL h1
  exact subscriptTail_builtinR (x:=w) pl.isList.typeIs slot_list_getitem.lookup
   (wpAny_getItem_list_neg (Q:=fun r s'=>r=w∧EP X pins σ Q r s') pl.isList (by omega) (by rw [zu] <;> omega) (by omega) (by rw [hj]; simpa using ew) ⟨rfl,fin⟩) hs
theorem QtL:IxR X (QwG X.K):=by
 intro value slice pins s σ H x y v u Q I rx ry h hs;obtain ⟨p,xs,i,z,rfl,rfl,hq,he,q⟩:=h;cases rx;obtain ⟨t,rfl⟩:=ry;obtain ⟨its,r,pl,hz⟩:=I.tuple hq;obtain ⟨j,h1,h2,h3,h4,h5⟩:=QjG he;obtain ⟨w,ew,rw'⟩:=r.get h2;have hl:=r.length;have hn:=Qhy;have fin:EP X pins σ Q w s:=⟨z,H,I,rw',q⟩;exact subscriptTail_builtinR (x:=w) pl.typeIs slot_tuple_getitem.lookup
  (getItem_tuple (j:=j) (Q:=fun r s'=>r=w∧EP X pins σ Q r s') pl (by omega) (by omega) (by rw [zu,←hl]; exact h1) (by simpa using ew) ⟨rfl,fin⟩) hs
theorem Qtf:IxR X QwX:=by
 intro value slice pins s σ H x y v u Q I rx ry h hs;obtain ⟨z,i,c,rfl,rfl,hz,he,q⟩:=h;obtain ⟨t,rfl⟩:=rx;obtain ⟨t',rfl⟩:=ry;obtain ⟨j,h1,h2,h3,h4,h5⟩:=QjG he
 have hl:z.cps.toList.length=z.length:=by simp [Str.length]
 rw [hl] at h1 h4 h5;have hn:=Qhy
 exact tail_any (typeIs_str s z t) slot_str_getitem.lookup (getItem_str (c:=c) (by
  have e1:decide (i < -(2 ^ 63:Int))=false:=zn (by omega);have e2:decide (i≥2 ^ 63)=false:=zn (by omega)
  rw [e1,e2,Bool.or_false]) (by rw [h1]; simpa using h2) ⟨.str ⟨#[c]⟩,H,I.tok _,⟨_,rfl⟩,q⟩) hs
theorem Inv.lst {pins:List (Addr×Obj)}{σ:St}{H:Hp}{s:Shared}{p:Addr}{xs:List V} (I:Inv X pins σ H s) (h:H p=some (.lst xs)) :
  ∃(its:List Value) (n:Nat),Qax xs its∧s.heap.get? p=some { cls:=.type "list",data:=.seq its.toArray n }∧xs.length≤sizeLine:=by
 obtain ⟨z,its,n,r,e⟩:=I.hok p _ h;exact ⟨its,n,r,e,z⟩
theorem QhA (lo hi:Option Int) (n:Nat):(sliceBounds lo hi none n).1=((HT.sIx n 0 lo:Nat):Int)∧(sliceBounds lo hi none n).2.1=((HT.sIx n n hi:Nat):Int)∧(sliceBounds lo hi none n).2.2=1:=by
 refine ⟨?_,?_,rfl⟩
 ·cases lo with
  | none=>simp [sliceBounds,HT.sIx]
  | some i =>
   simp only [sliceBounds,HT.sIx,Option.getD_none,show (1:Int) > 0 by decide,if_true]
   by_cases h:i < 0
   ·simp only [h,if_true] <;> omega
   ·simp only [h,if_false] <;> omega
 ·cases hi with
  | none=>simp [sliceBounds,HT.sIx]
  | some i =>
   simp only [sliceBounds,HT.sIx,Option.getD_none,show (1:Int) > 0 by decide,if_true]
   by_cases h:i < 0
   ·simp only [h,if_true] <;> omega
   ·simp only [h,if_false] <;> omega
theorem Qkz (its:List Value) (lo hi:Option Int):slicePick its.toArray lo hi none=((its.drop (HT.sIx its.length 0 lo)).take (HT.sIx its.length its.length hi - HT.sIx its.length 0 lo)).toArray:=by
 obtain ⟨h1,h2,h3⟩:=QhA lo hi its.toArray.size;unfold slicePick;rw [h1,h2,h3]
 simp only [sliceRange_one,pick_run,zu] <;> rfl
def QwB (K:PySem.W.Frag):V→Option Int→Option Int→Hp→VK→Prop:=fun x lo hi H Q=>∃a xs,x = .ref a∧SqL K H a xs∧∀p,H p=none→Q (.ref p) (upd H p (.lst (Qg2 xs lo hi)))
theorem Qsp:SlR X (QwB X.K):=by
 intro pins s σ H x v vl vu lo hi sl Q I rx hs pl pu h;obtain ⟨a,xs,rfl,hx,q⟩:=h;cases rx;obtain ⟨its,r,ht,hz⟩:=I.list hx;have hlen:=r.length;refine ⟨"list",_,slot_list_getitem.lookup,ht.isList.typeIs,?_⟩;refine wpAny_getItem_list_slice ht.isList hs pl pu .none (by simp) ?_ (by rw [zu] <;> omega);rw [Qkz,←hlen];refine ⟨.ref s.heap.objs.size,_,I.laid (t':=s.toks) (o:=.lst (Qg2 xs lo hi)) (fun b ob q=>zh _ q) (ze _) ?_,rfl,q _ (I.hok.fresh (ze _))⟩;exact ⟨zB (Qim xs lo hi) hz,_,0,(r.drop (HT.sIx xs.length 0 lo)).take (HT.sIx xs.length xs.length hi - HT.sIx xs.length 0 lo),zD _ rfl⟩
def QeG:V→Bool
 | .non=>true
 | .bl _=>true
 | .int _=>true
 | .str _=>true
 | _=>false
def eqV:V→V→Bool
 | .non,.non=>true
 | .bl a,.bl b=>a == b
 | .bl a,.int b=>(if a then 1 else 0) == b
 | .int a,.bl b=>a == (if b then 1 else 0)
 | .int a,.int b=>a == b
 | .str a,.str b=>a == b
 | _,_=>false
theorem QtK {A:Around}{s:Shared}{y x:V}{u v:Value} (ry:RelV y u) (rx:RelV x v) (fy:QeG y=true) (fx:QeG x=true):SeqAt.EqAt A s u v (eqV y x):=by
 cases y with
 | non =>
  cases ry
  cases x with
  | non=>cases rx; exact SeqAt.EqAt.same _
  | bl b=>cases rx; exact SeqAt.EqAt.none_bool b
  | int b=>obtain ⟨t,rfl⟩:=rx; exact SeqAt.EqAt.none_int b t
  | str b=>obtain ⟨t,rfl⟩:=rx; exact SeqAt.EqAt.none_str b t
  | _=>exact absurd (show false=true from fx) zj
 | bl a =>
  cases ry
  cases x with
  | non=>cases rx; exact SeqAt.EqAt.bool_none a
  | bl b=>cases rx; exact SeqAt.EqAt.bool_bool a b
  | int b=>obtain ⟨t,rfl⟩:=rx; exact SeqAt.EqAt.bool_int a b t
  | str b=>obtain ⟨t,rfl⟩:=rx; exact SeqAt.EqAt.bool_str a b t
  | _=>exact absurd (show false=true from fx) zj
 | int a =>
  obtain ⟨t',rfl⟩:=ry
  cases x with
  | non=>cases rx; exact SeqAt.EqAt.int_none a t'
  | bl b=>cases rx; exact SeqAt.EqAt.int_bool a t' b
  | int b=>obtain ⟨t,rfl⟩:=rx; exact SeqAt.EqAt.int_int a t' b t
  | str b=>obtain ⟨t,rfl⟩:=rx; exact SeqAt.EqAt.int_str a t' b t
  | _=>exact absurd (show false=true from fx) zj
 | str a =>
  obtain ⟨t',rfl⟩:=ry
  cases x with
  | non=>cases rx; exact SeqAt.EqAt.str_none a t'
  | bl b=>cases rx; exact SeqAt.EqAt.str_bool a t' b
  | int b=>obtain ⟨t,rfl⟩:=rx; exact SeqAt.EqAt.str_int a t' b t
  | str b=>obtain ⟨t,rfl⟩:=rx; exact SeqAt.EqAt.str_str a t' b t
  | _=>exact absurd (show false=true from fx) zj
 | _=>exact absurd (show false=true from fy) zj
def eqU (x:V) (u:Value):Bool:=match u with
 | .none=>eqV .non x
 | .bool b=>eqV (.bl b) x
 | .int i _=>eqV (.int i) x
 | .str z _=>eqV (.str z) x
 | _=>false
theorem QpA {x y:V}{u:Value} (r:RelV y u) (f:QeG y=true):eqU x u=eqV y x:=by
 cases y with
 | non=>cases r; rfl
 | bl b=>cases r; rfl
 | int i=>obtain ⟨t,rfl⟩:=r; rfl
 | str z=>obtain ⟨t,rfl⟩:=r; rfl
 | _=>exact absurd (show false=true from f) zj
theorem Qgz {x:V}:∀{xs:List V}{us:List Value},Qax xs us→xs.all QeG=true→us.any (eqU x)=xs.any fun y=>eqV y x
 | _,_,.nil,_=>rfl
 | y::xs,u::us,.cons r t,f=>by
  rw [List.all_cons,zk] at f;rw [List.any_cons,List.any_cons,QpA r f.1,Qgz t f.2]
theorem QfF {A:Around}{s:Shared}{x:V}{v:Value} (rx:RelV x v) (fx:QeG x=true):∀{xs:List V}{us:List Value},Qax xs us→xs.all QeG=true→∀u∈us,SeqAt.EqAt A s u v (eqU x u)
 | _,_,.nil,_=>fun u hu=>by cases hu
 | y::xs,u::us,.cons r t,f=>fun u' hu=>by
  rw [List.all_cons,zk] at f
  rcases zm.mp hu with rfl | hu
  ·rw [QpA r f.1]; exact QtK r rx f.1 fx
  ·exact QfF rx fx t f.2 u' hu
def inV (x:V) (xs:List V):Bool:=xs.any fun y=>eqV y x
def rIn (K:PySem.W.Frag) (neg:Bool):R2:=fun x y H Q=>∃p xs,y = .ref p∧(SqL K H p xs∨SqT K H p xs)∧QeG x=true∧xs.all QeG=true∧Q (.bl (if neg then !inV x xs else inV x xs)) H
theorem QoT:OpR X (compareOp .In) (rIn X.K false):=by
 intro pins s σ H x y v u Q I rx ry h;obtain ⟨p,xs,rfl,hq,fx,fs,q⟩:=h;cases ry
 rcases hq with hq | hq
 ·obtain ⟨its,r,pl,hz⟩:=I.list hq;refine SeqAt.in_listAt (eqU x) pl.isList (fun w hw=>QfF rx fx r fs w (by simpa using hw)) ⟨.bl _,H,I,rfl,?_⟩;rw [show its.toArray.any (eqU x)=its.any (eqU x) by simp,Qgz r fs];exact q
 ·obtain ⟨its,r,pl,hz⟩:=I.tuple hq;refine SeqAt.in_tupleAt (eqU x) pl (fun w hw=>QfF rx fx r fs w (by simpa using hw)) ⟨.bl _,H,I,rfl,?_⟩;rw [show its.toArray.any (eqU x)=its.any (eqU x) by simp,Qgz r fs];exact q
theorem Qln:OpR X (compareOp .NotIn) (rIn X.K true):=by
 intro pins s σ H x y v u Q I rx ry h;obtain ⟨p,xs,rfl,hq,fx,fs,q⟩:=h;cases ry
 rcases hq with hq | hq
 ·obtain ⟨its,r,pl,hz⟩:=I.list hq;refine SeqAt.notIn_listAt (eqU x) pl.isList (fun w hw=>QfF rx fx r fs w (by simpa using hw)) ⟨.bl _,H,I,rfl,?_⟩;rw [show its.toArray.any (eqU x)=its.any (eqU x) by simp,Qgz r fs];exact q
 ·obtain ⟨its,r,pl,hz⟩:=I.tuple hq;refine SeqAt.notIn_tupleAt (eqU x) pl (fun w hw=>QfF rx fx r fs w (by simpa using hw)) ⟨.bl _,H,I,rfl,?_⟩;rw [show its.toArray.any (eqU x)=its.any (eqU x) by simp,Qgz r fs];exact q
theorem QhR:Qc5 X (.type "list") (fun xs H Q=>∃p ys,xs = [.ref p]∧(SqL X.K H p ys∨SqT X.K H p ys)∧∀l,H l=none→Q (.ref l) (upd H l (.lst ys))):=by
 intro pins s σ H xs us Q I r h;obtain ⟨p,ys,rfl,hq,q⟩:=h;obtain ⟨u,rfl,rx⟩:=vals1 r;cases rx;have fin:∀(its:List Value),Qax ys its→ys.length≤sizeLine→∀(h':Heap) (c':Nat),(∀b o',s.heap.get? b=some o'→h'.get? b=some o') →
   h'.get? s.heap.objs.size=some { cls:=.type "list",dict:=none,data:=.seq its.toArray c',slots:=#[] }→EP X pins σ Q (.ref s.heap.objs.size) { s with heap:=h' }:=fun its r' hz h' c' kp e =>
  ⟨.ref s.heap.objs.size,_,I.laid (t':=s.toks) kp (ze _) (show Qbb X.prog X.w _ h' _ (.lst ys) from ⟨hz,its,c',r',e⟩),rfl,q _ (I.hok.fresh (ze _))⟩
 rcases hq with hq | hq
 ·obtain ⟨its,r',pl,hz⟩:=I.list hq;have hlen:=r'.length;obtain ⟨o,ho,hc,n,hd⟩:=pl.isList;exact call_list_seq p (.inl rfl) ho hc hd (fun h' c' kp e=>fin its r' hz h' c' kp e) (by simp only [zu] <;> omega)
 ·obtain ⟨its,r',pl,hz⟩:=I.tuple hq;have hlen:=r'.length;obtain ⟨o,ho,hc,n,hd⟩:=pl;exact call_list_seq p (.inr rfl) ho hc hd (fun h' c' kp e=>fin its r' hz h' c' kp e) (by simp only [zu] <;> omega)
def tyV (K:PySem.W.Frag) (T:String) (x:V) (H:Hp):Prop:=match x with
 | .str _=>T = "str"
 | .int _=>T = "int"
 | .ref p=>(T = "list"∧∃xs,SqL K H p xs)∨(T = "tuple"∧∃o,K.lookup p=some o∧o.cls = .type "tuple"∧o.dict=none) ∨
   (T = "dict"∧((∃kvs,H p=some (.dK kvs))∨∃kvs,H p=some (.dT kvs)))∨(T = "set"∧∃S n,H p=some (.set S n))
 | _=>False
theorem Qpp {pins:List (Addr×Obj)}{σ:St}{H:Hp}{s:Shared}{T:String}{x:V}{v:Value} (I:Inv X pins σ H s) (r:RelV x v) (ty:tyV X.K T x H) :
  s.TypeIs v T∧∀a,v = .ref a→∃ob,s.heap.get? a=some ob∧ob.dict=none:=by
 cases x with
 | str z =>
  obtain ⟨t,rfl⟩:=r;cases (show T = "str" from ty);exact ⟨typeIs_str s z t,fun _ e=>nomatch e⟩
 | int i =>
  obtain ⟨t,rfl⟩:=r;cases (show T = "int" from ty);exact ⟨typeIs_int s i t,fun _ e=>nomatch e⟩
 | ref p =>
  cases r
  rcases ty with ⟨rfl,xs,hq⟩ | ⟨rfl,o,hk,hc,hd⟩ | ⟨rfl,hk⟩ | ⟨rfl,S,n,hk⟩
  ·obtain ⟨its,_,pl,_⟩:=I.list hq;refine ⟨pl.isList.typeIs,fun a e=>?_⟩;cases e;obtain ⟨o,n,e,c,hd,_⟩:=pl;exact ⟨o,e,hd⟩
  ·refine ⟨⟨o,I.kIn p o hk,hc⟩,fun a e=>?_⟩;cases e;exact ⟨o,I.kIn _ o hk,hd⟩
  ·have z:∃o,s.heap.get? p=some o∧o.ExactDict:=by
    rcases hk with ⟨kvs,hk⟩ | ⟨kvs,hk⟩
    ·obtain ⟨_,_,_,_,o,_,_,e,ex,_⟩:=I.hok p _ hk;exact ⟨o,e,ex⟩
    ·obtain ⟨_,_,_,_,o,_,_,e,ex,_⟩:=I.hok p _ hk;exact ⟨o,e,ex⟩
   obtain ⟨o,e,ex⟩:=z;refine ⟨⟨o,e,ex.1⟩,fun a e2=>?_⟩;cases e2;exact ⟨o,e,ex.2.1⟩
  ·obtain ⟨o,_,_,_,e,ex,_⟩:=I.hok p _ hk;refine ⟨⟨o,e,ex.1⟩,fun a e2=>?_⟩;cases e2;exact ⟨o,e,ex.2.1⟩
 | _=>exact False.elim ty
def QwS (K:PySem.W.Frag) (T:String) (r:V→List V→Hp→VK→Prop) (to:TE):TE:=fun σ H Q=>to σ H fun x H1=>tyV K T x H1∧r x [] H1 Q
def tBM (K:PySem.W.Frag) (T:String) (r:V→List V→Hp→VK→Prop) (to:TE) (t:TA):TE:=fun σ H Q=>to σ H fun x H1=>tyV K T x H1∧t σ H1 fun xs H2=>r x xs H2 Q
variable {o e:Expr}{es:List Expr}{to:TE}{t:TA}{name:Str}{apos cpos:Pos}{T id:String}{r:V→List V→Hp→VK→Prop}
theorem QsY (pa:PlainAttrs T) (slot:Slot T name id) (hty:typeOf (.builtin id)=pure (.type "method_descriptor")) (hm:MtR X id r) (ho:PE X o to)
  (hbase:attributeBase o name X.env (eval o X.env)=eval o X.env:=by rfl) (hline:(apos.endLine == cpos.line)=true:=by rfl):PE X (.Call (.Attribute o name apos) [] [] cpos) (QwS X.K T r to):=by
 intro pins s σ H Q I h;refine wpAny_Call_method0_late hbase hline (thn (ho pins s σ H _ I h) fun v s1 ⟨x,H1,I1,r1,ty,q1⟩=>?_);obtain ⟨h1,h2⟩:=Qpp I1 r1 ty;exact ⟨T,id,pa,slot,hty,h1,h2,Calls.callWith_builtin rfl (PySem.evalArgs_none (hm pins s1 σ H1 x [] v [] Q I1 r1 .nil q1))⟩
theorem QvE (pa:PlainAttrs T) (slot:Slot T name id) (hty:typeOf (.builtin id)=pure (.type "method_descriptor")) (hm:MtR X id r) (ho:PE X o to) (ha:PA X (e::es) t)
  (hbase:attributeBase o name X.env (eval o X.env)=eval o X.env:=by rfl)
  (hfew:((backTo cpos (starEach (e::es) X.env)).all (fun x=>!x.1)&&(backToKw cpos (keywordEach [] X.env)).all (fun x=>x.1.isSome)
   && decide ((e::es).length+([]:List Keyword).length+(if ([]:List Keyword).isEmpty then 0 else 1) < 30))=true:=by rfl)
  (hline:(apos.endLine == cpos.line)=true:=by rfl) (hs:starEach (e::es) X.env=(false,eval e X.env)::starEach es X.env:=by rfl) (hplain:(backTo cpos (starEach es X.env)).any (·.1)=false:=by rfl) :
  PE X (.Call (.Attribute o name apos) (e::es) [] cpos) (tBM X.K T r to t):=by
 intro pins s σ H Q I h;refine wpAny_Call_method_late hbase hfew hline rfl (thn (ho pins s σ H _ I h) fun v s1 ⟨x,H1,I1,r1,ty,q1⟩=>?_);obtain ⟨h1,h2⟩:=Qpp I1 r1 ty;refine ⟨T,id,pa,slot,hty,h1,h2,?_⟩;have hA:=ha cpos pins s1 σ H1 _ I1 q1;rw [hs] at hA ⊢;refine Calls.callWith_builtin (by show (false || (backTo cpos (starEach es X.env)).any (·.1))=false; rw [hplain] <;> rfl) (Calls.evalArgs_plain ?_)
 exact thn hA fun us s2 ⟨vs,H2,I2,r2,q2⟩=>hm pins s2 σ H2 x vs v us Q I2 r1 r2 q2
/- xs.append(e),list.index on a module's tuple .. are MtR facts of 06m -/
end
def MtM (X:Cx) (id:String) (r:V→List V→Hp→VK→Prop):Prop :=
 ∀(pins:List (Addr×Obj)) (s:Shared) (σ:St) (H:Hp) (x:V) (xs:List V) (v:Value) (us:List Value) (Q:VK),Inv X pins σ H s→RelV x v→Qax xs us→r x xs H Q →
  wpAny (model X.prog X.w) X.A (call (.builtin id) (v::us)) (EP X pins σ Q) X.xe s
theorem Qax.one:∀{x:V}{us:List Value},Qax [x] us→∃u,us = [u]∧RelV x u
 | _,_,.cons r .nil=>⟨_,rfl,r⟩
theorem Qax.two:∀{x y:V}{us:List Value},Qax [x,y] us→∃u v,us = [u,v]∧RelV x u∧RelV y v
 | _,_,_,.cons r (.cons q .nil)=>⟨_,_,rfl,r,q⟩
theorem Qax.zero:∀{us:List Value},Qax [] us→us = []
 | _,.nil=>rfl
theorem Qax.reverse {xs:List V}{us:List Value} (h:Qax xs us):Qax xs.reverse us.reverse:=by
 induction h with
 | nil=>exact .nil
 | cons r t ih=>rw [List.reverse_cons,List.reverse_cons]; exact Qax.append ih (.cons r .nil)
theorem Qax.rep {xs:List V}{us:List Value} (h:Qax xs us):∀k:Nat,Qax (List.replicate k xs).flatten (List.replicate k us).flatten
 | 0=>.nil
 | k+1=>by
  rw [List.replicate_succ,List.replicate_succ,List.flatten_cons,List.flatten_cons];exact Qax.append h (Qax.rep h k)
theorem foldl_rep (its:List Value):∀(k:Nat) (acc:List Value),
  List.foldl (fun x1 x2=>x1++x2) acc.toArray (List.replicate k its.toArray)=(acc++(List.replicate k its).flatten).toArray
 | 0,acc=>by simp
 | k+1,acc=>by
  have e:acc.toArray++its.toArray=(acc++its).toArray:=by simp
  have e2:(acc++its)++(List.replicate k its).flatten=acc++(List.replicate (k+1) its).flatten:=by
   rw [List.replicate_succ,List.flatten_cons,je]
  rw [←e2,←foldl_rep its k (acc++its),←e,List.replicate_succ,List.foldl_cons]
section
variable {X:Cx}{pins:List (Addr×Obj)}{σ:St}{H:Hp}{s:Shared}{l b:Addr}{xs ys zs:List V}
theorem Inv.lset {its its':List Value}{n:Nat}{f:Array Value→Array Value}{t':Nat} (I:Inv X pins σ H s) (hH:H l=some (.lst xs))
  (e:s.heap.get? l=some { cls:=.type "list",data:=.seq its.toArray n }) (hf:f its.toArray=its'.toArray) (hv:Qax ys its') (hz:ys.length≤sizeLine) :
  Inv X pins σ (upd H l (.lst ys)) { s with heap:=s.heap.update l (Obj.mapSeq f),toks:=t' }:=by
 have q:=PySem.IsL.update e f;rw [hf] at q;refine I.write (x:=l) (e:=l) (by rw [hH]; exact trivial) (.inl rfl) (fun b' u hb hu=>(jf s.heap (Obj.mapSeq f) (Ne.symm hb)).trans hu) ⟨_,q⟩ ?_;exact ⟨hz,its',_,hv,q⟩
theorem Inv.lnew {its:List Value}{t':Nat} (I:Inv X pins σ H s) (hv:Qax ys its) (hz:ys.length≤sizeLine) :
  Inv X pins σ (upd H s.heap.objs.size (.lst ys)) { s with heap:=s.heap.push { cls:=.type "list",data:=.seq its.toArray },toks:=t' } :=
 I.laid (fun _ _ q=>zh _ q) (ze _) ⟨hz,its,0,hv,zD _ rfl⟩
theorem Inv.fresh (I:Inv X pins σ H s):H s.heap.objs.size=none:=I.hok.fresh (ze _)
theorem Inv.lstM (I:Inv X pins σ H s) (hH:H l=some (.lst xs)):xs.length≤sizeLine∧∃(its:List Value) (n:Nat),Qax xs its∧xs.length=its.length∧s.heap.get? l=some { cls:=.type "list",data:=.seq its.toArray n }:=by
 obtain ⟨z,its,n,r,e⟩:=I.hok l _ hH;exact ⟨z,its,n,r,r.length,e⟩
theorem QiI {n:Nat} (h:n≤sizeLine):Builtin.List.listTooLong n=false:=by
 unfold Builtin.List.listTooLong;exact zn (by omega)
end
section
variable {X:Cx}
def Qr8:V→List V→Hp→VK→Prop:=fun x vs H Q=>∃l xs y,x = .ref l∧vs = [y]∧H l=some (.lst xs)∧xs.length < sizeLine∧Q .non (upd H l (.lst (xs ++ [y])))
theorem Qpu:MtM X "list.append" Qr8:=by
 intro pins s σ H x vs v us Q I rx rv h;obtain ⟨l,xs,y,rfl,rfl,hH,hz,q⟩:=h;cases rx;obtain ⟨u,rfl,ru⟩:=rv.one;obtain ⟨z,its,n,r,hl,e⟩:=I.lstM hH;refine call_meets F.slot_list_append ⟨_,e,rfl⟩ F.entry_list_append (F.args_list_append_2 _ _) (PySem.list_append l its.toArray n u (by rw [zu]; omega)) ⟨e,?_⟩;refine ⟨.non,_,I.lset (its':=its ++ [u]) hH e (by simp) (r.append (.cons ru .nil)) ?_,rfl,q⟩;rw [zF,jk];omega
def Qtz:V→List V→Hp→VK→Prop:=fun x vs H Q=>∃l xs,x = .ref l∧vs = []∧H l=some (.lst xs)∧Q .non (upd H l (.lst []))
theorem QqB:MtM X "list.clear" Qtz:=by
 intro pins s σ H x vs v us Q I rx rv h;obtain ⟨l,xs,rfl,rfl,hH,q⟩:=h;cases rx;have hus:=rv.zero;subst hus;obtain ⟨z,its,n,r,hl,e⟩:=I.lstM hH;refine call_meets F.slot_list_clear ⟨_,e,rfl⟩ F.entry_list_clear (F.args_list_clear_1 _) (AutoSeq1.list_clear_list_0 l its.toArray n (by rw [zu]; omega)) ⟨e,?_⟩;exact ⟨.non,_,I.lset (its':=[]) (ys:=[]) hH e rfl .nil (Nat.zero_le _),rfl,q⟩
theorem len_rep {α:Type} (xs:List α) (k:Nat):(List.replicate k xs).flatten.length=k * xs.length:=by
 induction k with
 | zero=>simp
 | succ k ih=>rw [List.replicate_succ,List.flatten_cons,zF,ih,Nat.succ_mul,Nat.add_comm]
end
section
variable {prog:Program}{w:World}{A:Around}{E:Value→Shared→Prop}{s:Shared}
theorem Qm3 {a c n:Nat} (hac:a≤c) (hc:c≤n):sliceBounds (some (a:Int)) (some (c:Int)) none n=((a:Int),(c:Int),1):=by
 simp only [sliceBounds,Option.getD_none]
 have h1:¬((a:Int) < 0):=by omega
 have h2:¬((c:Int) < 0):=by omega
 simp only [h1,h2,if_false,show (1:Int) > 0 by decide,if_true];congr 1
 ·omega
 ·congr 1; omega
set_option maxRecDepth 100000 in
theorem QsF {l b sl:Addr}{items new:Array Value}{n n2:Nat}{vl vu:Value}{a c:Nat}{Q:Unit→Shared→Prop}
  (e:s.heap.get? l=some { cls:=.type "list",data:=.seq items n }) (e2:s.heap.get? b=some { cls:=.type "list",data:=.seq new n2 }) (hne:l≠b)
  (hs:s.heap.IsSliceOf sl vl vu .none) (pl:IsPart vl (some (a:Int))) (pu:IsPart vu (some (c:Int))) (hac:a≤c) (hc:c≤items.size)
  (hsz:items.size+new.size≤sizeLine) (h:Q () { s with heap:=s.heap.update l (Obj.mapSeq fun xs=>xs.extract 0 a++new++xs.extract c xs.size) }) :
  wpAny (model prog w) A (setItem (.ref l) (.ref sl) (.ref b)) Q E s:=by
 have hl:s.heap.IsList l items:=PySem.IsL.isList e;have hb:s.heap.IsList b new:=PySem.IsL.isList e2;obtain ⟨os,hos,hcs,hds⟩:=id hs;have hTs:s.TypeIs (.ref sl) "slice":=⟨os,hos,hcs⟩;have hstep:¬((rawPart none == rawInt 0)=true):=zj
 have hsame:Builtin.List.listSameRef (.ref l) (.ref b)=false:=by
  unfold Builtin.List.listSameRef;exact beq_eq_false_iff_ne.mpr hne
 have hmax:(max (a:Int) (c:Int)).toNat=c:=by omega
 have hz':((fun xs:Array Value=>xs.extract 0 a++new++xs.extract c xs.size) items).size≤sizeLine+1:=by
  simp only [Array.size_append,Array.size_extract];omega
 unfold setItem
 try with_reducible refine zK ?_
 first | refine zc (zd ?_) | skip
 refine zc (wpAny_sequenceKey hl.typeIs (by decide) ?_)
 refine zc (wpAny_callSpecial?_slot (name:=Str.ofString "__setitem__") hl.typeIs slot_list_setitem
  (wpAny_call_entry slot_list_setitem hl.typeIs entry_list_setitem ?_ (args_list_setitem _ _ _)))
 show wpAny _ _ (Builtin.List.listSubscript? (.ref sl) >>= _) _ _ s;refine zc ?_;unfold Builtin.List.listSubscript?;refine zc (wpAny_specialOf hTs slice_no_index ?_);simp only [Option.isNone_none,if_true];refine zd ?_;show wpAny _ _ (typeOf (.ref sl) >>= _) _ _ s;refine zc (wpAny_typeOf hTs ?_)
 first
  | rw [if_neg (by decide)]
  | refine PySem.W.KFB.if_not (by decide) ?_
 rw [listSliceParts_eq];refine zc (zc (wpAny_field hos hds (x:=.none) rfl (zc (wpAny_listPart .none ?_))));rw [if_neg hstep];refine zc (wpAny_field hos hds (x:=vl) rfl (zc (wpAny_listPart pl ?_)));refine zc (wpAny_field hos hds (x:=vu) rfl (zc (wpAny_listPart pu (zd ?_))))
 first
  | simp only [hsame,Bool.false_eq_true,if_false]
  | refine PySem.W.KFB.if_not hsame ?_
  | (dsimp only
     rw [if_neg (by rw [hsame]; exact zj)])
 refine zc (m:=Builtin.List.listAllItems (.ref b) "must assign iterable to extended slice") ?_;unfold Builtin.List.listAllItems;refine zc (wpAny_typeOf hb.typeIs ?_)
 first
  | refine PySem.W.KFB.if_so (by decide) ?_
  | rw [if_pos (by decide)]
  | simp only [beq_self_eq_true,Bool.true_or,if_true]
 unfold Builtin.List.listItems;refine zc (wpAny_seqItems e2 rfl (zd ?_));refine zc (zc (wpAny_seqItems e rfl (zd ?_)));refine zc (zW ((sliceIndices_raw (some (a:Int)) (some (c:Int)) none items.size (by simp)).trans (congrArg (pure:Int×Int×Int→Sem (Int×Int×Int)) (Qm3 hac hc))) ?_);show wpAny _ _ (if ((1:Int) == 1)=true then _ else _) _ _ s;rw [if_pos (by decide)];refine zc (zV ?_)
 first
  | simp only [QiI hsz,Bool.false_eq_true,if_false]
  | refine PySem.W.KFB.if_not (QiI hsz) ?_
 first | refine zc (zd ?_) | skip
 show wpAny _ _ (updateSeq l (fun xs=>xs.extract 0 ((a:Int)).toNat++new++xs.extract (max (a:Int) (c:Int)).toNat xs.size) >>= _) _ _ s;rw [hmax,Int.toNat_natCast];refine zc (wpAny_updateSeq (hz:=zB (Nat.le_add_right _ _) hsz) (_hz':=hz') e rfl ?_);refine zc (wpAny_letGo ?_)
 first
  | exact zc (zd (zd ⟨.none,rfl,zd h⟩))
  | exact zd ⟨.none,rfl,zd h⟩
end
section
variable {X:Cx}
end
end L2
namespace Att
open PySem PySem.W PySem.Calls PyProof.Rows
theorem QiU {P:Params}{h:Heap}:∀(ns:List Int) (vs:List Value),WellAll P h vs (ns.map WData.int)→IntsAre vs ns:=by
 intro ns
 induction ns with
 | nil =>
  intro vs w;rw [zY] at w;cases w;exact .nil
 | cons n ns ih =>
  intro vs w;rw [zg] at w
  cases w with
  | cons a b =>
   cases a;exact .cons _ _ (ih _ b)
theorem Qn0 {l:OpenLaw}{n:Nat} (hn:l.most=some n) {P:Params}{h:Heap}{args:List WData}{vals:List Value}
  (hpre:l.row.toRowW.claim.pre args=true) (hwl:WellAll P h vals args) :
  ∃a vs ns,vals = [Value.ref a]∧args = [WData.list (ns.map WData.int)]∧h.get? a=some { cls:=.type "list",data:=.seq vs.toArray }∧IntsAre vs ns∧ns.length≤n:=by
 have hsh:WShape.hasAll [] args [.list .int]=true:=(pre_splitW hpre).1;have hc:l.pre.holds [] { args:=args }=true:=(pre_splitW hpre).2;obtain ⟨d,r,rfl,h1,h2⟩:=hasAllW_cons hsh;obtain rfl:=hasAllW_nil h2;obtain ⟨xs,rfl,h3⟩:=hasW_list h1;obtain ⟨ns,rfl⟩:=items_int h3
 have hlen:ns.length≤n:=by
  unfold OpenLaw.pre at hc
  have h4:(WTm.not (.lt (.lit (.int (n:Int))) (.len (.arg 0)))).holds [] { args:=[.list (ns.map .int)] }=true:=by
   have h4:=(holds_andW hc).1;rw [hn] at h4;exact h4
  have h5:=condW_of h4 (w_not (w_lt w_lit (w_len_list (w_arg rfl))));rw [zp] at h5
  refine Nat.le_of_not_lt fun q=>?_
  have q':(n:Int) < ((ns.length:Nat):Int):=by omega
  first
   | (rw [zl q'] at h5; exact absurd h5 (by decide))
   | (simp at h5; omega)
 cases hwl with
 | cons w1 w2 =>
  cases w2
  cases w1 with
  | list ho hall=>exact ⟨_,_,ns,rfl,rfl,ho,QiU ns _ hall,hlen⟩
theorem Qpf (l:OpenLaw) (args:List WData):l.row.toRowW.claim.post args (.bool true) args=true :=
 postW_of (r:=l.row.toRowW) (X:=(true == true))
  (show WShape.has [] (.bool true) .bool=true by first | rfl | decide | simp [WShape.has,WShape.arms,WShape.armsAll])
  (show (WTm.eq .res (.lit (.bool true))).value [] { args:=args,res:=some (.bool true),after:=args }=some (.bool (true == true)) from w_eq_bool (w_res rfl) w_lit) rfl
theorem attach_call {l:OpenLaw}{n:Nat}{q:Program}{loose:List Str}{XP:(Str→Option Value)→Heap→Prop}{YP:World→Heap→Prop}{d:DefRec}
  (hn:l.most=some n) (hdf:d.params.defaults = [])
  (call:∀(w:World) (s₀ s₁:Shared) (mg mb:Str→Option Value) (fa:Addr) (o:Obj) (pm cd doc:Value) (a:Addr) (vs:List Value) (ns:List Int),
   Ground q loose [] XP w s₀ mg mb s₁.heap→YP w s₁.heap →
   s₁.heap.get? fa=some o→o.data = .func (docDef d.name d.params d.body d.scope pm cd doc)→s₁.heap.CodeRec cd d.name→mg d.name=some (.ref fa) →
   s₁.heap.get? a=some { cls:=.type "list",data:=.seq vs.toArray }→IntsAre vs ns→ns.length≤n→s₁.gens = #[] →
   codeAny (model l.prog w) callerA (.call (.ref fa) ⟨[.ref a],[]⟩) (fun r s'=>r = .ok (.ret (.bool true))∧OldK s₁.heap s'.heap∧s'.os=s₁.os∧AllBare s'.gens) s₁) :
  WalkO q loose XP YP l.row.toRowW d [] (fun f vs=>PySem.call f vs):=by
 intro w s₀ s₁ mg mb G Y fa o pm cd doc dV kV ho hd hcd hD hmg hg args vals as hpre hlay hrd hwl hlo;obtain rfl:dV = .none:=Dflts.none hD hdf;obtain rfl:kV = .none:=Dflts.noKw hD;obtain ⟨a,vs,ns,rfl,rfl,hobj,hints,hlen⟩:=Qn0 hn hpre hwl;refine enter_call (codeAny_mono (call w s₀ s₁ mg mb fa o pm cd doc a vs ns G Y ho (fd_plain hd) hcd hmg hobj hints hlen hg) fun r s' hq=>?_);obtain ⟨rfl,h2,h3,h4⟩:=hq;exact ⟨.inl ⟨.bool true,.bool true,[],rfl,fun _=>rfl,.bool true,Qpf l _,fun _=>⟨List.Pairwise.nil,fun _ hm=>(nomatch hm)⟩⟩,h2,h3,h4⟩
section
variable {prog:Program}{w:World}{A:Around}{E:Value→Shared→Prop}{s:Shared}{K:Frag}
end
end Att
namespace L2
open PySem PySem.Spec PyProof.Rows
theorem QhU:∀{vs:List Value}{ns:List Int},IntsAre vs ns→Qax (ns.map V.int) vs
 | _,_,.nil=>.nil
 | _,_,.cons n t h=>.cons ⟨t,rfl⟩ (QhU h)
def QiK (H:Hp):Prop:=∀b,H b=none∨∃o xs,H b=some (.frz o (.lst xs))
theorem QpH {P:Program}{w:World}{K:PySem.W.Frag}{mg mb:Str→Option Value}{CX:CXT}{k:Nat}{fa a:Addr}{fd:FuncData}{x:Str}{sp:Sp}{s₁:Shared}{vs:List Value}{ns:List Int}
  (KX:K.In s₁.heap) (hns:s₁.heap.Ns mainGlobals mg) (hb:s₁.heap.Ns builtinsNs mb) (hbb:∀x:Str,x≠"__name__"→mb x=bootBuiltins x) (hlim:s₁.heap.NoLimit) (hg:s₁.gens = #[])
  (ha:s₁.heap.get? a=some { cls:=.type "list",data:=.seq vs.toArray }) (hi:IntsAre vs ns) (hl:ns.length≤sizeLine) (hr:QaG k callerA)
  (F:∀base:Heap,K.In base→base.Ns mainGlobals mg→Qbp P w K mg base CX k fa fd [x] sp) (hbind:∀(s:Shared) (u:Value),BindsTo s fd ⟨[u],[]⟩ [(x,u)])
  (hsp:∀H:Hp,QiK H→SqL K H a (ns.map V.int)→sp [.ref a] H (fun v _=>v = .bl true) fun _ _ _=>False)
  (hCX:∀H e s',CX [] H s₁ (fun _ _ _=>False) e s'→False) :
  codeAny (model P w) callerA (.call (.ref fa) ⟨[.ref a],[]⟩) (fun r s'=>r = .ok (.ret (.bool true))∧OldK s₁.heap s'.heap∧s'.os=s₁.os∧AllBare s'.gens) s₁:=by
 have rv:=QhU hi;have lenV:=hi.length;have core:∀H:Hp,QiK H→SqL K H a (ns.map V.int)→HOk P w H s₁.heap→(∀b,H b≠none→b=a)→(H a≠none→K.lookup a=none) →
   codeAny (model P w) callerA (.call (.ref fa) ⟨[.ref a],[]⟩) (fun r s'=>r = .ok (.ret (.bool true))∧OldK s₁.heap s'.heap∧s'.os=s₁.os∧AllBare s'.gens) s₁:=by
  intro H hO hS hok hA hK
  have base_of:∀{b:Addr}{o:Obj},s₁.heap.get? b=some o→H b=none→(Qd7 s₁.heap H).get? b=some o:=fun e n=>Qk8 e n
  have noA:∀{b:Addr}{o:Obj}{es:Array DictEntry}{ep:Nat},s₁.heap.get? b=some o→o.data = .dict es ep→H b=none:=fun {b o es ep} e d=>by
   cases q:H b with
   | none=>rfl
   | some u =>
    have e':b=a:=hA b (by rw [q]; simp);subst e';rw [ha] at e; cases e;have d':Data.seq vs.toArray _=Data.dict es ep:=d;cases d'
  have nsK:∀{b:Addr}{m:Str→Option Value},s₁.heap.Ns b m→(Qd7 s₁.heap H).Ns b m:=fun {b m} ⟨o,es,ep,e,d,r⟩=>⟨o,es,ep,base_of e (noA e d),d,r⟩
  have hKb:K.In (Qd7 s₁.heap H):=fun b o e=>base_of (KX b o e) (by
   cases q:H b with
   | none=>rfl
   | some u =>
    have e':b=a:=hA b (by rw [q]; simp);subst e'
    rw [hK (by rw [q]; simp)] at e; cases e)
  have hM:Mod K mg (Qd7 s₁.heap H):=⟨hKb,nsK hns,⟨mb,nsK hb,hbb⟩,let ⟨mc,h1,h2⟩:=hlim; ⟨mc,nsK h1,h2⟩⟩;have e0:Qe0 P w K mg (Qd7 s₁.heap H) callerA [] s₁ H:=⟨rfl,hM,fun b o e=>QmF e,Nat.le_of_eq (Qj8 _ _),trivial,fun b hb=>absurd (show b∈([]:List Addr) from hb) (by simp),hok,.of_eq hg⟩
  refine codeAny_mono ((F _ hKb (nsK hns)).run callerA [] s₁ H ⟨[.ref a],[]⟩ [.ref a] [.ref a] _ _ hr e0 (hbind s₁ (.ref a)) (.cons rfl .nil) (hsp H hO hS)) fun r s' h=>?_
  cases r with
  | error e=>exact (hCX H e s' h).elim
  | ok fl =>
   cases fl with
   | next=>exact False.elim h
   | brk=>exact False.elim h
   | cont=>exact False.elim h
   | ret u =>
    obtain ⟨v,H',os,bare,un,hok',r',q⟩:=h;have q':v = .bl true:=q;subst q';obtain rfl:u=Value.bool true:=r';refine ⟨rfl,OldK.of_keep fun b o e=>?_,os,bare⟩
    cases q:H b with
    | none=>exact un.keep b o e q (by intro z; exact absurd (show b∈([]:List Addr) from z) (by simp)) (by simp)
    | some u =>
     rcases hO b with z | ⟨ob,xs,z⟩
     ·rw [q] at z; cases z
     ·have z2:=un.frzs b ob _ z;obtain ⟨e1,_⟩:=hok b _ z;obtain ⟨e2,_⟩:=hok' b _ z2;rw [e] at e1; cases e1;exact e2
 cases hk:K.lookup a with
 | some o =>
  have e:=KX a o hk;rw [ha] at e;cases e
  refine core (fun _=>none) (fun _=>.inl rfl) (.inr ⟨_,vs.toArray,_,hk,rfl,rfl,rfl,by rw [zu,lenV]; exact hl,by simpa using rv⟩) (fun b u z=>by have z':(none:Option HO)=some u:=z; cases z') (fun b z=>absurd rfl z) fun z=>absurd rfl z
 | none =>
  refine core (fun b=>if b=a then some (.frz { cls:=.type "list",data:=.seq vs.toArray } (.lst (ns.map V.int))) else none) (fun b=>?_) (.inl (.inr ⟨{ cls:=.type "list",data:=.seq vs.toArray },if_pos rfl⟩)) (fun b u z=>?_) (fun b z=>?_) fun _=>hk
  ·by_cases hb:b=a
   ·exact .inr ⟨_,_,if_pos hb⟩
   ·exact .inl (if_neg hb)
  ·by_cases hb:b=a
   ·have z':=(if_pos hb).symm.trans z;cases z';subst hb;exact ⟨ha,by rw [zp]; exact hl,vs,_,rv,ha⟩
   ·have z':=(if_neg hb).symm.trans z;cases z'
  ·by_cases hb:b=a
   ·exact hb
   ·exact absurd (if_neg hb) z
abbrev KOf {K:PySem.W.Frag}{h:Heap} (_:K.In h):PySem.W.Frag:=K
theorem walk_of {l:PySem.W.OpenLaw}{n k:Nat}{q:Program}{loose:List Str}{XP:(Str→Option Value)→Heap→Prop}{YP:World→Heap→Prop}{d:DefRec}{K:Params→PySem.W.Frag}{CX:World→CXT}{sp:World→Sp}{x:Str}
  (hn:l.most=some n) (hn2:n≤sizeLine) (hdf:d.params.defaults = []) (hr:QaG k callerA)
  (hY:∀(w:World) (h:Heap),YP w h→(K w.params).In h)
  (F:∀(w:World) (mg:Str→Option Value) (fa:Addr) (h:Heap),(K w.params).In h→h.Ns mainGlobals mg→mg d.name=some (.ref fa) →
   ∃fd:FuncData,(∀(s:Shared) (u:Value),BindsTo s fd ⟨[u],[]⟩ [(x,u)]) ∧
    ∀base:Heap,(K w.params).In base→base.Ns mainGlobals mg→Qbp l.prog w (K w.params) mg base (CX w) k fa fd [x] (sp w))
  (hsp:∀(w:World) (H:Hp) (a:Addr) (ns:List Int),ns.length≤n→QiK H→SqL (K w.params) H a (ns.map V.int)→sp w [.ref a] H (fun v _=>v = .bl true) fun _ _ _=>False)
  (hCX:∀(w:World) (H:Hp) (s:Shared) (e:Value) (s':Shared),CX w [] H s (fun _ _ _=>False) e s'→False) :
  PySem.W.WalkO q loose XP YP l.row.toRowW d [] (fun f vs=>PySem.call f vs):=by
 refine Att.attach_call hn hdf fun w s₀ s₁ mg mb fa o pm cd doc a vs ns G Y ho hd hcd hmg hobj hints hlen hg=>?_
 have KX:=hY w _ Y;obtain ⟨fd,hb,hF⟩:=F w mg fa _ KX G.T.g hmg
 exact QpH KX G.T.g G.T.b G.T.builtins G.T.nolimit hg hobj hints (zB hlen hn2) hr hF hb (fun H hO hS=>hsp w H a ns hlen hO hS) fun H e s'=>hCX w H s₁ e s'
end L2
/- THE LAST THEOREM (shape; LID,My.* are yours):
   My.Adr: a structure of the addresses that your layer names (classes,functions); My.Txt K t: a structure (Prop) of the equations over K;
   My.txt_mk:{K}{implicit addresses ..} (e1:nsIn K mainGlobals "law" = some (some (.ref f))) (e2:K.lookup f=some ⟨oc,od,.func (fnOf "law" "law" params body scope dV kV doc pm an cdv ct),sl⟩) (e3:codeIn K cdv "law" = true) ..:∃t,My.Txt K t
set_option maxRecDepth 100000 in
set_option maxHeartbeats 0 in
theorem PySem.Challenge.cw_LID_holds : PySem.Challenge.rw_LID.Holds := by
 w_on; o_law; k_head; (case hw=>w_witness2)
 k_fill
 refine L2.walk_of (l:=PySem.Challenge.rw_LID) (n:=63) (k:=40) (x:="script") (CX:=fun w=>..) (sp:=fun _=>My.sp_law) rfl (by decide) rfl ⟨rfl,by decide,by decide⟩ (fun w h Y=>PySem.W.kIn_of Y) ?F ?S ?C
 case F =>
  intro w mg fa h KX G hmg
  have T:∃t,My.Txt (L2.KOf KX) t:=by
   dsimp only [L2.KOf]                          -- K must stand as «<heap const> w.params» for k_is
   refine' My.txt_mk ?e1 ?e2 ?e3 ..
   (case e1=>PySem.W.k_is)                    -- in the order: a name -> its address -> its object -> its parts
   (case e2=>PySem.W.k_is)
   ..
  obtain ⟨t,T⟩:=T;have e0:=hmg.symm.trans (PySem.W.mg_of KX G T.law);cases e0                                       -- fa is the law's own address
  exact ⟨_,fun s u=>.of_eq rfl,fun base kb nb=>My.law_fn T kb nb⟩     -- if «.of_eq rfl» comes too early: refine' ⟨_,?b,fun base kb nb=>My.law_fn T kb nb⟩; exact fun s u=>.of_eq rfl
 case S=>exact fun w H a ns hl hO hS=>..
 case C=>exact ..
(the tactic k_is has no namespace: write k_is) -/
namespace L2
open PySem PySem.Spec PyProof.Rows
def inClass (s:Stmt) (j:Nat):Stmt:=match s with
 | .ClassDef _ _ _ body _ _ _ _ _ _ _=>body.getD j (.Pass ⟨0,0,0,0⟩)
 | _=>.Pass ⟨0,0,0,0⟩
def QbD (s:Stmt):Arguments:=match s with
 | .FunctionDef _ a _ _ _ _ _ _ _ _=>a
 | _=>{ posonlyargs:=[],args:=[],vararg:=none,kwonlyargs:=[],kw_defaults:=[],kwarg:=none,defaults:=[] }
def QaX (s:Stmt):List Stmt:=match s with
 | .FunctionDef _ _ b _ _ _ _ _ _ _=>b
 | _=>[]
def Qaj (s:Stmt):Scope:=match s with
 | .FunctionDef _ _ _ _ _ _ sc _ _ _=>sc
 | _=>{ kind:=.function,names:=[],isGenerator:=false,isCoroutine:=false }
abbrev CX0:CXT:=fun _ _ _ _ _ _=>False
abbrev E0:XK:=fun _ _ _=>False
theorem QkE {X:Cx}:QeJ CX0 X E0:=fun _ _ _ _ _ _ _ h=>h.elim
structure Fun (K:PySem.W.Frag) (x qual:Str) (st:Stmt) (f:Addr) (fd:FuncData):Prop where
 ex:∃(oc:Value) (od:Option Addr) (kV doc pm:Value) (an:Option Addr) (cdv ct:Value) (osl:Array (Option Value)),
  fd=PySem.W.fnOf x qual (QbD st) (QaX st) (Qaj st) .none kV doc pm an cdv ct∧K.lookup f=some ⟨oc,od,.func fd,osl⟩∧PySem.W.codeIn K cdv qual=true
 kp:PySem.W.keepIn K (.ref f)=true
section
variable {P:Program}{w:World}{K:PySem.W.Frag}{mg:Str→Option Value}{base:Heap}
theorem Fun.ok {x qual:Str}{st:Stmt}{f:Addr}{fd:FuncData}{N ps:List Str}{k:Nat}{sp:Sp} (F:Fun K x qual st f fd) (S:QaI N ps (Qaj st)) (len:∀vs H Q E,sp vs H Q E→vs.length=ps.length)
  (hbody:∀(cdv:Value) (A:Around) (outer:List Env) (s:Shared) (H:Hp) (vs:List V) (Q:VK) (E:XK),QaG k (A.deeper (envOfC qual (Qaj st) s.heap.objs.size f cdv))→sp vs H Q E →
   ∃t,PSs (Qcy CX0 P w K mg base N qual (Qaj st) f cdv A outer s H E).nox (QaX st) t∧t { nx:=fun _ H'=>Q .non H',rt:=Q } (start N vs) H):Qbp P w K mg base CX0 (k+1) f fd ps sp:=by
 obtain ⟨oc,od,kV,doc,pm,an,cdv,ct,osl,rfl,lk,hcd⟩:=F.ex
 refine Qns lk hcd S len fun A outer s H vs Q E hr hsp=>?_
 obtain ⟨t,h,q⟩:=hbody cdv A outer s H vs Q E hr hsp;exact ⟨t,h.nox,q⟩
theorem Fun.binds {x qual:Str}{st:Stmt}{f:Addr}{fd:FuncData}{ps:List Str} (F:Fun K x qual st f fd)
  (h:∀(kV doc pm:Value) (an:Option Addr) (cdv ct:Value) (us:List Value),us.length=ps.length→bindArgs (PySem.W.fnOf x qual (QbD st) (QaX st) (Qaj st) .none kV doc pm an cdv ct) ⟨us,[]⟩=pure (ps.zip us)):Binds K fd ps []:=by
 obtain ⟨oc,od,kV,doc,pm,an,cdv,ct,osl,rfl,lk,hcd⟩:=F.ex;exact .all (h kV doc pm an cdv ct)
theorem Qhv {x qual:Str}{st:Stmt}{f:Addr}{oc:Value}{od an:Option Addr}{osl:Array (Option Value)}{kV doc pm cdv ct:Value} (l:K.lookup f=some ⟨oc,od,.func (PySem.W.fnOf x qual (QbD st) (QaX st) (Qaj st) .none kV doc pm an cdv ct),osl⟩)
  (c:PySem.W.codeIn K cdv qual=true) (k:PySem.W.keepIn K (.ref f)=true):Fun K x qual st f (PySem.W.fnOf x qual (QbD st) (QaX st) (Qaj st) .none kV doc pm an cdv ct):=⟨⟨oc,od,kV,doc,pm,an,cdv,ct,osl,rfl,l,c⟩,k⟩
end
theorem QnF {A:Around}{k:Nat} (hr:QaG k A):A.units+1 < cLine:=Nat.lt_of_le_of_lt (Nat.add_le_add_left (by decide:1≤64) _) hr.units
section
variable {X:Cx}
end
def Same (H H':Hp):Prop:=∀b o,H b=some o→H' b=some o
theorem Same.refl (H:Hp):Same H H:=fun _ _ h=>h
theorem Same.trans {H H1 H2:Hp} (a:Same H H1) (b:Same H1 H2):Same H H2:=fun c o h=>b c o (a c o h)
theorem Same.free {H H':Hp} (e:Same H H') {l:Addr} (h:H' l=Option.none):H l=Option.none:=by
 cases q:H l with
 | none=>rfl
 | some o =>
  rw [e l o q] at h;cases h
theorem Same.seq {K:PySem.W.Frag}{H H':Hp}{a:Addr}{xs:List V} (e:Same H H') (h:SqL K H a xs):SqL K H' a xs:=by
 rcases h with (h | ⟨o,h⟩) | h
 ·exact .inl (.inl (e _ _ h))
 ·exact .inl (.inr ⟨o,e _ _ h⟩)
 ·exact .inr h
section
variable {κ:Type} [DecidableEq κ]
def Qds (kvs:List (κ×V)) (k:κ):Option V:=(kvs.find? fun kv=>decide (kv.1=k)).map (·.2)
def putK (kvs:List (κ×V)) (k:κ) (v:V):List (κ×V) :=
 if (kvs.any fun kv=>decide (kv.1=k))=true then kvs.map (fun kv=>if kv.1=k then (kv.1,v) else kv) else kvs ++ [(k,v)]
def QqZ (kvs:List (κ×V)) (k:κ):List (κ×V):=kvs.filter fun kv=>decide (kv.1≠k)
theorem QfH {p:κ×V}{r:List (κ×V)}{k:κ} (e:p.1=k):Qds (p::r) k=some p.2:=by simp [Qds,List.find?_cons,e]
theorem QfN {p:κ×V}{r:List (κ×V)}{k:κ} (e:¬p.1=k):Qds (p::r) k=Qds r k:=by simp [Qds,List.find?_cons,e]
theorem QlO (k:κ):∀kvs:List (κ×V),(kvs.any fun kv=>decide (kv.1=k))=(Qds kvs k).isSome
 | []=>rfl
 | p::r=>by
  rw [List.any_cons]
  by_cases e:p.1=k
  ·simp only [QfH e,zl e,Bool.true_or,Option.isSome_some]
  ·rw [QfN e,zn e,Bool.false_or]; exact QlO k r
theorem Qin (kvs:List (κ×V)) (k:κ) (v:V):(putK kvs k v).length≤kvs.length+1:=by
 unfold putK
 split
 ·rw [zp]; omega
 ·rw [zF,zJ,List.length_nil]; omega
theorem QcI.isSome_eq {o:Option V}{u:Option Value} (r:QcI o u):o.isSome=u.isSome:=by
 cases o with
 | none=>cases u with
  | none=>rfl
  | some _=>exact (show False from r).elim
 | some _=>cases u with
  | none=>exact (show False from r).elim
  | some _=>rfl
theorem QcI.getD {o:Option V}{u:Option Value}{d:V}{d':Value} (r:QcI o u) (rd:RelV d d'):RelV (o.getD d) (u.getD d'):=by
 cases o with
 | none=>cases u with
  | none=>exact rd
  | some _=>exact (show False from r).elim
 | some _=>cases u with
  | none=>exact (show False from r).elim
  | some _=>exact r
theorem KV.val {kvs:List (κ×V)}{vs:List (κ×Value)} (r:KV kvs vs) (k:κ):QcI (Qds kvs k) (valueAt vs k):=by
 unfold KV at r
 induction r with
 | nil=>exact True.intro
 | @cons p q ps qs h t ih =>
  obtain ⟨h1,h2⟩:=h
  by_cases e:p.1=k
  ·have e':q.1=k:=h1.symm.trans e
   have b:valueAt (q::qs) k=some q.2:=by simp [valueAt,List.find?_cons,e']
   rw [QfH e,b]; exact h2
  ·have e':¬q.1=k:=fun z=>e (h1.trans z)
   have b:valueAt (q::qs) k=valueAt qs k:=by simp [valueAt,List.find?_cons,e']
   rw [QfN e,b]; exact ih
theorem KV.any {kvs:List (κ×V)}{vs:List (κ×Value)} (r:KV kvs vs) (k:κ):(kvs.any fun kv=>decide (kv.1=k))=vs.any fun kv=>decide (kv.1=k):=by
 unfold KV at r
 induction r with
 | nil=>rfl
 | cons h t ih=>rw [List.any_cons,List.any_cons,ih,h.1]
theorem KV.repl {kvs:List (κ×V)}{vs:List (κ×Value)} (r:KV kvs vs) (k:κ) {y:V}{u:Value} (ry:RelV y u) :
  KV (kvs.map fun kv=>if kv.1=k then (kv.1,y) else kv) (vs.map fun kv=>if kv.1=k then (kv.1,u) else kv):=by
 unfold KV at r ⊢
 induction r with
 | nil=>exact .nil
 | @cons p q ps qs h t ih =>
  rw [zg,zg];refine .cons ?_ ih;obtain ⟨h1,h2⟩:=h
  by_cases e:p.1=k
  ·rw [if_pos e,if_pos (h1.symm.trans e)]; exact ⟨h1,ry⟩
  ·rw [if_neg e,if_neg (fun z=>e (h1.trans z))]; exact ⟨h1,h2⟩
theorem KV.put {kvs:List (κ×V)}{vs:List (κ×Value)} (r:KV kvs vs) (k:κ) {y:V}{u:Value} (ry:RelV y u):KV (putK kvs k y) (stored vs k u):=by
 unfold putK stored;rw [r.any k]
 by_cases e:(vs.any fun kv=>decide (kv.1=k))=true
 ·rw [if_pos e,if_pos e]; exact r.repl k ry
 ·rw [if_neg e,if_neg e]; exact Paired.snoc r ⟨rfl,ry⟩
theorem KV.drop {kvs:List (κ×V)}{vs:List (κ×Value)} (r:KV kvs vs) (k:κ):KV (QqZ kvs k) (without vs k):=by
 unfold KV at r ⊢;unfold QqZ without
 induction r with
 | nil=>exact .nil
 | @cons p q ps qs h t ih =>
  obtain ⟨h1,h2⟩:=h;rw [List.filter_cons,List.filter_cons]
  by_cases e:p.1=k
  ·have a:¬decide (p.1≠k)=true:=by simp [e]
   have b:¬decide (q.1≠k)=true:=by simp [h1.symm.trans e]
   rw [if_neg a,if_neg b]; exact ih
  ·have e':¬q.1=k:=fun z=>e (h1.trans z)
   have a:decide (p.1≠k)=true:=by simp [e]
   have b:decide (q.1≠k)=true:=by simp [e']
   rw [if_pos a,if_pos b]; exact .cons ⟨h1,h2⟩ ih
theorem KV.keys {kvs:List (κ×V)}{vs:List (κ×Value)} (r:KV kvs vs):kvs.map (·.1)=vs.map (·.1):=by
 unfold KV at r
 induction r with
 | nil=>rfl
 | cons h t ih=>rw [zg,zg,ih,h.1]
theorem KV.length {kvs:List (κ×V)}{vs:List (κ×Value)} (r:KV kvs vs):kvs.length=vs.length:=Paired.length r
end
theorem QkD {P:Program}{w:World}{k:Key}{u:Value} (r:RelV (kV k) u):(Qbx P w).is k u=true:=by
 cases k with
 | inl i=>obtain ⟨t,e⟩:=(show ∃t,u=Value.int i t from r); subst e; exact Ql0 P w i t
 | inr x=>obtain ⟨t,e⟩:=(show ∃t,u=Value.str x t from r); subst e; exact QlV P w x t
theorem Qku {P:Program}{w:World}:∀{ks:List Key}{us:List Value},Qax (ks.map kV) us→ItemsAre (Qbx P w) ks us
 | [],_,r=>by rw [zY] at r; cases r; exact .nil
 | k::ks,_,r=>by
  rw [zg] at r
  cases r with
  | cons h t=>exact .cons (QkD h) (Qku t)
abbrev KT (H:Hp):List (List Key×V)→List (List Key×Addr×Value)→Prop:=Paired fun p q=>p.1=q.1∧H q.2.1=some (.tup (p.1.map kV))∧RelV p.2 q.2.2
theorem KT.val {H:Hp}{kvs:List (List Key×V)}{xs:List (List Key×Addr×Value)} (r:KT H kvs xs) (k:List Key):QcI (Qds kvs k) ((atKey xs k).map (·.2)):=by
 induction r with
 | nil=>exact True.intro
 | @cons p q ps qs h t ih =>
  obtain ⟨h1,_,h2⟩:=h
  by_cases e:p.1=k
  ·have e':q.1=k:=h1.symm.trans e
   have b:atKey (q::qs) k=some q.2:=by simp [atKey,List.find?_cons,e']
   rw [QfH e,b]; exact h2
  ·have e':¬q.1=k:=fun z=>e (h1.trans z)
   have b:atKey (q::qs) k=atKey qs k:=by simp [atKey,List.find?_cons,e']
   rw [QfN e,b]; exact ih
theorem KT.repl {H:Hp}{kvs:List (List Key×V)}{xs:List (List Key×Addr×Value)} (r:KT H kvs xs) (k:List Key) {y:V}{u:Value} (ry:RelV y u) :
  KT H (kvs.map fun kv=>if kv.1=k then (kv.1,y) else kv) (xs.map (putAt k u)):=by
 induction r with
 | nil=>exact .nil
 | @cons p q ps qs h t ih =>
  rw [zg,zg];refine .cons ?_ ih;obtain ⟨h1,h2,h3⟩:=h;unfold putAt
  by_cases e:p.1=k
  ·rw [if_pos e,if_pos (h1.symm.trans e)]; exact ⟨h1,h2,ry⟩
  ·rw [if_neg e,if_neg (fun z=>e (h1.trans z))]; exact ⟨h1,h2,h3⟩
theorem KT.put {H:Hp}{kvs:List (List Key×V)}{xs:List (List Key×Addr×Value)} (r:KT H kvs xs) (k:List Key) {b:Addr}{y:V}{u:Value} (hb:H b=some (.tup (k.map kV))) (ry:RelV y u) :
  KT H (putK kvs k y) (storedH xs k b u):=by
 have e:(kvs.any fun kv=>decide (kv.1=k))=(atKey xs k).isSome:=by
  rw [QlO,(r.val k).isSome_eq,Option.isSome_map]
 unfold putK storedH;rw [e]
 by_cases q:(atKey xs k).isSome=true
 ·rw [if_pos q,if_pos q]; exact r.repl k ry
 ·rw [if_neg q,if_neg q]; exact Paired.snoc r ⟨rfl,hb,ry⟩
theorem KT.keeps {H H':Hp}{kvs:List (List Key×V)}{xs:List (List Key×Addr×Value)} (r:KT H kvs xs) (ht:∀b ys,H b=some (.tup ys)→H' b=some (.tup ys)):KT H' kvs xs :=
 Paired.mapP r fun _ _ z=>⟨z.1,ht _ _ z.2.1,z.2.2⟩
section
variable {P:Program}{w:World}{H:Hp}{h:Heap}{a:Addr}
theorem Qq7 {u:HO} (ok:HOk P w H h) (e:Rd H a u):Qbb P w H h a u:=e.ok ok
theorem QkH {kvs:List (Key×V)} (ok:HOk P w H h) (e:Rd H a (.dK kvs)):kvs.length≤sizeLine∧(a == sysModules)=false∧∃vs,KV kvs vs∧h.DictOf (Qbx P w) a vs :=
 show Qbb P w H h a (.dK kvs) from Qq7 ok e
theorem Qha {kvs:List (Key×V)} (ok:HOk P w H h) (e:H a=some (.dK kvs)):kvs.length≤sizeLine∧(a == sysModules)=false∧∃vs,KV kvs vs∧h.DictOf (Qbx P w) a vs:=QkH ok (.inl e)
theorem Qi9 {ks:List Key} (ok:HOk P w H h) (e:H a=some (.tup (ks.map kV))):(tupleKind (Qbx P w)).is h ks a:=by
 obtain ⟨_,its,r,o,h1,h2,n,h3⟩:=(show Qbb P w H h a (.tup (ks.map kV)) from ok a _ e);exact ⟨o,its.toArray,n,h1,h2,h3,by simpa using Qku r⟩
theorem QkJ {kvs:List (List Key×V)} (ok:HOk P w H h) (e:Rd H a (.dT kvs)):kvs.length≤sizeLine∧(a == sysModules)=false ∧
  ∃xs,KT H kvs xs∧h.DictOfH (tupleKind (Qbx P w)) a xs:=by
 obtain ⟨z,y,xs,r,o,es,ep,h1,h2,h3,h4,h5⟩:=(show Qbb P w H h a (.dT kvs) from Qq7 ok e);refine ⟨z,y,xs,r,o,es,ep,h1,h2,h3,h4,fun x hx=>?_,h5⟩
 have all:∀{l:List (List Key×V)}{m:List (List Key×Addr×Value)},KT H l m→∀x∈m,(tupleKind (Qbx P w)).is h x.1 x.2.1:=by
  intro l m q
  induction q with
  | nil=>intro x hx; exact nomatch hx
  | @cons p q ps qs hq t ih =>
   intro x hx
   rcases zm.mp hx with e | hx
   ·subst e;exact Qi9 ok (by rw [←hq.1]; exact hq.2.1)
   ·exact ih x hx
 exact all r x hx
theorem QvG {kvs:List (List Key×V)} (ok:HOk P w H h) (e:H a=some (.dT kvs)):kvs.length≤sizeLine∧(a == sysModules)=false ∧
  ∃xs,KT H kvs xs∧h.DictOfH (tupleKind (Qbx P w)) a xs:=QkJ ok (.inl e)
end
def Qgo (H:Hp) (a:Addr) (y:V) (r:Option V):Prop :=
 (∃kvs k,Rd H a (.dK kvs)∧y=kV k∧r=Qds kvs k)∨∃kvs k b,Rd H a (.dT kvs)∧y = .ref b∧H b=some (.tup (k.map kV))∧r=Qds kvs k
def Qiw (H:Hp) (a:Addr) (y v:V) (H':Hp):Prop :=
 (∃kvs k,H a=some (.dK kvs)∧y=kV k∧kvs.length < sizeLine∧H'=upd H a (.dK (putK kvs k v))) ∨
 ∃kvs k b,H a=some (.dT kvs)∧y = .ref b∧H b=some (.tup (k.map kV))∧kvs.length < sizeLine∧H'=upd H a (.dT (putK kvs k v))
theorem Qgo.k {H:Hp}{a:Addr}{kvs:List (Key×V)}{k:Key} (e:H a=some (.dK kvs)):Qgo H a (kV k) (Qds kvs k):=.inl ⟨kvs,k,.inl e,rfl,rfl⟩
theorem Qgo.t {H:Hp}{a b:Addr}{kvs:List (List Key×V)}{k:List Key} (e:H a=some (.dT kvs)) (eb:H b=some (.tup (k.map kV))):Qgo H a (.ref b) (Qds kvs k):=.inr ⟨kvs,k,b,.inl e,rfl,eb,rfl⟩
theorem Qiw.k {H:Hp}{a:Addr}{kvs:List (Key×V)}{k:Key}{v:V} (e:H a=some (.dK kvs)) (hl:kvs.length < sizeLine):Qiw H a (kV k) v (upd H a (.dK (putK kvs k v))):=.inl ⟨kvs,k,e,rfl,hl,rfl⟩
theorem Qiw.t {H:Hp}{a b:Addr}{kvs:List (List Key×V)}{k:List Key}{v:V} (e:H a=some (.dT kvs)) (eb:H b=some (.tup (k.map kV))) (hl:kvs.length < sizeLine) :
  Qiw H a (.ref b) v (upd H a (.dT (putK kvs k v))):=.inr ⟨kvs,k,b,e,rfl,eb,hl,rfl⟩
section
variable {X:Cx}{pins:List (Addr×Obj)}{σ:St}{H:Hp}{s:Shared}{a:Addr}{y v:V}{u r:Value}{o:Option V}{A:Around}{E:Value→Shared→Prop}
theorem Inv.big (I:Inv X pins σ H s):sysModules < s.heap.objs.size:=by
 have h:mainGlobals < s.heap.objs.size:=(I.mod.glob.keeps I.bk).lt;exact Nat.lt_trans (by decide) h
theorem Qn5 {Q:Value→Shared→Prop} (hu:A.units+1 < cLine) (I:Inv X pins σ H s) (g:Qgo H a y (some v)) (ry:RelV y u) (h:∀w' s',Inv X pins σ H s'→RelV v w'→Q w' s') :
  wpAny (model X.prog X.w) A (getItem (.ref a) u) Q E s:=by
 rcases g with ⟨kvs,k,e,ey,l⟩ | ⟨kvs,k,b,e,ey,eb,l⟩
 ·subst ey;obtain ⟨z,hd,vs,rel,dd⟩:=QkH I.hok e;obtain ⟨w',hw,rw'⟩:=QcI.some_of (v:=v) (o:=valueAt vs k) (by rw [l]; exact rel.val k);exact wpAny_getItem_of (QkD ry) dd.mapOf hw (h w' _ (I.tok _) rw')
 ·subst ey;cases (show u=Value.ref b from ry);obtain ⟨z,hd,xs,rel,dd⟩:=QkJ I.hok e;obtain ⟨w',hw,rw'⟩:=QcI.some_of (v:=v) (o:=(atKey xs k).map (·.2)) (by rw [l]; exact rel.val k);obtain ⟨p,hp,hp2⟩:=jl.mp hw;refine wpAny_getItem_heap (tupleKind_room_in1 hu) (Qi9 I.hok eb) dd hp ?_;rw [hp2];exact h w' _ (I.tok _) rw'
theorem Qr7 {Q:Value→Shared→Prop} (hu:A.units+1 < cLine) (I:Inv X pins σ H s) (g:Qgo H a y o) (ry:RelV y u) (h:∀s',Inv X pins σ H s'→Q (.bool (!o.isSome)) s') :
  wpAny (model X.prog X.w) A (compareOp .NotIn u (.ref a)) Q E s:=by
 rcases g with ⟨kvs,k,e,ey,l⟩ | ⟨kvs,k,b,e,ey,eb,l⟩
 ·subst ey;obtain ⟨z,hd,vs,rel,dd⟩:=QkH I.hok e;refine wpAny_notIn_of (QkD ry) hd dd.mapOf ?_;rw [←(rel.val k).isSome_eq,←l];exact h _ (I.tok _)
 ·subst ey;cases (show u=Value.ref b from ry);obtain ⟨z,hd,xs,rel,dd⟩:=QkJ I.hok e;refine wpAny_notIn_heap (tupleKind_room_in1 hu) (Qi9 I.hok eb) hd dd ?_;have q:=(rel.val k).isSome_eq;rw [Option.isSome_map] at q;rw [←q,←l];exact h _ (I.tok _)
theorem Ql9 {h':Heap}{t':Nat}{ob:HO} (I:Inv X pins σ H s) (mu:Mut (H a)) (hs:Heap.SameBut a s.heap h') (he:∃q,h'.get? a=some q) (new:Qbb X.prog X.w (upd H a ob) h' a ob) :
  Inv X pins σ (upd H a ob) { s with heap:=h',toks:=t' } :=
 I.write (x:=a) (e:=a) mu (.inl rfl) (fun b q hb z=>(hs.2 b hb).trans z) he new
theorem QsV {P:Program}{w:World}{H':Hp}{h':Heap}{kvs:List (Key×V)}{vs:List (Key×Value)} (z:kvs.length≤sizeLine) (hd:(a == sysModules)=false) (rel:KV kvs vs) (dd:h'.DictOf (Qbx P w) a vs) :
  Qbb P w H' h' a (.dK kvs):=⟨z,hd,vs,rel,dd⟩
theorem QoC {H':Hp}{Q:Unit→Shared→Prop} (hu:A.units+1 < cLine) (I:Inv X pins σ H s) (g:Qiw H a y v H') (ry:RelV y u) (rv:RelV v r) (h:∀s',Inv X pins σ H' s'→Q () s') :
  wpAny (model X.prog X.w) A (setItem (.ref a) u r) Q E s:=by
 rcases g with ⟨kvs,k,e,ey,l,eH⟩ | ⟨kvs,k,b,e,ey,eb,l,eH⟩
 ·subst ey eH;obtain ⟨z,hd,vs,rel,dd⟩:=Qha I.hok e
  have hz:vs.length≤sizeLine:=by rw [←rel.length]; exact z
  have hl:(putK kvs k v).length≤sizeLine:=by have:=Qin kvs k v; omega
  refine wpAny_setItem_pairs (hsz:=hz) (QkD ry) dd fun h' dd' hs=>h _ ?_
  have he:∃q,h'.get? a=some q:=let ⟨q,_,_,hq,_⟩:=dd'; ⟨q,hq⟩;exact Ql9 I (by rw [e]; exact True.intro) hs he (QsV hl hd (rel.put k rv) dd')
 ·subst ey eH;cases (show u=Value.ref b from ry);obtain ⟨z,hd,xs,rel,dd⟩:=QvG I.hok e
  have hz:xs.length≤sizeLine:=by rw [←Paired.length rel]; exact z
  have hl:(putK kvs k v).length≤sizeLine:=by have:=Qin kvs k v; omega
  refine wpAny_setItem_heap (hsz:=hz) (tupleKind_room_in1 hu) (Qi9 I.hok eb) dd fun h' dd' hs=>h _ ?_
  obtain ⟨q,es,ep,hq,h2,h3,h4,_,h5⟩:=dd';refine Ql9 I (by rw [e]; exact True.intro) hs ⟨q,hq⟩ ⟨hl,hd,_,(rel.put k eb rv).keeps fun c ys ec=>?_,q,es,ep,hq,h2,h3,h4,h5⟩;rw [Qah (ne_of ec e (fun z=>nomatch z))];exact ec
end
section
variable {X:Cx}{pins:List (Addr×Obj)}{σ:St}{H:Hp}{s:Shared}{a:Addr}{kvs:List (Key×V)}{k:Key}{u:Value}{A:Around}{E:Value→Shared→Prop}
end
def Qtg (i:Expr):Prop:=∀ov iv,subscripted i false ov iv=operate [ov,iv] (getItem ov iv)
theorem QrO {prog:Program}{w:World}{A:Around}{E:Value→Shared→Prop}{s:Shared}{env:Env}{value slice:Expr}{pos:Pos}{T id:String}{Q:Value→Shared→Prop}
  (hl:typeLookup (.type T) "__getitem__" = pure (some (.builtin id))) (hs:Qtg slice)
  (h:wpAny (model prog w) A (eval value env) (fun o s₁=>wpAny (model prog w) A (eval slice env) (fun i s₂=>s₂.TypeIs o T∧wpAny (model prog w) A (getItem o i) Q E s₂) E s₁) E s) :
  wpAny (model prog w) A (eval (.Subscript value slice pos) env) Q E s:=by
 refine Subscript_ (zr h (fun o s₁ h₁=>zr h₁ (fun i s₂ h₂=>?_) fun _ _ x=>x) fun _ _ x=>x);obtain ⟨hT,h₂⟩:=h₂;unfold subscriptTail;refine zc ?_;rw [getitemInPython_of_ne hT.not_modules];refine zc (wpAny_specialOf hT hl ?_)
 have fin:wpAny (model prog w) A (subscripted slice false o i) (fun r s₃=>wpAny (model prog w) A (letTemporaryGo value o r >>= fun _=>pure r) Q E s₃) E s₂:=by
  rw [hs o i];exact wpAny_operating (zr h₂ (fun r s₃ h₃=>zc (wpAny_letTemporaryGo (zd h₃))) fun _ _ x=>x)
 first
  | exact zd (zc fin)
  | exact zc (zd (zc fin))
  | exact zc fin
theorem QlX {X:Cx}{pins:List (Addr×Obj)}{σ:St}{H:Hp}{s:Shared}{a:Addr}{y:V}{o:Option V} (I:Inv X pins σ H s) (g:Qgo H a y o):s.TypeIs (.ref a) "dict":=by
 rcases g with ⟨kvs,k,e,_,_⟩ | ⟨kvs,k,b,e,_,_,_⟩
 ·obtain ⟨_,_,vs,_,dd⟩:=QkH I.hok e;exact dd.typeIs
 ·obtain ⟨_,_,xs,_,dd⟩:=QkJ I.hok e;exact dd.typeIs
def Qvy (td ty:TE):TE:=fun σ H Q=>td σ H fun x H1=>ty σ H1 fun y H2=>∃a v,x = .ref a∧Qgo H2 a y (some v)∧Q v H2
def QmD (ty td:TE):TE:=fun σ H Q=>ty σ H fun y H1=>td σ H1 fun x H2=>∃a o,x = .ref a∧Qgo H2 a y o∧Q (.bl (!o.isSome)) H2
def QvP (td ty tv:TE):TS:=fun D σ H=>tv σ H fun v H1=>td σ H1 fun x H2=>ty σ H2 fun y H3=>∃a H4,x = .ref a∧Qiw H3 a y v H4∧D.nx σ H4
section
variable {X:Cx}{o i e value:Expr}{pos pos' tpos:Pos}{td ty tv:TE}
theorem QrT (hu:X.A.units+1 < cLine) (ho:PE X o td) (hi:PE X i ty) (hs:Qtg i):PE X (.Subscript o i pos) (Qvy td ty):=by
 intro pins s σ H Q I h;refine QrO PySem.F.slot_dict_getitem.lookup hs (thn (ho pins s σ H _ I h) fun u s1 ⟨x,H1,I1,rx,q1⟩=>thn (hi pins s1 σ H1 _ I1 q1) fun iv s2 ⟨y,H2,I2,ry,a,v,ex,g,q2⟩=>?_);subst ex;obtain rfl:u=Value.ref a:=rx;exact ⟨QlX I2 g,Qn5 hu I2 g ry fun w' s3 I3 rw'=>⟨v,H2,I3,rw',q2⟩⟩
theorem QnX (hu:X.A.units+1 < cLine) (hi:PE X i ty) (ho:PE X o td):PC X .NotIn i o (QmD ty td):=by
 intro pins s σ H Q I h
 refine thn (hi pins s σ H _ I h) fun iv s1 ⟨y,H1,I1,ry,q1⟩=>thn (ho pins s1 σ H1 _ I1 q1) fun u s2 ⟨x,H2,I2,rx,a,ov,ex,g,q2⟩=>?_
 subst ex;obtain rfl:u=Value.ref a:=rx
 exact Qr7 hu I2 g ry fun s3 I3=>⟨.bl (!ov.isSome),H2,I3,rfl,q2⟩
theorem Qsv (hu:X.A.units+1 < cLine) (ho:PE X o td) (hi:PE X i ty) (hv:PE X value tv) (hs:swapsWith value (some (.Subscript o i pos')) pos.line X.env=pure false) :
  PS X (.Assign [.Subscript o i pos'] value pos) (QvP td ty tv):=by
 intro pins s σ H D I h;refine wpAny_Assign_Subscript (thn (hv pins s σ H _ I h) fun r s1 ⟨v,H1,I1,rv,q1⟩=>thn (ho pins s1 σ H1 _ I1 q1) fun u s2 ⟨x,H2,I2,rx,q2⟩=>thn (hi pins s2 σ H2 _ I2 q2) fun iv s3 ⟨y,H3,I3,ry,a,H4,ex,g,q3⟩=>?_) hs;subst ex;obtain rfl:u=Value.ref a:=rx
 exact QoC hu I3 g ry rv fun s4 I4=>⟨σ,H4,I4,q3⟩
end
theorem QpU {P:Program}{w:World}{H:Hp} (h:Heap) (hb:sysModules < h.objs.size):Qbb P w H (h.push { cls:=.type "dict",data:=.dict #[] }) h.objs.size (.dK []) :=
 ⟨Nat.zero_le _,beq_eq_false_iff_ne.mpr (Ne.symm (zq hb)),[],.nil,Heap.DictOf.new h⟩
def QsU:TE:=fun _ H Q=>∀p,H p=none→Q (.ref p) (upd H p (.dK []))
section
variable {X:Cx}{pos:Pos}
theorem Qls:PE X (.Dict [] [] pos) QsU:=fun pins s σ H Q I h =>
 wpAny_Dict_empty ⟨.ref s.heap.objs.size,_,I.laid (a:=s.heap.objs.size) (o:=.dK []) (t':=s.toks) (fun _ _ q=>zh _ q) (ze _) (QpU s.heap I.big),rfl,h _ (I.hok.fresh (ze _))⟩
end
def QkO:List (TE×TE)→St→Hp→(List (V×V)→Hp→Prop)→Prop
 | [],_,H,Q=>Q [] H
 | (tk,tv)::r,σ,H,Q=>tk σ H fun x H1=>tv σ H1 fun y H2=>QkO r σ H2 fun ps H3=>Q ((x,y)::ps) H3
abbrev VV:List (V×V)→List (Value×Value)→Prop:=Paired fun p q=>RelV p.1 q.1∧RelV p.2 q.2
def PPs (X:Cx) (pos:Pos) (keys:List (Option Expr)) (values:List Expr) (trs:List (TE×TE)):Prop :=
 ∀(pins:List (Addr×Obj)) (s:Shared) (σ:St) (H:Hp) (Q:List (V×V)→Hp→Prop),Inv X pins σ H s→QkO trs σ H Q →
  wpAny (model X.prog X.w) X.A (evalPairs (pairTrees keys values X.env pos)) (fun vs s'=>∃ps H',Inv X pins σ H' s'∧VV ps vs∧Q ps H') X.xe s
structure M1 (X:Cx) (o:Expr) (m:Str) (apos:Pos) (e:Expr) (cpos:Pos):Prop where
 base:attributeBase o m X.env (eval o X.env)=eval o X.env
 few:((backTo cpos (starEach [e] X.env)).all (fun x=>!x.1)&&(backToKw cpos (keywordEach [] X.env)).all (fun x=>x.1.isSome)
  && decide (([e]:List Expr).length+([]:List Keyword).length+(if ([]:List Keyword).isEmpty then 0 else 1) < 30))=true
 line:(apos.endLine == cpos.line)=true
 trees:backTo cpos (starEach [e] X.env) = [(false,eval e X.env)]
structure M2 (X:Cx) (o:Expr) (m:Str) (apos:Pos) (e f:Expr) (cpos:Pos):Prop where
 base:attributeBase o m X.env (eval o X.env)=eval o X.env
 few:((backTo cpos (starEach [e,f] X.env)).all (fun x=>!x.1)&&(backToKw cpos (keywordEach [] X.env)).all (fun x=>x.1.isSome)
  && decide (([e,f]:List Expr).length+([]:List Keyword).length+(if ([]:List Keyword).isEmpty then 0 else 1) < 30))=true
 line:(apos.endLine == cpos.line)=true
 trees:backTo cpos (starEach [e,f] X.env) = [(false,eval e X.env),(false,eval f X.env)]
section
variable {X:Cx}{pins:List (Addr×Obj)}{σ:St}{H:Hp}{s:Shared}{a:Addr}{y d:V}{u r:Value}{o:Option V}{A:Around}{E:Value→Shared→Prop}
end
section
variable {X:Cx}{o e f:Expr}{apos cpos:Pos}{td ty tx:TE}
end
section
variable {X:Cx}{pins:List (Addr×Obj)}{σ:St}{H:Hp}{s:Shared}{a:Addr}{kvs:List (Key×V)}{A:Around}{E:Value→Shared→Prop}
end
section
variable {X:Cx}{pins:List (Addr×Obj)}{σ:St}{H:Hp}{s:Shared}{a:Addr}{y:V}{u:Value}{A:Around}{E:Value→Shared→Prop}
end
section
variable {X:Cx}
end
section
variable {κ:Type} [DecidableEq κ]
end
def Qeb (cells:List (Str×Addr)):List (Str×NameKind)→List (Str×Addr)→List (Str×Addr)
 | [],acc=>acc
 | (n,k)::r,acc=>if k == .free then Qeb cells r ((n,(cells.lookup n).getD 0)::acc) else Qeb cells r acc
def QeS (scope:Scope) (env:Env):List (Str×Addr):=Qeb env.cells scope.names []
theorem Qhd {scope:Scope}{env:Env} (hf:∀y∈scope.names,y.2 = .free→∃c,env.cells.lookup y.1=some c):closureFor scope env=pure (QeS scope env):=by
 simp only [closureFor,QeS]
 generalize ([]:List (Str×Addr))=acc
 generalize scope.names=names at hf
 induction names generalizing acc with
 | nil=>rfl
 | cons y r ih =>
  obtain ⟨n,k⟩:=y
  have hr:=fun a=>ih a fun z hz=>hf z (zw _ hz)
  by_cases hk:k = .free
  ·obtain ⟨c,hc⟩:=hf (n,k) zz hk;have hc':env.cells.lookup n=some c:=hc;subst hk;simp only [List.forIn_cons,beq_self_eq_true,if_true,cellOf,hc',pure_bind,bind_assoc,Qeb,Option.getD_some];exact hr _
  ·have hb:(k == NameKind.free)=false:=by simpa using hk
   simp only [List.forIn_cons,hb,Bool.false_eq_true,if_false,pure_bind,bind_assoc,Qeb];exact hr _
theorem Qgq {cells:List (Str×Addr)}{x:Str}{c:Addr}:∀{names:List (Str×NameKind)}{acc:List (Str×Addr)},(Qeb cells names acc).lookup x=some c→acc.lookup x=some c∨(∃k,(x,k)∈names∧k = .free∧(cells.lookup x).getD 0=c)
 | [],acc,h=>.inl h
 | (n,k)::r,acc,h=>by
  unfold Qeb at h
  by_cases hk:k = .free
  ·subst hk;simp only [beq_self_eq_true,if_true] at h
   rcases Qgq h with z | ⟨k,hm,q⟩
   ·rw [List.lookup_cons] at z
    by_cases hx:x=n
    ·subst hx;simp at z;exact .inr ⟨.free,zz,rfl,z⟩
    ·have hb:(x == n)=false:=by simpa using hx
     rw [hb] at z;exact .inl z
   ·exact .inr ⟨k,zw _ hm,q⟩
  ·have hb:(k == NameKind.free)=false:=by simpa using hk
   simp only [hb,Bool.false_eq_true,if_false] at h
   rcases Qgq h with z | ⟨k,hm,q⟩
   ·exact .inl z
   ·exact .inr ⟨k,zw _ hm,q⟩
theorem Qfx {cells:List (Str×Addr)}{x:Str}:∀{names:List (Str×NameKind)}{acc:List (Str×Addr)},((∃c,acc.lookup x=some c)∨(x,NameKind.free)∈names)→∃c,(Qeb cells names acc).lookup x=some c
 | [],acc,h=>by
  rcases h with h | h
  ·exact h
  ·cases h
 | (n,k)::r,acc,h=>by
  unfold Qeb
  by_cases hk:k = .free
  ·subst hk;simp only [beq_self_eq_true,if_true];refine Qfx ?_
   by_cases hx:x=n
   ·subst hx;exact .inl ⟨(cells.lookup x).getD 0,by simp [List.lookup_cons]⟩
   ·have hb:(x == n)=false:=by simpa using hx
    rcases h with ⟨c,h⟩ | h
    ·exact .inl ⟨c,by rw [List.lookup_cons,hb]; exact h⟩
    ·rcases zm.mp h with e | h
     ·cases e; exact absurd rfl hx
     ·exact .inr h
  ·have hb:(k == NameKind.free)=false:=by simpa using hk
   simp only [hb,Bool.false_eq_true,if_false];refine Qfx ?_
   rcases h with h | h
   ·exact .inl h
   ·rcases zm.mp h with e | h
    ·cases e; exact absurd rfl hk
    ·exact .inr h
def Qcx (scope sc0:Scope):List (Str×NameKind) :=
 scope.names.map fun (n,k)=>if (k == .free&&sc0.kind == .function&&sc0.names.lookup n == some .cell) then (n,.cell) else (n,k)
theorem Qik {scope sc0:Scope} (hc:∀y∈scope.names,y.2≠.cell) {x:Str}{k:NameKind} (h:(Qcx scope sc0).lookup x=some k) (hk:k = .cell∨k = .free):(x,NameKind.free)∈scope.names:=by
 have hm:=PySem.mem_of_lookup h;unfold Qcx at hm;obtain ⟨⟨n,k0⟩,h1,h2⟩:=zQ.mp hm;dsimp only at h2
 by_cases hb:(k0 == NameKind.free&&sc0.kind == .function&&sc0.names.lookup n == some .cell)=true
 ·rw [if_pos hb] at h2
  have e:k0 = .free:=by
   simp only [zk,beq_iff_eq] at hb;exact hb.1.1
  cases h2;rw [←e]; exact h1
 ·rw [if_neg hb] at h2;cases h2
  rcases hk with e | e
  ·exact absurd e (hc _ h1)
  ·rw [←e]; exact h1
def Qa0 (N0 own:List Str) (cap:List Nat):List Str:=own++cap.map fun j=>N0.getD j (Str.ofString "")
def compSt (own:List Str) (cap:List Nat) (σ:St):St:=own.map (fun _=>none)++cap.map fun j=>(σ[j]?).join
def Qgy (sc0:Scope) (N0:List Str) (scope:Scope) (own:List Str) (cap:List Nat):Bool :=
 (scope.kind == .function)&&scope.names.all (fun y=>y.2 != .cell)&&scope.names.all (fun y=>y.2 != .local || scope.names.lookup y.1 == some .local) &&
 scope.names.all (fun y=>y.2 != .free || sc0.names.lookup y.1 == some .cell || sc0.names.lookup y.1 == some .free) &&
 cap.all fun j=>decide (j < N0.length)&&scope.names.contains (N0.getD j (Str.ofString ""),NameKind.free)&&((Qcx scope sc0).lookup (N0.getD j (Str.ofString "")) == some .cell || (Qcx scope sc0).lookup (N0.getD j (Str.ofString "")) == some .free)
structure Qd1 (sc0:Scope) (N0:List Str) (scope:Scope) (own:List Str) (cap:List Nat):Prop where
 kind:scope.kind = .function
 nocell:∀y∈scope.names,y.2≠.cell
 names:∀y∈scope.names,y.2 = .local→scope.names.lookup y.1=some .local
 free:∀y∈scope.names,y.2 = .free→sc0.names.lookup y.1=some .cell∨sc0.names.lookup y.1=some .free
 cap:∀j∈cap,j < N0.length∧(N0.getD j (Str.ofString ""),NameKind.free)∈scope.names∧((Qcx scope sc0).lookup (N0.getD j (Str.ofString ""))=some .cell∨(Qcx scope sc0).lookup (N0.getD j (Str.ofString ""))=some .free)
theorem Qd1.of {sc0:Scope}{N0:List Str}{scope:Scope}{own:List Str}{cap:List Nat} (h:Qgy sc0 N0 scope own cap=true):Qd1 sc0 N0 scope own cap:=by
 unfold Qgy at h;simp only [zk,zZ,beq_iff_eq,bne_iff_ne,ne_eq,Bool.or_eq_true,decide_eq_true_eq,List.contains_iff_mem] at h;obtain ⟨⟨⟨⟨h1,h2⟩,h3⟩,h4⟩,h5⟩:=h;refine ⟨h1,h2,fun y hy e=>?_,fun y hy e=>?_,fun j hj=>?_⟩
 ·rcases h3 y hy with z | z
  ·exact absurd e z
  ·exact z
 ·rcases h4 y hy with (z | z) | z
  ·exact absurd e z
  ·exact .inl z
  ·exact .inr z
 ·obtain ⟨⟨a,b⟩,c⟩:=h5 j hj;exact ⟨a,b,c⟩
def Qa6 (X:Cx) (scope:Scope) (C:Addr) (N':List Str) (s:Shared) (H:Hp) (ex:List Addr):Cx where
 prog:=X.prog
 w:=X.w
 K:=X.K
 mg:=X.mg
 base:=X.base
 A:=X.A
 N:=N'
 s₀:=s
 H₀:=H
 env:=compEnvC scope (QeS scope X.env) C X.env
 outer:=X.stack
 stack:=X.stack
 ex:=ex
 fn:=fun _=>false
 calm:=X.calm
 pn:=[]
 xe:=fun _ _=>False
section
variable {X:Cx}
def QhT (X:Cx) (ifs:List Expr) (t:TT):Prop :=
 ∀(pins:List (Addr×Obj)) (s:Shared) (σ:St) (H:Hp) (Q:Bool→Hp→Prop),Inv X pins σ H s→t σ H Q →
  wpAny (model X.prog X.w) X.A (forIn ifs true fun c r=>if r=true then do let ok ←isTrue c X.env (eval c X.env); pure (ForInStep.yield ok) else pure (ForInStep.yield r)) (TP X pins σ Q) X.xe s
def Qwx:TT:=fun _ H Q=>Q true H
theorem QqG:QhT X [] Qwx:=fun _ _ _ H _ I h=>wpAny_tests_nil ⟨H,I,h⟩
theorem Qqn {c:Expr}{t:TT} (h:PT X c t):QhT X [c] t:=fun pins s σ H Q I q=>wpAny_tests_one (h pins s σ H Q I q)
end
def QqQ (J:It) (g:TG) (tt:TT) (te:TE) (Q:List V→Hp→Prop) (σ0:St) (H1:Hp):Prop :=
 ∃W:Nat→Nat→List V→St→Hp→Prop,(∃m,W 0 m [] σ0 H1)∧∀i m ys σ H,W i m ys σ H →
  (J.stop i H∧Q ys H)∨(J.go i H∧ys.length < sizeLine∧∃N:List V→St→Hp→Prop,(∀ys σ' H',N ys σ' H'→∃m',m' < m∧W (i+1) m' ys σ' H')∧∀x H',J.yld i H x H'→g x σ H' fun σ2 H2=>tt σ2 H2 fun b H3 =>
   if b=true then te σ2 H3 fun y H4=>N (ys ++ [y]) σ2 H4 else N ys σ2 H3)
def Qnb (wi:TI) (own:List Str) (cap:List Nat) (g:TG) (tt:TT) (te:TE):TE:=fun σ H Q =>
 wi σ H fun J H1=>QqQ J g tt te (fun ys H'=>ys.length≤sizeLine∧∀p,H' p=none→Q (.ref p) (upd H' p (.lst ys))) (compSt own cap σ) H1
section
variable {prog:Program}{w:World}{A:Around}{R:Result→Shared→Prop}{s:Shared}
theorem Qhm {elt target iter:Expr}{ifs:List Expr}{scope:Scope}{pos:Pos}{it acc:Value}{env:Env} (I:Nat→Shared→Prop)
  (turn:∀n s,I n s→wpAny (model prog w) A (pyNext it) (fun r s₁=>match r with
   | none=>R (.ok .next) s₁
   | some v=>wpAny (model prog w) A (letOwnedTupleGo target it v) (fun _ s₁'=>wpAny (model prog w) A (assign target env v) (fun _ s₂ =>
     wpAny (model prog w) A (forIn ifs true fun c r=>if r=true then do let ok ←isTrue c env (eval c env); pure (ForInStep.yield ok) else pure (ForInStep.yield r)) (fun ok s₃ =>
      if ok=true then wpAny (model prog w) A (eval elt env) (fun x s₄ =>
       wpAny (model prog w) A (call (.builtin "list.append") [acc,x]) (fun _ s₅=>∃m,m < n∧I m s₅) (fun _ _=>False) s₄) (fun _ _=>False) s₃
      else ∃m,m < n∧I m s₃) (fun _ _=>False) s₂) (fun _ _=>False) s₁') (fun _ _=>False) s₁) (fun _ _=>False) s)
  (n:Nat) (h:I n s) :
  codeAny (model prog w) A (.compLoop (.ListComp elt [⟨target,iter,ifs,0⟩] scope pos) 0 it acc env) R s:=by
 refine codeAny_loop rfl I (fun n s hI=>?_) n h;show wpAny _ A ((compTurn (.ListComp elt [⟨target,iter,ifs,0⟩] scope pos) 0 it acc env).onRaise (fun x=>do noteFrame x env; theTreesLotGoes x)) _ _ s;refine wpAny_noted ?_;rw [compTurn_list];refine zc (wpAny_standAt (zc (zr (turn n s hI) (fun r s₁ h₁=>?_) fun _ _ h'=>h'.elim)))
 cases r with
 | none=>exact zd h₁
 | some v =>
  refine zc (zr h₁ (fun _ s₁' h₁'=>?_) fun _ _ h'=>h'.elim);refine zc (zr h₁' (fun _ s₂ h₂=>zc (zr h₂ (fun ok s₃ h₃=>?_) fun _ _ h'=>h'.elim)) fun _ _ h'=>h'.elim)
  cases ok with
  | false=>exact zd ⟨rfl,h₃⟩
  | true =>
   exact zc (zc (zr h₃ (fun x s₄ h₄=>zc (zr h₄ (fun _ s₅ h₅=>zd (zd ⟨rfl,h₅⟩)) fun _ _ h'=>h'.elim)) fun _ _ h'=>h'.elim))
end
section
variable {X:Cx}{pins:List (Addr×Obj)}{σ:St}{s2:Shared}{H2:Hp}{elt tg iter:Expr}{ifs:List Expr}{scope:Scope}{pos:Pos}{g:TG}{tt:TT}{te:TE}{sc0:Scope}{N0 own:List Str}{cap:List Nat}
 {it:Addr}{fp:List Addr}{tn:Nat→Heap→Prop}{J:It}
theorem Qit (I2:Inv X pins σ H2 s2) (hsc:X.env.scope=sc0) (ok:Qd1 sc0 N0 scope own cap):∀y∈scope.names,y.2 = .free→∃c,X.env.cells.lookup y.1=some c:=fun y hy e=>by
 refine I2.ok.has y.1 ?_;have q:=ok.free y hy e;rw [←hsc] at q;exact q
theorem Qb8 (I2:Inv X pins σ H2 s2) (hsc:X.env.scope=sc0) (ok:Qd1 sc0 N0 scope own cap) {x:Str}{c:Addr} (h:(QeS scope X.env).lookup x=some c):X.env.cells.lookup x=some c:=by
 rcases Qgq h with z | ⟨k,hm,hk,q⟩
 ·simp at z
 ·obtain ⟨c',e⟩:=Qit I2 hsc ok (x,k) hm hk;have e':X.env.cells.lookup x=some c':=e;rw [e'] at q;rw [e',←q]; rfl
theorem Qo6 (I2:Inv X pins σ H2 s2) (hsc:X.env.scope=sc0) (ok:Qd1 sc0 N0 scope own cap) (T:Turn X.prog X.w X.K tg J fp it tn) (st2:tn 0 s2.heap) (f2:∀b∈fp,Qeg X pins H2 b)
  (C:Addr) (hC:s2.heap.objs.size≤C):(Qa6 X scope C (Qa0 N0 own cap) s2 H2 fp).Ok:=by
 have lt:∀b∈fp,b < s2.heap.objs.size:=fun b hb=>by
  obtain ⟨o,e,_⟩:=T.obj 0 _ st2 b hb;exact zf e
 have rel:(relabel scope X.env).names=Qcx scope sc0:=by rw [←hsc]; rfl
 refine ⟨I2.ok.mod,ok.kind,I2.ok.glob,I2.ok.blt,hC,fun x y c h1 h2=>?_,fun x hx=>?_,fun x c hf _=>absurd hf (by simp [Qa6]),I2.ok.hd,I2.ok.frames,.inl rfl,fun b hb=>⟨?_,fun x c h=>?_⟩,I2.bs,zB I2.ok.bsz I2.sz,
  fun b o e hb=>?_,fun b hb hz=>?_,I2.stack,I2.stkFree⟩
 ·exact I2.ok.inj x y c (Qb8 I2 hsc ok h1) (Qb8 I2 hsc ok h2)
 ·have hx':(Qcx scope sc0).lookup x=some .cell∨(Qcx scope sc0).lookup x=some .free:=by rw [←rel]; exact hx
  have hm:(x,NameKind.free)∈scope.names:=by
   rcases hx' with q | q
   ·exact Qik ok.nocell q (.inl rfl)
   ·exact Qik ok.nocell q (.inr rfl)
  exact Qfx (.inr hm)
 ·exact zq (zA (lt b hb) hC)
 ·exact (f2 b hb).2.2.2.2.1 x c (Qb8 I2 hsc ok h)
 ·rcases (f2 b hb).2.2.2.1 with z | z
  ·exact I2.ok.noex b o e z
  ·exact absurd (zA (zf e) (zB I2.ok.bsz z)) (zH _)
 ·rcases zm.mp (I2.stkSub b hz) with z | z
  ·exact (f2 b hb).2.1 z
  ·exact (f2 b hb).2.2.1 z
theorem Qqw (I2:Inv X pins σ H2 s2) (hsc:X.env.scope=sc0) (hN0:X.N=N0) (ok:Qd1 sc0 N0 scope own cap) (T:Turn X.prog X.w X.K tg J fp it tn) (st2:tn 0 s2.heap) (f2:∀b∈fp,Qeg X pins H2 b)
  (C:Addr) (hC:s2.heap.objs.size≤C) {h₁:Heap}{tk:Nat}{m:Str→Option Value} (old:∀b o,s2.heap.get? b=some o→h₁.get? b=some o) (hns:h₁.Ns C m) :
  Inv (Qa6 X scope C (Qa0 N0 own cap) s2 H2 fp) [] (compSt own cap σ) H2 { s2 with heap:=h₁,toks:=tk }:=by
 have rel:(relabel scope X.env).names=Qcx scope sc0:=by rw [←hsc]; rfl
 refine ⟨Qo6 I2 hsc ok T st2 f2 C hC,rfl,I2.bare,Un.kept old,⟨m,hns,fun i x v e1 e2 _=>?_⟩,fun x c h=>?_,I2.hok.fresh hC,fun x c h=>?_,fun p hp=>absurd (show p∈([]:List (Addr×Obj)) from hp) (by simp),I2.hok.kept old,?_⟩
 ·have e1':(Qa0 N0 own cap)[i]? = some x:=e1;unfold Qa0 at e1';unfold compSt at e2
  by_cases hi:i < own.length
  ·rw [zy (by simpa using hi),zG] at e2
   cases q:own[i]? with
   | none=>rw [q] at e2; cases e2
   | some z=>rw [q] at e2; cases e2
  ·rw [zE (by simpa using hi),zG] at e2;rw [zE (by simpa using hi),zG] at e1';rw [zp] at e2
   cases q:cap[i - own.length]? with
   | none=>rw [q] at e2; cases e2
   | some j =>
    rw [q] at e1' e2;have ex:N0.getD j (Str.ofString "")=x:=zL e1';have ev:(σ[j]?).join=some v:=zL e2;obtain ⟨hj,hm,hk⟩:=ok.cap j (zR q);rw [ex] at hm hk
    have eN:X.N[j]? = some x:=by
     rw [hN0,zx hj];rw [zS,zx hj] at ex;exact congrArg some ex
    have eσ:σ[j]? = some (some v):=by
     cases z:σ[j]? with
     | none=>rw [z] at ev; cases ev
     | some o=>rw [z] at ev; cases o with
      | none=>cases ev
      | some y=>exact congrArg some ev
    have kf:X.env.kindOf x=some .cell∨X.env.kindOf x=some .free:=by
     have z:=ok.free _ hm rfl;rw [←hsc] at z;exact z
    obtain ⟨m0,hn0,hl⟩:=I2.loc;obtain ⟨u,r,l⟩:=hl j x v eN eσ (kf.elim (fun z=>.inr (.inl z)) fun z=>.inr (.inr z));refine ⟨u,r,.inr ⟨?_,?_⟩⟩
    ·show (relabel scope X.env).names.lookup x=_∨(relabel scope X.env).names.lookup x=_;rw [rel]; exact hk
    ·rcases l with ⟨l,_⟩ | ⟨_,c,hc,⟨o,ho,hd⟩⟩
     ·rcases kf with z | z <;> (rw [z] at l; cases l)
     ·obtain ⟨c',hc'⟩:=Qfx (cells:=X.env.cells) (names:=scope.names) (acc:=[]) (.inr hm);have z:=Qb8 I2 hsc ok hc';rw [hc] at z;cases z;exact ⟨c,hc',o,old _ _ ho,hd⟩
 ·obtain ⟨v,o,ho,hd⟩:=I2.cell x c (Qb8 I2 hsc ok h);exact ⟨v,o,old _ _ ho,hd⟩
 ·exact I2.freeC x c (Qb8 I2 hsc ok h)
 ·show (compSt own cap σ).length=(Qa0 N0 own cap).length;unfold compSt Qa0;simp
theorem Qjo {Q:List V→Hp→Prop}{RR:Value→Addr→Result→Shared→Prop}{E:Value→Shared→Prop} (hc:X.calm=true) (I2:Inv X pins σ H2 s2) (hsc:X.env.scope=sc0) (hN0:X.N=N0) (ok:Qd1 sc0 N0 scope own cap)
  (hg:∀C s H ex,PG (Qa6 X scope C (Qa0 N0 own cap) s H ex) tg g) (ht:∀C s H ex,QhT (Qa6 X scope C (Qa0 N0 own cap) s H ex) ifs tt) (he:∀C s H ex,PE (Qa6 X scope C (Qa0 N0 own cap) s H ex) elt te)
  (T:Turn X.prog X.w X.K tg J fp it tn) (st2:tn 0 s2.heap) (f2:∀b∈fp,Qeg X pins H2 b) (hW:QqQ J g tt te Q (compSt own cap σ) H2)
  (hRR:∀D C oC ys H' s',Inv X (pins ++ [(C,oC)]) σ (upd H' D (.lst ys)) s'→(∀h:Heap,h.get? C=some oC→∃m,h.Ns C m)→Qeg X pins (upd H' D (.lst ys)) C→H' D=none→Q ys H'→RR (.ref D) C (.ok .next) s')
  (hQsz:∀ys H',Q ys H'→ys.length≤sizeLine) :
  wpAny (model X.prog X.w) X.A (newList []) (fun acc s₃=>wpAny (model X.prog X.w) X.A (newFunctionEnv scope X.env.globals (QeS scope X.env) [] X.env.qual none .none (some X.env)) (fun cenv s₄ =>
   codeAny (model X.prog X.w) X.A (.compStart (.ListComp elt [⟨tg,iter,ifs,0⟩] scope pos) 0 (.ref it) acc { cenv with scope:=relabel scope X.env }) (RR acc cenv.locals) s₄) E s₃) E s2:=by
 refine wpAny_newObj_type (wpAny_newFunctionEnv ok.nocell (by intro y hy; simp at hy) (fun h₁ hns₁ hsb₁=>?_) ok.kind);dsimp only at hns₁ hsb₁ ⊢
 generalize hP2:s2.heap.push { cls:=.type "list",dict:=none,data:=.seq ([]:List Value).toArray }=P2 at hns₁ hsb₁ ⊢
 have hC:P2.objs.size=s2.heap.objs.size+1:=by rw [←hP2,Heap.size_push]
 have hDC:s2.heap.objs.size≠P2.objs.size:=by rw [hC]; exact zq (jj _)
 have hCle:s2.heap.objs.size≤P2.objs.size:=by rw [hC]; exact Nat.le_succ _
 have below:∀b,b < s2.heap.objs.size→b≠P2.objs.size∧b≠s2.heap.objs.size:=fun b hb=>⟨by rw [hC]; exact zq (Nat.lt_succ_of_lt hb),zq hb⟩
 have ltf:∀b∈fp,b < s2.heap.objs.size:=fun b hb=>by
  obtain ⟨o,e,_⟩:=T.obj 0 _ st2 b hb;exact zf e
 have old:∀b o,s2.heap.get? b=some o→h₁.get? b=some o:=fun b o e=>hsb₁.extBut b o (below b (zf e)).1 (zh _ (hP2 ▸ zh _ e))
 have hacc:h₁.PlainList s2.heap.objs.size #[]:=⟨_,hsb₁.extBut _ _ hDC (zh _ (hP2 ▸ zD _ rfl))⟩
 have st₁:tn 0 h₁:=T.keep _ _ _ st2 fun b _ o e=>old b o e
 have hDno:∀b∈fp,s2.heap.objs.size≠b:=fun b hb=>(below b (ltf b hb)).2.symm
 generalize hXe:Qa6 X scope P2.objs.size (Qa0 N0 own cap) s2 H2 fp=X'
 have loop:∀s₃:Shared,s₃ = { s2 with heap:=h₁,toks:=s2.toks+([]:List (Str×Value)).length } →
   codeAny (model X.prog X.w) X.A (.compLoop (.ListComp elt [⟨tg,iter,ifs,0⟩] scope pos) 0 (.ref it) (.ref s2.heap.objs.size) (compEnvC scope (QeS scope X.env) P2.objs.size X.env))
    (RR (.ref s2.heap.objs.size) P2.objs.size) s₃:=by
  rintro s₃ rfl;obtain ⟨W,⟨m0,w0⟩,turn⟩:=hW;subst hXe
  have stat:∀{H':Hp}{oD:Obj},(∀b∈fp,H' b=none)→∀b∈fp,Qeg (Qa6 X scope P2.objs.size (Qa0 N0 own cap) s2 H2 fp) [(s2.heap.objs.size,oD)] H' b:=fun {H' oD} hn b hb =>
   ⟨hn b hb,(below b (ltf b hb)).1,fun z=>by
    rcases zm.mp (I2.stkSub b z) with z | z
    ·exact (f2 b hb).2.1 z
    ·exact (f2 b hb).2.2.1 z,.inl hb,fun x c h=>(f2 b hb).2.2.2.2.1 x c (Qb8 I2 hsc ok h),fun p hp=>by
    have e:p=(s2.heap.objs.size,oD):=by simpa [Qa6] using hp
    rw [e]; exact hDno b hb⟩
  have notcell:∀x c,(QeS scope X.env).lookup x=some c→c≠s2.heap.objs.size:=fun x c h z=>by
   obtain ⟨v,o,ho,hd⟩:=I2.cell x c (Qb8 I2 hsc ok h);exact absurd (zf ho) (by rw [z]; exact zH _)
  have nofs:s2.heap.objs.size∉frs X.stack:=fun z=>by
   rcases zm.mp (I2.stkSub _ z) with z | z
   ·exact absurd I2.lt (by rw [z]; exact zH _)
   ·exact I2.nofs (ze _) z
  have pinD:∀{σ':St}{H':Hp}{s':Shared}{its:Array Value}{k:Nat},Inv (Qa6 X scope P2.objs.size (Qa0 N0 own cap) s2 H2 fp) [] σ' H' s'→H' s2.heap.objs.size=none →
    s'.heap.get? s2.heap.objs.size=some { cls:=.type "list",data:=.seq its k }→Inv (Qa6 X scope P2.objs.size (Qa0 N0 own cap) s2 H2 fp) [(s2.heap.objs.size,{ cls:=.type "list",data:=.seq its k })] σ' H' s' :=
   fun {σ' H' s' its k} I hn hd=>I.pins_of fun p hp=>by
    have e:p=(s2.heap.objs.size,{ cls:=.type "list",data:=.seq its k }):=by simpa using hp
    subst e;exact ⟨hd,hn,hDC,nofs,fun v z=>by cases z⟩
  obtain ⟨k0,hk0⟩:=hacc;refine Qhm (env:=compEnvC scope (QeS scope X.env) P2.objs.size X.env)
   (fun n s'=>∃i ys its k σ' H',Inv (Qa6 X scope P2.objs.size (Qa0 N0 own cap) s2 H2 fp) [(s2.heap.objs.size,{ cls:=.type "list",data:=.seq its k })] σ' H' s'∧tn i s'.heap∧(∀b∈fp,H' b=none)∧Qax ys its.toList∧W i n ys σ' H') ?_ m0
   ⟨0,[],#[],k0,_,H2,pinD (Qqw I2 hsc hN0 ok T st2 f2 _ hCle old hns₁) (I2.hok.fresh (ze _)) hk0,st₁,fun b hb=>(f2 b hb).1,.nil,w0⟩
  rintro n s3 ⟨i,ys,its,k,σ3,H3,I3,st3,fr3,hv,w3⟩
  rcases turn i n ys σ3 H3 w3 with ⟨stop,qn⟩ | ⟨go,hsz,N,hN,step⟩
  ·refine thn (T.done (Qa6 X scope P2.objs.size (Qa0 N0 own cap) s2 H2 fp) rfl rfl rfl hc i _ s3 σ3 H3 _ I3 (stat fr3) st3 stop) fun r s4 ⟨hr,I4⟩=>?_
   subst hr;show RR _ _ (.ok .next) s4;obtain ⟨hd4,hn4,_⟩:=I4.pin (s2.heap.objs.size,{ cls:=.type "list",data:=.seq its k }) (by simp [Qa6]);dsimp only at hd4 hn4;obtain ⟨m4,hns4,_⟩:=id I4.loc;have hns4':s4.heap.Ns P2.objs.size m4:=hns4;obtain ⟨oC,es,ep,hoC,rC⟩:=id hns4';have cne:P2.objs.size≠s2.heap.objs.size:=hDC.symm;have freeC:H3 P2.objs.size=none:=I4.free;have hchC:Qeg X pins (upd H3 s2.heap.objs.size (.lst ys)) P2.objs.size:=I2.fpOk hCle (by rw [Qah cne]; exact freeC)
   have hlen:ys.length=its.size:=by have e:=hv.length; simpa using e
   have I5:Inv X pins σ (upd H3 s2.heap.objs.size (.lst ys)) s4:=by
    refine I2.call' (ch:=fp) I4.os ⟨I4.base.keep,I4.base.slot,fun b o e n hx=>?_,I4.base.there,fun b xs e=>?_,fun b o u e=>?_,fun b ps e=>?_⟩ (fun b u e=>?_) I4.bare fun b hb=>?_
    ·rw [Qah (zq (zf e))]; exact I4.base.free b o e n hx
    ·have q:=I4.base.tups b xs e;rw [Qah (Qaw q hn4)]; exact q
    ·have q:=I4.base.frzs b o u e;rw [Qah (Qaw q hn4)]; exact q
    ·obtain ⟨more,q⟩:=I4.base.tbls b ps e;exact ⟨more,by rw [Qah (Qaw q hn4)]; exact q⟩
    ·by_cases hb:b=s2.heap.objs.size
     ·subst hb;rw [Qay] at e;cases e;exact ⟨hQsz ys H3 qn,its.toList,k,hv,by simpa using hd4⟩
     ·rw [Qah hb] at e
      exact (I4.hok b u e).stay (fun _ _ _ q=>q) (fun c q=>by rw [Qah (Qaw q hn4)]; exact q) fun c xs q=>by rw [Qah (Qaw q hn4)]; exact q
    ·obtain ⟨_,a2,_,a4,a5,a6⟩:=f2 b hb;exact ⟨a4,a2,a5,a6⟩
   refine hRR s2.heap.objs.size P2.objs.size oC ys H3 s4 (I5.pins_of fun p hp=>?_) (fun h e=>⟨m4,oC,es,ep,e,rC⟩) hchC hn4 qn
   rcases zC.mp hp with z | z
   ·exact I5.pin p (zO _ z)
   ·have e:p=(P2.objs.size,oC):=by simpa using z
    subst e
    exact ⟨hoC,hchC.1,hchC.2.1,hchC.2.2.1,fun v z=>by
     have:=rC.1
     rw [this] at z; cases z⟩
  ·refine thn (T.item (Qa6 X scope P2.objs.size (Qa0 N0 own cap) s2 H2 fp) rfl rfl rfl hc i _ s3 σ3 H3 _ I3 (stat fr3) st3 go) fun r s4 ⟨u,hr,h4⟩=>?_
   subst hr
   refine thn h4 fun _ s5 ⟨x,H5,I5,r5,y5,st5,fr5⟩=>?_
   have I5':=I5.pinned (stat fr5) (T.obj _ _ st5)
   refine thn (hg _ _ _ _ _ s5 σ3 H5 x u _ I5' r5 (step x H5 y5)) fun _ s6 ⟨σ6,H6,I6,q6⟩=>?_
   refine thn (ht _ _ _ _ _ s6 σ6 H6 _ I6 q6) fun b s7 ⟨H7,I7,q7⟩=>?_
   have keepT:∀{σ':St}{H':Hp}{s':Shared},Inv (Qa6 X scope P2.objs.size (Qa0 N0 own cap) s2 H2 fp) ([(s2.heap.objs.size,{ cls:=.type "list",data:=.seq its k })]++Qhw fp s5.heap) σ' H' s'→tn (i+1) s'.heap∧∀b∈fp,H' b=none:=fun {σ' H' s'} I'=>by
    refine ⟨T.keep _ _ _ st5 fun b hb o e=>(I'.pin (b,o) (zO _ (zO _ (Qfq hb e)))).1,fun b hb=>?_⟩;obtain ⟨o,e,d⟩:=T.obj _ _ st5 b hb;exact (I'.pin (b,o) (zO _ (zO _ (Qfq hb e)))).2.1
   cases b with
   | false =>
    rw [if_neg zj] at q7 ⊢;obtain ⟨m',hm,w7⟩:=hN _ _ _ q7;obtain ⟨a,b⟩:=keepT I7;exact ⟨m',hm,i+1,ys,its,k,σ6,H7,I7.unpinned,a,b,hv,w7⟩
   | true =>
    rw [if_pos rfl] at q7 ⊢
    refine thn (he _ _ _ _ _ s7 σ6 H7 _ I7 q7) fun v s8 ⟨y,H8,I8,r8,q8⟩=>?_
    obtain ⟨m',hm,w8⟩:=hN _ _ _ q8;obtain ⟨a,b⟩:=keepT I8;obtain ⟨hd8,hn8,_⟩:=I8.pin (s2.heap.objs.size,{ cls:=.type "list",data:=.seq its k }) (by simp [Qa6]);dsimp only at hd8 hn8
    have hl:its.size≤sizeLine:=by
     have e:=hv.length;simp at e;omega
    refine wpAny_list_append_plain (hsz:=hl) ⟨k,hd8⟩ fun h9 hl9 hs9=>?_
    obtain ⟨k9,hd9⟩:=hl9
    have I8':Inv (Qa6 X scope P2.objs.size (Qa0 N0 own cap) s2 H2 fp) [] σ6 H8 s8:=I8.pins_of fun p hp=>absurd hp (by simp)
    have I9:Inv (Qa6 X scope P2.objs.size (Qa0 N0 own cap) s2 H2 fp) [] σ6 H8 { s8 with heap:=h9 } :=
     I8'.turned (t':=s8.toks) (it:=s2.heap.objs.size) (fun b o hb e=>hs9.extBut b o hb e) hn8 hDC (.inr (ze _)) notcell (fun p hp=>absurd (show p∈([]:List (Addr×Obj)) from hp) (by simp))
    refine ⟨m',hm,i+1,ys ++ [y],its.push v,k9,σ6,H8,pinD I9 hn8 hd9,T.keep _ _ _ a fun b hb o e=>hs9.extBut b o (hDno b hb).symm e,b,?_,w8⟩;rw [Array.toList_push];exact hv.append (.cons r8 .nil)
 exact codeAny_compStart_list (loop _ rfl) (T.self _ 0 _ _ _ st₁ (loop _ rfl))
theorem Qsn {wi:TI} (sc0:Scope) (N0 own:List Str) (cap:List Nat) (hc:X.calm=true) (hi:PI X tg iter wi)
  (hg:∀C s H ex,PG (Qa6 X scope C (Qa0 N0 own cap) s H ex) tg g) (ht:∀C s H ex,QhT (Qa6 X scope C (Qa0 N0 own cap) s H ex) ifs tt) (he:∀C s H ex,PE (Qa6 X scope C (Qa0 N0 own cap) s H ex) elt te)
  (hsc:X.env.scope=sc0:=by rfl) (hN0:X.N=N0:=by rfl) (ok:Qgy sc0 N0 scope own cap=true:=by decide +kernel) (hs:∀x,foldedSetIterable iter X.env x=pure x:=by intro _; rfl) :
  PE X (.ListComp elt [⟨tg,iter,ifs,0⟩] scope pos) (Qnb wi own cap g tt te):=by
 intro pins s σ H Q I h;have ok:=Qd1.of ok;rw [eval_ListComp];refine wpAny_comprehension_free (use:=none) rfl hs (Qhd (Qit I hsc ok)) ok.kind ok.names (thn (hi pins s σ H _ I h) fun xv s1 h1=>thn h1 fun itv s2 h2=>?_);obtain ⟨it,fp,tn,J,H2,e,I2,T,st2,f2,hW⟩:=h2;subst e
 refine Qjo (RR:=fun acc C=>compPost (model X.prog X.w) X.A X.xe none (EP X pins σ Q) acc C) hc I2 hsc hN0 ok hg ht he T st2 f2 hW (fun D C oC ys H' s' I' hns fpC hD q=>?_) fun ys H' q=>q.1
 obtain ⟨hC,hCn,_⟩:=I'.pin (C,oC) (by simp);obtain ⟨m,hm⟩:=hns _ hC;refine ⟨m,hm,fun h' hs'=>⟨.ref D,upd H' D (.lst ys),?_,rfl,q.2 D hD⟩⟩;obtain ⟨f0,f1,f2',f3,f4,f5⟩:=fpC;exact I'.unpinned.turned (t':=s'.toks) (it:=C) (fun b o hb e=>hs'.extBut b o hb e) f0 f1 f3 f4 f5
theorem QsD {wi:TI}{i:Nat}{x:Str}{pos' spos:Pos} (sc0:Scope) (N0 own:List Str) (cap:List Nat) (hN:X.N.Nodup) (hx:X.N[i]? = some x) (hl:Loc X.env.scope x) (hc:X.calm=true) (hi:PI X tg iter wi)
  (hg:∀C s H ex,PG (Qa6 X scope C (Qa0 N0 own cap) s H ex) tg g) (ht:∀C s H ex,QhT (Qa6 X scope C (Qa0 N0 own cap) s H ex) ifs tt) (he:∀C s H ex,PE (Qa6 X scope C (Qa0 N0 own cap) s H ex) elt te)
  (hsw:swapsWith (.ListComp elt [⟨tg,iter,ifs,0⟩] scope pos) (some (.Name x pos')) spos.line X.env=pure true:=by rfl)
  (hf:X.fn x=true∨X.env.scope.names.lookup x=some .local:=by first | exact .inl rfl | exact .inr rfl | assumption)
  (hsc:X.env.scope=sc0:=by rfl) (hN0:X.N=N0:=by rfl) (ok:Qgy sc0 N0 scope own cap=true:=by decide +kernel) (hs:∀x,foldedSetIterable iter X.env x=pure x:=by intro _; rfl) :
  PS X (.Assign [.Name x pos'] (.ListComp elt [⟨tg,iter,ifs,0⟩] scope pos) spos) (QlH (Qnb wi own cap g tt te) (Qi0 i)):=by
 intro pins s σ H D I h;have ok:=Qd1.of ok;rw [exec_Assign_Name_used _ _ _ _ hsw];refine zc (wpAny_standAt (zc ?_));show wpAny _ X.A (do let _ ←comprehension (.ListComp elt [⟨tg,iter,ifs,0⟩] scope pos) scope X.env _ (newList []) false (eval iter X.env) (some (assign (.Name x pos') X.env))) _ _ s
 refine zc (zr (wpAny_comprehension_free (use:=some (assign (.Name x pos') X.env)) (Q:=fun _ s'=>SP X pins D .next s') rfl hs (Qhd (Qit I hsc ok)) ok.kind ok.names
  (thn (hi pins s σ H _ I h) fun xv s1 h1=>thn h1 fun itv s2 h2=>?_)) (fun _ s' hq=>zd (zd hq)) fun _ _ e=>e)
 obtain ⟨it,fp,tn,J,H2,e,I2,T,st2,f2,hW⟩:=h2;subst e
 refine Qjo (RR:=fun acc C=>compPost (model X.prog X.w) X.A X.xe (some (assign (.Name x pos') X.env)) (fun _ s'=>SP X pins D .next s') acc C) hc I2 hsc hN0 ok hg ht he T st2 f2 hW (fun Da C oC ys H' s' I' hns fpC hD q=>?_) fun ys H' q=>q.1
 show wpAny _ X.A (assign (.Name x pos') X.env (.ref Da)) _ _ _;refine wpAny_assign_Name (QgV (v:=.ref Da) I' hN hx hl rfl (fun s'' I''=>?_) hf);obtain ⟨hC,hCn,_⟩:=I''.pin (C,oC) (by simp);obtain ⟨m,hm⟩:=hns _ hC;refine ⟨m,hm,fun h' hs'=>⟨σ.set i (some (.ref Da)),upd H' Da (.lst ys),?_,q.2 Da hD⟩⟩;obtain ⟨f0,f1,f2',f3,f4,f5⟩:=fpC;exact I''.unpinned.turned (t':=s''.toks) (it:=C) (fun b o hb e=>hs'.extBut b o hb e) f0 f1 f3 f4 f5
end
def Can (P:Program) (w:World) (K:PySem.W.Frag) (mg:Str→Option Value) (base:Heap) (x:Str) (ps:List Str) (k:Nat) (sp:Sp):Prop :=
 ∃f fd,mg x=some (.ref f)∧PySem.W.keepIn K (.ref f)=true∧Binds K fd ps []∧Qbp P w K mg base CX0 k f fd ps sp∧∃oc od osl,K.lookup f=some ⟨oc,od,.func fd,osl⟩
def Def (K:PySem.W.Frag) (mg:Str→Option Value) (x:Str) (st:Stmt):Prop:=∃f fd,mg x=some (.ref f)∧Fun K x x st f fd
section
variable {P:Program}{w:World}{K:PySem.W.Frag}{mg:Str→Option Value}{base:Heap}
theorem Can.mono {x:Str}{ps:List Str}{j k:Nat}{sp:Sp} (c:Can P w K mg base x ps j sp) (h:j≤k):Can P w K mg base x ps k sp :=
 let ⟨f,fd,a,b,d,e,g⟩:=c; ⟨f,fd,a,b,d,e.mono h,g⟩
theorem Def.can {x:Str}{st:Stmt}{N ps:List Str}{k:Nat}{sp:Sp} (D:Def K mg x st) (S:QaI N ps (Qaj st))
  (hb:∀(kV doc pm:Value) (an:Option Addr) (cdv ct:Value) (us:List Value),us.length=ps.length→bindArgs (PySem.W.fnOf x x (QbD st) (QaX st) (Qaj st) .none kV doc pm an cdv ct) ⟨us,[]⟩=pure (ps.zip us))
  (len:∀vs H Q E,sp vs H Q E→vs.length=ps.length)
  (hbody:∀(f:Addr) (cdv:Value) (A:Around) (outer:List Env) (s:Shared) (H:Hp) (vs:List V) (Q:VK) (E:XK),QaG k (A.deeper (envOfC x (Qaj st) s.heap.objs.size f cdv))→sp vs H Q E →
   ∃t,PSs (Qcy CX0 P w K mg base N x (Qaj st) f cdv A outer s H E).nox (QaX st) t∧t { nx:=fun _ H'=>Q .non H',rt:=Q } (start N vs) H):Can P w K mg base x ps (k+1) sp:=by
 obtain ⟨f,fd,hm,F⟩:=D;obtain ⟨oc,od,_,_,_,_,_,_,osl,_,lk,_⟩:=F.ex;exact ⟨f,fd,hm,F.kp,F.binds hb,F.ok S len fun cdv A outer s H vs Q E hr h=>hbody f cdv A outer s H vs Q E hr h,oc,od,osl,lk⟩
end
section
variable {X:Cx}{k:Nat}{x:Str}{ps:List Str}{sp:Sp}{p pos:Pos}{e:Expr}{es:List Expr}{t:TA}
theorem Qtn (C:Can X.prog X.w X.K X.mg X.base x ps k sp) (hr:QaG k X.A) (ha:PA X (e::es) t) (hg:Gl X x:=by rfl) (hdb:(x == ("__debug__":Str))=false:=by decide)
  (he:starEach (e::es) X.env=(false,eval e X.env)::starEach es X.env:=by rfl) (hpl:(backTo pos (starEach es X.env)).any (·.1)=false:=by rfl) :
  PE X (.Call (.Name x p) (e::es) [] pos) (QkG sp [] E0 t):=by
 obtain ⟨f,fd,hm,hk,hb,F,_⟩:=C;exact QmI F hr hg hm hk hb .nil QkE ha hdb he hpl
end
theorem Same.seqT {K:PySem.W.Frag}{H H':Hp}{a:Addr}{xs:List V} (e:Same H H') (h:SqT K H a xs):SqT K H' a xs:=by
 rcases h with (h | ⟨o,h⟩) | h
 ·exact .inl (.inl (e _ _ h))
 ·exact .inl (.inr ⟨o,e _ _ h⟩)
 ·exact .inr h
theorem Same.upd {H:Hp}{a:Addr}{o:HO} (h:H a=none):Same H (upd H a o):=fun b u e=>by rw [Qah (Qaw e h)]; exact e
mutual
def Rep (K:PySem.W.Frag) (H:Hp):V→PyData→Prop
 | v,.none=>v = .non
 | v,.bool b=>v = .bl b
 | v,.int i=>v = .int i
 | v,.str x=>v = .str x
 | v,.list ds=>∃a xs,v = .ref a∧SqL K H a xs∧QaB K H xs ds
 | v,.tuple ds=>∃a xs,v = .ref a∧SqT K H a xs∧QaB K H xs ds
 | _,.dict _=>False
def QaB (K:PySem.W.Frag) (H:Hp):List V→List PyData→Prop
 | xs,[]=>xs = []
 | xs,d::ds=>∃x r,xs=x::r∧Rep K H x d∧QaB K H r ds
end
mutual
theorem Rep.mono {K:PySem.W.Frag}{H H':Hp} (e:Same H H'):∀(d:PyData) {v:V},Rep K H v d→Rep K H' v d
 | .none,v,h=>by rw [Rep] at h ⊢; exact h
 | .bool b,v,h=>by rw [Rep] at h ⊢; exact h
 | .int i,v,h=>by rw [Rep] at h ⊢; exact h
 | .str x,v,h=>by rw [Rep] at h ⊢; exact h
 | .list ds,v,h=>by
  rw [Rep] at h ⊢;obtain ⟨a,xs,h1,h2,h3⟩:=h;exact ⟨a,xs,h1,e.seq h2,QaB.mono e ds h3⟩
 | .tuple ds,v,h=>by
  rw [Rep] at h ⊢;obtain ⟨a,xs,h1,h2,h3⟩:=h;exact ⟨a,xs,h1,e.seqT h2,QaB.mono e ds h3⟩
 | .dict _,v,h=>by rw [Rep] at h; exact h.elim
theorem QaB.mono {K:PySem.W.Frag}{H H':Hp} (e:Same H H'):∀(ds:List PyData) {xs:List V},QaB K H xs ds→QaB K H' xs ds
 | [],xs,h=>by rw [QaB] at h ⊢; exact h
 | d::ds,xs,h=>by
  rw [QaB] at h ⊢;obtain ⟨x,r,h1,h2,h3⟩:=h;exact ⟨x,r,h1,Rep.mono e d h2,QaB.mono e ds h3⟩
end
theorem QaB.nil {K:PySem.W.Frag}{H:Hp}:QaB K H [] []:=by rw [QaB]
theorem QaB.cons {K:PySem.W.Frag}{H:Hp}{x:V}{xs:List V}{d:PyData}{ds:List PyData} (h:Rep K H x d) (hs:QaB K H xs ds):QaB K H (x::xs) (d::ds):=by
 rw [QaB]; exact ⟨x,xs,rfl,h,hs⟩
theorem QaB.un {K:PySem.W.Frag}{H:Hp}{xs:List V}{d:PyData}{ds:List PyData} (h:QaB K H xs (d::ds)):∃x r,xs=x::r∧Rep K H x d∧QaB K H r ds:=by rw [QaB] at h; exact h
theorem QaB.un0 {K:PySem.W.Frag}{H:Hp}{xs:List V} (h:QaB K H xs []):xs = []:=by rw [QaB] at h; exact h
theorem Rep.unL {K:PySem.W.Frag}{H:Hp}{v:V}{ds:List PyData} (h:Rep K H v (.list ds)):∃a xs,v = .ref a∧SqL K H a xs∧QaB K H xs ds:=by rw [Rep] at h; exact h
theorem Rep.unT {K:PySem.W.Frag}{H:Hp}{v:V}{ds:List PyData} (h:Rep K H v (.tuple ds)):∃a xs,v = .ref a∧SqT K H a xs∧QaB K H xs ds:=by rw [Rep] at h; exact h
theorem Rep.unS {K:PySem.W.Frag}{H:Hp}{v:V}{x:Str} (h:Rep K H v (.str x)):v = .str x:=by rw [Rep] at h; exact h
theorem Rep.unI {K:PySem.W.Frag}{H:Hp}{v:V}{x:Int} (h:Rep K H v (.int x)):v = .int x:=by rw [Rep] at h; exact h
theorem Rep.s {K:PySem.W.Frag}{H:Hp}{x:Str}:Rep K H (.str x) (.str x):=by rw [Rep]
theorem Rep.i {K:PySem.W.Frag}{H:Hp}{x:Int}:Rep K H (.int x) (.int x):=by rw [Rep]
theorem Rep.b {K:PySem.W.Frag}{H:Hp}{x:Bool}:Rep K H (.bl x) (.bool x):=by rw [Rep]
theorem QaB.length {K:PySem.W.Frag}{H:Hp}:∀{ds:List PyData}{xs:List V},QaB K H xs ds→xs.length=ds.length
 | [],xs,h=>by rw [QaB] at h; rw [h]; rfl
 | d::ds,xs,h=>by
  rw [QaB] at h;obtain ⟨x,r,rfl,_,h3⟩:=h;simp [QaB.length h3]
theorem QaB.get {K:PySem.W.Frag}{H:Hp}:∀{ds:List PyData}{xs:List V}{i:Nat}{x:V},QaB K H xs ds→xs[i]? = some x→∃d,ds[i]? = some d∧Rep K H x d
 | [],xs,i,x,h,e=>by rw [QaB] at h; rw [h] at e; simp at e
 | d::ds,xs,i,x,h,e=>by
  rw [QaB] at h;obtain ⟨y,r,rfl,h2,h3⟩:=h
  cases i with
  | zero=>simp at e; subst e; exact ⟨d,rfl,h2⟩
  | succ i =>
   obtain ⟨d',e',q⟩:=QaB.get (i:=i) (x:=x) h3 (by simpa using e);exact ⟨d',by simpa using e',q⟩
theorem QaB.snoc {K:PySem.W.Frag}{H:Hp}{x:V}{d:PyData} (hx:Rep K H x d):∀{ds:List PyData}{xs:List V},QaB K H xs ds→QaB K H (xs ++ [x]) (ds ++ [d])
 | [],xs,h=>by rw [QaB] at h; rw [h]; exact QaB.cons hx QaB.nil
 | e::ds,xs,h=>by
  rw [QaB] at h;obtain ⟨y,r,rfl,h2,h3⟩:=h;exact QaB.cons h2 (QaB.snoc hx h3)
theorem QaB.append {K:PySem.W.Frag}{H:Hp}{ys:List V}{es:List PyData} (hy:QaB K H ys es):∀{ds:List PyData}{xs:List V},QaB K H xs ds→QaB K H (xs++ys) (ds++es)
 | [],xs,h=>by rw [QaB] at h; rw [h]; exact hy
 | e::ds,xs,h=>by
  rw [QaB] at h;obtain ⟨y,r,rfl,h2,h3⟩:=h;exact QaB.cons h2 (QaB.append hy h3)
theorem QaB.take {K:PySem.W.Frag}{H:Hp}:∀{ds:List PyData}{xs:List V} (n:Nat),QaB K H xs ds→QaB K H (xs.take n) (ds.take n)
 | _,_,0,_=>by simpa using QaB.nil
 | [],xs,n+1,h=>by rw [QaB] at h; rw [h]; simpa using QaB.nil
 | d::ds,xs,n+1,h=>by
  rw [QaB] at h;obtain ⟨y,r,rfl,h2,h3⟩:=h;exact QaB.cons h2 (QaB.take n h3)
theorem QaB.drop {K:PySem.W.Frag}{H:Hp}:∀{ds:List PyData}{xs:List V} (n:Nat),QaB K H xs ds→QaB K H (xs.drop n) (ds.drop n)
 | _,_,0,h=>by simpa using h
 | [],xs,n+1,h=>by rw [QaB] at h; rw [h]; simpa using QaB.nil
 | d::ds,xs,n+1,h=>by
  rw [QaB] at h;obtain ⟨y,r,rfl,h2,h3⟩:=h;exact QaB.drop n h3
section
variable {X:Cx}{pins:List (Addr×Obj)}{σ:St}{H:Hp}{s:Shared}
mutual
theorem Rep.reads (I:Inv X pins σ H s):∀(d:PyData) {v:V}{u:Value},Rep X.K H v d→RelV v u→∃as,Reads s.heap u d as
 | .none,v,u,h,r=>by rw [Rep] at h; subst h; cases (show u = .none from r); exact ⟨_,.none⟩
 | .bool b,v,u,h,r=>by rw [Rep] at h; subst h; cases (show u = .bool b from r); exact ⟨_,.bool b⟩
 | .int i,v,u,h,r=>by rw [Rep] at h; subst h; obtain ⟨t,rfl⟩:=(show ∃t,u = .int i t from r); exact ⟨_,.int i t⟩
 | .str x,v,u,h,r=>by rw [Rep] at h; subst h; obtain ⟨t,rfl⟩:=(show ∃t,u = .str x t from r); exact ⟨_,.str x t⟩
 | .list ds,v,u,h,r=>by
  rw [Rep] at h;obtain ⟨a,xs,rfl,h2,h3⟩:=h;cases (show u = .ref a from r);obtain ⟨its,rv,pl,_⟩:=I.list h2;obtain ⟨as,q⟩:=QaB.reads I ds h3 rv;obtain ⟨o,ho,hc,n,hd⟩:=pl.isList;exact ⟨_,.list ho hc hd (by simpa using q)⟩
 | .tuple ds,v,u,h,r=>by
  rw [Rep] at h;obtain ⟨a,xs,rfl,h2,h3⟩:=h;cases (show u = .ref a from r);obtain ⟨its,rv,pl,_⟩:=I.tuple h2;obtain ⟨as,q⟩:=QaB.reads I ds h3 rv;obtain ⟨o,ho,hc,n,hd⟩:=pl;exact ⟨_,.tuple ho hc hd (by simpa using q)⟩
 | .dict _,v,u,h,r=>by rw [Rep] at h; exact h.elim
theorem QaB.reads (I:Inv X pins σ H s):∀(ds:List PyData) {xs:List V}{us:List Value},QaB X.K H xs ds→Qax xs us→∃as,ReadsAll s.heap us ds as
 | [],xs,us,h,r=>by rw [QaB] at h; subst h; cases r; exact ⟨_,.nil⟩
 | d::ds,xs,us,h,r=>by
  rw [QaB] at h;obtain ⟨x,rest,rfl,h2,h3⟩:=h
  cases r with
  | cons r1 r2 =>
   obtain ⟨as,q⟩:=Rep.reads I d h2 r1;obtain ⟨bs,q'⟩:=QaB.reads I ds h3 r2;exact ⟨_,.cons q q'⟩
end
end
def okD (d:PyData):Bool:=d.canLay0&&decide (d.depth≤60)
def QpF (K:PySem.W.Frag) (neg:Bool):R2:=fun x y H Q=>∃d e,Rep K H x d∧Rep K H y e∧okD d=true∧okD e=true∧Q (.bl (if neg then !PyData.eqv d e else PyData.eqv d e)) H
section
variable {X:Cx}
theorem Quv {k:Nat} (hr:QaG k X.A):OpR X (compareOp .Eq) (QpF X.K false):=by
 intro pins s σ H x y v u Q I rx ry h;obtain ⟨d,e,h1,h2,k1,k2,q⟩:=h;obtain ⟨as,r1⟩:=Rep.reads I d h1 rx;obtain ⟨bs,r2⟩:=Rep.reads I e h2 ry;unfold okD at k1 k2;simp only [zk,decide_eq_true_eq] at k1 k2;exact SeqAt.compareEq_reads r1 r2 k1.1 k2.1 (by have:=hr.units; omega) ⟨.bl _,H,I,rfl,q⟩
theorem Qto {k:Nat} (hr:QaG k X.A):OpR X (compareOp .NotEq) (QpF X.K true):=by
 intro pins s σ H x y v u Q I rx ry h;obtain ⟨d,e,h1,h2,k1,k2,q⟩:=h;obtain ⟨as,r1⟩:=Rep.reads I d h1 rx;obtain ⟨bs,r2⟩:=Rep.reads I e h2 ry;unfold okD at k1 k2;simp only [zk,decide_eq_true_eq] at k1 k2;exact SeqAt.compareNe_reads r1 r2 k1.1 k2.1 (by have:=hr.units; omega) ⟨.bl _,H,I,rfl,q⟩
end
def S (l:List Nat):Str:=⟨l.toArray⟩
theorem QfY (l:List Nat):(S l).cps.toList=l:=by simp [S]
theorem QbS (l:List Nat):(S l).length=l.length:=by simp [S,Str.length]
theorem QpC (a b:List Nat):S a++S b=S (a++b):=by
 show Str.mk _=Str.mk _;simp [S]
theorem Qjm {a b:List Nat} (h:S a=S b):a=b:=by have:=congrArg (fun x:Str=>x.cps.toList) h; simpa [QfY] using this
section
variable {X:Cx}
theorem Qpt:OpR X (compareOp .LtE) (fun x y H Q=>∃i j,x = .str i∧y = .str j∧Q (.bl (!decide (j.cps.toList < i.cps.toList))) H):=by
 intro pins s σ H x y v u Q I rx ry h;obtain ⟨i,j,rfl,rfl,q⟩:=h;obtain ⟨t,rfl⟩:=rx;obtain ⟨t',rfl⟩:=ry;exact P.le_str ⟨.bl _,H,I,rfl,q⟩
theorem Qoa:OpR X (compareOp .In) (fun x y H Q=>∃c l,x = .str (S [c])∧y = .str (S l)∧Q (.bl (decide (c∈l))) H):=by
 intro pins s σ H x y v u Q I rx ry h;obtain ⟨c,l,rfl,rfl,q⟩:=h;refine Qpe pins s σ H _ _ v u Q I rx ry ⟨S [c],S l,rfl,rfl,?_⟩;have e:=PySem.StrLaws.found_one (S l) c;rw [QfY] at e;show Q (.bl (!(Builtin.Str.occurrences (S l) (S [c]) 0 (S l).length 1).isEmpty)) H;rw [show S [c]=⟨#[c]⟩ from rfl,e];exact q
theorem QlK:OpR X (compareOp .NotIn) (fun x y H Q=>∃c l,x = .str (S [c])∧y = .str (S l)∧Q (.bl (!decide (c∈l))) H):=by
 intro pins s σ H x y v u Q I rx ry h;obtain ⟨c,l,rfl,rfl,q⟩:=h;refine Qlb pins s σ H _ _ v u Q I rx ry ⟨S [c],S l,rfl,rfl,?_⟩;have e:=PySem.StrLaws.found_one (S l) c;rw [QfY] at e;show Q (.bl (!(!(Builtin.Str.occurrences (S l) (S [c]) 0 (S l).length 1).isEmpty))) H;rw [show S [c]=⟨#[c]⟩ from rfl,e];exact q
def Its (l:List Nat):It:=⟨fun i _=>i < l.length,fun i H x H'=>H'=H∧∃c,l[i]? = some c∧x = .str (S [c]),fun i _=>l.length≤i⟩
theorem Qqs {P:Program}{w:World}{K:PySem.W.Frag}{tg:Expr} (l:List Nat) (it:Addr) (t:Tok):Turn P w K tg (Its l) [it] it (fun i h=>h.IsStrIter it "str_ascii_iterator" (S l) t i) where
 mem:=by simp
 obj:=fun i h st b hb=>by
  have e:b=it:=by simpa using hb
  subst e;obtain ⟨o,e,c,d⟩:=st;exact ⟨o,e,fun v z=>by rw [d] at z; cases z⟩
 keep:=fun i h h' st k=>let ⟨o,ho,r⟩:=st; ⟨o,k it (by simp) o ho,r⟩
 item:=by
  intro X hP hw hK hc i pins s σ H E I hf st hg;subst hP hw hK;obtain ⟨f0,f1,f2,f3,f4,f5⟩:=hf it (by simp);have hg':i < l.length:=hg
  refine wpAny_pyNext_ascii_item st (c:=l[i]) (by simp [S,hg']) fun h' st' sb=>?_
  have I1:Inv X pins σ H { s with heap:=h',toks:=s.toks+1 }:=I.turned (fun b o hb e=>(sb.2 b hb).trans e) f0 f1 f3 f4 f5;obtain ⟨o,e,c,d⟩:=id st';exact ⟨_,rfl,Qja (s:={ s with heap:=h',toks:=s.toks+1 }) e c d (by decide) ⟨.str (S [l[i]]),H,I1,⟨_,rfl⟩,⟨rfl,l[i],by simp [hg'],rfl⟩,st',fun b hb=>(hf b hb).1⟩⟩
 done:=by
  intro X hP hw hK hc i pins s σ H E I hf st hg;subst hP hw hK;obtain ⟨f0,f1,f2,f3,f4,f5⟩:=hf it (by simp);have hg':l.length≤i:=hg
  exact wpAny_pyNext_ascii_end (I.ok.hd hc) st (by simp [S,hg']) fun h' eb=>⟨rfl,I.turned (t':=s.toks) (fun b o hb e=>eb b o hb e) f0 f1 f3 f4 f5⟩
 self:=fun _ _ _ _ _ st h=>wpAny_pyIter_striter_ascii st h
def ascii (l:List Nat):Bool:=l.all (· < 128)
def QwL (tl:TE):TI:=fun σ H R=>tl σ H fun x H1=>∃l,x = .str (S l)∧ascii l=true∧R (Its l) H1
theorem Qus {tg e:Expr}{tl:TE} (hl:PE X e tl):PI X tg e (QwL tl):=by
 intro pins s σ H R I h
 refine thn (hl pins s σ H _ I h) fun v s1 ⟨x,H1,I1,r1,q1⟩=>?_
 obtain ⟨l,e,ha,q⟩:=q1;subst e;obtain ⟨t,rfl⟩:=r1;refine wpAny_pyIter_ascii (by simpa [S,ascii] using ha) ?_;refine ⟨s1.heap.objs.size,[s1.heap.objs.size],_,_,H1,rfl,I1.kept (t':=s1.toks) fun b o e=>zh _ e,Qqs l _ t,⟨_,zD _ rfl,rfl,rfl⟩,fun b hb=>?_,q⟩
 have e:b=s1.heap.objs.size:=by simpa using hb
 subst e;exact I1.fpOk (ze _) (I1.hok.fresh (ze _))
theorem Qo9 (hc:X.calm=true):Qc5 X (.builtin "all") (fun xs H Q=>∃(a:Addr) (bs:List Bool),xs = [.ref a]∧SqL X.K H a (bs.map V.bl)∧Q (.bl (bs.all id)) H):=by
 intro pins s σ H xs us Q I r h;obtain ⟨a,bs,rfl,ha,q⟩:=h;obtain ⟨u,rfl,ru⟩:=vals1 r;cases ru;obtain ⟨its,rv,p,hz⟩:=I.list ha;refine call_all_walk (wpAny_pyIter_list p.isList ?_);have hne:a≠s.heap.objs.size:=zq (zf p.isList.choose_spec.1)
 refine ⟨s.heap.objs.size,_,_,its.toArray.size,_,_,fun i=>bs.getD i true,rfl,Walks.list (A:=X.A.in1) (I.ok.hd hc) s.heap.objs.size a hne its.toArray,
  ⟨⟨_,zD _ rfl,rfl,rfl⟩,p.isList.at fun o e=>zh _ e⟩,fun i v s' Q' E' hv hq=>?_,fun h' tk hk=>?_⟩
 ·have hb:(bs.map V.bl)[i]? = some (V.bl (bs.getD i true)):=by
   have hi:i < its.length:=by
    have z:=Array.getElem?_eq_some_iff.mp hv;simpa using z.1
   have hl:=rv.length;rw [zp] at hl;rw [zG,zx (by omega),zS,zx (by omega)];rfl
  obtain ⟨u,hu,ru⟩:=rv.get hb
  have hv':its[i]? = some v:=by simpa using hv
  rw [hv'] at hu;cases hu;cases (show v = .bool _ from ru);exact wpAny_truthy_bool hq
 ·refine ⟨.bl (bs.all id),H,I.kept fun b o e=>hk b o (fun z=>?_) (zh _ e),?_,q⟩
  ·have z':b=s.heap.objs.size:=by simpa using z
   exact absurd (zf e) (by rw [z']; exact zH _)
  ·have hl:its.length=bs.length:=by have:=rv.length; rw [zp] at this; exact this.symm
   have e:(List.range its.toArray.size).all (fun i=>bs.getD i true)=bs.all id:=by
    rw [zu,hl];rw [Bool.eq_iff_iff,zZ,zZ];constructor
    ·intro h x hx;obtain ⟨i,hi,rfl⟩:=List.mem_iff_getElem.mp hx
     have:=h i (List.mem_range.mpr hi)
     rw [zS,zx hi] at this;exact this
    ·intro h i hi;have hi':=List.mem_range.mp hi;rw [zS,zx hi'];exact h _ (jg hi')
   show Value.bool _=Value.bool _;rw [e]
end
structure Blt (mg:Str→Option Value):Prop where
 len_:mg "len" = none
 isinstance_:mg "isinstance" = none
 all_:mg "all" = none
 sum_:mg "sum" = none
 max_:mg "max" = none
 min_:mg "min" = none
 int_:mg "int" = none
 str_:mg "str" = none
 bool_:mg "bool" = none
 list_:mg "list" = none
 tuple_:mg "tuple" = none
 dict_:mg "dict" = none
 range_:mg "range" = none
 enumerate_:mg "enumerate" = none
 zip_:mg "zip" = none
section
variable {X:Cx}
theorem Qlr {x:Str}{v:V}{pos:Pos} (h:∃u,X.mg x=some u∧RelV v u) (hg:Gl X x:=by rfl) (hd:(x == ("__debug__":Str))=false:=by decide):PE X (.Name x pos) (tC v):=by
 obtain ⟨u,hm,r⟩:=h;exact QjO hg hm r hd
end
theorem at0 {α:Type}{x:α}{l:List α}:atI (x::l) 0=some x:=Qrf (j:=0) rfl
def QcK {α:Type} (l:List α) (lo hi:Option Int):List α:=(l.drop (HT.sIx l.length 0 lo)).take (HT.sIx l.length l.length hi - HT.sIx l.length 0 lo)
theorem Qmb (l:List Nat) (lo hi:Option Int):Txt.slice (S l) lo hi=S (QcK l lo hi):=by
 obtain ⟨h1,h2,h3⟩:=QhA lo hi l.length
 have e:Builtin.Str.strSliceIndices lo hi 1 (S l).length=(List.range (HT.sIx l.length l.length hi - HT.sIx l.length 0 lo)).map (HT.sIx l.length 0 lo + ·):=by
  rw [QbS];show sliceRange (sliceBounds lo hi none l.length).1 (sliceBounds lo hi none l.length).2.1 (sliceBounds lo hi none l.length).2.2=_;rw [h1,h2,h3,sliceRange_one]
 unfold Txt.slice;rw [e,pick_run,QfY]
 split
 ·rename_i h
  have hl:HT.sIx l.length l.length hi - HT.sIx l.length 0 lo=l.length:=by simpa [QbS] using h
  have hle:HT.sIx l.length l.length hi≤l.length:=HT.sIx_le _ _ (ze _) hi;have hlo:HT.sIx l.length 0 lo≤l.length:=HT.sIx_le _ _ (Nat.zero_le _) lo
  have h0:HT.sIx l.length 0 lo=0:=by omega
  have h1:HT.sIx l.length l.length hi=l.length:=by omega
  unfold QcK;rw [h0,h1];simp
 ·rfl
section
variable {X:Cx}
def Qw3:V→Option Int→Option Int→Hp→VK→Prop:=fun x lo hi H Q=>∃l,x = .str (S l)∧l.length≤sizeLine∧Q (.str (S (QcK l lo hi))) H
theorem part_of {v:Value}{o:Option Int} (p:IsPart v o):∃q:Option (Int×Tok),v=partValue q∧q.map (·.1)=o:=by
 cases p with
 | none=>exact ⟨none,rfl,rfl⟩
 | int i t=>exact ⟨some (i,t),rfl,rfl⟩
theorem QuI:SlR X Qw3:=by
 intro pins s σ H x v vl vu lo hi sl Q I rx hs pl pu h;obtain ⟨l,rfl,hz,q⟩:=h;obtain ⟨t,rfl⟩:=rx;obtain ⟨ql,rfl,e1⟩:=part_of pl;obtain ⟨qu,rfl,e2⟩:=part_of pu;refine ⟨"str",_,F.slot_str_getitem.lookup,typeIs_str _ _ _,?_⟩;refine wpAny_getItem_str_slice (l:=ql) (u:=qu) (st:=none) hs rfl ?_;have key:(if ((1:Int) == 1&&(Builtin.Str.strSliceIndices lo hi 1 (S l).length).length == (S l).length)=true then S l else ⟨((Builtin.Str.strSliceIndices lo hi 1 (S l).length).filterMap ((S l).cps[·]?)).toArray⟩)=S (QcK l lo hi):=Qmb l lo hi;unfold sliceMade slicePicked;rw [e1,e2];refine post_val_or_str ⟨?_,fun t' k=>?_⟩
 ·show (Txt.slice (S l) lo hi).length≤_;exact zB (Txt.slice_le _ _ _) (by rw [QbS]; exact hz)
 ·have e3:=Qmb l lo hi;unfold Txt.slice at e3;show EP X pins σ Q (.str (if ((1:Int) == 1&&(Builtin.Str.strSliceIndices lo hi 1 (S l).length).length == (S l).length)=true then S l else ⟨((Builtin.Str.strSliceIndices lo hi 1 (S l).length).filterMap ((S l).cps[·]?)).toArray⟩) t') { s with toks:=k };rw [e3];exact ⟨.str _,H,I.tok k,⟨t',rfl⟩,q⟩
end
namespace HT2
theorem getItem_tuple_whole {prog:Program}{w:World}{A:Around}{E:Value→Shared→Prop}{s:Shared}{t sl:Addr}{items:Array Value}{vl vu:Value}{lo hi:Option Int}{Q:Value→Shared→Prop} (ht:IsTup s.heap t items) (hs:s.heap.IsSliceOf sl vl vu .none) (pl:IsPart vl lo) (pu:IsPart vu hi)
  (hw:HT.sIx items.size 0 lo=0∧HT.sIx items.size items.size hi=items.size) (h:Q (.ref t) s):wpAny (model prog w) A (getItem (.ref t) (.ref sl)) Q E s:=by
 obtain ⟨os,hos,hcs,hds⟩:=id hs;have hTs:s.TypeIs (.ref sl) "slice":=⟨os,hos,hcs⟩;unfold getItem
 try with_reducible refine zK ?_
 first | refine zc (zd ?_) | skip
 refine zc (wpAny_sequenceKey ht.typeIs (by decide) ?_)
 refine zc (wpAny_callSpecial?_slot (name:=Str.ofString "__getitem__") ht.typeIs PyProof.Rows.slot_tuple_getitem
  (wpAny_call_entry PyProof.Rows.slot_tuple_getitem ht.typeIs entry_tuple_getitem ?_ (args_tuple_getitem _ _)))
 show wpAny _ _ (Builtin.Tuple.tupleItemsOf (.ref t) >>= _) _ _ s;refine zc (tupleItemsOf_ ht ?_);refine zc (wpAny_typeOf hTs ?_);rw [if_pos (by decide)];refine zc (HT.sliceApplied_gen hs pl pu ?_)
 have hyes:(((HT.sIx items.size 0 lo:Nat):Int) == 0&&(1:Int) == 1&&(HT.sIx items.size items.size hi - HT.sIx items.size 0 lo) == items.size)=true:=by
  rw [hw.1,hw.2];simp
 show wpAny _ _ (if (((HT.sIx items.size 0 lo:Nat):Int) == 0&&(1:Int) == 1&&(HT.sIx items.size items.size hi - HT.sIx items.size 0 lo) == items.size)=true then _ else _) _ _ s;rw [if_pos hyes]
 have hex:∀{A':Around}{E':Value→Shared→Prop}{Q':Bool→Shared→Prop},Q' true s→wpAny (model prog w) A' (Builtin.Tuple.tupleIsExact (.ref t)) Q' E' s:=fun {A' E' Q'} hq=>by
  unfold Builtin.Tuple.tupleIsExact;exact zc (wpAny_typeOf ht.typeIs (zd hq))
 refine zc (hex ?_);rw [if_pos rfl];exact zc (zV (zd ⟨_,rfl,zd h⟩))
end HT2
section
variable {X:Cx}
def QuY (K:PySem.W.Frag):V→Option Int→Option Int→Hp→VK→Prop:=fun x lo hi H Q=>∃a xs,x = .ref a∧SqT K H a xs ∧
 ((HT.sIx xs.length 0 lo=0∧HT.sIx xs.length xs.length hi=xs.length)→Q (.ref a) H)∧(¬(HT.sIx xs.length 0 lo=0∧HT.sIx xs.length xs.length hi=xs.length)→∀p,H p=none→Q (.ref p) (upd H p (.tup (Qg2 xs lo hi))))
theorem Qrm (K:PySem.W.Frag) (hK:X.K=K:=by rfl):SlR X (QuY K):=by
 subst hK;intro pins s σ H x v vl vu lo hi sl Q I rx hs pl pu h;obtain ⟨a,xs,rfl,hx,q1,q2⟩:=h
 by_cases hw:HT.sIx xs.length 0 lo=0∧HT.sIx xs.length xs.length hi=xs.length
 ·cases rx;obtain ⟨its,r,ht,hz⟩:=I.tuple hx
  have hlen:its.toArray.size=xs.length:=by rw [zu]; exact r.length.symm
  exact ⟨"tuple",_,PyProof.Rows.slot_tuple_getitem.lookup,ht.typeIs,HT2.getItem_tuple_whole ht hs pl pu (by rw [hlen]; exact hw) ⟨.ref a,H,I,rfl,q1 hw⟩⟩
 ·exact QsL pins s σ H _ v vl vu lo hi sl Q I rx hs pl pu ⟨a,xs,rfl,hx,hw,q2 hw⟩
inductive TyQ (K:PySem.W.Frag) (H:Hp):V→String→Prop where
 | non:TyQ K H .non "NoneType"
 | bl (x:Bool):TyQ K H (.bl x) "bool"
 | int (i:Int):TyQ K H (.int i) "int"
 | str (x:Str):TyQ K H (.str x) "str"
 | lst {a:Addr}{xs:List V} (e:SqL K H a xs):TyQ K H (.ref a) "list"
 | tup {a:Addr}{xs:List V} (e:SqT K H a xs):TyQ K H (.ref a) "tuple"
 | dK {a:Addr}{kvs:List (Key×V)} (e:H a=some (.dK kvs)):TyQ K H (.ref a) "dict"
def QwA (K:PySem.W.Frag):List V→Hp→VK→Prop:=fun xs H Q=>∃x n t b,xs = [x,.ty n]∧TyQ K H x t∧PySem.W.kitOne K (.type t) (.type n)=some b∧Q (.bl b) H
theorem Qpi (K:PySem.W.Frag) (hK:X.K=K:=by rfl):Qc5 X (.builtin "isinstance") (QwA K):=by
 subst hK;intro pins s σ H xs us Q I r h;obtain ⟨x,n,t,b,rfl,ty,e,q⟩:=h;obtain ⟨u,c,rfl,r1,r2⟩:=vals2 r;cases (show c = .type n from r2)
 have fin:∀tk,EP X pins σ Q (.bool b) { s with toks:=tk }:=fun tk=>⟨.bl b,H,I.tok tk,rfl,q⟩
 cases ty with
 | non=>exact QeK I r1 .non e fin
 | bl y=>exact QeK I r1 (.bl y) e fin
 | int i=>exact QeK I r1 (.int i) e fin
 | str y=>exact QeK I r1 (.str y) e fin
 | @lst a xs ea =>
  cases (show u=Value.ref a from r1);obtain ⟨its,_,p,_⟩:=I.list ea;obtain ⟨o,ho,hc,_⟩:=p.isList;exact PySem.W.kia_one PySem.W.kitx_list I.kIn ⟨o,ho,hc⟩ e (fun z=>nomatch z) fin
 | @tup a xs ea =>
  cases (show u=Value.ref a from r1);obtain ⟨its,_,p,_⟩:=I.tuple ea;obtain ⟨o,ho,hc,_⟩:=p;exact PySem.W.kia_one PySem.W.kitx_tuple I.kIn ⟨o,ho,hc⟩ e (fun z=>nomatch z) fin
 | @dK a kvs ea=>exact QeK I r1 (.dK ea) e fin
theorem Qqj (K:PySem.W.Frag) (n:String):PySem.W.kitOne K (.type n) (.type n)=some true:=by
 unfold PySem.W.kitOne;rw [if_pos (beq_self_eq_true _)]
end
theorem Qme:∀{ds:List PyData},(∀d∈ds,d.canLay0=true)→PyData.canLayAll0 ds=true
 | [],_=>rfl
 | d::ds,h=>by rw [PyData.canLayAll0,h d zz,Qme fun x hx=>h x (zw _ hx)]; rfl
theorem Qlf {n:Nat}:∀{ds:List PyData},(∀d∈ds,d.depth≤n)→PyData.depthAll ds≤n
 | [],_=>by rw [PyData.depthAll]; exact Nat.zero_le _
 | d::ds,h=>by
  rw [PyData.depthAll];exact Nat.max_le.mpr ⟨h d zz,Qlf fun x hx=>h x (zw _ hx)⟩
theorem QrM {n:Nat} (hn:n < 60) {ds:List PyData} (h:∀d∈ds,d.canLay0=true∧d.depth≤n):okD (.list ds)=true:=by
 unfold okD;rw [zk];refine ⟨?_,zl ?_⟩
 ·show PyData.canLayAll0 ds=true
  exact Qme fun d hd=>(h d hd).1
 ·show PyData.depthAll ds+1≤60
  have:=Qlf fun d hd=>(h d hd).2
  omega
section
variable {X:Cx}
def QuU:R2:=fun x y H Q=>∃(l:List Nat) (n:Int),x = .str (S l)∧y = .int n∧-1000000 < n∧n < 1000000∧l.length * n.toNat≤16777216∧Q (.str (S (List.replicate n.toNat l).flatten)) H
theorem Qq1 (l:List Nat):∀(n:Nat) (a:Array Nat),(List.replicate n (S l).cps).foldl (· ++ ·) a=a++(List.replicate n l).flatten.toArray
 | 0,a=>by simp
 | n+1,a=>by
  rw [List.replicate_succ,List.foldl_cons,Qq1 l n,List.replicate_succ,List.flatten_cons];simp [S]
theorem Qnn:OpR X (binaryOp .Mult) QuU:=by
 intro pins s σ H x y v u Q I rx ry h;obtain ⟨l,n,rfl,rfl,h1,h2,h3,q⟩:=h;obtain ⟨t,rfl⟩:=rx;obtain ⟨t',rfl⟩:=ry;have hs:sizeLine=16777216:=sizeLine_eq
 by_cases hn:n < 1
 ·have e0:n.toNat=0:=by omega
  rw [e0] at q;exact P.mul_str_none hn (by omega) ⟨.str (S []),H,I.tok _,⟨s.toks,rfl⟩,q⟩
 refine P.mul_str ?_ (fun _ _=>?_) (fun _ _=>?_) ?_
 ·rw [zn (by omega),zn (by omega)];rfl
 ·rw [QbS];intro hz
  have h4:(l.length:Int) * n≤16777216:=by
   have:((l.length * n.toNat:Nat):Int)≤16777216:=by omega
   rw [Int.natCast_mul,Int.toNat_of_nonneg (by omega)] at this;exact this
  have h5:(2 ^ 63 - 1) / n < (l.length:Int):=hz;have h6:=(Int.ediv_lt_iff_lt_mul (show 0 < n by omega)).mp h5;omega
 ·rw [QbS];unfold Builtin.Str.tooLong;exact zn (by omega)
 ·rw [if_neg (by omega)]
  by_cases hl:(n == 1 || (S l).length == 0)=true
  ·rw [if_pos hl]
   have e:(List.replicate n.toNat l).flatten=l:=by
    rw [Bool.or_eq_true,beq_iff_eq,beq_iff_eq,QbS] at hl
    rcases hl with z | z
    ·rw [z];show (List.replicate 1 l).flatten=l;simp
    ·have z':=List.eq_nil_of_length_eq_zero z;subst z';rw [List.flatten_eq_nil_iff];intro x hx;exact (List.mem_replicate.mp hx).2
   rw [e] at q;exact ⟨.str (S l),H,I,⟨t,rfl⟩,q⟩
  ·rw [if_neg hl,Qq1];refine ⟨?_,.str (S (List.replicate n.toNat l).flatten),H,I.tok _,⟨s.toks,?_⟩,q⟩
   ·show (#[]++(List.replicate n.toNat l).flatten.toArray).size≤sizeLine;simp only [Array.size_append,zu,List.length_flatten,List.map_replicate,List.sum_replicate_nat];simp;rw [Nat.mul_comm];omega
   ·congr 1;simp [S]
end
inductive D where
 | non | bl (b:Bool) | int (i:Int) | str (l:List Nat) | lst (ds:List D) | tup (ds:List D) | dic (ks vs:List D) | ob (n:Nat)
inductive Ob where
 | ins (c:Str) (fs:List (Str×D))
 | ml (ds:List D)
 | dt (kvs:List (List Key×D))
 | df (kvs:List (List Key×D))
 | dk (kvs:List (Key×D))
 | kf (kvs:List (Key×D))
 | xc (c:Str) (fs:List (Str×D))
abbrev Qac:=List Ob
abbrev Qai:=List (Option D)
structure Xc where
 cls:Str
 fs:List (Str×D)
inductive Res (α:Type) where
 | ok (a:α) (O:Qac) | ex (x:Xc) (O:Qac) | no
inductive Fl where
 | nx (ρ:Qai) (O:Qac) | rt (d:D) (O:Qac) | bk (ρ:Qai) (O:Qac) | ct (ρ:Qai) (O:Qac) | ex (x:Xc) (O:Qac) | no
abbrev M (α:Type):=Qai→Qac→Res α
abbrev MS:=Qai→Qac→Fl
def Res.bind {α β:Type} (r:Res α) (f:α→Qac→Res β):Res β:=match r with
 | .ok a O=>f a O
 | .ex x O=>.ex x O
 | .no=>.no
theorem Res.bind_ok {α β:Type}{r:Res α}{f:α→Qac→Res β}{b:β}{O':Qac} (h:r.bind f = .ok b O'):∃a O,r = .ok a O∧f a O = .ok b O':=by
 cases r with
 | ok a O=>exact ⟨a,O,rfl,h⟩
 | ex x O=>cases h
 | no=>cases h
def QkU:Expr→Bool
 | .Starred _ _=>false
 | _=>true
theorem Qbm {e:Expr}{es:List Expr}{env:Env} (h:QkU e=true):starEach (e::es) env=(false,eval e env)::starEach es env:=by
 cases e <;> first | rfl | cases h
theorem Qbu {pos:Pos}{env:Env}:∀{es:List Expr},es.all QkU=true→(backTo pos (starEach es env)).any (·.1)=false
 | [],_=>by simp [starEach,backTo]
 | e::es,h=>by
  rw [List.all_cons,zk] at h;rw [Qbm h.1];show (false || (backTo pos (starEach es env)).any (·.1))=false;rw [Qbu h.2];rfl
theorem Qh9 {e:Expr}{env:Env} (h:QkU e=true):starEach [e] env = [(false,eval e env)]:=by rw [Qbm h]; simp [starEach]
abbrev Frag:=PySem.W.Frag
def QgX:Key→D
 | .inl i=>.int i
 | .inr x=>.str x.cps.toList
def RdK (K:Frag) (H:Hp) (a:Addr) (xs:List V):Prop:=Rd H a (.lst xs)∨∃(its:List Value) (n:Nat),K.lookup a=some { cls:=.type "list",data:=.seq its.toArray n }∧its.length≤sizeLine∧Qax xs its
theorem RdK.sq {K:Frag}{H:Hp}{a:Addr}{xs:List V} (h:RdK K H a xs):SqL K H a xs:=by
 rcases h with h | ⟨its,n,h1,h2,h3⟩
 ·exact .inl h
 ·exact .inr ⟨_,its.toArray,n,h1,rfl,rfl,rfl,by simpa using h2,by simpa using h3⟩
theorem RdK.ok {X:Cx}{pins:List (Addr×Obj)}{σ:St}{H:Hp}{s:Shared}{a:Addr}{xs:List V} (h:RdK X.K H a xs) (I:Inv X pins σ H s):xs.length≤sizeLine∧∃(its:List Value) (n:Nat),Qax xs its∧s.heap.get? a=some { cls:=.type "list",data:=.seq its.toArray n }:=by
 rcases h with h | ⟨its,n,h1,h2,h3⟩
 ·exact h.ok I.hok
 ·exact ⟨by rw [h3.length]; exact h2,its,n,h3,I.kIn a _ h1⟩
def TqT (K:Frag) (F:Hp) (a:Addr) (xs:List V):Prop :=
 F a=some (.tup xs)∨∃(o:Obj) (its:Array Value) (n:Nat),K.lookup a=some o∧o.cls = .type "tuple"∧o.data = .seq its n∧its.size≤sizeLine∧Qax xs its.toList
theorem TqT.sq {K:Frag}{F:Hp}{a:Addr}{xs:List V} (h:TqT K F a xs):SqT K F a xs:=h.imp .inl id
mutual
def Rp (K:Frag) (F:Hp) (as:List Addr):V→D→Prop
 | v,.non=>v = .non
 | v,.bl b=>v = .bl b
 | v,.int i=>v = .int i
 | v,.str l=>v = .str (S l)
 | v,.lst ds=>∃a xs,v = .ref a∧RdK K F a xs∧Rps K F as xs ds
 | v,.tup ds=>∃a xs,v = .ref a∧TqT K F a xs∧Rps K F as xs ds
 | v,.dic ks vs=>∃(a:Addr) (kvs:List (Key×V)),v = .ref a∧F a=some (.dK kvs)∧ks=kvs.map (fun p=>QgX p.1)∧Rps K F as (kvs.map (·.2)) vs
 | v,.ob n=>∃a,v = .ref a∧as[n]? = some a
def Rps (K:Frag) (F:Hp) (as:List Addr):List V→List D→Prop
 | xs,[]=>xs = []
 | xs,d::ds=>∃x r,xs=x::r∧Rp K F as x d∧Rps K F as r ds
end
section
variable {K:Frag}{F F':Hp}{as as':List Addr}
theorem Rd.mono {H H':Hp}{a:Addr}{u:HO} (e:Same H H') (h:Rd H a u):Rd H' a u:=by
 rcases h with h | ⟨o,h⟩
 ·exact .inl (e _ _ h)
 ·exact .inr ⟨o,e _ _ h⟩
theorem RdK.mono {H H':Hp}{a:Addr}{xs:List V} (e:Same H H') (h:RdK K H a xs):RdK K H' a xs:=h.imp (fun z=>z.mono e) id
mutual
theorem Rp.mono (e:Same F F') (ea:∀(n:Nat) (a:Addr),as[n]? = some a→as'[n]? = some a):∀(d:D) {v:V},Rp K F as v d→Rp K F' as' v d
 | .non,v,h=>by rw [Rp] at h ⊢; exact h
 | .bl b,v,h=>by rw [Rp] at h ⊢; exact h
 | .int i,v,h=>by rw [Rp] at h ⊢; exact h
 | .str x,v,h=>by rw [Rp] at h ⊢; exact h
 | .lst ds,v,h=>by
  rw [Rp] at h ⊢;obtain ⟨a,xs,h1,h2,h3⟩:=h;exact ⟨a,xs,h1,h2.mono e,Rps.mono e ea ds h3⟩
 | .tup ds,v,h=>by
  rw [Rp] at h ⊢;obtain ⟨a,xs,h1,h2,h3⟩:=h;exact ⟨a,xs,h1,h2.imp (e _ _) id,Rps.mono e ea ds h3⟩
 | .dic ks vs,v,h=>by
  rw [Rp] at h ⊢;obtain ⟨a,kvs,h1,h2,h3,h4⟩:=h;exact ⟨a,kvs,h1,e _ _ h2,h3,Rps.mono e ea vs h4⟩
 | .ob n,v,h=>by
  rw [Rp] at h ⊢;obtain ⟨a,h1,h2⟩:=h;exact ⟨a,h1,ea _ _ h2⟩
theorem Rps.mono (e:Same F F') (ea:∀(n:Nat) (a:Addr),as[n]? = some a→as'[n]? = some a):∀(ds:List D) {xs:List V},Rps K F as xs ds→Rps K F' as' xs ds
 | [],xs,h=>by rw [Rps] at h ⊢; exact h
 | d::ds,xs,h=>by
  rw [Rps] at h ⊢;obtain ⟨x,r,h1,h2,h3⟩:=h;exact ⟨x,r,h1,Rp.mono e ea d h2,Rps.mono e ea ds h3⟩
end
theorem Rp.non:Rp K F as .non .non:=by rw [Rp]
theorem Rp.bl {b:Bool}:Rp K F as (.bl b) (.bl b):=by rw [Rp]
theorem Rp.int {i:Int}:Rp K F as (.int i) (.int i):=by rw [Rp]
theorem Rp.str {l:List Nat}:Rp K F as (.str (S l)) (.str l):=by rw [Rp]
theorem Rp.unN {v:V} (h:Rp K F as v .non):v = .non:=by rw [Rp] at h; exact h
theorem Rp.unB {v:V}{b:Bool} (h:Rp K F as v (.bl b)):v = .bl b:=by rw [Rp] at h; exact h
theorem Rp.unI {v:V}{i:Int} (h:Rp K F as v (.int i)):v = .int i:=by rw [Rp] at h; exact h
theorem Rp.unS {v:V}{l:List Nat} (h:Rp K F as v (.str l)):v = .str (S l):=by rw [Rp] at h; exact h
theorem Rp.unL {v:V}{ds:List D} (h:Rp K F as v (.lst ds)):∃a xs,v = .ref a∧RdK K F a xs∧Rps K F as xs ds:=by rw [Rp] at h; exact h
theorem Rp.unT' {v:V}{ds:List D} (h:Rp K F as v (.tup ds)):∃a xs,v = .ref a∧TqT K F a xs∧Rps K F as xs ds:=by rw [Rp] at h; exact h
theorem Rp.unT {v:V}{ds:List D} (h:Rp K F as v (.tup ds)):∃a xs,v = .ref a∧SqT K F a xs∧Rps K F as xs ds:=let ⟨a,xs,e,h1,h2⟩:=h.unT'; ⟨a,xs,e,h1.sq,h2⟩
theorem Rp.unO {v:V}{n:Nat} (h:Rp K F as v (.ob n)):∃a,v = .ref a∧as[n]? = some a:=by rw [Rp] at h; exact h
theorem Rp.unD {v:V}{ks vs:List D} (h:Rp K F as v (.dic ks vs)):∃(a:Addr) (kvs:List (Key×V)),v = .ref a∧F a=some (.dK kvs)∧ks=kvs.map (fun p=>QgX p.1)∧Rps K F as (kvs.map (·.2)) vs:=by rw [Rp] at h; exact h
theorem Rp.mkL {a:Addr}{xs:List V}{ds:List D} (h:RdK K F a xs) (hs:Rps K F as xs ds):Rp K F as (.ref a) (.lst ds):=by rw [Rp]; exact ⟨a,xs,rfl,h,hs⟩
theorem Rp.mkT {a:Addr}{xs:List V}{ds:List D} (h:TqT K F a xs) (hs:Rps K F as xs ds):Rp K F as (.ref a) (.tup ds):=by rw [Rp]; exact ⟨a,xs,rfl,h,hs⟩
theorem Rp.mkO {a:Addr}{n:Nat} (h:as[n]? = some a):Rp K F as (.ref a) (.ob n):=by rw [Rp]; exact ⟨a,rfl,h⟩
theorem Rps.nil:Rps K F as [] []:=by rw [Rps]
theorem Rps.cons {x:V}{xs:List V}{d:D}{ds:List D} (h:Rp K F as x d) (hs:Rps K F as xs ds):Rps K F as (x::xs) (d::ds):=by
 rw [Rps]; exact ⟨x,xs,rfl,h,hs⟩
theorem Rps.un {xs:List V}{d:D}{ds:List D} (h:Rps K F as xs (d::ds)):∃x r,xs=x::r∧Rp K F as x d∧Rps K F as r ds:=by rw [Rps] at h; exact h
theorem Rps.un0 {xs:List V} (h:Rps K F as xs []):xs = []:=by rw [Rps] at h; exact h
theorem Rps.length:∀{ds:List D}{xs:List V},Rps K F as xs ds→xs.length=ds.length
 | [],xs,h=>by rw [h.un0]; rfl
 | d::ds,xs,h=>by
  obtain ⟨x,r,rfl,_,h3⟩:=h.un;simp [Rps.length h3]
theorem Rps.get:∀{ds:List D}{xs:List V}{i:Nat}{x:V},Rps K F as xs ds→xs[i]? = some x→∃d,ds[i]? = some d∧Rp K F as x d
 | [],xs,i,x,h,e=>by rw [h.un0] at e; simp at e
 | d::ds,xs,i,x,h,e=>by
  obtain ⟨y,r,rfl,h2,h3⟩:=h.un
  cases i with
  | zero=>simp at e; subst e; exact ⟨d,rfl,h2⟩
  | succ i =>
   obtain ⟨d',e',q⟩:=Rps.get (i:=i) (x:=x) h3 (by simpa using e);exact ⟨d',by simpa using e',q⟩
theorem Rps.get':∀{ds:List D}{xs:List V}{i:Nat}{d:D},Rps K F as xs ds→ds[i]? = some d→∃x,xs[i]? = some x∧Rp K F as x d:=by
 intro ds xs i d h e;have hl:=h.length
 have hi:i < xs.length:=by rw [hl]; exact (zo.mp e).1
 obtain ⟨d',e',q⟩:=h.get (zx hi);rw [e] at e'; cases e';exact ⟨_,zx hi,q⟩
theorem Rps.append {ys:List V}{es:List D} (hy:Rps K F as ys es):∀{ds:List D}{xs:List V},Rps K F as xs ds→Rps K F as (xs++ys) (ds++es)
 | [],xs,h=>by rw [h.un0]; exact hy
 | e::ds,xs,h=>by
  obtain ⟨y,r,rfl,h2,h3⟩:=h.un;exact Rps.cons h2 (Rps.append hy h3)
theorem Rps.snoc {x:V}{d:D}{ds:List D}{xs:List V} (h:Rps K F as xs ds) (hx:Rp K F as x d):Rps K F as (xs ++ [x]) (ds ++ [d]):=Rps.append (Rps.cons hx Rps.nil) h
theorem Rps.take:∀{ds:List D}{xs:List V} (n:Nat),Rps K F as xs ds→Rps K F as (xs.take n) (ds.take n)
 | _,_,0,_=>by simpa using Rps.nil
 | [],xs,n+1,h=>by rw [h.un0]; simpa using Rps.nil
 | d::ds,xs,n+1,h=>by
  obtain ⟨y,r,rfl,h2,h3⟩:=h.un;exact Rps.cons h2 (Rps.take n h3)
theorem Rps.drop:∀{ds:List D}{xs:List V} (n:Nat),Rps K F as xs ds→Rps K F as (xs.drop n) (ds.drop n)
 | _,_,0,h=>by simpa using h
 | [],xs,n+1,h=>by rw [h.un0]; simpa using Rps.nil
 | d::ds,xs,n+1,h=>by
  obtain ⟨y,r,rfl,h2,h3⟩:=h.un;exact Rps.drop n h3
theorem Rps.set:∀{ds:List D}{xs:List V}{x:V}{d:D} (n:Nat),Rps K F as xs ds→Rp K F as x d→Rps K F as (xs.set n x) (ds.set n d)
 | [],xs,x,d,n,h,_=>by rw [h.un0]; simpa using Rps.nil
 | e::ds,xs,x,d,0,h,hx=>by
  obtain ⟨y,r,rfl,h2,h3⟩:=h.un;exact Rps.cons hx h3
 | e::ds,xs,x,d,n+1,h,hx=>by
  obtain ⟨y,r,rfl,h2,h3⟩:=h.un;exact Rps.cons h2 (Rps.set n h3 hx)
theorem Rps.rep {ds:List D}{xs:List V} (h:Rps K F as xs ds):∀n:Nat,Rps K F as (List.replicate n xs).flatten (List.replicate n ds).flatten
 | 0=>by simpa using Rps.nil
 | n+1=>by
  rw [List.replicate_succ,List.replicate_succ,List.flatten_cons,List.flatten_cons];exact Rps.append (Rps.rep h n) h
end
def isD:HO→Bool
 | .ins _ _ _=>false
 | .own _=>false
 | .xd _=>false
 | _=>true
def isL:HO→Bool
 | .lst _=>true
 | .dK _=>true
 | _=>false
theorem QqL {o:HO} (h:isL o=true):isD o=true:=by
 cases o <;> first | rfl | cases h
structure Gr (H F:Hp) (as:List Addr) (H' F':Hp) (as':List Addr):Prop where
 fz:∀a o,H a=some o→a∉as→isL o=true→F' a=F a
 ff:Same F F'
 nw:∃new,as'=as++new∧∀a∈new,H a=none
 fr:∀a o,H a=some o→a∉as→isD o=true→H' a=some o
 dm:∀a,H' a=none→H a=none
 kz:∀a o u,H a=some (.frz o u)→H' a=some (.frz o u)
structure Pt where
 p:Addr→Prop
 ss:List (Nat×V×D)
instance:CoeFun Pt (fun _=>Addr→Prop):=⟨Pt.p⟩
def Pt.all (H:Hp):Pt:=⟨fun a=>H a≠none,[]⟩
structure GrS (P:Pt) (H F:Hp) (as:List Addr) (H' F':Hp) (as':List Addr):Prop where
 fz:∀a o,P a→H a=some o→a∉as→isL o=true→F' a=F a
 ff:Same F F'
 nw:∃new,as'=as++new∧∀a∈new,H a=none
 fr:∀a o,P a→H a=some o→a∉as→isD o=true→H' a=some o
 dm:∀a,H' a=none→H a=none
 kz:∀a o u,H a=some (.frz o u)→H' a=some (.frz o u)
section
variable {H F H' F' H2 F2:Hp}{as as' as2:List Addr}{P:Pt}
theorem Gr.refl:Gr H F as H F as:=⟨fun _ _ _ _ _=>rfl,Same.refl F,⟨[],by simp,fun _ h=>nomatch h⟩,fun _ _ h _ _=>h,fun _ h=>h,fun _ _ _ h=>h⟩
theorem Gr.trans (a:Gr H F as H' F' as') (b:Gr H' F' as' H2 F2 as2):Gr H F as H2 F2 as2:=by
 obtain ⟨n1,e1,h1⟩:=a.nw;obtain ⟨n2,e2,h2⟩:=b.nw;refine ⟨fun c o hc hn hd=>?_,a.ff.trans b.ff,⟨n1++n2,by rw [e2,e1,je],fun c hc=>?_⟩,fun c o e hn hd=>?_,fun c h=>a.dm c (b.dm c h),fun c o u h=>b.kz c o u (a.kz c o u h)⟩
 ·have q:=a.fr c o hc hn (QqL hd);refine (b.fz c o q ?_ hd).trans (a.fz c o hc hn hd);rw [e1];intro z
  rcases zC.mp z with z | z
  ·exact hn z
  ·rw [h1 c z] at hc; cases hc
 ·rcases zC.mp hc with z | z
  ·exact h1 c z
  ·exact a.dm c (h2 c z)
 ·have q:=a.fr c o e hn hd;refine b.fr c o q ?_ hd;rw [e1];intro z
  rcases zC.mp z with z | z
  ·exact hn z
  ·rw [h1 c z] at e; cases e
theorem Gr.toS (a:Gr H F as H' F' as'):GrS P H F as H' F' as':=⟨fun c o _=>a.fz c o,a.ff,a.nw,fun c o _ e hn hd=>a.fr c o e hn hd,a.dm,a.kz⟩
theorem GrS.refl:GrS P H F as H F as:=Gr.refl.toS
theorem GrS.trans (a:GrS P H F as H' F' as') (b:GrS P H' F' as' H2 F2 as2):GrS P H F as H2 F2 as2:=by
 obtain ⟨n1,e1,h1⟩:=a.nw;obtain ⟨n2,e2,h2⟩:=b.nw;refine ⟨fun c o p hc hn hd=>?_,a.ff.trans b.ff,⟨n1++n2,by rw [e2,e1,je],fun c hc=>?_⟩,fun c o p e hn hd=>?_,fun c h=>a.dm c (b.dm c h),fun c o u h=>b.kz c o u (a.kz c o u h)⟩
 ·have q:=a.fr c o p hc hn (QqL hd);refine (b.fz c o p q ?_ hd).trans (a.fz c o p hc hn hd);rw [e1];intro z
  rcases zC.mp z with z | z
  ·exact hn z
  ·rw [h1 c z] at hc; cases hc
 ·rcases zC.mp hc with z | z
  ·exact h1 c z
  ·exact a.dm c (h2 c z)
 ·have q:=a.fr c o p e hn hd;refine b.fr c o p q ?_ hd;rw [e1];intro z
  rcases zC.mp z with z | z
  ·exact hn z
  ·rw [h1 c z] at e; cases e
theorem GrS.mono {P':Pt} (a:GrS P H F as H' F' as') (h:∀c,P' c→P c):GrS P' H F as H' F' as':=⟨fun c o p=>a.fz c o (h c p),a.ff,a.nw,fun c o p=>a.fr c o (h c p),a.dm,a.kz⟩
theorem GrS.gr (a:GrS (Pt.all H) H F as H' F' as'):Gr H F as H' F' as':=⟨fun c o e=>a.fz c o (show H c≠none by rw [e]; exact fun z=>nomatch z) e,a.ff,a.nw,fun c o e=>a.fr c o (show H c≠none by rw [e]; exact fun z=>nomatch z) e,a.dm,a.kz⟩
theorem Gr.at_ (a:Gr H F as H' F' as'):∀(n:Nat) (c:Addr),as[n]? = some c→as'[n]? = some c:=fun n c h=>by
 obtain ⟨new,e,_⟩:=a.nw;rw [e,zy (zo.mp h).1];exact h
theorem GrS.at_ (a:GrS P H F as H' F' as'):∀(n:Nat) (c:Addr),as[n]? = some c→as'[n]? = some c:=fun n c h=>by
 obtain ⟨new,e,_⟩:=a.nw;rw [e,zy (zo.mp h).1];exact h
theorem Gr.out (a:Gr H F as H' F' as') {c:Addr} (h:c∉as) (e:H c≠none):c∉as':=by
 obtain ⟨new,e1,h1⟩:=a.nw;rw [e1];intro z
 rcases zC.mp z with z | z
 ·exact h z
 ·exact e (h1 c z)
theorem GrS.out (a:GrS P H F as H' F' as') {c:Addr} (h:c∉as) (e:H c≠none):c∉as':=by
 obtain ⟨new,e1,h1⟩:=a.nw;rw [e1];intro z
 rcases zC.mp z with z | z
 ·exact h z
 ·exact e (h1 c z)
theorem Rp.gr {K:Frag}{v:V}{d:D} (h:Rp K F as v d) (a:Gr H F as H' F' as'):Rp K F' as' v d:=Rp.mono a.ff a.at_ d h
theorem Rps.gr {K:Frag}{v:List V}{d:List D} (h:Rps K F as v d) (a:Gr H F as H' F' as'):Rps K F' as' v d:=Rps.mono a.ff a.at_ d h
theorem Rp.grS {K:Frag}{v:V}{d:D} (h:Rp K F as v d) (a:GrS P H F as H' F' as'):Rp K F' as' v d:=Rp.mono a.ff a.at_ d h
theorem Rps.grS {K:Frag}{v:List V}{d:List D} (h:Rps K F as v d) (a:GrS P H F as H' F' as'):Rps K F' as' v d:=Rps.mono a.ff a.at_ d h
end
structure FsR (K:Frag) (F:Hp) (as:List Addr) (gs:List (Str×V)) (fs:List (Str×D)):Prop where
 nm:gs.map (·.1)=fs.map (·.1)
 vl:Rps K F as (gs.map (·.2)) (fs.map (·.2))
def XF (K:Frag) (F:Hp) (as:List Addr) (dxo:Option Addr) (fs:List (Str×D)):Prop:=fs = []∨∃dx od gs,dxo=some dx∧F dx=some (.frz od (.xd gs))∧FsR K F as gs fs
theorem XF.mono {K:Frag}{F F':Hp}{as as':List Addr}{dxo:Option Addr}{fs:List (Str×D)} (h:XF K F as dxo fs) (e:Same F F') (ea:∀(n:Nat) (a:Addr),as[n]? = some a→as'[n]? = some a):XF K F' as' dxo fs:=by
 rcases h with h | ⟨dx,od,gs,h1,h2,h3,h4⟩
 ·exact .inl h
 ·exact .inr ⟨dx,od,gs,h1,e _ _ h2,h3,Rps.mono e ea _ h4⟩
def ObR (K:Frag) (mg:Str→Option Value) (H F:Hp) (as:List Addr) (a:Addr):Ob→Prop
 | .ins c fs=>∃C dx gs,mg c=some (.ref C)∧H a=some (.ins C dx gs)∧FsR K F as gs fs
 | .ml ds=>∃xs,H a=some (.lst xs)∧Rps K F as xs ds
 | .dt kvs=>∃xs:List (List Key×V),H a=some (.dT xs)∧xs.map (·.1)=kvs.map (·.1)∧Rps K F as (xs.map (·.2)) (kvs.map (·.2))
 | .df kvs=>∃(o:Obj) (xs:List (List Key×V)),H a=some (.frz o (.dT xs))∧xs.map (·.1)=kvs.map (·.1)∧Rps K F as (xs.map (·.2)) (kvs.map (·.2))
 | .dk kvs=>∃xs:List (Key×V),H a=some (.dK xs)∧xs.map (·.1)=kvs.map (·.1)∧Rps K F as (xs.map (·.2)) (kvs.map (·.2))
 | .kf kvs=>∃(o:Obj) (xs:List (Key×V)),H a=some (.frz o (.dK xs))∧xs.map (·.1)=kvs.map (·.1)∧Rps K F as (xs.map (·.2)) (kvs.map (·.2))
 | .xc c fs=>∃(C:Addr) (oe:Obj) (u:HO),mg c=some (.ref C)∧H a=some (.frz oe u)∧oe.cls = .ref C∧(∃ws,oe.data = .fields ws)∧XF K F as oe.dict fs
structure RlO (K:Frag) (mg:Str→Option Value) (O:Qac) (H F:Hp) (as:List Addr):Prop where
 fh:Same F H
 fd:∀a o,F a=some o→isD o=true
 nd:as.Nodup
 len:as.length=O.length
 fa:∀a∈as,F a=none
 ob:∀(n:Nat) (a:Addr) (o:Ob),as[n]? = some a→O[n]? = some o→ObR K mg H F as a o
inductive Md where
 | v | s | o
 deriving DecidableEq
def Qes:D→Bool
 | .lst _=>false
 | _=>true
def QeH (P:Pt) (K:Frag) (H F:Hp) (as:List Addr):Md→V→D→Prop
 | .v,v,d=>Rp K F as v d
 | .s,v,d=>Rp K F as v d∨∃a xs ds,v = .ref a∧d = .lst ds∧H a=some (.lst xs)∧a∉as∧P a∧Rps K F as xs ds
 | .o,v,d=>(Qes d=true∧Rp K F as v d)∨∃a xs ds,v = .ref a∧d = .lst ds∧H a=some (.lst xs)∧F a=none∧a∉as∧¬P a∧Rps K F as xs ds
structure SlO (K:Frag) (md:List Md) (P:Pt) (ρ:Qai) (σ:St) (H F:Hp) (as:List Addr):Prop where
 len:σ.length=md.length
 len':ρ.length=md.length
 pd:∀a,P a→H a≠none
 sl:∀(i:Nat) (m:Md) (d:D),md[i]? = some m→ρ[i]? = some (some d)→∃v,σ[i]? = some (some v)∧QeH P K H F as m v d
 inj:∀(i j:Nat) (a:Addr) (ds es:List D),md[i]? = some .o→md[j]? = some .o→ρ[i]? = some (some (.lst ds))→ρ[j]? = some (some (.lst es))→σ[i]? = some (some (.ref a))→σ[j]? = some (some (.ref a))→i=j
 pin:∀x∈P.ss,md[x.1]? = some .s∧ρ[x.1]? = some (some x.2.2)∧σ[x.1]? = some (some x.2.1)
section
variable {K:Frag}{mg:Str→Option Value}{md:List Md}{P:Pt}{ρ:Qai}{σ:St}{H F H' F':Hp}{as as':List Addr}{O O':Qac}
theorem QeH.step {m:Md}{v:V}{d:D} (h:QeH P K H F as m v d) (g:Gr H F as H' F' as'):QeH P K H' F' as' m v d:=by
 cases m with
 | v=>exact Rp.gr (show Rp K F as v d from h) g
 | s =>
  rcases h with h | ⟨a,xs,ds,e1,e2,e3,e4,e5,e6⟩
  ·exact .inl (h.gr g)
  ·exact .inr ⟨a,xs,ds,e1,e2,g.fr _ _ e3 e4 rfl,g.out e4 (by rw [e3]; exact fun z=>nomatch z),e5,e6.gr g⟩
 | o =>
  rcases h with ⟨h1,h⟩ | ⟨a,xs,ds,e1,e2,e3,e0,e4,e5,e6⟩
  ·exact .inl ⟨h1,h.gr g⟩
  ·have hn:H a≠none:=by rw [e3]; exact fun z=>nomatch z
   exact .inr ⟨a,xs,ds,e1,e2,g.fr _ _ e3 e4 rfl,by rw [g.fz a _ e3 e4 rfl]; exact e0,g.out e4 hn,e5,e6.gr g⟩
theorem SlO.step (h:SlO K md P ρ σ H F as) (g:Gr H F as H' F' as'):SlO K md P ρ σ H' F' as' :=
 ⟨h.len,h.len',fun a p z=>h.pd a p (g.dm a z),fun i m d e1 e2=>let ⟨v,q,r⟩:=h.sl i m d e1 e2; ⟨v,q,r.step g⟩,h.inj,h.pin⟩
end
def Sv (K:Frag) (H F:Hp) (as:List Addr) (v:V) (d:D):Prop :=
 Rp K F as v d∨∃a xs ds,v = .ref a∧d = .lst ds∧H a=some (.lst xs)∧a∉as∧Rps K F as xs ds
def Lk (K:Frag) (H F:Hp) (as:List Addr) (v:V) (d:D):Prop :=
 Rp K F as v d∨∃a xs ds,v = .ref a∧d = .lst ds∧H a=some (.lst xs)∧Rps K F as xs ds
def Ow (K:Frag) (N:Addr→Prop) (H F:Hp) (as:List Addr) (v:V) (d:D):Prop :=
 (Qes d=true∧Rp K F as v d)∨∃a xs ds,v = .ref a∧d = .lst ds∧H a=some (.lst xs)∧F a=none∧a∉as∧N a∧Rps K F as xs ds
def QaN (O:Qac) (d:D):D:=match d with
 | .ob n=>match O[n]? with
  | some (.ml ds)=>.lst ds
  | _=>.ob n
 | d=>d
section
variable {K:Frag}{mg:Str→Option Value}{H0 H F H' F':Hp}{as as':List Addr}{O:Qac}{v:V}{d:D}
theorem Sv.gr (h:Sv K H F as v d) (g:Gr H F as H' F' as'):Sv K H' F' as' v d:=by
 rcases h with h | ⟨a,xs,ds,e1,e2,e3,e4,e5⟩
 ·exact .inl (h.gr g)
 ·exact .inr ⟨a,xs,ds,e1,e2,g.fr _ _ e3 e4 rfl,g.out e4 (by rw [e3]; exact fun z=>nomatch z),e5.gr g⟩
theorem Sv.lk (h:Sv K H F as v d) (r:RlO K mg O H F as):Lk K H F as v (QaN O d):=by
 rcases h with h | ⟨a,xs,ds,rfl,rfl,e3,e4,e5⟩
 ·cases d with
  | ob n =>
   obtain ⟨a,rfl,ha⟩:=h.unO;unfold QaN;dsimp only
   split
   ·rename_i ds e;obtain ⟨xs,e1,e2⟩:=r.ob n a _ ha e;exact .inr ⟨a,xs,ds,rfl,rfl,e1,e2⟩
   ·exact .inl (Rp.mkO ha)
  | _=>exact .inl h
 ·exact .inr ⟨a,xs,ds,rfl,rfl,e3,e5⟩
theorem Lk.list {ds:List D} (h:Lk K H F as v (.lst ds)) (fh:Same F H):∃a xs,v = .ref a∧RdK K H a xs∧Rps K F as xs ds:=by
 rcases h with h | ⟨a,xs,ds',e1,e2,e3,e4⟩
 ·obtain ⟨a,xs,e,h1,h2⟩:=h.unL;exact ⟨a,xs,e,h1.mono fh,h2⟩
 ·cases e2;exact ⟨a,xs,e1,.inl (.inl e3),e4⟩
theorem Lk.rp (h:Lk K H F as v d) (hn:Qes d=true):Rp K F as v d:=by
 rcases h with h | ⟨a,xs,ds',e1,rfl,e3,e4⟩
 ·exact h
 ·cases hn
theorem Sv.rp (h:Sv K H F as v d) (hn:Qes d=true):Rp K F as v d:=by
 rcases h with h | ⟨a,xs,ds',e1,rfl,e3,e4⟩
 ·exact h
 ·cases hn
theorem Ow.sv {N:Addr→Prop} (h:Ow K N H F as v d):Sv K H F as v d:=by
 rcases h with ⟨_,h⟩ | ⟨a,xs,ds,e1,e2,e3,e4,e5,e6,e7⟩
 ·exact .inl h
 ·exact .inr ⟨a,xs,ds,e1,e2,e3,e5,e7⟩
theorem Gr.lay {p:Addr}{o:HO} (hp:H p=none):Gr H F as (upd H p o) F as :=
 ⟨fun _ _ _ _ _=>rfl,Same.refl F,⟨[],by simp,fun _ h=>nomatch h⟩,fun a o' e _ _=>by rw [Qah (Qaw e hp)]; exact e,fun a e=>by
  by_cases h:a=p
  ·subst h; exact hp
  ·rwa [Qah h] at e,fun a o' u e=>by rw [Qah (Qaw e hp)]; exact e⟩
theorem ObR.keep {a:Addr}{o:Ob} (h:ObR K mg H F as a o) (hH:H' a=H a) (e:Same F F') (ea:∀(n:Nat) (a:Addr),as[n]? = some a→as'[n]? = some a):ObR K mg H' F' as' a o:=by
 cases o with
 | ins c fs =>
  obtain ⟨C,dx,gs,h1,h2,h3,h4⟩:=h;exact ⟨C,dx,gs,h1,by rw [hH]; exact h2,h3,Rps.mono e ea _ h4⟩
 | ml ds =>
  obtain ⟨xs,h1,h2⟩:=h;exact ⟨xs,by rw [hH]; exact h1,Rps.mono e ea _ h2⟩
 | dt kvs =>
  obtain ⟨xs,h1,h2,h3⟩:=h;exact ⟨xs,by rw [hH]; exact h1,h2,Rps.mono e ea _ h3⟩
 | df kvs =>
  obtain ⟨o,xs,h1,h2,h3⟩:=h;exact ⟨o,xs,by rw [hH]; exact h1,h2,Rps.mono e ea _ h3⟩
 | dk kvs =>
  obtain ⟨xs,h1,h2,h3⟩:=h;exact ⟨xs,by rw [hH]; exact h1,h2,Rps.mono e ea _ h3⟩
 | kf kvs =>
  obtain ⟨o,xs,h1,h2,h3⟩:=h;exact ⟨o,xs,by rw [hH]; exact h1,h2,Rps.mono e ea _ h3⟩
 | xc c fs =>
  obtain ⟨C,oe,u,h1,h2,h3,h4,h5⟩:=h;exact ⟨C,oe,u,h1,by rw [hH]; exact h2,h3,h4,h5.mono e ea⟩
theorem RlO.at {n:Nat}{a:Addr}{o:Ob} (r:RlO K mg O H F as) (ha:as[n]? = some a) (ho:O[n]? = some o):H a≠none:=by
 have q:=r.ob n a o ha ho
 cases o with
 | ins c fs=>obtain ⟨C,dx,gs,h1,h2,_⟩:=q; rw [h2]; exact fun z=>nomatch z
 | ml ds=>obtain ⟨xs,h1,_⟩:=q; rw [h1]; exact fun z=>nomatch z
 | dt kvs=>obtain ⟨xs,h1,_⟩:=q; rw [h1]; exact fun z=>nomatch z
 | df kvs=>obtain ⟨o,xs,h1,_⟩:=q; rw [h1]; exact fun z=>nomatch z
 | dk kvs=>obtain ⟨xs,h1,_⟩:=q; rw [h1]; exact fun z=>nomatch z
 | kf kvs=>obtain ⟨o,xs,h1,_⟩:=q; rw [h1]; exact fun z=>nomatch z
 | xc c fs=>obtain ⟨C,oe,u,_,h1,_⟩:=q; rw [h1]; exact fun z=>nomatch z
theorem RlO.all {a:Addr} (r:RlO K mg O H F as) (ha:a∈as):H a≠none:=by
 obtain ⟨n,hn,e⟩:=List.mem_iff_getElem.mp ha
 have hO:n < O.length:=by rw [←r.len]; exact hn
 exact r.at (n:=n) (by rw [zx hn,e]) (zx hO)
theorem RlO.lay {p:Addr}{o:HO} (r:RlO K mg O H F as) (hp:H p=none):RlO K mg O (upd H p o) F as:=by
 refine ⟨fun a u e=>?_,r.fd,r.nd,r.len,r.fa,fun n a u ha hu=>(r.ob n a u ha hu).keep (Qah ?_) (Same.refl F) fun _ _ h=>h⟩
 ·have q:=r.fh a u e;rw [Qah (Qaw q hp)]; exact q
 ·intro z; subst z; exact r.at ha hu hp
theorem Gr.frz {p:Addr}{o:HO} (hp:H p=none) (g:Gr H F as H' F' as') (hf:F' p=none):Gr H F as H' (upd F' p o) as' :=
 ⟨fun a o' ha hn hd=>by rw [Qah (fun z=>by subst z; rw [hp] at ha; cases ha)]; exact g.fz a o' ha hn hd,fun a u e=>by
  have q:=g.ff a u e
  rw [Qah (Qaw q hf)]; exact q,g.nw,g.fr,g.dm,g.kz⟩
theorem RlO.frz {p:Addr}{o:HO} (r:RlO K mg O H F as) (hp:H p=some o) (hf:F p=none) (ha:p∉as) (hd:isD o=true):RlO K mg O H (upd F p o) as:=by
 have ff:Same F (upd F p o):=fun a u e=>by rw [Qah (Qaw e hf)]; exact e
 refine ⟨fun a u e=>?_,fun a u e=>?_,r.nd,r.len,fun a h=>?_,fun n a u h1 h2=>(r.ob n a u h1 h2).keep rfl ff fun _ _ h=>h⟩
 ·by_cases h:a=p
  ·subst h; rw [Qay] at e; cases e; exact hp
  ·rw [Qah h] at e; exact r.fh a u e
 ·by_cases h:a=p
  ·subst h; rw [Qay] at e; cases e; exact hd
  ·rw [Qah h] at e; exact r.fd a u e
 ·rw [Qah (fun z=>by subst z; exact ha h)]; exact r.fa a h
end
abbrev RR:=(Addr→Prop)→Hp→Hp→List Addr→V→D→Prop
def rV (K:Frag):RR:=fun _ _ F as v d=>Rp K F as v d
def rS (K:Frag):RR:=fun _ H F as v d=>Sv K H F as v d
def rO (K:Frag):RR:=fun N H F as v d=>Ow K N H F as v d
def rA (K:Frag):Md→RR
 | .v=>rV K
 | _=>rS K
def QcQ (R:RR):Prop:=∀(N N':Addr→Prop) (H F:Hp) (as:List Addr) (v:V) (d:D),(∀a,N a→N' a)→R N H F as v d→R N' H F as v d
theorem Qbk {K:Frag}:QcQ (rV K):=fun _ _ _ _ _ _ _ _ h=>h
theorem QeI {K:Frag}:QcQ (rO K):=fun N N' H F as v d hn h=>by
 rcases h with h | ⟨a,xs,ds,e1,e2,e3,e4,e5,e6,e7⟩
 ·exact .inl h
 ·exact .inr ⟨a,xs,ds,e1,e2,e3,e4,e5,hn a e6,e7⟩
def tM (K:Frag) (mg:Str→Option Value) (md:List Md) (P:Pt) (R:RR) (m:M D):TE:=fun σ H Q =>
 ∃ρ O F as d O',RlO K mg O H F as∧SlO K md P ρ σ H F as∧m ρ O = .ok d O' ∧
  ∀v H' F' as',Gr H F as H' F' as'→RlO K mg O' H' F' as'→R (fun a=>H a=none) H' F' as' v d→Q v H'
def tMT (K:Frag) (mg:Str→Option Value) (md:List Md) (P:Pt) (m:M Bool):TT:=fun σ H Q =>
 ∃ρ O F as b O',RlO K mg O H F as∧SlO K md P ρ σ H F as∧m ρ O = .ok b O' ∧
  ∀H' F' as',Gr H F as H' F' as'→RlO K mg O' H' F' as'→Q b H'
def Qbw (K:Frag) (H F:Hp) (as:List Addr):List Md→List V→List D→Prop
 | [],[],[]=>True
 | m::ms,v::vs,d::ds=>rA K m (fun _=>True) H F as v d∧Qbw K H F as ms vs ds
 | _,_,_=>False
def tMA (K:Frag) (mg:Str→Option Value) (md:List Md) (P:Pt) (ms:List Md) (m:M (List D)):TA:=fun σ H Q =>
 ∃ρ O F as ds O',RlO K mg O H F as∧SlO K md P ρ σ H F as∧m ρ O = .ok ds O' ∧
  ∀vs H' F' as',Gr H F as H' F' as'→RlO K mg O' H' F' as'→Qbw K H' F' as' ms vs ds→Q vs H'
def XE (X:Cx) (md:List Md) (P:Pt) (R:RR) (e:Expr) (m:M D):Prop:=PE X e (tM X.K X.mg md P R m)
def VE (X:Cx) (md:List Md) (P:Pt) (e:Expr) (m:M D):Prop:=PE X e (tM X.K X.mg md P (rV X.K) m)
def SE (X:Cx) (md:List Md) (P:Pt) (e:Expr) (m:M D):Prop:=PE X e (tM X.K X.mg md P (rS X.K) m)
def OE (X:Cx) (md:List Md) (P:Pt) (e:Expr) (m:M D):Prop:=PE X e (tM X.K X.mg md P (rO X.K) m)
def TsE (X:Cx) (md:List Md) (P:Pt) (e:Expr) (m:M Bool):Prop:=PT X e (tMT X.K X.mg md P m)
def TwE (X:Cx) (md:List Md) (P:Pt) (e:Expr) (m:M Bool):Prop:=PW X e (tMT X.K X.mg md P m)
def AE (X:Cx) (md:List Md) (P:Pt) (ms:List Md) (es:List Expr) (m:M (List D)):Prop:=PA X es (tMA X.K X.mg md P ms m)
def Qgj (K:Frag) (mg:Str→Option Value) (md:List Md) (P:Pt) (R:RR) (D:Ends) (H F:Hp) (as:List Addr):Fl→Prop
 | .nx ρ' O'=>∀σ' H' F' as',GrS P H F as H' F' as'→RlO K mg O' H' F' as'→SlO K md P ρ' σ' H' F' as'→D.nx σ' H'
 | .bk ρ' O'=>∀σ' H' F' as',GrS P H F as H' F' as'→RlO K mg O' H' F' as'→SlO K md P ρ' σ' H' F' as'→D.bk σ' H'
 | .ct ρ' O'=>∀σ' H' F' as',GrS P H F as H' F' as'→RlO K mg O' H' F' as'→SlO K md P ρ' σ' H' F' as'→D.ct σ' H'
 | .rt d O'=>∀v H' F' as',GrS P H F as H' F' as'→RlO K mg O' H' F' as'→R (fun a=>¬P a) H' F' as' v d→D.rt v H'
 | .ex _ _=>False
 | .no=>False
def tMS (K:Frag) (mg:Str→Option Value) (md:List Md) (P:Pt) (R:RR) (m:MS):TS:=fun D σ H =>
 ∃ρ O F as,RlO K mg O H F as∧SlO K md P ρ σ H F as∧Qgj K mg md P R D H F as (m ρ O)
def VS (X:Cx) (md:List Md) (P:Pt) (R:RR) (st:Stmt) (m:MS):Prop:=PS X st (tMS X.K X.mg md P R m)
def VSs (X:Cx) (md:List Md) (P:Pt) (R:RR) (st:List Stmt) (m:MS):Prop:=PSs X st (tMS X.K X.mg md P R m)
section
variable {X:Cx}{md:List Md}{P:Pt}{R:RR}
theorem PE.imp {e:Expr}{t t':TE} (h:PE X e t) (k:∀σ H Q,t' σ H Q→t σ H Q):PE X e t':=fun pins s σ H Q I q=>h pins s σ H Q I (k σ H Q q)
theorem PT.imp {e:Expr}{t t':TT} (h:PT X e t) (k:∀σ H Q,t' σ H Q→t σ H Q):PT X e t':=fun pins s σ H Q I q=>h pins s σ H Q I (k σ H Q q)
theorem PW.imp {e:Expr}{t t':TT} (h:PW X e t) (k:∀σ H Q,t' σ H Q→t σ H Q):PW X e t':=fun w pins s σ H Q I q=>h w pins s σ H Q I (k σ H Q q)
theorem PA.imp {e:List Expr}{t t':TA} (h:PA X e t) (k:∀σ H Q,t' σ H Q→t σ H Q):PA X e t':=fun pos pins s σ H Q I q=>h pos pins s σ H Q I (k σ H Q q)
theorem PS.imp {e:Stmt}{t t':TS} (h:PS X e t) (k:∀D σ H,t' D σ H→t D σ H):PS X e t':=fun pins s σ H D I q=>h pins s σ H D I (k D σ H q)
theorem PSs.imp {e:List Stmt}{t t':TS} (h:PSs X e t) (k:∀D σ H,t' D σ H→t D σ H):PSs X e t':=fun pins s σ H D I q=>h pins s σ H D I (k D σ H q)
def Qaa (i:Nat):M D:=fun ρ O=>match ρ[i]? with
 | some (some d)=>.ok d O
 | _=>.no
def mC (d:D):M D:=fun _ O=>.ok d O
def mG (m:M D):M D:=fun ρ O=>match m ρ O with
 | .ok d O'=>if Qes d=true then .ok d O' else .no
 | r=>r
theorem Qh3 {i:Nat}{ρ:Qai}{O O':Qac}{d:D} (h:Qaa i ρ O = .ok d O'):ρ[i]? = some (some d)∧O'=O:=by
 unfold Qaa at h;split at h
 ·rename_i d' e;cases h;exact ⟨e,rfl⟩
 ·cases h
theorem QvR {m:M D}{ρ:Qai}{O O':Qac}{d:D} (h:mG m ρ O = .ok d O'):m ρ O = .ok d O'∧Qes d=true:=by
 unfold mG at h;split at h
 ·rename_i d' O1 e;split at h
  ·rename_i hn;cases h;exact ⟨e,hn⟩
  ·cases h
 ·rename_i hne;exact absurd h (hne _ _)
theorem SlO.get {K:Frag}{ρ:Qai}{σ:St}{H F:Hp}{as:List Addr}{i:Nat}{d:D} (s:SlO K md P ρ σ H F as) (h:ρ[i]? = some (some d)):∃m v,md[i]? = some m∧σ[i]? = some (some v)∧QeH P K H F as m v d:=by
 have hi:i < md.length:=by rw [←s.len']; exact (zo.mp h).1
 obtain ⟨v,h1,h2⟩:=s.sl i md[i] d (zx hi) h;exact ⟨_,v,zx hi,h1,h2⟩
theorem QeH.sv {K:Frag}{H F:Hp}{as:List Addr}{m:Md}{v:V}{d:D} (h:QeH P K H F as m v d):Sv K H F as v d:=by
 cases m with
 | v=>exact .inl h
 | s =>
  rcases h with h | ⟨a,xs,ds,e1,e2,e3,e4,e5,e6⟩
  ·exact .inl h
  ·exact .inr ⟨a,xs,ds,e1,e2,e3,e4,e6⟩
 | o =>
  rcases h with ⟨_,h⟩ | ⟨a,xs,ds,e1,e2,e3,e0,e4,e5,e6⟩
  ·exact .inl h
  ·exact .inr ⟨a,xs,ds,e1,e2,e3,e4,e6⟩
theorem Qan (i:Nat) {x:Str}{pos:Pos} (hN:X.N[i]? = some x:=by rfl) (hv:Vis X.env.scope x:=by first | exact Or.inl rfl | exact Or.inr (Or.inl rfl) | exact Or.inr (Or.inr rfl))
  (hd:(x == ("__debug__":Str))=false:=by decide) (hcd:(x == ("__classdict__":Str))=false:=by decide):SE X md P (.Name x pos) (Qaa i):=by
 refine (QeQ (i:=i) hN hv hd hcd).imp fun σ H Q h=>?_
 obtain ⟨ρ,O,F,as,d,O',r,s,e,k⟩:=h;obtain ⟨e1,rfl⟩:=Qh3 e;obtain ⟨m,v,h1,h2,h3⟩:=s.get e1;exact ⟨v,h2,k v H F as Gr.refl r h3.sv⟩
theorem Qaf (i:Nat) {x:Str}{pos:Pos} (hm:md[i]? = some .v:=by rfl) (hN:X.N[i]? = some x:=by rfl) (hv:Vis X.env.scope x:=by first | exact Or.inl rfl | exact Or.inr (Or.inl rfl) | exact Or.inr (Or.inr rfl))
  (hd:(x == ("__debug__":Str))=false:=by decide) (hcd:(x == ("__classdict__":Str))=false:=by decide):VE X md P (.Name x pos) (Qaa i):=by
 refine (QeQ (i:=i) hN hv hd hcd).imp fun σ H Q h=>?_
 obtain ⟨ρ,O,F,as,d,O',r,s,e,k⟩:=h;obtain ⟨e1,rfl⟩:=Qh3 e;obtain ⟨v,h2,h3⟩:=s.sl i .v d hm e1;exact ⟨v,h2,k v H F as Gr.refl r h3⟩
theorem Qad {e:Expr}{m:M D} (h:VE X md P e m):SE X md P e m:=h.imp fun σ H Q q=>by
 obtain ⟨ρ,O,F,as,d,O',r,s,e,k⟩:=q;exact ⟨ρ,_,F,as,_,_,r,s,e,fun v H' F' as' g r' hv=>k v H' F' as' g r' (.inl hv)⟩
theorem Qat {e:Expr}{m:M D} (h:OE X md P e m):SE X md P e m:=h.imp fun σ H Q q=>by
 obtain ⟨ρ,O,F,as,d,O',r,s,e,k⟩:=q;exact ⟨ρ,_,F,as,_,_,r,s,e,fun v H' F' as' g r' hv=>k v H' F' as' g r' (Ow.sv hv)⟩
theorem QgI {e:Expr}{m:M D} (h:SE X md P e m):VE X md P e (mG m):=h.imp fun σ H Q q=>by
 obtain ⟨ρ,O,F,as,d,O',r,s,e,k⟩:=q;obtain ⟨e,hn⟩:=QvR e;exact ⟨ρ,_,F,as,_,_,r,s,e,fun v H' F' as' g r' hv=>k v H' F' as' g r' (Sv.rp hv hn)⟩
theorem QaM {e:Expr}{m:M D} (h:OE X md P e m):VE X md P e m:=h.imp fun σ H Q q=>by
 obtain ⟨ρ,O,F,as,d,O',r,s,e,k⟩:=q;refine ⟨ρ,_,F,as,_,_,r,s,e,fun v H' F' as' g r' hv=>?_⟩
 rcases hv with ⟨_,hv⟩ | ⟨a,xs,ds,rfl,rfl,e3,e4,e5,e6,e7⟩
 ·exact k v H' F' as' g r' hv
 ·have ff:Same F' (upd F' a (.lst xs)):=fun b u q=>by rw [Qah (Qaw q e4)]; exact q
  refine k _ H' (upd F' a (.lst xs)) as' (g.frz e6 e4) (r'.frz e3 e4 e5 rfl) (Rp.mkL (.inl (.inl Qay)) (Rps.mono ff (fun _ _ z=>z) _ e7))
theorem QlI {e:Expr}{v:V}{d:D} (h:PE X e (tC v)) (hd:∀K F as,Rp K F as v d):VE X md P e (mC d):=h.imp fun σ H Q q=>by
 obtain ⟨ρ,O,F,as,d,O',r,s,e,k⟩:=q;cases e;exact k v H F as Gr.refl r (hd _ _ _)
theorem Qal {i:Int}{j pos}:VE X md P (.Constant (.int i) j pos) (mC (.int i)):=QlI Qtr fun _ _ _=>Rp.int
theorem QcD {b:Bool}{j pos}:VE X md P (.Constant (.bool b) j pos) (mC (.bl b)):=QlI Qu9 fun _ _ _=>Rp.bl
theorem Qjk {j pos}:VE X md P (.Constant .none j pos) (mC .non):=QlI Qt2 fun _ _ _=>Rp.non
theorem QbK {x:Str}{j pos} (l:List Nat) (hx:x=S l:=by decide +kernel):VE X md P (.Constant (.str x) j pos) (mC (.str l)):=QlI Qi2 fun _ _ _=>by rw [hx]; exact Rp.str
theorem QaE {x:Str}{v:V}{d:D}{pos:Pos} (h:∃u,X.mg x=some u∧RelV v u) (hd:∀K F as,Rp K F as v d) (hg:Gl X x:=by rfl) (hdb:(x == ("__debug__":Str))=false:=by decide):VE X md P (.Name x pos) (mC d):=QlI (Qlr h hg hdb) hd
def Qag:M (List D):=fun _ O=>.ok [] O
def Qab (m:M D) (r:M (List D)):M (List D):=fun ρ O=>(m ρ O).bind fun d O1=>(r ρ O1).bind fun ds O2=>.ok (d::ds) O2
theorem Qao:AE X md P [] [] Qag:=Qdf.imp fun σ H Q q=>by
 obtain ⟨ρ,O,F,as,d,O',r,s,e,k⟩:=q;cases e;exact k [] H F as Gr.refl r trivial
theorem rA.gr {K:Frag}{m:Md}{N:Addr→Prop}{H F H' F':Hp}{as as':List Addr}{v:V}{d:D} (h:rA K m N H F as v d) (g:Gr H F as H' F' as'):rA K m (fun _=>True) H' F' as' v d:=by
 cases m with
 | v=>exact Rp.gr (show Rp K F as v d from h) g
 | s=>exact Sv.gr (show Sv K H F as v d from h) g
 | o=>exact Sv.gr (show Sv K H F as v d from h) g
theorem Qbw.gr {K:Frag}{H F H' F':Hp}{as as':List Addr} (g:Gr H F as H' F' as'):∀{ms:List Md}{vs:List V}{ds:List D},Qbw K H F as ms vs ds→Qbw K H' F' as' ms vs ds
 | [],[],[],_=>trivial
 | m::ms,v::vs,d::ds,h=>⟨rA.gr h.1 g,Qbw.gr g h.2⟩
 | [],[],_::_,h=>h.elim
 | [],_::_,[],h=>h.elim
 | [],_::_,_::_,h=>h.elim
 | _::_,[],[],h=>h.elim
 | _::_,[],_::_,h=>h.elim
 | _::_,_::_,[],h=>h.elim
theorem Ql6 (md0:Md) {e:Expr}{es:List Expr}{m:M D}{ms:List Md}{r:M (List D)} (h:XE X md P (rA X.K md0) e m) (hr:AE X md P ms es r)
  (hs:starEach (e::es) X.env=(false,eval e X.env)::starEach es X.env:=by exact Qbm rfl):AE X md P (md0::ms) (e::es) (Qab m r):=(QbY h hr hs).imp fun σ H Q q=>by
 obtain ⟨ρ,O,F,as,d,O',r0,s,e,k⟩:=q;obtain ⟨d,O1,e1,e⟩:=Res.bind_ok e;obtain ⟨ds',O2,e2,e⟩:=Res.bind_ok e;cases e;refine ⟨ρ,_,F,as,_,_,r0,s,e1,fun v H1 F1 as1 g1 r1 hv=>?_⟩;refine ⟨ρ,_,F1,as1,_,_,r1,s.step g1,e2,fun vs H2 F2 as2 g2 r2 hvs=>?_⟩;exact k (v::vs) H2 F2 as2 (g1.trans g2) r2 ⟨rA.gr hv g2,hvs⟩
theorem QaF {e:Expr}{es:List Expr}{m:M D}{ms:List Md}{r:M (List D)} (h:VE X md P e m) (hr:AE X md P ms es r)
  (hs:starEach (e::es) X.env=(false,eval e X.env)::starEach es X.env:=by exact Qbm rfl):AE X md P (.v::ms) (e::es) (Qab m r):=Ql6 .v h hr hs
theorem Qau {e:Expr}{es:List Expr}{m:M D}{ms:List Md}{r:M (List D)} (h:SE X md P e m) (hr:AE X md P ms es r)
  (hs:starEach (e::es) X.env=(false,eval e X.env)::starEach es X.env:=by exact Qbm rfl):AE X md P (.s::ms) (e::es) (Qab m r):=Ql6 .s h hr hs
theorem Qbw.rps {K:Frag}{H F:Hp}{as:List Addr}:∀{n:Nat}{vs:List V}{ds:List D},Qbw K H F as (List.replicate n .v) vs ds→Rps K F as vs ds
 | 0,[],[],_=>Rps.nil
 | n+1,v::vs,d::ds,h=>by
  rw [List.replicate_succ] at h;exact Rps.cons h.1 (Qbw.rps h.2)
 | 0,[],_::_,h=>h.elim
 | 0,_::_,[],h=>h.elim
 | 0,_::_,_::_,h=>h.elim
 | n+1,[],[],h=>h.elim
 | n+1,[],_::_,h=>h.elim
 | n+1,_::_,[],h=>h.elim
def Qb5 (r:M (List D)):M D:=fun ρ O=>(r ρ O).bind fun ds O1=>if ds.length≤1000000 then .ok (.lst ds) O1 else .no
def Qc2 (r:M (List D)):M D:=fun ρ O=>(r ρ O).bind fun ds O1=>if ds.length≤1000000 then .ok (.tup ds) O1 else .no
theorem Qee {n:Nat} (h:n≤1000000):n≤sizeLine:=zB h (by decide)
theorem QeL {es:List Expr}{pos:Pos}{r:M (List D)} (n:Nat) (h:AE X md P (List.replicate n .v) es r):OE X md P (.List es pos) (Qb5 r):=(QuG h).imp fun σ H Q q=>by
 obtain ⟨ρ,O,F,as,d,O',r0,s,e,k⟩:=q;obtain ⟨ds,O1,e1,e⟩:=Res.bind_ok e;split at e
 ·rename_i hz;cases e;refine ⟨ρ,_,F,as,_,_,r0,s,e1,fun vs H1 F1 as1 g1 r1 hv=>?_⟩;have hr:=hv.rps;refine ⟨by rw [hr.length]; exact Qee hz,fun p hp=>?_⟩
  have hF:F1 p=none:=by
   cases q:F1 p with
   | none=>rfl
   | some o=>rw [r1.fh p o q] at hp; cases hp
  refine k _ _ F1 as1 (g1.trans (Gr.lay hp)) (r1.lay hp) (.inr ⟨p,vs,ds,rfl,rfl,Qay,hF,fun z=>r1.all z hp,g1.dm p hp,hr⟩)
 ·cases e
theorem QfU {es:List Expr}{pos:Pos}{x1}{r:M (List D)} (n:Nat) (h:AE X md P (List.replicate n .v) es r):VE X md P (.Tuple es x1 pos) (Qc2 r):=(Qpk h).imp fun σ H Q q=>by
 obtain ⟨ρ,O,F,as,d,O',r0,s,e,k⟩:=q;obtain ⟨ds,O1,e1,e⟩:=Res.bind_ok e;split at e
 ·rename_i hz;cases e;refine ⟨ρ,_,F,as,_,_,r0,s,e1,fun vs H1 F1 as1 g1 r1 hv=>?_⟩;have hr:=hv.rps;refine ⟨by rw [hr.length]; exact Qee hz,fun p hp=>?_⟩
  have hF:F1 p=none:=by
   cases q:F1 p with
   | none=>rfl
   | some o=>rw [r1.fh p o q] at hp; cases hp
  have ff:Same F1 (upd F1 p (.tup vs)):=fun b u q=>by rw [Qah (Qaw q hF)]; exact q
  refine k _ _ (upd F1 p (.tup vs)) as1 ((g1.trans (Gr.lay hp)).frz (g1.dm p hp) hF) ((r1.lay hp).frz Qay hF (fun z=>r1.all z hp) rfl) (Rp.mkT (.inl Qay) (Rps.mono ff (fun _ _ z=>z) _ hr))
 ·cases e
def rD (K:Frag) (mg:Str→Option Value) (g:D→D→Option D):R2:=fun x y H Q=>∃O F as dx dy d,RlO K mg O H F as∧Lk K H F as x dx∧Lk K H F as y dy∧g dx dy=some d ∧
 ∀v' H' F',Gr H F as H' F' as→RlO K mg O H' F' as→Ow K (fun a=>H a=none) H' F' as v' d→Q v' H'
abbrev OpD (X:Cx) (f:Value→Value→Sem Value) (g:D→D→Option D):Prop:=OpR X f (rD X.K X.mg g)
def Qae (g:D→D→Option D) (ma mb:M D):M D:=fun ρ O=>(ma ρ O).bind fun x O1=>(mb ρ O1).bind fun y O2=>match g (QaN O2 x) (QaN O2 y) with
 | some d=>.ok d O2
 | none=>.no
theorem Qk2 {K:Frag}{mg:Str→Option Value}{g:D→D→Option D}{ma mb:M D}{σ:St}{H:Hp}{Q:VK} (h:tM K mg md P (rO K) (Qae g ma mb) σ H Q):tOp (rD K mg g) (tM K mg md P (rS K) ma) (tM K mg md P (rS K) mb) σ H Q:=by
 obtain ⟨ρ,O,F,as,d,O',r,sl,e,k⟩:=h;obtain ⟨x,O1,e1,e⟩:=Res.bind_ok e;obtain ⟨y,O2,e2,e⟩:=Res.bind_ok e;split at e
 ·rename_i d' hg;cases e;refine ⟨ρ,_,F,as,_,_,r,sl,e1,fun v H1 F1 as1 g1 r1 hv=>?_⟩;refine ⟨ρ,_,F1,as1,_,_,r1,sl.step g1,e2,fun u H2 F2 as2 g2 r2 hu=>?_⟩;refine ⟨_,F2,as2,_,_,_,r2,Sv.lk (Sv.gr hv g2) r2,Sv.lk hu r2,hg,fun v' H' F' g' r' hw=>?_⟩;exact k v' H' F' as2 ((g1.trans g2).trans g') r' (QeI _ _ _ _ _ _ _ (fun a ha=>(g1.trans g2).dm a ha) hw)
 ·cases e
theorem Qas {e1 e2:Expr}{pos:Pos}{op:Operator}{g:D→D→Option D}{ma mb:M D} (ho:OpD X (binaryOp op) g) (ha:SE X md P e1 ma) (hb:SE X md P e2 mb):OE X md P (.BinOp e1 op e2 pos) (Qae g ma mb) :=
 (Qvd ho ha hb).imp fun _ _ _=>Qk2
theorem Qc0 {e1 e2:Expr}{pos:Pos}{op:CmpOp}{g:D→D→Option D}{ma mb:M D} (ho:OpD X (compareOp op) g) (ha:SE X md P e1 ma) (hb:SE X md P e2 mb) (hm:behindInMarks op e2=false):OE X md P (.Compare e1 [op] [e2] pos) (Qae g ma mb) :=
 (QrY ho ha hb hm).imp fun _ _ _=>Qk2
def QaQ (m:M D):M Bool:=fun ρ O=>(m ρ O).bind fun d O1=>match d with
 | .bl b=>.ok b O1
 | _=>.no
theorem QjV {K:Frag}{mg:Str→Option Value}{m:M D}{σ:St}{H:Hp}{Q:Bool→Hp→Prop} (h:tMT K mg md P (QaQ m) σ H Q):QnK (tM K mg md P (rO K) m) σ H Q:=by
 obtain ⟨ρ,O,F,as,d,O',r,sl,e,k⟩:=h;obtain ⟨d,O1,e1,e⟩:=Res.bind_ok e
 cases d with
 | bl c =>
  cases e;refine ⟨ρ,_,F,as,_,_,r,sl,e1,fun v H1 F1 as1 g1 r1 hv=>?_⟩
  rcases hv with ⟨_,hv⟩ | ⟨a,xs,ds,_,e2,_⟩
  ·exact ⟨_,hv.unB,k H1 F1 as1 g1 r1⟩
  ·cases e2
 | _=>cases e
theorem QcM {e1 e2:Expr}{pos:Pos}{op:CmpOp}{g:D→D→Option D}{ma mb:M D} (ho:OpD X (compareOp op) g) (ha:SE X md P e1 ma) (hb:SE X md P e2 mb) (hm:behindInMarks op e2=false):TsE X md P (.Compare e1 [op] [e2] pos) (QaQ (Qae g ma mb)) :=
 (Qrn ho ha hb hm).imp fun σ H Q h=>by
  have q:=QjV h;exact Qk2 q
def QbO (g g':D→D→Option D) (ma mb mc:M D):M D:=fun ρ O=>(ma ρ O).bind fun x O1=>(mb ρ O1).bind fun y O2=>match g (QaN O2 x) (QaN O2 y) with
 | some (.bl true)=>(mc ρ O2).bind fun z O3=>match g' (QaN O3 y) (QaN O3 z) with
  | some d=>.ok d O3
  | none=>.no
 | some (.bl false)=>.ok (.bl false) O2
 | _=>.no
theorem Qlj {K:Frag}{mg:Str→Option Value}{g g':D→D→Option D}{ma mb mc:M D}{σ:St}{H:Hp}{Q:VK} (h:tM K mg md P (rO K) (QbO g g' ma mb mc) σ H Q) :
  Qld (rD K mg g) (rD K mg g') (tM K mg md P (rS K) ma) (tM K mg md P (rS K) mb) (tM K mg md P (rS K) mc) σ H Q:=by
 obtain ⟨ρ,O,F,as,d,O',r,sl,e,k⟩:=h;obtain ⟨x,O1,e1,e⟩:=Res.bind_ok e;obtain ⟨y,O2,e2,e⟩:=Res.bind_ok e;refine ⟨ρ,_,F,as,_,_,r,sl,e1,fun v H1 F1 as1 g1 r1 hv=>?_⟩;refine ⟨ρ,_,F1,as1,_,_,r1,sl.step g1,e2,fun u H2 F2 as2 g2 r2 hu=>?_⟩;split at e
 ·rename_i hg;obtain ⟨z,O3,e3,e⟩:=Res.bind_ok e;refine ⟨_,F2,as2,_,_,_,r2,Sv.lk (Sv.gr hv g2) r2,Sv.lk hu r2,hg,fun v' H' F' g' r' hw=>?_⟩
  rcases hw with ⟨_,hw⟩ | ⟨a,xs,ds,_,z,_⟩
  ·refine ⟨true,hw.unB,?_⟩;rw [if_pos rfl];split at e
   ·rename_i d' hg';cases e;have g3:=(g1.trans g2).trans g';refine ⟨ρ,_,F',as2,_,_,r',sl.step g3,e3,fun w H4 F4 as4 g4 r4 hz=>?_⟩;refine ⟨_,F4,as4,_,_,_,r4,Sv.lk (Sv.gr (Sv.gr hu g') g4) r4,Sv.lk hz r4,hg',fun v5 H5 F5 g5 r5 hw5=>?_⟩;exact k v5 H5 F5 as4 ((g3.trans g4).trans g5) r5 (QeI _ _ _ _ _ _ _ (fun a ha=>(g3.trans g4).dm a ha) hw5)
   ·cases e
  ·cases z
 ·rename_i hg;cases e;refine ⟨_,F2,as2,_,_,_,r2,Sv.lk (Sv.gr hv g2) r2,Sv.lk hu r2,hg,fun v' H' F' g' r' hw=>?_⟩
  rcases hw with ⟨_,hw⟩ | ⟨a,xs,ds,_,z,_⟩
  ·refine ⟨false,hw.unB,?_⟩;rw [if_neg zj];exact k _ H' F' as2 ((g1.trans g2).trans g') r' (.inl ⟨rfl,Rp.bl⟩)
  ·cases z
 ·cases e
theorem QfI {a b c:Expr}{pos:Pos}{op op':CmpOp}{g g':D→D→Option D}{ma mb mc:M D} (ho:OpD X (compareOp op) g) (ho':OpD X (compareOp op') g') (ha:SE X md P a ma) (hb:SE X md P b mb) (hc:SE X md P c mc)
  (hm:lastMarks [op,op'] [b,c]=false:=by with_unfolding_all rfl):OE X md P (.Compare a [op,op'] [b,c] pos) (QbO g g' ma mb mc):=(QpD ho ho' ha hb hc hm).imp fun _ _ _=>Qlj
theorem QlJ {a b c:Expr}{pos:Pos}{op op':CmpOp}{g g':D→D→Option D}{ma mb mc:M D} (ho:OpD X (compareOp op) g) (ho':OpD X (compareOp op') g') (ha:SE X md P a ma) (hb:SE X md P b mb) (hc:SE X md P c mc)
  (hm:lastMarks [op,op'] [b,c]=false:=by with_unfolding_all rfl):TsE X md P (.Compare a [op,op'] [b,c] pos) (QaQ (QbO g g' ma mb mc)):=(QqF ho ho' ha hb hc hm).imp fun _ _ _ h=>Qlj (QjV h)
def isNon:D→Bool
 | .non=>true
 | _=>false
def QwK (m:M D):M D:=fun ρ O=>(m ρ O).bind fun d O1=>.ok (.bl (isNon d)) O1
def QvN (m:M D):M D:=fun ρ O=>(m ρ O).bind fun d O1=>.ok (.bl (!isNon d)) O1
def Qj0:D→Option Bool
 | .non=>some false
 | .bl b=>some b
 | .int i=>some (i != 0)
 | .str l=>if l.length≤1000000 then some (!l.isEmpty) else none
 | .lst ds=>some (!ds.isEmpty)
 | .tup ds=>some (!ds.isEmpty)
 | .dic ks _=>some (!ks.isEmpty)
 | .ob _=>none
def Qa4 (m:M D):M Bool:=fun ρ O=>(m ρ O).bind fun d O1=>match Qj0 (QaN O1 d) with
 | some b=>.ok b O1
 | none=>.no
theorem Qks {α β:Type}{xs:List α}{ys:List β} (h:xs.length=ys.length):(!xs.isEmpty) = !ys.isEmpty:=by
 cases xs <;> cases ys <;> simp_all
theorem Lk.tru {K:Frag}{H F:Hp}{as:List Addr}{v:V}{d:D}{b:Bool} (h:Lk K H F as v d) (fh:Same F H) (e:Qj0 d=some b):Qp5 K v H b:=by
 cases d with
 | non=>rw [(h.rp rfl).unN]; cases e; rfl
 | bl b=>rw [(h.rp rfl).unB]; cases e; rfl
 | int b=>rw [(h.rp rfl).unI]; cases e; rfl
 | str l =>
  rw [(h.rp rfl).unS];simp only [Qj0] at e;split at e
  ·rename_i hl;cases e;refine ⟨by rw [QbS]; exact Qee hl,?_⟩;rw [QbS]
   cases l with
   | nil=>rfl
   | cons c l =>
    have:((((c::l).length:Nat):Int) != 0)=true:=by
     rw [bne_iff_ne,zJ];omega
    rw [this];rfl
  ·cases e
 | lst ds =>
  obtain ⟨a,xs,rfl,h1,h2⟩:=h.list fh;cases e;exact .inl ⟨xs,h1.sq,(Qks h2.length).symm⟩
 | tup ds =>
  obtain ⟨a,xs,rfl,h1,h2⟩:=(h.rp rfl).unT;cases e;exact .inr (.inl ⟨xs,Same.seqT fh h1,(Qks h2.length).symm⟩)
 | dic ks vs =>
  obtain ⟨a,kvs,rfl,h1,rfl,h2⟩:=(h.rp rfl).unD;cases e;exact .inr (.inr ⟨kvs,fh _ _ h1,by cases kvs <;> rfl⟩)
 | ob n=>cases e
theorem Qby {a:Expr}{m:M D} (h:SE X md P a m) (he:∀whole,isTrue a X.env whole=(do let v ←whole; standAt a.pos; holding [v] (truthy v)):=by intro _; rfl):TsE X md P a (Qa4 m):=(Qqp h he).imp fun σ H Q q=>by
 obtain ⟨ρ,O,F,as,d,O',r,sl,e,k⟩:=q;obtain ⟨d,O1,e1,e⟩:=Res.bind_ok e;split at e
 ·rename_i c hc;cases e;exact ⟨ρ,_,F,as,_,_,r,sl,e1,fun v H1 F1 as1 g1 r1 hv=>⟨_,Lk.tru (Sv.lk hv r1) r1.fh hc,k H1 F1 as1 g1 r1⟩⟩
 ·cases e
def Qib (a b:M Bool):M Bool:=fun ρ O=>(a ρ O).bind fun c O1=>if c=true then b ρ O1 else .ok false O1
def QbN (a b:M Bool):M Bool:=fun ρ O=>(a ρ O).bind fun c O1=>if c=true then .ok true O1 else b ρ O1
def Qa1 (a:M Bool):M Bool:=fun ρ O=>(a ρ O).bind fun c O1=>.ok (!c) O1
theorem QsE {K:Frag}{mg:Str→Option Value}{ma mb:M Bool}{σ:St}{H:Hp}{Q:Bool→Hp→Prop} (h:tMT K mg md P (Qib ma mb) σ H Q):Quf (tMT K mg md P ma) (tMT K mg md P mb) σ H Q:=by
 obtain ⟨ρ,O,F,as,d,O',r,sl,e,k⟩:=h;obtain ⟨c,O1,e1,e⟩:=Res.bind_ok e;refine ⟨ρ,_,F,as,_,_,r,sl,e1,fun H1 F1 as1 g1 r1=>?_⟩
 cases c with
 | true =>
  rw [if_pos rfl] at e ⊢;exact ⟨ρ,_,F1,as1,_,_,r1,sl.step g1,e,fun H2 F2 as2 g2 r2=>k H2 F2 as2 (g1.trans g2) r2⟩
 | false =>
  rw [if_neg zj] at e ⊢;cases e;exact k H1 F1 as1 g1 r1
theorem Qs8 {K:Frag}{mg:Str→Option Value}{ma mb:M Bool}{σ:St}{H:Hp}{Q:Bool→Hp→Prop} (h:tMT K mg md P (QbN ma mb) σ H Q):tOr (tMT K mg md P ma) (tMT K mg md P mb) σ H Q:=by
 obtain ⟨ρ,O,F,as,d,O',r,sl,e,k⟩:=h;obtain ⟨c,O1,e1,e⟩:=Res.bind_ok e;refine ⟨ρ,_,F,as,_,_,r,sl,e1,fun H1 F1 as1 g1 r1=>?_⟩
 cases c with
 | true =>
  rw [if_pos rfl] at e ⊢;cases e;exact k H1 F1 as1 g1 r1
 | false =>
  rw [if_neg zj] at e ⊢;exact ⟨ρ,_,F1,as1,_,_,r1,sl.step g1,e,fun H2 F2 as2 g2 r2=>k H2 F2 as2 (g1.trans g2) r2⟩
theorem QrX {a:Expr}{pos:Pos}{m:M Bool} (h:TsE X md P a m):TwE X md P (.BoolOp .And [a] pos) m:=Qra h
theorem Qd8 {a:Expr}{pos:Pos}{m:M Bool} (h:TsE X md P a m):TwE X md P (.BoolOp .Or [a] pos) m:=Quq h
theorem Qui {a b:Expr}{rest:List Expr}{pos:Pos}{ma mb:M Bool} (ha:TsE X md P a ma) (hb:TwE X md P (.BoolOp .And (b::rest) pos) mb):TwE X md P (.BoolOp .And (a::b::rest) pos) (Qib ma mb):=(Qts ha hb).imp fun _ _ _=>QsE
theorem Qea {a b:Expr}{rest:List Expr}{pos:Pos}{ma mb:M Bool} (ha:TsE X md P a ma) (hb:TwE X md P (.BoolOp .Or (b::rest) pos) mb):TwE X md P (.BoolOp .Or (a::b::rest) pos) (QbN ma mb):=(QuN ha hb).imp fun _ _ _=>Qs8
theorem Qgd {e:Expr}{m:M Bool} (h:TwE X md P e m):TsE X md P e m:=PW.pt h
theorem QbP {a:Expr}{pos:Pos}{m:M Bool} (h:TsE X md P a m):TsE X md P (.UnaryOp .Not a pos) (Qa1 m):=(Quw h).imp fun σ H Q q=>by
 obtain ⟨ρ,O,F,as,d,O',r,sl,e,k⟩:=q;obtain ⟨c,O1,e1,e⟩:=Res.bind_ok e;cases e;exact ⟨ρ,_,F,as,_,_,r,sl,e1,k⟩
def Qa7 (ma mb:M D):M D:=fun ρ O=>(ma ρ O).bind fun d O1=>match d with
 | .bl true=>mb ρ O1
 | .bl false=>.ok (.bl false) O1
 | _=>.no
def Qtk (ma mb:M D):M D:=fun ρ O=>(ma ρ O).bind fun d O1=>match d with
 | .bl true=>.ok (.bl true) O1
 | .bl false=>mb ρ O1
 | _=>.no
def Qc4 (ma:M D):M D:=fun ρ O=>(ma ρ O).bind fun d O1=>match d with
 | .bl b=>.ok (.bl (!b)) O1
 | _=>.no
theorem Qcf {a:Expr}{pos:Pos}{op}{m:M D} (h:VE X md P a m):VE X md P (.BoolOp op [a] pos) m:=QuC h
theorem QbI {a b:Expr}{rest:List Expr}{pos:Pos}{ma mb:M D} (ha:VE X md P a ma) (hb:VE X md P (.BoolOp .And (b::rest) pos) mb):VE X md P (.BoolOp .And (a::b::rest) pos) (Qa7 ma mb):=(Quj ha hb).imp fun σ H Q q=>by
 obtain ⟨ρ,O,F,as,d,O',r,sl,e,k⟩:=q;obtain ⟨x,O1,e1,e⟩:=Res.bind_ok e;refine ⟨ρ,_,F,as,_,_,r,sl,e1,fun v H1 F1 as1 g1 r1 hv=>?_⟩
 cases x with
 | bl c =>
  refine ⟨c,Rp.unB hv,?_⟩
  cases c with
  | true =>
   rw [if_pos rfl];exact ⟨ρ,_,F1,as1,_,_,r1,sl.step g1,e,fun v2 H2 F2 as2 g2 r2 hv2=>k v2 H2 F2 as2 (g1.trans g2) r2 hv2⟩
  | false =>
   rw [if_neg zj];cases e;exact k _ H1 F1 as1 g1 r1 Rp.bl
 | _=>cases e
theorem Qhp {a:Expr}{pos:Pos}{m:M D} (h:VE X md P a m):VE X md P (.UnaryOp .Not a pos) (Qc4 m):=(QuJ h).imp fun σ H Q q=>by
 obtain ⟨ρ,O,F,as,d,O',r,sl,e,k⟩:=q;obtain ⟨x,O1,e1,e⟩:=Res.bind_ok e;refine ⟨ρ,_,F,as,_,_,r,sl,e1,fun v H1 F1 as1 g1 r1 hv=>?_⟩
 cases x with
 | bl c =>
  cases e;exact ⟨c,Rp.unB hv,k _ H1 F1 as1 g1 r1 Rp.bl⟩
 | _=>cases e
def mIf (t:M Bool) (a b:M D):M D:=fun ρ O=>(t ρ O).bind fun c O1=>if c=true then a ρ O1 else b ρ O1
end
section
variable {K:Frag}{mg:Str→Option Value}{md:List Md}{P:Pt}{R:RR}{ρ:Qai}{σ:St}{H F H' F':Hp}{as as':List Addr}{O O':Qac}
theorem SlO.set {i:Nat}{m:Md}{v:V}{d:D} (s:SlO K md P ρ σ H F as) (hm:md[i]? = some m) (hns:m≠.s) (hv:QeH P K H F as m v d)
  (hj:∀(a:Addr) (ds:List D) (j:Nat) (es:List D),m = .o→v = .ref a→d = .lst ds→i≠j→md[j]? = some .o→ρ[j]? = some (some (.lst es))→σ[j]?≠some (some (.ref a))):SlO K md P (ρ.set i (some d)) (σ.set i (some v)) H F as:=by
 have hi:i < md.length:=(zo.mp hm).1;refine ⟨by rw [zT]; exact s.len,by rw [zT]; exact s.len',s.pd,fun j m' d' e1 e2=>?_,fun j k a ds es h1 h2 h3 h4 h5 h6=>?_,fun x hx=>?_⟩
 ·by_cases h:i=j
  ·subst h;rw [hm] at e1; cases e1;rw [zI (by rw [s.len']; exact hi)] at e2;cases e2;exact ⟨v,zI (by rw [s.len]; exact hi),hv⟩
  ·rw [zt h] at e2;rw [zt h];exact s.sl j m' d' e1 e2
 ·by_cases hij:i=j
  ·by_cases hik:i=k
   ·rw [←hij,←hik]
   ·exfalso
    subst hij;rw [hm] at h1; cases h1;rw [zI (by rw [s.len']; exact hi)] at h3;rw [zI (by rw [s.len]; exact hi)] at h5;rw [zt hik] at h4 h6;cases h3; cases h5;exact hj a ds k es rfl rfl rfl hik h2 h4 h6
  ·by_cases hik:i=k
   ·exfalso
    subst hik;rw [hm] at h2; cases h2;rw [zI (by rw [s.len']; exact hi)] at h4;rw [zI (by rw [s.len]; exact hi)] at h6;rw [zt hij] at h3 h5;cases h4; cases h6;exact hj a es j ds rfl rfl rfl hij h1 h3 h5
   ·rw [zt hij] at h3 h5;rw [zt hik] at h4 h6;exact s.inj j k a ds es h1 h2 h3 h4 h5 h6
 ·obtain ⟨p1,p2,p3⟩:=s.pin x hx
  have hne:i≠x.1:=fun z=>by
   rw [←z,hm] at p1;exact hns (zL p1)
  exact ⟨p1,by rw [zt hne]; exact p2,by rw [zt hne]; exact p3⟩
theorem SlO.setV {i:Nat}{v:V}{d:D} (s:SlO K md P ρ σ H F as) (hm:md[i]? = some .v) (hv:Rp K F as v d):SlO K md P (ρ.set i (some d)) (σ.set i (some v)) H F as :=
 s.set hm (by decide) hv fun _ _ _ _ z=>nomatch z
theorem SlO.setN {i:Nat}{v:V}{d:D} (s:SlO K md P ρ σ H F as) (hm:md[i]? = some .o) (hn:Qes d=true) (hv:Rp K F as v d):SlO K md P (ρ.set i (some d)) (σ.set i (some v)) H F as :=
 s.set hm (by decide) (.inl ⟨hn,hv⟩) fun _ _ _ _ _ _ z=>by subst z; cases hn
theorem SlO.setO {i:Nat}{v:V}{d:D}{H0:Hp} (s:SlO K md P ρ σ H0 F as) (g:Gr H0 F as H' F' as') (hm:md[i]? = some .o) (hv:Ow K (fun a=>H0 a=none) H' F' as' v d):SlO K md P (ρ.set i (some d)) (σ.set i (some v)) H' F' as':=by
 have s':=s.step g
 rcases hv with ⟨hn,hv⟩ | ⟨a,xs,ds,rfl,rfl,e3,e4,e5,e6,e7⟩
 ·exact s'.setN hm hn hv
 ·refine s'.set hm (by decide) (.inr ⟨a,xs,ds,rfl,rfl,e3,e4,e5,fun p=>s.pd a p e6,e7⟩) fun b ds' j es _ hb hd hij hj he hs=>?_
  cases hb;obtain ⟨v,h1,h2⟩:=s.sl j .o _ hj he;rw [hs] at h1; cases h1
  rcases h2 with ⟨h2,_⟩ | ⟨a',xs',_,z1,_,z3,_⟩
  ·cases h2
  ·cases z1;rw [e6] at z3; cases z3
end
section
variable {X:Cx}{md:List Md}{P:Pt}{R:RR}
def QaD:MS:=fun ρ O=>.nx ρ O
def Qak (a b:MS):MS:=fun ρ O=>match a ρ O with
 | .nx ρ' O'=>b ρ' O'
 | r=>r
theorem QbH:VSs X md P R [] QaD:=Qmm.imp fun D σ H q=>by
 obtain ⟨ρ,O,F,as,r,s,k⟩:=q;exact k σ H F as GrS.refl r s
theorem QeM {K:Frag}{mg:Str→Option Value}{D:Ends}{H F H1 F1:Hp}{as as1:List Addr} (g:GrS P H F as H1 F1 as1) {f:Fl} (k:Qgj K mg md P R D H F as f):Qgj K mg md P R D H1 F1 as1 f:=by
 cases f with
 | nx ρ' O'=>exact fun σ' H' F' as' g'=>k σ' H' F' as' (g.trans g')
 | bk ρ' O'=>exact fun σ' H' F' as' g'=>k σ' H' F' as' (g.trans g')
 | ct ρ' O'=>exact fun σ' H' F' as' g'=>k σ' H' F' as' (g.trans g')
 | rt d O'=>exact fun σ' H' F' as' g'=>k σ' H' F' as' (g.trans g')
 | ex _ _=>exact k
 | no=>exact k
theorem Qap {st:Stmt}{rest:List Stmt}{a b:MS} (h1:VS X md P R st a) (h2:VSs X md P R rest b):VSs X md P R (st::rest) (Qak a b):=(QlP h1 h2).imp fun D σ H q=>by
 obtain ⟨ρ,O,F,as,r,s,k⟩:=q;refine ⟨ρ,O,F,as,r,s,?_⟩;unfold Qak at k
 cases e:a ρ O with
 | nx ρ' O' =>
  rw [e] at k;dsimp only at k
  exact fun σ' H' F' as' g r' s'=>⟨ρ',O',F',as',r',s',QeM g k⟩
 | bk ρ' O'=>rw [e] at k; exact k
 | ct ρ' O'=>rw [e] at k; exact k
 | rt d O'=>rw [e] at k; exact k
 | ex x O'=>rw [e] at k; exact k
 | no=>rw [e] at k; exact k
theorem Qaz {st:Stmt}{a:MS} (h1:VS X md P R st a):VSs X md P R [st] a:=Qmh h1
def QsK (m:M D):MS:=fun ρ O=>match m ρ O with
 | .ok _ O'=>.nx ρ O'
 | .ex x O'=>.ex x O'
 | .no=>.no
def QaC (m:M D):MS:=fun ρ O=>match m ρ O with
 | .ok d O'=>.rt d O'
 | .ex x O'=>.ex x O'
 | .no=>.no
theorem Qps (hR:QcQ R) {e:Expr}{pos:Pos}{m:M D} (h:PE X e (tM X.K X.mg md P R m)):VS X md P R (.Return (some e) pos) (QaC m):=(QkV h).imp fun D σ H q=>by
 obtain ⟨ρ,O,F,as,r,s,k⟩:=q;unfold QaC at k
 cases e:m ρ O with
 | ok d O' =>
  rw [e] at k;exact ⟨ρ,_,F,as,_,_,r,s,e,fun v H' F' as' g r' hv=>k v H' F' as' g.toS r' (hR _ _ _ _ _ _ _ (fun a ha p=>s.pd a p ha) hv)⟩
 | ex x O'=>rw [e] at k; exact False.elim k
 | no=>rw [e] at k; exact False.elim k
theorem QaJ {e:Expr}{pos:Pos}{m:M D} (h:VE X md P e m):VS X md P (rV X.K) (.Return (some e) pos) (QaC m):=Qps Qbk h
theorem Qmi {e:Expr}{pos:Pos}{m:M D} (h:OE X md P e m):VS X md P (rO X.K) (.Return (some e) pos) (QaC m):=Qps QeI h
theorem Qrq (i:Nat) {x:Str}{p pos:Pos} (hm:md[i]? = some .o:=by rfl) (hN:X.N[i]? = some x:=by rfl) (hv:Vis X.env.scope x:=by first | exact Or.inl rfl | exact Or.inr (Or.inl rfl) | exact Or.inr (Or.inr rfl))
  (hd:(x == ("__debug__":Str))=false:=by decide) (hcd:(x == ("__classdict__":Str))=false:=by decide):VS X md P (rO X.K) (.Return (some (.Name x p)) pos) (QaC (Qaa i)):=(QkV (QeQ (i:=i) hN hv hd hcd)).imp fun D σ H q=>by
 obtain ⟨ρ,O,F,as,r,s,k⟩:=q;unfold QaC at k
 cases e:Qaa i ρ O with
 | ok d O' =>
  rw [e] at k;obtain ⟨e1,rfl⟩:=Qh3 e;obtain ⟨v,h1,h2⟩:=s.sl i .o d hm e1;refine ⟨v,h1,k v H F as GrS.refl r ?_⟩
  rcases h2 with h2 | ⟨a,xs,ds,e1,e2,e3,e0,e4,e5,e6⟩
  ·exact .inl h2
  ·exact .inr ⟨a,xs,ds,e1,e2,e3,e0,e4,e5,e6⟩
 | ex x O'=>rw [e] at k; exact False.elim k
 | no=>rw [e] at k; exact False.elim k
def QbA (t:M Bool) (a b:MS):MS:=fun ρ O=>match t ρ O with
 | .ok c O'=>if c=true then a ρ O' else b ρ O'
 | .ex x O'=>.ex x O'
 | .no=>.no
theorem Qci {c:Expr}{a b:List Stmt}{pos:Pos}{t:M Bool}{ma mb:MS} (hc:TsE X md P c t) (ha:VSs X md P R a ma) (hb:VSs X md P R b mb):VS X md P R (.If c a b pos) (QbA t ma mb):=(Qq0 hc ha hb).imp fun D σ H q=>by
 obtain ⟨ρ,O,F,as,r,s,k⟩:=q;unfold QbA at k
 cases e:t ρ O with
 | ok c O' =>
  rw [e] at k;refine ⟨ρ,_,F,as,_,_,r,s,e,fun H1 F1 as1 g r1=>?_⟩;dsimp only at k
  cases c with
  | true =>
   rw [if_pos rfl] at k ⊢;exact ⟨ρ,O',F1,as1,r1,s.step g,QeM g.toS k⟩
  | false =>
   rw [if_neg zj] at k ⊢;exact ⟨ρ,O',F1,as1,r1,s.step g,QeM g.toS k⟩
 | ex x O'=>rw [e] at k; exact False.elim k
 | no=>rw [e] at k; exact False.elim k
def Qar (i:Nat) (m:M D):MS:=fun ρ O=>match m ρ O with
 | .ok d O'=>.nx (ρ.set i (some d)) O'
 | .ex x O'=>.ex x O'
 | .no=>.no
theorem QmJ {K:Frag}{mg:Str→Option Value}{i:Nat}{m:M D}{t:TE} (hm:md[i]? = some .v) (ht:∀σ H Q,tM K mg md P (rV K) m σ H Q→t σ H Q) {D:Ends}{σ:St}{H:Hp} (q:tMS K mg md P R (Qar i m) D σ H):QlH t (Qi0 i) D σ H:=by
 obtain ⟨ρ,O,F,as,r,s,k⟩:=q;unfold Qar at k
 cases e:m ρ O with
 | ok d O' =>
  rw [e] at k;exact ht _ _ _ ⟨ρ,_,F,as,_,_,r,s,e,fun v H' F' as' g r' hv=>k _ H' F' as' g.toS r' ((s.step g).setV hm hv)⟩
 | ex x O'=>rw [e] at k; exact False.elim k
 | no=>rw [e] at k; exact False.elim k
theorem QrD {K:Frag}{mg:Str→Option Value}{i:Nat}{m:M D}{t:TE} (hm:md[i]? = some .o) (ht:∀σ H Q,tM K mg md P (rO K) m σ H Q→t σ H Q) {D:Ends}{σ:St}{H:Hp} (q:tMS K mg md P R (Qar i m) D σ H):QlH t (Qi0 i) D σ H:=by
 obtain ⟨ρ,O,F,as,r,s,k⟩:=q;unfold Qar at k
 cases e:m ρ O with
 | ok d O' =>
  rw [e] at k;exact ht _ _ _ ⟨ρ,_,F,as,_,_,r,s,e,fun v H' F' as' g r' hv=>k _ H' F' as' g.toS r' (s.setO g hm hv)⟩
 | ex x O'=>rw [e] at k; exact False.elim k
 | no=>rw [e] at k; exact False.elim k
theorem QaR {i:Nat}{x:Str}{e:Expr}{pos pos':Pos}{m:M D} (hN:X.N.Nodup) (hi:X.N[i]? = some x) (hx:Loc X.env.scope x) (h:VE X md P e m) (hm:md[i]? = some .v:=by rfl) (hs:swapsWith e (some (.Name x pos')) pos.line X.env=pure false:=by rfl)
  (hf:X.fn x=true∨X.env.scope.names.lookup x=some .local:=by first | exact .inl rfl | exact .inr rfl | assumption):VS X md P R (.Assign [.Name x pos'] e pos) (Qar i m):=(QoL (i:=i) hN hi hx h hs hf).imp fun D σ H q=>QmJ hm (fun _ _ _ z=>z) q
theorem Qid {i:Nat}{x:Str}{e:Expr}{pos pos':Pos}{m:M D} (hN:X.N.Nodup) (hi:X.N[i]? = some x) (hx:Loc X.env.scope x) (h:OE X md P e m) (hm:md[i]? = some .o:=by rfl) (hs:swapsWith e (some (.Name x pos')) pos.line X.env=pure false:=by rfl)
  (hf:X.fn x=true∨X.env.scope.names.lookup x=some .local:=by first | exact .inl rfl | exact .inr rfl | assumption):VS X md P R (.Assign [.Name x pos'] e pos) (Qar i m):=(QoL (i:=i) hN hi hx h hs hf).imp fun D σ H q=>QrD hm (fun _ _ _ z=>z) q
abbrev MG:=D→Qai→Option Qai
def tMG (K:Frag) (mg:Str→Option Value) (md:List Md) (P:Pt) (g:MG):TG:=fun v σ H Q=>∃ρ O F as d ρ',RlO K mg O H F as∧SlO K md P ρ σ H F as∧Rp K F as v d∧g d ρ=some ρ'∧∀σ',SlO K md P ρ' σ' H F as→Q σ' H
def Qw9 (K:Frag) (mg:Str→Option Value) (md:List Md) (P:Pt) (g:List D→Qai→Option Qai):TGs:=fun vs σ H Q=>∃ρ O F as ds ρ',RlO K mg O H F as∧SlO K md P ρ σ H F as∧Rps K F as vs ds∧g ds ρ=some ρ'∧∀σ',SlO K md P ρ' σ' H F as→Q σ' H
def VG (X:Cx) (md:List Md) (P:Pt) (tg:Expr) (g:MG):Prop:=PG X tg (tMG X.K X.mg md P g)
def VGs (X:Cx) (md:List Md) (P:Pt) (tg:List Expr) (g:List D→Qai→Option Qai):Prop:=PGs X tg (Qw9 X.K X.mg md P g)
theorem PG.imp {e:Expr}{t t':TG} (h:PG X e t) (k:∀v σ H Q,t' v σ H Q→t v σ H Q):PG X e t':=fun pins s σ H v u Q I r q=>h pins s σ H v u Q I r (k v σ H Q q)
theorem PGs.imp {e:List Expr}{t t':TGs} (h:PGs X e t) (k:∀v σ H Q,t' v σ H Q→t v σ H Q):PGs X e t':=fun pins s σ H v u Q I r q=>h pins s σ H v u Q I r (k v σ H Q q)
def mgN (i:Nat):MG:=fun d ρ=>some (ρ.set i (some d))
theorem QaV {i:Nat}{x:Str}{pos:Pos} (hN:X.N.Nodup) (hi:X.N[i]? = some x) (hx:Loc X.env.scope x) (hm:md[i]? = some .v:=by rfl) (hf:X.fn x=true∨X.env.scope.names.lookup x=some .local:=by first | exact .inl rfl | exact .inr rfl | assumption):VG X md P (.Name x pos) (mgN i) :=
 (Qsh (i:=i) hN hi hx hf).imp fun v σ H Q q=>by
  obtain ⟨ρ,O,F,as,d,ρ',r,s,hv,e,k⟩:=q;cases e;exact k _ (s.setV hm hv)
def QfG:List D→Qai→Option Qai:=fun ds ρ=>match ds with
 | []=>some ρ
 | _=>none
def Qbi (g:MG) (r:List D→Qai→Option Qai):List D→Qai→Option Qai:=fun ds ρ=>match ds with
 | d::ds=>(g d ρ).bind fun ρ1=>r ds ρ1
 | []=>none
theorem Qj1:VGs X md P [] QfG:=Qrp.imp fun v σ H Q q=>by
 obtain ⟨ρ,O,F,as,ds,ρ',r,s,hv,e,k⟩:=q
 cases ds with
 | nil=>cases e; exact ⟨hv.un0,k _ s⟩
 | cons _ _=>cases e
theorem Qcg {e:Expr}{es:List Expr}{g:MG}{r:List D→Qai→Option Qai} (h1:VG X md P e g) (h2:VGs X md P es r) (hs:(assignEach (e::es) X.env).map (·.2)=assign e X.env::(assignEach es X.env).map (·.2):=by rfl):VGs X md P (e::es) (Qbi g r) :=
 (QpN h1 h2 hs).imp fun v σ H Q q=>by
  obtain ⟨ρ,O,F,as,ds,ρ',r0,s,hv,e,k⟩:=q
  cases ds with
  | nil=>cases e
  | cons d ds =>
   obtain ⟨x,rs,rfl,hx,hr⟩:=hv.un;unfold Qbi at e;dsimp only at e
   cases e1:g d ρ with
   | none=>rw [e1] at e; cases e
   | some ρ1 =>
    rw [e1] at e;exact ⟨x,rs,rfl,ρ,O,F,as,d,ρ1,r0,s,hx,e1,fun σ' s'=>⟨ρ1,O,F,as,ds,ρ',r0,s',hr,e,k⟩⟩
def QhY (n:Nat) (r:List D→Qai→Option Qai):MG:=fun d ρ=>match d with
 | .tup ds=>if ds.length=n then r ds ρ else none
 | _=>none
theorem QlL {es:List Expr}{pos:Pos}{k:Nat}{r:List D→Qai→Option Qai} (n:Nat) (hc:X.calm=true) (h:VGs X md P es r) (hn:(assignEach es X.env).length=n:=by rfl) (hst:(assignEach es X.env).findIdx? (·.1)=none:=by rfl):VG X md P (.Tuple es k pos) (QhY n r) :=
 (Qud hc h hn hst).imp fun v σ H Q q=>by
  obtain ⟨ρ,O,F,as,d,ρ',r0,s,hv,e,k⟩:=q
  cases d with
  | tup ds =>
   obtain ⟨a,xs,rfl,h1,h2⟩:=hv.unT;unfold QhY at e;dsimp only at e;split at e
   ·rename_i hl;exact ⟨a,xs,rfl,Same.seqT r0.fh h1,by rw [h2.length]; exact hl,ρ,O,F,as,ds,ρ',r0,s,h2,e,k⟩
   ·cases e
  | _=>cases e
def QiV (m:M D) (g:MG):MS:=fun ρ O=>match m ρ O with
 | .ok d O'=>match g d ρ with
  | some ρ'=>.nx ρ' O'
  | none=>.no
 | .ex x O'=>.ex x O'
 | .no=>.no
theorem Qup {tg e:Expr}{pos:Pos}{m:M D}{g:MG} (h:VE X md P e m) (hg:VG X md P tg g) (hs:swapsWithSole [tg] e pos.line X.env=pure false:=by rfl) (hw:swappedStores [tg] e X.env=pure none:=by rfl)
  (h1:(assignEach [tg] X.env).map (·.2) = [assign tg X.env]:=by rfl):VS X md P R (.Assign [tg] e pos) (QiV m g):=(QsG h hg hs hw h1).imp fun D σ H q=>by
 obtain ⟨ρ,O,F,as,r,s,k⟩:=q;unfold QiV at k
 cases e:m ρ O with
 | ok d O' =>
  rw [e] at k;dsimp only at k
  cases e2:g d ρ with
  | none=>rw [e2] at k; exact False.elim k
  | some ρ' =>
   rw [e2] at k;refine ⟨ρ,_,F,as,_,_,r,s,e,fun v H1 F1 as1 g1 r1 hv=>?_⟩;exact ⟨ρ,O',F1,as1,d,ρ',r1,s.step g1,hv,e2,fun σ' s'=>k σ' H1 F1 as1 g1.toS r1 s'⟩
 | ex x O'=>rw [e] at k; exact False.elim k
 | no=>rw [e] at k; exact False.elim k
end
structure JOk (K:Frag) (mg:Str→Option Value) (P:Pt) (J:It) (ds:List D) (H F:Hp) (as:List Addr):Prop where
 turn:∀(i:Nat) (d:D) (H2 F2:Hp) (as2:List Addr),GrS P H F as H2 F2 as2→(∃O,RlO K mg O H2 F2 as2)→ds[i]? = some d→J.go i H2∧∀x H3,J.yld i H2 x H3→∃F3,Gr H2 F2 as2 H3 F3 as2∧(∀O,RlO K mg O H2 F2 as2→RlO K mg O H3 F3 as2)∧Rp K F3 as2 x d
 stop:∀(H2 F2:Hp) (as2:List Addr),GrS P H F as H2 F2 as2→(∃O,RlO K mg O H2 F2 as2)→J.stop ds.length H2
structure QsS (K:Frag) (mg:Str→Option Value) (J:It) (ds:List D) (H F:Hp) (as:List Addr):Prop where
 turn:∀(i:Nat) (d:D) (H2 F2:Hp) (as2:List Addr),Gr H F as H2 F2 as2→(∃O,RlO K mg O H2 F2 as2)→ds[i]? = some d→J.go i H2∧∀x H3,J.yld i H2 x H3→∃F3,Gr H2 F2 as2 H3 F3 as2∧(∀O,RlO K mg O H2 F2 as2→RlO K mg O H3 F3 as2)∧Rp K F3 as2 x d
 stop:∀(H2 F2:Hp) (as2:List Addr),Gr H F as H2 F2 as2→(∃O,RlO K mg O H2 F2 as2)→J.stop ds.length H2
theorem JOk.e {K:Frag}{mg:Str→Option Value}{P:Pt}{J:It}{ds:List D}{H F:Hp}{as:List Addr} (h:JOk K mg P J ds H F as):QsS K mg J ds H F as:=⟨fun i d H2 F2 as2 g=>h.turn i d H2 F2 as2 g.toS,fun H2 F2 as2 g=>h.stop H2 F2 as2 g.toS⟩
def QtZ (K:Frag) (mg:Str→Option Value) (md:List Md) (P:Pt) (m:M (List D)):TI:=fun σ H Q=>∃ρ O F as ds O',RlO K mg O H F as∧SlO K md P ρ σ H F as∧m ρ O = .ok ds O' ∧
 ∀J H' F' as',Gr H F as H' F' as'→RlO K mg O' H' F' as'→QsS K mg J ds H' F' as'→Q J H'
def VIc (X:Cx) (md:List Md) (P:Pt) (tg iter:Expr) (m:M (List D)):Prop:=PI X tg iter (QtZ X.K X.mg md P m)
def tMI (K:Frag) (mg:Str→Option Value) (md:List Md) (P:Pt) (m:M (List D)):TI:=fun σ H Q=>∃ρ O F as ds O',RlO K mg O H F as∧SlO K md P ρ σ H F as∧m ρ O = .ok ds O' ∧
 ∀J H' F' as',Gr H F as H' F' as'→RlO K mg O' H' F' as'→JOk K mg P J ds H' F' as'→Q J H'
def VI (X:Cx) (md:List Md) (P:Pt) (tg iter:Expr) (m:M (List D)):Prop:=PI X tg iter (tMI X.K X.mg md P m)
section
variable {X:Cx}{md:List Md}{P:Pt}{R:RR}
theorem PI.imp {tg e:Expr}{t t':TI} (h:PI X tg e t) (k:∀σ H Q,t' σ H Q→t σ H Q):PI X tg e t':=fun pins s σ H Q I q=>h pins s σ H Q I (k σ H Q q)
theorem QkX {tg e:Expr}{m:M (List D)} (h:VI X md P tg e m):VIc X md P tg e m:=h.imp fun σ H Q q=>by
 obtain ⟨ρ,O,F,as,ds,O',r,s,e,k⟩:=q;exact ⟨ρ,O,F,as,ds,O',r,s,e,fun J H' F' as' g r' hJ=>k J H' F' as' g r' hJ.e⟩
def Qa9 (g:MG) (b:MS):List D→MS
 | [],ρ,O=>.nx ρ O
 | d::ds,ρ,O=>match g d ρ with
  | none=>.no
  | some ρ1=>match b ρ1 O with
   | .nx ρ2 O2=>Qa9 g b ds ρ2 O2
   | .ct ρ2 O2=>Qa9 g b ds ρ2 O2
   | .bk ρ2 O2=>.nx ρ2 O2
   | r=>r
def QbB (m:M (List D)) (g:MG) (b:MS):MS:=fun ρ O=>match m ρ O with
 | .ok ds O'=>Qa9 g b ds ρ O'
 | .ex x O'=>.ex x O'
 | .no=>.no
theorem Qtt {K:Frag}{mg:Str→Option Value}{m:M (List D)}{g:MG}{b:MS}{D:Ends}{σ:St}{H:Hp} (q:tMS K mg md P R (QbB m g b) D σ H):Qqh (tMI K mg md P m) (tMG K mg md P g) (tMS K mg md P R b) D σ H:=by
 obtain ⟨ρ,O,F,as,r,s,k⟩:=q;unfold QbB at k
 cases e:m ρ O with
 | ex x O'=>rw [e] at k; exact False.elim k
 | no=>rw [e] at k; exact False.elim k
 | ok ds O1 =>
  rw [e] at k;dsimp only at k;refine ⟨ρ,_,F,as,_,_,r,s,e,fun J H1 F1 as1 g1 r1 hJ=>?_⟩;have k1:=QeM (R:=R) g1.toS k;refine ⟨fun i m σ' H'=>m=ds.length - i∧i≤ds.length∧∃ρ' O' F' as',GrS P H1 F1 as1 H' F' as'∧RlO K mg O' H' F' as'∧SlO K md P ρ' σ' H' F' as'∧Qgj K mg md P R D H' F' as' (Qa9 g b (ds.drop i) ρ' O'),⟨ds.length,by simp,Nat.zero_le _,ρ,O1,F1,as1,GrS.refl,r1,s.step g1,by rw [List.drop_zero]; exact k1⟩,?_⟩;rintro i n σ' H' ⟨rfl,hi,ρ',O',F',as',g',r',s',k'⟩
  by_cases hlt:i < ds.length
  ·have hd:=zx hlt;obtain ⟨go,yl⟩:=hJ.turn i _ H' F' as' g' ⟨O',r'⟩ hd;rw [List.drop_eq_getElem_cons hlt] at k';refine .inr ⟨go,fun σ2 H2=>∃ρ2 O2 F2 as2,GrS P H1 F1 as1 H2 F2 as2∧RlO K mg O2 H2 F2 as2∧SlO K md P ρ2 σ2 H2 F2 as2∧Qgj K mg md P R D H2 F2 as2 (Qa9 g b (ds.drop (i+1)) ρ2 O2),fun σ2 H2 h2=>⟨ds.length - (i+1),by omega,rfl,hlt,h2⟩,fun x H3 y=>?_⟩;obtain ⟨F3,g3,r3,hx⟩:=yl x H3 y;have r3':=r3 O' r';unfold Qa9 at k'
   cases eg:g ds[i] ρ' with
   | none=>rw [eg] at k'; exact False.elim k'
   | some ρ1 =>
    rw [eg] at k';dsimp only at k';refine ⟨ρ',O',F3,as',ds[i],ρ1,r3',s'.step g3,hx,eg,fun σ4 s4=>?_⟩;refine ⟨ρ1,O',F3,as',r3',s4,?_⟩;have g4:GrS P H1 F1 as1 H3 F3 as':=g'.trans g3.toS
    have keep:=fun {f}=>QeM (K:=K) (mg:=mg) (md:=md) (R:=R) (D:=D) (f:=f) (g3.toS (P:=P))
    cases eb:b ρ1 O' with
    | nx ρ2 O2 =>
     rw [eb] at k'
     exact fun σ2 H2 F2 as2 g2 r2 s2=>⟨ρ2,O2,F2,as2,g4.trans g2,r2,s2,QeM g2 (keep k')⟩
    | ct ρ2 O2 =>
     rw [eb] at k'
     exact fun σ2 H2 F2 as2 g2 r2 s2=>⟨ρ2,O2,F2,as2,g4.trans g2,r2,s2,QeM g2 (keep k')⟩
    | bk ρ2 O2 =>
     rw [eb] at k'
     exact fun σ2 H2 F2 as2 g2 r2 s2=>k' σ2 H2 F2 as2 (g3.toS.trans g2) r2 s2
    | rt d O2 =>
     rw [eb] at k'
     exact fun v H2 F2 as2 g2 r2 s2=>k' v H2 F2 as2 (g3.toS.trans g2) r2 s2
    | ex _ _=>rw [eb] at k'; exact False.elim k'
    | no=>rw [eb] at k'; exact False.elim k'
  ·have hi':i=ds.length:=by omega
   subst hi';refine .inl ⟨hJ.stop H' F' as' g' ⟨O',r'⟩,?_⟩;rw [List.drop_length] at k';exact k' σ' H' F' as' GrS.refl r' s'
theorem QdB {tg iter:Expr}{body:List Stmt}{pos:Pos}{m:M (List D)}{g:MG}{b:MS} (hc:X.calm=true) (hi:VI X md P tg iter m) (hg:VG X md P tg g) (hb:VSs X md P R body b) (hp:PassesOwn (model X.prog X.w) X.A X.env X.xe:=by exact PassesOwn.never)
  (hs:∀x,foldedSetIterable iter X.env x=pure x:=by intro _; rfl):VS X md P R (.For tg iter body [] pos) (QbB m g b):=(Qow hp hc hi hg hb hs).imp fun _ _ _ q=>Qtt q
def Qb7 (g:MG) (t:M Bool) (m:M D):List D→Qai→Qac→List D→Res (List D)
 | [],ρ,O,acc=>.ok acc O
 | d::ds,ρ,O,acc=>match g d ρ with
  | none=>.no
  | some ρ1=>match t ρ1 O with
   | .ok true O1=>match m ρ1 O1 with
    | .ok y O2=>Qb7 g t m ds ρ1 O2 (acc ++ [y])
    | .ex x O'=>.ex x O'
    | .no=>.no
   | .ok false O1=>Qb7 g t m ds ρ1 O1 acc
   | .ex x O'=>.ex x O'
   | .no=>.no
def QdQ (own:Nat) (cap:List Nat) (ρ:Qai):Qai:=List.replicate own none++cap.map fun j=>(ρ[j]?).join
def QbC (m:M (List D)) (own:Nat) (cap:List Nat) (g:MG) (t:M Bool) (e:M D):M D:=fun ρ O=>(m ρ O).bind fun ds O1=>if ds.length≤1000000 then (Qb7 g t e ds (QdQ own cap ρ) O1 []).bind fun ys O2=>.ok (.lst ys) O2 else .no
def QbL:M Bool:=fun _ O=>.ok true O
def cMd (own:Nat) (cap:List Nat) (md:List Md):List Md:=List.replicate own .v++cap.map fun j=>match md[j]? with
 | some .v=>.v
 | _=>.s
theorem QmW {K:Frag}{ρ:Qai}{σ:St}{H F:Hp}{as:List Addr}{own:List Str}{cap:List Nat} (s:SlO K md P ρ σ H F as) (hcap:∀j∈cap,j < md.length):SlO K (cMd own.length cap md) (Pt.all H) (QdQ own.length cap ρ) (compSt own cap σ) H F as:=by
 refine ⟨by simp [compSt,cMd],by simp [QdQ,cMd],fun a h=>h,fun i m d e1 e2=>?_,fun i j a ds es h1=>?_,fun _ z=>nomatch z⟩
 ·unfold QdQ at e2;unfold cMd at e1;unfold compSt
  by_cases hi:i < own.length
  ·rw [zy (by simpa using hi),List.getElem?_replicate_of_lt hi] at e2;cases e2
  ·have hi':own.length≤i:=Nat.le_of_not_lt hi;rw [zE (by simpa using hi'),List.length_replicate,zG] at e2 e1;rw [zE (by simpa using hi'),zp,zG]
   cases q:cap[i - own.length]? with
   | none=>rw [q] at e2; cases e2
   | some j =>
    rw [q] at e1 e2;simp only [Option.map_some,Option.some.injEq] at e1 e2 ⊢
    cases q2:ρ[j]? with
    | none=>rw [q2] at e2; cases e2
    | some o =>
     rw [q2] at e2;have e2':o=some d:=e2;subst e2';obtain ⟨m0,v,h1,h2,h3⟩:=s.get q2;rw [h1] at e1;refine ⟨v,by rw [h2]; rfl,?_⟩
     cases m0 with
     | v=>dsimp only at e1; subst e1; exact h3
     | s =>
      dsimp only at e1; subst e1
      rcases h3 with h3 | ⟨a,xs,ds,e1,e2,e3,e4,e5,e6⟩
      ·exact .inl h3
      ·exact .inr ⟨a,xs,ds,e1,e2,e3,e4,(show H a≠none by rw [e3]; exact fun z=>nomatch z),e6⟩
     | o =>
      dsimp only at e1; subst e1
      rcases h3 with ⟨_,h3⟩ | ⟨a,xs,ds,e1,e2,e3,e0,e4,e5,e6⟩
      ·exact .inl h3
      ·exact .inr ⟨a,xs,ds,e1,e2,e3,e4,(show H a≠none by rw [e3]; exact fun z=>nomatch z),e6⟩
 ·exfalso
  unfold cMd at h1
  by_cases hi:i < own.length
  ·rw [zy (by simpa using hi),List.getElem?_replicate_of_lt hi] at h1;cases h1
  ·have hi':own.length≤i:=Nat.le_of_not_lt hi;rw [zE (by simpa using hi'),List.length_replicate,zG] at h1
   cases q:cap[i - own.length]? with
   | none=>rw [q] at h1; cases h1
   | some j =>
    rw [q] at h1;simp only [Option.map_some,Option.some.injEq] at h1
    split at h1 <;> cases h1
end
section
variable {X:Cx}{md:List Md}{P:Pt}{R:RR}
def xM (K:Frag) (mg:Str→Option Value) (md:List Md) (R:RR) (m:M D):TE:=fun σ H Q=>∃P,tM K mg md P R m σ H Q
def xMT (K:Frag) (mg:Str→Option Value) (md:List Md) (m:M Bool):TT:=fun σ H Q=>∃P,tMT K mg md P m σ H Q
def xMG (K:Frag) (mg:Str→Option Value) (md:List Md) (g:MG):TG:=fun v σ H Q=>∃P,tMG K mg md P g v σ H Q
theorem xm {e:Expr}{m:M D} (h:∀P,PE X e (tM X.K X.mg md P R m)):PE X e (xM X.K X.mg md R m):=fun pins s σ H Q I ⟨P,q⟩=>h P pins s σ H Q I q
theorem xmg {e:Expr}{g:MG} (h:∀P,VG X md P e g):PG X e (xMG X.K X.mg md g):=fun pins s σ H v u Q I r ⟨P,q⟩=>h P pins s σ H v u Q I r q
theorem xmt {e:List Expr}{m:M Bool} (h:∀P,QhT X e (tMT X.K X.mg md P m)):QhT X e (xMT X.K X.mg md m):=fun pins s σ H Q I ⟨P,q⟩=>h P pins s σ H Q I q
def VIf (X:Cx) (md:List Md) (P:Pt) (e:List Expr) (m:M Bool):Prop:=QhT X e (tMT X.K X.mg md P m)
theorem QdW:VIf X md P [] QbL:=fun pins s σ H Q I q=>by
 obtain ⟨ρ,O,F,as,d,O',r,s,e,k⟩:=q;cases e;exact QqG pins _ σ H Q I (k H F as Gr.refl r)
theorem QrE {c:Expr}{m:M Bool} (h:TsE X md P c m):VIf X md P [c] m:=Qqn h
theorem Qmg {K:Frag}{mg:Str→Option Value}{m:M (List D)}{own:List Str}{cap:List Nat}{g:MG}{t:M Bool}{e:M D} (hcap:∀j∈cap,j < md.length) {σ:St}{H:Hp}{Q:VK} (q:tM K mg md P (rO K) (QbC m own.length cap g t e) σ H Q) :
  Qnb (QtZ K mg md P m) own cap (xMG K mg (cMd own.length cap md) g) (xMT K mg (cMd own.length cap md) t) (xM K mg (cMd own.length cap md) (rV K) e) σ H Q:=by
 obtain ⟨ρ,O,F,as,d,OZ,r,s,eq,k⟩:=q;obtain ⟨ds,O1,e1,eq⟩:=Res.bind_ok eq;split at eq
 ·rename_i hz;obtain ⟨yf,O2,e2,eq⟩:=Res.bind_ok eq;cases eq;refine ⟨ρ,_,F,as,_,_,r,s,e1,fun J H1 F1 as1 g1 r1 hJ=>?_⟩;have sb:=QmW (own:=own) (s.step g1) hcap
  refine ⟨fun i n ys σ' H'=>n=ds.length - i∧i≤ds.length∧∃ρ' O' F' as' acc,Gr H1 F1 as1 H' F' as'∧RlO K mg O' H' F' as'∧SlO K (cMd own.length cap md) (Pt.all H1) ρ' σ' H' F' as'∧Rps K F' as' ys acc∧acc.length≤i ∧
   Qb7 g t e (ds.drop i) ρ' O' acc = .ok yf OZ,⟨ds.length,by simp,Nat.zero_le _,QdQ own.length cap ρ,O1,F1,as1,[],Gr.refl,r1,sb,Rps.nil,ze _,by rw [List.drop_zero]; exact e2⟩,?_⟩
  rintro i n ys σ' H' ⟨rfl,hi,ρ',O',F',as',acc,g',r',s',hy,hl,ec⟩
  by_cases hlt:i < ds.length
  ·obtain ⟨go,yl⟩:=hJ.turn i _ H' F' as' g' ⟨O',r'⟩ (zx hlt)
   refine .inr ⟨go,?_,fun ys σ2 H2=>∃ρ2 O3 F2 as2 acc2,Gr H1 F1 as1 H2 F2 as2∧RlO K mg O3 H2 F2 as2∧SlO K (cMd own.length cap md) (Pt.all H1) ρ2 σ2 H2 F2 as2∧Rps K F2 as2 ys acc2∧acc2.length≤i+1 ∧
    Qb7 g t e (ds.drop (i+1)) ρ2 O3 acc2 = .ok yf OZ,fun ys2 σ2 H2 h2=>⟨ds.length - (i+1),by omega,rfl,hlt,h2⟩,fun x H3 y=>?_⟩
   ·rw [hy.length]
    have:=Qee hz
    omega
   obtain ⟨F3,g3,r3,hx⟩:=yl x H3 y;have r3':=r3 O' r';have g13:=g'.trans g3;rw [List.drop_eq_getElem_cons hlt] at ec;unfold Qb7 at ec
   cases eg:g ds[i] ρ' with
   | none=>rw [eg] at ec; cases ec
   | some ρ1 =>
    rw [eg] at ec;dsimp only at ec;refine ⟨_,ρ',O',F3,as',ds[i],ρ1,r3',s'.step g3,hx,eg,fun σ4 s4=>?_⟩
    cases et:t ρ1 O' with
    | ex _ _=>rw [et] at ec; cases ec
    | no=>rw [et] at ec; cases ec
    | ok c O4 =>
     rw [et] at ec;refine ⟨_,ρ1,O',F3,as',c,O4,r3',s4,et,fun H5 F5 as5 g5 r5=>?_⟩
     cases c with
     | false =>
      rw [if_neg zj];exact ⟨ρ1,O4,F5,as5,acc,g13.trans g5,r5,s4.step g5,(hy.gr g3).gr g5,by omega,ec⟩
     | true =>
      rw [if_pos rfl];dsimp only at ec
      cases em:e ρ1 O4 with
      | ex _ _=>rw [em] at ec; cases ec
      | no=>rw [em] at ec; cases ec
      | ok yd O6 =>
       rw [em] at ec;refine ⟨_,ρ1,O4,F5,as5,yd,O6,r5,s4.step g5,em,fun vy H7 F7 as7 g7 r7 hvy=>?_⟩;exact ⟨ρ1,O6,F7,as7,acc ++ [yd],(g13.trans g5).trans g7,r7,(s4.step g5).step g7,(((hy.gr g3).gr g5).gr g7).snoc hvy,by rw [zF]; show acc.length+1≤i+1; omega,ec⟩
  ·have hi':i=ds.length:=by omega
   subst hi';rw [List.drop_length] at ec;cases ec;refine .inl ⟨hJ.stop H' F' as' g' ⟨_,r'⟩,?_,fun p hp=>?_⟩
   ·rw [hy.length];exact zB hl (Qee hz)
   ·have hF:F' p=none:=by
     cases q:F' p with
     | none=>rfl
     | some o=>rw [r'.fh p o q] at hp; cases hp
    exact k _ _ F' as' ((g1.trans g').trans (Gr.lay hp)) (r'.lay hp) (.inr ⟨p,ys,yf,rfl,rfl,Qay,hF,fun z=>r'.all z hp,(g1.trans g').dm p hp,hy⟩)
 ·cases eq
variable {tg iter elt:Expr}{ifs:List Expr}{scope:Scope}{pos:Pos}{mi:M (List D)}{g:MG}{t:M Bool}{e:M D}
theorem QdX (sc0:Scope) (N0 own:List Str) (cap:List Nat) (hc:X.calm=true) (hi:VIc X md P tg iter mi)
  (hg:∀C s H ex P,VG (Qa6 X scope C (Qa0 N0 own cap) s H ex) (cMd own.length cap md) P tg g) (ht:∀C s H ex P,VIf (Qa6 X scope C (Qa0 N0 own cap) s H ex) (cMd own.length cap md) P ifs t)
  (he:∀C s H ex P,VE (Qa6 X scope C (Qa0 N0 own cap) s H ex) (cMd own.length cap md) P elt e)
  (hcap:∀j∈cap,j < md.length:=by decide) (hsc:X.env.scope=sc0:=by rfl) (hN0:X.N=N0:=by rfl) (ok:Qgy sc0 N0 scope own cap=true:=by decide +kernel) (hs:∀x,foldedSetIterable iter X.env x=pure x:=by intro _; rfl) :
  OE X md P (.ListComp elt [⟨tg,iter,ifs,0⟩] scope pos) (QbC mi own.length cap g t e) :=
 (Qsn sc0 N0 own cap hc hi (fun C s H ex=>xmg (hg C s H ex)) (fun C s H ex=>xmt (ht C s H ex)) (fun C s H ex=>xm (he C s H ex)) hsc hN0 ok hs).imp fun _ _ _ q=>Qmg hcap q
theorem QpX {i:Nat}{x:Str}{pos' spos:Pos} (sc0:Scope) (N0 own:List Str) (cap:List Nat) (hN:X.N.Nodup) (hx:X.N[i]? = some x) (hl:Loc X.env.scope x) (hc:X.calm=true) (hi:VIc X md P tg iter mi)
  (hg:∀C s H ex P,VG (Qa6 X scope C (Qa0 N0 own cap) s H ex) (cMd own.length cap md) P tg g) (ht:∀C s H ex P,VIf (Qa6 X scope C (Qa0 N0 own cap) s H ex) (cMd own.length cap md) P ifs t)
  (he:∀C s H ex P,VE (Qa6 X scope C (Qa0 N0 own cap) s H ex) (cMd own.length cap md) P elt e)
  (hm:md[i]? = some .v:=by rfl) (hcap:∀j∈cap,j < md.length:=by decide) (hsw:swapsWith (.ListComp elt [⟨tg,iter,ifs,0⟩] scope pos) (some (.Name x pos')) spos.line X.env=pure true:=by rfl)
  (hf:X.fn x=true∨X.env.scope.names.lookup x=some .local:=by first | exact .inl rfl | exact .inr rfl | assumption)
  (hsc:X.env.scope=sc0:=by rfl) (hN0:X.N=N0:=by rfl) (ok:Qgy sc0 N0 scope own cap=true:=by decide +kernel) (hs:∀x,foldedSetIterable iter X.env x=pure x:=by intro _; rfl) :
  VS X md P R (.Assign [.Name x pos'] (.ListComp elt [⟨tg,iter,ifs,0⟩] scope pos) spos) (Qar i (QbC mi own.length cap g t e)) :=
 (QsD (i:=i) sc0 N0 own cap hN hx hl hc hi (fun C s H ex=>xmg (hg C s H ex)) (fun C s H ex=>xmt (ht C s H ex)) (fun C s H ex=>xm (he C s H ex)) hsw hf hsc hN0 ok hs).imp fun D σ H q =>
  QmJ hm (fun σ H Q z=>Qmg hcap (by
   obtain ⟨ρ,O,F,as,d,O',r,s,e,k⟩:=z;refine ⟨ρ,_,F,as,_,_,r,s,e,fun v H' F' as' g r' hv=>?_⟩
   rcases hv with ⟨_,hv⟩ | ⟨a,xs,ds,rfl,rfl,e3,e4,e5,e6,e7⟩
   ·exact k v H' F' as' g r' hv
   ·have ff:Same F' (upd F' a (.lst xs)):=fun b u q=>by rw [Qah (Qaw q e4)]; exact q
    exact k _ H' (upd F' a (.lst xs)) as' (g.frz e6 e4) (r'.frz e3 e4 e5 rfl) (Rp.mkL (.inl (.inl Qay)) (Rps.mono ff (fun _ _ z=>z) _ e7)))) q
end
def vSp (K:Frag) (mg:Str→Option Value) (pm:List Md) (R:RR) (c:List D→Qac→Res D):Sp:=fun vs H Q _ =>
 ∃ds O F as d O',RlO K mg O H F as∧Qbw K H F as pm vs ds∧c ds O = .ok d O'∧∀v H' F' as',Gr H F as H' F' as'→RlO K mg O' H' F' as'→R (fun a=>H a=none) H' F' as' v d→Q v H'
def Qbn (n:Nat) (b:MS):List D→Qac→Res D:=fun ds O=>match b (ds.map some++List.replicate (n - ds.length) none) O with
 | .rt d O'=>.ok d O'
 | .nx _ O'=>.ok .non O'
 | .ex x O'=>.ex x O'
 | _=>.no
theorem Qbw.len {K:Frag}{H F:Hp}{as:List Addr}:∀{ms:List Md}{vs:List V}{ds:List D},Qbw K H F as ms vs ds→vs.length=ms.length∧ds.length=ms.length
 | [],[],[],_=>⟨rfl,rfl⟩
 | m::ms,v::vs,d::ds,h=>by
  have:=Qbw.len h.2
  simp [this.1,this.2]
 | [],[],_::_,h=>h.elim
 | [],_::_,[],h=>h.elim
 | [],_::_,_::_,h=>h.elim
 | _::_,[],[],h=>h.elim
 | _::_,[],_::_,h=>h.elim
 | _::_,_::_,[],h=>h.elim
theorem Qbw.get {K:Frag}{H F:Hp}{as:List Addr}:∀{ms:List Md}{vs:List V}{ds:List D}{i:Nat}{m:Md}{d:D},Qbw K H F as ms vs ds→ms[i]? = some m→ds[i]? = some d→∃v,vs[i]? = some v∧rA K m (fun _=>True) H F as v d
 | m::ms,v::vs,d::ds,0,m',d',h,e1,e2=>by
  simp at e1 e2
  subst e1 e2;exact ⟨v,rfl,h.1⟩
 | m::ms,v::vs,d::ds,i+1,m',d',h,e1,e2=>by
  obtain ⟨v',h1,h2⟩:=Qbw.get (i:=i) (m:=m') (d:=d') h.2 (by simpa using e1) (by simpa using e2);exact ⟨v',by simpa using h1,h2⟩
 | [],[],[],_,_,_,_,e1,_=>by simp at e1
 | [],[],_::_,_,_,_,h,_,_=>h.elim
 | [],_::_,[],_,_,_,h,_,_=>h.elim
 | [],_::_,_::_,_,_,_,h,_,_=>h.elim
 | _::_,[],[],_,_,_,h,_,_=>h.elim
 | _::_,[],_::_,_,_,_,h,_,_=>h.elim
 | _::_,_::_,[],_,_,_,h,_,_=>h.elim
theorem Qgi {K:Frag}{H F:Hp}{as:List Addr}{N:List Str}{pm lm:List Md}{vs:List V}{ds:List D} (h:Qbw K H F as pm vs ds) (hl:(pm++lm).length=N.length) (hp:∀m∈pm,m≠.o) :
  SlO K (pm++lm) (Pt.all H) (ds.map some++List.replicate (N.length - ds.length) none) (start N vs) H F as:=by
 obtain ⟨h1,h2⟩:=h.len;rw [zF] at hl
 have vsl:vs.length≤N.length:=by omega
 have no:∀i a,(ds.map some++List.replicate (N.length - ds.length) none)[i]? = some (some a)→i < ds.length:=fun i a e=>by
  by_cases hi:i < ds.length
  ·exact hi
  ·rw [zE (by simpa using hi),List.getElem?_replicate] at e
   split at e <;> cases e
 refine ⟨by unfold start; simp; omega,by simp; omega,fun a z=>z,fun i m d e1 e2=>?_,fun i j a es fs e1 e2 e3=>?_,fun _ z=>nomatch z⟩
 ·have hi:=no i d e2;rw [zy (by simpa using hi),zG] at e2;rw [zy (by omega)] at e1
  cases q:ds[i]? with
  | none=>rw [q] at e2; cases e2
  | some d' =>
   rw [q] at e2;cases e2;obtain ⟨v,h3,h4⟩:=h.get e1 q;refine ⟨v,?_,?_⟩
   ·unfold start;rw [zy (by simp; omega),zG,h3];rfl
   ·cases m with
    | v=>exact h4
    | s =>
     rcases h4 with h4 | ⟨a,xs,es,z1,z2,z3,z4,z5⟩
     ·exact .inl h4
     ·exact .inr ⟨a,xs,es,z1,z2,z3,z4,(show H a≠none by rw [z3]; exact fun z=>nomatch z),z5⟩
    | o=>exact absurd rfl (hp .o (zR e1))
 ·have hi:=no i _ e3;rw [zy (by omega)] at e1;exact absurd rfl (hp .o (zR e1))
section
variable {Pr:Program}{w:World}{K:Frag}{mg:Str→Option Value}{base:Heap}
theorem Qc3 {x:Str}{st:Stmt}{N ps:List Str}{k:Nat} (Df:Def K mg x st) (S:QaI N ps (Qaj st))
  (hb:∀(kV doc pm:Value) (an:Option Addr) (cdv ct:Value) (us:List Value),us.length=ps.length→bindArgs (PySem.W.fnOf x x (QbD st) (QaX st) (Qaj st) .none kV doc pm an cdv ct) ⟨us,[]⟩=pure (ps.zip us))
  (pm lm:List Md) {R:RR}{b:MS} (hR:QcQ R) (hR0:∀N H F as,R N H F as .non .non) (hpl:pm.length=ps.length:=by rfl) (hl:(pm++lm).length=N.length:=by rfl) (hp:∀m∈pm,m≠.o:=by decide)
  (body:∀(f:Addr) (cdv:Value) (A:Around) (outer:List Env) (s:Shared) (H:Hp) (E:XK),QaG k (A.deeper (envOfC x (Qaj st) s.heap.objs.size f cdv))→∀P,VSs ((Qcy CX0 Pr w K mg base N x (Qaj st) f cdv A outer s H E).nox) (pm++lm) P R (QaX st) b) :
  Can Pr w K mg base x ps (k+1) (vSp K mg pm R (Qbn N.length b)):=by
 refine Df.can (k:=k) S hb (fun vs H Q E h=>?_) (fun f cdv A outer s H vs Q E hr h=>?_)
 ·obtain ⟨ds,O,F,as,d,O',r,a,_⟩:=h;rw [a.len.1,hpl]
 ·obtain ⟨ds,O,F,as,d,O',r,a,e,q⟩:=h;refine ⟨_,body f cdv A outer s H E hr (Pt.all H),?_⟩;refine ⟨_,O,F,as,r,Qgi a hl hp,?_⟩;unfold Qbn at e
  cases eb:b (ds.map some++List.replicate (N.length - ds.length) none) O with
  | rt d' O2 =>
   rw [eb] at e;cases e
   exact fun v H' F' as' g r' hv=>q v H' F' as' g.gr r' (hR _ _ _ _ _ _ _ (fun c hc=>Classical.not_not.mp hc) hv)
  | nx ρ O2 =>
   rw [eb] at e;cases e
   exact fun σ' H' F' as' g r' _=>q _ H' F' as' g.gr r' (hR0 _ _ _ _)
  | bk _ _=>rw [eb] at e; cases e
  | ct _ _=>rw [eb] at e; cases e
  | ex _ _=>rw [eb] at e; cases e
  | no=>rw [eb] at e; cases e
end
section
variable {X:Cx}{md:List Md}{P:Pt}{R:RR}{k:Nat}{x:Str}{ps:List Str}{p pos:Pos}{e:Expr}{es:List Expr}{pm:List Md}{c:List D→Qac→Res D}{ma:M (List D)}
def Qaq (c:List D→Qac→Res D) (ma:M (List D)):M D:=fun ρ O=>(ma ρ O).bind fun ds O1=>c ds O1
theorem Qru {K:Frag}{mg:Str→Option Value} (hR:QcQ R) {E:XK}{σ:St}{H:Hp}{Q:VK} (q:tM K mg md P R (Qaq c ma) σ H Q):QkG (vSp K mg pm R c) [] E (tMA K mg md P pm ma) σ H Q:=by
 obtain ⟨ρ,O,F,as,d,O',r,s,e,k⟩:=q;obtain ⟨ds,O1,e1,e⟩:=Res.bind_ok e;refine ⟨ρ,_,F,as,_,_,r,s,e1,fun vs H1 F1 as1 g1 r1 hv=>?_⟩;dsimp only;rw [zP];exact ⟨ds,O1,F1,as1,d,O',r1,hv,e,fun v H' F' as' g' r' hw=>k v H' F' as' (g1.trans g') r' (hR _ _ _ _ _ _ _ (fun a ha=>g1.dm a ha) hw)⟩
theorem QmQ (hR:QcQ R) (C:Can X.prog X.w X.K X.mg X.base x ps k (vSp X.K X.mg pm R c)) (hr:QaG k X.A) (ha:AE X md P pm (e::es) ma) (hg:Gl X x:=by rfl) (hdb:(x == ("__debug__":Str))=false:=by decide)
  (he:starEach (e::es) X.env=(false,eval e X.env)::starEach es X.env:=by exact Qbm rfl) (hpl:(backTo pos (starEach es X.env)).any (·.1)=false:=by exact Qbu rfl):PE X (.Call (.Name x p) (e::es) [] pos) (tM X.K X.mg md P R (Qaq c ma)) :=
 (Qtn C hr ha hg hdb he hpl).imp fun _ _ _ q=>Qru hR q
end
section
variable {K:Frag}{mg:Str→Option Value}{H F:Hp}{as:List Addr}{O:Qac}{Q:VK}{d:D}{p:Addr}{xs:List V}{ds:List D}
theorem QaZ {v:V} (r:RlO K mg O H F as) (k:∀v' H' F',Gr H F as H' F' as→RlO K mg O H' F' as→Ow K (fun a=>H a=none) H' F' as v' d→Q v' H') (hn:Qes d=true) (hv:Rp K F as v d):Q v H:=k v H F Gr.refl r (.inl ⟨hn,hv⟩)
theorem RlO.frF (r:RlO K mg O H F as) (hp:H p=none):F p=none:=by
 cases q:F p with
 | none=>rfl
 | some o=>rw [r.fh p o q] at hp; cases hp
theorem Qh8 (r:RlO K mg O H F as) (k:∀v' H' F',Gr H F as H' F' as→RlO K mg O H' F' as→Ow K (fun a=>H a=none) H' F' as v' (.lst ds)→Q v' H') (hp:H p=none) (hs:Rps K F as xs ds):Q (.ref p) (upd H p (.lst xs)) :=
 k _ _ F (Gr.lay hp) (r.lay hp) (.inr ⟨p,xs,ds,rfl,rfl,Qay,r.frF hp,fun z=>r.all z hp,hp,hs⟩)
theorem QqV (r:RlO K mg O H F as) (k:∀v' H' F',Gr H F as H' F' as→RlO K mg O H' F' as→Ow K (fun a=>H a=none) H' F' as v' (.tup ds)→Q v' H') (hp:H p=none) (hs:Rps K F as xs ds):Q (.ref p) (upd H p (.tup xs)):=by
 have hF:=r.frF hp
 have ff:Same F (upd F p (.tup xs)):=fun b u q=>by rw [Qah (Qaw q hF)]; exact q
 exact k _ _ (upd F p (.tup xs)) ((Gr.lay hp).frz hp hF) ((r.lay hp).frz Qay hF (fun z=>r.all z hp) rfl) (.inl ⟨rfl,Rp.mkT (.inl Qay) (Rps.mono ff (fun _ _ z=>z) _ hs)⟩)
end
section
variable {X:Cx}
def QvS (K:Frag):R2:=fun x y H Q=>∃l b xs zs,x = .ref l∧y = .ref b∧RdK K H l xs∧RdK K H b zs∧xs.length+zs.length≤sizeLine∧∀p,H p=none→Q (.ref p) (upd H p (.lst (xs++zs)))
theorem QrN:OpR X (binaryOp .Add) (QvS X.K):=by
 intro pins s σ H x y v u Q I rx ry h;obtain ⟨l,b,xs,zs,rfl,rfl,hH,hB,hz,q⟩:=h;cases rx;cases ry;obtain ⟨z,its,n,r,e⟩:=hH.ok I;obtain ⟨z2,its2,n2,r2,e2⟩:=hB.ok I;have hl:=r.length;have hl2:=r2.length;refine PySem.P.add_list e e2 ?_ (by rw [zu,zu]; omega)
 have ea:its.toArray++its2.toArray=(its++its2).toArray:=by simp
 rw [ea];exact ⟨.ref _,_,I.lnew (t':=s.toks) (r.append r2) (by rw [zF]; omega),rfl,q _ I.fresh⟩
def QvV (K:Frag):R2:=fun x y H Q=>∃l k xs,x = .ref l∧y = .int k∧RdK K H l xs∧-(2 ^ 63)≤k∧k < 2 ^ 63∧xs.length * k.toNat≤sizeLine ∧
 ∀p,H p=none→Q (.ref p) (upd H p (.lst (List.replicate k.toNat xs).flatten))
theorem Qry:OpR X (binaryOp .Mult) (QvV X.K):=by
 intro pins s σ H x y v u Q I rx ry h;obtain ⟨l,k,xs,rfl,rfl,hH,h1,h2,hz,q⟩:=h;cases rx;obtain ⟨t,rfl⟩:=ry;obtain ⟨z,its,n,r,e⟩:=hH.ok I;have hl:=r.length
 have hlen:its.toArray.size * k.toNat≤sizeLine:=by rw [zu,←hl]; exact hz
 have hcap:¬its.toArray.size * k.toNat > (2 ^ 63 - 1) / 8:=by
  have:(sizeLine:Nat)≤(2 ^ 63 - 1) / 8:=by decide
  omega
 have hfit:¬(!Builtin.List.listFitsIndex k)=true:=by
  rw [fitsIndex_both h1 h2];exact zj
 have hlong:¬Builtin.List.listTooLong (its.toArray.size * k.toNat)=true:=by
  rw [QiI hlen];exact zj
 have hnew:List.foldl (fun x1 x2=>x1++x2) #[] (List.replicate (if its.toArray.isEmpty=true then 0 else k.toNat) its.toArray)=(List.replicate k.toNat its).flatten.toArray:=by
  have f0:∀m:Nat,List.foldl (fun x1 x2=>x1++x2) #[] (List.replicate m its.toArray)=(List.replicate m its).flatten.toArray:=fun m=>by
   have:=foldl_rep its m []
   rw [zX] at this;exact this
  rw [f0]
  cases its with
  | nil=>simp
  | cons a r'=>rw [if_neg (by simp)]
 refine wpAny_binaryOp_repeat_ref (T:="list") (U:="int") (by decide) ⟨_,e,rfl⟩ (fun s'=>typeIs_int s' k t) noFill_list_mul F.fills_int_mul F.slot_int_rmul repeat_list F.slot_int_index.lookup
  (call_meets F.slot_int_rmul (typeIs_int s k t) F.entry_int_rmul (F.args_int_rmul_2 _ _) (int___rmul___int_list k t l its.toArray n)
   ⟨e,rfl,⟨_,e,rfl⟩,call_meets F.slot_list_mul ⟨_,e,rfl⟩ F.entry_list_mul (F.args_list_mul_2 _ _) (AutoListH.list___mul___list_int_3 l its.toArray n k t hfit hcap hlong) ⟨e,?_⟩⟩)
 rw [hnew];exact ⟨.ref _,_,I.lnew (t':=s.toks) (r.rep k.toNat) (by rw [len_rep,Nat.mul_comm]; exact hz),rfl,q _ I.fresh⟩
def Qav:D→D→Option D
 | .int i,.int j=>some (.int (i+j))
 | .int i,.bl k=>some (.int (i+b2i k))
 | .str a,.str b=>if a.length+b.length≤1000000 then some (.str (a++b)) else none
 | .lst a,.lst b=>if a.length+b.length≤1000000 then some (.lst (a++b)) else none
 | .tup a,.tup b=>if a.length+b.length≤1000000∧a≠[] then some (.tup (a++b)) else none
 | _,_=>none
instance (a:List D):Decidable (a≠[]):=match a with
 | []=>isFalse fun h=>h rfl
 | _::_=>isTrue fun h=>nomatch h
theorem QaY:OpD X (binaryOp .Add) Qav:=by
 intro pins s σ H x y v u Q I rx ry h;obtain ⟨O,F,as,dx,dy,d,r,hx,hy,e,k⟩:=h
 cases dx with
 | int i =>
  cases (hx.rp rfl).unI
  cases dy with
  | int j =>
   cases (hy.rp rfl).unI;cases e;exact Quc pins s σ H _ _ v u Q I rx ry ⟨i,j,rfl,rfl,QaZ r k rfl Rp.int⟩
  | bl j =>
   cases (hy.rp rfl).unB;cases e;exact QoQ pins s σ H _ _ v u Q I rx ry ⟨i,j,rfl,rfl,QaZ r k rfl Rp.int⟩
  | _=>cases e
 | str a =>
  cases (hx.rp rfl).unS
  cases dy with
  | str b =>
   cases (hy.rp rfl).unS;simp only [Qav] at e;split at e
   ·rename_i hz;cases e;refine Qnk pins s σ H _ _ v u Q I rx ry ⟨S a,S b,rfl,rfl,by rw [QbS,QbS]; exact Qee hz,?_⟩;rw [QpC];exact QaZ r k rfl Rp.str
   ·cases e
  | _=>cases e
 | lst a =>
  obtain ⟨p,xs,rfl,h1,h2⟩:=hx.list r.fh
  cases dy with
  | lst b =>
   obtain ⟨p',ys,rfl,h3,h4⟩:=hy.list r.fh;simp only [Qav] at e;split at e
   ·rename_i hz;cases e;exact QrN pins s σ H _ _ v u Q I rx ry ⟨p,p',xs,ys,rfl,rfl,h1,h3,by rw [h2.length,h4.length]; exact Qee hz,fun q hq=>Qh8 r k hq (Rps.append h4 h2)⟩
   ·cases e
  | _=>cases e
 | tup a =>
  obtain ⟨p,xs,rfl,h1,h2⟩:=(hx.rp rfl).unT
  cases dy with
  | tup b =>
   obtain ⟨p',ys,rfl,h3,h4⟩:=(hy.rp rfl).unT;simp only [Qav] at e;split at e
   ·rename_i hz;cases e
    have hxs:xs≠[]:=fun z=>hz.2 (List.eq_nil_of_length_eq_zero (by rw [←h2.length,z]; rfl))
    refine QrQ pins s σ H _ _ v u Q I rx ry ⟨p,p',xs,ys,rfl,rfl,Same.seqT r.fh h1,Same.seqT r.fh h3,hxs,by rw [h2.length,h4.length]; exact Qee hz.1,fun z=>?_,fun _ q hq=>QqV r k hq (Rps.append h4 h2)⟩;have hb:b = []:=List.eq_nil_of_length_eq_zero (by rw [←h4.length,z]; rfl);subst hb;rw [zP] at k;exact QaZ r k rfl (hx.rp rfl)
   ·cases e
  | _=>cases e
 | _=>cases e
def gI (C:Int→Int→Bool) (f:Int→Int→Int):D→D→Option D
 | .int i,.int j=>if C i j=true then some (.int (f i j)) else none
 | _,_=>none
theorem QpG {f:Value→Value→Sem Value}{Cp:Int→Int→Prop}{g:Int→Int→Int}{C:Int→Int→Bool} (h:OpR X f (rI Cp fun i j=>.int (g i j))) (hc:∀i j,C i j=true→Cp i j):OpD X f (gI C g):=by
 intro pins s σ H x y v u Q I rx ry h';obtain ⟨O,F,as,dx,dy,d,r,hx,hy,e,k⟩:=h'
 cases dx with
 | int i =>
  cases (hx.rp rfl).unI
  cases dy with
  | int j =>
   cases (hy.rp rfl).unI;simp only [gI] at e;split at e
   ·rename_i hC;cases e;exact h pins s σ H _ _ v u Q I rx ry ⟨i,j,rfl,rfl,hc i j hC,QaZ r k rfl Rp.int⟩
   ·cases e
  | _=>cases e
 | _=>cases e
def Qdx:D→D→Option D:=gI (fun _ _=>true) fun i j=>i - j
theorem Qi5:OpD X (binaryOp .Sub) Qdx:=by
 intro pins s σ H x y v u Q I rx ry h';obtain ⟨O,F,as,dx,dy,d,r,hx,hy,e,k⟩:=h'
 cases dx with
 | int i =>
  cases (hx.rp rfl).unI
  cases dy with
  | int j =>
   cases (hy.rp rfl).unI;cases e;exact Qux pins s σ H _ _ v u Q I rx ry ⟨i,j,rfl,rfl,QaZ r k rfl Rp.int⟩
  | _=>cases e
 | _=>cases e
def QfB (i:Int):Bool:=decide (-(2 ^ 64) < i)&&decide (i < 2 ^ 64)
theorem Qgf {i:Int} (h:QfB i=true):-(2 ^ 64) < i∧i < 2 ^ 64:=by
 unfold QfB at h;rw [zk,decide_eq_true_eq,decide_eq_true_eq] at h;exact h
def Qbz:D→D→Option D
 | .int i,.int j=>if (QfB i || QfB j)=true then some (.int (i * j)) else none
 | .str l,.int n=>if -1000000 < n∧n < 1000000∧l.length * n.toNat≤16777216 then some (.str (List.replicate n.toNat l).flatten) else none
 | .lst l,.int n=>if -1000000 < n∧n < 1000000∧l.length * n.toNat≤1000000 then some (.lst (List.replicate n.toNat l).flatten) else none
 | _,_=>none
theorem Qef:OpD X (binaryOp .Mult) Qbz:=by
 intro pins s σ H x y v u Q I rx ry h;obtain ⟨O,F,as,dx,dy,d,r,hx,hy,e,k⟩:=h
 cases dx with
 | int i =>
  cases (hx.rp rfl).unI
  cases dy with
  | int j =>
   cases (hy.rp rfl).unI;simp only [Qbz] at e;split at e
   ·rename_i hz;cases e;refine Qua pins s σ H _ _ v u Q I rx ry ⟨i,j,rfl,rfl,?_,QaZ r k rfl Rp.int⟩;rw [Bool.or_eq_true] at hz
    rcases hz with z | z
    ·exact .inl (Qgf z)
    ·exact .inr (Qgf z)
   ·cases e
  | _=>cases e
 | str l =>
  cases (hx.rp rfl).unS
  cases dy with
  | int n =>
   cases (hy.rp rfl).unI;simp only [Qbz] at e;split at e
   ·rename_i hz;cases e;exact Qnn pins s σ H _ _ v u Q I rx ry ⟨l,n,rfl,rfl,hz.1,hz.2.1,hz.2.2,QaZ r k rfl Rp.str⟩
   ·cases e
  | _=>cases e
 | lst l =>
  obtain ⟨p,xs,rfl,h1,h2⟩:=hx.list r.fh
  cases dy with
  | int n =>
   cases (hy.rp rfl).unI;simp only [Qbz] at e;split at e
   ·rename_i hz;cases e;exact Qry pins s σ H _ _ v u Q I rx ry ⟨p,n,xs,rfl,rfl,h1,by omega,by omega,by rw [h2.length]; exact Qee hz.2.2,fun q hq=>Qh8 r k hq (h2.rep _)⟩
   ·cases e
  | _=>cases e
 | _=>cases e
def QaU:D→D→Option D:=gI (fun _ j=>decide (0 < j)) fun i j=>i % j
theorem QbE:OpD X (binaryOp .Mod) QaU:=QpG QtF fun _ _ h=>jh h
def Qcj:D→D→Option D:=gI (fun _ j=>decide (0 < j)&&decide (j < 1073741824)) fun i j=>i / j
theorem QgB:OpD X (binaryOp .FloorDiv) Qcj:=QpG Qrh fun i j h=>by
 rw [zk,decide_eq_true_eq,decide_eq_true_eq] at h;exact h
def Qer:D→D→Option D:=gI (fun i j=>decide (0≤j)&&(decide (j≤1000000)&&QfB i)) fun i j=>i ^ j.toNat
theorem Qi3:OpD X (binaryOp .Pow) Qer:=QpG QtC fun i j h=>by
 rw [zk,zk,decide_eq_true_eq,decide_eq_true_eq] at h
 have:=Qgf h.2.2
 exact ⟨h.1,h.2.1,by omega⟩
def mUn (g:D→Option D) (m:M D):M D:=fun ρ O=>(m ρ O).bind fun d O1=>match g (QaN O1 d) with
 | some y=>.ok y O1
 | none=>.no
def QpW:D→Option D
 | .int i=>some (.int (-i))
 | _=>none
theorem Quh {md:List Md}{P:Pt}{a:Expr}{pos:Pos}{m:M D} (h:SE X md P a m):OE X md P (.UnaryOp .USub a pos) (mUn QpW m):=(Qvi Qur h).imp fun σ H Q q=>by
 obtain ⟨ρ,O,F,as,d,O',r,s,e,k⟩:=q;obtain ⟨x,O1,e1,e⟩:=Res.bind_ok e;refine ⟨ρ,_,F,as,_,_,r,s,e1,fun v H1 F1 as1 g1 r1 hv=>?_⟩
 cases ed:QaN O1 x with
 | int i =>
  rw [ed] at e;cases e
  have:=Sv.lk hv r1
  rw [ed] at this;exact ⟨i,(this.rp rfl).unI,k _ H1 F1 as1 g1 r1 (.inl ⟨rfl,Rp.int⟩)⟩
 | _=>rw [ed] at e; cases e
def gCI (f:Int→Int→Bool):D→D→Option D
 | .int i,.int j=>some (.bl (f i j))
 | _,_=>none
theorem Qno {f:Value→Value→Sem Value}{g:Int→Int→Bool} (h:OpR X f (rI0 fun i j=>.bl (g i j))):OpD X f (gCI g):=by
 intro pins s σ H x y v u Q I rx ry h';obtain ⟨O,F,as,dx,dy,d,r,hx,hy,e,k⟩:=h'
 cases dx with
 | int i =>
  cases (hx.rp rfl).unI
  cases dy with
  | int j =>
   cases (hy.rp rfl).unI;cases e;exact h pins s σ H _ _ v u Q I rx ry ⟨i,j,rfl,rfl,QaZ r k rfl Rp.bl⟩
  | _=>cases e
 | _=>cases e
def gLt:D→D→Option D:=gCI fun i j=>decide (i < j)
def gGt:D→D→Option D:=gCI fun i j=>decide (j < i)
def gGe:D→D→Option D:=gCI fun i j=>decide (j≤i)
def gLe:D→D→Option D
 | .int i,.int j=>some (.bl (decide (i≤j)))
 | .str a,.str b=>some (.bl (!decide (b < a)))
 | _,_=>none
theorem QdK:OpD X (compareOp .LtE) gLe:=by
 intro pins s σ H x y v u Q I rx ry h';obtain ⟨O,F,as,dx,dy,d,r,hx,hy,e,k⟩:=h'
 cases dx with
 | int i =>
  cases (hx.rp rfl).unI
  cases dy with
  | int j =>
   cases (hy.rp rfl).unI;cases e;exact QuX pins s σ H _ _ v u Q I rx ry ⟨i,j,rfl,rfl,QaZ r k rfl Rp.bl⟩
  | _=>cases e
 | str a =>
  cases (hx.rp rfl).unS
  cases dy with
  | str b =>
   cases (hy.rp rfl).unS;cases e;refine Qpt pins s σ H _ _ v u Q I rx ry ⟨S a,S b,rfl,rfl,?_⟩;rw [QfY,QfY];exact QaZ r k rfl Rp.bl
  | _=>cases e
 | _=>cases e
theorem QfZ:OpD X (compareOp .Lt) gLt:=Qno QvT
theorem Qvm:OpD X (compareOp .Gt) gGt:=Qno QuT
theorem QiT:OpD X (compareOp .GtE) gGe:=Qno Qvl
mutual
def toP:D→PyData
 | .non=>.none
 | .bl b=>.bool b
 | .int i=>.int i
 | .str l=>.str (S l)
 | .lst ds=>.list (QhP ds)
 | .tup ds=>.tuple (QhP ds)
 | .dic _ _=>.none
 | .ob _=>.none
def QhP:List D→List PyData
 | []=>[]
 | d::ds=>toP d::QhP ds
end
mutual
def QcL:D→Bool
 | .lst ds=>Qew ds
 | .tup ds=>Qew ds
 | .dic _ _=>false
 | .ob _=>false
 | _=>true
def Qew:List D→Bool
 | []=>true
 | d::ds=>QcL d&&Qew ds
end
section
variable {K:Frag}{F:Hp}{as:List Addr}
mutual
theorem Rp.rep:∀(d:D) {v:V},QcL d=true→Rp K F as v d→Rep K F v (toP d)
 | .non,v,_,h=>by rw [toP,Rep]; exact h.unN
 | .bl b,v,_,h=>by rw [toP,Rep]; exact h.unB
 | .int i,v,_,h=>by rw [toP,Rep]; exact h.unI
 | .str x,v,_,h=>by rw [toP,Rep]; exact h.unS
 | .lst ds,v,hp,h=>by
  obtain ⟨a,xs,h1,h2,h3⟩:=h.unL;rw [toP,Rep];rw [QcL] at hp;exact ⟨a,xs,h1,h2.sq,Rps.rep' ds hp h3⟩
 | .tup ds,v,hp,h=>by
  obtain ⟨a,xs,h1,h2,h3⟩:=h.unT;rw [toP,Rep];rw [QcL] at hp;exact ⟨a,xs,h1,h2,Rps.rep' ds hp h3⟩
 | .dic _ _,v,hp,h=>by rw [QcL] at hp; cases hp
 | .ob _,v,hp,h=>by rw [QcL] at hp; cases hp
theorem Rps.rep':∀(ds:List D) {xs:List V},Qew ds=true→Rps K F as xs ds→QaB K F xs (QhP ds)
 | [],xs,_,h=>by rw [h.un0,QhP]; exact QaB.nil
 | d::ds,xs,hp,h=>by
  obtain ⟨x,r,rfl,h2,h3⟩:=h.un;rw [Qew,zk] at hp;rw [QhP];exact QaB.cons (Rp.rep d hp.1 h2) (Rps.rep' ds hp.2 h3)
end
theorem Lk.rep {H:Hp}{d:D}{v:V} (h:Lk K H F as v d) (fh:Same F H) (hp:QcL d=true):Rep K H v (toP d):=by
 rcases h with h | ⟨a,xs,ds,rfl,rfl,h1,h2⟩
 ·exact Rep.mono fh _ (Rp.rep d hp h)
 ·rw [QcL] at hp;rw [toP,Rep];exact ⟨a,xs,rfl,.inl (.inl h1),QaB.mono fh _ (Rps.rep' ds hp h2)⟩
end
def okE (d:D):Bool:=QcL d&&okD (toP d)
def Qgs (a b:D):Bool:=PyData.eqv (toP a) (toP b)
def gEq:D→D→Option D
 | .int i,.int j=>some (.bl (decide (i=j)))
 | .str a,.str b=>some (.bl (decide (a=b)))
 | .bl a,.bl b=>some (.bl (decide (a=b)))
 | a,b=>if (okE a&&okE b)=true then some (.bl (Qgs a b)) else none
def gNe:D→D→Option D
 | .int i,.int j=>some (.bl (!decide (i=j)))
 | .str a,.str b=>some (.bl (!decide (a=b)))
 | .bl a,.bl b=>some (.bl (!decide (a=b)))
 | a,b=>if (okE a&&okE b)=true then some (.bl (!Qgs a b)) else none
theorem QnC (a b:List Nat):decide (V.str (S a)=V.str (S b))=decide (a=b):=by
 by_cases h:a=b
 ·subst h; simp
 ·rw [zn h,zn];intro z;exact h (Qjm (V.str.inj z))
theorem Qng (a b:Int):decide (V.int a=V.int b)=decide (a=b):=by
 by_cases h:a=b
 ·subst h; simp
 ·rw [zn h,zn];intro z;exact h (V.int.inj z)
theorem Qnz (a b:Bool):decide (V.bl a=V.bl b)=decide (a=b):=by
 cases a <;> cases b <;> rfl
theorem Qmw {a b d:D} (h:gEq a b=some d):(∃i j,a = .int i∧b = .int j∧d = .bl (decide (i=j)))∨(∃i j,a = .str i∧b = .str j∧d = .bl (decide (i=j)))∨(∃i j,a = .bl i∧b = .bl j∧d = .bl (decide (i=j))) ∨
  (okE a=true∧okE b=true∧d = .bl (Qgs a b)):=by
 unfold gEq at h;split at h
 ·cases h; exact .inl ⟨_,_,rfl,rfl,rfl⟩
 ·cases h; exact .inr (.inl ⟨_,_,rfl,rfl,rfl⟩)
 ·cases h; exact .inr (.inr (.inl ⟨_,_,rfl,rfl,rfl⟩))
 ·split at h
  ·rename_i hk;rw [zk] at hk;cases h;exact .inr (.inr (.inr ⟨hk.1,hk.2,rfl⟩))
  ·cases h
theorem Qsk {a b d:D} (h:gNe a b=some d):(∃i j,a = .int i∧b = .int j∧d = .bl (!decide (i=j)))∨(∃i j,a = .str i∧b = .str j∧d = .bl (!decide (i=j)))∨(∃i j,a = .bl i∧b = .bl j∧d = .bl (!decide (i=j))) ∨
  (okE a=true∧okE b=true∧d = .bl (!Qgs a b)):=by
 unfold gNe at h;split at h
 ·cases h; exact .inl ⟨_,_,rfl,rfl,rfl⟩
 ·cases h; exact .inr (.inl ⟨_,_,rfl,rfl,rfl⟩)
 ·cases h; exact .inr (.inr (.inl ⟨_,_,rfl,rfl,rfl⟩))
 ·split at h
  ·rename_i hk;rw [zk] at hk;cases h;exact .inr (.inr (.inr ⟨hk.1,hk.2,rfl⟩))
  ·cases h
theorem QkN {k:Nat} (hr:QaG k X.A):OpD X (compareOp .Eq) gEq:=by
 intro pins s σ H x y v u Q I rx ry h';obtain ⟨O,F,as,dx,dy,d,r,hx,hy,e,k⟩:=h'
 rcases Qmw e with ⟨i,j,rfl,rfl,rfl⟩ | ⟨i,j,rfl,rfl,rfl⟩ | ⟨i,j,rfl,rfl,rfl⟩ | ⟨h1,h2,rfl⟩
 ·cases (hx.rp rfl).unI;cases (hy.rp rfl).unI;refine Qh5 pins s σ H _ _ v u Q I rx ry ⟨rfl,?_⟩;rw [Qng];exact QaZ r k rfl Rp.bl
 ·cases (hx.rp rfl).unS;cases (hy.rp rfl).unS;refine Qh5 pins s σ H _ _ v u Q I rx ry ⟨rfl,?_⟩;rw [QnC];exact QaZ r k rfl Rp.bl
 ·cases (hx.rp rfl).unB;cases (hy.rp rfl).unB;refine Qh5 pins s σ H _ _ v u Q I rx ry ⟨rfl,?_⟩;rw [Qnz];exact QaZ r k rfl Rp.bl
 ·unfold okE at h1 h2;rw [zk] at h1 h2;exact Quv hr pins s σ H _ _ v u Q I rx ry ⟨toP dx,toP dy,hx.rep r.fh h1.1,hy.rep r.fh h2.1,h1.2,h2.2,QaZ r k rfl Rp.bl⟩
theorem Qh2 {k:Nat} (hr:QaG k X.A):OpD X (compareOp .NotEq) gNe:=by
 intro pins s σ H x y v u Q I rx ry h';obtain ⟨O,F,as,dx,dy,d,r,hx,hy,e,k⟩:=h'
 rcases Qsk e with ⟨i,j,rfl,rfl,rfl⟩ | ⟨i,j,rfl,rfl,rfl⟩ | ⟨i,j,rfl,rfl,rfl⟩ | ⟨h1,h2,rfl⟩
 ·cases (hx.rp rfl).unI;cases (hy.rp rfl).unI;refine QnD pins s σ H _ _ v u Q I rx ry ⟨rfl,?_⟩;rw [Qng];exact QaZ r k rfl Rp.bl
 ·cases (hx.rp rfl).unS;cases (hy.rp rfl).unS;refine QnD pins s σ H _ _ v u Q I rx ry ⟨rfl,?_⟩;rw [QnC];exact QaZ r k rfl Rp.bl
 ·cases (hx.rp rfl).unB;cases (hy.rp rfl).unB;refine QnD pins s σ H _ _ v u Q I rx ry ⟨rfl,?_⟩;rw [Qnz];exact QaZ r k rfl Rp.bl
 ·unfold okE at h1 h2;rw [zk] at h1 h2;exact Qto hr pins s σ H _ _ v u Q I rx ry ⟨toP dx,toP dy,hx.rep r.fh h1.1,hy.rep r.fh h2.1,h1.2,h2.2,QaZ r k rfl Rp.bl⟩
def toV:D→V
 | .bl b=>.bl b
 | .int i=>.int i
 | .str l=>.str (S l)
 | _=>.non
def QdL:D→Bool
 | .non=>true
 | .bl _=>true
 | .int _=>true
 | .str _=>true
 | _=>false
def eqF (x y:D):Bool:=eqV (toV x) (toV y)
theorem Rp.flat {K:Frag}{F:Hp}{as:List Addr}{v:V}{d:D} (h:Rp K F as v d) (hf:QdL d=true):v=toV d∧QeG v=true:=by
 cases d with
 | non=>rw [h.unN]; exact ⟨rfl,rfl⟩
 | bl b=>rw [h.unB]; exact ⟨rfl,rfl⟩
 | int b=>rw [h.unI]; exact ⟨rfl,rfl⟩
 | str b=>rw [h.unS]; exact ⟨rfl,rfl⟩
 | _=>cases hf
theorem Rps.flat {K:Frag}{F:Hp}{as:List Addr}:∀{ds:List D}{xs:List V},Rps K F as xs ds→ds.all QdL=true→xs=ds.map toV∧xs.all QeG=true
 | [],xs,h,_=>by rw [h.un0]; exact ⟨rfl,rfl⟩
 | d::ds,xs,h,hf=>by
  obtain ⟨x,r,rfl,h2,h3⟩:=h.un;rw [List.all_cons,zk] at hf;obtain ⟨e1,e2⟩:=h2.flat hf.1;obtain ⟨e3,e4⟩:=Rps.flat h3 hf.2;exact ⟨by rw [zg,←e1,←e3],by rw [List.all_cons,e2,e4]; rfl⟩
def gIn (neg:Bool):D→D→Option D
 | .str [c],.str l=>some (.bl (neg ^^ decide (c∈l)))
 | x,.lst ds=>if (QdL x&&ds.all QdL)=true then some (.bl (neg ^^ ds.any fun y=>eqF y x)) else none
 | x,.tup ds=>if (QdL x&&ds.all QdL)=true then some (.bl (neg ^^ ds.any fun y=>eqF y x)) else none
 | _,_=>none
theorem Qmx {neg:Bool}{a b d:D} (h:gIn neg a b=some d):(∃c l,a = .str [c]∧b = .str l∧d = .bl (neg ^^ decide (c∈l)))∨(∃ds,(b = .lst ds∨b = .tup ds)∧QdL a=true∧ds.all QdL=true∧d = .bl (neg ^^ ds.any fun y=>eqF y a)):=by
 unfold gIn at h;split at h
 ·cases h; exact .inl ⟨_,_,rfl,rfl,rfl⟩
 ·split at h
  ·rename_i hk;rw [zk] at hk;cases h;exact .inr ⟨_,.inl rfl,hk.1,hk.2,rfl⟩
  ·cases h
 ·split at h
  ·rename_i hk;rw [zk] at hk;cases h;exact .inr ⟨_,.inr rfl,hk.1,hk.2,rfl⟩
  ·cases h
 ·cases h
theorem Qma {x:D}{ds:List D}:inV (toV x) (ds.map toV)=ds.any fun y=>eqF y x:=by
 unfold inV;rw [List.any_map];rfl
theorem Qk1 {K:Frag}{mg:Str→Option Value}{H F:Hp}{as:List Addr}{O:Qac}{v:V}{b:D}{ds:List D} (r:RlO K mg O H F as) (hy:Lk K H F as v b) (hb:b = .lst ds∨b = .tup ds):∃p xs,v = .ref p∧(SqL K H p xs∨SqT K H p xs)∧Rps K F as xs ds:=by
 rcases hb with rfl | rfl
 ·obtain ⟨p,xs,e,h1,h2⟩:=hy.list r.fh;exact ⟨p,xs,e,.inl h1.sq,h2⟩
 ·obtain ⟨p,xs,e,h1,h2⟩:=(hy.rp rfl).unT;exact ⟨p,xs,e,.inr (Same.seqT r.fh h1),h2⟩
theorem Qkq {d:D} (h:QdL d=true):Qes d=true:=by cases d <;> first | rfl | cases h
theorem Qvg:OpD X (compareOp .In) (gIn false):=by
 intro pins s σ H x y v u Q I rx ry h';obtain ⟨O,F,as,dx,dy,d,r,hx,hy,e,k⟩:=h'
 rcases Qmx e with ⟨c,l,rfl,rfl,rfl⟩ | ⟨ds,hb,h1,h2,rfl⟩
 ·cases (hx.rp rfl).unS;cases (hy.rp rfl).unS;refine Qoa pins s σ H _ _ v u Q I rx ry ⟨c,l,rfl,rfl,?_⟩;rw [Bool.false_xor] at k;exact QaZ r k rfl Rp.bl
 ·obtain ⟨p,xs,rfl,h3,h4⟩:=Qk1 r hy hb;obtain ⟨e1,e2⟩:=(hx.rp (Qkq h1)).flat h1;obtain ⟨e3,e4⟩:=h4.flat h2;refine QoT pins s σ H _ _ v u Q I rx ry ⟨p,xs,rfl,h3,e2,e4,?_⟩;rw [if_neg zj,e1,e3,Qma];rw [Bool.false_xor] at k;exact QaZ r k rfl Rp.bl
theorem QpJ:OpD X (compareOp .NotIn) (gIn true):=by
 intro pins s σ H x y v u Q I rx ry h';obtain ⟨O,F,as,dx,dy,d,r,hx,hy,e,k⟩:=h'
 rcases Qmx e with ⟨c,l,rfl,rfl,rfl⟩ | ⟨ds,hb,h1,h2,rfl⟩
 ·cases (hx.rp rfl).unS;cases (hy.rp rfl).unS;refine QlK pins s σ H _ _ v u Q I rx ry ⟨c,l,rfl,rfl,?_⟩;rw [Bool.true_xor] at k;exact QaZ r k rfl Rp.bl
 ·obtain ⟨p,xs,rfl,h3,h4⟩:=Qk1 r hy hb;obtain ⟨e1,e2⟩:=(hx.rp (Qkq h1)).flat h1;obtain ⟨e3,e4⟩:=h4.flat h2;refine Qln pins s σ H _ _ v u Q I rx ry ⟨p,xs,rfl,h3,e2,e4,?_⟩;rw [if_pos rfl,e1,e3,Qma];rw [Bool.true_xor] at k;exact QaZ r k rfl Rp.bl
def gIx:D→D→Option D
 | .lst ds,.int i=>atI ds i
 | .tup ds,.int i=>atI ds i
 | .str l,.int i=>if l.length≤1000000 then (atI l i).map fun c=>.str [c] else none
 | _,_=>none
theorem Rps.atI {K:Frag}{F:Hp}{as:List Addr}{xs:List V}{ds:List D}{i:Int}{d:D} (h:Rps K F as xs ds) (e:atI ds i=some d):∃v,L2.atI xs i=some v∧Rp K F as v d:=by
 unfold L2.atI at e ⊢;rw [h.length]
 cases q:ixN ds.length i with
 | none=>rw [q] at e; cases e
 | some j =>
  rw [q] at e;exact h.get' e
def rDv (K:Frag) (mg:Str→Option Value) (g:D→D→Option D):R2:=fun x y H Q=>∃O F as dx dy d,RlO K mg O H F as∧Lk K H F as x dx∧Lk K H F as y dy∧g dx dy=some d∧∀v',Rp K F as v' d→Q v' H
theorem Qw4:IxR X (rDv X.K X.mg gIx):=by
 intro value slice pins s σ H x y v u Q I rx ry h' hsb;obtain ⟨O,F,as,dx,dy,d,r,hx,hy,e,k⟩:=h'
 cases dx with
 | lst ds =>
  obtain ⟨p,xs,rfl,h1,h2⟩:=hx.list r.fh
  cases dy with
  | int i =>
   cases (hy.rp rfl).unI;obtain ⟨z,e1,e2⟩:=h2.atI e;exact Qsj value slice pins s σ H _ _ v u Q I rx ry ⟨p,xs,i,z,rfl,rfl,h1.sq,e1,k z e2⟩ hsb
  | _=>cases e
 | tup ds =>
  obtain ⟨p,xs,rfl,h1,h2⟩:=(hx.rp rfl).unT
  cases dy with
  | int i =>
   cases (hy.rp rfl).unI;obtain ⟨z,e1,e2⟩:=h2.atI e;exact QtL value slice pins s σ H _ _ v u Q I rx ry ⟨p,xs,i,z,rfl,rfl,Same.seqT r.fh h1,e1,k z e2⟩ hsb
  | _=>cases e
 | str l =>
  cases (hx.rp rfl).unS
  cases dy with
  | int i =>
   cases (hy.rp rfl).unI;simp only [gIx] at e;split at e
   ·rename_i hz
    cases q:L2.atI l i with
    | none=>rw [q] at e; cases e
    | some c =>
     rw [q] at e;cases e;exact Qtf value slice pins s σ H _ _ v u Q I rx ry ⟨S l,i,c,rfl,rfl,by rw [QbS]; exact Qee hz,by rw [QfY]; exact q,k _ Rp.str⟩ hsb
   ·cases e
  | _=>cases e
 | _=>cases e
theorem QaS {md:List Md}{P:Pt}{a b:Expr}{pos:Pos}{ma mb:M D} (ha:SE X md P a ma) (hb:SE X md P b mb) (hs:Qj2 b:=by intro _ _; rfl):VE X md P (.Subscript a b pos) (Qae gIx ma mb):=(Qve Qw4 ha hb hs).imp fun σ H Q h=>by
 obtain ⟨ρ,O,F,as,d,O',r,sl,e,k⟩:=h;obtain ⟨x,O1,e1,e⟩:=Res.bind_ok e;obtain ⟨y,O2,e2,e⟩:=Res.bind_ok e;split at e
 ·rename_i d' hg;cases e;refine ⟨ρ,_,F,as,_,_,r,sl,e1,fun v H1 F1 as1 g1 r1 hv=>?_⟩;refine ⟨ρ,_,F1,as1,_,_,r1,sl.step g1,e2,fun u H2 F2 as2 g2 r2 hu=>?_⟩;exact ⟨_,F2,as2,_,_,_,r2,Sv.lk (Sv.gr hv g2) r2,Sv.lk hu r2,hg,fun v' hw=>k v' H2 F2 as2 (g1.trans g2) r2 hw⟩
 ·cases e
def tMO (K:Frag) (mg:Str→Option Value) (md:List Md) (P:Pt) (m:M (Option Int)):TO:=fun σ H Q =>
 ∃ρ O F as b O',RlO K mg O H F as∧SlO K md P ρ σ H F as∧m ρ O = .ok b O'∧∀H' F' as',Gr H F as H' F' as'→RlO K mg O' H' F' as'→Q b H'
def VO (X:Cx) (md:List Md) (P:Pt) (e:Option Expr) (m:M (Option Int)):Prop:=PO X e (tMO X.K X.mg md P m)
theorem PO.imp {e:Option Expr}{t t':TO} (h:PO X e t) (k:∀σ H Q,t' σ H Q→t σ H Q):PO X e t':=fun pins s σ H Q I q=>h pins s σ H Q I (k σ H Q q)
def moN:M (Option Int):=fun _ O=>.ok none O
def moS (m:M D):M (Option Int):=fun ρ O=>(m ρ O).bind fun d O1=>match d with
 | .int i=>.ok (some i) O1
 | _=>.no
theorem Qgx {md:List Md}{P:Pt}:VO X md P none moN:=Qr5.imp fun σ H Q q=>by
 obtain ⟨ρ,O,F,as,d,O',r,s,e,k⟩:=q;cases e;exact k H F as Gr.refl r
theorem Qei {md:List Md}{P:Pt}{e:Expr}{m:M D} (h:VE X md P e m):VO X md P (some e) (moS m):=(Qsx h).imp fun σ H Q q=>by
 obtain ⟨ρ,O,F,as,d,O',r,s,e,k⟩:=q;obtain ⟨x,O1,e1,e⟩:=Res.bind_ok e
 cases x with
 | int i =>
  cases e;exact ⟨ρ,_,F,as,_,_,r,s,e1,fun v H1 F1 as1 g1 r1 hv=>⟨i,Rp.unI hv,k H1 F1 as1 g1 r1⟩⟩
 | _=>cases e
def gSl (d:D) (lo hi:Option Int):Option D:=match d with
 | .lst ds=>some (.lst (QcK ds lo hi))
 | .tup ds=>some (.tup (QcK ds lo hi))
 | .str l=>if l.length≤16777216 then some (.str (QcK l lo hi)) else none
 | _=>none
def Qwa (K:Frag) (mg:Str→Option Value):V→Option Int→Option Int→Hp→VK→Prop:=fun x lo hi H Q=>∃O F as dx d,RlO K mg O H F as∧Lk K H F as x dx∧gSl dx lo hi=some d ∧
 ∀v' H' F',Gr H F as H' F' as→RlO K mg O H' F' as→Ow K (fun a=>H a=none) H' F' as v' d→Q v' H'
theorem Rps.cut {K:Frag}{F:Hp}{as:List Addr}{xs:List V}{ds:List D} (h:Rps K F as xs ds) (lo hi:Option Int):Rps K F as (Qg2 xs lo hi) (QcK ds lo hi):=by
 unfold Qg2 QcK;rw [h.length];exact (h.drop _).take _
theorem Qwv:SlR X (Qwa X.K X.mg):=by
 intro pins s σ H x v vl vu lo hi sl Q I rx hs pl pu h;obtain ⟨O,F,as,dx,d,r,hx,e,k⟩:=h
 cases dx with
 | lst ds =>
  obtain ⟨p,xs,rfl,h1,h2⟩:=hx.list r.fh;cases e;exact Qsp pins s σ H _ v vl vu lo hi sl Q I rx hs pl pu ⟨p,xs,rfl,h1.sq,fun q hq=>Qh8 r k hq (h2.cut lo hi)⟩
 | tup ds =>
  obtain ⟨p,xs,rfl,h1,h2⟩:=(hx.rp rfl).unT;cases e;refine Qrm X.K rfl pins s σ H _ v vl vu lo hi sl Q I rx hs pl pu ⟨p,xs,rfl,Same.seqT r.fh h1,fun z=>?_,fun _ q hq=>QqV r k hq (h2.cut lo hi)⟩
  have:QcK ds lo hi=ds:=by
   unfold QcK;rw [←h2.length,z.1,z.2,List.drop_zero,Nat.sub_zero,h2.length,List.take_length]
  rw [this] at k;exact QaZ r k rfl (hx.rp rfl)
 | str l =>
  cases (hx.rp rfl).unS;simp only [gSl] at e;split at e
  ·rename_i hz;cases e;exact QuI pins s σ H _ v vl vu lo hi sl Q I rx hs pl pu ⟨l,rfl,zB hz (Nat.le_of_eq sizeLine_eq.symm),QaZ r k rfl Rp.str⟩
  ·cases e
 | _=>cases e
def mSl (m:M D) (lo hi:M (Option Int)):M D:=fun ρ O=>(m ρ O).bind fun d O1=>(lo ρ O1).bind fun l O2=>(hi ρ O2).bind fun h O3=>match gSl (QaN O3 d) l h with
 | some y=>.ok y O3
 | none=>.no
end
section
variable {X:Cx}{md:List Md}{P:Pt}{R:RR}
theorem Qet {e:Expr}{lo hi:Option Expr}{p2 pos:Pos}{m:M D}{ml mh:M (Option Int)} (he:SE X md P e m) (hl:VO X md P lo ml) (hh:VO X md P hi mh):OE X md P (.Subscript e (.Slice lo hi none p2) pos) (mSl m ml mh):=(Qqk Qwv he hl hh).imp fun σ H Q q=>by
 obtain ⟨ρ,O,F,as,d,O',r,s,e,k⟩:=q;obtain ⟨x,O1,e1,e⟩:=Res.bind_ok e;obtain ⟨l,O2,e2,e⟩:=Res.bind_ok e;obtain ⟨h,O3,e3,e⟩:=Res.bind_ok e;split at e
 ·rename_i y hg;cases e;refine ⟨ρ,_,F,as,_,_,r,s,e1,fun v H1 F1 as1 g1 r1 hv=>?_⟩;refine ⟨ρ,_,F1,as1,_,_,r1,s.step g1,e2,fun H2 F2 as2 g2 r2=>?_⟩;have g12:=g1.trans g2;refine ⟨ρ,_,F2,as2,_,_,r2,s.step g12,e3,fun H3 F3 as3 g3 r3=>?_⟩;have g13:=g12.trans g3;exact ⟨_,F3,as3,_,_,r3,Sv.lk (Sv.gr (Sv.gr hv g2) g3) r3,hg,fun v' H' F' g' r' hw=>k v' H' F' as3 (g13.trans g') r' (QeI _ _ _ _ _ _ _ (fun a ha=>g13.dm a ha) hw)⟩
 ·cases e
def Lks (K:Frag) (H F:Hp) (as:List Addr):List V→List D→Prop
 | [],[]=>True
 | v::vs,d::ds=>Lk K H F as v d∧Lks K H F as vs ds
 | _,_=>False
theorem Qbw.lks {K:Frag}{mg:Str→Option Value}{O:Qac}{H F:Hp}{as:List Addr} (r:RlO K mg O H F as):∀{ms:List Md}{vs:List V}{ds:List D},Qbw K H F as ms vs ds→Lks K H F as vs (ds.map (QaN O))
 | [],[],[],_=>trivial
 | m::ms,v::vs,d::ds,h=>by
  refine ⟨?_,Qbw.lks r h.2⟩
  have h1:Sv K H F as v d:=by
   cases m with
   | v=>exact .inl h.1
   | s=>exact h.1
   | o=>exact h.1
  exact h1.lk r
 | [],[],_::_,h=>h.elim
 | [],_::_,[],h=>h.elim
 | [],_::_,_::_,h=>h.elim
 | _::_,[],[],h=>h.elim
 | _::_,[],_::_,h=>h.elim
 | _::_,_::_,[],h=>h.elim
def rC (K:Frag) (mg:Str→Option Value) (g:List D→Option D):List V→Hp→VK→Prop:=fun vs H Q=>∃O F as ds d,RlO K mg O H F as∧Lks K H F as vs ds∧g ds=some d ∧
 ∀v' H' F',Gr H F as H' F' as→RlO K mg O H' F' as→Ow K (fun a=>H a=none) H' F' as v' d→Q v' H'
abbrev QeF (X:Cx) (f:Value) (g:List D→Option D):Prop:=Qc5 X f (rC X.K X.mg g)
def QaP (g:List D→Option D) (ma:M (List D)):M D:=fun ρ O=>(ma ρ O).bind fun ds O1=>match g (ds.map (QaN O1)) with
 | some d=>.ok d O1
 | none=>.no
theorem Qlz {K:Frag}{mg:Str→Option Value}{g:List D→Option D}{ms:List Md}{ma:M (List D)}{σ:St}{H:Hp}{Q:VK} (q:tM K mg md P (rO K) (QaP g ma) σ H Q):tCB (rC K mg g) (tMA K mg md P ms ma) σ H Q:=by
 obtain ⟨ρ,O,F,as,d,O',r,s,e,k⟩:=q;obtain ⟨ds,O1,e1,e⟩:=Res.bind_ok e;split at e
 ·rename_i y hg;cases e;refine ⟨ρ,_,F,as,_,_,r,s,e1,fun vs H1 F1 as1 g1 r1 hv=>?_⟩;exact ⟨_,F1,as1,_,_,r1,hv.lks r1,hg,fun v' H' F' g' r' hw=>k v' H' F' as1 (g1.trans g') r' (QeI _ _ _ _ _ _ _ (fun a ha=>g1.dm a ha) hw)⟩
 ·cases e
theorem Qb0 {x:Str}{p pos:Pos}{e:Expr}{es:List Expr}{id:String}{g:List D→Option D}{ms:List Md}{ma:M (List D)} (hc:QeF X (.builtin id) g) (hm:X.mg x=none) (ha:AE X md P ms (e::es) ma) (hv:bootBuiltins x=some (.builtin id):=by decide +kernel) (hg:Gl X x:=by rfl)
  (hn:x≠"__name__":=by decide) (hdb:(x == ("__debug__":Str))=false:=by decide) (he:starEach (e::es) X.env=(false,eval e X.env)::starEach es X.env:=by exact Qbm rfl) (hpl:(backTo pos (starEach es X.env)).any (·.1)=false:=by exact Qbu rfl) :
  OE X md P (.Call (.Name x p) (e::es) [] pos) (QaP g ma):=(QgW hc hg hm hv ha hn hdb he hpl).imp fun _ _ _ q=>Qlz q
theorem QgN {x:Str}{p pos:Pos}{e:Expr}{es:List Expr}{T:String}{g:List D→Option D}{ms:List Md}{ma:M (List D)} (hc:QeF X (.type T) g) (hm:X.mg x=none) (ha:AE X md P ms (e::es) ma) (hv:bootBuiltins x=some (.type T):=by decide +kernel) (hg:Gl X x:=by rfl)
  (hn:x≠"__name__":=by decide) (hdb:(x == ("__debug__":Str))=false:=by decide) (he:starEach (e::es) X.env=(false,eval e X.env)::starEach es X.env:=by exact Qbm rfl) (hpl:(backTo pos (starEach es X.env)).any (·.1)=false:=by exact Qbu rfl) :
  OE X md P (.Call (.Name x p) (e::es) [] pos) (QaP g ma):=(Qkl hc hg hm hv ha hn hdb he hpl).imp fun _ _ _ q=>Qlz q
theorem Lks.one {K:Frag}{H F:Hp}{as:List Addr}{vs:List V}{d:D} (h:Lks K H F as vs [d]):∃v,vs = [v]∧Lk K H F as v d:=by
 cases vs with
 | nil=>exact h.elim
 | cons v vs =>
  cases vs with
  | nil=>exact ⟨v,rfl,h.1⟩
  | cons u us=>exact h.2.elim
theorem Lks.two {K:Frag}{H F:Hp}{as:List Addr}{vs:List V}{d e:D} (h:Lks K H F as vs [d,e]):∃v u,vs = [v,u]∧Lk K H F as v d∧Lk K H F as u e:=by
 cases vs with
 | nil=>exact h.elim
 | cons v vs =>
  cases vs with
  | nil=>exact h.2.elim
  | cons u us =>
   cases us with
   | nil=>exact ⟨v,u,rfl,h.1,h.2.1⟩
   | cons w ws=>exact h.2.2.elim
def Qfe:List D→Option D
 | [.str l]=>if l.length≤1000000 then some (.int l.length) else none
 | [.lst ds]=>some (.int ds.length)
 | [.tup ds]=>some (.int ds.length)
 | _=>none
theorem Qjc:QeF X (.builtin "len") Qfe:=by
 intro pins s σ H xs us Q I rs h;obtain ⟨O,F,as,ds,d,r,hvs,e,k⟩:=h;unfold Qfe at e;split at e
 ·rename_i l;obtain ⟨v,rfl,hv⟩:=hvs.one;split at e
  ·rename_i hz;cases e;cases (hv.rp rfl).unS;refine call_len pins s σ H _ us Q I rs ⟨_,_,rfl,⟨by rw [QbS]; exact Qee hz,rfl⟩,?_⟩;rw [QbS];exact QaZ r k rfl Rp.int
  ·cases e
 ·rename_i l;obtain ⟨v,rfl,hv⟩:=hvs.one;cases e;obtain ⟨p,xs,rfl,h1,h2⟩:=hv.list r.fh;refine call_len pins s σ H _ us Q I rs ⟨_,_,rfl,.inl ⟨xs,h1.sq,rfl⟩,?_⟩;rw [h2.length];exact QaZ r k rfl Rp.int
 ·rename_i l;obtain ⟨v,rfl,hv⟩:=hvs.one;cases e;obtain ⟨p,xs,rfl,h1,h2⟩:=(hv.rp rfl).unT;refine call_len pins s σ H _ us Q I rs ⟨_,_,rfl,.inr ⟨xs,Same.seqT r.fh h1,rfl⟩,?_⟩;rw [h2.length];exact QaZ r k rfl Rp.int
 ·cases e
def QhW:List D→Option D
 | [.int i,.int j]=>some (.int (if j > i then j else i))
 | _=>none
def Qix:List D→Option D
 | [.int i,.int j]=>some (.int (if j < i then j else i))
 | _=>none
theorem QtI (hc:X.calm=true):QeF X (.builtin "max") QhW:=by
 intro pins s σ H xs us Q I rs h;obtain ⟨O,F,as,ds,d,r,hvs,e,k⟩:=h;unfold QhW at e;split at e
 ·obtain ⟨v,u,rfl,hv,hu⟩:=hvs.two;cases e;cases (hv.rp rfl).unI;cases (hu.rp rfl).unI;exact Qn8 hc pins s σ H _ us Q I rs ⟨_,_,rfl,QaZ r k rfl Rp.int⟩
 ·cases e
theorem QoN (hc:X.calm=true):QeF X (.builtin "min") Qix:=by
 intro pins s σ H xs us Q I rs h;obtain ⟨O,F,as,ds,d,r,hvs,e,k⟩:=h;unfold Qix at e;split at e
 ·obtain ⟨v,u,rfl,hv,hu⟩:=hvs.two;cases e;cases (hv.rp rfl).unI;cases (hu.rp rfl).unI;exact QoA hc pins s σ H _ us Q I rs ⟨_,_,rfl,QaZ r k rfl Rp.int⟩
 ·cases e
def Qe1:List D→Option D
 | [.int i]=>some (.int i)
 | [.bl b]=>some (.int (if b then 1 else 0))
 | _=>none
theorem Qlg:QeF X (.type "int") Qe1:=by
 intro pins s σ H xs us Q I rs h;obtain ⟨O,F,as,ds,d,r,hvs,e,k⟩:=h;unfold Qe1 at e;split at e
 ·obtain ⟨v,rfl,hv⟩:=hvs.one;cases e;cases (hv.rp rfl).unI;exact Qj9 pins s σ H _ us Q I rs (.inl ⟨_,rfl,QaZ r k rfl Rp.int⟩)
 ·obtain ⟨v,rfl,hv⟩:=hvs.one;cases e;cases (hv.rp rfl).unB;exact Qj9 pins s σ H _ us Q I rs (.inr ⟨_,rfl,QaZ r k rfl Rp.int⟩)
 ·cases e
def QkL:List D→Option D
 | [.lst ds]=>some (.lst ds)
 | [.tup ds]=>some (.lst ds)
 | _=>none
theorem Qr9:QeF X (.type "list") QkL:=by
 intro pins s σ H xs us Q I rs h;obtain ⟨O,F,as,ds,d,r,hvs,e,k⟩:=h;unfold QkL at e;split at e
 ·obtain ⟨v,rfl,hv⟩:=hvs.one;cases e;obtain ⟨p,xs,rfl,h1,h2⟩:=hv.list r.fh;exact QhR pins s σ H _ us Q I rs ⟨p,xs,rfl,.inl h1.sq,fun l hl=>Qh8 r k hl h2⟩
 ·obtain ⟨v,rfl,hv⟩:=hvs.one;cases e;obtain ⟨p,xs,rfl,h1,h2⟩:=(hv.rp rfl).unT;exact QhR pins s σ H _ us Q I rs ⟨p,xs,rfl,.inr (Same.seqT r.fh h1),fun l hl=>Qh8 r k hl h2⟩
 ·cases e
def Qcv:List D→Option (List Bool)
 | []=>some []
 | .bl b::ds=>(Qcv ds).map (b :: ·)
 | _=>none
theorem Rps.bools {K:Frag}{F:Hp}{as:List Addr}:∀{ds:List D}{xs:List V}{bs:List Bool},Rps K F as xs ds→Qcv ds=some bs→xs=bs.map V.bl
 | [],xs,bs,h,e=>by cases e; rw [h.un0]; rfl
 | d::ds,xs,bs,h,e=>by
  obtain ⟨x,r,rfl,h2,h3⟩:=h.un
  cases d with
  | bl b =>
   unfold Qcv at e
   cases q:Qcv ds with
   | none=>rw [q] at e; cases e
   | some cs =>
    rw [q] at e;cases e;rw [h2.unB,Rps.bools h3 q];rfl
  | _=>cases e
def QiE:List D→Option D
 | [.lst ds]=>(Qcv ds).map fun bs=>.bl (bs.all id)
 | _=>none
theorem QoI (hc:X.calm=true):QeF X (.builtin "all") QiE:=by
 intro pins s σ H xs us Q I rs h;obtain ⟨O,F,as,ds,d,r,hvs,e,k⟩:=h;unfold QiE at e;split at e
 ·rename_i es;obtain ⟨v,rfl,hv⟩:=hvs.one;obtain ⟨p,xs,rfl,h1,h2⟩:=hv.list r.fh
  cases q:Qcv es with
  | none=>rw [q] at e; cases e
  | some bs =>
   rw [q] at e;cases e;refine Qo9 hc pins s σ H _ us Q I rs ⟨p,bs,rfl,?_,QaZ r k rfl Rp.bl⟩;rw [←h2.bools q];exact h1.sq
 ·cases e
def Qgb:List D→Option (List Int)
 | []=>some []
 | .int b::ds=>(Qgb ds).map (b :: ·)
 | _=>none
theorem Rps.ints {K:Frag}{F:Hp}{as:List Addr}:∀{ds:List D}{xs:List V}{bs:List Int},Rps K F as xs ds→Qgb ds=some bs→xs=bs.map V.int
 | [],xs,bs,h,e=>by cases e; rw [h.un0]; rfl
 | d::ds,xs,bs,h,e=>by
  obtain ⟨x,r,rfl,h2,h3⟩:=h.un
  cases d with
  | int b =>
   unfold Qgb at e
   cases q:Qgb ds with
   | none=>rw [q] at e; cases e
   | some cs =>
    rw [q] at e;cases e;rw [h2.unI,Rps.ints h3 q];rfl
  | _=>cases e
theorem QiW:bootBuiltins "len" = some (.builtin "len"):=by decide +kernel
theorem Qk5:bootBuiltins "max" = some (.builtin "max"):=by decide +kernel
theorem Qo3:bootBuiltins "min" = some (.builtin "min"):=by decide +kernel
theorem QoM:bootBuiltins "all" = some (.builtin "all"):=by decide +kernel
theorem QiS:bootBuiltins "int" = some (.type "int"):=by decide +kernel
theorem QlE:bootBuiltins "str" = some (.type "str"):=by decide +kernel
theorem Qri:bootBuiltins "bool" = some (.type "bool"):=by decide +kernel
theorem Qig:bootBuiltins "list" = some (.type "list"):=by decide +kernel
theorem Qiv:bootBuiltins "tuple" = some (.type "tuple"):=by decide +kernel
def tyD:D→Option String
 | .non=>some "NoneType"
 | .bl _=>some "bool"
 | .int _=>some "int"
 | .str _=>some "str"
 | .lst _=>some "list"
 | .tup _=>some "tuple"
 | .dic _ _=>some "dict"
 | .ob _=>none
def Qc9 (t n:String):Bool:=t == n || (t == "bool" && n == "int")
def QcS (n:String) (m:M D):M D:=fun ρ O=>(m ρ O).bind fun d O1=>match tyD (QaN O1 d) with
 | some t=>.ok (.bl (Qc9 t n)) O1
 | none=>.no
def QpY:List String:=["str","int","bool","list","tuple","dict"]
theorem QsC (K:Frag):∀d t,tyD d=some t→∀n∈QpY,PySem.W.kitOne K (.type t) (.type n)=some (Qc9 t n):=by
 intro d t e n hn;simp only [QpY,zm,List.not_mem_nil,or_false] at hn
 cases d <;> cases e <;> rcases hn with rfl | rfl | rfl | rfl | rfl | rfl <;> first | exact Qqj K _ | kernel_rfl
theorem Lk.ty {K:Frag}{H F:Hp}{as:List Addr}{v:V}{d:D}{t:String} (h:Lk K H F as v d) (fh:Same F H) (e:tyD d=some t):TyQ K H v t:=by
 cases d with
 | non=>cases e; rw [(h.rp rfl).unN]; exact .non
 | bl b=>cases e; rw [(h.rp rfl).unB]; exact .bl _
 | int b=>cases e; rw [(h.rp rfl).unI]; exact .int _
 | str b=>cases e; rw [(h.rp rfl).unS]; exact .str _
 | lst ds=>cases e; obtain ⟨p,xs,rfl,h1,h2⟩:=h.list fh; exact .lst h1.sq
 | tup ds=>cases e; obtain ⟨p,xs,rfl,h1,h2⟩:=(h.rp rfl).unT; exact .tup (Same.seqT fh h1)
 | dic ks vs=>cases e; obtain ⟨p,xs,rfl,h1,h2⟩:=(h.rp rfl).unD; exact .dK (fh _ _ h1)
 | ob n=>cases e
theorem Qdz (n:String) {T:Str}{a:Expr}{p p' pos:Pos}{m:M D} (hm:X.mg "isinstance" = none) (hT:X.mg T=none) (h:SE X md P a m) (hb:bootBuiltins T=some (.type n):=by decide +kernel) (hn:n∈QpY:=by decide) (hg:Gl X "isinstance":=by rfl) (hgT:Gl X T:=by rfl)
  (hTn:T≠"__name__":=by decide) (hTd:(T == ("__debug__":Str))=false:=by decide)
  (hs1:starEach [a,.Name T p'] X.env=(false,eval a X.env)::starEach [.Name T p'] X.env:=by exact Qbm rfl) (hs2:starEach [.Name T p'] X.env=(false,eval (.Name T p') X.env)::starEach [] X.env:=by rfl) (hpl:(backTo pos (starEach [.Name T p'] X.env)).any (·.1)=false:=by exact Qbu rfl) :
  OE X md P (.Call (.Name "isinstance" p) [a,.Name T p'] [] pos) (QcS n m) :=
 (QgW (Qpi X.K) hg hm (by decide +kernel) (QbY h (QbY (Qmv (v:=.ty n) hgT hT hb rfl hTn hTd) Qdf hs2) hs1) (by decide) (by decide) hs1 hpl).imp fun σ H Q q=>by
  obtain ⟨ρ,O,F,as,d,O',r,s,e,k⟩:=q;obtain ⟨x,O1,e1,e⟩:=Res.bind_ok e;split at e
  ·rename_i t ht;cases e;refine ⟨ρ,_,F,as,_,_,r,s,e1,fun v H1 F1 as1 g1 r1 hv=>?_⟩;exact ⟨v,n,t,_,rfl,Lk.ty (Sv.lk hv r1) r1.fh ht,QsC _ _ t ht n hn,k _ H1 F1 as1 g1 r1 (.inl ⟨rfl,Rp.bl⟩)⟩
  ·cases e
def QkK (m:M D):M (List D):=fun ρ O=>(m ρ O).bind fun d O1=>match d with
 | .lst ds=>.ok ds O1
 | _=>.no
def Qnc (m:M D):M (List D):=fun ρ O=>(m ρ O).bind fun d O1=>match d with
 | .tup ds=>.ok ds O1
 | _=>.no
theorem Qp0 {K:Frag}{mg:Str→Option Value}{H F:Hp}{as:List Addr}{a:Addr}{xs:List V}{ds:List D} (hs:Rps K F as xs ds) (hp:∀(H2 F2:Hp) (as2:List Addr),GrS P H F as H2 F2 as2→(∃O,RlO K mg O H2 F2 as2)→RdK K H2 a xs):JOk K mg P (Itl K a) ds H F as:=by
 refine ⟨fun i d H2 F2 as2 g r e=>?_,fun H2 F2 as2 g r=>⟨xs,(hp H2 F2 as2 g r).sq,by rw [hs.length]; exact ze _⟩⟩;obtain ⟨x,h1,h2⟩:=hs.get' e;have q:=hp H2 F2 as2 g r;refine ⟨⟨xs,x,q.sq,h1⟩,fun y H3 hy=>?_⟩;obtain ⟨rfl,hy⟩:=hy
 have:=hy xs q.sq
 rw [h1] at this;cases this;exact ⟨F2,Gr.refl,fun _ r=>r,h2.grS g⟩
end
section
variable {X:Cx}{pins:List (Addr×Obj)}{σ:St}{H:Hp}{s:Shared}
theorem Inv.turnL {ch:List Addr}{h':Heap}{t':Nat} (I:Inv X pins σ H s) (hch:∀b∈ch,Qeg X pins H b) (k:∀b o,b∉ch→s.heap.get? b=some o→h'.get? b=some o):Inv X pins σ H { s with heap:=h',toks:=t' }:=by
 have nit:∀b u,H b=some u→b∉ch:=fun b u e z=>by rw [(hch b z).1] at e; cases e
 refine I.step (g':=s.gens) (d':=s.drawn) (ch:=ch) (fun b hb=>?_) (fun b o _ _ hc e _=>k b o hc e) (fun b o _ _ hc e _=>⟨o.slots,k b o hc e⟩) (fun _ _ _ _ n=>n)
  (fun b o hc e=>⟨o,k b o hc e⟩) (fun _ _ e=>e) (fun _ _ _ e=>e) (fun b ps e=>⟨#[],by rw [e]; simp⟩) (fun m hm=>?_) (fun b u e=>?_) I.bare
 ·obtain ⟨f0,f1,f2,f3,f4,f5⟩:=hch b hb;exact ⟨f3,f1,f4,f5⟩
 ·obtain ⟨o,es,ep,ho,r⟩:=hm;exact ⟨o,es,ep,k _ o (fun z=>(hch _ z).2.1 rfl) ho,r⟩
 ·refine (I.hok b u e).stay (fun c v hc q=>k c v ?_ q) (fun _ q=>q) fun _ _ q=>q
  rcases hc with z | z
  ·rw [z]; exact nit b u e
  ·exact nit c _ z
theorem Inv.turnT {ch:List Addr}{h':Heap}{t':Nat}{T:Addr}{vs:List V}{us:List Value} (I:Inv X pins σ H s) (hch:∀b∈ch,Qeg X pins H b) (k:∀b o,b∉ch→s.heap.get? b=some o→h'.get? b=some o)
  (hT:s.heap.objs.size≤T) (new:IsTup h' T us.toArray) (hv:Qax vs us) (hz:vs.length≤sizeLine):Inv X pins σ (upd H T (.tup vs)) { s with heap:=h',toks:=t' }:=by
 have hn:H T=none:=I.hok.fresh hT
 have nit:∀b u,H b=some u→b∉ch:=fun b u e z=>by rw [(hch b z).1] at e; cases e
 have ne:∀b o,s.heap.get? b=some o→b≠T:=fun b o e z=>by
  subst z;exact absurd (zf e) (Nat.not_lt_of_le hT)
 refine I.step (g':=s.gens) (d':=s.drawn) (ch:=ch) (fun b hb=>?_) (fun b o _ _ hc e _=>k b o hc e) (fun b o _ _ hc e _=>⟨o.slots,k b o hc e⟩) (fun b o _ e n=>by rw [Qah (ne b o e)]; exact n)
  (fun b o hc e=>⟨o,k b o hc e⟩) (fun b _ e=>by rw [Qah (Qaw e hn)]; exact e) (fun b _ _ e=>by rw [Qah (Qaw e hn)]; exact e) (fun b ps e=>⟨#[],by rw [Qah (Qaw e hn),e]; simp⟩) (fun m hm=>?_) (fun b u e=>?_) I.bare
 ·obtain ⟨f0,f1,f2,f3,f4,f5⟩:=hch b hb;exact ⟨f3,f1,f4,f5⟩
 ·obtain ⟨o,es,ep,ho,r⟩:=hm;exact ⟨o,es,ep,k _ o (fun z=>(hch _ z).2.1 rfl) ho,r⟩
 ·by_cases hb:b=T
  ·subst hb;rw [Qay] at e;cases e;exact ⟨hz,us,hv,new⟩
  ·rw [Qah hb] at e
   refine (I.hok b u e).stay (fun c v hc q=>k c v ?_ q) (fun c q=>by rw [Qah (Qaw q hn)]; exact q) fun c xs q=>by rw [Qah (Qaw q hn)]; exact q
   rcases hc with z | z
   ·rw [z]; exact nit b u e
   ·exact nit c _ z
end
def Ite (K:Frag) (l:Addr):It:=⟨fun i H=>∃xs x,SqL K H l xs∧xs[i]? = some x,fun i H v H'=>∃T x,v = .ref T∧H T=none∧H'=upd H T (.tup [.int i,x])∧∀xs,SqL K H l xs→xs[i]? = some x,fun i H=>∃xs,SqL K H l xs∧xs.length≤i⟩
def QsN (l:List Nat):It:=⟨fun i _=>i < l.length,fun i H v H'=>∃T c,v = .ref T∧H T=none∧H'=upd H T (.tup [.int i,.str (S [c])])∧l[i]? = some c,fun i _=>l.length≤i⟩
theorem Qfn {h:Heap}{b:Addr}{o:Obj}{vs:Array Value} (e:h.get? b=some o) (d:o.data = .fields vs):∃o,h.get? b=some o∧∀v,o.data≠.cell v:=⟨o,e,fun v z=>by rw [d] at z; cases z⟩
theorem QnJ {P:Program}{w:World}{K:Frag}{elts:List Expr}{x1}{pos:Pos} (e it l:Addr) (hne:e≠it):Turn P w K (.Tuple elts x1 pos) (Ite K l) [e,it] e (fun i h=>(∃old,IsEnum h e it i old)∧h.IsListIter it l i) where
 mem:=by simp
 obj:=fun i h st b hb=>by
  obtain ⟨⟨old,he⟩,o,ho,hc,hd⟩:=st
  rcases zm.mp hb with rfl | hb
  ·exact Qfn he rfl
  ·rw [zv.mp hb];exact Qfn ho hd
 keep:=fun i h h' st k=>by
  obtain ⟨⟨old,he⟩,o,ho,r⟩:=st;exact ⟨⟨old,k e (by simp) _ he⟩,o,k it (by simp) o ho,r⟩
 item:=by
  intro X hP hw hK hc i pins s σ H E I hf st hg;subst hP hw hK;obtain ⟨⟨old,he⟩,hit⟩:=st;obtain ⟨xs,x,hq,hx⟩:=hg;obtain ⟨its,rv,pl,hz⟩:=I.list hq;obtain ⟨u,hu,ru⟩:=rv.get hx;have hT:H s.heap.objs.size=none:=I.hok.fresh (ze _);have elt:e < s.heap.objs.size:=zf he
  refine wpAny_pyNext_enum_item he hit pl.isList (x:=u) (by simpa using hu) hne fun h' ho hit' hTup hsz hk=>⟨_,rfl,?_⟩
  refine wpAny_letOwnedTupleGo_enum ho fun h'' he'' hs''=>⟨.ref s.heap.objs.size,_,?_,rfl,⟨s.heap.objs.size,x,rfl,hT,rfl,fun ys hy=>by rw [I.list_inj hy hq]; exact hx⟩,⟨⟨_,by simpa using he''⟩,hit'.extBut hs''.extBut (Ne.symm hne)⟩,fun b hb=>?_⟩
  ·show Inv X pins σ _ { s with heap:=h'',toks:=s.toks+1 };refine I.turnT (ch:=[e,it]) (us:=[.int i s.toks,u]) hf (fun b o hb q=>?_) (ze _) ⟨_,hs''.extBut _ _ (Nat.ne_of_gt elt) hTup,rfl,_,rfl⟩ (.cons ⟨_,rfl⟩ (.cons ru .nil)) (by show 2≤sizeLine; decide)
   have h1:b≠e:=fun z=>hb (by simp [z])
   have h2:b≠it:=fun z=>hb (by simp [z])
   exact hs''.extBut _ _ h1 (hk b o h1 h2 q)
  ·have q:=hf b hb;rw [Qah (fun z=>?_)]
   ·exact q.1
   ·obtain ⟨o,ho⟩:∃o,s.heap.get? b=some o:=by
     rcases zm.mp hb with rfl | hb
     ·exact ⟨_,he⟩
     ·rw [zv.mp hb];obtain ⟨o,ho,_⟩:=hit;exact ⟨o,ho⟩
    exact absurd (zf ho) (by rw [z]; exact zH _)
 done:=by
  intro X hP hw hK hc i pins s σ H E I hf st hg;subst hP hw hK;obtain ⟨⟨old,he⟩,hit⟩:=st;obtain ⟨xs,hq,hl⟩:=hg;obtain ⟨its,rv,pl,hz⟩:=I.list hq
  refine wpAny_pyNext_enum_end (I.ok.hd hc) he hit pl.isList (by have:=rv.length; simp; omega) fun h' hx=>⟨rfl,?_⟩
  exact I.turnL (t':=s.toks) (ch:=[e,it]) hf fun b o hb q=>hx b o (fun z=>hb (by simp [z])) q
 self:=fun A i s Q E st h=>by
  obtain ⟨⟨old,he⟩,_⟩:=st;exact wpAny_pyIter_enum he h
theorem Qnv {P:Program}{w:World}{K:Frag}{elts:List Expr}{x1}{pos:Pos} (e it:Addr) (l:List Nat) (t:Tok) (hne:e≠it):Turn P w K (.Tuple elts x1 pos) (QsN l) [e,it] e (fun i h=>(∃old,IsEnum h e it i old)∧h.IsStrIter it "str_ascii_iterator" (S l) t i) where
 mem:=by simp
 obj:=fun i h st b hb=>by
  obtain ⟨⟨old,he⟩,o,ho,hc,hd⟩:=st
  rcases zm.mp hb with rfl | hb
  ·exact Qfn he rfl
  ·rw [zv.mp hb];exact Qfn ho hd
 keep:=fun i h h' st k=>by
  obtain ⟨⟨old,he⟩,o,ho,r⟩:=st;exact ⟨⟨old,k e (by simp) _ he⟩,o,k it (by simp) o ho,r⟩
 item:=by
  intro X hP hw hK hc i pins s σ H E I hf st hg;subst hP hw hK;obtain ⟨⟨old,he⟩,hit⟩:=st;have hg':i < l.length:=hg;have hT:H s.heap.objs.size=none:=I.hok.fresh (ze _);have elt:e < s.heap.objs.size:=zf he;have hd:X.A.in1.handled=none:=I.ok.hd hc
  refine wpAny_pyNext_enum_itemD (Draws.strAscii hd it (S l) t) he hit (by simpa [S] using hg') hne (fun z=>hne (by simpa using z)) fun u h' tk hP ho hit' hTup hsz hk=>⟨_,rfl,?_⟩
  obtain ⟨c,tc,hcx,rfl⟩:=hP
  have hcl:l[i]? = some c:=by
   rw [←hcx];simp [S]
  refine wpAny_letOwnedTupleGo_enum ho fun h'' he'' hs''=>⟨.ref s.heap.objs.size,_,?_,rfl,⟨s.heap.objs.size,c,rfl,hT,rfl,hcl⟩,⟨⟨_,by simpa using he''⟩,?_⟩,fun b hb=>?_⟩
  ·show Inv X pins σ _ { s with heap:=h'',toks:=tk+1 };refine I.turnT (ch:=[e,it]) (us:=[.int i tk,.str ⟨#[c]⟩ tc]) hf (fun b o hb q=>?_) (ze _) ⟨_,hs''.extBut _ _ (Nat.ne_of_gt elt) hTup,rfl,_,rfl⟩ (.cons ⟨_,rfl⟩ (.cons ⟨_,rfl⟩ .nil)) (by show 2≤sizeLine; decide)
   have h1:b≠e:=fun z=>hb (by simp [z])
   have h2:b≠it:=fun z=>hb (by simp [z])
   exact hs''.extBut _ _ h1 (hk b o h1 h2 q)
  ·obtain ⟨o,ho',r⟩:=hit';exact ⟨o,hs''.extBut _ _ (Ne.symm hne) ho',r⟩
  ·have q:=hf b hb;rw [Qah (fun z=>?_)]
   ·exact q.1
   ·obtain ⟨o,ho⟩:∃o,s.heap.get? b=some o:=by
     rcases zm.mp hb with rfl | hb
     ·exact ⟨_,he⟩
     ·rw [zv.mp hb];obtain ⟨o,ho,_⟩:=hit;exact ⟨o,ho⟩
    exact absurd (zf ho) (by rw [z]; exact zH _)
 done:=by
  intro X hP hw hK hc i pins s σ H E I hf st hg;subst hP hw hK;obtain ⟨⟨old,he⟩,hit⟩:=st;have hd:X.A.in1.handled=none:=I.ok.hd hc;have hg':l.length≤i:=hg;have hT:s.TypeIs (.ref e) "enumerate":=⟨_,he,rfl⟩;unfold pyNext
  refine zc (wpAny_attempt (wpAny_callSpecial?_slot (name:=Str.ofString "__next__") hT F.slot_enumerate_next
   (wpAny_call_entry F.slot_enumerate_next hT F.entry_enumerate_next ?_ (F.args_enumerate_next_1 _))))
  show wpAny _ _ (field (.ref e) 2 >>= _) _ _ _;refine zc (wpAny_field he rfl (x:=.ref it) rfl ?_);refine zc (wpAny_nextOf_ascii_end hd hit (by simp [S]; exact hg') fun h' x he' hx'=>?_);obtain ⟨o,ho,hc⟩:=hx';refine zc (wpAny_isInstance (T:="StopIteration") (b:=true) ⟨o,ho,hc⟩ isSubtype_stop ?_);exact zd ⟨rfl,I.turnL (t':=s.toks) (ch:=[e,it]) hf fun b o hb q=>he' b o (fun z=>hb (by simp [z])) q⟩
 self:=fun A i s Q E st h=>by
  obtain ⟨⟨old,he⟩,_⟩:=st;exact wpAny_pyIter_enum he h
section
variable {X:Cx}{elts:List Expr}{x1:Nat}{tpos:Pos}
def Qtj (K:Frag) (ta:TA):TI:=fun σ H R=>ta σ H fun vs H1=>∃a,vs = [.ref a]∧(∃xs,SqL K H1 a xs)∧R (Ite K a) H1
def Qt3 (ta:TA):TI:=fun σ H R=>ta σ H fun vs H1=>∃l,vs = [.str (S l)]∧ascii l=true∧R (QsN l) H1
theorem Qky {l:List Nat} (h:ascii l=true):strIterType (S l) = "str_ascii_iterator":=by
 unfold strIterType;rw [if_pos];unfold ascii at h;rw [zZ] at h;simp [S];intro i hi;simpa using h i hi
theorem Qp6 {a:Expr}{ta:TA}{p pos:Pos} (hg:Gl X "enumerate") (hm:X.mg "enumerate" = none) (ha:PA X [a] ta) (hs:starEach [a] X.env = [(false,eval a X.env)]:=by exact Qh9 rfl):PI X (.Tuple elts x1 tpos) (.Call (.Name "enumerate" p) [a] [] pos) (Qtj X.K ta):=by
 intro pins s σ H R I h;refine Call_ (Qgw I hg hm boot_enumerate (PyProof.Rows.callWith_type1 (thn (ha pos pins s σ H _ I h) fun us s1 ⟨vs,H1,I1,r1,q1⟩=>?_) hs rfl));obtain ⟨l,e,⟨xs,hq⟩,q⟩:=q1;subst e;obtain ⟨u,rfl,ru⟩:=vals1 r1;cases ru;obtain ⟨its,rv,pl,hz⟩:=I1.list hq
 refine call_enumerate_list pl.isList fun h' he hit hsz hk=>wpAny_pyIter_enum he ?_
 refine ⟨s1.heap.objs.size+1,[s1.heap.objs.size+1,s1.heap.objs.size],_,_,H1,rfl,I1.kept (t':=s1.toks) hk,QnJ (s1.heap.objs.size+1) s1.heap.objs.size l (Nat.succ_ne_self _),⟨⟨_,he⟩,hit⟩,fun b hb=>?_,q⟩
 have hb':s1.heap.objs.size≤b:=by
  rcases zm.mp hb with rfl | hb
  ·exact Nat.le_succ _
  ·rw [zv.mp hb]; exact ze _
 exact I1.fpOk hb' (I1.hok.fresh hb')
theorem Qqi {a:Expr}{ta:TA}{p pos:Pos} (hg:Gl X "enumerate") (hm:X.mg "enumerate" = none) (ha:PA X [a] ta) (hs:starEach [a] X.env = [(false,eval a X.env)]:=by exact Qh9 rfl):PI X (.Tuple elts x1 tpos) (.Call (.Name "enumerate" p) [a] [] pos) (Qt3 ta):=by
 intro pins s σ H R I h;refine Call_ (Qgw I hg hm boot_enumerate (PyProof.Rows.callWith_type1 (thn (ha pos pins s σ H _ I h) fun us s1 ⟨vs,H1,I1,r1,q1⟩=>?_) hs rfl));obtain ⟨l,e,hl,q⟩:=q1;subst e;obtain ⟨u,rfl,t,rfl⟩:=vals1 r1
 refine call_enumerate_str fun h' he hit hsz hk=>wpAny_pyIter_enum he ?_
 rw [Qky hl] at hit;refine ⟨s1.heap.objs.size+1,[s1.heap.objs.size+1,s1.heap.objs.size],_,_,H1,rfl,I1.kept (t':=s1.toks) hk,Qnv (s1.heap.objs.size+1) s1.heap.objs.size l t (Nat.succ_ne_self _),⟨⟨_,he⟩,hit⟩,fun b hb=>?_,q⟩
 have hb':s1.heap.objs.size≤b:=by
  rcases zm.mp hb with rfl | hb
  ·exact Nat.le_succ _
  ·rw [zv.mp hb]; exact ze _
 exact I1.fpOk hb' (I1.hok.fresh hb')
end
def rW (K:Frag) (P:Pt):RR:=fun _ H F as v d=>Rp K F as v d∨∃a xs ds,v = .ref a∧d = .lst ds∧H a=some (.lst xs)∧a∉as∧P a∧Rps K F as xs ds
def WE (X:Cx) (md:List Md) (P:Pt) (e:Expr) (m:M D):Prop:=PE X e (tM X.K X.mg md P (rW X.K P) m)
section
variable {X:Cx}{md:List Md}{P:Pt}{R:RR}
theorem Qje (i:Nat) {x:Str}{pos:Pos} (hm:md[i]? = some .s:=by rfl) (hN:X.N[i]? = some x:=by rfl) (hv:Vis X.env.scope x:=by first | exact Or.inl rfl | exact Or.inr (Or.inl rfl) | exact Or.inr (Or.inr rfl))
  (hd:(x == ("__debug__":Str))=false:=by decide) (hcd:(x == ("__classdict__":Str))=false:=by decide):WE X md P (.Name x pos) (Qaa i):=by
 refine (QeQ (i:=i) hN hv hd hcd).imp fun σ H Q h=>?_
 obtain ⟨ρ,O,F,as,d,O',r,s,e,k⟩:=h;obtain ⟨e1,rfl⟩:=Qh3 e;obtain ⟨v,h2,h3⟩:=s.sl i .s d hm e1;exact ⟨v,h2,k v H F as Gr.refl r h3⟩
theorem Qq4 {K:Frag}{mg:Str→Option Value}{N:Addr→Prop}{H F:Hp}{as:List Addr}{v:V}{ds:List D} (hv:rW K P N H F as v (.lst ds)) :
  ∃a xs,v = .ref a∧Rps K F as xs ds∧∀(H2 F2:Hp) (as2:List Addr),GrS P H F as H2 F2 as2→(∃O,RlO K mg O H2 F2 as2)→RdK K H2 a xs:=by
 rcases hv with hv | ⟨a,xs,ds',rfl,e,e3,e4,e5,e6⟩
 ·obtain ⟨a,xs,rfl,h1,h2⟩:=hv.unL;exact ⟨a,xs,rfl,h2,fun H2 F2 as2 g ⟨O,r⟩=>(h1.mono g.ff).mono r.fh⟩
 ·cases e;exact ⟨a,xs,rfl,e6,fun H2 F2 as2 g _=>.inl (.inl (g.fr _ _ e5 e3 e4 rfl))⟩
theorem Qre {tg e:Expr}{m:M D} (h:WE X md P e m):VI X md P tg e (QkK m):=(QmA h).imp fun σ H Q q=>by
 obtain ⟨ρ,O,F,as,ds,O',r,s,e,k⟩:=q;obtain ⟨d,O1,e1,e⟩:=Res.bind_ok e
 cases d with
 | lst es =>
  cases e;refine ⟨ρ,_,F,as,_,_,r,s,e1,fun v H1 F1 as1 g1 r1 hv=>?_⟩;obtain ⟨a,xs,rfl,h1,h2⟩:=Qq4 (mg:=X.mg) hv;exact ⟨a,rfl,⟨xs,(h2 H1 F1 as1 GrS.refl ⟨_,r1⟩).sq⟩,k _ H1 F1 as1 g1 r1 (Qp0 h1 h2)⟩
 | _=>cases e
theorem Qov {tg e:Expr}{m:M D} (h:VE X md P e m):VI X md P tg e (Qnc m):=(QsW h).imp fun σ H Q q=>by
 obtain ⟨ρ,O,F,as,ds,O',r,s,e,k⟩:=q;obtain ⟨d,O1,e1,e⟩:=Res.bind_ok e
 cases d with
 | tup es =>
  cases e;refine ⟨ρ,_,F,as,_,_,r,s,e1,fun v H1 F1 as1 g1 r1 hv=>?_⟩;obtain ⟨a,xs,rfl,h1,h2⟩:=Rp.unT hv
  have hp:∀(H2 F2:Hp) (as2:List Addr),GrS P H1 F1 as1 H2 F2 as2→(∃O,RlO X.K X.mg O H2 F2 as2)→SqT X.K H2 a xs:=fun H2 F2 as2 g ⟨O,r⟩=>Same.seqT r.fh (Same.seqT g.ff h1)
  refine ⟨a,rfl,⟨xs,hp H1 F1 as1 GrS.refl ⟨_,r1⟩⟩,k _ H1 F1 as1 g1 r1 ⟨fun i d H2 F2 as2 g r e=>?_,fun H2 F2 as2 g r=>⟨xs,hp H2 F2 as2 g r,by rw [h2.length]; exact ze _⟩⟩⟩;obtain ⟨x,h3,h4⟩:=h2.get' e;have q:=hp H2 F2 as2 g r;refine ⟨⟨xs,x,q,h3⟩,fun y H3 hy=>?_⟩;obtain ⟨rfl,hy⟩:=hy
  have:=hy xs q
  rw [h3] at this;cases this;exact ⟨F2,Gr.refl,fun _ r=>r,h4.grS g⟩
 | _=>cases e
def Qb3 (l:List Nat):List D:=l.map fun c=>.str [c]
def Qm2 (m:M D):M (List D):=fun ρ O=>(m ρ O).bind fun d O1=>match d with
 | .str l=>if ascii l=true then .ok (Qb3 l) O1 else .no
 | _=>.no
theorem Qk4 {K:Frag}{mg:Str→Option Value}{J:It}{ds:List D}{H F:Hp}{as:List Addr} (h1:∀(i:Nat) (d:D) (H2:Hp),ds[i]? = some d→J.go i H2∧∀x H3,J.yld i H2 x H3→H3=H2∧∀K F as,Rp K F as x d) (h2:∀H2,J.stop ds.length H2):JOk K mg P J ds H F as :=
 ⟨fun i d H2 F2 as2 _ _ e=>⟨(h1 i d H2 e).1,fun x H3 y=>by
  obtain ⟨rfl,hx⟩:=(h1 i d H2 e).2 x H3 y
  exact ⟨F2,Gr.refl,fun _ r=>r,hx _ _ _⟩⟩,fun H2 _ _ _ _=>h2 H2⟩
theorem Qo1 {tg e:Expr}{m:M D} (h:SE X md P e m):VI X md P tg e (Qm2 m):=(Qus h).imp fun σ H Q q=>by
 obtain ⟨ρ,O,F,as,ds,O',r,s,e,k⟩:=q;obtain ⟨d,O1,e1,e⟩:=Res.bind_ok e
 cases d with
 | str l =>
  dsimp only at e;split at e
  ·rename_i hl;cases e;refine ⟨ρ,_,F,as,_,_,r,s,e1,fun v H1 F1 as1 g1 r1 hv=>?_⟩;refine ⟨l,(Sv.rp hv rfl).unS,hl,k _ H1 F1 as1 g1 r1 (Qk4 (fun i d H2 e=>?_) fun H2=>by simp [Qb3,Its])⟩;unfold Qb3 at e;rw [zG] at e
   cases q:l[i]? with
   | none=>rw [q] at e; cases e
   | some c =>
    rw [q] at e;cases e;refine ⟨(zo.mp q).1,fun x H3 y=>?_⟩;obtain ⟨e1,c',e2,rfl⟩:=y;rw [q] at e2;cases e2;exact ⟨e1,fun _ _ _=>Rp.str⟩
  ·cases e
 | _=>cases e
def Qbs (lo:Int) (n:Nat):List D:=(List.range n).map fun (k:Nat)=>.int (lo+(k:Int))
def Qch (m:M (List D)):M (List D):=fun ρ O=>(m ρ O).bind fun ds O1=>match ds with
 | [.int j]=>if j≤1000000000∧-1000000000≤j then .ok (Qbs 0 j.toNat) O1 else .no
 | _=>.no
theorem Qpl {K:Frag}{mg:Str→Option Value}{lo:Int}{n:Nat}{H F:Hp}{as:List Addr}:JOk K mg P (Itr lo n) (Qbs lo n) H F as:=Qk4 (fun i d H2 e=>by
 unfold Qbs at e;rw [zG] at e
 by_cases hi:i < n
 ·rw [List.getElem?_range hi] at e;cases e;refine ⟨hi,fun x H3 y=>?_⟩;obtain ⟨e1,rfl⟩:=y;exact ⟨e1,fun _ _ _=>Rp.int⟩
 ·rw [List.getElem?_eq_none (by simpa using hi)] at e
  cases e) fun H2=>by simp [Qbs,Itr]
theorem Qbw.one {K:Frag}{H F:Hp}{as:List Addr}{m:Md}{vs:List V}{d:D} (h:Qbw K H F as [m] vs [d]):∃v,vs = [v]∧rA K m (fun _=>True) H F as v d:=by
 cases vs with
 | nil=>exact h.elim
 | cons v vs =>
  cases vs with
  | nil=>exact ⟨v,rfl,h.1⟩
  | cons u us=>exact h.2.elim
theorem Qbw.two {K:Frag}{H F:Hp}{as:List Addr}{m n:Md}{vs:List V}{d e:D} (h:Qbw K H F as [m,n] vs [d,e]):∃v u,vs = [v,u]∧rA K m (fun _=>True) H F as v d∧rA K n (fun _=>True) H F as u e:=by
 cases vs with
 | nil=>exact h.elim
 | cons v vs =>
  cases vs with
  | nil=>exact h.2.elim
  | cons u us =>
   cases us with
   | nil=>exact ⟨v,u,rfl,h.1,h.2.1⟩
   | cons w ws=>exact h.2.2.elim
theorem Qcu {tg a:Expr}{p pos:Pos}{m:M (List D)} (hm:X.mg "range" = none) (ha:AE X md P [.s] [a] m) (hg:Gl X "range":=by rfl) (hs:starEach [a] X.env = [(false,eval a X.env)]:=by exact Qh9 rfl):VI X md P tg (.Call (.Name "range" p) [a] [] pos) (Qch m):=(Qo5 hg hm ha hs).imp fun σ H Q q=>by
 obtain ⟨ρ,O,F,as,ds,O',r,s,e,k⟩:=q;obtain ⟨es,O1,e1,e⟩:=Res.bind_ok e;split at e
 ·rename_i j;split at e
  ·rename_i hj;cases e;refine ⟨ρ,_,F,as,_,_,r,s,e1,fun vs H1 F1 as1 g1 r1 hv=>?_⟩;obtain ⟨v,rfl,hv1⟩:=hv.one
   have:=(Sv.rp hv1 rfl).unI
   subst this;exact ⟨j,rfl,by omega,by omega,k _ H1 F1 as1 g1 r1 Qpl⟩
  ·cases e
 ·cases e
def Qcw:Nat→List D→List D
 | _,[]=>[]
 | k,d::ds=>.tup [.int k,d]::Qcw (k+1) ds
theorem QhK:∀(k:Nat) (ds:List D),(Qcw k ds).length=ds.length
 | _,[]=>rfl
 | k,d::ds=>by simp [Qcw,QhK (k+1) ds]
theorem QhV:∀(k:Nat) (ds:List D) (i:Nat),(Qcw k ds)[i]? = (ds[i]?).map fun d=>.tup [.int ((k+i:Nat):Int),d]
 | k,[],i=>by simp [Qcw]
 | k,d::ds,0=>by simp [Qcw]
 | k,d::ds,i+1=>by
  rw [Qcw,jc,jc,QhV (k+1) ds i];congr 1
  funext d
  congr 3;omega
theorem Qll {K:Frag}{mg:Str→Option Value}{H2 F2:Hp}{as2:List Addr}{T:Addr}{xs:List V}{ds:List D} (hr:∃O,RlO K mg O H2 F2 as2) (hT:H2 T=none) (hx:Rps K F2 as2 xs ds) :
  ∃F3,Gr H2 F2 as2 (upd H2 T (.tup xs)) F3 as2∧(∀O,RlO K mg O H2 F2 as2→RlO K mg O (upd H2 T (.tup xs)) F3 as2)∧Rp K F3 as2 (.ref T) (.tup ds):=by
 obtain ⟨O,r⟩:=hr;have hF:=r.frF hT
 have ff:Same F2 (upd F2 T (.tup xs)):=fun b u q=>by rw [Qah (Qaw q hF)]; exact q
 exact ⟨upd F2 T (.tup xs),(Gr.lay hT).frz hT hF,fun O' r'=>(r'.lay hT).frz Qay hF (fun z=>r'.all z hT) rfl,Rp.mkT (.inl Qay) (Rps.mono ff (fun _ _ z=>z) _ hx)⟩
def Qoh (m:M D):M (List D):=fun ρ O=>(m ρ O).bind fun d O1=>match d with
 | .lst ds=>.ok (Qcw 0 ds) O1
 | _=>.no
def Qog (m:M D):M (List D):=fun ρ O=>(m ρ O).bind fun d O1=>match d with
 | .str l=>if ascii l=true then .ok (Qcw 0 (Qb3 l)) O1 else .no
 | _=>.no
variable {elts:List Expr}{x1:Nat}{tpos:Pos}
theorem Qqc {a:Expr}{p pos:Pos}{m:M D} (hm:X.mg "enumerate" = none) (h:WE X md P a m) (hg:Gl X "enumerate":=by rfl) (hs:starEach [a] X.env = [(false,eval a X.env)]:=by exact Qh9 rfl) (hs':starEach [a] X.env=(false,eval a X.env)::starEach [] X.env:=by exact Qbm rfl) :
  VI X md P (.Tuple elts x1 tpos) (.Call (.Name "enumerate" p) [a] [] pos) (Qoh m):=(Qp6 hg hm (QbY h Qdf hs') hs).imp fun σ H Q q=>by
 obtain ⟨ρ,O,F,as,ds,O',r,s,e,k⟩:=q;obtain ⟨d,O1,e1,e⟩:=Res.bind_ok e
 cases d with
 | lst es =>
  cases e;refine ⟨ρ,_,F,as,_,_,r,s,e1,fun v H1 F1 as1 g1 r1 hv=>?_⟩;obtain ⟨a,xs,rfl,h1,h2⟩:=Qq4 (mg:=X.mg) hv;refine ⟨a,rfl,⟨xs,(h2 H1 F1 as1 GrS.refl ⟨_,r1⟩).sq⟩,k _ H1 F1 as1 g1 r1 ⟨fun i d H2 F2 as2 g r e=>?_,fun H2 F2 as2 g r=>⟨xs,(h2 H2 F2 as2 g r).sq,by rw [QhK,h1.length]; exact ze _⟩⟩⟩;rw [QhV] at e
  cases q:es[i]? with
  | none=>rw [q] at e; cases e
  | some y =>
   rw [q] at e;cases e;obtain ⟨x,h3,h4⟩:=h1.get' q;have hq:=h2 H2 F2 as2 g r;refine ⟨⟨xs,x,hq.sq,h3⟩,fun z H3 hz=>?_⟩;obtain ⟨T,x',rfl,hT,rfl,hx'⟩:=hz
   have:=hx' xs hq.sq
   rw [h3] at this;cases this;rw [Nat.zero_add];exact Qll r hT (Rps.cons Rp.int (Rps.cons (h4.grS g) Rps.nil))
 | _=>cases e
theorem QpP {a:Expr}{p pos:Pos}{m:M D} (hm:X.mg "enumerate" = none) (h:SE X md P a m) (hg:Gl X "enumerate":=by rfl) (hs:starEach [a] X.env = [(false,eval a X.env)]:=by exact Qh9 rfl) (hs':starEach [a] X.env=(false,eval a X.env)::starEach [] X.env:=by exact Qbm rfl) :
  VI X md P (.Tuple elts x1 tpos) (.Call (.Name "enumerate" p) [a] [] pos) (Qog m):=(Qqi hg hm (QbY h Qdf hs') hs).imp fun σ H Q q=>by
 obtain ⟨ρ,O,F,as,ds,O',r,s,e,k⟩:=q;obtain ⟨d,O1,e1,e⟩:=Res.bind_ok e
 cases d with
 | str l =>
  dsimp only at e;split at e
  ·rename_i hl;cases e;refine ⟨ρ,_,F,as,_,_,r,s,e1,fun v H1 F1 as1 g1 r1 hv=>?_⟩;refine ⟨l,by rw [(Sv.rp hv rfl).unS],hl,k _ H1 F1 as1 g1 r1 ⟨fun i d H2 F2 as2 g r e=>?_,fun H2 F2 as2 g r=>?_⟩⟩
   ·rw [QhV] at e;unfold Qb3 at e;rw [zG] at e
    cases q:l[i]? with
    | none=>rw [q] at e; cases e
    | some c =>
     rw [q] at e;cases e;refine ⟨(zo.mp q).1,fun z H3 hz=>?_⟩;obtain ⟨T,c',rfl,hT,rfl,hc'⟩:=hz;rw [q] at hc';cases hc';rw [Nat.zero_add];exact Qll r hT (Rps.cons Rp.int (Rps.cons Rp.str Rps.nil))
   ·show l.length≤_;rw [QhK];simp [Qb3]
  ·cases e
 | _=>cases e
def Qhb:List D→Option (List (List Nat))
 | []=>some []
 | .str l::ds=>(Qhb ds).map (l :: ·)
 | _=>none
theorem Rps.strs {K:Frag}{F:Hp}{as:List Addr}:∀{ds:List D}{xs:List V}{ls:List (List Nat)},Rps K F as xs ds→Qhb ds=some ls→xs=ls.map fun l=>V.str (S l)
 | [],xs,bs,h,e=>by cases e; rw [h.un0]; rfl
 | d::ds,xs,bs,h,e=>by
  obtain ⟨x,r,rfl,h2,h3⟩:=h.un
  cases d with
  | str b =>
   unfold Qhb at e
   cases q:Qhb ds with
   | none=>rw [q] at e; cases e
   | some cs =>
    rw [q] at e;cases e;rw [h2.unS,Rps.strs h3 q];rfl
  | _=>cases e
def QvB (m:M D):M D:=fun ρ O=>(m ρ O).bind fun d O1=>match QaN O1 d with
 | .lst ds=>match Qhb ds with
  | some ls=>if (ls.map List.length).sum≤1000000 then .ok (.str ls.flatten) O1 else .no
  | none=>.no
 | _=>.no
def Qrz (mo m:M D):M D:=fun ρ O=>(mo ρ O).bind fun a O1=>(m ρ O1).bind fun b O2=>match a,b with
 | .str l,.str n=>.ok (.bl (decide (l.take n.length=n))) O2
 | _,_=>.no
end
section
variable {K:Frag}{mg:Str→Option Value}{md:List Md}{P:Pt}{ρ:Qai}{σ:St}{H F:Hp}{as:List Addr}{O:Qac}{i:Nat}{a:Addr}{xs xs':List V}{ds ds':List D}
theorem SlO.own (s:SlO K md P ρ σ H F as) (hm:md[i]? = some .o) (hρ:ρ[i]? = some (some (.lst ds))):∃a xs,σ[i]? = some (some (.ref a))∧H a=some (.lst xs)∧F a=none∧a∉as∧¬P a∧Rps K F as xs ds:=by
 obtain ⟨v,h1,h2⟩:=s.sl i .o _ hm hρ
 rcases h2 with ⟨h2,_⟩ | ⟨a,xs,es,rfl,e2,e3,e0,e4,e5,e6⟩
 ·cases h2
 ·cases e2;exact ⟨a,xs,h1,e3,e0,e4,e5,e6⟩
theorem SlO.mut (s:SlO K md P ρ σ H F as) (hm:md[i]? = some .o) (hρ:ρ[i]? = some (some (.lst ds))) (hσ:σ[i]? = some (some (.ref a))) (hF:F a=none) (ha:a∉as) (hP:¬P a) (r:Rps K F as xs' ds'):SlO K md P (ρ.set i (some (.lst ds'))) σ (upd H a (.lst xs')) F as:=by
 have hi:i < md.length:=(zo.mp hm).1;refine ⟨s.len,by rw [zT]; exact s.len',fun c p=>?_,fun j m d e1 e2=>?_,fun j k c es fs h1 h2 h3 h4 h5 h6=>?_,fun x hx=>?_⟩
 ·have:=s.pd c p
  unfold upd
  split
  ·exact fun z=>nomatch z
  ·exact this
 ·by_cases h:i=j
  ·subst h;rw [hm] at e1; cases e1;rw [zI (by rw [s.len']; exact hi)] at e2;cases e2;exact ⟨_,hσ,.inr ⟨a,xs',ds',rfl,rfl,Qay,hF,ha,hP,r⟩⟩
  ·rw [zt h] at e2;obtain ⟨v,q1,q2⟩:=s.sl j m d e1 e2;refine ⟨v,q1,?_⟩
   cases m with
   | v=>exact q2
   | s =>
    rcases q2 with q2 | ⟨c,ys,es,z1,z2,z3,z4,z5,z6⟩
    ·exact .inl q2
    ·exact .inr ⟨c,ys,es,z1,z2,by rw [Qah (fun z=>hP (by rw [←z]; exact z5))]; exact z3,z4,z5,z6⟩
   | o =>
    rcases q2 with q2 | ⟨c,ys,es,z1,z2,z3,z0,z4,z5,z6⟩
    ·exact .inl q2
    ·refine .inr ⟨c,ys,es,z1,z2,?_,z0,z4,z5,z6⟩;rw [Qah]
     ·exact z3
     ·intro z;subst z z1 z2;exact h (s.inj i j c ds es hm e1 hρ e2 hσ q1)
 ·have f:∀k es,(ρ.set i (some (.lst ds')))[k]? = some (some (D.lst es))→∃es',ρ[k]? = some (some (D.lst es')):=fun k es q=>by
   by_cases h:i=k
   ·subst h; exact ⟨ds,hρ⟩
   ·rw [zt h] at q; exact ⟨es,q⟩
  obtain ⟨es',q3⟩:=f j es h3;obtain ⟨fs',q4⟩:=f k fs h4;exact s.inj j k c es' fs' h1 h2 q3 q4 h5 h6
 ·obtain ⟨p1,p2,p3⟩:=s.pin x hx
  have hne:i≠x.1:=fun z=>by rw [←z,hm] at p1; cases p1
  exact ⟨p1,by rw [zt hne]; exact p2,p3⟩
theorem Qn3 {xs:List V} (hH:H a=some (.lst xs)) (hP:¬P a) {o:HO}:GrS P H F as (upd H a o) F as :=
 ⟨fun _ _ _ _ _ _=>rfl,Same.refl F,⟨[],by simp,fun _ h=>nomatch h⟩,fun c u p e _ _=>by rw [Qah (fun z=>hP (by rw [←z]; exact p))]; exact e,fun c e=>by
  by_cases h:c=a
  ·subst h; rw [Qay] at e; cases e
  ·rwa [Qah h] at e,fun c o' u e=>by rw [Qah (fun z=>by rw [z,hH] at e; cases e)]; exact e⟩
theorem RlO.mut (r:RlO K mg O H F as) (hF:F a=none) (ha:a∉as) {o:HO}:RlO K mg O (upd H a o) F as:=by
 refine ⟨fun c u e=>?_,r.fd,r.nd,r.len,r.fa,fun n c u hc hu=>(r.ob n c u hc hu).keep (Qah ?_) (Same.refl F) fun _ _ h=>h⟩
 ·rw [Qah (Qaw e hF)]; exact r.fh c u e
 ·intro z; subst z; exact ha (zR hc)
end
section
variable {X:Cx}{md:List Md}{P:Pt}{R:RR}
def Qc8 (i:Nat) (m:M D):MS:=fun ρ O=>match m ρ O with
 | .ok d O'=>match ρ[i]? with
  | some (some (.lst ds))=>if ds.length < 1000000 then .nx (ρ.set i (some (.lst (ds ++ [d])))) O' else .no
  | _=>.no
 | .ex x O'=>.ex x O'
 | .no=>.no
theorem Qo4 {i:Nat}{m:M D}{ρ:Qai}{O:Qac} (K:Frag) (mg:Str→Option Value) {D:Ends}{H F:Hp}{as:List Addr} (k:Qgj K mg md P R D H F as (Qc8 i m ρ O)) :
  ∃d O' ds,m ρ O = .ok d O'∧ρ[i]? = some (some (.lst ds))∧ds.length < 1000000∧Qgj K mg md P R D H F as (.nx (ρ.set i (some (.lst (ds ++ [d])))) O'):=by
 unfold Qc8 at k;split at k
 ·rename_i d O' e;split at k
  ·rename_i ds e2;split at k
   ·rename_i hz;exact ⟨d,O',ds,e,e2,hz,k⟩
   ·exact False.elim k
  ·exact False.elim k
 ·exact False.elim k
 ·exact False.elim k
theorem Qf4 (i:Nat) {x:Str}{p apos cpos pos:Pos}{e:Expr}{m:M D} (h:VE X md P e m) (hm:md[i]? = some .o:=by rfl) (hN:X.N[i]? = some x:=by rfl) (hv:Vis X.env.scope x:=by first | exact Or.inl rfl | exact Or.inr (Or.inl rfl) | exact Or.inr (Or.inr rfl))
  (hd:(x == ("__debug__":Str))=false:=by decide) (hcd:(x == ("__classdict__":Str))=false:=by decide)
  (hbase:attributeBase (.Name x p) "append" X.env (eval (.Name x p) X.env)=eval (.Name x p) X.env:=by rfl)
  (hfew:((backTo cpos (starEach [e] X.env)).all (fun x=>!x.1)&&(backToKw cpos (keywordEach [] X.env)).all (fun x=>x.1.isSome)&&decide ([e].length+([]:List Keyword).length+(if ([]:List Keyword).isEmpty then 0 else 1) < 30))=true:=by rfl)
  (hline:(apos.endLine == cpos.line)=true:=by rfl) (hs:starEach [e] X.env=(false,eval e X.env)::starEach [] X.env:=by exact Qbm rfl) (hplain:(backTo cpos (starEach [] X.env)).any (·.1)=false:=by exact Qbu rfl)
  (hsw:swapsWith (.Call (.Attribute (.Name x p) "append" apos) [e] [] cpos) none pos.line X.env=pure false:=by rfl) :
  VS X md P R (.Expr (.Call (.Attribute (.Name x p) "append" apos) [e] [] cpos) pos) (Qc8 i m) :=
 (QjJ (QvE PySem.F.plainAttrs_list PySem.F.slot_list_append PySem.F.type_list_append Qpu (QeQ (i:=i) hN hv hd hcd) (QbY h Qdf hs) hbase hfew hline hs hplain) hsw).imp fun D σ H q=>by
  obtain ⟨ρ,O,F,as,r,s,k⟩:=q;obtain ⟨d,O',ds,e,e2,hz,k⟩:=Qo4 X.K X.mg k;obtain ⟨a,xs,h1,h2,h3,h4,h5,h6⟩:=s.own hm e2;refine ⟨_,h1,.inl ⟨rfl,xs,.inl (.inl h2)⟩,ρ,O,F,as,d,O',r,s,e,fun y H1 F1 as1 g1 r1 hy=>?_⟩;have s1:=s.step g1
  have hn:H a≠none:=by rw [h2]; exact fun z=>nomatch z
  have q2:=g1.fr _ _ h2 h4 rfl
  have q3:F1 a=none:=by rw [g1.fz a _ h2 h4 rfl]; exact h3
  have q4:=g1.out h4 hn
  have hn1:H1 a≠none:=by rw [q2]; exact fun z=>nomatch z
  exact ⟨a,xs,y,rfl,rfl,q2,by rw [h6.length]; exact zA hz (by decide),k σ _ F1 as1 (g1.toS.trans (Qn3 q2 h5)) (r1.mut q3 q4) (s1.mut hm e2 h1 q3 q4 h5 ((h6.gr g1).snoc hy))⟩
def QvF (i:Nat) (m:M D):MS:=fun ρ O=>match m ρ O with
 | .ok d O'=>match ρ[i]?,QaN O' d with
  | some (some (.lst ds)),.lst es=>if ds.length+es.length≤1000000 then .nx (ρ.set i (some (.lst (ds++es)))) O' else .no
  | _,_=>.no
 | .ex x O'=>.ex x O'
 | .no=>.no
def Qia (i:Nat):MS:=fun ρ O=>match ρ[i]? with
 | some (some (.lst _))=>.nx (ρ.set i (some (.lst []))) O
 | _=>.no
theorem Qqg (i:Nat) {x:Str}{p apos cpos pos:Pos} (hm:md[i]? = some .o:=by rfl) (hN:X.N[i]? = some x:=by rfl) (hv:Vis X.env.scope x:=by first | exact Or.inl rfl | exact Or.inr (Or.inl rfl) | exact Or.inr (Or.inr rfl))
  (hd:(x == ("__debug__":Str))=false:=by decide) (hcd:(x == ("__classdict__":Str))=false:=by decide)
  (hbase:attributeBase (.Name x p) "clear" X.env (eval (.Name x p) X.env)=eval (.Name x p) X.env:=by rfl) (hline:(apos.endLine == cpos.line)=true:=by rfl)
  (hsw:swapsWith (.Call (.Attribute (.Name x p) "clear" apos) [] [] cpos) none pos.line X.env=pure false:=by rfl) :
  VS X md P R (.Expr (.Call (.Attribute (.Name x p) "clear" apos) [] [] cpos) pos) (Qia i) :=
 (QjJ (QsY PySem.F.plainAttrs_list PySem.F.slot_list_clear PySem.F.type_list_clear QqB (QeQ (i:=i) hN hv hd hcd) hbase hline) hsw).imp fun D σ H q=>by
  obtain ⟨ρ,O,F,as,r,s,k⟩:=q;unfold Qia at k;split at k
  ·rename_i ds e2;obtain ⟨a,xs,h1,h2,h3,h4,h5,h6⟩:=s.own hm e2
   have hn:H a≠none:=by rw [h2]; exact fun z=>nomatch z
   exact ⟨_,h1,.inl ⟨rfl,xs,.inl (.inl h2)⟩,a,xs,rfl,rfl,h2,k σ _ F as (Qn3 h2 h5) (r.mut h3 h4) (s.mut hm e2 h1 h3 h4 h5 Rps.nil)⟩
  ·exact False.elim k
end
def putD (f:Str) (v:D):List (Str×D)→List (Str×D)
 | []=>[(f,v)]
 | (g,x)::r=>if g=f then (g,v)::r else (g,x)::putD f v r
section
variable {K:Frag}{F:Hp}{as:List Addr}
theorem FsR.cons_inv {gs:List (Str×V)}{f:Str}{d:D}{fs:List (Str×D)} (h:FsR K F as gs ((f,d)::fs)):∃v gs',gs=(f,v)::gs'∧Rp K F as v d∧FsR K F as gs' fs:=by
 obtain ⟨h1,h2⟩:=h
 cases gs with
 | nil=>cases h1
 | cons g gs' =>
  obtain ⟨g1,g2⟩:=g;simp only [zg,List.cons.injEq] at h1;obtain ⟨x,r,e,h3,h4⟩:=h2.un;simp only [zg,List.cons.injEq] at e;obtain ⟨rfl,rfl⟩:=e;exact ⟨g2,gs',by rw [h1.1],h3,⟨h1.2,h4⟩⟩
theorem FsR.nil_inv {gs:List (Str×V)} (h:FsR K F as gs []):gs = []:=List.map_eq_nil_iff.mp h.nm
theorem FsR.get:∀{fs:List (Str×D)}{gs:List (Str×V)}{f:Str}{d:D},FsR K F as gs fs→fs.lookup f=some d→∃v,gs.lookup f=some v∧Rp K F as v d
 | [],_,_,_,_,e=>by cases e
 | (g,x)::fs,gs,f,d,h,e=>by
  obtain ⟨v,gs',rfl,h1,h2⟩:=h.cons_inv;rw [List.lookup_cons] at e ⊢
  cases q:f == g with
  | true =>
   rw [q] at e;cases e;exact ⟨v,rfl,h1⟩
  | false =>
   rw [q] at e;exact FsR.get h2 e
theorem FsR.no:∀{fs:List (Str×D)}{gs:List (Str×V)}{f:Str},FsR K F as gs fs→fs.lookup f=none→gs.lookup f=none
 | [],_,_,h,e=>by rw [h.nil_inv]; rfl
 | (g,x)::fs,gs,f,h,e=>by
  obtain ⟨v,gs',rfl,h1,h2⟩:=h.cons_inv;rw [List.lookup_cons] at e ⊢
  cases q:f == g with
  | true=>rw [q] at e; cases e
  | false =>
   rw [q] at e;exact FsR.no h2 e
theorem FsR.put {f:Str}{v:V}{d:D} (hv:Rp K F as v d):∀{fs:List (Str×D)}{gs:List (Str×V)},FsR K F as gs fs→FsR K F as (QcW f v gs) (putD f d fs)
 | [],_,h=>by
  rw [h.nil_inv];exact ⟨rfl,Rps.cons hv Rps.nil⟩
 | (g,x)::fs,gs,h=>by
  obtain ⟨u,gs',rfl,h1,h2⟩:=h.cons_inv;rw [QcW,putD]
  by_cases q:g=f
  ·rw [if_pos q,if_pos q];exact ⟨by simp [h2.nm],Rps.cons hv h2.vl⟩
  ·rw [if_neg q,if_neg q];have ih:=FsR.put (f:=f) hv h2;exact ⟨by simp [ih.nm],Rps.cons h1 ih.vl⟩
theorem FsR.length {fs:List (Str×D)}{gs:List (Str×V)} (h:FsR K F as gs fs):gs.length=fs.length:=by
 have:=congrArg List.length h.nm
 simpa using this
theorem RlO.set {mg:Str→Option Value}{O:Qac}{H:Hp}{n:Nat}{a:Addr}{o:Ob}{u:HO} (r:RlO K mg O H F as) (ha:as[n]? = some a) (ho:ObR K mg (upd H a u) F as a o):RlO K mg (O.set n o) (upd H a u) F as:=by
 have hF:=r.fa a (zR ha);refine ⟨fun c w e=>?_,r.fd,r.nd,by rw [zT]; exact r.len,r.fa,fun k c w hc hw=>?_⟩
 ·rw [Qah (Qaw e hF)]; exact r.fh c w e
 ·by_cases h:n=k
  ·subst h;rw [ha] at hc; cases hc;rw [zI (by rw [←r.len]; exact (zo.mp ha).1)] at hw;cases hw;exact ho
  ·rw [zt h] at hw
   refine (r.ob k c w hc hw).keep (Qah ?_) (Same.refl F) fun _ _ h=>h
   intro z;subst z;obtain ⟨l1,q1⟩:=zo.mp ha;obtain ⟨l2,q2⟩:=zo.mp hc;exact h ((List.getElem_inj r.nd).mp (q1.trans q2.symm))
end
def KC (K:Frag) (mg:Str→Option Value) (c f:Str):Prop:=∃C,mg c=some (.ref C)∧Cls K C∧QfR K C f
section
variable {X:Cx}{md:List Md}{P:Pt}{R:RR}
def QcY (cs:List Str) (f:Str) (m:M D):M D:=fun ρ O=>(m ρ O).bind fun d O1=>match d with
 | .ob n=>match O1[n]? with
  | some (.ins c fs)=>if c∈cs then match fs.lookup f with
   | some y=>.ok y O1
   | none=>.no else .no
  | _=>.no
 | _=>.no
theorem QeR {cs:List Str}{f:Str}{o:Expr}{pos:Pos}{m:M D} (hc:∀c∈cs,KC X.K X.mg c f) (h:VE X md P o m) (hb:attributeBase o f X.env (eval o X.env)=eval o X.env:=by rfl):VE X md P (.Attribute o f pos) (QcY cs f m):=(QsR h hb).imp fun σ H Q q=>by
 obtain ⟨ρ,O,F,as,d,O',r,s,e,k⟩:=q;obtain ⟨x,O1,e1,e⟩:=Res.bind_ok e
 cases x with
 | ob n =>
  dsimp only at e;split at e
  ·rename_i c fs eo;split at e
   ·rename_i hcs;split at e
    ·rename_i y ey;cases e;refine ⟨ρ,_,F,as,_,_,r,s,e1,fun v H1 F1 as1 g1 r1 hv=>?_⟩;obtain ⟨a,rfl,ha⟩:=Rp.unO hv;obtain ⟨C,dx,gs,h1,h2,h3⟩:=r1.ob n a _ ha eo;obtain ⟨C',h4,h5,h6⟩:=hc c hcs;rw [h1] at h4; cases h4;obtain ⟨w,h7,h8⟩:=h3.get ey;exact ⟨a,C,dx,gs,w,rfl,h2,h5,h6,h7,k w H1 F1 as1 g1 r1 h8⟩
    ·cases e
   ·cases e
  ·cases e
 | _=>cases e
def QeE (cs:List Str) (f:Str) (mo mv:M D):MS:=fun ρ O=>match mv ρ O with
 | .ok d O1=>match mo ρ O1 with
  | .ok (.ob n) O2=>match O2[n]? with
   | some (.ins c fs)=>if c∈cs∧fs.length < 900 then .nx ρ (O2.set n (.ins c (putD f d fs))) else .no
   | _=>.no
  | _=>.no
 | .ex x O'=>.ex x O'
 | .no=>.no
theorem Qk6 {cs:List Str}{f:Str}{o value:Expr}{pos pos':Pos}{mo mv:M D} (hc:∀c∈cs,KC X.K X.mg c f) (ho:VE X md P o mo) (hv:VE X md P value mv) (hs:swapsWith value (some (.Attribute o f pos')) pos.line X.env=pure false:=by rfl):VS X md P R (.Assign [.Attribute o f pos'] value pos) (QeE cs f mo mv):=(Qt0 ho hv hs).imp fun D σ H q=>by
 obtain ⟨ρ,O,F,as,r,s,k⟩:=q;unfold QeE at k;split at k
 ·rename_i d O1 e1;split at k
  ·rename_i n O2 e2;split at k
   ·rename_i c fs eo;split at k
    ·rename_i hcs;refine ⟨ρ,O,F,as,d,O1,r,s,e1,fun y H1 F1 as1 g1 r1 hy=>?_⟩;refine ⟨ρ,O1,F1,as1,.ob n,O2,r1,s.step g1,e2,fun z H2 F2 as2 g2 r2 hz=>?_⟩;have g:=g1.trans g2;obtain ⟨a,rfl,ha⟩:=Rp.unO hz;obtain ⟨C,dx,gs,h1,h2,h3⟩:=r2.ob n a _ ha eo;obtain ⟨C',h4,h5,h6⟩:=hc c hcs.1;rw [h1] at h4; cases h4;have hmem:=zR ha
     have hn:H2 a≠none:=by rw [h2]; exact fun z=>nomatch z
     have gg:Gr H2 F2 as2 (upd H2 a (.ins C dx (QcW f y gs))) F2 as2:=⟨fun _ _ _ _ _=>rfl,Same.refl _,⟨[],by simp,fun _ h=>nomatch h⟩,fun b u e hb _=>by rw [Qah (fun z=>hb (by rw [z]; exact hmem))]; exact e,fun b e=>by
      by_cases h:b=a
      ·subst h; rw [Qay] at e; cases e
      ·rwa [Qah h] at e,fun b o' u e=>by rw [Qah (fun z=>by rw [z,h2] at e; cases e)]; exact e⟩
     refine ⟨a,C,dx,gs,rfl,h2,h5,h6,by rw [h3.length]; omega,?_⟩;exact k σ _ F2 as2 (g.trans gg).toS (r2.set ha ⟨C,dx,_,h1,Qay,h3.put (Rp.gr hy g2)⟩) ((s.step g).step gg)
    ·exact False.elim k
   ·exact False.elim k
  ·exact False.elim k
 ·exact False.elim k
 ·exact False.elim k
end
section
variable {Pr:Program}{w:World}{K:Frag}{mg:Str→Option Value}{base:Heap}
theorem QwV {x qual:Str}{st:Stmt}{f:Addr}{fd:FuncData}{N ps:List Str}{k:Nat} (Fn:Fun K x qual st f fd) (S:QaI N ps (Qaj st))
  (pm lm:List Md) {R:RR}{b:MS} (hR:QcQ R) (hR0:∀N H F as,R N H F as .non .non) (hpl:pm.length=ps.length) (hl:(pm++lm).length=N.length) (hp:∀m∈pm,m≠.o)
  (body:∀(cdv:Value) (A:Around) (outer:List Env) (s:Shared) (H:Hp) (E:XK),QaG k (A.deeper (envOfC qual (Qaj st) s.heap.objs.size f cdv))→∀P,VSs ((Qcy CX0 Pr w K mg base N qual (Qaj st) f cdv A outer s H E).nox) (pm++lm) P R (QaX st) b) :
  Qbp Pr w K mg base CX0 (k+1) f fd ps (vSp K mg pm R (Qbn N.length b)):=by
 refine Fn.ok S (fun vs H Q E h=>?_) (fun cdv A outer s H vs Q E hr h=>?_)
 ·obtain ⟨ds,O,F,as,d,O',r,a,_⟩:=h;rw [a.len.1,hpl]
 ·obtain ⟨ds,O,F,as,d,O',r,a,e,q⟩:=h;refine ⟨_,body cdv A outer s H E hr (Pt.all H),?_⟩;refine ⟨_,O,F,as,r,Qgi a hl hp,?_⟩;unfold Qbn at e
  cases eb:b (ds.map some++List.replicate (N.length - ds.length) none) O with
  | rt d' O2 =>
   rw [eb] at e;cases e
   exact fun v H' F' as' g r' hv=>q v H' F' as' g.gr r' (hR _ _ _ _ _ _ _ (fun c hc=>Classical.not_not.mp hc) hv)
  | nx ρ O2 =>
   rw [eb] at e;cases e
   exact fun σ' H' F' as' g r' _=>q _ H' F' as' g.gr r' (hR0 _ _ _ _)
  | bk _ _=>rw [eb] at e; cases e
  | ct _ _=>rw [eb] at e; cases e
  | ex _ _=>rw [eb] at e; cases e
  | no=>rw [eb] at e; cases e
def QiA (K:Frag) (mg:Str→Option Value) (c m qual:Str) (st:Stmt):Prop:=∃C f fd,mg c=some (.ref C)∧Cls K C∧Qiy K C m f∧Fun K m qual st f fd
def Qe6 (P:Program) (w:World) (K:Frag) (mg:Str→Option Value) (base:Heap) (c m:Str) (ps:List Str) (k:Nat) (sp:Sp):Prop :=
 ∃C f fd,mg c=some (.ref C)∧Cls K C∧Qiy K C m f∧Binds K fd ps []∧Qbp P w K mg base CX0 k f fd ps sp
def Qp8 (P:Program) (w:World) (K:Frag) (mg:Str→Option Value) (base:Heap) (c:Str) (ps:List Str) (k:Nat) (sp:Sp):Prop :=
 ∃C f fd,mg c=some (.ref C)∧Mk K C f∧Binds K fd ps []∧Qbp P w K mg base CX0 k f fd ps sp
def QpQ (K:Frag) (mg:Str→Option Value) (c qual:Str) (st:Stmt):Prop:=∃C f fd,mg c=some (.ref C)∧Mk K C f∧Fun K "__init__" qual st f fd
theorem QqN {c x qual:Str}{st:Stmt}{N ps:List Str}{k:Nat} (Df:QiA K mg c x qual st) (S:QaI N ps (Qaj st))
  (hb:∀(kV doc pm:Value) (an:Option Addr) (cdv ct:Value) (us:List Value),us.length=ps.length→bindArgs (PySem.W.fnOf x qual (QbD st) (QaX st) (Qaj st) .none kV doc pm an cdv ct) ⟨us,[]⟩=pure (ps.zip us))
  (pm lm:List Md) {R:RR}{b:MS} (hR:QcQ R) (hR0:∀N H F as,R N H F as .non .non) (hpl:pm.length=ps.length:=by rfl) (hl:(pm++lm).length=N.length:=by rfl) (hp:∀m∈pm,m≠.o:=by decide)
  (body:∀(f:Addr) (cdv:Value) (A:Around) (outer:List Env) (s:Shared) (H:Hp) (E:XK),QaG k (A.deeper (envOfC qual (Qaj st) s.heap.objs.size f cdv))→∀P,VSs ((Qcy CX0 Pr w K mg base N qual (Qaj st) f cdv A outer s H E).nox) (pm++lm) P R (QaX st) b) :
  Qe6 Pr w K mg base c x ps (k+1) (vSp K mg pm R (Qbn N.length b)):=by
 obtain ⟨C,f,fd,h1,h2,h3,h4⟩:=Df;exact ⟨C,f,fd,h1,h2,h3,h4.binds hb,QwV h4 S pm lm hR hR0 hpl hl hp (body f)⟩
end
section
variable {X:Cx}{md:List Md}{P:Pt}{R:RR}{k:Nat}{c m:Str}{ps:List Str}{p pos apos:Pos}{o e:Expr}{es:List Expr}{pm:List Md}{cf:List D→Qac→Res D}{mo:M D}{ma:M (List D)}
def Qct (c m:Str) (cf:List D→Qac→Res D) (mo:M D) (ma:M (List D)):M D:=fun ρ O=>(mo ρ O).bind fun d O1=>match d with
 | .ob n=>match O1[n]? with
  | some (.ins c' fs)=>if c'=c∧(fs.lookup m).isNone=true then (ma ρ O1).bind fun ds O2=>cf (.ob n::ds) O2 else .no
  | _=>.no
 | _=>.no
theorem QmU {K:Frag}{mg:Str→Option Value}{C:Addr} (hR:QcQ R) (hC:mg c=some (.ref C)) {E:XK}{σ:St}{H:Hp}{Q:VK} (q:tM K mg md P R (Qct c m cf mo ma) σ H Q) :
  Qnf C m (vSp K mg (.v::pm) R cf) [] E (tM K mg md P (rV K) mo) (tMA K mg md P pm ma) σ H Q:=by
 obtain ⟨ρ,O,F,as,d,O',r,s,e,k⟩:=q;obtain ⟨x,O1,e1,e⟩:=Res.bind_ok e
 cases x with
 | ob n =>
  dsimp only at e;split at e
  ·rename_i c' fs eo;split at e
   ·rename_i hc;obtain ⟨ds,O2,e2,e⟩:=Res.bind_ok e;refine ⟨ρ,O,F,as,.ob n,O1,r,s,e1,fun v H1 F1 as1 g1 r1 hv=>?_⟩;obtain ⟨a,rfl,ha⟩:=Rp.unO hv;obtain ⟨C',dx,gs,h1,h2,h3⟩:=r1.ob n a _ ha eo;rw [hc.1,hC] at h1; cases h1;refine ⟨a,dx,gs,rfl,h2,h3.no (Option.isNone_iff_eq_none.mp hc.2),?_⟩;refine ⟨ρ,O1,F1,as1,ds,O2,r1,s.step g1,e2,fun vs H2 F2 as2 g2 r2 hvs=>?_⟩;dsimp only;rw [zP];exact ⟨.ob n::ds,O2,F2,as2,d,O',r2,⟨Rp.gr hv g2,hvs⟩,e,fun v' H' F' as' g' r' hw=>k v' H' F' as' ((g1.trans g2).trans g') r' (hR _ _ _ _ _ _ _ (fun b hb=>(g1.trans g2).dm b hb) hw)⟩
   ·cases e
  ·cases e
 | _=>cases e
theorem Qsu {pl:Sem Bool} (hR:QcQ R) (M:Qe6 X.prog X.w X.K X.mg X.base c m ps k (vSp X.K X.mg (.v::pm) R cf)) (hr:QaG k X.A) (ho:VE X md P o mo) (ha:AE X md P pm (e::es) ma)
  (hst:starEach (e::es) X.env=(false,eval e X.env)::starEach es X.env:=by exact Qbm rfl) (hpl:(backTo pos (starEach es X.env)).any (·.1)=false:=by exact Qbu rfl)
  (ht:eval (.Call (.Attribute o m apos) (e::es) [] pos) X.env=(do
   let ov ←eval o X.env
   standAt apos.atName
   let (f,first) ←holding [ov] (getMethod ov m pl)
   callWith pos f first (backTo pos (starEach (e::es) X.env)) (backToKw pos (keywordEach [] X.env))):=by rfl) :
  PE X (.Call (.Attribute o m apos) (e::es) [] pos) (tM X.K X.mg md P R (Qct c m cf mo ma)):=by
 obtain ⟨C,f,fd,h1,h2,h3,h4,h5⟩:=M
 exact (Qrc (pl:=pl) (E:=E0) (ds:=[]) (dvs:=[]) ho h2 h3 h5 hr h4 .nil QkE ha hst hpl ht).imp fun _ _ _ q=>QmU hR h1 q
theorem QlF {pl:Sem Bool} (hR:QcQ R) (M:Qe6 X.prog X.w X.K X.mg X.base c m ps k (vSp X.K X.mg [.v] R cf)) (hr:QaG k X.A) (ho:VE X md P o mo)
  (ht:eval (.Call (.Attribute o m apos) [] [] pos) X.env=(do
   let ov ←eval o X.env
   standAt apos.atName
   let (f,first) ←holding [ov] (getMethod ov m pl)
   callWith pos f first (backTo pos (starEach [] X.env)) (backToKw pos (keywordEach [] X.env))):=by rfl) :
  PE X (.Call (.Attribute o m apos) [] [] pos) (tM X.K X.mg md P R (Qct c m cf mo Qag)):=by
 obtain ⟨C,f,fd,h1,h2,h3,h4,h5⟩:=M
 refine (Qqq (pl:=pl) (E:=E0) (ds:=[]) (dvs:=[]) ho h2 h3 h5 hr h4 .nil QkE ht).imp fun σ H Q q=>?_
 obtain ⟨ρ,O,F,as,d,O',r,s,e,k⟩:=QmU (pm:=[]) (E:=E0) hR h1 q;refine ⟨ρ,O,F,as,d,O',r,s,e,fun v H' F' as' g r' hv=>?_⟩;obtain ⟨a,dx,fs,e1,e2,e3,t⟩:=k v H' F' as' g r' hv;refine ⟨a,dx,fs,e1,e2,e3,?_⟩;obtain ⟨ρ1,O1,F1,as1,ds1,O2,r1,s1,e4,k4⟩:=t;cases e4;exact k4 [] H' F1 as1 Gr.refl r1 trivial
def Qie (c:Str) (cf:List D→Qac→Res D) (ma:M (List D)):M D:=fun ρ O=>(ma ρ O).bind fun ds O1=>match cf (.ob O1.length::ds) (O1 ++ [.ins c []]) with
 | .ok .non O2=>.ok (.ob O1.length) O2
 | .ok _ _=>.no
 | .ex x O2=>.ex x O2
 | .no=>.no
theorem QsA {K:Frag}{mg:Str→Option Value}{C:Addr} (hC:mg c=some (.ref C)) {E:XK}{σ:St}{H:Hp}{Q:VK} (q:tM K mg md P (rV K) (Qie c cf ma) σ H Q) :
  QqM C (vSp K mg (.v::pm) (rV K) cf) [] E (tMA K mg md P pm ma) σ H Q:=by
 obtain ⟨ρ,O,F,as,d,O',r,s,e,k⟩:=q;obtain ⟨ds,O1,e1,e⟩:=Res.bind_ok e;split at e
 ·rename_i O2 ec;cases e;refine ⟨ρ,O,F,as,ds,O1,r,s,e1,fun vs H1 F1 as1 g1 r1 hvs=>?_⟩;intro x dx hx hdx hne;rw [zP]
  have hx2:upd H1 dx (.own x) x=none:=by rw [Qah hne.symm]; exact hx
  have gA:Gr H1 F1 as1 (upd H1 dx (.own x)) F1 as1:=Gr.lay hdx;have gB:Gr (upd H1 dx (.own x)) F1 as1 (upd (upd H1 dx (.own x)) x (.ins C dx [])) F1 as1:=Gr.lay hx2;have gC:Gr (upd (upd H1 dx (.own x)) x (.ins C dx [])) F1 as1 (upd (upd H1 dx (.own x)) x (.ins C dx [])) F1 as1:=Gr.refl;have gAB:=gA.trans gB;have g2:Gr H1 F1 as1 (upd (upd H1 dx (.own x)) x (.ins C dx [])) F1 (as1 ++ [x]):=⟨gAB.fz,gAB.ff,⟨[x],rfl,fun a ha=>by rw [zv.mp ha]; exact hx⟩,fun a o e ha hd=>gAB.fr a o e ha hd,gAB.dm,gAB.kz⟩
  have nx:x∉as1:=fun z=>r1.all z hx
  have rB:=(r1.lay (o:=.own x) hdx).lay (o:=.ins C dx []) hx2
  have at_:∀(n:Nat) (a:Addr),as1[n]? = some a→(as1 ++ [x])[n]? = some a:=fun n a h=>by
   rw [zy (zo.mp h).1]; exact h
  have r2:RlO K mg (O1 ++ [.ins c []]) (upd (upd H1 dx (.own x)) x (.ins C dx [])) F1 (as1 ++ [x]):=by
   refine ⟨rB.fh,rB.fd,?_,by simp [r1.len],fun a ha=>?_,fun n a o ha ho=>?_⟩
   ·rw [jm];refine ⟨r1.nd,by simp,fun a ha b hb=>?_⟩;rw [zv.mp hb];intro z;subst z;exact nx ha
   ·rcases zC.mp ha with z | z
    ·exact r1.fa a z
    ·rw [zv.mp z];exact r1.frF hx
   ·by_cases hn:n < O1.length
    ·rw [zy (by rw [r1.len]; exact hn)] at ha;rw [zy hn] at ho;exact (rB.ob n a o ha ho).keep rfl (Same.refl _) at_
    ·have hn':n=O1.length:=by
      have:=(zo.mp ho).1
      simp at this
      omega
     subst hn';rw [zE (ze _),Nat.sub_self] at ho;rw [←r1.len,zE (ze _),Nat.sub_self] at ha;cases ho;cases ha;exact ⟨C,dx,[],hC,Qay,⟨rfl,Rps.nil⟩⟩
  have hox:Rp K F1 (as1 ++ [x]) (.ref x) (.ob O1.length):=Rp.mkO (by rw [←r1.len,zE (ze _),Nat.sub_self]; rfl);refine ⟨.ob O1.length::ds,_,F1,as1 ++ [x],.non,_,r2,⟨hox,hvs.gr g2⟩,ec,fun v H3 F3 as3 g3 r3 hv=>?_⟩;exact ⟨Rp.unN hv,k _ H3 F3 as3 ((g1.trans g2).trans g3) r3 (Rp.gr hox g3)⟩
 ·cases e
 ·cases e
 ·cases e
theorem Qrt (M:Qp8 X.prog X.w X.K X.mg X.base c ps k (vSp X.K X.mg (.v::pm) (rV X.K) cf)) (hr:QaG (k+1) X.A) (ha:AE X md P pm (e::es) ma) (hg:Gl X c:=by rfl) (hdb:(c == ("__debug__":Str))=false:=by decide)
  (he:starEach (e::es) X.env=(false,eval e X.env)::starEach es X.env:=by exact Qbm rfl) (hpl:(backTo pos (starEach es X.env)).any (·.1)=false:=by exact Qbu rfl):VE X md P (.Call (.Name c p) (e::es) [] pos) (Qie c cf ma):=by
 obtain ⟨C,f,fd,h1,h3,h4,h5⟩:=M
 exact (Qrg (E:=E0) (ds:=[]) (dvs:=[]) h3 h5 hr hg h1 h4 .nil QkE ha hdb he hpl).imp fun _ _ _ q=>QsA h1 q
end
section
variable {X:Cx}{md:List Md}{P:Pt}{R:RR}
def Qg1:D→Option (List D)
 | .lst ds=>some ds
 | .tup ds=>some ds
 | .str l=>if ascii l=true then some (Qb3 l) else none
 | _=>none
def Qbj (m:M D):M (List D):=fun ρ O=>(m ρ O).bind fun d O1=>match Qg1 d with
 | some ds=>.ok ds O1
 | none=>.no
theorem Qm9 {e:Expr}{m:M D} (h:WE X md P e m):SE X md P e m:=h.imp fun σ H Q q=>by
 obtain ⟨ρ,O,F,as,d,O',r,s,e,k⟩:=q;refine ⟨ρ,O,F,as,d,O',r,s,e,fun v H' F' as' g r' hv=>k v H' F' as' g r' ?_⟩
 rcases hv with hv | ⟨a,xs,ds,e1,e2,e3,e4,e5,e6⟩
 ·exact .inl hv
 ·exact .inr ⟨a,xs,ds,e1,e2,e3,e4,e6⟩
theorem Qla {tg e:Expr}{m:M D} (h:WE X md P e m):VI X md P tg e (Qbj m):=fun pins s σ H Q I q=>by
 obtain ⟨ρ,O,F,as,ds,O',r,sl,e,k⟩:=q;obtain ⟨d,O1,e1,e⟩:=Res.bind_ok e
 cases d with
 | lst es =>
  cases e;exact Qre h pins s σ H Q I ⟨ρ,O,F,as,_,_,r,sl,by unfold QkK; rw [e1]; rfl,k⟩
 | tup es =>
  cases e;exact Qov (QgI (Qm9 h)) pins s σ H Q I ⟨ρ,O,F,as,_,_,r,sl,by unfold Qnc mG; rw [e1]; rfl,k⟩
 | str l =>
  simp only [Qg1] at e;split at e
  ·rename_i es hes;split at hes
   ·rename_i hl;cases hes;cases e;refine Qo1 (Qm9 h) pins s σ H Q I ⟨ρ,O,F,as,Qb3 l,_,r,sl,?_,k⟩;unfold Qm2;rw [e1];show (if ascii l=true then _ else _)=_;rw [if_pos hl]
   ·cases hes
  ·cases e
 | _=>cases e
theorem QqD {tg e:Expr}{m:M D} (h:SE X md P e m):VIc X md P tg e (QkK m):=(QmA h).imp fun σ H Q q=>by
 obtain ⟨ρ,O,F,as,ds,O',r,s,e,k⟩:=q;obtain ⟨d,O1,e1,e⟩:=Res.bind_ok e
 cases d with
 | lst es =>
  cases e;refine ⟨ρ,_,F,as,_,_,r,s,e1,fun v H1 F1 as1 g1 r1 hv=>?_⟩
  obtain ⟨a,xs,rfl,h1,h2⟩:∃a xs,v = .ref a∧Rps X.K F1 as1 xs ds∧∀(H2 F2:Hp) (as2:List Addr),Gr H1 F1 as1 H2 F2 as2→(∃O,RlO X.K X.mg O H2 F2 as2)→RdK X.K H2 a xs:=by
   rcases hv with hv | ⟨a,xs,ds',rfl,e,e3,e4,e6⟩
   ·obtain ⟨a,xs,rfl,h1,h2⟩:=hv.unL;exact ⟨a,xs,rfl,h2,fun H2 F2 as2 g ⟨O,r⟩=>(h1.mono g.ff).mono r.fh⟩
   ·cases e;exact ⟨a,xs,rfl,e6,fun H2 F2 as2 g _=>.inl (.inl (g.fr _ _ e3 e4 rfl))⟩
  refine ⟨a,rfl,⟨xs,(h2 H1 F1 as1 Gr.refl ⟨_,r1⟩).sq⟩,k _ H1 F1 as1 g1 r1 ⟨fun i d H2 F2 as2 g r e=>?_,fun H2 F2 as2 g r=>⟨xs,(h2 H2 F2 as2 g r).sq,by rw [h1.length]; exact ze _⟩⟩⟩;obtain ⟨x,h3,h4⟩:=h1.get' e;have q:=h2 H2 F2 as2 g r;refine ⟨⟨xs,x,q.sq,h3⟩,fun y H3 hy=>?_⟩;obtain ⟨rfl,hy⟩:=hy
  have:=hy xs q.sq
  rw [h3] at this;cases this;exact ⟨F2,Gr.refl,fun _ r=>r,h4.gr g⟩
 | _=>cases e
theorem QdV {tg e:Expr}{m:M D} (h:SE X md P e m):VIc X md P tg e (Qbj m):=fun pins s σ H Q I q=>by
 obtain ⟨ρ,O,F,as,ds,O',r,sl,e,k⟩:=q;obtain ⟨d,O1,e1,e⟩:=Res.bind_ok e
 cases d with
 | lst es =>
  cases e;exact QqD h pins s σ H Q I ⟨ρ,O,F,as,_,_,r,sl,by unfold QkK; rw [e1]; rfl,k⟩
 | tup es =>
  cases e;exact QkX (Qov (QgI h)) pins s σ H Q I ⟨ρ,O,F,as,_,_,r,sl,by unfold Qnc mG; rw [e1]; rfl,k⟩
 | str l =>
  simp only [Qg1] at e;split at e
  ·rename_i es hes;split at hes
   ·rename_i hl;cases hes;cases e;refine QkX (Qo1 h) pins s σ H Q I ⟨ρ,O,F,as,Qb3 l,_,r,sl,?_,k⟩;unfold Qm2;rw [e1];show (if ascii l=true then _ else _)=_;rw [if_pos hl]
   ·cases hes
  ·cases e
 | _=>cases e
def QkF (m:M D):M (List D):=fun ρ O=>(m ρ O).bind fun d O1=>match d with
 | .lst ds=>.ok (Qcw 0 ds) O1
 | .str l=>if ascii l=true then .ok (Qcw 0 (Qb3 l)) O1 else .no
 | _=>.no
variable {elts:List Expr}{x1:Nat}{tpos:Pos}
theorem Qsc {a:Expr}{p pos:Pos}{m:M D} (hm:X.mg "enumerate" = none) (h:WE X md P a m) (hg:Gl X "enumerate":=by rfl) (hs:starEach [a] X.env = [(false,eval a X.env)]:=by exact Qh9 rfl) (hs':starEach [a] X.env=(false,eval a X.env)::starEach [] X.env:=by exact Qbm rfl) :
  VI X md P (.Tuple elts x1 tpos) (.Call (.Name "enumerate" p) [a] [] pos) (QkF m):=fun pins s σ H Q I q=>by
 obtain ⟨ρ,O,F,as,ds,O',r,sl,e,k⟩:=q;obtain ⟨d,O1,e1,e⟩:=Res.bind_ok e
 cases d with
 | lst es =>
  cases e;exact Qqc hm h hg hs hs' pins s σ H Q I ⟨ρ,O,F,as,_,_,r,sl,by unfold Qoh; rw [e1]; rfl,k⟩
 | str l=>exact QpP hm (Qm9 h) hg hs hs' pins s σ H Q I ⟨ρ,O,F,as,ds,O',r,sl,by unfold Qog; rw [e1]; exact e,k⟩
 | _=>cases e
def Pt.with (P:Pt) (a:Addr) (i:Nat) (d:D) (l:List (Nat×V×D)):Pt:=⟨fun c=>P c∨c=a,(i,.ref a,d)::(l++P.ss)⟩
end
theorem QoJ {P:Program}{w:World}{K:PySem.W.Frag}{mg mb:Str→Option Value}{CX:CXT}{k:Nat}{fa a:Addr}{fd:FuncData}{x:Str}{sp:Sp}{s₁:Shared}{vs:List Value}{ns:List Int}
  (KX:K.In s₁.heap) (hns:s₁.heap.Ns mainGlobals mg) (hb:s₁.heap.Ns builtinsNs mb) (hbb:∀x:Str,x≠"__name__"→mb x=bootBuiltins x) (hlim:s₁.heap.NoLimit) (hg:s₁.gens = #[])
  (ha:s₁.heap.get? a=some { cls:=.type "list",data:=.seq vs.toArray }) (hi:IntsAre vs ns) (hl:ns.length≤sizeLine) (hr:QaG k callerA)
  (F:∀base:Heap,K.In base→base.Ns mainGlobals mg→Qbp P w K mg base CX k fa fd [x] sp) (hbind:∀(s:Shared) (u:Value),BindsTo s fd ⟨[u],[]⟩ [(x,u)])
  (hsp:∀H:Hp,QiK H→RdK K H a (ns.map V.int)→sp [.ref a] H (fun v _=>v = .bl true) fun _ _ _=>False)
  (hCX:∀H e s',CX [] H s₁ (fun _ _ _=>False) e s'→False) :
  codeAny (model P w) callerA (.call (.ref fa) ⟨[.ref a],[]⟩) (fun r s'=>r = .ok (.ret (.bool true))∧OldK s₁.heap s'.heap∧s'.os=s₁.os∧AllBare s'.gens) s₁:=by
 have rv:=QhU hi;have lenV:=hi.length;have core:∀H:Hp,QiK H→RdK K H a (ns.map V.int)→HOk P w H s₁.heap→(∀b,H b≠none→b=a)→(H a≠none→K.lookup a=none) →
   codeAny (model P w) callerA (.call (.ref fa) ⟨[.ref a],[]⟩) (fun r s'=>r = .ok (.ret (.bool true))∧OldK s₁.heap s'.heap∧s'.os=s₁.os∧AllBare s'.gens) s₁:=by
  intro H hO hS hok hA hK
  have base_of:∀{b:Addr}{o:Obj},s₁.heap.get? b=some o→H b=none→(Qd7 s₁.heap H).get? b=some o:=fun e n=>Qk8 e n
  have noA:∀{b:Addr}{o:Obj}{es:Array DictEntry}{ep:Nat},s₁.heap.get? b=some o→o.data = .dict es ep→H b=none:=fun {b o es ep} e d=>by
   cases q:H b with
   | none=>rfl
   | some u =>
    have e':b=a:=hA b (by rw [q]; simp);subst e';rw [ha] at e; cases e;have d':Data.seq vs.toArray _=Data.dict es ep:=d;cases d'
  have nsK:∀{b:Addr}{m:Str→Option Value},s₁.heap.Ns b m→(Qd7 s₁.heap H).Ns b m:=fun {b m} ⟨o,es,ep,e,d,r⟩=>⟨o,es,ep,base_of e (noA e d),d,r⟩
  have hKb:K.In (Qd7 s₁.heap H):=fun b o e=>base_of (KX b o e) (by
   cases q:H b with
   | none=>rfl
   | some u =>
    have e':b=a:=hA b (by rw [q]; simp);subst e'
    rw [hK (by rw [q]; simp)] at e; cases e)
  have hM:Mod K mg (Qd7 s₁.heap H):=⟨hKb,nsK hns,⟨mb,nsK hb,hbb⟩,let ⟨mc,h1,h2⟩:=hlim; ⟨mc,nsK h1,h2⟩⟩;have e0:Qe0 P w K mg (Qd7 s₁.heap H) callerA [] s₁ H:=⟨rfl,hM,fun b o e=>QmF e,Nat.le_of_eq (Qj8 _ _),trivial,fun b hb=>absurd (show b∈([]:List Addr) from hb) (by simp),hok,.of_eq hg⟩
  refine codeAny_mono ((F _ hKb (nsK hns)).run callerA [] s₁ H ⟨[.ref a],[]⟩ [.ref a] [.ref a] _ _ hr e0 (hbind s₁ (.ref a)) (.cons rfl .nil) (hsp H hO hS)) fun r s' h=>?_
  cases r with
  | error e=>exact (hCX H e s' h).elim
  | ok fl =>
   cases fl with
   | next=>exact False.elim h
   | brk=>exact False.elim h
   | cont=>exact False.elim h
   | ret u =>
    obtain ⟨v,H',os,bare,un,hok',r',q⟩:=h;have q':v = .bl true:=q;subst q';obtain rfl:u=Value.bool true:=r';refine ⟨rfl,OldK.of_keep fun b o e=>?_,os,bare⟩
    cases q:H b with
    | none=>exact un.keep b o e q (by intro z; exact absurd (show b∈([]:List Addr) from z) (by simp)) (by simp)
    | some u =>
     rcases hO b with z | ⟨ob,xs,z⟩
     ·rw [q] at z; cases z
     ·have z2:=un.frzs b ob _ z;obtain ⟨e1,_⟩:=hok b _ z;obtain ⟨e2,_⟩:=hok' b _ z2;rw [e] at e1; cases e1;exact e2
 cases hk:K.lookup a with
 | some o =>
  have e:=KX a o hk;rw [ha] at e;cases e
  refine core (fun _=>none) (fun _=>.inl rfl) (.inr ⟨vs,_,hk,by rw [lenV]; exact hl,rv⟩) (fun b u z=>by have z':(none:Option HO)=some u:=z; cases z') (fun b z=>absurd rfl z) fun z=>absurd rfl z
 | none =>
  refine core (fun b=>if b=a then some (.frz { cls:=.type "list",data:=.seq vs.toArray } (.lst (ns.map V.int))) else none) (fun b=>?_) (.inl (.inr ⟨{ cls:=.type "list",data:=.seq vs.toArray },if_pos rfl⟩)) (fun b u z=>?_) (fun b z=>?_) fun _=>hk
  ·by_cases hb:b=a
   ·exact .inr ⟨_,_,if_pos hb⟩
   ·exact .inl (if_neg hb)
  ·by_cases hb:b=a
   ·have z':=(if_pos hb).symm.trans z;cases z';subst hb;exact ⟨ha,by rw [zp]; exact hl,vs,_,rv,ha⟩
   ·have z':=(if_neg hb).symm.trans z;cases z'
  ·by_cases hb:b=a
   ·exact hb
   ·exact absurd (if_neg hb) z
theorem walk_ofR {l:PySem.W.OpenLaw}{n k:Nat}{q:Program}{loose:List Str}{XP:(Str→Option Value)→Heap→Prop}{YP:World→Heap→Prop}{d:DefRec}{K:Params→PySem.W.Frag}{CX:World→CXT}{sp:World→Sp}{x:Str}
  (hn:l.most=some n) (hn2:n≤sizeLine) (hdf:d.params.defaults = []) (hr:QaG k callerA)
  (hY:∀(w:World) (h:Heap),YP w h→(K w.params).In h)
  (F:∀(w:World) (mg:Str→Option Value) (fa:Addr) (h:Heap),(K w.params).In h→h.Ns mainGlobals mg→mg d.name=some (.ref fa) →
   ∃fd:FuncData,(∀(s:Shared) (u:Value),BindsTo s fd ⟨[u],[]⟩ [(x,u)]) ∧
    ∀base:Heap,(K w.params).In base→base.Ns mainGlobals mg→Qbp l.prog w (K w.params) mg base (CX w) k fa fd [x] (sp w))
  (hsp:∀(w:World) (H:Hp) (a:Addr) (ns:List Int),ns.length≤n→QiK H→RdK (K w.params) H a (ns.map V.int)→sp w [.ref a] H (fun v _=>v = .bl true) fun _ _ _=>False)
  (hCX:∀(w:World) (H:Hp) (s:Shared) (e:Value) (s':Shared),CX w [] H s (fun _ _ _=>False) e s'→False) :
  PySem.W.WalkO q loose XP YP l.row.toRowW d [] (fun f vs=>PySem.call f vs):=by
 refine Att.attach_call hn hdf fun w s₀ s₁ mg mb fa o pm cd doc a vs ns G Y ho hd hcd hmg hobj hints hlen hg=>?_
 have KX:=hY w _ Y;obtain ⟨fd,hb,hF⟩:=F w mg fa _ KX G.T.g hmg
 exact QoJ KX G.T.g G.T.b G.T.builtins G.T.nolimit hg hobj hints (zB hlen hn2) hr hF hb (fun H hO hS=>hsp w H a ns hlen hO hS) fun H e s'=>hCX w H s₁ e s'
theorem Qdc {K:Frag}{mg:Str→Option Value}{f:Str}:∀c∈([]:List Str),KC K mg c f:=fun _ h=>nomatch h
theorem QcG {K:Frag}{mg:Str→Option Value}{f c:Str}{cs:List Str} (h:KC K mg c f) (hr:∀c∈cs,KC K mg c f):∀c'∈c::cs,KC K mg c' f:=fun c' hc=>by
 rcases zm.mp hc with rfl | hc
 ·exact h
 ·exact hr c' hc
def sp_law (K:Frag):Sp:=fun vs H Q _=>∃(a:Addr) (ns:List Int),vs = [.ref a]∧RdK K H a (ns.map V.int)∧ns.length≤63∧QiK H∧∀H',Q (.bl true) H'
theorem Rps.ofInts {K:Frag}{F:Hp}{as:List Addr}:∀ns:List Int,Rps K F as (ns.map V.int) (ns.map D.int)
 | []=>Rps.nil
 | n::ns=>Rps.cons Rp.int (Rps.ofInts ns)
theorem Qst {K:Frag}{mg:Str→Option Value}{c:List D→Qac→Res D} (h:∀ns:List Int,ns.length≤63→∃O',c [.lst (ns.map D.int)] [] = .ok (.bl true) O'):∀vs H Q E,sp_law K vs H Q E→vSp K mg [.s] (rV K) c vs H Q E:=by
 rintro vs H Q E ⟨a,ns,rfl,hS,hl,hO,q⟩;obtain ⟨O',e⟩:=h ns hl
 have r:RlO K mg [] H H []:=⟨Same.refl H,fun b o e=>by
  rcases hO b with z | ⟨o',xs,z⟩
  ·rw [e] at z; cases z
  ·rw [e] at z; cases z; rfl,List.nodup_nil,rfl,(fun _ z=>nomatch z),fun n b o z=>by cases z⟩
 refine ⟨[.lst (ns.map D.int)],[],H,[],.bl true,O',r,⟨.inl (Rp.mkL hS (Rps.ofInts ns)),trivial⟩,e,fun v H' F' as' g r' hv=>?_⟩;rw [Rp.unB hv];exact q H'
def keyOf:D→Option Key
 | .int i=>some (.inl i)
 | .str l=>some (.inr (S l))
 | _=>none
theorem QrF {d:D}{k:Key} (h:keyOf d=some k):QgX k=d:=by
 cases d with
 | int i=>cases h; rfl
 | str l=>cases h; show D.str (S l).cps.toList=_; rw [QfY]
 | _=>cases h
theorem Rp.key {K:Frag}{F:Hp}{as:List Addr}{v:V}{d:D}{k:Key} (h:Rp K F as v d) (e:keyOf d=some k):v=kV k:=by
 cases d with
 | int i=>cases e; exact h.unI
 | str l=>cases e; exact h.unS
 | _=>cases e
section
variable {X:Cx}{md:List Md}{P:Pt}
theorem Qsy {pos:Pos}:VE X md P (.Dict [] [] pos) (mC (.dic [] [])):=Qls.imp fun σ H Q q=>by
 obtain ⟨ρ,O,F,as,d,O',r,s,e,k⟩:=q;cases e;intro p hp;have hF:=r.frF hp;refine k _ _ (upd F p (.dK [])) as ((Gr.lay hp).frz hp hF) ((r.lay hp).frz Qay hF (fun z=>r.all z hp) rfl) ?_;show Rp X.K _ _ _ _;rw [Rp];exact ⟨p,[],rfl,Qay,rfl,Rps.nil⟩
def Prs (K:Frag) (F:Hp) (as:List Addr):List (V×V)→List (D×D)→Prop
 | [],[]=>True
 | p::ps,d::ds=>Rp K F as p.1 d.1∧Rp K F as p.2 d.2∧Prs K F as ps ds
 | _,_=>False
def DPE (X:Cx) (md:List Md) (P:Pt) (pos:Pos) (keys:List (Option Expr)) (values:List Expr) (m:M (List (D×D))):Prop:=∃trs:List (TE×TE),
 PPs X pos keys values trs∧∀σ H Q,(∃ρ O F as kv O',RlO X.K X.mg O H F as∧SlO X.K md P ρ σ H F as∧m ρ O = .ok kv O'∧∀ps H' F' as',Gr H F as H' F' as'→RlO X.K X.mg O' H' F' as'→Prs X.K F' as' ps kv→Q ps H')→QkO trs σ H Q
def Qvc:M (List (D×D)):=fun _ O=>.ok [] O
def Qtd (mk mv:M D) (r:M (List (D×D))):M (List (D×D)):=fun ρ O=>(mk ρ O).bind fun a O1=>(mv ρ O1).bind fun b O2=>(r ρ O2).bind fun ps O3=>.ok ((a,b)::ps) O3
def keysOf:List (D×D)→Option (List Key)
 | []=>some []
 | (a,_)::r=>(keyOf a).bind fun k=>(keysOf r).map (k :: ·)
theorem Prs.kvs {K:Frag}{F:Hp}{as:List Addr}:∀{kv:List (D×D)}{ps:List (V×V)}{ks:List Key},Prs K F as ps kv→keysOf kv=some ks →
  ∃kvs:List (Key×V),ps=kvs.map (fun p=>(kV p.1,p.2))∧kvs.map (·.1)=ks∧kv.map (·.1)=kvs.map (fun p=>QgX p.1)∧Rps K F as (kvs.map (·.2)) (kv.map (·.2))
 | [],ps,ks,h,e=>by
  cases ps with
  | nil=>cases e; exact ⟨[],rfl,rfl,rfl,Rps.nil⟩
  | cons _ _=>exact h.elim
 | (a,b)::kv,ps,ks,h,e=>by
  cases ps with
  | nil=>exact h.elim
  | cons p ps =>
   obtain ⟨p1,p2⟩:=p;unfold keysOf at e
   cases ea:keyOf a with
   | none=>rw [ea] at e; cases e
   | some k =>
    rw [ea] at e
    cases er:keysOf kv with
    | none=>rw [er] at e; cases e
    | some ks' =>
     rw [er] at e;cases e;obtain ⟨kvs,h1,h2,h3,h4⟩:=Prs.kvs h.2.2 er;refine ⟨(k,p2)::kvs,?_,?_,?_,Rps.cons h.2.1 h4⟩
     ·rw [zg,←h1]
      have:p1=kV k:=Rp.key h.1 ea
      rw [this]
     ·rw [zg,h2]
     ·rw [zg,zg,h3,QrF ea]
def QvJ (m:M (List (D×D))):M D:=fun ρ O=>(m ρ O).bind fun kv O1=>match keysOf kv with
 | some ks=>if ks.Nodup∧kv.length≤15 then .ok (.dic (kv.map (·.1)) (kv.map (·.2))) O1 else .no
 | none=>.no
theorem Prs.length {K:Frag}{F:Hp}{as:List Addr}:∀{kv:List (D×D)}{ps:List (V×V)},Prs K F as ps kv→ps.length=kv.length
 | [],[],_=>rfl
 | _::kv,_::ps,h=>by simp [Prs.length h.2.2]
 | [],_::_,h=>h.elim
 | _::_,[],h=>h.elim
end
section
variable {X:Cx}{md:List Md}{P:Pt}{k:Nat}{c x m:Str}{ps:List Str}{p pos apos:Pos}{o e:Expr}{es:List Expr}{pm:List Md}{cf:List D→Qac→Res D}{mo:M D}{ma:M (List D)}
theorem QaK (C:Can X.prog X.w X.K X.mg X.base x ps k (vSp X.K X.mg pm (rV X.K) cf)) (hr:QaG k X.A) (ha:AE X md P pm (e::es) ma) (hg:Gl X x:=by rfl) (hdb:(x == ("__debug__":Str))=false:=by decide) (he:starEach (e::es) X.env=(false,eval e X.env)::starEach es X.env:=by exact Qbm rfl) (hpl:(backTo pos (starEach es X.env)).any (·.1)=false:=by exact Qbu rfl) :
  VE X md P (.Call (.Name x p) (e::es) [] pos) (Qaq cf ma):=QmQ Qbk C hr ha hg hdb he hpl
theorem Qsg (C:Can X.prog X.w X.K X.mg X.base x ps k (vSp X.K X.mg pm (rO X.K) cf)) (hr:QaG k X.A) (ha:AE X md P pm (e::es) ma) (hg:Gl X x:=by rfl) (hdb:(x == ("__debug__":Str))=false:=by decide) (he:starEach (e::es) X.env=(false,eval e X.env)::starEach es X.env:=by exact Qbm rfl) (hpl:(backTo pos (starEach es X.env)).any (·.1)=false:=by exact Qbu rfl) :
  OE X md P (.Call (.Name x p) (e::es) [] pos) (Qaq cf ma):=QmQ QeI C hr ha hg hdb he hpl
theorem QmM {pl:Sem Bool} (M:Qe6 X.prog X.w X.K X.mg X.base c m ps k (vSp X.K X.mg (.v::pm) (rV X.K) cf)) (hr:QaG k X.A) (ho:VE X md P o mo) (ha:AE X md P pm (e::es) ma) (hst:starEach (e::es) X.env=(false,eval e X.env)::starEach es X.env:=by exact Qbm rfl) (hpl:(backTo pos (starEach es X.env)).any (·.1)=false:=by exact Qbu rfl)
  (ht:eval (.Call (.Attribute o m apos) (e::es) [] pos) X.env=(do
   let ov ←eval o X.env
   standAt apos.atName
   let (f,first) ←holding [ov] (getMethod ov m pl)
   callWith pos f first (backTo pos (starEach (e::es) X.env)) (backToKw pos (keywordEach [] X.env))):=by rfl):VE X md P (.Call (.Attribute o m apos) (e::es) [] pos) (Qct c m cf mo ma):=Qsu Qbk M hr ho ha hst hpl ht
theorem QqE {pl:Sem Bool} (M:Qe6 X.prog X.w X.K X.mg X.base c m ps k (vSp X.K X.mg [.v] (rV X.K) cf)) (hr:QaG k X.A) (ho:VE X md P o mo)
  (ht:eval (.Call (.Attribute o m apos) [] [] pos) X.env=(do
   let ov ←eval o X.env
   standAt apos.atName
   let (f,first) ←holding [ov] (getMethod ov m pl)
   callWith pos f first (backTo pos (starEach [] X.env)) (backToKw pos (keywordEach [] X.env))):=by rfl):VE X md P (.Call (.Attribute o m apos) [] [] pos) (Qct c m cf mo Qag):=QlF Qbk M hr ho ht
theorem QpT {pl:Sem Bool} (M:Qe6 X.prog X.w X.K X.mg X.base c m ps k (vSp X.K X.mg [.v] (rO X.K) cf)) (hr:QaG k X.A) (ho:VE X md P o mo)
  (ht:eval (.Call (.Attribute o m apos) [] [] pos) X.env=(do
   let ov ←eval o X.env
   standAt apos.atName
   let (f,first) ←holding [ov] (getMethod ov m pl)
   callWith pos f first (backTo pos (starEach [] X.env)) (backToKw pos (keywordEach [] X.env))):=by rfl):OE X md P (.Call (.Attribute o m apos) [] [] pos) (Qct c m cf mo Qag):=QlF QeI M hr ho ht
end
section
variable {X:Cx}{md:List Md}{P:Pt}{R:RR}{elts:List Expr}{x1:Nat}{tpos:Pos}
def Qne:List D→List D→List D
 | d::ds,e::es=>.tup [d,e]::Qne ds es
 | _,_=>[]
def QtA (ma mb:M D):M (List D):=fun ρ O=>(ma ρ O).bind fun d O1=>(mb ρ O1).bind fun e O2=>match d,e with
 | .lst ds,.lst es=>.ok (Qne ds es) O2
 | _,_=>.no
def Qlm (m:MS):MS:=fun ρ O=>match m ρ O with
 | .rt d O'=>.rt d O'
 | _=>.no
theorem SlO.toV {K:Frag}{ρ:Qai}{σ:St}{H F F':Hp}{as:List Addr}{i:Nat} (s:SlO K md P ρ σ H F as) (hm:md[i]? = some .o) (ff:Same F F')
  (hown:∀(j:Nat) (ds:List D) (a:Addr),j≠i→md[j]? = some .o→ρ[j]? = some (some (.lst ds))→σ[j]? = some (some (.ref a))→F' a=F a)
  (hv:∀d,ρ[i]? = some (some d)→∃v,σ[i]? = some (some v)∧Rp K F' as v d):SlO K (md.set i .v) P ρ σ H F' as:=by
 have hi:i < md.length:=(zo.mp hm).1
 have back:∀(j:Nat),(md.set i Md.v)[j]? = some Md.o→j≠i∧md[j]? = some .o:=fun j e=>by
  by_cases hj:j=i
  ·subst hj;rw [zI hi] at e;cases e
  ·rw [zt (Ne.symm hj)] at e;exact ⟨hj,e⟩
 refine ⟨by rw [zT]; exact s.len,by rw [zT]; exact s.len',s.pd,fun j m d e1 e2=>?_,fun j k a ds es h1 h2 h3 h4 h5 h6=>s.inj j k a ds es (back j h1).2 (back k h2).2 h3 h4 h5 h6,fun x hx=>?_⟩
 ·by_cases hj:j=i
  ·subst hj;rw [zI hi] at e1;cases e1;exact hv d e2
  ·rw [zt (Ne.symm hj)] at e1;obtain ⟨v,q,t⟩:=s.sl j m d e1 e2;refine ⟨v,q,?_⟩
   cases m with
   | v=>exact Rp.mono ff (fun _ _ z=>z) _ t
   | s =>
    rcases t with t | ⟨a,xs,ds,t1,t2,t3,t4,t5,t6⟩
    ·exact .inl (Rp.mono ff (fun _ _ z=>z) _ t)
    ·exact .inr ⟨a,xs,ds,t1,t2,t3,t4,t5,Rps.mono ff (fun _ _ z=>z) _ t6⟩
   | o =>
    rcases t with ⟨t0,t⟩ | ⟨a,xs,ds,rfl,rfl,t3,t0,t4,t5,t6⟩
    ·exact .inl ⟨t0,Rp.mono ff (fun _ _ z=>z) _ t⟩
    ·exact .inr ⟨a,xs,ds,rfl,rfl,t3,by rw [hown j ds a hj e1 e2 q]; exact t0,t4,t5,Rps.mono ff (fun _ _ z=>z) _ t6⟩
 ·obtain ⟨p1,p2,p3⟩:=s.pin x hx
  have hne:i≠x.1:=fun z=>by rw [←z,hm] at p1; cases p1
  exact ⟨by rw [zt hne]; exact p1,p2,p3⟩
theorem Qtc {K:Frag}{mg:Str→Option Value}{i:Nat}{m:MS} (hm:md[i]? = some .o) {D:Ends}{σ:St}{H:Hp} (q:tMS K mg md P R (Qlm m) D σ H):tMS K mg (md.set i .v) P R m D σ H:=by
 obtain ⟨ρ,O,F,as,r,s,k⟩:=q;unfold Qlm at k
 cases e:m ρ O with
 | rt d O' =>
  rw [e] at k
  by_cases hl:∃ds,ρ[i]? = some (some (.lst ds))
  ·obtain ⟨ds,hρ⟩:=hl;obtain ⟨a,xs,h1,h2,h3,h4,h5,h6⟩:=s.own hm hρ
   have ff:Same F (upd F a (.lst xs)):=fun b u q=>by rw [Qah (Qaw q h3)]; exact q
   have g0:GrS P H F as H (upd F a (.lst xs)) as:=⟨fun c _ p _ _ _=>Qah (fun z=>h5 (by rw [←z]; exact p)),ff,⟨[],by simp,fun _ h=>nomatch h⟩,fun _ _ _ h _ _=>h,fun _ h=>h,fun _ _ _ h=>h⟩;refine ⟨ρ,O,upd F a (.lst xs),as,r.frz h2 h3 h4 rfl,s.toV hm ff (fun j es b hj m1 m2 m3=>?_) (fun d' hd'=>?_),?_⟩
   ·refine Qah fun z=>hj ?_
    rw [z] at m3;exact s.inj j i a es ds m1 hm m2 hρ m3 h1
   ·rw [hρ] at hd';cases hd';exact ⟨_,h1,Rp.mkL (.inl (.inl Qay)) (Rps.mono ff (fun _ _ z=>z) _ h6)⟩
   ·rw [e]
    exact fun v H' F' as' g r' hv=>k v H' F' as' (g0.trans g) r' hv
  ·refine ⟨ρ,O,F,as,r,s.toV hm (Same.refl F) (fun _ _ _ _ _ _ _=>rfl) (fun d' hd'=>?_),by rw [e]; exact k⟩;obtain ⟨v,h1,h2⟩:=s.sl i .o d' hm hd'
   rcases h2 with ⟨_,h2⟩ | ⟨a,xs,ds,_,rfl,_⟩
   ·exact ⟨v,h1,h2⟩
   ·exact absurd ⟨ds,hd'⟩ hl
 | _=>rw [e] at k; exact False.elim k
theorem Qtv (i:Nat) {st:Stmt}{m:MS} (hm:md[i]? = some .o) (h:VS X (md.set i .v) P R st m):VS X md P R st (Qlm m):=h.imp fun _ _ _=>Qtc hm
end
section
variable {prog:Program}{w:World}{A:Around}{E:Value→Shared→Prop}
end
section
variable {X:Cx}{md:List Md}{P:Pt}{R:RR}
theorem Qsw {as:List Addr}{a:Addr}:∀(n:Nat) (c:Addr),as[n]? = some c→(as ++ [a])[n]? = some c:=fun n c h=>by
 rw [zy (zo.mp h).1]; exact h
theorem Qmk {H F:Hp}{as:List Addr}{a:Addr}{h:HO} (ha:a∈as) (hh:H a=some h) {o:HO} (hf:∀o u,h≠.frz o u:=by intro _ _ z; cases z):Gr H F as (upd H a o) F as :=
 ⟨fun _ _ _ _ _=>rfl,Same.refl F,⟨[],by simp,fun _ h=>nomatch h⟩,fun c u e hn _=>by rw [Qah (fun z=>hn (by rw [z]; exact ha))]; exact e,fun c e=>by
  by_cases h:c=a
  ·subst h; rw [Qay] at e; cases e
  ·rwa [Qah h] at e,fun c o' u e=>by rw [Qah (fun z=>by rw [z,hh] at e; cases e; exact hf _ _ rfl)]; exact e⟩
theorem RlO.ml {K:Frag}{mg:Str→Option Value}{O:Qac}{H F:Hp}{as:List Addr}{n:Nat}{a:Addr}{ds:List D} (r:RlO K mg O H F as) (hn:as[n]? = some a) (hO:O[n]? = some (.ml ds)):∃xs,H a=some (.lst xs)∧Rps K F as xs ds:=r.ob n a _ hn hO
end
def Qp3 (K:Frag) (mg:Str→Option Value) (x:Str) (ls:List (List Nat)):Prop:=∃(a:Addr) (o:Obj) (its:Array Value) (n:Nat),mg x=some (.ref a)∧K.lookup a=some o∧o.cls = .type "tuple"∧o.data = .seq its n∧its.size≤sizeLine∧Qax (ls.map fun l=>V.str (S l)) its.toList
theorem Rps.texts {K:Frag}{F:Hp}{as:List Addr}:∀ls:List (List Nat),Rps K F as (ls.map fun l=>V.str (S l)) (ls.map D.str)
 | []=>Rps.nil
 | l::ls=>Rps.cons Rp.str (Rps.texts ls)
theorem QrA {X:Cx}{md:List Md}{P:Pt}{x:Str}{ls:List (List Nat)}{pos:Pos} (h:Qp3 X.K X.mg x ls) (hg:Gl X x:=by rfl) (hdb:(x == ("__debug__":Str))=false:=by decide):VE X md P (.Name x pos) (mC (.tup (ls.map D.str))):=by
 obtain ⟨a,o,its,n,hm,hk,h1,h2,h3,h4⟩:=h
 refine (Qlr (v:=.ref a) ⟨_,hm,rfl⟩ hg hdb).imp fun σ H Q q=>?_
 obtain ⟨ρ,O,F,as,d,O',r,s,e,k⟩:=q;cases e;exact k _ H F as Gr.refl r (Rp.mkT (.inr ⟨o,its,n,hk,h1,h2,h3,h4⟩) (Rps.texts ls))
theorem QbQ {α:Type}{p:List α→Prop} (h:p []):∀us:List α,us.length=0→p us:=fun us e=>by
 cases us with
 | nil=>exact h
 | cons a as=>cases e
theorem QaO {α:Type}{p:List α→Prop}{n:Nat} (h:∀a,∀us:List α,us.length=n→p (a::us)):∀us:List α,us.length=n+1→p us:=fun us e=>by
 cases us with
 | nil=>cases e
 | cons a as=>exact h a as (Nat.succ.inj e)
section
variable {prog:Program}{w:World}{κ:Type} [DecidableEq κ] {knd:HeapKind prog w κ}{A:Around}{E:Value→Shared→Prop}{s:Shared}
end
section
variable {X:Cx}{pins:List (Addr×Obj)}{σ:St}{H:Hp}{s:Shared}{a b:Addr}{v:V}{r:Value}{kvs:List (List Key×V)}{k:List Key}{A:Around}{E:Value→Shared→Prop}
end
def QnR:List D→Option (List Key)
 | []=>some []
 | .int i::ds=>(QnR ds).map (Sum.inl i :: ·)
 | _=>none
theorem Rps.keys {K:Frag}{F:Hp}{as:List Addr}:∀{ds:List D}{xs:List V}{ks:List Key},Rps K F as xs ds→QnR ds=some ks→xs=ks.map kV∧∃is:List Int,ks=is.map Sum.inl
 | [],xs,ks,h,e=>by cases e; exact ⟨h.un0,[],rfl⟩
 | .int i::ds,xs,ks,h,e=>by
  obtain ⟨x,r,rfl,h1,h2⟩:=h.un;obtain ⟨ks',e1,rfl⟩:=jl.mp (show (QnR ds).map (Sum.inl i :: ·)=some ks from e);obtain ⟨q1,is,rfl⟩:=Rps.keys h2 e1;exact ⟨by rw [h1.unI,q1]; rfl,i::is,rfl⟩
 | .non::ds,xs,ks,h,e=>by cases e
 | .bl _::ds,xs,ks,h,e=>by cases e
 | .str _::ds,xs,ks,h,e=>by cases e
 | .lst _::ds,xs,ks,h,e=>by cases e
 | .tup _::ds,xs,ks,h,e=>by cases e
 | .dic _ _::ds,xs,ks,h,e=>by cases e
 | .ob _::ds,xs,ks,h,e=>by cases e
def Qj4 (kvs:List (List Key×D)) (k:List Key):Option D:=(kvs.find? fun p=>decide (p.1=k)).map (·.2)
def Qs2 (kvs:List (List Key×D)) (k:List Key) (d:D):List (List Key×D) :=
 if (kvs.any fun p=>decide (p.1=k))=true then kvs.map (fun p=>if p.1=k then (p.1,d) else p) else kvs ++ [(k,d)]
def DtR (K:Frag) (F:Hp) (as:List Addr) (xs:List (List Key×V)) (kvs:List (List Key×D)):Prop:=xs.map (·.1)=kvs.map (·.1)∧Rps K F as (xs.map (·.2)) (kvs.map (·.2))
section
variable {K:Frag}{mg:Str→Option Value}{O:Qac}{H F H' F':Hp}{as as':List Addr}
theorem DtR.len {xs:List (List Key×V)}{kvs:List (List Key×D)} (h:DtR K F as xs kvs):xs.length=kvs.length:=by
 have:=congrArg List.length h.1
 simpa using this
theorem DtR.un {xs:List (List Key×V)}{p:List Key×D}{kvs:List (List Key×D)} (h:DtR K F as xs (p::kvs)):∃v r,xs=(p.1,v)::r∧Rp K F as v p.2∧DtR K F as r kvs:=by
 obtain ⟨h1,h2⟩:=h
 cases xs with
 | nil=>cases h1
 | cons x r =>
  obtain ⟨v,r',e,q1,q2⟩:=h2.un;cases e;rw [zg,zg] at h1;have q3:=(List.cons.inj h1).1;refine ⟨x.2,r,?_,q1,(List.cons.inj h1).2,q2⟩;rw [←q3]
theorem DtR.val {k:List Key}:∀{kvs:List (List Key×D)}{xs:List (List Key×V)},DtR K F as xs kvs→(Qj4 kvs k=none∧Qds xs k=none)∨∃d v,Qj4 kvs k=some d∧Qds xs k=some v∧Rp K F as v d
 | [],xs,h=>by
  have:=h.len
  cases xs with
  | nil=>exact .inl ⟨rfl,rfl⟩
  | cons=>cases this
 | p::kvs,xs,h=>by
  obtain ⟨v,r,rfl,h1,h2⟩:=h.un
  by_cases e:p.1=k
  ·exact .inr ⟨p.2,v,by simp [Qj4,List.find?_cons,e],QfH e,h1⟩
  ·rw [show Qj4 (p::kvs) k=Qj4 kvs k by simp [Qj4,List.find?_cons,e],QfN (p:=(p.1,v)) e];exact DtR.val h2
theorem DtR.any {k:List Key}:∀{kvs:List (List Key×D)}{xs:List (List Key×V)},DtR K F as xs kvs→(xs.any fun p=>decide (p.1=k))=kvs.any fun p=>decide (p.1=k)
 | [],xs,h=>by
  have:=h.len
  cases xs with
  | nil=>rfl
  | cons=>cases this
 | p::kvs,xs,h=>by
  obtain ⟨v,r,rfl,h1,h2⟩:=h.un;rw [List.any_cons,List.any_cons,DtR.any h2]
theorem DtR.repl {k:List Key}{v:V}{d:D} (hv:Rp K F as v d):∀{kvs:List (List Key×D)}{xs:List (List Key×V)},DtR K F as xs kvs →
  DtR K F as (xs.map fun p=>if p.1=k then (p.1,v) else p) (kvs.map fun p=>if p.1=k then (p.1,d) else p)
 | [],xs,h=>by
  have:=h.len
  cases xs with
  | nil=>exact ⟨rfl,Rps.nil⟩
  | cons=>cases this
 | p::kvs,xs,h=>by
  obtain ⟨u,r,rfl,h1,h2⟩:=h.un;obtain ⟨i1,i2⟩:=DtR.repl (k:=k) hv h2
  by_cases e:p.1=k
  ·rw [zg,zg,if_pos e,if_pos e];exact ⟨by rw [zg,zg,i1],Rps.cons hv i2⟩
  ·rw [zg,zg,if_neg e,if_neg e];exact ⟨by rw [zg,zg,i1],Rps.cons h1 i2⟩
theorem DtR.put {xs:List (List Key×V)}{kvs:List (List Key×D)} (h:DtR K F as xs kvs) (k:List Key) {v:V}{d:D} (hv:Rp K F as v d):DtR K F as (putK xs k v) (Qs2 kvs k d):=by
 unfold putK Qs2;rw [h.any]
 split
 ·exact h.repl hv
 ·exact ⟨by rw [zM,zM,h.1]; rfl,by rw [zM,zM]; exact Rps.snoc h.2 hv⟩
theorem DtR.mono {xs:List (List Key×V)}{kvs:List (List Key×D)} (h:DtR K F as xs kvs) (e:Same F F') (ea:∀(n:Nat) (a:Addr),as[n]? = some a→as'[n]? = some a):DtR K F' as' xs kvs:=⟨h.1,Rps.mono e ea _ h.2⟩
theorem RlO.dt {n:Nat}{a:Addr}{kvs:List (List Key×D)} (r:RlO K mg O H F as) (hn:as[n]? = some a) (hO:O[n]? = some (.dt kvs)):∃xs,H a=some (.dT xs)∧DtR K F as xs kvs:=let ⟨xs,h1,h2,h3⟩:=r.ob n a _ hn hO; ⟨xs,h1,h2,h3⟩
theorem RlO.snocO {a:Addr}{o:Ob} (r:RlO K mg O H F as) (hF:F a=none) (ha:a∉as) (ho:ObR K mg H F (as ++ [a]) a o):RlO K mg (O ++ [o]) H F (as ++ [a]):=by
 refine ⟨r.fh,r.fd,jm.mpr ⟨r.nd,by simp,fun c hc d hd=>by rw [zv.mp hd]; exact fun z=>ha (z ▸ hc)⟩,by rw [zF,zF,r.len]; rfl,fun c hc=>?_,fun n c u hc hu=>?_⟩
 ·rcases zC.mp hc with hc | hc
  ·exact r.fa c hc
  ·rw [zv.mp hc]; exact hF
 ·by_cases hn:n < as.length
  ·rw [zy hn] at hc;rw [zy (by rw [←r.len]; exact hn)] at hu;exact (r.ob n c u hc hu).keep rfl (Same.refl F) Qsw
  ·have hn':n=as.length:=by
    have:=(zo.mp hc).1
    rw [zF,jk] at this;omega
   subst hn';rw [zE (ze _),Nat.sub_self] at hc;rw [r.len,zE (ze _),Nat.sub_self] at hu;cases hc;cases hu;exact ho
theorem RlO.mutG {n:Nat}{a:Addr}{o:Ob}{h:HO} (r:RlO K mg O H F as) (hn:as[n]? = some a) (hx:ObR K mg (upd H a h) F as a o):RlO K mg (O.set n o) (upd H a h) F as:=by
 have ha:=zR hn;refine ⟨fun c u e=>?_,r.fd,r.nd,by rw [zT]; exact r.len,r.fa,fun m c u hc hu=>?_⟩
 ·rw [Qah (fun z=>by rw [z,r.fa a ha] at e; cases e)]; exact r.fh c u e
 ·by_cases hm:m=n
  ·subst hm;rw [hn] at hc;cases hc
   have hlt:m < O.length:=by rw [←r.len]; exact (zo.mp hn).1
   rw [zI hlt] at hu;cases hu;exact hx
  ·rw [zt (Ne.symm hm)] at hu
   refine (r.ob m c u hc hu).keep (Qah fun z=>hm ?_) (Same.refl F) fun _ _ h=>h
   obtain ⟨q0,q1⟩:=zo.mp hc;obtain ⟨p0,p1⟩:=zo.mp hn;exact (List.getElem_inj r.nd).mp (q1.trans (z.trans p1.symm))
theorem RlO.unF {p:Addr} (r:RlO K mg O H F as) (hp:H p=none):F p=none:=by
 cases e:F p with
 | none=>rfl
 | some o=>rw [r.fh p o e] at hp; cases hp
theorem Gr.snoc {p:Addr}{o:HO} (hp:H p=none):Gr H F as (upd H p o) F (as ++ [p]) :=
 ⟨fun _ _ _ _ _=>rfl,Same.refl F,⟨[p],rfl,fun a h=>by rw [zv.mp h]; exact hp⟩,fun a u e _ _=>by rw [Qah (Qaw e hp)]; exact e,fun a e=>by
  by_cases h:a=p
  ·subst h; exact hp
  ·rwa [Qah h] at e,fun a o' u e=>by rw [Qah (Qaw e hp)]; exact e⟩
end
section
variable {X:Cx}{md:List Md}{P:Pt}{R:RR}
end
section
variable {X:Cx}
open Classical in
noncomputable def eqR (s:Shared) (x:PyData) (u:Value):Bool:=decide (∃d as,Reads s.heap u d as∧d.canLay0=true∧PyData.eqv d x=true)
open Classical in
theorem QxX {s:Shared}{x d:PyData}{u:Value}{as:List Addr} (h:Reads s.heap u d as) (hd:d.canLay0=true):eqR s x u=PyData.eqv d x:=by
 unfold eqR
 cases e:PyData.eqv d x with
 | true=>exact zl ⟨d,as,h,hd,e⟩
 | false =>
  refine zn fun ⟨d',as',h',hd',e'⟩=>?_
  rw [←SeqAt.Reads.unique d d' u as as' hd h h',e] at e';cases e'
end
section
variable {X:Cx}{md:List Md}{P:Pt}{R:RR}
end
section
variable {K:Frag}{mg:Str→Option Value}{O:Qac}{H F:Hp}{as:List Addr}
end
section
variable {X:Cx}{md:List Md}{P:Pt}{R:RR}
end
section
variable {X:Cx}{md:List Md}{P:Pt}{R:RR}
end
end L2
namespace L2
open PySem PySem.Spec PyProof.Rows PySem.W PySem.Calls
section
variable {prog:Program}{w:World}{A:Around}{E:Value→Shared→Prop}{s:Shared}{a:Addr}{vs out:List Value}{p:Array Nat}
end
def QnQ {α:Type} (cmp:Nat→Nat→Bool→Prop):KasT α→α→Prop
 | .ret a,r=>r=a
 | .ask i j k,r=>∃b,cmp i j b∧QnQ cmp (k b) r
theorem QnQ.wp {α:Type}{cmp:Nat→Nat→Bool→Prop}{ask:Nat→Nat→(Bool→Shared→Prop)→Shared→Prop}{s:Shared} (hc:∀i j b,cmp i j b→∀C:Bool→Shared→Prop,C b s→ask i j C s) {G:α→Shared→Prop}{r:α} (hg:G r s):∀t:KasT α,QnQ cmp t r→t.kasWp ask G s
 | .ret a,h=>by
  cases (show r=a from h);exact hg
 | .ask i j k,h=>by
  obtain ⟨b,h1,h2⟩:=h;exact hc i j b h1 _ (QnQ.wp hc hg (k b) h2)
section
variable {X:Cx}
theorem Rps.getD {K:Frag}{F:Hp}{as:List Addr}{ds:List D}{xs:List V} (h:Rps K F as xs ds) (i:Nat):Rp K F as (xs.getD i V.non) (ds.getD i .non):=by
 rw [zS,zS]
 cases e:ds[i]? with
 | none =>
  have:xs[i]? = none:=by
   rw [List.getElem?_eq_none_iff] at e ⊢;rw [h.length];exact e
  rw [this];exact Rp.non
 | some d =>
  obtain ⟨v,hv,r⟩:=h.get' e;rw [hv];exact r
end
structure Qt5 (mg:Str→Option Value):Prop extends Blt mg where
 sorted_:mg "sorted" = none
end L2
namespace L2
open PySem PySem.Spec PyProof.Rows
abbrev QtM (h:Heap) (z TI TO T:Addr) (b:Bool):Prop :=
 h.get? z=some { cls:=.type "zip",dict:=none,data:=.fields #[rawInt T,.bool b,.bool false,.ref TI,.ref TO],slots:=#[] }
section
variable {prog:Program}{w:World}{A:Around}{E:Value→Shared→Prop}{s:Shared}
structure ZS (base:Nat) (h:Heap) (z TI TO i1 i2 l1 l2 S:Addr) (xs ys acc:Array Value) (c i:Nat):Prop where
 zi:(IsZip h z TI TO .none∧∃a b,IsPair h TO a b)∨∃T b o,QtM h z TI TO T b∧h.get? T=some o∧T∉[z,TO,i1,i2,S]
 ti:IsPair h TI (.ref i1) (.ref i2)
 it1:h.IsListIter i1 l1 i
 it2:h.IsListIter i2 l2 i
 a1:h.IsList l1 xs
 a2:h.IsList l2 ys
 ls:h.get? S=some { cls:=.type "list",dict:=none,data:=.seq acc c,slots:=#[] }
 sz:acc.size=i
 tl:TO < h.objs.size
 nd:acc.toList.Nodup
 ts:∀(j:Nat) (v:Value),acc[j]? = some v→∃(T:Addr) (x y:Value),v=Value.ref T∧xs[j]? = some x∧ys[j]? = some y∧IsPair h T x y∧T∉[z,TO,i1,i2,S]∧base≤T
variable {R:PySem.Result→Shared→Prop}
end
theorem Un.more {fs ex:List Addr}{H H1:Hp}{h h':Heap}{a:Addr}{o:HO} (u:Un fs ex H H1 h h') (hp:h.objs.size≤a) (hn:H1 a=none):Un fs ex H (upd H1 a o) h h' where
 keep:=u.keep
 slot:=u.slot
 free:=fun b ob q n hx=>by rw [Qah (zq (zA (zf q) hp))]; exact u.free b ob q n hx
 there:=u.there
 tups:=fun b xs q=>by have z:=u.tups b xs q; rw [Qah (Qaw z hn)]; exact z
 frzs:=fun b ob v q=>by have z:=u.frzs b ob v q; rw [Qah (Qaw z hn)]; exact z
 tbls:=fun b ps q=>by obtain ⟨m,z⟩:=u.tbls b ps q; exact ⟨m,by rw [Qah (Qaw z hn)]; exact z⟩
theorem HOk.more {P:Program}{w:World}{H:Hp}{h:Heap}{a:Addr}{o:HO} (x:HOk P w H h) (hn:H a=none) (new:Qbb P w (upd H a o) h a o):HOk P w (upd H a o) h:=fun b u e=>by
 by_cases hb:b=a
 ·subst hb; rw [Qay] at e; cases e; exact new
 ·rw [Qah hb] at e
  exact (x b u e).stay (fun c v _ q=>q) (fun c q=>by rw [Qah (Qaw q hn)]; exact q) fun c xs q=>by rw [Qah (Qaw q hn)]; exact q
theorem Qkw {α β:Type}{R:α→β→Prop}:∀(ps:List α) (vs:List β),ps.length=vs.length→(∀(j:Nat) p v,ps[j]? = some p→vs[j]? = some v→R p v)→Paired R ps vs
 | [],[],_,_=>.nil
 | [],_::_,h,_=>by cases h
 | _::_,[],h,_=>by cases h
 | p::ps,v::vs,h,f=>.cons (f 0 p v rfl rfl) (Qkw ps vs (Nat.succ.inj h) fun j p v a b=>f (j+1) p v a b)
section
variable {X:Cx}
end
section
variable {X:Cx}{md:List Md}{P:Pt}
end
section
end
end L2
namespace L2
open PySem PySem.Spec PyProof.Rows PySem.W
section
variable {X:Cx}{md:List Md}{P:Pt}
end
end L2
namespace L2
open PySem PySem.Spec PyProof.Rows
section
variable {X:Cx}{md:List Md}{P:Pt}{R:RR}
variable {elts:List Expr}{x1:Nat}{tpos:Pos}{a elt:Expr}{ifs:List Expr}{scope:Scope}{p pos pe:Pos}{m:M D}{g:MG}{t:M Bool}{e:M D}
end
section
variable {X:Cx}{md:List Md}{P:Pt}{R:RR}{tg:Expr}
end
structure Qyo (mg:Str→Option Value):Prop extends Qt5 mg where
 reversed_:mg "reversed" = none
end L2
namespace L2
open PySem PySem.Spec PyProof.Rows PySem.W
section
variable {prog:Program}{w:World}{A:Around}{E:Value→Shared→Prop}
end
section
variable {X:Cx}{md:List Md}{P:Pt}{R:RR}
end
section
variable {X:Cx}{tg:Expr}{md:List Md}{P:Pt}
end
section
variable {X:Cx}{pins:List (Addr×Obj)}{σ:List (Option V)}{H:Hp}{s:Shared}{a:Addr}{xs:List (List Key×V)}{o:Obj}
theorem Inv.reword {u:HO} (I:Inv X pins σ H s) (ha:H a≠none) (hn:∀ys,H a≠some (.tup ys)) (ho:∀y,H a≠some (.own y)) (hb:∀ps,H a≠some (.tbl ps)) (hf:∀o u,X.H₀ a≠some (.frz o u)) (new:Qbb X.prog X.w (upd H a u) s.heap a u):Inv X pins σ (upd H a u) s where
 ok:=I.ok
 os:=I.os
 bare:=I.bare
 base:={
  keep:=I.base.keep
  slot:=I.base.slot
  free:=fun b o' q n hx=>by
   have z:=I.base.free b o' q n hx;rw [Qah (by intro e; have w:=z; rw [e] at w; exact ha w)];exact z
  there:=I.base.there
  tups:=fun b ys q=>by
   have z:=I.base.tups b ys q;rw [Qah (by intro e; have w:=z; rw [e] at w; exact hn ys w)];exact z
  frzs:=fun b o' u' q=>by
   have z:=I.base.frzs b o' u' q;rw [Qah (by intro e; have w:=q; rw [e] at w; exact hf o' u' w)];exact z
  tbls:=fun b ps q=>by
   obtain ⟨m,z⟩:=I.base.tbls b ps q
   exact ⟨m,by rw [Qah (by intro e; have w:=z; rw [e] at w; exact hb _ w)]; exact z⟩ }
 loc:=I.loc
 cell:=I.cell
 free:=by rw [Qah (by intro e; have w:=I.free; rw [e] at w; exact ha w)]; exact I.free
 freeC:=fun x c q=>by rw [Qah (by intro e; have w:=I.freeC x c q; rw [e] at w; exact ha w)]; exact I.freeC x c q
 pin:=fun p hp=>by
  obtain ⟨h1,h2,h3,h4,h5⟩:=I.pin p hp;exact ⟨h1,by rw [Qah (by intro e; have w:=h2; rw [e] at w; exact ha w)]; exact h2,h3,h4,h5⟩
 hok:=fun b u' q=>by
  by_cases e:b=a
  ·subst e;rw [Qay] at q;cases q;exact new
  ·rw [Qah e] at q
   exact (I.hok b u' q).stay (fun _ _ _ z=>z) (fun c z=>by rw [Qah (by intro e; have w:=z; rw [e] at w; exact ho b w)]; exact z) fun c ys z=>by rw [Qah (by intro e; have w:=z; rw [e] at w; exact hn ys w)]; exact z
 len:=I.len
end
section
variable {prog:Program}{w:World}{A:Around}{E:Value→Shared→Prop}{s:Shared}
end
theorem Qn9 {α β:Type}{R:α→β→Prop}{l:List α}{m:List β} (h:Paired R l m):∀{i:Nat}{x:α}{y:β},l[i]? = some x→m[i]? = some y→R x y:=by
 induction h with
 | nil=>intro i x y h; cases h
 | cons a b ih =>
  intro i x y h1 h2
  cases i with
  | zero=>cases h1; cases h2; exact a
  | succ i=>exact ih h1 h2
section
variable {K:Frag}{mg:Str→Option Value}{O:Qac}{H F:Hp}{as:List Addr}
theorem QjP:∀ks:List Key,Rps K F as (ks.map kV) (ks.map QgX)
 | []=>Rps.nil
 | .inl i::ks=>Rps.cons (show Rp K F as (.int i) (.int i) from rfl) (QjP ks)
 | .inr x::ks=>Rps.cons (show Rp K F as (.str x) (.str x.cps.toList) from by
   show V.str x=V.str (S x.cps.toList)
   rw [show S x.cps.toList=x by cases x; simp [S]]) (QjP ks)
theorem RlO.df {n:Nat}{a:Addr}{kvs:List (List Key×D)} (r:RlO K mg O H F as) (hn:as[n]? = some a) (hO:O[n]? = some (.df kvs)):∃o xs,H a=some (.frz o (.dT xs))∧DtR K F as xs kvs:=let ⟨o,xs,h1,h2,h3⟩:=r.ob n a _ hn hO; ⟨o,xs,h1,h2,h3⟩
end
section
variable {X:Cx}{md:List Md}{P:Pt}{R:RR}
end
section
variable {K:Frag}{mg:Str→Option Value}{md:List Md}{P:Pt}{ρ:Qai}{σ:St}{O:Qac}{H F H' F':Hp}{as as':List Addr}
end
section
variable {X:Cx}{md:List Md}{P:Pt}{R:RR}
end
section
variable {X:Cx}{md:List Md}{P:Pt}{R:RR}
end
section
variable {prog:Program}{w:World}
end
section
variable {X:Cx}{md:List Md}{P:Pt}{R:RR}
end
def Qdi (kvs:List (Key×D)) (k:Key):Option D:=(kvs.find? fun p=>decide (p.1=k)).map (·.2)
def QjN (kvs:List (Key×D)) (k:Key) (d:D):List (Key×D) :=
 if (kvs.any fun p=>decide (p.1=k))=true then kvs.map (fun p=>if p.1=k then (p.1,d) else p) else kvs ++ [(k,d)]
def DkR (K:Frag) (F:Hp) (as:List Addr) (xs:List (Key×V)) (kvs:List (Key×D)):Prop:=xs.map (·.1)=kvs.map (·.1)∧Rps K F as (xs.map (·.2)) (kvs.map (·.2))
section
variable {K:Frag}{mg:Str→Option Value}{O:Qac}{H F H' F':Hp}{as as':List Addr}
theorem DkR.len {xs:List (Key×V)}{kvs:List (Key×D)} (h:DkR K F as xs kvs):xs.length=kvs.length:=by
 have:=congrArg List.length h.1
 simpa using this
theorem DkR.un {xs:List (Key×V)}{p:Key×D}{kvs:List (Key×D)} (h:DkR K F as xs (p::kvs)):∃v r,xs=(p.1,v)::r∧Rp K F as v p.2∧DkR K F as r kvs:=by
 obtain ⟨h1,h2⟩:=h
 cases xs with
 | nil=>cases h1
 | cons x r =>
  obtain ⟨v,r',e,q1,q2⟩:=h2.un;cases e;rw [zg,zg] at h1;have q3:=(List.cons.inj h1).1;refine ⟨x.2,r,?_,q1,(List.cons.inj h1).2,q2⟩;rw [←q3]
theorem DkR.val {k:Key}:∀{kvs:List (Key×D)}{xs:List (Key×V)},DkR K F as xs kvs→(Qdi kvs k=none∧Qds xs k=none)∨∃d v,Qdi kvs k=some d∧Qds xs k=some v∧Rp K F as v d
 | [],xs,h=>by
  have:=h.len
  cases xs with
  | nil=>exact .inl ⟨rfl,rfl⟩
  | cons=>cases this
 | p::kvs,xs,h=>by
  obtain ⟨v,r,rfl,h1,h2⟩:=h.un
  by_cases e:p.1=k
  ·exact .inr ⟨p.2,v,by simp [Qdi,List.find?_cons,e],QfH e,h1⟩
  ·rw [show Qdi (p::kvs) k=Qdi kvs k by simp [Qdi,List.find?_cons,e],QfN (p:=(p.1,v)) e];exact DkR.val h2
theorem DkR.any {k:Key}:∀{kvs:List (Key×D)}{xs:List (Key×V)},DkR K F as xs kvs→(xs.any fun p=>decide (p.1=k))=kvs.any fun p=>decide (p.1=k)
 | [],xs,h=>by
  have:=h.len
  cases xs with
  | nil=>rfl
  | cons=>cases this
 | p::kvs,xs,h=>by
  obtain ⟨v,r,rfl,h1,h2⟩:=h.un;rw [List.any_cons,List.any_cons,DkR.any h2]
theorem DkR.repl {k:Key}{v:V}{d:D} (hv:Rp K F as v d):∀{kvs:List (Key×D)}{xs:List (Key×V)},DkR K F as xs kvs →
  DkR K F as (xs.map fun p=>if p.1=k then (p.1,v) else p) (kvs.map fun p=>if p.1=k then (p.1,d) else p)
 | [],xs,h=>by
  have:=h.len
  cases xs with
  | nil=>exact ⟨rfl,Rps.nil⟩
  | cons=>cases this
 | p::kvs,xs,h=>by
  obtain ⟨u,r,rfl,h1,h2⟩:=h.un;obtain ⟨i1,i2⟩:=DkR.repl (k:=k) hv h2
  by_cases e:p.1=k
  ·rw [zg,zg,if_pos e,if_pos e];exact ⟨by rw [zg,zg,i1],Rps.cons hv i2⟩
  ·rw [zg,zg,if_neg e,if_neg e];exact ⟨by rw [zg,zg,i1],Rps.cons h1 i2⟩
theorem DkR.put {xs:List (Key×V)}{kvs:List (Key×D)} (h:DkR K F as xs kvs) (k:Key) {v:V}{d:D} (hv:Rp K F as v d):DkR K F as (putK xs k v) (QjN kvs k d):=by
 unfold putK QjN;rw [h.any]
 split
 ·exact h.repl hv
 ·exact ⟨by rw [zM,zM,h.1]; rfl,by rw [zM,zM]; exact Rps.snoc h.2 hv⟩
theorem RlO.dk {n:Nat}{a:Addr}{kvs:List (Key×D)} (r:RlO K mg O H F as) (hn:as[n]? = some a) (hO:O[n]? = some (.dk kvs)):∃xs,H a=some (.dK xs)∧DkR K F as xs kvs:=let ⟨xs,h1,h2,h3⟩:=r.ob n a _ hn hO; ⟨xs,h1,h2,h3⟩
end
section
variable {X:Cx}{md:List Md}{P:Pt}{R:RR}
def Qjh:M D:=fun _ O=>.ok (.ob O.length) (O ++ [.dk []])
theorem Qp7 {pos:Pos}:VE X md P (.Dict [] [] pos) Qjh:=Qls.imp fun σ H Q q p hp=>by
 obtain ⟨ρ,O,F,as,d,O',r,s,e,k⟩:=q;cases e;refine k _ _ F (as ++ [p]) (Gr.snoc hp) ((r.lay hp).snocO (r.unF hp) (fun z=>r.all z hp) ⟨[],Qay,rfl,Rps.nil⟩) (Rp.mkO ?_);rw [←r.len,zE (ze _),Nat.sub_self];rfl
def Qgv (mo my mv:M D):MS:=fun ρ O=>match mv ρ O with
 | .ok d O1=>match mo ρ O1 with
  | .ok (.ob n) O2=>match my ρ O2 with
   | .ok y O3=>match keyOf y,O3[n]? with
    | some k,some (.dk kvs)=>if kvs.length < 1000000 then .nx ρ (O3.set n (.dk (QjN kvs k d))) else .no
    | _,_=>.no
   | _=>.no
  | _=>.no
 | _=>.no
theorem QrB {kk:Nat} (hr:QaG kk X.A) {o i value:Expr}{pos pos':Pos}{mo my mv:M D} (ho:VE X md P o mo) (hi:VE X md P i my) (hv:VE X md P value mv)
  (hs:swapsWith value (some (.Subscript o i pos')) pos.line X.env=pure false:=by rfl):VS X md P R (.Assign [.Subscript o i pos'] value pos) (Qgv mo my mv) :=
 (Qsv (QnF hr) ho hi hv hs).imp fun D σ H q=>by
  obtain ⟨ρ,O,F,as,r,s,k⟩:=q;unfold Qgv at k;split at k
  ·rename_i d O1 e1;split at k
   ·rename_i n O2 e2;split at k
    ·rename_i y O3 e3;split at k
     ·rename_i ks kvs e4 e5;split at k
      ·rename_i hz;refine ⟨ρ,O,F,as,_,_,r,s,e1,fun v H1 F1 as1 g1 r1 hv=>⟨ρ,O1,F1,as1,_,_,r1,s.step g1,e2,fun x H2 F2 as2 g2 r2 hx=>⟨ρ,O2,F2,as2,_,_,r2,s.step (g1.trans g2),e3,fun u H3 F3 as3 g3 r3 hu=>?_⟩⟩⟩;obtain ⟨a,rfl,ha⟩:=Rp.unO hx;have ha3:=g3.at_ n a ha;obtain ⟨xs,x1,x2⟩:=r3.dk ha3 e5;have hkv:u=kV ks:=(show Rp X.K F3 as3 u y from hu).key e4;subst hkv;have hv3:=(show Rp X.K F1 as1 v d from hv).gr (g2.trans g3)
       have hl:xs.length < sizeLine:=by rw [x2.len]; exact zA hz (by decide)
       have g4:Gr H3 F3 as3 (upd H3 a (.dK (putK xs ks v))) F3 as3:=Qmk (zR ha3) x1;have gg:=((g1.trans g2).trans g3).trans g4;obtain ⟨z1,z2⟩:=x2.put ks hv3;exact ⟨a,_,rfl,Qiw.k x1 hl,k σ _ F3 as3 gg.toS (r3.mutG ha3 ⟨_,Qay,z1,z2⟩) (s.step gg)⟩
      ·exact False.elim k
     ·exact False.elim k
    ·exact False.elim k
   ·exact False.elim k
  ·exact False.elim k
def QkC (mo my:M D):M D:=fun ρ O=>(mo ρ O).bind fun x O1=>match x with
 | .ob n=>(my ρ O1).bind fun y O2=>match keyOf y,O2[n]? with
  | some k,some (.dk kvs)=>match Qdi kvs k with
   | some d=>.ok d O2
   | none=>.no
  | _,_=>.no
 | _=>.no
theorem Qso {kk:Nat} (hr:QaG kk X.A) {o i:Expr}{pos:Pos}{mo my:M D} (ho:VE X md P o mo) (hi:VE X md P i my) (hs:Qj2 i:=by intro _ _; rfl):VE X md P (.Subscript o i pos) (QkC mo my) :=
 (QrT (QnF hr) ho hi hs).imp fun σ H Q q=>by
  obtain ⟨ρ,O,F,as,d,O',r,s,e,k⟩:=q;obtain ⟨x,O1,e1,e⟩:=Res.bind_ok e
  cases x with
  | ob n =>
   obtain ⟨y,O2,e2,e⟩:=Res.bind_ok e;split at e
   ·rename_i ks kvs e3 e4;split at e
    ·rename_i d' e5;cases e;refine ⟨ρ,_,F,as,_,_,r,s,e1,fun x H1 F1 as1 g1 r1 hx=>⟨ρ,_,F1,as1,_,_,r1,s.step g1,e2,fun u H2 F2 as2 g2 r2 hu=>?_⟩⟩;obtain ⟨a,rfl,ha⟩:=Rp.unO hx;obtain ⟨xs,x1,x2⟩:=r2.dk (g2.at_ n a ha) e4;have hkv:u=kV ks:=(show Rp X.K F2 as2 u y from hu).key e3;subst hkv
     rcases x2.val (k:=ks) with ⟨z1,z2⟩ | ⟨d2,v',z1,z2,z3⟩
     ·rw [z1] at e5; cases e5
     ·rw [z1] at e5;cases e5;refine ⟨a,v',rfl,?_,k _ H2 F2 as2 (g1.trans g2) r2 z3⟩;rw [←z2];exact Qgo.k x1
    ·cases e
   ·cases e
  | _=>cases e
end
theorem Rps.reverse {K:Frag}{F:Hp}{as:List Addr}:∀{ds:List D}{xs:List V},Rps K F as xs ds→Rps K F as xs.reverse ds.reverse
 | [],xs,h=>by rw [h.un0]; exact Rps.nil
 | d::ds,xs,h=>by
  obtain ⟨x,r,rfl,h1,h2⟩:=h.un;rw [List.reverse_cons,List.reverse_cons];exact Rps.snoc (Rps.reverse h2) h1
section
variable {X:Cx}{md:List Md}{P:Pt}{R:RR}
end
section
variable {X:Cx}{md:List Md}{P:Pt}{R:RR}
theorem QeH.int {K:Frag}{H F:Hp}{as:List Addr}{m:Md}{v:V}{a:Int} (h:QeH P K H F as m v (.int a)):v = .int a:=by
 cases m with
 | v=>exact (show Rp K F as v (.int a) from h).unI
 | s =>
  rcases h with h | ⟨_,_,_,_,h,_⟩
  ·exact h.unI
  ·cases h
 | o =>
  rcases h with ⟨_,h⟩ | ⟨_,_,_,_,h,_⟩
  ·exact h.unI
  ·cases h
def Qgr:List Int→Option Int
 | []=>none
 | n::ns=>match Qgr ns with
  | some m=>some (if m < n then n else m)
  | none=>some n
theorem QjE:∀{ns:List Int}{M:Int},M∈ns→(∀a,a∈ns→a≤M)→Qgr ns=some M
 | [],M,h,_=>nomatch h
 | n::ns,M,h,hM=>by
  unfold Qgr
  rcases zm.mp h with rfl | h
  ·cases e:Qgr ns with
   | none=>rfl
   | some m =>
    dsimp only
    have:∀{ns:List Int}{m:Int},Qgr ns=some m→m∈ns:=by
     intro ns
     induction ns with
     | nil=>intro m h; cases h
     | cons n ns ih =>
      intro m h;unfold Qgr at h
      cases e:Qgr ns with
      | none=>rw [e] at h; cases h; exact zz
      | some k =>
       rw [e] at h;dsimp only at h;cases h
       split
       ·exact zz
       ·exact zw _ (ih e)
    have hm:=hM m (zw _ (this e))
    by_cases hlt:m < M
    ·rw [if_pos hlt]
    ·rw [if_neg hlt];exact congrArg some (by omega)
  ·rw [QjE h fun a ha=>hM a (zw _ ha)];dsimp only
   have:=hM n zz
   by_cases hlt:M < n
   ·omega
   ·rw [if_neg hlt]
def QgL:List D→Option D
 | [.lst ds]=>match Qgb ds with
  | some ns=>(Qgr ns).map D.int
  | none=>none
 | _=>none
theorem Qoz (hc:X.calm=true):Qc5 X (.builtin "max") (fun xs H Q=>∃(a:Addr) (ns:List Int) (M:Int),xs = [.ref a]∧SqL X.K H a (ns.map V.int)∧Qgr ns=some M∧Q (.int M) H):=by
 intro pins s σ H xs us Q I r h;obtain ⟨a,ns,M,rfl,ha,hM,q⟩:=h;obtain ⟨u,rfl,ru⟩:=vals1 r;cases ru;obtain ⟨its,rv,p,hz⟩:=I.list ha;have hi:=intsAre_of rv;have hl:=p.isList;obtain ⟨xs,hxs⟩:=hi.allInts.items;have hn:=hi.numsOf
 have hne:0 < ns.length:=by
  cases ns with
  | nil=>cases hM
  | cons n ns=>exact Nat.succ_pos _
 have hsz:0 < xs.size:=by
  have h1:its.toArray.size=xs.size:=by rw [hxs]; simp [intItems]
  rw [←h1,zu,hi.length];exact hne
 rw [hxs] at hl
 refine max_intList (I.ok.hd hc) hl hsz fun v h' tk hv hk=>?_
 obtain ⟨t,rfl⟩:=intItems_at hv;have e2:numsOf its=numsOf its.toArray.toList:=rfl;rw [hxs,nums_intItems] at e2;rw [hn] at e2;obtain ⟨h1,h2⟩:=argBest_gt (numAt xs) (xs.size - 1)
 have hmax:=QjE (ns:=ns) (M:=numAt xs (argBest (fun i j=>decide (numAt xs i > numAt xs j)) (xs.size - 1))) (by
  rw [e2,numAt_eq]
  exact getD_mem (by rw [zp,Array.length_toList]; omega)) (fun a ha=>by
  rw [e2] at ha;obtain ⟨j,hj,rfl⟩:=mem_getD ha;rw [zp,Array.length_toList] at hj;rw [←numAt_eq]
  exact h2 j (by omega))
 rw [hM] at hmax
 have:=zL hmax
 rw [←this];exact ⟨.int M,H,I.kept (t':=tk) hk,⟨t,rfl⟩,q⟩
theorem QmP (hc:X.calm=true):QeF X (.builtin "max") QgL:=by
 intro pins s σ H xs us Q I rs h;obtain ⟨O,F,as,ds,d,r,hvs,e,k⟩:=h;unfold QgL at e;split at e
 ·rename_i es;obtain ⟨v,rfl,hv⟩:=hvs.one;obtain ⟨a,xs,rfl,h1,h2⟩:=hv.list r.fh
  cases hi:Qgb es with
  | none=>rw [hi] at e; cases e
  | some ns =>
   rw [hi] at e;dsimp only at e
   cases hm:Qgr ns with
   | none=>rw [hm] at e; cases e
   | some M =>
    rw [hm] at e;cases e;have hx:=h2.ints hi;exact Qoz hc pins s σ H _ us Q I rs ⟨a,ns,M,rfl,by rw [←hx]; exact h1.sq,hm,QaZ r k rfl Rp.int⟩
 ·cases e
end
end L2
namespace L2
open PySem PySem.Spec PyProof.Rows PySem.W PySem.Calls
def Qfy (ss:List Str) (x:Str):List Str:=if x∈ss then ss else ss ++ [x]
def Qh4 (es:Array (Int×Value)):List Str:=es.toList.map fun e=>strOf e.2
def QnT (prog:Program) (w:World) (h:Heap) (a:Addr) (ss:List Str) (o:Obj) (es:Array (Int×Value)) (ep:Nat) (t:SetTable):Prop :=
 h.get? a=some o∧o.ExactSet∧o.data = .set es ep t∧ElemsOf (PySem.strKind prog w) es.toList∧(Qh4 es).Perm ss∧es.size < scanBound∧t.fits es.size=true∧(es.size=0∨t.plain=false)∧t.led = !w.params.followText "set-order"
def Qdt (prog:Program) (w:World) (h:Heap) (a:Addr) (ss:List Str):Prop:=∃o es ep t,QnT prog w h a ss o es ep t
section
variable {prog:Program}{w:World}{A:Around}{E:Value→Shared→Prop}{s:Shared}{a:Addr}{ss:List Str}
theorem Qdt.at {h h':Heap} (x:Qdt prog w h a ss) (k:∀o,h.get? a=some o→h'.get? a=some o):Qdt prog w h' a ss :=
 let ⟨o,es,ep,t,h1,r⟩:=x; ⟨o,es,ep,t,k o h1,r⟩
theorem Qdt.len {h:Heap} (x:Qdt prog w h a ss):ss.length < scanBound:=by
 obtain ⟨o,es,ep,t,h1,h2,h3,h4,h5,h6,_⟩:=x;rw [←h5.length_eq];unfold Qh4;rw [zp];exact h6
theorem QlR (t:SetTable) (es:Array (Int×Value)) (n:Nat) (h:t.plain=false):(relayAll t es n).2.1.plain=false:=by
 unfold relayAll
 split
 ·rename_i t' order e;dsimp only
  split
  ·unfold SetTable.relaid SetTable.laid at e
   cases q:SetTable.layClean (SetTable.sizeAbove n - 1) (Array.map (fun x=>x.fst) es) with
   | none=>rw [q] at e; cases e
   | some ow =>
    rw [q] at e;cases e;exact h
  ·rfl
 ·rfl
theorem Qo2 (t:SetTable) (es:Array (Int×Value)) (n:Nat):(relayAll t es n).2.1.led=t.led:=by
 unfold relayAll
 split
 ·rename_i t' order e;dsimp only
  split
  ·unfold SetTable.relaid SetTable.laid at e
   cases q:SetTable.layClean (SetTable.sizeAbove n - 1) (Array.map (fun x=>x.fst) es) with
   | none=>rw [q] at e; cases e
   | some ow =>
    rw [q] at e;cases e;rfl
  ·rfl
 ·rfl
theorem Qpz (t:SetTable) (n:Nat):(t.orStandIn n).led=t.led:=by
 unfold SetTable.orStandIn
 split <;> rfl
theorem Qsl (t:SetTable) (es:Array (Int×Value)) (h:Int) (x:Value):(layNew t es h x).2.1.led=t.led:=by
 unfold layNew
 split
 ·exact Qpz _ _
 ·rfl
theorem Qi4 {h:Heap}{o:Obj}{es:Array (Int×Value)}{ep:Nat}{t:SetTable} (ho:h.get? a=some o) (hex:o.ExactSet) (hd:o.data = .set es ep t)
  {es':Array (Int×Value)}{t':SetTable} (hel:ElemsOf (PySem.strKind prog w) es'.toList) (hp:(Qh4 es').Perm ss) (hb:es'.size < scanBound) (hf:t'.fits es'.size=true) (hpl:t'.plain=false) (hled:t'.led = !w.params.followText "set-order") :
  (h.update a (Obj.putSet es' t')).get? a=some { o with data:=.set es' (ep+1) t' }∧Qdt prog w (h.update a (Obj.putSet es' t')) a ss:=by
 have hg:(h.update a (Obj.putSet es' t')).get? a=some { o with data:=.set es' (ep+1) t' }:=by
  have:=Heap.get?_update_self (Obj.putSet es' t') ho (by rw [putSet_of es' t' hd]; rfl)
  rw [putSet_of es' t' hd] at this; exact this
 exact ⟨hg,_,es',ep+1,t',hg,hex,rfl,hel,hp,hb,hf,.inr hpl,hled⟩
theorem Qkg {g:Bool→Sem Unit} (hg:∀(b:Bool) (s₁:Shared) (Q':Unit→Shared→Prop),Q' () s₁→wpAny (model prog w) A (g b) Q' E s₁)
  {o:Obj}{es:Array (Int×Value)}{ep:Nat}{t:SetTable} (ho:s.heap.get? a=some o) (hex:o.ExactSet) (hd:o.data = .set es ep t)
  {es1:Array (Int×Value)}{t2:SetTable} (hel1:ElemsOf (PySem.strKind prog w) es1.toList) (hp1:(Qh4 es1).Perm ss) (hb1:es1.size < scanBound) (hf2:t2.fits es1.size=true) (hpl:t2.plain=false) (hled:t2.led = !w.params.followText "set-order") {wasDummy:Bool}{R:Option Bool→Shared→Prop}
  (h:∀h',Heap.SameBut a s.heap h'→Qdt prog w h' a ss→R (some true) { s with heap:=h' }) :
  wpAny (model prog w) A (do
    storeSet a es1 t2
    if (!wasDummy&&t2.tooFull)=true then do
      g (relayAll t2 es1 (SetTable.grown es1.size)).2.2
      storeSet a (relayAll t2 es1 (SetTable.grown es1.size)).1 (relayAll t2 es1 (SetTable.grown es1.size)).2.1
      pure (some true)
     else pure (some true)) R E s:=by
 refine zc (wpAny_storeSet_of ho hd ?_ (fits_of_scanBound hb1));obtain ⟨ho1,hS1⟩:=Qi4 (prog:=prog) (w:=w) ho hex hd hel1 hp1 hb1 hf2 hpl hled;have hsb1:=Heap.SameBut.update s.heap a (Obj.putSet es1 t2)
 split
 ·have hp:=relayAll_perm t2 es1 (SetTable.grown es1.size);have hfr:=relayAll_fits t2 es1 (SetTable.grown es1.size);have hpr:=QlR t2 es1 (SetTable.grown es1.size) hpl;have hlr:=Qo2 t2 es1 (SetTable.grown es1.size)
  generalize hRl:relayAll t2 es1 (SetTable.grown es1.size)=Rl at hp hfr hpr hlr ⊢
  obtain ⟨es2,t3,gave2⟩:=Rl;dsimp only at hp hfr hpr hlr ⊢;have hel2:ElemsOf (PySem.strKind prog w) es2.toList:=hel1.perm hp
  have hsz:es2.size=es1.size:=by rw [←Array.length_toList,hp.length_eq,Array.length_toList]
  have hb2:es2.size < scanBound:=by rw [hsz]; exact hb1
  refine zc (hg _ _ _ ?_);refine zc (wpAny_storeSet_of ho1 rfl ?_ (fits_of_scanBound hb2));obtain ⟨_,hS2⟩:=Qi4 (prog:=prog) (w:=w) ho1 hex rfl hel2 ((hp.map _).trans hp1) hb2 hfr hpr (hlr.trans hled);exact zd (h _ (hsb1.trans (Heap.SameBut.update _ a _)) hS2)
 ·exact zd (h _ hsb1 hS1)
theorem Qqx {x:Str}{tk:Tok}{Q:Bool→Shared→Prop} (hS:Qdt prog w s.heap a ss) (hroom:ss.length+1 < scanBound)
  (h:∀h' b,Heap.SameBut a s.heap h'→Qdt prog w h' a (Qfy ss x)→Q b { s with heap:=h' }) :
  wpAny (model prog w) A (setAddHashed a (.str x tk) ((PySem.strKind prog w).hash x)) Q E s:=by
 obtain ⟨o,es,ep,t,ho,hex,hd,hel,hp,hb,hf,hpl,hled⟩:=hS
 have hkey:(PySem.strKind prog w).is x (.str x tk)=true:=by
  show Value.isStrOf x (.str x tk)=true;simp [Value.isStrOf]
 have hlen:es.size=ss.length:=by rw [←hp.length_eq]; unfold Qh4; rw [zp,Array.length_toList]
 have hb1:es.size+1 < scanBound:=by rw [hlen]; exact hroom
 have hsc:(Value.str x tk).scannable=true:=rfl
 have key:∀e∈es.toList,∀y,(PySem.strKind prog w).is y e.2=true↔strOf e.2=y:=fun e he y=>by
  obtain ⟨⟨k,hk,_⟩,_⟩:=hel e he;obtain ⟨t',ht⟩:=Value.isStrOf_shape hk;rw [ht];show Value.isStrOf y (.str k t')=true↔k=y;simp [Value.isStrOf]
 unfold setAddHashed setAddHashedIn;refine zK (zc (wpAny_setState_of ho hd hf ?_));dsimp only;rw [byScan_of hsc hb hel];simp only [↓reduceIte];unfold setAddByScan;refine zc ?_;refine zc (zV ?_);refine zc (wpAny_setScan_of hkey ho hd hf hel ?_)
 cases hr:List.findIdx? (fun e=>(PySem.strKind prog w).is x e.2) es.toList with
 | some j =>
  dsimp only;obtain ⟨hj,hpj,_⟩:=List.findIdx?_eq_some_iff_getElem.mp hr;have hx:x∈ss:=hp.mem_iff.mp (zQ.mpr ⟨es.toList[j],jg hj,(key _ (jg hj) x).mp hpj⟩);refine zd (zd ?_)
  have e:s = { s with heap:=s.heap }:=by cases s; rfl
  rw [e];exact h s.heap _ (Heap.SameBut.refl a s.heap) ⟨o,es,ep,t,ho,hex,hd,hel,by rw [Qfy,if_pos hx]; exact hp,hb,hf,hpl,hled⟩
 | none =>
  dsimp only
  have hx:x∉ss:=fun hx=>by
   obtain ⟨e,he,q⟩:=zQ.mp (hp.mem_iff.mpr hx)
   have:=List.findIdx?_eq_none_iff.mp hr e he
   rw [(key e he x).mpr q] at this;exact Bool.noConfusion this
  have hgw:∀(b:Bool) {s₁:Shared}{Q':Unit→Shared→Prop},Q' () s₁→wpAny (model prog w) A (match b with | true=>rule "set.scan.the-table-gave-way" | false=>pure ()) Q' E s₁ :=
   fun b s₁ Q' hq=>by cases b <;> first | exact zd hq | exact zV hq
  have hperm:=layNew_perm t es ((PySem.strKind prog w).hash x) (.str x tk);have hfits:=layNew_fits t es ((PySem.strKind prog w).hash x) (.str x tk);have hll:=Qsl t es ((PySem.strKind prog w).hash x) (.str x tk)
  generalize hL:layNew t es ((PySem.strKind prog w).hash x) (.str x tk)=L at hperm hfits hll ⊢
  obtain ⟨es1,t1,wasDummy,gave⟩:=L;dsimp only at hperm hfits hll ⊢;rw [Array.toList_push] at hperm;have hel1:ElemsOf (PySem.strKind prog w) es1.toList:=(hel.push hkey hsc).perm hperm
  have hp1:(Qh4 es1).Perm (Qfy ss x):=by
   rw [Qfy,if_neg hx];refine (hperm.map fun e=>strOf e.2).trans ?_;rw [zM];exact hp.append_right _
  have hb1':es1.size < scanBound:=by rw [←Array.length_toList,hperm.length_eq,zF,Array.length_toList]; simpa using hb1
  refine zc (hgw _ ?_)
  split
  ·refine zc ?_;refine zc (m:=hashByValue 8 (.str x tk)) (zd ?_);refine zd ?_;simp only [Bool.false_eq_true,↓reduceIte];refine Qkg (t2:={ t1 with plain:=false }) ?_ ho hex hd hel1 hp1 hb1' (SetTable.fits_plain_off hfits) rfl (hll.trans hled) ?_
   ·intro b s₁ Q' hq; cases b <;> first | exact zd hq | exact zV hq
   ·intro h' hsb hS'; dsimp only; exact zd (h h' _ hsb hS')
  ·rename_i hnp;refine zc (zd ?_);simp only [↓reduceIte];refine Qkg ?_ ho hex hd hel1 hp1 hb1' hfits (by simpa using hnp) (hll.trans hled) ?_
   ·intro b s₁ Q' hq; cases b <;> first | exact zd hq | exact zV hq
   ·intro h' hsb hS'; dsimp only; exact zd (h h' _ hsb hS')
theorem isS (x:Str) (t:Tok):(PySem.strKind prog w).is x (.str x t)=true:=by
 show Value.isStrOf x (.str x t)=true;simp [Value.isStrOf]
theorem map_getD (ns:List Str):(List.range' 0 ns.length).map (fun i=>ns.getD i ⟨#[]⟩)=ns:=by
 apply List.ext_getElem
 ·simp
 ·intro i h1 h2;simp [zS,h2]
theorem Qpj {R:Result→Shared→Prop}{I:Addr}{fp wr:List Addr}{G:Array GenState→Array GenState→Prop}{n:Nat}{P:Nat→Value→Prop}{St:Nat→Shared→Prop} (W:WalksS prog w A.in1 I fp wr G n P St) (S:Addr) (hSf:S∉fp)
  (val:Nat→Str) (hval:∀i v,P i v→∃t,v = .str (val i) t) (hb:n+1 < scanBound) :
  ∀(k i:Nat) (s:Shared) (ss:List Str),n - i=k→i≤n→St i s→ss.length≤i→Qdt prog w s.heap S ss →
   (∀s',Moved (S::wr) G s s'→Qdt prog w s'.heap S (((List.range' i (n - i)).map val).foldl Qfy ss)→R (.ok (.ret .none)) s') →
   codeAny (model prog w) A (.builtin "set.update.loop" ⟨[.ref S,.ref I],[]⟩) R s:=by
 have hSw:S∉wr:=fun h=>hSf (W.sub _ h)
 have hsub:∀b∈wr,b∈S::wr:=fun b hb=>zw _ hb
 intro k
 induction k with
 | zero =>
  intro i s ss hk hi hst hle hS hR
  have hin:i=n:=by omega
  subst hin;refine ji PyProof.Rows.F.entry_set_update_loop ?_;rw [Around.under_plainId PyProof.Rows.F.plain_set_update_loop _];show wpAny _ A.in1 (pyNext (.ref I) >>= _) _ _ s;refine zc (W.done s _ _ hst fun s' hm=>?_);show wpAny _ A.in1 (ret Value.none) _ _ s';refine zd (hR s' (hm.mono hsub) ?_);rw [Nat.sub_self]
  exact hS.at fun o e=>hm.heap S _ hSw e
 | succ k ih =>
  intro i s ss hk hi hst hle hS hR
  have hlt:i < n:=by omega
  refine ji PyProof.Rows.F.entry_set_update_loop ?_;rw [Around.under_plainId PyProof.Rows.F.plain_set_update_loop _];show wpAny _ A.in1 (pyNext (.ref I) >>= _) _ _ s;refine zc (W.item i s _ _ hlt hst fun v s' hP hst' hm=>?_);obtain ⟨t,rfl⟩:=hval i v hP
  have hS':Qdt prog w s'.heap S ss:=hS.at fun o e=>hm.heap S _ hSw e
  show wpAny _ A.in1 (holding [Value.str (val i) t] (setAdd S (.str (val i) t)) >>= _) _ _ s';refine zc (zK ?_);unfold setAdd;refine zK ?_;refine zc ((PySem.strKind prog w).pyHash (k:=val i) (isS _ _) ?_)
  refine Qqx (s:={ s' with toks:=s'.toks+1 }) hS' (by omega) fun h' b hsb hS2=>?_
  refine zd ⟨plainId_quiet PyProof.Rows.F.plain_set_update_loop _,ih (i+1) _ (Qfy ss (val i)) (by omega) hlt (W.frame _ s' _ _ hst' (Nat.le_succ _) fun b hb o e=>?_) ?_ hS2 fun s'' hm'' hS''=>?_⟩
  ·rw [hsb.2 b (fun h:b=S=>hSf (by rw [←h]; exact hb))]; exact e
  ·unfold Qfy
   split
   ·omega
   ·rw [zF,jk]; omega
  ·refine hR s'' (Moved.trans W.gtrans ((hm.mono hsub).then_heap (Nat.le_succ _) fun b o hb e=>?_) hm'') ?_
   ·rw [hsb.2 b (fun h:b=S=>hb (by rw [h]; exact zz))]; exact e
   ·rw [show n - i=(n - (i+1))+1 by omega,List.range'_succ,zg,List.foldl_cons];exact hS''
theorem QpK (x:Value) {Q₁:Value→Shared→Prop}
  (h:Q₁ (.ref s.heap.objs.size) { s with heap:=s.heap.push { cls:=.type "set",dict:=none,data:=.set #[] 0 (.fresh 0 0 (!w.params.followText "set-order")) } }) :
  codeAny (model prog w) A (.call (.builtin "set.__new__") ⟨[.type "set",x],[]⟩) (wants Q₁ E) s:=by
 refine codeAny_of_tree ?_;show wpAny _ A.in1 (do checkBuiltinCall "set.__new__" ⟨[.type "set",x],[]⟩; again (.builtin "set.__new__" ⟨[.type "set",x],[]⟩)) _ _ s;refine zc (zW (PySem.F.newCall_set_1 x) (zd ⟨plainId_quiet PySem.F.plain_set_new _,ji PySem.F.entry_set_new ?_⟩));rw [Around.under_plainId PySem.F.plain_set_new _];unfold Builtin.«set.__new__» Builtin.Frozenset.newClass;have hsub:=sub_set_self;obtain ⟨hp,g,d,tk,os⟩:=s;dsimp only
 wp_walk
 refine wpAny_askSetting (zd ?_);dsimp only;simp only [newObj];refine zc (wpAny_alloc (zd ?_));exact zd h
theorem QoU {h:Heap}:Qdt prog w (h.push { cls:=.type "set",dict:=none,data:=.set #[] 0 (.fresh 0 0 (!w.params.followText "set-order")) }) h.objs.size [] :=
 ⟨_,#[],0,_,zD _ rfl,⟨rfl,rfl,rfl⟩,rfl,fun e he=>by simp at he,.nil,by decide,by rfl,.inl rfl,rfl⟩
set_option maxHeartbeats 8000000 in
theorem Qsb {l:Addr}{items:Array Value}{ns:List Str}{Q:Value→Shared→Prop}
  (hh:A.handled=none) (hl:s.heap.IsList l items) (hi:StrsAre items.toList ns) (hb:items.size+1 < scanBound)
  (h:∀(h':Heap) (tk:Nat),Qdt prog w h' s.heap.objs.size (ns.foldl Qfy []) →
   (∀b o,s.heap.get? b=some o→h'.get? b=some o)→Q (.ref s.heap.objs.size) { s with heap:=h',toks:=tk }) :
  wpAny (model prog w) A (call (.type "set") [.ref l]) Q E s:=by
 obtain ⟨c,tl,hmro⟩:=PySem.F.called_set.mro;have hmade:=PySem.F.called_set.made;have hsub:=PySem.F.called_set.sub;refine zU (codeAny_of_tree ?_);show wpAny _ _ (callAny (.type "set") _) _ _ _;refine zd ⟨Code.quiet_builtin _ (by decide +kernel),ji PySem.F.entry_type_call ?_⟩;rw [Around.under_plain (weight_type_call_type "set" [.ref l] []) rfl];have h1:=PySem.F.called_set.notType;have h2:=PySem.F.called_set.canCreate;have hct:=PySem.F.typeCall_set_1 (.ref l)
 repeat (any_goals (first | assumption | wp_step))
 generalize hO:({ cls:=.type "set",dict:=none,data:=.set #[] 0 (.fresh 0 0 (!w.params.followText "set-order")) }:Obj)=O0
 refine codeAny_mono (QpK (.ref l) (E:=E) (Q₁:=fun obj s₁=>obj = .ref s.heap.objs.size∧s₁ = { s with heap:=s.heap.push O0 }) (by rw [hO]; exact ⟨rfl,rfl⟩)) fun r s₁ hr=>?_
 cases r with
 | error e=>exact hr
 | ok fl =>
  cases fl with
  | ret obj =>
   obtain ⟨rfl,rfl⟩:=hr
   have hfr:Qdt prog w (s.heap.push O0) s.heap.objs.size []:=by rw [←hO]; exact QoU
   have hS:(s.heap.push O0).get? s.heap.objs.size=some O0:=by rw [←hO]; exact zD _ rfl
   have hcls:O0.cls = .type "set":=by rw [←hO]
   have hdat:O0.data = .set #[] 0 (.fresh 0 0 (!w.params.followText "set-order")):=by rw [←hO]
   have hT:Shared.TypeIs { s with heap:=s.heap.push O0 } (.ref s.heap.objs.size) "set":=⟨_,hS,hcls⟩;have hli:=PySem.F.called_set.init.lookup;have hbi:=PySem.F.called_set.init.bind (.ref s.heap.objs.size)
   repeat (any_goals (first | assumption | wp_step))
   refine codeAny_mono (codeAny_call_builtin (R:=wants (fun r s₂=>r = .none∧∃h' tk,s₂ = { s with heap:=h',toks:=tk } ∧
     Qdt prog w h' s.heap.objs.size (ns.foldl Qfy []) ∧
     (∀b o,s.heap.get? b=some o→h'.get? b=some o)) E) PySem.F.called_set.init.plain PySem.F.entry_set_init (check_set_init_1 hT ?_)) fun r₂ s₂ hr₂=>?_
   ·subst hO;obtain ⟨ol,hol,hcl,nl,hdl⟩:=hl;obtain ⟨ocls,odict,odata,oslots⟩:=ol;simp only at hcl hdl;subst hcl; subst hdl;have hol':(s.heap.push { cls:=.type "set",dict:=none,data:=.set #[] 0 (.fresh 0 0 (!w.params.followText "set-order")) }).get? l=some { cls:=.type "list",dict:=odict,data:=.seq items nl,slots:=oslots }:=zh _ hol;have hsls:=PySem.F.sub_list_set;have hslf:=PySem.F.sub_list_frozenset
    have hne:(Value.type "list" == Value.type "dict")=false:=by decide
    have hl1:(s.heap.push { cls:=.type "set",dict:=none,data:=.set #[] 0 (.fresh 0 0 (!w.params.followText "set-order")) }).IsList l items:=⟨_,hol',rfl,nl,rfl⟩;unfold Builtin.«set.__init__» noKeywords Builtin.Frozenset.updateFrom
    generalize hPI:pyIter=PI
    wp_walk
    subst hPI;refine wpAny_pyIter_list hl1 ?_;refine zc (wpAny_runValue ?_);have hlS:l < s.heap.objs.size:=zf hol
    have hh3:A.in1.in1.in1.handled=none:=by simp [hh]
    have hneI:l≠(s.heap.push { cls:=.type "set",dict:=none,data:=.set #[] 0 (.fresh 0 0 (!w.params.followText "set-order")) }).objs.size:=by
     rw [Heap.size_push]; exact zq (Nat.lt_succ_of_lt hlS)
    have hSf:s.heap.objs.size∉[(s.heap.push { cls:=.type "set",dict:=none,data:=.set #[] 0 (.fresh 0 0 (!w.params.followText "set-order")) }).objs.size,l]:=by
     rw [Heap.size_push]; simp only [zm,zv,List.not_mem_nil,or_false,not_or];exact ⟨zq (jj _),Nat.ne_of_gt hlS⟩
    have hnl:ns.length=items.size:=by rw [←hi.strs,zp,Array.length_toList]
    have hval:∀(i:Nat) (v:Value),items[i]? = some v→∃t,v = .str ((fun i=>ns.getD i ⟨#[]⟩) i) t:=fun i v hv=>by
     have hv':items.toList[i]? = some v:=by rw [Array.getElem?_toList]; exact hv
     obtain ⟨x,t,rfl⟩:=hi.all v (zR hv');refine ⟨t,?_⟩
     have hm:(items.toList.map strOf)[i]? = some x:=by rw [zG,hv']; rfl
     rw [hi.strs] at hm;show Value.str x t=Value.str (ns.getD i ⟨#[]⟩) t;rw [zS,hm];rfl
    refine Qpj ((Walks.list hh3 _ l hneI items).toS) s.heap.objs.size
     hSf (fun i=>ns.getD i ⟨#[]⟩) hval hb (items.size - 0) 0 _ [] (by omega) (Nat.zero_le _)
     ⟨⟨_,zD _ rfl,rfl,rfl⟩,(hl1.push _)⟩ (ze _) (QoU.at fun o e=>zh _ e) ?hR
    intro s' hm hS';rw [Nat.sub_zero,←hnl] at hS';rw [map_getD] at hS';obtain ⟨h',g',d',tk',os'⟩:=s';have eg:g'=s.gens:=hm.gens;have ed:d'=s.drawn:=hm.drawn;have eo:os'=s.os:=hm.os;subst eg; subst ed; subst eo;show wpAny _ _ _ _ _ _;refine zd ?_;show wpAny _ _ (ret Value.none) _ _ _;refine zd ⟨rfl,h',tk',rfl,hS',fun b o e=>?_⟩;have hb':=zf e;have hb1:b≠s.heap.objs.size:=zq hb'
    have hb2:b≠(s.heap.push { cls:=.type "set",dict:=none,data:=.set #[] 0 (.fresh 0 0 (!w.params.followText "set-order")) }).objs.size:=by
     rw [Heap.size_push]; exact zq (Nat.lt_succ_of_lt hb')
    exact hm.heap b o (by simp only [zm,zv,List.not_mem_nil,or_false,not_or]; exact ⟨hb1,hb2⟩) (zh _ (zh _ e))
   ·cases r₂ with
    | error e=>exact hr₂
    | ok fl₂ =>
     cases fl₂ with
     | ret r =>
      obtain ⟨rfl,h',tk,rfl,hS',hk'⟩:=hr₂
      repeat (any_goals (first | assumption | wp_step))
      exact h _ _ hS' hk'
     | _=>exact hr₂.elim
  | _=>exact hr.elim
end
def ItS (h:Heap) (I a:Addr) (first:Value) (i n ep:Nat):Prop:=∃o,h.get? I=some o∧o.cls = .type "set_iterator"∧o.data = .fields #[first,.int i 0,.ref a,.int n 0,.int ep 0]
section
variable {prog:Program}{w:World}{A:Around}{E:Value→Shared→Prop}{s:Shared}{a:Addr}{ss:List Str}{o:Obj}{es:Array (Int×Value)}{ep:Nat}{t:SetTable}
theorem ItS.typeIs {I:Addr}{first:Value}{i n:Nat} (h:ItS s.heap I a first i n ep):s.TypeIs (.ref I) "set_iterator":=let ⟨o,h1,h2,_⟩:=h; ⟨o,h1,h2⟩
end
section
variable {prog:Program}{w:World}{A:Around}{E:Value→Shared→Prop}{s:Shared}{a:Addr}{ss:List Str}{o:Obj}{es:Array (Int×Value)}{ep:Nat}{t:SetTable}
theorem ItS.at {h h':Heap}{I:Addr}{first:Value}{i n:Nat} (x:ItS h I a first i n ep) (e:∀o,h.get? I=some o→h'.get? I=some o):ItS h' I a first i n ep:=let ⟨o,ho,r⟩:=x; ⟨o,e _ ho,r⟩
theorem QnT.at {h h':Heap} (x:QnT prog w h a ss o es ep t) (e:∀o,h.get? a=some o→h'.get? a=some o):QnT prog w h' a ss o es ep t:=⟨e _ x.1,x.2⟩
end
section
variable {X:Cx}
variable {md:List Md}{P:Pt}
end
structure Qyn (mg:Str→Option Value):Prop extends Qt5 mg where
 set_:mg "set" = none
section
variable {prog:Program}{w:World}{A:Around}{E:Value→Shared→Prop}{s:Shared}{K:Frag}{H F:Hp}{as:List Addr}
end
section
variable {X:Cx}
end
end L2
namespace L2
open PySem PySem.Spec PyProof.Rows
section
variable {X:Cx}{md:List Md}{P:Pt}{R:RR}
end
section
variable {X:Cx}{md:List Md}{P:Pt}
variable {tg iter elt:Expr}{ifs:List Expr}{scope:Scope}{pos:Pos}{mi:M D}{g:MG}{t:M Bool}{e:M D}
end
end L2
namespace L2
open PySem PySem.Spec PyProof.Rows PySem.W
def CXE (Pr:Program) (w:World):CXT:=fun outer H s E e s'=>∃(ea C:Addr) (H':Hp) (B:Heap) (a0:Value),e = .ref ea∧s'.os=s.os∧AllBare s'.gens∧Un (frs outer) [] H H' s.heap s'.heap∧HOk Pr w H' s'.heap ∧
 Heap.FlyingW B outer ea (.ref C) a0 s'.heap∧(∀b u,H' b=some u→∃o,B.get? b=some o)∧(∀b o,s.heap.get? b=some o→b∉frs outer→∃o',B.get? b=some o')∧E (.ref C) none H'
section
variable {X:Cx}{md:List Md}{P:Pt}{R:RR}
def Qnp (K:Frag) (mg:Str→Option Value) (md:List Md) (P:Pt) (R:RR) (W:Xc→Hp→Prop) (D:Ends) (H F:Hp) (as:List Addr):Fl→Prop
 | .ex x O'=>∀H' F' as',GrS P H F as H' F' as'→RlO K mg O' H' F' as'→W x H'
 | f=>Qgj K mg md P R D H F as f
theorem Qnp.gr {K:Frag}{mg:Str→Option Value}{W:Xc→Hp→Prop}{D:Ends}{H F H' F':Hp}{as as':List Addr}{f:Fl} (g:GrS P H F as H' F' as') (h:Qnp K mg md P R W D H F as f):Qnp K mg md P R W D H' F' as' f:=by
 cases f with
 | ex x O'=>exact fun H2 F2 as2 g2 r2=>h H2 F2 as2 (g.trans g2) r2
 | nx ρ' O'=>exact fun σ' H2 F2 as2 g2 r2 s2=>h σ' H2 F2 as2 (g.trans g2) r2 s2
 | bk ρ' O'=>exact fun σ' H2 F2 as2 g2 r2 s2=>h σ' H2 F2 as2 (g.trans g2) r2 s2
 | ct ρ' O'=>exact fun σ' H2 F2 as2 g2 r2 s2=>h σ' H2 F2 as2 (g.trans g2) r2 s2
 | rt d O'=>exact fun v H2 F2 as2 g2 r2 s2=>h v H2 F2 as2 (g.trans g2) r2 s2
 | no=>exact h
def msN (m:MS):MS:=fun ρ O=>match m ρ O with
 | .ex _ _=>.no
 | f=>f
def QcE (t:M Bool) (a b:MS):MS:=fun ρ O=>match t ρ O with
 | .ok v O'=>if v=true then a ρ O' else b ρ O'
 | _=>.no
end
def bmV:List Value:=[.type "ValueError",.type "Exception",.type "BaseException",.type "object"]
def Qlt (K:Frag) (mg:Str→Option Value) (c:Str):Prop:=∃C,mg c=some (.ref C)∧excIn K C bmV "ValueError.__new__" = true
theorem Qrj {K:Frag}{h:Heap}{C:Addr}{id:String} (hK:K.In h) (hq:excIn K C bmV id=true) :
  ∃bm N nm qn bs hd sn sub ab col dd k0 k1 k2 k3 k5 mN,h.get? C=some (excClassObj nm qn C N bs bm hd sn sub ab col dd k0 k1 k2 k3 k5 id)∧h.Ns N mN∧mN "__init__" = none∧OwnTail h bmV bm:=by
 unfold excIn at hq;split at hq
 case h_2=>cases hq
 case h_1 dd cd sl lk =>
  split at hq
  case h_2=>cases hq
  case h_1 C1 bm k0 k1 k2 k3 nn k5 e1 e2 =>
   rw [zk,zk,zk,zk,zk] at hq;obtain ⟨⟨⟨⟨⟨p1,p2⟩,p3⟩,p4⟩,p5⟩,p6⟩:=hq;have q1:C1=C:=beq_iff_eq.mp p1;have q2:nn=id:=beq_iff_eq.mp p2;subst q1;subst q2
   rcases cd with ⟨nm,bs,mro,ns,qn,hd,sn,sub,ab,col,del⟩
   have e1':mro = .ref C1::bm:=e1
   have p3':del=false:=by
    have z:(!del)=true:=p3
    cases del with
    | false=>rfl
    | true=>cases z
   subst e1';subst p3'
   rcases sl with ⟨ls⟩
   have e2':ls = [k0,k1,k2,k3,some (.builtin nn),k5]:=e2;subst e2';exact ⟨bm,ns,nm,qn,bs,hd,sn,sub,ab,col,dd,k0,k1,k2,k3,k5,_,hK _ _ lk,.of_isNs (isNs_of_in hK p5),nsMap_none_of_in hK p5 (beq_iff_eq.mp p6),tail_of_in hK p4⟩
section
variable {X:Cx}{md:List Md}{P:Pt}{R:RR}
def Qif (c:Str):MS:=fun _ O=>.ex ⟨c,[]⟩ O
end
theorem Qbb.has {P:Program}{w:World}{H:Hp}{h:Heap}{a:Addr}{o:HO} (x:Qbb P w H h a o):∃u,h.get? a=some u:=by
 cases o with
 | lst xs=>exact let ⟨_,_,_,_,e⟩:=x; ⟨_,e⟩
 | tup xs=>exact let ⟨_,_,_,_,e,_⟩:=x; ⟨_,e⟩
 | dK kvs=>exact let ⟨_,_,_,_,_,_,_,e,_⟩:=x; ⟨_,e⟩
 | dT kvs=>exact let ⟨_,_,_,_,_,_,_,e,_⟩:=x; ⟨_,e⟩
 | set S n=>exact let ⟨_,_,_,_,e,_⟩:=x; ⟨_,e⟩
 | ins C dx fs=>exact let ⟨_,_,_,e,_⟩:=x; ⟨_,e⟩
 | own y=>exact let ⟨_,e⟩:=x; ⟨_,e⟩
 | xd fs=>exact let ⟨_,⟨_,_,_,e,_⟩,_⟩:=x; ⟨_,e⟩
 | rng lo hi=>exact let ⟨_,_,_,e⟩:=x; ⟨_,e⟩
 | frz ob u=>exact ⟨_,x.1⟩
 | tbl ps=>exact ⟨_,x⟩
 | met f y=>exact ⟨_,x⟩
 | ext φ=>exact x.2.1
theorem HOk.only {P:Program}{w:World}{H:Hp}{h h':Heap} (x:HOk P w H h) (k:∀b v u,H b=some v→h.get? b=some u→h'.get? b=some u):HOk P w H h':=fun a o e =>
 (x a o e).stay (fun b u hb q=>by
  rcases hb with rfl | hb
  ·exact k _ _ u e q
  ·exact k b _ u hb q) (fun _ q=>q) fun _ _ q=>q
theorem Un.then {fs:List Addr}{H0 H:Hp}{h0 h1 h2:Heap} (u:Un fs [] H0 H h0 h1) (st:∀b o,h1.get? b=some o→b∉fs→(∃o',h0.get? b=some o')→h2.get? b=some o)
  (fr:∀b o,h1.get? b=some o→b∈fs→∃sl,h2.get? b=some { o with slots:=sl }):Un fs [] H0 H h0 h2 where
 keep:=fun b o q n nf nx=>st b o (u.keep b o q n nf nx) nf ⟨o,q⟩
 slot:=fun b o q n hb nx=>by
  obtain ⟨sl,e⟩:=u.slot b o q n hb nx;obtain ⟨sl2,e2⟩:=fr b _ e hb;exact ⟨sl2,e2⟩
 free:=u.free
 there:=fun b o q nx=>by
  obtain ⟨o',e⟩:=u.there b o q nx
  by_cases hb:b∈fs
  ·obtain ⟨sl,e2⟩:=fr b o' e hb;exact ⟨_,e2⟩
  ·exact ⟨o',st b o' e hb ⟨o,q⟩⟩
 tups:=u.tups
 frzs:=u.frzs
 tbls:=u.tbls
theorem QoZ {l:List Env}{H H':Hp}{h0 h1 h2 B:Heap} (un:Un (frs l) [] H H' h0 h1) (hB:B.StaysIn h1) (ff:h1.FunFrames B l) (old:∀b o,h0.get? b=some o→b∉frs l→∃o',B.get? b=some o') (hB2:B.StaysIn h2) (up:h1.UpToSlots h2):Un (frs l) [] H H' h0 h2 :=
 Un.then un (fun b o q n z=>by
  obtain ⟨o0,z⟩:=z;obtain ⟨o',e⟩:=old b o0 z n;have e1:=hB b o' e;rw [q] at e1;cases e1
  exact hB2 b _ e) fun b o q z=>by
  obtain ⟨_,o',q',nf⟩:=ff.mem z;rw [q] at q';cases q';exact up b o q nf
theorem Qoc {P:Program}{w:World}{H:Hp}{h1 h2 B:Heap} (hok:HOk P w H h1) (trk:∀b u,H b=some u→∃o,B.get? b=some o) (hB:B.StaysIn h1) (hB2:B.StaysIn h2):HOk P w H h2:=hok.only fun b v u e q=>by
 obtain ⟨o,e1⟩:=trk b v e;have e2:=hB b o e1;rw [q] at e2;cases e2;exact hB2 b _ e1
def Que (P:Program) (w:World) (K:Frag) (mg:Str→Option Value) (base:Heap) (x:Str) (ps:List Str) (k:Nat) (sp:Sp):Prop :=
 ∃f fd,mg x=some (.ref f)∧keepIn K (.ref f)=true∧Binds K fd ps []∧Qbp P w K mg base (CXE P w) k f fd ps sp∧∃oc od osl,K.lookup f=some ⟨oc,od,.func fd,osl⟩
def QuV (K:Frag) (mg:Str→Option Value) (R:RR) (H F:Hp) (as:List Addr) (Q:VK) (E:XK):Res D→Prop
 | .ok d O'=>∀v H' F' as',Gr H F as H' F' as'→RlO K mg O' H' F' as'→R (fun a=>H a=none) H' F' as' v d→Q v H'
 | .ex x O'=>∀C H' F' as',mg x.cls=some (.ref C)→Gr H F as H' F' as'→RlO K mg O' H' F' as'→E (.ref C) none H'
 | .no=>False
def QmV (K:Frag) (mg:Str→Option Value) (pm:List Md) (R:RR) (c:List D→Qac→Res D):Sp:=fun vs H Q E =>
 ∃ds O F as,RlO K mg O H F as∧Qbw K H F as pm vs ds∧QuV K mg R H F as Q E (c ds O)
section
variable {Pr:Program}{w:World}{K:Frag}{mg:Str→Option Value}{base:Heap}
theorem Que.can {x:Str}{ps:List Str}{k:Nat}{pm:List Md}{R:RR}{c:List D→Qac→Res D} (C:Que Pr w K mg base x ps k (QmV K mg pm R c)) (hl:pm.length=ps.length:=by rfl):Can Pr w K mg base x ps k (vSp K mg pm R c):=by
 obtain ⟨f,fd,hm,hk,hb,Fn,lk⟩:=C;refine ⟨f,fd,hm,hk,hb,⟨fun vs H Q E h=>?_,fun A outer s H args us vs Q E hr e0 hbi r h=>?_⟩,lk⟩
 ·obtain ⟨ds,O,F,as,d,O',r,a,_⟩:=h;rw [a.len.1,hl]
 ·obtain ⟨ds,O,F,as,d,O',ro,a,e,q⟩:=h
  have z:QmV K mg pm R c vs H Q fun _ _ _=>False:=⟨ds,O,F,as,ro,a,by rw [e]; exact q⟩
  refine codeAny_mono (Fn.run A outer s H args us vs Q _ hr e0 hbi r z) fun res s' hq=>?_
  cases res with
  | error ev =>
   obtain ⟨_,_,_,_,_,_,_,_,_,_,_,_,_,f0⟩:=hq;exact f0.elim
  | ok fl=>cases fl <;> exact hq
end
section
variable {X:Cx}{pins:List (Addr×Obj)}{σ:St}{H:Hp}{s:Shared}{ea:Addr}{oe:Obj}
theorem Inv.gone {h':Heap}{m':Str→Option Value}{t':Nat} (I:Inv X pins σ H s) (hn:h'.Ns X.env.locals m') (hs:Heap.SameBut X.env.locals s.heap h'):Inv X pins (List.replicate X.N.length none) H { s with heap:=h',toks:=t' }:=by
 have ne:∀b o,X.s₀.heap.get? b=some o→b≠X.env.locals:=fun b o e=>zq (zA (zf e) I.ok.above)
 refine ⟨I.ok,I.os,I.bare,⟨fun b o e n hb hx=>(hs.2 b (ne b o e)).trans (I.base.keep b o e n hb hx),fun b o e n hb hx=>?_,I.base.free,fun b o e hx=>?_,I.base.tups,I.base.frzs,I.base.tbls⟩,⟨m',hn,fun i x v _ e2 _=>?_⟩,fun y c e=>?_,I.free,I.freeC,fun p hp=>?_,I.hok.only fun b v u e q=>(hs.2 b fun z=>?_).trans q,List.length_replicate⟩
 ·obtain ⟨sl,e1⟩:=I.base.slot b o e n hb hx;exact ⟨sl,(hs.2 b (ne b o e)).trans e1⟩
 ·obtain ⟨o',e1⟩:=I.base.there b o e hx;exact ⟨o',(hs.2 b (ne b o e)).trans e1⟩
 ·rw [List.getElem?_replicate] at e2
  split at e2 <;> cases e2
 ·obtain ⟨v,z⟩:=I.cell y c e;exact ⟨v,z.sameBut hs (I.cne y c e)⟩
 ·obtain ⟨e,n,nl,nf,d⟩:=I.pin p hp;exact ⟨(hs.2 p.1 nl).trans e,n,nl,nf,d⟩
 ·rw [z,I.free] at e;cases e
end
end L2
namespace L2
open PySem PySem.Spec PyProof.Rows PySem.W PySem.Calls PySem.Builtin PySem.Builtin.ObjectAttr PySem.Builtin.Getset_descriptor
section
variable {prog:Program}{w:World}{A:Around}{E:Value→Shared→Prop}{K:Frag}{a C:Addr}{o:Obj}{h:Heap}{g:Array GenState}{d:Drawn}{t:Nat}{os:OsState}
theorem Qqy {R:Result→Shared→Prop}{tp:Value} (X:K.In h) (hx:h.get? a=some o) (hc:o.cls = .ref C) (hm:mroIn K C (.type "object")=some true) (hq:R (.ok (.ret (.ref C))) ⟨h,g,d,t,os⟩) :
  codeAny (model prog w) A (.call (.builtin "getset_descriptor.__get__") ⟨[.builtin "object.__class__",.ref a,tp],[]⟩) R ⟨h,g,d,t,os⟩:=by
 have L0:Looks (model prog w) h (typeOf (.ref a)) (.ref C):=hc ▸ (Looks.ld hx).andThen .now;have L1:=looks_mroIn (M:=model prog w) X hm;refine codeAny_call_builtin KF.slot_gs.plain KF.entry_gs (KF.slot_gs.check _ _ _ _ _ _ _ _ KF.type_class (KF.args_gs _ _ _) ?_); unfold Builtin.«getset_descriptor.__get__» descrGet;rw [dga_obj]; refine zc (zd ?_);unfold descrGetter descrCheckInstance descrNameAndClass isInstance; simp only [KF.owner_class]
 repeat lk
 refine ⟨Code.quiet_builtin _ (by decide +kernel),ji KF.entry_class ?_⟩; unfold Builtin.«object.__class__» shownTypeOf
 repeat lk
 exact hq
structure Qeo (K:Frag) (C:Addr):Prop where
 ga:findIn K (.ref C) "__getattribute__" = some (some (.builtin "BaseException.__getattribute__"))
 na:findIn K (.ref C) "__getattr__" = some none
 ca:findIn K (.ref C) "__class__" = some (some (.builtin "object.__class__"))
 sp:specialIn K (.builtin "object.__class__") "__get__" = some (some (.builtin "getset_descriptor.__get__"))
 tk:takesIn K (.builtin "object.__class__")=some true
 ob:mroIn K C (.type "object")=some true
 be:mroIn K C (.type "BaseException")=some true
 cl:(clsIn K C).isSome=true
theorem QpZ {tk:Tok}{Q:Fin→Shared→Prop} (F0:Qeo K C) (X:K.In h) (hx:h.get? a=some o) (hc:o.cls = .ref C) (hq:Q (.done (.ret (.ref C))) ⟨h,g,d,t,os⟩) :
  wpAny (model prog w) A (Builtin.«object.__getattribute__» ⟨[.ref a,.str "__class__" tk],[]⟩) Q E ⟨h,g,d,t,os⟩:=by
 have L0:Looks (model prog w) h (typeOf (.ref a)) (.ref C):=hc ▸ (Looks.ld hx).andThen .now;have L1:=looks_findIn (M:=model prog w) X F0.ca;have L2:=looks_specialIn (M:=model prog w) X F0.sp;have L3:=looks_takesIn (M:=model prog w) X F0.tk;unfold Builtin.«object.__getattribute__»;refine zc (zW (a:=(Value.ref a,[Value.str "__class__" tk])) rfl ?_);dsimp only;refine zc (zd ?_);refine zc (L0.at ?_);unfold find getOf;refine zc (zc (L1.at (zc (L2.at (zc ?_)))));unfold dataDescriptor?;refine zc (L3.at ?_);rw [if_pos rfl];refine zd ?_;dsimp only;refine zc (zV (zd ?_));dsimp only;unfold bindTo;dsimp only
 refine zc (zK (zU (Qqy X hx hc F0.ob ?_)));exact zd hq
theorem Qkf {nv:Value}{Q:Unit→Shared→Prop} (F0:Qeo K C) (X:K.In h) (hx:h.get? a=some o) (hc:o.cls = .ref C) (hq:Q () ⟨h,g,d,t,os⟩):wpAny (model prog w) A (checkBuiltinCall "BaseException.__getattribute__" ⟨[.ref a,nv],[]⟩) Q E ⟨h,g,d,t,os⟩:=by
 have L4:Looks (model prog w) h (isInstance (.ref a) (.type "BaseException")) true:=(show Looks (model prog w) h (typeOf (.ref a)) (.ref C) from hc ▸ (Looks.ld hx).andThen .now).andThen (looks_mroIn X F0.be)
 have e1:builtinKind "BaseException.__getattribute__" = some .slot:=by decide +kernel
 have e2:splitId "BaseException.__getattribute__" = some ("BaseException","__getattribute__"):=by decide +kernel
 have e3:=PySem.F.args_bexc_ga (.ref a) nv;simp only [checkBuiltinCall,e1,e2];refine zc (L4.at ?_);rw [if_neg (by decide)];exact zW (a:=()) e3 hq
theorem Qot {Q:Option Value→Shared→Prop} (F0:Qeo K C) (X:K.In h) (hx:h.get? a=some o) (hc:o.cls = .ref C) (hq:Q (some (.ref C)) ⟨h,g,d,t+1,os⟩) :
  wpAny (model prog w) A (getAttr? (.ref a) "__class__") Q E ⟨h,g,d,t,os⟩:=by
 have L0:Looks (model prog w) h (typeOf (.ref a)) (.ref C):=hc ▸ (Looks.ld hx).andThen .now;have L1:=looks_findIn (M:=model prog w) X F0.ga;have L2:=looks_findIn (M:=model prog w) X F0.na;have L4:Looks (model prog w) h (isInstance (.ref a) (.type "BaseException")) true:=L0.andThen (looks_mroIn X F0.be);have bnd:=PySem.F.attrBase_ValueError.ga.bind (.ref a)
 have hne:(onTheHeap (Value.ref C)&&Value.builtin "BaseException.__getattribute__" == Value.builtin "object.__getattribute__")=false:=by rw [show (Value.builtin "BaseException.__getattribute__" == Value.builtin "object.__getattribute__")=false by decide +kernel,Bool.and_false]
 unfold getAttr? getAttrBy? getAttrBy;refine zc (wpAny_mkText ?_);refine zc (wpAny_attempt (zK ?_));refine zc (L0.at ?_);refine zc (L1.at ?_);dsimp only;rw [if_neg (by rw [hne]; exact zj)];unfold getAttrByItsOwn;refine zc ?_;unfold hookBefore;rw [if_pos (show onTheHeap (Value.ref C)=true from rfl)];refine L2.at ?_;refine zc (wpAny_attempt (zK ?_));unfold callGetattribute;rw [if_neg (by decide)];unfold boundAndCalled;refine zc (zW bnd ?_);refine zU (codeAny_call_builtin PySem.F.attrBase_ValueError.ga.plain PySem.F.entry_bexc_ga (Qkf F0 X hx hc (QpZ F0 X hx hc ?_)));show wpAny (model prog w) A (handedOut (.ref C)) _ _ _
 exact handed_on rfl (zd hq)
def HX (a C:Addr) (h:Heap):Prop:=∃o,h.get? a=some o∧o.cls = .ref C
theorem Qlq (F0:Qeo K C):KitX K (.ref a) (.ref C) (HX a C) where
 ty:=fun _ _ _ p=>by
  obtain ⟨o,q1,q2⟩:=p;exact q2 ▸ (Looks.ld q1).andThen .now
 it:=fun _ _ X _=>by
  have z:=F0.cl;unfold clsIn at z;split at z
  case h_1 c1 d1 cd1 sl1 lk1=>exact fun A1 Q1 E1 s1 k1 q1=>by unfold isType loadHead; exact zc (wpAny_loadPart (k1 _ _ (X _ _ lk1)) (zd q1))
  case h_2=>cases z
 ne:=fun h tp dd its n sl X p=>by
  cases e:(Value.ref C == Value.ref tp) with
  | false=>rfl
  | true =>
   have e':C=tp:=Value.ref.inj (beq_iff_eq.mp e);subst e';have z:=F0.cl;unfold clsIn at z;split at z
   case h_1 =>
    have y:=X _ _ ‹_›;rw [p] at y;cases y
   case h_2=>cases z
 ca:=fun {_ _ _ _ _ s} X p k=>by
  obtain ⟨o,q1,q2⟩:=p;obtain ⟨h,g,d,t,os⟩:=s;exact Qot F0 X q1 q2 k
end
end L2
namespace L2
open PySem PySem.Spec PyProof.Rows PySem.W
section
variable {X:Cx}{ea C:Addr}{oe:Obj}
def QnM:V→Option Value
 | .ref a=>some (.ref a)
 | .ty n=>some (.type n)
 | _=>none
theorem QkY {v:V}{u c:Value} (h:RelV v u) (e:QnM v=some c):u=c:=by
 cases v <;> cases e <;> exact h
def Qic:List V→Option (List Value)
 | []=>some []
 | v::vs=>(QnM v).bind fun c=>(Qic vs).map (c :: ·)
theorem Qkp:∀{vs:List V}{us cs:List Value},Qax vs us→Qic vs=some cs→us=cs
 | [],_,_,.nil,e=>by cases e; rfl
 | v::vs,_,_,.cons r t,e=>by
  obtain ⟨c,e1,e2⟩:=Option.bind_eq_some_iff.mp e;obtain ⟨l,e3,rfl⟩:=jl.mp e2;rw [QkY r e1,Qkp t e3]
end
section
variable {X:Cx}{md:List Md}{P:Pt}{R:RR}
end
section
variable {X:Cx}{ea C:Addr}{oe:Obj}{i:Nat}{b:Bool}{n:Str}{p p1 pos:Pos}
def QgF (X:Cx):List Expr→List V→Prop
 | [],vs=>vs = []
 | e::es,vs=>∃v r,vs=v::r∧(∀Y:Cx,Y.env=X.env→Y.mg=X.mg→PE Y e (tC v))∧starEach (e::es) X.env=(false,eval e X.env)::starEach es X.env∧QgF X es r
end
end L2
namespace L2
open PySem PySem.Spec PyProof.Rows
section
variable {X:Cx}
variable {md:List Md}{P:Pt}
end
end L2
namespace L2
open PySem PySem.Spec PyProof.Rows PySem.W
section
variable {prog:Program}{w:World}{A:Around}{E:Value→Shared→Prop}
end
section
variable {X:Cx}{md:List Md}{P:Pt}{R:RR}
end
def Qej (mg:Str→Option Value):List Str→List Addr→Prop
 | [],as=>as = []
 | n::ns,as=>∃a r,as=a::r∧mg n=some (.ref a)∧Qej mg ns r
theorem Qjz:∀as:List Addr,Qic (as.map V.ref)=some (as.map Value.ref)
 | []=>rfl
 | a::as=>by
  show Qic (V.ref a::as.map V.ref)=_;unfold Qic;rw [Qjz as];rfl
theorem Qej.len {mg:Str→Option Value}:∀{ns:List Str}{as:List Addr},Qej mg ns as→as.length=ns.length
 | [],as,h=>by
  have h':as = []:=h;rw [h'];rfl
 | n::ns,as,h=>by
  obtain ⟨a,r,rfl,_,h2⟩:=h;rw [zJ,h2.len,zJ]
section
variable {X:Cx}{md:List Md}{P:Pt}{R:RR}
theorem QmB:∀as,Qej X.mg [] as→QgF X [] (as.map V.ref):=fun as h=>by
 have h':as = []:=h;subst h';exact rfl
theorem QdN {n:Str}{ns:List Str}{es:List Expr}{p:Pos} (h:∀as,Qej X.mg ns as→QgF X es (as.map V.ref)) (hg:Gl X n:=by rfl) (hd:(n == ("__debug__":Str))=false:=by decide) (hs:starEach (.Name n p::es) X.env=(false,eval (.Name n p) X.env)::starEach es X.env:=by rfl) :
  ∀as,Qej X.mg (n::ns) as→QgF X (.Name n p::es) (as.map V.ref):=fun as z=>by
 obtain ⟨a,r,rfl,hm,z⟩:=z;exact ⟨.ref a,_,rfl,fun Y e1 e2=>QjO (show Y.env.kindOf n=_ by rw [e1]; exact hg) (by rw [e2]; exact hm) rfl hd,hs,h r z⟩
end
section
variable {X:Cx}{pins:List (Addr×Obj)}{σ:St}{H:Hp}{s:Shared}{ea:Addr}{oe:Obj}
theorem Inv.goneI {h':Heap}{m:Str→Option Value}{v:Option Value}{t' i:Nat}{n:Str} (I:Inv X pins σ H s) (hN:X.N.Nodup) (hi:X.N[i]? = some n)
  (hl:∀(i:Nat) (x:Str) (v:V),X.N[i]? = some x→σ[i]? = some (some v)→Vis X.env.scope x→∃u,RelV v u∧Look X.env s.heap m x u)
  (hn:h'.Ns X.env.locals (fun x=>if x=n then v else m x)) (hs:Heap.SameBut X.env.locals s.heap h'):Inv X pins (σ.set i none) H { s with heap:=h',toks:=t' }:=by
 have ne:∀b o,X.s₀.heap.get? b=some o→b≠X.env.locals:=fun b o e=>zq (zA (zf e) I.ok.above)
 refine ⟨I.ok,I.os,I.bare,⟨fun b o e n hb hx=>(hs.2 b (ne b o e)).trans (I.base.keep b o e n hb hx),fun b o e n hb hx=>?_,I.base.free,fun b o e hx=>?_,I.base.tups,I.base.frzs,I.base.tbls⟩,⟨_,hn,fun j x v' e1 e2 e3=>?_⟩,fun y c e=>?_,I.free,I.freeC,fun p hp=>?_,I.hok.only fun b v u e q=>(hs.2 b fun z=>?_).trans q,by rw [zT]; exact I.len⟩
 ·obtain ⟨sl,e1⟩:=I.base.slot b o e n hb hx;exact ⟨sl,(hs.2 b (ne b o e)).trans e1⟩
 ·obtain ⟨o',e1⟩:=I.base.there b o e hx;exact ⟨o',(hs.2 b (ne b o e)).trans e1⟩
 ·have hji:j≠i:=fun z=>by
   subst z;rw [zI (by rw [I.len]; exact (zo.mp hi).1)] at e2;cases e2
  rw [zt (Ne.symm hji)] at e2;obtain ⟨u,r,lk⟩:=hl j x v' e1 e2 e3;refine ⟨u,r,?_⟩
  have hxn:x≠n:=fun z=>by
   subst z;obtain ⟨q1,q2⟩:=zo.mp e1;obtain ⟨q3,q4⟩:=zo.mp hi
   rcases Nat.lt_trichotomy j i with q | q | q
   ·exact List.pairwise_iff_getElem.mp hN j i q1 q3 q (q2.trans q4.symm)
   ·exact hji q
   ·exact List.pairwise_iff_getElem.mp hN i j q3 q1 q (q4.trans q2.symm)
  rcases lk with ⟨k1,k2⟩ | ⟨k1,c,k2,k3⟩
  ·exact .inl ⟨k1,(if_neg hxn).trans k2⟩
  ·exact .inr ⟨k1,c,k2,k3.sameBut hs (I.cne x c k2)⟩
 ·obtain ⟨v,z⟩:=I.cell y c e;exact ⟨v,z.sameBut hs (I.cne y c e)⟩
 ·obtain ⟨e,n,nl,nf,d⟩:=I.pin p hp;exact ⟨(hs.2 p.1 nl).trans e,n,nl,nf,d⟩
 ·rw [z,I.free] at e;cases e
end
section
variable {X:Cx}{md:List Md}{P:Pt}{R:RR}
theorem SlO.drop {K:Frag}{ρ:Qai}{σ:St}{H F:Hp}{as:List Addr}{i:Nat}{x:Option V} (s:SlO K md P ρ σ H F as) (hm:md[i]? = some .v):SlO K md P (ρ.set i none) (σ.set i x) H F as:=by
 have hi:i < ρ.length:=by rw [s.len']; exact (zo.mp hm).1
 have ne:∀(j:Nat) (d:D),(ρ.set i none)[j]? = some (some d)→j≠i∧ρ[j]? = some (some d):=fun j d e=>by
  by_cases hj:j=i
  ·subst hj;rw [zI hi] at e;cases e
  ·rw [zt (Ne.symm hj)] at e;exact ⟨hj,e⟩
 refine ⟨by rw [zT]; exact s.len,by rw [zT]; exact s.len',s.pd,fun j m d e1 e2=>?_,fun j k a ds es h1 h2 h3 h4 h5 h6=>?_,fun y hy=>?_⟩
 ·obtain ⟨hj,e2⟩:=ne j d e2;rw [zt (Ne.symm hj)];exact s.sl j m d e1 e2
 ·obtain ⟨hj,h3⟩:=ne j _ h3;obtain ⟨hk,h4⟩:=ne k _ h4;rw [zt (Ne.symm hj)] at h5;rw [zt (Ne.symm hk)] at h6;exact s.inj j k a ds es h1 h2 h3 h4 h5 h6
 ·obtain ⟨p1,p2,p3⟩:=s.pin y hy
  have hne:i≠y.1:=fun z=>by rw [←z,hm] at p1; cases p1
  rw [zt hne,zt hne];exact ⟨p1,p2,p3⟩
end
section
variable {X:Cx}{ea C:Addr}{oe:Obj}{i ja jb:Nat}{b:Bool}{n na nb w1 w2:Str}{p p1 pos:Pos}
end
section
variable {X:Cx}{md:List Md}{P:Pt}{R:RR}
end
def DK (h h':Heap):Prop:=∀b o,h.get? b=some o→∃o',h'.get? b=some o'∧o'.dict=o.dict
theorem DK.refl (h:Heap):DK h h:=fun _ o e=>⟨o,e,rfl⟩
theorem DK.trans {h h' h2:Heap} (x:DK h h') (y:DK h' h2):DK h h2:=fun b o e=>by
 obtain ⟨o1,e1,q1⟩:=x b o e;obtain ⟨o2,e2,q2⟩:=y b o1 e1;exact ⟨o2,e2,q2.trans q1⟩
theorem DK.upd {h:Heap}{a:Addr}{f:Obj→Obj} (hf:∀o,o.isFreed=false→(f o).isFreed=false∧(f o).dict=o.dict):DK h (h.update a f):=fun b o e=>by
 by_cases z:a=b
 ·subst z;have hz:=(Heap.get?_some_iff.mp e).2;exact ⟨f o,Heap.get?_update_self f e (hf o hz).1,(hf o hz).2⟩
 ·exact ⟨o,(jf h f z).trans e,rfl⟩
def KD {α:Type}:Sem α→Prop
 | .pure _=>True
 | .raise _=>True
 | .unsupported _=>True
 | .finish _=>True
 | .rule _ k=>KD (k ())
 | .at _ k=>KD (k ())
 | .load _ _ k=>∀o,KD (k o)
 | .update _ _ f k=>(∀o,o.isFreed=false→(f o).isFreed=false∧(f o).dict=o.dict)∧KD (k ())
 | .alloc _ k=>∀a,KD (k a)
 | .loadIfAlive _ k=>∀o,KD (k o)
 | .point _ k=>KD (k ())
 | .fresh k=>∀t,KD (k t)
 | .ask k=>∀x,KD (k x)
 | .handled _ k=>∀v,KD (k v)
 | .stack k=>∀l,KD (k l)
 | .thread k=>∀n,KD (k n)
 | _=>False
theorem Qa2 {α β:Type}{t:Sem α}{f:α→Sem β} (h:KD t) (hf:∀a,KD (f a)):KD (t.bind f):=by
 induction t with
 | pure a=>exact hf a
 | raise | unsupported | finish=>trivial
 | rule _ k ih=>exact ih () h
 | «at» _ k ih=>exact ih () h
 | point _ k ih=>exact ih () h
 | load _ _ k ih=>exact fun o=>ih o (h o)
 | update _ _ g k ih=>exact ⟨h.1,ih () h.2⟩
 | alloc _ k ih=>exact fun o=>ih o (h o)
 | loadIfAlive _ k ih=>exact fun o=>ih o (h o)
 | fresh k ih=>exact fun o=>ih o (h o)
 | ask k ih=>exact fun o=>ih o (h o)
 | handled _ k ih=>exact fun o=>ih o (h o)
 | stack k ih=>exact fun o=>ih o (h o)
 | thread k ih=>exact fun o=>ih o (h o)
 | _=>exact False.elim h
theorem QuR {α:Type}{M:Model}{Γ:PySem.Ctx}{t:Sem α} (h:KD t) {h0:Heap}{Q:α→Pos→Shared→Prop}{E:Value→Pos→Shared→Prop}{p:Pos}{s:Shared} (d:DK h0 s.heap) (w:Sem.wp M Γ t Q E p s) :
  Sem.wp M Γ t (fun a p' s'=>Q a p' s'∧DK h0 s'.heap) (fun e p' s'=>E e p' s'∧DK h0 s'.heap) p s:=by
 induction t generalizing p s with
 | pure a=>exact ⟨w,d⟩
 | raise e=>exact ⟨w,d⟩
 | unsupported=>exact w
 | finish=>exact w
 | rule _ k ih=>exact ih () h d w
 | «at» _ k ih=>exact ih () h d w
 | point _ k ih=>exact ih () h d w
 | load _ _ k ih=>obtain ⟨o,e,w⟩:=w; exact ⟨o,e,ih o (h o) d w⟩
 | update _ _ g k ih=>obtain ⟨e,w⟩:=w; exact ⟨e,ih () h.2 (d.trans (DK.upd h.1)) w⟩
 | alloc o k ih=>exact ih _ (h _) (d.trans fun b o' e=>⟨o',zh _ e,rfl⟩) w
 | loadIfAlive _ k ih=>exact ih _ (h _) d w
 | fresh k ih=>exact ih _ (h _) d w
 | ask k ih=>exact ih _ (h _) d w
 | handled _ k ih=>exact ih _ (h _) d w
 | stack k ih=>exact ih _ (h _) d w
 | thread k ih=>exact ih _ (h _) d w
 | _=>exact False.elim h
theorem QfV {α:Type}{M:Model}{A:Around}{t:Sem α} (h:KD t) {Q:α→Shared→Prop}{E:Value→Shared→Prop}{s:Shared} (w:wpAny M A t Q E s):wpAny M A t (fun a s'=>Q a s'∧DK s.heap s'.heap) (fun e s'=>E e s'∧DK s.heap s'.heap) s:=fun Γ p hΓ=>QuR h (DK.refl _) (w Γ p hΓ)
theorem QjF (a:Addr):KD (load a):=fun _=>trivial
theorem QiG:KD stack:=fun _=>trivial
theorem Qhc (v:Value) (i:Nat):KD (field v i):=by
 unfold field fieldsOf
 refine Qa2 ?_ fun a=>?_
 ·split
  ·refine Qa2 (QjF _) fun o=>?_
   split <;> trivial
  ·trivial
 ·split <;> trivial
theorem QnW {a:Addr}{f:Obj→Obj} (hf:∀o,o.isFreed=false→(f o).isFreed=false∧(f o).dict=o.dict):KD (update a f):=⟨hf,trivial⟩
theorem QeD (v:Value) (i:Nat) (x:Value):KD (setField v i x):=by
 unfold setField
 split
 ·unfold updateField
  refine Qa2 (QjF _) fun o=>?_
  split
  ·split
   ·refine QnW fun o h=>?_
    unfold Obj.mapFields
    split
    ·exact ⟨rfl,rfl⟩
    ·exact ⟨h,rfl⟩
   ·trivial
  ·trivial
 ·trivial
theorem QfT (e:Value) (f:Option Addr):KD (setFlight e f):=by
 unfold setFlight
 refine Qa2 (Qhc _ _) fun tb=>?_
 split
 ·exact QeD _ _ _
 ·trivial
theorem Qlk:KD frameEnvs:=by
 unfold frameEnvs
 exact Qa2 QiG fun _=>trivial
theorem QoO (env:Env) (l:List Env):KD (behindIsImport env l):=by
 unfold behindIsImport
 split
 ·trivial
 ·split
  ·trivial
  ·exact Qa2 (Qhc _ _) fun _=>trivial
theorem Qrv (env:Env) (b:Bool) (l:List Env):KD (keptBack env b l):=by
 unfold keptBack
 split
 ·split
  ·trivial
  ·refine Qa2 ?_ fun _=>trivial
   unfold underTheClaimsCaller
   exact Qa2 QiG fun _=>trivial
 ·trivial
theorem QlD:∀l:List Env,KD (readyFrames l)
 | []=>trivial
 | env::outer=>by
  unfold readyFrames
  split
  ·refine Qa2 (QjF _) fun o=>?_
   split
   ·trivial
   ·exact Qa2 (QoO _ _) fun b=>Qa2 (Qrv _ _ _) fun k=>Qa2 (QnW fun o h=>⟨(by revert h; unfold Obj.isFreed; cases o with | mk c d dt sl=>cases dt <;> exact id),rfl⟩) fun _=>QlD outer
  ·trivial
theorem Qjw (env:Env):KD (PySem.frameOf env):=by
 unfold PySem.frameOf
 refine Qa2 Qlk fun l=>Qa2 ?_ fun o=>?_
 ·unfold frameObject
  split
  ·trivial
  ·exact Qa2 (QlD _) fun _=>trivial
 ·split <;> trivial
theorem kd_new (ty:String) (vs:List Value):KD (newFields ty vs):=by
 have k:KD (newObjAsIs (.type ty) (.fields vs.toArray)):=by
  unfold newObjAsIs
  exact Qa2 (t:=alloc _) (fun _=>trivial) fun _=>trivial
 unfold newFields newObj;dsimp only
 split
 ·exact Qa2 (t:=unsupported _) trivial fun _=>k
 ·exact k
theorem Qle (a b c d e:Value) (l:List Value):KD (EntryCells.newEntry a b c d e l):=kd_new _ _
theorem Qlp (f:Addr) (b:Bool):KD (entryPlaceOf f b):=by
 unfold entryPlaceOf
 refine Qa2 QiG fun l=>?_
 split <;> trivial
theorem QmG (e:Value) (env:Env):KD (noteFrame e env):=by
 unfold noteFrame
 split
 ·refine Qa2 (Qhc _ _) fun h=>?_
  split
  ·refine Qa2 (Qhc _ _) fun x=>?_
   split
   ·trivial
   ·exact Qa2 (QeD _ _ _) fun _=>Qa2 (Qjw _) fun _=>Qa2 (Qlp _ _) fun _=>Qa2 (Qle _ _ _ _ _ _) fun _=>QeD _ _ _
  ·exact Qa2 (Qjw _) fun _=>Qa2 (Qlp _ _) fun _=>Qa2 (Qle _ _ _ _ _ _) fun _=>QeD _ _ _
 ·trivial
theorem Qjb (env:Env) (e:Value):KD (leaving env e):=Qa2 (QmG _ _) fun _=>QfT _ _
section
variable {X:Cx}{md:List Md}{P:Pt}{R:RR}
end
section
variable {X:Cx}{md:List Md}{P:Pt}{R:RR}
def Qdj (m:M (List D)) (g:MG) (b:MS):MS:=fun ρ O=>match m ρ O with
 | .ok ds O'=>Qa9 g b ds ρ O'
 | _=>.no
end
section
variable {Pr:Program}{w:World}{K:Frag}{mg:Str→Option Value}{base:Heap}
def Qq8 (P:Program) (w:World) (K:Frag) (mg:Str→Option Value) (base:Heap) (c m:Str) (ps:List Str) (k:Nat) (sp:Sp):Prop :=
 ∃C f fd,mg c=some (.ref C)∧Cls K C∧Qiy K C m f∧Binds K fd ps []∧Qbp P w K mg base (CXE P w) k f fd ps sp
theorem Qq8.can {c x:Str}{ps:List Str}{k:Nat}{pm:List Md}{R:RR}{cf:List D→Qac→Res D} (C:Qq8 Pr w K mg base c x ps k (QmV K mg pm R cf)) (hl:pm.length=ps.length:=by rfl):Qe6 Pr w K mg base c x ps k (vSp K mg pm R cf):=by
 obtain ⟨C,f,fd,h1,h2,h3,hb,Fn⟩:=C;refine ⟨C,f,fd,h1,h2,h3,hb,⟨fun vs H Q E h=>?_,fun A outer s H args us vs Q E hr e0 hbi r h=>?_⟩⟩
 ·obtain ⟨ds,O,F,as,d,O',r,a,_⟩:=h;rw [a.len.1,hl]
 ·obtain ⟨ds,O,F,as,d,O',ro,a,e,q⟩:=h
  have z:QmV K mg pm R cf vs H Q fun _ _ _=>False:=⟨ds,O,F,as,ro,a,by rw [e]; exact q⟩
  refine codeAny_mono (Fn.run A outer s H args us vs Q _ hr e0 hbi r z) fun res s' hq=>?_
  cases res with
  | error ev =>
   obtain ⟨_,_,_,_,_,_,_,_,_,_,_,_,_,f0⟩:=hq;exact f0.elim
  | ok fl=>cases fl <;> exact hq
end
section
variable {X:Cx}{md:List Md}{P:Pt}{R:RR}
def QdA (c:List D→Qac→Res D) (ma:M (List D)):M D:=fun ρ O=>match ma ρ O with
 | .ok ds O1=>c ds O1
 | _=>.no
def QfA (m:M D):MS:=fun ρ O=>match m ρ O with
 | .ok _ O'=>.nx ρ O'
 | .ex x O'=>.ex x O'
 | .no=>.no
def QfW (m:M D):MS:=fun ρ O=>match m ρ O with
 | .ok d O'=>.rt d O'
 | .ex x O'=>.ex x O'
 | .no=>.no
end
section
variable {X:Cx}{md:List Md}{P:Pt}{R:RR}{k:Nat}{c m:Str}{ps:List Str}{p pos apos:Pos}{o e:Expr}{es:List Expr}{pm:List Md}{cf:List D→Qac→Res D}{mo:M D}{ma:M (List D)}
def QeT (c m:Str) (cf:List D→Qac→Res D) (mo:M D) (ma:M (List D)):M D:=fun ρ O=>match mo ρ O with
 | .ok (.ob n) O1=>match O1[n]? with
  | some (.ins c' fs)=>if c'=c∧(fs.lookup m).isNone=true then (match ma ρ O1 with
   | .ok ds O2=>cf (.ob n::ds) O2
   | _=>.no) else .no
  | _=>.no
 | _=>.no
end
def CXF (Pr:Program) (w:World):CXT:=fun outer H s E e s'=>∃(ea C:Addr) (H':Hp) (B:Heap) (a0:Value) (dxo:Option Addr),e = .ref ea∧s'.os=s.os∧AllBare s'.gens∧Un (frs outer) [] H H' s.heap s'.heap∧HOk Pr w H' s'.heap ∧
 Heap.FlyingW B outer ea (.ref C) a0 s'.heap∧(∀b u,H' b=some u→∃o,B.get? b=some o)∧(∀b o,s.heap.get? b=some o→b∉frs outer→∃o',B.get? b=some o')∧(∃oe,s'.heap.get? ea=some oe∧oe.dict=dxo)∧E (.ref C) dxo H'
def Raw (X:Cx) (H:Hp) (s:Shared) (ea C:Addr) (dxo:Option Addr):Prop:=∃(oe:Obj) (ws:Array Value) (a0:Value),s.heap.get? ea=some oe∧oe.cls = .ref C∧oe.dict=dxo∧oe.data = .fields ws∧ws[1]? = some .none∧ws[0]? = some a0∧H ea=none∧X.s₀.heap.get? ea=none
section
variable {X:Cx}{md:List Md}{P:Pt}{R:RR}
def exR (X:Cx) (x:Xc) (dxo:Option Addr) (H:Hp):Prop:=∀(pins:List (Addr×Obj)) (σ:St) (s:Shared) (ea C:Addr),X.mg x.cls=some (.ref C)→Inv X pins σ H s→Raw X H s ea C dxo→X.xe (.ref ea) s
def exL (X:Cx) (x:Xc) (dxo:Option Addr) (H:Hp):Prop:=∀(pins:List (Addr×Obj)) (σ:St) (H0:Hp) (s:Shared) (e:Value) (s':Shared),Inv X pins σ H0 s→CXF X.prog X.w X.stack H0 s (fun cv d H'=>∃C,cv = .ref C∧X.mg x.cls=some (.ref C)∧d=dxo∧H'=H) e s'→X.xe e s'
def exV (X:Cx) (x:Xc) (dxo:Option Addr) (H:Hp):Prop:=exR X x dxo H∧exL X x dxo H
abbrev WX:=Xc→Option Addr→Hp→Prop
def Qc7 (K:Frag) (mg:Str→Option Value) (md:List Md) (P:Pt) (R:RR) (W:WX) (D:Ends) (H F:Hp) (as:List Addr):Fl→Prop
 | .ex x O'=>∀dxo H' F' as',GrS P H F as H' F' as'→RlO K mg O' H' F' as'→XF K F' as' dxo x.fs→W x dxo H'
 | f=>Qgj K mg md P R D H F as f
def Qny (K:Frag) (mg:Str→Option Value) (md:List Md) (P:Pt) (R:RR) (W:WX) (m:MS):TS:=fun D σ H =>
 ∃ρ O F as,RlO K mg O H F as∧SlO K md P ρ σ H F as∧Qc7 K mg md P R W D H F as (m ρ O)
def VSF (X:Cx) (md:List Md) (P:Pt) (R:RR) (st:Stmt) (m:MS):Prop:=PS X st (Qny X.K X.mg md P R (exV X) m)
def QfX (X:Cx) (md:List Md) (P:Pt) (R:RR) (st:List Stmt) (m:MS):Prop:=PSs X st (Qny X.K X.mg md P R (exV X) m)
theorem Qc7.gr {K:Frag}{mg:Str→Option Value}{W:WX}{D:Ends}{H F H' F':Hp}{as as':List Addr}{f:Fl} (g:GrS P H F as H' F' as') (h:Qc7 K mg md P R W D H F as f):Qc7 K mg md P R W D H' F' as' f:=by
 cases f with
 | ex x O'=>exact fun d H2 F2 as2 g2 r2=>h d H2 F2 as2 (g.trans g2) r2
 | nx ρ' O'=>exact fun σ' H2 F2 as2 g2 r2 s2=>h σ' H2 F2 as2 (g.trans g2) r2 s2
 | bk ρ' O'=>exact fun σ' H2 F2 as2 g2 r2 s2=>h σ' H2 F2 as2 (g.trans g2) r2 s2
 | ct ρ' O'=>exact fun σ' H2 F2 as2 g2 r2 s2=>h σ' H2 F2 as2 (g.trans g2) r2 s2
 | rt d O'=>exact fun v H2 F2 as2 g2 r2 s2=>h v H2 F2 as2 (g.trans g2) r2 s2
 | no=>exact h
theorem QiH {st:Stmt}{m:MS} (h:VS X md P R st m):VSF X md P R st (msN m):=h.imp fun D σ H q=>by
 obtain ⟨ρ,O,F,as,r,s,k⟩:=q;refine ⟨ρ,O,F,as,r,s,?_⟩;unfold msN at k
 cases e:m ρ O with
 | ex x O'=>rw [e] at k; exact False.elim k
 | nx ρ' O'=>rw [e] at k; exact k
 | bk ρ' O'=>rw [e] at k; exact k
 | ct ρ' O'=>rw [e] at k; exact k
 | rt d O'=>rw [e] at k; exact k
 | no=>rw [e] at k; exact k
theorem Qbf:QfX X md P R [] QaD:=Qmm.imp fun D σ H q=>by
 obtain ⟨ρ,O,F,as,r,s,k⟩:=q;exact k σ H F as GrS.refl r s
theorem QaT {st:Stmt}{rest:List Stmt}{a b:MS} (h1:VSF X md P R st a) (h2:QfX X md P R rest b):QfX X md P R (st::rest) (Qak a b):=(QlP h1 h2).imp fun D σ H q=>by
 obtain ⟨ρ,O,F,as,r,s,k⟩:=q;refine ⟨ρ,O,F,as,r,s,?_⟩;unfold Qak at k
 cases e:a ρ O with
 | nx ρ1 O1 =>
  rw [e] at k
  exact fun σ' H' F' as' g r' s'=>⟨ρ1,O1,F',as',r',s',Qc7.gr g k⟩
 | ex x O'=>rw [e] at k; exact k
 | bk ρ' O'=>rw [e] at k; exact k
 | ct ρ' O'=>rw [e] at k; exact k
 | rt d O'=>rw [e] at k; exact k
 | no=>rw [e] at k; exact k
theorem QgU {c:Expr}{a b:List Stmt}{pos:Pos}{t:M Bool}{ma mb:MS} (hc:TsE X md P c t) (ha:QfX X md P R a ma) (hb:QfX X md P R b mb):VSF X md P R (.If c a b pos) (QcE t ma mb):=(Qq0 hc ha hb).imp fun D σ H q=>by
 obtain ⟨ρ,O,F,as,r,s,k⟩:=q;unfold QcE at k
 cases e:t ρ O with
 | ok v O' =>
  rw [e] at k;refine ⟨ρ,_,F,as,_,_,r,s,e,fun H1 F1 as1 g r1=>?_⟩;dsimp only at k
  cases v with
  | true =>
   rw [if_pos rfl] at k ⊢;exact ⟨ρ,O',F1,as1,r1,s.step g,Qc7.gr g.toS k⟩
  | false =>
   rw [if_neg zj] at k ⊢;exact ⟨ρ,O',F1,as1,r1,s.step g,Qc7.gr g.toS k⟩
 | ex x O'=>rw [e] at k; exact False.elim k
 | no=>rw [e] at k; exact False.elim k
end
section
variable {Pr:Program}{w:World}{K:Frag}{mg:Str→Option Value}{base:Heap}{N:List Str}{qual:Str}{scope:Scope}{f:Addr}{cd:Value}{A:Around}{outer:List Env}{s0:Shared}{H0:Hp}{E E':XK}{pins:List (Addr×Obj)}{σ:St}{H:Hp}{s s':Shared}
theorem Qr2 {ea C:Addr}{dxo:Option Addr} (I:Inv (Qcy (CXF Pr w) Pr w K mg base N qual scope f cd A outer s0 H0 E) pins σ H s) (hr:Raw (Qcy (CXF Pr w) Pr w K mg base N qual scope f cd A outer s0 H0 E) H s ea C dxo) (hE:E (.ref C) dxo H) :
  (Qcy (CXF Pr w) Pr w K mg base N qual scope f cd A outer s0 H0 E).xe (.ref ea) s:=by
 have stk:=I.stack;have sfr:=I.stkFree;have hfr:=I.ok.frames;have hb0:=I.base;obtain ⟨oe,ws,a0,he,hc,hdi,hd,h1,h0,hn,hold⟩:=hr;have hold:s0.heap.get? ea=none:=hold
 have nfr:ea∉frs (envOfC qual scope s0.heap.objs.size f cd::outer):=fun z=>by
  obtain ⟨_,o,ho,nf⟩:=stk.mem z;rw [he] at ho;cases ho;exact nf ws hd
 show wpAny (model Pr w) (A.deeper (envOfC qual scope s0.heap.objs.size f cd)) (leaving (envOfC qual scope s0.heap.objs.size f cd) (.ref ea)) (fun _ s''=>CXF Pr w outer H0 s0 E (.ref ea) s'') _ s
 have kd:=QfV (Qjb _ _) (wpAny_leaving_firstW (M:=model Pr w) (A:=A.deeper (envOfC qual scope s0.heap.objs.size f cd)) (E:=fun e' s''=>CXF Pr w outer H0 s0 E e' s'') (base:=hideAll s.heap (ea::frs (envOfC qual scope s0.heap.objs.size f cd::outer)))
  (Q:=fun _ s''=>∃h',s'' = { s with heap:=h' }∧Heap.LeftW (hideAll s.heap (ea::frs (envOfC qual scope s0.heap.objs.size f cd::outer))) (envOfC qual scope s0.heap.objs.size f cd::outer) ea oe.cls a0 s.heap h')
  hfr (funFrames_hide stk fun env he a ha=>zw _ (List.mem_filterMap.mpr ⟨env,he,ha⟩)) rfl he (fun b o q=>of_hideAll _ q) (hideAll_none _ zz) hd h1 h0 fun h' hL=>⟨h',rfl,hL⟩)
 refine zr kd (fun _ s2 z=>?_) fun _ _ z=>z.1
 obtain ⟨⟨h2,rfl,k1,⟨_,_,k2⟩,k3,up⟩,dk⟩:=z
 have keepB:∀b o,s.heap.get? b=some o→b≠ea→b∉frs (envOfC qual scope s0.heap.objs.size f cd::outer)→h2.get? b=some o:=fun b o q n n2=>k1 b o (hideAll_get _ q fun z=>by
  rcases zm.mp z with z | z
  ·exact n z
  ·exact n2 z)
 have notE:∀b o,s0.heap.get? b=some o→b≠ea:=fun b o q z=>by rw [z,hold] at q; cases q
 have Qes:∀b o,s0.heap.get? b=some o→b∉frs outer→b∉frs (envOfC qual scope s0.heap.objs.size f cd::outer):=fun b o q n z=>by
  rcases zm.mp (show b∈s0.heap.objs.size::frs outer from z) with rfl | z
  ·exact absurd (zf q) (zH _)
  ·exact n z
 have sub:∀b,b∈frs outer→b∈frs (envOfC qual scope s0.heap.objs.size f cd::outer):=fun b z=>zw _ z
 have tr:∀b u,H b=some u→∃o,s.heap.get? b=some o∧b≠ea∧b∉frs (envOfC qual scope s0.heap.objs.size f cd::outer):=fun b u e=>by
  obtain ⟨o,q⟩:=(I.hok b u e).has;exact ⟨o,q,(fun z=>by rw [z,hn] at e; cases e),fun z=>by rw [sfr b z] at e; cases e⟩
 have frm:∀b o,s.heap.get? b=some o→b∈frs outer→∃sl,h2.get? b=some { o with slots:=sl }:=fun b o q z=>by
  obtain ⟨_,o',q',nf⟩:=stk.mem (sub b z);rw [q] at q';cases q';exact up b o q nf
 obtain ⟨oe2,he2,hd2⟩:=dk ea oe he;refine ⟨ea,C,H,_,a0,dxo,rfl,I.os,I.bare,Un.then hb0 (fun b o q n z=>by obtain ⟨o',z⟩:=z; exact keepB b o q (notE b o' z) (Qes b o' z n)) frm,I.hok.only fun b v u e q=>(by obtain ⟨_,_,n1,n2⟩:=tr b v e; exact keepB b u q n1 n2),⟨k1,hideAll_none _ zz,k2,hc ▸ k3⟩,fun b u e=>?_,fun b o q n=>?_,⟨oe2,he2,hd2.trans hdi⟩,hE⟩
 ·obtain ⟨o,q,n1,n2⟩:=tr b u e
  exact ⟨o,hideAll_get _ q fun z=>by
   rcases zm.mp z with z | z
   ·exact n1 z
   ·exact n2 z⟩
 ·obtain ⟨o',q'⟩:=hb0.there b o q (fun z=>nomatch z)
  exact ⟨o',hideAll_get _ q' fun z=>by
   rcases zm.mp z with z | z
   ·exact notE b o q z
   ·exact Qes b o q n z⟩
theorem Qpw {e:Value} (I:Inv (Qcy (CXF Pr w) Pr w K mg base N qual scope f cd A outer s0 H0 E) pins σ H s) (hx:CXF Pr w (Qcy (CXF Pr w) Pr w K mg base N qual scope f cd A outer s0 H0 E).stack H s E' e s') (hE:∀C d H',E' (.ref C) d H'→E (.ref C) d H') :
  (Qcy (CXF Pr w) Pr w K mg base N qual scope f cd A outer s0 H0 E).xe e s':=by
 obtain ⟨ea,C,H',B,a0,dxo,rfl,hos,hbare,un,hok,fl,trk,old,⟨oe,he,hd⟩,hE'⟩:=hx;have hfr:=I.ok.frames;show wpAny (model Pr w) (A.deeper (envOfC qual scope s0.heap.objs.size f cd)) (leaving (envOfC qual scope s0.heap.objs.size f cd) (.ref ea)) (fun _ s''=>CXF Pr w outer H0 s0 E (.ref ea) s'') _ s'
 have kd:=QfV (Qjb _ _) (wpAny_leaves_onW (M:=model Pr w) (A:=A.deeper (envOfC qual scope s0.heap.objs.size f cd)) (E:=fun e' s''=>CXF Pr w outer H0 s0 E e' s'')
  (Q:=fun _ s''=>∃h',s'' = { s' with heap:=h' }∧Heap.FlyingW B outer ea (.ref C) a0 h'∧s'.heap.UpToSlots h') hfr rfl fl fun h' fl' up=>⟨h',rfl,fl',up⟩)
 refine zr kd (fun _ s2 z=>?_) fun _ _ z=>z.1
 obtain ⟨⟨h',rfl,fl',up⟩,dk⟩:=z;have I':=I.call' (s':={ s' with heap:=h' }) (ch:=[]) hos (QoZ un fl.1 fl.2.2.1 old fl'.1 up) (Qoc hok trk fl.1 fl'.1) hbare (fun _ z=>nomatch z);obtain ⟨oe2,he2,hd2⟩:=dk ea oe he;refine ⟨ea,C,H',B,a0,dxo,rfl,I'.os,I'.bare,I'.base,I'.hok,fl',trk,fun b o q n=>?_,⟨oe2,he2,hd2.trans hd⟩,hE C dxo H' hE'⟩;obtain ⟨o',q'⟩:=I.base.there b o q (fun z=>nomatch z)
 refine old b o' q' fun z=>?_
 rcases zm.mp (show b∈s0.heap.objs.size::frs outer from z) with rfl | z
 ·exact absurd (zf q) (zH _)
 ·exact n z
end
def QhH (P:Program) (w:World) (K:Frag) (mg:Str→Option Value) (base:Heap) (x:Str) (ps:List Str) (k:Nat) (sp:Sp):Prop :=
 ∃f fd,mg x=some (.ref f)∧keepIn K (.ref f)=true∧Binds K fd ps []∧Qbp P w K mg base (CXF P w) k f fd ps sp∧∃oc od osl,K.lookup f=some ⟨oc,od,.func fd,osl⟩
def Qih (P:Program) (w:World) (K:Frag) (mg:Str→Option Value) (base:Heap) (c m:Str) (ps:List Str) (k:Nat) (sp:Sp):Prop :=
 ∃C f fd,mg c=some (.ref C)∧Cls K C∧Qiy K C m f∧Binds K fd ps []∧Qbp P w K mg base (CXF P w) k f fd ps sp
def Qwb (K:Frag) (mg:Str→Option Value) (R:RR) (H F:Hp) (as:List Addr) (Q:VK) (E:XK):Res D→Prop
 | .ok d O'=>∀v H' F' as',Gr H F as H' F' as'→RlO K mg O' H' F' as'→R (fun a=>H a=none) H' F' as' v d→Q v H'
 | .ex x O'=>∀C dxo H' F' as',mg x.cls=some (.ref C)→Gr H F as H' F' as'→RlO K mg O' H' F' as'→XF K F' as' dxo x.fs→E (.ref C) dxo H'
 | .no=>False
def QcV (K:Frag) (mg:Str→Option Value) (pm:List Md) (R:RR) (c:List D→Qac→Res D):Sp:=fun vs H Q E =>
 ∃ds O F as,RlO K mg O H F as∧Qbw K H F as pm vs ds∧Qwb K mg R H F as Q E (c ds O)
section
variable {Pr:Program}{w:World}{K:Frag}{mg:Str→Option Value}{base:Heap}
theorem QmY {x qual:Str}{st:Stmt}{f:Addr}{fd:FuncData}{N ps:List Str}{k:Nat} (Fn:Fun K x qual st f fd) (S:QaI N ps (Qaj st))
  (pm lm:List Md) {R:RR}{b:MS} (hR:QcQ R) (hR0:∀N H F as,R N H F as .non .non) (hpl:pm.length=ps.length) (hl:(pm++lm).length=N.length) (hp:∀m∈pm,m≠.o)
  (body:∀(cdv:Value) (A:Around) (outer:List Env) (s:Shared) (H:Hp) (E:XK),QaG k (A.deeper (envOfC qual (Qaj st) s.heap.objs.size f cdv))→∀P,QfX (Qcy (CXF Pr w) Pr w K mg base N qual (Qaj st) f cdv A outer s H E) (pm++lm) P R (QaX st) b) :
  Qbp Pr w K mg base (CXF Pr w) (k+1) f fd ps (QcV K mg pm R (Qbn N.length b)):=by
 obtain ⟨oc,od,kV,doc,pmv,an,cdv,ct,osl,rfl,lk,hcd⟩:=Fn.ex
 refine Qns lk hcd S (fun vs H Q E h=>?_) fun A outer s H vs Q E hr h=>?_
 ·obtain ⟨ds,O,F,as,r,a,_⟩:=h;rw [a.len.1,hpl]
 ·obtain ⟨ds,O,F,as,r,a,q⟩:=h;refine ⟨_,body cdv A outer s H E hr (Pt.all H),?_⟩;refine ⟨_,O,F,as,r,Qgi a hl hp,?_⟩;unfold Qbn at q
  cases eb:b (ds.map some++List.replicate (N.length - ds.length) none) O with
  | rt d' O2 =>
   rw [eb] at q
   exact fun v H' F' as' g r' hv=>q v H' F' as' g.gr r' (hR _ _ _ _ _ _ _ (fun c hc=>Classical.not_not.mp hc) hv)
  | nx ρ O2 =>
   rw [eb] at q
   exact fun σ' H' F' as' g r' _=>q _ H' F' as' g.gr r' (hR0 _ _ _ _)
  | ex x' O2 =>
   rw [eb] at q
   exact fun dxo H' F' as' g r' hx=>⟨fun pins σ s1 ea C hC I hr=>Qr2 I hr (q C dxo H' F' as' hC g.gr r' hx),fun pins σ H0 s1 e s2 I hz=>Qpw I hz fun C d H2 ⟨C',z1,z2,z3,z4⟩=>by
    cases z1;subst z3 z4
    exact q C _ _ F' as' z2 g.gr r' hx⟩
  | bk _ _=>rw [eb] at q; exact False.elim q
  | ct _ _=>rw [eb] at q; exact False.elim q
  | no=>rw [eb] at q; exact False.elim q
theorem QmX {x:Str}{st:Stmt}{N ps:List Str}{k:Nat} (Df:Def K mg x st) (S:QaI N ps (Qaj st))
  (hb:∀(kV doc pm:Value) (an:Option Addr) (cdv ct:Value) (us:List Value),us.length=ps.length→bindArgs (PySem.W.fnOf x x (QbD st) (QaX st) (Qaj st) .none kV doc pm an cdv ct) ⟨us,[]⟩=pure (ps.zip us))
  (pm lm:List Md) {R:RR}{b:MS} (hR:QcQ R) (hR0:∀N H F as,R N H F as .non .non) (hpl:pm.length=ps.length:=by rfl) (hl:(pm++lm).length=N.length:=by rfl) (hp:∀m∈pm,m≠.o:=by decide)
  (body:∀(f:Addr) (cdv:Value) (A:Around) (outer:List Env) (s:Shared) (H:Hp) (E:XK),QaG k (A.deeper (envOfC x (Qaj st) s.heap.objs.size f cdv))→∀P,QfX (Qcy (CXF Pr w) Pr w K mg base N x (Qaj st) f cdv A outer s H E) (pm++lm) P R (QaX st) b) :
  QhH Pr w K mg base x ps (k+1) (QcV K mg pm R (Qbn N.length b)):=by
 obtain ⟨f,fd,hm,Fn⟩:=Df;have hbi:=Fn.binds hb;have hkp:=Fn.kp;have ok:=QmY Fn S pm lm hR hR0 hpl hl hp (body f);obtain ⟨oc,od,kV,doc,pmv,an,cdv,ct,osl,rfl,lk,hcd⟩:=Fn.ex;exact ⟨f,_,hm,hkp,hbi,ok,oc,od,osl,lk⟩
theorem Qpq {c x qual:Str}{st:Stmt}{N ps:List Str}{k:Nat} (Df:QiA K mg c x qual st) (S:QaI N ps (Qaj st))
  (hb:∀(kV doc pm:Value) (an:Option Addr) (cdv ct:Value) (us:List Value),us.length=ps.length→bindArgs (PySem.W.fnOf x qual (QbD st) (QaX st) (Qaj st) .none kV doc pm an cdv ct) ⟨us,[]⟩=pure (ps.zip us))
  (pm lm:List Md) {R:RR}{b:MS} (hR:QcQ R) (hR0:∀N H F as,R N H F as .non .non) (hpl:pm.length=ps.length:=by rfl) (hl:(pm++lm).length=N.length:=by rfl) (hp:∀m∈pm,m≠.o:=by decide)
  (body:∀(f:Addr) (cdv:Value) (A:Around) (outer:List Env) (s:Shared) (H:Hp) (E:XK),QaG k (A.deeper (envOfC qual (Qaj st) s.heap.objs.size f cdv))→∀P,QfX (Qcy (CXF Pr w) Pr w K mg base N qual (Qaj st) f cdv A outer s H E) (pm++lm) P R (QaX st) b) :
  Qih Pr w K mg base c x ps (k+1) (QcV K mg pm R (Qbn N.length b)):=by
 obtain ⟨C,f,fd,h1,h2,h3,h4⟩:=Df;exact ⟨C,f,fd,h1,h2,h3,h4.binds hb,QmY h4 S pm lm hR hR0 hpl hl hp (body f)⟩
theorem QjK {f:Addr}{fd:FuncData}{ps:List Str}{k:Nat}{pm:List Md}{R:RR}{c:List D→Qac→Res D} (Fn:Qbp Pr w K mg base (CXF Pr w) k f fd ps (QcV K mg pm R c)) (hl:pm.length=ps.length) {CX:CXT}:Qbp Pr w K mg base CX k f fd ps (vSp K mg pm R c):=by
 refine ⟨fun vs H Q E h=>?_,fun A outer s H args us vs Q E hr e0 hbi r h=>?_⟩
 ·obtain ⟨ds,O,F,as,d,O',r,a,_⟩:=h;rw [a.len.1,hl]
 ·obtain ⟨ds,O,F,as,d,O',ro,a,e,q⟩:=h
  have z:QcV K mg pm R c vs H Q fun _ _ _=>False:=⟨ds,O,F,as,ro,a,by rw [e]; exact q⟩
  refine codeAny_mono (Fn.run A outer s H args us vs Q _ hr e0 hbi r z) fun res s' hq=>?_
  cases res with
  | error ev =>
   obtain ⟨_,_,_,_,_,_,_,_,_,_,_,_,_,_,_,f0⟩:=hq;exact f0.elim
  | ok fl=>cases fl <;> exact hq
theorem QhH.can {x:Str}{ps:List Str}{k:Nat}{pm:List Md}{R:RR}{c:List D→Qac→Res D} (C:QhH Pr w K mg base x ps k (QcV K mg pm R c)) (hl:pm.length=ps.length:=by rfl):Can Pr w K mg base x ps k (vSp K mg pm R c):=by
 obtain ⟨f,fd,hm,hk,hb,Fn,lk⟩:=C;exact ⟨f,fd,hm,hk,hb,QjK Fn hl,lk⟩
theorem Qih.can {c x:Str}{ps:List Str}{k:Nat}{pm:List Md}{R:RR}{cf:List D→Qac→Res D} (C:Qih Pr w K mg base c x ps k (QcV K mg pm R cf)) (hl:pm.length=ps.length:=by rfl):Qe6 Pr w K mg base c x ps k (vSp K mg pm R cf):=by
 obtain ⟨C,f,fd,h1,h2,h3,hb,Fn⟩:=C;exact ⟨C,f,fd,h1,h2,h3,hb,QjK Fn hl⟩
end
section
variable {X:Cx}{md:List Md}{P:Pt}{R:RR}
def exG (X:Cx):XK:=fun cv d H'=>∃x C,cv = .ref C∧X.mg x.cls=some (.ref C)∧exL X x d H'
theorem QpE:QeJ (CXF X.prog X.w) X (exG X):=fun pins σ H s e s' I hx=>by
 obtain ⟨ea,C,H',B,a0,dxo,rfl,x1,x2,x3,x4,x5,x6,x7,x8,x,C',e1,hC,hw⟩:=hx;cases e1;exact hw pins σ H s (.ref ea) s' I ⟨ea,C,H',B,a0,dxo,rfl,x1,x2,x3,x4,x5,x6,x7,x8,C,rfl,hC,rfl,rfl⟩
def Qt4 (K:Frag) (mg:Str→Option Value) (R:RR) (W:WX) (H F:Hp) (as:List Addr) (Q:VK):Res D→Prop
 | .ok d O'=>∀v H' F' as',Gr H F as H' F' as'→RlO K mg O' H' F' as'→R (fun a=>H a=none) H' F' as' v d→Q v H'
 | .ex x O'=>∀dxo H' F' as',Gr H F as H' F' as'→RlO K mg O' H' F' as'→XF K F' as' dxo x.fs→W x dxo H'
 | .no=>False
def tMF (K:Frag) (mg:Str→Option Value) (md:List Md) (P:Pt) (R:RR) (W:WX) (m:M D):TE:=fun σ H Q=>∃ρ O F as,RlO K mg O H F as∧SlO K md P ρ σ H F as∧Qt4 K mg R W H F as Q (m ρ O)
def VEF (X:Cx) (md:List Md) (P:Pt) (R:RR) (e:Expr) (m:M D):Prop:=PE X e (tMF X.K X.mg md P R (exL X) m)
theorem QqC {pm:List Md}{c:List D→Qac→Res D}{ma:M (List D)} (hR:QcQ R) {σ:St}{H:Hp}{Q:VK} (q:tMF X.K X.mg md P R (exL X) (QdA c ma) σ H Q):QkG (QcV X.K X.mg pm R c) [] (exG X) (tMA X.K X.mg md P pm ma) σ H Q:=by
 obtain ⟨ρ,O,F,as,r,s,k⟩:=q;unfold QdA at k
 cases em:ma ρ O with
 | ex x O'=>rw [em] at k; exact False.elim k
 | no=>rw [em] at k; exact False.elim k
 | ok ds O1 =>
  rw [em] at k;dsimp only at k;refine ⟨ρ,O,F,as,ds,O1,r,s,em,fun vs H1 F1 as1 g1 r1 h1=>?_⟩;dsimp only;rw [zP];refine ⟨ds,O1,F1,as1,r1,h1,?_⟩
  cases ec:c ds O1 with
  | ok d O2 =>
   rw [ec] at k
   exact fun v H2 F2 as2 g2 r2 h=>k v H2 F2 as2 (g1.trans g2) r2 (hR _ _ _ _ _ _ _ (fun a z=>g1.dm a z) h)
  | ex x O2 =>
   rw [ec] at k
   exact fun C dxo H2 F2 as2 hC g2 r2 hx=>⟨x,C,rfl,hC,k dxo H2 F2 as2 (g1.trans g2) r2 hx⟩
  | no=>rw [ec] at k; exact False.elim k
theorem Qqm {f:Str}{ps:List Str}{k:Nat}{a:Expr}{as:List Expr}{pm:List Md}{c:List D→Qac→Res D}{ma:M (List D)}{p1 p2:Pos} (hR:QcQ R)
  (Cn:QhH X.prog X.w X.K X.mg X.base f ps k (QcV X.K X.mg pm R c)) (hr:QaG k X.A) (ha:AE X md P pm (a::as) ma) (hg:Gl X f:=by rfl) (hfd:(f == ("__debug__":Str))=false:=by decide)
  (hs:starEach (a::as) X.env=(false,eval a X.env)::starEach as X.env:=by exact Qbm rfl) (hpl:(backTo p2 (starEach as X.env)).any (·.1)=false:=by exact Qbu rfl):VEF X md P R (.Call (.Name f p1) (a::as) [] p2) (QdA c ma):=by
 obtain ⟨fa,fd,hm,hk,hb,Fn,_⟩:=Cn
 exact (QmI (dvs:=[]) (ds:=[]) Fn hr hg hm hk hb .nil QpE ha hfd hs hpl).imp fun σ H Q q=>QqC hR q
theorem Qmq {R':RR}{e:Expr}{pos:Pos}{m:M D} (h:VEF X md P R' e m) (hs:swapsWith e none pos.line X.env=pure false:=by rfl):VSF X md P R (.Expr e pos) (QfA m):=(QjJ h hs).imp fun D σ H q=>by
 obtain ⟨ρ,O,F,as,r,s,k⟩:=q;refine ⟨ρ,O,F,as,r,s,?_⟩;unfold QfA at k
 cases e:m ρ O with
 | ok d O'=>rw [e] at k; exact fun v H' F' as' g r' _=>k σ H' F' as' g.toS r' (s.step g)
 | ex x O'=>rw [e] at k; exact fun d H' F' as' g r' hx=>(k d H' F' as' g.toS r' hx).2
 | no=>rw [e] at k; exact False.elim k
theorem Qr4 (hR:QcQ R) {e:Expr}{pos:Pos}{m:M D} (h:VEF X md P R e m):VSF X md P R (.Return (some e) pos) (QfW m):=(QkV h).imp fun D σ H q=>by
 obtain ⟨ρ,O,F,as,r,s,k⟩:=q;refine ⟨ρ,O,F,as,r,s,?_⟩;unfold QfW at k
 cases e:m ρ O with
 | ok d O'=>rw [e] at k; exact fun v H' F' as' g r' hv=>k v H' F' as' g.toS r' (hR _ _ _ _ _ _ _ (fun a ha p=>s.pd a p ha) hv)
 | ex x O'=>rw [e] at k; exact fun d H' F' as' g r' hx=>(k d H' F' as' g.toS r' hx).2
 | no=>rw [e] at k; exact False.elim k
end
section
variable {X:Cx}{md:List Md}{P:Pt}{R:RR}{k:Nat}{c m:Str}{ps:List Str}{p pos apos:Pos}{o e:Expr}{es:List Expr}{pm:List Md}{cf:List D→Qac→Res D}{mo:M D}{ma:M (List D)}
end
section
variable {X:Cx}{md:List Md}{P:Pt}{R:RR}
theorem Qr3 {K:Frag}{mg:Str→Option Value}{W:WX}{m:M (List D)}{g:MG}{b:MS}{D:Ends}{σ:St}{H:Hp} (q:Qny K mg md P R W (Qdj m g b) D σ H):Qqh (tMI K mg md P m) (tMG K mg md P g) (Qny K mg md P R W b) D σ H:=by
 obtain ⟨ρ,O,F,as,r,s,k⟩:=q;unfold Qdj at k
 cases e:m ρ O with
 | ex x O'=>rw [e] at k; exact False.elim k
 | no=>rw [e] at k; exact False.elim k
 | ok ds O1 =>
  rw [e] at k;dsimp only at k;refine ⟨ρ,_,F,as,_,_,r,s,e,fun J H1 F1 as1 g1 r1 hJ=>?_⟩;have k1:=Qc7.gr (R:=R) (W:=W) g1.toS k;refine ⟨fun i m σ' H'=>m=ds.length - i∧i≤ds.length∧∃ρ' O' F' as',GrS P H1 F1 as1 H' F' as'∧RlO K mg O' H' F' as'∧SlO K md P ρ' σ' H' F' as'∧Qc7 K mg md P R W D H' F' as' (Qa9 g b (ds.drop i) ρ' O'),⟨ds.length,by simp,Nat.zero_le _,ρ,O1,F1,as1,GrS.refl,r1,s.step g1,by rw [List.drop_zero]; exact k1⟩,?_⟩;rintro i n σ' H' ⟨rfl,hi,ρ',O',F',as',g',r',s',k'⟩
  by_cases hlt:i < ds.length
  ·have hd:=zx hlt;obtain ⟨go,yl⟩:=hJ.turn i _ H' F' as' g' ⟨O',r'⟩ hd;rw [List.drop_eq_getElem_cons hlt] at k';refine .inr ⟨go,fun σ2 H2=>∃ρ2 O2 F2 as2,GrS P H1 F1 as1 H2 F2 as2∧RlO K mg O2 H2 F2 as2∧SlO K md P ρ2 σ2 H2 F2 as2∧Qc7 K mg md P R W D H2 F2 as2 (Qa9 g b (ds.drop (i+1)) ρ2 O2),fun σ2 H2 h2=>⟨ds.length - (i+1),by omega,rfl,hlt,h2⟩,fun x H3 y=>?_⟩;obtain ⟨F3,g3,r3,hx⟩:=yl x H3 y;have r3':=r3 O' r';unfold Qa9 at k'
   cases eg:g ds[i] ρ' with
   | none=>rw [eg] at k'; exact False.elim k'
   | some ρ1 =>
    rw [eg] at k';dsimp only at k';refine ⟨ρ',O',F3,as',ds[i],ρ1,r3',s'.step g3,hx,eg,fun σ4 s4=>?_⟩;refine ⟨ρ1,O',F3,as',r3',s4,?_⟩;have g4:GrS P H1 F1 as1 H3 F3 as':=g'.trans g3.toS
    cases eb:b ρ1 O' with
    | nx ρ2 O2 =>
     rw [eb] at k'
     exact fun σ2 H2 F2 as2 g2 r2 s2=>⟨ρ2,O2,F2,as2,g4.trans g2,r2,s2,Qc7.gr g2 (Qc7.gr g3.toS k')⟩
    | ct ρ2 O2 =>
     rw [eb] at k'
     exact fun σ2 H2 F2 as2 g2 r2 s2=>⟨ρ2,O2,F2,as2,g4.trans g2,r2,s2,Qc7.gr g2 (Qc7.gr g3.toS k')⟩
    | bk ρ2 O2 =>
     rw [eb] at k'
     exact fun σ2 H2 F2 as2 g2 r2 s2=>k' σ2 H2 F2 as2 (g3.toS.trans g2) r2 s2
    | rt d O2 =>
     rw [eb] at k'
     exact fun v H2 F2 as2 g2 r2 s2=>k' v H2 F2 as2 (g3.toS.trans g2) r2 s2
    | ex x O2 =>
     rw [eb] at k'
     exact fun d H2 F2 as2 g2 r2 hx=>k' d H2 F2 as2 (g3.toS.trans g2) r2 hx
    | no=>rw [eb] at k'; exact False.elim k'
  ·have hi':i=ds.length:=by omega
   subst hi';refine .inl ⟨hJ.stop H' F' as' g' ⟨O',r'⟩,?_⟩;rw [List.drop_length] at k';exact k' σ' H' F' as' GrS.refl r' s'
theorem QlM {tg iter:Expr}{body:List Stmt}{pos:Pos}{m:M (List D)}{g:MG}{b:MS} (hc:X.calm=true) (hi:VI X md P tg iter m) (hg:VG X md P tg g) (hb:QfX X md P R body b) (hp:PassesOwn (model X.prog X.w) X.A X.env X.xe:=by exact PassesOwn.leaving)
  (hs:∀x,foldedSetIterable iter X.env x=pure x:=by intro _; rfl):VSF X md P R (.For tg iter body [] pos) (Qdj m g b):=(Qow hp hc hi hg hb hs).imp fun _ _ _ q=>Qr3 q
def Qwi (K:Frag) (mg:Str→Option Value) (md:List Md) (P:Pt) (W:WX) (m:M (List D)):TI:=fun σ H Q=>∃ρ O F as,RlO K mg O H F as∧SlO K md P ρ σ H F as ∧
 match m ρ O with
 | .ok ds O'=>∀J H' F' as',Gr H F as H' F' as'→RlO K mg O' H' F' as'→JOk K mg P J ds H' F' as'→Q J H'
 | .ex x O'=>∀dxo H' F' as',Gr H F as H' F' as'→RlO K mg O' H' F' as'→XF K F' as' dxo x.fs→W x dxo H'
 | .no=>False
def VIF (X:Cx) (md:List Md) (P:Pt) (tg iter:Expr) (m:M (List D)):Prop:=PI X tg iter (Qwi X.K X.mg md P (exL X) m)
end
end L2
namespace L2
open PySem PySem.Spec PyProof.Rows PySem.W PySem.Builtin PySem.Builtin.ObjectAttr
theorem Qm7 {K:Frag}{h:Heap}{N:Addr}{m:Str→Option Value}{n:Str}{v:Value} (X:K.In h) (G:h.Ns N m) (e:nsIn K N n=some (some v)):m n=some v:=by
 obtain ⟨o,es,ep,ho,hd,_,hf⟩:=G;unfold nsIn at e;split at e
 ·rename_i q;have z:=X _ _ q;rw [ho] at z;cases z;cases hd;split at e
  ·rename_i en he;cases e;rw [←hf];unfold nsFind findBy;rw [←Array.find?_toList,he];rfl
  ·split at e <;> cases e
 ·cases e
def Qht (K:Frag) (C:Addr) (bmB:List Value) (newId:String) (fI:Addr):Bool:=match K.lookup C with
 | some ⟨.type "type",_,.cls cd,sl⟩=>(match cd.mro,sl.toList with
  | .ref C'::bm,[_,_,_,_,some (.builtin n),_]=>C' == C&&n == newId && !cd.hasDel&&tailIn K bmB bm&&nsOkIn K cd.ns&&nsIn K cd.ns "__init__" == some (some (.ref fI))&&cd.hasDict
  | _,_=>false)
 | _=>false
theorem Qlx {K:Frag}{C fI:Addr}{id:String} (hq:Qht K C bmV id fI=true) :
  ∃bm N nm qn bs sn sub ab col dd k0 k1 k2 k3 k5,K.lookup C=some (excClassObj nm qn C N bs bm true sn sub ab col dd k0 k1 k2 k3 k5 id)∧tailIn K bmV bm=true∧nsOkIn K N=true∧nsIn K N "__init__" = some (some (.ref fI)):=by
 unfold Qht at hq;split at hq
 case h_2=>cases hq
 case h_1 dd cd sl lk =>
  split at hq
  case h_2=>cases hq
  case h_1 C1 bm k0 k1 k2 k3 nn k5 e1 e2 =>
   rw [zk,zk,zk,zk,zk,zk] at hq;obtain ⟨⟨⟨⟨⟨⟨p1,p2⟩,p3⟩,p4⟩,p5⟩,p6⟩,p7⟩:=hq;have q1:C1=C:=beq_iff_eq.mp p1;have q2:nn=id:=beq_iff_eq.mp p2;subst q1;subst q2
   rcases cd with ⟨nm,bs,mro,ns,qn,hd,sn,sub,ab,col,del⟩
   have e1':mro = .ref C1::bm:=e1
   have p3':del=false:=by
    have z:(!del)=true:=p3
    cases del with
    | false=>rfl
    | true=>cases z
   have p7':hd=true:=p7;subst e1';subst p3';subst p7'
   rcases sl with ⟨ls⟩
   have e2':ls = [k0,k1,k2,k3,some (.builtin nn),k5]:=e2;subst e2';exact ⟨bm,ns,nm,qn,bs,sn,sub,ab,col,dd,k0,k1,k2,k3,k5,lk,p4,p5,beq_iff_eq.mp p6⟩
theorem Qis {K:Frag} (self:Value):∀{l:List Value},tailIn K bmV l=true→refuseLoop self "__setattr__" l=pure ()
 | [],e=>by rw [show ([]:List Value)=bmV from (beq_iff_eq.mp e).symm]; exact PySem.F.store_ValueError.passes self
 | v::r,e=>by
  unfold tailIn at e
  rcases Bool.or_eq_true_iff.mp e with q | q
  ·rw [beq_iff_eq.mp q];exact PySem.F.store_ValueError.passes self
  ·split at q
   ·split at q
    ·rw [zk,zk] at q;rw [refuseLoop_ref];exact Qis self q.2
    ·cases q
   ·cases q
def QgZ (h:Heap) (C:Addr) (rest:List Value):Heap:=(h.push { cls:=.type "tuple",data:=.seq rest.toArray }).push { cls:=.ref C,data:=.fields #[.ref h.objs.size,.none,.none,.none,.bool false,.none] }
def QeN (C t:Addr) (dxo:Option Addr):Obj:={ cls:=.ref C,dict:=dxo,data:=.fields #[.ref t,.none,.none,.none,.bool false,.none] }
section
variable {prog:Program}{w:World}{A:Around}{E:Value→Shared→Prop}{h:Heap}{g:Array GenState}{d:Drawn}{t:Nat}{os:OsState}
variable {nm q:Str}{C N:Addr}{bs bm bmB:List Value}{hdct:Bool}{sn:List Str}{sub:List Value}{ab:Bool}{col:Option Bool}{dd:Option Addr}{k0 k1 k2 k3 k5:Option Value}{B newId initId:String}
theorem Qi8 (F:ExcBaseFacts B newId initId bmB) (T:OwnTail h bmB bm) {mN:Str→Option Value}{rest:List Value}{fI:Addr}{oI:Obj}{Q:Fin→Shared→Prop}
  (hC:h.get? C=some (excClassObj nm q C N bs bm hdct sn sub ab col dd k0 k1 k2 k3 k5 newId)) (hn:h.Ns N mN) (hi:mN "__init__" = some (.ref fI)) (hfI:h.get? fI=some oI) (hfc:oI.cls = .type "function")
  (hq:wpAny (model prog w) A (call (.ref fI) (.ref (h.objs.size+1)::rest)) (fun r s'=>r = .none∧Q (.done (.ret (.ref (h.objs.size+1)))) s') E ⟨QgZ h C rest,g,d,t,os⟩) (hrest:rest.length≤sizeLine) :
  wpAny (model prog w) A (Builtin.«type.__call__» ⟨.ref C::rest,[]⟩) Q E ⟨h,g,d,t,os⟩:=by
 repeat (first | with_reducible refine wpAny_loadPart_at hC ?_ | with_reducible refine wpAny_madeBy_exc hC ?_ | wp_step)
 refine codeAny_call_builtin_code (Code.quiet_builtin _ F.quiet) (wpAny_check_new_subT F T hC ?_);refine codeAny_exc_new_subT F T hC ?_ hrest;show wpAny _ _ _ _ _ _;have hC₁:=zh { cls:=.ref C,data:=.fields #[.ref h.objs.size,.none,.none,.none,.bool false,.none] }
  (zh { cls:=.type "tuple",data:=.seq rest.toArray } hC)
 have hfI₁:=zh { cls:=.ref C,data:=.fields #[.ref h.objs.size,.none,.none,.none,.bool false,.none] }
  (zh { cls:=.type "tuple",data:=.seq rest.toArray } hfI)
 have hn₁:((h.push { cls:=.type "tuple",data:=.seq rest.toArray }).push { cls:=.ref C,data:=.fields #[.ref h.objs.size,.none,.none,.none,.bool false,.none] }).Ns N mN :=
  let ⟨o,es,ep,e,r⟩:=hn; ⟨o,es,ep,zh _ (zh _ e),r⟩
 have hget:((h.push { cls:=.type "tuple",data:=.seq rest.toArray }).push
   { cls:=.ref C,data:=.fields #[.ref h.objs.size,.none,.none,.none,.bool false,.none] }).get? (h.objs.size+1)=some
   { cls:=.ref C,data:=.fields #[.ref h.objs.size,.none,.none,.none,.bool false,.none] }:=by heap_get
 have hcC:(Value.ref C::bm).contains (.ref C)=true:=by simp
 have T₁:=T.keeps (h':=(h.push { cls:=.type "tuple",data:=.seq rest.toArray }).push { cls:=.ref C,data:=.fields #[.ref h.objs.size,.none,.none,.none,.bool false,.none] })
  fun b o e=>zh _ (zh _ e)
 unfold isInstance
 repeat (first | with_reducible refine wpAny_loadPart_at hget ?_ | (with_reducible refine wpAny_isSubtype_exc hC₁ ?_; rw [hcC]) | wp_step)
 show wpAny _ _ (typeLookup (.ref C) _) _ _ _;refine wpAny_typeLookup_tail hC₁ hn₁ T₁ F.mroIs F.init.lookup ?_;rw [hi];refine zK (zc ?_);unfold bindSpecial;refine zc (wpAny_typeOf (T:="function") ⟨_,hfI₁,hfc⟩ ?_);rw [if_pos (by decide)];refine zd (zc (zr hq (fun r s' hr=>?_) fun _ _ x=>x));obtain ⟨rfl,hQ⟩:=hr
 wp_walk
 exact hQ
theorem Qni (F:ExcBaseFacts B newId initId bmB) (T:OwnTail h bmB bm) {mN:Str→Option Value}{rest:List Value}{fI:Addr}{oI:Obj}{Q:Value→Shared→Prop}
  (hC:h.get? C=some (excClassObj nm q C N bs bm hdct sn sub ab col dd k0 k1 k2 k3 k5 newId)) (hn:h.Ns N mN) (hi:mN "__init__" = some (.ref fI)) (hfI:h.get? fI=some oI) (hfc:oI.cls = .type "function")
  (hq:wpAny (model prog w) (A.under (.builtin "type.__call__" ⟨.ref C::rest,[]⟩)) (call (.ref fI) (.ref (h.objs.size+1)::rest)) (fun r s'=>r = .none∧Q (.ref (h.objs.size+1)) s') E ⟨QgZ h C rest,g,d,t,os⟩) (hrest:rest.length≤sizeLine) :
  wpAny (model prog w) A (call (.ref C) rest) Q E ⟨h,g,d,t,os⟩:=by
 have f1:=tc_lookup;have f2:=tc_bind (.ref C);have hT:(⟨h,g,d,t,os⟩:Shared).TypeIs (.ref C) "type":=⟨_,hC,rfl⟩;refine zU (codeAny_of_tree ?_);show wpAny _ _ (callAny (.ref C) _) _ _ _
 repeat (any_goals (first | assumption | with_reducible refine wpAny_loadPart_at hC ?_ | wp_step))
 refine ⟨rfl,?_⟩;exact codeAny_call_builtin_at (Code.quiet_builtin _ (by decide +kernel)) entry_typeCall (wpAny_check_type_call_sub hC (Qi8 F T hC hn hi hfI hfc hq hrest))
theorem Qkr {M:Model}{env:Env}{s:Shared}{x:Sem Value}{Q:Flow→Shared→Prop} (hbase:bm.contains (.type "BaseException")=true) (hh:A.handled=none)
  (h:wpAny M A x (fun v s₁=>∃e t dxo,v = .ref e∧s₁.heap.get? C=some (excClassObj nm q C N bs bm hdct sn sub ab col dd k0 k1 k2 k3 k5 newId)∧s₁.heap.get? e=some (QeN C t dxo)∧E (.ref e) s₁) E s) :
  wpAny M A (raiseStmt env (some x) none) Q E s:=by
 have hcB:(Value.ref C::bm).contains (.type "BaseException")=true:=by rw [List.contains_cons,hbase,Bool.or_true]
 unfold raiseStmt;refine zc (zr h (fun v s₁ h₁=>?_) fun _ _ x=>x);obtain ⟨e,t,dxo,rfl,hC,he,hE⟩:=h₁;unfold QeN at he;obtain ⟨hp,g,d,tk,os⟩:=s₁
 repeat (first | with_reducible refine wpAny_loadPart_at he ?_ | with_reducible refine wpAny_loadPart_at hC ?_ | (with_reducible refine wpAny_isSubtype_exc hC ?_; rw [hcB]) | wp_step)
 exact wpAny_raiseNew_none hh hE
theorem Qrb {K:Frag}{x:Addr}{ox:Obj}{name:Str}{tk:Tok}{v:Value}{cd:ClassData}{Q:Fin→Shared→Prop} (X:K.In h) (hx:h.get? x=some ox) (hc:ox.cls = .ref C) (hnd:ox.dict=none) (hda:∃ws,ox.data = .fields ws)
  (hcd:clsIn K C=some cd) (hhd:cd.hasDict=true) (hrf:refuseLoop (.ref x) "__setattr__" cd.mro=pure ()) (hna:findIn K (.ref C) name=some none)
  (hq:∀h' tk',h'.Ns1 h.objs.size (fun y=>if y=name then some v else none)→h'.get? x=some { ox with dict:=some h.objs.size }→(∀b o,b≠x→h.get? b=some o→h'.get? b=some o)→Q (.done (.ret .none)) ⟨h',g,d,tk',os⟩) :
  wpAny (model prog w) A (Builtin.«object.__setattr__» ⟨[.ref x,.str name tk,v],[]⟩) Q E ⟨h,g,d,t,os⟩:=by
 obtain ⟨ws,hda⟩:=hda;have L0:Looks (model prog w) h (typeOf (.ref x)) (.ref C):=hc ▸ (Looks.ld hx).andThen .now;have hm:Looks (model prog w) h (mroOf (.ref C)) cd.mro:=(looks_clsIn X hcd).andThen .now;have L2:=looks_findIn (M:=model prog w) X hna;rw [osa_eq,refuse_eq];refine zc (zc (L0.at (zc (hm.at ?_))));rw [hrf];refine zd (zc (L0.at (zc (L2.at (zc (zd ?_))))));show wpAny _ _ (storeInOwnDict _ _ _ _ _ _) _ _ _;unfold storeInOwnDict;refine zc (zd (zc ?_));unfold ownDictForStores instanceDict;dsimp only;refine zc (wpAny_loadPart hx ?_);obtain ⟨oc,odi,oda,osl⟩:=ox;dsimp only at hc hnd hda
 subst hc hnd hda;refine zc ((looks_clsIn X hcd).at ?_);rw [hhd];rw [if_neg (by decide),if_neg (by simp [typeHasDict])];have hx₁:=zh { cls:=.type "dict",data:=.dict #[] } hx;have hxs:x≠h.objs.size:=zq (zf hx);refine zc (wpAny_alloc' ?_);refine zc (wpAny_update' hx₁ ?_);refine zd ?_;have hgd:((h.push { cls:=.type "dict",data:=.dict #[] }).update x fun o=>{ cls:=o.cls,dict:=some h.objs.size,data:=o.data,slots:=o.slots }).get? h.objs.size=some { cls:=.type "dict",data:=.dict #[] } :=
  (Heap.get?_update_ne _ _ _ _ hxs.symm).trans (Heap.get?_push_at rfl rfl)
 have hnd:((h.push { cls:=.type "dict",data:=.dict #[] }).update x fun o=>{ cls:=o.cls,dict:=some h.objs.size,data:=o.data,slots:=o.slots }).Ns h.objs.size (fun _=>none) :=
  ⟨_,#[],_,hgd,rfl,fun e he=>absurd he (by simp),fun _=>rfl⟩
 show wpAny _ _ (storeInDict h.objs.size (.str name tk) name v) _ _ _;unfold storeInDict newKeyGuard;refine zc (zd (zc (wpAny_nsSet1 (Heap.Ns1.of_empty hnd) fun h' hn' hs=>?_)));obtain ⟨oD,esD,epD,hoD,hdD,hcD⟩:=hn'.count (Within.cons name v Within.nil);refine zc (wpAny_lookBehind hoD (by rw [hdD]; exact pastItsLine_dict (zB hcD (by rw [zJ,List.length_nil,sizeLine_eq]; omega))) ?_)
 wp_walk
 refine hq h' _ hn' ((hs.2 x hxs).trans (Heap.get?_update_self _ hx₁ rfl)) fun b ob hbx hb=>?_
 exact (hs.2 b (zq (zf hb))).trans ((Heap.get?_update_ne _ _ _ _ hbx).trans (zh _ hb))
end
def xoK (C t ea:Addr) (dxo:Option Addr):HO:=.ext fun h=>h.get? ea=some (QeN C t dxo)
theorem Qn2 {P:Program}{w:World}{H:Hp}{h:Heap}{C t ea:Addr}{dxo:Option Addr} (e:h.get? ea=some (QeN C t dxo)):Qbb P w H h ea (xoK C t ea dxo):=⟨e,⟨_,e⟩,fun _ _ z k=>k _ z⟩
theorem QoH {P:Program}{w:World}{H:Hp}{h:Heap}{C t ea:Addr}{dxo:Option Addr} (q:Qbb P w H h ea (xoK C t ea dxo)):h.get? ea=some (QeN C t dxo):=q.1
def spI (C:Addr) (name:Str):Sp:=fun vs H Q _=>∃ea t v,vs = [.ref ea,v]∧H ea=some (xoK C t ea none)∧∀dx od,H dx=none→dx≠ea→Q .non (upd (upd H dx (.frz od (.xd [(name,v)]))) ea (xoK C t ea (some dx)))
structure QkZ (K:Frag) (C fI:Addr) (name:Str):Prop where
 cl:Qht K C bmV "ValueError.__new__" fI=true
 sa:findIn K (.ref C) "__setattr__" = some (some (.builtin "object.__setattr__"))
 na:findIn K (.ref C) name=some none
 ob:mroIn K C (.type "object")=some true
section
variable {X:Cx}{pins:List (Addr×Obj)}{σ:St}{H:Hp}{s:Shared}{ea C fI t:Addr}{name:Str}{v:V}{u:Value}
theorem Qrd {A:Around}{E:Value→Shared→Prop}{Q:Unit→Shared→Prop} (I:Inv X pins σ H s) (Z:QkZ X.K C fI name) (e:H ea=some (xoK C t ea none)) (rv:RelV v u)
  (hq:∀dx od s',H dx=none→dx≠ea→Inv X pins σ (upd (upd H dx (.frz od (.xd [(name,v)]))) ea (xoK C t ea (some dx))) s'→Q () s'):wpAny (model X.prog X.w) A (setAttr (.ref ea) name u) Q E s:=by
 have hx:=QoH (I.hok ea _ e);obtain ⟨bm,N,nm,qn,bs,sn,sub,ab,col,dd,k0,k1,k2,k3,k5,lk,ht,_,_⟩:=Qlx Z.cl;have SF:=PySem.F.store_object
 obtain ⟨cd,hcl,hm,hhd⟩:∃cd,clsIn X.K C=some cd∧cd.mro = .ref C::bm∧cd.hasDict=true:=by
  refine ⟨_,by unfold clsIn; rw [show X.K.lookup C=_ from lk],rfl,rfl⟩
 refine set_plain (od:=none) I.kIn ⟨hx,rfl,rfl,trivial⟩ Z.sa ?_;have L0:Looks (model X.prog X.w) s.heap (isInstance (.ref ea) (.type "object")) true:=(show Looks (model X.prog X.w) s.heap (typeOf (.ref ea)) (.ref C) from (Looks.ld hx).andThen .now).andThen (looks_mroIn I.kIn Z.ob);refine codeAny_call_builtin SF.slot.plain SF.entry (@check_slot (model X.prog X.w) _ _ { s with toks:=s.toks+1 } "object.__setattr__" "object" "__setattr__" (.ref ea) [.str name s.toks,u] [] _ SF.kind SF.split L0 (SF.args (.ref ea) (.str name s.toks) u) ?_)
 refine Qrb I.kIn hx rfl rfl ⟨_,rfl⟩ hcl hhd (by rw [hm,refuseLoop_ref]; exact Qis _ ht) Z.na fun h' tk' hns hex hk=>?_
 show Q () _;have hfr:H s.heap.objs.size=none:=I.hok.fresh (ze _);have hne:s.heap.objs.size≠ea:=(zq (zf hx)).symm;obtain ⟨od,es,ep,hod,hr⟩:=id hns;refine hq s.heap.objs.size od _ hfr hne (I.un ⟨fun b o q n _ _=>?_,fun b o q n _ _=>?_,fun b o q n _=>?_,fun b o q _=>?_,fun b xs q=>?_,fun b o u' q=>?_,fun b ps q=>?_⟩ fun b o q=>?_)
 ·exact hk b o (fun z=>by rw [z,e] at n; cases n) q
 ·exact ⟨o.slots,hk b o (fun z=>by rw [z,e] at n; cases n) q⟩
 ·rw [Qah (fun z=>by rw [z,e] at n; cases n),Qah (zq (zf q))];exact n
 ·by_cases z:b=ea
  ·exact ⟨_,z ▸ hex⟩
  ·exact ⟨o,hk b o z q⟩
 ·rw [Qah (fun z=>by rw [z,e] at q; cases q),Qah (fun z=>by rw [z,hfr] at q; cases q)];exact q
 ·rw [Qah (fun z=>by rw [z,e] at q; cases q),Qah (fun z=>by rw [z,hfr] at q; cases q)];exact q
 ·refine ⟨#[],?_⟩;rw [Qah (fun z=>by rw [z,e] at q; cases q),Qah (fun z=>by rw [z,hfr] at q; cases q),Array.append_empty];exact q
 ·by_cases z:b=ea
  ·subst z;rw [Qay] at q;cases q;exact Qn2 hex
  ·rw [Qah z] at q
   by_cases y:b=s.heap.objs.size
   ·subst y;rw [Qay] at q;cases q;refine ⟨hod,_,hns,fun f=>?_⟩
    by_cases hf:f=name
    ·rw [if_pos hf,hf];show QcI (List.lookup name [(name,v)]) _;rw [show List.lookup name [(name,v)]=some v by simp [List.lookup]];exact rv
    ·have hb:(f == name)=false:=beq_eq_false_iff_ne.mpr hf;rw [if_neg hf,show List.lookup f [(name,v)]=none by simp only [List.lookup,hb]];exact True.intro
   ·rw [Qah y] at q
    refine (I.hok b o q).stay (fun b' u' hb' q'=>hk b' u' (fun x=>?_) q') (fun b' q'=>?_) fun b' xs q'=>?_
    ·rcases hb' with rfl | hb'
     ·exact z x
     ·rw [x,e] at hb';cases hb'
    ·rw [Qah (fun x=>by rw [x,e] at q'; cases q'),Qah (fun x=>by rw [x,hfr] at q'; cases q')];exact q'
    ·rw [Qah (fun x=>by rw [x,e] at q'; cases q'),Qah (fun x=>by rw [x,hfr] at q'; cases q')];exact q'
def Qvt (C:Addr) (name:Str):TS:=fun D σ H=>∃ea t v,σ[0]? = some (some (.ref ea))∧σ[1]? = some (some v)∧H ea=some (xoK C t ea none)∧∀dx od,H dx=none→dx≠ea→D.nx σ (upd (upd H dx (.frz od (.xd [(name,v)]))) ea (xoK C t ea (some dx)))
theorem QrR {sf pn:Str}{p1 p2 p3 p4:Pos} (Z:QkZ X.K C fI name) (h0:X.N[0]? = some sf) (h1:X.N[1]? = some pn) (v0:Vis X.env.scope sf) (v1:Vis X.env.scope pn) (d0:(sf == ("__debug__":Str))=false) (d1:(pn == ("__debug__":Str))=false) (c0:(sf == ("__classdict__":Str))=false) (c1:(pn == ("__classdict__":Str))=false)
  (hs:swapsWith (.Name pn p3) (some (.Attribute (.Name sf p1) name p2)) p4.line X.env=pure false):PS X (.Assign [.Attribute (.Name sf p1) name p2] (.Name pn p3) p4) (Qvt C name):=by
 intro pins s σ H D I q;obtain ⟨ea,t,v,e0,e1,eh,k⟩:=q;refine plainObj_wpAny_Assign_Attribute (thn (QeQ (i:=1) h1 v1 d1 c1 pins s σ H (fun v' H1=>v'=v∧H1=H) I ⟨v,e1,rfl,rfl⟩) fun u s1 z=>?_) hs;obtain ⟨_,_,I1,ru,rfl,rfl⟩:=z
 refine thn (QeQ (i:=0) h0 v0 d0 c0 pins s1 σ _ (fun v' H1=>v' = .ref ea∧H1=_) I1 ⟨.ref ea,e0,rfl,rfl⟩) fun ov s2 z=>?_
 obtain ⟨_,_,I2,ro,rfl,rfl⟩:=z;obtain rfl:ov=Value.ref ea:=ro
 exact Qrd I2 Z eh ru fun dx od s3 n1 n2 I3=>⟨σ,_,I3,k dx od n1 n2⟩
theorem Inv.dropH {H':Hp}{φ:Heap→Prop} (I:Inv X pins σ H s) (he:H ea=some (.ext φ)) (h1:∀b,b≠ea→H' b=H b) (h2:H' ea=none):Inv X pins σ H' s:=by
 have nn:∀b,H b=none→H' b=none:=fun b n=>by
  by_cases z:b=ea
  ·rw [z]; exact h2
  ·rw [h1 b z]; exact n
 have ne:∀b o,H b=some o→(∀φ,o≠.ext φ)→H' b=some o:=fun b o q n=>by
  rw [h1 b fun z=>by rw [z,he] at q; cases q; exact n _ rfl];exact q
 refine ⟨I.ok,I.os,I.bare,⟨I.base.keep,I.base.slot,fun b o q n hx=>nn b (I.base.free b o q n hx),I.base.there,fun b xs q=>ne b _ (I.base.tups b xs q) (fun _ z=>nomatch z),fun b o u q=>ne b _ (I.base.frzs b o u q) (fun _ z=>nomatch z),fun b ps q=>?_⟩,I.loc,I.cell,nn _ I.free,fun x c q=>nn _ (I.freeC x c q),fun p hp=>?_,fun b o q=>?_,I.len⟩
 ·obtain ⟨more,q'⟩:=I.base.tbls b ps q;exact ⟨more,ne b _ q' fun _ z=>nomatch z⟩
 ·obtain ⟨e,n,nl,nf,d⟩:=I.pin p hp;exact ⟨e,nn _ n,nl,nf,d⟩
 ·have hb:b≠ea:=fun z=>by rw [z,h2] at q; cases q
  rw [h1 b hb] at q
  exact (I.hok b o q).stay (fun _ _ _ e=>e) (fun b' q'=>ne b' _ q' fun _ z=>nomatch z) fun b' xs q'=>ne b' _ q' fun _ z=>nomatch z
end
def QiJ (P:Program) (w:World) (K:Frag) (mg:Str→Option Value) (base:Heap) (c name:Str) (k:Nat):Prop :=
 ∃(C fI:Addr) (fd:FuncData) (ps:List Str),mg c=some (.ref C)∧QkZ K C fI name∧isFn K (.ref fI)=true∧Binds K fd ps []∧Qbp P w K mg base CX0 k fI fd ps (spI C name)
section
variable {Pr:Program}{w:World}{K:Frag}{mg:Str→Option Value}{base:Heap}
theorem Qvk {c name qual sf pn:Str}{st:Stmt}{C fI:Addr}{fd:FuncData}{p1 p2 p3 p4:Pos} (hC:mg c=some (.ref C)) (Z:QkZ K C fI name) (hf:isFn K (.ref fI)=true) (Fn:Fun K "__init__" qual st fI fd) (S:QaI [sf,pn] [sf,pn] (Qaj st))
  (hb:∀(kV doc pm:Value) (an:Option Addr) (cdv ct:Value) (us:List Value),us.length = [sf,pn].length→bindArgs (PySem.W.fnOf "__init__" qual (QbD st) (QaX st) (Qaj st) .none kV doc pm an cdv ct) ⟨us,[]⟩=pure ([sf,pn].zip us))
  (hbo:QaX st = [.Assign [.Attribute (.Name sf p1) name p2] (.Name pn p3) p4]) (v0:Vis (Qaj st) sf) (v1:Vis (Qaj st) pn) (d0:(sf == ("__debug__":Str))=false) (d1:(pn == ("__debug__":Str))=false) (c0:(sf == ("__classdict__":Str))=false) (c1:(pn == ("__classdict__":Str))=false)
  (hs:∀L f cdv,swapsWith (.Name pn p3) (some (.Attribute (.Name sf p1) name p2)) p4.line (envOfC qual (Qaj st) L f cdv)=pure false):QiJ Pr w K mg base c name 1:=by
 have hbi:=Fn.binds hb;obtain ⟨oc,od,kV,doc,pmv,an,cdv,ct,osl,rfl,lk,hcd⟩:=Fn.ex;refine ⟨C,fI,_,_,hC,Z,hf,hbi,Qns lk hcd S (fun vs H Q E h=>?_) fun A outer s H vs Q E hr h=>?_⟩
 ·obtain ⟨ea,t,v,rfl,_⟩:=h;rfl
 ·obtain ⟨ea,t,v,rfl,e,k⟩:=h;rw [hbo];exact ⟨_,Qmh (QrR (X:=Qcy CX0 Pr w K mg base [sf,pn] qual (Qaj st) fI cdv A outer s H E) Z rfl rfl v0 v1 d0 d1 c0 c1 (hs _ _ _)),ea,t,v,rfl,rfl,e,k⟩
end
section
variable {prog:Program}{w:World}{A:Around}{E:Value→Shared→Prop}{s:Shared}{env:Env}
variable {nm q:Str}{C N:Addr}{bs bm:List Value}{hdct:Bool}{sn:List Str}{sub:List Value}{ab:Bool}{col:Option Bool}{dd:Option Addr}{k0 k1 k2 k3 k5:Option Value}{newId:String}
theorem Ql3 {x:Str}{np cpos pos:Pos}{args:List Expr}{Q:Flow→Shared→Prop} (hbase:bm.contains (.type "BaseException")=true) (hh:A.handled=none) (hplain:(backTo cpos (starEach args env)).any (·.1)=false)
  (h:wpAny (model prog w) A (eval (.Name x np) env) (fun f s₁=>f = .ref C∧wpAny (model prog w) A (evalArgs (.ref C) true (backTo cpos (starEach args env)) [])
   (fun a s₂=>a.kw = []∧s₂.heap.get? C=some (excClassObj nm q C N bs bm hdct sn sub ab col dd k0 k1 k2 k3 k5 newId)∧wpAny (model prog w) A (call (.ref C) a.pos) (fun v s₃=>∃e t dxo,v = .ref e∧s₃.heap.get? C=some (excClassObj nm q C N bs bm hdct sn sub ab col dd k0 k1 k2 k3 k5 newId)∧s₃.heap.get? e=some (QeN C t dxo)∧E (.ref e) s₃) E s₂) E s₁) E s) :
  wpAny (model prog w) A (exec (.Raise (some (.Call (.Name x np) args [] cpos)) none pos) env) Q E s:=by
 rw [arm_exec_Raise]
 first
  | refine zc (wpAny_standAt (Qkr (C:=C) (nm:=nm) (q:=q) (N:=N) (bs:=bs) (bm:=bm) (hdct:=hdct) (sn:=sn) (sub:=sub) (ab:=ab) (col:=col) (dd:=dd) (k0:=k0) (k1:=k1) (k2:=k2) (k3:=k3) (k5:=k5) (newId:=newId) hbase hh (zc (zr (wpAny_Call_ofName (zr h (fun f s₁ h₁=>?_) fun _ _ x=>x)) (fun v s₃ h₃=>zc (wpAny_standAt (zd h₃))) fun _ _ x=>x))))
  | (simp only [evalOpt,Option.map]; refine zc (wpAny_standAt (Qkr (C:=C) (nm:=nm) (q:=q) (N:=N) (bs:=bs) (bm:=bm) (hdct:=hdct) (sn:=sn) (sub:=sub) (ab:=ab) (col:=col) (dd:=dd) (k0:=k0) (k1:=k1) (k2:=k2) (k3:=k3) (k5:=k5) (newId:=newId) hbase hh (zc (zr (wpAny_Call_ofName (zr h (fun f s₁ h₁=>?_) fun _ _ x=>x)) (fun v s₃ h₃=>zc (wpAny_standAt (zd h₃))) fun _ _ x=>x)))))
 obtain ⟨rfl,h₁⟩:=h₁;unfold callWith;refine zc (zK (zr h₁ (fun a s₂ h₂=>zc (wpAny_standAt ?_)) fun _ _ x=>x));obtain ⟨apos,akw⟩:=a;obtain ⟨hkw,hC,h₂⟩:=h₂;obtain rfl:akw = []:=hkw;obtain ⟨hp,g,d,tk,os⟩:=s₂;simp only [hplain];refine zc (wpAny_keeperOf_exc hC ?_);exact zc (zr h₂ (fun v s₃ h₃=>zc (zK (wpAny_point (zd h₃)))) fun _ _ z=>z)
end
section
variable {X:Cx}{md:List Md}{P:Pt}{R:RR}
def QcB (c name:Str) (m:M D):MS:=fun ρ O=>match m ρ O with
 | .ok d O'=>.ex ⟨c,[(name,d)]⟩ O'
 | _=>.no
theorem Qgc {c name:Str}{k:Nat}{p cpos pos:Pos}{a:Expr}{m:M D} (Cn:QiJ X.prog X.w X.K X.mg X.base c name k) (hr:QaG (k+1) X.A) (hc:X.calm=true) (ha:VE X md P a m) (hg:Gl X c:=by rfl) (hd:(c == ("__debug__":Str))=false:=by decide)
  (hs1:starEach [a] X.env=(false,eval a X.env)::starEach [] X.env:=by exact Qbm rfl) (hpl:(backTo cpos (starEach [a] X.env)).any (·.1)=false:=by rfl) :
  VSF X md P R (.Raise (some (.Call (.Name c p) [a] [] cpos)) none pos) (QcB c name m):=by
 intro pins s σ H D I q;obtain ⟨ρ,O,F,as,r,sl,k0⟩:=q;obtain ⟨C,fI,fd,ps,hC,Z,hf,hb,Fn⟩:=Cn;unfold QcB at k0
 cases em:m ρ O with
 | ex x O'=>rw [em] at k0; exact False.elim k0
 | no=>rw [em] at k0; exact False.elim k0
 | ok d O' =>
  rw [em] at k0;dsimp only at k0;obtain ⟨bm,N,nm,qn,bs,sn,sub,ab,col,dd,kk0,kk1,kk2,kk3,kk5,lk,ht,hno,hin⟩:=Qlx Z.cl;refine Ql3 (C:=C) (nm:=nm) (q:=qn) (N:=N) (bs:=bs) (bm:=bm) (hdct:=true) (sn:=sn) (sub:=sub) (ab:=ab) (col:=col) (dd:=dd) (k0:=kk0) (k1:=kk1) (k2:=kk2) (k3:=kk3) (k5:=kk5) (newId:="ValueError.__new__") ((tail_of_in I.kIn ht).hasType PySem.F.excBase_ValueError.hasBase) (I.ok.hd hc) hpl (QfC I hg hC ⟨rfl,?_⟩ hd);have hA:=QbY ha Qdf hs1 cpos pins s σ H (fun vs H1=>∃v F1 as1,vs = [v]∧Gr H F as H1 F1 as1∧RlO X.K X.mg O' H1 F1 as1∧Rp X.K F1 as1 v d) I ⟨ρ,O,F,as,d,O',r,sl,em,fun v H1 F1 as1 g1 r1 hv=>⟨v,F1,as1,rfl,g1,r1,hv⟩⟩
  rw [hs1] at hA ⊢;refine Calls.evalArgs_plain (thn hA fun us s1 z=>?_);obtain ⟨vs,H1,I1,rv,v,F1,as1,rfl,g1,r1,hv⟩:=z;obtain ⟨u,rfl,ru⟩:=vals1 rv;refine ⟨rfl,I1.kIn _ _ lk,?_⟩;have hfr:H1 (s1.heap.objs.size+1)=none:=I1.hok.fresh (Nat.le_succ _)
  have kp:∀b o,s1.heap.get? b=some o→(QgZ s1.heap C [u]).get? b=some o:=fun b o e=>zh _ (zh _ e)
  have hge:(QgZ s1.heap C [u]).get? (s1.heap.objs.size+1)=some (QeN C s1.heap.objs.size none):=by
   unfold QgZ QeN;exact Heap.get?_push_at (by rw [Heap.size_push]) rfl
  have I2:Inv X pins σ (upd H1 (s1.heap.objs.size+1) (xoK C s1.heap.objs.size (s1.heap.objs.size+1) none)) { s1 with heap:=QgZ s1.heap C [u] }:=I1.laid (t':=s1.toks) kp (Nat.le_succ _) (Qn2 hge);have hns:s1.heap.Ns N _:=.of_isNs (isNs_of_in I1.kIn hno);have hfo:typeIn X.K (.ref fI)=some (.type "function"):=beq_iff_eq.mp hf
  obtain ⟨oI,hoI,hoc⟩:∃oI,s1.heap.get? fI=some oI∧oI.cls = .type "function":=by
   obtain ⟨o,ho,hc'⟩:=jl.mp (show (X.K.lookup fI).map (·.cls)=some (.type "function") from hfo);exact ⟨o,I1.kIn _ _ ho,hc'⟩
  obtain ⟨hh,gg,dr,tk,os⟩:=s1;refine Qni PySem.F.excBase_ValueError (tail_of_in I1.kIn ht) (I1.kIn _ _ lk) hns (Qm7 I1.kIn hns hin) hoI hoc ?_ (by rw [sizeLine_eq]; show (1:Nat)≤16777216; decide);have sp:spI C name [.ref (hh.objs.size+1),v] (upd H1 (hh.objs.size+1) (xoK C hh.objs.size (hh.objs.size+1) none)) (fun v' H2=>v' = .non∧∃dx od,upd H1 (hh.objs.size+1) (xoK C hh.objs.size (hh.objs.size+1) none) dx=none∧dx≠hh.objs.size+1∧H2=upd (upd (upd H1 (hh.objs.size+1) (xoK C hh.objs.size (hh.objs.size+1) none)) dx (.frz od (.xd [(name,v)]))) (hh.objs.size+1) (xoK C hh.objs.size (hh.objs.size+1) (some dx))) (fun _ _ _=>False) :=
   ⟨_,_,v,rfl,Qay,fun dx od n1 n2=>⟨rfl,dx,od,n1,n2,rfl⟩⟩
  have hl:=Fn.len _ _ _ _ sp;have bi:=hb { heap:=QgZ hh C [u],gens:=gg,drawn:=dr,toks:=tk,os:=os } [.ref (hh.objs.size+1),u] I2.kIn hl;rw [zP] at bi;refine zU (codeAny_mono (Fn.run _ X.stack _ _ ⟨[.ref (hh.objs.size+1),u],[]⟩ [.ref (hh.objs.size+1),u] [.ref (hh.objs.size+1),v] _ _ (hr.make C [u] []) (I2.env0.make C [u] []) bi (.cons rfl (.cons ru .nil)) sp) fun res s2 hq=>?_)
  cases res with
  | error e=>exact False.elim hq
  | ok fl =>
   cases fl with
   | ret u' =>
    obtain ⟨v',H2,I3,rv',rfl,dx,od,n1,n2,rfl⟩:=I2.after hq;refine ⟨rv',?_⟩;have hx:=QoH (I3.hok (hh.objs.size+1) _ Qay)
    have e1:H1 dx=none:=by rw [Qah n2] at n1; exact n1
    have I4:Inv X pins σ (upd H1 dx (.frz od (.xd [(name,v)]))) s2:=I3.dropH (ea:=hh.objs.size+1) Qay (fun b hb=>by
     rw [Qah hb];unfold upd
     rw [if_neg hb]) (by rw [Qah n2.symm]; exact hfr)
    refine ⟨_,_,_,rfl,I3.kIn _ _ lk,hx,?_⟩;have fN:F1 dx=none:=r1.frF e1;have g2:Gr H1 F1 as1 (upd H1 dx (.frz od (.xd [(name,v)]))) (upd F1 dx (.frz od (.xd [(name,v)]))) as1:=(Gr.lay e1).frz e1 fN;have r2:RlO X.K X.mg O' (upd H1 dx (.frz od (.xd [(name,v)]))) (upd F1 dx (.frz od (.xd [(name,v)]))) as1:=(r1.lay e1).frz Qay fN (fun z=>r1.all z e1) rfl;have wx:=k0 (some dx) _ _ as1 (g1.trans g2).toS r2 (.inr ⟨dx,od,[(name,v)],rfl,Qay,rfl,Rps.cons (Rp.gr hv g2) Rps.nil⟩);refine wx.1 pins σ s2 (hh.objs.size+1) C hC I4 ⟨_,_,_,hx,rfl,rfl,rfl,rfl,rfl,by rw [Qah n2.symm]; exact hfr,Heap.get?_none_of_le (zB I1.sz (Nat.le_succ _))⟩
   | next=>exact False.elim hq
   | brk=>exact False.elim hq
   | cont=>exact False.elim hq
end
end L2
namespace L2
open PySem PySem.Spec PyProof.Rows PySem.W
def Cx.inH (X:Cx) (ea:Addr):Cx:={ X with A:=X.A.mark (some (.ref ea)),calm:=false,xe:=fun _ _=>False }
def xcO (oe:Obj):HO:=.frz oe (.ext fun _=>True)
section
variable {X:Cx}{md:List Md}{P:Pt}{R:RR}{pins:List (Addr×Obj)}{σ:St}{H:Hp}{s:Shared}{ea:Addr}{oe:Obj}
theorem Inv.inH (I:Inv X pins σ H s) (ea:Addr):Inv (X.inH ea) pins σ H s:=by
 have ok:=I.ok;exact ⟨⟨ok.mod,ok.kind,ok.glob,ok.blt,ok.above,ok.inj,ok.has,ok.cab,(fun z=>(nomatch z)),ok.frames,ok.stk,ok.exf,ok.bs,ok.bsz,ok.noex,ok.exfs,ok.funs,ok.frf⟩,I.os,I.bare,I.base,I.loc,I.cell,I.free,I.freeC,I.pin,I.hok,I.len⟩
theorem Inv.outH (ok:X.Ok) (I:Inv (X.inH ea) pins σ H s):Inv X pins σ H s:=⟨ok,I.os,I.bare,I.base,I.loc,I.cell,I.free,I.freeC,I.pin,I.hok,I.len⟩
theorem Inv.trackX {ws:Array Value} (I:Inv X pins σ H s) (he:s.heap.get? ea=some oe) (hd:oe.data = .fields ws) (hn:H ea=none) (h0:X.s₀.heap.get? ea=none) (hl:ea≠X.env.locals) (hp:∀p∈X.pn++pins,p.1≠ea):Inv X pins σ (upd H ea (xcO oe)) s:=by
 have ne:∀b o,H b=some o→upd H ea (xcO oe) b=some o:=fun b o q=>by
  rw [Qah (Qaw q hn)];exact q
 refine ⟨I.ok,I.os,I.bare,⟨I.base.keep,I.base.slot,fun b o q n hx=>?_,I.base.there,fun b xs q=>ne b _ (I.base.tups b xs q),fun b o u q=>ne b _ (I.base.frzs b o u q),fun b ps q=>?_⟩,I.loc,I.cell,?_,fun x c q=>?_,fun p hp'=>?_,fun b o q=>?_,I.len⟩
 ·rw [Qah (fun z=>by rw [z,h0] at q; cases q)];exact I.base.free b o q n hx
 ·obtain ⟨more,q'⟩:=I.base.tbls b ps q;exact ⟨more,ne b _ q'⟩
 ·rw [Qah hl.symm];exact I.free
 ·rw [Qah (fun z=>?_)]
  ·exact I.freeC x c q
  ·obtain ⟨v,o,ho,hc⟩:=I.cell x c q;rw [z,he] at ho;cases ho;rw [hd] at hc;cases hc
 ·obtain ⟨e,n,nl,nf,d⟩:=I.pin p hp';exact ⟨e,by rw [Qah (hp p hp')]; exact n,nl,nf,d⟩
 ·by_cases z:b=ea
  ·subst z;rw [Qay] at q;cases q;exact ⟨he,True.intro,⟨_,he⟩,fun _ _ _ _=>True.intro⟩
  ·rw [Qah z] at q
   exact (I.hok b o q).stay (fun _ _ _ e=>e) (fun b' q'=>ne b' _ q') fun b' xs q'=>ne b' _ q'
def D3F (D:Ends) (i:Nat):Ends:={ nx:=fun σ' H'=>D.nx (σ'.set i none) H',rt:=D.rt }
def HsF (X:Cx) (D:Ends) (σ:St) (H:Hp) (ea C:Addr) (dxo:Option Addr):List ExceptHandler→Prop
 | .ExceptHandler (some (.Name T p)) (some n) (b₀::suite) pos::rest=>∃A,X.mg T=some (.ref A)∧Gl X T∧(T == ("__debug__":Str))=false ∧
   ((exmOne X.K (.ref C) (.ref A)=some false∧HsF X D σ H ea C dxo rest)∨(exmOne X.K (.ref C) (.ref A)=some true∧∃i,X.N[i]? = some n∧X.env.kindOf n=some .local ∧
    ∀oe:Obj,oe.cls = .ref C→oe.dict=dxo→(∃ws,oe.data = .fields ws)→∃t,PSs (X.inH ea) (b₀::suite) t∧t (D3F D i) (σ.set i (some (.ref ea))) (upd H ea (xcO oe))))
 | _=>False
theorem QrL {D:Ends}{B:Heap}{C:Addr}{a0:Value}{dxo:Option Addr} (hst:X.stack=X.env::X.outer) (hfr:X.env.frame=some X.env.locals) (hN:X.N.Nodup) (hn:H ea=none) (h0:X.s₀.heap.get? ea=none) (hp:∀p∈X.pn++pins,p.1≠ea)
  (inv:∀h2:Heap,B.StaysIn h2→s.heap.UpToSlots h2→Inv X pins σ H { s with heap:=h2 }) (fl:Heap.FlyingW B (X.env::X.outer) ea (.ref C) a0 s.heap) (hdi:∃oe,s.heap.get? ea=some oe∧oe.dict=dxo) :
  ∀{hs:List ExceptHandler},HsF X D σ H ea C dxo hs→wpAny (model X.prog X.w) X.A (handleBy (.ref ea) X.env hs) (SP X pins D) X.xe s:=by
 have apart:∀(h2:Heap) (oe:Obj) (ws:Array Value),h2.FunFrames B (X.env::X.outer)→h2.get? ea=some oe→oe.data = .fields ws→ea≠X.env.locals:=fun h2 oe ws ff he hd z=>by
  have hb:X.env.locals∈(X.env::X.outer).filterMap (·.frame):=by
   rw [List.filterMap_cons,hfr];exact zz
  obtain ⟨_,o,ho,nf⟩:=ff.mem hb;rw [←z,he] at ho;cases ho;exact nf ws hd
 have I2:Inv X pins σ H s:=inv s.heap fl.1 (Heap.UpToSlots.refl _)
 obtain ⟨oe,ws,hoe,hoec,hoed,_⟩:=fl.first
 intro hs
 induction hs with
 | nil=>exact fun h=>False.elim h
 | cons hd rest ih =>
  intro h;unfold HsF at h;split at h
  ·rename_i T p n b₀ suite pos rest' eq;cases eq;obtain ⟨A,hT,hgT,hTd,h⟩:=h;refine wpAny_handleBy_cons (codeAny_handlers_test ?_) (by intro q; cases q);refine QfC (X:=X.inH ea) (I2.inH ea) hgT hT ?_ hTd
   rcases h with ⟨hex,h⟩ | ⟨hex,i,hi,hlo,k⟩
   ·refine (exm_one I2.kIn (hoec ▸ (Looks.ld hoe).andThen .now) hex).at ?_;exact ih h
   ·refine (exm_one I2.kIn (hoec ▸ (Looks.ld hoe).andThen .now) hex).at ?_;refine codeAny_handlers_suite_as ?_
    refine zr (QfV (QfT _ _) (lands_againW (Q:=fun _ s2=>∃h3,s2 = { s with heap:=h3 }∧Heap.FlyingW B (X.env::X.outer) ea (.ref C) a0 h3∧s.heap.UpToSlots h3) fl fun h3 fl3 up3=>⟨h3,rfl,fl3,up3⟩)) (fun _ s2 z=>?_) fun _ _ z=>z.1
    obtain ⟨⟨h3,rfl,fl3,up3⟩,dk⟩:=z;have I3:=inv h3 fl3.1 up3
    obtain ⟨oe3,ws3,hoe3,hoec3,hoed3,_⟩:=fl3.first
    obtain ⟨oeD,hoeD,hdi⟩:=hdi;obtain ⟨oe4,hoe4,hd4⟩:=dk ea oeD hoeD;have e4:oe4=oe3:=zL (hoe4.symm.trans hoe3);subst e4;have nl3:=apart h3 oe4 ws3 fl3.2.2.1 hoe3 hoed3;have I3x:=(I3.trackX hoe3 hoed3 hn h0 nl3 hp).inH ea;obtain ⟨t,hs,ht⟩:=k oe4 hoec3 (hd4.trans hdi) ⟨ws3,hoed3⟩;refine QgV (X:=X.inH ea) (v:=.ref ea) I3x hN hi (.inl hlo) rfl (fun s4 I4=>?_) (.inr hlo);refine zr (hs pins s4 _ _ (D3F D i) I4 ht) (fun f s5 sp=>?_) (fun _ _ z=>z.elim)
    cases f with
    | next =>
     obtain ⟨σ5,H5,I5,q5⟩:=sp;have J:=I5.outH I2.ok;obtain ⟨m,hm,hl⟩:=J.loc
     refine wpAny_nameGoes_keeps hlo hm (by rw [I2.ok.kind]; rfl) fun h6 v hm6 hs6=>?_
     exact ⟨_,H5,J.goneI hN hi hl hm6 hs6,q5⟩
    | ret u =>
     obtain ⟨v,σ5,H5,I5,r5,q5⟩:=sp;have J:=I5.outH I2.ok;obtain ⟨m,hm,_⟩:=J.loc
     refine wpAny_nameGoes hlo hm (by rw [I2.ok.kind]; rfl) fun h6 m6 hm6 hs6=>?_
     exact ⟨v,_,H5,J.gone hm6 hs6,r5,q5⟩
    | brk=>obtain ⟨_,_,_,q⟩:=sp; exact q.elim
    | cont=>obtain ⟨_,_,_,q⟩:=sp; exact q.elim
  ·exact False.elim h
theorem QtV {E:XK}{e:Value}{s':Shared}{D:Ends}{hs:List ExceptHandler} (I:Inv X pins σ H s) (hx:CXF X.prog X.w X.stack H s E e s') (hst:X.stack=X.env::X.outer) (hfr:X.env.frame=some X.env.locals) (hN:X.N.Nodup) (hex:X.ex = [])
  (k:∀(ea C:Addr) (dxo:Option Addr) (H':Hp),E (.ref C) dxo H'→H' ea=none→HsF X D σ H' ea C dxo hs) :
  wpAny (model X.prog X.w) X.A (noteFrame e X.env) (fun _ s₂=>wpAny (model X.prog X.w) X.A (setFlight e none) (fun _ s₃=>wpAny (model X.prog X.w) X.A (handleBy e X.env hs) (SP X pins D) X.xe s₃) X.xe s₂) X.xe s':=by
 obtain ⟨ea,C,H',B,a0,dxo,rfl,hos,hbare,un,hok,fl,trk,old,⟨oe,hoe,hdi⟩,hE⟩:=hx;have fl':=fl;rw [hst] at fl';have frames:=I.ok.frames;rw [hst] at frames
 have hn:H' ea=none:=by
  cases q:H' ea with
  | none=>rfl
  | some u =>
   obtain ⟨o,z⟩:=trk ea u q;rw [fl.2.1] at z;cases z
 have nfr:ea∉frs X.stack:=fun z=>by
  obtain ⟨oe2,ws,he2,_,hd,_⟩:=fl.first
  obtain ⟨_,o,ho,nf⟩:=fl.2.2.1.mem z;rw [he2] at ho;cases ho;exact nf ws hd
 have hold:s.heap.get? ea=none:=by
  cases q:s.heap.get? ea with
  | none=>rfl
  | some o =>
   obtain ⟨o',z⟩:=old ea o q nfr;rw [fl.2.1] at z;cases z
 have h0:X.s₀.heap.get? ea=none:=by
  cases q:X.s₀.heap.get? ea with
  | none=>rfl
  | some o =>
   obtain ⟨o',z⟩:=I.base.there ea o q (by rw [hex]; exact fun z=>nomatch z);rw [hold] at z;cases z
 have hp:∀p∈X.pn++pins,p.1≠ea:=fun p hp z=>by
  have q:=(I.pin p hp).1;rw [z,hold] at q;cases q
 have inv:∀h2:Heap,B.StaysIn h2→s'.heap.UpToSlots h2→Inv X pins σ H' { s' with heap:=h2 }:=fun h2 hb up=>I.call' (s':={ s' with heap:=h2 }) (ch:=[]) hos (QoZ un fl.1 fl.2.2.1 old hb up) (Qoc hok trk fl.1 hb) hbare fun _ z=>nomatch z
 refine zr (QfV (QmG _ _) (wpAny_looks_onW (Q:=fun _ s2=>∃h1,s2 = { s' with heap:=h1 }∧Heap.HeldW B (X.env::X.outer) ea (.ref C) a0 X.env.locals h1∧s'.heap.UpToSlots h1) frames hfr fl' fun h1 held up1=>⟨h1,rfl,held,up1⟩)) (fun _ s2 z=>?_) fun _ _ z=>z.1
 obtain ⟨⟨h1,rfl,held,up1⟩,dk1⟩:=z
 refine zr (QfV (QfT _ _) (wpAny_landsW (s:={ s' with heap:=h1 }) (Q:=fun _ s2=>∃h2,s2 = { s' with heap:=h2 }∧Heap.FlyingW B (X.env::X.outer) ea (.ref C) a0 h2∧h1.UpToSlots h2) held fun h2 fl2 up2=>⟨h2,rfl,fl2,up2⟩)) (fun _ s3 z=>?_) fun _ _ z=>z.1
 obtain ⟨⟨h2,rfl,fl2,up2⟩,dk2⟩:=z;obtain ⟨oe1,e1,d1⟩:=dk1 ea oe hoe;obtain ⟨oe2,e2,d2⟩:=dk2 ea oe1 e1;exact QrL (s:={ s' with heap:=h2 }) hst hfr hN hn h0 hp (fun h3 hb up=>inv h3 hb ((up1.trans up2).trans up)) fl2 ⟨oe2,e2,(d2.trans d1).trans hdi⟩ (k ea C dxo H' hE hn)
end
end L2
namespace L2
open PySem PySem.Spec PyProof.Rows PySem.W PySem.Calls PySem.Builtin PySem.Builtin.ObjectAttr
section
variable {X:Cx}{md:List Md}{P:Pt}{R:RR}
theorem QrH {k:Nat}{f:Addr}{fd:FuncData}{ps:List Str}{sp:Sp}{E:XK}{W:Value→Shared→Prop}{pins:List (Addr×Obj)}{σ:St}{H:Hp}{s:Shared}{Q:VK}{us:List Value}{vs:List V} (F:Qbp X.prog X.w X.K X.mg X.base (CXF X.prog X.w) k f fd ps sp) (hr:QaG k X.A) (hb:Binds X.K fd ps [])
  (I:Inv X pins σ H s) (r:Qax vs us) (h:sp vs H Q E) (hx:∀e s',CXF X.prog X.w X.stack H s E e s'→W e s'):wpAny (model X.prog X.w) X.A (call (.ref f) us) (EP X pins σ Q) W s:=by
 have hl:us.length=ps.length:=by rw [←r.length]; exact F.len _ _ _ _ h
 have bi:=hb s us I.kIn (by rw [zP]; exact hl);rw [zP] at bi;refine zU (codeAny_mono (F.run X.A X.stack s H ⟨us,[]⟩ us vs Q E hr I.env0 bi r h) fun res s' hq=>?_)
 cases res with
 | error e=>exact hx e s' hq
 | ok fl =>
  cases fl with
  | ret u=>exact I.after hq
  | next=>exact False.elim hq
  | brk=>exact False.elim hq
  | cont=>exact False.elim hq
def VEH (X:Cx) (md:List Md) (P:Pt) (R:RR) (e:Expr) (m:M D):Prop:=∀(pins:List (Addr×Obj)) (s:Shared) (σ:St) (H:Hp) (ρ:Qai) (O:Qac) (F:Hp) (as:List Addr) (Q:VK) (W:Value→Shared→Prop),Inv X pins σ H s→RlO X.K X.mg O H F as→SlO X.K md P ρ σ H F as →
 Qt4 X.K X.mg R (fun x dxo H'=>∀(H0:Hp) (s0:Shared) (e:Value) (s':Shared),Inv X pins σ H0 s0→CXF X.prog X.w X.stack H0 s0 (fun cv d H''=>∃C,cv = .ref C∧X.mg x.cls=some (.ref C)∧d=dxo∧H''=H') e s'→W e s') H F as Q (m ρ O)→wpAny (model X.prog X.w) X.A (eval e X.env) (EP X pins σ Q) W s
def exJ (X:Cx) (pins:List (Addr×Obj)) (σ:St) (W:Value→Shared→Prop):XK:=fun cv d H'=>∃(x:Xc) (C:Addr),cv = .ref C∧X.mg x.cls=some (.ref C)∧∀(H0:Hp) (s0:Shared) (e:Value) (s':Shared),Inv X pins σ H0 s0→CXF X.prog X.w X.stack H0 s0 (fun cv d' H''=>∃C,cv = .ref C∧X.mg x.cls=some (.ref C)∧d'=d∧H''=H') e s'→W e s'
theorem Quu {pins:List (Addr×Obj)}{σ:St}{W:Value→Shared→Prop}{H:Hp}{s:Shared} (I:Inv X pins σ H s) (e:Value) (s':Shared) (hx:CXF X.prog X.w X.stack H s (exJ X pins σ W) e s'):W e s':=by
 obtain ⟨ea,C,H',B,a0,dxo,rfl,x1,x2,x3,x4,x5,x6,x7,x8,x,C',e1,hC,hw⟩:=hx;cases e1;exact hw H s (.ref ea) s' I ⟨ea,C,H',B,a0,dxo,rfl,x1,x2,x3,x4,x5,x6,x7,x8,C,rfl,hC,rfl,rfl⟩
theorem QkP {k:Nat}{c m:Str}{ps:List Str}{p pos apos:Pos}{o e:Expr}{es:List Expr}{pm:List Md}{cf:List D→Qac→Res D}{mo:M D}{ma:M (List D)}{pl:Sem Bool} (hR:QcQ R) (M:Qih X.prog X.w X.K X.mg X.base c m ps k (QcV X.K X.mg (.v::pm) R cf)) (hr:QaG k X.A)
  (ho:∀E,VE (X.wish E) md P o mo) (ha:∀E,AE (X.wish E) md P pm (e::es) ma)
  (hst:starEach (e::es) X.env=(false,eval e X.env)::starEach es X.env:=by exact Qbm rfl) (hpl:(backTo pos (starEach es X.env)).any (·.1)=false:=by exact Qbu rfl)
  (ht:eval (.Call (.Attribute o m apos) (e::es) [] pos) X.env=(do
   let ov ←eval o X.env
   standAt apos.atName
   let (f,first) ←holding [ov] (getMethod ov m pl)
   callWith pos f first (backTo pos (starEach (e::es) X.env)) (backToKw pos (keywordEach [] X.env))):=by rfl) :
  VEH X md P R (.Call (.Attribute o m apos) (e::es) [] pos) (QeT c m cf mo ma):=by
 intro pins s σ H ρ O F as Q W I r sl k;obtain ⟨C,fa,fd,hC,hcl,hme,hb,Fn⟩:=M;unfold QeT at k
 cases e1:mo ρ O with
 | ex x O'=>rw [e1] at k; exact False.elim k
 | no=>rw [e1] at k; exact False.elim k
 | ok x O1 =>
  rw [e1] at k
  cases x with
  | ob n =>
   dsimp only at k;split at k
   ·rename_i c' fs eo;split at k
    ·rename_i hc
     cases e2:ma ρ O1 with
     | ex x O'=>rw [e2] at k; exact False.elim k
     | no=>rw [e2] at k; exact False.elim k
     | ok ds O2 =>
      rw [e2] at k;dsimp only at k;refine PySem.W.methodCall_KW (pl:=pl) (thn (ho W pins s σ H (fun v H1=>∃F1 as1,Gr H F as H1 F1 as1∧RlO X.K X.mg O1 H1 F1 as1∧Rp X.K F1 as1 v (.ob n)) (I.wish W) ⟨ρ,O,F,as,.ob n,O1,r,sl,e1,fun v H1 F1 as1 g1 r1 hv=>⟨F1,as1,g1,r1,hv⟩⟩) fun u s1 z=>?_) ht;obtain ⟨v,H1,J1,rv,F1,as1,g1,r1,hv⟩:=z;obtain ⟨a,rfl,ha'⟩:=Rp.unO hv;obtain rfl:u=Value.ref a:=rv;obtain ⟨C',dx,gs,h1,h2,h3⟩:=r1.ob n a _ ha' eo;rw [hc.1,hC] at h1; cases h1;refine QgO J1.unwish h2 hcl hme (h3.no (Option.isNone_iff_eq_none.mp hc.2)) ?_;refine PySem.W.callWith_K (first:=[.ref a]) (h₀:=X.base) I.ok.mod.kin hme.kp (thn (ha W pos pins s1 σ H1 (fun vs H2=>∃F2 as2,Gr H1 F1 as1 H2 F2 as2∧RlO X.K X.mg O2 H2 F2 as2∧Qbw X.K H2 F2 as2 pm vs ds) J1 ⟨ρ,O1,F1,as1,ds,O2,r1,sl.step g1,e2,fun vs H2 F2 as2 g2 r2 hvs=>⟨F2,as2,g2,r2,hvs⟩⟩) fun us s2 z=>?_) hst hpl
      obtain ⟨vs,H2,J2,rvs,F2,as2,g2,r2,hvs⟩:=z;have J:=J2.unwish;refine ⟨J.kIn,QrH (us:=.ref a::us) (vs:=.ref a::vs) (E:=exJ X pins σ W) Fn hr hb J (.cons rfl rvs) ⟨.ob n::ds,O2,F2,as2,r2,⟨Rp.gr hv g2,hvs⟩,?_⟩ (Quu J)⟩
      cases ec:cf (.ob n::ds) O2 with
      | ok d O3 =>
       rw [ec] at k
       exact fun v H3 F3 as3 g3 r3 h=>k v H3 F3 as3 ((g1.trans g2).trans g3) r3 (hR _ _ _ _ _ _ _ (fun b hb=>(g1.trans g2).dm b hb) h)
      | ex x O3 =>
       rw [ec] at k
       exact fun C dxo H3 F3 as3 hC g3 r3 hx=>⟨x,C,rfl,hC,k dxo H3 F3 as3 ((g1.trans g2).trans g3) r3 hx⟩
      | no=>rw [ec] at k; exact False.elim k
    ·exact False.elim k
   ·exact False.elim k
  | _=>exact False.elim k
def EXM (K:Frag) (mg:Str→Option Value) (T c:Str) (b:Bool):Prop:=∃C A,mg c=some (.ref C)∧mg T=some (.ref A)∧exmOne K (.ref C) (.ref A)=some b
abbrev HM:=List Str×List Str×Nat×MS
def QfO:List HM→Xc→MS
 | [],_=>fun _ _=>.no
 | (ys,ns,i,hb)::rest,x=>fun ρ O=>if ys.contains x.cls=true then (match hb (ρ.set i (some (.ob O.length))) (O ++ [.xc x.cls x.fs]) with
   | .nx ρ' O2=>.nx (ρ'.set i none) O2
   | .rt d O2=>.rt d O2
   | _=>.no) else if ns.contains x.cls=true then QfO rest x ρ O else .no
def QgD (m:M D) (hs:List HM):MS:=fun ρ O=>match m ρ O with
 | .ok _ O1=>.nx ρ O1
 | .ex x O1=>QfO hs x ρ O1
 | .no=>.no
def VHs (X:Cx) (md:List Md) (P:Pt) (R:RR):List ExceptHandler→List HM→Prop
 | _,[]=>True
 | .ExceptHandler (some (.Name T p)) (some n) (b₀::suite) pos::rest,(ys,ns,i,hb)::rest'=>(∀c∈ys,EXM X.K X.mg T c true)∧(∀c∈ns,EXM X.K X.mg T c false)∧Gl X T∧(T == ("__debug__":Str))=false∧X.N[i]? = some n∧X.env.kindOf n=some .local∧md[i]? = some .v ∧
   (∀ea,VSs (X.inH ea) md P R (b₀::suite) hb)∧VHs X md P R rest rest'
 | _,_=>False
theorem Qon {hs:List ExceptHandler}:VHs X md P R hs []:=by
 cases hs <;> simp [VHs]
theorem Ql5 {T n:Str}{p pos:Pos}{b₀:Stmt}{suite:List Stmt}{rest:List ExceptHandler}{ys ns:List Str}{i:Nat}{hb:MS}{rest':List HM} (h1:∀c∈ys,EXM X.K X.mg T c true) (h2:∀c∈ns,EXM X.K X.mg T c false)
  (hs:∀ea,VSs (X.inH ea) md P R (b₀::suite) hb) (hr:VHs X md P R rest rest') (hg:Gl X T:=by rfl) (hd:(T == ("__debug__":Str))=false:=by decide) (hi:X.N[i]? = some n:=by rfl) (hl:X.env.kindOf n=some .local:=by rfl) (hm:md[i]? = some .v:=by rfl) :
  VHs X md P R (.ExceptHandler (some (.Name T p)) (some n) (b₀::suite) pos::rest) ((ys,ns,i,hb)::rest'):=⟨h1,h2,hg,hd,hi,hl,hm,hs,hr⟩
theorem RlO.xc {K:Frag}{mg:Str→Option Value}{O:Qac}{H F:Hp}{as:List Addr}{ea C:Addr}{oe:Obj}{c:Str}{fs:List (Str×D)} (r:RlO K mg O H F as) (hn:H ea=none) (hC:mg c=some (.ref C)) (hc:oe.cls = .ref C) (hd:∃ws,oe.data = .fields ws) (hx:XF K F as oe.dict fs) :
  RlO K mg (O ++ [.xc c fs]) (upd H ea (xcO oe)) F (as ++ [ea])∧Gr H F as (upd H ea (xcO oe)) F (as ++ [ea]):=by
 have at_:∀(n:Nat) (a:Addr),as[n]? = some a→(as ++ [ea])[n]? = some a:=fun n a h=>by
  rw [zy (zo.mp h).1]; exact h
 have g0:Gr H F as (upd H ea (xcO oe)) F as:=Gr.lay hn;have rB:RlO K mg O (upd H ea (xcO oe)) F as:=r.lay hn;refine ⟨⟨rB.fh,rB.fd,?_,by simp [r.len],fun a ha=>?_,fun n a o ha ho=>?_⟩,⟨g0.fz,g0.ff,⟨[ea],rfl,fun a ha=>by rw [zv.mp ha]; exact hn⟩,fun a o e ha hd=>g0.fr a o e ha hd,g0.dm,g0.kz⟩⟩
 ·rw [jm];refine ⟨r.nd,by simp,fun a ha b hb=>?_⟩;rw [zv.mp hb];intro z;subst z;exact r.all ha hn
 ·rcases zC.mp ha with z | z
  ·exact r.fa a z
  ·rw [zv.mp z];exact r.frF hn
 ·by_cases hn':n < O.length
  ·rw [zy (by rw [r.len]; exact hn')] at ha;rw [zy hn'] at ho;exact (rB.ob n a o ha ho).keep rfl (Same.refl _) at_
  ·have hn2:n=O.length:=by
    have:=(zo.mp ho).1
    simp at this
    omega
   subst hn2;rw [zE (ze _),Nat.sub_self] at ho;rw [←r.len,zE (ze _),Nat.sub_self] at ha;cases ho;cases ha;exact ⟨C,oe,_,hC,Qay,hc,hd,hx.mono (Same.refl _) at_⟩
theorem Qsi {D:Ends}{pins:List (Addr×Obj)}{σ:St}{ρ:Qai}{O:Qac}{H F:Hp}{as:List Addr}{x:Xc}{ea C:Addr}{dxo:Option Addr} (r:RlO X.K X.mg O H F as) (sl:SlO X.K md P ρ σ H F as) (hC:X.mg x.cls=some (.ref C)) (hn:H ea=none) (hx:XF X.K F as dxo x.fs) :
  ∀{hs:List ExceptHandler}{hm:List HM},VHs X md P R hs hm→Qgj X.K X.mg md P R D H F as (QfO hm x ρ O)→HsF X D σ H ea C dxo hs:=by
 intro hs
 induction hs with
 | nil =>
  intro hm h k
  cases hm with
  | nil=>exact False.elim k
  | cons a b=>exact False.elim h
 | cons hd rest ih =>
  intro hm h k
  cases hm with
  | nil=>exact False.elim k
  | cons a b =>
   unfold VHs at h;split at h
   ·rename_i q; cases q
   ·rename_i T p n b₀ suite pos rest1 ys ns i hb rest' eq1 eq2;cases eq1;cases eq2;obtain ⟨h1,h2,hg,hdb,hi,hl,hmi,hsu,hre⟩:=h;unfold QfO at k;split at k
    ·rename_i hy;obtain ⟨C',A,e1,e2,e3⟩:=h1 x.cls (List.contains_iff_mem.mp hy);rw [hC] at e1;cases e1;refine ⟨A,e2,hg,hdb,.inr ⟨e3,i,hi,hl,fun oe hoc hod hda=>⟨_,hsu ea,?_⟩⟩⟩;obtain ⟨r2,g2⟩:=r.xc (oe:=oe) hn hC hoc hda (hod ▸ hx);refine ⟨ρ.set i (some (.ob O.length)),_,F,as ++ [ea],r2,(sl.step g2).setV hmi (Rp.mkO (by rw [←r.len,zE (ze _),Nat.sub_self]; rfl)),?_⟩
     cases eb:hb (ρ.set i (some (.ob O.length))) (O ++ [.xc x.cls x.fs]) with
     | nx ρ' O2 =>
      rw [eb] at k
      exact fun σ' H' F' as' g' r' s'=>k _ H' F' as' (g2.toS.trans g') r' (s'.drop (x:=none) hmi)
     | rt d O2 =>
      rw [eb] at k
      exact fun v H' F' as' g' r' s'=>k v H' F' as' (g2.toS.trans g') r' s'
     | bk _ _=>rw [eb] at k; exact False.elim k
     | ct _ _=>rw [eb] at k; exact False.elim k
     | ex _ _=>rw [eb] at k; exact False.elim k
     | no=>rw [eb] at k; exact False.elim k
    ·split at k
     ·rename_i _ hy;obtain ⟨C',A,e1,e2,e3⟩:=h2 x.cls (List.contains_iff_mem.mp hy);rw [hC] at e1;cases e1;exact ⟨A,e2,hg,hdb,.inl ⟨e3,ih hre k⟩⟩
     ·exact False.elim k
   ·exact False.elim h
theorem Qmn {e:Expr}{m:M D}{R':RR}{h0:ExceptHandler}{hs:List ExceptHandler}{hm:List HM}{p3 p6:Pos} (he:VEH X md P R' e m) (hh:VHs X md P R (h0::hs) hm) (hN:X.N.Nodup) (hst:X.stack=X.env::X.outer:=by rfl) (hfr:X.env.frame=some X.env.locals:=by rfl) (hex:X.ex = []:=by rfl)
  (hsw:swapsWith e none p3.line X.env=pure false:=by rfl):VS X md P R (.Try [.Expr e p3] (h0::hs) [] [] p6) (QgD m hm):=by
 intro pins s σ H D I q;obtain ⟨ρ,O,F,as,r,sl,kk⟩:=q;refine wpAny_Try_except ?_
 have ev:=he pins s σ H ρ O F as (fun _ H2=>D.nx σ H2) (fun e s1=>wpAny (model X.prog X.w) X.A (noteFrame e X.env) (fun _ s₂=>wpAny (model X.prog X.w) X.A (setFlight e none) (fun _ s₃=>wpAny (model X.prog X.w) X.A (handleBy e X.env (h0::hs)) (SP X pins D) X.xe s₃) X.xe s₂) X.xe s1) I r sl (by
  unfold QgD at kk
  cases em:m ρ O with
  | ok d O1 =>
   rw [em] at kk
   exact fun v H' F' as' g r' _=>kk σ H' F' as' g.toS r' (sl.step g)
  | ex x O1 =>
   rw [em] at kk;intro dxo H' F' as' g r' hx H0 s0 e s' I0 hz
   refine QtV I0 hz hst hfr hN hex fun ea C d H2 hE hn=>?_
   obtain ⟨C',z1,z2,rfl,rfl⟩:=hE;cases z1;exact Qsi (pins:=pins) r' (sl.step g) z2 hn hx hh (QeM (R:=R) g.toS kk)
  | no=>rw [em] at kk; exact False.elim kk)
 refine wpAny_execs_cons (thn (wpAny_Expr_any (Q:=fun fl s1=>fl = .next∧∃H2,Inv X pins σ H2 s1∧D.nx σ H2) (thn ev fun v s1 z=>?_) I.quiet hsw) fun fl s1 z=>?_)
 ·obtain ⟨_,H2,I2,_,q2⟩:=z;exact ⟨rfl,H2,I2,q2⟩
 ·obtain ⟨rfl,H2,I2,q2⟩:=z;exact wpAny_execs_nil (wpAny_execs_nil ⟨σ,H2,I2,q2⟩)
end
section
variable {prog:Program}{w:World}{A:Around}{E:Value→Shared→Prop}{K:Frag}{a C:Addr}{o od:Obj}{h:Heap}{g:Array GenState}{d:Drawn}{t:Nat}{os:OsState}{name:Str}{v:Value}
theorem Qrr {tk:Tok}{Q:Fin→Shared→Prop} (X:K.In h) (I:InstAt h a o C (some od)) (hf:findObj K C (some od) name=some (.value v)) (hq:Q (.done (.ret v)) ⟨h,g,d,t,os⟩) :
  wpAny (model prog w) A (Builtin.«object.__getattribute__» ⟨[.ref a,.str name tk],[]⟩) Q E ⟨h,g,d,t,os⟩:=by
 have L0:=I.type (M:=model prog w);have L1:=looks_find (M:=model prog w) X I hf;unfold Builtin.«object.__getattribute__»;refine zc (zW (a:=(Value.ref a,[Value.str name tk])) rfl ?_);dsimp only;refine zc (zd ?_);refine zc (L0.at ?_);refine zc (L1.at ?_);exact zd hq
theorem QrV {expr:Bool}{Q:Value→Shared→Prop} (F0:Qeo K C) (X:K.In h) (I:InstAt h a o C (some od)) (hh:hasDictIn K C=true) (hn:findIn K (.ref C) name=some none) (hl:lookIn name od=some (some v)) (hv:handedIn v=true) (hq:Q v ⟨h,g,d,t+1,os⟩) :
  wpAny (model prog w) A (getAttr (.ref a) name expr) Q E ⟨h,g,d,t,os⟩:=by
 have L0:=I.type (M:=model prog w);have L1:=looks_findIn (M:=model prog w) X F0.ga;have L2:=looks_findIn (M:=model prog w) X F0.na;have bnd:=PySem.F.attrBase_ValueError.ga.bind (.ref a)
 have hne:(onTheHeap (Value.ref C)&&Value.builtin "BaseException.__getattribute__" == Value.builtin "object.__getattribute__")=false:=by rw [show (Value.builtin "BaseException.__getattribute__" == Value.builtin "object.__getattribute__")=false by decide +kernel,Bool.and_false]
 have hf:=findObj_own (od:=od) (v:=v) hh hn rfl hl;unfold getAttr getAttrBy;refine zc (wpAny_mkText (zK ?_));refine zc (L0.at ?_);refine zc (L1.at ?_);dsimp only;rw [if_neg (by rw [hne]; exact zj)];unfold getAttrByItsOwn;refine zc ?_;unfold hookBefore;rw [if_pos (show onTheHeap (Value.ref C)=true from rfl)];refine L2.at ?_;refine zc (wpAny_attempt (zK ?_));unfold callGetattribute;rw [if_neg (by cases expr <;> decide)];unfold boundAndCalled;refine zc (zW bnd ?_);refine zU (codeAny_call_builtin PySem.F.attrBase_ValueError.ga.plain PySem.F.entry_bexc_ga (Qkf F0 X I.at_ I.cls (Qrr X I hf ?_)));show wpAny (model prog w) A (handedOut v) _ _ _
 exact handed_on hv hq
end
section
variable {X:Cx}{md:List Md}{P:Pt}{R:RR}
theorem Qj7:Qc5 X (.builtin "isinstance") (fun xs H Q=>∃(a C:Addr) (oe:Obj) (u:HO) (b:Bool),H a=some (.frz oe u)∧oe.cls = .ref C∧Qeo X.K C∧Q (.bl b) H ∧
  ((∃v c,xs = [.ref a,v]∧QnM v=some c∧kitOne X.K (.ref C) c=some b)∨∃tp ys cs,xs = [.ref a,.ref tp]∧H tp=some (.tup ys)∧Qic ys=some cs∧kitAny X.K (.ref C) cs=some b)):=by
 intro pins s σ H xs us Q I r h;obtain ⟨ea,C,oe,u,b,he0,hc,F0,q,h⟩:=h;have he:s.heap.get? ea=some oe:=(I.hok ea _ he0).1
 have nb:Value.ref ea≠.builtin "__main__.__loader__#opaque":=fun z=>nomatch z
 rcases h with ⟨v,c,rfl,ev,ek⟩ | ⟨tp,ys,cs,rfl,et,ev,ek⟩
 ·obtain ⟨u1,u2,rfl,r1,r2⟩:=vals2 r;cases r1;rw [QkY r2 ev]
  exact kia_one (Qlq F0) I.kIn ⟨oe,he,hc⟩ ek nb fun tk=>⟨.bl b,H,I.tok tk,rfl,q⟩
 ·obtain ⟨u1,u2,rfl,r1,r2⟩:=vals2 r;cases r1;cases r2;obtain ⟨_,its,rv,ot,ho,hcl,n,hda⟩:=I.hok tp _ et;have ei:=Qkp rv ev;subst ei;obtain ⟨c0,d0,da0,sl0⟩:=ot;dsimp only at hcl hda;subst hcl hda
  exact kia_tup (Qlq F0) I.kIn ⟨oe,he,hc⟩ ho ek nb fun tk=>⟨.bl b,H,I.tok tk,rfl,q⟩
def Qb6 (tb:List (Str×Bool)) (mo:M D):M D:=fun ρ O=>(mo ρ O).bind fun d O1=>match d with
 | .ob n=>match O1[n]? with
  | some (.xc c _)=>match tb.lookup c with
   | some b=>.ok (.bl b) O1
   | none=>.no
  | _=>.no
 | _=>.no
theorem QoF {tb:List (Str×Bool)}{mo:M D}{ρ:Qai}{O O':Qac}{d:D} (e:Qb6 tb mo ρ O = .ok d O'):∃n c fs b,mo ρ O = .ok (.ob n) O'∧O'[n]? = some (.xc c fs)∧tb.lookup c=some b∧d = .bl b:=by
 obtain ⟨x,O1,e1,e⟩:=Res.bind_ok e
 cases x with
 | ob n =>
  dsimp only at e;split at e
  ·rename_i c fs eo;split at e
   ·rename_i b eb;cases e;exact ⟨n,c,fs,b,e1,eo,eb,rfl⟩
   ·cases e
  ·cases e
 | _=>cases e
def ISN (K:Frag) (mg:Str→Option Value) (T c:Str) (b:Bool):Prop:=∃C A,mg c=some (.ref C)∧Qeo K C∧mg T=some (.ref A)∧kitOne K (.ref C) (.ref A)=some b
def ISV (K:Frag) (mg:Str→Option Value) (c:Str):Prop:=∃C,mg c=some (.ref C)∧Qeo K C∧kitOne K (.ref C) (.type "ValueError")=some true
def QiF (K:Frag) (mg:Str→Option Value) (ns:List Str) (c:Str) (b:Bool):Prop:=∃C as,mg c=some (.ref C)∧Qeo K C∧Qej mg ns as∧kitAny K (.ref C) (as.map Value.ref)=some b
theorem Qej.det {mg:Str→Option Value}:∀{ns:List Str}{as bs:List Addr},Qej mg ns as→Qej mg ns bs→as=bs
 | [],as,bs,h,h'=>by
  have e:as = []:=h;have e':bs = []:=h';rw [e,e']
 | n::ns,as,bs,h,h'=>by
  obtain ⟨a,r,rfl,h1,h2⟩:=h;obtain ⟨b,r',rfl,h3,h4⟩:=h';rw [h1] at h3;cases h3;rw [h2.det h4]
theorem Qkb:∀{es:List Expr}{vs:List V},QgF X es vs→PA X es (fun _ H Q=>Q vs H)
 | [],vs,h=>by
  have h':vs = []:=h;subst h';exact Qdf
 | e::es,vs,h=>by
  obtain ⟨v,r,rfl,h1,h2,h3⟩:=h;exact QbY (h1 X rfl rfl) (Qkb h3) h2
theorem Qoj {o eT:Expr}{p pos:Pos}{v:V}{cv:Value}{mo:M D}{tb:List (Str×Bool)} (hm:X.mg "isinstance" = none) (ho:VE X md P o mo) (hT:PE X eT (tC v)) (hv:QnM v=some cv)
  (hE:∀c b,tb.lookup c=some b→∃C,X.mg c=some (.ref C)∧Qeo X.K C∧kitOne X.K (.ref C) cv=some b) (hg:Gl X "isinstance":=by rfl)
  (hs1:starEach [o,eT] X.env=(false,eval o X.env)::starEach [eT] X.env:=by exact Qbm rfl) (hs2:starEach [eT] X.env=(false,eval eT X.env)::starEach [] X.env:=by exact Qbm rfl) (hpl:(backTo pos (starEach [eT] X.env)).any (·.1)=false:=by exact Qbu rfl) :
  VE X md P (.Call (.Name "isinstance" p) [o,eT] [] pos) (Qb6 tb mo) :=
 (QgW Qj7 hg hm (by decide +kernel) (QbY ho (QbY hT Qdf hs2) hs1) (by decide) (by decide) hs1 hpl).imp fun σ H Q q=>by
  obtain ⟨ρ,O,F,as,d,O',r,s,e,k⟩:=q;obtain ⟨n,c,fs,b,e1,e2,e3,rfl⟩:=QoF e;refine ⟨ρ,O,F,as,.ob n,O',r,s,e1,fun v1 H1 F1 as1 g1 r1 hv1=>?_⟩;obtain ⟨a,rfl,ha⟩:=Rp.unO hv1;obtain ⟨C,oe,u,hC,hH,hoc,_,_⟩:=r1.ob n a _ ha e2;obtain ⟨C',hC',F0,kk⟩:=hE c b e3;rw [hC] at hC';cases hC';exact ⟨a,C,oe,u,b,hH,hoc,F0,k _ H1 F1 as1 g1 r1 Rp.bl,.inl ⟨v,cv,rfl,hv,kk⟩⟩
theorem QlA {o:Expr}{T:Str}{p p1 pos:Pos}{mo:M D}{tb:List (Str×Bool)} (hm:X.mg "isinstance" = none) (hT:∃A,X.mg T=some (.ref A)) (ho:VE X md P o mo)
  (hE:∀c b,tb.lookup c=some b→ISN X.K X.mg T c b) (hg:Gl X "isinstance":=by rfl) (hgT:Gl X T:=by rfl) (hd:(T == ("__debug__":Str))=false:=by decide)
  (hs1:starEach [o,.Name T p1] X.env=(false,eval o X.env)::starEach [.Name T p1] X.env:=by exact Qbm rfl) (hs2:starEach [.Name T p1] X.env=(false,eval (.Name T p1) X.env)::starEach [] X.env:=by exact Qbm rfl) (hpl:(backTo pos (starEach [.Name T p1] X.env)).any (·.1)=false:=by exact Qbu rfl) :
  VE X md P (.Call (.Name "isinstance" p) [o,.Name T p1] [] pos) (Qb6 tb mo):=by
 obtain ⟨A,hA⟩:=hT;refine Qoj (v:=.ref A) (cv:=.ref A) hm ho (QjO hgT hA rfl hd) rfl (fun c b e=>?_) hg hs1 hs2 hpl;obtain ⟨C,A',h1,h2,h3,h4⟩:=hE c b e;rw [hA] at h3;cases h3;exact ⟨C,h1,h2,h4⟩
theorem Qn6 {o:Expr}{p p1 pos:Pos}{mo:M D}{tb:List (Str×Bool)} (hm:X.mg "isinstance" = none) (hT:X.mg "ValueError" = none) (ho:VE X md P o mo)
  (hE:∀c b,tb.lookup c=some b→b=true∧ISV X.K X.mg c) (hg:Gl X "isinstance":=by rfl) (hgT:Gl X "ValueError":=by rfl)
  (hs1:starEach [o,.Name "ValueError" p1] X.env=(false,eval o X.env)::starEach [.Name "ValueError" p1] X.env:=by exact Qbm rfl) (hs2:starEach [.Name "ValueError" p1] X.env=(false,eval (.Name "ValueError" p1) X.env)::starEach [] X.env:=by exact Qbm rfl) (hpl:(backTo pos (starEach [.Name "ValueError" p1] X.env)).any (·.1)=false:=by exact Qbu rfl) :
  VE X md P (.Call (.Name "isinstance" p) [o,.Name "ValueError" p1] [] pos) (Qb6 tb mo):=by
 refine Qoj (v:=.ty "ValueError") (cv:=.type "ValueError") hm ho (Qmv hgT hT (by decide +kernel) rfl) rfl (fun c b e=>?_) hg hs1 hs2 hpl;obtain ⟨rfl,C,h1,h2,h3⟩:=hE c b e;exact ⟨C,h1,h2,h3⟩
theorem Qoq {o:Expr}{ns:List Str}{es:List Expr}{x1:Nat}{p p1 pos:Pos}{mo:M D}{tb:List (Str×Bool)} (hm:X.mg "isinstance" = none) (hT:∃as,Qej X.mg ns as) (hNV:∀as,Qej X.mg ns as→QgF X es (as.map V.ref)) (ho:VE X md P o mo)
  (hE:∀c b,tb.lookup c=some b→QiF X.K X.mg ns c b) (hns:ns.length≤1000:=by decide) (hg:Gl X "isinstance":=by rfl)
  (hs1:starEach [o,.Tuple es x1 p1] X.env=(false,eval o X.env)::starEach [.Tuple es x1 p1] X.env:=by exact Qbm rfl) (hs2:starEach [.Tuple es x1 p1] X.env=(false,eval (.Tuple es x1 p1) X.env)::starEach [] X.env:=by exact Qbm rfl) (hpl:(backTo pos (starEach [.Tuple es x1 p1] X.env)).any (·.1)=false:=by exact Qbu rfl) :
  VE X md P (.Call (.Name "isinstance" p) [o,.Tuple es x1 p1] [] pos) (Qb6 tb mo):=by
 obtain ⟨la,hla⟩:=hT
 refine (QgW Qj7 hg hm (by decide +kernel) (QbY ho (QbY (Qpk (Qkb (hNV la hla))) Qdf hs2) hs1) (by decide) (by decide) hs1 hpl).imp fun σ H Q q=>?_
 obtain ⟨ρ,O,F,as,d,O',r,s,e,k⟩:=q;obtain ⟨n,c,fs,b,e1,e2,e3,rfl⟩:=QoF e;refine ⟨ρ,O,F,as,.ob n,O',r,s,e1,fun v1 H1 F1 as1 g1 r1 hv1=>?_⟩;obtain ⟨a,rfl,ha⟩:=Rp.unO hv1;obtain ⟨C,oe,u,hC,hH,hoc,_,_⟩:=r1.ob n a _ ha e2;obtain ⟨C',la',hC',F0,hla',kk⟩:=hE c b e3;rw [hC] at hC';cases hC';rw [hla'.det hla] at kk;have hsz:sizeLine=16777216:=sizeLine_eq;refine ⟨by rw [zp,hla.len]; omega,fun tp htp=>?_⟩;refine ⟨a,C,oe,u,b,by rw [Qah (Qaw hH htp)]; exact hH,hoc,F0,k _ _ F1 as1 (g1.trans (Gr.lay htp)) (r1.lay htp) Rp.bl,.inr ⟨tp,la.map V.ref,la.map Value.ref,rfl,Qay,Qjz la,kk⟩⟩
def QgJ (f:Str) (L:List Str) (mo:M D):M D:=fun ρ O=>(mo ρ O).bind fun d O1=>match d with
 | .ob n=>match O1[n]? with
  | some (.xc c fs)=>if L.contains c=true then (match fs.lookup f with
   | some d=>.ok d O1
   | none=>.no) else .no
  | _=>.no
 | _=>.no
def XFC (K:Frag) (mg:Str→Option Value) (f c:Str):Prop:=∃C,mg c=some (.ref C)∧Qeo K C∧findIn K (.ref C) f=some none∧hasDictIn K C=true
theorem FsR.at {K:Frag}{F:Hp}{as:List Addr}{f:Str}{d:D}:∀{fs:List (Str×D)}{gs:List (Str×V)},FsR K F as gs fs→fs.lookup f=some d→∃v,gs.lookup f=some v∧Rp K F as v d
 | [],gs,h,e=>by cases e
 | (g,y)::fs,gs,h,e=>by
  obtain ⟨h1,h2⟩:=h
  cases gs with
  | nil=>cases h1
  | cons p gs =>
   obtain ⟨g',x⟩:=p;have hg:g'=g:=(List.cons.inj h1).1;subst hg;obtain ⟨x',r,ex,hx,hr⟩:=Rps.un h2;cases ex
   by_cases hf:(f == g')=true
   ·have e':some y=some d:=by
     simp only [List.lookup,hf] at e;exact e
    cases e';exact ⟨x,by simp only [List.lookup,hf],hx⟩
   ·have hf':(f == g')=false:=by simpa using hf
    have e':fs.lookup f=some d:=by
     simp only [List.lookup,hf'] at e;exact e
    obtain ⟨v,q1,q2⟩:=FsR.at (fs:=fs) (gs:=gs) ⟨(List.cons.inj h1).2,hr⟩ e';exact ⟨v,by simp only [List.lookup,hf']; exact q1,q2⟩
theorem QrI {o:Expr}{f:Str}{pos:Pos}{L:List Str}{mo:M D} (ho:VE X md P o mo) (hL:∀c∈L,XFC X.K X.mg f c) (hb:attributeBase o f X.env (eval o X.env)=eval o X.env:=by rfl):VE X md P (.Attribute o f pos) (QgJ f L mo):=by
 intro pins s σ H Q I q;obtain ⟨ρ,O,F,as,d,O',r,sl,e,k⟩:=q;obtain ⟨x,O1,e1,e⟩:=Res.bind_ok e
 cases x with
 | ob n =>
  dsimp only at e;split at e
  ·rename_i c fs eo;split at e
   ·rename_i hc;split at e
    ·rename_i d' el;cases e;refine Qmd hb (thn (ho pins s σ H (fun v H1=>∃F1 as1,Gr H F as H1 F1 as1∧RlO X.K X.mg O' H1 F1 as1∧Rp X.K F1 as1 v (.ob n)) I ⟨ρ,O,F,as,.ob n,O',r,sl,e1,fun v H1 F1 as1 g1 r1 hv=>⟨F1,as1,g1,r1,hv⟩⟩) fun u s1 z=>?_);obtain ⟨v,H1,I1,rv,F1,as1,g1,r1,hv⟩:=z;obtain ⟨a,rfl,ha⟩:=Rp.unO hv;obtain rfl:u=Value.ref a:=rv;obtain ⟨C,oe,uu,hC,hH,hoc,⟨ws,hda⟩,hx⟩:=r1.ob n a _ ha eo;obtain ⟨C',hC',F0,hn,hh⟩:=hL c (List.contains_iff_mem.mp hc);rw [hC] at hC';cases hC'
     rcases hx with hx | ⟨dx,od,gs,hdx,hF,hfs⟩
     ·rw [hx] at el; cases el
     ·obtain ⟨w1,hw,hrp⟩:=hfs.at el;have hHd:=r1.fh _ _ hF;have hoe:s1.heap.get? a=some oe:=(I1.hok a _ hH).1;obtain ⟨hod,mA,hns,hrel⟩:=I1.hok dx _ hHd;obtain ⟨u1,hu1,ru1⟩:=QcI.some_of (v:=w1) (o:=mA f) (by rw [←hw]; exact hrel f);obtain ⟨od',ho',hl⟩:=Qj5 hns;have hia:InstAt s1.heap a oe C (some od'):=⟨hoe,hoc,by unfold notCls; rw [hda],by rw [hdx]; exact ho'⟩;obtain ⟨hh1,gg,dr,tk,os⟩:=s1;exact QrV F0 I1.kIn hia hh hn (by rw [hl,hu1]) (Qj6 ru1) ⟨w1,H1,I1.tok (tk+1),ru1,k w1 H1 F1 as1 g1 r1 hrp⟩
    ·cases e
   ·cases e
  ·cases e
 | _=>cases e
end
end L2
namespace L2
open PySem PySem.Spec PyProof.Rows PySem.W
def Qfv (A:Around):Around:={ A with handled:=none }
theorem RoomH.deeper {k:Nat}{A:Around} (r:QaG (k+1) (Qfv A)) (env:Env):QaG k (Qfv (A.deeper env)):=⟨rfl,(r.deeper env).dp,(r.deeper env).un⟩
theorem QaG.h {k:Nat}{A:Around} (r:QaG k A):QaG k (Qfv A):=⟨rfl,r.dp,r.un⟩
theorem QaG.inH {k:Nat}{A:Around}{e:Option Value} (r:QaG k A):QaG k (Qfv (A.mark e)):=⟨rfl,r.dp,r.un⟩
structure Qm6 (P:Program) (w:World) (K:Frag) (mg:Str→Option Value) (base:Heap) (k:Nat) (f:Addr) (fd:FuncData) (ps:List Str) (sp:Sp):Prop where
 len:∀vs H Q E,sp vs H Q E→vs.length=ps.length
 run:∀(A:Around) (outer:List Env) (s:Shared) (H:Hp) (args:Args) (us:List Value) (vs:List V) (Q:VK) (E:XK),QaG k (Qfv A)→Qe0 P w K mg base A outer s H→BindsTo s fd args (ps.zip us)→Qax vs us→sp vs H Q E →
  codeAny (model P w) A (.call (.ref f) args) (CR CX0 outer P w H s Q E) s
theorem Qm6.fn {P:Program}{w:World}{K:Frag}{mg:Str→Option Value}{base:Heap}{k:Nat}{f:Addr}{fd:FuncData}{ps:List Str}{sp:Sp} (F:Qm6 P w K mg base k f fd ps sp):Qbp P w K mg base CX0 k f fd ps sp:=⟨F.len,fun A outer s H args us vs Q E hr=>F.run A outer s H args us vs Q E hr.h⟩
def Qty (P:Program) (w:World) (K:Frag) (mg:Str→Option Value) (base:Heap) (x:Str) (ps:List Str) (k:Nat) (sp:Sp):Prop :=
 ∃f fd,mg x=some (.ref f)∧keepIn K (.ref f)=true∧Binds K fd ps []∧Qm6 P w K mg base k f fd ps sp∧∃oc od osl,K.lookup f=some ⟨oc,od,.func fd,osl⟩
section
variable {Pr:Program}{w:World}{K:Frag}{mg:Str→Option Value}{base:Heap}
theorem Qty.can {x:Str}{ps:List Str}{k:Nat}{sp:Sp} (C:Qty Pr w K mg base x ps k sp):Can Pr w K mg base x ps k sp:=by
 obtain ⟨f,fd,h1,h2,h3,h4,h5⟩:=C;exact ⟨f,fd,h1,h2,h3,h4.fn,h5⟩
end
section
variable {X:Cx}{md:List Md}{P:Pt}{R:RR}
end
section
variable {X:Cx}{md:List Md}{P:Pt}{R:RR}
theorem QiL {c:Str}{v:V}{p cpos pos:Pos}{a:Expr} (hE:Qlt X.K X.mg c) (hc:X.calm=true) (ha:PE X a (tC v)) (hex:X.ex = []:=by rfl) (hg:Gl X c:=by rfl) (hd:(c == ("__debug__":Str))=false:=by decide)
  (hs1:starEach [a] X.env=(false,eval a X.env)::starEach [] X.env:=by rfl) (hpl:(backTo cpos (starEach [a] X.env)).any (·.1)=false:=by rfl) :
  VSF X md P R (.Raise (some (.Call (.Name c p) [a] [] cpos)) none pos) (Qif c):=by
 intro pins s σ H D I q;obtain ⟨ρ,O,F,as,r,sl,k⟩:=q;obtain ⟨C,hC,hx⟩:=hE;obtain ⟨bm,N,nm,qn,bs,hdd,sn,sub,ab,col,dd,k0,k1,k2,k3,k5,mN,oC,hN,hni,T⟩:=Qrj I.ok.mod.kin hx;refine wpAny_Raise_call_subT (C:=C) (nm:=nm) (q:=qn) (N:=N) (bs:=bs) (bm:=bm) (hdct:=hdd) (sn:=sn) (sub:=sub) (ab:=ab) (col:=col) (dd:=dd) (k0:=k0) (k1:=k1) (k2:=k2) (k3:=k3) (k5:=k5) PySem.F.excBase_ValueError (mN:=mN) (T.hasType PySem.F.excBase_ValueError.hasBase) (I.ok.hd hc) hpl hni (QfC I hg hC ⟨rfl,?_⟩ hd);have hA:=QbY ha Qdf hs1 cpos pins s σ H (fun vs H1=>vs.length=1∧H1=H) I ⟨rfl,rfl⟩;rw [hs1] at hA ⊢
 refine Calls.evalArgs_plain (thn hA fun us s1 z=>?_);obtain ⟨vs,H1,I1,r1,e1,e2⟩:=z;subst e2;refine ⟨rfl,?_,I1.bk _ _ oC,hN.keeps I1.bk,T.keeps I1.bk,fun h' ea hm=>?_⟩
 ·show us.length≤sizeLine;rw [←r1.length,e1];decide
 ·obtain ⟨t,ht,_,_⟩:=hm.there
  have hn:H1 ea=none:=by
   cases q:H1 ea with
   | none=>rfl
   | some u =>
    obtain ⟨o,z⟩:=(I1.hok ea u q).has;rw [hm.new] at z;cases z
  have h0:X.s₀.heap.get? ea=none:=by
   cases q:X.s₀.heap.get? ea with
   | none=>rfl
   | some o =>
    obtain ⟨o',z⟩:=I1.base.there ea o q (by rw [hex]; exact fun z=>nomatch z);rw [hm.new] at z;cases z
  have I2:Inv X pins σ H1 { s1 with heap:=h' }:=I1.un (t':=s1.toks) (Un.kept hm.keeps) (I1.hok.kept hm.keeps);exact (k none H1 F as GrS.refl r (.inl rfl)).1 pins σ _ ea C hC I2 ⟨_,_,_,ht,rfl,rfl,rfl,rfl,rfl,hn,h0⟩
theorem QhF {f:Str}{ps:List Str}{k:Nat}{a:Expr}{as:List Expr}{pm:List Md}{c:List D→Qac→Res D}{ma:M (List D)}{p1 p2:Pos} (Cn:QhH X.prog X.w X.K X.mg X.base f ps k (QcV X.K X.mg pm (rV X.K) c)) (hr:QaG k X.A) (ha:AE X md P pm (a::as) ma) (hg:Gl X f:=by rfl) (hfd:(f == ("__debug__":Str))=false:=by decide)
  (hs:starEach (a::as) X.env=(false,eval a X.env)::starEach as X.env:=by exact Qbm rfl) (hpl:(backTo p2 (starEach as X.env)).any (·.1)=false:=by exact Qbu rfl):VEF X md P (rV X.K) (.Call (.Name f p1) (a::as) [] p2) (QdA c ma):=Qqm Qbk Cn hr ha hg hfd hs hpl
end
theorem QfL {P:Str→Bool→Prop}:∀c b,([]:List (Str×Bool)).lookup c=some b→P c b:=fun _ _ e=>nomatch e
theorem Qeh {P:Str→Bool→Prop}{c:Str}{b:Bool}{tb:List (Str×Bool)} (h:P c b) (t:∀c b,tb.lookup c=some b→P c b):∀c' b',((c,b)::tb).lookup c'=some b'→P c' b':=fun c' b' e=>by
 by_cases hc:(c' == c)=true
 ·have e':some b=some b':=by
   simp only [List.lookup,hc] at e;exact e
  cases e';rw [beq_iff_eq.mp hc];exact h
 ·have hf:(c' == c)=false:=by simpa using hc
  refine t c' b' ?_;simp only [List.lookup,hf] at e;exact e
theorem Qhs {P:Str→Prop}:∀c∈([]:List Str),P c:=fun _ e=>nomatch e
theorem QjZ {P:Str→Prop}{c:Str}{l:List Str} (h:P c) (t:∀c∈l,P c):∀c'∈c::l,P c':=fun c' e=>by
 rcases zm.mp e with rfl | e
 ·exact h
 ·exact t c' e
theorem ISN.nm {K:Frag}{mg:Str→Option Value}{T c:Str}{b:Bool} (h:ISN K mg T c b):∃A,mg T=some (.ref A):=let ⟨_,A,_,_,e,_⟩:=h; ⟨A,e⟩
theorem QiF.nm {K:Frag}{mg:Str→Option Value}{ns:List Str}{c:Str}{b:Bool} (h:QiF K mg ns c b):∃as,Qej mg ns as:=let ⟨_,as,_,_,e,_⟩:=h; ⟨as,e⟩
theorem ISV.tb {K:Frag}{mg:Str→Option Value}{c:Str} (h:ISV K mg c):true=true∧ISV K mg c:=⟨rfl,h⟩
def QjX (K:Frag) (mg:Str→Option Value) (c name qual:Str) (st:Stmt):Prop:=∃C fI fd,mg c=some (.ref C)∧QkZ K C fI name∧isFn K (.ref fI)=true∧Fun K "__init__" qual st fI fd
theorem QjX.can {Pr:Program}{w:World}{K:Frag}{mg:Str→Option Value}{base:Heap}{c name qual sf pn:Str}{st:Stmt}{p1 p2 p3 p4:Pos} (h:QjX K mg c name qual st) (S:QaI [sf,pn] [sf,pn] (Qaj st))
  (hb:∀(kV doc pm:Value) (an:Option Addr) (cdv ct:Value) (us:List Value),us.length = [sf,pn].length→bindArgs (PySem.W.fnOf "__init__" qual (QbD st) (QaX st) (Qaj st) .none kV doc pm an cdv ct) ⟨us,[]⟩=pure ([sf,pn].zip us))
  (hbo:QaX st = [.Assign [.Attribute (.Name sf p1) name p2] (.Name pn p3) p4]) (v0:Vis (Qaj st) sf) (v1:Vis (Qaj st) pn) (hs:∀L f cdv,swapsWith (.Name pn p3) (some (.Attribute (.Name sf p1) name p2)) p4.line (envOfC qual (Qaj st) L f cdv)=pure false)
  (d0:(sf == ("__debug__":Str))=false:=by decide) (d1:(pn == ("__debug__":Str))=false:=by decide) (c0:(sf == ("__classdict__":Str))=false:=by decide) (c1:(pn == ("__classdict__":Str))=false:=by decide):QiJ Pr w K mg base c name 1:=by
 obtain ⟨C,fI,fd,h1,h2,h3,h4⟩:=h;exact Qvk h1 h2 h3 h4 S hb hbo v0 v1 d0 d1 c0 c1 hs
section
variable {X:Cx}{md:List Md}{P:Pt}{R:RR}
end
def QkM (P:Program) (w:World) (K:Frag) (mg:Str→Option Value) (base:Heap) (c:Str) (ps:List Str) (k:Nat) (sp:Sp):Prop :=
 ∃C f fd,mg c=some (.ref C)∧Mk K C f∧Binds K fd ps []∧Qbp P w K mg base (CXF P w) k f fd ps sp
section
variable {Pr:Program}{w:World}{K:Frag}{mg:Str→Option Value}{base:Heap}
theorem Qtw {c qual:Str}{st:Stmt}{N ps:List Str}{k:Nat} (Df:QpQ K mg c qual st) (S:QaI N ps (Qaj st))
  (hb:∀(kV doc pm:Value) (an:Option Addr) (cdv ct:Value) (us:List Value),us.length=ps.length→bindArgs (PySem.W.fnOf "__init__" qual (QbD st) (QaX st) (Qaj st) .none kV doc pm an cdv ct) ⟨us,[]⟩=pure (ps.zip us))
  (pm lm:List Md) {R:RR}{b:MS} (hR:QcQ R) (hR0:∀N H F as,R N H F as .non .non) (hpl:pm.length=ps.length:=by rfl) (hl:(pm++lm).length=N.length:=by rfl) (hp:∀m∈pm,m≠.o:=by decide)
  (body:∀(f:Addr) (cdv:Value) (A:Around) (outer:List Env) (s:Shared) (H:Hp) (E:XK),QaG k (A.deeper (envOfC qual (Qaj st) s.heap.objs.size f cdv))→∀P,QfX (Qcy (CXF Pr w) Pr w K mg base N qual (Qaj st) f cdv A outer s H E) (pm++lm) P R (QaX st) b) :
  QkM Pr w K mg base c ps (k+1) (QcV K mg pm R (Qbn N.length b)):=by
 obtain ⟨C,f,fd,h1,h2,h3⟩:=Df;exact ⟨C,f,fd,h1,h2,h3.binds hb,QmY h3 S pm lm hR hR0 hpl hl hp (body f)⟩
theorem QkM.can {c:Str}{ps:List Str}{k:Nat}{pm:List Md}{R:RR}{cf:List D→Qac→Res D} (C:QkM Pr w K mg base c ps k (QcV K mg pm R cf)) (hl:pm.length=ps.length:=by rfl):Qp8 Pr w K mg base c ps k (vSp K mg pm R cf):=by
 obtain ⟨C,f,fd,h1,h2,hb,Fn⟩:=C;exact ⟨C,f,fd,h1,h2,hb,QjK Fn hl⟩
end
theorem RlO.ins {K:Frag}{mg:Str→Option Value}{O:Qac}{H F:Hp}{as:List Addr}{x dx C:Addr}{c:Str} (r1:RlO K mg O H F as) (hC:mg c=some (.ref C)) (hx:H x=none) (hdx:H dx=none) (hne:dx≠x) :
  RlO K mg (O ++ [.ins c []]) (upd (upd H dx (.own x)) x (.ins C dx [])) F (as ++ [x])∧Gr H F as (upd (upd H dx (.own x)) x (.ins C dx [])) F (as ++ [x])∧Rp K F (as ++ [x]) (.ref x) (.ob O.length):=by
 have hx2:upd H dx (.own x) x=none:=by rw [Qah hne.symm]; exact hx
 have gAB:Gr H F as (upd (upd H dx (.own x)) x (.ins C dx [])) F as:=(Gr.lay hdx).trans (Gr.lay hx2)
 have nx:x∉as:=fun z=>r1.all z hx
 have rB:=(r1.lay (o:=.own x) hdx).lay (o:=.ins C dx []) hx2
 have at_:∀(n:Nat) (a:Addr),as[n]? = some a→(as ++ [x])[n]? = some a:=fun n a h=>by
  rw [zy (zo.mp h).1]; exact h
 refine ⟨⟨rB.fh,rB.fd,?_,by simp [r1.len],fun a ha=>?_,fun n a o ha ho=>?_⟩,⟨gAB.fz,gAB.ff,⟨[x],rfl,fun a ha=>by rw [zv.mp ha]; exact hx⟩,fun a o e ha hd=>gAB.fr a o e ha hd,gAB.dm,gAB.kz⟩,Rp.mkO (by rw [←r1.len,zE (ze _),Nat.sub_self]; rfl)⟩
 ·rw [jm];refine ⟨r1.nd,by simp,fun a ha b hb=>?_⟩;rw [zv.mp hb];intro z;subst z;exact nx ha
 ·rcases zC.mp ha with z | z
  ·exact r1.fa a z
  ·rw [zv.mp z];exact r1.frF hx
 ·by_cases hn:n < O.length
  ·rw [zy (by rw [r1.len]; exact hn)] at ha;rw [zy hn] at ho;exact (rB.ob n a o ha ho).keep rfl (Same.refl _) at_
  ·have hn':n=O.length:=by
    have:=(zo.mp ho).1
    simp at this
    omega
   subst hn';rw [zE (ze _),Nat.sub_self] at ho;rw [←r1.len,zE (ze _),Nat.sub_self] at ha;cases ho;cases ha;exact ⟨C,dx,[],hC,Qay,⟨rfl,Rps.nil⟩⟩
section
variable {X:Cx}{md:List Md}{P:Pt}{k:Nat}{c:Str}{ps:List Str}{p pos:Pos}{e:Expr}{es:List Expr}{pm:List Md}{cf:List D→Qac→Res D}{ma:M (List D)}
end
end L2
namespace L2
open PySem PySem.Spec PyProof.Rows PySem.W PySem.Calls
section
variable {prog:Program}{w:World}{A:Around}{E:Value→Shared→Prop}{s:Shared}{R:Result→Shared→Prop}
theorem QoX {d:Addr}{Q:Bool→Shared→Prop} (hT:s.TypeIs (.ref d) "dict") (h:Q false s):wpAny (model prog w) A (Builtin.List.listLengthHint (.ref d)) Q E s:=by
 unfold Builtin.List.listLengthHint;refine zc (wpAny_specialOf (r:=some (.builtin "dict.__len__")) hT PySem.F.slot_dict_len.lookup ?_);dsimp only
 have e:splitId "dict.__len__" = some ("dict","__len__"):=by decide +kernel
 rw [e];dsimp only;refine zc (wpAny_isInstance (T:="dict") hT (b:=true) PySem.F.sub_dict_dict ?_);rw [if_neg (by decide),if_pos (by decide +kernel)];exact zc (wpAny_typeOf hT (zd h))
theorem QsJ {knd:KeyKind prog w Key}{d S:Addr}{kvs:List (Key×Value)} (hh:A.handled=none) (hd:(d == sysModules)=false) (hm:s.heap.DictOf knd d kvs) (hn:kvs.length≤sizeLine) (hne:d≠S) (res:Value) (c₀:Nat)
  (hS:s.heap.get? S=some { cls:=.type "list",data:=.seq #[] c₀ })
  (hR:∀s' acc' c',(∀b o,b≠S→s.heap.get? b=some o→s'.heap.get? b=some o)→s'.gens=s.gens→s'.drawn=s.drawn→s'.os=s.os→s'.heap.get? S=some { cls:=.type "list",dict:=none,data:=.seq acc' c',slots:=#[] }→ItemsOf (fun i v=>∃k x,kvs[i]? = some (k,x)∧knd.is k v=true) acc' kvs.length→R (.ok (.ret res)) s') :
  wpAny (model prog w) A.in1 (Builtin.List.listExtendWith (.ref S) (.ref d) res)
   (fun fin s'=>match fin with | .done f=>R (.ok f) s' | .again c'=>c'.quiet=true∧codeAny (model prog w) A c' R s') (fun e s'=>R (.error e) s') s:=by
 obtain ⟨ep,hat⟩:=hm.dictAt;have hT:s.TypeIs (.ref d) "dict":=hm.typeIs;have ltS:S < s.heap.objs.size:=zf hS;have ltd:d < s.heap.objs.size:=hat.lt_size;unfold Builtin.List.listExtendWith;refine zc (wpAny_typeOf hT ?_)
 have h1:Builtin.List.listSameRef (.ref S) (.ref d)=false:=by simp [Builtin.List.listSameRef,hne.symm]
 have h2:(Value.type "dict" == Value.type "list")=false:=by decide
 have h3:(Value.type "dict" == Value.type "tuple")=false:=by decide
 simp only [h1,h2,h3,Bool.or_false,Bool.false_eq_true,if_false];refine zc (wpAny_pyIter_dict hd hat ?_);refine zc (zK ?_)
 generalize hI:s.heap.objs.size=I at *
 generalize hh1:s.heap.push { cls:=.type "dict_keyiterator",data:=.fields #[.ref d,.int 0 0,.int kvs.length 0,.int ep 0] }=h1'
 have k1:∀b o,s.heap.get? b=some o→h1'.get? b=some o:=fun b o e=>by rw [←hh1]; exact zh _ e
 have it1:h1'.IsKeyIter I d 0 kvs.length ep:=by rw [←hh1,←hI]; exact ⟨_,zD _ rfl,rfl,rfl⟩
 have hS1:=k1 _ _ hS;have hat1:=hat.keep k1;refine QoX (s:={ s with heap:=h1' }) ⟨_,k1 _ _ hT.choose_spec.1,hT.choose_spec.2⟩ ?_;rw [if_pos (by decide +kernel)];refine zc (zV ?_);refine zc ?_;show wpAny _ A.in1 (updateSeq S (·.push .none) >>= fun _=>updateSeq S (·.pop)) _ _ _;refine zc (wpAny_updateSeq hS1 rfl ?_);have hS₂:=Heap.get?_update_self (Obj.mapSeq (·.push Value.none)) hS1 rfl;refine wpAny_updateSeq (hz:=by seq_fits) hS₂ rfl ?_;have hS₃:=Heap.get?_update_self (Obj.mapSeq (·.pop)) hS₂ rfl;have oth:∀b o,b≠S→h1'.get? b=some o→((h1'.update S (Obj.mapSeq (·.push Value.none))).update S (Obj.mapSeq (·.pop))).get? b=some o :=
  fun b o hb e=>(jf _ _ (Ne.symm hb)).trans ((jf _ _ (Ne.symm hb)).trans e)
 have W:=(Walks.dictKeys (knd:=knd) (prog:=prog) (w:=w) (A:=A.in1) hh I d (zq ltd) kvs ep).toS
 refine zd ⟨plainId_quiet PySem.F.plain_extend_loop _,codeAny_extend_loopS W hn S (by simp only [zm,List.not_mem_nil,or_false,not_or]; exact ⟨zq ltS,hne.symm⟩) _ kvs.length 0 _ _ _ rfl (Nat.zero_le _)
  ⟨it1.at fun o e=>oth I o (Nat.ne_of_gt ltS) e,hat1.at' fun o e=>oth d o hne e⟩ hS₃ (ItemsOf.nil _) fun s' acc' c' hmv hS' hacc=>?_⟩
 refine hR s' acc' c' (fun b o hb e=>hmv.heap b o (fun hz=>?_) (oth b o hb (k1 b o e))) hmv.gens hmv.drawn hmv.os hS' hacc;simp only [zm,List.not_mem_nil,or_false] at hz
 rcases hz with hz | hz
 ·exact hb hz
 ·exact absurd (zf e) (by rw [hz,hI]; exact zH _)
theorem Qlc {knd:KeyKind prog w Key}{d:Addr}{kvs:List (Key×Value)}{Q:Value→Shared→Prop} (hh:A.handled=none) (hd:(d == sysModules)=false) (hm:s.heap.DictOf knd d kvs) (hn:kvs.length≤sizeLine)
  (hQ:∀s' acc' c',(∀b o,s.heap.get? b=some o→s'.heap.get? b=some o)→s'.gens=s.gens→s'.drawn=s.drawn→s'.os=s.os→s'.heap.get? s.heap.objs.size=some { cls:=.type "list",dict:=none,data:=.seq acc' c',slots:=#[] }→ItemsOf (fun i v=>∃k x,kvs[i]? = some (k,x)∧knd.is k v=true) acc' kvs.length→Q (.ref s.heap.objs.size) s') :
  wpAny (model prog w) A (call (.type "list") [.ref d]) Q E s:=by
 have ltd:d < s.heap.objs.size:=by
  obtain ⟨ep,hat⟩:=hm.dictAt;exact hat.lt_size
 refine callType_codes (Q₁:=fun obj s₁=>obj = .ref s.heap.objs.size∧s₁ = { s with heap:=s.heap.push { cls:=.type "list",data:=.seq #[] } }) PySem.F.called_list (PySem.F.typeCall_list_1 _) PySem.F.entry_list_init
  (code_list_new _ ⟨rfl,rfl⟩) fun obj s₁ h₁=>?_
 obtain ⟨rfl,rfl⟩:=h₁;have hS:(s.heap.push { cls:=.type "list",data:=.seq #[] }).get? s.heap.objs.size=some { cls:=.type "list",data:=.seq #[] }:=zD _ rfl;refine ⟨⟨_,hS,rfl⟩,PySem.F.args_list_init_2 _ _,?_⟩;show wpAny _ _ (do let old ←Builtin.List.listItems (.ref s.heap.objs.size); Builtin.List.listUpdate (.ref s.heap.objs.size) (fun _=>#[]); letGo old.toList.reverse; Builtin.List.listExtendWith (.ref s.heap.objs.size) (.ref d) .none) _ _ _;refine zc ?_;unfold Builtin.List.listItems;refine zc (wpAny_seqItems hS rfl (zd ?_));show wpAny _ _ (updateSeq s.heap.objs.size (fun _=>#[]) >>= fun _=>letGo (#[]:Array Value).toList.reverse >>= fun _=>Builtin.List.listExtendWith (.ref s.heap.objs.size) (.ref d) .none) _ _ _
 refine zc (wpAny_updateSeq hS rfl ?_);have hS₂:=Heap.get?_update_self (Obj.mapSeq (fun _=>(#[]:Array Value))) hS rfl;refine zc (wpAny_letGo ?_);have oth:∀b o,s.heap.get? b=some o→((s.heap.push { cls:=.type "list",data:=.seq #[] }).update s.heap.objs.size (Obj.mapSeq (fun _=>(#[]:Array Value)))).get? b=some o :=
  fun b o e=>(jf _ _ (Nat.ne_of_gt (zf e))).trans (zh _ e)
 have hm2:((s.heap.push { cls:=.type "list",data:=.seq #[] }).update s.heap.objs.size (Obj.mapSeq (fun _=>(#[]:Array Value)))).DictOf knd d kvs:=by
  obtain ⟨ep,hat⟩:=hm.dictAt;exact (hat.keep oth).dictOf
 refine QsJ (by exact hh) hd hm2 hn (zq ltd) .none _ hS₂ fun s' acc' c' kp g1 g2 g3 e1 e2=>?_
 exact ⟨rfl,hQ s' acc' c' (fun b o e=>kp b o (zq (zf e)) (oth b o e)) g1 g2 g3 e1 e2⟩
end
section
variable {X:Cx}{md:List Md}{P:Pt}{R:RR}
theorem QrS {P:Program}{w:World}{k:Key}{u:Value} (h:(Qbx P w).is k u=true):RelV (kV k) u:=by
 have h':Qfz k u=true:=h
 cases k with
 | inl i=>cases u <;> simp [Qfz,Value.isInt] at h' <;> exact ⟨_,by rw [h']⟩
 | inr x=>cases u <;> simp [Qfz,Value.isStrOf] at h' <;> exact ⟨_,by rw [h']⟩
theorem QnH (hc:X.calm=true):Qc5 X (.type "list") (fun xs H Q=>∃a kvs,xs = [V.ref a]∧H a=some (.dK kvs)∧∀l,H l=none→Q (.ref l) (upd H l (.lst (kvs.map fun p=>kV p.1)))):=by
 intro pins s σ H xs us Q I r h;obtain ⟨a,kvs,rfl,ha,q⟩:=h;obtain ⟨u,rfl,ru⟩:=vals1 r;cases ru;obtain ⟨z,hsy,vs,rel,dd⟩:=Qha I.hok ha;have hlen:=rel.length;have hkeys:=rel.keys
 refine Qlc (I.ok.hd hc) hsy dd (by omega) fun s' acc' c' kp g1 g2 g3 e1 e2=>?_
 obtain ⟨hp',gn',dr',tk',os'⟩:=s';obtain ⟨hp,gn,dr,tk,os⟩:=s;dsimp only at *;subst g1 g2 g3
 have rv:Qax (kvs.map fun p=>kV p.1) acc'.toList:=by
  refine Qkw _ _ (by rw [zp,hlen,←e2.1]; simp) fun j p v hp hv=>?_
  obtain ⟨k,x,f1,f2⟩:=e2.2 j v (by simpa using hv)
  have f3:(kvs.map (·.1))[j]? = some k:=by rw [hkeys,zG,f1]; rfl
  rw [zG] at hp f3
  cases e:kvs[j]? with
  | none=>rw [e] at hp; cases hp
  | some y =>
   rw [e] at hp f3;cases hp;cases f3;exact QrS f2
 exact ⟨.ref hp.objs.size,_,I.laid (t':=tk') kp (ze _) (show Qbb X.prog X.w _ hp' _ (.lst (kvs.map fun p=>kV p.1)) from ⟨by rw [zp]; exact z,acc'.toList,c',rv,by simpa using e1⟩),rfl,q _ (I.hok.fresh (ze _))⟩
def Qji (mo:M D):M D:=fun ρ O=>(mo ρ O).bind fun x O1=>match x with
 | .ob n=>match O1[n]? with
  | some (.dk kvs)=>.ok (.lst (kvs.map fun p=>QgX p.1)) O1
  | _=>.no
 | _=>.no
theorem Qqe {a:Expr}{p pos:Pos}{m:M D} (hc:X.calm=true) (hm:X.mg "list" = none) (h:VE X md P a m) (hg:Gl X "list":=by rfl) (hs1:starEach [a] X.env=(false,eval a X.env)::starEach [] X.env:=by exact Qbm rfl) (hpl:(backTo pos (starEach [] X.env)).any (·.1)=false:=by exact Qbu rfl):OE X md P (.Call (.Name "list" p) [a] [] pos) (Qji m) :=
 (Qkl (QnH hc) hg hm Qig (QbY h Qdf hs1) (by decide) (by decide) hs1 hpl).imp fun σ H Q q=>by
  obtain ⟨ρ,O,F,as,d,O',r,s,e,k⟩:=q;obtain ⟨x,O1,e1,e⟩:=Res.bind_ok e;split at e
  ·rename_i n;split at e
   ·rename_i kvs e4;cases e;refine ⟨ρ,_,F,as,_,_,r,s,e1,fun v H1 F1 as1 g1 r1 hv=>?_⟩;obtain ⟨a,rfl,ha⟩:=Rp.unO hv;obtain ⟨xs,x1,x2⟩:=r1.dk ha e4;refine ⟨a,xs,rfl,x1,fun l hl=>?_⟩
    have e5:(xs.map fun p=>kV p.1)=(kvs.map (·.1)).map kV:=by rw [←x2.1,jd]; rfl
    have e6:(kvs.map fun p=>QgX p.1)=(kvs.map (·.1)).map QgX:=by rw [jd]; rfl
    rw [e5];rw [e6] at k;exact Qh8 r1 (fun v H2 F2 g2 r2 hv=>k v H2 F2 as1 (g1.trans g2) r2 (QeI _ _ _ _ _ _ _ (fun a ha=>g1.dm a ha) hv)) hl (QjP _)
   ·cases e
  ·cases e
theorem Qpc (hc:X.calm=true):Qc5 X (.builtin "any") (fun xs H Q=>∃(a:Addr) (bs:List Bool),xs = [.ref a]∧SqL X.K H a (bs.map V.bl)∧Q (.bl (bs.any id)) H):=by
 intro pins s σ H xs us Q I r h;obtain ⟨a,bs,rfl,ha,q⟩:=h;obtain ⟨u,rfl,ru⟩:=vals1 r;cases ru;obtain ⟨its,rv,p,hz⟩:=I.list ha;refine call_any_walk (wpAny_pyIter_list p.isList ?_);have hne:a≠s.heap.objs.size:=zq (zf p.isList.choose_spec.1)
 refine ⟨s.heap.objs.size,_,_,its.toArray.size,_,_,fun i=>bs.getD i false,rfl,Walks.list (A:=X.A.in1) (I.ok.hd hc) s.heap.objs.size a hne its.toArray,
  ⟨⟨_,zD _ rfl,rfl,rfl⟩,p.isList.at fun o e=>zh _ e⟩,fun i v s' Q' E' hv hq=>?_,fun h' tk hk=>?_⟩
 ·have hb:(bs.map V.bl)[i]? = some (V.bl (bs.getD i false)):=by
   have hi:i < its.length:=by
    have z:=Array.getElem?_eq_some_iff.mp hv;simpa using z.1
   have hl:=rv.length;rw [zp] at hl;rw [zG,zx (by omega),zS,zx (by omega)];rfl
  obtain ⟨u,hu,ru⟩:=rv.get hb
  have hv':its[i]? = some v:=by simpa using hv
  rw [hv'] at hu;cases hu;cases (show v = .bool _ from ru);exact wpAny_truthy_bool hq
 ·refine ⟨.bl (bs.any id),H,I.kept fun b o e=>hk b o (fun z=>?_) (zh _ e),?_,q⟩
  ·have z':b=s.heap.objs.size:=by simpa using z
   exact absurd (zf e) (by rw [z']; exact zH _)
  ·have hl:its.length=bs.length:=by have:=rv.length; rw [zp] at this; exact this.symm
   have e:(List.range its.toArray.size).any (fun i=>bs.getD i false)=bs.any id:=by
    rw [zu,hl];rw [Bool.eq_iff_iff,List.any_eq_true,List.any_eq_true];constructor
    ·rintro ⟨i,hi,h⟩;have hi':=List.mem_range.mp hi;rw [zS,zx hi'] at h;exact ⟨_,jg hi',h⟩
    ·rintro ⟨x,hx,h⟩;obtain ⟨i,hi,rfl⟩:=List.mem_iff_getElem.mp hx;refine ⟨i,List.mem_range.mpr hi,?_⟩;rw [zS,zx hi];exact h
   show Value.bool _=Value.bool _;rw [e]
def QjB:List D→Option D
 | [.lst ds]=>(Qcv ds).map fun bs=>.bl (bs.any id)
 | _=>none
theorem Qt6 (hc:X.calm=true):QeF X (.builtin "any") QjB:=by
 intro pins s σ H xs us Q I rs h;obtain ⟨O,F,as,ds,d,r,hvs,e,k⟩:=h;unfold QjB at e;split at e
 ·rename_i es;obtain ⟨v,rfl,hv⟩:=hvs.one;obtain ⟨p,xs,rfl,h1,h2⟩:=hv.list r.fh
  cases q:Qcv es with
  | none=>rw [q] at e; cases e
  | some bs =>
   rw [q] at e;cases e;refine Qpc hc pins s σ H _ us Q I rs ⟨p,bs,rfl,?_,QaZ r k rfl Rp.bl⟩;rw [←h2.bools q];exact h1.sq
 ·cases e
theorem QtH:bootBuiltins "any" = some (.builtin "any"):=by decide +kernel
structure QbT (mg:Str→Option Value):Prop extends Blt mg where
 any_:mg "any" = none
end
end L2
namespace L2
open PySem PySem.Spec PyProof.Rows PySem.W
def QjQ (a:Addr) (o:Obj):It :=
 ⟨fun i H=>∃ys:List (Key×V),H a=some (.frz o (.dK ys))∧i < ys.length,
  fun i H x H'=>H'=H∧∀ys:List (Key×V),H a=some (.frz o (.dK ys))→∃p,ys[i]? = some p∧x=p.2,
  fun i H=>∃ys:List (Key×V),H a=some (.frz o (.dK ys))∧ys.length≤i⟩
theorem QjC {X:Cx}{pins:List (Addr×Obj)}{σ:St}{H:Hp}{s:Shared}{a:Addr}{o:Obj}{ys:List (Key×V)} (I:Inv X pins σ H s) (e:H a=some (.frz o (.dK ys))) :
  s.heap.get? a=some o∧(a == sysModules)=false∧∃vs es ep,o.data = .dict es ep∧es.size=ys.length∧KV ys vs∧s.heap.DictAt (Qbx X.prog X.w) a vs ep:=by
 obtain ⟨h1,z,y,vs,r,o',es,ep,h2,h3,h4,h5,h6,h7⟩:=(show Qbb X.prog X.w H s.heap a (.frz o (.dK ys)) from I.hok a _ e);rw [h1] at h2;cases h2
 have hl:es.size=vs.length:=by rw [←h6.length]; simp
 exact ⟨h1,y,vs,es,ep,h4,by rw [hl,r.length],r,o,es,h1,h3,h4,h5,h6,h7⟩
theorem Qpx {P:Program}{w:World}{K:Frag}{tg:Expr} (a it:Addr) (o:Obj) (es:Array DictEntry) (ep:Nat) (hd:o.data = .dict es ep):Turn P w K tg (QjQ a o) [it] it (fun i h=>h.IsValIter it a i es.size ep) where
 mem:=by simp
 obj:=fun i h st b hb=>by
  have e:b=it:=by simpa using hb
  subst e;obtain ⟨o,e,c,d⟩:=st;exact ⟨o,e,fun v z=>by rw [d] at z; cases z⟩
 keep:=fun i h h' st k=>st.at fun o e=>k it (by simp) o e
 item:=by
  intro X hP hw hK hc i pins s σ H E I hf st hg;subst hP hw hK;obtain ⟨ys,hq,hlt⟩:=hg;obtain ⟨q1,q2,vs,es',ep',q4,q5,rel,dd⟩:=QjC I hq;rw [hd] at q4;cases q4;obtain ⟨f0,f1,f2,f3,f4,f5⟩:=hf it (by simp);have hl:=rel.length
  have hi:i < vs.length:=by omega
  have hx:vs[i]? = some (vs[i].1,vs[i].2):=zx hi
  have st':s.heap.IsValIter it a i vs.length ep:=by rw [←hl,←q5]; exact st
  refine wpAny_pyNext_values_item st' dd hx fun h' st2 sb=>?_
  have I1:Inv X pins σ H { s with heap:=h' }:=I.turned (t':=s.toks) (fun b o hb e=>(sb.2 b hb).trans e) f0 f1 f3 f4 f5;obtain ⟨o2,e,c,d⟩:=id st2;refine ⟨_,rfl,Qja (s:={ s with heap:=h' }) e c d (by decide) ⟨ys[i].2,H,I1,(Qn9 rel (zx hlt) (zx hi)).2,⟨rfl,fun zs hz=>?_⟩,by rw [q5,hl]; exact st2,fun b hb=>(hf b hb).1⟩⟩;rw [hq] at hz;cases hz;exact ⟨ys[i],zx hlt,rfl⟩
 done:=by
  intro X hP hw hK hc i pins s σ H E I hf st hg;subst hP hw hK;obtain ⟨ys,hq,hge⟩:=hg;obtain ⟨q1,q2,vs,es',ep',q4,q5,rel,dd⟩:=QjC I hq;rw [hd] at q4;cases q4;obtain ⟨f0,f1,f2,f3,f4,f5⟩:=hf it (by simp);have hl:=rel.length
  have st':s.heap.IsValIter it a i vs.length ep:=by rw [←hl,←q5]; exact st
  exact wpAny_pyNext_values_end (I.ok.hd hc) st' dd (List.getElem?_eq_none (by omega)) fun h' eb=>⟨rfl,I.turned (t':=s.toks) (fun b o hb e=>eb b o hb e) f0 f1 f3 f4 f5⟩
 self:=fun _ _ _ _ _ st h=>wpAny_pyIter_valiter st h
section
variable {X:Cx}{pins:List (Addr×Obj)}{σ:St}{H:Hp}{s:Shared}{a:Addr}{xs:List (Key×V)}
theorem Inv.base0K (I:Inv X pins σ H s) (e:H a=some (.dK xs)):∀o u,X.H₀ a≠some (.frz o u):=fun o u z=>by
 have:=I.base.frzs a o u z
 rw [e] at this;cases this
theorem Inv.freezeK (I:Inv X pins σ H s) (e:H a=some (.dK xs)):∃o,s.heap.get? a=some o∧Inv X pins σ (upd H a (.frz o (.dK xs))) s:=by
 have hx:=I.hok a _ e
 obtain ⟨o,ho⟩:∃u,s.heap.get? a=some u:=by
  obtain ⟨_,_,_,_,_,_,_,z,_⟩:=hx;exact ⟨_,z⟩
 refine ⟨o,ho,I.reword (by rw [e]; exact fun z=>nomatch z) (by rw [e]; exact fun _ z=>nomatch z) (by rw [e]; exact fun _ z=>nomatch z) (by rw [e]; exact fun _ z=>nomatch z) (I.base0K e) ⟨ho,?_⟩⟩
 exact Qbb.stay hx (fun _ _ _ z=>z) (fun c z=>by rw [Qah (fun q=>by rw [q,e] at z; cases z)]; exact z) fun c ys z=>by rw [Qah (fun q=>by rw [q,e] at z; cases z)]; exact z
end
def Qwm (tl:TE):TI:=fun σ H R=>tl σ H fun x H1=>∃a xs,x = .ref a∧((H1 a=some (.dK xs)∧∀o,R (QjQ a o) (upd H1 a (.frz o (.dK xs))))∨∃o,H1 a=some (.frz o (.dK xs))∧R (QjQ a o) H1)
theorem QrP {X:Cx}{tg l:Expr}{apos cpos:Pos}{tl:TE} (hl:PE X l tl) (hbase:attributeBase l "values" X.env (eval l X.env)=eval l X.env:=by rfl) (hline:(apos.endLine == cpos.line)=true:=by rfl):PI X tg (.Call (.Attribute l "values" apos) [] [] cpos) (Qwm tl):=by
 intro pins s σ H R I h;refine wpAny_Call_method0_late hbase hline (thn (hl pins s σ H _ I h) fun v s1 ⟨x,H1,I1,r1,q1⟩=>?_);obtain ⟨a,xs,rfl,q⟩:=q1;cases r1
 obtain ⟨o,H2,I2,e2,q2⟩:∃o H2,Inv X pins σ H2 s1∧H2 a=some (.frz o (.dK xs))∧R (QjQ a o) H2:=by
  rcases q with ⟨hq,q⟩ | ⟨o,hq,q⟩
  ·obtain ⟨o,ho,I2⟩:=I1.freezeK hq;exact ⟨o,_,I2,Qay,q o⟩
  ·exact ⟨o,H1,I1,hq,q⟩
 obtain ⟨q1,qs,vs,es,ep,q4,q5,rel,dd⟩:=QjC I2 e2;have ty:s1.TypeIs (.ref a) "dict":=dd.dictOf.typeIs
 have nd:∀b,Value.ref a = .ref b→∃ob,s1.heap.get? b=some ob∧ob.dict=none:=fun b hb=>by
  cases hb;obtain ⟨ob,_,h1,h2,_⟩:=id dd;exact ⟨ob,h1,h2.2.1⟩
 refine ⟨"dict","dict.values",PySem.F.plainAttrs_dict,PySem.F.slot_dict_values,PySem.F.type_dict_values,ty,nd,Calls.callWith_builtin rfl (PySem.evalArgs_none ?_)⟩;refine call_meetsIn PySem.F.slot_dict_values ty PySem.F.entry_dict_values (PySem.F.args_dict_values_1 _) (meets_dict_values (Qbx X.prog X.w) a qs) ⟨⟨vs,dd.dictOf⟩,?_⟩
 have I3:Inv X pins σ H2 { s1 with heap:=s1.heap.push { cls:=.type "dict_values",data:=.fields #[.ref a] } }:=I2.kept (t':=s1.toks) fun b o e=>zh _ e
 have dd3:=dd.push { cls:=.type "dict_values",data:=.fields #[.ref a] };show wpAny _ _ (pyIter (.ref s1.heap.objs.size)) _ _ _;refine wpAny_pyIter_values (s:={ s1 with heap:=s1.heap.push { cls:=.type "dict_values",data:=.fields #[.ref a] } }) ⟨_,zD _ rfl,rfl,rfl⟩ dd3 ?_;have hl':=rel.length;refine ⟨_,[_],_,_,H2,rfl,I3.kept (t':=s1.toks) fun b o e=>zh _ e,Qpx a _ o es ep q4,⟨_,zD _ rfl,rfl,?_⟩,fun b hb=>?_,q2⟩
 ·rw [q5,hl'];rfl
 ·have e:b=(s1.heap.push { cls:=.type "dict_values",data:=.fields #[.ref a] }).objs.size:=by simpa using hb
  subst e;exact I3.fpOk (ze _) (I3.hok.fresh (ze _))
section
variable {K:Frag}{mg:Str→Option Value}{O:Qac}{H F:Hp}{as:List Addr}
theorem RlO.kf {n:Nat}{a:Addr}{kvs:List (Key×D)} (r:RlO K mg O H F as) (hn:as[n]? = some a) (hO:O[n]? = some (.kf kvs)):∃o xs,H a=some (.frz o (.dK xs))∧DkR K F as xs kvs:=let ⟨o,xs,h1,h2,h3⟩:=r.ob n a _ hn hO; ⟨o,xs,h1,h2,h3⟩
end
section
variable {X:Cx}{md:List Md}{P:Pt}{R:RR}
def Qh0 (m:M D):M (List D):=fun ρ O=>(m ρ O).bind fun d O1=>match d with
 | .ob n=>match O1[n]? with
  | some (.dk kvs)=>.ok (kvs.map (·.2)) (O1.set n (.kf kvs))
  | some (.kf kvs)=>.ok (kvs.map (·.2)) O1
  | _=>.no
 | _=>.no
theorem Qol {K:Frag}{F:Hp}{as:List Addr}:∀{xs:List V}{ds:List D}{i:Nat}{x:V}{d:D},Rps K F as xs ds→xs[i]? = some x→ds[i]? = some d→Rp K F as x d
 | xs,[],i,x,d,h,h1,h2=>by cases h2
 | xs,e::ds,i,x,d,h,h1,h2=>by
  obtain ⟨y,r,rfl,q1,q2⟩:=h.un
  cases i with
  | zero=>cases h1; cases h2; exact q1
  | succ i=>exact Qol q2 h1 h2
theorem Qsz {tg e:Expr}{apos cpos:Pos}{m:M D} (h:VE X md P e m) (hbase:attributeBase e "values" X.env (eval e X.env)=eval e X.env:=by rfl) (hline:(apos.endLine == cpos.line)=true:=by rfl):VI X md P tg (.Call (.Attribute e "values" apos) [] [] cpos) (Qh0 m):=(QrP h hbase hline).imp fun σ H Q q=>by
 obtain ⟨ρ,O,F,as,ds,O',r,s,e,k⟩:=q;obtain ⟨d,O1,e1,e⟩:=Res.bind_ok e
 have item:∀{F1 F2 H1 H2:Hp}{as1 as2:List Addr}{xs:List (Key×V)}{kvs:List (Key×D)}{i:Nat}{d:D}{p:Key×V},DkR X.K F1 as1 xs kvs→GrS P H1 F1 as1 H2 F2 as2→xs[i]? = some p→(kvs.map (·.2))[i]? = some d→Rp X.K F2 as2 p.2 d:=fun x2 g2 hp hd=>Rp.grS (Qol x2.2 (by rw [zG,hp]; rfl) hd) g2
 split at e
 ·rename_i n;split at e
  ·rename_i kvs e2;cases e;refine ⟨ρ,_,F,as,_,_,r,s,e1,fun v H1 F1 as1 g1 r1 hv=>?_⟩;obtain ⟨a,rfl,ha⟩:=Rp.unO hv;obtain ⟨xs,x1,x2⟩:=r1.dk ha e2;refine ⟨a,xs,rfl,.inl ⟨x1,fun o=>k (QjQ a o) (upd H1 a (.frz o (.dK xs))) F1 as1 (g1.trans (Qmk (zR ha) x1)) (r1.mutG ha ⟨o,xs,Qay,x2.1,x2.2⟩) ⟨fun i d H2 F2 as2 g2 r2 hd=>?_,fun H2 F2 as2 g2 r2=>?_⟩⟩⟩
   ·have hz:=g2.kz a o _ Qay
    have hi:i < kvs.length:=by have:=(zo.mp hd).1; rwa [zp] at this
    have hi':i < xs.length:=by rw [x2.len]; exact hi
    refine ⟨⟨xs,hz,hi'⟩,fun x H3 y=>?_⟩;obtain ⟨rfl,hy⟩:=y;obtain ⟨p,hp,rfl⟩:=hy xs hz;exact ⟨F2,Gr.refl,fun _ r=>r,item x2 g2 hp hd⟩
   ·exact ⟨xs,g2.kz a o _ Qay,by rw [zp,x2.len]; exact ze _⟩
  ·rename_i kvs e2;cases e;refine ⟨ρ,_,F,as,_,_,r,s,e1,fun v H1 F1 as1 g1 r1 hv=>?_⟩;obtain ⟨a,rfl,ha⟩:=Rp.unO hv;obtain ⟨o,xs,x1,x2⟩:=r1.kf ha e2;refine ⟨a,xs,rfl,.inr ⟨o,x1,k (QjQ a o) H1 F1 as1 g1 r1 ⟨fun i d H2 F2 as2 g2 r2 hd=>?_,fun H2 F2 as2 g2 r2=>?_⟩⟩⟩
   ·have hz:=g2.kz a o _ x1
    have hi:i < kvs.length:=by have:=(zo.mp hd).1; rwa [zp] at this
    have hi':i < xs.length:=by rw [x2.len]; exact hi
    refine ⟨⟨xs,hz,hi'⟩,fun x H3 y=>?_⟩;obtain ⟨rfl,hy⟩:=y;obtain ⟨p,hp,rfl⟩:=hy xs hz;exact ⟨F2,Gr.refl,fun _ r=>r,item x2 g2 hp hd⟩
   ·exact ⟨xs,g2.kz a o _ x1,by rw [zp,x2.len]; exact ze _⟩
  ·cases e
 ·cases e
end
theorem QsI (f:Nat→Option Bool×Unit→Sem (ForInStep (Option Bool×Unit))):(forIn [:0] (none,()) f:Sem (Option Bool×Unit))=pure (none,()):=by simp
section
variable {prog:Program}{w:World}{A:Around}{E:Value→Shared→Prop}{s:Shared}
theorem Qkc {d:Addr}{Q:Unit→Shared→Prop} (hd:(d == sysModules)=false) (h:Q () s):wpAny (model prog w) A (Builtin.Dict.showsAll d) Q E s:=by
 unfold Builtin.Dict.showsAll;rw [if_neg (by rw [hd]; exact zj)];exact zd h
theorem Qvp (knd:KeyKind prog w Key) {a b:Addr} (ha:(a == sysModules)=false) (hb:(b == sysModules)=false) (id:String) {Q:Bool→Shared→Prop} (ma:s.heap.DictOf knd a []) (mb:s.heap.DictOf knd b []) (h:Q true s):wpAny (model prog w) A (Builtin.Dict.samePairs id a b) Q E s:=by
 obtain ⟨oa,ea,pa,a1,a2,a3,a4,a5,a6⟩:=ma;obtain ⟨ob,eb,pb,b1,b2,b3,b4,b5,b6⟩:=mb;have za:ea = #[]:=Array.eq_empty_of_size_eq_zero (by rw [←Array.length_toList,a5.length]; rfl);have zb:eb = #[]:=Array.eq_empty_of_size_eq_zero (by rw [←Array.length_toList,b5.length]; rfl);subst za zb;unfold Builtin.Dict.samePairs;refine zc (Qkc ha (zc (Qkc hb (zc (wpAny_dictEntries a1 a3 (zc (wpAny_dictEntries b1 b3 ?_)))))));rw [if_neg (by decide)];refine zc (wpAny_dictEpoch a1 a3 ?_);rw [show (#[]:Array DictEntry).size=0 from rfl,QsI];exact zc (zd (zd h))
theorem Qpa (knd:KeyKind prog w Key) (a b:Addr) (ha:(a == sysModules)=false) (hb:(b == sysModules)=false) :
  MeetsIn prog w (Builtin.«dict.__eq__» ⟨[.ref a,.ref b],[]⟩) (fun _ R s=>(s.heap.DictOf knd a []∧s.heap.DictOf knd b [])∧R (.ok (.ret (.bool true))) s) :=
 .of_wp fun A R s ⟨⟨ma,mb⟩,h⟩=>by
  show wpAny _ _ (Builtin.Dict.dictSlotArgs "__eq__" ⟨[.ref a,.ref b],[]⟩ >>= _) _ _ s;refine zc ?_;unfold Builtin.Dict.dictSlotArgs;refine zc (wpAny_notOrdered_dict ma.typeIs ?_);show wpAny _ _ (pure (Value.ref a,Value.ref b)) _ _ s;refine zd ?_;refine zc (wpAny_isInstance mb.typeIs PySem.F.sub_dict_dict ?_);rw [if_neg (by decide)];refine zc (zd (zc (zd (zc (Qvp knd ha hb _ ma mb ?_)))));exact zd ⟨_,rfl,h⟩
end
section
variable {X:Cx}{md:List Md}{P:Pt}{R:RR}
def dkAt (O:Qac) (n:Nat):Option (List (Key×D)):=match O[n]? with
 | some (.dk kvs)=>some kvs
 | some (.kf kvs)=>some kvs
 | _=>none
theorem RlO.dkAt {K:Frag}{mg:Str→Option Value}{O:Qac}{H F:Hp}{as:List Addr}{n:Nat}{a:Addr}{kvs:List (Key×D)} (r:RlO K mg O H F as) (hn:as[n]? = some a) (hO:dkAt O n=some kvs):∃xs,Rd H a (.dK xs)∧DkR K F as xs kvs:=by
 unfold L2.dkAt at hO;split at hO
 ·rename_i e;cases hO;obtain ⟨xs,h1,h2⟩:=r.dk hn e;exact ⟨xs,.inl h1,h2⟩
 ·rename_i e;cases hO;obtain ⟨o,xs,h1,h2⟩:=r.kf hn e;exact ⟨xs,.inr ⟨o,h1⟩,h2⟩
 ·cases hO
def Qh6 (neg:Bool) (my mo:M D):M D:=fun ρ O=>(my ρ O).bind fun y O1=>(mo ρ O1).bind fun x O2=>match x with
 | .ob n=>match keyOf y,dkAt O2 n with
  | some k,some kvs=>.ok (.bl (neg != (Qdi kvs k).isSome)) O2
  | _,_=>.no
 | _=>.no
theorem QpI {mo my:M D}{σ:St}{H:Hp}{Q:VK} (q:tM X.K X.mg md P (rO X.K) (Qh6 true my mo) σ H Q):QmD (tM X.K X.mg md P (rV X.K) my) (tM X.K X.mg md P (rV X.K) mo) σ H Q:=by
 obtain ⟨ρ,O,F,as,d,O',r,s,e,k⟩:=q;obtain ⟨y,O1,e1,e⟩:=Res.bind_ok e;obtain ⟨x,O2,e2,e⟩:=Res.bind_ok e;split at e
 ·rename_i n;split at e
  ·rename_i ks kvs e3 e4;cases e;refine ⟨ρ,_,F,as,_,_,r,s,e1,fun u H1 F1 as1 g1 r1 hu=>⟨ρ,_,F1,as1,_,_,r1,s.step g1,e2,fun x H2 F2 as2 g2 r2 hx=>?_⟩⟩;obtain ⟨a,rfl,ha⟩:=Rp.unO hx;obtain ⟨xs,x1,x2⟩:=r2.dkAt ha e4;have hkv:u=kV ks:=((show Rp X.K F1 as1 u y from hu).gr g2).key e3;subst hkv;refine ⟨a,_,rfl,.inl ⟨xs,ks,x1,rfl,rfl⟩,?_⟩
   rcases x2.val (k:=ks) with ⟨z1,z2⟩ | ⟨d',v',z1,z2,z3⟩
   ·rw [z1] at k;rw [z2];exact k _ H2 F2 as2 (g1.trans g2) r2 (.inl ⟨rfl,Rp.bl⟩)
   ·rw [z1] at k;rw [z2];exact k _ H2 F2 as2 (g1.trans g2) r2 (.inl ⟨rfl,Rp.bl⟩)
  ·cases e
 ·cases e
theorem Qqa {kk:Nat} (hr:QaG kk X.A) {o i:Expr}{pos:Pos}{mo my:M D} (hi:VE X md P i my) (ho:VE X md P o mo) (hm:behindInMarks .NotIn o=false:=by with_unfolding_all rfl):TsE X md P (.Compare i [.NotIn] [o] pos) (QaQ (Qh6 true my mo)) :=
 (Qt8 (QnX (QnF hr) hi ho) hm).imp fun σ H Q h=>QpI (QjV h)
theorem Qr1 {k:Nat} (hr:QaG k (Qfv X.A)):OpR X (compareOp .Eq) (QpF X.K false):=by
 intro pins s σ H x y v u Q I rx ry h;obtain ⟨d,e,h1,h2,k1,k2,q⟩:=h;obtain ⟨as,r1⟩:=Rep.reads I d h1 rx;obtain ⟨bs,r2⟩:=Rep.reads I e h2 ry;unfold okD at k1 k2;simp only [zk,decide_eq_true_eq] at k1 k2;exact SeqAt.compareEq_reads r1 r2 k1.1 k2.1 (by have:=hr.un; show X.A.units+_ < _; have z:(Qfv X.A).units=X.A.units:=rfl; omega) ⟨.bl _,H,I,rfl,q⟩
def QiO:D→D→Option D
 | .dic [] [],.dic [] []=>some (.bl true)
 | a,b=>gEq a b
theorem QuA {k:Nat} (hr:QaG k (Qfv X.A)):OpD X (compareOp .Eq) QiO:=by
 intro pins s σ H x y v u Q I rx ry h';obtain ⟨O,F,as,dx,dy,d,r,hx,hy,e,k⟩:=h';unfold QiO at e;split at e
 ·cases e;have hx':=hx.rp rfl;have hy':=hy.rp rfl;rw [Rp] at hx' hy';obtain ⟨a,kvs,rfl,a2,a3,_⟩:=hx';obtain ⟨b,lvs,rfl,b2,b3,_⟩:=hy'
  have rd:∀(c:Addr) (ks:List (Key×V)),F c=some (.dK ks)→[]=ks.map (fun p=>QgX p.1)→(c == sysModules)=false∧s.heap.DictOf (Qbx X.prog X.w) c []:=fun c ks hF hk=>by
   have hks:ks = []:=List.map_eq_nil_iff.mp hk.symm;subst hks;obtain ⟨_,hs,vs,rel,dd⟩:=Qha I.hok (r.fh c _ hF);have hv:vs = []:=List.eq_nil_of_length_eq_zero (by rw [←rel.length]; rfl);subst hv;exact ⟨hs,dd⟩
  have ru:u = .ref b:=ry;have rv:v = .ref a:=rx;subst ru rv;obtain ⟨sa,da⟩:=rd a kvs a2 a3;obtain ⟨sb,db⟩:=rd b lvs b2 b3
  have hu:X.A.units < cLine:=by
   have:=hr.un
   have z:(Qfv X.A).units=X.A.units:=rfl;omega
  show wpAny _ _ (richCompare .Eq (.ref a) (.ref b)) _ _ _;refine wpAny_richCompare_same_room (op:=.Eq) da.typeIs db.typeIs PySem.F.slot_dict_eq ?_ hu;refine call_meetsIn PySem.F.slot_dict_eq da.typeIs PySem.F.entry_dict_eq (PySem.F.args_dict_eq_2 _ _) (Qpa (Qbx X.prog X.w) a b sa sb) ?_;refine ⟨⟨da,db⟩,?_⟩;refine (And.intro ?_ ?_:(Value.bool true≠.notImplemented)∧EP X pins σ Q (.bool true) s)
  ·intro z; cases z
  ·exact ⟨.bl true,H,I,rfl,QaZ r k rfl Rp.bl⟩
 ·rcases Qmw e with ⟨i,j,rfl,rfl,rfl⟩ | ⟨i,j,rfl,rfl,rfl⟩ | ⟨i,j,rfl,rfl,rfl⟩ | ⟨h1,h2,rfl⟩
  ·cases (hx.rp rfl).unI;cases (hy.rp rfl).unI;refine Qh5 pins s σ H _ _ v u Q I rx ry ⟨rfl,?_⟩;rw [Qng];exact QaZ r k rfl Rp.bl
  ·cases (hx.rp rfl).unS;cases (hy.rp rfl).unS;refine Qh5 pins s σ H _ _ v u Q I rx ry ⟨rfl,?_⟩;rw [QnC];exact QaZ r k rfl Rp.bl
  ·cases (hx.rp rfl).unB;cases (hy.rp rfl).unB;refine Qh5 pins s σ H _ _ v u Q I rx ry ⟨rfl,?_⟩;rw [Qnz];exact QaZ r k rfl Rp.bl
  ·unfold okE at h1 h2;rw [zk] at h1 h2;exact Qr1 hr pins s σ H _ _ v u Q I rx ry ⟨toP dx,toP dy,hx.rep r.fh h1.1,hy.rep r.fh h2.1,h1.2,h2.2,QaZ r k rfl Rp.bl⟩
end
section
variable {K:Frag}{h:Heap}{mg:Str→Option Value}
theorem mkD {x:Str}{st:Stmt}{f:Addr}{oc:Value}{od an:Option Addr}{sl:Array (Option Value)}{kV dc pm cd ct:Value} (X:K.In h) (G:h.Ns mainGlobals mg) (a:nsIn K mainGlobals x=some (some (.ref f))) (l:K.lookup f=some ⟨oc,od,.func (fnOf x x (QbD st) (QaX st) (Qaj st) .none kV dc pm an cd ct),sl⟩) (c:codeIn K cd x=true) (k:keepIn K (.ref f)=true):Def K mg x st:=⟨_,_,mg_of X G a,Qhv l c k⟩
structure ClsAt (K:Frag) (c:Str) (A:Addr):Prop where
 ns:nsIn K mainGlobals c=some (some (.ref A))
 pg:plainGet K A Str.empty=true
 hd:hasDictIn K A=true
 po:plainOver K A=true
 sa:findIn K (.ref A) "__setattr__" = some (some (.builtin "object.__setattr__"))
 mks:makesIn K A=true
 kc:keepIn K (.ref A)=true
def MethAt (K:Frag) (A:Addr) (m qual:Str) (st:Stmt):Prop:=∃f fd,findIn K (.ref A) m=some (some (.ref f))∧isFn K (.ref f)=true∧keepIn K (.ref f)=true∧Fun K m qual st f fd
theorem mkM {A:Addr}{m qual:Str}{st:Stmt}{f:Addr}{oc:Value}{od an:Option Addr}{sl:Array (Option Value)}{kV dc pm cd ct:Value} (a:findIn K (.ref A) m=some (some (.ref f))) (i:isFn K (.ref f)=true) (l:K.lookup f=some ⟨oc,od,.func (fnOf m qual (QbD st) (QaX st) (Qaj st) .none kV dc pm an cd ct),sl⟩) (c:codeIn K cd qual=true) (k:keepIn K (.ref f)=true):MethAt K A m qual st:=⟨_,_,a,i,k,Qhv l c k⟩
variable {A:Addr}{c:Str}
theorem ClsAt.cl (z:ClsAt K c A):Cls K A:=⟨z.pg,z.hd,z.po,z.sa⟩
theorem ClsAt.dm (z:ClsAt K c A) (X:K.In h) (G:h.Ns mainGlobals mg) {m qual:Str}{st:Stmt} (q:MethAt K A m qual st):QiA K mg c m qual st:=by
 obtain ⟨f,fd,a,i,k,fu⟩:=q;exact ⟨_,_,_,mg_of X G z.ns,z.cl,⟨a,i,k⟩,fu⟩
theorem ClsAt.dc (z:ClsAt K c A) (X:K.In h) (G:h.Ns mainGlobals mg) {qual:Str}{st:Stmt} (q:MethAt K A "__init__" qual st):QpQ K mg c qual st:=by
 obtain ⟨f,fd,a,i,k,fu⟩:=q;exact ⟨_,_,_,mg_of X G z.ns,⟨z.mks,a,i,z.kc⟩,fu⟩
theorem ClsAt.kf (z:ClsAt K c A) (X:K.In h) (G:h.Ns mainGlobals mg) {f:Str} (n:findIn K (.ref A) f=some none):KC K mg c f:=⟨_,mg_of X G z.ns,z.cl,n⟩
end
end L2
namespace L2
open PySem PySem.Spec PyProof.Rows
section
variable {X:Cx}
end
def ofO (o:Option D) (O:Qac):Res D:=match o with
 | some d=>.ok d O
 | none=>.no
@[simp] theorem Qcz {d:D}{O:Qac}:ofO (some d) O = .ok d O:=rfl
@[simp] theorem Qam {α β:Type}{a:α}{O:Qac}{f:α→Qac→Res β}:(Res.ok a O).bind f=f a O:=rfl
@[simp] theorem Qv5 {O:Qac}:QaN O .non = .non:=rfl
@[simp] theorem Qp1 {O:Qac}{b:Bool}:QaN O (.bl b) = .bl b:=rfl
@[simp] theorem Qbc {O:Qac}{b:Int}:QaN O (.int b) = .int b:=rfl
@[simp] theorem QdZ {O:Qac}{b:List Nat}:QaN O (.str b) = .str b:=rfl
@[simp] theorem QhC {O:Qac}{b:List D}:QaN O (.lst b) = .lst b:=rfl
@[simp] theorem Qv1 {O:Qac}{b:List D}:QaN O (.tup b) = .tup b:=rfl
@[simp] theorem Qv0 {O:Qac}{a b:List D}:QaN O (.dic a b) = .dic a b:=rfl
@[simp] theorem Qb4 {i:Nat}{ρ:Qai}{O:Qac}:Qaa i ρ O=(match ρ[i]? with | some (some d)=>.ok d O | _=>.no):=rfl
@[simp] theorem m_c {d:D}{ρ:Qai}{O:Qac}:mC d ρ O = .ok d O:=rfl
@[simp] theorem Qjx {g:D→D→Option D}{a b:M D}{ρ:Qai}{O:Qac}:Qae g a b ρ O=(a ρ O).bind fun x O1=>(b ρ O1).bind fun y O2=>ofO (g (QaN O2 x) (QaN O2 y)) O2:=rfl
def gF (r:Res D):Res D:=match r with
 | .ok d O'=>if Qes d=true then .ok d O' else .no
 | r=>r
@[simp] theorem m_g {m:M D}{ρ:Qai}{O:Qac}:mG m ρ O=gF (m ρ O):=rfl
@[simp] theorem Qob {i:Int}{O:Qac}:gF (.ok (.int i) O) = .ok (.int i) O:=rfl
@[simp] theorem QxF {i:List Nat}{O:Qac}:gF (.ok (.str i) O) = .ok (.str i) O:=rfl
@[simp] theorem Qyf {i:Bool}{O:Qac}:gF (.ok (.bl i) O) = .ok (.bl i) O:=rfl
@[simp] theorem QxG {O:Qac}:gF (.ok .non O) = .ok .non O:=rfl
@[simp] theorem QxE {l:List D}{O:Qac}:gF (.ok (.tup l) O) = .ok (.tup l) O:=rfl
@[simp] theorem Qx3 {n:Nat}{O:Qac}:gF (.ok (.ob n) O) = .ok (.ob n) O:=rfl
def chF (o:Option D) (O:Qac) (f:Unit→Res D):Res D:=match o with
 | some (.bl true)=>f ()
 | some (.bl false)=>.ok (.bl false) O
 | _=>.no
@[simp] theorem QqT {b:Bool}{O:Qac}{f:Unit→Res D}:chF (some (.bl b)) O f=if b=true then f () else .ok (.bl false) O:=by cases b <;> rfl
@[simp] theorem QmS {g g':D→D→Option D}{a b c:M D}{ρ:Qai}{O:Qac}:QbO g g' a b c ρ O=(a ρ O).bind fun x O1=>(b ρ O1).bind fun y O2=>chF (g (QaN O2 x) (QaN O2 y)) O2 fun _=>(c ρ O2).bind fun z O3=>ofO (g' (QaN O3 y) (QaN O3 z)) O3:=by
 unfold QbO;congr 1
@[simp] theorem Qyl {m:M D}{ρ:Qai}{O:Qac}:QwK m ρ O=(m ρ O).bind fun d O1=>.ok (.bl (isNon d)) O1:=rfl
@[simp] theorem QxM {m:M D}{ρ:Qai}{O:Qac}:QvN m ρ O=(m ρ O).bind fun d O1=>.ok (.bl (!isNon d)) O1:=rfl
@[simp] theorem QvY:isNon .non=true:=rfl
@[simp] theorem Qv4 {l:List D}:isNon (.lst l)=false:=rfl
@[simp] theorem Qv3 {l:List D}:isNon (.tup l)=false:=rfl
@[simp] theorem Qv2 {l:List Nat}:isNon (.str l)=false:=rfl
@[simp] theorem Qv7 {l:Int}:isNon (.int l)=false:=rfl
@[simp] theorem Qw7 {l:Nat}:isNon (.ob l)=false:=rfl
def teF (d:D) (O:Qac):Res Bool:=match d with
 | .bl b=>.ok b O
 | _=>.no
@[simp] theorem QoS {b:Bool}{O:Qac}:teF (.bl b) O = .ok b O:=rfl
@[simp] theorem QoR {m:M D}{ρ:Qai}{O:Qac}:QaQ m ρ O=(m ρ O).bind teF:=rfl
def ofB (o:Option Bool) (O:Qac):Res Bool:=match o with
 | some d=>.ok d O
 | none=>.no
@[simp] theorem Qp4 {d:Bool}{O:Qac}:ofB (some d) O = .ok d O:=rfl
@[simp] theorem QgY {m:M D}{ρ:Qai}{O:Qac}:Qa4 m ρ O=(m ρ O).bind fun d O1=>ofB (Qj0 (QaN O1 d)) O1:=rfl
@[simp] theorem QrZ {b:Bool}:Qj0 (.bl b)=some b:=rfl
@[simp] theorem Qxc {b:List D}:Qj0 (.lst b)=some (!b.isEmpty):=rfl
@[simp] theorem QsQ {a b:M Bool}{ρ:Qai}{O:Qac}:Qib a b ρ O=(a ρ O).bind fun c O1=>if c=true then b ρ O1 else .ok false O1:=rfl
@[simp] theorem Qm5 {a b:M Bool}{ρ:Qai}{O:Qac}:QbN a b ρ O=(a ρ O).bind fun c O1=>if c=true then .ok true O1 else b ρ O1:=rfl
@[simp] theorem QhO {a:M Bool}{ρ:Qai}{O:Qac}:Qa1 a ρ O=(a ρ O).bind fun c O1=>.ok (!c) O1:=rfl
def anF (d:D) (O:Qac) (f:Unit→Res D):Res D:=match d with
 | .bl true=>f ()
 | .bl false=>.ok (.bl false) O
 | _=>.no
def orF (d:D) (O:Qac) (f:Unit→Res D):Res D:=match d with
 | .bl true=>.ok (.bl true) O
 | .bl false=>f ()
 | _=>.no
@[simp] theorem Qx1 {b:Bool}{O:Qac}{f:Unit→Res D}:anF (.bl b) O f=if b=true then f () else .ok (.bl false) O:=by cases b <;> rfl
@[simp] theorem Qyk {b:Bool}{O:Qac}{f:Unit→Res D}:orF (.bl b) O f=if b=true then .ok (.bl true) O else f ():=by cases b <;> rfl
@[simp] theorem Qd9 {a b:M D}{ρ:Qai}{O:Qac}:Qa7 a b ρ O=(a ρ O).bind fun d O1=>anF d O1 fun _=>b ρ O1:=by
 unfold Qa7;congr 1
@[simp] theorem Qyj {a b:M D}{ρ:Qai}{O:Qac}:Qtk a b ρ O=(a ρ O).bind fun d O1=>orF d O1 fun _=>b ρ O1:=by
 unfold Qtk;congr 1
def noF (d:D) (O:Qac):Res D:=match d with
 | .bl b=>.ok (.bl (!b)) O
 | _=>.no
@[simp] theorem Qx8 {b:Bool}{O:Qac}:noF (.bl b) O = .ok (.bl (!b)) O:=rfl
@[simp] theorem Qpm {a:M D}{ρ:Qai}{O:Qac}:Qc4 a ρ O=(a ρ O).bind noF:=rfl
@[simp] theorem Qyq {t:M Bool}{a b:M D}{ρ:Qai}{O:Qac}:mIf t a b ρ O=(t ρ O).bind fun c O1=>if c=true then a ρ O1 else b ρ O1:=rfl
@[simp] theorem Qoe {ρ:Qai}{O:Qac}:Qag ρ O = .ok [] O:=rfl
@[simp] theorem QjS {m:M D}{r:M (List D)}{ρ:Qai}{O:Qac}:Qab m r ρ O=(m ρ O).bind fun d O1=>(r ρ O1).bind fun ds O2=>.ok (d::ds) O2:=rfl
@[simp] theorem Qu0 {r:M (List D)}{ρ:Qai}{O:Qac}:Qb5 r ρ O=(r ρ O).bind fun ds O1=>if ds.length≤1000000 then .ok (.lst ds) O1 else .no:=rfl
@[simp] theorem Qvv {r:M (List D)}{ρ:Qai}{O:Qac}:Qc2 r ρ O=(r ρ O).bind fun ds O1=>if ds.length≤1000000 then .ok (.tup ds) O1 else .no:=rfl
@[simp] theorem QnZ {c:List D→Qac→Res D}{ma:M (List D)}{ρ:Qai}{O:Qac}:Qaq c ma ρ O=(ma ρ O).bind fun ds O1=>c ds O1:=rfl
@[simp] theorem Ql8 {g:List D→Option D}{ma:M (List D)}{ρ:Qai}{O:Qac}:QaP g ma ρ O=(ma ρ O).bind fun ds O1=>ofO (g (ds.map (QaN O1))) O1:=rfl
@[simp] theorem Qyp {g:D→Option D}{ma:M D}{ρ:Qai}{O:Qac}:mUn g ma ρ O=(ma ρ O).bind fun d O1=>ofO (g (QaN O1 d)) O1:=rfl
def isF (n:String) (o:Option String) (O:Qac):Res D:=match o with
 | some t=>.ok (.bl (Qc9 t n)) O
 | none=>.no
@[simp] theorem QpL {n t:String}{O:Qac}:isF n (some t) O = .ok (.bl (Qc9 t n)) O:=rfl
@[simp] theorem Qu7 {n:String}{m:M D}{ρ:Qai}{O:Qac}:QcS n m ρ O=(m ρ O).bind fun d O1=>isF n (tyD (QaN O1 d)) O1:=rfl
@[simp] theorem Qxe:tyD .non=some "NoneType":=rfl
@[simp] theorem QxS {b:Bool}:tyD (.bl b)=some "bool":=rfl
@[simp] theorem Qxr {b:Int}:tyD (.int b)=some "int":=rfl
@[simp] theorem Qro {b:List Nat}:tyD (.str b)=some "str":=rfl
@[simp] theorem Qxv {b:List D}:tyD (.lst b)=some "list":=rfl
@[simp] theorem Qxt {b:List D}:tyD (.tup b)=some "tuple":=rfl
@[simp] theorem Qxn {a b:List D}:tyD (.dic a b)=some "dict":=rfl
@[simp] theorem QwJ {ρ:Qai}{O:Qac}:moN ρ O = .ok none O:=rfl
def osF (d:D) (O:Qac):Res (Option Int):=match d with
 | .int i=>.ok (some i) O
 | _=>.no
@[simp] theorem QuP {i:Int}{O:Qac}:osF (.int i) O = .ok (some i) O:=rfl
@[simp] theorem Qw5 {m:M D}{ρ:Qai}{O:Qac}:moS m ρ O=(m ρ O).bind osF:=rfl
@[simp] theorem Qqb {m:M D}{lo hi:M (Option Int)}{ρ:Qai}{O:Qac}:mSl m lo hi ρ O=(m ρ O).bind fun d O1=>(lo ρ O1).bind fun l O2=>(hi ρ O2).bind fun h O3=>ofO (gSl (QaN O3 d) l h) O3:=rfl
@[simp] theorem Qmc {l:List Nat}{lo hi:Option Int}:gSl (.str l) lo hi=if l.length≤16777216 then some (.str (QcK l lo hi)) else none:=rfl
@[simp] theorem Qsd {l:List D}{lo hi:Option Int}:gSl (.lst l) lo hi=some (.lst (QcK l lo hi)):=rfl
@[simp] theorem Qxk {l:List D}{lo hi:Option Int}:gSl (.tup l) lo hi=some (.tup (QcK l lo hi)):=rfl
def Qg8 (f:Fl) (b:MS):Fl:=match f with
 | .nx ρ' O'=>b ρ' O'
 | r=>r
@[simp] theorem QiR {a b:MS}{ρ:Qai}{O:Qac}:Qak a b ρ O=Qg8 (a ρ O) b:=rfl
@[simp] theorem QmC {ρ:Qai}{O:Qac}{b:MS}:Qg8 (.nx ρ O) b=b ρ O:=rfl
@[simp] theorem Qr6 {d:D}{O:Qac}{b:MS}:Qg8 (.rt d O) b = .rt d O:=rfl
@[simp] theorem Qxi {ρ:Qai}{O:Qac}{b:MS}:Qg8 (.bk ρ O) b = .bk ρ O:=rfl
@[simp] theorem Qxy {ρ:Qai}{O:Qac}{b:MS}:Qg8 (.ct ρ O) b = .ct ρ O:=rfl
@[simp] theorem Qxh {b:MS}:Qg8 .no b = .no:=rfl
@[simp] theorem QtW {ρ:Qai}{O:Qac}:QaD ρ O = .nx ρ O:=rfl
def QiB (r:Res D):Fl:=match r with
 | .ok d O'=>.rt d O'
 | .ex x O'=>.ex x O'
 | .no=>.no
@[simp] theorem Qce {m:M D}{ρ:Qai}{O:Qac}:QaC m ρ O=QiB (m ρ O):=rfl
@[simp] theorem Qdp {d:D}{O:Qac}:QiB (.ok d O) = .rt d O:=rfl
def QqP (r:Res D) (ρ:Qai):Fl:=match r with
 | .ok _ O'=>.nx ρ O'
 | .ex x O'=>.ex x O'
 | .no=>.no
@[simp] theorem Qxl {m:M D}{ρ:Qai}{O:Qac}:QsK m ρ O=QqP (m ρ O) ρ:=rfl
@[simp] theorem Qwp {d:D}{O:Qac}{ρ:Qai}:QqP (.ok d O) ρ = .nx ρ O:=rfl
def ifF (r:Res Bool) (a b:MS) (ρ:Qai):Fl:=match r with
 | .ok c O'=>if c=true then a ρ O' else b ρ O'
 | .ex x O'=>.ex x O'
 | .no=>.no
@[simp] theorem QiQ {t:M Bool}{a b:MS}{ρ:Qai}{O:Qac}:QbA t a b ρ O=ifF (t ρ O) a b ρ:=rfl
@[simp] theorem Qhz {c:Bool}{O:Qac}{a b:MS}{ρ:Qai}:ifF (.ok c O) a b ρ=if c=true then a ρ O else b ρ O:=rfl
def QkT (i:Nat) (r:Res D) (ρ:Qai):Fl:=match r with
 | .ok d O'=>.nx (ρ.set i (some d)) O'
 | .ex x O'=>.ex x O'
 | .no=>.no
@[simp] theorem QoD {i:Nat}{m:M D}{ρ:Qai}{O:Qac}:Qar i m ρ O=QkT i (m ρ O) ρ:=rfl
@[simp] theorem QmK {i:Nat}{d:D}{O:Qac}{ρ:Qai}:QkT i (.ok d O) ρ = .nx (ρ.set i (some d)) O:=rfl
def Qt7 (r:Res (List D)) (g:MG) (b:MS) (ρ:Qai):Fl:=match r with
 | .ok ds O'=>Qa9 g b ds ρ O'
 | .ex x O'=>.ex x O'
 | .no=>.no
@[simp] theorem Qti {m:M (List D)}{g:MG}{b:MS}{ρ:Qai}{O:Qac}:QbB m g b ρ O=Qt7 (m ρ O) g b ρ:=rfl
@[simp] theorem QrJ {ds:List D}{O:Qac}{g:MG}{b:MS}{ρ:Qai}:Qt7 (.ok ds O) g b ρ=Qa9 g b ds ρ O:=rfl
@[simp] theorem mg_n {i:Nat}{d:D}{ρ:Qai}:mgN i d ρ=some (ρ.set i (some d)):=rfl
def Qbe (f:Fl):Res D:=match f with
 | .rt d O'=>.ok d O'
 | .nx _ O'=>.ok .non O'
 | .ex x O'=>.ex x O'
 | _=>.no
@[simp] theorem Qyg {n:Nat}{b:MS}{ds:List D}{O:Qac}:Qbn n b ds O=Qbe (b (ds.map some++List.replicate (n - ds.length) none) O):=rfl
@[simp] theorem Qxd {d:D}{O:Qac}:Qbe (.rt d O) = .ok d O:=rfl
@[simp] theorem Qxq {ρ:Qai}{O:Qac}:Qbe (.nx ρ O) = .ok .non O:=rfl
@[simp] theorem Qth {m:M (List D)}{ρ:Qai}{O:Qac}:Qch m ρ O=(m ρ O).bind fun ds O1=>match ds with
 | [.int j]=>if j≤1000000000∧-1000000000≤j then .ok (Qbs 0 j.toNat) O1 else .no
 | _=>.no:=rfl
def itF (o:Option (List D)) (O:Qac):Res (List D):=match o with
 | some ds=>.ok ds O
 | none=>.no
@[simp] theorem QlN {ds:List D}{O:Qac}:itF (some ds) O = .ok ds O:=rfl
@[simp] theorem Qly {m:M D}{ρ:Qai}{O:Qac}:Qbj m ρ O=(m ρ O).bind fun d O1=>itF (Qg1 d) O1:=rfl
@[simp] theorem QpB {ds:List D}:Qg1 (.lst ds)=some ds:=rfl
@[simp] theorem Qv6 {ds:List D}:Qg1 (.tup ds)=some ds:=rfl
theorem Qpb {l:List Nat} (h:ascii l=true):Qg1 (.str l)=some (Qb3 l):=by
 show (if ascii l=true then some (Qb3 l) else none)=_;rw [if_pos h]
@[simp] theorem QfD {m:M (List D)}{own:Nat}{cap:List Nat}{g:MG}{t:M Bool}{e:M D}{ρ:Qai}{O:Qac}:QbC m own cap g t e ρ O=(m ρ O).bind fun ds O1=>if ds.length≤1000000 then (Qb7 g t e ds (QdQ own cap ρ) O1 []).bind fun ys O2=>.ok (.lst ys) O2 else .no:=rfl
@[simp] theorem Qo8 {i j:Int}:Qav (.int i) (.int j)=some (.int (i+j)):=rfl
@[simp] theorem Qut {a b:List Nat}:Qav (.str a) (.str b)=if a.length+b.length≤1000000 then some (.str (a++b)) else none:=rfl
@[simp] theorem Qxz {a b:List D}:Qav (.lst a) (.lst b)=if a.length+b.length≤1000000 then some (.lst (a++b)) else none:=rfl
@[simp] theorem QwU {i j:Int}:Qdx (.int i) (.int j)=some (.int (i - j)):=rfl
@[simp] theorem Qub {i j:Int}:QaU (.int i) (.int j)=if 0 < j then some (.int (i % j)) else none:=by
 unfold QaU gI
 by_cases h:0 < j <;> simp [h]
@[simp] theorem Qrx {i j:Int}:Qcj (.int i) (.int j)=if 0 < j∧j < 1073741824 then some (.int (i / j)) else none:=by
 unfold Qcj gI
 by_cases h:0 < j∧j < 1073741824 <;> simp [h]
theorem Qjp {i j:Int} (h:(-(2 ^ 64) < i∧i < 2 ^ 64)∨(-(2 ^ 64) < j∧j < 2 ^ 64)):Qbz (.int i) (.int j)=some (.int (i * j)):=by
 unfold Qbz;dsimp only;rw [if_pos];rw [Bool.or_eq_true];unfold QfB;rw [zk,zk,decide_eq_true_eq,decide_eq_true_eq,decide_eq_true_eq,decide_eq_true_eq];exact h
@[simp] theorem QvA {i j:Int}:gLt (.int i) (.int j)=some (.bl (decide (i < j))):=rfl
@[simp] theorem Qx5 {i j:Int}:gGt (.int i) (.int j)=some (.bl (decide (j < i))):=rfl
@[simp] theorem QqX {i j:Int}:gGe (.int i) (.int j)=some (.bl (decide (j≤i))):=rfl
@[simp] theorem Qm8 {i j:Int}:gLe (.int i) (.int j)=some (.bl (decide (i≤j))):=rfl
theorem QnY (a b:Nat):(([a]:List Nat) < [b])↔a < b:=by
 constructor
 ·intro h
  rcases List.cons_lt_cons_iff.mp h with h | ⟨_,h⟩
  ·exact h
  ·exact absurd h (List.not_lt_nil _)
 ·intro h;exact List.cons_lt_cons_iff.mpr (.inl h)
@[simp] theorem Qyc {a b:Nat}:gLe (.str [a]) (.str [b])=some (.bl (decide (a≤b))):=by
 show some (D.bl (!decide (([b]:List Nat) < [a])))=_
 have:decide (([b]:List Nat) < [a])=decide (b < a):=by
  by_cases h:b < a
  ·rw [zl h,zl ((QnY _ _).mpr h)]
  ·rw [zn h,zn (fun z=>h ((QnY _ _).mp z))]
 rw [this]
 by_cases h:b < a
 ·rw [zl h,zn (by omega)]; rfl
 ·rw [zn h,zl (by omega)]; rfl
@[simp] theorem Qva {i j:Int}:gEq (.int i) (.int j)=some (.bl (decide (i=j))):=rfl
@[simp] theorem Qyi {i j:List Nat}:gEq (.str i) (.str j)=some (.bl (decide (i=j))):=rfl
@[simp] theorem Qyh {i j:Bool}:gEq (.bl i) (.bl j)=some (.bl (decide (i=j))):=rfl
@[simp] theorem Qx2 {i j:List D}:gEq (.lst i) (.lst j)=if (okE (.lst i)&&okE (.lst j))=true then some (.bl (Qgs (.lst i) (.lst j))) else none:=rfl
@[simp] theorem Qx4 {i j:Int}:gNe (.int i) (.int j)=some (.bl (!decide (i=j))):=rfl
@[simp] theorem QvC {i j:List Nat}:gNe (.str i) (.str j)=some (.bl (!decide (i=j))):=rfl
@[simp] theorem Qye {i j:Bool}:gNe (.bl i) (.bl j)=some (.bl (!decide (i=j))):=rfl
@[simp] theorem QvK {i j:List D}:gNe (.lst i) (.lst j)=if (okE (.lst i)&&okE (.lst j))=true then some (.bl (!Qgs (.lst i) (.lst j))) else none:=rfl
@[simp] theorem Qyb {n:Bool}{c:Nat}{l:List Nat}:gIn n (.str [c]) (.str l)=some (.bl (n ^^ decide (c∈l))):=rfl
theorem QnA {ds:List D}{i:Int}:gIx (.lst ds) (.int i)=atI ds i:=rfl
theorem Qvb {l:List Nat}{i:Int}:gIx (.str l) (.int i)=if l.length≤1000000 then (atI l i).map (fun c=>.str [c]) else none:=rfl
@[simp] theorem QsH {l:List Nat}:Qfe [.str l]=if l.length≤1000000 then some (.int l.length) else none:=rfl
@[simp] theorem QxZ {l:List D}:Qfe [.lst l]=some (.int l.length):=rfl
@[simp] theorem QxI {l:List D}:Qfe [.tup l]=some (.int l.length):=rfl
@[simp] theorem QsX {i j:Int}:QhW [.int i,.int j]=some (.int (if j > i then j else i)):=rfl
@[simp] theorem QxC {i j:Int}:Qix [.int i,.int j]=some (.int (if j < i then j else i)):=rfl
@[simp] theorem QxY {i:Int}:Qe1 [.int i]=some (.int i):=rfl
@[simp] theorem QxJ {b:Bool}:Qe1 [.bl b]=some (.int (if b then 1 else 0)):=rfl
@[simp] theorem QxD:Qer (.int 10) (.int 18)=some (.int 1000000000000000000):=by rfl
@[simp] theorem QxN:Qer (.int 10) (.int 9)=some (.int 1000000000):=by rfl
@[simp] theorem Qf5 {α:Type}{xs:List α}{j:Nat}:atI xs (j:Int)=xs[j]?:=by
 unfold atI ixN;rw [if_pos (by omega)]
 by_cases h:j < xs.length
 ·rw [if_pos (by omega)];simp
 ·rw [if_neg (by omega),List.getElem?_eq_none (by omega)];rfl
theorem Qs3 {α:Type}{xs:List α}{i:Int} (h0:0≤i) (h1:i < xs.length):∃x,atI xs i=some x∧x∈xs:=by
 obtain ⟨j,rfl⟩:=Int.eq_ofNat_of_zero_le h0
 have hj:j < xs.length:=by omega
 exact ⟨xs[j],by show atI xs (j:Int)=_; rw [Qf5,zx hj],jg hj⟩
section
variable {c:Prop} [Decidable c]
@[simp] theorem QwC {a b:Fl}:Qbe (if c then a else b)=if c then Qbe a else Qbe b:=by split <;> rfl
@[simp] theorem Qwt {a b:Res D}:QiB (if c then a else b)=if c then QiB a else QiB b:=by split <;> rfl
@[simp] theorem Qxb {a b:Fl}{r:MS}:Qg8 (if c then a else b) r=if c then Qg8 a r else Qg8 b r:=by split <;> rfl
@[simp] theorem Qwu {α β:Type}{a b:Res α}{f:α→Qac→Res β}:(if c then a else b).bind f=if c then a.bind f else b.bind f:=by split <;> rfl
@[simp] theorem Qxo {a b:Res Bool}{x y:MS}{ρ:Qai}:ifF (if c then a else b) x y ρ=if c then ifF a x y ρ else ifF b x y ρ:=by split <;> rfl
@[simp] theorem Qwn {a b:Res D}{i:Nat}{ρ:Qai}:QkT i (if c then a else b) ρ=if c then QkT i a ρ else QkT i b ρ:=by split <;> rfl
@[simp] theorem Qxj {a b:Option D}{O:Qac}:ofO (if c then a else b) O=if c then ofO a O else ofO b O:=by split <;> rfl
end
@[simp] theorem Qs4:Qc9 "str" "str" = true:=by decide
@[simp] theorem QxH:Qc9 "int" "str" = false:=by decide
@[simp] theorem QxT:Qc9 "bool" "str" = false:=by decide
@[simp] theorem QxR:Qc9 "list" "str" = false:=by decide
@[simp] theorem QxL:Qc9 "tuple" "str" = false:=by decide
@[simp] theorem QxV:Qc9 "dict" "str" = false:=by decide
@[simp] theorem QxU:Qc9 "NoneType" "str" = false:=by decide
@[simp] theorem QxQ:Qc9 "int" "int" = true:=by decide
@[simp] theorem QxK:Qc9 "int" "bool" = false:=by decide
@[simp] theorem Qxw:Qc9 "bool" "bool" = true:=by decide
@[simp] theorem Qxg:Qc9 "list" "list" = true:=by decide
@[simp] theorem Qxs:Qc9 "tuple" "tuple" = true:=by decide
@[simp] theorem Qxu:Qc9 "NoneType" "list" = false:=by decide
theorem QhZ {g:MG}{b:MS} (Pv:Nat→Qai→Qac→Prop):∀(ds:List D) (k:Nat) (ρ:Qai) (O:Qac),Pv k ρ O →
  (∀i d ρ O,ds[i]? = some d→Pv (k+i) ρ O→∃ρ1,g d ρ=some ρ1∧∃ρ2 O2,(b ρ1 O = .nx ρ2 O2∨b ρ1 O = .ct ρ2 O2)∧Pv (k+i+1) ρ2 O2)→∃ρ' O',Qa9 g b ds ρ O = .nx ρ' O'∧Pv (k+ds.length) ρ' O'
 | [],k,ρ,O,h,_=>⟨ρ,O,rfl,h⟩
 | d::ds,k,ρ,O,h,hs=>by
  obtain ⟨ρ1,e1,ρ2,O2,e2,h2⟩:=hs 0 d ρ O rfl h
  obtain ⟨ρ',O',e3,h3⟩:=QhZ Pv ds (k+1) ρ2 O2 h2 fun i d' ρ' O' hi hp=>by
   have:=hs (i+1) d' ρ' O' (by simpa using hi) (by rw [show k+(i+1)=k+1+i by omega]; exact hp)
   rw [show k+(i+1)+1=k+1+i+1 by omega] at this;exact this
  refine ⟨ρ',O',?_,by rw [zJ,show k+(ds.length+1)=k+1+ds.length by omega]; exact h3⟩;unfold Qa9;rw [e1];dsimp only
  rcases e2 with e2 | e2 <;> rw [e2] <;> exact e3
@[simp] theorem Qx0 {ρ:Qai}{O:Qac}:Qvc ρ O = .ok [] O:=rfl
@[simp] theorem Qxm {a b:M D}{r:M (List (D×D))}{ρ:Qai}{O:Qac}:Qtd a b r ρ O=(a ρ O).bind fun x O1=>(b ρ O1).bind fun y O2=>(r ρ O2).bind fun ps O3=>.ok ((x,y)::ps) O3:=rfl
def diF (o:Option (List Key)) (kv:List (D×D)) (O:Qac):Res D:=match o with
 | some ks=>if ks.Nodup∧kv.length≤15 then .ok (.dic (kv.map (·.1)) (kv.map (·.2))) O else .no
 | none=>.no
@[simp] theorem QwM {ks:List Key}{kv:List (D×D)}{O:Qac}:diF (some ks) kv O=if ks.Nodup∧kv.length≤15 then .ok (.dic (kv.map (·.1)) (kv.map (·.2))) O else .no:=rfl
@[simp] theorem QxO {m:M (List (D×D))}{ρ:Qai}{O:Qac}:QvJ m ρ O=(m ρ O).bind fun kv O1=>diF (keysOf kv) kv O1:=rfl
@[simp] theorem Qxf {i:Int}:keyOf (.int i)=some (.inl i):=rfl
@[simp] theorem Qxx {i:List Nat}:keyOf (.str i)=some (.inr (S i)):=rfl
@[simp] theorem QvL:keysOf []=some []:=rfl
@[simp] theorem QuK {a b:D}{r:List (D×D)}:keysOf ((a,b)::r)=(keyOf a).bind fun k=>(keysOf r).map (k :: ·):=rfl
def joF (o:Option (List (List Nat))) (O:Qac):Res D:=match o with
 | some ls=>if (ls.map List.length).sum≤1000000 then .ok (.str ls.flatten) O else .no
 | none=>.no
@[simp] theorem Qww {ls:List (List Nat)}{O:Qac}:joF (some ls) O=if (ls.map List.length).sum≤1000000 then .ok (.str ls.flatten) O else .no:=rfl
def jdF (d:D) (O:Qac):Res D:=match d with
 | .lst ds=>joF (Qhb ds) O
 | _=>.no
@[simp] theorem Qx9 {ds:List D}{O:Qac}:jdF (.lst ds) O=joF (Qhb ds) O:=rfl
@[simp] theorem QxP {m:M D}{ρ:Qai}{O:Qac}:QvB m ρ O=(m ρ O).bind fun d O1=>jdF (QaN O1 d) O1:=rfl
@[simp] theorem Qx7 {own:Nat}{cap:List Nat}{ρ:Qai}:QdQ own cap ρ=List.replicate own none++cap.map fun j=>(ρ[j]?).join:=rfl
@[simp] theorem QvZ {g:MG}{t:M Bool}{m:M D}{ρ:Qai}{O:Qac}{acc:List D}:Qb7 g t m [] ρ O acc = .ok acc O:=rfl
theorem Qlo:∀ds:List D,QhP ds=ds.map toP
 | []=>rfl
 | d::ds=>by rw [QhP,Qlo ds]; rfl
theorem Qir:∀{ds:List D},(∀d∈ds,QcL d=true)→Qew ds=true
 | [],_=>rfl
 | d::ds,h=>by rw [Qew,h d zz,Qir fun x hx=>h x (zw _ hx)]; rfl
theorem QjR {n:Nat} (hn:n < 60) {ds:List D} (h:∀d∈ds,QcL d=true∧(toP d).canLay0=true∧(toP d).depth≤n):okE (.lst ds)=true:=by
 unfold okE;rw [zk];refine ⟨?_,?_⟩
 ·rw [QcL]; exact Qir fun d hd=>(h d hd).1
 ·rw [toP,Qlo]
  refine QrM hn fun d hd=>?_
  obtain ⟨x,hx,rfl⟩:=zQ.mp hd;exact (h x hx).2
theorem Qgu {l:List Nat} (h:∀c∈l,c < 1114112):(PyData.str (S l)).canLay0=true:=by
 show PyData.strOk (S l)=true;unfold PyData.strOk S;simp;exact h
theorem QeP {d:D} (h:okE d=true):Qgs d d=true:=by
 unfold okE at h;rw [zk] at h
 have:=h.2
 unfold okD at this;rw [zk] at this;exact SeqAt.eqv_refl _ this.1
def it (f:Int→Int):Nat→Int→Int
 | 0,x=>x
 | n+1,x=>f (it f n x)
def mix (n k:Int):Int:=if n > 1000000000000000000 then it (fun r=>r / 1000000000) k.toNat n % 1000000000
 else
  let m:=it (fun m=>(m * 48271+104729) % 2147483629) (k+2).toNat (n % 2147483647+7919)
  m * m % 998244353 / 11
theorem QqS (j:Nat) (x:Int) (h0:0≤x) (h1:x < 2147491566):0≤it (fun m=>(m * 48271+104729) % 2147483629) j x∧it (fun m=>(m * 48271+104729) % 2147483629) j x < 2147491566:=by
 induction j with
 | zero=>exact ⟨h0,h1⟩
 | succ j ih =>
  refine ⟨Int.emod_nonneg _ (by decide),?_⟩
  have:=Int.emod_lt_of_pos (it (fun m=>(m * 48271+104729) % 2147483629) j x * 48271+104729) (show (0:Int) < 2147483629 by decide)
  show (it (fun m=>(m * 48271+104729) % 2147483629) j x * 48271+104729) % 2147483629 < _;omega
def QnS:MS:=(Qak (QbA (QaQ (Qae gGt (Qaa 0) (Qae Qer (mC (.int 10)) (mC (.int 18))))) (Qak (Qar 2 (mG (Qaa 0)))
  (Qak (QbB (Qch (Qab (Qaa 1) Qag)) (mgN 3) (Qar 2 (Qae Qcj (Qaa 2) (Qae Qer (mC (.int 10)) (mC (.int 9))))))
  (QaC (Qae QaU (Qaa 2) (Qae Qer (mC (.int 10)) (mC (.int 9))))))) QaD)
  (Qak (Qar 4 (Qae Qav (Qae QaU (Qaa 0) (mC (.int 2147483647))) (mC (.int 7919))))
  (Qak (QbB (Qch (Qab (Qae Qav (Qaa 1) (mC (.int 2))) Qag)) (mgN 3) (Qar 4 (Qae QaU (Qae Qav (Qae Qbz (Qaa 4) (mC (.int 48271))) (mC (.int 104729))) (mC (.int 2147483629)))))
  (QaC (Qae Qcj (Qae QaU (Qae Qbz (Qaa 4) (Qaa 4)) (mC (.int 998244353))) (mC (.int 11)))))))
theorem Qju (lo:Int) (n:Nat):(Qbs lo n).length=n:=by simp [Qbs]
theorem Qtu (n k:Int) (h0:0≤k) (h1:k≤1000000) (O:Qac):Qbn 5 QnS [.int n,.int k] O = .ok (.int (mix n k)) O:=by
 unfold mix
 by_cases hn:n > 1000000000000000000
 ·obtain ⟨ρ',O',e,rfl,o3,rfl⟩:=QhZ (g:=mgN 3) (b:=Qar 2 (Qae Qcj (Qaa 2) (Qae Qer (mC (.int 10)) (mC (.int 9)))))
   (fun i ρ O'=>O'=O∧∃o3,ρ = [some (.int n),some (.int k),some (.int (it (fun r=>r / 1000000000) i n)),o3,none]) (Qbs 0 k.toNat) 0 [some (.int n),some (.int k),some (.int n),none,none] O ⟨rfl,none,rfl⟩ (by
    rintro i d ρ O' hi ⟨rfl,o3,rfl⟩;refine ⟨_,rfl,?_⟩;simp;rw [show it (fun r=>r / 1000000000) (i+1) n=it (fun r=>r / 1000000000) i n / 1000000000 from rfl]
    exact ⟨_,_,⟨rfl,rfl⟩,rfl,_,rfl⟩)
  rw [Qju,Nat.zero_add] at e
  have hk:k≤1000000000∧-1000000000≤k:=by omega
  simp [QnS,hn,hk,e]
 ·have hm0:0≤n % 2147483647+7919:=by have:=Int.emod_nonneg n (show (2147483647:Int)≠0 by decide); omega
  have hm1:n % 2147483647+7919 < 2147491566:=by have:=Int.emod_lt_of_pos n (show (0:Int) < 2147483647 by decide); omega
  obtain ⟨ρ',O',e,rfl,o3,rfl⟩:=QhZ (g:=mgN 3) (b:=Qar 4 (Qae QaU (Qae Qav (Qae Qbz (Qaa 4) (mC (.int 48271))) (mC (.int 104729))) (mC (.int 2147483629))))
   (fun i ρ O'=>O'=O∧∃o3,ρ = [some (.int n),some (.int k),none,o3,some (.int (it (fun m=>(m * 48271+104729) % 2147483629) i (n % 2147483647+7919)))]) (Qbs 0 (k+2).toNat) 0 [some (.int n),some (.int k),none,none,some (.int (n % 2147483647+7919))] O ⟨rfl,none,rfl⟩ (by
    rintro i d ρ O' hi ⟨rfl,o3,rfl⟩;refine ⟨_,rfl,?_⟩;obtain ⟨b0,b1⟩:=QqS i _ hm0 hm1
    have:=Qjp (i:=it (fun m=>(m * 48271+104729) % 2147483629) i (n % 2147483647+7919)) (j:=48271) (.inr ⟨by decide,by decide⟩)
    simp [this]
    rw [show it (fun m=>(m * 48271+104729) % 2147483629) (i+1) (n % 2147483647+7919)=(it (fun m=>(m * 48271+104729) % 2147483629) i (n % 2147483647+7919) * 48271+104729) % 2147483629 from rfl]
    exact ⟨_,_,⟨rfl,rfl⟩,rfl,_,rfl⟩)
  rw [Qju,Nat.zero_add] at e
  have hk:k+2≤1000000000∧-1000000000≤k+2:=by omega
  obtain ⟨b0,b1⟩:=QqS (k+2).toNat _ hm0 hm1;have hq:=Qjp (i:=it (fun m=>(m * 48271+104729) % 2147483629) (k+2).toNat (n % 2147483647+7919)) (j:=it (fun m=>(m * 48271+104729) % 2147483629) (k+2).toNat (n % 2147483647+7919)) (.inl ⟨by omega,by omega⟩);simp [QnS,hn,hk,e,hq]
def QhJ (cs:List Str) (f:Str) (d:D) (O:Qac):Res D:=match d with
 | .ob n=>match O[n]? with
  | some (.ins c fs)=>if c∈cs then match fs.lookup f with
   | some y=>.ok y O
   | none=>.no else .no
  | _=>.no
 | _=>.no
@[simp] theorem Qg9 {cs:List Str}{f:Str}{m:M D}{ρ:Qai}{O:Qac}:QcY cs f m ρ O=(m ρ O).bind (QhJ cs f):=rfl
def puF (cs:List Str) (f:Str) (d:D) (ρ:Qai) (r:Res D):Fl:=match r with
 | .ok (.ob n) O2=>match O2[n]? with
  | some (.ins c fs)=>if c∈cs∧fs.length < 900 then .nx ρ (O2.set n (.ins c (putD f d fs))) else .no
  | _=>.no
 | _=>.no
def sfF (cs:List Str) (f:Str) (mo:M D) (r:Res D) (ρ:Qai):Fl:=match r with
 | .ok d O1=>puF cs f d ρ (mo ρ O1)
 | .ex x O'=>.ex x O'
 | .no=>.no
@[simp] theorem Qk9 {cs:List Str}{f:Str}{mo mv:M D}{ρ:Qai}{O:Qac}:QeE cs f mo mv ρ O=sfF cs f mo (mv ρ O) ρ:=by
 unfold QeE sfF puF
 cases mv ρ O <;> rfl
@[simp] theorem Qk3 {cs:List Str}{f:Str}{mo:M D}{d:D}{O:Qac}{ρ:Qai}:sfF cs f mo (.ok d O) ρ=puF cs f d ρ (mo ρ O):=rfl
def meF (c m:Str) (cf:List D→Qac→Res D) (ma:Qac→Res (List D)) (d:D) (O1:Qac):Res D:=match d with
 | .ob n=>match O1[n]? with
  | some (.ins c' fs)=>if c'=c∧(fs.lookup m).isNone=true then (ma O1).bind fun ds O2=>cf (.ob n::ds) O2 else .no
  | _=>.no
 | _=>.no
@[simp] theorem Qou {c m:Str}{cf:List D→Qac→Res D}{mo:M D}{ma:M (List D)}{ρ:Qai}{O:Qac}:Qct c m cf mo ma ρ O=(mo ρ O).bind (meF c m cf (ma ρ)):=rfl
def mkF (n:Nat) (r:Res D):Res D:=match r with
 | .ok .non O2=>.ok (.ob n) O2
 | .ok _ _=>.no
 | .ex x O2=>.ex x O2
 | .no=>.no
@[simp] theorem Qul {c:Str}{cf:List D→Qac→Res D}{ma:M (List D)}{ρ:Qai}{O:Qac}:Qie c cf ma ρ O=(ma ρ O).bind fun ds O1=>mkF O1.length (cf (.ob O1.length::ds) (O1 ++ [.ins c []])):=by
 unfold Qie;congr 1
@[simp] theorem QtN {n:Nat}{O:Qac}:mkF n (.ok .non O) = .ok (.ob n) O:=rfl
def apF (i:Nat) (r:Res D) (ρ:Qai):Fl:=match r with
 | .ok d O'=>match ρ[i]? with
  | some (some (.lst ds))=>if ds.length < 1000000 then .nx (ρ.set i (some (.lst (ds ++ [d])))) O' else .no
  | _=>.no
 | .ex x O'=>.ex x O'
 | .no=>.no
@[simp] theorem QtR {i:Nat}{m:M D}{ρ:Qai}{O:Qac}:Qc8 i m ρ O=apF i (m ρ O) ρ:=rfl
theorem Qtl {i:Nat}{d:D}{ds:List D}{ρ:Qai}{O:Qac} (h:ρ[i]? = some (some (.lst ds))) (hl:ds.length < 1000000):apF i (.ok d O) ρ = .nx (ρ.set i (some (.lst (ds ++ [d])))) O:=by
 unfold apF; dsimp only; rw [h]; dsimp only; rw [if_pos hl]
def exF (i:Nat) (r:Res D) (ρ:Qai):Fl:=match r with
 | .ok d O'=>match ρ[i]?,QaN O' d with
  | some (some (.lst ds)),.lst es=>if ds.length+es.length≤1000000 then .nx (ρ.set i (some (.lst (ds++es)))) O' else .no
  | _,_=>.no
 | .ex x O'=>.ex x O'
 | .no=>.no
@[simp] theorem QxB {i:Nat}{m:M D}{ρ:Qai}{O:Qac}:QvF i m ρ O=exF i (m ρ O) ρ:=rfl
def enF (d:D) (O1:Qac):Res (List D):=match d with
 | .lst ds=>.ok (Qcw 0 ds) O1
 | .str l=>if ascii l=true then .ok (Qcw 0 (Qb3 l)) O1 else .no
 | _=>.no
@[simp] theorem QxA {m:M D}{ρ:Qai}{O:Qac}:QkF m ρ O=(m ρ O).bind enF:=rfl
def asF (r:Res D) (g:MG) (ρ:Qai):Fl:=match r with
 | .ok d O'=>match g d ρ with
  | some ρ'=>.nx ρ' O'
  | none=>.no
 | .ex x O'=>.ex x O'
 | .no=>.no
@[simp] theorem QtB {m:M D}{g:MG}{ρ:Qai}{O:Qac}:QiV m g ρ O=asF (m ρ O) g ρ:=rfl
@[simp] theorem Qym {i j:Nat}{a b:D}{ρ:Qai}:QhY 2 (Qbi (mgN i) (Qbi (mgN j) QfG)) (.tup [a,b]) ρ=some ((ρ.set i (some a)).set j (some b)):=rfl
def stF (a b:D) (O:Qac):Res D:=match a,b with
 | .str l,.str n=>.ok (.bl (decide (l.take n.length=n))) O
 | _,_=>.no
@[simp] theorem Qxa {a b:M D}{ρ:Qai}{O:Qac}:Qrz a b ρ O=(a ρ O).bind fun x O1=>(b ρ O1).bind fun y O2=>stF x y O2:=rfl
@[simp] theorem Qyd {l n:List Nat}{O:Qac}:stF (.str l) (.str n) O = .ok (.bl (decide (l.take n.length=n))) O:=rfl
theorem Qdm {α:Type}{g:MG}{t:M Bool}{m:M D} (Pv:Qai→Prop) (f h:α→D):∀(xs:List α) (ρ:Qai) (O:Qac) (acc:List D),Pv ρ→(∀x∈xs,∀ρ,Pv ρ→∃ρ1,g (f x) ρ=some ρ1∧Pv ρ1∧t ρ1 O = .ok true O∧m ρ1 O = .ok (h x) O)→Qb7 g t m (xs.map f) ρ O acc = .ok (acc++xs.map h) O
 | [],ρ,O,acc,_,_=>by simp [Qb7]
 | x::xs,ρ,O,acc,hp,hs=>by
  obtain ⟨ρ1,e1,h1,e2,e3⟩:=hs x zz ρ hp;rw [zg];unfold Qb7;rw [e1];dsimp only;rw [e2];dsimp only;rw [e3];dsimp only;rw [Qdm Pv f h xs ρ1 O _ h1 fun d' hd'=>hs d' (zw _ hd')];simp
def QuB:List Nat:=[101,110,100]
def Qq5:List Nat:=[97,110,101,119]
def Qos:List Nat:=[112,108,97,105,110]
def QdC:List Nat:=[115,105,103,110]
def Qtm:List Nat:=[105,110,107]
def QmH:List Nat:=[103,114,111,117,110,100]
def item (p:Int) (k v:List Nat):D:=.tup [.int p,.str k,.str v]
def col (c:Nat):Bool:=decide (c∈[97,98,99,100,101,102,103,104,46])
def Qw6 (x:Nat):List Nat→List Nat×List Nat×Nat
 | []=>(QdC,[91],0)
 | e::_=>if e=93 then (QmH,[x],3) else (QdC,[91],0)
def Qw1:List Nat→List Nat×List Nat×Nat
 | []=>(QdC,[91],0)
 | x::t=>if col x=true then Qw6 x t else (QdC,[91],0)
def Qwg (x:Nat):List Nat→List Nat×List Nat×Nat
 | []=>(QdC,[91],0)
 | e::_=>if e=93 then (Qtm,[x],2) else (QdC,[91],0)
def Qwo:List Nat→List Nat×List Nat×Nat
 | []=>(QdC,[91],0)
 | d::t=>if d=93 then (Qos,[],1) else if d=91 then (QdC,[91],1) else if col d=true then Qwg d t else if d=47 then Qw1 t else (QdC,[91],0)
def one (c:Nat) (t:List Nat):List Nat×List Nat×Nat :=
 if c=10 then (QuB,[],0) else if c=9 then (Qq5,[],0) else if c=91 then Qwo t else (QdC,[c],0)
def items (p:Int):List Nat→List D
 | []=>[]
 | c::t=>item p (one c t).1 (one c t).2.1::items (p+((one c t).2.2+1:Nat)) (t.drop (one c t).2.2)
termination_by l=>l.length
decreasing_by
 simp only [List.length_drop,zJ];omega
def own (p:Int) (c:Nat):D:=if c=10 then item p QuB [] else if c=9 then item p Qq5 [] else item p QdC [c]
def Qqf:Int→List Nat→List D
 | _,[]=>[]
 | p,c::l=>own p c::Qqf (p+1) l
def QwQ:List Nat→Bool
 | [a]=>decide (a=91)
 | [a,b]=>decide (a=91)&&(decide (b=47) || col b)
 | [a,b,c]=>decide (a=91)&&(decide (b=47)&&col c)
 | _=>false
def markB:List Nat→Option (List Nat×List Nat)
 | [a,b]=>if a=91∧b=93 then some (Qos,[]) else if a=91∧b=91 then some (QdC,[91]) else none
 | [a,b,c]=>if a=91∧col b=true∧c=93 then some (Qtm,[b]) else none
 | [a,b,c,d]=>if a=91∧b=47∧col c=true∧d=93 then some (QmH,[c]) else none
 | _=>none
def tk (h:List Nat) (c:Nat) (p:Int):List D×List Nat :=
 if QwQ (h ++ [c])=true then ([],h ++ [c]) else match markB (h ++ [c]) with
 | some (k,v)=>([item p k v],[])
 | none=>if c=91 then (Qqf p h,[91]) else (Qqf p (h ++ [c]),[])
inductive Held:List Nat→Prop where
 | h0:Held []
 | h1:Held [91]
 | h2:Held [91,47]
 | h3 (x:Nat) (h:col x=true):Held [91,x]
 | h4 (x:Nat) (h:col x=true):Held [91,47,x]
theorem Held.len {h:List Nat} (H:Held h):h.length≤3:=by cases H <;> simp
@[simp] theorem Qxp {l:List D}:QkL [.lst l]=some (.lst l):=rfl
def fzF (f:Fl):Fl:=match f with
 | .rt d O'=>.rt d O'
 | _=>.no
@[simp] theorem QuQ {m:MS}{ρ:Qai}{O:Qac}:Qlm m ρ O=fzF (m ρ O):=rfl
@[simp] theorem Qug {d:D}{O:Qac}:fzF (.rt d O) = .rt d O:=rfl
def ziF (d e:D) (O:Qac):Res (List D):=match d,e with
 | .lst ds,.lst es=>.ok (Qne ds es) O
 | _,_=>.no
@[simp] theorem Qya {ma mb:M D}{ρ:Qai}{O:Qac}:QtA ma mb ρ O=(ma ρ O).bind fun d O1=>(mb ρ O1).bind fun e O2=>ziF d e O2:=by
 unfold QtA;congr 1
@[simp] theorem Qx6 {ds es:List D}{O:Qac}:ziF (.lst ds) (.lst es) O = .ok (Qne ds es) O:=rfl
end L2
namespace L2
open PySem
section
variable {ρ ρ':Qai}{O O' O1 O2:Qac}{d:D}{x:Xc}{a b m:MS}{r:M D}{t:M Bool}{ma:M (List D)}{c:List D→Qac→Res D}{ds:List D}
theorem QaA (h:a ρ O = .nx ρ' O'):Qak a b ρ O=b ρ' O':=by rw [QiR,h,QmC]
theorem Qfm (h:a ρ O = .rt d O'):Qak a b ρ O = .rt d O':=by rw [QiR,h,Qr6]
theorem Qfu (h:a ρ O = .ex x O'):Qak a b ρ O = .ex x O':=by rw [QiR,h]; rfl
theorem Qjy (h:t ρ O = .ok true O'):QcE t a b ρ O=a ρ O':=by unfold QcE; rw [h]; rfl
theorem Qu6 (h:t ρ O = .ok false O'):QcE t a b ρ O=b ρ O':=by unfold QcE; rw [h]; rfl
theorem QfE (h:t ρ O = .ok false O'):QcE t a QaD ρ O = .nx ρ O':=Qu6 h
theorem Qjj (h:m ρ O = .nx ρ' O'):msN m ρ O = .nx ρ' O':=by unfold msN; rw [h]
theorem QqY (h:m ρ O = .rt d O'):msN m ρ O = .rt d O':=by unfold msN; rw [h]
theorem QnO (h:ma ρ O = .ok ds O1):QdA c ma ρ O=c ds O1:=by unfold QdA; rw [h]
theorem QqK (h:r ρ O = .ok d O'):QfA r ρ O = .nx ρ O':=by unfold QfA; rw [h]
theorem QwW (h:r ρ O = .ok d O'):QfW r ρ O = .rt d O':=by unfold QfW; rw [h]
theorem QrC (h:r ρ O = .ex x O'):QfW r ρ O = .ex x O':=by unfold QfW; rw [h]
theorem Qoy {cc nn:Str} (h:r ρ O = .ok d O'):QcB cc nn r ρ O = .ex ⟨cc,[(nn,d)]⟩ O':=by unfold QcB; rw [h]
theorem QqJ {cl mm:Str}{cf:List D→Qac→Res D}{n:Nat}{fs:List (Str×D)} (h1:r ρ O = .ok (.ob n) O1) (h2:O1[n]? = some (.ins cl fs)) (h3:(fs.lookup mm).isNone=true) (h4:ma ρ O1 = .ok ds O2):QeT cl mm cf r ma ρ O=cf (.ob n::ds) O2:=by
 unfold QeT;rw [h1];dsimp only;rw [h2];dsimp only;rw [if_pos ⟨rfl,h3⟩,h4]
theorem QpS {g:MG} (h:ma ρ O = .ok ds O'):Qdj ma g b ρ O=Qa9 g b ds ρ O':=by unfold Qdj; rw [h]
theorem Qf7 {g:MG} (h:ma ρ O = .ok ds O'):QbB ma g b ρ O=Qa9 g b ds ρ O':=by rw [Qti,h,QrJ]
theorem QmE {hs:List HM} (h:r ρ O = .ex x O'):QgD r hs ρ O=QfO hs x ρ O':=by unfold QgD; rw [h]
theorem Qlw {ys ns:List Str}{i:Nat}{rest:List HM} (hy:ys.contains x.cls=true) (h:m (ρ.set i (some (.ob O.length))) (O ++ [.xc x.cls x.fs]) = .rt d O'):QfO ((ys,ns,i,m)::rest) x ρ O = .rt d O':=by
 unfold QfO;rw [if_pos hy,h]
theorem QsO {tb:List (Str×Bool)}{n:Nat}{cc:Str}{fs:List (Str×D)}{bb:Bool} (h:r ρ O = .ok (.ob n) O') (h2:O'[n]? = some (.xc cc fs)) (h3:tb.lookup cc=some bb):Qb6 tb r ρ O = .ok (.bl bb) O':=by
 unfold Qb6;rw [h];show (match O'[n]? with | some (.xc c _)=>(match tb.lookup c with | some b=>Res.ok (D.bl b) O' | none=>.no) | _=>.no)=_;rw [h2];dsimp only;rw [h3]
theorem QwN {f:Str}{L:List Str}{n:Nat}{cc:Str}{fs:List (Str×D)} (h:r ρ O = .ok (.ob n) O') (h2:O'[n]? = some (.xc cc fs)) (h3:L.contains cc=true) (h4:fs.lookup f=some d):QgJ f L r ρ O = .ok d O':=by
 unfold QgJ;rw [h];show (match O'[n]? with | some (.xc c fs)=>(if L.contains c=true then (match fs.lookup f with | some d=>Res.ok d O' | none=>.no) else .no) | _=>.no)=_;rw [h2];dsimp only;rw [if_pos h3,h4]
end
end L2
namespace K61
open PySem L2
seal VE SE OE WE TsE TwE AE VS VSs VG VGs VI VIc VO VIf DPE VSF QfX VEF VIF VEH VHs
def top (i:Nat):Stmt:=PySem.Challenge.pw_outweave_k61_plans_told.main.body.getD i (.Pass ⟨0,0,0,0⟩)
local macro_rules | `(tactic| trivial) => `(tactic| exact ⟨rfl, rfl, rfl, by decide +kernel, rfl, by decide +kernel, by decide +kernel⟩)
section
variable {Pr:Program}{w:World}{K:Frag}{mg:Str→Option Value}{base:Heap}
abbrev Qck:Stmt:=inClass (top 3) 0
theorem Qod (QpV:QjX K mg "NoHand" "name" "NoHand.__init__" Qck):QiJ Pr w K mg base "NoHand" "name" 1:=QpV.can (sf:="self") (pn:="name") (by trivial) (fun _ _ _ _ _ _=>QaO fun _=>QaO fun _=>QbQ rfl) rfl (.inl rfl) (.inl rfl) (fun _ _ _=>rfl)
abbrev Qcl:Stmt:=inClass (top 2) 0
theorem Qok (QpR:QjX K mg "NoRoom" "at" "NoRoom.__init__" Qcl):QiJ Pr w K mg base "NoRoom" "at" 1:=QpR.can (sf:="self") (pn:="at") (by trivial) (fun _ _ _ _ _ _=>QaO fun _=>QaO fun _=>QbQ rfl) rfl (.inl rfl) (.inl rfl) (fun _ _ _=>rfl)
abbrev Qf3:Stmt:=top 9
theorem QnG:QaI ["thing"] ["thing"] (Qaj Qf3):=by trivial
def Qga:MS :=
  (Qak (QbA (Qa1 (Qa4 (QcS "str" (Qaa 0)))) (QaC (mC (.bl false))) QaD)
  (QaC (Qa7 (QbO gLe gLe (mC (.int 1)) (QaP Qfe (Qab (Qaa 0) Qag)) (mC (.int 8))) (QaP QiE (Qab (QbC (Qbj (Qaa 0)) 1 [] (mgN 0) QbL (QbO gLe gLe (mC (.str [97])) (Qaa 0) (mC (.str [122])))) Qag)))))
def QeU:List D→Qac→Res D:=Qbn 1 Qga
abbrev Qkx (Pr:Program) (w:World) (K:Frag) (mg:Str→Option Value) (base:Heap):Prop:=Can Pr w K mg base "is_name" ["thing"] 1 (vSp K mg [.s] (rV K) QeU)
theorem Qm1 (QhG:Def K mg "is_name" Qf3)
  (B:QbT mg)
  (Qem:∃u,mg "LONGEST_NAME" = some u∧RelV (.int 8) u) :
  Qkx Pr w K mg base:=by
 refine Qc3 (k:=0) (b:=Qga) QhG QnG (fun _ _ _ _ _ _=>QaO fun _=>QbQ rfl) [.s] [] Qbk (fun _ _ _ _=>Rp.non) (body:=fun f cdv A outer s H E hr P=>?_);refine Qap ?_ ?_;refine Qci ?_ ?_ QbH;refine QbP ?_;refine Qby ?_;refine Qat (Qdz "str" (hb:=QlE) B.isinstance_ B.str_ (Qan 0));refine Qaz (QaJ QcD);refine Qaz ?_;refine QaJ ?_;refine QbI ?_ ?_;refine QaM ?_;refine QfI QdK QdK (Qad Qal) ?_ ?_;refine Qat ?_;refine Qb0 (ms:=[.s]) (hv:=QiW) Qjc B.len_ ?_;refine Qau (Qan 0) Qao;refine Qad ?_;refine QaE Qem (fun _ _ _=>Rp.int);refine Qcf ?_;refine QaM ?_;refine Qb0 (ms:=[.s]) (hv:=QoM) (QoI rfl) B.all_ ?_
 refine Qau ?_ Qao;refine Qat ?_;refine QdX (Qaj Qf3) ["thing"] ["letter"] [] rfl (QdV (Qan 0)) (fun _ _ _ _ P=>?_) (fun _ _ _ _ P=>?_) (fun _ _ _ _ P=>?_);exact QaV (i:=0) (show (Qa0 ["thing"] ["letter"] []).Nodup by decide +kernel) rfl (.inl rfl);exact QdW;refine QaM ?_;refine QfI QdK QdK (Qad (QbK [97])) (Qad (Qaf 0)) (Qad (QbK [122]))
abbrev Qg0:Stmt:=top 11
theorem QlS:QaI ["thing"] ["thing"] (Qaj Qg0):=by trivial
def Qfr:MS :=
  (QaC (Qa7 (QcS "int" (Qaa 0)) (Qc4 (QcS "bool" (Qaa 0)))))
def Qba:List D→Qac→Res D:=Qbn 1 Qfr
abbrev QgT (Pr:Program) (w:World) (K:Frag) (mg:Str→Option Value) (base:Heap):Prop:=Can Pr w K mg base "is_whole" ["thing"] 1 (vSp K mg [.s] (rV K) Qba)
theorem QlW (Qg6:Def K mg "is_whole" Qg0)
  (B:QbT mg) :
  QgT Pr w K mg base:=by
 refine Qc3 (k:=0) (b:=Qfr) Qg6 QlS (fun _ _ _ _ _ _=>QaO fun _=>QbQ rfl) [.s] [] Qbk (fun _ _ _ _=>Rp.non) (body:=fun f cdv A outer s H E hr P=>?_);refine Qaz ?_;refine QaJ ?_;refine QbI ?_ ?_;refine QaM (Qdz "int" (hb:=QiS) B.isinstance_ B.int_ (Qan 0));refine Qcf ?_;refine Qhp ?_;refine QaM (Qdz "bool" (hb:=Qri) B.isinstance_ B.bool_ (Qan 0))
abbrev Qgm:Stmt:=top 12
theorem QkQ:QaI ["thing","least","greatest"] ["thing","least","greatest"] (Qaj Qgm):=by trivial
def Qgl:MS :=
  (QaC (Qa7 (Qaq Qba (Qab (Qaa 0) Qag)) (QbO gLe gLe (Qaa 1) (Qaa 0) (Qaa 2))))
def QaW:List D→Qac→Res D:=Qbn 3 Qgl
abbrev Qgn (Pr:Program) (w:World) (K:Frag) (mg:Str→Option Value) (base:Heap):Prop:=Can Pr w K mg base "is_within" ["thing","least","greatest"] 2 (vSp K mg [.s,.s,.s] (rV K) QaW)
theorem QlB (Qge:Def K mg "is_within" Qgm)
  (B:QbT mg)
  (Qdo:QgT Pr w K mg base) :
  Qgn Pr w K mg base:=by
 refine Qc3 (k:=1) (b:=Qgl) Qge QkQ (fun _ _ _ _ _ _=>QaO fun _=>QaO fun _=>QaO fun _=>QbQ rfl) [.s,.s,.s] [] Qbk (fun _ _ _ _=>Rp.non) (body:=fun f cdv A outer s H E hr P=>?_);refine Qaz ?_;refine QaJ ?_;refine QbI ?_ ?_;refine QaK Qdo (hr.mono (by decide)) ?_;refine Qau (Qan 0) Qao;refine Qcf ?_;refine QaM ?_;refine QfI QdK QdK (Qan 1) (Qan 0) (Qan 2)
abbrev QiM:Stmt:=top 15
theorem Qox:QaI ["thing"] ["thing"] (Qaj QiM):=by trivial
def Qlu:MS :=
  (QaC (Qa7 (QcS "str" (Qaa 0)) (Qae (gIn false) (Qaa 0) (mC (.tup [.str [99,117,116],.str [99,101,108,108,115],.str [119,111,114,100,115],.str [101,118,101,110]])))))
def QdR:List D→Qac→Res D:=Qbn 1 Qlu
abbrev Qk7 (Pr:Program) (w:World) (K:Frag) (mg:Str→Option Value) (base:Heap):Prop:=Can Pr w K mg base "is_way" ["thing"] 1 (vSp K mg [.s] (rV K) QdR)
theorem Qor (Qiz:Def K mg "is_way" QiM)
  (B:QbT mg)
  (QlQ:Qp3 K mg "WAYS" [[99,117,116],[99,101,108,108,115],[119,111,114,100,115],[101,118,101,110]]) :
  Qk7 Pr w K mg base:=by
 refine Qc3 (k:=0) (b:=Qlu) Qiz Qox (fun _ _ _ _ _ _=>QaO fun _=>QbQ rfl) [.s] [] Qbk (fun _ _ _ _=>Rp.non) (body:=fun f cdv A outer s H E hr P=>?_);refine Qaz ?_;refine QaJ ?_;refine QbI ?_ ?_;refine QaM (Qdz "str" (hb:=QlE) B.isinstance_ B.str_ (Qan 0));refine Qcf ?_;refine QaM ?_;refine Qc0 Qvg (Qan 0) (Qad (QrA (ls:=[[99,117,116],[99,101,108,108,115],[119,111,114,100,115],[101,118,101,110]]) QlQ)) (by with_unfolding_all rfl)
abbrev Qhq:Stmt:=top 17
theorem Qnh:QaI ["things","name"] ["things","name"] (Qaj Qhq):=by trivial
def QcO:MS :=
  (Qak (QcE (QbN (Qa1 (Qa4 (QcS "str" (Qaa 1)))) (QaQ (Qh6 true (Qaa 1) (Qaa 0)))) (Qak (QcB "NoHand" "name" (Qaa 1))
  QaD) QaD)
  (Qak (msN (QaC (QkC (Qaa 0) (Qaa 1))))
  QaD))
def QbX:List D→Qac→Res D:=Qbn 2 QcO
abbrev Qka (Pr:Program) (w:World) (K:Frag) (mg:Str→Option Value) (base:Heap):Prop:=QhH Pr w K mg base "of_name" ["things","name"] 3 (QcV K mg [.v,.v] (rV K) QbX)
theorem Qm0 (QhQ:Def K mg "of_name" Qhq)
  (B:QbT mg)
  (XI_NoHand:QiJ Pr w K mg base "NoHand" "name" 1) :
  Qka Pr w K mg base:=by
 refine QmX (k:=2) (b:=QcO) QhQ Qnh (fun _ _ _ _ _ _=>QaO fun _=>QaO fun _=>QbQ rfl) [.v,.v] [] Qbk (fun _ _ _ _=>Rp.non) (body:=fun f cdv A outer s H E hr P=>?_)
 refine QaT (QgU (Qgd (Qea (QbP (Qby (Qat (Qdz "str" (hb:=QlE) B.isinstance_ B.str_ (Qad (Qaf 1)))))) (Qd8 (Qqa hr (Qaf 1) (Qaf 0))))) (QaT (Qgc XI_NoHand (hr.mono (by decide)) rfl (Qaf 1))
   Qbf) Qbf) (QaT (QiH (QaJ (Qso hr (Qaf 0) (Qaf 1))))
   Qbf)
abbrev Qf6:Stmt:=top 30
theorem Qjv:QaI ["thing","least_ones"] ["thing"] (Qaj Qf6):=by trivial
def Qf1:MS :=
  (Qak (QbA (QbN (Qa1 (Qa4 (QcS "tuple" (Qaa 0)))) (QaQ (Qae gNe (QaP Qfe (Qab (Qaa 0) Qag)) (mC (.int 6))))) (QaC (mC (.bl false))) QaD)
  (Qak (QbA (Qa1 (Qa4 (QaP QiE (Qab (QbC (Qbj (mSl (Qaa 0) (moS (mC (.int 1))) (moS (mC (.int 5))))) 1 [] (mgN 0) QbL (Qaq Qba (Qab (Qaa 0) Qag))) Qag)))) (QaC (mC (.bl false))) QaD)
  (Qak (Qar 1 (Qa7 (Qae gGe (Qae gIx (Qaa 0) (mC (.int 1))) (mC (.int 0))) (Qa7 (Qae gGe (Qae gIx (Qaa 0) (mC (.int 2))) (mC (.int 0))) (Qa7 (Qae gGe (Qae gIx (Qaa 0) (mC (.int 3))) (mC (.int 1))) (Qae gGe (Qae gIx (Qaa 0) (mC (.int 4))) (mC (.int 2)))))))
  (QaC (Qa7 (Qaq QeU (Qab (Qae gIx (Qaa 0) (mC (.int 0))) Qag)) (Qa7 (Qaa 1) (Qaq QdR (Qab (Qae gIx (Qaa 0) (mC (.int 5))) Qag))))))))
def Qde:List D→Qac→Res D:=Qbn 2 Qf1
abbrev Qkn (Pr:Program) (w:World) (K:Frag) (mg:Str→Option Value) (base:Heap):Prop:=Can Pr w K mg base "is_room" ["thing"] 2 (vSp K mg [.s] (rV K) Qde)
theorem QnB (Qho:Def K mg "is_room" Qf6)
  (B:QbT mg)
  (Qcc:∃u,mg "BROAD" = some u∧RelV (.int 4) u)
  (Qcr:∃u,mg "LEFT" = some u∧RelV (.int 2) u)
  (QcJ:∃u,mg "NAME" = some u∧RelV (.int 0) u)
  (Qe3:∃u,mg "ROOM_THINGS" = some u∧RelV (.int 6) u)
  (QcN:∃u,mg "TALL" = some u∧RelV (.int 3) u)
  (QcP:∃u,mg "TOP" = some u∧RelV (.int 1) u)
  (QkI:∃u,mg "WAY" = some u∧RelV (.int 5) u)
  (Qdo:QgT Pr w K mg base)
  (QhS:Qkx Pr w K mg base)
  (Qiu:Qk7 Pr w K mg base) :
  Qkn Pr w K mg base:=by
 refine Qc3 (k:=1) (b:=Qf1) Qho Qjv (fun _ _ _ _ _ _=>QaO fun _=>QbQ rfl) [.s] [.v] Qbk (fun _ _ _ _=>Rp.non) (body:=fun f cdv A outer s H E hr P=>?_);refine Qap ?_ ?_;refine Qci ?_ ?_ QbH;refine Qgd ?_;refine Qea ?_ ?_;refine QbP ?_;refine Qby ?_;refine Qat (Qdz "tuple" (hb:=Qiv) B.isinstance_ B.tuple_ (Qan 0));refine Qd8 ?_;refine QcM (Qh2 hr) ?_ ?_ (Qbq _);refine Qat ?_;refine Qb0 (ms:=[.s]) (hv:=QiW) Qjc B.len_ ?_;refine Qau (Qan 0) Qao;refine Qad ?_;refine QaE Qe3 (fun _ _ _=>Rp.int);refine Qaz (QaJ QcD);refine Qap ?_ ?_;refine Qci ?_ ?_ QbH;refine QbP ?_;refine Qby ?_;refine Qat ?_;refine Qb0 (ms:=[.s]) (hv:=QoM) (QoI rfl) B.all_ ?_
 refine Qau ?_ Qao;refine Qat ?_;refine QdX (Qaj Qf6) ["thing","least_ones"] ["number"] [] rfl ?_ (fun _ _ _ _ P=>?_) (fun _ _ _ _ P=>?_) (fun _ _ _ _ P=>?_);refine QdV ?_;refine Qat ?_;refine Qet (Qan 0) ?_ ?_;refine Qei ?_;refine QaE QcP (fun _ _ _=>Rp.int);refine Qei ?_;refine QaE QkI (fun _ _ _=>Rp.int);exact QaV (i:=0) (show (Qa0 ["thing","least_ones"] ["number"] []).Nodup by decide +kernel) rfl (.inl rfl);exact QdW;refine QaK Qdo (hr.mono (by decide)) ?_;refine Qau (Qad (Qaf 0)) Qao;refine Qaz (QaJ QcD);refine Qap ?_ ?_;refine QaR (i:=1) Qjv.nd rfl (.inl rfl) ?_;refine QbI ?_ ?_;refine QaM ?_
 refine Qc0 QiT ?_ (Qad Qal) (Qbq _);refine Qad ?_;refine QaS (Qan 0) ?_;refine Qad ?_;refine QaE QcP (fun _ _ _=>Rp.int);refine QbI ?_ ?_;refine QaM ?_;refine Qc0 QiT ?_ (Qad Qal) (Qbq _);refine Qad ?_;refine QaS (Qan 0) ?_;refine Qad ?_;refine QaE Qcr (fun _ _ _=>Rp.int);refine QbI ?_ ?_;refine QaM ?_;refine Qc0 QiT ?_ (Qad Qal) (Qbq _);refine Qad ?_;refine QaS (Qan 0) ?_;refine Qad ?_;refine QaE QcN (fun _ _ _=>Rp.int);refine Qcf ?_;refine QaM ?_;refine Qc0 QiT ?_ (Qad Qal) (Qbq _);refine Qad ?_;refine QaS (Qan 0) ?_;refine Qad ?_;refine QaE Qcc (fun _ _ _=>Rp.int);refine Qaz ?_;refine QaJ ?_
 refine QbI ?_ ?_;refine QaK QhS (hr.mono (by decide)) ?_;refine Qau ?_ Qao;refine Qad ?_;refine QaS (Qan 0) ?_;refine Qad ?_;refine QaE QcJ (fun _ _ _=>Rp.int);refine QbI (Qaf 1) ?_;refine Qcf ?_;refine QaK Qiu (hr.mono (by decide)) ?_;refine Qau ?_ Qao;refine Qad ?_;refine QaS (Qan 0) ?_;refine Qad ?_;refine QaE QkI (fun _ _ _=>Rp.int)
abbrev Qfd:Stmt:=top 31
theorem QjL:QaI ["room","high","wide"] ["room","high","wide"] (Qaj Qfd):=by trivial
def QdE:MS :=
  (QaC (Qa7 (Qae gLe (Qae Qav (Qae gIx (Qaa 0) (mC (.int 1))) (Qae gIx (Qaa 0) (mC (.int 3)))) (Qaa 1)) (Qae gLe (Qae Qav (Qae gIx (Qaa 0) (mC (.int 2))) (Qae gIx (Qaa 0) (mC (.int 4)))) (Qaa 2))))
def QbZ:List D→Qac→Res D:=Qbn 3 QdE
abbrev Qhj (Pr:Program) (w:World) (K:Frag) (mg:Str→Option Value) (base:Heap):Prop:=Can Pr w K mg base "lies_within" ["room","high","wide"] 1 (vSp K mg [.s,.s,.s] (rV K) QbZ)
theorem QjT (Qe7:Def K mg "lies_within" Qfd)
  (B:QbT mg)
  (Qcc:∃u,mg "BROAD" = some u∧RelV (.int 4) u)
  (Qcr:∃u,mg "LEFT" = some u∧RelV (.int 2) u)
  (QcN:∃u,mg "TALL" = some u∧RelV (.int 3) u)
  (QcP:∃u,mg "TOP" = some u∧RelV (.int 1) u) :
  Qhj Pr w K mg base:=by
 refine Qc3 (k:=0) (b:=QdE) Qe7 QjL (fun _ _ _ _ _ _=>QaO fun _=>QaO fun _=>QaO fun _=>QbQ rfl) [.s,.s,.s] [] Qbk (fun _ _ _ _=>Rp.non) (body:=fun f cdv A outer s H E hr P=>?_);refine Qaz ?_;refine QaJ ?_;refine QbI ?_ ?_;refine QaM ?_;refine Qc0 QdK ?_ (Qan 1) (Qbq _);refine Qat ?_;refine Qas QaY ?_ ?_;refine Qad ?_;refine QaS (Qan 0) ?_;refine Qad ?_;refine QaE QcP (fun _ _ _=>Rp.int);refine Qad ?_;refine QaS (Qan 0) ?_;refine Qad ?_;refine QaE QcN (fun _ _ _=>Rp.int);refine Qcf ?_;refine QaM ?_;refine Qc0 QdK ?_ (Qan 2) (Qbq _);refine Qat ?_;refine Qas QaY ?_ ?_;refine Qad ?_;refine QaS (Qan 0) ?_
 refine Qad ?_;refine QaE Qcr (fun _ _ _=>Rp.int);refine Qad ?_;refine QaS (Qan 0) ?_;refine Qad ?_;refine QaE Qcc (fun _ _ _=>Rp.int)
abbrev QhD:Stmt:=top 32
theorem QnV:QaI ["start","length","other_start","other_length"] ["start","length","other_start","other_length"] (Qaj QhD):=by trivial
def Qf8:MS :=
  (QaC (Qa7 (Qae gLt (Qaa 0) (Qae Qav (Qaa 2) (Qaa 3))) (Qae gLt (Qaa 2) (Qae Qav (Qaa 0) (Qaa 1)))))
def QdY:List D→Qac→Res D:=Qbn 4 Qf8
abbrev Qkj (Pr:Program) (w:World) (K:Frag) (mg:Str→Option Value) (base:Heap):Prop:=Can Pr w K mg base "overlap" ["start","length","other_start","other_length"] 1 (vSp K mg [.s,.s,.s,.s] (rV K) QdY)
theorem Qm4 (QhM:Def K mg "overlap" QhD)
  (B:QbT mg) :
  Qkj Pr w K mg base:=by
 refine Qc3 (k:=0) (b:=Qf8) QhM QnV (fun _ _ _ _ _ _=>QaO fun _=>QaO fun _=>QaO fun _=>QaO fun _=>QbQ rfl) [.s,.s,.s,.s] [] Qbk (fun _ _ _ _=>Rp.non) (body:=fun f cdv A outer s H E hr P=>?_);refine Qaz ?_;refine QaJ ?_;refine QbI ?_ ?_;refine QaM ?_;refine Qc0 QfZ (Qan 0) ?_ (Qbq _);refine Qat ?_;refine Qas QaY (Qan 2) (Qan 3);refine Qcf ?_;refine QaM ?_;refine Qc0 QfZ (Qan 2) ?_ (Qbq _);refine Qat ?_;refine Qas QaY (Qan 0) (Qan 1)
abbrev QdS:Stmt:=top 33
theorem Qfk:QaI ["one","other","rows"] ["one","other"] (Qaj QdS):=by trivial
def QcT:MS :=
  (Qak (QbA (QaQ (Qae gEq (Qae gIx (Qaa 0) (mC (.int 0))) (Qae gIx (Qaa 1) (mC (.int 0))))) (QaC (mC (.bl true))) QaD)
  (Qak (Qar 2 (Qaq QdY (Qab (Qae gIx (Qaa 0) (mC (.int 1))) (Qab (Qae gIx (Qaa 0) (mC (.int 3))) (Qab (Qae gIx (Qaa 1) (mC (.int 1))) (Qab (Qae gIx (Qaa 1) (mC (.int 3))) Qag))))))
  (QaC (Qa7 (Qaa 2) (Qaq QdY (Qab (Qae gIx (Qaa 0) (mC (.int 2))) (Qab (Qae gIx (Qaa 0) (mC (.int 4))) (Qab (Qae gIx (Qaa 1) (mC (.int 2))) (Qab (Qae gIx (Qaa 1) (mC (.int 4))) Qag)))))))))
def QbG:List D→Qac→Res D:=Qbn 3 QcT
abbrev QfP (Pr:Program) (w:World) (K:Frag) (mg:Str→Option Value) (base:Heap):Prop:=Can Pr w K mg base "get_in_the_way" ["one","other"] 2 (vSp K mg [.s,.s] (rV K) QbG)
theorem Qij (QdP:Def K mg "get_in_the_way" QdS)
  (B:QbT mg)
  (Qcc:∃u,mg "BROAD" = some u∧RelV (.int 4) u)
  (Qcr:∃u,mg "LEFT" = some u∧RelV (.int 2) u)
  (QcJ:∃u,mg "NAME" = some u∧RelV (.int 0) u)
  (QcN:∃u,mg "TALL" = some u∧RelV (.int 3) u)
  (QcP:∃u,mg "TOP" = some u∧RelV (.int 1) u)
  (Qf0:Qkj Pr w K mg base) :
  QfP Pr w K mg base:=by
 refine Qc3 (k:=1) (b:=QcT) QdP Qfk (fun _ _ _ _ _ _=>QaO fun _=>QaO fun _=>QbQ rfl) [.s,.s] [.v] Qbk (fun _ _ _ _=>Rp.non) (body:=fun f cdv A outer s H E hr P=>?_);refine Qap ?_ ?_;refine Qci ?_ ?_ QbH;refine QcM (QkN hr) ?_ ?_ (Qbq _);refine Qad ?_;refine QaS (Qan 0) ?_;refine Qad ?_;refine QaE QcJ (fun _ _ _=>Rp.int);refine Qad ?_;refine QaS (Qan 1) ?_;refine Qad ?_;refine QaE QcJ (fun _ _ _=>Rp.int);refine Qaz (QaJ QcD);refine Qap ?_ ?_;refine QaR (i:=2) Qfk.nd rfl (.inl rfl) ?_;refine QaK Qf0 (hr.mono (by decide)) ?_;refine Qau ?_ ?_;refine Qad ?_;refine QaS (Qan 0) ?_;refine Qad ?_;refine QaE QcP (fun _ _ _=>Rp.int)
 refine Qau ?_ ?_;refine Qad ?_;refine QaS (Qan 0) ?_;refine Qad ?_;refine QaE QcN (fun _ _ _=>Rp.int);refine Qau ?_ ?_;refine Qad ?_;refine QaS (Qan 1) ?_;refine Qad ?_;refine QaE QcP (fun _ _ _=>Rp.int);refine Qau ?_ Qao;refine Qad ?_;refine QaS (Qan 1) ?_;refine Qad ?_;refine QaE QcN (fun _ _ _=>Rp.int);refine Qaz ?_;refine QaJ ?_;refine QbI (Qaf 2) ?_;refine Qcf ?_;refine QaK Qf0 (hr.mono (by decide)) ?_;refine Qau ?_ ?_;refine Qad ?_;refine QaS (Qan 0) ?_;refine Qad ?_;refine QaE Qcr (fun _ _ _=>Rp.int);refine Qau ?_ ?_;refine Qad ?_;refine QaS (Qan 0) ?_;refine Qad ?_;refine QaE Qcc (fun _ _ _=>Rp.int)
 refine Qau ?_ ?_;refine Qad ?_;refine QaS (Qan 1) ?_;refine Qad ?_;refine QaE Qcr (fun _ _ _=>Rp.int);refine Qau ?_ Qao;refine Qad ?_;refine QaS (Qan 1) ?_;refine Qad ?_;refine QaE Qcc (fun _ _ _=>Rp.int)
abbrev QgQ:Stmt:=top 34
theorem QlY:QaI ["room","row","col"] ["room","row","col"] (Qaj QgQ):=by trivial
def Qfs:MS :=
  (QaC (Qa7 (QbO gLe gLt (Qae gIx (Qaa 0) (mC (.int 1))) (Qaa 1) (Qae Qav (Qae gIx (Qaa 0) (mC (.int 1))) (Qae gIx (Qaa 0) (mC (.int 3))))) (QbO gLe gLt (Qae gIx (Qaa 0) (mC (.int 2))) (Qaa 2) (Qae Qav (Qae gIx (Qaa 0) (mC (.int 2))) (Qae gIx (Qaa 0) (mC (.int 4)))))))
def Qd5:List D→Qac→Res D:=Qbn 3 Qfs
abbrev QiP (Pr:Program) (w:World) (K:Frag) (mg:Str→Option Value) (base:Heap):Prop:=Can Pr w K mg base "has_cell" ["room","row","col"] 1 (vSp K mg [.s,.s,.s] (rV K) Qd5)
theorem QlT (QgM:Def K mg "has_cell" QgQ)
  (B:QbT mg)
  (Qcc:∃u,mg "BROAD" = some u∧RelV (.int 4) u)
  (Qcr:∃u,mg "LEFT" = some u∧RelV (.int 2) u)
  (QcN:∃u,mg "TALL" = some u∧RelV (.int 3) u)
  (QcP:∃u,mg "TOP" = some u∧RelV (.int 1) u) :
  QiP Pr w K mg base:=by
 refine Qc3 (k:=0) (b:=Qfs) QgM QlY (fun _ _ _ _ _ _=>QaO fun _=>QaO fun _=>QaO fun _=>QbQ rfl) [.s,.s,.s] [] Qbk (fun _ _ _ _=>Rp.non) (body:=fun f cdv A outer s H E hr P=>?_);refine Qaz ?_;refine QaJ ?_;refine QbI ?_ ?_;refine QaM ?_;refine QfI QdK QfZ ?_ (Qan 1) ?_;refine Qad ?_;refine QaS (Qan 0) ?_;refine Qad ?_;refine QaE QcP (fun _ _ _=>Rp.int);refine Qat ?_;refine Qas QaY ?_ ?_;refine Qad ?_;refine QaS (Qan 0) ?_;refine Qad ?_;refine QaE QcP (fun _ _ _=>Rp.int);refine Qad ?_;refine QaS (Qan 0) ?_;refine Qad ?_;refine QaE QcN (fun _ _ _=>Rp.int);refine Qcf ?_;refine QaM ?_;refine QfI QdK QfZ ?_ (Qan 2) ?_
 refine Qad ?_;refine QaS (Qan 0) ?_;refine Qad ?_;refine QaE Qcr (fun _ _ _=>Rp.int);refine Qat ?_;refine Qas QaY ?_ ?_;refine Qad ?_;refine QaS (Qan 0) ?_;refine Qad ?_;refine QaE Qcr (fun _ _ _=>Rp.int);refine Qad ?_;refine QaS (Qan 0) ?_;refine Qad ?_;refine QaE Qcc (fun _ _ _=>Rp.int)
abbrev Qel:Stmt:=top 35
theorem Qjr:QaI ["high","wide"] ["high","wide"] (Qaj Qel):=by trivial
def Qdl:MS :=
  (Qak (QcE (Qa1 (Qa4 (Qaq QaW (Qab (Qaa 0) (Qab (mC (.int 1)) (Qab (mC (.int 12)) Qag)))))) (Qak (Qif "NoSize")
  QaD) QaD)
  (Qak (QcE (Qa1 (Qa4 (Qaq QaW (Qab (Qaa 1) (Qab (mC (.int 2)) (Qab (mC (.int 40)) Qag)))))) (Qak (Qif "NoSize")
  QaD) QaD)
  QaD))
def Qex:List D→Qac→Res D:=Qbn 2 Qdl
abbrev QgC (Pr:Program) (w:World) (K:Frag) (mg:Str→Option Value) (base:Heap):Prop:=QhH Pr w K mg base "check_screen" ["high","wide"] 3 (QcV K mg [.s,.s] (rV K) Qex)
theorem Qjq (Qez:Def K mg "check_screen" Qel)
  (B:QbT mg)
  (Qdw:∃u,mg "GREATEST_HEIGHT" = some u∧RelV (.int 12) u)
  (QdU:∃u,mg "GREATEST_WIDTH" = some u∧RelV (.int 40) u)
  (QeW:∃u,mg "LEAST_WIDTH" = some u∧RelV (.int 2) u)
  (X_NoSize:Qlt K mg "NoSize")
  (Qb9:Qgn Pr w K mg base) :
  QgC Pr w K mg base:=by
 refine QmX (k:=2) (b:=Qdl) Qez Qjr (fun _ _ _ _ _ _=>QaO fun _=>QaO fun _=>QbQ rfl) [.s,.s] [] Qbk (fun _ _ _ _=>Rp.non) (body:=fun f cdv A outer s H E hr P=>?_)
 refine QaT (QgU (QbP (Qby (Qad (QaK Qb9 (hr.mono (by decide)) (Qau (Qan 0) (Qau (Qad Qal) (Qau (Qad (QaE Qdw (fun _ _ _=>Rp.int))) Qao))))))) (QaT (QiL X_NoSize rfl Qi2)
   Qbf) Qbf) (QaT (QgU (QbP (Qby (Qad (QaK Qb9 (hr.mono (by decide)) (Qau (Qan 1) (Qau (Qad (QaE QeW (fun _ _ _=>Rp.int))) (Qau (Qad (QaE QdU (fun _ _ _=>Rp.int))) Qao))))))) (QaT (QiL X_NoSize rfl Qi2)
   Qbf) Qbf)
   Qbf)
abbrev QdG:Stmt:=top 36
theorem Qeu:QaI ["high","wide","rooms","place","room"] ["high","wide","rooms"] (Qaj QdG):=by trivial
def QdD:MS :=
  (Qak (QcE (QbN (Qa1 (Qa4 (QcS "list" (Qaa 2)))) (QaQ (Qae gEq (QaP Qfe (Qab (Qaa 2) Qag)) (mC (.int 0))))) (Qak (QcB "NoRoom" "at" (mC (.int 0)))
  QaD) QaD)
  (Qak (Qdj (QkF (Qaa 2)) (QhY 2 (Qbi (mgN 3) (Qbi (mgN 4) QfG))) (Qak (QcE (QbN (QaQ (Qae gGe (Qaa 3) (mC (.int 6)))) (QbN (Qa1 (Qa4 (Qaq Qde (Qab (Qaa 4) Qag)))) (Qa1 (Qa4 (Qaq QbZ (Qab (Qaa 4) (Qab (Qaa 0) (Qab (Qaa 1) Qag)))))))) (Qak (QcB "NoRoom" "at" (Qaa 3))
  QaD) QaD)
  (Qak (QcE (Qa4 (QaP QjB (Qab (QbC (Qbj (mSl (Qaa 2) moN (moS (Qaa 3)))) 1 [4] (mgN 0) QbL (Qaq QbG (Qab (Qaa 1) (Qab (Qaa 0) Qag)))) Qag))) (Qak (QcB "NoRoom" "at" (Qaa 3))
  QaD) QaD)
  QaD)))
  QaD))
def Qe8:List D→Qac→Res D:=Qbn 5 QdD
abbrev Qhg (Pr:Program) (w:World) (K:Frag) (mg:Str→Option Value) (base:Heap):Prop:=QhH Pr w K mg base "check_rooms" ["high","wide","rooms"] 3 (QcV K mg [.s,.s,.s] (rV K) Qe8)
theorem QjH (QeX:Def K mg "check_rooms" QdG)
  (B:QbT mg)
  (QfS:∃u,mg "MOST_ROOMS" = some u∧RelV (.int 6) u)
  (XI_NoRoom:QiJ Pr w K mg base "NoRoom" "at" 1)
  (QhB:Qkn Pr w K mg base)
  (Qfg:Qhj Pr w K mg base)
  (QdT:QfP Pr w K mg base) :
  Qhg Pr w K mg base:=by
 refine QmX (k:=2) (b:=QdD) QeX Qeu (fun _ _ _ _ _ _=>QaO fun _=>QaO fun _=>QaO fun _=>QbQ rfl) [.s,.s,.s] [.v,.v] Qbk (fun _ _ _ _=>Rp.non) (body:=fun f cdv A outer s H E hr P=>?_)
 refine QaT (QgU (Qgd (Qea (QbP (Qby (Qat (Qdz "list" (hb:=Qig) B.isinstance_ B.list_ (Qan 2))))) (Qd8 (QcM (QkN hr) (Qat (Qb0 (ms:=[.s]) (hv:=QiW) Qjc B.len_ (Qau (Qan 2) Qao))) (Qad Qal) (Qbq _))))) (QaT (Qgc XI_NoRoom (hr.mono (by decide)) rfl Qal)
   Qbf) Qbf) (QaT (QlM rfl (Qsc B.enumerate_ (Qje 2)) (QlL 2 rfl (Qcg (QaV (i:=3) Qeu.nd rfl (.inl rfl)) (Qcg (QaV (i:=4) Qeu.nd rfl (.inr rfl)) Qj1))) (QaT (QgU (Qgd (Qea (QcM QiT (Qad (Qaf 3)) (Qad (QaE QfS (fun _ _ _=>Rp.int))) (Qbq _)) (Qea (QbP (Qby (Qad (QaK QhB (hr.mono (by decide)) (Qau (Qad (Qaf 4)) Qao))))) (Qd8 (QbP (Qby (Qad (QaK Qfg (hr.mono (by decide)) (Qau (Qad (Qaf 4)) (Qau (Qan 0) (Qau (Qan 1) Qao))))))))))) (QaT (Qgc XI_NoRoom (hr.mono (by decide)) rfl (Qaf 3))
   Qbf) Qbf)
   (QaT (QgU (Qby (Qat (Qb0 (ms:=[.s]) (hv:=QtH) (Qt6 rfl) B.any_ (Qau (Qat (QdX (Qaj QdG) ["high","wide","rooms","place","room"] ["ahead"] [4] rfl (QdV (Qat (Qet (Qan 2) Qgx (Qei (Qaf 3))))) (fun _ _ _ _ P=>(QaV (i:=0) (show (Qa0 ["high","wide","rooms","place","room"] ["ahead"] [4]).Nodup by decide +kernel) rfl (.inl rfl))) (fun _ _ _ _ P=>QdW) (fun _ _ _ _ P=>(QaK QdT (hr.mono (by decide)) (Qau (Qad (Qaf 1)) (Qau (Qad (Qaf 0)) Qao)))))) Qao)))) (QaT (Qgc XI_NoRoom (hr.mono (by decide)) rfl (Qaf 3))
   Qbf) Qbf)
   Qbf)))
   Qbf)
abbrev Qd0:Stmt:=inClass (top 37) 0
theorem QfK:QaI ["self","high","wide","rooms","room"] ["self","high","wide","rooms"] (Qaj Qd0):=by trivial
def Qc6:MS :=
  (Qak (QfA (QdA Qex (Qab (Qaa 1) (Qab (Qaa 2) Qag))))
  (Qak (QfA (QdA Qe8 (Qab (Qaa 1) (Qab (Qaa 2) (Qab (Qaa 3) Qag)))))
  (Qak (msN (QeE ["Plan"] "high" (Qaa 0) (mG (Qaa 1))))
  (Qak (msN (QeE ["Plan"] "wide" (Qaa 0) (mG (Qaa 2))))
  (Qak (msN (QeE ["Plan"] "room_by_name" (Qaa 0) Qjh))
  (Qak (Qdj (Qbj (Qaa 3)) (mgN 4) (Qak (msN (Qgv (QcY ["Plan"] "room_by_name" (Qaa 0)) (Qae gIx (Qaa 4) (mC (.int 0))) (Qaa 4)))
  QaD))
  QaD))))))
def Qcq:List D→Qac→Res D:=Qbn 5 Qc6
abbrev QiZ (Pr:Program) (w:World) (K:Frag) (mg:Str→Option Value) (base:Heap):Prop:=QkM Pr w K mg base "Plan" ["self","high","wide","rooms"] 4 (QcV K mg [.v,.s,.s,.s] (rV K) Qcq)
theorem QiN (Qd2:QpQ K mg "Plan" "Plan.__init__" Qd0)
  (B:QbT mg)
  (QcJ:∃u,mg "NAME" = some u∧RelV (.int 0) u)
  (QbV:KC K mg "Plan" "high")
  (QbW:KC K mg "Plan" "wide")
  (QaL:KC K mg "Plan" "room_by_name")
  (Qek:QgC Pr w K mg base)
  (Qfc:Qhg Pr w K mg base) :
  QiZ Pr w K mg base:=by
 refine Qtw (k:=3) (b:=Qc6) Qd2 QfK (fun _ _ _ _ _ _=>QaO fun _=>QaO fun _=>QaO fun _=>QaO fun _=>QbQ rfl) [.v,.s,.s,.s] [.v] Qbk (fun _ _ _ _=>Rp.non) (body:=fun f cdv A outer s H E hr P=>?_)
 refine QaT (Qmq (QhF Qek (hr.mono (by decide)) (Qau (Qan 1) (Qau (Qan 2) Qao)))) (QaT (Qmq (QhF Qfc (hr.mono (by decide)) (Qau (Qan 1) (Qau (Qan 2) (Qau (Qan 3) Qao)))))
   (QaT (QiH (Qk6 (QcG QbV Qdc) (Qaf 0) (QgI (Qan 1))))
   (QaT (QiH (Qk6 (QcG QbW Qdc) (Qaf 0) (QgI (Qan 2))))
   (QaT (QiH (Qk6 (QcG QaL Qdc) (Qaf 0) Qp7))
   (QaT (QlM rfl (Qla (Qje 3)) (QaV (i:=4) QfK.nd rfl (.inl rfl)) (QaT (QiH (QrB hr (QeR (QcG QaL Qdc) (Qaf 0)) (QaS (Qad (Qaf 4)) (Qad (QaE QcJ (fun _ _ _=>Rp.int)))) (Qaf 4)))
   Qbf))
   Qbf)))))
abbrev Qdb:Stmt:=inClass (top 37) 1
theorem Qhk:QaI ["self"] ["self"] (Qaj Qdb):=by trivial
def Qcs:MS :=
  (QaC (Qc2 (Qab (QcY ["Plan"] "high" (Qaa 0)) (Qab (QcY ["Plan"] "wide" (Qaa 0)) Qag))))
def Qdd:List D→Qac→Res D:=Qbn 1 Qcs
abbrev QeO (Pr:Program) (w:World) (K:Frag) (mg:Str→Option Value) (base:Heap):Prop:=Qe6 Pr w K mg base "Plan" "screen_size" ["self"] 1 (vSp K mg [.v] (rV K) Qdd)
theorem Qhl (Qdh:QiA K mg "Plan" "screen_size" "Plan.screen_size" Qdb)
  (B:QbT mg)
  (QbV:KC K mg "Plan" "high")
  (QbW:KC K mg "Plan" "wide") :
  QeO Pr w K mg base:=by
 refine QqN (k:=0) (b:=Qcs) Qdh Qhk (fun _ _ _ _ _ _=>QaO fun _=>QbQ rfl) [.v] [] Qbk (fun _ _ _ _=>Rp.non) (body:=fun f cdv A outer s H E hr P=>?_);refine Qaz ?_;refine QaJ ?_;refine QfU 2 ?_;refine QaF (QeR (QcG QbV Qdc) (Qaf 0)) ?_;refine QaF (QeR (QcG QbW Qdc) (Qaf 0)) Qao
abbrev Qdu:Stmt:=inClass (top 37) 2
theorem QhI:QaI ["self"] ["self"] (Qaj Qdu):=by trivial
def QcF:MS :=
  (QaC (Qji (QcY ["Plan"] "room_by_name" (Qaa 0))))
def Qdv:List D→Qac→Res D:=Qbn 1 QcF
abbrev Qfl (Pr:Program) (w:World) (K:Frag) (mg:Str→Option Value) (base:Heap):Prop:=Qe6 Pr w K mg base "Plan" "room_names" ["self"] 1 (vSp K mg [.v] (rO K) Qdv)
theorem Qh1 (Qdq:QiA K mg "Plan" "room_names" "Plan.room_names" Qdu)
  (B:QbT mg)
  (QaL:KC K mg "Plan" "room_by_name") :
  Qfl Pr w K mg base:=by
 refine QqN (k:=0) (b:=QcF) Qdq QhI (fun _ _ _ _ _ _=>QaO fun _=>QbQ rfl) [.v] [] QeI (fun _ _ _ _=>.inl ⟨rfl,Rp.non⟩) (body:=fun f cdv A outer s H E hr P=>?_);refine Qaz ?_;refine Qmi ?_;refine Qqe rfl B.list_ (QeR (QcG QaL Qdc) (Qaf 0))
abbrev Qev:Stmt:=inClass (top 37) 3
theorem Qjg:QaI ["self","name"] ["self","name"] (Qaj Qev):=by trivial
def Qcd:MS :=
  (Qak (QfW (QdA QbX (Qab (QcY ["Plan"] "room_by_name" (Qaa 0)) (Qab (Qaa 1) Qag))))
  QaD)
def Qbv:List D→Qac→Res D:=Qbn 2 Qcd
abbrev QgG (Pr:Program) (w:World) (K:Frag) (mg:Str→Option Value) (base:Heap):Prop:=Qih Pr w K mg base "Plan" "room_of" ["self","name"] 4 (QcV K mg [.v,.v] (rV K) Qbv)
theorem Qjn (Qep:QiA K mg "Plan" "room_of" "Plan.room_of" Qev)
  (B:QbT mg)
  (QaL:KC K mg "Plan" "room_by_name")
  (Qhx:Qka Pr w K mg base) :
  QgG Pr w K mg base:=by
 refine Qpq (k:=3) (b:=Qcd) Qep Qjg (fun _ _ _ _ _ _=>QaO fun _=>QaO fun _=>QbQ rfl) [.v,.v] [] Qbk (fun _ _ _ _=>Rp.non) (body:=fun f cdv A outer s H E hr P=>?_);refine QaT (Qr4 Qbk (QhF Qhx (hr.mono (by decide)) (QaF (QeR (QcG QaL Qdc) (Qaf 0)) (QaF (Qaf 1) Qao)))) Qbf
abbrev Qen:Stmt:=inClass (top 37) 4
theorem Qf9:QaI ["self","row","col","room"] ["self","row","col"] (Qaj Qen):=by trivial
def QbJ:MS :=
  (Qak (QcE (QbN (Qa1 (Qa4 (Qaq QaW (Qab (Qaa 1) (Qab (mC (.int 0)) (Qab (Qae Qdx (QcY ["Plan"] "high" (Qaa 0)) (mC (.int 1))) Qag)))))) (Qa1 (Qa4 (Qaq QaW (Qab (Qaa 2) (Qab (mC (.int 0)) (Qab (Qae Qdx (QcY ["Plan"] "wide" (Qaa 0)) (mC (.int 1))) Qag))))))) (Qak (Qif "NoCell")
  QaD) QaD)
  (Qak (Qdj (Qh0 (QcY ["Plan"] "room_by_name" (Qaa 0))) (mgN 3) (Qak (msN (QbA (Qa4 (Qaq Qd5 (Qab (Qaa 3) (Qab (Qaa 1) (Qab (Qaa 2) Qag))))) (QaC (Qae gIx (Qaa 3) (mC (.int 0)))) QaD))
  QaD))
  (Qak (msN (QaC (mC .non)))
  QaD)))
def Qbh:List D→Qac→Res D:=Qbn 4 QbJ
abbrev Qgt (Pr:Program) (w:World) (K:Frag) (mg:Str→Option Value) (base:Heap):Prop:=Qih Pr w K mg base "Plan" "room_at" ["self","row","col"] 3 (QcV K mg [.v,.v,.v] (rV K) Qbh)
theorem QiX (QeB:QiA K mg "Plan" "room_at" "Plan.room_at" Qen)
  (B:QbT mg)
  (QcJ:∃u,mg "NAME" = some u∧RelV (.int 0) u)
  (QaL:KC K mg "Plan" "room_by_name")
  (QbV:KC K mg "Plan" "high")
  (QbW:KC K mg "Plan" "wide")
  (X_NoCell:Qlt K mg "NoCell")
  (Qb9:Qgn Pr w K mg base)
  (QgP:QiP Pr w K mg base) :
  Qgt Pr w K mg base:=by
 refine Qpq (k:=2) (b:=QbJ) QeB Qf9 (fun _ _ _ _ _ _=>QaO fun _=>QaO fun _=>QaO fun _=>QbQ rfl) [.v,.v,.v] [.v] Qbk (fun _ _ _ _=>Rp.non) (body:=fun f cdv A outer s H E hr P=>?_)
 refine QaT (QgU (Qgd (Qea (QbP (Qby (Qad (QaK Qb9 (hr.mono (by decide)) (Qau (Qad (Qaf 1)) (Qau (Qad Qal) (Qau (Qat (Qas Qi5 (Qad (QeR (QcG QbV Qdc) (Qaf 0))) (Qad Qal))) Qao))))))) (Qd8 (QbP (Qby (Qad (QaK Qb9 (hr.mono (by decide)) (Qau (Qad (Qaf 2)) (Qau (Qad Qal) (Qau (Qat (Qas Qi5 (Qad (QeR (QcG QbW Qdc) (Qaf 0))) (Qad Qal))) Qao)))))))))) (QaT (QiL X_NoCell rfl Qi2)
   Qbf) Qbf) (QaT (QlM rfl (Qsz (QeR (QcG QaL Qdc) (Qaf 0))) (QaV (i:=3) Qf9.nd rfl (.inl rfl)) (QaT (QiH (Qci (Qby (Qad (QaK QgP (hr.mono (by decide)) (Qau (Qad (Qaf 3)) (Qau (Qad (Qaf 1)) (Qau (Qad (Qaf 2)) Qao)))))) (Qaz (QaJ (QaS (Qad (Qaf 3)) (Qad (QaE QcJ (fun _ _ _=>Rp.int)))))) QbH))
   Qbf))
   (QaT (QiH (QaJ Qjk))
   Qbf))
abbrev QeY:Stmt:=top 39
theorem QjA:QaI ["_law_script","_law_k"] ["_law_script","_law_k"] (Qaj QeY):=by trivial
def Qfb:MS :=
  (Qak (QbA (QaQ (Qae gLt (Qaa 1) (QaP Qfe (Qab (Qaa 0) Qag)))) (QaC (Qae gIx (Qaa 0) (Qaa 1))) QaD)
  (QaC (mC (.int 0))))
def QbF:List D→Qac→Res D:=Qbn 2 Qfb
abbrev QeZ (Pr:Program) (w:World) (K:Frag) (mg:Str→Option Value) (base:Heap):Prop:=Can Pr w K mg base "_law_cell_at" ["_law_script","_law_k"] 1 (vSp K mg [.s,.s] (rV K) QbF)
theorem Qj3 (Qe9:Def K mg "_law_cell_at" QeY)
  (B:QbT mg) :
  QeZ Pr w K mg base:=by
 refine Qc3 (k:=0) (b:=Qfb) Qe9 QjA (fun _ _ _ _ _ _=>QaO fun _=>QaO fun _=>QbQ rfl) [.s,.s] [] Qbk (fun _ _ _ _=>Rp.non) (body:=fun f cdv A outer s H E hr P=>?_);refine Qap ?_ ?_;refine Qci ?_ ?_ QbH;refine QcM QfZ (Qan 1) ?_ (Qbq _);refine Qat ?_;refine Qb0 (ms:=[.s]) (hv:=QiW) Qjc B.len_ ?_;refine Qau (Qan 0) Qao;refine Qaz ?_;refine QaJ ?_;refine QaS (Qan 0) (Qan 1);refine Qaz (QaJ Qal)
abbrev QhX:Stmt:=top 40
theorem QcU:QaI ["_law_cell","_law_k","_law_rest","_law_turn","_law_number"] ["_law_cell","_law_k"] (Qaj QhX):=by trivial
def Qki:MS :=
  (Qak (QbA (QaQ (Qae gGt (Qaa 0) (Qae Qer (mC (.int 10)) (mC (.int 18))))) (Qak (Qar 2 (mG (Qaa 0)))
  (Qak (QbB (Qch (Qab (Qaa 1) Qag)) (mgN 3) (Qar 2 (Qae Qcj (Qaa 2) (Qae Qer (mC (.int 10)) (mC (.int 9))))))
  (QaC (Qae QaU (Qaa 2) (Qae Qer (mC (.int 10)) (mC (.int 9))))))) QaD)
  (Qak (Qar 4 (Qae Qav (Qae QaU (Qaa 0) (mC (.int 2147483647))) (mC (.int 7919))))
  (Qak (QbB (Qch (Qab (Qae Qav (Qaa 1) (mC (.int 2))) Qag)) (mgN 3) (Qar 4 (Qae QaU (Qae Qav (Qae Qbz (Qaa 4) (mC (.int 48271))) (mC (.int 104729))) (mC (.int 2147483629)))))
  (QaC (Qae Qcj (Qae QaU (Qae Qbz (Qaa 4) (Qaa 4)) (mC (.int 998244353))) (mC (.int 11)))))))
def QaH:List D→Qac→Res D:=Qbn 5 Qki
abbrev Qhu (Pr:Program) (w:World) (K:Frag) (mg:Str→Option Value) (base:Heap):Prop:=Can Pr w K mg base "_law_mix" ["_law_cell","_law_k"] 1 (vSp K mg [.s,.s] (rV K) QaH)
theorem Qnq (QhN:Def K mg "_law_mix" QhX)
  (B:QbT mg) :
  Qhu Pr w K mg base:=by
 refine Qc3 (k:=0) (b:=Qki) QhN QcU (fun _ _ _ _ _ _=>QaO fun _=>QaO fun _=>QbQ rfl) [.s,.s] [.v,.v,.v] Qbk (fun _ _ _ _=>Rp.non) (body:=fun f cdv A outer s H E hr P=>?_);refine Qap ?_ ?_;refine Qci ?_ ?_ QbH;refine QcM Qvm (Qan 0) ?_ (Qbq _);refine Qat ?_;refine Qas Qi3 (Qad Qal) (Qad Qal);refine Qap ?_ ?_;refine QaR (i:=2) QcU.nd rfl (.inl rfl) (QgI (Qan 0));refine Qap ?_ ?_;refine QdB rfl ?_ (QaV (i:=3) QcU.nd rfl (.inl rfl)) ?_;refine Qcu B.range_ ?_;refine Qau (Qan 1) Qao;refine Qaz ?_;refine QaR (i:=2) QcU.nd rfl (.inl rfl) ?_;refine QaM ?_;refine Qas QgB (Qad (Qaf 2)) ?_;refine Qat ?_;refine Qas Qi3 (Qad Qal) (Qad Qal)
 refine Qaz ?_;refine QaJ ?_;refine QaM ?_;refine Qas QbE (Qad (Qaf 2)) ?_;refine Qat ?_;refine Qas Qi3 (Qad Qal) (Qad Qal);refine Qap ?_ ?_;refine QaR (i:=4) QcU.nd rfl (.inl rfl) ?_;refine QaM ?_;refine Qas QaY ?_ (Qad Qal);refine Qat ?_;refine Qas QbE (Qan 0) (Qad Qal);refine Qap ?_ ?_;refine QdB rfl ?_ (QaV (i:=3) QcU.nd rfl (.inl rfl)) ?_;refine Qcu B.range_ ?_;refine Qau ?_ Qao;refine Qat ?_;refine Qas QaY (Qan 1) (Qad Qal);refine Qaz ?_;refine QaR (i:=4) QcU.nd rfl (.inl rfl) ?_;refine QaM ?_;refine Qas QbE ?_ (Qad Qal);refine Qat ?_;refine Qas QaY ?_ (Qad Qal);refine Qat ?_;refine Qas Qef (Qad (Qaf 4)) (Qad Qal)
 refine Qaz ?_;refine QaJ ?_;refine QaM ?_;refine Qas QgB ?_ (Qad Qal);refine Qat ?_;refine Qas QbE ?_ (Qad Qal);refine Qat ?_;refine Qas Qef (Qad (Qaf 4)) (Qad (Qaf 4))
abbrev QeC:Stmt:=top 41
theorem QbM:QaI ["_law_cell","_law_many","_law_letters","_law_base","_law_k","_law_at","_law_names_here","_law_sign"] ["_law_cell","_law_many"] (Qaj QeC):=by trivial
def Qc1:MS :=
  (Qak (Qar 2 (mC (.str [97,98,99,100,101,102,103,104,105,106,107,108,109,110,111,112,113,114,115,116,117,118,119,120,121,122])))
  (Qak (Qar 3 (mC (.str [])))
  (Qak (QbB (Qch (Qab (mC (.int 8)) Qag)) (mgN 4) (Qar 3 (Qae Qav (Qaa 3) (Qae gIx (Qaa 2) (Qae QaU (Qaq QaH (Qab (Qaa 0) (Qab (Qaa 4) Qag))) (mC (.int 26)))))))
  (Qak (QbA (QaQ (Qae gEq (Qae QaU (Qaa 0) (mC (.int 3))) (mC (.int 0)))) (QaC (QbC (Qch (Qab (Qaa 1) Qag)) 1 [3] (mgN 0) QbL (mSl (Qaa 1) moN (moS (Qae Qav (Qaa 0) (mC (.int 1))))))) QaD)
  (Qak (Qar 5 (Qae QaU (Qae Qcj (Qaa 0) (mC (.int 3))) (mC (.int 8))))
  (Qak (Qar 6 (Qb5 Qag))
  (Qak (QbB (Qch (Qab (Qaa 1) Qag)) (mgN 4) (Qak (Qar 7 (Qae gIx (Qaa 2) (Qae QaU (Qae Qav (Qaq QaH (Qab (Qaa 0) (Qab (mC (.int 8)) Qag))) (Qaa 4)) (mC (.int 26)))))
  (Qc8 6 (mSl (Qae Qav (Qae Qav (mSl (Qaa 3) moN (moS (Qaa 5))) (Qaa 7)) (mSl (Qaa 3) (moS (Qae Qav (Qaa 5) (mC (.int 1)))) moN)) moN (moS (QaP QhW (Qab (Qae Qav (Qaa 5) (mC (.int 1))) (Qab (Qae Qav (mC (.int 1)) (Qae QaU (Qae Qcj (Qaa 0) (mC (.int 24))) (mC (.int 8)))) Qag))))))))
  (QaC (Qaa 6)))))))))
def Qgg:List D→Qac→Res D:=Qbn 8 Qc1
abbrev Qio (Pr:Program) (w:World) (K:Frag) (mg:Str→Option Value) (base:Heap):Prop:=Can Pr w K mg base "_law_names" ["_law_cell","_law_many"] 2 (vSp K mg [.s,.s] (rO K) Qgg)
theorem Qk0 (Qgp:Def K mg "_law_names" QeC)
  (B:QbT mg)
  (Qbo:Qhu Pr w K mg base) :
  Qio Pr w K mg base:=by
 refine Qc3 (k:=1) (b:=Qc1) Qgp QbM (fun _ _ _ _ _ _=>QaO fun _=>QaO fun _=>QbQ rfl) [.s,.s] [.v,.v,.v,.v,.o,.v] QeI (fun _ _ _ _=>.inl ⟨rfl,Rp.non⟩) (body:=fun f cdv A outer s H E hr P=>?_);refine Qap (QaR (i:=2) QbM.nd rfl (.inl rfl) (QbK [97,98,99,100,101,102,103,104,105,106,107,108,109,110,111,112,113,114,115,116,117,118,119,120,121,122])) ?_;refine Qap (QaR (i:=3) QbM.nd rfl (.inr rfl) (QbK [])) ?_;refine Qap ?_ ?_;refine QdB rfl ?_ (QaV (i:=4) QbM.nd rfl (.inl rfl)) ?_;refine Qcu B.range_ ?_;refine Qau (Qad Qal) Qao;refine Qaz ?_;refine QaR (i:=3) QbM.nd rfl (.inr rfl) ?_;refine QaM ?_
 refine Qas QaY (Qad (Qaf 3)) ?_;refine Qad ?_;refine QaS (Qad (Qaf 2)) ?_;refine Qat ?_;refine Qas QbE ?_ (Qad Qal);refine Qad ?_;refine QaK Qbo (hr.mono (by decide)) ?_;refine Qau (Qan 0) ?_;refine Qau (Qad (Qaf 4)) Qao;refine Qap ?_ ?_;refine Qci ?_ ?_ QbH;refine QcM (QkN hr) ?_ (Qad Qal) (Qbq _);refine Qat ?_;refine Qas QbE (Qan 0) (Qad Qal);refine Qaz ?_;refine Qmi ?_;refine QdX (Qaj QeC) ["_law_cell","_law_many","_law_letters","_law_base","_law_k","_law_at","_law_names_here","_law_sign"] ["_law_k"] [3] rfl ?_ (fun _ _ _ _ P=>?_) (fun _ _ _ _ P=>?_) (fun _ _ _ _ P=>?_);refine QkX ?_;refine Qcu B.range_ ?_
 refine Qau (Qan 1) Qao;exact QaV (i:=0) (show (Qa0 ["_law_cell","_law_many","_law_letters","_law_base","_law_k","_law_at","_law_names_here","_law_sign"] ["_law_k"] [3]).Nodup by decide +kernel) rfl (.inl rfl);exact QdW;refine QaM ?_;refine Qet (Qad (Qaf 1)) Qgx ?_;refine Qei ?_;refine QaM ?_;refine Qas QaY (Qad (Qaf 0)) (Qad Qal);refine Qap ?_ ?_;refine QaR (i:=5) QbM.nd rfl (.inl rfl) ?_;refine QaM ?_;refine Qas QbE ?_ (Qad Qal);refine Qat ?_;refine Qas QgB (Qan 0) (Qad Qal);refine Qap ?_ ?_;refine Qid (i:=6) QbM.nd rfl (.inl rfl) (QeL 0 Qao);refine Qap ?_ (Qaz (Qrq 6));refine QdB rfl ?_ (QaV (i:=4) QbM.nd rfl (.inl rfl)) ?_
 refine Qcu B.range_ ?_;refine Qau (Qan 1) Qao;refine Qap ?_ ?_;refine QaR (i:=7) QbM.nd rfl (.inl rfl) ?_;refine QaS (Qad (Qaf 2)) ?_;refine Qat ?_;refine Qas QbE ?_ (Qad Qal);refine Qat ?_;refine Qas QaY ?_ (Qad (Qaf 4));refine Qad ?_;refine QaK Qbo (hr.mono (by decide)) ?_;refine Qau (Qan 0) ?_;refine Qau (Qad Qal) Qao;refine Qaz ?_;refine Qf4 6 ?_;refine QaM ?_;refine Qet ?_ Qgx ?_;refine Qat ?_;refine Qas QaY ?_ ?_;refine Qat ?_;refine Qas QaY ?_ (Qad (Qaf 7));refine Qat ?_;refine Qet (Qad (Qaf 3)) Qgx (Qei (Qaf 5));refine Qat ?_;refine Qet (Qad (Qaf 3)) ?_ Qgx;refine Qei ?_;refine QaM ?_
 refine Qas QaY (Qad (Qaf 5)) (Qad Qal);refine Qei ?_;refine QaM ?_;refine Qb0 (ms:=[.s,.s]) (hv:=Qk5) (QtI rfl) B.max_ ?_;refine Qau ?_ ?_;refine Qat ?_;refine Qas QaY (Qad (Qaf 5)) (Qad Qal);refine Qau ?_ Qao;refine Qat ?_;refine Qas QaY (Qad Qal) ?_;refine Qat ?_;refine Qas QbE ?_ (Qad Qal);refine Qat ?_;refine Qas QgB (Qan 0) (Qad Qal)
abbrev Qd6:Stmt:=top 42
theorem Qa8:QaI ["_law_script","_law_cell","_law_many","_law_names_here","_law_aside","_law_at","_law_rooms","_law_k","_law_long","_law_broad","_law_way","_law_off","_law_high","_law_wide"] ["_law_script"] (Qaj Qd6):=by trivial
def Qfo:MS :=
  (Qak (Qar 1 (Qaq QbF (Qab (Qaa 0) (Qab (mC (.int 0)) Qag))))
  (Qak (Qar 2 (Qae Qav (mC (.int 1)) (Qae QaU (Qaq QaH (Qab (Qaa 1) (Qab (mC (.int 9)) Qag))) (mC (.int 6)))))
  (Qak (Qar 3 (Qaq Qgg (Qab (Qaq QbF (Qab (Qaa 0) (Qab (mC (.int 1)) Qag))) (Qab (Qaa 2) Qag))))
  (Qak (Qar 4 (Qae gEq (Qae QaU (Qaq QaH (Qab (Qaa 1) (Qab (mC (.int 10)) Qag))) (mC (.int 2))) (mC (.int 0))))
  (Qak (Qar 5 (Qae Qbz (Qae QaU (Qaq QaH (Qab (Qaa 1) (Qab (mC (.int 11)) Qag))) (mC (.int 2))) (QaP Qe1 (Qab (Qaa 4) Qag))))
  (Qak (Qar 6 (Qb5 Qag))
  (Qak (QbB (Qch (Qab (Qaa 2) Qag)) (mgN 7) (Qak (Qar 8 (Qae Qav (mC (.int 1)) (Qae QaU (Qaq QaH (Qab (Qaa 1) (Qab (Qae Qav (mC (.int 14)) (Qae Qbz (mC (.int 6)) (Qaa 7))) Qag))) (mC (.int 2)))))
  (Qak (Qar 9 (Qae Qav (mC (.int 2)) (Qae QaU (Qaq QaH (Qab (Qaa 1) (Qab (Qae Qav (mC (.int 15)) (Qae Qbz (mC (.int 6)) (Qaa 7))) Qag))) (Qae gIx (Qb5 (Qab (mC (.int 5)) (Qab (mC (.int 20)) Qag))) (QaP Qe1 (Qab (Qc4 (Qaa 4)) Qag))))))
  (Qak (Qar 10 (Qae gIx (Qb5 (Qab (mC (.str [99,117,116])) (Qab (mC (.str [99,101,108,108,115])) (Qab (mC (.str [119,111,114,100,115])) (Qab (mC (.str [101,118,101,110])) Qag))))) (Qae QaU (Qaq QaH (Qab (Qaa 1) (Qab (Qae Qav (mC (.int 16)) (Qae Qbz (mC (.int 6)) (Qaa 7))) Qag))) (mC (.int 4)))))
  (Qak (Qar 11 (Qae QaU (Qaq QaH (Qab (Qaa 1) (Qab (Qae Qav (mC (.int 17)) (Qae Qbz (mC (.int 6)) (Qaa 7))) Qag))) (mC (.int 10))))
  (QbA (Qa4 (Qaa 4)) (Qak (Qc8 6 (Qc2 (Qab (Qae gIx (Qaa 3) (Qaa 7)) (Qab (Qaa 11) (Qab (Qaa 5) (Qab (Qaa 8) (Qab (Qaa 9) (Qab (Qaa 10) Qag))))))))
  (Qar 5 (Qae Qav (Qae Qav (Qaa 5) (Qaa 9)) (Qae Qbz (Qae QaU (Qaq QaH (Qab (Qaa 1) (Qab (Qae Qav (mC (.int 18)) (Qae Qbz (mC (.int 6)) (Qaa 7))) Qag))) (mC (.int 2))) (QaP Qe1 (Qab (Qae gLt (Qaa 7) (mC (.int 3))) Qag)))))) (Qak (Qc8 6 (Qc2 (Qab (Qae gIx (Qaa 3) (Qaa 7)) (Qab (Qaa 5) (Qab (Qaa 11) (Qab (Qaa 8) (Qab (Qaa 9) (Qab (Qaa 10) Qag))))))))
  (Qar 5 (Qae Qav (Qaa 5) (Qaa 8))))))))))
  (Qak (Qar 12 (QaP QgL (Qab (QbC (Qbj (Qaa 6)) 1 [] (mgN 0) QbL (Qae Qav (Qae gIx (Qaa 0) (mC (.int 1))) (Qae gIx (Qaa 0) (mC (.int 3))))) Qag)))
  (Qak (Qar 13 (QaP QgL (Qab (QbC (Qbj (Qaa 6)) 1 [] (mgN 0) QbL (Qae Qav (Qae gIx (Qaa 0) (mC (.int 2))) (Qae gIx (Qaa 0) (mC (.int 4))))) Qag)))
  (Qlm (QaC (Qc2 (Qab (QaP Qix (Qab (mC (.int 12)) (Qab (Qae Qav (Qaa 12) (Qae QaU (Qaq QaH (Qab (Qaa 1) (Qab (mC (.int 12)) Qag))) (mC (.int 2)))) Qag))) (Qab (QaP Qix (Qab (mC (.int 40)) (Qab (Qae Qav (Qaa 13) (Qae QaU (Qaq QaH (Qab (Qaa 1) (Qab (mC (.int 13)) Qag))) (mC (.int 2)))) Qag))) (Qab (Qaa 6) Qag)))))))))))))))
def Qg7:List D→Qac→Res D:=Qbn 14 Qfo
abbrev Qjt (Pr:Program) (w:World) (K:Frag) (mg:Str→Option Value) (base:Heap):Prop:=Can Pr w K mg base "_law_plan" ["_law_script"] 3 (vSp K mg [.s] (rV K) Qg7)
theorem Ql1 (QgK:Def K mg "_law_plan" Qd6)
  (B:QbT mg)
  (Qb2:QeZ Pr w K mg base)
  (Qbo:Qhu Pr w K mg base)
  (Qgk:Qio Pr w K mg base) :
  Qjt Pr w K mg base:=by
 refine Qc3 (k:=2) (b:=Qfo) QgK Qa8 (fun _ _ _ _ _ _=>QaO fun _=>QbQ rfl) [.s] [.v,.v,.v,.v,.v,.o,.v,.v,.v,.v,.v,.v,.v] Qbk (fun _ _ _ _=>Rp.non) (body:=fun f cdv A outer s H E hr P=>?_);refine Qap ?_ ?_;refine QaR (i:=1) Qa8.nd rfl (.inl rfl) ?_;refine QaK Qb2 (hr.mono (by decide)) ?_;refine Qau (Qan 0) ?_;refine Qau (Qad Qal) Qao;refine Qap ?_ ?_;refine QaR (i:=2) Qa8.nd rfl (.inl rfl) ?_;refine QaM ?_;refine Qas QaY (Qad Qal) ?_;refine Qat ?_;refine Qas QbE ?_ (Qad Qal);refine Qad ?_;refine QaK Qbo (hr.mono (by decide)) ?_;refine Qau (Qad (Qaf 1)) ?_;refine Qau (Qad Qal) Qao;refine Qap ?_ ?_
 refine QaR (i:=3) Qa8.nd rfl (.inl rfl) ?_;refine QaM ?_;refine Qsg Qgk (hr.mono (by decide)) ?_;refine Qau ?_ ?_;refine Qad ?_;refine QaK Qb2 (hr.mono (by decide)) ?_;refine Qau (Qan 0) ?_;refine Qau (Qad Qal) Qao;refine Qau (Qad (Qaf 2)) Qao;refine Qap ?_ ?_;refine QaR (i:=4) Qa8.nd rfl (.inl rfl) ?_;refine QaM ?_;refine Qc0 (QkN hr) ?_ (Qad Qal) (Qbq _);refine Qat ?_;refine Qas QbE ?_ (Qad Qal);refine Qad ?_;refine QaK Qbo (hr.mono (by decide)) ?_;refine Qau (Qad (Qaf 1)) ?_;refine Qau (Qad Qal) Qao;refine Qap ?_ ?_;refine QaR (i:=5) Qa8.nd rfl (.inl rfl) ?_;refine QaM ?_;refine Qas Qef ?_ ?_
 refine Qat ?_;refine Qas QbE ?_ (Qad Qal);refine Qad ?_;refine QaK Qbo (hr.mono (by decide)) ?_;refine Qau (Qad (Qaf 1)) ?_;refine Qau (Qad Qal) Qao;refine Qat ?_;refine QgN (ms:=[.s]) (hv:=QiS) Qlg B.int_ ?_;refine Qau (Qad (Qaf 4)) Qao;refine Qap ?_ ?_;refine Qid (i:=6) Qa8.nd rfl (.inl rfl) (QeL 0 Qao);refine Qap ?_ ?_;refine QdB rfl ?_ (QaV (i:=7) Qa8.nd rfl (.inl rfl)) ?_;refine Qcu B.range_ ?_;refine Qau (Qad (Qaf 2)) Qao;refine Qap ?_ ?_;refine QaR (i:=8) Qa8.nd rfl (.inl rfl) ?_;refine QaM ?_;refine Qas QaY (Qad Qal) ?_;refine Qat ?_;refine Qas QbE ?_ (Qad Qal);refine Qad ?_;refine QaK Qbo (hr.mono (by decide)) ?_
 refine Qau (Qad (Qaf 1)) ?_;refine Qau ?_ Qao;refine Qat ?_;refine Qas QaY (Qad Qal) ?_;refine Qat ?_;refine Qas Qef (Qad Qal) (Qad (Qaf 7));refine Qap ?_ ?_;refine QaR (i:=9) Qa8.nd rfl (.inl rfl) ?_;refine QaM ?_;refine Qas QaY (Qad Qal) ?_;refine Qat ?_;refine Qas QbE ?_ ?_;refine Qad ?_;refine QaK Qbo (hr.mono (by decide)) ?_;refine Qau (Qad (Qaf 1)) ?_;refine Qau ?_ Qao;refine Qat ?_;refine Qas QaY (Qad Qal) ?_;refine Qat ?_;refine Qas Qef (Qad Qal) (Qad (Qaf 7));refine Qad ?_;refine QaS ?_ ?_;refine Qat ?_;refine QeL 2 ?_;refine QaF Qal ?_;refine QaF Qal Qao;refine Qat ?_;refine QgN (ms:=[.s]) (hv:=QiS) Qlg B.int_ ?_
 refine Qau ?_ Qao;refine Qad (Qhp (Qaf 4));refine Qap ?_ ?_;refine QaR (i:=10) Qa8.nd rfl (.inl rfl) ?_;refine QaS ?_ ?_;refine Qat ?_;refine QeL 4 ?_;refine QaF (QbK [99,117,116]) ?_;refine QaF (QbK [99,101,108,108,115]) ?_;refine QaF (QbK [119,111,114,100,115]) ?_;refine QaF (QbK [101,118,101,110]) Qao;refine Qat ?_;refine Qas QbE ?_ (Qad Qal);refine Qad ?_;refine QaK Qbo (hr.mono (by decide)) ?_;refine Qau (Qad (Qaf 1)) ?_;refine Qau ?_ Qao;refine Qat ?_;refine Qas QaY (Qad Qal) ?_;refine Qat ?_;refine Qas Qef (Qad Qal) (Qad (Qaf 7));refine Qap ?_ ?_;refine QaR (i:=11) Qa8.nd rfl (.inl rfl) ?_
 refine QaM ?_;refine Qas QbE ?_ (Qad Qal);refine Qad ?_;refine QaK Qbo (hr.mono (by decide)) ?_;refine Qau (Qad (Qaf 1)) ?_;refine Qau ?_ Qao;refine Qat ?_;refine Qas QaY (Qad Qal) ?_;refine Qat ?_;refine Qas Qef (Qad Qal) (Qad (Qaf 7));refine Qaz ?_;refine Qci ?_ ?_ ?_;refine Qby (Qad (Qaf 4));refine Qap ?_ ?_;refine Qf4 6 ?_;refine QfU 6 ?_;refine QaF ?_ ?_;refine QaS (Qad (Qaf 3)) (Qad (Qaf 7));refine QaF (Qaf 11) ?_;refine QaF (Qaf 5) ?_;refine QaF (Qaf 8) ?_;refine QaF (Qaf 9) ?_;refine QaF (Qaf 10) Qao;refine Qaz ?_;refine QaR (i:=5) Qa8.nd rfl (.inl rfl) ?_;refine QaM ?_;refine Qas QaY ?_ ?_
 refine Qat ?_;refine Qas QaY (Qad (Qaf 5)) (Qad (Qaf 9));refine Qat ?_;refine Qas Qef ?_ ?_;refine Qat ?_;refine Qas QbE ?_ (Qad Qal);refine Qad ?_;refine QaK Qbo (hr.mono (by decide)) ?_;refine Qau (Qad (Qaf 1)) ?_;refine Qau ?_ Qao;refine Qat ?_;refine Qas QaY (Qad Qal) ?_;refine Qat ?_;refine Qas Qef (Qad Qal) (Qad (Qaf 7));refine Qat ?_;refine QgN (ms:=[.s]) (hv:=QiS) Qlg B.int_ ?_;refine Qau ?_ Qao;refine Qat ?_;refine Qc0 QfZ (Qad (Qaf 7)) (Qad Qal) (Qbq _);refine Qap ?_ ?_;refine Qf4 6 ?_;refine QfU 6 ?_;refine QaF ?_ ?_;refine QaS (Qad (Qaf 3)) (Qad (Qaf 7));refine QaF (Qaf 5) ?_;refine QaF (Qaf 11) ?_
 refine QaF (Qaf 8) ?_;refine QaF (Qaf 9) ?_;refine QaF (Qaf 10) Qao;refine Qaz ?_;refine QaR (i:=5) Qa8.nd rfl (.inl rfl) ?_;refine QaM ?_;refine Qas QaY (Qad (Qaf 5)) (Qad (Qaf 8));refine Qap ?_ ?_;refine QaR (i:=12) Qa8.nd rfl (.inl rfl) ?_;refine QaM ?_;refine Qb0 (ms:=[.s]) (hv:=Qk5) (QmP rfl) B.max_ ?_;refine Qau ?_ Qao;refine Qat ?_;refine QdX (Qaj Qd6) ["_law_script","_law_cell","_law_many","_law_names_here","_law_aside","_law_at","_law_rooms","_law_k","_law_long","_law_broad","_law_way","_law_off","_law_high","_law_wide"] ["_law_room"] [] rfl (QdV (Qan 6)) (fun _ _ _ _ P=>?_) (fun _ _ _ _ P=>?_) (fun _ _ _ _ P=>?_)
 exact QaV (i:=0) (show (Qa0 ["_law_script","_law_cell","_law_many","_law_names_here","_law_aside","_law_at","_law_rooms","_law_k","_law_long","_law_broad","_law_way","_law_off","_law_high","_law_wide"] ["_law_room"] []).Nodup by decide +kernel) rfl (.inl rfl)
 exact QdW
 refine QaM ?_;refine Qas QaY ?_ ?_;refine Qad ?_;refine QaS (Qad (Qaf 0)) (Qad Qal);refine Qad ?_;refine QaS (Qad (Qaf 0)) (Qad Qal);refine Qap ?_ ?_;refine QaR (i:=13) Qa8.nd rfl (.inl rfl) ?_;refine QaM ?_;refine Qb0 (ms:=[.s]) (hv:=Qk5) (QmP rfl) B.max_ ?_;refine Qau ?_ Qao;refine Qat ?_;refine QdX (Qaj Qd6) ["_law_script","_law_cell","_law_many","_law_names_here","_law_aside","_law_at","_law_rooms","_law_k","_law_long","_law_broad","_law_way","_law_off","_law_high","_law_wide"] ["_law_room"] [] rfl (QdV (Qan 6)) (fun _ _ _ _ P=>?_) (fun _ _ _ _ P=>?_) (fun _ _ _ _ P=>?_);exact QaV (i:=0) (show (Qa0 ["_law_script","_law_cell","_law_many","_law_names_here","_law_aside","_law_at","_law_rooms","_law_k","_law_long","_law_broad","_law_way","_law_off","_law_high","_law_wide"] ["_law_room"] []).Nodup by decide +kernel) rfl (.inl rfl)
 exact QdW
 refine QaM ?_;refine Qas QaY ?_ ?_;refine Qad ?_;refine QaS (Qad (Qaf 0)) (Qad Qal);refine Qad ?_;refine QaS (Qad (Qaf 0)) (Qad Qal);refine Qaz ?_;refine Qtv 6 rfl ?_;refine QaJ ?_;refine QfU 3 ?_;refine QaF ?_ ?_;refine QaM ?_;refine Qb0 (ms:=[.s,.s]) (hv:=Qo3) (QoN rfl) B.min_ ?_;refine Qau (Qad Qal) ?_;refine Qau ?_ Qao;refine Qat ?_;refine Qas QaY (Qad (Qaf 12)) ?_;refine Qat ?_;refine Qas QbE ?_ (Qad Qal);refine Qad ?_;refine QaK Qbo (hr.mono (by decide)) ?_;refine Qau (Qad (Qaf 1)) ?_;refine Qau (Qad Qal) Qao;refine QaF ?_ ?_;refine QaM ?_;refine Qb0 (ms:=[.s,.s]) (hv:=Qo3) (QoN rfl) B.min_ ?_
 refine Qau (Qad Qal) ?_;refine Qau ?_ Qao;refine Qat ?_;refine Qas QaY (Qad (Qaf 13)) ?_;refine Qat ?_;refine Qas QbE ?_ (Qad Qal);refine Qad ?_;refine QaK Qbo (hr.mono (by decide)) ?_;refine Qau (Qad (Qaf 1)) ?_;refine Qau (Qad Qal) Qao;refine QaF (Qaf 6) Qao
abbrev Qe5:Stmt:=top 43
theorem QbR:QaI ["_law_rooms","_law_row","_law_col","_law_name","_law_top","_law_left","_law_tall","_law_broad","_law_way"] ["_law_rooms","_law_row","_law_col"] (Qaj Qe5):=by trivial
def QdF:MS :=
  (Qak (QbB (Qbj (Qaa 0)) (QhY 6 (Qbi (mgN 3) (Qbi (mgN 4) (Qbi (mgN 5) (Qbi (mgN 6) (Qbi (mgN 7) (Qbi (mgN 8) QfG))))))) (QbA (Qib (QaQ (QbO gLe gLt (Qaa 4) (Qaa 1) (Qae Qav (Qaa 4) (Qaa 6)))) (QaQ (QbO gLe gLt (Qaa 5) (Qaa 2) (Qae Qav (Qaa 5) (Qaa 7))))) (QaC (Qaa 3)) QaD))
  (QaC (mC .non)))
def QcZ:List D→Qac→Res D:=Qbn 9 QdF
abbrev Qhh (Pr:Program) (w:World) (K:Frag) (mg:Str→Option Value) (base:Heap):Prop:=Can Pr w K mg base "_law_cell_of" ["_law_rooms","_law_row","_law_col"] 1 (vSp K mg [.s,.s,.s] (rV K) QcZ)
theorem QjD (QeV:Def K mg "_law_cell_of" Qe5)
  (B:QbT mg) :
  Qhh Pr w K mg base:=by
 refine Qc3 (k:=0) (b:=QdF) QeV QbR (fun _ _ _ _ _ _=>QaO fun _=>QaO fun _=>QaO fun _=>QbQ rfl) [.s,.s,.s] [.v,.v,.v,.v,.v,.v] Qbk (fun _ _ _ _=>Rp.non) (body:=fun f cdv A outer s H E hr P=>?_);refine Qap ?_ ?_;refine QdB rfl (Qla (Qje 0)) ?_ ?_;refine QlL 6 rfl ?_;refine Qcg (QaV (i:=3) QbR.nd rfl (.inl rfl)) ?_;refine Qcg (QaV (i:=4) QbR.nd rfl (.inl rfl)) ?_;refine Qcg (QaV (i:=5) QbR.nd rfl (.inl rfl)) ?_;refine Qcg (QaV (i:=6) QbR.nd rfl (.inl rfl)) ?_;refine Qcg (QaV (i:=7) QbR.nd rfl (.inl rfl)) ?_;refine Qcg (QaV (i:=8) QbR.nd rfl (.inl rfl)) Qj1;refine Qaz ?_;refine Qci ?_ ?_ QbH;refine Qgd ?_
 refine Qui ?_ ?_;refine QlJ QdK QfZ (Qad (Qaf 4)) (Qan 1) ?_;refine Qat ?_;refine Qas QaY (Qad (Qaf 4)) (Qad (Qaf 6));refine QrX ?_;refine QlJ QdK QfZ (Qad (Qaf 5)) (Qan 2) ?_;refine Qat ?_;refine Qas QaY (Qad (Qaf 5)) (Qad (Qaf 7));refine Qaz (QaJ (Qaf 3));refine Qaz (QaJ Qjk)
abbrev Qfh:Stmt:=top 44
theorem Qeq:QaI ["_law_plan_here","_law_row","_law_col","e","_law_good"] ["_law_plan_here","_law_row","_law_col"] (Qaj Qfh):=by trivial
def QdM:MS :=
  (Qak (QgD (QeT "Plan" "room_at" Qbh (Qaa 0) (Qab (Qaa 1) (Qab (Qaa 2) Qag))) ((["NoCell"],[],3,(Qak (Qar 4 (Qa7 (Qb6 [("NoCell",true)] (Qaa 3)) (Qb6 [("NoCell",true)] (Qaa 3))))
  (QaC (Qa7 (Qaa 4) (Qc4 (Qb6 [("NoCell",false)] (Qaa 3))))))) :: []))
  (QaC (mC (.bl false))))
def Qbt:List D→Qac→Res D:=Qbn 5 QdM
abbrev Qhi (Pr:Program) (w:World) (K:Frag) (mg:Str→Option Value) (base:Heap):Prop:=Can Pr w K mg base "_law_no_cell" ["_law_plan_here","_law_row","_law_col"] 4 (vSp K mg [.v,.v,.v] (rV K) Qbt)
theorem QjI (Qff:Def K mg "_law_no_cell" Qfh)
  (B:QbT mg)
  (EX_NoCell_NoCell:EXM K mg "NoCell" "NoCell" true)
  (IS_OutError_NoCell:ISN K mg "OutError" "NoCell" true)
  (VN:mg "ValueError" = none)
  (IV_NoCell:ISV K mg "NoCell")
  (IT_NoHandNoNameNoRoomNoSize_NoCell:QiF K mg ["NoHand","NoName","NoRoom","NoSize"] "NoCell" false)
  (Qcb:Qgt Pr w K mg base) :
  Qhi Pr w K mg base:=by
 refine Qc3 (k:=3) (b:=QdM) Qff Qeq (fun _ _ _ _ _ _=>QaO fun _=>QaO fun _=>QaO fun _=>QbQ rfl) [.v,.v,.v] [.v,.v] Qbk (fun _ _ _ _=>Rp.non) (body:=fun f cdv A outer s H E hr P=>?_);refine Qap ?_ ?_
 refine Qmn (QkP (p:=⟨0,0,0,0⟩) Qbk Qcb (hr.mono (by decide)) (fun E=>(Qaf 0)) (fun E=>(QaF (Qaf 1) (QaF (Qaf 2) Qao)))) (Ql5 (ys:=["NoCell"]) (ns:=[]) (i:=3) (QjZ EX_NoCell_NoCell Qhs) Qhs (fun ea=>(Qap (QaR (i:=4) Qeq.nd rfl (.inl rfl) (QbI (QlA (tb:=[("NoCell",true)]) B.isinstance_ IS_OutError_NoCell.nm (Qaf 3) (Qeh IS_OutError_NoCell QfL)) (Qcf (Qn6 (tb:=[("NoCell",true)]) B.isinstance_ VN (Qaf 3) (Qeh (ISV.tb IV_NoCell) QfL)))))
   (Qaz (QaJ (QbI (Qaf 4) (Qcf (Qhp (Qoq (ns:=["NoHand","NoName","NoRoom","NoSize"]) (tb:=[("NoCell",false)]) B.isinstance_ IT_NoHandNoNameNoRoomNoSize_NoCell.nm (QdN (QdN (QdN (QdN QmB)))) (Qaf 3) (Qeh IT_NoHandNoNameNoRoomNoSize_NoCell QfL))))))))) Qon) Qeq.nd
 refine Qaz (QaJ QcD)
abbrev Qfi:Stmt:=top 45
theorem Qey:QaI ["_law_plan_here","_law_name","e","_law_good"] ["_law_plan_here","_law_name"] (Qaj Qfi):=by trivial
def QdI:MS :=
  (Qak (QgD (QeT "Plan" "room_of" Qbv (Qaa 0) (Qab (Qaa 1) Qag)) ((["NoHand"],[],2,(Qak (Qar 3 (Qa7 (Qb6 [("NoHand",true)] (Qaa 2)) (Qa7 (Qb6 [("NoHand",true)] (Qaa 2)) (Qc4 (Qb6 [("NoHand",false)] (Qaa 2))))))
  (QaC (Qa7 (Qaa 3) (Qa7 (Qae QiO (QgJ "name" ["NoHand"] (Qaa 2)) (Qaa 1)) (Qc4 (Qb6 [("NoHand",false)] (Qaa 2)))))))) :: []))
  (QaC (mC (.bl false))))
def Qcm:List D→Qac→Res D:=Qbn 4 QdI
abbrev Qhe (Pr:Program) (w:World) (K:Frag) (mg:Str→Option Value) (base:Heap):Prop:=Can Pr w K mg base "_law_no_hand" ["_law_plan_here","_law_name"] 5 (vSp K mg [.v,.v] (rV K) Qcm)
theorem QjU (Qe2:Def K mg "_law_no_hand" Qfi)
  (B:QbT mg)
  (EX_NoHand_NoHand:EXM K mg "NoHand" "NoHand" true)
  (IS_OutError_NoHand:ISN K mg "OutError" "NoHand" true)
  (VN:mg "ValueError" = none)
  (IV_NoHand:ISV K mg "NoHand")
  (IT_NoCellNoNameNoRoom_NoHand:QiF K mg ["NoCell","NoName","NoRoom"] "NoHand" false)
  (XA_name_NoHand:XFC K mg "name" "NoHand")
  (IS_NoSize_NoHand:ISN K mg "NoSize" "NoHand" false)
  (Qca:QgG Pr w K mg base) :
  Qhe Pr w K mg base:=by
 refine Qc3 (k:=4) (b:=QdI) Qe2 Qey (fun _ _ _ _ _ _=>QaO fun _=>QaO fun _=>QbQ rfl) [.v,.v] [.v,.v] Qbk (fun _ _ _ _=>Rp.non) (body:=fun f cdv A outer s H E hr P=>?_);refine Qap ?_ ?_
 refine Qmn (QkP (p:=⟨0,0,0,0⟩) Qbk Qca (hr.mono (by decide)) (fun E=>(Qaf 0)) (fun E=>(QaF (Qaf 1) Qao))) (Ql5 (ys:=["NoHand"]) (ns:=[]) (i:=2) (QjZ EX_NoHand_NoHand Qhs) Qhs (fun ea=>(Qap (QaR (i:=3) Qey.nd rfl (.inl rfl) (QbI (QlA (tb:=[("NoHand",true)]) B.isinstance_ IS_OutError_NoHand.nm (Qaf 2) (Qeh IS_OutError_NoHand QfL)) (QbI (Qn6 (tb:=[("NoHand",true)]) B.isinstance_ VN (Qaf 2) (Qeh (ISV.tb IV_NoHand) QfL)) (Qcf (Qhp (Qoq (ns:=["NoCell","NoName","NoRoom"]) (tb:=[("NoHand",false)]) B.isinstance_ IT_NoCellNoNameNoRoom_NoHand.nm (QdN (QdN (QdN QmB))) (Qaf 2) (Qeh IT_NoCellNoNameNoRoom_NoHand QfL)))))))
   (Qaz (QaJ (QbI (Qaf 3) (QbI (QaM (Qc0 (QuA (k:=0) (QaG.inH (hr.mono (by decide)))) (Qad (QrI (L:=["NoHand"]) (Qaf 2) (QjZ XA_name_NoHand Qhs))) (Qad (Qaf 1)) (Qbq _))) (Qcf (Qhp (QlA (tb:=[("NoHand",false)]) B.isinstance_ IS_NoSize_NoHand.nm (Qaf 2) (Qeh IS_NoSize_NoHand QfL)))))))))) Qon) Qey.nd
 refine Qaz (QaJ QcD)
abbrev Qfp:Stmt:=top 46
theorem Qdy:QaI ["_law_plan_here","_law_high","_law_wide","_law_rooms","_law_size","_law_names_here","_law_room","_law_found"] ["_law_plan_here","_law_high","_law_wide","_law_rooms"] (Qaj Qfp):=by trivial
def Qft:MS :=
  (Qak (Qar 4 (Qct "Plan" "screen_size" Qdd (Qaa 0) Qag))
  (Qak (Qar 5 (Qct "Plan" "room_names" Qdv (Qaa 0) Qag))
  (Qak (QbA (QbN (Qa1 (Qa4 (QcS "tuple" (Qaa 4)))) (QbN (QaQ (Qae gNe (Qaa 4) (Qc2 (Qab (mG (Qaa 1)) (Qab (mG (Qaa 2)) Qag))))) (Qa1 (Qa4 (QcS "list" (Qaa 5)))))) (QaC (mC (.bl false))) QaD)
  (Qak (QbA (QaQ (Qae gNe (Qaa 5) (QbC (Qbj (Qaa 3)) 1 [] (mgN 0) QbL (Qae gIx (Qaa 0) (mC (.int 0)))))) (QaC (mC (.bl false))) QaD)
  (Qak (Qc8 5 (mC (.str [122,122])))
  (Qak (QbB (Qbj (Qaa 3)) (mgN 6) (Qak (Qar 7 (Qct "Plan" "room_of" Qbv (Qaa 0) (Qab (Qae gIx (Qaa 6) (mC (.int 0))) Qag)))
  (QbA (QbN (Qa1 (Qa4 (QcS "tuple" (Qaa 7)))) (QaQ (Qae gNe (Qaa 7) (Qaa 6)))) (QaC (mC (.bl false))) QaD)))
  (QaC (mC (.bl true)))))))))
def Qfw:List D→Qac→Res D:=Qbn 8 Qft
abbrev Qjs (Pr:Program) (w:World) (K:Frag) (mg:Str→Option Value) (base:Heap):Prop:=Can Pr w K mg base "_law_told" ["_law_plan_here","_law_high","_law_wide","_law_rooms"] 5 (vSp K mg [.v,.s,.s,.s] (rV K) Qfw)
theorem QlZ (QgS:Def K mg "_law_told" Qfp)
  (B:QbT mg)
  (Qdk:QeO Pr w K mg base)
  (Qdr:Qfl Pr w K mg base)
  (Qca:Qe6 Pr w K mg base "Plan" "room_of" ["self","name"] 4 (vSp K mg [.v,.v] (rV K) Qbv)) :
  Qjs Pr w K mg base:=by
 refine Qc3 (k:=4) (b:=Qft) QgS Qdy (fun _ _ _ _ _ _=>QaO fun _=>QaO fun _=>QaO fun _=>QaO fun _=>QbQ rfl) [.v,.s,.s,.s] [.v,.o,.v,.v] Qbk (fun _ _ _ _=>Rp.non) (body:=fun f cdv A outer s H E hr P=>?_);refine Qap ?_ ?_;refine QaR (i:=4) Qdy.nd rfl (.inl rfl) (QqE Qdk (hr.mono (by decide)) (Qaf 0));refine Qap ?_ ?_;refine Qid (i:=5) Qdy.nd rfl (.inl rfl) (QpT Qdr (hr.mono (by decide)) (Qaf 0));refine Qap ?_ ?_;refine Qci ?_ ?_ QbH;refine Qgd ?_;refine Qea ?_ ?_;refine QbP ?_;refine Qby ?_;refine Qat ?_;refine Qdz "tuple" (hb:=Qiv) B.isinstance_ B.tuple_ (Qad (Qaf 4));refine Qea ?_ ?_;refine QcM (Qh2 hr) (Qad (Qaf 4)) ?_ (Qbq _)
 refine Qad ?_;refine QfU 2 ?_;refine QaF (QgI (Qan 1)) ?_;refine QaF (QgI (Qan 2)) Qao;refine Qd8 ?_;refine QbP ?_;refine Qby ?_;refine Qat (Qdz "list" (hb:=Qig) B.isinstance_ B.list_ (Qan 5));refine Qaz (QaJ QcD);refine Qap ?_ ?_;refine Qci ?_ ?_ QbH;refine QcM (Qh2 hr) (Qan 5) ?_ (Qbq _);refine Qat ?_;refine QdX (Qaj Qfp) ["_law_plan_here","_law_high","_law_wide","_law_rooms","_law_size","_law_names_here","_law_room","_law_found"] ["_law_room"] [] rfl (QdV (Qan 3)) (fun _ _ _ _ P=>?_) (fun _ _ _ _ P=>?_) (fun _ _ _ _ P=>?_);exact QaV (i:=0) (show (Qa0 ["_law_plan_here","_law_high","_law_wide","_law_rooms","_law_size","_law_names_here","_law_room","_law_found"] ["_law_room"] []).Nodup by decide +kernel) rfl (.inl rfl)
 exact QdW
 refine QaS (Qad (Qaf 0)) (Qad Qal);refine Qaz (QaJ QcD);refine Qap (Qf4 5 (QbK [122,122])) ?_;refine Qap ?_ ?_;refine QdB rfl (Qla (Qje 3)) (QaV (i:=6) Qdy.nd rfl (.inl rfl)) ?_;refine Qap ?_ ?_;refine QaR (i:=7) Qdy.nd rfl (.inl rfl) ?_;refine QmM Qca (hr.mono (by decide)) (Qaf 0) ?_;refine QaF ?_ Qao;refine QaS (Qad (Qaf 6)) (Qad Qal);refine Qaz ?_;refine Qci ?_ ?_ QbH;refine Qgd ?_;refine Qea ?_ ?_;refine QbP ?_;refine Qby ?_;refine Qat ?_;refine Qdz "tuple" (hb:=Qiv) B.isinstance_ B.tuple_ (Qad (Qaf 7));refine Qd8 ?_;refine QcM (Qh2 hr) (Qad (Qaf 7)) (Qad (Qaf 6)) (Qbq _);refine Qaz (QaJ QcD)
 refine Qaz (QaJ QcD)
abbrev Qd3:Stmt:=top 47
theorem QcH:QaI ["_law_script","_law_high","_law_wide","_law_rooms","_law_handed","_law_plan_here","_law_k","_law_row","_law_col","_law_odd","_law_cell","_law_other","_law_some"] ["_law_script"] (Qaj Qd3):=by trivial
def QkA:MS :=
  (Qak (QiV (Qaq Qg7 (Qab (Qaa 0) Qag)) (QhY 3 (Qbi (mgN 1) (Qbi (mgN 2) (Qbi (mgN 3) QfG)))))
  (Qak (Qar 4 (QaP QkL (Qab (Qaa 3) Qag)))
  (Qak (Qar 5 (Qie "Plan" Qcq (Qab (Qaa 1) (Qab (Qaa 2) (Qab (Qaa 4) Qag)))))
  (Qak (QbA (QaQ (Qae gNe (Qaa 4) (Qaa 3))) (QaC (mC (.bl false))) QaD)
  (Qak (Qia 4)
  (Qak (QbB (Qch (Qab (mC (.int 2)) Qag)) (mgN 6) (QbA (Qa1 (Qa4 (Qaq Qfw (Qab (Qaa 5) (Qab (Qaa 1) (Qab (Qaa 2) (Qab (Qaa 3) Qag))))))) (QaC (mC (.bl false))) QaD))
  (Qak (QbB (Qch (Qab (Qaa 1) Qag)) (mgN 7) (QbB (Qch (Qab (Qaa 2) Qag)) (mgN 8) (QbA (QaQ (Qae gNe (Qct "Plan" "room_at" Qbh (Qaa 5) (Qab (Qaa 7) (Qab (Qaa 8) Qag))) (Qaq QcZ (Qab (Qaa 3) (Qab (Qaa 7) (Qab (Qaa 8) Qag)))))) (QaC (mC (.bl false))) QaD)))
  (Qak (Qar 9 (Qb5 (Qab (mUn QpW (mC (.int 1))) (Qab (mC .non) (Qab (mC (.bl true)) (Qab (mC (.str [48])) (Qab (Qc2 (Qab (mC (.int 0)) Qag)) (Qab (Qae Qer (mC (.int 10)) (mC (.int 30))) Qag))))))))
  (Qak (Qar 10 (Qaq QbF (Qab (Qaa 0) (Qab (mC (.int 2)) Qag))))
  (Qak (Qar 11 (Qae gIx (Qaa 9) (Qae QaU (Qaa 10) (mC (.int 6)))))
  (Qak (QbA (QbN (Qa1 (Qa4 (Qaq Qbt (Qab (Qaa 5) (Qab (Qaa 11) (Qab (mC (.int 0)) Qag)))))) (Qa1 (Qa4 (Qaq Qbt (Qab (Qaa 5) (Qab (mC (.int 0)) (Qab (Qaa 11) Qag))))))) (QaC (mC (.bl false))) QaD)
  (Qak (QbA (QbN (Qa1 (Qa4 (Qaq Qbt (Qab (Qaa 5) (Qab (Qaa 1) (Qab (Qae Qdx (Qaa 2) (mC (.int 1))) Qag)))))) (Qa1 (Qa4 (Qaq Qbt (Qab (Qaa 5) (Qab (Qae Qdx (Qaa 1) (mC (.int 1))) (Qab (Qaa 2) Qag))))))) (QaC (mC (.bl false))) QaD)
  (Qak (Qar 12 (QbC (Qbj (Qb5 (Qab (mC (.str [113])) (Qab (mC (.str [113,113])) (Qab (mC (.str [113,113,113])) (Qab (mC (.str [114])) (Qab (mC (.str [114,114])) (Qab (mC (.str [114,114,114])) (Qab (mC (.str [115])) Qag))))))))) 1 [3] (mgN 0) (QaQ (Qae (gIn true) (Qaa 0) (QbC (Qbj (Qaa 1)) 1 [] (mgN 0) QbL (Qae gIx (Qaa 0) (mC (.int 0)))))) (Qaa 0)))
  (QaC (Qa7 (Qaq Qcm (Qab (Qaa 5) (Qab (Qae gIx (Qaa 12) (mC (.int 0))) Qag))) (Qaq Qcm (Qab (Qaa 5) (Qab (Qae gIx (Qb5 (Qab (mC .non) (Qab (mC (.int 0)) (Qab (mC (.str [])) (Qab (Qc2 (Qab (mC (.str [97])) Qag)) (Qab (Qb5 (Qab (mC (.str [97])) Qag)) (Qab (mC (.dic [] [])) Qag))))))) (Qae QaU (Qae Qcj (Qaa 10) (mC (.int 6))) (mC (.int 6)))) Qag))))))))))))))))))
def Qq3:List D→Qac→Res D:=Qbn 13 QkA
abbrev QvQ (Pr:Program) (w:World) (K:Frag) (mg:Str→Option Value) (base:Heap):Prop:=Can Pr w K mg base "law" ["_law_script"] 6 (vSp K mg [.s] (rV K) Qq3)
theorem Quo (Qnm:Def K mg "law" Qd3)
  (B:QbT mg)
  (Qg3:Qjt Pr w K mg base)
  (Qd4:Qp8 Pr w K mg base "Plan" ["self","high","wide","rooms"] 4 (vSp K mg [.v,.s,.s,.s] (rV K) Qcq))
  (Qg4:Qjs Pr w K mg base)
  (Qcb:Qe6 Pr w K mg base "Plan" "room_at" ["self","row","col"] 3 (vSp K mg [.v,.v,.v] (rV K) Qbh))
  (Qfa:Qhh Pr w K mg base)
  (Qb2:QeZ Pr w K mg base)
  (Qcn:Qhi Pr w K mg base)
  (QdJ:Qhe Pr w K mg base) :
  QvQ Pr w K mg base:=by
 refine Qc3 (k:=5) (b:=QkA) Qnm QcH (fun _ _ _ _ _ _=>QaO fun _=>QbQ rfl) [.s] [.v,.v,.v,.o,.v,.v,.v,.v,.v,.v,.v,.v] Qbk (fun _ _ _ _=>Rp.non) (body:=fun f cdv A outer s H E hr P=>?_);refine Qap ?_ ?_;refine Qup ?_ ?_;refine QaK Qg3 (hr.mono (by decide)) ?_;refine Qau (Qan 0) Qao;refine QlL 3 rfl ?_;refine Qcg (QaV (i:=1) QcH.nd rfl (.inl rfl)) ?_;refine Qcg (QaV (i:=2) QcH.nd rfl (.inl rfl)) ?_;refine Qcg (QaV (i:=3) QcH.nd rfl (.inr rfl)) Qj1;refine Qap ?_ ?_;refine Qid (i:=4) QcH.nd rfl (.inl rfl) ?_;refine QgN (ms:=[.s]) (hv:=Qig) Qr9 B.list_ ?_;refine Qau (Qad (Qaf 3)) Qao;refine Qap ?_ ?_
 refine QaR (i:=5) QcH.nd rfl (.inl rfl) ?_;refine Qrt Qd4 (hr.mono (by decide)) ?_;refine Qau (Qad (Qaf 1)) ?_;refine Qau (Qad (Qaf 2)) ?_;refine Qau (Qan 4) Qao;refine Qap ?_ ?_;refine Qci ?_ ?_ QbH;refine QcM (Qh2 hr) (Qan 4) (Qad (Qaf 3)) (Qbq _);refine Qaz (QaJ QcD);refine Qap (Qqg 4) ?_;refine Qap ?_ ?_;refine QdB rfl ?_ (QaV (i:=6) QcH.nd rfl (.inl rfl)) ?_;refine Qcu B.range_ ?_;refine Qau (Qad Qal) Qao;refine Qaz ?_;refine Qci ?_ ?_ QbH;refine QbP ?_;refine Qby ?_;refine Qad ?_;refine QaK Qg4 (hr.mono (by decide)) ?_;refine QaF (Qaf 5) ?_;refine Qau (Qad (Qaf 1)) ?_;refine Qau (Qad (Qaf 2)) ?_
 refine Qau (Qad (Qaf 3)) Qao;refine Qaz (QaJ QcD);refine Qap ?_ ?_;refine QdB rfl ?_ (QaV (i:=7) QcH.nd rfl (.inl rfl)) ?_;refine Qcu B.range_ ?_;refine Qau (Qad (Qaf 1)) Qao;refine Qaz ?_;refine QdB rfl ?_ (QaV (i:=8) QcH.nd rfl (.inl rfl)) ?_;refine Qcu B.range_ ?_;refine Qau (Qad (Qaf 2)) Qao;refine Qaz ?_;refine Qci ?_ ?_ QbH;refine QcM (Qh2 hr) ?_ ?_ (Qbq _);refine Qad ?_;refine QmM Qcb (hr.mono (by decide)) (Qaf 5) ?_;refine QaF (Qaf 7) ?_;refine QaF (Qaf 8) Qao;refine Qad ?_;refine QaK Qfa (hr.mono (by decide)) ?_;refine Qau (Qad (Qaf 3)) ?_;refine Qau (Qad (Qaf 7)) ?_;refine Qau (Qad (Qaf 8)) Qao
 refine Qaz (QaJ QcD);refine Qap ?_ ?_;refine QaR (i:=9) QcH.nd rfl (.inl rfl) ?_;refine QaM ?_;refine QeL 6 ?_;refine QaF ?_ ?_;refine QaM ?_;refine Quh (Qad Qal);refine QaF Qjk ?_;refine QaF QcD ?_;refine QaF (QbK [48]) ?_;refine QaF ?_ ?_;refine QfU 1 ?_;refine QaF Qal Qao;refine QaF ?_ Qao;refine QaM ?_;refine Qas Qi3 (Qad Qal) (Qad Qal);refine Qap ?_ ?_;refine QaR (i:=10) QcH.nd rfl (.inl rfl) ?_;refine QaK Qb2 (hr.mono (by decide)) ?_;refine Qau (Qan 0) ?_;refine Qau (Qad Qal) Qao;refine Qap ?_ ?_;refine QaR (i:=11) QcH.nd rfl (.inl rfl) ?_;refine QaS (Qad (Qaf 9)) ?_;refine Qat ?_;refine Qas QbE (Qad (Qaf 10)) (Qad Qal)
 refine Qap ?_ ?_;refine Qci ?_ ?_ QbH;refine Qgd ?_;refine Qea ?_ ?_;refine QbP ?_;refine Qby ?_;refine Qad ?_;refine QaK Qcn (hr.mono (by decide)) ?_;refine QaF (Qaf 5) ?_;refine QaF (Qaf 11) ?_;refine QaF Qal Qao;refine Qd8 ?_;refine QbP ?_;refine Qby ?_;refine Qad ?_;refine QaK Qcn (hr.mono (by decide)) ?_;refine QaF (Qaf 5) ?_;refine QaF Qal ?_;refine QaF (Qaf 11) Qao;refine Qaz (QaJ QcD);refine Qap ?_ ?_;refine Qci ?_ ?_ QbH;refine Qgd ?_;refine Qea ?_ ?_;refine QbP ?_;refine Qby ?_;refine Qad ?_;refine QaK Qcn (hr.mono (by decide)) ?_;refine QaF (Qaf 5) ?_;refine QaF (Qaf 1) ?_;refine QaF ?_ Qao
 refine QaM ?_;refine Qas Qi5 (Qad (Qaf 2)) (Qad Qal);refine Qd8 ?_;refine QbP ?_;refine Qby ?_;refine Qad ?_;refine QaK Qcn (hr.mono (by decide)) ?_;refine QaF (Qaf 5) ?_;refine QaF ?_ ?_;refine QaM ?_;refine Qas Qi5 (Qad (Qaf 1)) (Qad Qal);refine QaF (Qaf 2) Qao;refine Qaz (QaJ QcD);refine Qap ?_ ?_;refine QpX (i:=12) (Qaj Qd3) ["_law_script","_law_high","_law_wide","_law_rooms","_law_handed","_law_plan_here","_law_k","_law_row","_law_col","_law_odd","_law_cell","_law_other","_law_some"] ["_law_name"] [3] QcH.nd rfl (.inl rfl) rfl ?_ (fun _ _ _ _ P=>?_) (fun _ _ _ _ P=>?_) (fun _ _ _ _ P=>?_)
 refine QdV ?_;refine Qat ?_;refine QeL 7 ?_;refine QaF (QbK [113]) ?_;refine QaF (QbK [113,113]) ?_;refine QaF (QbK [113,113,113]) ?_;refine QaF (QbK [114]) ?_;refine QaF (QbK [114,114]) ?_;refine QaF (QbK [114,114,114]) ?_;refine QaF (QbK [115]) Qao;exact QaV (i:=0) (show (Qa0 ["_law_script","_law_high","_law_wide","_law_rooms","_law_handed","_law_plan_here","_law_k","_law_row","_law_col","_law_odd","_law_cell","_law_other","_law_some"] ["_law_name"] [3]).Nodup by decide +kernel) rfl (.inl rfl);refine QrE ?_;refine QcM QpJ (Qad (Qaf 0)) ?_ (by with_unfolding_all rfl);refine Qat ?_;refine QdX (ok:=by with_unfolding_all rfl) _ ["_law_name","_law_rooms"] ["_law_room"] [] rfl ?_ (fun _ _ _ _ P=>?_) (fun _ _ _ _ P=>?_) (fun _ _ _ _ P=>?_)
 refine QdV (Qad (Qaf 1));exact QaV (i:=0) (show (Qa0 ["_law_name","_law_rooms"] ["_law_room"] []).Nodup by decide +kernel) rfl (.inl rfl);exact QdW;refine QaS (Qad (Qaf 0)) (Qad Qal);exact Qaf 0;refine Qaz ?_;refine QaJ ?_;refine QbI ?_ ?_;refine QaK QdJ (hr.mono (by decide)) ?_;refine QaF (Qaf 5) ?_;refine QaF ?_ Qao;refine QaS (Qad (Qaf 12)) (Qad Qal);refine Qcf ?_;refine QaK QdJ (hr.mono (by decide)) ?_;refine QaF (Qaf 5) ?_;refine QaF ?_ Qao;refine QaS ?_ ?_;refine Qat ?_;refine QeL 6 ?_;refine QaF Qjk ?_;refine QaF Qal ?_;refine QaF (QbK []) ?_;refine QaF ?_ ?_;refine QfU 1 ?_;refine QaF (QbK [97]) Qao
 refine QaF ?_ ?_;refine QaM ?_;refine QeL 1 ?_;refine QaF (QbK [97]) Qao;refine QaF Qsy Qao;refine Qat ?_;refine Qas QbE ?_ (Qad Qal);refine Qat ?_;refine Qas QgB (Qad (Qaf 10)) (Qad Qal)
end
theorem Qbd {g:D→D→Option D}{a b:L2.M D}{ρ:Qai}{O:Qac}{x y z:D} (ha:a ρ O = .ok x O) (hb:b ρ O = .ok y O) (h:g (QaN O x) (QaN O y)=some z):Qae g a b ρ O = .ok z O:=by
 rw [Qjx,ha,Qam,hb,Qam,h,Qcz]
theorem ma1 {a:L2.M D}{ρ:Qai}{O:Qac}{x:D} (h:a ρ O = .ok x O):Qab a Qag ρ O = .ok [x] O:=by
 rw [QjS,h,Qam,Qoe,Qam]
theorem maS {a:L2.M D}{r:L2.M (List D)}{ρ:Qai}{O:Qac}{x:D}{xs:List D} (h:a ρ O = .ok x O) (h2:r ρ O = .ok xs O):Qab a r ρ O = .ok (x::xs) O:=by
 rw [QjS,h,Qam,h2,Qam]
theorem Qnl {m:L2.M (List D)}{ρ:Qai}{O:Qac}{xs:List D} (h:m ρ O = .ok xs O) (hl:xs.length≤1000000):Qc2 m ρ O = .ok (.tup xs) O:=by
 rw [Qvv,h,Qam,if_pos hl]
theorem Qw0 {m:L2.M (List D)}{ρ:Qai}{O:Qac}{xs:List D} (h:m ρ O = .ok xs O) (hl:xs.length≤1000000):Qb5 m ρ O = .ok (.lst xs) O:=by
 rw [Qu0,h,Qam,if_pos hl]
theorem QcR {g:List D→Option D}{m:L2.M (List D)}{ρ:Qai}{O:Qac}{xs:List D}{z:D} (h:m ρ O = .ok xs O) (hg:g (xs.map (QaN O))=some z):QaP g m ρ O = .ok z O:=by
 rw [Ql8,h,Qam,hg,Qcz]
theorem Qi1 {i:Nat}{m:L2.M D}{ρ:Qai}{O:Qac}{d:D}{ds:List D} (hm:m ρ O = .ok d O) (h:ρ[i]? = some (some (.lst ds))) (hl:ds.length < 1000000):Qc8 i m ρ O = .nx (ρ.set i (some (.lst (ds ++ [d])))) O:=by
 rw [QtR,hm,Qtl h hl]
theorem Qbg {i:Nat}{m:L2.M D}{ρ:Qai}{O:Qac}{d:D} (h:m ρ O = .ok d O):Qar i m ρ O = .nx (ρ.set i (some d)) O:=by
 rw [QoD,h,QmK]
theorem Qbl {c:List D→Qac→Res D}{ma:L2.M (List D)}{ρ:Qai}{O:Qac}{ds:List D} (h:ma ρ O = .ok ds O):Qaq c ma ρ O=c ds O:=by
 rw [QnZ,h,Qam]
theorem Qco {m:L2.M D}{ρ:Qai}{O:Qac}{b:Bool} (h:m ρ O = .ok (.bl b) O):QaQ m ρ O = .ok b O:=by
 rw [QoR,h,Qam,QoS]
theorem Qs1 {t:L2.M Bool}{a b:MS}{ρ:Qai}{O:Qac} (h:t ρ O = .ok true O):QbA t a b ρ O=a ρ O:=by
 rw [QiQ,h,Qhz,if_pos rfl]
theorem if_no {t:L2.M Bool}{a b:MS}{ρ:Qai}{O:Qac} (h:t ρ O = .ok false O):QbA t a b ρ O=b ρ O:=by
 rw [QiQ,h,Qhz,if_neg zj]
theorem QuF {m:L2.M D}{ρ:Qai}{O:Qac}{l:List D} (h:m ρ O = .ok (.lst l) O):QaP Qfe (Qab m Qag) ρ O = .ok (.int (l.length:Int)) O:=QcR (ma1 h) rfl
theorem QfQ {m:L2.M D}{ρ:Qai}{O:Qac}{n:Nat} (h:m ρ O = .ok (.int (n:Int)) O) (hn:n≤1000000):Qch (Qab m Qag) ρ O = .ok (Qbs 0 n) O:=by
 rw [Qth,ma1 h,Qam];show (if (n:Int)≤1000000000∧-1000000000≤(n:Int) then Res.ok (Qbs 0 (n:Int).toNat) O else .no)=_;rw [if_pos ⟨by omega,by omega⟩,Int.toNat_natCast]
theorem Qed {a b:L2.M D}{ρ:Qai}{O:Qac}{i j:Int} (ha:a ρ O = .ok (.int i) O) (hb:b ρ O = .ok (.int j) O) (hj:0 < j):Qae QaU a b ρ O = .ok (.int (i % j)) O:=Qbd ha hb (by rw [Qbc,Qbc,Qub,if_pos hj])
theorem Qdn {a b:L2.M D}{ρ:Qai}{O:Qac}{i j:Int} (ha:a ρ O = .ok (.int i) O) (hb:b ρ O = .ok (.int j) O):Qae Qav a b ρ O = .ok (.int (i+j)) O:=Qbd ha hb rfl
theorem Qvz {a b:L2.M D}{ρ:Qai}{O:Qac}{i j:Int} (ha:a ρ O = .ok (.int i) O) (hb:b ρ O = .ok (.int j) O):Qae Qdx a b ρ O = .ok (.int (i - j)) O:=Qbd ha hb rfl
theorem QvW {a b:L2.M D}{ρ:Qai}{O:Qac}{i j:Int} (ha:a ρ O = .ok (.int i) O) (hb:b ρ O = .ok (.int j) O):QaQ (Qae gEq a b) ρ O = .ok (decide (i=j)) O:=Qco (Qbd ha hb rfl)
theorem Qvo {i:Nat}{m:L2.M D}{ρ:Qai}{O O1:Qac}{d:D} (h:m ρ O = .ok d O1):Qar i m ρ O = .nx (ρ.set i (some d)) O1:=by
 rw [QoD,h,QmK]
theorem Qg5 {m:L2.M D}{ρ:Qai}{O O':Qac} (h:m ρ O = .ok (.bl true) O'):Qa1 (Qa4 m) ρ O = .ok false O':=by
 rw [QhO,QgY,h];rfl
theorem QqI {a b:L2.M Bool}{ρ:Qai}{O O1 O2:Qac} (ha:a ρ O = .ok false O1) (hb:b ρ O1 = .ok false O2):QbN a b ρ O = .ok false O2:=by
 rw [Qm5,ha,Qam,if_neg zj,hb]
theorem ifN {t:L2.M Bool}{a:MS}{ρ:Qai}{O O':Qac} (h:t ρ O = .ok false O'):QbA t a QaD ρ O = .nx ρ O':=by
 rw [QiQ,h,Qhz];rfl
theorem ifY {t:L2.M Bool}{a b:MS}{ρ:Qai}{O O':Qac} (h:t ρ O = .ok true O'):QbA t a b ρ O=a ρ O':=by
 rw [QiQ,h,Qhz];rfl
theorem QgA {c:List D→Qac→Res D}{ma:L2.M (List D)}{ρ:Qai}{O O1:Qac}{ds:List D} (h:ma ρ O = .ok ds O1):Qaq c ma ρ O=c ds O1:=by
 rw [QnZ,h,Qam]
theorem QvO {g:D→D→Option D}{a b:L2.M D}{ρ:Qai}{O O1 O2:Qac}{x y z:D} (ha:a ρ O = .ok x O1) (hb:b ρ O1 = .ok y O2) (h:g (QaN O2 x) (QaN O2 y)=some z):Qae g a b ρ O = .ok z O2:=by
 rw [Qjx,ha,Qam,hb,Qam,h,Qcz]
theorem QtJ {m:L2.M D}{ρ:Qai}{O O':Qac}{b:Bool} (h:m ρ O = .ok (.bl b) O'):QaQ m ρ O = .ok b O':=by
 rw [QoR,h,Qam,QoS]
theorem Qi6 {α:Type} (l:List α) (b:Nat):QcK l none (some (b:Int))=l.take b:=by
 unfold QcK;rw [HT.sIx_nat,HT.sIx_none,List.drop_zero,Nat.sub_zero]
 by_cases hb:b≤l.length
 ·rw [Nat.min_eq_left hb]
 ·rw [Nat.min_eq_right (by omega),List.take_of_length_le (by omega),List.take_of_length_le (by omega)]
theorem Quz {α:Type} (l:List α) (a:Nat):QcK l (some (a:Int)) none=l.drop a:=by
 unfold QcK;rw [HT.sIx_nat,HT.sIx_none]
 by_cases h:a≤l.length
 ·rw [Nat.min_eq_left h,List.take_of_length_le (by rw [List.length_drop]; omega)]
 ·rw [Nat.min_eq_right (by omega),List.drop_eq_nil_of_le (by omega),List.drop_eq_nil_of_le (by omega)];simp
theorem QqO {m:L2.M D}{ρ:Qai}{O:Qac}{i:Int} (h:m ρ O = .ok (.int i) O):moS m ρ O = .ok (some i) O:=by rw [Qw5,h,Qam,QuP]
theorem QjM {a b:L2.M D}{ρ:Qai}{O:Qac}{x y:List Nat} (ha:a ρ O = .ok (.str x) O) (hb:b ρ O = .ok (.str y) O) (hl:x.length+y.length≤1000000):Qae Qav a b ρ O = .ok (.str (x++y)) O:=Qbd ha hb (by rw [QdZ,QdZ,Qut,if_pos hl])
theorem ixL {l:List D}{v n:Int} (h:(l.length:Int)=n) (hn:0 < n):∃c,c∈l∧gIx (.lst l) (.int (v % n))=some c:=by
 obtain ⟨c,h1,h2⟩:=Qs3 (xs:=l) (i:=v % n) (Int.emod_nonneg _ (by omega)) (by rw [h]; exact Int.emod_lt_of_pos _ hn);exact ⟨c,h2,h1⟩
theorem QkB (n k:Int) (h0:0≤k) (h1:k≤1000000) (O:Qac):QaH [.int n,.int k] O = .ok (.int (mix n k)) O:=Qtu n k h0 h1 O
theorem QwO {a b:L2.M (Option Int)}{m:L2.M D}{ρ:Qai}{O:Qac}{t:List D}{x y:Option Int} (hm:m ρ O = .ok (.lst t) O) (ha:a ρ O = .ok x O) (hb:b ρ O = .ok y O):mSl m a b ρ O = .ok (.lst (QcK t x y)) O:=by
 rw [Qqb,hm,Qam,ha,Qam,hb,Qam,QhC,Qsd,Qcz]
theorem Qb1 {g:MG}{b:MS}{d:D}{ds:List D}{ρ ρ1 ρ2:Qai}{O O2:Qac} (hg:g d ρ=some ρ1) (hb:b ρ1 O = .nx ρ2 O2):Qa9 g b (d::ds) ρ O=Qa9 g b ds ρ2 O2:=by
 rw [Qa9,hg];dsimp only;rw [hb]
theorem Qlv (ns:List Int) (k:Nat) (O:Qac):QbF [.lst (ns.map D.int),.int k] O = .ok (.int (ns.getD k 0)) O:=by
 simp [QbF,Qfb,QnA]
 by_cases h:k < ns.length
 ·simp [h]
 ·simp [h]
theorem apN {O:Qac}{y:Ob}:(O ++ [y])[O.length]? = some y:=by simp
theorem gs' {O:Qac}{o:Nat}{x y:Ob} (e:O[o]? = some x):(O.set o y)[o]? = some y:=by
 obtain ⟨h,_⟩:=zo.mp e;simp [h]
theorem ap1 {O:Qac}{o:Nat}{x y:Ob} (e:O[o]? = some x):(O ++ [y])[o]? = some x:=by
 rw [zy (zo.mp e).1]; exact e
structure Rm where
 n:List Nat
 t:Int
 l:Int
 h:Int
 b:Int
 w:List Nat
def rD (r:Rm):D:=.tup [.str r.n,.int r.t,.int r.l,.int r.h,.int r.b,.str r.w]
structure NOk (n:List Nat):Prop where
 one:1≤n.length
 len:n.length≤8
 ok:∀c∈n,97≤c∧c≤122
def WOk (w:List Nat):Prop:=w = [99,117,116]∨w = [99,101,108,108,115]∨w = [119,111,114,100,115]∨w = [101,118,101,110]
theorem NOk.asc {n:List Nat} (h:NOk n):ascii n=true:=by
 unfold ascii;rw [zZ];intro c hc
 have:=h.ok c hc
 exact zl (by omega)
theorem QtP {n:List Nat} (h:NOk n) (O:Qac):QeU [.str n] O = .ok (.bl true) O:=by
 have h1:=h.one;have h2:=h.len
 have ec:Qb7 (mgN 0) QbL (QbO gLe gLe (mC (.str [97])) (Qaa 0) (mC (.str [122]))) (Qb3 n) [none] O [] = .ok (n.map fun _=>.bl true) O:=by
  have z:=Qdm (g:=mgN 0) (t:=QbL) (m:=QbO gLe gLe (mC (.str [97])) (Qaa 0) (mC (.str [122]))) (fun ρ=>∃a,ρ = [a]) (fun c:Nat=>D.str [c]) (fun _=>.bl true) n [none] O [] ⟨none,rfl⟩ (by
   rintro c hc ρ ⟨a,rfl⟩;have q:=h.ok c hc;refine ⟨_,rfl,⟨_,rfl⟩,rfl,?_⟩
   simp [q])
  rw [zX] at z;exact z
 have eb:∀n:List Nat,Qcv (n.map fun _=>D.bl true)=some (n.map fun _=>true):=fun n=>by
  induction n with
  | nil=>rfl
  | cons c n ih=>simp only [zg,Qcv,ih]; rfl
 have ea:QiE [.lst (n.map fun _=>.bl true)]=some (.bl true):=by
  show (Qcv (n.map fun _=>D.bl true)).map (fun bs=>D.bl (bs.all id))=_;rw [eb];simp
 show Qbe (Qga [some (.str n)] O)=_;unfold Qga;have hz:(n.length:Int)≤8∧(1:Int)≤n.length:=⟨by omega,by omega⟩
 have hm:n.length≤16777216:=by omega
 have hs:(Qb3 n).length≤1000000:=by unfold Qb3; rw [zp]; omega
 have hm2:n.length≤1000000:=by omega
 simp only [QiR,QiQ,QhO,QgY,Qu7,Qb4,zN,Qam,QdZ,Qro,QpL,Qs4,Qp1,QrZ,Qp4,Bool.not_true,Qhz,Bool.false_eq_true,if_false,QtW,QmC,Qce,Qd9,QmS,m_c,Ql8,QjS,Qoe,Qbc,zg,zY,QsH,if_pos hm2,Qcz,Qm8,zl hz.1,zl hz.2,QqT,if_true,QfD,Qly,Qpb h.asc,QlN,if_pos hs,show QdQ 1 [] [some (.str n)] = [none] from rfl,ec,QhC,ea];rfl
theorem Qu5 {w:List Nat} (h:WOk w) (O:Qac):QdR [.str w] O = .ok (.bl true) O:=by
 rcases h with rfl | rfl | rfl | rfl <;> rfl
theorem Qh7 (i:Int) (O:Qac):Qba [.int i] O = .ok (.bl true) O:=by
 simp [Qba,Qfr]
def QdH (t l h b:Int):Bool:=decide (0≤t)&&(decide (0≤l)&&(decide (1≤h)&&decide (2≤b)))
theorem Qw8 (b1 b2 b3 b4:Bool):QiE [.lst [.bl b1,.bl b2,.bl b3,.bl b4]]=some (.bl (b1&&(b2&&(b3&&b4)))):=by
 cases b1 <;> cases b2 <;> cases b3 <;> cases b4 <;> rfl
def six (n t l h b w:D):D:=.tup [n,t,l,h,b,w]
theorem Qpo {x1 x2 x3 x4 n w:D}{b1 b2 b3 b4:Bool}{O:Qac} (h1:Qba [x1] O = .ok (.bl b1) O) (h2:Qba [x2] O = .ok (.bl b2) O) (h3:Qba [x3] O = .ok (.bl b3) O) (h4:Qba [x4] O = .ok (.bl b4) O) (o1:Option D) :
  Qa4 (QaP QiE (Qab (QbC (Qbj (mSl (Qaa 0) (moS (mC (.int 1))) (moS (mC (.int 5))))) 1 [] (mgN 0) QbL (Qaq Qba (Qab (Qaa 0) Qag))) Qag)) [some (six n x1 x2 x3 x4 w),o1] O = .ok (b1&&(b2&&(b3&&b4))) O:=by
 have ei:Qbj (mSl (Qaa 0) (moS (mC (.int 1))) (moS (mC (.int 5)))) [some (six n x1 x2 x3 x4 w),o1] O = .ok [x1,x2,x3,x4] O:=rfl
 have q:∀(d:D) (b:Bool),Qba [d] O = .ok (.bl b) O→∀(ds:List D) (o:Option D) (acc:List D),Qb7 (mgN 0) QbL (Qaq Qba (Qab (Qaa 0) Qag)) (d::ds) [o] O acc=Qb7 (mgN 0) QbL (Qaq Qba (Qab (Qaa 0) Qag)) ds [some d] O (acc ++ [.bl b]):=fun d b hb ds o acc=>by
  conv=>lhs; unfold Qb7
  show (match Qaq Qba (Qab (Qaa 0) Qag) [some d] O with
   | .ok y O2=>Qb7 (mgN 0) QbL (Qaq Qba (Qab (Qaa 0) Qag)) ds [some d] O2 (acc ++ [y])
   | .ex x O'=>.ex x O'
   | .no=>.no)=_
  rw [Qbl (ds:=[d]) rfl,hb]
 have ec:QbC (Qbj (mSl (Qaa 0) (moS (mC (.int 1))) (moS (mC (.int 5))))) 1 [] (mgN 0) QbL (Qaq Qba (Qab (Qaa 0) Qag)) [some (six n x1 x2 x3 x4 w),o1] O = .ok (.lst [.bl b1,.bl b2,.bl b3,.bl b4]) O:=by
  rw [QfD,ei,Qam,if_pos (show [x1,x2,x3,x4].length≤1000000 from (show (4:Nat)≤1000000 by decide)),show QdQ 1 [] [some (six n x1 x2 x3 x4 w),o1] = [none] from rfl,q _ _ h1,q _ _ h2,q _ _ h3,q _ _ h4];rfl
 rw [QgY,QcR (ma1 ec) (Qw8 b1 b2 b3 b4),Qam];rfl
theorem Qws (n t l h b w:D) (o1:Option D) (O:Qac):QbN (Qa1 (Qa4 (QcS "tuple" (Qaa 0)))) (QaQ (Qae gNe (QaP Qfe (Qab (Qaa 0) Qag)) (mC (.int 6)))) [some (six n t l h b w),o1] O = .ok false O:=rfl
theorem QpM {t l h b:Int}{n w:D}{bn bw:Bool}{O:Qac} (hn:QeU [n] O = .ok (.bl bn) O) (hw:QdR [w] O = .ok (.bl bw) O):Qde [six n (.int t) (.int l) (.int h) (.int b) w] O = .ok (.bl (bn&&(QdH t l h b&&bw))) O:=by
 have e:=Qpo (n:=n) (w:=w) (Qh7 t O) (Qh7 l O) (Qh7 h O) (Qh7 b O) none
 have el:Qa7 (Qae gGe (Qae gIx (Qaa 0) (mC (.int 1))) (mC (.int 0))) (Qa7 (Qae gGe (Qae gIx (Qaa 0) (mC (.int 2))) (mC (.int 0))) (Qa7 (Qae gGe (Qae gIx (Qaa 0) (mC (.int 3))) (mC (.int 1))) (Qae gGe (Qae gIx (Qaa 0) (mC (.int 4))) (mC (.int 2))))) [some (six n (.int t) (.int l) (.int h) (.int b) w),none] O = .ok (.bl (QdH t l h b)) O:=by
  have i1:gIx (six n (.int t) (.int l) (.int h) (.int b) w) (.int 1)=some (.int t):=rfl;have i2:gIx (six n (.int t) (.int l) (.int h) (.int b) w) (.int 2)=some (.int l):=rfl;have i3:gIx (six n (.int t) (.int l) (.int h) (.int b) w) (.int 3)=some (.int h):=rfl;have i4:gIx (six n (.int t) (.int l) (.int h) (.int b) w) (.int 4)=some (.int b):=rfl
  have ds:∀O:Qac,QaN O (six n (.int t) (.int l) (.int h) (.int b) w)=six n (.int t) (.int l) (.int h) (.int b) w:=fun _=>rfl
  simp only [Qd9,Qjx,Qb4,m_c,zN,Qam,ds,Qbc,i1,i2,i3,i4,Qcz,QqX,QdH]
  cases decide (0≤t) <;> cases decide (0≤l) <;> cases decide (1≤h) <;> cases decide (2≤b) <;> rfl
 have er:Qa7 (Qaq QeU (Qab (Qae gIx (Qaa 0) (mC (.int 0))) Qag)) (Qa7 (Qaa 1) (Qaq QdR (Qab (Qae gIx (Qaa 0) (mC (.int 5))) Qag))) [some (six n (.int t) (.int l) (.int h) (.int b) w),some (.bl (QdH t l h b))] O = .ok (.bl (bn&&(QdH t l h b&&bw))) O:=by
  have j0:Qae gIx (Qaa 0) (mC (.int 0)) [some (six n (.int t) (.int l) (.int h) (.int b) w),some (.bl (QdH t l h b))] O = .ok n O:=rfl
  have j5:∀o:Option D,Qae gIx (Qaa 0) (mC (.int 5)) [some (six n (.int t) (.int l) (.int h) (.int b) w),o] O = .ok w O:=fun _=>rfl
  rw [Qd9,Qbl (ma1 j0),hn,Qam];cases bn
  ·rfl
  ·rw [Bool.true_and];show (Qa7 (Qaa 1) (Qaq QdR (Qab (Qae gIx (Qaa 0) (mC (.int 5))) Qag))) [some (six n (.int t) (.int l) (.int h) (.int b) w),some (.bl (QdH t l h b))] O=_;rw [Qd9,Qb4];show (Res.ok (D.bl (QdH t l h b)) O).bind _=_;rw [Qam];cases QdH t l h b
   ·rfl
   ·show (Qaq QdR (Qab (Qae gIx (Qaa 0) (mC (.int 5))) Qag)) _ O=_;rw [Qbl (ma1 (j5 _)),hw];rfl
 show Qbe (Qf1 [some (six n (.int t) (.int l) (.int h) (.int b) w),none] O)=_;unfold Qf1;rw [QaA (ifN (Qws ..)),QaA (ifN (by rw [QhO,e]; rfl)),QaA (show Qar 1 _ [some (six n (.int t) (.int l) (.int h) (.int b) w),none] O = .nx [some (six n (.int t) (.int l) (.int h) (.int b) w),some (.bl (QdH t l h b))] O from Qbg el),Qce,er,Qdp];rfl
def Lies (t l h b hi wi:Int):Bool:=decide (t+h≤hi)&&decide (l+b≤wi)
theorem Qta (n w:D) (t l h b hi wi:Int) (O:Qac):QbZ [six n (.int t) (.int l) (.int h) (.int b) w,.int hi,.int wi] O = .ok (.bl (Lies t l h b hi wi)) O:=by
 have i1:gIx (six n (.int t) (.int l) (.int h) (.int b) w) (.int 1)=some (.int t):=rfl;have i2:gIx (six n (.int t) (.int l) (.int h) (.int b) w) (.int 2)=some (.int l):=rfl;have i3:gIx (six n (.int t) (.int l) (.int h) (.int b) w) (.int 3)=some (.int h):=rfl;have i4:gIx (six n (.int t) (.int l) (.int h) (.int b) w) (.int 4)=some (.int b):=rfl
 have ds:∀O:Qac,QaN O (six n (.int t) (.int l) (.int h) (.int b) w)=six n (.int t) (.int l) (.int h) (.int b) w:=fun _=>rfl
 show Qbe (QdE [_,_,_] O)=_;unfold QdE;simp only [Qce,Qd9,Qjx,Qb4,m_c,zN,jc,Qam,ds,Qbc,i1,i2,i3,i4,Qcz,Qo8,Qm8,Lies]
 cases decide (t+h≤hi) <;> cases decide (l+b≤wi) <;> rfl
def Ov (s l s' l':Int):Bool:=decide (s < s'+l')&&decide (s' < s+l)
theorem QtS (s l s' l':Int) (O:Qac):QdY [.int s,.int l,.int s',.int l'] O = .ok (.bl (Ov s l s' l')) O:=by
 show Qbe (Qf8 [_,_,_,_] O)=_;unfold Qf8;simp only [Qce,Qd9,Qjx,Qb4,m_c,zN,jc,Qam,Qbc,Qcz,Qo8,QvA,Ov]
 cases decide (s < s'+l') <;> cases decide (s' < s+l) <;> rfl
def QcX (x y:Rm):Bool:=decide (x.n=y.n) || (Ov x.t x.h y.t y.h&&Ov x.l x.b y.l y.b)
theorem Qs7 (x y:Rm) (O:Qac):QbG [rD x,rD y] O = .ok (.bl (QcX x y)) O:=by
 have e0:QaQ (Qae gEq (Qae gIx (Qaa 0) (mC (.int 0))) (Qae gIx (Qaa 1) (mC (.int 0)))) [some (rD x),some (rD y),none] O = .ok (decide (x.n=y.n)) O:=Qco (Qbd (x:=.str x.n) (y:=.str y.n) rfl rfl rfl);show Qbe (QcT [some (rD x),some (rD y),none] O)=_;unfold QcT QcX;cases hd:decide (x.n=y.n)
 ·rw [hd] at e0;rw [QaA (ifN e0),QaA (show Qar 2 _ [some (rD x),some (rD y),none] O = .nx [some (rD x),some (rD y),some (.bl (Ov x.t x.h y.t y.h))] O from Qbg ((Qbl (ds:=[.int x.t,.int x.h,.int y.t,.int y.h]) rfl).trans (QtS ..)))]
  have e2:∀o:Option D,Qaq QdY (Qab (Qae gIx (Qaa 0) (mC (.int 2))) (Qab (Qae gIx (Qaa 0) (mC (.int 4))) (Qab (Qae gIx (Qaa 1) (mC (.int 2))) (Qab (Qae gIx (Qaa 1) (mC (.int 4))) Qag)))) [some (rD x),some (rD y),o] O = .ok (.bl (Ov x.l x.b y.l y.b)) O:=fun _=>(Qbl (ds:=[.int x.l,.int x.b,.int y.l,.int y.b]) rfl).trans (QtS ..)
  rw [Qce,Qd9,Qb4];show Qbe (QiB ((Res.ok (D.bl (Ov x.t x.h y.t y.h)) O).bind _))=_;rw [Qam];cases Ov x.t x.h y.t y.h
  ·rfl
  ·show Qbe (QiB (Qaq QdY _ _ O))=_;rw [e2]
   cases Ov x.l x.b y.l y.b <;> rfl
 ·rw [hd] at e0;rw [Qfm ((ifY e0).trans rfl)];rfl
def bCk:MS:=(Qak (QcE (QbN (QaQ (Qae gGe (Qaa 3) (mC (.int 6)))) (QbN (Qa1 (Qa4 (Qaq Qde (Qab (Qaa 4) Qag)))) (Qa1 (Qa4 (Qaq QbZ (Qab (Qaa 4) (Qab (Qaa 0) (Qab (Qaa 1) Qag)))))))) (Qak (QcB "NoRoom" "at" (Qaa 3))
  QaD) QaD)
  (Qak (QcE (Qa4 (QaP QjB (Qab (QbC (Qbj (mSl (Qaa 2) moN (moS (Qaa 3)))) 1 [4] (mgN 0) QbL (Qaq QbG (Qab (Qaa 1) (Qab (Qaa 0) Qag)))) Qag))) (Qak (QcB "NoRoom" "at" (Qaa 3))
  QaD) QaD)
  QaD))
def gCk:MG:=(QhY 2 (Qbi (mgN 3) (Qbi (mgN 4) QfG)))
def tA:L2.M Bool:=(QbN (QaQ (Qae gGe (Qaa 3) (mC (.int 6)))) (QbN (Qa1 (Qa4 (Qaq Qde (Qab (Qaa 4) Qag)))) (Qa1 (Qa4 (Qaq QbZ (Qab (Qaa 4) (Qab (Qaa 0) (Qab (Qaa 1) Qag))))))))
def tB:L2.M Bool:=(Qa4 (QaP QjB (Qab (QbC (Qbj (mSl (Qaa 2) moN (moS (Qaa 3)))) 1 [4] (mgN 0) QbL (Qaq QbG (Qab (Qaa 1) (Qab (Qaa 0) Qag)))) Qag)))
structure GoodR (hi wi:Int) (r:Rm):Prop where
 n:NOk r.n
 w:WOk r.w
 le:QdH r.t r.l r.h r.b=true
 li:Lies r.t r.l r.h r.b hi wi=true
theorem GoodR.room {hi wi:Int}{r:Rm} (g:GoodR hi wi r) (O:Qac):Qde [rD r] O = .ok (.bl true) O:=by
 have e:=QpM (t:=r.t) (l:=r.l) (h:=r.h) (b:=r.b) (QtP g.n O) (Qu5 g.w O);rw [g.le] at e;exact e
theorem GoodR.lies {hi wi:Int}{r:Rm} (g:GoodR hi wi r) (O:Qac):QbZ [rD r,.int hi,.int wi] O = .ok (.bl true) O:=by
 have e:=Qta (.str r.n) (.str r.w) r.t r.l r.h r.b hi wi O;rw [g.li] at e;exact e
theorem QuE {a b:L2.M Bool}{ρ:Qai}{O O1:Qac} (ha:a ρ O = .ok true O1):QbN a b ρ O = .ok true O1:=by
 rw [Qm5,ha,Qam];rfl
theorem Qgh {a b:L2.M Bool}{ρ:Qai}{O O1 O2:Qac}{x:Bool} (ha:a ρ O = .ok false O1) (hb:b ρ O1 = .ok x O2):QbN a b ρ O = .ok x O2:=by
 rw [Qm5,ha,Qam,if_neg zj,hb]
section
variable {hi wi:Int}{p:Nat}{o2:Option D}{O:Qac}
theorem p6 (hp:p < 6) (d:Option D):QaQ (Qae gGe (Qaa 3) (mC (.int 6))) [some (.int hi),some (.int wi),o2,some (.int (p:Int)),d] O = .ok false O:=Qco (Qbd (x:=.int (p:Int)) (y:=.int 6) rfl rfl (by
 rw [Qbc,Qbc,QqX,zn (by omega)]))
theorem QuW (hp:p < 6) {d:D} (h1:Qde [d] O = .ok (.bl true) O) (h2:QbZ [d,.int hi,.int wi] O = .ok (.bl true) O):tA [some (.int hi),some (.int wi),o2,some (.int (p:Int)),some d] O = .ok false O:=by
 unfold tA;exact Qgh (p6 hp _) (Qgh (Qg5 ((Qbl (ds:=[d]) rfl).trans h1)) (Qg5 ((Qbl (ds:=[d,.int hi,.int wi]) rfl).trans h2)))
theorem Qjd (x:Rm):∀pre:List Rm,Qcv (pre.map fun y=>D.bl (QcX x y))=some (pre.map (QcX x))
 | []=>rfl
 | y::pre=>by
  simp only [zg,Qcv,Qjd x pre];rfl
theorem Qvq {x:Rm}{pre:List Rm}{ds:List D} (hl:pre.length≤100) (hd:ds.take p=pre.map rD):tB [some (.int hi),some (.int wi),some (.lst ds),some (.int (p:Int)),some (rD x)] O = .ok (pre.any (QcX x)) O:=by
 have ei:Qbj (mSl (Qaa 2) moN (moS (Qaa 3))) [some (.int hi),some (.int wi),some (.lst ds),some (.int (p:Int)),some (rD x)] O = .ok (pre.map rD) O:=by
  rw [Qly,QwO (t:=ds) (x:=none) (y:=some (p:Int)) rfl rfl rfl,Qam,Qi6,hd,QpB,QlN]
 have ec:QbC (Qbj (mSl (Qaa 2) moN (moS (Qaa 3)))) 1 [4] (mgN 0) QbL (Qaq QbG (Qab (Qaa 1) (Qab (Qaa 0) Qag))) [some (.int hi),some (.int wi),some (.lst ds),some (.int (p:Int)),some (rD x)] O = .ok (.lst (pre.map fun y=>.bl (QcX x y))) O:=by
  have z:=Qdm (g:=mgN 0) (t:=QbL) (m:=Qaq QbG (Qab (Qaa 1) (Qab (Qaa 0) Qag))) (fun ρ=>∃a,ρ = [a,some (rD x)]) rD (fun y=>.bl (QcX x y)) pre [none,some (rD x)] O [] ⟨none,rfl⟩ (by
   rintro y hy ρ ⟨a,rfl⟩
   exact ⟨_,rfl,⟨_,rfl⟩,rfl,(Qbl (ds:=[rD x,rD y]) rfl).trans (Qs7 x y O)⟩)
  rw [zX] at z;rw [QfD,ei,Qam,if_pos (by rw [zp]; omega),show QdQ 1 [4] [some (.int hi),some (.int wi),some (.lst ds),some (.int (p:Int)),some (rD x)] = [none,some (rD x)] from rfl,z,Qam]
 have ea:QjB [QaN O (.lst (pre.map fun y=>.bl (QcX x y)))]=some (.bl (pre.any (QcX x))):=by
  show (Qcv (pre.map fun y=>D.bl (QcX x y))).map (fun bs=>D.bl (bs.any id))=_;rw [Qjd];simp
 unfold tB;rw [QgY,QcR (xs:=[.lst (pre.map fun y=>.bl (QcX x y))]) (ma1 ec) ea,Qam];rfl
end
theorem QuH {hi wi:Int}{p:Nat} (hp:p < 6) {x:Rm} (g:GoodR hi wi x) {pre:List Rm}{ds:List D} (hl:pre.length≤100) (hd:ds.take p=pre.map rD) (hc:pre.any (QcX x)=false) (O:Qac) :
  bCk [some (.int hi),some (.int wi),some (.lst ds),some (.int (p:Int)),some (rD x)] O = .nx [some (.int hi),some (.int wi),some (.lst ds),some (.int (p:Int)),some (rD x)] O:=by
 have e1:=QuW (o2:=some (.lst ds)) hp (g.room O) (g.lies O);have e2:=Qvq (hi:=hi) (wi:=wi) (O:=O) (x:=x) hl hd;rw [hc] at e2;unfold tA at e1;unfold tB at e2;unfold bCk;rw [QaA (QfE e1),QaA (QfE e2)];rfl
def Fit (hi wi:Int):List Rm→List Rm→Prop
 | _,[]=>True
 | done,x::xs=>GoodR hi wi x∧done.any (QcX x)=false∧Fit hi wi (done ++ [x]) xs
theorem Qmp {hi wi:Int}{ds rest:List D}:∀(todo done:List Rm) (o3 o4:Option D) (O:Qac),Fit hi wi done todo→ds=(done++todo).map rD++rest→(done++todo).length≤6 →
  ∃p3 p4,Qa9 gCk bCk (Qcw done.length (todo.map rD++rest)) [some (.int hi),some (.int wi),some (.lst ds),o3,o4] O=Qa9 gCk bCk (Qcw (done++todo).length rest) [some (.int hi),some (.int wi),some (.lst ds),p3,p4] O
 | [],done,o3,o4,O,_,_,_=>⟨o3,o4,by rw [zP]; rfl⟩
 | x::todo,done,o3,o4,O,hf,hd,hl=>by
  obtain ⟨g,hc,hf'⟩:=hf;rw [zF,zJ] at hl;have e:=QuH (p:=done.length) (by omega) g (pre:=done) (ds:=ds) (by omega) (by rw [hd,zM,je,List.take_left' (zp ..)]) hc O;obtain ⟨p3,p4,e2⟩:=Qmp (ds:=ds) (rest:=rest) todo (done ++ [x]) (some (.int (done.length:Int))) (some (rD x)) O hf' (by rw [hd]; simp) (by simp; omega);refine ⟨p3,p4,?_⟩;rw [zg,List.cons_append,Qcw,Qb1 (ρ1:=[some (.int hi),some (.int wi),some (.lst ds),some (.int (done.length:Int)),some (rD x)]) rfl e]
  have z:(done ++ [x]).length=done.length+1:=by simp
  rw [z] at e2;rw [e2];simp
theorem Qr0 {hi wi:Int}{ds:List D} (h:ds≠[]) (O:Qac):QbN (Qa1 (Qa4 (QcS "list" (Qaa 2)))) (QaQ (Qae gEq (QaP Qfe (Qab (Qaa 2) Qag)) (mC (.int 0)))) [some (.int hi),some (.int wi),some (.lst ds),none,none] O = .ok false O:=by
 refine Qgh rfl (Qco (Qbd (QuF rfl) rfl ?_));rw [Qbc,Qbc,Qva,zn];intro z;exact h (List.eq_nil_of_length_eq_zero (by omega))
theorem Qss {hi wi:Int}{rs:List Rm} (hf:Fit hi wi [] rs) (h1:rs≠[]) (h6:rs.length≤6) (O:Qac):Qe8 [.int hi,.int wi,.lst (rs.map rD)] O = .ok .non O:=by
 obtain ⟨p3,p4,e⟩:=Qmp (ds:=rs.map rD) (rest:=[]) rs [] none none O hf (by simp) (by simpa using h6);show Qbe (QdD [some (.int hi),some (.int wi),some (.lst (rs.map rD)),none,none] O)=_;unfold QdD;rw [QaA (QfE (Qr0 (by simpa using h1) O))];show Qbe (Qak (Qdj (QkF (Qaa 2)) gCk bCk) _ _ _)=_;rw [zP] at e;rw [QaA ((QpS (ds:=Qcw 0 (rs.map rD)) rfl).trans e)];rfl
def bFi:MS:=(Qak (msN (Qgv (QcY ["Plan"] "room_by_name" (Qaa 0)) (Qae gIx (Qaa 4) (mC (.int 0))) (Qaa 4)))
  QaD)
theorem QcA (M lo hi:Int) (O:Qac):QaW [.int M,.int lo,.int hi] O = .ok (.bl (decide (lo≤M)&&decide (M≤hi))) O:=by
 simp [QaW,Qgl,Qba,Qfr]
 by_cases h:lo≤M <;> by_cases h2:M≤hi <;> simp [h,h2]
theorem Qq6 {d a b:D}{O:Qac}{x:Bool}{m:L2.M D}{ρ:Qai} (h:QaW [d,a,b] O = .ok (.bl x) O) (hm:m ρ O = .ok d O):(Qa1 (Qa4 (Qaq QaW (Qab m (Qab (mC a) (Qab (mC b) Qag)))))) ρ O = .ok (!x) O:=by
 rw [QhO,QgY,Qbl (ds:=[d,a,b]) (maS hm rfl),h];rfl
theorem Qqu {hi wi:Int} (h1:1≤hi∧hi≤12) (h2:2≤wi∧wi≤40) (O:Qac):Qex [.int hi,.int wi] O = .ok .non O:=by
 have e1:=QcA hi 1 12 O;rw [zl h1.1,zl h1.2] at e1;have e2:=QcA wi 2 40 O;rw [zl h2.1,zl h2.2] at e2;show Qbe (Qdl [some (.int hi),some (.int wi)] O)=_;unfold Qdl;rw [QaA (QfE (Qq6 e1 rfl)),QaA (QfE (Qq6 e2 rfl))];rfl
def plO (hi wi:Int) (m:Nat):Ob:=.ins "Plan" [("high",.int hi),("wide",.int wi),("room_by_name",.ob m)]
theorem pF {O:Qac}{o:Nat}{fs:List (Str×D)}{f:Str}{d:D}{ρ:Qai} (e:O[o]? = some (.ins "Plan" fs)) (h:fs.length < 900):puF ["Plan"] f d ρ (.ok (.ob o) O) = .nx ρ (O.set o (.ins "Plan" (putD f d fs))):=by
 unfold puF;dsimp only;rw [e];dsimp only;rw [if_pos ⟨by simp,h⟩]
theorem fR {O:Qac}{o m:Nat}{hi wi:Int} (e:O[o]? = some (plO hi wi m)):QhJ ["Plan"] "room_by_name" (.ob o) O = .ok (.ob m) O:=by
 unfold QhJ;dsimp only;rw [e];rfl
theorem Qv9 {mo my mv:L2.M D}{ρ:Qai}{O:Qac}{m:Nat}{d y:D}{k:Key}{kvs:List (Key×D)} (hv:mv ρ O = .ok d O) (ho:mo ρ O = .ok (.ob m) O) (hy:my ρ O = .ok y O) (hk:keyOf y=some k) (hm:O[m]? = some (.dk kvs)) (hl:kvs.length < 1000000):Qgv mo my mv ρ O = .nx ρ (O.set m (.dk (QjN kvs k d))):=by
 unfold Qgv;rw [hv];dsimp only;rw [ho];dsimp only;rw [hy];dsimp only;rw [hk,hm];dsimp only;rw [if_pos hl]
def kvsOf (rs:List Rm):List (Key×D):=rs.map fun r=>(.inr (S r.n),rD r)
theorem QrU {rs:List Rm}{x:Rm} (h:rs.any (QcX x)=false):QjN (kvsOf rs) (.inr (S x.n)) (rD x)=kvsOf (rs ++ [x]):=by
 have hn:((kvsOf rs).any fun p=>decide (p.1 = .inr (S x.n)))=false:=by
  rw [List.any_eq_false];intro p hp;obtain ⟨y,hy,rfl⟩:=zQ.mp hp;rw [List.any_eq_false] at h;have hc:=h y hy;intro z;have z':=jh z;have e:y.n=x.n:=Qjm (Sum.inr.inj z')
  apply hc
  unfold QcX;rw [zl e.symm];rfl
 unfold QjN;rw [if_neg (by rw [hn]; exact zj)];unfold kvsOf;rw [zM];rfl
theorem fill {hi wi hi' wi':Int}{n m:Nat} (hne:n≠m) (a1 a2 a3:Option D):∀(todo done:List Rm) (O:Qac) (o4:Option D),Fit hi wi done todo→(done++todo).length≤6→O[n]? = some (plO hi' wi' m)→O[m]? = some (.dk (kvsOf done)) →
  ∃O' p4,Qa9 (mgN 4) bFi (todo.map rD) [some (.ob n),a1,a2,a3,o4] O = .nx [some (.ob n),a1,a2,a3,p4] O'∧O'[n]? = some (plO hi' wi' m)∧O'[m]? = some (.dk (kvsOf (done++todo)))
 | [],done,O,o4,_,_,h1,h2=>⟨O,o4,rfl,h1,by rw [zP]; exact h2⟩
 | x::todo,done,O,o4,hf,hl,h1,h2=>by
  obtain ⟨g,hc,hf'⟩:=hf;have hl':=hl;rw [zF,zJ] at hl
  have e:bFi [some (.ob n),a1,a2,a3,some (rD x)] O = .nx [some (.ob n),a1,a2,a3,some (rD x)] (O.set m (.dk (kvsOf (done ++ [x])))):=by
   unfold bFi;have k:=Qv9 (mo:=QcY ["Plan"] "room_by_name" (Qaa 0)) (my:=Qae gIx (Qaa 4) (mC (.int 0))) (mv:=Qaa 4) (ρ:=[some (.ob n),a1,a2,a3,some (rD x)]) (O:=O) (m:=m) (d:=rD x) (y:=.str x.n) (k:=.inr (S x.n)) (kvs:=kvsOf done) rfl (by simp only [Qg9,Qb4,zN,Qam,fR h1]) rfl rfl h2 (by unfold kvsOf; rw [zp]; omega);rw [QrU hc] at k;rw [QaA (Qjj k)];rfl
  obtain ⟨O',p4,e2,f1,f2⟩:=fill (hi:=hi) (wi:=wi) hne a1 a2 a3 todo (done ++ [x]) (O.set m (.dk (kvsOf (done ++ [x])))) (some (rD x)) hf' (by simpa using hl') (by rw [zt (Ne.symm hne)]; exact h1) (gs' h2);refine ⟨O',p4,?_,f1,by simpa using f2⟩;rw [zg,Qb1 (ρ1:=[some (.ob n),a1,a2,a3,some (rD x)]) rfl e];exact e2
theorem Quy {hi wi:Int}{rs:List Rm} (h1:1≤hi∧hi≤12) (h2:2≤wi∧wi≤40) (hf:Fit hi wi [] rs) (hne:rs≠[]) (h6:rs.length≤6) (O:Qac):∃O',Qcq [.ob O.length,.int hi,.int wi,.lst (rs.map rD)] (O ++ [.ins "Plan" []]) = .ok .non O'∧O'[O.length]? = some (plO hi wi (O.length+1))∧O'[O.length+1]? = some (.dk (kvsOf rs)):=by
 have e0:(O ++ [Ob.ins "Plan" []])[O.length]? = some (.ins "Plan" []):=apN
 have p0:=fun ρ=>pF (f:="high") (d:=.int hi) (ρ:=ρ) e0 (by decide)
 have e1:=gs' (y:=.ins "Plan" (putD "high" (.int hi) [])) e0
 generalize hS1:(O ++ [Ob.ins "Plan" []]).set O.length (.ins "Plan" (putD "high" (.int hi) []))=S1 at p0 e1
 have l1:S1.length=O.length+1:=by rw [←hS1]; simp
 have p1:=fun ρ=>pF (f:="wide") (d:=.int wi) (ρ:=ρ) e1 (by show 1 < 900; decide)
 have e2:=gs' (y:=.ins "Plan" (putD "wide" (.int wi) (putD "high" (.int hi) []))) e1
 generalize hS2:S1.set O.length (.ins "Plan" (putD "wide" (.int wi) (putD "high" (.int hi) [])))=S2 at p1 e2
 have l2:S2.length=O.length+1:=by rw [←hS2,zT]; exact l1
 have e3:(S2 ++ [Ob.dk []])[O.length]? = some (.ins "Plan" (putD "wide" (.int wi) (putD "high" (.int hi) []))):=ap1 e2
 have p2:=fun ρ=>pF (f:="room_by_name") (d:=.ob S2.length) (ρ:=ρ) e3 (by show 2 < 900; decide)
 have e4:((S2 ++ [Ob.dk []]).set O.length (.ins "Plan" (putD "room_by_name" (.ob S2.length) (putD "wide" (.int wi) (putD "high" (.int hi) [])))))[O.length]? = some (plO hi wi (O.length+1)):=by
  rw [gs' e3,l2];rfl
 have e5:((S2 ++ [Ob.dk []]).set O.length (.ins "Plan" (putD "room_by_name" (.ob S2.length) (putD "wide" (.int wi) (putD "high" (.int hi) [])))))[O.length+1]? = some (.dk (kvsOf [])):=by
  rw [zt (by omega),←l2];exact apN
 generalize hS3:(S2 ++ [Ob.dk []]).set O.length (.ins "Plan" (putD "room_by_name" (.ob S2.length) (putD "wide" (.int wi) (putD "high" (.int hi) []))))=S3 at p2 e4 e5
 obtain ⟨O',p4,ef,f1,f2⟩:=fill (hi:=hi) (wi:=wi) (n:=O.length) (m:=O.length+1) (by omega) (some (.int hi)) (some (.int wi)) (some (.lst (rs.map rD))) rs [] S3 none hf (by simpa using h6) e4 e5
 have q1:QeE ["Plan"] "high" (Qaa 0) (mG (Qaa 1)) [some (.ob O.length),some (.int hi),some (.int wi),some (.lst (rs.map rD)),none] (O ++ [Ob.ins "Plan" []]) = .nx [some (.ob O.length),some (.int hi),some (.int wi),some (.lst (rs.map rD)),none] S1:=by
  simp only [Qk9,m_g,Qob,Qk3,Qb4,zN,jc,Qam,p0]
 have q2:QeE ["Plan"] "wide" (Qaa 0) (mG (Qaa 2)) [some (.ob O.length),some (.int hi),some (.int wi),some (.lst (rs.map rD)),none] S1 = .nx [some (.ob O.length),some (.int hi),some (.int wi),some (.lst (rs.map rD)),none] S2:=by
  simp only [Qk9,m_g,Qob,Qk3,Qb4,zN,jc,Qam,p1]
 have q3:QeE ["Plan"] "room_by_name" (Qaa 0) Qjh [some (.ob O.length),some (.int hi),some (.int wi),some (.lst (rs.map rD)),none] S2 = .nx [some (.ob O.length),some (.int hi),some (.int wi),some (.lst (rs.map rD)),none] S3:=by
  rw [Qk9,show Qjh [some (.ob O.length),some (.int hi),some (.int wi),some (.lst (rs.map rD)),none] S2 = .ok (.ob S2.length) (S2 ++ [.dk []]) from rfl];simp only [Qk3,Qb4,zN,p2]
 refine ⟨O',?_,f1,f2⟩;show Qbe (Qc6 [some (.ob O.length),some (.int hi),some (.int wi),some (.lst (rs.map rD)),none] (O ++ [Ob.ins "Plan" []]))=_;unfold Qc6;rw [QaA (QqK ((QnO (ds:=[.int hi,.int wi]) rfl).trans (Qqu h1 h2 _))),QaA (QqK ((QnO (ds:=[.int hi,.int wi,.lst (rs.map rD)]) rfl).trans (Qss hf hne h6 _))),QaA (Qjj q1),QaA (Qjj q2),QaA (Qjj q3)];show Qbe (Qak (Qdj (Qbj (Qaa 3)) (mgN 4) bFi) _ _ _)=_;rw [QaA ((QpS (ds:=rs.map rD) rfl).trans ef)];rfl
theorem Qsr {hi wi:Int}{n m:Nat}{rs:List Rm}{O:Qac} (h1:O[n]? = some (plO hi wi m)) (h2:O[m]? = some (.dk (kvsOf rs))):Qdv [.ob n] O = .ok (.lst (rs.map fun r=>.str r.n)) O:=by
 show Qbe (QcF [some (.ob n)] O)=_;unfold QcF
 have e:Qji (QcY ["Plan"] "room_by_name" (Qaa 0)) [some (.ob n)] O = .ok (.lst (rs.map fun r=>.str r.n)) O:=by
  unfold Qji;rw [show QcY ["Plan"] "room_by_name" (Qaa 0) [some (.ob n)] O = .ok (.ob m) O by simp only [Qg9,Qb4,zN,Qam,fR h1],Qam];dsimp only;rw [h2];dsimp only;unfold kvsOf;rw [jd];congr 3
 rw [Qce,e,Qdp];rfl
def bNa:MS:=(Qar 3 (Qae Qav (Qaa 3) (Qae gIx (Qaa 2) (Qae QaU (Qaq QaH (Qab (Qaa 0) (Qab (Qaa 4) Qag))) (mC (.int 26))))))
def bNb:MS:=(Qak (Qar 7 (Qae gIx (Qaa 2) (Qae QaU (Qae Qav (Qaq QaH (Qab (Qaa 0) (Qab (mC (.int 8)) Qag))) (Qaa 4)) (mC (.int 26)))))
  (Qc8 6 (mSl (Qae Qav (Qae Qav (mSl (Qaa 3) moN (moS (Qaa 5))) (Qaa 7)) (mSl (Qaa 3) (moS (Qae Qav (Qaa 5) (mC (.int 1)))) moN)) moN (moS (QaP QhW (Qab (Qae Qav (Qaa 5) (mC (.int 1))) (Qab (Qae Qav (mC (.int 1)) (Qae QaU (Qae Qcj (Qaa 0) (mC (.int 24))) (mC (.int 8)))) Qag)))))))
def abc:List Nat:=[97,98,99,100,101,102,103,104,105,106,107,108,109,110,111,112,113,114,115,116,117,118,119,120,121,122]
theorem QjW {a b:L2.M D}{ρ:Qai}{O:Qac}{i j:Int} (ha:a ρ O = .ok (.int i) O) (hb:b ρ O = .ok (.int j) O) (hj:0 < j∧j < 1073741824):Qae Qcj a b ρ O = .ok (.int (i / j)) O:=Qbd ha hb (by rw [Qbc,Qbc,Qrx,if_pos hj])
theorem Qtx:∀i:Nat,i < 26→abc[i]? = some (97+i):=by decide
theorem QoK (v:Int):∃i:Nat,i < 26∧v % 26=(i:Int)∧gIx (.str abc) (.int (v % 26))=some (.str [97+i]):=by
 refine ⟨(v % 26).toNat,by omega,by omega,?_⟩;obtain ⟨i,hi⟩:∃i:Nat,v % 26=(i:Int):=⟨(v % 26).toNat,by omega⟩
 have hlt:i < 26:=by omega
 rw [hi,Qvb,if_pos (by decide),Qf5,Int.toNat_natCast,Qtx i hlt];rfl
theorem QdO (lo:Int) (n:Nat):Qbs lo (n+1) = .int lo::Qbs (lo+1) n:=by
 unfold Qbs;rw [List.range_succ_eq_map,zg,jd];congr 1
 ·simp
 ·congr 1
  funext i
  simp only [Function.comp];congr 1
  push_cast
  omega
theorem Qmo {N:Nat} (c:Int) (O:Qac):∀(m k:Nat) (base:List Nat) (o4:Option D),base.length=k→k+m≤8→(∀x∈base,97≤x∧x≤122) →
  ∃base' p4,Qa9 (mgN 4) bNa (Qbs (k:Int) m) [some (.int c),some (.int (N:Int)),some (.str abc),some (.str base),o4,none,none,none] O = .nx [some (.int c),some (.int (N:Int)),some (.str abc),some (.str base'),p4,none,none,none] O∧base'.length=k+m∧∀x∈base',97≤x∧x≤122
 | 0,k,base,o4,hl,_,hb=>⟨base,o4,rfl,hl,hb⟩
 | m+1,k,base,o4,hl,hk,hb=>by
  obtain ⟨i,h1,_,h3⟩:=QoK (mix c k);have e:bNa [some (.int c),some (.int (N:Int)),some (.str abc),some (.str base),some (.int (k:Int)),none,none,none] O = .nx [some (.int c),some (.int (N:Int)),some (.str abc),some (.str (base ++ [97+i])),some (.int (k:Int)),none,none,none] O:=Qbg (QjM rfl (Qbd (x:=.str abc) rfl (Qed ((Qbl (ds:=[.int c,.int (k:Int)]) rfl).trans (QkB c k (by omega) (by omega) O)) rfl (by decide)) h3) (by show base.length+1≤1000000; omega))
  obtain ⟨base',p4,e2,f1,f2⟩:=Qmo c O m (k+1) (base ++ [97+i]) (some (.int (k:Int))) (by simp [hl]) (by omega) (fun x hx=>by
   rcases zC.mp hx with hx | hx
   ·exact hb x hx
   ·rw [zv.mp hx]; omega)
  refine ⟨base',p4,?_,by omega,f2⟩;rw [QdO,Qb1 (ρ1:=[some (.int c),some (.int (N:Int)),some (.str abc),some (.str base),some (.int (k:Int)),none,none,none]) rfl e];exact e2
def nmB (base:List Nat) (a L:Nat) (v:Int) (k:Nat):List Nat:=(base.take a ++ [97+((v+k) % 26).toNat]++base.drop (a+1)).take L
theorem Qml {N:Nat} (c:Int) {base:List Nat}{a L:Nat} (hb:base.length=8) (ha:(c / 3 % 8:Int)=a) (hL:(if (1+c / 24 % 8:Int) > (a:Int)+1 then 1+c / 24 % 8 else (a:Int)+1)=(L:Int)) (O:Qac):∀(m k:Nat) (acc:List (List Nat)) (o4 o7:Option D),acc=(List.range k).map (nmB base a L (mix c 8))→k+m≤7 →
  ∃p4 p7,Qa9 (mgN 4) bNb (Qbs (k:Int) m) [some (.int c),some (.int (N:Int)),some (.str abc),some (.str base),o4,some (.int (a:Int)),some (.lst (acc.map D.str)),o7] O = .nx [some (.int c),some (.int (N:Int)),some (.str abc),some (.str base),p4,some (.int (a:Int)),some (.lst (((List.range (k+m)).map (nmB base a L (mix c 8))).map D.str)),p7] O
 | 0,k,acc,o4,o7,hacc,_=>⟨o4,o7,by rw [hacc]; rfl⟩
 | m+1,k,acc,o4,o7,hacc,hk=>by
  obtain ⟨i,h1,h2,h3⟩:=QoK (mix c 8+k)
  have hlen:acc.length=k:=by rw [hacc]; simp
  have s7:Qar 7 (Qae gIx (Qaa 2) (Qae QaU (Qae Qav (Qaq QaH (Qab (Qaa 0) (Qab (mC (.int 8)) Qag))) (Qaa 4)) (mC (.int 26)))) [some (.int c),some (.int (N:Int)),some (.str abc),some (.str base),some (.int (k:Int)),some (.int (a:Int)),some (.lst (acc.map D.str)),o7] O = .nx [some (.int c),some (.int (N:Int)),some (.str abc),some (.str base),some (.int (k:Int)),some (.int (a:Int)),some (.lst (acc.map D.str)),some (.str [97+i])] O:=Qbg (Qbd (x:=.str abc) rfl (Qed (Qdn ((Qbl (ds:=[.int c,.int 8]) rfl).trans (QkB c 8 (by decide) (by decide) O)) rfl) rfl (by decide)) h3)
  have hi:nmB base a L (mix c 8) k=(base.take a ++ [97+i]++base.drop (a+1)).take L:=by
   unfold nmB;rw [h2,Int.toNat_natCast]
  have sl:∀{m:L2.M D}{p q:L2.M (Option Int)}{ρ:Qai}{t:List Nat}{x y:Option Int},m ρ O = .ok (.str t) O→p ρ O = .ok x O→q ρ O = .ok y O→t.length≤1000000→mSl m p q ρ O = .ok (.str (QcK t x y)) O:=fun hm hp hq hz=>by
   rw [Qqb,hm,Qam,hp,Qam,hq,Qam,QdZ,Qmc,if_pos (by omega),Qcz]
  have ap:Qc8 6 (mSl (Qae Qav (Qae Qav (mSl (Qaa 3) moN (moS (Qaa 5))) (Qaa 7)) (mSl (Qaa 3) (moS (Qae Qav (Qaa 5) (mC (.int 1)))) moN)) moN (moS (QaP QhW (Qab (Qae Qav (Qaa 5) (mC (.int 1))) (Qab (Qae Qav (mC (.int 1)) (Qae QaU (Qae Qcj (Qaa 0) (mC (.int 24))) (mC (.int 8)))) Qag))))) [some (.int c),some (.int (N:Int)),some (.str abc),some (.str base),some (.int (k:Int)),some (.int (a:Int)),some (.lst (acc.map D.str)),some (.str [97+i])] O = .nx [some (.int c),some (.int (N:Int)),some (.str abc),some (.str base),some (.int (k:Int)),some (.int (a:Int)),some (.lst ((acc ++ [nmB base a L (mix c 8) k]).map D.str)),some (.str [97+i])] O:=by
   have z1:=sl (m:=Qaa 3) (p:=moN) (q:=moS (Qaa 5)) (ρ:=[some (.int c),some (.int (N:Int)),some (.str abc),some (.str base),some (.int (k:Int)),some (.int (a:Int)),some (.lst (acc.map D.str)),some (.str [97+i])]) (t:=base) (x:=none) (y:=some (a:Int)) rfl rfl rfl (by omega);rw [Qi6] at z1;have z2:=sl (m:=Qaa 3) (p:=moS (Qae Qav (Qaa 5) (mC (.int 1)))) (q:=moN) (ρ:=[some (.int c),some (.int (N:Int)),some (.str abc),some (.str base),some (.int (k:Int)),some (.int (a:Int)),some (.lst (acc.map D.str)),some (.str [97+i])]) (t:=base) (x:=some ((a+1:Nat):Int)) (y:=none) rfl rfl rfl (by omega);rw [Quz] at z2
   have z3:=QjM (QjM z1 (b:=Qaa 7) (y:=[97+i]) rfl (by rw [List.length_take]; simp; omega)) z2 (by rw [zF,List.length_take,List.length_drop]; simp; omega)
   have z4:QaP QhW (Qab (Qae Qav (Qaa 5) (mC (.int 1))) (Qab (Qae Qav (mC (.int 1)) (Qae QaU (Qae Qcj (Qaa 0) (mC (.int 24))) (mC (.int 8)))) Qag)) [some (.int c),some (.int (N:Int)),some (.str abc),some (.str base),some (.int (k:Int)),some (.int (a:Int)),some (.lst (acc.map D.str)),some (.str [97+i])] O = .ok (.int (L:Int)) O:=by
    rw [←hL];exact QcR (xs:=[.int ((a:Int)+1),.int (1+c / 24 % 8)]) (maS (Qdn rfl rfl) (ma1 (Qdn rfl (Qed (QjW rfl rfl (by decide)) rfl (by decide))))) QsX
   have z5:=sl (p:=moN) (q:=moS (QaP QhW (Qab (Qae Qav (Qaa 5) (mC (.int 1))) (Qab (Qae Qav (mC (.int 1)) (Qae QaU (Qae Qcj (Qaa 0) (mC (.int 24))) (mC (.int 8)))) Qag)))) (x:=none) (y:=some (L:Int)) z3 rfl (QqO z4) (by rw [zF,zF,List.length_take,List.length_drop]; simp; omega);rw [Qi6,←hi] at z5;have z6:=Qi1 (i:=6) (ds:=acc.map D.str) z5 rfl (by rw [zp]; omega);rw [z6,zM];rfl
  obtain ⟨p4,p7,e2⟩:=Qml c hb ha hL O m (k+1) (acc ++ [nmB base a L (mix c 8) k]) (some (.int (k:Int))) (some (.str [97+i])) (by rw [hacc,List.range_succ,zM]; rfl) (by omega);refine ⟨p4,p7,?_⟩
  have e:bNb [some (.int c),some (.int (N:Int)),some (.str abc),some (.str base),some (.int (k:Int)),some (.int (a:Int)),some (.lst (acc.map D.str)),o7] O = .nx [some (.int c),some (.int (N:Int)),some (.str abc),some (.str base),some (.int (k:Int)),some (.int (a:Int)),some (.lst ((acc ++ [nmB base a L (mix c 8) k]).map D.str)),some (.str [97+i])] O:=by
   unfold bNb;rw [QaA s7,ap]
  rw [QdO,Qb1 (ρ1:=[some (.int c),some (.int (N:Int)),some (.str abc),some (.str base),some (.int (k:Int)),some (.int (a:Int)),some (.lst (acc.map D.str)),o7]) rfl e]
  have z:k+1+m=k+(m+1):=by omega
  rw [z] at e2;exact e2
structure Nms (nm:Nat→List Nat):Prop where
 ok:∀k,k < 7→NOk (nm k)
 ne:∀j k,j < k→k < 7→nm j≠nm k
theorem Qs6 {base:List Nat} (hl:base.length=8) (hb:∀x∈base,97≤x∧x≤122):Nms fun k=>base.take (k+1):=⟨fun k hk=>⟨by rw [List.length_take]; omega,by rw [List.length_take]; omega,fun x hx=>hb x (List.mem_of_mem_take hx)⟩,fun j k hj hk e=>by
 have:=congrArg List.length e
 rw [List.length_take,List.length_take] at this
 omega⟩
theorem QtT {base:List Nat} (hl:base.length=8) (hb:∀x∈base,97≤x∧x≤122) {a L:Nat} (ha:a < 8) (hL:a+1≤L∧L≤8) (v:Int):Nms (nmB base a L v):=by
 have hat:∀k,(nmB base a L v k)[a]? = some (97+((v+k) % 26).toNat):=fun k=>by
  unfold nmB;rw [List.getElem?_take_of_lt (by omega),je,zE (by rw [List.length_take]; omega),List.length_take,show a - min a base.length=0 by omega];rfl
 refine ⟨fun k hk=>?_,fun j k hj hk e=>?_⟩
 ·have hlen:(nmB base a L v k).length=L:=by
   unfold nmB;rw [List.length_take,zF,zF,List.length_take,List.length_drop,jk];omega
  refine ⟨by omega,by omega,fun x hx=>?_⟩;have hx':=List.mem_of_mem_take hx
  rcases zC.mp hx' with hx' | hx'
  ·rcases zC.mp hx' with hx' | hx'
   ·exact hb x (List.mem_of_mem_take hx')
   ·rw [zv.mp hx'];omega
  ·exact hb x (List.mem_of_mem_drop hx')
 ·have h1:=hat j;rw [e,hat k] at h1
  have:=zL h1
  omega
theorem Qvs {N:Nat} (hN:N≤7) (c:Int) (O:Qac):∃nm,Nms nm∧Qgg [.int c,.int (N:Int)] O = .ok (.lst ((List.range N).map fun k=>.str (nm k))) O:=by
 obtain ⟨base,p4,e1,hl,hb⟩:=Qmo (N:=N) c O 8 0 [] none rfl (by omega) (fun x hx=>nomatch hx)
 have er8:∀(ρ:Qai),Qch (Qab (mC (.int 8)) Qag) ρ O = .ok (Qbs 0 8) O:=fun ρ=>QfQ (n:=8) rfl (by decide)
 have pre:∀r:Fl,(∀p4,(Qak (QbA (QaQ (Qae gEq (Qae QaU (Qaa 0) (mC (.int 3))) (mC (.int 0)))) (QaC (QbC (Qch (Qab (Qaa 1) Qag)) 1 [3] (mgN 0) QbL (mSl (Qaa 1) moN (moS (Qae Qav (Qaa 0) (mC (.int 1))))))) QaD)
  (Qak (Qar 5 (Qae QaU (Qae Qcj (Qaa 0) (mC (.int 3))) (mC (.int 8))))
  (Qak (Qar 6 (Qb5 Qag))
  (Qak (QbB (Qch (Qab (Qaa 1) Qag)) (mgN 4) bNb)
  (QaC (Qaa 6)))))) [some (.int c),some (.int (N:Int)),some (.str abc),some (.str base),p4,none,none,none] O=r)→Qc1 [some (.int c),some (.int (N:Int)),none,none,none,none,none,none] O=r:=fun r h=>by
  unfold Qc1;rw [QaA (show Qar 2 _ [some (.int c),some (.int (N:Int)),none,none,none,none,none,none] O = .nx [some (.int c),some (.int (N:Int)),some (.str abc),none,none,none,none,none] O from rfl),QaA (show Qar 3 _ [some (.int c),some (.int (N:Int)),some (.str abc),none,none,none,none,none] O = .nx [some (.int c),some (.int (N:Int)),some (.str abc),some (.str []),none,none,none,none] O from rfl)];show Qak (QbB _ (mgN 4) bNa) _ _ _=_;rw [QaA ((Qf7 (er8 _)).trans e1)];exact h p4
 have t3:∀p4,QaQ (Qae gEq (Qae QaU (Qaa 0) (mC (.int 3))) (mC (.int 0))) [some (.int c),some (.int (N:Int)),some (.str abc),some (.str base),p4,none,none,none] O = .ok (decide (c % 3=0)) O:=fun p4=>QvW (Qed rfl rfl (by decide)) rfl
 have hl8:base.length=8:=hl
 by_cases h3:c % 3=0
 ·refine ⟨_,Qs6 hl8 hb,?_⟩
  have z:=Qdm (g:=mgN 0) (t:=QbL) (m:=mSl (Qaa 1) moN (moS (Qae Qav (Qaa 0) (mC (.int 1))))) (fun ρ=>∃a,ρ = [a,some (.str base)]) (fun i:Nat=>D.int (0+(i:Int))) (fun k=>.str (base.take (k+1))) (List.range N) [none,some (.str base)] O [] ⟨none,rfl⟩ (by
   rintro k hk ρ ⟨a,rfl⟩;refine ⟨_,rfl,⟨_,rfl⟩,rfl,?_⟩;rw [Qqb];show (Res.ok (D.str base) O).bind _=_
   rw [Qam,QwJ,Qam,QqO (Qdn (i:=0+(k:Int)) (j:=1) rfl rfl),Qam,QdZ,Qmc,if_pos (by omega),show (0+(k:Int)+1)=((k+1:Nat):Int) by omega,Qi6,Qcz])
  rw [zX] at z;show Qbe (Qc1 [some (.int c),some (.int (N:Int)),none,none,none,none,none,none] O)=_
  rw [pre _ (fun p4=>Qfm ((ifY ((t3 p4).trans (by rw [zl h3]))).trans (show QaC _ _ O = .rt (.lst ((List.range N).map fun k=>.str (base.take (k+1)))) O by
   rw [Qce,QfD,QfQ (n:=N) rfl (by omega),Qam,if_pos (by unfold Qbs; rw [zp,List.length_range]; omega),show QdQ 1 [3] [some (.int c),some (.int (N:Int)),some (.str abc),some (.str base),p4,none,none,none] = [none,some (.str base)] from rfl];unfold Qbs;rw [z]
   rfl)))]
  rfl
 ·obtain ⟨a,ha⟩:∃a:Nat,(c / 3 % 8:Int)=(a:Int):=⟨(c / 3 % 8).toNat,by omega⟩;obtain ⟨L,hL⟩:∃L:Nat,(if (1+c / 24 % 8:Int) > (a:Int)+1 then 1+c / 24 % 8 else (a:Int)+1)=(L:Int):=⟨(if (1+c / 24 % 8:Int) > (a:Int)+1 then 1+c / 24 % 8 else (a:Int)+1).toNat,by split <;> omega⟩
  have hLb:a+1≤L∧L≤8:=by
   split at hL <;> omega
  refine ⟨_,QtT hl8 hb (by omega) hLb (mix c 8),?_⟩;show Qbe (Qc1 [some (.int c),some (.int (N:Int)),none,none,none,none,none,none] O)=_
  rw [pre (.rt (.lst ((List.range N).map fun k=>.str (nmB base a L (mix c 8) k))) O) (fun p4=>by
   obtain ⟨q4,q7,e2⟩:=Qml (N:=N) c hl8 ha hL O N 0 [] p4 none rfl (by omega);rw [zY] at e2;rw [QaA (ifN ((t3 p4).trans (by rw [zn h3]))),QaA (show Qar 5 _ [some (.int c),some (.int (N:Int)),some (.str abc),some (.str base),p4,none,none,none] O = .nx [some (.int c),some (.int (N:Int)),some (.str abc),some (.str base),p4,some (.int (a:Int)),none,none] O from Qbg (by rw [←ha]; exact Qed (QjW rfl rfl (by decide)) rfl (by decide))),QaA (show Qar 6 _ [some (.int c),some (.int (N:Int)),some (.str abc),some (.str base),p4,some (.int (a:Int)),none,none] O = .nx [some (.int c),some (.int (N:Int)),some (.str abc),some (.str base),p4,some (.int (a:Int)),some (.lst []),none] O from rfl),QaA ((Qf7 (QfQ (n:=N) rfl (by omega))).trans e2)]
   rw [Qce];show Fl.rt _ O=_;rw [jd,Nat.zero_add]
   rfl)]
  rfl
def bPl:MS:=(Qak (Qar 8 (Qae Qav (mC (.int 1)) (Qae QaU (Qaq QaH (Qab (Qaa 1) (Qab (Qae Qav (mC (.int 14)) (Qae Qbz (mC (.int 6)) (Qaa 7))) Qag))) (mC (.int 2)))))
  (Qak (Qar 9 (Qae Qav (mC (.int 2)) (Qae QaU (Qaq QaH (Qab (Qaa 1) (Qab (Qae Qav (mC (.int 15)) (Qae Qbz (mC (.int 6)) (Qaa 7))) Qag))) (Qae gIx (Qb5 (Qab (mC (.int 5)) (Qab (mC (.int 20)) Qag))) (QaP Qe1 (Qab (Qc4 (Qaa 4)) Qag))))))
  (Qak (Qar 10 (Qae gIx (Qb5 (Qab (mC (.str [99,117,116])) (Qab (mC (.str [99,101,108,108,115])) (Qab (mC (.str [119,111,114,100,115])) (Qab (mC (.str [101,118,101,110])) Qag))))) (Qae QaU (Qaq QaH (Qab (Qaa 1) (Qab (Qae Qav (mC (.int 16)) (Qae Qbz (mC (.int 6)) (Qaa 7))) Qag))) (mC (.int 4)))))
  (Qak (Qar 11 (Qae QaU (Qaq QaH (Qab (Qaa 1) (Qab (Qae Qav (mC (.int 17)) (Qae Qbz (mC (.int 6)) (Qaa 7))) Qag))) (mC (.int 10))))
  (QbA (Qa4 (Qaa 4)) (Qak (Qc8 6 (Qc2 (Qab (Qae gIx (Qaa 3) (Qaa 7)) (Qab (Qaa 11) (Qab (Qaa 5) (Qab (Qaa 8) (Qab (Qaa 9) (Qab (Qaa 10) Qag))))))))
  (Qar 5 (Qae Qav (Qae Qav (Qaa 5) (Qaa 9)) (Qae Qbz (Qae QaU (Qaq QaH (Qab (Qaa 1) (Qab (Qae Qav (mC (.int 18)) (Qae Qbz (mC (.int 6)) (Qaa 7))) Qag))) (mC (.int 2))) (QaP Qe1 (Qab (Qae gLt (Qaa 7) (mC (.int 3))) Qag)))))) (Qak (Qc8 6 (Qc2 (Qab (Qae gIx (Qaa 3) (Qaa 7)) (Qab (Qaa 5) (Qab (Qaa 11) (Qab (Qaa 8) (Qab (Qaa 9) (Qab (Qaa 10) Qag))))))))
  (Qar 5 (Qae Qav (Qaa 5) (Qaa 8)))))))))
theorem QiC {hi wi:Int}{x:Rm} (g:GoodR hi wi x):∀(rs done:List Rm),Fit hi wi done rs→(done++rs).any (QcX x)=false→Fit hi wi done (rs ++ [x])
 | [],done,_,h=>⟨g,by simpa using h,trivial⟩
 | y::rs,done,hf,h=>by
  obtain ⟨a,b,c⟩:=hf;exact ⟨a,b,QiC g rs (done ++ [y]) c (by simpa using h)⟩
theorem QoE {hi wi hi' wi':Int}:∀(rs done:List Rm),Fit hi wi done rs→(∀r∈rs,r.t+r.h≤hi'∧r.l+r.b≤wi')→Fit hi' wi' done rs
 | [],_,_,_=>trivial
 | y::rs,done,hf,h=>by
  obtain ⟨a,b,c⟩:=hf;have hy:=h y zz;refine ⟨⟨a.n,a.w,a.le,?_⟩,b,QoE rs (done ++ [y]) c (fun r hr=>h r (zw _ hr))⟩;unfold Lies;rw [zl hy.1,zl hy.2];rfl
theorem Qmz {r:Rm} (n:NOk r.n) (w:WOk r.w) (h1:0≤r.t) (h2:0≤r.l) (h3:1≤r.h) (h4:2≤r.b) (h5:r.t+r.h≤12) (h6:r.l+r.b≤40):GoodR 12 40 r:=by
 refine ⟨n,w,?_,?_⟩
 ·unfold QdH;rw [zl h1,zl h2,zl h3,zl h4];rfl
 ·unfold Lies;rw [zl h5,zl h6];rfl
theorem Qt9 (v:Int):∃w,WOk w∧gIx (.lst [.str [99,117,116],.str [99,101,108,108,115],.str [119,111,114,100,115],.str [101,118,101,110]]) (.int (v % 4))=some (.str w):=by
 obtain ⟨d,hd,e⟩:=ixL (l:=[.str [99,117,116],.str [99,101,108,108,115],.str [119,111,114,100,115],.str [101,118,101,110]]) (v:=v) (n:=4) rfl (by decide);simp only [zm,List.not_mem_nil,or_false] at hd
 rcases hd with rfl | rfl | rfl | rfl
 ·exact ⟨_,.inl rfl,e⟩
 ·exact ⟨_,.inr (.inl rfl),e⟩
 ·exact ⟨_,.inr (.inr (.inl rfl)),e⟩
 ·exact ⟨_,.inr (.inr (.inr rfl)),e⟩
theorem Qli {c:Int}{ρ:Qai}{O:Qac}{j:Int}{k:Nat}{q:Int}{Q:L2.M D} (h2:ρ[1]? = some (some (.int c))) (h6:ρ[7]? = some (some (.int (k:Int)))) (hk:k≤100) (hj:0≤j∧j≤100) (hQ:Q ρ O = .ok (.int q) O) (hq:0 < q):Qae QaU (Qaq QaH (Qab (Qaa 1) (Qab (Qae Qav (mC (.int j)) (Qae Qbz (mC (.int 6)) (Qaa 7))) Qag))) Q ρ O = .ok (.int (mix c (j+6 * (k:Int)) % q)) O:=by
 have v2:Qaa 1 ρ O = .ok (.int c) O:=by rw [Qb4,h2]
 have v6:Qaa 7 ρ O = .ok (.int (k:Int)) O:=by rw [Qb4,h6]
 have em:Qae Qbz (mC (.int 6)) (Qaa 7) ρ O = .ok (.int (6 * (k:Int))) O:=Qbd rfl v6 (by
  rw [Qbc,Qbc]
  exact Qjp (.inl (by decide)))
 exact Qed ((Qbl (maS v2 (ma1 (Qdn rfl em)))).trans (QkB c _ (by omega) (by omega) O)) hQ hq
def LG (c:Int) (k:Nat):Int:=1+mix c (14+6 * (k:Int)) % 2
def qA:Bool→Int
 | true=>5
 | false=>20
def BR (c:Int) (A:Bool) (k:Nat):Int:=2+mix c (15+6 * (k:Int)) % qA A
def OF (c:Int) (k:Nat):Int:=mix c (17+6 * (k:Int)) % 10
def GP (c:Int) (k:Nat):Int:=mix c (18+6 * (k:Int)) % 2 * (if decide ((k:Int) < 3)=true then 1 else 0)
def Qfj (c:Int) (nm:Nat→List Nat) (A:Bool) (at_:Int) (k:Nat) (w:List Nat):Rm:=match A with
 | true=>⟨nm k,OF c k,at_,LG c k,BR c true k,w⟩
 | false=>⟨nm k,at_,OF c k,LG c k,BR c false k,w⟩
def QkR (c:Int) (A:Bool) (at_:Int) (k:Nat):Int:=match A with
 | true=>at_+BR c true k+GP c k
 | false=>at_+LG c k
abbrev pE (o0:Option D) (c:Int) (N:Nat) (nm:Nat→List Nat) (A:Bool) (at_:Int) (rs:List D) (o7 o8 o9 o10 o11:Option D):Qai :=
 [o0,some (.int c),some (.int (N:Int)),some (.lst ((List.range N).map fun k=>.str (nm k))),some (.bl A),some (.int at_),some (.lst rs),o7,o8,o9,o10,o11,none,none]
theorem QtO (A:Bool):0 < qA A:=by cases A <;> decide
section
variable {o0:Option D}{c:Int}{N:Nat}{nm:Nat→List Nat}{A:Bool}{at_:Int}{rs:List D}{k:Nat}{o8 o9 o10 o11:Option D}{O:Qac}{w:List Nat}
theorem Qvn:Qae gIx (Qb5 (Qab (mC (.int 5)) (Qab (mC (.int 20)) Qag))) (QaP Qe1 (Qab (Qc4 (Qaa 4)) Qag)) (pE o0 c N nm A at_ rs (some (.int (k:Int))) o8 o9 o10 o11) O = .ok (.int (qA A)) O:=by
 cases A <;> rfl
theorem p8 (hk:k≤100):Qar 8 (Qae Qav (mC (.int 1)) (Qae QaU (Qaq QaH (Qab (Qaa 1) (Qab (Qae Qav (mC (.int 14)) (Qae Qbz (mC (.int 6)) (Qaa 7))) Qag))) (mC (.int 2)))) (pE o0 c N nm A at_ rs (some (.int (k:Int))) o8 o9 o10 o11) O = .nx (pE o0 c N nm A at_ rs (some (.int (k:Int))) (some (.int (LG c k))) o9 o10 o11) O :=
 Qbg (Qdn (a:=mC (.int 1)) rfl (Qli (j:=14) rfl rfl hk (by decide) rfl (by decide)))
theorem p9 (hk:k≤100):Qar 9 (Qae Qav (mC (.int 2)) (Qae QaU (Qaq QaH (Qab (Qaa 1) (Qab (Qae Qav (mC (.int 15)) (Qae Qbz (mC (.int 6)) (Qaa 7))) Qag))) (Qae gIx (Qb5 (Qab (mC (.int 5)) (Qab (mC (.int 20)) Qag))) (QaP Qe1 (Qab (Qc4 (Qaa 4)) Qag))))) (pE o0 c N nm A at_ rs (some (.int (k:Int))) o8 o9 o10 o11) O = .nx (pE o0 c N nm A at_ rs (some (.int (k:Int))) o8 (some (.int (BR c A k))) o10 o11) O :=
 Qbg (Qdn (a:=mC (.int 2)) rfl (Qli (j:=15) rfl rfl hk (by decide) Qvn (QtO A)))
theorem p10 (hk:k≤100) (ew:gIx (.lst [.str [99,117,116],.str [99,101,108,108,115],.str [119,111,114,100,115],.str [101,118,101,110]]) (.int (mix c (16+6 * (k:Int)) % 4))=some (.str w)):Qar 10 (Qae gIx (Qb5 (Qab (mC (.str [99,117,116])) (Qab (mC (.str [99,101,108,108,115])) (Qab (mC (.str [119,111,114,100,115])) (Qab (mC (.str [101,118,101,110])) Qag))))) (Qae QaU (Qaq QaH (Qab (Qaa 1) (Qab (Qae Qav (mC (.int 16)) (Qae Qbz (mC (.int 6)) (Qaa 7))) Qag))) (mC (.int 4)))) (pE o0 c N nm A at_ rs (some (.int (k:Int))) o8 o9 o10 o11) O = .nx (pE o0 c N nm A at_ rs (some (.int (k:Int))) o8 o9 (some (.str w)) o11) O :=
 Qbg (Qbd (x:=.lst [.str [99,117,116],.str [99,101,108,108,115],.str [119,111,114,100,115],.str [101,118,101,110]]) rfl (Qli (j:=16) rfl rfl hk (by decide) rfl (by decide)) ew)
theorem p11 (hk:k≤100):Qar 11 (Qae QaU (Qaq QaH (Qab (Qaa 1) (Qab (Qae Qav (mC (.int 17)) (Qae Qbz (mC (.int 6)) (Qaa 7))) Qag))) (mC (.int 10))) (pE o0 c N nm A at_ rs (some (.int (k:Int))) o8 o9 o10 o11) O = .nx (pE o0 c N nm A at_ rs (some (.int (k:Int))) o8 o9 o10 (some (.int (OF c k)))) O :=
 Qbg (Qli (j:=17) rfl rfl hk (by decide) rfl (by decide))
theorem Qq9 {i:Int}{b:Bool}:Qbz (.int i) (.int (if b=true then 1 else 0))=some (.int (i * (if b=true then 1 else 0))):=Qjp (.inr (by cases b <;> decide))
theorem QvD (hk:k≤100):Qae Qbz (Qae QaU (Qaq QaH (Qab (Qaa 1) (Qab (Qae Qav (mC (.int 18)) (Qae Qbz (mC (.int 6)) (Qaa 7))) Qag))) (mC (.int 2))) (QaP Qe1 (Qab (Qae gLt (Qaa 7) (mC (.int 3))) Qag)) (pE o0 c N nm A at_ rs (some (.int (k:Int))) o8 o9 o10 o11) O = .ok (.int (GP c k)) O :=
 Qbd (x:=.int (mix c (18+6 * (k:Int)) % 2)) (y:=.int (if decide ((k:Int) < 3)=true then 1 else 0)) (Qli (j:=18) rfl rfl hk (by decide) rfl (by decide)) (QcR (xs:=[.bl (decide ((k:Int) < 3))]) (ma1 (Qbd (x:=.int (k:Int)) (y:=.int 3) rfl rfl rfl)) rfl) Qq9
theorem QvX (hk:k < N):gIx (.lst ((List.range N).map fun k=>.str (nm k))) (.int (k:Int))=some (.str (nm k)):=by
 rw [QnA,Qf5,zG,List.getElem?_range hk];rfl
theorem Qrs (hk:k < N) (hN:N≤6) (hl:rs.length≤6) (ew:gIx (.lst [.str [99,117,116],.str [99,101,108,108,115],.str [119,111,114,100,115],.str [101,118,101,110]]) (.int (mix c (16+6 * (k:Int)) % 4))=some (.str w)) :
  bPl (pE o0 c N nm A at_ rs (some (.int (k:Int))) o8 o9 o10 o11) O = .nx (pE o0 c N nm A (QkR c A at_ k) (rs ++ [rD (Qfj c nm A at_ k w)]) (some (.int (k:Int))) (some (.int (LG c k))) (some (.int (BR c A k))) (some (.str w)) (some (.int (OF c k)))) O:=by
 have hk':k≤100:=by omega
 have i0:=QvX (nm:=nm) hk;unfold bPl;rw [QaA (p8 hk'),QaA (p9 hk'),QaA (p10 hk' ew),QaA (p11 hk')];cases A
 ·rw [if_no rfl];have ap:=Qi1 (i:=6) (ds:=rs) (d:=rD (Qfj c nm false at_ k w)) (m:=Qc2 (Qab (Qae gIx (Qaa 3) (Qaa 7)) (Qab (Qaa 5) (Qab (Qaa 11) (Qab (Qaa 8) (Qab (Qaa 9) (Qab (Qaa 10) Qag))))))) (ρ:=pE o0 c N nm false at_ rs (some (.int (k:Int))) (some (.int (LG c k))) (some (.int (BR c false k))) (some (.str w)) (some (.int (OF c k)))) (O:=O)
   (Qnl (maS (Qbd (x:=.lst ((List.range N).map fun k=>.str (nm k))) (y:=.int (k:Int)) rfl rfl i0) rfl) (show (6:Nat)≤1000000 by decide)) rfl (by omega)
  rw [QaA ap];exact Qbg (Qdn (i:=at_) (j:=LG c k) rfl rfl)
 ·rw [Qs1 rfl];have ap:=Qi1 (i:=6) (ds:=rs) (d:=rD (Qfj c nm true at_ k w)) (m:=Qc2 (Qab (Qae gIx (Qaa 3) (Qaa 7)) (Qab (Qaa 11) (Qab (Qaa 5) (Qab (Qaa 8) (Qab (Qaa 9) (Qab (Qaa 10) Qag))))))) (ρ:=pE o0 c N nm true at_ rs (some (.int (k:Int))) (some (.int (LG c k))) (some (.int (BR c true k))) (some (.str w)) (some (.int (OF c k)))) (O:=O)
   (Qnl (maS (Qbd (x:=.lst ((List.range N).map fun k=>.str (nm k))) (y:=.int (k:Int)) rfl rfl i0) rfl) (show (6:Nat)≤1000000 by decide)) rfl (by omega)
  rw [QaA ap];have g:=QvD (o0:=o0) (c:=c) (N:=N) (nm:=nm) (A:=true) (at_:=at_) (rs:=rs ++ [rD (Qfj c nm true at_ k w)]) (k:=k) (o8:=some (.int (LG c k))) (o9:=some (.int (BR c true k))) (o10:=some (.str w)) (o11:=some (.int (OF c k))) (O:=O) hk';exact Qbg (Qdn (i:=at_+BR c true k) (j:=GP c k) (Qdn (i:=at_) (j:=BR c true k) rfl rfl) g)
end
structure PlI (nm:Nat→List Nat) (A:Bool) (k:Nat) (at_:Int) (rs:List Rm):Prop where
 at0:0≤at_
 atA:A=true→at_≤1+7 * k∧at_≤4+6 * k
 atB:A=false→at_≤2 * k
 len:rs.length=k
 ok:∀r∈rs,0≤r.t∧0≤r.l∧1≤r.h∧2≤r.b∧r.t+r.h≤12∧r.l+r.b≤40∧(A=true→r.l+r.b≤at_)∧(A=false→r.t+r.h≤at_)∧∃j,j < k∧r.n=nm j
 fit:Fit 12 40 [] rs
theorem QuL (c:Int) (k:Nat):1≤LG c k∧LG c k≤2:=by unfold LG; omega
theorem Qwj (c:Int) (k:Nat):2≤BR c true k∧BR c true k≤6:=by unfold BR; rw [show qA true=5 from rfl]; omega
theorem Qwr (c:Int) (k:Nat):2≤BR c false k∧BR c false k≤21:=by unfold BR; rw [show qA false=20 from rfl]; omega
theorem Qu1 (c:Int) (k:Nat):0≤OF c k∧OF c k≤9:=by unfold OF; omega
theorem Qvx (c:Int) (k:Nat):0≤GP c k∧GP c k≤1∧(3≤k→GP c k=0):=by
 unfold GP
 by_cases h:(k:Int) < 3
 ·rw [zl h,if_pos rfl];omega
 ·rw [zn h,if_neg zj];omega
theorem PlI.step {nm:Nat→List Nat}{A:Bool}{k:Nat}{at_:Int}{rs:List Rm} (I:PlI nm A k at_ rs) (hk:k < 6) (hn:Nms nm) (c:Int) {w:List Nat} (hw:WOk w):PlI nm A (k+1) (QkR c A at_ k) (rs ++ [Qfj c nm A at_ k w]):=by
 have h1:=QuL c k;have h2:=Qwj c k;have h3:=Qwr c k;have h4:=Qu1 c k;have h5:=Qvx c k;have h0:=I.at0;cases A
 ·have hb:=I.atB rfl;have nx:QkR c false at_ k=at_+LG c k:=rfl;have gx:GoodR 12 40 (Qfj c nm false at_ k w):=Qmz (r:=⟨nm k,at_,OF c k,LG c k,BR c false k,w⟩) (hn.ok k (by omega)) hw h0 h4.1 h1.1 h3.1 (by dsimp only; omega) (by dsimp only; omega)
  have cx:rs.any (QcX (Qfj c nm false at_ k w))=false:=by
   rw [List.any_eq_false];intro y hy z;obtain ⟨_,_,_,_,_,_,_,q,j,hj,ey⟩:=I.ok y hy;have q:=q rfl;have d1:decide (nm k=y.n)=false:=zn (fun e=>hn.ne j k hj (by omega) (by rw [←ey]; exact e.symm));have d2:decide (at_ < y.t+y.h)=false:=zn (by omega);have z':(decide (nm k=y.n) || ((decide (at_ < y.t+y.h)&&decide (y.t < at_+LG c k))&&Ov (OF c k) (BR c false k) y.l y.b))=true:=z;rw [d1,d2] at z';simp at z'
  refine ⟨by rw [nx]; omega,fun e=>Bool.noConfusion e,fun _=>by rw [nx]; push_cast; omega,by simp [I.len],fun r hr=>?_,QiC gx rs [] I.fit (by simpa using cx)⟩;rw [nx]
  rcases zC.mp hr with hr | hr
  ·obtain ⟨a1,a2,a3,a4,a5,a6,a7,a8,j,a9,a10⟩:=I.ok r hr;have a8:=a8 rfl;exact ⟨a1,a2,a3,a4,a5,a6,(fun e=>Bool.noConfusion e),(fun _=>by omega),j,by omega,a10⟩
  ·rw [zv.mp hr];show 0≤at_∧0≤OF c k∧1≤LG c k∧2≤BR c false k∧at_+LG c k≤12∧OF c k+BR c false k≤40∧(false=true→OF c k+BR c false k≤at_+LG c k)∧(false=false→at_+LG c k≤at_+LG c k)∧∃j,j < k+1∧nm k=nm j;exact ⟨h0,h4.1,h1.1,h3.1,by omega,by omega,(fun e=>Bool.noConfusion e),(fun _=>by omega),k,by omega,rfl⟩
 ·have hb:=I.atA rfl;have nx:QkR c true at_ k=at_+BR c true k+GP c k:=rfl;have gx:GoodR 12 40 (Qfj c nm true at_ k w):=Qmz (r:=⟨nm k,OF c k,at_,LG c k,BR c true k,w⟩) (hn.ok k (by omega)) hw h4.1 h0 h1.1 h2.1 (by dsimp only; omega) (by dsimp only; omega)
  have cx:rs.any (QcX (Qfj c nm true at_ k w))=false:=by
   rw [List.any_eq_false];intro y hy z;obtain ⟨_,_,_,_,_,_,q,_,j,hj,ey⟩:=I.ok y hy;have q:=q rfl;have d1:decide (nm k=y.n)=false:=zn (fun e=>hn.ne j k hj (by omega) (by rw [←ey]; exact e.symm));have d2:decide (at_ < y.l+y.b)=false:=zn (by omega);have z':(decide (nm k=y.n) || (Ov (OF c k) (LG c k) y.t y.h&&(decide (at_ < y.l+y.b)&&decide (y.l < at_+BR c true k))))=true:=z;rw [d1,d2] at z';simp at z'
  refine ⟨by rw [nx]; omega,fun _=>by rw [nx]; push_cast; omega,fun e=>Bool.noConfusion e,by simp [I.len],fun r hr=>?_,QiC gx rs [] I.fit (by simpa using cx)⟩;rw [nx]
  rcases zC.mp hr with hr | hr
  ·obtain ⟨a1,a2,a3,a4,a5,a6,a7,a8,j,a9,a10⟩:=I.ok r hr;have a7:=a7 rfl;exact ⟨a1,a2,a3,a4,a5,a6,(fun _=>by omega),(fun e=>Bool.noConfusion e),j,by omega,a10⟩
  ·rw [zv.mp hr];show 0≤OF c k∧0≤at_∧1≤LG c k∧2≤BR c true k∧OF c k+LG c k≤12∧at_+BR c true k≤40∧(true=true→at_+BR c true k≤at_+BR c true k+GP c k)∧(true=false→OF c k+LG c k≤at_+BR c true k+GP c k)∧∃j,j < k+1∧nm k=nm j;exact ⟨h4.1,h0,h1.1,h2.1,by omega,by omega,(fun _=>by omega),(fun e=>Bool.noConfusion e),k,by omega,rfl⟩
theorem Qmy (o0:Option D) (c:Int) {N:Nat} (hN:N≤6) {nm:Nat→List Nat} (hn:Nms nm) (A:Bool) (O:Qac):∀(m k:Nat) (rs:List Rm) (at_:Int) (o7 o8 o9 o10 o11:Option D),k+m=N→PlI nm A k at_ rs →
  ∃rs' at' p7 p8 p9 p10 p11,Qa9 (mgN 7) bPl (Qbs (k:Int) m) (pE o0 c N nm A at_ (rs.map rD) o7 o8 o9 o10 o11) O = .nx (pE o0 c N nm A at' (rs'.map rD) p7 p8 p9 p10 p11) O∧PlI nm A N at' rs'
 | 0,k,rs,at_,o7,o8,o9,o10,o11,hk,I=>⟨rs,at_,o7,o8,o9,o10,o11,rfl,by rw [show N=k by omega]; exact I⟩
 | m+1,k,rs,at_,o7,o8,o9,o10,o11,hk,I=>by
  obtain ⟨w,hw,ew⟩:=Qt9 (mix c (16+6 * (k:Int)));have hl:=I.len;have e:=Qrs (o0:=o0) (c:=c) (N:=N) (nm:=nm) (A:=A) (at_:=at_) (rs:=rs.map rD) (k:=k) (o8:=o8) (o9:=o9) (o10:=o10) (o11:=o11) (O:=O) (w:=w) (by omega) hN (by rw [zp]; omega) ew;rw [show rs.map rD ++ [rD (Qfj c nm A at_ k w)]=(rs ++ [Qfj c nm A at_ k w]).map rD by rw [zM]; rfl] at e;obtain ⟨rs',at',p7,p8,p9,p10,p11,e2,f⟩:=Qmy o0 c hN hn A O m (k+1) (rs ++ [Qfj c nm A at_ k w]) (QkR c A at_ k) (some (.int (k:Int))) (some (.int (LG c k))) (some (.int (BR c A k))) (some (.str w)) (some (.int (OF c k))) (by omega) (I.step (by omega) hn c hw)
  refine ⟨rs',at',p7,p8,p9,p10,p11,?_,f⟩;rw [QdO,Qb1 (ρ1:=pE o0 c N nm A at_ (rs.map rD) (some (.int (k:Int))) o8 o9 o10 o11) rfl e];exact e2
theorem Qo0:∀ns:List Int,ns≠[]→∃M,M∈ns∧∀a,a∈ns→a≤M
 | [],h=>(h rfl).elim
 | [n],_=>⟨n,zv.mpr rfl,fun a ha=>by rw [zv.mp ha]; omega⟩
 | n::m::ns,_=>by
  obtain ⟨M,h1,h2⟩:=Qo0 (m::ns) (by simp)
  by_cases h:M≤n
  ·refine ⟨n,zz,fun a ha=>?_⟩
   rcases zm.mp ha with rfl | ha
   ·omega
   ·have:=h2 a ha
    omega
  ·refine ⟨M,zw _ h1,fun a ha=>?_⟩
   rcases zm.mp ha with rfl | ha
   ·omega
   ·exact h2 a ha
theorem Qkh {α:Type} (f:α→Int):∀l:List α,Qgb (l.map fun x=>.int (f x))=some (l.map f)
 | []=>rfl
 | x::l=>by
  show (Qgb (l.map fun x=>D.int (f x))).map _=_;rw [Qkh f l];rfl
theorem QuD {rs:List Rm} (f:Rm→Int) (hne:rs≠[]) (hl:rs.length≤6) {m:L2.M D}{ρ:Qai}{O:Qac} (h6:ρ[6]? = some (some (.lst (rs.map rD)))) (hm:∀r,m [some (rD r)] O = .ok (.int (f r)) O):∃M:Int,QaP QgL (Qab (QbC (Qbj (Qaa 6)) 1 [] (mgN 0) QbL m) Qag) ρ O = .ok (.int M) O∧(∃r∈rs,M=f r)∧∀r∈rs,f r≤M:=by
 obtain ⟨M,h1,h2⟩:=Qo0 (rs.map f) (by simpa using hne);refine ⟨M,?_,?_,fun r hr=>h2 _ (zQ.mpr ⟨r,hr,rfl⟩)⟩
 ·have z:=Qdm (g:=mgN 0) (t:=QbL) (m:=m) (fun ρ=>∃a,ρ = [a]) rD (fun r=>.int (f r)) rs [none] O [] ⟨none,rfl⟩ (by
   rintro y hy ρ ⟨a,rfl⟩
   exact ⟨_,rfl,⟨_,rfl⟩,rfl,hm y⟩)
  rw [zX] at z
  have ec:QbC (Qbj (Qaa 6)) 1 [] (mgN 0) QbL m ρ O = .ok (.lst (rs.map fun r=>.int (f r))) O:=by
   rw [QfD,Qly,Qb4,h6];show (if (rs.map rD).length≤1000000 then _ else _)=_;rw [if_pos (by rw [zp]; omega),show QdQ 1 [] ρ = [none] from rfl,z,Qam]
  refine QcR (xs:=[.lst (rs.map fun r=>.int (f r))]) (ma1 ec) ?_;show QgL [.lst (rs.map fun r=>.int (f r))]=_;unfold QgL;dsimp only;rw [Qkh];dsimp only;rw [QjE h1 h2];rfl
 ·obtain ⟨r,hr,e⟩:=zQ.mp h1;exact ⟨r,hr,e.symm⟩
theorem Qtq (ns:List Int) (O:Qac):∃(hi wi:Int) (rs:List Rm),Qg7 [.lst (ns.map D.int)] O = .ok (.tup [.int hi,.int wi,.lst (rs.map rD)]) O∧(1≤hi∧hi≤12)∧(2≤wi∧wi≤40)∧rs≠[]∧rs.length≤6∧Fit hi wi [] rs:=by
 have e0:QbF [.lst (ns.map D.int),.int 0] O = .ok (.int (ns.getD 0 0)) O:=Qlv ns 0 O;have e1:QbF [.lst (ns.map D.int),.int 1] O = .ok (.int (ns.getD 1 0)) O:=Qlv ns 1 O
 generalize ns.getD 0 0=c at e0
 generalize ns.getD 1 0=c1 at e1
 obtain ⟨N,hN⟩:∃N:Nat,1+mix c 9 % 6=(N:Int):=⟨(1+mix c 9 % 6).toNat,by omega⟩
 have hN1:1≤N∧N≤6:=by omega
 obtain ⟨nm,hn,en⟩:=Qvs (N:=N) (by omega) c1 O;obtain ⟨A,hA⟩:∃A:Bool,decide (mix c 10 % 2=0)=A:=⟨_,rfl⟩
 have I0:PlI nm A 0 (mix c 11 % 2 * (if A=true then 1 else 0)) []:=by
  cases A
  ·rw [if_neg zj,Int.mul_zero];exact ⟨by omega,fun e=>Bool.noConfusion e,fun _=>by omega,rfl,fun r hr=>(nomatch hr),trivial⟩
  ·rw [if_pos rfl];exact ⟨by omega,fun _=>by omega,fun e=>Bool.noConfusion e,rfl,fun r hr=>(nomatch hr),trivial⟩
 obtain ⟨rs,at',p7,p8,p9,p10,p11,e2,I⟩:=Qmy (some (.lst (ns.map D.int))) c hN1.2 hn A O N 0 [] _ none none none none none (by omega) I0
 have hne:rs≠[]:=fun z=>by have:=I.len; rw [z] at this; simp at this; omega
 have hl6:rs.length≤6:=by rw [I.len]; exact hN1.2
 obtain ⟨M,m1,⟨r1,hr1,q1⟩,m2⟩:=QuD (O:=O) (ρ:=pE (some (.lst (ns.map D.int))) c N nm A at' (rs.map rD) p7 p8 p9 p10 p11) (m:=Qae Qav (Qae gIx (Qaa 0) (mC (.int 1))) (Qae gIx (Qaa 0) (mC (.int 3)))) (fun r=>r.t+r.h) hne hl6 rfl (fun r=>rfl);obtain ⟨W,w1,⟨r2,hr2,q2⟩,w2⟩:=QuD (O:=O) (ρ:=[some (.lst (ns.map D.int)),some (.int c),some (.int (N:Int)),some (.lst ((List.range N).map fun k=>.str (nm k))),some (.bl A),some (.int at'),some (.lst (rs.map rD)),p7,p8,p9,p10,p11,some (.int M),none]) (m:=Qae Qav (Qae gIx (Qaa 0) (mC (.int 2))) (Qae gIx (Qaa 0) (mC (.int 4)))) (fun r=>r.l+r.b) hne hl6 rfl (fun r=>rfl)
 have o1:=I.ok r1 hr1;have o2:=I.ok r2 hr2
 have hM:1≤M∧M≤12:=by omega
 have hW:2≤W∧W≤40:=by omega
 obtain ⟨hi,hhi⟩:∃hi:Int,(if M+mix c 12 % 2 < 12 then M+mix c 12 % 2 else 12)=hi:=⟨_,rfl⟩;obtain ⟨wi,hwi⟩:∃wi:Int,(if W+mix c 13 % 2 < 40 then W+mix c 13 % 2 else 40)=wi:=⟨_,rfl⟩
 have bh:M≤hi∧hi≤12:=by split at hhi <;> omega
 have bw:W≤wi∧wi≤40:=by split at hwi <;> omega
 refine ⟨hi,wi,rs,?_,by omega,by omega,hne,hl6,QoE rs [] I.fit (fun r hr=>⟨by have:=m2 r hr; omega,by have:=w2 r hr; omega⟩)⟩
 have mx:∀(j:Int) (ρ:Qai),0≤j→j≤1000000→ρ[1]? = some (some (.int c))→∀q:Int,0 < q→Qae QaU (Qaq QaH (Qab (Qaa 1) (Qab (mC (.int j)) Qag))) (mC (.int q)) ρ O = .ok (.int (mix c j % q)) O:=fun j ρ h0 h1 h q hq=>by
  have v:Qaa 1 ρ O = .ok (.int c) O:=by rw [Qb4,h]
  exact Qed ((Qbl (maS v (ma1 rfl))).trans (QkB c j h0 h1 O)) rfl hq
 rw [zY] at e2;show Qbe (Qfo [some (.lst (ns.map D.int)),none,none,none,none,none,none,none,none,none,none,none,none,none] O)=_;unfold Qfo
 rw [QaA (show Qar 1 _ [some (.lst (ns.map D.int)),none,none,none,none,none,none,none,none,none,none,none,none,none] O = .nx [some (.lst (ns.map D.int)),some (.int c),none,none,none,none,none,none,none,none,none,none,none,none] O from Qbg ((Qbl (ds:=[.lst (ns.map D.int),.int 0]) rfl).trans e0)),
  QaA (show Qar 2 _ [some (.lst (ns.map D.int)),some (.int c),none,none,none,none,none,none,none,none,none,none,none,none] O = .nx [some (.lst (ns.map D.int)),some (.int c),some (.int (N:Int)),none,none,none,none,none,none,none,none,none,none,none] O from Qbg (by rw [←hN]; exact Qdn rfl (mx 9 _ (by decide) (by decide) rfl 6 (by decide)))),
  QaA (show Qar 3 _ [some (.lst (ns.map D.int)),some (.int c),some (.int (N:Int)),none,none,none,none,none,none,none,none,none,none,none] O = .nx [some (.lst (ns.map D.int)),some (.int c),some (.int (N:Int)),some (.lst ((List.range N).map fun k=>.str (nm k))),none,none,none,none,none,none,none,none,none,none] O from Qbg ((Qbl (ds:=[.int c1,.int (N:Int)]) (maS ((Qbl (ds:=[.lst (ns.map D.int),.int 1]) rfl).trans e1) rfl)).trans en)),
  QaA (show Qar 4 _ [some (.lst (ns.map D.int)),some (.int c),some (.int (N:Int)),some (.lst ((List.range N).map fun k=>.str (nm k))),none,none,none,none,none,none,none,none,none,none] O = .nx [some (.lst (ns.map D.int)),some (.int c),some (.int (N:Int)),some (.lst ((List.range N).map fun k=>.str (nm k))),some (.bl A),none,none,none,none,none,none,none,none,none] O from Qbg (by rw [←hA]; exact Qbd (mx 10 _ (by decide) (by decide) rfl 2 (by decide)) rfl rfl)),
  QaA (show Qar 5 _ [some (.lst (ns.map D.int)),some (.int c),some (.int (N:Int)),some (.lst ((List.range N).map fun k=>.str (nm k))),some (.bl A),none,none,none,none,none,none,none,none,none] O = .nx [some (.lst (ns.map D.int)),some (.int c),some (.int (N:Int)),some (.lst ((List.range N).map fun k=>.str (nm k))),some (.bl A),some (.int (mix c 11 % 2 * (if A=true then 1 else 0))),none,none,none,none,none,none,none,none] O from Qbg (Qbd (x:=.int (mix c 11 % 2)) (y:=.int (if A=true then 1 else 0)) (mx 11 _ (by decide) (by decide) rfl 2 (by decide)) (QcR (xs:=[.bl A]) (ma1 rfl) rfl) Qq9)),
  QaA (show Qar 6 _ [some (.lst (ns.map D.int)),some (.int c),some (.int (N:Int)),some (.lst ((List.range N).map fun k=>.str (nm k))),some (.bl A),some (.int (mix c 11 % 2 * (if A=true then 1 else 0))),none,none,none,none,none,none,none,none] O = .nx (pE (some (.lst (ns.map D.int))) c N nm A (mix c 11 % 2 * (if A=true then 1 else 0)) [] none none none none none) O from rfl)]
 show Qbe (Qak (QbB _ (mgN 7) bPl) _ _ _)=_;rw [QaA ((Qf7 (QfQ (n:=N) rfl (by omega))).trans e2)];rw [QaA (show Qar 12 _ (pE (some (.lst (ns.map D.int))) c N nm A at' (rs.map rD) p7 p8 p9 p10 p11) O = .nx [some (.lst (ns.map D.int)),some (.int c),some (.int (N:Int)),some (.lst ((List.range N).map fun k=>.str (nm k))),some (.bl A),some (.int at'),some (.lst (rs.map rD)),p7,p8,p9,p10,p11,some (.int M),none] O from Qbg m1)];rw [QaA (show Qar 13 _ [some (.lst (ns.map D.int)),some (.int c),some (.int (N:Int)),some (.lst ((List.range N).map fun k=>.str (nm k))),some (.bl A),some (.int at'),some (.lst (rs.map rD)),p7,p8,p9,p10,p11,some (.int M),none] O = .nx [some (.lst (ns.map D.int)),some (.int c),some (.int (N:Int)),some (.lst ((List.range N).map fun k=>.str (nm k))),some (.bl A),some (.int at'),some (.lst (rs.map rD)),p7,p8,p9,p10,p11,some (.int M),some (.int W)] O from Qbg w1)]
 have z1:QaP Qix (Qab (mC (.int 12)) (Qab (Qae Qav (Qaa 12) (Qae QaU (Qaq QaH (Qab (Qaa 1) (Qab (mC (.int 12)) Qag))) (mC (.int 2)))) Qag)) [some (.lst (ns.map D.int)),some (.int c),some (.int (N:Int)),some (.lst ((List.range N).map fun k=>.str (nm k))),some (.bl A),some (.int at'),some (.lst (rs.map rD)),p7,p8,p9,p10,p11,some (.int M),some (.int W)] O = .ok (.int hi) O:=by
  rw [←hhi];exact QcR (xs:=[.int 12,.int (M+mix c 12 % 2)]) (maS rfl (ma1 (Qdn (i:=M) rfl (mx 12 _ (by decide) (by decide) rfl 2 (by decide))))) rfl
 have z2:QaP Qix (Qab (mC (.int 40)) (Qab (Qae Qav (Qaa 13) (Qae QaU (Qaq QaH (Qab (Qaa 1) (Qab (mC (.int 13)) Qag))) (mC (.int 2)))) Qag)) [some (.lst (ns.map D.int)),some (.int c),some (.int (N:Int)),some (.lst ((List.range N).map fun k=>.str (nm k))),some (.bl A),some (.int at'),some (.lst (rs.map rD)),p7,p8,p9,p10,p11,some (.int M),some (.int W)] O = .ok (.int wi) O:=by
  rw [←hwi];exact QcR (xs:=[.int 40,.int (W+mix c 13 % 2)]) (maS rfl (ma1 (Qdn (i:=W) rfl (mx 13 _ (by decide) (by decide) rfl 2 (by decide))))) rfl
 rw [QuQ,Qce,Qnl (maS z1 (maS z2 (ma1 (x:=.lst (rs.map rD)) rfl))) (show (3:Nat)≤1000000 by decide),Qdp,Qug];rfl
def bRa:MS:=(Qak (msN (QbA (Qa4 (Qaq Qd5 (Qab (Qaa 3) (Qab (Qaa 1) (Qab (Qaa 2) Qag))))) (QaC (Qae gIx (Qaa 3) (mC (.int 0)))) QaD))
  QaD)
def bCo:MS:=(QbA (Qib (QaQ (QbO gLe gLt (Qaa 4) (Qaa 1) (Qae Qav (Qaa 4) (Qaa 6)))) (QaQ (QbO gLe gLt (Qaa 5) (Qaa 2) (Qae Qav (Qaa 5) (Qaa 7))))) (QaC (Qaa 3)) QaD)
def gCo:MG:=(QhY 6 (Qbi (mgN 3) (Qbi (mgN 4) (Qbi (mgN 5) (Qbi (mgN 6) (Qbi (mgN 7) (Qbi (mgN 8) QfG)))))))
def bTo:MS:=(Qak (Qar 7 (Qct "Plan" "room_of" Qbv (Qaa 0) (Qab (Qae gIx (Qaa 6) (mC (.int 0))) Qag)))
  (QbA (QbN (Qa1 (Qa4 (QcS "tuple" (Qaa 7)))) (QaQ (Qae gNe (Qaa 7) (Qaa 6)))) (QaC (mC (.bl false))) QaD))
structure PS (O:Qac) (n m:Nat) (hi wi:Int) (rs:List Rm):Prop where
 p:O[n]? = some (plO hi wi m)
 d:dkAt O m=some (kvsOf rs)
theorem Qha {O:Qac}{m:Nat}{kvs:List (Key×D)} (h:O[m]? = some (.dk kvs)):dkAt O m=some kvs:=by unfold dkAt; rw [h]
theorem Qq2 {O:Qac}{m:Nat}{kvs:List (Key×D)} (h:O[m]? = some (.kf kvs)):dkAt O m=some kvs:=by unfold dkAt; rw [h]
theorem Qom {O:Qac}{m:Nat}{kvs:List (Key×D)} (h:dkAt O m=some kvs):O[m]? = some (.dk kvs)∨O[m]? = some (.kf kvs):=by
 unfold dkAt at h;split at h
 ·rename_i e; cases h; exact .inl e
 ·rename_i e; cases h; exact .inr e
 ·cases h
theorem PS.ne {O:Qac}{n m:Nat}{hi wi:Int}{rs:List Rm} (s:PS O n m hi wi rs):n≠m:=by
 rintro rfl;have h:=s.d;unfold dkAt at h;rw [s.p] at h;unfold plO at h;cases h
theorem PS.ap {O:Qac}{n m:Nat}{hi wi:Int}{rs:List Rm} (s:PS O n m hi wi rs) (y:Ob):PS (O ++ [y]) n m hi wi rs:=by
 refine ⟨ap1 s.p,?_⟩
 rcases Qom s.d with h | h
 ·exact Qha (ap1 h)
 ·exact Qq2 (ap1 h)
def has (r:Rm) (y x:Int):Bool:=(decide (r.t≤y)&&decide (y < r.t+r.h))&&(decide (r.l≤x)&&decide (x < r.l+r.b))
theorem QgH {a b c:L2.M D}{ρ:Qai}{O:Qac}{i j k:Int} (ha:a ρ O = .ok (.int i) O) (hb:b ρ O = .ok (.int j) O) (hc:c ρ O = .ok (.int k) O):QbO gLe gLt a b c ρ O = .ok (.bl (decide (i≤j)&&decide (j < k))) O:=by
 rw [QmS,ha,Qam,hb,Qam,Qbc,Qbc,Qm8,QqT];cases decide (i≤j)
 ·rfl
 ·rw [if_pos rfl,hc,Qam,Qbc,Qbc];rfl
theorem QeA {a b:L2.M D}{ρ:Qai}{O:Qac}{p q:Bool} (ha:a ρ O = .ok (.bl p) O) (hb:b ρ O = .ok (.bl q) O):Qa7 a b ρ O = .ok (.bl (p&&q)) O:=by
 rw [Qd9,ha,Qam];cases p
 ·rfl
 ·exact hb
theorem Qu2 (r:Rm) (y x:Int) (O:Qac):Qd5 [rD r,.int y,.int x] O = .ok (.bl (has r y x)) O:=by
 show Qbe (Qfs [some (rD r),some (.int y),some (.int x)] O)=_;unfold Qfs;have c1:=QgH (a:=Qae gIx (Qaa 0) (mC (.int 1))) (b:=Qaa 1) (c:=Qae Qav (Qae gIx (Qaa 0) (mC (.int 1))) (Qae gIx (Qaa 0) (mC (.int 3)))) (ρ:=[some (rD r),some (.int y),some (.int x)]) (O:=O) (i:=r.t) (j:=y) (k:=r.t+r.h) rfl rfl rfl;have c2:=QgH (a:=Qae gIx (Qaa 0) (mC (.int 2))) (b:=Qaa 2) (c:=Qae Qav (Qae gIx (Qaa 0) (mC (.int 2))) (Qae gIx (Qaa 0) (mC (.int 4)))) (ρ:=[some (rD r),some (.int y),some (.int x)]) (O:=O) (i:=r.l) (j:=x) (k:=r.l+r.b) rfl rfl rfl;rw [Qce,QeA c1 c2,Qdp];rfl
def cellAt:List Rm→Int→Int→D
 | [],_,_=>.non
 | r::rs,y,x=>if has r y x=true then .str r.n else cellAt rs y x
theorem Qmu (o0:Option D) (y x:Int) (O:Qac):∀(rs:List Rm) (o3 o4 o5 o6 o7 o8:Option D),
  (∃ρ',Qa9 gCo bCo (rs.map rD) [o0,some (.int y),some (.int x),o3,o4,o5,o6,o7,o8] O = .nx ρ' O∧cellAt rs y x = .non)∨Qa9 gCo bCo (rs.map rD) [o0,some (.int y),some (.int x),o3,o4,o5,o6,o7,o8] O = .rt (cellAt rs y x) O
 | [],o3,o4,o5,o6,o7,o8=>.inl ⟨_,rfl,rfl⟩
 | r::rs,o3,o4,o5,o6,o7,o8=>by
  have g:gCo (rD r) [o0,some (.int y),some (.int x),o3,o4,o5,o6,o7,o8]=some [o0,some (.int y),some (.int x),some (.str r.n),some (.int r.t),some (.int r.l),some (.int r.h),some (.int r.b),some (.str r.w)]:=rfl;have c1:=Qco (QgH (a:=Qaa 4) (b:=Qaa 1) (c:=Qae Qav (Qaa 4) (Qaa 6)) (ρ:=[o0,some (.int y),some (.int x),some (.str r.n),some (.int r.t),some (.int r.l),some (.int r.h),some (.int r.b),some (.str r.w)]) (O:=O) (i:=r.t) (j:=y) (k:=r.t+r.h) rfl rfl rfl);have c2:=Qco (QgH (a:=Qaa 5) (b:=Qaa 2) (c:=Qae Qav (Qaa 5) (Qaa 7)) (ρ:=[o0,some (.int y),some (.int x),some (.str r.n),some (.int r.t),some (.int r.l),some (.int r.h),some (.int r.b),some (.str r.w)]) (O:=O) (i:=r.l) (j:=x) (k:=r.l+r.b) rfl rfl rfl)
  have c3:Qib (QaQ (QbO gLe gLt (Qaa 4) (Qaa 1) (Qae Qav (Qaa 4) (Qaa 6)))) (QaQ (QbO gLe gLt (Qaa 5) (Qaa 2) (Qae Qav (Qaa 5) (Qaa 7)))) [o0,some (.int y),some (.int x),some (.str r.n),some (.int r.t),some (.int r.l),some (.int r.h),some (.int r.b),some (.str r.w)] O = .ok (has r y x) O:=by
   rw [QsQ,c1,Qam,c2];unfold has
   cases (decide (r.t≤y)&&decide (y < r.t+r.h)) <;> rfl
  rw [zg];unfold cellAt;cases h:has r y x
  ·rw [h] at c3;have e:bCo [o0,some (.int y),some (.int x),some (.str r.n),some (.int r.t),some (.int r.l),some (.int r.h),some (.int r.b),some (.str r.w)] O = .nx [o0,some (.int y),some (.int x),some (.str r.n),some (.int r.t),some (.int r.l),some (.int r.h),some (.int r.b),some (.str r.w)] O:=ifN c3;rw [Qb1 g e,if_neg zj];exact Qmu o0 y x O rs _ _ _ _ _ _
  ·rw [h] at c3;have e:bCo [o0,some (.int y),some (.int x),some (.str r.n),some (.int r.t),some (.int r.l),some (.int r.h),some (.int r.b),some (.str r.w)] O = .rt (.str r.n) O:=(ifY c3).trans rfl
   right
   rw [if_pos rfl,Qa9,g];dsimp only;rw [e]
theorem Qn7 (rs:List Rm) (y x:Int) (O:Qac):QcZ [.lst (rs.map rD),.int y,.int x] O = .ok (cellAt rs y x) O:=by
 show Qbe (QdF [some (.lst (rs.map rD)),some (.int y),some (.int x),none,none,none,none,none,none] O)=_;unfold QdF;show Qbe (Qak (QbB (Qbj (Qaa 0)) gCo bCo) _ _ _)=_;have f:QbB (Qbj (Qaa 0)) gCo bCo [some (.lst (rs.map rD)),some (.int y),some (.int x),none,none,none,none,none,none] O=Qa9 gCo bCo (rs.map rD) [some (.lst (rs.map rD)),some (.int y),some (.int x),none,none,none,none,none,none] O:=Qf7 rfl
 rcases Qmu (some (.lst (rs.map rD))) y x O rs none none none none none none with ⟨ρ',e,z⟩ | e
 ·rw [QaA (f.trans e),z];rfl
 ·rw [Qfm (f.trans e)];rfl
theorem Qmf (o0:Option D) (y x:Int) (O:Qac):∀(rs:List Rm) (o3:Option D),
  (∃ρ',Qa9 (mgN 3) bRa (rs.map rD) [o0,some (.int y),some (.int x),o3] O = .nx ρ' O∧cellAt rs y x = .non)∨Qa9 (mgN 3) bRa (rs.map rD) [o0,some (.int y),some (.int x),o3] O = .rt (cellAt rs y x) O
 | [],o3=>.inl ⟨_,rfl,rfl⟩
 | r::rs,o3=>by
  have c3:Qa4 (Qaq Qd5 (Qab (Qaa 3) (Qab (Qaa 1) (Qab (Qaa 2) Qag)))) [o0,some (.int y),some (.int x),some (rD r)] O = .ok (has r y x) O:=by
   rw [QgY,Qbl (ds:=[rD r,.int y,.int x]) rfl,Qu2];rfl
  rw [zg];unfold cellAt;cases h:has r y x
  ·rw [h] at c3
   have e:bRa [o0,some (.int y),some (.int x),some (rD r)] O = .nx [o0,some (.int y),some (.int x),some (rD r)] O:=by
    unfold bRa;rw [QaA (Qjj (ifN c3))];rfl
   rw [Qb1 (ρ1:=[o0,some (.int y),some (.int x),some (rD r)]) rfl e,if_neg zj];exact Qmf o0 y x O rs _
  ·rw [h] at c3
   have e:bRa [o0,some (.int y),some (.int x),some (rD r)] O = .rt (.str r.n) O:=by
    unfold bRa;rw [Qfm (QqY ((ifY c3).trans rfl))]
   right
   rw [if_pos rfl,Qa9,show mgN 3 (rD r) [o0,some (.int y),some (.int x),o3]=some [o0,some (.int y),some (.int x),some (rD r)] from rfl];dsimp only;rw [e]
theorem fHi {O:Qac}{n m:Nat}{hi wi:Int} (e:O[n]? = some (plO hi wi m)):QhJ ["Plan"] "high" (.ob n) O = .ok (.int hi) O:=by
 unfold QhJ;dsimp only;rw [e];rfl
theorem fWi {O:Qac}{n m:Nat}{hi wi:Int} (e:O[n]? = some (plO hi wi m)):QhJ ["Plan"] "wide" (.ob n) O = .ok (.int wi) O:=by
 unfold QhJ;dsimp only;rw [e];rfl
theorem QlC {O:Qac}{n:Nat}{d:D}{b:Bool}{ρ:Qai}{f:Str}{v:Int}{mm:L2.M D} (hm:mm ρ O = .ok d O) (h0:Qaa 0 ρ O = .ok (.ob n) O) (hf:QhJ ["Plan"] f (.ob n) O = .ok (.int v) O) (h:QaW [d,.int 0,.int (v - 1)] O = .ok (.bl b) O):Qa1 (Qa4 (Qaq QaW (Qab mm (Qab (mC (.int 0)) (Qab (Qae Qdx (QcY ["Plan"] f (Qaa 0)) (mC (.int 1))) Qag))))) ρ O = .ok (!b) O:=by
 have e:QcY ["Plan"] f (Qaa 0) ρ O = .ok (.int v) O:=by rw [Qg9,h0,Qam,hf]
 rw [QhO,QgY,Qbl (ds:=[d,.int 0,.int (v - 1)]) (maS hm (maS rfl (ma1 (Qvz e rfl)))),h];rfl
theorem QoY {O:Qac}{n m:Nat}{hi wi:Int}{rs:List Rm} (s:PS O n m hi wi rs) {y x:Int} (hy:0≤y∧y < hi) (hx:0≤x∧x < wi):∃O',Qbh [.ob n,.int y,.int x] O = .ok (cellAt rs y x) O'∧PS O' n m hi wi rs:=by
 have w1:=QcA y 0 (hi - 1) O;rw [zl hy.1,zl (show y≤hi - 1 by omega)] at w1;have w2:=QcA x 0 (wi - 1) O;rw [zl hx.1,zl (show x≤wi - 1 by omega)] at w2;have t1:=QlC (mm:=Qaa 1) (ρ:=[some (.ob n),some (.int y),some (.int x),none]) rfl rfl (fHi s.p) w1;have t2:=QlC (mm:=Qaa 2) (ρ:=[some (.ob n),some (.int y),some (.int x),none]) rfl rfl (fWi s.p) w2
 have ef:QcY ["Plan"] "room_by_name" (Qaa 0) [some (.ob n),some (.int y),some (.int x),none] O = .ok (.ob m) O:=by simp only [Qg9,Qb4,zN,Qam,fR s.p]
 obtain ⟨O',ev,s'⟩:∃O',Qh0 (QcY ["Plan"] "room_by_name" (Qaa 0)) [some (.ob n),some (.int y),some (.int x),none] O = .ok (rs.map rD) O'∧PS O' n m hi wi rs:=by
  have ek:(kvsOf rs).map (·.2)=rs.map rD:=by
   unfold kvsOf;rw [jd];rfl
  rcases Qom s.d with h | h
  ·refine ⟨O.set m (.kf (kvsOf rs)),?_,⟨by rw [zt (Ne.symm s.ne)]; exact s.p,Qq2 (gs' h)⟩⟩;unfold Qh0;rw [ef,Qam];dsimp only;rw [h];dsimp only;rw [ek]
  ·refine ⟨O,?_,s⟩;unfold Qh0;rw [ef,Qam];dsimp only;rw [h];dsimp only;rw [ek]
 refine ⟨O',?_,s'⟩;show Qbe (QbJ [some (.ob n),some (.int y),some (.int x),none] O)=_;unfold QbJ;rw [QaA (QfE (Qgh t1 t2))];show Qbe (Qak (Qdj _ (mgN 3) bRa) _ _ _)=_;have f:=QpS (g:=mgN 3) (b:=bRa) ev
 rcases Qmf (some (.ob n)) y x O' rs none with ⟨ρ',e,z⟩ | e
 ·rw [QaA (f.trans e),z];rfl
 ·rw [Qfm (f.trans e)];rfl
theorem Ql7 {O:Qac}{n m:Nat}{hi wi:Int}{rs:List Rm} (s:PS O n m hi wi rs) {a b:D} (h:QaW [a,.int 0,.int (hi - 1)] O = .ok (.bl false) O):Qbh [.ob n,a,b] O = .ex ⟨"NoCell",[]⟩ O:=by
 have t1:=QlC (mm:=Qaa 1) (ρ:=[some (.ob n),some a,some b,none]) rfl rfl (fHi s.p) h;show Qbe (QbJ [some (.ob n),some a,some b,none] O)=_;unfold QbJ;rw [Qfu ((Qjy (QuE t1)).trans (Qfu rfl))];rfl
theorem QmT {O:Qac}{n m:Nat}{hi wi:Int}{rs:List Rm} (s:PS O n m hi wi rs) {a b:D} (h1:QaW [a,.int 0,.int (hi - 1)] O = .ok (.bl true) O) (h:QaW [b,.int 0,.int (wi - 1)] O = .ok (.bl false) O):Qbh [.ob n,a,b] O = .ex ⟨"NoCell",[]⟩ O:=by
 have t1:=QlC (mm:=Qaa 1) (ρ:=[some (.ob n),some a,some b,none]) rfl rfl (fHi s.p) h1;have t2:=QlC (mm:=Qaa 2) (ρ:=[some (.ob n),some a,some b,none]) rfl rfl (fWi s.p) h;show Qbe (QbJ [some (.ob n),some a,some b,none] O)=_;unfold QbJ;rw [Qfu ((Qjy (Qgh t1 t2)).trans (Qfu rfl))];rfl
theorem Qf2 {O:Qac}{n m:Nat}{hi wi:Int}{rs:List Rm} (s:PS O n m hi wi rs) {a b:D} (e:Qbh [.ob n,a,b] O = .ex ⟨"NoCell",[]⟩ O):Qbt [.ob n,a,b] O = .ok (.bl true) (O ++ [.xc "NoCell" []]):=by
 have q:∀o4 tb v,List.lookup ("NoCell":Str) tb=some v→Qb6 tb (Qaa 3) [some (.ob n),some a,some b,some (.ob O.length),o4] (O ++ [.xc "NoCell" []]) = .ok (.bl v) (O ++ [.xc "NoCell" []]):=fun o4 tb v e=>QsO rfl apN e
 have em:QeT "Plan" "room_at" Qbh (Qaa 0) (Qab (Qaa 1) (Qab (Qaa 2) Qag)) [some (.ob n),some a,some b,none,none] O = .ex ⟨"NoCell",[]⟩ O:=(QqJ (ds:=[a,b]) rfl s.p rfl rfl).trans e;have s4:Qar 4 (Qa7 (Qb6 [("NoCell",true)] (Qaa 3)) (Qb6 [("NoCell",true)] (Qaa 3))) [some (.ob n),some a,some b,some (.ob O.length),none] (O ++ [.xc "NoCell" []]) = .nx [some (.ob n),some a,some b,some (.ob O.length),some (.bl true)] (O ++ [.xc "NoCell" []]):=Qbg (QeA (q none _ true rfl) (q none _ true rfl))
 have rt:QaC (Qa7 (Qaa 4) (Qc4 (Qb6 [("NoCell",false)] (Qaa 3)))) [some (.ob n),some a,some b,some (.ob O.length),some (.bl true)] (O ++ [.xc "NoCell" []]) = .rt (.bl true) (O ++ [.xc "NoCell" []]):=by
  rw [Qce,QeA (p:=true) (q:=true) rfl (by rw [Qpm,q _ _ false rfl]; rfl),Qdp];rfl
 show Qbe (QdM [some (.ob n),some a,some b,none,none] O)=_;unfold QdM;rw [Qfm ((QmE em).trans (Qlw (show List.contains [("NoCell":Str)] "NoCell" = true by decide) ((QaA s4).trans rt)))];rfl
theorem QoW {hi wi:Int}:∀(todo done:List Rm),Fit hi wi done todo→∀r∈todo,∀y∈done,y.n≠r.n
 | [],_,_,r,hr,_,_=>nomatch hr
 | x::xs,done,hf,r,hr,y,hy=>by
  obtain ⟨g,hc,hf'⟩:=hf
  rcases zm.mp hr with rfl | hr
  ·intro e;rw [List.any_eq_false] at hc
   apply hc y hy
   unfold QcX;rw [zl e.symm];rfl
  ·exact QoW xs (done ++ [x]) hf' r hr y (List.mem_append_left _ hy)
theorem QoB {hi wi:Int}:∀(todo done:List Rm),Fit hi wi done todo→∀r∈todo,Qdi (kvsOf todo) (.inr (S r.n))=some (rD r)
 | [],_,_,r,hr=>nomatch hr
 | x::xs,done,hf,r,hr=>by
  have hf0:=hf;obtain ⟨g,hc,hf'⟩:=hf;unfold Qdi kvsOf;rw [zg]
  rcases zm.mp hr with rfl | hr
  ·rw [List.find?_cons_of_pos (by exact zl rfl)];rfl
  ·have hne:=QoW xs (done ++ [x]) hf' r hr x (zO _ (zv.mpr rfl))
   rw [List.find?_cons_of_neg (by
    intro z
    exact hne (Qjm (Sum.inr.inj (jh z))))]
   exact QoB xs (done ++ [x]) hf' r hr
theorem QtD {rs:List Rm}{s:List Nat} (h:∀r∈rs,r.n≠s):Qdi (kvsOf rs) (.inr (S s))=none:=by
 unfold Qdi;rw [List.find?_eq_none.mpr]
 ·rfl
 ·intro p hp z;obtain ⟨r,hr,rfl⟩:=zQ.mp hp;exact h r hr (Qjm (Sum.inr.inj (jh z)))
theorem kin {O:Qac}{m:Nat}{kvs:List (Key×D)}{s:List Nat}{r:D} (hd:dkAt O m=some kvs):QaQ (Qh6 true (Qaa 1) (Qaa 0)) [some (.ob m),some (.str s)] O = .ok (true != (Qdi kvs (.inr (S s))).isSome) O:=by
 have e:Qh6 true (Qaa 1) (Qaa 0) [some (.ob m),some (.str s)] O = .ok (.bl (true != (Qdi kvs (.inr (S s))).isSome)) O:=by
  unfold Qh6;show (match keyOf (.str s),dkAt O m with | some k,some kvs=>Res.ok (D.bl (true != (Qdi kvs k).isSome)) O | _,_=>.no)=_;rw [hd];rfl
 exact Qco e
theorem Qte {O:Qac}{m:Nat}{hi wi:Int}{rs:List Rm} (hd:O[m]? = some (.dk (kvsOf rs))) (hf:Fit hi wi [] rs) {r:Rm} (hr:r∈rs):QbX [.ob m,.str r.n] O = .ok (rD r) O:=by
 have hv:=QoB rs [] hf r hr;have t:=kin (s:=r.n) (r:=.non) (Qha hd);rw [hv] at t
 have e:QkC (Qaa 0) (Qaa 1) [some (.ob m),some (.str r.n)] O = .ok (rD r) O:=by
  unfold QkC;show (match keyOf (.str r.n),O[m]? with | some k,some (.dk kvs)=>(match Qdi kvs k with | some d=>Res.ok d O | none=>.no) | _,_=>.no)=_;rw [hd];show (match Qdi (kvsOf rs) (.inr (S r.n)) with | some d=>Res.ok d O | none=>.no)=_;rw [hv]
 show Qbe (QcO [some (.ob m),some (.str r.n)] O)=_;unfold QcO;rw [QaA (QfE (Qgh (x:=false) rfl t)),Qfm (QqY (by rw [Qce,e,Qdp]))];rfl
theorem QqW {O:Qac}{m:Nat}{rs:List Rm} (hd:dkAt O m=some (kvsOf rs)) {s:List Nat} (h:∀r∈rs,r.n≠s):QbX [.ob m,.str s] O = .ex ⟨"NoHand",[("name",.str s)]⟩ O:=by
 have t:=kin (s:=s) (r:=.non) hd;rw [QtD h] at t;show Qbe (QcO [some (.ob m),some (.str s)] O)=_;unfold QcO;rw [Qfu ((Qjy (Qgh (x:=true) rfl t)).trans (Qfu (Qoy rfl)))];rfl
theorem QgE {O:Qac}{m:Nat}{d:D} (h:Qa1 (Qa4 (QcS "str" (Qaa 1))) [some (.ob m),some d] O = .ok true O):QbX [.ob m,d] O = .ex ⟨"NoHand",[("name",d)]⟩ O:=by
 show Qbe (QcO [some (.ob m),some d] O)=_;unfold QcO;rw [Qfu ((Qjy (QuE h)).trans (Qfu (Qoy rfl)))];rfl
theorem Qi7 {O:Qac}{n m:Nat}{hi wi:Int}{d:D} (p:O[n]? = some (plO hi wi m)):QdA QbX (Qab (QcY ["Plan"] "room_by_name" (Qaa 0)) (Qab (Qaa 1) Qag)) [some (.ob n),some d] O=QbX [.ob m,d] O :=
 QnO (maS (by simp only [Qg9,Qb4,zN,Qam,fR p]) (ma1 rfl))
theorem QnE {O:Qac}{n m:Nat}{hi wi:Int}{d x:D} (p:O[n]? = some (plO hi wi m)) (e:QbX [.ob m,d] O = .ok x O):Qbv [.ob n,d] O = .ok x O:=by
 show Qbe (Qcd [some (.ob n),some d] O)=_;unfold Qcd;rw [Qfm (QwW ((Qi7 p).trans e))];rfl
theorem Qnx {O:Qac}{n m:Nat}{hi wi:Int}{d:D}{x:Xc} (p:O[n]? = some (plO hi wi m)) (e:QbX [.ob m,d] O = .ex x O):Qbv [.ob n,d] O = .ex x O:=by
 show Qbe (Qcd [some (.ob n),some d] O)=_;unfold Qcd;rw [Qfu (QrC ((Qi7 p).trans e))];rfl
theorem Qkv {O:Qac}{n m:Nat}{hi wi:Int}{d:D} (p:O[n]? = some (plO hi wi m)) (e:QbX [.ob m,d] O = .ex ⟨"NoHand",[("name",d)]⟩ O) (hd:∀O,QaN O d=d) (hq:QiO d d=some (.bl true)):Qcm [.ob n,d] O = .ok (.bl true) (O ++ [.xc "NoHand" [("name",d)]]):=by
 have q:∀o3 tb v,List.lookup ("NoHand":Str) tb=some v→Qb6 tb (Qaa 2) [some (.ob n),some d,some (.ob O.length),o3] (O ++ [.xc "NoHand" [("name",d)]]) = .ok (.bl v) (O ++ [.xc "NoHand" [("name",d)]]):=fun o3 tb v e=>QsO rfl apN e
 have f:∀o3,QgJ "name" ["NoHand"] (Qaa 2) [some (.ob n),some d,some (.ob O.length),o3] (O ++ [.xc "NoHand" [("name",d)]]) = .ok d (O ++ [.xc "NoHand" [("name",d)]]):=fun o3=>QwN rfl apN (by decide) rfl
 have nq:∀o3,Qc4 (Qb6 [("NoHand",false)] (Qaa 2)) [some (.ob n),some d,some (.ob O.length),o3] (O ++ [.xc "NoHand" [("name",d)]]) = .ok (.bl true) (O ++ [.xc "NoHand" [("name",d)]]):=fun o3=>by
  rw [Qpm,q _ _ false rfl];rfl
 have em:QeT "Plan" "room_of" Qbv (Qaa 0) (Qab (Qaa 1) Qag) [some (.ob n),some d,none,none] O = .ex ⟨"NoHand",[("name",d)]⟩ O:=(QqJ (ds:=[d]) rfl p rfl rfl).trans (Qnx p e);have s3:Qar 3 (Qa7 (Qb6 [("NoHand",true)] (Qaa 2)) (Qa7 (Qb6 [("NoHand",true)] (Qaa 2)) (Qc4 (Qb6 [("NoHand",false)] (Qaa 2))))) [some (.ob n),some d,some (.ob O.length),none] (O ++ [.xc "NoHand" [("name",d)]]) = .nx [some (.ob n),some d,some (.ob O.length),some (.bl true)] (O ++ [.xc "NoHand" [("name",d)]]):=Qbg (QeA (q none _ true rfl) (QeA (q none _ true rfl) (nq none)));have ew:Qae QiO (QgJ "name" ["NoHand"] (Qaa 2)) (Qaa 1) [some (.ob n),some d,some (.ob O.length),some (.bl true)] (O ++ [.xc "NoHand" [("name",d)]]) = .ok (.bl true) (O ++ [.xc "NoHand" [("name",d)]]):=Qbd (x:=d) (y:=d) (f _) rfl (by rw [hd]; exact hq)
 have rt:QaC (Qa7 (Qaa 3) (Qa7 (Qae QiO (QgJ "name" ["NoHand"] (Qaa 2)) (Qaa 1)) (Qc4 (Qb6 [("NoHand",false)] (Qaa 2))))) [some (.ob n),some d,some (.ob O.length),some (.bl true)] (O ++ [.xc "NoHand" [("name",d)]]) = .rt (.bl true) (O ++ [.xc "NoHand" [("name",d)]]):=by
  rw [Qce,QeA (p:=true) (q:=true) rfl (QeA ew (nq _)),Qdp];rfl
 show Qbe (QdI [some (.ob n),some d,none,none] O)=_;unfold QdI;rw [Qfm ((QmE em).trans (Qlw (show List.contains [("NoHand":Str)] "NoHand" = true by decide) ((QaA s3).trans rt)))];rfl
theorem Qpr {r:Rm} (n:NOk r.n) (w:WOk r.w):QcL (rD r)=true∧(toP (rD r)).canLay0=true∧(toP (rD r)).depth≤5:=by
 have h1:=Qgu (l:=r.n) (fun c hc=>by have:=n.ok c hc; omega)
 have h2:(PyData.str (S r.w)).canLay0=true:=Qgu (l:=r.w) (fun c hc=>by
  rcases w with e | e | e | e <;> (rw [e] at hc; simp at hc; omega))
 refine ⟨rfl,?_,?_⟩
 ·show ((PyData.str (S r.n)).canLay0&&((PyData.int r.t).canLay0&&((PyData.int r.l).canLay0&&((PyData.int r.h).canLay0&&((PyData.int r.b).canLay0&&((PyData.str (S r.w)).canLay0&&true))))))=true;rw [h1,h2];rfl
 ·show PyData.depth (.tuple [.str (S r.n),.int r.t,.int r.l,.int r.h,.int r.b,.str (S r.w)])≤5;simp [PyData.depth,PyData.depthAll]
theorem QuO {r:Rm} (n:NOk r.n) (w:WOk r.w):okE (rD r)=true:=by
 have h:=Qpr n w;unfold okE okD;rw [h.1,h.2.1]
 have:(toP (rD r)).depth≤60:=by omega
 simp
 exact this
theorem QtX {rs:List Rm} (h:∀r∈rs,NOk r.n∧WOk r.w):okE (.lst (rs.map rD))=true:=QjR (n:=5) (by decide) fun d hd=>by
 obtain ⟨r,hr,rfl⟩:=zQ.mp hd;exact Qpr (h r hr).1 (h r hr).2
theorem Quk {rs:List Rm} (h:∀r∈rs,NOk r.n∧WOk r.w):okE (.lst (rs.map fun r=>.str r.n))=true:=QjR (n:=5) (by decide) fun d hd=>by
 obtain ⟨r,hr,rfl⟩:=zQ.mp hd;refine ⟨rfl,Qgu fun c hc=>?_,by show PyData.depth (.str (S r.n))≤5; simp [PyData.depth]⟩
 have:=(h r hr).1.ok c hc
 omega
theorem QqU {i j:List D}:gNe (.tup i) (.tup j)=if (okE (.tup i)&&okE (.tup j))=true then some (.bl (!Qgs (.tup i) (.tup j))) else none:=rfl
theorem QtY {l:List D} (h:okE (.lst l)=true):gNe (.lst l) (.lst l)=some (.bl false):=by
 rw [QvK,h,QeP h];rfl
theorem Qwz {r:Rm} (n:NOk r.n) (w:WOk r.w):gNe (rD r) (rD r)=some (.bl false):=by
 have h:=QuO n w;unfold rD at h ⊢;rw [QqU,h,QeP h];rfl
theorem Qwe (a b:Int):gNe (.tup [.int a,.int b]) (.tup [.int a,.int b])=some (.bl false):=by
 have h:okE (.tup [.int a,.int b])=true:=rfl;rw [QqU,h,QeP h];rfl
theorem Qtb {O:Qac}{n m:Nat}{hi wi:Int} (p:O[n]? = some (plO hi wi m)):Qdd [.ob n] O = .ok (.tup [.int hi,.int wi]) O:=by
 show Qbe (Qcs [some (.ob n)] O)=_;unfold Qcs;rw [Qce,Qnl (maS (x:=.int hi) (by simp only [Qg9,Qb4,zN,Qam,fHi p]) (ma1 (x:=.int wi) (by simp only [Qg9,Qb4,zN,Qam,fWi p]))) (show (2:Nat)≤1000000 by decide),Qdp];rfl
theorem QnN {O O':Qac}{n m:Nat}{hi wi:Int}{mm:Str}{cf:List D→Qac→Res D}{ρ:Qai}{ma:L2.M (List D)}{ds:List D}{x:D} (p:O[n]? = some (plO hi wi m)) (h0:Qaa 0 ρ O = .ok (.ob n) O) (hm:List.lookup mm [("high",D.int hi),("wide",.int wi),("room_by_name",.ob m)]=none) (ha:ma ρ O = .ok ds O) (e:cf (.ob n::ds) O = .ok x O'):Qct "Plan" mm cf (Qaa 0) ma ρ O = .ok x O':=by
 rw [Qou,h0,Qam];unfold meF;dsimp only;rw [p];unfold plO;dsimp only;rw [if_pos ⟨rfl,by rw [hm]; rfl⟩,ha,Qam,e]
theorem QmN (rs:List Rm) (hl:rs.length≤6) {m:L2.M (List D)}{ρ:Qai}{O:Qac} (hm:m ρ O = .ok (rs.map rD) O):QbC m 1 [] (mgN 0) QbL (Qae gIx (Qaa 0) (mC (.int 0))) ρ O = .ok (.lst (rs.map fun r=>.str r.n)) O:=by
 have z:=Qdm (g:=mgN 0) (t:=QbL) (m:=Qae gIx (Qaa 0) (mC (.int 0))) (fun ρ=>∃a,ρ = [a]) rD (fun r=>.str r.n) rs [none] O [] ⟨none,rfl⟩ (by
  rintro y hy ρ ⟨a,rfl⟩
  exact ⟨_,rfl,⟨_,rfl⟩,rfl,rfl⟩)
 rw [zX] at z;rw [QfD,hm,Qam,if_pos (by rw [zp]; omega),show QdQ 1 [] ρ = [none] from rfl,z,Qam]
theorem Qmj {O:Qac}{n m:Nat}{hi wi:Int}{rs:List Rm} (p:O[n]? = some (plO hi wi m)) (hd:O[m]? = some (.dk (kvsOf rs))) (hf:Fit hi wi [] rs) (hg:∀r∈rs,NOk r.n∧WOk r.w) (o1 o2 o3 o4 o5:Option D):∀(l:List Rm) (o6 o7:Option D),(∀r∈l,r∈rs) →
  ∃p6 p7,Qa9 (mgN 6) bTo (l.map rD) [some (.ob n),o1,o2,o3,o4,o5,o6,o7] O = .nx [some (.ob n),o1,o2,o3,o4,o5,p6,p7] O
 | [],o6,o7,_=>⟨o6,o7,rfl⟩
 | r::l,o6,o7,h=>by
  have hr:=h r zz;obtain ⟨g1,g2⟩:=hg r hr;have s7:Qar 7 (Qct "Plan" "room_of" Qbv (Qaa 0) (Qab (Qae gIx (Qaa 6) (mC (.int 0))) Qag)) [some (.ob n),o1,o2,o3,o4,o5,some (rD r),o7] O = .nx [some (.ob n),o1,o2,o3,o4,o5,some (rD r),some (rD r)] O:=Qbg (QnN p rfl rfl (ma1 (x:=.str r.n) rfl) (QnE p (Qte hd hf hr)));have t:QbN (Qa1 (Qa4 (QcS "tuple" (Qaa 7)))) (QaQ (Qae gNe (Qaa 7) (Qaa 6))) [some (.ob n),o1,o2,o3,o4,o5,some (rD r),some (rD r)] O = .ok false O:=Qgh rfl (Qco (Qbd (x:=rD r) (y:=rD r) rfl rfl (Qwz g1 g2)))
  have e:bTo [some (.ob n),o1,o2,o3,o4,o5,some (rD r),o7] O = .nx [some (.ob n),o1,o2,o3,o4,o5,some (rD r),some (rD r)] O:=by
   unfold bTo;rw [QaA s7];exact ifN t
  obtain ⟨p6,p7,e2⟩:=Qmj p hd hf hg o1 o2 o3 o4 o5 l (some (rD r)) (some (rD r)) (fun x hx=>h x (zw _ hx));refine ⟨p6,p7,?_⟩;rw [zg,Qb1 (ρ1:=[some (.ob n),o1,o2,o3,o4,o5,some (rD r),o7]) rfl e];exact e2
theorem QsP {O:Qac}{n m:Nat}{hi wi:Int}{rs:List Rm} (p:O[n]? = some (plO hi wi m)) (hd:O[m]? = some (.dk (kvsOf rs))) (hf:Fit hi wi [] rs) (hg:∀r∈rs,NOk r.n∧WOk r.w) (hl:rs.length≤6):Qfw [.ob n,.int hi,.int wi,.lst (rs.map rD)] O = .ok (.bl true) O:=by
 obtain ⟨p6,p7,e⟩:=Qmj p hd hf hg (some (.int hi)) (some (.int wi)) (some (.lst (rs.map rD))) (some (.tup [.int hi,.int wi])) (some (.lst ((rs.map fun r=>D.str r.n) ++ [.str [122,122]]))) rs none none (fun r hr=>hr);have t1:QbN (Qa1 (Qa4 (QcS "tuple" (Qaa 4)))) (QbN (QaQ (Qae gNe (Qaa 4) (Qc2 (Qab (mG (Qaa 1)) (Qab (mG (Qaa 2)) Qag))))) (Qa1 (Qa4 (QcS "list" (Qaa 5))))) [some (.ob n),some (.int hi),some (.int wi),some (.lst (rs.map rD)),some (.tup [.int hi,.int wi]),some (.lst (rs.map fun r=>.str r.n)),none,none] O = .ok false O :=
  Qgh rfl (Qgh (Qco (Qbd (x:=.tup [.int hi,.int wi]) (y:=.tup [.int hi,.int wi]) rfl rfl (Qwe hi wi))) rfl)
 have t2:QaQ (Qae gNe (Qaa 5) (QbC (Qbj (Qaa 3)) 1 [] (mgN 0) QbL (Qae gIx (Qaa 0) (mC (.int 0))))) [some (.ob n),some (.int hi),some (.int wi),some (.lst (rs.map rD)),some (.tup [.int hi,.int wi]),some (.lst (rs.map fun r=>.str r.n)),none,none] O = .ok false O :=
  Qco (Qbd (x:=.lst (rs.map fun r:Rm=>.str r.n)) (y:=.lst (rs.map fun r:Rm=>.str r.n)) rfl (QmN rs hl rfl) (QtY (Quk hg)))
 show Qbe (Qft [some (.ob n),some (.int hi),some (.int wi),some (.lst (rs.map rD)),none,none,none,none] O)=_;unfold Qft
 rw [QaA (show Qar 4 _ [some (.ob n),some (.int hi),some (.int wi),some (.lst (rs.map rD)),none,none,none,none] O = .nx [some (.ob n),some (.int hi),some (.int wi),some (.lst (rs.map rD)),some (.tup [.int hi,.int wi]),none,none,none] O from Qbg (QnN p rfl rfl rfl (Qtb p))),
  QaA (show Qar 5 _ [some (.ob n),some (.int hi),some (.int wi),some (.lst (rs.map rD)),some (.tup [.int hi,.int wi]),none,none,none] O = .nx [some (.ob n),some (.int hi),some (.int wi),some (.lst (rs.map rD)),some (.tup [.int hi,.int wi]),some (.lst (rs.map fun r=>.str r.n)),none,none] O from Qbg (QnN p rfl rfl rfl (Qsr p hd))),
  QaA (ifN t1),QaA (ifN t2),
  QaA (show Qc8 5 _ [some (.ob n),some (.int hi),some (.int wi),some (.lst (rs.map rD)),some (.tup [.int hi,.int wi]),some (.lst (rs.map fun r=>.str r.n)),none,none] O = .nx [some (.ob n),some (.int hi),some (.int wi),some (.lst (rs.map rD)),some (.tup [.int hi,.int wi]),some (.lst ((rs.map fun r=>D.str r.n) ++ [.str [122,122]])),none,none] O from Qi1 rfl rfl (by rw [zp]; omega))]
 show Qbe (Qak (QbB (Qbj (Qaa 3)) (mgN 6) bTo) _ _ _)=_;rw [QaA ((Qf7 (ds:=rs.map rD) rfl).trans e)];rfl
def bL1:MS:=(QbA (Qa1 (Qa4 (Qaq Qfw (Qab (Qaa 5) (Qab (Qaa 1) (Qab (Qaa 2) (Qab (Qaa 3) Qag))))))) (QaC (mC (.bl false))) QaD)
def bL3:MS:=(QbA (QaQ (Qae gNe (Qct "Plan" "room_at" Qbh (Qaa 5) (Qab (Qaa 7) (Qab (Qaa 8) Qag))) (Qaq QcZ (Qab (Qaa 3) (Qab (Qaa 7) (Qab (Qaa 8) Qag)))))) (QaC (mC (.bl false))) QaD)
def bL2:MS:=QbB (Qch (Qab (Qaa 2) Qag)) (mgN 8) bL3
theorem Qhf {α:Type}{g:MG}{t:L2.M Bool}{m:L2.M D} (Pv:Qai→Prop) (p:α→Bool) (f:α→D):∀(xs:List α) (ρ:Qai) (O:Qac) (acc:List D),Pv ρ→(∀x∈xs,∀ρ,Pv ρ→∃ρ1,g (f x) ρ=some ρ1∧Pv ρ1∧t ρ1 O = .ok (p x) O∧m ρ1 O = .ok (f x) O)→Qb7 g t m (xs.map f) ρ O acc = .ok (acc++(xs.filter p).map f) O
 | [],ρ,O,acc,_,_=>by simp [Qb7]
 | x::xs,ρ,O,acc,h,hs=>by
  obtain ⟨ρ1,e1,h1,e2,e3⟩:=hs x zz ρ h
  have ih:=fun acc=>Qhf (g:=g) (t:=t) (m:=m) Pv p f xs ρ1 O acc h1 fun d' hd'=>hs d' (zw _ hd')
  rw [zg];unfold Qb7;rw [e1];dsimp only;rw [e2]
  cases q:p x with
  | true =>
   dsimp only;rw [e3];dsimp only;rw [ih,List.filter_cons,q];simp
  | false =>
   dsimp only;rw [ih,List.filter_cons,q];simp
theorem Qu4 (b:Bool) (s:List Nat) (ds:List D):gIn b (.str s) (.lst ds)=if (QdL (.str s)&&ds.all QdL)=true then some (.bl (b ^^ ds.any fun y=>eqF y (.str s))) else none:=by
 cases s with
 | nil=>rfl
 | cons a t=>cases t <;> rfl
theorem Qtp (a b:List Nat):eqF (.str a) (.str b)=decide (a=b):=by
 unfold eqF;show decide (S a=S b)=_
 by_cases h:a=b
 ·rw [h,zl rfl,zl rfl]
 ·rw [zn h,zn fun z=>h (Qjm z)]
theorem QuM (rs:List Rm) (s:List Nat):gIn true (.str s) (.lst (rs.map fun r=>.str r.n))=some (.bl (!(rs.any fun r=>decide (r.n=s)))):=by
 rw [Qu4,if_pos]
 ·rw [List.any_map]
  have:((fun y=>eqF y (.str s)) ∘ fun r:Rm=>D.str r.n)=fun r=>decide (r.n=s):=by
   funext r
   exact Qtp ..
  rw [this,Bool.true_xor]
 ·rw [show QdL (.str s)=true from rfl,Bool.true_and,zZ];intro d hd;obtain ⟨r,hr,rfl⟩:=zQ.mp hd;rfl
def L7:List (List Nat):=[[113],[113,113],[113,113,113],[114],[114,114],[114,114,114],[115]]
theorem sub_len {α:Type} [DecidableEq α]:∀(l n:List α),l.Nodup→(∀x∈l,x∈n)→l.length≤n.length
 | [],_,_,_=>Nat.zero_le _
 | x::l,n,hd,h=>by
  have hx:=h x zz;obtain ⟨h1,h2⟩:=List.nodup_cons.mp hd
  have:=sub_len l (n.erase x) h2 (fun y hy=>(List.mem_erase_of_ne (fun e:y=x=>h1 (e ▸ hy))).mpr (h y (zw _ hy)))
  rw [List.length_erase_of_mem hx] at this;have hp:0 < n.length:=List.length_pos_of_mem hx;rw [zJ];omega
theorem Qn1 (rs:List Rm) (hl:rs.length≤6):∃s rest,L7.filter (fun s=>!(rs.any fun r=>decide (r.n=s)))=s::rest∧∀r∈rs,r.n≠s:=by
 cases h:L7.filter (fun s=>!(rs.any fun r=>decide (r.n=s))) with
 | nil =>
  exfalso
  have:=sub_len L7 (rs.map (·.n)) (by decide) (fun s hs=>by
   have:=List.filter_eq_nil_iff.mp h s hs
   have h2:(rs.any fun r=>decide (r.n=s))=true:=by
    cases q:rs.any fun r=>decide (r.n=s)
    ·rw [q] at this;exact (this rfl).elim
    ·rfl
   obtain ⟨r,hr,e⟩:=List.any_eq_true.mp h2
   exact zQ.mpr ⟨r,hr,jh e⟩)
  rw [zp] at this
  have:7≤rs.length:=this
  omega
 | cons s rest =>
  refine ⟨s,rest,rfl,fun r hr e=>?_⟩
  have hs:s∈L7.filter (fun s=>!(rs.any fun r=>decide (r.n=s))):=by rw [h]; exact zz
  have:=(List.mem_filter.mp hs).2
  have h2:(rs.any fun r=>decide (r.n=s))=true:=List.any_eq_true.mpr ⟨r,hr,zl e⟩;rw [h2] at this;exact Bool.noConfusion this
theorem QvM {O O':Qac}{n m:Nat}{hi wi:Int}{mm:Str}{cf:List D→Qac→Res D}{ρ:Qai}{mo:L2.M D}{ma:L2.M (List D)}{ds:List D}{x:D} (p:O[n]? = some (plO hi wi m)) (h0:mo ρ O = .ok (.ob n) O) (hm:List.lookup mm [("high",D.int hi),("wide",.int wi),("room_by_name",.ob m)]=none) (ha:ma ρ O = .ok ds O) (e:cf (.ob n::ds) O = .ok x O'):Qct "Plan" mm cf mo ma ρ O = .ok x O':=by
 rw [Qou,h0,Qam];unfold meF;dsimp only;rw [p];unfold plO;dsimp only;rw [if_pos ⟨rfl,by rw [hm]; rfl⟩,ha,Qam,e]
theorem Qkt:∀(rs:List Rm) (y x:Int),cellAt rs y x = .non∨∃n,cellAt rs y x = .str n
 | [],_,_=>.inl rfl
 | r::rs,y,x=>by
  unfold cellAt
  split
  ·exact .inr ⟨_,rfl⟩
  ·exact Qkt rs y x
theorem Qrl (rs:List Rm) (y x:Int) (O:Qac):gNe (QaN O (cellAt rs y x)) (QaN O (cellAt rs y x))=some (.bl false):=by
 rcases Qkt rs y x with h | ⟨n,h⟩
 ·rw [h]; rfl
 ·rw [h,QdZ,QvC,zl rfl]; rfl
section
variable {n m:Nat}{rs:List Rm}{o0 o4 o6 o9 o10 o11 o12:Option D}
theorem Qms {hi:Int}{W:Nat}{y:Int} (hy:0≤y∧y < hi):∀(j k:Nat) (O:Qac) (o8:Option D),k+j=W→PS O n m hi (W:Int) rs →
  ∃O' p8,Qa9 (mgN 8) bL3 (Qbs (k:Int) j) [o0,some (.int hi),some (.int (W:Int)),some (.lst (rs.map rD)),o4,some (.ob n),o6,some (.int y),o8,o9,o10,o11,o12] O = .nx [o0,some (.int hi),some (.int (W:Int)),some (.lst (rs.map rD)),o4,some (.ob n),o6,some (.int y),p8,o9,o10,o11,o12] O'∧PS O' n m hi (W:Int) rs
 | 0,k,O,o8,_,s=>⟨O,o8,rfl,s⟩
 | j+1,k,O,o8,hk,s=>by
  obtain ⟨O1,e1,s1⟩:=QoY s hy (x:=(k:Int)) ⟨by omega,by omega⟩;have a1:Qct "Plan" "room_at" Qbh (Qaa 5) (Qab (Qaa 7) (Qab (Qaa 8) Qag)) [o0,some (.int hi),some (.int (W:Int)),some (.lst (rs.map rD)),o4,some (.ob n),o6,some (.int y),some (.int (k:Int)),o9,o10,o11,o12] O = .ok (cellAt rs y k) O1:=QvM (ds:=[.int y,.int (k:Int)]) s.p rfl rfl rfl e1;have a2:Qaq QcZ (Qab (Qaa 3) (Qab (Qaa 7) (Qab (Qaa 8) Qag))) [o0,some (.int hi),some (.int (W:Int)),some (.lst (rs.map rD)),o4,some (.ob n),o6,some (.int y),some (.int (k:Int)),o9,o10,o11,o12] O1 = .ok (cellAt rs y k) O1:=(Qbl (ds:=[.lst (rs.map rD),.int y,.int (k:Int)]) rfl).trans (Qn7 rs y k O1)
  have e:bL3 [o0,some (.int hi),some (.int (W:Int)),some (.lst (rs.map rD)),o4,some (.ob n),o6,some (.int y),some (.int (k:Int)),o9,o10,o11,o12] O = .nx [o0,some (.int hi),some (.int (W:Int)),some (.lst (rs.map rD)),o4,some (.ob n),o6,some (.int y),some (.int (k:Int)),o9,o10,o11,o12] O1:=ifN (QtJ (QvO a1 a2 (Qrl ..)));obtain ⟨O',p8,e2,f⟩:=Qms hy j (k+1) O1 (some (.int (k:Int))) (by omega) s1;refine ⟨O',p8,?_,f⟩;rw [QdO,Qb1 (ρ1:=[o0,some (.int hi),some (.int (W:Int)),some (.lst (rs.map rD)),o4,some (.ob n),o6,some (.int y),some (.int (k:Int)),o9,o10,o11,o12]) rfl e];exact e2
theorem QmO {H W:Nat} (hW:W≤1000000):∀(j k:Nat) (O:Qac) (o7 o8:Option D),k+j=H→PS O n m (H:Int) (W:Int) rs →
  ∃O' p7 p8,Qa9 (mgN 7) bL2 (Qbs (k:Int) j) [o0,some (.int (H:Int)),some (.int (W:Int)),some (.lst (rs.map rD)),o4,some (.ob n),o6,o7,o8,o9,o10,o11,o12] O = .nx [o0,some (.int (H:Int)),some (.int (W:Int)),some (.lst (rs.map rD)),o4,some (.ob n),o6,p7,p8,o9,o10,o11,o12] O'∧PS O' n m (H:Int) (W:Int) rs
 | 0,k,O,o7,o8,_,s=>⟨O,o7,o8,rfl,s⟩
 | j+1,k,O,o7,o8,hk,s=>by
  obtain ⟨O1,q8,e1,s1⟩:=Qms (n:=n) (m:=m) (rs:=rs) (o0:=o0) (o4:=o4) (o6:=o6) (o9:=o9) (o10:=o10) (o11:=o11) (o12:=o12) (hi:=(H:Int)) (W:=W) (y:=(k:Int)) ⟨by omega,by omega⟩ W 0 O o8 (by omega) s
  have e:bL2 [o0,some (.int (H:Int)),some (.int (W:Int)),some (.lst (rs.map rD)),o4,some (.ob n),o6,some (.int (k:Int)),o8,o9,o10,o11,o12] O = .nx [o0,some (.int (H:Int)),some (.int (W:Int)),some (.lst (rs.map rD)),o4,some (.ob n),o6,some (.int (k:Int)),q8,o9,o10,o11,o12] O1:=by
   unfold bL2;exact (Qf7 (QfQ (n:=W) rfl hW)).trans e1
  obtain ⟨O',p7,p8,e2,f⟩:=QmO hW j (k+1) O1 (some (.int (k:Int))) q8 (by omega) s1;refine ⟨O',p7,p8,?_,f⟩;rw [QdO,Qb1 (ρ1:=[o0,some (.int (H:Int)),some (.int (W:Int)),some (.lst (rs.map rD)),o4,some (.ob n),o6,some (.int (k:Int)),o8,o9,o10,o11,o12]) rfl e];exact e2
end
def Qdg:List D:=[.int (-1),.non,.bl true,.str [48],.tup [.int 0],.int 1000000000000000000000000000000]
theorem Qoi {d:D} (h:d∈Qdg) {v:Int} (hv:v≤100) (O:Qac):QaW [d,.int 0,.int v] O = .ok (.bl false) O:=by
 unfold Qdg at h;simp only [zm,List.not_mem_nil,or_false] at h
 rcases h with rfl | rfl | rfl | rfl | rfl | rfl
 ·have e:=QcA (-1) 0 v O;rw [zn (by decide)] at e;exact e
 ·rfl
 ·rfl
 ·rfl
 ·rfl
 ·have e:=QcA 1000000000000000000000000000000 0 v O;rw [zn (show ¬(1000000000000000000000000000000:Int)≤v by omega),Bool.and_false] at e;exact e
def Qjl:List D:=[.non,.int 0,.str [],.tup [.str [97]],.lst [.str [97]],.dic [] []]
theorem Qsq {d:D} (h:d∈Qjl) {O:Qac}{m:Nat}{rs:List Rm} (hd:dkAt O m=some (kvsOf rs)) (hn:∀r∈rs,NOk r.n):QbX [.ob m,d] O = .ex ⟨"NoHand",[("name",d)]⟩ O∧(∀O,QaN O d=d)∧QiO d d=some (.bl true):=by
 unfold Qjl at h;simp only [zm,List.not_mem_nil,or_false] at h
 rcases h with rfl | rfl | rfl | rfl | rfl | rfl
 ·exact ⟨QgE rfl,fun _=>rfl,rfl⟩
 ·exact ⟨QgE rfl,fun _=>rfl,rfl⟩
 ·exact ⟨QqW hd (fun r hr e=>by have:=(hn r hr).one; rw [e] at this; simp at this),fun _=>rfl,rfl⟩
 ·have ok:okE (.tup [.str [97]])=true:=by
   unfold okE;show (true&&okD (.tuple [.str (S [97])]))=true;unfold okD
   rw [show (PyData.tuple [.str (S [97])]).canLay0=true by
    show ((PyData.str (S [97])).canLay0&&true)=true;rw [Qgu (l:=[97]) (by decide)]
    rfl]
   rfl
  exact ⟨QgE rfl,fun _=>rfl,by show (if (okE (.tup [.str [97]])&&okE (.tup [.str [97]]))=true then some (D.bl (Qgs (.tup [.str [97]]) (.tup [.str [97]]))) else none)=_; rw [ok,QeP ok]; rfl⟩
 ·have ok:okE (.lst [.str [97]])=true:=QjR (n:=5) (by decide) fun d hd=>by
   rw [zv.mp hd];exact ⟨rfl,Qgu (l:=[97]) (by decide),by show PyData.depth (.str (S [97]))≤5; simp [PyData.depth]⟩
  exact ⟨QgE rfl,fun _=>rfl,by show (if (okE (.lst [.str [97]])&&okE (.lst [.str [97]]))=true then some (D.bl (Qgs (.lst [.str [97]]) (.lst [.str [97]]))) else none)=_; rw [ok,QeP ok]; rfl⟩
 ·exact ⟨QgE rfl,fun _=>rfl,rfl⟩
theorem QjY {hi wi:Int}:∀(rs done:List Rm),Fit hi wi done rs→∀r∈rs,GoodR hi wi r
 | [],_,_,r,hr=>nomatch hr
 | x::xs,done,hf,r,hr=>by
  obtain ⟨g,_,hf'⟩:=hf
  rcases zm.mp hr with rfl | hr
  ·exact g
  ·exact QjY xs (done ++ [x]) hf' r hr
theorem QrW {a b:L2.M D}{ρ:Qai}{O O1 O2:Qac} (ha:a ρ O = .ok (.bl true) O1) (hb:b ρ O1 = .ok (.bl true) O2):Qa7 a b ρ O = .ok (.bl true) O2:=by
 rw [Qd9,ha,Qam];exact hb
theorem Qvu (ρ:Qai) (O:Qac):Qae Qer (mC (.int 10)) (mC (.int 30)) ρ O = .ok (.int 1000000000000000000000000000000) O:=Qbd (x:=.int 10) (y:=.int 30) rfl rfl (by rfl)
theorem Qs0 (ρ:Qai) (O:Qac):Qb5 (Qab (mUn QpW (mC (.int 1))) (Qab (mC .non) (Qab (mC (.bl true)) (Qab (mC (.str [48])) (Qab (Qc2 (Qab (mC (.int 0)) Qag)) (Qab (Qae Qer (mC (.int 10)) (mC (.int 30))) Qag)))))) ρ O = .ok (.lst Qdg) O :=
 Qw0 (maS (x:=.int (-1)) rfl (maS (x:=.non) rfl (maS (x:=.bl true) rfl (maS (x:=.str [48]) rfl (maS (x:=.tup [.int 0]) rfl (ma1 (Qvu ρ O))))))) (show (6:Nat)≤1000000 by decide)
theorem Qse (ρ:Qai) (O:Qac):Qb5 (Qab (mC .non) (Qab (mC (.int 0)) (Qab (mC (.str [])) (Qab (Qc2 (Qab (mC (.str [97])) Qag)) (Qab (Qb5 (Qab (mC (.str [97])) Qag)) (Qab (mC (.dic [] [])) Qag)))))) ρ O = .ok (.lst Qjl) O:=rfl
theorem Qsa (rs:List Rm) (hl:rs.length≤6) {ρ:Qai}{O:Qac} (h3:ρ[3]? = some (some (.lst (rs.map rD)))):QbC (Qbj (Qb5 (Qab (mC (.str [113])) (Qab (mC (.str [113,113])) (Qab (mC (.str [113,113,113])) (Qab (mC (.str [114])) (Qab (mC (.str [114,114])) (Qab (mC (.str [114,114,114])) (Qab (mC (.str [115])) Qag))))))))) 1 [3] (mgN 0) (QaQ (Qae (gIn true) (Qaa 0) (QbC (Qbj (Qaa 1)) 1 [] (mgN 0) QbL (Qae gIx (Qaa 0) (mC (.int 0)))))) (Qaa 0) ρ O = .ok (.lst ((L7.filter fun s=>!(rs.any fun r=>decide (r.n=s))).map D.str)) O:=by
 have z:=Qhf (g:=mgN 0) (t:=QaQ (Qae (gIn true) (Qaa 0) (QbC (Qbj (Qaa 1)) 1 [] (mgN 0) QbL (Qae gIx (Qaa 0) (mC (.int 0)))))) (m:=Qaa 0) (fun ρ=>∃a,ρ = [a,some (.lst (rs.map rD))]) (fun s=>!(rs.any fun r=>decide (r.n=s))) D.str L7 [none,some (.lst (rs.map rD))] O [] ⟨none,rfl⟩ (by
  rintro s hs ρ ⟨a,rfl⟩
  exact ⟨_,rfl,⟨_,rfl⟩,Qco (Qbd (x:=.str s) (y:=.lst (rs.map fun r:Rm=>.str r.n)) rfl (QmN rs hl rfl) (QuM rs s)),rfl⟩)
 rw [zX] at z;have ei:Qbj (Qb5 (Qab (mC (.str [113])) (Qab (mC (.str [113,113])) (Qab (mC (.str [113,113,113])) (Qab (mC (.str [114])) (Qab (mC (.str [114,114])) (Qab (mC (.str [114,114,114])) (Qab (mC (.str [115])) Qag)))))))) ρ O = .ok (L7.map D.str) O:=rfl
 rw [QfD,ei,Qam,if_pos (show (L7.map D.str).length≤1000000 from (show (7:Nat)≤1000000 by decide)),show QdQ 1 [3] ρ = [none,some (.lst (rs.map rD))] by
  unfold QdQ
  simp [h3],z,Qam]
theorem Qqr (ns:List Int) (hn:ns.length≤63):∃O',Qq3 [.lst (ns.map D.int)] [] = .ok (.bl true) O':=by
 have ec:∀O,QbF [.lst (ns.map D.int),.int 2] O = .ok (.int (ns.getD 2 0)) O:=Qlv ns 2
 generalize ns.getD 2 0=c at ec
 obtain ⟨hi,wi,rs,ep,hh,hw,hne,hl,hf⟩:=Qtq ns [];obtain ⟨H,rfl⟩:∃H:Nat,hi=(H:Int):=⟨hi.toNat,by omega⟩;obtain ⟨W,rfl⟩:∃W:Nat,wi=(W:Int):=⟨wi.toNat,by omega⟩
 have hg:∀r∈rs,NOk r.n∧WOk r.w:=fun r hr=>⟨(QjY rs [] hf r hr).n,(QjY rs [] hf r hr).w⟩
 obtain ⟨O1,ei,f1,f2⟩:=Quy hh hw hf hne hl [];have et:=QsP f1 f2 hf hg hl;have s1:PS O1 0 1 (H:Int) (W:Int) rs:=⟨f1,Qha f2⟩
 have l1:∀o6,bL1 [some (.lst (ns.map D.int)),some (.int (H:Int)),some (.int (W:Int)),some (.lst (rs.map rD)),some (.lst []),some (.ob 0),o6,none,none,none,none,none,none] O1 = .nx [some (.lst (ns.map D.int)),some (.int (H:Int)),some (.int (W:Int)),some (.lst (rs.map rD)),some (.lst []),some (.ob 0),o6,none,none,none,none,none,none] O1:=fun o6=>ifN (Qg5 ((Qbl (ds:=[.ob 0,.int (H:Int),.int (W:Int),.lst (rs.map rD)]) rfl).trans et))
 have l2:Qa9 (mgN 6) bL1 (Qbs 0 2) [some (.lst (ns.map D.int)),some (.int (H:Int)),some (.int (W:Int)),some (.lst (rs.map rD)),some (.lst []),some (.ob 0),none,none,none,none,none,none,none] O1 = .nx [some (.lst (ns.map D.int)),some (.int (H:Int)),some (.int (W:Int)),some (.lst (rs.map rD)),some (.lst []),some (.ob 0),some (.int (0+1)),none,none,none,none,none,none] O1:=by
  rw [QdO,Qb1 (ρ1:=[some (.lst (ns.map D.int)),some (.int (H:Int)),some (.int (W:Int)),some (.lst (rs.map rD)),some (.lst []),some (.ob 0),some (.int 0),none,none,none,none,none,none]) rfl (l1 _),QdO,Qb1 (ρ1:=[some (.lst (ns.map D.int)),some (.int (H:Int)),some (.int (W:Int)),some (.lst (rs.map rD)),some (.lst []),some (.ob 0),some (.int (0+1)),none,none,none,none,none,none]) rfl (l1 _)];rfl
 obtain ⟨O2,p7,p8,l3,s2⟩:=QmO (n:=0) (m:=1) (rs:=rs) (o0:=some (.lst (ns.map D.int))) (o4:=some (.lst [])) (o6:=some (.int (0+1))) (o9:=none) (o10:=none) (o11:=none) (o12:=none) (H:=H) (W:=W) (by omega) H 0 O1 none none (by omega) s1;obtain ⟨d,hd,ed⟩:=ixL (l:=Qdg) (v:=c) (n:=6) rfl (by decide);obtain ⟨k,hk,ek⟩:=ixL (l:=Qjl) (v:=c / 6) (n:=6) rfl (by decide);obtain ⟨s,rest,es,hs⟩:=Qn1 rs hl
 have w0h:∀O,QaW [.int 0,.int 0,.int ((H:Int) - 1)] O = .ok (.bl true) O:=fun O=>by
  have e:=QcA 0 0 ((H:Int) - 1) O;rw [zl (by decide),zl (show (0:Int)≤(H:Int) - 1 by omega)] at e;exact e
 have whh:∀O,QaW [.int (H:Int),.int 0,.int ((H:Int) - 1)] O = .ok (.bl false) O:=fun O=>by
  have e:=QcA (H:Int) 0 ((H:Int) - 1) O;rw [zn (show ¬(H:Int)≤(H:Int) - 1 by omega),Bool.and_false] at e;exact e
 have wh1:∀O,QaW [.int ((H:Int) - 1),.int 0,.int ((H:Int) - 1)] O = .ok (.bl true) O:=fun O=>by
  have e:=QcA ((H:Int) - 1) 0 ((H:Int) - 1) O;rw [zl (show (0:Int)≤(H:Int) - 1 by omega),zl (show (H:Int) - 1≤(H:Int) - 1 by omega)] at e;exact e
 have www:∀O,QaW [.int (W:Int),.int 0,.int ((W:Int) - 1)] O = .ok (.bl false) O:=fun O=>by
  have e:=QcA (W:Int) 0 ((W:Int) - 1) O;rw [zn (show ¬(W:Int)≤(W:Int) - 1 by omega),Bool.and_false] at e;exact e
 have n1:=Qf2 s2 (Ql7 (b:=.int 0) s2 (Qoi hd (v:=(H:Int) - 1) (by omega) O2));have s3:=s2.ap (.xc "NoCell" [])
 generalize O2 ++ [Ob.xc "NoCell" []]=O3 at n1 s3
 have n2:=Qf2 s3 (QmT s3 (w0h O3) (Qoi hd (v:=(W:Int) - 1) (by omega) O3));have s4:=s3.ap (.xc "NoCell" [])
 generalize O3 ++ [Ob.xc "NoCell" []]=O4 at n2 s4
 have n3:=Qf2 s4 (Ql7 (b:=.int ((W:Int) - 1)) s4 (whh O4));have s5:=s4.ap (.xc "NoCell" [])
 generalize O4 ++ [Ob.xc "NoCell" []]=O5 at n3 s5
 have n4:=Qf2 s5 (QmT s5 (wh1 O5) (www O5));have s6:=s5.ap (.xc "NoCell" [])
 generalize O5 ++ [Ob.xc "NoCell" []]=O6 at n4 s6
 have n5:=Qkv s6.p (QqW s6.d hs) (fun _=>rfl) (by show some (D.bl (decide (s=s)))=_; rw [zl rfl]);have s7:=s6.ap (.xc "NoHand" [("name",.str s)])
 generalize O6 ++ [Ob.xc "NoHand" [("name",.str s)]]=O7 at n5 s7
 obtain ⟨k1,k2,k3⟩:=Qsq hk s7.d (fun r hr=>(hg r hr).1);have n6:=Qkv s7.p k1 k2 k3
 generalize O7 ++ [Ob.xc "NoHand" [("name",k)]]=O8 at n6
 refine ⟨O8,?_⟩
 have em:Qie "Plan" Qcq (Qab (Qaa 1) (Qab (Qaa 2) (Qab (Qaa 4) Qag))) [some (.lst (ns.map D.int)),some (.int (H:Int)),some (.int (W:Int)),some (.lst (rs.map rD)),some (.lst (rs.map rD)),none,none,none,none,none,none,none,none] [] = .ok (.ob 0) O1:=by
  rw [Qul,show Qab (Qaa 1) (Qab (Qaa 2) (Qab (Qaa 4) Qag)) [some (.lst (ns.map D.int)),some (.int (H:Int)),some (.int (W:Int)),some (.lst (rs.map rD)),some (.lst (rs.map rD)),none,none,none,none,none,none,none,none] [] = .ok [.int (H:Int),.int (W:Int),.lst (rs.map rD)] [] from rfl,Qam,ei,QtN];rfl
 have t4:QaQ (Qae gNe (Qaa 4) (Qaa 3)) [some (.lst (ns.map D.int)),some (.int (H:Int)),some (.int (W:Int)),some (.lst (rs.map rD)),some (.lst (rs.map rD)),some (.ob 0),none,none,none,none,none,none,none] O1 = .ok false O1:=Qco (Qbd (x:=.lst (rs.map rD)) (y:=.lst (rs.map rD)) rfl rfl (QtY (QtX hg)));show Qbe (QkA [some (.lst (ns.map D.int)),none,none,none,none,none,none,none,none,none,none,none,none] [])=_;unfold QkA
 rw [QaA (show QiV _ _ [some (.lst (ns.map D.int)),none,none,none,none,none,none,none,none,none,none,none,none] [] = .nx [some (.lst (ns.map D.int)),some (.int (H:Int)),some (.int (W:Int)),some (.lst (rs.map rD)),none,none,none,none,none,none,none,none,none] [] from by rw [QtB,Qbl (ds:=[.lst (ns.map D.int)]) rfl,ep]; rfl),
  QaA (show Qar 4 _ [some (.lst (ns.map D.int)),some (.int (H:Int)),some (.int (W:Int)),some (.lst (rs.map rD)),none,none,none,none,none,none,none,none,none] [] = .nx [some (.lst (ns.map D.int)),some (.int (H:Int)),some (.int (W:Int)),some (.lst (rs.map rD)),some (.lst (rs.map rD)),none,none,none,none,none,none,none,none] [] from rfl),
  QaA (show Qar 5 _ [some (.lst (ns.map D.int)),some (.int (H:Int)),some (.int (W:Int)),some (.lst (rs.map rD)),some (.lst (rs.map rD)),none,none,none,none,none,none,none,none] [] = .nx [some (.lst (ns.map D.int)),some (.int (H:Int)),some (.int (W:Int)),some (.lst (rs.map rD)),some (.lst (rs.map rD)),some (.ob 0),none,none,none,none,none,none,none] O1 from Qvo em),
  QaA (ifN t4),
  QaA (show Qia 4 [some (.lst (ns.map D.int)),some (.int (H:Int)),some (.int (W:Int)),some (.lst (rs.map rD)),some (.lst (rs.map rD)),some (.ob 0),none,none,none,none,none,none,none] O1 = .nx [some (.lst (ns.map D.int)),some (.int (H:Int)),some (.int (W:Int)),some (.lst (rs.map rD)),some (.lst []),some (.ob 0),none,none,none,none,none,none,none] O1 from rfl)]
 show Qbe (Qak (QbB _ (mgN 6) bL1) (Qak (QbB _ (mgN 7) bL2) _) _ _)=_;rw [QaA ((Qf7 (QfQ (n:=2) rfl (by decide))).trans l2),QaA ((Qf7 (QfQ (n:=H) rfl (by omega))).trans l3)]
 rw [QaA (show Qar 9 _ [some (.lst (ns.map D.int)),some (.int (H:Int)),some (.int (W:Int)),some (.lst (rs.map rD)),some (.lst []),some (.ob 0),some (.int (0+1)),p7,p8,none,none,none,none] O2 = .nx [some (.lst (ns.map D.int)),some (.int (H:Int)),some (.int (W:Int)),some (.lst (rs.map rD)),some (.lst []),some (.ob 0),some (.int (0+1)),p7,p8,some (.lst Qdg),none,none,none] O2 from Qbg (Qs0 _ _)),
  QaA (show Qar 10 _ [some (.lst (ns.map D.int)),some (.int (H:Int)),some (.int (W:Int)),some (.lst (rs.map rD)),some (.lst []),some (.ob 0),some (.int (0+1)),p7,p8,some (.lst Qdg),none,none,none] O2 = .nx [some (.lst (ns.map D.int)),some (.int (H:Int)),some (.int (W:Int)),some (.lst (rs.map rD)),some (.lst []),some (.ob 0),some (.int (0+1)),p7,p8,some (.lst Qdg),some (.int c),none,none] O2 from Qbg ((Qbl (ds:=[.lst (ns.map D.int),.int 2]) rfl).trans (ec O2))),
  QaA (show Qar 11 _ [some (.lst (ns.map D.int)),some (.int (H:Int)),some (.int (W:Int)),some (.lst (rs.map rD)),some (.lst []),some (.ob 0),some (.int (0+1)),p7,p8,some (.lst Qdg),some (.int c),none,none] O2 = .nx [some (.lst (ns.map D.int)),some (.int (H:Int)),some (.int (W:Int)),some (.lst (rs.map rD)),some (.lst []),some (.ob 0),some (.int (0+1)),p7,p8,some (.lst Qdg),some (.int c),some d,none] O2 from Qbg (Qbd (x:=.lst Qdg) rfl (Qed rfl rfl (by decide)) ed))]
 have i1:QbN (Qa1 (Qa4 (Qaq Qbt (Qab (Qaa 5) (Qab (Qaa 11) (Qab (mC (.int 0)) Qag)))))) (Qa1 (Qa4 (Qaq Qbt (Qab (Qaa 5) (Qab (mC (.int 0)) (Qab (Qaa 11) Qag)))))) [some (.lst (ns.map D.int)),some (.int (H:Int)),some (.int (W:Int)),some (.lst (rs.map rD)),some (.lst []),some (.ob 0),some (.int (0+1)),p7,p8,some (.lst Qdg),some (.int c),some d,none] O2 = .ok false O4:=QqI (Qg5 ((QgA (ds:=[.ob 0,d,.int 0]) rfl).trans n1)) (Qg5 ((QgA (ds:=[.ob 0,.int 0,d]) rfl).trans n2));have i2:QbN (Qa1 (Qa4 (Qaq Qbt (Qab (Qaa 5) (Qab (Qaa 1) (Qab (Qae Qdx (Qaa 2) (mC (.int 1))) Qag)))))) (Qa1 (Qa4 (Qaq Qbt (Qab (Qaa 5) (Qab (Qae Qdx (Qaa 1) (mC (.int 1))) (Qab (Qaa 2) Qag)))))) [some (.lst (ns.map D.int)),some (.int (H:Int)),some (.int (W:Int)),some (.lst (rs.map rD)),some (.lst []),some (.ob 0),some (.int (0+1)),p7,p8,some (.lst Qdg),some (.int c),some d,none] O4 = .ok false O6:=QqI (Qg5 ((QgA (ds:=[.ob 0,.int (H:Int),.int ((W:Int) - 1)]) rfl).trans n3)) (Qg5 ((QgA (ds:=[.ob 0,.int ((H:Int) - 1),.int (W:Int)]) rfl).trans n4))
 have fr:=Qsa rs hl (ρ:=[some (.lst (ns.map D.int)),some (.int (H:Int)),some (.int (W:Int)),some (.lst (rs.map rD)),some (.lst []),some (.ob 0),some (.int (0+1)),p7,p8,some (.lst Qdg),some (.int c),some d,none]) (O:=O6) rfl;rw [es,zg] at fr
 rw [QaA (ifN i1),QaA (ifN i2),
  QaA (show Qar 12 _ [some (.lst (ns.map D.int)),some (.int (H:Int)),some (.int (W:Int)),some (.lst (rs.map rD)),some (.lst []),some (.ob 0),some (.int (0+1)),p7,p8,some (.lst Qdg),some (.int c),some d,none] O6 = .nx [some (.lst (ns.map D.int)),some (.int (H:Int)),some (.int (W:Int)),some (.lst (rs.map rD)),some (.lst []),some (.ob 0),some (.int (0+1)),p7,p8,some (.lst Qdg),some (.int c),some d,some (.lst (.str s::rest.map D.str))] O6 from Qbg fr)]
 have a1:Qaq Qcm (Qab (Qaa 5) (Qab (Qae gIx (Qaa 12) (mC (.int 0))) Qag)) [some (.lst (ns.map D.int)),some (.int (H:Int)),some (.int (W:Int)),some (.lst (rs.map rD)),some (.lst []),some (.ob 0),some (.int (0+1)),p7,p8,some (.lst Qdg),some (.int c),some d,some (.lst (.str s::rest.map D.str))] O6 = .ok (.bl true) O7:=(QgA (ds:=[.ob 0,.str s]) (maS rfl (ma1 (Qbd (x:=.lst (.str s::rest.map D.str)) (y:=.int 0) rfl rfl (by rw [QhC,Qbc,QnA]; exact Qf5 (j:=0)))))).trans n5;have a2:Qaq Qcm (Qab (Qaa 5) (Qab (Qae gIx (Qb5 (Qab (mC .non) (Qab (mC (.int 0)) (Qab (mC (.str [])) (Qab (Qc2 (Qab (mC (.str [97])) Qag)) (Qab (Qb5 (Qab (mC (.str [97])) Qag)) (Qab (mC (.dic [] [])) Qag))))))) (Qae QaU (Qae Qcj (Qaa 10) (mC (.int 6))) (mC (.int 6)))) Qag)) [some (.lst (ns.map D.int)),some (.int (H:Int)),some (.int (W:Int)),some (.lst (rs.map rD)),some (.lst []),some (.ob 0),some (.int (0+1)),p7,p8,some (.lst Qdg),some (.int c),some d,some (.lst (.str s::rest.map D.str))] O7 = .ok (.bl true) O8:=(QgA (ds:=[.ob 0,k]) (maS rfl (ma1 (Qbd (x:=.lst Qjl) (Qse _ _) (Qed (QjW rfl rfl (by decide)) rfl (by decide)) ek)))).trans n6
 rw [Qce,QrW a1 a2,Qdp];rfl
theorem all_mk {l:PySem.W.OpenLaw}{w:World}{K:PySem.W.Frag}{h:Heap}{mg:Str→Option Value}{fa:Addr} (X:K.In h) (G:h.Ns mainGlobals mg) (hfa:mg "law" = some (.ref fa))
  {Qec:Addr}
  {Qnd:Addr}{QsT QoG:Option Addr}{QsM:Array (Option Value)}{Qs5 Qph Qoo QoV QkS Qof:Value}
  {ad_WAYS:Addr}{Qmt:Value}{QrK:Option Addr}{it_WAYS:Array Value}{nn_WAYS:Nat}{Qrk:Array (Option Value)}
  {Qbr:Addr}
  {Qa3:Addr}
  {QfJ:Addr}
  {QcC:Addr}
  {QgR:Addr}
  {QfM:Addr}
  {QoP:ClassData}
  {Qop:ClassData}
  {fI_NoHand:Addr}{odI_NoHand anI_NoHand:Option Addr}{slI_NoHand:Array (Option Value)}{ocI_NoHand kVI_NoHand dcI_NoHand pmI_NoHand cdI_NoHand ctI_NoHand:Value}
  {fI_NoRoom:Addr}{odI_NoRoom anI_NoRoom:Option Addr}{slI_NoRoom:Array (Option Value)}{ocI_NoRoom kVI_NoRoom dcI_NoRoom pmI_NoRoom cdI_NoRoom ctI_NoRoom:Value}
  (Z_Plan:ClsAt K "Plan" Qec)
  (QlU:PySem.W.findIn K (.ref Qec) "high" = some none)
  (Qhn:PySem.W.findIn K (.ref Qec) "room_by_name" = some none)
  (Ql2:PySem.W.findIn K (.ref Qec) "wide" = some none)
  (QhG:Def K mg "is_name" Qf3)
  (Qg6:Def K mg "is_whole" Qg0)
  (Qge:Def K mg "is_within" Qgm)
  (Qiz:Def K mg "is_way" QiM)
  (QhQ:Def K mg "of_name" Qhq)
  (Qho:Def K mg "is_room" Qf6)
  (Qe7:Def K mg "lies_within" Qfd)
  (QhM:Def K mg "overlap" QhD)
  (QdP:Def K mg "get_in_the_way" QdS)
  (QgM:Def K mg "has_cell" QgQ)
  (Qez:Def K mg "check_screen" Qel)
  (QeX:Def K mg "check_rooms" QdG)
  (M_Plan___init__:MethAt K Qec "__init__" "Plan.__init__" Qd0)
  (M_Plan_screen_size:MethAt K Qec "screen_size" "Plan.screen_size" Qdb)
  (M_Plan_room_names:MethAt K Qec "room_names" "Plan.room_names" Qdu)
  (M_Plan_room_of:MethAt K Qec "room_of" "Plan.room_of" Qev)
  (M_Plan_room_at:MethAt K Qec "room_at" "Plan.room_at" Qen)
  (Qe9:Def K mg "_law_cell_at" QeY)
  (QhN:Def K mg "_law_mix" QhX)
  (Qgp:Def K mg "_law_names" QeC)
  (QgK:Def K mg "_law_plan" Qd6)
  (QeV:Def K mg "_law_cell_of" Qe5)
  (Qff:Def K mg "_law_no_cell" Qfh)
  (Qe2:Def K mg "_law_no_hand" Qfi)
  (QgS:Def K mg "_law_told" Qfp)
  (Qnj:PySem.W.nsIn K mainGlobals "law" = some (some (.ref Qnd))) (QqR:K.lookup Qnd=some ⟨Qs5,QsT,.func (PySem.W.fnOf "law" "law" (QbD Qd3) (QaX Qd3) (Qaj Qd3) .none Qph Qoo QoV QoG QkS Qof),QsM⟩) (QtQ:PySem.W.codeIn K QkS "law" = true) (QuZ:PySem.W.keepIn K (.ref Qnd)=true)
  (B:QbT mg)
  (Qcc:∃u,mg "BROAD" = some u∧RelV (.int 4) u)
  (Qdw:∃u,mg "GREATEST_HEIGHT" = some u∧RelV (.int 12) u)
  (QdU:∃u,mg "GREATEST_WIDTH" = some u∧RelV (.int 40) u)
  (QeW:∃u,mg "LEAST_WIDTH" = some u∧RelV (.int 2) u)
  (Qcr:∃u,mg "LEFT" = some u∧RelV (.int 2) u)
  (Qem:∃u,mg "LONGEST_NAME" = some u∧RelV (.int 8) u)
  (QfS:∃u,mg "MOST_ROOMS" = some u∧RelV (.int 6) u)
  (QcJ:∃u,mg "NAME" = some u∧RelV (.int 0) u)
  (Qe3:∃u,mg "ROOM_THINGS" = some u∧RelV (.int 6) u)
  (QcN:∃u,mg "TALL" = some u∧RelV (.int 3) u)
  (QcP:∃u,mg "TOP" = some u∧RelV (.int 1) u)
  (QkI:∃u,mg "WAY" = some u∧RelV (.int 5) u)
  (QqA:PySem.W.nsIn K mainGlobals "WAYS" = some (some (.ref ad_WAYS))) (Qp2:K.lookup ad_WAYS=some ⟨Qmt,QrK,.seq it_WAYS nn_WAYS,Qrk⟩) (t_c_WAYS:Qmt = .type "tuple") (QqH:it_WAYS.size≤sizeLine) (v_c_WAYS:Qax (List.map (fun l=>V.str (S l)) [[99,117,116],[99,101,108,108,115],[119,111,114,100,115],[101,118,101,110]]) it_WAYS.toList)
  (Qda:PySem.W.nsIn K mainGlobals "NoCell" = some (some (.ref Qbr)))
  (Qcp:PySem.W.nsIn K mainGlobals "NoHand" = some (some (.ref Qa3)))
  (QhL:PySem.W.nsIn K mainGlobals "NoSize" = some (some (.ref QfJ)))
  (Qhr:PySem.W.nsIn K mainGlobals "NoRoom" = some (some (.ref QcC)))
  (Qiq:PySem.W.nsIn K mainGlobals "OutError" = some (some (.ref QgR)))
  (Qko:PySem.W.nsIn K mainGlobals "NoName" = some (some (.ref QfM)))
  (xsp:PySem.W.specialIn K (.builtin "object.__class__") "__get__" = some (some (.builtin "getset_descriptor.__get__")))
  (xtk:PySem.W.takesIn K (.builtin "object.__class__")=some true)
  (xga_NoCell:PySem.W.findIn K (.ref Qbr) "__getattribute__" = some (some (.builtin "BaseException.__getattribute__")))
  (xna_NoCell:PySem.W.findIn K (.ref Qbr) "__getattr__" = some none)
  (xca_NoCell:PySem.W.findIn K (.ref Qbr) "__class__" = some (some (.builtin "object.__class__")))
  (xob_NoCell:PySem.W.mroIn K Qbr (.type "object")=some true)
  (xbe_NoCell:PySem.W.mroIn K Qbr (.type "BaseException")=some true)
  (xcl_NoCell:PySem.W.clsIn K Qbr=some QoP)
  (xga_NoHand:PySem.W.findIn K (.ref Qa3) "__getattribute__" = some (some (.builtin "BaseException.__getattribute__")))
  (xna_NoHand:PySem.W.findIn K (.ref Qa3) "__getattr__" = some none)
  (xca_NoHand:PySem.W.findIn K (.ref Qa3) "__class__" = some (some (.builtin "object.__class__")))
  (xob_NoHand:PySem.W.mroIn K Qa3 (.type "object")=some true)
  (xbe_NoHand:PySem.W.mroIn K Qa3 (.type "BaseException")=some true)
  (xcl_NoHand:PySem.W.clsIn K Qa3=some Qop)
  (xif_NoHand:PySem.W.findIn K (.ref Qa3) "__init__" = some (some (.ref fI_NoHand)))
  (xii_NoHand:PySem.W.isFn K (.ref fI_NoHand)=true)
  (xil_NoHand:K.lookup fI_NoHand=some ⟨ocI_NoHand,odI_NoHand,.func (PySem.W.fnOf "__init__" "NoHand.__init__" (QbD Qck) (QaX Qck) (Qaj Qck) .none kVI_NoHand dcI_NoHand pmI_NoHand anI_NoHand cdI_NoHand ctI_NoHand),slI_NoHand⟩)
  (xic_NoHand:PySem.W.codeIn K cdI_NoHand "NoHand.__init__" = true)
  (xik_NoHand:PySem.W.keepIn K (.ref fI_NoHand)=true)
  (xis_NoHand:PySem.W.findIn K (.ref Qa3) "__setattr__" = some (some (.builtin "object.__setattr__")))
  (xin_NoHand:PySem.W.findIn K (.ref Qa3) "name" = some none)
  (xio_NoHand:PySem.W.mroIn K Qa3 (.type "object")=some true)
  (xix_NoHand:Qht K Qa3 bmV "ValueError.__new__" fI_NoHand=true)
  (xif_NoRoom:PySem.W.findIn K (.ref QcC) "__init__" = some (some (.ref fI_NoRoom)))
  (xii_NoRoom:PySem.W.isFn K (.ref fI_NoRoom)=true)
  (xil_NoRoom:K.lookup fI_NoRoom=some ⟨ocI_NoRoom,odI_NoRoom,.func (PySem.W.fnOf "__init__" "NoRoom.__init__" (QbD Qcl) (QaX Qcl) (Qaj Qcl) .none kVI_NoRoom dcI_NoRoom pmI_NoRoom anI_NoRoom cdI_NoRoom ctI_NoRoom),slI_NoRoom⟩)
  (xic_NoRoom:PySem.W.codeIn K cdI_NoRoom "NoRoom.__init__" = true)
  (xik_NoRoom:PySem.W.keepIn K (.ref fI_NoRoom)=true)
  (xis_NoRoom:PySem.W.findIn K (.ref QcC) "__setattr__" = some (some (.builtin "object.__setattr__")))
  (xin_NoRoom:PySem.W.findIn K (.ref QcC) "at" = some none)
  (xio_NoRoom:PySem.W.mroIn K QcC (.type "object")=some true)
  (xix_NoRoom:Qht K QcC bmV "ValueError.__new__" fI_NoRoom=true)
  (xN_NoSize:PySem.W.excIn K QfJ bmV "ValueError.__new__" = true)
  (xN_NoCell:PySem.W.excIn K Qbr bmV "ValueError.__new__" = true)
  (fEX_NoCell_NoCell:PySem.W.exmOne K (.ref Qbr) (.ref Qbr)=some true)
  (fIS_OutError_NoCell:PySem.W.kitOne K (.ref Qbr) (.ref QgR)=some true)
  (xve:PySem.W.nsIn K mainGlobals "ValueError" = some none)
  (fIV_NoCell:PySem.W.kitOne K (.ref Qbr) (.type "ValueError")=some true)
  (fIT_NoHandNoNameNoRoomNoSize_NoCell:PySem.W.kitAny K (.ref Qbr) [.ref Qa3,.ref QfM,.ref QcC,.ref QfJ]=some false)
  (fEX_NoHand_NoHand:PySem.W.exmOne K (.ref Qa3) (.ref Qa3)=some true)
  (fIS_OutError_NoHand:PySem.W.kitOne K (.ref Qa3) (.ref QgR)=some true)
  (fIV_NoHand:PySem.W.kitOne K (.ref Qa3) (.type "ValueError")=some true)
  (fIT_NoCellNoNameNoRoom_NoHand:PySem.W.kitAny K (.ref Qa3) [.ref Qbr,.ref QfM,.ref QcC]=some false)
  (fXA_name_NoHand:PySem.W.findIn K (.ref Qa3) "name" = some none) (hXA_name_NoHand:PySem.W.hasDictIn K Qa3=true)
  (fIS_NoSize_NoHand:PySem.W.kitOne K (.ref Qa3) (.ref QfJ)=some false) :
  ∃fd:FuncData,(∀(s:Shared) (v:Value),BindsTo s fd ⟨[v],[]⟩ [("_law_script",v)])∧∀base:Heap,K.In base→base.Ns mainGlobals mg→Qbp l.prog w K mg base CX0 6 fa fd ["_law_script"] (sp_law K):=by
 have e:=hfa.symm.trans (PySem.W.mg_of X G Qnj);cases e;have QbV:=Z_Plan.kf X G QlU;have QaL:=Z_Plan.kf X G Qhn;have QbW:=Z_Plan.kf X G Ql2;have Qd2:=Z_Plan.dc X G M_Plan___init__;have Qdh:=Z_Plan.dm X G M_Plan_screen_size;have Qdq:=Z_Plan.dm X G M_Plan_room_names;have Qep:=Z_Plan.dm X G M_Plan_room_of;have QeB:=Z_Plan.dm X G M_Plan_room_at;have Qnm:Def K mg "law" Qd3:=⟨_,_,PySem.W.mg_of X G Qnj,Qhv (st:=Qd3) QqR QtQ QuZ⟩;have QlQ:Qp3 K mg "WAYS" [[99,117,116],[99,101,108,108,115],[119,111,114,100,115],[101,118,101,110]]:=⟨ad_WAYS,_,it_WAYS,nn_WAYS,PySem.W.mg_of X G QqA,Qp2,t_c_WAYS,rfl,QqH,v_c_WAYS⟩
 have XF_NoCell:Qeo K Qbr:=⟨xga_NoCell,xna_NoCell,xca_NoCell,xsp,xtk,xob_NoCell,xbe_NoCell,by rw [xcl_NoCell]; rfl⟩;have XF_NoHand:Qeo K Qa3:=⟨xga_NoHand,xna_NoHand,xca_NoHand,xsp,xtk,xob_NoHand,xbe_NoHand,by rw [xcl_NoHand]; rfl⟩;have DI_NoHand:QjX K mg "NoHand" "name" "NoHand.__init__" Qck:=⟨_,_,_,PySem.W.mg_of X G Qcp,⟨xix_NoHand,xis_NoHand,xin_NoHand,xio_NoHand⟩,xii_NoHand,Qhv (st:=Qck) xil_NoHand xic_NoHand xik_NoHand⟩;have DI_NoRoom:QjX K mg "NoRoom" "at" "NoRoom.__init__" Qcl:=⟨_,_,_,PySem.W.mg_of X G Qhr,⟨xix_NoRoom,xis_NoRoom,xin_NoRoom,xio_NoRoom⟩,xii_NoRoom,Qhv (st:=Qcl) xil_NoRoom xic_NoRoom xik_NoRoom⟩
 have X_NoSize:Qlt K mg "NoSize":=⟨_,PySem.W.mg_of X G QhL,xN_NoSize⟩;have X_NoCell:Qlt K mg "NoCell":=⟨_,PySem.W.mg_of X G Qda,xN_NoCell⟩;have EX_NoCell_NoCell:EXM K mg "NoCell" "NoCell" true:=⟨_,_,PySem.W.mg_of X G Qda,PySem.W.mg_of X G Qda,fEX_NoCell_NoCell⟩;have IS_OutError_NoCell:ISN K mg "OutError" "NoCell" true:=⟨_,_,PySem.W.mg_of X G Qda,XF_NoCell,PySem.W.mg_of X G Qiq,fIS_OutError_NoCell⟩;have VN:=PySem.W.mg_none_of X G xve;have IV_NoCell:ISV K mg "NoCell":=⟨_,PySem.W.mg_of X G Qda,XF_NoCell,fIV_NoCell⟩;have IT_NoHandNoNameNoRoomNoSize_NoCell:QiF K mg ["NoHand","NoName","NoRoom","NoSize"] "NoCell" false:=⟨Qbr,[Qa3,QfM,QcC,QfJ],PySem.W.mg_of X G Qda,XF_NoCell,⟨_,_,rfl,PySem.W.mg_of X G Qcp,⟨_,_,rfl,PySem.W.mg_of X G Qko,⟨_,_,rfl,PySem.W.mg_of X G Qhr,⟨_,_,rfl,PySem.W.mg_of X G QhL,rfl⟩⟩⟩⟩,fIT_NoHandNoNameNoRoomNoSize_NoCell⟩
 have EX_NoHand_NoHand:EXM K mg "NoHand" "NoHand" true:=⟨_,_,PySem.W.mg_of X G Qcp,PySem.W.mg_of X G Qcp,fEX_NoHand_NoHand⟩;have IS_OutError_NoHand:ISN K mg "OutError" "NoHand" true:=⟨_,_,PySem.W.mg_of X G Qcp,XF_NoHand,PySem.W.mg_of X G Qiq,fIS_OutError_NoHand⟩;have IV_NoHand:ISV K mg "NoHand":=⟨_,PySem.W.mg_of X G Qcp,XF_NoHand,fIV_NoHand⟩;have IT_NoCellNoNameNoRoom_NoHand:QiF K mg ["NoCell","NoName","NoRoom"] "NoHand" false:=⟨Qa3,[Qbr,QfM,QcC],PySem.W.mg_of X G Qcp,XF_NoHand,⟨_,_,rfl,PySem.W.mg_of X G Qda,⟨_,_,rfl,PySem.W.mg_of X G Qko,⟨_,_,rfl,PySem.W.mg_of X G Qhr,rfl⟩⟩⟩,fIT_NoCellNoNameNoRoom_NoHand⟩
 have XA_name_NoHand:XFC K mg "name" "NoHand":=⟨_,PySem.W.mg_of X G Qcp,XF_NoHand,fXA_name_NoHand,hXA_name_NoHand⟩;have IS_NoSize_NoHand:ISN K mg "NoSize" "NoHand" false:=⟨_,_,PySem.W.mg_of X G Qcp,XF_NoHand,PySem.W.mg_of X G QhL,fIS_NoSize_NoHand⟩;refine ⟨PySem.W.fnOf "law" "law" (QbD Qd3) (QaX Qd3) (Qaj Qd3) .none Qph Qoo QoV QoG QkS Qof,fun s v=>.of_eq rfl,fun base _ _=>?_⟩;have XI_NoHand:=@Qod l.prog w K mg base DI_NoHand;have XI_NoRoom:=@Qok l.prog w K mg base DI_NoRoom;have QhS:=@Qm1 l.prog w K mg base QhG B Qem;have Qdo:=@QlW l.prog w K mg base Qg6 B;have Qb9:=@QlB l.prog w K mg base Qge B Qdo
 have Qiu:=@Qor l.prog w K mg base Qiz B QlQ;have Qhx:=@Qm0 l.prog w K mg base QhQ B XI_NoHand;have QhB:=@QnB l.prog w K mg base Qho B Qcc Qcr QcJ Qe3 QcN QcP QkI Qdo QhS Qiu;have Qfg:=@QjT l.prog w K mg base Qe7 B Qcc Qcr QcN QcP;have Qf0:=@Qm4 l.prog w K mg base QhM B;have QdT:=@Qij l.prog w K mg base QdP B Qcc Qcr QcJ QcN QcP Qf0;have QgP:=@QlT l.prog w K mg base QgM B Qcc Qcr QcN QcP;have Qek:=@Qjq l.prog w K mg base Qez B Qdw QdU QeW X_NoSize Qb9;have Qfc:=@QjH l.prog w K mg base QeX B QfS XI_NoRoom QhB Qfg QdT;have Qd4:=@QiN l.prog w K mg base Qd2 B QcJ QbV QbW QaL Qek Qfc;have Qdk:=@Qhl l.prog w K mg base Qdh B QbV QbW
 have Qdr:=@Qh1 l.prog w K mg base Qdq B QaL;have Qca:=@Qjn l.prog w K mg base Qep B QaL Qhx;have Qcb:=@QiX l.prog w K mg base QeB B QcJ QaL QbV QbW X_NoCell Qb9 QgP;have Qb2:=@Qj3 l.prog w K mg base Qe9 B;have Qbo:=@Qnq l.prog w K mg base QhN B;have Qgk:=@Qk0 l.prog w K mg base Qgp B Qbo;have Qg3:=@Ql1 l.prog w K mg base QgK B Qb2 Qbo Qgk;have Qfa:=@QjD l.prog w K mg base QeV B;have Qcn:=@QjI l.prog w K mg base Qff B EX_NoCell_NoCell IS_OutError_NoCell VN IV_NoCell IT_NoHandNoNameNoRoomNoSize_NoCell Qcb;have QdJ:=@QjU l.prog w K mg base Qe2 B EX_NoHand_NoHand IS_OutError_NoHand VN IV_NoHand IT_NoCellNoNameNoRoom_NoHand XA_name_NoHand IS_NoSize_NoHand Qca
 have Qg4:=@QlZ l.prog w K mg base QgS B Qdk Qdr Qca.can;have QvH:=@Quo l.prog w K mg base Qnm B Qg3 Qd4.can Qg4 Qcb.can Qfa Qb2 Qcn QdJ;obtain ⟨f',fd',hm',hk',hb',F',oc',od',osl',lk'⟩:=QvH;have e2:=(PySem.W.mg_of X G Qnj).symm.trans hm';cases e2;have e3:=QqR.symm.trans lk';cases e3;exact F'.imp (Qst Qqr)
theorem walk {l:PySem.W.OpenLaw}{q:Program}{loose:List Str}{XP:(Str→Option Value)→Heap→Prop}{YP:World→Heap→Prop}{d:DefRec}{K:Params→PySem.W.Frag} (hn:l.most=some 63) (hdf:d.params.defaults = [])
  (hY:∀(w:World) (h:Heap),YP w h→(K w.params).In h)
  (F:∀(w:World) (mg:Str→Option Value) (fa:Addr) (h:Heap),(K w.params).In h→h.Ns mainGlobals mg→mg d.name=some (.ref fa) →
   ∃fd:FuncData,(∀(s:Shared) (u:Value),BindsTo s fd ⟨[u],[]⟩ [("_law_script",u)])∧∀base:Heap,(K w.params).In base→base.Ns mainGlobals mg→Qbp l.prog w (K w.params) mg base CX0 6 fa fd ["_law_script"] (sp_law (K w.params))) :
  PySem.W.WalkO q loose XP YP l.row.toRowW d [] (fun f vs=>PySem.call f vs) :=
 L2.walk_ofR (n:=63) (k:=6) (x:="_law_script") (CX:=fun _=>CX0) (sp:=fun w=>sp_law (K w.params)) hn (by decide) hdf ⟨rfl,by decide,by decide⟩ hY F (fun _ _ a ns hl ho hS=>⟨a,ns,rfl,hS,hl,ho,fun _=>rfl⟩) fun _ _ _ _ _ z=>z
end K61
open PySem PySem.W PyProof.Rows L2
set_option maxRecDepth 100000 in
set_option maxHeartbeats 0 in
theorem PySem.Challenge.cw_outweave_k61_plans_told_holds : PySem.Challenge.rw_outweave_k61_plans_told.Holds := by
 w_on; o_law; k_head; (case hw=>w_witness2)
 k_fill
 refine K61.walk (l:=PySem.Challenge.rw_outweave_k61_plans_told) rfl rfl (fun w h Y=>PySem.W.kIn_of Y) ?F
 case F =>
  intro w mg fa h KX G hmg
  refine' K61.all_mk KX G hmg ⟨?x1,?x2,?x3,?x4,?x5,?x6,?x7⟩ ?x8 ?x9 ?x10 (mkD KX G ?x11 ?x12 ?x13 ?x14) (mkD KX G ?x15 ?x16 ?x17 ?x18) (mkD KX G ?x19 ?x20 ?x21 ?x22) (mkD KX G ?x23 ?x24 ?x25 ?x26) (mkD KX G ?x27 ?x28 ?x29 ?x30) (mkD KX G ?x31 ?x32 ?x33 ?x34) (mkD KX G ?x35 ?x36 ?x37 ?x38) (mkD KX G ?x39 ?x40 ?x41 ?x42) (mkD KX G ?x43 ?x44 ?x45 ?x46) (mkD KX G ?x47 ?x48 ?x49 ?x50) (mkD KX G ?x51 ?x52 ?x53 ?x54) (mkD KX G ?x55 ?x56 ?x57 ?x58) (mkM ?x59 ?x60 ?x61 ?x62 ?x63) (mkM ?x64 ?x65 ?x66 ?x67 ?x68) (mkM ?x69 ?x70 ?x71 ?x72 ?x73) (mkM ?x74 ?x75 ?x76 ?x77 ?x78) (mkM ?x79 ?x80 ?x81 ?x82 ?x83) (mkD KX G ?x84 ?x85 ?x86 ?x87) (mkD KX G ?x88 ?x89 ?x90 ?x91) (mkD KX G ?x92 ?x93 ?x94 ?x95) (mkD KX G ?x96 ?x97 ?x98 ?x99) (mkD KX G ?x100 ?x101 ?x102 ?x103) (mkD KX G ?x104 ?x105 ?x106 ?x107) (mkD KX G ?x108 ?x109 ?x110 ?x111) (mkD KX G ?x112 ?x113 ?x114 ?x115) ?x116 ?x117 ?x118 ?x119 ⟨⟨PySem.W.mg_none_of KX G ?x120,PySem.W.mg_none_of KX G ?x121,PySem.W.mg_none_of KX G ?x122,PySem.W.mg_none_of KX G ?x123,PySem.W.mg_none_of KX G ?x124,PySem.W.mg_none_of KX G ?x125,PySem.W.mg_none_of KX G ?x126,PySem.W.mg_none_of KX G ?x127,PySem.W.mg_none_of KX G ?x128,PySem.W.mg_none_of KX G ?x129,PySem.W.mg_none_of KX G ?x130,PySem.W.mg_none_of KX G ?x131,PySem.W.mg_none_of KX G ?x132,PySem.W.mg_none_of KX G ?x133,PySem.W.mg_none_of KX G ?x134⟩,PySem.W.mg_none_of KX G ?x135⟩ ⟨_,PySem.W.mg_of KX G ?x136,?x137⟩ ⟨_,PySem.W.mg_of KX G ?x138,?x139⟩ ⟨_,PySem.W.mg_of KX G ?x140,?x141⟩ ⟨_,PySem.W.mg_of KX G ?x142,?x143⟩ ⟨_,PySem.W.mg_of KX G ?x144,?x145⟩ ⟨_,PySem.W.mg_of KX G ?x146,?x147⟩ ⟨_,PySem.W.mg_of KX G ?x148,?x149⟩ ⟨_,PySem.W.mg_of KX G ?x150,?x151⟩ ⟨_,PySem.W.mg_of KX G ?x152,?x153⟩ ⟨_,PySem.W.mg_of KX G ?x154,?x155⟩ ⟨_,PySem.W.mg_of KX G ?x156,?x157⟩ ⟨_,PySem.W.mg_of KX G ?x158,?x159⟩ ?x160 ?x161 ?x162 ?x163 ?x164 ?x165 ?x166 ?x167 ?x168 ?x169 ?x170 ?x171 ?x172 ?x173 ?x174 ?x175 ?x176 ?x177 ?x178 ?x179 ?x180 ?x181 ?x182 ?x183 ?x184 ?x185 ?x186 ?x187 ?x188 ?x189 ?x190 ?x191 ?x192 ?x193 ?x194 ?x195 ?x196 ?x197 ?x198 ?x199 ?x200 ?x201 ?x202 ?x203 ?x204 ?x205 ?x206 ?x207 ?x208 ?x209 ?x210 ?x211 ?x212 ?x213 ?x214 ?x215 ?x216
  (case x1 | x2 | x3 | x4 | x5 | x6 | x7 | x8 | x9 | x10 | x11 | x12 | x13 | x14 | x15 | x16 | x17 | x18 | x19 | x20 | x21 | x22 | x23 | x24 | x25 | x26 | x27 | x28 | x29 | x30 | x31 | x32 | x33 | x34 | x35 | x36 | x37 | x38 | x39 | x40 | x41 | x42 | x43 | x44 | x45 | x46 | x47 | x48 | x49 | x50 | x51 | x52 | x53 | x54 | x55 | x56 | x57 | x58 | x59 | x60 | x61 | x62 | x63 | x64 | x65 | x66 | x67 | x68 | x69 | x70 | x71 | x72 | x73 | x74 | x75 | x76 | x77 | x78 | x79 | x80 | x81 | x82 | x83 | x84 | x85 | x86 | x87 | x88 | x89 | x90 | x91 | x92 | x93 | x94 | x95 | x96 | x97 | x98 | x99 | x100 | x101 | x102 | x103 | x104 | x105 | x106 | x107 | x108 | x109 | x110 | x111 | x112 | x113 | x114 | x115 | x116 | x117 | x118 | x119 | x120 | x121 | x122 | x123 | x124 | x125 | x126 | x127 | x128 | x129 | x130 | x131 | x132 | x133 | x134 | x135 | x136 | x138 | x140 | x142 | x144 | x146 | x148 | x150 | x152 | x154 | x156 | x158 | x160 | x161 | x165 | x166 | x167 | x168 | x169 | x170 | x171 | x172 | x173 | x174 | x175 | x176 | x177 | x178 | x179 | x180 | x181 | x182 | x183 | x184 | x185 | x186 | x187 | x188 | x189 | x190 | x191 | x192 | x194 | x195 | x196 | x197 | x198 | x199 | x200 | x201 | x207 | x214 | x215=>k_is)
  (case x137 | x139 | x141 | x143 | x145 | x147 | x149 | x151 | x153 | x155 | x157 | x159=>exact ⟨_,rfl⟩)
  (case x162=>rfl)
  (case x163=>decide +kernel)
  (case x164=>repeat (first | exact .nil | refine .cons ⟨_,rfl⟩ ?_))
  (case x193 | x202=>first | kernel_rfl | decide +kernel)
  (case x203 | x204=>k_exc)
  (case x205 | x210=>kts_exm)
  (case x206 | x208 | x209 | x211 | x212 | x213 | x216=>kit_is)
