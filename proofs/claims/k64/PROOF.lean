import PyProof.Rows.All
import Wide.All
import OpenK.AllK
import Wide.FinOn
import Lean
import PyProof.EqAt
import PyProof.EqKinds
import PyProof.TupleCall
import PySem.Challenge.RW_outweave_k64_whole_nothing_lost
set_option Elab.async false
set_option linter.all false
set_option maxRecDepth 100000
set_option maxHeartbeats 4000000
section
open PySem PyProof.Rows
abbrev za:=@wpAny_bind
abbrev zc:=@wpAny_pure
abbrev zd:=@List.length_map
abbrev ze:=@Nat.le_refl
abbrev zf:=@List.map_cons
abbrev zg:=@Heap.lt_size
abbrev zh:=@decide_eq_false
abbrev zj:=@Bool.false_ne_true
abbrev zk:=@List.getElem?_eq_some_iff
abbrev zl:=@Heap.get?_push_of_some
abbrev zm:=@List.mem_cons_self
abbrev zn:=@List.length_append
abbrev zo:=@List.getElem?_eq_getElem
abbrev zp:=@List.size_toArray
abbrev zq:=@decide_eq_true
abbrev zr:=@Bool.and_eq_true
abbrev zt:=@List.mem_cons
abbrev zu:=@List.getElem?_set_ne
abbrev zv:=@Nat.ne_of_lt
abbrev zx:=@List.mem_cons_of_mem
abbrev zy:=@List.mem_singleton
abbrev zz:=@List.length_cons
abbrev zA:=@Heap.get?_push_size
abbrev zB:=@List.getElem?_append_left
abbrev zC:=@List.nil_append
abbrev zD:=@List.getElem?_map
abbrev zE:=@Nat.lt_of_lt_of_le
abbrev zF:=@Nat.le_trans
abbrev zG:=@List.mem_map
abbrev zH:=@Option.some.inj
abbrev zI:=@List.getElem?_cons_zero
abbrev zJ:=@List.mem_append
abbrev zK:=@List.mem_append_right
abbrev zL:=@List.getElem?_append_right
abbrev zM:=@List.map_append
abbrev zN:=@wpAny_mono
abbrev zO:=@List.append_nil
abbrev zP:=@List.getElem?_cons_succ
abbrev zQ:=@List.mem_of_getElem?
abbrev zR:=@wpAny_holding
abbrev zS:=@List.length_singleton
abbrev zT:=@List.getElem?_set_self
abbrev zU:=@List.length_nil
abbrev zV:=@Nat.lt_irrefl
abbrev zW:=@List.map_map
abbrev zX:=@List.append_assoc
abbrev zY:=@List.map_nil
abbrev zZ:=@Nat.zero_add
abbrev ja:=@Int.emod_nonneg
abbrev jb:=@Int.emod_lt_of_pos
abbrev jc:=@Nat.lt_succ_self
abbrev jd:=@wpAny_rule
abbrev je:=@wpAny_updateSeq
abbrev jf:=@List.getD_eq_getElem?_getD
abbrev jg:=@Nat.lt_succ_of_lt
abbrev jh:=@codeAny_builtin
abbrev ji:=@Heap.get?_update_other
abbrev jj:=@List.length_set
abbrev jk:=@List.set_cons_succ
abbrev jl:=@List.set_cons_zero
abbrev jm:=@wpAny_letGo
abbrev jn:=@List.getElem_mem
abbrev jo:=@List.mem_append_left
abbrev jp:=@of_decide_eq_true
abbrev jq:=@List.nodup_append
abbrev jr:=@Nat.le_add_right
abbrev js:=@List.map_congr_left
end
namespace PySem.W.Fast
abbrev tw13446692005158346355:=()
abbrev tw10548066460771532685:=()
abbrev tw12650353550546641777:=()
abbrev tw5923075692797581111:=()
abbrev tw13234860322916229704:=()
abbrev tw9061188948456175028:=()
abbrev tw17285912588553251614:=()
abbrev tw13602048852565633430:=()
abbrev tw11351743220237494887:=()
abbrev tw6457497369861100936:=()
abbrev tw7341252817397579695:=()
abbrev tw2418650732756421512:=()
abbrev tw4998459238747634077:=()
abbrev tw1254484182929343289:=()
abbrev tw8154610526147277811:=()
abbrev tw18257861095775054381:=()
abbrev tw430184295910283490:=()
abbrev tw18168123414226750796:=()
abbrev tw6468594959316853973:=()
abbrev tw6892703695635585303:=()
end PySem.W.Fast
namespace L2
open PySem PySem.Spec PyProof.Rows
abbrev Key:=Sum Int Str
def QiY:Key→Value→Bool
 | .inl k,v=>Value.isInt k v
 | .inr x,v=>Value.isStrOf x v
def Qxl (w:World):Key→Int
 | .inl k=>hashInt k
 | .inr x=>hashStr w x
theorem Qb1:∀{k:Key}{v:Value},QiY k v=true→(∃i t,k=Sum.inl i∧v=Value.int i t)∨(∃x t,k=Sum.inr x∧v=Value.str x t)
 | .inl i,v,h=>by
  obtain ⟨t,e⟩:=Value.isInt_shape (k:=i) (v:=v) h;exact .inl ⟨i,t,rfl,e⟩
 | .inr x,v,h=>by
  obtain ⟨t,e⟩:=Value.isStrOf_shape (x:=x) (v:=v) h;exact .inr ⟨x,t,rfl,e⟩
theorem QqA (i:Int) (t:Tok):QiY (.inl i) (.int i t)=true:=by simp [QiY,Value.isInt]
theorem QpF (x:Str) (t:Tok):QiY (.inr x) (.str x t)=true:=by simp [QiY,Value.isStrOf]
theorem Qu2 (a b:Int):decide ((Sum.inl a:Key)=Sum.inl b)=(a == b):=by
 by_cases e:a=b
 ·subst e; simp
 ·have h:¬(Sum.inl a:Key)=Sum.inl b:=fun q=>e (Sum.inl.inj q)
  rw [zh h];exact (beq_eq_false_iff_ne.mpr e).symm
theorem Qve (a b:Str):decide ((Sum.inr a:Key)=Sum.inr b)=decide (a=b):=by
 by_cases e:a=b
 ·subst e; simp
 ·have h:¬(Sum.inr a:Key)=Sum.inr b:=fun q=>e (Sum.inr.inj q)
  rw [zh h,zh e]
theorem Qvv (a:Int) (b:Str):decide ((Sum.inl a:Key)=Sum.inr b)=false:=zh (fun q=>nomatch q)
theorem Qut (a:Str) (b:Int):decide ((Sum.inr a:Key)=Sum.inl b)=false:=zh (fun q=>nomatch q)
def QbX (prog:Program) (w:World):PySem.KeyKind prog w Key where
 is:=QiY
 hash:=Qxl w
 inj:=fun v a b ha hb=>by
  rcases Qb1 ha with ⟨i,t,rfl,rfl⟩ | ⟨x,t,rfl,rfl⟩
  ·rcases Qb1 hb with ⟨j,u,rfl,e⟩ | ⟨y,u,rfl,e⟩
   ·injection e with e1 _; rw [e1]
   ·exact nomatch e
  ·rcases Qb1 hb with ⟨j,u,rfl,e⟩ | ⟨y,u,rfl,e⟩
   ·exact nomatch e
   ·injection e with e1 _; rw [e1]
 byValue:=fun k v h=>by
  rcases Qb1 h with ⟨i,t,rfl,rfl⟩ | ⟨x,t,rfl,rfl⟩ <;> rfl
 pyHash:=fun hv h=>by
  rcases Qb1 hv with ⟨i,t,rfl,rfl⟩ | ⟨x,t,rfl,rfl⟩
  ·exact wpAny_pyHash_int h
  ·exact wpAny_pyHash_str h
 eqBool:=fun hu hv h=>by
  rcases Qb1 hu with ⟨i,t,rfl,rfl⟩ | ⟨x,t,rfl,rfl⟩
  ·rcases Qb1 hv with ⟨j,u,rfl,rfl⟩ | ⟨y,u,rfl,rfl⟩
   ·rw [Qu2] at h; exact wpAny_eqBool_int h
   ·rw [Qvv] at h; exact SeqAt.EqAt.int_str i t y u _ _ _ _ h
  ·rcases Qb1 hv with ⟨j,u,rfl,rfl⟩ | ⟨y,u,rfl,rfl⟩
   ·rw [Qut] at h; exact SeqAt.EqAt.str_int x t j u _ _ _ _ h
   ·rw [Qve] at h; exact wpAny_eqBool_str h
 «strs»:=fun k x t v h=>by
  rcases Qb1 h with ⟨i,u,rfl,e⟩ | ⟨y,u,rfl,e⟩
  ·exact nomatch e
  ·injection e with e1 _
   subst e1
   cases v <;> rfl
theorem Qnk (prog:Program) (w:World) (i:Int) (t:Tok):(QbX prog w).is (.inl i) (.int i t)=true:=QqA i t
theorem Qno (prog:Program) (w:World) (x:Str) (t:Tok):(QbX prog w).is (.inr x) (.str x t)=true:=QpF x t
inductive V where
 | non | bl (b:Bool) | int (i:Int) | str (x:Str) | byt (b:Array UInt8) | flt (b:UInt64) | ref (a:Addr) | ty (n:String)
 deriving DecidableEq
def RelV:V→Value→Prop
 | .non,u=>u=Value.none
 | .bl b,u=>u=Value.bool b
 | .int i,u=>∃t,u=Value.int i t
 | .str x,u=>∃t,u=Value.str x t
 | .byt b,u=>∃t,u=Value.bytes b t
 | .flt b,u=>∃t,u=Value.float b t
 | .ref a,u=>u=Value.ref a
 | .ty n,u=>u=Value.type n
abbrev Qaz:List V→List Value→Prop:=Paired RelV
theorem Qaz.length {xs:List V}{us:List Value} (r:Qaz xs us):xs.length=us.length:=Paired.length r
theorem Qaz.get:∀{xs:List V}{us:List Value}{i:Nat}{x:V},Qaz xs us→xs[i]? = some x→∃u,us[i]? = some u∧RelV x u
 | _,_,_,_,.nil,e=>by simp at e
 | _,_,0,_,.cons r _,e=>by simp at e; subst e; exact ⟨_,rfl,r⟩
 | _,_,i+1,x,.cons _ t,e=>by
  obtain ⟨u,h1,h2⟩:=Qaz.get (i:=i) (x:=x) t (by simpa using e);exact ⟨u,by simpa using h1,h2⟩
theorem Qaz.set {x:V}{u:Value} (r:RelV x u):∀{xs:List V}{us:List Value} (i:Nat),Qaz xs us→Qaz (xs.set i x) (us.set i u)
 | _,_,_,.nil=>.nil
 | _,_,0,.cons _ t=>.cons r t
 | _,_,i+1,.cons q t=>.cons q (Qaz.set r i t)
theorem Qaz.append:∀{xs ys:List V}{us ws:List Value},Qaz xs us→Qaz ys ws→Qaz (xs++ys) (us++ws)
 | _,_,_,_,.nil,s=>s
 | _,_,_,_,.cons r t,s=>.cons r (Qaz.append t s)
theorem Qaz.take:∀{xs:List V}{us:List Value} (n:Nat),Qaz xs us→Qaz (xs.take n) (us.take n)
 | _,_,0,_=>.nil
 | _,_,_+1,.nil=>.nil
 | _,_,n+1,.cons r t=>.cons r (Qaz.take n t)
theorem Qaz.drop:∀{xs:List V}{us:List Value} (n:Nat),Qaz xs us→Qaz (xs.drop n) (us.drop n)
 | _,_,0,r=>r
 | _,_,_+1,.nil=>.nil
 | _,_,n+1,.cons _ t=>Qaz.drop n t
theorem Qaz.none_of:∀{xs:List V}{us:List Value}{i:Nat},Qaz xs us→xs[i]? = none→us[i]? = none:=fun {xs us i} r e=>by
 have h1:=r.length;have h2:xs.length≤i:=List.getElem?_eq_none_iff.mp e;exact List.getElem?_eq_none_iff.mpr (by omega)
def Qc8:Option V→Option Value→Prop
 | some v,some u=>RelV v u
 | none,none=>True
 | _,_=>False
def KV {κ:Type}:List (κ×V)→List (κ×Value)→Prop:=Paired fun (p:κ×V) (q:κ×Value)=>p.1=q.1∧RelV p.2 q.2
def kV:Key→V
 | .inl i=>.int i
 | .inr x=>.str x
inductive HO where
  | lst (xs:List V)
  | tup (xs:List V)
  | dK (kvs:List (Key×V)) | dT (kvs:List (List Key×V))
  | set (S:Int→Bool) (n:Nat)
  | ins (C dx:Addr) (fs:List (Str×V))
  | own (x:Addr)
  | xd (fs:List (Str×V))
  | met (f x:Addr)
  | rng (lo hi:Int)
  | frz (o:Obj) (u:HO)
  | tbl (ps:Array Value)
  | ext (φ:Heap→Prop)
abbrev Hp:=Addr→Option HO
def upd (H:Hp) (a:Addr) (o:HO):Hp:=fun b=>if b=a then some o else H b
theorem QaG {H:Hp}{a:Addr}{o:HO}:upd H a o a=some o:=by unfold upd; rw [if_pos rfl]
theorem Qar {H:Hp}{a b:Addr}{o:HO} (h:b≠a):upd H a o b=H b:=by unfold upd; rw [if_neg h]
theorem ne_of {H:Hp}{a b:Addr}{o u:HO} (h:H a=some o) (h':H b=some u) (d:o≠u):a≠b:=by
 intro e; subst e; rw [h] at h'; exact d (zH h')
theorem QaC {H:Hp}{a b:Addr}{o:HO} (h:H a=some o) (h':H b=none):a≠b:=by
 intro e; subst e; rw [h] at h'; cases h'
section
variable (P:Program) (w:World)
def Qbe (H:Hp) (h:Heap) (a:Addr):HO→Prop
 | .lst xs=>xs.length≤sizeLine∧∃(its:List Value) (n:Nat),Qaz xs its∧h.get? a=some { cls:=.type "list",data:=.seq its.toArray n }
 | .tup xs=>xs.length≤sizeLine∧∃its:List Value,Qaz xs its∧IsTup h a its.toArray
 | .dK kvs=>kvs.length≤sizeLine∧(a == sysModules)=false∧∃vs,KV kvs vs∧h.DictOf (QbX P w) a vs
 | .dT kvs=>kvs.length≤sizeLine∧(a == sysModules)=false∧∃xs:List (List Key×Addr×Value),
   Paired (fun (p:List Key×V) (q:List Key×Addr×Value)=>p.1=q.1∧H q.2.1=some (.tup (p.1.map kV))∧RelV p.2 q.2.2) kvs xs ∧
   ∃o es ep,h.get? a=some o∧o.ExactDict∧o.data = .dict es ep∧es.toList=xs.map (entryOfKey (tupleKind (QbX P w)))∧(xs.map (·.1)).Nodup
 | .set S n=>h.SetOf (intKind P w) a S n
 | .ins C dx fs=>H dx=some (.own a)∧fs.length≤1000∧dx≠a∧h.get? a=some (PySem.W.instObj C dx) ∧
   ∃mA,h.Ns1 dx mA∧(∀f,Qc8 (fs.lookup f) (mA f))∧PySem.Within mA (fs.map (·.1))
 | .own _=>∃o,h.get? a=some o
 | .xd fs=>∃mA,h.Ns1 a mA∧∀f,Qc8 (fs.lookup f) (mA f)
 | .rng lo hi=>∃t u v,h.get? a=some { cls:=.type "range",data:=.fields #[.int lo t,.int hi u,.int 1 v] }
 | .frz o u=>h.get? a=some o∧Qbe H h a u
 | .tbl ps=>h.get? a=some { cls:=.none,data:=.fields ps }
 | .met f x=>h.get? a=some (PySem.W.methodObj (.ref f) (.ref x))
 | .ext φ=>φ h∧(∃o,h.get? a=some o)∧∀h1 h2:Heap,φ h1→(∀o,h1.get? a=some o→h2.get? a=some o)→φ h2
def HOk (H:Hp) (h:Heap):Prop:=∀a o,H a=some o→Qbe P w H h a o
end
section
variable {P:Program}{w:World}{H H':Hp}{h h':Heap}{a:Addr}{o:HO}
theorem Qbe.lt (x:Qbe P w H h a o):a < h.objs.size:=by
 cases o with
 | lst xs=>obtain ⟨_,_,_,_,e⟩:=x; exact zg e
 | tup xs=>obtain ⟨_,_,_,p⟩:=x; exact p.lt
 | dK kvs=>obtain ⟨_,_,_,_,o,_,_,e,_⟩:=x; exact zg e
 | dT kvs=>obtain ⟨_,_,_,_,o,_,_,e,_⟩:=x; exact zg e
 | set S n=>obtain ⟨o,_,_,_,e,_⟩:=x; exact zg e
 | ins C dx fs=>obtain ⟨_,_,_,e,_⟩:=x; exact zg e
 | own y=>obtain ⟨_,e⟩:=x; exact zg e
 | xd fs=>obtain ⟨_,⟨_,_,_,e,_⟩,_⟩:=x; exact zg e
 | rng lo hi=>obtain ⟨_,_,_,e⟩:=x; exact zg e
 | frz ob u=>obtain ⟨e,_⟩:=x; exact zg e
 | tbl ps=>exact zg (show h.get? a=some _ from x)
 | met f y=>exact zg (show h.get? a=some _ from x)
 | ext φ=>obtain ⟨_,⟨_,e⟩,_⟩:=x; exact zg e
theorem Paired.mapP {α β:Type}{F G:α→β→Prop}:∀{l₁:List α}{l₂:List β},Paired F l₁ l₂→(∀a b,F a b→G a b)→Paired G l₁ l₂
 | _,_,.nil,_=>.nil
 | _,_,.cons r t,f=>.cons (f _ _ r) (Paired.mapP t f)
theorem Qbe.stay (x:Qbe P w H h a o) (k:∀b u,(b=a∨H b=some (.own a))→h.get? b=some u→h'.get? b=some u)
  (ho:∀b,H b=some (.own a)→H' b=some (.own a)) (ht:∀b xs,H b=some (.tup xs)→H' b=some (.tup xs)):Qbe P w H' h' a o:=by
 induction o with
 | lst xs=>obtain ⟨z,its,n,r,e⟩:=x; exact ⟨z,its,n,r,k _ _ (.inl rfl) e⟩
 | tup xs=>obtain ⟨z,its,r,ob,e,c⟩:=x; exact ⟨z,its,r,ob,k _ _ (.inl rfl) e,c⟩
 | dK kvs=>obtain ⟨z,y,vs,r,ob,es,ep,e,c⟩:=x; exact ⟨z,y,vs,r,ob,es,ep,k _ _ (.inl rfl) e,c⟩
 | dT kvs =>
  obtain ⟨z,y,xs,r,ob,es,ep,e,c⟩:=x;exact ⟨z,y,xs,Paired.mapP r fun p q z=>⟨z.1,ht _ _ z.2.1,z.2.2⟩,ob,es,ep,k _ _ (.inl rfl) e,c⟩
 | set S n=>obtain ⟨ob,es,ep,t,e,c⟩:=x; exact ⟨ob,es,ep,t,k _ _ (.inl rfl) e,c⟩
 | ins C dx fs =>
  obtain ⟨d,z,ne,e,mA,⟨od,es,ep,e2,c⟩,r⟩:=x;exact ⟨ho _ d,z,ne,k _ _ (.inl rfl) e,mA,⟨od,es,ep,k _ _ (.inr d) e2,c⟩,r⟩
 | own y=>obtain ⟨ob,e⟩:=x; exact ⟨ob,k _ _ (.inl rfl) e⟩
 | xd fs=>obtain ⟨mA,⟨od,es,ep,e,c⟩,r⟩:=x; exact ⟨mA,⟨od,es,ep,k _ _ (.inl rfl) e,c⟩,r⟩
 | rng lo hi=>obtain ⟨t,u,v,e⟩:=x; exact ⟨t,u,v,k _ _ (.inl rfl) e⟩
 | frz ob u ih=>obtain ⟨e,q⟩:=x; exact ⟨k _ _ (.inl rfl) e,ih q⟩
 | tbl ps =>
  have e:h.get? a=some { cls:=.none,data:=.fields ps }:=x;show h'.get? a=some { cls:=.none,data:=.fields ps };exact k a _ (.inl rfl) e
 | met f y =>
  have e:h.get? a=some (PySem.W.methodObj (.ref f) (.ref y)):=x;show h'.get? a=some (PySem.W.methodObj (.ref f) (.ref y));exact k a _ (.inl rfl) e
 | ext φ=>obtain ⟨p,⟨o,e⟩,st⟩:=x; exact ⟨st _ _ p fun o q=>k _ _ (.inl rfl) q,⟨o,k _ _ (.inl rfl) e⟩,st⟩
theorem HOk.lt (x:HOk P w H h) (e:H a=some o):a < h.objs.size:=(x a o e).lt
theorem HOk.fresh (x:HOk P w H h) (e:h.objs.size≤a):H a=none:=by
 cases q:H a with
 | none=>rfl
 | some u=>exact absurd (zE (x.lt q) e) (zV _)
theorem HOk.kept (x:HOk P w H h) (k:∀b u,h.get? b=some u→h'.get? b=some u):HOk P w H h':=fun a o e =>
 (x a o e).stay (fun b u _ q=>k b u q) (fun _ q=>q) fun _ _ q=>q
theorem HOk.laid (x:HOk P w H h) (k:∀b u,h.get? b=some u→h'.get? b=some u) (hp:h.objs.size≤a) (new:Qbe P w (upd H a o) h' a o):HOk P w (upd H a o) h':=fun b u e=>by
 have hn:=x.fresh hp
 by_cases hb:b=a
 ·subst hb; rw [QaG] at e; cases e; exact new
 ·rw [Qar hb] at e
  exact (x b u e).stay (fun c v _ q=>k c v q) (fun c q=>by rw [Qar (QaC q hn)]; exact q) fun c xs q=>by rw [Qar (QaC q hn)]; exact q
end
def Rd (H:Hp) (a:Addr) (u:HO):Prop:=H a=some u∨∃o,H a=some (.frz o u)
theorem Rd.of {H:Hp}{a:Addr}{u:HO} (h:H a=some u):Rd H a u:=.inl h
theorem Rd.ok {P:Program}{w:World}{H:Hp}{h:Heap}{a:Addr}{u:HO} (r:Rd H a u) (x:HOk P w H h):Qbe P w H h a u:=by
 rcases r with r | ⟨o,r⟩
 ·exact x a u r
 ·obtain ⟨_,q⟩:=x a _ r;exact q
def Mut:Option HO→Prop
 | some (.lst _)=>True
 | some (.dK _)=>True
 | some (.dT _)=>True
 | some (.set _ _)=>True
 | some (.ins _ _ _)=>True
 | some (.ext _)=>True
 | _=>False
section
variable {P:Program}{w:World}{H:Hp}{h h':Heap}{x e:Addr}{o':HO}
theorem HOk.write (ok:HOk P w H h) (mu:Mut (H x)) (he:e=x∨H e=some (.own x)) (k:∀b u,b≠e→h.get? b=some u→h'.get? b=some u) (heo:∃u,h'.get? e=some u)
  (new:Qbe P w (upd H x o') h' x o'):HOk P w (upd H x o') h':=fun b u q=>by
 have nown:∀c y,H c=some (.own y)→c≠x:=fun c y r z=>by subst z; rw [r] at mu; exact mu
 have ntup:∀c xs,H c=some (.tup xs)→c≠x:=fun c xs r z=>by subst z; rw [r] at mu; exact mu
 by_cases hb:b=x
 ·subst hb; rw [QaG] at q; cases q; exact new
 ·rw [Qar hb] at q
  by_cases hbe:b=e
  ·have q':H b=some (.own x):=by
    rcases he with z | z
    ·exact absurd (hbe.trans z) hb
    ·rw [hbe]; exact z
   rw [q] at q'; cases q';obtain ⟨v,hv⟩:=heo;exact ⟨v,by rw [hbe]; exact hv⟩
  ·refine (ok b u q).stay (fun c v hc r=>k c v ?_ r) (fun c r=>by rw [Qar (nown c b r)]; exact r) fun c xs r=>by rw [Qar (ntup c xs r)]; exact r
   rcases hc with rfl | hc
   ·exact hbe
   ·rintro rfl
    rcases he with z | z
    ·exact nown c b hc z
    ·rw [hc] at z; cases z; exact hb rfl
end
structure Un (fs ex:List Addr) (H H':Hp) (h h':Heap):Prop where
 keep:∀b o,h.get? b=some o→H b=none→b∉fs→b∉ex→h'.get? b=some o
 slot:∀b o,h.get? b=some o→H b=none→b∈fs→b∉ex→∃sl,h'.get? b=some { o with slots:=sl }
 free:∀b o,h.get? b=some o→H b=none→b∉ex→H' b=none
 there:∀b o,h.get? b=some o→b∉ex→∃o',h'.get? b=some o'
 tups:∀b xs,H b=some (.tup xs)→H' b=some (.tup xs)
 frzs:∀b o u,H b=some (.frz o u)→H' b=some (.frz o u)
 tbls:∀b ps,H b=some (.tbl ps)→∃more,H' b=some (.tbl (ps++more))
section
variable {fs fs' ex ex':List Addr}{H H1 H2:Hp}{h h1 h2 h':Heap}{a x e:Addr}{o:HO}
theorem Un.any (u:Un fs ex H H1 h h1) {b:Addr}{ob:Obj} (q:h.get? b=some ob) (n:H b=none) (hx:b∉ex):∃sl,h1.get? b=some { ob with slots:=sl }:=by
 by_cases hb:b∈fs
 ·exact u.slot b ob q n hb hx
 ·exact ⟨ob.slots,u.keep b ob q n hb hx⟩
theorem Un.trans (a:Un fs ex H H1 h h1) (b:Un fs ex H1 H2 h1 h2):Un fs ex H H2 h h2 where
 keep:=fun c ob q n hc hx=>b.keep c ob (a.keep c ob q n hc hx) (a.free c ob q n hx) hc hx
 slot:=fun c ob q n hc hx=>by
  obtain ⟨sl,e1⟩:=a.slot c ob q n hc hx;obtain ⟨sl',e2⟩:=b.slot c _ e1 (a.free c ob q n hx) hc hx;exact ⟨sl',e2⟩
 free:=fun c ob q n hx=>by
  obtain ⟨o',e1⟩:=a.there c ob q hx;exact b.free c o' e1 (a.free c ob q n hx) hx
 there:=fun c ob q hx=>by
  obtain ⟨o',e1⟩:=a.there c ob q hx;exact b.there c o' e1 hx
 tups:=fun c xs q=>b.tups c xs (a.tups c xs q)
 frzs:=fun c ob xs q=>b.frzs c ob xs (a.frzs c ob xs q)
 tbls:=fun c ps q=>by
  obtain ⟨m1,e1⟩:=a.tbls c ps q;obtain ⟨m2,e2⟩:=b.tbls c _ e1;exact ⟨m1++m2,by rw [e2,Array.append_assoc]⟩
theorem Un.kept (k:∀b u,h.get? b=some u→h'.get? b=some u):Un fs ex H H h h' :=
 ⟨fun b ob q _ _ _=>k b ob q,fun b ob q _ _ _=>⟨ob.slots,k b ob q⟩,fun _ _ _ n _=>n,fun b ob q _=>⟨ob,k b ob q⟩,fun _ _ q=>q,fun _ _ _ q=>q,fun _ ps q=>⟨#[],by rw [q]; simp⟩⟩
theorem Un.refl:Un fs ex H H h h:=Un.kept fun _ _ q=>q
theorem Un.laid (k:∀b u,h.get? b=some u→h'.get? b=some u) (hp:h.objs.size≤a) (hn:H a=none):Un fs ex H (upd H a o) h h' where
 keep:=fun b u q _ _ _=>k b u q
 slot:=fun b u q _ _ _=>⟨u.slots,k b u q⟩
 free:=fun b u q n _=>by rw [Qar (zv (zE (zg q) hp))]; exact n
 there:=fun b u q _=>⟨u,k b u q⟩
 tups:=fun b xs q=>by rw [Qar (QaC q hn)]; exact q
 frzs:=fun b u xs q=>by rw [Qar (QaC q hn)]; exact q
 tbls:=fun b ps q=>⟨#[],by rw [Qar (QaC q hn),q]; simp⟩
theorem Un.write (mu:Mut (H x)) (he:e=x∨H e=some (.own x)) (k:∀b u,b≠e→h.get? b=some u→h'.get? b=some u) (heo:∃u,h'.get? e=some u):Un fs ex H (upd H x o) h h':=by
 have hx:∀b,H b=none→b≠x:=fun b n z=>by subst z; rw [n] at mu; exact mu
 have hb:∀b,H b=none→b≠e:=fun b n z=>by
  subst z
  rcases he with r | r
  ·exact hx b n r
  ·rw [n] at r; cases r
 have hm:∀b u,H b=some u→¬Mut (some u)→b≠x:=fun b u q nm z=>by subst z; rw [q] at mu; exact nm mu
 refine ⟨fun b u q n _ _=>k b u (hb b n) q,fun b u q n _ _=>⟨u.slots,k b u (hb b n) q⟩,fun b u q n _=>by rw [Qar (hx b n)]; exact n,fun b u q _=>?_,
  fun b xs q=>by rw [Qar (hm b _ q fun z=>z)]; exact q,fun b u xs q=>by rw [Qar (hm b _ q fun z=>z)]; exact q,fun b ps q=>⟨#[],by rw [Qar (hm b _ q fun z=>z),q]; simp⟩⟩
 by_cases hbe:b=e
 ·subst hbe; exact heo
 ·exact ⟨u,k b u hbe q⟩
theorem Un.mono (u:Un fs ex H H1 h h1) (hs:∀b∈fs,b∈fs') (hx:∀b∈ex,b∈ex'):Un fs' ex' H H1 h h1 :=
 ⟨fun b ob q n hb he=>u.keep b ob q n (fun z=>hb (hs b z)) fun z=>he (hx b z),fun _ _ q n _ he=>u.any q n fun z=>he (hx _ z),fun b ob q n he=>u.free b ob q n fun z=>he (hx b z),fun b ob q he=>u.there b ob q fun z=>he (hx b z),u.tups,u.frzs,u.tbls⟩
end
def trk (h:Heap) (H:Hp):List Addr:=(List.range h.objs.size).filter fun a=>(H a).isSome
def Qen (h:Heap) (H:Hp):Heap:=PySem.W.hideAll h (trk h H)
theorem Qlh (h:Heap) (H:Hp):(Qen h H).objs.size=h.objs.size:=PySem.W.hideAll_size _ _
theorem QmE {h:Heap}{H:Hp}{b:Addr}{o:Obj} (e:h.get? b=some o) (n:H b=none):(Qen h H).get? b=some o :=
 PySem.W.hideAll_get _ e fun hm=>by
  have q:(H b).isSome=true:=(List.mem_filter.mp hm).2;rw [n] at q; simp at q
theorem QnD {h:Heap}{H:Hp}{b:Addr}{o:Obj} (e:(Qen h H).get? b=some o):h.get? b=some o∧H b=none:=by
 have e':h.get? b=some o:=PySem.W.of_hideAll (trk h H) e;refine ⟨e',?_⟩
 cases q:H b with
 | none=>rfl
 | some x =>
  have hm:b∈trk h H:=List.mem_filter.mpr ⟨List.mem_range.mpr (zg e'),by simp [q]⟩;have z:(Qen h H).get? b=none:=PySem.W.hideAll_none (trk h H) hm;rw [z] at e; cases e
def Qte (g h:Heap) (L:Addr):List (Addr×Obj):=(List.range h.objs.size).filterMap fun a=>if a=L∨(g.get? a).isSome=true then none else (h.get? a).map fun o=>(a,o)
def rest (g h:Heap) (L d:Addr):List (Addr×Obj):=(Qte g h L).filter fun p=>decide (p.1≠d)
structure Mod (K:PySem.W.Frag) (mg:Str→Option Value) (base:Heap):Prop where
 kin:K.In base
 glob:base.Ns mainGlobals mg
 blt:∃mb,base.Ns builtinsNs mb∧∀x:Str,x≠"__name__"→mb x=bootBuiltins x
 nolimit:base.NoLimit
structure Cx where
 prog:Program
 w:World
 K:PySem.W.Frag
 mg:Str→Option Value
 base:Heap
 A:Around
 N:List Str
 s₀:Shared
 H₀:Hp
 env:Env
 outer:List Env
 stack:List Env
 ex:List Addr
 fn:Str→Bool
 calm:Bool
 pn:List (Addr×Obj)
 xe:Value→Shared→Prop
def frs (l:List Env):List Addr:=l.filterMap (·.frame)
abbrev Cx.fs (X:Cx):List Addr:=frs X.outer
def Vis (sc:Scope) (x:Str):Prop:=sc.names.lookup x=some .local∨sc.names.lookup x=some .cell∨sc.names.lookup x=some .free
def Loc (sc:Scope) (x:Str):Prop:=sc.names.lookup x=some .local∨sc.names.lookup x=some .cell
def Look (env:Env) (h:Heap) (m:Str→Option Value) (x:Str) (u:Value):Prop :=
 (env.kindOf x=some .local∧m x=some u)∨((env.kindOf x=some .cell∨env.kindOf x=some .free)∧∃c,env.cells.lookup x=some c∧h.IsCell c (some u))
structure Cx.Ok (X:Cx):Prop where
 mod:Mod X.K X.mg X.base
 kind:X.env.scope.kind = .function
 glob:X.env.globals=mainGlobals
 blt:X.env.builtins=builtinsNs
 above:X.s₀.heap.objs.size≤X.env.locals
 inj:∀x y c,X.env.cells.lookup x=some c→X.env.cells.lookup y=some c→x=y
 has:∀x,(X.env.kindOf x=some .cell∨X.env.kindOf x=some .free)→∃c,X.env.cells.lookup x=some c
 cab:∀x c,X.fn x=true→X.env.cells.lookup x=some c→X.s₀.heap.objs.size≤c
 hd:X.calm=true→X.A.handled=none
 frames:X.A.frames=some X.stack
 stk:X.stack=X.outer∨(X.stack=X.env::X.outer∧X.env.frame=some X.env.locals)
 exf:∀b∈X.ex,b≠X.env.locals∧∀x c,X.env.cells.lookup x=some c→c≠b
 bs:∀b o,X.base.get? b=some o→X.s₀.heap.get? b=some o∧X.H₀ b=none
 bsz:X.base.objs.size≤X.s₀.heap.objs.size
 noex:∀b o,X.base.get? b=some o→b∉X.ex
 exfs:∀b∈X.ex,b∉X.fs
 funs:X.s₀.heap.FunFrames X.base X.outer
 frf:∀b∈X.fs,X.H₀ b=none
structure Inv (X:Cx) (pins:List (Addr×Obj)) (σ:List (Option V)) (H:Hp) (s:Shared):Prop where
 ok:X.Ok
 os:s.os=X.s₀.os
 bare:AllBare s.gens
 base:Un X.fs X.ex X.H₀ H X.s₀.heap s.heap
 loc:∃m,s.heap.Ns X.env.locals m∧∀(i:Nat) (x:Str) (v:V),X.N[i]? = some x→σ[i]? = some (some v)→Vis X.env.scope x→∃u,RelV v u∧Look X.env s.heap m x u
 cell:∀x c,X.env.cells.lookup x=some c→∃v,s.heap.IsCell c v
 free:H X.env.locals=none
 freeC:∀x c,X.env.cells.lookup x=some c→H c=none
 pin:∀p∈X.pn++pins,s.heap.get? p.1=some p.2∧H p.1=none∧p.1≠X.env.locals∧p.1∉X.fs∧∀v,p.2.data≠.cell v
 hok:HOk X.prog X.w H s.heap
 len:σ.length=X.N.length
section
variable {X:Cx}{pins:List (Addr×Obj)}{σ:List (Option V)}{H H':Hp}{s:Shared}{h':Heap}
theorem Cx.Ok.nofr (ok:X.Ok) {b:Addr}{o:Obj} (e:X.base.get? b=some o):b∉X.fs:=fun hb=>by
 have:=(ok.funs.mem hb).1
 rw [e] at this; cases this
theorem Inv.bs (I:Inv X pins σ H s):∀b o,X.base.get? b=some o→s.heap.get? b=some o∧H b=none:=fun b o e =>
 ⟨I.base.keep b o (I.ok.bs b o e).1 (I.ok.bs b o e).2 (I.ok.nofr e) (I.ok.noex b o e),I.base.free b o (I.ok.bs b o e).1 (I.ok.bs b o e).2 (I.ok.noex b o e)⟩
theorem Inv.bk (I:Inv X pins σ H s):∀b o,X.base.get? b=some o→s.heap.get? b=some o:=fun b o e=>(I.bs b o e).1
theorem Inv.mod (I:Inv X pins σ H s):Mod X.K X.mg X.base:=I.ok.mod
theorem Inv.kIn (I:Inv X pins σ H s):X.K.In s.heap:=I.ok.mod.kin.keeps I.bk
theorem Inv.nolimit (I:Inv X pins σ H s):s.heap.NoLimit:=I.ok.mod.nolimit.keeps I.bk
theorem Inv.fr (I:Inv X pins σ H s):∃m,Fr X.base X.env.locals s.heap m :=
 let ⟨m,hn,_⟩:=I.loc
 ⟨m,hn,I.bk,zF I.ok.bsz I.ok.above⟩
theorem Inv.lt (I:Inv X pins σ H s):X.env.locals < s.heap.objs.size:=let ⟨_,hn,_⟩:=I.loc; hn.lt
theorem Inv.sz (I:Inv X pins σ H s):X.s₀.heap.objs.size≤s.heap.objs.size:=zF I.ok.above (Nat.le_of_lt I.lt)
theorem Inv.nofs (I:Inv X pins σ H s) {a:Addr} (h:s.heap.objs.size≤a):a∉X.fs:=fun hb=>by
 obtain ⟨_,o,ho,_⟩:=I.ok.funs.mem hb;exact absurd (zE (zg ho) (zF I.sz h)) (zV _)
theorem Inv.cne (I:Inv X pins σ H s):∀x c,X.env.cells.lookup x=some c→c≠X.env.locals:=fun x c e z=>by
 obtain ⟨v,o,ho,hd⟩:=I.cell x c e;obtain ⟨m,⟨o',es,ep,ho',hd',_⟩,_⟩:=I.loc;rw [z,ho'] at ho; cases ho; rw [hd'] at hd; cases hd
theorem Inv.funs (I:Inv X pins σ H s):s.heap.FunFrames X.base X.outer:=by
 have all:∀(l:List Env),(∀b∈frs l,b∈X.fs)→X.s₀.heap.FunFrames X.base l→s.heap.FunFrames X.base l:=by
  intro l
  induction l with
  | nil=>intro _ _; trivial
  | cons env r ih =>
   intro hs hl;obtain ⟨hk,⟨L,o,hf,hn,ho,hd⟩,hr⟩:=hl;have hL:L∈X.fs:=hs L (by unfold frs; rw [List.filterMap_cons,hf]; exact zm)
   obtain ⟨sl,e⟩:=I.base.slot L o ho (I.ok.frf L hL) hL fun z=>I.ok.exfs L z hL
   exact ⟨hk,⟨L,_,hf,hn,e,hd⟩,ih (fun b hb=>hs b (by unfold frs; rw [List.filterMap_cons,hf]; exact zx _ hb)) hr⟩
 exact all X.outer (fun _ hb=>hb) I.ok.funs
theorem Inv.stack (I:Inv X pins σ H s):s.heap.FunFrames X.base X.stack:=by
 rcases I.ok.stk with e | ⟨e,hf⟩
 ·rw [e]; exact I.funs
 ·rw [e];obtain ⟨m,hn,_⟩:=I.loc;refine .cons (by rw [I.ok.kind]; decide) hf hn ?_ I.funs;exact Heap.get?_none_of_le (zF I.ok.bsz I.ok.above)
theorem Inv.stkSub (I:Inv X pins σ H s):∀b∈frs X.stack,b∈X.env.locals::X.fs:=fun b hb=>by
 rcases I.ok.stk with e | ⟨e,hf⟩
 ·rw [e] at hb; exact zx _ hb
 ·rw [e] at hb;unfold frs at hb;rw [List.filterMap_cons,hf] at hb;exact hb
theorem Inv.stkFree (I:Inv X pins σ H s):∀b∈frs X.stack,H b=none:=fun b hb=>by
 rcases zt.mp (I.stkSub b hb) with e | hb
 ·rw [e]; exact I.free
 ·obtain ⟨_,o,ho,_⟩:=I.ok.funs.mem hb
  exact I.base.free b o ho (I.ok.frf b hb) fun z=>I.ok.exfs b z hb
theorem Inv.step {g':Array GenState}{t':Nat}{d':Drawn}{ch:List Addr} (I:Inv X pins σ H s)
  (hch:∀b∈ch,(b∈X.ex∨X.s₀.heap.objs.size≤b)∧b≠X.env.locals∧(∀x c,X.env.cells.lookup x=some c→c≠b)∧∀p∈X.pn++pins,p.1≠b)
  (keep:∀b o,b≠X.env.locals→b∉X.fs→b∉ch→s.heap.get? b=some o→H b=none→h'.get? b=some o)
  (slot:∀b o,b≠X.env.locals→b∈X.fs→b∉ch→s.heap.get? b=some o→H b=none→∃sl,h'.get? b=some { o with slots:=sl }) (free:∀b o,b∉ch→s.heap.get? b=some o→H b=none→H' b=none)
  (there:∀b o,b∉ch→s.heap.get? b=some o→∃o',h'.get? b=some o')
  (tups:∀b xs,H b=some (.tup xs)→H' b=some (.tup xs)) (frzs:∀b o u,H b=some (.frz o u)→H' b=some (.frz o u)) (tbls:∀b ps,H b=some (.tbl ps)→∃more,H' b=some (.tbl (ps++more)))
  (ns:∀m,s.heap.Ns X.env.locals m→h'.Ns X.env.locals m) (hok:HOk X.prog X.w H' h') (hg:AllBare g') :
  Inv X pins σ H' { s with heap:=h',gens:=g',drawn:=d',toks:=t' }:=by
 have neL:∀b o,X.s₀.heap.get? b=some o→b≠X.env.locals:=fun b o e=>zv (zE (zg e) I.ok.above)
 have neC:∀b o,X.s₀.heap.get? b=some o→b∉X.ex→b∉ch:=fun b o e hx hb=>by
  rcases (hch b hb).1 with z | z
  ·exact hx z
  ·exact absurd (zE (zg e) z) (zV _)
 have cellK:∀x c,X.env.cells.lookup x=some c→∀v,s.heap.IsCell c v→h'.IsCell c v:=fun x c e v ⟨o,ho,hd⟩=>by
  have nch:c∉ch:=fun z=>(hch c z).2.2.1 x c e rfl
  by_cases hc:c∈X.fs
  ·obtain ⟨sl,q⟩:=slot c o (I.cne x c e) hc nch ho (I.freeC x c e);exact ⟨_,q,hd⟩
  ·exact ⟨o,keep c o (I.cne x c e) hc nch ho (I.freeC x c e),hd⟩
 refine ⟨I.ok,I.os,hg,⟨fun b o e n hb hx=>?_,fun b o e n hb hx=>?_,fun b o e n hx=>?_,fun b o e hx=>?_,fun b xs e=>tups b xs (I.base.tups b xs e),fun b o xs e=>frzs b o xs (I.base.frzs b o xs e),fun b ps e=>?_⟩,?_,fun x c e=>?_,?_,fun x c e=>?_,fun p hp=>?_,hok,I.len⟩
 ·exact keep b o (neL b o e) hb (neC b o e hx) (I.base.keep b o e n hb hx) (I.base.free b o e n hx)
 ·obtain ⟨sl,e1⟩:=I.base.slot b o e n hb hx;obtain ⟨sl',e2⟩:=slot b _ (neL b o e) hb (neC b o e hx) e1 (I.base.free b o e n hx);exact ⟨sl',e2⟩
 ·obtain ⟨o',e1⟩:=I.base.there b o e hx;exact free b o' (neC b o e hx) e1 (I.base.free b o e n hx)
 ·obtain ⟨o',e1⟩:=I.base.there b o e hx;exact there b o' (neC b o e hx) e1
 ·obtain ⟨m1,e1⟩:=I.base.tbls b ps e;obtain ⟨m2,e2⟩:=tbls b _ e1;exact ⟨m1++m2,by rw [e2,Array.append_assoc]⟩
 ·obtain ⟨m,hn,hl⟩:=I.loc;refine ⟨m,ns m hn,fun i x v e1 e2 e3=>?_⟩;obtain ⟨u,r,l⟩:=hl i x v e1 e2 e3;refine ⟨u,r,?_⟩
  rcases l with l | ⟨k,c,e,z⟩
  ·exact .inl l
  ·exact .inr ⟨k,c,e,cellK x c e _ z⟩
 ·obtain ⟨v,z⟩:=I.cell x c e;exact ⟨v,cellK x c e v z⟩
 ·obtain ⟨m,⟨o,_,_,ho,_⟩,_⟩:=I.loc;exact free _ o (fun z=>(hch _ z).2.1 rfl) ho I.free
 ·obtain ⟨v,o,ho,hd⟩:=I.cell x c e;exact free c o (fun z=>(hch c z).2.2.1 x c e rfl) ho (I.freeC x c e)
 ·obtain ⟨e,n,ne,nf,d⟩:=I.pin p hp
  have nch:p.1∉ch:=fun z=>(hch p.1 z).2.2.2 p hp rfl
  exact ⟨keep p.1 p.2 ne nf nch e n,free p.1 p.2 nch e n,ne,nf,d⟩
theorem Inv.un {t':Nat} (I:Inv X pins σ H s) (u:Un X.fs [] H H' s.heap h') (hok:HOk X.prog X.w H' h'):Inv X pins σ H' { s with heap:=h',toks:=t' }:=by
 obtain ⟨m,⟨o,es,ep,ho,r⟩,_⟩:=id I.loc;obtain ⟨sl,hL⟩:=u.any ho I.free (by simp)
 exact I.step (g':=s.gens) (d':=s.drawn) (ch:=[]) (fun _ z=>nomatch z) (fun b o _ hb _ e n=>u.keep b o e n hb (by simp)) (fun b o _ hb _ e n=>u.slot b o e n hb (by simp)) (fun b o _ e n=>u.free b o e n (by simp)) (fun b o _ e=>u.there b o e (by simp)) u.tups u.frzs u.tbls (fun m' hm=>by
  obtain ⟨o',es',ep',ho',r'⟩:=hm;rw [ho] at ho'; cases ho'
  exact ⟨_,es',ep',hL,r'⟩) hok I.bare
theorem Inv.call {g':Array GenState}{t':Nat}{d':Drawn}{ch:List Addr} (I:Inv X pins σ H s) (u:Un (frs X.stack) ch H H' s.heap h') (hok:HOk X.prog X.w H' h') (hg:AllBare g')
  (hch:∀b∈ch,(b∈X.ex∨X.s₀.heap.objs.size≤b)∧b≠X.env.locals∧(∀x c,X.env.cells.lookup x=some c→c≠b)∧∀p∈X.pn++pins,p.1≠b) :
  Inv X pins σ H' { s with heap:=h',gens:=g',drawn:=d',toks:=t' }:=by
 obtain ⟨m,⟨o,es,ep,ho,r⟩,_⟩:=id I.loc
 obtain ⟨sl,hL⟩:=u.any ho I.free fun z=>(hch _ z).2.1 rfl
 exact I.step (ch:=ch) hch (fun b o hL hb hc e n=>u.keep b o e n (fun z=>(zt.mp (I.stkSub b z)).elim hL hb) hc) (fun b o _ _ hc e n=>u.any e n hc) (fun b o hc e n=>u.free b o e n hc) (fun b o hc e=>u.there b o e hc) u.tups u.frzs u.tbls (fun m' hm=>by
  obtain ⟨o',es',ep',ho',r'⟩:=hm;rw [ho] at ho'; cases ho'
  exact ⟨_,es',ep',hL,r'⟩) hok hg
theorem Inv.turned {t':Nat}{it:Addr} (I:Inv X pins σ H s) (k:∀b o,b≠it→s.heap.get? b=some o→h'.get? b=some o) (hn:H it=none) (hL:it≠X.env.locals)
  (h1:it∈X.ex∨X.s₀.heap.objs.size≤it) (h2:∀x c,X.env.cells.lookup x=some c→c≠it) (h3:∀p∈X.pn++pins,p.1≠it):Inv X pins σ H { s with heap:=h',toks:=t' }:=by
 have nit:∀b u,H b=some u→b≠it:=fun b u e z=>by rw [z,hn] at e; cases e
 refine I.step (g':=s.gens) (d':=s.drawn) (ch:=[it]) (fun b hb=>?_) (fun b o _ _ hc e _=>k b o (fun z=>hc (by simp [z])) e) (fun b o _ _ hc e _=>⟨o.slots,k b o (fun z=>hc (by simp [z])) e⟩) (fun _ _ _ _ n=>n)
  (fun b o hc e=>⟨o,k b o (fun z=>hc (by simp [z])) e⟩) (fun _ _ e=>e) (fun _ _ _ e=>e) (fun b ps e=>⟨#[],by rw [e]; simp⟩) (fun m hm=>?_) (fun b u e=>?_) I.bare
 ·have e:b=it:=by simpa using hb
  subst e;exact ⟨h1,hL,h2,h3⟩
 ·obtain ⟨o,es,ep,ho,r⟩:=hm;exact ⟨o,es,ep,k _ o (Ne.symm hL) ho,r⟩
 ·refine (I.hok b u e).stay (fun c v hc q=>k c v ?_ q) (fun _ q=>q) fun _ _ q=>q
  rcases hc with z | z
  ·rw [z]; exact nit b u e
  ·exact nit c _ z
theorem Inv.tok (I:Inv X pins σ H s) (t:Nat):Inv X pins σ H { s with toks:=t }:=I.un (h':=s.heap) (t':=t) Un.refl I.hok
theorem Inv.kept {t':Nat} (I:Inv X pins σ H s) (k:∀b u,s.heap.get? b=some u→h'.get? b=some u):Inv X pins σ H { s with heap:=h',toks:=t' }:=I.un (Un.kept k) (I.hok.kept k)
theorem Inv.laid {a:Addr}{o:HO}{t':Nat} (I:Inv X pins σ H s) (k:∀b u,s.heap.get? b=some u→h'.get? b=some u) (hp:s.heap.objs.size≤a) (new:Qbe X.prog X.w (upd H a o) h' a o) :
  Inv X pins σ (upd H a o) { s with heap:=h',toks:=t' }:=I.un (Un.laid k hp (I.hok.fresh hp)) (I.hok.laid k hp new)
theorem Inv.write {x e:Addr}{o:HO}{t':Nat} (I:Inv X pins σ H s) (mu:Mut (H x)) (he:e=x∨H e=some (.own x)) (k:∀b u,b≠e→s.heap.get? b=some u→h'.get? b=some u) (heo:∃u,h'.get? e=some u)
  (new:Qbe X.prog X.w (upd H x o) h' x o):Inv X pins σ (upd H x o) { s with heap:=h',toks:=t' }:=I.un (Un.write mu he k heo) (I.hok.write mu he k heo new)
theorem Inv.pins_of {pins':List (Addr×Obj)} (I:Inv X pins σ H s) (h:∀p∈pins',s.heap.get? p.1=some p.2∧H p.1=none∧p.1≠X.env.locals∧p.1∉X.fs∧∀v,p.2.data≠.cell v):Inv X pins' σ H s :=
 ⟨I.ok,I.os,I.bare,I.base,I.loc,I.cell,I.free,I.freeC,fun p hp=>(zJ.mp hp).elim (fun z=>I.pin p (jo _ z)) (h p),I.hok,I.len⟩
theorem QmQ {N:List Str} (hN:N.Nodup) {i j:Nat}{x:Str} (a:N[i]? = some x) (b:N[j]? = some x):i=j:=by
 obtain ⟨h1,e1⟩:=zk.mp a;obtain ⟨h2,e2⟩:=zk.mp b;exact (List.getElem_inj hN).mp (e1.trans e2.symm)
theorem Qqf {M:Model}{A:Around}{E:Value→Shared→Prop}{i:Nat}{x:Str}{v:V}{u:Value}{Q:Unit→Shared→Prop} (I:Inv X pins σ H s) (hN:X.N.Nodup) (hi:X.N[i]? = some x) (hx:Loc X.env.scope x) (r:RelV v u)
  (h:∀s',Inv X pins (σ.set i (some v)) H s'→(∃a,Heap.SameBut a s.heap s'.heap∧(a=X.env.locals∨X.env.cells.lookup x=some a))→Q () s') (hf:X.fn x=true∨X.env.scope.names.lookup x=some .local:=by first | exact .inl rfl | exact .inr rfl | assumption):wpAny M A (storeName X.env x u) Q E s:=by
 obtain ⟨m,hn,hl⟩:=id I.loc
 have hcls:(X.env.scope.kind == .class || (X.env.scope.kind == .module&&X.env.locals != X.env.globals))=false:=by rw [I.ok.kind]; rfl
 have hiσ:i < σ.length:=by rw [I.len]; exact (zk.mp hi).1
 have cne:=I.cne
 have tracked:∀{a:Addr}{h':Heap},(∃o,s.heap.get? a=some o∧H a=none)→Heap.SameBut a s.heap h'→HOk X.prog X.w H h':=fun {a h'} ha hs b ob e=>by
  obtain ⟨_,_,hfree⟩:=ha
  refine (I.hok b ob e).stay (fun c w' hc q=>(hs.2 c ?_).trans q) (fun _ q=>q) fun _ _ q=>q
  rintro rfl
  rcases hc with rfl | hc
  ·rw [hfree] at e; cases e
  ·rw [hfree] at hc; cases hc
 rcases hx with hk | hk
 ·refine wpAny_storeName_local hk hn (fun h' hn' hs=>?_) hcls;obtain ⟨oL,_,_,hoL,_⟩:=id hn;refine h _ ⟨I.ok,I.os,I.bare,⟨fun b o e n hb hx=>?_,fun b o e n hb hx=>?_,I.base.free,fun b o e hx=>?_,I.base.tups,I.base.frzs,I.base.tbls⟩,⟨_,hn',fun j y v' e1 e2 e3=>?_⟩,fun y c e=>?_,I.free,I.freeC,fun p hp=>?_,tracked ⟨oL,hoL,I.free⟩ hs,by simpa using I.len⟩ ⟨_,hs,.inl rfl⟩
  ·exact (hs.2 b (zv (zE (zg e) I.ok.above))).trans (I.base.keep b o e n hb hx)
  ·obtain ⟨sl,e1⟩:=I.base.slot b o e n hb hx;exact ⟨sl,(hs.2 b (zv (zE (zg e) I.ok.above))).trans e1⟩
  ·obtain ⟨o',e1⟩:=I.base.there b o e hx;exact ⟨o',(hs.2 b (zv (zE (zg e) I.ok.above))).trans e1⟩
  ·by_cases hj:j=i
   ·subst hj;rw [hi] at e1; cases e1;rw [zT hiσ] at e2;cases e2;exact ⟨u,r,.inl ⟨hk,by simp⟩⟩
   ·rw [zu (Ne.symm hj)] at e2;obtain ⟨u',r',q⟩:=hl j y v' e1 e2 e3;refine ⟨u',r',?_⟩
    rcases q with ⟨k,e⟩ | ⟨k,c,e,z⟩
    ·refine .inl ⟨k,?_⟩
     have:y≠x:=fun e=>hj (QmQ hN e1 (e ▸ hi))
     simp [this,e]
    ·exact .inr ⟨k,c,e,z.sameBut hs (cne y c e)⟩
  ·obtain ⟨w',z⟩:=I.cell y c e;exact ⟨w',z.sameBut hs (cne y c e)⟩
  ·obtain ⟨e,n,ne,nf,d⟩:=I.pin p hp;exact ⟨(hs.2 p.1 ne).trans e,n,ne,nf,d⟩
 ·have hfn:X.fn x=true:=by
   rcases hf with z | z
   ·exact z
   ·rw [z] at hk; cases hk
  obtain ⟨c,hc⟩:=I.ok.has x (.inl hk);obtain ⟨w',z⟩:=I.cell x c hc;refine wpAny_storeName_cell I.ok.kind hk hc z (fun h' hc' hs=>?_);obtain ⟨oc,hoc,hocd⟩:=id z;refine h { s with heap:=h' } ⟨I.ok,I.os,I.bare,⟨fun b o e n hb hx=>?_,fun b o e n hb hx=>?_,I.base.free,fun b o e hx=>?_,I.base.tups,I.base.frzs,I.base.tbls⟩,⟨m,hn.sameBut hs (Ne.symm (cne x c hc)),fun j y v' e1 e2 e3=>?_⟩,fun y c' e=>?_,I.free,I.freeC,fun p hp=>?_,tracked ⟨oc,hoc,I.freeC x c hc⟩ hs,by simpa using I.len⟩ ⟨c,hs,.inr hc⟩
  ·exact (hs.2 b (zv (zE (zg e) (I.ok.cab x c hfn hc)))).trans (I.base.keep b o e n hb hx)
  ·obtain ⟨sl,e1⟩:=I.base.slot b o e n hb hx;exact ⟨sl,(hs.2 b (zv (zE (zg e) (I.ok.cab x c hfn hc)))).trans e1⟩
  ·obtain ⟨o',e1⟩:=I.base.there b o e hx;exact ⟨o',(hs.2 b (zv (zE (zg e) (I.ok.cab x c hfn hc)))).trans e1⟩
  ·by_cases hj:j=i
   ·subst hj;rw [hi] at e1; cases e1;rw [zT hiσ] at e2;cases e2;exact ⟨u,r,.inr ⟨.inl hk,c,hc,hc'⟩⟩
   ·rw [zu (Ne.symm hj)] at e2;obtain ⟨u',r',q⟩:=hl j y v' e1 e2 e3;refine ⟨u',r',?_⟩
    rcases q with q | ⟨k,c',e,z'⟩
    ·exact .inl q
    ·refine .inr ⟨k,c',e,z'.sameBut hs ?_⟩;rintro rfl;exact hj (QmQ hN e1 (I.ok.inj _ _ _ e hc ▸ hi))
  ·by_cases hcc:c'=c
   ·subst hcc; exact ⟨_,hc'⟩
   ·obtain ⟨w2,z2⟩:=I.cell y c' e;exact ⟨w2,z2.sameBut hs hcc⟩
  ·obtain ⟨e,n,ne,nf,d⟩:=I.pin p hp;refine ⟨(hs.2 p.1 ?_).trans e,n,ne,nf,d⟩;intro q;rw [q,hoc] at e;have q':oc=p.2:=zH e;exact d w' (by rw [←q']; exact hocd)
theorem QjP {M:Model}{A:Around}{E:Value→Shared→Prop}{i:Nat}{x:Str}{v:V}{u:Value}{Q:Unit→Shared→Prop} (I:Inv X pins σ H s) (hN:X.N.Nodup) (hi:X.N[i]? = some x) (hx:Loc X.env.scope x) (r:RelV v u)
  (h:∀s',Inv X pins (σ.set i (some v)) H s'→Q () s') (hf:X.fn x=true∨X.env.scope.names.lookup x=some .local:=by first | exact .inl rfl | exact .inr rfl | assumption):wpAny M A (storeName X.env x u) Q E s :=
 Qqf I hN hi hx r (fun s' I' _=>h s' I') hf
theorem Inv.call' {s':Shared}{ch:List Addr} (I:Inv X pins σ H s) (ho:s'.os=s.os) (u:Un (frs X.stack) ch H H' s.heap s'.heap) (hok:HOk X.prog X.w H' s'.heap) (hg:AllBare s'.gens)
  (hch:∀b∈ch,(b∈X.ex∨X.s₀.heap.objs.size≤b)∧b≠X.env.locals∧(∀x c,X.env.cells.lookup x=some c→c≠b)∧∀p∈X.pn++pins,p.1≠b):Inv X pins σ H' s':=by
 obtain ⟨h',g',d',t',o'⟩:=s';have e:o'=s.os:=ho;subst e;exact I.call (g':=g') (t':=t') (d':=d') u hok hg hch
end
abbrev XK:=Value→Option Addr→Hp→Prop
abbrev St:=List (Option V)
abbrev VK:=V→Hp→Prop
abbrev TE:=St→Hp→VK→Prop
abbrev TT:=St→Hp→(Bool→Hp→Prop)→Prop
abbrev TA:=St→Hp→(List V→Hp→Prop)→Prop
structure Ends where
 nx:St→Hp→Prop
 rt:VK
 bk:St→Hp→Prop:=fun _ _=>False
 ct:St→Hp→Prop:=fun _ _=>False
abbrev TS:=Ends→St→Hp→Prop
def EP (X:Cx) (pins:List (Addr×Obj)) (σ:St) (Q:VK) (u:Value) (s':Shared):Prop:=∃v H',Inv X pins σ H' s'∧RelV v u∧Q v H'
def TP (X:Cx) (pins:List (Addr×Obj)) (σ:St) (Q:Bool→Hp→Prop) (b:Bool) (s':Shared):Prop:=∃H',Inv X pins σ H' s'∧Q b H'
def AP (X:Cx) (pins:List (Addr×Obj)) (σ:St) (Q:List V→Hp→Prop) (us:List Value) (s':Shared):Prop:=∃vs H',Inv X pins σ H' s'∧Qaz vs us∧Q vs H'
def SP (X:Cx) (pins:List (Addr×Obj)) (D:Ends) (f:Flow) (s':Shared):Prop :=
 match f with
 | .next=>∃σ' H',Inv X pins σ' H' s'∧D.nx σ' H'
 | .brk=>∃σ' H',Inv X pins σ' H' s'∧D.bk σ' H'
 | .cont=>∃σ' H',Inv X pins σ' H' s'∧D.ct σ' H'
 | .ret u=>∃v σ' H',Inv X pins σ' H' s'∧RelV v u∧D.rt v H'
def PE (X:Cx) (e:Expr) (t:TE):Prop :=
 ∀(pins:List (Addr×Obj)) (s:Shared) (σ:St) (H:Hp) (Q:VK),Inv X pins σ H s→t σ H Q→wpAny (model X.prog X.w) X.A (eval e X.env) (EP X pins σ Q) X.xe s
def PT (X:Cx) (e:Expr) (t:TT):Prop :=
 ∀(pins:List (Addr×Obj)) (s:Shared) (σ:St) (H:Hp) (Q:Bool→Hp→Prop),Inv X pins σ H s→t σ H Q→wpAny (model X.prog X.w) X.A (isTrue e X.env (eval e X.env)) (TP X pins σ Q) X.xe s
def PW (X:Cx) (e:Expr) (t:TT):Prop :=
 ∀(whole:Sem Value) (pins:List (Addr×Obj)) (s:Shared) (σ:St) (H:Hp) (Q:Bool→Hp→Prop),Inv X pins σ H s→t σ H Q→wpAny (model X.prog X.w) X.A (isTrue e X.env whole) (TP X pins σ Q) X.xe s
theorem PW.pt {X:Cx}{e:Expr}{t:TT} (h:PW X e t):PT X e t:=h _
def PA (X:Cx) (es:List Expr) (t:TA):Prop :=
 ∀(pos:Pos) (pins:List (Addr×Obj)) (s:Shared) (σ:St) (H:Hp) (Q:List V→Hp→Prop),Inv X pins σ H s→t σ H Q→wpAny (model X.prog X.w) X.A (spliced (backTo pos (starEach es X.env))) (AP X pins σ Q) X.xe s
def PS (X:Cx) (st:Stmt) (t:TS):Prop :=
 ∀(pins:List (Addr×Obj)) (s:Shared) (σ:St) (H:Hp) (D:Ends),Inv X pins σ H s→t D σ H→wpAny (model X.prog X.w) X.A (exec st X.env) (SP X pins D) X.xe s
def PSs (X:Cx) (st:List Stmt) (t:TS):Prop :=
 ∀(pins:List (Addr×Obj)) (s:Shared) (σ:St) (H:Hp) (D:Ends),Inv X pins σ H s→t D σ H→wpAny (model X.prog X.w) X.A (execs st X.env) (SP X pins D) X.xe s
theorem thn {α:Type}{t:Sem α}{Q Q':α→Shared→Prop}{M:Model}{A:Around}{E:Value→Shared→Prop}{s:Shared} (h:wpAny M A t Q E s) (hQ:∀a s,Q a s→Q' a s):wpAny M A t Q' E s:=zN h hQ fun _ _ x=>x
section
variable {X:Cx}
def Qxt (i:Nat):TE:=fun σ H Q=>∃v,σ[i]? = some (some v)∧Q v H
def tC (v:V):TE:=fun _ H Q=>Q v H
theorem Qhd {i:Nat}{x:Str}{pos:Pos} (hN:X.N[i]? = some x) (hv:Vis X.env.scope x) (hd:(x == ("__debug__":Str))=false:=by decide) (hcd:(x == ("__classdict__":Str))=false:=by decide):PE X (.Name x pos) (Qxt i):=by
 intro pins s σ H Q I h;obtain ⟨v,e,h⟩:=h;obtain ⟨m,hn,hl⟩:=I.loc;obtain ⟨u,r,l⟩:=hl i x v hN e hv;have fin:EP X pins σ Q u s:=⟨v,H,I,r,h⟩
 rcases l with ⟨hk,hm⟩ | ⟨hk,c,hc,hcell⟩
 ·exact wpAny_Name (wpAny_loadName_local I.ok.kind hk hn hm fin) hd
 ·rcases hk with hk | hk
  ·exact wpAny_Name (wpAny_loadName_cell I.ok.kind hk hc hcell fin) hd
  ·exact wpAny_Name (wpAny_loadName_free I.ok.kind hk hc hcell fin hcd) hd
theorem Qvo {i j pos}:PE X (.Constant (.int i) j pos) (tC (.int i)):=fun _ _ _ H _ I h=>wpAny_Constant_int ⟨.int i,H,I.tok _,⟨_,rfl⟩,h⟩
theorem QwO {b j pos}:PE X (.Constant (.bool b) j pos) (tC (.bl b)):=fun _ _ _ H _ I h=>Constant_bool ⟨.bl b,H,I,rfl,h⟩
theorem QvW {j pos}:PE X (.Constant .none j pos) (tC .non):=fun _ _ _ H _ I h=>Constant_none ⟨.non,H,I,rfl,h⟩
theorem QuE {x j pos}:PE X (.Constant (.str x) j pos) (tC (.str x)):=fun _ _ _ H _ I h=>Calls.Constant_str ⟨.str x,H,I.tok _,⟨_,rfl⟩,h⟩
def Gl (X:Cx) (x:Str):Prop:=X.env.kindOf x=some .globalImplicit
theorem Qkw {E:Value→Shared→Prop}{pins:List (Addr×Obj)}{s:Shared}{σ:St}{H:Hp}{x:Str}{u:Value}{pos:Pos}{Q:Value→Shared→Prop} (I:Inv X pins σ H s) (hg:Gl X x) (hm:X.mg x=some u) (h:Q u s)
  (hd:(x == ("__debug__":Str))=false:=by decide):wpAny (model X.prog X.w) X.A (eval (.Name x pos) X.env) Q E s :=
 Calls.Name_function_global I.ok.kind hg (Calls.loadGlobal_global (by rw [I.ok.glob]; exact I.mod.glob.keeps I.bk) hm h) hd
theorem QdS {E:Value→Shared→Prop}{pins:List (Addr×Obj)}{s:Shared}{σ:St}{H:Hp}{x:Str}{u:Value}{pos:Pos}{Q:Value→Shared→Prop} (I:Inv X pins σ H s) (hg:Gl X x) (hm:X.mg x=none) (hv:bootBuiltins x=some u) (h:Q u s)
  (hn:x≠"__name__":=by decide) (hd:(x == ("__debug__":Str))=false:=by decide):wpAny (model X.prog X.w) X.A (eval (.Name x pos) X.env) Q E s:=by
 obtain ⟨mb,h1,h2⟩:=I.mod.blt;exact Calls.Name_function_global I.ok.kind hg (Calls.loadGlobal_builtin (by rw [I.ok.glob]; exact I.mod.glob.keeps I.bk) hm (by rw [I.ok.blt]; exact h1.keeps I.bk) ((h2 x hn).trans hv) h) hd
theorem QsA {x:Str}{v:V}{u:Value}{pos:Pos} (hg:Gl X x) (hm:X.mg x=some u) (r:RelV v u) (hd:(x == ("__debug__":Str))=false:=by decide):PE X (.Name x pos) (tC v) :=
 fun _ _ _ H _ I h=>Qkw I hg hm ⟨v,H,I,r,h⟩ hd
theorem Qt2 {x:Str}{v:V}{u:Value}{pos:Pos} (hg:Gl X x) (hm:X.mg x=none) (hv:bootBuiltins x=some u) (r:RelV v u) (hn:x≠"__name__":=by decide) (hd:(x == ("__debug__":Str))=false:=by decide):PE X (.Name x pos) (tC v) :=
 fun _ _ _ H _ I h=>QdS I hg hm hv ⟨v,H,I,r,h⟩ hn hd
variable {a b:Expr}{ta tb:TE}{pos:Pos}
def PC (X:Cx) (op:CmpOp) (a b:Expr) (t:TE):Prop :=
 ∀(pins:List (Addr×Obj)) (s:Shared) (σ:St) (H:Hp) (Q:VK),Inv X pins σ H s→t σ H Q →
  wpAny (model X.prog X.w) X.A (eval a X.env) (fun v s₁=>wpAny (model X.prog X.w) X.A (eval b X.env) (fun u s₂=>wpAny (model X.prog X.w) X.A (compareOp op v u) (EP X pins σ Q) X.xe s₂) X.xe s₁) X.xe s
theorem Qrs (b:Expr) {op:CmpOp} (h:op≠.In) (h2:op≠.NotIn):behindInMarks op b=false:=by
 have e1:(op == CmpOp.In)=false:=by cases op <;> first | rfl | exact absurd rfl h
 have e2:(op == CmpOp.NotIn)=false:=by cases op <;> first | rfl | exact absurd rfl h2
 cases b <;> simp [behindInMarks,e1,e2]
def Qt9 (ta:TE):TE:=fun σ H Q=>ta σ H fun x H1=>Q (.bl (decide (x = .non))) H1
def Qsh (ta:TE):TE:=fun σ H Q=>ta σ H fun x H1=>Q (.bl (!decide (x = .non))) H1
theorem RelV.none_iff {x:V}{v:Value} (r:RelV x v):(v == Value.none)=decide (x = .non):=by
 cases x with
 | non=>cases r; rfl
 | bl _=>cases r; rfl
 | int _=>obtain ⟨t,rfl⟩:=r; rfl
 | str _=>obtain ⟨t,rfl⟩:=r; rfl
 | byt _=>obtain ⟨t,rfl⟩:=r; rfl
 | flt _=>obtain ⟨t,rfl⟩:=r; rfl
 | ref _=>cases r; rfl
 | ty _=>cases r; rfl
theorem Qus {j pos'} (ha:PE X a ta):PC X .Is a (.Constant .none j pos') (Qt9 ta):=by
 intro pins s σ H Q I h
 refine thn (ha pins s σ H _ I h) fun v s1 ⟨x,H1,I1,r1,q1⟩=>?_
 exact Constant_none (is_none_gen ⟨.bl _,H1,I1,by rw [r1.none_iff]; rfl,q1⟩)
theorem QtE {j pos'} (ha:PE X a ta):PC X .IsNot a (.Constant .none j pos') (Qsh ta):=by
 intro pins s σ H Q I h
 refine thn (ha pins s σ H _ I h) fun v s1 ⟨x,H1,I1,r1,q1⟩=>?_
 exact Constant_none (isnot_none_gen ⟨.bl _,H1,I1,by rw [r1.none_iff]; rfl,q1⟩)
def tB (t:TE):TT:=fun σ H Q=>t σ H fun x H1=>∃c,x = .bl c∧Q c H1
theorem QpV {op:CmpOp}{t:TE} (h:PC X op a b t) (h1:behindInMarks op b=false:=by first | exact Qrs _ (by decide) (by decide) | rfl):PT X (.Compare a [op] [b] pos) (tB t):=by
 intro pins s σ H Q I hw;refine wpAny_isTrue_Compare1 (thn (h pins s σ H _ I hw) fun v s1 h1=>thn h1 fun u s2 h2=>thn h2 fun c s3 ⟨x,H1,I1,r1,q1⟩=>?_) h1;obtain ⟨d,rfl,q⟩:=q1;cases r1;exact wpAny_truthy_bool ⟨H1,I1,q⟩
variable {tA tB':TT}{rest:List Expr}
def QvQ (t u:TT):TT:=fun σ H Q=>t σ H fun c H1=>if c=true then u σ H1 Q else Q false H1
def tOr (t u:TT):TT:=fun σ H Q=>t σ H fun c H1=>if c=true then Q true H1 else u σ H1 Q
def QxX (t:TT):TT:=fun σ H Q=>t σ H fun c H1=>Q (!c) H1
theorem QtO (ha:PT X a tA):PW X (.BoolOp .And [a] pos) tA:=by
 intro wh pins s σ H Q I h;refine isTrue_and (thn (ha pins s σ H Q I h) fun c s1 e=>?_)
 cases c with
 | true=>exact isTrue_and_nil e
 | false=>exact e
theorem Qud (ha:PT X a tA):PW X (.BoolOp .Or [a] pos) tA:=by
 intro wh pins s σ H Q I h;refine isTrue_or (thn (ha pins s σ H Q I h) fun c s1 e=>?_)
 cases c with
 | false=>exact isTrue_or_nil e
 | true=>exact e
theorem QuT (ha:PT X a tA) (hb:PW X (.BoolOp .And (b::rest) pos) tB'):PW X (.BoolOp .And (a::b::rest) pos) (QvQ tA tB'):=by
 intro wh pins s σ H Q I h;refine isTrue_and (thn (ha pins s σ H _ I h) fun c s1 ⟨H1,I1,q1⟩=>?_)
 cases c with
 | true=>exact hb wh pins s1 σ H1 Q I1 q1
 | false=>exact ⟨H1,I1,q1⟩
theorem QwI (ha:PT X a tA) (hb:PW X (.BoolOp .Or (b::rest) pos) tB'):PW X (.BoolOp .Or (a::b::rest) pos) (tOr tA tB'):=by
 intro wh pins s σ H Q I h;refine isTrue_or (thn (ha pins s σ H _ I h) fun c s1 ⟨H1,I1,q1⟩=>?_)
 cases c with
 | true=>exact ⟨H1,I1,q1⟩
 | false=>exact hb wh pins s1 σ H1 Q I1 q1
theorem Qu6 (ha:PT X a tA):PT X (.UnaryOp .Not a pos) (QxX tA):=by
 intro pins s σ H Q I h;exact isTrue_not (ha pins s σ H (fun c H1=>Q (!c) H1) I h)
def QwB (ta tb:TE):TE:=fun σ H Q=>ta σ H fun x H1=>∃c,x = .bl c∧if c=true then tb σ H1 Q else Q (.bl false) H1
def Qwq (ta:TE):TE:=fun σ H Q=>ta σ H fun x H1=>∃c,x = .bl c∧Q (.bl (!c)) H1
theorem Quk {op}{t:TE} (h:PE X a t):PE X (.BoolOp op [a] pos) t:=fun pins s σ H Q I hw=>BoolOp_one (h pins s σ H Q I hw)
theorem QuV (ha:PE X a ta) (hb:PE X (.BoolOp .And (b::rest) pos) tb):PE X (.BoolOp .And (a::b::rest) pos) (QwB ta tb):=by
 intro pins s σ H Q I h;refine BoolOp_and (thn (ha pins s σ H _ I h) fun v s1 ⟨x,H1,I1,r1,q1⟩=>?_);obtain ⟨c,rfl,q1⟩:=q1;cases r1;refine wpAny_truthy_bool ?_
 cases c with
 | true=>exact hb pins s1 σ H1 Q I1 q1
 | false=>exact ⟨.bl false,H1,I1,rfl,q1⟩
theorem Qur (ha:PE X a ta):PE X (.UnaryOp .Not a pos) (Qwq ta):=by
 intro pins s σ H Q I h;refine UnaryOp_ (thn (ha pins s σ H _ I h) fun v s1 ⟨x,H1,I1,r1,q1⟩=>?_);obtain ⟨c,rfl,q1⟩:=q1;cases r1;exact not_of (wpAny_truthy_bool ⟨.bl (!c),H1,I1,rfl,q1⟩)
def tIf (t:TT) (ta tb:TE):TE:=fun σ H Q=>t σ H fun c H1=>if c=true then ta σ H1 Q else tb σ H1 Q
theorem QrF {c:Expr} (hc:PT X c tA) (ha:PE X a ta) (hb:PE X b tb):PE X (.IfExp c a b pos) (tIf tA ta tb):=by
 intro pins s σ H Q I h;refine wpAny_IfExp (thn (hc pins s σ H _ I h) fun d s1 ⟨H1,I1,q1⟩=>?_)
 cases d with
 | true=>exact ha pins s1 σ H1 Q I1 q1
 | false=>exact hb pins s1 σ H1 Q I1 q1
end
def SqL (K:PySem.W.Frag) (H:Hp) (a:Addr) (xs:List V):Prop :=
 Rd H a (.lst xs) ∨
  ∃(o:Obj) (its:Array Value) (n:Nat),K.lookup a=some o∧o.cls = .type "list"∧o.dict=none∧o.data = .seq its n∧its.size≤sizeLine∧Qaz xs its.toList
def SqT (K:PySem.W.Frag) (H:Hp) (a:Addr) (xs:List V):Prop :=
 Rd H a (.tup xs) ∨
  ∃(o:Obj) (its:Array Value) (n:Nat),K.lookup a=some o∧o.cls = .type "tuple"∧o.data = .seq its n∧its.size≤sizeLine∧Qaz xs its.toList
def QxB:Value→Option V
 | .none=>some .non
 | .bool b=>some (.bl b)
 | .int i _=>some (.int i)
 | .str x _=>some (.str x)
 | .bytes b _=>some (.byt b)
 | .float b _=>some (.flt b)
 | .ref a=>some (.ref a)
 | .type n=>some (.ty n)
 | _=>none
theorem RelV.abs {x:V}{u:Value} (r:RelV x u):QxB u=some x:=by
 cases x with
 | non=>cases r; rfl
 | bl _=>cases r; rfl
 | int _=>obtain ⟨t,rfl⟩:=r; rfl
 | str _=>obtain ⟨t,rfl⟩:=r; rfl
 | byt _=>obtain ⟨t,rfl⟩:=r; rfl
 | flt _=>obtain ⟨t,rfl⟩:=r; rfl
 | ref _=>cases r; rfl
 | ty _=>cases r; rfl
theorem RelV.inj {x y:V}{u:Value} (r:RelV x u) (q:RelV y u):x=y:=zH (r.abs.symm.trans q.abs)
theorem Qaz.inj:∀{xs ys:List V}{us:List Value},Qaz xs us→Qaz ys us→xs=ys
 | _,_,_,.nil,.nil=>rfl
 | _,_,_,.cons r t,.cons r' t'=>by rw [r.inj r',Qaz.inj t t']
section
variable {X:Cx}{pins:List (Addr×Obj)}{σ:St}{H:Hp}{s:Shared}{a:Addr}{xs ys:List V}
theorem SqL.of {K:PySem.W.Frag} (h:H a=some (.lst xs)):SqL K H a xs:=.inl (.inl h)
theorem SqT.of {K:PySem.W.Frag} (h:H a=some (.tup xs)):SqT K H a xs:=.inl (.inl h)
theorem Inv.list (I:Inv X pins σ H s) (h:SqL X.K H a xs):∃its:List Value,Qaz xs its∧PlainL s.heap a its.toArray∧xs.length≤sizeLine:=by
 rcases h with h | ⟨o,its,n,hk,hc,hd,hs,hz,r⟩
 ·obtain ⟨z,its,n,r,e⟩:=h.ok I.hok;exact ⟨its,r,⟨_,n,e,rfl,rfl,rfl⟩,z⟩
 ·refine ⟨its.toList,r,⟨o,n,I.kIn a o hk,hc,hd,by simpa using hs⟩,?_⟩;have e:=r.length;simp only [Array.length_toList] at e;omega
theorem Inv.tuple (I:Inv X pins σ H s) (h:SqT X.K H a xs):∃its:List Value,Qaz xs its∧IsTup s.heap a its.toArray∧xs.length≤sizeLine:=by
 rcases h with h | ⟨o,its,n,hk,hc,hs,hz,r⟩
 ·obtain ⟨z,its,r,p⟩:=h.ok I.hok;exact ⟨its,r,p,z⟩
 ·refine ⟨its.toList,r,⟨o,I.kIn a o hk,hc,n,by simpa using hs⟩,?_⟩;have e:=r.length;simp only [Array.length_toList] at e;omega
theorem Inv.list_inj (I:Inv X pins σ H s) (h:SqL X.K H a xs) (h':SqL X.K H a ys):xs=ys:=by
 obtain ⟨its,r,⟨o,n,e,_,_,d⟩,_⟩:=I.list h;obtain ⟨its',r',⟨o',n',e',_,_,d'⟩,_⟩:=I.list h';rw [e] at e'; cases e';rw [d] at d'
 injection d' with d1 _
 have:its=its':=by simpa using congrArg Array.toList d1
 subst this;exact r.inj r'
theorem Inv.tuple_inj (I:Inv X pins σ H s) (h:SqT X.K H a xs) (h':SqT X.K H a ys):xs=ys:=by
 obtain ⟨its,r,⟨o,e,_,n,d⟩,_⟩:=I.tuple h;obtain ⟨its',r',⟨o',e',_,n',d'⟩,_⟩:=I.tuple h';rw [e] at e'; cases e';rw [d] at d'
 injection d' with d1 _
 have:its=its':=by simpa using congrArg Array.toList d1
 subst this;exact r.inj r'
end
abbrev Cx.wish (X:Cx) (E:Value→Shared→Prop):Cx:={ X with xe:=E }
abbrev Cx.nox (X:Cx):Cx:=X.wish fun _ _=>False
theorem Cx.Ok.wish {X:Cx} (ok:X.Ok) (E:Value→Shared→Prop):(X.wish E).Ok :=
 ⟨ok.mod,ok.kind,ok.glob,ok.blt,ok.above,ok.inj,ok.has,ok.cab,ok.hd,ok.frames,ok.stk,ok.exf,ok.bs,ok.bsz,ok.noex,ok.exfs,ok.funs,ok.frf⟩
theorem Cx.Ok.unwish {X:Cx}{E:Value→Shared→Prop} (ok:(X.wish E).Ok):X.Ok :=
 ⟨ok.mod,ok.kind,ok.glob,ok.blt,ok.above,ok.inj,ok.has,ok.cab,ok.hd,ok.frames,ok.stk,ok.exf,ok.bs,ok.bsz,ok.noex,ok.exfs,ok.funs,ok.frf⟩
section
variable {X:Cx}{pins:List (Addr×Obj)}{σ:St}{H:Hp}{s:Shared}{E:Value→Shared→Prop}
theorem Inv.wish (I:Inv X pins σ H s) (E:Value→Shared→Prop):Inv (X.wish E) pins σ H s:=⟨I.ok.wish E,I.os,I.bare,I.base,I.loc,I.cell,I.free,I.freeC,I.pin,I.hok,I.len⟩
theorem Inv.unwish (I:Inv (X.wish E) pins σ H s):Inv X pins σ H s:=⟨I.ok.unwish,I.os,I.bare,I.base,I.loc,I.cell,I.free,I.freeC,I.pin,I.hok,I.len⟩
theorem SP.unwish {D:Ends}{f:Flow}{s':Shared} (h:SP (X.wish E) pins D f s'):SP X pins D f s':=by
 cases f with
 | next=>obtain ⟨σ',H',I,q⟩:=h; exact ⟨σ',H',I.unwish,q⟩
 | brk=>obtain ⟨σ',H',I,q⟩:=h; exact ⟨σ',H',I.unwish,q⟩
 | cont=>obtain ⟨σ',H',I,q⟩:=h; exact ⟨σ',H',I.unwish,q⟩
 | ret u=>obtain ⟨v,σ',H',I,r,q⟩:=h; exact ⟨v,σ',H',I.unwish,r,q⟩
theorem PE.nox {e:Expr}{t:TE} (h:PE X.nox e t):PE X e t:=fun pins s σ H Q I hw =>
 zN (h pins s σ H Q (I.wish _) hw) (fun _ _ ⟨v,H',I',r,q⟩=>⟨v,H',I'.unwish,r,q⟩) fun _ _ z=>False.elim z
theorem PT.nox {e:Expr}{t:TT} (h:PT X.nox e t):PT X e t:=fun pins s σ H Q I hw =>
 zN (h pins s σ H Q (I.wish _) hw) (fun _ _ ⟨H',I',q⟩=>⟨H',I'.unwish,q⟩) fun _ _ z=>False.elim z
theorem PSs.nox {st:List Stmt}{t:TS} (h:PSs X.nox st t):PSs X st t:=fun pins s σ H D I hw =>
 zN (h pins s σ H D (I.wish _) hw) (fun _ _ q=>q.unwish) fun _ _ z=>False.elim z
end
section
variable {X:Cx}{st:Stmt}{rest:List Stmt}{t u:TS}{e:Expr}{te:TE}{pos:Pos}
def Qwb:TS:=fun D σ H=>D.nx σ H
def Qxm (t u:TS):TS:=fun D σ H=>t { D with nx:=u D } σ H
theorem Qs3:PSs X [] Qwb:=fun _ _ σ H _ I h=>wpAny_execs_nil ⟨σ,H,I,h⟩
theorem QrK (h1:PS X st t) (h2:PSs X rest u):PSs X (st::rest) (Qxm t u):=by
 intro pins s σ H D I h;refine wpAny_execs_cons (thn (h1 pins s σ H { D with nx:=u D } I h) fun f s1 q=>?_)
 cases f with
 | next =>
  obtain ⟨σ',H',I',q⟩:=q;exact h2 pins s1 σ' H' D I' q
 | ret v=>exact q
 | brk=>exact q
 | cont=>exact q
theorem QsT (h1:PS X st t):PSs X [st] t:=by
 intro pins s σ H D I h;refine wpAny_execs_cons (thn (h1 pins s σ H D I h) fun f s1 q=>?_)
 cases f with
 | next=>exact wpAny_execs_nil q
 | ret v=>exact q
 | brk=>exact q
 | cont=>exact q
def QuG:TS:=fun D σ H=>D.bk σ H
theorem Qrn:PS X (.Break pos) QuG:=fun _ _ σ H _ I h=>wpAny_Break ⟨σ,H,I,h⟩
theorem Inv.quiet {pins:List (Addr×Obj)}{σ:St}{H:Hp}{s:Shared} (I:Inv X pins σ H s):interactive X.env=false:=by simp [interactive,I.ok.kind]
def Qwo (te:TE):TS:=fun D σ H=>te σ H fun _ H1=>D.nx σ H1
theorem Qkx (he:PE X e te) (hs:swapsWith e none pos.line X.env=pure false:=by rfl):PS X (.Expr e pos) (Qwo te):=by
 intro pins s σ H D I h;exact wpAny_Expr_any (thn (he pins s σ H _ I h) fun v s1 ⟨x,H1,I1,r1,q1⟩=>⟨σ,H1,I1,q1⟩) I.quiet hs
def QxP (te:TE):TS:=fun D σ H=>te σ H D.rt
theorem Qpu (he:PE X e te):PS X (.Return (some e) pos) (QxP te):=by
 intro pins s σ H D I h;exact wpAny_Return_some (thn (he pins s σ H _ I h) fun v s1 ⟨x,H1,I1,r1,q1⟩=>⟨x,σ,H1,I1,r1,q1⟩)
def Qxo (c:TT) (t u:TS):TS:=fun D σ H=>c σ H fun b H1=>if b=true then t D σ H1 else u D σ H1
theorem Qv9 {c:Expr}{a b:List Stmt}{tc:TT} (hc:PT X c tc) (ha:PSs X a t) (hb:PSs X b u):PS X (.If c a b pos) (Qxo tc t u):=by
 intro pins s σ H D I h;refine wpAny_If (thn (hc pins s σ H _ I h) fun d s1 ⟨H1,I1,q1⟩=>?_)
 cases d with
 | true=>exact ha pins s1 σ H1 D I1 q1
 | false=>exact hb pins s1 σ H1 D I1 q1
def QvP:TS:=fun _ _ _=>False
theorem Qrh:PS X st QvP:=fun _ _ _ _ _ _ h=>h.elim
end
abbrev TG:=V→St→Hp→(St→Hp→Prop)→Prop
abbrev TGs:=List V→St→Hp→(St→Hp→Prop)→Prop
def PG (X:Cx) (target:Expr) (t:TG):Prop :=
 ∀(pins:List (Addr×Obj)) (s:Shared) (σ:St) (H:Hp) (v:V) (u:Value) (Q:St→Hp→Prop),Inv X pins σ H s→RelV v u→t v σ H Q →
  wpAny (model X.prog X.w) X.A (assign target X.env u) (fun _ s'=>∃σ' H',Inv X pins σ' H' s'∧Q σ' H') X.xe s
def PGs (X:Cx) (ts:List Expr) (t:TGs):Prop :=
 ∀(pins:List (Addr×Obj)) (s:Shared) (σ:St) (H:Hp) (vs:List V) (us:List Value) (Q:St→Hp→Prop),Inv X pins σ H s→Qaz vs us→t vs σ H Q →
  wpAny (model X.prog X.w) X.A (assignInOrder ((assignEach ts X.env).map (·.2)) us) (fun _ s'=>∃σ' H',Inv X pins σ' H' s'∧Q σ' H') X.xe s
section
variable {X:Cx}{pos:Pos}
def Qj2 (i:Nat):TG:=fun v σ H Q=>Q (σ.set i (some v)) H
theorem Qtb {i:Nat}{x:Str} (hN:X.N.Nodup) (hi:X.N[i]? = some x) (hx:Loc X.env.scope x) (hf:X.fn x=true∨X.env.scope.names.lookup x=some .local:=by first | exact .inl rfl | exact .inr rfl | assumption):PG X (.Name x pos) (Qj2 i):=by
 intro pins s σ H v u Q I r h;exact wpAny_assign_Name (QjP I hN hi hx r (fun s' I'=>⟨_,H,I',h⟩) hf)
def QxR:TGs:=fun vs σ H Q=>vs = []∧Q σ H
def QwY (t:TG) (u:TGs):TGs:=fun vs σ H Q=>∃v r,vs=v::r∧t v σ H fun σ' H'=>u r σ' H' Q
theorem Qt4:PGs X [] QxR:=by
 intro pins s σ H vs us Q I r h;obtain ⟨e,h⟩:=h;subst e;cases r;exact assignInOrder_nil ⟨σ,H,I,h⟩
theorem Qrv {e:Expr}{es:List Expr}{t:TG}{u:TGs} (h1:PG X e t) (h2:PGs X es u)
  (hs:(assignEach (e::es) X.env).map (·.2)=assign e X.env::(assignEach es X.env).map (·.2):=by rfl):PGs X (e::es) (QwY t u):=by
 intro pins s σ H vs us Q I r h;obtain ⟨v,vr,e1,h⟩:=h;subst e1
 cases r with
 | cons r rr =>
  rw [hs];refine assignInOrder_cons (thn (h1 pins s σ H _ _ _ I r h) fun _ s1 ⟨σ1,H1,I1,q1⟩=>?_);exact h2 pins s1 σ1 H1 _ _ Q I1 rr q1
def QxM (K:PySem.W.Frag) (n:Nat) (t:TGs):TG:=fun v σ H Q=>∃a xs,v = .ref a∧SqT K H a xs∧xs.length=n∧t xs σ H Q
theorem Qul {es:List Expr}{k:Nat}{t:TGs}{n:Nat} (hc:X.calm=true) (h:PGs X es t)
  (hn:(assignEach es X.env).length=n:=by rfl) (hst:(assignEach es X.env).findIdx? (·.1)=none:=by rfl):PG X (.Tuple es k pos) (QxM X.K n t):=by
 intro pins s σ H v u Q I r hw;obtain ⟨a,xs,e1,hq,hl,hw⟩:=hw;subst e1;cases r;obtain ⟨its,rv,ht,hz⟩:=I.tuple hq
 refine assign_Tuple_tuple (I.ok.hd hc) ht (by simp [hn,←hl,rv.length]) hst fun h' hx=>?_
 have I1:Inv X pins σ H { s with heap:=h' }:=I.kept (t':=s.toks) fun b o e=>hx b o (zv (zg e)) e
 exact h pins _ σ H xs _ Q I1 (by simpa using rv) hw
def Qor (te:TE) (g:TG):TS:=fun D σ H=>te σ H fun x H1=>g x σ H1 D.nx
theorem Qpo {i:Nat}{x:Str}{e:Expr}{te:TE}{pos':Pos} (hN:X.N.Nodup) (hi:X.N[i]? = some x) (hx:Loc X.env.scope x) (he:PE X e te) (hs:swapsWith e (some (.Name x pos')) pos.line X.env=pure false:=by rfl) (hf:X.fn x=true∨X.env.scope.names.lookup x=some .local:=by first | exact .inl rfl | exact .inr rfl | assumption) :
  PS X (.Assign [.Name x pos'] e pos) (Qor te (Qj2 i)):=by
 intro pins s σ H D I h;refine wpAny_Assign_Name (thn (he pins s σ H _ I h) fun v s1 ⟨y,H1,I1,r1,q1⟩=>?_) hs;exact QjP I1 hN hi hx r1 (fun s2 I2=>⟨_,H1,I2,q1⟩) hf
end
section
variable {X:Cx}{pos:Pos}
def Qp1 (c:TT) (tb:TS):TS:=fun D σ H=>∃W:Nat→St→Hp→Prop,(∃m,W m σ H)∧∀m σ H,W m σ H →
 c σ H fun b H1=>if b=true then ∃N:St→Hp→Prop,(∀σ' H',N σ' H'→∃m',m' < m∧W m' σ' H')∧tb { D with nx:=N,ct:=N,bk:=D.nx } σ H1 else D.nx σ H1
theorem Qq2 {c:Expr}{body:List Stmt}{tc:TT}{tb:TS} (hp:PassesOwn (model X.prog X.w) X.A X.env X.xe) (hc:PT X c tc) (hb:PSs X body tb):PS X (.While c body [] pos) (Qp1 tc tb):=by
 intro pins s σ H D I h;obtain ⟨W,⟨m0,w0⟩,turn⟩:=h;refine wpAny_While (codeAny_whileLoop (fun n s'=>∃σ' H',Inv X pins σ' H' s'∧W n σ' H') ?_ m0 ⟨σ,H,I,w0⟩);rintro n s1 ⟨σ1,H1,I1,w1⟩;refine wpAny_passesOwn hp (thn (hc pins s1 σ1 H1 _ I1 (turn n σ1 H1 w1)) fun b s2 ⟨H2,I2,q2⟩=>?_)
 cases b with
 | true =>
  obtain ⟨N,hN,q2⟩:=q2;rw [if_pos rfl];refine wpAny_passesOwn hp (thn (hb pins s2 σ1 H2 _ I2 q2) fun f s3 q3=>?_)
  cases f with
  | next =>
   obtain ⟨σ3,H3,I3,n3⟩:=q3;obtain ⟨m',hm,w3⟩:=hN σ3 H3 n3;exact ⟨m',hm,σ3,H3,I3,w3⟩
  | cont =>
   obtain ⟨σ3,H3,I3,n3⟩:=q3;obtain ⟨m',hm,w3⟩:=hN σ3 H3 n3;exact ⟨m',hm,σ3,H3,I3,w3⟩
  | brk=>exact q3
  | ret v=>exact q3
 | false =>
  rw [if_neg zj];exact wpAny_execs_nil ⟨σ1,H2,I2,q2⟩
end
structure It where
 go:Nat→Hp→Prop
 yld:Nat→Hp→V→Hp→Prop
 stop:Nat→Hp→Prop
def Qfx (X:Cx) (pins:List (Addr×Obj)) (H:Hp) (b:Addr):Prop :=
 H b=none∧b≠X.env.locals∧b∉X.fs∧(b∈X.ex∨X.s₀.heap.objs.size≤b)∧(∀x c,X.env.cells.lookup x=some c→c≠b)∧∀p∈X.pn++pins,p.1≠b
theorem Inv.fpOk {X:Cx}{pins:List (Addr×Obj)}{σ:St}{H H':Hp}{s:Shared}{b:Addr} (I:Inv X pins σ H s) (hb:s.heap.objs.size≤b) (hn:H' b=none):Qfx X pins H' b:=by
 refine ⟨hn,Nat.ne_of_gt (zE I.lt hb),I.nofs hb,.inr (zF I.sz hb),fun x c e z=>?_,fun p hp z=>?_⟩
 ·obtain ⟨v,q⟩:=I.cell x c e;exact absurd (zE q.lt (by rw [z]; exact hb)) (zV _)
 ·exact absurd (zE (zg (I.pin p hp).1) (by rw [z]; exact hb)) (zV _)
structure Turn (P:Program) (w:World) (K:PySem.W.Frag) (tg:Expr) (J:It) (fp:List Addr) (it:Addr) (tn:Nat→Heap→Prop):Prop where
 mem:it∈fp
 obj:∀i h,tn i h→∀b∈fp,∃o,h.get? b=some o∧∀v,o.data≠.cell v
 keep:∀i h h',tn i h→(∀b∈fp,∀o,h.get? b=some o→h'.get? b=some o)→tn i h'
 item:∀(X:Cx),X.prog=P→X.w=w→X.K=K→X.calm=true→∀(i:Nat) (pins:List (Addr×Obj)) (s:Shared) (σ:St) (H:Hp) (E:Value→Shared→Prop),Inv X pins σ H s→(∀b∈fp,Qfx X pins H b)→tn i s.heap→J.go i H →
  wpAny (model P w) X.A (pyNext (.ref it)) (fun r s1=>∃u,r=some u ∧
   wpAny (model P w) X.A (letOwnedTupleGo tg (.ref it) u) (fun _ s2=>∃x H',Inv X pins σ H' s2∧RelV x u∧J.yld i H x H'∧tn (i+1) s2.heap∧∀b∈fp,H' b=none) E s1) E s
 done:∀(X:Cx),X.prog=P→X.w=w→X.K=K→X.calm=true→∀(i:Nat) (pins:List (Addr×Obj)) (s:Shared) (σ:St) (H:Hp) (E:Value→Shared→Prop),Inv X pins σ H s→(∀b∈fp,Qfx X pins H b)→tn i s.heap→J.stop i H →
  wpAny (model P w) X.A (pyNext (.ref it)) (fun r s1=>r=none∧Inv X pins σ H s1) E s
 self:∀(A:Around) (i:Nat) (s:Shared) (Q:Value→Shared→Prop) (E:Value→Shared→Prop),tn i s.heap→Q (.ref it) s→wpAny (model P w) A (pyIter (.ref it)) Q E s
abbrev TI:=St→Hp→(It→Hp→Prop)→Prop
def PIE (X:Cx) (pins:List (Addr×Obj)) (σ:St) (tg:Expr) (R:It→Hp→Prop) (itv:Value) (s2:Shared):Prop :=
 ∃(it:Addr) (fp:List Addr) (tn:Nat→Heap→Prop) (J:It) (H':Hp),itv = .ref it∧Inv X pins σ H' s2∧Turn X.prog X.w X.K tg J fp it tn∧tn 0 s2.heap∧(∀b∈fp,Qfx X pins H' b)∧R J H'
def PI (X:Cx) (tg iter:Expr) (wi:TI):Prop :=
 ∀(pins:List (Addr×Obj)) (s:Shared) (σ:St) (H:Hp) (R:It→Hp→Prop),Inv X pins σ H s→wi σ H R →
  wpAny (model X.prog X.w) X.A (eval iter X.env) (fun v s1=>wpAny (model X.prog X.w) X.A (pyIter v) (PIE X pins σ tg R) X.xe s1) X.xe s
theorem QhG {M:Model}{A:Around}{E:Value→Shared→Prop}{s:Shared}{tg:Expr}{it:Addr}{u:Value}{o:Obj}{n:String}{vs:Array Value}{Q:Unit→Shared→Prop} (ho:s.heap.get? it=some o) (hc:o.cls = .type n) (hd:o.data = .fields vs)
  (hn:["enumerate","zip","dict_itemiterator","dict_reverseitemiterator","odict_iterator","itertools.zip_longest","itertools.pairwise"].contains n=false) (hQ:Q () s):wpAny M A (letOwnedTupleGo tg (.ref it) u) Q E s:=by
 unfold letOwnedTupleGo
 cases tg <;> first
  | exact zc hQ
  | (cases u <;> first
    | exact zc hQ
    | (refine za (wpAny_load ho ?_)
       rw [hc,hd];show wpAny M A (if (["enumerate","zip","dict_itemiterator","dict_reverseitemiterator","odict_iterator","itertools.zip_longest","itertools.pairwise"].contains n&&vs[0]? == some (rawInt _))=true then _ else _) Q E s;rw [if_neg (by intro h; rw [hn,Bool.false_and] at h; cases h)]
       exact zc hQ))
def Itl (K:PySem.W.Frag) (a:Addr):It :=
 ⟨fun i H=>∃xs x,SqL K H a xs∧xs[i]? = some x,fun i H x H'=>H'=H∧∀xs,SqL K H a xs→xs[i]? = some x,fun i H=>∃xs,SqL K H a xs∧xs.length≤i⟩
def Itt (K:PySem.W.Frag) (a:Addr):It :=
 ⟨fun i H=>∃xs x,SqT K H a xs∧xs[i]? = some x,fun i H x H'=>H'=H∧∀xs,SqT K H a xs→xs[i]? = some x,fun i H=>∃xs,SqT K H a xs∧xs.length≤i⟩
def Itr (lo:Int) (n:Nat):It:=⟨fun i _=>i < n,fun i H x H'=>H'=H∧x = .int (lo+i),fun i _=>n≤i⟩
theorem Qqa {P:Program}{w:World}{K:PySem.W.Frag}{tg:Expr} (a it:Addr):Turn P w K tg (Itl K a) [it] it (fun i h=>h.IsListIter it a i) where
 mem:=by simp
 obj:=fun i h st b hb=>by
  have e:b=it:=by simpa using hb
  subst e;obtain ⟨o,e,c,d⟩:=st;exact ⟨o,e,fun v z=>by rw [d] at z; cases z⟩
 keep:=fun i h h' st k=>st.at fun o e=>k it (by simp) o e
 item:=by
  intro X hP hw hK hc i pins s σ H E I hf st hg;subst hP hw hK;obtain ⟨xs,x,hq,hx⟩:=hg;obtain ⟨its,rv,p,hz⟩:=I.list hq;obtain ⟨u,hu,ru⟩:=rv.get hx;obtain ⟨f0,f1,f2,f3,f4,f5⟩:=hf it (by simp)
  refine wpAny_pyNext_list_item st p.isList (x:=u) (by simpa using hu) fun h' st' sb=>?_
  have I1:Inv X pins σ H { s with heap:=h' }:=I.turned (t':=s.toks) (fun b o hb e=>(sb.2 b hb).trans e) f0 f1 f3 f4 f5;obtain ⟨o,e,c,d⟩:=id st';exact ⟨u,rfl,QhG (s:={ s with heap:=h' }) e c d (by decide) ⟨x,H,I1,ru,⟨rfl,fun ys hy=>by rw [I.list_inj hy hq]; exact hx⟩,st',fun b hb=>(hf b hb).1⟩⟩
 done:=by
  intro X hP hw hK hc i pins s σ H E I hf st hg;subst hP hw hK;obtain ⟨xs,hq,hx⟩:=hg;obtain ⟨its,rv,p,hz⟩:=I.list hq;obtain ⟨f0,f1,f2,f3,f4,f5⟩:=hf it (by simp);have hl:=rv.length
  exact wpAny_pyNext_list_end (I.ok.hd hc) st p.isList (by simp; omega) fun h' eb=>⟨rfl,I.turned (t':=s.toks) (fun b o hb e=>eb b o hb e) f0 f1 f3 f4 f5⟩
 self:=fun _ _ _ _ _ st h=>wpAny_pyIter_listiter st h
theorem QoM {P:Program}{w:World}{K:PySem.W.Frag}{tg:Expr} (a it:Addr):Turn P w K tg (Itt K a) [it] it (fun i h=>h.IsTupleIter it a i) where
 mem:=by simp
 obj:=fun i h st b hb=>by
  have e:b=it:=by simpa using hb
  subst e;obtain ⟨o,e,c,d⟩:=st;exact ⟨o,e,fun v z=>by rw [d] at z; cases z⟩
 keep:=fun i h h' st k=>st.at fun o e=>k it (by simp) o e
 item:=by
  intro X hP hw hK hc i pins s σ H E I hf st hg;subst hP hw hK;obtain ⟨xs,x,hq,hx⟩:=hg;obtain ⟨its,rv,p,hz⟩:=I.tuple hq;obtain ⟨u,hu,ru⟩:=rv.get hx;obtain ⟨f0,f1,f2,f3,f4,f5⟩:=hf it (by simp)
  refine wpAny_pyNext_tuple_item st (show s.heap.IsTuple a its.toArray from p) (x:=u) (by simpa using hu) fun h' st' sb=>?_
  have I1:Inv X pins σ H { s with heap:=h' }:=I.turned (t':=s.toks) (fun b o hb e=>(sb.2 b hb).trans e) f0 f1 f3 f4 f5;obtain ⟨o,e,c,d⟩:=id st';exact ⟨u,rfl,QhG (s:={ s with heap:=h' }) e c d (by decide) ⟨x,H,I1,ru,⟨rfl,fun ys hy=>by rw [I.tuple_inj hy hq]; exact hx⟩,st',fun b hb=>(hf b hb).1⟩⟩
 done:=by
  intro X hP hw hK hc i pins s σ H E I hf st hg;subst hP hw hK;obtain ⟨xs,hq,hx⟩:=hg;obtain ⟨its,rv,p,hz⟩:=I.tuple hq;obtain ⟨f0,f1,f2,f3,f4,f5⟩:=hf it (by simp);have hl:=rv.length
  exact wpAny_pyNext_tuple_end (I.ok.hd hc) st (show s.heap.IsTuple a its.toArray from p) (by simp; omega) fun h' eb=>⟨rfl,I.turned (t':=s.toks) (fun b o hb e=>eb b o hb e) f0 f1 f3 f4 f5⟩
 self:=fun _ _ _ _ _ st h=>wpAny_pyIter_tupleiter st h
theorem Qou {P:Program}{w:World}{K:PySem.W.Frag}{tg:Expr} (it:Addr) (lo:Int) (n:Nat):Turn P w K tg (Itr lo n) [it] it (fun i h=>IsRangeIter h it (lo+(i:Nat) * 1) ((n:Int) - (i:Nat)) 1) where
 mem:=by simp
 obj:=fun i h st b hb=>by
  have e:b=it:=by simpa using hb
  subst e
  exact ⟨_,st,fun v z=>by
   have z':Data.fields _=Data.cell v:=z
   cases z'⟩
 keep:=fun i h h' st k=>k it (by simp) _ st
 item:=by
  intro X hP hw hK hc i pins s σ H E I hf st hg;subst hP hw hK;obtain ⟨f0,f1,f2,f3,f4,f5⟩:=hf it (by simp);have W:=Walks.range (prog:=X.prog) (w:=X.w) (I.ok.hd hc) it lo 1 n
  refine W.item i s _ _ hg st fun v h' tk hv st' kk=>?_
  obtain ⟨t,rfl⟩:=hv;have I1:Inv X pins σ H { s with heap:=h',toks:=tk }:=I.turned (fun b o hb e=>kk b o (by simpa using hb) e) f0 f1 f3 f4 f5;refine ⟨_,rfl,QhG (s:={ s with heap:=h',toks:=tk }) (n:="range_iterator") st' rfl rfl (by decide) ⟨.int (lo+i),H,I1,⟨t,?_⟩,⟨rfl,rfl⟩,st',fun b hb=>(hf b hb).1⟩⟩;rw [Int.mul_one]
 done:=by
  intro X hP hw hK hc i pins s σ H E I hf st hg;subst hP hw hK;obtain ⟨f0,f1,f2,f3,f4,f5⟩:=hf it (by simp)
  exact wpAny_pyNext_range_end (I.ok.hd hc) st (by have:n≤i:=hg; omega) fun h' eb=>⟨rfl,I.turned (t':=s.toks) (fun b o hb e=>eb b o hb e) f0 f1 f3 f4 f5⟩
 self:=fun _ _ _ _ _ st h=>wpAny_pyIter_rangeiter st h
section
variable {X:Cx}{tg:Expr}
def QwV (K:PySem.W.Frag) (tl:TE):TI:=fun σ H R=>tl σ H fun x H1=>∃a,x = .ref a∧(∃xs,SqL K H1 a xs)∧R (Itl K a) H1
def Qxn (K:PySem.W.Frag) (tl:TE):TI:=fun σ H R=>tl σ H fun x H1=>∃a,x = .ref a∧(∃xs,SqT K H1 a xs)∧R (Itt K a) H1
theorem QnS {l:Expr}{tl:TE} (hl:PE X l tl):PI X tg l (QwV X.K tl):=by
 intro pins s σ H R I h
 refine thn (hl pins s σ H _ I h) fun v s1 ⟨x,H1,I1,r1,q1⟩=>?_
 obtain ⟨a,e,⟨xs,hq⟩,q⟩:=q1;subst e;cases r1;obtain ⟨its,rv,p,hz⟩:=I1.list hq;refine wpAny_pyIter_list p.isList ?_;refine ⟨s1.heap.objs.size,[s1.heap.objs.size],_,_,H1,rfl,I1.kept (t':=s1.toks) fun b o e=>zl _ e,Qqa a _,⟨_,zA _ rfl,rfl,rfl⟩,fun b hb=>?_,q⟩
 have e:b=s1.heap.objs.size:=by simpa using hb
 subst e;exact I1.fpOk (ze _) (I1.hok.fresh (ze _))
theorem QvU {l:Expr}{tl:TE} (hl:PE X l tl):PI X tg l (Qxn X.K tl):=by
 intro pins s σ H R I h
 refine thn (hl pins s σ H _ I h) fun v s1 ⟨x,H1,I1,r1,q1⟩=>?_
 obtain ⟨a,e,⟨xs,hq⟩,q⟩:=q1;subst e;cases r1;obtain ⟨its,rv,p,hz⟩:=I1.tuple hq;refine wpAny_pyIter_tuple (show s1.heap.IsTuple a its.toArray from p) ?_;refine ⟨s1.heap.objs.size,[s1.heap.objs.size],_,_,H1,rfl,I1.kept (t':=s1.toks) fun b o e=>zl _ e,QoM a _,⟨_,zA _ rfl,rfl,rfl⟩,fun b hb=>?_,q⟩
 have e:b=s1.heap.objs.size:=by simpa using hb
 subst e;exact I1.fpOk (ze _) (I1.hok.fresh (ze _))
theorem Ql0 {pins:List (Addr×Obj)}{σ:St}{H:Hp}{s:Shared}{R:It→Hp→Prop}{E:Value→Shared→Prop}{lo hi:Int}{t u v:Tok}{tk:Nat} (I:Inv X pins σ H s) (h1:-(2 ^ 62)≤lo) (h2:lo < 2 ^ 62) (h3:-(2 ^ 62)≤hi) (h4:hi < 2 ^ 62)
  (q:R (Itr lo (hi - lo).toNat) H):wpAny (model X.prog X.w) X.A (pyIter (.ref s.heap.objs.size)) (PIE X pins σ tg R) E { s with heap:=s.heap.push { cls:=.type "range",data:=.fields #[.int lo t,.int hi u,.int 1 v] },toks:=tk }:=by
 refine wpAny_pyIter_range (IsRange.new ..) (small_one h1 h2 h3 h4) ?_
 have I1:Inv X pins σ H { s with heap:=s.heap.push { cls:=.type "range",data:=.fields #[.int lo t,.int hi u,.int 1 v] },toks:=tk }:=I.kept fun b o e=>zl _ e
 refine ⟨(s.heap.push { cls:=.type "range",data:=.fields #[.int lo t,.int hi u,.int 1 v] }).objs.size,[(s.heap.push { cls:=.type "range",data:=.fields #[.int lo t,.int hi u,.int 1 v] }).objs.size],_,_,H,rfl,
  I1.kept (t':=tk) fun b o e=>zl _ e,Qou _ lo (hi - lo).toNat,?_,fun b hb=>?_,q⟩
 ·have e1:lo+((0:Nat):Int) * 1=lo:=by simp
  have e2:(((hi - lo).toNat:Nat):Int) - ((0:Nat):Int)=Builtin.Range.rangeSize lo hi 1:=by rw [rangeSize_one]; split <;> omega
  show IsRangeIter _ _ (lo+((0:Nat):Int) * 1) ((((hi - lo).toNat:Nat):Int) - ((0:Nat):Int)) 1;rw [e1,e2];exact zA _ rfl
 ·have e:b=(s.heap.push { cls:=.type "range",data:=.fields #[.int lo t,.int hi u,.int 1 v] }).objs.size:=by simpa using hb
  subst e;exact I1.fpOk (ze _) (I1.hok.fresh (ze _))
def Qw1 (ta:TA):TI:=fun σ H R=>ta σ H fun vs H1=>∃j:Int,vs = [.int j]∧-(2 ^ 62)≤j∧j < 2 ^ 62∧R (Itr 0 j.toNat) H1
def Qv1 (ta:TA):TI:=fun σ H R=>ta σ H fun vs H1=>∃i j:Int,vs = [.int i,.int j]∧(-(2 ^ 62)≤i∧i < 2 ^ 62∧-(2 ^ 62)≤j∧j < 2 ^ 62)∧R (Itr i (j - i).toNat) H1
theorem Qqx {a:Expr}{ta:TA}{p pos:Pos} (hg:Gl X "range") (hm:X.mg "range" = none) (ha:PA X [a] ta) (hs:starEach [a] X.env = [(false,eval a X.env)]:=by rfl):PI X tg (.Call (.Name "range" p) [a] [] pos) (Qw1 ta):=by
 intro pins s σ H R I h;refine Call_ (QdS I hg hm boot_range (PyProof.Rows.callWith_type1 (thn (ha pos pins s σ H _ I h) fun us s1 ⟨vs,H1,I1,r1,q1⟩=>?_) hs rfl));obtain ⟨j,e,q1,q2,q⟩:=q1;subst e
 cases r1 with
 | cons r rr =>
  cases rr;obtain ⟨t,rfl⟩:=r;exact call_range_1 (Ql0 I1 (by omega) (by omega) q1 q2 (by simpa using q))
theorem Qqj {a b:Expr}{ta:TA}{p pos:Pos} (hg:Gl X "range") (hm:X.mg "range" = none) (ha:PA X [a,b] ta) (hs:starEach [a,b] X.env = [(false,eval a X.env),(false,eval b X.env)]:=by rfl) (hs2:starEach [b] X.env = [(false,eval b X.env)]:=by rfl) :
  PI X tg (.Call (.Name "range" p) [a,b] [] pos) (Qv1 ta):=by
 intro pins s σ H R I h;refine Call_ (QdS I hg hm boot_range (PyProof.Rows.callWith_type1 (thn (ha pos pins s σ H _ I h) fun us s1 ⟨vs,H1,I1,r1,q1⟩=>?_) (by rw [hs,hs2]) (by rw [hs2]; rfl)));obtain ⟨i,j,e,⟨q1,q2,q3,q4⟩,q⟩:=q1;subst e
 cases r1 with
 | cons r rr =>
  cases rr with
  | cons r' rr =>
   cases rr;obtain ⟨t,rfl⟩:=r;obtain ⟨t',rfl⟩:=r';exact call_range_2 (Ql0 I1 q1 q2 q3 q4 q)
def QvE (wi:TI) (g:TG) (tb:TS):TS:=fun D σ H=>wi σ H fun J H1=>∃W:Nat→Nat→St→Hp→Prop,(∃m,W 0 m σ H1)∧∀i m σ H,W i m σ H →
 (J.stop i H∧D.nx σ H)∨(J.go i H∧∃N:St→Hp→Prop,(∀σ' H',N σ' H'→∃m',m' < m∧W (i+1) m' σ' H')∧∀x H',J.yld i H x H'→g x σ H' fun σ2 H2=>tb { D with nx:=N,ct:=N,bk:=D.nx } σ2 H2)
def Qiw (fp:List Addr) (h:Heap):List (Addr×Obj):=fp.filterMap fun b=>(h.get? b).map fun o=>(b,o)
theorem QfS {fp:List Addr}{h:Heap}{b:Addr}{o:Obj} (hb:b∈fp) (e:h.get? b=some o):(b,o)∈Qiw fp h:=List.mem_filterMap.mpr ⟨b,hb,by rw [e]; rfl⟩
theorem QpY {fp:List Addr}{h:Heap}{p:Addr×Obj} (hp:p∈Qiw fp h):p.1∈fp∧h.get? p.1=some p.2:=by
 obtain ⟨b,hb,e⟩:=List.mem_filterMap.mp hp
 cases q:h.get? b with
 | none=>rw [q] at e; cases e
 | some o =>
  rw [q] at e;have e':(b,o)=p:=zH e;subst e';exact ⟨hb,q⟩
theorem Inv.pinned {pins:List (Addr×Obj)}{σ:St}{H:Hp}{s:Shared}{fp:List Addr} (I:Inv X pins σ H s) (hf:∀b∈fp,Qfx X pins H b) (ho:∀b∈fp,∃o,s.heap.get? b=some o∧∀v,o.data≠.cell v):Inv X (pins++Qiw fp s.heap) σ H s :=
 I.pins_of fun p hp=>(zJ.mp hp).elim (fun z=>I.pin p (zK _ z)) fun z=>by
  obtain ⟨hb,e⟩:=QpY z;obtain ⟨f0,f1,f2,_⟩:=hf p.1 hb;obtain ⟨o,e',d⟩:=ho p.1 hb;rw [e] at e'; cases e';exact ⟨e,f0,f1,f2,d⟩
theorem Inv.unpinned {pins pl:List (Addr×Obj)}{σ:St}{H:Hp}{s:Shared} (I:Inv X (pins++pl) σ H s):Inv X pins σ H s:=I.pins_of fun p hp=>I.pin p (zK _ (jo _ hp))
theorem Qui {iter:Expr}{body:List Stmt}{wi:TI}{g:TG}{tb:TS}{pos:Pos} (hp:PassesOwn (model X.prog X.w) X.A X.env X.xe) (hc:X.calm=true) (hi:PI X tg iter wi) (hg:PG X tg g) (hb:PSs X body tb)
  (hs:∀x,foldedSetIterable iter X.env x=pure x:=by intro _; rfl):PS X (.For tg iter body [] pos) (QvE wi g tb):=by
 intro pins s σ H D I h;refine wpAny_For (thn (hi pins s σ H _ I h) fun v s1 h1=>thn h1 fun itv s2 h2=>?_) hs;obtain ⟨it,fp,tn,J,H2,e,I2,T,st2,f2,W,⟨m0,w0⟩,turn⟩:=h2;subst e
 have stat:∀{H':Hp},(∀b∈fp,H' b=none)→∀b∈fp,Qfx X pins H' b:=fun hn b hb=>⟨hn b hb,(f2 b hb).2⟩
 refine codeAny_forLoop_any (fun n s'=>∃i σ' H',Inv X pins σ' H' s'∧tn i s'.heap∧(∀b∈fp,H' b=none)∧W i n σ' H') ?_ m0 ⟨0,σ,H2,I2,st2,fun b hb=>(f2 b hb).1,w0⟩;rintro n s3 ⟨i,σ3,H3,I3,st3,fr3,w3⟩
 rcases turn i n σ3 H3 w3 with ⟨stop,qn⟩ | ⟨go,N,hN,step⟩
 ·refine wpAny_passesOwn hp (thn (T.done X rfl rfl rfl hc i pins s3 σ3 H3 X.xe I3 (stat fr3) st3 stop) fun r s4 ⟨hr,I4⟩=>?_);subst hr;exact wpAny_execs_nil ⟨σ3,H3,I4,qn⟩
 ·refine wpAny_passesOwn hp (thn (T.item X rfl rfl rfl hc i pins s3 σ3 H3 X.xe I3 (stat fr3) st3 go) fun r s4 ⟨u,hr,h4⟩=>?_);subst hr;refine wpAny_passesOwn hp (thn h4 fun _ s5 ⟨x,H5,I5,r5,y5,st5,fr5⟩=>?_);have I5':=I5.pinned (stat fr5) (T.obj _ _ st5);refine wpAny_passesOwn hp (thn (hg _ s5 σ3 H5 x u _ I5' r5 (step x H5 y5)) fun _ s6 ⟨σ6,H6,I6,q6⟩=>?_);refine wpAny_passesOwn hp (thn (hb _ s6 σ6 H6 _ I6 q6) fun f s7 q7=>?_)
  have again:∀{σ7:St}{H7:Hp},Inv X (pins++Qiw fp s5.heap) σ7 H7 s7→N σ7 H7→∃m,m < n∧∃i σ' H',Inv X pins σ' H' s7∧tn i s7.heap∧(∀b∈fp,H' b=none)∧W i m σ' H':=fun {σ7 H7} I7 n7=>by
   obtain ⟨m',hm,w7⟩:=hN σ7 H7 n7;refine ⟨m',hm,i+1,σ7,H7,I7.unpinned,T.keep _ _ _ st5 fun b hb o e=>(I7.pin (b,o) (zK _ (zK _ (QfS hb e)))).1,fun b hb=>?_,w7⟩;obtain ⟨o,e,d⟩:=T.obj _ _ st5 b hb;exact (I7.pin (b,o) (zK _ (zK _ (QfS hb e)))).2.1
  cases f with
  | next=>obtain ⟨σ7,H7,I7,n7⟩:=q7; exact again I7 n7
  | cont=>obtain ⟨σ7,H7,I7,n7⟩:=q7; exact again I7 n7
  | brk=>obtain ⟨σ7,H7,I7,q7⟩:=q7; exact ⟨σ7,H7,I7.unpinned,q7⟩
  | ret v=>obtain ⟨x7,σ7,H7,I7,r7,q7⟩:=q7; exact ⟨x7,σ7,H7,I7.unpinned,r7,q7⟩
end
abbrev R2:=V→V→Hp→VK→Prop
def OpR (X:Cx) (f:Value→Value→Sem Value) (r:R2):Prop :=
 ∀(pins:List (Addr×Obj)) (s:Shared) (σ:St) (H:Hp) (x y:V) (v u:Value) (Q:VK),Inv X pins σ H s→RelV x v→RelV y u→r x y H Q →
  wpAny (model X.prog X.w) X.A (f v u) (EP X pins σ Q) X.xe s
def UnR (X:Cx) (f:Value→Sem Value) (r:V→Hp→VK→Prop):Prop :=
 ∀(pins:List (Addr×Obj)) (s:Shared) (σ:St) (H:Hp) (x:V) (v:Value) (Q:VK),Inv X pins σ H s→RelV x v→r x H Q →
  wpAny (model X.prog X.w) X.A (f v) (EP X pins σ Q) X.xe s
def QfO (X:Cx) (f:Value) (r:List V→Hp→VK→Prop):Prop :=
 ∀(pins:List (Addr×Obj)) (s:Shared) (σ:St) (H:Hp) (xs:List V) (us:List Value) (Q:VK),Inv X pins σ H s→Qaz xs us→r xs H Q →
  wpAny (model X.prog X.w) X.A (call f us) (EP X pins σ Q) X.xe s
def Qxy (X:Cx) (r:V→Hp→(Bool→Hp→Prop)→Prop):Prop :=
 ∀(pins:List (Addr×Obj)) (s:Shared) (σ:St) (H:Hp) (x:V) (v:Value) (Q:Bool→Hp→Prop),Inv X pins σ H s→RelV x v→r x H Q →
  wpAny (model X.prog X.w) X.A (truthy v) (TP X pins σ Q) X.xe s
def tOp (r:R2) (ta tb:TE):TE:=fun σ H Q=>ta σ H fun x H1=>tb σ H1 fun y H2=>r x y H2 Q
def tUn (r:V→Hp→VK→Prop) (ta:TE):TE:=fun σ H Q=>ta σ H fun x H1=>r x H1 Q
def rI (C:Int→Int→Prop) (g:Int→Int→V):R2:=fun x y H Q=>∃i j,x = .int i∧y = .int j∧C i j∧Q (g i j) H
def rI0 (g:Int→Int→V):R2:=fun x y H Q=>∃i j,x = .int i∧y = .int j∧Q (g i j) H
def rU (g:Int→V):V→Hp→VK→Prop:=fun x H Q=>∃i,x = .int i∧Q (g i) H
section
variable {X:Cx}{a b c:Expr}{ta tb tc:TE}{pos:Pos}
theorem Qrq (ha:PE X a ta) (hb:PE X b tb) {pins:List (Addr×Obj)}{s:Shared}{σ:St}{H:Hp}{R:V→V→Hp→Prop} (I:Inv X pins σ H s)
  (h:ta σ H fun x H1=>tb σ H1 fun y H2=>R x y H2) {Q:Value→Shared→Prop}{f:Value→Value→Sem Value}
  (hf:∀v u s2 x y H2,Inv X pins σ H2 s2→RelV x v→RelV y u→R x y H2→wpAny (model X.prog X.w) X.A (f v u) Q X.xe s2) :
  wpAny (model X.prog X.w) X.A (eval a X.env) (fun v s₁=>wpAny (model X.prog X.w) X.A (eval b X.env) (fun u s₂=>wpAny (model X.prog X.w) X.A (f v u) Q X.xe s₂) X.xe s₁) X.xe s:=by
 refine thn (ha pins s σ H _ I h) fun v s1 ⟨x,H1,I1,r1,q1⟩=>?_
 refine thn (hb pins s1 σ H1 _ I1 q1) fun u s2 ⟨y,H2,I2,r2,q2⟩=>?_
 exact hf v u s2 x y H2 I2 r1 r2 q2
theorem Qwz {op:Operator}{r:R2} (ho:OpR X (binaryOp op) r) (ha:PE X a ta) (hb:PE X b tb):PE X (.BinOp a op b pos) (tOp r ta tb):=by
 intro pins s σ H Q I h;exact wpAny_BinOp (Qrq ha hb I h fun v u s2 x y H2 I2 rx ry q=>ho pins s2 σ H2 x y v u Q I2 rx ry q)
theorem Qwu {op:UnaryOp}{r:V→Hp→VK→Prop} (ho:UnR X (unaryOp op) r) (ha:PE X a ta):PE X (.UnaryOp op a pos) (tUn r ta):=by
 intro pins s σ H Q I h;exact UnaryOp_ (thn (ha pins s σ H _ I h) fun v s1 ⟨x,H1,I1,r1,q1⟩=>ho pins s1 σ H1 x v Q I1 r1 q1)
theorem opI {f:Value→Value→Sem Value}{C:Int→Int→Prop}{g:Int→Int→Int}
  (rule:∀(i j:Int) (t u:Tok) (s:Shared) (Q:Value→Shared→Prop) (E:Value→Shared→Prop),C i j→Q (.int (g i j) s.toks) { s with toks:=s.toks+1 }→wpAny (model X.prog X.w) X.A (f (.int i t) (.int j u)) Q E s) :
  OpR X f (rI C fun i j=>.int (g i j)):=by
 intro pins s σ H x y v u Q I rx ry h;obtain ⟨i,j,rfl,rfl,hc,q⟩:=h;obtain ⟨t,rfl⟩:=rx;obtain ⟨t',rfl⟩:=ry;exact rule i j t t' s _ _ hc ⟨.int (g i j),H,I.tok _,⟨_,rfl⟩,q⟩
theorem Qvq {f:Value→Value→Sem Value}{g:Int→Int→Int}
  (rule:∀(i j:Int) (t u:Tok) (s:Shared) (Q:Value→Shared→Prop) (E:Value→Shared→Prop),Q (.int (g i j) s.toks) { s with toks:=s.toks+1 }→wpAny (model X.prog X.w) X.A (f (.int i t) (.int j u)) Q E s) :
  OpR X f (rI0 fun i j=>.int (g i j)):=by
 intro pins s σ H x y v u Q I rx ry h;obtain ⟨i,j,rfl,rfl,q⟩:=h;obtain ⟨t,rfl⟩:=rx;obtain ⟨t',rfl⟩:=ry;exact rule i j t t' s _ _ ⟨.int (g i j),H,I.tok _,⟨_,rfl⟩,q⟩
theorem Qow {f:Value→Value→Sem Value}{g:Int→Int→Bool}
  (rule:∀(i j:Int) (t u:Tok) (s:Shared) (Q:Value→Shared→Prop) (E:Value→Shared→Prop),Q (.bool (g i j)) s→wpAny (model X.prog X.w) X.A (f (.int i t) (.int j u)) Q E s) :
  OpR X f (rI0 fun i j=>.bl (g i j)):=by
 intro pins s σ H x y v u Q I rx ry h;obtain ⟨i,j,rfl,rfl,q⟩:=h;obtain ⟨t,rfl⟩:=rx;obtain ⟨t',rfl⟩:=ry;exact rule i j t t' s _ _ ⟨.bl (g i j),H,I,rfl,q⟩
def Qxp (i j:Int):Prop:=0 < j∧j < 1073741824
def Qxh (i j:Int):Prop:=0≤j∧j≤1000000∧i.natAbs < 2 ^ 64
def Qrw (i j:Int):Prop:=(-(2 ^ 64) < i∧i < 2 ^ 64)∨(-(2 ^ 64) < j∧j < 2 ^ 64)
theorem Qrw.ok {i j:Int} (h:Qrw i j):IntMulOk i j:=by
 rcases h with ⟨h1,h2⟩ | ⟨h1,h2⟩
 ·exact .of_left (intBits_le_64 h1 h2)
 ·exact .of_right (intBits_le_64 h1 h2)
theorem QuK:OpR X (binaryOp .Add) (rI0 fun i j=>.int (i+j)):=Qvq fun _ _ _ _ _ _ _ q=>add_int q
theorem Qu3:OpR X (binaryOp .Sub) (rI0 fun i j=>.int (i - j)):=Qvq fun _ _ _ _ _ _ _ q=>sub_int q
theorem Qvh:OpR X (binaryOp .Mult) (rI Qrw fun i j=>.int (i * j)):=opI fun _ _ _ _ _ _ _ hc q=>mul_int q hc.ok
theorem Qtg:OpR X (binaryOp .FloorDiv) (rI Qxp fun i j=>.int (i / j)):=opI fun i j _ _ _ _ _ hc q=>by
 have h1:(0:Int) < j:=hc.1;have h2:j < 1073741824:=hc.2;exact floordiv_int (by omega) (by rw [Int.fdiv_eq_ediv_of_nonneg i (by omega)]; exact q) (.inl (PyProof.noPylong_small (by omega)))
theorem Qvl:OpR X (binaryOp .Mod) (rI (fun _ j=>0 < j) fun i j=>.int (i % j)):=opI fun i j _ _ _ _ _ hc q=>by
 have h1:(0:Int) < j:=hc;exact mod_int' (by omega) (by rw [Int.fmod_eq_emod_of_nonneg i (by omega)]; exact q)
theorem Qu5:OpR X (binaryOp .Pow) (rI Qxh fun i j=>.int (i ^ j.toNat)):=opI fun _ _ _ _ _ _ _ hc q=>pow_int_small hc.1 hc.2.1 hc.2.2 q
theorem unI {f:Value→Sem Value}{g:Int→Int}
  (rule:∀(i:Int) (t:Tok) (s:Shared) (Q:Value→Shared→Prop) (E:Value→Shared→Prop),Q (.int (g i) s.toks) { s with toks:=s.toks+1 }→wpAny (model X.prog X.w) X.A (f (.int i t)) Q E s) :
  UnR X f (rU fun i=>.int (g i)):=by
 intro pins s σ H x v Q I rx h;obtain ⟨i,rfl,q⟩:=h;obtain ⟨t,rfl⟩:=rx;exact rule i t s _ _ ⟨.int (g i),H,I.tok _,⟨_,rfl⟩,q⟩
theorem QvH:UnR X (unaryOp .USub) (rU fun i=>.int (-i)):=unI fun _ _ _ _ _ q=>neg_int q
theorem QpB:OpR X (binaryOp .Add) (fun x y H Q=>∃i k,x = .int i∧y = .bl k∧Q (.int (i+b2i k)) H):=by
 intro pins s σ H x y v u Q I rx ry h;obtain ⟨i,k,rfl,rfl,q⟩:=h;obtain ⟨t,rfl⟩:=rx;cases ry;exact add_int_bool ⟨.int (i+b2i k),H,I.tok _,⟨_,rfl⟩,q⟩
end
def QuB:V→V→Bool
 | .non,.non=>true | .non,.int _=>true | .int _,.non=>true | .non,.bl _=>true | .bl _,.non=>true | .non,.str _=>true | .str _,.non=>true
 | .int _,.int _=>true | .bl _,.bl _=>true | .str _,.str _=>true | .byt _,.byt _=>true
 | .int _,.str _=>true | .str _,.int _=>true | .bl _,.str _=>true | .str _,.bl _=>true
 | _,_=>false
def rEq:R2:=fun x y H Q=>QuB x y=true∧Q (.bl (decide (x=y))) H
def rNe:R2:=fun x y H Q=>QuB x y=true∧Q (.bl (!decide (x=y))) H
theorem QnW {i j:Int}:decide (V.int i=V.int j)=(i == j):=by
 rw [Bool.eq_iff_iff];simp
theorem QqD {i j:Bool}:decide (V.bl i=V.bl j)=(i == j):=by
 rw [Bool.eq_iff_iff];simp
theorem Qob {i j:Str}:decide (V.str i=V.str j)=(i == j):=by
 rw [Bool.eq_iff_iff];simp
theorem QnP {i j:Array UInt8}:decide (V.byt i=V.byt j)=(i.toList == j.toList):=by
 rw [Bool.eq_iff_iff];cases i;cases j;simp
section
variable {X:Cx}{a b c:Expr}{ta tb tc:TE}{pos:Pos}
theorem Qa9 {pins:List (Addr×Obj)}{σ:St}{H:Hp}{s:Shared}{Q:VK}{k k':Bool} (I:Inv X pins σ H s) (q:Q (.bl k) H) (e:k=k'):EP X pins σ Q (.bool k') s:=by
 subst e;exact ⟨.bl k,H,I,rfl,q⟩
theorem QoJ:OpR X (compareOp .Eq) rEq:=by
 intro pins s σ H x y v u Q I rx ry h;obtain ⟨hs,q⟩:=h
 cases x with
 | non =>
  cases rx
  cases y with
  | non=>cases ry; exact PySem.EqNone.eq_none_none (Qa9 I q (by simp))
  | bl j=>cases ry; exact PySem.EqNone.eq_none_bool (Qa9 I q (by simp))
  | int j=>obtain ⟨t',rfl⟩:=ry; exact PySem.EqNone.eq_none_int (Qa9 I q (by simp))
  | str j=>obtain ⟨t',rfl⟩:=ry; exact PySem.EqNone.eq_none_str (Qa9 I q (by simp))
  | _=>exact absurd (show false=true from hs) zj
 | bl i =>
  cases rx
  cases y with
  | non=>cases ry; exact PySem.EqNone.eq_bool_none (Qa9 I q (by simp))
  | bl j=>cases ry; exact eq_bool (Qa9 I q QqD)
  | str j=>obtain ⟨t',rfl⟩:=ry; exact PySem.EqMixed.eq_bool_str (Qa9 I q (by simp))
  | _=>exact absurd (show false=true from hs) zj
 | int i =>
  obtain ⟨t,rfl⟩:=rx
  cases y with
  | non=>cases ry; exact PySem.EqNone.eq_int_none (Qa9 I q (by simp))
  | int j=>obtain ⟨t',rfl⟩:=ry; exact eq_int (Qa9 I q QnW)
  | str j=>obtain ⟨t',rfl⟩:=ry; exact PySem.EqMixed.eq_int_str (Qa9 I q (by simp))
  | _=>exact absurd (show false=true from hs) zj
 | str i =>
  obtain ⟨t,rfl⟩:=rx
  cases y with
  | non=>cases ry; exact PySem.EqNone.eq_str_none (Qa9 I q (by simp))
  | bl j=>cases ry; exact PySem.EqMixed.eq_str_bool (Qa9 I q (by simp))
  | int j=>obtain ⟨t',rfl⟩:=ry; exact PySem.EqMixed.eq_str_int (Qa9 I q (by simp))
  | str j=>obtain ⟨t',rfl⟩:=ry; exact eq_str (Qa9 I q Qob)
  | _=>exact absurd (show false=true from hs) zj
 | byt i =>
  obtain ⟨t,rfl⟩:=rx
  cases y with
  | byt j=>obtain ⟨t',rfl⟩:=ry; exact PySem.W.eq_bytes (Qa9 I q QnP)
  | _=>exact absurd (show false=true from hs) zj
 | _=>cases y <;> exact absurd (show false=true from hs) zj
theorem Qoh:OpR X (compareOp .NotEq) rNe:=by
 intro pins s σ H x y v u Q I rx ry h;obtain ⟨hs,q⟩:=h
 cases x with
 | non =>
  cases rx
  cases y with
  | non=>cases ry; exact PySem.EqNone.ne_none_none (Qa9 I q (by simp))
  | bl j=>cases ry; exact PySem.EqNone.ne_none_bool (Qa9 I q (by simp))
  | int j=>obtain ⟨t',rfl⟩:=ry; exact PySem.EqNone.ne_none_int (Qa9 I q (by simp))
  | str j=>obtain ⟨t',rfl⟩:=ry; exact PySem.EqNone.ne_none_str (Qa9 I q (by simp))
  | _=>exact absurd (show false=true from hs) zj
 | bl i =>
  cases rx
  cases y with
  | non=>cases ry; exact PySem.EqNone.ne_bool_none (Qa9 I q (by simp))
  | bl j=>cases ry; exact ne_bool (Qa9 I q (congrArg not QqD))
  | str j=>obtain ⟨t',rfl⟩:=ry; exact PySem.EqMixed.ne_bool_str (Qa9 I q (by simp))
  | _=>exact absurd (show false=true from hs) zj
 | int i =>
  obtain ⟨t,rfl⟩:=rx
  cases y with
  | non=>cases ry; exact PySem.EqNone.ne_int_none (Qa9 I q (by simp))
  | int j=>obtain ⟨t',rfl⟩:=ry; exact ne_int (Qa9 I q (congrArg not QnW))
  | str j=>obtain ⟨t',rfl⟩:=ry; exact PySem.EqMixed.ne_int_str (Qa9 I q (by simp))
  | _=>exact absurd (show false=true from hs) zj
 | str i =>
  obtain ⟨t,rfl⟩:=rx
  cases y with
  | non=>cases ry; exact PySem.EqNone.ne_str_none (Qa9 I q (by simp))
  | bl j=>cases ry; exact PySem.EqMixed.ne_str_bool (Qa9 I q (by simp))
  | int j=>obtain ⟨t',rfl⟩:=ry; exact PySem.EqMixed.ne_str_int (Qa9 I q (by simp))
  | str j=>obtain ⟨t',rfl⟩:=ry; exact ne_str (Qa9 I q (congrArg not Qob))
  | _=>exact absurd (show false=true from hs) zj
 | byt i =>
  obtain ⟨t,rfl⟩:=rx
  cases y with
  | byt j=>obtain ⟨t',rfl⟩:=ry; exact PySem.W.ne_bytes (Qa9 I q (congrArg not QnP))
  | _=>exact absurd (show false=true from hs) zj
 | _=>cases y <;> exact absurd (show false=true from hs) zj
theorem Qv2:OpR X (compareOp .Lt) (rI0 fun i j=>.bl (decide (i < j))):=Qow fun _ _ _ _ _ _ _ q=>lt_int q
theorem QwM:OpR X (compareOp .LtE) (rI0 fun i j=>.bl (decide (i≤j))):=Qow fun _ _ _ _ _ _ _ q=>le_int q
theorem QwP:OpR X (compareOp .Gt) (rI0 fun i j=>.bl (decide (j < i))):=Qow fun _ _ _ _ _ _ _ q=>gt_int q
theorem QwQ:OpR X (compareOp .GtE) (rI0 fun i j=>.bl (decide (j≤i))):=Qow fun _ _ _ _ _ _ _ q=>ge_int q
theorem QqG:OpR X (compareOp .In) (fun x y H Q=>∃i j,x = .str i∧y = .str j∧Q (.bl (!(Builtin.Str.occurrences j i 0 j.length 1).isEmpty)) H):=by
 intro pins s σ H x y v u Q I rx ry h;obtain ⟨i,j,rfl,rfl,q⟩:=h;obtain ⟨t,rfl⟩:=rx;obtain ⟨t',rfl⟩:=ry;exact in_str (Qa9 I q rfl)
theorem QaN (b:Expr) {op:CmpOp} (h:op≠.In:=by decide) (h2:op≠.NotIn:=by decide):behindInMarks op b=false:=by
 have e1:(op == CmpOp.In)=false:=by cases op <;> first | rfl | exact absurd rfl h
 have e2:(op == CmpOp.NotIn)=false:=by cases op <;> first | rfl | exact absurd rfl h2
 cases b <;> simp [behindInMarks,e1,e2]
theorem QsD {op:CmpOp}{r:R2} (ho:OpR X (compareOp op) r) (ha:PE X a ta) (hb:PE X b tb) (hm:behindInMarks op b=false):PE X (.Compare a [op] [b] pos) (tOp r ta tb):=by
 intro pins s σ H Q I h;exact wpAny_Compare1 (Qrq ha hb I h fun v u s2 x y H2 I2 rx ry q=>ho pins s2 σ H2 x y v u Q I2 rx ry q) hm
def QlB (t:TE):TT:=fun σ H Q=>t σ H fun x H'=>∃k,x = .bl k∧Q k H'
theorem QsR {op:CmpOp}{r:R2} (ho:OpR X (compareOp op) r) (ha:PE X a ta) (hb:PE X b tb) (hm:behindInMarks op b=false):PT X (.Compare a [op] [b] pos) (QlB (tOp r ta tb)):=by
 intro pins s σ H Q I h
 refine wpAny_isTrue_Compare1 (thn (ha pins s σ H _ I h) fun v s1 ⟨x,H1,I1,r1,q1⟩=>thn (hb pins s1 σ H1 _ I1 q1) fun u s2 ⟨y,H2,I2,r2,q2⟩ =>
  thn (ho pins s2 σ H2 x y v u _ I2 r1 r2 q2) fun c s3 ⟨z,H3,I3,r3,k,e,q3⟩=>?_) hm
 subst e;cases r3;exact wpAny_truthy_bool ⟨H3,I3,q3⟩
def QmU (r r':R2) (ta tb tc:TE):TE:=fun σ H Q=>ta σ H fun x H1=>tb σ H1 fun y H2=>r x y H2 fun z H3=>∃k,z = .bl k ∧
 (if k=true then tc σ H3 fun w' H4=>r' y w' H4 Q else Q (.bl false) H3)
theorem QqW {op op':CmpOp}{r r':R2} (ho:OpR X (compareOp op) r) (ho':OpR X (compareOp op') r') (ha:PE X a ta) (hb:PE X b tb) (hc:PE X c tc)
  (hm:lastMarks [op,op'] [b,c]=false:=by with_unfolding_all rfl):PE X (.Compare a [op,op'] [b,c] pos) (QmU r r' ta tb tc):=by
 intro pins s σ H Q I h
 refine Compare_chain (thn (ha pins s σ H _ I h) fun v s1 ⟨x,H1,I1,r1,q1⟩=>chain_link (thn (hb pins s1 σ H1 _ I1 q1) fun u s2 ⟨y,H2,I2,r2,q2⟩ =>
  thn (ho pins s2 σ H2 x y v u _ I2 r1 r2 q2) fun d s3 ⟨z,H3,I3,r3,k,e,q3⟩=>?_)) hm
 subst e;cases r3;refine wpAny_truthy_bool ?_
 cases k with
 | false=>exact ite_ff ⟨.bl false,H3,I3,rfl,q3⟩
 | true=>exact ite_tt (chain_last (thn (hc pins s3 σ H3 _ I3 q3) fun w' s4 ⟨z',H4,I4,r4,q4⟩=>ho' pins s4 σ H4 y z' u w' Q I4 r2 r4 q4))
theorem QrR {op op':CmpOp}{r r':R2} (ho:OpR X (compareOp op) r) (ho':OpR X (compareOp op') r') (ha:PE X a ta) (hb:PE X b tb) (hc:PE X c tc)
  (hm:lastMarks [op,op'] [b,c]=false:=by with_unfolding_all rfl):PT X (.Compare a [op,op'] [b,c] pos) (QlB (QmU r r' ta tb tc)):=by
 intro pins s σ H Q I h
 refine isTrue_chain (thn (ha pins s σ H _ I h) fun v s1 ⟨x,H1,I1,r1,q1⟩=>test_link (thn (hb pins s1 σ H1 _ I1 q1) fun u s2 ⟨y,H2,I2,r2,q2⟩ =>
  thn (ho pins s2 σ H2 x y v u _ I2 r1 r2 q2) fun d s3 ⟨z,H3,I3,r3,k,e,q3⟩=>?_)) hm
 subst e;cases r3;refine wpAny_truthy_bool ?_
 cases k with
 | false =>
  obtain ⟨k',e',q'⟩:=q3;cases e';exact ite_ff ⟨H3,I3,q'⟩
 | true =>
  refine ite_tt (test_last (thn (hc pins s3 σ H3 _ I3 q3) fun w' s4 ⟨z',H4,I4,r4,q4⟩=>thn (ho' pins s4 σ H4 y z' u w' _ I4 r2 r4 q4) fun d' s5 ⟨z2,H5,I5,r5,k2,e2,q5⟩=>?_));subst e2;cases r5;exact wpAny_truthy_bool ⟨H5,I5,q5⟩
def Qrf (K:PySem.W.Frag) (x:V) (H:Hp) (k:Bool):Prop :=
 match x with
 | .non=>k=false
 | .bl b=>k=b
 | .int i=>k=(i != 0)
 | .str y=>y.length≤sizeLine∧k=((y.length:Int) != 0)
 | .byt y=>y.size≤sizeLine∧k=((y.size:Int) != 0)
 | .ref p=>(∃xs,SqL K H p xs∧k = !xs.isEmpty)∨(∃xs,SqT K H p xs∧k = !xs.isEmpty)∨∃kvs,H p=some (.dK kvs)∧k = !kvs.isEmpty
 | _=>False
theorem QoW {κ:Type}{kvs:List (κ×V)}{vs:List (κ×Value)} (r:KV kvs vs):(!vs.isEmpty) = !kvs.isEmpty:=by
 cases r <;> rfl
theorem QjS {xs:List V}{its:List Value} (r:Qaz xs its):(!its.toArray.isEmpty) = !xs.isEmpty:=by
 cases r <;> simp
theorem QiU:(sizeLine:Nat) < 2 ^ 63:=by rw [sizeLine_eq]; decide
theorem QuH:Qxy X (fun x H Q=>∃k,Qrf X.K x H k∧Q k H):=by
 intro pins s σ H x v Q I rx h;obtain ⟨k,e,q⟩:=h;have hl:=QiU;have hs:sizeLine=16777216:=sizeLine_eq
 cases x with
 | non =>
  cases rx;have e':k=false:=e;subst e';exact truthy_none ⟨H,I,q⟩
 | bl b =>
  cases rx;have e':k=b:=e;subst e';exact wpAny_truthy_bool ⟨H,I,q⟩
 | int i =>
  obtain ⟨t,rfl⟩:=rx;have e':k=(i != 0):=e;subst e';exact PySem.P.truthy_int ⟨H,I,q⟩
 | str y =>
  obtain ⟨t,rfl⟩:=rx;obtain ⟨hy,e'⟩:y.length≤sizeLine∧k=((y.length:Int) != 0):=e;subst e';exact PySem.P.truthy_str (by omega) ⟨H,I.tok _,q⟩
 | byt y =>
  obtain ⟨t,rfl⟩:=rx;obtain ⟨hy,e'⟩:y.size≤sizeLine∧k=((y.size:Int) != 0):=e;subst e';exact PySem.W.truthy_bytes (by omega) ⟨H,I.tok _,q⟩
 | ref p =>
  cases rx;have e':(∃xs,SqL X.K H p xs∧k = !xs.isEmpty)∨(∃xs,SqT X.K H p xs∧k = !xs.isEmpty)∨∃kvs,H p=some (.dK kvs)∧k = !kvs.isEmpty:=e
  rcases e' with ⟨xs,hx,e'⟩ | ⟨xs,hx,e'⟩ | ⟨kvs,hx,e'⟩
  ·subst e';obtain ⟨its,r,pl,hz⟩:=I.list hx;have hlen:=r.length;exact wpAny_truthy_list pl.isList (by simp only [zp]; omega) ⟨H,I.tok _,by rw [QjS r]; exact q⟩
  ·subst e';obtain ⟨its,r,pl,hz⟩:=I.tuple hx;have hlen:=r.length;exact truthy_tuple pl (by simp only [zp]; omega) ⟨H,I.tok _,by rw [QjS r]; exact q⟩
  ·subst e';obtain ⟨hz,hS,vs,r,m⟩:kvs.length≤sizeLine∧(p == sysModules)=false∧∃vs,KV kvs vs∧s.heap.DictOf (QbX X.prog X.w) p vs:=I.hok p _ hx;have hlen:kvs.length=vs.length:=Paired.length r;exact wpAny_truthy_dict hS m (by omega) ⟨H,I.tok _,by rw [QoW r]; exact q⟩
 | _=>exact (show False from e).elim
theorem QrA (ha:PE X a ta) (he:∀whole,isTrue a X.env whole=(do let v ←whole; standAt a.pos; holding [v] (truthy v))) :
  PT X a (fun σ H Q=>ta σ H fun x H'=>∃k,Qrf X.K x H' k∧Q k H'):=by
 intro pins s σ H Q I h;exact isTrue_plain (thn (ha pins s σ H _ I h) fun v s1 ⟨x,H1,I1,r1,q1⟩=>QuH pins s1 σ H1 x v Q I1 r1 q1) (he _)
theorem Qo9:OpR X (binaryOp .Add) (fun x y H Q=>∃i j,x = .str i∧y = .str j∧i.length+j.length≤sizeLine∧Q (.str (i++j)) H):=by
 intro pins s σ H x y v u Q I rx ry h;obtain ⟨i,j,rfl,rfl,hz,q⟩:=h;obtain ⟨t,rfl⟩:=rx;obtain ⟨t',rfl⟩:=ry;exact add_str (fun t' tk=>⟨.str (i++j),H,I.tok _,⟨_,rfl⟩,q⟩) hz
theorem vals1 {x:V}{us:List Value} (r:Qaz [x] us):∃u,us = [u]∧RelV x u:=by
 cases r with
 | cons r1 r2=>cases r2; exact ⟨_,rfl,r1⟩
theorem vals2 {x y:V}{us:List Value} (r:Qaz [x,y] us):∃u w',us = [u,w']∧RelV x u∧RelV y w':=by
 cases r with
 | cons r1 r2 =>
  cases r2 with
  | cons r3 r4=>cases r4; exact ⟨_,_,rfl,r1,r3⟩
theorem Qln:QfO X (.type "int") (fun xs H Q=>(∃i,xs = [.int i]∧Q (.int i) H)∨∃k,xs = [.bl k]∧Q (.int (if k then 1 else 0)) H):=by
 intro pins s σ H xs us Q I r h
 rcases h with ⟨i,rfl,q⟩ | ⟨k,rfl,q⟩
 ·obtain ⟨u,rfl,t,rfl⟩:=vals1 r;exact call_int_int ⟨.int i,H,I,⟨_,rfl⟩,q⟩
 ·obtain ⟨u,rfl,r1⟩:=vals1 r;cases r1;exact call_int_bool ⟨.int (if k then 1 else 0),H,I.tok _,⟨_,rfl⟩,q⟩
theorem QmX:QfO X (.type "str") (fun xs H Q=>∃i,xs = [.int i]∧i.natAbs.log2 < 1920∧Q (.str (toString i)) H):=by
 intro pins s σ H xs us Q I r h;obtain ⟨i,rfl,hz,q⟩:=h;obtain ⟨u,rfl,t,rfl⟩:=vals1 r;exact PySem.P.str_of_int hz ⟨.str _,H,I.tok _,⟨_,rfl⟩,q⟩
def Qxi (K:PySem.W.Frag) (x:V) (H:Hp) (n:Nat):Prop :=
 match x with
 | .str y=>y.length≤sizeLine∧n=y.length
 | .byt y=>y.size≤sizeLine∧n=y.size
 | .ref p=>(∃xs,SqL K H p xs∧n=xs.length)∨∃xs,SqT K H p xs∧n=xs.length
 | _=>False
theorem call_len:QfO X (.builtin "len") (fun xs H Q=>∃x n,xs = [x]∧Qxi X.K x H n∧Q (.int n) H):=by
 intro pins s σ H xs us Q I r h;obtain ⟨x,n,rfl,e,q⟩:=h;obtain ⟨u,rfl,rx⟩:=vals1 r;have hl:=QiU;have hs:sizeLine=16777216:=sizeLine_eq
 cases x with
 | str y =>
  obtain ⟨t,rfl⟩:=rx;obtain ⟨hy,e'⟩:y.length≤sizeLine∧n=y.length:=e;subst e';exact len_str (by omega) ⟨.int _,H,I.tok _,⟨_,rfl⟩,q⟩
 | byt y =>
  obtain ⟨t,rfl⟩:=rx;obtain ⟨hy,e'⟩:y.size≤sizeLine∧n=y.size:=e;subst e';exact PySem.W.len_bytes (by omega) ⟨.int _,H,I.tok _,⟨_,rfl⟩,q⟩
 | ref p =>
  cases rx;have e':(∃xs,SqL X.K H p xs∧n=xs.length)∨∃xs,SqT X.K H p xs∧n=xs.length:=e
  rcases e' with ⟨xs,hx,e'⟩ | ⟨xs,hx,e'⟩
  ·subst e';obtain ⟨its,r',pl,hz⟩:=I.list hx;have hlen:=r'.length;exact Calls.call_len_list pl.isList (by simp only [zp]; omega) ⟨.int xs.length,H,I.tok _,⟨_,by simp only [zp]; rw [hlen]⟩,q⟩
  ·subst e';obtain ⟨its,r',pl,hz⟩:=I.tuple hx;have hlen:=r'.length;exact len_tuple pl (by simp only [zp]; omega) ⟨.int xs.length,H,I.tok _,⟨_,by simp only [zp]; rw [hlen]⟩,q⟩
 | _=>exact (show False from e).elim
end
structure Qjo (h:Heap) (x dx C:Addr) (mA:Str→Option Value):Prop where
 obj:h.get? x=some (PySem.W.instObj C dx)
 ns:h.Ns1 dx mA
 ne:dx≠x
theorem Qpl {h:Heap}{dx:Addr}{mA:Str→Option Value} (n:h.Ns1 dx mA):∃od,h.get? dx=some od∧∀name,PySem.W.lookIn name od=some (mA name):=by
 obtain ⟨o,es,ep,ho,hd,hk,_,hm⟩:=n;refine ⟨o,ho,fun name=>?_⟩;have e:=hm name;unfold nsFind findBy at e;rw [←Array.find?_toList] at e;unfold PySem.W.lookIn;rw [hd];dsimp only
 split
 ·rename_i y q;rw [q] at e;exact congrArg some e
 ·rename_i q;rw [q] at e
  have a:es.toList.any (·.refKey)=false:=by
   rw [List.any_eq_false];intro y hy;obtain ⟨z,t,hkey⟩:=hk y (Array.mem_toList_iff.mp hy);simp [DictEntry.refKey,hkey]
  have a':¬es.toList.any (·.refKey)=true:=by rw [a]; exact zj
  rw [if_neg a'];exact congrArg some e
theorem Qjo.look {h:Heap}{x dx C:Addr}{mA:Str→Option Value} (I:Qjo h x dx C mA):∃od,PySem.W.InstAt h x (PySem.W.instObj C dx) C (some od)∧∀name,PySem.W.lookIn name od=some (mA name) :=
 let ⟨od,ho,hl⟩:=Qpl I.ns
 ⟨od,⟨I.obj,rfl,rfl,ho⟩,hl⟩
section
variable {prog:Program}{w:World}{A:Around}{E:Value→Shared→Prop}{s:Shared}{K:PySem.W.Frag}{x dx C f:Addr}{mA:Str→Option Value}{name:Str}{v:Value}
theorem Qt1 {expr:Bool}{Q:Value→Shared→Prop} (X:K.In s.heap) (I:Qjo s.heap x dx C mA) (hg:PySem.W.plainGet K C name=true) (hh:PySem.W.hasDictIn K C=true)
  (ha:PySem.W.findIn K (.ref C) name=some none) (hv:mA name=some v) (hv':PySem.W.handedIn v=true) (h:Q v { s with toks:=s.toks+1 }) :
  wpAny (model prog w) A (getAttr (.ref x) name expr) Q E s:=by
 obtain ⟨od,J,hl⟩:=I.look;exact PySem.W.get_value X J (PySem.W.plainGet_of hg).1 (PySem.W.findObj_own hh ha rfl (by rw [hl,hv])) hv' h
theorem QqJ {pl:Sem Bool}{Q:Value×List Value→Shared→Prop} (X:K.In s.heap) (I:Qjo s.heap x dx C mA) (hg:PySem.W.plainGet K C name=true)
  (hf:PySem.W.findIn K (.ref C) name=some (some (.ref f))) (ht:PySem.W.isFn K (.ref f)=true) (hv:mA name=none) (h:Q (.ref f,[.ref x]) s) :
  wpAny (model prog w) A (getMethod (.ref x) name pl) Q E s:=by
 obtain ⟨od,J,hl⟩:=I.look;exact PySem.W.method_fn X J (PySem.W.plainGet_of hg).1 (PySem.W.plainGet_of hg).2 hf (beq_iff_eq.mp ht) (by show (PySem.W.lookIn name od).map (·.isSome)=some false; rw [hl,hv]; rfl) h
theorem QtX {ns:List Str}{Q:Unit→Shared→Prop} (X:K.In s.heap) (I:Qjo s.heap x dx C mA)
  (hs:PySem.W.findIn K (.ref C) "__setattr__" = some (some (.builtin "object.__setattr__"))) (hp:PySem.W.plainOver K C=true) (ht:PySem.W.takerIn K C name=some none) (hh:PySem.W.hasDictIn K C=true)
  (hw:PySem.Within mA ns) (hsz:ns.length≤sizeLine)
  (h:∀h',Qjo h' x dx C (fun y=>if y=name then some v else mA y)→Heap.SameBut dx s.heap h'→Q () { s with heap:=h',toks:=s.toks+2 }) :
  wpAny (model prog w) A (setAttr (.ref x) name v) Q E s:=by
 obtain ⟨od,J,hl⟩:=I.look;refine PySem.W.set_plain X J hs (PySem.W.osa_open (s:={ s with toks:=s.toks+1 }) (r:=none) X J hp ht fun b=>?_);obtain ⟨cd,hc,hd'⟩:=PySem.W.any_some hh;have hx:s.heap.get? x=some ⟨.ref C,some dx,.plain,#[]⟩:=I.obj;refine za (zc (za (za (wpAny_loadPart hx (za (PySem.W.Looks.here (s:={ s with toks:=s.toks+1 }) (PySem.W.looks_clsIn X hc) ?_))))));rw [hd'];refine zc (a:=some dx) (za (zc (za ?_)))
 refine wpAny_nsSet1 (s:={ s with toks:=s.toks+1 }) I.ns fun h' hn2 hs2=>?_
 obtain ⟨oD,esD,epD,hoD,hdD,hcD⟩:=hn2.count (PySem.Within.cons name v hw);refine za (wpAny_lookBehind hoD (by rw [hdD]; exact pastItsLine_dict (zF hcD (by rw [zz]; omega))) ?_);exact zc (h _ ⟨(hs2.2 _ (Ne.symm I.ne)).trans I.obj,hn2,I.ne⟩ hs2)
theorem QqP {R:Result→Shared→Prop}{vs:List Value}{kw:List (Str×Value)} (X:K.In s.heap) (hm:PySem.W.makesIn K C=true)
  (hi:PySem.W.findIn K (.ref C) "__init__" = some (some (.ref f))) (hf:PySem.W.typeIn K (.ref f)=some (.type "function"))
  (h:codeAny (model prog w) (A.under (.builtin "type.__call__" ⟨.ref C::vs,kw⟩)) (.call (.ref f) ⟨.ref (s.heap.objs.size+1)::vs,kw⟩) (PySem.W.InitBack (s.heap.objs.size+1) R)
   { s with heap:=(s.heap.push PySem.W.emptyDict).push (PySem.W.instObj C s.heap.objs.size) }) :
  codeAny (model prog w) A (.call (.ref C) ⟨vs,kw⟩) R s:=by
 obtain ⟨hh,g,d,t,os⟩:=s;exact PySem.W.make_core (PySem.W.makes_of X hm) (PySem.W.looks_findIn X hi) (fun self=>PySem.W.bind_fn X self hf) (.inl rfl) h
end
def QcV (f:Str) (v:V):List (Str×V)→List (Str×V)
 | []=>[(f,v)]
 | (g,x)::r=>if g=f then (g,v)::r else (g,x)::QcV f v r
theorem Qjd (f g:Str) (v:V):∀fs:List (Str×V),(QcV f v fs).lookup g=if g=f then some v else fs.lookup g
 | []=>by
  show List.lookup g [(f,v)]=_
  by_cases h:g=f
  ·have hb:(g == f)=true:=beq_iff_eq.mpr h;simp only [List.lookup,hb,if_pos h]
  ·have hb:(g == f)=false:=beq_eq_false_iff_ne.mpr h;simp only [List.lookup,hb,if_neg h]
 | (k,x)::r=>by
  have ih:=Qjd f g v r;rw [show QcV f v ((k,x)::r)=(if k=f then (k,v)::r else (k,x)::QcV f v r) from rfl]
  by_cases hk:k=f
  ·rw [if_pos hk]
   by_cases h:g=k
   ·have hb:(g == k)=true:=beq_iff_eq.mpr h;simp only [List.lookup,hb,if_pos (h.trans hk)]
   ·have hb:(g == k)=false:=beq_eq_false_iff_ne.mpr h;simp only [List.lookup,hb,if_neg (fun e:g=f=>h (e.trans hk.symm))]
  ·rw [if_neg hk]
   by_cases h:g=k
   ·have hb:(g == k)=true:=beq_iff_eq.mpr h;simp only [List.lookup,hb,if_neg (fun e:g=f=>hk (h.symm.trans e))]
   ·have hb:(g == k)=false:=beq_eq_false_iff_ne.mpr h;simp only [List.lookup,hb];exact ih
theorem Qit (f:Str) (v:V):∀fs:List (Str×V),f∈(QcV f v fs).map (·.1)∧∀g,g∈fs.map (·.1)→g∈(QcV f v fs).map (·.1)
 | []=>⟨by simp [QcV],fun g h=>by simp at h⟩
 | (k,x)::r=>by
  obtain ⟨i1,i2⟩:=Qit f v r;rw [show QcV f v ((k,x)::r)=(if k=f then (k,v)::r else (k,x)::QcV f v r) from rfl]
  by_cases hk:k=f
  ·rw [if_pos hk];subst hk;exact ⟨by simp,fun g h=>by simpa using h⟩
  ·rw [if_neg hk];refine ⟨?_,fun g h=>?_⟩
   ·rw [zf];exact zx _ i1
   ·rw [zf] at h ⊢
    rcases zt.mp h with e | e
    ·exact zt.mpr (.inl e)
    ·exact zx _ (i2 g e)
theorem Qjg (f:Str) (v:V):∀fs:List (Str×V),(QcV f v fs).length≤fs.length+1
 | []=>by simp [QcV]
 | (k,x)::r=>by
  have ih:=Qjg f v r;rw [show QcV f v ((k,x)::r)=(if k=f then (k,v)::r else (k,x)::QcV f v r) from rfl]
  by_cases hk:k=f
  ·rw [if_pos hk,zz,zz]; omega
  ·rw [if_neg hk,zz,zz]; omega
theorem Qc8.some_of {v:V}{o:Option Value} (r:Qc8 (some v) o):∃u,o=some u∧RelV v u:=by
 cases o with
 | none=>exact (show False from r).elim
 | some u=>exact ⟨u,rfl,r⟩
theorem Qc8.none_of {o:Option Value} (r:Qc8 none o):o=none:=by
 cases o with
 | none=>rfl
 | some u=>exact (show False from r).elim
theorem QpZ {v:V}{u:Value} (r:RelV v u):PySem.W.handedIn u=true:=by
 cases v with
 | non=>cases (show u=Value.none from r); rfl
 | bl b=>cases (show u=Value.bool b from r); rfl
 | int i=>obtain ⟨t,e⟩:=(show ∃t,u=Value.int i t from r); cases e; rfl
 | str x=>obtain ⟨t,e⟩:=(show ∃t,u=Value.str x t from r); cases e; rfl
 | byt b=>obtain ⟨t,e⟩:=(show ∃t,u=Value.bytes b t from r); cases e; rfl
 | flt b=>obtain ⟨t,e⟩:=(show ∃t,u=Value.float b t from r); cases e; rfl
 | ref a=>cases (show u=Value.ref a from r); rfl
 | ty n=>cases (show u=Value.type n from r); rfl
section
variable {P:Program}{w:World}{H H':Hp}{h h':Heap}{a C dx:Addr}{fs fs':List (Str×V)}
theorem QiZ (hok:HOk P w H h) (e:H a=some (.ins C dx fs)):∃mA,Qjo h a dx C mA∧(∀f,Qc8 (fs.lookup f) (mA f))∧PySem.Within mA (fs.map (·.1))∧fs.length≤1000∧H dx=some (.own a):=by
 obtain ⟨d,z,ne,ob,mA,n,r,q⟩:=(show Qbe P w H h a (.ins C dx fs) from hok a _ e);exact ⟨mA,⟨ob,n,ne⟩,r,q,z,d⟩
end
structure Cls (K:PySem.W.Frag) (C:Addr):Prop where
 pg:PySem.W.plainGet K C Str.empty=true
 hd:PySem.W.hasDictIn K C=true
 po:PySem.W.plainOver K C=true
 sa:PySem.W.findIn K (.ref C) "__setattr__" = some (some (.builtin "object.__setattr__"))
theorem Cls.get {K:PySem.W.Frag}{C:Addr} (c:Cls K C) (f:Str):PySem.W.plainGet K C f=true:=c.pg
def Qgh (K:PySem.W.Frag) (C:Addr) (f:Str):Prop:=PySem.W.findIn K (.ref C) f=some none
theorem Qgh.taker {K:PySem.W.Frag}{C:Addr}{f:Str} (n:Qgh K C f):PySem.W.takerIn K C f=some none:=by
 unfold PySem.W.takerIn;rw [show PySem.W.findIn K (.ref C) f=some none from n];rfl
structure Con (K:PySem.W.Frag) (C:Addr) (f:Str) (v:V) (u:Value):Prop where
 at_:PySem.W.findIn K (.ref C) f=some (some u)
 rel:RelV v u
 get:PySem.W.specialIn K u "__get__" = some none
 cp:PySem.W.copiedNames.contains f=false
structure Qmv (K:PySem.W.Frag) (C:Addr) (m:Str) (f:Addr):Prop where
 at_:PySem.W.findIn K (.ref C) m=some (some (.ref f))
 fn:PySem.W.isFn K (.ref f)=true
 kp:PySem.W.keepIn K (.ref f)=true
section
variable {X:Cx}{pins:List (Addr×Obj)}{σ:St}{H:Hp}{s:Shared}{a C dx:Addr}{fs:List (Str×V)}{f:Str}{v:V}{A:Around}{E:Value→Shared→Prop}
theorem QoQ {b:Bool}{Q:Value→Shared→Prop} (I:Inv X pins σ H s) (e:H a=some (.ins C dx fs)) (c:Cls X.K C) (n:Qgh X.K C f) (l:fs.lookup f=some v)
  (h:∀u s',Inv X pins σ H s'→RelV v u→Q u s'):wpAny (model X.prog X.w) A (getAttr (.ref a) f b) Q E s:=by
 obtain ⟨mA,O,r,_,_,_⟩:=QiZ I.hok e;obtain ⟨u,hu,ru⟩:=Qc8.some_of (v:=v) (o:=mA f) (by rw [←l]; exact r f);exact Qt1 I.kIn O (c.get f) c.hd n hu (QpZ ru) (h u _ (I.tok _) ru)
theorem QjT {m:Str}{g:Addr}{pl:Sem Bool}{Q:Value×List Value→Shared→Prop} (I:Inv X pins σ H s) (e:H a=some (.ins C dx fs)) (c:Cls X.K C) (k:Qmv X.K C m g) (l:fs.lookup m=none)
  (h:Q (.ref g,[.ref a]) s):wpAny (model X.prog X.w) A (getMethod (.ref a) m pl) Q E s:=by
 obtain ⟨mA,O,r,_,_,_⟩:=QiZ I.hok e;have hn:mA m=none:=Qc8.none_of (by rw [←l]; exact r m);exact QqJ I.kIn O (c.get m) k.at_ k.fn hn h
theorem QoE {y:V}{u:Value}{Q:Unit→Shared→Prop} (I:Inv X pins σ H s) (e:H a=some (.ins C dx fs)) (c:Cls X.K C) (n:Qgh X.K C f) (hl:fs.length < 1000) (ry:RelV y u)
  (h:∀s',Inv X pins σ (upd H a (.ins C dx (QcV f y fs))) s'→Q () s'):wpAny (model X.prog X.w) A (setAttr (.ref a) f u) Q E s:=by
 obtain ⟨mA,O,r,wi,_,ho⟩:=QiZ I.hok e
 have hz:(fs.map (·.1)).length≤sizeLine:=by rw [zd,sizeLine_eq]; omega
 refine QtX I.kIn O c.sa c.po n.taker c.hd wi hz fun h' O' sb=>h _ ?_
 have hd:∃o,h'.get? dx=some o:=let ⟨o,_,_,e',_⟩:=O'.ns; ⟨o,e'⟩;refine I.write (x:=a) (e:=dx) (by rw [e]; exact True.intro) (.inr ho) (fun b q hb z=>(sb.2 b hb).trans z) hd ?_;refine ⟨by rw [Qar O.ne]; exact ho,?_,O.ne,O'.obj,_,O'.ns,fun g=>?_,fun g hg=>?_⟩
 ·have:=Qjg f y fs; omega
 ·show Qc8 ((QcV f y fs).lookup g) (if g=f then some u else mA g);rw [Qjd]
  by_cases q:g=f
  ·rw [if_pos q,if_pos q]; exact ry
  ·rw [if_neg q,if_neg q]; exact r g
 ·by_cases q:g=f
  ·rw [q]; exact (Qit f y fs).1
  ·refine (Qit f y fs).2 g (wi g fun z=>hg ?_);show (if g=f then some u else mA g)=none;rw [if_neg q]; exact z
theorem Inv.made (I:Inv X pins σ H s):Inv X pins σ (upd (upd H s.heap.objs.size (.own (s.heap.objs.size+1))) (s.heap.objs.size+1) (.ins C s.heap.objs.size []))
  { s with heap:=(s.heap.push PySem.W.emptyDict).push (PySem.W.instObj C s.heap.objs.size) }:=by
 have e1:(s.heap.push PySem.W.emptyDict).get? s.heap.objs.size=some PySem.W.emptyDict:=zA s.heap rfl
 have e2:((s.heap.push PySem.W.emptyDict).push (PySem.W.instObj C s.heap.objs.size)).get? (s.heap.objs.size+1)=some (PySem.W.instObj C s.heap.objs.size):=by
  have:=zA (s.heap.push PySem.W.emptyDict) (o:=PySem.W.instObj C s.heap.objs.size) rfl
  rwa [Heap.size_push] at this
 have e3:(s.heap.push PySem.W.emptyDict).Ns s.heap.objs.size (fun _=>none):=⟨PySem.W.emptyDict,#[],_,e1,rfl,(fun e he=>absurd he (by simp)),fun _=>rfl⟩;have I1:=I.laid (a:=s.heap.objs.size) (o:=.own (s.heap.objs.size+1)) (h':=s.heap.push PySem.W.emptyDict) (t':=s.toks) (fun b u q=>zl _ q) (ze _) ⟨_,e1⟩;refine I1.laid (a:=s.heap.objs.size+1) (o:=.ins C s.heap.objs.size []) (t':=s.toks) (fun b u q=>zl _ q) (Nat.le_of_eq (Heap.size_push _ _)) ?_;have ne:s.heap.objs.size≠s.heap.objs.size+1:=zv (jc _);refine ⟨by rw [Qar ne,QaG],Nat.zero_le _,ne,e2,fun _=>none,(Heap.Ns1.of_empty e3).at fun o q=>zl _ q,fun _=>True.intro,fun y hy=>absurd rfl hy⟩
theorem QsW {prog:Program}{w:World}{env:Env}{e:Expr}{f:Str}{pos:Pos}{s:Shared}{Q:Value→Shared→Prop} (hb:attributeBase e f env (eval e env)=eval e env)
  (h:wpAny (model prog w) A (eval e env) (fun o s₁=>wpAny (model prog w) A (getAttr o f true) Q E s₁) E s):wpAny (model prog w) A (eval (.Attribute e f pos) env) Q E s :=
 Attribute_any_ h (by rw [arm_eval_Attribute,hb])
end
def QxL (K:PySem.W.Frag) (ta:TE) (f:Str):TE:=fun σ H Q=>ta σ H fun x H1=>∃a C dx fs v,x = .ref a∧H1 a=some (.ins C dx fs)∧Cls K C∧Qgh K C f∧fs.lookup f=some v∧Q v H1
def QxG (K:PySem.W.Frag) (ta tv:TE) (f:Str):TS:=fun D σ H=>tv σ H fun y H1=>ta σ H1 fun x H2=>∃a C dx fs,x = .ref a∧H2 a=some (.ins C dx fs)∧Cls K C∧Qgh K C f∧fs.length < 1000 ∧
 D.nx σ (upd H2 a (.ins C dx (QcV f y fs)))
section
variable {X:Cx}{o e value:Expr}{f:Str}{pos pos' tpos:Pos}{ta tv:TE}
theorem QuL (he:PE X e ta) (hb:attributeBase e f X.env (eval e X.env)=eval e X.env):PE X (.Attribute e f pos) (QxL X.K ta f):=by
 intro pins s σ H Q I h;refine QsW hb (thn (he pins s σ H _ I h) fun u s1 ⟨x,H1,I1,rx,a,C,dx,fs,v,ex,ea,c,n,l,q⟩=>?_);subst ex;obtain rfl:u=Value.ref a:=rx
 exact QoQ I1 ea c n l fun u' s2 I2 ru=>⟨v,H1,I2,ru,q⟩
theorem QvB (ha:PE X o ta) (hv:PE X value tv) (hs:swapsWith value (some (.Attribute o f pos')) pos.line X.env=pure false):PS X (.Assign [.Attribute o f pos'] value pos) (QxG X.K ta tv f):=by
 intro pins s σ H D I h;refine plainObj_wpAny_Assign_Attribute (thn (hv pins s σ H _ I h) fun u s1 ⟨y,H1,I1,ry,q⟩=>thn (ha pins s1 σ H1 _ I1 q) fun ov s2 ⟨x,H2,I2,rx,a,C,dx,fs,ex,ea,c,n,l,q2⟩=>?_) hs;subst ex;obtain rfl:ov=Value.ref a:=rx
 exact QoE I2 ea c n l ry fun s3 I3=>⟨σ,_,I3,q2⟩
end
section
variable {X:Cx}{pins:List (Addr×Obj)}{σ:St}{H:Hp}{s:Shared}{A:Around}{E:Value→Shared→Prop}{Q:Value→Shared→Prop}{c:Value}{b:Bool}
inductive Qfw (K:PySem.W.Frag) (H:Hp):V→Value→Prop where
 | non:Qfw K H .non (.type "NoneType")
 | bl (x:Bool):Qfw K H (.bl x) (.type "bool")
 | int (i:Int):Qfw K H (.int i) (.type "int")
 | str (x:Str):Qfw K H (.str x) (.type "str")
 | flt (x:UInt64):Qfw K H (.flt x) (.type "float")
 | lst {a:Addr}{xs:List V} (e:H a=some (.lst xs)):Qfw K H (.ref a) (.type "list")
 | frz {a:Addr}{o:Obj}{xs:List V} (e:H a=some (.frz o (.lst xs))):Qfw K H (.ref a) (.type "list")
 | tup {a:Addr}{xs:List V} (e:H a=some (.tup xs)):Qfw K H (.ref a) (.type "tuple")
 | dK {a:Addr}{kvs:List (Key×V)} (e:H a=some (.dK kvs)):Qfw K H (.ref a) (.type "dict")
 | dT {a:Addr}{kvs:List (List Key×V)} (e:H a=some (.dT kvs)):Qfw K H (.ref a) (.type "dict")
 | ins {a C dx:Addr}{fs:List (Str×V)} (e:H a=some (.ins C dx fs)) (cl:Cls K C) (ha:PySem.W.findIn K (.ref C) "__class__" = some (some (.builtin "object.__class__")))
   (hn:PySem.W.specialIn K (.builtin "object.__class__") "__get__" = some (some (.builtin "getset_descriptor.__get__"))) (htk:PySem.W.takesIn K (.builtin "object.__class__")=some true)
   (hm:PySem.W.mroIn K C (.type "object")=some true):Qfw K H (.ref a) (.ref C)
theorem Qfs {x:V}{u t:Value} (I:Inv X pins σ H s) (rx:RelV x u) (ty:Qfw X.K H x t) (e:PySem.W.kitOne X.K t c=some b) (h:∀tk,Q (.bool b) { s with toks:=tk }) :
  wpAny (model X.prog X.w) A (call (.builtin "isinstance") [u,c]) Q E s:=by
 cases ty with
 | non=>cases (show u=Value.none from rx); exact PySem.W.kia_one PySem.W.kitx_none I.kIn True.intro e (fun z=>nomatch z) h
 | bl y=>cases (show u=Value.bool y from rx); exact PySem.W.kia_one PySem.W.kitx_bool I.kIn True.intro e (fun z=>nomatch z) h
 | int i=>obtain ⟨t,q⟩:=(show ∃t,u=Value.int i t from rx); cases q; exact PySem.W.kia_one PySem.W.kitx_int I.kIn True.intro e (fun z=>nomatch z) h
 | str y=>obtain ⟨t,q⟩:=(show ∃t,u=Value.str y t from rx); cases q; exact PySem.W.kia_one PySem.W.kitx_str I.kIn True.intro e (fun z=>nomatch z) h
 | flt y=>obtain ⟨t,q⟩:=(show ∃t,u=Value.float y t from rx); cases q; exact PySem.W.kia_one PySem.W.kitx_float I.kIn True.intro e (fun z=>nomatch z) h
 | @lst a xs ea =>
  cases (show u=Value.ref a from rx);obtain ⟨_,_,n,_,h1⟩:=(show Qbe X.prog X.w H s.heap a (.lst xs) from I.hok a _ ea);exact PySem.W.kia_one PySem.W.kitx_list I.kIn ⟨_,h1,rfl⟩ e (fun z=>nomatch z) h
 | @frz a ob xs ea =>
  cases (show u=Value.ref a from rx);obtain ⟨_,_,_,n,_,h1⟩:=(show Qbe X.prog X.w H s.heap a (.frz ob (.lst xs)) from I.hok a _ ea);exact PySem.W.kia_one PySem.W.kitx_list I.kIn ⟨_,h1,rfl⟩ e (fun z=>nomatch z) h
 | @tup a xs ea =>
  cases (show u=Value.ref a from rx);obtain ⟨_,_,_,p⟩:=(show Qbe X.prog X.w H s.heap a (.tup xs) from I.hok a _ ea);obtain ⟨o,h1,h2,_⟩:=p;exact PySem.W.kia_one PySem.W.kitx_tuple I.kIn ⟨o,h1,h2⟩ e (fun z=>nomatch z) h
 | @dK a kvs ea =>
  cases (show u=Value.ref a from rx);obtain ⟨_,_,vs,_,p⟩:=(show Qbe X.prog X.w H s.heap a (.dK kvs) from I.hok a _ ea);obtain ⟨o,es,ep,h1,h2,_⟩:=p;exact PySem.W.kia_one PySem.W.kitx_dict I.kIn ⟨o,h1,h2.1⟩ e (fun z=>nomatch z) h
 | @dT a kvs ea =>
  cases (show u=Value.ref a from rx);obtain ⟨_,_,xs,_,o,es,ep,h1,h2,_⟩:=(show Qbe X.prog X.w H s.heap a (.dT kvs) from I.hok a _ ea);exact PySem.W.kia_one PySem.W.kitx_dict I.kIn ⟨o,h1,h2.1⟩ e (fun z=>nomatch z) h
 | @ins a C dx fs ea cl ha hn htk hm =>
  cases (show u=Value.ref a from rx);obtain ⟨mA,O,_⟩:=QiZ I.hok ea;obtain ⟨od,J,_⟩:=O.look;exact PySem.W.kia_one (PySem.W.kitx_own (cl.get _) cl.hd ha hn htk hm) I.kIn J e (fun z=>nomatch z) h
end
structure Qa1 (k:Nat) (A:Around):Prop where
 hd:A.handled=none
 dp:A.depth+3 * k+5 < recursionLimit
 un:A.units+16 * k+200 < cLine
theorem Qa1.mono {j k:Nat}{A:Around} (r:Qa1 k A) (h:j≤k):Qa1 j A:=⟨r.hd,by have:=r.dp; omega,by have:=r.un; omega⟩
theorem Qa1.deeper {k:Nat}{A:Around} (r:Qa1 (k+1) A) (env:Env):Qa1 k (A.deeper env) :=
 ⟨r.hd,by have:=r.dp; show A.depth+1+3 * k+5 < _; omega,by have:=r.un; show A.units+3+16 * k+200 < _; omega⟩
theorem Qa1.in1 {k:Nat}{A:Around} (r:Qa1 (k+1) A):Qa1 k A.in1 :=
 ⟨r.hd,by have:=r.dp; show A.depth+3 * k+5 < _; omega,by have:=r.un; show A.units+1+16 * k+200 < _; omega⟩
theorem QoG {A:Around}{C:Addr}{us:List Value}{kw:List (Str×Value)}:(A.under (.builtin "type.__call__" ⟨.ref C::us,kw⟩)).depth=A.depth+1:=by
 first | rfl | simp [Around.under,Code.weight,Code.isCreation,Code.isGuard,Code.isCaller,Code.frames,Code.isFrame,guardIds]
theorem QoR {A:Around}{C:Addr}{us:List Value}{kw:List (Str×Value)}:(A.under (.builtin "type.__call__" ⟨.ref C::us,kw⟩)).units=A.units+1:=by
 first | rfl | simp [Around.under,Code.cUnits,Code.frames,Code.isFrame]
theorem Qa1.make {k:Nat}{A:Around} (r:Qa1 (k+1) A) (C:Addr) (us:List Value) (kw:List (Str×Value)):Qa1 k (A.under (.builtin "type.__call__" ⟨.ref C::us,kw⟩)) :=
 ⟨r.hd,by have:=r.dp; rw [QoG]; omega,by have:=r.un; rw [QoR]; omega⟩
theorem Qa1.depth {k:Nat}{A:Around} (r:Qa1 k A):A.depth < recursionLimit:=by have:=r.dp; omega
theorem Qa1.units {k:Nat}{A:Around} (r:Qa1 k A):A.units+64 < cLine:=by have:=r.un; omega
def QuP:TA:=fun _ H Q=>Q [] H
def Qwk (ta:TE) (tr:TA):TA:=fun σ H Q=>ta σ H fun x H1=>tr σ H1 fun xs H2=>Q (x::xs) H2
section
variable {X:Cx}{e:Expr}{es:List Expr}{te:TE}{t:TA}{pos:Pos}
theorem QiT:PA X [] QuP:=fun _ _ _ _ H Q I h=>Calls.spliced_nil ⟨[],H,I,.nil,h⟩
theorem Qf4 (ha:PE X e te) (hr:PA X es t) (hs:starEach (e::es) X.env=(false,eval e X.env)::starEach es X.env:=by rfl):PA X (e::es) (Qwk te t):=by
 intro pos pins s σ H Q I h;rw [hs];show wpAny _ _ (spliced ((false,eval e X.env)::backTo pos (starEach es X.env))) _ _ s;refine Calls.spliced_cons (thn (ha pins s σ H _ I h) fun u s1 ⟨x,H1,I1,r1,q1⟩=>?_)
 exact thn (hr pos pins s1 σ H1 _ I1 q1) fun us s2 ⟨xs,H2,I2,r2,q2⟩=>⟨x::xs,H2,I2,.cons r1 r2,q2⟩
def Qxg (t:TA):TE:=fun σ H Q=>t σ H fun xs H1=>xs.length≤sizeLine∧∀p,H1 p=none→Q (.ref p) (upd H1 p (.tup xs))
def Qxf (t:TA):TE:=fun σ H Q=>t σ H fun xs H1=>xs.length≤sizeLine∧∀p,H1 p=none→Q (.ref p) (upd H1 p (.lst xs))
theorem QuY {x1} (h:PA X es t):PE X (.Tuple es x1 pos) (Qxg t):=by
 intro pins s σ H Q I hq;refine wpAny_Tuple_spliced (thn (h pos pins s σ H _ I hq) fun us s1 ⟨xs,H1,I1,r,z,q⟩=>⟨by rw [←r.length]; exact z,?_⟩);have hf:H1 s1.heap.objs.size=none:=I1.hok.fresh (ze _);refine ⟨.ref s1.heap.objs.size,upd H1 s1.heap.objs.size (.tup xs),I1.laid (t':=s1.toks) (fun b u e=>zl _ e) (ze _) ?_,rfl,q _ hf⟩;exact ⟨z,us,r,⟨_,zA _ rfl,rfl,_,rfl⟩⟩
theorem QvR (h:PA X es t):PE X (.List es pos) (Qxf t):=by
 intro pins s σ H Q I hq;refine wpAny_List_spliced (thn (h pos pins s σ H _ I hq) fun us s1 ⟨xs,H1,I1,r,z,q⟩=>⟨by rw [←r.length]; exact z,?_⟩);have hf:H1 s1.heap.objs.size=none:=I1.hok.fresh (ze _);refine ⟨.ref s1.heap.objs.size,upd H1 s1.heap.objs.size (.lst xs),I1.laid (t':=s1.toks) (fun b u e=>zl _ e) (ze _) ?_,rfl,q _ hf⟩;exact ⟨z,us,0,r,zA _ rfl⟩
end
abbrev Sp:=List V→Hp→VK→XK→Prop
abbrev CXT:=List Env→Hp→Shared→XK→Value→Shared→Prop
structure Qgp (P:Program) (w:World) (K:PySem.W.Frag) (mg:Str→Option Value) (base:Heap) (A:Around) (outer:List Env) (s:Shared) (H:Hp):Prop where
 frames:A.frames=some outer
 mod:Mod K mg base
 bs:∀b o,base.get? b=some o→s.heap.get? b=some o∧H b=none
 bsz:base.objs.size≤s.heap.objs.size
 funs:s.heap.FunFrames base outer
 frf:∀b∈frs outer,H b=none
 hok:HOk P w H s.heap
 bare:AllBare s.gens
def CE (outer:List Env) (P:Program) (w:World) (H:Hp) (s:Shared) (Q:VK) (u:Value) (s':Shared):Prop :=
 ∃v H',s'.os=s.os∧AllBare s'.gens∧Un (frs outer) [] H H' s.heap s'.heap∧HOk P w H' s'.heap∧RelV v u∧Q v H'
def CR (CX:CXT) (outer:List Env) (P:Program) (w:World) (H:Hp) (s:Shared) (Q:VK) (E:XK) (r:Result) (s':Shared):Prop :=
 match r with
 | .ok (.ret u)=>CE outer P w H s Q u s'
 | .ok _=>False
 | .error e=>CX outer H s E e s'
structure Qcc (P:Program) (w:World) (K:PySem.W.Frag) (mg:Str→Option Value) (base:Heap) (CX:CXT) (k:Nat) (f:Addr) (fd:FuncData) (ps:List Str) (sp:Sp):Prop where
 len:∀vs H Q E,sp vs H Q E→vs.length=ps.length
 run:∀(A:Around) (outer:List Env) (s:Shared) (H:Hp) (args:Args) (us:List Value) (vs:List V) (Q:VK) (E:XK),Qa1 k A→Qgp P w K mg base A outer s H→BindsTo s fd args (ps.zip us)→Qaz vs us→sp vs H Q E →
  codeAny (model P w) A (.call (.ref f) args) (CR CX outer P w H s Q E) s
theorem Qcc.mono {P:Program}{w:World}{K:PySem.W.Frag}{mg:Str→Option Value}{base:Heap}{CX:CXT}{j k:Nat}{f:Addr}{fd:FuncData}{ps:List Str}{sp:Sp} (F:Qcc P w K mg base CX j f fd ps sp) (h:j≤k) :
  Qcc P w K mg base CX k f fd ps sp:=⟨F.len,fun A outer s H args us vs Q E hr=>F.run A outer s H args us vs Q E (hr.mono h)⟩
theorem Qcc.imp {P:Program}{w:World}{K:PySem.W.Frag}{mg:Str→Option Value}{base:Heap}{CX:CXT}{k:Nat}{f:Addr}{fd:FuncData}{ps:List Str}{sp sp':Sp} (F:Qcc P w K mg base CX k f fd ps sp)
  (h:∀vs H Q E,sp' vs H Q E→sp vs H Q E):Qcc P w K mg base CX k f fd ps sp' :=
 ⟨fun vs H Q E q=>F.len vs H Q E (h _ _ _ _ q),fun A outer s H args us vs Q E hr he hb hv hs=>F.run A outer s H args us vs Q E hr he hb hv (h _ _ _ _ hs)⟩
theorem Qgp.make {P:Program}{w:World}{K:PySem.W.Frag}{mg:Str→Option Value}{base:Heap}{A:Around}{outer:List Env}{s:Shared}{H:Hp} (e:Qgp P w K mg base A outer s H) (C:Addr) (us:List Value) (kw:List (Str×Value)) :
  Qgp P w K mg base (A.under (.builtin "type.__call__" ⟨.ref C::us,kw⟩)) outer s H:=⟨by first | exact e.frames | (simpa [Around.under,Code.envs,Code.isFrame,pushEnvs] using e.frames),e.mod,e.bs,e.bsz,e.funs,e.frf,e.hok,e.bare⟩
theorem Qgp.in1 {P:Program}{w:World}{K:PySem.W.Frag}{mg:Str→Option Value}{base:Heap}{A:Around}{outer:List Env}{s:Shared}{H:Hp} (e:Qgp P w K mg base A outer s H) :
  Qgp P w K mg base A.in1 outer s H:=⟨e.frames,e.mod,e.bs,e.bsz,e.funs,e.frf,e.hok,e.bare⟩
section
variable {X:Cx}{pins:List (Addr×Obj)}{σ:St}{H:Hp}{s s':Shared}
theorem Inv.env0 (I:Inv X pins σ H s):Qgp X.prog X.w X.K X.mg X.base X.A X.stack s H :=
 ⟨I.ok.frames,I.ok.mod,I.bs,zF I.ok.bsz I.sz,I.stack,I.stkFree,I.hok,I.bare⟩
theorem Inv.after {Q:VK}{u:Value} (I:Inv X pins σ H s) (h:CE X.stack X.prog X.w H s Q u s'):EP X pins σ Q u s':=by
 obtain ⟨v,H',os,bare,un,hok,r,q⟩:=h;obtain ⟨hh,g,d,t,os'⟩:=s';obtain rfl:os'=s.os:=os;exact ⟨v,H',I.call (h':=hh) (g':=g) (d':=d) (t':=t) (ch:=[]) un hok bare (fun b z=>absurd z (by simp)),r,q⟩
end
def QoY (sp:Sp) (dvs:List V) (E:XK) (t:TA):TE:=fun σ H Q=>t σ H fun vs H1=>sp (vs++dvs) H1 Q E
def Qox (C:Addr) (m:Str) (sp:Sp) (dvs:List V) (E:XK) (ta:TE) (t:TA):TE:=fun σ H Q=>ta σ H fun x H1=>∃a dx fs,x = .ref a∧H1 a=some (.ins C dx fs)∧fs.lookup m=none ∧
 t σ H1 fun vs H2=>sp (x::(vs++dvs)) H2 Q E
def Qsk (C:Addr) (sp:Sp) (dvs:List V) (E:XK) (t:TA):TE:=fun σ H Q=>t σ H fun vs H1=>∀x dx,H1 x=none→H1 dx=none→dx≠x →
 sp (.ref x::(vs++dvs)) (upd (upd H1 dx (.own x)) x (.ins C dx [])) (fun v H2=>v = .non∧Q (.ref x) H2) E
def Binds (K:PySem.W.Frag) (fd:FuncData) (ps:List Str) (ds:List Value):Prop :=
 ∀(s:Shared) (us:List Value),K.In s.heap→(us++ds).length=ps.length→BindsTo s fd ⟨us,[]⟩ (ps.zip (us++ds))
theorem Binds.all {K:PySem.W.Frag}{fd:FuncData}{ps:List Str} (h:∀us:List Value,us.length=ps.length→bindArgs fd ⟨us,[]⟩=pure (ps.zip us)):Binds K fd ps []:=fun s us _ hl=>by
 rw [zO] at hl ⊢;exact .of_eq (h us hl)
def Qgf (CX:CXT) (X:Cx) (E:XK):Prop:=∀(pins:List (Addr×Obj)) (σ:St) (H:Hp) (s:Shared) (e:Value) (s':Shared),Inv X pins σ H s→CX X.stack H s E e s'→X.xe e s'
section
variable {X:Cx}{CX:CXT}{k:Nat}{f C:Addr}{fd:FuncData}{ps:List Str}{sp:Sp}{dvs:List V}{ds:List Value}{E:XK}{x m:Str}{p pos apos:Pos}{e o:Expr}{es:List Expr}{ta:TE}{t:TA}
theorem Qmb {pins:List (Addr×Obj)}{σ:St}{H:Hp}{s:Shared}{Q:VK}{us:List Value}{vs:List V} (F:Qcc X.prog X.w X.K X.mg X.base CX k f fd ps sp) (hr:Qa1 k X.A) (hb:Binds X.K fd ps ds) (hd:Qaz dvs ds) (hx:Qgf CX X E)
  (I:Inv X pins σ H s) (r:Qaz vs us) (h:sp (vs++dvs) H Q E):wpAny (model X.prog X.w) X.A (call (.ref f) us) (EP X pins σ Q) X.xe s:=by
 have r2:Qaz (vs++dvs) (us++ds):=r.append hd
 have hl:(us++ds).length=ps.length:=by rw [←r2.length]; exact F.len _ _ _ _ h
 refine wpAny_call (codeAny_mono (F.run X.A X.stack s H ⟨us,[]⟩ (us++ds) (vs++dvs) Q E hr I.env0 (hb s us I.kIn hl) r2 h) fun r s' hq=>?_)
 cases r with
 | error e=>exact hx pins σ H s e s' I hq
 | ok fl =>
  cases fl with
  | ret u=>exact I.after hq
  | next=>exact False.elim hq
  | brk=>exact False.elim hq
  | cont=>exact False.elim hq
theorem Qs9 (F:Qcc X.prog X.w X.K X.mg X.base CX k f fd ps sp) (hr:Qa1 k X.A) (hg:Gl X x) (hm:X.mg x=some (.ref f)) (hk:PySem.W.keepIn X.K (.ref f)=true) (hb:Binds X.K fd ps ds) (hd:Qaz dvs ds) (hx:Qgf CX X E)
  (ha:PA X (e::es) t) (hdb:(x == ("__debug__":Str))=false:=by decide) (he:starEach (e::es) X.env=(false,eval e X.env)::starEach es X.env:=by rfl) (hpl:(backTo pos (starEach es X.env)).any (·.1)=false:=by rfl) :
  PE X (.Call (.Name x p) (e::es) [] pos) (QoY sp dvs E t):=by
 intro pins s σ H Q I h;refine wpAny_Call_Name_kw (Qkw I hg hm ?_ hdb);refine PySem.W.callWith_K (h₀:=X.base) I.ok.mod.kin hk (thn (ha pos pins s σ H _ I h) fun us s1 ⟨vs,H1,I1,r,q⟩=>⟨I1.kIn,?_⟩) he hpl;exact Qmb F hr hb hd hx I1 r q
theorem Qtz {pl:Sem Bool} (he:PE X o ta) (c:Cls X.K C) (hm:Qmv X.K C m f) (F:Qcc X.prog X.w X.K X.mg X.base CX k f fd ps sp) (hr:Qa1 k X.A) (hb:Binds X.K fd ps ds) (hd:Qaz dvs ds) (hx:Qgf CX X E) (ha:PA X (e::es) t)
  (hst:starEach (e::es) X.env=(false,eval e X.env)::starEach es X.env:=by rfl) (hpl:(backTo pos (starEach es X.env)).any (·.1)=false:=by rfl)
  (ht:eval (.Call (.Attribute o m apos) (e::es) [] pos) X.env=(do
   let ov ←eval o X.env
   standAt apos.atName
   let (f,first) ←holding [ov] (getMethod ov m pl)
   callWith pos f first (backTo pos (starEach (e::es) X.env)) (backToKw pos (keywordEach [] X.env))):=by rfl) :
  PE X (.Call (.Attribute o m apos) (e::es) [] pos) (Qox C m sp dvs E ta t):=by
 intro pins s σ H Q I h;refine PySem.W.methodCall_KW (pl:=pl) (thn (he pins s σ H _ I h) fun u s1 ⟨x,H1,I1,rx,a,dx,fs,ex,ea,l,q⟩=>?_) ht;subst ex;obtain rfl:u=Value.ref a:=rx;refine QjT I1 ea c hm l ?_;refine PySem.W.callWith_K (first:=[.ref a]) (h₀:=X.base) I.ok.mod.kin hm.kp (thn (ha pos pins s1 σ H1 _ I1 q) fun us s2 ⟨vs,H2,I2,r,q2⟩=>⟨I2.kIn,?_⟩) hst hpl;exact Qmb (us:=.ref a::us) (vs:=.ref a::vs) F hr hb hd hx I2 (.cons rfl r) q2
theorem Qre {pl:Sem Bool} (he:PE X o ta) (c:Cls X.K C) (hm:Qmv X.K C m f) (F:Qcc X.prog X.w X.K X.mg X.base CX k f fd ps sp) (hr:Qa1 k X.A) (hb:Binds X.K fd ps ds) (hd:Qaz dvs ds) (hx:Qgf CX X E)
  (ht:eval (.Call (.Attribute o m apos) [] [] pos) X.env=(do
   let ov ←eval o X.env
   standAt apos.atName
   let (f,first) ←holding [ov] (getMethod ov m pl)
   callWith pos f first (backTo pos (starEach [] X.env)) (backToKw pos (keywordEach [] X.env))):=by rfl) :
  PE X (.Call (.Attribute o m apos) [] [] pos) (Qox C m sp dvs E ta QuP):=by
 intro pins s σ H Q I h;refine PySem.W.methodCall_KW (pl:=pl) (thn (he pins s σ H _ I h) fun u s1 ⟨x,H1,I1,rx,a,dx,fs,ex,ea,l,q⟩=>?_) ht;subst ex;obtain rfl:u=Value.ref a:=rx;refine QjT I1 ea c hm l ?_;exact PySem.W.callWith_K0 (first:=[.ref a]) I1.kIn hm.kp (Qmb (us:=[.ref a]) (vs:=[.ref a]) F hr hb hd hx I1 (.cons rfl .nil) q)
structure Mk (K:PySem.W.Frag) (C f:Addr):Prop where
 makes:PySem.W.makesIn K C=true
 init:PySem.W.findIn K (.ref C) "__init__" = some (some (.ref f))
 fn:PySem.W.isFn K (.ref f)=true
 kp:PySem.W.keepIn K (.ref C)=true
theorem Qrj {pins:List (Addr×Obj)}{σ:St}{H:Hp}{s:Shared}{Q:VK}{us:List Value}{vs:List V} (M:Mk X.K C f) (F:Qcc X.prog X.w X.K X.mg X.base CX k f fd ps sp) (hr:Qa1 (k+1) X.A) (hb:Binds X.K fd ps ds) (hd:Qaz dvs ds)
  (hx:Qgf CX X E) (I:Inv X pins σ H s) (r:Qaz vs us)
  (h:∀x dx,H x=none→H dx=none→dx≠x→sp (.ref x::(vs++dvs)) (upd (upd H dx (.own x)) x (.ins C dx [])) (fun v H2=>v = .non∧Q (.ref x) H2) E) :
  wpAny (model X.prog X.w) X.A (call (.ref C) us) (EP X pins σ Q) X.xe s:=by
 have hq:=h (s.heap.objs.size+1) s.heap.objs.size (I.hok.fresh (Nat.le_succ _)) (I.hok.fresh (ze _)) (zv (jc _));have I2:=Inv.made (C:=C) I;have r2:Qaz (V.ref (s.heap.objs.size+1)::(vs++dvs)) (Value.ref (s.heap.objs.size+1)::(us++ds)):=.cons rfl (r.append hd)
 have hl:(Value.ref (s.heap.objs.size+1)::us++ds).length=ps.length:=by
  have e:=r2.length;rw [F.len _ _ _ _ hq] at e;exact e.symm
 refine wpAny_call (QqP (f:=f) I.kIn M.makes M.init (beq_iff_eq.mp M.fn) (codeAny_mono (F.run _ X.stack _ _ ⟨Value.ref (s.heap.objs.size+1)::us,[]⟩ (Value.ref (s.heap.objs.size+1)::(us++ds)) _ _ E (hr.make C us [])
  (I2.env0.make C us []) (hb _ (Value.ref (s.heap.objs.size+1)::us) I2.kIn hl) r2 hq) fun r s' hq'=>?_))
 cases r with
 | error e=>exact hx pins σ _ _ e s' I2 hq'
 | ok fl =>
  cases fl with
  | ret u =>
   obtain ⟨v,H',I3,rv,ev,q3⟩:=I2.after hq';subst ev;exact ⟨rv,⟨V.ref (s.heap.objs.size+1),H',I3,rfl,q3⟩⟩
  | next=>exact False.elim hq'
  | brk=>exact False.elim hq'
  | cont=>exact False.elim hq'
theorem QsS (M:Mk X.K C f) (F:Qcc X.prog X.w X.K X.mg X.base CX k f fd ps sp) (hr:Qa1 (k+1) X.A) (hg:Gl X x) (hm:X.mg x=some (.ref C)) (hb:Binds X.K fd ps ds) (hd:Qaz dvs ds) (hx:Qgf CX X E)
  (ha:PA X (e::es) t) (hdb:(x == ("__debug__":Str))=false:=by decide) (he:starEach (e::es) X.env=(false,eval e X.env)::starEach es X.env:=by rfl) (hpl:(backTo pos (starEach es X.env)).any (·.1)=false:=by rfl) :
  PE X (.Call (.Name x p) (e::es) [] pos) (Qsk C sp dvs E t):=by
 intro pins s σ H Q I h;refine wpAny_Call_Name_kw (Qkw I hg hm ?_ hdb);refine PySem.W.callWith_K (h₀:=X.base) I.ok.mod.kin M.kp (thn (ha pos pins s σ H _ I h) fun us s1 ⟨vs,H1,I1,r,q⟩=>⟨I1.kIn,?_⟩) he hpl;exact Qrj M F hr hb hd hx I1 r q
end
section
variable {X:Cx}{CX:CXT}{k:Nat}{f C:Addr}{fd:FuncData}{ps ks:List Str}{sp:Sp}{E:XK}{x m:Str}{p pos apos kpos:Pos}{e o:Expr}{es:List Expr}{kws:List Keyword}{te ta:TE}{t tk:TA}{nm:Option Str}
structure QyP (K:PySem.W.Frag) (fd:FuncData) (ps ks:List Str) (g:List Value→List Value→List Value) (gV:List V→List V→List V):Prop where
 to:∀(s:Shared) (us ws:List Value),K.In s.heap→(g us ws).length=ps.length→BindsTo s fd ⟨us,ks.zip ws⟩ (ps.zip (g us ws))
 rel:∀{vs:List V}{us:List Value}{zs:List V}{ws:List Value},Qaz vs us→Qaz zs ws→Qaz (gV vs zs) (g us ws)
variable {g:List Value→List Value→List Value}{gV:List V→List V→List V}
end
structure QaA (N P:List Str) (sc:Scope):Prop where
 kind:sc.kind = .function
 co:sc.isCoroutine=false
 gen:sc.isGenerator=false
 nd:N.Nodup
 pre:N.take P.length=P
 par:∀x∈P,sc.names.lookup x=some .local∨sc.names.lookup x=some .cell
 nofree:∀y∈sc.names,y.2≠.free
theorem Qle {kindOf:Str→Option NameKind}{x:Str}:∀{binds:List (Str×Value)}{m:Str→Option Value},(∀v,(x,v)∉binds)→bindL kindOf binds m x=m x
 | [],_,_=>rfl
 | (n,v)::r,m,h=>by
  unfold bindL;rw [Qle fun w hw=>h w (zx _ hw)]
  split
  ·have:x≠n:=by rintro rfl; exact h v zm
   simp [this]
  ·rfl
theorem Qk7 {kindOf:Str→Option NameKind}{x:Str}:∀{binds:List (Str×Value)}{m:Str→Option Value},(∀v,(x,v)∉binds)→bindC kindOf binds m x=m x
 | [],_,_=>rfl
 | (n,v)::r,m,h=>by
  unfold bindC;rw [Qk7 fun w hw=>h w (zx _ hw)]
  split
  ·rfl
  ·have:x≠n:=by rintro rfl; exact h v zm
   simp [this]
theorem Qlf {kindOf:Str→Option NameKind}{x:Str}{v:Value}:∀{P:List Str}{vs:List Value}{i:Nat}{m:Str→Option Value},P.Nodup→P[i]? = some x→vs[i]? = some v→kindOf x=some .local →
  bindL kindOf (P.zip vs) m x=some v
 | [],_,_,_,_,h,_,_=>by simp at h
 | _::_,[],_,_,_,_,h,_=>by simp at h
 | p::P,w::vs,0,m,nd,h1,h2,hk=>by
  simp at h1 h2; subst h1; subst h2
  show bindL kindOf ((p,w)::P.zip vs) m p=_;unfold bindL;rw [Qle fun v hv=>(List.nodup_cons.mp nd).1 (List.of_mem_zip hv).1,if_pos hk];simp
 | p::P,w::vs,i+1,m,nd,h1,h2,hk=>by
  show bindL kindOf ((p,w)::P.zip vs) m x=_;unfold bindL;exact Qlf (i:=i) (List.nodup_cons.mp nd).2 (by simpa using h1) (by simpa using h2) hk
theorem Qli {kindOf:Str→Option NameKind}{x:Str}{v:Value}:∀{P:List Str}{vs:List Value}{i:Nat}{m:Str→Option Value},P.Nodup→P[i]? = some x→vs[i]? = some v→kindOf x≠some .local →
  bindC kindOf (P.zip vs) m x=some v
 | [],_,_,_,_,h,_,_=>by simp at h
 | _::_,[],_,_,_,_,h,_=>by simp at h
 | p::P,w::vs,0,m,nd,h1,h2,hk=>by
  simp at h1 h2; subst h1; subst h2
  show bindC kindOf ((p,w)::P.zip vs) m p=_;unfold bindC;rw [Qk7 fun v hv=>(List.nodup_cons.mp nd).1 (List.of_mem_zip hv).1,if_neg hk];simp
 | p::P,w::vs,i+1,m,nd,h1,h2,hk=>by
  show bindC kindOf ((p,w)::P.zip vs) m x=_;unfold bindC;exact Qli (i:=i) (List.nodup_cons.mp nd).2 (by simpa using h1) (by simpa using h2) hk
def start (N:List Str) (vs:List V):St:=vs.map some++List.replicate (N.length - vs.length) none
def Qgj (CX:CXT) (P:Program) (w:World) (K:PySem.W.Frag) (mg:Str→Option Value) (base:Heap) (N:List Str) (qual:Str) (scope:Scope) (f:Addr) (cd:Value) (A:Around) (outer:List Env) (s:Shared) (H:Hp) (E:XK):Cx where
 prog:=P
 w:=w
 K:=K
 mg:=mg
 base:=base
 A:=A.deeper (envOfC qual scope s.heap.objs.size f cd)
 N:=N
 s₀:=s
 H₀:=H
 env:=envOfC qual scope s.heap.objs.size f cd
 outer:=outer
 stack:=envOfC qual scope s.heap.objs.size f cd::outer
 ex:=[]
 calm:=true
 fn:=fun _=>true
 pn:=[]
 xe:=fun e s'=>wpAny (model P w) (A.deeper (envOfC qual scope s.heap.objs.size f cd)) (leaving (envOfC qual scope s.heap.objs.size f cd) e) (fun _ s''=>CX outer H s E e s'') (fun e' s''=>CX outer H s E e' s'') s'
theorem Qmi {sc:Scope}{n:Nat}{x:Str} (h:sc.names.lookup x=some .cell):∃c,(cellsFrom n sc.names []).lookup x=some c:=by
 have q:=PySem.W.cellsFrom_some sc.names n [] (.inl h);exact Option.isSome_iff_exists.mp q
theorem Qqi {CX:CXT}{P:Program}{w:World}{K:PySem.W.Frag}{mg:Str→Option Value}{base:Heap}{N ps:List Str}{qual:Str}{scope:Scope}{f:Addr}{cd:Value}{A:Around}{outer:List Env}{s s1:Shared}{H:Hp}{E:XK}{us:List Value}{vs:List V}
  (S:QaA N ps scope) (hd:A.handled=none) (e0:Qgp P w K mg base A outer s H) (hl:vs.length=ps.length) (r:Qaz vs us)
  (x:InCallC s s.heap.objs.size (bindL (envOfC qual scope s.heap.objs.size f cd).kindOf (ps.zip us) fun _=>none) (cellsFrom (s.heap.objs.size+1) scope.names []) (bindC (envOfC qual scope s.heap.objs.size f cd).kindOf (ps.zip us) fun _=>none) s1) :
  Inv (Qgj CX P w K mg base N qual scope f cd A outer s H E) [] (start N vs) H s1:=by
 have hpl:ps.length≤N.length:=by have:=congrArg List.length S.pre; rw [List.length_take] at this; omega
 obtain ⟨h1,tk,rfl,hk⟩:=x.done
 have noA:∀b:Addr,b∉(Qgj CX P w K mg base N qual scope f cd A outer s H E).ex:=fun b z=>absurd (show b∈([]:List Addr) from z) (by simp)
 refine ⟨⟨e0.mod,S.kind,rfl,rfl,ze _,fun y z c h1 h2=>?_,fun y hy=>?_,fun y c _ h=>?_,fun _=>hd,Around.frames_deeper e0.frames,.inr ⟨rfl,rfl⟩,fun b z=>absurd z (noA b),e0.bs,e0.bsz,fun b _ _=>noA b,fun b z=>absurd z (noA b),e0.funs,e0.frf⟩,
  rfl,e0.bare,Un.kept hk,⟨_,x.toInCall.ns,fun i y v h1 h2 h3=>?_⟩,fun y c h=>⟨_,x.cell y c h⟩,e0.hok.fresh (ze _),fun y c h=>?_,fun p hp=>absurd (show p∈([]:List (Addr×Obj)) from hp) (by simp),e0.hok.kept hk,?_⟩
 ·exact name_of_addr x.apart (PySem.mem_of_lookup h1) (PySem.mem_of_lookup h2)
 ·have hy:scope.names.lookup y=some .cell∨scope.names.lookup y=some .free:=hy
  rcases hy with hy | hy
  ·exact Qmi hy
  ·exact absurd rfl (S.nofree _ (PySem.mem_of_lookup hy))
 ·exact Nat.le_of_lt (x.above y c (PySem.mem_of_lookup h))
 ·have hi:i < vs.length:=by
   unfold start at h2
   by_cases hi:i < vs.length
   ·exact hi
   ·rw [zL (by simpa using hi)] at h2;rw [List.getElem?_replicate] at h2
    split at h2 <;> cases h2
  have ha:vs[i]? = some v:=by
   unfold start at h2;rw [zB (by simpa using hi),zD] at h2
   cases e:vs[i]? with
   | none=>rw [e] at h2; cases h2
   | some a=>rw [e] at h2; cases h2; rfl
  obtain ⟨u,hu,rv⟩:=r.get ha
  have hp:ps[i]? = some y:=by
   rw [←S.pre,List.getElem?_take_of_lt (by omega)]; exact h1
  have ndP:ps.Nodup:=by rw [←S.pre]; exact S.nd.sublist (List.take_sublist _ _)
  refine ⟨u,rv,?_⟩
  rcases S.par y (zQ hp) with k | k
  ·exact .inl ⟨k,Qlf ndP hp hu k⟩
  ·obtain ⟨c,e⟩:=Qmi (n:=s.heap.objs.size+1) k;refine .inr ⟨.inl k,c,e,?_⟩;have q:=x.cell y c e;rw [Qli ndP hp hu (by show scope.names.lookup y≠_; rw [k]; decide)] at q;exact q
 ·exact e0.hok.fresh (Nat.le_of_lt (x.above y c (PySem.mem_of_lookup h)))
 ·unfold start;show _=N.length;rw [zn,zd,List.length_replicate];omega
theorem QwL {CX:CXT}{P:Program}{w:World}{K:PySem.W.Frag}{mg:Str→Option Value}{base:Heap}{k:Nat}{f:Addr}{name qual:Str}{params:Arguments}{body:List Stmt}{scope:Scope}{dV kV doc pm cdv ct oc:Value}{an od:Option Addr}
  {osl:Array (Option Value)}{N ps:List Str}{sp:Sp} (lk:K.lookup f=some ⟨oc,od,.func (PySem.W.fnOf name qual params body scope dV kV doc pm an cdv ct),osl⟩) (hcd:PySem.W.codeIn K cdv qual=true) (S:QaA N ps scope)
  (len:∀vs H Q E,sp vs H Q E→vs.length=ps.length)
  (hbody:∀(A:Around) (outer:List Env) (s:Shared) (H:Hp) (vs:List V) (Q:VK) (E:XK),Qa1 k (A.deeper (envOfC qual scope s.heap.objs.size f cdv))→sp vs H Q E →
   ∃t,PSs (Qgj CX P w K mg base N qual scope f cdv A outer s H E) body t∧t { nx:=fun _ H'=>Q .non H',rt:=Q } (start N vs) H) :
  Qcc P w K mg base CX (k+1) f (PySem.W.fnOf name qual params body scope dV kV doc pm an cdv ct) ps sp:=by
 refine ⟨len,fun A outer s H args us vs Q E hr e0 hb r hsp=>?_⟩;have hl:=len _ _ _ _ hsp
 have KX:K.In s.heap:=e0.mod.kin.keeps fun b o e=>(e0.bs b o e).1
 have lim:s.heap.NoLimit:=e0.mod.nolimit.keeps fun b o e=>(e0.bs b o e).1
 have hkind:∀y∈ps.zip us,scope.names.lookup y.1=some .local∨(scope.names.lookup y.1=some .cell∧((cellsFrom (s.heap.objs.size+1) scope.names []).lookup y.1).isSome=true):=fun ⟨n,v⟩ hy=>by
  rcases S.par n (List.of_mem_zip hy).1 with q | q
  ·exact .inl q
  ·exact .inr ⟨q,PySem.W.cellsFrom_some _ _ _ (.inl q)⟩
 refine codeAny_call_function hr.depth (KX _ _ lk) rfl S.co S.gen rfl (PySem.W.codeRec_of KX hcd) (hb _ _ _ _ ?_)
 refine wpAny_newFunctionEnv_cells S.kind hkind fun env he s1 x=>?_
 subst he;refine ⟨lim.keeps x.toInCall.keep,codeAny_func ?_⟩;obtain ⟨t,ht,hq⟩:=hbody A outer s H vs Q E (hr.deeper _) hsp;have I:Inv (Qgj CX P w K mg base N qual scope f cdv A outer s H E) [] (start N vs) H s1:=Qqi S hr.hd e0 hl r x
 refine zN (ht [] s1 (start N vs) H _ I hq) (fun fl s' hs=>?_) fun e s' hs=>hs
 have fin:∀{σ':St}{H':Hp}{v:V}{u:Value},Inv (Qgj CX P w K mg base N qual scope f cdv A outer s H E) [] σ' H' s'→RelV v u→Q v H'→CE outer P w H s Q u s' :=
  fun {σ' H' v u} J rv q=>⟨v,H',J.os,J.bare,J.base,J.hok,rv,q⟩
 cases fl with
 | ret u =>
  obtain ⟨v,σ',H',J,rv,q⟩:=hs;exact fin J rv q
 | next =>
  obtain ⟨σ',H',J,q⟩:=hs;exact fin (v:=V.non) (u:=Value.none) J rfl q
 | brk =>
  obtain ⟨_,_,_,q⟩:=hs;exact False.elim q
 | cont =>
  obtain ⟨_,_,_,q⟩:=hs;exact False.elim q
section
variable {X:Cx}{x:Str}{p pos:Pos}{e:Expr}{es:List Expr}{t:TA}{id T:String}{r:List V→Hp→VK→Prop}
def tCB (r:List V→Hp→VK→Prop) (t:TA):TE:=fun σ H Q=>t σ H fun vs H1=>r vs H1 Q
theorem QmY (hc:QfO X (.builtin id) r) (hg:Gl X x) (hm:X.mg x=none) (hv:bootBuiltins x=some (.builtin id)) (ha:PA X (e::es) t) (hn:x≠"__name__":=by decide) (hdb:(x == ("__debug__":Str))=false:=by decide)
  (he:starEach (e::es) X.env=(false,eval e X.env)::starEach es X.env:=by rfl) (hpl:(backTo pos (starEach es X.env)).any (·.1)=false:=by rfl):PE X (.Call (.Name x p) (e::es) [] pos) (tCB r t):=by
 intro pins s σ H Q I h;refine wpAny_Call_Name_kw (QdS I hg hm hv ?_ hn hdb);exact PyProof.Rows.callWith_builtin1 (thn (ha pos pins s σ H _ I h) fun us s1 ⟨vs,H1,I1,r1,q1⟩=>hc pins s1 σ H1 vs us Q I1 r1 q1) he hpl
theorem QpK (hc:QfO X (.type T) r) (hg:Gl X x) (hm:X.mg x=none) (hv:bootBuiltins x=some (.type T)) (ha:PA X (e::es) t) (hn:x≠"__name__":=by decide) (hdb:(x == ("__debug__":Str))=false:=by decide)
  (he:starEach (e::es) X.env=(false,eval e X.env)::starEach es X.env:=by rfl) (hpl:(backTo pos (starEach es X.env)).any (·.1)=false:=by rfl):PE X (.Call (.Name x p) (e::es) [] pos) (tCB r t):=by
 intro pins s σ H Q I h;refine wpAny_Call_Name_kw (QdS I hg hm hv ?_ hn hdb);exact PyProof.Rows.callWith_type1 (thn (ha pos pins s σ H _ I h) fun us s1 ⟨vs,H1,I1,r1,q1⟩=>hc pins s1 σ H1 vs us Q I1 r1 q1) he hpl
end
end L2
namespace HT
open PySem PyProof.Rows
section
open PySem.SeqAt
open PySem.AutoSeq1 (wpAny_loadPart')
open PySem.MeetsSeq PySem.MeetsSeq2 PySem.MeetsSeq3
end
section
variable {prog:Program}{w:World}{A:Around}{E:Value→Shared→Prop}{s:Shared}
theorem cat_tup {t b:Addr}{vs ws:List Value}{Q:Value→Shared→Prop} (ht:IsTup s.heap t vs.toArray) (hb:IsTup s.heap b ws.toArray) (hv:vs≠[])
  (h1:ws = []→Q (.ref t) s) (h2:ws≠[]→Q (.ref s.heap.objs.size) { s with heap:=s.heap.push { cls:=.type "tuple",data:=.seq (vs++ws).toArray } })
  (hsz:vs.length+ws.length≤sizeLine):wpAny (model prog w) A (binaryOp .Add (.ref t) (.ref b)) Q E s:=by
 obtain ⟨⟨cls,dd,data,sl⟩,ho,hc,n,hd⟩:=id ht;obtain ⟨⟨cls2,dd2,data2,sl2⟩,ho2,hc2,n2,hd2⟩:=id hb;simp only at hc hd hc2 hd2;subst hc hd hc2 hd2
 have e:vs.toArray++ws.toArray=(vs++ws).toArray:=by simp
 by_cases hw:ws = []
 ·exact concat_meets ⟨_,ho,rfl⟩ ⟨_,ho2,rfl⟩ noFill_tuple_add seq_tuple_add PySem.F.slot_tuple_add PySem.F.entry_tuple_add (PySem.F.args_tuple_add_2 _ _)
   (tuple_addW1 t b vs.toArray ws.toArray n n2 dd dd2 sl sl2 (by simpa using hv) (by simp [hw])) ⟨ho,ho2,h1 hw⟩
 ·refine concat_meets ⟨_,ho,rfl⟩ ⟨_,ho2,rfl⟩ noFill_tuple_add seq_tuple_add PySem.F.slot_tuple_add PySem.F.entry_tuple_add (PySem.F.args_tuple_add_2 _ _)
   (tuple_addW2 t b vs.toArray ws.toArray n n2 dd dd2 sl sl2 (by simpa using hv) (by simpa using hw) (by rw [zp,zp]; exact hsz)) ⟨ho,ho2,?_⟩
  rw [e];exact h2 hw
def sIx (n d:Nat):Option Int→Nat
 | none=>d
 | some v=>if v < 0 then (v+(n:Int)).toNat else min v.toNat n
theorem sIx_none (n d:Nat):sIx n d none=d:=rfl
theorem sIx_nat (n d k:Nat):sIx n d (some (k:Int))=min k n:=by
 show (if (k:Int) < 0 then ((k:Int)+(n:Int)).toNat else min (k:Int).toNat n)=min k n;rw [if_neg (by omega),Int.toNat_natCast]
theorem sIx_le (n d:Nat) (hd:d≤n) (o:Option Int):sIx n d o≤n:=by
 cases o with
 | none=>exact hd
 | some v =>
  show (if v < 0 then (v+(n:Int)).toNat else min v.toNat n)≤n
  by_cases hv:v < 0
  ·rw [if_pos hv]; omega
  ·rw [if_neg hv]; exact Nat.min_le_right _ _
theorem QnX (v:Int) (n d:Nat):(if v < 0 then max (v+(n:Int)) 0 else min v (n:Int))=((sIx n d (some v):Nat):Int):=by
 show (if v < 0 then max (v+(n:Int)) 0 else min v (n:Int))=(((if v < 0 then (v+(n:Int)).toNat else min v.toNat n):Nat):Int)
 by_cases hv:v < 0
 ·simp only [if_pos hv]; omega
 ·simp only [if_neg hv]; omega
theorem Qo4 (lo hi:Option Int) (n:Nat):Builtin.Slice.sliceAdjust lo hi 1 (n:Int)=(((sIx n 0 lo:Nat):Int),((sIx n n hi:Nat):Int)):=by
 have h1:¬((1:Int) < 0):=by omega
 unfold Builtin.Slice.sliceAdjust;simp only [h1,if_false];refine Prod.ext ?_ ?_
 ·cases lo with
  | none=>rfl
  | some v=>exact QnX v n 0
 ·cases hi with
  | none=>rfl
  | some v=>exact QnX v n n
theorem QoP (i j:Nat):Builtin.Slice.slicePlaces (i:Int) (j:Int) 1=j - i:=by
 unfold Builtin.Slice.slicePlaces
 have h1:(1:Int) > 0:=by omega
 simp only [h1,if_true,Int.ediv_one]
 split <;> omega
theorem Qj0 {v:Value}{o:Option Int}{Q:Option Int→Shared→Prop} (p:IsPart v o) (h:Q o s):wpAny (model prog w) A (Builtin.Slice.slicePartIndex v) Q E s:=by
 cases p with
 | none=>exact slicePart_none h
 | int i t=>exact slicePart_int h
theorem sliceApplied_gen {sl:Addr}{vl vu:Value}{lo hi:Option Int}{n:Nat}{Q:Int×Int×Nat→Shared→Prop} (hs:s.heap.IsSliceOf sl vl vu .none) (pl:IsPart vl lo) (pu:IsPart vu hi)
  (h:Q (((sIx n 0 lo:Nat):Int),1,sIx n n hi - sIx n 0 lo) s):wpAny (model prog w) A (Builtin.Slice.sliceApplied (.ref sl) (pure (n:Int))) Q E s:=by
 obtain ⟨os,hos,hcs,hds⟩:=id hs;unfold Builtin.Slice.sliceApplied Builtin.Slice.sliceFields;refine za (za (wpAny_field hos hds (x:=vl) rfl (za (wpAny_field hos hds (x:=vu) rfl (za (wpAny_field hos hds (x:=.none) rfl (zc ?_)))))));refine za (slicePart_none ?_);show wpAny _ _ (if ((1:Int) == 0)=true then _ else _) _ _ s;rw [if_neg (by decide)];refine za (Qj0 pl (za (Qj0 pu (za (zc ?_)))));show wpAny _ _ (match Builtin.Slice.sliceAdjust lo hi 1 (n:Int) with | (lo,hi)=>pure (lo,(1:Int),Builtin.Slice.slicePlaces lo hi 1)) _ _ s;rw [Qo4 lo hi n];show wpAny _ _ (pure (((sIx n 0 lo:Nat):Int),(1:Int),Builtin.Slice.slicePlaces ((sIx n 0 lo:Nat):Int) ((sIx n n hi:Nat):Int) 1)) _ _ s
 rw [QoP];exact zc h
theorem QqY (xs:Array Value) (i k:Nat):((List.range k).filterMap fun (m:Nat)=>xs[((i:Int)+(m:Int) * 1).toNat]?).toArray=((xs.toList.drop i).take k).toArray:=by
 have e:(fun (m:Nat)=>xs[((i:Int)+(m:Int) * 1).toNat]?)=fun m=>xs[i+m]?:=by
  funext m
  have:((i:Int)+(m:Int) * 1).toNat=i+m:=by omega
  rw [this]
 rw [e]
 have:=pick_run xs i k
 rw [List.filterMap_map] at this
 have e2:((fun x=>xs[x]?) ∘ fun x=>i+x)=fun m=>xs[i+m]?:=rfl
 rw [e2] at this;rw [this]
theorem getItem_tuple_cut {t sl:Addr}{items:Array Value}{vl vu:Value}{lo hi:Option Int}{Q:Value→Shared→Prop} (ht:IsTup s.heap t items) (hs:s.heap.IsSliceOf sl vl vu .none) (pl:IsPart vl lo) (pu:IsPart vu hi)
  (hw:¬(sIx items.size 0 lo=0∧sIx items.size items.size hi=items.size))
  (h:Q (.ref s.heap.objs.size) { s with heap:=s.heap.push { cls:=.type "tuple",data:=.seq ((items.toList.drop (sIx items.size 0 lo)).take (sIx items.size items.size hi - sIx items.size 0 lo)).toArray } })
  (hsz:items.size≤sizeLine):wpAny (model prog w) A (getItem (.ref t) (.ref sl)) Q E s:=by
 have htake:sizeOk (.seq ((items.toList.drop (sIx items.size 0 lo)).take (sIx items.size items.size hi - sIx items.size 0 lo)).toArray):=by
  show ((items.toList.drop (sIx items.size 0 lo)).take (sIx items.size items.size hi - sIx items.size 0 lo)).toArray.size≤sizeLine;rw [zp,List.length_take,List.length_drop,Array.length_toList];omega
 have hj:sIx items.size items.size hi≤items.size:=sIx_le _ _ (ze _) hi;obtain ⟨os,hos,hcs,hds⟩:=id hs;have hTs:s.TypeIs (.ref sl) "slice":=⟨os,hos,hcs⟩;unfold getItem
 try with_reducible refine zR ?_
 first | refine za (zc ?_) | skip
 refine za (wpAny_sequenceKey ht.typeIs (by decide) ?_)
 refine za (wpAny_callSpecial?_slot (name:=Str.ofString "__getitem__") ht.typeIs PyProof.Rows.slot_tuple_getitem
  (wpAny_call_entry PyProof.Rows.slot_tuple_getitem ht.typeIs entry_tuple_getitem ?_ (args_tuple_getitem _ _)))
 show wpAny _ _ (Builtin.Tuple.tupleItemsOf (.ref t) >>= _) _ _ s;refine za (tupleItemsOf_ ht ?_);refine za (wpAny_typeOf hTs ?_);rw [if_pos (by decide)];refine za (sliceApplied_gen hs pl pu ?_)
 have hno:¬((((sIx items.size 0 lo:Nat):Int) == 0&&(1:Int) == 1&&(sIx items.size items.size hi - sIx items.size 0 lo) == items.size)=true):=by
  intro q;rw [zr,zr] at q;have q1:((sIx items.size 0 lo:Nat):Int)=0:=eq_of_beq q.1.1;have q2:sIx items.size items.size hi - sIx items.size 0 lo=items.size:=eq_of_beq q.2;exact hw ⟨by omega,by omega⟩
 show wpAny _ _ (if (((sIx items.size 0 lo:Nat):Int) == 0&&(1:Int) == 1&&(sIx items.size items.size hi - sIx items.size 0 lo) == items.size)=true then _ else _) _ _ s;rw [if_neg hno,QqY]
 first
  | exact za (m:=Builtin.Tuple.tupleExact _) (wpAny_newObj_type (zc ⟨_,rfl,zc h⟩) htake)
  | exact za (m:=Builtin.Tuple.tupleExact _) (wpAny_newObj_type (za (zc (zc ⟨_,rfl,zc h⟩))) htake)
  | exact za (za (m:=Builtin.Tuple.tupleExact _) (wpAny_newObj_type (zc (zc ⟨_,rfl,zc h⟩)) htake))
  | exact za (za (m:=Builtin.Tuple.tupleExact _) (wpAny_newObj_type (zc ⟨_,rfl,zc h⟩) htake))
end
end HT
namespace L2
open PySem PySem.Spec PyProof.Rows
abbrev TO:=St→Hp→(Option Int→Hp→Prop)→Prop
def PO (X:Cx) (e:Option Expr) (t:TO):Prop :=
 ∀(pins:List (Addr×Obj)) (s:Shared) (σ:St) (H:Hp) (Q:Option Int→Hp→Prop),Inv X pins σ H s→t σ H Q →
  wpAny (model X.prog X.w) X.A (evalPart e X.env) (fun u s'=>∃o H',Inv X pins σ H' s'∧IsPart u o∧Q o H') X.xe s
def Qs6:TO:=fun _ H Q=>Q none H
def QwW (t:TE):TO:=fun σ H Q=>t σ H fun x H1=>∃i,x = .int i∧Q (some i) H1
section
variable {X:Cx}{e:Expr}{te:TE}{lo hi:Option Expr}{tl th:TO}{pos p2:Pos}
theorem Qtt:PO X none Qs6:=by
 intro pins s σ H Q I h;rw [evalPart_none];exact zc ⟨none,H,I,.none,h⟩
theorem Qts (h:PE X e te):PO X (some e) (QwW te):=by
 intro pins s σ H Q I hw;rw [evalPart_some]
 refine thn (h pins s σ H _ I hw) fun u s1 ⟨x,H1,I1,r1,q1⟩=>?_
 obtain ⟨i,rfl,q⟩:=q1;obtain ⟨t,rfl⟩:=r1;exact ⟨some i,H1,I1,.int i t,q⟩
def SlR (X:Cx) (r:V→Option Int→Option Int→Hp→VK→Prop):Prop :=
 ∀(pins:List (Addr×Obj)) (s:Shared) (σ:St) (H:Hp) (x:V) (v vl vu:Value) (lo hi:Option Int) (sl:Addr) (Q:VK),Inv X pins σ H s→RelV x v→s.heap.IsSliceOf sl vl vu .none→IsPart vl lo→IsPart vu hi→r x lo hi H Q →
  ∃T id,typeLookup (.type T) "__getitem__" = pure (some (.builtin id))∧s.TypeIs v T∧wpAny (model X.prog X.w) X.A (getItem v (.ref sl)) (EP X pins σ Q) X.xe s
def tSl (r:V→Option Int→Option Int→Hp→VK→Prop) (te:TE) (tl th:TO):TE:=fun σ H Q=>te σ H fun x H1=>tl σ H1 fun l H2=>th σ H2 fun u H3=>r x l u H3 Q
theorem QqV {r:V→Option Int→Option Int→Hp→VK→Prop} (hr:SlR X r) (he:PE X e te) (hl:PO X lo tl) (hu:PO X hi th):PE X (.Subscript e (.Slice lo hi none p2) pos) (tSl r te tl th):=by
 intro pins s σ H Q I h;refine Subscript_ (thn (he pins s σ H _ I h) fun v s1 ⟨x,H1,I1,r1,q1⟩=>?_);refine wpAny_Slice (thn (hl pins s1 σ H1 _ I1 q1) fun vl s2 ⟨l,H2,I2,pl,q2⟩=>thn (hu pins s2 σ H2 _ I2 q2) fun vu s3 ⟨u,H3,I3,pu,q3⟩=>?_);rw [evalPart_none];refine zc ?_
 have I4:Inv X pins σ H3 { s3 with heap:=s3.heap.push { cls:=.type "slice",data:=.fields #[vl,vu,.none] } }:=I3.kept (t':=s3.toks) fun b ob q=>zl _ q
 obtain ⟨T,id,hT,ht,hg⟩:=hr pins { s3 with heap:=s3.heap.push { cls:=.type "slice",data:=.fields #[vl,vu,.none] } } σ H3 x v vl vu l u s3.heap.objs.size Q I4 r1 (Heap.IsSliceOf.new ..) pl pu q3;show wpAny (model X.prog X.w) X.A (subscriptTail e (.Slice lo hi none p2) v (.ref s3.heap.objs.size)) (EP X pins σ Q) X.xe { s3 with heap:=s3.heap.push { cls:=.type "slice",data:=.fields #[vl,vu,.none] } };exact tail_any (ops:=[.ref s3.heap.objs.size,v]) ht hT hg (by with_unfolding_all rfl)
def QhR (xs:List V) (lo hi:Option Int):List V:=(xs.drop (HT.sIx xs.length 0 lo)).take (HT.sIx xs.length xs.length hi - HT.sIx xs.length 0 lo)
theorem Qjk (xs:List V) (lo hi:Option Int):(QhR xs lo hi).length≤xs.length:=by
 unfold QhR;rw [List.length_take,List.length_drop];omega
def Qxk (K:PySem.W.Frag):V→Option Int→Option Int→Hp→VK→Prop:=fun x lo hi H Q=>∃a xs,x = .ref a∧SqT K H a xs ∧
 ¬(HT.sIx xs.length 0 lo=0∧HT.sIx xs.length xs.length hi=xs.length)∧∀p,H p=none→Q (.ref p) (upd H p (.tup (QhR xs lo hi)))
theorem QuM:SlR X (Qxk X.K):=by
 intro pins s σ H x v vl vu lo hi sl Q I rx hs pl pu h;obtain ⟨a,xs,rfl,hx,hw,q⟩:=h;cases rx;obtain ⟨its,r,ht,hz⟩:=I.tuple hx
 have hlen:its.toArray.size=xs.length:=by rw [zp]; exact r.length.symm
 refine ⟨"tuple",_,PyProof.Rows.slot_tuple_getitem.lookup,ht.typeIs,?_⟩;refine HT.getItem_tuple_cut ht hs pl pu (by rw [hlen]; exact hw) ?_ (by rw [hlen]; exact hz);rw [hlen];refine ⟨.ref s.heap.objs.size,_,I.laid (t':=s.toks) (o:=.tup (QhR xs lo hi)) (fun b ob q=>zl _ q) (ze _) ?_,rfl,q _ (I.hok.fresh (ze _))⟩;exact ⟨zF (Qjk xs lo hi) hz,_,(r.drop (HT.sIx xs.length 0 lo)).take (HT.sIx xs.length xs.length hi - HT.sIx xs.length 0 lo),IsTup.new _ _⟩
def Qwy (K:PySem.W.Frag):R2:=fun x y H Q=>∃a b xs ys,x = .ref a∧y = .ref b∧SqT K H a xs∧SqT K H b ys∧xs≠[]∧xs.length+ys.length≤sizeLine ∧
 (ys = []→Q (.ref a) H)∧(ys≠[]→∀p,H p=none→Q (.ref p) (upd H p (.tup (xs++ys))))
theorem Qaz.nil_iff {xs:List V}{us:List Value} (r:Qaz xs us):us = []↔xs = []:=by
 cases r with
 | nil=>simp
 | cons _ _=>simp
theorem Qtk:OpR X (binaryOp .Add) (Qwy X.K):=by
 intro pins s σ H x y v u Q I rx ry h;obtain ⟨a,b,xs,ys,rfl,rfl,ha,hb,hx,hz,q1,q2⟩:=h;cases rx;cases ry;obtain ⟨its,r1,p1,_⟩:=I.tuple ha;obtain ⟨its2,r2,p2,_⟩:=I.tuple hb;refine HT.cat_tup p1 p2 (fun z=>hx (r1.nil_iff.mp z)) (fun z=>⟨.ref a,H,I,rfl,q1 (r2.nil_iff.mp z)⟩) (fun z=>?_) (by rw [←r1.length,←r2.length]; exact hz);refine ⟨.ref s.heap.objs.size,_,I.laid (t':=s.toks) (o:=.tup (xs++ys)) (fun b ob q=>zl _ q) (ze _) ?_,rfl,q2 (fun w=>z (r2.nil_iff.mpr w)) _ (I.hok.fresh (ze _))⟩;exact ⟨by rw [zn]; exact hz,_,r1.append r2,IsTup.new _ _⟩
end
def ixN (n:Nat) (i:Int):Option Nat:=if 0≤i then (if i < n then some i.toNat else none) else if -(n:Int)≤i then some (i+n).toNat else none
def atI {α:Type} (xs:List α) (i:Int):Option α:=(ixN xs.length i).bind fun j=>xs[j]?
theorem Qtn {n:Nat}{i:Int}{j:Nat} (h:ixN n i=some j):seqIndex? i n=some j∧j < n∧-(n:Int)≤i∧i < n:=by
 unfold ixN at h
 by_cases h0:0≤i
 ·rw [if_pos h0] at h
  by_cases h1:i < n
  ·rw [if_pos h1] at h;have e:i.toNat=j:=zH h;exact ⟨by rw [seqIndex_of h0 h1,e],by omega,by omega,h1⟩
  ·rw [if_neg h1] at h; cases h
 ·rw [if_neg h0] at h
  by_cases h1:-(n:Int)≤i
  ·rw [if_pos h1] at h;have e:(i+n).toNat=j:=zH h;exact ⟨by rw [seqIndex_neg (by omega) h1,e],by omega,h1,by omega⟩
  ·rw [if_neg h1] at h; cases h
theorem QkO {α:Type}{xs:List α}{i:Int}{v:α} (h:atI xs i=some v):∃j,seqIndex? i xs.length=some j∧xs[j]? = some v∧j < xs.length∧-(xs.length:Int)≤i∧i < xs.length:=by
 unfold atI at h
 cases e:ixN xs.length i with
 | none=>rw [e] at h; cases h
 | some j =>
  rw [e] at h;obtain ⟨h1,h2,h3,h4⟩:=Qtn e;exact ⟨j,h1,h,h2,h3,h4⟩
def Qi1 (b:Expr):Prop:=∀o i,subscripted b false o i=operate [o,i] (getItem o i)
def IxR (X:Cx) (r:R2):Prop :=
 ∀(value slice:Expr) (pins:List (Addr×Obj)) (s:Shared) (σ:St) (H:Hp) (x y:V) (v u:Value) (Q:VK),Inv X pins σ H s→RelV x v→RelV y u→r x y H Q →
  subscripted slice false v u=operate [v,u] (getItem v u)→wpAny (model X.prog X.w) X.A (subscriptTail value slice v u) (EP X pins σ Q) X.xe s
def MtR (X:Cx) (id:String) (r:V→List V→Hp→VK→Prop):Prop :=
 ∀(pins:List (Addr×Obj)) (s:Shared) (σ:St) (H:Hp) (x:V) (xs:List V) (v:Value) (us:List Value) (Q:VK),Inv X pins σ H s→RelV x v→Qaz xs us→r x xs H Q →
  wpAny (model X.prog X.w) X.A (call (.builtin id) (v::us)) (EP X pins σ Q) X.xe s
section
variable {X:Cx}{a b:Expr}{ta tb:TE}{pos:Pos}
theorem Qwr {r:R2} (hr:IxR X r) (ha:PE X a ta) (hb:PE X b tb) (hs:Qi1 b):PE X (.Subscript a b pos) (tOp r ta tb):=by
 intro pins s σ H Q I h;exact Subscript_ (Qrq ha hb I h fun v u s2 x y H2 I2 rx ry q=>hr a b pins s2 σ H2 x y v u Q I2 rx ry q (hs _ _))
def Qxr (K:PySem.W.Frag):R2:=fun x y H Q=>∃p xs i v,x = .ref p∧y = .int i∧SqL K H p xs∧atI xs i=some v∧Q v H
def Qxx (K:PySem.W.Frag):R2:=fun x y H Q=>∃p xs i v,x = .ref p∧y = .int i∧SqT K H p xs∧atI xs i=some v∧Q v H
def Qx0:R2:=fun x y H Q=>∃z i c,x = .str z∧y = .int i∧z.length≤sizeLine∧atI z.cps.toList i=some c∧Q (.str ⟨#[c]⟩) H
theorem QsJ:IxR X (Qxr X.K):=by
 intro value slice pins s σ H x y v u Q I rx ry h hs;obtain ⟨p,xs,i,z,rfl,rfl,hq,he,q⟩:=h;cases rx;obtain ⟨t,rfl⟩:=ry;obtain ⟨its,r,pl,hz⟩:=I.list hq;obtain ⟨j,h1,h2,h3,h4,h5⟩:=QkO he;obtain ⟨w,ew,rw'⟩:=r.get h2;have hl:=r.length;have hn:=QiU;have fin:EP X pins σ Q w s:=⟨z,H,I,rw',q⟩
 by_cases h0:0≤i
 ·have hj:i.toNat=j:=by
   rw [seqIndex_of h0 h5] at h1;exact zH h1
  exact item_listR pl.isList h0 (by omega) (by rw [hj]; simpa using ew) fin hs
 ·have hj:(i+(its.toArray.size:Int)).toNat=j:=by
   rw [seqIndex_neg (by omega) h4] at h1;rw [zp,←hl];exact zH h1
  exact subscriptTail_builtinR (x:=w) pl.isList.typeIs slot_list_getitem.lookup
   (wpAny_getItem_list_neg (Q:=fun r s'=>r=w∧EP X pins σ Q r s') pl.isList (by omega) (by rw [zp] <;> omega) (by omega) (by rw [hj]; simpa using ew) ⟨rfl,fin⟩) hs
theorem QvK:IxR X (Qxx X.K):=by
 intro value slice pins s σ H x y v u Q I rx ry h hs;obtain ⟨p,xs,i,z,rfl,rfl,hq,he,q⟩:=h;cases rx;obtain ⟨t,rfl⟩:=ry;obtain ⟨its,r,pl,hz⟩:=I.tuple hq;obtain ⟨j,h1,h2,h3,h4,h5⟩:=QkO he;obtain ⟨w,ew,rw'⟩:=r.get h2;have hl:=r.length;have hn:=QiU;have fin:EP X pins σ Q w s:=⟨z,H,I,rw',q⟩;exact subscriptTail_builtinR (x:=w) pl.typeIs slot_tuple_getitem.lookup
  (getItem_tuple (j:=j) (Q:=fun r s'=>r=w∧EP X pins σ Q r s') pl (by omega) (by omega) (by rw [zp,←hl]; exact h1) (by simpa using ew) ⟨rfl,fin⟩) hs
theorem Quh:IxR X Qx0:=by
 intro value slice pins s σ H x y v u Q I rx ry h hs;obtain ⟨z,i,c,rfl,rfl,hz,he,q⟩:=h;obtain ⟨t,rfl⟩:=rx;obtain ⟨t',rfl⟩:=ry;obtain ⟨j,h1,h2,h3,h4,h5⟩:=QkO he
 have hl:z.cps.toList.length=z.length:=by simp [Str.length]
 rw [hl] at h1 h4 h5;have hn:=QiU
 exact tail_any (typeIs_str s z t) slot_str_getitem.lookup (getItem_str (c:=c) (by
  have e1:decide (i < -(2 ^ 63:Int))=false:=zh (by omega);have e2:decide (i≥2 ^ 63)=false:=zh (by omega)
  rw [e1,e2,Bool.or_false]) (by rw [h1]; simpa using h2) ⟨.str ⟨#[c]⟩,H,I.tok _,⟨_,rfl⟩,q⟩) hs
theorem Inv.lst {pins:List (Addr×Obj)}{σ:St}{H:Hp}{s:Shared}{p:Addr}{xs:List V} (I:Inv X pins σ H s) (h:H p=some (.lst xs)) :
  ∃(its:List Value) (n:Nat),Qaz xs its∧s.heap.get? p=some { cls:=.type "list",data:=.seq its.toArray n }∧xs.length≤sizeLine:=by
 obtain ⟨z,its,n,r,e⟩:=I.hok p _ h;exact ⟨its,n,r,e,z⟩
theorem QiK (lo hi:Option Int) (n:Nat):(sliceBounds lo hi none n).1=((HT.sIx n 0 lo:Nat):Int)∧(sliceBounds lo hi none n).2.1=((HT.sIx n n hi:Nat):Int)∧(sliceBounds lo hi none n).2.2=1:=by
 refine ⟨?_,?_,rfl⟩
 ·cases lo with
  | none=>simp [sliceBounds,HT.sIx]
  | some i =>
   simp only [sliceBounds,HT.sIx,Option.getD_none,show (1:Int) > 0 by decide,if_true]
   by_cases h:i < 0
   ·simp only [h,if_true] <;> omega
   ·simp only [h,if_false] <;> omega
 ·cases hi with
  | none=>simp [sliceBounds,HT.sIx]
  | some i =>
   simp only [sliceBounds,HT.sIx,Option.getD_none,show (1:Int) > 0 by decide,if_true]
   by_cases h:i < 0
   ·simp only [h,if_true] <;> omega
   ·simp only [h,if_false] <;> omega
theorem Qlz (its:List Value) (lo hi:Option Int):slicePick its.toArray lo hi none=((its.drop (HT.sIx its.length 0 lo)).take (HT.sIx its.length its.length hi - HT.sIx its.length 0 lo)).toArray:=by
 obtain ⟨h1,h2,h3⟩:=QiK lo hi its.toArray.size;unfold slicePick;rw [h1,h2,h3]
 simp only [sliceRange_one,pick_run,zp] <;> rfl
def QxZ (K:PySem.W.Frag):V→Option Int→Option Int→Hp→VK→Prop:=fun x lo hi H Q=>∃a xs,x = .ref a∧SqL K H a xs∧∀p,H p=none→Q (.ref p) (upd H p (.lst (QhR xs lo hi)))
theorem QtZ:SlR X (QxZ X.K):=by
 intro pins s σ H x v vl vu lo hi sl Q I rx hs pl pu h;obtain ⟨a,xs,rfl,hx,q⟩:=h;cases rx;obtain ⟨its,r,ht,hz⟩:=I.list hx;have hlen:=r.length;refine ⟨"list",_,slot_list_getitem.lookup,ht.isList.typeIs,?_⟩;refine wpAny_getItem_list_slice ht.isList hs pl pu .none (by simp) ?_ (by rw [zp] <;> omega);rw [Qlz,←hlen];refine ⟨.ref s.heap.objs.size,_,I.laid (t':=s.toks) (o:=.lst (QhR xs lo hi)) (fun b ob q=>zl _ q) (ze _) ?_,rfl,q _ (I.hok.fresh (ze _))⟩;exact ⟨zF (Qjk xs lo hi) hz,_,0,(r.drop (HT.sIx xs.length 0 lo)).take (HT.sIx xs.length xs.length hi - HT.sIx xs.length 0 lo),zA _ rfl⟩
def Qfj:V→Bool
 | .non=>true
 | .bl _=>true
 | .int _=>true
 | .str _=>true
 | _=>false
def eqV:V→V→Bool
 | .non,.non=>true
 | .bl a,.bl b=>a == b
 | .bl a,.int b=>(if a then 1 else 0) == b
 | .int a,.bl b=>a == (if b then 1 else 0)
 | .int a,.int b=>a == b
 | .str a,.str b=>a == b
 | _,_=>false
theorem QvT {A:Around}{s:Shared}{y x:V}{u v:Value} (ry:RelV y u) (rx:RelV x v) (fy:Qfj y=true) (fx:Qfj x=true):SeqAt.EqAt A s u v (eqV y x):=by
 cases y with
 | non =>
  cases ry
  cases x with
  | non=>cases rx; exact SeqAt.EqAt.same _
  | bl b=>cases rx; exact SeqAt.EqAt.none_bool b
  | int b=>obtain ⟨t,rfl⟩:=rx; exact SeqAt.EqAt.none_int b t
  | str b=>obtain ⟨t,rfl⟩:=rx; exact SeqAt.EqAt.none_str b t
  | _=>exact absurd (show false=true from fx) zj
 | bl a =>
  cases ry
  cases x with
  | non=>cases rx; exact SeqAt.EqAt.bool_none a
  | bl b=>cases rx; exact SeqAt.EqAt.bool_bool a b
  | int b=>obtain ⟨t,rfl⟩:=rx; exact SeqAt.EqAt.bool_int a b t
  | str b=>obtain ⟨t,rfl⟩:=rx; exact SeqAt.EqAt.bool_str a b t
  | _=>exact absurd (show false=true from fx) zj
 | int a =>
  obtain ⟨t',rfl⟩:=ry
  cases x with
  | non=>cases rx; exact SeqAt.EqAt.int_none a t'
  | bl b=>cases rx; exact SeqAt.EqAt.int_bool a t' b
  | int b=>obtain ⟨t,rfl⟩:=rx; exact SeqAt.EqAt.int_int a t' b t
  | str b=>obtain ⟨t,rfl⟩:=rx; exact SeqAt.EqAt.int_str a t' b t
  | _=>exact absurd (show false=true from fx) zj
 | str a =>
  obtain ⟨t',rfl⟩:=ry
  cases x with
  | non=>cases rx; exact SeqAt.EqAt.str_none a t'
  | bl b=>cases rx; exact SeqAt.EqAt.str_bool a t' b
  | int b=>obtain ⟨t,rfl⟩:=rx; exact SeqAt.EqAt.str_int a t' b t
  | str b=>obtain ⟨t,rfl⟩:=rx; exact SeqAt.EqAt.str_str a t' b t
  | _=>exact absurd (show false=true from fx) zj
 | _=>exact absurd (show false=true from fy) zj
def eqU (x:V) (u:Value):Bool:=match u with
 | .none=>eqV .non x
 | .bool b=>eqV (.bl b) x
 | .int i _=>eqV (.int i) x
 | .str z _=>eqV (.str z) x
 | _=>false
theorem Qpd {x y:V}{u:Value} (r:RelV y u) (f:Qfj y=true):eqU x u=eqV y x:=by
 cases y with
 | non=>cases r; rfl
 | bl b=>cases r; rfl
 | int i=>obtain ⟨t,rfl⟩:=r; rfl
 | str z=>obtain ⟨t,rfl⟩:=r; rfl
 | _=>exact absurd (show false=true from f) zj
theorem QkH {x:V}:∀{xs:List V}{us:List Value},Qaz xs us→xs.all Qfj=true→us.any (eqU x)=xs.any fun y=>eqV y x
 | _,_,.nil,_=>rfl
 | y::xs,u::us,.cons r t,f=>by
  rw [List.all_cons,zr] at f;rw [List.any_cons,List.any_cons,Qpd r f.1,QkH t f.2]
theorem QjB {A:Around}{s:Shared}{x:V}{v:Value} (rx:RelV x v) (fx:Qfj x=true):∀{xs:List V}{us:List Value},Qaz xs us→xs.all Qfj=true→∀u∈us,SeqAt.EqAt A s u v (eqU x u)
 | _,_,.nil,_=>fun u hu=>by cases hu
 | y::xs,u::us,.cons r t,f=>fun u' hu=>by
  rw [List.all_cons,zr] at f
  rcases zt.mp hu with rfl | hu
  ·rw [Qpd r f.1]; exact QvT r rx f.1 fx
  ·exact QjB rx fx t f.2 u' hu
def inV (x:V) (xs:List V):Bool:=xs.any fun y=>eqV y x
def rIn (K:PySem.W.Frag) (neg:Bool):R2:=fun x y H Q=>∃p xs,y = .ref p∧(SqL K H p xs∨SqT K H p xs)∧Qfj x=true∧xs.all Qfj=true∧Q (.bl (if neg then !inV x xs else inV x xs)) H
theorem Qpx:OpR X (compareOp .In) (rIn X.K false):=by
 intro pins s σ H x y v u Q I rx ry h;obtain ⟨p,xs,rfl,hq,fx,fs,q⟩:=h;cases ry
 rcases hq with hq | hq
 ·obtain ⟨its,r,pl,hz⟩:=I.list hq;refine SeqAt.in_listAt (eqU x) pl.isList (fun w hw=>QjB rx fx r fs w (by simpa using hw)) ⟨.bl _,H,I,rfl,?_⟩;rw [show its.toArray.any (eqU x)=its.any (eqU x) by simp,QkH r fs];exact q
 ·obtain ⟨its,r,pl,hz⟩:=I.tuple hq;refine SeqAt.in_tupleAt (eqU x) pl (fun w hw=>QjB rx fx r fs w (by simpa using hw)) ⟨.bl _,H,I,rfl,?_⟩;rw [show its.toArray.any (eqU x)=its.any (eqU x) by simp,QkH r fs];exact q
theorem QiA:QfO X (.type "list") (fun xs H Q=>∃p ys,xs = [.ref p]∧(SqL X.K H p ys∨SqT X.K H p ys)∧∀l,H l=none→Q (.ref l) (upd H l (.lst ys))):=by
 intro pins s σ H xs us Q I r h;obtain ⟨p,ys,rfl,hq,q⟩:=h;obtain ⟨u,rfl,rx⟩:=vals1 r;cases rx;have fin:∀(its:List Value),Qaz ys its→ys.length≤sizeLine→∀(h':Heap) (c':Nat),(∀b o',s.heap.get? b=some o'→h'.get? b=some o') →
   h'.get? s.heap.objs.size=some { cls:=.type "list",dict:=none,data:=.seq its.toArray c',slots:=#[] }→EP X pins σ Q (.ref s.heap.objs.size) { s with heap:=h' }:=fun its r' hz h' c' kp e =>
  ⟨.ref s.heap.objs.size,_,I.laid (t':=s.toks) kp (ze _) (show Qbe X.prog X.w _ h' _ (.lst ys) from ⟨hz,its,c',r',e⟩),rfl,q _ (I.hok.fresh (ze _))⟩
 rcases hq with hq | hq
 ·obtain ⟨its,r',pl,hz⟩:=I.list hq;have hlen:=r'.length;obtain ⟨o,ho,hc,n,hd⟩:=pl.isList;exact call_list_seq p (.inl rfl) ho hc hd (fun h' c' kp e=>fin its r' hz h' c' kp e) (by simp only [zp] <;> omega)
 ·obtain ⟨its,r',pl,hz⟩:=I.tuple hq;have hlen:=r'.length;obtain ⟨o,ho,hc,n,hd⟩:=pl;exact call_list_seq p (.inr rfl) ho hc hd (fun h' c' kp e=>fin its r' hz h' c' kp e) (by simp only [zp] <;> omega)
def tyV (K:PySem.W.Frag) (T:String) (x:V) (H:Hp):Prop:=match x with
 | .str _=>T = "str"
 | .int _=>T = "int"
 | .ref p=>(T = "list"∧∃xs,SqL K H p xs)∨(T = "tuple"∧∃o,K.lookup p=some o∧o.cls = .type "tuple"∧o.dict=none) ∨
   (T = "dict"∧((∃kvs,H p=some (.dK kvs))∨∃kvs,H p=some (.dT kvs)))∨(T = "set"∧∃S n,H p=some (.set S n))
 | _=>False
theorem Qvy {pins:List (Addr×Obj)}{σ:St}{H:Hp}{s:Shared}{T:String}{x:V}{v:Value} (I:Inv X pins σ H s) (r:RelV x v) (ty:tyV X.K T x H) :
  s.TypeIs v T∧∀a,v = .ref a→∃ob,s.heap.get? a=some ob∧ob.dict=none:=by
 cases x with
 | str z =>
  obtain ⟨t,rfl⟩:=r;cases (show T = "str" from ty);exact ⟨typeIs_str s z t,fun _ e=>nomatch e⟩
 | int i =>
  obtain ⟨t,rfl⟩:=r;cases (show T = "int" from ty);exact ⟨typeIs_int s i t,fun _ e=>nomatch e⟩
 | ref p =>
  cases r
  rcases ty with ⟨rfl,xs,hq⟩ | ⟨rfl,o,hk,hc,hd⟩ | ⟨rfl,hk⟩ | ⟨rfl,S,n,hk⟩
  ·obtain ⟨its,_,pl,_⟩:=I.list hq;refine ⟨pl.isList.typeIs,fun a e=>?_⟩;cases e;obtain ⟨o,n,e,c,hd,_⟩:=pl;exact ⟨o,e,hd⟩
  ·refine ⟨⟨o,I.kIn p o hk,hc⟩,fun a e=>?_⟩;cases e;exact ⟨o,I.kIn _ o hk,hd⟩
  ·have z:∃o,s.heap.get? p=some o∧o.ExactDict:=by
    rcases hk with ⟨kvs,hk⟩ | ⟨kvs,hk⟩
    ·obtain ⟨_,_,_,_,o,_,_,e,ex,_⟩:=I.hok p _ hk;exact ⟨o,e,ex⟩
    ·obtain ⟨_,_,_,_,o,_,_,e,ex,_⟩:=I.hok p _ hk;exact ⟨o,e,ex⟩
   obtain ⟨o,e,ex⟩:=z;refine ⟨⟨o,e,ex.1⟩,fun a e2=>?_⟩;cases e2;exact ⟨o,e,ex.2.1⟩
  ·obtain ⟨o,_,_,_,e,ex,_⟩:=I.hok p _ hk;refine ⟨⟨o,e,ex.1⟩,fun a e2=>?_⟩;cases e2;exact ⟨o,e,ex.2.1⟩
 | _=>exact False.elim ty
def tBM (K:PySem.W.Frag) (T:String) (r:V→List V→Hp→VK→Prop) (to:TE) (t:TA):TE:=fun σ H Q=>to σ H fun x H1=>tyV K T x H1∧t σ H1 fun xs H2=>r x xs H2 Q
variable {o e:Expr}{es:List Expr}{to:TE}{t:TA}{name:Str}{apos cpos:Pos}{T id:String}{r:V→List V→Hp→VK→Prop}
theorem Qr3 (pa:PlainAttrs T) (slot:Slot T name id) (hty:typeOf (.builtin id)=pure (.type "method_descriptor")) (hm:MtR X id r) (ho:PE X o to) (ha:PA X (e::es) t)
  (hbase:attributeBase o name X.env (eval o X.env)=eval o X.env:=by rfl)
  (hfew:((backTo cpos (starEach (e::es) X.env)).all (fun x=>!x.1)&&(backToKw cpos (keywordEach [] X.env)).all (fun x=>x.1.isSome)
   && decide ((e::es).length+([]:List Keyword).length+(if ([]:List Keyword).isEmpty then 0 else 1) < 30))=true:=by rfl)
  (hline:(apos.endLine == cpos.line)=true:=by rfl) (hs:starEach (e::es) X.env=(false,eval e X.env)::starEach es X.env:=by rfl) (hplain:(backTo cpos (starEach es X.env)).any (·.1)=false:=by rfl) :
  PE X (.Call (.Attribute o name apos) (e::es) [] cpos) (tBM X.K T r to t):=by
 intro pins s σ H Q I h;refine wpAny_Call_method_late hbase hfew hline rfl (thn (ho pins s σ H _ I h) fun v s1 ⟨x,H1,I1,r1,ty,q1⟩=>?_);obtain ⟨h1,h2⟩:=Qvy I1 r1 ty;refine ⟨T,id,pa,slot,hty,h1,h2,?_⟩;have hA:=ha cpos pins s1 σ H1 _ I1 q1;rw [hs] at hA ⊢;refine Calls.callWith_builtin (by show (false || (backTo cpos (starEach es X.env)).any (·.1))=false; rw [hplain] <;> rfl) (Calls.evalArgs_plain ?_)
 exact thn hA fun us s2 ⟨vs,H2,I2,r2,q2⟩=>hm pins s2 σ H2 x vs v us Q I2 r1 r2 q2
/- xs.append(e),list.index on a module's tuple .. are MtR facts of 06m -/
end
def MtM (X:Cx) (id:String) (r:V→List V→Hp→VK→Prop):Prop :=
 ∀(pins:List (Addr×Obj)) (s:Shared) (σ:St) (H:Hp) (x:V) (xs:List V) (v:Value) (us:List Value) (Q:VK),Inv X pins σ H s→RelV x v→Qaz xs us→r x xs H Q →
  wpAny (model X.prog X.w) X.A (call (.builtin id) (v::us)) (EP X pins σ Q) X.xe s
theorem Qaz.one:∀{x:V}{us:List Value},Qaz [x] us→∃u,us = [u]∧RelV x u
 | _,_,.cons r .nil=>⟨_,rfl,r⟩
theorem Qaz.two:∀{x y:V}{us:List Value},Qaz [x,y] us→∃u v,us = [u,v]∧RelV x u∧RelV y v
 | _,_,_,.cons r (.cons q .nil)=>⟨_,_,rfl,r,q⟩
theorem Qaz.zero:∀{us:List Value},Qaz [] us→us = []
 | _,.nil=>rfl
theorem Qaz.dropLast {xs:List V}{us:List Value} (h:Qaz xs us):Qaz xs.dropLast us.dropLast:=by
 induction h with
 | nil=>exact .nil
 | cons r t ih =>
  cases t with
  | nil=>exact .nil
  | cons q t'=>exact .cons r ih
theorem Qaz.reverse {xs:List V}{us:List Value} (h:Qaz xs us):Qaz xs.reverse us.reverse:=by
 induction h with
 | nil=>exact .nil
 | cons r t ih=>rw [List.reverse_cons,List.reverse_cons]; exact Qaz.append ih (.cons r .nil)
theorem Qaz.rep {xs:List V}{us:List Value} (h:Qaz xs us):∀k:Nat,Qaz (List.replicate k xs).flatten (List.replicate k us).flatten
 | 0=>.nil
 | k+1=>by
  rw [List.replicate_succ,List.replicate_succ,List.flatten_cons,List.flatten_cons];exact Qaz.append h (Qaz.rep h k)
theorem foldl_rep (its:List Value):∀(k:Nat) (acc:List Value),
  List.foldl (fun x1 x2=>x1++x2) acc.toArray (List.replicate k its.toArray)=(acc++(List.replicate k its).flatten).toArray
 | 0,acc=>by simp
 | k+1,acc=>by
  have e:acc.toArray++its.toArray=(acc++its).toArray:=by simp
  have e2:(acc++its)++(List.replicate k its).flatten=acc++(List.replicate (k+1) its).flatten:=by
   rw [List.replicate_succ,List.flatten_cons,zX]
  rw [←e2,←foldl_rep its k (acc++its),←e,List.replicate_succ,List.foldl_cons]
section
variable {X:Cx}{pins:List (Addr×Obj)}{σ:St}{H:Hp}{s:Shared}{l b:Addr}{xs ys zs:List V}
theorem Inv.lset {its its':List Value}{n:Nat}{f:Array Value→Array Value}{t':Nat} (I:Inv X pins σ H s) (hH:H l=some (.lst xs))
  (e:s.heap.get? l=some { cls:=.type "list",data:=.seq its.toArray n }) (hf:f its.toArray=its'.toArray) (hv:Qaz ys its') (hz:ys.length≤sizeLine) :
  Inv X pins σ (upd H l (.lst ys)) { s with heap:=s.heap.update l (Obj.mapSeq f),toks:=t' }:=by
 have q:=PySem.IsL.update e f;rw [hf] at q;refine I.write (x:=l) (e:=l) (by rw [hH]; exact trivial) (.inl rfl) (fun b' u hb hu=>(ji s.heap (Obj.mapSeq f) (Ne.symm hb)).trans hu) ⟨_,q⟩ ?_;exact ⟨hz,its',_,hv,q⟩
theorem Inv.lnew {its:List Value}{t':Nat} (I:Inv X pins σ H s) (hv:Qaz ys its) (hz:ys.length≤sizeLine) :
  Inv X pins σ (upd H s.heap.objs.size (.lst ys)) { s with heap:=s.heap.push { cls:=.type "list",data:=.seq its.toArray },toks:=t' } :=
 I.laid (fun _ _ q=>zl _ q) (ze _) ⟨hz,its,0,hv,zA _ rfl⟩
theorem Inv.fresh (I:Inv X pins σ H s):H s.heap.objs.size=none:=I.hok.fresh (ze _)
theorem Inv.lstM (I:Inv X pins σ H s) (hH:H l=some (.lst xs)):xs.length≤sizeLine∧∃(its:List Value) (n:Nat),Qaz xs its∧xs.length=its.length∧s.heap.get? l=some { cls:=.type "list",data:=.seq its.toArray n }:=by
 obtain ⟨z,its,n,r,e⟩:=I.hok l _ hH;exact ⟨z,its,n,r,r.length,e⟩
theorem QhQ {n:Nat} (h:n≤sizeLine):Builtin.List.listTooLong n=false:=by
 unfold Builtin.List.listTooLong;exact zh (by omega)
end
section
variable {X:Cx}
def Qtv:V→List V→Hp→VK→Prop:=fun x vs H Q=>∃l xs y,x = .ref l∧vs = [y]∧H l=some (.lst xs)∧xs.length < sizeLine∧Q .non (upd H l (.lst (xs ++ [y])))
theorem QpT:MtM X "list.append" Qtv:=by
 intro pins s σ H x vs v us Q I rx rv h;obtain ⟨l,xs,y,rfl,rfl,hH,hz,q⟩:=h;cases rx;obtain ⟨u,rfl,ru⟩:=rv.one;obtain ⟨z,its,n,r,hl,e⟩:=I.lstM hH;refine call_meets F.slot_list_append ⟨_,e,rfl⟩ F.entry_list_append (F.args_list_append_2 _ _) (PySem.list_append l its.toArray n u (by rw [zp]; omega)) ⟨e,?_⟩;refine ⟨.non,_,I.lset (its':=its ++ [u]) hH e (by simp) (r.append (.cons ru .nil)) ?_,rfl,q⟩;rw [zn,zS];omega
theorem len_rep {α:Type} (xs:List α) (k:Nat):(List.replicate k xs).flatten.length=k * xs.length:=by
 induction k with
 | zero=>simp
 | succ k ih=>rw [List.replicate_succ,List.flatten_cons,zn,ih,Nat.succ_mul,Nat.add_comm]
end
section
variable {prog:Program}{w:World}{A:Around}{E:Value→Shared→Prop}{s:Shared}
theorem Qop {a c n:Nat} (hac:a≤c) (hc:c≤n):sliceBounds (some (a:Int)) (some (c:Int)) none n=((a:Int),(c:Int),1):=by
 simp only [sliceBounds,Option.getD_none]
 have h1:¬((a:Int) < 0):=by omega
 have h2:¬((c:Int) < 0):=by omega
 simp only [h1,h2,if_false,show (1:Int) > 0 by decide,if_true];congr 1
 ·omega
 ·congr 1; omega
set_option maxRecDepth 100000 in
theorem Qt7 {l b sl:Addr}{items new:Array Value}{n n2:Nat}{vl vu:Value}{a c:Nat}{Q:Unit→Shared→Prop}
  (e:s.heap.get? l=some { cls:=.type "list",data:=.seq items n }) (e2:s.heap.get? b=some { cls:=.type "list",data:=.seq new n2 }) (hne:l≠b)
  (hs:s.heap.IsSliceOf sl vl vu .none) (pl:IsPart vl (some (a:Int))) (pu:IsPart vu (some (c:Int))) (hac:a≤c) (hc:c≤items.size)
  (hsz:items.size+new.size≤sizeLine) (h:Q () { s with heap:=s.heap.update l (Obj.mapSeq fun xs=>xs.extract 0 a++new++xs.extract c xs.size) }) :
  wpAny (model prog w) A (setItem (.ref l) (.ref sl) (.ref b)) Q E s:=by
 have hl:s.heap.IsList l items:=PySem.IsL.isList e;have hb:s.heap.IsList b new:=PySem.IsL.isList e2;obtain ⟨os,hos,hcs,hds⟩:=id hs;have hTs:s.TypeIs (.ref sl) "slice":=⟨os,hos,hcs⟩;have hstep:¬((rawPart none == rawInt 0)=true):=zj
 have hsame:Builtin.List.listSameRef (.ref l) (.ref b)=false:=by
  unfold Builtin.List.listSameRef;exact beq_eq_false_iff_ne.mpr hne
 have hmax:(max (a:Int) (c:Int)).toNat=c:=by omega
 have hz':((fun xs:Array Value=>xs.extract 0 a++new++xs.extract c xs.size) items).size≤sizeLine+1:=by
  simp only [Array.size_append,Array.size_extract];omega
 unfold setItem
 try with_reducible refine zR ?_
 first | refine za (zc ?_) | skip
 refine za (wpAny_sequenceKey hl.typeIs (by decide) ?_)
 refine za (wpAny_callSpecial?_slot (name:=Str.ofString "__setitem__") hl.typeIs slot_list_setitem
  (wpAny_call_entry slot_list_setitem hl.typeIs entry_list_setitem ?_ (args_list_setitem _ _ _)))
 show wpAny _ _ (Builtin.List.listSubscript? (.ref sl) >>= _) _ _ s;refine za ?_;unfold Builtin.List.listSubscript?;refine za (wpAny_specialOf hTs slice_no_index ?_);simp only [Option.isNone_none,if_true];refine zc ?_;show wpAny _ _ (typeOf (.ref sl) >>= _) _ _ s;refine za (wpAny_typeOf hTs ?_)
 first
  | rw [if_neg (by decide)]
  | refine PySem.W.KFB.if_not (by decide) ?_
 rw [listSliceParts_eq];refine za (za (wpAny_field hos hds (x:=.none) rfl (za (wpAny_listPart .none ?_))));rw [if_neg hstep];refine za (wpAny_field hos hds (x:=vl) rfl (za (wpAny_listPart pl ?_)));refine za (wpAny_field hos hds (x:=vu) rfl (za (wpAny_listPart pu (zc ?_))))
 first
  | simp only [hsame,Bool.false_eq_true,if_false]
  | refine PySem.W.KFB.if_not hsame ?_
  | (dsimp only
     rw [if_neg (by rw [hsame]; exact zj)])
 refine za (m:=Builtin.List.listAllItems (.ref b) "must assign iterable to extended slice") ?_;unfold Builtin.List.listAllItems;refine za (wpAny_typeOf hb.typeIs ?_)
 first
  | refine PySem.W.KFB.if_so (by decide) ?_
  | rw [if_pos (by decide)]
  | simp only [beq_self_eq_true,Bool.true_or,if_true]
 unfold Builtin.List.listItems;refine za (wpAny_seqItems e2 rfl (zc ?_));refine za (za (wpAny_seqItems e rfl (zc ?_)));refine za (wpAny_of_eq ((sliceIndices_raw (some (a:Int)) (some (c:Int)) none items.size (by simp)).trans (congrArg (pure:Int×Int×Int→Sem (Int×Int×Int)) (Qop hac hc))) ?_);show wpAny _ _ (if ((1:Int) == 1)=true then _ else _) _ _ s;rw [if_pos (by decide)];refine za (jd ?_)
 first
  | simp only [QhQ hsz,Bool.false_eq_true,if_false]
  | refine PySem.W.KFB.if_not (QhQ hsz) ?_
 first | refine za (zc ?_) | skip
 show wpAny _ _ (updateSeq l (fun xs=>xs.extract 0 ((a:Int)).toNat++new++xs.extract (max (a:Int) (c:Int)).toNat xs.size) >>= _) _ _ s;rw [hmax,Int.toNat_natCast];refine za (je (hz:=zF (jr _ _) hsz) (_hz':=hz') e rfl ?_);refine za (jm ?_)
 first
  | exact za (zc (zc ⟨.none,rfl,zc h⟩))
  | exact zc ⟨.none,rfl,zc h⟩
end
section
variable {X:Cx}
end
end L2
namespace Att
open PySem PySem.W PySem.Calls PyProof.Rows
theorem Qkc {P:Params}{h:Heap}:∀(ns:List Int) (vs:List Value),WellAll P h vs (ns.map WData.int)→IntsAre vs ns:=by
 intro ns
 induction ns with
 | nil =>
  intro vs w;rw [zY] at w;cases w;exact .nil
 | cons n ns ih =>
  intro vs w;rw [zf] at w
  cases w with
  | cons a b =>
   cases a;exact .cons _ _ (ih _ b)
theorem Qqs {l:OpenLaw}{n:Nat} (hn:l.most=some n) {P:Params}{h:Heap}{args:List WData}{vals:List Value}
  (hpre:l.row.toRowW.claim.pre args=true) (hwl:WellAll P h vals args) :
  ∃a vs ns,vals = [Value.ref a]∧args = [WData.list (ns.map WData.int)]∧h.get? a=some { cls:=.type "list",data:=.seq vs.toArray }∧IntsAre vs ns∧ns.length≤n:=by
 have hsh:WShape.hasAll [] args [.list .int]=true:=(pre_splitW hpre).1;have hc:l.pre.holds [] { args:=args }=true:=(pre_splitW hpre).2;obtain ⟨d,r,rfl,h1,h2⟩:=hasAllW_cons hsh;obtain rfl:=hasAllW_nil h2;obtain ⟨xs,rfl,h3⟩:=hasW_list h1;obtain ⟨ns,rfl⟩:=items_int h3
 have hlen:ns.length≤n:=by
  unfold OpenLaw.pre at hc
  have h4:(WTm.not (.lt (.lit (.int (n:Int))) (.len (.arg 0)))).holds [] { args:=[.list (ns.map .int)] }=true:=by
   have h4:=(holds_andW hc).1;rw [hn] at h4;exact h4
  have h5:=condW_of h4 (w_not (w_lt w_lit (w_len_list (w_arg rfl))));rw [zd] at h5
  refine Nat.le_of_not_lt fun q=>?_
  have q':(n:Int) < ((ns.length:Nat):Int):=by omega
  first
   | (rw [zq q'] at h5; exact absurd h5 (by decide))
   | (simp at h5; omega)
 cases hwl with
 | cons w1 w2 =>
  cases w2
  cases w1 with
  | list ho hall=>exact ⟨_,_,ns,rfl,rfl,ho,Qkc ns _ hall,hlen⟩
theorem QpA (l:OpenLaw) (args:List WData):l.row.toRowW.claim.post args (.bool true) args=true :=
 postW_of (r:=l.row.toRowW) (X:=(true == true))
  (show WShape.has [] (.bool true) .bool=true by first | rfl | decide | simp [WShape.has,WShape.arms,WShape.armsAll])
  (show (WTm.eq .res (.lit (.bool true))).value [] { args:=args,res:=some (.bool true),after:=args }=some (.bool (true == true)) from w_eq_bool (w_res rfl) w_lit) rfl
theorem attach_call {l:OpenLaw}{n:Nat}{q:Program}{loose:List Str}{XP:(Str→Option Value)→Heap→Prop}{YP:World→Heap→Prop}{d:DefRec}
  (hn:l.most=some n) (hdf:d.params.defaults = [])
  (call:∀(w:World) (s₀ s₁:Shared) (mg mb:Str→Option Value) (fa:Addr) (o:Obj) (pm cd doc:Value) (a:Addr) (vs:List Value) (ns:List Int),
   Ground q loose [] XP w s₀ mg mb s₁.heap→YP w s₁.heap →
   s₁.heap.get? fa=some o→o.data = .func (docDef d.name d.params d.body d.scope pm cd doc)→s₁.heap.CodeRec cd d.name→mg d.name=some (.ref fa) →
   s₁.heap.get? a=some { cls:=.type "list",data:=.seq vs.toArray }→IntsAre vs ns→ns.length≤n→s₁.gens = #[] →
   codeAny (model l.prog w) callerA (.call (.ref fa) ⟨[.ref a],[]⟩) (fun r s'=>r = .ok (.ret (.bool true))∧OldK s₁.heap s'.heap∧s'.os=s₁.os∧AllBare s'.gens) s₁) :
  WalkO q loose XP YP l.row.toRowW d [] (fun f vs=>PySem.call f vs):=by
 intro w s₀ s₁ mg mb G Y fa o pm cd doc dV kV ho hd hcd hD hmg hg args vals as hpre hlay hrd hwl hlo;obtain rfl:dV = .none:=Dflts.none hD hdf;obtain rfl:kV = .none:=Dflts.noKw hD;obtain ⟨a,vs,ns,rfl,rfl,hobj,hints,hlen⟩:=Qqs hn hpre hwl;refine enter_call (codeAny_mono (call w s₀ s₁ mg mb fa o pm cd doc a vs ns G Y ho (fd_plain hd) hcd hmg hobj hints hlen hg) fun r s' hq=>?_);obtain ⟨rfl,h2,h3,h4⟩:=hq;exact ⟨.inl ⟨.bool true,.bool true,[],rfl,fun _=>rfl,.bool true,QpA l _,fun _=>⟨List.Pairwise.nil,fun _ hm=>(nomatch hm)⟩⟩,h2,h3,h4⟩
section
variable {prog:Program}{w:World}{A:Around}{E:Value→Shared→Prop}{s:Shared}{K:Frag}
end
end Att
namespace L2
open PySem PySem.Spec PyProof.Rows
theorem QiC:∀{vs:List Value}{ns:List Int},IntsAre vs ns→Qaz (ns.map V.int) vs
 | _,_,.nil=>.nil
 | _,_,.cons n t h=>.cons ⟨t,rfl⟩ (QiC h)
def Qjx (H:Hp):Prop:=∀b,H b=none∨∃o xs,H b=some (.frz o (.lst xs))
theorem QrH {P:Program}{w:World}{K:PySem.W.Frag}{mg mb:Str→Option Value}{CX:CXT}{k:Nat}{fa a:Addr}{fd:FuncData}{x:Str}{sp:Sp}{s₁:Shared}{vs:List Value}{ns:List Int}
  (KX:K.In s₁.heap) (hns:s₁.heap.Ns mainGlobals mg) (hb:s₁.heap.Ns builtinsNs mb) (hbb:∀x:Str,x≠"__name__"→mb x=bootBuiltins x) (hlim:s₁.heap.NoLimit) (hg:s₁.gens = #[])
  (ha:s₁.heap.get? a=some { cls:=.type "list",data:=.seq vs.toArray }) (hi:IntsAre vs ns) (hl:ns.length≤sizeLine) (hr:Qa1 k callerA)
  (F:∀base:Heap,K.In base→base.Ns mainGlobals mg→Qcc P w K mg base CX k fa fd [x] sp) (hbind:∀(s:Shared) (u:Value),BindsTo s fd ⟨[u],[]⟩ [(x,u)])
  (hsp:∀H:Hp,Qjx H→SqL K H a (ns.map V.int)→sp [.ref a] H (fun v _=>v = .bl true) fun _ _ _=>False)
  (hCX:∀H e s',CX [] H s₁ (fun _ _ _=>False) e s'→False) :
  codeAny (model P w) callerA (.call (.ref fa) ⟨[.ref a],[]⟩) (fun r s'=>r = .ok (.ret (.bool true))∧OldK s₁.heap s'.heap∧s'.os=s₁.os∧AllBare s'.gens) s₁:=by
 have rv:=QiC hi;have lenV:=hi.length;have core:∀H:Hp,Qjx H→SqL K H a (ns.map V.int)→HOk P w H s₁.heap→(∀b,H b≠none→b=a)→(H a≠none→K.lookup a=none) →
   codeAny (model P w) callerA (.call (.ref fa) ⟨[.ref a],[]⟩) (fun r s'=>r = .ok (.ret (.bool true))∧OldK s₁.heap s'.heap∧s'.os=s₁.os∧AllBare s'.gens) s₁:=by
  intro H hO hS hok hA hK
  have base_of:∀{b:Addr}{o:Obj},s₁.heap.get? b=some o→H b=none→(Qen s₁.heap H).get? b=some o:=fun e n=>QmE e n
  have noA:∀{b:Addr}{o:Obj}{es:Array DictEntry}{ep:Nat},s₁.heap.get? b=some o→o.data = .dict es ep→H b=none:=fun {b o es ep} e d=>by
   cases q:H b with
   | none=>rfl
   | some u =>
    have e':b=a:=hA b (by rw [q]; simp);subst e';rw [ha] at e; cases e;have d':Data.seq vs.toArray _=Data.dict es ep:=d;cases d'
  have nsK:∀{b:Addr}{m:Str→Option Value},s₁.heap.Ns b m→(Qen s₁.heap H).Ns b m:=fun {b m} ⟨o,es,ep,e,d,r⟩=>⟨o,es,ep,base_of e (noA e d),d,r⟩
  have hKb:K.In (Qen s₁.heap H):=fun b o e=>base_of (KX b o e) (by
   cases q:H b with
   | none=>rfl
   | some u =>
    have e':b=a:=hA b (by rw [q]; simp);subst e'
    rw [hK (by rw [q]; simp)] at e; cases e)
  have hM:Mod K mg (Qen s₁.heap H):=⟨hKb,nsK hns,⟨mb,nsK hb,hbb⟩,let ⟨mc,h1,h2⟩:=hlim; ⟨mc,nsK h1,h2⟩⟩;have e0:Qgp P w K mg (Qen s₁.heap H) callerA [] s₁ H:=⟨rfl,hM,fun b o e=>QnD e,Nat.le_of_eq (Qlh _ _),trivial,fun b hb=>absurd (show b∈([]:List Addr) from hb) (by simp),hok,.of_eq hg⟩
  refine codeAny_mono ((F _ hKb (nsK hns)).run callerA [] s₁ H ⟨[.ref a],[]⟩ [.ref a] [.ref a] _ _ hr e0 (hbind s₁ (.ref a)) (.cons rfl .nil) (hsp H hO hS)) fun r s' h=>?_
  cases r with
  | error e=>exact (hCX H e s' h).elim
  | ok fl =>
   cases fl with
   | next=>exact False.elim h
   | brk=>exact False.elim h
   | cont=>exact False.elim h
   | ret u =>
    obtain ⟨v,H',os,bare,un,hok',r',q⟩:=h;have q':v = .bl true:=q;subst q';obtain rfl:u=Value.bool true:=r';refine ⟨rfl,OldK.of_keep fun b o e=>?_,os,bare⟩
    cases q:H b with
    | none=>exact un.keep b o e q (by intro z; exact absurd (show b∈([]:List Addr) from z) (by simp)) (by simp)
    | some u =>
     rcases hO b with z | ⟨ob,xs,z⟩
     ·rw [q] at z; cases z
     ·have z2:=un.frzs b ob _ z;obtain ⟨e1,_⟩:=hok b _ z;obtain ⟨e2,_⟩:=hok' b _ z2;rw [e] at e1; cases e1;exact e2
 cases hk:K.lookup a with
 | some o =>
  have e:=KX a o hk;rw [ha] at e;cases e
  refine core (fun _=>none) (fun _=>.inl rfl) (.inr ⟨_,vs.toArray,_,hk,rfl,rfl,rfl,by rw [zp,lenV]; exact hl,by simpa using rv⟩) (fun b u z=>by have z':(none:Option HO)=some u:=z; cases z') (fun b z=>absurd rfl z) fun z=>absurd rfl z
 | none =>
  refine core (fun b=>if b=a then some (.frz { cls:=.type "list",data:=.seq vs.toArray } (.lst (ns.map V.int))) else none) (fun b=>?_) (.inl (.inr ⟨{ cls:=.type "list",data:=.seq vs.toArray },if_pos rfl⟩)) (fun b u z=>?_) (fun b z=>?_) fun _=>hk
  ·by_cases hb:b=a
   ·exact .inr ⟨_,_,if_pos hb⟩
   ·exact .inl (if_neg hb)
  ·by_cases hb:b=a
   ·have z':=(if_pos hb).symm.trans z;cases z';subst hb;exact ⟨ha,by rw [zd]; exact hl,vs,_,rv,ha⟩
   ·have z':=(if_neg hb).symm.trans z;cases z'
  ·by_cases hb:b=a
   ·exact hb
   ·exact absurd (if_neg hb) z
abbrev KOf {K:PySem.W.Frag}{h:Heap} (_:K.In h):PySem.W.Frag:=K
theorem walk_of {l:PySem.W.OpenLaw}{n k:Nat}{q:Program}{loose:List Str}{XP:(Str→Option Value)→Heap→Prop}{YP:World→Heap→Prop}{d:DefRec}{K:Params→PySem.W.Frag}{CX:World→CXT}{sp:World→Sp}{x:Str}
  (hn:l.most=some n) (hn2:n≤sizeLine) (hdf:d.params.defaults = []) (hr:Qa1 k callerA)
  (hY:∀(w:World) (h:Heap),YP w h→(K w.params).In h)
  (F:∀(w:World) (mg:Str→Option Value) (fa:Addr) (h:Heap),(K w.params).In h→h.Ns mainGlobals mg→mg d.name=some (.ref fa) →
   ∃fd:FuncData,(∀(s:Shared) (u:Value),BindsTo s fd ⟨[u],[]⟩ [(x,u)]) ∧
    ∀base:Heap,(K w.params).In base→base.Ns mainGlobals mg→Qcc l.prog w (K w.params) mg base (CX w) k fa fd [x] (sp w))
  (hsp:∀(w:World) (H:Hp) (a:Addr) (ns:List Int),ns.length≤n→Qjx H→SqL (K w.params) H a (ns.map V.int)→sp w [.ref a] H (fun v _=>v = .bl true) fun _ _ _=>False)
  (hCX:∀(w:World) (H:Hp) (s:Shared) (e:Value) (s':Shared),CX w [] H s (fun _ _ _=>False) e s'→False) :
  PySem.W.WalkO q loose XP YP l.row.toRowW d [] (fun f vs=>PySem.call f vs):=by
 refine Att.attach_call hn hdf fun w s₀ s₁ mg mb fa o pm cd doc a vs ns G Y ho hd hcd hmg hobj hints hlen hg=>?_
 have KX:=hY w _ Y;obtain ⟨fd,hb,hF⟩:=F w mg fa _ KX G.T.g hmg
 exact QrH KX G.T.g G.T.b G.T.builtins G.T.nolimit hg hobj hints (zF hlen hn2) hr hF hb (fun H hO hS=>hsp w H a ns hlen hO hS) fun H e s'=>hCX w H s₁ e s'
end L2
/- THE LAST THEOREM (shape; LID,My.* are yours):
   My.Adr: a structure of the addresses that your layer names (classes,functions); My.Txt K t: a structure (Prop) of the equations over K;
   My.txt_mk:{K}{implicit addresses ..} (e1:nsIn K mainGlobals "law" = some (some (.ref f))) (e2:K.lookup f=some ⟨oc,od,.func (fnOf "law" "law" params body scope dV kV doc pm an cdv ct),sl⟩) (e3:codeIn K cdv "law" = true) ..:∃t,My.Txt K t
set_option maxRecDepth 100000 in
set_option maxHeartbeats 0 in
theorem PySem.Challenge.cw_LID_holds : PySem.Challenge.rw_LID.Holds := by
 w_on; o_law; k_head; (case hw=>w_witness2)
 k_fill
 refine L2.walk_of (l:=PySem.Challenge.rw_LID) (n:=63) (k:=40) (x:="script") (CX:=fun w=>..) (sp:=fun _=>My.sp_law) rfl (by decide) rfl ⟨rfl,by decide,by decide⟩ (fun w h Y=>PySem.W.kIn_of Y) ?F ?S ?C
 case F =>
  intro w mg fa h KX G hmg
  have T:∃t,My.Txt (L2.KOf KX) t:=by
   dsimp only [L2.KOf]                          -- K must stand as «<heap const> w.params» for k_is
   refine' My.txt_mk ?e1 ?e2 ?e3 ..
   (case e1=>PySem.W.k_is)                    -- in the order: a name -> its address -> its object -> its parts
   (case e2=>PySem.W.k_is)
   ..
  obtain ⟨t,T⟩:=T;have e0:=hmg.symm.trans (PySem.W.mg_of KX G T.law);cases e0                                       -- fa is the law's own address
  exact ⟨_,fun s u=>.of_eq rfl,fun base kb nb=>My.law_fn T kb nb⟩     -- if «.of_eq rfl» comes too early: refine' ⟨_,?b,fun base kb nb=>My.law_fn T kb nb⟩; exact fun s u=>.of_eq rfl
 case S=>exact fun w H a ns hl hO hS=>..
 case C=>exact ..
(the tactic k_is has no namespace: write k_is) -/
namespace L2
open PySem PySem.Spec PyProof.Rows
def inClass (s:Stmt) (j:Nat):Stmt:=match s with
 | .ClassDef _ _ _ body _ _ _ _ _ _ _=>body.getD j (.Pass ⟨0,0,0,0⟩)
 | _=>.Pass ⟨0,0,0,0⟩
def Qcu (s:Stmt):Arguments:=match s with
 | .FunctionDef _ a _ _ _ _ _ _ _ _=>a
 | _=>{ posonlyargs:=[],args:=[],vararg:=none,kwonlyargs:=[],kw_defaults:=[],kwarg:=none,defaults:=[] }
def QbF (s:Stmt):List Stmt:=match s with
 | .FunctionDef _ _ b _ _ _ _ _ _ _=>b
 | _=>[]
def Qam (s:Stmt):Scope:=match s with
 | .FunctionDef _ _ _ _ _ _ sc _ _ _=>sc
 | _=>{ kind:=.function,names:=[],isGenerator:=false,isCoroutine:=false }
abbrev CX0:CXT:=fun _ _ _ _ _ _=>False
abbrev E0:XK:=fun _ _ _=>False
theorem QlM {X:Cx}:Qgf CX0 X E0:=fun _ _ _ _ _ _ _ h=>h.elim
structure Fun (K:PySem.W.Frag) (x qual:Str) (st:Stmt) (f:Addr) (fd:FuncData):Prop where
 ex:∃(oc:Value) (od:Option Addr) (kV doc pm:Value) (an:Option Addr) (cdv ct:Value) (osl:Array (Option Value)),
  fd=PySem.W.fnOf x qual (Qcu st) (QbF st) (Qam st) .none kV doc pm an cdv ct∧K.lookup f=some ⟨oc,od,.func fd,osl⟩∧PySem.W.codeIn K cdv qual=true
 kp:PySem.W.keepIn K (.ref f)=true
section
variable {P:Program}{w:World}{K:PySem.W.Frag}{mg:Str→Option Value}{base:Heap}
theorem Fun.ok {x qual:Str}{st:Stmt}{f:Addr}{fd:FuncData}{N ps:List Str}{k:Nat}{sp:Sp} (F:Fun K x qual st f fd) (S:QaA N ps (Qam st)) (len:∀vs H Q E,sp vs H Q E→vs.length=ps.length)
  (hbody:∀(cdv:Value) (A:Around) (outer:List Env) (s:Shared) (H:Hp) (vs:List V) (Q:VK) (E:XK),Qa1 k (A.deeper (envOfC qual (Qam st) s.heap.objs.size f cdv))→sp vs H Q E →
   ∃t,PSs (Qgj CX0 P w K mg base N qual (Qam st) f cdv A outer s H E).nox (QbF st) t∧t { nx:=fun _ H'=>Q .non H',rt:=Q } (start N vs) H):Qcc P w K mg base CX0 (k+1) f fd ps sp:=by
 obtain ⟨oc,od,kV,doc,pm,an,cdv,ct,osl,rfl,lk,hcd⟩:=F.ex
 refine QwL lk hcd S len fun A outer s H vs Q E hr hsp=>?_
 obtain ⟨t,h,q⟩:=hbody cdv A outer s H vs Q E hr hsp;exact ⟨t,h.nox,q⟩
theorem Fun.binds {x qual:Str}{st:Stmt}{f:Addr}{fd:FuncData}{ps:List Str} (F:Fun K x qual st f fd)
  (h:∀(kV doc pm:Value) (an:Option Addr) (cdv ct:Value) (us:List Value),us.length=ps.length→bindArgs (PySem.W.fnOf x qual (Qcu st) (QbF st) (Qam st) .none kV doc pm an cdv ct) ⟨us,[]⟩=pure (ps.zip us)):Binds K fd ps []:=by
 obtain ⟨oc,od,kV,doc,pm,an,cdv,ct,osl,rfl,lk,hcd⟩:=F.ex;exact .all (h kV doc pm an cdv ct)
theorem QmW {x qual:Str}{st:Stmt}{f:Addr}{oc:Value}{od an:Option Addr}{osl:Array (Option Value)}{kV doc pm cdv ct:Value} (l:K.lookup f=some ⟨oc,od,.func (PySem.W.fnOf x qual (Qcu st) (QbF st) (Qam st) .none kV doc pm an cdv ct),osl⟩)
  (c:PySem.W.codeIn K cdv qual=true) (k:PySem.W.keepIn K (.ref f)=true):Fun K x qual st f (PySem.W.fnOf x qual (Qcu st) (QbF st) (Qam st) .none kV doc pm an cdv ct):=⟨⟨oc,od,kV,doc,pm,an,cdv,ct,osl,rfl,l,c⟩,k⟩
end
theorem Qog {A:Around}{k:Nat} (hr:Qa1 k A):A.units+1 < cLine:=Nat.lt_of_le_of_lt (Nat.add_le_add_left (by decide:1≤64) _) hr.units
section
variable {X:Cx}
end
def Same (H H':Hp):Prop:=∀b o,H b=some o→H' b=some o
theorem Same.refl (H:Hp):Same H H:=fun _ _ h=>h
theorem Same.trans {H H1 H2:Hp} (a:Same H H1) (b:Same H1 H2):Same H H2:=fun c o h=>b c o (a c o h)
theorem Same.free {H H':Hp} (e:Same H H') {l:Addr} (h:H' l=Option.none):H l=Option.none:=by
 cases q:H l with
 | none=>rfl
 | some o =>
  rw [e l o q] at h;cases h
theorem Same.seq {K:PySem.W.Frag}{H H':Hp}{a:Addr}{xs:List V} (e:Same H H') (h:SqL K H a xs):SqL K H' a xs:=by
 rcases h with (h | ⟨o,h⟩) | h
 ·exact .inl (.inl (e _ _ h))
 ·exact .inl (.inr ⟨o,e _ _ h⟩)
 ·exact .inr h
section
variable {κ:Type} [DecidableEq κ]
def Qeb (kvs:List (κ×V)) (k:κ):Option V:=(kvs.find? fun kv=>decide (kv.1=k)).map (·.2)
def putK (kvs:List (κ×V)) (k:κ) (v:V):List (κ×V) :=
 if (kvs.any fun kv=>decide (kv.1=k))=true then kvs.map (fun kv=>if kv.1=k then (kv.1,v) else kv) else kvs ++ [(k,v)]
def Qsg (kvs:List (κ×V)) (k:κ):List (κ×V):=kvs.filter fun kv=>decide (kv.1≠k)
theorem Qid {p:κ×V}{r:List (κ×V)}{k:κ} (e:p.1=k):Qeb (p::r) k=some p.2:=by simp [Qeb,List.find?_cons,e]
theorem QhZ {p:κ×V}{r:List (κ×V)}{k:κ} (e:¬p.1=k):Qeb (p::r) k=Qeb r k:=by simp [Qeb,List.find?_cons,e]
theorem Qmx (k:κ):∀kvs:List (κ×V),(kvs.any fun kv=>decide (kv.1=k))=(Qeb kvs k).isSome
 | []=>rfl
 | p::r=>by
  rw [List.any_cons]
  by_cases e:p.1=k
  ·simp only [Qid e,zq e,Bool.true_or,Option.isSome_some]
  ·rw [QhZ e,zh e,Bool.false_or]; exact Qmx k r
theorem Qjl (kvs:List (κ×V)) (k:κ) (v:V):(putK kvs k v).length≤kvs.length+1:=by
 unfold putK
 split
 ·rw [zd]; omega
 ·rw [zn,zz,zU]; omega
theorem Qc8.isSome_eq {o:Option V}{u:Option Value} (r:Qc8 o u):o.isSome=u.isSome:=by
 cases o with
 | none=>cases u with
  | none=>rfl
  | some _=>exact (show False from r).elim
 | some _=>cases u with
  | none=>exact (show False from r).elim
  | some _=>rfl
theorem Qc8.getD {o:Option V}{u:Option Value}{d:V}{d':Value} (r:Qc8 o u) (rd:RelV d d'):RelV (o.getD d) (u.getD d'):=by
 cases o with
 | none=>cases u with
  | none=>exact rd
  | some _=>exact (show False from r).elim
 | some _=>cases u with
  | none=>exact (show False from r).elim
  | some _=>exact r
theorem KV.val {kvs:List (κ×V)}{vs:List (κ×Value)} (r:KV kvs vs) (k:κ):Qc8 (Qeb kvs k) (valueAt vs k):=by
 unfold KV at r
 induction r with
 | nil=>exact True.intro
 | @cons p q ps qs h t ih =>
  obtain ⟨h1,h2⟩:=h
  by_cases e:p.1=k
  ·have e':q.1=k:=h1.symm.trans e
   have b:valueAt (q::qs) k=some q.2:=by simp [valueAt,List.find?_cons,e']
   rw [Qid e,b]; exact h2
  ·have e':¬q.1=k:=fun z=>e (h1.trans z)
   have b:valueAt (q::qs) k=valueAt qs k:=by simp [valueAt,List.find?_cons,e']
   rw [QhZ e,b]; exact ih
theorem KV.any {kvs:List (κ×V)}{vs:List (κ×Value)} (r:KV kvs vs) (k:κ):(kvs.any fun kv=>decide (kv.1=k))=vs.any fun kv=>decide (kv.1=k):=by
 unfold KV at r
 induction r with
 | nil=>rfl
 | cons h t ih=>rw [List.any_cons,List.any_cons,ih,h.1]
theorem KV.repl {kvs:List (κ×V)}{vs:List (κ×Value)} (r:KV kvs vs) (k:κ) {y:V}{u:Value} (ry:RelV y u) :
  KV (kvs.map fun kv=>if kv.1=k then (kv.1,y) else kv) (vs.map fun kv=>if kv.1=k then (kv.1,u) else kv):=by
 unfold KV at r ⊢
 induction r with
 | nil=>exact .nil
 | @cons p q ps qs h t ih =>
  rw [zf,zf];refine .cons ?_ ih;obtain ⟨h1,h2⟩:=h
  by_cases e:p.1=k
  ·rw [if_pos e,if_pos (h1.symm.trans e)]; exact ⟨h1,ry⟩
  ·rw [if_neg e,if_neg (fun z=>e (h1.trans z))]; exact ⟨h1,h2⟩
theorem KV.put {kvs:List (κ×V)}{vs:List (κ×Value)} (r:KV kvs vs) (k:κ) {y:V}{u:Value} (ry:RelV y u):KV (putK kvs k y) (stored vs k u):=by
 unfold putK stored;rw [r.any k]
 by_cases e:(vs.any fun kv=>decide (kv.1=k))=true
 ·rw [if_pos e,if_pos e]; exact r.repl k ry
 ·rw [if_neg e,if_neg e]; exact Paired.snoc r ⟨rfl,ry⟩
theorem KV.drop {kvs:List (κ×V)}{vs:List (κ×Value)} (r:KV kvs vs) (k:κ):KV (Qsg kvs k) (without vs k):=by
 unfold KV at r ⊢;unfold Qsg without
 induction r with
 | nil=>exact .nil
 | @cons p q ps qs h t ih =>
  obtain ⟨h1,h2⟩:=h;rw [List.filter_cons,List.filter_cons]
  by_cases e:p.1=k
  ·have a:¬decide (p.1≠k)=true:=by simp [e]
   have b:¬decide (q.1≠k)=true:=by simp [h1.symm.trans e]
   rw [if_neg a,if_neg b]; exact ih
  ·have e':¬q.1=k:=fun z=>e (h1.trans z)
   have a:decide (p.1≠k)=true:=by simp [e]
   have b:decide (q.1≠k)=true:=by simp [e']
   rw [if_pos a,if_pos b]; exact .cons ⟨h1,h2⟩ ih
theorem KV.keys {kvs:List (κ×V)}{vs:List (κ×Value)} (r:KV kvs vs):kvs.map (·.1)=vs.map (·.1):=by
 unfold KV at r
 induction r with
 | nil=>rfl
 | cons h t ih=>rw [zf,zf,ih,h.1]
theorem KV.length {kvs:List (κ×V)}{vs:List (κ×Value)} (r:KV kvs vs):kvs.length=vs.length:=Paired.length r
end
theorem Qon {P:Program}{w:World}{k:Key}{u:Value} (r:RelV (kV k) u):(QbX P w).is k u=true:=by
 cases k with
 | inl i=>obtain ⟨t,e⟩:=(show ∃t,u=Value.int i t from r); subst e; exact Qnk P w i t
 | inr x=>obtain ⟨t,e⟩:=(show ∃t,u=Value.str x t from r); subst e; exact Qno P w x t
theorem Qlo {P:Program}{w:World}:∀{ks:List Key}{us:List Value},Qaz (ks.map kV) us→ItemsAre (QbX P w) ks us
 | [],_,r=>by rw [zY] at r; cases r; exact .nil
 | k::ks,_,r=>by
  rw [zf] at r
  cases r with
  | cons h t=>exact .cons (Qon h) (Qlo t)
abbrev KT (H:Hp):List (List Key×V)→List (List Key×Addr×Value)→Prop:=Paired fun p q=>p.1=q.1∧H q.2.1=some (.tup (p.1.map kV))∧RelV p.2 q.2.2
theorem KT.val {H:Hp}{kvs:List (List Key×V)}{xs:List (List Key×Addr×Value)} (r:KT H kvs xs) (k:List Key):Qc8 (Qeb kvs k) ((atKey xs k).map (·.2)):=by
 induction r with
 | nil=>exact True.intro
 | @cons p q ps qs h t ih =>
  obtain ⟨h1,_,h2⟩:=h
  by_cases e:p.1=k
  ·have e':q.1=k:=h1.symm.trans e
   have b:atKey (q::qs) k=some q.2:=by simp [atKey,List.find?_cons,e']
   rw [Qid e,b]; exact h2
  ·have e':¬q.1=k:=fun z=>e (h1.trans z)
   have b:atKey (q::qs) k=atKey qs k:=by simp [atKey,List.find?_cons,e']
   rw [QhZ e,b]; exact ih
theorem KT.repl {H:Hp}{kvs:List (List Key×V)}{xs:List (List Key×Addr×Value)} (r:KT H kvs xs) (k:List Key) {y:V}{u:Value} (ry:RelV y u) :
  KT H (kvs.map fun kv=>if kv.1=k then (kv.1,y) else kv) (xs.map (putAt k u)):=by
 induction r with
 | nil=>exact .nil
 | @cons p q ps qs h t ih =>
  rw [zf,zf];refine .cons ?_ ih;obtain ⟨h1,h2,h3⟩:=h;unfold putAt
  by_cases e:p.1=k
  ·rw [if_pos e,if_pos (h1.symm.trans e)]; exact ⟨h1,h2,ry⟩
  ·rw [if_neg e,if_neg (fun z=>e (h1.trans z))]; exact ⟨h1,h2,h3⟩
theorem KT.put {H:Hp}{kvs:List (List Key×V)}{xs:List (List Key×Addr×Value)} (r:KT H kvs xs) (k:List Key) {b:Addr}{y:V}{u:Value} (hb:H b=some (.tup (k.map kV))) (ry:RelV y u) :
  KT H (putK kvs k y) (storedH xs k b u):=by
 have e:(kvs.any fun kv=>decide (kv.1=k))=(atKey xs k).isSome:=by
  rw [Qmx,(r.val k).isSome_eq,Option.isSome_map]
 unfold putK storedH;rw [e]
 by_cases q:(atKey xs k).isSome=true
 ·rw [if_pos q,if_pos q]; exact r.repl k ry
 ·rw [if_neg q,if_neg q]; exact Paired.snoc r ⟨rfl,hb,ry⟩
theorem KT.keeps {H H':Hp}{kvs:List (List Key×V)}{xs:List (List Key×Addr×Value)} (r:KT H kvs xs) (ht:∀b ys,H b=some (.tup ys)→H' b=some (.tup ys)):KT H' kvs xs :=
 Paired.mapP r fun _ _ z=>⟨z.1,ht _ _ z.2.1,z.2.2⟩
section
variable {P:Program}{w:World}{H:Hp}{h:Heap}{a:Addr}
theorem QrX {u:HO} (ok:HOk P w H h) (e:Rd H a u):Qbe P w H h a u:=e.ok ok
theorem Qo3 {kvs:List (Key×V)} (ok:HOk P w H h) (e:Rd H a (.dK kvs)):kvs.length≤sizeLine∧(a == sysModules)=false∧∃vs,KV kvs vs∧h.DictOf (QbX P w) a vs :=
 show Qbe P w H h a (.dK kvs) from QrX ok e
theorem Qw0 {kvs:List (Key×V)} (ok:HOk P w H h) (e:H a=some (.dK kvs)):kvs.length≤sizeLine∧(a == sysModules)=false∧∃vs,KV kvs vs∧h.DictOf (QbX P w) a vs:=Qo3 ok (.inl e)
theorem Qm2 {ks:List Key} (ok:HOk P w H h) (e:H a=some (.tup (ks.map kV))):(tupleKind (QbX P w)).is h ks a:=by
 obtain ⟨_,its,r,o,h1,h2,n,h3⟩:=(show Qbe P w H h a (.tup (ks.map kV)) from ok a _ e);exact ⟨o,its.toArray,n,h1,h2,h3,by simpa using Qlo r⟩
theorem Qpa {kvs:List (List Key×V)} (ok:HOk P w H h) (e:Rd H a (.dT kvs)):kvs.length≤sizeLine∧(a == sysModules)=false ∧
  ∃xs,KT H kvs xs∧h.DictOfH (tupleKind (QbX P w)) a xs:=by
 obtain ⟨z,y,xs,r,o,es,ep,h1,h2,h3,h4,h5⟩:=(show Qbe P w H h a (.dT kvs) from QrX ok e);refine ⟨z,y,xs,r,o,es,ep,h1,h2,h3,h4,fun x hx=>?_,h5⟩
 have all:∀{l:List (List Key×V)}{m:List (List Key×Addr×Value)},KT H l m→∀x∈m,(tupleKind (QbX P w)).is h x.1 x.2.1:=by
  intro l m q
  induction q with
  | nil=>intro x hx; exact nomatch hx
  | @cons p q ps qs hq t ih =>
   intro x hx
   rcases zt.mp hx with e | hx
   ·subst e;exact Qm2 ok (by rw [←hq.1]; exact hq.2.1)
   ·exact ih x hx
 exact all r x hx
theorem Qws {kvs:List (List Key×V)} (ok:HOk P w H h) (e:H a=some (.dT kvs)):kvs.length≤sizeLine∧(a == sysModules)=false ∧
  ∃xs,KT H kvs xs∧h.DictOfH (tupleKind (QbX P w)) a xs:=Qpa ok (.inl e)
end
def QiM (H:Hp) (a:Addr) (y:V) (r:Option V):Prop :=
 (∃kvs k,Rd H a (.dK kvs)∧y=kV k∧r=Qeb kvs k)∨∃kvs k b,Rd H a (.dT kvs)∧y = .ref b∧H b=some (.tup (k.map kV))∧r=Qeb kvs k
def Qju (H:Hp) (a:Addr) (y v:V) (H':Hp):Prop :=
 (∃kvs k,H a=some (.dK kvs)∧y=kV k∧kvs.length < sizeLine∧H'=upd H a (.dK (putK kvs k v))) ∨
 ∃kvs k b,H a=some (.dT kvs)∧y = .ref b∧H b=some (.tup (k.map kV))∧kvs.length < sizeLine∧H'=upd H a (.dT (putK kvs k v))
theorem QiM.k {H:Hp}{a:Addr}{kvs:List (Key×V)}{k:Key} (e:H a=some (.dK kvs)):QiM H a (kV k) (Qeb kvs k):=.inl ⟨kvs,k,.inl e,rfl,rfl⟩
theorem QiM.t {H:Hp}{a b:Addr}{kvs:List (List Key×V)}{k:List Key} (e:H a=some (.dT kvs)) (eb:H b=some (.tup (k.map kV))):QiM H a (.ref b) (Qeb kvs k):=.inr ⟨kvs,k,b,.inl e,rfl,eb,rfl⟩
theorem Qju.k {H:Hp}{a:Addr}{kvs:List (Key×V)}{k:Key}{v:V} (e:H a=some (.dK kvs)) (hl:kvs.length < sizeLine):Qju H a (kV k) v (upd H a (.dK (putK kvs k v))):=.inl ⟨kvs,k,e,rfl,hl,rfl⟩
theorem Qju.t {H:Hp}{a b:Addr}{kvs:List (List Key×V)}{k:List Key}{v:V} (e:H a=some (.dT kvs)) (eb:H b=some (.tup (k.map kV))) (hl:kvs.length < sizeLine) :
  Qju H a (.ref b) v (upd H a (.dT (putK kvs k v))):=.inr ⟨kvs,k,b,e,rfl,eb,hl,rfl⟩
section
variable {X:Cx}{pins:List (Addr×Obj)}{σ:St}{H:Hp}{s:Shared}{a:Addr}{y v:V}{u r:Value}{o:Option V}{A:Around}{E:Value→Shared→Prop}
theorem Inv.big (I:Inv X pins σ H s):sysModules < s.heap.objs.size:=by
 have h:mainGlobals < s.heap.objs.size:=(I.mod.glob.keeps I.bk).lt;exact Nat.lt_trans (by decide) h
theorem QpI {Q:Value→Shared→Prop} (hu:A.units+1 < cLine) (I:Inv X pins σ H s) (g:QiM H a y (some v)) (ry:RelV y u) (h:∀w' s',Inv X pins σ H s'→RelV v w'→Q w' s') :
  wpAny (model X.prog X.w) A (getItem (.ref a) u) Q E s:=by
 rcases g with ⟨kvs,k,e,ey,l⟩ | ⟨kvs,k,b,e,ey,eb,l⟩
 ·subst ey;obtain ⟨z,hd,vs,rel,dd⟩:=Qo3 I.hok e;obtain ⟨w',hw,rw'⟩:=Qc8.some_of (v:=v) (o:=valueAt vs k) (by rw [l]; exact rel.val k);exact wpAny_getItem_of (Qon ry) dd.mapOf hw (h w' _ (I.tok _) rw')
 ·subst ey;cases (show u=Value.ref b from ry);obtain ⟨z,hd,xs,rel,dd⟩:=Qpa I.hok e;obtain ⟨w',hw,rw'⟩:=Qc8.some_of (v:=v) (o:=(atKey xs k).map (·.2)) (by rw [l]; exact rel.val k);obtain ⟨p,hp,hp2⟩:=Option.map_eq_some_iff.mp hw;refine wpAny_getItem_heap (tupleKind_room_in1 hu) (Qm2 I.hok eb) dd hp ?_;rw [hp2];exact h w' _ (I.tok _) rw'
theorem QnC {h':Heap}{t':Nat}{ob:HO} (I:Inv X pins σ H s) (mu:Mut (H a)) (hs:Heap.SameBut a s.heap h') (he:∃q,h'.get? a=some q) (new:Qbe X.prog X.w (upd H a ob) h' a ob) :
  Inv X pins σ (upd H a ob) { s with heap:=h',toks:=t' } :=
 I.write (x:=a) (e:=a) mu (.inl rfl) (fun b q hb z=>(hs.2 b hb).trans z) he new
theorem QvC {P:Program}{w:World}{H':Hp}{h':Heap}{kvs:List (Key×V)}{vs:List (Key×Value)} (z:kvs.length≤sizeLine) (hd:(a == sysModules)=false) (rel:KV kvs vs) (dd:h'.DictOf (QbX P w) a vs) :
  Qbe P w H' h' a (.dK kvs):=⟨z,hd,vs,rel,dd⟩
theorem Qp8 {H':Hp}{Q:Unit→Shared→Prop} (hu:A.units+1 < cLine) (I:Inv X pins σ H s) (g:Qju H a y v H') (ry:RelV y u) (rv:RelV v r) (h:∀s',Inv X pins σ H' s'→Q () s') :
  wpAny (model X.prog X.w) A (setItem (.ref a) u r) Q E s:=by
 rcases g with ⟨kvs,k,e,ey,l,eH⟩ | ⟨kvs,k,b,e,ey,eb,l,eH⟩
 ·subst ey eH;obtain ⟨z,hd,vs,rel,dd⟩:=Qw0 I.hok e
  have hz:vs.length≤sizeLine:=by rw [←rel.length]; exact z
  have hl:(putK kvs k v).length≤sizeLine:=by have:=Qjl kvs k v; omega
  refine wpAny_setItem_pairs (hsz:=hz) (Qon ry) dd fun h' dd' hs=>h _ ?_
  have he:∃q,h'.get? a=some q:=let ⟨q,_,_,hq,_⟩:=dd'; ⟨q,hq⟩;exact QnC I (by rw [e]; exact True.intro) hs he (QvC hl hd (rel.put k rv) dd')
 ·subst ey eH;cases (show u=Value.ref b from ry);obtain ⟨z,hd,xs,rel,dd⟩:=Qws I.hok e
  have hz:xs.length≤sizeLine:=by rw [←Paired.length rel]; exact z
  have hl:(putK kvs k v).length≤sizeLine:=by have:=Qjl kvs k v; omega
  refine wpAny_setItem_heap (hsz:=hz) (tupleKind_room_in1 hu) (Qm2 I.hok eb) dd fun h' dd' hs=>h _ ?_
  obtain ⟨q,es,ep,hq,h2,h3,h4,_,h5⟩:=dd';refine QnC I (by rw [e]; exact True.intro) hs ⟨q,hq⟩ ⟨hl,hd,_,(rel.put k eb rv).keeps fun c ys ec=>?_,q,es,ep,hq,h2,h3,h4,h5⟩;rw [Qar (ne_of ec e (fun z=>nomatch z))];exact ec
end
section
variable {X:Cx}{pins:List (Addr×Obj)}{σ:St}{H:Hp}{s:Shared}{a:Addr}{kvs:List (Key×V)}{k:Key}{u:Value}{A:Around}{E:Value→Shared→Prop}
end
def QuW (i:Expr):Prop:=∀ov iv,subscripted i false ov iv=operate [ov,iv] (getItem ov iv)
theorem Qtq {prog:Program}{w:World}{A:Around}{E:Value→Shared→Prop}{s:Shared}{env:Env}{value slice:Expr}{pos:Pos}{T id:String}{Q:Value→Shared→Prop}
  (hl:typeLookup (.type T) "__getitem__" = pure (some (.builtin id))) (hs:QuW slice)
  (h:wpAny (model prog w) A (eval value env) (fun o s₁=>wpAny (model prog w) A (eval slice env) (fun i s₂=>s₂.TypeIs o T∧wpAny (model prog w) A (getItem o i) Q E s₂) E s₁) E s) :
  wpAny (model prog w) A (eval (.Subscript value slice pos) env) Q E s:=by
 refine Subscript_ (zN h (fun o s₁ h₁=>zN h₁ (fun i s₂ h₂=>?_) fun _ _ x=>x) fun _ _ x=>x);obtain ⟨hT,h₂⟩:=h₂;unfold subscriptTail;refine za ?_;rw [getitemInPython_of_ne hT.not_modules];refine za (wpAny_specialOf hT hl ?_)
 have fin:wpAny (model prog w) A (subscripted slice false o i) (fun r s₃=>wpAny (model prog w) A (letTemporaryGo value o r >>= fun _=>pure r) Q E s₃) E s₂:=by
  rw [hs o i];exact wpAny_operating (zN h₂ (fun r s₃ h₃=>za (wpAny_letTemporaryGo (zc h₃))) fun _ _ x=>x)
 first
  | exact zc (za fin)
  | exact za (zc (za fin))
  | exact za fin
theorem Qnh {X:Cx}{pins:List (Addr×Obj)}{σ:St}{H:Hp}{s:Shared}{a:Addr}{y:V}{o:Option V} (I:Inv X pins σ H s) (g:QiM H a y o):s.TypeIs (.ref a) "dict":=by
 rcases g with ⟨kvs,k,e,_,_⟩ | ⟨kvs,k,b,e,_,_,_⟩
 ·obtain ⟨_,_,vs,_,dd⟩:=Qo3 I.hok e;exact dd.typeIs
 ·obtain ⟨_,_,xs,_,dd⟩:=Qpa I.hok e;exact dd.typeIs
def Qv7 (td ty:TE):TE:=fun σ H Q=>td σ H fun x H1=>ty σ H1 fun y H2=>∃a v,x = .ref a∧QiM H2 a y (some v)∧Q v H2
def Qv8 (td ty tv:TE):TS:=fun D σ H=>tv σ H fun v H1=>td σ H1 fun x H2=>ty σ H2 fun y H3=>∃a H4,x = .ref a∧Qju H3 a y v H4∧D.nx σ H4
section
variable {X:Cx}{o i e value:Expr}{pos pos' tpos:Pos}{td ty tv:TE}
theorem Qn5 (hu:X.A.units+1 < cLine) (ho:PE X o td) (hi:PE X i ty) (hs:QuW i):PE X (.Subscript o i pos) (Qv7 td ty):=by
 intro pins s σ H Q I h;refine Qtq PySem.F.slot_dict_getitem.lookup hs (thn (ho pins s σ H _ I h) fun u s1 ⟨x,H1,I1,rx,q1⟩=>thn (hi pins s1 σ H1 _ I1 q1) fun iv s2 ⟨y,H2,I2,ry,a,v,ex,g,q2⟩=>?_);subst ex;obtain rfl:u=Value.ref a:=rx;exact ⟨Qnh I2 g,QpI hu I2 g ry fun w' s3 I3 rw'=>⟨v,H2,I3,rw',q2⟩⟩
theorem Qsz (hu:X.A.units+1 < cLine) (ho:PE X o td) (hi:PE X i ty) (hv:PE X value tv) (hs:swapsWith value (some (.Subscript o i pos')) pos.line X.env=pure false) :
  PS X (.Assign [.Subscript o i pos'] value pos) (Qv8 td ty tv):=by
 intro pins s σ H D I h;refine wpAny_Assign_Subscript (thn (hv pins s σ H _ I h) fun r s1 ⟨v,H1,I1,rv,q1⟩=>thn (ho pins s1 σ H1 _ I1 q1) fun u s2 ⟨x,H2,I2,rx,q2⟩=>thn (hi pins s2 σ H2 _ I2 q2) fun iv s3 ⟨y,H3,I3,ry,a,H4,ex,g,q3⟩=>?_) hs;subst ex;obtain rfl:u=Value.ref a:=rx
 exact Qp8 hu I3 g ry rv fun s4 I4=>⟨σ,H4,I4,q3⟩
end
theorem Qrx {P:Program}{w:World}{H:Hp} (h:Heap) (hb:sysModules < h.objs.size):Qbe P w H (h.push { cls:=.type "dict",data:=.dict #[] }) h.objs.size (.dT []) :=
 ⟨Nat.zero_le _,beq_eq_false_iff_ne.mpr (Ne.symm (zv hb)),[],.nil,_,#[],0,zA _ rfl,⟨rfl,rfl,rfl⟩,rfl,rfl,List.nodup_nil⟩
def Qvd:TE:=fun _ H Q=>∀p,H p=none→Q (.ref p) (upd H p (.dT []))
section
variable {X:Cx}{pos:Pos}
theorem QqK:PE X (.Dict [] [] pos) Qvd:=fun pins s σ H Q I h =>
 wpAny_Dict_empty ⟨.ref s.heap.objs.size,_,I.laid (a:=s.heap.objs.size) (o:=.dT []) (t':=s.toks) (fun _ _ q=>zl _ q) (ze _) (Qrx s.heap I.big),rfl,h _ (I.hok.fresh (ze _))⟩
end
def QlY:List (TE×TE)→St→Hp→(List (V×V)→Hp→Prop)→Prop
 | [],_,H,Q=>Q [] H
 | (tk,tv)::r,σ,H,Q=>tk σ H fun x H1=>tv σ H1 fun y H2=>QlY r σ H2 fun ps H3=>Q ((x,y)::ps) H3
abbrev VV:List (V×V)→List (Value×Value)→Prop:=Paired fun p q=>RelV p.1 q.1∧RelV p.2 q.2
def PPs (X:Cx) (pos:Pos) (keys:List (Option Expr)) (values:List Expr) (trs:List (TE×TE)):Prop :=
 ∀(pins:List (Addr×Obj)) (s:Shared) (σ:St) (H:Hp) (Q:List (V×V)→Hp→Prop),Inv X pins σ H s→QlY trs σ H Q →
  wpAny (model X.prog X.w) X.A (evalPairs (pairTrees keys values X.env pos)) (fun vs s'=>∃ps H',Inv X pins σ H' s'∧VV ps vs∧Q ps H') X.xe s
structure M1 (X:Cx) (o:Expr) (m:Str) (apos:Pos) (e:Expr) (cpos:Pos):Prop where
 base:attributeBase o m X.env (eval o X.env)=eval o X.env
 few:((backTo cpos (starEach [e] X.env)).all (fun x=>!x.1)&&(backToKw cpos (keywordEach [] X.env)).all (fun x=>x.1.isSome)
  && decide (([e]:List Expr).length+([]:List Keyword).length+(if ([]:List Keyword).isEmpty then 0 else 1) < 30))=true
 line:(apos.endLine == cpos.line)=true
 trees:backTo cpos (starEach [e] X.env) = [(false,eval e X.env)]
structure M2 (X:Cx) (o:Expr) (m:Str) (apos:Pos) (e f:Expr) (cpos:Pos):Prop where
 base:attributeBase o m X.env (eval o X.env)=eval o X.env
 few:((backTo cpos (starEach [e,f] X.env)).all (fun x=>!x.1)&&(backToKw cpos (keywordEach [] X.env)).all (fun x=>x.1.isSome)
  && decide (([e,f]:List Expr).length+([]:List Keyword).length+(if ([]:List Keyword).isEmpty then 0 else 1) < 30))=true
 line:(apos.endLine == cpos.line)=true
 trees:backTo cpos (starEach [e,f] X.env) = [(false,eval e X.env),(false,eval f X.env)]
section
variable {X:Cx}{pins:List (Addr×Obj)}{σ:St}{H:Hp}{s:Shared}{a:Addr}{y d:V}{u r:Value}{o:Option V}{A:Around}{E:Value→Shared→Prop}
end
section
variable {X:Cx}{o e f:Expr}{apos cpos:Pos}{td ty tx:TE}
end
section
variable {X:Cx}{pins:List (Addr×Obj)}{σ:St}{H:Hp}{s:Shared}{a:Addr}{kvs:List (Key×V)}{A:Around}{E:Value→Shared→Prop}
end
section
variable {X:Cx}{pins:List (Addr×Obj)}{σ:St}{H:Hp}{s:Shared}{a:Addr}{y:V}{u:Value}{A:Around}{E:Value→Shared→Prop}
end
section
variable {X:Cx}
end
section
variable {κ:Type} [DecidableEq κ]
end
def Qeo (cells:List (Str×Addr)):List (Str×NameKind)→List (Str×Addr)→List (Str×Addr)
 | [],acc=>acc
 | (n,k)::r,acc=>if k == .free then Qeo cells r ((n,(cells.lookup n).getD 0)::acc) else Qeo cells r acc
def Qfo (scope:Scope) (env:Env):List (Str×Addr):=Qeo env.cells scope.names []
theorem Qii {scope:Scope}{env:Env} (hf:∀y∈scope.names,y.2 = .free→∃c,env.cells.lookup y.1=some c):closureFor scope env=pure (Qfo scope env):=by
 simp only [closureFor,Qfo]
 generalize ([]:List (Str×Addr))=acc
 generalize scope.names=names at hf
 induction names generalizing acc with
 | nil=>rfl
 | cons y r ih =>
  obtain ⟨n,k⟩:=y
  have hr:=fun a=>ih a fun z hz=>hf z (zx _ hz)
  by_cases hk:k = .free
  ·obtain ⟨c,hc⟩:=hf (n,k) zm hk;have hc':env.cells.lookup n=some c:=hc;subst hk;simp only [List.forIn_cons,beq_self_eq_true,if_true,cellOf,hc',pure_bind,bind_assoc,Qeo,Option.getD_some];exact hr _
  ·have hb:(k == NameKind.free)=false:=by simpa using hk
   simp only [List.forIn_cons,hb,Bool.false_eq_true,if_false,pure_bind,bind_assoc,Qeo];exact hr _
theorem QgM {cells:List (Str×Addr)}{x:Str}{c:Addr}:∀{names:List (Str×NameKind)}{acc:List (Str×Addr)},(Qeo cells names acc).lookup x=some c→acc.lookup x=some c∨(∃k,(x,k)∈names∧k = .free∧(cells.lookup x).getD 0=c)
 | [],acc,h=>.inl h
 | (n,k)::r,acc,h=>by
  unfold Qeo at h
  by_cases hk:k = .free
  ·subst hk;simp only [beq_self_eq_true,if_true] at h
   rcases QgM h with z | ⟨k,hm,q⟩
   ·rw [List.lookup_cons] at z
    by_cases hx:x=n
    ·subst hx;simp at z;exact .inr ⟨.free,zm,rfl,z⟩
    ·have hb:(x == n)=false:=by simpa using hx
     rw [hb] at z;exact .inl z
   ·exact .inr ⟨k,zx _ hm,q⟩
  ·have hb:(k == NameKind.free)=false:=by simpa using hk
   simp only [hb,Bool.false_eq_true,if_false] at h
   rcases QgM h with z | ⟨k,hm,q⟩
   ·exact .inl z
   ·exact .inr ⟨k,zx _ hm,q⟩
theorem QfR {cells:List (Str×Addr)}{x:Str}:∀{names:List (Str×NameKind)}{acc:List (Str×Addr)},((∃c,acc.lookup x=some c)∨(x,NameKind.free)∈names)→∃c,(Qeo cells names acc).lookup x=some c
 | [],acc,h=>by
  rcases h with h | h
  ·exact h
  ·cases h
 | (n,k)::r,acc,h=>by
  unfold Qeo
  by_cases hk:k = .free
  ·subst hk;simp only [beq_self_eq_true,if_true];refine QfR ?_
   by_cases hx:x=n
   ·subst hx;exact .inl ⟨(cells.lookup x).getD 0,by simp [List.lookup_cons]⟩
   ·have hb:(x == n)=false:=by simpa using hx
    rcases h with ⟨c,h⟩ | h
    ·exact .inl ⟨c,by rw [List.lookup_cons,hb]; exact h⟩
    ·rcases zt.mp h with e | h
     ·cases e; exact absurd rfl hx
     ·exact .inr h
  ·have hb:(k == NameKind.free)=false:=by simpa using hk
   simp only [hb,Bool.false_eq_true,if_false];refine QfR ?_
   rcases h with h | h
   ·exact .inl h
   ·rcases zt.mp h with e | h
    ·cases e; exact absurd rfl hk
    ·exact .inr h
def QcD (scope sc0:Scope):List (Str×NameKind) :=
 scope.names.map fun (n,k)=>if (k == .free&&sc0.kind == .function&&sc0.names.lookup n == some .cell) then (n,.cell) else (n,k)
theorem Qjm {scope sc0:Scope} (hc:∀y∈scope.names,y.2≠.cell) {x:Str}{k:NameKind} (h:(QcD scope sc0).lookup x=some k) (hk:k = .cell∨k = .free):(x,NameKind.free)∈scope.names:=by
 have hm:=PySem.mem_of_lookup h;unfold QcD at hm;obtain ⟨⟨n,k0⟩,h1,h2⟩:=zG.mp hm;dsimp only at h2
 by_cases hb:(k0 == NameKind.free&&sc0.kind == .function&&sc0.names.lookup n == some .cell)=true
 ·rw [if_pos hb] at h2
  have e:k0 = .free:=by
   simp only [zr,beq_iff_eq] at hb;exact hb.1.1
  cases h2;rw [←e]; exact h1
 ·rw [if_neg hb] at h2;cases h2
  rcases hk with e | e
  ·exact absurd e (hc _ h1)
  ·rw [←e]; exact h1
def QaT (N0 own:List Str) (cap:List Nat):List Str:=own++cap.map fun j=>N0.getD j (Str.ofString "")
def compSt (own:List Str) (cap:List Nat) (σ:St):St:=own.map (fun _=>none)++cap.map fun j=>(σ[j]?).join
def Qg9 (sc0:Scope) (N0:List Str) (scope:Scope) (own:List Str) (cap:List Nat):Bool :=
 (scope.kind == .function)&&scope.names.all (fun y=>y.2 != .cell)&&scope.names.all (fun y=>y.2 != .local || scope.names.lookup y.1 == some .local) &&
 scope.names.all (fun y=>y.2 != .free || sc0.names.lookup y.1 == some .cell || sc0.names.lookup y.1 == some .free) &&
 cap.all fun j=>decide (j < N0.length)&&scope.names.contains (N0.getD j (Str.ofString ""),NameKind.free)&&((QcD scope sc0).lookup (N0.getD j (Str.ofString "")) == some .cell || (QcD scope sc0).lookup (N0.getD j (Str.ofString "")) == some .free)
structure Qef (sc0:Scope) (N0:List Str) (scope:Scope) (own:List Str) (cap:List Nat):Prop where
 kind:scope.kind = .function
 nocell:∀y∈scope.names,y.2≠.cell
 names:∀y∈scope.names,y.2 = .local→scope.names.lookup y.1=some .local
 free:∀y∈scope.names,y.2 = .free→sc0.names.lookup y.1=some .cell∨sc0.names.lookup y.1=some .free
 cap:∀j∈cap,j < N0.length∧(N0.getD j (Str.ofString ""),NameKind.free)∈scope.names∧((QcD scope sc0).lookup (N0.getD j (Str.ofString ""))=some .cell∨(QcD scope sc0).lookup (N0.getD j (Str.ofString ""))=some .free)
theorem Qef.of {sc0:Scope}{N0:List Str}{scope:Scope}{own:List Str}{cap:List Nat} (h:Qg9 sc0 N0 scope own cap=true):Qef sc0 N0 scope own cap:=by
 unfold Qg9 at h;simp only [zr,List.all_eq_true,beq_iff_eq,bne_iff_ne,ne_eq,Bool.or_eq_true,decide_eq_true_eq,List.contains_iff_mem] at h;obtain ⟨⟨⟨⟨h1,h2⟩,h3⟩,h4⟩,h5⟩:=h;refine ⟨h1,h2,fun y hy e=>?_,fun y hy e=>?_,fun j hj=>?_⟩
 ·rcases h3 y hy with z | z
  ·exact absurd e z
  ·exact z
 ·rcases h4 y hy with (z | z) | z
  ·exact absurd e z
  ·exact .inl z
  ·exact .inr z
 ·obtain ⟨⟨a,b⟩,c⟩:=h5 j hj;exact ⟨a,b,c⟩
def Qa8 (X:Cx) (scope:Scope) (C:Addr) (N':List Str) (s:Shared) (H:Hp) (ex:List Addr):Cx where
 prog:=X.prog
 w:=X.w
 K:=X.K
 mg:=X.mg
 base:=X.base
 A:=X.A
 N:=N'
 s₀:=s
 H₀:=H
 env:=compEnvC scope (Qfo scope X.env) C X.env
 outer:=X.stack
 stack:=X.stack
 ex:=ex
 fn:=fun _=>false
 calm:=X.calm
 pn:=[]
 xe:=fun _ _=>False
section
variable {X:Cx}
def QiN (X:Cx) (ifs:List Expr) (t:TT):Prop :=
 ∀(pins:List (Addr×Obj)) (s:Shared) (σ:St) (H:Hp) (Q:Bool→Hp→Prop),Inv X pins σ H s→t σ H Q →
  wpAny (model X.prog X.w) X.A (forIn ifs true fun c r=>if r=true then do let ok ←isTrue c X.env (eval c X.env); pure (ForInStep.yield ok) else pure (ForInStep.yield r)) (TP X pins σ Q) X.xe s
def QxI:TT:=fun _ H Q=>Q true H
theorem QqT:QiN X [] QxI:=fun _ _ _ H _ I h=>wpAny_tests_nil ⟨H,I,h⟩
theorem Qrt {c:Expr}{t:TT} (h:PT X c t):QiN X [c] t:=fun pins s σ H Q I q=>wpAny_tests_one (h pins s σ H Q I q)
end
def Qsd (J:It) (g:TG) (tt:TT) (te:TE) (Q:List V→Hp→Prop) (σ0:St) (H1:Hp):Prop :=
 ∃W:Nat→Nat→List V→St→Hp→Prop,(∃m,W 0 m [] σ0 H1)∧∀i m ys σ H,W i m ys σ H →
  (J.stop i H∧Q ys H)∨(J.go i H∧ys.length < sizeLine∧∃N:List V→St→Hp→Prop,(∀ys σ' H',N ys σ' H'→∃m',m' < m∧W (i+1) m' ys σ' H')∧∀x H',J.yld i H x H'→g x σ H' fun σ2 H2=>tt σ2 H2 fun b H3 =>
   if b=true then te σ2 H3 fun y H4=>N (ys ++ [y]) σ2 H4 else N ys σ2 H3)
def Qok (wi:TI) (own:List Str) (cap:List Nat) (g:TG) (tt:TT) (te:TE):TE:=fun σ H Q =>
 wi σ H fun J H1=>Qsd J g tt te (fun ys H'=>ys.length≤sizeLine∧∀p,H' p=none→Q (.ref p) (upd H' p (.lst ys))) (compSt own cap σ) H1
section
variable {prog:Program}{w:World}{A:Around}{R:Result→Shared→Prop}{s:Shared}
theorem Qik {elt target iter:Expr}{ifs:List Expr}{scope:Scope}{pos:Pos}{it acc:Value}{env:Env} (I:Nat→Shared→Prop)
  (turn:∀n s,I n s→wpAny (model prog w) A (pyNext it) (fun r s₁=>match r with
   | none=>R (.ok .next) s₁
   | some v=>wpAny (model prog w) A (letOwnedTupleGo target it v) (fun _ s₁'=>wpAny (model prog w) A (assign target env v) (fun _ s₂ =>
     wpAny (model prog w) A (forIn ifs true fun c r=>if r=true then do let ok ←isTrue c env (eval c env); pure (ForInStep.yield ok) else pure (ForInStep.yield r)) (fun ok s₃ =>
      if ok=true then wpAny (model prog w) A (eval elt env) (fun x s₄ =>
       wpAny (model prog w) A (call (.builtin "list.append") [acc,x]) (fun _ s₅=>∃m,m < n∧I m s₅) (fun _ _=>False) s₄) (fun _ _=>False) s₃
      else ∃m,m < n∧I m s₃) (fun _ _=>False) s₂) (fun _ _=>False) s₁') (fun _ _=>False) s₁) (fun _ _=>False) s)
  (n:Nat) (h:I n s) :
  codeAny (model prog w) A (.compLoop (.ListComp elt [⟨target,iter,ifs,0⟩] scope pos) 0 it acc env) R s:=by
 refine codeAny_loop rfl I (fun n s hI=>?_) n h;show wpAny _ A ((compTurn (.ListComp elt [⟨target,iter,ifs,0⟩] scope pos) 0 it acc env).onRaise (fun x=>do noteFrame x env; theTreesLotGoes x)) _ _ s;refine wpAny_noted ?_;rw [compTurn_list];refine za (wpAny_standAt (za (zN (turn n s hI) (fun r s₁ h₁=>?_) fun _ _ h'=>h'.elim)))
 cases r with
 | none=>exact zc h₁
 | some v =>
  refine za (zN h₁ (fun _ s₁' h₁'=>?_) fun _ _ h'=>h'.elim);refine za (zN h₁' (fun _ s₂ h₂=>za (zN h₂ (fun ok s₃ h₃=>?_) fun _ _ h'=>h'.elim)) fun _ _ h'=>h'.elim)
  cases ok with
  | false=>exact zc ⟨rfl,h₃⟩
  | true =>
   exact za (za (zN h₃ (fun x s₄ h₄=>za (zN h₄ (fun _ s₅ h₅=>zc (zc ⟨rfl,h₅⟩)) fun _ _ h'=>h'.elim)) fun _ _ h'=>h'.elim))
end
section
variable {X:Cx}{pins:List (Addr×Obj)}{σ:St}{s2:Shared}{H2:Hp}{elt tg iter:Expr}{ifs:List Expr}{scope:Scope}{pos:Pos}{g:TG}{tt:TT}{te:TE}{sc0:Scope}{N0 own:List Str}{cap:List Nat}
 {it:Addr}{fp:List Addr}{tn:Nat→Heap→Prop}{J:It}
theorem QjF (I2:Inv X pins σ H2 s2) (hsc:X.env.scope=sc0) (ok:Qef sc0 N0 scope own cap):∀y∈scope.names,y.2 = .free→∃c,X.env.cells.lookup y.1=some c:=fun y hy e=>by
 refine I2.ok.has y.1 ?_;have q:=ok.free y hy e;rw [←hsc] at q;exact q
theorem Qcj (I2:Inv X pins σ H2 s2) (hsc:X.env.scope=sc0) (ok:Qef sc0 N0 scope own cap) {x:Str}{c:Addr} (h:(Qfo scope X.env).lookup x=some c):X.env.cells.lookup x=some c:=by
 rcases QgM h with z | ⟨k,hm,hk,q⟩
 ·simp at z
 ·obtain ⟨c',e⟩:=QjF I2 hsc ok (x,k) hm hk;have e':X.env.cells.lookup x=some c':=e;rw [e'] at q;rw [e',←q]; rfl
theorem Qqc (I2:Inv X pins σ H2 s2) (hsc:X.env.scope=sc0) (ok:Qef sc0 N0 scope own cap) (T:Turn X.prog X.w X.K tg J fp it tn) (st2:tn 0 s2.heap) (f2:∀b∈fp,Qfx X pins H2 b)
  (C:Addr) (hC:s2.heap.objs.size≤C):(Qa8 X scope C (QaT N0 own cap) s2 H2 fp).Ok:=by
 have lt:∀b∈fp,b < s2.heap.objs.size:=fun b hb=>by
  obtain ⟨o,e,_⟩:=T.obj 0 _ st2 b hb;exact zg e
 have rel:(relabel scope X.env).names=QcD scope sc0:=by rw [←hsc]; rfl
 refine ⟨I2.ok.mod,ok.kind,I2.ok.glob,I2.ok.blt,hC,fun x y c h1 h2=>?_,fun x hx=>?_,fun x c hf _=>absurd hf (by simp [Qa8]),I2.ok.hd,I2.ok.frames,.inl rfl,fun b hb=>⟨?_,fun x c h=>?_⟩,I2.bs,zF I2.ok.bsz I2.sz,
  fun b o e hb=>?_,fun b hb hz=>?_,I2.stack,I2.stkFree⟩
 ·exact I2.ok.inj x y c (Qcj I2 hsc ok h1) (Qcj I2 hsc ok h2)
 ·have hx':(QcD scope sc0).lookup x=some .cell∨(QcD scope sc0).lookup x=some .free:=by rw [←rel]; exact hx
  have hm:(x,NameKind.free)∈scope.names:=by
   rcases hx' with q | q
   ·exact Qjm ok.nocell q (.inl rfl)
   ·exact Qjm ok.nocell q (.inr rfl)
  exact QfR (.inr hm)
 ·exact zv (zE (lt b hb) hC)
 ·exact (f2 b hb).2.2.2.2.1 x c (Qcj I2 hsc ok h)
 ·rcases (f2 b hb).2.2.2.1 with z | z
  ·exact I2.ok.noex b o e z
  ·exact absurd (zE (zg e) (zF I2.ok.bsz z)) (zV _)
 ·rcases zt.mp (I2.stkSub b hz) with z | z
  ·exact (f2 b hb).2.1 z
  ·exact (f2 b hb).2.2.1 z
theorem QrE (I2:Inv X pins σ H2 s2) (hsc:X.env.scope=sc0) (hN0:X.N=N0) (ok:Qef sc0 N0 scope own cap) (T:Turn X.prog X.w X.K tg J fp it tn) (st2:tn 0 s2.heap) (f2:∀b∈fp,Qfx X pins H2 b)
  (C:Addr) (hC:s2.heap.objs.size≤C) {h₁:Heap}{tk:Nat}{m:Str→Option Value} (old:∀b o,s2.heap.get? b=some o→h₁.get? b=some o) (hns:h₁.Ns C m) :
  Inv (Qa8 X scope C (QaT N0 own cap) s2 H2 fp) [] (compSt own cap σ) H2 { s2 with heap:=h₁,toks:=tk }:=by
 have rel:(relabel scope X.env).names=QcD scope sc0:=by rw [←hsc]; rfl
 refine ⟨Qqc I2 hsc ok T st2 f2 C hC,rfl,I2.bare,Un.kept old,⟨m,hns,fun i x v e1 e2 _=>?_⟩,fun x c h=>?_,I2.hok.fresh hC,fun x c h=>?_,fun p hp=>absurd (show p∈([]:List (Addr×Obj)) from hp) (by simp),I2.hok.kept old,?_⟩
 ·have e1':(QaT N0 own cap)[i]? = some x:=e1;unfold QaT at e1';unfold compSt at e2
  by_cases hi:i < own.length
  ·rw [zB (by simpa using hi),zD] at e2
   cases q:own[i]? with
   | none=>rw [q] at e2; cases e2
   | some z=>rw [q] at e2; cases e2
  ·rw [zL (by simpa using hi),zD] at e2;rw [zL (by simpa using hi),zD] at e1';rw [zd] at e2
   cases q:cap[i - own.length]? with
   | none=>rw [q] at e2; cases e2
   | some j =>
    rw [q] at e1' e2;have ex:N0.getD j (Str.ofString "")=x:=zH e1';have ev:(σ[j]?).join=some v:=zH e2;obtain ⟨hj,hm,hk⟩:=ok.cap j (zQ q);rw [ex] at hm hk
    have eN:X.N[j]? = some x:=by
     rw [hN0,zo hj];rw [jf,zo hj] at ex;exact congrArg some ex
    have eσ:σ[j]? = some (some v):=by
     cases z:σ[j]? with
     | none=>rw [z] at ev; cases ev
     | some o=>rw [z] at ev; cases o with
      | none=>cases ev
      | some y=>exact congrArg some ev
    have kf:X.env.kindOf x=some .cell∨X.env.kindOf x=some .free:=by
     have z:=ok.free _ hm rfl;rw [←hsc] at z;exact z
    obtain ⟨m0,hn0,hl⟩:=I2.loc;obtain ⟨u,r,l⟩:=hl j x v eN eσ (kf.elim (fun z=>.inr (.inl z)) fun z=>.inr (.inr z));refine ⟨u,r,.inr ⟨?_,?_⟩⟩
    ·show (relabel scope X.env).names.lookup x=_∨(relabel scope X.env).names.lookup x=_;rw [rel]; exact hk
    ·rcases l with ⟨l,_⟩ | ⟨_,c,hc,⟨o,ho,hd⟩⟩
     ·rcases kf with z | z <;> (rw [z] at l; cases l)
     ·obtain ⟨c',hc'⟩:=QfR (cells:=X.env.cells) (names:=scope.names) (acc:=[]) (.inr hm);have z:=Qcj I2 hsc ok hc';rw [hc] at z;cases z;exact ⟨c,hc',o,old _ _ ho,hd⟩
 ·obtain ⟨v,o,ho,hd⟩:=I2.cell x c (Qcj I2 hsc ok h);exact ⟨v,o,old _ _ ho,hd⟩
 ·exact I2.freeC x c (Qcj I2 hsc ok h)
 ·show (compSt own cap σ).length=(QaT N0 own cap).length;unfold compSt QaT;simp
theorem Qkj {Q:List V→Hp→Prop}{RR:Value→Addr→Result→Shared→Prop}{E:Value→Shared→Prop} (hc:X.calm=true) (I2:Inv X pins σ H2 s2) (hsc:X.env.scope=sc0) (hN0:X.N=N0) (ok:Qef sc0 N0 scope own cap)
  (hg:∀C s H ex,PG (Qa8 X scope C (QaT N0 own cap) s H ex) tg g) (ht:∀C s H ex,QiN (Qa8 X scope C (QaT N0 own cap) s H ex) ifs tt) (he:∀C s H ex,PE (Qa8 X scope C (QaT N0 own cap) s H ex) elt te)
  (T:Turn X.prog X.w X.K tg J fp it tn) (st2:tn 0 s2.heap) (f2:∀b∈fp,Qfx X pins H2 b) (hW:Qsd J g tt te Q (compSt own cap σ) H2)
  (hRR:∀D C oC ys H' s',Inv X (pins ++ [(C,oC)]) σ (upd H' D (.lst ys)) s'→(∀h:Heap,h.get? C=some oC→∃m,h.Ns C m)→Qfx X pins (upd H' D (.lst ys)) C→H' D=none→Q ys H'→RR (.ref D) C (.ok .next) s')
  (hQsz:∀ys H',Q ys H'→ys.length≤sizeLine) :
  wpAny (model X.prog X.w) X.A (newList []) (fun acc s₃=>wpAny (model X.prog X.w) X.A (newFunctionEnv scope X.env.globals (Qfo scope X.env) [] X.env.qual none .none (some X.env)) (fun cenv s₄ =>
   codeAny (model X.prog X.w) X.A (.compStart (.ListComp elt [⟨tg,iter,ifs,0⟩] scope pos) 0 (.ref it) acc { cenv with scope:=relabel scope X.env }) (RR acc cenv.locals) s₄) E s₃) E s2:=by
 refine wpAny_newObj_type (wpAny_newFunctionEnv ok.nocell (by intro y hy; simp at hy) (fun h₁ hns₁ hsb₁=>?_) ok.kind);dsimp only at hns₁ hsb₁ ⊢
 generalize hP2:s2.heap.push { cls:=.type "list",dict:=none,data:=.seq ([]:List Value).toArray }=P2 at hns₁ hsb₁ ⊢
 have hC:P2.objs.size=s2.heap.objs.size+1:=by rw [←hP2,Heap.size_push]
 have hDC:s2.heap.objs.size≠P2.objs.size:=by rw [hC]; exact zv (jc _)
 have hCle:s2.heap.objs.size≤P2.objs.size:=by rw [hC]; exact Nat.le_succ _
 have below:∀b,b < s2.heap.objs.size→b≠P2.objs.size∧b≠s2.heap.objs.size:=fun b hb=>⟨by rw [hC]; exact zv (jg hb),zv hb⟩
 have ltf:∀b∈fp,b < s2.heap.objs.size:=fun b hb=>by
  obtain ⟨o,e,_⟩:=T.obj 0 _ st2 b hb;exact zg e
 have old:∀b o,s2.heap.get? b=some o→h₁.get? b=some o:=fun b o e=>hsb₁.extBut b o (below b (zg e)).1 (zl _ (hP2 ▸ zl _ e))
 have hacc:h₁.PlainList s2.heap.objs.size #[]:=⟨_,hsb₁.extBut _ _ hDC (zl _ (hP2 ▸ zA _ rfl))⟩
 have st₁:tn 0 h₁:=T.keep _ _ _ st2 fun b _ o e=>old b o e
 have hDno:∀b∈fp,s2.heap.objs.size≠b:=fun b hb=>(below b (ltf b hb)).2.symm
 generalize hXe:Qa8 X scope P2.objs.size (QaT N0 own cap) s2 H2 fp=X'
 have loop:∀s₃:Shared,s₃ = { s2 with heap:=h₁,toks:=s2.toks+([]:List (Str×Value)).length } →
   codeAny (model X.prog X.w) X.A (.compLoop (.ListComp elt [⟨tg,iter,ifs,0⟩] scope pos) 0 (.ref it) (.ref s2.heap.objs.size) (compEnvC scope (Qfo scope X.env) P2.objs.size X.env))
    (RR (.ref s2.heap.objs.size) P2.objs.size) s₃:=by
  rintro s₃ rfl;obtain ⟨W,⟨m0,w0⟩,turn⟩:=hW;subst hXe
  have stat:∀{H':Hp}{oD:Obj},(∀b∈fp,H' b=none)→∀b∈fp,Qfx (Qa8 X scope P2.objs.size (QaT N0 own cap) s2 H2 fp) [(s2.heap.objs.size,oD)] H' b:=fun {H' oD} hn b hb =>
   ⟨hn b hb,(below b (ltf b hb)).1,fun z=>by
    rcases zt.mp (I2.stkSub b z) with z | z
    ·exact (f2 b hb).2.1 z
    ·exact (f2 b hb).2.2.1 z,.inl hb,fun x c h=>(f2 b hb).2.2.2.2.1 x c (Qcj I2 hsc ok h),fun p hp=>by
    have e:p=(s2.heap.objs.size,oD):=by simpa [Qa8] using hp
    rw [e]; exact hDno b hb⟩
  have notcell:∀x c,(Qfo scope X.env).lookup x=some c→c≠s2.heap.objs.size:=fun x c h z=>by
   obtain ⟨v,o,ho,hd⟩:=I2.cell x c (Qcj I2 hsc ok h);exact absurd (zg ho) (by rw [z]; exact zV _)
  have nofs:s2.heap.objs.size∉frs X.stack:=fun z=>by
   rcases zt.mp (I2.stkSub _ z) with z | z
   ·exact absurd I2.lt (by rw [z]; exact zV _)
   ·exact I2.nofs (ze _) z
  have pinD:∀{σ':St}{H':Hp}{s':Shared}{its:Array Value}{k:Nat},Inv (Qa8 X scope P2.objs.size (QaT N0 own cap) s2 H2 fp) [] σ' H' s'→H' s2.heap.objs.size=none →
    s'.heap.get? s2.heap.objs.size=some { cls:=.type "list",data:=.seq its k }→Inv (Qa8 X scope P2.objs.size (QaT N0 own cap) s2 H2 fp) [(s2.heap.objs.size,{ cls:=.type "list",data:=.seq its k })] σ' H' s' :=
   fun {σ' H' s' its k} I hn hd=>I.pins_of fun p hp=>by
    have e:p=(s2.heap.objs.size,{ cls:=.type "list",data:=.seq its k }):=by simpa using hp
    subst e;exact ⟨hd,hn,hDC,nofs,fun v z=>by cases z⟩
  obtain ⟨k0,hk0⟩:=hacc;refine Qik (env:=compEnvC scope (Qfo scope X.env) P2.objs.size X.env)
   (fun n s'=>∃i ys its k σ' H',Inv (Qa8 X scope P2.objs.size (QaT N0 own cap) s2 H2 fp) [(s2.heap.objs.size,{ cls:=.type "list",data:=.seq its k })] σ' H' s'∧tn i s'.heap∧(∀b∈fp,H' b=none)∧Qaz ys its.toList∧W i n ys σ' H') ?_ m0
   ⟨0,[],#[],k0,_,H2,pinD (QrE I2 hsc hN0 ok T st2 f2 _ hCle old hns₁) (I2.hok.fresh (ze _)) hk0,st₁,fun b hb=>(f2 b hb).1,.nil,w0⟩
  rintro n s3 ⟨i,ys,its,k,σ3,H3,I3,st3,fr3,hv,w3⟩
  rcases turn i n ys σ3 H3 w3 with ⟨stop,qn⟩ | ⟨go,hsz,N,hN,step⟩
  ·refine thn (T.done (Qa8 X scope P2.objs.size (QaT N0 own cap) s2 H2 fp) rfl rfl rfl hc i _ s3 σ3 H3 _ I3 (stat fr3) st3 stop) fun r s4 ⟨hr,I4⟩=>?_
   subst hr;show RR _ _ (.ok .next) s4;obtain ⟨hd4,hn4,_⟩:=I4.pin (s2.heap.objs.size,{ cls:=.type "list",data:=.seq its k }) (by simp [Qa8]);dsimp only at hd4 hn4;obtain ⟨m4,hns4,_⟩:=id I4.loc;have hns4':s4.heap.Ns P2.objs.size m4:=hns4;obtain ⟨oC,es,ep,hoC,rC⟩:=id hns4';have cne:P2.objs.size≠s2.heap.objs.size:=hDC.symm;have freeC:H3 P2.objs.size=none:=I4.free;have hchC:Qfx X pins (upd H3 s2.heap.objs.size (.lst ys)) P2.objs.size:=I2.fpOk hCle (by rw [Qar cne]; exact freeC)
   have hlen:ys.length=its.size:=by have e:=hv.length; simpa using e
   have I5:Inv X pins σ (upd H3 s2.heap.objs.size (.lst ys)) s4:=by
    refine I2.call' (ch:=fp) I4.os ⟨I4.base.keep,I4.base.slot,fun b o e n hx=>?_,I4.base.there,fun b xs e=>?_,fun b o u e=>?_,fun b ps e=>?_⟩ (fun b u e=>?_) I4.bare fun b hb=>?_
    ·rw [Qar (zv (zg e))]; exact I4.base.free b o e n hx
    ·have q:=I4.base.tups b xs e;rw [Qar (QaC q hn4)]; exact q
    ·have q:=I4.base.frzs b o u e;rw [Qar (QaC q hn4)]; exact q
    ·obtain ⟨more,q⟩:=I4.base.tbls b ps e;exact ⟨more,by rw [Qar (QaC q hn4)]; exact q⟩
    ·by_cases hb:b=s2.heap.objs.size
     ·subst hb;rw [QaG] at e;cases e;exact ⟨hQsz ys H3 qn,its.toList,k,hv,by simpa using hd4⟩
     ·rw [Qar hb] at e
      exact (I4.hok b u e).stay (fun _ _ _ q=>q) (fun c q=>by rw [Qar (QaC q hn4)]; exact q) fun c xs q=>by rw [Qar (QaC q hn4)]; exact q
    ·obtain ⟨_,a2,_,a4,a5,a6⟩:=f2 b hb;exact ⟨a4,a2,a5,a6⟩
   refine hRR s2.heap.objs.size P2.objs.size oC ys H3 s4 (I5.pins_of fun p hp=>?_) (fun h e=>⟨m4,oC,es,ep,e,rC⟩) hchC hn4 qn
   rcases zJ.mp hp with z | z
   ·exact I5.pin p (zK _ z)
   ·have e:p=(P2.objs.size,oC):=by simpa using z
    subst e
    exact ⟨hoC,hchC.1,hchC.2.1,hchC.2.2.1,fun v z=>by
     have:=rC.1
     rw [this] at z; cases z⟩
  ·refine thn (T.item (Qa8 X scope P2.objs.size (QaT N0 own cap) s2 H2 fp) rfl rfl rfl hc i _ s3 σ3 H3 _ I3 (stat fr3) st3 go) fun r s4 ⟨u,hr,h4⟩=>?_
   subst hr
   refine thn h4 fun _ s5 ⟨x,H5,I5,r5,y5,st5,fr5⟩=>?_
   have I5':=I5.pinned (stat fr5) (T.obj _ _ st5)
   refine thn (hg _ _ _ _ _ s5 σ3 H5 x u _ I5' r5 (step x H5 y5)) fun _ s6 ⟨σ6,H6,I6,q6⟩=>?_
   refine thn (ht _ _ _ _ _ s6 σ6 H6 _ I6 q6) fun b s7 ⟨H7,I7,q7⟩=>?_
   have keepT:∀{σ':St}{H':Hp}{s':Shared},Inv (Qa8 X scope P2.objs.size (QaT N0 own cap) s2 H2 fp) ([(s2.heap.objs.size,{ cls:=.type "list",data:=.seq its k })]++Qiw fp s5.heap) σ' H' s'→tn (i+1) s'.heap∧∀b∈fp,H' b=none:=fun {σ' H' s'} I'=>by
    refine ⟨T.keep _ _ _ st5 fun b hb o e=>(I'.pin (b,o) (zK _ (zK _ (QfS hb e)))).1,fun b hb=>?_⟩;obtain ⟨o,e,d⟩:=T.obj _ _ st5 b hb;exact (I'.pin (b,o) (zK _ (zK _ (QfS hb e)))).2.1
   cases b with
   | false =>
    rw [if_neg zj] at q7 ⊢;obtain ⟨m',hm,w7⟩:=hN _ _ _ q7;obtain ⟨a,b⟩:=keepT I7;exact ⟨m',hm,i+1,ys,its,k,σ6,H7,I7.unpinned,a,b,hv,w7⟩
   | true =>
    rw [if_pos rfl] at q7 ⊢
    refine thn (he _ _ _ _ _ s7 σ6 H7 _ I7 q7) fun v s8 ⟨y,H8,I8,r8,q8⟩=>?_
    obtain ⟨m',hm,w8⟩:=hN _ _ _ q8;obtain ⟨a,b⟩:=keepT I8;obtain ⟨hd8,hn8,_⟩:=I8.pin (s2.heap.objs.size,{ cls:=.type "list",data:=.seq its k }) (by simp [Qa8]);dsimp only at hd8 hn8
    have hl:its.size≤sizeLine:=by
     have e:=hv.length;simp at e;omega
    refine wpAny_list_append_plain (hsz:=hl) ⟨k,hd8⟩ fun h9 hl9 hs9=>?_
    obtain ⟨k9,hd9⟩:=hl9
    have I8':Inv (Qa8 X scope P2.objs.size (QaT N0 own cap) s2 H2 fp) [] σ6 H8 s8:=I8.pins_of fun p hp=>absurd hp (by simp)
    have I9:Inv (Qa8 X scope P2.objs.size (QaT N0 own cap) s2 H2 fp) [] σ6 H8 { s8 with heap:=h9 } :=
     I8'.turned (t':=s8.toks) (it:=s2.heap.objs.size) (fun b o hb e=>hs9.extBut b o hb e) hn8 hDC (.inr (ze _)) notcell (fun p hp=>absurd (show p∈([]:List (Addr×Obj)) from hp) (by simp))
    refine ⟨m',hm,i+1,ys ++ [y],its.push v,k9,σ6,H8,pinD I9 hn8 hd9,T.keep _ _ _ a fun b hb o e=>hs9.extBut b o (hDno b hb).symm e,b,?_,w8⟩;rw [Array.toList_push];exact hv.append (.cons r8 .nil)
 exact codeAny_compStart_list (loop _ rfl) (T.self _ 0 _ _ _ st₁ (loop _ rfl))
theorem QtR {wi:TI} (sc0:Scope) (N0 own:List Str) (cap:List Nat) (hc:X.calm=true) (hi:PI X tg iter wi)
  (hg:∀C s H ex,PG (Qa8 X scope C (QaT N0 own cap) s H ex) tg g) (ht:∀C s H ex,QiN (Qa8 X scope C (QaT N0 own cap) s H ex) ifs tt) (he:∀C s H ex,PE (Qa8 X scope C (QaT N0 own cap) s H ex) elt te)
  (hsc:X.env.scope=sc0:=by rfl) (hN0:X.N=N0:=by rfl) (ok:Qg9 sc0 N0 scope own cap=true:=by decide +kernel) (hs:∀x,foldedSetIterable iter X.env x=pure x:=by intro _; rfl) :
  PE X (.ListComp elt [⟨tg,iter,ifs,0⟩] scope pos) (Qok wi own cap g tt te):=by
 intro pins s σ H Q I h;have ok:=Qef.of ok;rw [eval_ListComp];refine wpAny_comprehension_free (use:=none) rfl hs (Qii (QjF I hsc ok)) ok.kind ok.names (thn (hi pins s σ H _ I h) fun xv s1 h1=>thn h1 fun itv s2 h2=>?_);obtain ⟨it,fp,tn,J,H2,e,I2,T,st2,f2,hW⟩:=h2;subst e
 refine Qkj (RR:=fun acc C=>compPost (model X.prog X.w) X.A X.xe none (EP X pins σ Q) acc C) hc I2 hsc hN0 ok hg ht he T st2 f2 hW (fun D C oC ys H' s' I' hns fpC hD q=>?_) fun ys H' q=>q.1
 obtain ⟨hC,hCn,_⟩:=I'.pin (C,oC) (by simp);obtain ⟨m,hm⟩:=hns _ hC;refine ⟨m,hm,fun h' hs'=>⟨.ref D,upd H' D (.lst ys),?_,rfl,q.2 D hD⟩⟩;obtain ⟨f0,f1,f2',f3,f4,f5⟩:=fpC;exact I'.unpinned.turned (t':=s'.toks) (it:=C) (fun b o hb e=>hs'.extBut b o hb e) f0 f1 f3 f4 f5
theorem QsF {wi:TI}{i:Nat}{x:Str}{pos' spos:Pos} (sc0:Scope) (N0 own:List Str) (cap:List Nat) (hN:X.N.Nodup) (hx:X.N[i]? = some x) (hl:Loc X.env.scope x) (hc:X.calm=true) (hi:PI X tg iter wi)
  (hg:∀C s H ex,PG (Qa8 X scope C (QaT N0 own cap) s H ex) tg g) (ht:∀C s H ex,QiN (Qa8 X scope C (QaT N0 own cap) s H ex) ifs tt) (he:∀C s H ex,PE (Qa8 X scope C (QaT N0 own cap) s H ex) elt te)
  (hsw:swapsWith (.ListComp elt [⟨tg,iter,ifs,0⟩] scope pos) (some (.Name x pos')) spos.line X.env=pure true:=by rfl)
  (hf:X.fn x=true∨X.env.scope.names.lookup x=some .local:=by first | exact .inl rfl | exact .inr rfl | assumption)
  (hsc:X.env.scope=sc0:=by rfl) (hN0:X.N=N0:=by rfl) (ok:Qg9 sc0 N0 scope own cap=true:=by decide +kernel) (hs:∀x,foldedSetIterable iter X.env x=pure x:=by intro _; rfl) :
  PS X (.Assign [.Name x pos'] (.ListComp elt [⟨tg,iter,ifs,0⟩] scope pos) spos) (Qor (Qok wi own cap g tt te) (Qj2 i)):=by
 intro pins s σ H D I h;have ok:=Qef.of ok;rw [exec_Assign_Name_used _ _ _ _ hsw];refine za (wpAny_standAt (za ?_));show wpAny _ X.A (do let _ ←comprehension (.ListComp elt [⟨tg,iter,ifs,0⟩] scope pos) scope X.env _ (newList []) false (eval iter X.env) (some (assign (.Name x pos') X.env))) _ _ s
 refine za (zN (wpAny_comprehension_free (use:=some (assign (.Name x pos') X.env)) (Q:=fun _ s'=>SP X pins D .next s') rfl hs (Qii (QjF I hsc ok)) ok.kind ok.names
  (thn (hi pins s σ H _ I h) fun xv s1 h1=>thn h1 fun itv s2 h2=>?_)) (fun _ s' hq=>zc (zc hq)) fun _ _ e=>e)
 obtain ⟨it,fp,tn,J,H2,e,I2,T,st2,f2,hW⟩:=h2;subst e
 refine Qkj (RR:=fun acc C=>compPost (model X.prog X.w) X.A X.xe (some (assign (.Name x pos') X.env)) (fun _ s'=>SP X pins D .next s') acc C) hc I2 hsc hN0 ok hg ht he T st2 f2 hW (fun Da C oC ys H' s' I' hns fpC hD q=>?_) fun ys H' q=>q.1
 show wpAny _ X.A (assign (.Name x pos') X.env (.ref Da)) _ _ _;refine wpAny_assign_Name (QjP (v:=.ref Da) I' hN hx hl rfl (fun s'' I''=>?_) hf);obtain ⟨hC,hCn,_⟩:=I''.pin (C,oC) (by simp);obtain ⟨m,hm⟩:=hns _ hC;refine ⟨m,hm,fun h' hs'=>⟨σ.set i (some (.ref Da)),upd H' Da (.lst ys),?_,q.2 Da hD⟩⟩;obtain ⟨f0,f1,f2',f3,f4,f5⟩:=fpC;exact I''.unpinned.turned (t':=s''.toks) (it:=C) (fun b o hb e=>hs'.extBut b o hb e) f0 f1 f3 f4 f5
end
def Can (P:Program) (w:World) (K:PySem.W.Frag) (mg:Str→Option Value) (base:Heap) (x:Str) (ps:List Str) (k:Nat) (sp:Sp):Prop :=
 ∃f fd,mg x=some (.ref f)∧PySem.W.keepIn K (.ref f)=true∧Binds K fd ps []∧Qcc P w K mg base CX0 k f fd ps sp∧∃oc od osl,K.lookup f=some ⟨oc,od,.func fd,osl⟩
def Def (K:PySem.W.Frag) (mg:Str→Option Value) (x:Str) (st:Stmt):Prop:=∃f fd,mg x=some (.ref f)∧Fun K x x st f fd
section
variable {P:Program}{w:World}{K:PySem.W.Frag}{mg:Str→Option Value}{base:Heap}
theorem Can.mono {x:Str}{ps:List Str}{j k:Nat}{sp:Sp} (c:Can P w K mg base x ps j sp) (h:j≤k):Can P w K mg base x ps k sp :=
 let ⟨f,fd,a,b,d,e,g⟩:=c; ⟨f,fd,a,b,d,e.mono h,g⟩
theorem Def.can {x:Str}{st:Stmt}{N ps:List Str}{k:Nat}{sp:Sp} (D:Def K mg x st) (S:QaA N ps (Qam st))
  (hb:∀(kV doc pm:Value) (an:Option Addr) (cdv ct:Value) (us:List Value),us.length=ps.length→bindArgs (PySem.W.fnOf x x (Qcu st) (QbF st) (Qam st) .none kV doc pm an cdv ct) ⟨us,[]⟩=pure (ps.zip us))
  (len:∀vs H Q E,sp vs H Q E→vs.length=ps.length)
  (hbody:∀(f:Addr) (cdv:Value) (A:Around) (outer:List Env) (s:Shared) (H:Hp) (vs:List V) (Q:VK) (E:XK),Qa1 k (A.deeper (envOfC x (Qam st) s.heap.objs.size f cdv))→sp vs H Q E →
   ∃t,PSs (Qgj CX0 P w K mg base N x (Qam st) f cdv A outer s H E).nox (QbF st) t∧t { nx:=fun _ H'=>Q .non H',rt:=Q } (start N vs) H):Can P w K mg base x ps (k+1) sp:=by
 obtain ⟨f,fd,hm,F⟩:=D;obtain ⟨oc,od,_,_,_,_,_,_,osl,_,lk,_⟩:=F.ex;exact ⟨f,fd,hm,F.kp,F.binds hb,F.ok S len fun cdv A outer s H vs Q E hr h=>hbody f cdv A outer s H vs Q E hr h,oc,od,osl,lk⟩
end
section
variable {X:Cx}{k:Nat}{x:Str}{ps:List Str}{sp:Sp}{p pos:Pos}{e:Expr}{es:List Expr}{t:TA}
theorem QuR (C:Can X.prog X.w X.K X.mg X.base x ps k sp) (hr:Qa1 k X.A) (ha:PA X (e::es) t) (hg:Gl X x:=by rfl) (hdb:(x == ("__debug__":Str))=false:=by decide)
  (he:starEach (e::es) X.env=(false,eval e X.env)::starEach es X.env:=by rfl) (hpl:(backTo pos (starEach es X.env)).any (·.1)=false:=by rfl) :
  PE X (.Call (.Name x p) (e::es) [] pos) (QoY sp [] E0 t):=by
 obtain ⟨f,fd,hm,hk,hb,F,_⟩:=C;exact Qs9 F hr hg hm hk hb .nil QlM ha hdb he hpl
end
theorem Same.seqT {K:PySem.W.Frag}{H H':Hp}{a:Addr}{xs:List V} (e:Same H H') (h:SqT K H a xs):SqT K H' a xs:=by
 rcases h with (h | ⟨o,h⟩) | h
 ·exact .inl (.inl (e _ _ h))
 ·exact .inl (.inr ⟨o,e _ _ h⟩)
 ·exact .inr h
theorem Same.upd {H:Hp}{a:Addr}{o:HO} (h:H a=none):Same H (upd H a o):=fun b u e=>by rw [Qar (QaC e h)]; exact e
mutual
def Rep (K:PySem.W.Frag) (H:Hp):V→PyData→Prop
 | v,.none=>v = .non
 | v,.bool b=>v = .bl b
 | v,.int i=>v = .int i
 | v,.str x=>v = .str x
 | v,.list ds=>∃a xs,v = .ref a∧SqL K H a xs∧QaD K H xs ds
 | v,.tuple ds=>∃a xs,v = .ref a∧SqT K H a xs∧QaD K H xs ds
 | _,.dict _=>False
def QaD (K:PySem.W.Frag) (H:Hp):List V→List PyData→Prop
 | xs,[]=>xs = []
 | xs,d::ds=>∃x r,xs=x::r∧Rep K H x d∧QaD K H r ds
end
mutual
theorem Rep.mono {K:PySem.W.Frag}{H H':Hp} (e:Same H H'):∀(d:PyData) {v:V},Rep K H v d→Rep K H' v d
 | .none,v,h=>by rw [Rep] at h ⊢; exact h
 | .bool b,v,h=>by rw [Rep] at h ⊢; exact h
 | .int i,v,h=>by rw [Rep] at h ⊢; exact h
 | .str x,v,h=>by rw [Rep] at h ⊢; exact h
 | .list ds,v,h=>by
  rw [Rep] at h ⊢;obtain ⟨a,xs,h1,h2,h3⟩:=h;exact ⟨a,xs,h1,e.seq h2,QaD.mono e ds h3⟩
 | .tuple ds,v,h=>by
  rw [Rep] at h ⊢;obtain ⟨a,xs,h1,h2,h3⟩:=h;exact ⟨a,xs,h1,e.seqT h2,QaD.mono e ds h3⟩
 | .dict _,v,h=>by rw [Rep] at h; exact h.elim
theorem QaD.mono {K:PySem.W.Frag}{H H':Hp} (e:Same H H'):∀(ds:List PyData) {xs:List V},QaD K H xs ds→QaD K H' xs ds
 | [],xs,h=>by rw [QaD] at h ⊢; exact h
 | d::ds,xs,h=>by
  rw [QaD] at h ⊢;obtain ⟨x,r,h1,h2,h3⟩:=h;exact ⟨x,r,h1,Rep.mono e d h2,QaD.mono e ds h3⟩
end
theorem QaD.nil {K:PySem.W.Frag}{H:Hp}:QaD K H [] []:=by rw [QaD]
theorem QaD.cons {K:PySem.W.Frag}{H:Hp}{x:V}{xs:List V}{d:PyData}{ds:List PyData} (h:Rep K H x d) (hs:QaD K H xs ds):QaD K H (x::xs) (d::ds):=by
 rw [QaD]; exact ⟨x,xs,rfl,h,hs⟩
theorem QaD.un {K:PySem.W.Frag}{H:Hp}{xs:List V}{d:PyData}{ds:List PyData} (h:QaD K H xs (d::ds)):∃x r,xs=x::r∧Rep K H x d∧QaD K H r ds:=by rw [QaD] at h; exact h
theorem QaD.un0 {K:PySem.W.Frag}{H:Hp}{xs:List V} (h:QaD K H xs []):xs = []:=by rw [QaD] at h; exact h
theorem Rep.unL {K:PySem.W.Frag}{H:Hp}{v:V}{ds:List PyData} (h:Rep K H v (.list ds)):∃a xs,v = .ref a∧SqL K H a xs∧QaD K H xs ds:=by rw [Rep] at h; exact h
theorem Rep.unT {K:PySem.W.Frag}{H:Hp}{v:V}{ds:List PyData} (h:Rep K H v (.tuple ds)):∃a xs,v = .ref a∧SqT K H a xs∧QaD K H xs ds:=by rw [Rep] at h; exact h
theorem Rep.unS {K:PySem.W.Frag}{H:Hp}{v:V}{x:Str} (h:Rep K H v (.str x)):v = .str x:=by rw [Rep] at h; exact h
theorem Rep.unI {K:PySem.W.Frag}{H:Hp}{v:V}{x:Int} (h:Rep K H v (.int x)):v = .int x:=by rw [Rep] at h; exact h
theorem Rep.s {K:PySem.W.Frag}{H:Hp}{x:Str}:Rep K H (.str x) (.str x):=by rw [Rep]
theorem Rep.i {K:PySem.W.Frag}{H:Hp}{x:Int}:Rep K H (.int x) (.int x):=by rw [Rep]
theorem Rep.b {K:PySem.W.Frag}{H:Hp}{x:Bool}:Rep K H (.bl x) (.bool x):=by rw [Rep]
theorem QaD.length {K:PySem.W.Frag}{H:Hp}:∀{ds:List PyData}{xs:List V},QaD K H xs ds→xs.length=ds.length
 | [],xs,h=>by rw [QaD] at h; rw [h]; rfl
 | d::ds,xs,h=>by
  rw [QaD] at h;obtain ⟨x,r,rfl,_,h3⟩:=h;simp [QaD.length h3]
theorem QaD.get {K:PySem.W.Frag}{H:Hp}:∀{ds:List PyData}{xs:List V}{i:Nat}{x:V},QaD K H xs ds→xs[i]? = some x→∃d,ds[i]? = some d∧Rep K H x d
 | [],xs,i,x,h,e=>by rw [QaD] at h; rw [h] at e; simp at e
 | d::ds,xs,i,x,h,e=>by
  rw [QaD] at h;obtain ⟨y,r,rfl,h2,h3⟩:=h
  cases i with
  | zero=>simp at e; subst e; exact ⟨d,rfl,h2⟩
  | succ i =>
   obtain ⟨d',e',q⟩:=QaD.get (i:=i) (x:=x) h3 (by simpa using e);exact ⟨d',by simpa using e',q⟩
theorem QaD.snoc {K:PySem.W.Frag}{H:Hp}{x:V}{d:PyData} (hx:Rep K H x d):∀{ds:List PyData}{xs:List V},QaD K H xs ds→QaD K H (xs ++ [x]) (ds ++ [d])
 | [],xs,h=>by rw [QaD] at h; rw [h]; exact QaD.cons hx QaD.nil
 | e::ds,xs,h=>by
  rw [QaD] at h;obtain ⟨y,r,rfl,h2,h3⟩:=h;exact QaD.cons h2 (QaD.snoc hx h3)
theorem QaD.append {K:PySem.W.Frag}{H:Hp}{ys:List V}{es:List PyData} (hy:QaD K H ys es):∀{ds:List PyData}{xs:List V},QaD K H xs ds→QaD K H (xs++ys) (ds++es)
 | [],xs,h=>by rw [QaD] at h; rw [h]; exact hy
 | e::ds,xs,h=>by
  rw [QaD] at h;obtain ⟨y,r,rfl,h2,h3⟩:=h;exact QaD.cons h2 (QaD.append hy h3)
theorem QaD.take {K:PySem.W.Frag}{H:Hp}:∀{ds:List PyData}{xs:List V} (n:Nat),QaD K H xs ds→QaD K H (xs.take n) (ds.take n)
 | _,_,0,_=>by simpa using QaD.nil
 | [],xs,n+1,h=>by rw [QaD] at h; rw [h]; simpa using QaD.nil
 | d::ds,xs,n+1,h=>by
  rw [QaD] at h;obtain ⟨y,r,rfl,h2,h3⟩:=h;exact QaD.cons h2 (QaD.take n h3)
theorem QaD.drop {K:PySem.W.Frag}{H:Hp}:∀{ds:List PyData}{xs:List V} (n:Nat),QaD K H xs ds→QaD K H (xs.drop n) (ds.drop n)
 | _,_,0,h=>by simpa using h
 | [],xs,n+1,h=>by rw [QaD] at h; rw [h]; simpa using QaD.nil
 | d::ds,xs,n+1,h=>by
  rw [QaD] at h;obtain ⟨y,r,rfl,h2,h3⟩:=h;exact QaD.drop n h3
section
variable {X:Cx}{pins:List (Addr×Obj)}{σ:St}{H:Hp}{s:Shared}
mutual
theorem Rep.reads (I:Inv X pins σ H s):∀(d:PyData) {v:V}{u:Value},Rep X.K H v d→RelV v u→∃as,Reads s.heap u d as
 | .none,v,u,h,r=>by rw [Rep] at h; subst h; cases (show u = .none from r); exact ⟨_,.none⟩
 | .bool b,v,u,h,r=>by rw [Rep] at h; subst h; cases (show u = .bool b from r); exact ⟨_,.bool b⟩
 | .int i,v,u,h,r=>by rw [Rep] at h; subst h; obtain ⟨t,rfl⟩:=(show ∃t,u = .int i t from r); exact ⟨_,.int i t⟩
 | .str x,v,u,h,r=>by rw [Rep] at h; subst h; obtain ⟨t,rfl⟩:=(show ∃t,u = .str x t from r); exact ⟨_,.str x t⟩
 | .list ds,v,u,h,r=>by
  rw [Rep] at h;obtain ⟨a,xs,rfl,h2,h3⟩:=h;cases (show u = .ref a from r);obtain ⟨its,rv,pl,_⟩:=I.list h2;obtain ⟨as,q⟩:=QaD.reads I ds h3 rv;obtain ⟨o,ho,hc,n,hd⟩:=pl.isList;exact ⟨_,.list ho hc hd (by simpa using q)⟩
 | .tuple ds,v,u,h,r=>by
  rw [Rep] at h;obtain ⟨a,xs,rfl,h2,h3⟩:=h;cases (show u = .ref a from r);obtain ⟨its,rv,pl,_⟩:=I.tuple h2;obtain ⟨as,q⟩:=QaD.reads I ds h3 rv;obtain ⟨o,ho,hc,n,hd⟩:=pl;exact ⟨_,.tuple ho hc hd (by simpa using q)⟩
 | .dict _,v,u,h,r=>by rw [Rep] at h; exact h.elim
theorem QaD.reads (I:Inv X pins σ H s):∀(ds:List PyData) {xs:List V}{us:List Value},QaD X.K H xs ds→Qaz xs us→∃as,ReadsAll s.heap us ds as
 | [],xs,us,h,r=>by rw [QaD] at h; subst h; cases r; exact ⟨_,.nil⟩
 | d::ds,xs,us,h,r=>by
  rw [QaD] at h;obtain ⟨x,rest,rfl,h2,h3⟩:=h
  cases r with
  | cons r1 r2 =>
   obtain ⟨as,q⟩:=Rep.reads I d h2 r1;obtain ⟨bs,q'⟩:=QaD.reads I ds h3 r2;exact ⟨_,.cons q q'⟩
end
end
def okD (d:PyData):Bool:=d.canLay0&&decide (d.depth≤60)
def QvY (K:PySem.W.Frag) (neg:Bool):R2:=fun x y H Q=>∃d e,Rep K H x d∧Rep K H y e∧okD d=true∧okD e=true∧Q (.bl (if neg then !PyData.eqv d e else PyData.eqv d e)) H
section
variable {X:Cx}
theorem Qu1 {k:Nat} (hr:Qa1 k X.A):OpR X (compareOp .Eq) (QvY X.K false):=by
 intro pins s σ H x y v u Q I rx ry h;obtain ⟨d,e,h1,h2,k1,k2,q⟩:=h;obtain ⟨as,r1⟩:=Rep.reads I d h1 rx;obtain ⟨bs,r2⟩:=Rep.reads I e h2 ry;unfold okD at k1 k2;simp only [zr,decide_eq_true_eq] at k1 k2;exact SeqAt.compareEq_reads r1 r2 k1.1 k2.1 (by have:=hr.units; omega) ⟨.bl _,H,I,rfl,q⟩
theorem Quv {k:Nat} (hr:Qa1 k X.A):OpR X (compareOp .NotEq) (QvY X.K true):=by
 intro pins s σ H x y v u Q I rx ry h;obtain ⟨d,e,h1,h2,k1,k2,q⟩:=h;obtain ⟨as,r1⟩:=Rep.reads I d h1 rx;obtain ⟨bs,r2⟩:=Rep.reads I e h2 ry;unfold okD at k1 k2;simp only [zr,decide_eq_true_eq] at k1 k2;exact SeqAt.compareNe_reads r1 r2 k1.1 k2.1 (by have:=hr.units; omega) ⟨.bl _,H,I,rfl,q⟩
end
def S (l:List Nat):Str:=⟨l.toArray⟩
theorem Qh4 (l:List Nat):(S l).cps.toList=l:=by simp [S]
theorem QbI (l:List Nat):(S l).length=l.length:=by simp [S,Str.length]
theorem QxU (x:Str):S x.cps.toList=x:=by cases x; simp [S]
theorem Qrb (a b:List Nat):S a++S b=S (a++b):=by
 show Str.mk _=Str.mk _;simp [S]
theorem Qv6 {a b:List Nat} (h:S a=S b):a=b:=by have:=congrArg (fun x:Str=>x.cps.toList) h; simpa [Qh4] using this
section
variable {X:Cx}
theorem Qp5:OpR X (compareOp .LtE) (fun x y H Q=>∃i j,x = .str i∧y = .str j∧Q (.bl (!decide (j.cps.toList < i.cps.toList))) H):=by
 intro pins s σ H x y v u Q I rx ry h;obtain ⟨i,j,rfl,rfl,q⟩:=h;obtain ⟨t,rfl⟩:=rx;obtain ⟨t',rfl⟩:=ry;exact P.le_str ⟨.bl _,H,I,rfl,q⟩
theorem Qpk:OpR X (compareOp .In) (fun x y H Q=>∃c l,x = .str (S [c])∧y = .str (S l)∧Q (.bl (decide (c∈l))) H):=by
 intro pins s σ H x y v u Q I rx ry h;obtain ⟨c,l,rfl,rfl,q⟩:=h;refine QqG pins s σ H _ _ v u Q I rx ry ⟨S [c],S l,rfl,rfl,?_⟩;have e:=PySem.StrLaws.found_one (S l) c;rw [Qh4] at e;show Q (.bl (!(Builtin.Str.occurrences (S l) (S [c]) 0 (S l).length 1).isEmpty)) H;rw [show S [c]=⟨#[c]⟩ from rfl,e];exact q
def Its (l:List Nat):It:=⟨fun i _=>i < l.length,fun i H x H'=>H'=H∧∃c,l[i]? = some c∧x = .str (S [c]),fun i _=>l.length≤i⟩
theorem QrS {P:Program}{w:World}{K:PySem.W.Frag}{tg:Expr} (l:List Nat) (it:Addr) (t:Tok):Turn P w K tg (Its l) [it] it (fun i h=>h.IsStrIter it "str_ascii_iterator" (S l) t i) where
 mem:=by simp
 obj:=fun i h st b hb=>by
  have e:b=it:=by simpa using hb
  subst e;obtain ⟨o,e,c,d⟩:=st;exact ⟨o,e,fun v z=>by rw [d] at z; cases z⟩
 keep:=fun i h h' st k=>let ⟨o,ho,r⟩:=st; ⟨o,k it (by simp) o ho,r⟩
 item:=by
  intro X hP hw hK hc i pins s σ H E I hf st hg;subst hP hw hK;obtain ⟨f0,f1,f2,f3,f4,f5⟩:=hf it (by simp);have hg':i < l.length:=hg
  refine wpAny_pyNext_ascii_item st (c:=l[i]) (by simp [S,hg']) fun h' st' sb=>?_
  have I1:Inv X pins σ H { s with heap:=h',toks:=s.toks+1 }:=I.turned (fun b o hb e=>(sb.2 b hb).trans e) f0 f1 f3 f4 f5;obtain ⟨o,e,c,d⟩:=id st';exact ⟨_,rfl,QhG (s:={ s with heap:=h',toks:=s.toks+1 }) e c d (by decide) ⟨.str (S [l[i]]),H,I1,⟨_,rfl⟩,⟨rfl,l[i],by simp [hg'],rfl⟩,st',fun b hb=>(hf b hb).1⟩⟩
 done:=by
  intro X hP hw hK hc i pins s σ H E I hf st hg;subst hP hw hK;obtain ⟨f0,f1,f2,f3,f4,f5⟩:=hf it (by simp);have hg':l.length≤i:=hg
  exact wpAny_pyNext_ascii_end (I.ok.hd hc) st (by simp [S,hg']) fun h' eb=>⟨rfl,I.turned (t':=s.toks) (fun b o hb e=>eb b o hb e) f0 f1 f3 f4 f5⟩
 self:=fun _ _ _ _ _ st h=>wpAny_pyIter_striter_ascii st h
def ascii (l:List Nat):Bool:=l.all (· < 128)
def Qxc (tl:TE):TI:=fun σ H R=>tl σ H fun x H1=>∃l,x = .str (S l)∧ascii l=true∧R (Its l) H1
theorem QuC {tg e:Expr}{tl:TE} (hl:PE X e tl):PI X tg e (Qxc tl):=by
 intro pins s σ H R I h
 refine thn (hl pins s σ H _ I h) fun v s1 ⟨x,H1,I1,r1,q1⟩=>?_
 obtain ⟨l,e,ha,q⟩:=q1;subst e;obtain ⟨t,rfl⟩:=r1;refine wpAny_pyIter_ascii (by simpa [S,ascii] using ha) ?_;refine ⟨s1.heap.objs.size,[s1.heap.objs.size],_,_,H1,rfl,I1.kept (t':=s1.toks) fun b o e=>zl _ e,QrS l _ t,⟨_,zA _ rfl,rfl,rfl⟩,fun b hb=>?_,q⟩
 have e:b=s1.heap.objs.size:=by simpa using hb
 subst e;exact I1.fpOk (ze _) (I1.hok.fresh (ze _))
theorem QpW (hc:X.calm=true):QfO X (.builtin "sum") (fun xs H Q=>∃(a:Addr) (ns:List Int),xs = [.ref a]∧SqL X.K H a (ns.map V.int)∧(∀n∈ns,0≤n∧n≤1000000)∧ns.length≤1000000∧Q (.int ns.sum) H):=by
 intro pins s σ H xs us Q I r h;obtain ⟨a,ns,rfl,ha,hb,hl0,q⟩:=h;obtain ⟨u,rfl,ru⟩:=vals1 r;cases ru;obtain ⟨its,rv,p,hz⟩:=I.list ha;have hne:a≠s.heap.objs.size:=zv (zg p.isList.choose_spec.1)
 have hl:its.length=ns.length:=by have:=rv.length; rw [zd] at this; exact this.symm
 have pre:∀j,j≤ns.length→preSum (fun i=>ns.getD i 0) j=(ns.take j).sum∧0≤preSum (fun i=>ns.getD i 0) j∧preSum (fun i=>ns.getD i 0) j≤(j:Int) * 1000000:=by
  intro j
  induction j with
  | zero=>intro _; simp [preSum]
  | succ j ih =>
   intro hj;obtain ⟨e,l1,l2⟩:=ih (by omega)
   have hj':j < ns.length:=by omega
   have hm:=hb ns[j] (jn hj')
   have ed:ns.getD j 0=ns[j]:=by rw [jf,zo hj']; rfl
   have es:preSum (fun i=>ns.getD i 0) (j+1)=preSum (fun i=>ns.getD i 0) j+ns[j]:=by
    rw [←ed]; rfl
   refine ⟨?_,by omega,by omega⟩;rw [es,e,List.take_succ_eq_append_getElem hj',List.sum_append];simp
 refine call_sum_walk (wpAny_pyIter_list p.isList ?_)
 refine ⟨s.heap.objs.size,_,_,its.toArray.size,_,_,fun i=>ns.getD i 0,rfl,Walks.list (A:=X.A.in1) (I.ok.hd hc) s.heap.objs.size a hne its.toArray,
  ⟨⟨_,zA _ rfl,rfl,rfl⟩,p.isList.at fun o e=>zl _ e⟩,fun b hb'=>?_,fun i v hv=>?_,fun j hj=>?_,fun h' tk t' hk=>?_⟩
 ·have hsz:({ s with heap:=s.heap.push { cls:=.type "list_iterator",data:=.fields #[.ref a,.int 0 0] } }:Shared).heap.objs.size=s.heap.objs.size+1:=Heap.size_push ..;rw [hsz]
  have z:b=s.heap.objs.size∨b=a:=by simpa using hb'
  have ha':a < s.heap.objs.size:=zg p.isList.choose_spec.1
  rcases z with z | z
  ·rw [z]; exact jc _
  ·rw [z]; exact jg ha'
 ·have hi:i < its.length:=by
   have z:=Array.getElem?_eq_some_iff.mp hv;simpa using z.1
  have hb':(ns.map V.int)[i]? = some (V.int (ns.getD i 0)):=by
   rw [zD,zo (by omega),jf,zo (by omega)];rfl
  obtain ⟨u,hu,ru⟩:=rv.get hb'
  have hv':its[i]? = some v:=by simpa using hv
  rw [hv'] at hu;cases hu;exact ru
 ·rw [zp] at hj
  have hj':j < ns.length:=by omega
  have hm:=hb ns[j] (jn hj')
  have ed:ns.getD j 0=ns[j]:=by rw [jf,zo hj']; rfl
  obtain ⟨_,l1,l2⟩:=pre (j+1) (by omega);unfold InLong;dsimp only;rw [ed]
  constructor <;> constructor <;> omega
 ·obtain ⟨e,_,_⟩:=pre ns.length (ze _);rw [List.take_length] at e;refine ⟨.int ns.sum,H,I.kept fun b o e=>hk b o (fun z=>?_) (zl _ e),⟨t',?_⟩,q⟩
  ·have z':b=s.heap.objs.size:=by simpa using z
   exact absurd (zg e) (by rw [z']; exact zV _)
  ·rw [zp,hl,e]
end
structure Blt (mg:Str→Option Value):Prop where
 len_:mg "len" = none
 isinstance_:mg "isinstance" = none
 all_:mg "all" = none
 sum_:mg "sum" = none
 max_:mg "max" = none
 min_:mg "min" = none
 int_:mg "int" = none
 str_:mg "str" = none
 bool_:mg "bool" = none
 list_:mg "list" = none
 tuple_:mg "tuple" = none
 dict_:mg "dict" = none
 range_:mg "range" = none
 enumerate_:mg "enumerate" = none
 zip_:mg "zip" = none
section
variable {X:Cx}
theorem QmL {x:Str}{v:V}{pos:Pos} (h:∃u,X.mg x=some u∧RelV v u) (hg:Gl X x:=by rfl) (hd:(x == ("__debug__":Str))=false:=by decide):PE X (.Name x pos) (tC v):=by
 obtain ⟨u,hm,r⟩:=h;exact QsA hg hm r hd
end
def Qbt {α:Type} (l:List α) (lo hi:Option Int):List α:=(l.drop (HT.sIx l.length 0 lo)).take (HT.sIx l.length l.length hi - HT.sIx l.length 0 lo)
theorem Qn6 (l:List Nat) (lo hi:Option Int):Txt.slice (S l) lo hi=S (Qbt l lo hi):=by
 obtain ⟨h1,h2,h3⟩:=QiK lo hi l.length
 have e:Builtin.Str.strSliceIndices lo hi 1 (S l).length=(List.range (HT.sIx l.length l.length hi - HT.sIx l.length 0 lo)).map (HT.sIx l.length 0 lo + ·):=by
  rw [QbI];show sliceRange (sliceBounds lo hi none l.length).1 (sliceBounds lo hi none l.length).2.1 (sliceBounds lo hi none l.length).2.2=_;rw [h1,h2,h3,sliceRange_one]
 unfold Txt.slice;rw [e,pick_run,Qh4]
 split
 ·rename_i h
  have hl:HT.sIx l.length l.length hi - HT.sIx l.length 0 lo=l.length:=by simpa [QbI] using h
  have hle:HT.sIx l.length l.length hi≤l.length:=HT.sIx_le _ _ (ze _) hi;have hlo:HT.sIx l.length 0 lo≤l.length:=HT.sIx_le _ _ (Nat.zero_le _) lo
  have h0:HT.sIx l.length 0 lo=0:=by omega
  have h1:HT.sIx l.length l.length hi=l.length:=by omega
  unfold Qbt;rw [h0,h1];simp
 ·rfl
section
variable {X:Cx}
def Qxu:V→Option Int→Option Int→Hp→VK→Prop:=fun x lo hi H Q=>∃l,x = .str (S l)∧l.length≤sizeLine∧Q (.str (S (Qbt l lo hi))) H
theorem part_of {v:Value}{o:Option Int} (p:IsPart v o):∃q:Option (Int×Tok),v=partValue q∧q.map (·.1)=o:=by
 cases p with
 | none=>exact ⟨none,rfl,rfl⟩
 | int i t=>exact ⟨some (i,t),rfl,rfl⟩
theorem QuQ:SlR X Qxu:=by
 intro pins s σ H x v vl vu lo hi sl Q I rx hs pl pu h;obtain ⟨l,rfl,hz,q⟩:=h;obtain ⟨t,rfl⟩:=rx;obtain ⟨ql,rfl,e1⟩:=part_of pl;obtain ⟨qu,rfl,e2⟩:=part_of pu;refine ⟨"str",_,F.slot_str_getitem.lookup,typeIs_str _ _ _,?_⟩;refine wpAny_getItem_str_slice (l:=ql) (u:=qu) (st:=none) hs rfl ?_;have key:(if ((1:Int) == 1&&(Builtin.Str.strSliceIndices lo hi 1 (S l).length).length == (S l).length)=true then S l else ⟨((Builtin.Str.strSliceIndices lo hi 1 (S l).length).filterMap ((S l).cps[·]?)).toArray⟩)=S (Qbt l lo hi):=Qn6 l lo hi;unfold sliceMade slicePicked;rw [e1,e2];refine post_val_or_str ⟨?_,fun t' k=>?_⟩
 ·show (Txt.slice (S l) lo hi).length≤_;exact zF (Txt.slice_le _ _ _) (by rw [QbI]; exact hz)
 ·have e3:=Qn6 l lo hi;unfold Txt.slice at e3;show EP X pins σ Q (.str (if ((1:Int) == 1&&(Builtin.Str.strSliceIndices lo hi 1 (S l).length).length == (S l).length)=true then S l else ⟨((Builtin.Str.strSliceIndices lo hi 1 (S l).length).filterMap ((S l).cps[·]?)).toArray⟩) t') { s with toks:=k };rw [e3];exact ⟨.str _,H,I.tok k,⟨t',rfl⟩,q⟩
end
namespace HT2
theorem getItem_tuple_whole {prog:Program}{w:World}{A:Around}{E:Value→Shared→Prop}{s:Shared}{t sl:Addr}{items:Array Value}{vl vu:Value}{lo hi:Option Int}{Q:Value→Shared→Prop} (ht:IsTup s.heap t items) (hs:s.heap.IsSliceOf sl vl vu .none) (pl:IsPart vl lo) (pu:IsPart vu hi)
  (hw:HT.sIx items.size 0 lo=0∧HT.sIx items.size items.size hi=items.size) (h:Q (.ref t) s):wpAny (model prog w) A (getItem (.ref t) (.ref sl)) Q E s:=by
 obtain ⟨os,hos,hcs,hds⟩:=id hs;have hTs:s.TypeIs (.ref sl) "slice":=⟨os,hos,hcs⟩;unfold getItem
 try with_reducible refine zR ?_
 first | refine za (zc ?_) | skip
 refine za (wpAny_sequenceKey ht.typeIs (by decide) ?_)
 refine za (wpAny_callSpecial?_slot (name:=Str.ofString "__getitem__") ht.typeIs PyProof.Rows.slot_tuple_getitem
  (wpAny_call_entry PyProof.Rows.slot_tuple_getitem ht.typeIs entry_tuple_getitem ?_ (args_tuple_getitem _ _)))
 show wpAny _ _ (Builtin.Tuple.tupleItemsOf (.ref t) >>= _) _ _ s;refine za (tupleItemsOf_ ht ?_);refine za (wpAny_typeOf hTs ?_);rw [if_pos (by decide)];refine za (HT.sliceApplied_gen hs pl pu ?_)
 have hyes:(((HT.sIx items.size 0 lo:Nat):Int) == 0&&(1:Int) == 1&&(HT.sIx items.size items.size hi - HT.sIx items.size 0 lo) == items.size)=true:=by
  rw [hw.1,hw.2];simp
 show wpAny _ _ (if (((HT.sIx items.size 0 lo:Nat):Int) == 0&&(1:Int) == 1&&(HT.sIx items.size items.size hi - HT.sIx items.size 0 lo) == items.size)=true then _ else _) _ _ s;rw [if_pos hyes]
 have hex:∀{A':Around}{E':Value→Shared→Prop}{Q':Bool→Shared→Prop},Q' true s→wpAny (model prog w) A' (Builtin.Tuple.tupleIsExact (.ref t)) Q' E' s:=fun {A' E' Q'} hq=>by
  unfold Builtin.Tuple.tupleIsExact;exact za (wpAny_typeOf ht.typeIs (zc hq))
 refine za (hex ?_);rw [if_pos rfl];exact za (jd (zc ⟨_,rfl,zc h⟩))
end HT2
section
variable {X:Cx}
def QwU (K:PySem.W.Frag):V→Option Int→Option Int→Hp→VK→Prop:=fun x lo hi H Q=>∃a xs,x = .ref a∧SqT K H a xs ∧
 ((HT.sIx xs.length 0 lo=0∧HT.sIx xs.length xs.length hi=xs.length)→Q (.ref a) H)∧(¬(HT.sIx xs.length 0 lo=0∧HT.sIx xs.length xs.length hi=xs.length)→∀p,H p=none→Q (.ref p) (upd H p (.tup (QhR xs lo hi))))
theorem QsG (K:PySem.W.Frag) (hK:X.K=K:=by rfl):SlR X (QwU K):=by
 subst hK;intro pins s σ H x v vl vu lo hi sl Q I rx hs pl pu h;obtain ⟨a,xs,rfl,hx,q1,q2⟩:=h
 by_cases hw:HT.sIx xs.length 0 lo=0∧HT.sIx xs.length xs.length hi=xs.length
 ·cases rx;obtain ⟨its,r,ht,hz⟩:=I.tuple hx
  have hlen:its.toArray.size=xs.length:=by rw [zp]; exact r.length.symm
  exact ⟨"tuple",_,PyProof.Rows.slot_tuple_getitem.lookup,ht.typeIs,HT2.getItem_tuple_whole ht hs pl pu (by rw [hlen]; exact hw) ⟨.ref a,H,I,rfl,q1 hw⟩⟩
 ·exact QuM pins s σ H _ v vl vu lo hi sl Q I rx hs pl pu ⟨a,xs,rfl,hx,hw,q2 hw⟩
inductive TyQ (K:PySem.W.Frag) (H:Hp):V→String→Prop where
 | non:TyQ K H .non "NoneType"
 | bl (x:Bool):TyQ K H (.bl x) "bool"
 | int (i:Int):TyQ K H (.int i) "int"
 | str (x:Str):TyQ K H (.str x) "str"
 | lst {a:Addr}{xs:List V} (e:SqL K H a xs):TyQ K H (.ref a) "list"
 | tup {a:Addr}{xs:List V} (e:SqT K H a xs):TyQ K H (.ref a) "tuple"
 | dK {a:Addr}{kvs:List (Key×V)} (e:H a=some (.dK kvs)):TyQ K H (.ref a) "dict"
def Qx3 (K:PySem.W.Frag):List V→Hp→VK→Prop:=fun xs H Q=>∃x n t b,xs = [x,.ty n]∧TyQ K H x t∧PySem.W.kitOne K (.type t) (.type n)=some b∧Q (.bl b) H
theorem QpX (K:PySem.W.Frag) (hK:X.K=K:=by rfl):QfO X (.builtin "isinstance") (Qx3 K):=by
 subst hK;intro pins s σ H xs us Q I r h;obtain ⟨x,n,t,b,rfl,ty,e,q⟩:=h;obtain ⟨u,c,rfl,r1,r2⟩:=vals2 r;cases (show c = .type n from r2)
 have fin:∀tk,EP X pins σ Q (.bool b) { s with toks:=tk }:=fun tk=>⟨.bl b,H,I.tok tk,rfl,q⟩
 cases ty with
 | non=>exact Qfs I r1 .non e fin
 | bl y=>exact Qfs I r1 (.bl y) e fin
 | int i=>exact Qfs I r1 (.int i) e fin
 | str y=>exact Qfs I r1 (.str y) e fin
 | @lst a xs ea =>
  cases (show u=Value.ref a from r1);obtain ⟨its,_,p,_⟩:=I.list ea;obtain ⟨o,ho,hc,_⟩:=p.isList;exact PySem.W.kia_one PySem.W.kitx_list I.kIn ⟨o,ho,hc⟩ e (fun z=>nomatch z) fin
 | @tup a xs ea =>
  cases (show u=Value.ref a from r1);obtain ⟨its,_,p,_⟩:=I.tuple ea;obtain ⟨o,ho,hc,_⟩:=p;exact PySem.W.kia_one PySem.W.kitx_tuple I.kIn ⟨o,ho,hc⟩ e (fun z=>nomatch z) fin
 | @dK a kvs ea=>exact Qfs I r1 (.dK ea) e fin
theorem Qq8 (K:PySem.W.Frag) (n:String):PySem.W.kitOne K (.type n) (.type n)=some true:=by
 unfold PySem.W.kitOne;rw [if_pos (beq_self_eq_true _)]
end
theorem QkW:∀{ds:List PyData},(∀d∈ds,d.canLay0=true)→PyData.canLayAll0 ds=true
 | [],_=>rfl
 | d::ds,h=>by rw [PyData.canLayAll0,h d zm,QkW fun x hx=>h x (zx _ hx)]; rfl
theorem QjC {n:Nat}:∀{ds:List PyData},(∀d∈ds,d.depth≤n)→PyData.depthAll ds≤n
 | [],_=>by rw [PyData.depthAll]; exact Nat.zero_le _
 | d::ds,h=>by
  rw [PyData.depthAll];exact Nat.max_le.mpr ⟨h d zm,QjC fun x hx=>h x (zx _ hx)⟩
theorem QtC {n:Nat} (hn:n < 60) {ds:List PyData} (h:∀d∈ds,d.canLay0=true∧d.depth≤n):okD (.list ds)=true:=by
 unfold okD;rw [zr];refine ⟨?_,zq ?_⟩
 ·show PyData.canLayAll0 ds=true
  exact QkW fun d hd=>(h d hd).1
 ·show PyData.depthAll ds+1≤60
  have:=QjC fun d hd=>(h d hd).2
  omega
section
variable {X:Cx}
def QwK:R2:=fun x y H Q=>∃(l:List Nat) (n:Int),x = .str (S l)∧y = .int n∧-1000000 < n∧n < 1000000∧l.length * n.toNat≤16777216∧Q (.str (S (List.replicate n.toNat l).flatten)) H
theorem Qsi (l:List Nat):∀(n:Nat) (a:Array Nat),(List.replicate n (S l).cps).foldl (· ++ ·) a=a++(List.replicate n l).flatten.toArray
 | 0,a=>by simp
 | n+1,a=>by
  rw [List.replicate_succ,List.foldl_cons,Qsi l n,List.replicate_succ,List.flatten_cons];simp [S]
theorem Qo8:OpR X (binaryOp .Mult) QwK:=by
 intro pins s σ H x y v u Q I rx ry h;obtain ⟨l,n,rfl,rfl,h1,h2,h3,q⟩:=h;obtain ⟨t,rfl⟩:=rx;obtain ⟨t',rfl⟩:=ry;have hs:sizeLine=16777216:=sizeLine_eq
 by_cases hn:n < 1
 ·have e0:n.toNat=0:=by omega
  rw [e0] at q;exact P.mul_str_none hn (by omega) ⟨.str (S []),H,I.tok _,⟨s.toks,rfl⟩,q⟩
 refine P.mul_str ?_ (fun _ _=>?_) (fun _ _=>?_) ?_
 ·rw [zh (by omega),zh (by omega)];rfl
 ·rw [QbI];intro hz
  have h4:(l.length:Int) * n≤16777216:=by
   have:((l.length * n.toNat:Nat):Int)≤16777216:=by omega
   rw [Int.natCast_mul,Int.toNat_of_nonneg (by omega)] at this;exact this
  have h5:(2 ^ 63 - 1) / n < (l.length:Int):=hz;have h6:=(Int.ediv_lt_iff_lt_mul (show 0 < n by omega)).mp h5;omega
 ·rw [QbI];unfold Builtin.Str.tooLong;exact zh (by omega)
 ·rw [if_neg (by omega)]
  by_cases hl:(n == 1 || (S l).length == 0)=true
  ·rw [if_pos hl]
   have e:(List.replicate n.toNat l).flatten=l:=by
    rw [Bool.or_eq_true,beq_iff_eq,beq_iff_eq,QbI] at hl
    rcases hl with z | z
    ·rw [z];show (List.replicate 1 l).flatten=l;simp
    ·have z':=List.eq_nil_of_length_eq_zero z;subst z';rw [List.flatten_eq_nil_iff];intro x hx;exact (List.mem_replicate.mp hx).2
   rw [e] at q;exact ⟨.str (S l),H,I,⟨t,rfl⟩,q⟩
  ·rw [if_neg hl,Qsi];refine ⟨?_,.str (S (List.replicate n.toNat l).flatten),H,I.tok _,⟨s.toks,?_⟩,q⟩
   ·show (#[]++(List.replicate n.toNat l).flatten.toArray).size≤sizeLine;simp only [Array.size_append,zp,List.length_flatten,List.map_replicate,List.sum_replicate_nat];simp;rw [Nat.mul_comm];omega
   ·congr 1;simp [S]
end
inductive D where
 | non | bl (b:Bool) | int (i:Int) | str (l:List Nat) | lst (ds:List D) | tup (ds:List D) | dic (ks vs:List D) | ob (n:Nat)
inductive Ob where
 | ins (c:Str) (fs:List (Str×D))
 | ml (ds:List D)
 | dt (kvs:List (List Key×D))
 | df (kvs:List (List Key×D))
abbrev Qac:=List Ob
abbrev Qal:=List (Option D)
structure Xc where
 cls:Str
 fs:List (Str×D)
inductive Res (α:Type) where
 | ok (a:α) (O:Qac) | ex (x:Xc) (O:Qac) | no
inductive Fl where
 | nx (ρ:Qal) (O:Qac) | rt (d:D) (O:Qac) | bk (ρ:Qal) (O:Qac) | ct (ρ:Qal) (O:Qac) | ex (x:Xc) (O:Qac) | no
abbrev M (α:Type):=Qal→Qac→Res α
abbrev MS:=Qal→Qac→Fl
def Res.bind {α β:Type} (r:Res α) (f:α→Qac→Res β):Res β:=match r with
 | .ok a O=>f a O
 | .ex x O=>.ex x O
 | .no=>.no
theorem Res.bind_ok {α β:Type}{r:Res α}{f:α→Qac→Res β}{b:β}{O':Qac} (h:r.bind f = .ok b O'):∃a O,r = .ok a O∧f a O = .ok b O':=by
 cases r with
 | ok a O=>exact ⟨a,O,rfl,h⟩
 | ex x O=>cases h
 | no=>cases h
def QiF:Expr→Bool
 | .Starred _ _=>false
 | _=>true
theorem QbN {e:Expr}{es:List Expr}{env:Env} (h:QiF e=true):starEach (e::es) env=(false,eval e env)::starEach es env:=by
 cases e <;> first | rfl | cases h
theorem QbT {pos:Pos}{env:Env}:∀{es:List Expr},es.all QiF=true→(backTo pos (starEach es env)).any (·.1)=false
 | [],_=>by simp [starEach,backTo]
 | e::es,h=>by
  rw [List.all_cons,zr] at h;rw [QbN h.1];show (false || (backTo pos (starEach es env)).any (·.1))=false;rw [QbT h.2];rfl
theorem Qkr {e:Expr}{env:Env} (h:QiF e=true):starEach [e] env = [(false,eval e env)]:=by rw [QbN h]; simp [starEach]
theorem QwN {e f:Expr}{env:Env} (h:QiF e=true) (h':QiF f=true):starEach [e,f] env = [(false,eval e env),(false,eval f env)]:=by rw [QbN h,Qkr h']
abbrev Frag:=PySem.W.Frag
def Qk3:Key→D
 | .inl i=>.int i
 | .inr x=>.str x.cps.toList
def RdK (K:Frag) (H:Hp) (a:Addr) (xs:List V):Prop:=Rd H a (.lst xs)∨∃(its:List Value) (n:Nat),K.lookup a=some { cls:=.type "list",data:=.seq its.toArray n }∧its.length≤sizeLine∧Qaz xs its
theorem RdK.sq {K:Frag}{H:Hp}{a:Addr}{xs:List V} (h:RdK K H a xs):SqL K H a xs:=by
 rcases h with h | ⟨its,n,h1,h2,h3⟩
 ·exact .inl h
 ·exact .inr ⟨_,its.toArray,n,h1,rfl,rfl,rfl,by simpa using h2,by simpa using h3⟩
theorem RdK.ok {X:Cx}{pins:List (Addr×Obj)}{σ:St}{H:Hp}{s:Shared}{a:Addr}{xs:List V} (h:RdK X.K H a xs) (I:Inv X pins σ H s):xs.length≤sizeLine∧∃(its:List Value) (n:Nat),Qaz xs its∧s.heap.get? a=some { cls:=.type "list",data:=.seq its.toArray n }:=by
 rcases h with h | ⟨its,n,h1,h2,h3⟩
 ·exact h.ok I.hok
 ·exact ⟨by rw [h3.length]; exact h2,its,n,h3,I.kIn a _ h1⟩
def TqT (K:Frag) (F:Hp) (a:Addr) (xs:List V):Prop :=
 F a=some (.tup xs)∨∃(o:Obj) (its:Array Value) (n:Nat),K.lookup a=some o∧o.cls = .type "tuple"∧o.data = .seq its n∧its.size≤sizeLine∧Qaz xs its.toList
theorem TqT.sq {K:Frag}{F:Hp}{a:Addr}{xs:List V} (h:TqT K F a xs):SqT K F a xs:=h.imp .inl id
mutual
def Rp (K:Frag) (F:Hp) (as:List Addr):V→D→Prop
 | v,.non=>v = .non
 | v,.bl b=>v = .bl b
 | v,.int i=>v = .int i
 | v,.str l=>v = .str (S l)
 | v,.lst ds=>∃a xs,v = .ref a∧RdK K F a xs∧Rps K F as xs ds
 | v,.tup ds=>∃a xs,v = .ref a∧TqT K F a xs∧Rps K F as xs ds
 | v,.dic ks vs=>∃(a:Addr) (kvs:List (Key×V)),v = .ref a∧F a=some (.dK kvs)∧ks=kvs.map (fun p=>Qk3 p.1)∧Rps K F as (kvs.map (·.2)) vs
 | v,.ob n=>∃a,v = .ref a∧as[n]? = some a
def Rps (K:Frag) (F:Hp) (as:List Addr):List V→List D→Prop
 | xs,[]=>xs = []
 | xs,d::ds=>∃x r,xs=x::r∧Rp K F as x d∧Rps K F as r ds
end
section
variable {K:Frag}{F F':Hp}{as as':List Addr}
theorem Rd.mono {H H':Hp}{a:Addr}{u:HO} (e:Same H H') (h:Rd H a u):Rd H' a u:=by
 rcases h with h | ⟨o,h⟩
 ·exact .inl (e _ _ h)
 ·exact .inr ⟨o,e _ _ h⟩
theorem RdK.mono {H H':Hp}{a:Addr}{xs:List V} (e:Same H H') (h:RdK K H a xs):RdK K H' a xs:=h.imp (fun z=>z.mono e) id
mutual
theorem Rp.mono (e:Same F F') (ea:∀(n:Nat) (a:Addr),as[n]? = some a→as'[n]? = some a):∀(d:D) {v:V},Rp K F as v d→Rp K F' as' v d
 | .non,v,h=>by rw [Rp] at h ⊢; exact h
 | .bl b,v,h=>by rw [Rp] at h ⊢; exact h
 | .int i,v,h=>by rw [Rp] at h ⊢; exact h
 | .str x,v,h=>by rw [Rp] at h ⊢; exact h
 | .lst ds,v,h=>by
  rw [Rp] at h ⊢;obtain ⟨a,xs,h1,h2,h3⟩:=h;exact ⟨a,xs,h1,h2.mono e,Rps.mono e ea ds h3⟩
 | .tup ds,v,h=>by
  rw [Rp] at h ⊢;obtain ⟨a,xs,h1,h2,h3⟩:=h;exact ⟨a,xs,h1,h2.imp (e _ _) id,Rps.mono e ea ds h3⟩
 | .dic ks vs,v,h=>by
  rw [Rp] at h ⊢;obtain ⟨a,kvs,h1,h2,h3,h4⟩:=h;exact ⟨a,kvs,h1,e _ _ h2,h3,Rps.mono e ea vs h4⟩
 | .ob n,v,h=>by
  rw [Rp] at h ⊢;obtain ⟨a,h1,h2⟩:=h;exact ⟨a,h1,ea _ _ h2⟩
theorem Rps.mono (e:Same F F') (ea:∀(n:Nat) (a:Addr),as[n]? = some a→as'[n]? = some a):∀(ds:List D) {xs:List V},Rps K F as xs ds→Rps K F' as' xs ds
 | [],xs,h=>by rw [Rps] at h ⊢; exact h
 | d::ds,xs,h=>by
  rw [Rps] at h ⊢;obtain ⟨x,r,h1,h2,h3⟩:=h;exact ⟨x,r,h1,Rp.mono e ea d h2,Rps.mono e ea ds h3⟩
end
theorem Rp.non:Rp K F as .non .non:=by rw [Rp]
theorem Rp.bl {b:Bool}:Rp K F as (.bl b) (.bl b):=by rw [Rp]
theorem Rp.int {i:Int}:Rp K F as (.int i) (.int i):=by rw [Rp]
theorem Rp.str {l:List Nat}:Rp K F as (.str (S l)) (.str l):=by rw [Rp]
theorem Rp.unN {v:V} (h:Rp K F as v .non):v = .non:=by rw [Rp] at h; exact h
theorem Rp.unB {v:V}{b:Bool} (h:Rp K F as v (.bl b)):v = .bl b:=by rw [Rp] at h; exact h
theorem Rp.unI {v:V}{i:Int} (h:Rp K F as v (.int i)):v = .int i:=by rw [Rp] at h; exact h
theorem Rp.unS {v:V}{l:List Nat} (h:Rp K F as v (.str l)):v = .str (S l):=by rw [Rp] at h; exact h
theorem Rp.unL {v:V}{ds:List D} (h:Rp K F as v (.lst ds)):∃a xs,v = .ref a∧RdK K F a xs∧Rps K F as xs ds:=by rw [Rp] at h; exact h
theorem Rp.unT' {v:V}{ds:List D} (h:Rp K F as v (.tup ds)):∃a xs,v = .ref a∧TqT K F a xs∧Rps K F as xs ds:=by rw [Rp] at h; exact h
theorem Rp.unT {v:V}{ds:List D} (h:Rp K F as v (.tup ds)):∃a xs,v = .ref a∧SqT K F a xs∧Rps K F as xs ds:=let ⟨a,xs,e,h1,h2⟩:=h.unT'; ⟨a,xs,e,h1.sq,h2⟩
theorem Rp.unO {v:V}{n:Nat} (h:Rp K F as v (.ob n)):∃a,v = .ref a∧as[n]? = some a:=by rw [Rp] at h; exact h
theorem Rp.unD {v:V}{ks vs:List D} (h:Rp K F as v (.dic ks vs)):∃(a:Addr) (kvs:List (Key×V)),v = .ref a∧F a=some (.dK kvs)∧ks=kvs.map (fun p=>Qk3 p.1)∧Rps K F as (kvs.map (·.2)) vs:=by rw [Rp] at h; exact h
theorem Rp.mkL {a:Addr}{xs:List V}{ds:List D} (h:RdK K F a xs) (hs:Rps K F as xs ds):Rp K F as (.ref a) (.lst ds):=by rw [Rp]; exact ⟨a,xs,rfl,h,hs⟩
theorem Rp.mkT {a:Addr}{xs:List V}{ds:List D} (h:TqT K F a xs) (hs:Rps K F as xs ds):Rp K F as (.ref a) (.tup ds):=by rw [Rp]; exact ⟨a,xs,rfl,h,hs⟩
theorem Rp.mkO {a:Addr}{n:Nat} (h:as[n]? = some a):Rp K F as (.ref a) (.ob n):=by rw [Rp]; exact ⟨a,rfl,h⟩
theorem Rps.nil:Rps K F as [] []:=by rw [Rps]
theorem Rps.cons {x:V}{xs:List V}{d:D}{ds:List D} (h:Rp K F as x d) (hs:Rps K F as xs ds):Rps K F as (x::xs) (d::ds):=by
 rw [Rps]; exact ⟨x,xs,rfl,h,hs⟩
theorem Rps.un {xs:List V}{d:D}{ds:List D} (h:Rps K F as xs (d::ds)):∃x r,xs=x::r∧Rp K F as x d∧Rps K F as r ds:=by rw [Rps] at h; exact h
theorem Rps.un0 {xs:List V} (h:Rps K F as xs []):xs = []:=by rw [Rps] at h; exact h
theorem Rps.length:∀{ds:List D}{xs:List V},Rps K F as xs ds→xs.length=ds.length
 | [],xs,h=>by rw [h.un0]; rfl
 | d::ds,xs,h=>by
  obtain ⟨x,r,rfl,_,h3⟩:=h.un;simp [Rps.length h3]
theorem Rps.get:∀{ds:List D}{xs:List V}{i:Nat}{x:V},Rps K F as xs ds→xs[i]? = some x→∃d,ds[i]? = some d∧Rp K F as x d
 | [],xs,i,x,h,e=>by rw [h.un0] at e; simp at e
 | d::ds,xs,i,x,h,e=>by
  obtain ⟨y,r,rfl,h2,h3⟩:=h.un
  cases i with
  | zero=>simp at e; subst e; exact ⟨d,rfl,h2⟩
  | succ i =>
   obtain ⟨d',e',q⟩:=Rps.get (i:=i) (x:=x) h3 (by simpa using e);exact ⟨d',by simpa using e',q⟩
theorem Rps.get':∀{ds:List D}{xs:List V}{i:Nat}{d:D},Rps K F as xs ds→ds[i]? = some d→∃x,xs[i]? = some x∧Rp K F as x d:=by
 intro ds xs i d h e;have hl:=h.length
 have hi:i < xs.length:=by rw [hl]; exact (zk.mp e).1
 obtain ⟨d',e',q⟩:=h.get (zo hi);rw [e] at e'; cases e';exact ⟨_,zo hi,q⟩
theorem Rps.append {ys:List V}{es:List D} (hy:Rps K F as ys es):∀{ds:List D}{xs:List V},Rps K F as xs ds→Rps K F as (xs++ys) (ds++es)
 | [],xs,h=>by rw [h.un0]; exact hy
 | e::ds,xs,h=>by
  obtain ⟨y,r,rfl,h2,h3⟩:=h.un;exact Rps.cons h2 (Rps.append hy h3)
theorem Rps.snoc {x:V}{d:D}{ds:List D}{xs:List V} (h:Rps K F as xs ds) (hx:Rp K F as x d):Rps K F as (xs ++ [x]) (ds ++ [d]):=Rps.append (Rps.cons hx Rps.nil) h
theorem Rps.take:∀{ds:List D}{xs:List V} (n:Nat),Rps K F as xs ds→Rps K F as (xs.take n) (ds.take n)
 | _,_,0,_=>by simpa using Rps.nil
 | [],xs,n+1,h=>by rw [h.un0]; simpa using Rps.nil
 | d::ds,xs,n+1,h=>by
  obtain ⟨y,r,rfl,h2,h3⟩:=h.un;exact Rps.cons h2 (Rps.take n h3)
theorem Rps.drop:∀{ds:List D}{xs:List V} (n:Nat),Rps K F as xs ds→Rps K F as (xs.drop n) (ds.drop n)
 | _,_,0,h=>by simpa using h
 | [],xs,n+1,h=>by rw [h.un0]; simpa using Rps.nil
 | d::ds,xs,n+1,h=>by
  obtain ⟨y,r,rfl,h2,h3⟩:=h.un;exact Rps.drop n h3
theorem Rps.set:∀{ds:List D}{xs:List V}{x:V}{d:D} (n:Nat),Rps K F as xs ds→Rp K F as x d→Rps K F as (xs.set n x) (ds.set n d)
 | [],xs,x,d,n,h,_=>by rw [h.un0]; simpa using Rps.nil
 | e::ds,xs,x,d,0,h,hx=>by
  obtain ⟨y,r,rfl,h2,h3⟩:=h.un;exact Rps.cons hx h3
 | e::ds,xs,x,d,n+1,h,hx=>by
  obtain ⟨y,r,rfl,h2,h3⟩:=h.un;exact Rps.cons h2 (Rps.set n h3 hx)
theorem Rps.rep {ds:List D}{xs:List V} (h:Rps K F as xs ds):∀n:Nat,Rps K F as (List.replicate n xs).flatten (List.replicate n ds).flatten
 | 0=>by simpa using Rps.nil
 | n+1=>by
  rw [List.replicate_succ,List.replicate_succ,List.flatten_cons,List.flatten_cons];exact Rps.append (Rps.rep h n) h
theorem Rps.dropLast {ds:List D}{xs:List V} (h:Rps K F as xs ds):Rps K F as xs.dropLast ds.dropLast:=by
 rw [List.dropLast_eq_take,List.dropLast_eq_take,h.length];exact h.take _
end
def isD:HO→Bool
 | .ins _ _ _=>false
 | .own _=>false
 | .xd _=>false
 | _=>true
def isL:HO→Bool
 | .lst _=>true
 | .dK _=>true
 | _=>false
theorem Qsj {o:HO} (h:isL o=true):isD o=true:=by
 cases o <;> first | rfl | cases h
structure Gr (H F:Hp) (as:List Addr) (H' F':Hp) (as':List Addr):Prop where
 fz:∀a o,H a=some o→a∉as→isL o=true→F' a=F a
 ff:Same F F'
 nw:∃new,as'=as++new∧∀a∈new,H a=none
 fr:∀a o,H a=some o→a∉as→isD o=true→H' a=some o
 dm:∀a,H' a=none→H a=none
 kz:∀a o u,H a=some (.frz o u)→H' a=some (.frz o u)
structure Pt where
 p:Addr→Prop
 ss:List (Nat×V×D)
instance:CoeFun Pt (fun _=>Addr→Prop):=⟨Pt.p⟩
def Pt.all (H:Hp):Pt:=⟨fun a=>H a≠none,[]⟩
structure GrS (P:Pt) (H F:Hp) (as:List Addr) (H' F':Hp) (as':List Addr):Prop where
 fz:∀a o,P a→H a=some o→a∉as→isL o=true→F' a=F a
 ff:Same F F'
 nw:∃new,as'=as++new∧∀a∈new,H a=none
 fr:∀a o,P a→H a=some o→a∉as→isD o=true→H' a=some o
 dm:∀a,H' a=none→H a=none
 kz:∀a o u,H a=some (.frz o u)→H' a=some (.frz o u)
section
variable {H F H' F' H2 F2:Hp}{as as' as2:List Addr}{P:Pt}
theorem Gr.refl:Gr H F as H F as:=⟨fun _ _ _ _ _=>rfl,Same.refl F,⟨[],by simp,fun _ h=>nomatch h⟩,fun _ _ h _ _=>h,fun _ h=>h,fun _ _ _ h=>h⟩
theorem Gr.trans (a:Gr H F as H' F' as') (b:Gr H' F' as' H2 F2 as2):Gr H F as H2 F2 as2:=by
 obtain ⟨n1,e1,h1⟩:=a.nw;obtain ⟨n2,e2,h2⟩:=b.nw;refine ⟨fun c o hc hn hd=>?_,a.ff.trans b.ff,⟨n1++n2,by rw [e2,e1,zX],fun c hc=>?_⟩,fun c o e hn hd=>?_,fun c h=>a.dm c (b.dm c h),fun c o u h=>b.kz c o u (a.kz c o u h)⟩
 ·have q:=a.fr c o hc hn (Qsj hd);refine (b.fz c o q ?_ hd).trans (a.fz c o hc hn hd);rw [e1];intro z
  rcases zJ.mp z with z | z
  ·exact hn z
  ·rw [h1 c z] at hc; cases hc
 ·rcases zJ.mp hc with z | z
  ·exact h1 c z
  ·exact a.dm c (h2 c z)
 ·have q:=a.fr c o e hn hd;refine b.fr c o q ?_ hd;rw [e1];intro z
  rcases zJ.mp z with z | z
  ·exact hn z
  ·rw [h1 c z] at e; cases e
theorem Gr.toS (a:Gr H F as H' F' as'):GrS P H F as H' F' as':=⟨fun c o _=>a.fz c o,a.ff,a.nw,fun c o _ e hn hd=>a.fr c o e hn hd,a.dm,a.kz⟩
theorem GrS.refl:GrS P H F as H F as:=Gr.refl.toS
theorem GrS.trans (a:GrS P H F as H' F' as') (b:GrS P H' F' as' H2 F2 as2):GrS P H F as H2 F2 as2:=by
 obtain ⟨n1,e1,h1⟩:=a.nw;obtain ⟨n2,e2,h2⟩:=b.nw;refine ⟨fun c o p hc hn hd=>?_,a.ff.trans b.ff,⟨n1++n2,by rw [e2,e1,zX],fun c hc=>?_⟩,fun c o p e hn hd=>?_,fun c h=>a.dm c (b.dm c h),fun c o u h=>b.kz c o u (a.kz c o u h)⟩
 ·have q:=a.fr c o p hc hn (Qsj hd);refine (b.fz c o p q ?_ hd).trans (a.fz c o p hc hn hd);rw [e1];intro z
  rcases zJ.mp z with z | z
  ·exact hn z
  ·rw [h1 c z] at hc; cases hc
 ·rcases zJ.mp hc with z | z
  ·exact h1 c z
  ·exact a.dm c (h2 c z)
 ·have q:=a.fr c o p e hn hd;refine b.fr c o p q ?_ hd;rw [e1];intro z
  rcases zJ.mp z with z | z
  ·exact hn z
  ·rw [h1 c z] at e; cases e
theorem GrS.mono {P':Pt} (a:GrS P H F as H' F' as') (h:∀c,P' c→P c):GrS P' H F as H' F' as':=⟨fun c o p=>a.fz c o (h c p),a.ff,a.nw,fun c o p=>a.fr c o (h c p),a.dm,a.kz⟩
theorem GrS.gr (a:GrS (Pt.all H) H F as H' F' as'):Gr H F as H' F' as':=⟨fun c o e=>a.fz c o (show H c≠none by rw [e]; exact fun z=>nomatch z) e,a.ff,a.nw,fun c o e=>a.fr c o (show H c≠none by rw [e]; exact fun z=>nomatch z) e,a.dm,a.kz⟩
theorem Gr.at_ (a:Gr H F as H' F' as'):∀(n:Nat) (c:Addr),as[n]? = some c→as'[n]? = some c:=fun n c h=>by
 obtain ⟨new,e,_⟩:=a.nw;rw [e,zB (zk.mp h).1];exact h
theorem GrS.at_ (a:GrS P H F as H' F' as'):∀(n:Nat) (c:Addr),as[n]? = some c→as'[n]? = some c:=fun n c h=>by
 obtain ⟨new,e,_⟩:=a.nw;rw [e,zB (zk.mp h).1];exact h
theorem Gr.out (a:Gr H F as H' F' as') {c:Addr} (h:c∉as) (e:H c≠none):c∉as':=by
 obtain ⟨new,e1,h1⟩:=a.nw;rw [e1];intro z
 rcases zJ.mp z with z | z
 ·exact h z
 ·exact e (h1 c z)
theorem GrS.out (a:GrS P H F as H' F' as') {c:Addr} (h:c∉as) (e:H c≠none):c∉as':=by
 obtain ⟨new,e1,h1⟩:=a.nw;rw [e1];intro z
 rcases zJ.mp z with z | z
 ·exact h z
 ·exact e (h1 c z)
theorem Rp.gr {K:Frag}{v:V}{d:D} (h:Rp K F as v d) (a:Gr H F as H' F' as'):Rp K F' as' v d:=Rp.mono a.ff a.at_ d h
theorem Rps.gr {K:Frag}{v:List V}{d:List D} (h:Rps K F as v d) (a:Gr H F as H' F' as'):Rps K F' as' v d:=Rps.mono a.ff a.at_ d h
theorem Rp.grS {K:Frag}{v:V}{d:D} (h:Rp K F as v d) (a:GrS P H F as H' F' as'):Rp K F' as' v d:=Rp.mono a.ff a.at_ d h
theorem Rps.grS {K:Frag}{v:List V}{d:List D} (h:Rps K F as v d) (a:GrS P H F as H' F' as'):Rps K F' as' v d:=Rps.mono a.ff a.at_ d h
end
structure FsR (K:Frag) (F:Hp) (as:List Addr) (gs:List (Str×V)) (fs:List (Str×D)):Prop where
 nm:gs.map (·.1)=fs.map (·.1)
 vl:Rps K F as (gs.map (·.2)) (fs.map (·.2))
def ObR (K:Frag) (mg:Str→Option Value) (H F:Hp) (as:List Addr) (a:Addr):Ob→Prop
 | .ins c fs=>∃C dx gs,mg c=some (.ref C)∧H a=some (.ins C dx gs)∧FsR K F as gs fs
 | .ml ds=>∃xs,H a=some (.lst xs)∧Rps K F as xs ds
 | .dt kvs=>∃xs:List (List Key×V),H a=some (.dT xs)∧xs.map (·.1)=kvs.map (·.1)∧Rps K F as (xs.map (·.2)) (kvs.map (·.2))
 | .df kvs=>∃(o:Obj) (xs:List (List Key×V)),H a=some (.frz o (.dT xs))∧xs.map (·.1)=kvs.map (·.1)∧Rps K F as (xs.map (·.2)) (kvs.map (·.2))
structure RlO (K:Frag) (mg:Str→Option Value) (O:Qac) (H F:Hp) (as:List Addr):Prop where
 fh:Same F H
 fd:∀a o,F a=some o→isD o=true
 nd:as.Nodup
 len:as.length=O.length
 fa:∀a∈as,F a=none
 ob:∀(n:Nat) (a:Addr) (o:Ob),as[n]? = some a→O[n]? = some o→ObR K mg H F as a o
inductive Md where
 | v | s | o
 deriving DecidableEq
def Qg4:D→Bool
 | .lst _=>false
 | _=>true
def Qea (P:Pt) (K:Frag) (H F:Hp) (as:List Addr):Md→V→D→Prop
 | .v,v,d=>Rp K F as v d
 | .s,v,d=>Rp K F as v d∨∃a xs ds,v = .ref a∧d = .lst ds∧H a=some (.lst xs)∧a∉as∧P a∧Rps K F as xs ds
 | .o,v,d=>(Qg4 d=true∧Rp K F as v d)∨∃a xs ds,v = .ref a∧d = .lst ds∧H a=some (.lst xs)∧F a=none∧a∉as∧¬P a∧Rps K F as xs ds
structure SlO (K:Frag) (md:List Md) (P:Pt) (ρ:Qal) (σ:St) (H F:Hp) (as:List Addr):Prop where
 len:σ.length=md.length
 len':ρ.length=md.length
 pd:∀a,P a→H a≠none
 sl:∀(i:Nat) (m:Md) (d:D),md[i]? = some m→ρ[i]? = some (some d)→∃v,σ[i]? = some (some v)∧Qea P K H F as m v d
 inj:∀(i j:Nat) (a:Addr) (ds es:List D),md[i]? = some .o→md[j]? = some .o→ρ[i]? = some (some (.lst ds))→ρ[j]? = some (some (.lst es))→σ[i]? = some (some (.ref a))→σ[j]? = some (some (.ref a))→i=j
 pin:∀x∈P.ss,md[x.1]? = some .s∧ρ[x.1]? = some (some x.2.2)∧σ[x.1]? = some (some x.2.1)
section
variable {K:Frag}{mg:Str→Option Value}{md:List Md}{P:Pt}{ρ:Qal}{σ:St}{H F H' F':Hp}{as as':List Addr}{O O':Qac}
theorem Qea.step {m:Md}{v:V}{d:D} (h:Qea P K H F as m v d) (g:Gr H F as H' F' as'):Qea P K H' F' as' m v d:=by
 cases m with
 | v=>exact Rp.gr (show Rp K F as v d from h) g
 | s =>
  rcases h with h | ⟨a,xs,ds,e1,e2,e3,e4,e5,e6⟩
  ·exact .inl (h.gr g)
  ·exact .inr ⟨a,xs,ds,e1,e2,g.fr _ _ e3 e4 rfl,g.out e4 (by rw [e3]; exact fun z=>nomatch z),e5,e6.gr g⟩
 | o =>
  rcases h with ⟨h1,h⟩ | ⟨a,xs,ds,e1,e2,e3,e0,e4,e5,e6⟩
  ·exact .inl ⟨h1,h.gr g⟩
  ·have hn:H a≠none:=by rw [e3]; exact fun z=>nomatch z
   exact .inr ⟨a,xs,ds,e1,e2,g.fr _ _ e3 e4 rfl,by rw [g.fz a _ e3 e4 rfl]; exact e0,g.out e4 hn,e5,e6.gr g⟩
theorem SlO.step (h:SlO K md P ρ σ H F as) (g:Gr H F as H' F' as'):SlO K md P ρ σ H' F' as' :=
 ⟨h.len,h.len',fun a p z=>h.pd a p (g.dm a z),fun i m d e1 e2=>let ⟨v,q,r⟩:=h.sl i m d e1 e2; ⟨v,q,r.step g⟩,h.inj,h.pin⟩
end
def Sv (K:Frag) (H F:Hp) (as:List Addr) (v:V) (d:D):Prop :=
 Rp K F as v d∨∃a xs ds,v = .ref a∧d = .lst ds∧H a=some (.lst xs)∧a∉as∧Rps K F as xs ds
def Lk (K:Frag) (H F:Hp) (as:List Addr) (v:V) (d:D):Prop :=
 Rp K F as v d∨∃a xs ds,v = .ref a∧d = .lst ds∧H a=some (.lst xs)∧Rps K F as xs ds
def Ow (K:Frag) (N:Addr→Prop) (H F:Hp) (as:List Addr) (v:V) (d:D):Prop :=
 (Qg4 d=true∧Rp K F as v d)∨∃a xs ds,v = .ref a∧d = .lst ds∧H a=some (.lst xs)∧F a=none∧a∉as∧N a∧Rps K F as xs ds
def QaR (O:Qac) (d:D):D:=match d with
 | .ob n=>match O[n]? with
  | some (.ml ds)=>.lst ds
  | _=>.ob n
 | d=>d
section
variable {K:Frag}{mg:Str→Option Value}{H0 H F H' F':Hp}{as as':List Addr}{O:Qac}{v:V}{d:D}
theorem Sv.gr (h:Sv K H F as v d) (g:Gr H F as H' F' as'):Sv K H' F' as' v d:=by
 rcases h with h | ⟨a,xs,ds,e1,e2,e3,e4,e5⟩
 ·exact .inl (h.gr g)
 ·exact .inr ⟨a,xs,ds,e1,e2,g.fr _ _ e3 e4 rfl,g.out e4 (by rw [e3]; exact fun z=>nomatch z),e5.gr g⟩
theorem Sv.lk (h:Sv K H F as v d) (r:RlO K mg O H F as):Lk K H F as v (QaR O d):=by
 rcases h with h | ⟨a,xs,ds,rfl,rfl,e3,e4,e5⟩
 ·cases d with
  | ob n =>
   obtain ⟨a,rfl,ha⟩:=h.unO;unfold QaR;dsimp only
   split
   ·rename_i ds e;obtain ⟨xs,e1,e2⟩:=r.ob n a _ ha e;exact .inr ⟨a,xs,ds,rfl,rfl,e1,e2⟩
   ·exact .inl (Rp.mkO ha)
  | _=>exact .inl h
 ·exact .inr ⟨a,xs,ds,rfl,rfl,e3,e5⟩
theorem Lk.list {ds:List D} (h:Lk K H F as v (.lst ds)) (fh:Same F H):∃a xs,v = .ref a∧RdK K H a xs∧Rps K F as xs ds:=by
 rcases h with h | ⟨a,xs,ds',e1,e2,e3,e4⟩
 ·obtain ⟨a,xs,e,h1,h2⟩:=h.unL;exact ⟨a,xs,e,h1.mono fh,h2⟩
 ·cases e2;exact ⟨a,xs,e1,.inl (.inl e3),e4⟩
theorem Lk.rp (h:Lk K H F as v d) (hn:Qg4 d=true):Rp K F as v d:=by
 rcases h with h | ⟨a,xs,ds',e1,rfl,e3,e4⟩
 ·exact h
 ·cases hn
theorem Sv.rp (h:Sv K H F as v d) (hn:Qg4 d=true):Rp K F as v d:=by
 rcases h with h | ⟨a,xs,ds',e1,rfl,e3,e4⟩
 ·exact h
 ·cases hn
theorem Ow.sv {N:Addr→Prop} (h:Ow K N H F as v d):Sv K H F as v d:=by
 rcases h with ⟨_,h⟩ | ⟨a,xs,ds,e1,e2,e3,e4,e5,e6,e7⟩
 ·exact .inl h
 ·exact .inr ⟨a,xs,ds,e1,e2,e3,e5,e7⟩
theorem Gr.lay {p:Addr}{o:HO} (hp:H p=none):Gr H F as (upd H p o) F as :=
 ⟨fun _ _ _ _ _=>rfl,Same.refl F,⟨[],by simp,fun _ h=>nomatch h⟩,fun a o' e _ _=>by rw [Qar (QaC e hp)]; exact e,fun a e=>by
  by_cases h:a=p
  ·subst h; exact hp
  ·rwa [Qar h] at e,fun a o' u e=>by rw [Qar (QaC e hp)]; exact e⟩
theorem ObR.keep {a:Addr}{o:Ob} (h:ObR K mg H F as a o) (hH:H' a=H a) (e:Same F F') (ea:∀(n:Nat) (a:Addr),as[n]? = some a→as'[n]? = some a):ObR K mg H' F' as' a o:=by
 cases o with
 | ins c fs =>
  obtain ⟨C,dx,gs,h1,h2,h3,h4⟩:=h;exact ⟨C,dx,gs,h1,by rw [hH]; exact h2,h3,Rps.mono e ea _ h4⟩
 | ml ds =>
  obtain ⟨xs,h1,h2⟩:=h;exact ⟨xs,by rw [hH]; exact h1,Rps.mono e ea _ h2⟩
 | dt kvs =>
  obtain ⟨xs,h1,h2,h3⟩:=h;exact ⟨xs,by rw [hH]; exact h1,h2,Rps.mono e ea _ h3⟩
 | df kvs =>
  obtain ⟨o,xs,h1,h2,h3⟩:=h;exact ⟨o,xs,by rw [hH]; exact h1,h2,Rps.mono e ea _ h3⟩
theorem RlO.at {n:Nat}{a:Addr}{o:Ob} (r:RlO K mg O H F as) (ha:as[n]? = some a) (ho:O[n]? = some o):H a≠none:=by
 have q:=r.ob n a o ha ho
 cases o with
 | ins c fs=>obtain ⟨C,dx,gs,h1,h2,_⟩:=q; rw [h2]; exact fun z=>nomatch z
 | ml ds=>obtain ⟨xs,h1,_⟩:=q; rw [h1]; exact fun z=>nomatch z
 | dt kvs=>obtain ⟨xs,h1,_⟩:=q; rw [h1]; exact fun z=>nomatch z
 | df kvs=>obtain ⟨o,xs,h1,_⟩:=q; rw [h1]; exact fun z=>nomatch z
theorem RlO.all {a:Addr} (r:RlO K mg O H F as) (ha:a∈as):H a≠none:=by
 obtain ⟨n,hn,e⟩:=List.mem_iff_getElem.mp ha
 have hO:n < O.length:=by rw [←r.len]; exact hn
 exact r.at (n:=n) (by rw [zo hn,e]) (zo hO)
theorem RlO.lay {p:Addr}{o:HO} (r:RlO K mg O H F as) (hp:H p=none):RlO K mg O (upd H p o) F as:=by
 refine ⟨fun a u e=>?_,r.fd,r.nd,r.len,r.fa,fun n a u ha hu=>(r.ob n a u ha hu).keep (Qar ?_) (Same.refl F) fun _ _ h=>h⟩
 ·have q:=r.fh a u e;rw [Qar (QaC q hp)]; exact q
 ·intro z; subst z; exact r.at ha hu hp
theorem Gr.frz {p:Addr}{o:HO} (hp:H p=none) (g:Gr H F as H' F' as') (hf:F' p=none):Gr H F as H' (upd F' p o) as' :=
 ⟨fun a o' ha hn hd=>by rw [Qar (fun z=>by subst z; rw [hp] at ha; cases ha)]; exact g.fz a o' ha hn hd,fun a u e=>by
  have q:=g.ff a u e
  rw [Qar (QaC q hf)]; exact q,g.nw,g.fr,g.dm,g.kz⟩
theorem RlO.frz {p:Addr}{o:HO} (r:RlO K mg O H F as) (hp:H p=some o) (hf:F p=none) (ha:p∉as) (hd:isD o=true):RlO K mg O H (upd F p o) as:=by
 have ff:Same F (upd F p o):=fun a u e=>by rw [Qar (QaC e hf)]; exact e
 refine ⟨fun a u e=>?_,fun a u e=>?_,r.nd,r.len,fun a h=>?_,fun n a u h1 h2=>(r.ob n a u h1 h2).keep rfl ff fun _ _ h=>h⟩
 ·by_cases h:a=p
  ·subst h; rw [QaG] at e; cases e; exact hp
  ·rw [Qar h] at e; exact r.fh a u e
 ·by_cases h:a=p
  ·subst h; rw [QaG] at e; cases e; exact hd
  ·rw [Qar h] at e; exact r.fd a u e
 ·rw [Qar (fun z=>by subst z; exact ha h)]; exact r.fa a h
end
abbrev RR:=(Addr→Prop)→Hp→Hp→List Addr→V→D→Prop
def rV (K:Frag):RR:=fun _ _ F as v d=>Rp K F as v d
def rS (K:Frag):RR:=fun _ H F as v d=>Sv K H F as v d
def rO (K:Frag):RR:=fun N H F as v d=>Ow K N H F as v d
def rA (K:Frag):Md→RR
 | .v=>rV K
 | _=>rS K
def QeT (R:RR):Prop:=∀(N N':Addr→Prop) (H F:Hp) (as:List Addr) (v:V) (d:D),(∀a,N a→N' a)→R N H F as v d→R N' H F as v d
theorem Qbd {K:Frag}:QeT (rV K):=fun _ _ _ _ _ _ _ _ h=>h
theorem Qch {K:Frag}:QeT (rO K):=fun N N' H F as v d hn h=>by
 rcases h with h | ⟨a,xs,ds,e1,e2,e3,e4,e5,e6,e7⟩
 ·exact .inl h
 ·exact .inr ⟨a,xs,ds,e1,e2,e3,e4,e5,hn a e6,e7⟩
def tM (K:Frag) (mg:Str→Option Value) (md:List Md) (P:Pt) (R:RR) (m:M D):TE:=fun σ H Q =>
 ∃ρ O F as d O',RlO K mg O H F as∧SlO K md P ρ σ H F as∧m ρ O = .ok d O' ∧
  ∀v H' F' as',Gr H F as H' F' as'→RlO K mg O' H' F' as'→R (fun a=>H a=none) H' F' as' v d→Q v H'
def tMT (K:Frag) (mg:Str→Option Value) (md:List Md) (P:Pt) (m:M Bool):TT:=fun σ H Q =>
 ∃ρ O F as b O',RlO K mg O H F as∧SlO K md P ρ σ H F as∧m ρ O = .ok b O' ∧
  ∀H' F' as',Gr H F as H' F' as'→RlO K mg O' H' F' as'→Q b H'
def Qbs (K:Frag) (H F:Hp) (as:List Addr):List Md→List V→List D→Prop
 | [],[],[]=>True
 | m::ms,v::vs,d::ds=>rA K m (fun _=>True) H F as v d∧Qbs K H F as ms vs ds
 | _,_,_=>False
def tMA (K:Frag) (mg:Str→Option Value) (md:List Md) (P:Pt) (ms:List Md) (m:M (List D)):TA:=fun σ H Q =>
 ∃ρ O F as ds O',RlO K mg O H F as∧SlO K md P ρ σ H F as∧m ρ O = .ok ds O' ∧
  ∀vs H' F' as',Gr H F as H' F' as'→RlO K mg O' H' F' as'→Qbs K H' F' as' ms vs ds→Q vs H'
def XE (X:Cx) (md:List Md) (P:Pt) (R:RR) (e:Expr) (m:M D):Prop:=PE X e (tM X.K X.mg md P R m)
def VE (X:Cx) (md:List Md) (P:Pt) (e:Expr) (m:M D):Prop:=PE X e (tM X.K X.mg md P (rV X.K) m)
def SE (X:Cx) (md:List Md) (P:Pt) (e:Expr) (m:M D):Prop:=PE X e (tM X.K X.mg md P (rS X.K) m)
def OE (X:Cx) (md:List Md) (P:Pt) (e:Expr) (m:M D):Prop:=PE X e (tM X.K X.mg md P (rO X.K) m)
def TsE (X:Cx) (md:List Md) (P:Pt) (e:Expr) (m:M Bool):Prop:=PT X e (tMT X.K X.mg md P m)
def TwE (X:Cx) (md:List Md) (P:Pt) (e:Expr) (m:M Bool):Prop:=PW X e (tMT X.K X.mg md P m)
def AE (X:Cx) (md:List Md) (P:Pt) (ms:List Md) (es:List Expr) (m:M (List D)):Prop:=PA X es (tMA X.K X.mg md P ms m)
def QgP (K:Frag) (mg:Str→Option Value) (md:List Md) (P:Pt) (R:RR) (D:Ends) (H F:Hp) (as:List Addr):Fl→Prop
 | .nx ρ' O'=>∀σ' H' F' as',GrS P H F as H' F' as'→RlO K mg O' H' F' as'→SlO K md P ρ' σ' H' F' as'→D.nx σ' H'
 | .bk ρ' O'=>∀σ' H' F' as',GrS P H F as H' F' as'→RlO K mg O' H' F' as'→SlO K md P ρ' σ' H' F' as'→D.bk σ' H'
 | .ct ρ' O'=>∀σ' H' F' as',GrS P H F as H' F' as'→RlO K mg O' H' F' as'→SlO K md P ρ' σ' H' F' as'→D.ct σ' H'
 | .rt d O'=>∀v H' F' as',GrS P H F as H' F' as'→RlO K mg O' H' F' as'→R (fun a=>¬P a) H' F' as' v d→D.rt v H'
 | .ex _ _=>False
 | .no=>False
def tMS (K:Frag) (mg:Str→Option Value) (md:List Md) (P:Pt) (R:RR) (m:MS):TS:=fun D σ H =>
 ∃ρ O F as,RlO K mg O H F as∧SlO K md P ρ σ H F as∧QgP K mg md P R D H F as (m ρ O)
def VS (X:Cx) (md:List Md) (P:Pt) (R:RR) (st:Stmt) (m:MS):Prop:=PS X st (tMS X.K X.mg md P R m)
def VSs (X:Cx) (md:List Md) (P:Pt) (R:RR) (st:List Stmt) (m:MS):Prop:=PSs X st (tMS X.K X.mg md P R m)
section
variable {X:Cx}{md:List Md}{P:Pt}{R:RR}
theorem PE.imp {e:Expr}{t t':TE} (h:PE X e t) (k:∀σ H Q,t' σ H Q→t σ H Q):PE X e t':=fun pins s σ H Q I q=>h pins s σ H Q I (k σ H Q q)
theorem PT.imp {e:Expr}{t t':TT} (h:PT X e t) (k:∀σ H Q,t' σ H Q→t σ H Q):PT X e t':=fun pins s σ H Q I q=>h pins s σ H Q I (k σ H Q q)
theorem PW.imp {e:Expr}{t t':TT} (h:PW X e t) (k:∀σ H Q,t' σ H Q→t σ H Q):PW X e t':=fun w pins s σ H Q I q=>h w pins s σ H Q I (k σ H Q q)
theorem PA.imp {e:List Expr}{t t':TA} (h:PA X e t) (k:∀σ H Q,t' σ H Q→t σ H Q):PA X e t':=fun pos pins s σ H Q I q=>h pos pins s σ H Q I (k σ H Q q)
theorem PS.imp {e:Stmt}{t t':TS} (h:PS X e t) (k:∀D σ H,t' D σ H→t D σ H):PS X e t':=fun pins s σ H D I q=>h pins s σ H D I (k D σ H q)
theorem PSs.imp {e:List Stmt}{t t':TS} (h:PSs X e t) (k:∀D σ H,t' D σ H→t D σ H):PSs X e t':=fun pins s σ H D I q=>h pins s σ H D I (k D σ H q)
def Qaa (i:Nat):M D:=fun ρ O=>match ρ[i]? with
 | some (some d)=>.ok d O
 | _=>.no
def mC (d:D):M D:=fun _ O=>.ok d O
def mG (m:M D):M D:=fun ρ O=>match m ρ O with
 | .ok d O'=>if Qg4 d=true then .ok d O' else .no
 | r=>r
theorem Qi8 {i:Nat}{ρ:Qal}{O O':Qac}{d:D} (h:Qaa i ρ O = .ok d O'):ρ[i]? = some (some d)∧O'=O:=by
 unfold Qaa at h;split at h
 ·rename_i d' e;cases h;exact ⟨e,rfl⟩
 ·cases h
theorem QwZ {m:M D}{ρ:Qal}{O O':Qac}{d:D} (h:mG m ρ O = .ok d O'):m ρ O = .ok d O'∧Qg4 d=true:=by
 unfold mG at h;split at h
 ·rename_i d' O1 e;split at h
  ·rename_i hn;cases h;exact ⟨e,hn⟩
  ·cases h
 ·rename_i hne;exact absurd h (hne _ _)
theorem SlO.get {K:Frag}{ρ:Qal}{σ:St}{H F:Hp}{as:List Addr}{i:Nat}{d:D} (s:SlO K md P ρ σ H F as) (h:ρ[i]? = some (some d)):∃m v,md[i]? = some m∧σ[i]? = some (some v)∧Qea P K H F as m v d:=by
 have hi:i < md.length:=by rw [←s.len']; exact (zk.mp h).1
 obtain ⟨v,h1,h2⟩:=s.sl i md[i] d (zo hi) h;exact ⟨_,v,zo hi,h1,h2⟩
theorem Qea.sv {K:Frag}{H F:Hp}{as:List Addr}{m:Md}{v:V}{d:D} (h:Qea P K H F as m v d):Sv K H F as v d:=by
 cases m with
 | v=>exact .inl h
 | s =>
  rcases h with h | ⟨a,xs,ds,e1,e2,e3,e4,e5,e6⟩
  ·exact .inl h
  ·exact .inr ⟨a,xs,ds,e1,e2,e3,e4,e6⟩
 | o =>
  rcases h with ⟨_,h⟩ | ⟨a,xs,ds,e1,e2,e3,e0,e4,e5,e6⟩
  ·exact .inl h
  ·exact .inr ⟨a,xs,ds,e1,e2,e3,e4,e6⟩
theorem Qah (i:Nat) {x:Str}{pos:Pos} (hN:X.N[i]? = some x:=by rfl) (hv:Vis X.env.scope x:=by first | exact Or.inl rfl | exact Or.inr (Or.inl rfl) | exact Or.inr (Or.inr rfl))
  (hd:(x == ("__debug__":Str))=false:=by decide) (hcd:(x == ("__classdict__":Str))=false:=by decide):SE X md P (.Name x pos) (Qaa i):=by
 refine (Qhd (i:=i) hN hv hd hcd).imp fun σ H Q h=>?_
 obtain ⟨ρ,O,F,as,d,O',r,s,e,k⟩:=h;obtain ⟨e1,rfl⟩:=Qi8 e;obtain ⟨m,v,h1,h2,h3⟩:=s.get e1;exact ⟨v,h2,k v H F as Gr.refl r h3.sv⟩
theorem Qag (i:Nat) {x:Str}{pos:Pos} (hm:md[i]? = some .v:=by rfl) (hN:X.N[i]? = some x:=by rfl) (hv:Vis X.env.scope x:=by first | exact Or.inl rfl | exact Or.inr (Or.inl rfl) | exact Or.inr (Or.inr rfl))
  (hd:(x == ("__debug__":Str))=false:=by decide) (hcd:(x == ("__classdict__":Str))=false:=by decide):VE X md P (.Name x pos) (Qaa i):=by
 refine (Qhd (i:=i) hN hv hd hcd).imp fun σ H Q h=>?_
 obtain ⟨ρ,O,F,as,d,O',r,s,e,k⟩:=h;obtain ⟨e1,rfl⟩:=Qi8 e;obtain ⟨v,h2,h3⟩:=s.sl i .v d hm e1;exact ⟨v,h2,k v H F as Gr.refl r h3⟩
theorem Qad {e:Expr}{m:M D} (h:VE X md P e m):SE X md P e m:=h.imp fun σ H Q q=>by
 obtain ⟨ρ,O,F,as,d,O',r,s,e,k⟩:=q;exact ⟨ρ,_,F,as,_,_,r,s,e,fun v H' F' as' g r' hv=>k v H' F' as' g r' (.inl hv)⟩
theorem Qaw {e:Expr}{m:M D} (h:OE X md P e m):SE X md P e m:=h.imp fun σ H Q q=>by
 obtain ⟨ρ,O,F,as,d,O',r,s,e,k⟩:=q;exact ⟨ρ,_,F,as,_,_,r,s,e,fun v H' F' as' g r' hv=>k v H' F' as' g r' (Ow.sv hv)⟩
theorem Qb2 {e:Expr}{m:M D} (h:SE X md P e m):VE X md P e (mG m):=h.imp fun σ H Q q=>by
 obtain ⟨ρ,O,F,as,d,O',r,s,e,k⟩:=q;obtain ⟨e,hn⟩:=QwZ e;exact ⟨ρ,_,F,as,_,_,r,s,e,fun v H' F' as' g r' hv=>k v H' F' as' g r' (Sv.rp hv hn)⟩
theorem QaF {e:Expr}{m:M D} (h:OE X md P e m):VE X md P e m:=h.imp fun σ H Q q=>by
 obtain ⟨ρ,O,F,as,d,O',r,s,e,k⟩:=q;refine ⟨ρ,_,F,as,_,_,r,s,e,fun v H' F' as' g r' hv=>?_⟩
 rcases hv with ⟨_,hv⟩ | ⟨a,xs,ds,rfl,rfl,e3,e4,e5,e6,e7⟩
 ·exact k v H' F' as' g r' hv
 ·have ff:Same F' (upd F' a (.lst xs)):=fun b u q=>by rw [Qar (QaC q e4)]; exact q
  refine k _ H' (upd F' a (.lst xs)) as' (g.frz e6 e4) (r'.frz e3 e4 e5 rfl) (Rp.mkL (.inl (.inl QaG)) (Rps.mono ff (fun _ _ z=>z) _ e7))
theorem QlZ {e:Expr}{v:V}{d:D} (h:PE X e (tC v)) (hd:∀K F as,Rp K F as v d):VE X md P e (mC d):=h.imp fun σ H Q q=>by
 obtain ⟨ρ,O,F,as,d,O',r,s,e,k⟩:=q;cases e;exact k v H F as Gr.refl r (hd _ _ _)
theorem Qan {i:Int}{j pos}:VE X md P (.Constant (.int i) j pos) (mC (.int i)):=QlZ Qvo fun _ _ _=>Rp.int
theorem Qdt {b:Bool}{j pos}:VE X md P (.Constant (.bool b) j pos) (mC (.bl b)):=QlZ QwO fun _ _ _=>Rp.bl
theorem Qmp {j pos}:VE X md P (.Constant .none j pos) (mC .non):=QlZ QvW fun _ _ _=>Rp.non
theorem QbG {x:Str}{j pos} (l:List Nat) (hx:x=S l:=by decide +kernel):VE X md P (.Constant (.str x) j pos) (mC (.str l)):=QlZ QuE fun _ _ _=>by rw [hx]; exact Rp.str
theorem Qd2 {x:Str}{v:V}{d:D}{pos:Pos} (h:∃u,X.mg x=some u∧RelV v u) (hd:∀K F as,Rp K F as v d) (hg:Gl X x:=by rfl) (hdb:(x == ("__debug__":Str))=false:=by decide):VE X md P (.Name x pos) (mC d):=QlZ (QmL h hg hdb) hd
def Qae:M (List D):=fun _ O=>.ok [] O
def Qab (m:M D) (r:M (List D)):M (List D):=fun ρ O=>(m ρ O).bind fun d O1=>(r ρ O1).bind fun ds O2=>.ok (d::ds) O2
theorem Qaj:AE X md P [] [] Qae:=QiT.imp fun σ H Q q=>by
 obtain ⟨ρ,O,F,as,d,O',r,s,e,k⟩:=q;cases e;exact k [] H F as Gr.refl r trivial
theorem rA.gr {K:Frag}{m:Md}{N:Addr→Prop}{H F H' F':Hp}{as as':List Addr}{v:V}{d:D} (h:rA K m N H F as v d) (g:Gr H F as H' F' as'):rA K m (fun _=>True) H' F' as' v d:=by
 cases m with
 | v=>exact Rp.gr (show Rp K F as v d from h) g
 | s=>exact Sv.gr (show Sv K H F as v d from h) g
 | o=>exact Sv.gr (show Sv K H F as v d from h) g
theorem Qbs.gr {K:Frag}{H F H' F':Hp}{as as':List Addr} (g:Gr H F as H' F' as'):∀{ms:List Md}{vs:List V}{ds:List D},Qbs K H F as ms vs ds→Qbs K H' F' as' ms vs ds
 | [],[],[],_=>trivial
 | m::ms,v::vs,d::ds,h=>⟨rA.gr h.1 g,Qbs.gr g h.2⟩
 | [],[],_::_,h=>h.elim
 | [],_::_,[],h=>h.elim
 | [],_::_,_::_,h=>h.elim
 | _::_,[],[],h=>h.elim
 | _::_,[],_::_,h=>h.elim
 | _::_,_::_,[],h=>h.elim
theorem QnE (md0:Md) {e:Expr}{es:List Expr}{m:M D}{ms:List Md}{r:M (List D)} (h:XE X md P (rA X.K md0) e m) (hr:AE X md P ms es r)
  (hs:starEach (e::es) X.env=(false,eval e X.env)::starEach es X.env:=by exact QbN rfl):AE X md P (md0::ms) (e::es) (Qab m r):=(Qf4 h hr hs).imp fun σ H Q q=>by
 obtain ⟨ρ,O,F,as,d,O',r0,s,e,k⟩:=q;obtain ⟨d,O1,e1,e⟩:=Res.bind_ok e;obtain ⟨ds',O2,e2,e⟩:=Res.bind_ok e;cases e;refine ⟨ρ,_,F,as,_,_,r0,s,e1,fun v H1 F1 as1 g1 r1 hv=>?_⟩;refine ⟨ρ,_,F1,as1,_,_,r1,s.step g1,e2,fun vs H2 F2 as2 g2 r2 hvs=>?_⟩;exact k (v::vs) H2 F2 as2 (g1.trans g2) r2 ⟨rA.gr hv g2,hvs⟩
theorem Qa0 {e:Expr}{es:List Expr}{m:M D}{ms:List Md}{r:M (List D)} (h:VE X md P e m) (hr:AE X md P ms es r)
  (hs:starEach (e::es) X.env=(false,eval e X.env)::starEach es X.env:=by exact QbN rfl):AE X md P (.v::ms) (e::es) (Qab m r):=QnE .v h hr hs
theorem Qao {e:Expr}{es:List Expr}{m:M D}{ms:List Md}{r:M (List D)} (h:SE X md P e m) (hr:AE X md P ms es r)
  (hs:starEach (e::es) X.env=(false,eval e X.env)::starEach es X.env:=by exact QbN rfl):AE X md P (.s::ms) (e::es) (Qab m r):=QnE .s h hr hs
theorem Qbs.rps {K:Frag}{H F:Hp}{as:List Addr}:∀{n:Nat}{vs:List V}{ds:List D},Qbs K H F as (List.replicate n .v) vs ds→Rps K F as vs ds
 | 0,[],[],_=>Rps.nil
 | n+1,v::vs,d::ds,h=>by
  rw [List.replicate_succ] at h;exact Rps.cons h.1 (Qbs.rps h.2)
 | 0,[],_::_,h=>h.elim
 | 0,_::_,[],h=>h.elim
 | 0,_::_,_::_,h=>h.elim
 | n+1,[],[],h=>h.elim
 | n+1,[],_::_,h=>h.elim
 | n+1,_::_,[],h=>h.elim
def Qbn (r:M (List D)):M D:=fun ρ O=>(r ρ O).bind fun ds O1=>if ds.length≤1000000 then .ok (.lst ds) O1 else .no
def QbS (r:M (List D)):M D:=fun ρ O=>(r ρ O).bind fun ds O1=>if ds.length≤1000000 then .ok (.tup ds) O1 else .no
theorem Qd0 {n:Nat} (h:n≤1000000):n≤sizeLine:=zF h (by decide)
theorem Qbu {es:List Expr}{pos:Pos}{r:M (List D)} (n:Nat) (h:AE X md P (List.replicate n .v) es r):OE X md P (.List es pos) (Qbn r):=(QvR h).imp fun σ H Q q=>by
 obtain ⟨ρ,O,F,as,d,O',r0,s,e,k⟩:=q;obtain ⟨ds,O1,e1,e⟩:=Res.bind_ok e;split at e
 ·rename_i hz;cases e;refine ⟨ρ,_,F,as,_,_,r0,s,e1,fun vs H1 F1 as1 g1 r1 hv=>?_⟩;have hr:=hv.rps;refine ⟨by rw [hr.length]; exact Qd0 hz,fun p hp=>?_⟩
  have hF:F1 p=none:=by
   cases q:F1 p with
   | none=>rfl
   | some o=>rw [r1.fh p o q] at hp; cases hp
  refine k _ _ F1 as1 (g1.trans (Gr.lay hp)) (r1.lay hp) (.inr ⟨p,vs,ds,rfl,rfl,QaG,hF,fun z=>r1.all z hp,g1.dm p hp,hr⟩)
 ·cases e
theorem Qcf {es:List Expr}{pos:Pos}{x1}{r:M (List D)} (n:Nat) (h:AE X md P (List.replicate n .v) es r):VE X md P (.Tuple es x1 pos) (QbS r):=(QuY h).imp fun σ H Q q=>by
 obtain ⟨ρ,O,F,as,d,O',r0,s,e,k⟩:=q;obtain ⟨ds,O1,e1,e⟩:=Res.bind_ok e;split at e
 ·rename_i hz;cases e;refine ⟨ρ,_,F,as,_,_,r0,s,e1,fun vs H1 F1 as1 g1 r1 hv=>?_⟩;have hr:=hv.rps;refine ⟨by rw [hr.length]; exact Qd0 hz,fun p hp=>?_⟩
  have hF:F1 p=none:=by
   cases q:F1 p with
   | none=>rfl
   | some o=>rw [r1.fh p o q] at hp; cases hp
  have ff:Same F1 (upd F1 p (.tup vs)):=fun b u q=>by rw [Qar (QaC q hF)]; exact q
  refine k _ _ (upd F1 p (.tup vs)) as1 ((g1.trans (Gr.lay hp)).frz (g1.dm p hp) hF) ((r1.lay hp).frz QaG hF (fun z=>r1.all z hp) rfl) (Rp.mkT (.inl QaG) (Rps.mono ff (fun _ _ z=>z) _ hr))
 ·cases e
def rD (K:Frag) (mg:Str→Option Value) (g:D→D→Option D):R2:=fun x y H Q=>∃O F as dx dy d,RlO K mg O H F as∧Lk K H F as x dx∧Lk K H F as y dy∧g dx dy=some d ∧
 ∀v' H' F',Gr H F as H' F' as→RlO K mg O H' F' as→Ow K (fun a=>H a=none) H' F' as v' d→Q v' H'
abbrev OpD (X:Cx) (f:Value→Value→Sem Value) (g:D→D→Option D):Prop:=OpR X f (rD X.K X.mg g)
def Qaf (g:D→D→Option D) (ma mb:M D):M D:=fun ρ O=>(ma ρ O).bind fun x O1=>(mb ρ O1).bind fun y O2=>match g (QaR O2 x) (QaR O2 y) with
 | some d=>.ok d O2
 | none=>.no
theorem Qmw {K:Frag}{mg:Str→Option Value}{g:D→D→Option D}{ma mb:M D}{σ:St}{H:Hp}{Q:VK} (h:tM K mg md P (rO K) (Qaf g ma mb) σ H Q):tOp (rD K mg g) (tM K mg md P (rS K) ma) (tM K mg md P (rS K) mb) σ H Q:=by
 obtain ⟨ρ,O,F,as,d,O',r,sl,e,k⟩:=h;obtain ⟨x,O1,e1,e⟩:=Res.bind_ok e;obtain ⟨y,O2,e2,e⟩:=Res.bind_ok e;split at e
 ·rename_i d' hg;cases e;refine ⟨ρ,_,F,as,_,_,r,sl,e1,fun v H1 F1 as1 g1 r1 hv=>?_⟩;refine ⟨ρ,_,F1,as1,_,_,r1,sl.step g1,e2,fun u H2 F2 as2 g2 r2 hu=>?_⟩;refine ⟨_,F2,as2,_,_,_,r2,Sv.lk (Sv.gr hv g2) r2,Sv.lk hu r2,hg,fun v' H' F' g' r' hw=>?_⟩;exact k v' H' F' as2 ((g1.trans g2).trans g') r' (Qch _ _ _ _ _ _ _ (fun a ha=>(g1.trans g2).dm a ha) hw)
 ·cases e
theorem QaE {e1 e2:Expr}{pos:Pos}{op:Operator}{g:D→D→Option D}{ma mb:M D} (ho:OpD X (binaryOp op) g) (ha:SE X md P e1 ma) (hb:SE X md P e2 mb):OE X md P (.BinOp e1 op e2 pos) (Qaf g ma mb) :=
 (Qwz ho ha hb).imp fun _ _ _=>Qmw
theorem Qgu {e1 e2:Expr}{pos:Pos}{op:CmpOp}{g:D→D→Option D}{ma mb:M D} (ho:OpD X (compareOp op) g) (ha:SE X md P e1 ma) (hb:SE X md P e2 mb) (hm:behindInMarks op e2=false):OE X md P (.Compare e1 [op] [e2] pos) (Qaf g ma mb) :=
 (QsD ho ha hb hm).imp fun _ _ _=>Qmw
def Qat (m:M D):M Bool:=fun ρ O=>(m ρ O).bind fun d O1=>match d with
 | .bl b=>.ok b O1
 | _=>.no
theorem Qja {K:Frag}{mg:Str→Option Value}{m:M D}{σ:St}{H:Hp}{Q:Bool→Hp→Prop} (h:tMT K mg md P (Qat m) σ H Q):QlB (tM K mg md P (rO K) m) σ H Q:=by
 obtain ⟨ρ,O,F,as,d,O',r,sl,e,k⟩:=h;obtain ⟨d,O1,e1,e⟩:=Res.bind_ok e
 cases d with
 | bl c =>
  cases e;refine ⟨ρ,_,F,as,_,_,r,sl,e1,fun v H1 F1 as1 g1 r1 hv=>?_⟩
  rcases hv with ⟨_,hv⟩ | ⟨a,xs,ds,_,e2,_⟩
  ·exact ⟨_,hv.unB,k H1 F1 as1 g1 r1⟩
  ·cases e2
 | _=>cases e
theorem QaW {e1 e2:Expr}{pos:Pos}{op:CmpOp}{g:D→D→Option D}{ma mb:M D} (ho:OpD X (compareOp op) g) (ha:SE X md P e1 ma) (hb:SE X md P e2 mb) (hm:behindInMarks op e2=false):TsE X md P (.Compare e1 [op] [e2] pos) (Qat (Qaf g ma mb)) :=
 (QsR ho ha hb hm).imp fun σ H Q h=>by
  have q:=Qja h;exact Qmw q
def Qeg (g g':D→D→Option D) (ma mb mc:M D):M D:=fun ρ O=>(ma ρ O).bind fun x O1=>(mb ρ O1).bind fun y O2=>match g (QaR O2 x) (QaR O2 y) with
 | some (.bl true)=>(mc ρ O2).bind fun z O3=>match g' (QaR O3 y) (QaR O3 z) with
  | some d=>.ok d O3
  | none=>.no
 | some (.bl false)=>.ok (.bl false) O2
 | _=>.no
theorem Ql3 {K:Frag}{mg:Str→Option Value}{g g':D→D→Option D}{ma mb mc:M D}{σ:St}{H:Hp}{Q:VK} (h:tM K mg md P (rO K) (Qeg g g' ma mb mc) σ H Q) :
  QmU (rD K mg g) (rD K mg g') (tM K mg md P (rS K) ma) (tM K mg md P (rS K) mb) (tM K mg md P (rS K) mc) σ H Q:=by
 obtain ⟨ρ,O,F,as,d,O',r,sl,e,k⟩:=h;obtain ⟨x,O1,e1,e⟩:=Res.bind_ok e;obtain ⟨y,O2,e2,e⟩:=Res.bind_ok e;refine ⟨ρ,_,F,as,_,_,r,sl,e1,fun v H1 F1 as1 g1 r1 hv=>?_⟩;refine ⟨ρ,_,F1,as1,_,_,r1,sl.step g1,e2,fun u H2 F2 as2 g2 r2 hu=>?_⟩;split at e
 ·rename_i hg;obtain ⟨z,O3,e3,e⟩:=Res.bind_ok e;refine ⟨_,F2,as2,_,_,_,r2,Sv.lk (Sv.gr hv g2) r2,Sv.lk hu r2,hg,fun v' H' F' g' r' hw=>?_⟩
  rcases hw with ⟨_,hw⟩ | ⟨a,xs,ds,_,z,_⟩
  ·refine ⟨true,hw.unB,?_⟩;rw [if_pos rfl];split at e
   ·rename_i d' hg';cases e;have g3:=(g1.trans g2).trans g';refine ⟨ρ,_,F',as2,_,_,r',sl.step g3,e3,fun w H4 F4 as4 g4 r4 hz=>?_⟩;refine ⟨_,F4,as4,_,_,_,r4,Sv.lk (Sv.gr (Sv.gr hu g') g4) r4,Sv.lk hz r4,hg',fun v5 H5 F5 g5 r5 hw5=>?_⟩;exact k v5 H5 F5 as4 ((g3.trans g4).trans g5) r5 (Qch _ _ _ _ _ _ _ (fun a ha=>(g3.trans g4).dm a ha) hw5)
   ·cases e
  ·cases z
 ·rename_i hg;cases e;refine ⟨_,F2,as2,_,_,_,r2,Sv.lk (Sv.gr hv g2) r2,Sv.lk hu r2,hg,fun v' H' F' g' r' hw=>?_⟩
  rcases hw with ⟨_,hw⟩ | ⟨a,xs,ds,_,z,_⟩
  ·refine ⟨false,hw.unB,?_⟩;rw [if_neg zj];exact k _ H' F' as2 ((g1.trans g2).trans g') r' (.inl ⟨rfl,Rp.bl⟩)
  ·cases z
 ·cases e
theorem Qm5 {a b c:Expr}{pos:Pos}{op op':CmpOp}{g g':D→D→Option D}{ma mb mc:M D} (ho:OpD X (compareOp op) g) (ho':OpD X (compareOp op') g') (ha:SE X md P a ma) (hb:SE X md P b mb) (hc:SE X md P c mc)
  (hm:lastMarks [op,op'] [b,c]=false:=by with_unfolding_all rfl):OE X md P (.Compare a [op,op'] [b,c] pos) (Qeg g g' ma mb mc):=(QqW ho ho' ha hb hc hm).imp fun _ _ _=>Ql3
theorem QqO {a b c:Expr}{pos:Pos}{op op':CmpOp}{g g':D→D→Option D}{ma mb mc:M D} (ho:OpD X (compareOp op) g) (ho':OpD X (compareOp op') g') (ha:SE X md P a ma) (hb:SE X md P b mb) (hc:SE X md P c mc)
  (hm:lastMarks [op,op'] [b,c]=false:=by with_unfolding_all rfl):TsE X md P (.Compare a [op,op'] [b,c] pos) (Qat (Qeg g g' ma mb mc)):=(QrR ho ho' ha hb hc hm).imp fun _ _ _ h=>Ql3 (Qja h)
def isNon:D→Bool
 | .non=>true
 | _=>false
def Qg6 (m:M D):M D:=fun ρ O=>(m ρ O).bind fun d O1=>.ok (.bl (isNon d)) O1
def Qee (m:M D):M D:=fun ρ O=>(m ρ O).bind fun d O1=>.ok (.bl (!isNon d)) O1
theorem Sv.isN {K:Frag}{H F:Hp}{as:List Addr}{v:V}{d:D} (h:Sv K H F as v d):decide (v = .non)=isNon d:=by
 rcases h with h | ⟨a,xs,ds,rfl,rfl,_⟩
 ·cases d with
  | non=>rw [h.unN]; rfl
  | bl b=>rw [h.unB]; rfl
  | int b=>rw [h.unI]; rfl
  | str b=>rw [h.unS]; rfl
  | lst b=>obtain ⟨a,xs,rfl,_⟩:=h.unL; rfl
  | tup b=>obtain ⟨a,xs,rfl,_⟩:=h.unT; rfl
  | dic k b=>obtain ⟨a,xs,rfl,_⟩:=h.unD; rfl
  | ob b=>obtain ⟨a,rfl,_⟩:=h.unO; rfl
 ·rfl
theorem Qt8 {K:Frag}{mg:Str→Option Value}{m:M D}{σ:St}{H:Hp}{Q:VK} (h:tM K mg md P (rO K) (Qg6 m) σ H Q):Qt9 (tM K mg md P (rS K) m) σ H Q:=by
 obtain ⟨ρ,O,F,as,d,O',r,sl,e,k⟩:=h;obtain ⟨x,O1,e1,e⟩:=Res.bind_ok e;cases e;refine ⟨ρ,_,F,as,_,_,r,sl,e1,fun v H1 F1 as1 g1 r1 hv=>?_⟩;dsimp only;rw [Sv.isN hv];exact k _ H1 F1 as1 g1 r1 (.inl ⟨rfl,Rp.bl⟩)
theorem QsV {K:Frag}{mg:Str→Option Value}{m:M D}{σ:St}{H:Hp}{Q:VK} (h:tM K mg md P (rO K) (Qee m) σ H Q):Qsh (tM K mg md P (rS K) m) σ H Q:=by
 obtain ⟨ρ,O,F,as,d,O',r,sl,e,k⟩:=h;obtain ⟨x,O1,e1,e⟩:=Res.bind_ok e;cases e;refine ⟨ρ,_,F,as,_,_,r,sl,e1,fun v H1 F1 as1 g1 r1 hv=>?_⟩;dsimp only;rw [Sv.isN hv];exact k _ H1 F1 as1 g1 r1 (.inl ⟨rfl,Rp.bl⟩)
theorem Qsf {t t':TE}{σ:St}{H:Hp}{Q:Bool→Hp→Prop} (h:∀Q',t σ H Q'→t' σ H Q') (q:QlB t σ H Q):tB t' σ H Q:=h _ q
theorem Qmm {a:Expr}{pos pos':Pos}{j}{m:M D} (h:SE X md P a m):TsE X md P (.Compare a [.Is] [.Constant .none j pos'] pos) (Qat (Qg6 m)):=(QpV (Qus h)).imp fun _ _ _ q=>Qsf (fun _=>Qt8) (Qja q)
theorem QnT {a:Expr}{pos pos':Pos}{j}{m:M D} (h:SE X md P a m):TsE X md P (.Compare a [.IsNot] [.Constant .none j pos'] pos) (Qat (Qee m)):=(QpV (QtE h)).imp fun _ _ _ q=>Qsf (fun _=>QsV) (Qja q)
def QkQ:D→Option Bool
 | .non=>some false
 | .bl b=>some b
 | .int i=>some (i != 0)
 | .str l=>if l.length≤1000000 then some (!l.isEmpty) else none
 | .lst ds=>some (!ds.isEmpty)
 | .tup ds=>some (!ds.isEmpty)
 | .dic ks _=>some (!ks.isEmpty)
 | .ob _=>none
def Qcd (m:M D):M Bool:=fun ρ O=>(m ρ O).bind fun d O1=>match QkQ (QaR O1 d) with
 | some b=>.ok b O1
 | none=>.no
theorem Qll {α β:Type}{xs:List α}{ys:List β} (h:xs.length=ys.length):(!xs.isEmpty) = !ys.isEmpty:=by
 cases xs <;> cases ys <;> simp_all
theorem Lk.tru {K:Frag}{H F:Hp}{as:List Addr}{v:V}{d:D}{b:Bool} (h:Lk K H F as v d) (fh:Same F H) (e:QkQ d=some b):Qrf K v H b:=by
 cases d with
 | non=>rw [(h.rp rfl).unN]; cases e; rfl
 | bl b=>rw [(h.rp rfl).unB]; cases e; rfl
 | int b=>rw [(h.rp rfl).unI]; cases e; rfl
 | str l =>
  rw [(h.rp rfl).unS];simp only [QkQ] at e;split at e
  ·rename_i hl;cases e;refine ⟨by rw [QbI]; exact Qd0 hl,?_⟩;rw [QbI]
   cases l with
   | nil=>rfl
   | cons c l =>
    have:((((c::l).length:Nat):Int) != 0)=true:=by
     rw [bne_iff_ne,zz];omega
    rw [this];rfl
  ·cases e
 | lst ds =>
  obtain ⟨a,xs,rfl,h1,h2⟩:=h.list fh;cases e;exact .inl ⟨xs,h1.sq,(Qll h2.length).symm⟩
 | tup ds =>
  obtain ⟨a,xs,rfl,h1,h2⟩:=(h.rp rfl).unT;cases e;exact .inr (.inl ⟨xs,Same.seqT fh h1,(Qll h2.length).symm⟩)
 | dic ks vs =>
  obtain ⟨a,kvs,rfl,h1,rfl,h2⟩:=(h.rp rfl).unD;cases e;exact .inr (.inr ⟨kvs,fh _ _ h1,by cases kvs <;> rfl⟩)
 | ob n=>cases e
theorem Qer {a:Expr}{m:M D} (h:SE X md P a m) (he:∀whole,isTrue a X.env whole=(do let v ←whole; standAt a.pos; holding [v] (truthy v)):=by intro _; rfl):TsE X md P a (Qcd m):=(QrA h he).imp fun σ H Q q=>by
 obtain ⟨ρ,O,F,as,d,O',r,sl,e,k⟩:=q;obtain ⟨d,O1,e1,e⟩:=Res.bind_ok e;split at e
 ·rename_i c hc;cases e;exact ⟨ρ,_,F,as,_,_,r,sl,e1,fun v H1 F1 as1 g1 r1 hv=>⟨_,Lk.tru (Sv.lk hv r1) r1.fh hc,k H1 F1 as1 g1 r1⟩⟩
 ·cases e
def QcF (a b:M Bool):M Bool:=fun ρ O=>(a ρ O).bind fun c O1=>if c=true then b ρ O1 else .ok false O1
def Qep (a b:M Bool):M Bool:=fun ρ O=>(a ρ O).bind fun c O1=>if c=true then .ok true O1 else b ρ O1
def Qc9 (a:M Bool):M Bool:=fun ρ O=>(a ρ O).bind fun c O1=>.ok (!c) O1
theorem QsN {K:Frag}{mg:Str→Option Value}{ma mb:M Bool}{σ:St}{H:Hp}{Q:Bool→Hp→Prop} (h:tMT K mg md P (QcF ma mb) σ H Q):QvQ (tMT K mg md P ma) (tMT K mg md P mb) σ H Q:=by
 obtain ⟨ρ,O,F,as,d,O',r,sl,e,k⟩:=h;obtain ⟨c,O1,e1,e⟩:=Res.bind_ok e;refine ⟨ρ,_,F,as,_,_,r,sl,e1,fun H1 F1 as1 g1 r1=>?_⟩
 cases c with
 | true =>
  rw [if_pos rfl] at e ⊢;exact ⟨ρ,_,F1,as1,_,_,r1,sl.step g1,e,fun H2 F2 as2 g2 r2=>k H2 F2 as2 (g1.trans g2) r2⟩
 | false =>
  rw [if_neg zj] at e ⊢;cases e;exact k H1 F1 as1 g1 r1
theorem Qvw {K:Frag}{mg:Str→Option Value}{ma mb:M Bool}{σ:St}{H:Hp}{Q:Bool→Hp→Prop} (h:tMT K mg md P (Qep ma mb) σ H Q):tOr (tMT K mg md P ma) (tMT K mg md P mb) σ H Q:=by
 obtain ⟨ρ,O,F,as,d,O',r,sl,e,k⟩:=h;obtain ⟨c,O1,e1,e⟩:=Res.bind_ok e;refine ⟨ρ,_,F,as,_,_,r,sl,e1,fun H1 F1 as1 g1 r1=>?_⟩
 cases c with
 | true =>
  rw [if_pos rfl] at e ⊢;cases e;exact k H1 F1 as1 g1 r1
 | false =>
  rw [if_neg zj] at e ⊢;exact ⟨ρ,_,F1,as1,_,_,r1,sl.step g1,e,fun H2 F2 as2 g2 r2=>k H2 F2 as2 (g1.trans g2) r2⟩
theorem Qhi {a:Expr}{pos:Pos}{m:M Bool} (h:TsE X md P a m):TwE X md P (.BoolOp .And [a] pos) m:=QtO h
theorem Qmd {a:Expr}{pos:Pos}{m:M Bool} (h:TsE X md P a m):TwE X md P (.BoolOp .Or [a] pos) m:=Qud h
theorem QiP {a b:Expr}{rest:List Expr}{pos:Pos}{ma mb:M Bool} (ha:TsE X md P a ma) (hb:TwE X md P (.BoolOp .And (b::rest) pos) mb):TwE X md P (.BoolOp .And (a::b::rest) pos) (QcF ma mb):=(QuT ha hb).imp fun _ _ _=>QsN
theorem QlF {a b:Expr}{rest:List Expr}{pos:Pos}{ma mb:M Bool} (ha:TsE X md P a ma) (hb:TwE X md P (.BoolOp .Or (b::rest) pos) mb):TwE X md P (.BoolOp .Or (a::b::rest) pos) (Qep ma mb):=(QwI ha hb).imp fun _ _ _=>Qvw
theorem QiB {e:Expr}{m:M Bool} (h:TwE X md P e m):TsE X md P e m:=PW.pt h
theorem Qiq {a:Expr}{pos:Pos}{m:M Bool} (h:TsE X md P a m):TsE X md P (.UnaryOp .Not a pos) (Qc9 m):=(Qu6 h).imp fun σ H Q q=>by
 obtain ⟨ρ,O,F,as,d,O',r,sl,e,k⟩:=q;obtain ⟨c,O1,e1,e⟩:=Res.bind_ok e;cases e;exact ⟨ρ,_,F,as,_,_,r,sl,e1,k⟩
def QgE (ma mb:M D):M D:=fun ρ O=>(ma ρ O).bind fun d O1=>match d with
 | .bl true=>mb ρ O1
 | .bl false=>.ok (.bl false) O1
 | _=>.no
def QuD (ma mb:M D):M D:=fun ρ O=>(ma ρ O).bind fun d O1=>match d with
 | .bl true=>.ok (.bl true) O1
 | .bl false=>mb ρ O1
 | _=>.no
def QoC (ma:M D):M D:=fun ρ O=>(ma ρ O).bind fun d O1=>match d with
 | .bl b=>.ok (.bl (!b)) O1
 | _=>.no
theorem QiO {a:Expr}{pos:Pos}{op}{m:M D} (h:VE X md P a m):VE X md P (.BoolOp op [a] pos) m:=Quk h
theorem Qix {a b:Expr}{rest:List Expr}{pos:Pos}{ma mb:M D} (ha:VE X md P a ma) (hb:VE X md P (.BoolOp .And (b::rest) pos) mb):VE X md P (.BoolOp .And (a::b::rest) pos) (QgE ma mb):=(QuV ha hb).imp fun σ H Q q=>by
 obtain ⟨ρ,O,F,as,d,O',r,sl,e,k⟩:=q;obtain ⟨x,O1,e1,e⟩:=Res.bind_ok e;refine ⟨ρ,_,F,as,_,_,r,sl,e1,fun v H1 F1 as1 g1 r1 hv=>?_⟩
 cases x with
 | bl c =>
  refine ⟨c,Rp.unB hv,?_⟩
  cases c with
  | true =>
   rw [if_pos rfl];exact ⟨ρ,_,F1,as1,_,_,r1,sl.step g1,e,fun v2 H2 F2 as2 g2 r2 hv2=>k v2 H2 F2 as2 (g1.trans g2) r2 hv2⟩
  | false =>
   rw [if_neg zj];cases e;exact k _ H1 F1 as1 g1 r1 Rp.bl
 | _=>cases e
theorem QuS {a:Expr}{pos:Pos}{m:M D} (h:VE X md P a m):VE X md P (.UnaryOp .Not a pos) (QoC m):=(Qur h).imp fun σ H Q q=>by
 obtain ⟨ρ,O,F,as,d,O',r,sl,e,k⟩:=q;obtain ⟨x,O1,e1,e⟩:=Res.bind_ok e;refine ⟨ρ,_,F,as,_,_,r,sl,e1,fun v H1 F1 as1 g1 r1 hv=>?_⟩
 cases x with
 | bl c =>
  cases e;exact ⟨c,Rp.unB hv,k _ H1 F1 as1 g1 r1 Rp.bl⟩
 | _=>cases e
def mIf (t:M Bool) (a b:M D):M D:=fun ρ O=>(t ρ O).bind fun c O1=>if c=true then a ρ O1 else b ρ O1
theorem Qwe (hR:QeT R) {c a b:Expr}{pos:Pos}{mc:M Bool}{ma mb:M D} (hc:TsE X md P c mc) (ha:PE X a (tM X.K X.mg md P R ma)) (hb:PE X b (tM X.K X.mg md P R mb)):PE X (.IfExp c a b pos) (tM X.K X.mg md P R (mIf mc ma mb)):=(QrF hc ha hb).imp fun σ H Q q=>by
 obtain ⟨ρ,O,F,as,d,O',r,sl,e,k⟩:=q;obtain ⟨x,O1,e1,e⟩:=Res.bind_ok e;refine ⟨ρ,_,F,as,_,_,r,sl,e1,fun H1 F1 as1 g1 r1=>?_⟩
 cases x with
 | true =>
  rw [if_pos rfl] at e ⊢;exact ⟨ρ,_,F1,as1,_,_,r1,sl.step g1,e,fun v2 H2 F2 as2 g2 r2 hv2=>k v2 H2 F2 as2 (g1.trans g2) r2 (hR _ _ _ _ _ _ _ (fun a ha=>g1.dm a ha) hv2)⟩
 | false =>
  rw [if_neg zj] at e ⊢;exact ⟨ρ,_,F1,as1,_,_,r1,sl.step g1,e,fun v2 H2 F2 as2 g2 r2 hv2=>k v2 H2 F2 as2 (g1.trans g2) r2 (hR _ _ _ _ _ _ _ (fun a ha=>g1.dm a ha) hv2)⟩
theorem QlE {c a b:Expr}{pos:Pos}{mc:M Bool}{ma mb:M D} (hc:TsE X md P c mc) (ha:VE X md P a ma) (hb:VE X md P b mb):VE X md P (.IfExp c a b pos) (mIf mc ma mb):=Qwe Qbd hc ha hb
end
section
variable {K:Frag}{mg:Str→Option Value}{md:List Md}{P:Pt}{R:RR}{ρ:Qal}{σ:St}{H F H' F':Hp}{as as':List Addr}{O O':Qac}
theorem SlO.set {i:Nat}{m:Md}{v:V}{d:D} (s:SlO K md P ρ σ H F as) (hm:md[i]? = some m) (hns:m≠.s) (hv:Qea P K H F as m v d)
  (hj:∀(a:Addr) (ds:List D) (j:Nat) (es:List D),m = .o→v = .ref a→d = .lst ds→i≠j→md[j]? = some .o→ρ[j]? = some (some (.lst es))→σ[j]?≠some (some (.ref a))):SlO K md P (ρ.set i (some d)) (σ.set i (some v)) H F as:=by
 have hi:i < md.length:=(zk.mp hm).1;refine ⟨by rw [jj]; exact s.len,by rw [jj]; exact s.len',s.pd,fun j m' d' e1 e2=>?_,fun j k a ds es h1 h2 h3 h4 h5 h6=>?_,fun x hx=>?_⟩
 ·by_cases h:i=j
  ·subst h;rw [hm] at e1; cases e1;rw [zT (by rw [s.len']; exact hi)] at e2;cases e2;exact ⟨v,zT (by rw [s.len]; exact hi),hv⟩
  ·rw [zu h] at e2;rw [zu h];exact s.sl j m' d' e1 e2
 ·by_cases hij:i=j
  ·by_cases hik:i=k
   ·rw [←hij,←hik]
   ·exfalso
    subst hij;rw [hm] at h1; cases h1;rw [zT (by rw [s.len']; exact hi)] at h3;rw [zT (by rw [s.len]; exact hi)] at h5;rw [zu hik] at h4 h6;cases h3; cases h5;exact hj a ds k es rfl rfl rfl hik h2 h4 h6
  ·by_cases hik:i=k
   ·exfalso
    subst hik;rw [hm] at h2; cases h2;rw [zT (by rw [s.len']; exact hi)] at h4;rw [zT (by rw [s.len]; exact hi)] at h6;rw [zu hij] at h3 h5;cases h4; cases h6;exact hj a es j ds rfl rfl rfl hij h1 h3 h5
   ·rw [zu hij] at h3 h5;rw [zu hik] at h4 h6;exact s.inj j k a ds es h1 h2 h3 h4 h5 h6
 ·obtain ⟨p1,p2,p3⟩:=s.pin x hx
  have hne:i≠x.1:=fun z=>by
   rw [←z,hm] at p1;exact hns (zH p1)
  exact ⟨p1,by rw [zu hne]; exact p2,by rw [zu hne]; exact p3⟩
theorem SlO.setV {i:Nat}{v:V}{d:D} (s:SlO K md P ρ σ H F as) (hm:md[i]? = some .v) (hv:Rp K F as v d):SlO K md P (ρ.set i (some d)) (σ.set i (some v)) H F as :=
 s.set hm (by decide) hv fun _ _ _ _ z=>nomatch z
theorem SlO.setN {i:Nat}{v:V}{d:D} (s:SlO K md P ρ σ H F as) (hm:md[i]? = some .o) (hn:Qg4 d=true) (hv:Rp K F as v d):SlO K md P (ρ.set i (some d)) (σ.set i (some v)) H F as :=
 s.set hm (by decide) (.inl ⟨hn,hv⟩) fun _ _ _ _ _ _ z=>by subst z; cases hn
theorem SlO.setO {i:Nat}{v:V}{d:D}{H0:Hp} (s:SlO K md P ρ σ H0 F as) (g:Gr H0 F as H' F' as') (hm:md[i]? = some .o) (hv:Ow K (fun a=>H0 a=none) H' F' as' v d):SlO K md P (ρ.set i (some d)) (σ.set i (some v)) H' F' as':=by
 have s':=s.step g
 rcases hv with ⟨hn,hv⟩ | ⟨a,xs,ds,rfl,rfl,e3,e4,e5,e6,e7⟩
 ·exact s'.setN hm hn hv
 ·refine s'.set hm (by decide) (.inr ⟨a,xs,ds,rfl,rfl,e3,e4,e5,fun p=>s.pd a p e6,e7⟩) fun b ds' j es _ hb hd hij hj he hs=>?_
  cases hb;obtain ⟨v,h1,h2⟩:=s.sl j .o _ hj he;rw [hs] at h1; cases h1
  rcases h2 with ⟨h2,_⟩ | ⟨a',xs',_,z1,_,z3,_⟩
  ·cases h2
  ·cases z1;rw [e6] at z3; cases z3
end
section
variable {X:Cx}{md:List Md}{P:Pt}{R:RR}
def QaP:MS:=fun ρ O=>.nx ρ O
def Qai (a b:MS):MS:=fun ρ O=>match a ρ O with
 | .nx ρ' O'=>b ρ' O'
 | r=>r
theorem Qa2:VSs X md P R [] QaP:=Qs3.imp fun D σ H q=>by
 obtain ⟨ρ,O,F,as,r,s,k⟩:=q;exact k σ H F as GrS.refl r s
theorem QdO {K:Frag}{mg:Str→Option Value}{D:Ends}{H F H1 F1:Hp}{as as1:List Addr} (g:GrS P H F as H1 F1 as1) {f:Fl} (k:QgP K mg md P R D H F as f):QgP K mg md P R D H1 F1 as1 f:=by
 cases f with
 | nx ρ' O'=>exact fun σ' H' F' as' g'=>k σ' H' F' as' (g.trans g')
 | bk ρ' O'=>exact fun σ' H' F' as' g'=>k σ' H' F' as' (g.trans g')
 | ct ρ' O'=>exact fun σ' H' F' as' g'=>k σ' H' F' as' (g.trans g')
 | rt d O'=>exact fun σ' H' F' as' g'=>k σ' H' F' as' (g.trans g')
 | ex _ _=>exact k
 | no=>exact k
theorem Qak {st:Stmt}{rest:List Stmt}{a b:MS} (h1:VS X md P R st a) (h2:VSs X md P R rest b):VSs X md P R (st::rest) (Qai a b):=(QrK h1 h2).imp fun D σ H q=>by
 obtain ⟨ρ,O,F,as,r,s,k⟩:=q;refine ⟨ρ,O,F,as,r,s,?_⟩;unfold Qai at k
 cases e:a ρ O with
 | nx ρ' O' =>
  rw [e] at k;dsimp only at k
  exact fun σ' H' F' as' g r' s'=>⟨ρ',O',F',as',r',s',QdO g k⟩
 | bk ρ' O'=>rw [e] at k; exact k
 | ct ρ' O'=>rw [e] at k; exact k
 | rt d O'=>rw [e] at k; exact k
 | ex x O'=>rw [e] at k; exact k
 | no=>rw [e] at k; exact k
theorem Qap {st:Stmt}{a:MS} (h1:VS X md P R st a):VSs X md P R [st] a:=QsT h1
def QlD:MS:=fun ρ O=>.bk ρ O
theorem Qrd {pos:Pos}:VS X md P R (.Break pos) QlD:=Qrn.imp fun D σ H q=>by
 obtain ⟨ρ,O,F,as,r,s,k⟩:=q;exact k σ H F as GrS.refl r s
def Ql9:MS:=fun _ _=>.no
theorem QmC {st:Stmt}:VS X md P R st Ql9:=(Qrh (X:=X) (st:=st)).imp fun D σ H q=>by
 obtain ⟨ρ,O,F,as,r,s,k⟩:=q;exact False.elim k
def QiI (m:M D):MS:=fun ρ O=>match m ρ O with
 | .ok _ O'=>.nx ρ O'
 | .ex x O'=>.ex x O'
 | .no=>.no
theorem QsZ {e:Expr}{pos:Pos}{m:M D} (h:SE X md P e m) (hs:swapsWith e none pos.line X.env=pure false:=by rfl):VS X md P R (.Expr e pos) (QiI m):=(Qkx h hs).imp fun D σ H q=>by
 obtain ⟨ρ,O,F,as,r,s,k⟩:=q;unfold QiI at k
 cases e:m ρ O with
 | ok d O' =>
  rw [e] at k;exact ⟨ρ,_,F,as,_,_,r,s,e,fun v H' F' as' g r' _=>k σ H' F' as' g.toS r' (s.step g)⟩
 | ex x O'=>rw [e] at k; exact False.elim k
 | no=>rw [e] at k; exact False.elim k
def Qax (m:M D):MS:=fun ρ O=>match m ρ O with
 | .ok d O'=>.rt d O'
 | .ex x O'=>.ex x O'
 | .no=>.no
theorem Qp9 (hR:QeT R) {e:Expr}{pos:Pos}{m:M D} (h:PE X e (tM X.K X.mg md P R m)):VS X md P R (.Return (some e) pos) (Qax m):=(Qpu h).imp fun D σ H q=>by
 obtain ⟨ρ,O,F,as,r,s,k⟩:=q;unfold Qax at k
 cases e:m ρ O with
 | ok d O' =>
  rw [e] at k;exact ⟨ρ,_,F,as,_,_,r,s,e,fun v H' F' as' g r' hv=>k v H' F' as' g.toS r' (hR _ _ _ _ _ _ _ (fun a ha p=>s.pd a p ha) hv)⟩
 | ex x O'=>rw [e] at k; exact False.elim k
 | no=>rw [e] at k; exact False.elim k
theorem QaI {e:Expr}{pos:Pos}{m:M D} (h:VE X md P e m):VS X md P (rV X.K) (.Return (some e) pos) (Qax m):=Qp9 Qbd h
theorem Qcm {e:Expr}{pos:Pos}{m:M D} (h:OE X md P e m):VS X md P (rO X.K) (.Return (some e) pos) (Qax m):=Qp9 Qch h
theorem Qhc (i:Nat) {x:Str}{p pos:Pos} (hm:md[i]? = some .o:=by rfl) (hN:X.N[i]? = some x:=by rfl) (hv:Vis X.env.scope x:=by first | exact Or.inl rfl | exact Or.inr (Or.inl rfl) | exact Or.inr (Or.inr rfl))
  (hd:(x == ("__debug__":Str))=false:=by decide) (hcd:(x == ("__classdict__":Str))=false:=by decide):VS X md P (rO X.K) (.Return (some (.Name x p)) pos) (Qax (Qaa i)):=(Qpu (Qhd (i:=i) hN hv hd hcd)).imp fun D σ H q=>by
 obtain ⟨ρ,O,F,as,r,s,k⟩:=q;unfold Qax at k
 cases e:Qaa i ρ O with
 | ok d O' =>
  rw [e] at k;obtain ⟨e1,rfl⟩:=Qi8 e;obtain ⟨v,h1,h2⟩:=s.sl i .o d hm e1;refine ⟨v,h1,k v H F as GrS.refl r ?_⟩
  rcases h2 with h2 | ⟨a,xs,ds,e1,e2,e3,e0,e4,e5,e6⟩
  ·exact .inl h2
  ·exact .inr ⟨a,xs,ds,e1,e2,e3,e0,e4,e5,e6⟩
 | ex x O'=>rw [e] at k; exact False.elim k
 | no=>rw [e] at k; exact False.elim k
def QaV (t:M Bool) (a b:MS):MS:=fun ρ O=>match t ρ O with
 | .ok c O'=>if c=true then a ρ O' else b ρ O'
 | .ex x O'=>.ex x O'
 | .no=>.no
theorem Qbr {c:Expr}{a b:List Stmt}{pos:Pos}{t:M Bool}{ma mb:MS} (hc:TsE X md P c t) (ha:VSs X md P R a ma) (hb:VSs X md P R b mb):VS X md P R (.If c a b pos) (QaV t ma mb):=(Qv9 hc ha hb).imp fun D σ H q=>by
 obtain ⟨ρ,O,F,as,r,s,k⟩:=q;unfold QaV at k
 cases e:t ρ O with
 | ok c O' =>
  rw [e] at k;refine ⟨ρ,_,F,as,_,_,r,s,e,fun H1 F1 as1 g r1=>?_⟩;dsimp only at k
  cases c with
  | true =>
   rw [if_pos rfl] at k ⊢;exact ⟨ρ,O',F1,as1,r1,s.step g,QdO g.toS k⟩
  | false =>
   rw [if_neg zj] at k ⊢;exact ⟨ρ,O',F1,as1,r1,s.step g,QdO g.toS k⟩
 | ex x O'=>rw [e] at k; exact False.elim k
 | no=>rw [e] at k; exact False.elim k
def Qas (i:Nat) (m:M D):MS:=fun ρ O=>match m ρ O with
 | .ok d O'=>.nx (ρ.set i (some d)) O'
 | .ex x O'=>.ex x O'
 | .no=>.no
theorem Qn9 {K:Frag}{mg:Str→Option Value}{i:Nat}{m:M D}{t:TE} (hm:md[i]? = some .v) (ht:∀σ H Q,tM K mg md P (rV K) m σ H Q→t σ H Q) {D:Ends}{σ:St}{H:Hp} (q:tMS K mg md P R (Qas i m) D σ H):Qor t (Qj2 i) D σ H:=by
 obtain ⟨ρ,O,F,as,r,s,k⟩:=q;unfold Qas at k
 cases e:m ρ O with
 | ok d O' =>
  rw [e] at k;exact ht _ _ _ ⟨ρ,_,F,as,_,_,r,s,e,fun v H' F' as' g r' hv=>k _ H' F' as' g.toS r' ((s.step g).setV hm hv)⟩
 | ex x O'=>rw [e] at k; exact False.elim k
 | no=>rw [e] at k; exact False.elim k
theorem Qs0 {K:Frag}{mg:Str→Option Value}{i:Nat}{m:M D}{t:TE} (hm:md[i]? = some .o) (ht:∀σ H Q,tM K mg md P (rO K) m σ H Q→t σ H Q) {D:Ends}{σ:St}{H:Hp} (q:tMS K mg md P R (Qas i m) D σ H):Qor t (Qj2 i) D σ H:=by
 obtain ⟨ρ,O,F,as,r,s,k⟩:=q;unfold Qas at k
 cases e:m ρ O with
 | ok d O' =>
  rw [e] at k;exact ht _ _ _ ⟨ρ,_,F,as,_,_,r,s,e,fun v H' F' as' g r' hv=>k _ H' F' as' g.toS r' (s.setO g hm hv)⟩
 | ex x O'=>rw [e] at k; exact False.elim k
 | no=>rw [e] at k; exact False.elim k
theorem Qay {i:Nat}{x:Str}{e:Expr}{pos pos':Pos}{m:M D} (hN:X.N.Nodup) (hi:X.N[i]? = some x) (hx:Loc X.env.scope x) (h:VE X md P e m) (hm:md[i]? = some .v:=by rfl) (hs:swapsWith e (some (.Name x pos')) pos.line X.env=pure false:=by rfl)
  (hf:X.fn x=true∨X.env.scope.names.lookup x=some .local:=by first | exact .inl rfl | exact .inr rfl | assumption):VS X md P R (.Assign [.Name x pos'] e pos) (Qas i m):=(Qpo (i:=i) hN hi hx h hs hf).imp fun D σ H q=>Qn9 hm (fun _ _ _ z=>z) q
theorem QeY {i:Nat}{x:Str}{e:Expr}{pos pos':Pos}{m:M D} (hN:X.N.Nodup) (hi:X.N[i]? = some x) (hx:Loc X.env.scope x) (h:OE X md P e m) (hm:md[i]? = some .o:=by rfl) (hs:swapsWith e (some (.Name x pos')) pos.line X.env=pure false:=by rfl)
  (hf:X.fn x=true∨X.env.scope.names.lookup x=some .local:=by first | exact .inl rfl | exact .inr rfl | assumption):VS X md P R (.Assign [.Name x pos'] e pos) (Qas i m):=(Qpo (i:=i) hN hi hx h hs hf).imp fun D σ H q=>Qs0 hm (fun _ _ _ z=>z) q
abbrev MG:=D→Qal→Option Qal
def tMG (K:Frag) (mg:Str→Option Value) (md:List Md) (P:Pt) (g:MG):TG:=fun v σ H Q=>∃ρ O F as d ρ',RlO K mg O H F as∧SlO K md P ρ σ H F as∧Rp K F as v d∧g d ρ=some ρ'∧∀σ',SlO K md P ρ' σ' H F as→Q σ' H
def QxO (K:Frag) (mg:Str→Option Value) (md:List Md) (P:Pt) (g:List D→Qal→Option Qal):TGs:=fun vs σ H Q=>∃ρ O F as ds ρ',RlO K mg O H F as∧SlO K md P ρ σ H F as∧Rps K F as vs ds∧g ds ρ=some ρ'∧∀σ',SlO K md P ρ' σ' H F as→Q σ' H
def VG (X:Cx) (md:List Md) (P:Pt) (tg:Expr) (g:MG):Prop:=PG X tg (tMG X.K X.mg md P g)
def VGs (X:Cx) (md:List Md) (P:Pt) (tg:List Expr) (g:List D→Qal→Option Qal):Prop:=PGs X tg (QxO X.K X.mg md P g)
theorem PG.imp {e:Expr}{t t':TG} (h:PG X e t) (k:∀v σ H Q,t' v σ H Q→t v σ H Q):PG X e t':=fun pins s σ H v u Q I r q=>h pins s σ H v u Q I r (k v σ H Q q)
theorem PGs.imp {e:List Expr}{t t':TGs} (h:PGs X e t) (k:∀v σ H Q,t' v σ H Q→t v σ H Q):PGs X e t':=fun pins s σ H v u Q I r q=>h pins s σ H v u Q I r (k v σ H Q q)
def mgN (i:Nat):MG:=fun d ρ=>some (ρ.set i (some d))
theorem QaY {i:Nat}{x:Str}{pos:Pos} (hN:X.N.Nodup) (hi:X.N[i]? = some x) (hx:Loc X.env.scope x) (hm:md[i]? = some .v:=by rfl) (hf:X.fn x=true∨X.env.scope.names.lookup x=some .local:=by first | exact .inl rfl | exact .inr rfl | assumption):VG X md P (.Name x pos) (mgN i) :=
 (Qtb (i:=i) hN hi hx hf).imp fun v σ H Q q=>by
  obtain ⟨ρ,O,F,as,d,ρ',r,s,hv,e,k⟩:=q;cases e;exact k _ (s.setV hm hv)
def Qex:List D→Qal→Option Qal:=fun ds ρ=>match ds with
 | []=>some ρ
 | _=>none
def QbE (g:MG) (r:List D→Qal→Option Qal):List D→Qal→Option Qal:=fun ds ρ=>match ds with
 | d::ds=>(g d ρ).bind fun ρ1=>r ds ρ1
 | []=>none
theorem Qk0:VGs X md P [] Qex:=Qt4.imp fun v σ H Q q=>by
 obtain ⟨ρ,O,F,as,ds,ρ',r,s,hv,e,k⟩:=q
 cases ds with
 | nil=>cases e; exact ⟨hv.un0,k _ s⟩
 | cons _ _=>cases e
theorem QeS {e:Expr}{es:List Expr}{g:MG}{r:List D→Qal→Option Qal} (h1:VG X md P e g) (h2:VGs X md P es r) (hs:(assignEach (e::es) X.env).map (·.2)=assign e X.env::(assignEach es X.env).map (·.2):=by rfl):VGs X md P (e::es) (QbE g r) :=
 (Qrv h1 h2 hs).imp fun v σ H Q q=>by
  obtain ⟨ρ,O,F,as,ds,ρ',r0,s,hv,e,k⟩:=q
  cases ds with
  | nil=>cases e
  | cons d ds =>
   obtain ⟨x,rs,rfl,hx,hr⟩:=hv.un;unfold QbE at e;dsimp only at e
   cases e1:g d ρ with
   | none=>rw [e1] at e; cases e
   | some ρ1 =>
    rw [e1] at e;exact ⟨x,rs,rfl,ρ,O,F,as,d,ρ1,r0,s,hx,e1,fun σ' s'=>⟨ρ1,O,F,as,ds,ρ',r0,s',hr,e,k⟩⟩
def Qg8 (n:Nat) (r:List D→Qal→Option Qal):MG:=fun d ρ=>match d with
 | .tup ds=>if ds.length=n then r ds ρ else none
 | _=>none
theorem Qm9 {es:List Expr}{pos:Pos}{k:Nat}{r:List D→Qal→Option Qal} (n:Nat) (hc:X.calm=true) (h:VGs X md P es r) (hn:(assignEach es X.env).length=n:=by rfl) (hst:(assignEach es X.env).findIdx? (·.1)=none:=by rfl):VG X md P (.Tuple es k pos) (Qg8 n r) :=
 (Qul hc h hn hst).imp fun v σ H Q q=>by
  obtain ⟨ρ,O,F,as,d,ρ',r0,s,hv,e,k⟩:=q
  cases d with
  | tup ds =>
   obtain ⟨a,xs,rfl,h1,h2⟩:=hv.unT;unfold Qg8 at e;dsimp only at e;split at e
   ·rename_i hl;exact ⟨a,xs,rfl,Same.seqT r0.fh h1,by rw [h2.length]; exact hl,ρ,O,F,as,ds,ρ',r0,s,h2,e,k⟩
   ·cases e
  | _=>cases e
def Qwj (m:M D) (g:MG):MS:=fun ρ O=>match m ρ O with
 | .ok d O'=>match g d ρ with
  | some ρ'=>.nx ρ' O'
  | none=>.no
 | .ex x O'=>.ex x O'
 | .no=>.no
end
structure JOk (K:Frag) (mg:Str→Option Value) (P:Pt) (J:It) (ds:List D) (H F:Hp) (as:List Addr):Prop where
 turn:∀(i:Nat) (d:D) (H2 F2:Hp) (as2:List Addr),GrS P H F as H2 F2 as2→(∃O,RlO K mg O H2 F2 as2)→ds[i]? = some d→J.go i H2∧∀x H3,J.yld i H2 x H3→∃F3,Gr H2 F2 as2 H3 F3 as2∧(∀O,RlO K mg O H2 F2 as2→RlO K mg O H3 F3 as2)∧Rp K F3 as2 x d
 stop:∀(H2 F2:Hp) (as2:List Addr),GrS P H F as H2 F2 as2→(∃O,RlO K mg O H2 F2 as2)→J.stop ds.length H2
structure QvS (K:Frag) (mg:Str→Option Value) (J:It) (ds:List D) (H F:Hp) (as:List Addr):Prop where
 turn:∀(i:Nat) (d:D) (H2 F2:Hp) (as2:List Addr),Gr H F as H2 F2 as2→(∃O,RlO K mg O H2 F2 as2)→ds[i]? = some d→J.go i H2∧∀x H3,J.yld i H2 x H3→∃F3,Gr H2 F2 as2 H3 F3 as2∧(∀O,RlO K mg O H2 F2 as2→RlO K mg O H3 F3 as2)∧Rp K F3 as2 x d
 stop:∀(H2 F2:Hp) (as2:List Addr),Gr H F as H2 F2 as2→(∃O,RlO K mg O H2 F2 as2)→J.stop ds.length H2
theorem JOk.e {K:Frag}{mg:Str→Option Value}{P:Pt}{J:It}{ds:List D}{H F:Hp}{as:List Addr} (h:JOk K mg P J ds H F as):QvS K mg J ds H F as:=⟨fun i d H2 F2 as2 g=>h.turn i d H2 F2 as2 g.toS,fun H2 F2 as2 g=>h.stop H2 F2 as2 g.toS⟩
def Quj (K:Frag) (mg:Str→Option Value) (md:List Md) (P:Pt) (m:M (List D)):TI:=fun σ H Q=>∃ρ O F as ds O',RlO K mg O H F as∧SlO K md P ρ σ H F as∧m ρ O = .ok ds O' ∧
 ∀J H' F' as',Gr H F as H' F' as'→RlO K mg O' H' F' as'→QvS K mg J ds H' F' as'→Q J H'
def VIc (X:Cx) (md:List Md) (P:Pt) (tg iter:Expr) (m:M (List D)):Prop:=PI X tg iter (Quj X.K X.mg md P m)
def tMI (K:Frag) (mg:Str→Option Value) (md:List Md) (P:Pt) (m:M (List D)):TI:=fun σ H Q=>∃ρ O F as ds O',RlO K mg O H F as∧SlO K md P ρ σ H F as∧m ρ O = .ok ds O' ∧
 ∀J H' F' as',Gr H F as H' F' as'→RlO K mg O' H' F' as'→JOk K mg P J ds H' F' as'→Q J H'
def VI (X:Cx) (md:List Md) (P:Pt) (tg iter:Expr) (m:M (List D)):Prop:=PI X tg iter (tMI X.K X.mg md P m)
section
variable {X:Cx}{md:List Md}{P:Pt}{R:RR}
theorem PI.imp {tg e:Expr}{t t':TI} (h:PI X tg e t) (k:∀σ H Q,t' σ H Q→t σ H Q):PI X tg e t':=fun pins s σ H Q I q=>h pins s σ H Q I (k σ H Q q)
theorem Qms {tg e:Expr}{m:M (List D)} (h:VI X md P tg e m):VIc X md P tg e m:=h.imp fun σ H Q q=>by
 obtain ⟨ρ,O,F,as,ds,O',r,s,e,k⟩:=q;exact ⟨ρ,O,F,as,ds,O',r,s,e,fun J H' F' as' g r' hJ=>k J H' F' as' g r' hJ.e⟩
def QaZ (g:MG) (b:MS):List D→MS
 | [],ρ,O=>.nx ρ O
 | d::ds,ρ,O=>match g d ρ with
  | none=>.no
  | some ρ1=>match b ρ1 O with
   | .nx ρ2 O2=>QaZ g b ds ρ2 O2
   | .ct ρ2 O2=>QaZ g b ds ρ2 O2
   | .bk ρ2 O2=>.nx ρ2 O2
   | r=>r
def Qbl (m:M (List D)) (g:MG) (b:MS):MS:=fun ρ O=>match m ρ O with
 | .ok ds O'=>QaZ g b ds ρ O'
 | .ex x O'=>.ex x O'
 | .no=>.no
theorem Qvx {K:Frag}{mg:Str→Option Value}{m:M (List D)}{g:MG}{b:MS}{D:Ends}{σ:St}{H:Hp} (q:tMS K mg md P R (Qbl m g b) D σ H):QvE (tMI K mg md P m) (tMG K mg md P g) (tMS K mg md P R b) D σ H:=by
 obtain ⟨ρ,O,F,as,r,s,k⟩:=q;unfold Qbl at k
 cases e:m ρ O with
 | ex x O'=>rw [e] at k; exact False.elim k
 | no=>rw [e] at k; exact False.elim k
 | ok ds O1 =>
  rw [e] at k;dsimp only at k;refine ⟨ρ,_,F,as,_,_,r,s,e,fun J H1 F1 as1 g1 r1 hJ=>?_⟩;have k1:=QdO (R:=R) g1.toS k;refine ⟨fun i m σ' H'=>m=ds.length - i∧i≤ds.length∧∃ρ' O' F' as',GrS P H1 F1 as1 H' F' as'∧RlO K mg O' H' F' as'∧SlO K md P ρ' σ' H' F' as'∧QgP K mg md P R D H' F' as' (QaZ g b (ds.drop i) ρ' O'),⟨ds.length,by simp,Nat.zero_le _,ρ,O1,F1,as1,GrS.refl,r1,s.step g1,by rw [List.drop_zero]; exact k1⟩,?_⟩;rintro i n σ' H' ⟨rfl,hi,ρ',O',F',as',g',r',s',k'⟩
  by_cases hlt:i < ds.length
  ·have hd:=zo hlt;obtain ⟨go,yl⟩:=hJ.turn i _ H' F' as' g' ⟨O',r'⟩ hd;rw [List.drop_eq_getElem_cons hlt] at k';refine .inr ⟨go,fun σ2 H2=>∃ρ2 O2 F2 as2,GrS P H1 F1 as1 H2 F2 as2∧RlO K mg O2 H2 F2 as2∧SlO K md P ρ2 σ2 H2 F2 as2∧QgP K mg md P R D H2 F2 as2 (QaZ g b (ds.drop (i+1)) ρ2 O2),fun σ2 H2 h2=>⟨ds.length - (i+1),by omega,rfl,hlt,h2⟩,fun x H3 y=>?_⟩;obtain ⟨F3,g3,r3,hx⟩:=yl x H3 y;have r3':=r3 O' r';unfold QaZ at k'
   cases eg:g ds[i] ρ' with
   | none=>rw [eg] at k'; exact False.elim k'
   | some ρ1 =>
    rw [eg] at k';dsimp only at k';refine ⟨ρ',O',F3,as',ds[i],ρ1,r3',s'.step g3,hx,eg,fun σ4 s4=>?_⟩;refine ⟨ρ1,O',F3,as',r3',s4,?_⟩;have g4:GrS P H1 F1 as1 H3 F3 as':=g'.trans g3.toS
    have keep:=fun {f}=>QdO (K:=K) (mg:=mg) (md:=md) (R:=R) (D:=D) (f:=f) (g3.toS (P:=P))
    cases eb:b ρ1 O' with
    | nx ρ2 O2 =>
     rw [eb] at k'
     exact fun σ2 H2 F2 as2 g2 r2 s2=>⟨ρ2,O2,F2,as2,g4.trans g2,r2,s2,QdO g2 (keep k')⟩
    | ct ρ2 O2 =>
     rw [eb] at k'
     exact fun σ2 H2 F2 as2 g2 r2 s2=>⟨ρ2,O2,F2,as2,g4.trans g2,r2,s2,QdO g2 (keep k')⟩
    | bk ρ2 O2 =>
     rw [eb] at k'
     exact fun σ2 H2 F2 as2 g2 r2 s2=>k' σ2 H2 F2 as2 (g3.toS.trans g2) r2 s2
    | rt d O2 =>
     rw [eb] at k'
     exact fun v H2 F2 as2 g2 r2 s2=>k' v H2 F2 as2 (g3.toS.trans g2) r2 s2
    | ex _ _=>rw [eb] at k'; exact False.elim k'
    | no=>rw [eb] at k'; exact False.elim k'
  ·have hi':i=ds.length:=by omega
   subst hi';refine .inl ⟨hJ.stop H' F' as' g' ⟨O',r'⟩,?_⟩;rw [List.drop_length] at k';exact k' σ' H' F' as' GrS.refl r' s'
theorem Qcy {tg iter:Expr}{body:List Stmt}{pos:Pos}{m:M (List D)}{g:MG}{b:MS} (hc:X.calm=true) (hi:VI X md P tg iter m) (hg:VG X md P tg g) (hb:VSs X md P R body b) (hp:PassesOwn (model X.prog X.w) X.A X.env X.xe:=by exact PassesOwn.never)
  (hs:∀x,foldedSetIterable iter X.env x=pure x:=by intro _; rfl):VS X md P R (.For tg iter body [] pos) (Qbl m g b):=(Qui hp hc hi hg hb hs).imp fun _ _ _ q=>Qvx q
def QbD (t:M Bool) (b:MS):Nat→MS
 | 0,_,_=>.no
 | n+1,ρ,O=>match t ρ O with
  | .ok true O1=>match b ρ O1 with
   | .nx ρ2 O2=>QbD t b n ρ2 O2
   | .ct ρ2 O2=>QbD t b n ρ2 O2
   | .bk ρ2 O2=>.nx ρ2 O2
   | r=>r
  | .ok false O1=>.nx ρ O1
  | .ex x O'=>.ex x O'
  | .no=>.no
def QbZ (n:Nat) (t:M Bool) (b:MS):MS:=QbD t b n
theorem QqL {K:Frag}{mg:Str→Option Value}{n:Nat}{t:M Bool}{b:MS}{D:Ends}{σ:St}{H:Hp} (q:tMS K mg md P R (QbZ n t b) D σ H):Qp1 (tMT K mg md P t) (tMS K mg md P R b) D σ H:=by
 refine ⟨fun n σ' H'=>tMS K mg md P R (QbD t b n) D σ' H',⟨n,q⟩,?_⟩;rintro m σ1 H1 ⟨ρ,O,F,as,r,s,k⟩
 cases m with
 | zero=>exact False.elim k
 | succ m =>
  unfold QbD at k
  cases e:t ρ O with
  | ex x O'=>rw [e] at k; exact False.elim k
  | no=>rw [e] at k; exact False.elim k
  | ok c O1 =>
   rw [e] at k;refine ⟨ρ,_,F,as,_,_,r,s,e,fun H2 F2 as2 g2 r2=>?_⟩
   cases c with
   | false =>
    rw [if_neg zj];exact k σ1 H2 F2 as2 g2.toS r2 (s.step g2)
   | true =>
    rw [if_pos rfl];refine ⟨fun σ' H'=>tMS K mg md P R (QbD t b m) D σ' H',fun σ' H' h'=>⟨m,jc m,h'⟩,ρ,O1,F2,as2,r2,s.step g2,?_⟩;dsimp only at k
    have keep:=fun {f}=>QdO (K:=K) (mg:=mg) (md:=md) (R:=R) (D:=D) (f:=f) (g2.toS (P:=P))
    cases eb:b ρ O1 with
    | nx ρ2 O2 =>
     rw [eb] at k
     exact fun σ3 H3 F3 as3 g3 r3 s3=>⟨ρ2,O2,F3,as3,r3,s3,QdO g3 (keep k)⟩
    | ct ρ2 O2 =>
     rw [eb] at k
     exact fun σ3 H3 F3 as3 g3 r3 s3=>⟨ρ2,O2,F3,as3,r3,s3,QdO g3 (keep k)⟩
    | bk ρ2 O2 =>
     rw [eb] at k
     exact fun σ3 H3 F3 as3 g3 r3 s3=>k σ3 H3 F3 as3 (g2.toS.trans g3) r3 s3
    | rt d O2 =>
     rw [eb] at k
     exact fun σ3 H3 F3 as3 g3 r3 s3=>k σ3 H3 F3 as3 (g2.toS.trans g3) r3 s3
    | ex _ _=>rw [eb] at k; exact False.elim k
    | no=>rw [eb] at k; exact False.elim k
theorem QeV (n:Nat) {c:Expr}{body:List Stmt}{pos:Pos}{t:M Bool}{b:MS} (hc:TsE X md P c t) (hb:VSs X md P R body b) (hp:PassesOwn (model X.prog X.w) X.A X.env X.xe:=by exact PassesOwn.never):VS X md P R (.While c body [] pos) (QbZ n t b) :=
 (Qq2 hp hc hb).imp fun _ _ _ q=>QqL q
def QbC (g:MG) (t:M Bool) (m:M D):List D→Qal→Qac→List D→Res (List D)
 | [],ρ,O,acc=>.ok acc O
 | d::ds,ρ,O,acc=>match g d ρ with
  | none=>.no
  | some ρ1=>match t ρ1 O with
   | .ok true O1=>match m ρ1 O1 with
    | .ok y O2=>QbC g t m ds ρ1 O2 (acc ++ [y])
    | .ex x O'=>.ex x O'
    | .no=>.no
   | .ok false O1=>QbC g t m ds ρ1 O1 acc
   | .ex x O'=>.ex x O'
   | .no=>.no
def QhC (own:Nat) (cap:List Nat) (ρ:Qal):Qal:=List.replicate own none++cap.map fun j=>(ρ[j]?).join
def Qbm (m:M (List D)) (own:Nat) (cap:List Nat) (g:MG) (t:M Bool) (e:M D):M D:=fun ρ O=>(m ρ O).bind fun ds O1=>if ds.length≤1000000 then (QbC g t e ds (QhC own cap ρ) O1 []).bind fun ys O2=>.ok (.lst ys) O2 else .no
def QbW:M Bool:=fun _ O=>.ok true O
def cMd (own:Nat) (cap:List Nat) (md:List Md):List Md:=List.replicate own .v++cap.map fun j=>match md[j]? with
 | some .v=>.v
 | _=>.s
theorem QoA {K:Frag}{ρ:Qal}{σ:St}{H F:Hp}{as:List Addr}{own:List Str}{cap:List Nat} (s:SlO K md P ρ σ H F as) (hcap:∀j∈cap,j < md.length):SlO K (cMd own.length cap md) (Pt.all H) (QhC own.length cap ρ) (compSt own cap σ) H F as:=by
 refine ⟨by simp [compSt,cMd],by simp [QhC,cMd],fun a h=>h,fun i m d e1 e2=>?_,fun i j a ds es h1=>?_,fun _ z=>nomatch z⟩
 ·unfold QhC at e2;unfold cMd at e1;unfold compSt
  by_cases hi:i < own.length
  ·rw [zB (by simpa using hi),List.getElem?_replicate_of_lt hi] at e2;cases e2
  ·have hi':own.length≤i:=Nat.le_of_not_lt hi;rw [zL (by simpa using hi'),List.length_replicate,zD] at e2 e1;rw [zL (by simpa using hi'),zd,zD]
   cases q:cap[i - own.length]? with
   | none=>rw [q] at e2; cases e2
   | some j =>
    rw [q] at e1 e2;simp only [Option.map_some,Option.some.injEq] at e1 e2 ⊢
    cases q2:ρ[j]? with
    | none=>rw [q2] at e2; cases e2
    | some o =>
     rw [q2] at e2;have e2':o=some d:=e2;subst e2';obtain ⟨m0,v,h1,h2,h3⟩:=s.get q2;rw [h1] at e1;refine ⟨v,by rw [h2]; rfl,?_⟩
     cases m0 with
     | v=>dsimp only at e1; subst e1; exact h3
     | s =>
      dsimp only at e1; subst e1
      rcases h3 with h3 | ⟨a,xs,ds,e1,e2,e3,e4,e5,e6⟩
      ·exact .inl h3
      ·exact .inr ⟨a,xs,ds,e1,e2,e3,e4,(show H a≠none by rw [e3]; exact fun z=>nomatch z),e6⟩
     | o =>
      dsimp only at e1; subst e1
      rcases h3 with ⟨_,h3⟩ | ⟨a,xs,ds,e1,e2,e3,e0,e4,e5,e6⟩
      ·exact .inl h3
      ·exact .inr ⟨a,xs,ds,e1,e2,e3,e4,(show H a≠none by rw [e3]; exact fun z=>nomatch z),e6⟩
 ·exfalso
  unfold cMd at h1
  by_cases hi:i < own.length
  ·rw [zB (by simpa using hi),List.getElem?_replicate_of_lt hi] at h1;cases h1
  ·have hi':own.length≤i:=Nat.le_of_not_lt hi;rw [zL (by simpa using hi'),List.length_replicate,zD] at h1
   cases q:cap[i - own.length]? with
   | none=>rw [q] at h1; cases h1
   | some j =>
    rw [q] at h1;simp only [Option.map_some,Option.some.injEq] at h1
    split at h1 <;> cases h1
end
section
variable {X:Cx}{md:List Md}{P:Pt}{R:RR}
def xM (K:Frag) (mg:Str→Option Value) (md:List Md) (R:RR) (m:M D):TE:=fun σ H Q=>∃P,tM K mg md P R m σ H Q
def xMT (K:Frag) (mg:Str→Option Value) (md:List Md) (m:M Bool):TT:=fun σ H Q=>∃P,tMT K mg md P m σ H Q
def xMG (K:Frag) (mg:Str→Option Value) (md:List Md) (g:MG):TG:=fun v σ H Q=>∃P,tMG K mg md P g v σ H Q
theorem xm {e:Expr}{m:M D} (h:∀P,PE X e (tM X.K X.mg md P R m)):PE X e (xM X.K X.mg md R m):=fun pins s σ H Q I ⟨P,q⟩=>h P pins s σ H Q I q
theorem xmg {e:Expr}{g:MG} (h:∀P,VG X md P e g):PG X e (xMG X.K X.mg md g):=fun pins s σ H v u Q I r ⟨P,q⟩=>h P pins s σ H v u Q I r q
theorem xmt {e:List Expr}{m:M Bool} (h:∀P,QiN X e (tMT X.K X.mg md P m)):QiN X e (xMT X.K X.mg md m):=fun pins s σ H Q I ⟨P,q⟩=>h P pins s σ H Q I q
def VIf (X:Cx) (md:List Md) (P:Pt) (e:List Expr) (m:M Bool):Prop:=QiN X e (tMT X.K X.mg md P m)
theorem Qc7:VIf X md P [] QbW:=fun pins s σ H Q I q=>by
 obtain ⟨ρ,O,F,as,d,O',r,s,e,k⟩:=q;cases e;exact QqT pins _ σ H Q I (k H F as Gr.refl r)
theorem Qi2 {c:Expr}{m:M Bool} (h:TsE X md P c m):VIf X md P [c] m:=Qrt h
theorem Qn2 {K:Frag}{mg:Str→Option Value}{m:M (List D)}{own:List Str}{cap:List Nat}{g:MG}{t:M Bool}{e:M D} (hcap:∀j∈cap,j < md.length) {σ:St}{H:Hp}{Q:VK} (q:tM K mg md P (rO K) (Qbm m own.length cap g t e) σ H Q) :
  Qok (Quj K mg md P m) own cap (xMG K mg (cMd own.length cap md) g) (xMT K mg (cMd own.length cap md) t) (xM K mg (cMd own.length cap md) (rV K) e) σ H Q:=by
 obtain ⟨ρ,O,F,as,d,OZ,r,s,eq,k⟩:=q;obtain ⟨ds,O1,e1,eq⟩:=Res.bind_ok eq;split at eq
 ·rename_i hz;obtain ⟨yf,O2,e2,eq⟩:=Res.bind_ok eq;cases eq;refine ⟨ρ,_,F,as,_,_,r,s,e1,fun J H1 F1 as1 g1 r1 hJ=>?_⟩;have sb:=QoA (own:=own) (s.step g1) hcap
  refine ⟨fun i n ys σ' H'=>n=ds.length - i∧i≤ds.length∧∃ρ' O' F' as' acc,Gr H1 F1 as1 H' F' as'∧RlO K mg O' H' F' as'∧SlO K (cMd own.length cap md) (Pt.all H1) ρ' σ' H' F' as'∧Rps K F' as' ys acc∧acc.length≤i ∧
   QbC g t e (ds.drop i) ρ' O' acc = .ok yf OZ,⟨ds.length,by simp,Nat.zero_le _,QhC own.length cap ρ,O1,F1,as1,[],Gr.refl,r1,sb,Rps.nil,ze _,by rw [List.drop_zero]; exact e2⟩,?_⟩
  rintro i n ys σ' H' ⟨rfl,hi,ρ',O',F',as',acc,g',r',s',hy,hl,ec⟩
  by_cases hlt:i < ds.length
  ·obtain ⟨go,yl⟩:=hJ.turn i _ H' F' as' g' ⟨O',r'⟩ (zo hlt)
   refine .inr ⟨go,?_,fun ys σ2 H2=>∃ρ2 O3 F2 as2 acc2,Gr H1 F1 as1 H2 F2 as2∧RlO K mg O3 H2 F2 as2∧SlO K (cMd own.length cap md) (Pt.all H1) ρ2 σ2 H2 F2 as2∧Rps K F2 as2 ys acc2∧acc2.length≤i+1 ∧
    QbC g t e (ds.drop (i+1)) ρ2 O3 acc2 = .ok yf OZ,fun ys2 σ2 H2 h2=>⟨ds.length - (i+1),by omega,rfl,hlt,h2⟩,fun x H3 y=>?_⟩
   ·rw [hy.length]
    have:=Qd0 hz
    omega
   obtain ⟨F3,g3,r3,hx⟩:=yl x H3 y;have r3':=r3 O' r';have g13:=g'.trans g3;rw [List.drop_eq_getElem_cons hlt] at ec;unfold QbC at ec
   cases eg:g ds[i] ρ' with
   | none=>rw [eg] at ec; cases ec
   | some ρ1 =>
    rw [eg] at ec;dsimp only at ec;refine ⟨_,ρ',O',F3,as',ds[i],ρ1,r3',s'.step g3,hx,eg,fun σ4 s4=>?_⟩
    cases et:t ρ1 O' with
    | ex _ _=>rw [et] at ec; cases ec
    | no=>rw [et] at ec; cases ec
    | ok c O4 =>
     rw [et] at ec;refine ⟨_,ρ1,O',F3,as',c,O4,r3',s4,et,fun H5 F5 as5 g5 r5=>?_⟩
     cases c with
     | false =>
      rw [if_neg zj];exact ⟨ρ1,O4,F5,as5,acc,g13.trans g5,r5,s4.step g5,(hy.gr g3).gr g5,by omega,ec⟩
     | true =>
      rw [if_pos rfl];dsimp only at ec
      cases em:e ρ1 O4 with
      | ex _ _=>rw [em] at ec; cases ec
      | no=>rw [em] at ec; cases ec
      | ok yd O6 =>
       rw [em] at ec;refine ⟨_,ρ1,O4,F5,as5,yd,O6,r5,s4.step g5,em,fun vy H7 F7 as7 g7 r7 hvy=>?_⟩;exact ⟨ρ1,O6,F7,as7,acc ++ [yd],(g13.trans g5).trans g7,r7,(s4.step g5).step g7,(((hy.gr g3).gr g5).gr g7).snoc hvy,by rw [zn]; show acc.length+1≤i+1; omega,ec⟩
  ·have hi':i=ds.length:=by omega
   subst hi';rw [List.drop_length] at ec;cases ec;refine .inl ⟨hJ.stop H' F' as' g' ⟨_,r'⟩,?_,fun p hp=>?_⟩
   ·rw [hy.length];exact zF hl (Qd0 hz)
   ·have hF:F' p=none:=by
     cases q:F' p with
     | none=>rfl
     | some o=>rw [r'.fh p o q] at hp; cases hp
    exact k _ _ F' as' ((g1.trans g').trans (Gr.lay hp)) (r'.lay hp) (.inr ⟨p,ys,yf,rfl,rfl,QaG,hF,fun z=>r'.all z hp,(g1.trans g').dm p hp,hy⟩)
 ·cases eq
variable {tg iter elt:Expr}{ifs:List Expr}{scope:Scope}{pos:Pos}{mi:M (List D)}{g:MG}{t:M Bool}{e:M D}
theorem Qc4 (sc0:Scope) (N0 own:List Str) (cap:List Nat) (hc:X.calm=true) (hi:VIc X md P tg iter mi)
  (hg:∀C s H ex P,VG (Qa8 X scope C (QaT N0 own cap) s H ex) (cMd own.length cap md) P tg g) (ht:∀C s H ex P,VIf (Qa8 X scope C (QaT N0 own cap) s H ex) (cMd own.length cap md) P ifs t)
  (he:∀C s H ex P,VE (Qa8 X scope C (QaT N0 own cap) s H ex) (cMd own.length cap md) P elt e)
  (hcap:∀j∈cap,j < md.length:=by decide) (hsc:X.env.scope=sc0:=by rfl) (hN0:X.N=N0:=by rfl) (ok:Qg9 sc0 N0 scope own cap=true:=by decide +kernel) (hs:∀x,foldedSetIterable iter X.env x=pure x:=by intro _; rfl) :
  OE X md P (.ListComp elt [⟨tg,iter,ifs,0⟩] scope pos) (Qbm mi own.length cap g t e) :=
 (QtR sc0 N0 own cap hc hi (fun C s H ex=>xmg (hg C s H ex)) (fun C s H ex=>xmt (ht C s H ex)) (fun C s H ex=>xm (he C s H ex)) hsc hN0 ok hs).imp fun _ _ _ q=>Qn2 hcap q
theorem QhI {i:Nat}{x:Str}{pos' spos:Pos} (sc0:Scope) (N0 own:List Str) (cap:List Nat) (hN:X.N.Nodup) (hx:X.N[i]? = some x) (hl:Loc X.env.scope x) (hc:X.calm=true) (hi:VIc X md P tg iter mi)
  (hg:∀C s H ex P,VG (Qa8 X scope C (QaT N0 own cap) s H ex) (cMd own.length cap md) P tg g) (ht:∀C s H ex P,VIf (Qa8 X scope C (QaT N0 own cap) s H ex) (cMd own.length cap md) P ifs t)
  (he:∀C s H ex P,VE (Qa8 X scope C (QaT N0 own cap) s H ex) (cMd own.length cap md) P elt e)
  (hm:md[i]? = some .v:=by rfl) (hcap:∀j∈cap,j < md.length:=by decide) (hsw:swapsWith (.ListComp elt [⟨tg,iter,ifs,0⟩] scope pos) (some (.Name x pos')) spos.line X.env=pure true:=by rfl)
  (hf:X.fn x=true∨X.env.scope.names.lookup x=some .local:=by first | exact .inl rfl | exact .inr rfl | assumption)
  (hsc:X.env.scope=sc0:=by rfl) (hN0:X.N=N0:=by rfl) (ok:Qg9 sc0 N0 scope own cap=true:=by decide +kernel) (hs:∀x,foldedSetIterable iter X.env x=pure x:=by intro _; rfl) :
  VS X md P R (.Assign [.Name x pos'] (.ListComp elt [⟨tg,iter,ifs,0⟩] scope pos) spos) (Qas i (Qbm mi own.length cap g t e)) :=
 (QsF (i:=i) sc0 N0 own cap hN hx hl hc hi (fun C s H ex=>xmg (hg C s H ex)) (fun C s H ex=>xmt (ht C s H ex)) (fun C s H ex=>xm (he C s H ex)) hsw hf hsc hN0 ok hs).imp fun D σ H q =>
  Qn9 hm (fun σ H Q z=>Qn2 hcap (by
   obtain ⟨ρ,O,F,as,d,O',r,s,e,k⟩:=z;refine ⟨ρ,_,F,as,_,_,r,s,e,fun v H' F' as' g r' hv=>?_⟩
   rcases hv with ⟨_,hv⟩ | ⟨a,xs,ds,rfl,rfl,e3,e4,e5,e6,e7⟩
   ·exact k v H' F' as' g r' hv
   ·have ff:Same F' (upd F' a (.lst xs)):=fun b u q=>by rw [Qar (QaC q e4)]; exact q
    exact k _ H' (upd F' a (.lst xs)) as' (g.frz e6 e4) (r'.frz e3 e4 e5 rfl) (Rp.mkL (.inl (.inl QaG)) (Rps.mono ff (fun _ _ z=>z) _ e7)))) q
end
def vSp (K:Frag) (mg:Str→Option Value) (pm:List Md) (R:RR) (c:List D→Qac→Res D):Sp:=fun vs H Q _ =>
 ∃ds O F as d O',RlO K mg O H F as∧Qbs K H F as pm vs ds∧c ds O = .ok d O'∧∀v H' F' as',Gr H F as H' F' as'→RlO K mg O' H' F' as'→R (fun a=>H a=none) H' F' as' v d→Q v H'
def Qa5 (n:Nat) (b:MS):List D→Qac→Res D:=fun ds O=>match b (ds.map some++List.replicate (n - ds.length) none) O with
 | .rt d O'=>.ok d O'
 | .nx _ O'=>.ok .non O'
 | .ex x O'=>.ex x O'
 | _=>.no
theorem Qbs.len {K:Frag}{H F:Hp}{as:List Addr}:∀{ms:List Md}{vs:List V}{ds:List D},Qbs K H F as ms vs ds→vs.length=ms.length∧ds.length=ms.length
 | [],[],[],_=>⟨rfl,rfl⟩
 | m::ms,v::vs,d::ds,h=>by
  have:=Qbs.len h.2
  simp [this.1,this.2]
 | [],[],_::_,h=>h.elim
 | [],_::_,[],h=>h.elim
 | [],_::_,_::_,h=>h.elim
 | _::_,[],[],h=>h.elim
 | _::_,[],_::_,h=>h.elim
 | _::_,_::_,[],h=>h.elim
theorem Qbs.get {K:Frag}{H F:Hp}{as:List Addr}:∀{ms:List Md}{vs:List V}{ds:List D}{i:Nat}{m:Md}{d:D},Qbs K H F as ms vs ds→ms[i]? = some m→ds[i]? = some d→∃v,vs[i]? = some v∧rA K m (fun _=>True) H F as v d
 | m::ms,v::vs,d::ds,0,m',d',h,e1,e2=>by
  simp at e1 e2
  subst e1 e2;exact ⟨v,rfl,h.1⟩
 | m::ms,v::vs,d::ds,i+1,m',d',h,e1,e2=>by
  obtain ⟨v',h1,h2⟩:=Qbs.get (i:=i) (m:=m') (d:=d') h.2 (by simpa using e1) (by simpa using e2);exact ⟨v',by simpa using h1,h2⟩
 | [],[],[],_,_,_,_,e1,_=>by simp at e1
 | [],[],_::_,_,_,_,h,_,_=>h.elim
 | [],_::_,[],_,_,_,h,_,_=>h.elim
 | [],_::_,_::_,_,_,_,h,_,_=>h.elim
 | _::_,[],[],_,_,_,h,_,_=>h.elim
 | _::_,[],_::_,_,_,_,h,_,_=>h.elim
 | _::_,_::_,[],_,_,_,h,_,_=>h.elim
theorem Qjn {K:Frag}{H F:Hp}{as:List Addr}{N:List Str}{pm lm:List Md}{vs:List V}{ds:List D} (h:Qbs K H F as pm vs ds) (hl:(pm++lm).length=N.length) (hp:∀m∈pm,m≠.o) :
  SlO K (pm++lm) (Pt.all H) (ds.map some++List.replicate (N.length - ds.length) none) (start N vs) H F as:=by
 obtain ⟨h1,h2⟩:=h.len;rw [zn] at hl
 have vsl:vs.length≤N.length:=by omega
 have no:∀i a,(ds.map some++List.replicate (N.length - ds.length) none)[i]? = some (some a)→i < ds.length:=fun i a e=>by
  by_cases hi:i < ds.length
  ·exact hi
  ·rw [zL (by simpa using hi),List.getElem?_replicate] at e
   split at e <;> cases e
 refine ⟨by unfold start; simp; omega,by simp; omega,fun a z=>z,fun i m d e1 e2=>?_,fun i j a es fs e1 e2 e3=>?_,fun _ z=>nomatch z⟩
 ·have hi:=no i d e2;rw [zB (by simpa using hi),zD] at e2;rw [zB (by omega)] at e1
  cases q:ds[i]? with
  | none=>rw [q] at e2; cases e2
  | some d' =>
   rw [q] at e2;cases e2;obtain ⟨v,h3,h4⟩:=h.get e1 q;refine ⟨v,?_,?_⟩
   ·unfold start;rw [zB (by simp; omega),zD,h3];rfl
   ·cases m with
    | v=>exact h4
    | s =>
     rcases h4 with h4 | ⟨a,xs,es,z1,z2,z3,z4,z5⟩
     ·exact .inl h4
     ·exact .inr ⟨a,xs,es,z1,z2,z3,z4,(show H a≠none by rw [z3]; exact fun z=>nomatch z),z5⟩
    | o=>exact absurd rfl (hp .o (zQ e1))
 ·have hi:=no i _ e3;rw [zB (by omega)] at e1;exact absurd rfl (hp .o (zQ e1))
section
variable {Pr:Program}{w:World}{K:Frag}{mg:Str→Option Value}{base:Heap}
theorem Qbw {x:Str}{st:Stmt}{N ps:List Str}{k:Nat} (Df:Def K mg x st) (S:QaA N ps (Qam st))
  (hb:∀(kV doc pm:Value) (an:Option Addr) (cdv ct:Value) (us:List Value),us.length=ps.length→bindArgs (PySem.W.fnOf x x (Qcu st) (QbF st) (Qam st) .none kV doc pm an cdv ct) ⟨us,[]⟩=pure (ps.zip us))
  (pm lm:List Md) {R:RR}{b:MS} (hR:QeT R) (hR0:∀N H F as,R N H F as .non .non) (hpl:pm.length=ps.length:=by rfl) (hl:(pm++lm).length=N.length:=by rfl) (hp:∀m∈pm,m≠.o:=by decide)
  (body:∀(f:Addr) (cdv:Value) (A:Around) (outer:List Env) (s:Shared) (H:Hp) (E:XK),Qa1 k (A.deeper (envOfC x (Qam st) s.heap.objs.size f cdv))→∀P,VSs ((Qgj CX0 Pr w K mg base N x (Qam st) f cdv A outer s H E).nox) (pm++lm) P R (QbF st) b) :
  Can Pr w K mg base x ps (k+1) (vSp K mg pm R (Qa5 N.length b)):=by
 refine Df.can (k:=k) S hb (fun vs H Q E h=>?_) (fun f cdv A outer s H vs Q E hr h=>?_)
 ·obtain ⟨ds,O,F,as,d,O',r,a,_⟩:=h;rw [a.len.1,hpl]
 ·obtain ⟨ds,O,F,as,d,O',r,a,e,q⟩:=h;refine ⟨_,body f cdv A outer s H E hr (Pt.all H),?_⟩;refine ⟨_,O,F,as,r,Qjn a hl hp,?_⟩;unfold Qa5 at e
  cases eb:b (ds.map some++List.replicate (N.length - ds.length) none) O with
  | rt d' O2 =>
   rw [eb] at e;cases e
   exact fun v H' F' as' g r' hv=>q v H' F' as' g.gr r' (hR _ _ _ _ _ _ _ (fun c hc=>Classical.not_not.mp hc) hv)
  | nx ρ O2 =>
   rw [eb] at e;cases e
   exact fun σ' H' F' as' g r' _=>q _ H' F' as' g.gr r' (hR0 _ _ _ _)
  | bk _ _=>rw [eb] at e; cases e
  | ct _ _=>rw [eb] at e; cases e
  | ex _ _=>rw [eb] at e; cases e
  | no=>rw [eb] at e; cases e
end
section
variable {X:Cx}{md:List Md}{P:Pt}{R:RR}{k:Nat}{x:Str}{ps:List Str}{p pos:Pos}{e:Expr}{es:List Expr}{pm:List Md}{c:List D→Qac→Res D}{ma:M (List D)}
def Qau (c:List D→Qac→Res D) (ma:M (List D)):M D:=fun ρ O=>(ma ρ O).bind fun ds O1=>c ds O1
theorem Qtl {K:Frag}{mg:Str→Option Value} (hR:QeT R) {E:XK}{σ:St}{H:Hp}{Q:VK} (q:tM K mg md P R (Qau c ma) σ H Q):QoY (vSp K mg pm R c) [] E (tMA K mg md P pm ma) σ H Q:=by
 obtain ⟨ρ,O,F,as,d,O',r,s,e,k⟩:=q;obtain ⟨ds,O1,e1,e⟩:=Res.bind_ok e;refine ⟨ρ,_,F,as,_,_,r,s,e1,fun vs H1 F1 as1 g1 r1 hv=>?_⟩;dsimp only;rw [zO];exact ⟨ds,O1,F1,as1,d,O',r1,hv,e,fun v H' F' as' g' r' hw=>k v H' F' as' (g1.trans g') r' (hR _ _ _ _ _ _ _ (fun a ha=>g1.dm a ha) hw)⟩
theorem QnG (hR:QeT R) (C:Can X.prog X.w X.K X.mg X.base x ps k (vSp X.K X.mg pm R c)) (hr:Qa1 k X.A) (ha:AE X md P pm (e::es) ma) (hg:Gl X x:=by rfl) (hdb:(x == ("__debug__":Str))=false:=by decide)
  (he:starEach (e::es) X.env=(false,eval e X.env)::starEach es X.env:=by exact QbN rfl) (hpl:(backTo pos (starEach es X.env)).any (·.1)=false:=by exact QbT rfl):PE X (.Call (.Name x p) (e::es) [] pos) (tM X.K X.mg md P R (Qau c ma)) :=
 (QuR C hr ha hg hdb he hpl).imp fun _ _ _ q=>Qtl hR q
end
section
variable {K:Frag}{mg:Str→Option Value}{H F:Hp}{as:List Addr}{O:Qac}{Q:VK}{d:D}{p:Addr}{xs:List V}{ds:List D}
theorem Qbi {v:V} (r:RlO K mg O H F as) (k:∀v' H' F',Gr H F as H' F' as→RlO K mg O H' F' as→Ow K (fun a=>H a=none) H' F' as v' d→Q v' H') (hn:Qg4 d=true) (hv:Rp K F as v d):Q v H:=k v H F Gr.refl r (.inl ⟨hn,hv⟩)
theorem RlO.frF (r:RlO K mg O H F as) (hp:H p=none):F p=none:=by
 cases q:F p with
 | none=>rfl
 | some o=>rw [r.fh p o q] at hp; cases hp
theorem Qkk (r:RlO K mg O H F as) (k:∀v' H' F',Gr H F as H' F' as→RlO K mg O H' F' as→Ow K (fun a=>H a=none) H' F' as v' (.lst ds)→Q v' H') (hp:H p=none) (hs:Rps K F as xs ds):Q (.ref p) (upd H p (.lst xs)) :=
 k _ _ F (Gr.lay hp) (r.lay hp) (.inr ⟨p,xs,ds,rfl,rfl,QaG,r.frF hp,fun z=>r.all z hp,hp,hs⟩)
theorem Qr8 (r:RlO K mg O H F as) (k:∀v' H' F',Gr H F as H' F' as→RlO K mg O H' F' as→Ow K (fun a=>H a=none) H' F' as v' (.tup ds)→Q v' H') (hp:H p=none) (hs:Rps K F as xs ds):Q (.ref p) (upd H p (.tup xs)):=by
 have hF:=r.frF hp
 have ff:Same F (upd F p (.tup xs)):=fun b u q=>by rw [Qar (QaC q hF)]; exact q
 exact k _ _ (upd F p (.tup xs)) ((Gr.lay hp).frz hp hF) ((r.lay hp).frz QaG hF (fun z=>r.all z hp) rfl) (.inl ⟨rfl,Rp.mkT (.inl QaG) (Rps.mono ff (fun _ _ z=>z) _ hs)⟩)
end
section
variable {X:Cx}
def QwX (K:Frag):R2:=fun x y H Q=>∃l b xs zs,x = .ref l∧y = .ref b∧RdK K H l xs∧RdK K H b zs∧xs.length+zs.length≤sizeLine∧∀p,H p=none→Q (.ref p) (upd H p (.lst (xs++zs)))
theorem Qsy:OpR X (binaryOp .Add) (QwX X.K):=by
 intro pins s σ H x y v u Q I rx ry h;obtain ⟨l,b,xs,zs,rfl,rfl,hH,hB,hz,q⟩:=h;cases rx;cases ry;obtain ⟨z,its,n,r,e⟩:=hH.ok I;obtain ⟨z2,its2,n2,r2,e2⟩:=hB.ok I;have hl:=r.length;have hl2:=r2.length;refine PySem.P.add_list e e2 ?_ (by rw [zp,zp]; omega)
 have ea:its.toArray++its2.toArray=(its++its2).toArray:=by simp
 rw [ea];exact ⟨.ref _,_,I.lnew (t':=s.toks) (r.append r2) (by rw [zn]; omega),rfl,q _ I.fresh⟩
def QwA (K:Frag):R2:=fun x y H Q=>∃l k xs,x = .ref l∧y = .int k∧RdK K H l xs∧-(2 ^ 63)≤k∧k < 2 ^ 63∧xs.length * k.toNat≤sizeLine ∧
 ∀p,H p=none→Q (.ref p) (upd H p (.lst (List.replicate k.toNat xs).flatten))
theorem QtF:OpR X (binaryOp .Mult) (QwA X.K):=by
 intro pins s σ H x y v u Q I rx ry h;obtain ⟨l,k,xs,rfl,rfl,hH,h1,h2,hz,q⟩:=h;cases rx;obtain ⟨t,rfl⟩:=ry;obtain ⟨z,its,n,r,e⟩:=hH.ok I;have hl:=r.length
 have hlen:its.toArray.size * k.toNat≤sizeLine:=by rw [zp,←hl]; exact hz
 have hcap:¬its.toArray.size * k.toNat > (2 ^ 63 - 1) / 8:=by
  have:(sizeLine:Nat)≤(2 ^ 63 - 1) / 8:=by decide
  omega
 have hfit:¬(!Builtin.List.listFitsIndex k)=true:=by
  rw [fitsIndex_both h1 h2];exact zj
 have hlong:¬Builtin.List.listTooLong (its.toArray.size * k.toNat)=true:=by
  rw [QhQ hlen];exact zj
 have hnew:List.foldl (fun x1 x2=>x1++x2) #[] (List.replicate (if its.toArray.isEmpty=true then 0 else k.toNat) its.toArray)=(List.replicate k.toNat its).flatten.toArray:=by
  have f0:∀m:Nat,List.foldl (fun x1 x2=>x1++x2) #[] (List.replicate m its.toArray)=(List.replicate m its).flatten.toArray:=fun m=>by
   have:=foldl_rep its m []
   rw [zC] at this;exact this
  rw [f0]
  cases its with
  | nil=>simp
  | cons a r'=>rw [if_neg (by simp)]
 refine wpAny_binaryOp_repeat_ref (T:="list") (U:="int") (by decide) ⟨_,e,rfl⟩ (fun s'=>typeIs_int s' k t) noFill_list_mul F.fills_int_mul F.slot_int_rmul repeat_list F.slot_int_index.lookup
  (call_meets F.slot_int_rmul (typeIs_int s k t) F.entry_int_rmul (F.args_int_rmul_2 _ _) (int___rmul___int_list k t l its.toArray n)
   ⟨e,rfl,⟨_,e,rfl⟩,call_meets F.slot_list_mul ⟨_,e,rfl⟩ F.entry_list_mul (F.args_list_mul_2 _ _) (AutoListH.list___mul___list_int_3 l its.toArray n k t hfit hcap hlong) ⟨e,?_⟩⟩)
 rw [hnew];exact ⟨.ref _,_,I.lnew (t':=s.toks) (r.rep k.toNat) (by rw [len_rep,Nat.mul_comm]; exact hz),rfl,q _ I.fresh⟩
def QaJ:D→D→Option D
 | .int i,.int j=>some (.int (i+j))
 | .int i,.bl k=>some (.int (i+b2i k))
 | .str a,.str b=>if a.length+b.length≤1000000 then some (.str (a++b)) else none
 | .lst a,.lst b=>if a.length+b.length≤1000000 then some (.lst (a++b)) else none
 | .tup a,.tup b=>if a.length+b.length≤1000000∧a≠[] then some (.tup (a++b)) else none
 | _,_=>none
instance (a:List D):Decidable (a≠[]):=match a with
 | []=>isFalse fun h=>h rfl
 | _::_=>isTrue fun h=>nomatch h
theorem Qbq:OpD X (binaryOp .Add) QaJ:=by
 intro pins s σ H x y v u Q I rx ry h;obtain ⟨O,F,as,dx,dy,d,r,hx,hy,e,k⟩:=h
 cases dx with
 | int i =>
  cases (hx.rp rfl).unI
  cases dy with
  | int j =>
   cases (hy.rp rfl).unI;cases e;exact QuK pins s σ H _ _ v u Q I rx ry ⟨i,j,rfl,rfl,Qbi r k rfl Rp.int⟩
  | bl j =>
   cases (hy.rp rfl).unB;cases e;exact QpB pins s σ H _ _ v u Q I rx ry ⟨i,j,rfl,rfl,Qbi r k rfl Rp.int⟩
  | _=>cases e
 | str a =>
  cases (hx.rp rfl).unS
  cases dy with
  | str b =>
   cases (hy.rp rfl).unS;simp only [QaJ] at e;split at e
   ·rename_i hz;cases e;refine Qo9 pins s σ H _ _ v u Q I rx ry ⟨S a,S b,rfl,rfl,by rw [QbI,QbI]; exact Qd0 hz,?_⟩;rw [Qrb];exact Qbi r k rfl Rp.str
   ·cases e
  | _=>cases e
 | lst a =>
  obtain ⟨p,xs,rfl,h1,h2⟩:=hx.list r.fh
  cases dy with
  | lst b =>
   obtain ⟨p',ys,rfl,h3,h4⟩:=hy.list r.fh;simp only [QaJ] at e;split at e
   ·rename_i hz;cases e;exact Qsy pins s σ H _ _ v u Q I rx ry ⟨p,p',xs,ys,rfl,rfl,h1,h3,by rw [h2.length,h4.length]; exact Qd0 hz,fun q hq=>Qkk r k hq (Rps.append h4 h2)⟩
   ·cases e
  | _=>cases e
 | tup a =>
  obtain ⟨p,xs,rfl,h1,h2⟩:=(hx.rp rfl).unT
  cases dy with
  | tup b =>
   obtain ⟨p',ys,rfl,h3,h4⟩:=(hy.rp rfl).unT;simp only [QaJ] at e;split at e
   ·rename_i hz;cases e
    have hxs:xs≠[]:=fun z=>hz.2 (List.eq_nil_of_length_eq_zero (by rw [←h2.length,z]; rfl))
    refine Qtk pins s σ H _ _ v u Q I rx ry ⟨p,p',xs,ys,rfl,rfl,Same.seqT r.fh h1,Same.seqT r.fh h3,hxs,by rw [h2.length,h4.length]; exact Qd0 hz.1,fun z=>?_,fun _ q hq=>Qr8 r k hq (Rps.append h4 h2)⟩;have hb:b = []:=List.eq_nil_of_length_eq_zero (by rw [←h4.length,z]; rfl);subst hb;rw [zO] at k;exact Qbi r k rfl (hx.rp rfl)
   ·cases e
  | _=>cases e
 | _=>cases e
def gI (C:Int→Int→Bool) (f:Int→Int→Int):D→D→Option D
 | .int i,.int j=>if C i j=true then some (.int (f i j)) else none
 | _,_=>none
theorem QrN {f:Value→Value→Sem Value}{Cp:Int→Int→Prop}{g:Int→Int→Int}{C:Int→Int→Bool} (h:OpR X f (rI Cp fun i j=>.int (g i j))) (hc:∀i j,C i j=true→Cp i j):OpD X f (gI C g):=by
 intro pins s σ H x y v u Q I rx ry h';obtain ⟨O,F,as,dx,dy,d,r,hx,hy,e,k⟩:=h'
 cases dx with
 | int i =>
  cases (hx.rp rfl).unI
  cases dy with
  | int j =>
   cases (hy.rp rfl).unI;simp only [gI] at e;split at e
   ·rename_i hC;cases e;exact h pins s σ H _ _ v u Q I rx ry ⟨i,j,rfl,rfl,hc i j hC,Qbi r k rfl Rp.int⟩
   ·cases e
  | _=>cases e
 | _=>cases e
def QdQ:D→D→Option D:=gI (fun _ _=>true) fun i j=>i - j
theorem Qko:OpD X (binaryOp .Sub) QdQ:=by
 intro pins s σ H x y v u Q I rx ry h';obtain ⟨O,F,as,dx,dy,d,r,hx,hy,e,k⟩:=h'
 cases dx with
 | int i =>
  cases (hx.rp rfl).unI
  cases dy with
  | int j =>
   cases (hy.rp rfl).unI;cases e;exact Qu3 pins s σ H _ _ v u Q I rx ry ⟨i,j,rfl,rfl,Qbi r k rfl Rp.int⟩
  | _=>cases e
 | _=>cases e
def Qd8 (i:Int):Bool:=decide (-(2 ^ 64) < i)&&decide (i < 2 ^ 64)
theorem Qg0 {i:Int} (h:Qd8 i=true):-(2 ^ 64) < i∧i < 2 ^ 64:=by
 unfold Qd8 at h;rw [zr,decide_eq_true_eq,decide_eq_true_eq] at h;exact h
def QdH:D→D→Option D
 | .int i,.int j=>if (Qd8 i || Qd8 j)=true then some (.int (i * j)) else none
 | .str l,.int n=>if -1000000 < n∧n < 1000000∧l.length * n.toNat≤16777216 then some (.str (List.replicate n.toNat l).flatten) else none
 | .lst l,.int n=>if -1000000 < n∧n < 1000000∧l.length * n.toNat≤1000000 then some (.lst (List.replicate n.toNat l).flatten) else none
 | _,_=>none
theorem QmF:OpD X (binaryOp .Mult) QdH:=by
 intro pins s σ H x y v u Q I rx ry h;obtain ⟨O,F,as,dx,dy,d,r,hx,hy,e,k⟩:=h
 cases dx with
 | int i =>
  cases (hx.rp rfl).unI
  cases dy with
  | int j =>
   cases (hy.rp rfl).unI;simp only [QdH] at e;split at e
   ·rename_i hz;cases e;refine Qvh pins s σ H _ _ v u Q I rx ry ⟨i,j,rfl,rfl,?_,Qbi r k rfl Rp.int⟩;rw [Bool.or_eq_true] at hz
    rcases hz with z | z
    ·exact .inl (Qg0 z)
    ·exact .inr (Qg0 z)
   ·cases e
  | _=>cases e
 | str l =>
  cases (hx.rp rfl).unS
  cases dy with
  | int n =>
   cases (hy.rp rfl).unI;simp only [QdH] at e;split at e
   ·rename_i hz;cases e;exact Qo8 pins s σ H _ _ v u Q I rx ry ⟨l,n,rfl,rfl,hz.1,hz.2.1,hz.2.2,Qbi r k rfl Rp.str⟩
   ·cases e
  | _=>cases e
 | lst l =>
  obtain ⟨p,xs,rfl,h1,h2⟩:=hx.list r.fh
  cases dy with
  | int n =>
   cases (hy.rp rfl).unI;simp only [QdH] at e;split at e
   ·rename_i hz;cases e;exact QtF pins s σ H _ _ v u Q I rx ry ⟨p,n,xs,rfl,rfl,h1,by omega,by omega,by rw [h2.length]; exact Qd0 hz.2.2,fun q hq=>Qkk r k hq (h2.rep _)⟩
   ·cases e
  | _=>cases e
 | _=>cases e
def QbA:D→D→Option D:=gI (fun _ j=>decide (0 < j)) fun i j=>i % j
theorem QcH:OpD X (binaryOp .Mod) QbA:=QrN Qvl fun _ _ h=>jp h
def QcX:D→D→Option D:=gI (fun _ j=>decide (0 < j)&&decide (j < 1073741824)) fun i j=>i / j
theorem Qhl:OpD X (binaryOp .FloorDiv) QcX:=QrN Qtg fun i j h=>by
 rw [zr,decide_eq_true_eq,decide_eq_true_eq] at h;exact h
def Qe6:D→D→Option D:=gI (fun i j=>decide (0≤j)&&(decide (j≤1000000)&&Qd8 i)) fun i j=>i ^ j.toNat
theorem Qkq:OpD X (binaryOp .Pow) Qe6:=QrN Qu5 fun i j h=>by
 rw [zr,zr,decide_eq_true_eq,decide_eq_true_eq] at h
 have:=Qg0 h.2.2
 exact ⟨h.1,h.2.1,by omega⟩
def mUn (g:D→Option D) (m:M D):M D:=fun ρ O=>(m ρ O).bind fun d O1=>match g (QaR O1 d) with
 | some y=>.ok y O1
 | none=>.no
def QeP:D→Option D
 | .int i=>some (.int (-i))
 | _=>none
theorem Qiu {md:List Md}{P:Pt}{a:Expr}{pos:Pos}{m:M D} (h:SE X md P a m):OE X md P (.UnaryOp .USub a pos) (mUn QeP m):=(Qwu QvH h).imp fun σ H Q q=>by
 obtain ⟨ρ,O,F,as,d,O',r,s,e,k⟩:=q;obtain ⟨x,O1,e1,e⟩:=Res.bind_ok e;refine ⟨ρ,_,F,as,_,_,r,s,e1,fun v H1 F1 as1 g1 r1 hv=>?_⟩
 cases ed:QaR O1 x with
 | int i =>
  rw [ed] at e;cases e
  have:=Sv.lk hv r1
  rw [ed] at this;exact ⟨i,(this.rp rfl).unI,k _ H1 F1 as1 g1 r1 (.inl ⟨rfl,Rp.int⟩)⟩
 | _=>rw [ed] at e; cases e
def gCI (f:Int→Int→Bool):D→D→Option D
 | .int i,.int j=>some (.bl (f i j))
 | _,_=>none
theorem Qoy {f:Value→Value→Sem Value}{g:Int→Int→Bool} (h:OpR X f (rI0 fun i j=>.bl (g i j))):OpD X f (gCI g):=by
 intro pins s σ H x y v u Q I rx ry h';obtain ⟨O,F,as,dx,dy,d,r,hx,hy,e,k⟩:=h'
 cases dx with
 | int i =>
  cases (hx.rp rfl).unI
  cases dy with
  | int j =>
   cases (hy.rp rfl).unI;cases e;exact h pins s σ H _ _ v u Q I rx ry ⟨i,j,rfl,rfl,Qbi r k rfl Rp.bl⟩
  | _=>cases e
 | _=>cases e
def gLt:D→D→Option D:=gCI fun i j=>decide (i < j)
def gGt:D→D→Option D:=gCI fun i j=>decide (j < i)
def gGe:D→D→Option D:=gCI fun i j=>decide (j≤i)
def gLe:D→D→Option D
 | .int i,.int j=>some (.bl (decide (i≤j)))
 | .str a,.str b=>some (.bl (!decide (b < a)))
 | _,_=>none
theorem QhJ:OpD X (compareOp .LtE) gLe:=by
 intro pins s σ H x y v u Q I rx ry h';obtain ⟨O,F,as,dx,dy,d,r,hx,hy,e,k⟩:=h'
 cases dx with
 | int i =>
  cases (hx.rp rfl).unI
  cases dy with
  | int j =>
   cases (hy.rp rfl).unI;cases e;exact QwM pins s σ H _ _ v u Q I rx ry ⟨i,j,rfl,rfl,Qbi r k rfl Rp.bl⟩
  | _=>cases e
 | str a =>
  cases (hx.rp rfl).unS
  cases dy with
  | str b =>
   cases (hy.rp rfl).unS;cases e;refine Qp5 pins s σ H _ _ v u Q I rx ry ⟨S a,S b,rfl,rfl,?_⟩;rw [Qh4,Qh4];exact Qbi r k rfl Rp.bl
  | _=>cases e
 | _=>cases e
theorem QjY:OpD X (compareOp .Lt) gLt:=Qoy Qv2
theorem Qi4:OpD X (compareOp .Gt) gGt:=Qoy QwP
theorem Qwp:OpD X (compareOp .GtE) gGe:=Qoy QwQ
mutual
def toP:D→PyData
 | .non=>.none
 | .bl b=>.bool b
 | .int i=>.int i
 | .str l=>.str (S l)
 | .lst ds=>.list (Qey ds)
 | .tup ds=>.tuple (Qey ds)
 | .dic _ _=>.none
 | .ob _=>.none
def Qey:List D→List PyData
 | []=>[]
 | d::ds=>toP d::Qey ds
end
mutual
def Qcp:D→Bool
 | .lst ds=>QeN ds
 | .tup ds=>QeN ds
 | .dic _ _=>false
 | .ob _=>false
 | _=>true
def QeN:List D→Bool
 | []=>true
 | d::ds=>Qcp d&&QeN ds
end
section
variable {K:Frag}{F:Hp}{as:List Addr}
mutual
theorem Rp.rep:∀(d:D) {v:V},Qcp d=true→Rp K F as v d→Rep K F v (toP d)
 | .non,v,_,h=>by rw [toP,Rep]; exact h.unN
 | .bl b,v,_,h=>by rw [toP,Rep]; exact h.unB
 | .int i,v,_,h=>by rw [toP,Rep]; exact h.unI
 | .str x,v,_,h=>by rw [toP,Rep]; exact h.unS
 | .lst ds,v,hp,h=>by
  obtain ⟨a,xs,h1,h2,h3⟩:=h.unL;rw [toP,Rep];rw [Qcp] at hp;exact ⟨a,xs,h1,h2.sq,Rps.rep' ds hp h3⟩
 | .tup ds,v,hp,h=>by
  obtain ⟨a,xs,h1,h2,h3⟩:=h.unT;rw [toP,Rep];rw [Qcp] at hp;exact ⟨a,xs,h1,h2,Rps.rep' ds hp h3⟩
 | .dic _ _,v,hp,h=>by rw [Qcp] at hp; cases hp
 | .ob _,v,hp,h=>by rw [Qcp] at hp; cases hp
theorem Rps.rep':∀(ds:List D) {xs:List V},QeN ds=true→Rps K F as xs ds→QaD K F xs (Qey ds)
 | [],xs,_,h=>by rw [h.un0,Qey]; exact QaD.nil
 | d::ds,xs,hp,h=>by
  obtain ⟨x,r,rfl,h2,h3⟩:=h.un;rw [QeN,zr] at hp;rw [Qey];exact QaD.cons (Rp.rep d hp.1 h2) (Rps.rep' ds hp.2 h3)
end
theorem Lk.rep {H:Hp}{d:D}{v:V} (h:Lk K H F as v d) (fh:Same F H) (hp:Qcp d=true):Rep K H v (toP d):=by
 rcases h with h | ⟨a,xs,ds,rfl,rfl,h1,h2⟩
 ·exact Rep.mono fh _ (Rp.rep d hp h)
 ·rw [Qcp] at hp;rw [toP,Rep];exact ⟨a,xs,rfl,.inl (.inl h1),QaD.mono fh _ (Rps.rep' ds hp h2)⟩
end
def okE (d:D):Bool:=Qcp d&&okD (toP d)
def Qct (a b:D):Bool:=PyData.eqv (toP a) (toP b)
def gEq:D→D→Option D
 | .int i,.int j=>some (.bl (decide (i=j)))
 | .str a,.str b=>some (.bl (decide (a=b)))
 | .bl a,.bl b=>some (.bl (decide (a=b)))
 | a,b=>if (okE a&&okE b)=true then some (.bl (Qct a b)) else none
def gNe:D→D→Option D
 | .int i,.int j=>some (.bl (!decide (i=j)))
 | .str a,.str b=>some (.bl (!decide (a=b)))
 | .bl a,.bl b=>some (.bl (!decide (a=b)))
 | a,b=>if (okE a&&okE b)=true then some (.bl (!Qct a b)) else none
theorem Qr1 (a b:List Nat):decide (V.str (S a)=V.str (S b))=decide (a=b):=by
 by_cases h:a=b
 ·subst h; simp
 ·rw [zh h,zh];intro z;exact h (Qv6 (V.str.inj z))
theorem Qsa (a b:Int):decide (V.int a=V.int b)=decide (a=b):=by
 by_cases h:a=b
 ·subst h; simp
 ·rw [zh h,zh];intro z;exact h (V.int.inj z)
theorem Qsp (a b:Bool):decide (V.bl a=V.bl b)=decide (a=b):=by
 cases a <;> cases b <;> rfl
theorem QtH {a b d:D} (h:gEq a b=some d):(∃i j,a = .int i∧b = .int j∧d = .bl (decide (i=j)))∨(∃i j,a = .str i∧b = .str j∧d = .bl (decide (i=j)))∨(∃i j,a = .bl i∧b = .bl j∧d = .bl (decide (i=j))) ∨
  (okE a=true∧okE b=true∧d = .bl (Qct a b)):=by
 unfold gEq at h;split at h
 ·cases h; exact .inl ⟨_,_,rfl,rfl,rfl⟩
 ·cases h; exact .inr (.inl ⟨_,_,rfl,rfl,rfl⟩)
 ·cases h; exact .inr (.inr (.inl ⟨_,_,rfl,rfl,rfl⟩))
 ·split at h
  ·rename_i hk;rw [zr] at hk;cases h;exact .inr (.inr (.inr ⟨hk.1,hk.2,rfl⟩))
  ·cases h
theorem QtA {a b d:D} (h:gNe a b=some d):(∃i j,a = .int i∧b = .int j∧d = .bl (!decide (i=j)))∨(∃i j,a = .str i∧b = .str j∧d = .bl (!decide (i=j)))∨(∃i j,a = .bl i∧b = .bl j∧d = .bl (!decide (i=j))) ∨
  (okE a=true∧okE b=true∧d = .bl (!Qct a b)):=by
 unfold gNe at h;split at h
 ·cases h; exact .inl ⟨_,_,rfl,rfl,rfl⟩
 ·cases h; exact .inr (.inl ⟨_,_,rfl,rfl,rfl⟩)
 ·cases h; exact .inr (.inr (.inl ⟨_,_,rfl,rfl,rfl⟩))
 ·split at h
  ·rename_i hk;rw [zr] at hk;cases h;exact .inr (.inr (.inr ⟨hk.1,hk.2,rfl⟩))
  ·cases h
theorem Qb7 {k:Nat} (hr:Qa1 k X.A):OpD X (compareOp .Eq) gEq:=by
 intro pins s σ H x y v u Q I rx ry h';obtain ⟨O,F,as,dx,dy,d,r,hx,hy,e,k⟩:=h'
 rcases QtH e with ⟨i,j,rfl,rfl,rfl⟩ | ⟨i,j,rfl,rfl,rfl⟩ | ⟨i,j,rfl,rfl,rfl⟩ | ⟨h1,h2,rfl⟩
 ·cases (hx.rp rfl).unI;cases (hy.rp rfl).unI;refine QoJ pins s σ H _ _ v u Q I rx ry ⟨rfl,?_⟩;rw [Qsa];exact Qbi r k rfl Rp.bl
 ·cases (hx.rp rfl).unS;cases (hy.rp rfl).unS;refine QoJ pins s σ H _ _ v u Q I rx ry ⟨rfl,?_⟩;rw [Qr1];exact Qbi r k rfl Rp.bl
 ·cases (hx.rp rfl).unB;cases (hy.rp rfl).unB;refine QoJ pins s σ H _ _ v u Q I rx ry ⟨rfl,?_⟩;rw [Qsp];exact Qbi r k rfl Rp.bl
 ·unfold okE at h1 h2;rw [zr] at h1 h2;exact Qu1 hr pins s σ H _ _ v u Q I rx ry ⟨toP dx,toP dy,hx.rep r.fh h1.1,hy.rep r.fh h2.1,h1.2,h2.2,Qbi r k rfl Rp.bl⟩
theorem Qf0 {k:Nat} (hr:Qa1 k X.A):OpD X (compareOp .NotEq) gNe:=by
 intro pins s σ H x y v u Q I rx ry h';obtain ⟨O,F,as,dx,dy,d,r,hx,hy,e,k⟩:=h'
 rcases QtA e with ⟨i,j,rfl,rfl,rfl⟩ | ⟨i,j,rfl,rfl,rfl⟩ | ⟨i,j,rfl,rfl,rfl⟩ | ⟨h1,h2,rfl⟩
 ·cases (hx.rp rfl).unI;cases (hy.rp rfl).unI;refine Qoh pins s σ H _ _ v u Q I rx ry ⟨rfl,?_⟩;rw [Qsa];exact Qbi r k rfl Rp.bl
 ·cases (hx.rp rfl).unS;cases (hy.rp rfl).unS;refine Qoh pins s σ H _ _ v u Q I rx ry ⟨rfl,?_⟩;rw [Qr1];exact Qbi r k rfl Rp.bl
 ·cases (hx.rp rfl).unB;cases (hy.rp rfl).unB;refine Qoh pins s σ H _ _ v u Q I rx ry ⟨rfl,?_⟩;rw [Qsp];exact Qbi r k rfl Rp.bl
 ·unfold okE at h1 h2;rw [zr] at h1 h2;exact Quv hr pins s σ H _ _ v u Q I rx ry ⟨toP dx,toP dy,hx.rep r.fh h1.1,hy.rep r.fh h2.1,h1.2,h2.2,Qbi r k rfl Rp.bl⟩
def toV:D→V
 | .bl b=>.bl b
 | .int i=>.int i
 | .str l=>.str (S l)
 | _=>.non
def QfM:D→Bool
 | .non=>true
 | .bl _=>true
 | .int _=>true
 | .str _=>true
 | _=>false
def eqF (x y:D):Bool:=eqV (toV x) (toV y)
theorem Rp.flat {K:Frag}{F:Hp}{as:List Addr}{v:V}{d:D} (h:Rp K F as v d) (hf:QfM d=true):v=toV d∧Qfj v=true:=by
 cases d with
 | non=>rw [h.unN]; exact ⟨rfl,rfl⟩
 | bl b=>rw [h.unB]; exact ⟨rfl,rfl⟩
 | int b=>rw [h.unI]; exact ⟨rfl,rfl⟩
 | str b=>rw [h.unS]; exact ⟨rfl,rfl⟩
 | _=>cases hf
theorem Rps.flat {K:Frag}{F:Hp}{as:List Addr}:∀{ds:List D}{xs:List V},Rps K F as xs ds→ds.all QfM=true→xs=ds.map toV∧xs.all Qfj=true
 | [],xs,h,_=>by rw [h.un0]; exact ⟨rfl,rfl⟩
 | d::ds,xs,h,hf=>by
  obtain ⟨x,r,rfl,h2,h3⟩:=h.un;rw [List.all_cons,zr] at hf;obtain ⟨e1,e2⟩:=h2.flat hf.1;obtain ⟨e3,e4⟩:=Rps.flat h3 hf.2;exact ⟨by rw [zf,←e1,←e3],by rw [List.all_cons,e2,e4]; rfl⟩
def gIn (neg:Bool):D→D→Option D
 | .str [c],.str l=>some (.bl (neg ^^ decide (c∈l)))
 | x,.lst ds=>if (QfM x&&ds.all QfM)=true then some (.bl (neg ^^ ds.any fun y=>eqF y x)) else none
 | x,.tup ds=>if (QfM x&&ds.all QfM)=true then some (.bl (neg ^^ ds.any fun y=>eqF y x)) else none
 | _,_=>none
theorem QtY {neg:Bool}{a b d:D} (h:gIn neg a b=some d):(∃c l,a = .str [c]∧b = .str l∧d = .bl (neg ^^ decide (c∈l)))∨(∃ds,(b = .lst ds∨b = .tup ds)∧QfM a=true∧ds.all QfM=true∧d = .bl (neg ^^ ds.any fun y=>eqF y a)):=by
 unfold gIn at h;split at h
 ·cases h; exact .inl ⟨_,_,rfl,rfl,rfl⟩
 ·split at h
  ·rename_i hk;rw [zr] at hk;cases h;exact .inr ⟨_,.inl rfl,hk.1,hk.2,rfl⟩
  ·cases h
 ·split at h
  ·rename_i hk;rw [zr] at hk;cases h;exact .inr ⟨_,.inr rfl,hk.1,hk.2,rfl⟩
  ·cases h
 ·cases h
theorem Qt5 {x:D}{ds:List D}:inV (toV x) (ds.map toV)=ds.any fun y=>eqF y x:=by
 unfold inV;rw [List.any_map];rfl
theorem QqN {K:Frag}{mg:Str→Option Value}{H F:Hp}{as:List Addr}{O:Qac}{v:V}{b:D}{ds:List D} (r:RlO K mg O H F as) (hy:Lk K H F as v b) (hb:b = .lst ds∨b = .tup ds):∃p xs,v = .ref p∧(SqL K H p xs∨SqT K H p xs)∧Rps K F as xs ds:=by
 rcases hb with rfl | rfl
 ·obtain ⟨p,xs,e,h1,h2⟩:=hy.list r.fh;exact ⟨p,xs,e,.inl h1.sq,h2⟩
 ·obtain ⟨p,xs,e,h1,h2⟩:=(hy.rp rfl).unT;exact ⟨p,xs,e,.inr (Same.seqT r.fh h1),h2⟩
theorem QqF {d:D} (h:QfM d=true):Qg4 d=true:=by cases d <;> first | rfl | cases h
theorem QwS:OpD X (compareOp .In) (gIn false):=by
 intro pins s σ H x y v u Q I rx ry h';obtain ⟨O,F,as,dx,dy,d,r,hx,hy,e,k⟩:=h'
 rcases QtY e with ⟨c,l,rfl,rfl,rfl⟩ | ⟨ds,hb,h1,h2,rfl⟩
 ·cases (hx.rp rfl).unS;cases (hy.rp rfl).unS;refine Qpk pins s σ H _ _ v u Q I rx ry ⟨c,l,rfl,rfl,?_⟩;rw [Bool.false_xor] at k;exact Qbi r k rfl Rp.bl
 ·obtain ⟨p,xs,rfl,h3,h4⟩:=QqN r hy hb;obtain ⟨e1,e2⟩:=(hx.rp (QqF h1)).flat h1;obtain ⟨e3,e4⟩:=h4.flat h2;refine Qpx pins s σ H _ _ v u Q I rx ry ⟨p,xs,rfl,h3,e2,e4,?_⟩;rw [if_neg zj,e1,e3,Qt5];rw [Bool.false_xor] at k;exact Qbi r k rfl Rp.bl
def gIx:D→D→Option D
 | .lst ds,.int i=>atI ds i
 | .tup ds,.int i=>atI ds i
 | .str l,.int i=>if l.length≤1000000 then (atI l i).map fun c=>.str [c] else none
 | _,_=>none
theorem Rps.atI {K:Frag}{F:Hp}{as:List Addr}{xs:List V}{ds:List D}{i:Int}{d:D} (h:Rps K F as xs ds) (e:atI ds i=some d):∃v,L2.atI xs i=some v∧Rp K F as v d:=by
 unfold L2.atI at e ⊢;rw [h.length]
 cases q:ixN ds.length i with
 | none=>rw [q] at e; cases e
 | some j =>
  rw [q] at e;exact h.get' e
def rDv (K:Frag) (mg:Str→Option Value) (g:D→D→Option D):R2:=fun x y H Q=>∃O F as dx dy d,RlO K mg O H F as∧Lk K H F as x dx∧Lk K H F as y dy∧g dx dy=some d∧∀v',Rp K F as v' d→Q v' H
theorem QxH:IxR X (rDv X.K X.mg gIx):=by
 intro value slice pins s σ H x y v u Q I rx ry h' hsb;obtain ⟨O,F,as,dx,dy,d,r,hx,hy,e,k⟩:=h'
 cases dx with
 | lst ds =>
  obtain ⟨p,xs,rfl,h1,h2⟩:=hx.list r.fh
  cases dy with
  | int i =>
   cases (hy.rp rfl).unI;obtain ⟨z,e1,e2⟩:=h2.atI e;exact QsJ value slice pins s σ H _ _ v u Q I rx ry ⟨p,xs,i,z,rfl,rfl,h1.sq,e1,k z e2⟩ hsb
  | _=>cases e
 | tup ds =>
  obtain ⟨p,xs,rfl,h1,h2⟩:=(hx.rp rfl).unT
  cases dy with
  | int i =>
   cases (hy.rp rfl).unI;obtain ⟨z,e1,e2⟩:=h2.atI e;exact QvK value slice pins s σ H _ _ v u Q I rx ry ⟨p,xs,i,z,rfl,rfl,Same.seqT r.fh h1,e1,k z e2⟩ hsb
  | _=>cases e
 | str l =>
  cases (hx.rp rfl).unS
  cases dy with
  | int i =>
   cases (hy.rp rfl).unI;simp only [gIx] at e;split at e
   ·rename_i hz
    cases q:L2.atI l i with
    | none=>rw [q] at e; cases e
    | some c =>
     rw [q] at e;cases e;exact Quh value slice pins s σ H _ _ v u Q I rx ry ⟨S l,i,c,rfl,rfl,by rw [QbI]; exact Qd0 hz,by rw [Qh4]; exact q,k _ Rp.str⟩ hsb
   ·cases e
  | _=>cases e
 | _=>cases e
theorem QaU {md:List Md}{P:Pt}{a b:Expr}{pos:Pos}{ma mb:M D} (ha:SE X md P a ma) (hb:SE X md P b mb) (hs:Qi1 b:=by intro _ _; rfl):VE X md P (.Subscript a b pos) (Qaf gIx ma mb):=(Qwr QxH ha hb hs).imp fun σ H Q h=>by
 obtain ⟨ρ,O,F,as,d,O',r,sl,e,k⟩:=h;obtain ⟨x,O1,e1,e⟩:=Res.bind_ok e;obtain ⟨y,O2,e2,e⟩:=Res.bind_ok e;split at e
 ·rename_i d' hg;cases e;refine ⟨ρ,_,F,as,_,_,r,sl,e1,fun v H1 F1 as1 g1 r1 hv=>?_⟩;refine ⟨ρ,_,F1,as1,_,_,r1,sl.step g1,e2,fun u H2 F2 as2 g2 r2 hu=>?_⟩;exact ⟨_,F2,as2,_,_,_,r2,Sv.lk (Sv.gr hv g2) r2,Sv.lk hu r2,hg,fun v' hw=>k v' H2 F2 as2 (g1.trans g2) r2 hw⟩
 ·cases e
def tMO (K:Frag) (mg:Str→Option Value) (md:List Md) (P:Pt) (m:M (Option Int)):TO:=fun σ H Q =>
 ∃ρ O F as b O',RlO K mg O H F as∧SlO K md P ρ σ H F as∧m ρ O = .ok b O'∧∀H' F' as',Gr H F as H' F' as'→RlO K mg O' H' F' as'→Q b H'
def VO (X:Cx) (md:List Md) (P:Pt) (e:Option Expr) (m:M (Option Int)):Prop:=PO X e (tMO X.K X.mg md P m)
theorem PO.imp {e:Option Expr}{t t':TO} (h:PO X e t) (k:∀σ H Q,t' σ H Q→t σ H Q):PO X e t':=fun pins s σ H Q I q=>h pins s σ H Q I (k σ H Q q)
def moN:M (Option Int):=fun _ O=>.ok none O
def moS (m:M D):M (Option Int):=fun ρ O=>(m ρ O).bind fun d O1=>match d with
 | .int i=>.ok (some i) O1
 | _=>.no
theorem Qdu {md:List Md}{P:Pt}:VO X md P none moN:=Qtt.imp fun σ H Q q=>by
 obtain ⟨ρ,O,F,as,d,O',r,s,e,k⟩:=q;cases e;exact k H F as Gr.refl r
theorem QbL {md:List Md}{P:Pt}{e:Expr}{m:M D} (h:VE X md P e m):VO X md P (some e) (moS m):=(Qts h).imp fun σ H Q q=>by
 obtain ⟨ρ,O,F,as,d,O',r,s,e,k⟩:=q;obtain ⟨x,O1,e1,e⟩:=Res.bind_ok e
 cases x with
 | int i =>
  cases e;exact ⟨ρ,_,F,as,_,_,r,s,e1,fun v H1 F1 as1 g1 r1 hv=>⟨i,Rp.unI hv,k H1 F1 as1 g1 r1⟩⟩
 | _=>cases e
def gSl (d:D) (lo hi:Option Int):Option D:=match d with
 | .lst ds=>some (.lst (Qbt ds lo hi))
 | .tup ds=>some (.tup (Qbt ds lo hi))
 | .str l=>if l.length≤16777216 then some (.str (Qbt l lo hi)) else none
 | _=>none
def QxW (K:Frag) (mg:Str→Option Value):V→Option Int→Option Int→Hp→VK→Prop:=fun x lo hi H Q=>∃O F as dx d,RlO K mg O H F as∧Lk K H F as x dx∧gSl dx lo hi=some d ∧
 ∀v' H' F',Gr H F as H' F' as→RlO K mg O H' F' as→Ow K (fun a=>H a=none) H' F' as v' d→Q v' H'
theorem Rps.cut {K:Frag}{F:Hp}{as:List Addr}{xs:List V}{ds:List D} (h:Rps K F as xs ds) (lo hi:Option Int):Rps K F as (QhR xs lo hi) (Qbt ds lo hi):=by
 unfold QhR Qbt;rw [h.length];exact (h.drop _).take _
theorem QxF:SlR X (QxW X.K X.mg):=by
 intro pins s σ H x v vl vu lo hi sl Q I rx hs pl pu h;obtain ⟨O,F,as,dx,d,r,hx,e,k⟩:=h
 cases dx with
 | lst ds =>
  obtain ⟨p,xs,rfl,h1,h2⟩:=hx.list r.fh;cases e;exact QtZ pins s σ H _ v vl vu lo hi sl Q I rx hs pl pu ⟨p,xs,rfl,h1.sq,fun q hq=>Qkk r k hq (h2.cut lo hi)⟩
 | tup ds =>
  obtain ⟨p,xs,rfl,h1,h2⟩:=(hx.rp rfl).unT;cases e;refine QsG X.K rfl pins s σ H _ v vl vu lo hi sl Q I rx hs pl pu ⟨p,xs,rfl,Same.seqT r.fh h1,fun z=>?_,fun _ q hq=>Qr8 r k hq (h2.cut lo hi)⟩
  have:Qbt ds lo hi=ds:=by
   unfold Qbt;rw [←h2.length,z.1,z.2,List.drop_zero,Nat.sub_zero,h2.length,List.take_length]
  rw [this] at k;exact Qbi r k rfl (hx.rp rfl)
 | str l =>
  cases (hx.rp rfl).unS;simp only [gSl] at e;split at e
  ·rename_i hz;cases e;exact QuQ pins s σ H _ v vl vu lo hi sl Q I rx hs pl pu ⟨l,rfl,zF hz (Nat.le_of_eq sizeLine_eq.symm),Qbi r k rfl Rp.str⟩
  ·cases e
 | _=>cases e
def mSl (m:M D) (lo hi:M (Option Int)):M D:=fun ρ O=>(m ρ O).bind fun d O1=>(lo ρ O1).bind fun l O2=>(hi ρ O2).bind fun h O3=>match gSl (QaR O3 d) l h with
 | some y=>.ok y O3
 | none=>.no
end
section
variable {X:Cx}{md:List Md}{P:Pt}{R:RR}
theorem Qb0 {e:Expr}{lo hi:Option Expr}{p2 pos:Pos}{m:M D}{ml mh:M (Option Int)} (he:SE X md P e m) (hl:VO X md P lo ml) (hh:VO X md P hi mh):OE X md P (.Subscript e (.Slice lo hi none p2) pos) (mSl m ml mh):=(QqV QxF he hl hh).imp fun σ H Q q=>by
 obtain ⟨ρ,O,F,as,d,O',r,s,e,k⟩:=q;obtain ⟨x,O1,e1,e⟩:=Res.bind_ok e;obtain ⟨l,O2,e2,e⟩:=Res.bind_ok e;obtain ⟨h,O3,e3,e⟩:=Res.bind_ok e;split at e
 ·rename_i y hg;cases e;refine ⟨ρ,_,F,as,_,_,r,s,e1,fun v H1 F1 as1 g1 r1 hv=>?_⟩;refine ⟨ρ,_,F1,as1,_,_,r1,s.step g1,e2,fun H2 F2 as2 g2 r2=>?_⟩;have g12:=g1.trans g2;refine ⟨ρ,_,F2,as2,_,_,r2,s.step g12,e3,fun H3 F3 as3 g3 r3=>?_⟩;have g13:=g12.trans g3;exact ⟨_,F3,as3,_,_,r3,Sv.lk (Sv.gr (Sv.gr hv g2) g3) r3,hg,fun v' H' F' g' r' hw=>k v' H' F' as3 (g13.trans g') r' (Qch _ _ _ _ _ _ _ (fun a ha=>g13.dm a ha) hw)⟩
 ·cases e
def Lks (K:Frag) (H F:Hp) (as:List Addr):List V→List D→Prop
 | [],[]=>True
 | v::vs,d::ds=>Lk K H F as v d∧Lks K H F as vs ds
 | _,_=>False
theorem Qbs.lks {K:Frag}{mg:Str→Option Value}{O:Qac}{H F:Hp}{as:List Addr} (r:RlO K mg O H F as):∀{ms:List Md}{vs:List V}{ds:List D},Qbs K H F as ms vs ds→Lks K H F as vs (ds.map (QaR O))
 | [],[],[],_=>trivial
 | m::ms,v::vs,d::ds,h=>by
  refine ⟨?_,Qbs.lks r h.2⟩
  have h1:Sv K H F as v d:=by
   cases m with
   | v=>exact .inl h.1
   | s=>exact h.1
   | o=>exact h.1
  exact h1.lk r
 | [],[],_::_,h=>h.elim
 | [],_::_,[],h=>h.elim
 | [],_::_,_::_,h=>h.elim
 | _::_,[],[],h=>h.elim
 | _::_,[],_::_,h=>h.elim
 | _::_,_::_,[],h=>h.elim
def rC (K:Frag) (mg:Str→Option Value) (g:List D→Option D):List V→Hp→VK→Prop:=fun vs H Q=>∃O F as ds d,RlO K mg O H F as∧Lks K H F as vs ds∧g ds=some d ∧
 ∀v' H' F',Gr H F as H' F' as→RlO K mg O H' F' as→Ow K (fun a=>H a=none) H' F' as v' d→Q v' H'
abbrev QgB (X:Cx) (f:Value) (g:List D→Option D):Prop:=QfO X f (rC X.K X.mg g)
def Qav (g:List D→Option D) (ma:M (List D)):M D:=fun ρ O=>(ma ρ O).bind fun ds O1=>match g (ds.map (QaR O1)) with
 | some d=>.ok d O1
 | none=>.no
theorem QhO {K:Frag}{mg:Str→Option Value}{g:List D→Option D}{ms:List Md}{ma:M (List D)}{σ:St}{H:Hp}{Q:VK} (q:tM K mg md P (rO K) (Qav g ma) σ H Q):tCB (rC K mg g) (tMA K mg md P ms ma) σ H Q:=by
 obtain ⟨ρ,O,F,as,d,O',r,s,e,k⟩:=q;obtain ⟨ds,O1,e1,e⟩:=Res.bind_ok e;split at e
 ·rename_i y hg;cases e;refine ⟨ρ,_,F,as,_,_,r,s,e1,fun vs H1 F1 as1 g1 r1 hv=>?_⟩;exact ⟨_,F1,as1,_,_,r1,hv.lks r1,hg,fun v' H' F' g' r' hw=>k v' H' F' as1 (g1.trans g') r' (Qch _ _ _ _ _ _ _ (fun a ha=>g1.dm a ha) hw)⟩
 ·cases e
theorem Qa7 {x:Str}{p pos:Pos}{e:Expr}{es:List Expr}{id:String}{g:List D→Option D}{ms:List Md}{ma:M (List D)} (hc:QgB X (.builtin id) g) (hm:X.mg x=none) (ha:AE X md P ms (e::es) ma) (hv:bootBuiltins x=some (.builtin id):=by decide +kernel) (hg:Gl X x:=by rfl)
  (hn:x≠"__name__":=by decide) (hdb:(x == ("__debug__":Str))=false:=by decide) (he:starEach (e::es) X.env=(false,eval e X.env)::starEach es X.env:=by exact QbN rfl) (hpl:(backTo pos (starEach es X.env)).any (·.1)=false:=by exact QbT rfl) :
  OE X md P (.Call (.Name x p) (e::es) [] pos) (Qav g ma):=(QmY hc hg hm hv ha hn hdb he hpl).imp fun _ _ _ q=>QhO q
theorem Qdj {x:Str}{p pos:Pos}{e:Expr}{es:List Expr}{T:String}{g:List D→Option D}{ms:List Md}{ma:M (List D)} (hc:QgB X (.type T) g) (hm:X.mg x=none) (ha:AE X md P ms (e::es) ma) (hv:bootBuiltins x=some (.type T):=by decide +kernel) (hg:Gl X x:=by rfl)
  (hn:x≠"__name__":=by decide) (hdb:(x == ("__debug__":Str))=false:=by decide) (he:starEach (e::es) X.env=(false,eval e X.env)::starEach es X.env:=by exact QbN rfl) (hpl:(backTo pos (starEach es X.env)).any (·.1)=false:=by exact QbT rfl) :
  OE X md P (.Call (.Name x p) (e::es) [] pos) (Qav g ma):=(QpK hc hg hm hv ha hn hdb he hpl).imp fun _ _ _ q=>QhO q
theorem Lks.one {K:Frag}{H F:Hp}{as:List Addr}{vs:List V}{d:D} (h:Lks K H F as vs [d]):∃v,vs = [v]∧Lk K H F as v d:=by
 cases vs with
 | nil=>exact h.elim
 | cons v vs =>
  cases vs with
  | nil=>exact ⟨v,rfl,h.1⟩
  | cons u us=>exact h.2.elim
theorem Lks.two {K:Frag}{H F:Hp}{as:List Addr}{vs:List V}{d e:D} (h:Lks K H F as vs [d,e]):∃v u,vs = [v,u]∧Lk K H F as v d∧Lk K H F as u e:=by
 cases vs with
 | nil=>exact h.elim
 | cons v vs =>
  cases vs with
  | nil=>exact h.2.elim
  | cons u us =>
   cases us with
   | nil=>exact ⟨v,u,rfl,h.1,h.2.1⟩
   | cons w ws=>exact h.2.2.elim
def Qa4:List D→Option D
 | [.str l]=>if l.length≤1000000 then some (.int l.length) else none
 | [.lst ds]=>some (.int ds.length)
 | [.tup ds]=>some (.int ds.length)
 | _=>none
theorem Qbx:QgB X (.builtin "len") Qa4:=by
 intro pins s σ H xs us Q I rs h;obtain ⟨O,F,as,ds,d,r,hvs,e,k⟩:=h;unfold Qa4 at e;split at e
 ·rename_i l;obtain ⟨v,rfl,hv⟩:=hvs.one;split at e
  ·rename_i hz;cases e;cases (hv.rp rfl).unS;refine call_len pins s σ H _ us Q I rs ⟨_,_,rfl,⟨by rw [QbI]; exact Qd0 hz,rfl⟩,?_⟩;rw [QbI];exact Qbi r k rfl Rp.int
  ·cases e
 ·rename_i l;obtain ⟨v,rfl,hv⟩:=hvs.one;cases e;obtain ⟨p,xs,rfl,h1,h2⟩:=hv.list r.fh;refine call_len pins s σ H _ us Q I rs ⟨_,_,rfl,.inl ⟨xs,h1.sq,rfl⟩,?_⟩;rw [h2.length];exact Qbi r k rfl Rp.int
 ·rename_i l;obtain ⟨v,rfl,hv⟩:=hvs.one;cases e;obtain ⟨p,xs,rfl,h1,h2⟩:=(hv.rp rfl).unT;refine call_len pins s σ H _ us Q I rs ⟨_,_,rfl,.inr ⟨xs,Same.seqT r.fh h1,rfl⟩,?_⟩;rw [h2.length];exact Qbi r k rfl Rp.int
 ·cases e
def Qxj:List D→Option D
 | [.int i,.int j]=>some (.int (if j > i then j else i))
 | _=>none
def Qx2:List D→Option D
 | [.int i,.int j]=>some (.int (if j < i then j else i))
 | _=>none
def QkZ:List D→Option D
 | [.int i]=>some (.int i)
 | [.bl b]=>some (.int (if b then 1 else 0))
 | _=>none
theorem Quf:QgB X (.type "int") QkZ:=by
 intro pins s σ H xs us Q I rs h;obtain ⟨O,F,as,ds,d,r,hvs,e,k⟩:=h;unfold QkZ at e;split at e
 ·obtain ⟨v,rfl,hv⟩:=hvs.one;cases e;cases (hv.rp rfl).unI;exact Qln pins s σ H _ us Q I rs (.inl ⟨_,rfl,Qbi r k rfl Rp.int⟩)
 ·obtain ⟨v,rfl,hv⟩:=hvs.one;cases e;cases (hv.rp rfl).unB;exact Qln pins s σ H _ us Q I rs (.inr ⟨_,rfl,Qbi r k rfl Rp.int⟩)
 ·cases e
def Qcg:List D→Option D
 | [.lst ds]=>some (.lst ds)
 | [.tup ds]=>some (.lst ds)
 | _=>none
theorem Qhr:QgB X (.type "list") Qcg:=by
 intro pins s σ H xs us Q I rs h;obtain ⟨O,F,as,ds,d,r,hvs,e,k⟩:=h;unfold Qcg at e;split at e
 ·obtain ⟨v,rfl,hv⟩:=hvs.one;cases e;obtain ⟨p,xs,rfl,h1,h2⟩:=hv.list r.fh;exact QiA pins s σ H _ us Q I rs ⟨p,xs,rfl,.inl h1.sq,fun l hl=>Qkk r k hl h2⟩
 ·obtain ⟨v,rfl,hv⟩:=hvs.one;cases e;obtain ⟨p,xs,rfl,h1,h2⟩:=(hv.rp rfl).unT;exact QiA pins s σ H _ us Q I rs ⟨p,xs,rfl,.inr (Same.seqT r.fh h1),fun l hl=>Qkk r k hl h2⟩
 ·cases e
def Qdx:List D→Option (List Int)
 | []=>some []
 | .int b::ds=>(Qdx ds).map (b :: ·)
 | _=>none
theorem Rps.ints {K:Frag}{F:Hp}{as:List Addr}:∀{ds:List D}{xs:List V}{bs:List Int},Rps K F as xs ds→Qdx ds=some bs→xs=bs.map V.int
 | [],xs,bs,h,e=>by cases e; rw [h.un0]; rfl
 | d::ds,xs,bs,h,e=>by
  obtain ⟨x,r,rfl,h2,h3⟩:=h.un
  cases d with
  | int b =>
   unfold Qdx at e
   cases q:Qdx ds with
   | none=>rw [q] at e; cases e
   | some cs =>
    rw [q] at e;cases e;rw [h2.unI,Rps.ints h3 q];rfl
  | _=>cases e
def QkF:List D→Option D
 | [.lst ds]=>(Qdx ds).bind fun ns=>if (ns.all (fun n=>decide (0≤n)&&decide (n≤1000000))&&decide (ns.length≤1000000))=true then some (.int ns.sum) else none
 | _=>none
theorem Qpq (hc:X.calm=true):QgB X (.builtin "sum") QkF:=by
 intro pins s σ H xs us Q I rs h;obtain ⟨O,F,as,ds,d,r,hvs,e,k⟩:=h;unfold QkF at e;split at e
 ·rename_i es;obtain ⟨v,rfl,hv⟩:=hvs.one;obtain ⟨p,xs,rfl,h1,h2⟩:=hv.list r.fh
  cases q:Qdx es with
  | none=>rw [q] at e; cases e
  | some ns =>
   rw [q] at e;dsimp only [Option.bind_some] at e;split at e
   ·rename_i hz;rw [zr,decide_eq_true_eq,List.all_eq_true] at hz;cases e;refine QpW hc pins s σ H _ us Q I rs ⟨p,ns,rfl,?_,fun n hn=>?_,hz.2,Qbi r k rfl Rp.int⟩
    ·rw [←h2.ints q];exact h1.sq
    ·have:=hz.1 n hn
     rw [zr,decide_eq_true_eq,decide_eq_true_eq] at this;exact this
   ·cases e
 ·cases e
theorem Qby:bootBuiltins "len" = some (.builtin "len"):=by decide +kernel
theorem Qp3:bootBuiltins "sum" = some (.builtin "sum"):=by decide +kernel
theorem QmO:bootBuiltins "int" = some (.type "int"):=by decide +kernel
theorem QpS:bootBuiltins "str" = some (.type "str"):=by decide +kernel
theorem QtG:bootBuiltins "bool" = some (.type "bool"):=by decide +kernel
theorem Qf5:bootBuiltins "list" = some (.type "list"):=by decide +kernel
def tyD:D→Option String
 | .non=>some "NoneType"
 | .bl _=>some "bool"
 | .int _=>some "int"
 | .str _=>some "str"
 | .lst _=>some "list"
 | .tup _=>some "tuple"
 | .dic _ _=>some "dict"
 | .ob _=>none
def Qdg (t n:String):Bool:=t == n || (t == "bool" && n == "int")
def QlR (n:String) (m:M D):M D:=fun ρ O=>(m ρ O).bind fun d O1=>match tyD (QaR O1 d) with
 | some t=>.ok (.bl (Qdg t n)) O1
 | none=>.no
def Qru:List String:=["str","int","bool","list","tuple","dict"]
theorem Qty (K:Frag):∀d t,tyD d=some t→∀n∈Qru,PySem.W.kitOne K (.type t) (.type n)=some (Qdg t n):=by
 intro d t e n hn;simp only [Qru,zt,List.not_mem_nil,or_false] at hn
 cases d <;> cases e <;> rcases hn with rfl | rfl | rfl | rfl | rfl | rfl <;> first | exact Qq8 K _ | kernel_rfl
theorem Lk.ty {K:Frag}{H F:Hp}{as:List Addr}{v:V}{d:D}{t:String} (h:Lk K H F as v d) (fh:Same F H) (e:tyD d=some t):TyQ K H v t:=by
 cases d with
 | non=>cases e; rw [(h.rp rfl).unN]; exact .non
 | bl b=>cases e; rw [(h.rp rfl).unB]; exact .bl _
 | int b=>cases e; rw [(h.rp rfl).unI]; exact .int _
 | str b=>cases e; rw [(h.rp rfl).unS]; exact .str _
 | lst ds=>cases e; obtain ⟨p,xs,rfl,h1,h2⟩:=h.list fh; exact .lst h1.sq
 | tup ds=>cases e; obtain ⟨p,xs,rfl,h1,h2⟩:=(h.rp rfl).unT; exact .tup (Same.seqT fh h1)
 | dic ks vs=>cases e; obtain ⟨p,xs,rfl,h1,h2⟩:=(h.rp rfl).unD; exact .dK (fh _ _ h1)
 | ob n=>cases e
theorem Qma (n:String) {T:Str}{a:Expr}{p p' pos:Pos}{m:M D} (hm:X.mg "isinstance" = none) (hT:X.mg T=none) (h:SE X md P a m) (hb:bootBuiltins T=some (.type n):=by decide +kernel) (hn:n∈Qru:=by decide) (hg:Gl X "isinstance":=by rfl) (hgT:Gl X T:=by rfl)
  (hTn:T≠"__name__":=by decide) (hTd:(T == ("__debug__":Str))=false:=by decide)
  (hs1:starEach [a,.Name T p'] X.env=(false,eval a X.env)::starEach [.Name T p'] X.env:=by exact QbN rfl) (hs2:starEach [.Name T p'] X.env=(false,eval (.Name T p') X.env)::starEach [] X.env:=by rfl) (hpl:(backTo pos (starEach [.Name T p'] X.env)).any (·.1)=false:=by exact QbT rfl) :
  OE X md P (.Call (.Name "isinstance" p) [a,.Name T p'] [] pos) (QlR n m) :=
 (QmY (QpX X.K) hg hm (by decide +kernel) (Qf4 h (Qf4 (Qt2 (v:=.ty n) hgT hT hb rfl hTn hTd) QiT hs2) hs1) (by decide) (by decide) hs1 hpl).imp fun σ H Q q=>by
  obtain ⟨ρ,O,F,as,d,O',r,s,e,k⟩:=q;obtain ⟨x,O1,e1,e⟩:=Res.bind_ok e;split at e
  ·rename_i t ht;cases e;refine ⟨ρ,_,F,as,_,_,r,s,e1,fun v H1 F1 as1 g1 r1 hv=>?_⟩;exact ⟨v,n,t,_,rfl,Lk.ty (Sv.lk hv r1) r1.fh ht,Qty _ _ t ht n hn,k _ H1 F1 as1 g1 r1 (.inl ⟨rfl,Rp.bl⟩)⟩
  ·cases e
def QlN (m:M D):M (List D):=fun ρ O=>(m ρ O).bind fun d O1=>match d with
 | .lst ds=>.ok ds O1
 | _=>.no
def Qoj (m:M D):M (List D):=fun ρ O=>(m ρ O).bind fun d O1=>match d with
 | .tup ds=>.ok ds O1
 | _=>.no
theorem Qrr {K:Frag}{mg:Str→Option Value}{H F:Hp}{as:List Addr}{a:Addr}{xs:List V}{ds:List D} (hs:Rps K F as xs ds) (hp:∀(H2 F2:Hp) (as2:List Addr),GrS P H F as H2 F2 as2→(∃O,RlO K mg O H2 F2 as2)→RdK K H2 a xs):JOk K mg P (Itl K a) ds H F as:=by
 refine ⟨fun i d H2 F2 as2 g r e=>?_,fun H2 F2 as2 g r=>⟨xs,(hp H2 F2 as2 g r).sq,by rw [hs.length]; exact ze _⟩⟩;obtain ⟨x,h1,h2⟩:=hs.get' e;have q:=hp H2 F2 as2 g r;refine ⟨⟨xs,x,q.sq,h1⟩,fun y H3 hy=>?_⟩;obtain ⟨rfl,hy⟩:=hy
 have:=hy xs q.sq
 rw [h1] at this;cases this;exact ⟨F2,Gr.refl,fun _ r=>r,h2.grS g⟩
end
section
variable {X:Cx}{pins:List (Addr×Obj)}{σ:St}{H:Hp}{s:Shared}
end
section
variable {X:Cx}{elts:List Expr}{x1:Nat}{tpos:Pos}
end
def rW (K:Frag) (P:Pt):RR:=fun _ H F as v d=>Rp K F as v d∨∃a xs ds,v = .ref a∧d = .lst ds∧H a=some (.lst xs)∧a∉as∧P a∧Rps K F as xs ds
def WE (X:Cx) (md:List Md) (P:Pt) (e:Expr) (m:M D):Prop:=PE X e (tM X.K X.mg md P (rW X.K P) m)
section
variable {X:Cx}{md:List Md}{P:Pt}{R:RR}
theorem QoU {e:Expr}{m:M D} (h:VE X md P e m):WE X md P e m:=h.imp fun σ H Q q=>by
 obtain ⟨ρ,O,F,as,d,O',r,s,e,k⟩:=q;exact ⟨ρ,O,F,as,d,O',r,s,e,fun v H' F' as' g r' hv=>k v H' F' as' g r' (.inl hv)⟩
theorem Qkn (i:Nat) {x:Str}{pos:Pos} (hm:md[i]? = some .s:=by rfl) (hN:X.N[i]? = some x:=by rfl) (hv:Vis X.env.scope x:=by first | exact Or.inl rfl | exact Or.inr (Or.inl rfl) | exact Or.inr (Or.inr rfl))
  (hd:(x == ("__debug__":Str))=false:=by decide) (hcd:(x == ("__classdict__":Str))=false:=by decide):WE X md P (.Name x pos) (Qaa i):=by
 refine (Qhd (i:=i) hN hv hd hcd).imp fun σ H Q h=>?_
 obtain ⟨ρ,O,F,as,d,O',r,s,e,k⟩:=h;obtain ⟨e1,rfl⟩:=Qi8 e;obtain ⟨v,h2,h3⟩:=s.sl i .s d hm e1;exact ⟨v,h2,k v H F as Gr.refl r h3⟩
theorem Qr4 {K:Frag}{mg:Str→Option Value}{N:Addr→Prop}{H F:Hp}{as:List Addr}{v:V}{ds:List D} (hv:rW K P N H F as v (.lst ds)) :
  ∃a xs,v = .ref a∧Rps K F as xs ds∧∀(H2 F2:Hp) (as2:List Addr),GrS P H F as H2 F2 as2→(∃O,RlO K mg O H2 F2 as2)→RdK K H2 a xs:=by
 rcases hv with hv | ⟨a,xs,ds',rfl,e,e3,e4,e5,e6⟩
 ·obtain ⟨a,xs,rfl,h1,h2⟩:=hv.unL;exact ⟨a,xs,rfl,h2,fun H2 F2 as2 g ⟨O,r⟩=>(h1.mono g.ff).mono r.fh⟩
 ·cases e;exact ⟨a,xs,rfl,e6,fun H2 F2 as2 g _=>.inl (.inl (g.fr _ _ e5 e3 e4 rfl))⟩
theorem QtB {tg e:Expr}{m:M D} (h:WE X md P e m):VI X md P tg e (QlN m):=(QnS h).imp fun σ H Q q=>by
 obtain ⟨ρ,O,F,as,ds,O',r,s,e,k⟩:=q;obtain ⟨d,O1,e1,e⟩:=Res.bind_ok e
 cases d with
 | lst es =>
  cases e;refine ⟨ρ,_,F,as,_,_,r,s,e1,fun v H1 F1 as1 g1 r1 hv=>?_⟩;obtain ⟨a,xs,rfl,h1,h2⟩:=Qr4 (mg:=X.mg) hv;exact ⟨a,rfl,⟨xs,(h2 H1 F1 as1 GrS.refl ⟨_,r1⟩).sq⟩,k _ H1 F1 as1 g1 r1 (Qrr h1 h2)⟩
 | _=>cases e
theorem QpP {tg e:Expr}{m:M D} (h:VE X md P e m):VI X md P tg e (Qoj m):=(QvU h).imp fun σ H Q q=>by
 obtain ⟨ρ,O,F,as,ds,O',r,s,e,k⟩:=q;obtain ⟨d,O1,e1,e⟩:=Res.bind_ok e
 cases d with
 | tup es =>
  cases e;refine ⟨ρ,_,F,as,_,_,r,s,e1,fun v H1 F1 as1 g1 r1 hv=>?_⟩;obtain ⟨a,xs,rfl,h1,h2⟩:=Rp.unT hv
  have hp:∀(H2 F2:Hp) (as2:List Addr),GrS P H1 F1 as1 H2 F2 as2→(∃O,RlO X.K X.mg O H2 F2 as2)→SqT X.K H2 a xs:=fun H2 F2 as2 g ⟨O,r⟩=>Same.seqT r.fh (Same.seqT g.ff h1)
  refine ⟨a,rfl,⟨xs,hp H1 F1 as1 GrS.refl ⟨_,r1⟩⟩,k _ H1 F1 as1 g1 r1 ⟨fun i d H2 F2 as2 g r e=>?_,fun H2 F2 as2 g r=>⟨xs,hp H2 F2 as2 g r,by rw [h2.length]; exact ze _⟩⟩⟩;obtain ⟨x,h3,h4⟩:=h2.get' e;have q:=hp H2 F2 as2 g r;refine ⟨⟨xs,x,q,h3⟩,fun y H3 hy=>?_⟩;obtain ⟨rfl,hy⟩:=hy
  have:=hy xs q
  rw [h3] at this;cases this;exact ⟨F2,Gr.refl,fun _ r=>r,h4.grS g⟩
 | _=>cases e
def Qfl (l:List Nat):List D:=l.map fun c=>.str [c]
def Qoz (m:M D):M (List D):=fun ρ O=>(m ρ O).bind fun d O1=>match d with
 | .str l=>if ascii l=true then .ok (Qfl l) O1 else .no
 | _=>.no
theorem QjK {K:Frag}{mg:Str→Option Value}{J:It}{ds:List D}{H F:Hp}{as:List Addr} (h1:∀(i:Nat) (d:D) (H2:Hp),ds[i]? = some d→J.go i H2∧∀x H3,J.yld i H2 x H3→H3=H2∧∀K F as,Rp K F as x d) (h2:∀H2,J.stop ds.length H2):JOk K mg P J ds H F as :=
 ⟨fun i d H2 F2 as2 _ _ e=>⟨(h1 i d H2 e).1,fun x H3 y=>by
  obtain ⟨rfl,hx⟩:=(h1 i d H2 e).2 x H3 y
  exact ⟨F2,Gr.refl,fun _ r=>r,hx _ _ _⟩⟩,fun H2 _ _ _ _=>h2 H2⟩
theorem QpU {tg e:Expr}{m:M D} (h:SE X md P e m):VI X md P tg e (Qoz m):=(QuC h).imp fun σ H Q q=>by
 obtain ⟨ρ,O,F,as,ds,O',r,s,e,k⟩:=q;obtain ⟨d,O1,e1,e⟩:=Res.bind_ok e
 cases d with
 | str l =>
  dsimp only at e;split at e
  ·rename_i hl;cases e;refine ⟨ρ,_,F,as,_,_,r,s,e1,fun v H1 F1 as1 g1 r1 hv=>?_⟩;refine ⟨l,(Sv.rp hv rfl).unS,hl,k _ H1 F1 as1 g1 r1 (QjK (fun i d H2 e=>?_) fun H2=>by simp [Qfl,Its])⟩;unfold Qfl at e;rw [zD] at e
   cases q:l[i]? with
   | none=>rw [q] at e; cases e
   | some c =>
    rw [q] at e;cases e;refine ⟨(zk.mp q).1,fun x H3 y=>?_⟩;obtain ⟨e1,c',e2,rfl⟩:=y;rw [q] at e2;cases e2;exact ⟨e1,fun _ _ _=>Rp.str⟩
  ·cases e
 | _=>cases e
def Qbp (lo:Int) (n:Nat):List D:=(List.range n).map fun (k:Nat)=>.int (lo+(k:Int))
def QfU (m:M (List D)):M (List D):=fun ρ O=>(m ρ O).bind fun ds O1=>match ds with
 | [.int j]=>if j≤1000000000∧-1000000000≤j then .ok (Qbp 0 j.toNat) O1 else .no
 | _=>.no
def QgD (m:M (List D)):M (List D):=fun ρ O=>(m ρ O).bind fun ds O1=>match ds with
 | [.int i,.int j]=>if (i≤1000000000∧-1000000000≤i)∧j≤1000000000∧-1000000000≤j then .ok (Qbp i (j - i).toNat) O1 else .no
 | _=>.no
theorem Qlr {K:Frag}{mg:Str→Option Value}{lo:Int}{n:Nat}{H F:Hp}{as:List Addr}:JOk K mg P (Itr lo n) (Qbp lo n) H F as:=QjK (fun i d H2 e=>by
 unfold Qbp at e;rw [zD] at e
 by_cases hi:i < n
 ·rw [List.getElem?_range hi] at e;cases e;refine ⟨hi,fun x H3 y=>?_⟩;obtain ⟨e1,rfl⟩:=y;exact ⟨e1,fun _ _ _=>Rp.int⟩
 ·rw [List.getElem?_eq_none (by simpa using hi)] at e
  cases e) fun H2=>by simp [Qbp,Itr]
theorem Qbs.one {K:Frag}{H F:Hp}{as:List Addr}{m:Md}{vs:List V}{d:D} (h:Qbs K H F as [m] vs [d]):∃v,vs = [v]∧rA K m (fun _=>True) H F as v d:=by
 cases vs with
 | nil=>exact h.elim
 | cons v vs =>
  cases vs with
  | nil=>exact ⟨v,rfl,h.1⟩
  | cons u us=>exact h.2.elim
theorem Qbs.two {K:Frag}{H F:Hp}{as:List Addr}{m n:Md}{vs:List V}{d e:D} (h:Qbs K H F as [m,n] vs [d,e]):∃v u,vs = [v,u]∧rA K m (fun _=>True) H F as v d∧rA K n (fun _=>True) H F as u e:=by
 cases vs with
 | nil=>exact h.elim
 | cons v vs =>
  cases vs with
  | nil=>exact h.2.elim
  | cons u us =>
   cases us with
   | nil=>exact ⟨v,u,rfl,h.1,h.2.1⟩
   | cons w ws=>exact h.2.2.elim
theorem QgF {tg a:Expr}{p pos:Pos}{m:M (List D)} (hm:X.mg "range" = none) (ha:AE X md P [.s] [a] m) (hg:Gl X "range":=by rfl) (hs:starEach [a] X.env = [(false,eval a X.env)]:=by exact Qkr rfl):VI X md P tg (.Call (.Name "range" p) [a] [] pos) (QfU m):=(Qqx hg hm ha hs).imp fun σ H Q q=>by
 obtain ⟨ρ,O,F,as,ds,O',r,s,e,k⟩:=q;obtain ⟨es,O1,e1,e⟩:=Res.bind_ok e;split at e
 ·rename_i j;split at e
  ·rename_i hj;cases e;refine ⟨ρ,_,F,as,_,_,r,s,e1,fun vs H1 F1 as1 g1 r1 hv=>?_⟩;obtain ⟨v,rfl,hv1⟩:=hv.one
   have:=(Sv.rp hv1 rfl).unI
   subst this;exact ⟨j,rfl,by omega,by omega,k _ H1 F1 as1 g1 r1 Qlr⟩
  ·cases e
 ·cases e
theorem Qlt {tg a b:Expr}{p pos:Pos}{m:M (List D)} (hm:X.mg "range" = none) (ha:AE X md P [.s,.s] [a,b] m) (hg:Gl X "range":=by rfl) (hs:starEach [a,b] X.env = [(false,eval a X.env),(false,eval b X.env)]:=by exact QwN rfl rfl) (hs2:starEach [b] X.env = [(false,eval b X.env)]:=by exact Qkr rfl) :
  VI X md P tg (.Call (.Name "range" p) [a,b] [] pos) (QgD m):=(Qqj hg hm ha hs hs2).imp fun σ H Q q=>by
 obtain ⟨ρ,O,F,as,ds,O',r,s,e,k⟩:=q;obtain ⟨es,O1,e1,e⟩:=Res.bind_ok e;split at e
 ·rename_i i j;split at e
  ·rename_i hj;cases e;refine ⟨ρ,_,F,as,_,_,r,s,e1,fun vs H1 F1 as1 g1 r1 hv=>?_⟩;obtain ⟨v,u,rfl,hv1,hu⟩:=hv.two;have e3:=(Sv.rp hv1 rfl).unI;have e4:=(Sv.rp hu rfl).unI;subst e3 e4;exact ⟨i,j,rfl,⟨by omega,by omega,by omega,by omega⟩,k _ H1 F1 as1 g1 r1 Qlr⟩
  ·cases e
 ·cases e
def Qkt:Nat→List D→List D
 | _,[]=>[]
 | k,d::ds=>.tup [.int k,d]::Qkt (k+1) ds
variable {elts:List Expr}{x1:Nat}{tpos:Pos}
def QhT:List D→Option (List (List Nat))
 | []=>some []
 | .str l::ds=>(QhT ds).map (l :: ·)
 | _=>none
theorem Rps.strs {K:Frag}{F:Hp}{as:List Addr}:∀{ds:List D}{xs:List V}{ls:List (List Nat)},Rps K F as xs ds→QhT ds=some ls→xs=ls.map fun l=>V.str (S l)
 | [],xs,bs,h,e=>by cases e; rw [h.un0]; rfl
 | d::ds,xs,bs,h,e=>by
  obtain ⟨x,r,rfl,h2,h3⟩:=h.un
  cases d with
  | str b =>
   unfold QhT at e
   cases q:QhT ds with
   | none=>rw [q] at e; cases e
   | some cs =>
    rw [q] at e;cases e;rw [h2.unS,Rps.strs h3 q];rfl
  | _=>cases e
def Qwm (m:M D):M D:=fun ρ O=>(m ρ O).bind fun d O1=>match QaR O1 d with
 | .lst ds=>match QhT ds with
  | some ls=>if (ls.map List.length).sum≤1000000 then .ok (.str ls.flatten) O1 else .no
  | none=>.no
 | _=>.no
def QtP (mo m:M D):M D:=fun ρ O=>(mo ρ O).bind fun a O1=>(m ρ O1).bind fun b O2=>match a,b with
 | .str l,.str n=>.ok (.bl (decide (l.take n.length=n))) O2
 | _,_=>.no
end
section
variable {K:Frag}{mg:Str→Option Value}{md:List Md}{P:Pt}{ρ:Qal}{σ:St}{H F:Hp}{as:List Addr}{O:Qac}{i:Nat}{a:Addr}{xs xs':List V}{ds ds':List D}
theorem SlO.own (s:SlO K md P ρ σ H F as) (hm:md[i]? = some .o) (hρ:ρ[i]? = some (some (.lst ds))):∃a xs,σ[i]? = some (some (.ref a))∧H a=some (.lst xs)∧F a=none∧a∉as∧¬P a∧Rps K F as xs ds:=by
 obtain ⟨v,h1,h2⟩:=s.sl i .o _ hm hρ
 rcases h2 with ⟨h2,_⟩ | ⟨a,xs,es,rfl,e2,e3,e0,e4,e5,e6⟩
 ·cases h2
 ·cases e2;exact ⟨a,xs,h1,e3,e0,e4,e5,e6⟩
theorem SlO.mut (s:SlO K md P ρ σ H F as) (hm:md[i]? = some .o) (hρ:ρ[i]? = some (some (.lst ds))) (hσ:σ[i]? = some (some (.ref a))) (hF:F a=none) (ha:a∉as) (hP:¬P a) (r:Rps K F as xs' ds'):SlO K md P (ρ.set i (some (.lst ds'))) σ (upd H a (.lst xs')) F as:=by
 have hi:i < md.length:=(zk.mp hm).1;refine ⟨s.len,by rw [jj]; exact s.len',fun c p=>?_,fun j m d e1 e2=>?_,fun j k c es fs h1 h2 h3 h4 h5 h6=>?_,fun x hx=>?_⟩
 ·have:=s.pd c p
  unfold upd
  split
  ·exact fun z=>nomatch z
  ·exact this
 ·by_cases h:i=j
  ·subst h;rw [hm] at e1; cases e1;rw [zT (by rw [s.len']; exact hi)] at e2;cases e2;exact ⟨_,hσ,.inr ⟨a,xs',ds',rfl,rfl,QaG,hF,ha,hP,r⟩⟩
  ·rw [zu h] at e2;obtain ⟨v,q1,q2⟩:=s.sl j m d e1 e2;refine ⟨v,q1,?_⟩
   cases m with
   | v=>exact q2
   | s =>
    rcases q2 with q2 | ⟨c,ys,es,z1,z2,z3,z4,z5,z6⟩
    ·exact .inl q2
    ·exact .inr ⟨c,ys,es,z1,z2,by rw [Qar (fun z=>hP (by rw [←z]; exact z5))]; exact z3,z4,z5,z6⟩
   | o =>
    rcases q2 with q2 | ⟨c,ys,es,z1,z2,z3,z0,z4,z5,z6⟩
    ·exact .inl q2
    ·refine .inr ⟨c,ys,es,z1,z2,?_,z0,z4,z5,z6⟩;rw [Qar]
     ·exact z3
     ·intro z;subst z z1 z2;exact h (s.inj i j c ds es hm e1 hρ e2 hσ q1)
 ·have f:∀k es,(ρ.set i (some (.lst ds')))[k]? = some (some (D.lst es))→∃es',ρ[k]? = some (some (D.lst es')):=fun k es q=>by
   by_cases h:i=k
   ·subst h; exact ⟨ds,hρ⟩
   ·rw [zu h] at q; exact ⟨es,q⟩
  obtain ⟨es',q3⟩:=f j es h3;obtain ⟨fs',q4⟩:=f k fs h4;exact s.inj j k c es' fs' h1 h2 q3 q4 h5 h6
 ·obtain ⟨p1,p2,p3⟩:=s.pin x hx
  have hne:i≠x.1:=fun z=>by rw [←z,hm] at p1; cases p1
  exact ⟨p1,by rw [zu hne]; exact p2,p3⟩
theorem Qqk {xs:List V} (hH:H a=some (.lst xs)) (hP:¬P a) {o:HO}:GrS P H F as (upd H a o) F as :=
 ⟨fun _ _ _ _ _ _=>rfl,Same.refl F,⟨[],by simp,fun _ h=>nomatch h⟩,fun c u p e _ _=>by rw [Qar (fun z=>hP (by rw [←z]; exact p))]; exact e,fun c e=>by
  by_cases h:c=a
  ·subst h; rw [QaG] at e; cases e
  ·rwa [Qar h] at e,fun c o' u e=>by rw [Qar (fun z=>by rw [z,hH] at e; cases e)]; exact e⟩
theorem RlO.mut (r:RlO K mg O H F as) (hF:F a=none) (ha:a∉as) {o:HO}:RlO K mg O (upd H a o) F as:=by
 refine ⟨fun c u e=>?_,r.fd,r.nd,r.len,r.fa,fun n c u hc hu=>(r.ob n c u hc hu).keep (Qar ?_) (Same.refl F) fun _ _ h=>h⟩
 ·rw [Qar (QaC e hF)]; exact r.fh c u e
 ·intro z; subst z; exact ha (zQ hc)
end
section
variable {X:Cx}{md:List Md}{P:Pt}{R:RR}
def Qcs (i:Nat) (m:M D):MS:=fun ρ O=>match m ρ O with
 | .ok d O'=>match ρ[i]? with
  | some (some (.lst ds))=>if ds.length < 1000000 then .nx (ρ.set i (some (.lst (ds ++ [d])))) O' else .no
  | _=>.no
 | .ex x O'=>.ex x O'
 | .no=>.no
theorem Qqe {i:Nat}{m:M D}{ρ:Qal}{O:Qac} (K:Frag) (mg:Str→Option Value) {D:Ends}{H F:Hp}{as:List Addr} (k:QgP K mg md P R D H F as (Qcs i m ρ O)) :
  ∃d O' ds,m ρ O = .ok d O'∧ρ[i]? = some (some (.lst ds))∧ds.length < 1000000∧QgP K mg md P R D H F as (.nx (ρ.set i (some (.lst (ds ++ [d])))) O'):=by
 unfold Qcs at k;split at k
 ·rename_i d O' e;split at k
  ·rename_i ds e2;split at k
   ·rename_i hz;exact ⟨d,O',ds,e,e2,hz,k⟩
   ·exact False.elim k
  ·exact False.elim k
 ·exact False.elim k
 ·exact False.elim k
theorem Qft (i:Nat) {x:Str}{p apos cpos pos:Pos}{e:Expr}{m:M D} (h:VE X md P e m) (hm:md[i]? = some .o:=by rfl) (hN:X.N[i]? = some x:=by rfl) (hv:Vis X.env.scope x:=by first | exact Or.inl rfl | exact Or.inr (Or.inl rfl) | exact Or.inr (Or.inr rfl))
  (hd:(x == ("__debug__":Str))=false:=by decide) (hcd:(x == ("__classdict__":Str))=false:=by decide)
  (hbase:attributeBase (.Name x p) "append" X.env (eval (.Name x p) X.env)=eval (.Name x p) X.env:=by rfl)
  (hfew:((backTo cpos (starEach [e] X.env)).all (fun x=>!x.1)&&(backToKw cpos (keywordEach [] X.env)).all (fun x=>x.1.isSome)&&decide ([e].length+([]:List Keyword).length+(if ([]:List Keyword).isEmpty then 0 else 1) < 30))=true:=by rfl)
  (hline:(apos.endLine == cpos.line)=true:=by rfl) (hs:starEach [e] X.env=(false,eval e X.env)::starEach [] X.env:=by exact QbN rfl) (hplain:(backTo cpos (starEach [] X.env)).any (·.1)=false:=by exact QbT rfl)
  (hsw:swapsWith (.Call (.Attribute (.Name x p) "append" apos) [e] [] cpos) none pos.line X.env=pure false:=by rfl) :
  VS X md P R (.Expr (.Call (.Attribute (.Name x p) "append" apos) [e] [] cpos) pos) (Qcs i m) :=
 (Qkx (Qr3 PySem.F.plainAttrs_list PySem.F.slot_list_append PySem.F.type_list_append QpT (Qhd (i:=i) hN hv hd hcd) (Qf4 h QiT hs) hbase hfew hline hs hplain) hsw).imp fun D σ H q=>by
  obtain ⟨ρ,O,F,as,r,s,k⟩:=q;obtain ⟨d,O',ds,e,e2,hz,k⟩:=Qqe X.K X.mg k;obtain ⟨a,xs,h1,h2,h3,h4,h5,h6⟩:=s.own hm e2;refine ⟨_,h1,.inl ⟨rfl,xs,.inl (.inl h2)⟩,ρ,O,F,as,d,O',r,s,e,fun y H1 F1 as1 g1 r1 hy=>?_⟩;have s1:=s.step g1
  have hn:H a≠none:=by rw [h2]; exact fun z=>nomatch z
  have q2:=g1.fr _ _ h2 h4 rfl
  have q3:F1 a=none:=by rw [g1.fz a _ h2 h4 rfl]; exact h3
  have q4:=g1.out h4 hn
  have hn1:H1 a≠none:=by rw [q2]; exact fun z=>nomatch z
  exact ⟨a,xs,y,rfl,rfl,q2,by rw [h6.length]; exact zE hz (by decide),k σ _ F1 as1 (g1.toS.trans (Qqk q2 h5)) (r1.mut q3 q4) (s1.mut hm e2 h1 q3 q4 h5 ((h6.gr g1).snoc hy))⟩
def Qwl (K:Frag):V→List V→Hp→VK→Prop:=fun x vs H Q=>∃l b xs zs,x = .ref l∧vs = [.ref b]∧H l=some (.lst xs)∧RdK K H b zs∧xs.length+zs.length≤sizeLine∧Q .non (upd H l (.lst (xs++zs)))
theorem Qs1:MtM X "list.extend" (Qwl X.K):=by
 intro pins s σ H x vs v us Q I rx rv h;obtain ⟨l,b,xs,zs,rfl,rfl,hH,hB,hz,q⟩:=h;cases rx;obtain ⟨u,rfl,ru⟩:=rv.one;cases ru;obtain ⟨z,its,n,r,hl,e⟩:=I.lstM hH;obtain ⟨z2,its2,n2,r2,e2⟩:=hB.ok I;have hl2:=r2.length
 have hsz:its.toArray.size+its2.toArray.size≤sizeLine:=by rw [zp,zp]; omega
 have hlong:¬(!its.toArray.isEmpty&&Builtin.List.listTooLong (its.toArray.size+its2.toArray.size))=true:=by
  rw [QhQ hsz,Bool.and_false];exact zj
 refine call_meets F.slot_list_extend ⟨_,e,rfl⟩ F.entry_list_extend (F.args_list_extend_2 _ _)
  (AutoSeq1.list_extend_list_list_0 l its.toArray n b its2.toArray n2 hlong (by rw [zp]; omega) (by omega)) ⟨e,e2,?_⟩
 refine ⟨.non,_,I.lset (its':=its++its2) hH e (by simp) (r.append r2) ?_,rfl,q⟩;rw [zn];omega
def Qe9 (i:Nat) (m:M D):MS:=fun ρ O=>match m ρ O with
 | .ok d O'=>match ρ[i]?,QaR O' d with
  | some (some (.lst ds)),.lst es=>if ds.length+es.length≤1000000 then .nx (ρ.set i (some (.lst (ds++es)))) O' else .no
  | _,_=>.no
 | .ex x O'=>.ex x O'
 | .no=>.no
theorem Qqb {i:Nat}{m:M D}{ρ:Qal}{O:Qac} (K:Frag) (mg:Str→Option Value) {D:Ends}{H F:Hp}{as:List Addr} (k:QgP K mg md P R D H F as (Qe9 i m ρ O)) :
  ∃d O' ds es,m ρ O = .ok d O'∧ρ[i]? = some (some (.lst ds))∧QaR O' d = .lst es∧ds.length+es.length≤1000000∧QgP K mg md P R D H F as (.nx (ρ.set i (some (.lst (ds++es)))) O'):=by
 unfold Qe9 at k;split at k
 ·rename_i d O' e;split at k
  ·rename_i ds es e2 e3;split at k
   ·rename_i hz;exact ⟨d,O',ds,es,e,e2,e3,hz,k⟩
   ·exact False.elim k
  ·exact False.elim k
 ·exact False.elim k
 ·exact False.elim k
theorem Qlv (i:Nat) {x:Str}{p apos cpos pos:Pos}{e:Expr}{m:M D} (h:SE X md P e m) (hm:md[i]? = some .o:=by rfl) (hN:X.N[i]? = some x:=by rfl) (hv:Vis X.env.scope x:=by first | exact Or.inl rfl | exact Or.inr (Or.inl rfl) | exact Or.inr (Or.inr rfl))
  (hd:(x == ("__debug__":Str))=false:=by decide) (hcd:(x == ("__classdict__":Str))=false:=by decide)
  (hbase:attributeBase (.Name x p) "extend" X.env (eval (.Name x p) X.env)=eval (.Name x p) X.env:=by rfl)
  (hfew:((backTo cpos (starEach [e] X.env)).all (fun x=>!x.1)&&(backToKw cpos (keywordEach [] X.env)).all (fun x=>x.1.isSome)&&decide ([e].length+([]:List Keyword).length+(if ([]:List Keyword).isEmpty then 0 else 1) < 30))=true:=by rfl)
  (hline:(apos.endLine == cpos.line)=true:=by rfl) (hs:starEach [e] X.env=(false,eval e X.env)::starEach [] X.env:=by exact QbN rfl) (hplain:(backTo cpos (starEach [] X.env)).any (·.1)=false:=by exact QbT rfl)
  (hsw:swapsWith (.Call (.Attribute (.Name x p) "extend" apos) [e] [] cpos) none pos.line X.env=pure false:=by rfl) :
  VS X md P R (.Expr (.Call (.Attribute (.Name x p) "extend" apos) [e] [] cpos) pos) (Qe9 i m) :=
 (Qkx (Qr3 PySem.F.plainAttrs_list PySem.F.slot_list_extend PySem.F.type_list_extend Qs1 (Qhd (i:=i) hN hv hd hcd) (Qf4 h QiT hs) hbase hfew hline hs hplain) hsw).imp fun D σ H q=>by
  obtain ⟨ρ,O,F,as,r,s,k⟩:=q;obtain ⟨d,O',ds,es,e,e2,e3,hz,k⟩:=Qqb X.K X.mg k;obtain ⟨a,xs,h1,h2,h3,h4,h5,h6⟩:=s.own hm e2;refine ⟨_,h1,.inl ⟨rfl,xs,.inl (.inl h2)⟩,ρ,O,F,as,d,O',r,s,e,fun y H1 F1 as1 g1 r1 hy=>?_⟩;have s1:=s.step g1
  have hn:H a≠none:=by rw [h2]; exact fun z=>nomatch z
  have q2:=g1.fr _ _ h2 h4 rfl
  have q3:F1 a=none:=by rw [g1.fz a _ h2 h4 rfl]; exact h3
  have q4:=g1.out h4 hn
  have hn1:H1 a≠none:=by rw [q2]; exact fun z=>nomatch z
  have ly:=Sv.lk hy r1;rw [e3] at ly;obtain ⟨b,zs,rfl,w1,w2⟩:=ly.list r1.fh;exact ⟨a,b,xs,zs,rfl,rfl,q2,w1,by rw [h6.length,w2.length]; exact Qd0 hz,k σ _ F1 as1 (g1.toS.trans (Qqk q2 h5)) (r1.mut q3 q4) (s1.mut hm e2 h1 q3 q4 h5 (Rps.append w2 (h6.gr g1)))⟩
end
def putD (f:Str) (v:D):List (Str×D)→List (Str×D)
 | []=>[(f,v)]
 | (g,x)::r=>if g=f then (g,v)::r else (g,x)::putD f v r
section
variable {K:Frag}{F:Hp}{as:List Addr}
theorem FsR.cons_inv {gs:List (Str×V)}{f:Str}{d:D}{fs:List (Str×D)} (h:FsR K F as gs ((f,d)::fs)):∃v gs',gs=(f,v)::gs'∧Rp K F as v d∧FsR K F as gs' fs:=by
 obtain ⟨h1,h2⟩:=h
 cases gs with
 | nil=>cases h1
 | cons g gs' =>
  obtain ⟨g1,g2⟩:=g;simp only [zf,List.cons.injEq] at h1;obtain ⟨x,r,e,h3,h4⟩:=h2.un;simp only [zf,List.cons.injEq] at e;obtain ⟨rfl,rfl⟩:=e;exact ⟨g2,gs',by rw [h1.1],h3,⟨h1.2,h4⟩⟩
theorem FsR.nil_inv {gs:List (Str×V)} (h:FsR K F as gs []):gs = []:=List.map_eq_nil_iff.mp h.nm
theorem FsR.get:∀{fs:List (Str×D)}{gs:List (Str×V)}{f:Str}{d:D},FsR K F as gs fs→fs.lookup f=some d→∃v,gs.lookup f=some v∧Rp K F as v d
 | [],_,_,_,_,e=>by cases e
 | (g,x)::fs,gs,f,d,h,e=>by
  obtain ⟨v,gs',rfl,h1,h2⟩:=h.cons_inv;rw [List.lookup_cons] at e ⊢
  cases q:f == g with
  | true =>
   rw [q] at e;cases e;exact ⟨v,rfl,h1⟩
  | false =>
   rw [q] at e;exact FsR.get h2 e
theorem FsR.no:∀{fs:List (Str×D)}{gs:List (Str×V)}{f:Str},FsR K F as gs fs→fs.lookup f=none→gs.lookup f=none
 | [],_,_,h,e=>by rw [h.nil_inv]; rfl
 | (g,x)::fs,gs,f,h,e=>by
  obtain ⟨v,gs',rfl,h1,h2⟩:=h.cons_inv;rw [List.lookup_cons] at e ⊢
  cases q:f == g with
  | true=>rw [q] at e; cases e
  | false =>
   rw [q] at e;exact FsR.no h2 e
theorem FsR.put {f:Str}{v:V}{d:D} (hv:Rp K F as v d):∀{fs:List (Str×D)}{gs:List (Str×V)},FsR K F as gs fs→FsR K F as (QcV f v gs) (putD f d fs)
 | [],_,h=>by
  rw [h.nil_inv];exact ⟨rfl,Rps.cons hv Rps.nil⟩
 | (g,x)::fs,gs,h=>by
  obtain ⟨u,gs',rfl,h1,h2⟩:=h.cons_inv;rw [QcV,putD]
  by_cases q:g=f
  ·rw [if_pos q,if_pos q];exact ⟨by simp [h2.nm],Rps.cons hv h2.vl⟩
  ·rw [if_neg q,if_neg q];have ih:=FsR.put (f:=f) hv h2;exact ⟨by simp [ih.nm],Rps.cons h1 ih.vl⟩
theorem FsR.length {fs:List (Str×D)}{gs:List (Str×V)} (h:FsR K F as gs fs):gs.length=fs.length:=by
 have:=congrArg List.length h.nm
 simpa using this
theorem RlO.set {mg:Str→Option Value}{O:Qac}{H:Hp}{n:Nat}{a:Addr}{o:Ob}{u:HO} (r:RlO K mg O H F as) (ha:as[n]? = some a) (ho:ObR K mg (upd H a u) F as a o):RlO K mg (O.set n o) (upd H a u) F as:=by
 have hF:=r.fa a (zQ ha);refine ⟨fun c w e=>?_,r.fd,r.nd,by rw [jj]; exact r.len,r.fa,fun k c w hc hw=>?_⟩
 ·rw [Qar (QaC e hF)]; exact r.fh c w e
 ·by_cases h:n=k
  ·subst h;rw [ha] at hc; cases hc;rw [zT (by rw [←r.len]; exact (zk.mp ha).1)] at hw;cases hw;exact ho
  ·rw [zu h] at hw
   refine (r.ob k c w hc hw).keep (Qar ?_) (Same.refl F) fun _ _ h=>h
   intro z;subst z;obtain ⟨l1,q1⟩:=zk.mp ha;obtain ⟨l2,q2⟩:=zk.mp hc;exact h ((List.getElem_inj r.nd).mp (q1.trans q2.symm))
end
def KC (K:Frag) (mg:Str→Option Value) (c f:Str):Prop:=∃C,mg c=some (.ref C)∧Cls K C∧Qgh K C f
section
variable {X:Cx}{md:List Md}{P:Pt}{R:RR}
def Qd4 (cs:List Str) (f:Str) (m:M D):M D:=fun ρ O=>(m ρ O).bind fun d O1=>match d with
 | .ob n=>match O1[n]? with
  | some (.ins c fs)=>if c∈cs then match fs.lookup f with
   | some y=>.ok y O1
   | none=>.no else .no
  | _=>.no
 | _=>.no
theorem Qhp {cs:List Str}{f:Str}{o:Expr}{pos:Pos}{m:M D} (hc:∀c∈cs,KC X.K X.mg c f) (h:VE X md P o m) (hb:attributeBase o f X.env (eval o X.env)=eval o X.env:=by rfl):VE X md P (.Attribute o f pos) (Qd4 cs f m):=(QuL h hb).imp fun σ H Q q=>by
 obtain ⟨ρ,O,F,as,d,O',r,s,e,k⟩:=q;obtain ⟨x,O1,e1,e⟩:=Res.bind_ok e
 cases x with
 | ob n =>
  dsimp only at e;split at e
  ·rename_i c fs eo;split at e
   ·rename_i hcs;split at e
    ·rename_i y ey;cases e;refine ⟨ρ,_,F,as,_,_,r,s,e1,fun v H1 F1 as1 g1 r1 hv=>?_⟩;obtain ⟨a,rfl,ha⟩:=Rp.unO hv;obtain ⟨C,dx,gs,h1,h2,h3⟩:=r1.ob n a _ ha eo;obtain ⟨C',h4,h5,h6⟩:=hc c hcs;rw [h1] at h4; cases h4;obtain ⟨w,h7,h8⟩:=h3.get ey;exact ⟨a,C,dx,gs,w,rfl,h2,h5,h6,h7,k w H1 F1 as1 g1 r1 h8⟩
    ·cases e
   ·cases e
  ·cases e
 | _=>cases e
def QfN (cs:List Str) (f:Str) (mo mv:M D):MS:=fun ρ O=>match mv ρ O with
 | .ok d O1=>match mo ρ O1 with
  | .ok (.ob n) O2=>match O2[n]? with
   | some (.ins c fs)=>if c∈cs∧fs.length < 900 then .nx ρ (O2.set n (.ins c (putD f d fs))) else .no
   | _=>.no
  | _=>.no
 | .ex x O'=>.ex x O'
 | .no=>.no
theorem Qp2 {cs:List Str}{f:Str}{o value:Expr}{pos pos':Pos}{mo mv:M D} (hc:∀c∈cs,KC X.K X.mg c f) (ho:VE X md P o mo) (hv:VE X md P value mv) (hs:swapsWith value (some (.Attribute o f pos')) pos.line X.env=pure false:=by rfl):VS X md P R (.Assign [.Attribute o f pos'] value pos) (QfN cs f mo mv):=(QvB ho hv hs).imp fun D σ H q=>by
 obtain ⟨ρ,O,F,as,r,s,k⟩:=q;unfold QfN at k;split at k
 ·rename_i d O1 e1;split at k
  ·rename_i n O2 e2;split at k
   ·rename_i c fs eo;split at k
    ·rename_i hcs;refine ⟨ρ,O,F,as,d,O1,r,s,e1,fun y H1 F1 as1 g1 r1 hy=>?_⟩;refine ⟨ρ,O1,F1,as1,.ob n,O2,r1,s.step g1,e2,fun z H2 F2 as2 g2 r2 hz=>?_⟩;have g:=g1.trans g2;obtain ⟨a,rfl,ha⟩:=Rp.unO hz;obtain ⟨C,dx,gs,h1,h2,h3⟩:=r2.ob n a _ ha eo;obtain ⟨C',h4,h5,h6⟩:=hc c hcs.1;rw [h1] at h4; cases h4;have hmem:=zQ ha
     have hn:H2 a≠none:=by rw [h2]; exact fun z=>nomatch z
     have gg:Gr H2 F2 as2 (upd H2 a (.ins C dx (QcV f y gs))) F2 as2:=⟨fun _ _ _ _ _=>rfl,Same.refl _,⟨[],by simp,fun _ h=>nomatch h⟩,fun b u e hb _=>by rw [Qar (fun z=>hb (by rw [z]; exact hmem))]; exact e,fun b e=>by
      by_cases h:b=a
      ·subst h; rw [QaG] at e; cases e
      ·rwa [Qar h] at e,fun b o' u e=>by rw [Qar (fun z=>by rw [z,h2] at e; cases e)]; exact e⟩
     refine ⟨a,C,dx,gs,rfl,h2,h5,h6,by rw [h3.length]; omega,?_⟩;exact k σ _ F2 as2 (g.trans gg).toS (r2.set ha ⟨C,dx,_,h1,QaG,h3.put (Rp.gr hy g2)⟩) ((s.step g).step gg)
    ·exact False.elim k
   ·exact False.elim k
  ·exact False.elim k
 ·exact False.elim k
 ·exact False.elim k
end
section
variable {Pr:Program}{w:World}{K:Frag}{mg:Str→Option Value}{base:Heap}
theorem Qub {x qual:Str}{st:Stmt}{f:Addr}{fd:FuncData}{N ps:List Str}{k:Nat} (Fn:Fun K x qual st f fd) (S:QaA N ps (Qam st))
  (pm lm:List Md) {R:RR}{b:MS} (hR:QeT R) (hR0:∀N H F as,R N H F as .non .non) (hpl:pm.length=ps.length) (hl:(pm++lm).length=N.length) (hp:∀m∈pm,m≠.o)
  (body:∀(cdv:Value) (A:Around) (outer:List Env) (s:Shared) (H:Hp) (E:XK),Qa1 k (A.deeper (envOfC qual (Qam st) s.heap.objs.size f cdv))→∀P,VSs ((Qgj CX0 Pr w K mg base N qual (Qam st) f cdv A outer s H E).nox) (pm++lm) P R (QbF st) b) :
  Qcc Pr w K mg base CX0 (k+1) f fd ps (vSp K mg pm R (Qa5 N.length b)):=by
 refine Fn.ok S (fun vs H Q E h=>?_) (fun cdv A outer s H vs Q E hr h=>?_)
 ·obtain ⟨ds,O,F,as,d,O',r,a,_⟩:=h;rw [a.len.1,hpl]
 ·obtain ⟨ds,O,F,as,d,O',r,a,e,q⟩:=h;refine ⟨_,body cdv A outer s H E hr (Pt.all H),?_⟩;refine ⟨_,O,F,as,r,Qjn a hl hp,?_⟩;unfold Qa5 at e
  cases eb:b (ds.map some++List.replicate (N.length - ds.length) none) O with
  | rt d' O2 =>
   rw [eb] at e;cases e
   exact fun v H' F' as' g r' hv=>q v H' F' as' g.gr r' (hR _ _ _ _ _ _ _ (fun c hc=>Classical.not_not.mp hc) hv)
  | nx ρ O2 =>
   rw [eb] at e;cases e
   exact fun σ' H' F' as' g r' _=>q _ H' F' as' g.gr r' (hR0 _ _ _ _)
  | bk _ _=>rw [eb] at e; cases e
  | ct _ _=>rw [eb] at e; cases e
  | ex _ _=>rw [eb] at e; cases e
  | no=>rw [eb] at e; cases e
def QiL (K:Frag) (mg:Str→Option Value) (c m qual:Str) (st:Stmt):Prop:=∃C f fd,mg c=some (.ref C)∧Cls K C∧Qmv K C m f∧Fun K m qual st f fd
def QfI (P:Program) (w:World) (K:Frag) (mg:Str→Option Value) (base:Heap) (c m:Str) (ps:List Str) (k:Nat) (sp:Sp):Prop :=
 ∃C f fd,mg c=some (.ref C)∧Cls K C∧Qmv K C m f∧Binds K fd ps []∧Qcc P w K mg base CX0 k f fd ps sp
def QqH (P:Program) (w:World) (K:Frag) (mg:Str→Option Value) (base:Heap) (c:Str) (ps:List Str) (k:Nat) (sp:Sp):Prop :=
 ∃C f fd,mg c=some (.ref C)∧Mk K C f∧Binds K fd ps []∧Qcc P w K mg base CX0 k f fd ps sp
def QqZ (K:Frag) (mg:Str→Option Value) (c qual:Str) (st:Stmt):Prop:=∃C f fd,mg c=some (.ref C)∧Mk K C f∧Fun K "__init__" qual st f fd
theorem Qi0 {c x qual:Str}{st:Stmt}{N ps:List Str}{k:Nat} (Df:QiL K mg c x qual st) (S:QaA N ps (Qam st))
  (hb:∀(kV doc pm:Value) (an:Option Addr) (cdv ct:Value) (us:List Value),us.length=ps.length→bindArgs (PySem.W.fnOf x qual (Qcu st) (QbF st) (Qam st) .none kV doc pm an cdv ct) ⟨us,[]⟩=pure (ps.zip us))
  (pm lm:List Md) {R:RR}{b:MS} (hR:QeT R) (hR0:∀N H F as,R N H F as .non .non) (hpl:pm.length=ps.length:=by rfl) (hl:(pm++lm).length=N.length:=by rfl) (hp:∀m∈pm,m≠.o:=by decide)
  (body:∀(f:Addr) (cdv:Value) (A:Around) (outer:List Env) (s:Shared) (H:Hp) (E:XK),Qa1 k (A.deeper (envOfC qual (Qam st) s.heap.objs.size f cdv))→∀P,VSs ((Qgj CX0 Pr w K mg base N qual (Qam st) f cdv A outer s H E).nox) (pm++lm) P R (QbF st) b) :
  QfI Pr w K mg base c x ps (k+1) (vSp K mg pm R (Qa5 N.length b)):=by
 obtain ⟨C,f,fd,h1,h2,h3,h4⟩:=Df;exact ⟨C,f,fd,h1,h2,h3,h4.binds hb,Qub h4 S pm lm hR hR0 hpl hl hp (body f)⟩
theorem Qwv {c qual:Str}{st:Stmt}{N ps:List Str}{k:Nat} (Df:QqZ K mg c qual st) (S:QaA N ps (Qam st))
  (hb:∀(kV doc pm:Value) (an:Option Addr) (cdv ct:Value) (us:List Value),us.length=ps.length→bindArgs (PySem.W.fnOf "__init__" qual (Qcu st) (QbF st) (Qam st) .none kV doc pm an cdv ct) ⟨us,[]⟩=pure (ps.zip us))
  (pm lm:List Md) {R:RR}{b:MS} (hR:QeT R) (hR0:∀N H F as,R N H F as .non .non) (hpl:pm.length=ps.length:=by rfl) (hl:(pm++lm).length=N.length:=by rfl) (hp:∀m∈pm,m≠.o:=by decide)
  (body:∀(f:Addr) (cdv:Value) (A:Around) (outer:List Env) (s:Shared) (H:Hp) (E:XK),Qa1 k (A.deeper (envOfC qual (Qam st) s.heap.objs.size f cdv))→∀P,VSs ((Qgj CX0 Pr w K mg base N qual (Qam st) f cdv A outer s H E).nox) (pm++lm) P R (QbF st) b) :
  QqH Pr w K mg base c ps (k+1) (vSp K mg pm R (Qa5 N.length b)):=by
 obtain ⟨C,f,fd,h1,h2,h4⟩:=Df;exact ⟨C,f,fd,h1,h2,h4.binds hb,Qub h4 S pm lm hR hR0 hpl hl hp (body f)⟩
end
section
variable {X:Cx}{md:List Md}{P:Pt}{R:RR}{k:Nat}{c m:Str}{ps:List Str}{p pos apos:Pos}{o e:Expr}{es:List Expr}{pm:List Md}{cf:List D→Qac→Res D}{mo:M D}{ma:M (List D)}
def Qbh (c m:Str) (cf:List D→Qac→Res D) (mo:M D) (ma:M (List D)):M D:=fun ρ O=>(mo ρ O).bind fun d O1=>match d with
 | .ob n=>match O1[n]? with
  | some (.ins c' fs)=>if c'=c∧(fs.lookup m).isNone=true then (ma ρ O1).bind fun ds O2=>cf (.ob n::ds) O2 else .no
  | _=>.no
 | _=>.no
theorem QnV {K:Frag}{mg:Str→Option Value}{C:Addr} (hR:QeT R) (hC:mg c=some (.ref C)) {E:XK}{σ:St}{H:Hp}{Q:VK} (q:tM K mg md P R (Qbh c m cf mo ma) σ H Q) :
  Qox C m (vSp K mg (.v::pm) R cf) [] E (tM K mg md P (rV K) mo) (tMA K mg md P pm ma) σ H Q:=by
 obtain ⟨ρ,O,F,as,d,O',r,s,e,k⟩:=q;obtain ⟨x,O1,e1,e⟩:=Res.bind_ok e
 cases x with
 | ob n =>
  dsimp only at e;split at e
  ·rename_i c' fs eo;split at e
   ·rename_i hc;obtain ⟨ds,O2,e2,e⟩:=Res.bind_ok e;refine ⟨ρ,O,F,as,.ob n,O1,r,s,e1,fun v H1 F1 as1 g1 r1 hv=>?_⟩;obtain ⟨a,rfl,ha⟩:=Rp.unO hv;obtain ⟨C',dx,gs,h1,h2,h3⟩:=r1.ob n a _ ha eo;rw [hc.1,hC] at h1; cases h1;refine ⟨a,dx,gs,rfl,h2,h3.no (Option.isNone_iff_eq_none.mp hc.2),?_⟩;refine ⟨ρ,O1,F1,as1,ds,O2,r1,s.step g1,e2,fun vs H2 F2 as2 g2 r2 hvs=>?_⟩;dsimp only;rw [zO];exact ⟨.ob n::ds,O2,F2,as2,d,O',r2,⟨Rp.gr hv g2,hvs⟩,e,fun v' H' F' as' g' r' hw=>k v' H' F' as' ((g1.trans g2).trans g') r' (hR _ _ _ _ _ _ _ (fun b hb=>(g1.trans g2).dm b hb) hw)⟩
   ·cases e
  ·cases e
 | _=>cases e
theorem QnF {pl:Sem Bool} (hR:QeT R) (M:QfI X.prog X.w X.K X.mg X.base c m ps k (vSp X.K X.mg (.v::pm) R cf)) (hr:Qa1 k X.A) (ho:VE X md P o mo) (ha:AE X md P pm (e::es) ma)
  (hst:starEach (e::es) X.env=(false,eval e X.env)::starEach es X.env:=by exact QbN rfl) (hpl:(backTo pos (starEach es X.env)).any (·.1)=false:=by exact QbT rfl)
  (ht:eval (.Call (.Attribute o m apos) (e::es) [] pos) X.env=(do
   let ov ←eval o X.env
   standAt apos.atName
   let (f,first) ←holding [ov] (getMethod ov m pl)
   callWith pos f first (backTo pos (starEach (e::es) X.env)) (backToKw pos (keywordEach [] X.env))):=by rfl) :
  PE X (.Call (.Attribute o m apos) (e::es) [] pos) (tM X.K X.mg md P R (Qbh c m cf mo ma)):=by
 obtain ⟨C,f,fd,h1,h2,h3,h4,h5⟩:=M
 exact (Qtz (pl:=pl) (E:=E0) (ds:=[]) (dvs:=[]) ho h2 h3 h5 hr h4 .nil QlM ha hst hpl ht).imp fun _ _ _ q=>QnV hR h1 q
theorem Qq4 {pl:Sem Bool} (hR:QeT R) (M:QfI X.prog X.w X.K X.mg X.base c m ps k (vSp X.K X.mg [.v] R cf)) (hr:Qa1 k X.A) (ho:VE X md P o mo)
  (ht:eval (.Call (.Attribute o m apos) [] [] pos) X.env=(do
   let ov ←eval o X.env
   standAt apos.atName
   let (f,first) ←holding [ov] (getMethod ov m pl)
   callWith pos f first (backTo pos (starEach [] X.env)) (backToKw pos (keywordEach [] X.env))):=by rfl) :
  PE X (.Call (.Attribute o m apos) [] [] pos) (tM X.K X.mg md P R (Qbh c m cf mo Qae)):=by
 obtain ⟨C,f,fd,h1,h2,h3,h4,h5⟩:=M
 refine (Qre (pl:=pl) (E:=E0) (ds:=[]) (dvs:=[]) ho h2 h3 h5 hr h4 .nil QlM ht).imp fun σ H Q q=>?_
 obtain ⟨ρ,O,F,as,d,O',r,s,e,k⟩:=QnV (pm:=[]) (E:=E0) hR h1 q;refine ⟨ρ,O,F,as,d,O',r,s,e,fun v H' F' as' g r' hv=>?_⟩;obtain ⟨a,dx,fs,e1,e2,e3,t⟩:=k v H' F' as' g r' hv;refine ⟨a,dx,fs,e1,e2,e3,?_⟩;obtain ⟨ρ1,O1,F1,as1,ds1,O2,r1,s1,e4,k4⟩:=t;cases e4;exact k4 [] H' F1 as1 Gr.refl r1 trivial
def Qh0 (c:Str) (cf:List D→Qac→Res D) (ma:M (List D)):M D:=fun ρ O=>(ma ρ O).bind fun ds O1=>match cf (.ob O1.length::ds) (O1 ++ [.ins c []]) with
 | .ok .non O2=>.ok (.ob O1.length) O2
 | .ok _ _=>.no
 | .ex x O2=>.ex x O2
 | .no=>.no
theorem Qth {K:Frag}{mg:Str→Option Value}{C:Addr} (hC:mg c=some (.ref C)) {E:XK}{σ:St}{H:Hp}{Q:VK} (q:tM K mg md P (rV K) (Qh0 c cf ma) σ H Q) :
  Qsk C (vSp K mg (.v::pm) (rV K) cf) [] E (tMA K mg md P pm ma) σ H Q:=by
 obtain ⟨ρ,O,F,as,d,O',r,s,e,k⟩:=q;obtain ⟨ds,O1,e1,e⟩:=Res.bind_ok e;split at e
 ·rename_i O2 ec;cases e;refine ⟨ρ,O,F,as,ds,O1,r,s,e1,fun vs H1 F1 as1 g1 r1 hvs=>?_⟩;intro x dx hx hdx hne;rw [zO]
  have hx2:upd H1 dx (.own x) x=none:=by rw [Qar hne.symm]; exact hx
  have gA:Gr H1 F1 as1 (upd H1 dx (.own x)) F1 as1:=Gr.lay hdx;have gB:Gr (upd H1 dx (.own x)) F1 as1 (upd (upd H1 dx (.own x)) x (.ins C dx [])) F1 as1:=Gr.lay hx2;have gC:Gr (upd (upd H1 dx (.own x)) x (.ins C dx [])) F1 as1 (upd (upd H1 dx (.own x)) x (.ins C dx [])) F1 as1:=Gr.refl;have gAB:=gA.trans gB;have g2:Gr H1 F1 as1 (upd (upd H1 dx (.own x)) x (.ins C dx [])) F1 (as1 ++ [x]):=⟨gAB.fz,gAB.ff,⟨[x],rfl,fun a ha=>by rw [zy.mp ha]; exact hx⟩,fun a o e ha hd=>gAB.fr a o e ha hd,gAB.dm,gAB.kz⟩
  have nx:x∉as1:=fun z=>r1.all z hx
  have rB:=(r1.lay (o:=.own x) hdx).lay (o:=.ins C dx []) hx2
  have at_:∀(n:Nat) (a:Addr),as1[n]? = some a→(as1 ++ [x])[n]? = some a:=fun n a h=>by
   rw [zB (zk.mp h).1]; exact h
  have r2:RlO K mg (O1 ++ [.ins c []]) (upd (upd H1 dx (.own x)) x (.ins C dx [])) F1 (as1 ++ [x]):=by
   refine ⟨rB.fh,rB.fd,?_,by simp [r1.len],fun a ha=>?_,fun n a o ha ho=>?_⟩
   ·rw [jq];refine ⟨r1.nd,by simp,fun a ha b hb=>?_⟩;rw [zy.mp hb];intro z;subst z;exact nx ha
   ·rcases zJ.mp ha with z | z
    ·exact r1.fa a z
    ·rw [zy.mp z];exact r1.frF hx
   ·by_cases hn:n < O1.length
    ·rw [zB (by rw [r1.len]; exact hn)] at ha;rw [zB hn] at ho;exact (rB.ob n a o ha ho).keep rfl (Same.refl _) at_
    ·have hn':n=O1.length:=by
      have:=(zk.mp ho).1
      simp at this
      omega
     subst hn';rw [zL (ze _),Nat.sub_self] at ho;rw [←r1.len,zL (ze _),Nat.sub_self] at ha;cases ho;cases ha;exact ⟨C,dx,[],hC,QaG,⟨rfl,Rps.nil⟩⟩
  have hox:Rp K F1 (as1 ++ [x]) (.ref x) (.ob O1.length):=Rp.mkO (by rw [←r1.len,zL (ze _),Nat.sub_self]; rfl);refine ⟨.ob O1.length::ds,_,F1,as1 ++ [x],.non,_,r2,⟨hox,hvs.gr g2⟩,ec,fun v H3 F3 as3 g3 r3 hv=>?_⟩;exact ⟨Rp.unN hv,k _ H3 F3 as3 ((g1.trans g2).trans g3) r3 (Rp.gr hox g3)⟩
 ·cases e
 ·cases e
 ·cases e
theorem QsK (M:QqH X.prog X.w X.K X.mg X.base c ps k (vSp X.K X.mg (.v::pm) (rV X.K) cf)) (hr:Qa1 (k+1) X.A) (ha:AE X md P pm (e::es) ma) (hg:Gl X c:=by rfl) (hdb:(c == ("__debug__":Str))=false:=by decide)
  (he:starEach (e::es) X.env=(false,eval e X.env)::starEach es X.env:=by exact QbN rfl) (hpl:(backTo pos (starEach es X.env)).any (·.1)=false:=by exact QbT rfl):VE X md P (.Call (.Name c p) (e::es) [] pos) (Qh0 c cf ma):=by
 obtain ⟨C,f,fd,h1,h3,h4,h5⟩:=M
 exact (QsS (E:=E0) (ds:=[]) (dvs:=[]) h3 h5 hr hg h1 h4 .nil QlM ha hdb he hpl).imp fun _ _ _ q=>Qth h1 q
end
section
variable {X:Cx}{md:List Md}{P:Pt}{R:RR}
def Qi7:D→Option (List D)
 | .lst ds=>some ds
 | .tup ds=>some ds
 | .str l=>if ascii l=true then some (Qfl l) else none
 | _=>none
def Qba (m:M D):M (List D):=fun ρ O=>(m ρ O).bind fun d O1=>match Qi7 d with
 | some ds=>.ok ds O1
 | none=>.no
theorem QrY {e:Expr}{m:M D} (h:WE X md P e m):SE X md P e m:=h.imp fun σ H Q q=>by
 obtain ⟨ρ,O,F,as,d,O',r,s,e,k⟩:=q;refine ⟨ρ,O,F,as,d,O',r,s,e,fun v H' F' as' g r' hv=>k v H' F' as' g r' ?_⟩
 rcases hv with hv | ⟨a,xs,ds,e1,e2,e3,e4,e5,e6⟩
 ·exact .inl hv
 ·exact .inr ⟨a,xs,ds,e1,e2,e3,e4,e6⟩
theorem Qho {tg e:Expr}{m:M D} (h:WE X md P e m):VI X md P tg e (Qba m):=fun pins s σ H Q I q=>by
 obtain ⟨ρ,O,F,as,ds,O',r,sl,e,k⟩:=q;obtain ⟨d,O1,e1,e⟩:=Res.bind_ok e
 cases d with
 | lst es =>
  cases e;exact QtB h pins s σ H Q I ⟨ρ,O,F,as,_,_,r,sl,by unfold QlN; rw [e1]; rfl,k⟩
 | tup es =>
  cases e;exact QpP (Qb2 (QrY h)) pins s σ H Q I ⟨ρ,O,F,as,_,_,r,sl,by unfold Qoj mG; rw [e1]; rfl,k⟩
 | str l =>
  simp only [Qi7] at e;split at e
  ·rename_i es hes;split at hes
   ·rename_i hl;cases hes;cases e;refine QpU (QrY h) pins s σ H Q I ⟨ρ,O,F,as,Qfl l,_,r,sl,?_,k⟩;unfold Qoz;rw [e1];show (if ascii l=true then _ else _)=_;rw [if_pos hl]
   ·cases hes
  ·cases e
 | _=>cases e
theorem QrW {tg e:Expr}{m:M D} (h:SE X md P e m):VIc X md P tg e (QlN m):=(QnS h).imp fun σ H Q q=>by
 obtain ⟨ρ,O,F,as,ds,O',r,s,e,k⟩:=q;obtain ⟨d,O1,e1,e⟩:=Res.bind_ok e
 cases d with
 | lst es =>
  cases e;refine ⟨ρ,_,F,as,_,_,r,s,e1,fun v H1 F1 as1 g1 r1 hv=>?_⟩
  obtain ⟨a,xs,rfl,h1,h2⟩:∃a xs,v = .ref a∧Rps X.K F1 as1 xs ds∧∀(H2 F2:Hp) (as2:List Addr),Gr H1 F1 as1 H2 F2 as2→(∃O,RlO X.K X.mg O H2 F2 as2)→RdK X.K H2 a xs:=by
   rcases hv with hv | ⟨a,xs,ds',rfl,e,e3,e4,e6⟩
   ·obtain ⟨a,xs,rfl,h1,h2⟩:=hv.unL;exact ⟨a,xs,rfl,h2,fun H2 F2 as2 g ⟨O,r⟩=>(h1.mono g.ff).mono r.fh⟩
   ·cases e;exact ⟨a,xs,rfl,e6,fun H2 F2 as2 g _=>.inl (.inl (g.fr _ _ e3 e4 rfl))⟩
  refine ⟨a,rfl,⟨xs,(h2 H1 F1 as1 Gr.refl ⟨_,r1⟩).sq⟩,k _ H1 F1 as1 g1 r1 ⟨fun i d H2 F2 as2 g r e=>?_,fun H2 F2 as2 g r=>⟨xs,(h2 H2 F2 as2 g r).sq,by rw [h1.length]; exact ze _⟩⟩⟩;obtain ⟨x,h3,h4⟩:=h1.get' e;have q:=h2 H2 F2 as2 g r;refine ⟨⟨xs,x,q.sq,h3⟩,fun y H3 hy=>?_⟩;obtain ⟨rfl,hy⟩:=hy
  have:=hy xs q.sq
  rw [h3] at this;cases this;exact ⟨F2,Gr.refl,fun _ r=>r,h4.gr g⟩
 | _=>cases e
theorem Qcl {tg e:Expr}{m:M D} (h:SE X md P e m):VIc X md P tg e (Qba m):=fun pins s σ H Q I q=>by
 obtain ⟨ρ,O,F,as,ds,O',r,sl,e,k⟩:=q;obtain ⟨d,O1,e1,e⟩:=Res.bind_ok e
 cases d with
 | lst es =>
  cases e;exact QrW h pins s σ H Q I ⟨ρ,O,F,as,_,_,r,sl,by unfold QlN; rw [e1]; rfl,k⟩
 | tup es =>
  cases e;exact Qms (QpP (Qb2 h)) pins s σ H Q I ⟨ρ,O,F,as,_,_,r,sl,by unfold Qoj mG; rw [e1]; rfl,k⟩
 | str l =>
  simp only [Qi7] at e;split at e
  ·rename_i es hes;split at hes
   ·rename_i hl;cases hes;cases e;refine Qms (QpU h) pins s σ H Q I ⟨ρ,O,F,as,Qfl l,_,r,sl,?_,k⟩;unfold Qoz;rw [e1];show (if ascii l=true then _ else _)=_;rw [if_pos hl]
   ·cases hes
  ·cases e
 | _=>cases e
def Qwd (m:M D):M (List D):=fun ρ O=>(m ρ O).bind fun d O1=>match d with
 | .lst ds=>.ok (Qkt 0 ds) O1
 | .str l=>if ascii l=true then .ok (Qkt 0 (Qfl l)) O1 else .no
 | _=>.no
variable {elts:List Expr}{x1:Nat}{tpos:Pos}
def Pt.with (P:Pt) (a:Addr) (i:Nat) (d:D) (l:List (Nat×V×D)):Pt:=⟨fun c=>P c∨c=a,(i,.ref a,d)::(l++P.ss)⟩
end
theorem QqB {P:Program}{w:World}{K:PySem.W.Frag}{mg mb:Str→Option Value}{CX:CXT}{k:Nat}{fa a:Addr}{fd:FuncData}{x:Str}{sp:Sp}{s₁:Shared}{vs:List Value}{ns:List Int}
  (KX:K.In s₁.heap) (hns:s₁.heap.Ns mainGlobals mg) (hb:s₁.heap.Ns builtinsNs mb) (hbb:∀x:Str,x≠"__name__"→mb x=bootBuiltins x) (hlim:s₁.heap.NoLimit) (hg:s₁.gens = #[])
  (ha:s₁.heap.get? a=some { cls:=.type "list",data:=.seq vs.toArray }) (hi:IntsAre vs ns) (hl:ns.length≤sizeLine) (hr:Qa1 k callerA)
  (F:∀base:Heap,K.In base→base.Ns mainGlobals mg→Qcc P w K mg base CX k fa fd [x] sp) (hbind:∀(s:Shared) (u:Value),BindsTo s fd ⟨[u],[]⟩ [(x,u)])
  (hsp:∀H:Hp,Qjx H→RdK K H a (ns.map V.int)→sp [.ref a] H (fun v _=>v = .bl true) fun _ _ _=>False)
  (hCX:∀H e s',CX [] H s₁ (fun _ _ _=>False) e s'→False) :
  codeAny (model P w) callerA (.call (.ref fa) ⟨[.ref a],[]⟩) (fun r s'=>r = .ok (.ret (.bool true))∧OldK s₁.heap s'.heap∧s'.os=s₁.os∧AllBare s'.gens) s₁:=by
 have rv:=QiC hi;have lenV:=hi.length;have core:∀H:Hp,Qjx H→RdK K H a (ns.map V.int)→HOk P w H s₁.heap→(∀b,H b≠none→b=a)→(H a≠none→K.lookup a=none) →
   codeAny (model P w) callerA (.call (.ref fa) ⟨[.ref a],[]⟩) (fun r s'=>r = .ok (.ret (.bool true))∧OldK s₁.heap s'.heap∧s'.os=s₁.os∧AllBare s'.gens) s₁:=by
  intro H hO hS hok hA hK
  have base_of:∀{b:Addr}{o:Obj},s₁.heap.get? b=some o→H b=none→(Qen s₁.heap H).get? b=some o:=fun e n=>QmE e n
  have noA:∀{b:Addr}{o:Obj}{es:Array DictEntry}{ep:Nat},s₁.heap.get? b=some o→o.data = .dict es ep→H b=none:=fun {b o es ep} e d=>by
   cases q:H b with
   | none=>rfl
   | some u =>
    have e':b=a:=hA b (by rw [q]; simp);subst e';rw [ha] at e; cases e;have d':Data.seq vs.toArray _=Data.dict es ep:=d;cases d'
  have nsK:∀{b:Addr}{m:Str→Option Value},s₁.heap.Ns b m→(Qen s₁.heap H).Ns b m:=fun {b m} ⟨o,es,ep,e,d,r⟩=>⟨o,es,ep,base_of e (noA e d),d,r⟩
  have hKb:K.In (Qen s₁.heap H):=fun b o e=>base_of (KX b o e) (by
   cases q:H b with
   | none=>rfl
   | some u =>
    have e':b=a:=hA b (by rw [q]; simp);subst e'
    rw [hK (by rw [q]; simp)] at e; cases e)
  have hM:Mod K mg (Qen s₁.heap H):=⟨hKb,nsK hns,⟨mb,nsK hb,hbb⟩,let ⟨mc,h1,h2⟩:=hlim; ⟨mc,nsK h1,h2⟩⟩;have e0:Qgp P w K mg (Qen s₁.heap H) callerA [] s₁ H:=⟨rfl,hM,fun b o e=>QnD e,Nat.le_of_eq (Qlh _ _),trivial,fun b hb=>absurd (show b∈([]:List Addr) from hb) (by simp),hok,.of_eq hg⟩
  refine codeAny_mono ((F _ hKb (nsK hns)).run callerA [] s₁ H ⟨[.ref a],[]⟩ [.ref a] [.ref a] _ _ hr e0 (hbind s₁ (.ref a)) (.cons rfl .nil) (hsp H hO hS)) fun r s' h=>?_
  cases r with
  | error e=>exact (hCX H e s' h).elim
  | ok fl =>
   cases fl with
   | next=>exact False.elim h
   | brk=>exact False.elim h
   | cont=>exact False.elim h
   | ret u =>
    obtain ⟨v,H',os,bare,un,hok',r',q⟩:=h;have q':v = .bl true:=q;subst q';obtain rfl:u=Value.bool true:=r';refine ⟨rfl,OldK.of_keep fun b o e=>?_,os,bare⟩
    cases q:H b with
    | none=>exact un.keep b o e q (by intro z; exact absurd (show b∈([]:List Addr) from z) (by simp)) (by simp)
    | some u =>
     rcases hO b with z | ⟨ob,xs,z⟩
     ·rw [q] at z; cases z
     ·have z2:=un.frzs b ob _ z;obtain ⟨e1,_⟩:=hok b _ z;obtain ⟨e2,_⟩:=hok' b _ z2;rw [e] at e1; cases e1;exact e2
 cases hk:K.lookup a with
 | some o =>
  have e:=KX a o hk;rw [ha] at e;cases e
  refine core (fun _=>none) (fun _=>.inl rfl) (.inr ⟨vs,_,hk,by rw [lenV]; exact hl,rv⟩) (fun b u z=>by have z':(none:Option HO)=some u:=z; cases z') (fun b z=>absurd rfl z) fun z=>absurd rfl z
 | none =>
  refine core (fun b=>if b=a then some (.frz { cls:=.type "list",data:=.seq vs.toArray } (.lst (ns.map V.int))) else none) (fun b=>?_) (.inl (.inr ⟨{ cls:=.type "list",data:=.seq vs.toArray },if_pos rfl⟩)) (fun b u z=>?_) (fun b z=>?_) fun _=>hk
  ·by_cases hb:b=a
   ·exact .inr ⟨_,_,if_pos hb⟩
   ·exact .inl (if_neg hb)
  ·by_cases hb:b=a
   ·have z':=(if_pos hb).symm.trans z;cases z';subst hb;exact ⟨ha,by rw [zd]; exact hl,vs,_,rv,ha⟩
   ·have z':=(if_neg hb).symm.trans z;cases z'
  ·by_cases hb:b=a
   ·exact hb
   ·exact absurd (if_neg hb) z
theorem walk_ofR {l:PySem.W.OpenLaw}{n k:Nat}{q:Program}{loose:List Str}{XP:(Str→Option Value)→Heap→Prop}{YP:World→Heap→Prop}{d:DefRec}{K:Params→PySem.W.Frag}{CX:World→CXT}{sp:World→Sp}{x:Str}
  (hn:l.most=some n) (hn2:n≤sizeLine) (hdf:d.params.defaults = []) (hr:Qa1 k callerA)
  (hY:∀(w:World) (h:Heap),YP w h→(K w.params).In h)
  (F:∀(w:World) (mg:Str→Option Value) (fa:Addr) (h:Heap),(K w.params).In h→h.Ns mainGlobals mg→mg d.name=some (.ref fa) →
   ∃fd:FuncData,(∀(s:Shared) (u:Value),BindsTo s fd ⟨[u],[]⟩ [(x,u)]) ∧
    ∀base:Heap,(K w.params).In base→base.Ns mainGlobals mg→Qcc l.prog w (K w.params) mg base (CX w) k fa fd [x] (sp w))
  (hsp:∀(w:World) (H:Hp) (a:Addr) (ns:List Int),ns.length≤n→Qjx H→RdK (K w.params) H a (ns.map V.int)→sp w [.ref a] H (fun v _=>v = .bl true) fun _ _ _=>False)
  (hCX:∀(w:World) (H:Hp) (s:Shared) (e:Value) (s':Shared),CX w [] H s (fun _ _ _=>False) e s'→False) :
  PySem.W.WalkO q loose XP YP l.row.toRowW d [] (fun f vs=>PySem.call f vs):=by
 refine Att.attach_call hn hdf fun w s₀ s₁ mg mb fa o pm cd doc a vs ns G Y ho hd hcd hmg hobj hints hlen hg=>?_
 have KX:=hY w _ Y;obtain ⟨fd,hb,hF⟩:=F w mg fa _ KX G.T.g hmg
 exact QqB KX G.T.g G.T.b G.T.builtins G.T.nolimit hg hobj hints (zF hlen hn2) hr hF hb (fun H hO hS=>hsp w H a ns hlen hO hS) fun H e s'=>hCX w H s₁ e s'
theorem Qfp {K:Frag}{mg:Str→Option Value}{f:Str}:∀c∈([]:List Str),KC K mg c f:=fun _ h=>nomatch h
theorem Qd9 {K:Frag}{mg:Str→Option Value}{f c:Str}{cs:List Str} (h:KC K mg c f) (hr:∀c∈cs,KC K mg c f):∀c'∈c::cs,KC K mg c' f:=fun c' hc=>by
 rcases zt.mp hc with rfl | hc
 ·exact h
 ·exact hr c' hc
def wF:Nat:=1000000
def sp_law (K:Frag):Sp:=fun vs H Q _=>∃(a:Addr) (ns:List Int),vs = [.ref a]∧RdK K H a (ns.map V.int)∧ns.length≤63∧Qjx H∧∀H',Q (.bl true) H'
theorem Rps.ofInts {K:Frag}{F:Hp}{as:List Addr}:∀ns:List Int,Rps K F as (ns.map V.int) (ns.map D.int)
 | []=>Rps.nil
 | n::ns=>Rps.cons Rp.int (Rps.ofInts ns)
theorem Qsx {K:Frag}{mg:Str→Option Value}{c:List D→Qac→Res D} (h:∀ns:List Int,ns.length≤63→∃O',c [.lst (ns.map D.int)] [] = .ok (.bl true) O'):∀vs H Q E,sp_law K vs H Q E→vSp K mg [.s] (rV K) c vs H Q E:=by
 rintro vs H Q E ⟨a,ns,rfl,hS,hl,hO,q⟩;obtain ⟨O',e⟩:=h ns hl
 have r:RlO K mg [] H H []:=⟨Same.refl H,fun b o e=>by
  rcases hO b with z | ⟨o',xs,z⟩
  ·rw [e] at z; cases z
  ·rw [e] at z; cases z; rfl,List.nodup_nil,rfl,(fun _ z=>nomatch z),fun n b o z=>by cases z⟩
 refine ⟨[.lst (ns.map D.int)],[],H,[],.bl true,O',r,⟨.inl (Rp.mkL hS (Rps.ofInts ns)),trivial⟩,e,fun v H' F' as' g r' hv=>?_⟩;rw [Rp.unB hv];exact q H'
def keyOf:D→Option Key
 | .int i=>some (.inl i)
 | .str l=>some (.inr (S l))
 | _=>none
theorem QsH {d:D}{k:Key} (h:keyOf d=some k):Qk3 k=d:=by
 cases d with
 | int i=>cases h; rfl
 | str l=>cases h; show D.str (S l).cps.toList=_; rw [Qh4]
 | _=>cases h
theorem Rp.key {K:Frag}{F:Hp}{as:List Addr}{v:V}{d:D}{k:Key} (h:Rp K F as v d) (e:keyOf d=some k):v=kV k:=by
 cases d with
 | int i=>cases e; exact h.unI
 | str l=>cases e; exact h.unS
 | _=>cases e
section
variable {X:Cx}{md:List Md}{P:Pt}
def Prs (K:Frag) (F:Hp) (as:List Addr):List (V×V)→List (D×D)→Prop
 | [],[]=>True
 | p::ps,d::ds=>Rp K F as p.1 d.1∧Rp K F as p.2 d.2∧Prs K F as ps ds
 | _,_=>False
def DPE (X:Cx) (md:List Md) (P:Pt) (pos:Pos) (keys:List (Option Expr)) (values:List Expr) (m:M (List (D×D))):Prop:=∃trs:List (TE×TE),
 PPs X pos keys values trs∧∀σ H Q,(∃ρ O F as kv O',RlO X.K X.mg O H F as∧SlO X.K md P ρ σ H F as∧m ρ O = .ok kv O'∧∀ps H' F' as',Gr H F as H' F' as'→RlO X.K X.mg O' H' F' as'→Prs X.K F' as' ps kv→Q ps H')→QlY trs σ H Q
def Qw2:M (List (D×D)):=fun _ O=>.ok [] O
def QvX (mk mv:M D) (r:M (List (D×D))):M (List (D×D)):=fun ρ O=>(mk ρ O).bind fun a O1=>(mv ρ O1).bind fun b O2=>(r ρ O2).bind fun ps O3=>.ok ((a,b)::ps) O3
def keysOf:List (D×D)→Option (List Key)
 | []=>some []
 | (a,_)::r=>(keyOf a).bind fun k=>(keysOf r).map (k :: ·)
theorem Prs.kvs {K:Frag}{F:Hp}{as:List Addr}:∀{kv:List (D×D)}{ps:List (V×V)}{ks:List Key},Prs K F as ps kv→keysOf kv=some ks →
  ∃kvs:List (Key×V),ps=kvs.map (fun p=>(kV p.1,p.2))∧kvs.map (·.1)=ks∧kv.map (·.1)=kvs.map (fun p=>Qk3 p.1)∧Rps K F as (kvs.map (·.2)) (kv.map (·.2))
 | [],ps,ks,h,e=>by
  cases ps with
  | nil=>cases e; exact ⟨[],rfl,rfl,rfl,Rps.nil⟩
  | cons _ _=>exact h.elim
 | (a,b)::kv,ps,ks,h,e=>by
  cases ps with
  | nil=>exact h.elim
  | cons p ps =>
   obtain ⟨p1,p2⟩:=p;unfold keysOf at e
   cases ea:keyOf a with
   | none=>rw [ea] at e; cases e
   | some k =>
    rw [ea] at e
    cases er:keysOf kv with
    | none=>rw [er] at e; cases e
    | some ks' =>
     rw [er] at e;cases e;obtain ⟨kvs,h1,h2,h3,h4⟩:=Prs.kvs h.2.2 er;refine ⟨(k,p2)::kvs,?_,?_,?_,Rps.cons h.2.1 h4⟩
     ·rw [zf,←h1]
      have:p1=kV k:=Rp.key h.1 ea
      rw [this]
     ·rw [zf,h2]
     ·rw [zf,zf,h3,QsH ea]
def Qv4 (m:M (List (D×D))):M D:=fun ρ O=>(m ρ O).bind fun kv O1=>match keysOf kv with
 | some ks=>if ks.Nodup∧kv.length≤15 then .ok (.dic (kv.map (·.1)) (kv.map (·.2))) O1 else .no
 | none=>.no
theorem Prs.length {K:Frag}{F:Hp}{as:List Addr}:∀{kv:List (D×D)}{ps:List (V×V)},Prs K F as ps kv→ps.length=kv.length
 | [],[],_=>rfl
 | _::kv,_::ps,h=>by simp [Prs.length h.2.2]
 | [],_::_,h=>h.elim
 | _::_,[],h=>h.elim
end
section
variable {X:Cx}{md:List Md}{P:Pt}{k:Nat}{c x m:Str}{ps:List Str}{p pos apos:Pos}{o e:Expr}{es:List Expr}{pm:List Md}{cf:List D→Qac→Res D}{mo:M D}{ma:M (List D)}
theorem QaM (C:Can X.prog X.w X.K X.mg X.base x ps k (vSp X.K X.mg pm (rV X.K) cf)) (hr:Qa1 k X.A) (ha:AE X md P pm (e::es) ma) (hg:Gl X x:=by rfl) (hdb:(x == ("__debug__":Str))=false:=by decide) (he:starEach (e::es) X.env=(false,eval e X.env)::starEach es X.env:=by exact QbN rfl) (hpl:(backTo pos (starEach es X.env)).any (·.1)=false:=by exact QbT rfl) :
  VE X md P (.Call (.Name x p) (e::es) [] pos) (Qau cf ma):=QnG Qbd C hr ha hg hdb he hpl
theorem Qcn (C:Can X.prog X.w X.K X.mg X.base x ps k (vSp X.K X.mg pm (rO X.K) cf)) (hr:Qa1 k X.A) (ha:AE X md P pm (e::es) ma) (hg:Gl X x:=by rfl) (hdb:(x == ("__debug__":Str))=false:=by decide) (he:starEach (e::es) X.env=(false,eval e X.env)::starEach es X.env:=by exact QbN rfl) (hpl:(backTo pos (starEach es X.env)).any (·.1)=false:=by exact QbT rfl) :
  OE X md P (.Call (.Name x p) (e::es) [] pos) (Qau cf ma):=QnG Qch C hr ha hg hdb he hpl
theorem Qi6 {pl:Sem Bool} (M:QfI X.prog X.w X.K X.mg X.base c m ps k (vSp X.K X.mg (.v::pm) (rV X.K) cf)) (hr:Qa1 k X.A) (ho:VE X md P o mo) (ha:AE X md P pm (e::es) ma) (hst:starEach (e::es) X.env=(false,eval e X.env)::starEach es X.env:=by exact QbN rfl) (hpl:(backTo pos (starEach es X.env)).any (·.1)=false:=by exact QbT rfl)
  (ht:eval (.Call (.Attribute o m apos) (e::es) [] pos) X.env=(do
   let ov ←eval o X.env
   standAt apos.atName
   let (f,first) ←holding [ov] (getMethod ov m pl)
   callWith pos f first (backTo pos (starEach (e::es) X.env)) (backToKw pos (keywordEach [] X.env))):=by rfl):VE X md P (.Call (.Attribute o m apos) (e::es) [] pos) (Qbh c m cf mo ma):=QnF Qbd M hr ho ha hst hpl ht
theorem QkY {pl:Sem Bool} (M:QfI X.prog X.w X.K X.mg X.base c m ps k (vSp X.K X.mg (.v::pm) (rO X.K) cf)) (hr:Qa1 k X.A) (ho:VE X md P o mo) (ha:AE X md P pm (e::es) ma) (hst:starEach (e::es) X.env=(false,eval e X.env)::starEach es X.env:=by exact QbN rfl) (hpl:(backTo pos (starEach es X.env)).any (·.1)=false:=by exact QbT rfl)
  (ht:eval (.Call (.Attribute o m apos) (e::es) [] pos) X.env=(do
   let ov ←eval o X.env
   standAt apos.atName
   let (f,first) ←holding [ov] (getMethod ov m pl)
   callWith pos f first (backTo pos (starEach (e::es) X.env)) (backToKw pos (keywordEach [] X.env))):=by rfl):OE X md P (.Call (.Attribute o m apos) (e::es) [] pos) (Qbh c m cf mo ma):=QnF Qch M hr ho ha hst hpl ht
theorem Qml {pl:Sem Bool} (M:QfI X.prog X.w X.K X.mg X.base c m ps k (vSp X.K X.mg [.v] (rV X.K) cf)) (hr:Qa1 k X.A) (ho:VE X md P o mo)
  (ht:eval (.Call (.Attribute o m apos) [] [] pos) X.env=(do
   let ov ←eval o X.env
   standAt apos.atName
   let (f,first) ←holding [ov] (getMethod ov m pl)
   callWith pos f first (backTo pos (starEach [] X.env)) (backToKw pos (keywordEach [] X.env))):=by rfl):VE X md P (.Call (.Attribute o m apos) [] [] pos) (Qbh c m cf mo Qae):=Qq4 Qbd M hr ho ht
end
section
variable {X:Cx}{md:List Md}{P:Pt}{R:RR}{elts:List Expr}{x1:Nat}{tpos:Pos}
def QhH:List D→List D→List D
 | d::ds,e::es=>.tup [d,e]::QhH ds es
 | _,_=>[]
def QuA (ma mb:M D):M (List D):=fun ρ O=>(ma ρ O).bind fun d O1=>(mb ρ O1).bind fun e O2=>match d,e with
 | .lst ds,.lst es=>.ok (QhH ds es) O2
 | _,_=>.no
def QlW (m:MS):MS:=fun ρ O=>match m ρ O with
 | .rt d O'=>.rt d O'
 | _=>.no
theorem SlO.toV {K:Frag}{ρ:Qal}{σ:St}{H F F':Hp}{as:List Addr}{i:Nat} (s:SlO K md P ρ σ H F as) (hm:md[i]? = some .o) (ff:Same F F')
  (hown:∀(j:Nat) (ds:List D) (a:Addr),j≠i→md[j]? = some .o→ρ[j]? = some (some (.lst ds))→σ[j]? = some (some (.ref a))→F' a=F a)
  (hv:∀d,ρ[i]? = some (some d)→∃v,σ[i]? = some (some v)∧Rp K F' as v d):SlO K (md.set i .v) P ρ σ H F' as:=by
 have hi:i < md.length:=(zk.mp hm).1
 have back:∀(j:Nat),(md.set i Md.v)[j]? = some Md.o→j≠i∧md[j]? = some .o:=fun j e=>by
  by_cases hj:j=i
  ·subst hj;rw [zT hi] at e;cases e
  ·rw [zu (Ne.symm hj)] at e;exact ⟨hj,e⟩
 refine ⟨by rw [jj]; exact s.len,by rw [jj]; exact s.len',s.pd,fun j m d e1 e2=>?_,fun j k a ds es h1 h2 h3 h4 h5 h6=>s.inj j k a ds es (back j h1).2 (back k h2).2 h3 h4 h5 h6,fun x hx=>?_⟩
 ·by_cases hj:j=i
  ·subst hj;rw [zT hi] at e1;cases e1;exact hv d e2
  ·rw [zu (Ne.symm hj)] at e1;obtain ⟨v,q,t⟩:=s.sl j m d e1 e2;refine ⟨v,q,?_⟩
   cases m with
   | v=>exact Rp.mono ff (fun _ _ z=>z) _ t
   | s =>
    rcases t with t | ⟨a,xs,ds,t1,t2,t3,t4,t5,t6⟩
    ·exact .inl (Rp.mono ff (fun _ _ z=>z) _ t)
    ·exact .inr ⟨a,xs,ds,t1,t2,t3,t4,t5,Rps.mono ff (fun _ _ z=>z) _ t6⟩
   | o =>
    rcases t with ⟨t0,t⟩ | ⟨a,xs,ds,rfl,rfl,t3,t0,t4,t5,t6⟩
    ·exact .inl ⟨t0,Rp.mono ff (fun _ _ z=>z) _ t⟩
    ·exact .inr ⟨a,xs,ds,rfl,rfl,t3,by rw [hown j ds a hj e1 e2 q]; exact t0,t4,t5,Rps.mono ff (fun _ _ z=>z) _ t6⟩
 ·obtain ⟨p1,p2,p3⟩:=s.pin x hx
  have hne:i≠x.1:=fun z=>by rw [←z,hm] at p1; cases p1
  exact ⟨by rw [zu hne]; exact p1,p2,p3⟩
theorem Qvi {K:Frag}{mg:Str→Option Value}{i:Nat}{m:MS} (hm:md[i]? = some .o) {D:Ends}{σ:St}{H:Hp} (q:tMS K mg md P R (QlW m) D σ H):tMS K mg (md.set i .v) P R m D σ H:=by
 obtain ⟨ρ,O,F,as,r,s,k⟩:=q;unfold QlW at k
 cases e:m ρ O with
 | rt d O' =>
  rw [e] at k
  by_cases hl:∃ds,ρ[i]? = some (some (.lst ds))
  ·obtain ⟨ds,hρ⟩:=hl;obtain ⟨a,xs,h1,h2,h3,h4,h5,h6⟩:=s.own hm hρ
   have ff:Same F (upd F a (.lst xs)):=fun b u q=>by rw [Qar (QaC q h3)]; exact q
   have g0:GrS P H F as H (upd F a (.lst xs)) as:=⟨fun c _ p _ _ _=>Qar (fun z=>h5 (by rw [←z]; exact p)),ff,⟨[],by simp,fun _ h=>nomatch h⟩,fun _ _ _ h _ _=>h,fun _ h=>h,fun _ _ _ h=>h⟩;refine ⟨ρ,O,upd F a (.lst xs),as,r.frz h2 h3 h4 rfl,s.toV hm ff (fun j es b hj m1 m2 m3=>?_) (fun d' hd'=>?_),?_⟩
   ·refine Qar fun z=>hj ?_
    rw [z] at m3;exact s.inj j i a es ds m1 hm m2 hρ m3 h1
   ·rw [hρ] at hd';cases hd';exact ⟨_,h1,Rp.mkL (.inl (.inl QaG)) (Rps.mono ff (fun _ _ z=>z) _ h6)⟩
   ·rw [e]
    exact fun v H' F' as' g r' hv=>k v H' F' as' (g0.trans g) r' hv
  ·refine ⟨ρ,O,F,as,r,s.toV hm (Same.refl F) (fun _ _ _ _ _ _ _=>rfl) (fun d' hd'=>?_),by rw [e]; exact k⟩;obtain ⟨v,h1,h2⟩:=s.sl i .o d' hm hd'
   rcases h2 with ⟨_,h2⟩ | ⟨a,xs,ds,_,rfl,_⟩
   ·exact ⟨v,h1,h2⟩
   ·exact absurd ⟨ds,hd'⟩ hl
 | _=>rw [e] at k; exact False.elim k
theorem Quc (i:Nat) {st:Stmt}{m:MS} (hm:md[i]? = some .o) (h:VS X (md.set i .v) P R st m):VS X md P R st (QlW m):=h.imp fun _ _ _=>Qvi hm
end
section
variable {prog:Program}{w:World}{A:Around}{E:Value→Shared→Prop}
end
section
variable {X:Cx}{md:List Md}{P:Pt}{R:RR}
theorem Qt6 {as:List Addr}{a:Addr}:∀(n:Nat) (c:Addr),as[n]? = some c→(as ++ [a])[n]? = some c:=fun n c h=>by
 rw [zB (zk.mp h).1]; exact h
theorem Qoc {H F:Hp}{as:List Addr}{a:Addr}{h:HO} (ha:a∈as) (hh:H a=some h) {o:HO} (hf:∀o u,h≠.frz o u:=by intro _ _ z; cases z):Gr H F as (upd H a o) F as :=
 ⟨fun _ _ _ _ _=>rfl,Same.refl F,⟨[],by simp,fun _ h=>nomatch h⟩,fun c u e hn _=>by rw [Qar (fun z=>hn (by rw [z]; exact ha))]; exact e,fun c e=>by
  by_cases h:c=a
  ·subst h; rw [QaG] at e; cases e
  ·rwa [Qar h] at e,fun c o' u e=>by rw [Qar (fun z=>by rw [z,hh] at e; cases e; exact hf _ _ rfl)]; exact e⟩
theorem RlO.ml {K:Frag}{mg:Str→Option Value}{O:Qac}{H F:Hp}{as:List Addr}{n:Nat}{a:Addr}{ds:List D} (r:RlO K mg O H F as) (hn:as[n]? = some a) (hO:O[n]? = some (.ml ds)):∃xs,H a=some (.lst xs)∧Rps K F as xs ds:=r.ob n a _ hn hO
end
def QrC (K:Frag) (mg:Str→Option Value) (x:Str) (ls:List (List Nat)):Prop:=∃(a:Addr) (o:Obj) (its:Array Value) (n:Nat),mg x=some (.ref a)∧K.lookup a=some o∧o.cls = .type "tuple"∧o.data = .seq its n∧its.size≤sizeLine∧Qaz (ls.map fun l=>V.str (S l)) its.toList
theorem Rps.texts {K:Frag}{F:Hp}{as:List Addr}:∀ls:List (List Nat),Rps K F as (ls.map fun l=>V.str (S l)) (ls.map D.str)
 | []=>Rps.nil
 | l::ls=>Rps.cons Rp.str (Rps.texts ls)
theorem Qt0 {X:Cx}{md:List Md}{P:Pt}{x:Str}{ls:List (List Nat)}{pos:Pos} (h:QrC X.K X.mg x ls) (hg:Gl X x:=by rfl) (hdb:(x == ("__debug__":Str))=false:=by decide):VE X md P (.Name x pos) (mC (.tup (ls.map D.str))):=by
 obtain ⟨a,o,its,n,hm,hk,h1,h2,h3,h4⟩:=h
 refine (QmL (v:=.ref a) ⟨_,hm,rfl⟩ hg hdb).imp fun σ H Q q=>?_
 obtain ⟨ρ,O,F,as,d,O',r,s,e,k⟩:=q;cases e;exact k _ H F as Gr.refl r (Rp.mkT (.inr ⟨o,its,n,hk,h1,h2,h3,h4⟩) (Rps.texts ls))
theorem Qbk {α:Type}{p:List α→Prop} (h:p []):∀us:List α,us.length=0→p us:=fun us e=>by
 cases us with
 | nil=>exact h
 | cons a as=>cases e
theorem QaB {α:Type}{p:List α→Prop}{n:Nat} (h:∀a,∀us:List α,us.length=n→p (a::us)):∀us:List α,us.length=n+1→p us:=fun us e=>by
 cases us with
 | nil=>cases e
 | cons a as=>exact h a as (Nat.succ.inj e)
section
variable {prog:Program}{w:World}{κ:Type} [DecidableEq κ] {knd:HeapKind prog w κ}{A:Around}{E:Value→Shared→Prop}{s:Shared}
end
section
variable {X:Cx}{pins:List (Addr×Obj)}{σ:St}{H:Hp}{s:Shared}{a b:Addr}{v:V}{r:Value}{kvs:List (List Key×V)}{k:List Key}{A:Around}{E:Value→Shared→Prop}
end
def QlH:List D→Option (List Key)
 | []=>some []
 | .int i::ds=>(QlH ds).map (Sum.inl i :: ·)
 | _=>none
def Qmr:D→Option (List Key)
 | .tup (d::ds)=>QlH (d::ds)
 | _=>none
theorem Rps.keys {K:Frag}{F:Hp}{as:List Addr}:∀{ds:List D}{xs:List V}{ks:List Key},Rps K F as xs ds→QlH ds=some ks→xs=ks.map kV∧∃is:List Int,ks=is.map Sum.inl
 | [],xs,ks,h,e=>by cases e; exact ⟨h.un0,[],rfl⟩
 | .int i::ds,xs,ks,h,e=>by
  obtain ⟨x,r,rfl,h1,h2⟩:=h.un;obtain ⟨ks',e1,rfl⟩:=Option.map_eq_some_iff.mp (show (QlH ds).map (Sum.inl i :: ·)=some ks from e);obtain ⟨q1,is,rfl⟩:=Rps.keys h2 e1;exact ⟨by rw [h1.unI,q1]; rfl,i::is,rfl⟩
 | .non::ds,xs,ks,h,e=>by cases e
 | .bl _::ds,xs,ks,h,e=>by cases e
 | .str _::ds,xs,ks,h,e=>by cases e
 | .lst _::ds,xs,ks,h,e=>by cases e
 | .tup _::ds,xs,ks,h,e=>by cases e
 | .dic _ _::ds,xs,ks,h,e=>by cases e
 | .ob _::ds,xs,ks,h,e=>by cases e
def QmT:List Value→Bool
 | []=>true
 | .int _ _::r=>QmT r
 | _=>false
def Qa6:Frag→Bool
 | []=>true
 | p::r=>(match p.2.data with
  | .seq its _=>its.toList.isEmpty || !QmT its.toList
  | _=>true)&&Qa6 r
theorem QnM {a:Addr}{o:Obj}{its:Array Value}{n:Nat}:∀{K:Frag},Qa6 K=true→List.lookup a K=some o→o.data = .seq its n→(its.toList.isEmpty || !QmT its.toList)=true
 | [],_,h,_=>by cases h
 | p::r,hk,h,hd=>by
  unfold Qa6 at hk;rw [zr] at hk;rw [List.lookup_cons] at h;split at h
  ·cases h
   have:=hk.1
   rw [hd] at this;exact this
  ·exact QnM hk.2 h hd
theorem Qof:∀{is:List Int}{us:List Value},Qaz ((is.map (Sum.inl (β:=Str))).map kV) us→QmT us=true
 | [],us,h=>by cases h; rfl
 | i::is,us,h=>by
  cases h with
  | @cons _ u _ us' r1 r2 =>
   obtain ⟨t,rfl⟩:∃t,u = .int i t:=r1;show QmT us'=true;exact Qof (is:=is) r2
theorem Rp.tkey {K:Frag}{F:Hp}{as:List Addr}{v:V}{d:D}{ks:List Key} (hk:Qa6 K=true) (h:Rp K F as v d) (e:Qmr d=some ks):∃b,v = .ref b∧F b=some (.tup (ks.map kV)):=by
 cases d with
 | tup ds =>
  cases ds with
  | nil=>cases e
  | cons d ds =>
   obtain ⟨b,xs,rfl,h1,h2⟩:=h.unT';obtain ⟨ex,is,rfl⟩:=h2.keys e
   rcases h1 with h1 | ⟨o,its,n,l1,_,l3,_,l5⟩
   ·exact ⟨b,rfl,by rw [h1,ex]⟩
   ·exfalso
    have q:=QnM hk l1 l3;rw [ex] at l5;rw [Qof l5,Bool.not_true,Bool.or_false,List.isEmpty_iff] at q;rw [q,←ex] at l5;obtain ⟨x,r,rfl,_,_⟩:=h2.un;cases l5
 | _=>cases e
def Qe3 (kvs:List (List Key×D)) (k:List Key):Option D:=(kvs.find? fun p=>decide (p.1=k)).map (·.2)
def QjQ (kvs:List (List Key×D)) (k:List Key) (d:D):List (List Key×D) :=
 if (kvs.any fun p=>decide (p.1=k))=true then kvs.map (fun p=>if p.1=k then (p.1,d) else p) else kvs ++ [(k,d)]
def DtR (K:Frag) (F:Hp) (as:List Addr) (xs:List (List Key×V)) (kvs:List (List Key×D)):Prop:=xs.map (·.1)=kvs.map (·.1)∧Rps K F as (xs.map (·.2)) (kvs.map (·.2))
section
variable {K:Frag}{mg:Str→Option Value}{O:Qac}{H F H' F':Hp}{as as':List Addr}
theorem DtR.len {xs:List (List Key×V)}{kvs:List (List Key×D)} (h:DtR K F as xs kvs):xs.length=kvs.length:=by
 have:=congrArg List.length h.1
 simpa using this
theorem DtR.un {xs:List (List Key×V)}{p:List Key×D}{kvs:List (List Key×D)} (h:DtR K F as xs (p::kvs)):∃v r,xs=(p.1,v)::r∧Rp K F as v p.2∧DtR K F as r kvs:=by
 obtain ⟨h1,h2⟩:=h
 cases xs with
 | nil=>cases h1
 | cons x r =>
  obtain ⟨v,r',e,q1,q2⟩:=h2.un;cases e;rw [zf,zf] at h1;have q3:=(List.cons.inj h1).1;refine ⟨x.2,r,?_,q1,(List.cons.inj h1).2,q2⟩;rw [←q3]
theorem DtR.val {k:List Key}:∀{kvs:List (List Key×D)}{xs:List (List Key×V)},DtR K F as xs kvs→(Qe3 kvs k=none∧Qeb xs k=none)∨∃d v,Qe3 kvs k=some d∧Qeb xs k=some v∧Rp K F as v d
 | [],xs,h=>by
  have:=h.len
  cases xs with
  | nil=>exact .inl ⟨rfl,rfl⟩
  | cons=>cases this
 | p::kvs,xs,h=>by
  obtain ⟨v,r,rfl,h1,h2⟩:=h.un
  by_cases e:p.1=k
  ·exact .inr ⟨p.2,v,by simp [Qe3,List.find?_cons,e],Qid e,h1⟩
  ·rw [show Qe3 (p::kvs) k=Qe3 kvs k by simp [Qe3,List.find?_cons,e],QhZ (p:=(p.1,v)) e];exact DtR.val h2
theorem DtR.any {k:List Key}:∀{kvs:List (List Key×D)}{xs:List (List Key×V)},DtR K F as xs kvs→(xs.any fun p=>decide (p.1=k))=kvs.any fun p=>decide (p.1=k)
 | [],xs,h=>by
  have:=h.len
  cases xs with
  | nil=>rfl
  | cons=>cases this
 | p::kvs,xs,h=>by
  obtain ⟨v,r,rfl,h1,h2⟩:=h.un;rw [List.any_cons,List.any_cons,DtR.any h2]
theorem DtR.repl {k:List Key}{v:V}{d:D} (hv:Rp K F as v d):∀{kvs:List (List Key×D)}{xs:List (List Key×V)},DtR K F as xs kvs →
  DtR K F as (xs.map fun p=>if p.1=k then (p.1,v) else p) (kvs.map fun p=>if p.1=k then (p.1,d) else p)
 | [],xs,h=>by
  have:=h.len
  cases xs with
  | nil=>exact ⟨rfl,Rps.nil⟩
  | cons=>cases this
 | p::kvs,xs,h=>by
  obtain ⟨u,r,rfl,h1,h2⟩:=h.un;obtain ⟨i1,i2⟩:=DtR.repl (k:=k) hv h2
  by_cases e:p.1=k
  ·rw [zf,zf,if_pos e,if_pos e];exact ⟨by rw [zf,zf,i1],Rps.cons hv i2⟩
  ·rw [zf,zf,if_neg e,if_neg e];exact ⟨by rw [zf,zf,i1],Rps.cons h1 i2⟩
theorem DtR.put {xs:List (List Key×V)}{kvs:List (List Key×D)} (h:DtR K F as xs kvs) (k:List Key) {v:V}{d:D} (hv:Rp K F as v d):DtR K F as (putK xs k v) (QjQ kvs k d):=by
 unfold putK QjQ;rw [h.any]
 split
 ·exact h.repl hv
 ·exact ⟨by rw [zM,zM,h.1]; rfl,by rw [zM,zM]; exact Rps.snoc h.2 hv⟩
theorem DtR.mono {xs:List (List Key×V)}{kvs:List (List Key×D)} (h:DtR K F as xs kvs) (e:Same F F') (ea:∀(n:Nat) (a:Addr),as[n]? = some a→as'[n]? = some a):DtR K F' as' xs kvs:=⟨h.1,Rps.mono e ea _ h.2⟩
theorem RlO.dt {n:Nat}{a:Addr}{kvs:List (List Key×D)} (r:RlO K mg O H F as) (hn:as[n]? = some a) (hO:O[n]? = some (.dt kvs)):∃xs,H a=some (.dT xs)∧DtR K F as xs kvs:=let ⟨xs,h1,h2,h3⟩:=r.ob n a _ hn hO; ⟨xs,h1,h2,h3⟩
theorem RlO.snocO {a:Addr}{o:Ob} (r:RlO K mg O H F as) (hF:F a=none) (ha:a∉as) (ho:ObR K mg H F (as ++ [a]) a o):RlO K mg (O ++ [o]) H F (as ++ [a]):=by
 refine ⟨r.fh,r.fd,jq.mpr ⟨r.nd,by simp,fun c hc d hd=>by rw [zy.mp hd]; exact fun z=>ha (z ▸ hc)⟩,by rw [zn,zn,r.len]; rfl,fun c hc=>?_,fun n c u hc hu=>?_⟩
 ·rcases zJ.mp hc with hc | hc
  ·exact r.fa c hc
  ·rw [zy.mp hc]; exact hF
 ·by_cases hn:n < as.length
  ·rw [zB hn] at hc;rw [zB (by rw [←r.len]; exact hn)] at hu;exact (r.ob n c u hc hu).keep rfl (Same.refl F) Qt6
  ·have hn':n=as.length:=by
    have:=(zk.mp hc).1
    rw [zn,zS] at this;omega
   subst hn';rw [zL (ze _),Nat.sub_self] at hc;rw [r.len,zL (ze _),Nat.sub_self] at hu;cases hc;cases hu;exact ho
theorem RlO.mutG {n:Nat}{a:Addr}{o:Ob}{h:HO} (r:RlO K mg O H F as) (hn:as[n]? = some a) (hx:ObR K mg (upd H a h) F as a o):RlO K mg (O.set n o) (upd H a h) F as:=by
 have ha:=zQ hn;refine ⟨fun c u e=>?_,r.fd,r.nd,by rw [jj]; exact r.len,r.fa,fun m c u hc hu=>?_⟩
 ·rw [Qar (fun z=>by rw [z,r.fa a ha] at e; cases e)]; exact r.fh c u e
 ·by_cases hm:m=n
  ·subst hm;rw [hn] at hc;cases hc
   have hlt:m < O.length:=by rw [←r.len]; exact (zk.mp hn).1
   rw [zT hlt] at hu;cases hu;exact hx
  ·rw [zu (Ne.symm hm)] at hu
   refine (r.ob m c u hc hu).keep (Qar fun z=>hm ?_) (Same.refl F) fun _ _ h=>h
   obtain ⟨q0,q1⟩:=zk.mp hc;obtain ⟨p0,p1⟩:=zk.mp hn;exact (List.getElem_inj r.nd).mp (q1.trans (z.trans p1.symm))
theorem RlO.unF {p:Addr} (r:RlO K mg O H F as) (hp:H p=none):F p=none:=by
 cases e:F p with
 | none=>rfl
 | some o=>rw [r.fh p o e] at hp; cases hp
theorem Gr.snoc {p:Addr}{o:HO} (hp:H p=none):Gr H F as (upd H p o) F (as ++ [p]) :=
 ⟨fun _ _ _ _ _=>rfl,Same.refl F,⟨[p],rfl,fun a h=>by rw [zy.mp h]; exact hp⟩,fun a u e _ _=>by rw [Qar (QaC e hp)]; exact e,fun a e=>by
  by_cases h:a=p
  ·subst h; exact hp
  ·rwa [Qar h] at e,fun a o' u e=>by rw [Qar (QaC e hp)]; exact e⟩
end
section
variable {X:Cx}{md:List Md}{P:Pt}{R:RR}
def QiJ:M D:=fun _ O=>.ok (.ob O.length) (O ++ [.dt []])
theorem Qmg {pos:Pos}:VE X md P (.Dict [] [] pos) QiJ:=QqK.imp fun σ H Q q p hp=>by
 obtain ⟨ρ,O,F,as,d,O',r,s,e,k⟩:=q;cases e;refine k _ _ F (as ++ [p]) (Gr.snoc hp) ((r.lay hp).snocO (r.unF hp) (fun z=>r.all z hp) ⟨[],QaG,rfl,Rps.nil⟩) (Rp.mkO ?_);rw [←r.len,zL (ze _),Nat.sub_self];rfl
def QcN (mo my mv:M D):MS:=fun ρ O=>match mv ρ O with
 | .ok d O1=>match mo ρ O1 with
  | .ok (.ob n) O2=>match my ρ O2 with
   | .ok y O3=>match Qmr y,O3[n]? with
    | some k,some (.dt kvs)=>if kvs.length < 1000000 then .nx ρ (O3.set n (.dt (QjQ kvs k d))) else .no
    | _,_=>.no
   | _=>.no
  | _=>.no
 | _=>.no
theorem QkP {kk:Nat} (hk:Qa6 X.K=true) (hr:Qa1 kk X.A) {o i value:Expr}{pos pos':Pos}{mo my mv:M D} (ho:VE X md P o mo) (hi:VE X md P i my) (hv:VE X md P value mv)
  (hs:swapsWith value (some (.Subscript o i pos')) pos.line X.env=pure false:=by rfl):VS X md P R (.Assign [.Subscript o i pos'] value pos) (QcN mo my mv) :=
 (Qsz (Qog hr) ho hi hv hs).imp fun D σ H q=>by
  obtain ⟨ρ,O,F,as,r,s,k⟩:=q;unfold QcN at k;split at k
  ·rename_i d O1 e1;split at k
   ·rename_i n O2 e2;split at k
    ·rename_i y O3 e3;split at k
     ·rename_i ks kvs e4 e5;split at k
      ·rename_i hz;refine ⟨ρ,O,F,as,_,_,r,s,e1,fun v H1 F1 as1 g1 r1 hv=>⟨ρ,O1,F1,as1,_,_,r1,s.step g1,e2,fun x H2 F2 as2 g2 r2 hx=>⟨ρ,O2,F2,as2,_,_,r2,s.step (g1.trans g2),e3,fun u H3 F3 as3 g3 r3 hu=>?_⟩⟩⟩;obtain ⟨a,rfl,ha⟩:=Rp.unO hx;have ha3:=g3.at_ n a ha;obtain ⟨xs,x1,x2⟩:=r3.dt ha3 e5;obtain ⟨b,rfl,hb⟩:=Rp.tkey hk hu e4;have hv3:=(show Rp X.K F1 as1 v d from hv).gr (g2.trans g3)
       have hl:xs.length < sizeLine:=by rw [x2.len]; exact zE hz (by decide)
       have g4:Gr H3 F3 as3 (upd H3 a (.dT (putK xs ks v))) F3 as3:=Qoc (zQ ha3) x1;have gg:=((g1.trans g2).trans g3).trans g4;obtain ⟨z1,z2⟩:=x2.put ks hv3;exact ⟨a,_,rfl,Qju.t x1 (r3.fh _ _ hb) hl,k σ _ F3 as3 gg.toS (r3.mutG ha3 ⟨_,QaG,z1,z2⟩) (s.step gg)⟩
      ·exact False.elim k
     ·exact False.elim k
    ·exact False.elim k
   ·exact False.elim k
  ·exact False.elim k
end
section
variable {X:Cx}
open Classical in
noncomputable def eqR (s:Shared) (x:PyData) (u:Value):Bool:=decide (∃d as,Reads s.heap u d as∧d.canLay0=true∧PyData.eqv d x=true)
open Classical in
theorem Qyv {s:Shared}{x d:PyData}{u:Value}{as:List Addr} (h:Reads s.heap u d as) (hd:d.canLay0=true):eqR s x u=PyData.eqv d x:=by
 unfold eqR
 cases e:PyData.eqv d x with
 | true=>exact zq ⟨d,as,h,hd,e⟩
 | false =>
  refine zh fun ⟨d',as',h',hd',e'⟩=>?_
  rw [←SeqAt.Reads.unique d d' u as as' hd h h',e] at e';cases e'
end
section
variable {X:Cx}{md:List Md}{P:Pt}{R:RR}
end
section
variable {K:Frag}{mg:Str→Option Value}{O:Qac}{H F:Hp}{as:List Addr}
end
section
variable {X:Cx}{md:List Md}{P:Pt}{R:RR}
end
section
variable {X:Cx}{md:List Md}{P:Pt}{R:RR}
end
end L2
namespace L2
open PySem PySem.Spec PyProof.Rows PySem.W PySem.Calls
section
variable {prog:Program}{w:World}{A:Around}{E:Value→Shared→Prop}{s:Shared}{a:Addr}{vs out:List Value}{p:Array Nat}
end
section
variable {X:Cx}
theorem Rps.getD {K:Frag}{F:Hp}{as:List Addr}{ds:List D}{xs:List V} (h:Rps K F as xs ds) (i:Nat):Rp K F as (xs.getD i V.non) (ds.getD i .non):=by
 rw [jf,jf]
 cases e:ds[i]? with
 | none =>
  have:xs[i]? = none:=by
   rw [List.getElem?_eq_none_iff] at e ⊢;rw [h.length];exact e
  rw [this];exact Rp.non
 | some d =>
  obtain ⟨v,hv,r⟩:=h.get' e;rw [hv];exact r
end
structure Qu9 (mg:Str→Option Value):Prop extends Blt mg where
 sorted_:mg "sorted" = none
end L2
namespace L2
open PySem PySem.Spec PyProof.Rows
abbrev Qdp (h:Heap) (z TI TO T:Addr) (b:Bool):Prop :=
 h.get? z=some { cls:=.type "zip",dict:=none,data:=.fields #[rawInt T,.bool b,.bool false,.ref TI,.ref TO],slots:=#[] }
section
variable {prog:Program}{w:World}{A:Around}{E:Value→Shared→Prop}{s:Shared}
theorem Qnu {a:Addr}{o:Obj}{Q:Option Obj→Shared→Prop} (h:s.heap.get? a=some o) (hQ:Q (some o) s):wpAny (model prog w) A (loadIfAlive a) Q E s:=by
 have:wpAny (model prog w) A (loadIfAlive a) Q E s↔wpAny (model prog w) A (pure (s.heap.get? a)) Q E s:=by
  unfold loadIfAlive wpAny;simp [Sem.wp_loadIfAlive]
 rw [this,h];exact zc hQ
theorem Qla {z TI TO T:Addr}{b:Bool}{o:Obj}{Q:Bool→Shared→Prop} (hz:Qdp s.heap z TI TO T b) (hT:s.heap.get? T=some o)
  (hQ:∀h',Qdp h' z TI TO T true→Heap.SameBut z s.heap h'→Q false { s with heap:=h' }):wpAny (model prog w) A (Builtin.SmallTypes.ownedTupleIsFree (.ref z)) Q E s:=by
 unfold Builtin.SmallTypes.ownedTupleIsFree;refine za (wpAny_field hz rfl (x:=rawInt T) rfl ?_);show wpAny _ _ (loadIfAlive ((T:Int).toNat) >>= _) _ _ _;rw [Int.toNat_natCast];refine za (Qnu hT ?_);show wpAny _ _ (field (.ref z) 1 >>= _) _ _ _;refine za (wpAny_field hz rfl (x:=.bool b) rfl ?_)
 cases b with
 | true =>
  exact zc (hQ s.heap hz (Heap.SameBut.refl _ _))
 | false =>
  exact za (wpAny_setField_rec hz (by simp) fun h1 hz1 hs1=>zc (hQ h1 hz1 hs1))
theorem Qpw {z TI TO T i1 i2 l1 l2:Addr}{o:Obj}{b:Bool}{k1 k2:Nat}{xs ys:Array Value}{x y:Value}{Q:Value→Shared→Prop} (D:ZipApart z TI TO i1 i2 l1 l2)
  (hz:Qdp s.heap z TI TO T b) (hT:s.heap.get? T=some o) (hTI:IsPair s.heap TI (.ref i1) (.ref i2))
  (h1:s.heap.IsListIter i1 l1 k1) (h2:s.heap.IsListIter i2 l2 k2) (hl1:s.heap.IsList l1 xs) (hl2:s.heap.IsList l2 ys) (hx:xs[k1]? = some x) (hy:ys[k2]? = some y)
  (hQ:∀h',Qdp h' z TI TO T true→h'.IsListIter i1 l1 (k1+1)→h'.IsListIter i2 l2 (k2+1)→IsPair h' s.heap.objs.size x y→h'.objs.size=s.heap.objs.size+1 →
   (∀c o,c≠z→c≠i1→c≠i2→s.heap.get? c=some o→h'.get? c=some o)→Q (.ref s.heap.objs.size) { s with heap:=h' }) :
  wpAny (model prog w) A (Builtin.«zip.__next__» ⟨[.ref z],[]⟩) (fun fin s'=>∃v,fin = .done (.ret v)∧Q v s') E s:=by
 show wpAny _ _ (field (.ref z) 2 >>= _) _ _ _;refine za (wpAny_field hz rfl (x:=.bool false) rfl ?_);show wpAny _ _ (field (.ref z) 3 >>= _) _ _ _;refine za (wpAny_field hz rfl (x:=.ref TI) rfl ?_);refine za (wpAny_seqItems hTI rfl ?_);show wpAny _ _ (Builtin.SmallTypes.ownedTupleIsFree (.ref z) >>= _) _ _ _;refine za (Qla hz hT fun h₁ hz₁ hs₁=>?_);simp only [Bool.false_eq_true,if_false];refine za ?_;simp only [←Array.forIn_toList,List.forIn_cons,List.forIn_nil];refine za (za (zR ?_));show wpAny _ _ (Builtin.SmallTypes.nextOf (.ref i1) >>= _) _ _ _;refine za (wpAny_nextOf_list_item (h1.extBut hs₁.extBut D.i1z) (hl1.extBut hs₁.extBut D.l1z) hx fun h₂ h1₂ hs₂=>zc (zc ?_))
 dsimp only;refine za (za (zR ?_));show wpAny _ _ (Builtin.SmallTypes.nextOf (.ref i2) >>= _) _ _ _;refine za (wpAny_nextOf_list_item ((h2.extBut hs₁.extBut D.i2z).extBut hs₂.extBut D.i12.symm) ((hl2.extBut hs₁.extBut D.l2z).extBut hs₂.extBut D.l2i1) hy fun h₃ h2₃ hs₃=>zc (zc ?_));dsimp only;refine zc ?_;refine za (wpAny_newTuple ?_ (by show 2≤sizeLine; decide))
 have hsz:h₃.objs.size=s.heap.objs.size:=by rw [hs₃.1,hs₂.1,hs₁.1]
 have hz₃:Qdp h₃ z TI TO T true:=hs₃.extBut _ _ D.i2z.symm (hs₂.extBut _ _ D.i1z.symm hz₁);refine zc ⟨_,rfl,?_⟩;show Q (.ref h₃.objs.size) _;rw [hsz];have fin:=hQ (h₃.push { cls:=.type "tuple",data:=.seq #[x,y] }) (zl _ hz₃) ((h1₂.extBut hs₃.extBut D.i12).at fun o e=>zl _ e) (h2₃.at fun o e=>zl _ e)
  (by rw [←hsz]; exact zA _ rfl) (by rw [Heap.size_push,hsz]) fun c o c1 c2 c3 e=>zl _ (hs₃.extBut _ _ c3 (hs₂.extBut _ _ c2 (hs₁.extBut _ _ c1 e)))
 exact fin
theorem QqQ {z TI TO T i1 i2 l1 l2:Addr}{o:Obj}{b:Bool}{k1 k2:Nat}{xs ys:Array Value}{Q:PySem.Fin→Shared→Prop} (hh:A.handled=none) (D:ZipApart z TI TO i1 i2 l1 l2)
  (hz:Qdp s.heap z TI TO T b) (hT:s.heap.get? T=some o) (hTI:IsPair s.heap TI (.ref i1) (.ref i2))
  (h1:s.heap.IsListIter i1 l1 k1) (h2:s.heap.IsListIter i2 l2 k2) (hl1:s.heap.IsList l1 xs) (hl2:s.heap.IsList l2 ys) (hend:xs[k1]? = none∨ys[k2]? = none)
  (hE:∀h' e,(∀c o,c≠z→c≠i1→c≠i2→s.heap.get? c=some o→h'.get? c=some o)→(∃o,h'.get? e=some o∧o.cls = .type "StopIteration")→E (.ref e) { s with heap:=h' }) :
  wpAny (model prog w) A (Builtin.«zip.__next__» ⟨[.ref z],[]⟩) Q E s:=by
 show wpAny _ _ (field (.ref z) 2 >>= _) _ _ _;refine za (wpAny_field hz rfl (x:=.bool false) rfl ?_);show wpAny _ _ (field (.ref z) 3 >>= _) _ _ _;refine za (wpAny_field hz rfl (x:=.ref TI) rfl ?_);refine za (wpAny_seqItems hTI rfl ?_);show wpAny _ _ (Builtin.SmallTypes.ownedTupleIsFree (.ref z) >>= _) _ _ _;refine za (Qla hz hT fun h₁ hz₁ hs₁=>?_);simp only [Bool.false_eq_true,if_false];refine za ?_;simp only [←Array.forIn_toList,List.forIn_cons,List.forIn_nil];refine za (za (zR ?_));show wpAny _ _ (Builtin.SmallTypes.nextOf (.ref i1) >>= _) _ _ _
 cases hx:xs[k1]? with
 | none =>
  refine za (wpAny_nextOf_list_end hh (h1.extBut hs₁.extBut D.i1z) (hl1.extBut hs₁.extBut D.l1z) hx fun h₂ e hs₂ he=>?_);exact hE h₂ e (fun c o c1 c2 c3 x=>hs₂ _ _ c2 (hs₁.extBut _ _ c1 x)) he
 | some x =>
  have hy:ys[k2]? = none:=by rcases hend with h | h; rw [hx] at h; cases h; exact h
  refine za (wpAny_nextOf_list_item (h1.extBut hs₁.extBut D.i1z) (hl1.extBut hs₁.extBut D.l1z) hx fun h₂ h1₂ hs₂=>zc (zc ?_));dsimp only;refine za (za (zR ?_));show wpAny _ _ (Builtin.SmallTypes.nextOf (.ref i2) >>= _) _ _ _;refine za (wpAny_nextOf_list_end hh ((h2.extBut hs₁.extBut D.i2z).extBut hs₂.extBut D.i12.symm) ((hl2.extBut hs₁.extBut D.l2z).extBut hs₂.extBut D.l2i1) hy fun h₃ e hs₃ he=>?_);exact hE h₃ e (fun c o c1 c2 c3 x=>hs₃ _ _ c3 (hs₂.extBut _ _ c2 (hs₁.extBut _ _ c1 x))) he
theorem QoN {z TI TO T i1 i2 l1 l2:Addr}{o:Obj}{b:Bool}{k1 k2:Nat}{xs ys:Array Value}{x y:Value}{Q:Option Value→Shared→Prop} (D:ZipApart z TI TO i1 i2 l1 l2)
  (hz:Qdp s.heap z TI TO T b) (hT:s.heap.get? T=some o) (hTI:IsPair s.heap TI (.ref i1) (.ref i2))
  (h1:s.heap.IsListIter i1 l1 k1) (h2:s.heap.IsListIter i2 l2 k2) (hl1:s.heap.IsList l1 xs) (hl2:s.heap.IsList l2 ys) (hx:xs[k1]? = some x) (hy:ys[k2]? = some y)
  (hQ:∀h',Qdp h' z TI TO T true→h'.IsListIter i1 l1 (k1+1)→h'.IsListIter i2 l2 (k2+1)→IsPair h' s.heap.objs.size x y→h'.objs.size=s.heap.objs.size+1 →
   (∀c o,c≠z→c≠i1→c≠i2→s.heap.get? c=some o→h'.get? c=some o)→Q (some (.ref s.heap.objs.size)) { s with heap:=h' }) :
  wpAny (model prog w) A (pyNext (.ref z)) Q E s:=by
 have hTy:s.TypeIs (.ref z) "zip":=⟨_,hz,rfl⟩;unfold pyNext
 exact za (wpAny_attempt (wpAny_callSpecial?_slot (name:=Str.ofString "__next__") hTy F.slot_zip_next
  (wpAny_call_entry F.slot_zip_next hTy F.entry_zip_next
   (Qpw D hz hT hTI h1 h2 hl1 hl2 hx hy fun h' a1 a3 a4 a5 a6 a7=>zc (hQ h' a1 a3 a4 a5 a6 a7)) (F.args_zip_next_1 _))))
theorem Qqt {z TI TO T i1 i2 l1 l2:Addr}{o:Obj}{b:Bool}{k1 k2:Nat}{xs ys:Array Value}{Q:Option Value→Shared→Prop} (hh:A.handled=none) (D:ZipApart z TI TO i1 i2 l1 l2)
  (hz:Qdp s.heap z TI TO T b) (hT:s.heap.get? T=some o) (hTI:IsPair s.heap TI (.ref i1) (.ref i2))
  (h1:s.heap.IsListIter i1 l1 k1) (h2:s.heap.IsListIter i2 l2 k2) (hl1:s.heap.IsList l1 xs) (hl2:s.heap.IsList l2 ys) (hend:xs[k1]? = none∨ys[k2]? = none)
  (hQ:∀h',(∀c o,c≠z→c≠i1→c≠i2→s.heap.get? c=some o→h'.get? c=some o)→Q none { s with heap:=h' }):wpAny (model prog w) A (pyNext (.ref z)) Q E s:=by
 have hTy:s.TypeIs (.ref z) "zip":=⟨_,hz,rfl⟩;unfold pyNext
 refine za (wpAny_attempt (wpAny_callSpecial?_slot (name:=Str.ofString "__next__") hTy F.slot_zip_next
  (wpAny_call_entry F.slot_zip_next hTy F.entry_zip_next (QqQ hh D hz hT hTI h1 h2 hl1 hl2 hend fun h' e hk he=>?_) (F.args_zip_next_1 _))))
 obtain ⟨o',ho',hc⟩:=he;refine za (wpAny_isInstance (T:="StopIteration") (b:=true) ⟨o',ho',hc⟩ isSubtype_stop ?_);exact zc (hQ _ hk)
structure ZS (base:Nat) (h:Heap) (z TI TO i1 i2 l1 l2 S:Addr) (xs ys acc:Array Value) (c i:Nat):Prop where
 zi:(IsZip h z TI TO .none∧∃a b,IsPair h TO a b)∨∃T b o,Qdp h z TI TO T b∧h.get? T=some o∧T∉[z,TO,i1,i2,S]
 ti:IsPair h TI (.ref i1) (.ref i2)
 it1:h.IsListIter i1 l1 i
 it2:h.IsListIter i2 l2 i
 a1:h.IsList l1 xs
 a2:h.IsList l2 ys
 ls:h.get? S=some { cls:=.type "list",dict:=none,data:=.seq acc c,slots:=#[] }
 sz:acc.size=i
 tl:TO < h.objs.size
 nd:acc.toList.Nodup
 ts:∀(j:Nat) (v:Value),acc[j]? = some v→∃(T:Addr) (x y:Value),v=Value.ref T∧xs[j]? = some x∧ys[j]? = some y∧IsPair h T x y∧T∉[z,TO,i1,i2,S]∧base≤T
variable {R:PySem.Result→Shared→Prop}
theorem QrM {z TI TO i1 i2 l1 l2 S:Addr}{xs ys:Array Value}{n base:Nat} (hh:A.handled=none) (D:ZipApart z TI TO i1 i2 l1 l2) (hS:S∉[z,TI,TO,i1,i2,l1,l2]) (res:Value) (hn:n≤sizeLine) (hn1:n≤xs.size) (hn2:n≤ys.size) (hne:n=xs.size∨n=ys.size) :
  ∀(k i:Nat) (s:Shared) (acc:Array Value) (c:Nat),n - i=k→i≤n→ZS base s.heap z TI TO i1 i2 l1 l2 S xs ys acc c i→base≤s.heap.objs.size →
  (∀(h':Heap) (acc':Array Value) (c':Nat),(∀b o,b∉[z,TO,i1,i2,S]→s.heap.get? b=some o→h'.get? b=some o)→h'.get? S=some { cls:=.type "list",dict:=none,data:=.seq acc' c',slots:=#[] }→acc'.size=n→acc'.toList.Nodup →
   (∀(j:Nat) (v:Value),acc'[j]? = some v→∃(T:Addr) (x y:Value),v=Value.ref T∧xs[j]? = some x∧ys[j]? = some y∧IsPair h' T x y∧T∉[z,TO,i1,i2,S]∧base≤T)→R (.ok (.ret res)) { s with heap:=h' }) →
  codeAny (model prog w) A (.builtin "list.extend.loop" ⟨[.ref S,.ref z,res],[]⟩) R s:=by
 simp only [zt,List.not_mem_nil,or_false,not_or] at hS;obtain ⟨S1,S2,S3,S4,S5,S6,S7⟩:=hS
 have nin:∀b:Addr,b∉[z,TO,i1,i2,S]↔b≠z∧b≠TO∧b≠i1∧b≠i2∧b≠S:=fun b=>by simp only [zt,List.not_mem_nil,or_false,not_or]
 intro k
 induction k with
 | zero =>
  intro i s acc c hk hi st hb hR
  have hin:i=n:=by omega
  subst hin;refine jh F.entry_extend_loop ?_;rw [Around.under_plainId F.plain_extend_loop _];show wpAny _ A.in1 (pyNext (.ref z) >>= _) _ _ s
  have hend:xs[i]? = none∨ys[i]? = none:=by
   rcases hne with e | e
   ·left; rw [Array.getElem?_eq_none_iff]; omega
   ·right; rw [Array.getElem?_eq_none_iff]; omega
  have fin:∀h',(∀b o,b≠z→b≠TO→b≠i1→b≠i2→s.heap.get? b=some o→h'.get? b=some o)→R (.ok (.ret res)) { s with heap:=h' }:=fun h' kp =>
   hR h' acc c (fun b o hb e=>by obtain ⟨b1,b2,b3,b4,b5⟩:=(nin b).mp hb; exact kp b o b1 b2 b3 b4 e) (kp S _ S1 S3 S4 S5 st.ls) st.sz st.nd fun j v hv=>by
    obtain ⟨T,x,y,e1,e2,e3,e4,e5,e6⟩:=st.ts j v hv;obtain ⟨b1,b2,b3,b4,b5⟩:=(nin T).mp e5;exact ⟨T,x,y,e1,e2,e3,kp T _ b1 b2 b3 b4 e4,e5,e6⟩
  rcases st.zi with ⟨hz,a,b,hTO⟩ | ⟨T,b,o,hz,hT,_⟩
  ·exact za (wpAny_pyNext_zip_end hh D hz st.ti hTO st.it1 st.it2 st.a1 st.a2 hend fun h' kp=>zc (fin h' kp))
  ·exact za (Qqt hh D hz hT st.ti st.it1 st.it2 st.a1 st.a2 hend fun h' kp=>zc (fin h' fun b o b1 b2 b3 b4 e=>kp b o b1 b3 b4 e))
 | succ k ih =>
  intro i s acc c hk hi st hb hR
  have hlt:i < n:=by omega
  have hx:xs[i]? = some (xs[i]'(by omega)):=Array.getElem?_eq_getElem _;have hy:ys[i]? = some (ys[i]'(by omega)):=Array.getElem?_eq_getElem _
  generalize xs[i]'(by omega)=x at hx
  generalize ys[i]'(by omega)=y at hy
  refine jh F.entry_extend_loop ?_;rw [Around.under_plainId F.plain_extend_loop _];show wpAny _ A.in1 (pyNext (.ref z) >>= _) _ _ s
  have ltz:z < s.heap.objs.size:=by rcases st.zi with ⟨hz,_⟩ | ⟨T,b,o,hz,_⟩ <;> exact zg hz
  have ltS:S < s.heap.objs.size:=zg st.ls
  have lt1:i1 < s.heap.objs.size:=by obtain ⟨_,e,_⟩:=st.it1; exact zg e
  have lt2:i2 < s.heap.objs.size:=by obtain ⟨_,e,_⟩:=st.it2; exact zg e
  have nxt:wpAny (model prog w) A.in1 (pyNext (.ref z)) (fun r s1=>∃h',r=some (.ref s.heap.objs.size)∧s1 = { s with heap:=h' }∧(∃T b o,Qdp h' z TI TO T b∧h'.get? T=some o∧(T=s.heap.objs.size∨T∉[z,TO,i1,i2,S]))∧h'.IsListIter i1 l1 (i+1)∧h'.IsListIter i2 l2 (i+1)∧IsPair h' s.heap.objs.size x y∧h'.objs.size=s.heap.objs.size+1 ∧
    ∀c o,c≠z→c≠TO→c≠i1→c≠i2→s.heap.get? c=some o→h'.get? c=some o) (fun _ _=>False) s:=by
   rcases st.zi with ⟨hz,a,b,hTO⟩ | ⟨T,b,o,hz,hT,hTn⟩
   ·exact wpAny_pyNext_zip_item D hz st.ti hTO st.it1 st.it2 st.a1 st.a2 hx hy fun h' q1 q2 q3 q4 q5 q6 q7=>⟨h',rfl,rfl,⟨_,false,_,q1,q5,.inl rfl⟩,q3,q4,q5,q6,q7⟩
   ·obtain ⟨n1,n2,n3,n4,n5⟩:=(nin T).mp hTn
    exact QoN D hz hT st.ti st.it1 st.it2 st.a1 st.a2 hx hy fun h' q1 q3 q4 q5 q6 q7=>⟨h',rfl,rfl,⟨T,true,o,q1,q7 T o n1 n3 n4 hT,.inr hTn⟩,q3,q4,q5,q6,fun c o c1 c2 c3 c4 e=>q7 c o c1 c3 c4 e⟩
  have ltO:TO≠s.heap.objs.size:=zv st.tl;have hnew:s.heap.objs.size∉[z,TO,i1,i2,S]:=(nin _).mpr ⟨Nat.ne_of_gt ltz,ltO.symm,Nat.ne_of_gt lt1,Nat.ne_of_gt lt2,Nat.ne_of_gt ltS⟩;refine za (zN nxt ?_ fun _ _ x=>x.elim);rintro r s1 ⟨h',rfl,rfl,⟨T,b,o,hz',hT',hTn'⟩,j1,j2,hp,hsz,kp⟩;have hS':=kp S _ S1 S3 S4 S5 st.ls
  have oth:∀c o,c≠S→h'.get? c=some o→(h'.update S (Obj.mapSeq (·.push (Value.ref s.heap.objs.size)))).get? c=some o:=fun c o hc e=>(ji _ _ (Ne.symm hc)).trans e
  have hTn2:T∉[z,TO,i1,i2,S]:=by
   rcases hTn' with e | e
   ·rw [e]; exact hnew
   ·exact e
  have hnd:(acc.push (Value.ref s.heap.objs.size)).toList.Nodup:=by
   rw [Array.toList_push,jq];refine ⟨st.nd,by simp,fun v hv w hw=>?_⟩;rw [zy.mp hw];rintro rfl;obtain ⟨j,hj⟩:=List.mem_iff_getElem?.mp hv;obtain ⟨T2,x2,y2,f1,_,_,f4,_⟩:=st.ts j _ (by simpa using hj);cases f1;exact zV _ (zg f4)
  show wpAny _ A.in1 (updateSeq S (·.push (.ref s.heap.objs.size)) >>= _) _ _ _;refine za ?_
  refine je hS' rfl (zc ⟨plainId_quiet F.plain_extend_loop _,ih (i+1) _ (acc.push (.ref s.heap.objs.size)) _ (by omega) hlt ⟨.inr ⟨T,b,o,oth z _ (Ne.symm S1) hz',oth T _ ((nin T).mp hTn2).2.2.2.2 hT',hTn2⟩,
   oth TI _ (Ne.symm S2) (kp TI _ D.TIz D.TITO D.TIi1 D.TIi2 st.ti),j1.at fun o e=>oth i1 o (Ne.symm S4) e,j2.at fun o e=>oth i2 o (Ne.symm S5) e,
   st.a1.at fun o e=>oth l1 o (Ne.symm S6) (kp l1 o D.l1z D.l1TO D.l1i1 D.l1i2 e),st.a2.at fun o e=>oth l2 o (Ne.symm S7) (kp l2 o D.l2z D.l2TO D.l2i1 D.l2i2 e),Heap.get?_update_self _ hS' rfl,by rw [Array.size_push,st.sz],by rw [Heap.size_update,hsz]; exact jg st.tl,hnd,fun j v hv=>?_⟩ ?_ fun h2 acc' c' kp2 e1 e2 en e3=>?_⟩)
   (by rw [st.sz]; omega) (by show (acc.push _).size≤sizeLine+1; rw [Array.size_push,st.sz]; omega)
  ·rw [Array.getElem?_push] at hv;split at hv
   ·rename_i e;rw [st.sz] at e;cases hv;subst e;exact ⟨_,x,y,rfl,hx,hy,oth _ _ (Nat.ne_of_gt ltS) hp,hnew,hb⟩
   ·obtain ⟨T2,x2,y2,f1,f2,f3,f4,f5,f6⟩:=st.ts j v hv;obtain ⟨n1,n2,n3,n4,n5⟩:=(nin T2).mp f5;exact ⟨T2,x2,y2,f1,f2,f3,oth T2 _ n5 (kp T2 _ n1 n2 n3 n4 f4),f5,f6⟩
  ·rw [Heap.size_update,hsz]; omega
  ·refine hR h2 acc' c' (fun b o hb' e=>kp2 b o hb' ?_) e1 e2 en e3;obtain ⟨n1,n2,n3,n4,n5⟩:=(nin b).mp hb';exact oth b o n5 (kp b o n1 n2 n3 n4 e)
theorem Qo6:typeLookup (.type "zip") "__len__" = pure none:=by rw [typeLookup_type,builtinLookup_eq_fast]; kernel_rfl
theorem Qnl:typeLookup (.type "zip") "__length_hint__" = pure none:=by rw [typeLookup_type,builtinLookup_eq_fast]; kernel_rfl
theorem QsY {z TI TO i1 i2 l1 l2 S:Addr}{xs ys:Array Value}{n base:Nat} (hh:A.handled=none) (D:ZipApart z TI TO i1 i2 l1 l2) (hSn:S∉[z,TI,TO,i1,i2,l1,l2]) (res:Value) (hn:n≤sizeLine) (hn1:n≤xs.size) (hn2:n≤ys.size) (hne:n=xs.size∨n=ys.size) (c₀:Nat) (hb:base≤s.heap.objs.size)
  (hz:IsZip s.heap z TI TO .none) (st:ZS base s.heap z TI TO i1 i2 l1 l2 S xs ys #[] c₀ 0)
  (hR:∀(h':Heap) (acc':Array Value) (c':Nat),(∀b o,b∉[z,TO,i1,i2,S]→s.heap.get? b=some o→h'.get? b=some o)→h'.get? S=some { cls:=.type "list",dict:=none,data:=.seq acc' c',slots:=#[] }→acc'.size=n→acc'.toList.Nodup →
   (∀(j:Nat) (v:Value),acc'[j]? = some v→∃(T:Addr) (x y:Value),v=Value.ref T∧xs[j]? = some x∧ys[j]? = some y∧IsPair h' T x y∧T∉[z,TO,i1,i2,S]∧base≤T)→R (.ok (.ret res)) { s with heap:=h' }) :
  wpAny (model prog w) A.in1 (Builtin.List.listExtendWith (.ref S) (.ref z) res)
   (fun fin s'=>match fin with | .done f=>R (.ok f) s' | .again c'=>c'.quiet=true∧codeAny (model prog w) A c' R s') (fun e s'=>R (.error e) s') s:=by
 have hSn':=hSn;simp only [zt,List.not_mem_nil,or_false,not_or] at hSn';obtain ⟨S1,S2,S3,S4,S5,S6,S7⟩:=hSn';have hTy:s.TypeIs (.ref z) "zip":=⟨_,hz,rfl⟩;unfold Builtin.List.listExtendWith;refine za (wpAny_typeOf hTy ?_)
 have h1:Builtin.List.listSameRef (.ref S) (.ref z)=false:=by simp [Builtin.List.listSameRef,S1]
 have h2:(Value.type "zip" == Value.type "list")=false:=by decide
 have h3:(Value.type "zip" == Value.type "tuple")=false:=by decide
 simp only [h1,h2,h3,Bool.or_false,Bool.false_eq_true,if_false];refine za (wpAny_pyIter_zip hz ?_);refine za (zR ?_);unfold Builtin.List.listLengthHint;refine za (wpAny_specialOf hTy Qo6 ?_);show wpAny _ A.in1 (specialOf (Value.ref z) (Str.ofString "__length_hint__") >>= _) _ _ _;refine za (wpAny_specialOf hTy Qnl ?_);refine zc ?_
 show wpAny _ A.in1 (rule "list.extend.makes-room" >>= fun _=>Builtin.List.listTouch (.ref S) >>= fun _ =>
  again (.builtin "list.extend.loop" ⟨[.ref S,.ref z,res],[]⟩)) _ _ _
 refine za (jd ?_);refine za ?_;show wpAny _ A.in1 (updateSeq S (·.push .none) >>= fun _=>updateSeq S (·.pop)) _ _ _;have hS:=st.ls;refine za (je hS rfl ?_);have hS₂:=Heap.get?_update_self (Obj.mapSeq (·.push Value.none)) hS rfl;refine je (hz:=by seq_fits) hS₂ rfl ?_;have hS₃:=Heap.get?_update_self (Obj.mapSeq (·.pop)) hS₂ rfl;have oth:∀b o,b≠S→s.heap.get? b=some o→((s.heap.update S (Obj.mapSeq (·.push Value.none))).update S (Obj.mapSeq (·.pop))).get? b=some o :=
  fun b o hb e=>(ji _ _ (Ne.symm hb)).trans ((ji _ _ (Ne.symm hb)).trans e)
 obtain ⟨a,b',hTO⟩:∃a b,IsPair s.heap TO a b:=by
  rcases st.zi with ⟨_,x⟩ | ⟨T,b,o,hz',_⟩
  ·exact x
  ·have q:=Eq.trans (Eq.symm hz) hz';simp [rawInt] at q
 refine zc ⟨plainId_quiet F.plain_extend_loop _,QrM (base:=base) hh D hSn res hn hn1 hn2 hne n 0 _ _ _ rfl (Nat.zero_le _) ⟨.inl ⟨oth z _ (Ne.symm S1) hz,a,b',oth TO _ (Ne.symm S3) hTO⟩,oth TI _ (Ne.symm S2) st.ti,st.it1.at fun o e=>oth i1 o (Ne.symm S4) e,st.it2.at fun o e=>oth i2 o (Ne.symm S5) e,
  st.a1.at fun o e=>oth l1 o (Ne.symm S6) e,st.a2.at fun o e=>oth l2 o (Ne.symm S7) e,hS₃,rfl,by rw [Heap.size_update,Heap.size_update]; exact st.tl,List.nodup_nil,fun j v hv=>by simp at hv⟩ (by rw [Heap.size_update,Heap.size_update]; exact hb) fun h' acc' c' kp e1 e2 en e3=>?_⟩
 exact hR h' acc' c' (fun b o hb' e=>kp b o hb' (oth b o (fun z=>hb' (by simp [z])) e)) e1 e2 en e3
theorem Qly {z TI TO i1 i2 l1 l2:Addr}{xs ys:Array Value}{n:Nat}{Q:Value→Shared→Prop} (hh:A.handled=none) (D:ZipApart z TI TO i1 i2 l1 l2) (hn:n≤sizeLine) (hn1:n≤xs.size) (hn2:n≤ys.size) (hne:n=xs.size∨n=ys.size)
  (hz:IsZip s.heap z TI TO .none) (hTI:IsPair s.heap TI (.ref i1) (.ref i2)) {a b:Value} (hTO:IsPair s.heap TO a b) (h1:s.heap.IsListIter i1 l1 0) (h2:s.heap.IsListIter i2 l2 0) (hl1:s.heap.IsList l1 xs) (hl2:s.heap.IsList l2 ys)
  (hQ:∀(h':Heap) (acc':Array Value) (c':Nat),(∀b o,b∉[z,TO,i1,i2]→s.heap.get? b=some o→h'.get? b=some o)→h'.get? s.heap.objs.size=some { cls:=.type "list",dict:=none,data:=.seq acc' c',slots:=#[] }→acc'.size=n→acc'.toList.Nodup →
   (∀(j:Nat) (v:Value),acc'[j]? = some v→∃(T:Addr) (x y:Value),v=Value.ref T∧xs[j]? = some x∧ys[j]? = some y∧IsPair h' T x y∧T≠s.heap.objs.size∧s.heap.objs.size≤T)→Q (.ref s.heap.objs.size) { s with heap:=h' }) :
  wpAny (model prog w) A (call (.type "list") [.ref z]) Q E s:=by
 have ltz:z < s.heap.objs.size:=zg hz;have ltI:TI < s.heap.objs.size:=zg hTI;have ltO:TO < s.heap.objs.size:=zg hTO
 have lt1:i1 < s.heap.objs.size:=by obtain ⟨_,e,_⟩:=h1; exact zg e
 have lt2:i2 < s.heap.objs.size:=by obtain ⟨_,e,_⟩:=h2; exact zg e
 have la1:l1 < s.heap.objs.size:=by obtain ⟨_,e,_⟩:=hl1; exact zg e
 have la2:l2 < s.heap.objs.size:=by obtain ⟨_,e,_⟩:=hl2; exact zg e
 refine callType_codes (Q₁:=fun obj s₁=>obj = .ref s.heap.objs.size∧s₁ = { s with heap:=s.heap.push { cls:=.type "list",data:=.seq #[] } }) F.called_list (F.typeCall_list_1 _) F.entry_list_init
  (code_list_new _ ⟨rfl,rfl⟩) fun obj s₁ h₁=>?_
 obtain ⟨rfl,rfl⟩:=h₁;have hS:(s.heap.push { cls:=.type "list",data:=.seq #[] }).get? s.heap.objs.size=some { cls:=.type "list",data:=.seq #[] }:=zA _ rfl;refine ⟨⟨_,hS,rfl⟩,F.args_list_init_2 _ _,?_⟩;show wpAny _ _ (do let old ←Builtin.List.listItems (.ref s.heap.objs.size); Builtin.List.listUpdate (.ref s.heap.objs.size) (fun _=>#[]); letGo old.toList.reverse; Builtin.List.listExtendWith (.ref s.heap.objs.size) (.ref z) .none) _ _ _;refine za ?_;unfold Builtin.List.listItems;refine za (wpAny_seqItems hS rfl (zc ?_));show wpAny _ _ (updateSeq s.heap.objs.size (fun _=>#[]) >>= fun _=>letGo (#[]:Array Value).toList.reverse >>= fun _=>Builtin.List.listExtendWith (.ref s.heap.objs.size) (.ref z) .none) _ _ _
 refine za (je hS rfl ?_);have hS₂:=Heap.get?_update_self (Obj.mapSeq (fun _=>(#[]:Array Value))) hS rfl;refine za (jm ?_);have oth:∀b o,s.heap.get? b=some o→((s.heap.push { cls:=.type "list",data:=.seq #[] }).update s.heap.objs.size (Obj.mapSeq (fun _=>(#[]:Array Value)))).get? b=some o :=
  fun b o e=>(ji _ _ (Nat.ne_of_gt (zg e))).trans (zl _ e)
 have hsz:((s.heap.push { cls:=.type "list",data:=.seq #[] }).update s.heap.objs.size (Obj.mapSeq (fun _=>(#[]:Array Value)))).objs.size=s.heap.objs.size+1:=by rw [Heap.size_update,Heap.size_push]
 refine QsY (base:=s.heap.objs.size) (by exact hh) D (by simp only [zt,List.not_mem_nil,or_false,not_or]; exact ⟨Nat.ne_of_gt ltz,Nat.ne_of_gt ltI,Nat.ne_of_gt ltO,Nat.ne_of_gt lt1,Nat.ne_of_gt lt2,Nat.ne_of_gt la1,Nat.ne_of_gt la2⟩) .none hn hn1 hn2 hne _ (by show _≤((s.heap.push _).update _ _).objs.size; rw [hsz]; exact Nat.le_succ _) (oth _ _ hz)
  ⟨.inl ⟨oth _ _ hz,a,b,oth _ _ hTO⟩,oth _ _ hTI,h1.at fun o e=>oth _ o e,h2.at fun o e=>oth _ o e,hl1.at fun o e=>oth _ o e,hl2.at fun o e=>oth _ o e,hS₂,rfl,by show _ < ((s.heap.push _).update _ _).objs.size; rw [hsz]; exact jg ltO,List.nodup_nil,fun j v hv=>by simp at hv⟩ fun h' acc' c' kp e1 e2 en e3=>?_
 refine ⟨rfl,hQ h' acc' c' (fun b o hb e=>kp b o (fun hm=>?_) (oth b o e)) e1 e2 en fun j v hv=>?_⟩
 ·simp only [zt,List.not_mem_nil,or_false,not_or] at hb hm
  have:=zg e
  rcases hm with hm | hm | hm | hm | hm
  ·exact hb.1 hm
  ·exact hb.2.1 hm
  ·exact hb.2.2.1 hm
  ·exact hb.2.2.2 hm
  ·exact absurd this (by rw [hm]; exact zV _)
 ·obtain ⟨T,x,y,f1,f2,f3,f4,f5,f6⟩:=e3 j v hv;exact ⟨T,x,y,f1,f2,f3,f4,fun e=>f5 (by simp [e]),f6⟩
end
theorem Un.more {fs ex:List Addr}{H H1:Hp}{h h':Heap}{a:Addr}{o:HO} (u:Un fs ex H H1 h h') (hp:h.objs.size≤a) (hn:H1 a=none):Un fs ex H (upd H1 a o) h h' where
 keep:=u.keep
 slot:=u.slot
 free:=fun b ob q n hx=>by rw [Qar (zv (zE (zg q) hp))]; exact u.free b ob q n hx
 there:=u.there
 tups:=fun b xs q=>by have z:=u.tups b xs q; rw [Qar (QaC z hn)]; exact z
 frzs:=fun b ob v q=>by have z:=u.frzs b ob v q; rw [Qar (QaC z hn)]; exact z
 tbls:=fun b ps q=>by obtain ⟨m,z⟩:=u.tbls b ps q; exact ⟨m,by rw [Qar (QaC z hn)]; exact z⟩
theorem HOk.more {P:Program}{w:World}{H:Hp}{h:Heap}{a:Addr}{o:HO} (x:HOk P w H h) (hn:H a=none) (new:Qbe P w (upd H a o) h a o):HOk P w (upd H a o) h:=fun b u e=>by
 by_cases hb:b=a
 ·subst hb; rw [QaG] at e; cases e; exact new
 ·rw [Qar hb] at e
  exact (x b u e).stay (fun c v _ q=>q) (fun c q=>by rw [Qar (QaC q hn)]; exact q) fun c xs q=>by rw [Qar (QaC q hn)]; exact q
def Qoo:Hp→List (V×V)→List V→Hp→Prop
 | H,[],ts,H2=>ts = []∧H2=H
 | H,p::r,ts,H2=>∃T ts',ts = .ref T::ts'∧H T=none∧Qoo (upd H T (.tup [p.1,p.2])) r ts' H2
theorem QnY {P:Program}{w:World}{fs:List Addr}{H0:Hp}{h h':Heap}:∀(ps:List (V×V)) (vs:List Value) (Hk:Hp),Un fs [] H0 Hk h h'→HOk P w Hk h'→vs.Nodup →
  Paired (fun (p:V×V) (v:Value)=>∃T x y,v=Value.ref T∧RelV p.1 x∧RelV p.2 y∧IsPair h' T x y∧h.objs.size≤T∧Hk T=none) ps vs →
  ∃ts H2,Qoo Hk ps ts H2∧Qaz ts vs∧Un fs [] H0 H2 h h'∧HOk P w H2 h'∧∀b,Value.ref b∉vs→H2 b=Hk b
 | [],vs,Hk,u,x,_,hp=>by
  cases hp;exact ⟨[],Hk,⟨rfl,rfl⟩,.nil,u,x,fun _ _=>rfl⟩
 | p::ps,vs,Hk,u,x,hnd,hp=>by
  cases hp with
  | cons h1 h2 =>
   obtain ⟨T,u1,u2,rfl,r1,r2,hT,hle,hn⟩:=h1;rw [List.nodup_cons] at hnd;have u':Un fs [] H0 (upd Hk T (.tup [p.1,p.2])) h h':=u.more hle hn;have x':HOk P w (upd Hk T (.tup [p.1,p.2])) h':=x.more hn ⟨by show 2≤sizeLine; decide,[u1,u2],.cons r1 (.cons r2 .nil),⟨_,hT,rfl,_,rfl⟩⟩;have go:∀(ps:List (V×V)) (ws:List Value),Value.ref T∉ws→Paired (fun (p:V×V) (v:Value)=>∃T x y,v=Value.ref T∧RelV p.1 x∧RelV p.2 y∧IsPair h' T x y∧h.objs.size≤T∧Hk T=none) ps ws →
     Paired (fun (q:V×V) (v:Value)=>∃T' x y,v=Value.ref T'∧RelV q.1 x∧RelV q.2 y∧IsPair h' T' x y∧h.objs.size≤T'∧upd Hk T (.tup [p.1,p.2]) T'=none) ps ws:=fun ps ws hw hq=>by
    induction hq with
    | nil=>exact .nil
    | cons a b ih =>
     rw [zt,not_or] at hw;obtain ⟨T',x,y,e1,e2,e3,e4,e5,e6⟩:=a;refine .cons ⟨T',x,y,e1,e2,e3,e4,e5,?_⟩ (ih hw.2);rw [Qar (fun z=>hw.1 (by rw [e1,z]))];exact e6
   obtain ⟨ts,H2,g1,g2,g3,g4,g5⟩:=QnY ps _ _ u' x' hnd.2 (go _ _ hnd.1 h2);refine ⟨.ref T::ts,H2,⟨T,ts,rfl,hn,g1⟩,.cons rfl g2,g3,g4,fun b hb=>?_⟩;rw [zt,not_or] at hb;rw [g5 b hb.2,Qar (fun z=>hb.1 (by rw [z]))]
theorem Qlu {α β:Type}{R:α→β→Prop}:∀(ps:List α) (vs:List β),ps.length=vs.length→(∀(j:Nat) p v,ps[j]? = some p→vs[j]? = some v→R p v)→Paired R ps vs
 | [],[],_,_=>.nil
 | [],_::_,h,_=>by cases h
 | _::_,[],h,_=>by cases h
 | p::ps,v::vs,h,f=>.cons (f 0 p v rfl rfl) (Qlu ps vs (Nat.succ.inj h) fun j p v a b=>f (j+1) p v a b)
section
variable {X:Cx}
def tLZ (K:Frag) (ta:TA):TE:=fun σ H Q=>ta σ H fun vs H1=>∃a b xs ys,vs = [.ref a,.ref b]∧SqL K H1 a xs∧SqL K H1 b ys∧∀ts H2,Qoo H1 (xs.zip ys) ts H2→∀l,H2 l=none→Q (.ref l) (upd H2 l (.lst ts))
theorem QoX {a b:Expr}{ta:TA}{p p' pos pos':Pos} (hc:X.calm=true) (hgl:Gl X "list") (hml:X.mg "list" = none) (hgz:Gl X "zip") (hmz:X.mg "zip" = none) (ha:PA X [a,b] ta)
  (hs:starEach [a,b] X.env=(false,eval a X.env)::starEach [b] X.env:=by exact QbN rfl) (hpl:(backTo pos' (starEach [b] X.env)).any (·.1)=false:=by exact QbT rfl)
  (he:starEach [.Call (.Name "zip" p') [a,b] [] pos'] X.env=(false,eval (.Call (.Name "zip" p') [a,b] [] pos') X.env)::starEach [] X.env:=by exact QbN rfl) :
  PE X (.Call (.Name "list" p) [.Call (.Name "zip" p') [a,b] [] pos'] [] pos) (tLZ X.K ta):=by
 intro pins s σ H Q I h;refine Call_ (QdS I hgl hml Qf5 (PyProof.Rows.callWith_type1 ?_ he rfl));rw [he];show wpAny _ _ (spliced ((false,eval (.Call (.Name "zip" p') [a,b] [] pos') X.env)::backTo pos (starEach [] X.env))) _ _ s;refine Calls.spliced_cons ?_;refine Call_ (QdS I hgz hmz boot_zip (PyProof.Rows.callWith_type1 (thn (ha pos' pins s σ H _ I h) fun us s1 ⟨vs,H1,I1,r1,q1⟩=>?_) hs hpl));obtain ⟨l1,l2,xs,ys,e,hq1,hq2,q⟩:=q1;subst e;obtain ⟨u1,u2,rfl,ru1,ru2⟩:=vals2 r1;cases ru1;cases ru2;obtain ⟨its1,rv1,pl1,hz1⟩:=I1.list hq1;obtain ⟨its2,rv2,pl2,hz2⟩:=I1.list hq2
 have a1:l1 < s1.heap.objs.size:=by obtain ⟨_,e,_⟩:=pl1.isList; exact zg e
 have a2:l2 < s1.heap.objs.size:=by obtain ⟨_,e,_⟩:=pl2.isList; exact zg e
 have len1:=rv1.length;have len2:=rv2.length
 refine call_zip_2 pl1.isList pl2.isList fun h' hz hTI hTO hit1 hit2 hsz hk=>?_
 refine Calls.spliced_nil ?_;refine Qly (s:={ s1 with heap:=h' }) (n:=min its1.length its2.length) (I.ok.hd hc) (zipApart_new a1 a2) (by omega) (by rw [zp]; omega) (by rw [zp]; omega) (by rw [zp,zp]; omega) hz hTI hTO hit1 hit2
  (pl1.isList.at fun o e=>hk l1 o e) (pl2.isList.at fun o e=>hk l2 o e) fun h2 acc c kp e1 e2 en e3=>?_
 have k:∀b o,s1.heap.get? b=some o→h2.get? b=some o:=fun b o e=>kp b o (fun hm=>by
  have:=zg e
  simp only [zt,List.not_mem_nil,or_false] at hm
  rcases hm with rfl | rfl | rfl | rfl
  ·exact Nat.not_lt.mpr (jr _ _) this
  ·exact Nat.not_lt.mpr (jr _ _) this
  ·exact zV _ this
  ·exact Nat.not_lt.mpr (jr _ _) this) (hk b o e)
 have hlen:acc.toList.length=(xs.zip ys).length:=by rw [Array.length_toList,e2,List.length_zip]; omega
 have hsz':({ s1 with heap:=h' }:Shared).heap.objs.size=s1.heap.objs.size+5:=hsz
 have hp:Paired (fun (p:V×V) (v:Value)=>∃T x y,v=Value.ref T∧RelV p.1 x∧RelV p.2 y∧IsPair h2 T x y∧s1.heap.objs.size≤T∧H1 T=none) (xs.zip ys) acc.toList:=Qlu _ _ hlen.symm fun j p v hpj hvj=>by
  obtain ⟨T,x,y,f1,f2,f3,f4,f5,f6⟩:=e3 j v (by simpa using hvj);rw [List.getElem?_zip_eq_some] at hpj;obtain ⟨w1,w1',w2⟩:=rv1.get hpj.1;obtain ⟨w3,w3',w4⟩:=rv2.get hpj.2
  have f2':its1[j]? = some x:=by simpa using f2
  have f3':its2[j]? = some y:=by simpa using f3
  rw [f2'] at w1';rw [f3'] at w3';cases w1';cases w3'
  have hle:s1.heap.objs.size≤T:=by omega
  exact ⟨T,x,y,f1,w2,w4,f4,hle,I1.hok.fresh hle⟩
 obtain ⟨ts,H2,g1,g2,g3,g4,g5⟩:=QnY (P:=X.prog) (w:=X.w) (fs:=X.fs) (h:=s1.heap) (xs.zip ys) acc.toList H1 (Un.kept k) (I1.hok.kept k) en hp
 have hSn:H2 ({ s1 with heap:=h' }:Shared).heap.objs.size=none:=by
  rw [g5 _ fun hm=>?_]
  ·exact I1.hok.fresh (by omega)
  ·obtain ⟨j,hj⟩:=List.mem_iff_getElem?.mp hm;obtain ⟨T,x,y,f1,_,_,_,f5,_⟩:=e3 j _ (by simpa using hj);cases f1;exact f5 rfl
 have hts:ts.length≤sizeLine:=by
  have q1:=g2.length;have q2:acc.toList.length=acc.size:=Array.length_toList;omega
 have hok:=g4.more (o:=.lst ts) hSn ⟨hts,acc.toList,c,g2,by rw [Array.toArray_toList]; exact e1⟩;exact ⟨.ref _,upd H2 _ (.lst ts),I1.un (t':=s1.toks) (g3.more (o:=.lst ts) (by omega) hSn) hok,rfl,q ts H2 g1 _ hSn⟩
end
theorem Ql5 {K:Frag}{mg:Str→Option Value}{O:Qac}{as:List Addr}:∀(ds es:List D) (xs ys:List V) (H F:Hp) (ts:List V) (H2:Hp),RlO K mg O H F as→Rps K F as xs ds→Rps K F as ys es→Qoo H (xs.zip ys) ts H2→∃F2,Gr H F as H2 F2 as∧RlO K mg O H2 F2 as∧Rps K F2 as ts (QhH ds es)
 | [],es,xs,ys,H,F,ts,H2,r,h1,h2,g=>by
  rw [h1.un0] at g;obtain ⟨rfl,rfl⟩:=g;exact ⟨F,Gr.refl,r,Rps.nil⟩
 | d::ds,[],xs,ys,H,F,ts,H2,r,h1,h2,g=>by
  rw [h2.un0,List.zip_nil_right] at g;obtain ⟨rfl,rfl⟩:=g;exact ⟨F,Gr.refl,r,Rps.nil⟩
 | d::ds,e::es,xs,ys,H,F,ts,H2,r,h1,h2,g=>by
  obtain ⟨x,xr,rfl,h3,h4⟩:=h1.un;obtain ⟨y,yr,rfl,h5,h6⟩:=h2.un;rw [List.zip_cons_cons] at g;obtain ⟨T,ts',rfl,hp,g⟩:=g;have hF:=r.frF hp
  have ff:Same F (upd F T (.tup [x,y])):=fun b u q=>by rw [Qar (QaC q hF)]; exact q
  have hs:Rps K F as [x,y] [d,e]:=Rps.cons h3 (Rps.cons h5 Rps.nil);have G1:Gr H F as (upd H T (.tup [x,y])) (upd F T (.tup [x,y])) as:=(Gr.lay hp).frz hp hF;have r1:RlO K mg O (upd H T (.tup [x,y])) (upd F T (.tup [x,y])) as:=(r.lay hp).frz QaG hF (fun z=>r.all z hp) rfl;have rT:Rp K (upd F T (.tup [x,y])) as (.ref T) (.tup [d,e]):=Rp.mkT (.inl QaG) (Rps.mono ff (fun _ _ z=>z) _ hs);obtain ⟨F2,G2,r2,q2⟩:=Ql5 ds es xr yr _ _ ts' H2 r1 (h4.gr G1) (h6.gr G1) g;exact ⟨F2,G1.trans G2,r2,Rps.cons (rT.gr G2) q2⟩
def gLZ:List D→Option D
 | [.lst ds,.lst es]=>some (.lst (QhH ds es))
 | _=>none
section
variable {X:Cx}{md:List Md}{P:Pt}
theorem QoD {a b:Expr}{ms:List Md}{ma:M (List D)}{p p' pos pos':Pos} (hc:X.calm=true) (hml:X.mg "list" = none) (hmz:X.mg "zip" = none) (ha:AE X md P ms [a,b] ma) (hgl:Gl X "list":=by rfl) (hgz:Gl X "zip":=by rfl)
  (hs:starEach [a,b] X.env=(false,eval a X.env)::starEach [b] X.env:=by exact QbN rfl) (hpl:(backTo pos' (starEach [b] X.env)).any (·.1)=false:=by exact QbT rfl)
  (he:starEach [.Call (.Name "zip" p') [a,b] [] pos'] X.env=(false,eval (.Call (.Name "zip" p') [a,b] [] pos') X.env)::starEach [] X.env:=by exact QbN rfl) :
  OE X md P (.Call (.Name "list" p) [.Call (.Name "zip" p') [a,b] [] pos'] [] pos) (Qav gLZ ma):=(QoX hc hgl hml hgz hmz ha hs hpl he).imp fun σ H Q q=>by
 have q':tCB (rC X.K X.mg gLZ) (tMA X.K X.mg md P ms ma) σ H Q:=QhO q;obtain ⟨ρ,O,F,as,ds,O',r,s,e1,k⟩:=q';refine ⟨ρ,O,F,as,ds,O',r,s,e1,fun vs H1 F1 as1 g1 r1 hv=>?_⟩;obtain ⟨O2,F2,as2,es,d,r2,hvs,e,k2⟩:=k vs H1 F1 as1 g1 r1 hv;unfold gLZ at e;split at e
 ·rename_i xs ys;cases e;obtain ⟨v,u,rfl,hv1,hv2⟩:=hvs.two;obtain ⟨a1,x1,rfl,q1,q2⟩:=hv1.list r2.fh;obtain ⟨a2,x2,rfl,q3,q4⟩:=hv2.list r2.fh;refine ⟨a1,a2,x1,x2,rfl,q1.sq,q3.sq,fun ts H2 gr l hl=>?_⟩;obtain ⟨F3,G3,r3,p3⟩:=Ql5 xs ys x1 x2 H1 F2 ts H2 r2 q2 q4 gr;exact k2 _ _ F3 (G3.trans (Gr.lay hl)) (r3.lay hl) (.inr ⟨l,ts,_,rfl,rfl,QaG,r3.frF hl,fun z=>r3.all z hl,G3.dm l hl,p3⟩)
 ·cases e
end
section
end
end L2
namespace L2
open PySem PySem.Spec PyProof.Rows PySem.W
section
variable {X:Cx}{md:List Md}{P:Pt}
end
end L2
namespace L2
open PySem PySem.Spec PyProof.Rows
section
variable {X:Cx}{md:List Md}{P:Pt}{R:RR}
variable {elts:List Expr}{x1:Nat}{tpos:Pos}{a elt:Expr}{ifs:List Expr}{scope:Scope}{p pos pe:Pos}{m:M D}{g:MG}{t:M Bool}{e:M D}
end
def Itv (K:Frag) (a:Addr) (n:Nat):It :=
 ⟨fun i H=>i < n∧∃xs x,SqL K H a xs∧xs[n - 1 - i]? = some x,fun i H x H'=>H'=H∧∀xs,SqL K H a xs→xs[n - 1 - i]? = some x,fun i _=>n≤i⟩
theorem QrU {P:Program}{w:World}{K:Frag}{tg:Expr} (a it:Addr) (n:Nat):Turn P w K tg (Itv K a n) [it] it (fun i h=>i≤n∧h.IsRevIter it a ((n:Int) - 1 - (i:Int))) where
 mem:=by simp
 obj:=fun i h st b hb=>by
  have e:b=it:=by simpa using hb
  subst e;obtain ⟨_,o,e,c,d⟩:=st;exact ⟨o,e,fun v z=>by rw [d] at z; cases z⟩
 keep:=fun i h h' st k=>⟨st.1,st.2.at fun o e=>k it (by simp) o e⟩
 item:=by
  intro X hP hw hK hc i pins s σ H E I hf st hg;subst hP hw hK;obtain ⟨hi,xs,x,hq,hx⟩:=hg;obtain ⟨its,rv,p,hz⟩:=I.list hq;obtain ⟨u,hu,ru⟩:=rv.get hx;obtain ⟨f0,f1,f2,f3,f4,f5⟩:=hf it (by simp);have hst:=st.2;rw [show (n:Int) - 1 - (i:Int)=((n - 1 - i:Nat):Int) by omega] at hst
  refine wpAny_pyNext_rev_item hst p.isList (x:=u) (by simpa using hu) fun h' st' sb=>?_
  rw [show ((n - 1 - i:Nat):Int) - 1=(n:Int) - 1 - ((i+1:Nat):Int) by omega] at st';have I1:Inv X pins σ H { s with heap:=h' }:=I.turned (t':=s.toks) (fun b o hb e=>(sb.2 b hb).trans e) f0 f1 f3 f4 f5;obtain ⟨o,e,c,d⟩:=id st';exact ⟨u,rfl,QhG (s:={ s with heap:=h' }) e c d (by decide) ⟨x,H,I1,ru,⟨rfl,fun ys hy=>by rw [I.list_inj hy hq]; exact hx⟩,⟨hi,st'⟩,fun b hb=>(hf b hb).1⟩⟩
 done:=by
  intro X hP hw hK hc i pins s σ H E I hf st hg;subst hP hw hK;have hg':n≤i:=hg;obtain ⟨f0,f1,f2,f3,f4,f5⟩:=hf it (by simp);have hst:=st.2;have h1:=st.1;rw [show (n:Int) - 1 - (i:Int) = -1 by omega] at hst
  exact wpAny_pyNext_rev_end (I.ok.hd hc) hst fun h' eb=>⟨rfl,I.turned (t':=s.toks) (fun b o hb e=>eb b o hb e) f0 f1 f3 f4 f5⟩
 self:=fun _ _ _ _ _ st h=>wpAny_pyIter_revIter st.2 h
section
variable {X:Cx}{md:List Md}{P:Pt}{R:RR}{tg:Expr}
theorem boot_reversed:bootBuiltins "reversed" = some (.type "reversed"):=by decide +kernel
def Qxd (K:Frag) (ta:TA):TI:=fun σ H R=>ta σ H fun vs H1=>∃a xs,vs = [.ref a]∧SqL K H1 a xs∧R (Itv K a xs.length) H1
theorem Qux {a:Expr}{ta:TA}{p pos:Pos} (hg:Gl X "reversed") (hm:X.mg "reversed" = none) (ha:PA X [a] ta) (hs:starEach [a] X.env = [(false,eval a X.env)]:=by exact Qkr rfl) :
  PI X tg (.Call (.Name "reversed" p) [a] [] pos) (Qxd X.K ta):=by
 intro pins s σ H R I h;refine Call_ (QdS I hg hm boot_reversed (PyProof.Rows.callWith_type1 (thn (ha pos pins s σ H _ I h) fun us s1 ⟨vs,H1,I1,r1,q1⟩=>?_) hs rfl));obtain ⟨l,xs,e,hq,q⟩:=q1;subst e;obtain ⟨u,rfl,ru⟩:=vals1 r1;cases ru;obtain ⟨its,rv,pl,hz⟩:=I1.list hq
 have hl:its.toArray.size=xs.length:=by rw [zp]; exact rv.length.symm
 refine call_reversed_list pl.isList ?_;rw [hl]
 have hit:(s1.heap.push (revObj l ((xs.length:Int) - 1))).IsRevIter s1.heap.objs.size l ((xs.length:Int) - 1 - ((0:Nat):Int)):=by
  rw [show (xs.length:Int) - 1 - ((0:Nat):Int)=(xs.length:Int) - 1 by omega];exact ⟨_,zA _ rfl,rfl,rfl⟩
 refine wpAny_pyIter_revIter (s:={ s1 with heap:=s1.heap.push (revObj l ((xs.length:Int) - 1)) }) hit ?_;refine ⟨s1.heap.objs.size,[s1.heap.objs.size],_,_,H1,rfl,I1.kept (t':=s1.toks) (fun b o e=>zl _ e),QrU l s1.heap.objs.size xs.length,⟨Nat.zero_le _,hit⟩,fun b hb=>?_,q⟩
 have hb':s1.heap.objs.size≤b:=by rw [zy.mp hb]; exact ze _
 exact I1.fpOk hb' (I1.hok.fresh hb')
def QoF (m:M D):M (List D):=fun ρ O=>(m ρ O).bind fun d O1=>match d with
 | .lst ds=>.ok ds.reverse O1
 | _=>.no
theorem Qua {a:Expr}{p pos:Pos}{m:M D} (hm:X.mg "reversed" = none) (h:WE X md P a m) (hg:Gl X "reversed":=by rfl) (hs:starEach [a] X.env = [(false,eval a X.env)]:=by exact Qkr rfl) (hs':starEach [a] X.env=(false,eval a X.env)::starEach [] X.env:=by exact QbN rfl) :
  VI X md P tg (.Call (.Name "reversed" p) [a] [] pos) (QoF m):=(Qux hg hm (Qf4 h QiT hs') hs).imp fun σ H Q q=>by
 obtain ⟨ρ,O,F,as,ds,O',r,s,e,k⟩:=q;obtain ⟨d,O1,e1,e⟩:=Res.bind_ok e
 cases d with
 | lst es =>
  cases e;refine ⟨ρ,_,F,as,_,_,r,s,e1,fun v H1 F1 as1 g1 r1 hv=>?_⟩;obtain ⟨a,xs,rfl,h1,h2⟩:=Qr4 (mg:=X.mg) hv;have hl:xs.length=es.length:=h1.length;refine ⟨a,xs,rfl,(h2 H1 F1 as1 GrS.refl ⟨_,r1⟩).sq,k _ H1 F1 as1 g1 r1 ⟨fun i d H2 F2 as2 g r e=>?_,fun H2 F2 as2 g r=>by show xs.length≤_; rw [List.length_reverse,hl]; exact ze _⟩⟩
  have hi:i < es.length:=by
   have:=(zk.mp e).1
   rwa [List.length_reverse] at this
  rw [List.getElem?_reverse hi,←hl] at e;obtain ⟨x,h3,h4⟩:=h1.get' e;have hq:=h2 H2 F2 as2 g r;refine ⟨⟨by omega,xs,x,hq.sq,h3⟩,fun y H3 hy=>?_⟩;obtain ⟨rfl,hy⟩:=hy
  have:=hy xs hq.sq
  rw [h3] at this;cases this;exact ⟨F2,Gr.refl,fun _ r=>r,h4.grS g⟩
 | _=>cases e
theorem Qn7 (i:Int) (h:0≤i):Str.ofString (toString i)=S ((Nat.toDigits 10 i.toNat).map Char.toNat):=by
 obtain ⟨m,rfl⟩:∃m:Nat,i=(m:Int):=⟨i.toNat,(Int.toNat_of_nonneg h).symm⟩;rw [Int.toNat_natCast,←PySem.W.KIN.signs_num m,QxU]
def Qk2:List D→Option D
 | [.int i]=>if 0≤i∧i < 1000000000 then some (.str ((Nat.toDigits 10 i.toNat).map Char.toNat)) else none
 | _=>none
theorem Qvn:QgB X (.type "str") Qk2:=by
 intro pins s σ H xs us Q I rs h;obtain ⟨O,F,as,ds,d,r,hvs,e,k⟩:=h;unfold Qk2 at e;split at e
 ·rename_i i;split at e
  ·rename_i hi;obtain ⟨v,rfl,hv⟩:=hvs.one;cases e;cases (hv.rp rfl).unI;refine QmX pins s σ H _ us Q I rs ⟨i,rfl,shown (N:=2 ^ 1920) (by omega) (by omega) (Int.le_refl _),?_⟩;have z:=Qn7 i hi.1;refine Qbi (v:=.str (Str.ofString (toString i))) r k rfl ?_;rw [z];exact Rp.str
  ·cases e
 ·cases e
end
structure Qbf (mg:Str→Option Value):Prop extends Qu9 mg where
 reversed_:mg "reversed" = none
end L2
namespace L2
open PySem PySem.Spec PyProof.Rows PySem.W
def mdI:Option Int→List Int→Option Int
 | b,[]=>b
 | none,n::r=>mdI (some n) r
 | some m,n::r=>mdI (some (if n < m then n else m)) r
def MdV (d v:Value):Option Int→Prop
 | none=>v=d
 | some m=>∃t,v = .int m t
def MdB (bs:Array Value):Option Int→Prop
 | none=>bs = #[]
 | some m=>∃t,bs = #[.int m t,.int m t]
section
variable {prog:Program}{w:World}{A:Around}{E:Value→Shared→Prop}
theorem QwD {id:String}{b:Builtin}{as:List Value}{kw:List (Str×Value)}{s:Shared}{Q:Value→Shared→Prop} (k0:builtinKind id=none) (p0:plainId id=true) (b0:entryFor table id=some b) (a0:argsOk id ⟨as,kw⟩)
  (c0:wpAny (model prog w) A.in1 (b ⟨as,kw⟩) (fun fin s'=>match fin with
   | .done f=>(match (Except.ok f:Result) with | .ok (.ret v)=>Q v s' | .ok _=>False | .error e=>E e s')
   | .again c=>c.quiet=true∧codeAny (model prog w) A c (fun r s'=>match r with | .ok (.ret v)=>Q v s' | .ok _=>False | .error e=>E e s') s') E s) :
  wpAny (model prog w) A (call (.builtin id) as kw) Q E s:=by
 refine wpAny_call (codeAny_call_builtin p0 b0 ?_);simp only [checkBuiltinCall,k0]
 cases g0:Manifest.signature? id with
 | none=>exact zc c0
 | some sg =>
  simp only [argsOk,g0] at a0;have z:Bind.checkArgs id sg ⟨as,kw⟩=pure ():=a0;show wpAny _ A.in1 (Bind.checkArgs id sg ⟨as,kw⟩) _ _ s;rw [z];exact zc c0
theorem QvG {n m:Int}{t u:Tok}{s:Shared}{Q:Value→Shared→Prop} (q:Q (.bool (decide (n < m))) s):wpAny (model prog w) A (richCompare .Lt (.int n t) (.int m u)) Q E s :=
 CmpOf.ints_lt (A:=A) (P:=fun i v=>∃t,v = .int (if i=0 then n else m) t) (fun i=>if i=0 then n else m) (fun _ _ z=>z) 0 1 _ _ s Q E ⟨t,rfl⟩ ⟨u,rfl⟩ q
theorem QtN {R:Result→Shared→Prop}{l i0 S:Addr}{its:List Value}{d:Value} (hh:A.in1.handled=none) (n1:l≠i0) (n2:S≠i0) (n3:S≠l) :
  ∀(us:List Value) (ns:List Int) (pre:List Value) (b:Option Int) (bs:Array Value) (s:Shared) (c:Nat),its=pre++us→Qaz (ns.map V.int) us→s.heap.IsListIter i0 l pre.length→s.heap.IsList l its.toArray→MdB bs b →
   s.heap.get? S=some { cls:=.type "list",dict:=none,data:=.seq bs c,slots:=#[] } →
   (∀v h' tk,MdV d v (mdI b ns)→(∀x o,x≠i0→x≠S→s.heap.get? x=some o→h'.get? x=some o)→R (.ok (.ret v)) { s with heap:=h',toks:=tk }) →
   codeAny (model prog w) A (.builtin "min.loop" ⟨[.ref i0,.none,.ref S],[("default",d)]⟩) R s:=by
 have W:=Walks.list (prog:=prog) (w:=w) hh i0 l n1 its.toArray
 have nm:(toString "min" ++ toString ".loop":String) = "min.loop":=by decide
 have nS:S∉[i0]:=fun z=>n2 (zy.mp z)
 have ni:∀x:Addr,x≠i0→x∉[i0]:=fun x z y=>z (zy.mp y)
 intro us
 induction us with
 | nil =>
  intro ns pre b bs s c e rv it hl hb hS hR
  have ens:ns = []:=by
   cases ns with
   | nil=>rfl
   | cons=>cases rv
  subst ens
  have el:pre.length=its.toArray.size:=by rw [e]; simp
  rw [el] at it;refine jh PySem.F.entry_min_loop ?_;rw [Around.under_plainId PySem.F.plain_min_loop _];show wpAny _ A.in1 (seqItems? (.ref S) >>= _) _ _ s;refine za (wpAny_seqItems hS rfl ?_);show wpAny _ A.in1 (tryCatch (pyNext (.ref i0)) _ >>= _) _ _ s;refine za (wpAny_tryCatch (W.done s _ _ ⟨it,hl⟩ fun h1 tk kp=>?_));have hS1:=kp S _ nS hS
  cases b with
  | none =>
   have hb':bs = #[]:=hb;subst hb';show wpAny _ A.in1 (rule _ >>= _) _ _ _;refine za (jd ?_);exact zc (hR d h1 tk rfl fun x o z1 z2 q=>kp x o (ni x z1) q)
  | some m =>
   obtain ⟨t,hb'⟩:=hb;subst hb';show wpAny _ A.in1 (updateSeq S (fun _=>#[]) >>= _) _ _ _;refine za ?_;refine je hS1 rfl (za (jm (zc ?_)))
   exact hR (.int m t) _ tk ⟨t,rfl⟩ fun x o z1 z2 q=>(ji _ _ (Ne.symm z2)).trans (kp x o (ni x z1) q)
 | cons u us ih =>
  intro ns pre b bs s c e rv it hl hb hS hR
  cases ns with
  | nil=>cases rv
  | cons n ns =>
   have rv':Qaz (V.int n::ns.map V.int) (u::us):=rv
   obtain ⟨ru,rus⟩:RelV (.int n) u∧Qaz (ns.map V.int) us:=by
    cases rv' with
    | cons a b=>exact ⟨a,b⟩
   obtain ⟨tu,rfl⟩:=ru
   have el:pre.length < its.toArray.size:=by rw [e]; simp
   have e':its=(pre ++ [Value.int n tu])++us:=by rw [e]; simp
   have eg:its.toArray[pre.length]? = some (Value.int n tu):=by rw [e]; simp
   refine jh PySem.F.entry_min_loop ?_;rw [Around.under_plainId PySem.F.plain_min_loop _];show wpAny _ A.in1 (seqItems? (.ref S) >>= _) _ _ s;refine za (wpAny_seqItems hS rfl ?_);show wpAny _ A.in1 (tryCatch (pyNext (.ref i0)) _ >>= _) _ _ s;refine za (wpAny_tryCatch (W.item pre.length s _ _ el ⟨it,hl⟩ fun v h1 tk hv st kp=>?_));rw [eg] at hv;cases hv;have hS1:=kp S _ nS hS
   have upd1:∀(h2:Heap) (y:Addr) (o:Obj),y≠S→h2.get? y=some o→∀f,(h2.update S f).get? y=some o:=fun h2 y o z q f=>(ji _ _ (Ne.symm z)).trans q
   have go:∀(b2:Option Int) (bs2:Array Value) (h2:Heap) (tk2:Nat) (c2:Nat),MdB bs2 b2→mdI b2 ns=mdI b (n::ns)→h2.get? S=some { cls:=.type "list",dict:=none,data:=.seq bs2 c2,slots:=#[] } →
     (∀x o,x≠S→h1.get? x=some o→h2.get? x=some o)→codeAny (model prog w) A (.builtin "min.loop" ⟨[.ref i0,.none,.ref S],[("default",d)]⟩) R { s with heap:=h2,toks:=tk2 }:=fun b2 bs2 h2 tk2 c2 q1 q2 q3 q4=>by
    have st2:=W.frame _ h1 h2 st fun x hx o q=>q4 x o (fun z=>by
     rcases zt.mp hx with rfl | hx
     ·exact n2 z.symm
     ·rcases zt.mp hx with rfl | hx
      ·exact n3 z.symm
      ·cases hx) q
    refine ih ns (pre ++ [Value.int n tu]) b2 bs2 _ c2 e' rus (by rw [zn]; exact st2.1) st2.2 q1 q3 fun v h3 tk3 z1 z2=>?_
    exact hR v h3 tk3 (q2 ▸ z1) fun x o y1 y2 q=>z2 x o y1 y2 (q4 x o y2 (kp x o (ni x y1) q))
   cases b with
   | none =>
    have hb':bs = #[]:=hb;subst hb';show wpAny _ A.in1 (updateSeq S (fun _=>#[Value.int n tu,Value.int n tu]) >>= _) _ _ _;refine za ?_;refine je hS1 rfl ?_;rw [nm];exact zc ⟨plainId_quiet PySem.F.plain_min_loop _,go (some n) _ _ _ _ ⟨tu,rfl⟩ rfl (Heap.get?_update_self _ hS1 rfl) fun x o z q=>upd1 _ x o z q _⟩
   | some m =>
    obtain ⟨t,hb'⟩:=hb;subst hb';show wpAny _ A.in1 (tryCatch (holding [Value.int n tu,Value.int n tu] (richCompare .Lt (.int n tu) (.int m t) >>= _)) _ >>= _) _ _ _;refine za (wpAny_tryCatch (zR (za (QvG ?_))));refine za (zR (wpAny_truthy_bool ?_));refine za (jm (zc ?_))
    by_cases hlt:n < m
    ·rw [zq hlt];simp only [if_true];refine za ?_;refine je hS1 rfl (za (jm ?_));rw [nm];exact zc ⟨plainId_quiet PySem.F.plain_min_loop _,go (some n) _ _ _ _ ⟨tu,rfl⟩ (by show _=mdI (some (if n < m then n else m)) ns; rw [if_pos hlt]) (Heap.get?_update_self _ hS1 rfl) fun x o z q=>upd1 _ x o z q _⟩
    ·rw [zh hlt];simp only [Bool.false_eq_true,if_false];refine za (jm ?_);rw [nm];exact zc ⟨plainId_quiet PySem.F.plain_min_loop _,go (some m) _ _ _ _ ⟨t,rfl⟩ (by show _=mdI (some (if n < m then n else m)) ns; rw [if_neg hlt]) hS1 fun x o z q=>q⟩
end
section
variable {X:Cx}{md:List Md}{P:Pt}{R:RR}
def tsF (n:Nat) (y:D) (O:Qac):Res D:=match Qmr y,O[n]? with
 | some k,some (.dt kvs)=>match Qe3 kvs k with
  | some d=>.ok d O
  | none=>.no
 | _,_=>.no
def Qsl (mo my:M D):M D:=fun ρ O=>(mo ρ O).bind fun x O1=>match x with
 | .ob n=>(my ρ O1).bind fun y O2=>tsF n y O2
 | _=>.no
theorem Qtc {kk:Nat} (hk:Qa6 X.K=true) (hr:Qa1 kk X.A) {o i:Expr}{pos:Pos}{mo my:M D} (ho:VE X md P o mo) (hi:VE X md P i my) (hs:Qi1 i:=by intro _ _; rfl):VE X md P (.Subscript o i pos) (Qsl mo my) :=
 (Qn5 (Qog hr) ho hi hs).imp fun σ H Q q=>by
  obtain ⟨ρ,O,F,as,d,O',r,s,e,k⟩:=q;obtain ⟨x,O1,e1,e⟩:=Res.bind_ok e
  cases x with
  | ob n =>
   obtain ⟨y,O2,e2,e⟩:=Res.bind_ok e;unfold tsF at e;split at e
   ·rename_i ks kvs e3 e4;split at e
    ·rename_i d' e5;cases e;refine ⟨ρ,_,F,as,_,_,r,s,e1,fun x H1 F1 as1 g1 r1 hx=>⟨ρ,_,F1,as1,_,_,r1,s.step g1,e2,fun u H2 F2 as2 g2 r2 hu=>?_⟩⟩;obtain ⟨a,rfl,ha⟩:=Rp.unO hx;obtain ⟨xs,x1,x2⟩:=r2.dt (g2.at_ n a ha) e4;obtain ⟨b,rfl,hb⟩:=Rp.tkey hk hu e3
     rcases x2.val (k:=ks) with ⟨z1,z2⟩ | ⟨d2,v',z1,z2,z3⟩
     ·rw [z1] at e5; cases e5
     ·rw [z1] at e5;cases e5;refine ⟨a,v',rfl,?_,k _ H2 F2 as2 (g1.trans g2) r2 z3⟩;rw [←z2];exact QiM.t x1 (r2.fh _ _ hb)
    ·cases e
   ·cases e
  | _=>cases e
def QlK:List D→Option D
 | [.lst ds]=>(Qdx ds).map fun ns=>match mdI none ns with
  | some m=>.int m
  | none=>.non
 | _=>none
theorem Qpr (a d:Value):argsOk "min" ⟨[a],[("default",d)]⟩:=by unfold argsOk; kernel_rfl
theorem Qqw (hc:X.calm=true) {pins:List (Addr×Obj)}{s:Shared}{σ:St}{H:Hp}{a:Addr}{ns:List Int}{Q:VK} (I:Inv X pins σ H s) (hq:SqL X.K H a (ns.map V.int)) (q:Q (match mdI none ns with | some m=>.int m | none=>.non) H) :
  wpAny (model X.prog X.w) X.A (call (.builtin "min") [.ref a] [("default",.none)]) (EP X pins σ Q) X.xe s:=by
 obtain ⟨its,rv,pl,_⟩:=I.list hq;have hl:=pl.isList
 have la:a < s.heap.objs.size:=by obtain ⟨_,z,_⟩:=hl; exact zg z
 refine QwD PySem.F.kind_min PySem.F.plain_min PySem.F.entry_min (Qpr _ _) ?_;show wpAny _ X.A.in1 (Builtin.Builtins.bindParams "min" ["key","default"] 0 ⟨[],[("default",.none)]⟩ >>= _) _ _ s;refine za (wpAny_of_eq (show _=pure [none,some Value.none] from rfl) ?_);refine za (zc ?_);refine za (wpAny_pyIter_list hl ?_);refine za (wpAny_newObj_type ?_);rw [show (toString "min" ++ toString ".loop":String) = "min.loop" by decide];have sz:(s.heap.push { cls:=.type "list_iterator",data:=.fields #[.ref a,.int 0 0] }).objs.size=s.heap.objs.size+1:=Heap.size_push ..
 refine zc ⟨plainId_quiet PySem.F.plain_min_loop _,QtN (its:=its) (l:=a) (i0:=s.heap.objs.size) (d:=.none) (I.ok.hd hc) (zv la) (Nat.ne_of_gt (by rw [sz]; exact jc _)) (Nat.ne_of_gt (by rw [sz]; exact jg la)) its ns [] none #[] _ 0 rfl rv
  ⟨_,zl _ (zA _ rfl),rfl,rfl⟩ ((hl.push _).push _) rfl (zA _ rfl) fun v h1 tk hv kp=>?_⟩
 have kk:∀b o,s.heap.get? b=some o→h1.get? b=some o:=fun b o z=>kp b o (zv (zg z)) (zv (by rw [sz]; exact jg (zg z))) (zl _ (zl _ z))
 refine ⟨_,H,I.kept (t':=tk) kk,?_,q⟩
 cases e:mdI none ns with
 | none =>
  rw [e] at hv;exact hv
 | some m =>
  rw [e] at hv;exact hv
theorem Qti {p pos p2 p3:Pos}{j:Nat}{e:Expr}{m:M D} (hc:X.calm=true) (hm:X.mg "min" = none) (ha:SE X md P e m) (hg:Gl X "min":=by rfl) (hs:starEach [e] X.env=(false,eval e X.env)::starEach [] X.env:=by exact QbN rfl) (hpl:(backTo pos (starEach [e] X.env)).any (·.1)=false:=by exact QbT rfl)
  (he:backTo pos (starEach [e] X.env)=(false,eval e X.env)::backTo pos (starEach [] X.env):=by rfl) :
  OE X md P (.Call (.Name "min" p) [e] [⟨some "default",.Constant .none j p2,p3⟩] pos) (Qav QlK (Qab m Qae)):=by
 intro pins s σ H Q I q;refine wpAny_Call_Name_kw (QdS I hg hm boot_min ?_ (by decide) (by decide));have q':=QhO (ms:=[.s]) q;refine callWith_kw (thn ((Qao ha Qaj hs) pos pins s σ H _ I q') fun us s1 ⟨vs,H1,I1,r1,q1⟩=>?_) he hpl;refine kws_cons (Constant_none (kws_nil ?_));obtain ⟨O,F,as,ds,d,r,hvs,e,k⟩:=q1;unfold QlK at e;split at e
 ·rename_i es;obtain ⟨v,rfl,hv⟩:=hvs.one;obtain ⟨a,xs,rfl,h1,h2⟩:=hv.list r.fh;obtain ⟨u,rfl,ru⟩:=vals1 r1;cases ru
  cases hi:Qdx es with
  | none=>rw [hi] at e; cases e
  | some ns =>
   rw [hi] at e;cases e;have hx:=h2.ints hi;refine Qqw hc I1 (ns:=ns) (by rw [←hx]; exact h1.sq) ?_
   cases em:mdI none ns with
   | none =>
    dsimp only at k;rw [em] at k;exact Qbi r k rfl Rp.non
   | some m =>
    dsimp only at k;rw [em] at k;exact Qbi r k rfl Rp.int
 ·cases e
end
def Itd (lo:Int) (n:Nat):It:=⟨fun i _=>i < n,fun i H x H'=>H'=H∧x = .int (lo - i),fun i _=>n≤i⟩
def QcR (lo:Int) (n:Nat):List D:=(List.range n).map fun i:Nat=>.int (lo - i)
theorem QpO {P:Program}{w:World}{K:PySem.W.Frag}{tg:Expr} (it:Addr) (lo:Int) (n:Nat):Turn P w K tg (Itd lo n) [it] it (fun i h=>IsRangeIter h it (lo+(i:Nat) * (-1)) ((n:Int) - (i:Nat)) (-1)) where
 mem:=by simp
 obj:=fun i h st b hb=>by
  have e:b=it:=by simpa using hb
  subst e
  exact ⟨_,st,fun v z=>by
   have z':Data.fields _=Data.cell v:=z
   cases z'⟩
 keep:=fun i h h' st k=>k it (by simp) _ st
 item:=by
  intro X hP hw hK hc i pins s σ H E I hf st hg;subst hP hw hK;obtain ⟨f0,f1,f2,f3,f4,f5⟩:=hf it (by simp);have W:=Walks.range (prog:=X.prog) (w:=X.w) (I.ok.hd hc) it lo (-1) n
  refine W.item i s _ _ hg st fun v h' tk hv st' kk=>?_
  obtain ⟨t,rfl⟩:=hv;have I1:Inv X pins σ H { s with heap:=h',toks:=tk }:=I.turned (fun b o hb e=>kk b o (by simpa using hb) e) f0 f1 f3 f4 f5;refine ⟨_,rfl,QhG (s:={ s with heap:=h',toks:=tk }) (n:="range_iterator") st' rfl rfl (by decide) ⟨.int (lo - i),H,I1,⟨t,?_⟩,⟨rfl,rfl⟩,st',fun b hb=>(hf b hb).1⟩⟩;rw [show lo+(i:Int) * (-1)=lo - i by omega]
 done:=by
  intro X hP hw hK hc i pins s σ H E I hf st hg;subst hP hw hK;obtain ⟨f0,f1,f2,f3,f4,f5⟩:=hf it (by simp)
  exact wpAny_pyNext_range_end (I.ok.hd hc) st (by have:n≤i:=hg; omega) fun h' eb=>⟨rfl,I.turned (t':=s.toks) (fun b o hb e=>eb b o hb e) f0 f1 f3 f4 f5⟩
 self:=fun _ _ _ _ _ st h=>wpAny_pyIter_rangeiter st h
section
variable {X:Cx}{tg:Expr}{md:List Md}{P:Pt}
theorem Qlc (a b:Int):Builtin.Range.rangeSize a b (-1)=if a > b then a - b else 0:=by
 unfold Builtin.Range.rangeSize;rw [if_neg (by decide)]
 split
 ·rw [show (-(-1:Int))=1 by decide,Int.ediv_one];omega
 ·rfl
theorem small_down {a b:Int} (ha:-(2 ^ 62)≤a) (ha':a < 2 ^ 62) (hb:-(2 ^ 62)≤b) (hb':b < 2 ^ 62):Builtin.Range.small a b (-1)=true:=by
 unfold Builtin.Range.small;rw [Qlc];simp only [Builtin.Range.rangeFitsLong,zr,Bool.or_eq_true,decide_eq_true_eq,beq_iff_eq,show ¬((-1:Int) > 0) by decide,if_false]
 split <;> omega
def Qwn (ta:TA):TI:=fun σ H R=>ta σ H fun vs H1=>∃i j:Int,vs = [.int i,.int j,.int (-1)]∧(-(2 ^ 62)≤i∧i < 2 ^ 62∧-(2 ^ 62)≤j∧j < 2 ^ 62)∧R (Itd i (i - j).toNat) H1
theorem QsC {a b c:Expr}{ta:TA}{p pos:Pos} (hg:Gl X "range") (hm:X.mg "range" = none) (ha:PA X [a,b,c] ta) (hs:starEach [a,b,c] X.env = [(false,eval a X.env),(false,eval b X.env),(false,eval c X.env)]:=by rfl) (hs2:starEach [b,c] X.env = [(false,eval b X.env),(false,eval c X.env)]:=by rfl) :
  PI X tg (.Call (.Name "range" p) [a,b,c] [] pos) (Qwn ta):=by
 intro pins s σ H R I h;refine Call_ (QdS I hg hm boot_range (PyProof.Rows.callWith_type1 (thn (ha pos pins s σ H _ I h) fun us s1 ⟨vs,H1,I1,r1,q1⟩=>?_) (by rw [hs,hs2]) (by rw [hs2]; rfl)));obtain ⟨lo,hi,e,⟨h1,h2,h3,h4⟩,q⟩:=q1;subst e
 cases r1 with
 | cons r rr =>
  cases rr with
  | cons r' rr =>
   cases rr with
   | cons r'' rr =>
    cases rr;obtain ⟨t,rfl⟩:=r;obtain ⟨u,rfl⟩:=r';obtain ⟨v,rfl⟩:=r'';refine call_range_3 (by decide) ?_ (Or.inl (PyProof.noPylong_small (by omega)));refine wpAny_pyIter_range (IsRange.new ..) (small_down h1 h2 h3 h4) ?_
    have J:Inv X pins σ H1 { s1 with heap:=s1.heap.push { cls:=.type "range",data:=.fields #[.int lo t,.int hi u,.int (-1) v] },toks:=s1.toks }:=I1.kept fun b o e=>zl _ e
    refine ⟨(s1.heap.push { cls:=.type "range",data:=.fields #[.int lo t,.int hi u,.int (-1) v] }).objs.size,[(s1.heap.push { cls:=.type "range",data:=.fields #[.int lo t,.int hi u,.int (-1) v] }).objs.size],_,_,H1,rfl,
     J.kept (t':=s1.toks) fun b o e=>zl _ e,QpO _ lo (lo - hi).toNat,?_,fun b hb=>?_,q⟩
    ·have e1:lo+((0:Nat):Int) * (-1)=lo:=by simp
     have e2:(((lo - hi).toNat:Nat):Int) - ((0:Nat):Int)=Builtin.Range.rangeSize lo hi (-1):=by rw [Qlc]; split <;> omega
     show IsRangeIter _ _ (lo+((0:Nat):Int) * (-1)) ((((lo - hi).toNat:Nat):Int) - ((0:Nat):Int)) (-1);rw [e1,e2];exact zA _ rfl
    ·have e:b=(s1.heap.push { cls:=.type "range",data:=.fields #[.int lo t,.int hi u,.int (-1) v] }).objs.size:=by simpa using hb
     subst e;exact J.fpOk (ze _) (J.hok.fresh (ze _))
theorem QqI {K:Frag}{mg:Str→Option Value}{lo:Int}{n:Nat}{H F:Hp}{as:List Addr}:JOk K mg P (Itd lo n) (QcR lo n) H F as:=QjK (fun i d H2 e=>by
 unfold QcR at e;rw [zD] at e
 by_cases hi:i < n
 ·rw [List.getElem?_range hi] at e;cases e;refine ⟨hi,fun x H3 y=>?_⟩;obtain ⟨e1,rfl⟩:=y;exact ⟨e1,fun _ _ _=>Rp.int⟩
 ·rw [List.getElem?_eq_none (by simpa using hi)] at e
  cases e) fun H2=>by simp [QcR,Itd]
def QlI (m:M (List D)):M (List D):=fun ρ O=>(m ρ O).bind fun ds O1=>match ds with
 | [.int i,.int j,.int c]=>if c = -1∧i≤1000000000∧-1000000000≤i∧j≤1000000000∧-1000000000≤j then .ok (QcR i (i - j).toNat) O1 else .no
 | _=>.no
theorem Qbs.three {K:Frag}{H F:Hp}{as:List Addr}{m1 m2 m3:Md}{vs:List V}{d e f:D} (h:Qbs K H F as [m1,m2,m3] vs [d,e,f]):∃v u z,vs = [v,u,z]∧rA K m1 (fun _=>True) H F as v d∧rA K m2 (fun _=>True) H F as u e∧rA K m3 (fun _=>True) H F as z f:=by
 cases vs with
 | nil=>exact h.elim
 | cons v vs =>
  obtain ⟨h1,h2⟩:=h;obtain ⟨u,z,rfl,h3,h4⟩:=Qbs.two h2;exact ⟨v,u,z,rfl,h1,h3,h4⟩
theorem Qs4 {a b c:Expr}{p pos:Pos}{m:M (List D)} (hm:X.mg "range" = none) (ha:AE X md P [.s,.s,.s] [a,b,c] m) (hg:Gl X "range":=by rfl) (hs:starEach [a,b,c] X.env = [(false,eval a X.env),(false,eval b X.env),(false,eval c X.env)]:=by rfl) (hs2:starEach [b,c] X.env = [(false,eval b X.env),(false,eval c X.env)]:=by rfl) :
  VI X md P tg (.Call (.Name "range" p) [a,b,c] [] pos) (QlI m):=(QsC hg hm ha hs hs2).imp fun σ H Q q=>by
 obtain ⟨ρ,O,F,as,ds,O',r,s,e,k⟩:=q;obtain ⟨es,O1,e1,e⟩:=Res.bind_ok e;split at e
 ·rename_i i j c;split at e
  ·rename_i hj;cases e;obtain ⟨rfl,hj⟩:=hj;refine ⟨ρ,_,F,as,_,_,r,s,e1,fun vs H1 F1 as1 g1 r1 hv=>?_⟩;obtain ⟨v,u,z,rfl,hv1,hu,hz⟩:=hv.three;have e3:=(Sv.rp hv1 rfl).unI;have e4:=(Sv.rp hu rfl).unI;have e5:=(Sv.rp hz rfl).unI;subst e3 e4 e5;exact ⟨i,j,rfl,⟨by omega,by omega,by omega,by omega⟩,k _ H1 F1 as1 g1 r1 QqI⟩
  ·cases e
 ·cases e
end
section
variable {X:Cx}{pins:List (Addr×Obj)}{σ:List (Option V)}{H:Hp}{s:Shared}{a:Addr}{xs:List (List Key×V)}{o:Obj}
theorem Inv.reword {u:HO} (I:Inv X pins σ H s) (ha:H a≠none) (hn:∀ys,H a≠some (.tup ys)) (ho:∀y,H a≠some (.own y)) (hb:∀ps,H a≠some (.tbl ps)) (hf:∀o u,X.H₀ a≠some (.frz o u)) (new:Qbe X.prog X.w (upd H a u) s.heap a u):Inv X pins σ (upd H a u) s where
 ok:=I.ok
 os:=I.os
 bare:=I.bare
 base:={
  keep:=I.base.keep
  slot:=I.base.slot
  free:=fun b o' q n hx=>by
   have z:=I.base.free b o' q n hx;rw [Qar (by intro e; have w:=z; rw [e] at w; exact ha w)];exact z
  there:=I.base.there
  tups:=fun b ys q=>by
   have z:=I.base.tups b ys q;rw [Qar (by intro e; have w:=z; rw [e] at w; exact hn ys w)];exact z
  frzs:=fun b o' u' q=>by
   have z:=I.base.frzs b o' u' q;rw [Qar (by intro e; have w:=q; rw [e] at w; exact hf o' u' w)];exact z
  tbls:=fun b ps q=>by
   obtain ⟨m,z⟩:=I.base.tbls b ps q
   exact ⟨m,by rw [Qar (by intro e; have w:=z; rw [e] at w; exact hb _ w)]; exact z⟩ }
 loc:=I.loc
 cell:=I.cell
 free:=by rw [Qar (by intro e; have w:=I.free; rw [e] at w; exact ha w)]; exact I.free
 freeC:=fun x c q=>by rw [Qar (by intro e; have w:=I.freeC x c q; rw [e] at w; exact ha w)]; exact I.freeC x c q
 pin:=fun p hp=>by
  obtain ⟨h1,h2,h3,h4,h5⟩:=I.pin p hp;exact ⟨h1,by rw [Qar (by intro e; have w:=h2; rw [e] at w; exact ha w)]; exact h2,h3,h4,h5⟩
 hok:=fun b u' q=>by
  by_cases e:b=a
  ·subst e;rw [QaG] at q;cases q;exact new
  ·rw [Qar e] at q
   exact (I.hok b u' q).stay (fun _ _ _ z=>z) (fun c z=>by rw [Qar (by intro e; have w:=z; rw [e] at w; exact ho b w)]; exact z) fun c ys z=>by rw [Qar (by intro e; have w:=z; rw [e] at w; exact hn ys w)]; exact z
 len:=I.len
theorem Inv.base0 (I:Inv X pins σ H s) (e:H a=some (.dT xs)):∀o u,X.H₀ a≠some (.frz o u):=fun o u z=>by
 have:=I.base.frzs a o u z
 rw [e] at this;cases this
theorem Inv.freeze (I:Inv X pins σ H s) (e:H a=some (.dT xs)):∃o,s.heap.get? a=some o∧Inv X pins σ (upd H a (.frz o (.dT xs))) s:=by
 have hx:=I.hok a _ e
 obtain ⟨o,ho⟩:∃u,s.heap.get? a=some u:=by
  obtain ⟨_,_,_,_,_,_,_,z,_⟩:=hx;exact ⟨_,z⟩
 refine ⟨o,ho,I.reword (by rw [e]; exact fun z=>nomatch z) (by rw [e]; exact fun _ z=>nomatch z) (by rw [e]; exact fun _ z=>nomatch z) (by rw [e]; exact fun _ z=>nomatch z) (I.base0 e) ⟨ho,?_⟩⟩
 exact Qbe.stay hx (fun _ _ _ z=>z) (fun c z=>by rw [Qar (fun q=>by rw [q,e] at z; cases z)]; exact z) fun c ys z=>by rw [Qar (fun q=>by rw [q,e] at z; cases z)]; exact z
theorem Inv.thaw (I:Inv X pins σ H s) (e:H a=some (.frz o (.dT xs))) (hf:∀o u,X.H₀ a≠some (.frz o u)):Inv X pins σ (upd H a (.dT xs)) s:=by
 obtain ⟨ho,hx⟩:=(show Qbe X.prog X.w H s.heap a (.frz o (.dT xs)) from I.hok a _ e);refine I.reword (by rw [e]; exact fun z=>nomatch z) (by rw [e]; exact fun _ z=>nomatch z) (by rw [e]; exact fun _ z=>nomatch z) (by rw [e]; exact fun _ z=>nomatch z) hf ?_
 exact Qbe.stay hx (fun _ _ _ z=>z) (fun c z=>by rw [Qar (fun q=>by rw [q,e] at z; cases z)]; exact z) fun c ys z=>by rw [Qar (fun q=>by rw [q,e] at z; cases z)]; exact z
end
section
variable {prog:Program}{w:World}{A:Around}{E:Value→Shared→Prop}{s:Shared}
theorem QrB {d:Addr}{o:Obj}{es:Array DictEntry}{ep:Nat}{Q:Value→Shared→Prop} (hd:(d == sysModules)=false) (ho:s.heap.get? d=some o) (hx:o.ExactDict) (hdat:o.data = .dict es ep)
  (hQ:Q (.ref s.heap.objs.size) { s with heap:=s.heap.push { cls:=.type "dict_keyiterator",data:=.fields #[.ref d,.int 0 0,.int es.size 0,.int ep 0] } }) :
  wpAny (model prog w) A (pyIter (.ref d)) Q E s:=by
 have hT:s.TypeIs (.ref d) "dict":=⟨o,ho,hx.1⟩;refine wpAny_pyIter_slot hT PySem.F.slot_dict_iter (wpAny_call_entry PySem.F.slot_dict_iter hT PySem.F.entry_dict_iter ?_ (PySem.F.args_dict_iter_1 _));unfold Builtin.«dict.__iter__»;refine za ?_;unfold Builtin.Dict.dictSlotNone;refine za (wpAny_notOrdered_dict hT ?_);show wpAny _ _ (pure (Value.ref d)) _ _ s;refine zc ?_;show wpAny _ _ (Builtin.Dict.showsAll d >>= _) _ _ s;unfold Builtin.Dict.showsAll;rw [if_neg (by rw [hd]; exact zj)];refine za (zc ?_);refine za (wpAny_dictEntries ho hdat ?_);refine za (wpAny_dictEpoch ho hdat ?_);refine za (wpAny_newObj_type (zc ⟨_,rfl,"dict_keyiterator",_,⟨_,zA _ rfl,rfl⟩,PySem.F.slot_dict_keyiterator_next.lookup,?_⟩))
 simpa [rawInt] using hQ
theorem Qq0 {it d:Addr}{i n ep:Nat}{od:Obj}{es:Array DictEntry}{Q:Option Value→Shared→Prop} (hit:s.heap.IsKeyIter it d i n ep) (hod:s.heap.get? d=some od) (hdd:od.data = .dict es ep) (hsz:es.size=n) (hlt:i < n)
  (hQ:∀h',h'.IsKeyIter it d (i+1) n ep→Heap.SameBut it s.heap h'→Q (some (es[i]'(by omega)).key) { s with heap:=h' }) :
  wpAny (model prog w) A (pyNext (.ref it)) Q E s:=by
 obtain ⟨o,ho,hc,hd⟩:=id hit;unfold pyNext
 refine za (wpAny_attempt (wpAny_callSpecial?_slot (name:=Str.ofString "__next__") hit.typeIs PySem.F.slot_dict_keyiterator_next
  (wpAny_call_entry PySem.F.slot_dict_keyiterator_next hit.typeIs PySem.F.entry_dict_keyiterator_next ?_ (PySem.F.args_dict_keyiterator_next_1 _))))
 refine za (zc ?_);refine za ?_;refine za ?_
 first | refine za (wpAny_typeNameOfWhole_keyiter hit.typeIs (zc ?_)) | refine za (wpAny_typeNameOf_keyiter hit.typeIs (zc ?_))
 refine za (wpAny_fieldsOf ho hd ?_)
 have hown:Builtin.Dict_items.ownsTuple "dict_keyiterator" = false:=by decide
 simp only [hown,Bool.false_eq_true,if_false];show wpAny _ _ (if (Value.ref d == Value.none)=true then _ else _) _ _ s;rw [if_neg (show ¬((Value.ref d == Value.none)=true) from zj)];refine za (zc ?_);refine za (wpAny_dictEntries hod hdd ?_);rw [if_neg (by rw [hsz]; simp)];refine za (zc ?_);refine za (wpAny_dictEpoch hod hdd ?_);rw [if_neg (by simp)];refine zc ?_
 have hlt':i < es.size:=by rw [hsz]; exact hlt
 simp only [show ¬((i:Int) < 0) from by omega,if_false,Int.toNat_natCast,Array.getElem?_eq_getElem hlt'];refine za ?_
 first | refine za (wpAny_typeNameOfWhole_keyiter hit.typeIs (zc ?_)) | refine za (wpAny_typeNameOf_keyiter hit.typeIs (zc ?_))
 refine za (wpAny_isOneOf_keyiter hit.typeIs ?_);show wpAny _ _ (setField (.ref it) 1 (rawInt ((i:Int)+1)) >>= _) _ _ s;refine za (wpAny_setField ho hd (by simp) ?_);have hit':(s.heap.update it (Obj.mapFields (·.setIfInBounds 1 (rawInt ((i:Int)+1))))).IsKeyIter it d (i+1) n ep :=
  ⟨_,Heap.get?_update_self _ ho (Obj.isFreed_of_fields (Obj.data_mapFields hd _)),(Obj.cls_mapFields ..).trans hc,by rw [Obj.data_mapFields hd]; simp [rawInt]⟩
 refine za (zR ?_);refine za (wpAny_isOneOf_keyiter (s:={ s with heap:=s.heap.update it (Obj.mapFields (·.setIfInBounds 1 (rawInt ((i:Int)+1)))) }) hit'.typeIs ?_);show wpAny _ _ (pure es[i].key) _ _ _;exact zc (zc ⟨_,rfl,zc (hQ _ hit' (Heap.SameBut.update ..))⟩)
theorem QsU {it d:Addr}{i n ep:Nat}{od:Obj}{es:Array DictEntry}{Q:Option Value→Shared→Prop} (hh:A.handled=none) (hit:s.heap.IsKeyIter it d i n ep) (hod:s.heap.get? d=some od) (hdd:od.data = .dict es ep) (hsz:es.size=n) (hge:n≤i)
  (hQ:∀h',Heap.ExtBut it s.heap h'→Q none { s with heap:=h' }):wpAny (model prog w) A (pyNext (.ref it)) Q E s:=by
 obtain ⟨o,ho,hc,hd⟩:=id hit;unfold pyNext
 refine za (wpAny_attempt (wpAny_callSpecial?_slot (name:=Str.ofString "__next__") hit.typeIs PySem.F.slot_dict_keyiterator_next
  (wpAny_call_entry PySem.F.slot_dict_keyiterator_next hit.typeIs PySem.F.entry_dict_keyiterator_next ?_ (PySem.F.args_dict_keyiterator_next_1 _))))
 refine za (zc ?_);refine za ?_;refine za ?_
 first | refine za (wpAny_typeNameOfWhole_keyiter hit.typeIs (zc ?_)) | refine za (wpAny_typeNameOf_keyiter hit.typeIs (zc ?_))
 refine za (wpAny_fieldsOf ho hd ?_)
 have hown:Builtin.Dict_items.ownsTuple "dict_keyiterator" = false:=by decide
 simp only [hown,Bool.false_eq_true,if_false];show wpAny _ _ (if (Value.ref d == Value.none)=true then _ else _) _ _ s;rw [if_neg (show ¬((Value.ref d == Value.none)=true) from zj)];refine za (zc ?_);refine za (wpAny_dictEntries hod hdd ?_);rw [if_neg (by rw [hsz]; simp)];refine za (zc ?_);refine za (wpAny_dictEpoch hod hdd ?_);rw [if_neg (by simp)];refine zc ?_
 have hge':es.size≤i:=by rw [hsz]; exact hge
 simp only [show ¬((i:Int) < 0) from by omega,if_false,Int.toNat_natCast,Array.getElem?_eq_none hge'];refine za ?_
 first | refine za (wpAny_typeNameOfWhole_keyiter hit.typeIs (zc ?_)) | refine za (wpAny_typeNameOf_keyiter hit.typeIs (zc ?_))
 show wpAny _ _ (setField (.ref it) 0 .none >>= _) _ _ s;refine za (wpAny_setField ho hd (by simp) ?_);show wpAny _ _ (newExc (.type "StopIteration") [] >>= _) _ _ _;refine za ?_;simp only [newExc,newTuple];refine za (wpAny_newObj_type ?_ (by size_fits));refine za (m:=firstArgMember _ _) (wpAny_of_eq (a:=Value.none) (by first | rfl | (simp only [firstArgMember]; rfl)) ?_);refine wpAny_newObj_type ?_ (by size_fits);simp only [raiseNew];refine za (wpAny_handled ?_);rw [show A.in1.handled=none from hh];refine za (zc (wpAny_throw ?_));refine za (wpAny_isInstance (T:="StopIteration") (b:=true) ⟨_,zA _ rfl,rfl⟩ isSubtype_stop ?_)
 exact zc (hQ _ (((Heap.SameBut.update ..).extBut.push _).push _))
end
def Itq (a:Addr) (o:Obj):It :=
 ⟨fun i H=>∃ys:List (List Key×V),H a=some (.frz o (.dT ys))∧i < ys.length,
  fun i H x H'=>H'=H∧∀ys:List (List Key×V),H a=some (.frz o (.dT ys))→∃b p,x = .ref b∧ys[i]? = some p∧H b=some (.tup (p.1.map kV)),
  fun i H=>∃ys:List (List Key×V),H a=some (.frz o (.dT ys))∧ys.length≤i⟩
theorem Qqy {α β:Type}{R:α→β→Prop}{l:List α}{m:List β} (h:Paired R l m):∀{i:Nat}{x:α}{y:β},l[i]? = some x→m[i]? = some y→R x y:=by
 induction h with
 | nil=>intro i x y h; cases h
 | cons a b ih =>
  intro i x y h1 h2
  cases i with
  | zero=>cases h1; cases h2; exact a
  | succ i=>exact ih h1 h2
theorem QmK {X:Cx}{pins:List (Addr×Obj)}{σ:St}{H:Hp}{s:Shared}{a:Addr}{o:Obj}{ys:List (List Key×V)} (I:Inv X pins σ H s) (e:H a=some (.frz o (.dT ys))) :
  s.heap.get? a=some o∧(a == sysModules)=false∧o.ExactDict∧∃es ep,o.data = .dict es ep∧es.size=ys.length∧∀(i:Nat) (h:i < es.size),∃b p,es[i].key = .ref b∧ys[i]? = some p∧H b=some (.tup (p.1.map kV)):=by
 obtain ⟨h1,z,y,xs,r,o',es,ep,h2,h3,h4,h5,h6⟩:=(show Qbe X.prog X.w H s.heap a (.frz o (.dT ys)) from I.hok a _ e);rw [h1] at h2;cases h2
 have hl:es.size=xs.length:=by rw [←Array.length_toList,h5,zd]
 have hr:ys.length=xs.length:=r.length;refine ⟨h1,y,h3,es,ep,h4,by omega,fun i hi=>?_⟩
 have hx:i < xs.length:=by omega
 have hy:i < ys.length:=by omega
 have ek:es.toList[i]? = some (entryOfKey (tupleKind (QbX X.prog X.w)) xs[i]):=by rw [h5,zD,zo hx]; rfl
 rw [Array.getElem?_toList,Array.getElem?_eq_getElem hi] at ek;have hh:=Qqy r (zo hy) (zo hx);refine ⟨xs[i].2.1,ys[i],?_,zo hy,hh.2.1⟩
 injection ek with ek
 rw [ek];rfl
theorem QrD {P:Program}{w:World}{K:Frag}{tg:Expr} (a it:Addr) (o:Obj) (es:Array DictEntry) (ep:Nat) (hd:o.data = .dict es ep):Turn P w K tg (Itq a o) [it] it (fun i h=>h.IsKeyIter it a i es.size ep) where
 mem:=by simp
 obj:=fun i h st b hb=>by
  have e:b=it:=by simpa using hb
  subst e;obtain ⟨o,e,c,d⟩:=st;exact ⟨o,e,fun v z=>by rw [d] at z; cases z⟩
 keep:=fun i h h' st k=>st.at fun o e=>k it (by simp) o e
 item:=by
  intro X hP hw hK hc i pins s σ H E I hf st hg;subst hP hw hK;obtain ⟨ys,hq,hlt⟩:=hg;obtain ⟨q1,q2,q3,es',ep',q4,q5,q6⟩:=QmK I hq;rw [hd] at q4;cases q4;obtain ⟨f0,f1,f2,f3,f4,f5⟩:=hf it (by simp)
  have hi:i < es.size:=by omega
  refine Qq0 st q1 hd rfl hi fun h' st' sb=>?_
  have I1:Inv X pins σ H { s with heap:=h' }:=I.turned (t':=s.toks) (fun b o hb e=>(sb.2 b hb).trans e) f0 f1 f3 f4 f5;obtain ⟨b,p,k1,k2,k3⟩:=q6 i hi;rw [k1];obtain ⟨o2,e,c,d⟩:=id st';refine ⟨_,rfl,QhG (s:={ s with heap:=h' }) e c d (by decide) ⟨.ref b,H,I1,rfl,⟨rfl,fun zs hz=>?_⟩,st',fun b hb=>(hf b hb).1⟩⟩;rw [hq] at hz;cases hz;exact ⟨b,p,rfl,k2,k3⟩
 done:=by
  intro X hP hw hK hc i pins s σ H E I hf st hg;subst hP hw hK;obtain ⟨ys,hq,hge⟩:=hg;obtain ⟨q1,q2,q3,es',ep',q4,q5,q6⟩:=QmK I hq;rw [hd] at q4;cases q4;obtain ⟨f0,f1,f2,f3,f4,f5⟩:=hf it (by simp)
  exact QsU (I.ok.hd hc) st q1 hd rfl (by omega) fun h' eb=>⟨rfl,I.turned (t':=s.toks) (fun b o hb e=>eb b o hb e) f0 f1 f3 f4 f5⟩
 self:=fun _ _ _ _ _ st h=>wpAny_pyIter_keyiter st h
def Qxz (tl:TE):TI:=fun σ H R=>tl σ H fun x H1=>∃a xs,x = .ref a∧H1 a=some (.dT xs)∧∀o,R (Itq a o) (upd H1 a (.frz o (.dT xs)))
theorem Qvs {X:Cx}{tg l:Expr}{tl:TE} (hl:PE X l tl):PI X tg l (Qxz tl):=by
 intro pins s σ H R I h
 refine thn (hl pins s σ H _ I h) fun v s1 ⟨x,H1,I1,r1,q1⟩=>?_
 obtain ⟨a,xs,e,hq,q⟩:=q1;subst e;cases r1;obtain ⟨o,ho,I2⟩:=I1.freeze hq;obtain ⟨q1,q2,q3,es,ep,q4,q5,q6⟩:=QmK I2 QaG;refine QrB q2 q1 q3 q4 ?_;refine ⟨s1.heap.objs.size,[s1.heap.objs.size],_,_,upd H1 a (.frz o (.dT xs)),rfl,I2.kept (t':=s1.toks) fun b o e=>zl _ e,QrD a _ o es ep q4,⟨_,zA _ rfl,rfl,rfl⟩,fun b hb=>?_,q o⟩
 have e:b=s1.heap.objs.size:=by simpa using hb
 subst e;exact I2.fpOk (ze _) (I2.hok.fresh (ze _))
section
variable {K:Frag}{mg:Str→Option Value}{O:Qac}{H F:Hp}{as:List Addr}
theorem Gr.tupF {b:Addr}{xs:List V} (hb:H b=some (.tup xs)) (hf:F b=none):Gr H F as H (upd F b (.tup xs)) as :=
 ⟨fun a o e _ hd=>Qar (fun z=>by rw [z,hb] at e; cases e; cases hd),fun a u e=>by rw [Qar (QaC e hf)]; exact e,⟨[],by simp,fun _ h=>nomatch h⟩,fun _ _ h _ _=>h,fun _ h=>h,fun _ _ _ h=>h⟩
theorem RlO.noT {b:Addr}{xs:List V} (r:RlO K mg O H F as) (hb:H b=some (.tup xs)):b∉as:=fun hm=>by
 obtain ⟨n,hn,e⟩:=List.mem_iff_getElem.mp hm
 have hO:n < O.length:=by rw [←r.len]; exact hn
 have q:=r.ob n b O[n] (by rw [zo hn,e]) (zo hO)
 revert q
 cases O[n] with
 | ins c fs=>rintro ⟨C,dx,gs,_,h2,_⟩; rw [hb] at h2; cases h2
 | ml ds=>rintro ⟨xs,h1,_⟩; rw [hb] at h1; cases h1
 | dt kvs=>rintro ⟨xs,h1,_⟩; rw [hb] at h1; cases h1
 | df kvs=>rintro ⟨o,xs,h1,_⟩; rw [hb] at h1; cases h1
theorem QkJ:∀ks:List Key,Rps K F as (ks.map kV) (ks.map Qk3)
 | []=>Rps.nil
 | .inl i::ks=>Rps.cons (show Rp K F as (.int i) (.int i) from rfl) (QkJ ks)
 | .inr x::ks=>Rps.cons (show Rp K F as (.str x) (.str x.cps.toList) from by
   show V.str x=V.str (S x.cps.toList)
   rw [show S x.cps.toList=x by cases x; simp [S]]) (QkJ ks)
theorem RlO.df {n:Nat}{a:Addr}{kvs:List (List Key×D)} (r:RlO K mg O H F as) (hn:as[n]? = some a) (hO:O[n]? = some (.df kvs)):∃o xs,H a=some (.frz o (.dT xs))∧DtR K F as xs kvs:=let ⟨o,xs,h1,h2,h3⟩:=r.ob n a _ hn hO; ⟨o,xs,h1,h2,h3⟩
end
section
variable {X:Cx}{md:List Md}{P:Pt}{R:RR}
def QrQ (p:List Key×D):D:=.tup (p.1.map Qk3)
def Qhn (m:M D):M (List D):=fun ρ O=>(m ρ O).bind fun d O1=>match d with
 | .ob n=>match O1[n]? with
  | some (.dt kvs)=>.ok (kvs.map QrQ) (O1.set n (.df kvs))
  | _=>.no
 | _=>.no
theorem QvN {tg e:Expr}{m:M D} (h:VE X md P e m):VI X md P tg e (Qhn m):=(Qvs h).imp fun σ H Q q=>by
 obtain ⟨ρ,O,F,as,ds,O',r,s,e,k⟩:=q;obtain ⟨d,O1,e1,e⟩:=Res.bind_ok e;split at e
 ·rename_i n;split at e
  ·rename_i kvs e2;cases e;refine ⟨ρ,_,F,as,_,_,r,s,e1,fun v H1 F1 as1 g1 r1 hv=>?_⟩;obtain ⟨a,rfl,ha⟩:=Rp.unO hv;obtain ⟨xs,x1,x2⟩:=r1.dt ha e2;refine ⟨a,xs,rfl,x1,fun o=>k (Itq a o) (upd H1 a (.frz o (.dT xs))) F1 as1 (g1.trans (Qoc (zQ ha) x1)) (r1.mutG ha ⟨o,xs,QaG,x2.1,x2.2⟩) ⟨fun i d H2 F2 as2 g2 r2 hd=>?_,fun H2 F2 as2 g2 r2=>?_⟩⟩
   ·have hz:=g2.kz a o _ QaG
    have hi:i < kvs.length:=by have:=(zk.mp hd).1; rwa [zd] at this
    have hi':i < xs.length:=by rw [x2.len]; exact hi
    refine ⟨⟨xs,hz,hi'⟩,fun x H3 y=>?_⟩;obtain ⟨rfl,hy⟩:=y;obtain ⟨b,p,rfl,hp,hb⟩:=hy xs hz
    have hk:p.1=kvs[i].1:=by
     have h1:(xs.map (·.1))[i]? = some p.1:=by rw [zD,hp]; rfl
     rw [x2.1,zD,zo hi] at h1
     injection h1 with h1
     exact h1.symm
    rw [zD,zo hi] at hd
    injection hd with hd
    subst hd
    have fin:∀F3:Hp,F3 b=some (.tup (p.1.map kV))→Rp X.K F3 as2 (.ref b) (QrQ kvs[i]):=fun F3 h3=>⟨b,_,rfl,.inl h3,by rw [←hk]; exact QkJ p.1⟩
    cases hF:F2 b with
    | some u =>
     obtain ⟨O2,r2'⟩:=r2
     have:=r2'.fh b u hF
     rw [hb] at this;cases this;exact ⟨F2,Gr.refl,fun _ r=>r,fin F2 hF⟩
    | none=>exact ⟨upd F2 b (.tup (p.1.map kV)),Gr.tupF hb hF,fun _ r=>r.frz hb hF (r.noT hb) rfl,fin _ QaG⟩
   ·exact ⟨xs,g2.kz a o _ QaG,by rw [zd,x2.len]; exact ze _⟩
  ·cases e
 ·cases e
end
def Qhj (i:Nat) (ms:MS):MS:=fun ρ O=>match ρ[i]? with
 | some (some (.ob n))=>match O[n]? with
  | some (.dt _)=>match ms ρ O with
   | .nx ρ2 O2=>match O2[n]? with
    | some (.df kvs)=>.nx ρ2 (O2.set n (.dt kvs))
    | _=>.no
   | _=>.no
  | _=>.no
 | _=>.no
section
variable {K:Frag}{mg:Str→Option Value}{md:List Md}{P:Pt}{ρ:Qal}{σ:St}{O:Qac}{H F H' F':Hp}{as as':List Addr}
theorem Qea.reH {m:Md}{v:V}{d:D}{a:Addr}{h:HO} (q:Qea P K H F as m v d) (ha:a∈as):Qea P K (upd H a h) F as m v d:=by
 cases m with
 | v=>exact q
 | s =>
  rcases q with q | ⟨c,xs,ds,e1,e2,e3,e4,e5,e6⟩
  ·exact .inl q
  ·exact .inr ⟨c,xs,ds,e1,e2,by rw [Qar (fun z=>e4 (by rw [z]; exact ha))]; exact e3,e4,e5,e6⟩
 | o =>
  rcases q with ⟨h1,q⟩ | ⟨c,xs,ds,e1,e2,e3,e0,e4,e5,e6⟩
  ·exact .inl ⟨h1,q⟩
  ·exact .inr ⟨c,xs,ds,e1,e2,by rw [Qar (fun z=>e4 (by rw [z]; exact ha))]; exact e3,e0,e4,e5,e6⟩
theorem SlO.reH {a:Addr}{h:HO} (s:SlO K md P ρ σ H F as) (ha:a∈as):SlO K md P ρ σ (upd H a h) F as :=
 ⟨s.len,s.len',fun c p z=>s.pd c p (by
  by_cases e:c=a
  ·rw [e,QaG] at z; cases z
  ·rwa [Qar e] at z),fun i m d e1 e2=>let ⟨v,q,r⟩:=s.sl i m d e1 e2; ⟨v,q,r.reH ha⟩,s.inj,s.pin⟩
theorem SlO.obAt {i n:Nat} (s:SlO K md P ρ σ H F as) (e:ρ[i]? = some (some (.ob n))):∃a,as[n]? = some a:=by
 have hi:i < md.length:=by rw [←s.len']; exact (zk.mp e).1
 obtain ⟨v,_,q⟩:=s.sl i _ _ (zo hi) e
 have hr:Rp K F as v (.ob n):=by
  revert q
  cases md[i] with
  | v=>exact fun q=>q
  | s =>
   rintro (q | ⟨a,xs,ds,_,z,_⟩)
   ·exact q
   ·cases z
  | o =>
   rintro (⟨_,q⟩ | ⟨a,xs,ds,_,z,_⟩)
   ·exact q
   ·cases z
 obtain ⟨a,_,ha⟩:=Rp.unO hr;exact ⟨a,ha⟩
theorem GrS.reH {a:Addr}{h:HO}{xs:List (List Key×V)} (g:GrS P H F as H' F' as') (ha:a∈as) (hx:H a=some (.dT xs)):GrS P H F as (upd H' a h) F' as' :=
 ⟨g.fz,g.ff,g.nw,fun c o p e hn hd=>by rw [Qar (fun z=>hn (by rw [z]; exact ha))]; exact g.fr c o p e hn hd,fun c e=>by
  by_cases z:c=a
  ·rw [z,QaG] at e; cases e
  ·rw [Qar z] at e; exact g.dm c e,fun c o u e=>by rw [Qar (fun z=>by rw [z,hx] at e; cases e)]; exact g.kz c o u e⟩
end
section
variable {X:Cx}{md:List Md}{P:Pt}{R:RR}
theorem QtL (i:Nat) {st:Stmt}{ms:MS} (h:VS X md P R st ms):VS X md P R st (Qhj i ms):=fun pins s σ H D I q=>by
 obtain ⟨ρ,O,F,as,r,sl,k⟩:=q;unfold Qhj at k;split at k
 ·rename_i n e1;split at k
  ·rename_i kv0 e2;split at k
   ·rename_i ρ2 O2 e3;split at k
    ·rename_i kvs e4;obtain ⟨a,ha⟩:=sl.obAt e1;obtain ⟨xs0,x1,_⟩:=r.dt ha e2;have hf:=I.base0 x1
     refine thn (h pins s σ H { nx:=fun σ' H'=>∃F' as',GrS P H F as H' F' as'∧RlO X.K X.mg O2 H' F' as'∧SlO X.K md P ρ2 σ' H' F' as',rt:=fun _ _=>False } I ⟨ρ,O,F,as,r,sl,by rw [e3]; exact fun σ' H' F' as' g r s=>⟨F',as',g,r,s⟩⟩) fun f s' z=>?_
     cases f with
     | next =>
      obtain ⟨σ',H',I',F',as',g,r',s2⟩:=z;have ha':=g.at_ n a ha;have hm':=zQ ha';obtain ⟨o,xs,y1,y2⟩:=r'.df ha' e4;exact ⟨σ',_,I'.thaw y1 hf,k σ' _ F' as' (g.reH (zQ ha) x1) (r'.mutG ha' ⟨xs,QaG,y2.1,y2.2⟩) (s2.reH hm')⟩
     | brk=>obtain ⟨σ',H',_,z⟩:=z; exact z.elim
     | cont=>obtain ⟨σ',H',_,z⟩:=z; exact z.elim
     | ret u=>obtain ⟨v,σ',H',_,_,z⟩:=z; exact z.elim
    ·exact False.elim k
   ·exact False.elim k
  ·exact False.elim k
 ·exact False.elim k
def tsG (n:Nat) (y:D) (O:Qac):Res D:=match Qmr y,O[n]? with
 | some k,some (.df kvs)=>match Qe3 kvs k with
  | some d=>.ok d O
  | none=>.no
 | _,_=>tsF n y O
def Qbz (mo my:M D):M D:=fun ρ O=>(mo ρ O).bind fun x O1=>match x with
 | .ob n=>(my ρ O1).bind fun y O2=>tsG n y O2
 | _=>.no
theorem Qgk {kk:Nat} (hk:Qa6 X.K=true) (hr:Qa1 kk X.A) {o i:Expr}{pos:Pos}{mo my:M D} (ho:VE X md P o mo) (hi:VE X md P i my) (hs:Qi1 i:=by intro _ _; rfl):VE X md P (.Subscript o i pos) (Qbz mo my):=fun pins s σ H Q I q=>by
 obtain ⟨ρ,O,F,as,d,O',r,sl,e,k⟩:=q;obtain ⟨x,O1,e1,e⟩:=Res.bind_ok e
 cases x with
 | ob n =>
  obtain ⟨y,O2,e2,e⟩:=Res.bind_ok e;unfold tsG at e;split at e
  ·rename_i ks kvs e3 e4;split at e
   ·rename_i d' e5;cases e;refine Qn5 (Qog hr) ho hi hs pins s σ H Q I ⟨ρ,_,F,as,_,_,r,sl,e1,fun x H1 F1 as1 g1 r1 hx=>⟨ρ,_,F1,as1,_,_,r1,sl.step g1,e2,fun u H2 F2 as2 g2 r2 hu=>?_⟩⟩;obtain ⟨a,rfl,ha⟩:=Rp.unO hx;obtain ⟨o,xs,x1,x2⟩:=r2.df (g2.at_ n a ha) e4;obtain ⟨b,rfl,hb⟩:=Rp.tkey hk hu e3
    rcases x2.val (k:=ks) with ⟨z1,z2⟩ | ⟨d2,v',z1,z2,z3⟩
    ·rw [z1] at e5; cases e5
    ·rw [z1] at e5;cases e5;refine ⟨a,v',rfl,?_,k _ H2 F2 as2 (g1.trans g2) r2 z3⟩;rw [←z2];exact .inr ⟨xs,ks,b,.inr ⟨o,x1⟩,rfl,r2.fh _ _ hb,rfl⟩
   ·cases e
  ·refine Qtc hk hr ho hi hs pins s σ H Q I ⟨ρ,O,F,as,d,O',r,sl,?_,k⟩;unfold Qsl;rw [e1];show Res.bind (my ρ O1) _=_;rw [e2];exact e
 | _=>cases e
end
section
variable {X:Cx}{md:List Md}{P:Pt}{R:RR}
end
section
variable {prog:Program}{w:World}
end
section
variable {X:Cx}{md:List Md}{P:Pt}{R:RR}
end
end L2
namespace L2
open PySem PySem.Spec PyProof.Rows PySem.W PySem.Calls
def QfW (ss:List Str) (x:Str):List Str:=if x∈ss then ss else ss ++ [x]
def Qi9 (es:Array (Int×Value)):List Str:=es.toList.map fun e=>strOf e.2
def QoK (prog:Program) (w:World) (h:Heap) (a:Addr) (ss:List Str) (o:Obj) (es:Array (Int×Value)) (ep:Nat) (t:SetTable):Prop :=
 h.get? a=some o∧o.ExactSet∧o.data = .set es ep t∧ElemsOf (PySem.strKind prog w) es.toList∧(Qi9 es).Perm ss∧es.size < scanBound∧t.fits es.size=true∧(es.size=0∨t.plain=false)∧t.led = !w.params.followText "set-order"
def QdD (prog:Program) (w:World) (h:Heap) (a:Addr) (ss:List Str):Prop:=∃o es ep t,QoK prog w h a ss o es ep t
section
variable {prog:Program}{w:World}{A:Around}{E:Value→Shared→Prop}{s:Shared}{a:Addr}{ss:List Str}
theorem QdD.at {h h':Heap} (x:QdD prog w h a ss) (k:∀o,h.get? a=some o→h'.get? a=some o):QdD prog w h' a ss :=
 let ⟨o,es,ep,t,h1,r⟩:=x; ⟨o,es,ep,t,k o h1,r⟩
theorem QdD.len {h:Heap} (x:QdD prog w h a ss):ss.length < scanBound:=by
 obtain ⟨o,es,ep,t,h1,h2,h3,h4,h5,h6,_⟩:=x;rw [←h5.length_eq];unfold Qi9;rw [zd];exact h6
theorem Qnd (t:SetTable) (es:Array (Int×Value)) (n:Nat) (h:t.plain=false):(relayAll t es n).2.1.plain=false:=by
 unfold relayAll
 split
 ·rename_i t' order e;dsimp only
  split
  ·unfold SetTable.relaid SetTable.laid at e
   cases q:SetTable.layClean (SetTable.sizeAbove n - 1) (Array.map (fun x=>x.fst) es) with
   | none=>rw [q] at e; cases e
   | some ow =>
    rw [q] at e;cases e;exact h
  ·rfl
 ·rfl
theorem Qqp (t:SetTable) (es:Array (Int×Value)) (n:Nat):(relayAll t es n).2.1.led=t.led:=by
 unfold relayAll
 split
 ·rename_i t' order e;dsimp only
  split
  ·unfold SetTable.relaid SetTable.laid at e
   cases q:SetTable.layClean (SetTable.sizeAbove n - 1) (Array.map (fun x=>x.fst) es) with
   | none=>rw [q] at e; cases e
   | some ow =>
    rw [q] at e;cases e;rfl
  ·rfl
 ·rfl
theorem Qqn (t:SetTable) (n:Nat):(t.orStandIn n).led=t.led:=by
 unfold SetTable.orStandIn
 split <;> rfl
theorem QtT (t:SetTable) (es:Array (Int×Value)) (h:Int) (x:Value):(layNew t es h x).2.1.led=t.led:=by
 unfold layNew
 split
 ·exact Qqn _ _
 ·rfl
theorem Qkl {h:Heap}{o:Obj}{es:Array (Int×Value)}{ep:Nat}{t:SetTable} (ho:h.get? a=some o) (hex:o.ExactSet) (hd:o.data = .set es ep t)
  {es':Array (Int×Value)}{t':SetTable} (hel:ElemsOf (PySem.strKind prog w) es'.toList) (hp:(Qi9 es').Perm ss) (hb:es'.size < scanBound) (hf:t'.fits es'.size=true) (hpl:t'.plain=false) (hled:t'.led = !w.params.followText "set-order") :
  (h.update a (Obj.putSet es' t')).get? a=some { o with data:=.set es' (ep+1) t' }∧QdD prog w (h.update a (Obj.putSet es' t')) a ss:=by
 have hg:(h.update a (Obj.putSet es' t')).get? a=some { o with data:=.set es' (ep+1) t' }:=by
  have:=Heap.get?_update_self (Obj.putSet es' t') ho (by rw [putSet_of es' t' hd]; rfl)
  rw [putSet_of es' t' hd] at this; exact this
 exact ⟨hg,_,es',ep+1,t',hg,hex,rfl,hel,hp,hb,hf,.inr hpl,hled⟩
theorem Qlm {g:Bool→Sem Unit} (hg:∀(b:Bool) (s₁:Shared) (Q':Unit→Shared→Prop),Q' () s₁→wpAny (model prog w) A (g b) Q' E s₁)
  {o:Obj}{es:Array (Int×Value)}{ep:Nat}{t:SetTable} (ho:s.heap.get? a=some o) (hex:o.ExactSet) (hd:o.data = .set es ep t)
  {es1:Array (Int×Value)}{t2:SetTable} (hel1:ElemsOf (PySem.strKind prog w) es1.toList) (hp1:(Qi9 es1).Perm ss) (hb1:es1.size < scanBound) (hf2:t2.fits es1.size=true) (hpl:t2.plain=false) (hled:t2.led = !w.params.followText "set-order") {wasDummy:Bool}{R:Option Bool→Shared→Prop}
  (h:∀h',Heap.SameBut a s.heap h'→QdD prog w h' a ss→R (some true) { s with heap:=h' }) :
  wpAny (model prog w) A (do
    storeSet a es1 t2
    if (!wasDummy&&t2.tooFull)=true then do
      g (relayAll t2 es1 (SetTable.grown es1.size)).2.2
      storeSet a (relayAll t2 es1 (SetTable.grown es1.size)).1 (relayAll t2 es1 (SetTable.grown es1.size)).2.1
      pure (some true)
     else pure (some true)) R E s:=by
 refine za (wpAny_storeSet_of ho hd ?_ (fits_of_scanBound hb1));obtain ⟨ho1,hS1⟩:=Qkl (prog:=prog) (w:=w) ho hex hd hel1 hp1 hb1 hf2 hpl hled;have hsb1:=Heap.SameBut.update s.heap a (Obj.putSet es1 t2)
 split
 ·have hp:=relayAll_perm t2 es1 (SetTable.grown es1.size);have hfr:=relayAll_fits t2 es1 (SetTable.grown es1.size);have hpr:=Qnd t2 es1 (SetTable.grown es1.size) hpl;have hlr:=Qqp t2 es1 (SetTable.grown es1.size)
  generalize hRl:relayAll t2 es1 (SetTable.grown es1.size)=Rl at hp hfr hpr hlr ⊢
  obtain ⟨es2,t3,gave2⟩:=Rl;dsimp only at hp hfr hpr hlr ⊢;have hel2:ElemsOf (PySem.strKind prog w) es2.toList:=hel1.perm hp
  have hsz:es2.size=es1.size:=by rw [←Array.length_toList,hp.length_eq,Array.length_toList]
  have hb2:es2.size < scanBound:=by rw [hsz]; exact hb1
  refine za (hg _ _ _ ?_);refine za (wpAny_storeSet_of ho1 rfl ?_ (fits_of_scanBound hb2));obtain ⟨_,hS2⟩:=Qkl (prog:=prog) (w:=w) ho1 hex rfl hel2 ((hp.map _).trans hp1) hb2 hfr hpr (hlr.trans hled);exact zc (h _ (hsb1.trans (Heap.SameBut.update _ a _)) hS2)
 ·exact zc (h _ hsb1 hS1)
theorem Qq6 {x:Str}{tk:Tok}{Q:Bool→Shared→Prop} (hS:QdD prog w s.heap a ss) (hroom:ss.length+1 < scanBound)
  (h:∀h' b,Heap.SameBut a s.heap h'→QdD prog w h' a (QfW ss x)→Q b { s with heap:=h' }) :
  wpAny (model prog w) A (setAddHashed a (.str x tk) ((PySem.strKind prog w).hash x)) Q E s:=by
 obtain ⟨o,es,ep,t,ho,hex,hd,hel,hp,hb,hf,hpl,hled⟩:=hS
 have hkey:(PySem.strKind prog w).is x (.str x tk)=true:=by
  show Value.isStrOf x (.str x tk)=true;simp [Value.isStrOf]
 have hlen:es.size=ss.length:=by rw [←hp.length_eq]; unfold Qi9; rw [zd,Array.length_toList]
 have hb1:es.size+1 < scanBound:=by rw [hlen]; exact hroom
 have hsc:(Value.str x tk).scannable=true:=rfl
 have key:∀e∈es.toList,∀y,(PySem.strKind prog w).is y e.2=true↔strOf e.2=y:=fun e he y=>by
  obtain ⟨⟨k,hk,_⟩,_⟩:=hel e he;obtain ⟨t',ht⟩:=Value.isStrOf_shape hk;rw [ht];show Value.isStrOf y (.str k t')=true↔k=y;simp [Value.isStrOf]
 unfold setAddHashed setAddHashedIn;refine zR (za (wpAny_setState_of ho hd hf ?_));dsimp only;rw [byScan_of hsc hb hel];simp only [↓reduceIte];unfold setAddByScan;refine za ?_;refine za (jd ?_);refine za (wpAny_setScan_of hkey ho hd hf hel ?_)
 cases hr:List.findIdx? (fun e=>(PySem.strKind prog w).is x e.2) es.toList with
 | some j =>
  dsimp only;obtain ⟨hj,hpj,_⟩:=List.findIdx?_eq_some_iff_getElem.mp hr;have hx:x∈ss:=hp.mem_iff.mp (zG.mpr ⟨es.toList[j],jn hj,(key _ (jn hj) x).mp hpj⟩);refine zc (zc ?_)
  have e:s = { s with heap:=s.heap }:=by cases s; rfl
  rw [e];exact h s.heap _ (Heap.SameBut.refl a s.heap) ⟨o,es,ep,t,ho,hex,hd,hel,by rw [QfW,if_pos hx]; exact hp,hb,hf,hpl,hled⟩
 | none =>
  dsimp only
  have hx:x∉ss:=fun hx=>by
   obtain ⟨e,he,q⟩:=zG.mp (hp.mem_iff.mpr hx)
   have:=List.findIdx?_eq_none_iff.mp hr e he
   rw [(key e he x).mpr q] at this;exact Bool.noConfusion this
  have hgw:∀(b:Bool) {s₁:Shared}{Q':Unit→Shared→Prop},Q' () s₁→wpAny (model prog w) A (match b with | true=>rule "set.scan.the-table-gave-way" | false=>pure ()) Q' E s₁ :=
   fun b s₁ Q' hq=>by cases b <;> first | exact zc hq | exact jd hq
  have hperm:=layNew_perm t es ((PySem.strKind prog w).hash x) (.str x tk);have hfits:=layNew_fits t es ((PySem.strKind prog w).hash x) (.str x tk);have hll:=QtT t es ((PySem.strKind prog w).hash x) (.str x tk)
  generalize hL:layNew t es ((PySem.strKind prog w).hash x) (.str x tk)=L at hperm hfits hll ⊢
  obtain ⟨es1,t1,wasDummy,gave⟩:=L;dsimp only at hperm hfits hll ⊢;rw [Array.toList_push] at hperm;have hel1:ElemsOf (PySem.strKind prog w) es1.toList:=(hel.push hkey hsc).perm hperm
  have hp1:(Qi9 es1).Perm (QfW ss x):=by
   rw [QfW,if_neg hx];refine (hperm.map fun e=>strOf e.2).trans ?_;rw [zM];exact hp.append_right _
  have hb1':es1.size < scanBound:=by rw [←Array.length_toList,hperm.length_eq,zn,Array.length_toList]; simpa using hb1
  refine za (hgw _ ?_)
  split
  ·refine za ?_;refine za (m:=hashByValue 8 (.str x tk)) (zc ?_);refine zc ?_;simp only [Bool.false_eq_true,↓reduceIte];refine Qlm (t2:={ t1 with plain:=false }) ?_ ho hex hd hel1 hp1 hb1' (SetTable.fits_plain_off hfits) rfl (hll.trans hled) ?_
   ·intro b s₁ Q' hq; cases b <;> first | exact zc hq | exact jd hq
   ·intro h' hsb hS'; dsimp only; exact zc (h h' _ hsb hS')
  ·rename_i hnp;refine za (zc ?_);simp only [↓reduceIte];refine Qlm ?_ ho hex hd hel1 hp1 hb1' hfits (by simpa using hnp) (hll.trans hled) ?_
   ·intro b s₁ Q' hq; cases b <;> first | exact zc hq | exact jd hq
   ·intro h' hsb hS'; dsimp only; exact zc (h h' _ hsb hS')
theorem isS (x:Str) (t:Tok):(PySem.strKind prog w).is x (.str x t)=true:=by
 show Value.isStrOf x (.str x t)=true;simp [Value.isStrOf]
theorem map_getD (ns:List Str):(List.range' 0 ns.length).map (fun i=>ns.getD i ⟨#[]⟩)=ns:=by
 apply List.ext_getElem
 ·simp
 ·intro i h1 h2;simp [jf,h2]
theorem QpQ {R:Result→Shared→Prop}{I:Addr}{fp wr:List Addr}{G:Array GenState→Array GenState→Prop}{n:Nat}{P:Nat→Value→Prop}{St:Nat→Shared→Prop} (W:WalksS prog w A.in1 I fp wr G n P St) (S:Addr) (hSf:S∉fp)
  (val:Nat→Str) (hval:∀i v,P i v→∃t,v = .str (val i) t) (hb:n+1 < scanBound) :
  ∀(k i:Nat) (s:Shared) (ss:List Str),n - i=k→i≤n→St i s→ss.length≤i→QdD prog w s.heap S ss →
   (∀s',Moved (S::wr) G s s'→QdD prog w s'.heap S (((List.range' i (n - i)).map val).foldl QfW ss)→R (.ok (.ret .none)) s') →
   codeAny (model prog w) A (.builtin "set.update.loop" ⟨[.ref S,.ref I],[]⟩) R s:=by
 have hSw:S∉wr:=fun h=>hSf (W.sub _ h)
 have hsub:∀b∈wr,b∈S::wr:=fun b hb=>zx _ hb
 intro k
 induction k with
 | zero =>
  intro i s ss hk hi hst hle hS hR
  have hin:i=n:=by omega
  subst hin;refine jh PyProof.Rows.F.entry_set_update_loop ?_;rw [Around.under_plainId PyProof.Rows.F.plain_set_update_loop _];show wpAny _ A.in1 (pyNext (.ref I) >>= _) _ _ s;refine za (W.done s _ _ hst fun s' hm=>?_);show wpAny _ A.in1 (ret Value.none) _ _ s';refine zc (hR s' (hm.mono hsub) ?_);rw [Nat.sub_self]
  exact hS.at fun o e=>hm.heap S _ hSw e
 | succ k ih =>
  intro i s ss hk hi hst hle hS hR
  have hlt:i < n:=by omega
  refine jh PyProof.Rows.F.entry_set_update_loop ?_;rw [Around.under_plainId PyProof.Rows.F.plain_set_update_loop _];show wpAny _ A.in1 (pyNext (.ref I) >>= _) _ _ s;refine za (W.item i s _ _ hlt hst fun v s' hP hst' hm=>?_);obtain ⟨t,rfl⟩:=hval i v hP
  have hS':QdD prog w s'.heap S ss:=hS.at fun o e=>hm.heap S _ hSw e
  show wpAny _ A.in1 (holding [Value.str (val i) t] (setAdd S (.str (val i) t)) >>= _) _ _ s';refine za (zR ?_);unfold setAdd;refine zR ?_;refine za ((PySem.strKind prog w).pyHash (k:=val i) (isS _ _) ?_)
  refine Qq6 (s:={ s' with toks:=s'.toks+1 }) hS' (by omega) fun h' b hsb hS2=>?_
  refine zc ⟨plainId_quiet PyProof.Rows.F.plain_set_update_loop _,ih (i+1) _ (QfW ss (val i)) (by omega) hlt (W.frame _ s' _ _ hst' (Nat.le_succ _) fun b hb o e=>?_) ?_ hS2 fun s'' hm'' hS''=>?_⟩
  ·rw [hsb.2 b (fun h:b=S=>hSf (by rw [←h]; exact hb))]; exact e
  ·unfold QfW
   split
   ·omega
   ·rw [zn,zS]; omega
  ·refine hR s'' (Moved.trans W.gtrans ((hm.mono hsub).then_heap (Nat.le_succ _) fun b o hb e=>?_) hm'') ?_
   ·rw [hsb.2 b (fun h:b=S=>hb (by rw [h]; exact zm))]; exact e
   ·rw [show n - i=(n - (i+1))+1 by omega,List.range'_succ,zf,List.foldl_cons];exact hS''
theorem QqM (x:Value) {Q₁:Value→Shared→Prop}
  (h:Q₁ (.ref s.heap.objs.size) { s with heap:=s.heap.push { cls:=.type "set",dict:=none,data:=.set #[] 0 (.fresh 0 0 (!w.params.followText "set-order")) } }) :
  codeAny (model prog w) A (.call (.builtin "set.__new__") ⟨[.type "set",x],[]⟩) (wants Q₁ E) s:=by
 refine codeAny_of_tree ?_;show wpAny _ A.in1 (do checkBuiltinCall "set.__new__" ⟨[.type "set",x],[]⟩; again (.builtin "set.__new__" ⟨[.type "set",x],[]⟩)) _ _ s;refine za (wpAny_of_eq (PySem.F.newCall_set_1 x) (zc ⟨plainId_quiet PySem.F.plain_set_new _,jh PySem.F.entry_set_new ?_⟩));rw [Around.under_plainId PySem.F.plain_set_new _];unfold Builtin.«set.__new__» Builtin.Frozenset.newClass;have hsub:=sub_set_self;obtain ⟨hp,g,d,tk,os⟩:=s;dsimp only
 wp_walk
 refine wpAny_askSetting (zc ?_);dsimp only;simp only [newObj];refine za (wpAny_alloc (zc ?_));exact zc h
theorem QpL {h:Heap}:QdD prog w (h.push { cls:=.type "set",dict:=none,data:=.set #[] 0 (.fresh 0 0 (!w.params.followText "set-order")) }) h.objs.size [] :=
 ⟨_,#[],0,_,zA _ rfl,⟨rfl,rfl,rfl⟩,rfl,fun e he=>by simp at he,.nil,by decide,by rfl,.inl rfl,rfl⟩
set_option maxHeartbeats 8000000 in
theorem Qs5 {l:Addr}{items:Array Value}{ns:List Str}{Q:Value→Shared→Prop}
  (hh:A.handled=none) (hl:s.heap.IsList l items) (hi:StrsAre items.toList ns) (hb:items.size+1 < scanBound)
  (h:∀(h':Heap) (tk:Nat),QdD prog w h' s.heap.objs.size (ns.foldl QfW []) →
   (∀b o,s.heap.get? b=some o→h'.get? b=some o)→Q (.ref s.heap.objs.size) { s with heap:=h',toks:=tk }) :
  wpAny (model prog w) A (call (.type "set") [.ref l]) Q E s:=by
 obtain ⟨c,tl,hmro⟩:=PySem.F.called_set.mro;have hmade:=PySem.F.called_set.made;have hsub:=PySem.F.called_set.sub;refine wpAny_call (codeAny_of_tree ?_);show wpAny _ _ (callAny (.type "set") _) _ _ _;refine zc ⟨Code.quiet_builtin _ (by decide +kernel),jh PySem.F.entry_type_call ?_⟩;rw [Around.under_plain (weight_type_call_type "set" [.ref l] []) rfl];have h1:=PySem.F.called_set.notType;have h2:=PySem.F.called_set.canCreate;have hct:=PySem.F.typeCall_set_1 (.ref l)
 repeat (any_goals (first | assumption | wp_step))
 generalize hO:({ cls:=.type "set",dict:=none,data:=.set #[] 0 (.fresh 0 0 (!w.params.followText "set-order")) }:Obj)=O0
 refine codeAny_mono (QqM (.ref l) (E:=E) (Q₁:=fun obj s₁=>obj = .ref s.heap.objs.size∧s₁ = { s with heap:=s.heap.push O0 }) (by rw [hO]; exact ⟨rfl,rfl⟩)) fun r s₁ hr=>?_
 cases r with
 | error e=>exact hr
 | ok fl =>
  cases fl with
  | ret obj =>
   obtain ⟨rfl,rfl⟩:=hr
   have hfr:QdD prog w (s.heap.push O0) s.heap.objs.size []:=by rw [←hO]; exact QpL
   have hS:(s.heap.push O0).get? s.heap.objs.size=some O0:=by rw [←hO]; exact zA _ rfl
   have hcls:O0.cls = .type "set":=by rw [←hO]
   have hdat:O0.data = .set #[] 0 (.fresh 0 0 (!w.params.followText "set-order")):=by rw [←hO]
   have hT:Shared.TypeIs { s with heap:=s.heap.push O0 } (.ref s.heap.objs.size) "set":=⟨_,hS,hcls⟩;have hli:=PySem.F.called_set.init.lookup;have hbi:=PySem.F.called_set.init.bind (.ref s.heap.objs.size)
   repeat (any_goals (first | assumption | wp_step))
   refine codeAny_mono (codeAny_call_builtin (R:=wants (fun r s₂=>r = .none∧∃h' tk,s₂ = { s with heap:=h',toks:=tk } ∧
     QdD prog w h' s.heap.objs.size (ns.foldl QfW []) ∧
     (∀b o,s.heap.get? b=some o→h'.get? b=some o)) E) PySem.F.called_set.init.plain PySem.F.entry_set_init (check_set_init_1 hT ?_)) fun r₂ s₂ hr₂=>?_
   ·subst hO;obtain ⟨ol,hol,hcl,nl,hdl⟩:=hl;obtain ⟨ocls,odict,odata,oslots⟩:=ol;simp only at hcl hdl;subst hcl; subst hdl;have hol':(s.heap.push { cls:=.type "set",dict:=none,data:=.set #[] 0 (.fresh 0 0 (!w.params.followText "set-order")) }).get? l=some { cls:=.type "list",dict:=odict,data:=.seq items nl,slots:=oslots }:=zl _ hol;have hsls:=PySem.F.sub_list_set;have hslf:=PySem.F.sub_list_frozenset
    have hne:(Value.type "list" == Value.type "dict")=false:=by decide
    have hl1:(s.heap.push { cls:=.type "set",dict:=none,data:=.set #[] 0 (.fresh 0 0 (!w.params.followText "set-order")) }).IsList l items:=⟨_,hol',rfl,nl,rfl⟩;unfold Builtin.«set.__init__» noKeywords Builtin.Frozenset.updateFrom
    generalize hPI:pyIter=PI
    wp_walk
    subst hPI;refine wpAny_pyIter_list hl1 ?_;refine za (wpAny_runValue ?_);have hlS:l < s.heap.objs.size:=zg hol
    have hh3:A.in1.in1.in1.handled=none:=by simp [hh]
    have hneI:l≠(s.heap.push { cls:=.type "set",dict:=none,data:=.set #[] 0 (.fresh 0 0 (!w.params.followText "set-order")) }).objs.size:=by
     rw [Heap.size_push]; exact zv (jg hlS)
    have hSf:s.heap.objs.size∉[(s.heap.push { cls:=.type "set",dict:=none,data:=.set #[] 0 (.fresh 0 0 (!w.params.followText "set-order")) }).objs.size,l]:=by
     rw [Heap.size_push]; simp only [zt,zy,List.not_mem_nil,or_false,not_or];exact ⟨zv (jc _),Nat.ne_of_gt hlS⟩
    have hnl:ns.length=items.size:=by rw [←hi.strs,zd,Array.length_toList]
    have hval:∀(i:Nat) (v:Value),items[i]? = some v→∃t,v = .str ((fun i=>ns.getD i ⟨#[]⟩) i) t:=fun i v hv=>by
     have hv':items.toList[i]? = some v:=by rw [Array.getElem?_toList]; exact hv
     obtain ⟨x,t,rfl⟩:=hi.all v (zQ hv');refine ⟨t,?_⟩
     have hm:(items.toList.map strOf)[i]? = some x:=by rw [zD,hv']; rfl
     rw [hi.strs] at hm;show Value.str x t=Value.str (ns.getD i ⟨#[]⟩) t;rw [jf,hm];rfl
    refine QpQ ((Walks.list hh3 _ l hneI items).toS) s.heap.objs.size
     hSf (fun i=>ns.getD i ⟨#[]⟩) hval hb (items.size - 0) 0 _ [] (by omega) (Nat.zero_le _)
     ⟨⟨_,zA _ rfl,rfl,rfl⟩,(hl1.push _)⟩ (ze _) (QpL.at fun o e=>zl _ e) ?hR
    intro s' hm hS';rw [Nat.sub_zero,←hnl] at hS';rw [map_getD] at hS';obtain ⟨h',g',d',tk',os'⟩:=s';have eg:g'=s.gens:=hm.gens;have ed:d'=s.drawn:=hm.drawn;have eo:os'=s.os:=hm.os;subst eg; subst ed; subst eo;show wpAny _ _ _ _ _ _;refine zc ?_;show wpAny _ _ (ret Value.none) _ _ _;refine zc ⟨rfl,h',tk',rfl,hS',fun b o e=>?_⟩;have hb':=zg e;have hb1:b≠s.heap.objs.size:=zv hb'
    have hb2:b≠(s.heap.push { cls:=.type "set",dict:=none,data:=.set #[] 0 (.fresh 0 0 (!w.params.followText "set-order")) }).objs.size:=by
     rw [Heap.size_push]; exact zv (jg hb')
    exact hm.heap b o (by simp only [zt,zy,List.not_mem_nil,or_false,not_or]; exact ⟨hb1,hb2⟩) (zl _ (zl _ e))
   ·cases r₂ with
    | error e=>exact hr₂
    | ok fl₂ =>
     cases fl₂ with
     | ret r =>
      obtain ⟨rfl,h',tk,rfl,hS',hk'⟩:=hr₂
      repeat (any_goals (first | assumption | wp_step))
      exact h _ _ hS' hk'
     | _=>exact hr₂.elim
  | _=>exact hr.elim
end
def ItS (h:Heap) (I a:Addr) (first:Value) (i n ep:Nat):Prop:=∃o,h.get? I=some o∧o.cls = .type "set_iterator"∧o.data = .fields #[first,.int i 0,.ref a,.int n 0,.int ep 0]
section
variable {prog:Program}{w:World}{A:Around}{E:Value→Shared→Prop}{s:Shared}{a:Addr}{ss:List Str}{o:Obj}{es:Array (Int×Value)}{ep:Nat}{t:SetTable}
theorem ItS.typeIs {I:Addr}{first:Value}{i n:Nat} (h:ItS s.heap I a first i n ep):s.TypeIs (.ref I) "set_iterator":=let ⟨o,h1,h2,_⟩:=h; ⟨o,h1,h2⟩
end
section
variable {prog:Program}{w:World}{A:Around}{E:Value→Shared→Prop}{s:Shared}{a:Addr}{ss:List Str}{o:Obj}{es:Array (Int×Value)}{ep:Nat}{t:SetTable}
theorem ItS.at {h h':Heap}{I:Addr}{first:Value}{i n:Nat} (x:ItS h I a first i n ep) (e:∀o,h.get? I=some o→h'.get? I=some o):ItS h' I a first i n ep:=let ⟨o,ho,r⟩:=x; ⟨o,e _ ho,r⟩
theorem QoK.at {h h':Heap} (x:QoK prog w h a ss o es ep t) (e:∀o,h.get? a=some o→h'.get? a=some o):QoK prog w h' a ss o es ep t:=⟨e _ x.1,x.2⟩
end
section
variable {X:Cx}
variable {md:List Md}{P:Pt}
end
structure Qze (mg:Str→Option Value):Prop extends Qu9 mg where
 set_:mg "set" = none
def lt2 (a1 a2 b1 b2:Str):Bool:=if a1=b1 then decide (a2.cps.toList < b2.cps.toList) else decide (a1.cps.toList < b1.cps.toList)
section
variable {prog:Program}{w:World}{A:Around}{E:Value→Shared→Prop}{s:Shared}{K:Frag}{H F:Hp}{as:List Addr}
end
section
variable {X:Cx}
end
end L2
namespace L2
open PySem PySem.Spec PyProof.Rows
section
variable {X:Cx}{md:List Md}{P:Pt}{R:RR}
end
section
variable {X:Cx}{md:List Md}{P:Pt}
variable {tg iter elt:Expr}{ifs:List Expr}{scope:Scope}{pos:Pos}{mi:M D}{g:MG}{t:M Bool}{e:M D}
end
end L2
namespace L2
open PySem PySem.Spec PyProof.Rows PySem.W
section
variable {X:Cx}{md:List Md}{P:Pt}{R:RR}
def Qo1 (K:Frag) (mg:Str→Option Value) (md:List Md) (P:Pt) (R:RR) (W:Xc→Hp→Prop) (D:Ends) (H F:Hp) (as:List Addr):Fl→Prop
 | .ex x O'=>∀H' F' as',GrS P H F as H' F' as'→RlO K mg O' H' F' as'→W x H'
 | f=>QgP K mg md P R D H F as f
theorem Qo1.gr {K:Frag}{mg:Str→Option Value}{W:Xc→Hp→Prop}{D:Ends}{H F H' F':Hp}{as as':List Addr}{f:Fl} (g:GrS P H F as H' F' as') (h:Qo1 K mg md P R W D H F as f):Qo1 K mg md P R W D H' F' as' f:=by
 cases f with
 | ex x O'=>exact fun H2 F2 as2 g2 r2=>h H2 F2 as2 (g.trans g2) r2
 | nx ρ' O'=>exact fun σ' H2 F2 as2 g2 r2 s2=>h σ' H2 F2 as2 (g.trans g2) r2 s2
 | bk ρ' O'=>exact fun σ' H2 F2 as2 g2 r2 s2=>h σ' H2 F2 as2 (g.trans g2) r2 s2
 | ct ρ' O'=>exact fun σ' H2 F2 as2 g2 r2 s2=>h σ' H2 F2 as2 (g.trans g2) r2 s2
 | rt d O'=>exact fun v H2 F2 as2 g2 r2 s2=>h v H2 F2 as2 (g.trans g2) r2 s2
 | no=>exact h
end
section
variable {X:Cx}{md:List Md}{P:Pt}{R:RR}
end
theorem Qbe.has {P:Program}{w:World}{H:Hp}{h:Heap}{a:Addr}{o:HO} (x:Qbe P w H h a o):∃u,h.get? a=some u:=by
 cases o with
 | lst xs=>exact let ⟨_,_,_,_,e⟩:=x; ⟨_,e⟩
 | tup xs=>exact let ⟨_,_,_,_,e,_⟩:=x; ⟨_,e⟩
 | dK kvs=>exact let ⟨_,_,_,_,_,_,_,e,_⟩:=x; ⟨_,e⟩
 | dT kvs=>exact let ⟨_,_,_,_,_,_,_,e,_⟩:=x; ⟨_,e⟩
 | set S n=>exact let ⟨_,_,_,_,e,_⟩:=x; ⟨_,e⟩
 | ins C dx fs=>exact let ⟨_,_,_,e,_⟩:=x; ⟨_,e⟩
 | own y=>exact let ⟨_,e⟩:=x; ⟨_,e⟩
 | xd fs=>exact let ⟨_,⟨_,_,_,e,_⟩,_⟩:=x; ⟨_,e⟩
 | rng lo hi=>exact let ⟨_,_,_,e⟩:=x; ⟨_,e⟩
 | frz ob u=>exact ⟨_,x.1⟩
 | tbl ps=>exact ⟨_,x⟩
 | met f y=>exact ⟨_,x⟩
 | ext φ=>exact x.2.1
theorem HOk.only {P:Program}{w:World}{H:Hp}{h h':Heap} (x:HOk P w H h) (k:∀b v u,H b=some v→h.get? b=some u→h'.get? b=some u):HOk P w H h':=fun a o e =>
 (x a o e).stay (fun b u hb q=>by
  rcases hb with rfl | hb
  ·exact k _ _ u e q
  ·exact k b _ u hb q) (fun _ q=>q) fun _ _ q=>q
theorem Un.then {fs:List Addr}{H0 H:Hp}{h0 h1 h2:Heap} (u:Un fs [] H0 H h0 h1) (st:∀b o,h1.get? b=some o→b∉fs→(∃o',h0.get? b=some o')→h2.get? b=some o)
  (fr:∀b o,h1.get? b=some o→b∈fs→∃sl,h2.get? b=some { o with slots:=sl }):Un fs [] H0 H h0 h2 where
 keep:=fun b o q n nf nx=>st b o (u.keep b o q n nf nx) nf ⟨o,q⟩
 slot:=fun b o q n hb nx=>by
  obtain ⟨sl,e⟩:=u.slot b o q n hb nx;obtain ⟨sl2,e2⟩:=fr b _ e hb;exact ⟨sl2,e2⟩
 free:=u.free
 there:=fun b o q nx=>by
  obtain ⟨o',e⟩:=u.there b o q nx
  by_cases hb:b∈fs
  ·obtain ⟨sl,e2⟩:=fr b o' e hb;exact ⟨_,e2⟩
  ·exact ⟨o',st b o' e hb ⟨o,q⟩⟩
 tups:=u.tups
 frzs:=u.frzs
 tbls:=u.tbls
def CXE (Pr:Program) (w:World):CXT:=fun outer H s E e s'=>∃(ea C:Addr) (H':Hp) (B:Heap) (a0:Value),e = .ref ea∧s'.os=s.os∧AllBare s'.gens∧Un (frs outer) [] H H' s.heap s'.heap∧HOk Pr w H' s'.heap ∧
 Heap.FlyingW B outer ea (.ref C) a0 s'.heap∧(∀b u,H' b=some u→∃o,B.get? b=some o)∧(∀b o,s.heap.get? b=some o→b∉frs outer→∃o',B.get? b=some o')∧E (.ref C) none H'
def Quw (P:Program) (w:World) (K:Frag) (mg:Str→Option Value) (base:Heap) (x:Str) (ps:List Str) (k:Nat) (sp:Sp):Prop :=
 ∃f fd,mg x=some (.ref f)∧keepIn K (.ref f)=true∧Binds K fd ps []∧Qcc P w K mg base (CXE P w) k f fd ps sp∧∃oc od osl,K.lookup f=some ⟨oc,od,.func fd,osl⟩
def QwC (K:Frag) (mg:Str→Option Value) (R:RR) (H F:Hp) (as:List Addr) (Q:VK) (E:XK):Res D→Prop
 | .ok d O'=>∀v H' F' as',Gr H F as H' F' as'→RlO K mg O' H' F' as'→R (fun a=>H a=none) H' F' as' v d→Q v H'
 | .ex x O'=>∀C H' F' as',mg x.cls=some (.ref C)→Gr H F as H' F' as'→RlO K mg O' H' F' as'→E (.ref C) none H'
 | .no=>False
def Qu4 (K:Frag) (mg:Str→Option Value) (pm:List Md) (R:RR) (c:List D→Qac→Res D):Sp:=fun vs H Q E =>
 ∃ds O F as,RlO K mg O H F as∧Qbs K H F as pm vs ds∧QwC K mg R H F as Q E (c ds O)
section
variable {Pr:Program}{w:World}{K:Frag}{mg:Str→Option Value}{base:Heap}
theorem Quw.can {x:Str}{ps:List Str}{k:Nat}{pm:List Md}{R:RR}{c:List D→Qac→Res D} (C:Quw Pr w K mg base x ps k (Qu4 K mg pm R c)) (hl:pm.length=ps.length:=by rfl):Can Pr w K mg base x ps k (vSp K mg pm R c):=by
 obtain ⟨f,fd,hm,hk,hb,Fn,lk⟩:=C;refine ⟨f,fd,hm,hk,hb,⟨fun vs H Q E h=>?_,fun A outer s H args us vs Q E hr e0 hbi r h=>?_⟩,lk⟩
 ·obtain ⟨ds,O,F,as,d,O',r,a,_⟩:=h;rw [a.len.1,hl]
 ·obtain ⟨ds,O,F,as,d,O',ro,a,e,q⟩:=h
  have z:Qu4 K mg pm R c vs H Q fun _ _ _=>False:=⟨ds,O,F,as,ro,a,by rw [e]; exact q⟩
  refine codeAny_mono (Fn.run A outer s H args us vs Q _ hr e0 hbi r z) fun res s' hq=>?_
  cases res with
  | error ev =>
   obtain ⟨_,_,_,_,_,_,_,_,_,_,_,_,_,f0⟩:=hq;exact f0.elim
  | ok fl=>cases fl <;> exact hq
end
section
variable {X:Cx}{pins:List (Addr×Obj)}{σ:St}{H:Hp}{s:Shared}{ea:Addr}{oe:Obj}
end
end L2
namespace L2
open PySem PySem.Spec PyProof.Rows PySem.W PySem.Calls PySem.Builtin PySem.Builtin.ObjectAttr PySem.Builtin.Getset_descriptor
section
variable {prog:Program}{w:World}{A:Around}{E:Value→Shared→Prop}{K:Frag}{a C:Addr}{o:Obj}{h:Heap}{g:Array GenState}{d:Drawn}{t:Nat}{os:OsState}
structure Qzg (K:Frag) (C:Addr):Prop where
 ga:findIn K (.ref C) "__getattribute__" = some (some (.builtin "BaseException.__getattribute__"))
 na:findIn K (.ref C) "__getattr__" = some none
 ca:findIn K (.ref C) "__class__" = some (some (.builtin "object.__class__"))
 sp:specialIn K (.builtin "object.__class__") "__get__" = some (some (.builtin "getset_descriptor.__get__"))
 tk:takesIn K (.builtin "object.__class__")=some true
 ob:mroIn K C (.type "object")=some true
 be:mroIn K C (.type "BaseException")=some true
 cl:(clsIn K C).isSome=true
end
end L2
namespace L2
open PySem PySem.Spec PyProof.Rows PySem.W
section
variable {X:Cx}{ea C:Addr}{oe:Obj}
end
section
variable {X:Cx}{md:List Md}{P:Pt}{R:RR}
end
section
variable {X:Cx}{ea C:Addr}{oe:Obj}{i:Nat}{b:Bool}{n:Str}{p p1 pos:Pos}
end
end L2
namespace L2
open PySem PySem.Spec PyProof.Rows
section
variable {X:Cx}
variable {md:List Md}{P:Pt}
end
end L2
namespace L2
open PySem PySem.Spec PyProof.Rows PySem.W
section
variable {prog:Program}{w:World}{A:Around}{E:Value→Shared→Prop}
end
section
variable {X:Cx}{md:List Md}{P:Pt}{R:RR}
end
def QqX (mg:Str→Option Value):List Str→List Addr→Prop
 | [],as=>as = []
 | n::ns,as=>∃a r,as=a::r∧mg n=some (.ref a)∧QqX mg ns r
theorem QqX.len {mg:Str→Option Value}:∀{ns:List Str}{as:List Addr},QqX mg ns as→as.length=ns.length
 | [],as,h=>by
  have h':as = []:=h;rw [h'];rfl
 | n::ns,as,h=>by
  obtain ⟨a,r,rfl,_,h2⟩:=h;rw [zz,h2.len,zz]
section
variable {X:Cx}{md:List Md}{P:Pt}{R:RR}
end
section
variable {K:Frag}{h:Heap}{mg:Str→Option Value}
theorem mkD {x:Str}{st:Stmt}{f:Addr}{oc:Value}{od an:Option Addr}{sl:Array (Option Value)}{kV dc pm cd ct:Value} (X:K.In h) (G:h.Ns mainGlobals mg) (a:nsIn K mainGlobals x=some (some (.ref f))) (l:K.lookup f=some ⟨oc,od,.func (fnOf x x (Qcu st) (QbF st) (Qam st) .none kV dc pm an cd ct),sl⟩) (c:codeIn K cd x=true) (k:keepIn K (.ref f)=true):Def K mg x st:=⟨_,_,mg_of X G a,QmW l c k⟩
structure ClsAt (K:Frag) (c:Str) (A:Addr):Prop where
 ns:nsIn K mainGlobals c=some (some (.ref A))
 pg:plainGet K A Str.empty=true
 hd:hasDictIn K A=true
 po:plainOver K A=true
 sa:findIn K (.ref A) "__setattr__" = some (some (.builtin "object.__setattr__"))
 mks:makesIn K A=true
 kc:keepIn K (.ref A)=true
def MethAt (K:Frag) (A:Addr) (m qual:Str) (st:Stmt):Prop:=∃f fd,findIn K (.ref A) m=some (some (.ref f))∧isFn K (.ref f)=true∧keepIn K (.ref f)=true∧Fun K m qual st f fd
theorem mkM {A:Addr}{m qual:Str}{st:Stmt}{f:Addr}{oc:Value}{od an:Option Addr}{sl:Array (Option Value)}{kV dc pm cd ct:Value} (a:findIn K (.ref A) m=some (some (.ref f))) (i:isFn K (.ref f)=true) (l:K.lookup f=some ⟨oc,od,.func (fnOf m qual (Qcu st) (QbF st) (Qam st) .none kV dc pm an cd ct),sl⟩) (c:codeIn K cd qual=true) (k:keepIn K (.ref f)=true):MethAt K A m qual st:=⟨_,_,a,i,k,QmW l c k⟩
variable {A:Addr}{c:Str}
theorem ClsAt.cl (z:ClsAt K c A):Cls K A:=⟨z.pg,z.hd,z.po,z.sa⟩
theorem ClsAt.dm (z:ClsAt K c A) (X:K.In h) (G:h.Ns mainGlobals mg) {m qual:Str}{st:Stmt} (q:MethAt K A m qual st):QiL K mg c m qual st:=by
 obtain ⟨f,fd,a,i,k,fu⟩:=q;exact ⟨_,_,_,mg_of X G z.ns,z.cl,⟨a,i,k⟩,fu⟩
theorem ClsAt.dc (z:ClsAt K c A) (X:K.In h) (G:h.Ns mainGlobals mg) {qual:Str}{st:Stmt} (q:MethAt K A "__init__" qual st):QqZ K mg c qual st:=by
 obtain ⟨f,fd,a,i,k,fu⟩:=q;exact ⟨_,_,_,mg_of X G z.ns,⟨z.mks,a,i,z.kc⟩,fu⟩
theorem ClsAt.kf (z:ClsAt K c A) (X:K.In h) (G:h.Ns mainGlobals mg) {f:Str} (n:findIn K (.ref A) f=some none):KC K mg c f:=⟨_,mg_of X G z.ns,z.cl,n⟩
end
end L2
namespace L2
open PySem PySem.Spec PyProof.Rows
section
variable {X:Cx}
def Qi5:List D→Option D
 | [.str l]=>if l.length≤640 then (PySem.intText? (S l)).map D.int else none
 | _=>none
theorem Qtr:QgB X (.type "int") Qi5:=by
 intro pins s σ H xs us Q I rs h;obtain ⟨O,F,as,ds,d,r,hvs,e,k⟩:=h;unfold Qi5 at e;split at e
 ·rename_i l;split at e
  ·rename_i hz;obtain ⟨v,rfl,hv⟩:=hvs.one
   cases hn:PySem.intText? (S l) with
   | none=>rw [hn] at e; cases e
   | some n =>
    rw [hn] at e;cases e;cases (hv.rp rfl).unS;obtain ⟨u,rfl,ru⟩:=vals1 rs;obtain ⟨t,rfl⟩:=ru;exact PySem.W.KIN.call_text hn (by rw [QbI]; exact hz) ⟨.int n,H,I.tok _,⟨_,rfl⟩,Qbi r k rfl Rp.int⟩
  ·cases e
 ·cases e
theorem Qnm {i:Int} (h0:0≤i) (h1:i < 1000000000):Qi5 [.str ((Nat.toDigits 10 i.toNat).map Char.toNat)]=some (.int i):=by
 have z:=Qn7 i h0;have r:=PySem.W.KIN.num_reads h0 (Int.lt_trans h1 (by decide));rw [z] at r
 have hl:((Nat.toDigits 10 i.toNat).map Char.toNat).length≤640:=by
  have:=PySem.W.KT.len_num h0 (Int.lt_trans h1 (by decide))
  rw [z,QbI] at this;exact zF this (by decide)
 show (if ((Nat.toDigits 10 i.toNat).map Char.toNat).length≤640 then (PySem.intText? (S ((Nat.toDigits 10 i.toNat).map Char.toNat))).map D.int else none)=_;rw [if_pos hl,r];rfl
end
def ofO (o:Option D) (O:Qac):Res D:=match o with
 | some d=>.ok d O
 | none=>.no
@[simp] theorem Qbo {d:D}{O:Qac}:ofO (some d) O = .ok d O:=rfl
@[simp] theorem Qaq {α β:Type}{a:α}{O:Qac}{f:α→Qac→Res β}:(Res.ok a O).bind f=f a O:=rfl
@[simp] theorem Qw6 {O:Qac}:QaR O .non = .non:=rfl
@[simp] theorem Qe4 {O:Qac}{b:Bool}:QaR O (.bl b) = .bl b:=rfl
@[simp] theorem Qbg {O:Qac}{b:Int}:QaR O (.int b) = .int b:=rfl
@[simp] theorem Qfr {O:Qac}{b:List Nat}:QaR O (.str b) = .str b:=rfl
@[simp] theorem QbB {O:Qac}{b:List D}:QaR O (.lst b) = .lst b:=rfl
@[simp] theorem Qpn {O:Qac}{b:List D}:QaR O (.tup b) = .tup b:=rfl
@[simp] theorem Qxa {O:Qac}{a b:List D}:QaR O (.dic a b) = .dic a b:=rfl
@[simp] theorem Qci {i:Nat}{ρ:Qal}{O:Qac}:Qaa i ρ O=(match ρ[i]? with | some (some d)=>.ok d O | _=>.no):=rfl
@[simp] theorem m_c {d:D}{ρ:Qal}{O:Qac}:mC d ρ O = .ok d O:=rfl
@[simp] theorem QcT {g:D→D→Option D}{a b:M D}{ρ:Qal}{O:Qac}:Qaf g a b ρ O=(a ρ O).bind fun x O1=>(b ρ O1).bind fun y O2=>ofO (g (QaR O2 x) (QaR O2 y)) O2:=rfl
def gF (r:Res D):Res D:=match r with
 | .ok d O'=>if Qg4 d=true then .ok d O' else .no
 | r=>r
@[simp] theorem m_g {m:M D}{ρ:Qal}{O:Qac}:mG m ρ O=gF (m ρ O):=rfl
@[simp] theorem Qpz {i:Int}{O:Qac}:gF (.ok (.int i) O) = .ok (.int i) O:=rfl
@[simp] theorem Qyt {i:List Nat}{O:Qac}:gF (.ok (.str i) O) = .ok (.str i) O:=rfl
@[simp] theorem Qy5 {i:Bool}{O:Qac}:gF (.ok (.bl i) O) = .ok (.bl i) O:=rfl
@[simp] theorem QyJ {O:Qac}:gF (.ok .non O) = .ok .non O:=rfl
@[simp] theorem QyS {l:List D}{O:Qac}:gF (.ok (.tup l) O) = .ok (.tup l) O:=rfl
@[simp] theorem Qy4 {n:Nat}{O:Qac}:gF (.ok (.ob n) O) = .ok (.ob n) O:=rfl
def chF (o:Option D) (O:Qac) (f:Unit→Res D):Res D:=match o with
 | some (.bl true)=>f ()
 | some (.bl false)=>.ok (.bl false) O
 | _=>.no
@[simp] theorem QyZ {b:Bool}{O:Qac}{f:Unit→Res D}:chF (some (.bl b)) O f=if b=true then f () else .ok (.bl false) O:=by cases b <;> rfl
@[simp] theorem Qx5 {g g':D→D→Option D}{a b c:M D}{ρ:Qal}{O:Qac}:Qeg g g' a b c ρ O=(a ρ O).bind fun x O1=>(b ρ O1).bind fun y O2=>chF (g (QaR O2 x) (QaR O2 y)) O2 fun _=>(c ρ O2).bind fun z O3=>ofO (g' (QaR O3 y) (QaR O3 z)) O3:=by
 unfold Qeg;congr 1
@[simp] theorem QwF {m:M D}{ρ:Qal}{O:Qac}:Qg6 m ρ O=(m ρ O).bind fun d O1=>.ok (.bl (isNon d)) O1:=rfl
@[simp] theorem QyA {m:M D}{ρ:Qal}{O:Qac}:Qee m ρ O=(m ρ O).bind fun d O1=>.ok (.bl (!isNon d)) O1:=rfl
@[simp] theorem Qw5:isNon .non=true:=rfl
@[simp] theorem Qw9 {l:List D}:isNon (.lst l)=false:=rfl
@[simp] theorem Qw4 {l:List D}:isNon (.tup l)=false:=rfl
@[simp] theorem Qw7 {l:List Nat}:isNon (.str l)=false:=rfl
@[simp] theorem Qxb {l:Int}:isNon (.int l)=false:=rfl
@[simp] theorem Qx1 {l:Nat}:isNon (.ob l)=false:=rfl
def teF (d:D) (O:Qac):Res Bool:=match d with
 | .bl b=>.ok b O
 | _=>.no
@[simp] theorem QcL {b:Bool}{O:Qac}:teF (.bl b) O = .ok b O:=rfl
@[simp] theorem QcM {m:M D}{ρ:Qal}{O:Qac}:Qat m ρ O=(m ρ O).bind teF:=rfl
def ofB (o:Option Bool) (O:Qac):Res Bool:=match o with
 | some d=>.ok d O
 | none=>.no
@[simp] theorem QeR {d:Bool}{O:Qac}:ofB (some d) O = .ok d O:=rfl
@[simp] theorem Qhu {m:M D}{ρ:Qal}{O:Qac}:Qcd m ρ O=(m ρ O).bind fun d O1=>ofB (QkQ (QaR O1 d)) O1:=rfl
@[simp] theorem Qf8 {b:Bool}:QkQ (.bl b)=some b:=rfl
@[simp] theorem Qxv {b:List D}:QkQ (.lst b)=some (!b.isEmpty):=rfl
@[simp] theorem Qdk {a b:M Bool}{ρ:Qal}{O:Qac}:QcF a b ρ O=(a ρ O).bind fun c O1=>if c=true then b ρ O1 else .ok false O1:=rfl
@[simp] theorem Qo2 {a b:M Bool}{ρ:Qal}{O:Qac}:Qep a b ρ O=(a ρ O).bind fun c O1=>if c=true then .ok true O1 else b ρ O1:=rfl
@[simp] theorem Qj6 {a:M Bool}{ρ:Qal}{O:Qac}:Qc9 a ρ O=(a ρ O).bind fun c O1=>.ok (!c) O1:=rfl
def anF (d:D) (O:Qac) (f:Unit→Res D):Res D:=match d with
 | .bl true=>f ()
 | .bl false=>.ok (.bl false) O
 | _=>.no
def orF (d:D) (O:Qac) (f:Unit→Res D):Res D:=match d with
 | .bl true=>.ok (.bl true) O
 | .bl false=>f ()
 | _=>.no
@[simp] theorem Qsq {b:Bool}{O:Qac}{f:Unit→Res D}:anF (.bl b) O f=if b=true then f () else .ok (.bl false) O:=by cases b <;> rfl
@[simp] theorem Qy0 {b:Bool}{O:Qac}{f:Unit→Res D}:orF (.bl b) O f=if b=true then .ok (.bl true) O else f ():=by cases b <;> rfl
@[simp] theorem Qpv {a b:M D}{ρ:Qal}{O:Qac}:QgE a b ρ O=(a ρ O).bind fun d O1=>anF d O1 fun _=>b ρ O1:=by
 unfold QgE;congr 1
@[simp] theorem Qy3 {a b:M D}{ρ:Qal}{O:Qac}:QuD a b ρ O=(a ρ O).bind fun d O1=>orF d O1 fun _=>b ρ O1:=by
 unfold QuD;congr 1
def noF (d:D) (O:Qac):Res D:=match d with
 | .bl b=>.ok (.bl (!b)) O
 | _=>.no
@[simp] theorem QyW {b:Bool}{O:Qac}:noF (.bl b) O = .ok (.bl (!b)) O:=rfl
@[simp] theorem QyT {a:M D}{ρ:Qal}{O:Qac}:QoC a ρ O=(a ρ O).bind noF:=rfl
@[simp] theorem Qq3 {t:M Bool}{a b:M D}{ρ:Qal}{O:Qac}:mIf t a b ρ O=(t ρ O).bind fun c O1=>if c=true then a ρ O1 else b ρ O1:=rfl
@[simp] theorem Qb8 {ρ:Qal}{O:Qac}:Qae ρ O = .ok [] O:=rfl
@[simp] theorem QbK {m:M D}{r:M (List D)}{ρ:Qal}{O:Qac}:Qab m r ρ O=(m ρ O).bind fun d O1=>(r ρ O1).bind fun ds O2=>.ok (d::ds) O2:=rfl
@[simp] theorem QoB {r:M (List D)}{ρ:Qal}{O:Qac}:Qbn r ρ O=(r ρ O).bind fun ds O1=>if ds.length≤1000000 then .ok (.lst ds) O1 else .no:=rfl
@[simp] theorem QoI {r:M (List D)}{ρ:Qal}{O:Qac}:QbS r ρ O=(r ρ O).bind fun ds O1=>if ds.length≤1000000 then .ok (.tup ds) O1 else .no:=rfl
@[simp] theorem QcK {c:List D→Qac→Res D}{ma:M (List D)}{ρ:Qal}{O:Qac}:Qau c ma ρ O=(ma ρ O).bind fun ds O1=>c ds O1:=rfl
@[simp] theorem Qd7 {g:List D→Option D}{ma:M (List D)}{ρ:Qal}{O:Qac}:Qav g ma ρ O=(ma ρ O).bind fun ds O1=>ofO (g (ds.map (QaR O1))) O1:=rfl
@[simp] theorem Qxw {g:D→Option D}{ma:M D}{ρ:Qal}{O:Qac}:mUn g ma ρ O=(ma ρ O).bind fun d O1=>ofO (g (QaR O1 d)) O1:=rfl
def isF (n:String) (o:Option String) (O:Qac):Res D:=match o with
 | some t=>.ok (.bl (Qdg t n)) O
 | none=>.no
@[simp] theorem Qrk {n t:String}{O:Qac}:isF n (some t) O = .ok (.bl (Qdg t n)) O:=rfl
@[simp] theorem Qwa {n:String}{m:M D}{ρ:Qal}{O:Qac}:QlR n m ρ O=(m ρ O).bind fun d O1=>isF n (tyD (QaR O1 d)) O1:=rfl
@[simp] theorem Qyp:tyD .non=some "NoneType":=rfl
@[simp] theorem Qys {b:Bool}:tyD (.bl b)=some "bool":=rfl
@[simp] theorem Qx9 {b:Int}:tyD (.int b)=some "int":=rfl
@[simp] theorem Qto {b:List Nat}:tyD (.str b)=some "str":=rfl
@[simp] theorem Qyf {b:List D}:tyD (.lst b)=some "list":=rfl
@[simp] theorem Qyk {b:List D}:tyD (.tup b)=some "tuple":=rfl
@[simp] theorem Qyg {a b:List D}:tyD (.dic a b)=some "dict":=rfl
@[simp] theorem Qzf {ρ:Qal}{O:Qac}:moN ρ O = .ok none O:=rfl
def osF (d:D) (O:Qac):Res (Option Int):=match d with
 | .int i=>.ok (some i) O
 | _=>.no
@[simp] theorem Qsc {i:Int}{O:Qac}:osF (.int i) O = .ok (some i) O:=rfl
@[simp] theorem Qu0 {m:M D}{ρ:Qal}{O:Qac}:moS m ρ O=(m ρ O).bind osF:=rfl
@[simp] theorem QqU {m:M D}{lo hi:M (Option Int)}{ρ:Qal}{O:Qac}:mSl m lo hi ρ O=(m ρ O).bind fun d O1=>(lo ρ O1).bind fun l O2=>(hi ρ O2).bind fun h O3=>ofO (gSl (QaR O3 d) l h) O3:=rfl
@[simp] theorem Qyd {l:List Nat}{lo hi:Option Int}:gSl (.str l) lo hi=if l.length≤16777216 then some (.str (Qbt l lo hi)) else none:=rfl
@[simp] theorem Qn3 {l:List D}{lo hi:Option Int}:gSl (.lst l) lo hi=some (.lst (Qbt l lo hi)):=rfl
@[simp] theorem Qx7 {l:List D}{lo hi:Option Int}:gSl (.tup l) lo hi=some (.tup (Qbt l lo hi)):=rfl
def QgT (f:Fl) (b:MS):Fl:=match f with
 | .nx ρ' O'=>b ρ' O'
 | r=>r
@[simp] theorem QaS {a b:MS}{ρ:Qal}{O:Qac}:Qai a b ρ O=QgT (a ρ O) b:=rfl
@[simp] theorem QaL {ρ:Qal}{O:Qac}{b:MS}:QgT (.nx ρ O) b=b ρ O:=rfl
@[simp] theorem QkT {d:D}{O:Qac}{b:MS}:QgT (.rt d O) b = .rt d O:=rfl
@[simp] theorem Qyb {ρ:Qal}{O:Qac}{b:MS}:QgT (.bk ρ O) b = .bk ρ O:=rfl
@[simp] theorem Qx6 {ρ:Qal}{O:Qac}{b:MS}:QgT (.ct ρ O) b = .ct ρ O:=rfl
@[simp] theorem Qye {b:MS}:QgT .no b = .no:=rfl
@[simp] theorem QbR {ρ:Qal}{O:Qac}:QaP ρ O = .nx ρ O:=rfl
def QjH (r:Res D):Fl:=match r with
 | .ok d O'=>.rt d O'
 | .ex x O'=>.ex x O'
 | .no=>.no
@[simp] theorem QcP {m:M D}{ρ:Qal}{O:Qac}:Qax m ρ O=QjH (m ρ O):=rfl
@[simp] theorem Qf7 {d:D}{O:Qac}:QjH (.ok d O) = .rt d O:=rfl
def Qsb (r:Res D) (ρ:Qal):Fl:=match r with
 | .ok _ O'=>.nx ρ O'
 | .ex x O'=>.ex x O'
 | .no=>.no
@[simp] theorem Qtj {m:M D}{ρ:Qal}{O:Qac}:QiI m ρ O=Qsb (m ρ O) ρ:=rfl
@[simp] theorem Qro {d:D}{O:Qac}{ρ:Qal}:Qsb (.ok d O) ρ = .nx ρ O:=rfl
def ifF (r:Res Bool) (a b:MS) (ρ:Qal):Fl:=match r with
 | .ok c O'=>if c=true then a ρ O' else b ρ O'
 | .ex x O'=>.ex x O'
 | .no=>.no
@[simp] theorem QdU {t:M Bool}{a b:MS}{ρ:Qal}{O:Qac}:QaV t a b ρ O=ifF (t ρ O) a b ρ:=rfl
@[simp] theorem Qdh {c:Bool}{O:Qac}{a b:MS}{ρ:Qal}:ifF (.ok c O) a b ρ=if c=true then a ρ O else b ρ O:=rfl
def Ql2 (i:Nat) (r:Res D) (ρ:Qal):Fl:=match r with
 | .ok d O'=>.nx (ρ.set i (some d)) O'
 | .ex x O'=>.ex x O'
 | .no=>.no
@[simp] theorem Qeu {i:Nat}{m:M D}{ρ:Qal}{O:Qac}:Qas i m ρ O=Ql2 i (m ρ O) ρ:=rfl
@[simp] theorem Qdz {i:Nat}{d:D}{O:Qac}{ρ:Qal}:Ql2 i (.ok d O) ρ = .nx (ρ.set i (some d)) O:=rfl
def Qvz (r:Res (List D)) (g:MG) (b:MS) (ρ:Qal):Fl:=match r with
 | .ok ds O'=>QaZ g b ds ρ O'
 | .ex x O'=>.ex x O'
 | .no=>.no
@[simp] theorem Qc1 {m:M (List D)}{g:MG}{b:MS}{ρ:Qal}{O:Qac}:Qbl m g b ρ O=Qvz (m ρ O) g b ρ:=rfl
@[simp] theorem Qcw {ds:List D}{O:Qac}{g:MG}{b:MS}{ρ:Qal}:Qvz (.ok ds O) g b ρ=QaZ g b ds ρ O:=rfl
@[simp] theorem mg_n {i:Nat}{d:D}{ρ:Qal}:mgN i d ρ=some (ρ.set i (some d)):=rfl
def QaK (f:Fl):Res D:=match f with
 | .rt d O'=>.ok d O'
 | .nx _ O'=>.ok .non O'
 | .ex x O'=>.ex x O'
 | _=>.no
@[simp] theorem Qsu {n:Nat}{b:MS}{ds:List D}{O:Qac}:Qa5 n b ds O=QaK (b (ds.map some++List.replicate (n - ds.length) none) O):=rfl
@[simp] theorem Qga {d:D}{O:Qac}:QaK (.rt d O) = .ok d O:=rfl
@[simp] theorem Qya {ρ:Qal}{O:Qac}:QaK (.nx ρ O) = .ok .non O:=rfl
@[simp] theorem QvF {m:M (List D)}{ρ:Qal}{O:Qac}:QfU m ρ O=(m ρ O).bind fun ds O1=>match ds with
 | [.int j]=>if j≤1000000000∧-1000000000≤j then .ok (Qbp 0 j.toNat) O1 else .no
 | _=>.no:=rfl
def itF (o:Option (List D)) (O:Qac):Res (List D):=match o with
 | some ds=>.ok ds O
 | none=>.no
@[simp] theorem QmJ {ds:List D}{O:Qac}:itF (some ds) O = .ok ds O:=rfl
@[simp] theorem Qqu {m:M D}{ρ:Qal}{O:Qac}:Qba m ρ O=(m ρ O).bind fun d O1=>itF (Qi7 d) O1:=rfl
@[simp] theorem Qld {ds:List D}:Qi7 (.lst ds)=some ds:=rfl
@[simp] theorem Qw3 {ds:List D}:Qi7 (.tup ds)=some ds:=rfl
@[simp] theorem QlX {m:M (List D)}{own:Nat}{cap:List Nat}{g:MG}{t:M Bool}{e:M D}{ρ:Qal}{O:Qac}:Qbm m own cap g t e ρ O=(m ρ O).bind fun ds O1=>if ds.length≤1000000 then (QbC g t e ds (QhC own cap ρ) O1 []).bind fun ys O2=>.ok (.lst ys) O2 else .no:=rfl
@[simp] theorem Qgw {i j:Int}:QaJ (.int i) (.int j)=some (.int (i+j)):=rfl
@[simp] theorem QyD {a b:List Nat}:QaJ (.str a) (.str b)=if a.length+b.length≤1000000 then some (.str (a++b)) else none:=rfl
@[simp] theorem QmB {a b:List D}:QaJ (.lst a) (.lst b)=if a.length+b.length≤1000000 then some (.lst (a++b)) else none:=rfl
@[simp] theorem Qxq {i j:Int}:QdQ (.int i) (.int j)=some (.int (i - j)):=rfl
@[simp] theorem QuZ {i j:Int}:QbA (.int i) (.int j)=if 0 < j then some (.int (i % j)) else none:=by
 unfold QbA gI
 by_cases h:0 < j <;> simp [h]
@[simp] theorem Qtf {i j:Int}:QcX (.int i) (.int j)=if 0 < j∧j < 1073741824 then some (.int (i / j)) else none:=by
 unfold QcX gI
 by_cases h:0 < j∧j < 1073741824 <;> simp [h]
theorem Qkh {i j:Int} (h:(-(2 ^ 64) < i∧i < 2 ^ 64)∨(-(2 ^ 64) < j∧j < 2 ^ 64)):QdH (.int i) (.int j)=some (.int (i * j)):=by
 unfold QdH;dsimp only;rw [if_pos];rw [Bool.or_eq_true];unfold Qd8;rw [zr,zr,decide_eq_true_eq,decide_eq_true_eq,decide_eq_true_eq,decide_eq_true_eq];exact h
@[simp] theorem Qo5 {i j:Int}:gLt (.int i) (.int j)=some (.bl (decide (i < j))):=rfl
@[simp] theorem Qhz {i j:Int}:gGt (.int i) (.int j)=some (.bl (decide (j < i))):=rfl
@[simp] theorem Qwc {i j:Int}:gGe (.int i) (.int j)=some (.bl (decide (j≤i))):=rfl
@[simp] theorem Qr2 {i j:Int}:gLe (.int i) (.int j)=some (.bl (decide (i≤j))):=rfl
theorem Qpm (a b:Nat):(([a]:List Nat) < [b])↔a < b:=by
 constructor
 ·intro h
  rcases List.cons_lt_cons_iff.mp h with h | ⟨_,h⟩
  ·exact h
  ·exact absurd h (List.not_lt_nil _)
 ·intro h;exact List.cons_lt_cons_iff.mpr (.inl h)
@[simp] theorem Qzc {a b:Nat}:gLe (.str [a]) (.str [b])=some (.bl (decide (a≤b))):=by
 show some (D.bl (!decide (([b]:List Nat) < [a])))=_
 have:decide (([b]:List Nat) < [a])=decide (b < a):=by
  by_cases h:b < a
  ·rw [zq h,zq ((Qpm _ _).mpr h)]
  ·rw [zh h,zh (fun z=>h ((Qpm _ _).mp z))]
 rw [this]
 by_cases h:b < a
 ·rw [zq h,zh (by omega)]; rfl
 ·rw [zh h,zq (by omega)]; rfl
@[simp] theorem QwR {i j:Int}:gEq (.int i) (.int j)=some (.bl (decide (i=j))):=rfl
@[simp] theorem QyX {i j:List Nat}:gEq (.str i) (.str j)=some (.bl (decide (i=j))):=rfl
@[simp] theorem Qy6 {i j:Bool}:gEq (.bl i) (.bl j)=some (.bl (decide (i=j))):=rfl
@[simp] theorem Qwi {i j:List D}:gEq (.lst i) (.lst j)=if (okE (.lst i)&&okE (.lst j))=true then some (.bl (Qct (.lst i) (.lst j))) else none:=rfl
@[simp] theorem Qy7 {i j:Int}:gNe (.int i) (.int j)=some (.bl (!decide (i=j))):=rfl
@[simp] theorem Qzb {i j:List Nat}:gNe (.str i) (.str j)=some (.bl (!decide (i=j))):=rfl
@[simp] theorem QyY {i j:Bool}:gNe (.bl i) (.bl j)=some (.bl (!decide (i=j))):=rfl
@[simp] theorem Qst {i j:List D}:gNe (.lst i) (.lst j)=if (okE (.lst i)&&okE (.lst j))=true then some (.bl (!Qct (.lst i) (.lst j))) else none:=rfl
@[simp] theorem QyV {n:Bool}{c:Nat}{l:List Nat}:gIn n (.str [c]) (.str l)=some (.bl (n ^^ decide (c∈l))):=rfl
theorem Qj7 {ds:List D}{i:Int}:gIx (.lst ds) (.int i)=atI ds i:=rfl
theorem Qwx {l:List Nat}{i:Int}:gIx (.str l) (.int i)=if l.length≤1000000 then (atI l i).map (fun c=>.str [c]) else none:=rfl
@[simp] theorem QyE {l:List Nat}:Qa4 [.str l]=if l.length≤1000000 then some (.int l.length) else none:=rfl
@[simp] theorem QjV {l:List D}:Qa4 [.lst l]=some (.int l.length):=rfl
@[simp] theorem QyH {l:List D}:Qa4 [.tup l]=some (.int l.length):=rfl
@[simp] theorem QyO {i j:Int}:Qxj [.int i,.int j]=some (.int (if j > i then j else i)):=rfl
@[simp] theorem Qyz {i j:Int}:Qx2 [.int i,.int j]=some (.int (if j < i then j else i)):=rfl
@[simp] theorem Qyu {i:Int}:QkZ [.int i]=some (.int i):=rfl
@[simp] theorem QyN {b:Bool}:QkZ [.bl b]=some (.int (if b then 1 else 0)):=rfl
@[simp] theorem QyF:Qe6 (.int 10) (.int 18)=some (.int 1000000000000000000):=by rfl
@[simp] theorem Qyq:Qe6 (.int 10) (.int 9)=some (.int 1000000000):=by rfl
@[simp] theorem QgC {α:Type}{xs:List α}{j:Nat}:atI xs (j:Int)=xs[j]?:=by
 unfold atI ixN;rw [if_pos (by omega)]
 by_cases h:j < xs.length
 ·rw [if_pos (by omega)];simp
 ·rw [if_neg (by omega),List.getElem?_eq_none (by omega)];rfl
theorem QmN {α:Type}{xs:List α}{i:Int} (h0:0≤i) (h1:i < xs.length):∃x,atI xs i=some x∧x∈xs:=by
 obtain ⟨j,rfl⟩:=Int.eq_ofNat_of_zero_le h0
 have hj:j < xs.length:=by omega
 exact ⟨xs[j],by show atI xs (j:Int)=_; rw [QgC,zo hj],jn hj⟩
section
variable {c:Prop} [Decidable c]
@[simp] theorem QxE {a b:Fl}:QaK (if c then a else b)=if c then QaK a else QaK b:=by split <;> rfl
@[simp] theorem QxN {a b:Res D}:QjH (if c then a else b)=if c then QjH a else QjH b:=by split <;> rfl
@[simp] theorem QxY {a b:Fl}{r:MS}:QgT (if c then a else b) r=if c then QgT a r else QgT b r:=by split <;> rfl
@[simp] theorem QxA {α β:Type}{a b:Res α}{f:α→Qac→Res β}:(if c then a else b).bind f=if c then a.bind f else b.bind f:=by split <;> rfl
@[simp] theorem Qyo {a b:Res Bool}{x y:MS}{ρ:Qal}:ifF (if c then a else b) x y ρ=if c then ifF a x y ρ else ifF b x y ρ:=by split <;> rfl
@[simp] theorem QxV {a b:Res D}{i:Nat}{ρ:Qal}:Ql2 i (if c then a else b) ρ=if c then Ql2 i a ρ else Ql2 i b ρ:=by split <;> rfl
@[simp] theorem Qyj {a b:Option D}{O:Qac}:ofO (if c then a else b) O=if c then ofO a O else ofO b O:=by split <;> rfl
end
@[simp] theorem QuN:Qdg "str" "str" = true:=by decide
@[simp] theorem QyM:Qdg "int" "str" = false:=by decide
@[simp] theorem QyU:Qdg "bool" "str" = false:=by decide
@[simp] theorem QyI:Qdg "list" "str" = false:=by decide
@[simp] theorem QyL:Qdg "tuple" "str" = false:=by decide
@[simp] theorem QyG:Qdg "dict" "str" = false:=by decide
@[simp] theorem QyC:Qdg "NoneType" "str" = false:=by decide
@[simp] theorem QyK:Qdg "int" "int" = true:=by decide
@[simp] theorem Qyw:Qdg "int" "bool" = false:=by decide
@[simp] theorem Qx4:Qdg "bool" "bool" = true:=by decide
@[simp] theorem Qyn:Qdg "list" "list" = true:=by decide
@[simp] theorem Qx8:Qdg "tuple" "tuple" = true:=by decide
@[simp] theorem Qyh:Qdg "NoneType" "list" = false:=by decide
theorem Qdf {g:MG}{b:MS} (Pv:Nat→Qal→Qac→Prop):∀(ds:List D) (k:Nat) (ρ:Qal) (O:Qac),Pv k ρ O →
  (∀i d ρ O,ds[i]? = some d→Pv (k+i) ρ O→∃ρ1,g d ρ=some ρ1∧∃ρ2 O2,(b ρ1 O = .nx ρ2 O2∨b ρ1 O = .ct ρ2 O2)∧Pv (k+i+1) ρ2 O2)→∃ρ' O',QaZ g b ds ρ O = .nx ρ' O'∧Pv (k+ds.length) ρ' O'
 | [],k,ρ,O,h,_=>⟨ρ,O,rfl,h⟩
 | d::ds,k,ρ,O,h,hs=>by
  obtain ⟨ρ1,e1,ρ2,O2,e2,h2⟩:=hs 0 d ρ O rfl h
  obtain ⟨ρ',O',e3,h3⟩:=Qdf Pv ds (k+1) ρ2 O2 h2 fun i d' ρ' O' hi hp=>by
   have:=hs (i+1) d' ρ' O' (by simpa using hi) (by rw [show k+(i+1)=k+1+i by omega]; exact hp)
   rw [show k+(i+1)+1=k+1+i+1 by omega] at this;exact this
  refine ⟨ρ',O',?_,by rw [zz,show k+(ds.length+1)=k+1+ds.length by omega]; exact h3⟩;unfold QaZ;rw [e1];dsimp only
  rcases e2 with e2 | e2 <;> rw [e2] <;> exact e3
theorem QiD {g:MG}{t:M Bool}{m:M D} (Pv:Qal→Prop) (p:D→Bool):∀(ds:List D) (ρ:Qal) (O:Qac) (acc:List D),Pv ρ→(∀d∈ds,∀ρ,Pv ρ→∃ρ1,g d ρ=some ρ1∧Pv ρ1∧t ρ1 O = .ok (p d) O∧m ρ1 O = .ok d O)→QbC g t m ds ρ O acc = .ok (acc++ds.filter p) O
 | [],ρ,O,acc,_,_=>by simp [QbC]
 | d::ds,ρ,O,acc,h,hs=>by
  obtain ⟨ρ1,e1,h1,e2,e3⟩:=hs d zm ρ h
  have ih:=fun acc=>QiD Pv p ds ρ1 O acc h1 fun d' hd'=>hs d' (zx _ hd')
  unfold QbC;rw [e1];dsimp only;rw [e2]
  cases q:p d with
  | true =>
   dsimp only;rw [e3];dsimp only;rw [ih,List.filter_cons,q];simp
  | false =>
   dsimp only;rw [ih,List.filter_cons,q];simp
@[simp] theorem Qyy {ρ:Qal}{O:Qac}:Qw2 ρ O = .ok [] O:=rfl
@[simp] theorem Qyc {a b:M D}{r:M (List (D×D))}{ρ:Qal}{O:Qac}:QvX a b r ρ O=(a ρ O).bind fun x O1=>(b ρ O1).bind fun y O2=>(r ρ O2).bind fun ps O3=>.ok ((x,y)::ps) O3:=rfl
def diF (o:Option (List Key)) (kv:List (D×D)) (O:Qac):Res D:=match o with
 | some ks=>if ks.Nodup∧kv.length≤15 then .ok (.dic (kv.map (·.1)) (kv.map (·.2))) O else .no
 | none=>.no
@[simp] theorem QxJ {ks:List Key}{kv:List (D×D)}{O:Qac}:diF (some ks) kv O=if ks.Nodup∧kv.length≤15 then .ok (.dic (kv.map (·.1)) (kv.map (·.2))) O else .no:=rfl
@[simp] theorem QyB {m:M (List (D×D))}{ρ:Qal}{O:Qac}:Qv4 m ρ O=(m ρ O).bind fun kv O1=>diF (keysOf kv) kv O1:=rfl
@[simp] theorem Qym {i:Int}:keyOf (.int i)=some (.inl i):=rfl
@[simp] theorem Qyi {i:List Nat}:keyOf (.str i)=some (.inr (S i)):=rfl
@[simp] theorem Qwg:keysOf []=some []:=rfl
@[simp] theorem QvZ {a b:D}{r:List (D×D)}:keysOf ((a,b)::r)=(keyOf a).bind fun k=>(keysOf r).map (k :: ·):=rfl
def joF (o:Option (List (List Nat))) (O:Qac):Res D:=match o with
 | some ls=>if (ls.map List.length).sum≤1000000 then .ok (.str ls.flatten) O else .no
 | none=>.no
@[simp] theorem Qxe {ls:List (List Nat)}{O:Qac}:joF (some ls) O=if (ls.map List.length).sum≤1000000 then .ok (.str ls.flatten) O else .no:=rfl
def jdF (d:D) (O:Qac):Res D:=match d with
 | .lst ds=>joF (QhT ds) O
 | _=>.no
@[simp] theorem Qy2 {ds:List D}{O:Qac}:jdF (.lst ds) O=joF (QhT ds) O:=rfl
@[simp] theorem QyQ {m:M D}{ρ:Qal}{O:Qac}:Qwm m ρ O=(m ρ O).bind fun d O1=>jdF (QaR O1 d) O1:=rfl
@[simp] theorem QwH {own:Nat}{cap:List Nat}{ρ:Qal}:QhC own cap ρ=List.replicate own none++cap.map fun j=>(ρ[j]?).join:=rfl
@[simp] theorem Qw8 {g:MG}{t:M Bool}{m:M D}{ρ:Qal}{O:Qac}{acc:List D}:QbC g t m [] ρ O acc = .ok acc O:=rfl
theorem QhP:∀ds:List D,Qey ds=ds.map toP
 | []=>rfl
 | d::ds=>by rw [Qey,QhP ds]; rfl
theorem QgZ:∀{ds:List D},(∀d∈ds,Qcp d=true)→QeN ds=true
 | [],_=>rfl
 | d::ds,h=>by rw [QeN,h d zm,QgZ fun x hx=>h x (zx _ hx)]; rfl
theorem Qoe {n:Nat} (hn:n < 60) {ds:List D} (h:∀d∈ds,Qcp d=true∧(toP d).canLay0=true∧(toP d).depth≤n):okE (.lst ds)=true:=by
 unfold okE;rw [zr];refine ⟨?_,?_⟩
 ·rw [Qcp]; exact QgZ fun d hd=>(h d hd).1
 ·rw [toP,QhP]
  refine QtC hn fun d hd=>?_
  obtain ⟨x,hx,rfl⟩:=zG.mp hd;exact (h x hx).2
theorem QkR {l:List Nat} (h:∀c∈l,c < 1114112):(PyData.str (S l)).canLay0=true:=by
 show PyData.strOk (S l)=true;unfold PyData.strOk S;simp;exact h
theorem QgA {d:D} (h:okE d=true):Qct d d=true:=by
 unfold okE at h;rw [zr] at h
 have:=h.2
 unfold okD at this;rw [zr] at this;exact SeqAt.eqv_refl _ this.1
def it (f:Int→Int):Nat→Int→Int
 | 0,x=>x
 | n+1,x=>f (it f n x)
def mix (n k:Int):Int:=if n > 1000000000000000000 then it (fun r=>r / 1000000000) k.toNat n % 1000000000
 else
  let m:=it (fun m=>(m * 48271+104729) % 2147483629) (k+2).toNat (n % 2147483647+7919)
  m * m % 998244353 / 11
theorem Qr6 (j:Nat) (x:Int) (h0:0≤x) (h1:x < 2147491566):0≤it (fun m=>(m * 48271+104729) % 2147483629) j x∧it (fun m=>(m * 48271+104729) % 2147483629) j x < 2147491566:=by
 induction j with
 | zero=>exact ⟨h0,h1⟩
 | succ j ih =>
  refine ⟨ja _ (by decide),?_⟩
  have:=jb (it (fun m=>(m * 48271+104729) % 2147483629) j x * 48271+104729) (show (0:Int) < 2147483629 by decide)
  show (it (fun m=>(m * 48271+104729) % 2147483629) j x * 48271+104729) % 2147483629 < _;omega
def Qom:MS:=(Qai (QaV (Qat (Qaf gGt (Qaa 0) (Qaf Qe6 (mC (.int 10)) (mC (.int 18))))) (Qai (Qas 2 (mG (Qaa 0)))
  (Qai (Qbl (QfU (Qab (Qaa 1) Qae)) (mgN 3) (Qas 2 (Qaf QcX (Qaa 2) (Qaf Qe6 (mC (.int 10)) (mC (.int 9))))))
  (Qax (Qaf QbA (Qaa 2) (Qaf Qe6 (mC (.int 10)) (mC (.int 9))))))) QaP)
  (Qai (Qas 4 (Qaf QaJ (Qaf QbA (Qaa 0) (mC (.int 2147483647))) (mC (.int 7919))))
  (Qai (Qbl (QfU (Qab (Qaf QaJ (Qaa 1) (mC (.int 2))) Qae)) (mgN 3) (Qas 4 (Qaf QbA (Qaf QaJ (Qaf QdH (Qaa 4) (mC (.int 48271))) (mC (.int 104729))) (mC (.int 2147483629)))))
  (Qax (Qaf QcX (Qaf QbA (Qaf QdH (Qaa 4) (Qaa 4)) (mC (.int 998244353))) (mC (.int 11)))))))
theorem QfV (lo:Int) (n:Nat):(Qbp lo n).length=n:=by simp [Qbp]
theorem Quq (n k:Int) (h0:0≤k) (h1:k≤1000000) (O:Qac):Qa5 5 Qom [.int n,.int k] O = .ok (.int (mix n k)) O:=by
 unfold mix
 by_cases hn:n > 1000000000000000000
 ·obtain ⟨ρ',O',e,rfl,o3,rfl⟩:=Qdf (g:=mgN 3) (b:=Qas 2 (Qaf QcX (Qaa 2) (Qaf Qe6 (mC (.int 10)) (mC (.int 9)))))
   (fun i ρ O'=>O'=O∧∃o3,ρ = [some (.int n),some (.int k),some (.int (it (fun r=>r / 1000000000) i n)),o3,none]) (Qbp 0 k.toNat) 0 [some (.int n),some (.int k),some (.int n),none,none] O ⟨rfl,none,rfl⟩ (by
    rintro i d ρ O' hi ⟨rfl,o3,rfl⟩;refine ⟨_,rfl,?_⟩;simp;rw [show it (fun r=>r / 1000000000) (i+1) n=it (fun r=>r / 1000000000) i n / 1000000000 from rfl]
    exact ⟨_,_,⟨rfl,rfl⟩,rfl,_,rfl⟩)
  rw [QfV,zZ] at e
  have hk:k≤1000000000∧-1000000000≤k:=by omega
  simp [Qom,hn,hk,e]
 ·have hm0:0≤n % 2147483647+7919:=by have:=ja n (show (2147483647:Int)≠0 by decide); omega
  have hm1:n % 2147483647+7919 < 2147491566:=by have:=jb n (show (0:Int) < 2147483647 by decide); omega
  obtain ⟨ρ',O',e,rfl,o3,rfl⟩:=Qdf (g:=mgN 3) (b:=Qas 4 (Qaf QbA (Qaf QaJ (Qaf QdH (Qaa 4) (mC (.int 48271))) (mC (.int 104729))) (mC (.int 2147483629))))
   (fun i ρ O'=>O'=O∧∃o3,ρ = [some (.int n),some (.int k),none,o3,some (.int (it (fun m=>(m * 48271+104729) % 2147483629) i (n % 2147483647+7919)))]) (Qbp 0 (k+2).toNat) 0 [some (.int n),some (.int k),none,none,some (.int (n % 2147483647+7919))] O ⟨rfl,none,rfl⟩ (by
    rintro i d ρ O' hi ⟨rfl,o3,rfl⟩;refine ⟨_,rfl,?_⟩;obtain ⟨b0,b1⟩:=Qr6 i _ hm0 hm1
    have:=Qkh (i:=it (fun m=>(m * 48271+104729) % 2147483629) i (n % 2147483647+7919)) (j:=48271) (.inr ⟨by decide,by decide⟩)
    simp [this]
    rw [show it (fun m=>(m * 48271+104729) % 2147483629) (i+1) (n % 2147483647+7919)=(it (fun m=>(m * 48271+104729) % 2147483629) i (n % 2147483647+7919) * 48271+104729) % 2147483629 from rfl]
    exact ⟨_,_,⟨rfl,rfl⟩,rfl,_,rfl⟩)
  rw [QfV,zZ] at e
  have hk:k+2≤1000000000∧-1000000000≤k+2:=by omega
  obtain ⟨b0,b1⟩:=Qr6 (k+2).toNat _ hm0 hm1;have hq:=Qkh (i:=it (fun m=>(m * 48271+104729) % 2147483629) (k+2).toNat (n % 2147483647+7919)) (j:=it (fun m=>(m * 48271+104729) % 2147483629) (k+2).toNat (n % 2147483647+7919)) (.inl ⟨by omega,by omega⟩);simp [Qom,hn,hk,e,hq]
def Quz (cs:List Str) (f:Str) (d:D) (O:Qac):Res D:=match d with
 | .ob n=>match O[n]? with
  | some (.ins c fs)=>if c∈cs then match fs.lookup f with
   | some y=>.ok y O
   | none=>.no else .no
  | _=>.no
 | _=>.no
@[simp] theorem QwJ {cs:List Str}{f:Str}{m:M D}{ρ:Qal}{O:Qac}:Qd4 cs f m ρ O=(m ρ O).bind (Quz cs f):=rfl
def puF (cs:List Str) (f:Str) (d:D) (ρ:Qal) (r:Res D):Fl:=match r with
 | .ok (.ob n) O2=>match O2[n]? with
  | some (.ins c fs)=>if c∈cs∧fs.length < 900 then .nx ρ (O2.set n (.ins c (putD f d fs))) else .no
  | _=>.no
 | _=>.no
def sfF (cs:List Str) (f:Str) (mo:M D) (r:Res D) (ρ:Qal):Fl:=match r with
 | .ok d O1=>puF cs f d ρ (mo ρ O1)
 | .ex x O'=>.ex x O'
 | .no=>.no
@[simp] theorem Quy {cs:List Str}{f:Str}{mo mv:M D}{ρ:Qal}{O:Qac}:QfN cs f mo mv ρ O=sfF cs f mo (mv ρ O) ρ:=by
 unfold QfN sfF puF
 cases mv ρ O <;> rfl
@[simp] theorem QvV {cs:List Str}{f:Str}{mo:M D}{d:D}{O:Qac}{ρ:Qal}:sfF cs f mo (.ok d O) ρ=puF cs f d ρ (mo ρ O):=rfl
def meF (c m:Str) (cf:List D→Qac→Res D) (ma:Qac→Res (List D)) (d:D) (O1:Qac):Res D:=match d with
 | .ob n=>match O1[n]? with
  | some (.ins c' fs)=>if c'=c∧(fs.lookup m).isNone=true then (ma O1).bind fun ds O2=>cf (.ob n::ds) O2 else .no
  | _=>.no
 | _=>.no
@[simp] theorem Qup {c m:Str}{cf:List D→Qac→Res D}{mo:M D}{ma:M (List D)}{ρ:Qal}{O:Qac}:Qbh c m cf mo ma ρ O=(mo ρ O).bind (meF c m cf (ma ρ)):=rfl
def mkF (n:Nat) (r:Res D):Res D:=match r with
 | .ok .non O2=>.ok (.ob n) O2
 | .ok _ _=>.no
 | .ex x O2=>.ex x O2
 | .no=>.no
@[simp] theorem Quo {c:Str}{cf:List D→Qac→Res D}{ma:M (List D)}{ρ:Qal}{O:Qac}:Qh0 c cf ma ρ O=(ma ρ O).bind fun ds O1=>mkF O1.length (cf (.ob O1.length::ds) (O1 ++ [.ins c []])):=by
 unfold Qh0;congr 1
@[simp] theorem Qu8 {n:Nat}{O:Qac}:mkF n (.ok .non O) = .ok (.ob n) O:=rfl
def apF (i:Nat) (r:Res D) (ρ:Qal):Fl:=match r with
 | .ok d O'=>match ρ[i]? with
  | some (some (.lst ds))=>if ds.length < 1000000 then .nx (ρ.set i (some (.lst (ds ++ [d])))) O' else .no
  | _=>.no
 | .ex x O'=>.ex x O'
 | .no=>.no
@[simp] theorem Qpc {i:Nat}{m:M D}{ρ:Qal}{O:Qac}:Qcs i m ρ O=apF i (m ρ O) ρ:=rfl
theorem Qpi {i:Nat}{d:D}{ds:List D}{ρ:Qal}{O:Qac} (h:ρ[i]? = some (some (.lst ds))) (hl:ds.length < 1000000):apF i (.ok d O) ρ = .nx (ρ.set i (some (.lst (ds ++ [d])))) O:=by
 unfold apF; dsimp only; rw [h]; dsimp only; rw [if_pos hl]
def exF (i:Nat) (r:Res D) (ρ:Qal):Fl:=match r with
 | .ok d O'=>match ρ[i]?,QaR O' d with
  | some (some (.lst ds)),.lst es=>if ds.length+es.length≤1000000 then .nx (ρ.set i (some (.lst (ds++es)))) O' else .no
  | _,_=>.no
 | .ex x O'=>.ex x O'
 | .no=>.no
@[simp] theorem Qp4 {i:Nat}{m:M D}{ρ:Qal}{O:Qac}:Qe9 i m ρ O=exF i (m ρ O) ρ:=rfl
theorem Qp6 {i:Nat}{es ds:List D}{ρ:Qal}{O:Qac} (h:ρ[i]? = some (some (.lst ds))) (hl:ds.length+es.length≤1000000):exF i (.ok (.lst es) O) ρ = .nx (ρ.set i (some (.lst (ds++es)))) O:=by
 unfold exF; dsimp only [QaR]; rw [h]; dsimp only; rw [if_pos hl]
def enF (d:D) (O1:Qac):Res (List D):=match d with
 | .lst ds=>.ok (Qkt 0 ds) O1
 | .str l=>if ascii l=true then .ok (Qkt 0 (Qfl l)) O1 else .no
 | _=>.no
@[simp] theorem Qyx {m:M D}{ρ:Qal}{O:Qac}:Qwd m ρ O=(m ρ O).bind enF:=rfl
def asF (r:Res D) (g:MG) (ρ:Qal):Fl:=match r with
 | .ok d O'=>match g d ρ with
  | some ρ'=>.nx ρ' O'
  | none=>.no
 | .ex x O'=>.ex x O'
 | .no=>.no
@[simp] theorem QyR {m:M D}{g:MG}{ρ:Qal}{O:Qac}:Qwj m g ρ O=asF (m ρ O) g ρ:=rfl
@[simp] theorem Qzi {i j:Nat}{a b:D}{ρ:Qal}:Qg8 2 (QbE (mgN i) (QbE (mgN j) Qex)) (.tup [a,b]) ρ=some ((ρ.set i (some a)).set j (some b)):=rfl
def stF (a b:D) (O:Qac):Res D:=match a,b with
 | .str l,.str n=>.ok (.bl (decide (l.take n.length=n))) O
 | _,_=>.no
@[simp] theorem QxC {a b:M D}{ρ:Qal}{O:Qac}:QtP a b ρ O=(a ρ O).bind fun x O1=>(b ρ O1).bind fun y O2=>stF x y O2:=rfl
@[simp] theorem Qy1 {l n:List Nat}{O:Qac}:stF (.str l) (.str n) O = .ok (.bl (decide (l.take n.length=n))) O:=rfl
theorem Qlq {t:M Bool}{b:MS} (Pv:Nat→Qal→Qac→Prop):∀(n:Nat) (k:Nat) (ρ:Qal) (O:Qac),k < n→Pv k ρ O →
  (∀k ρ O,Pv (k+1) ρ O→t ρ O = .ok true O∧∃j ρ2 O2,j≤k∧b ρ O = .nx ρ2 O2∧Pv j ρ2 O2)→(∀ρ O,Pv 0 ρ O→t ρ O = .ok false O)→∃ρ' O',QbD t b n ρ O = .nx ρ' O'∧Pv 0 ρ' O'
 | 0,k,ρ,O,hk,_,_,_=>absurd hk (Nat.not_lt_zero _)
 | n+1,0,ρ,O,_,h,_,h0=>by
  refine ⟨ρ,O,?_,h⟩;unfold QbD;rw [h0 ρ O h]
 | n+1,k+1,ρ,O,hk,h,hs,h0=>by
  obtain ⟨e1,j,ρ2,O2,hj,e2,h2⟩:=hs k ρ O h;obtain ⟨ρ',O',e3,h3⟩:=Qlq Pv n j ρ2 O2 (by omega) h2 hs h0;refine ⟨ρ',O',?_,h3⟩;unfold QbD;rw [e1];dsimp only;rw [e2];exact e3
theorem Qb4 {α:Type}{g:MG}{t:M Bool}{m:M D} (Pv:Qal→Prop) (f h:α→D):∀(xs:List α) (ρ:Qal) (O:Qac) (acc:List D),Pv ρ→(∀x∈xs,∀ρ,Pv ρ→∃ρ1,g (f x) ρ=some ρ1∧Pv ρ1∧t ρ1 O = .ok true O∧m ρ1 O = .ok (h x) O)→QbC g t m (xs.map f) ρ O acc = .ok (acc++xs.map h) O
 | [],ρ,O,acc,_,_=>by simp [QbC]
 | x::xs,ρ,O,acc,hp,hs=>by
  obtain ⟨ρ1,e1,h1,e2,e3⟩:=hs x zm ρ hp;rw [zf];unfold QbC;rw [e1];dsimp only;rw [e2];dsimp only;rw [e3];dsimp only;rw [Qb4 Pv f h xs ρ1 O _ h1 fun d' hd'=>hs d' (zx _ hd')];simp
def QvJ:List Nat:=[101,110,100]
def Qsm:List Nat:=[97,110,101,119]
def QpE:List Nat:=[112,108,97,105,110]
def QdT:List Nat:=[115,105,103,110]
def QvO:List Nat:=[105,110,107]
def QnQ:List Nat:=[103,114,111,117,110,100]
def item (p:Int) (k v:List Nat):D:=.tup [.int p,.str k,.str v]
def col (c:Nat):Bool:=decide (c∈[97,98,99,100,101,102,103,104,46])
def QxS (x:Nat):List Nat→List Nat×List Nat×Nat
 | []=>(QdT,[91],0)
 | e::_=>if e=93 then (QnQ,[x],3) else (QdT,[91],0)
def QxK:List Nat→List Nat×List Nat×Nat
 | []=>(QdT,[91],0)
 | x::t=>if col x=true then QxS x t else (QdT,[91],0)
def QxT (x:Nat):List Nat→List Nat×List Nat×Nat
 | []=>(QdT,[91],0)
 | e::_=>if e=93 then (QvO,[x],2) else (QdT,[91],0)
def QxQ:List Nat→List Nat×List Nat×Nat
 | []=>(QdT,[91],0)
 | d::t=>if d=93 then (QpE,[],1) else if d=91 then (QdT,[91],1) else if col d=true then QxT d t else if d=47 then QxK t else (QdT,[91],0)
def one (c:Nat) (t:List Nat):List Nat×List Nat×Nat :=
 if c=10 then (QvJ,[],0) else if c=9 then (Qsm,[],0) else if c=91 then QxQ t else (QdT,[c],0)
def items (p:Int):List Nat→List D
 | []=>[]
 | c::t=>item p (one c t).1 (one c t).2.1::items (p+((one c t).2.2+1:Nat)) (t.drop (one c t).2.2)
termination_by l=>l.length
decreasing_by
 simp only [List.length_drop,zz];omega
def own (p:Int) (c:Nat):D:=if c=10 then item p QvJ [] else if c=9 then item p Qsm [] else item p QdT [c]
def owns:Int→List Nat→List D
 | _,[]=>[]
 | p,c::l=>own p c::owns (p+1) l
def Qxs:List Nat→Bool
 | [a]=>decide (a=91)
 | [a,b]=>decide (a=91)&&(decide (b=47) || col b)
 | [a,b,c]=>decide (a=91)&&(decide (b=47)&&col c)
 | _=>false
def markB:List Nat→Option (List Nat×List Nat)
 | [a,b]=>if a=91∧b=93 then some (QpE,[]) else if a=91∧b=91 then some (QdT,[91]) else none
 | [a,b,c]=>if a=91∧col b=true∧c=93 then some (QvO,[b]) else none
 | [a,b,c,d]=>if a=91∧b=47∧col c=true∧d=93 then some (QnQ,[c]) else none
 | _=>none
def tk (h:List Nat) (c:Nat) (p:Int):List D×List Nat :=
 if Qxs (h ++ [c])=true then ([],h ++ [c]) else match markB (h ++ [c]) with
 | some (k,v)=>([item p k v],[])
 | none=>if c=91 then (owns p h,[91]) else (owns p (h ++ [c]),[])
inductive QjI:List Nat→Prop where
 | h0:QjI []
 | h1:QjI [91]
 | h2:QjI [91,47]
 | h3 (x:Nat) (h:col x=true):QjI [91,x]
 | h4 (x:Nat) (h:col x=true):QjI [91,47,x]
theorem QjI.len {h:List Nat} (H:QjI h):h.length≤3:=by cases H <;> simp
theorem Qgq {n:Nat}{t:M Bool}{b:MS}{ρ:Qal}{O:Qac}:QbZ n t b ρ O=QbD t b n ρ O:=rfl
@[simp] theorem QtU {l:List D}:Qcg [.lst l]=some (.lst l):=rfl
def fzF (f:Fl):Fl:=match f with
 | .rt d O'=>.rt d O'
 | _=>.no
@[simp] theorem Qzd {m:MS}{ρ:Qal}{O:Qac}:QlW m ρ O=fzF (m ρ O):=rfl
@[simp] theorem Qyr {d:D}{O:Qac}:fzF (.rt d O) = .rt d O:=rfl
def ziF (d e:D) (O:Qac):Res (List D):=match d,e with
 | .lst ds,.lst es=>.ok (QhH ds es) O
 | _,_=>.no
@[simp] theorem Qy8 {ma mb:M D}{ρ:Qal}{O:Qac}:QuA ma mb ρ O=(ma ρ O).bind fun d O1=>(mb ρ O1).bind fun e O2=>ziF d e O2:=by
 unfold QuA;congr 1
@[simp] theorem Qy9 {ds es:List D}{O:Qac}:ziF (.lst ds) (.lst es) O = .ok (QhH ds es) O:=rfl
end L2
namespace K64
open PySem L2
seal VE SE OE WE TsE TwE AE VS VSs VG VGs VI VIc VO VIf DPE
def top (i:Nat):Stmt:=PySem.Challenge.pw_outweave_k64_whole_nothing_lost.main.body.getD i (.Pass ⟨0,0,0,0⟩)
local macro_rules | `(tactic| trivial) => `(tactic| exact ⟨rfl, rfl, rfl, by decide +kernel, rfl, by decide +kernel, by decide +kernel⟩)
section
variable {Pr:Program}{w:World}{K:Frag}{mg:Str→Option Value}{base:Heap}
abbrev QhW:Stmt:=top 4
theorem Qnp:QaA ["sign"] ["sign"] (Qam QhW):=by trivial
def QhY:MS :=
  (Qax (mIf (Qat (Qeg gLe gLe (mC (.str [65])) (Qaa 0) (mC (.str [90])))) (mC (.int 2)) (mC (.int 1))))
def QbP:List D→Qac→Res D:=Qa5 1 QhY
abbrev Qf2 (Pr:Program) (w:World) (K:Frag) (mg:Str→Option Value) (base:Heap):Prop:=Can Pr w K mg base "width_of" ["sign"] 1 (vSp K mg [.s] (rV K) QbP)
theorem Qne (QhB:Def K mg "width_of" QhW)
  (B:Qbf mg)
  (NK:Qa6 K=true) :
  Qf2 Pr w K mg base:=by
 refine Qbw (k:=0) (b:=QhY) QhB Qnp (fun _ _ _ _ _ _=>QaB fun _=>Qbk rfl) [.s] [] Qbd (fun _ _ _ _=>Rp.non) (body:=fun f cdv A outer s H E hr P=>?_);refine Qap ?_;refine QaI ?_;refine QlE ?_ Qan Qan;refine QqO QhJ QhJ (Qad (QbG [65])) (Qah 0) (Qad (QbG [90]))
abbrev QfY:Stmt:=top 6
theorem Qnc:QaA ["letters"] ["letters"] (Qam QfY):=by trivial
def Qh8:MS :=
  (Qax (Qav QkF (Qab (Qbm (Qba (Qaa 0)) 1 [] (mgN 0) QbW (Qau QbP (Qab (Qaf gIx (Qaa 0) (mC (.int 0))) Qae))) Qae)))
def QfZ:List D→Qac→Res D:=Qa5 1 Qh8
abbrev QjU (Pr:Program) (w:World) (K:Frag) (mg:Str→Option Value) (base:Heap):Prop:=Can Pr w K mg base "cells_of" ["letters"] 2 (vSp K mg [.s] (rV K) QfZ)
theorem Qnr (Qhw:Def K mg "cells_of" QfY)
  (B:Qbf mg)
  (NK:Qa6 K=true)
  (Qb3:Qf2 Pr w K mg base) :
  QjU Pr w K mg base:=by
 refine Qbw (k:=1) (b:=Qh8) Qhw Qnc (fun _ _ _ _ _ _=>QaB fun _=>Qbk rfl) [.s] [] Qbd (fun _ _ _ _=>Rp.non) (body:=fun f cdv A outer s H E hr P=>?_);refine Qap ?_;refine QaI ?_;refine QaF ?_;refine Qa7 (ms:=[.s]) (hv:=Qp3) (Qpq rfl) B.sum_ ?_;refine Qao ?_ Qaj;refine Qaw ?_;refine Qc4 (Qam QfY) ["letters"] ["letter"] [] rfl (Qcl (Qah 0)) (fun _ _ _ _ P=>?_) (fun _ _ _ _ P=>?_) (fun _ _ _ _ P=>?_);exact QaY (i:=0) (show (QaT ["letters"] ["letter"] []).Nodup by decide +kernel) rfl (.inl rfl);exact Qc7;refine QaM Qb3 (hr.mono (by decide)) ?_;refine Qao ?_ Qaj;refine Qad ?_;refine QaU (Qad (Qag 0)) (Qad Qan)
abbrev Qia:Stmt:=top 8
theorem Qnb:QaA ["letters","place"] ["letters","place"] (Qam Qia):=by trivial
def Qem:MS :=
  (Qai (QaV (Qat (Qaf gEq (Qaa 1) (Qav Qa4 (Qab (Qaa 0) Qae)))) (Qax (mC (.bl true))) QaP)
  (Qax (QgE (Qaf gEq (Qaf gIx (Qaf gIx (Qaa 0) (Qaf QdQ (Qaa 1) (mC (.int 1)))) (mC (.int 0))) (mC (.str [32]))) (Qaf gNe (Qaf gIx (Qaf gIx (Qaa 0) (Qaa 1)) (mC (.int 0))) (mC (.str [32]))))))
def QcC:List D→Qac→Res D:=Qa5 2 Qem
abbrev Qkg (Pr:Program) (w:World) (K:Frag) (mg:Str→Option Value) (base:Heap):Prop:=Can Pr w K mg base "is_break" ["letters","place"] 1 (vSp K mg [.s,.s] (rV K) QcC)
theorem Qny (Qh2:Def K mg "is_break" Qia)
  (B:Qbf mg)
  (NK:Qa6 K=true) :
  Qkg Pr w K mg base:=by
 refine Qbw (k:=0) (b:=Qem) Qh2 Qnb (fun _ _ _ _ _ _=>QaB fun _=>QaB fun _=>Qbk rfl) [.s,.s] [] Qbd (fun _ _ _ _=>Rp.non) (body:=fun f cdv A outer s H E hr P=>?_);refine Qak ?_ ?_;refine Qbr ?_ ?_ Qa2;refine QaW (Qb7 hr) (Qah 1) ?_ (QaN _);refine Qaw ?_;refine Qa7 (ms:=[.s]) (hv:=Qby) Qbx B.len_ ?_;refine Qao (Qah 0) Qaj;refine Qap (QaI Qdt);refine Qap ?_;refine QaI ?_;refine Qix ?_ ?_;refine QaF ?_;refine Qgu (Qb7 hr) ?_ (Qad (QbG [32])) (QaN _);refine Qad ?_;refine QaU ?_ (Qad Qan);refine Qad ?_;refine QaU (Qah 0) ?_;refine Qaw ?_;refine QaE Qko (Qah 1) (Qad Qan);refine QiO ?_;refine QaF ?_;refine Qgu (Qf0 hr) ?_ (Qad (QbG [32])) (QaN _)
 refine Qad ?_;refine QaU ?_ (Qad Qan);refine Qad ?_;refine QaU (Qah 0) (Qah 1)
abbrev QkI:Stmt:=top 9
theorem Qgr:QaA ["letters","lo","wide","end","cells"] ["letters","lo","wide"] (Qam QkI):=by trivial
def Qi3:MS :=
  (Qai (Qas 3 (mG (Qaa 1)))
  (Qai (Qas 4 (mC (.int 0)))
  (Qai (QbZ wF (QcF (Qat (Qaf gLt (Qaa 3) (Qav Qa4 (Qab (Qaa 0) Qae)))) (Qat (Qaf gLe (Qaf QaJ (Qaa 4) (Qau QbP (Qab (Qaf gIx (Qaf gIx (Qaa 0) (Qaa 3)) (mC (.int 0))) Qae))) (Qaa 2)))) (Qai (Qas 4 (Qaf QaJ (Qaa 4) (Qau QbP (Qab (Qaf gIx (Qaf gIx (Qaa 0) (Qaa 3)) (mC (.int 0))) Qae))))
  (Qas 3 (Qaf QaJ (Qaa 3) (mC (.int 1))))))
  (Qax (Qaa 3)))))
def Qd6:List D→Qac→Res D:=Qa5 5 Qi3
abbrev Qhe (Pr:Program) (w:World) (K:Frag) (mg:Str→Option Value) (base:Heap):Prop:=Can Pr w K mg base "reach" ["letters","lo","wide"] 2 (vSp K mg [.s,.s,.s] (rV K) Qd6)
theorem QqS (QkB:Def K mg "reach" QkI)
  (B:Qbf mg)
  (NK:Qa6 K=true)
  (Qb3:Qf2 Pr w K mg base) :
  Qhe Pr w K mg base:=by
 refine Qbw (k:=1) (b:=Qi3) QkB Qgr (fun _ _ _ _ _ _=>QaB fun _=>QaB fun _=>QaB fun _=>Qbk rfl) [.s,.s,.s] [.v,.v] Qbd (fun _ _ _ _=>Rp.non) (body:=fun f cdv A outer s H E hr P=>?_);refine Qak ?_ ?_;refine Qay (i:=3) Qgr.nd rfl (.inl rfl) (Qb2 (Qah 1));refine Qak (Qay (i:=4) Qgr.nd rfl (.inl rfl) Qan) ?_;refine Qak ?_ ?_;refine QeV wF ?_ ?_;refine QiB ?_;refine QiP ?_ ?_;refine QaW QjY (Qad (Qag 3)) ?_ (QaN _);refine Qaw ?_;refine Qa7 (ms:=[.s]) (hv:=Qby) Qbx B.len_ ?_;refine Qao (Qah 0) Qaj;refine Qhi ?_;refine QaW QhJ ?_ (Qah 2) (QaN _);refine Qaw ?_;refine QaE Qbq (Qad (Qag 4)) ?_;refine Qad ?_
 refine QaM Qb3 (hr.mono (by decide)) ?_;refine Qao ?_ Qaj;refine Qad ?_;refine QaU ?_ (Qad Qan);refine Qad ?_;refine QaU (Qah 0) (Qad (Qag 3));refine Qak ?_ ?_;refine Qay (i:=4) Qgr.nd rfl (.inl rfl) ?_;refine QaF ?_;refine QaE Qbq (Qad (Qag 4)) ?_;refine Qad ?_;refine QaM Qb3 (hr.mono (by decide)) ?_;refine Qao ?_ Qaj;refine Qad ?_;refine QaU ?_ (Qad Qan);refine Qad ?_;refine QaU (Qah 0) (Qad (Qag 3));refine Qap ?_;refine Qay (i:=3) Qgr.nd rfl (.inl rfl) ?_;refine QaF ?_;refine QaE Qbq (Qad (Qag 3)) (Qad Qan);refine Qap (QaI (Qag 3))
abbrev QeL:Stmt:=top 10
theorem QbQ:QaA ["letters","lo","wide","ends","cells","filled","place"] ["letters","lo","wide"] (Qam QeL):=by trivial
def Qhm:MS :=
  (Qai (Qas 3 (Qbn Qae))
  (Qai (Qas 4 (mC (.int 0)))
  (Qai (Qas 5 (mC (.int 0)))
  (Qai (Qbl (QgD (Qab (Qaa 1) (Qab (Qav Qa4 (Qab (Qaa 0) Qae)) Qae))) (mgN 6) (Qai (Qas 4 (Qaf QaJ (Qaa 4) (Qau QbP (Qab (Qaf gIx (Qaf gIx (Qaa 0) (Qaa 6)) (mC (.int 0))) Qae))))
  (Qai (QaV (Qat (Qaf gNe (Qaf gIx (Qaf gIx (Qaa 0) (Qaa 6)) (mC (.int 0))) (mC (.str [32])))) (Qas 5 (Qaa 4)) QaP)
  (Qai (QaV (Qat (Qaf gGt (Qaa 5) (Qaa 2))) QlD QaP)
  (QaV (Qcd (Qau QcC (Qab (Qaa 0) (Qab (Qaf QaJ (Qaa 6) (mC (.int 1))) Qae)))) (Qcs 3 (QbS (Qab (Qaf QaJ (Qaa 6) (mC (.int 1))) (Qab (Qaa 5) Qae)))) QaP)))))
  (Qax (Qaa 3))))))
def QeK:List D→Qac→Res D:=Qa5 7 Qhm
abbrev Qha (Pr:Program) (w:World) (K:Frag) (mg:Str→Option Value) (base:Heap):Prop:=Can Pr w K mg base "fitting_ends" ["letters","lo","wide"] 2 (vSp K mg [.s,.s,.s] (rO K) QeK)
theorem Qj8 (QeG:Def K mg "fitting_ends" QeL)
  (B:Qbf mg)
  (NK:Qa6 K=true)
  (Qb3:Qf2 Pr w K mg base)
  (QhF:Qkg Pr w K mg base) :
  Qha Pr w K mg base:=by
 refine Qbw (k:=1) (b:=Qhm) QeG QbQ (fun _ _ _ _ _ _=>QaB fun _=>QaB fun _=>QaB fun _=>Qbk rfl) [.s,.s,.s] [.o,.v,.v,.v] Qch (fun _ _ _ _=>.inl ⟨rfl,Rp.non⟩) (body:=fun f cdv A outer s H E hr P=>?_);refine Qak ?_ ?_;refine QeY (i:=3) QbQ.nd rfl (.inl rfl) (Qbu 0 Qaj);refine Qak (Qay (i:=4) QbQ.nd rfl (.inl rfl) Qan) ?_;refine Qak (Qay (i:=5) QbQ.nd rfl (.inl rfl) Qan) ?_;refine Qak ?_ (Qap (Qhc 3));refine Qcy rfl ?_ (QaY (i:=6) QbQ.nd rfl (.inl rfl)) ?_;refine Qlt B.range_ ?_;refine Qao (Qah 1) ?_;refine Qao ?_ Qaj;refine Qaw ?_;refine Qa7 (ms:=[.s]) (hv:=Qby) Qbx B.len_ ?_;refine Qao (Qah 0) Qaj
 refine Qak ?_ ?_;refine Qay (i:=4) QbQ.nd rfl (.inl rfl) ?_;refine QaF ?_;refine QaE Qbq (Qad (Qag 4)) ?_;refine Qad ?_;refine QaM Qb3 (hr.mono (by decide)) ?_;refine Qao ?_ Qaj;refine Qad ?_;refine QaU ?_ (Qad Qan);refine Qad ?_;refine QaU (Qah 0) (Qad (Qag 6));refine Qak ?_ ?_;refine Qbr ?_ ?_ Qa2;refine QaW (Qf0 hr) ?_ (Qad (QbG [32])) (QaN _);refine Qad ?_;refine QaU ?_ (Qad Qan);refine Qad ?_;refine QaU (Qah 0) (Qad (Qag 6));refine Qap (Qay (i:=5) QbQ.nd rfl (.inl rfl) (Qag 4));refine Qak ?_ ?_;refine Qbr ?_ (Qap Qrd) Qa2;refine QaW Qi4 (Qad (Qag 5)) (Qah 2) (QaN _);refine Qap ?_;refine Qbr ?_ ?_ Qa2
 refine Qer ?_;refine Qad ?_;refine QaM QhF (hr.mono (by decide)) ?_;refine Qao (Qah 0) ?_;refine Qao ?_ Qaj;refine Qaw ?_;refine QaE Qbq (Qad (Qag 6)) (Qad Qan);refine Qap ?_;refine Qft 3 ?_;refine Qcf 2 ?_;refine Qa0 ?_ ?_;refine QaF ?_;refine QaE Qbq (Qad (Qag 6)) (Qad Qan);refine Qa0 (Qag 5) Qaj
abbrev Qg7:Stmt:=top 11
theorem Qgg:QaA ["letters","lo","wide","ends","end"] ["letters","lo","wide"] (Qam Qg7):=by trivial
def Qc2:MS :=
  (Qai (Qas 3 (Qau QeK (Qab (Qaa 0) (Qab (Qaa 1) (Qab (Qaa 2) Qae)))))
  (Qai (QaV (Qat (Qaf gGt (Qav Qa4 (Qab (Qaa 3) Qae)) (mC (.int 0)))) (Qax (Qaa 3)) QaP)
  (Qai (Qas 4 (Qau Qd6 (Qab (Qaa 0) (Qab (Qaa 1) (Qab (Qaa 2) Qae)))))
  (Qax (Qbn (Qab (QbS (Qab (Qaa 4) (Qab (Qau QfZ (Qab (mSl (Qaa 0) (moS (mG (Qaa 1))) (moS (Qaa 4))) Qae)) Qae))) Qae))))))
def QdP:List D→Qac→Res D:=Qa5 5 Qc2
abbrev QgJ (Pr:Program) (w:World) (K:Frag) (mg:Str→Option Value) (base:Heap):Prop:=Can Pr w K mg base "line_ends" ["letters","lo","wide"] 3 (vSp K mg [.s,.s,.s] (rO K) QdP)
theorem Qm4 (Qg2:Def K mg "line_ends" Qg7)
  (B:Qbf mg)
  (NK:Qa6 K=true)
  (QeI:Qha Pr w K mg base)
  (Qcv:Qhe Pr w K mg base)
  (QhK:QjU Pr w K mg base) :
  QgJ Pr w K mg base:=by
 refine Qbw (k:=2) (b:=Qc2) Qg2 Qgg (fun _ _ _ _ _ _=>QaB fun _=>QaB fun _=>QaB fun _=>Qbk rfl) [.s,.s,.s] [.o,.v] Qch (fun _ _ _ _=>.inl ⟨rfl,Rp.non⟩) (body:=fun f cdv A outer s H E hr P=>?_);refine Qak ?_ ?_;refine QeY (i:=3) Qgg.nd rfl (.inl rfl) ?_;refine Qcn QeI (hr.mono (by decide)) ?_;refine Qao (Qah 0) ?_;refine Qao (Qah 1) ?_;refine Qao (Qah 2) Qaj;refine Qak ?_ ?_;refine Qbr ?_ (Qap (Qhc 3)) Qa2;refine QaW Qi4 ?_ (Qad Qan) (QaN _);refine Qaw ?_;refine Qa7 (ms:=[.s]) (hv:=Qby) Qbx B.len_ ?_;refine Qao (Qah 3) Qaj;refine Qak ?_ ?_;refine Qay (i:=4) Qgg.nd rfl (.inl rfl) ?_;refine QaM Qcv (hr.mono (by decide)) ?_
 refine Qao (Qah 0) ?_;refine Qao (Qah 1) ?_;refine Qao (Qah 2) Qaj;refine Qap ?_;refine Qcm ?_;refine Qbu 1 ?_;refine Qa0 ?_ Qaj;refine Qcf 2 ?_;refine Qa0 (Qag 4) ?_;refine Qa0 ?_ Qaj;refine QaM QhK (hr.mono (by decide)) ?_;refine Qao ?_ Qaj;refine Qaw ?_;refine Qb0 (Qah 0) ?_ (QbL (Qag 4));refine QbL (Qb2 (Qah 1))
abbrev QhA:Stmt:=top 13
theorem Qnt:QaA ["thing"] ["thing"] (Qam QhA):=by trivial
def Qhx:MS :=
  (Qax (QgE (QlR "int" (Qaa 0)) (QoC (QlR "bool" (Qaa 0)))))
def QhV:List D→Qac→Res D:=Qa5 1 Qhx
abbrev Qj1 (Pr:Program) (w:World) (K:Frag) (mg:Str→Option Value) (base:Heap):Prop:=Can Pr w K mg base "is_whole" ["thing"] 1 (vSp K mg [.s] (rV K) QhV)
theorem Qnj (QhD:Def K mg "is_whole" QhA)
  (B:Qbf mg)
  (NK:Qa6 K=true) :
  Qj1 Pr w K mg base:=by
 refine Qbw (k:=0) (b:=Qhx) QhD Qnt (fun _ _ _ _ _ _=>QaB fun _=>Qbk rfl) [.s] [] Qbd (fun _ _ _ _=>Rp.non) (body:=fun f cdv A outer s H E hr P=>?_);refine Qap ?_;refine QaI ?_;refine Qix ?_ ?_;refine QaF (Qma "int" (hb:=QmO) B.isinstance_ B.int_ (Qah 0));refine QiO ?_;refine QuS ?_;refine QaF (Qma "bool" (hb:=QtG) B.isinstance_ B.bool_ (Qah 0))
abbrev QgY:Stmt:=top 14
theorem Qmz:QaA ["thing","least","greatest"] ["thing","least","greatest"] (Qam QgY):=by trivial
def QgQ:MS :=
  (Qax (QgE (Qau QhV (Qab (Qaa 0) Qae)) (Qeg gLe gLe (Qaa 1) (Qaa 0) (Qaa 2))))
def QdR:List D→Qac→Res D:=Qa5 3 QgQ
abbrev Qjc (Pr:Program) (w:World) (K:Frag) (mg:Str→Option Value) (base:Heap):Prop:=Can Pr w K mg base "is_within" ["thing","least","greatest"] 2 (vSp K mg [.s,.s,.s] (rV K) QdR)
theorem Qm7 (QgV:Def K mg "is_within" QgY)
  (B:Qbf mg)
  (NK:Qa6 K=true)
  (QhS:Qj1 Pr w K mg base) :
  Qjc Pr w K mg base:=by
 refine Qbw (k:=1) (b:=QgQ) QgV Qmz (fun _ _ _ _ _ _=>QaB fun _=>QaB fun _=>QaB fun _=>Qbk rfl) [.s,.s,.s] [] Qbd (fun _ _ _ _=>Rp.non) (body:=fun f cdv A outer s H E hr P=>?_);refine Qap ?_;refine QaI ?_;refine Qix ?_ ?_;refine QaM QhS (hr.mono (by decide)) ?_;refine Qao (Qah 0) Qaj;refine QiO ?_;refine QaF ?_;refine Qm5 QhJ QhJ (Qah 1) (Qah 0) (Qah 2)
abbrev QgX:Stmt:=top 17
theorem QiS:QaA ["move","prices","beyond"] ["move","prices"] (Qam QgX):=by trivial
def Qfe:MS :=
  (Qai (Qas 2 (Qbz (mG (Qaa 1)) (Qaf gIx (Qaa 0) (mC (.int 2)))))
  (Qax (mIf (Qat (Qg6 (Qaa 2))) (mC .non) (Qaf QaJ (Qaf gIx (Qaa 0) (mC (.int 0))) (Qaa 2)))))
def Qb5:List D→Qac→Res D:=Qa5 3 Qfe
abbrev QgR (Pr:Program) (w:World) (K:Frag) (mg:Str→Option Value) (base:Heap):Prop:=Can Pr w K mg base "cost_over" ["move","prices"] 1 (vSp K mg [.s,.s] (rV K) Qb5)
theorem Ql4 (QgO:Def K mg "cost_over" QgX)
  (B:Qbf mg)
  (NK:Qa6 K=true) :
  QgR Pr w K mg base:=by
 refine Qbw (k:=0) (b:=Qfe) QgO QiS (fun _ _ _ _ _ _=>QaB fun _=>QaB fun _=>Qbk rfl) [.s,.s] [.v] Qbd (fun _ _ _ _=>Rp.non) (body:=fun f cdv A outer s H E hr P=>?_);refine Qak ?_ ?_;refine Qay (i:=2) QiS.nd rfl (.inl rfl) ?_;refine Qgk NK hr (Qb2 (Qah 1)) ?_;refine QaU (Qah 0) (Qad Qan);refine Qap ?_;refine QaI ?_;refine QlE ?_ Qmp ?_;refine Qmm (Qad (Qag 2));refine QaF ?_;refine QaE Qbq ?_ (Qad (Qag 2));refine Qad ?_;refine QaU (Qah 0) (Qad Qan)
abbrev Qdn:Stmt:=top 18
theorem Qih:QaA ["moves","prices","costs"] ["moves","prices"] (Qam Qdn):=by trivial
def Qeq:MS :=
  (Qai (Qas 2 (Qbm (Qba (Qaa 0)) 1 [1] (mgN 0) QbW (Qau Qb5 (Qab (Qaa 0) (Qab (Qaa 1) Qae)))))
  (Qax (Qav QlK (Qab (Qbm (Qba (Qaa 2)) 1 [] (mgN 0) (Qat (Qee (Qaa 0))) (Qaa 0)) Qae))))
def Qco:List D→Qac→Res D:=Qa5 3 Qeq
abbrev Qgl (Pr:Program) (w:World) (K:Frag) (mg:Str→Option Value) (base:Heap):Prop:=Can Pr w K mg base "least_cost" ["moves","prices"] 2 (vSp K mg [.s,.s] (rV K) Qco)
theorem Qlx (Qgm:Def K mg "least_cost" Qdn)
  (B:Qbf mg)
  (NK:Qa6 K=true)
  (Qc3:QgR Pr w K mg base) :
  Qgl Pr w K mg base:=by
 refine Qbw (k:=1) (b:=Qeq) Qgm Qih (fun _ _ _ _ _ _=>QaB fun _=>QaB fun _=>Qbk rfl) [.s,.s] [.v] Qbd (fun _ _ _ _=>Rp.non) (body:=fun f cdv A outer s H E hr P=>?_);refine Qak ?_ ?_;refine QhI (i:=2) (Qam Qdn) ["moves","prices","costs"] ["move"] [1] Qih.nd rfl (.inl rfl) rfl (Qcl (Qah 0)) (fun _ _ _ _ P=>?_) (fun _ _ _ _ P=>?_) (fun _ _ _ _ P=>?_);exact QaY (i:=0) (show (QaT ["moves","prices","costs"] ["move"] [1]).Nodup by decide +kernel) rfl (.inl rfl);exact Qc7;refine QaM Qc3 (hr.mono (by decide)) ?_;refine Qao (Qad (Qag 0)) ?_;refine Qao (Qah 1) Qaj;refine Qap ?_;refine QaI ?_;refine QaF ?_
 refine Qti rfl B.min_ ?_;refine Qaw ?_;refine Qc4 (Qam Qdn) ["moves","prices","costs"] ["cost"] [] rfl ?_ (fun _ _ _ _ P=>?_) (fun _ _ _ _ P=>?_) (fun _ _ _ _ P=>?_);refine Qcl (Qad (Qag 2));exact QaY (i:=0) (show (QaT ["moves","prices","costs"] ["cost"] []).Nodup by decide +kernel) rfl (.inl rfl);refine Qi2 ?_;refine QnT (Qad (Qag 0));exact Qag 0
abbrev Qew:Stmt:=inClass (top 24) 3
theorem QjL:QaA ["self","at"] ["self","at"] (Qam Qew):=by trivial
def Qgz:MS :=
  (Qax (Qbn (Qab (QbS (Qab (mG (Qaa 1)) (Qab (mC (.int 0)) Qae))) Qae)))
def Qca:List D→Qac→Res D:=Qa5 2 Qgz
abbrev Qgy (Pr:Program) (w:World) (K:Frag) (mg:Str→Option Value) (base:Heap):Prop:=QfI Pr w K mg base "Even" "nodes_at" ["self","at"] 1 (vSp K mg [.v,.s] (rO K) Qca)
theorem Qjw (QeF:QiL K mg "Even" "nodes_at" "Even.nodes_at" Qew)
  (B:Qbf mg)
  (NK:Qa6 K=true) :
  Qgy Pr w K mg base:=by
 refine Qi0 (k:=0) (b:=Qgz) QeF QjL (fun _ _ _ _ _ _=>QaB fun _=>QaB fun _=>Qbk rfl) [.v,.s] [] Qch (fun _ _ _ _=>.inl ⟨rfl,Rp.non⟩) (body:=fun f cdv A outer s H E hr P=>?_);refine Qap ?_;refine Qcm ?_;refine Qbu 1 ?_;refine Qa0 ?_ Qaj;refine Qcf 2 ?_;refine Qa0 (Qb2 (Qah 1)) ?_;refine Qa0 Qan Qaj
abbrev QfD:Stmt:=inClass (top 24) 5
theorem QkS:QaA ["self","node"] ["self","node"] (Qam QfD):=by trivial
def Qd1:MS :=
  (Qax (Qaf gEq (Qaa 1) (QbS (Qab (Qav Qa4 (Qab (Qd4 ["Even"] "letters" (Qaa 0)) Qae)) (Qab (mC (.int 0)) Qae)))))
def Qbj:List D→Qac→Res D:=Qa5 2 Qd1
abbrev QdW (Pr:Program) (w:World) (K:Frag) (mg:Str→Option Value) (base:Heap):Prop:=QfI Pr w K mg base "Even" "is_end" ["self","node"] 1 (vSp K mg [.v,.s] (rV K) Qbj)
theorem QkE (Qfy:QiL K mg "Even" "is_end" "Even.is_end" QfD)
  (B:Qbf mg)
  (NK:Qa6 K=true)
  (QaX:KC K mg "Even" "letters") :
  QdW Pr w K mg base:=by
 refine Qi0 (k:=0) (b:=Qd1) Qfy QkS (fun _ _ _ _ _ _=>QaB fun _=>QaB fun _=>Qbk rfl) [.v,.s] [] Qbd (fun _ _ _ _=>Rp.non) (body:=fun f cdv A outer s H E hr P=>?_);refine Qap ?_;refine QaI ?_;refine QaF ?_;refine Qgu (Qb7 hr) (Qah 1) ?_ (QaN _);refine Qad ?_;refine Qcf 2 ?_;refine Qa0 ?_ ?_;refine QaF ?_;refine Qa7 (ms:=[.s]) (hv:=Qby) Qbx B.len_ ?_;refine Qao ?_ Qaj;refine Qad (Qhp (Qd9 QaX Qfp) (Qag 0));refine Qa0 Qan Qaj
abbrev QeJ:Stmt:=inClass (top 24) 6
theorem Qkm:QaA ["self","end","cells"] ["self","end","cells"] (Qam QeJ):=by trivial
def Qdw:MS :=
  (Qax (mIf (Qat (Qaf gEq (Qaa 1) (Qav Qa4 (Qab (Qd4 ["Even"] "letters" (Qaa 0)) Qae)))) (mC (.int 0)) (Qaf Qe6 (Qaf QdQ (Qd4 ["Even"] "wide" (Qaa 0)) (Qaa 2)) (mC (.int 2)))))
def Qds:List D→Qac→Res D:=Qa5 3 Qdw
abbrev Qhq (Pr:Program) (w:World) (K:Frag) (mg:Str→Option Value) (base:Heap):Prop:=QfI Pr w K mg base "Even" "cost_to" ["self","end","cells"] 1 (vSp K mg [.v,.s,.s] (rV K) Qds)
theorem Qke (QeU:QiL K mg "Even" "cost_to" "Even.cost_to" QeJ)
  (B:Qbf mg)
  (NK:Qa6 K=true)
  (QaX:KC K mg "Even" "letters")
  (Qb6:KC K mg "Even" "wide") :
  Qhq Pr w K mg base:=by
 refine Qi0 (k:=0) (b:=Qdw) QeU Qkm (fun _ _ _ _ _ _=>QaB fun _=>QaB fun _=>QaB fun _=>Qbk rfl) [.v,.s,.s] [] Qbd (fun _ _ _ _=>Rp.non) (body:=fun f cdv A outer s H E hr P=>?_);refine Qap ?_;refine QaI ?_;refine QlE ?_ Qan ?_;refine QaW (Qb7 hr) (Qah 1) ?_ (QaN _);refine Qaw ?_;refine Qa7 (ms:=[.s]) (hv:=Qby) Qbx B.len_ ?_;refine Qao ?_ Qaj;refine Qad (Qhp (Qd9 QaX Qfp) (Qag 0));refine QaF ?_;refine QaE Qkq ?_ (Qad Qan);refine Qaw ?_;refine QaE Qko ?_ (Qah 2);refine Qad (Qhp (Qd9 Qb6 Qfp) (Qag 0))
abbrev QcE:Stmt:=inClass (top 24) 4
theorem Qfq:QaA ["self","node","ends"] ["self","node"] (Qam QcE):=by trivial
def QcG:MS :=
  (Qai (QaV (Qcd (Qbh "Even" "is_end" Qbj (Qaa 0) (Qab (Qaa 1) Qae))) (Qax (Qbn Qae)) QaP)
  (Qai (Qas 2 (Qau QdP (Qab (Qd4 ["Even"] "letters" (Qaa 0)) (Qab (Qaf gIx (Qaa 1) (mC (.int 0))) (Qab (Qd4 ["Even"] "wide" (Qaa 0)) Qae)))))
  (Qax (Qbm (QoF (Qaa 2)) 2 [0] (Qg8 2 (QbE (mgN 0) (QbE (mgN 1) Qex))) QbW (QbS (Qab (Qbh "Even" "cost_to" Qds (Qaa 2) (Qab (Qaa 0) (Qab (Qaa 1) Qae))) (Qab (Qav Qk2 (Qab (Qaa 0) Qae)) (Qab (QbS (Qab (Qaa 0) (Qab (mC (.int 0)) Qae))) Qae))))))))
def Qbb:List D→Qac→Res D:=Qa5 3 QcG
abbrev QdI (Pr:Program) (w:World) (K:Frag) (mg:Str→Option Value) (base:Heap):Prop:=QfI Pr w K mg base "Even" "moves_from" ["self","node"] 4 (vSp K mg [.v,.s] (rO K) Qbb)
theorem Qip (QdE:QiL K mg "Even" "moves_from" "Even.moves_from" QcE)
  (B:Qbf mg)
  (NK:Qa6 K=true)
  (QaX:KC K mg "Even" "letters")
  (Qb6:KC K mg "Even" "wide")
  (QbH:QdW Pr w K mg base)
  (Qc5:QgJ Pr w K mg base)
  (Qe1:Qhq Pr w K mg base) :
  QdI Pr w K mg base:=by
 refine Qi0 (k:=3) (b:=QcG) QdE Qfq (fun _ _ _ _ _ _=>QaB fun _=>QaB fun _=>Qbk rfl) [.v,.s] [.v] Qch (fun _ _ _ _=>.inl ⟨rfl,Rp.non⟩) (body:=fun f cdv A outer s H E hr P=>?_);refine Qak ?_ ?_;refine Qbr ?_ ?_ Qa2;refine Qer ?_;refine Qad ?_;refine Qi6 QbH (hr.mono (by decide)) (Qag 0) ?_;refine Qao (Qah 1) Qaj;refine Qap ?_;refine Qcm (Qbu 0 Qaj);refine Qak ?_ ?_;refine Qay (i:=2) Qfq.nd rfl (.inl rfl) ?_;refine QaF ?_;refine Qcn Qc5 (hr.mono (by decide)) ?_;refine Qao ?_ ?_;refine Qad (Qhp (Qd9 QaX Qfp) (Qag 0));refine Qao ?_ ?_;refine Qad ?_;refine QaU (Qah 1) (Qad Qan);refine Qao ?_ Qaj
 refine Qad (Qhp (Qd9 Qb6 Qfp) (Qag 0));refine Qap ?_;refine Qcm ?_;refine Qc4 (Qam QcE) ["self","node","ends"] ["end","cells"] [0] rfl ?_ (fun _ _ _ _ P=>?_) (fun _ _ _ _ P=>?_) (fun _ _ _ _ P=>?_);refine Qms ?_;refine Qua B.reversed_ (QoU (Qag 2));refine Qm9 2 rfl ?_;refine QeS (QaY (i:=0) (show (QaT ["self","node","ends"] ["end","cells"] [0]).Nodup by decide +kernel) rfl (.inl rfl)) ?_;refine QeS (QaY (i:=1) (show (QaT ["self","node","ends"] ["end","cells"] [0]).Nodup by decide +kernel) rfl (.inl rfl)) Qk0;exact Qc7;refine Qcf 3 ?_;refine Qa0 ?_ ?_;refine Qi6 Qe1 (hr.mono (by decide)) (Qag 2) ?_
 refine Qao (Qad (Qag 0)) ?_;refine Qao (Qad (Qag 1)) Qaj;refine Qa0 ?_ ?_;refine QaF ?_;refine Qdj (ms:=[.s]) (hv:=QpS) Qvn B.str_ ?_;refine Qao (Qad (Qag 0)) Qaj;refine Qa0 ?_ Qaj;refine Qcf 2 ?_;refine Qa0 (Qag 0) ?_;refine Qa0 Qan Qaj
abbrev Qfu:Stmt:=top 19
theorem QbM:QaA ["trail","at","prices","moves","node","changed","cost"] ["trail","at","prices"] (Qam Qfu):=by trivial
def QdV:MS :=
  (Qai (Qas 3 QiJ)
  (Qai (Qbl (Qba (Qbh "Even" "nodes_at" Qca (mG (Qaa 0)) (Qab (Qaa 1) Qae))) (mgN 4) (Qai (QcN (Qaa 3) (Qaa 4) (Qbh "Even" "moves_from" Qbb (mG (Qaa 0)) (Qab (Qaa 4) Qae)))
  (QcN (mG (Qaa 2)) (Qaa 4) (mIf (Qcd (Qbh "Even" "is_end" Qbj (mG (Qaa 0)) (Qab (Qaa 4) Qae))) (mC (.int 0)) (mC .non)))))
  (Qai (Qas 5 (mC (.bl true)))
  (QbZ 10 (Qcd (Qaa 5)) (Qai (Qas 5 (mC (.bl false)))
  (Qhj 3 (Qbl (Qhn (Qaa 3)) (mgN 4) (Qai (Qas 6 (Qau Qco (Qab (Qbz (Qaa 3) (Qaa 4)) (Qab (Qaa 2) Qae))))
  (QaV (QcF (Qat (Qee (Qaa 6))) (Qep (Qat (Qg6 (Qbz (mG (Qaa 2)) (Qaa 4)))) (Qat (Qaf gLt (Qaa 6) (Qbz (mG (Qaa 2)) (Qaa 4)))))) (Qai (QcN (mG (Qaa 2)) (Qaa 4) (Qaa 6))
  (Qas 5 (mC (.bl true)))) QaP)))))))))
def QcZ:List D→Qac→Res D:=Qa5 7 QdV
abbrev Qij (Pr:Program) (w:World) (K:Frag) (mg:Str→Option Value) (base:Heap):Prop:=Can Pr w K mg base "price_nodes" ["trail","at","prices"] 5 (vSp K mg [.s,.s,.s] (rV K) QcZ)
theorem QkD (QfG:Def K mg "price_nodes" Qfu)
  (B:Qbf mg)
  (NK:Qa6 K=true)
  (QeE:Qgy Pr w K mg base)
  (QbU:QdI Pr w K mg base)
  (QbH:QdW Pr w K mg base)
  (QcI:Qgl Pr w K mg base) :
  Qij Pr w K mg base:=by
 refine Qbw (k:=4) (b:=QdV) QfG QbM (fun _ _ _ _ _ _=>QaB fun _=>QaB fun _=>QaB fun _=>Qbk rfl) [.s,.s,.s] [.v,.v,.v,.v] Qbd (fun _ _ _ _=>Rp.non) (body:=fun f cdv A outer s H E hr P=>?_);refine Qak (Qay (i:=3) QbM.nd rfl (.inl rfl) Qmg) ?_;refine Qak ?_ ?_;refine Qcy rfl ?_ (QaY (i:=4) QbM.nd rfl (.inl rfl)) ?_;refine Qho ?_;refine QoU ?_;refine QaF ?_;refine QkY QeE (hr.mono (by decide)) (Qb2 (Qah 0)) ?_;refine Qao (Qah 1) Qaj;refine Qak ?_ ?_;refine QkP NK hr (Qag 3) (Qag 4) ?_;refine QaF ?_;refine QkY QbU (hr.mono (by decide)) (Qb2 (Qah 0)) ?_;refine Qao (Qad (Qag 4)) Qaj;refine Qap ?_;refine QkP NK hr (Qb2 (Qah 2)) (Qag 4) ?_
 refine QlE ?_ Qan Qmp;refine Qer ?_;refine Qad ?_;refine Qi6 QbH (hr.mono (by decide)) (Qb2 (Qah 0)) ?_;refine Qao (Qad (Qag 4)) Qaj;refine Qak (Qay (i:=5) QbM.nd rfl (.inl rfl) Qdt) ?_;refine Qap ?_;refine QeV 10 ?_ ?_;refine Qer (Qad (Qag 5));refine Qak (Qay (i:=5) QbM.nd rfl (.inl rfl) Qdt) ?_;refine Qap ?_;refine QtL 3 ?_;refine Qcy rfl (QvN (Qag 3)) (QaY (i:=4) QbM.nd rfl (.inl rfl)) ?_;refine Qak ?_ ?_;refine Qay (i:=6) QbM.nd rfl (.inl rfl) ?_;refine QaM QcI (hr.mono (by decide)) ?_;refine Qao ?_ ?_;refine Qad ?_;refine Qgk NK hr (Qag 3) (Qag 4);refine Qao (Qah 2) Qaj;refine Qap ?_;refine Qbr ?_ ?_ Qa2
 refine QiB ?_;refine QiP ?_ ?_;refine QnT (Qad (Qag 6));refine Qhi ?_;refine QiB ?_;refine QlF ?_ ?_;refine Qmm ?_;refine Qad ?_;refine Qgk NK hr (Qb2 (Qah 2)) (Qag 4);refine Qmd ?_;refine QaW QjY (Qad (Qag 6)) ?_ (QaN _);refine Qad ?_;refine Qgk NK hr (Qb2 (Qah 2)) (Qag 4);refine Qak ?_ ?_;refine QkP NK hr (Qb2 (Qah 2)) (Qag 4) (Qag 6);refine Qap (Qay (i:=5) QbM.nd rfl (.inl rfl) Qdt)
abbrev QeW:Stmt:=inClass (top 24) 2
theorem Qj5:QaA ["self"] ["self"] (Qam QeW):=by trivial
def QdB:MS :=
  (Qax (Qav Qa4 (Qab (Qd4 ["Even"] "letters" (Qaa 0)) Qae)))
def QcQ:List D→Qac→Res D:=Qa5 1 QdB
abbrev Qhf (Pr:Program) (w:World) (K:Frag) (mg:Str→Option Value) (base:Heap):Prop:=QfI Pr w K mg base "Even" "last_at" ["self"] 1 (vSp K mg [.v] (rV K) QcQ)
theorem Qkf (Qe2:QiL K mg "Even" "last_at" "Even.last_at" QeW)
  (B:Qbf mg)
  (NK:Qa6 K=true)
  (QaX:KC K mg "Even" "letters") :
  Qhf Pr w K mg base:=by
 refine Qi0 (k:=0) (b:=QdB) Qe2 Qj5 (fun _ _ _ _ _ _=>QaB fun _=>Qbk rfl) [.v] [] Qbd (fun _ _ _ _=>Rp.non) (body:=fun f cdv A outer s H E hr P=>?_);refine Qap ?_;refine QaI ?_;refine QaF ?_;refine Qa7 (ms:=[.s]) (hv:=Qby) Qbx B.len_ ?_;refine Qao ?_ Qaj;refine Qad (Qhp (Qd9 QaX Qfp) (Qag 0))
abbrev QjO:Stmt:=top 20
theorem QiR:QaA ["trail","prices","at"] ["trail"] (Qam QjO):=by trivial
def Qh7:MS :=
  (Qai (Qas 1 QiJ)
  (Qai (Qbl (QlI (Qab (Qbh "Even" "last_at" QcQ (mG (Qaa 0)) Qae) (Qab (mUn QeP (mC (.int 1))) (Qab (mUn QeP (mC (.int 1))) Qae)))) (mgN 2) (QiI (Qau QcZ (Qab (Qaa 0) (Qab (Qaa 2) (Qab (Qaa 1) Qae))))))
  (Qax (Qaa 1))))
def QhL:List D→Qac→Res D:=Qa5 3 Qh7
abbrev QmM (Pr:Program) (w:World) (K:Frag) (mg:Str→Option Value) (base:Heap):Prop:=Can Pr w K mg base "priced" ["trail"] 6 (vSp K mg [.s] (rV K) QhL)
theorem Qpf (Qjy:Def K mg "priced" QjO)
  (B:Qbf mg)
  (NK:Qa6 K=true)
  (Qe5:Qhf Pr w K mg base)
  (QfA:Qij Pr w K mg base) :
  QmM Pr w K mg base:=by
 refine Qbw (k:=5) (b:=Qh7) Qjy QiR (fun _ _ _ _ _ _=>QaB fun _=>Qbk rfl) [.s] [.v,.v] Qbd (fun _ _ _ _=>Rp.non) (body:=fun f cdv A outer s H E hr P=>?_);refine Qak (Qay (i:=1) QiR.nd rfl (.inl rfl) Qmg) ?_;refine Qak ?_ ?_;refine Qcy rfl ?_ (QaY (i:=2) QiR.nd rfl (.inl rfl)) ?_;refine Qs4 B.range_ ?_;refine Qao ?_ ?_;refine Qad ?_;refine Qml Qe5 (hr.mono (by decide)) (Qb2 (Qah 0));refine Qao ?_ ?_;refine Qaw ?_;refine Qiu (Qad Qan);refine Qao ?_ Qaj;refine Qaw ?_;refine Qiu (Qad Qan);refine Qap ?_;refine QsZ ?_;refine Qad ?_;refine QaM QfA (hr.mono (by decide)) ?_;refine Qao (Qah 0) ?_;refine Qao (Qad (Qag 2)) ?_
 refine Qao (Qad (Qag 1)) Qaj;refine Qap (QaI (Qag 1))
abbrev QcY:Stmt:=top 21
theorem QfJ:QaA ["moves","prices","least"] ["moves","prices"] (Qam QcY):=by trivial
def QcW:MS :=
  (Qai (Qas 2 (Qau Qco (Qab (Qaa 0) (Qab (Qaa 1) Qae))))
  (Qax (Qaf gIx (Qbm (Qba (Qaa 0)) 1 [1,2] (mgN 0) (Qat (Qaf gEq (Qau Qb5 (Qab (Qaa 0) (Qab (Qaa 1) Qae))) (Qaa 2))) (Qaa 0)) (mC (.int 0)))))
def Qcq:List D→Qac→Res D:=Qa5 3 QcW
abbrev Qgo (Pr:Program) (w:World) (K:Frag) (mg:Str→Option Value) (base:Heap):Prop:=Can Pr w K mg base "first_cheapest" ["moves","prices"] 3 (vSp K mg [.s,.s] (rV K) Qcq)
theorem Qjb (Qd3:Def K mg "first_cheapest" QcY)
  (B:Qbf mg)
  (NK:Qa6 K=true)
  (QcI:Qgl Pr w K mg base)
  (Qc3:QgR Pr w K mg base) :
  Qgo Pr w K mg base:=by
 refine Qbw (k:=2) (b:=QcW) Qd3 QfJ (fun _ _ _ _ _ _=>QaB fun _=>QaB fun _=>Qbk rfl) [.s,.s] [.v] Qbd (fun _ _ _ _=>Rp.non) (body:=fun f cdv A outer s H E hr P=>?_);refine Qak ?_ ?_;refine Qay (i:=2) QfJ.nd rfl (.inr rfl) ?_;refine QaM QcI (hr.mono (by decide)) ?_;refine Qao (Qah 0) ?_;refine Qao (Qah 1) Qaj;refine Qap ?_;refine QaI ?_;refine QaU ?_ (Qad Qan);refine Qaw ?_;refine Qc4 (Qam QcY) ["moves","prices","least"] ["move"] [1,2] rfl (Qcl (Qah 0)) (fun _ _ _ _ P=>?_) (fun _ _ _ _ P=>?_) (fun _ _ _ _ P=>?_);exact QaY (i:=0) (show (QaT ["moves","prices","least"] ["move"] [1,2]).Nodup by decide +kernel) rfl (.inl rfl)
 refine Qi2 ?_;refine QaW (Qb7 hr) ?_ (Qad (Qag 2)) (QaN _);refine Qad ?_;refine QaM Qc3 (hr.mono (by decide)) ?_;refine Qao (Qad (Qag 0)) ?_;refine Qao (Qah 1) Qaj;exact Qag 0
abbrev QdG:Stmt:=inClass (top 24) 1
theorem Qiy:QaA ["self"] ["self"] (Qam QdG):=by trivial
def QfL:MS :=
  (Qax (QbS (Qab (mC (.int 0)) (Qab (mC (.int 0)) Qae))))
def Qce:List D→Qac→Res D:=Qa5 1 QfL
abbrev QfK (Pr:Program) (w:World) (K:Frag) (mg:Str→Option Value) (base:Heap):Prop:=QfI Pr w K mg base "Even" "first_node" ["self"] 1 (vSp K mg [.v] (rV K) Qce)
theorem QiE (QdJ:QiL K mg "Even" "first_node" "Even.first_node" QdG)
  (B:Qbf mg)
  (NK:Qa6 K=true) :
  QfK Pr w K mg base:=by
 refine Qi0 (k:=0) (b:=QfL) QdJ Qiy (fun _ _ _ _ _ _=>QaB fun _=>Qbk rfl) [.v] [] Qbd (fun _ _ _ _=>Rp.non) (body:=fun f cdv A outer s H E hr P=>?_);refine Qap ?_;refine QaI ?_;refine Qcf 2 ?_;refine Qa0 Qan ?_;refine Qa0 Qan Qaj
abbrev QjA:Stmt:=top 22
theorem Qdc:QaA ["trail","prices","node","cost","names","move"] ["trail"] (Qam QjA):=by trivial
def Qh1:MS :=
  (Qai (Qas 1 (Qau QhL (Qab (Qaa 0) Qae)))
  (Qai (Qas 2 (Qbh "Even" "first_node" Qce (mG (Qaa 0)) Qae))
  (Qai (Qas 3 (Qbz (Qaa 1) (Qaa 2)))
  (Qai (QaV (Qat (Qg6 (Qaa 3))) (Qax (mC .non)) QaP)
  (Qai (Qas 4 (Qbn Qae))
  (Qai (QbZ 50 (Qc9 (Qcd (Qbh "Even" "is_end" Qbj (mG (Qaa 0)) (Qab (Qaa 2) Qae)))) (Qai (Qas 5 (Qau Qcq (Qab (Qbh "Even" "moves_from" Qbb (mG (Qaa 0)) (Qab (Qaa 2) Qae)) (Qab (Qaa 1) Qae))))
  (Qai (Qcs 4 (Qaf gIx (Qaa 5) (mC (.int 1))))
  (Qas 2 (Qaf gIx (Qaa 5) (mC (.int 2)))))))
  (QlW (Qax (QbS (Qab (Qaa 3) (Qab (Qaa 4) Qae)))))))))))
def Qh6:List D→Qac→Res D:=Qa5 6 Qh1
abbrev QmZ (Pr:Program) (w:World) (K:Frag) (mg:Str→Option Value) (base:Heap):Prop:=Can Pr w K mg base "way_of" ["trail"] 7 (vSp K mg [.s] (rV K) Qh6)
theorem QpN (QjJ:Def K mg "way_of" QjA)
  (B:Qbf mg)
  (NK:Qa6 K=true)
  (Qjs:QmM Pr w K mg base)
  (QdF:QfK Pr w K mg base)
  (QbH:QdW Pr w K mg base)
  (Qd5:Qgo Pr w K mg base)
  (QbU:QdI Pr w K mg base) :
  QmZ Pr w K mg base:=by
 refine Qbw (k:=6) (b:=Qh1) QjJ Qdc (fun _ _ _ _ _ _=>QaB fun _=>Qbk rfl) [.s] [.v,.v,.v,.o,.v] Qbd (fun _ _ _ _=>Rp.non) (body:=fun f cdv A outer s H E hr P=>?_);refine Qak ?_ ?_;refine Qay (i:=1) Qdc.nd rfl (.inl rfl) ?_;refine QaM Qjs (hr.mono (by decide)) ?_;refine Qao (Qah 0) Qaj;refine Qak ?_ ?_;refine Qay (i:=2) Qdc.nd rfl (.inl rfl) ?_;refine Qml QdF (hr.mono (by decide)) (Qb2 (Qah 0));refine Qak ?_ ?_;refine Qay (i:=3) Qdc.nd rfl (.inl rfl) ?_;refine Qgk NK hr (Qag 1) (Qag 2);refine Qak ?_ ?_;refine Qbr ?_ ?_ Qa2;refine Qmm (Qad (Qag 3));refine Qap (QaI Qmp);refine Qak ?_ ?_;refine QeY (i:=4) Qdc.nd rfl (.inl rfl) (Qbu 0 Qaj)
 refine Qak ?_ ?_;refine QeV 50 ?_ ?_;refine Qiq ?_;refine Qer ?_;refine Qad ?_;refine Qi6 QbH (hr.mono (by decide)) (Qb2 (Qah 0)) ?_;refine Qao (Qad (Qag 2)) Qaj;refine Qak ?_ ?_;refine Qay (i:=5) Qdc.nd rfl (.inl rfl) ?_;refine QaM Qd5 (hr.mono (by decide)) ?_;refine Qao ?_ ?_;refine Qaw ?_;refine QkY QbU (hr.mono (by decide)) (Qb2 (Qah 0)) ?_;refine Qao (Qad (Qag 2)) Qaj;refine Qao (Qad (Qag 1)) Qaj;refine Qak ?_ ?_;refine Qft 4 ?_;refine QaU (Qad (Qag 5)) (Qad Qan);refine Qap ?_;refine Qay (i:=2) Qdc.nd rfl (.inl rfl) ?_;refine QaU (Qad (Qag 5)) (Qad Qan);refine Qap ?_;refine Quc 4 rfl ?_;refine QaI ?_
 refine Qcf 2 ?_;refine Qa0 (Qag 3) ?_;refine Qa0 (Qag 4) Qaj
abbrev Qec:Stmt:=inClass (top 24) 0
theorem Qjt:QaA ["self","letters","wide"] ["self","letters","wide"] (Qam Qec):=by trivial
def Qda:MS :=
  (Qai (QfN ["Even"] "letters" (Qaa 0) (Qav Qcg (Qab (Qaa 1) Qae)))
  (QfN ["Even"] "wide" (Qaa 0) (mG (Qaa 2))))
def QcB:List D→Qac→Res D:=Qa5 3 Qda
abbrev Qgx (Pr:Program) (w:World) (K:Frag) (mg:Str→Option Value) (base:Heap):Prop:=QqH Pr w K mg base "Even" ["self","letters","wide"] 1 (vSp K mg [.v,.s,.s] (rV K) QcB)
theorem QjE (QeD:QqZ K mg "Even" "Even.__init__" Qec)
  (B:Qbf mg)
  (NK:Qa6 K=true)
  (QaX:KC K mg "Even" "letters")
  (Qb6:KC K mg "Even" "wide") :
  Qgx Pr w K mg base:=by
 refine Qwv (k:=0) (b:=Qda) QeD Qjt (fun _ _ _ _ _ _=>QaB fun _=>QaB fun _=>QaB fun _=>Qbk rfl) [.v,.s,.s] [] Qbd (fun _ _ _ _=>Rp.non) (body:=fun f cdv A outer s H E hr P=>?_);refine Qak ?_ ?_;refine Qp2 (Qd9 QaX Qfp) (Qag 0) ?_;refine QaF ?_;refine Qdj (ms:=[.s]) (hv:=Qf5) Qhr B.list_ ?_;refine Qao (Qah 1) Qaj;refine Qap ?_;refine Qp2 (Qd9 Qb6 Qfp) (Qag 0) (Qb2 (Qah 2))
abbrev Qkp:Stmt:=top 25
theorem QkM:QaA ["letters","wide","way","ends"] ["letters","wide"] (Qam Qkp):=by trivial
def QjW:MS :=
  (Qai (Qas 2 (Qau Qh6 (Qab (Qh0 "Even" QcB (Qab (Qaa 0) (Qab (Qaa 1) Qae))) Qae)))
  (Qai (Qas 3 (Qbm (Qba (Qaf gIx (Qaa 2) (mC (.int 1)))) 1 [] (mgN 0) QbW (Qav Qi5 (Qab (Qaa 0) Qae))))
  (Qai (QaV (Qat (Qaf gEq (Qav Qa4 (Qab (Qaa 3) Qae)) (mC (.int 0)))) (Qax (Qbn (Qab (QbS (Qab (mC (.int 0)) (Qab (mC (.int 0)) Qae))) Qae))) QaP)
  (Qax (Qav gLZ (Qab (Qaf QaJ (Qbn (Qab (mC (.int 0)) Qae)) (Qaa 3)) (Qab (Qaa 3) Qae)))))))
def Qmj:List D→Qac→Res D:=Qa5 4 QjW
abbrev Qqo (Pr:Program) (w:World) (K:Frag) (mg:Str→Option Value) (base:Heap):Prop:=Can Pr w K mg base "even" ["letters","wide"] 8 (vSp K mg [.s,.s] (rO K) Qmj)
theorem QtJ (QmH:Def K mg "even" Qkp)
  (B:Qbf mg)
  (NK:Qa6 K=true)
  (Qjq:QmZ Pr w K mg base)
  (Qet:Qgx Pr w K mg base) :
  Qqo Pr w K mg base:=by
 refine Qbw (k:=7) (b:=QjW) QmH QkM (fun _ _ _ _ _ _=>QaB fun _=>QaB fun _=>Qbk rfl) [.s,.s] [.v,.v] Qch (fun _ _ _ _=>.inl ⟨rfl,Rp.non⟩) (body:=fun f cdv A outer s H E hr P=>?_);refine Qak ?_ ?_;refine Qay (i:=2) QkM.nd rfl (.inl rfl) ?_;refine QaM Qjq (hr.mono (by decide)) ?_;refine Qao ?_ Qaj;refine Qad ?_;refine QsK Qet (hr.mono (by decide)) ?_;refine Qao (Qah 0) ?_;refine Qao (Qah 1) Qaj;refine Qak ?_ ?_;refine QhI (i:=3) (Qam Qkp) ["letters","wide","way","ends"] ["name"] [] QkM.nd rfl (.inl rfl) rfl ?_ (fun _ _ _ _ P=>?_) (fun _ _ _ _ P=>?_) (fun _ _ _ _ P=>?_);refine Qcl ?_;refine Qad ?_
 refine QaU (Qad (Qag 2)) (Qad Qan);exact QaY (i:=0) (show (QaT ["letters","wide","way","ends"] ["name"] []).Nodup by decide +kernel) rfl (.inl rfl);exact Qc7;refine QaF ?_;refine Qdj (ms:=[.s]) (hv:=QmO) Qtr B.int_ ?_;refine Qao (Qad (Qag 0)) Qaj;refine Qak ?_ ?_;refine Qbr ?_ ?_ Qa2;refine QaW (Qb7 hr) ?_ (Qad Qan) (QaN _);refine Qaw ?_;refine Qa7 (ms:=[.s]) (hv:=Qby) Qbx B.len_ ?_;refine Qao (Qad (Qag 3)) Qaj;refine Qap ?_;refine Qcm ?_;refine Qbu 1 ?_;refine Qa0 ?_ Qaj;refine Qcf 2 ?_;refine Qa0 Qan ?_;refine Qa0 Qan Qaj;refine Qap ?_;refine Qcm ?_;refine QoD (ms:=[.s,.s]) rfl B.list_ B.zip_ ?_
 refine Qao ?_ ?_;refine Qaw ?_;refine QaE Qbq ?_ (Qad (Qag 3));refine Qaw ?_;refine Qbu 1 ?_;refine Qa0 Qan Qaj;refine Qao (Qad (Qag 3)) Qaj
abbrev Qjr:Stmt:=top 30
theorem Qpy:QaA ["thing"] ["thing"] (Qam Qjr):=by trivial
def QjM:MS :=
  (Qax (QgE (QlR "str" (Qaa 0)) (Qaf (gIn false) (Qaa 0) (mC (.tup [.str [99,117,116],.str [99,101,108,108,115],.str [119,111,114,100,115],.str [101,118,101,110]])))))
def Qgs:List D→Qac→Res D:=Qa5 1 QjM
abbrev QmI (Pr:Program) (w:World) (K:Frag) (mg:Str→Option Value) (base:Heap):Prop:=Can Pr w K mg base "is_way" ["thing"] 1 (vSp K mg [.s] (rV K) Qgs)
theorem QpG (Qjz:Def K mg "is_way" Qjr)
  (B:Qbf mg)
  (NK:Qa6 K=true)
  (Qmf:QrC K mg "WAYS" [[99,117,116],[99,101,108,108,115],[119,111,114,100,115],[101,118,101,110]]) :
  QmI Pr w K mg base:=by
 refine Qbw (k:=0) (b:=QjM) Qjz Qpy (fun _ _ _ _ _ _=>QaB fun _=>Qbk rfl) [.s] [] Qbd (fun _ _ _ _=>Rp.non) (body:=fun f cdv A outer s H E hr P=>?_);refine Qap ?_;refine QaI ?_;refine Qix ?_ ?_;refine QaF (Qma "str" (hb:=QpS) B.isinstance_ B.str_ (Qah 0));refine QiO ?_;refine QaF ?_;refine Qgu QwS (Qah 0) (Qad (Qt0 (ls:=[[99,117,116],[99,101,108,108,115],[119,111,114,100,115],[101,118,101,110]]) Qmf)) (by with_unfolding_all rfl)
abbrev QhU:Stmt:=top 31
theorem Qnq:QaA ["letters","lo","wide","way"] ["letters","lo","wide","way"] (Qam QhU):=by trivial
def QdC:MS :=
  (Qai (QaV (Qat (Qaf gEq (Qaa 3) (mC (.str [119,111,114,100,115])))) (Qax (Qaf gIx (Qaf gIx (Qau QdP (Qab (Qaa 0) (Qab (Qaa 1) (Qab (Qaa 2) Qae)))) (mUn QeP (mC (.int 1)))) (mC (.int 0)))) QaP)
  (Qax (Qau Qd6 (Qab (Qaa 0) (Qab (Qaa 1) (Qab (Qaa 2) Qae))))))
def Qej:List D→Qac→Res D:=Qa5 4 QdC
abbrev Qkd (Pr:Program) (w:World) (K:Frag) (mg:Str→Option Value) (base:Heap):Prop:=Can Pr w K mg base "next_end" ["letters","lo","wide","way"] 4 (vSp K mg [.s,.s,.s,.s] (rV K) Qej)
theorem Qnv (Qif:Def K mg "next_end" QhU)
  (B:Qbf mg)
  (NK:Qa6 K=true)
  (Qc5:QgJ Pr w K mg base)
  (Qcv:Qhe Pr w K mg base) :
  Qkd Pr w K mg base:=by
 refine Qbw (k:=3) (b:=QdC) Qif Qnq (fun _ _ _ _ _ _=>QaB fun _=>QaB fun _=>QaB fun _=>QaB fun _=>Qbk rfl) [.s,.s,.s,.s] [] Qbd (fun _ _ _ _=>Rp.non) (body:=fun f cdv A outer s H E hr P=>?_);refine Qak ?_ ?_;refine Qbr ?_ ?_ Qa2;refine QaW (Qb7 hr) (Qah 3) (Qad (QbG [119,111,114,100,115])) (QaN _);refine Qap ?_;refine QaI ?_;refine QaU ?_ (Qad Qan);refine Qad ?_;refine QaU ?_ ?_;refine Qaw ?_;refine Qcn Qc5 (hr.mono (by decide)) ?_;refine Qao (Qah 0) ?_;refine Qao (Qah 1) ?_;refine Qao (Qah 2) Qaj;refine Qaw ?_;refine Qiu (Qad Qan);refine Qap ?_;refine QaI ?_;refine QaM Qcv (hr.mono (by decide)) ?_
 refine Qao (Qah 0) ?_;refine Qao (Qah 1) ?_;refine Qao (Qah 2) Qaj
abbrev Qgb:Stmt:=top 32
theorem Qc0:QaA ["letters","wide","way","stretches","lo","hi"] ["letters","wide","way"] (Qam Qgb):=by trivial
def QeC:MS :=
  (Qai (Qas 3 (Qbn Qae))
  (Qai (Qas 4 (mC (.int 0)))
  (Qai (QbZ wF (Qat (Qaf gLt (Qaa 4) (Qav Qa4 (Qab (Qaa 0) Qae)))) (Qai (Qas 5 (Qau Qej (Qab (Qaa 0) (Qab (Qaa 4) (Qab (Qaa 1) (Qab (Qaa 2) Qae))))))
  (Qai (Qcs 3 (QbS (Qab (Qaa 4) (Qab (Qaa 5) Qae))))
  (Qas 4 (Qaa 5)))))
  (Qax (Qaa 3)))))
def Qes:List D→Qac→Res D:=Qa5 6 QeC
abbrev Qin (Pr:Program) (w:World) (K:Frag) (mg:Str→Option Value) (base:Heap):Prop:=Can Pr w K mg base "end_to_end" ["letters","wide","way"] 5 (vSp K mg [.s,.s,.s] (rO K) Qes)
theorem Qlw (Qgv:Def K mg "end_to_end" Qgb)
  (B:Qbf mg)
  (NK:Qa6 K=true)
  (QhN:Qkd Pr w K mg base) :
  Qin Pr w K mg base:=by
 refine Qbw (k:=4) (b:=QeC) Qgv Qc0 (fun _ _ _ _ _ _=>QaB fun _=>QaB fun _=>QaB fun _=>Qbk rfl) [.s,.s,.s] [.o,.v,.v] Qch (fun _ _ _ _=>.inl ⟨rfl,Rp.non⟩) (body:=fun f cdv A outer s H E hr P=>?_);refine Qak ?_ ?_;refine QeY (i:=3) Qc0.nd rfl (.inl rfl) (Qbu 0 Qaj);refine Qak (Qay (i:=4) Qc0.nd rfl (.inl rfl) Qan) ?_;refine Qak ?_ (Qap (Qhc 3));refine QeV wF ?_ ?_;refine QaW QjY (Qad (Qag 4)) ?_ (QaN _);refine Qaw ?_;refine Qa7 (ms:=[.s]) (hv:=Qby) Qbx B.len_ ?_;refine Qao (Qah 0) Qaj;refine Qak ?_ ?_;refine Qay (i:=5) Qc0.nd rfl (.inl rfl) ?_;refine QaM QhN (hr.mono (by decide)) ?_;refine Qao (Qah 0) ?_
 refine Qao (Qad (Qag 4)) ?_;refine Qao (Qah 1) ?_;refine Qao (Qah 2) Qaj;refine Qak ?_ ?_;refine Qft 3 ?_;refine Qcf 2 ?_;refine Qa0 (Qag 4) ?_;refine Qa0 (Qag 5) Qaj;refine Qap (Qay (i:=4) Qc0.nd rfl (.inl rfl) (Qag 5))
abbrev Qm6:Stmt:=top 33
theorem Qsv:QaA ["letters","wide","way"] ["letters","wide","way"] (Qam Qm6):=by trivial
def Qj3:MS :=
  (Qai (QaV (Qc9 (Qcd (Qau QdR (Qab (Qaa 1) (Qab (mC (.int 2)) (Qab (mC (.int 40)) Qae)))))) Ql9 QaP)
  (Qai (QaV (Qc9 (Qcd (Qau Qgs (Qab (Qaa 2) Qae)))) Ql9 QaP)
  (Qai (QaV (Qat (Qaf gEq (Qav Qa4 (Qab (Qaa 0) Qae)) (mC (.int 0)))) (Qax (Qbn (Qab (QbS (Qab (mC (.int 0)) (Qab (mC (.int 0)) Qae))) Qae))) QaP)
  (Qai (QaV (Qat (Qaf gEq (Qaa 2) (mC (.str [99,117,116])))) (Qax (Qbn (Qab (QbS (Qab (mC (.int 0)) (Qab (Qau Qd6 (Qab (Qaa 0) (Qab (mC (.int 0)) (Qab (Qaa 1) Qae)))) Qae))) Qae))) QaP)
  (Qai (QaV (Qat (Qaf gEq (Qaa 2) (mC (.str [101,118,101,110])))) (Qax (Qau Qmj (Qab (Qaa 0) (Qab (Qaa 1) Qae)))) QaP)
  (Qax (Qau Qes (Qab (Qaa 0) (Qab (Qaa 1) (Qab (Qaa 2) Qae))))))))))
def QiG:List D→Qac→Res D:=Qa5 3 Qj3
abbrev Qql (Pr:Program) (w:World) (K:Frag) (mg:Str→Option Value) (base:Heap):Prop:=Can Pr w K mg base "fold" ["letters","wide","way"] 9 (vSp K mg [.s,.s,.s] (rO K) QiG)
theorem QsQ (Ql7:Def K mg "fold" Qm6)
  (B:Qbf mg)
  (NK:Qa6 K=true)
  (Qdd:∃u,mg "GREATEST_BREADTH" = some u∧RelV (.int 40) u)
  (Qez:∃u,mg "LEAST_BREADTH" = some u∧RelV (.int 2) u)
  (Qg1:Qjc Pr w K mg base)
  (QjN:QmI Pr w K mg base)
  (Qcv:Qhe Pr w K mg base)
  (Qm3:Qqo Pr w K mg base)
  (Qge:Qin Pr w K mg base) :
  Qql Pr w K mg base:=by
 refine Qbw (k:=8) (b:=Qj3) Ql7 Qsv (fun _ _ _ _ _ _=>QaB fun _=>QaB fun _=>QaB fun _=>Qbk rfl) [.s,.s,.s] [] Qch (fun _ _ _ _=>.inl ⟨rfl,Rp.non⟩) (body:=fun f cdv A outer s H E hr P=>?_);refine Qak ?_ ?_;refine Qbr ?_ (Qap QmC) Qa2;refine Qiq ?_;refine Qer ?_;refine Qad ?_;refine QaM Qg1 (hr.mono (by decide)) ?_;refine Qao (Qah 1) ?_;refine Qao ?_ ?_;refine Qad ?_;refine Qd2 Qez (fun _ _ _=>Rp.int);refine Qao ?_ Qaj;refine Qad ?_;refine Qd2 Qdd (fun _ _ _=>Rp.int);refine Qak ?_ ?_;refine Qbr ?_ (Qap QmC) Qa2;refine Qiq ?_;refine Qer ?_;refine Qad ?_;refine QaM QjN (hr.mono (by decide)) ?_
 refine Qao (Qah 2) Qaj;refine Qak ?_ ?_;refine Qbr ?_ ?_ Qa2;refine QaW (Qb7 hr) ?_ (Qad Qan) (QaN _);refine Qaw ?_;refine Qa7 (ms:=[.s]) (hv:=Qby) Qbx B.len_ ?_;refine Qao (Qah 0) Qaj;refine Qap ?_;refine Qcm ?_;refine Qbu 1 ?_;refine Qa0 ?_ Qaj;refine Qcf 2 ?_;refine Qa0 Qan ?_;refine Qa0 Qan Qaj;refine Qak ?_ ?_;refine Qbr ?_ ?_ Qa2;refine QaW (Qb7 hr) (Qah 2) (Qad (QbG [99,117,116])) (QaN _);refine Qap ?_;refine Qcm ?_;refine Qbu 1 ?_;refine Qa0 ?_ Qaj;refine Qcf 2 ?_;refine Qa0 Qan ?_;refine Qa0 ?_ Qaj;refine QaM Qcv (hr.mono (by decide)) ?_;refine Qao (Qah 0) ?_;refine Qao (Qad Qan) ?_;refine Qao (Qah 1) Qaj
 refine Qak ?_ ?_;refine Qbr ?_ ?_ Qa2;refine QaW (Qb7 hr) (Qah 2) (Qad (QbG [101,118,101,110])) (QaN _);refine Qap ?_;refine Qcm ?_;refine Qcn Qm3 (hr.mono (by decide)) ?_;refine Qao (Qah 0) ?_;refine Qao (Qah 1) Qaj;refine Qap ?_;refine Qcm ?_;refine Qcn Qge (hr.mono (by decide)) ?_;refine Qao (Qah 0) ?_;refine Qao (Qah 1) ?_;refine Qao (Qah 2) Qaj
abbrev Qh9:Stmt:=top 38
theorem Qng:QaA ["line","broad"] ["line","broad"] (Qam Qh9):=by trivial
def QfT:MS :=
  (Qax (mSl (Qaa 0) moN (moS (Qau Qd6 (Qab (Qaa 0) (Qab (mC (.int 0)) (Qab (Qaa 1) Qae)))))))
def QfX:List D→Qac→Res D:=Qa5 2 QfT
abbrev QjZ (Pr:Program) (w:World) (K:Frag) (mg:Str→Option Value) (base:Heap):Prop:=Can Pr w K mg base "shown_of" ["line","broad"] 3 (vSp K mg [.s,.s] (rV K) QfX)
theorem Qni (Qh3:Def K mg "shown_of" Qh9)
  (B:Qbf mg)
  (NK:Qa6 K=true)
  (Qcv:Qhe Pr w K mg base) :
  QjZ Pr w K mg base:=by
 refine Qbw (k:=2) (b:=QfT) Qh3 Qng (fun _ _ _ _ _ _=>QaB fun _=>QaB fun _=>Qbk rfl) [.s,.s] [] Qbd (fun _ _ _ _=>Rp.non) (body:=fun f cdv A outer s H E hr P=>?_);refine Qap ?_;refine QaI ?_;refine QaF ?_;refine Qb0 (Qah 0) Qdu ?_;refine QbL ?_;refine QaM Qcv (hr.mono (by decide)) ?_;refine Qao (Qah 0) ?_;refine Qao (Qad Qan) ?_;refine Qao (Qah 1) Qaj
abbrev Qib:Stmt:=top 39
theorem Qk9:QaA ["letters","room","stretches"] ["letters","room"] (Qam Qib):=by trivial
def Qhy:MS :=
  (Qai (Qas 2 (Qau QiG (Qab (Qaa 0) (Qab (Qaf gIx (Qaa 1) (mC (.int 4))) (Qab (Qaf gIx (Qaa 1) (mC (.int 5))) Qae)))))
  (Qax (Qbm (Qba (Qaa 2)) 2 [0,1] (Qg8 2 (QbE (mgN 0) (QbE (mgN 1) Qex))) QbW (Qau QfX (Qab (mSl (Qaa 2) (moS (Qaa 0)) (moS (Qaa 1))) (Qab (Qaf gIx (Qaa 3) (mC (.int 4))) Qae))))))
def Qdo:List D→Qac→Res D:=Qa5 3 Qhy
abbrev QjD (Pr:Program) (w:World) (K:Frag) (mg:Str→Option Value) (base:Heap):Prop:=Can Pr w K mg base "folded" ["letters","room"] 10 (vSp K mg [.s,.s] (rO K) Qdo)
theorem Qpb (QjG:Def K mg "folded" Qib)
  (B:Qbf mg)
  (NK:Qa6 K=true)
  (QiX:∃u,mg "BROAD" = some u∧RelV (.int 4) u)
  (Qoi:∃u,mg "WAY" = some u∧RelV (.int 5) u)
  (QmV:Qql Pr w K mg base)
  (Qhv:QjZ Pr w K mg base) :
  QjD Pr w K mg base:=by
 refine Qbw (k:=9) (b:=Qhy) QjG Qk9 (fun _ _ _ _ _ _=>QaB fun _=>QaB fun _=>Qbk rfl) [.s,.s] [.v] Qch (fun _ _ _ _=>.inl ⟨rfl,Rp.non⟩) (body:=fun f cdv A outer s H E hr P=>?_);refine Qak ?_ ?_;refine Qay (i:=2) Qk9.nd rfl (.inl rfl) ?_;refine QaF ?_;refine Qcn QmV (hr.mono (by decide)) ?_;refine Qao (Qah 0) ?_;refine Qao ?_ ?_;refine Qad ?_;refine QaU (Qah 1) ?_;refine Qad ?_;refine Qd2 QiX (fun _ _ _=>Rp.int);refine Qao ?_ Qaj;refine Qad ?_;refine QaU (Qah 1) ?_;refine Qad ?_;refine Qd2 Qoi (fun _ _ _=>Rp.int);refine Qap ?_;refine Qcm ?_;refine Qc4 (Qam Qib) ["letters","room","stretches"] ["lo","hi"] [0,1] rfl ?_ (fun _ _ _ _ P=>?_) (fun _ _ _ _ P=>?_) (fun _ _ _ _ P=>?_)
 refine Qcl (Qad (Qag 2));refine Qm9 2 rfl ?_;refine QeS (QaY (i:=0) (show (QaT ["letters","room","stretches"] ["lo","hi"] [0,1]).Nodup by decide +kernel) rfl (.inl rfl)) ?_;refine QeS (QaY (i:=1) (show (QaT ["letters","room","stretches"] ["lo","hi"] [0,1]).Nodup by decide +kernel) rfl (.inl rfl)) Qk0;exact Qc7;refine QaM Qhv (hr.mono (by decide)) ?_;refine Qao ?_ ?_;refine Qaw ?_;refine Qb0 (Qah 2) (QbL (Qag 0)) (QbL (Qag 1));refine Qao ?_ Qaj;refine Qad ?_;refine QaU (Qah 3) ?_;refine Qad ?_;refine Qd2 QiX (fun _ _ _=>Rp.int)
abbrev Qed:Stmt:=top 40
theorem QfH:QaA ["folds","letters","room","lines","part_lines"] ["folds","letters","room"] (Qam Qed):=by trivial
def QeA:MS :=
  (Qai (Qas 3 (Qbn Qae))
  (Qai (Qbl (Qba (Qaa 0)) (mgN 4) (Qe9 3 (Qaa 4)))
  (Qai (QaV (Qat (Qaf gGt (Qav Qa4 (Qab (Qaa 1) Qae)) (mC (.int 0)))) (Qe9 3 (Qau Qdo (Qab (Qaa 1) (Qab (Qaa 2) Qae)))) QaP)
  (Qax (Qbm (Qba (mSl (Qaa 3) (moS (mUn QeP (Qaf gIx (Qaa 2) (mC (.int 3))))) moN)) 1 [] (mgN 0) QbW (Qav Qcg (Qab (Qaa 0) Qae)))))))
def Qdi:List D→Qac→Res D:=Qa5 5 QeA
abbrev QiH (Pr:Program) (w:World) (K:Frag) (mg:Str→Option Value) (base:Heap):Prop:=Can Pr w K mg base "last_lines" ["folds","letters","room"] 11 (vSp K mg [.s,.s,.s] (rO K) Qdi)
theorem QlA (Qgt:Def K mg "last_lines" Qed)
  (B:Qbf mg)
  (NK:Qa6 K=true)
  (Qhh:∃u,mg "TALL" = some u∧RelV (.int 3) u)
  (QeO:QjD Pr w K mg base) :
  QiH Pr w K mg base:=by
 refine Qbw (k:=10) (b:=QeA) Qgt QfH (fun _ _ _ _ _ _=>QaB fun _=>QaB fun _=>QaB fun _=>Qbk rfl) [.s,.s,.s] [.o,.v] Qch (fun _ _ _ _=>.inl ⟨rfl,Rp.non⟩) (body:=fun f cdv A outer s H E hr P=>?_);refine Qak ?_ ?_;refine QeY (i:=3) QfH.nd rfl (.inl rfl) (Qbu 0 Qaj);refine Qak ?_ ?_;refine Qcy rfl (Qho (Qkn 0)) (QaY (i:=4) QfH.nd rfl (.inl rfl)) ?_;refine Qap ?_;refine Qlv 3 (Qad (Qag 4));refine Qak ?_ ?_;refine Qbr ?_ ?_ Qa2;refine QaW Qi4 ?_ (Qad Qan) (QaN _);refine Qaw ?_;refine Qa7 (ms:=[.s]) (hv:=Qby) Qbx B.len_ ?_;refine Qao (Qah 1) Qaj;refine Qap ?_;refine Qlv 3 ?_;refine Qaw ?_;refine Qcn QeO (hr.mono (by decide)) ?_
 refine Qao (Qah 1) ?_;refine Qao (Qah 2) Qaj;refine Qap ?_;refine Qcm ?_;refine Qc4 (Qam Qed) ["folds","letters","room","lines","part_lines"] ["line"] [] rfl ?_ (fun _ _ _ _ P=>?_) (fun _ _ _ _ P=>?_) (fun _ _ _ _ P=>?_);refine Qcl ?_;refine Qaw ?_;refine Qb0 (Qah 3) ?_ Qdu;refine QbL ?_;refine QaF ?_;refine Qiu ?_;refine Qad ?_;refine QaU (Qah 2) ?_;refine Qad ?_;refine Qd2 Qhh (fun _ _ _=>Rp.int);exact QaY (i:=0) (show (QaT ["folds","letters","room","lines","part_lines"] ["line"] []).Nodup by decide +kernel) rfl (.inl rfl);exact Qc7;refine QaF ?_;refine Qdj (ms:=[.s]) (hv:=Qf5) Qhr B.list_ ?_
 refine Qao (Qad (Qag 0)) Qaj
abbrev QfQ:Stmt:=top 41
theorem Qjh:QaA ["parts","letters","room","folds"] ["parts","letters","room"] (Qam QfQ):=by trivial
def QfP:MS :=
  (Qai (Qas 3 (Qbm (Qba (mSl (Qaa 0) (moS (mUn QeP (Qaf gIx (Qaa 2) (mC (.int 3))))) moN)) 1 [2] (mgN 0) QbW (Qau Qdo (Qab (Qaf gIx (Qaa 0) (mC (.int 0))) (Qab (Qaa 1) Qae)))))
  (Qax (Qau Qdi (Qab (Qaa 3) (Qab (Qaa 1) (Qab (Qaa 2) Qae))))))
def Qeh:List D→Qac→Res D:=Qa5 4 QfP
abbrev Qkb (Pr:Program) (w:World) (K:Frag) (mg:Str→Option Value) (base:Heap):Prop:=Can Pr w K mg base "lines_of" ["parts","letters","room"] 12 (vSp K mg [.s,.s,.s] (rO K) Qeh)
theorem Qnx (QhM:Def K mg "lines_of" QfQ)
  (B:Qbf mg)
  (NK:Qa6 K=true)
  (Qhh:∃u,mg "TALL" = some u∧RelV (.int 3) u)
  (QeO:QjD Pr w K mg base)
  (Qgc:QiH Pr w K mg base) :
  Qkb Pr w K mg base:=by
 refine Qbw (k:=11) (b:=QfP) QhM Qjh (fun _ _ _ _ _ _=>QaB fun _=>QaB fun _=>QaB fun _=>Qbk rfl) [.s,.s,.s] [.v] Qch (fun _ _ _ _=>.inl ⟨rfl,Rp.non⟩) (body:=fun f cdv A outer s H E hr P=>?_);refine Qak ?_ ?_;refine QhI (i:=3) (Qam QfQ) ["parts","letters","room","folds"] ["part"] [2] Qjh.nd rfl (.inl rfl) rfl ?_ (fun _ _ _ _ P=>?_) (fun _ _ _ _ P=>?_) (fun _ _ _ _ P=>?_);refine Qcl ?_;refine Qaw ?_;refine Qb0 (Qah 0) ?_ Qdu;refine QbL ?_;refine QaF ?_;refine Qiu ?_;refine Qad ?_;refine QaU (Qah 2) ?_;refine Qad ?_;refine Qd2 Qhh (fun _ _ _=>Rp.int);exact QaY (i:=0) (show (QaT ["parts","letters","room","folds"] ["part"] [2]).Nodup by decide +kernel) rfl (.inl rfl)
 exact Qc7
 refine QaF ?_;refine Qcn QeO (hr.mono (by decide)) ?_;refine Qao ?_ ?_;refine Qad ?_;refine QaU (Qad (Qag 0)) (Qad Qan);refine Qao (Qah 1) Qaj;refine Qap ?_;refine Qcm ?_;refine Qcn Qgc (hr.mono (by decide)) ?_;refine Qao (Qad (Qag 3)) ?_;refine Qao (Qah 1) ?_;refine Qao (Qah 2) Qaj
abbrev QfC:Stmt:=top 43
theorem Qku:QaA ["_law_script","_law_k"] ["_law_script","_law_k"] (Qam QfC):=by trivial
def QdY:MS :=
  (Qai (QaV (Qat (Qaf gLt (Qaa 1) (Qav Qa4 (Qab (Qaa 0) Qae)))) (Qax (Qaf gIx (Qaa 0) (Qaa 1))) QaP)
  (Qax (mC (.int 0))))
def Qbc:List D→Qac→Res D:=Qa5 2 QdY
abbrev QfE (Pr:Program) (w:World) (K:Frag) (mg:Str→Option Value) (base:Heap):Prop:=Can Pr w K mg base "_law_cell_at" ["_law_script","_law_k"] 1 (vSp K mg [.s,.s] (rV K) Qbc)
theorem QkN (QfF:Def K mg "_law_cell_at" QfC)
  (B:Qbf mg)
  (NK:Qa6 K=true) :
  QfE Pr w K mg base:=by
 refine Qbw (k:=0) (b:=QdY) QfF Qku (fun _ _ _ _ _ _=>QaB fun _=>QaB fun _=>Qbk rfl) [.s,.s] [] Qbd (fun _ _ _ _=>Rp.non) (body:=fun f cdv A outer s H E hr P=>?_);refine Qak ?_ ?_;refine Qbr ?_ ?_ Qa2;refine QaW QjY (Qah 1) ?_ (QaN _);refine Qaw ?_;refine Qa7 (ms:=[.s]) (hv:=Qby) Qbx B.len_ ?_;refine Qao (Qah 0) Qaj;refine Qap ?_;refine QaI ?_;refine QaU (Qah 0) (Qah 1);refine Qap (QaI Qan)
abbrev Qiz:Stmt:=top 44
theorem QcU:QaA ["_law_cell","_law_k","_law_rest","_law_turn","_law_number"] ["_law_cell","_law_k"] (Qam Qiz):=by trivial
def Qlb:MS :=
  (Qai (QaV (Qat (Qaf gGt (Qaa 0) (Qaf Qe6 (mC (.int 10)) (mC (.int 18))))) (Qai (Qas 2 (mG (Qaa 0)))
  (Qai (Qbl (QfU (Qab (Qaa 1) Qae)) (mgN 3) (Qas 2 (Qaf QcX (Qaa 2) (Qaf Qe6 (mC (.int 10)) (mC (.int 9))))))
  (Qax (Qaf QbA (Qaa 2) (Qaf Qe6 (mC (.int 10)) (mC (.int 9))))))) QaP)
  (Qai (Qas 4 (Qaf QaJ (Qaf QbA (Qaa 0) (mC (.int 2147483647))) (mC (.int 7919))))
  (Qai (Qbl (QfU (Qab (Qaf QaJ (Qaa 1) (mC (.int 2))) Qae)) (mgN 3) (Qas 4 (Qaf QbA (Qaf QaJ (Qaf QdH (Qaa 4) (mC (.int 48271))) (mC (.int 104729))) (mC (.int 2147483629)))))
  (Qax (Qaf QcX (Qaf QbA (Qaf QdH (Qaa 4) (Qaa 4)) (mC (.int 998244353))) (mC (.int 11)))))))
def Qb9:List D→Qac→Res D:=Qa5 5 Qlb
abbrev Qir (Pr:Program) (w:World) (K:Frag) (mg:Str→Option Value) (base:Heap):Prop:=Can Pr w K mg base "_law_mix" ["_law_cell","_law_k"] 1 (vSp K mg [.s,.s] (rV K) Qb9)
theorem QoL (Qiv:Def K mg "_law_mix" Qiz)
  (B:Qbf mg)
  (NK:Qa6 K=true) :
  Qir Pr w K mg base:=by
 refine Qbw (k:=0) (b:=Qlb) Qiv QcU (fun _ _ _ _ _ _=>QaB fun _=>QaB fun _=>Qbk rfl) [.s,.s] [.v,.v,.v] Qbd (fun _ _ _ _=>Rp.non) (body:=fun f cdv A outer s H E hr P=>?_);refine Qak ?_ ?_;refine Qbr ?_ ?_ Qa2;refine QaW Qi4 (Qah 0) ?_ (QaN _);refine Qaw ?_;refine QaE Qkq (Qad Qan) (Qad Qan);refine Qak ?_ ?_;refine Qay (i:=2) QcU.nd rfl (.inl rfl) (Qb2 (Qah 0));refine Qak ?_ ?_;refine Qcy rfl ?_ (QaY (i:=3) QcU.nd rfl (.inl rfl)) ?_;refine QgF B.range_ ?_;refine Qao (Qah 1) Qaj;refine Qap ?_;refine Qay (i:=2) QcU.nd rfl (.inl rfl) ?_;refine QaF ?_;refine QaE Qhl (Qad (Qag 2)) ?_;refine Qaw ?_;refine QaE Qkq (Qad Qan) (Qad Qan)
 refine Qap ?_;refine QaI ?_;refine QaF ?_;refine QaE QcH (Qad (Qag 2)) ?_;refine Qaw ?_;refine QaE Qkq (Qad Qan) (Qad Qan);refine Qak ?_ ?_;refine Qay (i:=4) QcU.nd rfl (.inl rfl) ?_;refine QaF ?_;refine QaE Qbq ?_ (Qad Qan);refine Qaw ?_;refine QaE QcH (Qah 0) (Qad Qan);refine Qak ?_ ?_;refine Qcy rfl ?_ (QaY (i:=3) QcU.nd rfl (.inl rfl)) ?_;refine QgF B.range_ ?_;refine Qao ?_ Qaj;refine Qaw ?_;refine QaE Qbq (Qah 1) (Qad Qan);refine Qap ?_;refine Qay (i:=4) QcU.nd rfl (.inl rfl) ?_;refine QaF ?_;refine QaE QcH ?_ (Qad Qan);refine Qaw ?_;refine QaE Qbq ?_ (Qad Qan);refine Qaw ?_;refine QaE QmF (Qad (Qag 4)) (Qad Qan)
 refine Qap ?_;refine QaI ?_;refine QaF ?_;refine QaE Qhl ?_ (Qad Qan);refine Qaw ?_;refine QaE QcH ?_ (Qad Qan);refine Qaw ?_;refine QaE QmF (Qad (Qag 4)) (Qad (Qag 4))
abbrev QfB:Stmt:=top 45
theorem QcJ:QaA ["_law_cell","_law_many","_law_k","_law_letters_here","_law_at","_law_mix_here","_law_sign"] ["_law_cell","_law_many","_law_k"] (Qam QfB):=by trivial
def QdX:MS :=
  (Qai (Qas 3 (Qbn Qae))
  (Qai (Qbl (QfU (Qab (Qaa 1) Qae)) (mgN 4) (Qai (Qas 5 (Qau Qb9 (Qab (Qaa 0) (Qab (Qaf QaJ (Qaa 2) (Qaa 4)) Qae))))
  (Qai (Qas 6 (Qaf gIx (mC (.str [97,98,32,120,65,32,32,66,90,99,32,91])) (Qaf QbA (Qaa 5) (mC (.int 12)))))
  (Qcs 3 (QbS (Qab (Qaa 6) (Qab (Qaf gIx (mC (.str [97,98,46])) (Qaf QbA (Qaf QcX (Qaa 5) (mC (.int 12))) (mC (.int 3)))) (Qab (Qaf gIx (mC (.str [104,46])) (Qaf QbA (Qaf QcX (Qaa 5) (mC (.int 36))) (mC (.int 2)))) (Qab (Qaf QaJ (Qaf QdH (mC (.int 7)) (Qaa 4)) (Qaf QbA (Qaf QcX (Qaa 5) (mC (.int 72))) (mC (.int 7)))) Qae)))))))))
  (Qax (Qaa 3))))
def Qcb:List D→Qac→Res D:=Qa5 7 QdX
abbrev Qfz (Pr:Program) (w:World) (K:Frag) (mg:Str→Option Value) (base:Heap):Prop:=Can Pr w K mg base "_law_letters" ["_law_cell","_law_many","_law_k"] 2 (vSp K mg [.s,.s,.s] (rO K) Qcb)
theorem Qk1 (Qfv:Def K mg "_law_letters" QfB)
  (B:Qbf mg)
  (NK:Qa6 K=true)
  (Qdq:Qir Pr w K mg base) :
  Qfz Pr w K mg base:=by
 refine Qbw (k:=1) (b:=QdX) Qfv QcJ (fun _ _ _ _ _ _=>QaB fun _=>QaB fun _=>QaB fun _=>Qbk rfl) [.s,.s,.s] [.o,.v,.v,.v] Qch (fun _ _ _ _=>.inl ⟨rfl,Rp.non⟩) (body:=fun f cdv A outer s H E hr P=>?_);refine Qak ?_ ?_;refine QeY (i:=3) QcJ.nd rfl (.inl rfl) (Qbu 0 Qaj);refine Qak ?_ (Qap (Qhc 3));refine Qcy rfl ?_ (QaY (i:=4) QcJ.nd rfl (.inl rfl)) ?_;refine QgF B.range_ ?_;refine Qao (Qah 1) Qaj;refine Qak ?_ ?_;refine Qay (i:=5) QcJ.nd rfl (.inl rfl) ?_;refine QaM Qdq (hr.mono (by decide)) ?_;refine Qao (Qah 0) ?_;refine Qao ?_ Qaj;refine Qaw ?_;refine QaE Qbq (Qah 2) (Qad (Qag 4));refine Qak ?_ ?_
 refine Qay (i:=6) QcJ.nd rfl (.inl rfl) ?_;refine QaU (Qad (QbG [97,98,32,120,65,32,32,66,90,99,32,91])) ?_;refine Qaw ?_;refine QaE QcH (Qad (Qag 5)) (Qad Qan);refine Qap ?_;refine Qft 3 ?_;refine Qcf 4 ?_;refine Qa0 (Qag 6) ?_;refine Qa0 ?_ ?_;refine QaU (Qad (QbG [97,98,46])) ?_;refine Qaw ?_;refine QaE QcH ?_ (Qad Qan);refine Qaw ?_;refine QaE Qhl (Qad (Qag 5)) (Qad Qan);refine Qa0 ?_ ?_;refine QaU (Qad (QbG [104,46])) ?_;refine Qaw ?_;refine QaE QcH ?_ (Qad Qan);refine Qaw ?_;refine QaE Qhl (Qad (Qag 5)) (Qad Qan);refine Qa0 ?_ Qaj;refine QaF ?_;refine QaE Qbq ?_ ?_;refine Qaw ?_;refine QaE QmF (Qad Qan) (Qad (Qag 4))
 refine Qaw ?_;refine QaE QcH ?_ (Qad Qan);refine Qaw ?_;refine QaE Qhl (Qad (Qag 5)) (Qad Qan)
abbrev Qg3:Stmt:=top 46
theorem Qdl:QaA ["_law_script","_law_most","_law_parts_here","_law_k","_law_cell","_law_word"] ["_law_script","_law_most"] (Qam Qg3):=by trivial
def Qfa:MS :=
  (Qai (Qas 2 (Qbn Qae))
  (Qai (Qbl (QfU (Qab (Qaf QbA (Qau Qbc (Qab (Qaa 0) (Qab (mC (.int 2)) Qae))) (mC (.int 5))) Qae)) (mgN 3) (Qai (Qas 4 (Qau Qbc (Qab (Qaa 0) (Qab (Qaf QaJ (mC (.int 4)) (Qaa 3)) Qae))))
  (Qai (Qas 5 (Qaf gIx (Qbn (Qab (mC (.str [119,104,111,108,101])) (Qab (mC (.str [109,111,114,101])) Qae))) (Qaf QbA (Qau Qb9 (Qab (Qaa 4) (Qab (mC (.int 9)) Qae))) (mC (.int 2)))))
  (Qcs 2 (QbS (Qab (Qau Qcb (Qab (Qaa 4) (Qab (Qaf QbA (Qau Qb9 (Qab (Qaa 4) (Qab (mC (.int 10)) Qae))) (Qaf QaJ (Qaa 1) (mC (.int 1)))) (Qab (mC (.int 12)) Qae)))) (Qab (Qaa 5) Qae)))))))
  (Qax (Qaa 2))))
def Qff:List D→Qac→Res D:=Qa5 6 Qfa
abbrev Qji (Pr:Program) (w:World) (K:Frag) (mg:Str→Option Value) (base:Heap):Prop:=Can Pr w K mg base "_law_parts" ["_law_script","_law_most"] 3 (vSp K mg [.s,.s] (rO K) Qff)
theorem QmR (QgI:Def K mg "_law_parts" Qg3)
  (B:Qbf mg)
  (NK:Qa6 K=true)
  (QbV:QfE Pr w K mg base)
  (Qdq:Qir Pr w K mg base)
  (Qcx:Qfz Pr w K mg base) :
  Qji Pr w K mg base:=by
 refine Qbw (k:=2) (b:=Qfa) QgI Qdl (fun _ _ _ _ _ _=>QaB fun _=>QaB fun _=>Qbk rfl) [.s,.s] [.o,.v,.v,.v] Qch (fun _ _ _ _=>.inl ⟨rfl,Rp.non⟩) (body:=fun f cdv A outer s H E hr P=>?_);refine Qak ?_ ?_;refine QeY (i:=2) Qdl.nd rfl (.inl rfl) (Qbu 0 Qaj);refine Qak ?_ (Qap (Qhc 2));refine Qcy rfl ?_ (QaY (i:=3) Qdl.nd rfl (.inl rfl)) ?_;refine QgF B.range_ ?_;refine Qao ?_ Qaj;refine Qaw ?_;refine QaE QcH ?_ (Qad Qan);refine Qad ?_;refine QaM QbV (hr.mono (by decide)) ?_;refine Qao (Qah 0) ?_;refine Qao (Qad Qan) Qaj;refine Qak ?_ ?_;refine Qay (i:=4) Qdl.nd rfl (.inl rfl) ?_;refine QaM QbV (hr.mono (by decide)) ?_
 refine Qao (Qah 0) ?_;refine Qao ?_ Qaj;refine Qaw ?_;refine QaE Qbq (Qad Qan) (Qad (Qag 3));refine Qak ?_ ?_;refine Qay (i:=5) Qdl.nd rfl (.inl rfl) ?_;refine QaU ?_ ?_;refine Qaw ?_;refine Qbu 2 ?_;refine Qa0 (QbG [119,104,111,108,101]) ?_;refine Qa0 (QbG [109,111,114,101]) Qaj;refine Qaw ?_;refine QaE QcH ?_ (Qad Qan);refine Qad ?_;refine QaM Qdq (hr.mono (by decide)) ?_;refine Qao (Qad (Qag 4)) ?_;refine Qao (Qad Qan) Qaj;refine Qap ?_;refine Qft 2 ?_;refine Qcf 2 ?_;refine Qa0 ?_ ?_;refine QaF ?_;refine Qcn Qcx (hr.mono (by decide)) ?_;refine Qao (Qad (Qag 4)) ?_;refine Qao ?_ ?_;refine Qaw ?_
 refine QaE QcH ?_ ?_;refine Qad ?_;refine QaM Qdq (hr.mono (by decide)) ?_;refine Qao (Qad (Qag 4)) ?_;refine Qao (Qad Qan) Qaj;refine Qaw ?_;refine QaE Qbq (Qah 1) (Qad Qan);refine Qao (Qad Qan) Qaj;refine Qa0 (Qag 5) Qaj
abbrev Qfb:Stmt:=top 47
theorem QlU:QaA ["_law_letters_here"] ["_law_letters_here"] (Qam Qfb):=by trivial
def Qfd:MS :=
  (Qax (Qav QkF (Qab (Qbm (Qba (Qaa 0)) 1 [] (mgN 0) QbW (Qaf QaJ (mC (.int 1)) (Qav QkZ (Qab (Qeg gLe gLe (mC (.str [65])) (Qaf gIx (Qaa 0) (mC (.int 0))) (mC (.str [90]))) Qae)))) Qae)))
def QdK:List D→Qac→Res D:=Qa5 1 Qfd
abbrev Qjf (Pr:Program) (w:World) (K:Frag) (mg:Str→Option Value) (base:Heap):Prop:=Can Pr w K mg base "_law_cells" ["_law_letters_here"] 1 (vSp K mg [.s] (rV K) QdK)
theorem Qmt (Qg5:Def K mg "_law_cells" Qfb)
  (B:Qbf mg)
  (NK:Qa6 K=true) :
  Qjf Pr w K mg base:=by
 refine Qbw (k:=0) (b:=Qfd) Qg5 QlU (fun _ _ _ _ _ _=>QaB fun _=>Qbk rfl) [.s] [] Qbd (fun _ _ _ _=>Rp.non) (body:=fun f cdv A outer s H E hr P=>?_);refine Qap ?_;refine QaI ?_;refine QaF ?_;refine Qa7 (ms:=[.s]) (hv:=Qp3) (Qpq rfl) B.sum_ ?_;refine Qao ?_ Qaj;refine Qaw ?_;refine Qc4 (Qam Qfb) ["_law_letters_here"] ["_law_letter"] [] rfl (Qcl (Qah 0)) (fun _ _ _ _ P=>?_) (fun _ _ _ _ P=>?_) (fun _ _ _ _ P=>?_);exact QaY (i:=0) (show (QaT ["_law_letters_here"] ["_law_letter"] []).Nodup by decide +kernel) rfl (.inl rfl);exact Qc7;refine QaF ?_;refine QaE Qbq (Qad Qan) ?_;refine Qaw ?_;refine Qdj (ms:=[.s]) (hv:=QmO) Quf B.int_ ?_
 refine Qao ?_ Qaj;refine Qaw ?_;refine Qm5 QhJ QhJ (Qad (QbG [65])) ?_ (Qad (QbG [90]));refine Qad ?_;refine QaU (Qad (Qag 0)) (Qad Qan)
abbrev Qfc:Stmt:=top 48
theorem Qel:QaA ["_law_lines","_law_found","_law_line"] ["_law_lines"] (Qam Qfc):=by trivial
def Qfi:MS :=
  (Qai (Qas 1 (Qbn Qae))
  (Qai (Qbl (Qba (Qaa 0)) (mgN 2) (Qas 1 (Qaf QaJ (Qaa 1) (Qbm (Qba (Qaa 2)) 1 [] (mgN 0) (Qat (Qaf gNe (Qaf gIx (Qaa 0) (mC (.int 0))) (mC (.str [32])))) (Qaa 0)))))
  (Qax (Qaa 1))))
def Qck:List D→Qac→Res D:=Qa5 3 Qfi
abbrev Qje (Pr:Program) (w:World) (K:Frag) (mg:Str→Option Value) (base:Heap):Prop:=Can Pr w K mg base "_law_signs" ["_law_lines"] 1 (vSp K mg [.s] (rV K) Qck)
theorem QlQ (QgK:Def K mg "_law_signs" Qfc)
  (B:Qbf mg)
  (NK:Qa6 K=true) :
  Qje Pr w K mg base:=by
 refine Qbw (k:=0) (b:=Qfi) QgK Qel (fun _ _ _ _ _ _=>QaB fun _=>Qbk rfl) [.s] [.v,.v] Qbd (fun _ _ _ _=>Rp.non) (body:=fun f cdv A outer s H E hr P=>?_);refine Qak ?_ ?_;refine Qay (i:=1) Qel.nd rfl (.inl rfl) ?_;refine QaF (Qbu 0 Qaj);refine Qak ?_ ?_;refine Qcy rfl (Qho (Qkn 0)) (QaY (i:=2) Qel.nd rfl (.inl rfl)) ?_;refine Qap ?_;refine Qay (i:=1) Qel.nd rfl (.inl rfl) ?_;refine QaF ?_;refine QaE Qbq (Qad (Qag 1)) ?_;refine Qaw ?_;refine Qc4 (Qam Qfc) ["_law_lines","_law_found","_law_line"] ["_law_letter"] [] rfl ?_ (fun _ _ _ _ P=>?_) (fun _ _ _ _ P=>?_) (fun _ _ _ _ P=>?_);refine Qcl (Qad (Qag 2))
 exact QaY (i:=0) (show (QaT ["_law_lines","_law_found","_law_line"] ["_law_letter"] []).Nodup by decide +kernel) rfl (.inl rfl)
 refine Qi2 ?_;refine QaW (Qf0 hr) ?_ (Qad (QbG [32])) (QaN _);refine Qad ?_;refine QaU (Qad (Qag 0)) (Qad Qan);exact Qag 0;refine Qap (QaI (Qag 1))
abbrev QgN:Stmt:=top 49
theorem Qgd:QaA ["_law_lines","_law_line","_law_k"] ["_law_lines"] (Qam QgN):=by trivial
def Qfh:MS :=
  (Qai (Qbl (Qba (Qaa 0)) (mgN 1) (Qbl (QgD (Qab (mC (.int 1)) (Qab (Qav Qa4 (Qab (Qaa 1) Qae)) Qae))) (mgN 2) (QaV (Qat (Qaf gGe (Qaf gIx (Qaf gIx (Qaa 1) (Qaf QdQ (Qaa 2) (mC (.int 1)))) (mC (.int 3))) (Qaf gIx (Qaf gIx (Qaa 1) (Qaa 2)) (mC (.int 3))))) (Qax (mC (.bl false))) QaP)))
  (Qax (mC (.bl true))))
def Qe7:List D→Qac→Res D:=Qa5 3 Qfh
abbrev Qjj (Pr:Program) (w:World) (K:Frag) (mg:Str→Option Value) (base:Heap):Prop:=Can Pr w K mg base "_law_rises" ["_law_lines"] 1 (vSp K mg [.s] (rV K) Qe7)
theorem Qmk (QgS:Def K mg "_law_rises" QgN)
  (B:Qbf mg)
  (NK:Qa6 K=true) :
  Qjj Pr w K mg base:=by
 refine Qbw (k:=0) (b:=Qfh) QgS Qgd (fun _ _ _ _ _ _=>QaB fun _=>Qbk rfl) [.s] [.v,.v] Qbd (fun _ _ _ _=>Rp.non) (body:=fun f cdv A outer s H E hr P=>?_);refine Qak ?_ ?_;refine Qcy rfl (Qho (Qkn 0)) (QaY (i:=1) Qgd.nd rfl (.inl rfl)) ?_;refine Qap ?_;refine Qcy rfl ?_ (QaY (i:=2) Qgd.nd rfl (.inl rfl)) ?_;refine Qlt B.range_ ?_;refine Qao (Qad Qan) ?_;refine Qao ?_ Qaj;refine Qaw ?_;refine Qa7 (ms:=[.s]) (hv:=Qby) Qbx B.len_ ?_;refine Qao (Qad (Qag 1)) Qaj;refine Qap ?_;refine Qbr ?_ ?_ Qa2;refine QaW Qwp ?_ ?_ (QaN _);refine Qad ?_;refine QaU ?_ (Qad Qan);refine Qad ?_;refine QaU (Qad (Qag 1)) ?_
 refine Qaw ?_;refine QaE Qko (Qad (Qag 2)) (Qad Qan);refine Qad ?_;refine QaU ?_ (Qad Qan);refine Qad ?_;refine QaU (Qad (Qag 1)) (Qad (Qag 2));refine Qap (QaI Qdt);refine Qap (QaI Qdt)
abbrev QeQ:Stmt:=top 50
theorem Qei:QaA ["_law_left","_law_onward","_law_empty"] ["_law_left","_law_onward"] (Qam QeQ):=by trivial
def Qdy:MS :=
  (Qai (Qas 2 (mC (.int 0)))
  (Qai (QbZ wF (QcF (Qat (Qaf gLt (Qaa 2) (Qav Qa4 (Qab (Qaa 0) Qae)))) (Qat (Qaf gEq (Qaf gIx (Qaf gIx (Qaa 0) (Qaa 2)) (mC (.int 0))) (mC (.str [32]))))) (Qai (QaV (QcF (Qat (Qaf gNe (Qaa 1) (Qbn Qae))) (Qat (Qaf gEq (mSl (Qaa 0) (moS (Qaa 2)) (moS (Qaf QaJ (Qaa 2) (mC (.int 1))))) (mSl (Qaf gIx (Qaa 1) (mC (.int 0))) moN (moS (mC (.int 1))))))) (Qax (Qaa 2)) QaP)
  (Qas 2 (Qaf QaJ (Qaa 2) (mC (.int 1))))))
  (Qax (Qaa 2))))
def QcS:List D→Qac→Res D:=Qa5 3 Qdy
abbrev Qhk (Pr:Program) (w:World) (K:Frag) (mg:Str→Option Value) (base:Heap):Prop:=Can Pr w K mg base "_law_left_out" ["_law_left","_law_onward"] 1 (vSp K mg [.s,.s] (rV K) QcS)
theorem QjR (QeX:Def K mg "_law_left_out" QeQ)
  (B:Qbf mg)
  (NK:Qa6 K=true) :
  Qhk Pr w K mg base:=by
 refine Qbw (k:=0) (b:=Qdy) QeX Qei (fun _ _ _ _ _ _=>QaB fun _=>QaB fun _=>Qbk rfl) [.s,.s] [.v] Qbd (fun _ _ _ _=>Rp.non) (body:=fun f cdv A outer s H E hr P=>?_);refine Qak (Qay (i:=2) Qei.nd rfl (.inl rfl) Qan) ?_;refine Qak ?_ ?_;refine QeV wF ?_ ?_;refine QiB ?_;refine QiP ?_ ?_;refine QaW QjY (Qad (Qag 2)) ?_ (QaN _);refine Qaw ?_;refine Qa7 (ms:=[.s]) (hv:=Qby) Qbx B.len_ ?_;refine Qao (Qah 0) Qaj;refine Qhi ?_;refine QaW (Qb7 hr) ?_ (Qad (QbG [32])) (QaN _);refine Qad ?_;refine QaU ?_ (Qad Qan);refine Qad ?_;refine QaU (Qah 0) (Qad (Qag 2));refine Qak ?_ ?_;refine Qbr ?_ ?_ Qa2;refine QiB ?_
 refine QiP ?_ ?_;refine QaW (Qf0 hr) (Qah 1) ?_ (QaN _);refine Qaw (Qbu 0 Qaj);refine Qhi ?_;refine QaW (Qb7 hr) ?_ ?_ (QaN _);refine Qaw ?_;refine Qb0 (Qah 0) (QbL (Qag 2)) ?_;refine QbL ?_;refine QaF ?_;refine QaE Qbq (Qad (Qag 2)) (Qad Qan);refine Qaw ?_;refine Qb0 ?_ Qdu (QbL Qan);refine Qad ?_;refine QaU (Qah 1) (Qad Qan);refine Qap (QaI (Qag 2));refine Qap ?_;refine Qay (i:=2) Qei.nd rfl (.inl rfl) ?_;refine QaF ?_;refine QaE Qbq (Qad (Qag 2)) (Qad Qan);refine Qap (QaI (Qag 2))
abbrev Qde:Stmt:=top 51
theorem Qa3:QaA ["_law_lines","_law_some","_law_at","_law_letters_here","_law_left","_law_many","_law_empty"] ["_law_lines","_law_some"] (Qam Qde):=by trivial
def Qcz:MS :=
  (Qai (Qas 2 (mC (.int 0)))
  (Qai (Qbl (Qba (Qaa 1)) (mgN 3) (Qai (Qas 4 (Qav Qcg (Qab (Qaa 3) Qae)))
  (Qai (QaV (Qat (Qaf gEq (Qaa 4) (Qbn Qae))) (Qai (QaV (Qep (Qat (Qaf gEq (Qaa 2) (Qav Qa4 (Qab (Qaa 0) Qae)))) (Qat (Qaf gNe (Qaf gIx (Qaa 0) (Qaa 2)) (Qbn Qae)))) (Qax (mC (.bl false))) QaP)
  (Qas 2 (Qaf QaJ (Qaa 2) (mC (.int 1))))) QaP)
  (QbZ wF (Qat (Qaf gNe (Qaa 4) (Qbn Qae))) (Qai (QaV (Qat (Qaf gEq (Qaa 2) (Qav Qa4 (Qab (Qaa 0) Qae)))) (Qax (mC (.bl false))) QaP)
  (Qai (Qas 5 (Qav Qa4 (Qab (Qaf gIx (Qaa 0) (Qaa 2)) Qae)))
  (Qai (QaV (Qat (Qaf gNe (mSl (Qaa 4) moN (moS (Qaa 5))) (Qaf gIx (Qaa 0) (Qaa 2)))) (Qax (mC (.bl false))) QaP)
  (Qai (Qas 4 (mSl (Qaa 4) (moS (Qaa 5)) moN))
  (Qai (Qas 2 (Qaf QaJ (Qaa 2) (mC (.int 1))))
  (Qai (Qas 6 (Qau QcS (Qab (Qaa 4) (Qab (mSl (Qaa 0) (moS (Qaa 2)) (moS (Qaf QaJ (Qaa 2) (mC (.int 1))))) Qae))))
  (Qai (Qas 4 (mSl (Qaa 4) (moS (Qaa 6)) moN))
  (QaV (QcF (Qat (Qaf gEq (Qaa 5) (mC (.int 0)))) (Qat (Qaf gEq (Qaa 6) (mC (.int 0))))) (Qax (mC (.bl false))) QaP))))))))))))
  (Qax (Qaf gEq (Qaa 2) (Qav Qa4 (Qab (Qaa 0) Qae))))))
def QcA:List D→Qac→Res D:=Qa5 7 Qcz
abbrev Qfn (Pr:Program) (w:World) (K:Frag) (mg:Str→Option Value) (base:Heap):Prop:=Can Pr w K mg base "_law_gone_through" ["_law_lines","_law_some"] 2 (vSp K mg [.s,.s] (rV K) QcA)
theorem Qil (Qdb:Def K mg "_law_gone_through" Qde)
  (B:Qbf mg)
  (NK:Qa6 K=true)
  (QeM:Qhk Pr w K mg base) :
  Qfn Pr w K mg base:=by
 refine Qbw (k:=1) (b:=Qcz) Qdb Qa3 (fun _ _ _ _ _ _=>QaB fun _=>QaB fun _=>Qbk rfl) [.s,.s] [.v,.v,.v,.v,.v] Qbd (fun _ _ _ _=>Rp.non) (body:=fun f cdv A outer s H E hr P=>?_);refine Qak (Qay (i:=2) Qa3.nd rfl (.inl rfl) Qan) ?_;refine Qak ?_ ?_;refine Qcy rfl (Qho (Qkn 1)) (QaY (i:=3) Qa3.nd rfl (.inl rfl)) ?_;refine Qak ?_ ?_;refine Qay (i:=4) Qa3.nd rfl (.inl rfl) ?_;refine QaF ?_;refine Qdj (ms:=[.s]) (hv:=Qf5) Qhr B.list_ ?_;refine Qao (Qad (Qag 3)) Qaj;refine Qak ?_ ?_;refine Qbr ?_ ?_ Qa2;refine QaW (Qb7 hr) (Qad (Qag 4)) ?_ (QaN _);refine Qaw (Qbu 0 Qaj);refine Qak ?_ ?_;refine Qbr ?_ ?_ Qa2
 refine QiB ?_;refine QlF ?_ ?_;refine QaW (Qb7 hr) (Qad (Qag 2)) ?_ (QaN _);refine Qaw ?_;refine Qa7 (ms:=[.s]) (hv:=Qby) Qbx B.len_ ?_;refine Qao (Qah 0) Qaj;refine Qmd ?_;refine QaW (Qf0 hr) ?_ ?_ (QaN _);refine Qad ?_;refine QaU (Qah 0) (Qad (Qag 2));refine Qaw (Qbu 0 Qaj);refine Qap (QaI Qdt);refine Qap ?_;refine Qay (i:=2) Qa3.nd rfl (.inl rfl) ?_;refine QaF ?_;refine QaE Qbq (Qad (Qag 2)) (Qad Qan);refine Qap ?_;refine QeV wF ?_ ?_;refine QaW (Qf0 hr) (Qad (Qag 4)) ?_ (QaN _);refine Qaw (Qbu 0 Qaj);refine Qak ?_ ?_;refine Qbr ?_ ?_ Qa2;refine QaW (Qb7 hr) (Qad (Qag 2)) ?_ (QaN _);refine Qaw ?_
 refine Qa7 (ms:=[.s]) (hv:=Qby) Qbx B.len_ ?_;refine Qao (Qah 0) Qaj;refine Qap (QaI Qdt);refine Qak ?_ ?_;refine Qay (i:=5) Qa3.nd rfl (.inl rfl) ?_;refine QaF ?_;refine Qa7 (ms:=[.s]) (hv:=Qby) Qbx B.len_ ?_;refine Qao ?_ Qaj;refine Qad ?_;refine QaU (Qah 0) (Qad (Qag 2));refine Qak ?_ ?_;refine Qbr ?_ ?_ Qa2;refine QaW (Qf0 hr) ?_ ?_ (QaN _);refine Qaw ?_;refine Qb0 (Qad (Qag 4)) Qdu (QbL (Qag 5));refine Qad ?_;refine QaU (Qah 0) (Qad (Qag 2));refine Qap (QaI Qdt);refine Qak ?_ ?_;refine Qay (i:=4) Qa3.nd rfl (.inl rfl) ?_;refine QaF ?_;refine Qb0 (Qad (Qag 4)) (QbL (Qag 5)) Qdu;refine Qak ?_ ?_
 refine Qay (i:=2) Qa3.nd rfl (.inl rfl) ?_;refine QaF ?_;refine QaE Qbq (Qad (Qag 2)) (Qad Qan);refine Qak ?_ ?_;refine Qay (i:=6) Qa3.nd rfl (.inl rfl) ?_;refine QaM QeM (hr.mono (by decide)) ?_;refine Qao (Qad (Qag 4)) ?_;refine Qao ?_ Qaj;refine Qaw ?_;refine Qb0 (Qah 0) (QbL (Qag 2)) ?_;refine QbL ?_;refine QaF ?_;refine QaE Qbq (Qad (Qag 2)) (Qad Qan);refine Qak ?_ ?_;refine Qay (i:=4) Qa3.nd rfl (.inl rfl) ?_;refine QaF ?_;refine Qb0 (Qad (Qag 4)) (QbL (Qag 6)) Qdu;refine Qap ?_;refine Qbr ?_ ?_ Qa2;refine QiB ?_;refine QiP ?_ ?_;refine QaW (Qb7 hr) (Qad (Qag 5)) (Qad Qan) (QaN _);refine Qhi ?_
 refine QaW (Qb7 hr) (Qad (Qag 6)) (Qad Qan) (QaN _);refine Qap (QaI Qdt);refine Qap ?_;refine QaI ?_;refine QaF ?_;refine Qgu (Qb7 hr) (Qad (Qag 2)) ?_ (QaN _);refine Qaw ?_;refine Qa7 (ms:=[.s]) (hv:=Qby) Qbx B.len_ ?_;refine Qao (Qah 0) Qaj
abbrev Qdv:Stmt:=top 52
theorem Qc6:QaA ["_law_parts_here","_law_row","_law_broad","_law_way","_law_some","_law_found","_law_every","_law_signs_here"] ["_law_parts_here","_law_row","_law_broad","_law_way"] (Qam Qdv):=by trivial
def Qf1:MS :=
  (Qai (Qas 4 (Qbm (Qba (Qaa 0)) 1 [] (mgN 0) QbW (Qaf gIx (Qaa 0) (mC (.int 0)))))
  (Qai (QaV (Qat (Qaf gNe (Qaa 1) (Qbn Qae))) (Qas 4 (Qaf QaJ (Qaa 4) (Qbn (Qab (Qaa 1) Qae)))) QaP)
  (Qai (Qas 5 (Qau Qeh (Qab (Qbm (Qba (Qaa 0)) 2 [] (Qg8 2 (QbE (mgN 0) (QbE (mgN 1) Qex))) QbW (QbS (Qab (Qav Qcg (Qab (Qaa 0) Qae)) (Qab (Qaa 1) Qae)))) (Qab (Qav Qcg (Qab (Qaa 1) Qae)) (Qab (QbS (Qab (mC (.str [97])) (Qab (mC (.int 0)) (Qab (mC (.int 0)) (Qab (mC (.int 12)) (Qab (mG (Qaa 2)) (Qab (mG (Qaa 3)) Qae))))))) Qae)))))
  (Qai (QaV (Qep (Qat (Qaf gNe (Qbm (Qba (Qaa 5)) 1 [2] (mgN 0) (Qat (Qaf gGt (Qau QdK (Qab (Qaa 0) Qae)) (Qaa 1))) (Qaa 0)) (Qbn Qae))) (Qep (Qat (Qaf gGt (Qav Qa4 (Qab (Qaa 5) Qae)) (mC (.int 12)))) (Qc9 (Qcd (Qau Qe7 (Qab (Qaa 5) Qae)))))) (Qax (mC (.bl false))) QaP)
  (Qai (Qas 6 (Qau Qck (Qab (Qaa 4) Qae)))
  (Qai (QaV (Qat (Qaf gEq (Qav Qa4 (Qab (Qaa 5) Qae)) (mC (.int 12)))) (Qai (Qas 7 (Qau Qck (Qab (Qaa 5) Qae)))
  (Qax (Qaf gEq (Qaa 7) (mSl (Qaa 6) (moS (Qaf QdQ (Qav Qa4 (Qab (Qaa 6) Qae)) (Qav Qa4 (Qab (Qaa 7) Qae)))) moN)))) QaP)
  (Qax (QgE (Qaf gEq (Qau Qck (Qab (Qaa 5) Qae)) (Qaa 6)) (Qau QcA (Qab (Qaa 5) (Qab (Qaa 4) Qae)))))))))))
def Qek:List D→Qac→Res D:=Qa5 8 Qf1
abbrev Qks (Pr:Program) (w:World) (K:Frag) (mg:Str→Option Value) (base:Heap):Prop:=Can Pr w K mg base "_law_held" ["_law_parts_here","_law_row","_law_broad","_law_way"] 13 (vSp K mg [.s,.v,.s,.s] (rV K) Qek)
theorem Qns (Qh5:Def K mg "_law_held" Qdv)
  (B:Qbf mg)
  (NK:Qa6 K=true)
  (QhX:Qkb Pr w K mg base)
  (QgW:Qjf Pr w K mg base)
  (QgU:Qjj Pr w K mg base)
  (QdL:Qje Pr w K mg base)
  (Qdr:Qfn Pr w K mg base) :
  Qks Pr w K mg base:=by
 refine Qbw (k:=12) (b:=Qf1) Qh5 Qc6 (fun _ _ _ _ _ _=>QaB fun _=>QaB fun _=>QaB fun _=>QaB fun _=>Qbk rfl) [.s,.v,.s,.s] [.v,.v,.v,.v] Qbd (fun _ _ _ _=>Rp.non) (body:=fun f cdv A outer s H E hr P=>?_);refine Qak ?_ ?_;refine QhI (i:=4) (Qam Qdv) ["_law_parts_here","_law_row","_law_broad","_law_way","_law_some","_law_found","_law_every","_law_signs_here"] ["_law_part"] [] Qc6.nd rfl (.inl rfl) rfl (Qcl (Qah 0)) (fun _ _ _ _ P=>?_) (fun _ _ _ _ P=>?_) (fun _ _ _ _ P=>?_);exact QaY (i:=0) (show (QaT ["_law_parts_here","_law_row","_law_broad","_law_way","_law_some","_law_found","_law_every","_law_signs_here"] ["_law_part"] []).Nodup by decide +kernel) rfl (.inl rfl)
 exact Qc7
 refine QaU (Qad (Qag 0)) (Qad Qan);refine Qak ?_ ?_;refine Qbr ?_ ?_ Qa2;refine QaW (Qf0 hr) (Qad (Qag 1)) ?_ (QaN _);refine Qaw (Qbu 0 Qaj);refine Qap ?_;refine Qay (i:=4) Qc6.nd rfl (.inl rfl) ?_;refine QaF ?_;refine QaE Qbq (Qad (Qag 4)) ?_;refine Qaw ?_;refine Qbu 1 ?_;refine Qa0 (Qag 1) Qaj;refine Qak ?_ ?_;refine Qay (i:=5) Qc6.nd rfl (.inl rfl) ?_;refine QaF ?_;refine Qcn QhX (hr.mono (by decide)) ?_;refine Qao ?_ ?_;refine Qaw ?_;refine Qc4 (Qam Qdv) ["_law_parts_here","_law_row","_law_broad","_law_way","_law_some","_law_found","_law_every","_law_signs_here"] ["_law_letters_here","_law_word"] [] rfl (Qcl (Qah 0)) (fun _ _ _ _ P=>?_) (fun _ _ _ _ P=>?_) (fun _ _ _ _ P=>?_)
 refine Qm9 2 rfl ?_;refine QeS (QaY (i:=0) (show (QaT ["_law_parts_here","_law_row","_law_broad","_law_way","_law_some","_law_found","_law_every","_law_signs_here"] ["_law_letters_here","_law_word"] []).Nodup by decide +kernel) rfl (.inl rfl)) ?_;refine QeS (QaY (i:=1) (show (QaT ["_law_parts_here","_law_row","_law_broad","_law_way","_law_some","_law_found","_law_every","_law_signs_here"] ["_law_letters_here","_law_word"] []).Nodup by decide +kernel) rfl (.inl rfl)) Qk0;exact Qc7;refine Qcf 2 ?_;refine Qa0 ?_ ?_;refine QaF ?_;refine Qdj (ms:=[.s]) (hv:=Qf5) Qhr B.list_ ?_;refine Qao (Qad (Qag 0)) Qaj
 refine Qa0 (Qag 1) Qaj;refine Qao ?_ ?_;refine Qaw ?_;refine Qdj (ms:=[.s]) (hv:=Qf5) Qhr B.list_ ?_;refine Qao (Qad (Qag 1)) Qaj;refine Qao ?_ Qaj;refine Qad ?_;refine Qcf 6 ?_;refine Qa0 (QbG [97]) ?_;refine Qa0 Qan ?_;refine Qa0 Qan ?_;refine Qa0 Qan ?_;refine Qa0 (Qb2 (Qah 2)) ?_;refine Qa0 (Qb2 (Qah 3)) Qaj;refine Qak ?_ ?_;refine Qbr ?_ ?_ Qa2;refine QiB ?_;refine QlF ?_ ?_;refine QaW (Qf0 hr) ?_ ?_ (QaN _);refine Qaw ?_;refine Qc4 (Qam Qdv) ["_law_parts_here","_law_row","_law_broad","_law_way","_law_some","_law_found","_law_every","_law_signs_here"] ["_law_line"] [2] rfl ?_ (fun _ _ _ _ P=>?_) (fun _ _ _ _ P=>?_) (fun _ _ _ _ P=>?_)
 refine Qcl (Qad (Qag 5));exact QaY (i:=0) (show (QaT ["_law_parts_here","_law_row","_law_broad","_law_way","_law_some","_law_found","_law_every","_law_signs_here"] ["_law_line"] [2]).Nodup by decide +kernel) rfl (.inl rfl);refine Qi2 ?_;refine QaW Qi4 ?_ (Qah 1) (QaN _);refine Qad ?_;refine QaM QgW (hr.mono (by decide)) ?_;refine Qao (Qad (Qag 0)) Qaj;exact Qag 0;refine Qaw (Qbu 0 Qaj);refine QlF ?_ ?_;refine QaW Qi4 ?_ (Qad Qan) (QaN _);refine Qaw ?_;refine Qa7 (ms:=[.s]) (hv:=Qby) Qbx B.len_ ?_;refine Qao (Qad (Qag 5)) Qaj;refine Qmd ?_;refine Qiq ?_;refine Qer ?_;refine Qad ?_;refine QaM QgU (hr.mono (by decide)) ?_
 refine Qao (Qad (Qag 5)) Qaj;refine Qap (QaI Qdt);refine Qak ?_ ?_;refine Qay (i:=6) Qc6.nd rfl (.inl rfl) ?_;refine QaM QdL (hr.mono (by decide)) ?_;refine Qao (Qad (Qag 4)) Qaj;refine Qak ?_ ?_;refine Qbr ?_ ?_ Qa2;refine QaW (Qb7 hr) ?_ (Qad Qan) (QaN _);refine Qaw ?_;refine Qa7 (ms:=[.s]) (hv:=Qby) Qbx B.len_ ?_;refine Qao (Qad (Qag 5)) Qaj;refine Qak ?_ ?_;refine Qay (i:=7) Qc6.nd rfl (.inl rfl) ?_;refine QaM QdL (hr.mono (by decide)) ?_;refine Qao (Qad (Qag 5)) Qaj;refine Qap ?_;refine QaI ?_;refine QaF ?_;refine Qgu (Qb7 hr) (Qad (Qag 7)) ?_ (QaN _);refine Qaw ?_;refine Qb0 (Qad (Qag 6)) ?_ Qdu
 refine QbL ?_;refine QaF ?_;refine QaE Qko ?_ ?_;refine Qaw ?_;refine Qa7 (ms:=[.s]) (hv:=Qby) Qbx B.len_ ?_;refine Qao (Qad (Qag 6)) Qaj;refine Qaw ?_;refine Qa7 (ms:=[.s]) (hv:=Qby) Qbx B.len_ ?_;refine Qao (Qad (Qag 7)) Qaj;refine Qap ?_;refine QaI ?_;refine Qix ?_ ?_;refine QaF ?_;refine Qgu (Qb7 hr) ?_ (Qad (Qag 6)) (QaN _);refine Qad ?_;refine QaM QdL (hr.mono (by decide)) ?_;refine Qao (Qad (Qag 5)) Qaj;refine QiO ?_;refine QaM Qdr (hr.mono (by decide)) ?_;refine Qao (Qad (Qag 5)) ?_;refine Qao (Qad (Qag 4)) Qaj
abbrev Qe8:Stmt:=top 53
theorem Qhb:QaA ["_law_script","_law_parts_here","_law_cell","_law_row","_law_broad","_law_way"] ["_law_script"] (Qam Qe8):=by trivial
def QlL:MS :=
  (Qai (Qas 1 (mSl (Qau Qff (Qab (Qaa 0) (Qab (mC (.int 8)) Qae))) moN (moS (mC (.int 3)))))
  (Qai (Qas 2 (Qau Qbc (Qab (Qaa 0) (Qab (mC (.int 3)) Qae))))
  (Qai (Qas 3 (Qau Qcb (Qab (Qaa 2) (Qab (Qaf QbA (Qaa 2) (mC (.int 9))) (Qab (mC (.int 12)) Qae)))))
  (Qai (Qas 4 (Qaf QaJ (mC (.int 4)) (Qaf QbA (Qau Qbc (Qab (Qaa 0) (Qab (mC (.int 0)) Qae))) (mC (.int 9)))))
  (Qai (Qbl (Qba (Qbn (Qab (mC (.str [99,101,108,108,115])) (Qab (mC (.str [119,111,114,100,115])) (Qab (mC (.str [101,118,101,110])) Qae))))) (mgN 5) (QaV (Qc9 (Qcd (Qau Qek (Qab (Qaa 1) (Qab (Qaa 3) (Qab (Qaa 4) (Qab (Qaa 5) Qae))))))) (Qax (mC (.bl false))) QaP))
  (Qax (mC (.bl true))))))))
def Qr5:List D→Qac→Res D:=Qa5 6 QlL
abbrev Qwf (Pr:Program) (w:World) (K:Frag) (mg:Str→Option Value) (base:Heap):Prop:=Can Pr w K mg base "law" ["_law_script"] 14 (vSp K mg [.s] (rV K) Qr5)
theorem Qvm (QoZ:Def K mg "law" Qe8)
  (B:Qbf mg)
  (NK:Qa6 K=true)
  (QgL:Qji Pr w K mg base)
  (QbV:QfE Pr w K mg base)
  (Qcx:Qfz Pr w K mg base)
  (Qic:Qks Pr w K mg base) :
  Qwf Pr w K mg base:=by
 refine Qbw (k:=13) (b:=QlL) QoZ Qhb (fun _ _ _ _ _ _=>QaB fun _=>Qbk rfl) [.s] [.v,.v,.v,.v,.v] Qbd (fun _ _ _ _=>Rp.non) (body:=fun f cdv A outer s H E hr P=>?_);refine Qak ?_ ?_;refine Qay (i:=1) Qhb.nd rfl (.inl rfl) ?_;refine QaF ?_;refine Qb0 ?_ Qdu (QbL Qan);refine Qaw ?_;refine Qcn QgL (hr.mono (by decide)) ?_;refine Qao (Qah 0) ?_;refine Qao (Qad Qan) Qaj;refine Qak ?_ ?_;refine Qay (i:=2) Qhb.nd rfl (.inl rfl) ?_;refine QaM QbV (hr.mono (by decide)) ?_;refine Qao (Qah 0) ?_;refine Qao (Qad Qan) Qaj;refine Qak ?_ ?_;refine Qay (i:=3) Qhb.nd rfl (.inl rfl) ?_;refine QaF ?_;refine Qcn Qcx (hr.mono (by decide)) ?_
 refine Qao (Qad (Qag 2)) ?_;refine Qao ?_ ?_;refine Qaw ?_;refine QaE QcH (Qad (Qag 2)) (Qad Qan);refine Qao (Qad Qan) Qaj;refine Qak ?_ ?_;refine Qay (i:=4) Qhb.nd rfl (.inl rfl) ?_;refine QaF ?_;refine QaE Qbq (Qad Qan) ?_;refine Qaw ?_;refine QaE QcH ?_ (Qad Qan);refine Qad ?_;refine QaM QbV (hr.mono (by decide)) ?_;refine Qao (Qah 0) ?_;refine Qao (Qad Qan) Qaj;refine Qak ?_ ?_;refine Qcy rfl ?_ (QaY (i:=5) Qhb.nd rfl (.inl rfl)) ?_;refine Qho ?_;refine QoU ?_;refine QaF ?_;refine Qbu 3 ?_;refine Qa0 (QbG [99,101,108,108,115]) ?_;refine Qa0 (QbG [119,111,114,100,115]) ?_;refine Qa0 (QbG [101,118,101,110]) Qaj
 refine Qap ?_;refine Qbr ?_ ?_ Qa2;refine Qiq ?_;refine Qer ?_;refine Qad ?_;refine QaM Qic (hr.mono (by decide)) ?_;refine Qao (Qad (Qag 1)) ?_;refine Qa0 (Qag 3) ?_;refine Qao (Qad (Qag 4)) ?_;refine Qao (Qad (Qag 5)) Qaj;refine Qap (QaI Qdt);refine Qap (QaI Qdt)
end
theorem QaH {g:D→D→Option D}{a b:L2.M D}{ρ:Qal}{O:Qac}{x y z:D} (ha:a ρ O = .ok x O) (hb:b ρ O = .ok y O) (h:g (QaR O x) (QaR O y)=some z):Qaf g a b ρ O = .ok z O:=by
 rw [QcT,ha,Qaq,hb,Qaq,h,Qbo]
theorem ma1 {a:L2.M D}{ρ:Qal}{O:Qac}{x:D} (h:a ρ O = .ok x O):Qab a Qae ρ O = .ok [x] O:=by
 rw [QbK,h,Qaq,Qb8,Qaq]
theorem maS {a:L2.M D}{r:L2.M (List D)}{ρ:Qal}{O:Qac}{x:D}{xs:List D} (h:a ρ O = .ok x O) (h2:r ρ O = .ok xs O):Qab a r ρ O = .ok (x::xs) O:=by
 rw [QbK,h,Qaq,h2,Qaq]
theorem QkK {m:L2.M (List D)}{ρ:Qal}{O:Qac}{xs:List D} (h:m ρ O = .ok xs O) (hl:xs.length≤1000000):QbS m ρ O = .ok (.tup xs) O:=by
 rw [QoI,h,Qaq,if_pos hl]
theorem QhE {m:L2.M (List D)}{ρ:Qal}{O:Qac}{xs:List D} (h:m ρ O = .ok xs O) (hl:xs.length≤1000000):Qbn m ρ O = .ok (.lst xs) O:=by
 rw [QoB,h,Qaq,if_pos hl]
theorem QeH {g:List D→Option D}{m:L2.M (List D)}{ρ:Qal}{O:Qac}{xs:List D}{z:D} (h:m ρ O = .ok xs O) (hg:g (xs.map (QaR O))=some z):Qav g m ρ O = .ok z O:=by
 rw [Qd7,h,Qaq,hg,Qbo]
theorem QjX {i:Nat}{m:L2.M D}{ρ:Qal}{O:Qac}{d:D}{ds:List D} (hm:m ρ O = .ok d O) (h:ρ[i]? = some (some (.lst ds))) (hl:ds.length < 1000000):Qcs i m ρ O = .nx (ρ.set i (some (.lst (ds ++ [d])))) O:=by
 rw [Qpc,hm,Qpi h hl]
theorem QaO {i:Nat}{m:L2.M D}{ρ:Qal}{O:Qac}{d:D} (h:m ρ O = .ok d O):Qas i m ρ O = .nx (ρ.set i (some d)) O:=by
 rw [Qeu,h,Qdz]
theorem QaQ {c:List D→Qac→Res D}{ma:L2.M (List D)}{ρ:Qal}{O:Qac}{ds:List D} (h:ma ρ O = .ok ds O):Qau c ma ρ O=c ds O:=by
 rw [QcK,h,Qaq]
theorem QbJ {m:L2.M D}{ρ:Qal}{O:Qac}{b:Bool} (h:m ρ O = .ok (.bl b) O):Qat m ρ O = .ok b O:=by
 rw [QcM,h,Qaq,QcL]
theorem Qev {t:L2.M Bool}{a b:MS}{ρ:Qal}{O:Qac} (h:t ρ O = .ok true O):QaV t a b ρ O=a ρ O:=by
 rw [QdU,h,Qdh,if_pos rfl]
theorem if_no {t:L2.M Bool}{a b:MS}{ρ:Qal}{O:Qac} (h:t ρ O = .ok false O):QaV t a b ρ O=b ρ O:=by
 rw [QdU,h,Qdh,if_neg zj]
theorem QcO {m:L2.M D}{ρ:Qal}{O:Qac}{l:List D} (h:m ρ O = .ok (.lst l) O):Qav Qa4 (Qab m Qae) ρ O = .ok (.int (l.length:Int)) O:=QeH (ma1 h) rfl
theorem Qp0 {m:L2.M D}{ρ:Qal}{O:Qac}{n:Nat} (h:m ρ O = .ok (.int (n:Int)) O) (hn:n≤1000000):QfU (Qab m Qae) ρ O = .ok (Qbp 0 n) O:=by
 rw [QvF,ma1 h,Qaq];show (if (n:Int)≤1000000000∧-1000000000≤(n:Int) then Res.ok (Qbp 0 (n:Int).toNat) O else .no)=_;rw [if_pos ⟨by omega,by omega⟩,Int.toNat_natCast]
theorem QeB {a b:L2.M D}{ρ:Qal}{O:Qac}{i j:Int} (ha:a ρ O = .ok (.int i) O) (hb:b ρ O = .ok (.int j) O) (hj:0 < j):Qaf QbA a b ρ O = .ok (.int (i % j)) O:=QaH ha hb (by rw [Qbg,Qbg,QuZ,if_pos hj])
theorem QgH {a b:L2.M D}{ρ:Qal}{O:Qac}{i j:Int} (ha:a ρ O = .ok (.int i) O) (hb:b ρ O = .ok (.int j) O):Qaf QaJ a b ρ O = .ok (.int (i+j)) O:=QaH ha hb rfl
theorem Qr0 {a b:L2.M D}{ρ:Qal}{O:Qac}{i j:Int} (ha:a ρ O = .ok (.int i) O) (hb:b ρ O = .ok (.int j) O):Qaf QdQ a b ρ O = .ok (.int (i - j)) O:=QaH ha hb rfl
theorem QlJ {a b:L2.M D}{ρ:Qal}{O:Qac}{i j:Int} (ha:a ρ O = .ok (.int i) O) (hb:b ρ O = .ok (.int j) O):Qat (Qaf gLt a b) ρ O = .ok (decide (i < j)) O:=QbJ (QaH ha hb rfl)
theorem Qig {a b:L2.M D}{ρ:Qal}{O:Qac}{i j:Int} (ha:a ρ O = .ok (.int i) O) (hb:b ρ O = .ok (.int j) O):Qat (Qaf gEq a b) ρ O = .ok (decide (i=j)) O:=QbJ (QaH ha hb rfl)
theorem Qki {α:Type} (l:List α) (a b:Nat):Qbt l (some (a:Int)) (some (b:Int))=(l.drop a).take (b - a):=by
 unfold Qbt;rw [HT.sIx_nat,HT.sIx_nat]
 by_cases h:a≤l.length
 ·rw [Nat.min_eq_left h]
  by_cases hb:b≤l.length
  ·rw [Nat.min_eq_left hb]
  ·rw [Nat.min_eq_right (by omega),List.take_of_length_le (by rw [List.length_drop]; omega),List.take_of_length_le (by rw [List.length_drop]; omega)]
 ·rw [Nat.min_eq_right (show l.length≤a by omega),List.drop_eq_nil_of_le (show l.length≤l.length by omega),List.drop_eq_nil_of_le (show l.length≤a by omega)];simp
theorem Qka {α:Type} (l:List α) (b:Nat):Qbt l none (some (b:Int))=l.take b:=by
 unfold Qbt;rw [HT.sIx_nat,HT.sIx_none,List.drop_zero,Nat.sub_zero]
 by_cases hb:b≤l.length
 ·rw [Nat.min_eq_left hb]
 ·rw [Nat.min_eq_right (by omega),List.take_of_length_le (by omega),List.take_of_length_le (by omega)]
theorem Qm1 {α:Type} (l:List α) (a:Nat):Qbt l (some (a:Int)) none=l.drop a:=by
 unfold Qbt;rw [HT.sIx_nat,HT.sIx_none]
 by_cases h:a≤l.length
 ·rw [Nat.min_eq_left h,List.take_of_length_le (by rw [List.length_drop]; omega)]
 ·rw [Nat.min_eq_right (by omega),List.drop_eq_nil_of_le (by omega),List.drop_eq_nil_of_le (by omega)];simp
@[simp] theorem Qzh {a:Nat}:Qbt [a] none (some 2) = [a]:=rfl
@[simp] theorem Qyl {i:Int}:QdH (.int i) (.int 48271)=some (.int (i * 48271)):=Qkh (.inr ⟨by decide,by decide⟩)
@[simp] theorem Qtu {i:Int}:QdH (.int 7) (.int i)=some (.int (7 * i)):=Qkh (.inl ⟨by decide,by decide⟩)
@[simp] theorem Qza {a b c d:D}:gIx (.tup [a,b,c,d]) (.int 0)=some a:=rfl
theorem QkA {lo:Int}{n i:Nat}{d:D} (h:(Qbp lo n)[i]? = some d):i < n∧d = .int (lo+i):=by
 unfold Qbp at h;rw [zD] at h
 cases q:(List.range n)[i]? with
 | none=>rw [q] at h; cases h
 | some c =>
  rw [q] at h;obtain ⟨a,b⟩:=zk.mp q;simp at a b;simp at h;exact ⟨a,by rw [←h,b]⟩
theorem ixS {l:List Nat}{v n:Int} (hl:l.length≤1000000) (h:(l.length:Int)=n) (hn:0 < n):∃c,c∈l∧gIx (.str l) (.int (v % n))=some (.str [c]):=by
 obtain ⟨c,h1,h2⟩:=QmN (xs:=l) (i:=v % n) (ja _ (by omega)) (by rw [h]; exact jb _ hn);exact ⟨c,h2,by rw [Qwx,if_pos hl,h1]; rfl⟩
theorem ixL {l:List D}{v n:Int} (h:(l.length:Int)=n) (hn:0 < n):∃c,c∈l∧gIx (.lst l) (.int (v % n))=some c:=by
 obtain ⟨c,h1,h2⟩:=QmN (xs:=l) (i:=v % n) (ja _ (by omega)) (by rw [h]; exact jb _ hn);exact ⟨c,h2,h1⟩
abbrev LT:=Nat×Nat×Nat×Int
def dL (x:LT):D:=.tup [.str [x.1],.str [x.2.1],.str [x.2.2.1],.int x.2.2.2]
def OkL (x:LT):Prop:=(32≤x.1∧x.1≤125)∧x.2.1≤125∧x.2.2.1≤125
def wid (c:Nat):Int:=if 65≤c∧c≤90 then 2 else 1
def trn (l:List LT):Nat→Nat
 | 0=>0
 | n+1=>if (l[n]?).map (fun x=>x.1)=some 32 then trn l n else n+1
theorem Qj4 (l:List LT):∀n,trn l n≤n
 | 0=>ze _
 | n+1=>by
  unfold trn
  split
  ·exact Nat.le_succ_of_le (Qj4 l n)
  ·exact ze _
def wsum (l:List LT):Int:=(l.map fun x=>wid x.1).sum
theorem Qk8 {α:Type} (f:α→Int):∀l:List α,Qdx (l.map fun x=>.int (f x))=some (l.map f)
 | []=>rfl
 | x::l=>by
  show (Qdx (l.map fun x=>D.int (f x))).map _=_;rw [Qk8 f l];rfl
theorem QmD {α:Type} (f:α→Int) (l:List α) (h:∀x∈l,0≤f x∧f x≤1000000) (hl:l.length≤1000000):QkF [.lst (l.map fun x=>.int (f x))]=some (.int (l.map f).sum):=by
 unfold QkF;dsimp only;rw [Qk8];show (if _ then _ else _)=_;rw [if_pos];rw [zr,List.all_eq_true];refine ⟨fun n hn=>?_,zq (by rw [zd]; exact hl)⟩;obtain ⟨x,hx,rfl⟩:=zG.mp hn
 have:=h x hx
 simp [this]
theorem Qss (c:Nat):0≤wid c∧wid c≤1000000:=by
 unfold wid
 split <;> decide
theorem Qlp {x:LT} (h:OkL x):Qcp (dL x)=true∧(toP (dL x)).canLay0=true∧(toP (dL x)).depth≤5:=by
 obtain ⟨⟨_,h1⟩,h2,h3⟩:=h;refine ⟨rfl,?_,?_⟩
 ·have a:=QkR (l:=[x.1]) (by simp; omega);have b:=QkR (l:=[x.2.1]) (by simp; omega);have c:=QkR (l:=[x.2.2.1]) (by simp; omega);show PyData.canLay0 (.tuple [.str (S [x.1]),.str (S [x.2.1]),.str (S [x.2.2.1]),.int x.2.2.2])=true;simp [PyData.canLay0,PyData.canLayAll0] at *
  try exact ⟨a,b,c⟩
 ·show PyData.depth (.tuple [.str (S [x.1]),.str (S [x.2.1]),.str (S [x.2.2.1]),.int x.2.2.2])≤5;simp [PyData.depth,PyData.depthAll]
theorem Qnw (l:List LT) (h:∀x∈l,OkL x):okE (.lst (l.map dL))=true:=Qoe (n:=5) (by decide) fun d hd=>by
 obtain ⟨x,hx,rfl⟩:=zG.mp hd;exact Qlp (h x hx)
theorem Qf9 (c:Nat) (O:Qac):QbP [.str [c]] O = .ok (.int (wid c)) O:=by
 simp [QbP,QhY,wid]
 by_cases h1:65≤c <;> by_cases h2:c≤90 <;> simp [h1,h2]
theorem ixs {l:List LT}{i:Nat}{x:LT} (e:l[i]? = some x):gIx (.lst (l.map dL)) (.int (i:Int))=some (dL x):=by
 rw [Qj7,QgC,zD,e]; rfl
def QbO:List LT→Int→Nat
 | [],_=>0
 | x::xs,w=>if wid x.1≤w then QbO xs (w - wid x.1)+1 else 0
theorem QkG:∀(l:List LT) (w:Int),QbO l w≤l.length
 | [],_=>ze _
 | x::xs,w=>by
  unfold QbO
  split
  ·have:=QkG xs (w - wid x.1)
   simp only [zz];omega
  ·exact Nat.zero_le _
theorem QpC (c:Nat):1≤wid c∧wid c≤2:=by
 unfold wid
 split <;> decide
theorem Qmq {l:List LT}{w:Int} (h:l≠[]) (hw:2≤w):1≤QbO l w:=by
 cases l with
 | nil=>exact absurd rfl h
 | cons x xs =>
  have:=QpC x.1
  unfold QbO;rw [if_pos (by omega)];omega
def rch (l:List LT) (lo:Nat) (w:Int):Nat:=lo+QbO (l.drop lo) w
theorem QmG (l:List LT) (lo:Nat) (w:Int) (h:lo≤l.length):rch l lo w≤l.length:=by
 have:=QkG (l.drop lo) w
 rw [List.length_drop] at this;unfold rch;omega
theorem Qqq (l:List LT) (lo:Nat) (w:Int) (h:lo < l.length) (hw:2≤w):lo < rch l lo w:=by
 have hd:l.drop lo≠[]:=fun z=>by
  have:=congrArg List.length z
  simp at this
  omega
 have:=Qmq hd hw
 unfold rch;omega
theorem QrG {l:List LT}{i k:Nat}{w:Int} (h:QbO (l.drop i) w=k+1):∃x,l[i]? = some x∧i < l.length∧wid x.1≤w∧QbO (l.drop (i+1)) (w - wid x.1)=k:=by
 by_cases hi:i < l.length
 ·rw [List.drop_eq_getElem_cons hi] at h;unfold QbO at h;split at h
  ·rename_i hw;exact ⟨l[i],zo hi,hi,hw,by omega⟩
  ·omega
 ·rw [List.drop_eq_nil_of_le (by omega)] at h;cases h
theorem Qtm {l:List LT}{i:Nat}{w:Int} (h:QbO (l.drop i) w=0):¬i < l.length∨∃x,l[i]? = some x∧i < l.length∧¬wid x.1≤w:=by
 by_cases hi:i < l.length
 ·rw [List.drop_eq_getElem_cons hi] at h;unfold QbO at h;split at h
  ·omega
  ·rename_i hw;exact .inr ⟨l[i],zo hi,hi,hw⟩
 ·exact .inl hi
theorem QkL (l:List LT) (lo:Nat) (w:Int) (hl:l.length≤1000) (hlo:lo≤l.length) (O:Qac):Qd6 [.lst (l.map dL),.int (lo:Int),.int w] O = .ok (.int (rch l lo w:Nat)) O:=by
 have fl:=QkG (l.drop lo) w;rw [List.length_drop] at fl;obtain ⟨ρ',O',e,rfl,j,c,rfl,h1,h2,h3⟩:=Qlq (t:=QcF (Qat (Qaf gLt (Qaa 3) (Qav Qa4 (Qab (Qaa 0) Qae)))) (Qat (Qaf gLe (Qaf QaJ (Qaa 4) (Qau QbP (Qab (Qaf gIx (Qaf gIx (Qaa 0) (Qaa 3)) (mC (.int 0))) Qae))) (Qaa 2))))
  (b:=Qai (Qas 4 (Qaf QaJ (Qaa 4) (Qau QbP (Qab (Qaf gIx (Qaf gIx (Qaa 0) (Qaa 3)) (mC (.int 0))) Qae)))) (Qas 3 (Qaf QaJ (Qaa 3) (mC (.int 1)))))
  (fun k ρ O'=>O'=O∧∃(j:Nat) (c:Int),ρ = [some (.lst (l.map dL)),some (.int (lo:Int)),some (.int w),some (.int ((lo+j:Nat):Int)),some (.int c)]∧lo+j≤l.length∧j+k=QbO (l.drop lo) w∧k=QbO (l.drop (lo+j)) (w - c)) wF (QbO (l.drop lo) w) [some (.lst (l.map dL)),some (.int (lo:Int)),some (.int w),some (.int ((lo+0:Nat):Int)),some (.int 0)] O (by unfold wF; omega) ⟨rfl,0,0,rfl,hlo,by omega,by simp⟩
  (by
   rintro k ρ O' ⟨rfl,j,c,rfl,h1,h2,h3⟩;obtain ⟨x,hx,hi,hw,hk⟩:=QrG h3.symm;have ix:=ixs hx
   have hlt:((lo+j:Nat):Int) < (l.length:Int):=by omega
   have hle:c+wid x.1≤w:=by omega
   have i0:gIx (dL x) (.int 0)=some (.str [x.1]):=rfl;have dd:QaR O' (dL x)=dL x:=rfl;refine ⟨?_,k,_,_,ze _,?_,rfl,j+1,c+wid x.1,rfl,by omega,by omega,?_⟩
   ·simp only [Qdk,QcM,QcT,Qd7,QcK,QbK,Qb8,Qci,m_c,zI,zP,Qaq,QbB,Qbg,zf,zY,QjV,zd,Qbo,Qo5,zq hlt,QcL,if_true,ix,dd,i0,Qf9,Qgw,Qr2,zq hle]
   ·simp only [QaS,Qeu,QcT,QcK,QbK,Qb8,Qci,m_c,zI,zP,Qaq,QbB,Qbg,ix,dd,i0,Qbo,Qf9,Qgw,Qdz,QaL,jk,jl];rfl
   ·rw [←hk,show lo+(j+1)=lo+j+1 by omega,show w - (c+wid x.1)=w - c - wid x.1 by omega])
  (by
   rintro ρ O' ⟨rfl,j,c,rfl,h1,h2,h3⟩
   rcases Qtm h3.symm with hi | ⟨x,hx,hi,hw⟩
   ·have hlt:¬((lo+j:Nat):Int) < (l.length:Int):=by omega
    simp only [Qdk,QcM,QcT,Qd7,QbK,Qb8,Qci,zI,zP,Qaq,QbB,Qbg,zf,zY,QjV,zd,Qbo,Qo5,zh hlt,QcL,Bool.false_eq_true,if_false]
   ·have ix:=ixs hx
    have hlt:((lo+j:Nat):Int) < (l.length:Int):=by omega
    have hle:¬c+wid x.1≤w:=by omega
    have i0:gIx (dL x) (.int 0)=some (.str [x.1]):=rfl;have dd:QaR O' (dL x)=dL x:=rfl
    simp only [Qdk,QcM,QcT,Qd7,QcK,QbK,Qb8,Qci,m_c,zI,zP,Qaq,QbB,Qbg,zf,zY,QjV,zd,Qbo,Qo5,zq hlt,QcL,if_true,ix,dd,i0,Qf9,Qgw,Qr2,zh hle])
 have hj:lo+j=rch l lo w:=by unfold rch; omega
 rw [hj] at e;show QaK (Qi3 [some (.lst (l.map dL)),some (.int (lo:Int)),some (.int w),none,none] O')=_;unfold Qi3;simp only [QaS,Qeu,m_g,Qci,m_c,zI,zP,Qpz,Qdz,QaL,jk,jl,Qgq];have e':QbD _ _ wF [some (.lst (l.map dL)),some (.int (lo:Int)),some (.int w),some (.int (lo:Int)),some (.int 0)] O'=_:=e;rw [e'];rfl
theorem QsI (l:List LT) (hl:l.length≤1000) (O:Qac):QfZ [.lst (l.map dL)] O = .ok (.int (wsum l)) O:=by
 have ec:=Qb4 (g:=mgN 0) (t:=QbW) (m:=Qau QbP (Qab (Qaf gIx (Qaa 0) (mC (.int 0))) Qae)) (fun ρ=>∃a,ρ = [a]) dL (fun x=>D.int (wid x.1)) l [none] O [] ⟨_,rfl⟩ (by
  rintro x hx ρ ⟨a,rfl⟩;refine ⟨_,rfl,⟨_,rfl⟩,rfl,?_⟩
  simp [dL,Qf9])
 have z:(l.map dL).length≤1000000:=by rw [zd]; omega
 have gs:=QmD (fun x:LT=>wid x.1) l (fun x _=>Qss _) (by omega);simp only [QfZ,Qh8,Qsu,zf,zY,zz,zU,List.replicate,List.cons_append,zC,QcP,Qd7,QbK,Qb8,QlX,Qqu,Qci,zI,Qaq,Qld,QmJ,if_pos z,QwH,ec,QbB,zO];rw [show (fun x:LT=>D.int (wid x.1))=(fun x:LT=>D.int ((fun x:LT=>wid x.1) x)) from rfl,gs];rfl
theorem Qie (l:List LT) (m:Nat):trn l (m+1)=if (l[m]?).map (fun x=>x.1)=some 32 then trn l m else m+1:=rfl
theorem QnU {m:M (List D)}{ρ:Qal}{O O1:Qac}{i j:Int} (e:m ρ O = .ok [.int i,.int j] O1) (h:(i≤1000000000∧-1000000000≤i)∧j≤1000000000∧-1000000000≤j):QgD m ρ O = .ok (Qbp i (j - i).toNat) O1:=by
 unfold QgD;rw [e];show (if _ then _ else _)=_;rw [if_pos h]
def isB (l:List LT) (d:D):Bool:=match d with
 | .int i=>decide (i=(l.length:Int)) || (decide ((l[(i - 1).toNat]?).map (fun x=>x.1)=some 32) && !decide ((l[i.toNat]?).map (fun x=>x.1)=some 32))
 | _=>false
theorem QnJ {l:List LT}{i:Nat} (h:i+1 < l.length):∃x y,l[i]? = some x∧l[i+1]? = some y∧isB l (.int (1+(i:Int)))=(decide (x.1=32) && !decide (y.1=32)):=by
 have e1:=zo (show i < l.length by omega);have e2:=zo h;obtain ⟨x,hx⟩:∃x,l[i]=x:=⟨_,rfl⟩;obtain ⟨y,hy⟩:∃y,l[i+1]=y:=⟨_,rfl⟩;rw [hx] at e1;rw [hy] at e2;refine ⟨x,y,e1,e2,?_⟩
 have n1:((1:Int)+(i:Int) - 1).toNat=i:=by omega
 have n2:((1:Int)+(i:Int)).toNat=i+1:=by omega
 have n3:¬(1:Int)+(i:Int)=(l.length:Int):=by omega
 unfold isB;dsimp only;rw [n1,n2,e1,e2];simp [n3]
theorem Qod {l:List LT}{i:Nat} (h:i+1=l.length):isB l (.int (1+(i:Int)))=true:=by
 have n3:(1:Int)+(i:Int)=(l.length:Int):=by omega
 unfold isB;simp [n3]
theorem QoV (l:List LT) (i:Nat) (hi:i < l.length) (O:Qac):QcC [.lst (l.map dL),.int (1+(i:Int))] O = .ok (.bl (isB l (.int (1+(i:Int))))) O:=by
 by_cases h:i+1=l.length
 ·have n3:(1:Int)+(i:Int)=(l.length:Int):=by omega
  rw [Qod h];simp [QcC,Qem,n3]
 ·obtain ⟨x,y,e1,e2,e3⟩:=QnJ (show i+1 < l.length by omega)
  have n3:¬(1:Int)+(i:Int)=(l.length:Int):=by omega
  have n1:(1:Int)+(i:Int) - 1=(i:Int):=by omega
  have n2:(1:Int)+(i:Int)=((i+1:Nat):Int):=by omega
  have i1:=ixs e1;have i2:=ixs e2;rw [e3];rw [←n2] at i2
  by_cases hx:x.1=32
  ·simp [QcC,Qem,n3,n1,i1,i2,dL,hx]
  ·simp [QcC,Qem,n3,n1,i1,dL,hx]
theorem Qfk (x:LT) (l:List LT):wsum (x::l)=wid x.1+wsum l:=by
 simp [wsum]
theorem Qht:∀l:List LT,0≤wsum l
 | []=>by simp [wsum]
 | x::l=>by
  have:=Qht l
  have:=QpC x.1
  rw [Qfk];omega
theorem Qio (l:List LT):∀(a b:Nat),a≤b→wsum (l.take a)≤wsum (l.take b):=by
 induction l with
 | nil=>intro a b _; simp
 | cons x l ih =>
  intro a b h
  cases a with
  | zero=>exact Qht _
  | succ a =>
   cases b with
   | zero=>omega
   | succ b =>
    rw [List.take_succ_cons,List.take_succ_cons,Qfk,Qfk]
    have:=ih a b (by omega)
    omega
theorem QkC {l:List LT}{k:Nat}{x:LT} (h:l[k]? = some x):wsum (l.take (k+1))=wsum (l.take k)+wid x.1:=by
 rw [List.take_succ,h];simp [wsum]
theorem QiW:∀(l:List LT) (w:Int) (k:Nat),0≤w→k≤QbO l w→wsum (l.take k)≤w
 | [],w,k,hw,_=>by simpa [wsum] using hw
 | x::l,w,0,hw,_=>by simpa [wsum] using hw
 | x::l,w,k+1,hw,h=>by
  unfold QbO at h;split at h
  ·rename_i hx
   have:=QiW l (w - wid x.1) k (by omega) (by omega)
   rw [List.take_succ_cons,Qfk];omega
  ·omega
def tw (l:List LT) (lo k:Nat):Int:=wsum ((l.drop lo).take (trn (l.drop lo) k))
theorem QlT {l:List LT}{lo k:Nat}{x:LT} (h:l[lo+k]? = some x) (hx:x.1=32):tw l lo (k+1)=tw l lo k:=by
 unfold tw;rw [Qie,if_pos (by rw [List.getElem?_drop,h]; simp [hx])]
theorem Qn8 {l:List LT}{lo k:Nat}{x:LT} (h:l[lo+k]? = some x) (hx:x.1≠32):tw l lo (k+1)=wsum ((l.drop lo).take (k+1)):=by
 unfold tw;rw [Qie,if_neg (by rw [List.getElem?_drop,h]; simp [hx])]
theorem QrZ (l:List LT) (lo k:Nat):tw l lo k≤wsum ((l.drop lo).take k):=Qio _ _ _ (Qj4 _ _)
theorem QtQ (l:List LT) (lo k:Nat):tw l lo k≤tw l lo (k+1):=by
 unfold tw;refine Qio _ _ _ ?_;rw [Qie]
 split
 ·exact ze _
 ·have:=Qj4 (l.drop lo) k
  omega
theorem QsE (l:List LT) (lo:Nat) {a b:Nat} (h:a≤b):tw l lo a≤tw l lo b:=by
 obtain ⟨c,rfl⟩:∃c,b=a+c:=⟨b - a,by omega⟩
 induction c with
 | zero=>exact Int.le_refl _
 | succ c ih=>exact Int.le_trans (ih (by omega)) (QtQ l lo (a+c))
def gd (l:List LT) (lo:Nat) (w:Int) (k:Nat):Bool:=isB l (.int (1+((lo+k:Nat):Int)))&&decide (tw l lo (k+1)≤w)
def fes (l:List LT) (lo:Nat) (w:Int) (i:Nat):List Nat:=(List.range i).filter (gd l lo w)
def fD (l:List LT) (lo:Nat) (k:Nat):D:=.tup [.int (1+((lo+k:Nat):Int)),.int (tw l lo (k+1))]
theorem Qm8 (l:List LT) (lo:Nat) (w:Int) (i:Nat):fes l lo w (i+1)=fes l lo w i++(if gd l lo w i=true then [i] else []):=by
 unfold fes;rw [List.range_succ,List.filter_append];congr 1
 by_cases h:gd l lo w i=true <;> simp [h]
theorem Qq9 {l:List LT}{lo:Nat}{w:Int}{i:Nat} (h:w < tw l lo (i+1)):∀n,i≤n→fes l lo w n=fes l lo w i:=by
 intro n hn;obtain ⟨c,rfl⟩:∃c,n=i+c:=⟨n - i,by omega⟩
 induction c with
 | zero=>rfl
 | succ c ih =>
  have m:=QsE l lo (show i+1≤i+c+1 by omega)
  have hg:gd l lo w (i+c)=false:=by
   unfold gd;rw [zh (by omega),Bool.and_false]
  rw [show i+(c+1)=i+c+1 by omega,Qm8,hg,ih (by omega)];simp
def QiV:MS:=(Qai (Qas 4 (Qaf QaJ (Qaa 4) (Qau QbP (Qab (Qaf gIx (Qaf gIx (Qaa 0) (Qaa 6)) (mC (.int 0))) Qae))))
  (Qai (QaV (Qat (Qaf gNe (Qaf gIx (Qaf gIx (Qaa 0) (Qaa 6)) (mC (.int 0))) (mC (.str [32])))) (Qas 5 (Qaa 4)) QaP)
  (Qai (QaV (Qat (Qaf gGt (Qaa 5) (Qaa 2))) QlD QaP)
  (QaV (Qcd (Qau QcC (Qab (Qaa 0) (Qab (Qaf QaJ (Qaa 6) (mC (.int 1))) Qae)))) (Qcs 3 (QbS (Qab (Qaf QaJ (Qaa 6) (mC (.int 1))) (Qab (Qaa 5) Qae)))) QaP))))
theorem Qq1 (l:List LT) (lo k:Nat) (w:Int) (x:LT) (hx:l[lo+k]? = some x) (acc:List D) (ha:acc.length≤100000) (O:Qac) (o6:Option D) :
  QiV [some (.lst (l.map dL)),some (.int (lo:Int)),some (.int w),some (.lst acc),some (.int (wsum ((l.drop lo).take k))),some (.int (tw l lo k)),some (.int ((lo+k:Nat):Int))] O =
   if w < tw l lo (k+1) then .bk [some (.lst (l.map dL)),some (.int (lo:Int)),some (.int w),some (.lst acc),some (.int (wsum ((l.drop lo).take (k+1)))),some (.int (tw l lo (k+1))),some (.int ((lo+k:Nat):Int))] O
   else .nx [some (.lst (l.map dL)),some (.int (lo:Int)),some (.int w),some (.lst (acc++if gd l lo w k=true then [fD l lo k] else [])),some (.int (wsum ((l.drop lo).take (k+1)))),some (.int (tw l lo (k+1))),some (.int ((lo+k:Nat):Int))] O:=by
 have hi:lo+k < l.length:=(zk.mp hx).1;have ix:=ixs hx;have i0:gIx (dL x) (.int 0)=some (.str [x.1]):=rfl;have dd:QaR O (dL x)=dL x:=rfl;have hs:wsum ((l.drop lo).take k)+wid x.1=wsum ((l.drop lo).take (k+1)):=(QkC (by rw [List.getElem?_drop]; exact hx)).symm;have eb:=QoV l (lo+k) hi O
 have hp:((lo+k:Nat):Int)+1=1+((lo+k:Nat):Int):=by omega
 obtain ⟨R,hR⟩:∃R:MS,R=(Qai (QaV (Qat (Qaf gGt (Qaa 5) (Qaa 2))) QlD QaP)
  (QaV (Qcd (Qau QcC (Qab (Qaa 0) (Qab (Qaf QaJ (Qaa 6) (mC (.int 1))) Qae)))) (Qcs 3 (QbS (Qab (Qaf QaJ (Qaa 6) (mC (.int 1))) (Qab (Qaa 5) Qae)))) QaP)):=⟨_,rfl⟩
 have pre:QiV [some (.lst (l.map dL)),some (.int (lo:Int)),some (.int w),some (.lst acc),some (.int (wsum ((l.drop lo).take k))),some (.int (tw l lo k)),some (.int ((lo+k:Nat):Int))] O=R [some (.lst (l.map dL)),some (.int (lo:Int)),some (.int w),some (.lst acc),some (.int (wsum ((l.drop lo).take (k+1)))),some (.int (tw l lo (k+1))),some (.int ((lo+k:Nat):Int))] O:=by
  unfold QiV;rw [←hR]
  by_cases hb:x.1=32
  ·have q:gNe (.str [x.1]) (.str [32])=some (.bl false):=by rw [hb]; rfl
   rw [QlT hx hb];simp only [QaS,Qeu,QcT,QcK,QbK,Qb8,Qci,m_c,zI,zP,Qaq,QbB,Qbg,Qfr,ix,dd,i0,Qbo,Qf9,Qgw,hs,Qdz,QaL,jk,jl,QdU,QcM,q,QcL,Qdh,Bool.false_eq_true,if_false,QbR]
  ·have q:gNe (.str [x.1]) (.str [32])=some (.bl true):=by simp [hb]
   rw [Qn8 hx hb];simp only [QaS,Qeu,QcT,QcK,QbK,Qb8,Qci,m_c,zI,zP,Qaq,QbB,Qbg,Qfr,ix,dd,i0,Qbo,Qf9,Qgw,hs,Qdz,QaL,jk,jl,QdU,QcM,q,QcL,Qdh,if_true]
 rw [pre,hR]
 by_cases hlt:w < tw l lo (k+1)
 ·rw [if_pos hlt];have hg:tw l lo (k+1) > w:=hlt;simp only [QaS,QdU,QcM,QcT,Qci,zI,zP,Qaq,Qbg,Qhz,zq hg,Qbo,QcL,Qdh,if_true];rfl
 ·rw [if_neg hlt];have hg:¬tw l lo (k+1) > w:=hlt
  have hd:gd l lo w k=isB l (.int (1+((lo+k:Nat):Int))):=by
   unfold gd;rw [zq (by omega),Bool.and_true]
  rw [hd];simp only [QaS,QdU,QcM,QcT,Qci,m_c,zI,zP,Qaq,Qbg,Qhz,zh hg,Qbo,QcL,Qdh,Bool.false_eq_true,if_false,QbR,QaL,Qhu,QcK,QbK,Qb8,Qgw,hp,eb,Qe4,Qf8,QeR]
  cases hb:isB l (.int (1+((lo+k:Nat):Int))) with
  | false=>simp
  | true =>
   simp only [if_true,Qpc,QoI,QbK,Qb8,QcT,Qci,m_c,zI,zP,Qaq,Qbg,Qgw,hp,Qbo,zz,zU,Nat.reduceAdd,Nat.reduceLeDiff];rw [Qpi (ds:=acc) rfl (by omega)];rfl
theorem Qmh (l:List LT) (lo:Nat) (w:Int) (hl:l.length≤1000) (O:Qac):∀(m k:Nat) (o6:Option D),lo+k+m=l.length →
  ∃o4 o5 o6',QaZ (mgN 6) QiV (Qbp ((lo+k:Nat):Int) m) [some (.lst (l.map dL)),some (.int (lo:Int)),some (.int w),some (.lst ((fes l lo w k).map (fD l lo))),some (.int (wsum ((l.drop lo).take k))),some (.int (tw l lo k)),o6] O = .nx [some (.lst (l.map dL)),some (.int (lo:Int)),some (.int w),some (.lst ((fes l lo w (l.length - lo)).map (fD l lo))),o4,o5,o6'] O
 | 0,k,o6,h=>by
  rw [show l.length - lo=k by omega];exact ⟨_,_,_,rfl⟩
 | m+1,k,o6,h=>by
  have hx:=zo (show lo+k < l.length by omega)
  have fl:(fes l lo w k).length≤k:=by
   have:=List.length_filter_le (gd l lo w) (List.range k)
   rw [List.length_range] at this;exact this
  have t:=Qq1 l lo k w _ hx ((fes l lo w k).map (fD l lo)) (by rw [zd]; omega) O o6
  have er:Qbp ((lo+k:Nat):Int) (m+1) = .int ((lo+k:Nat):Int)::Qbp ((lo+(k+1):Nat):Int) m:=by
   unfold Qbp;rw [List.range_succ_eq_map,zf,zW,List.cons.injEq];refine ⟨by simp,js fun i _=>?_⟩;show D.int (((lo+k:Nat):Int)+((i+1:Nat):Int))=D.int (((lo+(k+1):Nat):Int)+(i:Int));congr 1;omega
  rw [er];unfold QaZ;rw [mg_n];dsimp only;rw [show ([some (.lst (l.map dL)),some (.int (lo:Int)),some (.int w),some (.lst ((fes l lo w k).map (fD l lo))),some (.int (wsum ((l.drop lo).take k))),some (.int (tw l lo k)),o6]:Qal).set 6 (some (.int ((lo+k:Nat):Int))) = [some (.lst (l.map dL)),some (.int (lo:Int)),some (.int w),some (.lst ((fes l lo w k).map (fD l lo))),some (.int (wsum ((l.drop lo).take k))),some (.int (tw l lo k)),some (.int ((lo+k:Nat):Int))] from rfl,t]
  by_cases hlt:w < tw l lo (k+1)
  ·rw [if_pos hlt,Qq9 hlt (l.length - lo) (by omega)];exact ⟨_,_,_,rfl⟩
  ·rw [if_neg hlt];obtain ⟨o4,o5,o6',q⟩:=Qmh l lo w hl O m (k+1) (some (.int ((lo+k:Nat):Int))) (by omega);refine ⟨o4,o5,o6',?_⟩;dsimp only;rw [Qm8,zM] at q;rw [←q]
   by_cases hg:gd l lo w k=true <;> simp [hg]
theorem QpR (l:List LT) (lo:Nat) (w:Int) (hl:l.length≤1000) (hlo:lo≤l.length) (O:Qac):QeK [.lst (l.map dL),.int (lo:Int),.int w] O = .ok (.lst ((fes l lo w (l.length - lo)).map (fD l lo))) O:=by
 obtain ⟨o4,o5,o6,e⟩:=Qmh l lo w hl O (l.length - lo) 0 none (by omega)
 have r:QgD (Qab (Qaa 1) (Qab (Qav Qa4 (Qab (Qaa 0) Qae)) Qae)) [some (.lst (l.map dL)),some (.int (lo:Int)),some (.int w),some (.lst []),some (.int 0),some (.int 0),none] O = .ok (Qbp (lo:Int) (l.length - lo)) O:=by
  have e:(Qab (Qaa 1) (Qab (Qav Qa4 (Qab (Qaa 0) Qae)) Qae)) [some (.lst (l.map dL)),some (.int (lo:Int)),some (.int w),some (.lst []),some (.int 0),some (.int 0),none] O = .ok [.int (lo:Int),.int (l.length:Int)] O:=by
   simp
  rw [QnU e (by omega),show ((l.length:Int) - (lo:Int)).toNat=l.length - lo by omega]
 have e':QaZ (mgN 6) QiV (Qbp (lo:Int) (l.length - lo)) [some (.lst (l.map dL)),some (.int (lo:Int)),some (.int w),some (.lst []),some (.int 0),some (.int 0),none] O=_:=e;show QaK (Qai _ (Qai _ (Qai _ (Qai (Qbl _ (mgN 6) QiV) _))) [some (.lst (l.map dL)),some (.int (lo:Int)),some (.int w),none,none,none,none] O)=_;simp only [QaS,Qeu,QoB,Qb8,m_c,Qaq,zU,Nat.zero_le,if_true,Qdz,QaL,jk,jl,Qc1,r,Qcw,e',QcP,Qci,zP,zI,Qf7,Qga]
theorem QbY {m:L2.M D}{ρ:Qal}{O O1:Qac}{d:D} (h:m ρ O = .ok d O1):Qax m ρ O = .rt d O1:=by rw [QcP,h]; rfl
def ends (l:List LT) (lo:Nat) (w:Int):List (Nat×Int):=match fes l lo w (l.length - lo) with
 | []=>[(rch l lo w,wsum ((l.drop lo).take (rch l lo w - lo)))]
 | k::ks=>(k::ks).map fun k=>(lo+k+1,tw l lo (k+1))
def dE (p:Nat×Int):D:=.tup [.int (p.1:Int),.int p.2]
theorem QwT (l:List LT) (lo:Nat) (ks:List Nat):ks.map (fD l lo)=(ks.map fun k=>(lo+k+1,tw l lo (k+1))).map dE:=by
 rw [zW]
 refine js fun k _=>?_
 show D.tup [.int (1+((lo+k:Nat):Int)),.int (tw l lo (k+1))]=D.tup [.int ((lo+k+1:Nat):Int),.int (tw l lo (k+1))];rw [show 1+((lo+k:Nat):Int)=((lo+k+1:Nat):Int) by omega]
theorem Qim (l:List LT) (lo:Nat) (w:Int) (hl:l.length≤1000) (hlo:lo≤l.length) (O:Qac):QdP [.lst (l.map dL),.int (lo:Int),.int w] O = .ok (.lst ((ends l lo w).map dE)) O:=by
 have ef:=QpR l lo w hl hlo O;unfold ends
 cases hf:fes l lo w (l.length - lo) with
 | nil =>
  rw [hf] at ef;have er:=QkL l lo w hl hlo O;have rl:=QmG l lo w hlo
  have ecut:Qbt (l.map dL) (some (lo:Int)) (some (rch l lo w:Nat))=((l.drop lo).take (rch l lo w - lo)).map dL:=by
   rw [Qki,List.map_take,List.map_drop]
  have ec:=QsI ((l.drop lo).take (rch l lo w - lo)) (by rw [List.length_take,List.length_drop]; omega) O;show QaK (Qc2 [some (.lst (l.map dL)),some (.int (lo:Int)),some (.int w),none,none] O)=_;unfold Qc2
  have gz:¬(0:Int) > 0:=by decide
  have l0:Qa4 [.lst []]=some (.int 0):=rfl;simp only [QaS,Qeu,QcK,QbK,Qb8,Qci,zI,zP,Qaq,ef,zY,Qdz,QaL,jk,jl,QdU,QcM,QcT,Qd7,m_c,zf,QbB,l0,Qbo,Qbg,Qhz,zh gz,QcL,Qdh,Bool.false_eq_true,if_false,QbR,er,QcP,QoB,QoI,QqU,Qu0,m_g,Qpz,Qsc,Qn3,ecut,ec,zz,zU,Nat.reduceAdd,Nat.reduceLeDiff,if_true,Qf7,Qga,zC];rfl
 | cons k ks =>
  rw [hf,QwT] at ef
  generalize hds:List.map dE ((k::ks).map fun k=>(lo+k+1,tw l lo (k+1)))=ds at ef
  have hn:0 < ds.length:=by rw [←hds,zd,zd,zz]; omega
  have gz:(ds.length:Int) > 0:=by omega
  show QaK (Qc2 [some (.lst (l.map dL)),some (.int (lo:Int)),some (.int w),none,none] O)=_;unfold Qc2;simp only [QaS,Qeu,QcK,QbK,Qb8,Qci,zI,zP,Qaq,ef,zY,Qdz,QaL,jk,jl,QdU,QcM,QcT,Qd7,m_c,zf,QbB,QjV,Qbo,Qbg,Qhz,zq gz,QcL,Qdh,if_true,QcP,Qf7,QkT,Qga]
def cst (l:List LT) (w:Int) (p:Nat×Int):Int:=if p.1=l.length then 0 else (w - p.2) * (w - p.2)
def strN (n:Nat):List Nat:=(Nat.toDigits 10 n).map Char.toNat
def mvE (l:List LT) (w:Int) (p:Nat×Int):D:=.tup [.int (cst l w p),.str (strN p.1),.tup [.int (p.1:Int),.int 0]]
theorem QuJ (n:Nat) (h:n < 1000000000):Qk2 [.int (n:Int)]=some (.str (strN n)):=by
 unfold Qk2;dsimp only;rw [if_pos ⟨by omega,by omega⟩,Int.toNat_natCast];rfl
theorem Qlk {l:List LT}{lo:Nat}{w:Int} (hn:∀j,lo+j+1≤l.length→gd l lo w j=false):∀(n m:Nat),lo+m+1+n=l.length→(∃x,l[lo+m]? = some x∧x.1=32)→tw l lo (m+1)≤w→False
 | 0,m,h,_,ht=>by
  have g:=hn m (by omega);unfold gd at g;rw [Qod (l:=l) (i:=lo+m) (by omega),zq ht] at g;cases g
 | n+1,m,h,⟨x,hx,hx2⟩,ht=>by
  obtain ⟨x',y,e1,e2,e3⟩:=QnJ (l:=l) (i:=lo+m) (by omega);rw [hx] at e1;cases e1
  by_cases hy:y.1=32
  ·refine Qlk hn n (m+1) (by omega) ⟨y,by rw [←Nat.add_assoc]; exact e2,hy⟩ ?_;rw [QlT (l:=l) (lo:=lo) (k:=m+1) (x:=y) (by rw [←Nat.add_assoc]; exact e2) hy];exact ht
  ·have g:=hn m (by omega);unfold gd at g;rw [e3,zq hx2,zh hy,zq ht] at g;cases g
theorem Qn0 {l:List LT}{lo:Nat}{w:Int}{n k:Nat}:k∈fes l lo w n↔k < n∧gd l lo w k=true:=by
 unfold fes;rw [List.mem_filter,List.mem_range]
theorem QkU {l:List LT}{lo:Nat}{w:Int} (hlo:lo < l.length) (hw:2≤w):∀p∈ends l lo w,lo < p.1∧p.1≤l.length∧0≤p.2∧p.2≤w∧p.2=tw l lo (p.1 - lo):=by
 intro p hp;unfold ends at hp
 cases hf:fes l lo w (l.length - lo) with
 | nil =>
  rw [hf] at hp;rw [zy.mp hp]
  have hn:∀j,lo+j+1≤l.length→gd l lo w j=false:=fun j hj=>by
   cases hg:gd l lo w j with
   | false=>rfl
   | true =>
    have:j∈fes l lo w (l.length - lo):=Qn0.mpr ⟨by omega,hg⟩
    rw [hf] at this;exact nomatch this
  have r1:=Qqq l lo w hlo hw;have r2:=QmG l lo w (by omega)
  have hfit:rch l lo w - lo=QbO (l.drop lo) w:=by unfold rch; omega
  have s1:=QiW (l.drop lo) w (rch l lo w - lo) (by omega) (by omega);refine ⟨r1,r2,Qht _,s1,?_⟩;obtain ⟨m,hm⟩:∃m,rch l lo w - lo=m+1:=⟨rch l lo w - lo - 1,by omega⟩
  have hlt:lo+m < l.length:=by omega
  have ex:=zo hlt;show wsum ((l.drop lo).take (rch l lo w - lo))=tw l lo (rch l lo w - lo);rw [hm] at s1 ⊢
  generalize l[lo+m]=x at ex
  by_cases hx:x.1=32
  ·exfalso
   exact Qlk hn (l.length - (lo+m+1)) m (by omega) ⟨x,ex,hx⟩ (Int.le_trans (QrZ l lo (m+1)) s1)
  ·exact (Qn8 ex hx).symm
 | cons k ks =>
  rw [hf] at hp;obtain ⟨j,hj,rfl⟩:=zG.mp hp;rw [←hf] at hj;obtain ⟨h1,h2⟩:=Qn0.mp hj;unfold gd at h2;rw [zr] at h2;have h3:=jp h2.2;refine ⟨by show lo < lo+j+1; omega,by show lo+j+1≤_; omega,Qht _,h3,?_⟩;show tw l lo (j+1)=tw l lo (lo+j+1 - lo);rw [show lo+j+1 - lo=j+1 by omega]
theorem QlV (l:List LT) (lo:Nat) (w:Int):(ends l lo w).length≤l.length+1:=by
 unfold ends
 have h:(fes l lo w (l.length - lo)).length≤l.length - lo:=by
  unfold fes
  have:=List.length_filter_le (gd l lo w) (List.range (l.length - lo))
  rwa [List.length_range] at this
 cases hf:fes l lo w (l.length - lo) with
 | nil=>exact Nat.le_add_left _ _
 | cons k ks =>
  rw [hf] at h;dsimp only;rw [zd];omega
theorem QnR {cs:List Str}{f c:Str}{m:L2.M D}{ρ:Qal}{O:Qac}{n:Nat}{y:D}{fs:List (Str×D)} (ho:m ρ O = .ok (.ob n) O) (hO:O[n]? = some (.ins c fs)) (hc:c∈cs) (hy:fs.lookup f=some y) :
  Qd4 cs f m ρ O = .ok y O:=by
 rw [QwJ,ho,Qaq];unfold Quz;dsimp only;rw [hO];dsimp only;rw [if_pos hc,hy]
theorem QdA {c m:Str}{cf:List D→Qac→Res D}{mo:L2.M D}{ma:L2.M (List D)}{ρ:Qal}{O:Qac}{n:Nat}{ds:List D}{fs:List (Str×D)} (ho:mo ρ O = .ok (.ob n) O) (hO:O[n]? = some (.ins c fs)) (hm:(fs.lookup m).isNone=true) (ha:ma ρ O = .ok ds O) :
  Qbh c m cf mo ma ρ O=cf (.ob n::ds) O:=by
 rw [Qup,ho,Qaq];unfold meF;dsimp only;rw [hO];dsimp only;rw [if_pos ⟨rfl,hm⟩,ha,Qaq]
theorem Qf6 {m:L2.M (List D)}{own:Nat}{cap:List Nat}{g:MG}{t:L2.M Bool}{e:L2.M D}{ρ ρ0:Qal}{O:Qac}{ds ys:List D} (h:m ρ O = .ok ds O) (hl:ds.length≤1000000) (h0:QhC own cap ρ=ρ0) (hc:QbC g t e ds ρ0 O [] = .ok ys O):Qbm m own cap g t e ρ O = .ok (.lst ys) O:=by
 rw [QlX,h,Qaq,if_pos hl,h0,hc,Qaq]
theorem Qcr {m:L2.M D}{ρ:Qal}{O:Qac}{l:List D} (h:m ρ O = .ok (.lst l) O):Qba m ρ O = .ok l O:=by
 rw [Qqu,h,Qaq,Qld,QmJ]
theorem sq {a b:MS}{ρ ρ':Qal}{O O':Qac} (h:a ρ O = .nx ρ' O'):Qai a b ρ O=b ρ' O':=by
 rw [QaS,h,QaL]
theorem Qgi {i:Nat}{m:L2.M D}{ρ:Qal}{O O':Qac}{d:D} (h:m ρ O = .ok d O'):Qas i m ρ O = .nx (ρ.set i (some d)) O':=by
 rw [Qeu,h,Qdz]
abbrev Nd:=Int×Int
def dN (n:Nd):D:=.tup [.int n.1,.int n.2]
def key (n:Nd):List Key:=[.inl n.1,.inl n.2]
structure M3 where
 cost:Int
 name:List Nat
 other:Nd
def d3 (m:M3):D:=.tup [.int m.cost,.str m.name,dN m.other]
def pD:Option Int→D
 | none=>.non
 | some i=>.int i
abbrev Tb:=List (Nd×Option Int)
def tab (ps:Tb):List (List Key×D):=ps.map fun x=>(key x.1,pD x.2)
def lk (ps:Tb) (n:Nd):Option (Option Int):=(ps.find? fun x=>decide (x.1=n)).map (·.2)
def put (ps:Tb) (n:Nd) (v:Option Int):Tb:=if (ps.any fun x=>decide (x.1=n))=true then ps.map (fun x=>if x.1=n then (x.1,v) else x) else ps ++ [(n,v)]
theorem Qna (n:Nd):Qmr (dN n)=some (key n):=rfl
theorem Qhs {a b:Nd}:key a=key b↔a=b:=by
 obtain ⟨a1,a2⟩:=a;obtain ⟨b1,b2⟩:=b;unfold key;simp
theorem QnA (n:Nd):∀ps:Tb,Qe3 (tab ps) (key n)=(lk ps n).map pD
 | []=>rfl
 | x::ps=>by
  have ih:=QnA n ps;unfold Qe3 lk tab at *;rw [zf,List.find?_cons,List.find?_cons]
  by_cases h:x.1=n
  ·simp [h]
  ·have h':¬key x.1=key n:=fun z=>h (Qhs.mp z)
   simp only [h,h',decide_false];exact ih
theorem QnZ (n:Nd):∀ps:Tb,((tab ps).any fun p=>decide (p.1=key n))=ps.any fun x=>decide (x.1=n)
 | []=>rfl
 | x::ps=>by
  have ih:=QnZ n ps;unfold tab at *;rw [zf,List.any_cons,List.any_cons,ih];congr 1;exact decide_eq_decide.mpr Qhs
theorem QsP (ps:Tb) (n:Nd) (v:Option Int):QjQ (tab ps) (key n) (pD v)=tab (put ps n v):=by
 unfold QjQ put;rw [QnZ]
 split
 ·unfold tab;rw [zW,zW]
  refine js fun x _=>?_
  by_cases h:x.1=n
  ·simp [h]
  ·have h':¬key x.1=key n:=fun z=>h (Qhs.mp z)
   simp [h,h']
 ·unfold tab;rw [zM];rfl
theorem Qkv {n:Nd}:∀{ps:Tb},(ps.any fun x=>decide (x.1=n))=false→lk ps n=none
 | [],_=>rfl
 | x::ps,h=>by
  rw [List.any_cons,Bool.or_eq_false_iff] at h
  have:=Qkv h.2
  unfold lk at *;rw [List.find?_cons,h.1];exact this
theorem Qf3 (x:Nd×Option Int) (ps:Tb) (n:Nd):lk (x::ps) n=if x.1=n then some x.2 else lk ps n:=by
 unfold lk;rw [List.find?_cons]
 by_cases h:x.1=n
 ·simp [h]
 ·simp [h]
theorem Qqz (n:Nd) (y:Nd×Option Int):∀ps:Tb,lk (ps ++ [y]) n=if (lk ps n).isSome=true then lk ps n else if y.1=n then some y.2 else none
 | []=>by
  rw [zC,Qf3];rfl
 | x::ps=>by
  rw [List.cons_append,Qf3,Qf3,Qqz n y ps]
  by_cases h:x.1=n
  ·simp [h]
  ·simp [h]
theorem QpH (n m:Nd) (v:Option Int):∀ps:Tb,lk (ps.map fun x=>if x.1=n then (x.1,v) else x) m=if m=n then (lk ps m).map fun _=>v else lk ps m
 | []=>by simp [lk]
 | x::ps=>by
  rw [zf,Qf3,Qf3,QpH n m v ps]
  by_cases h:x.1=n
  ·by_cases hm:m=n
   ·subst hm;simp [h]
   ·have:¬n=m:=fun z=>hm z.symm
    simp [h,hm,this]
  ·by_cases hx:x.1=m
   ·have:¬m=n:=fun z=>h (hx.trans z)
    simp [h,hx,this]
   ·simp [h,hx]
theorem Qpe {n:Nd}:∀{ps:Tb},(ps.any fun x=>decide (x.1=n))=true→(lk ps n).isSome=true
 | x::ps,h=>by
  rw [Qf3]
  by_cases hx:x.1=n
  ·simp [hx]
  ·rw [if_neg hx];rw [List.any_cons,zh hx,Bool.false_or] at h;exact Qpe h
theorem QqE (ps:Tb) (n m:Nd) (v:Option Int):lk (put ps n v) m=if m=n then some v else lk ps m:=by
 unfold put
 split
 ·rename_i h;rw [QpH]
  split
  ·rename_i hm;subst hm
   have:=Qpe h
   cases e:lk ps m with
   | none=>rw [e] at this; cases this
   | some w=>rfl
  ·rfl
 ·rename_i h;have h0:=Qkv (Bool.eq_false_iff.mpr h);rw [Qqz]
  by_cases hm:m=n
  ·subst hm;simp [h0]
  ·have:¬n=m:=fun z=>hm z.symm
   simp [hm,this]
   cases lk ps m <;> simp
theorem Qt3 (ps:Tb) (n:Nd) (v:Option Int):(put ps n v).length≤ps.length+1:=by
 unfold put
 split
 ·rw [zd]; omega
 ·rw [zn]; exact ze _
theorem Qs8 {ps:Tb}{n:Nd}{v:Option Int} (h:(lk ps n).isSome=true):(put ps n v).length=ps.length:=by
 unfold put
 split
 ·rw [zd]
 ·rename_i h';rw [Qkv (Bool.eq_false_iff.mpr h')] at h;cases h
theorem Qk4 {mo my:L2.M D}{ρ:Qal}{O:Qac}{p:Nat}{ps:Tb}{n:Nd}{v:Option Int} (h1:mo ρ O = .ok (.ob p) O) (h2:O[p]? = some (.dt (tab ps))) (h3:my ρ O = .ok (dN n) O) (h4:lk ps n=some v):Qbz mo my ρ O = .ok (pD v) O:=by
 unfold Qbz;rw [h1];dsimp only [Qaq];rw [h3];dsimp only [Qaq];unfold tsG;rw [Qna,h2];dsimp only;unfold tsF;rw [Qna,h2];dsimp only;rw [QnA,h4];rfl
theorem QnI {mo my mv:L2.M D}{ρ:Qal}{O:Qac}{p:Nat}{ps:Tb}{n:Nd}{v:Option Int} (h0:mv ρ O = .ok (pD v) O) (h1:mo ρ O = .ok (.ob p) O) (h2:O[p]? = some (.dt (tab ps))) (h3:my ρ O = .ok (dN n) O) (hl:ps.length < 1000000):QcN mo my mv ρ O = .nx ρ (O.set p (.dt (tab (put ps n v)))):=by
 unfold QcN;rw [h0];dsimp only;rw [h1];dsimp only;rw [h3];dsimp only;rw [Qna,h2];dsimp only;rw [if_pos (by unfold tab; rw [zd]; exact hl),QsP]
def co (ps:Tb) (m:M3):Option Int:=match lk ps m.other with
 | some (some b)=>some (m.cost+b)
 | _=>none
def lc (ps:Tb) (ms:List M3):Option Int:=mdI none (ms.filterMap (co ps))
theorem Qqg {O:Qac}{p:Nat}{ps:Tb}{m:M3} (hp:O[p]? = some (.dt (tab ps))) (hm:(lk ps m.other).isSome=true):Qb5 [d3 m,.ob p] O = .ok (pD (co ps m)) O:=by
 obtain ⟨v,hv⟩:=Option.isSome_iff_exists.mp hm;have s1:Qbz (mG (Qaa 1)) (Qaf gIx (Qaa 0) (mC (.int 2))) [some (d3 m),some (.ob p),none] O = .ok (pD v) O:=Qk4 rfl hp (QaH rfl rfl rfl) hv;show QaK (Qfe [some (d3 m),some (.ob p),none] O)=_;unfold Qfe;rw [sq (QaO s1),QcP];unfold co;rw [hv]
 cases v with
 | none=>rfl
 | some b=>rfl
theorem ints_map:∀is:List Int,Qdx (is.map D.int)=some is
 | []=>rfl
 | i::is=>by
  show (Qdx (is.map D.int)).map (i :: ·)=_;rw [ints_map is];rfl
theorem QnB (ps:Tb):∀ms:List M3,(ms.map fun m=>pD (co ps m)).filter (fun d=>!isNon d)=(ms.filterMap (co ps)).map D.int
 | []=>rfl
 | m::ms=>by
  rw [zf,List.filter_cons,List.filterMap_cons,QnB ps ms]
  cases co ps m <;> rfl
theorem QnO {O:Qac}{p:Nat}{ps:Tb}{ms:List M3} (hp:O[p]? = some (.dt (tab ps))) (hm:∀m∈ms,(lk ps m.other).isSome=true) (hl:ms.length≤1000):Qco [.lst (ms.map d3),.ob p] O = .ok (pD (lc ps ms)) O:=by
 have c1:QbC (mgN 0) QbW (Qau Qb5 (Qab (Qaa 0) (Qab (Qaa 1) Qae))) (ms.map d3) [none,some (.ob p)] O [] = .ok (ms.map fun m=>pD (co ps m)) O:=by
  rw [Qb4 (fun ρ=>∃a,ρ = [a,some (.ob p)]) d3 (fun m=>pD (co ps m)) ms _ _ _ ⟨none,rfl⟩ (by
   rintro m hm' ρ ⟨a,rfl⟩
   exact ⟨_,rfl,⟨_,rfl⟩,rfl,(QaQ (maS rfl (ma1 rfl))).trans (Qqg hp (hm m hm'))⟩)]
  rw [zC]
 have s1:Qbm (Qba (Qaa 0)) 1 [1] (mgN 0) QbW (Qau Qb5 (Qab (Qaa 0) (Qab (Qaa 1) Qae))) [some (.lst (ms.map d3)),some (.ob p),none] O = .ok (.lst (ms.map fun m=>pD (co ps m))) O:=Qf6 (Qcr rfl) (by rw [zd]; omega) rfl c1
 have c2:QbC (mgN 0) (Qat (Qee (Qaa 0))) (Qaa 0) (ms.map fun m=>pD (co ps m)) [none] O [] = .ok ((ms.filterMap (co ps)).map D.int) O:=by
  rw [QiD (fun ρ=>∃a,ρ = [a]) (fun d=>!isNon d) _ _ _ _ ⟨none,rfl⟩ (by
   rintro d hd ρ ⟨a,rfl⟩
   exact ⟨_,rfl,⟨_,rfl⟩,rfl,rfl⟩)]
  rw [zC,QnB]
 have s2:Qbm (Qba (Qaa 2)) 1 [] (mgN 0) (Qat (Qee (Qaa 0))) (Qaa 0) [some (.lst (ms.map d3)),some (.ob p),some (.lst (ms.map fun m=>pD (co ps m)))] O = .ok (.lst ((ms.filterMap (co ps)).map D.int)) O:=Qf6 (Qcr rfl) (by rw [zd]; omega) rfl c2
 have s3:Qav QlK (Qab (Qbm (Qba (Qaa 2)) 1 [] (mgN 0) (Qat (Qee (Qaa 0))) (Qaa 0)) Qae) [some (.lst (ms.map d3)),some (.ob p),some (.lst (ms.map fun m=>pD (co ps m)))] O = .ok (pD (lc ps ms)) O:=QeH (ma1 s2) (by
  show (Qdx ((ms.filterMap (co ps)).map D.int)).map _=_;rw [ints_map];show some (match mdI none (ms.filterMap (co ps)) with | some m=>D.int m | none=>D.non)=some (pD (mdI none (ms.filterMap (co ps))))
  cases mdI none (ms.filterMap (co ps)) <;> rfl)
 show QaK (Qeq [some (.lst (ms.map d3)),some (.ob p),none] O)=_;unfold Qeq;rw [sq (QaO s1),QcP];exact congrArg (fun r=>QaK (QjH r)) s3
theorem Qmy {ps ps':Tb}:∀{ms:List M3},(∀m∈ms,lk ps' m.other=lk ps m.other)→ms.filterMap (co ps')=ms.filterMap (co ps)
 | [],_=>rfl
 | m::ms,h=>by
  have e:co ps' m=co ps m:=by
   unfold co;rw [h m zm]
  rw [List.filterMap_cons,List.filterMap_cons,e,Qmy fun x hx=>h x (zx _ hx)]
theorem Qmn {ps ps':Tb}{ms:List M3} (h:∀m∈ms,lk ps' m.other=lk ps m.other):lc ps' ms=lc ps ms:=by
 unfold lc;rw [Qmy h]
structure Trl (t:Nat) (fs:List (Str×D)) (N:Nat) (nodes:Nat→List Nd) (mv:Nd→List M3) (fin:Nd→Bool):Prop where
 na:∀(O:Qac) (a:Nat),O[t]? = some (.ins "Even" fs)→a≤N→Qca [.ob t,.int a] O = .ok (.lst ((nodes a).map dN)) O
 mf:∀(O:Qac) (a:Nat) (n:Nd),O[t]? = some (.ins "Even" fs)→a≤N→n∈nodes a→Qbb [.ob t,dN n] O = .ok (.lst ((mv n).map d3)) O
 ie:∀(O:Qac) (a:Nat) (n:Nd),O[t]? = some (.ins "Even" fs)→a≤N→n∈nodes a→Qbj [.ob t,dN n] O = .ok (.bl (fin n)) O
 la:∀O:Qac,O[t]? = some (.ins "Even" fs)→QcQ [.ob t] O = .ok (.int N) O
 fi:∀O:Qac,O[t]? = some (.ins "Even" fs)→Qce [.ob t] O = .ok (dN (0,0)) O
 f0:((0,0):Nd)∈nodes 0
 nd:∀a,(nodes a).Nodup
 ln:∀a,(nodes a).length≤10
 fw:∀(a:Nat) (n:Nd),a≤N→n∈nodes a→∀m∈mv n,∃b,a < b∧b≤N∧m.other∈nodes b
 sp:∀(a b:Nat) (n:Nd),n∈nodes a→n∈nodes b→a=b
 ml:∀n,(mv n).length≤1000
 fe:∀n,fin n=true→mv n = []
 u1:(fs.lookup ("nodes_at":Str)).isNone=true
 u2:(fs.lookup ("moves_from":Str)).isNone=true
 u3:(fs.lookup ("is_end":Str)).isNone=true
 u4:(fs.lookup ("last_at":Str)).isNone=true
 u5:(fs.lookup ("first_node":Str)).isNone=true
 hN:N≤1000
def Qbv (mv:Nd→List M3) (ns:List Nd):List (List Key×D):=ns.map fun n=>(key n,D.lst ((mv n).map d3))
theorem Ql6 (mv:Nd→List M3) (n:Nd):∀ns:List Nd,((Qbv mv ns).any fun p=>decide (p.1=key n))=decide (n∈ns)
 | []=>rfl
 | x::ns=>by
  have ih:=Ql6 mv n ns;unfold Qbv at *;rw [zf,List.any_cons,ih]
  by_cases h:x=n
  ·subst h;simp
  ·have h1:¬key x=key n:=fun z=>h (Qhs.mp z)
   have h2:¬n=x:=fun z=>h z.symm
   simp [h1,h2]
theorem QrO {mv:Nd→List M3}{ns:List Nd}{n:Nd} (h:n∉ns):QjQ (Qbv mv ns) (key n) (.lst ((mv n).map d3))=Qbv mv (ns ++ [n]):=by
 unfold QjQ;rw [Ql6,zh h,if_neg zj];unfold Qbv;rw [zM];rfl
theorem Ql8 (mv:Nd→List M3) (n:Nd):∀ns:List Nd,n∈ns→Qe3 (Qbv mv ns) (key n)=some (.lst ((mv n).map d3))
 | x::ns,h=>by
  unfold Qe3 Qbv;rw [zf,List.find?_cons]
  by_cases hx:x=n
  ·subst hx;simp
  ·have h1:¬key x=key n:=fun z=>hx (Qhs.mp z)
   simp only [h1,decide_false]
   rcases zt.mp h with rfl | h
   ·exact absurd rfl hx
   ·exact Ql8 mv n ns h
theorem QqC (mv:Nd→List M3) (ns:List Nd):(Qbv mv ns).map QrQ=ns.map dN:=by
 unfold Qbv;rw [zW];rfl
def B_1:MS:=(Qai (QcN (Qaa 3) (Qaa 4) (Qbh "Even" "moves_from" Qbb (mG (Qaa 0)) (Qab (Qaa 4) Qae)))
  (QcN (mG (Qaa 2)) (Qaa 4) (mIf (Qcd (Qbh "Even" "is_end" Qbj (mG (Qaa 0)) (Qab (Qaa 4) Qae))) (mC (.int 0)) (mC .non))))
def ini (fin:Nd→Bool) (n:Nd):Option Int:=if fin n=true then some 0 else none
theorem Qis {O:Qac}{i j:Nat}{x y:Ob} (h1:O[i]? = some x) (h2:O[j]? = some y) (h:x≠y):i≠j:=fun z=>by
 rw [z,h2] at h1;exact h (zH h1).symm
theorem Qmo {O:Qac}{i:Nat}{x y:Ob} (e:O[i]? = some x):(O.set i y)[i]? = some y:=by
 obtain ⟨h,_⟩:=zk.mp e;simp [h]
section
variable {t:Nat}{fs:List (Str×D)}{N:Nat}{nodes:Nat→List Nd}{mv:Nd→List M3}{fin:Nd→Bool}{p q:Nat}
theorem QrV (T:Trl t fs N nodes mv fin) {a:Nat} (ha:a≤N) {n:Nd} (hn:n∈nodes a) {pre:List Nd} (hp':n∉pre) {O:Qac}{cur:Tb} (ht:O[t]? = some (.ins "Even" fs)) (hp:O[p]? = some (.dt (tab cur))) (hq:O[q]? = some (.dt (Qbv mv pre))) (hpq:p≠q) (hl:cur.length < 1000000) (hl2:pre.length < 1000000) (o5 o6:Option D) :
  B_1 [some (.ob t),some (.int a),some (.ob p),some (.ob q),some (dN n),o5,o6] O = .nx [some (.ob t),some (.int a),some (.ob p),some (.ob q),some (dN n),o5,o6] ((O.set q (.dt (Qbv mv (pre ++ [n])))).set p (.dt (tab (put cur n (ini fin n))))):=by
 have tq:t≠q:=Qis ht hq (fun z=>nomatch z);have tp:t≠p:=Qis ht hp (fun z=>nomatch z);have e1:Qbh "Even" "moves_from" Qbb (mG (Qaa 0)) (Qab (Qaa 4) Qae) [some (.ob t),some (.int a),some (.ob p),some (.ob q),some (dN n),o5,o6] O = .ok (.lst ((mv n).map d3)) O:=(QdA rfl ht T.u2 (ma1 rfl)).trans (T.mf O a n ht ha hn)
 have s1:QcN (Qaa 3) (Qaa 4) (Qbh "Even" "moves_from" Qbb (mG (Qaa 0)) (Qab (Qaa 4) Qae)) [some (.ob t),some (.int a),some (.ob p),some (.ob q),some (dN n),o5,o6] O = .nx [some (.ob t),some (.int a),some (.ob p),some (.ob q),some (dN n),o5,o6] (O.set q (.dt (Qbv mv (pre ++ [n])))):=by
  unfold QcN;rw [e1];dsimp only;rw [show (Qaa 3) [some (.ob t),some (.int a),some (.ob p),some (.ob q),some (dN n),o5,o6] O = .ok (.ob q) O from rfl];dsimp only;rw [show (Qaa 4) [some (.ob t),some (.int a),some (.ob p),some (.ob q),some (dN n),o5,o6] O = .ok (dN n) O from rfl];dsimp only;rw [Qna,hq];dsimp only;rw [if_pos (by unfold Qbv; rw [zd]; exact hl2),QrO hp']
 have ht':(O.set q (.dt (Qbv mv (pre ++ [n]))))[t]? = some (.ins "Even" fs):=by rw [zu (Ne.symm tq)]; exact ht
 have hp2:(O.set q (.dt (Qbv mv (pre ++ [n]))))[p]? = some (.dt (tab cur)):=by rw [zu (Ne.symm hpq)]; exact hp
 have e2:Qbh "Even" "is_end" Qbj (mG (Qaa 0)) (Qab (Qaa 4) Qae) [some (.ob t),some (.int a),some (.ob p),some (.ob q),some (dN n),o5,o6] (O.set q (.dt (Qbv mv (pre ++ [n])))) = .ok (.bl (fin n)) (O.set q (.dt (Qbv mv (pre ++ [n])))):=(QdA rfl ht' T.u3 (ma1 rfl)).trans (T.ie _ a n ht' ha hn)
 have e3:mIf (Qcd (Qbh "Even" "is_end" Qbj (mG (Qaa 0)) (Qab (Qaa 4) Qae))) (mC (.int 0)) (mC .non) [some (.ob t),some (.int a),some (.ob p),some (.ob q),some (dN n),o5,o6] (O.set q (.dt (Qbv mv (pre ++ [n])))) = .ok (pD (ini fin n)) (O.set q (.dt (Qbv mv (pre ++ [n])))):=by
  rw [Qq3,Qhu,e2,Qaq,Qe4,Qf8,QeR,Qaq];unfold ini
  cases fin n <;> rfl
 unfold B_1;rw [sq s1];exact QnI e3 rfl hp2 rfl hl
theorem QlP (T:Trl t fs N nodes mv fin) {a:Nat} (ha:a≤N) (hpq:p≠q) (o5 o6:Option D):∀(rest pre:List Nd) (O:Qac) (cur:Tb) (o4:Option D),(∀n∈rest,n∈nodes a)→(pre++rest).Nodup→O[t]? = some (.ins "Even" fs)→O[p]? = some (.dt (tab cur))→O[q]? = some (.dt (Qbv mv pre))→cur.length+rest.length < 1000000→pre.length+rest.length < 1000000 →
  ∃O' cur' o4',QaZ (mgN 4) B_1 (rest.map dN) [some (.ob t),some (.int a),some (.ob p),some (.ob q),o4,o5,o6] O = .nx [some (.ob t),some (.int a),some (.ob p),some (.ob q),o4',o5,o6] O'∧O'[p]? = some (.dt (tab cur'))∧O'[q]? = some (.dt (Qbv mv (pre++rest)))∧(∀j,j≠p→j≠q→O'[j]? = O[j]?)∧(∀n,lk cur' n=if n∈rest then some (ini fin n) else lk cur n)∧cur'.length≤cur.length+rest.length
 | [],pre,O,cur,o4,_,_,_,hp,hq,_,_=>⟨O,cur,o4,rfl,hp,by rw [zO]; exact hq,fun _ _ _=>rfl,fun n=>by simp,ze _⟩
 | n::rest,pre,O,cur,o4,hr,hd,ht,hp,hq,hl,hl2=>by
  rw [zz] at hl hl2;have hn:=hr n zm
  have hnp:n∉pre:=fun z=>(jq.mp hd).2.2 n z n zm rfl
  have hnr:n∉rest:=fun z=>(List.nodup_cons.mp (jq.mp hd).2.1).1 z
  have eb:=QrV T ha hn hnp ht hp hq hpq (by omega) (by omega) o5 o6;have tq:t≠q:=Qis ht hq (fun z=>nomatch z);have tp:t≠p:=Qis ht hp (fun z=>nomatch z);have hpl:=Qt3 cur n (ini fin n);obtain ⟨O',cur',o4',e,h1,h2,h3,h4,h5⟩:=QlP T ha hpq o5 o6 rest (pre ++ [n]) ((O.set q (.dt (Qbv mv (pre ++ [n])))).set p (.dt (tab (put cur n (ini fin n))))) (put cur n (ini fin n)) (some (dN n)) (fun m hm=>hr m (zx _ hm)) (by rw [zX]; exact hd)
   (by rw [zu (Ne.symm tp),zu (Ne.symm tq)]; exact ht) (Qmo (by rw [zu (Ne.symm hpq)]; exact hp)) (by rw [zu hpq]; exact Qmo hq) (by omega) (by rw [zn,zS]; omega)
  refine ⟨O',cur',o4',?_,h1,by rw [zX] at h2; exact h2,fun j j1 j2=>?_,fun m=>?_,by rw [zz]; omega⟩
  ·rw [zf];unfold QaZ;rw [mg_n];dsimp only
   show (match B_1 [some (.ob t),some (.int a),some (.ob p),some (.ob q),some (dN n),o5,o6] O with
    | .nx ρ' O'=>QaZ _ _ (rest.map dN) ρ' O' | .ct ρ' O'=>QaZ _ _ (rest.map dN) ρ' O' | .bk ρ' O'=>Fl.nx ρ' O' | r=>r)=_
   rw [eb];exact e
  ·rw [h3 j j1 j2,zu (Ne.symm j1),zu (Ne.symm j2)]
  ·rw [h4 m,QqE]
   by_cases hm:m=n
   ·subst hm;simp [hnr]
   ·simp [hm]
end
theorem Que {mo my:L2.M D}{ρ:Qal}{O:Qac}{q:Nat}{kvs:List (List Key×D)}{n:Nd}{d:D} (h1:mo ρ O = .ok (.ob q) O) (h2:O[q]? = some (.df kvs)) (h3:my ρ O = .ok (dN n) O) (h4:Qe3 kvs (key n)=some d):Qbz mo my ρ O = .ok d O:=by
 unfold Qbz;rw [h1];dsimp only [Qaq];rw [h3];dsimp only [Qaq];unfold tsG;rw [Qna,h2];dsimp only;rw [h4]
def B_r:MS:=(Qai (Qas 6 (Qau Qco (Qab (Qbz (Qaa 3) (Qaa 4)) (Qab (Qaa 2) Qae))))
  (QaV (QcF (Qat (Qee (Qaa 6))) (Qep (Qat (Qg6 (Qbz (mG (Qaa 2)) (Qaa 4)))) (Qat (Qaf gLt (Qaa 6) (Qbz (mG (Qaa 2)) (Qaa 4)))))) (Qai (QcN (mG (Qaa 2)) (Qaa 4) (Qaa 6))
  (Qas 5 (mC (.bl true)))) QaP))
def better (v L:Option Int):Bool:=match L with
 | none=>false
 | some c=>match v with
  | none=>true
  | some w=>decide (c < w)
section
variable {t:Nat}{fs:List (Str×D)}{N:Nat}{nodes:Nat→List Nd}{mv:Nd→List M3}{fin:Nd→Bool}{p q:Nat}
theorem Qvt {ns:List Nd}{n:Nd} (hn:n∈ns) {O:Qac}{cur:Tb}{v:Option Int} (hp:O[p]? = some (.dt (tab cur))) (hq:O[q]? = some (.df (Qbv mv ns))) (hv:lk cur n=some v) (hm:∀m∈mv n,(lk cur m.other).isSome=true) (hml:(mv n).length≤1000) (hl:cur.length < 1000000) (b:Bool) (a0 a1 o6:Option D) :
  B_r [a0,a1,some (.ob p),some (.ob q),some (dN n),some (.bl b),o6] O = .nx [a0,a1,some (.ob p),some (.ob q),some (dN n),some (.bl (b || better v (lc cur (mv n)))),some (pD (lc cur (mv n)))] (if better v (lc cur (mv n))=true then O.set p (.dt (tab (put cur n (lc cur (mv n))))) else O):=by
 have s1:Qbz (Qaa 3) (Qaa 4) [a0,a1,some (.ob p),some (.ob q),some (dN n),some (.bl b),o6] O = .ok (.lst ((mv n).map d3)) O:=Que rfl hq rfl (Ql8 mv n ns hn);have s2:Qau Qco (Qab (Qbz (Qaa 3) (Qaa 4)) (Qab (Qaa 2) Qae)) [a0,a1,some (.ob p),some (.ob q),some (dN n),some (.bl b),o6] O = .ok (pD (lc cur (mv n))) O:=(QaQ (maS s1 (ma1 rfl))).trans (QnO hp hm hml)
 have e2:∀o6':Option D,Qbz (mG (Qaa 2)) (Qaa 4) [a0,a1,some (.ob p),some (.ob q),some (dN n),some (.bl b),o6'] O = .ok (pD v) O:=fun o6'=>Qk4 rfl hp rfl hv
 unfold B_r;rw [sq (QaO s2)];show QaV _ _ _ [a0,a1,some (.ob p),some (.ob q),some (dN n),some (.bl b),some (pD (lc cur (mv n)))] O=_
 cases hL:lc cur (mv n) with
 | none =>
  refine (if_no ?_).trans ?_
  ·rw [Qdk];rfl
  ·show Fl.nx _ O=_;simp [better]
 | some c =>
  have hput:(Qai (QcN (mG (Qaa 2)) (Qaa 4) (Qaa 6)) (Qas 5 (mC (.bl true)))) [a0,a1,some (.ob p),some (.ob q),some (dN n),some (.bl b),some (pD (some c))] O = .nx [a0,a1,some (.ob p),some (.ob q),some (dN n),some (.bl true),some (pD (some c))] (O.set p (.dt (tab (put cur n (some c))))):=by
   rw [sq (QnI (v:=some c) rfl rfl hp rfl hl)];rfl
  have tA:Qat (Qee (Qaa 6)) [a0,a1,some (.ob p),some (.ob q),some (dN n),some (.bl b),some (pD (some c))] O = .ok true O:=rfl
  have tB:Qat (Qg6 (Qbz (mG (Qaa 2)) (Qaa 4))) [a0,a1,some (.ob p),some (.ob q),some (dN n),some (.bl b),some (pD (some c))] O = .ok (isNon (pD v)) O:=by
   rw [QcM,QwF,e2,Qaq,Qaq,QcL]
  cases v with
  | none =>
   refine (Qev ?_).trans ?_
   ·rw [Qdk,tA,Qaq,if_pos rfl,Qo2,tB,Qaq];rfl
   ·rw [hput];simp [better]
  | some w =>
   have tC:Qat (Qaf gLt (Qaa 6) (Qbz (mG (Qaa 2)) (Qaa 4))) [a0,a1,some (.ob p),some (.ob q),some (dN n),some (.bl b),some (pD (some c))] O = .ok (decide (c < w)) O:=QbJ (QaH (x:=.int c) rfl (e2 _) rfl)
   have tD:QcF (Qat (Qee (Qaa 6))) (Qep (Qat (Qg6 (Qbz (mG (Qaa 2)) (Qaa 4)))) (Qat (Qaf gLt (Qaa 6) (Qbz (mG (Qaa 2)) (Qaa 4))))) [a0,a1,some (.ob p),some (.ob q),some (dN n),some (.bl b),some (pD (some c))] O = .ok (decide (c < w)) O:=by
    rw [Qdk,tA,Qaq,if_pos rfl,Qo2,tB,Qaq];exact tC
   by_cases hw:c < w
   ·rw [zq hw] at tD;rw [Qev tD,hput];simp [better,hw]
   ·rw [zh hw] at tD;rw [if_no tD];show Fl.nx _ O=_;simp [better,hw]
def fnl (fin:Nd→Bool) (L:Nd→Option Int) (n:Nd):Option Int:=if fin n=true then some 0 else L n
theorem Qol {fin:Nd→Bool}{L:Nd→Option Int}{n:Nd}{v:Option Int} (hf:fin n=true→L n=none) (hv:v=ini fin n∨v=fnl fin L n):(if better v (L n)=true then L n else v)=fnl fin L n:=by
 unfold fnl ini at *
 cases h:fin n with
 | true =>
  have:=hf h
  rw [this];rw [h] at hv
  rcases hv with rfl | rfl <;> rfl
 | false =>
  rw [h] at hv
  rcases hv with rfl | rfl
  ·cases L n <;> rfl
  ·simp only [Bool.false_eq_true,if_false]
   split <;> rfl
theorem Qnf {fin:Nd→Bool}{L:Nd→Option Int}{n:Nd} (hf:fin n=true→L n=none):better (fnl fin L n) (L n)=false:=by
 unfold fnl
 cases h:fin n with
 | true =>
  rw [hf h];rfl
 | false =>
  simp only [Bool.false_eq_true,if_false]
  cases L n with
  | none=>rfl
  | some c=>simp [better]
theorem QpD (T:Trl t fs N nodes mv fin) {a:Nat} (ha:a≤N) {base:Tb} (hb:∀n∈nodes a,∀m∈mv n,(lk base m.other).isSome=true) (st:Nd→Option Int) (hst:∀n∈nodes a,st n=ini fin n∨st n=fnl fin (fun n=>lc base (mv n)) n) (a0 a1:Option D) :
  ∀(rest:List Nd) (O:Qac) (cur:Tb) (b:Bool) (o4 o6:Option D),(∀n∈rest,n∈nodes a)→rest.Nodup→O[p]? = some (.dt (tab cur))→O[q]? = some (.df (Qbv mv (nodes a)))→p≠q→(∀m,m∉nodes a→lk cur m=lk base m)→(∀n∈rest,lk cur n=some (st n))→cur.length < 1000000 →
  ∃O' cur' o4' o6',QaZ (mgN 4) B_r (rest.map dN) [a0,a1,some (.ob p),some (.ob q),o4,some (.bl b),o6] O = .nx [a0,a1,some (.ob p),some (.ob q),o4',some (.bl (b || rest.any fun n=>better (st n) (lc base (mv n)))),o6'] O'∧O'[p]? = some (.dt (tab cur'))∧(∀j,j≠p→O'[j]? = O[j]?)∧(∀m,lk cur' m=if m∈rest then some (fnl fin (fun n=>lc base (mv n)) m) else lk cur m)∧cur'.length≤cur.length
 | [],O,cur,b,o4,o6,_,_,hp,_,_,_,_,_=>⟨O,cur,o4,o6,by simp [QaZ],hp,fun _ _=>rfl,fun m=>by simp,ze _⟩
 | n::rest,O,cur,b,o4,o6,hr,hd,hp,hq,hpq,hc,hs,hl=>by
  have hn:=hr n zm;have hd':=List.nodup_cons.mp hd
  have far:∀m∈mv n,m.other∉nodes a:=fun m hm z=>by
   obtain ⟨b,b1,b2,b3⟩:=T.fw a n ha hn m hm
   have:=T.sp a b _ z b3
   omega
  have eL:lc cur (mv n)=lc base (mv n):=Qmn fun m hm=>hc _ (far m hm)
  have hm:∀m∈mv n,(lk cur m.other).isSome=true:=fun m hm=>by rw [hc _ (far m hm)]; exact hb n hn m hm
  have eb:=Qvt hn hp hq (hs n zm) hm (T.ml n) hl b a0 a1 o6;rw [eL] at eb;have fx:=Qol (L:=fun n=>lc base (mv n)) (fun h=>by show lc base (mv n)=none; rw [T.fe n h]; rfl) (hst n hn)
  have hsome:(lk cur n).isSome=true:=by rw [hs n zm]; rfl
  have go:∀(O1:Qac) (cur1:Tb),O1[p]? = some (.dt (tab cur1))→(∀j,j≠p→O1[j]? = O[j]?)→(∀m,lk cur1 m=if m=n then some (fnl fin (fun n=>lc base (mv n)) n) else lk cur m)→cur1.length≤cur.length→(if better (st n) (lc base (mv n))=true then O.set p (.dt (tab (put cur n (lc base (mv n))))) else O)=O1 →
    ∃O' cur' o4' o6',QaZ (mgN 4) B_r ((n::rest).map dN) [a0,a1,some (.ob p),some (.ob q),o4,some (.bl b),o6] O = .nx [a0,a1,some (.ob p),some (.ob q),o4',some (.bl (b || (n::rest).any fun n=>better (st n) (lc base (mv n)))),o6'] O'∧O'[p]? = some (.dt (tab cur'))∧(∀j,j≠p→O'[j]? = O[j]?)∧(∀m,lk cur' m=if m∈n::rest then some (fnl fin (fun n=>lc base (mv n)) m) else lk cur m)∧cur'.length≤cur.length:=fun O1 cur1 k1 k2 k3 k4 k5=>by
   obtain ⟨O',cur',o4',o6',e,g1,g2,g3,g4⟩:=QpD T ha hb st hst a0 a1 rest O1 cur1 (b || better (st n) (lc base (mv n))) (some (dN n)) (some (pD (lc base (mv n)))) (fun m hm=>hr m (zx _ hm)) hd'.2 k1 ((k2 q (Ne.symm hpq)).trans hq) hpq (fun m hm=>by
     rw [k3 m,if_neg (fun z:m=n=>hm (by rw [z]; exact hn))]
     exact hc m hm) (fun m hm=>by
     rw [k3 m,if_neg (fun z:m=n=>hd'.1 (by rw [←z]; exact hm))]
     exact hs m (zx _ hm)) (by omega)
   refine ⟨O',cur',o4',o6',?_,g1,fun j hj=>(g2 j hj).trans (k2 j hj),fun m=>?_,by omega⟩
   ·rw [zf];unfold QaZ;rw [mg_n];dsimp only
    show (match B_r [a0,a1,some (.ob p),some (.ob q),some (dN n),some (.bl b),o6] O with
     | .nx ρ' O'=>QaZ _ _ (rest.map dN) ρ' O' | .ct ρ' O'=>QaZ _ _ (rest.map dN) ρ' O' | .bk ρ' O'=>Fl.nx ρ' O' | r=>r)=_
    rw [eb,k5];rw [List.any_cons,←Bool.or_assoc];exact e
   ·rw [g3 m,k3 m]
    by_cases hmn:m=n
    ·subst hmn;simp [hd'.1]
    ·simp [hmn]
  cases hbt:better (st n) (lc base (mv n)) with
  | true =>
   rw [hbt] at fx;refine go (O.set p (.dt (tab (put cur n (lc base (mv n)))))) (put cur n (lc base (mv n))) (Qmo hp) (fun j hj=>by rw [zu (Ne.symm hj)]) (fun m=>?_) (Nat.le_of_eq (Qs8 hsome)) (by rw [hbt]; rfl);rw [QqE,←fx];rfl
  | false =>
   rw [hbt] at fx;refine go O cur hp (fun _ _=>rfl) (fun m=>?_) (ze _) (by rw [hbt]; rfl)
   split
   ·rename_i hmn;rw [hmn,←fx];exact hs n zm
   ·rfl
end
def B_n:MS:=(Qai (Qas 5 (mC (.bl false)))
  (Qhj 3 (Qbl (Qhn (Qaa 3)) (mgN 4) B_r)))
section
variable {t:Nat}{fs:List (Str×D)}{N:Nat}{nodes:Nat→List Nd}{mv:Nd→List M3}{fin:Nd→Bool}{p q:Nat}
theorem Qqr (T:Trl t fs N nodes mv fin) {a:Nat} (ha:a≤N) {base:Tb} (hb:∀n∈nodes a,∀m∈mv n,(lk base m.other).isSome=true) (st:Nd→Option Int) (hst:∀n∈nodes a,st n=ini fin n∨st n=fnl fin (fun n=>lc base (mv n)) n) (a0 a1 o4 o5 o6:Option D) {O:Qac}{cur:Tb}
  (hp:O[p]? = some (.dt (tab cur))) (hq:O[q]? = some (.dt (Qbv mv (nodes a)))) (hpq:p≠q) (hc:∀m,m∉nodes a→lk cur m=lk base m) (hs:∀n∈nodes a,lk cur n=some (st n)) (hl:cur.length < 1000000) :
  ∃O' cur' o4' o6',B_n [a0,a1,some (.ob p),some (.ob q),o4,o5,o6] O = .nx [a0,a1,some (.ob p),some (.ob q),o4',some (.bl ((nodes a).any fun n=>better (st n) (lc base (mv n)))),o6'] O'∧O'[p]? = some (.dt (tab cur'))∧O'[q]? = some (.dt (Qbv mv (nodes a)))∧(∀j,j≠p→j≠q→O'[j]? = O[j]?)∧(∀m,m∉nodes a→lk cur' m=lk base m)∧(∀n∈nodes a,lk cur' n=some (fnl fin (fun n=>lc base (mv n)) n))∧cur'.length≤cur.length:=by
 have hq1:(O.set q (.df (Qbv mv (nodes a))))[q]? = some (.df (Qbv mv (nodes a))):=Qmo hq
 have hp1:(O.set q (.df (Qbv mv (nodes a))))[p]? = some (.dt (tab cur)):=by rw [zu (Ne.symm hpq)]; exact hp
 obtain ⟨O',cur',o4',o6',e,g1,g2,g3,g4⟩:=QpD T ha hb st hst a0 a1 (nodes a) (O.set q (.df (Qbv mv (nodes a)))) cur false o4 o6 (fun n h=>h) (T.nd a) hp1 hq1 hpq hc hs hl;rw [Bool.false_or] at e;have hq2:O'[q]? = some (.df (Qbv mv (nodes a))):=(g2 q (Ne.symm hpq)).trans hq1;refine ⟨O'.set q (.dt (Qbv mv (nodes a))),cur',o4',o6',?_,?_,Qmo hq2,fun j j1 j2=>?_,fun m hm=>?_,fun n hn=>?_,g4⟩
 ·have ek:Qhn (Qaa 3) [a0,a1,some (.ob p),some (.ob q),o4,some (.bl false),o6] O = .ok ((nodes a).map dN) (O.set q (.df (Qbv mv (nodes a)))):=by
   unfold Qhn;rw [show (Qaa 3) [a0,a1,some (.ob p),some (.ob q),o4,some (.bl false),o6] O = .ok (.ob q) O from rfl];dsimp only [Qaq];rw [hq];dsimp only;rw [QqC]
  have ef:Qbl (Qhn (Qaa 3)) (mgN 4) B_r [a0,a1,some (.ob p),some (.ob q),o4,some (.bl false),o6] O = .nx [a0,a1,some (.ob p),some (.ob q),o4',some (.bl ((nodes a).any fun n=>better (st n) (lc base (mv n)))),o6'] O':=by
   rw [Qc1,ek,Qcw,e]
  unfold B_n;rw [sq (QaO (m_c (d:=.bl false)))];show Qhj 3 _ [a0,a1,some (.ob p),some (.ob q),o4,some (.bl false),o6] O=_;unfold Qhj;show (match O[q]? with | some (.dt _)=>_ | _=>Fl.no)=_;rw [hq];dsimp only;rw [ef];dsimp only;rw [hq2]
 ·rw [zu (Ne.symm hpq)];exact g1
 ·rw [zu (Ne.symm j2),g2 j j1,zu (Ne.symm j2)]
 ·rw [g3 m,if_neg hm];exact hc m hm
 ·rw [g3 n,if_pos hn]
theorem Qgn {t:L2.M Bool}{b:MS}{k:Nat}{ρ ρ2:Qal}{O O2:Qac} (h:t ρ O = .ok true O) (hb:b ρ O = .nx ρ2 O2):QbD t b (k+1) ρ O=QbD t b k ρ2 O2:=by
 show (match t ρ O with | .ok true O1=>(match b ρ O1 with | .nx ρ2 O2=>QbD t b k ρ2 O2 | .ct ρ2 O2=>QbD t b k ρ2 O2 | .bk ρ2 O2=>Fl.nx ρ2 O2 | r=>r) | .ok false O1=>.nx ρ O1 | .ex x O'=>.ex x O' | .no=>.no)=_;rw [h];dsimp only;rw [hb]
theorem QgG {t:L2.M Bool}{b:MS}{k:Nat}{ρ:Qal}{O:Qac} (h:t ρ O = .ok false O):QbD t b (k+1) ρ O = .nx ρ O:=by
 show (match t ρ O with | .ok true O1=>(match b ρ O1 with | .nx ρ2 O2=>QbD t b k ρ2 O2 | .ct ρ2 O2=>QbD t b k ρ2 O2 | .bk ρ2 O2=>Fl.nx ρ2 O2 | r=>r) | .ok false O1=>.nx ρ O1 | .ex x O'=>.ex x O' | .no=>.no)=_;rw [h]
theorem QsO (T:Trl t fs N nodes mv fin) {a:Nat} (ha:a≤N) {O:Qac}{cur:Tb} (ht:O[t]? = some (.ins "Even" fs)) (hp:O[p]? = some (.dt (tab cur))) (hb:∀n∈nodes a,∀m∈mv n,(lk cur m.other).isSome=true) (hl:cur.length < 900000) :
  ∃O' cur',QcZ [.ob t,.int a,.ob p] O = .ok .non O'∧O'[p]? = some (.dt (tab cur'))∧(∀(j:Nat) (x:Ob),j≠p→O[j]? = some x→O'[j]? = some x)∧(∀m,m∉nodes a→lk cur' m=lk cur m)∧(∀n∈nodes a,lk cur' n=some (fnl fin (fun n=>lc cur (mv n)) n))∧cur'.length≤cur.length+10:=by
 have hln:=T.ln a;have hpl:=(zk.mp hp).1;have htl:=(zk.mp ht).1;have hpq:p≠O.length:=zv hpl
 have ht1:(O ++ [Ob.dt []])[t]? = some (.ins "Even" fs):=by rw [zB htl]; exact ht
 have hp1:(O ++ [Ob.dt []])[p]? = some (.dt (tab cur)):=by rw [zB hpl]; exact hp
 have hq1:(O ++ [Ob.dt []])[O.length]? = some (.dt (Qbv mv [])):=by simp [Qbv]
 obtain ⟨O1,cur1,o4,e1,f1,f2,f3,f4,f5⟩:=QlP T ha hpq none none (nodes a) [] (O ++ [Ob.dt []]) cur none (fun n h=>h) (T.nd a) ht1 hp1 hq1 (by omega) (by simp; omega);rw [zC] at f2
 have far:∀n∈nodes a,∀m∈mv n,m.other∉nodes a:=fun n hn m hm z=>by
  obtain ⟨b,b1,b2,b3⟩:=T.fw a n ha hn m hm
  have:=T.sp a b _ z b3
  omega
 have hf:∀n,fin n=true→lc cur (mv n)=none:=fun n h=>by rw [T.fe n h]; rfl
 obtain ⟨O2,cur2,o4',o6',e2,g1,g2,g3,g4,g5,g6⟩:=Qqr (base:=cur) T ha hb (ini fin) (fun n _=>.inl rfl) (some (.ob t)) (some (.int a)) o4 (some (.bl true)) none f1 f2 hpq (fun m hm=>by rw [f4 m,if_neg hm]) (fun n hn=>by rw [f4 n,if_pos hn]) (by omega);obtain ⟨O3,cur3,o4'',o6'',e3,k1,k2,k3,k4,k5,k6⟩:=Qqr (base:=cur) T ha hb (fnl fin fun n=>lc cur (mv n)) (fun n _=>.inr rfl) (some (.ob t)) (some (.int a)) o4' (some (.bl true)) o6' g1 g2 hpq g4 g5 (by omega)
 have z3:((nodes a).any fun n=>better (fnl fin (fun n=>lc cur (mv n)) n) (lc cur (mv n)))=false:=by
  rw [List.any_eq_false];intro n _;rw [Qnf (L:=fun n=>lc cur (mv n)) (hf n)];exact zj
 rw [z3] at e3;have hnew:QiJ [some (.ob t),some (.int a),some (.ob p),none,none,none,none] O = .ok (.ob O.length) (O ++ [Ob.dt []]):=rfl;have s2:(Qba (Qbh "Even" "nodes_at" Qca (mG (Qaa 0)) (Qab (Qaa 1) Qae))) [some (.ob t),some (.int a),some (.ob p),some (.ob O.length),none,none,none] (O ++ [Ob.dt []]) = .ok ((nodes a).map dN) (O ++ [Ob.dt []]):=Qcr ((QdA rfl ht1 T.u1 (ma1 rfl)).trans (T.na _ a ht1 ha))
 have s3:Qbl (Qba (Qbh "Even" "nodes_at" Qca (mG (Qaa 0)) (Qab (Qaa 1) Qae))) (mgN 4) B_1 [some (.ob t),some (.int a),some (.ob p),some (.ob O.length),none,none,none] (O ++ [Ob.dt []]) = .nx [some (.ob t),some (.int a),some (.ob p),some (.ob O.length),o4,none,none] O1:=by
  rw [Qc1,s2,Qcw,e1]
 have old:∀(j:Nat) (x:Ob),j≠p→O[j]? = some x→O1[j]? = some x:=fun j x hj hx=>by
  have:=(zk.mp hx).1
  rw [f3 j hj (by omega),zB this];exact hx
 have nq:∀(j:Nat) (x:Ob),O[j]? = some x→j≠O.length:=fun j x hx=>zv (zk.mp hx).1
 have fin':∀(O':Qac) (cur':Tb) (x4 x6:Option D),QbD (Qcd (Qaa 5)) B_n 10 [some (.ob t),some (.int a),some (.ob p),some (.ob O.length),o4,some (.bl true),none] O1 = .nx [some (.ob t),some (.int a),some (.ob p),some (.ob O.length),x4,some (.bl false),x6] O'→O'[p]? = some (.dt (tab cur'))→(∀(j:Nat) (x:Ob),j≠p→O[j]? = some x→O'[j]? = some x)→(∀m,m∉nodes a→lk cur' m=lk cur m)→(∀n∈nodes a,lk cur' n=some (fnl fin (fun n=>lc cur (mv n)) n))→cur'.length≤cur.length+10 →
   ∃O' cur',QcZ [.ob t,.int a,.ob p] O = .ok .non O'∧O'[p]? = some (.dt (tab cur'))∧(∀(j:Nat) (x:Ob),j≠p→O[j]? = some x→O'[j]? = some x)∧(∀m,m∉nodes a→lk cur' m=lk cur m)∧(∀n∈nodes a,lk cur' n=some (fnl fin (fun n=>lc cur (mv n)) n))∧cur'.length≤cur.length+10:=fun O' cur' x4 x6 hw h1 h2 h3 h4 h5=>by
  refine ⟨O',cur',?_,h1,h2,h3,h4,h5⟩;unfold B_1 at s3;unfold B_n B_r at hw;show QaK (QdV [some (.ob t),some (.int a),some (.ob p),none,none,none,none] O)=_;unfold QdV;rw [sq (Qgi hnew)];show QaK (Qai _ _ [some (.ob t),some (.int a),some (.ob p),some (.ob O.length),none,none,none] (O ++ [Ob.dt []]))=_;rw [sq s3,sq (QaO (m_c (d:=.bl true)))];show QaK (QbZ 10 _ _ [some (.ob t),some (.int a),some (.ob p),some (.ob O.length),o4,some (.bl true),none] O1)=_;unfold QbZ;rw [hw];rfl
 cases hb1:(nodes a).any fun n=>better (ini fin n) (lc cur (mv n)) with
 | true =>
  rw [hb1] at e2;refine fin' O3 cur3 o4'' o6'' ?_ k1 (fun j x hj hx=>by rw [k3 j hj (nq j x hx),g3 j hj (nq j x hx)]; exact old j x hj hx) k4 k5 (by omega);rw [Qgn rfl e2,Qgn rfl e3,QgG rfl]
 | false =>
  rw [hb1] at e2;refine fin' O2 cur2 o4' o6' ?_ g1 (fun j x hj hx=>by rw [g3 j hj (nq j x hx)]; exact old j x hj hx) g4 g5 (by omega);rw [Qgn rfl e2,QgG rfl]
end
theorem QdZ {α:Type}{g:MG}{t:L2.M Bool}{m:L2.M D} (Pv:Qal→Prop) (p:α→Bool) (f:α→D):∀(xs:List α) (ρ:Qal) (O:Qac) (acc:List D),Pv ρ→(∀x∈xs,∀ρ,Pv ρ→∃ρ1,g (f x) ρ=some ρ1∧Pv ρ1∧t ρ1 O = .ok (p x) O∧m ρ1 O = .ok (f x) O)→QbC g t m (xs.map f) ρ O acc = .ok (acc++(xs.filter p).map f) O
 | [],ρ,O,acc,_,_=>by simp [QbC]
 | x::xs,ρ,O,acc,h,hs=>by
  obtain ⟨ρ1,e1,h1,e2,e3⟩:=hs x zm ρ h
  have ih:=fun acc=>QdZ (g:=g) (t:=t) (m:=m) Pv p f xs ρ1 O acc h1 fun d' hd'=>hs d' (zx _ hd')
  rw [zf];unfold QbC;rw [e1];dsimp only;rw [e2]
  cases q:p x with
  | true =>
   dsimp only;rw [e3];dsimp only;rw [ih,List.filter_cons,q];simp
  | false =>
   dsimp only;rw [ih,List.filter_cons,q];simp
theorem Qq7 (b:Nat):QcR (((b+1:Nat):Int) - 1) (b+1) = .int (b:Int)::QcR ((b:Int) - 1) b:=by
 unfold QcR;rw [List.range_succ_eq_map,zf,zW];congr 1
 ·show D.int _=_;congr 1;omega
 ·refine js fun i _=>?_
  show D.int _=D.int _;congr 1;omega
def Pri (N:Nat) (nodes:Nat→List Nd) (mv:Nd→List M3) (fin:Nd→Bool) (b:Nat) (cur:Tb):Prop:=∀c,b≤c→c≤N→∀n∈nodes c,lk cur n=some (fnl fin (fun n=>lc cur (mv n)) n)
def B_p:MS:=(QiI (Qau QcZ (Qab (Qaa 0) (Qab (Qaa 2) (Qab (Qaa 1) Qae)))))
section
variable {t:Nat}{fs:List (Str×D)}{N:Nat}{nodes:Nat→List Nd}{mv:Nd→List M3}{fin:Nd→Bool}{p q:Nat}
theorem Qp7 (T:Trl t fs N nodes mv fin):∀(b:Nat) (O:Qac) (cur:Tb) (o2:Option D),b≤N+1→O[t]? = some (.ins "Even" fs)→O[p]? = some (.dt (tab cur))→Pri N nodes mv fin b cur→cur.length+10 * b≤800000 →
  ∃O' cur' o2',QaZ (mgN 2) B_p (QcR ((b:Int) - 1) b) [some (.ob t),some (.ob p),o2] O = .nx [some (.ob t),some (.ob p),o2'] O'∧O'[p]? = some (.dt (tab cur'))∧(∀(j:Nat) (x:Ob),j≠p→O[j]? = some x→O'[j]? = some x)∧Pri N nodes mv fin 0 cur'
 | 0,O,cur,o2,_,_,hp,hP,_=>⟨O,cur,o2,rfl,hp,fun _ _ _ h=>h,hP⟩
 | a+1,O,cur,o2,hb,ht,hp,hP,hl=>by
  have ha:a≤N:=by omega
  have hbs:∀n∈nodes a,∀m∈mv n,(lk cur m.other).isSome=true:=fun n hn m hm=>by
   obtain ⟨c,c1,c2,c3⟩:=T.fw a n ha hn m hm;rw [hP c (by omega) c2 _ c3];rfl
  obtain ⟨O1,cur1,e,g1,g2,g3,g4,g5⟩:=QsO T ha ht hp hbs (by omega);have tp:t≠p:=Qis ht hp (fun z=>nomatch z)
  have hP1:Pri N nodes mv fin a cur1:=fun c c1 c2 n hn=>by
   have far:∀m∈mv n,lk cur1 m.other=lk cur m.other:=fun m hm=>g3 _ fun z=>by
    obtain ⟨d,d1,d2,d3⟩:=T.fw c n c2 hn m hm
    have:=T.sp a d _ z d3
    omega
   have eL:lc cur1 (mv n)=lc cur (mv n):=Qmn far
   have eF:fnl fin (fun n=>lc cur1 (mv n)) n=fnl fin (fun n=>lc cur (mv n)) n:=by
    show (if fin n=true then some 0 else lc cur1 (mv n))=_;rw [eL];rfl
   rw [eF]
   by_cases hc:c=a
   ·subst hc;exact g4 n hn
   ·rw [g3 n fun z=>hc (T.sp c a n hn z)];exact hP c (by omega) c2 n hn
  obtain ⟨O',cur',o2',e2,k1,k2,k3⟩:=Qp7 T a O1 cur1 (some (.int (a:Int))) (by omega) (g2 t _ tp ht) g1 hP1 (by omega);refine ⟨O',cur',o2',?_,k1,fun j x hj hx=>k2 j x hj (g2 j x hj hx),k3⟩;rw [Qq7];unfold QaZ;rw [mg_n];dsimp only
  have eb:B_p [some (.ob t),some (.ob p),some (.int (a:Int))] O = .nx [some (.ob t),some (.ob p),some (.int (a:Int))] O1:=by
   unfold B_p;rw [Qtj,QaQ (maS rfl (maS rfl (ma1 rfl))),e,Qro]
  show (match B_p [some (.ob t),some (.ob p),some (.int (a:Int))] O with
   | .nx ρ' O'=>QaZ _ _ (QcR ((a:Int) - 1) a) ρ' O' | .ct ρ' O'=>QaZ _ _ (QcR ((a:Int) - 1) a) ρ' O' | .bk ρ' O'=>Fl.nx ρ' O' | r=>r)=_
  rw [eb];exact e2
theorem Qrc (T:Trl t fs N nodes mv fin) {O:Qac} (ht:O[t]? = some (.ins "Even" fs)):∃O' cur,QhL [.ob t] O = .ok (.ob O.length) O'∧O'[O.length]? = some (.dt (tab cur))∧(∀(j:Nat) (x:Ob),O[j]? = some x→O'[j]? = some x)∧Pri N nodes mv fin 0 cur:=by
 have hN:=T.hN;have htl:=(zk.mp ht).1
 have ht1:(O ++ [Ob.dt []])[t]? = some (.ins "Even" fs):=by rw [zB htl]; exact ht
 obtain ⟨O',cur,o2,e,g1,g2,g3⟩:=Qp7 (p:=O.length) T (N+1) (O ++ [Ob.dt []]) [] none (ze _) ht1 (by simp [tab]) (fun c c1 c2=>absurd c1 (by omega)) (by simp; omega);refine ⟨O',cur,?_,g1,fun j x hx=>?_,g3⟩
 ·have er:QlI (Qab (Qbh "Even" "last_at" QcQ (mG (Qaa 0)) Qae) (Qab (mUn QeP (mC (.int 1))) (Qab (mUn QeP (mC (.int 1))) Qae))) [some (.ob t),some (.ob O.length),none] (O ++ [Ob.dt []]) = .ok (QcR (((N+1:Nat):Int) - 1) (N+1)) (O ++ [Ob.dt []]):=by
   unfold QlI;rw [maS ((QdA rfl ht1 T.u4 rfl).trans (T.la _ ht1)) (maS (x:=.int (-1)) rfl (ma1 (x:=.int (-1)) rfl))];dsimp only [Qaq];rw [if_pos ⟨rfl,by omega,by omega,by decide,by decide⟩];congr 1;rw [show ((N:Int) - -1).toNat=N+1 by omega,show (((N+1:Nat):Int) - 1)=(N:Int) by omega]
  unfold B_p at e;show QaK (Qh7 [some (.ob t),none,none] O)=_;unfold Qh7;rw [sq (Qgi (show QiJ [some (.ob t),none,none] O = .ok (.ob O.length) (O ++ [Ob.dt []]) from rfl))];show QaK (Qai _ _ [some (.ob t),some (.ob O.length),none] (O ++ [Ob.dt []]))=_;rw [QaS,Qc1,er,Qcw,e,QaL];rfl
 ·have:=(zk.mp hx).1
  exact g2 j x (by omega) (by rw [zB this]; exact hx)
theorem QkV:∀(l:List Int) (b:Option Int) (c:Int),mdI b l=some c→b=some c∨c∈l
 | [],b,c,h=>.inl (by cases b <;> exact h)
 | n::r,none,c,h=>by
  rcases QkV r (some n) c h with h | h
  ·exact .inr (by rw [zH h]; exact zm)
  ·exact .inr (zx _ h)
 | n::r,some m,c,h=>by
  rcases QkV r (some (if n < m then n else m)) c h with h | h
  ·split at h
   ·exact .inr (by rw [zH h]; exact zm)
   ·exact .inl h
  ·exact .inr (zx _ h)
theorem QmP:∀(l:List Int) (b:Int),∃c,mdI (some b) l=some c
 | [],b=>⟨b,rfl⟩
 | n::r,b=>QmP r (if n < b then n else b)
theorem Qvg {l:List Int} (h:l≠[]):∃c,mdI none l=some c:=by
 cases l with
 | nil=>exact absurd rfl h
 | cons n r=>exact QmP r n
theorem Qvb (x y:Option Int):gEq (pD x) (pD y)=some (.bl (decide (x=y))):=by
 cases x with
 | none=>cases y <;> rfl
 | some i =>
  cases y with
  | none=>rfl
  | some j =>
   show some (D.bl (decide (i=j)))=_;congr 2;exact decide_eq_decide.mpr ⟨fun h=>by rw [h],fun h=>zH h⟩
theorem Qlg {α:Type} (f:α→Bool) (g:α→D) (h:α→Bool):∀(ms:List α) (m:α),ms.find? f=some m→((ms.filter f).map g)[0]? = some (g m)
 | x::ms,m,e=>by
  rw [List.find?_cons] at e
  cases hx:f x with
  | true =>
   rw [hx] at e;cases e;simp [hx]
  | false =>
   rw [hx] at e;rw [List.filter_cons,hx];exact Qlg f g h ms m e
theorem QtD {O:Qac}{ps:Tb}{ms:List M3}{c:Int} (hp:O[p]? = some (.dt (tab ps))) (hm:∀m∈ms,(lk ps m.other).isSome=true) (hl:ms.length≤1000) (hc:lc ps ms=some c) :
  ∃m,ms.find? (fun m=>decide (co ps m=lc ps ms))=some m∧m∈ms∧co ps m=some c∧Qcq [.lst (ms.map d3),.ob p] O = .ok (d3 m) O:=by
 obtain ⟨x,hx,hxc⟩:∃x∈ms,co ps x=some c:=by
  rcases QkV _ _ _ hc with h | h
  ·cases h
  ·exact List.mem_filterMap.mp h
 obtain ⟨m,em⟩:∃m,ms.find? (fun m=>decide (co ps m=lc ps ms))=some m:=by
  cases e:ms.find? (fun m=>decide (co ps m=lc ps ms)) with
  | some m=>exact ⟨m,rfl⟩
  | none =>
   have:=List.find?_eq_none.mp e x hx
   rw [hxc,hc] at this;simp at this
 have hmm:=List.mem_of_find?_eq_some em
 have hmc:co ps m=some c:=by
  have:=List.find?_some em
  rw [←hc];exact jp this
 refine ⟨m,em,hmm,hmc,?_⟩;have s1:Qau Qco (Qab (Qaa 0) (Qab (Qaa 1) Qae)) [some (.lst (ms.map d3)),some (.ob p),none] O = .ok (pD (lc ps ms)) O:=(QaQ (maS rfl (ma1 rfl))).trans (QnO hp hm hl)
 have c1:QbC (mgN 0) (Qat (Qaf gEq (Qau Qb5 (Qab (Qaa 0) (Qab (Qaa 1) Qae))) (Qaa 2))) (Qaa 0) (ms.map d3) [none,some (.ob p),some (pD (lc ps ms))] O [] = .ok ((ms.filter fun m=>decide (co ps m=lc ps ms)).map d3) O:=by
  rw [QdZ (fun ρ=>∃a,ρ = [a,some (.ob p),some (pD (lc ps ms))]) (fun m=>decide (co ps m=lc ps ms)) d3 ms _ _ _ ⟨none,rfl⟩ (by
   rintro m' hm' ρ ⟨a,rfl⟩
   exact ⟨_,rfl,⟨_,rfl⟩,QbJ (QaH ((QaQ (maS rfl (ma1 rfl))).trans (Qqg hp (hm m' hm'))) (y:=pD (lc ps ms)) rfl (by
    rw [show QaR O (pD (co ps m'))=pD (co ps m') by cases co ps m' <;> rfl,show QaR O (pD (lc ps ms))=pD (lc ps ms) by cases lc ps ms <;> rfl,Qvb])),rfl⟩)]
  rw [zC]
 have s2:Qbm (Qba (Qaa 0)) 1 [1,2] (mgN 0) (Qat (Qaf gEq (Qau Qb5 (Qab (Qaa 0) (Qab (Qaa 1) Qae))) (Qaa 2))) (Qaa 0) [some (.lst (ms.map d3)),some (.ob p),some (pD (lc ps ms))] O = .ok (.lst ((ms.filter fun m=>decide (co ps m=lc ps ms)).map d3)) O:=Qf6 (Qcr rfl) (by rw [zd]; omega) rfl c1
 have s3:Qaf gIx (Qbm (Qba (Qaa 0)) 1 [1,2] (mgN 0) (Qat (Qaf gEq (Qau Qb5 (Qab (Qaa 0) (Qab (Qaa 1) Qae))) (Qaa 2))) (Qaa 0)) (mC (.int 0)) [some (.lst (ms.map d3)),some (.ob p),some (pD (lc ps ms))] O = .ok (d3 m) O:=QaH s2 m_c (by
  rw [QbB,Qbg,Qj7]
  exact (QgC (j:=0)).trans (Qlg _ d3 (fun _=>true) ms m em))
 show QaK (QcW [some (.lst (ms.map d3)),some (.ob p),none] O)=_;unfold QcW;rw [sq (QaO s1),QcP];exact congrArg (fun r=>QaK (QjH r)) s3
end
def Wy (ps:Tb) (mv:Nd→List M3) (fin:Nd→Bool):Nd→List M3→Prop
 | n,[]=>fin n=true
 | n,m::ms=>fin n=false∧m∈mv n∧co ps m=lc ps (mv n)∧Wy ps mv fin m.other ms
def B_y:MS:=(Qai (Qas 5 (Qau Qcq (Qab (Qbh "Even" "moves_from" Qbb (mG (Qaa 0)) (Qab (Qaa 2) Qae)) (Qab (Qaa 1) Qae))))
  (Qai (Qcs 4 (Qaf gIx (Qaa 5) (mC (.int 1))))
  (Qas 2 (Qaf gIx (Qaa 5) (mC (.int 2))))))
section
variable {t:Nat}{fs:List (Str×D)}{N:Nat}{nodes:Nat→List Nd}{mv:Nd→List M3}{fin:Nd→Bool}{p q:Nat}
theorem Qvc (T:Trl t fs N nodes mv fin) {ps:Tb} (hP:Pri N nodes mv fin 0 ps) {O:Qac} (ht:O[t]? = some (.ins "Even" fs)) (hp:O[p]? = some (.dt (tab ps))) (a3:Option D):∀(k a:Nat) (n:Nd) (c:Int) (nm:List D) (f:Nat) (o5:Option D),a+k=N→n∈nodes a→lk ps n=some (some c)→k < f→nm.length+k < 1000000 →
  ∃ms n' o5',QbD (Qc9 (Qcd (Qbh "Even" "is_end" Qbj (mG (Qaa 0)) (Qab (Qaa 2) Qae)))) B_y f [some (.ob t),some (.ob p),some (dN n),a3,some (.lst nm),o5] O = .nx [some (.ob t),some (.ob p),some (dN n'),a3,some (.lst (nm++ms.map fun m=>.str m.name)),o5'] O∧Wy ps mv fin n ms∧ms.length≤k:=by
 intro k
 induction k using Nat.strongRecOn with
 | _ k ih =>
  intro a n c nm f o5 hak hn hc hf hl;obtain ⟨f',rfl⟩:∃f',f=f'+1:=⟨f - 1,by omega⟩
  have te:Qc9 (Qcd (Qbh "Even" "is_end" Qbj (mG (Qaa 0)) (Qab (Qaa 2) Qae))) [some (.ob t),some (.ob p),some (dN n),a3,some (.lst nm),o5] O = .ok (!fin n) O:=by
   rw [Qj6,Qhu,(QdA rfl ht T.u3 (ma1 rfl)).trans (T.ie O a n ht (by omega) hn),Qaq,Qe4,Qf8,QeR,Qaq]
  cases hfin:fin n with
  | true =>
   rw [hfin] at te;exact ⟨[],n,o5,by rw [QgG te]; simp,hfin,Nat.zero_le _⟩
  | false =>
   rw [hfin] at te
   have hL:lc ps (mv n)=some c:=by
    have:=hP a (Nat.zero_le _) (by omega) n hn
    rw [hc] at this;have h2:some c=fnl fin (fun n=>lc ps (mv n)) n:=zH this;unfold fnl at h2;rw [hfin,if_neg zj] at h2;exact h2.symm
   have hm:∀m∈mv n,(lk ps m.other).isSome=true:=fun m hm=>by
    obtain ⟨b,b1,b2,b3⟩:=T.fw a n (by omega) hn m hm;rw [hP b (Nat.zero_le _) b2 _ b3];rfl
   obtain ⟨m,e1,hmm,hmc,e2⟩:=QtD hp hm (T.ml n) hL;obtain ⟨b,b1,b2,b3⟩:=T.fw a n (by omega) hn m hmm
   obtain ⟨c',hc'⟩:∃c',lk ps m.other=some (some c'):=by
    unfold co at hmc;split at hmc
    ·rename_i c' e;exact ⟨c',e⟩
    ·cases hmc
   have s1:Qau Qcq (Qab (Qbh "Even" "moves_from" Qbb (mG (Qaa 0)) (Qab (Qaa 2) Qae)) (Qab (Qaa 1) Qae)) [some (.ob t),some (.ob p),some (dN n),a3,some (.lst nm),o5] O = .ok (d3 m) O:=(QaQ (maS ((QdA rfl ht T.u2 (ma1 rfl)).trans (T.mf O a n ht (by omega) hn)) (ma1 rfl))).trans e2
   have eb:B_y [some (.ob t),some (.ob p),some (dN n),a3,some (.lst nm),o5] O = .nx [some (.ob t),some (.ob p),some (dN m.other),a3,some (.lst (nm ++ [.str m.name])),some (d3 m)] O:=by
    unfold B_y;rw [sq (QaO s1)];show Qai _ _ [some (.ob t),some (.ob p),some (dN n),a3,some (.lst nm),some (d3 m)] O=_;rw [sq (QjX (d:=.str m.name) (ds:=nm) (QaH rfl rfl rfl) rfl (by omega))];rfl
   obtain ⟨ms,n',o5',e3,w3,l3⟩:=ih (N - b) (by omega) b m.other c' (nm ++ [.str m.name]) f' (some (d3 m)) (by omega) b3 hc' (by omega) (by rw [zn,zS]; omega);refine ⟨m::ms,n',o5',?_,⟨hfin,hmm,hmc.trans hL.symm,w3⟩,by rw [zz]; omega⟩;rw [Qgn te eb,e3,zX];rfl
theorem QrJ (T:Trl t fs N nodes mv fin) (hne:∀(a:Nat) (n:Nd),a≤N→n∈nodes a→fin n=false→mv n≠[]) {ps:Tb} (hP:Pri N nodes mv fin 0 ps):∀(k a:Nat) (n:Nd),a+k=N→n∈nodes a→∃c,lk ps n=some (some c):=by
 intro k
 induction k using Nat.strongRecOn with
 | _ k ih =>
  intro a n hak hn;have h1:=hP a (Nat.zero_le _) (by omega) n hn
  cases hfin:fin n with
  | true =>
   refine ⟨0,?_⟩;rw [h1];unfold fnl;rw [hfin,if_pos rfl]
  | false =>
   have h2:lk ps n=some (lc ps (mv n)):=by
    rw [h1];unfold fnl;rw [hfin,if_neg zj]
   obtain ⟨m,hm⟩:=List.exists_mem_of_ne_nil _ (hne a n (by omega) hn hfin);obtain ⟨b,b1,b2,b3⟩:=T.fw a n (by omega) hn m hm;obtain ⟨c,hc⟩:=ih (N - b) (by omega) b m.other (by omega) b3
   have hco:co ps m=some (m.cost+c):=by
    unfold co;rw [hc]
   obtain ⟨c',hc'⟩:=Qvg (l:=(mv n).filterMap (co ps)) (fun z=>by
    have:=List.mem_filterMap.mpr ⟨m,hm,hco⟩
    rw [z] at this
    cases this)
   exact ⟨c',by rw [h2]; exact congrArg some hc'⟩
theorem Qww (T:Trl t fs N nodes mv fin) (hne:∀(a:Nat) (n:Nd),a≤N→n∈nodes a→fin n=false→mv n≠[]) (hF:N < 50) {O:Qac} (ht:O[t]? = some (.ins "Even" fs)) :
  ∃O' ps c ms,Qh6 [.ob t] O = .ok (.tup [.int c,.lst (ms.map fun m=>.str m.name)]) O'∧(∀(j:Nat) (x:Ob),O[j]? = some x→O'[j]? = some x)∧Pri N nodes mv fin 0 ps∧lk ps (0,0)=some (some c)∧Wy ps mv fin (0,0) ms:=by
 obtain ⟨O',ps,e1,g1,g2,hP⟩:=Qrc T ht;obtain ⟨c,hc⟩:=QrJ T hne hP N 0 (0,0) (zZ _) T.f0;have ht':=g2 t _ ht;obtain ⟨ms,n',o5,e2,w2,l2⟩:=Qvc T hP ht' g1 (some (.int c)) N 0 (0,0) c [] 50 none (zZ _) T.f0 hc (by omega) (by simp; omega);refine ⟨O',ps,c,ms,?_,g2,hP,hc,w2⟩;have s1:Qau QhL (Qab (Qaa 0) Qae) [some (.ob t),none,none,none,none,none] O = .ok (.ob O.length) O':=(QaQ (ma1 rfl)).trans e1;have s2:Qbh "Even" "first_node" Qce (mG (Qaa 0)) Qae [some (.ob t),some (.ob O.length),none,none,none,none] O' = .ok (dN (0,0)) O':=(QdA rfl ht' T.u5 rfl).trans (T.fi O' ht');have s3:Qbz (Qaa 1) (Qaa 2) [some (.ob t),some (.ob O.length),some (dN (0,0)),none,none,none] O' = .ok (.int c) O':=Qk4 rfl g1 rfl hc
 unfold B_y at e2;rw [zC] at e2;show QaK (Qh1 [some (.ob t),none,none,none,none,none] O)=_;unfold Qh1;rw [sq (Qgi s1)];show QaK (Qai _ _ [some (.ob t),some (.ob O.length),none,none,none,none] O')=_;rw [sq (QaO s2)];show QaK (Qai _ _ [some (.ob t),some (.ob O.length),some (dN (0,0)),none,none,none] O')=_;rw [sq (QaO s3)];show QaK (Qai _ _ [some (.ob t),some (.ob O.length),some (dN (0,0)),some (.int c),none,none] O')=_;rw [sq (show QaV (Qat (Qg6 (Qaa 3))) (Qax (mC .non)) QaP [some (.ob t),some (.ob O.length),some (dN (0,0)),some (.int c),none,none] O' = .nx [some (.ob t),some (.ob O.length),some (dN (0,0)),some (.int c),none,none] O' from rfl)]
 rw [sq (QaO (d:=.lst []) (QhE rfl (Nat.zero_le _)))];show QaK (Qai (QbZ 50 _ _) _ [some (.ob t),some (.ob O.length),some (dN (0,0)),some (.int c),some (.lst []),none] O')=_;unfold QbZ;rw [sq e2];rfl
end
theorem Qnz {cs:List Str}{f c:Str}{mo mv:L2.M D}{ρ:Qal}{O O1:Qac}{n:Nat}{d:D}{fs:List (Str×D)} (hv:mv ρ O = .ok d O1) (ho:mo ρ O1 = .ok (.ob n) O1) (hO:O1[n]? = some (.ins c fs)) (hc:c∈cs) (hl:fs.length < 900) :
  QfN cs f mo mv ρ O = .nx ρ (O1.set n (.ins c (putD f d fs))):=by
 rw [Quy,hv,QvV,ho];unfold puF;dsimp only;rw [hO];dsimp only;rw [if_pos ⟨hc,hl⟩]
theorem Qk5 {O:Qac}{o:Ob}:(O ++ [o])[O.length]? = some o:=by
 rw [zL (ze _),Nat.sub_self]; rfl
theorem Qmc {O:Qac}{o o':Ob}:(O ++ [o]).set O.length o'=O ++ [o']:=by
 rw [List.set_append_right _ _ (ze _),Nat.sub_self]; rfl
theorem Qhg {m:L2.M D}{ρ:Qal}{O:Qac}{d:D}{l:List D} (h:m ρ O = .ok d O) (hd:QaR O d = .lst l):Qav Qcg (Qab m Qae) ρ O = .ok (.lst l) O:=by
 rw [Qd7,ma1 h,Qaq,zf,zY,hd,QtU,Qbo]
theorem Qv0 {m:L2.M D}{ρ:Qal}{O:Qac} (h:m ρ O = .ok (.bl true) O):Qc9 (Qcd m) ρ O = .ok false O:=by
 rw [Qj6,Qhu,h,Qaq,Qe4,Qf8,QeR,Qaq];rfl
theorem or_f {t1 t2:L2.M Bool}{ρ:Qal}{O:Qac} (h1:t1 ρ O = .ok false O) (h2:t2 ρ O = .ok false O):Qep t1 t2 ρ O = .ok false O:=by
 rw [Qo2,h1,Qaq,if_neg zj,h2]
theorem Qv5 {m:L2.M D}{ρ:Qal}{O:Qac}{b:Bool} (h:m ρ O = .ok (.bl b) O):Qcd m ρ O = .ok b O:=by
 rw [Qhu,h,Qaq,Qe4,Qf8,QeR]
def dK (k:Nat):D:=.tup [.int (k:Int),.int 0]
theorem Qwt (a b:Nat):gEq (dK a) (dK b)=some (.bl (decide ((a:Int)=(b:Int)))):=by
 show (if (okE (dK a)&&okE (dK b))=true then some (D.bl (Qct (dK a) (dK b))) else none)=_
 have e:Qct (dK a) (dK b)=decide ((a:Int)=(b:Int)):=by
  show ((a:Int) == (b:Int)&&((0:Int) == 0&&true))=_
  by_cases h:(a:Int)=(b:Int)
  ·rw [zq h,beq_iff_eq.mpr h]; rfl
  ·rw [zh h,beq_eq_false_iff_ne.mpr h]; rfl
 rw [show okE (dK a)=true from rfl,show okE (dK b)=true from rfl,Bool.and_self,if_pos rfl,e]
def fsE (l:List LT) (w:Int):List (Str×D):=[("letters",.lst (l.map dL)),("wide",.int w)]
def fs1 (l:List LT):List (Str×D):=[("letters",.lst (l.map dL))]
theorem pf1 (l:List LT):putD "letters" (.lst (l.map dL)) []=fs1 l:=rfl
theorem pf2 (l:List LT) (w:Int):putD "wide" (.int w) (fs1 l)=fsE l w:=rfl
theorem lkL (l:List LT) (w:Int):(fsE l w).lookup ("letters":Str)=some (.lst (l.map dL)):=rfl
theorem lkW (l:List LT) (w:Int):(fsE l w).lookup ("wide":Str)=some (.int w):=rfl
theorem QvM (O:Qac) (l:List LT) (w:Int):QcB [.ob O.length,.lst (l.map dL),.int w] (O ++ [.ins "Even" []]) = .ok .non (O ++ [.ins "Even" (fsE l w)]):=by
 have s1:QfN ["Even"] "letters" (Qaa 0) (Qav Qcg (Qab (Qaa 1) Qae)) [some (.ob O.length),some (.lst (l.map dL)),some (.int w)] (O ++ [.ins "Even" []]) = .nx [some (.ob O.length),some (.lst (l.map dL)),some (.int w)] (O ++ [.ins "Even" (fs1 l)]):=by
  rw [Qnz (d:=.lst (l.map dL)) (n:=O.length) (c:="Even") (fs:=[]) (Qhg (d:=.lst (l.map dL)) rfl rfl) rfl Qk5 zm (by decide),Qmc,pf1]
 have s2:QfN ["Even"] "wide" (Qaa 0) (mG (Qaa 2)) [some (.ob O.length),some (.lst (l.map dL)),some (.int w)] (O ++ [.ins "Even" (fs1 l)]) = .nx [some (.ob O.length),some (.lst (l.map dL)),some (.int w)] (O ++ [.ins "Even" (fsE l w)]):=by
  rw [Qnz (d:=.int w) (n:=O.length) (c:="Even") (fs:=fs1 l) rfl rfl Qk5 zm (show (1:Nat) < 900 by decide),Qmc,pf2]
 show QaK (Qda [some (.ob O.length),some (.lst (l.map dL)),some (.int w)] (O ++ [.ins "Even" []]))=_;unfold Qda;rw [QaS,s1,QaL];exact congrArg QaK s2
structure Tr (O:Qac) (n:Nat) (l:List LT) (w:Int):Prop where
 ob:O[n]? = some (.ins "Even" (fsE l w))
 le:l.length≤60
 w2:2≤w
 w40:w≤40
theorem QvD {x:Int} (h0:-100000≤x) (h1:x≤100000):Qe6 (.int x) (.int 2)=some (.int (x * x)):=by
 unfold Qe6 gI;dsimp only
 have s:Qd8 x=true:=by
  unfold Qd8;rw [zq (by omega),zq (by omega)];rfl
 rw [if_pos (by rw [s]; rfl)];show some (D.int (x ^ 2))=_;rw [Int.pow_succ,Int.pow_succ,Int.pow_zero,Int.one_mul]
section
variable {O:Qac}{n:Nat}{l:List LT}{w:Int}
theorem f_l (T:Tr O n l w) {i:Nat}{ρ:Qal} (h:Qaa i ρ O = .ok (.ob n) O):Qd4 ["Even"] "letters" (Qaa i) ρ O = .ok (.lst (l.map dL)) O:=QnR (n:=n) h T.ob zm (lkL _ _)
theorem f_w (T:Tr O n l w) {i:Nat}{ρ:Qal} (h:Qaa i ρ O = .ok (.ob n) O):Qd4 ["Even"] "wide" (Qaa i) ρ O = .ok (.int w) O:=QnR (n:=n) h T.ob zm (lkW _ _)
theorem l_l (T:Tr O n l w) {i:Nat}{ρ:Qal} (h:Qaa i ρ O = .ok (.ob n) O):Qav Qa4 (Qab (Qd4 ["Even"] "letters" (Qaa i)) Qae) ρ O = .ok (.int (l.length:Int)) O:=by
 have:=QcO (f_l T h)
 rwa [zd] at this
theorem QrT:Qce [.ob n] O = .ok (dK 0) O:=rfl
theorem QrI (k:Nat):Qca [.ob n,.int (k:Int)] O = .ok (.lst [dK k]) O:=rfl
theorem Qtw (T:Tr O n l w):QcQ [.ob n] O = .ok (.int (l.length:Int)) O:=by
 show QaK (QdB [some (.ob n)] O)=_;unfold QdB;rw [QbY (l_l T rfl)];rfl
theorem Qpt (T:Tr O n l w) (k:Nat):Qbj [.ob n,dK k] O = .ok (.bl (decide ((k:Int)=(l.length:Int)))) O:=by
 show QaK (Qd1 [some (.ob n),some (dK k)] O)=_;unfold Qd1;rw [QbY (QaH (x:=dK k) (y:=dK l.length) rfl (QkK (maS (l_l T rfl) (ma1 (x:=.int 0) rfl)) (show (2:Nat)≤1000000 by decide)) (Qwt k l.length))];rfl
theorem Qph (T:Tr O n l w) (p:Nat×Int) (h0:0≤p.2) (h1:p.2≤w):Qds [.ob n,.int (p.1:Int),.int p.2] O = .ok (.int (cst l w p)) O:=by
 have t:Qat (Qaf gEq (Qaa 1) (Qav Qa4 (Qab (Qd4 ["Even"] "letters" (Qaa 0)) Qae))) [some (.ob n),some (.int (p.1:Int)),some (.int p.2)] O = .ok (decide ((p.1:Int)=(l.length:Int))) O:=Qig rfl (l_l T rfl);have w40:=T.w40;show QaK (Qdw [some (.ob n),some (.int (p.1:Int)),some (.int p.2)] O)=_;unfold Qdw cst
 by_cases h:p.1=l.length
 ·rw [QcP,Qq3,t,zq (by omega),Qaq,if_pos rfl,if_pos h];rfl
 ·rw [QcP,Qq3,t,zh (by omega),Qaq,if_neg zj,if_neg h,QaH (x:=.int (w - p.2)) (y:=.int 2) (Qr0 (f_w T rfl) rfl) rfl (QvD (by omega) (by omega))];rfl
theorem Qum {m:L2.M D}{ρ:Qal}{O:Qac}{l:List D} (h:m ρ O = .ok (.lst l) O):QoF m ρ O = .ok l.reverse O:=by
 unfold QoF;rw [h,Qaq]
def mvs (l:List LT) (lo:Nat) (w:Int):List D:=if lo=l.length then [] else ((ends l lo w).map (mvE l w)).reverse
theorem QxD (T:Tr O n l w) (lo:Nat) (hlo:lo≤l.length):Qbb [.ob n,dK lo] O = .ok (.lst (mvs l lo w)) O:=by
 have w2:=T.w2;have le:=T.le
 have t:Qcd (Qbh "Even" "is_end" Qbj (Qaa 0) (Qab (Qaa 1) Qae)) [some (.ob n),some (dK lo),none] O = .ok (decide ((lo:Int)=(l.length:Int))) O:=Qv5 (by
  rw [QdA (n:=n) (ds:=[dK lo]) rfl T.ob rfl (ma1 rfl)]
  exact Qpt T lo)
 show QaK (QcG [some (.ob n),some (dK lo),none] O)=_;unfold QcG mvs;rw [QaS]
 by_cases h:lo=l.length
 ·rw [Qev (by rw [t,zq (by omega)]),if_pos h];rfl
 ·have ok:=QkU (l:=l) (lo:=lo) (w:=w) (by omega) w2;rw [if_no (by rw [t,zh (by omega)]),QbR,QaL,if_neg h,QaS]
  have s2:Qas 2 (Qau QdP (Qab (Qd4 ["Even"] "letters" (Qaa 0)) (Qab (Qaf gIx (Qaa 1) (mC (.int 0))) (Qab (Qd4 ["Even"] "wide" (Qaa 0)) Qae)))) [some (.ob n),some (dK lo),none] O = .nx [some (.ob n),some (dK lo),some (.lst ((ends l lo w).map dE))] O:=by
   refine QaO ?_;rw [QaQ (maS (f_l T rfl) (maS (x:=.int (lo:Int)) (QaH (x:=dK lo) (y:=.int 0) rfl rfl rfl) (ma1 (f_w T rfl))))];exact Qim l lo w (by omega) hlo O
  rw [s2,QaL]
  have ec:=Qb4 (g:=Qg8 2 (QbE (mgN 0) (QbE (mgN 1) Qex))) (t:=QbW) (m:=QbS (Qab (Qbh "Even" "cost_to" Qds (Qaa 2) (Qab (Qaa 0) (Qab (Qaa 1) Qae))) (Qab (Qav Qk2 (Qab (Qaa 0) Qae)) (Qab (QbS (Qab (Qaa 0) (Qab (mC (.int 0)) Qae))) Qae)))) (fun ρ=>∃a b,ρ = [a,b,some (.ob n)]) dE (mvE l w) (ends l lo w).reverse [none,none,some (.ob n)] O [] ⟨_,_,rfl⟩ (by
   rintro p hp ρ ⟨a,b,rfl⟩;obtain ⟨h1,h2,h3,h4,_⟩:=ok p (List.mem_reverse.mp hp);refine ⟨[some (.int (p.1:Int)),some (.int p.2),some (.ob n)],rfl,⟨_,_,rfl⟩,rfl,QkK (maS ?_ (maS (QeH (xs:=[.int (p.1:Int)]) (ma1 rfl) (QuJ p.1 (by omega))) (ma1 (x:=.tup [.int (p.1:Int),.int 0]) rfl))) (show (3:Nat)≤1000000 by decide)⟩;rw [QdA (n:=n) (ds:=[.int (p.1:Int),.int p.2]) rfl T.ob rfl (maS (x:=.int (p.1:Int)) rfl (ma1 (x:=.int p.2) rfl))]
   exact Qph T p h3 h4)
  rw [zC,List.map_reverse,List.map_reverse] at ec
  have hlen:((ends l lo w).map dE).reverse.length≤1000000:=by
   rw [List.length_reverse,zd]
   have:=QlV l lo w
   omega
  rw [QbY (Qf6 (own:=2) (cap:=[0]) (Qum (m:=Qaa 2) (ρ:=[some (.ob n),some (dK lo),some (.lst ((ends l lo w).map dE))]) (O:=O) (l:=(ends l lo w).map dE) rfl) hlen (ρ0:=[none,none,some (.ob n)]) rfl ec)];rfl
end
def mvN (l:List LT) (w:Int) (n:Nd):List M3:=if n=((l.length:Int),0) then [] else ((ends l n.1.toNat w).map fun p=>(⟨cst l w p,strN p.1,((p.1:Int),0)⟩:M3)).reverse
def Ql1 (l:List LT) (n:Nd):Bool:=decide (n=((l.length:Int),0))
def ndN (a:Nat):List Nd:=[((a:Int),0)]
theorem QmA (l:List LT) (a:Nat):Ql1 l ((a:Int),0)=decide ((a:Int)=(l.length:Int)):=by
 unfold Ql1
 by_cases h:(a:Int)=(l.length:Int)
 ·rw [zq h,zq (by rw [h])]
 ·rw [zh h,zh (fun z=>h (congrArg Prod.fst z))]
theorem Qvk (l:List LT) (w:Int) (lo:Nat):(mvN l w ((lo:Int),0)).map d3=mvs l lo w:=by
 unfold mvN mvs
 by_cases h:lo=l.length
 ·rw [if_pos (by rw [h]),if_pos h]; rfl
 ·rw [if_neg (fun z=>h (by have:=congrArg Prod.fst z; dsimp only at this; omega)),if_neg h,List.map_reverse,zW];rfl
theorem Qsr {l:List LT}{w:Int}{lo:Nat}{m:M3} (hlo:lo≤l.length) (hw:2≤w) (h:m∈mvN l w ((lo:Int),0)):∃p:Nat×Int,m=⟨cst l w p,strN p.1,((p.1:Int),0)⟩∧lo < p.1∧p.1≤l.length∧tw l lo (p.1 - lo)≤w:=by
 unfold mvN at h;split at h
 ·exact nomatch h
 ·rename_i hn
  have hlt:lo < l.length:=by
   refine Nat.lt_of_le_of_ne hlo fun z=>hn (by rw [z])
  obtain ⟨p,hp,rfl⟩:=zG.mp (List.mem_reverse.mp h);have hp':p∈ends l lo w:=hp;obtain ⟨h1,h2,_,h4,h5⟩:=QkU hlt hw p hp';exact ⟨p,rfl,h1,h2,by omega⟩
theorem Qra (l:List LT) (w:Int) (hl:l.length≤40) (hw:2≤w) (hw':w≤40) (t:Nat):Trl t (fsE l w) l.length ndN (mvN l w) (Ql1 l) where
 na O a _ _:=QrI (n:=t) (O:=O) a
 mf O a n h ha hn:=by
  obtain rfl:=zy.mp hn;rw [Qvk];exact QxD ⟨h,by omega,hw,hw'⟩ a ha
 ie O a n h ha hn:=by
  obtain rfl:=zy.mp hn;rw [QmA];exact Qpt ⟨h,by omega,hw,hw'⟩ a
 la O h:=Qtw ⟨h,by omega,hw,hw'⟩
 fi O _:=QrT
 f0:=zy.mpr rfl
 nd a:=List.nodup_cons.mpr ⟨List.not_mem_nil,List.nodup_nil⟩
 ln a:=show (1:Nat)≤10 by decide
 fw a n ha hn m hm:=by
  obtain rfl:=zy.mp hn;obtain ⟨p,rfl,h1,h2,_⟩:=Qsr ha hw hm;exact ⟨p.1,h1,h2,zy.mpr rfl⟩
 sp a b n h1 h2:=by
  have:=(zy.mp h1).symm.trans (zy.mp h2)
  have:=congrArg Prod.fst this
  dsimp only at this;omega
 ml n:=by
  unfold mvN
  split
  ·exact Nat.zero_le _
  ·rw [List.length_reverse,zd]
   have:=QlV l n.1.toNat w
   omega
 fe n h:=by
  unfold mvN;rw [if_pos (jp h)]
 u1:=rfl
 u2:=rfl
 u3:=rfl
 u4:=rfl
 u5:=rfl
 hN:=by omega
def ChE (l:List LT) (w:Int):Nat→List Nat→Prop
 | lo,[]=>lo=l.length
 | lo,e::es=>lo < e∧e≤l.length∧tw l lo (e - lo)≤w∧ChE l w e es
theorem Qse {l:List LT}{w:Int} (hw:2≤w) {ps:Tb}:∀(ms:List M3) (lo:Nat),lo≤l.length→Wy ps (mvN l w) (Ql1 l) ((lo:Int),0) ms→∃es:List Nat,(ms.map fun m=>D.str m.name)=es.map (fun e=>D.str (strN e))∧ChE l w lo es
 | [],lo,_,h=>⟨[],rfl,by
  have h':Ql1 l ((lo:Int),0)=true:=h;rw [QmA] at h'
  have:=jp h'
  show lo=l.length
  omega⟩
 | m::ms,lo,hlo,h=>by
  obtain ⟨_,h2,_,h4⟩:=h;obtain ⟨p,rfl,q1,q2,q3⟩:=Qsr hlo hw h2;obtain ⟨es,e1,e2⟩:=Qse hw ms p.1 q2 h4;refine ⟨p.1::es,?_,q1,q2,q3,e2⟩;rw [zf,zf,e1]
def pr:Nat→List Nat→List (Nat×Nat)
 | _,[]=>[]
 | lo,e::es=>(lo,e)::pr e es
def dS (p:Nat×Nat):D:=.tup [.int (p.1:Int),.int (p.2:Int)]
theorem ChE.len {l:List LT}{w:Int}:∀{es:List Nat}{lo:Nat},ChE l w lo es→es.length+lo≤l.length
 | [],lo,h=>by have:lo=l.length:=h; rw [zU]; omega
 | e::es,lo,h=>by
  have:=ChE.len h.2.2.2
  have:=h.1
  rw [zz];omega
theorem ChE.le {l:List LT}{w:Int}:∀{es:List Nat}{lo:Nat},ChE l w lo es→∀e∈es,e≤l.length
 | [],_,_,e,h=>(nomatch h)
 | e::es,lo,h,x,hx=>by
  rcases zt.mp hx with rfl | hx
  ·exact h.2.1
  ·exact ChE.le h.2.2.2 x hx
theorem Qqm:∀(es:List Nat) (lo:Nat),QhH (.int (lo:Int)::es.map fun e:Nat=>D.int (e:Int)) (es.map fun e:Nat=>D.int (e:Int))=(pr lo es).map dS
 | [],lo=>rfl
 | e::es,lo=>by
  rw [zf];show D.tup [.int (lo:Int),.int (e:Int)]::QhH (.int (e:Int)::es.map fun e:Nat=>D.int (e:Int)) (es.map fun e:Nat=>D.int (e:Int))=_;rw [Qqm es e];rfl
theorem QuF (l:List LT) (w:Int) (hl:l.length≤40) (h0:0 < l.length) (hw:2≤w) (hw':w≤40) (O:Qac):∃O' es,Qmj [.lst (l.map dL),.int w] O = .ok (.lst ((pr 0 es).map dS)) O'∧ChE l w 0 es:=by
 obtain ⟨O',ps,c,ms,e1,_,_,_,hy⟩:=Qww (Qra l w hl hw hw' O.length) (fun a n ha hn hf=>by
  obtain rfl:=zy.mp hn;rw [QmA] at hf
  have hne:¬a=l.length:=fun z=>of_decide_eq_false hf (by omega)
  unfold mvN;rw [if_neg (fun z=>hne (by have:=congrArg Prod.fst z; dsimp only at this; omega))];intro z;rw [List.reverse_eq_nil_iff,List.map_eq_nil_iff] at z
  revert z
  show ends l a w≠[];unfold ends
  cases fes l a w (l.length - a) with
  | nil=>exact List.cons_ne_nil _ _
  | cons k ks=>exact List.cons_ne_nil _ _) (by omega) (O:=O ++ [.ins "Even" (fsE l w)]) Qk5
 obtain ⟨es,e2,hc⟩:=Qse hw ms 0 (Nat.zero_le _) hy;rw [e2] at e1;refine ⟨O',es,?_,hc⟩
 have mk:Qh0 "Even" QcB (Qab (Qaa 0) (Qab (Qaa 1) Qae)) [some (.lst (l.map dL)),some (.int w),none,none] O = .ok (.ob O.length) (O ++ [.ins "Even" (fsE l w)]):=by
  rw [Quo,maS (x:=.lst (l.map dL)) rfl (ma1 (x:=.int w) rfl),Qaq,QvM,Qu8]
 have s1:Qau Qh6 (Qab (Qh0 "Even" QcB (Qab (Qaa 0) (Qab (Qaa 1) Qae))) Qae) [some (.lst (l.map dL)),some (.int w),none,none] O = .ok (.tup [.int c,.lst (es.map fun e=>D.str (strN e))]) O':=by
  rw [QcK,QbK,mk,Qaq,Qb8,Qaq,Qaq,e1]
 have hlen:=hc.len;have hle:=hc.le
 have ec:=Qb4 (g:=mgN 0) (t:=QbW) (m:=Qav Qi5 (Qab (Qaa 0) Qae)) (fun ρ=>∃a,ρ = [a]) (fun e=>D.str (strN e)) (fun e:Nat=>D.int (e:Int)) es [none] O' [] ⟨_,rfl⟩ (by
  rintro e he ρ ⟨a,rfl⟩;refine ⟨_,rfl,⟨_,rfl⟩,rfl,QeH (ma1 rfl) ?_⟩
  have:=hle e he
  exact Qnm (i:=(e:Int)) (by omega) (by omega))
 rw [zC] at ec;have s2:Qbm (Qba (Qaf gIx (Qaa 2) (mC (.int 1)))) 1 [] (mgN 0) QbW (Qav Qi5 (Qab (Qaa 0) Qae)) [some (.lst (l.map dL)),some (.int w),some (.tup [.int c,.lst (es.map fun e=>D.str (strN e))]),none] O' = .ok (.lst (es.map fun e:Nat=>D.int (e:Int))) O' :=
  Qf6 (Qcr (l:=es.map fun e=>D.str (strN e)) (QaH (x:=.tup [.int c,.lst (es.map fun e=>D.str (strN e))]) (y:=.int 1) rfl rfl rfl)) (by rw [zd]; omega) rfl ec
 have hn:es.length≠0:=fun z=>by
  cases es with
  | nil=>have h':0=l.length:=hc; omega
  | cons e es=>exact nomatch z
 have t3:=Qig (b:=mC (.int 0)) (j:=0) (QcO (m:=Qaa 3) (ρ:=[some (.lst (l.map dL)),some (.int w),some (.tup [.int c,.lst (es.map fun e=>D.str (strN e))]),some (.lst (es.map fun e:Nat=>D.int (e:Int)))]) (O:=O') (l:=es.map fun e:Nat=>D.int (e:Int)) rfl) rfl;rw [zd] at t3;show QaK (QjW [some (.lst (l.map dL)),some (.int w),none,none] O)=_;unfold QjW;rw [sq (Qgi s1)];show QaK (Qai _ _ [some (.lst (l.map dL)),some (.int w),some (.tup [.int c,.lst (es.map fun e=>D.str (strN e))]),none] O')=_;rw [sq (QaO s2)];show QaK (Qai _ _ [some (.lst (l.map dL)),some (.int w),some (.tup [.int c,.lst (es.map fun e=>D.str (strN e))]),some (.lst (es.map fun e:Nat=>D.int (e:Int)))] O')=_
 rw [QaS,if_no (by rw [t3,zh (by omega)]),QbR,QaL]
 rw [QbY (QeH (g:=gLZ) (z:=.lst ((pr 0 es).map dS)) (maS (x:=.lst (.int ((0:Nat):Int)::es.map fun e:Nat=>D.int (e:Int))) (QaH (x:=.lst [.int 0]) (y:=.lst (es.map fun e:Nat=>D.int (e:Int))) (QhE (ma1 rfl) (by decide)) rfl (by
  rw [QbB,QbB,QmB,if_pos (by rw [zd,zS]; omega)]
  rfl)) (ma1 (x:=.lst (es.map fun e:Nat=>D.int (e:Int))) rfl)) (by
  show some (D.lst (QhH _ _))=_
  rw [Qqm]))]
 rfl
def QdN:List Nat:=[119,111,114,100,115]
def Qfm:List Nat:=[99,101,108,108,115]
def Qfg:List Nat:=[101,118,101,110]
inductive Wx:List Nat→Prop
 | cells:Wx Qfm
 | words:Wx QdN
theorem Qtx (X:List D) (d:D):gIx (.lst (X ++ [d])) (.int (-1))=some d:=by
 rw [Qj7];unfold atI ixN;rw [if_neg (by decide),if_pos (by rw [zn,zS]; omega),Option.bind_some,zn,zS,show ((-1:Int)+((X.length+1:Nat):Int)).toNat=X.length by omega,zL (ze _),Nat.sub_self];rfl
theorem Qvp {y:List Nat} (hy:Wx y) (l:List LT) (lo:Nat) (w:Int) (hl:l.length≤1000) (hlo:lo < l.length) (hw:2≤w) (O:Qac):∃e:Nat,Qej [.lst (l.map dL),.int (lo:Int),.int w,.str y] O = .ok (.int (e:Int)) O∧lo < e∧e≤l.length∧tw l lo (e - lo)≤w:=by
 cases hy with
 | cells =>
  have er:=QkL l lo w hl (by omega) O;have q:gEq (.str Qfm) (.str [119,111,114,100,115])=some (.bl false):=rfl;have r1:=Qqq l lo w hlo hw;have r2:=QmG l lo w (by omega)
  have hfit:rch l lo w - lo=QbO (l.drop lo) w:=by unfold rch; omega
  have s1:=QiW (l.drop lo) w (rch l lo w - lo) (by omega) (by omega);refine ⟨rch l lo w,?_,r1,r2,Int.le_trans (QrZ _ _ _) s1⟩;show QaK (QdC [some (.lst (l.map dL)),some (.int (lo:Int)),some (.int w),some (.str Qfm)] O)=_;unfold QdC;simp only [QaS,QdU,QcM,QcT,Qci,m_c,zI,zP,Qaq,Qfr,q,Qbo,QcL,Qdh,Bool.false_eq_true,if_false,QbR,QaL,QcP,QcK,QbK,Qb8,er,Qf7,Qga]
 | words =>
  have ee:=Qim l lo w hl (by omega) O
  have hne:ends l lo w≠[]:=by
   unfold ends
   cases fes l lo w (l.length - lo) with
   | nil=>exact List.cons_ne_nil _ _
   | cons k ks=>exact List.cons_ne_nil _ _
  obtain ⟨p,hp⟩:∃p,p=(ends l lo w).getLast hne:=⟨_,rfl⟩;obtain ⟨h1,h2,_,h4,h5⟩:=QkU hlo hw p (by rw [hp]; exact List.getLast_mem hne);refine ⟨p.1,?_,h1,h2,by omega⟩
  have es:(ends l lo w).map dE=((ends l lo w).dropLast.map dE) ++ [dE p]:=by
   rw [hp,←List.map_singleton,←zM,List.dropLast_concat_getLast]
  rw [es] at ee;have q:gEq (.str QdN) (.str [119,111,114,100,115])=some (.bl true):=rfl;have i1:=Qtx ((ends l lo w).dropLast.map dE) (dE p);have i2:gIx (dE p) (.int 0)=some (.int (p.1:Int)):=rfl;have dd:QaR O (dE p)=dE p:=rfl;have ng:QeP (.int 1)=some (.int (-1)):=rfl;show QaK (QdC [some (.lst (l.map dL)),some (.int (lo:Int)),some (.int w),some (.str QdN)] O)=_;unfold QdC;simp only [QaS,QdU,QcM,QcT,Qxw,Qci,m_c,zI,zP,Qaq,Qfr,q,Qbo,QcL,Qdh,if_true,QcP,QcK,QbK,Qb8,ee,QbB,Qbg,dd,ng,i1,i2,Qf7,QkT,Qga]
def Qot:MS:=(Qai (Qas 5 (Qau Qej (Qab (Qaa 0) (Qab (Qaa 4) (Qab (Qaa 1) (Qab (Qaa 2) Qae))))))
  (Qai (Qcs 3 (QbS (Qab (Qaa 4) (Qab (Qaa 5) Qae))))
  (Qas 4 (Qaa 5))))
def nE (l:List LT) (w:Int) (y:List Nat) (acc:List (Nat×Nat)) (lo:Nat) (o5:Option D):Qal:=[some (.lst (l.map dL)),some (.int w),some (.str y),some (.lst (acc.map dS)),some (.int (lo:Int)),o5]
theorem QnN {y:List Nat} (hy:Wx y) (l:List LT) (w:Int) (hl:l.length≤1000) (hw:2≤w) (O:Qac):∀(f lo:Nat) (acc:List (Nat×Nat)) (o5:Option D),lo≤l.length→l.length - lo < f→acc.length≤lo →
  ∃es o5',QbD (Qat (Qaf gLt (Qaa 4) (Qav Qa4 (Qab (Qaa 0) Qae)))) Qot f (nE l w y acc lo o5) O = .nx (nE l w y (acc++pr lo es) l.length o5') O∧ChE l w lo es
 | 0,lo,acc,o5,_,h,_=>absurd h (Nat.not_lt_zero _)
 | f+1,lo,acc,o5,hlo,hf,ha=>by
  have hlen:=QcO (m:=Qaa 0) (ρ:=nE l w y acc lo o5) (O:=O) (l:=l.map dL) rfl;rw [zd] at hlen;have t:=QlJ (a:=Qaa 4) (i:=(lo:Int)) rfl hlen
  by_cases h:lo=l.length
  ·refine ⟨[],o5,?_,h⟩;rw [QgG (by rw [t,zh (by omega)]),show pr lo [] = [] from rfl,zO,h]
  ·obtain ⟨e,e1,h1,h2,h3⟩:=Qvp hy l lo w hl (by omega) hw O;have s1:Qau Qej (Qab (Qaa 0) (Qab (Qaa 4) (Qab (Qaa 1) (Qab (Qaa 2) Qae)))) (nE l w y acc lo o5) O = .ok (.int (e:Int)) O:=(QaQ (maS rfl (maS rfl (maS rfl (ma1 rfl))))).trans e1
   have eb:Qot (nE l w y acc lo o5) O = .nx (nE l w y (acc ++ [(lo,e)]) e (some (.int (e:Int)))) O:=by
    unfold Qot;rw [sq (QaO s1)];show Qai _ _ (nE l w y acc lo (some (.int (e:Int)))) O=_;rw [sq (QjX (ds:=acc.map dS) (d:=dS (lo,e)) (QkK (maS rfl (ma1 rfl)) (show (2:Nat)≤1000000 by decide)) rfl (by rw [zd]; omega))];show Qas 4 (Qaa 5) [some (.lst (l.map dL)),some (.int w),some (.str y),some (.lst (acc.map dS ++ [dS (lo,e)])),some (.int (lo:Int)),some (.int (e:Int))] O=_;rw [QaO (d:=.int (e:Int)) rfl];unfold nE;rw [zM];rfl
   obtain ⟨es,o5',e2,c2⟩:=QnN hy l w hl hw O f e (acc ++ [(lo,e)]) (some (.int (e:Int))) h2 (by omega) (by rw [zn,zS]; omega);refine ⟨e::es,o5',?_,h1,h2,h3,c2⟩;rw [Qgn (by rw [t,zq (by omega)]) eb,e2,zX];rfl
theorem QwG {y:List Nat} (hy:Wx y) (l:List LT) (w:Int) (hl:l.length≤1000) (hw:2≤w) (O:Qac):∃es,Qes [.lst (l.map dL),.int w,.str y] O = .ok (.lst ((pr 0 es).map dS)) O∧ChE l w 0 es:=by
 obtain ⟨es,o5,e,c⟩:=QnN hy l w hl hw O wF 0 [] none (Nat.zero_le _) (by unfold wF; omega) (Nat.zero_le _);refine ⟨es,?_,c⟩;unfold Qot at e;show QaK (QeC [some (.lst (l.map dL)),some (.int w),some (.str y),none,none,none] O)=_;unfold QeC;rw [sq (QaO (d:=.lst []) (QhE rfl (Nat.zero_le _)))];rw [sq (QaO (d:=.int 0) rfl)];show QaK (Qai _ _ (nE l w y [] 0 none) O)=_;rw [QaS,Qgq,e,QaL];rfl
theorem Qq5 (w:Int) (h:2≤w∧w≤40) (O:Qac):QdR [.int w,.int 2,.int 40] O = .ok (.bl true) O:=by
 simp [QdR,QgQ,QhV,Qhx,h]
inductive Wy3:List Nat→Prop
 | cells:Wy3 Qfm
 | words:Wy3 QdN
 | even:Wy3 Qfg
theorem QtS {y:List Nat} (h:Wy3 y) (O:Qac):Qgs [.str y] O = .ok (.bl true) O:=by
 have q:gIn false (.str y) (.tup [.str [99,117,116],.str [99,101,108,108,115],.str [119,111,114,100,115],.str [101,118,101,110]])=some (.bl true):=by
  cases h <;> rfl
 simp only [Qgs,QjM,Qsu,zf,zY,zz,zU,Nat.sub_self,List.replicate_zero,zO,QcP,Qpv,Qwa,Qci,zI,Qaq,Qfr,Qto,Qrk,QuN,Qsq,if_true,QcT,m_c,Qpn,q,Qbo,Qf7,Qga]
def Fo (l:List LT) (w:Int) (st:List (Nat×Nat)):Prop:=(l = []∧st = [(0,0)])∨∃es,l≠[]∧st=pr 0 es∧ChE l w 0 es
theorem QvI (l:List LT) (w:Int) {y:List Nat} (hy:Wy3 y) (hl:l.length≤40) (hw:2≤w∧w≤40) (O:Qac):∃O' st,QiG [.lst (l.map dL),.int w,.str y] O = .ok (.lst (st.map dS)) O'∧Fo l w st:=by
 have e1:=Qq5 w hw O;have e2:=QtS hy O
 have pre:∀R:MS,(Qai (QaV (Qc9 (Qcd (Qau QdR (Qab (Qaa 1) (Qab (mC (.int 2)) (Qab (mC (.int 40)) Qae)))))) Ql9 QaP) (Qai (QaV (Qc9 (Qcd (Qau Qgs (Qab (Qaa 2) Qae)))) Ql9 QaP) R)) [some (.lst (l.map dL)),some (.int w),some (.str y)] O=R [some (.lst (l.map dL)),some (.int w),some (.str y)] O:=fun R=>by
  simp only [QaS,QdU,Qj6,Qhu,QcK,QbK,Qb8,Qci,m_c,zI,zP,Qaq,e1,e2,Qe4,Qf8,QeR,Bool.not_true,Qdh,Bool.false_eq_true,if_false,QbR,QaL]
 have go:∀X:Res D,QaK (Qj3 [some (.lst (l.map dL)),some (.int w),some (.str y)] O)=X→QiG [.lst (l.map dL),.int w,.str y] O=X:=fun X h=>h
 unfold Qj3 at go;rw [pre] at go
 by_cases h0:l = []
 ·subst h0;exact ⟨O,[(0,0)],go _ rfl,.inl ⟨rfl,rfl⟩⟩
 ·have hpos:0 < l.length:=List.length_pos_iff.mpr h0;have t0:=Qig (b:=mC (.int 0)) (j:=0) (QcO (m:=Qaa 0) (ρ:=[some (.lst (l.map dL)),some (.int w),some (.str y)]) (O:=O) (l:=l.map dL) rfl) rfl;rw [zd] at t0
  have q1:Qat (Qaf gEq (Qaa 2) (mC (.str [99,117,116]))) [some (.lst (l.map dL)),some (.int w),some (.str y)] O = .ok false O:=by cases hy <;> rfl
  rw [QaS,if_no (by rw [t0,zh (by omega)]),QbR,QaL,QaS,if_no q1,QbR,QaL,QaS] at go
  have xx:∀{y:List Nat},Wx y→∃es,Qau Qes (Qab (Qaa 0) (Qab (Qaa 1) (Qab (Qaa 2) Qae))) [some (.lst (l.map dL)),some (.int w),some (.str y)] O = .ok (.lst ((pr 0 es).map dS)) O∧ChE l w 0 es:=fun {y} h=>by
   obtain ⟨es,e,c⟩:=QwG h l w (by omega) hw.1 O;exact ⟨es,(QaQ (maS rfl (maS rfl (ma1 rfl)))).trans e,c⟩
  cases hy with
  | cells =>
   obtain ⟨es,e,c⟩:=xx Wx.cells;rw [if_no (show Qat (Qaf gEq (Qaa 2) (mC (.str [101,118,101,110]))) [some (.lst (l.map dL)),some (.int w),some (.str Qfm)] O = .ok false O from rfl),QbR,QaL,QbY e] at go;exact ⟨O,pr 0 es,go _ rfl,.inr ⟨es,h0,rfl,c⟩⟩
  | words =>
   obtain ⟨es,e,c⟩:=xx Wx.words;rw [if_no (show Qat (Qaf gEq (Qaa 2) (mC (.str [101,118,101,110]))) [some (.lst (l.map dL)),some (.int w),some (.str QdN)] O = .ok false O from rfl),QbR,QaL,QbY e] at go;exact ⟨O,pr 0 es,go _ rfl,.inr ⟨es,h0,rfl,c⟩⟩
  | even =>
   obtain ⟨O',es,e,c⟩:=QuF l w hl hpos hw.1 hw.2 O;rw [Qev (show Qat (Qaf gEq (Qaa 2) (mC (.str [101,118,101,110]))) [some (.lst (l.map dL)),some (.int w),some (.str Qfg)] O = .ok true O from rfl),QbY ((QaQ (maS (x:=.lst (l.map dL)) rfl (ma1 (x:=.int w) rfl))).trans e),QkT] at go;exact ⟨O',pr 0 es,go _ rfl,.inr ⟨es,h0,rfl,c⟩⟩
def shw (l:List LT) (w:Int) (p:Nat×Nat):List LT:=((l.drop p.1).take (p.2 - p.1)).take (QbO ((l.drop p.1).take (p.2 - p.1)) w)
theorem Qs2 (l:List LT) (w:Int) (hl:l.length≤1000) (O:Qac):QfX [.lst (l.map dL),.int w] O = .ok (.lst ((l.take (QbO l w)).map dL)) O:=by
 have er:=QkL l 0 w hl (Nat.zero_le _) O
 have h0:rch l 0 w=QbO l w:=by unfold rch; rw [List.drop_zero,zZ]
 rw [h0] at er;show QaK (QfT [some (.lst (l.map dL)),some (.int w)] O)=_;unfold QfT
 have s:mSl (Qaa 0) moN (moS (Qau Qd6 (Qab (Qaa 0) (Qab (mC (.int 0)) (Qab (Qaa 1) Qae))))) [some (.lst (l.map dL)),some (.int w)] O = .ok (.lst ((l.take (QbO l w)).map dL)) O:=by
  rw [QqU,show Qaa 0 [some (.lst (l.map dL)),some (.int w)] O = .ok (.lst (l.map dL)) O from rfl,Qaq,show moN [some (.lst (l.map dL)),some (.int w)] O = .ok none O from rfl,Qaq,Qu0,QaQ (maS (x:=.lst (l.map dL)) rfl (maS (x:=.int 0) rfl (ma1 (x:=.int w) rfl)))];rw [show Qd6 [.lst (l.map dL),.int 0,.int w] O = .ok (.int (QbO l w:Nat)) O from er,Qaq,Qsc,Qaq,QbB,Qn3,Qka,←List.map_take,Qbo]
 rw [QbY s];rfl
def room (w:Int) (y:List Nat):D:=.tup [.str [97],.int 0,.int 0,.int 12,.int w,.str y]
theorem Qrz (l:List LT) (w:Int) {y:List Nat} (hy:Wy3 y) (hl:l.length≤40) (hw:2≤w∧w≤40) (O:Qac):∃O' st,Qdo [.lst (l.map dL),room w y] O = .ok (.lst (st.map fun p=>D.lst ((shw l w p).map dL))) O'∧Fo l w st∧st.length≤1000:=by
 obtain ⟨O',st,e,F⟩:=QvI l w hy hl hw O
 have hlen:st.length≤1000:=by
  rcases F with ⟨_,rfl⟩ | ⟨es,_,rfl,c⟩
  ·decide
  ·have:=c.len
   have pl:∀(es:List Nat) (lo:Nat),(pr lo es).length=es.length:=fun es=>by
    induction es with
    | nil=>intro lo; rfl
    | cons e es ih=>intro lo; show (pr e es).length+1=_; rw [ih]; rfl
   rw [pl];omega
 refine ⟨O',st,?_,F,hlen⟩;have s1:Qau QiG (Qab (Qaa 0) (Qab (Qaf gIx (Qaa 1) (mC (.int 4))) (Qab (Qaf gIx (Qaa 1) (mC (.int 5))) Qae))) [some (.lst (l.map dL)),some (room w y),none] O = .ok (.lst (st.map dS)) O':=(QaQ (maS (x:=.lst (l.map dL)) rfl (maS (x:=.int w) rfl (ma1 (x:=.str y) rfl)))).trans e
 have ec:=Qb4 (g:=Qg8 2 (QbE (mgN 0) (QbE (mgN 1) Qex))) (t:=QbW) (m:=Qau QfX (Qab (mSl (Qaa 2) (moS (Qaa 0)) (moS (Qaa 1))) (Qab (Qaf gIx (Qaa 3) (mC (.int 4))) Qae))) (fun ρ=>∃a b,ρ = [a,b,some (.lst (l.map dL)),some (room w y)]) dS (fun p=>D.lst ((shw l w p).map dL)) st [none,none,some (.lst (l.map dL)),some (room w y)] O' [] ⟨_,_,rfl⟩ (by
  rintro p hp ρ ⟨a,b,rfl⟩;refine ⟨[some (.int (p.1:Int)),some (.int (p.2:Int)),some (.lst (l.map dL)),some (room w y)],rfl,⟨_,_,rfl⟩,rfl,?_⟩
  have sl:mSl (Qaa 2) (moS (Qaa 0)) (moS (Qaa 1)) [some (.int (p.1:Int)),some (.int (p.2:Int)),some (.lst (l.map dL)),some (room w y)] O' = .ok (.lst (((l.drop p.1).take (p.2 - p.1)).map dL)) O':=by
   show Res.ok (D.lst (Qbt (l.map dL) (some (p.1:Int)) (some (p.2:Int)))) O'=_;rw [Qki,List.map_take,List.map_drop]
  rw [QaQ (maS sl (ma1 (x:=.int w) rfl))]
  exact Qs2 _ w (by rw [List.length_take,List.length_drop]; omega) O')
 rw [zC] at ec;show QaK (Qhy [some (.lst (l.map dL)),some (room w y),none] O)=_;unfold Qhy;rw [sq (Qgi s1)];show QaK (Qax _ [some (.lst (l.map dL)),some (room w y),some (.lst (st.map dS))] O')=_;rw [QbY (Qf6 (Qcr (l:=st.map dS) rfl) (by rw [zd]; omega) rfl ec)];rfl
theorem Qqv:∀(l:List LT) (w:Int) (k:Nat),k≤l.length→wsum (l.take k)≤w→k≤QbO l w
 | _,_,0,_,_=>Nat.zero_le _
 | [],_,k+1,h,_=>absurd h (Nat.not_succ_le_zero _)
 | x::l,w,k+1,h,hs=>by
  rw [List.take_succ_cons,Qfk] at hs;have h0:=Qht (l.take k);unfold QbO;rw [if_pos (by omega)]
  have:=Qqv l (w - wid x.1) k (by rw [zz] at h; omega) (by omega)
  omega
theorem Qls (l:List LT):∀(k i:Nat) (x:LT),trn l k≤i→i < k→l[i]? = some x→x.1=32
 | 0,i,x,_,h,_=>absurd h (Nat.not_lt_zero _)
 | k+1,i,x,h1,h2,h3=>by
  rw [Qie] at h1;split at h1
  ·rename_i q
   by_cases hk:i=k
   ·subst hk;rw [h3] at q;simpa using q
   ·exact Qls l k i x h1 (by omega) h3
  ·omega
def Rs (l:List LT):Prop:=l.Pairwise fun a b=>a.2.2.2 < b.2.2.2
inductive Seg (w:Int):List LT→List (List LT)→Prop
 | nil:Seg w [] []
 | cons (x b r:List LT) (L:List (List LT)):x≠[]→(∀c∈b,c.1=32)→wsum x≤w→Seg w r L→Seg w (x++(b++r)) (x::L)
theorem Qpp {l:List LT}{w:Int} (hw:2≤w):∀(es:List Nat) (lo:Nat),ChE l w lo es→Seg w (l.drop lo) ((pr lo es).map (shw l w))
 | [],lo,h=>by
  have h':lo=l.length:=h;rw [h',List.drop_length];exact Seg.nil
 | e::es,lo,h=>by
  obtain ⟨h1,h2,h3,h4⟩:=h;have ih:=Qpp hw es e h4
  have sl:((l.drop lo).take (e - lo)).length=e - lo:=by rw [List.length_take,List.length_drop]; omega
  have sp:l.drop lo=(l.drop lo).take (e - lo)++l.drop e:=by
   conv=>lhs; rw [←List.take_append_drop (e - lo) (l.drop lo)]
   rw [List.drop_drop,show lo+(e - lo)=e by omega]
  obtain ⟨s,hs⟩:∃s,s=(l.drop lo).take (e - lo):=⟨_,rfl⟩;rw [←hs] at sl;have tl:=Qj4 (l.drop lo) (e - lo)
  have t1:trn (l.drop lo) (e - lo)≤QbO s w:=by
   refine Qqv s w _ (by omega) ?_;rw [hs,List.take_take,Nat.min_eq_left tl];exact h3
  have hne:s≠[]:=fun z=>by rw [z] at sl; rw [zU] at sl; omega
  have f1:=Qmq hne hw
  have e0:(pr lo (e::es)).map (shw l w)=s.take (QbO s w)::(pr e es).map (shw l w):=by
   show shw l w (lo,e)::(pr e es).map (shw l w)=_;unfold shw;rw [hs]
  rw [e0,sp,←hs,show s++l.drop e=s.take (QbO s w)++(s.drop (QbO s w)++l.drop e) by rw [←zX,List.take_append_drop]];refine Seg.cons _ _ _ _ ?_ (fun c hc=>?_) (QiW s w _ (by omega) (ze _)) ih
  ·intro z
   have:=congrArg List.length z
   rw [List.length_take,zU] at this;omega
  ·obtain ⟨i,hi⟩:=List.mem_iff_getElem?.mp hc;rw [List.getElem?_drop] at hi
   clear hc
   generalize QbO s w=f at hi t1 f1 ⊢
   have hlt:=(zk.mp hi).1;refine Qls (l.drop lo) (e - lo) (f+i) c (by omega) (by omega) ?_;rw [hs,List.getElem?_take_of_lt (by omega)] at hi;exact hi
def nb (l:List LT):List LT:=l.filter fun x=>!decide (x.1=32)
theorem QpJ (a b:List LT):nb (a++b)=nb a++nb b:=List.filter_append ..
theorem QrP {b:List LT} (h:∀c∈b,c.1=32):nb b = []:=by
 unfold nb;rw [List.filter_eq_nil_iff];intro c hc;rw [h c hc];decide
theorem Seg.nb {w:Int}{l:List LT}{L:List (List LT)} (h:Seg w l L):L.flatMap K64.nb=K64.nb l:=by
 induction h with
 | nil=>rfl
 | cons x b r L _ hb _ _ ih=>rw [List.flatMap_cons,ih,QpJ,QpJ,QrP hb,zC]
theorem Seg.sub {w:Int}{l:List LT}{L:List (List LT)} (h:Seg w l L):∀x∈L,x.Sublist l∧wsum x≤w:=by
 induction h with
 | nil=>intro x hx; exact nomatch hx
 | cons x b r L _ _ hw _ ih =>
  intro y hy
  rcases zt.mp hy with rfl | hy
  ·exact ⟨List.sublist_append_left _ _,hw⟩
  ·exact ⟨((ih y hy).1.trans (List.sublist_append_right b r)).trans (List.sublist_append_right _ _),(ih y hy).2⟩
def Qdm (w:Int) (l:List LT) (L:List (List LT)):Prop:=(l = []∧L = [[]])∨(l≠[]∧Seg w l L)
theorem QuU {l:List LT}{w:Int} (hw:2≤w) {st:List (Nat×Nat)} (h:Fo l w st):Qdm w l (st.map (shw l w)):=by
 rcases h with ⟨rfl,rfl⟩ | ⟨es,h1,rfl,h2⟩
 ·exact .inl ⟨rfl,rfl⟩
 ·have:=Qpp hw es 0 h2
  rw [List.drop_zero] at this;exact .inr ⟨h1,this⟩
theorem Qdm.nb {w:Int}{l:List LT}{L:List (List LT)} (h:Qdm w l L):L.flatMap K64.nb=K64.nb l:=by
 rcases h with ⟨rfl,rfl⟩ | ⟨_,h⟩
 ·rfl
 ·exact h.nb
theorem Qdm.sub {w:Int} (hw:0≤w) {l:List LT}{L:List (List LT)} (h:Qdm w l L):∀x∈L,x.Sublist l∧wsum x≤w:=by
 rcases h with ⟨rfl,rfl⟩ | ⟨_,h⟩
 ·intro x hx;rw [zy.mp hx];exact ⟨List.Sublist.refl _,hw⟩
 ·exact h.sub
theorem Qo0 (n k:Int) (h0:0≤k) (h1:k≤1000000) (O:Qac):Qb9 [.int n,.int k] O = .ok (.int (mix n k)) O:=Quq n k h0 h1 O
theorem Qj9 (ns:List Int) (k:Nat) (O:Qac):∃v,Qbc [.lst (ns.map D.int),.int (k:Int)] O = .ok (.int v) O:=by
 by_cases hk:(k:Int) < ns.length
 ·obtain ⟨x,hx,ex⟩:=QmN (xs:=ns.map D.int) (i:=(k:Int)) (by omega) (by simpa using hk);obtain ⟨n,_,rfl⟩:=zG.mp ex;exact ⟨n,by simp [Qbc,QdY,hk,Qj7,hx]⟩
 ·exact ⟨0,by simp [Qbc,QdY,hk]⟩
def Po (l:List LT):Prop:=∀(i:Nat) (x:LT),l[i]? = some x→7 * (i:Int)≤x.2.2.2∧x.2.2.2 < 7 * (i:Int)+7
theorem Po.rs {l:List LT} (h:Po l):Rs l:=by
 unfold Rs;rw [List.pairwise_iff_getElem];intro i j hi hj hij;have a:=h i _ (zo hi);have b:=h j _ (zo hj);omega
theorem QkX {a b:L2.M D}{ρ:Qal}{O:Qac}{i j:Int} (ha:a ρ O = .ok (.int i) O) (hb:b ρ O = .ok (.int j) O) (hj:0 < j∧j < 1073741824):Qaf QcX a b ρ O = .ok (.int (i / j)) O:=QaH ha hb (by rw [Qbg,Qbg,Qtf,if_pos hj])
def sgs:List Nat:=[97,98,32,120,65,32,32,66,90,99,32,91]
def QoO:MS:=(Qai (Qas 5 (Qau Qb9 (Qab (Qaa 0) (Qab (Qaf QaJ (Qaa 2) (Qaa 4)) Qae))))
  (Qai (Qas 6 (Qaf gIx (mC (.str sgs)) (Qaf QbA (Qaa 5) (mC (.int 12)))))
  (Qcs 3 (QbS (Qab (Qaa 6) (Qab (Qaf gIx (mC (.str [97,98,46])) (Qaf QbA (Qaf QcX (Qaa 5) (mC (.int 12))) (mC (.int 3)))) (Qab (Qaf gIx (mC (.str [104,46])) (Qaf QbA (Qaf QcX (Qaa 5) (mC (.int 36))) (mC (.int 2)))) (Qab (Qaf QaJ (Qaf QdH (mC (.int 7)) (Qaa 4)) (Qaf QbA (Qaf QcX (Qaa 5) (mC (.int 72))) (mC (.int 7)))) Qae))))))))
def eT (c:Int) (n:Nat) (l:List LT) (o4 o5 o6:Option D):Qal:=[some (.int c),some (.int (n:Int)),some (.int 12),some (.lst (l.map dL)),o4,o5,o6]
theorem QtK (c:Int) (n:Nat) (l:List LT) (hl:l.length≤1000) (hok:∀x∈l,OkL x) (hp:Po l) (o5 o6:Option D) (O:Qac):∃x o5' o6',QoO (eT c n l (some (.int (0+(l.length:Int)))) o5 o6) O = .nx (eT c n (l ++ [x]) (some (.int (0+(l.length:Int)))) o5' o6') O∧(∀y∈l ++ [x],OkL y)∧Po (l ++ [x]):=by
 have em:=Qo0 c (12+(0+(l.length:Int))) (by omega) (by omega) O
 generalize mix c (12+(0+(l.length:Int)))=m at em
 obtain ⟨c1,h1,i1⟩:=ixS (l:=sgs) (v:=m) (n:=12) (by decide) rfl (by decide);obtain ⟨c2,h2,i2⟩:=ixS (l:=[97,98,46]) (v:=m / 12) (n:=3) (by decide) rfl (by decide);obtain ⟨c3,h3,i3⟩:=ixS (l:=[104,46]) (v:=m / 36) (n:=2) (by decide) rfl (by decide);have s5:Qau Qb9 (Qab (Qaa 0) (Qab (Qaf QaJ (Qaa 2) (Qaa 4)) Qae)) (eT c n l (some (.int (0+(l.length:Int)))) o5 o6) O = .ok (.int m) O:=(QaQ (maS rfl (ma1 (QgH (i:=12) rfl rfl)))).trans em;have g7:Qaf QdH (mC (.int 7)) (Qaa 4) (eT c n l (some (.int (0+(l.length:Int)))) (some (.int m)) (some (.str [c1]))) O = .ok (.int (7 * (0+(l.length:Int)))) O:=QaH rfl rfl Qtu
 refine ⟨(c1,c2,c3,7 * (0+(l.length:Int))+m / 72 % 7),some (.int m),some (.str [c1]),?_,?_,?_⟩
 ·unfold QoO;rw [sq (QaO s5)];show Qai _ _ (eT c n l (some (.int (0+(l.length:Int)))) (some (.int m)) o6) O=_;rw [sq (QaO (QaH (x:=.str sgs) rfl (QeB (i:=m) rfl rfl (by decide)) i1))];show Qcs 3 _ (eT c n l (some (.int (0+(l.length:Int)))) (some (.int m)) (some (.str [c1]))) O=_;rw [QjX (ds:=l.map dL) (QkK (maS (x:=.str [c1]) rfl (maS (QaH (x:=.str [97,98,46]) rfl (QeB (QkX (i:=m) rfl rfl (by decide)) rfl (by decide)) i2) (maS (QaH (x:=.str [104,46]) rfl (QeB (QkX (i:=m) rfl rfl (by decide)) rfl (by decide)) i3) (ma1 (QgH g7 (QeB (QkX (i:=m) rfl rfl (by decide)) rfl (by decide))))))) (show (4:Nat)≤1000000 by decide)) rfl (by rw [zd]; omega)]
  unfold eT;rw [zM];rfl
 ·intro y hy
  rcases zJ.mp hy with hy | hy
  ·exact hok y hy
  ·rw [zy.mp hy]
   have k1:∀c∈sgs,32≤c∧c≤125:=by decide
   have k2:∀c∈[97,98,46],c≤125:=by decide
   have k3:∀c∈[104,46],c≤125:=by decide
   exact ⟨k1 c1 h1,k2 c2 h2,k3 c3 h3⟩
 ·intro i x hx;have q0:=ja (m / 72) (show (7:Int)≠0 by decide);have q1:=jb (m / 72) (show (0:Int) < 7 by decide)
  by_cases hi:i < l.length
  ·rw [zB hi] at hx;exact hp i x hx
  ·have hlt:=(zk.mp hx).1;rw [zn,zS] at hlt;rw [zL (by omega),show i - l.length=0 by omega] at hx;cases hx
   have:i=l.length:=by omega
   subst this;show 7 * (l.length:Int)≤7 * (0+(l.length:Int))+m / 72 % 7∧7 * (0+(l.length:Int))+m / 72 % 7 < 7 * (l.length:Int)+7;omega
structure Rw (l:List LT):Prop where
 le:l.length≤8
 ok:∀x∈l,OkL x
 po:Po l
theorem Qk6 (c:Int) (n:Nat) (hn:n≤8) (O:Qac):∃l,Rw l∧Qcb [.int c,.int (n:Int),.int 12] O = .ok (.lst (l.map dL)) O:=by
 obtain ⟨ρ',O',e,rfl,l,o4,o5,o6,rfl,h1,h2,h3⟩:=Qdf (g:=mgN 4) (b:=QoO)
  (fun i ρ O'=>O'=O∧∃l o4 o5 o6,ρ=eT c n l o4 o5 o6∧l.length=i∧(∀x∈l,OkL x)∧Po l) (Qbp 0 n) 0
  (eT c n [] none none none) O ⟨rfl,[],none,none,none,rfl,rfl,fun x hx=>(nomatch hx),fun i x hx=>(by simp at hx)⟩ (by
   rintro i d ρ O' hi ⟨rfl,l,o4,o5,o6,rfl,h1,h2,h3⟩;obtain ⟨hi',rfl⟩:=QkA hi;obtain ⟨x,o5',o6',e,k1,k2⟩:=QtK c n l (by omega) h2 h3 o5 o6 O';rw [h1] at e;rw [zZ] at e
   exact ⟨_,rfl,_,_,.inl e,rfl,l ++ [x],_,o5',o6',rfl,by rw [zn,zS]; omega,k1,k2⟩)
 rw [QfV,zZ] at h1;refine ⟨l,⟨by omega,h2,h3⟩,?_⟩;unfold QoO sgs at e;show QaK (QdX [some (.int c),some (.int (n:Int)),some (.int 12),none,none,none,none] O')=_;unfold QdX;rw [sq (QaO (d:=.lst []) (QhE rfl (Nat.zero_le _)))];show QaK (Qai (Qbl _ _ _) _ (eT c n [] none none none) O')=_;rw [QaS,Qc1,Qp0 (n:=n) rfl (by omega),Qcw,e,QaL];rfl
abbrev Pt2:=List LT×List Nat
def dP (p:Pt2):D:=.tup [.lst (p.1.map dL),.str p.2]
def Qos:MS:=(Qai (Qas 4 (Qau Qbc (Qab (Qaa 0) (Qab (Qaf QaJ (mC (.int 4)) (Qaa 3)) Qae))))
  (Qai (Qas 5 (Qaf gIx (Qbn (Qab (mC (.str [119,104,111,108,101])) (Qab (mC (.str [109,111,114,101])) Qae))) (Qaf QbA (Qau Qb9 (Qab (Qaa 4) (Qab (mC (.int 9)) Qae))) (mC (.int 2)))))
  (Qcs 2 (QbS (Qab (Qau Qcb (Qab (Qaa 4) (Qab (Qaf QbA (Qau Qb9 (Qab (Qaa 4) (Qab (mC (.int 10)) Qae))) (Qaf QaJ (Qaa 1) (mC (.int 1)))) (Qab (mC (.int 12)) Qae)))) (Qab (Qaa 5) Qae))))))
def eP (ns:List Int) (ps:List Pt2) (o3 o4 o5:Option D):Qal:=[some (.lst (ns.map D.int)),some (.int 8),some (.lst (ps.map dP)),o3,o4,o5]
theorem Qsw (ns:List Int) (ps:List Pt2) (hl:ps.length≤1000) (hr:∀p∈ps,Rw p.1) (i:Nat) (o4 o5:Option D) (O:Qac):∃p o4' o5',Qos (eP ns ps (some (.int (0+(i:Int)))) o4 o5) O = .nx (eP ns (ps ++ [p]) (some (.int (0+(i:Int)))) o4' o5') O∧∀q∈ps ++ [p],Rw q.1:=by
 obtain ⟨v,ev⟩:=Qj9 ns (4+i) O;have m9:=Qo0 v 9 (by decide) (by decide) O;have m10:=Qo0 v 10 (by decide) (by decide) O;have q0:=ja (mix v 10) (show (8+1:Int)≠0 by decide);have q1:=jb (mix v 10) (show (0:Int) < 8+1 by decide);obtain ⟨n,hn⟩:=Int.eq_ofNat_of_zero_le q0;obtain ⟨l,hl2,el⟩:=Qk6 v n (by omega) O;obtain ⟨c,hc,ec⟩:=ixL (l:=[.str [119,104,111,108,101],.str [109,111,114,101]]) (v:=mix v 9) (n:=2) rfl (by decide)
 obtain ⟨t,rfl⟩:∃t,c = .str t:=by
  simp only [zt,List.not_mem_nil,or_false] at hc
  rcases hc with rfl | rfl
  ·exact ⟨_,rfl⟩
  ·exact ⟨_,rfl⟩
 have s4:Qau Qbc (Qab (Qaa 0) (Qab (Qaf QaJ (mC (.int 4)) (Qaa 3)) Qae)) (eP ns ps (some (.int (0+(i:Int)))) o4 o5) O = .ok (.int v) O:=by
  rw [QaQ (maS (x:=.lst (ns.map D.int)) rfl (ma1 (x:=.int ((4+i:Nat):Int)) ((QgH (i:=4) (j:=0+(i:Int)) rfl rfl).trans (by rw [show (4:Int)+(0+(i:Int))=((4+i:Nat):Int) by omega]))))];exact ev
 have s5:Qaf gIx (Qbn (Qab (mC (.str [119,104,111,108,101])) (Qab (mC (.str [109,111,114,101])) Qae))) (Qaf QbA (Qau Qb9 (Qab (Qaa 4) (Qab (mC (.int 9)) Qae))) (mC (.int 2))) (eP ns ps (some (.int (0+(i:Int)))) (some (.int v)) o5) O = .ok (.str t) O :=
  QaH (QhE (maS rfl (ma1 rfl)) (by decide)) (QeB ((QaQ (maS (x:=.int v) rfl (ma1 (x:=.int 9) rfl))).trans m9) rfl (by decide)) ec
 have sl:Qau Qcb (Qab (Qaa 4) (Qab (Qaf QbA (Qau Qb9 (Qab (Qaa 4) (Qab (mC (.int 10)) Qae))) (Qaf QaJ (Qaa 1) (mC (.int 1)))) (Qab (mC (.int 12)) Qae))) (eP ns ps (some (.int (0+(i:Int)))) (some (.int v)) (some (.str t))) O = .ok (.lst (l.map dL)) O:=by
  rw [QaQ (maS (x:=.int v) rfl (maS (x:=.int (n:Int)) ((QeB ((QaQ (maS (x:=.int v) rfl (ma1 (x:=.int 10) rfl))).trans m10) (QgH (i:=8) (j:=1) rfl rfl) (by decide)).trans (by rw [hn])) (ma1 (x:=.int 12) rfl)))];exact el
 refine ⟨(l,t),some (.int v),some (.str t),?_,fun q hq=>?_⟩
 ·unfold Qos;rw [sq (QaO s4)];show Qai _ _ (eP ns ps (some (.int (0+(i:Int)))) (some (.int v)) o5) O=_;rw [sq (QaO s5)];show Qcs 2 _ (eP ns ps (some (.int (0+(i:Int)))) (some (.int v)) (some (.str t))) O=_;rw [QjX (ds:=ps.map dP) (QkK (maS sl (ma1 (x:=.str t) rfl)) (show (2:Nat)≤1000000 by decide)) rfl (by rw [zd]; omega)];unfold eP;rw [zM];rfl
 ·rcases zJ.mp hq with hq | hq
  ·exact hr q hq
  ·rw [zy.mp hq];exact hl2
theorem QsB (ns:List Int) (O:Qac):∃ps:List Pt2,ps.length≤4∧(∀p∈ps,Rw p.1)∧Qff [.lst (ns.map D.int),.int 8] O = .ok (.lst (ps.map dP)) O:=by
 obtain ⟨v,ev⟩:=Qj9 ns 2 O;have q0:=ja v (show (5:Int)≠0 by decide);have q1:=jb v (show (0:Int) < 5 by decide);obtain ⟨n,hn⟩:=Int.eq_ofNat_of_zero_le q0;obtain ⟨ρ',O',e,rfl,ps,o3,o4,o5,rfl,h1,h2⟩:=Qdf (g:=mgN 3) (b:=Qos)
  (fun i ρ O'=>O'=O∧∃ps o3 o4 o5,ρ=eP ns ps o3 o4 o5∧ps.length=i∧∀p∈ps,Rw p.1) (Qbp 0 n) 0
  (eP ns [] none none none) O ⟨rfl,[],none,none,none,rfl,rfl,fun x hx=>(nomatch hx)⟩ (by
   rintro i d ρ O' hi ⟨rfl,ps,o3,o4,o5,rfl,h1,h2⟩;obtain ⟨hi',rfl⟩:=QkA hi;obtain ⟨p,o4',o5',e,k1⟩:=Qsw ns ps (by omega) h2 i o4 o5 O'
   exact ⟨_,rfl,_,_,.inl e,rfl,ps ++ [p],_,o4',o5',rfl,by rw [zn,zS]; omega,k1⟩)
 rw [QfV,zZ] at h1;refine ⟨ps,by omega,h2,?_⟩;have sm:Qaf QbA (Qau Qbc (Qab (Qaa 0) (Qab (mC (.int 2)) Qae))) (mC (.int 5)) (eP ns [] none none none) O' = .ok (.int (n:Int)) O' :=
  (QeB ((QaQ (maS (x:=.lst (ns.map D.int)) rfl (ma1 (x:=.int 2) rfl))).trans ev) rfl (by decide)).trans (by rw [hn])
 unfold Qos at e;show QaK (Qfa [some (.lst (ns.map D.int)),some (.int 8),none,none,none,none] O')=_;unfold Qfa;rw [sq (QaO (d:=.lst []) (QhE rfl (Nat.zero_le _)))];show QaK (Qai (Qbl _ _ _) _ (eP ns [] none none none) O')=_;rw [QaS,Qc1,Qp0 (n:=n) sm (by omega),Qcw,e,QaL];rfl
def dW (x:List LT):D:=.lst (x.map dL)
theorem QlS {α:Type}{g:MG}{t:L2.M Bool}{m:L2.M D} (Pv:Qal→Prop) (f:α→D) {β:Type} (h:β→D) (R:α→β→Prop):∀(xs:List α) (ρ:Qal) (O:Qac) (acc:List D),Pv ρ→(∀x∈xs,∀ρ O,Pv ρ→∃ρ1 y O',g (f x) ρ=some ρ1∧Pv ρ1∧t ρ1 O = .ok true O∧m ρ1 O = .ok (h y) O'∧R x y)→∃(zs:List (α×β)) (O':Qac),QbC g t m (xs.map f) ρ O acc = .ok (acc++zs.map fun z=>h z.2) O'∧zs.map (·.1)=xs∧∀z∈zs,R z.1 z.2
 | [],ρ,O,acc,_,_=>⟨[],O,by simp [QbC],rfl,fun z hz=>(nomatch hz)⟩
 | x::xs,ρ,O,acc,hp,hs=>by
  obtain ⟨ρ1,y,O1,e1,h1,e2,e3,r⟩:=hs x zm ρ O hp
  obtain ⟨zs,O',e4,e5,e6⟩:=QlS Pv f h R xs ρ1 O1 (acc ++ [h y]) h1 fun d' hd'=>hs d' (zx _ hd')
  refine ⟨(x,y)::zs,O',?_,by rw [zf,e5],fun z hz=>?_⟩
  ·rw [zf];unfold QbC;rw [e1];dsimp only;rw [e2];dsimp only;rw [e3];dsimp only;rw [e4,zf,zX];rfl
  ·rcases zt.mp hz with rfl | hz
   ·exact r
   ·exact e6 z hz
theorem Qn4 {α:Type} (l:List α):Qbt l (some (-12)) none=l.drop (l.length - 12):=by
 unfold Qbt;rw [HT.sIx_none]
 have h:HT.sIx l.length 0 (some (-12))=l.length - 12:=by
  simp [HT.sIx]
  try omega
 rw [h,List.take_of_length_le (by rw [List.length_drop]; omega)]
theorem QeZ {m:L2.M (List D)}{own:Nat}{cap:List Nat}{g:MG}{t:L2.M Bool}{e:L2.M D}{ρ ρ0:Qal}{O O1:Qac}{ds ys:List D} (h:m ρ O = .ok ds O) (hl:ds.length≤1000000) (h0:QhC own cap ρ=ρ0) (hc:QbC g t e ds ρ0 O [] = .ok ys O1):Qbm m own cap g t e ρ O = .ok (.lst ys) O1:=by
 rw [QlX,h,Qaq,if_pos hl,h0,hc,Qaq]
def dLs (L:List (List LT)):D:=.lst (L.map dW)
def l12 (A:List (List LT)):List (List LT):=A.drop (A.length - 12)
theorem Qlj (l:List LT) (w:Int) {y:List Nat} (hy:Wy3 y) (hl:l.length≤40) (hw:2≤w∧w≤40) (O:Qac):∃O' L,Qdo [.lst (l.map dL),room w y] O = .ok (dLs L) O'∧Qdm w l L∧L.length≤1000:=by
 obtain ⟨O',st,e,F,hs⟩:=Qrz l w hy hl hw O;refine ⟨O',st.map (shw l w),?_,QuU hw.1 F,by rw [zd]; exact hs⟩;rw [e];unfold dLs;rw [zW];rfl
def eA (F R rm:D) (acc:List (List LT)) (o4:Option D):Qal:=[some F,some R,some rm,some (.lst (acc.map dW)),o4]
theorem QmS (F R rm:D) (O:Qac):∀(Ls:List (List (List LT))) (acc:List (List LT)) (o4:Option D),(∀L∈Ls,L.length≤1000)→acc.length+1000 * Ls.length≤1000000 →
  ∃o4',QaZ (mgN 4) (Qe9 3 (Qaa 4)) (Ls.map dLs) (eA F R rm acc o4) O = .nx (eA F R rm (acc++Ls.flatten) o4') O
 | [],acc,o4,_,_=>⟨o4,by rw [List.flatten_nil,zO]; rfl⟩
 | L::Ls,acc,o4,h,hl=>by
  have h1:=h L zm;rw [zz] at hl;obtain ⟨o4',e⟩:=QmS F R rm O Ls (acc++L) (some (dLs L)) (fun x hx=>h x (zx _ hx)) (by rw [zn]; omega);refine ⟨o4',?_⟩;rw [zf];unfold QaZ;rw [show mgN 4 (dLs L) (eA F R rm acc o4)=some (eA F R rm acc (some (dLs L))) from rfl];dsimp only
  have ex:Qe9 3 (Qaa 4) (eA F R rm acc (some (dLs L))) O = .nx (eA F R rm (acc++L) (some (dLs L))) O:=by
   rw [Qp4];show exF 3 (.ok (.lst (L.map dW)) O) _=_;rw [Qp6 (ds:=acc.map dW) rfl (by rw [zd,zd]; omega)];unfold eA;rw [zM];rfl
  rw [ex];dsimp only;rw [e,List.flatten_cons,zX]
theorem Qri (A:List (List LT)) (O:Qac):QbC (mgN 0) QbW (Qav Qcg (Qab (Qaa 0) Qae)) (A.map dW) [none] O [] = .ok (A.map dW) O:=by
 have ec:=Qb4 (g:=mgN 0) (t:=QbW) (m:=Qav Qcg (Qab (Qaa 0) Qae)) (fun ρ=>∃a,ρ = [a]) dW dW A [none] O [] ⟨_,rfl⟩ (by
  rintro x _ ρ ⟨a,rfl⟩
  exact ⟨_,rfl,⟨_,rfl⟩,rfl,Qhg (d:=dW x) rfl rfl⟩)
 rwa [zC] at ec
theorem Qun (Ls:List (List (List LT))) (hL:∀L∈Ls,L.length≤1000) (hn:Ls.length≤100) (row:List LT) (w:Int) {y:List Nat} (hy:Wy3 y) (hl:row.length≤40) (hw:2≤w∧w≤40) (O:Qac) :
  ∃O' E,Qdi [.lst (Ls.map dLs),.lst (row.map dL),room w y] O = .ok (dLs (l12 (Ls.flatten++E))) O'∧((row = []∧E = [])∨(row≠[]∧Qdm w row E)):=by
 obtain ⟨o4,e⟩:=QmS (.lst (Ls.map dLs)) (.lst (row.map dL)) (room w y) O Ls [] none hL (by rw [zU]; omega);rw [zC] at e
 have fl:Ls.flatten.length≤1000 * Ls.length:=by
  clear e hn
  induction Ls with
  | nil=>exact ze _
  | cons L Ls ih =>
   have:=hL L zm
   have:=ih fun x hx=>hL x (zx _ hx)
   rw [List.flatten_cons,zn,zz];omega
 have t:=QlJ (a:=mC (.int 0)) (i:=0) rfl (QcO (m:=Qaa 1) (ρ:=eA (.lst (Ls.map dLs)) (.lst (row.map dL)) (room w y) Ls.flatten o4) (O:=O) (l:=row.map dL) rfl);have t':Qat (Qaf gGt (Qav Qa4 (Qab (Qaa 1) Qae)) (mC (.int 0))) (eA (.lst (Ls.map dLs)) (.lst (row.map dL)) (room w y) Ls.flatten o4) O = .ok (decide ((0:Int) < (row.map dL).length)) O :=
  QbJ (QaH (QcO (m:=Qaa 1) (l:=row.map dL) rfl) rfl Qhz)
 rw [zd] at t'
 have fin:∀(O':Qac) (A:List (List LT)),A.length≤1000000→Qax (Qbm (Qba (mSl (Qaa 3) (moS (mUn QeP (Qaf gIx (Qaa 2) (mC (.int 3))))) moN)) 1 [] (mgN 0) QbW (Qav Qcg (Qab (Qaa 0) Qae))) (eA (.lst (Ls.map dLs)) (.lst (row.map dL)) (room w y) A o4) O' = .rt (dLs (l12 A)) O':=fun O' A hA=>by
  have sl:mSl (Qaa 3) (moS (mUn QeP (Qaf gIx (Qaa 2) (mC (.int 3))))) moN (eA (.lst (Ls.map dLs)) (.lst (row.map dL)) (room w y) A o4) O' = .ok (.lst ((l12 A).map dW)) O':=by
   show Res.ok (D.lst (Qbt (A.map dW) (some (-12)) none)) O'=_;rw [Qn4,zd,←List.map_drop];rfl
  exact QbY (QeZ (Qcr sl) (by rw [zd]; unfold l12; rw [List.length_drop]; omega) rfl (Qri (l12 A) O'))
 have pre:∀X,QaK (Qai (QaV (Qat (Qaf gGt (Qav Qa4 (Qab (Qaa 1) Qae)) (mC (.int 0)))) (Qe9 3 (Qau Qdo (Qab (Qaa 1) (Qab (Qaa 2) Qae)))) QaP)
  (Qax (Qbm (Qba (mSl (Qaa 3) (moS (mUn QeP (Qaf gIx (Qaa 2) (mC (.int 3))))) moN)) 1 [] (mgN 0) QbW (Qav Qcg (Qab (Qaa 0) Qae)))) (eA (.lst (Ls.map dLs)) (.lst (row.map dL)) (room w y) Ls.flatten o4) O)=X→Qdi [.lst (Ls.map dLs),.lst (row.map dL),room w y] O=X:=fun X h=>by
  rw [←h];show QaK (QeA [some (.lst (Ls.map dLs)),some (.lst (row.map dL)),some (room w y),none,none] O)=_;unfold QeA;rw [sq (QaO (d:=.lst []) (QhE rfl (Nat.zero_le _)))];show QaK (Qai (Qbl _ _ _) _ (eA (.lst (Ls.map dLs)) (.lst (row.map dL)) (room w y) [] none) O)=_;rw [QaS,Qc1,Qcr (l:=Ls.map dLs) rfl,Qcw,e,QaL]
 by_cases h0:row = []
 ·refine ⟨O,[],pre _ ?_,.inl ⟨h0,rfl⟩⟩
  have hz:row.length=0:=by rw [h0]; rfl
  rw [QaS,if_no (by rw [t',zh (by omega)]),QbR,QaL,zO,fin O _ (by omega)];rfl
 ·obtain ⟨O',E,e1,r1,hE⟩:=Qlj row w hy hl hw O;have hpos:0 < row.length:=List.length_pos_iff.mpr h0;refine ⟨O',E,pre _ ?_,.inr ⟨h0,r1⟩⟩
  have ex:Qe9 3 (Qau Qdo (Qab (Qaa 1) (Qab (Qaa 2) Qae))) (eA (.lst (Ls.map dLs)) (.lst (row.map dL)) (room w y) Ls.flatten o4) O = .nx (eA (.lst (Ls.map dLs)) (.lst (row.map dL)) (room w y) (Ls.flatten++E) o4) O':=by
   rw [Qp4,QaQ (maS (x:=.lst (row.map dL)) rfl (ma1 (x:=room w y) rfl)),e1];show exF 3 (.ok (.lst (E.map dW)) O') _=_;rw [Qp6 (ds:=Ls.flatten.map dW) rfl (by rw [zd,zd]; omega)];unfold eA;rw [zM];rfl
  rw [QaS,Qev (by rw [t',zq (by omega)]),ex,QaL,fin O' _ (by rw [zn]; omega)];rfl
theorem QsM (ps:List Pt2) (hps:ps.length≤4) (hr:∀p∈ps,Rw p.1) (row:List LT) (w:Int) {y:List Nat} (hy:Wy3 y) (hl:Rw row) (hw:2≤w∧w≤40) (O:Qac) :
  ∃(O':Qac) (zs:List (List LT×List (List LT))),Qeh [.lst (ps.map dP),.lst (row.map dL),room w y] O = .ok (dLs (l12 (zs.flatMap fun z=>z.2))) O'∧zs.map (fun z=>z.1)=ps.map (fun p=>p.1)++(if row = [] then [] else [row])∧∀z∈zs,Qdm w z.1 z.2:=by
 obtain ⟨zs,O1,e,z1,z2⟩:=QlS (g:=mgN 0) (t:=QbW) (m:=Qau Qdo (Qab (Qaf gIx (Qaa 0) (mC (.int 0))) (Qab (Qaa 1) Qae))) (fun ρ=>∃a,ρ = [a,some (room w y)]) dP dLs (fun p L=>Qdm w p.1 L∧L.length≤1000) ps [none,some (room w y)] O [] ⟨_,rfl⟩ (by
  rintro p hp ρ O ⟨a,rfl⟩;obtain ⟨O',L,e,r,hL⟩:=Qlj p.1 w hy (by have:=(hr p hp).le; omega) hw O;refine ⟨_,L,O',rfl,⟨_,rfl⟩,rfl,?_,r,hL⟩;rw [QaQ (maS (x:=.lst (p.1.map dL)) rfl (ma1 (x:=room w y) rfl))]
  exact e)
 rw [zC] at e
 have hz:zs.length≤4:=by
  have:=congrArg List.length z1
  rw [zd] at this;omega
 obtain ⟨O2,E,e2,hE⟩:=Qun (zs.map fun z=>z.2) (fun L hL=>by
  obtain ⟨z,hz,rfl⟩:=zG.mp hL
  exact (z2 z hz).2) (by rw [zd]; omega) row w hy (by have:=hl.le; omega) hw O1
 have sl:mSl (Qaa 0) (moS (mUn QeP (Qaf gIx (Qaa 2) (mC (.int 3))))) moN [some (.lst (ps.map dP)),some (.lst (row.map dL)),some (room w y),none] O = .ok (.lst (ps.map dP)) O:=by
  show Res.ok (D.lst (Qbt (ps.map dP) (some (-12)) none)) O=_;rw [Qn4,zd,show ps.length - 12=0 by omega,List.drop_zero]
 have s3:=QeZ (own:=1) (cap:=[2]) (ρ:=[some (.lst (ps.map dP)),some (.lst (row.map dL)),some (room w y),none]) (Qcr sl) (by rw [zd]; omega) (ρ0:=[none,some (room w y)]) rfl e
 have go:Qeh [.lst (ps.map dP),.lst (row.map dL),room w y] O = .ok (dLs (l12 ((zs.map fun z=>z.2).flatten++E))) O2:=by
  show QaK (QfP [some (.lst (ps.map dP)),some (.lst (row.map dL)),some (room w y),none] O)=_;unfold QfP;rw [sq (Qgi s3)];show QaK (Qax _ [some (.lst (ps.map dP)),some (.lst (row.map dL)),some (room w y),some (.lst (zs.map fun z=>dLs z.2))] O1)=_
  have e2':Qdi [.lst (zs.map fun z=>dLs z.2),.lst (row.map dL),room w y] O1 = .ok (dLs (l12 ((zs.map fun z=>z.2).flatten++E))) O2:=by
   rw [←e2,zW];rfl
  rw [QbY ((QaQ (maS (x:=.lst (zs.map fun z=>dLs z.2)) rfl (maS (x:=.lst (row.map dL)) rfl (ma1 (x:=room w y) rfl)))).trans e2')];rfl
 refine ⟨O2,(zs.map fun z=>(z.1.1,z.2))++(if row = [] then [] else [(row,E)]),?_,?_,?_⟩
 ·rw [go];congr 3;rw [List.flatMap_append,List.flatMap_map]
  rcases hE with ⟨h,rfl⟩ | ⟨h,_⟩
  ·rw [if_pos h,List.flatMap_nil,zO,zO];rfl
  ·rw [if_neg h,List.flatMap_singleton];rfl
 ·rw [zM,zW,←z1,zW]
  rcases hE with ⟨h,_⟩ | ⟨h,_⟩
  ·rw [if_pos h,if_pos h];rfl
  ·rw [if_neg h,if_neg h];rfl
 ·intro z hz
  rcases zJ.mp hz with hz | hz
  ·obtain ⟨q,hq,rfl⟩:=zG.mp hz;exact (z2 q hq).1
  ·rcases hE with ⟨h,_⟩ | ⟨h,r⟩
   ·rw [if_pos h] at hz;exact nomatch hz
   ·rw [if_neg h] at hz;rw [zy.mp hz];exact r
theorem Qry (l:List LT) (hl:l.length≤1000) (O:Qac):QdK [dW l] O = .ok (.int (wsum l)) O:=by
 have ec:=Qb4 (g:=mgN 0) (t:=QbW) (m:=Qaf QaJ (mC (.int 1)) (Qav QkZ (Qab (Qeg gLe gLe (mC (.str [65])) (Qaf gIx (Qaa 0) (mC (.int 0))) (mC (.str [90]))) Qae))) (fun ρ=>∃a,ρ = [a]) dL (fun x=>D.int (wid x.1)) l [none] O [] ⟨_,rfl⟩ (by
  rintro x hx ρ ⟨a,rfl⟩;refine ⟨_,rfl,⟨_,rfl⟩,rfl,?_⟩
  by_cases h1:65≤x.1 <;> by_cases h2:x.1≤90 <;> simp [dL,wid,h1,h2])
 rw [zC] at ec;have gs:=QmD (fun x:LT=>wid x.1) l (fun x _=>Qss _) (by omega);show QaK (Qfd [some (dW l)] O)=_;unfold Qfd;rw [QbY (QeH (z:=.int (wsum l)) (ma1 (QeZ (Qcr (l:=l.map dL) rfl) (by rw [zd]; omega) rfl ec)) gs)];rfl
def Qov:MS:=(Qas 1 (Qaf QaJ (Qaa 1) (Qbm (Qba (Qaa 2)) 1 [] (mgN 0) (Qat (Qaf gNe (Qaf gIx (Qaa 0) (mC (.int 0))) (mC (.str [32])))) (Qaa 0))))
theorem QnH (X:D) (O:Qac):∀(L:List (List LT)) (acc:List LT) (o2:Option D),(∀l∈L,l.length≤1000)→acc.length+1000 * L.length≤1000000 →
  ∃o2',QaZ (mgN 2) Qov (L.map dW) [some X,some (dW acc),o2] O = .nx [some X,some (dW (acc++L.flatMap nb)),o2'] O
 | [],acc,o2,_,_=>⟨o2,by rw [List.flatMap_nil,zO]; rfl⟩
 | l::L,acc,o2,h,hl=>by
  have h1:=h l zm;rw [zz] at hl;have nl:(nb l).length≤l.length:=List.length_filter_le _ _;obtain ⟨o2',e⟩:=QnH X O L (acc++nb l) (some (dW l)) (fun x hx=>h x (zx _ hx)) (by rw [zn]; omega);refine ⟨o2',?_⟩;rw [zf];unfold QaZ;rw [show mgN 2 (dW l) [some X,some (dW acc),o2]=some [some X,some (dW acc),some (dW l)] from rfl];dsimp only
  have ec:=QdZ (g:=mgN 0) (t:=Qat (Qaf gNe (Qaf gIx (Qaa 0) (mC (.int 0))) (mC (.str [32])))) (m:=Qaa 0) (fun ρ=>∃a,ρ = [a]) (fun x:LT=>!decide (x.1=32)) dL l [none] O [] ⟨_,rfl⟩ (by
   rintro x _ ρ ⟨a,rfl⟩;refine ⟨_,rfl,⟨_,rfl⟩,?_,rfl⟩
   by_cases hx:x.1=32 <;> simp [dL,hx])
  rw [zC] at ec;have sc:=QeZ (own:=1) (cap:=[]) (ρ:=[some X,some (dW acc),some (dW l)]) (Qcr (m:=Qaa 2) (l:=l.map dL) rfl) (by rw [zd]; omega) rfl ec
  have sb:Qov [some X,some (dW acc),some (dW l)] O = .nx [some X,some (dW (acc++nb l)),some (dW l)] O:=by
   unfold Qov
   rw [QaO (QaH (x:=dW acc) (z:=dW (acc++nb l)) rfl sc (by
    show QaJ (.lst (acc.map dL)) (.lst ((nb l).map dL))=_;rw [QmB,if_pos (by rw [zd,zd]; omega),←zM]
    rfl))]
   rfl
  rw [sb];dsimp only;rw [e,List.flatMap_cons,zX]
theorem Qoa (L:List (List LT)) (h:∀l∈L,l.length≤1000) (hl:L.length≤900) (O:Qac):Qck [dLs L] O = .ok (dW (L.flatMap nb)) O:=by
 obtain ⟨o2,e⟩:=QnH (dLs L) O L [] none h (by rw [zU]; omega);rw [zC] at e;unfold Qov at e;show QaK (Qfi [some (dLs L),none,none] O)=_;unfold Qfi;rw [sq (QaO (d:=.lst []) (QhE rfl (Nat.zero_le _)))];show QaK (Qai (Qbl _ _ _) _ [some (dLs L),some (dW []),none] O)=_;rw [QaS,Qc1,Qcr (l:=L.map dW) rfl,Qcw,e,QaL];rfl
def QoS:MS:=(QaV (Qat (Qaf gGe (Qaf gIx (Qaf gIx (Qaa 1) (Qaf QdQ (Qaa 2) (mC (.int 1)))) (mC (.int 3))) (Qaf gIx (Qaf gIx (Qaa 1) (Qaa 2)) (mC (.int 3))))) (Qax (mC (.bl false))) QaP)
theorem QtV (X:D) (l:List LT) (hr:Rs l) (hl:l.length≤1000) (o2:Option D) (O:Qac):∃o2',Qbl (QgD (Qab (mC (.int 1)) (Qab (Qav Qa4 (Qab (Qaa 1) Qae)) Qae))) (mgN 2) QoS [some X,some (dW l),o2] O = .nx [some X,some (dW l),o2'] O:=by
 obtain ⟨ρ',O',e,rfl,o2',rfl⟩:=Qdf (g:=mgN 2) (b:=QoS) (fun _ ρ O'=>O'=O∧∃o2,ρ = [some X,some (dW l),o2]) (Qbp 1 ((l.length:Int) - 1).toNat) 0 [some X,some (dW l),o2] O ⟨rfl,_,rfl⟩ (by
  rintro i d ρ O' hi ⟨rfl,o2,rfl⟩;obtain ⟨hi',rfl⟩:=QkA hi;refine ⟨_,rfl,_,_,.inl ?_,rfl,some (.int (1+(i:Int))),rfl⟩;have h1:=zo (show i < l.length by omega);have h2:=zo (show i+1 < l.length by omega);have lt:=List.pairwise_iff_getElem.mp hr i (i+1) (by omega) (by omega) (jc _)
  generalize l[i]=a at h1 lt
  generalize l[i+1]=b at h2 lt
  have i1:=ixs h1;have i2:=ixs h2;show QaV _ _ _ [some X,some (dW l),some (.int (1+(i:Int)))] O'=_;have m1:Qaf gIx (Qaf gIx (Qaa 1) (Qaf QdQ (Qaa 2) (mC (.int 1)))) (mC (.int 3)) [some X,some (dW l),some (.int (1+(i:Int)))] O' = .ok (.int a.2.2.2) O' :=
   QaH (x:=dL a) (y:=.int 3) (QaH (x:=dW l) (y:=.int (i:Int)) rfl ((Qr0 (i:=1+(i:Int)) (j:=1) rfl rfl).trans (by rw [show (1:Int)+(i:Int) - 1=(i:Int) by omega])) i1) rfl rfl
  have m2:Qaf gIx (Qaf gIx (Qaa 1) (Qaa 2)) (mC (.int 3)) [some X,some (dW l),some (.int (1+(i:Int)))] O' = .ok (.int b.2.2.2) O' :=
   QaH (x:=dL b) (y:=.int 3) (QaH (x:=dW l) (y:=.int (1+(i:Int))) rfl rfl (by rw [show (1:Int)+(i:Int)=((i+1:Nat):Int) by omega]; exact i2)) rfl rfl
  rw [if_no ((QbJ (QaH m1 m2 Qwc)).trans (by rw [zh (by omega)]))]
  rfl)
 refine ⟨o2',?_⟩
 have r:(Qab (mC (.int 1)) (Qab (Qav Qa4 (Qab (Qaa 1) Qae)) Qae)) [some X,some (dW l),o2] O' = .ok [.int 1,.int (l.length:Int)] O':=by
  have:=QcO (m:=Qaa 1) (ρ:=[some X,some (dW l),o2]) (O:=O') (l:=l.map dL) rfl
  rw [zd] at this;exact maS rfl (ma1 this)
 rw [Qc1,QnU r (by omega),Qcw,e]
theorem Qtp (L:List (List LT)) (h:∀l∈L,l.length≤1000∧Rs l) (O:Qac):Qe7 [dLs L] O = .ok (.bl true) O:=by
 obtain ⟨ρ',O',e,rfl,o1,o2,rfl⟩:=Qdf (g:=mgN 1) (b:=Qbl (QgD (Qab (mC (.int 1)) (Qab (Qav Qa4 (Qab (Qaa 1) Qae)) Qae))) (mgN 2) QoS) (fun _ ρ O'=>O'=O∧∃o1 o2,ρ = [some (dLs L),o1,o2]) (L.map dW) 0 [some (dLs L),none,none] O ⟨rfl,_,_,rfl⟩ (by
  rintro i d ρ O' hi ⟨rfl,o1,o2,rfl⟩;obtain ⟨l,hl,rfl⟩:=zG.mp (zQ hi);obtain ⟨o2',e⟩:=QtV (dLs L) l (h l hl).2 (h l hl).1 o2 O'
  exact ⟨_,rfl,_,_,.inl e,rfl,_,o2',rfl⟩)
 unfold QoS at e;show QaK (Qfh [some (dLs L),none,none] O')=_;unfold Qfh;rw [QaS,Qc1,Qcr (l:=L.map dW) rfl,Qcw,e,QaL];rfl
theorem Qrl (R:List (List LT)) (h:∀r∈R,∀x∈r,OkL x):okE (.lst (R.map dW))=true:=Qoe (n:=10) (by decide) fun d hd=>by
 obtain ⟨r,hr,rfl⟩:=zG.mp hd
 have lay:∀d∈(r.map dL).map toP,d.canLay0=true∧d.depth≤5:=fun d hd=>by
  obtain ⟨d',h',rfl⟩:=zG.mp hd;obtain ⟨x,hx,rfl⟩:=zG.mp h';exact (Qlp (h r hr x hx)).2
 refine ⟨?_,?_,?_⟩
 ·show Qcp (.lst (r.map dL))=true;rw [Qcp]
  exact QgZ fun d hd=>by
   obtain ⟨x,hx,rfl⟩:=zG.mp hd;rfl
 ·show PyData.canLayAll0 (Qey (r.map dL))=true;rw [QhP]
  exact QkW fun d hd=>(lay d hd).1
 ·show PyData.depthAll (Qey (r.map dL))+1≤10;rw [QhP]
  have:=QjC fun d hd=>(lay d hd).2
  omega
theorem QlG (x:LT) (l:List LT):Qct (dW (x::l)) (.lst [])=false:=by
 unfold Qct dW;rw [zf,toP,toP,Qey,Qey];rfl
theorem Qvr {a b:LT} (h:a.2.2.2≠b.2.2.2):Qct (dW [a]) (dW [b])=false:=by
 show (PyData.eqv (toP (dL a)) (toP (dL b))&&true)=false
 have:PyData.eqv (toP (dL a)) (toP (dL b))=((S [a.1] == S [b.1])&&((S [a.2.1] == S [b.2.1])&&((S [a.2.2.1] == S [b.2.2.1])&&((a.2.2.2 == b.2.2.2)&&true)))):=rfl
 rw [this,beq_eq_false_iff_ne.mpr h];simp
theorem QiQ {l:List LT} (h:∀x∈l,OkL x):okE (dW l)=true:=Qnw l h
theorem QlC {a b:List LT} (ha:∀x∈a,OkL x) (hb:∀x∈b,OkL x):gEq (dW a) (dW b)=some (.bl (Qct (dW a) (dW b))):=by
 show gEq (.lst (a.map dL)) (.lst (b.map dL))=_;rw [Qwi,show okE (.lst (a.map dL))=true from QiQ ha,show okE (.lst (b.map dL))=true from QiQ hb];rfl
theorem QlO {a b:List LT} (ha:∀x∈a,OkL x) (hb:∀x∈b,OkL x):gNe (dW a) (dW b)=some (.bl (!Qct (dW a) (dW b))):=by
 show gNe (.lst (a.map dL)) (.lst (b.map dL))=_;rw [Qst,show okE (.lst (a.map dL))=true from QiQ ha,show okE (.lst (b.map dL))=true from QiQ hb];rfl
structure On (b r:List LT) (onw:List (List LT)):Prop where
 le:onw.length≤1
 ne:∀x h,onw = [x]→x.head? = some h→∀c∈b,c.2.2.2≠h.2.2.2
 hd:∀c r',r=c::r'→∃x,onw = [c::x]
 ok:∀x∈onw,∀c∈x,OkL c
def Qjp:L2.M Bool:=QcF (Qat (Qaf gLt (Qaa 2) (Qav Qa4 (Qab (Qaa 0) Qae)))) (Qat (Qaf gEq (Qaf gIx (Qaf gIx (Qaa 0) (Qaa 2)) (mC (.int 0))) (mC (.str [32]))))
def Qjv:MS:=(Qai (QaV (QcF (Qat (Qaf gNe (Qaa 1) (Qbn Qae))) (Qat (Qaf gEq (mSl (Qaa 0) (moS (Qaa 2)) (moS (Qaf QaJ (Qaa 2) (mC (.int 1))))) (mSl (Qaf gIx (Qaa 1) (mC (.int 0))) moN (moS (mC (.int 1))))))) (Qax (Qaa 2)) QaP)
  (Qas 2 (Qaf QaJ (Qaa 2) (mC (.int 1)))))
def eO (l:List LT) (onw:List (List LT)) (k:Nat):Qal:=[some (dW l),some (dLs onw),some (.int (k:Int))]
theorem Qky {l:List LT}{k:Nat}{x:LT} (h:l[k]? = some x) (onw:List (List LT)) (O:Qac):Qjp (eO l onw k) O = .ok (decide (x.1=32)) O:=by
 have hlt:=(zk.mp h).1;have hlen:=QcO (m:=Qaa 0) (ρ:=eO l onw k) (O:=O) (l:=l.map dL) rfl;rw [zd] at hlen;have t1:=QlJ (a:=Qaa 2) (i:=(k:Int)) rfl hlen;have t2:Qat (Qaf gEq (Qaf gIx (Qaf gIx (Qaa 0) (Qaa 2)) (mC (.int 0))) (mC (.str [32]))) (eO l onw k) O = .ok (decide ([x.1] = [32])) O :=
  QbJ (QaH (x:=.str [x.1]) (y:=.str [32]) (QaH (x:=dL x) (y:=.int 0) (QaH (x:=dW l) (y:=.int (k:Int)) rfl rfl (ixs h)) rfl rfl) rfl rfl)
 unfold Qjp;rw [Qdk,t1,zq (by omega),Qaq,if_pos rfl,t2];congr 1;simp
theorem QtM {l:List LT} (onw:List (List LT)) (O:Qac):Qjp (eO l onw l.length) O = .ok false O:=by
 have hlen:=QcO (m:=Qaa 0) (ρ:=eO l onw l.length) (O:=O) (l:=l.map dL) rfl;rw [zd] at hlen;have t1:=QlJ (a:=Qaa 2) (i:=(l.length:Int)) rfl hlen;unfold Qjp;rw [Qdk,t1,zh (by omega),Qaq,if_neg zj]
theorem QnL {x:List LT}{L:List (List LT)}:Qct (dLs (x::L)) (.lst [])=false:=by
 unfold Qct dLs;rw [zf,toP,toP,Qey,Qey];rfl
theorem QuO {l:List LT}{k:Nat}{x:LT} (h:l[k]? = some x) (onw:List (List LT)) (O:Qac):mSl (Qaa 0) (moS (Qaa 2)) (moS (Qaf QaJ (Qaa 2) (mC (.int 1)))) (eO l onw k) O = .ok (dW [x]) O:=by
 show Res.ok (D.lst (Qbt (l.map dL) (some (k:Int)) (some ((k:Int)+1)))) O=_;rw [show (k:Int)+1=((k+1:Nat):Int) by omega,Qki,←List.map_drop,←List.map_take,show k+1 - k=1 by omega]
 have:(l.drop k).take 1 = [x]:=by
  obtain ⟨hlt,hx⟩:=zk.mp h;rw [List.drop_eq_getElem_cons hlt,List.take_succ_cons,List.take_zero,hx]
 rw [this];rfl
theorem QuI {L:List (List LT)} (h:∀x∈L,∀c∈x,OkL c):gNe (dLs L) (.lst [])=some (.bl (!Qct (dLs L) (.lst []))):=by
 show gNe (.lst (L.map dW)) (.lst [])=_;rw [Qst,Qrl L h];rfl
theorem Qsn {l:List LT}{onw:List (List LT)}{k:Nat} (h:∀x∈onw,∀c∈x,OkL c) (O:Qac):Qat (Qaf gNe (Qaa 1) (Qbn Qae)) (eO l onw k) O = .ok (!Qct (dLs onw) (.lst [])) O :=
 QbJ (QaH (x:=dLs onw) (y:=.lst []) rfl rfl (QuI h))
theorem Qr7 {l:List LT}{y:List LT}{k:Nat}{x:LT} (hx:l[k]? = some x) (ox:OkL x) (oy:∀c∈y,OkL c) (O:Qac):Qat (Qaf gEq (mSl (Qaa 0) (moS (Qaa 2)) (moS (Qaf QaJ (Qaa 2) (mC (.int 1))))) (mSl (Qaf gIx (Qaa 1) (mC (.int 0))) moN (moS (mC (.int 1))))) (eO l [y] k) O = .ok (Qct (dW [x]) (dW (y.take 1))) O:=by
 have s2:mSl (Qaf gIx (Qaa 1) (mC (.int 0))) moN (moS (mC (.int 1))) (eO l [y] k) O = .ok (dW (y.take 1)) O:=by
  show Res.ok (D.lst (Qbt (y.map dL) none (some ((1:Nat):Int)))) O=_;rw [Qka,←List.map_take];rfl
 exact QbJ (QaH (QuO hx [y] O) s2 (QlC (fun c hc=>by rw [zy.mp hc]; exact ox) fun c hc=>oy c (List.mem_of_mem_take hc)))
theorem QuX {l:List LT}{onw:List (List LT)}{k:Nat} (O:Qac):Qas 2 (Qaf QaJ (Qaa 2) (mC (.int 1))) (eO l onw k) O = .nx (eO l onw (k+1)) O :=
 (QaO (QgH (i:=(k:Int)) (j:=1) rfl rfl)).trans (by
  unfold eO;rw [show ((k+1:Nat):Int)=(k:Int)+1 by omega]
  rfl)
theorem Qtd {l:List LT}{onw:List (List LT)}{k:Nat}{x:LT} (hx:l[k]? = some x) (ox:OkL x) (h1:onw.length≤1) (oy:∀y∈onw,∀c∈y,OkL c) (hne:∀y h,onw = [y]→y.head? = some h→x.2.2.2≠h.2.2.2) (O:Qac):Qjv (eO l onw k) O = .nx (eO l onw (k+1)) O:=by
 unfold Qjv;rw [QaS]
 suffices ht:(QcF (Qat (Qaf gNe (Qaa 1) (Qbn Qae))) (Qat (Qaf gEq (mSl (Qaa 0) (moS (Qaa 2)) (moS (Qaf QaJ (Qaa 2) (mC (.int 1))))) (mSl (Qaf gIx (Qaa 1) (mC (.int 0))) moN (moS (mC (.int 1))))))) (eO l onw k) O = .ok false O by
  rw [if_no ht,QbR,QaL,QuX]
 rw [Qdk,Qsn oy,Qaq]
 match onw,h1,oy,hne with
 | [],_,_,_=>rfl
 | [y],_,oy,hne =>
  rw [QnL,Bool.not_false,if_pos rfl,Qr7 hx ox (oy y zm)];congr 1
  cases y with
  | nil=>exact QlG x []
  | cons h y=>exact Qvr (hne _ h rfl rfl)
 | _::_::_,h1,_,_=>exact absurd h1 (by simp)
theorem QvA {l:List LT}{y:List LT}{k:Nat}{x:LT} (hx:l[k]? = some x) (ox:OkL x) (oy:∀c∈y,OkL c) (O:Qac):Qjv (eO l [x::y] k) O = .rt (.int (k:Int)) O:=by
 have oy':∀c∈x::y,OkL c:=fun c hc=>by
  rcases zt.mp hc with rfl | hc
  ·exact ox
  ·exact oy c hc
 unfold Qjv
 rw [QaS,Qev (by
  rw [Qdk,Qsn (fun z hz=>by rw [zy.mp hz]; exact oy'),Qaq,QnL,Bool.not_false,if_pos rfl,Qr7 hx ox oy'];congr 1
  exact QgA (QiQ fun c hc=>by rw [zy.mp hc]; exact ox))]
 rfl
theorem QwE {t:L2.M Bool}{b:MS}{k:Nat}{ρ:Qal}{O O2:Qac}{d:D} (h:t ρ O = .ok true O) (hb:b ρ O = .rt d O2):QbD t b (k+1) ρ O = .rt d O2:=by
 unfold QbD;rw [h];dsimp only;rw [hb]
theorem QnK {b r:List LT}{onw:List (List LT)} (N:On b r onw) (hb:∀c∈b,c.1=32) (ok:∀c∈b++r,OkL c) (O:Qac):∀(j k f:Nat),k+j=b.length→j < f →
  QbD Qjp Qjv f (eO (b++r) onw k) O = .nx (eO (b++r) onw b.length) O∨QbD Qjp Qjv f (eO (b++r) onw k) O = .rt (.int (b.length:Int)) O
 | j,k,0,_,h=>absurd h (Nat.not_lt_zero _)
 | 0,k,f+1,hk,_=>by
  have hk':k=b.length:=by omega
  subst hk'
  cases r with
  | nil =>
   rw [zO];exact .inl (QgG (QtM onw O))
  | cons c r =>
   have hc:(b++c::r)[b.length]? = some c:=by
    rw [zL (ze _),Nat.sub_self];rfl
   by_cases h32:c.1=32
   ·obtain ⟨y,rfl⟩:=N.hd c r rfl;refine .inr (QwE ((Qky hc _ O).trans (by rw [zq h32])) ?_);exact QvA hc (ok c (zK _ zm)) (fun d hd=>N.ok _ zm d (zx _ hd)) O
   ·exact .inl (QgG ((Qky hc onw O).trans (by rw [zh h32])))
 | j+1,k,f+1,hk,hf=>by
  have hlt:k < b.length:=by omega
  have hx:(b++r)[k]? = some b[k]:=by rw [zB hlt,zo hlt]
  have hm:b[k]∈b:=jn hlt;rw [Qgn ((Qky hx onw O).trans (by rw [zq (hb _ hm)])) (Qtd hx (ok _ (jo _ hm)) N.le N.ok (fun y h e1 e2=>N.ne y h e1 e2 _ hm) O)];exact QnK N hb ok O j (k+1) f (by omega) (by omega)
theorem Qoq {b r:List LT}{onw:List (List LT)} (N:On b r onw) (hb:∀c∈b,c.1=32) (ok:∀c∈b++r,OkL c) (hl:b.length≤100) (O:Qac):QcS [dW (b++r),dLs onw] O = .ok (.int (b.length:Int)) O:=by
 show QaK (Qdy [some (dW (b++r)),some (dLs onw),none] O)=_;unfold Qdy;rw [sq (QaO (d:=.int 0) rfl)];show QaK (Qai (QbZ wF Qjp Qjv) _ (eO (b++r) onw 0) O)=_;rw [QaS,Qgq]
 rcases QnK N hb ok O b.length 0 wF (zZ _) (by unfold wF; omega) with e | e
 ·rw [e,QaL];rfl
 ·rw [e];rfl
def T_g:L2.M Bool:=Qat (Qaf gNe (Qaa 4) (Qbn Qae))
def B_g:MS:=(Qai (QaV (Qat (Qaf gEq (Qaa 2) (Qav Qa4 (Qab (Qaa 0) Qae)))) (Qax (mC (.bl false))) QaP)
  (Qai (Qas 5 (Qav Qa4 (Qab (Qaf gIx (Qaa 0) (Qaa 2)) Qae)))
  (Qai (QaV (Qat (Qaf gNe (mSl (Qaa 4) moN (moS (Qaa 5))) (Qaf gIx (Qaa 0) (Qaa 2)))) (Qax (mC (.bl false))) QaP)
  (Qai (Qas 4 (mSl (Qaa 4) (moS (Qaa 5)) moN))
  (Qai (Qas 2 (Qaf QaJ (Qaa 2) (mC (.int 1))))
  (Qai (Qas 6 (Qau QcS (Qab (Qaa 4) (Qab (mSl (Qaa 0) (moS (Qaa 2)) (moS (Qaf QaJ (Qaa 2) (mC (.int 1))))) Qae))))
  (Qai (Qas 4 (mSl (Qaa 4) (moS (Qaa 6)) moN))
  (QaV (QcF (Qat (Qaf gEq (Qaa 5) (mC (.int 0)))) (Qat (Qaf gEq (Qaa 6) (mC (.int 0))))) (Qax (mC (.bl false))) QaP))))))))
def eG (A:List (List LT)) (S:D) (at_:Nat) (o3:Option D) (left:List LT) (o5 o6:Option D):Qal:=[some (dLs A),some S,some (.int (at_:Int)),o3,some (dW left),o5,o6]
theorem Qme {A:List (List LT)}{S:D}{at_:Nat}{o3:Option D}{left:List LT}{o5 o6:Option D} (ok:∀c∈left,OkL c) (O:Qac):T_g (eG A S at_ o3 left o5 o6) O = .ok (!Qct (dW left) (.lst [])) O :=
 QbJ (QaH (x:=dW left) (y:=.lst []) rfl rfl (QlO (b:=[]) ok fun x hx=>(nomatch hx)))
theorem Qrg {A:List (List LT)}{k:Nat}{x:List LT} (h:A[k]? = some x):gIx (dLs A) (.int (k:Int))=some (dW x):=by
 unfold dLs;rw [Qj7,QgC,zD,h];rfl
theorem QoT {A:List (List LT)}{ρ:Qal}{O:Qac} (h:ρ[0]? = some (some (dLs A))):Qav Qa4 (Qab (Qaa 0) Qae) ρ O = .ok (.int (A.length:Int)) O:=by
 have:=QcO (m:=Qaa 0) (ρ:=ρ) (O:=O) (l:=A.map dW) (by rw [Qci,h]; rfl)
 rwa [zd] at this
theorem Qvu {A:List (List LT)}{S:D}{at_:Nat}{o3 o5 o6:Option D}{x b r:List LT} (hA:A[at_]? = some x) (hx:x≠[]) (hb:∀c∈b,c.1=32) (ok:∀c∈x++(b++r),OkL c) (hl:b.length≤100) (N:On b r ((A.drop (at_+1)).take 1)) (O:Qac) :
  ∃o5' o6',B_g (eG A S at_ o3 (x++(b++r)) o5 o6) O = .nx (eG A S (at_+1) o3 r o5' o6') O:=by
 have hlt:=(zk.mp hA).1
 have okx:∀c∈x,OkL c:=fun c hc=>ok c (jo _ hc)
 have okb:∀c∈b++r,OkL c:=fun c hc=>ok c (zK _ hc)
 have eo:=Qoq N hb okb hl O;refine ⟨some (.int (x.length:Int)),some (.int (b.length:Int)),?_⟩;have t1:Qat (Qaf gEq (Qaa 2) (Qav Qa4 (Qab (Qaa 0) Qae))) (eG A S at_ o3 (x++(b++r)) o5 o6) O = .ok false O :=
  (Qig (i:=(at_:Int)) rfl (QoT rfl)).trans (by rw [zh (by omega)])
 have s5:Qav Qa4 (Qab (Qaf gIx (Qaa 0) (Qaa 2)) Qae) (eG A S at_ o3 (x++(b++r)) o5 o6) O = .ok (.int (x.length:Int)) O:=by
  have:=QcO (m:=Qaf gIx (Qaa 0) (Qaa 2)) (ρ:=eG A S at_ o3 (x++(b++r)) o5 o6) (O:=O) (l:=x.map dL) (QaH (x:=dLs A) (y:=.int (at_:Int)) rfl rfl (Qrg hA))
  rwa [zd] at this
 have sx:mSl (Qaa 4) moN (moS (Qaa 5)) (eG A S at_ o3 (x++(b++r)) (some (.int (x.length:Int))) o6) O = .ok (dW x) O:=by
  show Res.ok (D.lst (Qbt ((x++(b++r)).map dL) none (some (x.length:Int)))) O=_;rw [Qka,←List.map_take,List.take_left];rfl
 have t2:Qat (Qaf gNe (mSl (Qaa 4) moN (moS (Qaa 5))) (Qaf gIx (Qaa 0) (Qaa 2))) (eG A S at_ o3 (x++(b++r)) (some (.int (x.length:Int))) o6) O = .ok false O :=
  (QbJ (QaH sx (QaH (x:=dLs A) (y:=.int (at_:Int)) rfl rfl (Qrg hA)) (QlO okx okx))).trans (by rw [QgA (QiQ okx)]; rfl)
 have s4:mSl (Qaa 4) (moS (Qaa 5)) moN (eG A S at_ o3 (x++(b++r)) (some (.int (x.length:Int))) o6) O = .ok (dW (b++r)) O:=by
  show Res.ok (D.lst (Qbt ((x++(b++r)).map dL) (some (x.length:Int)) none)) O=_;rw [Qm1,←List.map_drop,List.drop_left];rfl
 have s2:Qas 2 (Qaf QaJ (Qaa 2) (mC (.int 1))) (eG A S at_ o3 (b++r) (some (.int (x.length:Int))) o6) O = .nx (eG A S (at_+1) o3 (b++r) (some (.int (x.length:Int))) o6) O :=
  (QaO (QgH (i:=(at_:Int)) (j:=1) rfl rfl)).trans (by
   unfold eG;rw [show ((at_+1:Nat):Int)=(at_:Int)+1 by omega]
   rfl)
 have so:mSl (Qaa 0) (moS (Qaa 2)) (moS (Qaf QaJ (Qaa 2) (mC (.int 1)))) (eG A S (at_+1) o3 (b++r) (some (.int (x.length:Int))) o6) O = .ok (dLs ((A.drop (at_+1)).take 1)) O:=by
  show Res.ok (D.lst (Qbt (A.map dW) (some ((at_+1:Nat):Int)) (some (((at_+1:Nat):Int)+1)))) O=_;rw [show ((at_+1:Nat):Int)+1=((at_+1+1:Nat):Int) by omega,Qki,←List.map_drop,←List.map_take,show at_+1+1 - (at_+1)=1 by omega];rfl
 have s6:Qau QcS (Qab (Qaa 4) (Qab (mSl (Qaa 0) (moS (Qaa 2)) (moS (Qaf QaJ (Qaa 2) (mC (.int 1))))) Qae)) (eG A S (at_+1) o3 (b++r) (some (.int (x.length:Int))) o6) O = .ok (.int (b.length:Int)) O :=
  (QaQ (maS (x:=dW (b++r)) rfl (ma1 so))).trans eo
 have s7:mSl (Qaa 4) (moS (Qaa 6)) moN (eG A S (at_+1) o3 (b++r) (some (.int (x.length:Int))) (some (.int (b.length:Int)))) O = .ok (dW r) O:=by
  show Res.ok (D.lst (Qbt ((b++r).map dL) (some (b.length:Int)) none)) O=_;rw [Qm1,←List.map_drop,List.drop_left];rfl
 have hxl:0 < x.length:=List.length_pos_iff.mpr hx
 have t8:QcF (Qat (Qaf gEq (Qaa 5) (mC (.int 0)))) (Qat (Qaf gEq (Qaa 6) (mC (.int 0)))) (eG A S (at_+1) o3 r (some (.int (x.length:Int))) (some (.int (b.length:Int)))) O = .ok false O:=by
  rw [Qdk,Qig (i:=(x.length:Int)) (j:=0) rfl rfl,zh (by omega),Qaq,if_neg zj]
 unfold B_g;rw [QaS,if_no t1,QbR,QaL,sq (QaO s5)];show Qai _ _ (eG A S at_ o3 (x++(b++r)) (some (.int (x.length:Int))) o6) O=_;rw [QaS,if_no t2,QbR,QaL,sq (QaO s4)];show Qai _ _ (eG A S at_ o3 (b++r) (some (.int (x.length:Int))) o6) O=_;rw [sq s2,sq (QaO s6)];show Qai _ _ (eG A S (at_+1) o3 (b++r) (some (.int (x.length:Int))) (some (.int (b.length:Int)))) O=_;rw [sq (QaO s7)];show QaV _ _ _ (eG A S (at_+1) o3 r (some (.int (x.length:Int))) (some (.int (b.length:Int)))) O=_;rw [if_no t8];rfl
theorem Seg.head {w:Int}{l:List LT}{L:List (List LT)} (h:Seg w l L):(l = []∧L = [])∨∃c l' x L',l=c::l'∧L=(c::x)::L':=by
 cases h with
 | nil=>exact .inl ⟨rfl,rfl⟩
 | cons x b r L hx _ _ _ =>
  cases x with
  | nil=>exact absurd rfl hx
  | cons c x=>exact .inr ⟨c,x++(b++r),x,L,rfl,rfl⟩
theorem Qva {w:Int}{A:List (List LT)}{S:D}{o3:Option D} (okA:∀x∈A,∀c∈x,OkL c) (O:Qac) {l:List LT}{L:List (List LT)} (hS:Seg w l L):∀(at_ f:Nat) (rest:List (List LT)) (o5 o6:Option D),A.drop at_=L++rest→L.length < f→Rs l→(∀c∈l,OkL c)→l.length≤100→(∀x h,rest.head? = some x→x.head? = some h→∀c∈l.tail,c.2.2.2≠h.2.2.2) →
  ∃o5' o6',QbD T_g B_g f (eG A S at_ o3 l o5 o6) O = .nx (eG A S (at_+L.length) o3 [] o5' o6') O:=by
 induction hS with
 | nil =>
  intro at_ f rest o5 o6 hA hf hr ok hl hh;obtain ⟨f,rfl⟩:∃f',f=f'+1:=⟨f - 1,by rw [zU] at hf; omega⟩;exact ⟨o5,o6,QgG (Qme ok O)⟩
 | cons x b r L hx hb hw hS ih =>
  intro at_ f rest o5 o6 hA hf hr ok hl hh;rw [zz] at hf;obtain ⟨f,rfl⟩:∃f',f=f'+1:=⟨f - 1,by omega⟩
  have hA0:A[at_]? = some x:=by
   have:=congrArg (fun z:List (List LT)=>z[0]?) hA
   simpa [List.getElem?_drop] using this
  have hA1:A.drop (at_+1)=L++rest:=by
   have:=congrArg List.tail hA
   rw [List.tail_drop] at this;exact this
  rw [zn,zn] at hl;obtain ⟨hr1,hr2,hr3⟩:=List.pairwise_append.mp hr;obtain ⟨hr4,hr5,hr6⟩:=List.pairwise_append.mp hr2
  have tl:∀c∈b++r,c∈(x++(b++r)).tail:=fun c hc=>by
   cases x with
   | nil=>exact absurd rfl hx
   | cons d x=>exact zK _ hc
  have N:On b r ((A.drop (at_+1)).take 1):=by
   rw [hA1];refine ⟨by rw [List.length_take]; omega,fun y h e1 e2 c hc=>?_,fun c r' e=>?_,fun y hy=>?_⟩
   ·rcases hS.head with ⟨h1,h2⟩ | ⟨d,l',z,L',h1,h2⟩
    ·rw [h2,zC] at e1;refine hh y h ?_ e2 c (tl c (jo _ hc))
     cases rest with
     | nil=>exact nomatch e1
     | cons y' rest=>cases e1; rfl
    ·rw [h2] at e1;cases e1;have e3:d=h:=zH e2
     have:=hr6 c hc d (by rw [h1]; exact zm)
     rw [←e3];omega
   ·rcases hS.head with ⟨h1,h2⟩ | ⟨d,l',z,L',h1,h2⟩
    ·rw [h1] at e;exact nomatch e
    ·rw [h1] at e;cases e;exact ⟨z,by rw [h2]; rfl⟩
   ·refine okA y ?_;rw [←hA1] at hy;exact List.mem_of_mem_drop (List.mem_of_mem_take hy)
  obtain ⟨p5,p6,e1⟩:=Qvu (S:=S) (o3:=o3) (o5:=o5) (o6:=o6) hA0 hx hb ok (by omega) N O;obtain ⟨q5,q6,e2⟩:=ih (at_+1) f rest p5 p6 hA1 (by omega) hr5 (fun c hc=>ok c (zK _ (zK _ hc))) (by omega) (fun y h h1 h2 c hc=>hh y h h1 h2 c (tl c (zK _ (List.mem_of_mem_tail hc))));refine ⟨q5,q6,?_⟩
  have te:T_g (eG A S at_ o3 (x++(b++r)) o5 o6) O = .ok true O:=(Qme ok O).trans (by
   cases x with
   | nil=>exact absurd rfl hx
   | cons d x=>rw [List.cons_append,QlG]; rfl)
  rw [Qgn te e1,e2,zz,show at_+1+L.length=at_+(L.length+1) by omega]
theorem Seg.len {w:Int}{l:List LT}{L:List (List LT)} (h:Seg w l L):L.length≤l.length:=by
 induction h with
 | nil=>exact ze _
 | cons x b r L hx _ _ _ ih =>
  have:=List.length_pos_iff.mpr hx
  rw [zn,zn,zz];omega
theorem Qdm.len {w:Int}{l:List LT}{L:List (List LT)} (h:Qdm w l L):L.length≤l.length+1:=by
 rcases h with ⟨rfl,rfl⟩ | ⟨_,h⟩
 ·exact ze _
 ·have:=h.len
  omega
def B_w:MS:=(Qai (Qas 4 (Qav Qcg (Qab (Qaa 3) Qae)))
  (Qai (QaV (Qat (Qaf gEq (Qaa 4) (Qbn Qae))) (Qai (QaV (Qep (Qat (Qaf gEq (Qaa 2) (Qav Qa4 (Qab (Qaa 0) Qae)))) (Qat (Qaf gNe (Qaf gIx (Qaa 0) (Qaa 2)) (Qbn Qae)))) (Qax (mC (.bl false))) QaP)
  (Qas 2 (Qaf QaJ (Qaa 2) (mC (.int 1))))) QaP)
  (QbZ wF T_g B_g)))
def eH (A:List (List LT)) (S:D) (at_:Nat) (o3 o4 o5 o6:Option D):Qal:=[some (dLs A),some S,some (.int (at_:Int)),o3,o4,o5,o6]
theorem Quu {w:Int}{A:List (List LT)}{S:D} (okA:∀x∈A,∀c∈x,OkL c) {l:List LT}{L rest:List (List LT)} (R:Qdm w l L) (W:Rw l) {at_:Nat} (hA:A.drop at_=L++rest) (hh:∀x h,rest.head? = some x→x.head? = some h→h.2.2.2 < 7) (o4 o5 o6:Option D) (O:Qac) :
  ∃o4' o5' o6',B_w (eH A S at_ (some (dW l)) o4 o5 o6) O = .nx (eH A S (at_+L.length) (some (dW l)) o4' o5' o6') O:=by
 have s4:Qas 4 (Qav Qcg (Qab (Qaa 3) Qae)) (eH A S at_ (some (dW l)) o4 o5 o6) O = .nx (eG A S at_ (some (dW l)) l o5 o6) O:=(QaO (Qhg (d:=dW l) rfl rfl)).trans rfl;have t4:Qat (Qaf gEq (Qaa 4) (Qbn Qae)) (eG A S at_ (some (dW l)) l o5 o6) O = .ok (Qct (dW l) (.lst [])) O:=QbJ (QaH (x:=dW l) (y:=.lst []) rfl rfl (QlC (b:=[]) W.ok fun x hx=>(nomatch hx)));unfold B_w;rw [sq s4,QaS]
 rcases R with ⟨rfl,rfl⟩ | ⟨h0,hS⟩
 ·have hA0:A[at_]? = some []:=by
   have:=congrArg (fun z:List (List LT)=>z[0]?) hA
   simpa [List.getElem?_drop] using this
  have hlt:=(zk.mp hA0).1;have tt:Qep (Qat (Qaf gEq (Qaa 2) (Qav Qa4 (Qab (Qaa 0) Qae)))) (Qat (Qaf gNe (Qaf gIx (Qaa 0) (Qaa 2)) (Qbn Qae))) (eG A S at_ (some (dW [])) [] o5 o6) O = .ok false O :=
   or_f ((Qig (i:=(at_:Int)) rfl (QoT rfl)).trans (by rw [zh (by omega)])) ((QbJ (QaH (x:=dW []) (y:=.lst []) (QaH (x:=dLs A) (y:=.int (at_:Int)) rfl rfl (Qrg hA0)) rfl (QlO (a:=[]) (b:=[]) (fun x hx=>(nomatch hx)) fun x hx=>(nomatch hx)))).trans rfl)
  have s2:Qas 2 (Qaf QaJ (Qaa 2) (mC (.int 1))) (eG A S at_ (some (dW [])) [] o5 o6) O = .nx (eG A S (at_+1) (some (dW [])) [] o5 o6) O :=
   (QaO (QgH (i:=(at_:Int)) (j:=1) rfl rfl)).trans (by
    unfold eG;rw [show ((at_+1:Nat):Int)=(at_:Int)+1 by omega]
    rfl)
  refine ⟨some (dW []),o5,o6,?_⟩;rw [Qev (t4.trans rfl),QaS,if_no tt,QbR,QaL,s2,QaL,Qgq];exact QgG (k:=wF - 1) (Qme W.ok O)
 ·obtain ⟨p5,p6,e⟩:=Qva (S:=S) (o3:=some (dW l)) okA O hS at_ wF rest o5 o6 hA (by have:=hS.len; have:=W.le; unfold wF; omega) W.po.rs W.ok (by have:=W.le; omega) (fun x h h1 h2 c hc=>by
   have k1:=hh x h h1 h2;obtain ⟨i,hi⟩:=List.mem_iff_getElem?.mp hc;rw [List.getElem?_tail] at hi
   have:=(W.po (i+1) c hi).1
   omega)
  refine ⟨some (dW []),p5,p6,?_⟩
  rw [if_no (t4.trans (by
   cases l with
   | nil=>exact absurd rfl h0
   | cons d l=>rw [QlG])),QbR,QaL,Qgq]
  exact e
theorem QtI {w:Int}:∀(zs:List (List LT×List (List LT))),(∀z∈zs,Qdm w z.1 z.2∧Rw z.1)→∀x h,(zs.flatMap fun z=>z.2).head? = some x→x.head? = some h→h.2.2.2 < 7
 | [],_,x,h,h1,_=>(nomatch h1)
 | z::zs,hz,x,h,h1,h2=>by
  obtain ⟨R,W⟩:=hz z zm;rw [List.flatMap_cons] at h1
  rcases R with ⟨_,e⟩ | ⟨h0,hS⟩
  ·rw [e] at h1;cases h1;exact nomatch h2
  ·rcases hS.head with ⟨e,_⟩ | ⟨c,l',y,L',e1,e2⟩
   ·exact absurd e h0
   ·rw [e2] at h1;cases h1;have e3:c=h:=zH h2
    have:=(W.po 0 c (by rw [e1]; rfl)).2
    rw [←e3];omega
theorem QpM {w:Int}{A:List (List LT)}{S:D} (okA:∀x∈A,∀c∈x,OkL c) (O:Qac):∀(zs:List (List LT×List (List LT))) (at_:Nat) (o3 o4 o5 o6:Option D),(∀z∈zs,Qdm w z.1 z.2∧Rw z.1)→A.drop at_=(zs.flatMap fun z=>z.2) →
  ∃o3' o4' o5' o6',QaZ (mgN 3) B_w ((zs.map fun z=>z.1).map dW) (eH A S at_ o3 o4 o5 o6) O = .nx (eH A S (at_+(zs.flatMap fun z=>z.2).length) o3' o4' o5' o6') O
 | [],at_,o3,o4,o5,o6,_,_=>⟨o3,o4,o5,o6,rfl⟩
 | z::zs,at_,o3,o4,o5,o6,hz,hA=>by
  obtain ⟨R,W⟩:=hz z zm
  have hz':∀y∈zs,Qdm w y.1 y.2∧Rw y.1:=fun y hy=>hz y (zx _ hy)
  rw [List.flatMap_cons] at hA;obtain ⟨p4,p5,p6,e1⟩:=Quu (S:=S) okA R W hA (QtI zs hz') o4 o5 o6 O
  obtain ⟨q3,q4,q5,q6,e2⟩:=QpM okA O zs (at_+z.2.length) (some (dW z.1)) p4 p5 p6 hz' (by
   have:=congrArg (List.drop z.2.length) hA
   rw [List.drop_drop,List.drop_left] at this
   exact this)
  refine ⟨q3,q4,q5,q6,?_⟩;rw [zf,zf];unfold QaZ;rw [show mgN 3 (dW z.1) (eH A S at_ o3 o4 o5 o6)=some (eH A S at_ (some (dW z.1)) o4 o5 o6) from rfl];dsimp only;rw [e1];dsimp only;rw [e2,List.flatMap_cons,zn,Nat.add_assoc]
theorem Qvj {w:Int} (zs:List (List LT×List (List LT))) (hz:∀z∈zs,Qdm w z.1 z.2∧Rw z.1) (ok:∀x∈(zs.flatMap fun z=>z.2),∀c∈x,OkL c) (O:Qac):QcA [dLs (zs.flatMap fun z=>z.2),dLs (zs.map fun z=>z.1)] O = .ok (.bl true) O:=by
 obtain ⟨o3,o4,o5,o6,e⟩:=QpM (S:=dLs (zs.map fun z=>z.1)) ok O zs 0 none none none none hz (by rw [List.drop_zero]);rw [zZ] at e
 generalize (zs.flatMap fun z=>z.2)=A at e
 unfold B_w T_g B_g at e;show QaK (Qcz [some (dLs A),some (dLs (zs.map fun z=>z.1)),none,none,none,none,none] O)=_;unfold Qcz;rw [sq (QaO (d:=.int 0) rfl)];show QaK (Qai (Qbl _ _ _) _ (eH A (dLs (zs.map fun z=>z.1)) 0 none none none none) O)=_;rw [QaS,Qc1,Qcr (l:=(zs.map fun z=>z.1).map dW) rfl,Qcw,e,QaL];rw [QbY (QaH (x:=.int (A.length:Int)) (y:=.int (A.length:Int)) (z:=.bl true) rfl (QoT rfl) (by rw [Qbg,QwR,zq rfl]))];rfl
def eV (ps:List Pt2) (row:List LT) (w:Int) (y:List Nat) (o4 o5 o6 o7:Option D):Qal:=[some (.lst (ps.map dP)),some (dW row),some (.int w),some (.str y),o4,o5,o6,o7]
theorem Qso {w:Int}:∀(zs:List (List LT×List (List LT))),(∀z∈zs,Qdm w z.1 z.2)→(zs.map fun z=>z.1).flatMap nb=(zs.flatMap fun z=>z.2).flatMap nb
 | [],_=>rfl
 | z::zs,h=>by
  rw [zf,List.flatMap_cons,List.flatMap_cons,List.flatMap_append,(h z zm).nb,Qso zs fun y hy=>h y (zx _ hy)]
theorem Qs7 (A:List (List LT)):(l12 A).length≤12:=by
 unfold l12;rw [List.length_drop];omega
theorem Qta {A:List (List LT)} (h:(l12 A).length≠12):l12 A=A:=by
 unfold l12 at h ⊢;rw [List.length_drop] at h;rw [show A.length - 12=0 by omega,List.drop_zero]
theorem QsL (A:List (List LT)):(A.flatMap nb).drop ((A.flatMap nb).length - ((l12 A).flatMap nb).length)=(l12 A).flatMap nb:=by
 have e:A.flatMap nb=(A.take (A.length - 12)).flatMap nb++(l12 A).flatMap nb:=by
  unfold l12;rw [←List.flatMap_append,List.take_append_drop]
 rw [e,zn,Nat.add_sub_cancel,List.drop_left]
theorem Qmu (ps:List Pt2) (hps:ps.length≤4) (hr:∀p∈ps,Rw p.1) (row:List LT) (w:Int) {y:List Nat} (hy:Wy3 y) (hl:Rw row) (hw:2≤w∧w≤40) (O:Qac):∃O',Qek [.lst (ps.map dP),dW row,.int w,.str y] O = .ok (.bl true) O':=by
 obtain ⟨O',zs,el,z1,z2⟩:=QsM ps hps hr row w hy hl hw O;refine ⟨O',?_⟩
 have zw:∀z∈zs,Rw z.1:=fun z hz=>by
  have hm:z.1∈zs.map fun z=>z.1:=zG.mpr ⟨z,hz,rfl⟩
  rw [z1] at hm
  rcases zJ.mp hm with hm | hm
  ·obtain ⟨p,hp,e⟩:=zG.mp hm;rw [←e];exact hr p hp
  ·split at hm
   ·exact nomatch hm
   ·rw [zy.mp hm];exact hl
 have zb:=Qso zs z2
 obtain ⟨rows,hrows⟩:∃rows,rows=zs.map fun z=>z.1:=⟨_,rfl⟩
 obtain ⟨A,hA⟩:∃A,A=(zs.flatMap fun z=>z.2):=⟨_,rfl⟩
 have eg:=Qvj zs (fun z hz=>⟨z2 z hz,zw z hz⟩) (fun x hx c hc=>by
  obtain ⟨z,hz,hx⟩:=List.mem_flatMap.mp hx
  exact (zw z hz).ok c (((z2 z hz).sub (by omega) x hx).1.subset hc)) O'
 have lA:∀x∈A,x.length≤8∧Rs x∧(∀c∈x,OkL c)∧wsum x≤w:=fun x hx=>by
  rw [hA] at hx;obtain ⟨z,hz,hx⟩:=List.mem_flatMap.mp hx;obtain ⟨s1,s2⟩:=(z2 z hz).sub (by omega) x hx
  have:=(zw z hz).le
  have:=s1.length_le
  exact ⟨by omega,(zw z hz).po.rs.sublist s1,fun c hc=>(zw z hz).ok c (s1.subset hc),s2⟩
 have lR:∀x∈rows,x.length≤8∧∀c∈x,OkL c:=fun x hx=>by
  rw [hrows] at hx;obtain ⟨z,hz,rfl⟩:=zG.mp hx;exact ⟨(zw z hz).le,(zw z hz).ok⟩
 have nR:rows.length≤5:=by
  rw [hrows,z1,zn,zd]
  split
  ·rw [zU]; omega
  ·rw [zS]; omega
 rw [←hA] at el eg zb;rw [←hrows] at eg zb z1
 clear zw z2 hA hrows
 have l1:∀x∈l12 A,x∈A:=fun x hx=>List.mem_of_mem_drop hx
 have n12:=Qs7 A
 have s4:Qbm (Qba (Qaa 0)) 1 [] (mgN 0) QbW (Qaf gIx (Qaa 0) (mC (.int 0))) (eV ps row w y none none none none) O = .ok (dLs (ps.map fun p=>p.1)) O:=by
  have ec:=Qb4 (g:=mgN 0) (t:=QbW) (m:=Qaf gIx (Qaa 0) (mC (.int 0))) (fun ρ=>∃a,ρ = [a]) dP (fun p=>dW p.1) ps [none] O [] ⟨_,rfl⟩ (by
   rintro p _ ρ ⟨a,rfl⟩
   exact ⟨_,rfl,⟨_,rfl⟩,rfl,QaH (x:=dP p) (y:=.int 0) rfl rfl rfl⟩)
  rw [zC] at ec;rw [QeZ (Qcr (l:=ps.map dP) rfl) (by rw [zd]; omega) rfl ec];unfold dLs;rw [zW];rfl
 have s4b:QaV (Qat (Qaf gNe (Qaa 1) (Qbn Qae))) (Qas 4 (Qaf QaJ (Qaa 4) (Qbn (Qab (Qaa 1) Qae)))) QaP (eV ps row w y (some (dLs (ps.map fun p=>p.1))) none none none) O = .nx (eV ps row w y (some (dLs rows)) none none none) O:=by
  have t:Qat (Qaf gNe (Qaa 1) (Qbn Qae)) (eV ps row w y (some (dLs (ps.map fun p=>p.1))) none none none) O = .ok (!Qct (dW row) (.lst [])) O:=QbJ (QaH (x:=dW row) (y:=.lst []) rfl rfl (QlO (b:=[]) hl.ok fun x hx=>(nomatch hx)))
  by_cases h0:row = []
  ·rw [if_no (t.trans (by rw [h0]; rfl)),z1,if_pos h0,zO];rfl
  ·rw [Qev (t.trans (by
    cases row with
    | nil=>exact absurd rfl h0
    | cons d l=>rw [QlG]; rfl)),z1,if_neg h0]
   rw [QaO (QaH (x:=dLs (ps.map fun p=>p.1)) (y:=.lst [dW row]) (z:=dLs ((ps.map fun p=>p.1) ++ [row])) rfl (QhE (ma1 rfl) (show (1:Nat)≤1000000 by decide)) (by
    show QaJ (.lst ((ps.map fun p=>p.1).map dW)) (.lst [dW row])=_;rw [QmB,if_pos (by rw [zd,zd,zS]; omega)];unfold dLs;rw [zM]
    rfl))]
   rfl
 have s5:Qau Qeh (Qab (Qbm (Qba (Qaa 0)) 2 [] (Qg8 2 (QbE (mgN 0) (QbE (mgN 1) Qex))) QbW (QbS (Qab (Qav Qcg (Qab (Qaa 0) Qae)) (Qab (Qaa 1) Qae)))) (Qab (Qav Qcg (Qab (Qaa 1) Qae)) (Qab (QbS (Qab (mC (.str [97])) (Qab (mC (.int 0)) (Qab (mC (.int 0)) (Qab (mC (.int 12)) (Qab (mG (Qaa 2)) (Qab (mG (Qaa 3)) Qae))))))) Qae))) (eV ps row w y (some (dLs rows)) none none none) O = .ok (dLs (l12 A)) O':=by
  have ec:=Qb4 (g:=Qg8 2 (QbE (mgN 0) (QbE (mgN 1) Qex))) (t:=QbW) (m:=QbS (Qab (Qav Qcg (Qab (Qaa 0) Qae)) (Qab (Qaa 1) Qae))) (fun ρ=>∃a b,ρ = [a,b]) dP dP ps [none,none] O [] ⟨_,_,rfl⟩ (by
   rintro p _ ρ ⟨a,b,rfl⟩
   exact ⟨[some (dW p.1),some (.str p.2)],rfl,⟨_,_,rfl⟩,rfl,QkK (maS (Qhg (d:=dW p.1) rfl rfl) (ma1 (x:=.str p.2) rfl)) (show (2:Nat)≤1000000 by decide)⟩)
  rw [zC] at ec;rw [QaQ (maS (QeZ (Qcr (l:=ps.map dP) rfl) (by rw [zd]; omega) rfl ec) (maS (Qhg (d:=dW row) (l:=row.map dL) rfl rfl) (ma1 (x:=room w y) rfl)))];exact el
 have tA:(Qep (Qat (Qaf gNe (Qbm (Qba (Qaa 5)) 1 [2] (mgN 0) (Qat (Qaf gGt (Qau QdK (Qab (Qaa 0) Qae)) (Qaa 1))) (Qaa 0)) (Qbn Qae))) (Qep (Qat (Qaf gGt (Qav Qa4 (Qab (Qaa 5) Qae)) (mC (.int 12)))) (Qc9 (Qcd (Qau Qe7 (Qab (Qaa 5) Qae)))))) (eV ps row w y (some (dLs rows)) (some (dLs (l12 A))) none none) O' = .ok false O':=by
  have ec:=QdZ (g:=mgN 0) (t:=Qat (Qaf gGt (Qau QdK (Qab (Qaa 0) Qae)) (Qaa 1))) (m:=Qaa 0) (fun ρ=>∃a,ρ = [a,some (.int w)]) (fun _:List LT=>false) dW (l12 A) [none,some (.int w)] O' [] ⟨_,rfl⟩ (by
   rintro x hx ρ ⟨a,rfl⟩;have h:=lA x (l1 x hx);refine ⟨_,rfl,⟨_,rfl⟩,?_,rfl⟩;refine (QbJ (QaH (x:=.int (wsum x)) (y:=.int w) ((QaQ (ma1 (x:=dW x) rfl)).trans (Qry x (by omega) O')) rfl Qhz)).trans ?_
   rw [zh (by omega)])
  rw [zC,List.filter_eq_nil_iff.mpr (fun _ _ z=>zj z)] at ec
  refine or_f ((QbJ (QaH (x:=.lst []) (y:=.lst []) (z:=.bl false) (QeZ (Qcr (l:=(l12 A).map dW) rfl) (by rw [zd]; omega) rfl ec) rfl rfl))) (or_f ?_ (Qv0 ((QaQ (ma1 (x:=dLs (l12 A)) rfl)).trans (Qtp (l12 A) (fun x hx=>by
   have h:=lA x (l1 x hx)
   exact ⟨by omega,h.2.1⟩) O'))))
  have hn:=QcO (m:=Qaa 5) (ρ:=eV ps row w y (some (dLs rows)) (some (dLs (l12 A))) none none) (O:=O') (l:=(l12 A).map dW) rfl;rw [zd] at hn;exact (QbJ (QaH hn (y:=.int 12) rfl Qhz)).trans (by rw [zh (by omega)])
 have s6:Qau Qck (Qab (Qaa 4) Qae) (eV ps row w y (some (dLs rows)) (some (dLs (l12 A))) none none) O' = .ok (dW (rows.flatMap nb)) O' :=
  (QaQ (ma1 (x:=dLs rows) rfl)).trans (Qoa rows (fun x hx=>by have:=(lR x hx).1; omega) (by omega) O')
 have s7:∀o6:Option D,Qau Qck (Qab (Qaa 5) Qae) (eV ps row w y (some (dLs rows)) (some (dLs (l12 A))) o6 none) O' = .ok (dW ((l12 A).flatMap nb)) O':=fun o6 =>
  (QaQ (ma1 (x:=dLs (l12 A)) rfl)).trans (Qoa (l12 A) (fun x hx=>by have:=(lA x (l1 x hx)).1; omega) (by omega) O')
 have okS:∀c∈(l12 A).flatMap nb,OkL c:=fun c hc=>by
  obtain ⟨x,hx,hc⟩:=List.mem_flatMap.mp hc;exact (lA x (l1 x hx)).2.2.1 c (List.mem_filter.mp hc).1
 have okQ:∀c∈rows.flatMap nb,OkL c:=fun c hc=>by
  obtain ⟨x,hx,hc⟩:=List.mem_flatMap.mp hc;exact (lR x hx).2 c (List.mem_filter.mp hc).1
 have hn:=QcO (m:=Qaa 5) (ρ:=eV ps row w y (some (dLs rows)) (some (dLs (l12 A))) (some (dW (rows.flatMap nb))) none) (O:=O') (l:=(l12 A).map dW) rfl;rw [zd] at hn;have t12:=Qig (b:=mC (.int 12)) (j:=12) hn rfl;show QaK (Qf1 (eV ps row w y none none none none) O)=_;unfold Qf1;rw [sq (QaO s4)];show QaK (Qai _ _ (eV ps row w y (some (dLs (ps.map fun p=>p.1))) none none none) O)=_;rw [sq s4b,sq (Qgi s5)];show QaK (Qai _ _ (eV ps row w y (some (dLs rows)) (some (dLs (l12 A))) none none) O')=_;rw [QaS,if_no tA,QbR,QaL,sq (QaO s6)];show QaK (Qai _ _ (eV ps row w y (some (dLs rows)) (some (dLs (l12 A))) (some (dW (rows.flatMap nb))) none) O')=_
 rw [QaS]
 by_cases h12:(l12 A).length=12
 ·rw [Qev (by rw [t12,zq (by omega)]),sq (QaO (s7 _))];show QaK (QgT (Qax _ (eV ps row w y (some (dLs rows)) (some (dLs (l12 A))) (some (dW (rows.flatMap nb))) (some (dW ((l12 A).flatMap nb)))) O') _)=_;have suf:=QsL A;rw [←zb] at suf
  have le:((l12 A).flatMap nb).length≤(rows.flatMap nb).length:=by
   have:=congrArg List.length suf
   rw [List.length_drop] at this;omega
  have sl:mSl (Qaa 6) (moS (Qaf QdQ (Qav Qa4 (Qab (Qaa 6) Qae)) (Qav Qa4 (Qab (Qaa 7) Qae)))) moN (eV ps row w y (some (dLs rows)) (some (dLs (l12 A))) (some (dW (rows.flatMap nb))) (some (dW ((l12 A).flatMap nb)))) O' = .ok (dW ((l12 A).flatMap nb)) O':=by
   show Res.ok (D.lst (Qbt ((rows.flatMap nb).map dL) (some (((rows.flatMap nb).map dL).length - (((l12 A).flatMap nb).map dL).length:Int)) none)) O'=_;rw [zd,zd,show ((rows.flatMap nb).length:Int) - (((l12 A).flatMap nb).length:Int)=(((rows.flatMap nb).length - ((l12 A).flatMap nb).length:Nat):Int) by omega,Qm1,←List.map_drop,suf];rfl
  rw [QbY (QaH (x:=dW ((l12 A).flatMap nb)) (z:=.bl true) rfl sl ((QlC okS okS).trans (by rw [QgA (QiQ okS)])))];rfl
 ·have hall:=Qta h12;rw [if_no (by rw [t12,zh (by omega)]),QbR,QaL];have q1:Qaf gEq (Qau Qck (Qab (Qaa 5) Qae)) (Qaa 6) (eV ps row w y (some (dLs rows)) (some (dLs (l12 A))) (some (dW (rows.flatMap nb))) none) O' = .ok (.bl true) O' :=
   QaH (s7 _) (y:=dW (rows.flatMap nb)) rfl ((QlC okS okQ).trans (by rw [hall,zb,QgA (QiQ (by rw [←zb]; exact okQ))]))
  have q2:Qau QcA (Qab (Qaa 5) (Qab (Qaa 4) Qae)) (eV ps row w y (some (dLs rows)) (some (dLs (l12 A))) (some (dW (rows.flatMap nb))) none) O' = .ok (.bl true) O' :=
   (QaQ (maS (x:=dLs (l12 A)) rfl (ma1 (x:=dLs rows) rfl))).trans (by rw [hall]; exact eg)
  rw [QbY (d:=.bl true) (O1:=O') (by rw [Qpv,q1,Qaq,Qsq,if_pos rfl,q2])];rfl
def Qe0:MS:=(QaV (Qc9 (Qcd (Qau Qek (Qab (Qaa 1) (Qab (Qaa 3) (Qab (Qaa 4) (Qab (Qaa 5) Qae))))))) (Qax (mC (.bl false))) QaP)
theorem Qrm (ns:List Int) (hns:ns.length≤63):∃O,Qr5 [.lst (ns.map D.int)] [] = .ok (.bl true) O:=by
 obtain ⟨qs,hq1,hq2,ep⟩:=QsB ns [];obtain ⟨v3,e3⟩:=Qj9 ns 3 [];obtain ⟨v0,e0⟩:=Qj9 ns 0 [];have m0:=ja v3 (show (9:Int)≠0 by decide);have m1:=jb v3 (show (0:Int) < 9 by decide);have m2:=ja v0 (show (9:Int)≠0 by decide);have m3:=jb v0 (show (0:Int) < 9 by decide);obtain ⟨n,hn⟩:=Int.eq_ofNat_of_zero_le m0;obtain ⟨row,hrow,er⟩:=Qk6 v3 n (by omega) [];obtain ⟨ps,hps⟩:∃ps,ps=qs.take 3:=⟨_,rfl⟩
 have hp1:ps.length≤4:=by rw [hps,List.length_take]; omega
 have hp2:∀p∈ps,Rw p.1:=fun p hp=>hq2 p (List.mem_of_mem_take (by rw [←hps]; exact hp))
 obtain ⟨w,hw⟩:∃w:Int,w=4+v0 % 9:=⟨_,rfl⟩
 have hw2:2≤w∧w≤40:=by omega
 obtain ⟨O1,h1⟩:=Qmu ps hp1 hp2 row w Wy3.cells hrow hw2 [];obtain ⟨O2,h2⟩:=Qmu ps hp1 hp2 row w Wy3.words hrow hw2 O1;obtain ⟨O3,h3⟩:=Qmu ps hp1 hp2 row w Wy3.even hrow hw2 O2
 have s1:mSl (Qau Qff (Qab (Qaa 0) (Qab (mC (.int 8)) Qae))) moN (moS (mC (.int 3))) [some (.lst (ns.map D.int)),none,none,none,none,none] [] = .ok (.lst (ps.map dP)) []:=by
  rw [QqU,QaQ (maS (x:=.lst (ns.map D.int)) rfl (ma1 (x:=.int 8) rfl)),ep,Qaq];show Res.ok (D.lst (Qbt (qs.map dP) none (some ((3:Nat):Int)))) []=_;rw [Qka,←List.map_take,←hps]
 have s2:Qau Qbc (Qab (Qaa 0) (Qab (mC (.int 3)) Qae)) [some (.lst (ns.map D.int)),some (.lst (ps.map dP)),none,none,none,none] [] = .ok (.int v3) []:=(QaQ (maS rfl (ma1 rfl))).trans e3
 have s3:Qau Qcb (Qab (Qaa 2) (Qab (Qaf QbA (Qaa 2) (mC (.int 9))) (Qab (mC (.int 12)) Qae))) [some (.lst (ns.map D.int)),some (.lst (ps.map dP)),some (.int v3),none,none,none] [] = .ok (dW row) []:=by
  rw [QaQ (maS (x:=.int v3) rfl (maS (x:=.int (n:Int)) ((QeB (i:=v3) rfl rfl (by decide)).trans (by rw [hn])) (ma1 (x:=.int 12) rfl)))];exact er
 have s4:Qaf QaJ (mC (.int 4)) (Qaf QbA (Qau Qbc (Qab (Qaa 0) (Qab (mC (.int 0)) Qae))) (mC (.int 9))) [some (.lst (ns.map D.int)),some (.lst (ps.map dP)),some (.int v3),some (dW row),none,none] [] = .ok (.int w) [] :=
  (QgH (i:=4) rfl (QeB ((QaQ (maS rfl (ma1 rfl))).trans e0) rfl (by decide))).trans (by rw [hw])
 have tn:∀{y:List Nat}{O O':Qac},Qek [.lst (ps.map dP),dW row,.int w,.str y] O = .ok (.bl true) O'→Qe0 [some (.lst (ns.map D.int)),some (.lst (ps.map dP)),some (.int v3),some (dW row),some (.int w),some (.str y)] O = .nx [some (.lst (ns.map D.int)),some (.lst (ps.map dP)),some (.int v3),some (dW row),some (.int w),some (.str y)] O':=fun {y O O'} h=>by
  unfold Qe0;rw [QdU,Qj6,Qhu,QaQ (maS (x:=.lst (ps.map dP)) rfl (maS (x:=dW row) rfl (maS (x:=.int w) rfl (ma1 (x:=.str y) rfl)))),h];rfl
 refine ⟨O3,?_⟩;show QaK (QlL [some (.lst (ns.map D.int)),none,none,none,none,none] [])=_;unfold QlL;rw [sq (QaO s1)];show QaK (Qai _ _ [some (.lst (ns.map D.int)),some (.lst (ps.map dP)),none,none,none,none] [])=_;rw [sq (QaO s2)];show QaK (Qai _ _ [some (.lst (ns.map D.int)),some (.lst (ps.map dP)),some (.int v3),none,none,none] [])=_;rw [sq (QaO s3)];show QaK (Qai _ _ [some (.lst (ns.map D.int)),some (.lst (ps.map dP)),some (.int v3),some (dW row),none,none] [])=_;rw [sq (QaO s4)];show QaK (Qai (Qbl _ (mgN 5) Qe0) _ [some (.lst (ns.map D.int)),some (.lst (ps.map dP)),some (.int v3),some (dW row),some (.int w),none] [])=_
 have fl:QaZ (mgN 5) Qe0 [.str Qfm,.str QdN,.str Qfg] [some (.lst (ns.map D.int)),some (.lst (ps.map dP)),some (.int v3),some (dW row),some (.int w),none] [] = .nx [some (.lst (ns.map D.int)),some (.lst (ps.map dP)),some (.int v3),some (dW row),some (.int w),some (.str Qfg)] O3:=by
  unfold QaZ
  show (match Qe0 [some (.lst (ns.map D.int)),some (.lst (ps.map dP)),some (.int v3),some (dW row),some (.int w),some (.str Qfm)] [] with
   | .nx ρ' O'=>QaZ (mgN 5) Qe0 [.str QdN,.str Qfg] ρ' O' | .ct ρ' O'=>QaZ (mgN 5) Qe0 [.str QdN,.str Qfg] ρ' O' | .bk ρ' O'=>Fl.nx ρ' O' | r=>r)=_
  rw [tn h1];dsimp only;unfold QaZ
  show (match Qe0 [some (.lst (ns.map D.int)),some (.lst (ps.map dP)),some (.int v3),some (dW row),some (.int w),some (.str QdN)] O1 with
   | .nx ρ' O'=>QaZ (mgN 5) Qe0 [.str Qfg] ρ' O' | .ct ρ' O'=>QaZ (mgN 5) Qe0 [.str Qfg] ρ' O' | .bk ρ' O'=>Fl.nx ρ' O' | r=>r)=_
  rw [tn h2];dsimp only;unfold QaZ
  show (match Qe0 [some (.lst (ns.map D.int)),some (.lst (ps.map dP)),some (.int v3),some (dW row),some (.int w),some (.str Qfg)] O2 with
   | .nx ρ' O'=>QaZ (mgN 5) Qe0 [] ρ' O' | .ct ρ' O'=>QaZ (mgN 5) Qe0 [] ρ' O' | .bk ρ' O'=>Fl.nx ρ' O' | r=>r)=_
  rw [tn h3];rfl
 rw [QaS,Qc1,Qcr (l:=[.str Qfm,.str QdN,.str Qfg]) rfl,Qcw,fl,QaL];rfl
theorem all_mk {l:PySem.W.OpenLaw}{w:World}{K:PySem.W.Frag}{h:Heap}{mg:Str→Option Value}{fa:Addr} (X:K.In h) (G:h.Ns mainGlobals mg) (hfa:mg "law" = some (.ref fa))
  {QdM:Addr}
  {Qo7:Addr}{Qvf Qps:Option Addr}{QvL:Array (Option Value)}{Qug Qqd Qpj Qqh Qm0 Qpg:Value}
  {ad_WAYS:Addr}{Qn1:Value}{QsX:Option Addr}{it_WAYS:Array Value}{nn_WAYS:Nat}{QtW:Array (Option Value)}
  (Z_Even:ClsAt K "Even" QdM)
  (Qkz:PySem.W.findIn K (.ref QdM) "letters" = some none)
  (Qnn:PySem.W.findIn K (.ref QdM) "wide" = some none)
  (QhB:Def K mg "width_of" QhW)
  (Qhw:Def K mg "cells_of" QfY)
  (Qh2:Def K mg "is_break" Qia)
  (QkB:Def K mg "reach" QkI)
  (QeG:Def K mg "fitting_ends" QeL)
  (Qg2:Def K mg "line_ends" Qg7)
  (QhD:Def K mg "is_whole" QhA)
  (QgV:Def K mg "is_within" QgY)
  (QgO:Def K mg "cost_over" QgX)
  (Qgm:Def K mg "least_cost" Qdn)
  (M_Even_nodes_at:MethAt K QdM "nodes_at" "Even.nodes_at" Qew)
  (M_Even_is_end:MethAt K QdM "is_end" "Even.is_end" QfD)
  (M_Even_cost_to:MethAt K QdM "cost_to" "Even.cost_to" QeJ)
  (M_Even_moves_from:MethAt K QdM "moves_from" "Even.moves_from" QcE)
  (QfG:Def K mg "price_nodes" Qfu)
  (M_Even_last_at:MethAt K QdM "last_at" "Even.last_at" QeW)
  (Qjy:Def K mg "priced" QjO)
  (Qd3:Def K mg "first_cheapest" QcY)
  (M_Even_first_node:MethAt K QdM "first_node" "Even.first_node" QdG)
  (QjJ:Def K mg "way_of" QjA)
  (M_Even___init__:MethAt K QdM "__init__" "Even.__init__" Qec)
  (QmH:Def K mg "even" Qkp)
  (Qjz:Def K mg "is_way" Qjr)
  (Qif:Def K mg "next_end" QhU)
  (Qgv:Def K mg "end_to_end" Qgb)
  (Ql7:Def K mg "fold" Qm6)
  (Qh3:Def K mg "shown_of" Qh9)
  (QjG:Def K mg "folded" Qib)
  (Qgt:Def K mg "last_lines" Qed)
  (QhM:Def K mg "lines_of" QfQ)
  (QfF:Def K mg "_law_cell_at" QfC)
  (Qiv:Def K mg "_law_mix" Qiz)
  (Qfv:Def K mg "_law_letters" QfB)
  (QgI:Def K mg "_law_parts" Qg3)
  (Qg5:Def K mg "_law_cells" Qfb)
  (QgK:Def K mg "_law_signs" Qfc)
  (QgS:Def K mg "_law_rises" QgN)
  (QeX:Def K mg "_law_left_out" QeQ)
  (Qdb:Def K mg "_law_gone_through" Qde)
  (Qh5:Def K mg "_law_held" Qdv)
  (QoH:PySem.W.nsIn K mainGlobals "law" = some (some (.ref Qo7))) (Qr9:K.lookup Qo7=some ⟨Qug,Qvf,.func (PySem.W.fnOf "law" "law" (Qcu Qe8) (QbF Qe8) (Qam Qe8) .none Qqd Qpj Qqh Qps Qm0 Qpg),QvL⟩) (Qu7:PySem.W.codeIn K Qm0 "law" = true) (Qv3:PySem.W.keepIn K (.ref Qo7)=true)
  (B:Qbf mg)
  (NK:Qa6 K=true)
  (QiX:∃u,mg "BROAD" = some u∧RelV (.int 4) u)
  (Qdd:∃u,mg "GREATEST_BREADTH" = some u∧RelV (.int 40) u)
  (Qez:∃u,mg "LEAST_BREADTH" = some u∧RelV (.int 2) u)
  (Qhh:∃u,mg "TALL" = some u∧RelV (.int 3) u)
  (Qoi:∃u,mg "WAY" = some u∧RelV (.int 5) u)
  (QqR:PySem.W.nsIn K mainGlobals "WAYS" = some (some (.ref ad_WAYS))) (Qrp:K.lookup ad_WAYS=some ⟨Qn1,QsX,.seq it_WAYS nn_WAYS,QtW⟩) (t_c_WAYS:Qn1 = .type "tuple") (QrL:it_WAYS.size≤sizeLine) (v_c_WAYS:Qaz (List.map (fun l=>V.str (S l)) [[99,117,116],[99,101,108,108,115],[119,111,114,100,115],[101,118,101,110]]) it_WAYS.toList) :
  ∃fd:FuncData,(∀(s:Shared) (v:Value),BindsTo s fd ⟨[v],[]⟩ [("_law_script",v)])∧∀base:Heap,K.In base→base.Ns mainGlobals mg→Qcc l.prog w K mg base CX0 14 fa fd ["_law_script"] (sp_law K):=by
 have e:=hfa.symm.trans (PySem.W.mg_of X G QoH);cases e;have QaX:=Z_Even.kf X G Qkz;have Qb6:=Z_Even.kf X G Qnn;have QeF:=Z_Even.dm X G M_Even_nodes_at;have Qfy:=Z_Even.dm X G M_Even_is_end;have QeU:=Z_Even.dm X G M_Even_cost_to;have QdE:=Z_Even.dm X G M_Even_moves_from;have Qe2:=Z_Even.dm X G M_Even_last_at;have QdJ:=Z_Even.dm X G M_Even_first_node;have QeD:=Z_Even.dc X G M_Even___init__;have QoZ:Def K mg "law" Qe8:=⟨_,_,PySem.W.mg_of X G QoH,QmW (st:=Qe8) Qr9 Qu7 Qv3⟩;have Qmf:QrC K mg "WAYS" [[99,117,116],[99,101,108,108,115],[119,111,114,100,115],[101,118,101,110]]:=⟨ad_WAYS,_,it_WAYS,nn_WAYS,PySem.W.mg_of X G QqR,Qrp,t_c_WAYS,rfl,QrL,v_c_WAYS⟩
 refine ⟨PySem.W.fnOf "law" "law" (Qcu Qe8) (QbF Qe8) (Qam Qe8) .none Qqd Qpj Qqh Qps Qm0 Qpg,fun s v=>.of_eq rfl,fun base _ _=>?_⟩;have Qb3:=@Qne l.prog w K mg base QhB B NK;have QhK:=@Qnr l.prog w K mg base Qhw B NK Qb3;have QhF:=@Qny l.prog w K mg base Qh2 B NK;have Qcv:=@QqS l.prog w K mg base QkB B NK Qb3;have QeI:=@Qj8 l.prog w K mg base QeG B NK Qb3 QhF;have Qc5:=@Qm4 l.prog w K mg base Qg2 B NK QeI Qcv QhK;have QhS:=@Qnj l.prog w K mg base QhD B NK;have Qg1:=@Qm7 l.prog w K mg base QgV B NK QhS;have Qc3:=@Ql4 l.prog w K mg base QgO B NK;have QcI:=@Qlx l.prog w K mg base Qgm B NK Qc3
 have QeE:=@Qjw l.prog w K mg base QeF B NK;have QbH:=@QkE l.prog w K mg base Qfy B NK QaX;have Qe1:=@Qke l.prog w K mg base QeU B NK QaX Qb6;have QbU:=@Qip l.prog w K mg base QdE B NK QaX Qb6 QbH Qc5 Qe1;have QfA:=@QkD l.prog w K mg base QfG B NK QeE QbU QbH QcI;have Qe5:=@Qkf l.prog w K mg base Qe2 B NK QaX;have Qjs:=@Qpf l.prog w K mg base Qjy B NK Qe5 QfA;have Qd5:=@Qjb l.prog w K mg base Qd3 B NK QcI Qc3;have QdF:=@QiE l.prog w K mg base QdJ B NK;have Qjq:=@QpN l.prog w K mg base QjJ B NK Qjs QdF QbH Qd5 QbU;have Qet:=@QjE l.prog w K mg base QeD B NK QaX Qb6;have Qm3:=@QtJ l.prog w K mg base QmH B NK Qjq Qet
 have QjN:=@QpG l.prog w K mg base Qjz B NK Qmf;have QhN:=@Qnv l.prog w K mg base Qif B NK Qc5 Qcv;have Qge:=@Qlw l.prog w K mg base Qgv B NK QhN;have QmV:=@QsQ l.prog w K mg base Ql7 B NK Qdd Qez Qg1 QjN Qcv Qm3 Qge;have Qhv:=@Qni l.prog w K mg base Qh3 B NK Qcv;have QeO:=@Qpb l.prog w K mg base QjG B NK QiX Qoi QmV Qhv;have Qgc:=@QlA l.prog w K mg base Qgt B NK Qhh QeO;have QhX:=@Qnx l.prog w K mg base QhM B NK Qhh QeO Qgc;have QbV:=@QkN l.prog w K mg base QfF B NK;have Qdq:=@QoL l.prog w K mg base Qiv B NK;have Qcx:=@Qk1 l.prog w K mg base Qfv B NK Qdq;have QgL:=@QmR l.prog w K mg base QgI B NK QbV Qdq Qcx
 have QgW:=@Qmt l.prog w K mg base Qg5 B NK;have QdL:=@QlQ l.prog w K mg base QgK B NK;have QgU:=@Qmk l.prog w K mg base QgS B NK;have QeM:=@QjR l.prog w K mg base QeX B NK;have Qdr:=@Qil l.prog w K mg base Qdb B NK QeM;have Qic:=@Qns l.prog w K mg base Qh5 B NK QhX QgW QgU QdL Qdr;have Qwh:=@Qvm l.prog w K mg base QoZ B NK QgL QbV Qcx Qic;obtain ⟨f',fd',hm',hk',hb',F',oc',od',osl',lk'⟩:=Qwh;have e2:=(PySem.W.mg_of X G QoH).symm.trans hm';cases e2;have e3:=Qr9.symm.trans lk';cases e3;exact F'.imp (Qsx Qrm)
theorem walk {l:PySem.W.OpenLaw}{q:Program}{loose:List Str}{XP:(Str→Option Value)→Heap→Prop}{YP:World→Heap→Prop}{d:DefRec}{K:Params→PySem.W.Frag} (hn:l.most=some 63) (hdf:d.params.defaults = [])
  (hY:∀(w:World) (h:Heap),YP w h→(K w.params).In h)
  (F:∀(w:World) (mg:Str→Option Value) (fa:Addr) (h:Heap),(K w.params).In h→h.Ns mainGlobals mg→mg d.name=some (.ref fa) →
   ∃fd:FuncData,(∀(s:Shared) (u:Value),BindsTo s fd ⟨[u],[]⟩ [("_law_script",u)])∧∀base:Heap,(K w.params).In base→base.Ns mainGlobals mg→Qcc l.prog w (K w.params) mg base CX0 14 fa fd ["_law_script"] (sp_law (K w.params))) :
  PySem.W.WalkO q loose XP YP l.row.toRowW d [] (fun f vs=>PySem.call f vs) :=
 L2.walk_ofR (n:=63) (k:=14) (x:="_law_script") (CX:=fun _=>CX0) (sp:=fun w=>sp_law (K w.params)) hn (by decide) hdf ⟨rfl,by decide,by decide⟩ hY F (fun _ _ a ns hl ho hS=>⟨a,ns,rfl,hS,hl,ho,fun _=>rfl⟩) fun _ _ _ _ _ z=>z
end K64
open PySem PySem.W PyProof.Rows L2
set_option maxRecDepth 100000 in
set_option maxHeartbeats 0 in
theorem PySem.Challenge.cw_outweave_k64_whole_nothing_lost_holds : PySem.Challenge.rw_outweave_k64_whole_nothing_lost.Holds := by
 w_on; o_law; k_head; (case hw=>w_witness2)
 k_fill
 refine K64.walk (l:=PySem.Challenge.rw_outweave_k64_whole_nothing_lost) rfl rfl (fun w h Y=>PySem.W.kIn_of Y) ?F
 case F =>
  intro w mg fa h KX G hmg
  refine' K64.all_mk KX G hmg ⟨?x1,?x2,?x3,?x4,?x5,?x6,?x7⟩ ?x8 ?x9 (mkD KX G ?x10 ?x11 ?x12 ?x13) (mkD KX G ?x14 ?x15 ?x16 ?x17) (mkD KX G ?x18 ?x19 ?x20 ?x21) (mkD KX G ?x22 ?x23 ?x24 ?x25) (mkD KX G ?x26 ?x27 ?x28 ?x29) (mkD KX G ?x30 ?x31 ?x32 ?x33) (mkD KX G ?x34 ?x35 ?x36 ?x37) (mkD KX G ?x38 ?x39 ?x40 ?x41) (mkD KX G ?x42 ?x43 ?x44 ?x45) (mkD KX G ?x46 ?x47 ?x48 ?x49) (mkM ?x50 ?x51 ?x52 ?x53 ?x54) (mkM ?x55 ?x56 ?x57 ?x58 ?x59) (mkM ?x60 ?x61 ?x62 ?x63 ?x64) (mkM ?x65 ?x66 ?x67 ?x68 ?x69) (mkD KX G ?x70 ?x71 ?x72 ?x73) (mkM ?x74 ?x75 ?x76 ?x77 ?x78) (mkD KX G ?x79 ?x80 ?x81 ?x82) (mkD KX G ?x83 ?x84 ?x85 ?x86) (mkM ?x87 ?x88 ?x89 ?x90 ?x91) (mkD KX G ?x92 ?x93 ?x94 ?x95) (mkM ?x96 ?x97 ?x98 ?x99 ?x100) (mkD KX G ?x101 ?x102 ?x103 ?x104) (mkD KX G ?x105 ?x106 ?x107 ?x108) (mkD KX G ?x109 ?x110 ?x111 ?x112) (mkD KX G ?x113 ?x114 ?x115 ?x116) (mkD KX G ?x117 ?x118 ?x119 ?x120) (mkD KX G ?x121 ?x122 ?x123 ?x124) (mkD KX G ?x125 ?x126 ?x127 ?x128) (mkD KX G ?x129 ?x130 ?x131 ?x132) (mkD KX G ?x133 ?x134 ?x135 ?x136) (mkD KX G ?x137 ?x138 ?x139 ?x140) (mkD KX G ?x141 ?x142 ?x143 ?x144) (mkD KX G ?x145 ?x146 ?x147 ?x148) (mkD KX G ?x149 ?x150 ?x151 ?x152) (mkD KX G ?x153 ?x154 ?x155 ?x156) (mkD KX G ?x157 ?x158 ?x159 ?x160) (mkD KX G ?x161 ?x162 ?x163 ?x164) (mkD KX G ?x165 ?x166 ?x167 ?x168) (mkD KX G ?x169 ?x170 ?x171 ?x172) (mkD KX G ?x173 ?x174 ?x175 ?x176) ?x177 ?x178 ?x179 ?x180 ⟨⟨⟨PySem.W.mg_none_of KX G ?x181,PySem.W.mg_none_of KX G ?x182,PySem.W.mg_none_of KX G ?x183,PySem.W.mg_none_of KX G ?x184,PySem.W.mg_none_of KX G ?x185,PySem.W.mg_none_of KX G ?x186,PySem.W.mg_none_of KX G ?x187,PySem.W.mg_none_of KX G ?x188,PySem.W.mg_none_of KX G ?x189,PySem.W.mg_none_of KX G ?x190,PySem.W.mg_none_of KX G ?x191,PySem.W.mg_none_of KX G ?x192,PySem.W.mg_none_of KX G ?x193,PySem.W.mg_none_of KX G ?x194,PySem.W.mg_none_of KX G ?x195⟩,PySem.W.mg_none_of KX G ?x196⟩,PySem.W.mg_none_of KX G ?x197⟩ ?x198 ⟨_,PySem.W.mg_of KX G ?x199,?x200⟩ ⟨_,PySem.W.mg_of KX G ?x201,?x202⟩ ⟨_,PySem.W.mg_of KX G ?x203,?x204⟩ ⟨_,PySem.W.mg_of KX G ?x205,?x206⟩ ⟨_,PySem.W.mg_of KX G ?x207,?x208⟩ ?x209 ?x210 ?x211 ?x212 ?x213
  (case x1 | x2 | x3 | x4 | x5 | x6 | x7 | x8 | x9 | x10 | x11 | x12 | x13 | x14 | x15 | x16 | x17 | x18 | x19 | x20 | x21 | x22 | x23 | x24 | x25 | x26 | x27 | x28 | x29 | x30 | x31 | x32 | x33 | x34 | x35 | x36 | x37 | x38 | x39 | x40 | x41 | x42 | x43 | x44 | x45 | x46 | x47 | x48 | x49 | x50 | x51 | x52 | x53 | x54 | x55 | x56 | x57 | x58 | x59 | x60 | x61 | x62 | x63 | x64 | x65 | x66 | x67 | x68 | x69 | x70 | x71 | x72 | x73 | x74 | x75 | x76 | x77 | x78 | x79 | x80 | x81 | x82 | x83 | x84 | x85 | x86 | x87 | x88 | x89 | x90 | x91 | x92 | x93 | x94 | x95 | x96 | x97 | x98 | x99 | x100 | x101 | x102 | x103 | x104 | x105 | x106 | x107 | x108 | x109 | x110 | x111 | x112 | x113 | x114 | x115 | x116 | x117 | x118 | x119 | x120 | x121 | x122 | x123 | x124 | x125 | x126 | x127 | x128 | x129 | x130 | x131 | x132 | x133 | x134 | x135 | x136 | x137 | x138 | x139 | x140 | x141 | x142 | x143 | x144 | x145 | x146 | x147 | x148 | x149 | x150 | x151 | x152 | x153 | x154 | x155 | x156 | x157 | x158 | x159 | x160 | x161 | x162 | x163 | x164 | x165 | x166 | x167 | x168 | x169 | x170 | x171 | x172 | x173 | x174 | x175 | x176 | x177 | x178 | x179 | x180 | x181 | x182 | x183 | x184 | x185 | x186 | x187 | x188 | x189 | x190 | x191 | x192 | x193 | x194 | x195 | x196 | x197 | x199 | x201 | x203 | x205 | x207 | x209 | x210=>k_is)
  (case x198=>first | kernel_rfl | decide +kernel)
  (case x200 | x202 | x204 | x206 | x208=>exact ⟨_,rfl⟩)
  (case x211=>rfl)
  (case x212=>decide +kernel)
  (case x213=>repeat (first | exact .nil | refine .cons ⟨_,rfl⟩ ?_))
