import PyProof.Rows.All
import Wide.All
import OpenK.AllK
import Wide.FinOn
import Lean
import PyProof.EqAt
import PyProof.EqKinds
import PyProof.TupleCall
import PySem.Challenge.RW_outweave_k27_most_refused
set_option Elab.async false
set_option linter.all false
set_option maxRecDepth 100000
set_option maxHeartbeats 4000000
section
open PySem PyProof.Rows
abbrev za:=@wpAny_bind
abbrev zb:=@wpAny_pure
abbrev zc:=@Nat.le_refl
abbrev zd:=@Heap.lt_size
abbrev ze:=@List.getElem?_set_ne
abbrev zf:=@List.map_cons
abbrev zg:=@Bool.and_eq_true
abbrev zh:=@Bool.false_ne_true
abbrev zj:=@List.getElem?_eq_some_iff
abbrev zk:=@Heap.get?_push_of_some
abbrev zl:=@Nat.ne_of_lt
abbrev zm:=@List.mem_cons
abbrev zn:=@List.size_toArray
abbrev zo:=@wpAny_mono
abbrev zp:=@List.getElem?_cons_zero
abbrev zq:=@List.length_cons
abbrev zr:=@List.mem_singleton
abbrev zt:=@List.getElem?_append_left
abbrev zu:=@List.length_append
abbrev zv:=@List.mem_cons_of_mem
abbrev zw:=@List.getElem?_append_right
abbrev zx:=@List.getElem?_cons_succ
abbrev zy:=@decide_eq_false
abbrev zz:=@Nat.lt_of_lt_of_le
abbrev zA:=@Nat.le_trans
abbrev zB:=@List.mem_cons_self
abbrev zC:=@List.mem_append
abbrev zD:=@List.length_map
abbrev zE:=@List.getElem?_set_self
abbrev zF:=@wpAny_holding
abbrev zG:=@List.append_nil
abbrev zH:=@Option.some.inj
abbrev zI:=@List.length_nil
abbrev zJ:=@List.getElem?_map
abbrev zK:=@List.getElem?_eq_getElem
abbrev zL:=@Heap.get?_push_size
abbrev zM:=@Nat.lt_irrefl
abbrev zN:=@List.mem_of_getElem?
abbrev zO:=@List.map_append
abbrev zP:=@List.mem_append_right
abbrev zQ:=@wpAny_call
abbrev zR:=@List.length_set
abbrev zS:=@List.set_cons_succ
abbrev zT:=@List.set_cons_zero
abbrev zU:=@List.append_assoc
abbrev zV:=@decide_eq_true
abbrev zW:=@List.length_singleton
abbrev zX:=@wpAny_of_eq
abbrev zY:=@wpAny_rule
abbrev zZ:=@List.mem_map
abbrev jc:=@List.nil_append
abbrev jd:=@Nat.lt_succ_self
abbrev je:=@Nat.le_add_right
abbrev jf:=@List.getD_eq_getElem?_getD
abbrev jg:=@codeAny_builtin
abbrev jh:=@Int.emod_nonneg
abbrev ji:=@List.all_eq_true
abbrev jj:=@Classical.not_not
abbrev jk:=@of_decide_eq_true
abbrev jl:=@List.nodup_append
abbrev jm:=@List.getElem_mem
abbrev jn:=@Int.emod_lt_of_pos
end
namespace PySem.W.Fast
abbrev tw5105293616200816062:=()
abbrev tw6887066768418861837:=()
abbrev tw8013363562561504625:=()
abbrev tw10708772949773665200:=()
abbrev tw15008125632606163538:=()
abbrev tw10482870589968991176:=()
abbrev tw11728848218508327214:=()
abbrev tw17520564805946488788:=()
abbrev tw3336218476205795241:=()
abbrev tw13266647253383219182:=()
abbrev tw6814024115635707699:=()
abbrev tw4798382128963321090:=()
abbrev tw13999770673892405936:=()
abbrev tw13319198840476134799:=()
abbrev tw14177493513366868082:=()
abbrev tw15165788787115215155:=()
abbrev tw15726131695716975139:=()
abbrev tw3395728275779894008:=()
abbrev tw11366980247886387865:=()
abbrev tw14217636881271156982:=()
abbrev tw9543673153161129988:=()
abbrev tw3888582319174199230:=()
abbrev tw1449821086608606082:=()
abbrev tw4387076788005343372:=()
abbrev tw17645520868213533106:=()
abbrev tw6808700583892939203:=()
abbrev tw18097511631758618223:=()
abbrev tw4302491489435040513:=()
abbrev tw17131350701834677964:=()
abbrev tw17735631038102407636:=()
abbrev tw10680029993422714822:=()
abbrev tw4075788556585867231:=()
abbrev tw7917205143553949:=()
abbrev tw7419377392502986104:=()
abbrev tw10929493193639727308:=()
abbrev tw4840875043717591125:=()
abbrev tw12223811679052129826:=()
abbrev tw15341950360350365209:=()
abbrev tw16205809123813196737:=()
abbrev tw1383177684636962711:=()
end PySem.W.Fast
namespace L2
open PySem PySem.Spec PyProof.Rows
abbrev Key:=Sum Int Str
def QsP:Key→Value→Bool
 | .inl k,v=>Value.isInt k v
 | .inr x,v=>Value.isStrOf x v
def Qx2 (w:World):Key→Int
 | .inl k=>hashInt k
 | .inr x=>hashStr w x
theorem Qcr:∀{k:Key}{v:Value},QsP k v=true→(∃i t,k=Sum.inl i∧v=Value.int i t)∨(∃x t,k=Sum.inr x∧v=Value.str x t)
 | .inl i,v,h=>by
  obtain ⟨t,e⟩:=Value.isInt_shape (k:=i) (v:=v) h;exact .inl ⟨i,t,rfl,e⟩
 | .inr x,v,h=>by
  obtain ⟨t,e⟩:=Value.isStrOf_shape (x:=x) (v:=v) h;exact .inr ⟨x,t,rfl,e⟩
theorem QvN (a b:Int):decide ((Sum.inl a:Key)=Sum.inl b)=(a == b):=by
 by_cases e:a=b
 ·subst e; simp
 ·have h:¬(Sum.inl a:Key)=Sum.inl b:=fun q=>e (Sum.inl.inj q)
  rw [zy h];exact (beq_eq_false_iff_ne.mpr e).symm
theorem QuZ (a b:Str):decide ((Sum.inr a:Key)=Sum.inr b)=decide (a=b):=by
 by_cases e:a=b
 ·subst e; simp
 ·have h:¬(Sum.inr a:Key)=Sum.inr b:=fun q=>e (Sum.inr.inj q)
  rw [zy h,zy e]
theorem QvD (a:Int) (b:Str):decide ((Sum.inl a:Key)=Sum.inr b)=false:=zy (fun q=>nomatch q)
theorem Qvd (a:Str) (b:Int):decide ((Sum.inr a:Key)=Sum.inl b)=false:=zy (fun q=>nomatch q)
def Qlb (prog:Program) (w:World):PySem.KeyKind prog w Key where
 is:=QsP
 hash:=Qx2 w
 inj:=fun v a b ha hb=>by
  rcases Qcr ha with ⟨i,t,rfl,rfl⟩ | ⟨x,t,rfl,rfl⟩
  ·rcases Qcr hb with ⟨j,u,rfl,e⟩ | ⟨y,u,rfl,e⟩
   ·injection e with e1 _; rw [e1]
   ·exact nomatch e
  ·rcases Qcr hb with ⟨j,u,rfl,e⟩ | ⟨y,u,rfl,e⟩
   ·exact nomatch e
   ·injection e with e1 _; rw [e1]
 byValue:=fun k v h=>by
  rcases Qcr h with ⟨i,t,rfl,rfl⟩ | ⟨x,t,rfl,rfl⟩ <;> rfl
 pyHash:=fun hv h=>by
  rcases Qcr hv with ⟨i,t,rfl,rfl⟩ | ⟨x,t,rfl,rfl⟩
  ·exact wpAny_pyHash_int h
  ·exact wpAny_pyHash_str h
 eqBool:=fun hu hv h=>by
  rcases Qcr hu with ⟨i,t,rfl,rfl⟩ | ⟨x,t,rfl,rfl⟩
  ·rcases Qcr hv with ⟨j,u,rfl,rfl⟩ | ⟨y,u,rfl,rfl⟩
   ·rw [QvN] at h; exact wpAny_eqBool_int h
   ·rw [QvD] at h; exact SeqAt.EqAt.int_str i t y u _ _ _ _ h
  ·rcases Qcr hv with ⟨j,u,rfl,rfl⟩ | ⟨y,u,rfl,rfl⟩
   ·rw [Qvd] at h; exact SeqAt.EqAt.str_int x t j u _ _ _ _ h
   ·rw [QuZ] at h; exact wpAny_eqBool_str h
 «strs»:=fun k x t v h=>by
  rcases Qcr h with ⟨i,u,rfl,e⟩ | ⟨y,u,rfl,e⟩
  ·exact nomatch e
  ·injection e with e1 _
   subst e1
   cases v <;> rfl
inductive V where
 | non | bl (b:Bool) | int (i:Int) | str (x:Str) | byt (b:Array UInt8) | flt (b:UInt64) | ref (a:Addr) | ty (n:String)
 deriving DecidableEq
def RelV:V→Value→Prop
 | .non,u=>u=Value.none
 | .bl b,u=>u=Value.bool b
 | .int i,u=>∃t,u=Value.int i t
 | .str x,u=>∃t,u=Value.str x t
 | .byt b,u=>∃t,u=Value.bytes b t
 | .flt b,u=>∃t,u=Value.float b t
 | .ref a,u=>u=Value.ref a
 | .ty n,u=>u=Value.type n
abbrev QaB:List V→List Value→Prop:=Paired RelV
theorem QaB.length {xs:List V}{us:List Value} (r:QaB xs us):xs.length=us.length:=Paired.length r
theorem QaB.get:∀{xs:List V}{us:List Value}{i:Nat}{x:V},QaB xs us→xs[i]? = some x→∃u,us[i]? = some u∧RelV x u
 | _,_,_,_,.nil,e=>by simp at e
 | _,_,0,_,.cons r _,e=>by simp at e; subst e; exact ⟨_,rfl,r⟩
 | _,_,i+1,x,.cons _ t,e=>by
  obtain ⟨u,h1,h2⟩:=QaB.get (i:=i) (x:=x) t (by simpa using e);exact ⟨u,by simpa using h1,h2⟩
theorem QaB.set {x:V}{u:Value} (r:RelV x u):∀{xs:List V}{us:List Value} (i:Nat),QaB xs us→QaB (xs.set i x) (us.set i u)
 | _,_,_,.nil=>.nil
 | _,_,0,.cons _ t=>.cons r t
 | _,_,i+1,.cons q t=>.cons q (QaB.set r i t)
theorem QaB.append:∀{xs ys:List V}{us ws:List Value},QaB xs us→QaB ys ws→QaB (xs++ys) (us++ws)
 | _,_,_,_,.nil,s=>s
 | _,_,_,_,.cons r t,s=>.cons r (QaB.append t s)
theorem QaB.take:∀{xs:List V}{us:List Value} (n:Nat),QaB xs us→QaB (xs.take n) (us.take n)
 | _,_,0,_=>.nil
 | _,_,_+1,.nil=>.nil
 | _,_,n+1,.cons r t=>.cons r (QaB.take n t)
theorem QaB.drop:∀{xs:List V}{us:List Value} (n:Nat),QaB xs us→QaB (xs.drop n) (us.drop n)
 | _,_,0,r=>r
 | _,_,_+1,.nil=>.nil
 | _,_,n+1,.cons _ t=>QaB.drop n t
theorem QaB.none_of:∀{xs:List V}{us:List Value}{i:Nat},QaB xs us→xs[i]? = none→us[i]? = none:=fun {xs us i} r e=>by
 have h1:=r.length;have h2:xs.length≤i:=List.getElem?_eq_none_iff.mp e;exact List.getElem?_eq_none_iff.mpr (by omega)
def QdN:Option V→Option Value→Prop
 | some v,some u=>RelV v u
 | none,none=>True
 | _,_=>False
def KV {κ:Type}:List (κ×V)→List (κ×Value)→Prop:=Paired fun (p:κ×V) (q:κ×Value)=>p.1=q.1∧RelV p.2 q.2
def kV:Key→V
 | .inl i=>.int i
 | .inr x=>.str x
inductive HO where
  | lst (xs:List V)
  | tup (xs:List V)
  | dK (kvs:List (Key×V)) | dT (kvs:List (List Key×V))
  | set (S:Int→Bool) (n:Nat)
  | ins (C dx:Addr) (fs:List (Str×V))
  | own (x:Addr)
  | xd (fs:List (Str×V))
  | met (f x:Addr)
  | rng (lo hi:Int)
  | frz (o:Obj) (u:HO)
  | tbl (ps:Array Value)
  | ext (φ:Heap→Prop)
abbrev Hp:=Addr→Option HO
def upd (H:Hp) (a:Addr) (o:HO):Hp:=fun b=>if b=a then some o else H b
theorem QaE {H:Hp}{a:Addr}{o:HO}:upd H a o a=some o:=by unfold upd; rw [if_pos rfl]
theorem Qam {H:Hp}{a b:Addr}{o:HO} (h:b≠a):upd H a o b=H b:=by unfold upd; rw [if_neg h]
theorem Qax {H:Hp}{a b:Addr}{o:HO} (h:H a=some o) (h':H b=none):a≠b:=by
 intro e; subst e; rw [h] at h'; cases h'
section
variable (P:Program) (w:World)
def Qb3 (H:Hp) (h:Heap) (a:Addr):HO→Prop
 | .lst xs=>xs.length≤sizeLine∧∃(its:List Value) (n:Nat),QaB xs its∧h.get? a=some { cls:=.type "list",data:=.seq its.toArray n }
 | .tup xs=>xs.length≤sizeLine∧∃its:List Value,QaB xs its∧IsTup h a its.toArray
 | .dK kvs=>kvs.length≤sizeLine∧(a == sysModules)=false∧∃vs,KV kvs vs∧h.DictOf (Qlb P w) a vs
 | .dT kvs=>kvs.length≤sizeLine∧(a == sysModules)=false∧∃xs:List (List Key×Addr×Value),
   Paired (fun (p:List Key×V) (q:List Key×Addr×Value)=>p.1=q.1∧H q.2.1=some (.tup (p.1.map kV))∧RelV p.2 q.2.2) kvs xs ∧
   ∃o es ep,h.get? a=some o∧o.ExactDict∧o.data = .dict es ep∧es.toList=xs.map (entryOfKey (tupleKind (Qlb P w)))∧(xs.map (·.1)).Nodup
 | .set S n=>h.SetOf (intKind P w) a S n
 | .ins C dx fs=>H dx=some (.own a)∧fs.length≤1000∧dx≠a∧h.get? a=some (PySem.W.instObj C dx) ∧
   ∃mA,h.Ns1 dx mA∧(∀f,QdN (fs.lookup f) (mA f))∧PySem.Within mA (fs.map (·.1))
 | .own _=>∃o,h.get? a=some o
 | .xd fs=>∃mA,h.Ns1 a mA∧∀f,QdN (fs.lookup f) (mA f)
 | .rng lo hi=>∃t u v,h.get? a=some { cls:=.type "range",data:=.fields #[.int lo t,.int hi u,.int 1 v] }
 | .frz o u=>h.get? a=some o∧Qb3 H h a u
 | .tbl ps=>h.get? a=some { cls:=.none,data:=.fields ps }
 | .met f x=>h.get? a=some (PySem.W.methodObj (.ref f) (.ref x))
 | .ext φ=>φ h∧(∃o,h.get? a=some o)∧∀h1 h2:Heap,φ h1→(∀o,h1.get? a=some o→h2.get? a=some o)→φ h2
def HOk (H:Hp) (h:Heap):Prop:=∀a o,H a=some o→Qb3 P w H h a o
end
section
variable {P:Program}{w:World}{H H':Hp}{h h':Heap}{a:Addr}{o:HO}
theorem Qb3.lt (x:Qb3 P w H h a o):a < h.objs.size:=by
 cases o with
 | lst xs=>obtain ⟨_,_,_,_,e⟩:=x; exact zd e
 | tup xs=>obtain ⟨_,_,_,p⟩:=x; exact p.lt
 | dK kvs=>obtain ⟨_,_,_,_,o,_,_,e,_⟩:=x; exact zd e
 | dT kvs=>obtain ⟨_,_,_,_,o,_,_,e,_⟩:=x; exact zd e
 | set S n=>obtain ⟨o,_,_,_,e,_⟩:=x; exact zd e
 | ins C dx fs=>obtain ⟨_,_,_,e,_⟩:=x; exact zd e
 | own y=>obtain ⟨_,e⟩:=x; exact zd e
 | xd fs=>obtain ⟨_,⟨_,_,_,e,_⟩,_⟩:=x; exact zd e
 | rng lo hi=>obtain ⟨_,_,_,e⟩:=x; exact zd e
 | frz ob u=>obtain ⟨e,_⟩:=x; exact zd e
 | tbl ps=>exact zd (show h.get? a=some _ from x)
 | met f y=>exact zd (show h.get? a=some _ from x)
 | ext φ=>obtain ⟨_,⟨_,e⟩,_⟩:=x; exact zd e
theorem Paired.mapP {α β:Type}{F G:α→β→Prop}:∀{l₁:List α}{l₂:List β},Paired F l₁ l₂→(∀a b,F a b→G a b)→Paired G l₁ l₂
 | _,_,.nil,_=>.nil
 | _,_,.cons r t,f=>.cons (f _ _ r) (Paired.mapP t f)
theorem Qb3.stay (x:Qb3 P w H h a o) (k:∀b u,(b=a∨H b=some (.own a))→h.get? b=some u→h'.get? b=some u)
  (ho:∀b,H b=some (.own a)→H' b=some (.own a)) (ht:∀b xs,H b=some (.tup xs)→H' b=some (.tup xs)):Qb3 P w H' h' a o:=by
 induction o with
 | lst xs=>obtain ⟨z,its,n,r,e⟩:=x; exact ⟨z,its,n,r,k _ _ (.inl rfl) e⟩
 | tup xs=>obtain ⟨z,its,r,ob,e,c⟩:=x; exact ⟨z,its,r,ob,k _ _ (.inl rfl) e,c⟩
 | dK kvs=>obtain ⟨z,y,vs,r,ob,es,ep,e,c⟩:=x; exact ⟨z,y,vs,r,ob,es,ep,k _ _ (.inl rfl) e,c⟩
 | dT kvs =>
  obtain ⟨z,y,xs,r,ob,es,ep,e,c⟩:=x;exact ⟨z,y,xs,Paired.mapP r fun p q z=>⟨z.1,ht _ _ z.2.1,z.2.2⟩,ob,es,ep,k _ _ (.inl rfl) e,c⟩
 | set S n=>obtain ⟨ob,es,ep,t,e,c⟩:=x; exact ⟨ob,es,ep,t,k _ _ (.inl rfl) e,c⟩
 | ins C dx fs =>
  obtain ⟨d,z,ne,e,mA,⟨od,es,ep,e2,c⟩,r⟩:=x;exact ⟨ho _ d,z,ne,k _ _ (.inl rfl) e,mA,⟨od,es,ep,k _ _ (.inr d) e2,c⟩,r⟩
 | own y=>obtain ⟨ob,e⟩:=x; exact ⟨ob,k _ _ (.inl rfl) e⟩
 | xd fs=>obtain ⟨mA,⟨od,es,ep,e,c⟩,r⟩:=x; exact ⟨mA,⟨od,es,ep,k _ _ (.inl rfl) e,c⟩,r⟩
 | rng lo hi=>obtain ⟨t,u,v,e⟩:=x; exact ⟨t,u,v,k _ _ (.inl rfl) e⟩
 | frz ob u ih=>obtain ⟨e,q⟩:=x; exact ⟨k _ _ (.inl rfl) e,ih q⟩
 | tbl ps =>
  have e:h.get? a=some { cls:=.none,data:=.fields ps }:=x;show h'.get? a=some { cls:=.none,data:=.fields ps };exact k a _ (.inl rfl) e
 | met f y =>
  have e:h.get? a=some (PySem.W.methodObj (.ref f) (.ref y)):=x;show h'.get? a=some (PySem.W.methodObj (.ref f) (.ref y));exact k a _ (.inl rfl) e
 | ext φ=>obtain ⟨p,⟨o,e⟩,st⟩:=x; exact ⟨st _ _ p fun o q=>k _ _ (.inl rfl) q,⟨o,k _ _ (.inl rfl) e⟩,st⟩
theorem HOk.lt (x:HOk P w H h) (e:H a=some o):a < h.objs.size:=(x a o e).lt
theorem HOk.fresh (x:HOk P w H h) (e:h.objs.size≤a):H a=none:=by
 cases q:H a with
 | none=>rfl
 | some u=>exact absurd (zz (x.lt q) e) (zM _)
theorem HOk.kept (x:HOk P w H h) (k:∀b u,h.get? b=some u→h'.get? b=some u):HOk P w H h':=fun a o e =>
 (x a o e).stay (fun b u _ q=>k b u q) (fun _ q=>q) fun _ _ q=>q
theorem HOk.laid (x:HOk P w H h) (k:∀b u,h.get? b=some u→h'.get? b=some u) (hp:h.objs.size≤a) (new:Qb3 P w (upd H a o) h' a o):HOk P w (upd H a o) h':=fun b u e=>by
 have hn:=x.fresh hp
 by_cases hb:b=a
 ·subst hb; rw [QaE] at e; cases e; exact new
 ·rw [Qam hb] at e
  exact (x b u e).stay (fun c v _ q=>k c v q) (fun c q=>by rw [Qam (Qax q hn)]; exact q) fun c xs q=>by rw [Qam (Qax q hn)]; exact q
end
def Rd (H:Hp) (a:Addr) (u:HO):Prop:=H a=some u∨∃o,H a=some (.frz o u)
theorem Rd.of {H:Hp}{a:Addr}{u:HO} (h:H a=some u):Rd H a u:=.inl h
theorem Rd.ok {P:Program}{w:World}{H:Hp}{h:Heap}{a:Addr}{u:HO} (r:Rd H a u) (x:HOk P w H h):Qb3 P w H h a u:=by
 rcases r with r | ⟨o,r⟩
 ·exact x a u r
 ·obtain ⟨_,q⟩:=x a _ r;exact q
def Mut:Option HO→Prop
 | some (.lst _)=>True
 | some (.dK _)=>True
 | some (.dT _)=>True
 | some (.set _ _)=>True
 | some (.ins _ _ _)=>True
 | some (.ext _)=>True
 | _=>False
section
variable {P:Program}{w:World}{H:Hp}{h h':Heap}{x e:Addr}{o':HO}
theorem HOk.write (ok:HOk P w H h) (mu:Mut (H x)) (he:e=x∨H e=some (.own x)) (k:∀b u,b≠e→h.get? b=some u→h'.get? b=some u) (heo:∃u,h'.get? e=some u)
  (new:Qb3 P w (upd H x o') h' x o'):HOk P w (upd H x o') h':=fun b u q=>by
 have nown:∀c y,H c=some (.own y)→c≠x:=fun c y r z=>by subst z; rw [r] at mu; exact mu
 have ntup:∀c xs,H c=some (.tup xs)→c≠x:=fun c xs r z=>by subst z; rw [r] at mu; exact mu
 by_cases hb:b=x
 ·subst hb; rw [QaE] at q; cases q; exact new
 ·rw [Qam hb] at q
  by_cases hbe:b=e
  ·have q':H b=some (.own x):=by
    rcases he with z | z
    ·exact absurd (hbe.trans z) hb
    ·rw [hbe]; exact z
   rw [q] at q'; cases q';obtain ⟨v,hv⟩:=heo;exact ⟨v,by rw [hbe]; exact hv⟩
  ·refine (ok b u q).stay (fun c v hc r=>k c v ?_ r) (fun c r=>by rw [Qam (nown c b r)]; exact r) fun c xs r=>by rw [Qam (ntup c xs r)]; exact r
   rcases hc with rfl | hc
   ·exact hbe
   ·rintro rfl
    rcases he with z | z
    ·exact nown c b hc z
    ·rw [hc] at z; cases z; exact hb rfl
end
structure Un (fs ex:List Addr) (H H':Hp) (h h':Heap):Prop where
 keep:∀b o,h.get? b=some o→H b=none→b∉fs→b∉ex→h'.get? b=some o
 slot:∀b o,h.get? b=some o→H b=none→b∈fs→b∉ex→∃sl,h'.get? b=some { o with slots:=sl }
 free:∀b o,h.get? b=some o→H b=none→b∉ex→H' b=none
 there:∀b o,h.get? b=some o→b∉ex→∃o',h'.get? b=some o'
 tups:∀b xs,H b=some (.tup xs)→H' b=some (.tup xs)
 frzs:∀b o u,H b=some (.frz o u)→H' b=some (.frz o u)
 tbls:∀b ps,H b=some (.tbl ps)→∃more,H' b=some (.tbl (ps++more))
section
variable {fs fs' ex ex':List Addr}{H H1 H2:Hp}{h h1 h2 h':Heap}{a x e:Addr}{o:HO}
theorem Un.any (u:Un fs ex H H1 h h1) {b:Addr}{ob:Obj} (q:h.get? b=some ob) (n:H b=none) (hx:b∉ex):∃sl,h1.get? b=some { ob with slots:=sl }:=by
 by_cases hb:b∈fs
 ·exact u.slot b ob q n hb hx
 ·exact ⟨ob.slots,u.keep b ob q n hb hx⟩
theorem Un.trans (a:Un fs ex H H1 h h1) (b:Un fs ex H1 H2 h1 h2):Un fs ex H H2 h h2 where
 keep:=fun c ob q n hc hx=>b.keep c ob (a.keep c ob q n hc hx) (a.free c ob q n hx) hc hx
 slot:=fun c ob q n hc hx=>by
  obtain ⟨sl,e1⟩:=a.slot c ob q n hc hx;obtain ⟨sl',e2⟩:=b.slot c _ e1 (a.free c ob q n hx) hc hx;exact ⟨sl',e2⟩
 free:=fun c ob q n hx=>by
  obtain ⟨o',e1⟩:=a.there c ob q hx;exact b.free c o' e1 (a.free c ob q n hx) hx
 there:=fun c ob q hx=>by
  obtain ⟨o',e1⟩:=a.there c ob q hx;exact b.there c o' e1 hx
 tups:=fun c xs q=>b.tups c xs (a.tups c xs q)
 frzs:=fun c ob xs q=>b.frzs c ob xs (a.frzs c ob xs q)
 tbls:=fun c ps q=>by
  obtain ⟨m1,e1⟩:=a.tbls c ps q;obtain ⟨m2,e2⟩:=b.tbls c _ e1;exact ⟨m1++m2,by rw [e2,Array.append_assoc]⟩
theorem Un.kept (k:∀b u,h.get? b=some u→h'.get? b=some u):Un fs ex H H h h' :=
 ⟨fun b ob q _ _ _=>k b ob q,fun b ob q _ _ _=>⟨ob.slots,k b ob q⟩,fun _ _ _ n _=>n,fun b ob q _=>⟨ob,k b ob q⟩,fun _ _ q=>q,fun _ _ _ q=>q,fun _ ps q=>⟨#[],by rw [q]; simp⟩⟩
theorem Un.refl:Un fs ex H H h h:=Un.kept fun _ _ q=>q
theorem Un.laid (k:∀b u,h.get? b=some u→h'.get? b=some u) (hp:h.objs.size≤a) (hn:H a=none):Un fs ex H (upd H a o) h h' where
 keep:=fun b u q _ _ _=>k b u q
 slot:=fun b u q _ _ _=>⟨u.slots,k b u q⟩
 free:=fun b u q n _=>by rw [Qam (zl (zz (zd q) hp))]; exact n
 there:=fun b u q _=>⟨u,k b u q⟩
 tups:=fun b xs q=>by rw [Qam (Qax q hn)]; exact q
 frzs:=fun b u xs q=>by rw [Qam (Qax q hn)]; exact q
 tbls:=fun b ps q=>⟨#[],by rw [Qam (Qax q hn),q]; simp⟩
theorem Un.write (mu:Mut (H x)) (he:e=x∨H e=some (.own x)) (k:∀b u,b≠e→h.get? b=some u→h'.get? b=some u) (heo:∃u,h'.get? e=some u):Un fs ex H (upd H x o) h h':=by
 have hx:∀b,H b=none→b≠x:=fun b n z=>by subst z; rw [n] at mu; exact mu
 have hb:∀b,H b=none→b≠e:=fun b n z=>by
  subst z
  rcases he with r | r
  ·exact hx b n r
  ·rw [n] at r; cases r
 have hm:∀b u,H b=some u→¬Mut (some u)→b≠x:=fun b u q nm z=>by subst z; rw [q] at mu; exact nm mu
 refine ⟨fun b u q n _ _=>k b u (hb b n) q,fun b u q n _ _=>⟨u.slots,k b u (hb b n) q⟩,fun b u q n _=>by rw [Qam (hx b n)]; exact n,fun b u q _=>?_,
  fun b xs q=>by rw [Qam (hm b _ q fun z=>z)]; exact q,fun b u xs q=>by rw [Qam (hm b _ q fun z=>z)]; exact q,fun b ps q=>⟨#[],by rw [Qam (hm b _ q fun z=>z),q]; simp⟩⟩
 by_cases hbe:b=e
 ·subst hbe; exact heo
 ·exact ⟨u,k b u hbe q⟩
theorem Un.mono (u:Un fs ex H H1 h h1) (hs:∀b∈fs,b∈fs') (hx:∀b∈ex,b∈ex'):Un fs' ex' H H1 h h1 :=
 ⟨fun b ob q n hb he=>u.keep b ob q n (fun z=>hb (hs b z)) fun z=>he (hx b z),fun _ _ q n _ he=>u.any q n fun z=>he (hx _ z),fun b ob q n he=>u.free b ob q n fun z=>he (hx b z),fun b ob q he=>u.there b ob q fun z=>he (hx b z),u.tups,u.frzs,u.tbls⟩
end
def trk (h:Heap) (H:Hp):List Addr:=(List.range h.objs.size).filter fun a=>(H a).isSome
def Qfe (h:Heap) (H:Hp):Heap:=PySem.W.hideAll h (trk h H)
theorem Ql5 (h:Heap) (H:Hp):(Qfe h H).objs.size=h.objs.size:=PySem.W.hideAll_size _ _
theorem Qng {h:Heap}{H:Hp}{b:Addr}{o:Obj} (e:h.get? b=some o) (n:H b=none):(Qfe h H).get? b=some o :=
 PySem.W.hideAll_get _ e fun hm=>by
  have q:(H b).isSome=true:=(List.mem_filter.mp hm).2;rw [n] at q; simp at q
theorem QoI {h:Heap}{H:Hp}{b:Addr}{o:Obj} (e:(Qfe h H).get? b=some o):h.get? b=some o∧H b=none:=by
 have e':h.get? b=some o:=PySem.W.of_hideAll (trk h H) e;refine ⟨e',?_⟩
 cases q:H b with
 | none=>rfl
 | some x =>
  have hm:b∈trk h H:=List.mem_filter.mpr ⟨List.mem_range.mpr (zd e'),by simp [q]⟩;have z:(Qfe h H).get? b=none:=PySem.W.hideAll_none (trk h H) hm;rw [z] at e; cases e
def Qt0 (g h:Heap) (L:Addr):List (Addr×Obj):=(List.range h.objs.size).filterMap fun a=>if a=L∨(g.get? a).isSome=true then none else (h.get? a).map fun o=>(a,o)
def rest (g h:Heap) (L d:Addr):List (Addr×Obj):=(Qt0 g h L).filter fun p=>decide (p.1≠d)
structure Mod (K:PySem.W.Frag) (mg:Str→Option Value) (base:Heap):Prop where
 kin:K.In base
 glob:base.Ns mainGlobals mg
 blt:∃mb,base.Ns builtinsNs mb∧∀x:Str,x≠"__name__"→mb x=bootBuiltins x
 nolimit:base.NoLimit
structure Cx where
 prog:Program
 w:World
 K:PySem.W.Frag
 mg:Str→Option Value
 base:Heap
 A:Around
 N:List Str
 s₀:Shared
 H₀:Hp
 env:Env
 outer:List Env
 stack:List Env
 ex:List Addr
 fn:Str→Bool
 calm:Bool
 pn:List (Addr×Obj)
 xe:Value→Shared→Prop
def frs (l:List Env):List Addr:=l.filterMap (·.frame)
abbrev Cx.fs (X:Cx):List Addr:=frs X.outer
def Vis (sc:Scope) (x:Str):Prop:=sc.names.lookup x=some .local∨sc.names.lookup x=some .cell∨sc.names.lookup x=some .free
def Loc (sc:Scope) (x:Str):Prop:=sc.names.lookup x=some .local∨sc.names.lookup x=some .cell
def Look (env:Env) (h:Heap) (m:Str→Option Value) (x:Str) (u:Value):Prop :=
 (env.kindOf x=some .local∧m x=some u)∨((env.kindOf x=some .cell∨env.kindOf x=some .free)∧∃c,env.cells.lookup x=some c∧h.IsCell c (some u))
structure Cx.Ok (X:Cx):Prop where
 mod:Mod X.K X.mg X.base
 kind:X.env.scope.kind = .function
 glob:X.env.globals=mainGlobals
 blt:X.env.builtins=builtinsNs
 above:X.s₀.heap.objs.size≤X.env.locals
 inj:∀x y c,X.env.cells.lookup x=some c→X.env.cells.lookup y=some c→x=y
 has:∀x,(X.env.kindOf x=some .cell∨X.env.kindOf x=some .free)→∃c,X.env.cells.lookup x=some c
 cab:∀x c,X.fn x=true→X.env.cells.lookup x=some c→X.s₀.heap.objs.size≤c
 hd:X.calm=true→X.A.handled=none
 frames:X.A.frames=some X.stack
 stk:X.stack=X.outer∨(X.stack=X.env::X.outer∧X.env.frame=some X.env.locals)
 exf:∀b∈X.ex,b≠X.env.locals∧∀x c,X.env.cells.lookup x=some c→c≠b
 bs:∀b o,X.base.get? b=some o→X.s₀.heap.get? b=some o∧X.H₀ b=none
 bsz:X.base.objs.size≤X.s₀.heap.objs.size
 noex:∀b o,X.base.get? b=some o→b∉X.ex
 exfs:∀b∈X.ex,b∉X.fs
 funs:X.s₀.heap.FunFrames X.base X.outer
 frf:∀b∈X.fs,X.H₀ b=none
structure Inv (X:Cx) (pins:List (Addr×Obj)) (σ:List (Option V)) (H:Hp) (s:Shared):Prop where
 ok:X.Ok
 os:s.os=X.s₀.os
 bare:AllBare s.gens
 base:Un X.fs X.ex X.H₀ H X.s₀.heap s.heap
 loc:∃m,s.heap.Ns X.env.locals m∧∀(i:Nat) (x:Str) (v:V),X.N[i]? = some x→σ[i]? = some (some v)→Vis X.env.scope x→∃u,RelV v u∧Look X.env s.heap m x u
 cell:∀x c,X.env.cells.lookup x=some c→∃v,s.heap.IsCell c v
 free:H X.env.locals=none
 freeC:∀x c,X.env.cells.lookup x=some c→H c=none
 pin:∀p∈X.pn++pins,s.heap.get? p.1=some p.2∧H p.1=none∧p.1≠X.env.locals∧p.1∉X.fs∧∀v,p.2.data≠.cell v
 hok:HOk X.prog X.w H s.heap
 len:σ.length=X.N.length
section
variable {X:Cx}{pins:List (Addr×Obj)}{σ:List (Option V)}{H H':Hp}{s:Shared}{h':Heap}
theorem Cx.Ok.nofr (ok:X.Ok) {b:Addr}{o:Obj} (e:X.base.get? b=some o):b∉X.fs:=fun hb=>by
 have:=(ok.funs.mem hb).1
 rw [e] at this; cases this
theorem Inv.bs (I:Inv X pins σ H s):∀b o,X.base.get? b=some o→s.heap.get? b=some o∧H b=none:=fun b o e =>
 ⟨I.base.keep b o (I.ok.bs b o e).1 (I.ok.bs b o e).2 (I.ok.nofr e) (I.ok.noex b o e),I.base.free b o (I.ok.bs b o e).1 (I.ok.bs b o e).2 (I.ok.noex b o e)⟩
theorem Inv.bk (I:Inv X pins σ H s):∀b o,X.base.get? b=some o→s.heap.get? b=some o:=fun b o e=>(I.bs b o e).1
theorem Inv.mod (I:Inv X pins σ H s):Mod X.K X.mg X.base:=I.ok.mod
theorem Inv.kIn (I:Inv X pins σ H s):X.K.In s.heap:=I.ok.mod.kin.keeps I.bk
theorem Inv.nolimit (I:Inv X pins σ H s):s.heap.NoLimit:=I.ok.mod.nolimit.keeps I.bk
theorem Inv.fr (I:Inv X pins σ H s):∃m,Fr X.base X.env.locals s.heap m :=
 let ⟨m,hn,_⟩:=I.loc
 ⟨m,hn,I.bk,zA I.ok.bsz I.ok.above⟩
theorem Inv.lt (I:Inv X pins σ H s):X.env.locals < s.heap.objs.size:=let ⟨_,hn,_⟩:=I.loc; hn.lt
theorem Inv.sz (I:Inv X pins σ H s):X.s₀.heap.objs.size≤s.heap.objs.size:=zA I.ok.above (Nat.le_of_lt I.lt)
theorem Inv.nofs (I:Inv X pins σ H s) {a:Addr} (h:s.heap.objs.size≤a):a∉X.fs:=fun hb=>by
 obtain ⟨_,o,ho,_⟩:=I.ok.funs.mem hb;exact absurd (zz (zd ho) (zA I.sz h)) (zM _)
theorem Inv.cne (I:Inv X pins σ H s):∀x c,X.env.cells.lookup x=some c→c≠X.env.locals:=fun x c e z=>by
 obtain ⟨v,o,ho,hd⟩:=I.cell x c e;obtain ⟨m,⟨o',es,ep,ho',hd',_⟩,_⟩:=I.loc;rw [z,ho'] at ho; cases ho; rw [hd'] at hd; cases hd
theorem Inv.funs (I:Inv X pins σ H s):s.heap.FunFrames X.base X.outer:=by
 have all:∀(l:List Env),(∀b∈frs l,b∈X.fs)→X.s₀.heap.FunFrames X.base l→s.heap.FunFrames X.base l:=by
  intro l
  induction l with
  | nil=>intro _ _; trivial
  | cons env r ih =>
   intro hs hl;obtain ⟨hk,⟨L,o,hf,hn,ho,hd⟩,hr⟩:=hl;have hL:L∈X.fs:=hs L (by unfold frs; rw [List.filterMap_cons,hf]; exact zB)
   obtain ⟨sl,e⟩:=I.base.slot L o ho (I.ok.frf L hL) hL fun z=>I.ok.exfs L z hL
   exact ⟨hk,⟨L,_,hf,hn,e,hd⟩,ih (fun b hb=>hs b (by unfold frs; rw [List.filterMap_cons,hf]; exact zv _ hb)) hr⟩
 exact all X.outer (fun _ hb=>hb) I.ok.funs
theorem Inv.stack (I:Inv X pins σ H s):s.heap.FunFrames X.base X.stack:=by
 rcases I.ok.stk with e | ⟨e,hf⟩
 ·rw [e]; exact I.funs
 ·rw [e];obtain ⟨m,hn,_⟩:=I.loc;refine .cons (by rw [I.ok.kind]; decide) hf hn ?_ I.funs;exact Heap.get?_none_of_le (zA I.ok.bsz I.ok.above)
theorem Inv.stkSub (I:Inv X pins σ H s):∀b∈frs X.stack,b∈X.env.locals::X.fs:=fun b hb=>by
 rcases I.ok.stk with e | ⟨e,hf⟩
 ·rw [e] at hb; exact zv _ hb
 ·rw [e] at hb;unfold frs at hb;rw [List.filterMap_cons,hf] at hb;exact hb
theorem Inv.stkFree (I:Inv X pins σ H s):∀b∈frs X.stack,H b=none:=fun b hb=>by
 rcases zm.mp (I.stkSub b hb) with e | hb
 ·rw [e]; exact I.free
 ·obtain ⟨_,o,ho,_⟩:=I.ok.funs.mem hb
  exact I.base.free b o ho (I.ok.frf b hb) fun z=>I.ok.exfs b z hb
theorem Inv.step {g':Array GenState}{t':Nat}{d':Drawn}{ch:List Addr} (I:Inv X pins σ H s)
  (hch:∀b∈ch,(b∈X.ex∨X.s₀.heap.objs.size≤b)∧b≠X.env.locals∧(∀x c,X.env.cells.lookup x=some c→c≠b)∧∀p∈X.pn++pins,p.1≠b)
  (keep:∀b o,b≠X.env.locals→b∉X.fs→b∉ch→s.heap.get? b=some o→H b=none→h'.get? b=some o)
  (slot:∀b o,b≠X.env.locals→b∈X.fs→b∉ch→s.heap.get? b=some o→H b=none→∃sl,h'.get? b=some { o with slots:=sl }) (free:∀b o,b∉ch→s.heap.get? b=some o→H b=none→H' b=none)
  (there:∀b o,b∉ch→s.heap.get? b=some o→∃o',h'.get? b=some o')
  (tups:∀b xs,H b=some (.tup xs)→H' b=some (.tup xs)) (frzs:∀b o u,H b=some (.frz o u)→H' b=some (.frz o u)) (tbls:∀b ps,H b=some (.tbl ps)→∃more,H' b=some (.tbl (ps++more)))
  (ns:∀m,s.heap.Ns X.env.locals m→h'.Ns X.env.locals m) (hok:HOk X.prog X.w H' h') (hg:AllBare g') :
  Inv X pins σ H' { s with heap:=h',gens:=g',drawn:=d',toks:=t' }:=by
 have neL:∀b o,X.s₀.heap.get? b=some o→b≠X.env.locals:=fun b o e=>zl (zz (zd e) I.ok.above)
 have neC:∀b o,X.s₀.heap.get? b=some o→b∉X.ex→b∉ch:=fun b o e hx hb=>by
  rcases (hch b hb).1 with z | z
  ·exact hx z
  ·exact absurd (zz (zd e) z) (zM _)
 have cellK:∀x c,X.env.cells.lookup x=some c→∀v,s.heap.IsCell c v→h'.IsCell c v:=fun x c e v ⟨o,ho,hd⟩=>by
  have nch:c∉ch:=fun z=>(hch c z).2.2.1 x c e rfl
  by_cases hc:c∈X.fs
  ·obtain ⟨sl,q⟩:=slot c o (I.cne x c e) hc nch ho (I.freeC x c e);exact ⟨_,q,hd⟩
  ·exact ⟨o,keep c o (I.cne x c e) hc nch ho (I.freeC x c e),hd⟩
 refine ⟨I.ok,I.os,hg,⟨fun b o e n hb hx=>?_,fun b o e n hb hx=>?_,fun b o e n hx=>?_,fun b o e hx=>?_,fun b xs e=>tups b xs (I.base.tups b xs e),fun b o xs e=>frzs b o xs (I.base.frzs b o xs e),fun b ps e=>?_⟩,?_,fun x c e=>?_,?_,fun x c e=>?_,fun p hp=>?_,hok,I.len⟩
 ·exact keep b o (neL b o e) hb (neC b o e hx) (I.base.keep b o e n hb hx) (I.base.free b o e n hx)
 ·obtain ⟨sl,e1⟩:=I.base.slot b o e n hb hx;obtain ⟨sl',e2⟩:=slot b _ (neL b o e) hb (neC b o e hx) e1 (I.base.free b o e n hx);exact ⟨sl',e2⟩
 ·obtain ⟨o',e1⟩:=I.base.there b o e hx;exact free b o' (neC b o e hx) e1 (I.base.free b o e n hx)
 ·obtain ⟨o',e1⟩:=I.base.there b o e hx;exact there b o' (neC b o e hx) e1
 ·obtain ⟨m1,e1⟩:=I.base.tbls b ps e;obtain ⟨m2,e2⟩:=tbls b _ e1;exact ⟨m1++m2,by rw [e2,Array.append_assoc]⟩
 ·obtain ⟨m,hn,hl⟩:=I.loc;refine ⟨m,ns m hn,fun i x v e1 e2 e3=>?_⟩;obtain ⟨u,r,l⟩:=hl i x v e1 e2 e3;refine ⟨u,r,?_⟩
  rcases l with l | ⟨k,c,e,z⟩
  ·exact .inl l
  ·exact .inr ⟨k,c,e,cellK x c e _ z⟩
 ·obtain ⟨v,z⟩:=I.cell x c e;exact ⟨v,cellK x c e v z⟩
 ·obtain ⟨m,⟨o,_,_,ho,_⟩,_⟩:=I.loc;exact free _ o (fun z=>(hch _ z).2.1 rfl) ho I.free
 ·obtain ⟨v,o,ho,hd⟩:=I.cell x c e;exact free c o (fun z=>(hch c z).2.2.1 x c e rfl) ho (I.freeC x c e)
 ·obtain ⟨e,n,ne,nf,d⟩:=I.pin p hp
  have nch:p.1∉ch:=fun z=>(hch p.1 z).2.2.2 p hp rfl
  exact ⟨keep p.1 p.2 ne nf nch e n,free p.1 p.2 nch e n,ne,nf,d⟩
theorem Inv.un {t':Nat} (I:Inv X pins σ H s) (u:Un X.fs [] H H' s.heap h') (hok:HOk X.prog X.w H' h'):Inv X pins σ H' { s with heap:=h',toks:=t' }:=by
 obtain ⟨m,⟨o,es,ep,ho,r⟩,_⟩:=id I.loc;obtain ⟨sl,hL⟩:=u.any ho I.free (by simp)
 exact I.step (g':=s.gens) (d':=s.drawn) (ch:=[]) (fun _ z=>nomatch z) (fun b o _ hb _ e n=>u.keep b o e n hb (by simp)) (fun b o _ hb _ e n=>u.slot b o e n hb (by simp)) (fun b o _ e n=>u.free b o e n (by simp)) (fun b o _ e=>u.there b o e (by simp)) u.tups u.frzs u.tbls (fun m' hm=>by
  obtain ⟨o',es',ep',ho',r'⟩:=hm;rw [ho] at ho'; cases ho'
  exact ⟨_,es',ep',hL,r'⟩) hok I.bare
theorem Inv.call {g':Array GenState}{t':Nat}{d':Drawn}{ch:List Addr} (I:Inv X pins σ H s) (u:Un (frs X.stack) ch H H' s.heap h') (hok:HOk X.prog X.w H' h') (hg:AllBare g')
  (hch:∀b∈ch,(b∈X.ex∨X.s₀.heap.objs.size≤b)∧b≠X.env.locals∧(∀x c,X.env.cells.lookup x=some c→c≠b)∧∀p∈X.pn++pins,p.1≠b) :
  Inv X pins σ H' { s with heap:=h',gens:=g',drawn:=d',toks:=t' }:=by
 obtain ⟨m,⟨o,es,ep,ho,r⟩,_⟩:=id I.loc
 obtain ⟨sl,hL⟩:=u.any ho I.free fun z=>(hch _ z).2.1 rfl
 exact I.step (ch:=ch) hch (fun b o hL hb hc e n=>u.keep b o e n (fun z=>(zm.mp (I.stkSub b z)).elim hL hb) hc) (fun b o _ _ hc e n=>u.any e n hc) (fun b o hc e n=>u.free b o e n hc) (fun b o hc e=>u.there b o e hc) u.tups u.frzs u.tbls (fun m' hm=>by
  obtain ⟨o',es',ep',ho',r'⟩:=hm;rw [ho] at ho'; cases ho'
  exact ⟨_,es',ep',hL,r'⟩) hok hg
theorem Inv.turned {t':Nat}{it:Addr} (I:Inv X pins σ H s) (k:∀b o,b≠it→s.heap.get? b=some o→h'.get? b=some o) (hn:H it=none) (hL:it≠X.env.locals)
  (h1:it∈X.ex∨X.s₀.heap.objs.size≤it) (h2:∀x c,X.env.cells.lookup x=some c→c≠it) (h3:∀p∈X.pn++pins,p.1≠it):Inv X pins σ H { s with heap:=h',toks:=t' }:=by
 have nit:∀b u,H b=some u→b≠it:=fun b u e z=>by rw [z,hn] at e; cases e
 refine I.step (g':=s.gens) (d':=s.drawn) (ch:=[it]) (fun b hb=>?_) (fun b o _ _ hc e _=>k b o (fun z=>hc (by simp [z])) e) (fun b o _ _ hc e _=>⟨o.slots,k b o (fun z=>hc (by simp [z])) e⟩) (fun _ _ _ _ n=>n)
  (fun b o hc e=>⟨o,k b o (fun z=>hc (by simp [z])) e⟩) (fun _ _ e=>e) (fun _ _ _ e=>e) (fun b ps e=>⟨#[],by rw [e]; simp⟩) (fun m hm=>?_) (fun b u e=>?_) I.bare
 ·have e:b=it:=by simpa using hb
  subst e;exact ⟨h1,hL,h2,h3⟩
 ·obtain ⟨o,es,ep,ho,r⟩:=hm;exact ⟨o,es,ep,k _ o (Ne.symm hL) ho,r⟩
 ·refine (I.hok b u e).stay (fun c v hc q=>k c v ?_ q) (fun _ q=>q) fun _ _ q=>q
  rcases hc with z | z
  ·rw [z]; exact nit b u e
  ·exact nit c _ z
theorem Inv.tok (I:Inv X pins σ H s) (t:Nat):Inv X pins σ H { s with toks:=t }:=I.un (h':=s.heap) (t':=t) Un.refl I.hok
theorem Inv.kept {t':Nat} (I:Inv X pins σ H s) (k:∀b u,s.heap.get? b=some u→h'.get? b=some u):Inv X pins σ H { s with heap:=h',toks:=t' }:=I.un (Un.kept k) (I.hok.kept k)
theorem Inv.laid {a:Addr}{o:HO}{t':Nat} (I:Inv X pins σ H s) (k:∀b u,s.heap.get? b=some u→h'.get? b=some u) (hp:s.heap.objs.size≤a) (new:Qb3 X.prog X.w (upd H a o) h' a o) :
  Inv X pins σ (upd H a o) { s with heap:=h',toks:=t' }:=I.un (Un.laid k hp (I.hok.fresh hp)) (I.hok.laid k hp new)
theorem Inv.write {x e:Addr}{o:HO}{t':Nat} (I:Inv X pins σ H s) (mu:Mut (H x)) (he:e=x∨H e=some (.own x)) (k:∀b u,b≠e→s.heap.get? b=some u→h'.get? b=some u) (heo:∃u,h'.get? e=some u)
  (new:Qb3 X.prog X.w (upd H x o) h' x o):Inv X pins σ (upd H x o) { s with heap:=h',toks:=t' }:=I.un (Un.write mu he k heo) (I.hok.write mu he k heo new)
theorem Inv.pins_of {pins':List (Addr×Obj)} (I:Inv X pins σ H s) (h:∀p∈pins',s.heap.get? p.1=some p.2∧H p.1=none∧p.1≠X.env.locals∧p.1∉X.fs∧∀v,p.2.data≠.cell v):Inv X pins' σ H s :=
 ⟨I.ok,I.os,I.bare,I.base,I.loc,I.cell,I.free,I.freeC,fun p hp=>(zC.mp hp).elim (fun z=>I.pin p (List.mem_append_left _ z)) (h p),I.hok,I.len⟩
theorem QnP {N:List Str} (hN:N.Nodup) {i j:Nat}{x:Str} (a:N[i]? = some x) (b:N[j]? = some x):i=j:=by
 obtain ⟨h1,e1⟩:=zj.mp a;obtain ⟨h2,e2⟩:=zj.mp b;exact (List.getElem_inj hN).mp (e1.trans e2.symm)
theorem Qrb {M:Model}{A:Around}{E:Value→Shared→Prop}{i:Nat}{x:Str}{v:V}{u:Value}{Q:Unit→Shared→Prop} (I:Inv X pins σ H s) (hN:X.N.Nodup) (hi:X.N[i]? = some x) (hx:Loc X.env.scope x) (r:RelV v u)
  (h:∀s',Inv X pins (σ.set i (some v)) H s'→(∃a,Heap.SameBut a s.heap s'.heap∧(a=X.env.locals∨X.env.cells.lookup x=some a))→Q () s') (hf:X.fn x=true∨X.env.scope.names.lookup x=some .local:=by first | exact .inl rfl | exact .inr rfl | assumption):wpAny M A (storeName X.env x u) Q E s:=by
 obtain ⟨m,hn,hl⟩:=id I.loc
 have hcls:(X.env.scope.kind == .class || (X.env.scope.kind == .module&&X.env.locals != X.env.globals))=false:=by rw [I.ok.kind]; rfl
 have hiσ:i < σ.length:=by rw [I.len]; exact (zj.mp hi).1
 have cne:=I.cne
 have tracked:∀{a:Addr}{h':Heap},(∃o,s.heap.get? a=some o∧H a=none)→Heap.SameBut a s.heap h'→HOk X.prog X.w H h':=fun {a h'} ha hs b ob e=>by
  obtain ⟨_,_,hfree⟩:=ha
  refine (I.hok b ob e).stay (fun c w' hc q=>(hs.2 c ?_).trans q) (fun _ q=>q) fun _ _ q=>q
  rintro rfl
  rcases hc with rfl | hc
  ·rw [hfree] at e; cases e
  ·rw [hfree] at hc; cases hc
 rcases hx with hk | hk
 ·refine wpAny_storeName_local hk hn (fun h' hn' hs=>?_) hcls;obtain ⟨oL,_,_,hoL,_⟩:=id hn;refine h _ ⟨I.ok,I.os,I.bare,⟨fun b o e n hb hx=>?_,fun b o e n hb hx=>?_,I.base.free,fun b o e hx=>?_,I.base.tups,I.base.frzs,I.base.tbls⟩,⟨_,hn',fun j y v' e1 e2 e3=>?_⟩,fun y c e=>?_,I.free,I.freeC,fun p hp=>?_,tracked ⟨oL,hoL,I.free⟩ hs,by simpa using I.len⟩ ⟨_,hs,.inl rfl⟩
  ·exact (hs.2 b (zl (zz (zd e) I.ok.above))).trans (I.base.keep b o e n hb hx)
  ·obtain ⟨sl,e1⟩:=I.base.slot b o e n hb hx;exact ⟨sl,(hs.2 b (zl (zz (zd e) I.ok.above))).trans e1⟩
  ·obtain ⟨o',e1⟩:=I.base.there b o e hx;exact ⟨o',(hs.2 b (zl (zz (zd e) I.ok.above))).trans e1⟩
  ·by_cases hj:j=i
   ·subst hj;rw [hi] at e1; cases e1;rw [zE hiσ] at e2;cases e2;exact ⟨u,r,.inl ⟨hk,by simp⟩⟩
   ·rw [ze (Ne.symm hj)] at e2;obtain ⟨u',r',q⟩:=hl j y v' e1 e2 e3;refine ⟨u',r',?_⟩
    rcases q with ⟨k,e⟩ | ⟨k,c,e,z⟩
    ·refine .inl ⟨k,?_⟩
     have:y≠x:=fun e=>hj (QnP hN e1 (e ▸ hi))
     simp [this,e]
    ·exact .inr ⟨k,c,e,z.sameBut hs (cne y c e)⟩
  ·obtain ⟨w',z⟩:=I.cell y c e;exact ⟨w',z.sameBut hs (cne y c e)⟩
  ·obtain ⟨e,n,ne,nf,d⟩:=I.pin p hp;exact ⟨(hs.2 p.1 ne).trans e,n,ne,nf,d⟩
 ·have hfn:X.fn x=true:=by
   rcases hf with z | z
   ·exact z
   ·rw [z] at hk; cases hk
  obtain ⟨c,hc⟩:=I.ok.has x (.inl hk);obtain ⟨w',z⟩:=I.cell x c hc;refine wpAny_storeName_cell I.ok.kind hk hc z (fun h' hc' hs=>?_);obtain ⟨oc,hoc,hocd⟩:=id z;refine h { s with heap:=h' } ⟨I.ok,I.os,I.bare,⟨fun b o e n hb hx=>?_,fun b o e n hb hx=>?_,I.base.free,fun b o e hx=>?_,I.base.tups,I.base.frzs,I.base.tbls⟩,⟨m,hn.sameBut hs (Ne.symm (cne x c hc)),fun j y v' e1 e2 e3=>?_⟩,fun y c' e=>?_,I.free,I.freeC,fun p hp=>?_,tracked ⟨oc,hoc,I.freeC x c hc⟩ hs,by simpa using I.len⟩ ⟨c,hs,.inr hc⟩
  ·exact (hs.2 b (zl (zz (zd e) (I.ok.cab x c hfn hc)))).trans (I.base.keep b o e n hb hx)
  ·obtain ⟨sl,e1⟩:=I.base.slot b o e n hb hx;exact ⟨sl,(hs.2 b (zl (zz (zd e) (I.ok.cab x c hfn hc)))).trans e1⟩
  ·obtain ⟨o',e1⟩:=I.base.there b o e hx;exact ⟨o',(hs.2 b (zl (zz (zd e) (I.ok.cab x c hfn hc)))).trans e1⟩
  ·by_cases hj:j=i
   ·subst hj;rw [hi] at e1; cases e1;rw [zE hiσ] at e2;cases e2;exact ⟨u,r,.inr ⟨.inl hk,c,hc,hc'⟩⟩
   ·rw [ze (Ne.symm hj)] at e2;obtain ⟨u',r',q⟩:=hl j y v' e1 e2 e3;refine ⟨u',r',?_⟩
    rcases q with q | ⟨k,c',e,z'⟩
    ·exact .inl q
    ·refine .inr ⟨k,c',e,z'.sameBut hs ?_⟩;rintro rfl;exact hj (QnP hN e1 (I.ok.inj _ _ _ e hc ▸ hi))
  ·by_cases hcc:c'=c
   ·subst hcc; exact ⟨_,hc'⟩
   ·obtain ⟨w2,z2⟩:=I.cell y c' e;exact ⟨w2,z2.sameBut hs hcc⟩
  ·obtain ⟨e,n,ne,nf,d⟩:=I.pin p hp;refine ⟨(hs.2 p.1 ?_).trans e,n,ne,nf,d⟩;intro q;rw [q,hoc] at e;have q':oc=p.2:=zH e;exact d w' (by rw [←q']; exact hocd)
theorem QiE {M:Model}{A:Around}{E:Value→Shared→Prop}{i:Nat}{x:Str}{v:V}{u:Value}{Q:Unit→Shared→Prop} (I:Inv X pins σ H s) (hN:X.N.Nodup) (hi:X.N[i]? = some x) (hx:Loc X.env.scope x) (r:RelV v u)
  (h:∀s',Inv X pins (σ.set i (some v)) H s'→Q () s') (hf:X.fn x=true∨X.env.scope.names.lookup x=some .local:=by first | exact .inl rfl | exact .inr rfl | assumption):wpAny M A (storeName X.env x u) Q E s :=
 Qrb I hN hi hx r (fun s' I' _=>h s' I') hf
theorem Inv.call' {s':Shared}{ch:List Addr} (I:Inv X pins σ H s) (ho:s'.os=s.os) (u:Un (frs X.stack) ch H H' s.heap s'.heap) (hok:HOk X.prog X.w H' s'.heap) (hg:AllBare s'.gens)
  (hch:∀b∈ch,(b∈X.ex∨X.s₀.heap.objs.size≤b)∧b≠X.env.locals∧(∀x c,X.env.cells.lookup x=some c→c≠b)∧∀p∈X.pn++pins,p.1≠b):Inv X pins σ H' s':=by
 obtain ⟨h',g',d',t',o'⟩:=s';have e:o'=s.os:=ho;subst e;exact I.call (g':=g') (t':=t') (d':=d') u hok hg hch
end
abbrev XK:=Value→Option Addr→Hp→Prop
abbrev St:=List (Option V)
abbrev VK:=V→Hp→Prop
abbrev TE:=St→Hp→VK→Prop
abbrev TT:=St→Hp→(Bool→Hp→Prop)→Prop
abbrev TA:=St→Hp→(List V→Hp→Prop)→Prop
structure Ends where
 nx:St→Hp→Prop
 rt:VK
 bk:St→Hp→Prop:=fun _ _=>False
 ct:St→Hp→Prop:=fun _ _=>False
abbrev TS:=Ends→St→Hp→Prop
def EP (X:Cx) (pins:List (Addr×Obj)) (σ:St) (Q:VK) (u:Value) (s':Shared):Prop:=∃v H',Inv X pins σ H' s'∧RelV v u∧Q v H'
def TP (X:Cx) (pins:List (Addr×Obj)) (σ:St) (Q:Bool→Hp→Prop) (b:Bool) (s':Shared):Prop:=∃H',Inv X pins σ H' s'∧Q b H'
def AP (X:Cx) (pins:List (Addr×Obj)) (σ:St) (Q:List V→Hp→Prop) (us:List Value) (s':Shared):Prop:=∃vs H',Inv X pins σ H' s'∧QaB vs us∧Q vs H'
def SP (X:Cx) (pins:List (Addr×Obj)) (D:Ends) (f:Flow) (s':Shared):Prop :=
 match f with
 | .next=>∃σ' H',Inv X pins σ' H' s'∧D.nx σ' H'
 | .brk=>∃σ' H',Inv X pins σ' H' s'∧D.bk σ' H'
 | .cont=>∃σ' H',Inv X pins σ' H' s'∧D.ct σ' H'
 | .ret u=>∃v σ' H',Inv X pins σ' H' s'∧RelV v u∧D.rt v H'
def PE (X:Cx) (e:Expr) (t:TE):Prop :=
 ∀(pins:List (Addr×Obj)) (s:Shared) (σ:St) (H:Hp) (Q:VK),Inv X pins σ H s→t σ H Q→wpAny (model X.prog X.w) X.A (eval e X.env) (EP X pins σ Q) X.xe s
def PT (X:Cx) (e:Expr) (t:TT):Prop :=
 ∀(pins:List (Addr×Obj)) (s:Shared) (σ:St) (H:Hp) (Q:Bool→Hp→Prop),Inv X pins σ H s→t σ H Q→wpAny (model X.prog X.w) X.A (isTrue e X.env (eval e X.env)) (TP X pins σ Q) X.xe s
def PW (X:Cx) (e:Expr) (t:TT):Prop :=
 ∀(whole:Sem Value) (pins:List (Addr×Obj)) (s:Shared) (σ:St) (H:Hp) (Q:Bool→Hp→Prop),Inv X pins σ H s→t σ H Q→wpAny (model X.prog X.w) X.A (isTrue e X.env whole) (TP X pins σ Q) X.xe s
theorem PW.pt {X:Cx}{e:Expr}{t:TT} (h:PW X e t):PT X e t:=h _
def PA (X:Cx) (es:List Expr) (t:TA):Prop :=
 ∀(pos:Pos) (pins:List (Addr×Obj)) (s:Shared) (σ:St) (H:Hp) (Q:List V→Hp→Prop),Inv X pins σ H s→t σ H Q→wpAny (model X.prog X.w) X.A (spliced (backTo pos (starEach es X.env))) (AP X pins σ Q) X.xe s
def PS (X:Cx) (st:Stmt) (t:TS):Prop :=
 ∀(pins:List (Addr×Obj)) (s:Shared) (σ:St) (H:Hp) (D:Ends),Inv X pins σ H s→t D σ H→wpAny (model X.prog X.w) X.A (exec st X.env) (SP X pins D) X.xe s
def PSs (X:Cx) (st:List Stmt) (t:TS):Prop :=
 ∀(pins:List (Addr×Obj)) (s:Shared) (σ:St) (H:Hp) (D:Ends),Inv X pins σ H s→t D σ H→wpAny (model X.prog X.w) X.A (execs st X.env) (SP X pins D) X.xe s
theorem thn {α:Type}{t:Sem α}{Q Q':α→Shared→Prop}{M:Model}{A:Around}{E:Value→Shared→Prop}{s:Shared} (h:wpAny M A t Q E s) (hQ:∀a s,Q a s→Q' a s):wpAny M A t Q' E s:=zo h hQ fun _ _ x=>x
section
variable {X:Cx}
def QxK (i:Nat):TE:=fun σ H Q=>∃v,σ[i]? = some (some v)∧Q v H
def tC (v:V):TE:=fun _ H Q=>Q v H
theorem Qfm {i:Nat}{x:Str}{pos:Pos} (hN:X.N[i]? = some x) (hv:Vis X.env.scope x) (hd:(x == ("__debug__":Str))=false:=by decide) (hcd:(x == ("__classdict__":Str))=false:=by decide):PE X (.Name x pos) (QxK i):=by
 intro pins s σ H Q I h;obtain ⟨v,e,h⟩:=h;obtain ⟨m,hn,hl⟩:=I.loc;obtain ⟨u,r,l⟩:=hl i x v hN e hv;have fin:EP X pins σ Q u s:=⟨v,H,I,r,h⟩
 rcases l with ⟨hk,hm⟩ | ⟨hk,c,hc,hcell⟩
 ·exact wpAny_Name (wpAny_loadName_local I.ok.kind hk hn hm fin) hd
 ·rcases hk with hk | hk
  ·exact wpAny_Name (wpAny_loadName_cell I.ok.kind hk hc hcell fin) hd
  ·exact wpAny_Name (wpAny_loadName_free I.ok.kind hk hc hcell fin hcd) hd
theorem QvY {i j pos}:PE X (.Constant (.int i) j pos) (tC (.int i)):=fun _ _ _ H _ I h=>wpAny_Constant_int ⟨.int i,H,I.tok _,⟨_,rfl⟩,h⟩
theorem Qwl {b j pos}:PE X (.Constant (.bool b) j pos) (tC (.bl b)):=fun _ _ _ H _ I h=>Constant_bool ⟨.bl b,H,I,rfl,h⟩
theorem QvH {j pos}:PE X (.Constant .none j pos) (tC .non):=fun _ _ _ H _ I h=>Constant_none ⟨.non,H,I,rfl,h⟩
theorem Qqb {x j pos}:PE X (.Constant (.str x) j pos) (tC (.str x)):=fun _ _ _ H _ I h=>Calls.Constant_str ⟨.str x,H,I.tok _,⟨_,rfl⟩,h⟩
def Gl (X:Cx) (x:Str):Prop:=X.env.kindOf x=some .globalImplicit
theorem QdM {E:Value→Shared→Prop}{pins:List (Addr×Obj)}{s:Shared}{σ:St}{H:Hp}{x:Str}{u:Value}{pos:Pos}{Q:Value→Shared→Prop} (I:Inv X pins σ H s) (hg:Gl X x) (hm:X.mg x=some u) (h:Q u s)
  (hd:(x == ("__debug__":Str))=false:=by decide):wpAny (model X.prog X.w) X.A (eval (.Name x pos) X.env) Q E s :=
 Calls.Name_function_global I.ok.kind hg (Calls.loadGlobal_global (by rw [I.ok.glob]; exact I.mod.glob.keeps I.bk) hm h) hd
theorem QgY {E:Value→Shared→Prop}{pins:List (Addr×Obj)}{s:Shared}{σ:St}{H:Hp}{x:Str}{u:Value}{pos:Pos}{Q:Value→Shared→Prop} (I:Inv X pins σ H s) (hg:Gl X x) (hm:X.mg x=none) (hv:bootBuiltins x=some u) (h:Q u s)
  (hn:x≠"__name__":=by decide) (hd:(x == ("__debug__":Str))=false:=by decide):wpAny (model X.prog X.w) X.A (eval (.Name x pos) X.env) Q E s:=by
 obtain ⟨mb,h1,h2⟩:=I.mod.blt;exact Calls.Name_function_global I.ok.kind hg (Calls.loadGlobal_builtin (by rw [I.ok.glob]; exact I.mod.glob.keeps I.bk) hm (by rw [I.ok.blt]; exact h1.keeps I.bk) ((h2 x hn).trans hv) h) hd
theorem Qls {x:Str}{v:V}{u:Value}{pos:Pos} (hg:Gl X x) (hm:X.mg x=some u) (r:RelV v u) (hd:(x == ("__debug__":Str))=false:=by decide):PE X (.Name x pos) (tC v) :=
 fun _ _ _ H _ I h=>QdM I hg hm ⟨v,H,I,r,h⟩ hd
theorem Qom {x:Str}{v:V}{u:Value}{pos:Pos} (hg:Gl X x) (hm:X.mg x=none) (hv:bootBuiltins x=some u) (r:RelV v u) (hn:x≠"__name__":=by decide) (hd:(x == ("__debug__":Str))=false:=by decide):PE X (.Name x pos) (tC v) :=
 fun _ _ _ H _ I h=>QgY I hg hm hv ⟨v,H,I,r,h⟩ hn hd
variable {a b:Expr}{ta tb:TE}{pos:Pos}
def PC (X:Cx) (op:CmpOp) (a b:Expr) (t:TE):Prop :=
 ∀(pins:List (Addr×Obj)) (s:Shared) (σ:St) (H:Hp) (Q:VK),Inv X pins σ H s→t σ H Q →
  wpAny (model X.prog X.w) X.A (eval a X.env) (fun v s₁=>wpAny (model X.prog X.w) X.A (eval b X.env) (fun u s₂=>wpAny (model X.prog X.w) X.A (compareOp op v u) (EP X pins σ Q) X.xe s₂) X.xe s₁) X.xe s
theorem QrO (b:Expr) {op:CmpOp} (h:op≠.In) (h2:op≠.NotIn):behindInMarks op b=false:=by
 have e1:(op == CmpOp.In)=false:=by cases op <;> first | rfl | exact absurd rfl h
 have e2:(op == CmpOp.NotIn)=false:=by cases op <;> first | rfl | exact absurd rfl h2
 cases b <;> simp [behindInMarks,e1,e2]
def QsL (ta:TE):TE:=fun σ H Q=>ta σ H fun x H1=>Q (.bl (!decide (x = .non))) H1
theorem RelV.none_iff {x:V}{v:Value} (r:RelV x v):(v == Value.none)=decide (x = .non):=by
 cases x with
 | non=>cases r; rfl
 | bl _=>cases r; rfl
 | int _=>obtain ⟨t,rfl⟩:=r; rfl
 | str _=>obtain ⟨t,rfl⟩:=r; rfl
 | byt _=>obtain ⟨t,rfl⟩:=r; rfl
 | flt _=>obtain ⟨t,rfl⟩:=r; rfl
 | ref _=>cases r; rfl
 | ty _=>cases r; rfl
theorem Qtp {j pos'} (ha:PE X a ta):PC X .IsNot a (.Constant .none j pos') (QsL ta):=by
 intro pins s σ H Q I h
 refine thn (ha pins s σ H _ I h) fun v s1 ⟨x,H1,I1,r1,q1⟩=>?_
 exact Constant_none (isnot_none_gen ⟨.bl _,H1,I1,by rw [r1.none_iff]; rfl,q1⟩)
def tB (t:TE):TT:=fun σ H Q=>t σ H fun x H1=>∃c,x = .bl c∧Q c H1
theorem Qvh {op:CmpOp}{t:TE} (h:PC X op a b t) (h1:behindInMarks op b=false:=by first | exact QrO _ (by decide) (by decide) | rfl):PT X (.Compare a [op] [b] pos) (tB t):=by
 intro pins s σ H Q I hw;refine wpAny_isTrue_Compare1 (thn (h pins s σ H _ I hw) fun v s1 h1=>thn h1 fun u s2 h2=>thn h2 fun c s3 ⟨x,H1,I1,r1,q1⟩=>?_) h1;obtain ⟨d,rfl,q⟩:=q1;cases r1;exact wpAny_truthy_bool ⟨H1,I1,q⟩
variable {tA tB':TT}{rest:List Expr}
def QuV (t u:TT):TT:=fun σ H Q=>t σ H fun c H1=>if c=true then u σ H1 Q else Q false H1
def tOr (t u:TT):TT:=fun σ H Q=>t σ H fun c H1=>if c=true then Q true H1 else u σ H1 Q
def QxF (t:TT):TT:=fun σ H Q=>t σ H fun c H1=>Q (!c) H1
theorem QtL (ha:PT X a tA):PW X (.BoolOp .And [a] pos) tA:=by
 intro wh pins s σ H Q I h;refine isTrue_and (thn (ha pins s σ H Q I h) fun c s1 e=>?_)
 cases c with
 | true=>exact isTrue_and_nil e
 | false=>exact e
theorem Qvl (ha:PT X a tA):PW X (.BoolOp .Or [a] pos) tA:=by
 intro wh pins s σ H Q I h;refine isTrue_or (thn (ha pins s σ H Q I h) fun c s1 e=>?_)
 cases c with
 | false=>exact isTrue_or_nil e
 | true=>exact e
theorem QuA (ha:PT X a tA) (hb:PW X (.BoolOp .And (b::rest) pos) tB'):PW X (.BoolOp .And (a::b::rest) pos) (QuV tA tB'):=by
 intro wh pins s σ H Q I h;refine isTrue_and (thn (ha pins s σ H _ I h) fun c s1 ⟨H1,I1,q1⟩=>?_)
 cases c with
 | true=>exact hb wh pins s1 σ H1 Q I1 q1
 | false=>exact ⟨H1,I1,q1⟩
theorem Qws (ha:PT X a tA) (hb:PW X (.BoolOp .Or (b::rest) pos) tB'):PW X (.BoolOp .Or (a::b::rest) pos) (tOr tA tB'):=by
 intro wh pins s σ H Q I h;refine isTrue_or (thn (ha pins s σ H _ I h) fun c s1 ⟨H1,I1,q1⟩=>?_)
 cases c with
 | true=>exact ⟨H1,I1,q1⟩
 | false=>exact hb wh pins s1 σ H1 Q I1 q1
theorem QvL (ha:PT X a tA):PT X (.UnaryOp .Not a pos) (QxF tA):=by
 intro pins s σ H Q I h;exact isTrue_not (ha pins s σ H (fun c H1=>Q (!c) H1) I h)
def Qw8 (ta tb:TE):TE:=fun σ H Q=>ta σ H fun x H1=>∃c,x = .bl c∧if c=true then tb σ H1 Q else Q (.bl false) H1
def QxL (ta tb:TE):TE:=fun σ H Q=>ta σ H fun x H1=>∃c,x = .bl c∧if c=true then Q (.bl true) H1 else tb σ H1 Q
def Qwr (ta:TE):TE:=fun σ H Q=>ta σ H fun x H1=>∃c,x = .bl c∧Q (.bl (!c)) H1
theorem QuD {op}{t:TE} (h:PE X a t):PE X (.BoolOp op [a] pos) t:=fun pins s σ H Q I hw=>BoolOp_one (h pins s σ H Q I hw)
theorem Qu3 (ha:PE X a ta) (hb:PE X (.BoolOp .And (b::rest) pos) tb):PE X (.BoolOp .And (a::b::rest) pos) (Qw8 ta tb):=by
 intro pins s σ H Q I h;refine BoolOp_and (thn (ha pins s σ H _ I h) fun v s1 ⟨x,H1,I1,r1,q1⟩=>?_);obtain ⟨c,rfl,q1⟩:=q1;cases r1;refine wpAny_truthy_bool ?_
 cases c with
 | true=>exact hb pins s1 σ H1 Q I1 q1
 | false=>exact ⟨.bl false,H1,I1,rfl,q1⟩
theorem Qwe (ha:PE X a ta) (hb:PE X (.BoolOp .Or (b::rest) pos) tb):PE X (.BoolOp .Or (a::b::rest) pos) (QxL ta tb):=by
 intro pins s σ H Q I h;refine BoolOp_or (thn (ha pins s σ H _ I h) fun v s1 ⟨x,H1,I1,r1,q1⟩=>?_);obtain ⟨c,rfl,q1⟩:=q1;cases r1;refine wpAny_truthy_bool ?_
 cases c with
 | false=>exact hb pins s1 σ H1 Q I1 q1
 | true=>exact ⟨.bl true,H1,I1,rfl,q1⟩
theorem QvG (ha:PE X a ta):PE X (.UnaryOp .Not a pos) (Qwr ta):=by
 intro pins s σ H Q I h;refine UnaryOp_ (thn (ha pins s σ H _ I h) fun v s1 ⟨x,H1,I1,r1,q1⟩=>?_);obtain ⟨c,rfl,q1⟩:=q1;cases r1;exact not_of (wpAny_truthy_bool ⟨.bl (!c),H1,I1,rfl,q1⟩)
end
def SqL (K:PySem.W.Frag) (H:Hp) (a:Addr) (xs:List V):Prop :=
 Rd H a (.lst xs) ∨
  ∃(o:Obj) (its:Array Value) (n:Nat),K.lookup a=some o∧o.cls = .type "list"∧o.dict=none∧o.data = .seq its n∧its.size≤sizeLine∧QaB xs its.toList
def SqT (K:PySem.W.Frag) (H:Hp) (a:Addr) (xs:List V):Prop :=
 Rd H a (.tup xs) ∨
  ∃(o:Obj) (its:Array Value) (n:Nat),K.lookup a=some o∧o.cls = .type "tuple"∧o.data = .seq its n∧its.size≤sizeLine∧QaB xs its.toList
def Qxv:Value→Option V
 | .none=>some .non
 | .bool b=>some (.bl b)
 | .int i _=>some (.int i)
 | .str x _=>some (.str x)
 | .bytes b _=>some (.byt b)
 | .float b _=>some (.flt b)
 | .ref a=>some (.ref a)
 | .type n=>some (.ty n)
 | _=>none
theorem RelV.abs {x:V}{u:Value} (r:RelV x u):Qxv u=some x:=by
 cases x with
 | non=>cases r; rfl
 | bl _=>cases r; rfl
 | int _=>obtain ⟨t,rfl⟩:=r; rfl
 | str _=>obtain ⟨t,rfl⟩:=r; rfl
 | byt _=>obtain ⟨t,rfl⟩:=r; rfl
 | flt _=>obtain ⟨t,rfl⟩:=r; rfl
 | ref _=>cases r; rfl
 | ty _=>cases r; rfl
theorem RelV.inj {x y:V}{u:Value} (r:RelV x u) (q:RelV y u):x=y:=zH (r.abs.symm.trans q.abs)
theorem QaB.inj:∀{xs ys:List V}{us:List Value},QaB xs us→QaB ys us→xs=ys
 | _,_,_,.nil,.nil=>rfl
 | _,_,_,.cons r t,.cons r' t'=>by rw [r.inj r',QaB.inj t t']
section
variable {X:Cx}{pins:List (Addr×Obj)}{σ:St}{H:Hp}{s:Shared}{a:Addr}{xs ys:List V}
theorem SqL.of {K:PySem.W.Frag} (h:H a=some (.lst xs)):SqL K H a xs:=.inl (.inl h)
theorem SqT.of {K:PySem.W.Frag} (h:H a=some (.tup xs)):SqT K H a xs:=.inl (.inl h)
theorem Inv.list (I:Inv X pins σ H s) (h:SqL X.K H a xs):∃its:List Value,QaB xs its∧PlainL s.heap a its.toArray∧xs.length≤sizeLine:=by
 rcases h with h | ⟨o,its,n,hk,hc,hd,hs,hz,r⟩
 ·obtain ⟨z,its,n,r,e⟩:=h.ok I.hok;exact ⟨its,r,⟨_,n,e,rfl,rfl,rfl⟩,z⟩
 ·refine ⟨its.toList,r,⟨o,n,I.kIn a o hk,hc,hd,by simpa using hs⟩,?_⟩;have e:=r.length;simp only [Array.length_toList] at e;omega
theorem Inv.tuple (I:Inv X pins σ H s) (h:SqT X.K H a xs):∃its:List Value,QaB xs its∧IsTup s.heap a its.toArray∧xs.length≤sizeLine:=by
 rcases h with h | ⟨o,its,n,hk,hc,hs,hz,r⟩
 ·obtain ⟨z,its,r,p⟩:=h.ok I.hok;exact ⟨its,r,p,z⟩
 ·refine ⟨its.toList,r,⟨o,I.kIn a o hk,hc,n,by simpa using hs⟩,?_⟩;have e:=r.length;simp only [Array.length_toList] at e;omega
theorem Inv.list_inj (I:Inv X pins σ H s) (h:SqL X.K H a xs) (h':SqL X.K H a ys):xs=ys:=by
 obtain ⟨its,r,⟨o,n,e,_,_,d⟩,_⟩:=I.list h;obtain ⟨its',r',⟨o',n',e',_,_,d'⟩,_⟩:=I.list h';rw [e] at e'; cases e';rw [d] at d'
 injection d' with d1 _
 have:its=its':=by simpa using congrArg Array.toList d1
 subst this;exact r.inj r'
theorem Inv.tuple_inj (I:Inv X pins σ H s) (h:SqT X.K H a xs) (h':SqT X.K H a ys):xs=ys:=by
 obtain ⟨its,r,⟨o,e,_,n,d⟩,_⟩:=I.tuple h;obtain ⟨its',r',⟨o',e',_,n',d'⟩,_⟩:=I.tuple h';rw [e] at e'; cases e';rw [d] at d'
 injection d' with d1 _
 have:its=its':=by simpa using congrArg Array.toList d1
 subst this;exact r.inj r'
end
abbrev Cx.wish (X:Cx) (E:Value→Shared→Prop):Cx:={ X with xe:=E }
abbrev Cx.nox (X:Cx):Cx:=X.wish fun _ _=>False
theorem Cx.Ok.wish {X:Cx} (ok:X.Ok) (E:Value→Shared→Prop):(X.wish E).Ok :=
 ⟨ok.mod,ok.kind,ok.glob,ok.blt,ok.above,ok.inj,ok.has,ok.cab,ok.hd,ok.frames,ok.stk,ok.exf,ok.bs,ok.bsz,ok.noex,ok.exfs,ok.funs,ok.frf⟩
theorem Cx.Ok.unwish {X:Cx}{E:Value→Shared→Prop} (ok:(X.wish E).Ok):X.Ok :=
 ⟨ok.mod,ok.kind,ok.glob,ok.blt,ok.above,ok.inj,ok.has,ok.cab,ok.hd,ok.frames,ok.stk,ok.exf,ok.bs,ok.bsz,ok.noex,ok.exfs,ok.funs,ok.frf⟩
section
variable {X:Cx}{pins:List (Addr×Obj)}{σ:St}{H:Hp}{s:Shared}{E:Value→Shared→Prop}
theorem Inv.wish (I:Inv X pins σ H s) (E:Value→Shared→Prop):Inv (X.wish E) pins σ H s:=⟨I.ok.wish E,I.os,I.bare,I.base,I.loc,I.cell,I.free,I.freeC,I.pin,I.hok,I.len⟩
theorem Inv.unwish (I:Inv (X.wish E) pins σ H s):Inv X pins σ H s:=⟨I.ok.unwish,I.os,I.bare,I.base,I.loc,I.cell,I.free,I.freeC,I.pin,I.hok,I.len⟩
theorem SP.unwish {D:Ends}{f:Flow}{s':Shared} (h:SP (X.wish E) pins D f s'):SP X pins D f s':=by
 cases f with
 | next=>obtain ⟨σ',H',I,q⟩:=h; exact ⟨σ',H',I.unwish,q⟩
 | brk=>obtain ⟨σ',H',I,q⟩:=h; exact ⟨σ',H',I.unwish,q⟩
 | cont=>obtain ⟨σ',H',I,q⟩:=h; exact ⟨σ',H',I.unwish,q⟩
 | ret u=>obtain ⟨v,σ',H',I,r,q⟩:=h; exact ⟨v,σ',H',I.unwish,r,q⟩
theorem PE.nox {e:Expr}{t:TE} (h:PE X.nox e t):PE X e t:=fun pins s σ H Q I hw =>
 zo (h pins s σ H Q (I.wish _) hw) (fun _ _ ⟨v,H',I',r,q⟩=>⟨v,H',I'.unwish,r,q⟩) fun _ _ z=>False.elim z
theorem PT.nox {e:Expr}{t:TT} (h:PT X.nox e t):PT X e t:=fun pins s σ H Q I hw =>
 zo (h pins s σ H Q (I.wish _) hw) (fun _ _ ⟨H',I',q⟩=>⟨H',I'.unwish,q⟩) fun _ _ z=>False.elim z
theorem PSs.nox {st:List Stmt}{t:TS} (h:PSs X.nox st t):PSs X st t:=fun pins s σ H D I hw =>
 zo (h pins s σ H D (I.wish _) hw) (fun _ _ q=>q.unwish) fun _ _ z=>False.elim z
end
section
variable {X:Cx}{st:Stmt}{rest:List Stmt}{t u:TS}{e:Expr}{te:TE}{pos:Pos}
def Qwv:TS:=fun D σ H=>D.nx σ H
def Qxy (t u:TS):TS:=fun D σ H=>t { D with nx:=u D } σ H
theorem Qoe:PSs X [] Qwv:=fun _ _ σ H _ I h=>wpAny_execs_nil ⟨σ,H,I,h⟩
theorem QmL (h1:PS X st t) (h2:PSs X rest u):PSs X (st::rest) (Qxy t u):=by
 intro pins s σ H D I h;refine wpAny_execs_cons (thn (h1 pins s σ H { D with nx:=u D } I h) fun f s1 q=>?_)
 cases f with
 | next =>
  obtain ⟨σ',H',I',q⟩:=q;exact h2 pins s1 σ' H' D I' q
 | ret v=>exact q
 | brk=>exact q
 | cont=>exact q
theorem Qor (h1:PS X st t):PSs X [st] t:=by
 intro pins s σ H D I h;refine wpAny_execs_cons (thn (h1 pins s σ H D I h) fun f s1 q=>?_)
 cases f with
 | next=>exact wpAny_execs_nil q
 | ret v=>exact q
 | brk=>exact q
 | cont=>exact q
theorem Inv.quiet {pins:List (Addr×Obj)}{σ:St}{H:Hp}{s:Shared} (I:Inv X pins σ H s):interactive X.env=false:=by simp [interactive,I.ok.kind]
def QwQ (te:TE):TS:=fun D σ H=>te σ H fun _ H1=>D.nx σ H1
theorem Qh3 (he:PE X e te) (hs:swapsWith e none pos.line X.env=pure false:=by rfl):PS X (.Expr e pos) (QwQ te):=by
 intro pins s σ H D I h;exact wpAny_Expr_any (thn (he pins s σ H _ I h) fun v s1 ⟨x,H1,I1,r1,q1⟩=>⟨σ,H1,I1,q1⟩) I.quiet hs
def QxP (te:TE):TS:=fun D σ H=>te σ H D.rt
theorem Qqq (he:PE X e te):PS X (.Return (some e) pos) (QxP te):=by
 intro pins s σ H D I h;exact wpAny_Return_some (thn (he pins s σ H _ I h) fun v s1 ⟨x,H1,I1,r1,q1⟩=>⟨x,σ,H1,I1,r1,q1⟩)
def QxW (c:TT) (t u:TS):TS:=fun D σ H=>c σ H fun b H1=>if b=true then t D σ H1 else u D σ H1
theorem QsT {c:Expr}{a b:List Stmt}{tc:TT} (hc:PT X c tc) (ha:PSs X a t) (hb:PSs X b u):PS X (.If c a b pos) (QxW tc t u):=by
 intro pins s σ H D I h;refine wpAny_If (thn (hc pins s σ H _ I h) fun d s1 ⟨H1,I1,q1⟩=>?_)
 cases d with
 | true=>exact ha pins s1 σ H1 D I1 q1
 | false=>exact hb pins s1 σ H1 D I1 q1
end
abbrev TG:=V→St→Hp→(St→Hp→Prop)→Prop
abbrev TGs:=List V→St→Hp→(St→Hp→Prop)→Prop
def PG (X:Cx) (target:Expr) (t:TG):Prop :=
 ∀(pins:List (Addr×Obj)) (s:Shared) (σ:St) (H:Hp) (v:V) (u:Value) (Q:St→Hp→Prop),Inv X pins σ H s→RelV v u→t v σ H Q →
  wpAny (model X.prog X.w) X.A (assign target X.env u) (fun _ s'=>∃σ' H',Inv X pins σ' H' s'∧Q σ' H') X.xe s
def PGs (X:Cx) (ts:List Expr) (t:TGs):Prop :=
 ∀(pins:List (Addr×Obj)) (s:Shared) (σ:St) (H:Hp) (vs:List V) (us:List Value) (Q:St→Hp→Prop),Inv X pins σ H s→QaB vs us→t vs σ H Q →
  wpAny (model X.prog X.w) X.A (assignInOrder ((assignEach ts X.env).map (·.2)) us) (fun _ s'=>∃σ' H',Inv X pins σ' H' s'∧Q σ' H') X.xe s
abbrev Qsl:=V→V→V→Hp→(Hp→Prop)→Prop
def QuF (X:Cx) (t:Qsl):Prop :=
 ∀(pins:List (Addr×Obj)) (s:Shared) (σ:St) (H:Hp) (o i v:V) (ov iv u:Value) (Q:Hp→Prop),Inv X pins σ H s→RelV o ov→RelV i iv→RelV v u→t o i v H Q →
  wpAny (model X.prog X.w) X.A (setItem ov iv u) (fun _ s'=>∃H',Inv X pins σ H' s'∧Q H') X.xe s
section
variable {X:Cx}{pos:Pos}
def QkK (i:Nat):TG:=fun v σ H Q=>Q (σ.set i (some v)) H
theorem QtB {i:Nat}{x:Str} (hN:X.N.Nodup) (hi:X.N[i]? = some x) (hx:Loc X.env.scope x) (hf:X.fn x=true∨X.env.scope.names.lookup x=some .local:=by first | exact .inl rfl | exact .inr rfl | assumption):PG X (.Name x pos) (QkK i):=by
 intro pins s σ H v u Q I r h;exact wpAny_assign_Name (QiE I hN hi hx r (fun s' I'=>⟨_,H,I',h⟩) hf)
def Qx0:TGs:=fun vs σ H Q=>vs = []∧Q σ H
def QwJ (t:TG) (u:TGs):TGs:=fun vs σ H Q=>∃v r,vs=v::r∧t v σ H fun σ' H'=>u r σ' H' Q
theorem Qt3:PGs X [] Qx0:=by
 intro pins s σ H vs us Q I r h;obtain ⟨e,h⟩:=h;subst e;cases r;exact assignInOrder_nil ⟨σ,H,I,h⟩
theorem QrN {e:Expr}{es:List Expr}{t:TG}{u:TGs} (h1:PG X e t) (h2:PGs X es u)
  (hs:(assignEach (e::es) X.env).map (·.2)=assign e X.env::(assignEach es X.env).map (·.2):=by rfl):PGs X (e::es) (QwJ t u):=by
 intro pins s σ H vs us Q I r h;obtain ⟨v,vr,e1,h⟩:=h;subst e1
 cases r with
 | cons r rr =>
  rw [hs];refine assignInOrder_cons (thn (h1 pins s σ H _ _ _ I r h) fun _ s1 ⟨σ1,H1,I1,q1⟩=>?_);exact h2 pins s1 σ1 H1 _ _ Q I1 rr q1
def Qxz (K:PySem.W.Frag) (n:Nat) (t:TGs):TG:=fun v σ H Q=>∃a xs,v = .ref a∧SqT K H a xs∧xs.length=n∧t xs σ H Q
theorem Qu6 {es:List Expr}{k:Nat}{t:TGs}{n:Nat} (hc:X.calm=true) (h:PGs X es t)
  (hn:(assignEach es X.env).length=n:=by rfl) (hst:(assignEach es X.env).findIdx? (·.1)=none:=by rfl):PG X (.Tuple es k pos) (Qxz X.K n t):=by
 intro pins s σ H v u Q I r hw;obtain ⟨a,xs,e1,hq,hl,hw⟩:=hw;subst e1;cases r;obtain ⟨its,rv,ht,hz⟩:=I.tuple hq
 refine assign_Tuple_tuple (I.ok.hd hc) ht (by simp [hn,←hl,rv.length]) hst fun h' hx=>?_
 have I1:Inv X pins σ H { s with heap:=h' }:=I.kept (t':=s.toks) fun b o e=>hx b o (zl (zd e)) e
 exact h pins _ σ H xs _ Q I1 (by simpa using rv) hw
def Qyd (to ti:TE) (t:Qsl):TG:=fun v σ H Q=>to σ H fun o H1=>ti σ H1 fun i H2=>t o i v H2 fun H3=>Q σ H3
theorem QvT {o i:Expr}{to ti:TE}{t:Qsl} (ho:PE X o to) (hi:PE X i ti) (hs:QuF X t)
  (ha:∀v,assign (.Subscript o i pos) X.env v=(do
   let ov ←holding [v] (eval o X.env)
   let iv ←holding [v,ov] (eval i X.env)
   standAt pos
   holding [v,ov,iv] (setItem ov iv v)
   release [v,ov,iv] []):=by intro _; rfl):PG X (.Subscript o i pos) (Qyd to ti t):=by
 intro pins s σ H v u Q I r h;rw [ha];refine za (zF (thn (ho pins s σ H _ I h) fun ov s1 ⟨x,H1,I1,r1,q1⟩=>?_));refine za (zF (thn (hi pins s1 σ H1 _ I1 q1) fun iv s2 ⟨y,H2,I2,r2,q2⟩=>?_));refine za (wpAny_standAt (za (zF (thn (hs pins s2 σ H2 x y v ov iv u _ I2 r1 r2 r q2) fun _ s3 ⟨H3,I3,q3⟩=>?_))));exact wpAny_release ⟨σ,H3,I3,q3⟩
def QnN (te:TE) (g:TG):TS:=fun D σ H=>te σ H fun x H1=>g x σ H1 D.nx
theorem Qrl {tg e:Expr}{te:TE}{g:TG} (he:PE X e te) (hg:PG X tg g) (hs:swapsWithSole [tg] e pos.line X.env=pure false:=by rfl) (hw:swappedStores [tg] e X.env=pure none:=by rfl)
  (h1:(assignEach [tg] X.env).map (·.2) = [assign tg X.env]:=by rfl):PS X (.Assign [tg] e pos) (QnN te g):=by
 intro pins s σ H D I h;refine wpAny_Assign_stores (thn (he pins s σ H _ I h) fun v s1 ⟨x,H1,I1,r1,q1⟩=>?_) hs hw;rw [h1]
 exact thn (hg pins s1 σ H1 x v _ I1 r1 q1) fun _ s2 q=>q
theorem QmQ {i:Nat}{x:Str}{e:Expr}{te:TE}{pos':Pos} (hN:X.N.Nodup) (hi:X.N[i]? = some x) (hx:Loc X.env.scope x) (he:PE X e te) (hs:swapsWith e (some (.Name x pos')) pos.line X.env=pure false:=by rfl) (hf:X.fn x=true∨X.env.scope.names.lookup x=some .local:=by first | exact .inl rfl | exact .inr rfl | assumption) :
  PS X (.Assign [.Name x pos'] e pos) (QnN te (QkK i)):=by
 intro pins s σ H D I h;refine wpAny_Assign_Name (thn (he pins s σ H _ I h) fun v s1 ⟨y,H1,I1,r1,q1⟩=>?_) hs;exact QiE I1 hN hi hx r1 (fun s2 I2=>⟨_,H1,I2,q1⟩) hf
end
section
variable {X:Cx}{pos:Pos}
end
structure It where
 go:Nat→Hp→Prop
 yld:Nat→Hp→V→Hp→Prop
 stop:Nat→Hp→Prop
def Qfd (X:Cx) (pins:List (Addr×Obj)) (H:Hp) (b:Addr):Prop :=
 H b=none∧b≠X.env.locals∧b∉X.fs∧(b∈X.ex∨X.s₀.heap.objs.size≤b)∧(∀x c,X.env.cells.lookup x=some c→c≠b)∧∀p∈X.pn++pins,p.1≠b
theorem Inv.fpOk {X:Cx}{pins:List (Addr×Obj)}{σ:St}{H H':Hp}{s:Shared}{b:Addr} (I:Inv X pins σ H s) (hb:s.heap.objs.size≤b) (hn:H' b=none):Qfd X pins H' b:=by
 refine ⟨hn,Nat.ne_of_gt (zz I.lt hb),I.nofs hb,.inr (zA I.sz hb),fun x c e z=>?_,fun p hp z=>?_⟩
 ·obtain ⟨v,q⟩:=I.cell x c e;exact absurd (zz q.lt (by rw [z]; exact hb)) (zM _)
 ·exact absurd (zz (zd (I.pin p hp).1) (by rw [z]; exact hb)) (zM _)
structure Turn (P:Program) (w:World) (K:PySem.W.Frag) (tg:Expr) (J:It) (fp:List Addr) (it:Addr) (tn:Nat→Heap→Prop):Prop where
 mem:it∈fp
 obj:∀i h,tn i h→∀b∈fp,∃o,h.get? b=some o∧∀v,o.data≠.cell v
 keep:∀i h h',tn i h→(∀b∈fp,∀o,h.get? b=some o→h'.get? b=some o)→tn i h'
 item:∀(X:Cx),X.prog=P→X.w=w→X.K=K→X.calm=true→∀(i:Nat) (pins:List (Addr×Obj)) (s:Shared) (σ:St) (H:Hp) (E:Value→Shared→Prop),Inv X pins σ H s→(∀b∈fp,Qfd X pins H b)→tn i s.heap→J.go i H →
  wpAny (model P w) X.A (pyNext (.ref it)) (fun r s1=>∃u,r=some u ∧
   wpAny (model P w) X.A (letOwnedTupleGo tg (.ref it) u) (fun _ s2=>∃x H',Inv X pins σ H' s2∧RelV x u∧J.yld i H x H'∧tn (i+1) s2.heap∧∀b∈fp,H' b=none) E s1) E s
 done:∀(X:Cx),X.prog=P→X.w=w→X.K=K→X.calm=true→∀(i:Nat) (pins:List (Addr×Obj)) (s:Shared) (σ:St) (H:Hp) (E:Value→Shared→Prop),Inv X pins σ H s→(∀b∈fp,Qfd X pins H b)→tn i s.heap→J.stop i H →
  wpAny (model P w) X.A (pyNext (.ref it)) (fun r s1=>r=none∧Inv X pins σ H s1) E s
 self:∀(A:Around) (i:Nat) (s:Shared) (Q:Value→Shared→Prop) (E:Value→Shared→Prop),tn i s.heap→Q (.ref it) s→wpAny (model P w) A (pyIter (.ref it)) Q E s
abbrev TI:=St→Hp→(It→Hp→Prop)→Prop
def PIE (X:Cx) (pins:List (Addr×Obj)) (σ:St) (tg:Expr) (R:It→Hp→Prop) (itv:Value) (s2:Shared):Prop :=
 ∃(it:Addr) (fp:List Addr) (tn:Nat→Heap→Prop) (J:It) (H':Hp),itv = .ref it∧Inv X pins σ H' s2∧Turn X.prog X.w X.K tg J fp it tn∧tn 0 s2.heap∧(∀b∈fp,Qfd X pins H' b)∧R J H'
def PI (X:Cx) (tg iter:Expr) (wi:TI):Prop :=
 ∀(pins:List (Addr×Obj)) (s:Shared) (σ:St) (H:Hp) (R:It→Hp→Prop),Inv X pins σ H s→wi σ H R →
  wpAny (model X.prog X.w) X.A (eval iter X.env) (fun v s1=>wpAny (model X.prog X.w) X.A (pyIter v) (PIE X pins σ tg R) X.xe s1) X.xe s
theorem Qmo {M:Model}{A:Around}{E:Value→Shared→Prop}{s:Shared}{tg:Expr}{it:Addr}{u:Value}{o:Obj}{n:String}{vs:Array Value}{Q:Unit→Shared→Prop} (ho:s.heap.get? it=some o) (hc:o.cls = .type n) (hd:o.data = .fields vs)
  (hn:["enumerate","zip","dict_itemiterator","dict_reverseitemiterator","odict_iterator","itertools.zip_longest","itertools.pairwise"].contains n=false) (hQ:Q () s):wpAny M A (letOwnedTupleGo tg (.ref it) u) Q E s:=by
 unfold letOwnedTupleGo
 cases tg <;> first
  | exact zb hQ
  | (cases u <;> first
    | exact zb hQ
    | (refine za (wpAny_load ho ?_)
       rw [hc,hd];show wpAny M A (if (["enumerate","zip","dict_itemiterator","dict_reverseitemiterator","odict_iterator","itertools.zip_longest","itertools.pairwise"].contains n&&vs[0]? == some (rawInt _))=true then _ else _) Q E s;rw [if_neg (by intro h; rw [hn,Bool.false_and] at h; cases h)]
       exact zb hQ))
def Itl (K:PySem.W.Frag) (a:Addr):It :=
 ⟨fun i H=>∃xs x,SqL K H a xs∧xs[i]? = some x,fun i H x H'=>H'=H∧∀xs,SqL K H a xs→xs[i]? = some x,fun i H=>∃xs,SqL K H a xs∧xs.length≤i⟩
def Itt (K:PySem.W.Frag) (a:Addr):It :=
 ⟨fun i H=>∃xs x,SqT K H a xs∧xs[i]? = some x,fun i H x H'=>H'=H∧∀xs,SqT K H a xs→xs[i]? = some x,fun i H=>∃xs,SqT K H a xs∧xs.length≤i⟩
def Itr (lo:Int) (n:Nat):It:=⟨fun i _=>i < n,fun i H x H'=>H'=H∧x = .int (lo+i),fun i _=>n≤i⟩
theorem QqY {P:Program}{w:World}{K:PySem.W.Frag}{tg:Expr} (a it:Addr):Turn P w K tg (Itl K a) [it] it (fun i h=>h.IsListIter it a i) where
 mem:=by simp
 obj:=fun i h st b hb=>by
  have e:b=it:=by simpa using hb
  subst e;obtain ⟨o,e,c,d⟩:=st;exact ⟨o,e,fun v z=>by rw [d] at z; cases z⟩
 keep:=fun i h h' st k=>st.at fun o e=>k it (by simp) o e
 item:=by
  intro X hP hw hK hc i pins s σ H E I hf st hg;subst hP hw hK;obtain ⟨xs,x,hq,hx⟩:=hg;obtain ⟨its,rv,p,hz⟩:=I.list hq;obtain ⟨u,hu,ru⟩:=rv.get hx;obtain ⟨f0,f1,f2,f3,f4,f5⟩:=hf it (by simp)
  refine wpAny_pyNext_list_item st p.isList (x:=u) (by simpa using hu) fun h' st' sb=>?_
  have I1:Inv X pins σ H { s with heap:=h' }:=I.turned (t':=s.toks) (fun b o hb e=>(sb.2 b hb).trans e) f0 f1 f3 f4 f5;obtain ⟨o,e,c,d⟩:=id st';exact ⟨u,rfl,Qmo (s:={ s with heap:=h' }) e c d (by decide) ⟨x,H,I1,ru,⟨rfl,fun ys hy=>by rw [I.list_inj hy hq]; exact hx⟩,st',fun b hb=>(hf b hb).1⟩⟩
 done:=by
  intro X hP hw hK hc i pins s σ H E I hf st hg;subst hP hw hK;obtain ⟨xs,hq,hx⟩:=hg;obtain ⟨its,rv,p,hz⟩:=I.list hq;obtain ⟨f0,f1,f2,f3,f4,f5⟩:=hf it (by simp);have hl:=rv.length
  exact wpAny_pyNext_list_end (I.ok.hd hc) st p.isList (by simp; omega) fun h' eb=>⟨rfl,I.turned (t':=s.toks) (fun b o hb e=>eb b o hb e) f0 f1 f3 f4 f5⟩
 self:=fun _ _ _ _ _ st h=>wpAny_pyIter_listiter st h
theorem Qpo {P:Program}{w:World}{K:PySem.W.Frag}{tg:Expr} (a it:Addr):Turn P w K tg (Itt K a) [it] it (fun i h=>h.IsTupleIter it a i) where
 mem:=by simp
 obj:=fun i h st b hb=>by
  have e:b=it:=by simpa using hb
  subst e;obtain ⟨o,e,c,d⟩:=st;exact ⟨o,e,fun v z=>by rw [d] at z; cases z⟩
 keep:=fun i h h' st k=>st.at fun o e=>k it (by simp) o e
 item:=by
  intro X hP hw hK hc i pins s σ H E I hf st hg;subst hP hw hK;obtain ⟨xs,x,hq,hx⟩:=hg;obtain ⟨its,rv,p,hz⟩:=I.tuple hq;obtain ⟨u,hu,ru⟩:=rv.get hx;obtain ⟨f0,f1,f2,f3,f4,f5⟩:=hf it (by simp)
  refine wpAny_pyNext_tuple_item st (show s.heap.IsTuple a its.toArray from p) (x:=u) (by simpa using hu) fun h' st' sb=>?_
  have I1:Inv X pins σ H { s with heap:=h' }:=I.turned (t':=s.toks) (fun b o hb e=>(sb.2 b hb).trans e) f0 f1 f3 f4 f5;obtain ⟨o,e,c,d⟩:=id st';exact ⟨u,rfl,Qmo (s:={ s with heap:=h' }) e c d (by decide) ⟨x,H,I1,ru,⟨rfl,fun ys hy=>by rw [I.tuple_inj hy hq]; exact hx⟩,st',fun b hb=>(hf b hb).1⟩⟩
 done:=by
  intro X hP hw hK hc i pins s σ H E I hf st hg;subst hP hw hK;obtain ⟨xs,hq,hx⟩:=hg;obtain ⟨its,rv,p,hz⟩:=I.tuple hq;obtain ⟨f0,f1,f2,f3,f4,f5⟩:=hf it (by simp);have hl:=rv.length
  exact wpAny_pyNext_tuple_end (I.ok.hd hc) st (show s.heap.IsTuple a its.toArray from p) (by simp; omega) fun h' eb=>⟨rfl,I.turned (t':=s.toks) (fun b o hb e=>eb b o hb e) f0 f1 f3 f4 f5⟩
 self:=fun _ _ _ _ _ st h=>wpAny_pyIter_tupleiter st h
theorem Qpw {P:Program}{w:World}{K:PySem.W.Frag}{tg:Expr} (it:Addr) (lo:Int) (n:Nat):Turn P w K tg (Itr lo n) [it] it (fun i h=>IsRangeIter h it (lo+(i:Nat) * 1) ((n:Int) - (i:Nat)) 1) where
 mem:=by simp
 obj:=fun i h st b hb=>by
  have e:b=it:=by simpa using hb
  subst e
  exact ⟨_,st,fun v z=>by
   have z':Data.fields _=Data.cell v:=z
   cases z'⟩
 keep:=fun i h h' st k=>k it (by simp) _ st
 item:=by
  intro X hP hw hK hc i pins s σ H E I hf st hg;subst hP hw hK;obtain ⟨f0,f1,f2,f3,f4,f5⟩:=hf it (by simp);have W:=Walks.range (prog:=X.prog) (w:=X.w) (I.ok.hd hc) it lo 1 n
  refine W.item i s _ _ hg st fun v h' tk hv st' kk=>?_
  obtain ⟨t,rfl⟩:=hv;have I1:Inv X pins σ H { s with heap:=h',toks:=tk }:=I.turned (fun b o hb e=>kk b o (by simpa using hb) e) f0 f1 f3 f4 f5;refine ⟨_,rfl,Qmo (s:={ s with heap:=h',toks:=tk }) (n:="range_iterator") st' rfl rfl (by decide) ⟨.int (lo+i),H,I1,⟨t,?_⟩,⟨rfl,rfl⟩,st',fun b hb=>(hf b hb).1⟩⟩;rw [Int.mul_one]
 done:=by
  intro X hP hw hK hc i pins s σ H E I hf st hg;subst hP hw hK;obtain ⟨f0,f1,f2,f3,f4,f5⟩:=hf it (by simp)
  exact wpAny_pyNext_range_end (I.ok.hd hc) st (by have:n≤i:=hg; omega) fun h' eb=>⟨rfl,I.turned (t':=s.toks) (fun b o hb e=>eb b o hb e) f0 f1 f3 f4 f5⟩
 self:=fun _ _ _ _ _ st h=>wpAny_pyIter_rangeiter st h
section
variable {X:Cx}{tg:Expr}
def QsQ (K:PySem.W.Frag) (tl:TE):TI:=fun σ H R=>tl σ H fun x H1=>∃a,x = .ref a∧(∃xs,SqL K H1 a xs)∧R (Itl K a) H1
def Qxu (K:PySem.W.Frag) (tl:TE):TI:=fun σ H R=>tl σ H fun x H1=>∃a,x = .ref a∧(∃xs,SqT K H1 a xs)∧R (Itt K a) H1
theorem QjD {l:Expr}{tl:TE} (hl:PE X l tl):PI X tg l (QsQ X.K tl):=by
 intro pins s σ H R I h
 refine thn (hl pins s σ H _ I h) fun v s1 ⟨x,H1,I1,r1,q1⟩=>?_
 obtain ⟨a,e,⟨xs,hq⟩,q⟩:=q1;subst e;cases r1;obtain ⟨its,rv,p,hz⟩:=I1.list hq;refine wpAny_pyIter_list p.isList ?_;refine ⟨s1.heap.objs.size,[s1.heap.objs.size],_,_,H1,rfl,I1.kept (t':=s1.toks) fun b o e=>zk _ e,QqY a _,⟨_,zL _ rfl,rfl,rfl⟩,fun b hb=>?_,q⟩
 have e:b=s1.heap.objs.size:=by simpa using hb
 subst e;exact I1.fpOk (zc _) (I1.hok.fresh (zc _))
theorem Qvz {l:Expr}{tl:TE} (hl:PE X l tl):PI X tg l (Qxu X.K tl):=by
 intro pins s σ H R I h
 refine thn (hl pins s σ H _ I h) fun v s1 ⟨x,H1,I1,r1,q1⟩=>?_
 obtain ⟨a,e,⟨xs,hq⟩,q⟩:=q1;subst e;cases r1;obtain ⟨its,rv,p,hz⟩:=I1.tuple hq;refine wpAny_pyIter_tuple (show s1.heap.IsTuple a its.toArray from p) ?_;refine ⟨s1.heap.objs.size,[s1.heap.objs.size],_,_,H1,rfl,I1.kept (t':=s1.toks) fun b o e=>zk _ e,Qpo a _,⟨_,zL _ rfl,rfl,rfl⟩,fun b hb=>?_,q⟩
 have e:b=s1.heap.objs.size:=by simpa using hb
 subst e;exact I1.fpOk (zc _) (I1.hok.fresh (zc _))
theorem Qsi {pins:List (Addr×Obj)}{σ:St}{H:Hp}{s:Shared}{R:It→Hp→Prop}{E:Value→Shared→Prop}{lo hi:Int}{t u v:Tok}{tk:Nat} (I:Inv X pins σ H s) (h1:-(2 ^ 62)≤lo) (h2:lo < 2 ^ 62) (h3:-(2 ^ 62)≤hi) (h4:hi < 2 ^ 62)
  (q:R (Itr lo (hi - lo).toNat) H):wpAny (model X.prog X.w) X.A (pyIter (.ref s.heap.objs.size)) (PIE X pins σ tg R) E { s with heap:=s.heap.push { cls:=.type "range",data:=.fields #[.int lo t,.int hi u,.int 1 v] },toks:=tk }:=by
 refine wpAny_pyIter_range (IsRange.new ..) (small_one h1 h2 h3 h4) ?_
 have I1:Inv X pins σ H { s with heap:=s.heap.push { cls:=.type "range",data:=.fields #[.int lo t,.int hi u,.int 1 v] },toks:=tk }:=I.kept fun b o e=>zk _ e
 refine ⟨(s.heap.push { cls:=.type "range",data:=.fields #[.int lo t,.int hi u,.int 1 v] }).objs.size,[(s.heap.push { cls:=.type "range",data:=.fields #[.int lo t,.int hi u,.int 1 v] }).objs.size],_,_,H,rfl,
  I1.kept (t':=tk) fun b o e=>zk _ e,Qpw _ lo (hi - lo).toNat,?_,fun b hb=>?_,q⟩
 ·have e1:lo+((0:Nat):Int) * 1=lo:=by simp
  have e2:(((hi - lo).toNat:Nat):Int) - ((0:Nat):Int)=Builtin.Range.rangeSize lo hi 1:=by rw [rangeSize_one]; split <;> omega
  show IsRangeIter _ _ (lo+((0:Nat):Int) * 1) ((((hi - lo).toNat:Nat):Int) - ((0:Nat):Int)) 1;rw [e1,e2];exact zL _ rfl
 ·have e:b=(s.heap.push { cls:=.type "range",data:=.fields #[.int lo t,.int hi u,.int 1 v] }).objs.size:=by simpa using hb
  subst e;exact I1.fpOk (zc _) (I1.hok.fresh (zc _))
def Qw9 (ta:TA):TI:=fun σ H R=>ta σ H fun vs H1=>∃j:Int,vs = [.int j]∧-(2 ^ 62)≤j∧j < 2 ^ 62∧R (Itr 0 j.toNat) H1
theorem QqU {a:Expr}{ta:TA}{p pos:Pos} (hg:Gl X "range") (hm:X.mg "range" = none) (ha:PA X [a] ta) (hs:starEach [a] X.env = [(false,eval a X.env)]:=by rfl):PI X tg (.Call (.Name "range" p) [a] [] pos) (Qw9 ta):=by
 intro pins s σ H R I h;refine Call_ (QgY I hg hm boot_range (PyProof.Rows.callWith_type1 (thn (ha pos pins s σ H _ I h) fun us s1 ⟨vs,H1,I1,r1,q1⟩=>?_) hs rfl));obtain ⟨j,e,q1,q2,q⟩:=q1;subst e
 cases r1 with
 | cons r rr =>
  cases rr;obtain ⟨t,rfl⟩:=r;exact call_range_1 (Qsi I1 (by omega) (by omega) q1 q2 (by simpa using q))
def Qm3 (wi:TI) (g:TG) (tb:TS):TS:=fun D σ H=>wi σ H fun J H1=>∃W:Nat→Nat→St→Hp→Prop,(∃m,W 0 m σ H1)∧∀i m σ H,W i m σ H →
 (J.stop i H∧D.nx σ H)∨(J.go i H∧∃N:St→Hp→Prop,(∀σ' H',N σ' H'→∃m',m' < m∧W (i+1) m' σ' H')∧∀x H',J.yld i H x H'→g x σ H' fun σ2 H2=>tb { D with nx:=N,ct:=N,bk:=D.nx } σ2 H2)
def QjC (fp:List Addr) (h:Heap):List (Addr×Obj):=fp.filterMap fun b=>(h.get? b).map fun o=>(b,o)
theorem Qgp {fp:List Addr}{h:Heap}{b:Addr}{o:Obj} (hb:b∈fp) (e:h.get? b=some o):(b,o)∈QjC fp h:=List.mem_filterMap.mpr ⟨b,hb,by rw [e]; rfl⟩
theorem Qqe {fp:List Addr}{h:Heap}{p:Addr×Obj} (hp:p∈QjC fp h):p.1∈fp∧h.get? p.1=some p.2:=by
 obtain ⟨b,hb,e⟩:=List.mem_filterMap.mp hp
 cases q:h.get? b with
 | none=>rw [q] at e; cases e
 | some o =>
  rw [q] at e;have e':(b,o)=p:=zH e;subst e';exact ⟨hb,q⟩
theorem Inv.pinned {pins:List (Addr×Obj)}{σ:St}{H:Hp}{s:Shared}{fp:List Addr} (I:Inv X pins σ H s) (hf:∀b∈fp,Qfd X pins H b) (ho:∀b∈fp,∃o,s.heap.get? b=some o∧∀v,o.data≠.cell v):Inv X (pins++QjC fp s.heap) σ H s :=
 I.pins_of fun p hp=>(zC.mp hp).elim (fun z=>I.pin p (zP _ z)) fun z=>by
  obtain ⟨hb,e⟩:=Qqe z;obtain ⟨f0,f1,f2,_⟩:=hf p.1 hb;obtain ⟨o,e',d⟩:=ho p.1 hb;rw [e] at e'; cases e';exact ⟨e,f0,f1,f2,d⟩
theorem Inv.unpinned {pins pl:List (Addr×Obj)}{σ:St}{H:Hp}{s:Shared} (I:Inv X (pins++pl) σ H s):Inv X pins σ H s:=I.pins_of fun p hp=>I.pin p (zP _ (List.mem_append_left _ hp))
theorem QkF {iter:Expr}{body:List Stmt}{wi:TI}{g:TG}{tb:TS}{pos:Pos} (hp:PassesOwn (model X.prog X.w) X.A X.env X.xe) (hc:X.calm=true) (hi:PI X tg iter wi) (hg:PG X tg g) (hb:PSs X body tb)
  (hs:∀x,foldedSetIterable iter X.env x=pure x:=by intro _; rfl):PS X (.For tg iter body [] pos) (Qm3 wi g tb):=by
 intro pins s σ H D I h;refine wpAny_For (thn (hi pins s σ H _ I h) fun v s1 h1=>thn h1 fun itv s2 h2=>?_) hs;obtain ⟨it,fp,tn,J,H2,e,I2,T,st2,f2,W,⟨m0,w0⟩,turn⟩:=h2;subst e
 have stat:∀{H':Hp},(∀b∈fp,H' b=none)→∀b∈fp,Qfd X pins H' b:=fun hn b hb=>⟨hn b hb,(f2 b hb).2⟩
 refine codeAny_forLoop_any (fun n s'=>∃i σ' H',Inv X pins σ' H' s'∧tn i s'.heap∧(∀b∈fp,H' b=none)∧W i n σ' H') ?_ m0 ⟨0,σ,H2,I2,st2,fun b hb=>(f2 b hb).1,w0⟩;rintro n s3 ⟨i,σ3,H3,I3,st3,fr3,w3⟩
 rcases turn i n σ3 H3 w3 with ⟨stop,qn⟩ | ⟨go,N,hN,step⟩
 ·refine wpAny_passesOwn hp (thn (T.done X rfl rfl rfl hc i pins s3 σ3 H3 X.xe I3 (stat fr3) st3 stop) fun r s4 ⟨hr,I4⟩=>?_);subst hr;exact wpAny_execs_nil ⟨σ3,H3,I4,qn⟩
 ·refine wpAny_passesOwn hp (thn (T.item X rfl rfl rfl hc i pins s3 σ3 H3 X.xe I3 (stat fr3) st3 go) fun r s4 ⟨u,hr,h4⟩=>?_);subst hr;refine wpAny_passesOwn hp (thn h4 fun _ s5 ⟨x,H5,I5,r5,y5,st5,fr5⟩=>?_);have I5':=I5.pinned (stat fr5) (T.obj _ _ st5);refine wpAny_passesOwn hp (thn (hg _ s5 σ3 H5 x u _ I5' r5 (step x H5 y5)) fun _ s6 ⟨σ6,H6,I6,q6⟩=>?_);refine wpAny_passesOwn hp (thn (hb _ s6 σ6 H6 _ I6 q6) fun f s7 q7=>?_)
  have again:∀{σ7:St}{H7:Hp},Inv X (pins++QjC fp s5.heap) σ7 H7 s7→N σ7 H7→∃m,m < n∧∃i σ' H',Inv X pins σ' H' s7∧tn i s7.heap∧(∀b∈fp,H' b=none)∧W i m σ' H':=fun {σ7 H7} I7 n7=>by
   obtain ⟨m',hm,w7⟩:=hN σ7 H7 n7;refine ⟨m',hm,i+1,σ7,H7,I7.unpinned,T.keep _ _ _ st5 fun b hb o e=>(I7.pin (b,o) (zP _ (zP _ (Qgp hb e)))).1,fun b hb=>?_,w7⟩;obtain ⟨o,e,d⟩:=T.obj _ _ st5 b hb;exact (I7.pin (b,o) (zP _ (zP _ (Qgp hb e)))).2.1
  cases f with
  | next=>obtain ⟨σ7,H7,I7,n7⟩:=q7; exact again I7 n7
  | cont=>obtain ⟨σ7,H7,I7,n7⟩:=q7; exact again I7 n7
  | brk=>obtain ⟨σ7,H7,I7,q7⟩:=q7; exact ⟨σ7,H7,I7.unpinned,q7⟩
  | ret v=>obtain ⟨x7,σ7,H7,I7,r7,q7⟩:=q7; exact ⟨x7,σ7,H7,I7.unpinned,r7,q7⟩
end
abbrev R2:=V→V→Hp→VK→Prop
def OpR (X:Cx) (f:Value→Value→Sem Value) (r:R2):Prop :=
 ∀(pins:List (Addr×Obj)) (s:Shared) (σ:St) (H:Hp) (x y:V) (v u:Value) (Q:VK),Inv X pins σ H s→RelV x v→RelV y u→r x y H Q →
  wpAny (model X.prog X.w) X.A (f v u) (EP X pins σ Q) X.xe s
def UnR (X:Cx) (f:Value→Sem Value) (r:V→Hp→VK→Prop):Prop :=
 ∀(pins:List (Addr×Obj)) (s:Shared) (σ:St) (H:Hp) (x:V) (v:Value) (Q:VK),Inv X pins σ H s→RelV x v→r x H Q →
  wpAny (model X.prog X.w) X.A (f v) (EP X pins σ Q) X.xe s
def Qhm (X:Cx) (f:Value) (r:List V→Hp→VK→Prop):Prop :=
 ∀(pins:List (Addr×Obj)) (s:Shared) (σ:St) (H:Hp) (xs:List V) (us:List Value) (Q:VK),Inv X pins σ H s→QaB xs us→r xs H Q →
  wpAny (model X.prog X.w) X.A (call f us) (EP X pins σ Q) X.xe s
def Qx7 (X:Cx) (r:V→Hp→(Bool→Hp→Prop)→Prop):Prop :=
 ∀(pins:List (Addr×Obj)) (s:Shared) (σ:St) (H:Hp) (x:V) (v:Value) (Q:Bool→Hp→Prop),Inv X pins σ H s→RelV x v→r x H Q →
  wpAny (model X.prog X.w) X.A (truthy v) (TP X pins σ Q) X.xe s
def tOp (r:R2) (ta tb:TE):TE:=fun σ H Q=>ta σ H fun x H1=>tb σ H1 fun y H2=>r x y H2 Q
def tUn (r:V→Hp→VK→Prop) (ta:TE):TE:=fun σ H Q=>ta σ H fun x H1=>r x H1 Q
def rI (C:Int→Int→Prop) (g:Int→Int→V):R2:=fun x y H Q=>∃i j,x = .int i∧y = .int j∧C i j∧Q (g i j) H
def rI0 (g:Int→Int→V):R2:=fun x y H Q=>∃i j,x = .int i∧y = .int j∧Q (g i j) H
def rU (g:Int→V):V→Hp→VK→Prop:=fun x H Q=>∃i,x = .int i∧Q (g i) H
section
variable {X:Cx}{a b c:Expr}{ta tb tc:TE}{pos:Pos}
theorem QrZ (ha:PE X a ta) (hb:PE X b tb) {pins:List (Addr×Obj)}{s:Shared}{σ:St}{H:Hp}{R:V→V→Hp→Prop} (I:Inv X pins σ H s)
  (h:ta σ H fun x H1=>tb σ H1 fun y H2=>R x y H2) {Q:Value→Shared→Prop}{f:Value→Value→Sem Value}
  (hf:∀v u s2 x y H2,Inv X pins σ H2 s2→RelV x v→RelV y u→R x y H2→wpAny (model X.prog X.w) X.A (f v u) Q X.xe s2) :
  wpAny (model X.prog X.w) X.A (eval a X.env) (fun v s₁=>wpAny (model X.prog X.w) X.A (eval b X.env) (fun u s₂=>wpAny (model X.prog X.w) X.A (f v u) Q X.xe s₂) X.xe s₁) X.xe s:=by
 refine thn (ha pins s σ H _ I h) fun v s1 ⟨x,H1,I1,r1,q1⟩=>?_
 refine thn (hb pins s1 σ H1 _ I1 q1) fun u s2 ⟨y,H2,I2,r2,q2⟩=>?_
 exact hf v u s2 x y H2 I2 r1 r2 q2
theorem Qwh {op:Operator}{r:R2} (ho:OpR X (binaryOp op) r) (ha:PE X a ta) (hb:PE X b tb):PE X (.BinOp a op b pos) (tOp r ta tb):=by
 intro pins s σ H Q I h;exact wpAny_BinOp (QrZ ha hb I h fun v u s2 x y H2 I2 rx ry q=>ho pins s2 σ H2 x y v u Q I2 rx ry q)
theorem Qwu {op:UnaryOp}{r:V→Hp→VK→Prop} (ho:UnR X (unaryOp op) r) (ha:PE X a ta):PE X (.UnaryOp op a pos) (tUn r ta):=by
 intro pins s σ H Q I h;exact UnaryOp_ (thn (ha pins s σ H _ I h) fun v s1 ⟨x,H1,I1,r1,q1⟩=>ho pins s1 σ H1 x v Q I1 r1 q1)
theorem opI {f:Value→Value→Sem Value}{C:Int→Int→Prop}{g:Int→Int→Int}
  (rule:∀(i j:Int) (t u:Tok) (s:Shared) (Q:Value→Shared→Prop) (E:Value→Shared→Prop),C i j→Q (.int (g i j) s.toks) { s with toks:=s.toks+1 }→wpAny (model X.prog X.w) X.A (f (.int i t) (.int j u)) Q E s) :
  OpR X f (rI C fun i j=>.int (g i j)):=by
 intro pins s σ H x y v u Q I rx ry h;obtain ⟨i,j,rfl,rfl,hc,q⟩:=h;obtain ⟨t,rfl⟩:=rx;obtain ⟨t',rfl⟩:=ry;exact rule i j t t' s _ _ hc ⟨.int (g i j),H,I.tok _,⟨_,rfl⟩,q⟩
theorem Qu1 {f:Value→Value→Sem Value}{g:Int→Int→Int}
  (rule:∀(i j:Int) (t u:Tok) (s:Shared) (Q:Value→Shared→Prop) (E:Value→Shared→Prop),Q (.int (g i j) s.toks) { s with toks:=s.toks+1 }→wpAny (model X.prog X.w) X.A (f (.int i t) (.int j u)) Q E s) :
  OpR X f (rI0 fun i j=>.int (g i j)):=by
 intro pins s σ H x y v u Q I rx ry h;obtain ⟨i,j,rfl,rfl,q⟩:=h;obtain ⟨t,rfl⟩:=rx;obtain ⟨t',rfl⟩:=ry;exact rule i j t t' s _ _ ⟨.int (g i j),H,I.tok _,⟨_,rfl⟩,q⟩
theorem Qsy {f:Value→Value→Sem Value}{g:Int→Int→Bool}
  (rule:∀(i j:Int) (t u:Tok) (s:Shared) (Q:Value→Shared→Prop) (E:Value→Shared→Prop),Q (.bool (g i j)) s→wpAny (model X.prog X.w) X.A (f (.int i t) (.int j u)) Q E s) :
  OpR X f (rI0 fun i j=>.bl (g i j)):=by
 intro pins s σ H x y v u Q I rx ry h;obtain ⟨i,j,rfl,rfl,q⟩:=h;obtain ⟨t,rfl⟩:=rx;obtain ⟨t',rfl⟩:=ry;exact rule i j t t' s _ _ ⟨.bl (g i j),H,I,rfl,q⟩
def Qxt (i j:Int):Prop:=0 < j∧j < 1073741824
def Qxx (i j:Int):Prop:=0≤j∧j≤1000000∧i.natAbs < 2 ^ 64
def Qsx (i j:Int):Prop:=(-(2 ^ 64) < i∧i < 2 ^ 64)∨(-(2 ^ 64) < j∧j < 2 ^ 64)
theorem Qsx.ok {i j:Int} (h:Qsx i j):IntMulOk i j:=by
 rcases h with ⟨h1,h2⟩ | ⟨h1,h2⟩
 ·exact .of_left (intBits_le_64 h1 h2)
 ·exact .of_right (intBits_le_64 h1 h2)
theorem Qu0:OpR X (binaryOp .Add) (rI0 fun i j=>.int (i+j)):=Qu1 fun _ _ _ _ _ _ _ q=>add_int q
theorem QuL:OpR X (binaryOp .Sub) (rI0 fun i j=>.int (i - j)):=Qu1 fun _ _ _ _ _ _ _ q=>sub_int q
theorem Qu7:OpR X (binaryOp .Mult) (rI Qsx fun i j=>.int (i * j)):=opI fun _ _ _ _ _ _ _ hc q=>mul_int q hc.ok
theorem Qtu:OpR X (binaryOp .FloorDiv) (rI Qxt fun i j=>.int (i / j)):=opI fun i j _ _ _ _ _ hc q=>by
 have h1:(0:Int) < j:=hc.1;have h2:j < 1073741824:=hc.2;exact floordiv_int (by omega) (by rw [Int.fdiv_eq_ediv_of_nonneg i (by omega)]; exact q) (.inl (PyProof.noPylong_small (by omega)))
theorem Qv2:OpR X (binaryOp .Mod) (rI (fun _ j=>0 < j) fun i j=>.int (i % j)):=opI fun i j _ _ _ _ _ hc q=>by
 have h1:(0:Int) < j:=hc;exact mod_int' (by omega) (by rw [Int.fmod_eq_emod_of_nonneg i (by omega)]; exact q)
theorem QuS:OpR X (binaryOp .Pow) (rI Qxx fun i j=>.int (i ^ j.toNat)):=opI fun _ _ _ _ _ _ _ hc q=>pow_int_small hc.1 hc.2.1 hc.2.2 q
theorem unI {f:Value→Sem Value}{g:Int→Int}
  (rule:∀(i:Int) (t:Tok) (s:Shared) (Q:Value→Shared→Prop) (E:Value→Shared→Prop),Q (.int (g i) s.toks) { s with toks:=s.toks+1 }→wpAny (model X.prog X.w) X.A (f (.int i t)) Q E s) :
  UnR X f (rU fun i=>.int (g i)):=by
 intro pins s σ H x v Q I rx h;obtain ⟨i,rfl,q⟩:=h;obtain ⟨t,rfl⟩:=rx;exact rule i t s _ _ ⟨.int (g i),H,I.tok _,⟨_,rfl⟩,q⟩
theorem Qv1:UnR X (unaryOp .USub) (rU fun i=>.int (-i)):=unI fun _ _ _ _ _ q=>neg_int q
theorem QqF:OpR X (binaryOp .Add) (fun x y H Q=>∃i k,x = .int i∧y = .bl k∧Q (.int (i+b2i k)) H):=by
 intro pins s σ H x y v u Q I rx ry h;obtain ⟨i,k,rfl,rfl,q⟩:=h;obtain ⟨t,rfl⟩:=rx;cases ry;exact add_int_bool ⟨.int (i+b2i k),H,I.tok _,⟨_,rfl⟩,q⟩
end
def Qvj:V→V→Bool
 | .non,.non=>true | .non,.int _=>true | .int _,.non=>true | .non,.bl _=>true | .bl _,.non=>true | .non,.str _=>true | .str _,.non=>true
 | .int _,.int _=>true | .bl _,.bl _=>true | .str _,.str _=>true | .byt _,.byt _=>true
 | .int _,.str _=>true | .str _,.int _=>true | .bl _,.str _=>true | .str _,.bl _=>true
 | _,_=>false
def rEq:R2:=fun x y H Q=>Qvj x y=true∧Q (.bl (decide (x=y))) H
def rNe:R2:=fun x y H Q=>Qvj x y=true∧Q (.bl (!decide (x=y))) H
theorem Qoq {i j:Int}:decide (V.int i=V.int j)=(i == j):=by
 rw [Bool.eq_iff_iff];simp
theorem Qqa {i j:Bool}:decide (V.bl i=V.bl j)=(i == j):=by
 rw [Bool.eq_iff_iff];simp
theorem Qn9 {i j:Str}:decide (V.str i=V.str j)=(i == j):=by
 rw [Bool.eq_iff_iff];simp
theorem Qob {i j:Array UInt8}:decide (V.byt i=V.byt j)=(i.toList == j.toList):=by
 rw [Bool.eq_iff_iff];cases i;cases j;simp
section
variable {X:Cx}{a b c:Expr}{ta tb tc:TE}{pos:Pos}
theorem Qbg {pins:List (Addr×Obj)}{σ:St}{H:Hp}{s:Shared}{Q:VK}{k k':Bool} (I:Inv X pins σ H s) (q:Q (.bl k) H) (e:k=k'):EP X pins σ Q (.bool k') s:=by
 subst e;exact ⟨.bl k,H,I,rfl,q⟩
theorem QpZ:OpR X (compareOp .Eq) rEq:=by
 intro pins s σ H x y v u Q I rx ry h;obtain ⟨hs,q⟩:=h
 cases x with
 | non =>
  cases rx
  cases y with
  | non=>cases ry; exact PySem.EqNone.eq_none_none (Qbg I q (by simp))
  | bl j=>cases ry; exact PySem.EqNone.eq_none_bool (Qbg I q (by simp))
  | int j=>obtain ⟨t',rfl⟩:=ry; exact PySem.EqNone.eq_none_int (Qbg I q (by simp))
  | str j=>obtain ⟨t',rfl⟩:=ry; exact PySem.EqNone.eq_none_str (Qbg I q (by simp))
  | _=>exact absurd (show false=true from hs) zh
 | bl i =>
  cases rx
  cases y with
  | non=>cases ry; exact PySem.EqNone.eq_bool_none (Qbg I q (by simp))
  | bl j=>cases ry; exact eq_bool (Qbg I q Qqa)
  | str j=>obtain ⟨t',rfl⟩:=ry; exact PySem.EqMixed.eq_bool_str (Qbg I q (by simp))
  | _=>exact absurd (show false=true from hs) zh
 | int i =>
  obtain ⟨t,rfl⟩:=rx
  cases y with
  | non=>cases ry; exact PySem.EqNone.eq_int_none (Qbg I q (by simp))
  | int j=>obtain ⟨t',rfl⟩:=ry; exact eq_int (Qbg I q Qoq)
  | str j=>obtain ⟨t',rfl⟩:=ry; exact PySem.EqMixed.eq_int_str (Qbg I q (by simp))
  | _=>exact absurd (show false=true from hs) zh
 | str i =>
  obtain ⟨t,rfl⟩:=rx
  cases y with
  | non=>cases ry; exact PySem.EqNone.eq_str_none (Qbg I q (by simp))
  | bl j=>cases ry; exact PySem.EqMixed.eq_str_bool (Qbg I q (by simp))
  | int j=>obtain ⟨t',rfl⟩:=ry; exact PySem.EqMixed.eq_str_int (Qbg I q (by simp))
  | str j=>obtain ⟨t',rfl⟩:=ry; exact eq_str (Qbg I q Qn9)
  | _=>exact absurd (show false=true from hs) zh
 | byt i =>
  obtain ⟨t,rfl⟩:=rx
  cases y with
  | byt j=>obtain ⟨t',rfl⟩:=ry; exact PySem.W.eq_bytes (Qbg I q Qob)
  | _=>exact absurd (show false=true from hs) zh
 | _=>cases y <;> exact absurd (show false=true from hs) zh
theorem Qpf:OpR X (compareOp .NotEq) rNe:=by
 intro pins s σ H x y v u Q I rx ry h;obtain ⟨hs,q⟩:=h
 cases x with
 | non =>
  cases rx
  cases y with
  | non=>cases ry; exact PySem.EqNone.ne_none_none (Qbg I q (by simp))
  | bl j=>cases ry; exact PySem.EqNone.ne_none_bool (Qbg I q (by simp))
  | int j=>obtain ⟨t',rfl⟩:=ry; exact PySem.EqNone.ne_none_int (Qbg I q (by simp))
  | str j=>obtain ⟨t',rfl⟩:=ry; exact PySem.EqNone.ne_none_str (Qbg I q (by simp))
  | _=>exact absurd (show false=true from hs) zh
 | bl i =>
  cases rx
  cases y with
  | non=>cases ry; exact PySem.EqNone.ne_bool_none (Qbg I q (by simp))
  | bl j=>cases ry; exact ne_bool (Qbg I q (congrArg not Qqa))
  | str j=>obtain ⟨t',rfl⟩:=ry; exact PySem.EqMixed.ne_bool_str (Qbg I q (by simp))
  | _=>exact absurd (show false=true from hs) zh
 | int i =>
  obtain ⟨t,rfl⟩:=rx
  cases y with
  | non=>cases ry; exact PySem.EqNone.ne_int_none (Qbg I q (by simp))
  | int j=>obtain ⟨t',rfl⟩:=ry; exact ne_int (Qbg I q (congrArg not Qoq))
  | str j=>obtain ⟨t',rfl⟩:=ry; exact PySem.EqMixed.ne_int_str (Qbg I q (by simp))
  | _=>exact absurd (show false=true from hs) zh
 | str i =>
  obtain ⟨t,rfl⟩:=rx
  cases y with
  | non=>cases ry; exact PySem.EqNone.ne_str_none (Qbg I q (by simp))
  | bl j=>cases ry; exact PySem.EqMixed.ne_str_bool (Qbg I q (by simp))
  | int j=>obtain ⟨t',rfl⟩:=ry; exact PySem.EqMixed.ne_str_int (Qbg I q (by simp))
  | str j=>obtain ⟨t',rfl⟩:=ry; exact ne_str (Qbg I q (congrArg not Qn9))
  | _=>exact absurd (show false=true from hs) zh
 | byt i =>
  obtain ⟨t,rfl⟩:=rx
  cases y with
  | byt j=>obtain ⟨t',rfl⟩:=ry; exact PySem.W.ne_bytes (Qbg I q (congrArg not Qob))
  | _=>exact absurd (show false=true from hs) zh
 | _=>cases y <;> exact absurd (show false=true from hs) zh
theorem QwE:OpR X (compareOp .Lt) (rI0 fun i j=>.bl (decide (i < j))):=Qsy fun _ _ _ _ _ _ _ q=>lt_int q
theorem QwF:OpR X (compareOp .LtE) (rI0 fun i j=>.bl (decide (i≤j))):=Qsy fun _ _ _ _ _ _ _ q=>le_int q
theorem Qwj:OpR X (compareOp .Gt) (rI0 fun i j=>.bl (decide (j < i))):=Qsy fun _ _ _ _ _ _ _ q=>gt_int q
theorem QqL:OpR X (compareOp .In) (fun x y H Q=>∃i j,x = .str i∧y = .str j∧Q (.bl (!(Builtin.Str.occurrences j i 0 j.length 1).isEmpty)) H):=by
 intro pins s σ H x y v u Q I rx ry h;obtain ⟨i,j,rfl,rfl,q⟩:=h;obtain ⟨t,rfl⟩:=rx;obtain ⟨t',rfl⟩:=ry;exact in_str (Qbg I q rfl)
theorem QaJ (b:Expr) {op:CmpOp} (h:op≠.In:=by decide) (h2:op≠.NotIn:=by decide):behindInMarks op b=false:=by
 have e1:(op == CmpOp.In)=false:=by cases op <;> first | rfl | exact absurd rfl h
 have e2:(op == CmpOp.NotIn)=false:=by cases op <;> first | rfl | exact absurd rfl h2
 cases b <;> simp [behindInMarks,e1,e2]
theorem QtD {op:CmpOp}{r:R2} (ho:OpR X (compareOp op) r) (ha:PE X a ta) (hb:PE X b tb) (hm:behindInMarks op b=false):PE X (.Compare a [op] [b] pos) (tOp r ta tb):=by
 intro pins s σ H Q I h;exact wpAny_Compare1 (QrZ ha hb I h fun v u s2 x y H2 I2 rx ry q=>ho pins s2 σ H2 x y v u Q I2 rx ry q) hm
def Qo8 (t:TE):TT:=fun σ H Q=>t σ H fun x H'=>∃k,x = .bl k∧Q k H'
theorem Qtt {op:CmpOp}{r:R2} (ho:OpR X (compareOp op) r) (ha:PE X a ta) (hb:PE X b tb) (hm:behindInMarks op b=false):PT X (.Compare a [op] [b] pos) (Qo8 (tOp r ta tb)):=by
 intro pins s σ H Q I h
 refine wpAny_isTrue_Compare1 (thn (ha pins s σ H _ I h) fun v s1 ⟨x,H1,I1,r1,q1⟩=>thn (hb pins s1 σ H1 _ I1 q1) fun u s2 ⟨y,H2,I2,r2,q2⟩ =>
  thn (ho pins s2 σ H2 x y v u _ I2 r1 r2 q2) fun c s3 ⟨z,H3,I3,r3,k,e,q3⟩=>?_) hm
 subst e;cases r3;exact wpAny_truthy_bool ⟨H3,I3,q3⟩
def Qrd (r r':R2) (ta tb tc:TE):TE:=fun σ H Q=>ta σ H fun x H1=>tb σ H1 fun y H2=>r x y H2 fun z H3=>∃k,z = .bl k ∧
 (if k=true then tc σ H3 fun w' H4=>r' y w' H4 Q else Q (.bl false) H3)
theorem Qsq {op op':CmpOp}{r r':R2} (ho:OpR X (compareOp op) r) (ho':OpR X (compareOp op') r') (ha:PE X a ta) (hb:PE X b tb) (hc:PE X c tc)
  (hm:lastMarks [op,op'] [b,c]=false:=by with_unfolding_all rfl):PE X (.Compare a [op,op'] [b,c] pos) (Qrd r r' ta tb tc):=by
 intro pins s σ H Q I h
 refine Compare_chain (thn (ha pins s σ H _ I h) fun v s1 ⟨x,H1,I1,r1,q1⟩=>chain_link (thn (hb pins s1 σ H1 _ I1 q1) fun u s2 ⟨y,H2,I2,r2,q2⟩ =>
  thn (ho pins s2 σ H2 x y v u _ I2 r1 r2 q2) fun d s3 ⟨z,H3,I3,r3,k,e,q3⟩=>?_)) hm
 subst e;cases r3;refine wpAny_truthy_bool ?_
 cases k with
 | false=>exact ite_ff ⟨.bl false,H3,I3,rfl,q3⟩
 | true=>exact ite_tt (chain_last (thn (hc pins s3 σ H3 _ I3 q3) fun w' s4 ⟨z',H4,I4,r4,q4⟩=>ho' pins s4 σ H4 y z' u w' Q I4 r2 r4 q4))
def Qr1 (K:PySem.W.Frag) (x:V) (H:Hp) (k:Bool):Prop :=
 match x with
 | .non=>k=false
 | .bl b=>k=b
 | .int i=>k=(i != 0)
 | .str y=>y.length≤sizeLine∧k=((y.length:Int) != 0)
 | .byt y=>y.size≤sizeLine∧k=((y.size:Int) != 0)
 | .ref p=>(∃xs,SqL K H p xs∧k = !xs.isEmpty)∨(∃xs,SqT K H p xs∧k = !xs.isEmpty)∨∃kvs,H p=some (.dK kvs)∧k = !kvs.isEmpty
 | _=>False
theorem Qpu {κ:Type}{kvs:List (κ×V)}{vs:List (κ×Value)} (r:KV kvs vs):(!vs.isEmpty) = !kvs.isEmpty:=by
 cases r <;> rfl
theorem Qky {xs:List V}{its:List Value} (r:QaB xs its):(!its.toArray.isEmpty) = !xs.isEmpty:=by
 cases r <;> simp
theorem QhT:(sizeLine:Nat) < 2 ^ 63:=by rw [sizeLine_eq]; decide
theorem Qv0:Qx7 X (fun x H Q=>∃k,Qr1 X.K x H k∧Q k H):=by
 intro pins s σ H x v Q I rx h;obtain ⟨k,e,q⟩:=h;have hl:=QhT;have hs:sizeLine=16777216:=sizeLine_eq
 cases x with
 | non =>
  cases rx;have e':k=false:=e;subst e';exact truthy_none ⟨H,I,q⟩
 | bl b =>
  cases rx;have e':k=b:=e;subst e';exact wpAny_truthy_bool ⟨H,I,q⟩
 | int i =>
  obtain ⟨t,rfl⟩:=rx;have e':k=(i != 0):=e;subst e';exact PySem.P.truthy_int ⟨H,I,q⟩
 | str y =>
  obtain ⟨t,rfl⟩:=rx;obtain ⟨hy,e'⟩:y.length≤sizeLine∧k=((y.length:Int) != 0):=e;subst e';exact PySem.P.truthy_str (by omega) ⟨H,I.tok _,q⟩
 | byt y =>
  obtain ⟨t,rfl⟩:=rx;obtain ⟨hy,e'⟩:y.size≤sizeLine∧k=((y.size:Int) != 0):=e;subst e';exact PySem.W.truthy_bytes (by omega) ⟨H,I.tok _,q⟩
 | ref p =>
  cases rx;have e':(∃xs,SqL X.K H p xs∧k = !xs.isEmpty)∨(∃xs,SqT X.K H p xs∧k = !xs.isEmpty)∨∃kvs,H p=some (.dK kvs)∧k = !kvs.isEmpty:=e
  rcases e' with ⟨xs,hx,e'⟩ | ⟨xs,hx,e'⟩ | ⟨kvs,hx,e'⟩
  ·subst e';obtain ⟨its,r,pl,hz⟩:=I.list hx;have hlen:=r.length;exact wpAny_truthy_list pl.isList (by simp only [zn]; omega) ⟨H,I.tok _,by rw [Qky r]; exact q⟩
  ·subst e';obtain ⟨its,r,pl,hz⟩:=I.tuple hx;have hlen:=r.length;exact truthy_tuple pl (by simp only [zn]; omega) ⟨H,I.tok _,by rw [Qky r]; exact q⟩
  ·subst e';obtain ⟨hz,hS,vs,r,m⟩:kvs.length≤sizeLine∧(p == sysModules)=false∧∃vs,KV kvs vs∧s.heap.DictOf (Qlb X.prog X.w) p vs:=I.hok p _ hx;have hlen:kvs.length=vs.length:=Paired.length r;exact wpAny_truthy_dict hS m (by omega) ⟨H,I.tok _,by rw [Qpu r]; exact q⟩
 | _=>exact (show False from e).elim
theorem Qsz (ha:PE X a ta) (he:∀whole,isTrue a X.env whole=(do let v ←whole; standAt a.pos; holding [v] (truthy v))) :
  PT X a (fun σ H Q=>ta σ H fun x H'=>∃k,Qr1 X.K x H' k∧Q k H'):=by
 intro pins s σ H Q I h;exact isTrue_plain (thn (ha pins s σ H _ I h) fun v s1 ⟨x,H1,I1,r1,q1⟩=>Qv0 pins s1 σ H1 x v Q I1 r1 q1) (he _)
theorem Qo2:OpR X (binaryOp .Add) (fun x y H Q=>∃i j,x = .str i∧y = .str j∧i.length+j.length≤sizeLine∧Q (.str (i++j)) H):=by
 intro pins s σ H x y v u Q I rx ry h;obtain ⟨i,j,rfl,rfl,hz,q⟩:=h;obtain ⟨t,rfl⟩:=rx;obtain ⟨t',rfl⟩:=ry;exact add_str (fun t' tk=>⟨.str (i++j),H,I.tok _,⟨_,rfl⟩,q⟩) hz
theorem vals1 {x:V}{us:List Value} (r:QaB [x] us):∃u,us = [u]∧RelV x u:=by
 cases r with
 | cons r1 r2=>cases r2; exact ⟨_,rfl,r1⟩
theorem vals2 {x y:V}{us:List Value} (r:QaB [x,y] us):∃u w',us = [u,w']∧RelV x u∧RelV y w':=by
 cases r with
 | cons r1 r2 =>
  cases r2 with
  | cons r3 r4=>cases r4; exact ⟨_,_,rfl,r1,r3⟩
theorem QlT:Qhm X (.type "int") (fun xs H Q=>(∃i,xs = [.int i]∧Q (.int i) H)∨∃k,xs = [.bl k]∧Q (.int (if k then 1 else 0)) H):=by
 intro pins s σ H xs us Q I r h
 rcases h with ⟨i,rfl,q⟩ | ⟨k,rfl,q⟩
 ·obtain ⟨u,rfl,t,rfl⟩:=vals1 r;exact call_int_int ⟨.int i,H,I,⟨_,rfl⟩,q⟩
 ·obtain ⟨u,rfl,r1⟩:=vals1 r;cases r1;exact call_int_bool ⟨.int (if k then 1 else 0),H,I.tok _,⟨_,rfl⟩,q⟩
def QxO (K:PySem.W.Frag) (x:V) (H:Hp) (n:Nat):Prop :=
 match x with
 | .str y=>y.length≤sizeLine∧n=y.length
 | .byt y=>y.size≤sizeLine∧n=y.size
 | .ref p=>(∃xs,SqL K H p xs∧n=xs.length)∨∃xs,SqT K H p xs∧n=xs.length
 | _=>False
theorem call_len:Qhm X (.builtin "len") (fun xs H Q=>∃x n,xs = [x]∧QxO X.K x H n∧Q (.int n) H):=by
 intro pins s σ H xs us Q I r h;obtain ⟨x,n,rfl,e,q⟩:=h;obtain ⟨u,rfl,rx⟩:=vals1 r;have hl:=QhT;have hs:sizeLine=16777216:=sizeLine_eq
 cases x with
 | str y =>
  obtain ⟨t,rfl⟩:=rx;obtain ⟨hy,e'⟩:y.length≤sizeLine∧n=y.length:=e;subst e';exact len_str (by omega) ⟨.int _,H,I.tok _,⟨_,rfl⟩,q⟩
 | byt y =>
  obtain ⟨t,rfl⟩:=rx;obtain ⟨hy,e'⟩:y.size≤sizeLine∧n=y.size:=e;subst e';exact PySem.W.len_bytes (by omega) ⟨.int _,H,I.tok _,⟨_,rfl⟩,q⟩
 | ref p =>
  cases rx;have e':(∃xs,SqL X.K H p xs∧n=xs.length)∨∃xs,SqT X.K H p xs∧n=xs.length:=e
  rcases e' with ⟨xs,hx,e'⟩ | ⟨xs,hx,e'⟩
  ·subst e';obtain ⟨its,r',pl,hz⟩:=I.list hx;have hlen:=r'.length;exact Calls.call_len_list pl.isList (by simp only [zn]; omega) ⟨.int xs.length,H,I.tok _,⟨_,by simp only [zn]; rw [hlen]⟩,q⟩
  ·subst e';obtain ⟨its,r',pl,hz⟩:=I.tuple hx;have hlen:=r'.length;exact len_tuple pl (by simp only [zn]; omega) ⟨.int xs.length,H,I.tok _,⟨_,by simp only [zn]; rw [hlen]⟩,q⟩
 | _=>exact (show False from e).elim
end
structure Qkw (h:Heap) (x dx C:Addr) (mA:Str→Option Value):Prop where
 obj:h.get? x=some (PySem.W.instObj C dx)
 ns:h.Ns1 dx mA
 ne:dx≠x
theorem QlU {h:Heap}{dx:Addr}{mA:Str→Option Value} (n:h.Ns1 dx mA):∃od,h.get? dx=some od∧∀name,PySem.W.lookIn name od=some (mA name):=by
 obtain ⟨o,es,ep,ho,hd,hk,_,hm⟩:=n;refine ⟨o,ho,fun name=>?_⟩;have e:=hm name;unfold nsFind findBy at e;rw [←Array.find?_toList] at e;unfold PySem.W.lookIn;rw [hd];dsimp only
 split
 ·rename_i y q;rw [q] at e;exact congrArg some e
 ·rename_i q;rw [q] at e
  have a:es.toList.any (·.refKey)=false:=by
   rw [List.any_eq_false];intro y hy;obtain ⟨z,t,hkey⟩:=hk y (Array.mem_toList_iff.mp hy);simp [DictEntry.refKey,hkey]
  have a':¬es.toList.any (·.refKey)=true:=by rw [a]; exact zh
  rw [if_neg a'];exact congrArg some e
theorem Qkw.look {h:Heap}{x dx C:Addr}{mA:Str→Option Value} (I:Qkw h x dx C mA):∃od,PySem.W.InstAt h x (PySem.W.instObj C dx) C (some od)∧∀name,PySem.W.lookIn name od=some (mA name) :=
 let ⟨od,ho,hl⟩:=QlU I.ns
 ⟨od,⟨I.obj,rfl,rfl,ho⟩,hl⟩
section
variable {prog:Program}{w:World}{A:Around}{E:Value→Shared→Prop}{s:Shared}{K:PySem.W.Frag}{x dx C f:Addr}{mA:Str→Option Value}{name:Str}{v:Value}
theorem Qts {expr:Bool}{Q:Value→Shared→Prop} (X:K.In s.heap) (I:Qkw s.heap x dx C mA) (hg:PySem.W.plainGet K C name=true) (hh:PySem.W.hasDictIn K C=true)
  (ha:PySem.W.findIn K (.ref C) name=some none) (hv:mA name=some v) (hv':PySem.W.handedIn v=true) (h:Q v { s with toks:=s.toks+1 }) :
  wpAny (model prog w) A (getAttr (.ref x) name expr) Q E s:=by
 obtain ⟨od,J,hl⟩:=I.look;exact PySem.W.get_value X J (PySem.W.plainGet_of hg).1 (PySem.W.findObj_own hh ha rfl (by rw [hl,hv])) hv' h
theorem QrJ {pl:Sem Bool}{Q:Value×List Value→Shared→Prop} (X:K.In s.heap) (I:Qkw s.heap x dx C mA) (hg:PySem.W.plainGet K C name=true)
  (hf:PySem.W.findIn K (.ref C) name=some (some (.ref f))) (ht:PySem.W.isFn K (.ref f)=true) (hv:mA name=none) (h:Q (.ref f,[.ref x]) s) :
  wpAny (model prog w) A (getMethod (.ref x) name pl) Q E s:=by
 obtain ⟨od,J,hl⟩:=I.look;exact PySem.W.method_fn X J (PySem.W.plainGet_of hg).1 (PySem.W.plainGet_of hg).2 hf (beq_iff_eq.mp ht) (by show (PySem.W.lookIn name od).map (·.isSome)=some false; rw [hl,hv]; rfl) h
theorem Qt8 {ns:List Str}{Q:Unit→Shared→Prop} (X:K.In s.heap) (I:Qkw s.heap x dx C mA)
  (hs:PySem.W.findIn K (.ref C) "__setattr__" = some (some (.builtin "object.__setattr__"))) (hp:PySem.W.plainOver K C=true) (ht:PySem.W.takerIn K C name=some none) (hh:PySem.W.hasDictIn K C=true)
  (hw:PySem.Within mA ns) (hsz:ns.length≤sizeLine)
  (h:∀h',Qkw h' x dx C (fun y=>if y=name then some v else mA y)→Heap.SameBut dx s.heap h'→Q () { s with heap:=h',toks:=s.toks+2 }) :
  wpAny (model prog w) A (setAttr (.ref x) name v) Q E s:=by
 obtain ⟨od,J,hl⟩:=I.look;refine PySem.W.set_plain X J hs (PySem.W.osa_open (s:={ s with toks:=s.toks+1 }) (r:=none) X J hp ht fun b=>?_);obtain ⟨cd,hc,hd'⟩:=PySem.W.any_some hh;have hx:s.heap.get? x=some ⟨.ref C,some dx,.plain,#[]⟩:=I.obj;refine za (zb (za (za (wpAny_loadPart hx (za (PySem.W.Looks.here (s:={ s with toks:=s.toks+1 }) (PySem.W.looks_clsIn X hc) ?_))))));rw [hd'];refine zb (a:=some dx) (za (zb (za ?_)))
 refine wpAny_nsSet1 (s:={ s with toks:=s.toks+1 }) I.ns fun h' hn2 hs2=>?_
 obtain ⟨oD,esD,epD,hoD,hdD,hcD⟩:=hn2.count (PySem.Within.cons name v hw);refine za (wpAny_lookBehind hoD (by rw [hdD]; exact pastItsLine_dict (zA hcD (by rw [zq]; omega))) ?_);exact zb (h _ ⟨(hs2.2 _ (Ne.symm I.ne)).trans I.obj,hn2,I.ne⟩ hs2)
theorem QmZ {R:Result→Shared→Prop}{vs:List Value}{kw:List (Str×Value)} (X:K.In s.heap) (hm:PySem.W.makesIn K C=true)
  (hi:PySem.W.findIn K (.ref C) "__init__" = some (some (.ref f))) (hf:PySem.W.typeIn K (.ref f)=some (.type "function"))
  (h:codeAny (model prog w) (A.under (.builtin "type.__call__" ⟨.ref C::vs,kw⟩)) (.call (.ref f) ⟨.ref (s.heap.objs.size+1)::vs,kw⟩) (PySem.W.InitBack (s.heap.objs.size+1) R)
   { s with heap:=(s.heap.push PySem.W.emptyDict).push (PySem.W.instObj C s.heap.objs.size) }) :
  codeAny (model prog w) A (.call (.ref C) ⟨vs,kw⟩) R s:=by
 obtain ⟨hh,g,d,t,os⟩:=s;exact PySem.W.make_core (PySem.W.makes_of X hm) (PySem.W.looks_findIn X hi) (fun self=>PySem.W.bind_fn X self hf) (.inl rfl) h
end
def Qdy (f:Str) (v:V):List (Str×V)→List (Str×V)
 | []=>[(f,v)]
 | (g,x)::r=>if g=f then (g,v)::r else (g,x)::Qdy f v r
theorem Qj5 (f g:Str) (v:V):∀fs:List (Str×V),(Qdy f v fs).lookup g=if g=f then some v else fs.lookup g
 | []=>by
  show List.lookup g [(f,v)]=_
  by_cases h:g=f
  ·have hb:(g == f)=true:=beq_iff_eq.mpr h;simp only [List.lookup,hb,if_pos h]
  ·have hb:(g == f)=false:=beq_eq_false_iff_ne.mpr h;simp only [List.lookup,hb,if_neg h]
 | (k,x)::r=>by
  have ih:=Qj5 f g v r;rw [show Qdy f v ((k,x)::r)=(if k=f then (k,v)::r else (k,x)::Qdy f v r) from rfl]
  by_cases hk:k=f
  ·rw [if_pos hk]
   by_cases h:g=k
   ·have hb:(g == k)=true:=beq_iff_eq.mpr h;simp only [List.lookup,hb,if_pos (h.trans hk)]
   ·have hb:(g == k)=false:=beq_eq_false_iff_ne.mpr h;simp only [List.lookup,hb,if_neg (fun e:g=f=>h (e.trans hk.symm))]
  ·rw [if_neg hk]
   by_cases h:g=k
   ·have hb:(g == k)=true:=beq_iff_eq.mpr h;simp only [List.lookup,hb,if_neg (fun e:g=f=>hk (h.symm.trans e))]
   ·have hb:(g == k)=false:=beq_eq_false_iff_ne.mpr h;simp only [List.lookup,hb];exact ih
theorem Qju (f:Str) (v:V):∀fs:List (Str×V),f∈(Qdy f v fs).map (·.1)∧∀g,g∈fs.map (·.1)→g∈(Qdy f v fs).map (·.1)
 | []=>⟨by simp [Qdy],fun g h=>by simp at h⟩
 | (k,x)::r=>by
  obtain ⟨i1,i2⟩:=Qju f v r;rw [show Qdy f v ((k,x)::r)=(if k=f then (k,v)::r else (k,x)::Qdy f v r) from rfl]
  by_cases hk:k=f
  ·rw [if_pos hk];subst hk;exact ⟨by simp,fun g h=>by simpa using h⟩
  ·rw [if_neg hk];refine ⟨?_,fun g h=>?_⟩
   ·rw [zf];exact zv _ i1
   ·rw [zf] at h ⊢
    rcases zm.mp h with e | e
    ·exact zm.mpr (.inl e)
    ·exact zv _ (i2 g e)
theorem QjY (f:Str) (v:V):∀fs:List (Str×V),(Qdy f v fs).length≤fs.length+1
 | []=>by simp [Qdy]
 | (k,x)::r=>by
  have ih:=QjY f v r;rw [show Qdy f v ((k,x)::r)=(if k=f then (k,v)::r else (k,x)::Qdy f v r) from rfl]
  by_cases hk:k=f
  ·rw [if_pos hk,zq,zq]; omega
  ·rw [if_neg hk,zq,zq]; omega
theorem QdN.some_of {v:V}{o:Option Value} (r:QdN (some v) o):∃u,o=some u∧RelV v u:=by
 cases o with
 | none=>exact (show False from r).elim
 | some u=>exact ⟨u,rfl,r⟩
theorem QdN.none_of {o:Option Value} (r:QdN none o):o=none:=by
 cases o with
 | none=>rfl
 | some u=>exact (show False from r).elim
theorem QlD {v:V}{u:Value} (r:RelV v u):PySem.W.handedIn u=true:=by
 cases v with
 | non=>cases (show u=Value.none from r); rfl
 | bl b=>cases (show u=Value.bool b from r); rfl
 | int i=>obtain ⟨t,e⟩:=(show ∃t,u=Value.int i t from r); cases e; rfl
 | str x=>obtain ⟨t,e⟩:=(show ∃t,u=Value.str x t from r); cases e; rfl
 | byt b=>obtain ⟨t,e⟩:=(show ∃t,u=Value.bytes b t from r); cases e; rfl
 | flt b=>obtain ⟨t,e⟩:=(show ∃t,u=Value.float b t from r); cases e; rfl
 | ref a=>cases (show u=Value.ref a from r); rfl
 | ty n=>cases (show u=Value.type n from r); rfl
section
variable {P:Program}{w:World}{H H':Hp}{h h':Heap}{a C dx:Addr}{fs fs':List (Str×V)}
theorem QjQ (hok:HOk P w H h) (e:H a=some (.ins C dx fs)):∃mA,Qkw h a dx C mA∧(∀f,QdN (fs.lookup f) (mA f))∧PySem.Within mA (fs.map (·.1))∧fs.length≤1000∧H dx=some (.own a):=by
 obtain ⟨d,z,ne,ob,mA,n,r,q⟩:=(show Qb3 P w H h a (.ins C dx fs) from hok a _ e);exact ⟨mA,⟨ob,n,ne⟩,r,q,z,d⟩
end
structure Cls (K:PySem.W.Frag) (C:Addr):Prop where
 pg:PySem.W.plainGet K C Str.empty=true
 hd:PySem.W.hasDictIn K C=true
 po:PySem.W.plainOver K C=true
 sa:PySem.W.findIn K (.ref C) "__setattr__" = some (some (.builtin "object.__setattr__"))
theorem Cls.get {K:PySem.W.Frag}{C:Addr} (c:Cls K C) (f:Str):PySem.W.plainGet K C f=true:=c.pg
def QgU (K:PySem.W.Frag) (C:Addr) (f:Str):Prop:=PySem.W.findIn K (.ref C) f=some none
theorem QgU.taker {K:PySem.W.Frag}{C:Addr}{f:Str} (n:QgU K C f):PySem.W.takerIn K C f=some none:=by
 unfold PySem.W.takerIn;rw [show PySem.W.findIn K (.ref C) f=some none from n];rfl
structure Con (K:PySem.W.Frag) (C:Addr) (f:Str) (v:V) (u:Value):Prop where
 at_:PySem.W.findIn K (.ref C) f=some (some u)
 rel:RelV v u
 get:PySem.W.specialIn K u "__get__" = some none
 cp:PySem.W.copiedNames.contains f=false
structure Qks (K:PySem.W.Frag) (C:Addr) (m:Str) (f:Addr):Prop where
 at_:PySem.W.findIn K (.ref C) m=some (some (.ref f))
 fn:PySem.W.isFn K (.ref f)=true
 kp:PySem.W.keepIn K (.ref f)=true
section
variable {X:Cx}{pins:List (Addr×Obj)}{σ:St}{H:Hp}{s:Shared}{a C dx:Addr}{fs:List (Str×V)}{f:Str}{v:V}{A:Around}{E:Value→Shared→Prop}
theorem Qpr {b:Bool}{Q:Value→Shared→Prop} (I:Inv X pins σ H s) (e:H a=some (.ins C dx fs)) (c:Cls X.K C) (n:QgU X.K C f) (l:fs.lookup f=some v)
  (h:∀u s',Inv X pins σ H s'→RelV v u→Q u s'):wpAny (model X.prog X.w) A (getAttr (.ref a) f b) Q E s:=by
 obtain ⟨mA,O,r,_,_,_⟩:=QjQ I.hok e;obtain ⟨u,hu,ru⟩:=QdN.some_of (v:=v) (o:=mA f) (by rw [←l]; exact r f);exact Qts I.kIn O (c.get f) c.hd n hu (QlD ru) (h u _ (I.tok _) ru)
theorem QkN {m:Str}{g:Addr}{pl:Sem Bool}{Q:Value×List Value→Shared→Prop} (I:Inv X pins σ H s) (e:H a=some (.ins C dx fs)) (c:Cls X.K C) (k:Qks X.K C m g) (l:fs.lookup m=none)
  (h:Q (.ref g,[.ref a]) s):wpAny (model X.prog X.w) A (getMethod (.ref a) m pl) Q E s:=by
 obtain ⟨mA,O,r,_,_,_⟩:=QjQ I.hok e;have hn:mA m=none:=QdN.none_of (by rw [←l]; exact r m);exact QrJ I.kIn O (c.get m) k.at_ k.fn hn h
theorem Qo3 {y:V}{u:Value}{Q:Unit→Shared→Prop} (I:Inv X pins σ H s) (e:H a=some (.ins C dx fs)) (c:Cls X.K C) (n:QgU X.K C f) (hl:fs.length < 1000) (ry:RelV y u)
  (h:∀s',Inv X pins σ (upd H a (.ins C dx (Qdy f y fs))) s'→Q () s'):wpAny (model X.prog X.w) A (setAttr (.ref a) f u) Q E s:=by
 obtain ⟨mA,O,r,wi,_,ho⟩:=QjQ I.hok e
 have hz:(fs.map (·.1)).length≤sizeLine:=by rw [zD,sizeLine_eq]; omega
 refine Qt8 I.kIn O c.sa c.po n.taker c.hd wi hz fun h' O' sb=>h _ ?_
 have hd:∃o,h'.get? dx=some o:=let ⟨o,_,_,e',_⟩:=O'.ns; ⟨o,e'⟩;refine I.write (x:=a) (e:=dx) (by rw [e]; exact True.intro) (.inr ho) (fun b q hb z=>(sb.2 b hb).trans z) hd ?_;refine ⟨by rw [Qam O.ne]; exact ho,?_,O.ne,O'.obj,_,O'.ns,fun g=>?_,fun g hg=>?_⟩
 ·have:=QjY f y fs; omega
 ·show QdN ((Qdy f y fs).lookup g) (if g=f then some u else mA g);rw [Qj5]
  by_cases q:g=f
  ·rw [if_pos q,if_pos q]; exact ry
  ·rw [if_neg q,if_neg q]; exact r g
 ·by_cases q:g=f
  ·rw [q]; exact (Qju f y fs).1
  ·refine (Qju f y fs).2 g (wi g fun z=>hg ?_);show (if g=f then some u else mA g)=none;rw [if_neg q]; exact z
theorem Inv.made (I:Inv X pins σ H s):Inv X pins σ (upd (upd H s.heap.objs.size (.own (s.heap.objs.size+1))) (s.heap.objs.size+1) (.ins C s.heap.objs.size []))
  { s with heap:=(s.heap.push PySem.W.emptyDict).push (PySem.W.instObj C s.heap.objs.size) }:=by
 have e1:(s.heap.push PySem.W.emptyDict).get? s.heap.objs.size=some PySem.W.emptyDict:=zL s.heap rfl
 have e2:((s.heap.push PySem.W.emptyDict).push (PySem.W.instObj C s.heap.objs.size)).get? (s.heap.objs.size+1)=some (PySem.W.instObj C s.heap.objs.size):=by
  have:=zL (s.heap.push PySem.W.emptyDict) (o:=PySem.W.instObj C s.heap.objs.size) rfl
  rwa [Heap.size_push] at this
 have e3:(s.heap.push PySem.W.emptyDict).Ns s.heap.objs.size (fun _=>none):=⟨PySem.W.emptyDict,#[],_,e1,rfl,(fun e he=>absurd he (by simp)),fun _=>rfl⟩;have I1:=I.laid (a:=s.heap.objs.size) (o:=.own (s.heap.objs.size+1)) (h':=s.heap.push PySem.W.emptyDict) (t':=s.toks) (fun b u q=>zk _ q) (zc _) ⟨_,e1⟩;refine I1.laid (a:=s.heap.objs.size+1) (o:=.ins C s.heap.objs.size []) (t':=s.toks) (fun b u q=>zk _ q) (Nat.le_of_eq (Heap.size_push _ _)) ?_;have ne:s.heap.objs.size≠s.heap.objs.size+1:=zl (jd _);refine ⟨by rw [Qam ne,QaE],Nat.zero_le _,ne,e2,fun _=>none,(Heap.Ns1.of_empty e3).at fun o q=>zk _ q,fun _=>True.intro,fun y hy=>absurd rfl hy⟩
theorem Qoy {prog:Program}{w:World}{env:Env}{e:Expr}{f:Str}{pos:Pos}{s:Shared}{Q:Value→Shared→Prop} (hb:attributeBase e f env (eval e env)=eval e env)
  (h:wpAny (model prog w) A (eval e env) (fun o s₁=>wpAny (model prog w) A (getAttr o f true) Q E s₁) E s):wpAny (model prog w) A (eval (.Attribute e f pos) env) Q E s :=
 Attribute_any_ h (by rw [arm_eval_Attribute,hb])
end
def Qyj (K:PySem.W.Frag) (ta:TE) (f:Str):TE:=fun σ H Q=>ta σ H fun x H1=>∃a C dx fs v,x = .ref a∧H1 a=some (.ins C dx fs)∧Cls K C∧QgU K C f∧fs.lookup f=some v∧Q v H1
def Qyi (K:PySem.W.Frag) (ta tv:TE) (f:Str):TS:=fun D σ H=>tv σ H fun y H1=>ta σ H1 fun x H2=>∃a C dx fs,x = .ref a∧H2 a=some (.ins C dx fs)∧Cls K C∧QgU K C f∧fs.length < 1000 ∧
 D.nx σ (upd H2 a (.ins C dx (Qdy f y fs)))
section
variable {X:Cx}{o e value:Expr}{f:Str}{pos pos' tpos:Pos}{ta tv:TE}
theorem QvR (he:PE X e ta) (hb:attributeBase e f X.env (eval e X.env)=eval e X.env):PE X (.Attribute e f pos) (Qyj X.K ta f):=by
 intro pins s σ H Q I h;refine Qoy hb (thn (he pins s σ H _ I h) fun u s1 ⟨x,H1,I1,rx,a,C,dx,fs,v,ex,ea,c,n,l,q⟩=>?_);subst ex;obtain rfl:u=Value.ref a:=rx
 exact Qpr I1 ea c n l fun u' s2 I2 ru=>⟨v,H1,I2,ru,q⟩
theorem Qv9 (ha:PE X o ta) (hv:PE X value tv) (hs:swapsWith value (some (.Attribute o f pos')) pos.line X.env=pure false):PS X (.Assign [.Attribute o f pos'] value pos) (Qyi X.K ta tv f):=by
 intro pins s σ H D I h;refine plainObj_wpAny_Assign_Attribute (thn (hv pins s σ H _ I h) fun u s1 ⟨y,H1,I1,ry,q⟩=>thn (ha pins s1 σ H1 _ I1 q) fun ov s2 ⟨x,H2,I2,rx,a,C,dx,fs,ex,ea,c,n,l,q2⟩=>?_) hs;subst ex;obtain rfl:ov=Value.ref a:=rx
 exact Qo3 I2 ea c n l ry fun s3 I3=>⟨σ,_,I3,q2⟩
end
section
variable {X:Cx}{pins:List (Addr×Obj)}{σ:St}{H:Hp}{s:Shared}{A:Around}{E:Value→Shared→Prop}{Q:Value→Shared→Prop}{c:Value}{b:Bool}
inductive Qgg (K:PySem.W.Frag) (H:Hp):V→Value→Prop where
 | non:Qgg K H .non (.type "NoneType")
 | bl (x:Bool):Qgg K H (.bl x) (.type "bool")
 | int (i:Int):Qgg K H (.int i) (.type "int")
 | str (x:Str):Qgg K H (.str x) (.type "str")
 | flt (x:UInt64):Qgg K H (.flt x) (.type "float")
 | lst {a:Addr}{xs:List V} (e:H a=some (.lst xs)):Qgg K H (.ref a) (.type "list")
 | frz {a:Addr}{o:Obj}{xs:List V} (e:H a=some (.frz o (.lst xs))):Qgg K H (.ref a) (.type "list")
 | tup {a:Addr}{xs:List V} (e:H a=some (.tup xs)):Qgg K H (.ref a) (.type "tuple")
 | dK {a:Addr}{kvs:List (Key×V)} (e:H a=some (.dK kvs)):Qgg K H (.ref a) (.type "dict")
 | dT {a:Addr}{kvs:List (List Key×V)} (e:H a=some (.dT kvs)):Qgg K H (.ref a) (.type "dict")
 | ins {a C dx:Addr}{fs:List (Str×V)} (e:H a=some (.ins C dx fs)) (cl:Cls K C) (ha:PySem.W.findIn K (.ref C) "__class__" = some (some (.builtin "object.__class__")))
   (hn:PySem.W.specialIn K (.builtin "object.__class__") "__get__" = some (some (.builtin "getset_descriptor.__get__"))) (htk:PySem.W.takesIn K (.builtin "object.__class__")=some true)
   (hm:PySem.W.mroIn K C (.type "object")=some true):Qgg K H (.ref a) (.ref C)
theorem QfU {x:V}{u t:Value} (I:Inv X pins σ H s) (rx:RelV x u) (ty:Qgg X.K H x t) (e:PySem.W.kitOne X.K t c=some b) (h:∀tk,Q (.bool b) { s with toks:=tk }) :
  wpAny (model X.prog X.w) A (call (.builtin "isinstance") [u,c]) Q E s:=by
 cases ty with
 | non=>cases (show u=Value.none from rx); exact PySem.W.kia_one PySem.W.kitx_none I.kIn True.intro e (fun z=>nomatch z) h
 | bl y=>cases (show u=Value.bool y from rx); exact PySem.W.kia_one PySem.W.kitx_bool I.kIn True.intro e (fun z=>nomatch z) h
 | int i=>obtain ⟨t,q⟩:=(show ∃t,u=Value.int i t from rx); cases q; exact PySem.W.kia_one PySem.W.kitx_int I.kIn True.intro e (fun z=>nomatch z) h
 | str y=>obtain ⟨t,q⟩:=(show ∃t,u=Value.str y t from rx); cases q; exact PySem.W.kia_one PySem.W.kitx_str I.kIn True.intro e (fun z=>nomatch z) h
 | flt y=>obtain ⟨t,q⟩:=(show ∃t,u=Value.float y t from rx); cases q; exact PySem.W.kia_one PySem.W.kitx_float I.kIn True.intro e (fun z=>nomatch z) h
 | @lst a xs ea =>
  cases (show u=Value.ref a from rx);obtain ⟨_,_,n,_,h1⟩:=(show Qb3 X.prog X.w H s.heap a (.lst xs) from I.hok a _ ea);exact PySem.W.kia_one PySem.W.kitx_list I.kIn ⟨_,h1,rfl⟩ e (fun z=>nomatch z) h
 | @frz a ob xs ea =>
  cases (show u=Value.ref a from rx);obtain ⟨_,_,_,n,_,h1⟩:=(show Qb3 X.prog X.w H s.heap a (.frz ob (.lst xs)) from I.hok a _ ea);exact PySem.W.kia_one PySem.W.kitx_list I.kIn ⟨_,h1,rfl⟩ e (fun z=>nomatch z) h
 | @tup a xs ea =>
  cases (show u=Value.ref a from rx);obtain ⟨_,_,_,p⟩:=(show Qb3 X.prog X.w H s.heap a (.tup xs) from I.hok a _ ea);obtain ⟨o,h1,h2,_⟩:=p;exact PySem.W.kia_one PySem.W.kitx_tuple I.kIn ⟨o,h1,h2⟩ e (fun z=>nomatch z) h
 | @dK a kvs ea =>
  cases (show u=Value.ref a from rx);obtain ⟨_,_,vs,_,p⟩:=(show Qb3 X.prog X.w H s.heap a (.dK kvs) from I.hok a _ ea);obtain ⟨o,es,ep,h1,h2,_⟩:=p;exact PySem.W.kia_one PySem.W.kitx_dict I.kIn ⟨o,h1,h2.1⟩ e (fun z=>nomatch z) h
 | @dT a kvs ea =>
  cases (show u=Value.ref a from rx);obtain ⟨_,_,xs,_,o,es,ep,h1,h2,_⟩:=(show Qb3 X.prog X.w H s.heap a (.dT kvs) from I.hok a _ ea);exact PySem.W.kia_one PySem.W.kitx_dict I.kIn ⟨o,h1,h2.1⟩ e (fun z=>nomatch z) h
 | @ins a C dx fs ea cl ha hn htk hm =>
  cases (show u=Value.ref a from rx);obtain ⟨mA,O,_⟩:=QjQ I.hok ea;obtain ⟨od,J,_⟩:=O.look;exact PySem.W.kia_one (PySem.W.kitx_own (cl.get _) cl.hd ha hn htk hm) I.kIn J e (fun z=>nomatch z) h
end
structure QaH (k:Nat) (A:Around):Prop where
 hd:A.handled=none
 dp:A.depth+3 * k+5 < recursionLimit
 un:A.units+16 * k+200 < cLine
theorem QaH.mono {j k:Nat}{A:Around} (r:QaH k A) (h:j≤k):QaH j A:=⟨r.hd,by have:=r.dp; omega,by have:=r.un; omega⟩
theorem QaH.deeper {k:Nat}{A:Around} (r:QaH (k+1) A) (env:Env):QaH k (A.deeper env) :=
 ⟨r.hd,by have:=r.dp; show A.depth+1+3 * k+5 < _; omega,by have:=r.un; show A.units+3+16 * k+200 < _; omega⟩
theorem QaH.in1 {k:Nat}{A:Around} (r:QaH (k+1) A):QaH k A.in1 :=
 ⟨r.hd,by have:=r.dp; show A.depth+3 * k+5 < _; omega,by have:=r.un; show A.units+1+16 * k+200 < _; omega⟩
theorem Qp8 {A:Around}{C:Addr}{us:List Value}{kw:List (Str×Value)}:(A.under (.builtin "type.__call__" ⟨.ref C::us,kw⟩)).depth=A.depth+1:=by
 first | rfl | simp [Around.under,Code.weight,Code.isCreation,Code.isGuard,Code.isCaller,Code.frames,Code.isFrame,guardIds]
theorem Qo7 {A:Around}{C:Addr}{us:List Value}{kw:List (Str×Value)}:(A.under (.builtin "type.__call__" ⟨.ref C::us,kw⟩)).units=A.units+1:=by
 first | rfl | simp [Around.under,Code.cUnits,Code.frames,Code.isFrame]
theorem QaH.make {k:Nat}{A:Around} (r:QaH (k+1) A) (C:Addr) (us:List Value) (kw:List (Str×Value)):QaH k (A.under (.builtin "type.__call__" ⟨.ref C::us,kw⟩)) :=
 ⟨r.hd,by have:=r.dp; rw [Qp8]; omega,by have:=r.un; rw [Qo7]; omega⟩
theorem QaH.depth {k:Nat}{A:Around} (r:QaH k A):A.depth < recursionLimit:=by have:=r.dp; omega
theorem QaH.units {k:Nat}{A:Around} (r:QaH k A):A.units+64 < cLine:=by have:=r.un; omega
def Qsn:TA:=fun _ H Q=>Q [] H
def Qwq (ta:TE) (tr:TA):TA:=fun σ H Q=>ta σ H fun x H1=>tr σ H1 fun xs H2=>Q (x::xs) H2
section
variable {X:Cx}{e:Expr}{es:List Expr}{te:TE}{t:TA}{pos:Pos}
theorem Qc6:PA X [] Qsn:=fun _ _ _ _ H Q I h=>Calls.spliced_nil ⟨[],H,I,.nil,h⟩
theorem QbY (ha:PE X e te) (hr:PA X es t) (hs:starEach (e::es) X.env=(false,eval e X.env)::starEach es X.env:=by rfl):PA X (e::es) (Qwq te t):=by
 intro pos pins s σ H Q I h;rw [hs];show wpAny _ _ (spliced ((false,eval e X.env)::backTo pos (starEach es X.env))) _ _ s;refine Calls.spliced_cons (thn (ha pins s σ H _ I h) fun u s1 ⟨x,H1,I1,r1,q1⟩=>?_)
 exact thn (hr pos pins s1 σ H1 _ I1 q1) fun us s2 ⟨xs,H2,I2,r2,q2⟩=>⟨x::xs,H2,I2,.cons r1 r2,q2⟩
def Qxs (t:TA):TE:=fun σ H Q=>t σ H fun xs H1=>xs.length≤sizeLine∧∀p,H1 p=none→Q (.ref p) (upd H1 p (.tup xs))
def Qyh (t:TA):TE:=fun σ H Q=>t σ H fun xs H1=>xs.length≤sizeLine∧∀p,H1 p=none→Q (.ref p) (upd H1 p (.lst xs))
theorem Qqx {x1} (h:PA X es t):PE X (.Tuple es x1 pos) (Qxs t):=by
 intro pins s σ H Q I hq;refine wpAny_Tuple_spliced (thn (h pos pins s σ H _ I hq) fun us s1 ⟨xs,H1,I1,r,z,q⟩=>⟨by rw [←r.length]; exact z,?_⟩);have hf:H1 s1.heap.objs.size=none:=I1.hok.fresh (zc _);refine ⟨.ref s1.heap.objs.size,upd H1 s1.heap.objs.size (.tup xs),I1.laid (t':=s1.toks) (fun b u e=>zk _ e) (zc _) ?_,rfl,q _ hf⟩;exact ⟨z,us,r,⟨_,zL _ rfl,rfl,_,rfl⟩⟩
theorem QuQ (h:PA X es t):PE X (.List es pos) (Qyh t):=by
 intro pins s σ H Q I hq;refine wpAny_List_spliced (thn (h pos pins s σ H _ I hq) fun us s1 ⟨xs,H1,I1,r,z,q⟩=>⟨by rw [←r.length]; exact z,?_⟩);have hf:H1 s1.heap.objs.size=none:=I1.hok.fresh (zc _);refine ⟨.ref s1.heap.objs.size,upd H1 s1.heap.objs.size (.lst xs),I1.laid (t':=s1.toks) (fun b u e=>zk _ e) (zc _) ?_,rfl,q _ hf⟩;exact ⟨z,us,0,r,zL _ rfl⟩
end
abbrev Sp:=List V→Hp→VK→XK→Prop
abbrev CXT:=List Env→Hp→Shared→XK→Value→Shared→Prop
structure QeS (P:Program) (w:World) (K:PySem.W.Frag) (mg:Str→Option Value) (base:Heap) (A:Around) (outer:List Env) (s:Shared) (H:Hp):Prop where
 frames:A.frames=some outer
 mod:Mod K mg base
 bs:∀b o,base.get? b=some o→s.heap.get? b=some o∧H b=none
 bsz:base.objs.size≤s.heap.objs.size
 funs:s.heap.FunFrames base outer
 frf:∀b∈frs outer,H b=none
 hok:HOk P w H s.heap
 bare:AllBare s.gens
def CE (outer:List Env) (P:Program) (w:World) (H:Hp) (s:Shared) (Q:VK) (u:Value) (s':Shared):Prop :=
 ∃v H',s'.os=s.os∧AllBare s'.gens∧Un (frs outer) [] H H' s.heap s'.heap∧HOk P w H' s'.heap∧RelV v u∧Q v H'
def CR (CX:CXT) (outer:List Env) (P:Program) (w:World) (H:Hp) (s:Shared) (Q:VK) (E:XK) (r:Result) (s':Shared):Prop :=
 match r with
 | .ok (.ret u)=>CE outer P w H s Q u s'
 | .ok _=>False
 | .error e=>CX outer H s E e s'
structure QbH (P:Program) (w:World) (K:PySem.W.Frag) (mg:Str→Option Value) (base:Heap) (CX:CXT) (k:Nat) (f:Addr) (fd:FuncData) (ps:List Str) (sp:Sp):Prop where
 len:∀vs H Q E,sp vs H Q E→vs.length=ps.length
 run:∀(A:Around) (outer:List Env) (s:Shared) (H:Hp) (args:Args) (us:List Value) (vs:List V) (Q:VK) (E:XK),QaH k A→QeS P w K mg base A outer s H→BindsTo s fd args (ps.zip us)→QaB vs us→sp vs H Q E →
  codeAny (model P w) A (.call (.ref f) args) (CR CX outer P w H s Q E) s
theorem QbH.mono {P:Program}{w:World}{K:PySem.W.Frag}{mg:Str→Option Value}{base:Heap}{CX:CXT}{j k:Nat}{f:Addr}{fd:FuncData}{ps:List Str}{sp:Sp} (F:QbH P w K mg base CX j f fd ps sp) (h:j≤k) :
  QbH P w K mg base CX k f fd ps sp:=⟨F.len,fun A outer s H args us vs Q E hr=>F.run A outer s H args us vs Q E (hr.mono h)⟩
theorem QbH.imp {P:Program}{w:World}{K:PySem.W.Frag}{mg:Str→Option Value}{base:Heap}{CX:CXT}{k:Nat}{f:Addr}{fd:FuncData}{ps:List Str}{sp sp':Sp} (F:QbH P w K mg base CX k f fd ps sp)
  (h:∀vs H Q E,sp' vs H Q E→sp vs H Q E):QbH P w K mg base CX k f fd ps sp' :=
 ⟨fun vs H Q E q=>F.len vs H Q E (h _ _ _ _ q),fun A outer s H args us vs Q E hr he hb hv hs=>F.run A outer s H args us vs Q E hr he hb hv (h _ _ _ _ hs)⟩
theorem QeS.make {P:Program}{w:World}{K:PySem.W.Frag}{mg:Str→Option Value}{base:Heap}{A:Around}{outer:List Env}{s:Shared}{H:Hp} (e:QeS P w K mg base A outer s H) (C:Addr) (us:List Value) (kw:List (Str×Value)) :
  QeS P w K mg base (A.under (.builtin "type.__call__" ⟨.ref C::us,kw⟩)) outer s H:=⟨by first | exact e.frames | (simpa [Around.under,Code.envs,Code.isFrame,pushEnvs] using e.frames),e.mod,e.bs,e.bsz,e.funs,e.frf,e.hok,e.bare⟩
theorem QeS.in1 {P:Program}{w:World}{K:PySem.W.Frag}{mg:Str→Option Value}{base:Heap}{A:Around}{outer:List Env}{s:Shared}{H:Hp} (e:QeS P w K mg base A outer s H) :
  QeS P w K mg base A.in1 outer s H:=⟨e.frames,e.mod,e.bs,e.bsz,e.funs,e.frf,e.hok,e.bare⟩
section
variable {X:Cx}{pins:List (Addr×Obj)}{σ:St}{H:Hp}{s s':Shared}
theorem Inv.env0 (I:Inv X pins σ H s):QeS X.prog X.w X.K X.mg X.base X.A X.stack s H :=
 ⟨I.ok.frames,I.ok.mod,I.bs,zA I.ok.bsz I.sz,I.stack,I.stkFree,I.hok,I.bare⟩
theorem Inv.after {Q:VK}{u:Value} (I:Inv X pins σ H s) (h:CE X.stack X.prog X.w H s Q u s'):EP X pins σ Q u s':=by
 obtain ⟨v,H',os,bare,un,hok,r,q⟩:=h;obtain ⟨hh,g,d,t,os'⟩:=s';obtain rfl:os'=s.os:=os;exact ⟨v,H',I.call (h':=hh) (g':=g) (d':=d) (t':=t) (ch:=[]) un hok bare (fun b z=>absurd z (by simp)),r,q⟩
end
def Qmn (sp:Sp) (dvs:List V) (E:XK) (t:TA):TE:=fun σ H Q=>t σ H fun vs H1=>sp (vs++dvs) H1 Q E
def Qmw (C:Addr) (m:Str) (sp:Sp) (dvs:List V) (E:XK) (ta:TE) (t:TA):TE:=fun σ H Q=>ta σ H fun x H1=>∃a dx fs,x = .ref a∧H1 a=some (.ins C dx fs)∧fs.lookup m=none ∧
 t σ H1 fun vs H2=>sp (x::(vs++dvs)) H2 Q E
def Qmy (C:Addr) (sp:Sp) (dvs:List V) (E:XK) (t:TA):TE:=fun σ H Q=>t σ H fun vs H1=>∀x dx,H1 x=none→H1 dx=none→dx≠x →
 sp (.ref x::(vs++dvs)) (upd (upd H1 dx (.own x)) x (.ins C dx [])) (fun v H2=>v = .non∧Q (.ref x) H2) E
def Binds (K:PySem.W.Frag) (fd:FuncData) (ps:List Str) (ds:List Value):Prop :=
 ∀(s:Shared) (us:List Value),K.In s.heap→(us++ds).length=ps.length→BindsTo s fd ⟨us,[]⟩ (ps.zip (us++ds))
theorem Binds.all {K:PySem.W.Frag}{fd:FuncData}{ps:List Str} (h:∀us:List Value,us.length=ps.length→bindArgs fd ⟨us,[]⟩=pure (ps.zip us)):Binds K fd ps []:=fun s us _ hl=>by
 rw [zG] at hl ⊢;exact .of_eq (h us hl)
def Qe2 (CX:CXT) (X:Cx) (E:XK):Prop:=∀(pins:List (Addr×Obj)) (σ:St) (H:Hp) (s:Shared) (e:Value) (s':Shared),Inv X pins σ H s→CX X.stack H s E e s'→X.xe e s'
section
variable {X:Cx}{CX:CXT}{k:Nat}{f C:Addr}{fd:FuncData}{ps:List Str}{sp:Sp}{dvs:List V}{ds:List Value}{E:XK}{x m:Str}{p pos apos:Pos}{e o:Expr}{es:List Expr}{ta:TE}{t:TA}
theorem QmA {pins:List (Addr×Obj)}{σ:St}{H:Hp}{s:Shared}{Q:VK}{us:List Value}{vs:List V} (F:QbH X.prog X.w X.K X.mg X.base CX k f fd ps sp) (hr:QaH k X.A) (hb:Binds X.K fd ps ds) (hd:QaB dvs ds) (hx:Qe2 CX X E)
  (I:Inv X pins σ H s) (r:QaB vs us) (h:sp (vs++dvs) H Q E):wpAny (model X.prog X.w) X.A (call (.ref f) us) (EP X pins σ Q) X.xe s:=by
 have r2:QaB (vs++dvs) (us++ds):=r.append hd
 have hl:(us++ds).length=ps.length:=by rw [←r2.length]; exact F.len _ _ _ _ h
 refine zQ (codeAny_mono (F.run X.A X.stack s H ⟨us,[]⟩ (us++ds) (vs++dvs) Q E hr I.env0 (hb s us I.kIn hl) r2 h) fun r s' hq=>?_)
 cases r with
 | error e=>exact hx pins σ H s e s' I hq
 | ok fl =>
  cases fl with
  | ret u=>exact I.after hq
  | next=>exact False.elim hq
  | brk=>exact False.elim hq
  | cont=>exact False.elim hq
theorem Qog (F:QbH X.prog X.w X.K X.mg X.base CX k f fd ps sp) (hr:QaH k X.A) (hg:Gl X x) (hm:X.mg x=some (.ref f)) (hk:PySem.W.keepIn X.K (.ref f)=true) (hb:Binds X.K fd ps ds) (hd:QaB dvs ds) (hx:Qe2 CX X E)
  (ha:PA X (e::es) t) (hdb:(x == ("__debug__":Str))=false:=by decide) (he:starEach (e::es) X.env=(false,eval e X.env)::starEach es X.env:=by rfl) (hpl:(backTo pos (starEach es X.env)).any (·.1)=false:=by rfl) :
  PE X (.Call (.Name x p) (e::es) [] pos) (Qmn sp dvs E t):=by
 intro pins s σ H Q I h;refine wpAny_Call_Name_kw (QdM I hg hm ?_ hdb);refine PySem.W.callWith_K (h₀:=X.base) I.ok.mod.kin hk (thn (ha pos pins s σ H _ I h) fun us s1 ⟨vs,H1,I1,r,q⟩=>⟨I1.kIn,?_⟩) he hpl;exact QmA F hr hb hd hx I1 r q
theorem QoQ {pl:Sem Bool} (he:PE X o ta) (c:Cls X.K C) (hm:Qks X.K C m f) (F:QbH X.prog X.w X.K X.mg X.base CX k f fd ps sp) (hr:QaH k X.A) (hb:Binds X.K fd ps ds) (hd:QaB dvs ds) (hx:Qe2 CX X E) (ha:PA X (e::es) t)
  (hst:starEach (e::es) X.env=(false,eval e X.env)::starEach es X.env:=by rfl) (hpl:(backTo pos (starEach es X.env)).any (·.1)=false:=by rfl)
  (ht:eval (.Call (.Attribute o m apos) (e::es) [] pos) X.env=(do
   let ov ←eval o X.env
   standAt apos.atName
   let (f,first) ←holding [ov] (getMethod ov m pl)
   callWith pos f first (backTo pos (starEach (e::es) X.env)) (backToKw pos (keywordEach [] X.env))):=by rfl) :
  PE X (.Call (.Attribute o m apos) (e::es) [] pos) (Qmw C m sp dvs E ta t):=by
 intro pins s σ H Q I h;refine PySem.W.methodCall_KW (pl:=pl) (thn (he pins s σ H _ I h) fun u s1 ⟨x,H1,I1,rx,a,dx,fs,ex,ea,l,q⟩=>?_) ht;subst ex;obtain rfl:u=Value.ref a:=rx;refine QkN I1 ea c hm l ?_;refine PySem.W.callWith_K (first:=[.ref a]) (h₀:=X.base) I.ok.mod.kin hm.kp (thn (ha pos pins s1 σ H1 _ I1 q) fun us s2 ⟨vs,H2,I2,r,q2⟩=>⟨I2.kIn,?_⟩) hst hpl;exact QmA (us:=.ref a::us) (vs:=.ref a::vs) F hr hb hd hx I2 (.cons rfl r) q2
theorem QsB {pl:Sem Bool} (he:PE X o ta) (c:Cls X.K C) (hm:Qks X.K C m f) (F:QbH X.prog X.w X.K X.mg X.base CX k f fd ps sp) (hr:QaH k X.A) (hb:Binds X.K fd ps ds) (hd:QaB dvs ds) (hx:Qe2 CX X E)
  (ht:eval (.Call (.Attribute o m apos) [] [] pos) X.env=(do
   let ov ←eval o X.env
   standAt apos.atName
   let (f,first) ←holding [ov] (getMethod ov m pl)
   callWith pos f first (backTo pos (starEach [] X.env)) (backToKw pos (keywordEach [] X.env))):=by rfl) :
  PE X (.Call (.Attribute o m apos) [] [] pos) (Qmw C m sp dvs E ta Qsn):=by
 intro pins s σ H Q I h;refine PySem.W.methodCall_KW (pl:=pl) (thn (he pins s σ H _ I h) fun u s1 ⟨x,H1,I1,rx,a,dx,fs,ex,ea,l,q⟩=>?_) ht;subst ex;obtain rfl:u=Value.ref a:=rx;refine QkN I1 ea c hm l ?_;exact PySem.W.callWith_K0 (first:=[.ref a]) I1.kIn hm.kp (QmA (us:=[.ref a]) (vs:=[.ref a]) F hr hb hd hx I1 (.cons rfl .nil) q)
structure Mk (K:PySem.W.Frag) (C f:Addr):Prop where
 makes:PySem.W.makesIn K C=true
 init:PySem.W.findIn K (.ref C) "__init__" = some (some (.ref f))
 fn:PySem.W.isFn K (.ref f)=true
 kp:PySem.W.keepIn K (.ref C)=true
theorem QnU {pins:List (Addr×Obj)}{σ:St}{H:Hp}{s:Shared}{Q:VK}{us:List Value}{vs:List V} (M:Mk X.K C f) (F:QbH X.prog X.w X.K X.mg X.base CX k f fd ps sp) (hr:QaH (k+1) X.A) (hb:Binds X.K fd ps ds) (hd:QaB dvs ds)
  (hx:Qe2 CX X E) (I:Inv X pins σ H s) (r:QaB vs us)
  (h:∀x dx,H x=none→H dx=none→dx≠x→sp (.ref x::(vs++dvs)) (upd (upd H dx (.own x)) x (.ins C dx [])) (fun v H2=>v = .non∧Q (.ref x) H2) E) :
  wpAny (model X.prog X.w) X.A (call (.ref C) us) (EP X pins σ Q) X.xe s:=by
 have hq:=h (s.heap.objs.size+1) s.heap.objs.size (I.hok.fresh (Nat.le_succ _)) (I.hok.fresh (zc _)) (zl (jd _));have I2:=Inv.made (C:=C) I;have r2:QaB (V.ref (s.heap.objs.size+1)::(vs++dvs)) (Value.ref (s.heap.objs.size+1)::(us++ds)):=.cons rfl (r.append hd)
 have hl:(Value.ref (s.heap.objs.size+1)::us++ds).length=ps.length:=by
  have e:=r2.length;rw [F.len _ _ _ _ hq] at e;exact e.symm
 refine zQ (QmZ (f:=f) I.kIn M.makes M.init (beq_iff_eq.mp M.fn) (codeAny_mono (F.run _ X.stack _ _ ⟨Value.ref (s.heap.objs.size+1)::us,[]⟩ (Value.ref (s.heap.objs.size+1)::(us++ds)) _ _ E (hr.make C us [])
  (I2.env0.make C us []) (hb _ (Value.ref (s.heap.objs.size+1)::us) I2.kIn hl) r2 hq) fun r s' hq'=>?_))
 cases r with
 | error e=>exact hx pins σ _ _ e s' I2 hq'
 | ok fl =>
  cases fl with
  | ret u =>
   obtain ⟨v,H',I3,rv,ev,q3⟩:=I2.after hq';subst ev;exact ⟨rv,⟨V.ref (s.heap.objs.size+1),H',I3,rfl,q3⟩⟩
  | next=>exact False.elim hq'
  | brk=>exact False.elim hq'
  | cont=>exact False.elim hq'
theorem QoL (M:Mk X.K C f) (F:QbH X.prog X.w X.K X.mg X.base CX k f fd ps sp) (hr:QaH (k+1) X.A) (hg:Gl X x) (hm:X.mg x=some (.ref C)) (hb:Binds X.K fd ps ds) (hd:QaB dvs ds) (hx:Qe2 CX X E)
  (ha:PA X (e::es) t) (hdb:(x == ("__debug__":Str))=false:=by decide) (he:starEach (e::es) X.env=(false,eval e X.env)::starEach es X.env:=by rfl) (hpl:(backTo pos (starEach es X.env)).any (·.1)=false:=by rfl) :
  PE X (.Call (.Name x p) (e::es) [] pos) (Qmy C sp dvs E t):=by
 intro pins s σ H Q I h;refine wpAny_Call_Name_kw (QdM I hg hm ?_ hdb);refine PySem.W.callWith_K (h₀:=X.base) I.ok.mod.kin M.kp (thn (ha pos pins s σ H _ I h) fun us s1 ⟨vs,H1,I1,r,q⟩=>⟨I1.kIn,?_⟩) he hpl;exact QnU M F hr hb hd hx I1 r q
theorem QrB (M:Mk X.K C f) (F:QbH X.prog X.w X.K X.mg X.base CX k f fd ps sp) (hr:QaH (k+1) X.A) (hg:Gl X x) (hm:X.mg x=some (.ref C)) (hb:Binds X.K fd ps ds) (hd:QaB dvs ds) (hx:Qe2 CX X E)
  (hdb:(x == ("__debug__":Str))=false:=by decide):PE X (.Call (.Name x p) [] [] pos) (Qmy C sp dvs E Qsn):=by
 intro pins s σ H Q I h;refine wpAny_Call_Name_kw (QdM I hg hm ?_ hdb);exact PySem.W.callWith_K0 I.kIn M.kp (QnU (us:=[]) M F hr hb hd hx I .nil h)
end
section
variable {X:Cx}{CX:CXT}{k:Nat}{f C:Addr}{fd:FuncData}{ps ks:List Str}{sp:Sp}{E:XK}{x m:Str}{p pos apos kpos:Pos}{e o:Expr}{es:List Expr}{kws:List Keyword}{te ta:TE}{t tk:TA}{nm:Option Str}
structure QyT (K:PySem.W.Frag) (fd:FuncData) (ps ks:List Str) (g:List Value→List Value→List Value) (gV:List V→List V→List V):Prop where
 to:∀(s:Shared) (us ws:List Value),K.In s.heap→(g us ws).length=ps.length→BindsTo s fd ⟨us,ks.zip ws⟩ (ps.zip (g us ws))
 rel:∀{vs:List V}{us:List Value}{zs:List V}{ws:List Value},QaB vs us→QaB zs ws→QaB (gV vs zs) (g us ws)
variable {g:List Value→List Value→List Value}{gV:List V→List V→List V}
end
structure QaA (N P:List Str) (sc:Scope):Prop where
 kind:sc.kind = .function
 co:sc.isCoroutine=false
 gen:sc.isGenerator=false
 nd:N.Nodup
 pre:N.take P.length=P
 par:∀x∈P,sc.names.lookup x=some .local∨sc.names.lookup x=some .cell
 nofree:∀y∈sc.names,y.2≠.free
theorem Ql6 {kindOf:Str→Option NameKind}{x:Str}:∀{binds:List (Str×Value)}{m:Str→Option Value},(∀v,(x,v)∉binds)→bindL kindOf binds m x=m x
 | [],_,_=>rfl
 | (n,v)::r,m,h=>by
  unfold bindL;rw [Ql6 fun w hw=>h w (zv _ hw)]
  split
  ·have:x≠n:=by rintro rfl; exact h v zB
   simp [this]
  ·rfl
theorem QlP {kindOf:Str→Option NameKind}{x:Str}:∀{binds:List (Str×Value)}{m:Str→Option Value},(∀v,(x,v)∉binds)→bindC kindOf binds m x=m x
 | [],_,_=>rfl
 | (n,v)::r,m,h=>by
  unfold bindC;rw [QlP fun w hw=>h w (zv _ hw)]
  split
  ·rfl
  ·have:x≠n:=by rintro rfl; exact h v zB
   simp [this]
theorem QlI {kindOf:Str→Option NameKind}{x:Str}{v:Value}:∀{P:List Str}{vs:List Value}{i:Nat}{m:Str→Option Value},P.Nodup→P[i]? = some x→vs[i]? = some v→kindOf x=some .local →
  bindL kindOf (P.zip vs) m x=some v
 | [],_,_,_,_,h,_,_=>by simp at h
 | _::_,[],_,_,_,_,h,_=>by simp at h
 | p::P,w::vs,0,m,nd,h1,h2,hk=>by
  simp at h1 h2; subst h1; subst h2
  show bindL kindOf ((p,w)::P.zip vs) m p=_;unfold bindL;rw [Ql6 fun v hv=>(List.nodup_cons.mp nd).1 (List.of_mem_zip hv).1,if_pos hk];simp
 | p::P,w::vs,i+1,m,nd,h1,h2,hk=>by
  show bindL kindOf ((p,w)::P.zip vs) m x=_;unfold bindL;exact QlI (i:=i) (List.nodup_cons.mp nd).2 (by simpa using h1) (by simpa using h2) hk
theorem QlR {kindOf:Str→Option NameKind}{x:Str}{v:Value}:∀{P:List Str}{vs:List Value}{i:Nat}{m:Str→Option Value},P.Nodup→P[i]? = some x→vs[i]? = some v→kindOf x≠some .local →
  bindC kindOf (P.zip vs) m x=some v
 | [],_,_,_,_,h,_,_=>by simp at h
 | _::_,[],_,_,_,_,h,_=>by simp at h
 | p::P,w::vs,0,m,nd,h1,h2,hk=>by
  simp at h1 h2; subst h1; subst h2
  show bindC kindOf ((p,w)::P.zip vs) m p=_;unfold bindC;rw [QlP fun v hv=>(List.nodup_cons.mp nd).1 (List.of_mem_zip hv).1,if_neg hk];simp
 | p::P,w::vs,i+1,m,nd,h1,h2,hk=>by
  show bindC kindOf ((p,w)::P.zip vs) m x=_;unfold bindC;exact QlR (i:=i) (List.nodup_cons.mp nd).2 (by simpa using h1) (by simpa using h2) hk
def start (N:List Str) (vs:List V):St:=vs.map some++List.replicate (N.length - vs.length) none
def Qcw (CX:CXT) (P:Program) (w:World) (K:PySem.W.Frag) (mg:Str→Option Value) (base:Heap) (N:List Str) (qual:Str) (scope:Scope) (f:Addr) (cd:Value) (A:Around) (outer:List Env) (s:Shared) (H:Hp) (E:XK):Cx where
 prog:=P
 w:=w
 K:=K
 mg:=mg
 base:=base
 A:=A.deeper (envOfC qual scope s.heap.objs.size f cd)
 N:=N
 s₀:=s
 H₀:=H
 env:=envOfC qual scope s.heap.objs.size f cd
 outer:=outer
 stack:=envOfC qual scope s.heap.objs.size f cd::outer
 ex:=[]
 calm:=true
 fn:=fun _=>true
 pn:=[]
 xe:=fun e s'=>wpAny (model P w) (A.deeper (envOfC qual scope s.heap.objs.size f cd)) (leaving (envOfC qual scope s.heap.objs.size f cd) e) (fun _ s''=>CX outer H s E e s'') (fun e' s''=>CX outer H s E e' s'') s'
theorem Qmz {sc:Scope}{n:Nat}{x:Str} (h:sc.names.lookup x=some .cell):∃c,(cellsFrom n sc.names []).lookup x=some c:=by
 have q:=PySem.W.cellsFrom_some sc.names n [] (.inl h);exact Option.isSome_iff_exists.mp q
theorem QlE {CX:CXT}{P:Program}{w:World}{K:PySem.W.Frag}{mg:Str→Option Value}{base:Heap}{N ps:List Str}{qual:Str}{scope:Scope}{f:Addr}{cd:Value}{A:Around}{outer:List Env}{s s1:Shared}{H:Hp}{E:XK}{us:List Value}{vs:List V}
  (S:QaA N ps scope) (hd:A.handled=none) (e0:QeS P w K mg base A outer s H) (hl:vs.length=ps.length) (r:QaB vs us)
  (x:InCallC s s.heap.objs.size (bindL (envOfC qual scope s.heap.objs.size f cd).kindOf (ps.zip us) fun _=>none) (cellsFrom (s.heap.objs.size+1) scope.names []) (bindC (envOfC qual scope s.heap.objs.size f cd).kindOf (ps.zip us) fun _=>none) s1) :
  Inv (Qcw CX P w K mg base N qual scope f cd A outer s H E) [] (start N vs) H s1:=by
 have hpl:ps.length≤N.length:=by have:=congrArg List.length S.pre; rw [List.length_take] at this; omega
 obtain ⟨h1,tk,rfl,hk⟩:=x.done
 have noA:∀b:Addr,b∉(Qcw CX P w K mg base N qual scope f cd A outer s H E).ex:=fun b z=>absurd (show b∈([]:List Addr) from z) (by simp)
 refine ⟨⟨e0.mod,S.kind,rfl,rfl,zc _,fun y z c h1 h2=>?_,fun y hy=>?_,fun y c _ h=>?_,fun _=>hd,Around.frames_deeper e0.frames,.inr ⟨rfl,rfl⟩,fun b z=>absurd z (noA b),e0.bs,e0.bsz,fun b _ _=>noA b,fun b z=>absurd z (noA b),e0.funs,e0.frf⟩,
  rfl,e0.bare,Un.kept hk,⟨_,x.toInCall.ns,fun i y v h1 h2 h3=>?_⟩,fun y c h=>⟨_,x.cell y c h⟩,e0.hok.fresh (zc _),fun y c h=>?_,fun p hp=>absurd (show p∈([]:List (Addr×Obj)) from hp) (by simp),e0.hok.kept hk,?_⟩
 ·exact name_of_addr x.apart (PySem.mem_of_lookup h1) (PySem.mem_of_lookup h2)
 ·have hy:scope.names.lookup y=some .cell∨scope.names.lookup y=some .free:=hy
  rcases hy with hy | hy
  ·exact Qmz hy
  ·exact absurd rfl (S.nofree _ (PySem.mem_of_lookup hy))
 ·exact Nat.le_of_lt (x.above y c (PySem.mem_of_lookup h))
 ·have hi:i < vs.length:=by
   unfold start at h2
   by_cases hi:i < vs.length
   ·exact hi
   ·rw [zw (by simpa using hi)] at h2;rw [List.getElem?_replicate] at h2
    split at h2 <;> cases h2
  have ha:vs[i]? = some v:=by
   unfold start at h2;rw [zt (by simpa using hi),zJ] at h2
   cases e:vs[i]? with
   | none=>rw [e] at h2; cases h2
   | some a=>rw [e] at h2; cases h2; rfl
  obtain ⟨u,hu,rv⟩:=r.get ha
  have hp:ps[i]? = some y:=by
   rw [←S.pre,List.getElem?_take_of_lt (by omega)]; exact h1
  have ndP:ps.Nodup:=by rw [←S.pre]; exact S.nd.sublist (List.take_sublist _ _)
  refine ⟨u,rv,?_⟩
  rcases S.par y (zN hp) with k | k
  ·exact .inl ⟨k,QlI ndP hp hu k⟩
  ·obtain ⟨c,e⟩:=Qmz (n:=s.heap.objs.size+1) k;refine .inr ⟨.inl k,c,e,?_⟩;have q:=x.cell y c e;rw [QlR ndP hp hu (by show scope.names.lookup y≠_; rw [k]; decide)] at q;exact q
 ·exact e0.hok.fresh (Nat.le_of_lt (x.above y c (PySem.mem_of_lookup h)))
 ·unfold start;show _=N.length;rw [zu,zD,List.length_replicate];omega
theorem QpP {CX:CXT}{P:Program}{w:World}{K:PySem.W.Frag}{mg:Str→Option Value}{base:Heap}{k:Nat}{f:Addr}{name qual:Str}{params:Arguments}{body:List Stmt}{scope:Scope}{dV kV doc pm cdv ct oc:Value}{an od:Option Addr}
  {osl:Array (Option Value)}{N ps:List Str}{sp:Sp} (lk:K.lookup f=some ⟨oc,od,.func (PySem.W.fnOf name qual params body scope dV kV doc pm an cdv ct),osl⟩) (hcd:PySem.W.codeIn K cdv qual=true) (S:QaA N ps scope)
  (len:∀vs H Q E,sp vs H Q E→vs.length=ps.length)
  (hbody:∀(A:Around) (outer:List Env) (s:Shared) (H:Hp) (vs:List V) (Q:VK) (E:XK),QaH k (A.deeper (envOfC qual scope s.heap.objs.size f cdv))→sp vs H Q E →
   ∃t,PSs (Qcw CX P w K mg base N qual scope f cdv A outer s H E) body t∧t { nx:=fun _ H'=>Q .non H',rt:=Q } (start N vs) H) :
  QbH P w K mg base CX (k+1) f (PySem.W.fnOf name qual params body scope dV kV doc pm an cdv ct) ps sp:=by
 refine ⟨len,fun A outer s H args us vs Q E hr e0 hb r hsp=>?_⟩;have hl:=len _ _ _ _ hsp
 have KX:K.In s.heap:=e0.mod.kin.keeps fun b o e=>(e0.bs b o e).1
 have lim:s.heap.NoLimit:=e0.mod.nolimit.keeps fun b o e=>(e0.bs b o e).1
 have hkind:∀y∈ps.zip us,scope.names.lookup y.1=some .local∨(scope.names.lookup y.1=some .cell∧((cellsFrom (s.heap.objs.size+1) scope.names []).lookup y.1).isSome=true):=fun ⟨n,v⟩ hy=>by
  rcases S.par n (List.of_mem_zip hy).1 with q | q
  ·exact .inl q
  ·exact .inr ⟨q,PySem.W.cellsFrom_some _ _ _ (.inl q)⟩
 refine codeAny_call_function hr.depth (KX _ _ lk) rfl S.co S.gen rfl (PySem.W.codeRec_of KX hcd) (hb _ _ _ _ ?_)
 refine wpAny_newFunctionEnv_cells S.kind hkind fun env he s1 x=>?_
 subst he;refine ⟨lim.keeps x.toInCall.keep,codeAny_func ?_⟩;obtain ⟨t,ht,hq⟩:=hbody A outer s H vs Q E (hr.deeper _) hsp;have I:Inv (Qcw CX P w K mg base N qual scope f cdv A outer s H E) [] (start N vs) H s1:=QlE S hr.hd e0 hl r x
 refine zo (ht [] s1 (start N vs) H _ I hq) (fun fl s' hs=>?_) fun e s' hs=>hs
 have fin:∀{σ':St}{H':Hp}{v:V}{u:Value},Inv (Qcw CX P w K mg base N qual scope f cdv A outer s H E) [] σ' H' s'→RelV v u→Q v H'→CE outer P w H s Q u s' :=
  fun {σ' H' v u} J rv q=>⟨v,H',J.os,J.bare,J.base,J.hok,rv,q⟩
 cases fl with
 | ret u =>
  obtain ⟨v,σ',H',J,rv,q⟩:=hs;exact fin J rv q
 | next =>
  obtain ⟨σ',H',J,q⟩:=hs;exact fin (v:=V.non) (u:=Value.none) J rfl q
 | brk =>
  obtain ⟨_,_,_,q⟩:=hs;exact False.elim q
 | cont =>
  obtain ⟨_,_,_,q⟩:=hs;exact False.elim q
section
variable {X:Cx}{x:Str}{p pos:Pos}{e:Expr}{es:List Expr}{t:TA}{id T:String}{r:List V→Hp→VK→Prop}
def tCB (r:List V→Hp→VK→Prop) (t:TA):TE:=fun σ H Q=>t σ H fun vs H1=>r vs H1 Q
theorem QiM (hc:Qhm X (.builtin id) r) (hg:Gl X x) (hm:X.mg x=none) (hv:bootBuiltins x=some (.builtin id)) (ha:PA X (e::es) t) (hn:x≠"__name__":=by decide) (hdb:(x == ("__debug__":Str))=false:=by decide)
  (he:starEach (e::es) X.env=(false,eval e X.env)::starEach es X.env:=by rfl) (hpl:(backTo pos (starEach es X.env)).any (·.1)=false:=by rfl):PE X (.Call (.Name x p) (e::es) [] pos) (tCB r t):=by
 intro pins s σ H Q I h;refine wpAny_Call_Name_kw (QgY I hg hm hv ?_ hn hdb);exact PyProof.Rows.callWith_builtin1 (thn (ha pos pins s σ H _ I h) fun us s1 ⟨vs,H1,I1,r1,q1⟩=>hc pins s1 σ H1 vs us Q I1 r1 q1) he hpl
theorem Qq6 (hc:Qhm X (.type T) r) (hg:Gl X x) (hm:X.mg x=none) (hv:bootBuiltins x=some (.type T)) (ha:PA X (e::es) t) (hn:x≠"__name__":=by decide) (hdb:(x == ("__debug__":Str))=false:=by decide)
  (he:starEach (e::es) X.env=(false,eval e X.env)::starEach es X.env:=by rfl) (hpl:(backTo pos (starEach es X.env)).any (·.1)=false:=by rfl):PE X (.Call (.Name x p) (e::es) [] pos) (tCB r t):=by
 intro pins s σ H Q I h;refine wpAny_Call_Name_kw (QgY I hg hm hv ?_ hn hdb);exact PyProof.Rows.callWith_type1 (thn (ha pos pins s σ H _ I h) fun us s1 ⟨vs,H1,I1,r1,q1⟩=>hc pins s1 σ H1 vs us Q I1 r1 q1) he hpl
end
end L2
namespace HT
open PySem PyProof.Rows
section
open PySem.SeqAt
open PySem.AutoSeq1 (wpAny_loadPart')
open PySem.MeetsSeq PySem.MeetsSeq2 PySem.MeetsSeq3
end
section
variable {prog:Program}{w:World}{A:Around}{E:Value→Shared→Prop}{s:Shared}
theorem cat_tup {t b:Addr}{vs ws:List Value}{Q:Value→Shared→Prop} (ht:IsTup s.heap t vs.toArray) (hb:IsTup s.heap b ws.toArray) (hv:vs≠[])
  (h1:ws = []→Q (.ref t) s) (h2:ws≠[]→Q (.ref s.heap.objs.size) { s with heap:=s.heap.push { cls:=.type "tuple",data:=.seq (vs++ws).toArray } })
  (hsz:vs.length+ws.length≤sizeLine):wpAny (model prog w) A (binaryOp .Add (.ref t) (.ref b)) Q E s:=by
 obtain ⟨⟨cls,dd,data,sl⟩,ho,hc,n,hd⟩:=id ht;obtain ⟨⟨cls2,dd2,data2,sl2⟩,ho2,hc2,n2,hd2⟩:=id hb;simp only at hc hd hc2 hd2;subst hc hd hc2 hd2
 have e:vs.toArray++ws.toArray=(vs++ws).toArray:=by simp
 by_cases hw:ws = []
 ·exact concat_meets ⟨_,ho,rfl⟩ ⟨_,ho2,rfl⟩ noFill_tuple_add seq_tuple_add PySem.F.slot_tuple_add PySem.F.entry_tuple_add (PySem.F.args_tuple_add_2 _ _)
   (tuple_addW1 t b vs.toArray ws.toArray n n2 dd dd2 sl sl2 (by simpa using hv) (by simp [hw])) ⟨ho,ho2,h1 hw⟩
 ·refine concat_meets ⟨_,ho,rfl⟩ ⟨_,ho2,rfl⟩ noFill_tuple_add seq_tuple_add PySem.F.slot_tuple_add PySem.F.entry_tuple_add (PySem.F.args_tuple_add_2 _ _)
   (tuple_addW2 t b vs.toArray ws.toArray n n2 dd dd2 sl sl2 (by simpa using hv) (by simpa using hw) (by rw [zn,zn]; exact hsz)) ⟨ho,ho2,?_⟩
  rw [e];exact h2 hw
def sIx (n d:Nat):Option Int→Nat
 | none=>d
 | some v=>if v < 0 then (v+(n:Int)).toNat else min v.toNat n
theorem sIx_none (n d:Nat):sIx n d none=d:=rfl
theorem sIx_nat (n d k:Nat):sIx n d (some (k:Int))=min k n:=by
 show (if (k:Int) < 0 then ((k:Int)+(n:Int)).toNat else min (k:Int).toNat n)=min k n;rw [if_neg (by omega),Int.toNat_natCast]
theorem sIx_le (n d:Nat) (hd:d≤n) (o:Option Int):sIx n d o≤n:=by
 cases o with
 | none=>exact hd
 | some v =>
  show (if v < 0 then (v+(n:Int)).toNat else min v.toNat n)≤n
  by_cases hv:v < 0
  ·rw [if_pos hv]; omega
  ·rw [if_neg hv]; exact Nat.min_le_right _ _
theorem Qoa (v:Int) (n d:Nat):(if v < 0 then max (v+(n:Int)) 0 else min v (n:Int))=((sIx n d (some v):Nat):Int):=by
 show (if v < 0 then max (v+(n:Int)) 0 else min v (n:Int))=(((if v < 0 then (v+(n:Int)).toNat else min v.toNat n):Nat):Int)
 by_cases hv:v < 0
 ·simp only [if_pos hv]; omega
 ·simp only [if_neg hv]; omega
theorem Qp6 (lo hi:Option Int) (n:Nat):Builtin.Slice.sliceAdjust lo hi 1 (n:Int)=(((sIx n 0 lo:Nat):Int),((sIx n n hi:Nat):Int)):=by
 have h1:¬((1:Int) < 0):=by omega
 unfold Builtin.Slice.sliceAdjust;simp only [h1,if_false];refine Prod.ext ?_ ?_
 ·cases lo with
  | none=>rfl
  | some v=>exact Qoa v n 0
 ·cases hi with
  | none=>rfl
  | some v=>exact Qoa v n n
theorem QpT (i j:Nat):Builtin.Slice.slicePlaces (i:Int) (j:Int) 1=j - i:=by
 unfold Builtin.Slice.slicePlaces
 have h1:(1:Int) > 0:=by omega
 simp only [h1,if_true,Int.ediv_one]
 split <;> omega
theorem QkE {v:Value}{o:Option Int}{Q:Option Int→Shared→Prop} (p:IsPart v o) (h:Q o s):wpAny (model prog w) A (Builtin.Slice.slicePartIndex v) Q E s:=by
 cases p with
 | none=>exact slicePart_none h
 | int i t=>exact slicePart_int h
theorem sliceApplied_gen {sl:Addr}{vl vu:Value}{lo hi:Option Int}{n:Nat}{Q:Int×Int×Nat→Shared→Prop} (hs:s.heap.IsSliceOf sl vl vu .none) (pl:IsPart vl lo) (pu:IsPart vu hi)
  (h:Q (((sIx n 0 lo:Nat):Int),1,sIx n n hi - sIx n 0 lo) s):wpAny (model prog w) A (Builtin.Slice.sliceApplied (.ref sl) (pure (n:Int))) Q E s:=by
 obtain ⟨os,hos,hcs,hds⟩:=id hs;unfold Builtin.Slice.sliceApplied Builtin.Slice.sliceFields;refine za (za (wpAny_field hos hds (x:=vl) rfl (za (wpAny_field hos hds (x:=vu) rfl (za (wpAny_field hos hds (x:=.none) rfl (zb ?_)))))));refine za (slicePart_none ?_);show wpAny _ _ (if ((1:Int) == 0)=true then _ else _) _ _ s;rw [if_neg (by decide)];refine za (QkE pl (za (QkE pu (za (zb ?_)))));show wpAny _ _ (match Builtin.Slice.sliceAdjust lo hi 1 (n:Int) with | (lo,hi)=>pure (lo,(1:Int),Builtin.Slice.slicePlaces lo hi 1)) _ _ s;rw [Qp6 lo hi n];show wpAny _ _ (pure (((sIx n 0 lo:Nat):Int),(1:Int),Builtin.Slice.slicePlaces ((sIx n 0 lo:Nat):Int) ((sIx n n hi:Nat):Int) 1)) _ _ s
 rw [QpT];exact zb h
theorem Qr6 (xs:Array Value) (i k:Nat):((List.range k).filterMap fun (m:Nat)=>xs[((i:Int)+(m:Int) * 1).toNat]?).toArray=((xs.toList.drop i).take k).toArray:=by
 have e:(fun (m:Nat)=>xs[((i:Int)+(m:Int) * 1).toNat]?)=fun m=>xs[i+m]?:=by
  funext m
  have:((i:Int)+(m:Int) * 1).toNat=i+m:=by omega
  rw [this]
 rw [e]
 have:=pick_run xs i k
 rw [List.filterMap_map] at this
 have e2:((fun x=>xs[x]?) ∘ fun x=>i+x)=fun m=>xs[i+m]?:=rfl
 rw [e2] at this;rw [this]
theorem getItem_tuple_cut {t sl:Addr}{items:Array Value}{vl vu:Value}{lo hi:Option Int}{Q:Value→Shared→Prop} (ht:IsTup s.heap t items) (hs:s.heap.IsSliceOf sl vl vu .none) (pl:IsPart vl lo) (pu:IsPart vu hi)
  (hw:¬(sIx items.size 0 lo=0∧sIx items.size items.size hi=items.size))
  (h:Q (.ref s.heap.objs.size) { s with heap:=s.heap.push { cls:=.type "tuple",data:=.seq ((items.toList.drop (sIx items.size 0 lo)).take (sIx items.size items.size hi - sIx items.size 0 lo)).toArray } })
  (hsz:items.size≤sizeLine):wpAny (model prog w) A (getItem (.ref t) (.ref sl)) Q E s:=by
 have htake:sizeOk (.seq ((items.toList.drop (sIx items.size 0 lo)).take (sIx items.size items.size hi - sIx items.size 0 lo)).toArray):=by
  show ((items.toList.drop (sIx items.size 0 lo)).take (sIx items.size items.size hi - sIx items.size 0 lo)).toArray.size≤sizeLine;rw [zn,List.length_take,List.length_drop,Array.length_toList];omega
 have hj:sIx items.size items.size hi≤items.size:=sIx_le _ _ (zc _) hi;obtain ⟨os,hos,hcs,hds⟩:=id hs;have hTs:s.TypeIs (.ref sl) "slice":=⟨os,hos,hcs⟩;unfold getItem
 try with_reducible refine zF ?_
 first | refine za (zb ?_) | skip
 refine za (wpAny_sequenceKey ht.typeIs (by decide) ?_)
 refine za (wpAny_callSpecial?_slot (name:=Str.ofString "__getitem__") ht.typeIs PyProof.Rows.slot_tuple_getitem
  (wpAny_call_entry PyProof.Rows.slot_tuple_getitem ht.typeIs entry_tuple_getitem ?_ (args_tuple_getitem _ _)))
 show wpAny _ _ (Builtin.Tuple.tupleItemsOf (.ref t) >>= _) _ _ s;refine za (tupleItemsOf_ ht ?_);refine za (wpAny_typeOf hTs ?_);rw [if_pos (by decide)];refine za (sliceApplied_gen hs pl pu ?_)
 have hno:¬((((sIx items.size 0 lo:Nat):Int) == 0&&(1:Int) == 1&&(sIx items.size items.size hi - sIx items.size 0 lo) == items.size)=true):=by
  intro q;rw [zg,zg] at q;have q1:((sIx items.size 0 lo:Nat):Int)=0:=eq_of_beq q.1.1;have q2:sIx items.size items.size hi - sIx items.size 0 lo=items.size:=eq_of_beq q.2;exact hw ⟨by omega,by omega⟩
 show wpAny _ _ (if (((sIx items.size 0 lo:Nat):Int) == 0&&(1:Int) == 1&&(sIx items.size items.size hi - sIx items.size 0 lo) == items.size)=true then _ else _) _ _ s;rw [if_neg hno,Qr6]
 first
  | exact za (m:=Builtin.Tuple.tupleExact _) (wpAny_newObj_type (zb ⟨_,rfl,zb h⟩) htake)
  | exact za (m:=Builtin.Tuple.tupleExact _) (wpAny_newObj_type (za (zb (zb ⟨_,rfl,zb h⟩))) htake)
  | exact za (za (m:=Builtin.Tuple.tupleExact _) (wpAny_newObj_type (zb (zb ⟨_,rfl,zb h⟩)) htake))
  | exact za (za (m:=Builtin.Tuple.tupleExact _) (wpAny_newObj_type (zb ⟨_,rfl,zb h⟩) htake))
end
end HT
namespace L2
open PySem PySem.Spec PyProof.Rows
abbrev TO:=St→Hp→(Option Int→Hp→Prop)→Prop
def PO (X:Cx) (e:Option Expr) (t:TO):Prop :=
 ∀(pins:List (Addr×Obj)) (s:Shared) (σ:St) (H:Hp) (Q:Option Int→Hp→Prop),Inv X pins σ H s→t σ H Q →
  wpAny (model X.prog X.w) X.A (evalPart e X.env) (fun u s'=>∃o H',Inv X pins σ H' s'∧IsPart u o∧Q o H') X.xe s
def Qtv:TO:=fun _ H Q=>Q none H
def Qwz (t:TE):TO:=fun σ H Q=>t σ H fun x H1=>∃i,x = .int i∧Q (some i) H1
section
variable {X:Cx}{e:Expr}{te:TE}{lo hi:Option Expr}{tl th:TO}{pos p2:Pos}
theorem Qt1:PO X none Qtv:=by
 intro pins s σ H Q I h;rw [evalPart_none];exact zb ⟨none,H,I,.none,h⟩
theorem Qtx (h:PE X e te):PO X (some e) (Qwz te):=by
 intro pins s σ H Q I hw;rw [evalPart_some]
 refine thn (h pins s σ H _ I hw) fun u s1 ⟨x,H1,I1,r1,q1⟩=>?_
 obtain ⟨i,rfl,q⟩:=q1;obtain ⟨t,rfl⟩:=r1;exact ⟨some i,H1,I1,.int i t,q⟩
def SlR (X:Cx) (r:V→Option Int→Option Int→Hp→VK→Prop):Prop :=
 ∀(pins:List (Addr×Obj)) (s:Shared) (σ:St) (H:Hp) (x:V) (v vl vu:Value) (lo hi:Option Int) (sl:Addr) (Q:VK),Inv X pins σ H s→RelV x v→s.heap.IsSliceOf sl vl vu .none→IsPart vl lo→IsPart vu hi→r x lo hi H Q →
  ∃T id,typeLookup (.type T) "__getitem__" = pure (some (.builtin id))∧s.TypeIs v T∧wpAny (model X.prog X.w) X.A (getItem v (.ref sl)) (EP X pins σ Q) X.xe s
def tSl (r:V→Option Int→Option Int→Hp→VK→Prop) (te:TE) (tl th:TO):TE:=fun σ H Q=>te σ H fun x H1=>tl σ H1 fun l H2=>th σ H2 fun u H3=>r x l u H3 Q
theorem Qr7 {r:V→Option Int→Option Int→Hp→VK→Prop} (hr:SlR X r) (he:PE X e te) (hl:PO X lo tl) (hu:PO X hi th):PE X (.Subscript e (.Slice lo hi none p2) pos) (tSl r te tl th):=by
 intro pins s σ H Q I h;refine Subscript_ (thn (he pins s σ H _ I h) fun v s1 ⟨x,H1,I1,r1,q1⟩=>?_);refine wpAny_Slice (thn (hl pins s1 σ H1 _ I1 q1) fun vl s2 ⟨l,H2,I2,pl,q2⟩=>thn (hu pins s2 σ H2 _ I2 q2) fun vu s3 ⟨u,H3,I3,pu,q3⟩=>?_);rw [evalPart_none];refine zb ?_
 have I4:Inv X pins σ H3 { s3 with heap:=s3.heap.push { cls:=.type "slice",data:=.fields #[vl,vu,.none] } }:=I3.kept (t':=s3.toks) fun b ob q=>zk _ q
 obtain ⟨T,id,hT,ht,hg⟩:=hr pins { s3 with heap:=s3.heap.push { cls:=.type "slice",data:=.fields #[vl,vu,.none] } } σ H3 x v vl vu l u s3.heap.objs.size Q I4 r1 (Heap.IsSliceOf.new ..) pl pu q3;show wpAny (model X.prog X.w) X.A (subscriptTail e (.Slice lo hi none p2) v (.ref s3.heap.objs.size)) (EP X pins σ Q) X.xe { s3 with heap:=s3.heap.push { cls:=.type "slice",data:=.fields #[vl,vu,.none] } };exact tail_any (ops:=[.ref s3.heap.objs.size,v]) ht hT hg (by with_unfolding_all rfl)
def QiL (xs:List V) (lo hi:Option Int):List V:=(xs.drop (HT.sIx xs.length 0 lo)).take (HT.sIx xs.length xs.length hi - HT.sIx xs.length 0 lo)
theorem Qj1 (xs:List V) (lo hi:Option Int):(QiL xs lo hi).length≤xs.length:=by
 unfold QiL;rw [List.length_take,List.length_drop];omega
def Qx8 (K:PySem.W.Frag):V→Option Int→Option Int→Hp→VK→Prop:=fun x lo hi H Q=>∃a xs,x = .ref a∧SqT K H a xs ∧
 ¬(HT.sIx xs.length 0 lo=0∧HT.sIx xs.length xs.length hi=xs.length)∧∀p,H p=none→Q (.ref p) (upd H p (.tup (QiL xs lo hi)))
theorem QuR:SlR X (Qx8 X.K):=by
 intro pins s σ H x v vl vu lo hi sl Q I rx hs pl pu h;obtain ⟨a,xs,rfl,hx,hw,q⟩:=h;cases rx;obtain ⟨its,r,ht,hz⟩:=I.tuple hx
 have hlen:its.toArray.size=xs.length:=by rw [zn]; exact r.length.symm
 refine ⟨"tuple",_,PyProof.Rows.slot_tuple_getitem.lookup,ht.typeIs,?_⟩;refine HT.getItem_tuple_cut ht hs pl pu (by rw [hlen]; exact hw) ?_ (by rw [hlen]; exact hz);rw [hlen];refine ⟨.ref s.heap.objs.size,_,I.laid (t':=s.toks) (o:=.tup (QiL xs lo hi)) (fun b ob q=>zk _ q) (zc _) ?_,rfl,q _ (I.hok.fresh (zc _))⟩;exact ⟨zA (Qj1 xs lo hi) hz,_,(r.drop (HT.sIx xs.length 0 lo)).take (HT.sIx xs.length xs.length hi - HT.sIx xs.length 0 lo),IsTup.new _ _⟩
def QwS (K:PySem.W.Frag):R2:=fun x y H Q=>∃a b xs ys,x = .ref a∧y = .ref b∧SqT K H a xs∧SqT K H b ys∧xs≠[]∧xs.length+ys.length≤sizeLine ∧
 (ys = []→Q (.ref a) H)∧(ys≠[]→∀p,H p=none→Q (.ref p) (upd H p (.tup (xs++ys))))
theorem QaB.nil_iff {xs:List V}{us:List Value} (r:QaB xs us):us = []↔xs = []:=by
 cases r with
 | nil=>simp
 | cons _ _=>simp
theorem Qun:OpR X (binaryOp .Add) (QwS X.K):=by
 intro pins s σ H x y v u Q I rx ry h;obtain ⟨a,b,xs,ys,rfl,rfl,ha,hb,hx,hz,q1,q2⟩:=h;cases rx;cases ry;obtain ⟨its,r1,p1,_⟩:=I.tuple ha;obtain ⟨its2,r2,p2,_⟩:=I.tuple hb;refine HT.cat_tup p1 p2 (fun z=>hx (r1.nil_iff.mp z)) (fun z=>⟨.ref a,H,I,rfl,q1 (r2.nil_iff.mp z)⟩) (fun z=>?_) (by rw [←r1.length,←r2.length]; exact hz);refine ⟨.ref s.heap.objs.size,_,I.laid (t':=s.toks) (o:=.tup (xs++ys)) (fun b ob q=>zk _ q) (zc _) ?_,rfl,q2 (fun w=>z (r2.nil_iff.mpr w)) _ (I.hok.fresh (zc _))⟩;exact ⟨by rw [zu]; exact hz,_,r1.append r2,IsTup.new _ _⟩
end
def ixN (n:Nat) (i:Int):Option Nat:=if 0≤i then (if i < n then some i.toNat else none) else if -(n:Int)≤i then some (i+n).toNat else none
def atI {α:Type} (xs:List α) (i:Int):Option α:=(ixN xs.length i).bind fun j=>xs[j]?
theorem QoT {n:Nat}{i:Int}{j:Nat} (h:ixN n i=some j):seqIndex? i n=some j∧j < n∧-(n:Int)≤i∧i < n:=by
 unfold ixN at h
 by_cases h0:0≤i
 ·rw [if_pos h0] at h
  by_cases h1:i < n
  ·rw [if_pos h1] at h;have e:i.toNat=j:=zH h;exact ⟨by rw [seqIndex_of h0 h1,e],by omega,by omega,h1⟩
  ·rw [if_neg h1] at h; cases h
 ·rw [if_neg h0] at h
  by_cases h1:-(n:Int)≤i
  ·rw [if_pos h1] at h;have e:(i+n).toNat=j:=zH h;exact ⟨by rw [seqIndex_neg (by omega) h1,e],by omega,h1,by omega⟩
  ·rw [if_neg h1] at h; cases h
theorem Qlx {α:Type}{xs:List α}{i:Int}{v:α} (h:atI xs i=some v):∃j,seqIndex? i xs.length=some j∧xs[j]? = some v∧j < xs.length∧-(xs.length:Int)≤i∧i < xs.length:=by
 unfold atI at h
 cases e:ixN xs.length i with
 | none=>rw [e] at h; cases h
 | some j =>
  rw [e] at h;obtain ⟨h1,h2,h3,h4⟩:=QoT e;exact ⟨j,h1,h,h2,h3,h4⟩
def Qod (b:Expr):Prop:=∀o i,subscripted b false o i=operate [o,i] (getItem o i)
def IxR (X:Cx) (r:R2):Prop :=
 ∀(value slice:Expr) (pins:List (Addr×Obj)) (s:Shared) (σ:St) (H:Hp) (x y:V) (v u:Value) (Q:VK),Inv X pins σ H s→RelV x v→RelV y u→r x y H Q →
  subscripted slice false v u=operate [v,u] (getItem v u)→wpAny (model X.prog X.w) X.A (subscriptTail value slice v u) (EP X pins σ Q) X.xe s
def MtR (X:Cx) (id:String) (r:V→List V→Hp→VK→Prop):Prop :=
 ∀(pins:List (Addr×Obj)) (s:Shared) (σ:St) (H:Hp) (x:V) (xs:List V) (v:Value) (us:List Value) (Q:VK),Inv X pins σ H s→RelV x v→QaB xs us→r x xs H Q →
  wpAny (model X.prog X.w) X.A (call (.builtin id) (v::us)) (EP X pins σ Q) X.xe s
section
variable {X:Cx}{a b:Expr}{ta tb:TE}{pos:Pos}
theorem Qxa {r:R2} (hr:IxR X r) (ha:PE X a ta) (hb:PE X b tb) (hs:Qod b):PE X (.Subscript a b pos) (tOp r ta tb):=by
 intro pins s σ H Q I h;exact Subscript_ (QrZ ha hb I h fun v u s2 x y H2 I2 rx ry q=>hr a b pins s2 σ H2 x y v u Q I2 rx ry q (hs _ _))
def QxM (K:PySem.W.Frag):R2:=fun x y H Q=>∃p xs i v,x = .ref p∧y = .int i∧SqL K H p xs∧atI xs i=some v∧Q v H
def QxQ (K:PySem.W.Frag):R2:=fun x y H Q=>∃p xs i v,x = .ref p∧y = .int i∧SqT K H p xs∧atI xs i=some v∧Q v H
def QxX:R2:=fun x y H Q=>∃z i c,x = .str z∧y = .int i∧z.length≤sizeLine∧atI z.cps.toList i=some c∧Q (.str ⟨#[c]⟩) H
theorem QtP:IxR X (QxM X.K):=by
 intro value slice pins s σ H x y v u Q I rx ry h hs;obtain ⟨p,xs,i,z,rfl,rfl,hq,he,q⟩:=h;cases rx;obtain ⟨t,rfl⟩:=ry;obtain ⟨its,r,pl,hz⟩:=I.list hq;obtain ⟨j,h1,h2,h3,h4,h5⟩:=Qlx he;obtain ⟨w,ew,rw'⟩:=r.get h2;have hl:=r.length;have hn:=QhT;have fin:EP X pins σ Q w s:=⟨z,H,I,rw',q⟩
 by_cases h0:0≤i
 ·have hj:i.toNat=j:=by
   rw [seqIndex_of h0 h5] at h1;exact zH h1
  exact item_listR pl.isList h0 (by omega) (by rw [hj]; simpa using ew) fin hs
 ·have hj:(i+(its.toArray.size:Int)).toNat=j:=by
   rw [seqIndex_neg (by omega) h4] at h1;rw [zn,←hl];exact zH h1
  exact subscriptTail_builtinR (x:=w) pl.isList.typeIs slot_list_getitem.lookup
   (wpAny_getItem_list_neg (Q:=fun r s'=>r=w∧EP X pins σ Q r s') pl.isList (by omega) (by rw [zn] <;> omega) (by omega) (by rw [hj]; simpa using ew) ⟨rfl,fin⟩) hs
theorem Qwa:IxR X (QxQ X.K):=by
 intro value slice pins s σ H x y v u Q I rx ry h hs;obtain ⟨p,xs,i,z,rfl,rfl,hq,he,q⟩:=h;cases rx;obtain ⟨t,rfl⟩:=ry;obtain ⟨its,r,pl,hz⟩:=I.tuple hq;obtain ⟨j,h1,h2,h3,h4,h5⟩:=Qlx he;obtain ⟨w,ew,rw'⟩:=r.get h2;have hl:=r.length;have hn:=QhT;have fin:EP X pins σ Q w s:=⟨z,H,I,rw',q⟩;exact subscriptTail_builtinR (x:=w) pl.typeIs slot_tuple_getitem.lookup
  (getItem_tuple (j:=j) (Q:=fun r s'=>r=w∧EP X pins σ Q r s') pl (by omega) (by omega) (by rw [zn,←hl]; exact h1) (by simpa using ew) ⟨rfl,fin⟩) hs
theorem QuC:IxR X QxX:=by
 intro value slice pins s σ H x y v u Q I rx ry h hs;obtain ⟨z,i,c,rfl,rfl,hz,he,q⟩:=h;obtain ⟨t,rfl⟩:=rx;obtain ⟨t',rfl⟩:=ry;obtain ⟨j,h1,h2,h3,h4,h5⟩:=Qlx he
 have hl:z.cps.toList.length=z.length:=by simp [Str.length]
 rw [hl] at h1 h4 h5;have hn:=QhT
 exact tail_any (typeIs_str s z t) slot_str_getitem.lookup (getItem_str (c:=c) (by
  have e1:decide (i < -(2 ^ 63:Int))=false:=zy (by omega);have e2:decide (i≥2 ^ 63)=false:=zy (by omega)
  rw [e1,e2,Bool.or_false]) (by rw [h1]; simpa using h2) ⟨.str ⟨#[c]⟩,H,I.tok _,⟨_,rfl⟩,q⟩) hs
theorem Qpp (its:List Value) (n j:Nat) (u:Value):Obj.mapSeq (·.setIfInBounds j u) { cls:=.type "list",data:=.seq its.toArray n } = { cls:=.type "list",data:=.seq (its.set j u).toArray n }:=by
 simp [Obj.mapSeq]
theorem Inv.lst {pins:List (Addr×Obj)}{σ:St}{H:Hp}{s:Shared}{p:Addr}{xs:List V} (I:Inv X pins σ H s) (h:H p=some (.lst xs)) :
  ∃(its:List Value) (n:Nat),QaB xs its∧s.heap.get? p=some { cls:=.type "list",data:=.seq its.toArray n }∧xs.length≤sizeLine:=by
 obtain ⟨z,its,n,r,e⟩:=I.hok p _ h;exact ⟨its,n,r,e,z⟩
theorem Inv.lstUpd {pins:List (Addr×Obj)}{σ:St}{H:Hp}{s:Shared}{p:Addr}{xs ys:List V}{its its':List Value}{n n':Nat}{f:Obj→Obj} (I:Inv X pins σ H s) (h:H p=some (.lst xs))
  (ho:s.heap.get? p=some { cls:=.type "list",data:=.seq its.toArray n }) (hf:f { cls:=.type "list",data:=.seq its.toArray n } = { cls:=.type "list",data:=.seq its'.toArray n' }) (r:QaB ys its') (hz:ys.length≤sizeLine) (t:Nat) :
  Inv X pins σ (upd H p (.lst ys)) { s with heap:=s.heap.update p f,toks:=t }:=by
 have e:(s.heap.update p f).get? p=some { cls:=.type "list",data:=.seq its'.toArray n' }:=by
  rw [Heap.get?_update_self f ho (by rw [hf] <;> rfl),hf]
 refine I.write (x:=p) (e:=p) (by rw [h]; trivial) (.inl rfl) (fun b u hb q=>(Heap.get?_update_other _ _ (Ne.symm hb)).trans q) ⟨_,e⟩ ?_;exact ⟨hz,its',n',r,e⟩
def Qwn:V→V→V→Hp→(Hp→Prop)→Prop:=fun o i v H Q=>∃p xs k j,o = .ref p∧i = .int k∧H p=some (.lst xs)∧ixN xs.length k=some j∧Q (upd H p (.lst (xs.set j v)))
theorem set_list:QuF X Qwn:=by
 intro pins s σ H o i v ov iv u Q I ro ri rv h;obtain ⟨p,xs,k,j,rfl,rfl,hp,hj,q⟩:=h;cases ro;obtain ⟨t,rfl⟩:=ri;obtain ⟨its,n,r,ho,hz⟩:=I.lst hp;obtain ⟨h1,h2,h3,h4⟩:=QoT hj;have hl:=r.length;have hn:=QhT;have I':Inv X pins σ (upd H p (.lst (xs.set j v))) { s with heap:=s.heap.update p (Obj.mapSeq (·.setIfInBounds j u)) } :=
  I.lstUpd hp ho (Qpp its n j u) (r.set rv j) (by rw [zR]; exact hz) s.toks
 by_cases h0:0≤k
 ·have hk:k.toNat=j:=by
   rw [seqIndex_of h0 h4] at h1;exact zH h1
  exact PySem.W.ki_setAt ho h0 (by omega) (by rw [zn,←hl]; exact h4) (by rw [hk]; exact ⟨_,I',q⟩)
 ·have hk:(k+(its.toArray.size:Int)).toNat=j:=by
   rw [seqIndex_neg (by omega) h3] at h1;rw [zn,←hl];exact zH h1
  exact PySem.W.ki_setBack ho (by omega) (by rw [zn,←hl]; exact h3) (by omega) (by rw [hk]; exact ⟨_,I',q⟩)
theorem Qjo (lo hi:Option Int) (n:Nat):(sliceBounds lo hi none n).1=((HT.sIx n 0 lo:Nat):Int)∧(sliceBounds lo hi none n).2.1=((HT.sIx n n hi:Nat):Int)∧(sliceBounds lo hi none n).2.2=1:=by
 refine ⟨?_,?_,rfl⟩
 ·cases lo with
  | none=>simp [sliceBounds,HT.sIx]
  | some i =>
   simp only [sliceBounds,HT.sIx,Option.getD_none,show (1:Int) > 0 by decide,if_true]
   by_cases h:i < 0
   ·simp only [h,if_true] <;> omega
   ·simp only [h,if_false] <;> omega
 ·cases hi with
  | none=>simp [sliceBounds,HT.sIx]
  | some i =>
   simp only [sliceBounds,HT.sIx,Option.getD_none,show (1:Int) > 0 by decide,if_true]
   by_cases h:i < 0
   ·simp only [h,if_true] <;> omega
   ·simp only [h,if_false] <;> omega
theorem Qmj (its:List Value) (lo hi:Option Int):slicePick its.toArray lo hi none=((its.drop (HT.sIx its.length 0 lo)).take (HT.sIx its.length its.length hi - HT.sIx its.length 0 lo)).toArray:=by
 obtain ⟨h1,h2,h3⟩:=Qjo lo hi its.toArray.size;unfold slicePick;rw [h1,h2,h3]
 simp only [sliceRange_one,pick_run,zn] <;> rfl
def QxU (K:PySem.W.Frag):V→Option Int→Option Int→Hp→VK→Prop:=fun x lo hi H Q=>∃a xs,x = .ref a∧SqL K H a xs∧∀p,H p=none→Q (.ref p) (upd H p (.lst (QiL xs lo hi)))
theorem Qte:SlR X (QxU X.K):=by
 intro pins s σ H x v vl vu lo hi sl Q I rx hs pl pu h;obtain ⟨a,xs,rfl,hx,q⟩:=h;cases rx;obtain ⟨its,r,ht,hz⟩:=I.list hx;have hlen:=r.length;refine ⟨"list",_,slot_list_getitem.lookup,ht.isList.typeIs,?_⟩;refine wpAny_getItem_list_slice ht.isList hs pl pu .none (by simp) ?_ (by rw [zn] <;> omega);rw [Qmj,←hlen];refine ⟨.ref s.heap.objs.size,_,I.laid (t':=s.toks) (o:=.lst (QiL xs lo hi)) (fun b ob q=>zk _ q) (zc _) ?_,rfl,q _ (I.hok.fresh (zc _))⟩;exact ⟨zA (Qj1 xs lo hi) hz,_,0,(r.drop (HT.sIx xs.length 0 lo)).take (HT.sIx xs.length xs.length hi - HT.sIx xs.length 0 lo),zL _ rfl⟩
def QfR:V→Bool
 | .non=>true
 | .bl _=>true
 | .int _=>true
 | .str _=>true
 | _=>false
def eqV:V→V→Bool
 | .non,.non=>true
 | .bl a,.bl b=>a == b
 | .bl a,.int b=>(if a then 1 else 0) == b
 | .int a,.bl b=>a == (if b then 1 else 0)
 | .int a,.int b=>a == b
 | .str a,.str b=>a == b
 | _,_=>false
theorem Qvq {A:Around}{s:Shared}{y x:V}{u v:Value} (ry:RelV y u) (rx:RelV x v) (fy:QfR y=true) (fx:QfR x=true):SeqAt.EqAt A s u v (eqV y x):=by
 cases y with
 | non =>
  cases ry
  cases x with
  | non=>cases rx; exact SeqAt.EqAt.same _
  | bl b=>cases rx; exact SeqAt.EqAt.none_bool b
  | int b=>obtain ⟨t,rfl⟩:=rx; exact SeqAt.EqAt.none_int b t
  | str b=>obtain ⟨t,rfl⟩:=rx; exact SeqAt.EqAt.none_str b t
  | _=>exact absurd (show false=true from fx) zh
 | bl a =>
  cases ry
  cases x with
  | non=>cases rx; exact SeqAt.EqAt.bool_none a
  | bl b=>cases rx; exact SeqAt.EqAt.bool_bool a b
  | int b=>obtain ⟨t,rfl⟩:=rx; exact SeqAt.EqAt.bool_int a b t
  | str b=>obtain ⟨t,rfl⟩:=rx; exact SeqAt.EqAt.bool_str a b t
  | _=>exact absurd (show false=true from fx) zh
 | int a =>
  obtain ⟨t',rfl⟩:=ry
  cases x with
  | non=>cases rx; exact SeqAt.EqAt.int_none a t'
  | bl b=>cases rx; exact SeqAt.EqAt.int_bool a t' b
  | int b=>obtain ⟨t,rfl⟩:=rx; exact SeqAt.EqAt.int_int a t' b t
  | str b=>obtain ⟨t,rfl⟩:=rx; exact SeqAt.EqAt.int_str a t' b t
  | _=>exact absurd (show false=true from fx) zh
 | str a =>
  obtain ⟨t',rfl⟩:=ry
  cases x with
  | non=>cases rx; exact SeqAt.EqAt.str_none a t'
  | bl b=>cases rx; exact SeqAt.EqAt.str_bool a t' b
  | int b=>obtain ⟨t,rfl⟩:=rx; exact SeqAt.EqAt.str_int a t' b t
  | str b=>obtain ⟨t,rfl⟩:=rx; exact SeqAt.EqAt.str_str a t' b t
  | _=>exact absurd (show false=true from fx) zh
 | _=>exact absurd (show false=true from fy) zh
def eqU (x:V) (u:Value):Bool:=match u with
 | .none=>eqV .non x
 | .bool b=>eqV (.bl b) x
 | .int i _=>eqV (.int i) x
 | .str z _=>eqV (.str z) x
 | _=>false
theorem QqP {x y:V}{u:Value} (r:RelV y u) (f:QfR y=true):eqU x u=eqV y x:=by
 cases y with
 | non=>cases r; rfl
 | bl b=>cases r; rfl
 | int i=>obtain ⟨t,rfl⟩:=r; rfl
 | str z=>obtain ⟨t,rfl⟩:=r; rfl
 | _=>exact absurd (show false=true from f) zh
theorem Qlh {x:V}:∀{xs:List V}{us:List Value},QaB xs us→xs.all QfR=true→us.any (eqU x)=xs.any fun y=>eqV y x
 | _,_,.nil,_=>rfl
 | y::xs,u::us,.cons r t,f=>by
  rw [List.all_cons,zg] at f;rw [List.any_cons,List.any_cons,QqP r f.1,Qlh t f.2]
theorem Qkm {A:Around}{s:Shared}{x:V}{v:Value} (rx:RelV x v) (fx:QfR x=true):∀{xs:List V}{us:List Value},QaB xs us→xs.all QfR=true→∀u∈us,SeqAt.EqAt A s u v (eqU x u)
 | _,_,.nil,_=>fun u hu=>by cases hu
 | y::xs,u::us,.cons r t,f=>fun u' hu=>by
  rw [List.all_cons,zg] at f
  rcases zm.mp hu with rfl | hu
  ·rw [QqP r f.1]; exact Qvq r rx f.1 fx
  ·exact Qkm rx fx t f.2 u' hu
def inV (x:V) (xs:List V):Bool:=xs.any fun y=>eqV y x
def rIn (K:PySem.W.Frag) (neg:Bool):R2:=fun x y H Q=>∃p xs,y = .ref p∧(SqL K H p xs∨SqT K H p xs)∧QfR x=true∧xs.all QfR=true∧Q (.bl (if neg then !inV x xs else inV x xs)) H
theorem Qrr:OpR X (compareOp .In) (rIn X.K false):=by
 intro pins s σ H x y v u Q I rx ry h;obtain ⟨p,xs,rfl,hq,fx,fs,q⟩:=h;cases ry
 rcases hq with hq | hq
 ·obtain ⟨its,r,pl,hz⟩:=I.list hq;refine SeqAt.in_listAt (eqU x) pl.isList (fun w hw=>Qkm rx fx r fs w (by simpa using hw)) ⟨.bl _,H,I,rfl,?_⟩;rw [show its.toArray.any (eqU x)=its.any (eqU x) by simp,Qlh r fs];exact q
 ·obtain ⟨its,r,pl,hz⟩:=I.tuple hq;refine SeqAt.in_tupleAt (eqU x) pl (fun w hw=>Qkm rx fx r fs w (by simpa using hw)) ⟨.bl _,H,I,rfl,?_⟩;rw [show its.toArray.any (eqU x)=its.any (eqU x) by simp,Qlh r fs];exact q
theorem QjB:Qhm X (.type "list") (fun xs H Q=>∃p ys,xs = [.ref p]∧(SqL X.K H p ys∨SqT X.K H p ys)∧∀l,H l=none→Q (.ref l) (upd H l (.lst ys))):=by
 intro pins s σ H xs us Q I r h;obtain ⟨p,ys,rfl,hq,q⟩:=h;obtain ⟨u,rfl,rx⟩:=vals1 r;cases rx;have fin:∀(its:List Value),QaB ys its→ys.length≤sizeLine→∀(h':Heap) (c':Nat),(∀b o',s.heap.get? b=some o'→h'.get? b=some o') →
   h'.get? s.heap.objs.size=some { cls:=.type "list",dict:=none,data:=.seq its.toArray c',slots:=#[] }→EP X pins σ Q (.ref s.heap.objs.size) { s with heap:=h' }:=fun its r' hz h' c' kp e =>
  ⟨.ref s.heap.objs.size,_,I.laid (t':=s.toks) kp (zc _) (show Qb3 X.prog X.w _ h' _ (.lst ys) from ⟨hz,its,c',r',e⟩),rfl,q _ (I.hok.fresh (zc _))⟩
 rcases hq with hq | hq
 ·obtain ⟨its,r',pl,hz⟩:=I.list hq;have hlen:=r'.length;obtain ⟨o,ho,hc,n,hd⟩:=pl.isList;exact call_list_seq p (.inl rfl) ho hc hd (fun h' c' kp e=>fin its r' hz h' c' kp e) (by simp only [zn] <;> omega)
 ·obtain ⟨its,r',pl,hz⟩:=I.tuple hq;have hlen:=r'.length;obtain ⟨o,ho,hc,n,hd⟩:=pl;exact call_list_seq p (.inr rfl) ho hc hd (fun h' c' kp e=>fin its r' hz h' c' kp e) (by simp only [zn] <;> omega)
def tyV (K:PySem.W.Frag) (T:String) (x:V) (H:Hp):Prop:=match x with
 | .str _=>T = "str"
 | .int _=>T = "int"
 | .ref p=>(T = "list"∧∃xs,SqL K H p xs)∨(T = "tuple"∧∃o,K.lookup p=some o∧o.cls = .type "tuple"∧o.dict=none) ∨
   (T = "dict"∧((∃kvs,H p=some (.dK kvs))∨∃kvs,H p=some (.dT kvs)))∨(T = "set"∧∃S n,H p=some (.set S n))
 | _=>False
theorem Quy {pins:List (Addr×Obj)}{σ:St}{H:Hp}{s:Shared}{T:String}{x:V}{v:Value} (I:Inv X pins σ H s) (r:RelV x v) (ty:tyV X.K T x H) :
  s.TypeIs v T∧∀a,v = .ref a→∃ob,s.heap.get? a=some ob∧ob.dict=none:=by
 cases x with
 | str z =>
  obtain ⟨t,rfl⟩:=r;cases (show T = "str" from ty);exact ⟨typeIs_str s z t,fun _ e=>nomatch e⟩
 | int i =>
  obtain ⟨t,rfl⟩:=r;cases (show T = "int" from ty);exact ⟨typeIs_int s i t,fun _ e=>nomatch e⟩
 | ref p =>
  cases r
  rcases ty with ⟨rfl,xs,hq⟩ | ⟨rfl,o,hk,hc,hd⟩ | ⟨rfl,hk⟩ | ⟨rfl,S,n,hk⟩
  ·obtain ⟨its,_,pl,_⟩:=I.list hq;refine ⟨pl.isList.typeIs,fun a e=>?_⟩;cases e;obtain ⟨o,n,e,c,hd,_⟩:=pl;exact ⟨o,e,hd⟩
  ·refine ⟨⟨o,I.kIn p o hk,hc⟩,fun a e=>?_⟩;cases e;exact ⟨o,I.kIn _ o hk,hd⟩
  ·have z:∃o,s.heap.get? p=some o∧o.ExactDict:=by
    rcases hk with ⟨kvs,hk⟩ | ⟨kvs,hk⟩
    ·obtain ⟨_,_,_,_,o,_,_,e,ex,_⟩:=I.hok p _ hk;exact ⟨o,e,ex⟩
    ·obtain ⟨_,_,_,_,o,_,_,e,ex,_⟩:=I.hok p _ hk;exact ⟨o,e,ex⟩
   obtain ⟨o,e,ex⟩:=z;refine ⟨⟨o,e,ex.1⟩,fun a e2=>?_⟩;cases e2;exact ⟨o,e,ex.2.1⟩
  ·obtain ⟨o,_,_,_,e,ex,_⟩:=I.hok p _ hk;refine ⟨⟨o,e,ex.1⟩,fun a e2=>?_⟩;cases e2;exact ⟨o,e,ex.2.1⟩
 | _=>exact False.elim ty
def tBM (K:PySem.W.Frag) (T:String) (r:V→List V→Hp→VK→Prop) (to:TE) (t:TA):TE:=fun σ H Q=>to σ H fun x H1=>tyV K T x H1∧t σ H1 fun xs H2=>r x xs H2 Q
variable {o e:Expr}{es:List Expr}{to:TE}{t:TA}{name:Str}{apos cpos:Pos}{T id:String}{r:V→List V→Hp→VK→Prop}
theorem Qml (pa:PlainAttrs T) (slot:Slot T name id) (hty:typeOf (.builtin id)=pure (.type "method_descriptor")) (hm:MtR X id r) (ho:PE X o to) (ha:PA X (e::es) t)
  (hbase:attributeBase o name X.env (eval o X.env)=eval o X.env:=by rfl)
  (hfew:((backTo cpos (starEach (e::es) X.env)).all (fun x=>!x.1)&&(backToKw cpos (keywordEach [] X.env)).all (fun x=>x.1.isSome)
   && decide ((e::es).length+([]:List Keyword).length+(if ([]:List Keyword).isEmpty then 0 else 1) < 30))=true:=by rfl)
  (hline:(apos.endLine == cpos.line)=true:=by rfl) (hs:starEach (e::es) X.env=(false,eval e X.env)::starEach es X.env:=by rfl) (hplain:(backTo cpos (starEach es X.env)).any (·.1)=false:=by rfl) :
  PE X (.Call (.Attribute o name apos) (e::es) [] cpos) (tBM X.K T r to t):=by
 intro pins s σ H Q I h;refine wpAny_Call_method_late hbase hfew hline rfl (thn (ho pins s σ H _ I h) fun v s1 ⟨x,H1,I1,r1,ty,q1⟩=>?_);obtain ⟨h1,h2⟩:=Quy I1 r1 ty;refine ⟨T,id,pa,slot,hty,h1,h2,?_⟩;have hA:=ha cpos pins s1 σ H1 _ I1 q1;rw [hs] at hA ⊢;refine Calls.callWith_builtin (by show (false || (backTo cpos (starEach es X.env)).any (·.1))=false; rw [hplain] <;> rfl) (Calls.evalArgs_plain ?_)
 exact thn hA fun us s2 ⟨vs,H2,I2,r2,q2⟩=>hm pins s2 σ H2 x vs v us Q I2 r1 r2 q2
/- xs.append(e),list.index on a module's tuple .. are MtR facts of 06m -/
end
def MtM (X:Cx) (id:String) (r:V→List V→Hp→VK→Prop):Prop :=
 ∀(pins:List (Addr×Obj)) (s:Shared) (σ:St) (H:Hp) (x:V) (xs:List V) (v:Value) (us:List Value) (Q:VK),Inv X pins σ H s→RelV x v→QaB xs us→r x xs H Q →
  wpAny (model X.prog X.w) X.A (call (.builtin id) (v::us)) (EP X pins σ Q) X.xe s
theorem QaB.one:∀{x:V}{us:List Value},QaB [x] us→∃u,us = [u]∧RelV x u
 | _,_,.cons r .nil=>⟨_,rfl,r⟩
theorem QaB.zero:∀{us:List Value},QaB [] us→us = []
 | _,.nil=>rfl
theorem QaB.rep {xs:List V}{us:List Value} (h:QaB xs us):∀k:Nat,QaB (List.replicate k xs).flatten (List.replicate k us).flatten
 | 0=>.nil
 | k+1=>by
  rw [List.replicate_succ,List.replicate_succ,List.flatten_cons,List.flatten_cons];exact QaB.append h (QaB.rep h k)
theorem foldl_rep (its:List Value):∀(k:Nat) (acc:List Value),
  List.foldl (fun x1 x2=>x1++x2) acc.toArray (List.replicate k its.toArray)=(acc++(List.replicate k its).flatten).toArray
 | 0,acc=>by simp
 | k+1,acc=>by
  have e:acc.toArray++its.toArray=(acc++its).toArray:=by simp
  have e2:(acc++its)++(List.replicate k its).flatten=acc++(List.replicate (k+1) its).flatten:=by
   rw [List.replicate_succ,List.flatten_cons,zU]
  rw [←e2,←foldl_rep its k (acc++its),←e,List.replicate_succ,List.foldl_cons]
section
variable {X:Cx}{pins:List (Addr×Obj)}{σ:St}{H:Hp}{s:Shared}{l b:Addr}{xs ys zs:List V}
theorem Inv.lset {its its':List Value}{n:Nat}{f:Array Value→Array Value}{t':Nat} (I:Inv X pins σ H s) (hH:H l=some (.lst xs))
  (e:s.heap.get? l=some { cls:=.type "list",data:=.seq its.toArray n }) (hf:f its.toArray=its'.toArray) (hv:QaB ys its') (hz:ys.length≤sizeLine) :
  Inv X pins σ (upd H l (.lst ys)) { s with heap:=s.heap.update l (Obj.mapSeq f),toks:=t' }:=by
 have q:=PySem.IsL.update e f;rw [hf] at q;refine I.write (x:=l) (e:=l) (by rw [hH]; exact trivial) (.inl rfl) (fun b' u hb hu=>(Heap.get?_update_other s.heap (Obj.mapSeq f) (Ne.symm hb)).trans hu) ⟨_,q⟩ ?_;exact ⟨hz,its',_,hv,q⟩
theorem Inv.lnew {its:List Value}{t':Nat} (I:Inv X pins σ H s) (hv:QaB ys its) (hz:ys.length≤sizeLine) :
  Inv X pins σ (upd H s.heap.objs.size (.lst ys)) { s with heap:=s.heap.push { cls:=.type "list",data:=.seq its.toArray },toks:=t' } :=
 I.laid (fun _ _ q=>zk _ q) (zc _) ⟨hz,its,0,hv,zL _ rfl⟩
theorem Inv.fresh (I:Inv X pins σ H s):H s.heap.objs.size=none:=I.hok.fresh (zc _)
theorem Inv.lstM (I:Inv X pins σ H s) (hH:H l=some (.lst xs)):xs.length≤sizeLine∧∃(its:List Value) (n:Nat),QaB xs its∧xs.length=its.length∧s.heap.get? l=some { cls:=.type "list",data:=.seq its.toArray n }:=by
 obtain ⟨z,its,n,r,e⟩:=I.hok l _ hH;exact ⟨z,its,n,r,r.length,e⟩
theorem QiH {n:Nat} (h:n≤sizeLine):Builtin.List.listTooLong n=false:=by
 unfold Builtin.List.listTooLong;exact zy (by omega)
end
section
variable {X:Cx}
def Qtq:V→List V→Hp→VK→Prop:=fun x vs H Q=>∃l xs y,x = .ref l∧vs = [y]∧H l=some (.lst xs)∧xs.length < sizeLine∧Q .non (upd H l (.lst (xs ++ [y])))
theorem QlK:MtM X "list.append" Qtq:=by
 intro pins s σ H x vs v us Q I rx rv h;obtain ⟨l,xs,y,rfl,rfl,hH,hz,q⟩:=h;cases rx;obtain ⟨u,rfl,ru⟩:=rv.one;obtain ⟨z,its,n,r,hl,e⟩:=I.lstM hH;refine call_meets F.slot_list_append ⟨_,e,rfl⟩ F.entry_list_append (F.args_list_append_2 _ _) (PySem.list_append l its.toArray n u (by rw [zn]; omega)) ⟨e,?_⟩;refine ⟨.non,_,I.lset (its':=its ++ [u]) hH e (by simp) (r.append (.cons ru .nil)) ?_,rfl,q⟩;rw [zu,zW];omega
theorem len_rep {α:Type} (xs:List α) (k:Nat):(List.replicate k xs).flatten.length=k * xs.length:=by
 induction k with
 | zero=>simp
 | succ k ih=>rw [List.replicate_succ,List.flatten_cons,zu,ih,Nat.succ_mul,Nat.add_comm]
end
section
variable {prog:Program}{w:World}{A:Around}{E:Value→Shared→Prop}{s:Shared}
theorem QpF {a c n:Nat} (hac:a≤c) (hc:c≤n):sliceBounds (some (a:Int)) (some (c:Int)) none n=((a:Int),(c:Int),1):=by
 simp only [sliceBounds,Option.getD_none]
 have h1:¬((a:Int) < 0):=by omega
 have h2:¬((c:Int) < 0):=by omega
 simp only [h1,h2,if_false,show (1:Int) > 0 by decide,if_true];congr 1
 ·omega
 ·congr 1; omega
set_option maxRecDepth 100000 in
theorem Qus {l b sl:Addr}{items new:Array Value}{n n2:Nat}{vl vu:Value}{a c:Nat}{Q:Unit→Shared→Prop}
  (e:s.heap.get? l=some { cls:=.type "list",data:=.seq items n }) (e2:s.heap.get? b=some { cls:=.type "list",data:=.seq new n2 }) (hne:l≠b)
  (hs:s.heap.IsSliceOf sl vl vu .none) (pl:IsPart vl (some (a:Int))) (pu:IsPart vu (some (c:Int))) (hac:a≤c) (hc:c≤items.size)
  (hsz:items.size+new.size≤sizeLine) (h:Q () { s with heap:=s.heap.update l (Obj.mapSeq fun xs=>xs.extract 0 a++new++xs.extract c xs.size) }) :
  wpAny (model prog w) A (setItem (.ref l) (.ref sl) (.ref b)) Q E s:=by
 have hl:s.heap.IsList l items:=PySem.IsL.isList e;have hb:s.heap.IsList b new:=PySem.IsL.isList e2;obtain ⟨os,hos,hcs,hds⟩:=id hs;have hTs:s.TypeIs (.ref sl) "slice":=⟨os,hos,hcs⟩;have hstep:¬((rawPart none == rawInt 0)=true):=zh
 have hsame:Builtin.List.listSameRef (.ref l) (.ref b)=false:=by
  unfold Builtin.List.listSameRef;exact beq_eq_false_iff_ne.mpr hne
 have hmax:(max (a:Int) (c:Int)).toNat=c:=by omega
 have hz':((fun xs:Array Value=>xs.extract 0 a++new++xs.extract c xs.size) items).size≤sizeLine+1:=by
  simp only [Array.size_append,Array.size_extract];omega
 unfold setItem
 try with_reducible refine zF ?_
 first | refine za (zb ?_) | skip
 refine za (wpAny_sequenceKey hl.typeIs (by decide) ?_)
 refine za (wpAny_callSpecial?_slot (name:=Str.ofString "__setitem__") hl.typeIs slot_list_setitem
  (wpAny_call_entry slot_list_setitem hl.typeIs entry_list_setitem ?_ (args_list_setitem _ _ _)))
 show wpAny _ _ (Builtin.List.listSubscript? (.ref sl) >>= _) _ _ s;refine za ?_;unfold Builtin.List.listSubscript?;refine za (wpAny_specialOf hTs slice_no_index ?_);simp only [Option.isNone_none,if_true];refine zb ?_;show wpAny _ _ (typeOf (.ref sl) >>= _) _ _ s;refine za (wpAny_typeOf hTs ?_)
 first
  | rw [if_neg (by decide)]
  | refine PySem.W.KFB.if_not (by decide) ?_
 rw [listSliceParts_eq];refine za (za (wpAny_field hos hds (x:=.none) rfl (za (wpAny_listPart .none ?_))));rw [if_neg hstep];refine za (wpAny_field hos hds (x:=vl) rfl (za (wpAny_listPart pl ?_)));refine za (wpAny_field hos hds (x:=vu) rfl (za (wpAny_listPart pu (zb ?_))))
 first
  | simp only [hsame,Bool.false_eq_true,if_false]
  | refine PySem.W.KFB.if_not hsame ?_
  | (dsimp only
     rw [if_neg (by rw [hsame]; exact zh)])
 refine za (m:=Builtin.List.listAllItems (.ref b) "must assign iterable to extended slice") ?_;unfold Builtin.List.listAllItems;refine za (wpAny_typeOf hb.typeIs ?_)
 first
  | refine PySem.W.KFB.if_so (by decide) ?_
  | rw [if_pos (by decide)]
  | simp only [beq_self_eq_true,Bool.true_or,if_true]
 unfold Builtin.List.listItems;refine za (wpAny_seqItems e2 rfl (zb ?_));refine za (za (wpAny_seqItems e rfl (zb ?_)));refine za (zX ((sliceIndices_raw (some (a:Int)) (some (c:Int)) none items.size (by simp)).trans (congrArg (pure:Int×Int×Int→Sem (Int×Int×Int)) (QpF hac hc))) ?_);show wpAny _ _ (if ((1:Int) == 1)=true then _ else _) _ _ s;rw [if_pos (by decide)];refine za (zY ?_)
 first
  | simp only [QiH hsz,Bool.false_eq_true,if_false]
  | refine PySem.W.KFB.if_not (QiH hsz) ?_
 first | refine za (zb ?_) | skip
 show wpAny _ _ (updateSeq l (fun xs=>xs.extract 0 ((a:Int)).toNat++new++xs.extract (max (a:Int) (c:Int)).toNat xs.size) >>= _) _ _ s;rw [hmax,Int.toNat_natCast];refine za (wpAny_updateSeq (hz:=zA (je _ _) hsz) (_hz':=hz') e rfl ?_);refine za (wpAny_letGo ?_)
 first
  | exact za (zb (zb ⟨.none,rfl,zb h⟩))
  | exact zb ⟨.none,rfl,zb h⟩
end
section
variable {X:Cx}
end
end L2
namespace Att
open PySem PySem.W PySem.Calls PyProof.Rows
theorem QkH {P:Params}{h:Heap}:∀(ns:List Int) (vs:List Value),WellAll P h vs (ns.map WData.int)→IntsAre vs ns:=by
 intro ns
 induction ns with
 | nil =>
  intro vs w;rw [List.map_nil] at w;cases w;exact .nil
 | cons n ns ih =>
  intro vs w;rw [zf] at w
  cases w with
  | cons a b =>
   cases a;exact .cons _ _ (ih _ b)
theorem Qrw {l:OpenLaw}{n:Nat} (hn:l.most=some n) {P:Params}{h:Heap}{args:List WData}{vals:List Value}
  (hpre:l.row.toRowW.claim.pre args=true) (hwl:WellAll P h vals args) :
  ∃a vs ns,vals = [Value.ref a]∧args = [WData.list (ns.map WData.int)]∧h.get? a=some { cls:=.type "list",data:=.seq vs.toArray }∧IntsAre vs ns∧ns.length≤n:=by
 have hsh:WShape.hasAll [] args [.list .int]=true:=(pre_splitW hpre).1;have hc:l.pre.holds [] { args:=args }=true:=(pre_splitW hpre).2;obtain ⟨d,r,rfl,h1,h2⟩:=hasAllW_cons hsh;obtain rfl:=hasAllW_nil h2;obtain ⟨xs,rfl,h3⟩:=hasW_list h1;obtain ⟨ns,rfl⟩:=items_int h3
 have hlen:ns.length≤n:=by
  unfold OpenLaw.pre at hc
  have h4:(WTm.not (.lt (.lit (.int (n:Int))) (.len (.arg 0)))).holds [] { args:=[.list (ns.map .int)] }=true:=by
   have h4:=(holds_andW hc).1;rw [hn] at h4;exact h4
  have h5:=condW_of h4 (w_not (w_lt w_lit (w_len_list (w_arg rfl))));rw [zD] at h5
  refine Nat.le_of_not_lt fun q=>?_
  have q':(n:Int) < ((ns.length:Nat):Int):=by omega
  first
   | (rw [zV q'] at h5; exact absurd h5 (by decide))
   | (simp at h5; omega)
 cases hwl with
 | cons w1 w2 =>
  cases w2
  cases w1 with
  | list ho hall=>exact ⟨_,_,ns,rfl,rfl,ho,QkH ns _ hall,hlen⟩
theorem Qq2 (l:OpenLaw) (args:List WData):l.row.toRowW.claim.post args (.bool true) args=true :=
 postW_of (r:=l.row.toRowW) (X:=(true == true))
  (show WShape.has [] (.bool true) .bool=true by first | rfl | decide | simp [WShape.has,WShape.arms,WShape.armsAll])
  (show (WTm.eq .res (.lit (.bool true))).value [] { args:=args,res:=some (.bool true),after:=args }=some (.bool (true == true)) from w_eq_bool (w_res rfl) w_lit) rfl
theorem attach_call {l:OpenLaw}{n:Nat}{q:Program}{loose:List Str}{XP:(Str→Option Value)→Heap→Prop}{YP:World→Heap→Prop}{d:DefRec}
  (hn:l.most=some n) (hdf:d.params.defaults = [])
  (call:∀(w:World) (s₀ s₁:Shared) (mg mb:Str→Option Value) (fa:Addr) (o:Obj) (pm cd doc:Value) (a:Addr) (vs:List Value) (ns:List Int),
   Ground q loose [] XP w s₀ mg mb s₁.heap→YP w s₁.heap →
   s₁.heap.get? fa=some o→o.data = .func (docDef d.name d.params d.body d.scope pm cd doc)→s₁.heap.CodeRec cd d.name→mg d.name=some (.ref fa) →
   s₁.heap.get? a=some { cls:=.type "list",data:=.seq vs.toArray }→IntsAre vs ns→ns.length≤n→s₁.gens = #[] →
   codeAny (model l.prog w) callerA (.call (.ref fa) ⟨[.ref a],[]⟩) (fun r s'=>r = .ok (.ret (.bool true))∧OldK s₁.heap s'.heap∧s'.os=s₁.os∧AllBare s'.gens) s₁) :
  WalkO q loose XP YP l.row.toRowW d [] (fun f vs=>PySem.call f vs):=by
 intro w s₀ s₁ mg mb G Y fa o pm cd doc dV kV ho hd hcd hD hmg hg args vals as hpre hlay hrd hwl hlo;obtain rfl:dV = .none:=Dflts.none hD hdf;obtain rfl:kV = .none:=Dflts.noKw hD;obtain ⟨a,vs,ns,rfl,rfl,hobj,hints,hlen⟩:=Qrw hn hpre hwl;refine enter_call (codeAny_mono (call w s₀ s₁ mg mb fa o pm cd doc a vs ns G Y ho (fd_plain hd) hcd hmg hobj hints hlen hg) fun r s' hq=>?_);obtain ⟨rfl,h2,h3,h4⟩:=hq;exact ⟨.inl ⟨.bool true,.bool true,[],rfl,fun _=>rfl,.bool true,Qq2 l _,fun _=>⟨List.Pairwise.nil,fun _ hm=>(nomatch hm)⟩⟩,h2,h3,h4⟩
section
variable {prog:Program}{w:World}{A:Around}{E:Value→Shared→Prop}{s:Shared}{K:Frag}
end
end Att
namespace L2
open PySem PySem.Spec PyProof.Rows
theorem Qi9:∀{vs:List Value}{ns:List Int},IntsAre vs ns→QaB (ns.map V.int) vs
 | _,_,.nil=>.nil
 | _,_,.cons n t h=>.cons ⟨t,rfl⟩ (Qi9 h)
def Qkt (H:Hp):Prop:=∀b,H b=none∨∃o xs,H b=some (.frz o (.lst xs))
theorem QrX {P:Program}{w:World}{K:PySem.W.Frag}{mg mb:Str→Option Value}{CX:CXT}{k:Nat}{fa a:Addr}{fd:FuncData}{x:Str}{sp:Sp}{s₁:Shared}{vs:List Value}{ns:List Int}
  (KX:K.In s₁.heap) (hns:s₁.heap.Ns mainGlobals mg) (hb:s₁.heap.Ns builtinsNs mb) (hbb:∀x:Str,x≠"__name__"→mb x=bootBuiltins x) (hlim:s₁.heap.NoLimit) (hg:s₁.gens = #[])
  (ha:s₁.heap.get? a=some { cls:=.type "list",data:=.seq vs.toArray }) (hi:IntsAre vs ns) (hl:ns.length≤sizeLine) (hr:QaH k callerA)
  (F:∀base:Heap,K.In base→base.Ns mainGlobals mg→QbH P w K mg base CX k fa fd [x] sp) (hbind:∀(s:Shared) (u:Value),BindsTo s fd ⟨[u],[]⟩ [(x,u)])
  (hsp:∀H:Hp,Qkt H→SqL K H a (ns.map V.int)→sp [.ref a] H (fun v _=>v = .bl true) fun _ _ _=>False)
  (hCX:∀H e s',CX [] H s₁ (fun _ _ _=>False) e s'→False) :
  codeAny (model P w) callerA (.call (.ref fa) ⟨[.ref a],[]⟩) (fun r s'=>r = .ok (.ret (.bool true))∧OldK s₁.heap s'.heap∧s'.os=s₁.os∧AllBare s'.gens) s₁:=by
 have rv:=Qi9 hi;have lenV:=hi.length;have core:∀H:Hp,Qkt H→SqL K H a (ns.map V.int)→HOk P w H s₁.heap→(∀b,H b≠none→b=a)→(H a≠none→K.lookup a=none) →
   codeAny (model P w) callerA (.call (.ref fa) ⟨[.ref a],[]⟩) (fun r s'=>r = .ok (.ret (.bool true))∧OldK s₁.heap s'.heap∧s'.os=s₁.os∧AllBare s'.gens) s₁:=by
  intro H hO hS hok hA hK
  have base_of:∀{b:Addr}{o:Obj},s₁.heap.get? b=some o→H b=none→(Qfe s₁.heap H).get? b=some o:=fun e n=>Qng e n
  have noA:∀{b:Addr}{o:Obj}{es:Array DictEntry}{ep:Nat},s₁.heap.get? b=some o→o.data = .dict es ep→H b=none:=fun {b o es ep} e d=>by
   cases q:H b with
   | none=>rfl
   | some u =>
    have e':b=a:=hA b (by rw [q]; simp);subst e';rw [ha] at e; cases e;have d':Data.seq vs.toArray _=Data.dict es ep:=d;cases d'
  have nsK:∀{b:Addr}{m:Str→Option Value},s₁.heap.Ns b m→(Qfe s₁.heap H).Ns b m:=fun {b m} ⟨o,es,ep,e,d,r⟩=>⟨o,es,ep,base_of e (noA e d),d,r⟩
  have hKb:K.In (Qfe s₁.heap H):=fun b o e=>base_of (KX b o e) (by
   cases q:H b with
   | none=>rfl
   | some u =>
    have e':b=a:=hA b (by rw [q]; simp);subst e'
    rw [hK (by rw [q]; simp)] at e; cases e)
  have hM:Mod K mg (Qfe s₁.heap H):=⟨hKb,nsK hns,⟨mb,nsK hb,hbb⟩,let ⟨mc,h1,h2⟩:=hlim; ⟨mc,nsK h1,h2⟩⟩;have e0:QeS P w K mg (Qfe s₁.heap H) callerA [] s₁ H:=⟨rfl,hM,fun b o e=>QoI e,Nat.le_of_eq (Ql5 _ _),trivial,fun b hb=>absurd (show b∈([]:List Addr) from hb) (by simp),hok,.of_eq hg⟩
  refine codeAny_mono ((F _ hKb (nsK hns)).run callerA [] s₁ H ⟨[.ref a],[]⟩ [.ref a] [.ref a] _ _ hr e0 (hbind s₁ (.ref a)) (.cons rfl .nil) (hsp H hO hS)) fun r s' h=>?_
  cases r with
  | error e=>exact (hCX H e s' h).elim
  | ok fl =>
   cases fl with
   | next=>exact False.elim h
   | brk=>exact False.elim h
   | cont=>exact False.elim h
   | ret u =>
    obtain ⟨v,H',os,bare,un,hok',r',q⟩:=h;have q':v = .bl true:=q;subst q';obtain rfl:u=Value.bool true:=r';refine ⟨rfl,OldK.of_keep fun b o e=>?_,os,bare⟩
    cases q:H b with
    | none=>exact un.keep b o e q (by intro z; exact absurd (show b∈([]:List Addr) from z) (by simp)) (by simp)
    | some u =>
     rcases hO b with z | ⟨ob,xs,z⟩
     ·rw [q] at z; cases z
     ·have z2:=un.frzs b ob _ z;obtain ⟨e1,_⟩:=hok b _ z;obtain ⟨e2,_⟩:=hok' b _ z2;rw [e] at e1; cases e1;exact e2
 cases hk:K.lookup a with
 | some o =>
  have e:=KX a o hk;rw [ha] at e;cases e
  refine core (fun _=>none) (fun _=>.inl rfl) (.inr ⟨_,vs.toArray,_,hk,rfl,rfl,rfl,by rw [zn,lenV]; exact hl,by simpa using rv⟩) (fun b u z=>by have z':(none:Option HO)=some u:=z; cases z') (fun b z=>absurd rfl z) fun z=>absurd rfl z
 | none =>
  refine core (fun b=>if b=a then some (.frz { cls:=.type "list",data:=.seq vs.toArray } (.lst (ns.map V.int))) else none) (fun b=>?_) (.inl (.inr ⟨{ cls:=.type "list",data:=.seq vs.toArray },if_pos rfl⟩)) (fun b u z=>?_) (fun b z=>?_) fun _=>hk
  ·by_cases hb:b=a
   ·exact .inr ⟨_,_,if_pos hb⟩
   ·exact .inl (if_neg hb)
  ·by_cases hb:b=a
   ·have z':=(if_pos hb).symm.trans z;cases z';subst hb;exact ⟨ha,by rw [zD]; exact hl,vs,_,rv,ha⟩
   ·have z':=(if_neg hb).symm.trans z;cases z'
  ·by_cases hb:b=a
   ·exact hb
   ·exact absurd (if_neg hb) z
abbrev KOf {K:PySem.W.Frag}{h:Heap} (_:K.In h):PySem.W.Frag:=K
theorem walk_of {l:PySem.W.OpenLaw}{n k:Nat}{q:Program}{loose:List Str}{XP:(Str→Option Value)→Heap→Prop}{YP:World→Heap→Prop}{d:DefRec}{K:Params→PySem.W.Frag}{CX:World→CXT}{sp:World→Sp}{x:Str}
  (hn:l.most=some n) (hn2:n≤sizeLine) (hdf:d.params.defaults = []) (hr:QaH k callerA)
  (hY:∀(w:World) (h:Heap),YP w h→(K w.params).In h)
  (F:∀(w:World) (mg:Str→Option Value) (fa:Addr) (h:Heap),(K w.params).In h→h.Ns mainGlobals mg→mg d.name=some (.ref fa) →
   ∃fd:FuncData,(∀(s:Shared) (u:Value),BindsTo s fd ⟨[u],[]⟩ [(x,u)]) ∧
    ∀base:Heap,(K w.params).In base→base.Ns mainGlobals mg→QbH l.prog w (K w.params) mg base (CX w) k fa fd [x] (sp w))
  (hsp:∀(w:World) (H:Hp) (a:Addr) (ns:List Int),ns.length≤n→Qkt H→SqL (K w.params) H a (ns.map V.int)→sp w [.ref a] H (fun v _=>v = .bl true) fun _ _ _=>False)
  (hCX:∀(w:World) (H:Hp) (s:Shared) (e:Value) (s':Shared),CX w [] H s (fun _ _ _=>False) e s'→False) :
  PySem.W.WalkO q loose XP YP l.row.toRowW d [] (fun f vs=>PySem.call f vs):=by
 refine Att.attach_call hn hdf fun w s₀ s₁ mg mb fa o pm cd doc a vs ns G Y ho hd hcd hmg hobj hints hlen hg=>?_
 have KX:=hY w _ Y;obtain ⟨fd,hb,hF⟩:=F w mg fa _ KX G.T.g hmg
 exact QrX KX G.T.g G.T.b G.T.builtins G.T.nolimit hg hobj hints (zA hlen hn2) hr hF hb (fun H hO hS=>hsp w H a ns hlen hO hS) fun H e s'=>hCX w H s₁ e s'
end L2
/- THE LAST THEOREM (shape; LID,My.* are yours):
   My.Adr: a structure of the addresses that your layer names (classes,functions); My.Txt K t: a structure (Prop) of the equations over K;
   My.txt_mk:{K}{implicit addresses ..} (e1:nsIn K mainGlobals "law" = some (some (.ref f))) (e2:K.lookup f=some ⟨oc,od,.func (fnOf "law" "law" params body scope dV kV doc pm an cdv ct),sl⟩) (e3:codeIn K cdv "law" = true) ..:∃t,My.Txt K t
set_option maxRecDepth 100000 in
set_option maxHeartbeats 0 in
theorem PySem.Challenge.cw_LID_holds : PySem.Challenge.rw_LID.Holds := by
 w_on; o_law; k_head; (case hw=>w_witness2)
 k_fill
 refine L2.walk_of (l:=PySem.Challenge.rw_LID) (n:=63) (k:=40) (x:="script") (CX:=fun w=>..) (sp:=fun _=>My.sp_law) rfl (by decide) rfl ⟨rfl,by decide,by decide⟩ (fun w h Y=>PySem.W.kIn_of Y) ?F ?S ?C
 case F =>
  intro w mg fa h KX G hmg
  have T:∃t,My.Txt (L2.KOf KX) t:=by
   dsimp only [L2.KOf]                          -- K must stand as «<heap const> w.params» for k_is
   refine' My.txt_mk ?e1 ?e2 ?e3 ..
   (case e1=>PySem.W.k_is)                    -- in the order: a name -> its address -> its object -> its parts
   (case e2=>PySem.W.k_is)
   ..
  obtain ⟨t,T⟩:=T;have e0:=hmg.symm.trans (PySem.W.mg_of KX G T.law);cases e0                                       -- fa is the law's own address
  exact ⟨_,fun s u=>.of_eq rfl,fun base kb nb=>My.law_fn T kb nb⟩     -- if «.of_eq rfl» comes too early: refine' ⟨_,?b,fun base kb nb=>My.law_fn T kb nb⟩; exact fun s u=>.of_eq rfl
 case S=>exact fun w H a ns hl hO hS=>..
 case C=>exact ..
(the tactic k_is has no namespace: write k_is) -/
namespace L2
open PySem PySem.Spec PyProof.Rows
def inClass (s:Stmt) (j:Nat):Stmt:=match s with
 | .ClassDef _ _ _ body _ _ _ _ _ _ _=>body.getD j (.Pass ⟨0,0,0,0⟩)
 | _=>.Pass ⟨0,0,0,0⟩
def QbQ (s:Stmt):Arguments:=match s with
 | .FunctionDef _ a _ _ _ _ _ _ _ _=>a
 | _=>{ posonlyargs:=[],args:=[],vararg:=none,kwonlyargs:=[],kw_defaults:=[],kwarg:=none,defaults:=[] }
def QaX (s:Stmt):List Stmt:=match s with
 | .FunctionDef _ _ b _ _ _ _ _ _ _=>b
 | _=>[]
def Qai (s:Stmt):Scope:=match s with
 | .FunctionDef _ _ _ _ _ _ sc _ _ _=>sc
 | _=>{ kind:=.function,names:=[],isGenerator:=false,isCoroutine:=false }
abbrev CX0:CXT:=fun _ _ _ _ _ _=>False
abbrev E0:XK:=fun _ _ _=>False
theorem QkX {X:Cx}:Qe2 CX0 X E0:=fun _ _ _ _ _ _ _ h=>h.elim
structure Fun (K:PySem.W.Frag) (x qual:Str) (st:Stmt) (f:Addr) (fd:FuncData):Prop where
 ex:∃(oc:Value) (od:Option Addr) (kV doc pm:Value) (an:Option Addr) (cdv ct:Value) (osl:Array (Option Value)),
  fd=PySem.W.fnOf x qual (QbQ st) (QaX st) (Qai st) .none kV doc pm an cdv ct∧K.lookup f=some ⟨oc,od,.func fd,osl⟩∧PySem.W.codeIn K cdv qual=true
 kp:PySem.W.keepIn K (.ref f)=true
section
variable {P:Program}{w:World}{K:PySem.W.Frag}{mg:Str→Option Value}{base:Heap}
theorem Fun.ok {x qual:Str}{st:Stmt}{f:Addr}{fd:FuncData}{N ps:List Str}{k:Nat}{sp:Sp} (F:Fun K x qual st f fd) (S:QaA N ps (Qai st)) (len:∀vs H Q E,sp vs H Q E→vs.length=ps.length)
  (hbody:∀(cdv:Value) (A:Around) (outer:List Env) (s:Shared) (H:Hp) (vs:List V) (Q:VK) (E:XK),QaH k (A.deeper (envOfC qual (Qai st) s.heap.objs.size f cdv))→sp vs H Q E →
   ∃t,PSs (Qcw CX0 P w K mg base N qual (Qai st) f cdv A outer s H E).nox (QaX st) t∧t { nx:=fun _ H'=>Q .non H',rt:=Q } (start N vs) H):QbH P w K mg base CX0 (k+1) f fd ps sp:=by
 obtain ⟨oc,od,kV,doc,pm,an,cdv,ct,osl,rfl,lk,hcd⟩:=F.ex
 refine QpP lk hcd S len fun A outer s H vs Q E hr hsp=>?_
 obtain ⟨t,h,q⟩:=hbody cdv A outer s H vs Q E hr hsp;exact ⟨t,h.nox,q⟩
theorem Fun.binds {x qual:Str}{st:Stmt}{f:Addr}{fd:FuncData}{ps:List Str} (F:Fun K x qual st f fd)
  (h:∀(kV doc pm:Value) (an:Option Addr) (cdv ct:Value) (us:List Value),us.length=ps.length→bindArgs (PySem.W.fnOf x qual (QbQ st) (QaX st) (Qai st) .none kV doc pm an cdv ct) ⟨us,[]⟩=pure (ps.zip us)):Binds K fd ps []:=by
 obtain ⟨oc,od,kV,doc,pm,an,cdv,ct,osl,rfl,lk,hcd⟩:=F.ex;exact .all (h kV doc pm an cdv ct)
theorem QkG {x qual:Str}{st:Stmt}{f:Addr}{oc:Value}{od an:Option Addr}{osl:Array (Option Value)}{kV doc pm cdv ct:Value} (l:K.lookup f=some ⟨oc,od,.func (PySem.W.fnOf x qual (QbQ st) (QaX st) (Qai st) .none kV doc pm an cdv ct),osl⟩)
  (c:PySem.W.codeIn K cdv qual=true) (k:PySem.W.keepIn K (.ref f)=true):Fun K x qual st f (PySem.W.fnOf x qual (QbQ st) (QaX st) (Qai st) .none kV doc pm an cdv ct):=⟨⟨oc,od,kV,doc,pm,an,cdv,ct,osl,rfl,l,c⟩,k⟩
end
section
variable {X:Cx}
end
def Same (H H':Hp):Prop:=∀b o,H b=some o→H' b=some o
theorem Same.refl (H:Hp):Same H H:=fun _ _ h=>h
theorem Same.trans {H H1 H2:Hp} (a:Same H H1) (b:Same H1 H2):Same H H2:=fun c o h=>b c o (a c o h)
theorem Same.free {H H':Hp} (e:Same H H') {l:Addr} (h:H' l=Option.none):H l=Option.none:=by
 cases q:H l with
 | none=>rfl
 | some o =>
  rw [e l o q] at h;cases h
theorem Same.seq {K:PySem.W.Frag}{H H':Hp}{a:Addr}{xs:List V} (e:Same H H') (h:SqL K H a xs):SqL K H' a xs:=by
 rcases h with (h | ⟨o,h⟩) | h
 ·exact .inl (.inl (e _ _ h))
 ·exact .inl (.inr ⟨o,e _ _ h⟩)
 ·exact .inr h
section
variable {κ:Type} [DecidableEq κ]
def Qew (kvs:List (κ×V)) (k:κ):Option V:=(kvs.find? fun kv=>decide (kv.1=k)).map (·.2)
def putK (kvs:List (κ×V)) (k:κ) (v:V):List (κ×V) :=
 if (kvs.any fun kv=>decide (kv.1=k))=true then kvs.map (fun kv=>if kv.1=k then (kv.1,v) else kv) else kvs ++ [(k,v)]
def QsZ (kvs:List (κ×V)) (k:κ):List (κ×V):=kvs.filter fun kv=>decide (kv.1≠k)
theorem Qg8 {p:κ×V}{r:List (κ×V)}{k:κ} (e:p.1=k):Qew (p::r) k=some p.2:=by simp [Qew,List.find?_cons,e]
theorem Qg7 {p:κ×V}{r:List (κ×V)}{k:κ} (e:¬p.1=k):Qew (p::r) k=Qew r k:=by simp [Qew,List.find?_cons,e]
theorem Qnr (k:κ):∀kvs:List (κ×V),(kvs.any fun kv=>decide (kv.1=k))=(Qew kvs k).isSome
 | []=>rfl
 | p::r=>by
  rw [List.any_cons]
  by_cases e:p.1=k
  ·simp only [Qg8 e,zV e,Bool.true_or,Option.isSome_some]
  ·rw [Qg7 e,zy e,Bool.false_or]; exact Qnr k r
theorem QdN.isSome_eq {o:Option V}{u:Option Value} (r:QdN o u):o.isSome=u.isSome:=by
 cases o with
 | none=>cases u with
  | none=>rfl
  | some _=>exact (show False from r).elim
 | some _=>cases u with
  | none=>exact (show False from r).elim
  | some _=>rfl
theorem QdN.getD {o:Option V}{u:Option Value}{d:V}{d':Value} (r:QdN o u) (rd:RelV d d'):RelV (o.getD d) (u.getD d'):=by
 cases o with
 | none=>cases u with
  | none=>exact rd
  | some _=>exact (show False from r).elim
 | some _=>cases u with
  | none=>exact (show False from r).elim
  | some _=>exact r
theorem KV.val {kvs:List (κ×V)}{vs:List (κ×Value)} (r:KV kvs vs) (k:κ):QdN (Qew kvs k) (valueAt vs k):=by
 unfold KV at r
 induction r with
 | nil=>exact True.intro
 | @cons p q ps qs h t ih =>
  obtain ⟨h1,h2⟩:=h
  by_cases e:p.1=k
  ·have e':q.1=k:=h1.symm.trans e
   have b:valueAt (q::qs) k=some q.2:=by simp [valueAt,List.find?_cons,e']
   rw [Qg8 e,b]; exact h2
  ·have e':¬q.1=k:=fun z=>e (h1.trans z)
   have b:valueAt (q::qs) k=valueAt qs k:=by simp [valueAt,List.find?_cons,e']
   rw [Qg7 e,b]; exact ih
theorem KV.any {kvs:List (κ×V)}{vs:List (κ×Value)} (r:KV kvs vs) (k:κ):(kvs.any fun kv=>decide (kv.1=k))=vs.any fun kv=>decide (kv.1=k):=by
 unfold KV at r
 induction r with
 | nil=>rfl
 | cons h t ih=>rw [List.any_cons,List.any_cons,ih,h.1]
theorem KV.repl {kvs:List (κ×V)}{vs:List (κ×Value)} (r:KV kvs vs) (k:κ) {y:V}{u:Value} (ry:RelV y u) :
  KV (kvs.map fun kv=>if kv.1=k then (kv.1,y) else kv) (vs.map fun kv=>if kv.1=k then (kv.1,u) else kv):=by
 unfold KV at r ⊢
 induction r with
 | nil=>exact .nil
 | @cons p q ps qs h t ih =>
  rw [zf,zf];refine .cons ?_ ih;obtain ⟨h1,h2⟩:=h
  by_cases e:p.1=k
  ·rw [if_pos e,if_pos (h1.symm.trans e)]; exact ⟨h1,ry⟩
  ·rw [if_neg e,if_neg (fun z=>e (h1.trans z))]; exact ⟨h1,h2⟩
theorem KV.put {kvs:List (κ×V)}{vs:List (κ×Value)} (r:KV kvs vs) (k:κ) {y:V}{u:Value} (ry:RelV y u):KV (putK kvs k y) (stored vs k u):=by
 unfold putK stored;rw [r.any k]
 by_cases e:(vs.any fun kv=>decide (kv.1=k))=true
 ·rw [if_pos e,if_pos e]; exact r.repl k ry
 ·rw [if_neg e,if_neg e]; exact Paired.snoc r ⟨rfl,ry⟩
theorem KV.drop {kvs:List (κ×V)}{vs:List (κ×Value)} (r:KV kvs vs) (k:κ):KV (QsZ kvs k) (without vs k):=by
 unfold KV at r ⊢;unfold QsZ without
 induction r with
 | nil=>exact .nil
 | @cons p q ps qs h t ih =>
  obtain ⟨h1,h2⟩:=h;rw [List.filter_cons,List.filter_cons]
  by_cases e:p.1=k
  ·have a:¬decide (p.1≠k)=true:=by simp [e]
   have b:¬decide (q.1≠k)=true:=by simp [h1.symm.trans e]
   rw [if_neg a,if_neg b]; exact ih
  ·have e':¬q.1=k:=fun z=>e (h1.trans z)
   have a:decide (p.1≠k)=true:=by simp [e]
   have b:decide (q.1≠k)=true:=by simp [e']
   rw [if_pos a,if_pos b]; exact .cons ⟨h1,h2⟩ ih
theorem KV.keys {kvs:List (κ×V)}{vs:List (κ×Value)} (r:KV kvs vs):kvs.map (·.1)=vs.map (·.1):=by
 unfold KV at r
 induction r with
 | nil=>rfl
 | cons h t ih=>rw [zf,zf,ih,h.1]
theorem KV.length {kvs:List (κ×V)}{vs:List (κ×Value)} (r:KV kvs vs):kvs.length=vs.length:=Paired.length r
end
abbrev KT (H:Hp):List (List Key×V)→List (List Key×Addr×Value)→Prop:=Paired fun p q=>p.1=q.1∧H q.2.1=some (.tup (p.1.map kV))∧RelV p.2 q.2.2
theorem KT.val {H:Hp}{kvs:List (List Key×V)}{xs:List (List Key×Addr×Value)} (r:KT H kvs xs) (k:List Key):QdN (Qew kvs k) ((atKey xs k).map (·.2)):=by
 induction r with
 | nil=>exact True.intro
 | @cons p q ps qs h t ih =>
  obtain ⟨h1,_,h2⟩:=h
  by_cases e:p.1=k
  ·have e':q.1=k:=h1.symm.trans e
   have b:atKey (q::qs) k=some q.2:=by simp [atKey,List.find?_cons,e']
   rw [Qg8 e,b]; exact h2
  ·have e':¬q.1=k:=fun z=>e (h1.trans z)
   have b:atKey (q::qs) k=atKey qs k:=by simp [atKey,List.find?_cons,e']
   rw [Qg7 e,b]; exact ih
theorem KT.repl {H:Hp}{kvs:List (List Key×V)}{xs:List (List Key×Addr×Value)} (r:KT H kvs xs) (k:List Key) {y:V}{u:Value} (ry:RelV y u) :
  KT H (kvs.map fun kv=>if kv.1=k then (kv.1,y) else kv) (xs.map (putAt k u)):=by
 induction r with
 | nil=>exact .nil
 | @cons p q ps qs h t ih =>
  rw [zf,zf];refine .cons ?_ ih;obtain ⟨h1,h2,h3⟩:=h;unfold putAt
  by_cases e:p.1=k
  ·rw [if_pos e,if_pos (h1.symm.trans e)]; exact ⟨h1,h2,ry⟩
  ·rw [if_neg e,if_neg (fun z=>e (h1.trans z))]; exact ⟨h1,h2,h3⟩
theorem KT.put {H:Hp}{kvs:List (List Key×V)}{xs:List (List Key×Addr×Value)} (r:KT H kvs xs) (k:List Key) {b:Addr}{y:V}{u:Value} (hb:H b=some (.tup (k.map kV))) (ry:RelV y u) :
  KT H (putK kvs k y) (storedH xs k b u):=by
 have e:(kvs.any fun kv=>decide (kv.1=k))=(atKey xs k).isSome:=by
  rw [Qnr,(r.val k).isSome_eq,Option.isSome_map]
 unfold putK storedH;rw [e]
 by_cases q:(atKey xs k).isSome=true
 ·rw [if_pos q,if_pos q]; exact r.repl k ry
 ·rw [if_neg q,if_neg q]; exact Paired.snoc r ⟨rfl,hb,ry⟩
theorem KT.keeps {H H':Hp}{kvs:List (List Key×V)}{xs:List (List Key×Addr×Value)} (r:KT H kvs xs) (ht:∀b ys,H b=some (.tup ys)→H' b=some (.tup ys)):KT H' kvs xs :=
 Paired.mapP r fun _ _ z=>⟨z.1,ht _ _ z.2.1,z.2.2⟩
section
variable {P:Program}{w:World}{H:Hp}{h:Heap}{a:Addr}
end
def Qpv (H:Hp) (a:Addr) (y:V) (r:Option V):Prop :=
 (∃kvs k,Rd H a (.dK kvs)∧y=kV k∧r=Qew kvs k)∨∃kvs k b,Rd H a (.dT kvs)∧y = .ref b∧H b=some (.tup (k.map kV))∧r=Qew kvs k
def QpI (H:Hp) (a:Addr) (y v:V) (H':Hp):Prop :=
 (∃kvs k,H a=some (.dK kvs)∧y=kV k∧kvs.length < sizeLine∧H'=upd H a (.dK (putK kvs k v))) ∨
 ∃kvs k b,H a=some (.dT kvs)∧y = .ref b∧H b=some (.tup (k.map kV))∧kvs.length < sizeLine∧H'=upd H a (.dT (putK kvs k v))
theorem Qpv.k {H:Hp}{a:Addr}{kvs:List (Key×V)}{k:Key} (e:H a=some (.dK kvs)):Qpv H a (kV k) (Qew kvs k):=.inl ⟨kvs,k,.inl e,rfl,rfl⟩
theorem Qpv.t {H:Hp}{a b:Addr}{kvs:List (List Key×V)}{k:List Key} (e:H a=some (.dT kvs)) (eb:H b=some (.tup (k.map kV))):Qpv H a (.ref b) (Qew kvs k):=.inr ⟨kvs,k,b,.inl e,rfl,eb,rfl⟩
theorem QpI.k {H:Hp}{a:Addr}{kvs:List (Key×V)}{k:Key}{v:V} (e:H a=some (.dK kvs)) (hl:kvs.length < sizeLine):QpI H a (kV k) v (upd H a (.dK (putK kvs k v))):=.inl ⟨kvs,k,e,rfl,hl,rfl⟩
theorem QpI.t {H:Hp}{a b:Addr}{kvs:List (List Key×V)}{k:List Key}{v:V} (e:H a=some (.dT kvs)) (eb:H b=some (.tup (k.map kV))) (hl:kvs.length < sizeLine) :
  QpI H a (.ref b) v (upd H a (.dT (putK kvs k v))):=.inr ⟨kvs,k,b,e,rfl,eb,hl,rfl⟩
section
variable {X:Cx}{pins:List (Addr×Obj)}{σ:St}{H:Hp}{s:Shared}{a:Addr}{y v:V}{u r:Value}{o:Option V}{A:Around}{E:Value→Shared→Prop}
theorem Inv.big (I:Inv X pins σ H s):sysModules < s.heap.objs.size:=by
 have h:mainGlobals < s.heap.objs.size:=(I.mod.glob.keeps I.bk).lt;exact Nat.lt_trans (by decide) h
end
section
variable {X:Cx}{pins:List (Addr×Obj)}{σ:St}{H:Hp}{s:Shared}{a:Addr}{kvs:List (Key×V)}{k:Key}{u:Value}{A:Around}{E:Value→Shared→Prop}
end
section
variable {X:Cx}{o i e value:Expr}{pos pos' tpos:Pos}{td ty tv:TE}
end
theorem Qso {P:Program}{w:World}{H:Hp} (h:Heap) (hb:sysModules < h.objs.size):Qb3 P w H (h.push { cls:=.type "dict",data:=.dict #[] }) h.objs.size (.dK []) :=
 ⟨Nat.zero_le _,beq_eq_false_iff_ne.mpr (Ne.symm (zl hb)),[],.nil,Heap.DictOf.new h⟩
def Qvk:TE:=fun _ H Q=>∀p,H p=none→Q (.ref p) (upd H p (.dK []))
section
variable {X:Cx}{pos:Pos}
theorem QrC:PE X (.Dict [] [] pos) Qvk:=fun pins s σ H Q I h =>
 wpAny_Dict_empty ⟨.ref s.heap.objs.size,_,I.laid (a:=s.heap.objs.size) (o:=.dK []) (t':=s.toks) (fun _ _ q=>zk _ q) (zc _) (Qso s.heap I.big),rfl,h _ (I.hok.fresh (zc _))⟩
end
def QnK:List (TE×TE)→St→Hp→(List (V×V)→Hp→Prop)→Prop
 | [],_,H,Q=>Q [] H
 | (tk,tv)::r,σ,H,Q=>tk σ H fun x H1=>tv σ H1 fun y H2=>QnK r σ H2 fun ps H3=>Q ((x,y)::ps) H3
abbrev VV:List (V×V)→List (Value×Value)→Prop:=Paired fun p q=>RelV p.1 q.1∧RelV p.2 q.2
def PPs (X:Cx) (pos:Pos) (keys:List (Option Expr)) (values:List Expr) (trs:List (TE×TE)):Prop :=
 ∀(pins:List (Addr×Obj)) (s:Shared) (σ:St) (H:Hp) (Q:List (V×V)→Hp→Prop),Inv X pins σ H s→QnK trs σ H Q →
  wpAny (model X.prog X.w) X.A (evalPairs (pairTrees keys values X.env pos)) (fun vs s'=>∃ps H',Inv X pins σ H' s'∧VV ps vs∧Q ps H') X.xe s
structure M1 (X:Cx) (o:Expr) (m:Str) (apos:Pos) (e:Expr) (cpos:Pos):Prop where
 base:attributeBase o m X.env (eval o X.env)=eval o X.env
 few:((backTo cpos (starEach [e] X.env)).all (fun x=>!x.1)&&(backToKw cpos (keywordEach [] X.env)).all (fun x=>x.1.isSome)
  && decide (([e]:List Expr).length+([]:List Keyword).length+(if ([]:List Keyword).isEmpty then 0 else 1) < 30))=true
 line:(apos.endLine == cpos.line)=true
 trees:backTo cpos (starEach [e] X.env) = [(false,eval e X.env)]
structure M2 (X:Cx) (o:Expr) (m:Str) (apos:Pos) (e f:Expr) (cpos:Pos):Prop where
 base:attributeBase o m X.env (eval o X.env)=eval o X.env
 few:((backTo cpos (starEach [e,f] X.env)).all (fun x=>!x.1)&&(backToKw cpos (keywordEach [] X.env)).all (fun x=>x.1.isSome)
  && decide (([e,f]:List Expr).length+([]:List Keyword).length+(if ([]:List Keyword).isEmpty then 0 else 1) < 30))=true
 line:(apos.endLine == cpos.line)=true
 trees:backTo cpos (starEach [e,f] X.env) = [(false,eval e X.env),(false,eval f X.env)]
section
variable {X:Cx}{pins:List (Addr×Obj)}{σ:St}{H:Hp}{s:Shared}{a:Addr}{y d:V}{u r:Value}{o:Option V}{A:Around}{E:Value→Shared→Prop}
end
section
variable {X:Cx}{o e f:Expr}{apos cpos:Pos}{td ty tx:TE}
end
section
variable {X:Cx}{pins:List (Addr×Obj)}{σ:St}{H:Hp}{s:Shared}{a:Addr}{kvs:List (Key×V)}{A:Around}{E:Value→Shared→Prop}
end
section
variable {X:Cx}{pins:List (Addr×Obj)}{σ:St}{H:Hp}{s:Shared}{a:Addr}{y:V}{u:Value}{A:Around}{E:Value→Shared→Prop}
end
section
variable {X:Cx}
end
section
variable {κ:Type} [DecidableEq κ]
end
def Qe3 (cells:List (Str×Addr)):List (Str×NameKind)→List (Str×Addr)→List (Str×Addr)
 | [],acc=>acc
 | (n,k)::r,acc=>if k == .free then Qe3 cells r ((n,(cells.lookup n).getD 0)::acc) else Qe3 cells r acc
def QfZ (scope:Scope) (env:Env):List (Str×Addr):=Qe3 env.cells scope.names []
theorem QiW {scope:Scope}{env:Env} (hf:∀y∈scope.names,y.2 = .free→∃c,env.cells.lookup y.1=some c):closureFor scope env=pure (QfZ scope env):=by
 simp only [closureFor,QfZ]
 generalize ([]:List (Str×Addr))=acc
 generalize scope.names=names at hf
 induction names generalizing acc with
 | nil=>rfl
 | cons y r ih =>
  obtain ⟨n,k⟩:=y
  have hr:=fun a=>ih a fun z hz=>hf z (zv _ hz)
  by_cases hk:k = .free
  ·obtain ⟨c,hc⟩:=hf (n,k) zB hk;have hc':env.cells.lookup n=some c:=hc;subst hk;simp only [List.forIn_cons,beq_self_eq_true,if_true,cellOf,hc',pure_bind,bind_assoc,Qe3,Option.getD_some];exact hr _
  ·have hb:(k == NameKind.free)=false:=by simpa using hk
   simp only [List.forIn_cons,hb,Bool.false_eq_true,if_false,pure_bind,bind_assoc,Qe3];exact hr _
theorem Qhs {cells:List (Str×Addr)}{x:Str}{c:Addr}:∀{names:List (Str×NameKind)}{acc:List (Str×Addr)},(Qe3 cells names acc).lookup x=some c→acc.lookup x=some c∨(∃k,(x,k)∈names∧k = .free∧(cells.lookup x).getD 0=c)
 | [],acc,h=>.inl h
 | (n,k)::r,acc,h=>by
  unfold Qe3 at h
  by_cases hk:k = .free
  ·subst hk;simp only [beq_self_eq_true,if_true] at h
   rcases Qhs h with z | ⟨k,hm,q⟩
   ·rw [List.lookup_cons] at z
    by_cases hx:x=n
    ·subst hx;simp at z;exact .inr ⟨.free,zB,rfl,z⟩
    ·have hb:(x == n)=false:=by simpa using hx
     rw [hb] at z;exact .inl z
   ·exact .inr ⟨k,zv _ hm,q⟩
  ·have hb:(k == NameKind.free)=false:=by simpa using hk
   simp only [hb,Bool.false_eq_true,if_false] at h
   rcases Qhs h with z | ⟨k,hm,q⟩
   ·exact .inl z
   ·exact .inr ⟨k,zv _ hm,q⟩
theorem Qgy {cells:List (Str×Addr)}{x:Str}:∀{names:List (Str×NameKind)}{acc:List (Str×Addr)},((∃c,acc.lookup x=some c)∨(x,NameKind.free)∈names)→∃c,(Qe3 cells names acc).lookup x=some c
 | [],acc,h=>by
  rcases h with h | h
  ·exact h
  ·cases h
 | (n,k)::r,acc,h=>by
  unfold Qe3
  by_cases hk:k = .free
  ·subst hk;simp only [beq_self_eq_true,if_true];refine Qgy ?_
   by_cases hx:x=n
   ·subst hx;exact .inl ⟨(cells.lookup x).getD 0,by simp [List.lookup_cons]⟩
   ·have hb:(x == n)=false:=by simpa using hx
    rcases h with ⟨c,h⟩ | h
    ·exact .inl ⟨c,by rw [List.lookup_cons,hb]; exact h⟩
    ·rcases zm.mp h with e | h
     ·cases e; exact absurd rfl hx
     ·exact .inr h
  ·have hb:(k == NameKind.free)=false:=by simpa using hk
   simp only [hb,Bool.false_eq_true,if_false];refine Qgy ?_
   rcases h with h | h
   ·exact .inl h
   ·rcases zm.mp h with e | h
    ·cases e; exact absurd rfl hk
    ·exact .inr h
def Qdb (scope sc0:Scope):List (Str×NameKind) :=
 scope.names.map fun (n,k)=>if (k == .free&&sc0.kind == .function&&sc0.names.lookup n == some .cell) then (n,.cell) else (n,k)
theorem Qj4 {scope sc0:Scope} (hc:∀y∈scope.names,y.2≠.cell) {x:Str}{k:NameKind} (h:(Qdb scope sc0).lookup x=some k) (hk:k = .cell∨k = .free):(x,NameKind.free)∈scope.names:=by
 have hm:=PySem.mem_of_lookup h;unfold Qdb at hm;obtain ⟨⟨n,k0⟩,h1,h2⟩:=zZ.mp hm;dsimp only at h2
 by_cases hb:(k0 == NameKind.free&&sc0.kind == .function&&sc0.names.lookup n == some .cell)=true
 ·rw [if_pos hb] at h2
  have e:k0 = .free:=by
   simp only [zg,beq_iff_eq] at hb;exact hb.1.1
  cases h2;rw [←e]; exact h1
 ·rw [if_neg hb] at h2;cases h2
  rcases hk with e | e
  ·exact absurd e (hc _ h1)
  ·rw [←e]; exact h1
def Qbp (N0 own:List Str) (cap:List Nat):List Str:=own++cap.map fun j=>N0.getD j (Str.ofString "")
def compSt (own:List Str) (cap:List Nat) (σ:St):St:=own.map (fun _=>none)++cap.map fun j=>(σ[j]?).join
def Qia (sc0:Scope) (N0:List Str) (scope:Scope) (own:List Str) (cap:List Nat):Bool :=
 (scope.kind == .function)&&scope.names.all (fun y=>y.2 != .cell)&&scope.names.all (fun y=>y.2 != .local || scope.names.lookup y.1 == some .local) &&
 scope.names.all (fun y=>y.2 != .free || sc0.names.lookup y.1 == some .cell || sc0.names.lookup y.1 == some .free) &&
 cap.all fun j=>decide (j < N0.length)&&scope.names.contains (N0.getD j (Str.ofString ""),NameKind.free)&&((Qdb scope sc0).lookup (N0.getD j (Str.ofString "")) == some .cell || (Qdb scope sc0).lookup (N0.getD j (Str.ofString "")) == some .free)
structure Qfk (sc0:Scope) (N0:List Str) (scope:Scope) (own:List Str) (cap:List Nat):Prop where
 kind:scope.kind = .function
 nocell:∀y∈scope.names,y.2≠.cell
 names:∀y∈scope.names,y.2 = .local→scope.names.lookup y.1=some .local
 free:∀y∈scope.names,y.2 = .free→sc0.names.lookup y.1=some .cell∨sc0.names.lookup y.1=some .free
 cap:∀j∈cap,j < N0.length∧(N0.getD j (Str.ofString ""),NameKind.free)∈scope.names∧((Qdb scope sc0).lookup (N0.getD j (Str.ofString ""))=some .cell∨(Qdb scope sc0).lookup (N0.getD j (Str.ofString ""))=some .free)
theorem Qfk.of {sc0:Scope}{N0:List Str}{scope:Scope}{own:List Str}{cap:List Nat} (h:Qia sc0 N0 scope own cap=true):Qfk sc0 N0 scope own cap:=by
 unfold Qia at h;simp only [zg,ji,beq_iff_eq,bne_iff_ne,ne_eq,Bool.or_eq_true,decide_eq_true_eq,List.contains_iff_mem] at h;obtain ⟨⟨⟨⟨h1,h2⟩,h3⟩,h4⟩,h5⟩:=h;refine ⟨h1,h2,fun y hy e=>?_,fun y hy e=>?_,fun j hj=>?_⟩
 ·rcases h3 y hy with z | z
  ·exact absurd e z
  ·exact z
 ·rcases h4 y hy with (z | z) | z
  ·exact absurd e z
  ·exact .inl z
  ·exact .inr z
 ·obtain ⟨⟨a,b⟩,c⟩:=h5 j hj;exact ⟨a,b,c⟩
def Qbi (X:Cx) (scope:Scope) (C:Addr) (N':List Str) (s:Shared) (H:Hp) (ex:List Addr):Cx where
 prog:=X.prog
 w:=X.w
 K:=X.K
 mg:=X.mg
 base:=X.base
 A:=X.A
 N:=N'
 s₀:=s
 H₀:=H
 env:=compEnvC scope (QfZ scope X.env) C X.env
 outer:=X.stack
 stack:=X.stack
 ex:=ex
 fn:=fun _=>false
 calm:=X.calm
 pn:=[]
 xe:=fun _ _=>False
section
variable {X:Cx}
def Qko (X:Cx) (ifs:List Expr) (t:TT):Prop :=
 ∀(pins:List (Addr×Obj)) (s:Shared) (σ:St) (H:Hp) (Q:Bool→Hp→Prop),Inv X pins σ H s→t σ H Q →
  wpAny (model X.prog X.w) X.A (forIn ifs true fun c r=>if r=true then do let ok ←isTrue c X.env (eval c X.env); pure (ForInStep.yield ok) else pure (ForInStep.yield r)) (TP X pins σ Q) X.xe s
def QxV:TT:=fun _ H Q=>Q true H
theorem Qsu:Qko X [] QxV:=fun _ _ _ H _ I h=>wpAny_tests_nil ⟨H,I,h⟩
end
def Qs0 (J:It) (g:TG) (tt:TT) (te:TE) (Q:List V→Hp→Prop) (σ0:St) (H1:Hp):Prop :=
 ∃W:Nat→Nat→List V→St→Hp→Prop,(∃m,W 0 m [] σ0 H1)∧∀i m ys σ H,W i m ys σ H →
  (J.stop i H∧Q ys H)∨(J.go i H∧ys.length < sizeLine∧∃N:List V→St→Hp→Prop,(∀ys σ' H',N ys σ' H'→∃m',m' < m∧W (i+1) m' ys σ' H')∧∀x H',J.yld i H x H'→g x σ H' fun σ2 H2=>tt σ2 H2 fun b H3 =>
   if b=true then te σ2 H3 fun y H4=>N (ys ++ [y]) σ2 H4 else N ys σ2 H3)
def Qpa (wi:TI) (own:List Str) (cap:List Nat) (g:TG) (tt:TT) (te:TE):TE:=fun σ H Q =>
 wi σ H fun J H1=>Qs0 J g tt te (fun ys H'=>ys.length≤sizeLine∧∀p,H' p=none→Q (.ref p) (upd H' p (.lst ys))) (compSt own cap σ) H1
section
variable {prog:Program}{w:World}{A:Around}{R:Result→Shared→Prop}{s:Shared}
theorem QiY {elt target iter:Expr}{ifs:List Expr}{scope:Scope}{pos:Pos}{it acc:Value}{env:Env} (I:Nat→Shared→Prop)
  (turn:∀n s,I n s→wpAny (model prog w) A (pyNext it) (fun r s₁=>match r with
   | none=>R (.ok .next) s₁
   | some v=>wpAny (model prog w) A (letOwnedTupleGo target it v) (fun _ s₁'=>wpAny (model prog w) A (assign target env v) (fun _ s₂ =>
     wpAny (model prog w) A (forIn ifs true fun c r=>if r=true then do let ok ←isTrue c env (eval c env); pure (ForInStep.yield ok) else pure (ForInStep.yield r)) (fun ok s₃ =>
      if ok=true then wpAny (model prog w) A (eval elt env) (fun x s₄ =>
       wpAny (model prog w) A (call (.builtin "list.append") [acc,x]) (fun _ s₅=>∃m,m < n∧I m s₅) (fun _ _=>False) s₄) (fun _ _=>False) s₃
      else ∃m,m < n∧I m s₃) (fun _ _=>False) s₂) (fun _ _=>False) s₁') (fun _ _=>False) s₁) (fun _ _=>False) s)
  (n:Nat) (h:I n s) :
  codeAny (model prog w) A (.compLoop (.ListComp elt [⟨target,iter,ifs,0⟩] scope pos) 0 it acc env) R s:=by
 refine codeAny_loop rfl I (fun n s hI=>?_) n h;show wpAny _ A ((compTurn (.ListComp elt [⟨target,iter,ifs,0⟩] scope pos) 0 it acc env).onRaise (fun x=>do noteFrame x env; theTreesLotGoes x)) _ _ s;refine wpAny_noted ?_;rw [compTurn_list];refine za (wpAny_standAt (za (zo (turn n s hI) (fun r s₁ h₁=>?_) fun _ _ h'=>h'.elim)))
 cases r with
 | none=>exact zb h₁
 | some v =>
  refine za (zo h₁ (fun _ s₁' h₁'=>?_) fun _ _ h'=>h'.elim);refine za (zo h₁' (fun _ s₂ h₂=>za (zo h₂ (fun ok s₃ h₃=>?_) fun _ _ h'=>h'.elim)) fun _ _ h'=>h'.elim)
  cases ok with
  | false=>exact zb ⟨rfl,h₃⟩
  | true =>
   exact za (za (zo h₃ (fun x s₄ h₄=>za (zo h₄ (fun _ s₅ h₅=>zb (zb ⟨rfl,h₅⟩)) fun _ _ h'=>h'.elim)) fun _ _ h'=>h'.elim))
end
section
variable {X:Cx}{pins:List (Addr×Obj)}{σ:St}{s2:Shared}{H2:Hp}{elt tg iter:Expr}{ifs:List Expr}{scope:Scope}{pos:Pos}{g:TG}{tt:TT}{te:TE}{sc0:Scope}{N0 own:List Str}{cap:List Nat}
 {it:Addr}{fp:List Addr}{tn:Nat→Heap→Prop}{J:It}
theorem Qkd (I2:Inv X pins σ H2 s2) (hsc:X.env.scope=sc0) (ok:Qfk sc0 N0 scope own cap):∀y∈scope.names,y.2 = .free→∃c,X.env.cells.lookup y.1=some c:=fun y hy e=>by
 refine I2.ok.has y.1 ?_;have q:=ok.free y hy e;rw [←hsc] at q;exact q
theorem QcK (I2:Inv X pins σ H2 s2) (hsc:X.env.scope=sc0) (ok:Qfk sc0 N0 scope own cap) {x:Str}{c:Addr} (h:(QfZ scope X.env).lookup x=some c):X.env.cells.lookup x=some c:=by
 rcases Qhs h with z | ⟨k,hm,hk,q⟩
 ·simp at z
 ·obtain ⟨c',e⟩:=Qkd I2 hsc ok (x,k) hm hk;have e':X.env.cells.lookup x=some c':=e;rw [e'] at q;rw [e',←q]; rfl
theorem QqX (I2:Inv X pins σ H2 s2) (hsc:X.env.scope=sc0) (ok:Qfk sc0 N0 scope own cap) (T:Turn X.prog X.w X.K tg J fp it tn) (st2:tn 0 s2.heap) (f2:∀b∈fp,Qfd X pins H2 b)
  (C:Addr) (hC:s2.heap.objs.size≤C):(Qbi X scope C (Qbp N0 own cap) s2 H2 fp).Ok:=by
 have lt:∀b∈fp,b < s2.heap.objs.size:=fun b hb=>by
  obtain ⟨o,e,_⟩:=T.obj 0 _ st2 b hb;exact zd e
 have rel:(relabel scope X.env).names=Qdb scope sc0:=by rw [←hsc]; rfl
 refine ⟨I2.ok.mod,ok.kind,I2.ok.glob,I2.ok.blt,hC,fun x y c h1 h2=>?_,fun x hx=>?_,fun x c hf _=>absurd hf (by simp [Qbi]),I2.ok.hd,I2.ok.frames,.inl rfl,fun b hb=>⟨?_,fun x c h=>?_⟩,I2.bs,zA I2.ok.bsz I2.sz,
  fun b o e hb=>?_,fun b hb hz=>?_,I2.stack,I2.stkFree⟩
 ·exact I2.ok.inj x y c (QcK I2 hsc ok h1) (QcK I2 hsc ok h2)
 ·have hx':(Qdb scope sc0).lookup x=some .cell∨(Qdb scope sc0).lookup x=some .free:=by rw [←rel]; exact hx
  have hm:(x,NameKind.free)∈scope.names:=by
   rcases hx' with q | q
   ·exact Qj4 ok.nocell q (.inl rfl)
   ·exact Qj4 ok.nocell q (.inr rfl)
  exact Qgy (.inr hm)
 ·exact zl (zz (lt b hb) hC)
 ·exact (f2 b hb).2.2.2.2.1 x c (QcK I2 hsc ok h)
 ·rcases (f2 b hb).2.2.2.1 with z | z
  ·exact I2.ok.noex b o e z
  ·exact absurd (zz (zd e) (zA I2.ok.bsz z)) (zM _)
 ·rcases zm.mp (I2.stkSub b hz) with z | z
  ·exact (f2 b hb).2.1 z
  ·exact (f2 b hb).2.2.1 z
theorem QsE (I2:Inv X pins σ H2 s2) (hsc:X.env.scope=sc0) (hN0:X.N=N0) (ok:Qfk sc0 N0 scope own cap) (T:Turn X.prog X.w X.K tg J fp it tn) (st2:tn 0 s2.heap) (f2:∀b∈fp,Qfd X pins H2 b)
  (C:Addr) (hC:s2.heap.objs.size≤C) {h₁:Heap}{tk:Nat}{m:Str→Option Value} (old:∀b o,s2.heap.get? b=some o→h₁.get? b=some o) (hns:h₁.Ns C m) :
  Inv (Qbi X scope C (Qbp N0 own cap) s2 H2 fp) [] (compSt own cap σ) H2 { s2 with heap:=h₁,toks:=tk }:=by
 have rel:(relabel scope X.env).names=Qdb scope sc0:=by rw [←hsc]; rfl
 refine ⟨QqX I2 hsc ok T st2 f2 C hC,rfl,I2.bare,Un.kept old,⟨m,hns,fun i x v e1 e2 _=>?_⟩,fun x c h=>?_,I2.hok.fresh hC,fun x c h=>?_,fun p hp=>absurd (show p∈([]:List (Addr×Obj)) from hp) (by simp),I2.hok.kept old,?_⟩
 ·have e1':(Qbp N0 own cap)[i]? = some x:=e1;unfold Qbp at e1';unfold compSt at e2
  by_cases hi:i < own.length
  ·rw [zt (by simpa using hi),zJ] at e2
   cases q:own[i]? with
   | none=>rw [q] at e2; cases e2
   | some z=>rw [q] at e2; cases e2
  ·rw [zw (by simpa using hi),zJ] at e2;rw [zw (by simpa using hi),zJ] at e1';rw [zD] at e2
   cases q:cap[i - own.length]? with
   | none=>rw [q] at e2; cases e2
   | some j =>
    rw [q] at e1' e2;have ex:N0.getD j (Str.ofString "")=x:=zH e1';have ev:(σ[j]?).join=some v:=zH e2;obtain ⟨hj,hm,hk⟩:=ok.cap j (zN q);rw [ex] at hm hk
    have eN:X.N[j]? = some x:=by
     rw [hN0,zK hj];rw [jf,zK hj] at ex;exact congrArg some ex
    have eσ:σ[j]? = some (some v):=by
     cases z:σ[j]? with
     | none=>rw [z] at ev; cases ev
     | some o=>rw [z] at ev; cases o with
      | none=>cases ev
      | some y=>exact congrArg some ev
    have kf:X.env.kindOf x=some .cell∨X.env.kindOf x=some .free:=by
     have z:=ok.free _ hm rfl;rw [←hsc] at z;exact z
    obtain ⟨m0,hn0,hl⟩:=I2.loc;obtain ⟨u,r,l⟩:=hl j x v eN eσ (kf.elim (fun z=>.inr (.inl z)) fun z=>.inr (.inr z));refine ⟨u,r,.inr ⟨?_,?_⟩⟩
    ·show (relabel scope X.env).names.lookup x=_∨(relabel scope X.env).names.lookup x=_;rw [rel]; exact hk
    ·rcases l with ⟨l,_⟩ | ⟨_,c,hc,⟨o,ho,hd⟩⟩
     ·rcases kf with z | z <;> (rw [z] at l; cases l)
     ·obtain ⟨c',hc'⟩:=Qgy (cells:=X.env.cells) (names:=scope.names) (acc:=[]) (.inr hm);have z:=QcK I2 hsc ok hc';rw [hc] at z;cases z;exact ⟨c,hc',o,old _ _ ho,hd⟩
 ·obtain ⟨v,o,ho,hd⟩:=I2.cell x c (QcK I2 hsc ok h);exact ⟨v,o,old _ _ ho,hd⟩
 ·exact I2.freeC x c (QcK I2 hsc ok h)
 ·show (compSt own cap σ).length=(Qbp N0 own cap).length;unfold compSt Qbp;simp
theorem Qk0 {Q:List V→Hp→Prop}{RR:Value→Addr→Result→Shared→Prop}{E:Value→Shared→Prop} (hc:X.calm=true) (I2:Inv X pins σ H2 s2) (hsc:X.env.scope=sc0) (hN0:X.N=N0) (ok:Qfk sc0 N0 scope own cap)
  (hg:∀C s H ex,PG (Qbi X scope C (Qbp N0 own cap) s H ex) tg g) (ht:∀C s H ex,Qko (Qbi X scope C (Qbp N0 own cap) s H ex) ifs tt) (he:∀C s H ex,PE (Qbi X scope C (Qbp N0 own cap) s H ex) elt te)
  (T:Turn X.prog X.w X.K tg J fp it tn) (st2:tn 0 s2.heap) (f2:∀b∈fp,Qfd X pins H2 b) (hW:Qs0 J g tt te Q (compSt own cap σ) H2)
  (hRR:∀D C oC ys H' s',Inv X (pins ++ [(C,oC)]) σ (upd H' D (.lst ys)) s'→(∀h:Heap,h.get? C=some oC→∃m,h.Ns C m)→Qfd X pins (upd H' D (.lst ys)) C→H' D=none→Q ys H'→RR (.ref D) C (.ok .next) s')
  (hQsz:∀ys H',Q ys H'→ys.length≤sizeLine) :
  wpAny (model X.prog X.w) X.A (newList []) (fun acc s₃=>wpAny (model X.prog X.w) X.A (newFunctionEnv scope X.env.globals (QfZ scope X.env) [] X.env.qual none .none (some X.env)) (fun cenv s₄ =>
   codeAny (model X.prog X.w) X.A (.compStart (.ListComp elt [⟨tg,iter,ifs,0⟩] scope pos) 0 (.ref it) acc { cenv with scope:=relabel scope X.env }) (RR acc cenv.locals) s₄) E s₃) E s2:=by
 refine wpAny_newObj_type (wpAny_newFunctionEnv ok.nocell (by intro y hy; simp at hy) (fun h₁ hns₁ hsb₁=>?_) ok.kind);dsimp only at hns₁ hsb₁ ⊢
 generalize hP2:s2.heap.push { cls:=.type "list",dict:=none,data:=.seq ([]:List Value).toArray }=P2 at hns₁ hsb₁ ⊢
 have hC:P2.objs.size=s2.heap.objs.size+1:=by rw [←hP2,Heap.size_push]
 have hDC:s2.heap.objs.size≠P2.objs.size:=by rw [hC]; exact zl (jd _)
 have hCle:s2.heap.objs.size≤P2.objs.size:=by rw [hC]; exact Nat.le_succ _
 have below:∀b,b < s2.heap.objs.size→b≠P2.objs.size∧b≠s2.heap.objs.size:=fun b hb=>⟨by rw [hC]; exact zl (Nat.lt_succ_of_lt hb),zl hb⟩
 have ltf:∀b∈fp,b < s2.heap.objs.size:=fun b hb=>by
  obtain ⟨o,e,_⟩:=T.obj 0 _ st2 b hb;exact zd e
 have old:∀b o,s2.heap.get? b=some o→h₁.get? b=some o:=fun b o e=>hsb₁.extBut b o (below b (zd e)).1 (zk _ (hP2 ▸ zk _ e))
 have hacc:h₁.PlainList s2.heap.objs.size #[]:=⟨_,hsb₁.extBut _ _ hDC (zk _ (hP2 ▸ zL _ rfl))⟩
 have st₁:tn 0 h₁:=T.keep _ _ _ st2 fun b _ o e=>old b o e
 have hDno:∀b∈fp,s2.heap.objs.size≠b:=fun b hb=>(below b (ltf b hb)).2.symm
 generalize hXe:Qbi X scope P2.objs.size (Qbp N0 own cap) s2 H2 fp=X'
 have loop:∀s₃:Shared,s₃ = { s2 with heap:=h₁,toks:=s2.toks+([]:List (Str×Value)).length } →
   codeAny (model X.prog X.w) X.A (.compLoop (.ListComp elt [⟨tg,iter,ifs,0⟩] scope pos) 0 (.ref it) (.ref s2.heap.objs.size) (compEnvC scope (QfZ scope X.env) P2.objs.size X.env))
    (RR (.ref s2.heap.objs.size) P2.objs.size) s₃:=by
  rintro s₃ rfl;obtain ⟨W,⟨m0,w0⟩,turn⟩:=hW;subst hXe
  have stat:∀{H':Hp}{oD:Obj},(∀b∈fp,H' b=none)→∀b∈fp,Qfd (Qbi X scope P2.objs.size (Qbp N0 own cap) s2 H2 fp) [(s2.heap.objs.size,oD)] H' b:=fun {H' oD} hn b hb =>
   ⟨hn b hb,(below b (ltf b hb)).1,fun z=>by
    rcases zm.mp (I2.stkSub b z) with z | z
    ·exact (f2 b hb).2.1 z
    ·exact (f2 b hb).2.2.1 z,.inl hb,fun x c h=>(f2 b hb).2.2.2.2.1 x c (QcK I2 hsc ok h),fun p hp=>by
    have e:p=(s2.heap.objs.size,oD):=by simpa [Qbi] using hp
    rw [e]; exact hDno b hb⟩
  have notcell:∀x c,(QfZ scope X.env).lookup x=some c→c≠s2.heap.objs.size:=fun x c h z=>by
   obtain ⟨v,o,ho,hd⟩:=I2.cell x c (QcK I2 hsc ok h);exact absurd (zd ho) (by rw [z]; exact zM _)
  have nofs:s2.heap.objs.size∉frs X.stack:=fun z=>by
   rcases zm.mp (I2.stkSub _ z) with z | z
   ·exact absurd I2.lt (by rw [z]; exact zM _)
   ·exact I2.nofs (zc _) z
  have pinD:∀{σ':St}{H':Hp}{s':Shared}{its:Array Value}{k:Nat},Inv (Qbi X scope P2.objs.size (Qbp N0 own cap) s2 H2 fp) [] σ' H' s'→H' s2.heap.objs.size=none →
    s'.heap.get? s2.heap.objs.size=some { cls:=.type "list",data:=.seq its k }→Inv (Qbi X scope P2.objs.size (Qbp N0 own cap) s2 H2 fp) [(s2.heap.objs.size,{ cls:=.type "list",data:=.seq its k })] σ' H' s' :=
   fun {σ' H' s' its k} I hn hd=>I.pins_of fun p hp=>by
    have e:p=(s2.heap.objs.size,{ cls:=.type "list",data:=.seq its k }):=by simpa using hp
    subst e;exact ⟨hd,hn,hDC,nofs,fun v z=>by cases z⟩
  obtain ⟨k0,hk0⟩:=hacc;refine QiY (env:=compEnvC scope (QfZ scope X.env) P2.objs.size X.env)
   (fun n s'=>∃i ys its k σ' H',Inv (Qbi X scope P2.objs.size (Qbp N0 own cap) s2 H2 fp) [(s2.heap.objs.size,{ cls:=.type "list",data:=.seq its k })] σ' H' s'∧tn i s'.heap∧(∀b∈fp,H' b=none)∧QaB ys its.toList∧W i n ys σ' H') ?_ m0
   ⟨0,[],#[],k0,_,H2,pinD (QsE I2 hsc hN0 ok T st2 f2 _ hCle old hns₁) (I2.hok.fresh (zc _)) hk0,st₁,fun b hb=>(f2 b hb).1,.nil,w0⟩
  rintro n s3 ⟨i,ys,its,k,σ3,H3,I3,st3,fr3,hv,w3⟩
  rcases turn i n ys σ3 H3 w3 with ⟨stop,qn⟩ | ⟨go,hsz,N,hN,step⟩
  ·refine thn (T.done (Qbi X scope P2.objs.size (Qbp N0 own cap) s2 H2 fp) rfl rfl rfl hc i _ s3 σ3 H3 _ I3 (stat fr3) st3 stop) fun r s4 ⟨hr,I4⟩=>?_
   subst hr;show RR _ _ (.ok .next) s4;obtain ⟨hd4,hn4,_⟩:=I4.pin (s2.heap.objs.size,{ cls:=.type "list",data:=.seq its k }) (by simp [Qbi]);dsimp only at hd4 hn4;obtain ⟨m4,hns4,_⟩:=id I4.loc;have hns4':s4.heap.Ns P2.objs.size m4:=hns4;obtain ⟨oC,es,ep,hoC,rC⟩:=id hns4';have cne:P2.objs.size≠s2.heap.objs.size:=hDC.symm;have freeC:H3 P2.objs.size=none:=I4.free;have hchC:Qfd X pins (upd H3 s2.heap.objs.size (.lst ys)) P2.objs.size:=I2.fpOk hCle (by rw [Qam cne]; exact freeC)
   have hlen:ys.length=its.size:=by have e:=hv.length; simpa using e
   have I5:Inv X pins σ (upd H3 s2.heap.objs.size (.lst ys)) s4:=by
    refine I2.call' (ch:=fp) I4.os ⟨I4.base.keep,I4.base.slot,fun b o e n hx=>?_,I4.base.there,fun b xs e=>?_,fun b o u e=>?_,fun b ps e=>?_⟩ (fun b u e=>?_) I4.bare fun b hb=>?_
    ·rw [Qam (zl (zd e))]; exact I4.base.free b o e n hx
    ·have q:=I4.base.tups b xs e;rw [Qam (Qax q hn4)]; exact q
    ·have q:=I4.base.frzs b o u e;rw [Qam (Qax q hn4)]; exact q
    ·obtain ⟨more,q⟩:=I4.base.tbls b ps e;exact ⟨more,by rw [Qam (Qax q hn4)]; exact q⟩
    ·by_cases hb:b=s2.heap.objs.size
     ·subst hb;rw [QaE] at e;cases e;exact ⟨hQsz ys H3 qn,its.toList,k,hv,by simpa using hd4⟩
     ·rw [Qam hb] at e
      exact (I4.hok b u e).stay (fun _ _ _ q=>q) (fun c q=>by rw [Qam (Qax q hn4)]; exact q) fun c xs q=>by rw [Qam (Qax q hn4)]; exact q
    ·obtain ⟨_,a2,_,a4,a5,a6⟩:=f2 b hb;exact ⟨a4,a2,a5,a6⟩
   refine hRR s2.heap.objs.size P2.objs.size oC ys H3 s4 (I5.pins_of fun p hp=>?_) (fun h e=>⟨m4,oC,es,ep,e,rC⟩) hchC hn4 qn
   rcases zC.mp hp with z | z
   ·exact I5.pin p (zP _ z)
   ·have e:p=(P2.objs.size,oC):=by simpa using z
    subst e
    exact ⟨hoC,hchC.1,hchC.2.1,hchC.2.2.1,fun v z=>by
     have:=rC.1
     rw [this] at z; cases z⟩
  ·refine thn (T.item (Qbi X scope P2.objs.size (Qbp N0 own cap) s2 H2 fp) rfl rfl rfl hc i _ s3 σ3 H3 _ I3 (stat fr3) st3 go) fun r s4 ⟨u,hr,h4⟩=>?_
   subst hr
   refine thn h4 fun _ s5 ⟨x,H5,I5,r5,y5,st5,fr5⟩=>?_
   have I5':=I5.pinned (stat fr5) (T.obj _ _ st5)
   refine thn (hg _ _ _ _ _ s5 σ3 H5 x u _ I5' r5 (step x H5 y5)) fun _ s6 ⟨σ6,H6,I6,q6⟩=>?_
   refine thn (ht _ _ _ _ _ s6 σ6 H6 _ I6 q6) fun b s7 ⟨H7,I7,q7⟩=>?_
   have keepT:∀{σ':St}{H':Hp}{s':Shared},Inv (Qbi X scope P2.objs.size (Qbp N0 own cap) s2 H2 fp) ([(s2.heap.objs.size,{ cls:=.type "list",data:=.seq its k })]++QjC fp s5.heap) σ' H' s'→tn (i+1) s'.heap∧∀b∈fp,H' b=none:=fun {σ' H' s'} I'=>by
    refine ⟨T.keep _ _ _ st5 fun b hb o e=>(I'.pin (b,o) (zP _ (zP _ (Qgp hb e)))).1,fun b hb=>?_⟩;obtain ⟨o,e,d⟩:=T.obj _ _ st5 b hb;exact (I'.pin (b,o) (zP _ (zP _ (Qgp hb e)))).2.1
   cases b with
   | false =>
    rw [if_neg zh] at q7 ⊢;obtain ⟨m',hm,w7⟩:=hN _ _ _ q7;obtain ⟨a,b⟩:=keepT I7;exact ⟨m',hm,i+1,ys,its,k,σ6,H7,I7.unpinned,a,b,hv,w7⟩
   | true =>
    rw [if_pos rfl] at q7 ⊢
    refine thn (he _ _ _ _ _ s7 σ6 H7 _ I7 q7) fun v s8 ⟨y,H8,I8,r8,q8⟩=>?_
    obtain ⟨m',hm,w8⟩:=hN _ _ _ q8;obtain ⟨a,b⟩:=keepT I8;obtain ⟨hd8,hn8,_⟩:=I8.pin (s2.heap.objs.size,{ cls:=.type "list",data:=.seq its k }) (by simp [Qbi]);dsimp only at hd8 hn8
    have hl:its.size≤sizeLine:=by
     have e:=hv.length;simp at e;omega
    refine wpAny_list_append_plain (hsz:=hl) ⟨k,hd8⟩ fun h9 hl9 hs9=>?_
    obtain ⟨k9,hd9⟩:=hl9
    have I8':Inv (Qbi X scope P2.objs.size (Qbp N0 own cap) s2 H2 fp) [] σ6 H8 s8:=I8.pins_of fun p hp=>absurd hp (by simp)
    have I9:Inv (Qbi X scope P2.objs.size (Qbp N0 own cap) s2 H2 fp) [] σ6 H8 { s8 with heap:=h9 } :=
     I8'.turned (t':=s8.toks) (it:=s2.heap.objs.size) (fun b o hb e=>hs9.extBut b o hb e) hn8 hDC (.inr (zc _)) notcell (fun p hp=>absurd (show p∈([]:List (Addr×Obj)) from hp) (by simp))
    refine ⟨m',hm,i+1,ys ++ [y],its.push v,k9,σ6,H8,pinD I9 hn8 hd9,T.keep _ _ _ a fun b hb o e=>hs9.extBut b o (hDno b hb).symm e,b,?_,w8⟩;rw [Array.toList_push];exact hv.append (.cons r8 .nil)
 exact codeAny_compStart_list (loop _ rfl) (T.self _ 0 _ _ _ st₁ (loop _ rfl))
theorem Qtw {wi:TI} (sc0:Scope) (N0 own:List Str) (cap:List Nat) (hc:X.calm=true) (hi:PI X tg iter wi)
  (hg:∀C s H ex,PG (Qbi X scope C (Qbp N0 own cap) s H ex) tg g) (ht:∀C s H ex,Qko (Qbi X scope C (Qbp N0 own cap) s H ex) ifs tt) (he:∀C s H ex,PE (Qbi X scope C (Qbp N0 own cap) s H ex) elt te)
  (hsc:X.env.scope=sc0:=by rfl) (hN0:X.N=N0:=by rfl) (ok:Qia sc0 N0 scope own cap=true:=by decide +kernel) (hs:∀x,foldedSetIterable iter X.env x=pure x:=by intro _; rfl) :
  PE X (.ListComp elt [⟨tg,iter,ifs,0⟩] scope pos) (Qpa wi own cap g tt te):=by
 intro pins s σ H Q I h;have ok:=Qfk.of ok;rw [eval_ListComp];refine wpAny_comprehension_free (use:=none) rfl hs (QiW (Qkd I hsc ok)) ok.kind ok.names (thn (hi pins s σ H _ I h) fun xv s1 h1=>thn h1 fun itv s2 h2=>?_);obtain ⟨it,fp,tn,J,H2,e,I2,T,st2,f2,hW⟩:=h2;subst e
 refine Qk0 (RR:=fun acc C=>compPost (model X.prog X.w) X.A X.xe none (EP X pins σ Q) acc C) hc I2 hsc hN0 ok hg ht he T st2 f2 hW (fun D C oC ys H' s' I' hns fpC hD q=>?_) fun ys H' q=>q.1
 obtain ⟨hC,hCn,_⟩:=I'.pin (C,oC) (by simp);obtain ⟨m,hm⟩:=hns _ hC;refine ⟨m,hm,fun h' hs'=>⟨.ref D,upd H' D (.lst ys),?_,rfl,q.2 D hD⟩⟩;obtain ⟨f0,f1,f2',f3,f4,f5⟩:=fpC;exact I'.unpinned.turned (t':=s'.toks) (it:=C) (fun b o hb e=>hs'.extBut b o hb e) f0 f1 f3 f4 f5
theorem Qtc {wi:TI}{i:Nat}{x:Str}{pos' spos:Pos} (sc0:Scope) (N0 own:List Str) (cap:List Nat) (hN:X.N.Nodup) (hx:X.N[i]? = some x) (hl:Loc X.env.scope x) (hc:X.calm=true) (hi:PI X tg iter wi)
  (hg:∀C s H ex,PG (Qbi X scope C (Qbp N0 own cap) s H ex) tg g) (ht:∀C s H ex,Qko (Qbi X scope C (Qbp N0 own cap) s H ex) ifs tt) (he:∀C s H ex,PE (Qbi X scope C (Qbp N0 own cap) s H ex) elt te)
  (hsw:swapsWith (.ListComp elt [⟨tg,iter,ifs,0⟩] scope pos) (some (.Name x pos')) spos.line X.env=pure true:=by rfl)
  (hf:X.fn x=true∨X.env.scope.names.lookup x=some .local:=by first | exact .inl rfl | exact .inr rfl | assumption)
  (hsc:X.env.scope=sc0:=by rfl) (hN0:X.N=N0:=by rfl) (ok:Qia sc0 N0 scope own cap=true:=by decide +kernel) (hs:∀x,foldedSetIterable iter X.env x=pure x:=by intro _; rfl) :
  PS X (.Assign [.Name x pos'] (.ListComp elt [⟨tg,iter,ifs,0⟩] scope pos) spos) (QnN (Qpa wi own cap g tt te) (QkK i)):=by
 intro pins s σ H D I h;have ok:=Qfk.of ok;rw [exec_Assign_Name_used _ _ _ _ hsw];refine za (wpAny_standAt (za ?_));show wpAny _ X.A (do let _ ←comprehension (.ListComp elt [⟨tg,iter,ifs,0⟩] scope pos) scope X.env _ (newList []) false (eval iter X.env) (some (assign (.Name x pos') X.env))) _ _ s
 refine za (zo (wpAny_comprehension_free (use:=some (assign (.Name x pos') X.env)) (Q:=fun _ s'=>SP X pins D .next s') rfl hs (QiW (Qkd I hsc ok)) ok.kind ok.names
  (thn (hi pins s σ H _ I h) fun xv s1 h1=>thn h1 fun itv s2 h2=>?_)) (fun _ s' hq=>zb (zb hq)) fun _ _ e=>e)
 obtain ⟨it,fp,tn,J,H2,e,I2,T,st2,f2,hW⟩:=h2;subst e
 refine Qk0 (RR:=fun acc C=>compPost (model X.prog X.w) X.A X.xe (some (assign (.Name x pos') X.env)) (fun _ s'=>SP X pins D .next s') acc C) hc I2 hsc hN0 ok hg ht he T st2 f2 hW (fun Da C oC ys H' s' I' hns fpC hD q=>?_) fun ys H' q=>q.1
 show wpAny _ X.A (assign (.Name x pos') X.env (.ref Da)) _ _ _;refine wpAny_assign_Name (QiE (v:=.ref Da) I' hN hx hl rfl (fun s'' I''=>?_) hf);obtain ⟨hC,hCn,_⟩:=I''.pin (C,oC) (by simp);obtain ⟨m,hm⟩:=hns _ hC;refine ⟨m,hm,fun h' hs'=>⟨σ.set i (some (.ref Da)),upd H' Da (.lst ys),?_,q.2 Da hD⟩⟩;obtain ⟨f0,f1,f2',f3,f4,f5⟩:=fpC;exact I''.unpinned.turned (t':=s''.toks) (it:=C) (fun b o hb e=>hs'.extBut b o hb e) f0 f1 f3 f4 f5
end
def Can (P:Program) (w:World) (K:PySem.W.Frag) (mg:Str→Option Value) (base:Heap) (x:Str) (ps:List Str) (k:Nat) (sp:Sp):Prop :=
 ∃f fd,mg x=some (.ref f)∧PySem.W.keepIn K (.ref f)=true∧Binds K fd ps []∧QbH P w K mg base CX0 k f fd ps sp∧∃oc od osl,K.lookup f=some ⟨oc,od,.func fd,osl⟩
def Def (K:PySem.W.Frag) (mg:Str→Option Value) (x:Str) (st:Stmt):Prop:=∃f fd,mg x=some (.ref f)∧Fun K x x st f fd
section
variable {P:Program}{w:World}{K:PySem.W.Frag}{mg:Str→Option Value}{base:Heap}
theorem Can.mono {x:Str}{ps:List Str}{j k:Nat}{sp:Sp} (c:Can P w K mg base x ps j sp) (h:j≤k):Can P w K mg base x ps k sp :=
 let ⟨f,fd,a,b,d,e,g⟩:=c; ⟨f,fd,a,b,d,e.mono h,g⟩
theorem Def.can {x:Str}{st:Stmt}{N ps:List Str}{k:Nat}{sp:Sp} (D:Def K mg x st) (S:QaA N ps (Qai st))
  (hb:∀(kV doc pm:Value) (an:Option Addr) (cdv ct:Value) (us:List Value),us.length=ps.length→bindArgs (PySem.W.fnOf x x (QbQ st) (QaX st) (Qai st) .none kV doc pm an cdv ct) ⟨us,[]⟩=pure (ps.zip us))
  (len:∀vs H Q E,sp vs H Q E→vs.length=ps.length)
  (hbody:∀(f:Addr) (cdv:Value) (A:Around) (outer:List Env) (s:Shared) (H:Hp) (vs:List V) (Q:VK) (E:XK),QaH k (A.deeper (envOfC x (Qai st) s.heap.objs.size f cdv))→sp vs H Q E →
   ∃t,PSs (Qcw CX0 P w K mg base N x (Qai st) f cdv A outer s H E).nox (QaX st) t∧t { nx:=fun _ H'=>Q .non H',rt:=Q } (start N vs) H):Can P w K mg base x ps (k+1) sp:=by
 obtain ⟨f,fd,hm,F⟩:=D;obtain ⟨oc,od,_,_,_,_,_,_,osl,_,lk,_⟩:=F.ex;exact ⟨f,fd,hm,F.kp,F.binds hb,F.ok S len fun cdv A outer s H vs Q E hr h=>hbody f cdv A outer s H vs Q E hr h,oc,od,osl,lk⟩
end
section
variable {X:Cx}{k:Nat}{x:Str}{ps:List Str}{sp:Sp}{p pos:Pos}{e:Expr}{es:List Expr}{t:TA}
theorem Quw (C:Can X.prog X.w X.K X.mg X.base x ps k sp) (hr:QaH k X.A) (ha:PA X (e::es) t) (hg:Gl X x:=by rfl) (hdb:(x == ("__debug__":Str))=false:=by decide)
  (he:starEach (e::es) X.env=(false,eval e X.env)::starEach es X.env:=by rfl) (hpl:(backTo pos (starEach es X.env)).any (·.1)=false:=by rfl) :
  PE X (.Call (.Name x p) (e::es) [] pos) (Qmn sp [] E0 t):=by
 obtain ⟨f,fd,hm,hk,hb,F,_⟩:=C;exact Qog F hr hg hm hk hb .nil QkX ha hdb he hpl
end
theorem Same.seqT {K:PySem.W.Frag}{H H':Hp}{a:Addr}{xs:List V} (e:Same H H') (h:SqT K H a xs):SqT K H' a xs:=by
 rcases h with (h | ⟨o,h⟩) | h
 ·exact .inl (.inl (e _ _ h))
 ·exact .inl (.inr ⟨o,e _ _ h⟩)
 ·exact .inr h
theorem Same.upd {H:Hp}{a:Addr}{o:HO} (h:H a=none):Same H (upd H a o):=fun b u e=>by rw [Qam (Qax e h)]; exact e
mutual
def Rep (K:PySem.W.Frag) (H:Hp):V→PyData→Prop
 | v,.none=>v = .non
 | v,.bool b=>v = .bl b
 | v,.int i=>v = .int i
 | v,.str x=>v = .str x
 | v,.list ds=>∃a xs,v = .ref a∧SqL K H a xs∧QaG K H xs ds
 | v,.tuple ds=>∃a xs,v = .ref a∧SqT K H a xs∧QaG K H xs ds
 | _,.dict _=>False
def QaG (K:PySem.W.Frag) (H:Hp):List V→List PyData→Prop
 | xs,[]=>xs = []
 | xs,d::ds=>∃x r,xs=x::r∧Rep K H x d∧QaG K H r ds
end
mutual
theorem Rep.mono {K:PySem.W.Frag}{H H':Hp} (e:Same H H'):∀(d:PyData) {v:V},Rep K H v d→Rep K H' v d
 | .none,v,h=>by rw [Rep] at h ⊢; exact h
 | .bool b,v,h=>by rw [Rep] at h ⊢; exact h
 | .int i,v,h=>by rw [Rep] at h ⊢; exact h
 | .str x,v,h=>by rw [Rep] at h ⊢; exact h
 | .list ds,v,h=>by
  rw [Rep] at h ⊢;obtain ⟨a,xs,h1,h2,h3⟩:=h;exact ⟨a,xs,h1,e.seq h2,QaG.mono e ds h3⟩
 | .tuple ds,v,h=>by
  rw [Rep] at h ⊢;obtain ⟨a,xs,h1,h2,h3⟩:=h;exact ⟨a,xs,h1,e.seqT h2,QaG.mono e ds h3⟩
 | .dict _,v,h=>by rw [Rep] at h; exact h.elim
theorem QaG.mono {K:PySem.W.Frag}{H H':Hp} (e:Same H H'):∀(ds:List PyData) {xs:List V},QaG K H xs ds→QaG K H' xs ds
 | [],xs,h=>by rw [QaG] at h ⊢; exact h
 | d::ds,xs,h=>by
  rw [QaG] at h ⊢;obtain ⟨x,r,h1,h2,h3⟩:=h;exact ⟨x,r,h1,Rep.mono e d h2,QaG.mono e ds h3⟩
end
theorem QaG.nil {K:PySem.W.Frag}{H:Hp}:QaG K H [] []:=by rw [QaG]
theorem QaG.cons {K:PySem.W.Frag}{H:Hp}{x:V}{xs:List V}{d:PyData}{ds:List PyData} (h:Rep K H x d) (hs:QaG K H xs ds):QaG K H (x::xs) (d::ds):=by
 rw [QaG]; exact ⟨x,xs,rfl,h,hs⟩
theorem QaG.un {K:PySem.W.Frag}{H:Hp}{xs:List V}{d:PyData}{ds:List PyData} (h:QaG K H xs (d::ds)):∃x r,xs=x::r∧Rep K H x d∧QaG K H r ds:=by rw [QaG] at h; exact h
theorem QaG.un0 {K:PySem.W.Frag}{H:Hp}{xs:List V} (h:QaG K H xs []):xs = []:=by rw [QaG] at h; exact h
theorem Rep.unL {K:PySem.W.Frag}{H:Hp}{v:V}{ds:List PyData} (h:Rep K H v (.list ds)):∃a xs,v = .ref a∧SqL K H a xs∧QaG K H xs ds:=by rw [Rep] at h; exact h
theorem Rep.unT {K:PySem.W.Frag}{H:Hp}{v:V}{ds:List PyData} (h:Rep K H v (.tuple ds)):∃a xs,v = .ref a∧SqT K H a xs∧QaG K H xs ds:=by rw [Rep] at h; exact h
theorem Rep.unS {K:PySem.W.Frag}{H:Hp}{v:V}{x:Str} (h:Rep K H v (.str x)):v = .str x:=by rw [Rep] at h; exact h
theorem Rep.unI {K:PySem.W.Frag}{H:Hp}{v:V}{x:Int} (h:Rep K H v (.int x)):v = .int x:=by rw [Rep] at h; exact h
theorem Rep.s {K:PySem.W.Frag}{H:Hp}{x:Str}:Rep K H (.str x) (.str x):=by rw [Rep]
theorem Rep.i {K:PySem.W.Frag}{H:Hp}{x:Int}:Rep K H (.int x) (.int x):=by rw [Rep]
theorem Rep.b {K:PySem.W.Frag}{H:Hp}{x:Bool}:Rep K H (.bl x) (.bool x):=by rw [Rep]
theorem QaG.length {K:PySem.W.Frag}{H:Hp}:∀{ds:List PyData}{xs:List V},QaG K H xs ds→xs.length=ds.length
 | [],xs,h=>by rw [QaG] at h; rw [h]; rfl
 | d::ds,xs,h=>by
  rw [QaG] at h;obtain ⟨x,r,rfl,_,h3⟩:=h;simp [QaG.length h3]
theorem QaG.get {K:PySem.W.Frag}{H:Hp}:∀{ds:List PyData}{xs:List V}{i:Nat}{x:V},QaG K H xs ds→xs[i]? = some x→∃d,ds[i]? = some d∧Rep K H x d
 | [],xs,i,x,h,e=>by rw [QaG] at h; rw [h] at e; simp at e
 | d::ds,xs,i,x,h,e=>by
  rw [QaG] at h;obtain ⟨y,r,rfl,h2,h3⟩:=h
  cases i with
  | zero=>simp at e; subst e; exact ⟨d,rfl,h2⟩
  | succ i =>
   obtain ⟨d',e',q⟩:=QaG.get (i:=i) (x:=x) h3 (by simpa using e);exact ⟨d',by simpa using e',q⟩
theorem QaG.snoc {K:PySem.W.Frag}{H:Hp}{x:V}{d:PyData} (hx:Rep K H x d):∀{ds:List PyData}{xs:List V},QaG K H xs ds→QaG K H (xs ++ [x]) (ds ++ [d])
 | [],xs,h=>by rw [QaG] at h; rw [h]; exact QaG.cons hx QaG.nil
 | e::ds,xs,h=>by
  rw [QaG] at h;obtain ⟨y,r,rfl,h2,h3⟩:=h;exact QaG.cons h2 (QaG.snoc hx h3)
theorem QaG.append {K:PySem.W.Frag}{H:Hp}{ys:List V}{es:List PyData} (hy:QaG K H ys es):∀{ds:List PyData}{xs:List V},QaG K H xs ds→QaG K H (xs++ys) (ds++es)
 | [],xs,h=>by rw [QaG] at h; rw [h]; exact hy
 | e::ds,xs,h=>by
  rw [QaG] at h;obtain ⟨y,r,rfl,h2,h3⟩:=h;exact QaG.cons h2 (QaG.append hy h3)
theorem QaG.take {K:PySem.W.Frag}{H:Hp}:∀{ds:List PyData}{xs:List V} (n:Nat),QaG K H xs ds→QaG K H (xs.take n) (ds.take n)
 | _,_,0,_=>by simpa using QaG.nil
 | [],xs,n+1,h=>by rw [QaG] at h; rw [h]; simpa using QaG.nil
 | d::ds,xs,n+1,h=>by
  rw [QaG] at h;obtain ⟨y,r,rfl,h2,h3⟩:=h;exact QaG.cons h2 (QaG.take n h3)
theorem QaG.drop {K:PySem.W.Frag}{H:Hp}:∀{ds:List PyData}{xs:List V} (n:Nat),QaG K H xs ds→QaG K H (xs.drop n) (ds.drop n)
 | _,_,0,h=>by simpa using h
 | [],xs,n+1,h=>by rw [QaG] at h; rw [h]; simpa using QaG.nil
 | d::ds,xs,n+1,h=>by
  rw [QaG] at h;obtain ⟨y,r,rfl,h2,h3⟩:=h;exact QaG.drop n h3
section
variable {X:Cx}{pins:List (Addr×Obj)}{σ:St}{H:Hp}{s:Shared}
mutual
theorem Rep.reads (I:Inv X pins σ H s):∀(d:PyData) {v:V}{u:Value},Rep X.K H v d→RelV v u→∃as,Reads s.heap u d as
 | .none,v,u,h,r=>by rw [Rep] at h; subst h; cases (show u = .none from r); exact ⟨_,.none⟩
 | .bool b,v,u,h,r=>by rw [Rep] at h; subst h; cases (show u = .bool b from r); exact ⟨_,.bool b⟩
 | .int i,v,u,h,r=>by rw [Rep] at h; subst h; obtain ⟨t,rfl⟩:=(show ∃t,u = .int i t from r); exact ⟨_,.int i t⟩
 | .str x,v,u,h,r=>by rw [Rep] at h; subst h; obtain ⟨t,rfl⟩:=(show ∃t,u = .str x t from r); exact ⟨_,.str x t⟩
 | .list ds,v,u,h,r=>by
  rw [Rep] at h;obtain ⟨a,xs,rfl,h2,h3⟩:=h;cases (show u = .ref a from r);obtain ⟨its,rv,pl,_⟩:=I.list h2;obtain ⟨as,q⟩:=QaG.reads I ds h3 rv;obtain ⟨o,ho,hc,n,hd⟩:=pl.isList;exact ⟨_,.list ho hc hd (by simpa using q)⟩
 | .tuple ds,v,u,h,r=>by
  rw [Rep] at h;obtain ⟨a,xs,rfl,h2,h3⟩:=h;cases (show u = .ref a from r);obtain ⟨its,rv,pl,_⟩:=I.tuple h2;obtain ⟨as,q⟩:=QaG.reads I ds h3 rv;obtain ⟨o,ho,hc,n,hd⟩:=pl;exact ⟨_,.tuple ho hc hd (by simpa using q)⟩
 | .dict _,v,u,h,r=>by rw [Rep] at h; exact h.elim
theorem QaG.reads (I:Inv X pins σ H s):∀(ds:List PyData) {xs:List V}{us:List Value},QaG X.K H xs ds→QaB xs us→∃as,ReadsAll s.heap us ds as
 | [],xs,us,h,r=>by rw [QaG] at h; subst h; cases r; exact ⟨_,.nil⟩
 | d::ds,xs,us,h,r=>by
  rw [QaG] at h;obtain ⟨x,rest,rfl,h2,h3⟩:=h
  cases r with
  | cons r1 r2 =>
   obtain ⟨as,q⟩:=Rep.reads I d h2 r1;obtain ⟨bs,q'⟩:=QaG.reads I ds h3 r2;exact ⟨_,.cons q q'⟩
end
end
def okD (d:PyData):Bool:=d.canLay0&&decide (d.depth≤60)
def QvK (K:PySem.W.Frag) (neg:Bool):R2:=fun x y H Q=>∃d e,Rep K H x d∧Rep K H y e∧okD d=true∧okD e=true∧Q (.bl (if neg then !PyData.eqv d e else PyData.eqv d e)) H
section
variable {X:Cx}
theorem QuY {k:Nat} (hr:QaH k X.A):OpR X (compareOp .Eq) (QvK X.K false):=by
 intro pins s σ H x y v u Q I rx ry h;obtain ⟨d,e,h1,h2,k1,k2,q⟩:=h;obtain ⟨as,r1⟩:=Rep.reads I d h1 rx;obtain ⟨bs,r2⟩:=Rep.reads I e h2 ry;unfold okD at k1 k2;simp only [zg,decide_eq_true_eq] at k1 k2;exact SeqAt.compareEq_reads r1 r2 k1.1 k2.1 (by have:=hr.units; omega) ⟨.bl _,H,I,rfl,q⟩
theorem Qvb {k:Nat} (hr:QaH k X.A):OpR X (compareOp .NotEq) (QvK X.K true):=by
 intro pins s σ H x y v u Q I rx ry h;obtain ⟨d,e,h1,h2,k1,k2,q⟩:=h;obtain ⟨as,r1⟩:=Rep.reads I d h1 rx;obtain ⟨bs,r2⟩:=Rep.reads I e h2 ry;unfold okD at k1 k2;simp only [zg,decide_eq_true_eq] at k1 k2;exact SeqAt.compareNe_reads r1 r2 k1.1 k2.1 (by have:=hr.units; omega) ⟨.bl _,H,I,rfl,q⟩
end
def S (l:List Nat):Str:=⟨l.toArray⟩
theorem Qgx (l:List Nat):(S l).cps.toList=l:=by simp [S]
theorem Qb4 (l:List Nat):(S l).length=l.length:=by simp [S,Str.length]
theorem QrE (a b:List Nat):S a++S b=S (a++b):=by
 show Str.mk _=Str.mk _;simp [S]
theorem Qww {a b:List Nat} (h:S a=S b):a=b:=by have:=congrArg (fun x:Str=>x.cps.toList) h; simpa [Qgx] using this
section
variable {X:Cx}
theorem QqC:OpR X (compareOp .LtE) (fun x y H Q=>∃i j,x = .str i∧y = .str j∧Q (.bl (!decide (j.cps.toList < i.cps.toList))) H):=by
 intro pins s σ H x y v u Q I rx ry h;obtain ⟨i,j,rfl,rfl,q⟩:=h;obtain ⟨t,rfl⟩:=rx;obtain ⟨t',rfl⟩:=ry;exact P.le_str ⟨.bl _,H,I,rfl,q⟩
theorem Qqo:OpR X (compareOp .In) (fun x y H Q=>∃c l,x = .str (S [c])∧y = .str (S l)∧Q (.bl (decide (c∈l))) H):=by
 intro pins s σ H x y v u Q I rx ry h;obtain ⟨c,l,rfl,rfl,q⟩:=h;refine QqL pins s σ H _ _ v u Q I rx ry ⟨S [c],S l,rfl,rfl,?_⟩;have e:=PySem.StrLaws.found_one (S l) c;rw [Qgx] at e;show Q (.bl (!(Builtin.Str.occurrences (S l) (S [c]) 0 (S l).length 1).isEmpty)) H;rw [show S [c]=⟨#[c]⟩ from rfl,e];exact q
def Its (l:List Nat):It:=⟨fun i _=>i < l.length,fun i H x H'=>H'=H∧∃c,l[i]? = some c∧x = .str (S [c]),fun i _=>l.length≤i⟩
theorem QsC {P:Program}{w:World}{K:PySem.W.Frag}{tg:Expr} (l:List Nat) (it:Addr) (t:Tok):Turn P w K tg (Its l) [it] it (fun i h=>h.IsStrIter it "str_ascii_iterator" (S l) t i) where
 mem:=by simp
 obj:=fun i h st b hb=>by
  have e:b=it:=by simpa using hb
  subst e;obtain ⟨o,e,c,d⟩:=st;exact ⟨o,e,fun v z=>by rw [d] at z; cases z⟩
 keep:=fun i h h' st k=>let ⟨o,ho,r⟩:=st; ⟨o,k it (by simp) o ho,r⟩
 item:=by
  intro X hP hw hK hc i pins s σ H E I hf st hg;subst hP hw hK;obtain ⟨f0,f1,f2,f3,f4,f5⟩:=hf it (by simp);have hg':i < l.length:=hg
  refine wpAny_pyNext_ascii_item st (c:=l[i]) (by simp [S,hg']) fun h' st' sb=>?_
  have I1:Inv X pins σ H { s with heap:=h',toks:=s.toks+1 }:=I.turned (fun b o hb e=>(sb.2 b hb).trans e) f0 f1 f3 f4 f5;obtain ⟨o,e,c,d⟩:=id st';exact ⟨_,rfl,Qmo (s:={ s with heap:=h',toks:=s.toks+1 }) e c d (by decide) ⟨.str (S [l[i]]),H,I1,⟨_,rfl⟩,⟨rfl,l[i],by simp [hg'],rfl⟩,st',fun b hb=>(hf b hb).1⟩⟩
 done:=by
  intro X hP hw hK hc i pins s σ H E I hf st hg;subst hP hw hK;obtain ⟨f0,f1,f2,f3,f4,f5⟩:=hf it (by simp);have hg':l.length≤i:=hg
  exact wpAny_pyNext_ascii_end (I.ok.hd hc) st (by simp [S,hg']) fun h' eb=>⟨rfl,I.turned (t':=s.toks) (fun b o hb e=>eb b o hb e) f0 f1 f3 f4 f5⟩
 self:=fun _ _ _ _ _ st h=>wpAny_pyIter_striter_ascii st h
def ascii (l:List Nat):Bool:=l.all (· < 128)
def QxD (tl:TE):TI:=fun σ H R=>tl σ H fun x H1=>∃l,x = .str (S l)∧ascii l=true∧R (Its l) H1
theorem Qu5 {tg e:Expr}{tl:TE} (hl:PE X e tl):PI X tg e (QxD tl):=by
 intro pins s σ H R I h
 refine thn (hl pins s σ H _ I h) fun v s1 ⟨x,H1,I1,r1,q1⟩=>?_
 obtain ⟨l,e,ha,q⟩:=q1;subst e;obtain ⟨t,rfl⟩:=r1;refine wpAny_pyIter_ascii (by simpa [S,ascii] using ha) ?_;refine ⟨s1.heap.objs.size,[s1.heap.objs.size],_,_,H1,rfl,I1.kept (t':=s1.toks) fun b o e=>zk _ e,QsC l _ t,⟨_,zL _ rfl,rfl,rfl⟩,fun b hb=>?_,q⟩
 have e:b=s1.heap.objs.size:=by simpa using hb
 subst e;exact I1.fpOk (zc _) (I1.hok.fresh (zc _))
end
structure Blt (mg:Str→Option Value):Prop where
 len_:mg "len" = none
 isinstance_:mg "isinstance" = none
 all_:mg "all" = none
 sum_:mg "sum" = none
 max_:mg "max" = none
 min_:mg "min" = none
 int_:mg "int" = none
 str_:mg "str" = none
 bool_:mg "bool" = none
 list_:mg "list" = none
 tuple_:mg "tuple" = none
 dict_:mg "dict" = none
 range_:mg "range" = none
 enumerate_:mg "enumerate" = none
 zip_:mg "zip" = none
section
variable {X:Cx}
theorem Qm4 {x:Str}{v:V}{pos:Pos} (h:∃u,X.mg x=some u∧RelV v u) (hg:Gl X x:=by rfl) (hd:(x == ("__debug__":Str))=false:=by decide):PE X (.Name x pos) (tC v):=by
 obtain ⟨u,hm,r⟩:=h;exact Qls hg hm r hd
end
def Qdm {α:Type} (l:List α) (lo hi:Option Int):List α:=(l.drop (HT.sIx l.length 0 lo)).take (HT.sIx l.length l.length hi - HT.sIx l.length 0 lo)
theorem QoY (l:List Nat) (lo hi:Option Int):Txt.slice (S l) lo hi=S (Qdm l lo hi):=by
 obtain ⟨h1,h2,h3⟩:=Qjo lo hi l.length
 have e:Builtin.Str.strSliceIndices lo hi 1 (S l).length=(List.range (HT.sIx l.length l.length hi - HT.sIx l.length 0 lo)).map (HT.sIx l.length 0 lo + ·):=by
  rw [Qb4];show sliceRange (sliceBounds lo hi none l.length).1 (sliceBounds lo hi none l.length).2.1 (sliceBounds lo hi none l.length).2.2=_;rw [h1,h2,h3,sliceRange_one]
 unfold Txt.slice;rw [e,pick_run,Qgx]
 split
 ·rename_i h
  have hl:HT.sIx l.length l.length hi - HT.sIx l.length 0 lo=l.length:=by simpa [Qb4] using h
  have hle:HT.sIx l.length l.length hi≤l.length:=HT.sIx_le _ _ (zc _) hi;have hlo:HT.sIx l.length 0 lo≤l.length:=HT.sIx_le _ _ (Nat.zero_le _) lo
  have h0:HT.sIx l.length 0 lo=0:=by omega
  have h1:HT.sIx l.length l.length hi=l.length:=by omega
  unfold Qdm;rw [h0,h1];simp
 ·rfl
section
variable {X:Cx}
def Qxr:V→Option Int→Option Int→Hp→VK→Prop:=fun x lo hi H Q=>∃l,x = .str (S l)∧l.length≤sizeLine∧Q (.str (S (Qdm l lo hi))) H
theorem part_of {v:Value}{o:Option Int} (p:IsPart v o):∃q:Option (Int×Tok),v=partValue q∧q.map (·.1)=o:=by
 cases p with
 | none=>exact ⟨none,rfl,rfl⟩
 | int i t=>exact ⟨some (i,t),rfl,rfl⟩
theorem QvO:SlR X Qxr:=by
 intro pins s σ H x v vl vu lo hi sl Q I rx hs pl pu h;obtain ⟨l,rfl,hz,q⟩:=h;obtain ⟨t,rfl⟩:=rx;obtain ⟨ql,rfl,e1⟩:=part_of pl;obtain ⟨qu,rfl,e2⟩:=part_of pu;refine ⟨"str",_,F.slot_str_getitem.lookup,typeIs_str _ _ _,?_⟩;refine wpAny_getItem_str_slice (l:=ql) (u:=qu) (st:=none) hs rfl ?_;have key:(if ((1:Int) == 1&&(Builtin.Str.strSliceIndices lo hi 1 (S l).length).length == (S l).length)=true then S l else ⟨((Builtin.Str.strSliceIndices lo hi 1 (S l).length).filterMap ((S l).cps[·]?)).toArray⟩)=S (Qdm l lo hi):=QoY l lo hi;unfold sliceMade slicePicked;rw [e1,e2];refine post_val_or_str ⟨?_,fun t' k=>?_⟩
 ·show (Txt.slice (S l) lo hi).length≤_;exact zA (Txt.slice_le _ _ _) (by rw [Qb4]; exact hz)
 ·have e3:=QoY l lo hi;unfold Txt.slice at e3;show EP X pins σ Q (.str (if ((1:Int) == 1&&(Builtin.Str.strSliceIndices lo hi 1 (S l).length).length == (S l).length)=true then S l else ⟨((Builtin.Str.strSliceIndices lo hi 1 (S l).length).filterMap ((S l).cps[·]?)).toArray⟩) t') { s with toks:=k };rw [e3];exact ⟨.str _,H,I.tok k,⟨t',rfl⟩,q⟩
end
namespace HT2
theorem getItem_tuple_whole {prog:Program}{w:World}{A:Around}{E:Value→Shared→Prop}{s:Shared}{t sl:Addr}{items:Array Value}{vl vu:Value}{lo hi:Option Int}{Q:Value→Shared→Prop} (ht:IsTup s.heap t items) (hs:s.heap.IsSliceOf sl vl vu .none) (pl:IsPart vl lo) (pu:IsPart vu hi)
  (hw:HT.sIx items.size 0 lo=0∧HT.sIx items.size items.size hi=items.size) (h:Q (.ref t) s):wpAny (model prog w) A (getItem (.ref t) (.ref sl)) Q E s:=by
 obtain ⟨os,hos,hcs,hds⟩:=id hs;have hTs:s.TypeIs (.ref sl) "slice":=⟨os,hos,hcs⟩;unfold getItem
 try with_reducible refine zF ?_
 first | refine za (zb ?_) | skip
 refine za (wpAny_sequenceKey ht.typeIs (by decide) ?_)
 refine za (wpAny_callSpecial?_slot (name:=Str.ofString "__getitem__") ht.typeIs PyProof.Rows.slot_tuple_getitem
  (wpAny_call_entry PyProof.Rows.slot_tuple_getitem ht.typeIs entry_tuple_getitem ?_ (args_tuple_getitem _ _)))
 show wpAny _ _ (Builtin.Tuple.tupleItemsOf (.ref t) >>= _) _ _ s;refine za (tupleItemsOf_ ht ?_);refine za (wpAny_typeOf hTs ?_);rw [if_pos (by decide)];refine za (HT.sliceApplied_gen hs pl pu ?_)
 have hyes:(((HT.sIx items.size 0 lo:Nat):Int) == 0&&(1:Int) == 1&&(HT.sIx items.size items.size hi - HT.sIx items.size 0 lo) == items.size)=true:=by
  rw [hw.1,hw.2];simp
 show wpAny _ _ (if (((HT.sIx items.size 0 lo:Nat):Int) == 0&&(1:Int) == 1&&(HT.sIx items.size items.size hi - HT.sIx items.size 0 lo) == items.size)=true then _ else _) _ _ s;rw [if_pos hyes]
 have hex:∀{A':Around}{E':Value→Shared→Prop}{Q':Bool→Shared→Prop},Q' true s→wpAny (model prog w) A' (Builtin.Tuple.tupleIsExact (.ref t)) Q' E' s:=fun {A' E' Q'} hq=>by
  unfold Builtin.Tuple.tupleIsExact;exact za (wpAny_typeOf ht.typeIs (zb hq))
 refine za (hex ?_);rw [if_pos rfl];exact za (zY (zb ⟨_,rfl,zb h⟩))
end HT2
section
variable {X:Cx}
def QwY (K:PySem.W.Frag):V→Option Int→Option Int→Hp→VK→Prop:=fun x lo hi H Q=>∃a xs,x = .ref a∧SqT K H a xs ∧
 ((HT.sIx xs.length 0 lo=0∧HT.sIx xs.length xs.length hi=xs.length)→Q (.ref a) H)∧(¬(HT.sIx xs.length 0 lo=0∧HT.sIx xs.length xs.length hi=xs.length)→∀p,H p=none→Q (.ref p) (upd H p (.tup (QiL xs lo hi))))
theorem Quf (K:PySem.W.Frag) (hK:X.K=K:=by rfl):SlR X (QwY K):=by
 subst hK;intro pins s σ H x v vl vu lo hi sl Q I rx hs pl pu h;obtain ⟨a,xs,rfl,hx,q1,q2⟩:=h
 by_cases hw:HT.sIx xs.length 0 lo=0∧HT.sIx xs.length xs.length hi=xs.length
 ·cases rx;obtain ⟨its,r,ht,hz⟩:=I.tuple hx
  have hlen:its.toArray.size=xs.length:=by rw [zn]; exact r.length.symm
  exact ⟨"tuple",_,PyProof.Rows.slot_tuple_getitem.lookup,ht.typeIs,HT2.getItem_tuple_whole ht hs pl pu (by rw [hlen]; exact hw) ⟨.ref a,H,I,rfl,q1 hw⟩⟩
 ·exact QuR pins s σ H _ v vl vu lo hi sl Q I rx hs pl pu ⟨a,xs,rfl,hx,hw,q2 hw⟩
inductive TyQ (K:PySem.W.Frag) (H:Hp):V→String→Prop where
 | non:TyQ K H .non "NoneType"
 | bl (x:Bool):TyQ K H (.bl x) "bool"
 | int (i:Int):TyQ K H (.int i) "int"
 | str (x:Str):TyQ K H (.str x) "str"
 | lst {a:Addr}{xs:List V} (e:SqL K H a xs):TyQ K H (.ref a) "list"
 | tup {a:Addr}{xs:List V} (e:SqT K H a xs):TyQ K H (.ref a) "tuple"
 | dK {a:Addr}{kvs:List (Key×V)} (e:H a=some (.dK kvs)):TyQ K H (.ref a) "dict"
def Qyc (K:PySem.W.Frag):List V→Hp→VK→Prop:=fun xs H Q=>∃x n t b,xs = [x,.ty n]∧TyQ K H x t∧PySem.W.kitOne K (.type t) (.type n)=some b∧Q (.bl b) H
theorem Qro (K:PySem.W.Frag) (hK:X.K=K:=by rfl):Qhm X (.builtin "isinstance") (Qyc K):=by
 subst hK;intro pins s σ H xs us Q I r h;obtain ⟨x,n,t,b,rfl,ty,e,q⟩:=h;obtain ⟨u,c,rfl,r1,r2⟩:=vals2 r;cases (show c = .type n from r2)
 have fin:∀tk,EP X pins σ Q (.bool b) { s with toks:=tk }:=fun tk=>⟨.bl b,H,I.tok tk,rfl,q⟩
 cases ty with
 | non=>exact QfU I r1 .non e fin
 | bl y=>exact QfU I r1 (.bl y) e fin
 | int i=>exact QfU I r1 (.int i) e fin
 | str y=>exact QfU I r1 (.str y) e fin
 | @lst a xs ea =>
  cases (show u=Value.ref a from r1);obtain ⟨its,_,p,_⟩:=I.list ea;obtain ⟨o,ho,hc,_⟩:=p.isList;exact PySem.W.kia_one PySem.W.kitx_list I.kIn ⟨o,ho,hc⟩ e (fun z=>nomatch z) fin
 | @tup a xs ea =>
  cases (show u=Value.ref a from r1);obtain ⟨its,_,p,_⟩:=I.tuple ea;obtain ⟨o,ho,hc,_⟩:=p;exact PySem.W.kia_one PySem.W.kitx_tuple I.kIn ⟨o,ho,hc⟩ e (fun z=>nomatch z) fin
 | @dK a kvs ea=>exact QfU I r1 (.dK ea) e fin
theorem QrQ (K:PySem.W.Frag) (n:String):PySem.W.kitOne K (.type n) (.type n)=some true:=by
 unfold PySem.W.kitOne;rw [if_pos (beq_self_eq_true _)]
end
theorem QoS:∀{ds:List PyData},(∀d∈ds,d.canLay0=true)→PyData.canLayAll0 ds=true
 | [],_=>rfl
 | d::ds,h=>by rw [PyData.canLayAll0,h d zB,QoS fun x hx=>h x (zv _ hx)]; rfl
theorem QmS {n:Nat}:∀{ds:List PyData},(∀d∈ds,d.depth≤n)→PyData.depthAll ds≤n
 | [],_=>by rw [PyData.depthAll]; exact Nat.zero_le _
 | d::ds,h=>by
  rw [PyData.depthAll];exact Nat.max_le.mpr ⟨h d zB,QmS fun x hx=>h x (zv _ hx)⟩
theorem QtF {n:Nat} (hn:n < 60) {ds:List PyData} (h:∀d∈ds,d.canLay0=true∧d.depth≤n):okD (.list ds)=true:=by
 unfold okD;rw [zg];refine ⟨?_,zV ?_⟩
 ·show PyData.canLayAll0 ds=true
  exact QoS fun d hd=>(h d hd).1
 ·show PyData.depthAll ds+1≤60
  have:=QmS fun d hd=>(h d hd).2
  omega
section
variable {X:Cx}
def QtE:V→List V→Hp→VK→Prop:=fun x vs H Q=>∃l m,x = .str (S l)∧vs = [.str (S m)]∧Q (.bl (decide (l.take m.length=m))) H
theorem QsD (l m:List Nat):Txt.startswith (S l) (S m)=decide (l.take m.length=m):=by
 unfold Txt.startswith;rw [StrLaws.subAt_eq,Qgx,Qgx,Qb4,Qb4,List.drop_zero,Bool.eq_iff_iff,zg,decide_eq_true_eq,decide_eq_true_eq,beq_iff_eq];constructor
 ·exact fun h=>h.2
 ·intro h;refine ⟨?_,h⟩
  have:=congrArg List.length h
  rw [List.length_take] at this;omega
def Qwo:R2:=fun x y H Q=>∃(l:List Nat) (n:Int),x = .str (S l)∧y = .int n∧-1000000 < n∧n < 1000000∧l.length * n.toNat≤16777216∧Q (.str (S (List.replicate n.toNat l).flatten)) H
theorem QsW (l:List Nat):∀(n:Nat) (a:Array Nat),(List.replicate n (S l).cps).foldl (· ++ ·) a=a++(List.replicate n l).flatten.toArray
 | 0,a=>by simp
 | n+1,a=>by
  rw [List.replicate_succ,List.foldl_cons,QsW l n,List.replicate_succ,List.flatten_cons];simp [S]
theorem QpG:OpR X (binaryOp .Mult) Qwo:=by
 intro pins s σ H x y v u Q I rx ry h;obtain ⟨l,n,rfl,rfl,h1,h2,h3,q⟩:=h;obtain ⟨t,rfl⟩:=rx;obtain ⟨t',rfl⟩:=ry;have hs:sizeLine=16777216:=sizeLine_eq
 by_cases hn:n < 1
 ·have e0:n.toNat=0:=by omega
  rw [e0] at q;exact P.mul_str_none hn (by omega) ⟨.str (S []),H,I.tok _,⟨s.toks,rfl⟩,q⟩
 refine P.mul_str ?_ (fun _ _=>?_) (fun _ _=>?_) ?_
 ·rw [zy (by omega),zy (by omega)];rfl
 ·rw [Qb4];intro hz
  have h4:(l.length:Int) * n≤16777216:=by
   have:((l.length * n.toNat:Nat):Int)≤16777216:=by omega
   rw [Int.natCast_mul,Int.toNat_of_nonneg (by omega)] at this;exact this
  have h5:(2 ^ 63 - 1) / n < (l.length:Int):=hz;have h6:=(Int.ediv_lt_iff_lt_mul (show 0 < n by omega)).mp h5;omega
 ·rw [Qb4];unfold Builtin.Str.tooLong;exact zy (by omega)
 ·rw [if_neg (by omega)]
  by_cases hl:(n == 1 || (S l).length == 0)=true
  ·rw [if_pos hl]
   have e:(List.replicate n.toNat l).flatten=l:=by
    rw [Bool.or_eq_true,beq_iff_eq,beq_iff_eq,Qb4] at hl
    rcases hl with z | z
    ·rw [z];show (List.replicate 1 l).flatten=l;simp
    ·have z':=List.eq_nil_of_length_eq_zero z;subst z';rw [List.flatten_eq_nil_iff];intro x hx;exact (List.mem_replicate.mp hx).2
   rw [e] at q;exact ⟨.str (S l),H,I,⟨t,rfl⟩,q⟩
  ·rw [if_neg hl,QsW];refine ⟨?_,.str (S (List.replicate n.toNat l).flatten),H,I.tok _,⟨s.toks,?_⟩,q⟩
   ·show (#[]++(List.replicate n.toNat l).flatten.toArray).size≤sizeLine;simp only [Array.size_append,zn,List.length_flatten,List.map_replicate,List.sum_replicate_nat];simp;rw [Nat.mul_comm];omega
   ·congr 1;simp [S]
theorem QqZ:MtR X "str.startswith" QtE:=by
 intro pins s σ H x xs v us Q I rx rs h;obtain ⟨l,m,rfl,rfl,q⟩:=h;obtain ⟨t,rfl⟩:=rx;obtain ⟨u,rfl,ru⟩:=vals1 rs;obtain ⟨t',rfl⟩:=ru;exact SC.startswith ⟨.bl _,H,I,rfl,by rw [QsD]; exact q⟩
end
inductive D where
 | non | bl (b:Bool) | int (i:Int) | str (l:List Nat) | lst (ds:List D) | tup (ds:List D) | dic (ks vs:List D) | ob (n:Nat)
inductive Ob where
 | ins (c:Str) (fs:List (Str×D))
 | ml (ds:List D)
 | dt (kvs:List (List Key×D))
 | df (kvs:List (List Key×D))
 | dk (kvs:List (Key×D))
 | xc (c:Str) (fs:List (Str×D))
abbrev Qac:=List Ob
abbrev Qal:=List (Option D)
structure Xc where
 cls:Str
 fs:List (Str×D)
inductive Res (α:Type) where
 | ok (a:α) (O:Qac) | ex (x:Xc) (O:Qac) | no
inductive Fl where
 | nx (ρ:Qal) (O:Qac) | rt (d:D) (O:Qac) | bk (ρ:Qal) (O:Qac) | ct (ρ:Qal) (O:Qac) | ex (x:Xc) (O:Qac) | no
abbrev M (α:Type):=Qal→Qac→Res α
abbrev MS:=Qal→Qac→Fl
def Res.bind {α β:Type} (r:Res α) (f:α→Qac→Res β):Res β:=match r with
 | .ok a O=>f a O
 | .ex x O=>.ex x O
 | .no=>.no
theorem Res.bind_ok {α β:Type}{r:Res α}{f:α→Qac→Res β}{b:β}{O':Qac} (h:r.bind f = .ok b O'):∃a O,r = .ok a O∧f a O = .ok b O':=by
 cases r with
 | ok a O=>exact ⟨a,O,rfl,h⟩
 | ex x O=>cases h
 | no=>cases h
def Qm2:Expr→Bool
 | .Starred _ _=>false
 | _=>true
theorem Qa7 {e:Expr}{es:List Expr}{env:Env} (h:Qm2 e=true):starEach (e::es) env=(false,eval e env)::starEach es env:=by
 cases e <;> first | rfl | cases h
theorem Qbb {pos:Pos}{env:Env}:∀{es:List Expr},es.all Qm2=true→(backTo pos (starEach es env)).any (·.1)=false
 | [],_=>by simp [starEach,backTo]
 | e::es,h=>by
  rw [List.all_cons,zg] at h;rw [Qa7 h.1];show (false || (backTo pos (starEach es env)).any (·.1))=false;rw [Qbb h.2];rfl
theorem QjP {e:Expr}{env:Env} (h:Qm2 e=true):starEach [e] env = [(false,eval e env)]:=by rw [Qa7 h]; simp [starEach]
abbrev Frag:=PySem.W.Frag
def Qp1:Key→D
 | .inl i=>.int i
 | .inr x=>.str x.cps.toList
def RdK (K:Frag) (H:Hp) (a:Addr) (xs:List V):Prop:=Rd H a (.lst xs)∨∃(its:List Value) (n:Nat),K.lookup a=some { cls:=.type "list",data:=.seq its.toArray n }∧its.length≤sizeLine∧QaB xs its
theorem RdK.sq {K:Frag}{H:Hp}{a:Addr}{xs:List V} (h:RdK K H a xs):SqL K H a xs:=by
 rcases h with h | ⟨its,n,h1,h2,h3⟩
 ·exact .inl h
 ·exact .inr ⟨_,its.toArray,n,h1,rfl,rfl,rfl,by simpa using h2,by simpa using h3⟩
theorem RdK.ok {X:Cx}{pins:List (Addr×Obj)}{σ:St}{H:Hp}{s:Shared}{a:Addr}{xs:List V} (h:RdK X.K H a xs) (I:Inv X pins σ H s):xs.length≤sizeLine∧∃(its:List Value) (n:Nat),QaB xs its∧s.heap.get? a=some { cls:=.type "list",data:=.seq its.toArray n }:=by
 rcases h with h | ⟨its,n,h1,h2,h3⟩
 ·exact h.ok I.hok
 ·exact ⟨by rw [h3.length]; exact h2,its,n,h3,I.kIn a _ h1⟩
def TqT (K:Frag) (F:Hp) (a:Addr) (xs:List V):Prop :=
 F a=some (.tup xs)∨∃(o:Obj) (its:Array Value) (n:Nat),K.lookup a=some o∧o.cls = .type "tuple"∧o.data = .seq its n∧its.size≤sizeLine∧QaB xs its.toList
theorem TqT.sq {K:Frag}{F:Hp}{a:Addr}{xs:List V} (h:TqT K F a xs):SqT K F a xs:=h.imp .inl id
mutual
def Rp (K:Frag) (F:Hp) (as:List Addr):V→D→Prop
 | v,.non=>v = .non
 | v,.bl b=>v = .bl b
 | v,.int i=>v = .int i
 | v,.str l=>v = .str (S l)
 | v,.lst ds=>∃a xs,v = .ref a∧RdK K F a xs∧Rps K F as xs ds
 | v,.tup ds=>∃a xs,v = .ref a∧TqT K F a xs∧Rps K F as xs ds
 | v,.dic ks vs=>∃(a:Addr) (kvs:List (Key×V)),v = .ref a∧F a=some (.dK kvs)∧ks=kvs.map (fun p=>Qp1 p.1)∧Rps K F as (kvs.map (·.2)) vs
 | v,.ob n=>∃a,v = .ref a∧as[n]? = some a
def Rps (K:Frag) (F:Hp) (as:List Addr):List V→List D→Prop
 | xs,[]=>xs = []
 | xs,d::ds=>∃x r,xs=x::r∧Rp K F as x d∧Rps K F as r ds
end
section
variable {K:Frag}{F F':Hp}{as as':List Addr}
theorem Rd.mono {H H':Hp}{a:Addr}{u:HO} (e:Same H H') (h:Rd H a u):Rd H' a u:=by
 rcases h with h | ⟨o,h⟩
 ·exact .inl (e _ _ h)
 ·exact .inr ⟨o,e _ _ h⟩
theorem RdK.mono {H H':Hp}{a:Addr}{xs:List V} (e:Same H H') (h:RdK K H a xs):RdK K H' a xs:=h.imp (fun z=>z.mono e) id
mutual
theorem Rp.mono (e:Same F F') (ea:∀(n:Nat) (a:Addr),as[n]? = some a→as'[n]? = some a):∀(d:D) {v:V},Rp K F as v d→Rp K F' as' v d
 | .non,v,h=>by rw [Rp] at h ⊢; exact h
 | .bl b,v,h=>by rw [Rp] at h ⊢; exact h
 | .int i,v,h=>by rw [Rp] at h ⊢; exact h
 | .str x,v,h=>by rw [Rp] at h ⊢; exact h
 | .lst ds,v,h=>by
  rw [Rp] at h ⊢;obtain ⟨a,xs,h1,h2,h3⟩:=h;exact ⟨a,xs,h1,h2.mono e,Rps.mono e ea ds h3⟩
 | .tup ds,v,h=>by
  rw [Rp] at h ⊢;obtain ⟨a,xs,h1,h2,h3⟩:=h;exact ⟨a,xs,h1,h2.imp (e _ _) id,Rps.mono e ea ds h3⟩
 | .dic ks vs,v,h=>by
  rw [Rp] at h ⊢;obtain ⟨a,kvs,h1,h2,h3,h4⟩:=h;exact ⟨a,kvs,h1,e _ _ h2,h3,Rps.mono e ea vs h4⟩
 | .ob n,v,h=>by
  rw [Rp] at h ⊢;obtain ⟨a,h1,h2⟩:=h;exact ⟨a,h1,ea _ _ h2⟩
theorem Rps.mono (e:Same F F') (ea:∀(n:Nat) (a:Addr),as[n]? = some a→as'[n]? = some a):∀(ds:List D) {xs:List V},Rps K F as xs ds→Rps K F' as' xs ds
 | [],xs,h=>by rw [Rps] at h ⊢; exact h
 | d::ds,xs,h=>by
  rw [Rps] at h ⊢;obtain ⟨x,r,h1,h2,h3⟩:=h;exact ⟨x,r,h1,Rp.mono e ea d h2,Rps.mono e ea ds h3⟩
end
theorem Rp.non:Rp K F as .non .non:=by rw [Rp]
theorem Rp.bl {b:Bool}:Rp K F as (.bl b) (.bl b):=by rw [Rp]
theorem Rp.int {i:Int}:Rp K F as (.int i) (.int i):=by rw [Rp]
theorem Rp.str {l:List Nat}:Rp K F as (.str (S l)) (.str l):=by rw [Rp]
theorem Rp.unN {v:V} (h:Rp K F as v .non):v = .non:=by rw [Rp] at h; exact h
theorem Rp.unB {v:V}{b:Bool} (h:Rp K F as v (.bl b)):v = .bl b:=by rw [Rp] at h; exact h
theorem Rp.unI {v:V}{i:Int} (h:Rp K F as v (.int i)):v = .int i:=by rw [Rp] at h; exact h
theorem Rp.unS {v:V}{l:List Nat} (h:Rp K F as v (.str l)):v = .str (S l):=by rw [Rp] at h; exact h
theorem Rp.unL {v:V}{ds:List D} (h:Rp K F as v (.lst ds)):∃a xs,v = .ref a∧RdK K F a xs∧Rps K F as xs ds:=by rw [Rp] at h; exact h
theorem Rp.unT' {v:V}{ds:List D} (h:Rp K F as v (.tup ds)):∃a xs,v = .ref a∧TqT K F a xs∧Rps K F as xs ds:=by rw [Rp] at h; exact h
theorem Rp.unT {v:V}{ds:List D} (h:Rp K F as v (.tup ds)):∃a xs,v = .ref a∧SqT K F a xs∧Rps K F as xs ds:=let ⟨a,xs,e,h1,h2⟩:=h.unT'; ⟨a,xs,e,h1.sq,h2⟩
theorem Rp.unO {v:V}{n:Nat} (h:Rp K F as v (.ob n)):∃a,v = .ref a∧as[n]? = some a:=by rw [Rp] at h; exact h
theorem Rp.unD {v:V}{ks vs:List D} (h:Rp K F as v (.dic ks vs)):∃(a:Addr) (kvs:List (Key×V)),v = .ref a∧F a=some (.dK kvs)∧ks=kvs.map (fun p=>Qp1 p.1)∧Rps K F as (kvs.map (·.2)) vs:=by rw [Rp] at h; exact h
theorem Rp.mkL {a:Addr}{xs:List V}{ds:List D} (h:RdK K F a xs) (hs:Rps K F as xs ds):Rp K F as (.ref a) (.lst ds):=by rw [Rp]; exact ⟨a,xs,rfl,h,hs⟩
theorem Rp.mkT {a:Addr}{xs:List V}{ds:List D} (h:TqT K F a xs) (hs:Rps K F as xs ds):Rp K F as (.ref a) (.tup ds):=by rw [Rp]; exact ⟨a,xs,rfl,h,hs⟩
theorem Rp.mkO {a:Addr}{n:Nat} (h:as[n]? = some a):Rp K F as (.ref a) (.ob n):=by rw [Rp]; exact ⟨a,rfl,h⟩
theorem Rps.nil:Rps K F as [] []:=by rw [Rps]
theorem Rps.cons {x:V}{xs:List V}{d:D}{ds:List D} (h:Rp K F as x d) (hs:Rps K F as xs ds):Rps K F as (x::xs) (d::ds):=by
 rw [Rps]; exact ⟨x,xs,rfl,h,hs⟩
theorem Rps.un {xs:List V}{d:D}{ds:List D} (h:Rps K F as xs (d::ds)):∃x r,xs=x::r∧Rp K F as x d∧Rps K F as r ds:=by rw [Rps] at h; exact h
theorem Rps.un0 {xs:List V} (h:Rps K F as xs []):xs = []:=by rw [Rps] at h; exact h
theorem Rps.length:∀{ds:List D}{xs:List V},Rps K F as xs ds→xs.length=ds.length
 | [],xs,h=>by rw [h.un0]; rfl
 | d::ds,xs,h=>by
  obtain ⟨x,r,rfl,_,h3⟩:=h.un;simp [Rps.length h3]
theorem Rps.get:∀{ds:List D}{xs:List V}{i:Nat}{x:V},Rps K F as xs ds→xs[i]? = some x→∃d,ds[i]? = some d∧Rp K F as x d
 | [],xs,i,x,h,e=>by rw [h.un0] at e; simp at e
 | d::ds,xs,i,x,h,e=>by
  obtain ⟨y,r,rfl,h2,h3⟩:=h.un
  cases i with
  | zero=>simp at e; subst e; exact ⟨d,rfl,h2⟩
  | succ i =>
   obtain ⟨d',e',q⟩:=Rps.get (i:=i) (x:=x) h3 (by simpa using e);exact ⟨d',by simpa using e',q⟩
theorem Rps.get':∀{ds:List D}{xs:List V}{i:Nat}{d:D},Rps K F as xs ds→ds[i]? = some d→∃x,xs[i]? = some x∧Rp K F as x d:=by
 intro ds xs i d h e;have hl:=h.length
 have hi:i < xs.length:=by rw [hl]; exact (zj.mp e).1
 obtain ⟨d',e',q⟩:=h.get (zK hi);rw [e] at e'; cases e';exact ⟨_,zK hi,q⟩
theorem Rps.append {ys:List V}{es:List D} (hy:Rps K F as ys es):∀{ds:List D}{xs:List V},Rps K F as xs ds→Rps K F as (xs++ys) (ds++es)
 | [],xs,h=>by rw [h.un0]; exact hy
 | e::ds,xs,h=>by
  obtain ⟨y,r,rfl,h2,h3⟩:=h.un;exact Rps.cons h2 (Rps.append hy h3)
theorem Rps.snoc {x:V}{d:D}{ds:List D}{xs:List V} (h:Rps K F as xs ds) (hx:Rp K F as x d):Rps K F as (xs ++ [x]) (ds ++ [d]):=Rps.append (Rps.cons hx Rps.nil) h
theorem Rps.take:∀{ds:List D}{xs:List V} (n:Nat),Rps K F as xs ds→Rps K F as (xs.take n) (ds.take n)
 | _,_,0,_=>by simpa using Rps.nil
 | [],xs,n+1,h=>by rw [h.un0]; simpa using Rps.nil
 | d::ds,xs,n+1,h=>by
  obtain ⟨y,r,rfl,h2,h3⟩:=h.un;exact Rps.cons h2 (Rps.take n h3)
theorem Rps.drop:∀{ds:List D}{xs:List V} (n:Nat),Rps K F as xs ds→Rps K F as (xs.drop n) (ds.drop n)
 | _,_,0,h=>by simpa using h
 | [],xs,n+1,h=>by rw [h.un0]; simpa using Rps.nil
 | d::ds,xs,n+1,h=>by
  obtain ⟨y,r,rfl,h2,h3⟩:=h.un;exact Rps.drop n h3
theorem Rps.set:∀{ds:List D}{xs:List V}{x:V}{d:D} (n:Nat),Rps K F as xs ds→Rp K F as x d→Rps K F as (xs.set n x) (ds.set n d)
 | [],xs,x,d,n,h,_=>by rw [h.un0]; simpa using Rps.nil
 | e::ds,xs,x,d,0,h,hx=>by
  obtain ⟨y,r,rfl,h2,h3⟩:=h.un;exact Rps.cons hx h3
 | e::ds,xs,x,d,n+1,h,hx=>by
  obtain ⟨y,r,rfl,h2,h3⟩:=h.un;exact Rps.cons h2 (Rps.set n h3 hx)
theorem Rps.rep {ds:List D}{xs:List V} (h:Rps K F as xs ds):∀n:Nat,Rps K F as (List.replicate n xs).flatten (List.replicate n ds).flatten
 | 0=>by simpa using Rps.nil
 | n+1=>by
  rw [List.replicate_succ,List.replicate_succ,List.flatten_cons,List.flatten_cons];exact Rps.append (Rps.rep h n) h
end
def isD:HO→Bool
 | .ins _ _ _=>false
 | .own _=>false
 | .xd _=>false
 | _=>true
def isL:HO→Bool
 | .lst _=>true
 | .dK _=>true
 | _=>false
theorem QsX {o:HO} (h:isL o=true):isD o=true:=by
 cases o <;> first | rfl | cases h
structure Gr (H F:Hp) (as:List Addr) (H' F':Hp) (as':List Addr):Prop where
 fz:∀a o,H a=some o→a∉as→isL o=true→F' a=F a
 ff:Same F F'
 nw:∃new,as'=as++new∧∀a∈new,H a=none
 fr:∀a o,H a=some o→a∉as→isD o=true→H' a=some o
 dm:∀a,H' a=none→H a=none
 kz:∀a o u,H a=some (.frz o u)→H' a=some (.frz o u)
structure Pt where
 p:Addr→Prop
 ss:List (Nat×V×D)
instance:CoeFun Pt (fun _=>Addr→Prop):=⟨Pt.p⟩
def Pt.all (H:Hp):Pt:=⟨fun a=>H a≠none,[]⟩
structure GrS (P:Pt) (H F:Hp) (as:List Addr) (H' F':Hp) (as':List Addr):Prop where
 fz:∀a o,P a→H a=some o→a∉as→isL o=true→F' a=F a
 ff:Same F F'
 nw:∃new,as'=as++new∧∀a∈new,H a=none
 fr:∀a o,P a→H a=some o→a∉as→isD o=true→H' a=some o
 dm:∀a,H' a=none→H a=none
 kz:∀a o u,H a=some (.frz o u)→H' a=some (.frz o u)
section
variable {H F H' F' H2 F2:Hp}{as as' as2:List Addr}{P:Pt}
theorem Gr.refl:Gr H F as H F as:=⟨fun _ _ _ _ _=>rfl,Same.refl F,⟨[],by simp,fun _ h=>nomatch h⟩,fun _ _ h _ _=>h,fun _ h=>h,fun _ _ _ h=>h⟩
theorem Gr.trans (a:Gr H F as H' F' as') (b:Gr H' F' as' H2 F2 as2):Gr H F as H2 F2 as2:=by
 obtain ⟨n1,e1,h1⟩:=a.nw;obtain ⟨n2,e2,h2⟩:=b.nw;refine ⟨fun c o hc hn hd=>?_,a.ff.trans b.ff,⟨n1++n2,by rw [e2,e1,zU],fun c hc=>?_⟩,fun c o e hn hd=>?_,fun c h=>a.dm c (b.dm c h),fun c o u h=>b.kz c o u (a.kz c o u h)⟩
 ·have q:=a.fr c o hc hn (QsX hd);refine (b.fz c o q ?_ hd).trans (a.fz c o hc hn hd);rw [e1];intro z
  rcases zC.mp z with z | z
  ·exact hn z
  ·rw [h1 c z] at hc; cases hc
 ·rcases zC.mp hc with z | z
  ·exact h1 c z
  ·exact a.dm c (h2 c z)
 ·have q:=a.fr c o e hn hd;refine b.fr c o q ?_ hd;rw [e1];intro z
  rcases zC.mp z with z | z
  ·exact hn z
  ·rw [h1 c z] at e; cases e
theorem Gr.toS (a:Gr H F as H' F' as'):GrS P H F as H' F' as':=⟨fun c o _=>a.fz c o,a.ff,a.nw,fun c o _ e hn hd=>a.fr c o e hn hd,a.dm,a.kz⟩
theorem GrS.refl:GrS P H F as H F as:=Gr.refl.toS
theorem GrS.trans (a:GrS P H F as H' F' as') (b:GrS P H' F' as' H2 F2 as2):GrS P H F as H2 F2 as2:=by
 obtain ⟨n1,e1,h1⟩:=a.nw;obtain ⟨n2,e2,h2⟩:=b.nw;refine ⟨fun c o p hc hn hd=>?_,a.ff.trans b.ff,⟨n1++n2,by rw [e2,e1,zU],fun c hc=>?_⟩,fun c o p e hn hd=>?_,fun c h=>a.dm c (b.dm c h),fun c o u h=>b.kz c o u (a.kz c o u h)⟩
 ·have q:=a.fr c o p hc hn (QsX hd);refine (b.fz c o p q ?_ hd).trans (a.fz c o p hc hn hd);rw [e1];intro z
  rcases zC.mp z with z | z
  ·exact hn z
  ·rw [h1 c z] at hc; cases hc
 ·rcases zC.mp hc with z | z
  ·exact h1 c z
  ·exact a.dm c (h2 c z)
 ·have q:=a.fr c o p e hn hd;refine b.fr c o p q ?_ hd;rw [e1];intro z
  rcases zC.mp z with z | z
  ·exact hn z
  ·rw [h1 c z] at e; cases e
theorem GrS.mono {P':Pt} (a:GrS P H F as H' F' as') (h:∀c,P' c→P c):GrS P' H F as H' F' as':=⟨fun c o p=>a.fz c o (h c p),a.ff,a.nw,fun c o p=>a.fr c o (h c p),a.dm,a.kz⟩
theorem GrS.gr (a:GrS (Pt.all H) H F as H' F' as'):Gr H F as H' F' as':=⟨fun c o e=>a.fz c o (show H c≠none by rw [e]; exact fun z=>nomatch z) e,a.ff,a.nw,fun c o e=>a.fr c o (show H c≠none by rw [e]; exact fun z=>nomatch z) e,a.dm,a.kz⟩
theorem Gr.at_ (a:Gr H F as H' F' as'):∀(n:Nat) (c:Addr),as[n]? = some c→as'[n]? = some c:=fun n c h=>by
 obtain ⟨new,e,_⟩:=a.nw;rw [e,zt (zj.mp h).1];exact h
theorem GrS.at_ (a:GrS P H F as H' F' as'):∀(n:Nat) (c:Addr),as[n]? = some c→as'[n]? = some c:=fun n c h=>by
 obtain ⟨new,e,_⟩:=a.nw;rw [e,zt (zj.mp h).1];exact h
theorem Gr.out (a:Gr H F as H' F' as') {c:Addr} (h:c∉as) (e:H c≠none):c∉as':=by
 obtain ⟨new,e1,h1⟩:=a.nw;rw [e1];intro z
 rcases zC.mp z with z | z
 ·exact h z
 ·exact e (h1 c z)
theorem GrS.out (a:GrS P H F as H' F' as') {c:Addr} (h:c∉as) (e:H c≠none):c∉as':=by
 obtain ⟨new,e1,h1⟩:=a.nw;rw [e1];intro z
 rcases zC.mp z with z | z
 ·exact h z
 ·exact e (h1 c z)
theorem Rp.gr {K:Frag}{v:V}{d:D} (h:Rp K F as v d) (a:Gr H F as H' F' as'):Rp K F' as' v d:=Rp.mono a.ff a.at_ d h
theorem Rps.gr {K:Frag}{v:List V}{d:List D} (h:Rps K F as v d) (a:Gr H F as H' F' as'):Rps K F' as' v d:=Rps.mono a.ff a.at_ d h
theorem Rp.grS {K:Frag}{v:V}{d:D} (h:Rp K F as v d) (a:GrS P H F as H' F' as'):Rp K F' as' v d:=Rp.mono a.ff a.at_ d h
theorem Rps.grS {K:Frag}{v:List V}{d:List D} (h:Rps K F as v d) (a:GrS P H F as H' F' as'):Rps K F' as' v d:=Rps.mono a.ff a.at_ d h
end
structure FsR (K:Frag) (F:Hp) (as:List Addr) (gs:List (Str×V)) (fs:List (Str×D)):Prop where
 nm:gs.map (·.1)=fs.map (·.1)
 vl:Rps K F as (gs.map (·.2)) (fs.map (·.2))
def XF (K:Frag) (F:Hp) (as:List Addr) (dxo:Option Addr) (fs:List (Str×D)):Prop:=fs = []∨∃dx od gs,dxo=some dx∧F dx=some (.frz od (.xd gs))∧FsR K F as gs fs
theorem XF.mono {K:Frag}{F F':Hp}{as as':List Addr}{dxo:Option Addr}{fs:List (Str×D)} (h:XF K F as dxo fs) (e:Same F F') (ea:∀(n:Nat) (a:Addr),as[n]? = some a→as'[n]? = some a):XF K F' as' dxo fs:=by
 rcases h with h | ⟨dx,od,gs,h1,h2,h3,h4⟩
 ·exact .inl h
 ·exact .inr ⟨dx,od,gs,h1,e _ _ h2,h3,Rps.mono e ea _ h4⟩
def ObR (K:Frag) (mg:Str→Option Value) (H F:Hp) (as:List Addr) (a:Addr):Ob→Prop
 | .ins c fs=>∃C dx gs,mg c=some (.ref C)∧H a=some (.ins C dx gs)∧FsR K F as gs fs
 | .ml ds=>∃xs,H a=some (.lst xs)∧Rps K F as xs ds
 | .dt kvs=>∃xs:List (List Key×V),H a=some (.dT xs)∧xs.map (·.1)=kvs.map (·.1)∧Rps K F as (xs.map (·.2)) (kvs.map (·.2))
 | .df kvs=>∃(o:Obj) (xs:List (List Key×V)),H a=some (.frz o (.dT xs))∧xs.map (·.1)=kvs.map (·.1)∧Rps K F as (xs.map (·.2)) (kvs.map (·.2))
 | .dk kvs=>∃xs:List (Key×V),H a=some (.dK xs)∧xs.map (·.1)=kvs.map (·.1)∧Rps K F as (xs.map (·.2)) (kvs.map (·.2))
 | .xc c fs=>∃(C:Addr) (oe:Obj) (u:HO),mg c=some (.ref C)∧H a=some (.frz oe u)∧oe.cls = .ref C∧(∃ws,oe.data = .fields ws)∧XF K F as oe.dict fs
structure RlO (K:Frag) (mg:Str→Option Value) (O:Qac) (H F:Hp) (as:List Addr):Prop where
 fh:Same F H
 fd:∀a o,F a=some o→isD o=true
 nd:as.Nodup
 len:as.length=O.length
 fa:∀a∈as,F a=none
 ob:∀(n:Nat) (a:Addr) (o:Ob),as[n]? = some a→O[n]? = some o→ObR K mg H F as a o
inductive Md where
 | v | s | o
 deriving DecidableEq
def Qfz:D→Bool
 | .lst _=>false
 | _=>true
def QfK (P:Pt) (K:Frag) (H F:Hp) (as:List Addr):Md→V→D→Prop
 | .v,v,d=>Rp K F as v d
 | .s,v,d=>Rp K F as v d∨∃a xs ds,v = .ref a∧d = .lst ds∧H a=some (.lst xs)∧a∉as∧P a∧Rps K F as xs ds
 | .o,v,d=>(Qfz d=true∧Rp K F as v d)∨∃a xs ds,v = .ref a∧d = .lst ds∧H a=some (.lst xs)∧F a=none∧a∉as∧¬P a∧Rps K F as xs ds
structure SlO (K:Frag) (md:List Md) (P:Pt) (ρ:Qal) (σ:St) (H F:Hp) (as:List Addr):Prop where
 len:σ.length=md.length
 len':ρ.length=md.length
 pd:∀a,P a→H a≠none
 sl:∀(i:Nat) (m:Md) (d:D),md[i]? = some m→ρ[i]? = some (some d)→∃v,σ[i]? = some (some v)∧QfK P K H F as m v d
 inj:∀(i j:Nat) (a:Addr) (ds es:List D),md[i]? = some .o→md[j]? = some .o→ρ[i]? = some (some (.lst ds))→ρ[j]? = some (some (.lst es))→σ[i]? = some (some (.ref a))→σ[j]? = some (some (.ref a))→i=j
 pin:∀x∈P.ss,md[x.1]? = some .s∧ρ[x.1]? = some (some x.2.2)∧σ[x.1]? = some (some x.2.1)
section
variable {K:Frag}{mg:Str→Option Value}{md:List Md}{P:Pt}{ρ:Qal}{σ:St}{H F H' F':Hp}{as as':List Addr}{O O':Qac}
theorem QfK.step {m:Md}{v:V}{d:D} (h:QfK P K H F as m v d) (g:Gr H F as H' F' as'):QfK P K H' F' as' m v d:=by
 cases m with
 | v=>exact Rp.gr (show Rp K F as v d from h) g
 | s =>
  rcases h with h | ⟨a,xs,ds,e1,e2,e3,e4,e5,e6⟩
  ·exact .inl (h.gr g)
  ·exact .inr ⟨a,xs,ds,e1,e2,g.fr _ _ e3 e4 rfl,g.out e4 (by rw [e3]; exact fun z=>nomatch z),e5,e6.gr g⟩
 | o =>
  rcases h with ⟨h1,h⟩ | ⟨a,xs,ds,e1,e2,e3,e0,e4,e5,e6⟩
  ·exact .inl ⟨h1,h.gr g⟩
  ·have hn:H a≠none:=by rw [e3]; exact fun z=>nomatch z
   exact .inr ⟨a,xs,ds,e1,e2,g.fr _ _ e3 e4 rfl,by rw [g.fz a _ e3 e4 rfl]; exact e0,g.out e4 hn,e5,e6.gr g⟩
theorem SlO.step (h:SlO K md P ρ σ H F as) (g:Gr H F as H' F' as'):SlO K md P ρ σ H' F' as' :=
 ⟨h.len,h.len',fun a p z=>h.pd a p (g.dm a z),fun i m d e1 e2=>let ⟨v,q,r⟩:=h.sl i m d e1 e2; ⟨v,q,r.step g⟩,h.inj,h.pin⟩
end
def Sv (K:Frag) (H F:Hp) (as:List Addr) (v:V) (d:D):Prop :=
 Rp K F as v d∨∃a xs ds,v = .ref a∧d = .lst ds∧H a=some (.lst xs)∧a∉as∧Rps K F as xs ds
def Lk (K:Frag) (H F:Hp) (as:List Addr) (v:V) (d:D):Prop :=
 Rp K F as v d∨∃a xs ds,v = .ref a∧d = .lst ds∧H a=some (.lst xs)∧Rps K F as xs ds
def Ow (K:Frag) (N:Addr→Prop) (H F:Hp) (as:List Addr) (v:V) (d:D):Prop :=
 (Qfz d=true∧Rp K F as v d)∨∃a xs ds,v = .ref a∧d = .lst ds∧H a=some (.lst xs)∧F a=none∧a∉as∧N a∧Rps K F as xs ds
def QaL (O:Qac) (d:D):D:=match d with
 | .ob n=>match O[n]? with
  | some (.ml ds)=>.lst ds
  | _=>.ob n
 | d=>d
section
variable {K:Frag}{mg:Str→Option Value}{H0 H F H' F':Hp}{as as':List Addr}{O:Qac}{v:V}{d:D}
theorem Sv.gr (h:Sv K H F as v d) (g:Gr H F as H' F' as'):Sv K H' F' as' v d:=by
 rcases h with h | ⟨a,xs,ds,e1,e2,e3,e4,e5⟩
 ·exact .inl (h.gr g)
 ·exact .inr ⟨a,xs,ds,e1,e2,g.fr _ _ e3 e4 rfl,g.out e4 (by rw [e3]; exact fun z=>nomatch z),e5.gr g⟩
theorem Sv.lk (h:Sv K H F as v d) (r:RlO K mg O H F as):Lk K H F as v (QaL O d):=by
 rcases h with h | ⟨a,xs,ds,rfl,rfl,e3,e4,e5⟩
 ·cases d with
  | ob n =>
   obtain ⟨a,rfl,ha⟩:=h.unO;unfold QaL;dsimp only
   split
   ·rename_i ds e;obtain ⟨xs,e1,e2⟩:=r.ob n a _ ha e;exact .inr ⟨a,xs,ds,rfl,rfl,e1,e2⟩
   ·exact .inl (Rp.mkO ha)
  | _=>exact .inl h
 ·exact .inr ⟨a,xs,ds,rfl,rfl,e3,e5⟩
theorem Lk.list {ds:List D} (h:Lk K H F as v (.lst ds)) (fh:Same F H):∃a xs,v = .ref a∧RdK K H a xs∧Rps K F as xs ds:=by
 rcases h with h | ⟨a,xs,ds',e1,e2,e3,e4⟩
 ·obtain ⟨a,xs,e,h1,h2⟩:=h.unL;exact ⟨a,xs,e,h1.mono fh,h2⟩
 ·cases e2;exact ⟨a,xs,e1,.inl (.inl e3),e4⟩
theorem Lk.rp (h:Lk K H F as v d) (hn:Qfz d=true):Rp K F as v d:=by
 rcases h with h | ⟨a,xs,ds',e1,rfl,e3,e4⟩
 ·exact h
 ·cases hn
theorem Sv.rp (h:Sv K H F as v d) (hn:Qfz d=true):Rp K F as v d:=by
 rcases h with h | ⟨a,xs,ds',e1,rfl,e3,e4⟩
 ·exact h
 ·cases hn
theorem Ow.sv {N:Addr→Prop} (h:Ow K N H F as v d):Sv K H F as v d:=by
 rcases h with ⟨_,h⟩ | ⟨a,xs,ds,e1,e2,e3,e4,e5,e6,e7⟩
 ·exact .inl h
 ·exact .inr ⟨a,xs,ds,e1,e2,e3,e5,e7⟩
theorem Gr.lay {p:Addr}{o:HO} (hp:H p=none):Gr H F as (upd H p o) F as :=
 ⟨fun _ _ _ _ _=>rfl,Same.refl F,⟨[],by simp,fun _ h=>nomatch h⟩,fun a o' e _ _=>by rw [Qam (Qax e hp)]; exact e,fun a e=>by
  by_cases h:a=p
  ·subst h; exact hp
  ·rwa [Qam h] at e,fun a o' u e=>by rw [Qam (Qax e hp)]; exact e⟩
theorem ObR.keep {a:Addr}{o:Ob} (h:ObR K mg H F as a o) (hH:H' a=H a) (e:Same F F') (ea:∀(n:Nat) (a:Addr),as[n]? = some a→as'[n]? = some a):ObR K mg H' F' as' a o:=by
 cases o with
 | ins c fs =>
  obtain ⟨C,dx,gs,h1,h2,h3,h4⟩:=h;exact ⟨C,dx,gs,h1,by rw [hH]; exact h2,h3,Rps.mono e ea _ h4⟩
 | ml ds =>
  obtain ⟨xs,h1,h2⟩:=h;exact ⟨xs,by rw [hH]; exact h1,Rps.mono e ea _ h2⟩
 | dt kvs =>
  obtain ⟨xs,h1,h2,h3⟩:=h;exact ⟨xs,by rw [hH]; exact h1,h2,Rps.mono e ea _ h3⟩
 | df kvs =>
  obtain ⟨o,xs,h1,h2,h3⟩:=h;exact ⟨o,xs,by rw [hH]; exact h1,h2,Rps.mono e ea _ h3⟩
 | dk kvs =>
  obtain ⟨xs,h1,h2,h3⟩:=h;exact ⟨xs,by rw [hH]; exact h1,h2,Rps.mono e ea _ h3⟩
 | xc c fs =>
  obtain ⟨C,oe,u,h1,h2,h3,h4,h5⟩:=h;exact ⟨C,oe,u,h1,by rw [hH]; exact h2,h3,h4,h5.mono e ea⟩
theorem RlO.at {n:Nat}{a:Addr}{o:Ob} (r:RlO K mg O H F as) (ha:as[n]? = some a) (ho:O[n]? = some o):H a≠none:=by
 have q:=r.ob n a o ha ho
 cases o with
 | ins c fs=>obtain ⟨C,dx,gs,h1,h2,_⟩:=q; rw [h2]; exact fun z=>nomatch z
 | ml ds=>obtain ⟨xs,h1,_⟩:=q; rw [h1]; exact fun z=>nomatch z
 | dt kvs=>obtain ⟨xs,h1,_⟩:=q; rw [h1]; exact fun z=>nomatch z
 | df kvs=>obtain ⟨o,xs,h1,_⟩:=q; rw [h1]; exact fun z=>nomatch z
 | dk kvs=>obtain ⟨xs,h1,_⟩:=q; rw [h1]; exact fun z=>nomatch z
 | xc c fs=>obtain ⟨C,oe,u,_,h1,_⟩:=q; rw [h1]; exact fun z=>nomatch z
theorem RlO.all {a:Addr} (r:RlO K mg O H F as) (ha:a∈as):H a≠none:=by
 obtain ⟨n,hn,e⟩:=List.mem_iff_getElem.mp ha
 have hO:n < O.length:=by rw [←r.len]; exact hn
 exact r.at (n:=n) (by rw [zK hn,e]) (zK hO)
theorem RlO.lay {p:Addr}{o:HO} (r:RlO K mg O H F as) (hp:H p=none):RlO K mg O (upd H p o) F as:=by
 refine ⟨fun a u e=>?_,r.fd,r.nd,r.len,r.fa,fun n a u ha hu=>(r.ob n a u ha hu).keep (Qam ?_) (Same.refl F) fun _ _ h=>h⟩
 ·have q:=r.fh a u e;rw [Qam (Qax q hp)]; exact q
 ·intro z; subst z; exact r.at ha hu hp
theorem Gr.frz {p:Addr}{o:HO} (hp:H p=none) (g:Gr H F as H' F' as') (hf:F' p=none):Gr H F as H' (upd F' p o) as' :=
 ⟨fun a o' ha hn hd=>by rw [Qam (fun z=>by subst z; rw [hp] at ha; cases ha)]; exact g.fz a o' ha hn hd,fun a u e=>by
  have q:=g.ff a u e
  rw [Qam (Qax q hf)]; exact q,g.nw,g.fr,g.dm,g.kz⟩
theorem RlO.frz {p:Addr}{o:HO} (r:RlO K mg O H F as) (hp:H p=some o) (hf:F p=none) (ha:p∉as) (hd:isD o=true):RlO K mg O H (upd F p o) as:=by
 have ff:Same F (upd F p o):=fun a u e=>by rw [Qam (Qax e hf)]; exact e
 refine ⟨fun a u e=>?_,fun a u e=>?_,r.nd,r.len,fun a h=>?_,fun n a u h1 h2=>(r.ob n a u h1 h2).keep rfl ff fun _ _ h=>h⟩
 ·by_cases h:a=p
  ·subst h; rw [QaE] at e; cases e; exact hp
  ·rw [Qam h] at e; exact r.fh a u e
 ·by_cases h:a=p
  ·subst h; rw [QaE] at e; cases e; exact hd
  ·rw [Qam h] at e; exact r.fd a u e
 ·rw [Qam (fun z=>by subst z; exact ha h)]; exact r.fa a h
end
abbrev RR:=(Addr→Prop)→Hp→Hp→List Addr→V→D→Prop
def rV (K:Frag):RR:=fun _ _ F as v d=>Rp K F as v d
def rS (K:Frag):RR:=fun _ H F as v d=>Sv K H F as v d
def rO (K:Frag):RR:=fun N H F as v d=>Ow K N H F as v d
def rA (K:Frag):Md→RR
 | .v=>rV K
 | _=>rS K
def QcO (R:RR):Prop:=∀(N N':Addr→Prop) (H F:Hp) (as:List Addr) (v:V) (d:D),(∀a,N a→N' a)→R N H F as v d→R N' H F as v d
theorem Qbr {K:Frag}:QcO (rV K):=fun _ _ _ _ _ _ _ _ h=>h
theorem Qdg {K:Frag}:QcO (rO K):=fun N N' H F as v d hn h=>by
 rcases h with h | ⟨a,xs,ds,e1,e2,e3,e4,e5,e6,e7⟩
 ·exact .inl h
 ·exact .inr ⟨a,xs,ds,e1,e2,e3,e4,e5,hn a e6,e7⟩
def tM (K:Frag) (mg:Str→Option Value) (md:List Md) (P:Pt) (R:RR) (m:M D):TE:=fun σ H Q =>
 ∃ρ O F as d O',RlO K mg O H F as∧SlO K md P ρ σ H F as∧m ρ O = .ok d O' ∧
  ∀v H' F' as',Gr H F as H' F' as'→RlO K mg O' H' F' as'→R (fun a=>H a=none) H' F' as' v d→Q v H'
def tMT (K:Frag) (mg:Str→Option Value) (md:List Md) (P:Pt) (m:M Bool):TT:=fun σ H Q =>
 ∃ρ O F as b O',RlO K mg O H F as∧SlO K md P ρ σ H F as∧m ρ O = .ok b O' ∧
  ∀H' F' as',Gr H F as H' F' as'→RlO K mg O' H' F' as'→Q b H'
def QbV (K:Frag) (H F:Hp) (as:List Addr):List Md→List V→List D→Prop
 | [],[],[]=>True
 | m::ms,v::vs,d::ds=>rA K m (fun _=>True) H F as v d∧QbV K H F as ms vs ds
 | _,_,_=>False
def tMA (K:Frag) (mg:Str→Option Value) (md:List Md) (P:Pt) (ms:List Md) (m:M (List D)):TA:=fun σ H Q =>
 ∃ρ O F as ds O',RlO K mg O H F as∧SlO K md P ρ σ H F as∧m ρ O = .ok ds O' ∧
  ∀vs H' F' as',Gr H F as H' F' as'→RlO K mg O' H' F' as'→QbV K H' F' as' ms vs ds→Q vs H'
def XE (X:Cx) (md:List Md) (P:Pt) (R:RR) (e:Expr) (m:M D):Prop:=PE X e (tM X.K X.mg md P R m)
def VE (X:Cx) (md:List Md) (P:Pt) (e:Expr) (m:M D):Prop:=PE X e (tM X.K X.mg md P (rV X.K) m)
def SE (X:Cx) (md:List Md) (P:Pt) (e:Expr) (m:M D):Prop:=PE X e (tM X.K X.mg md P (rS X.K) m)
def OE (X:Cx) (md:List Md) (P:Pt) (e:Expr) (m:M D):Prop:=PE X e (tM X.K X.mg md P (rO X.K) m)
def TsE (X:Cx) (md:List Md) (P:Pt) (e:Expr) (m:M Bool):Prop:=PT X e (tMT X.K X.mg md P m)
def TwE (X:Cx) (md:List Md) (P:Pt) (e:Expr) (m:M Bool):Prop:=PW X e (tMT X.K X.mg md P m)
def AE (X:Cx) (md:List Md) (P:Pt) (ms:List Md) (es:List Expr) (m:M (List D)):Prop:=PA X es (tMA X.K X.mg md P ms m)
def QeU (K:Frag) (mg:Str→Option Value) (md:List Md) (P:Pt) (R:RR) (D:Ends) (H F:Hp) (as:List Addr):Fl→Prop
 | .nx ρ' O'=>∀σ' H' F' as',GrS P H F as H' F' as'→RlO K mg O' H' F' as'→SlO K md P ρ' σ' H' F' as'→D.nx σ' H'
 | .bk ρ' O'=>∀σ' H' F' as',GrS P H F as H' F' as'→RlO K mg O' H' F' as'→SlO K md P ρ' σ' H' F' as'→D.bk σ' H'
 | .ct ρ' O'=>∀σ' H' F' as',GrS P H F as H' F' as'→RlO K mg O' H' F' as'→SlO K md P ρ' σ' H' F' as'→D.ct σ' H'
 | .rt d O'=>∀v H' F' as',GrS P H F as H' F' as'→RlO K mg O' H' F' as'→R (fun a=>¬P a) H' F' as' v d→D.rt v H'
 | .ex _ _=>False
 | .no=>False
def tMS (K:Frag) (mg:Str→Option Value) (md:List Md) (P:Pt) (R:RR) (m:MS):TS:=fun D σ H =>
 ∃ρ O F as,RlO K mg O H F as∧SlO K md P ρ σ H F as∧QeU K mg md P R D H F as (m ρ O)
def VS (X:Cx) (md:List Md) (P:Pt) (R:RR) (st:Stmt) (m:MS):Prop:=PS X st (tMS X.K X.mg md P R m)
def VSs (X:Cx) (md:List Md) (P:Pt) (R:RR) (st:List Stmt) (m:MS):Prop:=PSs X st (tMS X.K X.mg md P R m)
section
variable {X:Cx}{md:List Md}{P:Pt}{R:RR}
theorem PE.imp {e:Expr}{t t':TE} (h:PE X e t) (k:∀σ H Q,t' σ H Q→t σ H Q):PE X e t':=fun pins s σ H Q I q=>h pins s σ H Q I (k σ H Q q)
theorem PT.imp {e:Expr}{t t':TT} (h:PT X e t) (k:∀σ H Q,t' σ H Q→t σ H Q):PT X e t':=fun pins s σ H Q I q=>h pins s σ H Q I (k σ H Q q)
theorem PW.imp {e:Expr}{t t':TT} (h:PW X e t) (k:∀σ H Q,t' σ H Q→t σ H Q):PW X e t':=fun w pins s σ H Q I q=>h w pins s σ H Q I (k σ H Q q)
theorem PA.imp {e:List Expr}{t t':TA} (h:PA X e t) (k:∀σ H Q,t' σ H Q→t σ H Q):PA X e t':=fun pos pins s σ H Q I q=>h pos pins s σ H Q I (k σ H Q q)
theorem PS.imp {e:Stmt}{t t':TS} (h:PS X e t) (k:∀D σ H,t' D σ H→t D σ H):PS X e t':=fun pins s σ H D I q=>h pins s σ H D I (k D σ H q)
theorem PSs.imp {e:List Stmt}{t t':TS} (h:PSs X e t) (k:∀D σ H,t' D σ H→t D σ H):PSs X e t':=fun pins s σ H D I q=>h pins s σ H D I (k D σ H q)
def Qab (i:Nat):M D:=fun ρ O=>match ρ[i]? with
 | some (some d)=>.ok d O
 | _=>.no
def mC (d:D):M D:=fun _ O=>.ok d O
def mG (m:M D):M D:=fun ρ O=>match m ρ O with
 | .ok d O'=>if Qfz d=true then .ok d O' else .no
 | r=>r
theorem QjE {i:Nat}{ρ:Qal}{O O':Qac}{d:D} (h:Qab i ρ O = .ok d O'):ρ[i]? = some (some d)∧O'=O:=by
 unfold Qab at h;split at h
 ·rename_i d' e;cases h;exact ⟨e,rfl⟩
 ·cases h
theorem Qxb {m:M D}{ρ:Qal}{O O':Qac}{d:D} (h:mG m ρ O = .ok d O'):m ρ O = .ok d O'∧Qfz d=true:=by
 unfold mG at h;split at h
 ·rename_i d' O1 e;split at h
  ·rename_i hn;cases h;exact ⟨e,hn⟩
  ·cases h
 ·rename_i hne;exact absurd h (hne _ _)
theorem SlO.get {K:Frag}{ρ:Qal}{σ:St}{H F:Hp}{as:List Addr}{i:Nat}{d:D} (s:SlO K md P ρ σ H F as) (h:ρ[i]? = some (some d)):∃m v,md[i]? = some m∧σ[i]? = some (some v)∧QfK P K H F as m v d:=by
 have hi:i < md.length:=by rw [←s.len']; exact (zj.mp h).1
 obtain ⟨v,h1,h2⟩:=s.sl i md[i] d (zK hi) h;exact ⟨_,v,zK hi,h1,h2⟩
theorem QfK.sv {K:Frag}{H F:Hp}{as:List Addr}{m:Md}{v:V}{d:D} (h:QfK P K H F as m v d):Sv K H F as v d:=by
 cases m with
 | v=>exact .inl h
 | s =>
  rcases h with h | ⟨a,xs,ds,e1,e2,e3,e4,e5,e6⟩
  ·exact .inl h
  ·exact .inr ⟨a,xs,ds,e1,e2,e3,e4,e6⟩
 | o =>
  rcases h with ⟨_,h⟩ | ⟨a,xs,ds,e1,e2,e3,e0,e4,e5,e6⟩
  ·exact .inl h
  ·exact .inr ⟨a,xs,ds,e1,e2,e3,e4,e6⟩
theorem Qap (i:Nat) {x:Str}{pos:Pos} (hN:X.N[i]? = some x:=by rfl) (hv:Vis X.env.scope x:=by first | exact Or.inl rfl | exact Or.inr (Or.inl rfl) | exact Or.inr (Or.inr rfl))
  (hd:(x == ("__debug__":Str))=false:=by decide) (hcd:(x == ("__classdict__":Str))=false:=by decide):SE X md P (.Name x pos) (Qab i):=by
 refine (Qfm (i:=i) hN hv hd hcd).imp fun σ H Q h=>?_
 obtain ⟨ρ,O,F,as,d,O',r,s,e,k⟩:=h;obtain ⟨e1,rfl⟩:=QjE e;obtain ⟨m,v,h1,h2,h3⟩:=s.get e1;exact ⟨v,h2,k v H F as Gr.refl r h3.sv⟩
theorem Qag (i:Nat) {x:Str}{pos:Pos} (hm:md[i]? = some .v:=by rfl) (hN:X.N[i]? = some x:=by rfl) (hv:Vis X.env.scope x:=by first | exact Or.inl rfl | exact Or.inr (Or.inl rfl) | exact Or.inr (Or.inr rfl))
  (hd:(x == ("__debug__":Str))=false:=by decide) (hcd:(x == ("__classdict__":Str))=false:=by decide):VE X md P (.Name x pos) (Qab i):=by
 refine (Qfm (i:=i) hN hv hd hcd).imp fun σ H Q h=>?_
 obtain ⟨ρ,O,F,as,d,O',r,s,e,k⟩:=h;obtain ⟨e1,rfl⟩:=QjE e;obtain ⟨v,h2,h3⟩:=s.sl i .v d hm e1;exact ⟨v,h2,k v H F as Gr.refl r h3⟩
theorem Qad {e:Expr}{m:M D} (h:VE X md P e m):SE X md P e m:=h.imp fun σ H Q q=>by
 obtain ⟨ρ,O,F,as,d,O',r,s,e,k⟩:=q;exact ⟨ρ,_,F,as,_,_,r,s,e,fun v H' F' as' g r' hv=>k v H' F' as' g r' (.inl hv)⟩
theorem QaI {e:Expr}{m:M D} (h:OE X md P e m):SE X md P e m:=h.imp fun σ H Q q=>by
 obtain ⟨ρ,O,F,as,d,O',r,s,e,k⟩:=q;exact ⟨ρ,_,F,as,_,_,r,s,e,fun v H' F' as' g r' hv=>k v H' F' as' g r' (Ow.sv hv)⟩
theorem Qde {e:Expr}{m:M D} (h:SE X md P e m):VE X md P e (mG m):=h.imp fun σ H Q q=>by
 obtain ⟨ρ,O,F,as,d,O',r,s,e,k⟩:=q;obtain ⟨e,hn⟩:=Qxb e;exact ⟨ρ,_,F,as,_,_,r,s,e,fun v H' F' as' g r' hv=>k v H' F' as' g r' (Sv.rp hv hn)⟩
theorem QaV {e:Expr}{m:M D} (h:OE X md P e m):VE X md P e m:=h.imp fun σ H Q q=>by
 obtain ⟨ρ,O,F,as,d,O',r,s,e,k⟩:=q;refine ⟨ρ,_,F,as,_,_,r,s,e,fun v H' F' as' g r' hv=>?_⟩
 rcases hv with ⟨_,hv⟩ | ⟨a,xs,ds,rfl,rfl,e3,e4,e5,e6,e7⟩
 ·exact k v H' F' as' g r' hv
 ·have ff:Same F' (upd F' a (.lst xs)):=fun b u q=>by rw [Qam (Qax q e4)]; exact q
  refine k _ H' (upd F' a (.lst xs)) as' (g.frz e6 e4) (r'.frz e3 e4 e5 rfl) (Rp.mkL (.inl (.inl QaE)) (Rps.mono ff (fun _ _ z=>z) _ e7))
theorem QnB {e:Expr}{v:V}{d:D} (h:PE X e (tC v)) (hd:∀K F as,Rp K F as v d):VE X md P e (mC d):=h.imp fun σ H Q q=>by
 obtain ⟨ρ,O,F,as,d,O',r,s,e,k⟩:=q;cases e;exact k v H F as Gr.refl r (hd _ _ _)
theorem Qan {i:Int}{j pos}:VE X md P (.Constant (.int i) j pos) (mC (.int i)):=QnB QvY fun _ _ _=>Rp.int
theorem QbP {b:Bool}{j pos}:VE X md P (.Constant (.bool b) j pos) (mC (.bl b)):=QnB Qwl fun _ _ _=>Rp.bl
theorem QnJ {j pos}:VE X md P (.Constant .none j pos) (mC .non):=QnB QvH fun _ _ _=>Rp.non
theorem Qav {x:Str}{j pos} (l:List Nat) (hx:x=S l:=by decide +kernel):VE X md P (.Constant (.str x) j pos) (mC (.str l)):=QnB Qqb fun _ _ _=>by rw [hx]; exact Rp.str
theorem QdY {x:Str}{v:V}{d:D}{pos:Pos} (h:∃u,X.mg x=some u∧RelV v u) (hd:∀K F as,Rp K F as v d) (hg:Gl X x:=by rfl) (hdb:(x == ("__debug__":Str))=false:=by decide):VE X md P (.Name x pos) (mC d):=QnB (Qm4 h hg hdb) hd
def Qae:M (List D):=fun _ O=>.ok [] O
def Qaa (m:M D) (r:M (List D)):M (List D):=fun ρ O=>(m ρ O).bind fun d O1=>(r ρ O1).bind fun ds O2=>.ok (d::ds) O2
theorem Qah:AE X md P [] [] Qae:=Qc6.imp fun σ H Q q=>by
 obtain ⟨ρ,O,F,as,d,O',r,s,e,k⟩:=q;cases e;exact k [] H F as Gr.refl r trivial
theorem rA.gr {K:Frag}{m:Md}{N:Addr→Prop}{H F H' F':Hp}{as as':List Addr}{v:V}{d:D} (h:rA K m N H F as v d) (g:Gr H F as H' F' as'):rA K m (fun _=>True) H' F' as' v d:=by
 cases m with
 | v=>exact Rp.gr (show Rp K F as v d from h) g
 | s=>exact Sv.gr (show Sv K H F as v d from h) g
 | o=>exact Sv.gr (show Sv K H F as v d from h) g
theorem QbV.gr {K:Frag}{H F H' F':Hp}{as as':List Addr} (g:Gr H F as H' F' as'):∀{ms:List Md}{vs:List V}{ds:List D},QbV K H F as ms vs ds→QbV K H' F' as' ms vs ds
 | [],[],[],_=>trivial
 | m::ms,v::vs,d::ds,h=>⟨rA.gr h.1 g,QbV.gr g h.2⟩
 | [],[],_::_,h=>h.elim
 | [],_::_,[],h=>h.elim
 | [],_::_,_::_,h=>h.elim
 | _::_,[],[],h=>h.elim
 | _::_,[],_::_,h=>h.elim
 | _::_,_::_,[],h=>h.elim
theorem QoO (md0:Md) {e:Expr}{es:List Expr}{m:M D}{ms:List Md}{r:M (List D)} (h:XE X md P (rA X.K md0) e m) (hr:AE X md P ms es r)
  (hs:starEach (e::es) X.env=(false,eval e X.env)::starEach es X.env:=by exact Qa7 rfl):AE X md P (md0::ms) (e::es) (Qaa m r):=(QbY h hr hs).imp fun σ H Q q=>by
 obtain ⟨ρ,O,F,as,d,O',r0,s,e,k⟩:=q;obtain ⟨d,O1,e1,e⟩:=Res.bind_ok e;obtain ⟨ds',O2,e2,e⟩:=Res.bind_ok e;cases e;refine ⟨ρ,_,F,as,_,_,r0,s,e1,fun v H1 F1 as1 g1 r1 hv=>?_⟩;refine ⟨ρ,_,F1,as1,_,_,r1,s.step g1,e2,fun vs H2 F2 as2 g2 r2 hvs=>?_⟩;exact k (v::vs) H2 F2 as2 (g1.trans g2) r2 ⟨rA.gr hv g2,hvs⟩
theorem Qar {e:Expr}{es:List Expr}{m:M D}{ms:List Md}{r:M (List D)} (h:VE X md P e m) (hr:AE X md P ms es r)
  (hs:starEach (e::es) X.env=(false,eval e X.env)::starEach es X.env:=by exact Qa7 rfl):AE X md P (.v::ms) (e::es) (Qaa m r):=QoO .v h hr hs
theorem Qau {e:Expr}{es:List Expr}{m:M D}{ms:List Md}{r:M (List D)} (h:SE X md P e m) (hr:AE X md P ms es r)
  (hs:starEach (e::es) X.env=(false,eval e X.env)::starEach es X.env:=by exact Qa7 rfl):AE X md P (.s::ms) (e::es) (Qaa m r):=QoO .s h hr hs
theorem QbV.rps {K:Frag}{H F:Hp}{as:List Addr}:∀{n:Nat}{vs:List V}{ds:List D},QbV K H F as (List.replicate n .v) vs ds→Rps K F as vs ds
 | 0,[],[],_=>Rps.nil
 | n+1,v::vs,d::ds,h=>by
  rw [List.replicate_succ] at h;exact Rps.cons h.1 (QbV.rps h.2)
 | 0,[],_::_,h=>h.elim
 | 0,_::_,[],h=>h.elim
 | 0,_::_,_::_,h=>h.elim
 | n+1,[],[],h=>h.elim
 | n+1,[],_::_,h=>h.elim
 | n+1,_::_,[],h=>h.elim
def Qa0 (r:M (List D)):M D:=fun ρ O=>(r ρ O).bind fun ds O1=>if ds.length≤1000000 then .ok (.lst ds) O1 else .no
def Qbn (r:M (List D)):M D:=fun ρ O=>(r ρ O).bind fun ds O1=>if ds.length≤1000000 then .ok (.tup ds) O1 else .no
theorem QeN {n:Nat} (h:n≤1000000):n≤sizeLine:=zA h (by decide)
theorem Qbd {es:List Expr}{pos:Pos}{r:M (List D)} (n:Nat) (h:AE X md P (List.replicate n .v) es r):OE X md P (.List es pos) (Qa0 r):=(QuQ h).imp fun σ H Q q=>by
 obtain ⟨ρ,O,F,as,d,O',r0,s,e,k⟩:=q;obtain ⟨ds,O1,e1,e⟩:=Res.bind_ok e;split at e
 ·rename_i hz;cases e;refine ⟨ρ,_,F,as,_,_,r0,s,e1,fun vs H1 F1 as1 g1 r1 hv=>?_⟩;have hr:=hv.rps;refine ⟨by rw [hr.length]; exact QeN hz,fun p hp=>?_⟩
  have hF:F1 p=none:=by
   cases q:F1 p with
   | none=>rfl
   | some o=>rw [r1.fh p o q] at hp; cases hp
  refine k _ _ F1 as1 (g1.trans (Gr.lay hp)) (r1.lay hp) (.inr ⟨p,vs,ds,rfl,rfl,QaE,hF,fun z=>r1.all z hp,g1.dm p hp,hr⟩)
 ·cases e
theorem Qbh {es:List Expr}{pos:Pos}{x1}{r:M (List D)} (n:Nat) (h:AE X md P (List.replicate n .v) es r):VE X md P (.Tuple es x1 pos) (Qbn r):=(Qqx h).imp fun σ H Q q=>by
 obtain ⟨ρ,O,F,as,d,O',r0,s,e,k⟩:=q;obtain ⟨ds,O1,e1,e⟩:=Res.bind_ok e;split at e
 ·rename_i hz;cases e;refine ⟨ρ,_,F,as,_,_,r0,s,e1,fun vs H1 F1 as1 g1 r1 hv=>?_⟩;have hr:=hv.rps;refine ⟨by rw [hr.length]; exact QeN hz,fun p hp=>?_⟩
  have hF:F1 p=none:=by
   cases q:F1 p with
   | none=>rfl
   | some o=>rw [r1.fh p o q] at hp; cases hp
  have ff:Same F1 (upd F1 p (.tup vs)):=fun b u q=>by rw [Qam (Qax q hF)]; exact q
  refine k _ _ (upd F1 p (.tup vs)) as1 ((g1.trans (Gr.lay hp)).frz (g1.dm p hp) hF) ((r1.lay hp).frz QaE hF (fun z=>r1.all z hp) rfl) (Rp.mkT (.inl QaE) (Rps.mono ff (fun _ _ z=>z) _ hr))
 ·cases e
def rD (K:Frag) (mg:Str→Option Value) (g:D→D→Option D):R2:=fun x y H Q=>∃O F as dx dy d,RlO K mg O H F as∧Lk K H F as x dx∧Lk K H F as y dy∧g dx dy=some d ∧
 ∀v' H' F',Gr H F as H' F' as→RlO K mg O H' F' as→Ow K (fun a=>H a=none) H' F' as v' d→Q v' H'
abbrev OpD (X:Cx) (f:Value→Value→Sem Value) (g:D→D→Option D):Prop:=OpR X f (rD X.K X.mg g)
def Qaf (g:D→D→Option D) (ma mb:M D):M D:=fun ρ O=>(ma ρ O).bind fun x O1=>(mb ρ O1).bind fun y O2=>match g (QaL O2 x) (QaL O2 y) with
 | some d=>.ok d O2
 | none=>.no
theorem Qm8 {K:Frag}{mg:Str→Option Value}{g:D→D→Option D}{ma mb:M D}{σ:St}{H:Hp}{Q:VK} (h:tM K mg md P (rO K) (Qaf g ma mb) σ H Q):tOp (rD K mg g) (tM K mg md P (rS K) ma) (tM K mg md P (rS K) mb) σ H Q:=by
 obtain ⟨ρ,O,F,as,d,O',r,sl,e,k⟩:=h;obtain ⟨x,O1,e1,e⟩:=Res.bind_ok e;obtain ⟨y,O2,e2,e⟩:=Res.bind_ok e;split at e
 ·rename_i d' hg;cases e;refine ⟨ρ,_,F,as,_,_,r,sl,e1,fun v H1 F1 as1 g1 r1 hv=>?_⟩;refine ⟨ρ,_,F1,as1,_,_,r1,sl.step g1,e2,fun u H2 F2 as2 g2 r2 hu=>?_⟩;refine ⟨_,F2,as2,_,_,_,r2,Sv.lk (Sv.gr hv g2) r2,Sv.lk hu r2,hg,fun v' H' F' g' r' hw=>?_⟩;exact k v' H' F' as2 ((g1.trans g2).trans g') r' (Qdg _ _ _ _ _ _ _ (fun a ha=>(g1.trans g2).dm a ha) hw)
 ·cases e
theorem Qa3 {e1 e2:Expr}{pos:Pos}{op:Operator}{g:D→D→Option D}{ma mb:M D} (ho:OpD X (binaryOp op) g) (ha:SE X md P e1 ma) (hb:SE X md P e2 mb):OE X md P (.BinOp e1 op e2 pos) (Qaf g ma mb) :=
 (Qwh ho ha hb).imp fun _ _ _=>Qm8
theorem Qf4 {e1 e2:Expr}{pos:Pos}{op:CmpOp}{g:D→D→Option D}{ma mb:M D} (ho:OpD X (compareOp op) g) (ha:SE X md P e1 ma) (hb:SE X md P e2 mb) (hm:behindInMarks op e2=false):OE X md P (.Compare e1 [op] [e2] pos) (Qaf g ma mb) :=
 (QtD ho ha hb hm).imp fun _ _ _=>Qm8
def QaD (m:M D):M Bool:=fun ρ O=>(m ρ O).bind fun d O1=>match d with
 | .bl b=>.ok b O1
 | _=>.no
theorem QoH {K:Frag}{mg:Str→Option Value}{m:M D}{σ:St}{H:Hp}{Q:Bool→Hp→Prop} (h:tMT K mg md P (QaD m) σ H Q):Qo8 (tM K mg md P (rO K) m) σ H Q:=by
 obtain ⟨ρ,O,F,as,d,O',r,sl,e,k⟩:=h;obtain ⟨d,O1,e1,e⟩:=Res.bind_ok e
 cases d with
 | bl c =>
  cases e;refine ⟨ρ,_,F,as,_,_,r,sl,e1,fun v H1 F1 as1 g1 r1 hv=>?_⟩
  rcases hv with ⟨_,hv⟩ | ⟨a,xs,ds,_,e2,_⟩
  ·exact ⟨_,hv.unB,k H1 F1 as1 g1 r1⟩
  ·cases e2
 | _=>cases e
theorem QaQ {e1 e2:Expr}{pos:Pos}{op:CmpOp}{g:D→D→Option D}{ma mb:M D} (ho:OpD X (compareOp op) g) (ha:SE X md P e1 ma) (hb:SE X md P e2 mb) (hm:behindInMarks op e2=false):TsE X md P (.Compare e1 [op] [e2] pos) (QaD (Qaf g ma mb)) :=
 (Qtt ho ha hb hm).imp fun σ H Q h=>by
  have q:=QoH h;exact Qm8 q
def QhY (g g':D→D→Option D) (ma mb mc:M D):M D:=fun ρ O=>(ma ρ O).bind fun x O1=>(mb ρ O1).bind fun y O2=>match g (QaL O2 x) (QaL O2 y) with
 | some (.bl true)=>(mc ρ O2).bind fun z O3=>match g' (QaL O3 y) (QaL O3 z) with
  | some d=>.ok d O3
  | none=>.no
 | some (.bl false)=>.ok (.bl false) O2
 | _=>.no
theorem Qsj {K:Frag}{mg:Str→Option Value}{g g':D→D→Option D}{ma mb mc:M D}{σ:St}{H:Hp}{Q:VK} (h:tM K mg md P (rO K) (QhY g g' ma mb mc) σ H Q) :
  Qrd (rD K mg g) (rD K mg g') (tM K mg md P (rS K) ma) (tM K mg md P (rS K) mb) (tM K mg md P (rS K) mc) σ H Q:=by
 obtain ⟨ρ,O,F,as,d,O',r,sl,e,k⟩:=h;obtain ⟨x,O1,e1,e⟩:=Res.bind_ok e;obtain ⟨y,O2,e2,e⟩:=Res.bind_ok e;refine ⟨ρ,_,F,as,_,_,r,sl,e1,fun v H1 F1 as1 g1 r1 hv=>?_⟩;refine ⟨ρ,_,F1,as1,_,_,r1,sl.step g1,e2,fun u H2 F2 as2 g2 r2 hu=>?_⟩;split at e
 ·rename_i hg;obtain ⟨z,O3,e3,e⟩:=Res.bind_ok e;refine ⟨_,F2,as2,_,_,_,r2,Sv.lk (Sv.gr hv g2) r2,Sv.lk hu r2,hg,fun v' H' F' g' r' hw=>?_⟩
  rcases hw with ⟨_,hw⟩ | ⟨a,xs,ds,_,z,_⟩
  ·refine ⟨true,hw.unB,?_⟩;rw [if_pos rfl];split at e
   ·rename_i d' hg';cases e;have g3:=(g1.trans g2).trans g';refine ⟨ρ,_,F',as2,_,_,r',sl.step g3,e3,fun w H4 F4 as4 g4 r4 hz=>?_⟩;refine ⟨_,F4,as4,_,_,_,r4,Sv.lk (Sv.gr (Sv.gr hu g') g4) r4,Sv.lk hz r4,hg',fun v5 H5 F5 g5 r5 hw5=>?_⟩;exact k v5 H5 F5 as4 ((g3.trans g4).trans g5) r5 (Qdg _ _ _ _ _ _ _ (fun a ha=>(g3.trans g4).dm a ha) hw5)
   ·cases e
  ·cases z
 ·rename_i hg;cases e;refine ⟨_,F2,as2,_,_,_,r2,Sv.lk (Sv.gr hv g2) r2,Sv.lk hu r2,hg,fun v' H' F' g' r' hw=>?_⟩
  rcases hw with ⟨_,hw⟩ | ⟨a,xs,ds,_,z,_⟩
  ·refine ⟨false,hw.unB,?_⟩;rw [if_neg zh];exact k _ H' F' as2 ((g1.trans g2).trans g') r' (.inl ⟨rfl,Rp.bl⟩)
  ·cases z
 ·cases e
theorem QmI {a b c:Expr}{pos:Pos}{op op':CmpOp}{g g':D→D→Option D}{ma mb mc:M D} (ho:OpD X (compareOp op) g) (ho':OpD X (compareOp op') g') (ha:SE X md P a ma) (hb:SE X md P b mb) (hc:SE X md P c mc)
  (hm:lastMarks [op,op'] [b,c]=false:=by with_unfolding_all rfl):OE X md P (.Compare a [op,op'] [b,c] pos) (QhY g g' ma mb mc):=(Qsq ho ho' ha hb hc hm).imp fun _ _ _=>Qsj
def isNon:D→Bool
 | .non=>true
 | _=>false
def Qyg (m:M D):M D:=fun ρ O=>(m ρ O).bind fun d O1=>.ok (.bl (isNon d)) O1
def Qmv (m:M D):M D:=fun ρ O=>(m ρ O).bind fun d O1=>.ok (.bl (!isNon d)) O1
theorem Sv.isN {K:Frag}{H F:Hp}{as:List Addr}{v:V}{d:D} (h:Sv K H F as v d):decide (v = .non)=isNon d:=by
 rcases h with h | ⟨a,xs,ds,rfl,rfl,_⟩
 ·cases d with
  | non=>rw [h.unN]; rfl
  | bl b=>rw [h.unB]; rfl
  | int b=>rw [h.unI]; rfl
  | str b=>rw [h.unS]; rfl
  | lst b=>obtain ⟨a,xs,rfl,_⟩:=h.unL; rfl
  | tup b=>obtain ⟨a,xs,rfl,_⟩:=h.unT; rfl
  | dic k b=>obtain ⟨a,xs,rfl,_⟩:=h.unD; rfl
  | ob b=>obtain ⟨a,rfl,_⟩:=h.unO; rfl
 ·rfl
theorem Qtb {K:Frag}{mg:Str→Option Value}{m:M D}{σ:St}{H:Hp}{Q:VK} (h:tM K mg md P (rO K) (Qmv m) σ H Q):QsL (tM K mg md P (rS K) m) σ H Q:=by
 obtain ⟨ρ,O,F,as,d,O',r,sl,e,k⟩:=h;obtain ⟨x,O1,e1,e⟩:=Res.bind_ok e;cases e;refine ⟨ρ,_,F,as,_,_,r,sl,e1,fun v H1 F1 as1 g1 r1 hv=>?_⟩;dsimp only;rw [Sv.isN hv];exact k _ H1 F1 as1 g1 r1 (.inl ⟨rfl,Rp.bl⟩)
theorem QwL {t t':TE}{σ:St}{H:Hp}{Q:Bool→Hp→Prop} (h:∀Q',t σ H Q'→t' σ H Q') (q:Qo8 t σ H Q):tB t' σ H Q:=h _ q
theorem QtS {a:Expr}{pos pos':Pos}{j}{m:M D} (h:SE X md P a m):TsE X md P (.Compare a [.IsNot] [.Constant .none j pos'] pos) (QaD (Qmv m)):=(Qvh (Qtp h)).imp fun _ _ _ q=>QwL (fun _=>Qtb) (QoH q)
def Qld:D→Option Bool
 | .non=>some false
 | .bl b=>some b
 | .int i=>some (i != 0)
 | .str l=>if l.length≤1000000 then some (!l.isEmpty) else none
 | .lst ds=>some (!ds.isEmpty)
 | .tup ds=>some (!ds.isEmpty)
 | .dic ks _=>some (!ks.isEmpty)
 | .ob _=>none
def Qbv (m:M D):M Bool:=fun ρ O=>(m ρ O).bind fun d O1=>match Qld (QaL O1 d) with
 | some b=>.ok b O1
 | none=>.no
theorem QlY {α β:Type}{xs:List α}{ys:List β} (h:xs.length=ys.length):(!xs.isEmpty) = !ys.isEmpty:=by
 cases xs <;> cases ys <;> simp_all
theorem Lk.tru {K:Frag}{H F:Hp}{as:List Addr}{v:V}{d:D}{b:Bool} (h:Lk K H F as v d) (fh:Same F H) (e:Qld d=some b):Qr1 K v H b:=by
 cases d with
 | non=>rw [(h.rp rfl).unN]; cases e; rfl
 | bl b=>rw [(h.rp rfl).unB]; cases e; rfl
 | int b=>rw [(h.rp rfl).unI]; cases e; rfl
 | str l =>
  rw [(h.rp rfl).unS];simp only [Qld] at e;split at e
  ·rename_i hl;cases e;refine ⟨by rw [Qb4]; exact QeN hl,?_⟩;rw [Qb4]
   cases l with
   | nil=>rfl
   | cons c l =>
    have:((((c::l).length:Nat):Int) != 0)=true:=by
     rw [bne_iff_ne,zq];omega
    rw [this];rfl
  ·cases e
 | lst ds =>
  obtain ⟨a,xs,rfl,h1,h2⟩:=h.list fh;cases e;exact .inl ⟨xs,h1.sq,(QlY h2.length).symm⟩
 | tup ds =>
  obtain ⟨a,xs,rfl,h1,h2⟩:=(h.rp rfl).unT;cases e;exact .inr (.inl ⟨xs,Same.seqT fh h1,(QlY h2.length).symm⟩)
 | dic ks vs =>
  obtain ⟨a,kvs,rfl,h1,rfl,h2⟩:=(h.rp rfl).unD;cases e;exact .inr (.inr ⟨kvs,fh _ _ h1,by cases kvs <;> rfl⟩)
 | ob n=>cases e
theorem QbF {a:Expr}{m:M D} (h:SE X md P a m) (he:∀whole,isTrue a X.env whole=(do let v ←whole; standAt a.pos; holding [v] (truthy v)):=by intro _; rfl):TsE X md P a (Qbv m):=(Qsz h he).imp fun σ H Q q=>by
 obtain ⟨ρ,O,F,as,d,O',r,sl,e,k⟩:=q;obtain ⟨d,O1,e1,e⟩:=Res.bind_ok e;split at e
 ·rename_i c hc;cases e;exact ⟨ρ,_,F,as,_,_,r,sl,e1,fun v H1 F1 as1 g1 r1 hv=>⟨_,Lk.tru (Sv.lk hv r1) r1.fh hc,k H1 F1 as1 g1 r1⟩⟩
 ·cases e
def QcW (a b:M Bool):M Bool:=fun ρ O=>(a ρ O).bind fun c O1=>if c=true then b ρ O1 else .ok false O1
def QcC (a b:M Bool):M Bool:=fun ρ O=>(a ρ O).bind fun c O1=>if c=true then .ok true O1 else b ρ O1
def Qca (a:M Bool):M Bool:=fun ρ O=>(a ρ O).bind fun c O1=>.ok (!c) O1
theorem Quh {K:Frag}{mg:Str→Option Value}{ma mb:M Bool}{σ:St}{H:Hp}{Q:Bool→Hp→Prop} (h:tMT K mg md P (QcW ma mb) σ H Q):QuV (tMT K mg md P ma) (tMT K mg md P mb) σ H Q:=by
 obtain ⟨ρ,O,F,as,d,O',r,sl,e,k⟩:=h;obtain ⟨c,O1,e1,e⟩:=Res.bind_ok e;refine ⟨ρ,_,F,as,_,_,r,sl,e1,fun H1 F1 as1 g1 r1=>?_⟩
 cases c with
 | true =>
  rw [if_pos rfl] at e ⊢;exact ⟨ρ,_,F1,as1,_,_,r1,sl.step g1,e,fun H2 F2 as2 g2 r2=>k H2 F2 as2 (g1.trans g2) r2⟩
 | false =>
  rw [if_neg zh] at e ⊢;cases e;exact k H1 F1 as1 g1 r1
theorem QvE {K:Frag}{mg:Str→Option Value}{ma mb:M Bool}{σ:St}{H:Hp}{Q:Bool→Hp→Prop} (h:tMT K mg md P (QcC ma mb) σ H Q):tOr (tMT K mg md P ma) (tMT K mg md P mb) σ H Q:=by
 obtain ⟨ρ,O,F,as,d,O',r,sl,e,k⟩:=h;obtain ⟨c,O1,e1,e⟩:=Res.bind_ok e;refine ⟨ρ,_,F,as,_,_,r,sl,e1,fun H1 F1 as1 g1 r1=>?_⟩
 cases c with
 | true =>
  rw [if_pos rfl] at e ⊢;cases e;exact k H1 F1 as1 g1 r1
 | false =>
  rw [if_neg zh] at e ⊢;exact ⟨ρ,_,F1,as1,_,_,r1,sl.step g1,e,fun H2 F2 as2 g2 r2=>k H2 F2 as2 (g1.trans g2) r2⟩
theorem QhZ {a:Expr}{pos:Pos}{m:M Bool} (h:TsE X md P a m):TwE X md P (.BoolOp .And [a] pos) m:=QtL h
theorem Qe5 {a:Expr}{pos:Pos}{m:M Bool} (h:TsE X md P a m):TwE X md P (.BoolOp .Or [a] pos) m:=Qvl h
theorem QeG {a b:Expr}{rest:List Expr}{pos:Pos}{ma mb:M Bool} (ha:TsE X md P a ma) (hb:TwE X md P (.BoolOp .And (b::rest) pos) mb):TwE X md P (.BoolOp .And (a::b::rest) pos) (QcW ma mb):=(QuA ha hb).imp fun _ _ _=>Quh
theorem QeM {a b:Expr}{rest:List Expr}{pos:Pos}{ma mb:M Bool} (ha:TsE X md P a ma) (hb:TwE X md P (.BoolOp .Or (b::rest) pos) mb):TwE X md P (.BoolOp .Or (a::b::rest) pos) (QcC ma mb):=(Qws ha hb).imp fun _ _ _=>QvE
theorem Qfb {e:Expr}{m:M Bool} (h:TwE X md P e m):TsE X md P e m:=PW.pt h
theorem QdG {a:Expr}{pos:Pos}{m:M Bool} (h:TsE X md P a m):TsE X md P (.UnaryOp .Not a pos) (Qca m):=(QvL h).imp fun σ H Q q=>by
 obtain ⟨ρ,O,F,as,d,O',r,sl,e,k⟩:=q;obtain ⟨c,O1,e1,e⟩:=Res.bind_ok e;cases e;exact ⟨ρ,_,F,as,_,_,r,sl,e1,k⟩
def Qeg (ma mb:M D):M D:=fun ρ O=>(ma ρ O).bind fun d O1=>match d with
 | .bl true=>mb ρ O1
 | .bl false=>.ok (.bl false) O1
 | _=>.no
def Qln (ma mb:M D):M D:=fun ρ O=>(ma ρ O).bind fun d O1=>match d with
 | .bl true=>.ok (.bl true) O1
 | .bl false=>mb ρ O1
 | _=>.no
def Qmx (ma:M D):M D:=fun ρ O=>(ma ρ O).bind fun d O1=>match d with
 | .bl b=>.ok (.bl (!b)) O1
 | _=>.no
theorem Qf1 {a:Expr}{pos:Pos}{op}{m:M D} (h:VE X md P a m):VE X md P (.BoolOp op [a] pos) m:=QuD h
theorem QeF {a b:Expr}{rest:List Expr}{pos:Pos}{ma mb:M D} (ha:VE X md P a ma) (hb:VE X md P (.BoolOp .And (b::rest) pos) mb):VE X md P (.BoolOp .And (a::b::rest) pos) (Qeg ma mb):=(Qu3 ha hb).imp fun σ H Q q=>by
 obtain ⟨ρ,O,F,as,d,O',r,sl,e,k⟩:=q;obtain ⟨x,O1,e1,e⟩:=Res.bind_ok e;refine ⟨ρ,_,F,as,_,_,r,sl,e1,fun v H1 F1 as1 g1 r1 hv=>?_⟩
 cases x with
 | bl c =>
  refine ⟨c,Rp.unB hv,?_⟩
  cases c with
  | true =>
   rw [if_pos rfl];exact ⟨ρ,_,F1,as1,_,_,r1,sl.step g1,e,fun v2 H2 F2 as2 g2 r2 hv2=>k v2 H2 F2 as2 (g1.trans g2) r2 hv2⟩
  | false =>
   rw [if_neg zh];cases e;exact k _ H1 F1 as1 g1 r1 Rp.bl
 | _=>cases e
theorem Qw7 {a b:Expr}{rest:List Expr}{pos:Pos}{ma mb:M D} (ha:VE X md P a ma) (hb:VE X md P (.BoolOp .Or (b::rest) pos) mb):VE X md P (.BoolOp .Or (a::b::rest) pos) (Qln ma mb):=(Qwe ha hb).imp fun σ H Q q=>by
 obtain ⟨ρ,O,F,as,d,O',r,sl,e,k⟩:=q;obtain ⟨x,O1,e1,e⟩:=Res.bind_ok e;refine ⟨ρ,_,F,as,_,_,r,sl,e1,fun v H1 F1 as1 g1 r1 hv=>?_⟩
 cases x with
 | bl c =>
  refine ⟨c,Rp.unB hv,?_⟩
  cases c with
  | true =>
   rw [if_pos rfl];cases e;exact k _ H1 F1 as1 g1 r1 Rp.bl
  | false =>
   rw [if_neg zh];exact ⟨ρ,_,F1,as1,_,_,r1,sl.step g1,e,fun v2 H2 F2 as2 g2 r2 hv2=>k v2 H2 F2 as2 (g1.trans g2) r2 hv2⟩
 | _=>cases e
theorem Qq9 {a:Expr}{pos:Pos}{m:M D} (h:VE X md P a m):VE X md P (.UnaryOp .Not a pos) (Qmx m):=(QvG h).imp fun σ H Q q=>by
 obtain ⟨ρ,O,F,as,d,O',r,sl,e,k⟩:=q;obtain ⟨x,O1,e1,e⟩:=Res.bind_ok e;refine ⟨ρ,_,F,as,_,_,r,sl,e1,fun v H1 F1 as1 g1 r1 hv=>?_⟩
 cases x with
 | bl c =>
  cases e;exact ⟨c,Rp.unB hv,k _ H1 F1 as1 g1 r1 Rp.bl⟩
 | _=>cases e
def mIf (t:M Bool) (a b:M D):M D:=fun ρ O=>(t ρ O).bind fun c O1=>if c=true then a ρ O1 else b ρ O1
end
section
variable {K:Frag}{mg:Str→Option Value}{md:List Md}{P:Pt}{R:RR}{ρ:Qal}{σ:St}{H F H' F':Hp}{as as':List Addr}{O O':Qac}
theorem SlO.set {i:Nat}{m:Md}{v:V}{d:D} (s:SlO K md P ρ σ H F as) (hm:md[i]? = some m) (hns:m≠.s) (hv:QfK P K H F as m v d)
  (hj:∀(a:Addr) (ds:List D) (j:Nat) (es:List D),m = .o→v = .ref a→d = .lst ds→i≠j→md[j]? = some .o→ρ[j]? = some (some (.lst es))→σ[j]?≠some (some (.ref a))):SlO K md P (ρ.set i (some d)) (σ.set i (some v)) H F as:=by
 have hi:i < md.length:=(zj.mp hm).1;refine ⟨by rw [zR]; exact s.len,by rw [zR]; exact s.len',s.pd,fun j m' d' e1 e2=>?_,fun j k a ds es h1 h2 h3 h4 h5 h6=>?_,fun x hx=>?_⟩
 ·by_cases h:i=j
  ·subst h;rw [hm] at e1; cases e1;rw [zE (by rw [s.len']; exact hi)] at e2;cases e2;exact ⟨v,zE (by rw [s.len]; exact hi),hv⟩
  ·rw [ze h] at e2;rw [ze h];exact s.sl j m' d' e1 e2
 ·by_cases hij:i=j
  ·by_cases hik:i=k
   ·rw [←hij,←hik]
   ·exfalso
    subst hij;rw [hm] at h1; cases h1;rw [zE (by rw [s.len']; exact hi)] at h3;rw [zE (by rw [s.len]; exact hi)] at h5;rw [ze hik] at h4 h6;cases h3; cases h5;exact hj a ds k es rfl rfl rfl hik h2 h4 h6
  ·by_cases hik:i=k
   ·exfalso
    subst hik;rw [hm] at h2; cases h2;rw [zE (by rw [s.len']; exact hi)] at h4;rw [zE (by rw [s.len]; exact hi)] at h6;rw [ze hij] at h3 h5;cases h4; cases h6;exact hj a es j ds rfl rfl rfl hij h1 h3 h5
   ·rw [ze hij] at h3 h5;rw [ze hik] at h4 h6;exact s.inj j k a ds es h1 h2 h3 h4 h5 h6
 ·obtain ⟨p1,p2,p3⟩:=s.pin x hx
  have hne:i≠x.1:=fun z=>by
   rw [←z,hm] at p1;exact hns (zH p1)
  exact ⟨p1,by rw [ze hne]; exact p2,by rw [ze hne]; exact p3⟩
theorem SlO.setV {i:Nat}{v:V}{d:D} (s:SlO K md P ρ σ H F as) (hm:md[i]? = some .v) (hv:Rp K F as v d):SlO K md P (ρ.set i (some d)) (σ.set i (some v)) H F as :=
 s.set hm (by decide) hv fun _ _ _ _ z=>nomatch z
theorem SlO.setN {i:Nat}{v:V}{d:D} (s:SlO K md P ρ σ H F as) (hm:md[i]? = some .o) (hn:Qfz d=true) (hv:Rp K F as v d):SlO K md P (ρ.set i (some d)) (σ.set i (some v)) H F as :=
 s.set hm (by decide) (.inl ⟨hn,hv⟩) fun _ _ _ _ _ _ z=>by subst z; cases hn
theorem SlO.setO {i:Nat}{v:V}{d:D}{H0:Hp} (s:SlO K md P ρ σ H0 F as) (g:Gr H0 F as H' F' as') (hm:md[i]? = some .o) (hv:Ow K (fun a=>H0 a=none) H' F' as' v d):SlO K md P (ρ.set i (some d)) (σ.set i (some v)) H' F' as':=by
 have s':=s.step g
 rcases hv with ⟨hn,hv⟩ | ⟨a,xs,ds,rfl,rfl,e3,e4,e5,e6,e7⟩
 ·exact s'.setN hm hn hv
 ·refine s'.set hm (by decide) (.inr ⟨a,xs,ds,rfl,rfl,e3,e4,e5,fun p=>s.pd a p e6,e7⟩) fun b ds' j es _ hb hd hij hj he hs=>?_
  cases hb;obtain ⟨v,h1,h2⟩:=s.sl j .o _ hj he;rw [hs] at h1; cases h1
  rcases h2 with ⟨h2,_⟩ | ⟨a',xs',_,z1,_,z3,_⟩
  ·cases h2
  ·cases z1;rw [e6] at z3; cases z3
end
section
variable {X:Cx}{md:List Md}{P:Pt}{R:RR}
def Qay:MS:=fun ρ O=>.nx ρ O
def Qaj (a b:MS):MS:=fun ρ O=>match a ρ O with
 | .nx ρ' O'=>b ρ' O'
 | r=>r
theorem QaM:VSs X md P R [] Qay:=Qoe.imp fun D σ H q=>by
 obtain ⟨ρ,O,F,as,r,s,k⟩:=q;exact k σ H F as GrS.refl r s
theorem Qd1 {K:Frag}{mg:Str→Option Value}{D:Ends}{H F H1 F1:Hp}{as as1:List Addr} (g:GrS P H F as H1 F1 as1) {f:Fl} (k:QeU K mg md P R D H F as f):QeU K mg md P R D H1 F1 as1 f:=by
 cases f with
 | nx ρ' O'=>exact fun σ' H' F' as' g'=>k σ' H' F' as' (g.trans g')
 | bk ρ' O'=>exact fun σ' H' F' as' g'=>k σ' H' F' as' (g.trans g')
 | ct ρ' O'=>exact fun σ' H' F' as' g'=>k σ' H' F' as' (g.trans g')
 | rt d O'=>exact fun σ' H' F' as' g'=>k σ' H' F' as' (g.trans g')
 | ex _ _=>exact k
 | no=>exact k
theorem Qak {st:Stmt}{rest:List Stmt}{a b:MS} (h1:VS X md P R st a) (h2:VSs X md P R rest b):VSs X md P R (st::rest) (Qaj a b):=(QmL h1 h2).imp fun D σ H q=>by
 obtain ⟨ρ,O,F,as,r,s,k⟩:=q;refine ⟨ρ,O,F,as,r,s,?_⟩;unfold Qaj at k
 cases e:a ρ O with
 | nx ρ' O' =>
  rw [e] at k;dsimp only at k
  exact fun σ' H' F' as' g r' s'=>⟨ρ',O',F',as',r',s',Qd1 g k⟩
 | bk ρ' O'=>rw [e] at k; exact k
 | ct ρ' O'=>rw [e] at k; exact k
 | rt d O'=>rw [e] at k; exact k
 | ex x O'=>rw [e] at k; exact k
 | no=>rw [e] at k; exact k
theorem Qao {st:Stmt}{a:MS} (h1:VS X md P R st a):VSs X md P R [st] a:=Qor h1
def Qh9 (m:M D):MS:=fun ρ O=>match m ρ O with
 | .ok _ O'=>.nx ρ O'
 | .ex x O'=>.ex x O'
 | .no=>.no
theorem QoV {e:Expr}{pos:Pos}{m:M D} (h:SE X md P e m) (hs:swapsWith e none pos.line X.env=pure false:=by rfl):VS X md P R (.Expr e pos) (Qh9 m):=(Qh3 h hs).imp fun D σ H q=>by
 obtain ⟨ρ,O,F,as,r,s,k⟩:=q;unfold Qh9 at k
 cases e:m ρ O with
 | ok d O' =>
  rw [e] at k;exact ⟨ρ,_,F,as,_,_,r,s,e,fun v H' F' as' g r' _=>k σ H' F' as' g.toS r' (s.step g)⟩
 | ex x O'=>rw [e] at k; exact False.elim k
 | no=>rw [e] at k; exact False.elim k
def Qaw (m:M D):MS:=fun ρ O=>match m ρ O with
 | .ok d O'=>.rt d O'
 | .ex x O'=>.ex x O'
 | .no=>.no
theorem QqG (hR:QcO R) {e:Expr}{pos:Pos}{m:M D} (h:PE X e (tM X.K X.mg md P R m)):VS X md P R (.Return (some e) pos) (Qaw m):=(Qqq h).imp fun D σ H q=>by
 obtain ⟨ρ,O,F,as,r,s,k⟩:=q;unfold Qaw at k
 cases e:m ρ O with
 | ok d O' =>
  rw [e] at k;exact ⟨ρ,_,F,as,_,_,r,s,e,fun v H' F' as' g r' hv=>k v H' F' as' g.toS r' (hR _ _ _ _ _ _ _ (fun a ha p=>s.pd a p ha) hv)⟩
 | ex x O'=>rw [e] at k; exact False.elim k
 | no=>rw [e] at k; exact False.elim k
theorem Qaz {e:Expr}{pos:Pos}{m:M D} (h:VE X md P e m):VS X md P (rV X.K) (.Return (some e) pos) (Qaw m):=QqG Qbr h
theorem QgE {e:Expr}{pos:Pos}{m:M D} (h:OE X md P e m):VS X md P (rO X.K) (.Return (some e) pos) (Qaw m):=QqG Qdg h
theorem QjM (i:Nat) {x:Str}{p pos:Pos} (hm:md[i]? = some .o:=by rfl) (hN:X.N[i]? = some x:=by rfl) (hv:Vis X.env.scope x:=by first | exact Or.inl rfl | exact Or.inr (Or.inl rfl) | exact Or.inr (Or.inr rfl))
  (hd:(x == ("__debug__":Str))=false:=by decide) (hcd:(x == ("__classdict__":Str))=false:=by decide):VS X md P (rO X.K) (.Return (some (.Name x p)) pos) (Qaw (Qab i)):=(Qqq (Qfm (i:=i) hN hv hd hcd)).imp fun D σ H q=>by
 obtain ⟨ρ,O,F,as,r,s,k⟩:=q;unfold Qaw at k
 cases e:Qab i ρ O with
 | ok d O' =>
  rw [e] at k;obtain ⟨e1,rfl⟩:=QjE e;obtain ⟨v,h1,h2⟩:=s.sl i .o d hm e1;refine ⟨v,h1,k v H F as GrS.refl r ?_⟩
  rcases h2 with h2 | ⟨a,xs,ds,e1,e2,e3,e0,e4,e5,e6⟩
  ·exact .inl h2
  ·exact .inr ⟨a,xs,ds,e1,e2,e3,e0,e4,e5,e6⟩
 | ex x O'=>rw [e] at k; exact False.elim k
 | no=>rw [e] at k; exact False.elim k
def QaT (t:M Bool) (a b:MS):MS:=fun ρ O=>match t ρ O with
 | .ok c O'=>if c=true then a ρ O' else b ρ O'
 | .ex x O'=>.ex x O'
 | .no=>.no
theorem Qa4 {c:Expr}{a b:List Stmt}{pos:Pos}{t:M Bool}{ma mb:MS} (hc:TsE X md P c t) (ha:VSs X md P R a ma) (hb:VSs X md P R b mb):VS X md P R (.If c a b pos) (QaT t ma mb):=(QsT hc ha hb).imp fun D σ H q=>by
 obtain ⟨ρ,O,F,as,r,s,k⟩:=q;unfold QaT at k
 cases e:t ρ O with
 | ok c O' =>
  rw [e] at k;refine ⟨ρ,_,F,as,_,_,r,s,e,fun H1 F1 as1 g r1=>?_⟩;dsimp only at k
  cases c with
  | true =>
   rw [if_pos rfl] at k ⊢;exact ⟨ρ,O',F1,as1,r1,s.step g,Qd1 g.toS k⟩
  | false =>
   rw [if_neg zh] at k ⊢;exact ⟨ρ,O',F1,as1,r1,s.step g,Qd1 g.toS k⟩
 | ex x O'=>rw [e] at k; exact False.elim k
 | no=>rw [e] at k; exact False.elim k
def Qas (i:Nat) (m:M D):MS:=fun ρ O=>match m ρ O with
 | .ok d O'=>.nx (ρ.set i (some d)) O'
 | .ex x O'=>.ex x O'
 | .no=>.no
theorem QoB {K:Frag}{mg:Str→Option Value}{i:Nat}{m:M D}{t:TE} (hm:md[i]? = some .v) (ht:∀σ H Q,tM K mg md P (rV K) m σ H Q→t σ H Q) {D:Ends}{σ:St}{H:Hp} (q:tMS K mg md P R (Qas i m) D σ H):QnN t (QkK i) D σ H:=by
 obtain ⟨ρ,O,F,as,r,s,k⟩:=q;unfold Qas at k
 cases e:m ρ O with
 | ok d O' =>
  rw [e] at k;exact ht _ _ _ ⟨ρ,_,F,as,_,_,r,s,e,fun v H' F' as' g r' hv=>k _ H' F' as' g.toS r' ((s.step g).setV hm hv)⟩
 | ex x O'=>rw [e] at k; exact False.elim k
 | no=>rw [e] at k; exact False.elim k
theorem Qt4 {K:Frag}{mg:Str→Option Value}{i:Nat}{m:M D}{t:TE} (hm:md[i]? = some .o) (ht:∀σ H Q,tM K mg md P (rO K) m σ H Q→t σ H Q) {D:Ends}{σ:St}{H:Hp} (q:tMS K mg md P R (Qas i m) D σ H):QnN t (QkK i) D σ H:=by
 obtain ⟨ρ,O,F,as,r,s,k⟩:=q;unfold Qas at k
 cases e:m ρ O with
 | ok d O' =>
  rw [e] at k;exact ht _ _ _ ⟨ρ,_,F,as,_,_,r,s,e,fun v H' F' as' g r' hv=>k _ H' F' as' g.toS r' (s.setO g hm hv)⟩
 | ex x O'=>rw [e] at k; exact False.elim k
 | no=>rw [e] at k; exact False.elim k
theorem QaU {i:Nat}{x:Str}{e:Expr}{pos pos':Pos}{m:M D} (hN:X.N.Nodup) (hi:X.N[i]? = some x) (hx:Loc X.env.scope x) (h:VE X md P e m) (hm:md[i]? = some .v:=by rfl) (hs:swapsWith e (some (.Name x pos')) pos.line X.env=pure false:=by rfl)
  (hf:X.fn x=true∨X.env.scope.names.lookup x=some .local:=by first | exact .inl rfl | exact .inr rfl | assumption):VS X md P R (.Assign [.Name x pos'] e pos) (Qas i m):=(QmQ (i:=i) hN hi hx h hs hf).imp fun D σ H q=>QoB hm (fun _ _ _ z=>z) q
theorem Qdj {i:Nat}{x:Str}{e:Expr}{pos pos':Pos}{m:M D} (hN:X.N.Nodup) (hi:X.N[i]? = some x) (hx:Loc X.env.scope x) (h:OE X md P e m) (hm:md[i]? = some .o:=by rfl) (hs:swapsWith e (some (.Name x pos')) pos.line X.env=pure false:=by rfl)
  (hf:X.fn x=true∨X.env.scope.names.lookup x=some .local:=by first | exact .inl rfl | exact .inr rfl | assumption):VS X md P R (.Assign [.Name x pos'] e pos) (Qas i m):=(QmQ (i:=i) hN hi hx h hs hf).imp fun D σ H q=>Qt4 hm (fun _ _ _ z=>z) q
abbrev MG:=D→Qal→Option Qal
def tMG (K:Frag) (mg:Str→Option Value) (md:List Md) (P:Pt) (g:MG):TG:=fun v σ H Q=>∃ρ O F as d ρ',RlO K mg O H F as∧SlO K md P ρ σ H F as∧Rp K F as v d∧g d ρ=some ρ'∧∀σ',SlO K md P ρ' σ' H F as→Q σ' H
def QxH (K:Frag) (mg:Str→Option Value) (md:List Md) (P:Pt) (g:List D→Qal→Option Qal):TGs:=fun vs σ H Q=>∃ρ O F as ds ρ',RlO K mg O H F as∧SlO K md P ρ σ H F as∧Rps K F as vs ds∧g ds ρ=some ρ'∧∀σ',SlO K md P ρ' σ' H F as→Q σ' H
def VG (X:Cx) (md:List Md) (P:Pt) (tg:Expr) (g:MG):Prop:=PG X tg (tMG X.K X.mg md P g)
def VGs (X:Cx) (md:List Md) (P:Pt) (tg:List Expr) (g:List D→Qal→Option Qal):Prop:=PGs X tg (QxH X.K X.mg md P g)
theorem PG.imp {e:Expr}{t t':TG} (h:PG X e t) (k:∀v σ H Q,t' v σ H Q→t v σ H Q):PG X e t':=fun pins s σ H v u Q I r q=>h pins s σ H v u Q I r (k v σ H Q q)
theorem PGs.imp {e:List Expr}{t t':TGs} (h:PGs X e t) (k:∀v σ H Q,t' v σ H Q→t v σ H Q):PGs X e t':=fun pins s σ H v u Q I r q=>h pins s σ H v u Q I r (k v σ H Q q)
def mgN (i:Nat):MG:=fun d ρ=>some (ρ.set i (some d))
theorem QbI {i:Nat}{x:Str}{pos:Pos} (hN:X.N.Nodup) (hi:X.N[i]? = some x) (hx:Loc X.env.scope x) (hm:md[i]? = some .v:=by rfl) (hf:X.fn x=true∨X.env.scope.names.lookup x=some .local:=by first | exact .inl rfl | exact .inr rfl | assumption):VG X md P (.Name x pos) (mgN i) :=
 (QtB (i:=i) hN hi hx hf).imp fun v σ H Q q=>by
  obtain ⟨ρ,O,F,as,d,ρ',r,s,hv,e,k⟩:=q;cases e;exact k _ (s.setV hm hv)
def Qdi:List D→Qal→Option Qal:=fun ds ρ=>match ds with
 | []=>some ρ
 | _=>none
def Qa6 (g:MG) (r:List D→Qal→Option Qal):List D→Qal→Option Qal:=fun ds ρ=>match ds with
 | d::ds=>(g d ρ).bind fun ρ1=>r ds ρ1
 | []=>none
theorem QhW:VGs X md P [] Qdi:=Qt3.imp fun v σ H Q q=>by
 obtain ⟨ρ,O,F,as,ds,ρ',r,s,hv,e,k⟩:=q
 cases ds with
 | nil=>cases e; exact ⟨hv.un0,k _ s⟩
 | cons _ _=>cases e
theorem QcS {e:Expr}{es:List Expr}{g:MG}{r:List D→Qal→Option Qal} (h1:VG X md P e g) (h2:VGs X md P es r) (hs:(assignEach (e::es) X.env).map (·.2)=assign e X.env::(assignEach es X.env).map (·.2):=by rfl):VGs X md P (e::es) (Qa6 g r) :=
 (QrN h1 h2 hs).imp fun v σ H Q q=>by
  obtain ⟨ρ,O,F,as,ds,ρ',r0,s,hv,e,k⟩:=q
  cases ds with
  | nil=>cases e
  | cons d ds =>
   obtain ⟨x,rs,rfl,hx,hr⟩:=hv.un;unfold Qa6 at e;dsimp only at e
   cases e1:g d ρ with
   | none=>rw [e1] at e; cases e
   | some ρ1 =>
    rw [e1] at e;exact ⟨x,rs,rfl,ρ,O,F,as,d,ρ1,r0,s,hx,e1,fun σ' s'=>⟨ρ1,O,F,as,ds,ρ',r0,s',hr,e,k⟩⟩
def Qfq (n:Nat) (r:List D→Qal→Option Qal):MG:=fun d ρ=>match d with
 | .tup ds=>if ds.length=n then r ds ρ else none
 | _=>none
theorem Qjd {es:List Expr}{pos:Pos}{k:Nat}{r:List D→Qal→Option Qal} (n:Nat) (hc:X.calm=true) (h:VGs X md P es r) (hn:(assignEach es X.env).length=n:=by rfl) (hst:(assignEach es X.env).findIdx? (·.1)=none:=by rfl):VG X md P (.Tuple es k pos) (Qfq n r) :=
 (Qu6 hc h hn hst).imp fun v σ H Q q=>by
  obtain ⟨ρ,O,F,as,d,ρ',r0,s,hv,e,k⟩:=q
  cases d with
  | tup ds =>
   obtain ⟨a,xs,rfl,h1,h2⟩:=hv.unT;unfold Qfq at e;dsimp only at e;split at e
   ·rename_i hl;exact ⟨a,xs,rfl,Same.seqT r0.fh h1,by rw [h2.length]; exact hl,ρ,O,F,as,ds,ρ',r0,s,h2,e,k⟩
   ·cases e
  | _=>cases e
def QjL (m:M D) (g:MG):MS:=fun ρ O=>match m ρ O with
 | .ok d O'=>match g d ρ with
  | some ρ'=>.nx ρ' O'
  | none=>.no
 | .ex x O'=>.ex x O'
 | .no=>.no
theorem QvZ {tg e:Expr}{pos:Pos}{m:M D}{g:MG} (h:VE X md P e m) (hg:VG X md P tg g) (hs:swapsWithSole [tg] e pos.line X.env=pure false:=by rfl) (hw:swappedStores [tg] e X.env=pure none:=by rfl)
  (h1:(assignEach [tg] X.env).map (·.2) = [assign tg X.env]:=by rfl):VS X md P R (.Assign [tg] e pos) (QjL m g):=(Qrl h hg hs hw h1).imp fun D σ H q=>by
 obtain ⟨ρ,O,F,as,r,s,k⟩:=q;unfold QjL at k
 cases e:m ρ O with
 | ok d O' =>
  rw [e] at k;dsimp only at k
  cases e2:g d ρ with
  | none=>rw [e2] at k; exact False.elim k
  | some ρ' =>
   rw [e2] at k;refine ⟨ρ,_,F,as,_,_,r,s,e,fun v H1 F1 as1 g1 r1 hv=>?_⟩;exact ⟨ρ,O',F1,as1,d,ρ',r1,s.step g1,hv,e2,fun σ' s'=>k σ' H1 F1 as1 g1.toS r1 s'⟩
 | ex x O'=>rw [e] at k; exact False.elim k
 | no=>rw [e] at k; exact False.elim k
end
structure JOk (K:Frag) (mg:Str→Option Value) (P:Pt) (J:It) (ds:List D) (H F:Hp) (as:List Addr):Prop where
 turn:∀(i:Nat) (d:D) (H2 F2:Hp) (as2:List Addr),GrS P H F as H2 F2 as2→(∃O,RlO K mg O H2 F2 as2)→ds[i]? = some d→J.go i H2∧∀x H3,J.yld i H2 x H3→∃F3,Gr H2 F2 as2 H3 F3 as2∧(∀O,RlO K mg O H2 F2 as2→RlO K mg O H3 F3 as2)∧Rp K F3 as2 x d
 stop:∀(H2 F2:Hp) (as2:List Addr),GrS P H F as H2 F2 as2→(∃O,RlO K mg O H2 F2 as2)→J.stop ds.length H2
structure Qvw (K:Frag) (mg:Str→Option Value) (J:It) (ds:List D) (H F:Hp) (as:List Addr):Prop where
 turn:∀(i:Nat) (d:D) (H2 F2:Hp) (as2:List Addr),Gr H F as H2 F2 as2→(∃O,RlO K mg O H2 F2 as2)→ds[i]? = some d→J.go i H2∧∀x H3,J.yld i H2 x H3→∃F3,Gr H2 F2 as2 H3 F3 as2∧(∀O,RlO K mg O H2 F2 as2→RlO K mg O H3 F3 as2)∧Rp K F3 as2 x d
 stop:∀(H2 F2:Hp) (as2:List Addr),Gr H F as H2 F2 as2→(∃O,RlO K mg O H2 F2 as2)→J.stop ds.length H2
theorem JOk.e {K:Frag}{mg:Str→Option Value}{P:Pt}{J:It}{ds:List D}{H F:Hp}{as:List Addr} (h:JOk K mg P J ds H F as):Qvw K mg J ds H F as:=⟨fun i d H2 F2 as2 g=>h.turn i d H2 F2 as2 g.toS,fun H2 F2 as2 g=>h.stop H2 F2 as2 g.toS⟩
def Qv8 (K:Frag) (mg:Str→Option Value) (md:List Md) (P:Pt) (m:M (List D)):TI:=fun σ H Q=>∃ρ O F as ds O',RlO K mg O H F as∧SlO K md P ρ σ H F as∧m ρ O = .ok ds O' ∧
 ∀J H' F' as',Gr H F as H' F' as'→RlO K mg O' H' F' as'→Qvw K mg J ds H' F' as'→Q J H'
def VIc (X:Cx) (md:List Md) (P:Pt) (tg iter:Expr) (m:M (List D)):Prop:=PI X tg iter (Qv8 X.K X.mg md P m)
def tMI (K:Frag) (mg:Str→Option Value) (md:List Md) (P:Pt) (m:M (List D)):TI:=fun σ H Q=>∃ρ O F as ds O',RlO K mg O H F as∧SlO K md P ρ σ H F as∧m ρ O = .ok ds O' ∧
 ∀J H' F' as',Gr H F as H' F' as'→RlO K mg O' H' F' as'→JOk K mg P J ds H' F' as'→Q J H'
def VI (X:Cx) (md:List Md) (P:Pt) (tg iter:Expr) (m:M (List D)):Prop:=PI X tg iter (tMI X.K X.mg md P m)
section
variable {X:Cx}{md:List Md}{P:Pt}{R:RR}
theorem PI.imp {tg e:Expr}{t t':TI} (h:PI X tg e t) (k:∀σ H Q,t' σ H Q→t σ H Q):PI X tg e t':=fun pins s σ H Q I q=>h pins s σ H Q I (k σ H Q q)
theorem Qm6 {tg e:Expr}{m:M (List D)} (h:VI X md P tg e m):VIc X md P tg e m:=h.imp fun σ H Q q=>by
 obtain ⟨ρ,O,F,as,ds,O',r,s,e,k⟩:=q;exact ⟨ρ,O,F,as,ds,O',r,s,e,fun J H' F' as' g r' hJ=>k J H' F' as' g r' hJ.e⟩
def Qa5 (g:MG) (b:MS):List D→MS
 | [],ρ,O=>.nx ρ O
 | d::ds,ρ,O=>match g d ρ with
  | none=>.no
  | some ρ1=>match b ρ1 O with
   | .nx ρ2 O2=>Qa5 g b ds ρ2 O2
   | .ct ρ2 O2=>Qa5 g b ds ρ2 O2
   | .bk ρ2 O2=>.nx ρ2 O2
   | r=>r
def Qct (m:M (List D)) (g:MG) (b:MS):MS:=fun ρ O=>match m ρ O with
 | .ok ds O'=>Qa5 g b ds ρ O'
 | .ex x O'=>.ex x O'
 | .no=>.no
theorem QvU {K:Frag}{mg:Str→Option Value}{m:M (List D)}{g:MG}{b:MS}{D:Ends}{σ:St}{H:Hp} (q:tMS K mg md P R (Qct m g b) D σ H):Qm3 (tMI K mg md P m) (tMG K mg md P g) (tMS K mg md P R b) D σ H:=by
 obtain ⟨ρ,O,F,as,r,s,k⟩:=q;unfold Qct at k
 cases e:m ρ O with
 | ex x O'=>rw [e] at k; exact False.elim k
 | no=>rw [e] at k; exact False.elim k
 | ok ds O1 =>
  rw [e] at k;dsimp only at k;refine ⟨ρ,_,F,as,_,_,r,s,e,fun J H1 F1 as1 g1 r1 hJ=>?_⟩;have k1:=Qd1 (R:=R) g1.toS k;refine ⟨fun i m σ' H'=>m=ds.length - i∧i≤ds.length∧∃ρ' O' F' as',GrS P H1 F1 as1 H' F' as'∧RlO K mg O' H' F' as'∧SlO K md P ρ' σ' H' F' as'∧QeU K mg md P R D H' F' as' (Qa5 g b (ds.drop i) ρ' O'),⟨ds.length,by simp,Nat.zero_le _,ρ,O1,F1,as1,GrS.refl,r1,s.step g1,by rw [List.drop_zero]; exact k1⟩,?_⟩;rintro i n σ' H' ⟨rfl,hi,ρ',O',F',as',g',r',s',k'⟩
  by_cases hlt:i < ds.length
  ·have hd:=zK hlt;obtain ⟨go,yl⟩:=hJ.turn i _ H' F' as' g' ⟨O',r'⟩ hd;rw [List.drop_eq_getElem_cons hlt] at k';refine .inr ⟨go,fun σ2 H2=>∃ρ2 O2 F2 as2,GrS P H1 F1 as1 H2 F2 as2∧RlO K mg O2 H2 F2 as2∧SlO K md P ρ2 σ2 H2 F2 as2∧QeU K mg md P R D H2 F2 as2 (Qa5 g b (ds.drop (i+1)) ρ2 O2),fun σ2 H2 h2=>⟨ds.length - (i+1),by omega,rfl,hlt,h2⟩,fun x H3 y=>?_⟩;obtain ⟨F3,g3,r3,hx⟩:=yl x H3 y;have r3':=r3 O' r';unfold Qa5 at k'
   cases eg:g ds[i] ρ' with
   | none=>rw [eg] at k'; exact False.elim k'
   | some ρ1 =>
    rw [eg] at k';dsimp only at k';refine ⟨ρ',O',F3,as',ds[i],ρ1,r3',s'.step g3,hx,eg,fun σ4 s4=>?_⟩;refine ⟨ρ1,O',F3,as',r3',s4,?_⟩;have g4:GrS P H1 F1 as1 H3 F3 as':=g'.trans g3.toS
    have keep:=fun {f}=>Qd1 (K:=K) (mg:=mg) (md:=md) (R:=R) (D:=D) (f:=f) (g3.toS (P:=P))
    cases eb:b ρ1 O' with
    | nx ρ2 O2 =>
     rw [eb] at k'
     exact fun σ2 H2 F2 as2 g2 r2 s2=>⟨ρ2,O2,F2,as2,g4.trans g2,r2,s2,Qd1 g2 (keep k')⟩
    | ct ρ2 O2 =>
     rw [eb] at k'
     exact fun σ2 H2 F2 as2 g2 r2 s2=>⟨ρ2,O2,F2,as2,g4.trans g2,r2,s2,Qd1 g2 (keep k')⟩
    | bk ρ2 O2 =>
     rw [eb] at k'
     exact fun σ2 H2 F2 as2 g2 r2 s2=>k' σ2 H2 F2 as2 (g3.toS.trans g2) r2 s2
    | rt d O2 =>
     rw [eb] at k'
     exact fun v H2 F2 as2 g2 r2 s2=>k' v H2 F2 as2 (g3.toS.trans g2) r2 s2
    | ex _ _=>rw [eb] at k'; exact False.elim k'
    | no=>rw [eb] at k'; exact False.elim k'
  ·have hi':i=ds.length:=by omega
   subst hi';refine .inl ⟨hJ.stop H' F' as' g' ⟨O',r'⟩,?_⟩;rw [List.drop_length] at k';exact k' σ' H' F' as' GrS.refl r' s'
theorem Qh2 {tg iter:Expr}{body:List Stmt}{pos:Pos}{m:M (List D)}{g:MG}{b:MS} (hc:X.calm=true) (hi:VI X md P tg iter m) (hg:VG X md P tg g) (hb:VSs X md P R body b) (hp:PassesOwn (model X.prog X.w) X.A X.env X.xe:=by exact PassesOwn.never)
  (hs:∀x,foldedSetIterable iter X.env x=pure x:=by intro _; rfl):VS X md P R (.For tg iter body [] pos) (Qct m g b):=(QkF hp hc hi hg hb hs).imp fun _ _ _ q=>QvU q
def Qc2 (g:MG) (t:M Bool) (m:M D):List D→Qal→Qac→List D→Res (List D)
 | [],ρ,O,acc=>.ok acc O
 | d::ds,ρ,O,acc=>match g d ρ with
  | none=>.no
  | some ρ1=>match t ρ1 O with
   | .ok true O1=>match m ρ1 O1 with
    | .ok y O2=>Qc2 g t m ds ρ1 O2 (acc ++ [y])
    | .ex x O'=>.ex x O'
    | .no=>.no
   | .ok false O1=>Qc2 g t m ds ρ1 O1 acc
   | .ex x O'=>.ex x O'
   | .no=>.no
def Qjn (own:Nat) (cap:List Nat) (ρ:Qal):Qal:=List.replicate own none++cap.map fun j=>(ρ[j]?).join
def Qgu (m:M (List D)) (own:Nat) (cap:List Nat) (g:MG) (t:M Bool) (e:M D):M D:=fun ρ O=>(m ρ O).bind fun ds O1=>if ds.length≤1000000 then (Qc2 g t e ds (Qjn own cap ρ) O1 []).bind fun ys O2=>.ok (.lst ys) O2 else .no
def QgL:M Bool:=fun _ O=>.ok true O
def cMd (own:Nat) (cap:List Nat) (md:List Md):List Md:=List.replicate own .v++cap.map fun j=>match md[j]? with
 | some .v=>.v
 | _=>.s
theorem QpL {K:Frag}{ρ:Qal}{σ:St}{H F:Hp}{as:List Addr}{own:List Str}{cap:List Nat} (s:SlO K md P ρ σ H F as) (hcap:∀j∈cap,j < md.length):SlO K (cMd own.length cap md) (Pt.all H) (Qjn own.length cap ρ) (compSt own cap σ) H F as:=by
 refine ⟨by simp [compSt,cMd],by simp [Qjn,cMd],fun a h=>h,fun i m d e1 e2=>?_,fun i j a ds es h1=>?_,fun _ z=>nomatch z⟩
 ·unfold Qjn at e2;unfold cMd at e1;unfold compSt
  by_cases hi:i < own.length
  ·rw [zt (by simpa using hi),List.getElem?_replicate_of_lt hi] at e2;cases e2
  ·have hi':own.length≤i:=Nat.le_of_not_lt hi;rw [zw (by simpa using hi'),List.length_replicate,zJ] at e2 e1;rw [zw (by simpa using hi'),zD,zJ]
   cases q:cap[i - own.length]? with
   | none=>rw [q] at e2; cases e2
   | some j =>
    rw [q] at e1 e2;simp only [Option.map_some,Option.some.injEq] at e1 e2 ⊢
    cases q2:ρ[j]? with
    | none=>rw [q2] at e2; cases e2
    | some o =>
     rw [q2] at e2;have e2':o=some d:=e2;subst e2';obtain ⟨m0,v,h1,h2,h3⟩:=s.get q2;rw [h1] at e1;refine ⟨v,by rw [h2]; rfl,?_⟩
     cases m0 with
     | v=>dsimp only at e1; subst e1; exact h3
     | s =>
      dsimp only at e1; subst e1
      rcases h3 with h3 | ⟨a,xs,ds,e1,e2,e3,e4,e5,e6⟩
      ·exact .inl h3
      ·exact .inr ⟨a,xs,ds,e1,e2,e3,e4,(show H a≠none by rw [e3]; exact fun z=>nomatch z),e6⟩
     | o =>
      dsimp only at e1; subst e1
      rcases h3 with ⟨_,h3⟩ | ⟨a,xs,ds,e1,e2,e3,e0,e4,e5,e6⟩
      ·exact .inl h3
      ·exact .inr ⟨a,xs,ds,e1,e2,e3,e4,(show H a≠none by rw [e3]; exact fun z=>nomatch z),e6⟩
 ·exfalso
  unfold cMd at h1
  by_cases hi:i < own.length
  ·rw [zt (by simpa using hi),List.getElem?_replicate_of_lt hi] at h1;cases h1
  ·have hi':own.length≤i:=Nat.le_of_not_lt hi;rw [zw (by simpa using hi'),List.length_replicate,zJ] at h1
   cases q:cap[i - own.length]? with
   | none=>rw [q] at h1; cases h1
   | some j =>
    rw [q] at h1;simp only [Option.map_some,Option.some.injEq] at h1
    split at h1 <;> cases h1
end
section
variable {X:Cx}{md:List Md}{P:Pt}{R:RR}
def xM (K:Frag) (mg:Str→Option Value) (md:List Md) (R:RR) (m:M D):TE:=fun σ H Q=>∃P,tM K mg md P R m σ H Q
def xMT (K:Frag) (mg:Str→Option Value) (md:List Md) (m:M Bool):TT:=fun σ H Q=>∃P,tMT K mg md P m σ H Q
def xMG (K:Frag) (mg:Str→Option Value) (md:List Md) (g:MG):TG:=fun v σ H Q=>∃P,tMG K mg md P g v σ H Q
theorem xm {e:Expr}{m:M D} (h:∀P,PE X e (tM X.K X.mg md P R m)):PE X e (xM X.K X.mg md R m):=fun pins s σ H Q I ⟨P,q⟩=>h P pins s σ H Q I q
theorem xmg {e:Expr}{g:MG} (h:∀P,VG X md P e g):PG X e (xMG X.K X.mg md g):=fun pins s σ H v u Q I r ⟨P,q⟩=>h P pins s σ H v u Q I r q
theorem xmt {e:List Expr}{m:M Bool} (h:∀P,Qko X e (tMT X.K X.mg md P m)):Qko X e (xMT X.K X.mg md m):=fun pins s σ H Q I ⟨P,q⟩=>h P pins s σ H Q I q
def VIf (X:Cx) (md:List Md) (P:Pt) (e:List Expr) (m:M Bool):Prop:=Qko X e (tMT X.K X.mg md P m)
theorem Qlq:VIf X md P [] QgL:=fun pins s σ H Q I q=>by
 obtain ⟨ρ,O,F,as,d,O',r,s,e,k⟩:=q;cases e;exact Qsu pins _ σ H Q I (k H F as Gr.refl r)
theorem Qof {K:Frag}{mg:Str→Option Value}{m:M (List D)}{own:List Str}{cap:List Nat}{g:MG}{t:M Bool}{e:M D} (hcap:∀j∈cap,j < md.length) {σ:St}{H:Hp}{Q:VK} (q:tM K mg md P (rO K) (Qgu m own.length cap g t e) σ H Q) :
  Qpa (Qv8 K mg md P m) own cap (xMG K mg (cMd own.length cap md) g) (xMT K mg (cMd own.length cap md) t) (xM K mg (cMd own.length cap md) (rV K) e) σ H Q:=by
 obtain ⟨ρ,O,F,as,d,OZ,r,s,eq,k⟩:=q;obtain ⟨ds,O1,e1,eq⟩:=Res.bind_ok eq;split at eq
 ·rename_i hz;obtain ⟨yf,O2,e2,eq⟩:=Res.bind_ok eq;cases eq;refine ⟨ρ,_,F,as,_,_,r,s,e1,fun J H1 F1 as1 g1 r1 hJ=>?_⟩;have sb:=QpL (own:=own) (s.step g1) hcap
  refine ⟨fun i n ys σ' H'=>n=ds.length - i∧i≤ds.length∧∃ρ' O' F' as' acc,Gr H1 F1 as1 H' F' as'∧RlO K mg O' H' F' as'∧SlO K (cMd own.length cap md) (Pt.all H1) ρ' σ' H' F' as'∧Rps K F' as' ys acc∧acc.length≤i ∧
   Qc2 g t e (ds.drop i) ρ' O' acc = .ok yf OZ,⟨ds.length,by simp,Nat.zero_le _,Qjn own.length cap ρ,O1,F1,as1,[],Gr.refl,r1,sb,Rps.nil,zc _,by rw [List.drop_zero]; exact e2⟩,?_⟩
  rintro i n ys σ' H' ⟨rfl,hi,ρ',O',F',as',acc,g',r',s',hy,hl,ec⟩
  by_cases hlt:i < ds.length
  ·obtain ⟨go,yl⟩:=hJ.turn i _ H' F' as' g' ⟨O',r'⟩ (zK hlt)
   refine .inr ⟨go,?_,fun ys σ2 H2=>∃ρ2 O3 F2 as2 acc2,Gr H1 F1 as1 H2 F2 as2∧RlO K mg O3 H2 F2 as2∧SlO K (cMd own.length cap md) (Pt.all H1) ρ2 σ2 H2 F2 as2∧Rps K F2 as2 ys acc2∧acc2.length≤i+1 ∧
    Qc2 g t e (ds.drop (i+1)) ρ2 O3 acc2 = .ok yf OZ,fun ys2 σ2 H2 h2=>⟨ds.length - (i+1),by omega,rfl,hlt,h2⟩,fun x H3 y=>?_⟩
   ·rw [hy.length]
    have:=QeN hz
    omega
   obtain ⟨F3,g3,r3,hx⟩:=yl x H3 y;have r3':=r3 O' r';have g13:=g'.trans g3;rw [List.drop_eq_getElem_cons hlt] at ec;unfold Qc2 at ec
   cases eg:g ds[i] ρ' with
   | none=>rw [eg] at ec; cases ec
   | some ρ1 =>
    rw [eg] at ec;dsimp only at ec;refine ⟨_,ρ',O',F3,as',ds[i],ρ1,r3',s'.step g3,hx,eg,fun σ4 s4=>?_⟩
    cases et:t ρ1 O' with
    | ex _ _=>rw [et] at ec; cases ec
    | no=>rw [et] at ec; cases ec
    | ok c O4 =>
     rw [et] at ec;refine ⟨_,ρ1,O',F3,as',c,O4,r3',s4,et,fun H5 F5 as5 g5 r5=>?_⟩
     cases c with
     | false =>
      rw [if_neg zh];exact ⟨ρ1,O4,F5,as5,acc,g13.trans g5,r5,s4.step g5,(hy.gr g3).gr g5,by omega,ec⟩
     | true =>
      rw [if_pos rfl];dsimp only at ec
      cases em:e ρ1 O4 with
      | ex _ _=>rw [em] at ec; cases ec
      | no=>rw [em] at ec; cases ec
      | ok yd O6 =>
       rw [em] at ec;refine ⟨_,ρ1,O4,F5,as5,yd,O6,r5,s4.step g5,em,fun vy H7 F7 as7 g7 r7 hvy=>?_⟩;exact ⟨ρ1,O6,F7,as7,acc ++ [yd],(g13.trans g5).trans g7,r7,(s4.step g5).step g7,(((hy.gr g3).gr g5).gr g7).snoc hvy,by rw [zu]; show acc.length+1≤i+1; omega,ec⟩
  ·have hi':i=ds.length:=by omega
   subst hi';rw [List.drop_length] at ec;cases ec;refine .inl ⟨hJ.stop H' F' as' g' ⟨_,r'⟩,?_,fun p hp=>?_⟩
   ·rw [hy.length];exact zA hl (QeN hz)
   ·have hF:F' p=none:=by
     cases q:F' p with
     | none=>rfl
     | some o=>rw [r'.fh p o q] at hp; cases hp
    exact k _ _ F' as' ((g1.trans g').trans (Gr.lay hp)) (r'.lay hp) (.inr ⟨p,ys,yf,rfl,rfl,QaE,hF,fun z=>r'.all z hp,(g1.trans g').dm p hp,hy⟩)
 ·cases eq
variable {tg iter elt:Expr}{ifs:List Expr}{scope:Scope}{pos:Pos}{mi:M (List D)}{g:MG}{t:M Bool}{e:M D}
theorem QoC (sc0:Scope) (N0 own:List Str) (cap:List Nat) (hc:X.calm=true) (hi:VIc X md P tg iter mi)
  (hg:∀C s H ex P,VG (Qbi X scope C (Qbp N0 own cap) s H ex) (cMd own.length cap md) P tg g) (ht:∀C s H ex P,VIf (Qbi X scope C (Qbp N0 own cap) s H ex) (cMd own.length cap md) P ifs t)
  (he:∀C s H ex P,VE (Qbi X scope C (Qbp N0 own cap) s H ex) (cMd own.length cap md) P elt e)
  (hcap:∀j∈cap,j < md.length:=by decide) (hsc:X.env.scope=sc0:=by rfl) (hN0:X.N=N0:=by rfl) (ok:Qia sc0 N0 scope own cap=true:=by decide +kernel) (hs:∀x,foldedSetIterable iter X.env x=pure x:=by intro _; rfl) :
  OE X md P (.ListComp elt [⟨tg,iter,ifs,0⟩] scope pos) (Qgu mi own.length cap g t e) :=
 (Qtw sc0 N0 own cap hc hi (fun C s H ex=>xmg (hg C s H ex)) (fun C s H ex=>xmt (ht C s H ex)) (fun C s H ex=>xm (he C s H ex)) hsc hN0 ok hs).imp fun _ _ _ q=>Qof hcap q
theorem Qst {i:Nat}{x:Str}{pos' spos:Pos} (sc0:Scope) (N0 own:List Str) (cap:List Nat) (hN:X.N.Nodup) (hx:X.N[i]? = some x) (hl:Loc X.env.scope x) (hc:X.calm=true) (hi:VIc X md P tg iter mi)
  (hg:∀C s H ex P,VG (Qbi X scope C (Qbp N0 own cap) s H ex) (cMd own.length cap md) P tg g) (ht:∀C s H ex P,VIf (Qbi X scope C (Qbp N0 own cap) s H ex) (cMd own.length cap md) P ifs t)
  (he:∀C s H ex P,VE (Qbi X scope C (Qbp N0 own cap) s H ex) (cMd own.length cap md) P elt e)
  (hm:md[i]? = some .v:=by rfl) (hcap:∀j∈cap,j < md.length:=by decide) (hsw:swapsWith (.ListComp elt [⟨tg,iter,ifs,0⟩] scope pos) (some (.Name x pos')) spos.line X.env=pure true:=by rfl)
  (hf:X.fn x=true∨X.env.scope.names.lookup x=some .local:=by first | exact .inl rfl | exact .inr rfl | assumption)
  (hsc:X.env.scope=sc0:=by rfl) (hN0:X.N=N0:=by rfl) (ok:Qia sc0 N0 scope own cap=true:=by decide +kernel) (hs:∀x,foldedSetIterable iter X.env x=pure x:=by intro _; rfl) :
  VS X md P R (.Assign [.Name x pos'] (.ListComp elt [⟨tg,iter,ifs,0⟩] scope pos) spos) (Qas i (Qgu mi own.length cap g t e)) :=
 (Qtc (i:=i) sc0 N0 own cap hN hx hl hc hi (fun C s H ex=>xmg (hg C s H ex)) (fun C s H ex=>xmt (ht C s H ex)) (fun C s H ex=>xm (he C s H ex)) hsw hf hsc hN0 ok hs).imp fun D σ H q =>
  QoB hm (fun σ H Q z=>Qof hcap (by
   obtain ⟨ρ,O,F,as,d,O',r,s,e,k⟩:=z;refine ⟨ρ,_,F,as,_,_,r,s,e,fun v H' F' as' g r' hv=>?_⟩
   rcases hv with ⟨_,hv⟩ | ⟨a,xs,ds,rfl,rfl,e3,e4,e5,e6,e7⟩
   ·exact k v H' F' as' g r' hv
   ·have ff:Same F' (upd F' a (.lst xs)):=fun b u q=>by rw [Qam (Qax q e4)]; exact q
    exact k _ H' (upd F' a (.lst xs)) as' (g.frz e6 e4) (r'.frz e3 e4 e5 rfl) (Rp.mkL (.inl (.inl QaE)) (Rps.mono ff (fun _ _ z=>z) _ e7)))) q
end
def vSp (K:Frag) (mg:Str→Option Value) (pm:List Md) (R:RR) (c:List D→Qac→Res D):Sp:=fun vs H Q _ =>
 ∃ds O F as d O',RlO K mg O H F as∧QbV K H F as pm vs ds∧c ds O = .ok d O'∧∀v H' F' as',Gr H F as H' F' as'→RlO K mg O' H' F' as'→R (fun a=>H a=none) H' F' as' v d→Q v H'
def Qa8 (n:Nat) (b:MS):List D→Qac→Res D:=fun ds O=>match b (ds.map some++List.replicate (n - ds.length) none) O with
 | .rt d O'=>.ok d O'
 | .nx _ O'=>.ok .non O'
 | .ex x O'=>.ex x O'
 | _=>.no
theorem QbV.len {K:Frag}{H F:Hp}{as:List Addr}:∀{ms:List Md}{vs:List V}{ds:List D},QbV K H F as ms vs ds→vs.length=ms.length∧ds.length=ms.length
 | [],[],[],_=>⟨rfl,rfl⟩
 | m::ms,v::vs,d::ds,h=>by
  have:=QbV.len h.2
  simp [this.1,this.2]
 | [],[],_::_,h=>h.elim
 | [],_::_,[],h=>h.elim
 | [],_::_,_::_,h=>h.elim
 | _::_,[],[],h=>h.elim
 | _::_,[],_::_,h=>h.elim
 | _::_,_::_,[],h=>h.elim
theorem QbV.get {K:Frag}{H F:Hp}{as:List Addr}:∀{ms:List Md}{vs:List V}{ds:List D}{i:Nat}{m:Md}{d:D},QbV K H F as ms vs ds→ms[i]? = some m→ds[i]? = some d→∃v,vs[i]? = some v∧rA K m (fun _=>True) H F as v d
 | m::ms,v::vs,d::ds,0,m',d',h,e1,e2=>by
  simp at e1 e2
  subst e1 e2;exact ⟨v,rfl,h.1⟩
 | m::ms,v::vs,d::ds,i+1,m',d',h,e1,e2=>by
  obtain ⟨v',h1,h2⟩:=QbV.get (i:=i) (m:=m') (d:=d') h.2 (by simpa using e1) (by simpa using e2);exact ⟨v',by simpa using h1,h2⟩
 | [],[],[],_,_,_,_,e1,_=>by simp at e1
 | [],[],_::_,_,_,_,h,_,_=>h.elim
 | [],_::_,[],_,_,_,h,_,_=>h.elim
 | [],_::_,_::_,_,_,_,h,_,_=>h.elim
 | _::_,[],[],_,_,_,h,_,_=>h.elim
 | _::_,[],_::_,_,_,_,h,_,_=>h.elim
 | _::_,_::_,[],_,_,_,h,_,_=>h.elim
theorem QfH {K:Frag}{H F:Hp}{as:List Addr}{N:List Str}{pm lm:List Md}{vs:List V}{ds:List D} (h:QbV K H F as pm vs ds) (hl:(pm++lm).length=N.length) (hp:∀m∈pm,m≠.o) :
  SlO K (pm++lm) (Pt.all H) (ds.map some++List.replicate (N.length - ds.length) none) (start N vs) H F as:=by
 obtain ⟨h1,h2⟩:=h.len;rw [zu] at hl
 have vsl:vs.length≤N.length:=by omega
 have no:∀i a,(ds.map some++List.replicate (N.length - ds.length) none)[i]? = some (some a)→i < ds.length:=fun i a e=>by
  by_cases hi:i < ds.length
  ·exact hi
  ·rw [zw (by simpa using hi),List.getElem?_replicate] at e
   split at e <;> cases e
 refine ⟨by unfold start; simp; omega,by simp; omega,fun a z=>z,fun i m d e1 e2=>?_,fun i j a es fs e1 e2 e3=>?_,fun _ z=>nomatch z⟩
 ·have hi:=no i d e2;rw [zt (by simpa using hi),zJ] at e2;rw [zt (by omega)] at e1
  cases q:ds[i]? with
  | none=>rw [q] at e2; cases e2
  | some d' =>
   rw [q] at e2;cases e2;obtain ⟨v,h3,h4⟩:=h.get e1 q;refine ⟨v,?_,?_⟩
   ·unfold start;rw [zt (by simp; omega),zJ,h3];rfl
   ·cases m with
    | v=>exact h4
    | s =>
     rcases h4 with h4 | ⟨a,xs,es,z1,z2,z3,z4,z5⟩
     ·exact .inl h4
     ·exact .inr ⟨a,xs,es,z1,z2,z3,z4,(show H a≠none by rw [z3]; exact fun z=>nomatch z),z5⟩
    | o=>exact absurd rfl (hp .o (zN e1))
 ·have hi:=no i _ e3;rw [zt (by omega)] at e1;exact absurd rfl (hp .o (zN e1))
section
variable {Pr:Program}{w:World}{K:Frag}{mg:Str→Option Value}{base:Heap}
theorem Qdu {x:Str}{st:Stmt}{N ps:List Str}{k:Nat} (Df:Def K mg x st) (S:QaA N ps (Qai st))
  (hb:∀(kV doc pm:Value) (an:Option Addr) (cdv ct:Value) (us:List Value),us.length=ps.length→bindArgs (PySem.W.fnOf x x (QbQ st) (QaX st) (Qai st) .none kV doc pm an cdv ct) ⟨us,[]⟩=pure (ps.zip us))
  (pm lm:List Md) {R:RR}{b:MS} (hR:QcO R) (hR0:∀N H F as,R N H F as .non .non) (hpl:pm.length=ps.length:=by rfl) (hl:(pm++lm).length=N.length:=by rfl) (hp:∀m∈pm,m≠.o:=by decide)
  (body:∀(f:Addr) (cdv:Value) (A:Around) (outer:List Env) (s:Shared) (H:Hp) (E:XK),QaH k (A.deeper (envOfC x (Qai st) s.heap.objs.size f cdv))→∀P,VSs ((Qcw CX0 Pr w K mg base N x (Qai st) f cdv A outer s H E).nox) (pm++lm) P R (QaX st) b) :
  Can Pr w K mg base x ps (k+1) (vSp K mg pm R (Qa8 N.length b)):=by
 refine Df.can (k:=k) S hb (fun vs H Q E h=>?_) (fun f cdv A outer s H vs Q E hr h=>?_)
 ·obtain ⟨ds,O,F,as,d,O',r,a,_⟩:=h;rw [a.len.1,hpl]
 ·obtain ⟨ds,O,F,as,d,O',r,a,e,q⟩:=h;refine ⟨_,body f cdv A outer s H E hr (Pt.all H),?_⟩;refine ⟨_,O,F,as,r,QfH a hl hp,?_⟩;unfold Qa8 at e
  cases eb:b (ds.map some++List.replicate (N.length - ds.length) none) O with
  | rt d' O2 =>
   rw [eb] at e;cases e
   exact fun v H' F' as' g r' hv=>q v H' F' as' g.gr r' (hR _ _ _ _ _ _ _ (fun c hc=>jj.mp hc) hv)
  | nx ρ O2 =>
   rw [eb] at e;cases e
   exact fun σ' H' F' as' g r' _=>q _ H' F' as' g.gr r' (hR0 _ _ _ _)
  | bk _ _=>rw [eb] at e; cases e
  | ct _ _=>rw [eb] at e; cases e
  | ex _ _=>rw [eb] at e; cases e
  | no=>rw [eb] at e; cases e
end
section
variable {X:Cx}{md:List Md}{P:Pt}{R:RR}{k:Nat}{x:Str}{ps:List Str}{p pos:Pos}{e:Expr}{es:List Expr}{pm:List Md}{c:List D→Qac→Res D}{ma:M (List D)}
def Qat (c:List D→Qac→Res D) (ma:M (List D)):M D:=fun ρ O=>(ma ρ O).bind fun ds O1=>c ds O1
theorem Qol {K:Frag}{mg:Str→Option Value} (hR:QcO R) {E:XK}{σ:St}{H:Hp}{Q:VK} (q:tM K mg md P R (Qat c ma) σ H Q):Qmn (vSp K mg pm R c) [] E (tMA K mg md P pm ma) σ H Q:=by
 obtain ⟨ρ,O,F,as,d,O',r,s,e,k⟩:=q;obtain ⟨ds,O1,e1,e⟩:=Res.bind_ok e;refine ⟨ρ,_,F,as,_,_,r,s,e1,fun vs H1 F1 as1 g1 r1 hv=>?_⟩;dsimp only;rw [zG];exact ⟨ds,O1,F1,as1,d,O',r1,hv,e,fun v H' F' as' g' r' hw=>k v H' F' as' (g1.trans g') r' (hR _ _ _ _ _ _ _ (fun a ha=>g1.dm a ha) hw)⟩
theorem Qos (hR:QcO R) (C:Can X.prog X.w X.K X.mg X.base x ps k (vSp X.K X.mg pm R c)) (hr:QaH k X.A) (ha:AE X md P pm (e::es) ma) (hg:Gl X x:=by rfl) (hdb:(x == ("__debug__":Str))=false:=by decide)
  (he:starEach (e::es) X.env=(false,eval e X.env)::starEach es X.env:=by exact Qa7 rfl) (hpl:(backTo pos (starEach es X.env)).any (·.1)=false:=by exact Qbb rfl):PE X (.Call (.Name x p) (e::es) [] pos) (tM X.K X.mg md P R (Qat c ma)) :=
 (Quw C hr ha hg hdb he hpl).imp fun _ _ _ q=>Qol hR q
end
section
variable {K:Frag}{mg:Str→Option Value}{H F:Hp}{as:List Addr}{O:Qac}{Q:VK}{d:D}{p:Addr}{xs:List V}{ds:List D}
theorem QbJ {v:V} (r:RlO K mg O H F as) (k:∀v' H' F',Gr H F as H' F' as→RlO K mg O H' F' as→Ow K (fun a=>H a=none) H' F' as v' d→Q v' H') (hn:Qfz d=true) (hv:Rp K F as v d):Q v H:=k v H F Gr.refl r (.inl ⟨hn,hv⟩)
theorem RlO.frF (r:RlO K mg O H F as) (hp:H p=none):F p=none:=by
 cases q:F p with
 | none=>rfl
 | some o=>rw [r.fh p o q] at hp; cases hp
theorem QkM (r:RlO K mg O H F as) (k:∀v' H' F',Gr H F as H' F' as→RlO K mg O H' F' as→Ow K (fun a=>H a=none) H' F' as v' (.lst ds)→Q v' H') (hp:H p=none) (hs:Rps K F as xs ds):Q (.ref p) (upd H p (.lst xs)) :=
 k _ _ F (Gr.lay hp) (r.lay hp) (.inr ⟨p,xs,ds,rfl,rfl,QaE,r.frF hp,fun z=>r.all z hp,hp,hs⟩)
theorem QsJ (r:RlO K mg O H F as) (k:∀v' H' F',Gr H F as H' F' as→RlO K mg O H' F' as→Ow K (fun a=>H a=none) H' F' as v' (.tup ds)→Q v' H') (hp:H p=none) (hs:Rps K F as xs ds):Q (.ref p) (upd H p (.tup xs)):=by
 have hF:=r.frF hp
 have ff:Same F (upd F p (.tup xs)):=fun b u q=>by rw [Qam (Qax q hF)]; exact q
 exact k _ _ (upd F p (.tup xs)) ((Gr.lay hp).frz hp hF) ((r.lay hp).frz QaE hF (fun z=>r.all z hp) rfl) (.inl ⟨rfl,Rp.mkT (.inl QaE) (Rps.mono ff (fun _ _ z=>z) _ hs)⟩)
end
section
variable {X:Cx}
def Qxd (K:Frag):R2:=fun x y H Q=>∃l b xs zs,x = .ref l∧y = .ref b∧RdK K H l xs∧RdK K H b zs∧xs.length+zs.length≤sizeLine∧∀p,H p=none→Q (.ref p) (upd H p (.lst (xs++zs)))
theorem Qt6:OpR X (binaryOp .Add) (Qxd X.K):=by
 intro pins s σ H x y v u Q I rx ry h;obtain ⟨l,b,xs,zs,rfl,rfl,hH,hB,hz,q⟩:=h;cases rx;cases ry;obtain ⟨z,its,n,r,e⟩:=hH.ok I;obtain ⟨z2,its2,n2,r2,e2⟩:=hB.ok I;have hl:=r.length;have hl2:=r2.length;refine PySem.P.add_list e e2 ?_ (by rw [zn,zn]; omega)
 have ea:its.toArray++its2.toArray=(its++its2).toArray:=by simp
 rw [ea];exact ⟨.ref _,_,I.lnew (t':=s.toks) (r.append r2) (by rw [zu]; omega),rfl,q _ I.fresh⟩
def QwT (K:Frag):R2:=fun x y H Q=>∃l k xs,x = .ref l∧y = .int k∧RdK K H l xs∧-(2 ^ 63)≤k∧k < 2 ^ 63∧xs.length * k.toNat≤sizeLine ∧
 ∀p,H p=none→Q (.ref p) (upd H p (.lst (List.replicate k.toNat xs).flatten))
theorem Qta:OpR X (binaryOp .Mult) (QwT X.K):=by
 intro pins s σ H x y v u Q I rx ry h;obtain ⟨l,k,xs,rfl,rfl,hH,h1,h2,hz,q⟩:=h;cases rx;obtain ⟨t,rfl⟩:=ry;obtain ⟨z,its,n,r,e⟩:=hH.ok I;have hl:=r.length
 have hlen:its.toArray.size * k.toNat≤sizeLine:=by rw [zn,←hl]; exact hz
 have hcap:¬its.toArray.size * k.toNat > (2 ^ 63 - 1) / 8:=by
  have:(sizeLine:Nat)≤(2 ^ 63 - 1) / 8:=by decide
  omega
 have hfit:¬(!Builtin.List.listFitsIndex k)=true:=by
  rw [fitsIndex_both h1 h2];exact zh
 have hlong:¬Builtin.List.listTooLong (its.toArray.size * k.toNat)=true:=by
  rw [QiH hlen];exact zh
 have hnew:List.foldl (fun x1 x2=>x1++x2) #[] (List.replicate (if its.toArray.isEmpty=true then 0 else k.toNat) its.toArray)=(List.replicate k.toNat its).flatten.toArray:=by
  have f0:∀m:Nat,List.foldl (fun x1 x2=>x1++x2) #[] (List.replicate m its.toArray)=(List.replicate m its).flatten.toArray:=fun m=>by
   have:=foldl_rep its m []
   rw [jc] at this;exact this
  rw [f0]
  cases its with
  | nil=>simp
  | cons a r'=>rw [if_neg (by simp)]
 refine wpAny_binaryOp_repeat_ref (T:="list") (U:="int") (by decide) ⟨_,e,rfl⟩ (fun s'=>typeIs_int s' k t) noFill_list_mul F.fills_int_mul F.slot_int_rmul repeat_list F.slot_int_index.lookup
  (call_meets F.slot_int_rmul (typeIs_int s k t) F.entry_int_rmul (F.args_int_rmul_2 _ _) (int___rmul___int_list k t l its.toArray n)
   ⟨e,rfl,⟨_,e,rfl⟩,call_meets F.slot_list_mul ⟨_,e,rfl⟩ F.entry_list_mul (F.args_list_mul_2 _ _) (AutoListH.list___mul___list_int_3 l its.toArray n k t hfit hcap hlong) ⟨e,?_⟩⟩)
 rw [hnew];exact ⟨.ref _,_,I.lnew (t':=s.toks) (r.rep k.toNat) (by rw [len_rep,Nat.mul_comm]; exact hz),rfl,q _ I.fresh⟩
def Qce:D→D→Option D
 | .int i,.int j=>some (.int (i+j))
 | .int i,.bl k=>some (.int (i+b2i k))
 | .str a,.str b=>if a.length+b.length≤1000000 then some (.str (a++b)) else none
 | .lst a,.lst b=>if a.length+b.length≤1000000 then some (.lst (a++b)) else none
 | .tup a,.tup b=>if a.length+b.length≤1000000∧a≠[] then some (.tup (a++b)) else none
 | _,_=>none
instance (a:List D):Decidable (a≠[]):=match a with
 | []=>isFalse fun h=>h rfl
 | _::_=>isTrue fun h=>nomatch h
theorem QdB:OpD X (binaryOp .Add) Qce:=by
 intro pins s σ H x y v u Q I rx ry h;obtain ⟨O,F,as,dx,dy,d,r,hx,hy,e,k⟩:=h
 cases dx with
 | int i =>
  cases (hx.rp rfl).unI
  cases dy with
  | int j =>
   cases (hy.rp rfl).unI;cases e;exact Qu0 pins s σ H _ _ v u Q I rx ry ⟨i,j,rfl,rfl,QbJ r k rfl Rp.int⟩
  | bl j =>
   cases (hy.rp rfl).unB;cases e;exact QqF pins s σ H _ _ v u Q I rx ry ⟨i,j,rfl,rfl,QbJ r k rfl Rp.int⟩
  | _=>cases e
 | str a =>
  cases (hx.rp rfl).unS
  cases dy with
  | str b =>
   cases (hy.rp rfl).unS;simp only [Qce] at e;split at e
   ·rename_i hz;cases e;refine Qo2 pins s σ H _ _ v u Q I rx ry ⟨S a,S b,rfl,rfl,by rw [Qb4,Qb4]; exact QeN hz,?_⟩;rw [QrE];exact QbJ r k rfl Rp.str
   ·cases e
  | _=>cases e
 | lst a =>
  obtain ⟨p,xs,rfl,h1,h2⟩:=hx.list r.fh
  cases dy with
  | lst b =>
   obtain ⟨p',ys,rfl,h3,h4⟩:=hy.list r.fh;simp only [Qce] at e;split at e
   ·rename_i hz;cases e;exact Qt6 pins s σ H _ _ v u Q I rx ry ⟨p,p',xs,ys,rfl,rfl,h1,h3,by rw [h2.length,h4.length]; exact QeN hz,fun q hq=>QkM r k hq (Rps.append h4 h2)⟩
   ·cases e
  | _=>cases e
 | tup a =>
  obtain ⟨p,xs,rfl,h1,h2⟩:=(hx.rp rfl).unT
  cases dy with
  | tup b =>
   obtain ⟨p',ys,rfl,h3,h4⟩:=(hy.rp rfl).unT;simp only [Qce] at e;split at e
   ·rename_i hz;cases e
    have hxs:xs≠[]:=fun z=>hz.2 (List.eq_nil_of_length_eq_zero (by rw [←h2.length,z]; rfl))
    refine Qun pins s σ H _ _ v u Q I rx ry ⟨p,p',xs,ys,rfl,rfl,Same.seqT r.fh h1,Same.seqT r.fh h3,hxs,by rw [h2.length,h4.length]; exact QeN hz.1,fun z=>?_,fun _ q hq=>QsJ r k hq (Rps.append h4 h2)⟩;have hb:b = []:=List.eq_nil_of_length_eq_zero (by rw [←h4.length,z]; rfl);subst hb;rw [zG] at k;exact QbJ r k rfl (hx.rp rfl)
   ·cases e
  | _=>cases e
 | _=>cases e
def gI (C:Int→Int→Bool) (f:Int→Int→Int):D→D→Option D
 | .int i,.int j=>if C i j=true then some (.int (f i j)) else none
 | _,_=>none
theorem QrT {f:Value→Value→Sem Value}{Cp:Int→Int→Prop}{g:Int→Int→Int}{C:Int→Int→Bool} (h:OpR X f (rI Cp fun i j=>.int (g i j))) (hc:∀i j,C i j=true→Cp i j):OpD X f (gI C g):=by
 intro pins s σ H x y v u Q I rx ry h';obtain ⟨O,F,as,dx,dy,d,r,hx,hy,e,k⟩:=h'
 cases dx with
 | int i =>
  cases (hx.rp rfl).unI
  cases dy with
  | int j =>
   cases (hy.rp rfl).unI;simp only [gI] at e;split at e
   ·rename_i hC;cases e;exact h pins s σ H _ _ v u Q I rx ry ⟨i,j,rfl,rfl,hc i j hC,QbJ r k rfl Rp.int⟩
   ·cases e
  | _=>cases e
 | _=>cases e
def Qh5:D→D→Option D:=gI (fun _ _=>true) fun i j=>i - j
theorem Qnl:OpD X (binaryOp .Sub) Qh5:=by
 intro pins s σ H x y v u Q I rx ry h';obtain ⟨O,F,as,dx,dy,d,r,hx,hy,e,k⟩:=h'
 cases dx with
 | int i =>
  cases (hx.rp rfl).unI
  cases dy with
  | int j =>
   cases (hy.rp rfl).unI;cases e;exact QuL pins s σ H _ _ v u Q I rx ry ⟨i,j,rfl,rfl,QbJ r k rfl Rp.int⟩
  | _=>cases e
 | _=>cases e
def QgF (i:Int):Bool:=decide (-(2 ^ 64) < i)&&decide (i < 2 ^ 64)
theorem QhI {i:Int} (h:QgF i=true):-(2 ^ 64) < i∧i < 2 ^ 64:=by
 unfold QgF at h;rw [zg,decide_eq_true_eq,decide_eq_true_eq] at h;exact h
def Qf8:D→D→Option D
 | .int i,.int j=>if (QgF i || QgF j)=true then some (.int (i * j)) else none
 | .str l,.int n=>if -1000000 < n∧n < 1000000∧l.length * n.toNat≤16777216 then some (.str (List.replicate n.toNat l).flatten) else none
 | .lst l,.int n=>if -1000000 < n∧n < 1000000∧l.length * n.toNat≤1000000 then some (.lst (List.replicate n.toNat l).flatten) else none
 | _,_=>none
theorem QnA:OpD X (binaryOp .Mult) Qf8:=by
 intro pins s σ H x y v u Q I rx ry h;obtain ⟨O,F,as,dx,dy,d,r,hx,hy,e,k⟩:=h
 cases dx with
 | int i =>
  cases (hx.rp rfl).unI
  cases dy with
  | int j =>
   cases (hy.rp rfl).unI;simp only [Qf8] at e;split at e
   ·rename_i hz;cases e;refine Qu7 pins s σ H _ _ v u Q I rx ry ⟨i,j,rfl,rfl,?_,QbJ r k rfl Rp.int⟩;rw [Bool.or_eq_true] at hz
    rcases hz with z | z
    ·exact .inl (QhI z)
    ·exact .inr (QhI z)
   ·cases e
  | _=>cases e
 | str l =>
  cases (hx.rp rfl).unS
  cases dy with
  | int n =>
   cases (hy.rp rfl).unI;simp only [Qf8] at e;split at e
   ·rename_i hz;cases e;exact QpG pins s σ H _ _ v u Q I rx ry ⟨l,n,rfl,rfl,hz.1,hz.2.1,hz.2.2,QbJ r k rfl Rp.str⟩
   ·cases e
  | _=>cases e
 | lst l =>
  obtain ⟨p,xs,rfl,h1,h2⟩:=hx.list r.fh
  cases dy with
  | int n =>
   cases (hy.rp rfl).unI;simp only [Qf8] at e;split at e
   ·rename_i hz;cases e;exact Qta pins s σ H _ _ v u Q I rx ry ⟨p,n,xs,rfl,rfl,h1,by omega,by omega,by rw [h2.length]; exact QeN hz.2.2,fun q hq=>QkM r k hq (h2.rep _)⟩
   ·cases e
  | _=>cases e
 | _=>cases e
def Qbz:D→D→Option D:=gI (fun _ j=>decide (0 < j)) fun i j=>i % j
theorem QdE:OpD X (binaryOp .Mod) Qbz:=QrT Qv2 fun _ _ h=>jk h
def Qhi:D→D→Option D:=gI (fun _ j=>decide (0 < j)&&decide (j < 1073741824)) fun i j=>i / j
theorem Qoz:OpD X (binaryOp .FloorDiv) Qhi:=QrT Qtu fun i j h=>by
 rw [zg,decide_eq_true_eq,decide_eq_true_eq] at h;exact h
def Qgi:D→D→Option D:=gI (fun i j=>decide (0≤j)&&(decide (j≤1000000)&&QgF i)) fun i j=>i ^ j.toNat
theorem Qkz:OpD X (binaryOp .Pow) Qgi:=QrT QuS fun i j h=>by
 rw [zg,zg,decide_eq_true_eq,decide_eq_true_eq] at h
 have:=QhI h.2.2
 exact ⟨h.1,h.2.1,by omega⟩
def mUn (g:D→Option D) (m:M D):M D:=fun ρ O=>(m ρ O).bind fun d O1=>match g (QaL O1 d) with
 | some y=>.ok y O1
 | none=>.no
def Qkl:D→Option D
 | .int i=>some (.int (-i))
 | _=>none
theorem Qqt {md:List Md}{P:Pt}{a:Expr}{pos:Pos}{m:M D} (h:SE X md P a m):OE X md P (.UnaryOp .USub a pos) (mUn Qkl m):=(Qwu Qv1 h).imp fun σ H Q q=>by
 obtain ⟨ρ,O,F,as,d,O',r,s,e,k⟩:=q;obtain ⟨x,O1,e1,e⟩:=Res.bind_ok e;refine ⟨ρ,_,F,as,_,_,r,s,e1,fun v H1 F1 as1 g1 r1 hv=>?_⟩
 cases ed:QaL O1 x with
 | int i =>
  rw [ed] at e;cases e
  have:=Sv.lk hv r1
  rw [ed] at this;exact ⟨i,(this.rp rfl).unI,k _ H1 F1 as1 g1 r1 (.inl ⟨rfl,Rp.int⟩)⟩
 | _=>rw [ed] at e; cases e
def gCI (f:Int→Int→Bool):D→D→Option D
 | .int i,.int j=>some (.bl (f i j))
 | _,_=>none
theorem QsK {f:Value→Value→Sem Value}{g:Int→Int→Bool} (h:OpR X f (rI0 fun i j=>.bl (g i j))):OpD X f (gCI g):=by
 intro pins s σ H x y v u Q I rx ry h';obtain ⟨O,F,as,dx,dy,d,r,hx,hy,e,k⟩:=h'
 cases dx with
 | int i =>
  cases (hx.rp rfl).unI
  cases dy with
  | int j =>
   cases (hy.rp rfl).unI;cases e;exact h pins s σ H _ _ v u Q I rx ry ⟨i,j,rfl,rfl,QbJ r k rfl Rp.bl⟩
  | _=>cases e
 | _=>cases e
def gLt:D→D→Option D:=gCI fun i j=>decide (i < j)
def gGt:D→D→Option D:=gCI fun i j=>decide (j < i)
def gGe:D→D→Option D:=gCI fun i j=>decide (j≤i)
def gLe:D→D→Option D
 | .int i,.int j=>some (.bl (decide (i≤j)))
 | .str a,.str b=>some (.bl (!decide (b < a)))
 | _,_=>none
theorem Qmu:OpD X (compareOp .LtE) gLe:=by
 intro pins s σ H x y v u Q I rx ry h';obtain ⟨O,F,as,dx,dy,d,r,hx,hy,e,k⟩:=h'
 cases dx with
 | int i =>
  cases (hx.rp rfl).unI
  cases dy with
  | int j =>
   cases (hy.rp rfl).unI;cases e;exact QwF pins s σ H _ _ v u Q I rx ry ⟨i,j,rfl,rfl,QbJ r k rfl Rp.bl⟩
  | _=>cases e
 | str a =>
  cases (hx.rp rfl).unS
  cases dy with
  | str b =>
   cases (hy.rp rfl).unS;cases e;refine QqC pins s σ H _ _ v u Q I rx ry ⟨S a,S b,rfl,rfl,?_⟩;rw [Qgx,Qgx];exact QbJ r k rfl Rp.bl
  | _=>cases e
 | _=>cases e
theorem QwD:OpD X (compareOp .Lt) gLt:=QsK QwE
theorem QwK:OpD X (compareOp .Gt) gGt:=QsK Qwj
mutual
def toP:D→PyData
 | .non=>.none
 | .bl b=>.bool b
 | .int i=>.int i
 | .str l=>.str (S l)
 | .lst ds=>.list (Qjk ds)
 | .tup ds=>.tuple (Qjk ds)
 | .dic _ _=>.none
 | .ob _=>.none
def Qjk:List D→List PyData
 | []=>[]
 | d::ds=>toP d::Qjk ds
end
mutual
def Qc4:D→Bool
 | .lst ds=>QfF ds
 | .tup ds=>QfF ds
 | .dic _ _=>false
 | .ob _=>false
 | _=>true
def QfF:List D→Bool
 | []=>true
 | d::ds=>Qc4 d&&QfF ds
end
section
variable {K:Frag}{F:Hp}{as:List Addr}
mutual
theorem Rp.rep:∀(d:D) {v:V},Qc4 d=true→Rp K F as v d→Rep K F v (toP d)
 | .non,v,_,h=>by rw [toP,Rep]; exact h.unN
 | .bl b,v,_,h=>by rw [toP,Rep]; exact h.unB
 | .int i,v,_,h=>by rw [toP,Rep]; exact h.unI
 | .str x,v,_,h=>by rw [toP,Rep]; exact h.unS
 | .lst ds,v,hp,h=>by
  obtain ⟨a,xs,h1,h2,h3⟩:=h.unL;rw [toP,Rep];rw [Qc4] at hp;exact ⟨a,xs,h1,h2.sq,Rps.rep' ds hp h3⟩
 | .tup ds,v,hp,h=>by
  obtain ⟨a,xs,h1,h2,h3⟩:=h.unT;rw [toP,Rep];rw [Qc4] at hp;exact ⟨a,xs,h1,h2,Rps.rep' ds hp h3⟩
 | .dic _ _,v,hp,h=>by rw [Qc4] at hp; cases hp
 | .ob _,v,hp,h=>by rw [Qc4] at hp; cases hp
theorem Rps.rep':∀(ds:List D) {xs:List V},QfF ds=true→Rps K F as xs ds→QaG K F xs (Qjk ds)
 | [],xs,_,h=>by rw [h.un0,Qjk]; exact QaG.nil
 | d::ds,xs,hp,h=>by
  obtain ⟨x,r,rfl,h2,h3⟩:=h.un;rw [QfF,zg] at hp;rw [Qjk];exact QaG.cons (Rp.rep d hp.1 h2) (Rps.rep' ds hp.2 h3)
end
theorem Lk.rep {H:Hp}{d:D}{v:V} (h:Lk K H F as v d) (fh:Same F H) (hp:Qc4 d=true):Rep K H v (toP d):=by
 rcases h with h | ⟨a,xs,ds,rfl,rfl,h1,h2⟩
 ·exact Rep.mono fh _ (Rp.rep d hp h)
 ·rw [Qc4] at hp;rw [toP,Rep];exact ⟨a,xs,rfl,.inl (.inl h1),QaG.mono fh _ (Rps.rep' ds hp h2)⟩
end
def okE (d:D):Bool:=Qc4 d&&okD (toP d)
def Qjx (a b:D):Bool:=PyData.eqv (toP a) (toP b)
def gEq:D→D→Option D
 | .int i,.int j=>some (.bl (decide (i=j)))
 | .str a,.str b=>some (.bl (decide (a=b)))
 | .bl a,.bl b=>some (.bl (decide (a=b)))
 | a,b=>if (okE a&&okE b)=true then some (.bl (Qjx a b)) else none
def gNe:D→D→Option D
 | .int i,.int j=>some (.bl (!decide (i=j)))
 | .str a,.str b=>some (.bl (!decide (a=b)))
 | .bl a,.bl b=>some (.bl (!decide (a=b)))
 | a,b=>if (okE a&&okE b)=true then some (.bl (!Qjx a b)) else none
theorem Qs1 (a b:List Nat):decide (V.str (S a)=V.str (S b))=decide (a=b):=by
 by_cases h:a=b
 ·subst h; simp
 ·rw [zy h,zy];intro z;exact h (Qww (V.str.inj z))
theorem Qs5 (a b:Int):decide (V.int a=V.int b)=decide (a=b):=by
 by_cases h:a=b
 ·subst h; simp
 ·rw [zy h,zy];intro z;exact h (V.int.inj z)
theorem QsU (a b:Bool):decide (V.bl a=V.bl b)=decide (a=b):=by
 cases a <;> cases b <;> rfl
theorem QtU {a b d:D} (h:gEq a b=some d):(∃i j,a = .int i∧b = .int j∧d = .bl (decide (i=j)))∨(∃i j,a = .str i∧b = .str j∧d = .bl (decide (i=j)))∨(∃i j,a = .bl i∧b = .bl j∧d = .bl (decide (i=j))) ∨
  (okE a=true∧okE b=true∧d = .bl (Qjx a b)):=by
 unfold gEq at h;split at h
 ·cases h; exact .inl ⟨_,_,rfl,rfl,rfl⟩
 ·cases h; exact .inr (.inl ⟨_,_,rfl,rfl,rfl⟩)
 ·cases h; exact .inr (.inr (.inl ⟨_,_,rfl,rfl,rfl⟩))
 ·split at h
  ·rename_i hk;rw [zg] at hk;cases h;exact .inr (.inr (.inr ⟨hk.1,hk.2,rfl⟩))
  ·cases h
theorem QtX {a b d:D} (h:gNe a b=some d):(∃i j,a = .int i∧b = .int j∧d = .bl (!decide (i=j)))∨(∃i j,a = .str i∧b = .str j∧d = .bl (!decide (i=j)))∨(∃i j,a = .bl i∧b = .bl j∧d = .bl (!decide (i=j))) ∨
  (okE a=true∧okE b=true∧d = .bl (!Qjx a b)):=by
 unfold gNe at h;split at h
 ·cases h; exact .inl ⟨_,_,rfl,rfl,rfl⟩
 ·cases h; exact .inr (.inl ⟨_,_,rfl,rfl,rfl⟩)
 ·cases h; exact .inr (.inr (.inl ⟨_,_,rfl,rfl,rfl⟩))
 ·split at h
  ·rename_i hk;rw [zg] at hk;cases h;exact .inr (.inr (.inr ⟨hk.1,hk.2,rfl⟩))
  ·cases h
theorem Qbo {k:Nat} (hr:QaH k X.A):OpD X (compareOp .Eq) gEq:=by
 intro pins s σ H x y v u Q I rx ry h';obtain ⟨O,F,as,dx,dy,d,r,hx,hy,e,k⟩:=h'
 rcases QtU e with ⟨i,j,rfl,rfl,rfl⟩ | ⟨i,j,rfl,rfl,rfl⟩ | ⟨i,j,rfl,rfl,rfl⟩ | ⟨h1,h2,rfl⟩
 ·cases (hx.rp rfl).unI;cases (hy.rp rfl).unI;refine QpZ pins s σ H _ _ v u Q I rx ry ⟨rfl,?_⟩;rw [Qs5];exact QbJ r k rfl Rp.bl
 ·cases (hx.rp rfl).unS;cases (hy.rp rfl).unS;refine QpZ pins s σ H _ _ v u Q I rx ry ⟨rfl,?_⟩;rw [Qs1];exact QbJ r k rfl Rp.bl
 ·cases (hx.rp rfl).unB;cases (hy.rp rfl).unB;refine QpZ pins s σ H _ _ v u Q I rx ry ⟨rfl,?_⟩;rw [QsU];exact QbJ r k rfl Rp.bl
 ·unfold okE at h1 h2;rw [zg] at h1 h2;exact QuY hr pins s σ H _ _ v u Q I rx ry ⟨toP dx,toP dy,hx.rep r.fh h1.1,hy.rep r.fh h2.1,h1.2,h2.2,QbJ r k rfl Rp.bl⟩
theorem Qej {k:Nat} (hr:QaH k X.A):OpD X (compareOp .NotEq) gNe:=by
 intro pins s σ H x y v u Q I rx ry h';obtain ⟨O,F,as,dx,dy,d,r,hx,hy,e,k⟩:=h'
 rcases QtX e with ⟨i,j,rfl,rfl,rfl⟩ | ⟨i,j,rfl,rfl,rfl⟩ | ⟨i,j,rfl,rfl,rfl⟩ | ⟨h1,h2,rfl⟩
 ·cases (hx.rp rfl).unI;cases (hy.rp rfl).unI;refine Qpf pins s σ H _ _ v u Q I rx ry ⟨rfl,?_⟩;rw [Qs5];exact QbJ r k rfl Rp.bl
 ·cases (hx.rp rfl).unS;cases (hy.rp rfl).unS;refine Qpf pins s σ H _ _ v u Q I rx ry ⟨rfl,?_⟩;rw [Qs1];exact QbJ r k rfl Rp.bl
 ·cases (hx.rp rfl).unB;cases (hy.rp rfl).unB;refine Qpf pins s σ H _ _ v u Q I rx ry ⟨rfl,?_⟩;rw [QsU];exact QbJ r k rfl Rp.bl
 ·unfold okE at h1 h2;rw [zg] at h1 h2;exact Qvb hr pins s σ H _ _ v u Q I rx ry ⟨toP dx,toP dy,hx.rep r.fh h1.1,hy.rep r.fh h2.1,h1.2,h2.2,QbJ r k rfl Rp.bl⟩
def toV:D→V
 | .bl b=>.bl b
 | .int i=>.int i
 | .str l=>.str (S l)
 | _=>.non
def QgC:D→Bool
 | .non=>true
 | .bl _=>true
 | .int _=>true
 | .str _=>true
 | _=>false
def eqF (x y:D):Bool:=eqV (toV x) (toV y)
theorem Rp.flat {K:Frag}{F:Hp}{as:List Addr}{v:V}{d:D} (h:Rp K F as v d) (hf:QgC d=true):v=toV d∧QfR v=true:=by
 cases d with
 | non=>rw [h.unN]; exact ⟨rfl,rfl⟩
 | bl b=>rw [h.unB]; exact ⟨rfl,rfl⟩
 | int b=>rw [h.unI]; exact ⟨rfl,rfl⟩
 | str b=>rw [h.unS]; exact ⟨rfl,rfl⟩
 | _=>cases hf
theorem Rps.flat {K:Frag}{F:Hp}{as:List Addr}:∀{ds:List D}{xs:List V},Rps K F as xs ds→ds.all QgC=true→xs=ds.map toV∧xs.all QfR=true
 | [],xs,h,_=>by rw [h.un0]; exact ⟨rfl,rfl⟩
 | d::ds,xs,h,hf=>by
  obtain ⟨x,r,rfl,h2,h3⟩:=h.un;rw [List.all_cons,zg] at hf;obtain ⟨e1,e2⟩:=h2.flat hf.1;obtain ⟨e3,e4⟩:=Rps.flat h3 hf.2;exact ⟨by rw [zf,←e1,←e3],by rw [List.all_cons,e2,e4]; rfl⟩
def gIn (neg:Bool):D→D→Option D
 | .str [c],.str l=>some (.bl (neg ^^ decide (c∈l)))
 | x,.lst ds=>if (QgC x&&ds.all QgC)=true then some (.bl (neg ^^ ds.any fun y=>eqF y x)) else none
 | x,.tup ds=>if (QgC x&&ds.all QgC)=true then some (.bl (neg ^^ ds.any fun y=>eqF y x)) else none
 | _,_=>none
theorem Qub {neg:Bool}{a b d:D} (h:gIn neg a b=some d):(∃c l,a = .str [c]∧b = .str l∧d = .bl (neg ^^ decide (c∈l)))∨(∃ds,(b = .lst ds∨b = .tup ds)∧QgC a=true∧ds.all QgC=true∧d = .bl (neg ^^ ds.any fun y=>eqF y a)):=by
 unfold gIn at h;split at h
 ·cases h; exact .inl ⟨_,_,rfl,rfl,rfl⟩
 ·split at h
  ·rename_i hk;rw [zg] at hk;cases h;exact .inr ⟨_,.inl rfl,hk.1,hk.2,rfl⟩
  ·cases h
 ·split at h
  ·rename_i hk;rw [zg] at hk;cases h;exact .inr ⟨_,.inr rfl,hk.1,hk.2,rfl⟩
  ·cases h
 ·cases h
theorem Qui {x:D}{ds:List D}:inV (toV x) (ds.map toV)=ds.any fun y=>eqF y x:=by
 unfold inV;rw [List.any_map];rfl
theorem QsG {K:Frag}{mg:Str→Option Value}{H F:Hp}{as:List Addr}{O:Qac}{v:V}{b:D}{ds:List D} (r:RlO K mg O H F as) (hy:Lk K H F as v b) (hb:b = .lst ds∨b = .tup ds):∃p xs,v = .ref p∧(SqL K H p xs∨SqT K H p xs)∧Rps K F as xs ds:=by
 rcases hb with rfl | rfl
 ·obtain ⟨p,xs,e,h1,h2⟩:=hy.list r.fh;exact ⟨p,xs,e,.inl h1.sq,h2⟩
 ·obtain ⟨p,xs,e,h1,h2⟩:=(hy.rp rfl).unT;exact ⟨p,xs,e,.inr (Same.seqT r.fh h1),h2⟩
theorem Qqd {d:D} (h:QgC d=true):Qfz d=true:=by cases d <;> first | rfl | cases h
theorem QwX:OpD X (compareOp .In) (gIn false):=by
 intro pins s σ H x y v u Q I rx ry h';obtain ⟨O,F,as,dx,dy,d,r,hx,hy,e,k⟩:=h'
 rcases Qub e with ⟨c,l,rfl,rfl,rfl⟩ | ⟨ds,hb,h1,h2,rfl⟩
 ·cases (hx.rp rfl).unS;cases (hy.rp rfl).unS;refine Qqo pins s σ H _ _ v u Q I rx ry ⟨c,l,rfl,rfl,?_⟩;rw [Bool.false_xor] at k;exact QbJ r k rfl Rp.bl
 ·obtain ⟨p,xs,rfl,h3,h4⟩:=QsG r hy hb;obtain ⟨e1,e2⟩:=(hx.rp (Qqd h1)).flat h1;obtain ⟨e3,e4⟩:=h4.flat h2;refine Qrr pins s σ H _ _ v u Q I rx ry ⟨p,xs,rfl,h3,e2,e4,?_⟩;rw [if_neg zh,e1,e3,Qui];rw [Bool.false_xor] at k;exact QbJ r k rfl Rp.bl
def gIx:D→D→Option D
 | .lst ds,.int i=>atI ds i
 | .tup ds,.int i=>atI ds i
 | .str l,.int i=>if l.length≤1000000 then (atI l i).map fun c=>.str [c] else none
 | _,_=>none
theorem Rps.atI {K:Frag}{F:Hp}{as:List Addr}{xs:List V}{ds:List D}{i:Int}{d:D} (h:Rps K F as xs ds) (e:atI ds i=some d):∃v,L2.atI xs i=some v∧Rp K F as v d:=by
 unfold L2.atI at e ⊢;rw [h.length]
 cases q:ixN ds.length i with
 | none=>rw [q] at e; cases e
 | some j =>
  rw [q] at e;exact h.get' e
def rDv (K:Frag) (mg:Str→Option Value) (g:D→D→Option D):R2:=fun x y H Q=>∃O F as dx dy d,RlO K mg O H F as∧Lk K H F as x dx∧Lk K H F as y dy∧g dx dy=some d∧∀v',Rp K F as v' d→Q v' H
theorem QxN:IxR X (rDv X.K X.mg gIx):=by
 intro value slice pins s σ H x y v u Q I rx ry h' hsb;obtain ⟨O,F,as,dx,dy,d,r,hx,hy,e,k⟩:=h'
 cases dx with
 | lst ds =>
  obtain ⟨p,xs,rfl,h1,h2⟩:=hx.list r.fh
  cases dy with
  | int i =>
   cases (hy.rp rfl).unI;obtain ⟨z,e1,e2⟩:=h2.atI e;exact QtP value slice pins s σ H _ _ v u Q I rx ry ⟨p,xs,i,z,rfl,rfl,h1.sq,e1,k z e2⟩ hsb
  | _=>cases e
 | tup ds =>
  obtain ⟨p,xs,rfl,h1,h2⟩:=(hx.rp rfl).unT
  cases dy with
  | int i =>
   cases (hy.rp rfl).unI;obtain ⟨z,e1,e2⟩:=h2.atI e;exact Qwa value slice pins s σ H _ _ v u Q I rx ry ⟨p,xs,i,z,rfl,rfl,Same.seqT r.fh h1,e1,k z e2⟩ hsb
  | _=>cases e
 | str l =>
  cases (hx.rp rfl).unS
  cases dy with
  | int i =>
   cases (hy.rp rfl).unI;simp only [gIx] at e;split at e
   ·rename_i hz
    cases q:L2.atI l i with
    | none=>rw [q] at e; cases e
    | some c =>
     rw [q] at e;cases e;exact QuC value slice pins s σ H _ _ v u Q I rx ry ⟨S l,i,c,rfl,rfl,by rw [Qb4]; exact QeN hz,by rw [Qgx]; exact q,k _ Rp.str⟩ hsb
   ·cases e
  | _=>cases e
 | _=>cases e
theorem QaW {md:List Md}{P:Pt}{a b:Expr}{pos:Pos}{ma mb:M D} (ha:SE X md P a ma) (hb:SE X md P b mb) (hs:Qod b:=by intro _ _; rfl):VE X md P (.Subscript a b pos) (Qaf gIx ma mb):=(Qxa QxN ha hb hs).imp fun σ H Q h=>by
 obtain ⟨ρ,O,F,as,d,O',r,sl,e,k⟩:=h;obtain ⟨x,O1,e1,e⟩:=Res.bind_ok e;obtain ⟨y,O2,e2,e⟩:=Res.bind_ok e;split at e
 ·rename_i d' hg;cases e;refine ⟨ρ,_,F,as,_,_,r,sl,e1,fun v H1 F1 as1 g1 r1 hv=>?_⟩;refine ⟨ρ,_,F1,as1,_,_,r1,sl.step g1,e2,fun u H2 F2 as2 g2 r2 hu=>?_⟩;exact ⟨_,F2,as2,_,_,_,r2,Sv.lk (Sv.gr hv g2) r2,Sv.lk hu r2,hg,fun v' hw=>k v' H2 F2 as2 (g1.trans g2) r2 hw⟩
 ·cases e
def tMO (K:Frag) (mg:Str→Option Value) (md:List Md) (P:Pt) (m:M (Option Int)):TO:=fun σ H Q =>
 ∃ρ O F as b O',RlO K mg O H F as∧SlO K md P ρ σ H F as∧m ρ O = .ok b O'∧∀H' F' as',Gr H F as H' F' as'→RlO K mg O' H' F' as'→Q b H'
def VO (X:Cx) (md:List Md) (P:Pt) (e:Option Expr) (m:M (Option Int)):Prop:=PO X e (tMO X.K X.mg md P m)
theorem PO.imp {e:Option Expr}{t t':TO} (h:PO X e t) (k:∀σ H Q,t' σ H Q→t σ H Q):PO X e t':=fun pins s σ H Q I q=>h pins s σ H Q I (k σ H Q q)
def moN:M (Option Int):=fun _ O=>.ok none O
def moS (m:M D):M (Option Int):=fun ρ O=>(m ρ O).bind fun d O1=>match d with
 | .int i=>.ok (some i) O1
 | _=>.no
theorem QjI {md:List Md}{P:Pt}:VO X md P none moN:=Qt1.imp fun σ H Q q=>by
 obtain ⟨ρ,O,F,as,d,O',r,s,e,k⟩:=q;cases e;exact k H F as Gr.refl r
theorem QjN {md:List Md}{P:Pt}{e:Expr}{m:M D} (h:VE X md P e m):VO X md P (some e) (moS m):=(Qtx h).imp fun σ H Q q=>by
 obtain ⟨ρ,O,F,as,d,O',r,s,e,k⟩:=q;obtain ⟨x,O1,e1,e⟩:=Res.bind_ok e
 cases x with
 | int i =>
  cases e;exact ⟨ρ,_,F,as,_,_,r,s,e1,fun v H1 F1 as1 g1 r1 hv=>⟨i,Rp.unI hv,k H1 F1 as1 g1 r1⟩⟩
 | _=>cases e
def gSl (d:D) (lo hi:Option Int):Option D:=match d with
 | .lst ds=>some (.lst (Qdm ds lo hi))
 | .tup ds=>some (.tup (Qdm ds lo hi))
 | .str l=>if l.length≤16777216 then some (.str (Qdm l lo hi)) else none
 | _=>none
def Qx1 (K:Frag) (mg:Str→Option Value):V→Option Int→Option Int→Hp→VK→Prop:=fun x lo hi H Q=>∃O F as dx d,RlO K mg O H F as∧Lk K H F as x dx∧gSl dx lo hi=some d ∧
 ∀v' H' F',Gr H F as H' F' as→RlO K mg O H' F' as→Ow K (fun a=>H a=none) H' F' as v' d→Q v' H'
theorem Rps.cut {K:Frag}{F:Hp}{as:List Addr}{xs:List V}{ds:List D} (h:Rps K F as xs ds) (lo hi:Option Int):Rps K F as (QiL xs lo hi) (Qdm ds lo hi):=by
 unfold QiL Qdm;rw [h.length];exact (h.drop _).take _
theorem Qye:SlR X (Qx1 X.K X.mg):=by
 intro pins s σ H x v vl vu lo hi sl Q I rx hs pl pu h;obtain ⟨O,F,as,dx,d,r,hx,e,k⟩:=h
 cases dx with
 | lst ds =>
  obtain ⟨p,xs,rfl,h1,h2⟩:=hx.list r.fh;cases e;exact Qte pins s σ H _ v vl vu lo hi sl Q I rx hs pl pu ⟨p,xs,rfl,h1.sq,fun q hq=>QkM r k hq (h2.cut lo hi)⟩
 | tup ds =>
  obtain ⟨p,xs,rfl,h1,h2⟩:=(hx.rp rfl).unT;cases e;refine Quf X.K rfl pins s σ H _ v vl vu lo hi sl Q I rx hs pl pu ⟨p,xs,rfl,Same.seqT r.fh h1,fun z=>?_,fun _ q hq=>QsJ r k hq (h2.cut lo hi)⟩
  have:Qdm ds lo hi=ds:=by
   unfold Qdm;rw [←h2.length,z.1,z.2,List.drop_zero,Nat.sub_zero,h2.length,List.take_length]
  rw [this] at k;exact QbJ r k rfl (hx.rp rfl)
 | str l =>
  cases (hx.rp rfl).unS;simp only [gSl] at e;split at e
  ·rename_i hz;cases e;exact QvO pins s σ H _ v vl vu lo hi sl Q I rx hs pl pu ⟨l,rfl,zA hz (Nat.le_of_eq sizeLine_eq.symm),QbJ r k rfl Rp.str⟩
  ·cases e
 | _=>cases e
def mSl (m:M D) (lo hi:M (Option Int)):M D:=fun ρ O=>(m ρ O).bind fun d O1=>(lo ρ O1).bind fun l O2=>(hi ρ O2).bind fun h O3=>match gSl (QaL O3 d) l h with
 | some y=>.ok y O3
 | none=>.no
end
section
variable {X:Cx}{md:List Md}{P:Pt}{R:RR}
theorem QiC {e:Expr}{lo hi:Option Expr}{p2 pos:Pos}{m:M D}{ml mh:M (Option Int)} (he:SE X md P e m) (hl:VO X md P lo ml) (hh:VO X md P hi mh):OE X md P (.Subscript e (.Slice lo hi none p2) pos) (mSl m ml mh):=(Qr7 Qye he hl hh).imp fun σ H Q q=>by
 obtain ⟨ρ,O,F,as,d,O',r,s,e,k⟩:=q;obtain ⟨x,O1,e1,e⟩:=Res.bind_ok e;obtain ⟨l,O2,e2,e⟩:=Res.bind_ok e;obtain ⟨h,O3,e3,e⟩:=Res.bind_ok e;split at e
 ·rename_i y hg;cases e;refine ⟨ρ,_,F,as,_,_,r,s,e1,fun v H1 F1 as1 g1 r1 hv=>?_⟩;refine ⟨ρ,_,F1,as1,_,_,r1,s.step g1,e2,fun H2 F2 as2 g2 r2=>?_⟩;have g12:=g1.trans g2;refine ⟨ρ,_,F2,as2,_,_,r2,s.step g12,e3,fun H3 F3 as3 g3 r3=>?_⟩;have g13:=g12.trans g3;exact ⟨_,F3,as3,_,_,r3,Sv.lk (Sv.gr (Sv.gr hv g2) g3) r3,hg,fun v' H' F' g' r' hw=>k v' H' F' as3 (g13.trans g') r' (Qdg _ _ _ _ _ _ _ (fun a ha=>g13.dm a ha) hw)⟩
 ·cases e
def Lks (K:Frag) (H F:Hp) (as:List Addr):List V→List D→Prop
 | [],[]=>True
 | v::vs,d::ds=>Lk K H F as v d∧Lks K H F as vs ds
 | _,_=>False
theorem QbV.lks {K:Frag}{mg:Str→Option Value}{O:Qac}{H F:Hp}{as:List Addr} (r:RlO K mg O H F as):∀{ms:List Md}{vs:List V}{ds:List D},QbV K H F as ms vs ds→Lks K H F as vs (ds.map (QaL O))
 | [],[],[],_=>trivial
 | m::ms,v::vs,d::ds,h=>by
  refine ⟨?_,QbV.lks r h.2⟩
  have h1:Sv K H F as v d:=by
   cases m with
   | v=>exact .inl h.1
   | s=>exact h.1
   | o=>exact h.1
  exact h1.lk r
 | [],[],_::_,h=>h.elim
 | [],_::_,[],h=>h.elim
 | [],_::_,_::_,h=>h.elim
 | _::_,[],[],h=>h.elim
 | _::_,[],_::_,h=>h.elim
 | _::_,_::_,[],h=>h.elim
def rC (K:Frag) (mg:Str→Option Value) (g:List D→Option D):List V→Hp→VK→Prop:=fun vs H Q=>∃O F as ds d,RlO K mg O H F as∧Lks K H F as vs ds∧g ds=some d ∧
 ∀v' H' F',Gr H F as H' F' as→RlO K mg O H' F' as→Ow K (fun a=>H a=none) H' F' as v' d→Q v' H'
abbrev QkV (X:Cx) (f:Value) (g:List D→Option D):Prop:=Qhm X f (rC X.K X.mg g)
def QaY (g:List D→Option D) (ma:M (List D)):M D:=fun ρ O=>(ma ρ O).bind fun ds O1=>match g (ds.map (QaL O1)) with
 | some d=>.ok d O1
 | none=>.no
theorem QmJ {K:Frag}{mg:Str→Option Value}{g:List D→Option D}{ms:List Md}{ma:M (List D)}{σ:St}{H:Hp}{Q:VK} (q:tM K mg md P (rO K) (QaY g ma) σ H Q):tCB (rC K mg g) (tMA K mg md P ms ma) σ H Q:=by
 obtain ⟨ρ,O,F,as,d,O',r,s,e,k⟩:=q;obtain ⟨ds,O1,e1,e⟩:=Res.bind_ok e;split at e
 ·rename_i y hg;cases e;refine ⟨ρ,_,F,as,_,_,r,s,e1,fun vs H1 F1 as1 g1 r1 hv=>?_⟩;exact ⟨_,F1,as1,_,_,r1,hv.lks r1,hg,fun v' H' F' g' r' hw=>k v' H' F' as1 (g1.trans g') r' (Qdg _ _ _ _ _ _ _ (fun a ha=>g1.dm a ha) hw)⟩
 ·cases e
theorem Qbt {x:Str}{p pos:Pos}{e:Expr}{es:List Expr}{id:String}{g:List D→Option D}{ms:List Md}{ma:M (List D)} (hc:QkV X (.builtin id) g) (hm:X.mg x=none) (ha:AE X md P ms (e::es) ma) (hv:bootBuiltins x=some (.builtin id):=by decide +kernel) (hg:Gl X x:=by rfl)
  (hn:x≠"__name__":=by decide) (hdb:(x == ("__debug__":Str))=false:=by decide) (he:starEach (e::es) X.env=(false,eval e X.env)::starEach es X.env:=by exact Qa7 rfl) (hpl:(backTo pos (starEach es X.env)).any (·.1)=false:=by exact Qbb rfl) :
  OE X md P (.Call (.Name x p) (e::es) [] pos) (QaY g ma):=(QiM hc hg hm hv ha hn hdb he hpl).imp fun _ _ _ q=>QmJ q
theorem Qm1 {x:Str}{p pos:Pos}{e:Expr}{es:List Expr}{T:String}{g:List D→Option D}{ms:List Md}{ma:M (List D)} (hc:QkV X (.type T) g) (hm:X.mg x=none) (ha:AE X md P ms (e::es) ma) (hv:bootBuiltins x=some (.type T):=by decide +kernel) (hg:Gl X x:=by rfl)
  (hn:x≠"__name__":=by decide) (hdb:(x == ("__debug__":Str))=false:=by decide) (he:starEach (e::es) X.env=(false,eval e X.env)::starEach es X.env:=by exact Qa7 rfl) (hpl:(backTo pos (starEach es X.env)).any (·.1)=false:=by exact Qbb rfl) :
  OE X md P (.Call (.Name x p) (e::es) [] pos) (QaY g ma):=(Qq6 hc hg hm hv ha hn hdb he hpl).imp fun _ _ _ q=>QmJ q
theorem Lks.one {K:Frag}{H F:Hp}{as:List Addr}{vs:List V}{d:D} (h:Lks K H F as vs [d]):∃v,vs = [v]∧Lk K H F as v d:=by
 cases vs with
 | nil=>exact h.elim
 | cons v vs =>
  cases vs with
  | nil=>exact ⟨v,rfl,h.1⟩
  | cons u us=>exact h.2.elim
def QbN:List D→Option D
 | [.str l]=>if l.length≤1000000 then some (.int l.length) else none
 | [.lst ds]=>some (.int ds.length)
 | [.tup ds]=>some (.int ds.length)
 | _=>none
theorem Qb9:QkV X (.builtin "len") QbN:=by
 intro pins s σ H xs us Q I rs h;obtain ⟨O,F,as,ds,d,r,hvs,e,k⟩:=h;unfold QbN at e;split at e
 ·rename_i l;obtain ⟨v,rfl,hv⟩:=hvs.one;split at e
  ·rename_i hz;cases e;cases (hv.rp rfl).unS;refine call_len pins s σ H _ us Q I rs ⟨_,_,rfl,⟨by rw [Qb4]; exact QeN hz,rfl⟩,?_⟩;rw [Qb4];exact QbJ r k rfl Rp.int
  ·cases e
 ·rename_i l;obtain ⟨v,rfl,hv⟩:=hvs.one;cases e;obtain ⟨p,xs,rfl,h1,h2⟩:=hv.list r.fh;refine call_len pins s σ H _ us Q I rs ⟨_,_,rfl,.inl ⟨xs,h1.sq,rfl⟩,?_⟩;rw [h2.length];exact QbJ r k rfl Rp.int
 ·rename_i l;obtain ⟨v,rfl,hv⟩:=hvs.one;cases e;obtain ⟨p,xs,rfl,h1,h2⟩:=(hv.rp rfl).unT;refine call_len pins s σ H _ us Q I rs ⟨_,_,rfl,.inr ⟨xs,Same.seqT r.fh h1,rfl⟩,?_⟩;rw [h2.length];exact QbJ r k rfl Rp.int
 ·cases e
def QxY:List D→Option D
 | [.int i,.int j]=>some (.int (if j > i then j else i))
 | _=>none
def QxI:List D→Option D
 | [.int i,.int j]=>some (.int (if j < i then j else i))
 | _=>none
def Qj9:List D→Option D
 | [.int i]=>some (.int i)
 | [.bl b]=>some (.int (if b then 1 else 0))
 | _=>none
theorem Qvp:QkV X (.type "int") Qj9:=by
 intro pins s σ H xs us Q I rs h;obtain ⟨O,F,as,ds,d,r,hvs,e,k⟩:=h;unfold Qj9 at e;split at e
 ·obtain ⟨v,rfl,hv⟩:=hvs.one;cases e;cases (hv.rp rfl).unI;exact QlT pins s σ H _ us Q I rs (.inl ⟨_,rfl,QbJ r k rfl Rp.int⟩)
 ·obtain ⟨v,rfl,hv⟩:=hvs.one;cases e;cases (hv.rp rfl).unB;exact QlT pins s σ H _ us Q I rs (.inr ⟨_,rfl,QbJ r k rfl Rp.int⟩)
 ·cases e
def Qmp:List D→Option D
 | [.lst ds]=>some (.lst ds)
 | [.tup ds]=>some (.lst ds)
 | _=>none
theorem Qty:QkV X (.type "list") Qmp:=by
 intro pins s σ H xs us Q I rs h;obtain ⟨O,F,as,ds,d,r,hvs,e,k⟩:=h;unfold Qmp at e;split at e
 ·obtain ⟨v,rfl,hv⟩:=hvs.one;cases e;obtain ⟨p,xs,rfl,h1,h2⟩:=hv.list r.fh;exact QjB pins s σ H _ us Q I rs ⟨p,xs,rfl,.inl h1.sq,fun l hl=>QkM r k hl h2⟩
 ·obtain ⟨v,rfl,hv⟩:=hvs.one;cases e;obtain ⟨p,xs,rfl,h1,h2⟩:=(hv.rp rfl).unT;exact QjB pins s σ H _ us Q I rs ⟨p,xs,rfl,.inr (Same.seqT r.fh h1),fun l hl=>QkM r k hl h2⟩
 ·cases e
theorem Qb6:bootBuiltins "len" = some (.builtin "len"):=by decide +kernel
theorem QnO:bootBuiltins "int" = some (.type "int"):=by decide +kernel
theorem Qk1:bootBuiltins "str" = some (.type "str"):=by decide +kernel
theorem QoZ:bootBuiltins "bool" = some (.type "bool"):=by decide +kernel
theorem Qlv:bootBuiltins "list" = some (.type "list"):=by decide +kernel
theorem Qne:bootBuiltins "tuple" = some (.type "tuple"):=by decide +kernel
def tyD:D→Option String
 | .non=>some "NoneType"
 | .bl _=>some "bool"
 | .int _=>some "int"
 | .str _=>some "str"
 | .lst _=>some "list"
 | .tup _=>some "tuple"
 | .dic _ _=>some "dict"
 | .ob _=>none
def Qd6 (t n:String):Bool:=t == n || (t == "bool" && n == "int")
def Qds (n:String) (m:M D):M D:=fun ρ O=>(m ρ O).bind fun d O1=>match tyD (QaL O1 d) with
 | some t=>.ok (.bl (Qd6 t n)) O1
 | none=>.no
def Qsv:List String:=["str","int","bool","list","tuple","dict"]
theorem Qt9 (K:Frag):∀d t,tyD d=some t→∀n∈Qsv,PySem.W.kitOne K (.type t) (.type n)=some (Qd6 t n):=by
 intro d t e n hn;simp only [Qsv,zm,List.not_mem_nil,or_false] at hn
 cases d <;> cases e <;> rcases hn with rfl | rfl | rfl | rfl | rfl | rfl <;> first | exact QrQ K _ | kernel_rfl
theorem Lk.ty {K:Frag}{H F:Hp}{as:List Addr}{v:V}{d:D}{t:String} (h:Lk K H F as v d) (fh:Same F H) (e:tyD d=some t):TyQ K H v t:=by
 cases d with
 | non=>cases e; rw [(h.rp rfl).unN]; exact .non
 | bl b=>cases e; rw [(h.rp rfl).unB]; exact .bl _
 | int b=>cases e; rw [(h.rp rfl).unI]; exact .int _
 | str b=>cases e; rw [(h.rp rfl).unS]; exact .str _
 | lst ds=>cases e; obtain ⟨p,xs,rfl,h1,h2⟩:=h.list fh; exact .lst h1.sq
 | tup ds=>cases e; obtain ⟨p,xs,rfl,h1,h2⟩:=(h.rp rfl).unT; exact .tup (Same.seqT fh h1)
 | dic ks vs=>cases e; obtain ⟨p,xs,rfl,h1,h2⟩:=(h.rp rfl).unD; exact .dK (fh _ _ h1)
 | ob n=>cases e
theorem QdD (n:String) {T:Str}{a:Expr}{p p' pos:Pos}{m:M D} (hm:X.mg "isinstance" = none) (hT:X.mg T=none) (h:SE X md P a m) (hb:bootBuiltins T=some (.type n):=by decide +kernel) (hn:n∈Qsv:=by decide) (hg:Gl X "isinstance":=by rfl) (hgT:Gl X T:=by rfl)
  (hTn:T≠"__name__":=by decide) (hTd:(T == ("__debug__":Str))=false:=by decide)
  (hs1:starEach [a,.Name T p'] X.env=(false,eval a X.env)::starEach [.Name T p'] X.env:=by exact Qa7 rfl) (hs2:starEach [.Name T p'] X.env=(false,eval (.Name T p') X.env)::starEach [] X.env:=by rfl) (hpl:(backTo pos (starEach [.Name T p'] X.env)).any (·.1)=false:=by exact Qbb rfl) :
  OE X md P (.Call (.Name "isinstance" p) [a,.Name T p'] [] pos) (Qds n m) :=
 (QiM (Qro X.K) hg hm (by decide +kernel) (QbY h (QbY (Qom (v:=.ty n) hgT hT hb rfl hTn hTd) Qc6 hs2) hs1) (by decide) (by decide) hs1 hpl).imp fun σ H Q q=>by
  obtain ⟨ρ,O,F,as,d,O',r,s,e,k⟩:=q;obtain ⟨x,O1,e1,e⟩:=Res.bind_ok e;split at e
  ·rename_i t ht;cases e;refine ⟨ρ,_,F,as,_,_,r,s,e1,fun v H1 F1 as1 g1 r1 hv=>?_⟩;exact ⟨v,n,t,_,rfl,Lk.ty (Sv.lk hv r1) r1.fh ht,Qt9 _ _ t ht n hn,k _ H1 F1 as1 g1 r1 (.inl ⟨rfl,Rp.bl⟩)⟩
  ·cases e
def QdV (m:M D):M (List D):=fun ρ O=>(m ρ O).bind fun d O1=>match d with
 | .lst ds=>.ok ds O1
 | _=>.no
def Qpi (m:M D):M (List D):=fun ρ O=>(m ρ O).bind fun d O1=>match d with
 | .tup ds=>.ok ds O1
 | _=>.no
theorem Qnp {K:Frag}{mg:Str→Option Value}{H F:Hp}{as:List Addr}{a:Addr}{xs:List V}{ds:List D} (hs:Rps K F as xs ds) (hp:∀(H2 F2:Hp) (as2:List Addr),GrS P H F as H2 F2 as2→(∃O,RlO K mg O H2 F2 as2)→RdK K H2 a xs):JOk K mg P (Itl K a) ds H F as:=by
 refine ⟨fun i d H2 F2 as2 g r e=>?_,fun H2 F2 as2 g r=>⟨xs,(hp H2 F2 as2 g r).sq,by rw [hs.length]; exact zc _⟩⟩;obtain ⟨x,h1,h2⟩:=hs.get' e;have q:=hp H2 F2 as2 g r;refine ⟨⟨xs,x,q.sq,h1⟩,fun y H3 hy=>?_⟩;obtain ⟨rfl,hy⟩:=hy
 have:=hy xs q.sq
 rw [h1] at this;cases this;exact ⟨F2,Gr.refl,fun _ r=>r,h2.grS g⟩
end
section
variable {X:Cx}{pins:List (Addr×Obj)}{σ:St}{H:Hp}{s:Shared}
theorem Inv.turnL {ch:List Addr}{h':Heap}{t':Nat} (I:Inv X pins σ H s) (hch:∀b∈ch,Qfd X pins H b) (k:∀b o,b∉ch→s.heap.get? b=some o→h'.get? b=some o):Inv X pins σ H { s with heap:=h',toks:=t' }:=by
 have nit:∀b u,H b=some u→b∉ch:=fun b u e z=>by rw [(hch b z).1] at e; cases e
 refine I.step (g':=s.gens) (d':=s.drawn) (ch:=ch) (fun b hb=>?_) (fun b o _ _ hc e _=>k b o hc e) (fun b o _ _ hc e _=>⟨o.slots,k b o hc e⟩) (fun _ _ _ _ n=>n)
  (fun b o hc e=>⟨o,k b o hc e⟩) (fun _ _ e=>e) (fun _ _ _ e=>e) (fun b ps e=>⟨#[],by rw [e]; simp⟩) (fun m hm=>?_) (fun b u e=>?_) I.bare
 ·obtain ⟨f0,f1,f2,f3,f4,f5⟩:=hch b hb;exact ⟨f3,f1,f4,f5⟩
 ·obtain ⟨o,es,ep,ho,r⟩:=hm;exact ⟨o,es,ep,k _ o (fun z=>(hch _ z).2.1 rfl) ho,r⟩
 ·refine (I.hok b u e).stay (fun c v hc q=>k c v ?_ q) (fun _ q=>q) fun _ _ q=>q
  rcases hc with z | z
  ·rw [z]; exact nit b u e
  ·exact nit c _ z
theorem Inv.turnT {ch:List Addr}{h':Heap}{t':Nat}{T:Addr}{vs:List V}{us:List Value} (I:Inv X pins σ H s) (hch:∀b∈ch,Qfd X pins H b) (k:∀b o,b∉ch→s.heap.get? b=some o→h'.get? b=some o)
  (hT:s.heap.objs.size≤T) (new:IsTup h' T us.toArray) (hv:QaB vs us) (hz:vs.length≤sizeLine):Inv X pins σ (upd H T (.tup vs)) { s with heap:=h',toks:=t' }:=by
 have hn:H T=none:=I.hok.fresh hT
 have nit:∀b u,H b=some u→b∉ch:=fun b u e z=>by rw [(hch b z).1] at e; cases e
 have ne:∀b o,s.heap.get? b=some o→b≠T:=fun b o e z=>by
  subst z;exact absurd (zd e) (Nat.not_lt_of_le hT)
 refine I.step (g':=s.gens) (d':=s.drawn) (ch:=ch) (fun b hb=>?_) (fun b o _ _ hc e _=>k b o hc e) (fun b o _ _ hc e _=>⟨o.slots,k b o hc e⟩) (fun b o _ e n=>by rw [Qam (ne b o e)]; exact n)
  (fun b o hc e=>⟨o,k b o hc e⟩) (fun b _ e=>by rw [Qam (Qax e hn)]; exact e) (fun b _ _ e=>by rw [Qam (Qax e hn)]; exact e) (fun b ps e=>⟨#[],by rw [Qam (Qax e hn),e]; simp⟩) (fun m hm=>?_) (fun b u e=>?_) I.bare
 ·obtain ⟨f0,f1,f2,f3,f4,f5⟩:=hch b hb;exact ⟨f3,f1,f4,f5⟩
 ·obtain ⟨o,es,ep,ho,r⟩:=hm;exact ⟨o,es,ep,k _ o (fun z=>(hch _ z).2.1 rfl) ho,r⟩
 ·by_cases hb:b=T
  ·subst hb;rw [QaE] at e;cases e;exact ⟨hz,us,hv,new⟩
  ·rw [Qam hb] at e
   refine (I.hok b u e).stay (fun c v hc q=>k c v ?_ q) (fun c q=>by rw [Qam (Qax q hn)]; exact q) fun c xs q=>by rw [Qam (Qax q hn)]; exact q
   rcases hc with z | z
   ·rw [z]; exact nit b u e
   ·exact nit c _ z
end
def Ite (K:Frag) (l:Addr):It:=⟨fun i H=>∃xs x,SqL K H l xs∧xs[i]? = some x,fun i H v H'=>∃T x,v = .ref T∧H T=none∧H'=upd H T (.tup [.int i,x])∧∀xs,SqL K H l xs→xs[i]? = some x,fun i H=>∃xs,SqL K H l xs∧xs.length≤i⟩
def QvJ (l:List Nat):It:=⟨fun i _=>i < l.length,fun i H v H'=>∃T c,v = .ref T∧H T=none∧H'=upd H T (.tup [.int i,.str (S [c])])∧l[i]? = some c,fun i _=>l.length≤i⟩
theorem Qdx {h:Heap}{b:Addr}{o:Obj}{vs:Array Value} (e:h.get? b=some o) (d:o.data = .fields vs):∃o,h.get? b=some o∧∀v,o.data≠.cell v:=⟨o,e,fun v z=>by rw [d] at z; cases z⟩
theorem Qo9 {P:Program}{w:World}{K:Frag}{elts:List Expr}{x1}{pos:Pos} (e it l:Addr) (hne:e≠it):Turn P w K (.Tuple elts x1 pos) (Ite K l) [e,it] e (fun i h=>(∃old,IsEnum h e it i old)∧h.IsListIter it l i) where
 mem:=by simp
 obj:=fun i h st b hb=>by
  obtain ⟨⟨old,he⟩,o,ho,hc,hd⟩:=st
  rcases zm.mp hb with rfl | hb
  ·exact Qdx he rfl
  ·rw [zr.mp hb];exact Qdx ho hd
 keep:=fun i h h' st k=>by
  obtain ⟨⟨old,he⟩,o,ho,r⟩:=st;exact ⟨⟨old,k e (by simp) _ he⟩,o,k it (by simp) o ho,r⟩
 item:=by
  intro X hP hw hK hc i pins s σ H E I hf st hg;subst hP hw hK;obtain ⟨⟨old,he⟩,hit⟩:=st;obtain ⟨xs,x,hq,hx⟩:=hg;obtain ⟨its,rv,pl,hz⟩:=I.list hq;obtain ⟨u,hu,ru⟩:=rv.get hx;have hT:H s.heap.objs.size=none:=I.hok.fresh (zc _);have elt:e < s.heap.objs.size:=zd he
  refine wpAny_pyNext_enum_item he hit pl.isList (x:=u) (by simpa using hu) hne fun h' ho hit' hTup hsz hk=>⟨_,rfl,?_⟩
  refine wpAny_letOwnedTupleGo_enum ho fun h'' he'' hs''=>⟨.ref s.heap.objs.size,_,?_,rfl,⟨s.heap.objs.size,x,rfl,hT,rfl,fun ys hy=>by rw [I.list_inj hy hq]; exact hx⟩,⟨⟨_,by simpa using he''⟩,hit'.extBut hs''.extBut (Ne.symm hne)⟩,fun b hb=>?_⟩
  ·show Inv X pins σ _ { s with heap:=h'',toks:=s.toks+1 };refine I.turnT (ch:=[e,it]) (us:=[.int i s.toks,u]) hf (fun b o hb q=>?_) (zc _) ⟨_,hs''.extBut _ _ (Nat.ne_of_gt elt) hTup,rfl,_,rfl⟩ (.cons ⟨_,rfl⟩ (.cons ru .nil)) (by show 2≤sizeLine; decide)
   have h1:b≠e:=fun z=>hb (by simp [z])
   have h2:b≠it:=fun z=>hb (by simp [z])
   exact hs''.extBut _ _ h1 (hk b o h1 h2 q)
  ·have q:=hf b hb;rw [Qam (fun z=>?_)]
   ·exact q.1
   ·obtain ⟨o,ho⟩:∃o,s.heap.get? b=some o:=by
     rcases zm.mp hb with rfl | hb
     ·exact ⟨_,he⟩
     ·rw [zr.mp hb];obtain ⟨o,ho,_⟩:=hit;exact ⟨o,ho⟩
    exact absurd (zd ho) (by rw [z]; exact zM _)
 done:=by
  intro X hP hw hK hc i pins s σ H E I hf st hg;subst hP hw hK;obtain ⟨⟨old,he⟩,hit⟩:=st;obtain ⟨xs,hq,hl⟩:=hg;obtain ⟨its,rv,pl,hz⟩:=I.list hq
  refine wpAny_pyNext_enum_end (I.ok.hd hc) he hit pl.isList (by have:=rv.length; simp; omega) fun h' hx=>⟨rfl,?_⟩
  exact I.turnL (t':=s.toks) (ch:=[e,it]) hf fun b o hb q=>hx b o (fun z=>hb (by simp [z])) q
 self:=fun A i s Q E st h=>by
  obtain ⟨⟨old,he⟩,_⟩:=st;exact wpAny_pyIter_enum he h
theorem Qpy {P:Program}{w:World}{K:Frag}{elts:List Expr}{x1}{pos:Pos} (e it:Addr) (l:List Nat) (t:Tok) (hne:e≠it):Turn P w K (.Tuple elts x1 pos) (QvJ l) [e,it] e (fun i h=>(∃old,IsEnum h e it i old)∧h.IsStrIter it "str_ascii_iterator" (S l) t i) where
 mem:=by simp
 obj:=fun i h st b hb=>by
  obtain ⟨⟨old,he⟩,o,ho,hc,hd⟩:=st
  rcases zm.mp hb with rfl | hb
  ·exact Qdx he rfl
  ·rw [zr.mp hb];exact Qdx ho hd
 keep:=fun i h h' st k=>by
  obtain ⟨⟨old,he⟩,o,ho,r⟩:=st;exact ⟨⟨old,k e (by simp) _ he⟩,o,k it (by simp) o ho,r⟩
 item:=by
  intro X hP hw hK hc i pins s σ H E I hf st hg;subst hP hw hK;obtain ⟨⟨old,he⟩,hit⟩:=st;have hg':i < l.length:=hg;have hT:H s.heap.objs.size=none:=I.hok.fresh (zc _);have elt:e < s.heap.objs.size:=zd he;have hd:X.A.in1.handled=none:=I.ok.hd hc
  refine wpAny_pyNext_enum_itemD (Draws.strAscii hd it (S l) t) he hit (by simpa [S] using hg') hne (fun z=>hne (by simpa using z)) fun u h' tk hP ho hit' hTup hsz hk=>⟨_,rfl,?_⟩
  obtain ⟨c,tc,hcx,rfl⟩:=hP
  have hcl:l[i]? = some c:=by
   rw [←hcx];simp [S]
  refine wpAny_letOwnedTupleGo_enum ho fun h'' he'' hs''=>⟨.ref s.heap.objs.size,_,?_,rfl,⟨s.heap.objs.size,c,rfl,hT,rfl,hcl⟩,⟨⟨_,by simpa using he''⟩,?_⟩,fun b hb=>?_⟩
  ·show Inv X pins σ _ { s with heap:=h'',toks:=tk+1 };refine I.turnT (ch:=[e,it]) (us:=[.int i tk,.str ⟨#[c]⟩ tc]) hf (fun b o hb q=>?_) (zc _) ⟨_,hs''.extBut _ _ (Nat.ne_of_gt elt) hTup,rfl,_,rfl⟩ (.cons ⟨_,rfl⟩ (.cons ⟨_,rfl⟩ .nil)) (by show 2≤sizeLine; decide)
   have h1:b≠e:=fun z=>hb (by simp [z])
   have h2:b≠it:=fun z=>hb (by simp [z])
   exact hs''.extBut _ _ h1 (hk b o h1 h2 q)
  ·obtain ⟨o,ho',r⟩:=hit';exact ⟨o,hs''.extBut _ _ (Ne.symm hne) ho',r⟩
  ·have q:=hf b hb;rw [Qam (fun z=>?_)]
   ·exact q.1
   ·obtain ⟨o,ho⟩:∃o,s.heap.get? b=some o:=by
     rcases zm.mp hb with rfl | hb
     ·exact ⟨_,he⟩
     ·rw [zr.mp hb];obtain ⟨o,ho,_⟩:=hit;exact ⟨o,ho⟩
    exact absurd (zd ho) (by rw [z]; exact zM _)
 done:=by
  intro X hP hw hK hc i pins s σ H E I hf st hg;subst hP hw hK;obtain ⟨⟨old,he⟩,hit⟩:=st;have hd:X.A.in1.handled=none:=I.ok.hd hc;have hg':l.length≤i:=hg;have hT:s.TypeIs (.ref e) "enumerate":=⟨_,he,rfl⟩;unfold pyNext
  refine za (wpAny_attempt (wpAny_callSpecial?_slot (name:=Str.ofString "__next__") hT F.slot_enumerate_next
   (wpAny_call_entry F.slot_enumerate_next hT F.entry_enumerate_next ?_ (F.args_enumerate_next_1 _))))
  show wpAny _ _ (field (.ref e) 2 >>= _) _ _ _;refine za (wpAny_field he rfl (x:=.ref it) rfl ?_);refine za (wpAny_nextOf_ascii_end hd hit (by simp [S]; exact hg') fun h' x he' hx'=>?_);obtain ⟨o,ho,hc⟩:=hx';refine za (wpAny_isInstance (T:="StopIteration") (b:=true) ⟨o,ho,hc⟩ isSubtype_stop ?_);exact zb ⟨rfl,I.turnL (t':=s.toks) (ch:=[e,it]) hf fun b o hb q=>he' b o (fun z=>hb (by simp [z])) q⟩
 self:=fun A i s Q E st h=>by
  obtain ⟨⟨old,he⟩,_⟩:=st;exact wpAny_pyIter_enum he h
section
variable {X:Cx}{elts:List Expr}{x1:Nat}{tpos:Pos}
def QuG (K:Frag) (ta:TA):TI:=fun σ H R=>ta σ H fun vs H1=>∃a,vs = [.ref a]∧(∃xs,SqL K H1 a xs)∧R (Ite K a) H1
def QvF (ta:TA):TI:=fun σ H R=>ta σ H fun vs H1=>∃l,vs = [.str (S l)]∧ascii l=true∧R (QvJ l) H1
theorem Qmi {l:List Nat} (h:ascii l=true):strIterType (S l) = "str_ascii_iterator":=by
 unfold strIterType;rw [if_pos];unfold ascii at h;rw [ji] at h;simp [S];intro i hi;simpa using h i hi
theorem Qsw {a:Expr}{ta:TA}{p pos:Pos} (hg:Gl X "enumerate") (hm:X.mg "enumerate" = none) (ha:PA X [a] ta) (hs:starEach [a] X.env = [(false,eval a X.env)]:=by exact QjP rfl):PI X (.Tuple elts x1 tpos) (.Call (.Name "enumerate" p) [a] [] pos) (QuG X.K ta):=by
 intro pins s σ H R I h;refine Call_ (QgY I hg hm boot_enumerate (PyProof.Rows.callWith_type1 (thn (ha pos pins s σ H _ I h) fun us s1 ⟨vs,H1,I1,r1,q1⟩=>?_) hs rfl));obtain ⟨l,e,⟨xs,hq⟩,q⟩:=q1;subst e;obtain ⟨u,rfl,ru⟩:=vals1 r1;cases ru;obtain ⟨its,rv,pl,hz⟩:=I1.list hq
 refine call_enumerate_list pl.isList fun h' he hit hsz hk=>wpAny_pyIter_enum he ?_
 refine ⟨s1.heap.objs.size+1,[s1.heap.objs.size+1,s1.heap.objs.size],_,_,H1,rfl,I1.kept (t':=s1.toks) hk,Qo9 (s1.heap.objs.size+1) s1.heap.objs.size l (Nat.succ_ne_self _),⟨⟨_,he⟩,hit⟩,fun b hb=>?_,q⟩
 have hb':s1.heap.objs.size≤b:=by
  rcases zm.mp hb with rfl | hb
  ·exact Nat.le_succ _
  ·rw [zr.mp hb]; exact zc _
 exact I1.fpOk hb' (I1.hok.fresh hb')
theorem Qr0 {a:Expr}{ta:TA}{p pos:Pos} (hg:Gl X "enumerate") (hm:X.mg "enumerate" = none) (ha:PA X [a] ta) (hs:starEach [a] X.env = [(false,eval a X.env)]:=by exact QjP rfl):PI X (.Tuple elts x1 tpos) (.Call (.Name "enumerate" p) [a] [] pos) (QvF ta):=by
 intro pins s σ H R I h;refine Call_ (QgY I hg hm boot_enumerate (PyProof.Rows.callWith_type1 (thn (ha pos pins s σ H _ I h) fun us s1 ⟨vs,H1,I1,r1,q1⟩=>?_) hs rfl));obtain ⟨l,e,hl,q⟩:=q1;subst e;obtain ⟨u,rfl,t,rfl⟩:=vals1 r1
 refine call_enumerate_str fun h' he hit hsz hk=>wpAny_pyIter_enum he ?_
 rw [Qmi hl] at hit;refine ⟨s1.heap.objs.size+1,[s1.heap.objs.size+1,s1.heap.objs.size],_,_,H1,rfl,I1.kept (t':=s1.toks) hk,Qpy (s1.heap.objs.size+1) s1.heap.objs.size l t (Nat.succ_ne_self _),⟨⟨_,he⟩,hit⟩,fun b hb=>?_,q⟩
 have hb':s1.heap.objs.size≤b:=by
  rcases zm.mp hb with rfl | hb
  ·exact Nat.le_succ _
  ·rw [zr.mp hb]; exact zc _
 exact I1.fpOk hb' (I1.hok.fresh hb')
end
def rW (K:Frag) (P:Pt):RR:=fun _ H F as v d=>Rp K F as v d∨∃a xs ds,v = .ref a∧d = .lst ds∧H a=some (.lst xs)∧a∉as∧P a∧Rps K F as xs ds
def WE (X:Cx) (md:List Md) (P:Pt) (e:Expr) (m:M D):Prop:=PE X e (tM X.K X.mg md P (rW X.K P) m)
section
variable {X:Cx}{md:List Md}{P:Pt}{R:RR}
theorem QgN (i:Nat) {x:Str}{pos:Pos} (hm:md[i]? = some .s:=by rfl) (hN:X.N[i]? = some x:=by rfl) (hv:Vis X.env.scope x:=by first | exact Or.inl rfl | exact Or.inr (Or.inl rfl) | exact Or.inr (Or.inr rfl))
  (hd:(x == ("__debug__":Str))=false:=by decide) (hcd:(x == ("__classdict__":Str))=false:=by decide):WE X md P (.Name x pos) (Qab i):=by
 refine (Qfm (i:=i) hN hv hd hcd).imp fun σ H Q h=>?_
 obtain ⟨ρ,O,F,as,d,O',r,s,e,k⟩:=h;obtain ⟨e1,rfl⟩:=QjE e;obtain ⟨v,h2,h3⟩:=s.sl i .s d hm e1;exact ⟨v,h2,k v H F as Gr.refl r h3⟩
theorem QkW {K:Frag}{mg:Str→Option Value}{N:Addr→Prop}{H F:Hp}{as:List Addr}{v:V}{ds:List D} (hv:rW K P N H F as v (.lst ds)) :
  ∃a xs,v = .ref a∧Rps K F as xs ds∧∀(H2 F2:Hp) (as2:List Addr),GrS P H F as H2 F2 as2→(∃O,RlO K mg O H2 F2 as2)→RdK K H2 a xs:=by
 rcases hv with hv | ⟨a,xs,ds',rfl,e,e3,e4,e5,e6⟩
 ·obtain ⟨a,xs,rfl,h1,h2⟩:=hv.unL;exact ⟨a,xs,rfl,h2,fun H2 F2 as2 g ⟨O,r⟩=>(h1.mono g.ff).mono r.fh⟩
 ·cases e;exact ⟨a,xs,rfl,e6,fun H2 F2 as2 g _=>.inl (.inl (g.fr _ _ e5 e3 e4 rfl))⟩
theorem Qoj {tg e:Expr}{m:M D} (h:WE X md P e m):VI X md P tg e (QdV m):=(QjD h).imp fun σ H Q q=>by
 obtain ⟨ρ,O,F,as,ds,O',r,s,e,k⟩:=q;obtain ⟨d,O1,e1,e⟩:=Res.bind_ok e
 cases d with
 | lst es =>
  cases e;refine ⟨ρ,_,F,as,_,_,r,s,e1,fun v H1 F1 as1 g1 r1 hv=>?_⟩;obtain ⟨a,xs,rfl,h1,h2⟩:=QkW (mg:=X.mg) hv;exact ⟨a,rfl,⟨xs,(h2 H1 F1 as1 GrS.refl ⟨_,r1⟩).sq⟩,k _ H1 F1 as1 g1 r1 (Qnp h1 h2)⟩
 | _=>cases e
theorem Qq5 {tg e:Expr}{m:M D} (h:VE X md P e m):VI X md P tg e (Qpi m):=(Qvz h).imp fun σ H Q q=>by
 obtain ⟨ρ,O,F,as,ds,O',r,s,e,k⟩:=q;obtain ⟨d,O1,e1,e⟩:=Res.bind_ok e
 cases d with
 | tup es =>
  cases e;refine ⟨ρ,_,F,as,_,_,r,s,e1,fun v H1 F1 as1 g1 r1 hv=>?_⟩;obtain ⟨a,xs,rfl,h1,h2⟩:=Rp.unT hv
  have hp:∀(H2 F2:Hp) (as2:List Addr),GrS P H1 F1 as1 H2 F2 as2→(∃O,RlO X.K X.mg O H2 F2 as2)→SqT X.K H2 a xs:=fun H2 F2 as2 g ⟨O,r⟩=>Same.seqT r.fh (Same.seqT g.ff h1)
  refine ⟨a,rfl,⟨xs,hp H1 F1 as1 GrS.refl ⟨_,r1⟩⟩,k _ H1 F1 as1 g1 r1 ⟨fun i d H2 F2 as2 g r e=>?_,fun H2 F2 as2 g r=>⟨xs,hp H2 F2 as2 g r,by rw [h2.length]; exact zc _⟩⟩⟩;obtain ⟨x,h3,h4⟩:=h2.get' e;have q:=hp H2 F2 as2 g r;refine ⟨⟨xs,x,q,h3⟩,fun y H3 hy=>?_⟩;obtain ⟨rfl,hy⟩:=hy
  have:=hy xs q
  rw [h3] at this;cases this;exact ⟨F2,Gr.refl,fun _ r=>r,h4.grS g⟩
 | _=>cases e
def Qbe (l:List Nat):List D:=l.map fun c=>.str [c]
def QpY (m:M D):M (List D):=fun ρ O=>(m ρ O).bind fun d O1=>match d with
 | .str l=>if ascii l=true then .ok (Qbe l) O1 else .no
 | _=>.no
theorem QmO {K:Frag}{mg:Str→Option Value}{J:It}{ds:List D}{H F:Hp}{as:List Addr} (h1:∀(i:Nat) (d:D) (H2:Hp),ds[i]? = some d→J.go i H2∧∀x H3,J.yld i H2 x H3→H3=H2∧∀K F as,Rp K F as x d) (h2:∀H2,J.stop ds.length H2):JOk K mg P J ds H F as :=
 ⟨fun i d H2 F2 as2 _ _ e=>⟨(h1 i d H2 e).1,fun x H3 y=>by
  obtain ⟨rfl,hx⟩:=(h1 i d H2 e).2 x H3 y
  exact ⟨F2,Gr.refl,fun _ r=>r,hx _ _ _⟩⟩,fun H2 _ _ _ _=>h2 H2⟩
theorem QqR {tg e:Expr}{m:M D} (h:SE X md P e m):VI X md P tg e (QpY m):=(Qu5 h).imp fun σ H Q q=>by
 obtain ⟨ρ,O,F,as,ds,O',r,s,e,k⟩:=q;obtain ⟨d,O1,e1,e⟩:=Res.bind_ok e
 cases d with
 | str l =>
  dsimp only at e;split at e
  ·rename_i hl;cases e;refine ⟨ρ,_,F,as,_,_,r,s,e1,fun v H1 F1 as1 g1 r1 hv=>?_⟩;refine ⟨l,(Sv.rp hv rfl).unS,hl,k _ H1 F1 as1 g1 r1 (QmO (fun i d H2 e=>?_) fun H2=>by simp [Qbe,Its])⟩;unfold Qbe at e;rw [zJ] at e
   cases q:l[i]? with
   | none=>rw [q] at e; cases e
   | some c =>
    rw [q] at e;cases e;refine ⟨(zj.mp q).1,fun x H3 y=>?_⟩;obtain ⟨e1,c',e2,rfl⟩:=y;rw [q] at e2;cases e2;exact ⟨e1,fun _ _ _=>Rp.str⟩
  ·cases e
 | _=>cases e
def Qcd (lo:Int) (n:Nat):List D:=(List.range n).map fun (k:Nat)=>.int (lo+(k:Int))
def Qfl (m:M (List D)):M (List D):=fun ρ O=>(m ρ O).bind fun ds O1=>match ds with
 | [.int j]=>if j≤1000000000∧-1000000000≤j then .ok (Qcd 0 j.toNat) O1 else .no
 | _=>.no
theorem Qqm {K:Frag}{mg:Str→Option Value}{lo:Int}{n:Nat}{H F:Hp}{as:List Addr}:JOk K mg P (Itr lo n) (Qcd lo n) H F as:=QmO (fun i d H2 e=>by
 unfold Qcd at e;rw [zJ] at e
 by_cases hi:i < n
 ·rw [List.getElem?_range hi] at e;cases e;refine ⟨hi,fun x H3 y=>?_⟩;obtain ⟨e1,rfl⟩:=y;exact ⟨e1,fun _ _ _=>Rp.int⟩
 ·rw [List.getElem?_eq_none (by simpa using hi)] at e
  cases e) fun H2=>by simp [Qcd,Itr]
theorem QbV.one {K:Frag}{H F:Hp}{as:List Addr}{m:Md}{vs:List V}{d:D} (h:QbV K H F as [m] vs [d]):∃v,vs = [v]∧rA K m (fun _=>True) H F as v d:=by
 cases vs with
 | nil=>exact h.elim
 | cons v vs =>
  cases vs with
  | nil=>exact ⟨v,rfl,h.1⟩
  | cons u us=>exact h.2.elim
theorem Qhg {tg a:Expr}{p pos:Pos}{m:M (List D)} (hm:X.mg "range" = none) (ha:AE X md P [.s] [a] m) (hg:Gl X "range":=by rfl) (hs:starEach [a] X.env = [(false,eval a X.env)]:=by exact QjP rfl):VI X md P tg (.Call (.Name "range" p) [a] [] pos) (Qfl m):=(QqU hg hm ha hs).imp fun σ H Q q=>by
 obtain ⟨ρ,O,F,as,ds,O',r,s,e,k⟩:=q;obtain ⟨es,O1,e1,e⟩:=Res.bind_ok e;split at e
 ·rename_i j;split at e
  ·rename_i hj;cases e;refine ⟨ρ,_,F,as,_,_,r,s,e1,fun vs H1 F1 as1 g1 r1 hv=>?_⟩;obtain ⟨v,rfl,hv1⟩:=hv.one
   have:=(Sv.rp hv1 rfl).unI
   subst this;exact ⟨j,rfl,by omega,by omega,k _ H1 F1 as1 g1 r1 Qqm⟩
  ·cases e
 ·cases e
def Qb2:Nat→List D→List D
 | _,[]=>[]
 | k,d::ds=>.tup [.int k,d]::Qb2 (k+1) ds
theorem Qhb:∀(k:Nat) (ds:List D),(Qb2 k ds).length=ds.length
 | _,[]=>rfl
 | k,d::ds=>by simp [Qb2,Qhb (k+1) ds]
theorem Qhh:∀(k:Nat) (ds:List D) (i:Nat),(Qb2 k ds)[i]? = (ds[i]?).map fun d=>.tup [.int ((k+i:Nat):Int),d]
 | k,[],i=>by simp [Qb2]
 | k,d::ds,0=>by simp [Qb2]
 | k,d::ds,i+1=>by
  rw [Qb2,zx,zx,Qhh (k+1) ds i];congr 1
  funext d
  congr 3;omega
theorem Qkk {K:Frag}{mg:Str→Option Value}{H2 F2:Hp}{as2:List Addr}{T:Addr}{xs:List V}{ds:List D} (hr:∃O,RlO K mg O H2 F2 as2) (hT:H2 T=none) (hx:Rps K F2 as2 xs ds) :
  ∃F3,Gr H2 F2 as2 (upd H2 T (.tup xs)) F3 as2∧(∀O,RlO K mg O H2 F2 as2→RlO K mg O (upd H2 T (.tup xs)) F3 as2)∧Rp K F3 as2 (.ref T) (.tup ds):=by
 obtain ⟨O,r⟩:=hr;have hF:=r.frF hT
 have ff:Same F2 (upd F2 T (.tup xs)):=fun b u q=>by rw [Qam (Qax q hF)]; exact q
 exact ⟨upd F2 T (.tup xs),(Gr.lay hT).frz hT hF,fun O' r'=>(r'.lay hT).frz QaE hF (fun z=>r'.all z hT) rfl,Rp.mkT (.inl QaE) (Rps.mono ff (fun _ _ z=>z) _ hx)⟩
def Qqy (m:M D):M (List D):=fun ρ O=>(m ρ O).bind fun d O1=>match d with
 | .lst ds=>.ok (Qb2 0 ds) O1
 | _=>.no
def Qrj (m:M D):M (List D):=fun ρ O=>(m ρ O).bind fun d O1=>match d with
 | .str l=>if ascii l=true then .ok (Qb2 0 (Qbe l)) O1 else .no
 | _=>.no
variable {elts:List Expr}{x1:Nat}{tpos:Pos}
theorem Qsc {a:Expr}{p pos:Pos}{m:M D} (hm:X.mg "enumerate" = none) (h:WE X md P a m) (hg:Gl X "enumerate":=by rfl) (hs:starEach [a] X.env = [(false,eval a X.env)]:=by exact QjP rfl) (hs':starEach [a] X.env=(false,eval a X.env)::starEach [] X.env:=by exact Qa7 rfl) :
  VI X md P (.Tuple elts x1 tpos) (.Call (.Name "enumerate" p) [a] [] pos) (Qqy m):=(Qsw hg hm (QbY h Qc6 hs') hs).imp fun σ H Q q=>by
 obtain ⟨ρ,O,F,as,ds,O',r,s,e,k⟩:=q;obtain ⟨d,O1,e1,e⟩:=Res.bind_ok e
 cases d with
 | lst es =>
  cases e;refine ⟨ρ,_,F,as,_,_,r,s,e1,fun v H1 F1 as1 g1 r1 hv=>?_⟩;obtain ⟨a,xs,rfl,h1,h2⟩:=QkW (mg:=X.mg) hv;refine ⟨a,rfl,⟨xs,(h2 H1 F1 as1 GrS.refl ⟨_,r1⟩).sq⟩,k _ H1 F1 as1 g1 r1 ⟨fun i d H2 F2 as2 g r e=>?_,fun H2 F2 as2 g r=>⟨xs,(h2 H2 F2 as2 g r).sq,by rw [Qhb,h1.length]; exact zc _⟩⟩⟩;rw [Qhh] at e
  cases q:es[i]? with
  | none=>rw [q] at e; cases e
  | some y =>
   rw [q] at e;cases e;obtain ⟨x,h3,h4⟩:=h1.get' q;have hq:=h2 H2 F2 as2 g r;refine ⟨⟨xs,x,hq.sq,h3⟩,fun z H3 hz=>?_⟩;obtain ⟨T,x',rfl,hT,rfl,hx'⟩:=hz
   have:=hx' xs hq.sq
   rw [h3] at this;cases this;rw [Nat.zero_add];exact Qkk r hT (Rps.cons Rp.int (Rps.cons (h4.grS g) Rps.nil))
 | _=>cases e
theorem QrH {a:Expr}{p pos:Pos}{m:M D} (hm:X.mg "enumerate" = none) (h:SE X md P a m) (hg:Gl X "enumerate":=by rfl) (hs:starEach [a] X.env = [(false,eval a X.env)]:=by exact QjP rfl) (hs':starEach [a] X.env=(false,eval a X.env)::starEach [] X.env:=by exact Qa7 rfl) :
  VI X md P (.Tuple elts x1 tpos) (.Call (.Name "enumerate" p) [a] [] pos) (Qrj m):=(Qr0 hg hm (QbY h Qc6 hs') hs).imp fun σ H Q q=>by
 obtain ⟨ρ,O,F,as,ds,O',r,s,e,k⟩:=q;obtain ⟨d,O1,e1,e⟩:=Res.bind_ok e
 cases d with
 | str l =>
  dsimp only at e;split at e
  ·rename_i hl;cases e;refine ⟨ρ,_,F,as,_,_,r,s,e1,fun v H1 F1 as1 g1 r1 hv=>?_⟩;refine ⟨l,by rw [(Sv.rp hv rfl).unS],hl,k _ H1 F1 as1 g1 r1 ⟨fun i d H2 F2 as2 g r e=>?_,fun H2 F2 as2 g r=>?_⟩⟩
   ·rw [Qhh] at e;unfold Qbe at e;rw [zJ] at e
    cases q:l[i]? with
    | none=>rw [q] at e; cases e
    | some c =>
     rw [q] at e;cases e;refine ⟨(zj.mp q).1,fun z H3 hz=>?_⟩;obtain ⟨T,c',rfl,hT,rfl,hc'⟩:=hz;rw [q] at hc';cases hc';rw [Nat.zero_add];exact Qkk r hT (Rps.cons Rp.int (Rps.cons Rp.str Rps.nil))
   ·show l.length≤_;rw [Qhb];simp [Qbe]
  ·cases e
 | _=>cases e
def Qiu:List D→Option (List (List Nat))
 | []=>some []
 | .str l::ds=>(Qiu ds).map (l :: ·)
 | _=>none
theorem Rps.strs {K:Frag}{F:Hp}{as:List Addr}:∀{ds:List D}{xs:List V}{ls:List (List Nat)},Rps K F as xs ds→Qiu ds=some ls→xs=ls.map fun l=>V.str (S l)
 | [],xs,bs,h,e=>by cases e; rw [h.un0]; rfl
 | d::ds,xs,bs,h,e=>by
  obtain ⟨x,r,rfl,h2,h3⟩:=h.un
  cases d with
  | str b =>
   unfold Qiu at e
   cases q:Qiu ds with
   | none=>rw [q] at e; cases e
   | some cs =>
    rw [q] at e;cases e;rw [h2.unS,Rps.strs h3 q];rfl
  | _=>cases e
def QwO (m:M D):M D:=fun ρ O=>(m ρ O).bind fun d O1=>match QaL O1 d with
 | .lst ds=>match Qiu ds with
  | some ls=>if (ls.map List.length).sum≤1000000 then .ok (.str ls.flatten) O1 else .no
  | none=>.no
 | _=>.no
def QjO (mo m:M D):M D:=fun ρ O=>(mo ρ O).bind fun a O1=>(m ρ O1).bind fun b O2=>match a,b with
 | .str l,.str n=>.ok (.bl (decide (l.take n.length=n))) O2
 | _,_=>.no
theorem Ql4 {o e:Expr}{apos cpos:Pos}{mo m:M D} (ho:VE X md P o mo) (h:VE X md P e m)
  (hbase:attributeBase o "startswith" X.env (eval o X.env)=eval o X.env:=by rfl)
  (hfew:((backTo cpos (starEach [e] X.env)).all (fun x=>!x.1)&&(backToKw cpos (keywordEach [] X.env)).all (fun x=>x.1.isSome)&&decide ([e].length+([]:List Keyword).length+(if ([]:List Keyword).isEmpty then 0 else 1) < 30))=true:=by rfl)
  (hline:(apos.endLine == cpos.line)=true:=by rfl) (hs:starEach [e] X.env=(false,eval e X.env)::starEach [] X.env:=by exact Qa7 rfl) (hplain:(backTo cpos (starEach [] X.env)).any (·.1)=false:=by exact Qbb rfl) :
  OE X md P (.Call (.Attribute o "startswith" apos) [e] [] cpos) (QjO mo m) :=
 (Qml PySem.F.plainAttrs_str PySem.F.slot_str_startswith PySem.F.type_str_startswith QqZ ho (QbY h Qc6 hs) hbase hfew hline hs hplain).imp fun σ H Q q=>by
  obtain ⟨ρ,O,F,as,d,O',r,s,e,k⟩:=q;obtain ⟨a,O1,e1,e⟩:=Res.bind_ok e;obtain ⟨b,O2,e2,e⟩:=Res.bind_ok e;split at e
  ·cases e;refine ⟨ρ,_,F,as,_,_,r,s,e1,fun v H1 F1 as1 g1 r1 hv=>?_⟩;cases Rp.unS hv;refine ⟨rfl,ρ,_,F1,as1,_,_,r1,s.step g1,e2,fun u H2 F2 as2 g2 r2 hu=>?_⟩;cases Rp.unS hu;exact ⟨_,_,rfl,rfl,k _ H2 F2 as2 (g1.trans g2) r2 (.inl ⟨rfl,Rp.bl⟩)⟩
  ·cases e
end
section
variable {K:Frag}{mg:Str→Option Value}{md:List Md}{P:Pt}{ρ:Qal}{σ:St}{H F:Hp}{as:List Addr}{O:Qac}{i:Nat}{a:Addr}{xs xs':List V}{ds ds':List D}
theorem SlO.own (s:SlO K md P ρ σ H F as) (hm:md[i]? = some .o) (hρ:ρ[i]? = some (some (.lst ds))):∃a xs,σ[i]? = some (some (.ref a))∧H a=some (.lst xs)∧F a=none∧a∉as∧¬P a∧Rps K F as xs ds:=by
 obtain ⟨v,h1,h2⟩:=s.sl i .o _ hm hρ
 rcases h2 with ⟨h2,_⟩ | ⟨a,xs,es,rfl,e2,e3,e0,e4,e5,e6⟩
 ·cases h2
 ·cases e2;exact ⟨a,xs,h1,e3,e0,e4,e5,e6⟩
theorem SlO.mut (s:SlO K md P ρ σ H F as) (hm:md[i]? = some .o) (hρ:ρ[i]? = some (some (.lst ds))) (hσ:σ[i]? = some (some (.ref a))) (hF:F a=none) (ha:a∉as) (hP:¬P a) (r:Rps K F as xs' ds'):SlO K md P (ρ.set i (some (.lst ds'))) σ (upd H a (.lst xs')) F as:=by
 have hi:i < md.length:=(zj.mp hm).1;refine ⟨s.len,by rw [zR]; exact s.len',fun c p=>?_,fun j m d e1 e2=>?_,fun j k c es fs h1 h2 h3 h4 h5 h6=>?_,fun x hx=>?_⟩
 ·have:=s.pd c p
  unfold upd
  split
  ·exact fun z=>nomatch z
  ·exact this
 ·by_cases h:i=j
  ·subst h;rw [hm] at e1; cases e1;rw [zE (by rw [s.len']; exact hi)] at e2;cases e2;exact ⟨_,hσ,.inr ⟨a,xs',ds',rfl,rfl,QaE,hF,ha,hP,r⟩⟩
  ·rw [ze h] at e2;obtain ⟨v,q1,q2⟩:=s.sl j m d e1 e2;refine ⟨v,q1,?_⟩
   cases m with
   | v=>exact q2
   | s =>
    rcases q2 with q2 | ⟨c,ys,es,z1,z2,z3,z4,z5,z6⟩
    ·exact .inl q2
    ·exact .inr ⟨c,ys,es,z1,z2,by rw [Qam (fun z=>hP (by rw [←z]; exact z5))]; exact z3,z4,z5,z6⟩
   | o =>
    rcases q2 with q2 | ⟨c,ys,es,z1,z2,z3,z0,z4,z5,z6⟩
    ·exact .inl q2
    ·refine .inr ⟨c,ys,es,z1,z2,?_,z0,z4,z5,z6⟩;rw [Qam]
     ·exact z3
     ·intro z;subst z z1 z2;exact h (s.inj i j c ds es hm e1 hρ e2 hσ q1)
 ·have f:∀k es,(ρ.set i (some (.lst ds')))[k]? = some (some (D.lst es))→∃es',ρ[k]? = some (some (D.lst es')):=fun k es q=>by
   by_cases h:i=k
   ·subst h; exact ⟨ds,hρ⟩
   ·rw [ze h] at q; exact ⟨es,q⟩
  obtain ⟨es',q3⟩:=f j es h3;obtain ⟨fs',q4⟩:=f k fs h4;exact s.inj j k c es' fs' h1 h2 q3 q4 h5 h6
 ·obtain ⟨p1,p2,p3⟩:=s.pin x hx
  have hne:i≠x.1:=fun z=>by rw [←z,hm] at p1; cases p1
  exact ⟨p1,by rw [ze hne]; exact p2,p3⟩
theorem Qnm {xs:List V} (hH:H a=some (.lst xs)) (hP:¬P a) {o:HO}:GrS P H F as (upd H a o) F as :=
 ⟨fun _ _ _ _ _ _=>rfl,Same.refl F,⟨[],by simp,fun _ h=>nomatch h⟩,fun c u p e _ _=>by rw [Qam (fun z=>hP (by rw [←z]; exact p))]; exact e,fun c e=>by
  by_cases h:c=a
  ·subst h; rw [QaE] at e; cases e
  ·rwa [Qam h] at e,fun c o' u e=>by rw [Qam (fun z=>by rw [z,hH] at e; cases e)]; exact e⟩
theorem RlO.mut (r:RlO K mg O H F as) (hF:F a=none) (ha:a∉as) {o:HO}:RlO K mg O (upd H a o) F as:=by
 refine ⟨fun c u e=>?_,r.fd,r.nd,r.len,r.fa,fun n c u hc hu=>(r.ob n c u hc hu).keep (Qam ?_) (Same.refl F) fun _ _ h=>h⟩
 ·rw [Qam (Qax e hF)]; exact r.fh c u e
 ·intro z; subst z; exact ha (zN hc)
end
section
variable {X:Cx}{md:List Md}{P:Pt}{R:RR}
def Qha (i:Nat) (m:M D):MS:=fun ρ O=>match m ρ O with
 | .ok d O'=>match ρ[i]? with
  | some (some (.lst ds))=>if ds.length < 1000000 then .nx (ρ.set i (some (.lst (ds ++ [d])))) O' else .no
  | _=>.no
 | .ex x O'=>.ex x O'
 | .no=>.no
theorem Qrt {i:Nat}{m:M D}{ρ:Qal}{O:Qac} (K:Frag) (mg:Str→Option Value) {D:Ends}{H F:Hp}{as:List Addr} (k:QeU K mg md P R D H F as (Qha i m ρ O)) :
  ∃d O' ds,m ρ O = .ok d O'∧ρ[i]? = some (some (.lst ds))∧ds.length < 1000000∧QeU K mg md P R D H F as (.nx (ρ.set i (some (.lst (ds ++ [d])))) O'):=by
 unfold Qha at k;split at k
 ·rename_i d O' e;split at k
  ·rename_i ds e2;split at k
   ·rename_i hz;exact ⟨d,O',ds,e,e2,hz,k⟩
   ·exact False.elim k
  ·exact False.elim k
 ·exact False.elim k
 ·exact False.elim k
theorem QlV (i:Nat) {x:Str}{p apos cpos pos:Pos}{e:Expr}{m:M D} (h:VE X md P e m) (hm:md[i]? = some .o:=by rfl) (hN:X.N[i]? = some x:=by rfl) (hv:Vis X.env.scope x:=by first | exact Or.inl rfl | exact Or.inr (Or.inl rfl) | exact Or.inr (Or.inr rfl))
  (hd:(x == ("__debug__":Str))=false:=by decide) (hcd:(x == ("__classdict__":Str))=false:=by decide)
  (hbase:attributeBase (.Name x p) "append" X.env (eval (.Name x p) X.env)=eval (.Name x p) X.env:=by rfl)
  (hfew:((backTo cpos (starEach [e] X.env)).all (fun x=>!x.1)&&(backToKw cpos (keywordEach [] X.env)).all (fun x=>x.1.isSome)&&decide ([e].length+([]:List Keyword).length+(if ([]:List Keyword).isEmpty then 0 else 1) < 30))=true:=by rfl)
  (hline:(apos.endLine == cpos.line)=true:=by rfl) (hs:starEach [e] X.env=(false,eval e X.env)::starEach [] X.env:=by exact Qa7 rfl) (hplain:(backTo cpos (starEach [] X.env)).any (·.1)=false:=by exact Qbb rfl)
  (hsw:swapsWith (.Call (.Attribute (.Name x p) "append" apos) [e] [] cpos) none pos.line X.env=pure false:=by rfl) :
  VS X md P R (.Expr (.Call (.Attribute (.Name x p) "append" apos) [e] [] cpos) pos) (Qha i m) :=
 (Qh3 (Qml PySem.F.plainAttrs_list PySem.F.slot_list_append PySem.F.type_list_append QlK (Qfm (i:=i) hN hv hd hcd) (QbY h Qc6 hs) hbase hfew hline hs hplain) hsw).imp fun D σ H q=>by
  obtain ⟨ρ,O,F,as,r,s,k⟩:=q;obtain ⟨d,O',ds,e,e2,hz,k⟩:=Qrt X.K X.mg k;obtain ⟨a,xs,h1,h2,h3,h4,h5,h6⟩:=s.own hm e2;refine ⟨_,h1,.inl ⟨rfl,xs,.inl (.inl h2)⟩,ρ,O,F,as,d,O',r,s,e,fun y H1 F1 as1 g1 r1 hy=>?_⟩;have s1:=s.step g1
  have hn:H a≠none:=by rw [h2]; exact fun z=>nomatch z
  have q2:=g1.fr _ _ h2 h4 rfl
  have q3:F1 a=none:=by rw [g1.fz a _ h2 h4 rfl]; exact h3
  have q4:=g1.out h4 hn
  have hn1:H1 a≠none:=by rw [q2]; exact fun z=>nomatch z
  exact ⟨a,xs,y,rfl,rfl,q2,by rw [h6.length]; exact zz hz (by decide),k σ _ F1 as1 (g1.toS.trans (Qnm q2 h5)) (r1.mut q3 q4) (s1.mut hm e2 h1 q3 q4 h5 ((h6.gr g1).snoc hy))⟩
def Qwg (K:Frag):V→List V→Hp→VK→Prop:=fun x vs H Q=>∃l b xs zs,x = .ref l∧vs = [.ref b]∧H l=some (.lst xs)∧RdK K H b zs∧xs.length+zs.length≤sizeLine∧Q .non (upd H l (.lst (xs++zs)))
theorem QtN:MtM X "list.extend" (Qwg X.K):=by
 intro pins s σ H x vs v us Q I rx rv h;obtain ⟨l,b,xs,zs,rfl,rfl,hH,hB,hz,q⟩:=h;cases rx;obtain ⟨u,rfl,ru⟩:=rv.one;cases ru;obtain ⟨z,its,n,r,hl,e⟩:=I.lstM hH;obtain ⟨z2,its2,n2,r2,e2⟩:=hB.ok I;have hl2:=r2.length
 have hsz:its.toArray.size+its2.toArray.size≤sizeLine:=by rw [zn,zn]; omega
 have hlong:¬(!its.toArray.isEmpty&&Builtin.List.listTooLong (its.toArray.size+its2.toArray.size))=true:=by
  rw [QiH hsz,Bool.and_false];exact zh
 refine call_meets F.slot_list_extend ⟨_,e,rfl⟩ F.entry_list_extend (F.args_list_extend_2 _ _)
  (AutoSeq1.list_extend_list_list_0 l its.toArray n b its2.toArray n2 hlong (by rw [zn]; omega) (by omega)) ⟨e,e2,?_⟩
 refine ⟨.non,_,I.lset (its':=its++its2) hH e (by simp) (r.append r2) ?_,rfl,q⟩;rw [zu];omega
def Qgv (i:Nat) (m:M D):MS:=fun ρ O=>match m ρ O with
 | .ok d O'=>match ρ[i]?,QaL O' d with
  | some (some (.lst ds)),.lst es=>if ds.length+es.length≤1000000 then .nx (ρ.set i (some (.lst (ds++es)))) O' else .no
  | _,_=>.no
 | .ex x O'=>.ex x O'
 | .no=>.no
theorem QqN {i:Nat}{m:M D}{ρ:Qal}{O:Qac} (K:Frag) (mg:Str→Option Value) {D:Ends}{H F:Hp}{as:List Addr} (k:QeU K mg md P R D H F as (Qgv i m ρ O)) :
  ∃d O' ds es,m ρ O = .ok d O'∧ρ[i]? = some (some (.lst ds))∧QaL O' d = .lst es∧ds.length+es.length≤1000000∧QeU K mg md P R D H F as (.nx (ρ.set i (some (.lst (ds++es)))) O'):=by
 unfold Qgv at k;split at k
 ·rename_i d O' e;split at k
  ·rename_i ds es e2 e3;split at k
   ·rename_i hz;exact ⟨d,O',ds,es,e,e2,e3,hz,k⟩
   ·exact False.elim k
  ·exact False.elim k
 ·exact False.elim k
 ·exact False.elim k
theorem Qmd (i:Nat) {x:Str}{p apos cpos pos:Pos}{e:Expr}{m:M D} (h:SE X md P e m) (hm:md[i]? = some .o:=by rfl) (hN:X.N[i]? = some x:=by rfl) (hv:Vis X.env.scope x:=by first | exact Or.inl rfl | exact Or.inr (Or.inl rfl) | exact Or.inr (Or.inr rfl))
  (hd:(x == ("__debug__":Str))=false:=by decide) (hcd:(x == ("__classdict__":Str))=false:=by decide)
  (hbase:attributeBase (.Name x p) "extend" X.env (eval (.Name x p) X.env)=eval (.Name x p) X.env:=by rfl)
  (hfew:((backTo cpos (starEach [e] X.env)).all (fun x=>!x.1)&&(backToKw cpos (keywordEach [] X.env)).all (fun x=>x.1.isSome)&&decide ([e].length+([]:List Keyword).length+(if ([]:List Keyword).isEmpty then 0 else 1) < 30))=true:=by rfl)
  (hline:(apos.endLine == cpos.line)=true:=by rfl) (hs:starEach [e] X.env=(false,eval e X.env)::starEach [] X.env:=by exact Qa7 rfl) (hplain:(backTo cpos (starEach [] X.env)).any (·.1)=false:=by exact Qbb rfl)
  (hsw:swapsWith (.Call (.Attribute (.Name x p) "extend" apos) [e] [] cpos) none pos.line X.env=pure false:=by rfl) :
  VS X md P R (.Expr (.Call (.Attribute (.Name x p) "extend" apos) [e] [] cpos) pos) (Qgv i m) :=
 (Qh3 (Qml PySem.F.plainAttrs_list PySem.F.slot_list_extend PySem.F.type_list_extend QtN (Qfm (i:=i) hN hv hd hcd) (QbY h Qc6 hs) hbase hfew hline hs hplain) hsw).imp fun D σ H q=>by
  obtain ⟨ρ,O,F,as,r,s,k⟩:=q;obtain ⟨d,O',ds,es,e,e2,e3,hz,k⟩:=QqN X.K X.mg k;obtain ⟨a,xs,h1,h2,h3,h4,h5,h6⟩:=s.own hm e2;refine ⟨_,h1,.inl ⟨rfl,xs,.inl (.inl h2)⟩,ρ,O,F,as,d,O',r,s,e,fun y H1 F1 as1 g1 r1 hy=>?_⟩;have s1:=s.step g1
  have hn:H a≠none:=by rw [h2]; exact fun z=>nomatch z
  have q2:=g1.fr _ _ h2 h4 rfl
  have q3:F1 a=none:=by rw [g1.fz a _ h2 h4 rfl]; exact h3
  have q4:=g1.out h4 hn
  have hn1:H1 a≠none:=by rw [q2]; exact fun z=>nomatch z
  have ly:=Sv.lk hy r1;rw [e3] at ly;obtain ⟨b,zs,rfl,w1,w2⟩:=ly.list r1.fh;exact ⟨a,b,xs,zs,rfl,rfl,q2,w1,by rw [h6.length,w2.length]; exact QeN hz,k σ _ F1 as1 (g1.toS.trans (Qnm q2 h5)) (r1.mut q3 q4) (s1.mut hm e2 h1 q3 q4 h5 (Rps.append w2 (h6.gr g1)))⟩
def Qe1 (i:Nat) (mi m:M D):MS:=fun ρ O=>match m ρ O with
 | .ok d O1=>match mi ρ O1 with
  | .ok (.int j) O2=>match ρ[i]? with
   | some (some (.lst ds))=>match ixN ds.length j with
    | some n=>.nx (ρ.set i (some (.lst (ds.set n d)))) O2
    | none=>.no
   | _=>.no
  | _=>.no
 | .ex x O'=>.ex x O'
 | .no=>.no
theorem Qnv (i:Nat) {x:Str}{p pos apos:Pos}{e ix:Expr}{mi m:M D} (h:VE X md P e m) (hi:VE X md P ix mi) (hm:md[i]? = some .o:=by rfl) (hN:X.N[i]? = some x:=by rfl) (hv:Vis X.env.scope x:=by first | exact Or.inl rfl | exact Or.inr (Or.inl rfl) | exact Or.inr (Or.inr rfl))
  (hd:(x == ("__debug__":Str))=false:=by decide) (hcd:(x == ("__classdict__":Str))=false:=by decide)
  (ha:∀v,assign (.Subscript (.Name x p) ix apos) X.env v=(do
   let ov ←holding [v] (eval (.Name x p) X.env)
   let iv ←holding [v,ov] (eval ix X.env)
   standAt apos
   holding [v,ov,iv] (setItem ov iv v)
   release [v,ov,iv] []):=by intro _; rfl)
  (hs:swapsWithSole [.Subscript (.Name x p) ix apos] e pos.line X.env=pure false:=by rfl) (hw:swappedStores [.Subscript (.Name x p) ix apos] e X.env=pure none:=by rfl)
  (h1:(assignEach [.Subscript (.Name x p) ix apos] X.env).map (·.2) = [assign (.Subscript (.Name x p) ix apos) X.env]:=by rfl) :
  VS X md P R (.Assign [.Subscript (.Name x p) ix apos] e pos) (Qe1 i mi m) :=
 (Qrl h (QvT (Qfm (i:=i) hN hv hd hcd) hi set_list ha) hs hw h1).imp fun D σ H q=>by
  obtain ⟨ρ,O,F,as,r,s,k⟩:=q;unfold Qe1 at k;split at k
  ·rename_i d O1 e1;split at k
   ·rename_i j O2 e2;split at k
    ·rename_i ds e3;split at k
     ·rename_i n e4;obtain ⟨a,xs,h1,h2,h3,h4,h5,h6⟩:=s.own hm e3;refine ⟨ρ,O,F,as,d,O1,r,s,e1,fun y H1 F1 as1 g1 r1 hy=>?_⟩;refine ⟨_,h1,ρ,O1,F1,as1,.int j,O2,r1,s.step g1,e2,fun z H2 F2 as2 g2 r2 hz=>?_⟩;have g:=g1.trans g2
      have hn:H a≠none:=by rw [h2]; exact fun z=>nomatch z
      have q2:=g.fr _ _ h2 h4 rfl
      have q3:F2 a=none:=by rw [g.fz a _ h2 h4 rfl]; exact h3
      have q4:=g.out h4 hn
      have hn1:H2 a≠none:=by rw [q2]; exact fun z=>nomatch z
      exact ⟨a,xs,j,n,rfl,Rp.unI hz,q2,by rw [h6.length]; exact e4,k σ _ F2 as2 (g.toS.trans (Qnm q2 h5)) (r2.mut q3 q4) ((s.step g).mut hm e3 h1 q3 q4 h5 ((h6.gr g).set n (Rp.gr hy g2)))⟩
     ·exact False.elim k
    ·exact False.elim k
   ·exact False.elim k
  ·exact False.elim k
  ·exact False.elim k
end
def putD (f:Str) (v:D):List (Str×D)→List (Str×D)
 | []=>[(f,v)]
 | (g,x)::r=>if g=f then (g,v)::r else (g,x)::putD f v r
section
variable {K:Frag}{F:Hp}{as:List Addr}
theorem FsR.cons_inv {gs:List (Str×V)}{f:Str}{d:D}{fs:List (Str×D)} (h:FsR K F as gs ((f,d)::fs)):∃v gs',gs=(f,v)::gs'∧Rp K F as v d∧FsR K F as gs' fs:=by
 obtain ⟨h1,h2⟩:=h
 cases gs with
 | nil=>cases h1
 | cons g gs' =>
  obtain ⟨g1,g2⟩:=g;simp only [zf,List.cons.injEq] at h1;obtain ⟨x,r,e,h3,h4⟩:=h2.un;simp only [zf,List.cons.injEq] at e;obtain ⟨rfl,rfl⟩:=e;exact ⟨g2,gs',by rw [h1.1],h3,⟨h1.2,h4⟩⟩
theorem FsR.nil_inv {gs:List (Str×V)} (h:FsR K F as gs []):gs = []:=List.map_eq_nil_iff.mp h.nm
theorem FsR.get:∀{fs:List (Str×D)}{gs:List (Str×V)}{f:Str}{d:D},FsR K F as gs fs→fs.lookup f=some d→∃v,gs.lookup f=some v∧Rp K F as v d
 | [],_,_,_,_,e=>by cases e
 | (g,x)::fs,gs,f,d,h,e=>by
  obtain ⟨v,gs',rfl,h1,h2⟩:=h.cons_inv;rw [List.lookup_cons] at e ⊢
  cases q:f == g with
  | true =>
   rw [q] at e;cases e;exact ⟨v,rfl,h1⟩
  | false =>
   rw [q] at e;exact FsR.get h2 e
theorem FsR.no:∀{fs:List (Str×D)}{gs:List (Str×V)}{f:Str},FsR K F as gs fs→fs.lookup f=none→gs.lookup f=none
 | [],_,_,h,e=>by rw [h.nil_inv]; rfl
 | (g,x)::fs,gs,f,h,e=>by
  obtain ⟨v,gs',rfl,h1,h2⟩:=h.cons_inv;rw [List.lookup_cons] at e ⊢
  cases q:f == g with
  | true=>rw [q] at e; cases e
  | false =>
   rw [q] at e;exact FsR.no h2 e
theorem FsR.put {f:Str}{v:V}{d:D} (hv:Rp K F as v d):∀{fs:List (Str×D)}{gs:List (Str×V)},FsR K F as gs fs→FsR K F as (Qdy f v gs) (putD f d fs)
 | [],_,h=>by
  rw [h.nil_inv];exact ⟨rfl,Rps.cons hv Rps.nil⟩
 | (g,x)::fs,gs,h=>by
  obtain ⟨u,gs',rfl,h1,h2⟩:=h.cons_inv;rw [Qdy,putD]
  by_cases q:g=f
  ·rw [if_pos q,if_pos q];exact ⟨by simp [h2.nm],Rps.cons hv h2.vl⟩
  ·rw [if_neg q,if_neg q];have ih:=FsR.put (f:=f) hv h2;exact ⟨by simp [ih.nm],Rps.cons h1 ih.vl⟩
theorem FsR.length {fs:List (Str×D)}{gs:List (Str×V)} (h:FsR K F as gs fs):gs.length=fs.length:=by
 have:=congrArg List.length h.nm
 simpa using this
theorem RlO.set {mg:Str→Option Value}{O:Qac}{H:Hp}{n:Nat}{a:Addr}{o:Ob}{u:HO} (r:RlO K mg O H F as) (ha:as[n]? = some a) (ho:ObR K mg (upd H a u) F as a o):RlO K mg (O.set n o) (upd H a u) F as:=by
 have hF:=r.fa a (zN ha);refine ⟨fun c w e=>?_,r.fd,r.nd,by rw [zR]; exact r.len,r.fa,fun k c w hc hw=>?_⟩
 ·rw [Qam (Qax e hF)]; exact r.fh c w e
 ·by_cases h:n=k
  ·subst h;rw [ha] at hc; cases hc;rw [zE (by rw [←r.len]; exact (zj.mp ha).1)] at hw;cases hw;exact ho
  ·rw [ze h] at hw
   refine (r.ob k c w hc hw).keep (Qam ?_) (Same.refl F) fun _ _ h=>h
   intro z;subst z;obtain ⟨l1,q1⟩:=zj.mp ha;obtain ⟨l2,q2⟩:=zj.mp hc;exact h ((List.getElem_inj r.nd).mp (q1.trans q2.symm))
end
def KC (K:Frag) (mg:Str→Option Value) (c f:Str):Prop:=∃C,mg c=some (.ref C)∧Cls K C∧QgU K C f
section
variable {X:Cx}{md:List Md}{P:Pt}{R:RR}
def Qb0 (cs:List Str) (f:Str) (m:M D):M D:=fun ρ O=>(m ρ O).bind fun d O1=>match d with
 | .ob n=>match O1[n]? with
  | some (.ins c fs)=>if c∈cs then match fs.lookup f with
   | some y=>.ok y O1
   | none=>.no else .no
  | _=>.no
 | _=>.no
theorem Qcv {cs:List Str}{f:Str}{o:Expr}{pos:Pos}{m:M D} (hc:∀c∈cs,KC X.K X.mg c f) (h:VE X md P o m) (hb:attributeBase o f X.env (eval o X.env)=eval o X.env:=by rfl):VE X md P (.Attribute o f pos) (Qb0 cs f m):=(QvR h hb).imp fun σ H Q q=>by
 obtain ⟨ρ,O,F,as,d,O',r,s,e,k⟩:=q;obtain ⟨x,O1,e1,e⟩:=Res.bind_ok e
 cases x with
 | ob n =>
  dsimp only at e;split at e
  ·rename_i c fs eo;split at e
   ·rename_i hcs;split at e
    ·rename_i y ey;cases e;refine ⟨ρ,_,F,as,_,_,r,s,e1,fun v H1 F1 as1 g1 r1 hv=>?_⟩;obtain ⟨a,rfl,ha⟩:=Rp.unO hv;obtain ⟨C,dx,gs,h1,h2,h3⟩:=r1.ob n a _ ha eo;obtain ⟨C',h4,h5,h6⟩:=hc c hcs;rw [h1] at h4; cases h4;obtain ⟨w,h7,h8⟩:=h3.get ey;exact ⟨a,C,dx,gs,w,rfl,h2,h5,h6,h7,k w H1 F1 as1 g1 r1 h8⟩
    ·cases e
   ·cases e
  ·cases e
 | _=>cases e
def QbK (cs:List Str) (f:Str) (mo mv:M D):MS:=fun ρ O=>match mv ρ O with
 | .ok d O1=>match mo ρ O1 with
  | .ok (.ob n) O2=>match O2[n]? with
   | some (.ins c fs)=>if c∈cs∧fs.length < 900 then .nx ρ (O2.set n (.ins c (putD f d fs))) else .no
   | _=>.no
  | _=>.no
 | .ex x O'=>.ex x O'
 | .no=>.no
theorem Qb8 {cs:List Str}{f:Str}{o value:Expr}{pos pos':Pos}{mo mv:M D} (hc:∀c∈cs,KC X.K X.mg c f) (ho:VE X md P o mo) (hv:VE X md P value mv) (hs:swapsWith value (some (.Attribute o f pos')) pos.line X.env=pure false:=by rfl):VS X md P R (.Assign [.Attribute o f pos'] value pos) (QbK cs f mo mv):=(Qv9 ho hv hs).imp fun D σ H q=>by
 obtain ⟨ρ,O,F,as,r,s,k⟩:=q;unfold QbK at k;split at k
 ·rename_i d O1 e1;split at k
  ·rename_i n O2 e2;split at k
   ·rename_i c fs eo;split at k
    ·rename_i hcs;refine ⟨ρ,O,F,as,d,O1,r,s,e1,fun y H1 F1 as1 g1 r1 hy=>?_⟩;refine ⟨ρ,O1,F1,as1,.ob n,O2,r1,s.step g1,e2,fun z H2 F2 as2 g2 r2 hz=>?_⟩;have g:=g1.trans g2;obtain ⟨a,rfl,ha⟩:=Rp.unO hz;obtain ⟨C,dx,gs,h1,h2,h3⟩:=r2.ob n a _ ha eo;obtain ⟨C',h4,h5,h6⟩:=hc c hcs.1;rw [h1] at h4; cases h4;have hmem:=zN ha
     have hn:H2 a≠none:=by rw [h2]; exact fun z=>nomatch z
     have gg:Gr H2 F2 as2 (upd H2 a (.ins C dx (Qdy f y gs))) F2 as2:=⟨fun _ _ _ _ _=>rfl,Same.refl _,⟨[],by simp,fun _ h=>nomatch h⟩,fun b u e hb _=>by rw [Qam (fun z=>hb (by rw [z]; exact hmem))]; exact e,fun b e=>by
      by_cases h:b=a
      ·subst h; rw [QaE] at e; cases e
      ·rwa [Qam h] at e,fun b o' u e=>by rw [Qam (fun z=>by rw [z,h2] at e; cases e)]; exact e⟩
     refine ⟨a,C,dx,gs,rfl,h2,h5,h6,by rw [h3.length]; omega,?_⟩;exact k σ _ F2 as2 (g.trans gg).toS (r2.set ha ⟨C,dx,_,h1,QaE,h3.put (Rp.gr hy g2)⟩) ((s.step g).step gg)
    ·exact False.elim k
   ·exact False.elim k
  ·exact False.elim k
 ·exact False.elim k
 ·exact False.elim k
end
section
variable {Pr:Program}{w:World}{K:Frag}{mg:Str→Option Value}{base:Heap}
theorem QuO {x qual:Str}{st:Stmt}{f:Addr}{fd:FuncData}{N ps:List Str}{k:Nat} (Fn:Fun K x qual st f fd) (S:QaA N ps (Qai st))
  (pm lm:List Md) {R:RR}{b:MS} (hR:QcO R) (hR0:∀N H F as,R N H F as .non .non) (hpl:pm.length=ps.length) (hl:(pm++lm).length=N.length) (hp:∀m∈pm,m≠.o)
  (body:∀(cdv:Value) (A:Around) (outer:List Env) (s:Shared) (H:Hp) (E:XK),QaH k (A.deeper (envOfC qual (Qai st) s.heap.objs.size f cdv))→∀P,VSs ((Qcw CX0 Pr w K mg base N qual (Qai st) f cdv A outer s H E).nox) (pm++lm) P R (QaX st) b) :
  QbH Pr w K mg base CX0 (k+1) f fd ps (vSp K mg pm R (Qa8 N.length b)):=by
 refine Fn.ok S (fun vs H Q E h=>?_) (fun cdv A outer s H vs Q E hr h=>?_)
 ·obtain ⟨ds,O,F,as,d,O',r,a,_⟩:=h;rw [a.len.1,hpl]
 ·obtain ⟨ds,O,F,as,d,O',r,a,e,q⟩:=h;refine ⟨_,body cdv A outer s H E hr (Pt.all H),?_⟩;refine ⟨_,O,F,as,r,QfH a hl hp,?_⟩;unfold Qa8 at e
  cases eb:b (ds.map some++List.replicate (N.length - ds.length) none) O with
  | rt d' O2 =>
   rw [eb] at e;cases e
   exact fun v H' F' as' g r' hv=>q v H' F' as' g.gr r' (hR _ _ _ _ _ _ _ (fun c hc=>jj.mp hc) hv)
  | nx ρ O2 =>
   rw [eb] at e;cases e
   exact fun σ' H' F' as' g r' _=>q _ H' F' as' g.gr r' (hR0 _ _ _ _)
  | bk _ _=>rw [eb] at e; cases e
  | ct _ _=>rw [eb] at e; cases e
  | ex _ _=>rw [eb] at e; cases e
  | no=>rw [eb] at e; cases e
def Qgd (K:Frag) (mg:Str→Option Value) (c m qual:Str) (st:Stmt):Prop:=∃C f fd,mg c=some (.ref C)∧Cls K C∧Qks K C m f∧Fun K m qual st f fd
def Qeq (P:Program) (w:World) (K:Frag) (mg:Str→Option Value) (base:Heap) (c m:Str) (ps:List Str) (k:Nat) (sp:Sp):Prop :=
 ∃C f fd,mg c=some (.ref C)∧Cls K C∧Qks K C m f∧Binds K fd ps []∧QbH P w K mg base CX0 k f fd ps sp
def Qly (P:Program) (w:World) (K:Frag) (mg:Str→Option Value) (base:Heap) (c:Str) (ps:List Str) (k:Nat) (sp:Sp):Prop :=
 ∃C f fd,mg c=some (.ref C)∧Mk K C f∧Binds K fd ps []∧QbH P w K mg base CX0 k f fd ps sp
def Qnd (K:Frag) (mg:Str→Option Value) (c qual:Str) (st:Stmt):Prop:=∃C f fd,mg c=some (.ref C)∧Mk K C f∧Fun K "__init__" qual st f fd
theorem Qhc {c x qual:Str}{st:Stmt}{N ps:List Str}{k:Nat} (Df:Qgd K mg c x qual st) (S:QaA N ps (Qai st))
  (hb:∀(kV doc pm:Value) (an:Option Addr) (cdv ct:Value) (us:List Value),us.length=ps.length→bindArgs (PySem.W.fnOf x qual (QbQ st) (QaX st) (Qai st) .none kV doc pm an cdv ct) ⟨us,[]⟩=pure (ps.zip us))
  (pm lm:List Md) {R:RR}{b:MS} (hR:QcO R) (hR0:∀N H F as,R N H F as .non .non) (hpl:pm.length=ps.length:=by rfl) (hl:(pm++lm).length=N.length:=by rfl) (hp:∀m∈pm,m≠.o:=by decide)
  (body:∀(f:Addr) (cdv:Value) (A:Around) (outer:List Env) (s:Shared) (H:Hp) (E:XK),QaH k (A.deeper (envOfC qual (Qai st) s.heap.objs.size f cdv))→∀P,VSs ((Qcw CX0 Pr w K mg base N qual (Qai st) f cdv A outer s H E).nox) (pm++lm) P R (QaX st) b) :
  Qeq Pr w K mg base c x ps (k+1) (vSp K mg pm R (Qa8 N.length b)):=by
 obtain ⟨C,f,fd,h1,h2,h3,h4⟩:=Df;exact ⟨C,f,fd,h1,h2,h3,h4.binds hb,QuO h4 S pm lm hR hR0 hpl hl hp (body f)⟩
theorem Qw2 {c qual:Str}{st:Stmt}{N ps:List Str}{k:Nat} (Df:Qnd K mg c qual st) (S:QaA N ps (Qai st))
  (hb:∀(kV doc pm:Value) (an:Option Addr) (cdv ct:Value) (us:List Value),us.length=ps.length→bindArgs (PySem.W.fnOf "__init__" qual (QbQ st) (QaX st) (Qai st) .none kV doc pm an cdv ct) ⟨us,[]⟩=pure (ps.zip us))
  (pm lm:List Md) {R:RR}{b:MS} (hR:QcO R) (hR0:∀N H F as,R N H F as .non .non) (hpl:pm.length=ps.length:=by rfl) (hl:(pm++lm).length=N.length:=by rfl) (hp:∀m∈pm,m≠.o:=by decide)
  (body:∀(f:Addr) (cdv:Value) (A:Around) (outer:List Env) (s:Shared) (H:Hp) (E:XK),QaH k (A.deeper (envOfC qual (Qai st) s.heap.objs.size f cdv))→∀P,VSs ((Qcw CX0 Pr w K mg base N qual (Qai st) f cdv A outer s H E).nox) (pm++lm) P R (QaX st) b) :
  Qly Pr w K mg base c ps (k+1) (vSp K mg pm R (Qa8 N.length b)):=by
 obtain ⟨C,f,fd,h1,h2,h4⟩:=Df;exact ⟨C,f,fd,h1,h2,h4.binds hb,QuO h4 S pm lm hR hR0 hpl hl hp (body f)⟩
end
section
variable {X:Cx}{md:List Md}{P:Pt}{R:RR}{k:Nat}{c m:Str}{ps:List Str}{p pos apos:Pos}{o e:Expr}{es:List Expr}{pm:List Md}{cf:List D→Qac→Res D}{mo:M D}{ma:M (List D)}
def Qbq (c m:Str) (cf:List D→Qac→Res D) (mo:M D) (ma:M (List D)):M D:=fun ρ O=>(mo ρ O).bind fun d O1=>match d with
 | .ob n=>match O1[n]? with
  | some (.ins c' fs)=>if c'=c∧(fs.lookup m).isNone=true then (ma ρ O1).bind fun ds O2=>cf (.ob n::ds) O2 else .no
  | _=>.no
 | _=>.no
theorem Qon {K:Frag}{mg:Str→Option Value}{C:Addr} (hR:QcO R) (hC:mg c=some (.ref C)) {E:XK}{σ:St}{H:Hp}{Q:VK} (q:tM K mg md P R (Qbq c m cf mo ma) σ H Q) :
  Qmw C m (vSp K mg (.v::pm) R cf) [] E (tM K mg md P (rV K) mo) (tMA K mg md P pm ma) σ H Q:=by
 obtain ⟨ρ,O,F,as,d,O',r,s,e,k⟩:=q;obtain ⟨x,O1,e1,e⟩:=Res.bind_ok e
 cases x with
 | ob n =>
  dsimp only at e;split at e
  ·rename_i c' fs eo;split at e
   ·rename_i hc;obtain ⟨ds,O2,e2,e⟩:=Res.bind_ok e;refine ⟨ρ,O,F,as,.ob n,O1,r,s,e1,fun v H1 F1 as1 g1 r1 hv=>?_⟩;obtain ⟨a,rfl,ha⟩:=Rp.unO hv;obtain ⟨C',dx,gs,h1,h2,h3⟩:=r1.ob n a _ ha eo;rw [hc.1,hC] at h1; cases h1;refine ⟨a,dx,gs,rfl,h2,h3.no (Option.isNone_iff_eq_none.mp hc.2),?_⟩;refine ⟨ρ,O1,F1,as1,ds,O2,r1,s.step g1,e2,fun vs H2 F2 as2 g2 r2 hvs=>?_⟩;dsimp only;rw [zG];exact ⟨.ob n::ds,O2,F2,as2,d,O',r2,⟨Rp.gr hv g2,hvs⟩,e,fun v' H' F' as' g' r' hw=>k v' H' F' as' ((g1.trans g2).trans g') r' (hR _ _ _ _ _ _ _ (fun b hb=>(g1.trans g2).dm b hb) hw)⟩
   ·cases e
  ·cases e
 | _=>cases e
theorem Quo {pl:Sem Bool} (hR:QcO R) (M:Qeq X.prog X.w X.K X.mg X.base c m ps k (vSp X.K X.mg (.v::pm) R cf)) (hr:QaH k X.A) (ho:VE X md P o mo) (ha:AE X md P pm (e::es) ma)
  (hst:starEach (e::es) X.env=(false,eval e X.env)::starEach es X.env:=by exact Qa7 rfl) (hpl:(backTo pos (starEach es X.env)).any (·.1)=false:=by exact Qbb rfl)
  (ht:eval (.Call (.Attribute o m apos) (e::es) [] pos) X.env=(do
   let ov ←eval o X.env
   standAt apos.atName
   let (f,first) ←holding [ov] (getMethod ov m pl)
   callWith pos f first (backTo pos (starEach (e::es) X.env)) (backToKw pos (keywordEach [] X.env))):=by rfl) :
  PE X (.Call (.Attribute o m apos) (e::es) [] pos) (tM X.K X.mg md P R (Qbq c m cf mo ma)):=by
 obtain ⟨C,f,fd,h1,h2,h3,h4,h5⟩:=M
 exact (QoQ (pl:=pl) (E:=E0) (ds:=[]) (dvs:=[]) ho h2 h3 h5 hr h4 .nil QkX ha hst hpl ht).imp fun _ _ _ q=>Qon hR h1 q
theorem Qnk {pl:Sem Bool} (hR:QcO R) (M:Qeq X.prog X.w X.K X.mg X.base c m ps k (vSp X.K X.mg [.v] R cf)) (hr:QaH k X.A) (ho:VE X md P o mo)
  (ht:eval (.Call (.Attribute o m apos) [] [] pos) X.env=(do
   let ov ←eval o X.env
   standAt apos.atName
   let (f,first) ←holding [ov] (getMethod ov m pl)
   callWith pos f first (backTo pos (starEach [] X.env)) (backToKw pos (keywordEach [] X.env))):=by rfl) :
  PE X (.Call (.Attribute o m apos) [] [] pos) (tM X.K X.mg md P R (Qbq c m cf mo Qae)):=by
 obtain ⟨C,f,fd,h1,h2,h3,h4,h5⟩:=M
 refine (QsB (pl:=pl) (E:=E0) (ds:=[]) (dvs:=[]) ho h2 h3 h5 hr h4 .nil QkX ht).imp fun σ H Q q=>?_
 obtain ⟨ρ,O,F,as,d,O',r,s,e,k⟩:=Qon (pm:=[]) (E:=E0) hR h1 q;refine ⟨ρ,O,F,as,d,O',r,s,e,fun v H' F' as' g r' hv=>?_⟩;obtain ⟨a,dx,fs,e1,e2,e3,t⟩:=k v H' F' as' g r' hv;refine ⟨a,dx,fs,e1,e2,e3,?_⟩;obtain ⟨ρ1,O1,F1,as1,ds1,O2,r1,s1,e4,k4⟩:=t;cases e4;exact k4 [] H' F1 as1 Gr.refl r1 trivial
def Qc7 (c:Str) (cf:List D→Qac→Res D) (ma:M (List D)):M D:=fun ρ O=>(ma ρ O).bind fun ds O1=>match cf (.ob O1.length::ds) (O1 ++ [.ins c []]) with
 | .ok .non O2=>.ok (.ob O1.length) O2
 | .ok _ _=>.no
 | .ex x O2=>.ex x O2
 | .no=>.no
theorem QoF {K:Frag}{mg:Str→Option Value}{C:Addr} (hC:mg c=some (.ref C)) {E:XK}{σ:St}{H:Hp}{Q:VK} (q:tM K mg md P (rV K) (Qc7 c cf ma) σ H Q) :
  Qmy C (vSp K mg (.v::pm) (rV K) cf) [] E (tMA K mg md P pm ma) σ H Q:=by
 obtain ⟨ρ,O,F,as,d,O',r,s,e,k⟩:=q;obtain ⟨ds,O1,e1,e⟩:=Res.bind_ok e;split at e
 ·rename_i O2 ec;cases e;refine ⟨ρ,O,F,as,ds,O1,r,s,e1,fun vs H1 F1 as1 g1 r1 hvs=>?_⟩;intro x dx hx hdx hne;rw [zG]
  have hx2:upd H1 dx (.own x) x=none:=by rw [Qam hne.symm]; exact hx
  have gA:Gr H1 F1 as1 (upd H1 dx (.own x)) F1 as1:=Gr.lay hdx;have gB:Gr (upd H1 dx (.own x)) F1 as1 (upd (upd H1 dx (.own x)) x (.ins C dx [])) F1 as1:=Gr.lay hx2;have gC:Gr (upd (upd H1 dx (.own x)) x (.ins C dx [])) F1 as1 (upd (upd H1 dx (.own x)) x (.ins C dx [])) F1 as1:=Gr.refl;have gAB:=gA.trans gB;have g2:Gr H1 F1 as1 (upd (upd H1 dx (.own x)) x (.ins C dx [])) F1 (as1 ++ [x]):=⟨gAB.fz,gAB.ff,⟨[x],rfl,fun a ha=>by rw [zr.mp ha]; exact hx⟩,fun a o e ha hd=>gAB.fr a o e ha hd,gAB.dm,gAB.kz⟩
  have nx:x∉as1:=fun z=>r1.all z hx
  have rB:=(r1.lay (o:=.own x) hdx).lay (o:=.ins C dx []) hx2
  have at_:∀(n:Nat) (a:Addr),as1[n]? = some a→(as1 ++ [x])[n]? = some a:=fun n a h=>by
   rw [zt (zj.mp h).1]; exact h
  have r2:RlO K mg (O1 ++ [.ins c []]) (upd (upd H1 dx (.own x)) x (.ins C dx [])) F1 (as1 ++ [x]):=by
   refine ⟨rB.fh,rB.fd,?_,by simp [r1.len],fun a ha=>?_,fun n a o ha ho=>?_⟩
   ·rw [jl];refine ⟨r1.nd,by simp,fun a ha b hb=>?_⟩;rw [zr.mp hb];intro z;subst z;exact nx ha
   ·rcases zC.mp ha with z | z
    ·exact r1.fa a z
    ·rw [zr.mp z];exact r1.frF hx
   ·by_cases hn:n < O1.length
    ·rw [zt (by rw [r1.len]; exact hn)] at ha;rw [zt hn] at ho;exact (rB.ob n a o ha ho).keep rfl (Same.refl _) at_
    ·have hn':n=O1.length:=by
      have:=(zj.mp ho).1
      simp at this
      omega
     subst hn';rw [zw (zc _),Nat.sub_self] at ho;rw [←r1.len,zw (zc _),Nat.sub_self] at ha;cases ho;cases ha;exact ⟨C,dx,[],hC,QaE,⟨rfl,Rps.nil⟩⟩
  have hox:Rp K F1 (as1 ++ [x]) (.ref x) (.ob O1.length):=Rp.mkO (by rw [←r1.len,zw (zc _),Nat.sub_self]; rfl);refine ⟨.ob O1.length::ds,_,F1,as1 ++ [x],.non,_,r2,⟨hox,hvs.gr g2⟩,ec,fun v H3 F3 as3 g3 r3 hv=>?_⟩;exact ⟨Rp.unN hv,k _ H3 F3 as3 ((g1.trans g2).trans g3) r3 (Rp.gr hox g3)⟩
 ·cases e
 ·cases e
 ·cases e
theorem Qt2 (M:Qly X.prog X.w X.K X.mg X.base c ps k (vSp X.K X.mg (.v::pm) (rV X.K) cf)) (hr:QaH (k+1) X.A) (ha:AE X md P pm (e::es) ma) (hg:Gl X c:=by rfl) (hdb:(c == ("__debug__":Str))=false:=by decide)
  (he:starEach (e::es) X.env=(false,eval e X.env)::starEach es X.env:=by exact Qa7 rfl) (hpl:(backTo pos (starEach es X.env)).any (·.1)=false:=by exact Qbb rfl):VE X md P (.Call (.Name c p) (e::es) [] pos) (Qc7 c cf ma):=by
 obtain ⟨C,f,fd,h1,h3,h4,h5⟩:=M
 exact (QoL (E:=E0) (ds:=[]) (dvs:=[]) h3 h5 hr hg h1 h4 .nil QkX ha hdb he hpl).imp fun _ _ _ q=>QoF h1 q
theorem Qsg (M:Qly X.prog X.w X.K X.mg X.base c ps k (vSp X.K X.mg [.v] (rV X.K) cf)) (hr:QaH (k+1) X.A) (hg:Gl X c:=by rfl) (hdb:(c == ("__debug__":Str))=false:=by decide):VE X md P (.Call (.Name c p) [] [] pos) (Qc7 c cf Qae):=by
 obtain ⟨C,f,fd,h1,h3,h4,h5⟩:=M
 refine (QrB (E:=E0) (ds:=[]) (dvs:=[]) h3 h5 hr hg h1 h4 .nil QkX hdb).imp fun σ H Q q=>?_
 obtain ⟨ρ,O,F,as,ds,O1,r,s,e,k⟩:=QoF (pm:=[]) (E:=E0) h1 q;cases e;exact k [] H F as Gr.refl r trivial
end
section
variable {X:Cx}{md:List Md}{P:Pt}{R:RR}
def Qhn:D→Option (List D)
 | .lst ds=>some ds
 | .tup ds=>some ds
 | .str l=>if ascii l=true then some (Qbe l) else none
 | _=>none
def Qfj (m:M D):M (List D):=fun ρ O=>(m ρ O).bind fun d O1=>match Qhn d with
 | some ds=>.ok ds O1
 | none=>.no
theorem Qpn {e:Expr}{m:M D} (h:WE X md P e m):SE X md P e m:=h.imp fun σ H Q q=>by
 obtain ⟨ρ,O,F,as,d,O',r,s,e,k⟩:=q;refine ⟨ρ,O,F,as,d,O',r,s,e,fun v H' F' as' g r' hv=>k v H' F' as' g r' ?_⟩
 rcases hv with hv | ⟨a,xs,ds,e1,e2,e3,e4,e5,e6⟩
 ·exact .inl hv
 ·exact .inr ⟨a,xs,ds,e1,e2,e3,e4,e6⟩
theorem Qu2 {tg e:Expr}{m:M D} (h:WE X md P e m):VI X md P tg e (Qfj m):=fun pins s σ H Q I q=>by
 obtain ⟨ρ,O,F,as,ds,O',r,sl,e,k⟩:=q;obtain ⟨d,O1,e1,e⟩:=Res.bind_ok e
 cases d with
 | lst es =>
  cases e;exact Qoj h pins s σ H Q I ⟨ρ,O,F,as,_,_,r,sl,by unfold QdV; rw [e1]; rfl,k⟩
 | tup es =>
  cases e;exact Qq5 (Qde (Qpn h)) pins s σ H Q I ⟨ρ,O,F,as,_,_,r,sl,by unfold Qpi mG; rw [e1]; rfl,k⟩
 | str l =>
  simp only [Qhn] at e;split at e
  ·rename_i es hes;split at hes
   ·rename_i hl;cases hes;cases e;refine QqR (Qpn h) pins s σ H Q I ⟨ρ,O,F,as,Qbe l,_,r,sl,?_,k⟩;unfold QpY;rw [e1];show (if ascii l=true then _ else _)=_;rw [if_pos hl]
   ·cases hes
  ·cases e
 | _=>cases e
theorem QsF {tg e:Expr}{m:M D} (h:SE X md P e m):VIc X md P tg e (QdV m):=(QjD h).imp fun σ H Q q=>by
 obtain ⟨ρ,O,F,as,ds,O',r,s,e,k⟩:=q;obtain ⟨d,O1,e1,e⟩:=Res.bind_ok e
 cases d with
 | lst es =>
  cases e;refine ⟨ρ,_,F,as,_,_,r,s,e1,fun v H1 F1 as1 g1 r1 hv=>?_⟩
  obtain ⟨a,xs,rfl,h1,h2⟩:∃a xs,v = .ref a∧Rps X.K F1 as1 xs ds∧∀(H2 F2:Hp) (as2:List Addr),Gr H1 F1 as1 H2 F2 as2→(∃O,RlO X.K X.mg O H2 F2 as2)→RdK X.K H2 a xs:=by
   rcases hv with hv | ⟨a,xs,ds',rfl,e,e3,e4,e6⟩
   ·obtain ⟨a,xs,rfl,h1,h2⟩:=hv.unL;exact ⟨a,xs,rfl,h2,fun H2 F2 as2 g ⟨O,r⟩=>(h1.mono g.ff).mono r.fh⟩
   ·cases e;exact ⟨a,xs,rfl,e6,fun H2 F2 as2 g _=>.inl (.inl (g.fr _ _ e3 e4 rfl))⟩
  refine ⟨a,rfl,⟨xs,(h2 H1 F1 as1 Gr.refl ⟨_,r1⟩).sq⟩,k _ H1 F1 as1 g1 r1 ⟨fun i d H2 F2 as2 g r e=>?_,fun H2 F2 as2 g r=>⟨xs,(h2 H2 F2 as2 g r).sq,by rw [h1.length]; exact zc _⟩⟩⟩;obtain ⟨x,h3,h4⟩:=h1.get' e;have q:=h2 H2 F2 as2 g r;refine ⟨⟨xs,x,q.sq,h3⟩,fun y H3 hy=>?_⟩;obtain ⟨rfl,hy⟩:=hy
  have:=hy xs q.sq
  rw [h3] at this;cases this;exact ⟨F2,Gr.refl,fun _ r=>r,h4.gr g⟩
 | _=>cases e
theorem Qot {tg e:Expr}{m:M D} (h:SE X md P e m):VIc X md P tg e (Qfj m):=fun pins s σ H Q I q=>by
 obtain ⟨ρ,O,F,as,ds,O',r,sl,e,k⟩:=q;obtain ⟨d,O1,e1,e⟩:=Res.bind_ok e
 cases d with
 | lst es =>
  cases e;exact QsF h pins s σ H Q I ⟨ρ,O,F,as,_,_,r,sl,by unfold QdV; rw [e1]; rfl,k⟩
 | tup es =>
  cases e;exact Qm6 (Qq5 (Qde h)) pins s σ H Q I ⟨ρ,O,F,as,_,_,r,sl,by unfold Qpi mG; rw [e1]; rfl,k⟩
 | str l =>
  simp only [Qhn] at e;split at e
  ·rename_i es hes;split at hes
   ·rename_i hl;cases hes;cases e;refine Qm6 (QqR h) pins s σ H Q I ⟨ρ,O,F,as,Qbe l,_,r,sl,?_,k⟩;unfold QpY;rw [e1];show (if ascii l=true then _ else _)=_;rw [if_pos hl]
   ·cases hes
  ·cases e
 | _=>cases e
def QiJ (m:M D):M (List D):=fun ρ O=>(m ρ O).bind fun d O1=>match d with
 | .lst ds=>.ok (Qb2 0 ds) O1
 | .str l=>if ascii l=true then .ok (Qb2 0 (Qbe l)) O1 else .no
 | _=>.no
variable {elts:List Expr}{x1:Nat}{tpos:Pos}
theorem Qop {a:Expr}{p pos:Pos}{m:M D} (hm:X.mg "enumerate" = none) (h:WE X md P a m) (hg:Gl X "enumerate":=by rfl) (hs:starEach [a] X.env = [(false,eval a X.env)]:=by exact QjP rfl) (hs':starEach [a] X.env=(false,eval a X.env)::starEach [] X.env:=by exact Qa7 rfl) :
  VI X md P (.Tuple elts x1 tpos) (.Call (.Name "enumerate" p) [a] [] pos) (QiJ m):=fun pins s σ H Q I q=>by
 obtain ⟨ρ,O,F,as,ds,O',r,sl,e,k⟩:=q;obtain ⟨d,O1,e1,e⟩:=Res.bind_ok e
 cases d with
 | lst es =>
  cases e;exact Qsc hm h hg hs hs' pins s σ H Q I ⟨ρ,O,F,as,_,_,r,sl,by unfold Qqy; rw [e1]; rfl,k⟩
 | str l=>exact QrH hm (Qpn h) hg hs hs' pins s σ H Q I ⟨ρ,O,F,as,ds,O',r,sl,by unfold Qrj; rw [e1]; exact e,k⟩
 | _=>cases e
def Pt.with (P:Pt) (a:Addr) (i:Nat) (d:D) (l:List (Nat×V×D)):Pt:=⟨fun c=>P c∨c=a,(i,.ref a,d)::(l++P.ss)⟩
end
theorem Qqz {P:Program}{w:World}{K:PySem.W.Frag}{mg mb:Str→Option Value}{CX:CXT}{k:Nat}{fa a:Addr}{fd:FuncData}{x:Str}{sp:Sp}{s₁:Shared}{vs:List Value}{ns:List Int}
  (KX:K.In s₁.heap) (hns:s₁.heap.Ns mainGlobals mg) (hb:s₁.heap.Ns builtinsNs mb) (hbb:∀x:Str,x≠"__name__"→mb x=bootBuiltins x) (hlim:s₁.heap.NoLimit) (hg:s₁.gens = #[])
  (ha:s₁.heap.get? a=some { cls:=.type "list",data:=.seq vs.toArray }) (hi:IntsAre vs ns) (hl:ns.length≤sizeLine) (hr:QaH k callerA)
  (F:∀base:Heap,K.In base→base.Ns mainGlobals mg→QbH P w K mg base CX k fa fd [x] sp) (hbind:∀(s:Shared) (u:Value),BindsTo s fd ⟨[u],[]⟩ [(x,u)])
  (hsp:∀H:Hp,Qkt H→RdK K H a (ns.map V.int)→sp [.ref a] H (fun v _=>v = .bl true) fun _ _ _=>False)
  (hCX:∀H e s',CX [] H s₁ (fun _ _ _=>False) e s'→False) :
  codeAny (model P w) callerA (.call (.ref fa) ⟨[.ref a],[]⟩) (fun r s'=>r = .ok (.ret (.bool true))∧OldK s₁.heap s'.heap∧s'.os=s₁.os∧AllBare s'.gens) s₁:=by
 have rv:=Qi9 hi;have lenV:=hi.length;have core:∀H:Hp,Qkt H→RdK K H a (ns.map V.int)→HOk P w H s₁.heap→(∀b,H b≠none→b=a)→(H a≠none→K.lookup a=none) →
   codeAny (model P w) callerA (.call (.ref fa) ⟨[.ref a],[]⟩) (fun r s'=>r = .ok (.ret (.bool true))∧OldK s₁.heap s'.heap∧s'.os=s₁.os∧AllBare s'.gens) s₁:=by
  intro H hO hS hok hA hK
  have base_of:∀{b:Addr}{o:Obj},s₁.heap.get? b=some o→H b=none→(Qfe s₁.heap H).get? b=some o:=fun e n=>Qng e n
  have noA:∀{b:Addr}{o:Obj}{es:Array DictEntry}{ep:Nat},s₁.heap.get? b=some o→o.data = .dict es ep→H b=none:=fun {b o es ep} e d=>by
   cases q:H b with
   | none=>rfl
   | some u =>
    have e':b=a:=hA b (by rw [q]; simp);subst e';rw [ha] at e; cases e;have d':Data.seq vs.toArray _=Data.dict es ep:=d;cases d'
  have nsK:∀{b:Addr}{m:Str→Option Value},s₁.heap.Ns b m→(Qfe s₁.heap H).Ns b m:=fun {b m} ⟨o,es,ep,e,d,r⟩=>⟨o,es,ep,base_of e (noA e d),d,r⟩
  have hKb:K.In (Qfe s₁.heap H):=fun b o e=>base_of (KX b o e) (by
   cases q:H b with
   | none=>rfl
   | some u =>
    have e':b=a:=hA b (by rw [q]; simp);subst e'
    rw [hK (by rw [q]; simp)] at e; cases e)
  have hM:Mod K mg (Qfe s₁.heap H):=⟨hKb,nsK hns,⟨mb,nsK hb,hbb⟩,let ⟨mc,h1,h2⟩:=hlim; ⟨mc,nsK h1,h2⟩⟩;have e0:QeS P w K mg (Qfe s₁.heap H) callerA [] s₁ H:=⟨rfl,hM,fun b o e=>QoI e,Nat.le_of_eq (Ql5 _ _),trivial,fun b hb=>absurd (show b∈([]:List Addr) from hb) (by simp),hok,.of_eq hg⟩
  refine codeAny_mono ((F _ hKb (nsK hns)).run callerA [] s₁ H ⟨[.ref a],[]⟩ [.ref a] [.ref a] _ _ hr e0 (hbind s₁ (.ref a)) (.cons rfl .nil) (hsp H hO hS)) fun r s' h=>?_
  cases r with
  | error e=>exact (hCX H e s' h).elim
  | ok fl =>
   cases fl with
   | next=>exact False.elim h
   | brk=>exact False.elim h
   | cont=>exact False.elim h
   | ret u =>
    obtain ⟨v,H',os,bare,un,hok',r',q⟩:=h;have q':v = .bl true:=q;subst q';obtain rfl:u=Value.bool true:=r';refine ⟨rfl,OldK.of_keep fun b o e=>?_,os,bare⟩
    cases q:H b with
    | none=>exact un.keep b o e q (by intro z; exact absurd (show b∈([]:List Addr) from z) (by simp)) (by simp)
    | some u =>
     rcases hO b with z | ⟨ob,xs,z⟩
     ·rw [q] at z; cases z
     ·have z2:=un.frzs b ob _ z;obtain ⟨e1,_⟩:=hok b _ z;obtain ⟨e2,_⟩:=hok' b _ z2;rw [e] at e1; cases e1;exact e2
 cases hk:K.lookup a with
 | some o =>
  have e:=KX a o hk;rw [ha] at e;cases e
  refine core (fun _=>none) (fun _=>.inl rfl) (.inr ⟨vs,_,hk,by rw [lenV]; exact hl,rv⟩) (fun b u z=>by have z':(none:Option HO)=some u:=z; cases z') (fun b z=>absurd rfl z) fun z=>absurd rfl z
 | none =>
  refine core (fun b=>if b=a then some (.frz { cls:=.type "list",data:=.seq vs.toArray } (.lst (ns.map V.int))) else none) (fun b=>?_) (.inl (.inr ⟨{ cls:=.type "list",data:=.seq vs.toArray },if_pos rfl⟩)) (fun b u z=>?_) (fun b z=>?_) fun _=>hk
  ·by_cases hb:b=a
   ·exact .inr ⟨_,_,if_pos hb⟩
   ·exact .inl (if_neg hb)
  ·by_cases hb:b=a
   ·have z':=(if_pos hb).symm.trans z;cases z';subst hb;exact ⟨ha,by rw [zD]; exact hl,vs,_,rv,ha⟩
   ·have z':=(if_neg hb).symm.trans z;cases z'
  ·by_cases hb:b=a
   ·exact hb
   ·exact absurd (if_neg hb) z
theorem walk_ofR {l:PySem.W.OpenLaw}{n k:Nat}{q:Program}{loose:List Str}{XP:(Str→Option Value)→Heap→Prop}{YP:World→Heap→Prop}{d:DefRec}{K:Params→PySem.W.Frag}{CX:World→CXT}{sp:World→Sp}{x:Str}
  (hn:l.most=some n) (hn2:n≤sizeLine) (hdf:d.params.defaults = []) (hr:QaH k callerA)
  (hY:∀(w:World) (h:Heap),YP w h→(K w.params).In h)
  (F:∀(w:World) (mg:Str→Option Value) (fa:Addr) (h:Heap),(K w.params).In h→h.Ns mainGlobals mg→mg d.name=some (.ref fa) →
   ∃fd:FuncData,(∀(s:Shared) (u:Value),BindsTo s fd ⟨[u],[]⟩ [(x,u)]) ∧
    ∀base:Heap,(K w.params).In base→base.Ns mainGlobals mg→QbH l.prog w (K w.params) mg base (CX w) k fa fd [x] (sp w))
  (hsp:∀(w:World) (H:Hp) (a:Addr) (ns:List Int),ns.length≤n→Qkt H→RdK (K w.params) H a (ns.map V.int)→sp w [.ref a] H (fun v _=>v = .bl true) fun _ _ _=>False)
  (hCX:∀(w:World) (H:Hp) (s:Shared) (e:Value) (s':Shared),CX w [] H s (fun _ _ _=>False) e s'→False) :
  PySem.W.WalkO q loose XP YP l.row.toRowW d [] (fun f vs=>PySem.call f vs):=by
 refine Att.attach_call hn hdf fun w s₀ s₁ mg mb fa o pm cd doc a vs ns G Y ho hd hcd hmg hobj hints hlen hg=>?_
 have KX:=hY w _ Y;obtain ⟨fd,hb,hF⟩:=F w mg fa _ KX G.T.g hmg
 exact Qqz KX G.T.g G.T.b G.T.builtins G.T.nolimit hg hobj hints (zA hlen hn2) hr hF hb (fun H hO hS=>hsp w H a ns hlen hO hS) fun H e s'=>hCX w H s₁ e s'
theorem Qa2 {K:Frag}{mg:Str→Option Value}{f:Str}:∀c∈([]:List Str),KC K mg c f:=fun _ h=>nomatch h
theorem QaP {K:Frag}{mg:Str→Option Value}{f c:Str}{cs:List Str} (h:KC K mg c f) (hr:∀c∈cs,KC K mg c f):∀c'∈c::cs,KC K mg c' f:=fun c' hc=>by
 rcases zm.mp hc with rfl | hc
 ·exact h
 ·exact hr c' hc
def sp_law (K:Frag):Sp:=fun vs H Q _=>∃(a:Addr) (ns:List Int),vs = [.ref a]∧RdK K H a (ns.map V.int)∧ns.length≤63∧Qkt H∧∀H',Q (.bl true) H'
theorem Rps.ofInts {K:Frag}{F:Hp}{as:List Addr}:∀ns:List Int,Rps K F as (ns.map V.int) (ns.map D.int)
 | []=>Rps.nil
 | n::ns=>Rps.cons Rp.int (Rps.ofInts ns)
theorem Qur {K:Frag}{mg:Str→Option Value}{c:List D→Qac→Res D} (h:∀ns:List Int,ns.length≤63→∃O',c [.lst (ns.map D.int)] [] = .ok (.bl true) O'):∀vs H Q E,sp_law K vs H Q E→vSp K mg [.s] (rV K) c vs H Q E:=by
 rintro vs H Q E ⟨a,ns,rfl,hS,hl,hO,q⟩;obtain ⟨O',e⟩:=h ns hl
 have r:RlO K mg [] H H []:=⟨Same.refl H,fun b o e=>by
  rcases hO b with z | ⟨o',xs,z⟩
  ·rw [e] at z; cases z
  ·rw [e] at z; cases z; rfl,List.nodup_nil,rfl,(fun _ z=>nomatch z),fun n b o z=>by cases z⟩
 refine ⟨[.lst (ns.map D.int)],[],H,[],.bl true,O',r,⟨.inl (Rp.mkL hS (Rps.ofInts ns)),trivial⟩,e,fun v H' F' as' g r' hv=>?_⟩;rw [Rp.unB hv];exact q H'
def keyOf:D→Option Key
 | .int i=>some (.inl i)
 | .str l=>some (.inr (S l))
 | _=>none
theorem Qtf {d:D}{k:Key} (h:keyOf d=some k):Qp1 k=d:=by
 cases d with
 | int i=>cases h; rfl
 | str l=>cases h; show D.str (S l).cps.toList=_; rw [Qgx]
 | _=>cases h
theorem Rp.key {K:Frag}{F:Hp}{as:List Addr}{v:V}{d:D}{k:Key} (h:Rp K F as v d) (e:keyOf d=some k):v=kV k:=by
 cases d with
 | int i=>cases e; exact h.unI
 | str l=>cases e; exact h.unS
 | _=>cases e
section
variable {X:Cx}{md:List Md}{P:Pt}
theorem Qtm {pos:Pos}:VE X md P (.Dict [] [] pos) (mC (.dic [] [])):=QrC.imp fun σ H Q q=>by
 obtain ⟨ρ,O,F,as,d,O',r,s,e,k⟩:=q;cases e;intro p hp;have hF:=r.frF hp;refine k _ _ (upd F p (.dK [])) as ((Gr.lay hp).frz hp hF) ((r.lay hp).frz QaE hF (fun z=>r.all z hp) rfl) ?_;show Rp X.K _ _ _ _;rw [Rp];exact ⟨p,[],rfl,QaE,rfl,Rps.nil⟩
def Prs (K:Frag) (F:Hp) (as:List Addr):List (V×V)→List (D×D)→Prop
 | [],[]=>True
 | p::ps,d::ds=>Rp K F as p.1 d.1∧Rp K F as p.2 d.2∧Prs K F as ps ds
 | _,_=>False
def DPE (X:Cx) (md:List Md) (P:Pt) (pos:Pos) (keys:List (Option Expr)) (values:List Expr) (m:M (List (D×D))):Prop:=∃trs:List (TE×TE),
 PPs X pos keys values trs∧∀σ H Q,(∃ρ O F as kv O',RlO X.K X.mg O H F as∧SlO X.K md P ρ σ H F as∧m ρ O = .ok kv O'∧∀ps H' F' as',Gr H F as H' F' as'→RlO X.K X.mg O' H' F' as'→Prs X.K F' as' ps kv→Q ps H')→QnK trs σ H Q
def Qwy:M (List (D×D)):=fun _ O=>.ok [] O
def Qu8 (mk mv:M D) (r:M (List (D×D))):M (List (D×D)):=fun ρ O=>(mk ρ O).bind fun a O1=>(mv ρ O1).bind fun b O2=>(r ρ O2).bind fun ps O3=>.ok ((a,b)::ps) O3
def keysOf:List (D×D)→Option (List Key)
 | []=>some []
 | (a,_)::r=>(keyOf a).bind fun k=>(keysOf r).map (k :: ·)
theorem Prs.kvs {K:Frag}{F:Hp}{as:List Addr}:∀{kv:List (D×D)}{ps:List (V×V)}{ks:List Key},Prs K F as ps kv→keysOf kv=some ks →
  ∃kvs:List (Key×V),ps=kvs.map (fun p=>(kV p.1,p.2))∧kvs.map (·.1)=ks∧kv.map (·.1)=kvs.map (fun p=>Qp1 p.1)∧Rps K F as (kvs.map (·.2)) (kv.map (·.2))
 | [],ps,ks,h,e=>by
  cases ps with
  | nil=>cases e; exact ⟨[],rfl,rfl,rfl,Rps.nil⟩
  | cons _ _=>exact h.elim
 | (a,b)::kv,ps,ks,h,e=>by
  cases ps with
  | nil=>exact h.elim
  | cons p ps =>
   obtain ⟨p1,p2⟩:=p;unfold keysOf at e
   cases ea:keyOf a with
   | none=>rw [ea] at e; cases e
   | some k =>
    rw [ea] at e
    cases er:keysOf kv with
    | none=>rw [er] at e; cases e
    | some ks' =>
     rw [er] at e;cases e;obtain ⟨kvs,h1,h2,h3,h4⟩:=Prs.kvs h.2.2 er;refine ⟨(k,p2)::kvs,?_,?_,?_,Rps.cons h.2.1 h4⟩
     ·rw [zf,←h1]
      have:p1=kV k:=Rp.key h.1 ea
      rw [this]
     ·rw [zf,h2]
     ·rw [zf,zf,h3,Qtf ea]
def QwG (m:M (List (D×D))):M D:=fun ρ O=>(m ρ O).bind fun kv O1=>match keysOf kv with
 | some ks=>if ks.Nodup∧kv.length≤15 then .ok (.dic (kv.map (·.1)) (kv.map (·.2))) O1 else .no
 | none=>.no
theorem Prs.length {K:Frag}{F:Hp}{as:List Addr}:∀{kv:List (D×D)}{ps:List (V×V)},Prs K F as ps kv→ps.length=kv.length
 | [],[],_=>rfl
 | _::kv,_::ps,h=>by simp [Prs.length h.2.2]
 | [],_::_,h=>h.elim
 | _::_,[],h=>h.elim
end
section
variable {X:Cx}{md:List Md}{P:Pt}{k:Nat}{c x m:Str}{ps:List Str}{p pos apos:Pos}{o e:Expr}{es:List Expr}{pm:List Md}{cf:List D→Qac→Res D}{mo:M D}{ma:M (List D)}
theorem QaO (C:Can X.prog X.w X.K X.mg X.base x ps k (vSp X.K X.mg pm (rV X.K) cf)) (hr:QaH k X.A) (ha:AE X md P pm (e::es) ma) (hg:Gl X x:=by rfl) (hdb:(x == ("__debug__":Str))=false:=by decide) (he:starEach (e::es) X.env=(false,eval e X.env)::starEach es X.env:=by exact Qa7 rfl) (hpl:(backTo pos (starEach es X.env)).any (·.1)=false:=by exact Qbb rfl) :
  VE X md P (.Call (.Name x p) (e::es) [] pos) (Qat cf ma):=Qos Qbr C hr ha hg hdb he hpl
theorem Qlp (C:Can X.prog X.w X.K X.mg X.base x ps k (vSp X.K X.mg pm (rO X.K) cf)) (hr:QaH k X.A) (ha:AE X md P pm (e::es) ma) (hg:Gl X x:=by rfl) (hdb:(x == ("__debug__":Str))=false:=by decide) (he:starEach (e::es) X.env=(false,eval e X.env)::starEach es X.env:=by exact Qa7 rfl) (hpl:(backTo pos (starEach es X.env)).any (·.1)=false:=by exact Qbb rfl) :
  OE X md P (.Call (.Name x p) (e::es) [] pos) (Qat cf ma):=Qos Qdg C hr ha hg hdb he hpl
theorem QgI {pl:Sem Bool} (M:Qeq X.prog X.w X.K X.mg X.base c m ps k (vSp X.K X.mg (.v::pm) (rO X.K) cf)) (hr:QaH k X.A) (ho:VE X md P o mo) (ha:AE X md P pm (e::es) ma) (hst:starEach (e::es) X.env=(false,eval e X.env)::starEach es X.env:=by exact Qa7 rfl) (hpl:(backTo pos (starEach es X.env)).any (·.1)=false:=by exact Qbb rfl)
  (ht:eval (.Call (.Attribute o m apos) (e::es) [] pos) X.env=(do
   let ov ←eval o X.env
   standAt apos.atName
   let (f,first) ←holding [ov] (getMethod ov m pl)
   callWith pos f first (backTo pos (starEach (e::es) X.env)) (backToKw pos (keywordEach [] X.env))):=by rfl):OE X md P (.Call (.Attribute o m apos) (e::es) [] pos) (Qbq c m cf mo ma):=Quo Qdg M hr ho ha hst hpl ht
theorem Qkg {pl:Sem Bool} (M:Qeq X.prog X.w X.K X.mg X.base c m ps k (vSp X.K X.mg [.v] (rV X.K) cf)) (hr:QaH k X.A) (ho:VE X md P o mo)
  (ht:eval (.Call (.Attribute o m apos) [] [] pos) X.env=(do
   let ov ←eval o X.env
   standAt apos.atName
   let (f,first) ←holding [ov] (getMethod ov m pl)
   callWith pos f first (backTo pos (starEach [] X.env)) (backToKw pos (keywordEach [] X.env))):=by rfl):VE X md P (.Call (.Attribute o m apos) [] [] pos) (Qbq c m cf mo Qae):=Qnk Qbr M hr ho ht
theorem Qm7 {pl:Sem Bool} (M:Qeq X.prog X.w X.K X.mg X.base c m ps k (vSp X.K X.mg [.v] (rO X.K) cf)) (hr:QaH k X.A) (ho:VE X md P o mo)
  (ht:eval (.Call (.Attribute o m apos) [] [] pos) X.env=(do
   let ov ←eval o X.env
   standAt apos.atName
   let (f,first) ←holding [ov] (getMethod ov m pl)
   callWith pos f first (backTo pos (starEach [] X.env)) (backToKw pos (keywordEach [] X.env))):=by rfl):OE X md P (.Call (.Attribute o m apos) [] [] pos) (Qbq c m cf mo Qae):=Qnk Qdg M hr ho ht
end
def Itz (K:Frag) (l1 l2:Addr):It:=⟨fun i H=>∃xs ys x y,SqL K H l1 xs∧SqL K H l2 ys∧xs[i]? = some x∧ys[i]? = some y,
 fun i H v H'=>∃T x y,v = .ref T∧H T=none∧H'=upd H T (.tup [x,y])∧(∀xs,SqL K H l1 xs→xs[i]? = some x)∧∀ys,SqL K H l2 ys→ys[i]? = some y,
 fun i H=>∃xs ys,SqL K H l1 xs∧SqL K H l2 ys∧(xs.length≤i∨ys.length≤i)⟩
theorem QrS {P:Program}{w:World}{K:Frag}{elts:List Expr}{x1}{pos:Pos} (z TI TO i1 i2 l1 l2:Addr) (D:ZipApart z TI TO i1 i2 l1 l2):Turn P w K (.Tuple elts x1 pos) (Itz K l1 l2) [z,TI,TO,i1,i2] z
  (fun i h=>IsZip h z TI TO .none∧IsPair h TI (.ref i1) (.ref i2)∧(∃a b,IsPair h TO a b)∧h.IsListIter i1 l1 i∧h.IsListIter i2 l2 i) where
 mem:=by simp
 obj:=fun i h st b hb=>by
  obtain ⟨hz,hTI,⟨a,b',hTO⟩,⟨o1,ho1,hc1,hd1⟩,⟨o2,ho2,hc2,hd2⟩⟩:=st;simp only [zm,List.not_mem_nil,or_false] at hb
  rcases hb with rfl | rfl | rfl | rfl | rfl
  ·exact Qdx hz rfl
  ·exact ⟨_,hTI,fun v z=>nomatch z⟩
  ·exact ⟨_,hTO,fun v z=>nomatch z⟩
  ·exact Qdx ho1 hd1
  ·exact Qdx ho2 hd2
 keep:=fun i h h' st k=>by
  obtain ⟨hz,hTI,⟨a,b',hTO⟩,h1,h2⟩:=st;exact ⟨k z (by simp) _ hz,k TI (by simp) _ hTI,⟨a,b',k TO (by simp) _ hTO⟩,h1.at fun o e=>k i1 (by simp) o e,h2.at fun o e=>k i2 (by simp) o e⟩
 item:=by
  intro X hP hw hK hc i pins s σ H E I hf st hg;subst hP hw hK;obtain ⟨hz,hTI,⟨a,b',hTO⟩,h1,h2⟩:=st;obtain ⟨xs,ys,x,y,hq1,hq2,hx,hy⟩:=hg;obtain ⟨its1,rv1,pl1,hz1⟩:=I.list hq1;obtain ⟨its2,rv2,pl2,hz2⟩:=I.list hq2;obtain ⟨u1,hu1,ru1⟩:=rv1.get hx;obtain ⟨u2,hu2,ru2⟩:=rv2.get hy;have hT:H s.heap.objs.size=none:=I.hok.fresh (zc _);have elt:z < s.heap.objs.size:=zd hz
  refine wpAny_pyNext_zip_item D hz hTI hTO h1 h2 pl1.isList pl2.isList (x:=u1) (y:=u2) (by simpa using hu1) (by simpa using hu2) fun h' a1 a2 a3 a4 a5 a6 hk=>⟨_,rfl,?_⟩
  refine wpAny_letOwnedTupleGo_zip a1 fun h'' hz'' hs''=>⟨.ref s.heap.objs.size,_,?_,rfl,⟨s.heap.objs.size,x,y,rfl,hT,rfl,fun ys' hy'=>by rw [I.list_inj hy' hq1]; exact hx,fun ys' hy'=>by rw [I.list_inj hy' hq2]; exact hy⟩,⟨hz'',hs''.extBut _ _ D.TIz (hk _ _ D.TIz D.TITO D.TIi1 D.TIi2 hTI),⟨_,_,hs''.extBut _ _ D.TOz a2⟩,a3.extBut hs''.extBut D.i1z,a4.extBut hs''.extBut D.i2z⟩,fun b hb=>?_⟩
  ·show Inv X pins σ _ { s with heap:=h'',toks:=s.toks };refine I.turnT (ch:=[z,TI,TO,i1,i2]) (us:=[u1,u2]) hf (fun b o hb q=>?_) (zc _) ⟨_,hs''.extBut _ _ (Nat.ne_of_gt elt) a5,rfl,_,rfl⟩ (.cons ru1 (.cons ru2 .nil)) (by show 2≤sizeLine; decide)
   have n1:b≠z:=fun e=>hb (by simp [e])
   have n2:b≠TO:=fun e=>hb (by simp [e])
   have n3:b≠i1:=fun e=>hb (by simp [e])
   have n4:b≠i2:=fun e=>hb (by simp [e])
   exact hs''.extBut _ _ n1 (hk b o n1 n2 n3 n4 q)
  ·have q:=hf b hb;rw [Qam (fun e=>?_)]
   ·exact q.1
   ·obtain ⟨o,ho⟩:∃o,s.heap.get? b=some o:=by
     obtain ⟨o1,ho1,_⟩:=h1;obtain ⟨o2,ho2,_⟩:=h2;simp only [zm,List.not_mem_nil,or_false] at hb
     rcases hb with rfl | rfl | rfl | rfl | rfl
     ·exact ⟨_,hz⟩
     ·exact ⟨_,hTI⟩
     ·exact ⟨_,hTO⟩
     ·exact ⟨_,ho1⟩
     ·exact ⟨_,ho2⟩
    exact absurd (zd ho) (by rw [e]; exact zM _)
 done:=by
  intro X hP hw hK hc i pins s σ H E I hf st hg;subst hP hw hK;obtain ⟨hz,hTI,⟨a,b',hTO⟩,h1,h2⟩:=st;obtain ⟨xs,ys,hq1,hq2,hl⟩:=hg;obtain ⟨its1,rv1,pl1,hz1⟩:=I.list hq1;obtain ⟨its2,rv2,pl2,hz2⟩:=I.list hq2;have l1:=rv1.length;have l2:=rv2.length
  refine wpAny_pyNext_zip_end (I.ok.hd hc) D hz hTI hTO h1 h2 pl1.isList pl2.isList (by
   rcases hl with hl | hl
   ·left; simp; omega
   ·right; simp; omega) fun h' hx=>⟨rfl,?_⟩
  exact I.turnL (t':=s.toks) (ch:=[z,TI,TO,i1,i2]) hf fun b o hb q=>hx b o (fun e=>hb (by simp [e])) (fun e=>hb (by simp [e])) (fun e=>hb (by simp [e])) (fun e=>hb (by simp [e])) q
 self:=fun A i s Q E st h=>wpAny_pyIter_zip st.1 h
section
variable {X:Cx}{md:List Md}{P:Pt}{R:RR}{elts:List Expr}{x1:Nat}{tpos:Pos}
def QxR (K:Frag) (ta:TA):TI:=fun σ H R=>ta σ H fun vs H1=>∃a b,vs = [.ref a,.ref b]∧(∃xs,SqL K H1 a xs)∧(∃ys,SqL K H1 b ys)∧R (Itz K a b) H1
theorem Qvx {a b:Expr}{ta:TA}{p pos:Pos} (hg:Gl X "zip") (hm:X.mg "zip" = none) (ha:PA X [a,b] ta) (hs:starEach [a,b] X.env=(false,eval a X.env)::starEach [b] X.env:=by exact Qa7 rfl) (hpl:(backTo pos (starEach [b] X.env)).any (·.1)=false:=by exact Qbb rfl) :
  PI X (.Tuple elts x1 tpos) (.Call (.Name "zip" p) [a,b] [] pos) (QxR X.K ta):=by
 intro pins s σ H R I h;refine Call_ (QgY I hg hm boot_zip (PyProof.Rows.callWith_type1 (thn (ha pos pins s σ H _ I h) fun us s1 ⟨vs,H1,I1,r1,q1⟩=>?_) hs hpl));obtain ⟨l1,l2,e,⟨xs,hq1⟩,⟨ys,hq2⟩,q⟩:=q1;subst e;obtain ⟨u1,u2,rfl,ru1,ru2⟩:=vals2 r1;cases ru1;cases ru2;obtain ⟨its1,rv1,pl1,hz1⟩:=I1.list hq1;obtain ⟨its2,rv2,pl2,hz2⟩:=I1.list hq2
 have a1:l1 < s1.heap.objs.size:=by obtain ⟨_,e,_⟩:=pl1.isList; exact zd e
 have a2:l2 < s1.heap.objs.size:=by obtain ⟨_,e,_⟩:=pl2.isList; exact zd e
 refine call_zip_2 pl1.isList pl2.isList fun h' hz hTI hTO hit1 hit2 hsz hk=>wpAny_pyIter_zip hz ?_
 refine ⟨s1.heap.objs.size+4,[s1.heap.objs.size+4,s1.heap.objs.size+2,s1.heap.objs.size+3,s1.heap.objs.size,s1.heap.objs.size+1],_,_,H1,rfl,I1.kept (t':=s1.toks) hk,QrS _ _ _ _ _ l1 l2 (zipApart_new a1 a2),⟨hz,hTI,⟨_,_,hTO⟩,hit1,hit2⟩,fun b hb=>?_,q⟩
 have hb':s1.heap.objs.size≤b:=by
  simp only [zm,List.not_mem_nil,or_false] at hb
  rcases hb with rfl | rfl | rfl | rfl | rfl
  ·exact je _ _
  ·exact je _ _
  ·exact je _ _
  ·exact zc _
  ·exact je _ _
 exact I1.fpOk hb' (I1.hok.fresh hb')
def Qer:List D→List D→List D
 | d::ds,e::es=>.tup [d,e]::Qer ds es
 | _,_=>[]
theorem QmM:∀(ds es:List D) (i:Nat) (x:D),(Qer ds es)[i]? = some x→∃d e,ds[i]? = some d∧es[i]? = some e∧x = .tup [d,e]
 | [],es,i,x,h=>by simp [Qer] at h
 | d::ds,[],i,x,h=>by simp [Qer] at h
 | d::ds,e::es,0,x,h=>by
  simp [Qer] at h
  exact ⟨d,e,rfl,rfl,h.symm⟩
 | d::ds,e::es,i+1,x,h=>by
  obtain ⟨d',e',h1,h2,h3⟩:=QmM ds es i x (by simpa [Qer] using h);exact ⟨d',e',by simpa using h1,by simpa using h2,h3⟩
theorem QmX:∀(ds es:List D),ds.length≤(Qer ds es).length∨es.length≤(Qer ds es).length
 | [],es=>.inl (Nat.zero_le _)
 | d::ds,[]=>.inr (Nat.zero_le _)
 | d::ds,e::es=>by
  rcases QmX ds es with h | h
  ·left; simp [Qer]; exact h
  ·right; simp [Qer]; exact h
def QpQ (ma mb:M D):M (List D):=fun ρ O=>(ma ρ O).bind fun d O1=>(mb ρ O1).bind fun e O2=>match d,e with
 | .lst ds,.lst es=>.ok (Qer ds es) O2
 | _,_=>.no
theorem QvI {a b:Expr}{p pos:Pos}{ma mb:M D} (hm:X.mg "zip" = none) (h:WE X md P a ma) (h':WE X md P b mb) (hg:Gl X "zip":=by rfl) (hs:starEach [a,b] X.env=(false,eval a X.env)::starEach [b] X.env:=by exact Qa7 rfl) (hs':starEach [b] X.env=(false,eval b X.env)::starEach [] X.env:=by exact Qa7 rfl) (hpl:(backTo pos (starEach [b] X.env)).any (·.1)=false:=by exact Qbb rfl) :
  VI X md P (.Tuple elts x1 tpos) (.Call (.Name "zip" p) [a,b] [] pos) (QpQ ma mb):=(Qvx hg hm (QbY h (QbY h' Qc6 hs') hs) hs hpl).imp fun σ H Q q=>by
 obtain ⟨ρ,O,F,as,ds,O',r,s,e,k⟩:=q;obtain ⟨d1,O1,e1,e⟩:=Res.bind_ok e;obtain ⟨d2,O2,e2,e⟩:=Res.bind_ok e
 cases d1 with
 | lst ds1 =>
  cases d2 with
  | lst ds2 =>
   cases e;refine ⟨ρ,_,F,as,_,_,r,s,e1,fun v H1 F1 as1 g1 r1 hv=>?_⟩;refine ⟨ρ,_,F1,as1,_,_,r1,s.step g1,e2,fun u H2 F2 as2 g2 r2 hu=>?_⟩;obtain ⟨a,xs,rfl,h1,h2⟩:=QkW (mg:=X.mg) hv;obtain ⟨b,ys,rfl,h3,h4⟩:=QkW (mg:=X.mg) hu
   have h2':∀(H3 F3:Hp) (as3:List Addr),GrS P H2 F2 as2 H3 F3 as3→(∃O,RlO X.K X.mg O H3 F3 as3)→RdK X.K H3 a xs:=fun H3 F3 as3 g r=>h2 H3 F3 as3 (g2.toS.trans g) r
   have h1':=h1.gr g2;refine ⟨a,b,rfl,⟨xs,(h2' H2 F2 as2 GrS.refl ⟨_,r2⟩).sq⟩,⟨ys,(h4 H2 F2 as2 GrS.refl ⟨_,r2⟩).sq⟩,k _ H2 F2 as2 (g1.trans g2) r2 ⟨fun i d H3 F3 as3 g r e=>?_,fun H3 F3 as3 g r=>⟨xs,ys,(h2' H3 F3 as3 g r).sq,(h4 H3 F3 as3 g r).sq,?_⟩⟩⟩
   ·obtain ⟨x',y',q1,q2,rfl⟩:=QmM _ _ _ _ e;obtain ⟨x,hx,rx⟩:=h1'.get' q1;obtain ⟨y,hy,ry⟩:=h3.get' q2;have sx:=(h2' H3 F3 as3 g r).sq;have sy:=(h4 H3 F3 as3 g r).sq;refine ⟨⟨xs,ys,x,y,sx,sy,hx,hy⟩,fun z H4 hz=>?_⟩;obtain ⟨T,x2,y2,rfl,hT,rfl,hx2,hy2⟩:=hz;have t1:=hx2 xs sx;have t2:=hy2 ys sy;rw [hx] at t1;rw [hy] at t2;cases t1;cases t2;exact Qkk r hT (Rps.cons (rx.grS g) (Rps.cons (ry.grS g) Rps.nil))
   ·rw [h1'.length,h3.length];exact QmX ds1 ds2
  | _=>cases e
 | _=>cases e
def Qki (m:MS):MS:=fun ρ O=>match m ρ O with
 | .rt d O'=>.rt d O'
 | _=>.no
theorem SlO.toV {K:Frag}{ρ:Qal}{σ:St}{H F F':Hp}{as:List Addr}{i:Nat} (s:SlO K md P ρ σ H F as) (hm:md[i]? = some .o) (ff:Same F F')
  (hown:∀(j:Nat) (ds:List D) (a:Addr),j≠i→md[j]? = some .o→ρ[j]? = some (some (.lst ds))→σ[j]? = some (some (.ref a))→F' a=F a)
  (hv:∀d,ρ[i]? = some (some d)→∃v,σ[i]? = some (some v)∧Rp K F' as v d):SlO K (md.set i .v) P ρ σ H F' as:=by
 have hi:i < md.length:=(zj.mp hm).1
 have back:∀(j:Nat),(md.set i Md.v)[j]? = some Md.o→j≠i∧md[j]? = some .o:=fun j e=>by
  by_cases hj:j=i
  ·subst hj;rw [zE hi] at e;cases e
  ·rw [ze (Ne.symm hj)] at e;exact ⟨hj,e⟩
 refine ⟨by rw [zR]; exact s.len,by rw [zR]; exact s.len',s.pd,fun j m d e1 e2=>?_,fun j k a ds es h1 h2 h3 h4 h5 h6=>s.inj j k a ds es (back j h1).2 (back k h2).2 h3 h4 h5 h6,fun x hx=>?_⟩
 ·by_cases hj:j=i
  ·subst hj;rw [zE hi] at e1;cases e1;exact hv d e2
  ·rw [ze (Ne.symm hj)] at e1;obtain ⟨v,q,t⟩:=s.sl j m d e1 e2;refine ⟨v,q,?_⟩
   cases m with
   | v=>exact Rp.mono ff (fun _ _ z=>z) _ t
   | s =>
    rcases t with t | ⟨a,xs,ds,t1,t2,t3,t4,t5,t6⟩
    ·exact .inl (Rp.mono ff (fun _ _ z=>z) _ t)
    ·exact .inr ⟨a,xs,ds,t1,t2,t3,t4,t5,Rps.mono ff (fun _ _ z=>z) _ t6⟩
   | o =>
    rcases t with ⟨t0,t⟩ | ⟨a,xs,ds,rfl,rfl,t3,t0,t4,t5,t6⟩
    ·exact .inl ⟨t0,Rp.mono ff (fun _ _ z=>z) _ t⟩
    ·exact .inr ⟨a,xs,ds,rfl,rfl,t3,by rw [hown j ds a hj e1 e2 q]; exact t0,t4,t5,Rps.mono ff (fun _ _ z=>z) _ t6⟩
 ·obtain ⟨p1,p2,p3⟩:=s.pin x hx
  have hne:i≠x.1:=fun z=>by rw [←z,hm] at p1; cases p1
  exact ⟨by rw [ze hne]; exact p1,p2,p3⟩
theorem Qvy {K:Frag}{mg:Str→Option Value}{i:Nat}{m:MS} (hm:md[i]? = some .o) {D:Ends}{σ:St}{H:Hp} (q:tMS K mg md P R (Qki m) D σ H):tMS K mg (md.set i .v) P R m D σ H:=by
 obtain ⟨ρ,O,F,as,r,s,k⟩:=q;unfold Qki at k
 cases e:m ρ O with
 | rt d O' =>
  rw [e] at k
  by_cases hl:∃ds,ρ[i]? = some (some (.lst ds))
  ·obtain ⟨ds,hρ⟩:=hl;obtain ⟨a,xs,h1,h2,h3,h4,h5,h6⟩:=s.own hm hρ
   have ff:Same F (upd F a (.lst xs)):=fun b u q=>by rw [Qam (Qax q h3)]; exact q
   have g0:GrS P H F as H (upd F a (.lst xs)) as:=⟨fun c _ p _ _ _=>Qam (fun z=>h5 (by rw [←z]; exact p)),ff,⟨[],by simp,fun _ h=>nomatch h⟩,fun _ _ _ h _ _=>h,fun _ h=>h,fun _ _ _ h=>h⟩;refine ⟨ρ,O,upd F a (.lst xs),as,r.frz h2 h3 h4 rfl,s.toV hm ff (fun j es b hj m1 m2 m3=>?_) (fun d' hd'=>?_),?_⟩
   ·refine Qam fun z=>hj ?_
    rw [z] at m3;exact s.inj j i a es ds m1 hm m2 hρ m3 h1
   ·rw [hρ] at hd';cases hd';exact ⟨_,h1,Rp.mkL (.inl (.inl QaE)) (Rps.mono ff (fun _ _ z=>z) _ h6)⟩
   ·rw [e]
    exact fun v H' F' as' g r' hv=>k v H' F' as' (g0.trans g) r' hv
  ·refine ⟨ρ,O,F,as,r,s.toV hm (Same.refl F) (fun _ _ _ _ _ _ _=>rfl) (fun d' hd'=>?_),by rw [e]; exact k⟩;obtain ⟨v,h1,h2⟩:=s.sl i .o d' hm hd'
   rcases h2 with ⟨_,h2⟩ | ⟨a,xs,ds,_,rfl,_⟩
   ·exact ⟨v,h1,h2⟩
   ·exact absurd ⟨ds,hd'⟩ hl
 | _=>rw [e] at k; exact False.elim k
theorem Qqf (i:Nat) {st:Stmt}{m:MS} (hm:md[i]? = some .o) (h:VS X (md.set i .v) P R st m):VS X md P R st (Qki m):=h.imp fun _ _ _=>Qvy hm
end
section
variable {prog:Program}{w:World}{A:Around}{E:Value→Shared→Prop}
end
section
variable {X:Cx}{md:List Md}{P:Pt}{R:RR}
def mMl (m:M D):M D:=fun ρ O=>(m ρ O).bind fun d O1=>match d with
 | .lst ds=>.ok (.ob O1.length) (O1 ++ [.ml ds])
 | d=>.ok d O1
theorem Qox {as:List Addr}{a:Addr}:∀(n:Nat) (c:Addr),as[n]? = some c→(as ++ [a])[n]? = some c:=fun n c h=>by
 rw [zt (zj.mp h).1]; exact h
theorem RlO.snocMl {K:Frag}{mg:Str→Option Value}{O:Qac}{H F:Hp}{as:List Addr}{a:Addr}{xs:List V}{ds:List D} (r:RlO K mg O H F as) (hH:H a=some (.lst xs)) (hF:F a=none) (ha:a∉as) (hx:Rps K F as xs ds):RlO K mg (O ++ [.ml ds]) H F (as ++ [a]):=by
 refine ⟨r.fh,r.fd,jl.mpr ⟨r.nd,by simp,fun c hc d hd=>by rw [zr.mp hd]; exact fun z=>ha (z ▸ hc)⟩,by rw [zu,zu,r.len]; rfl,fun c hc=>?_,fun n c o hc ho=>?_⟩
 ·rcases zC.mp hc with hc | hc
  ·exact r.fa c hc
  ·rw [zr.mp hc]; exact hF
 ·by_cases hn:n < as.length
  ·rw [zt hn] at hc;rw [zt (by rw [←r.len]; exact hn)] at ho;exact (r.ob n c o hc ho).keep rfl (Same.refl F) Qox
  ·have hn':n=as.length:=by
    have:=(zj.mp hc).1
    rw [zu,zW] at this;omega
   subst hn';rw [zw (zc _),Nat.sub_self] at hc;rw [r.len,zw (zc _),Nat.sub_self] at ho;cases hc;cases ho;exact ⟨xs,hH,Rps.mono (Same.refl F) Qox _ hx⟩
theorem Qil {e:Expr}{m:M D} (h:OE X md P e m):VE X md P e (mMl m):=h.imp fun σ H Q q=>by
 obtain ⟨ρ,O,F,as,d,O',r,s,e,k⟩:=q;obtain ⟨x,O1,e1,e⟩:=Res.bind_ok e;refine ⟨ρ,_,F,as,_,_,r,s,e1,fun v H1 F1 as1 g1 r1 hv=>?_⟩
 rcases hv with ⟨hn,hv⟩ | ⟨a,xs,ds,rfl,rfl,e3,e4,e5,e6,e7⟩
 ·cases x with
  | lst ds=>cases hn
  | _=>cases e; exact k v H1 F1 as1 g1 r1 hv
 ·cases e;obtain ⟨new,en,hnw⟩:=g1.nw;refine k (.ref a) H1 F1 (as1 ++ [a]) ⟨g1.fz,g1.ff,⟨new ++ [a],by rw [en,zU],fun c hc=>?_⟩,g1.fr,g1.dm,g1.kz⟩ (r1.snocMl e3 e4 e5 e7) (Rp.mkO ?_)
  ·rcases zC.mp hc with hc | hc
   ·exact hnw c hc
   ·rw [zr.mp hc]; exact e6
  ·rw [←r1.len,zw (zc _),Nat.sub_self];rfl
theorem Que {H F:Hp}{as:List Addr}{a:Addr}{h:HO} (ha:a∈as) (hh:H a=some h) {o:HO} (hf:∀o u,h≠.frz o u:=by intro _ _ z; cases z):Gr H F as (upd H a o) F as :=
 ⟨fun _ _ _ _ _=>rfl,Same.refl F,⟨[],by simp,fun _ h=>nomatch h⟩,fun c u e hn _=>by rw [Qam (fun z=>hn (by rw [z]; exact ha))]; exact e,fun c e=>by
  by_cases h:c=a
  ·subst h; rw [QaE] at e; cases e
  ·rwa [Qam h] at e,fun c o' u e=>by rw [Qam (fun z=>by rw [z,hh] at e; cases e; exact hf _ _ rfl)]; exact e⟩
theorem RlO.mutO {K:Frag}{mg:Str→Option Value}{O:Qac}{H F:Hp}{as:List Addr}{n:Nat}{a:Addr}{xs:List V}{ds:List D} (r:RlO K mg O H F as) (hn:as[n]? = some a) (hx:Rps K F as xs ds):RlO K mg (O.set n (.ml ds)) (upd H a (.lst xs)) F as:=by
 have ha:=zN hn;refine ⟨fun c u e=>?_,r.fd,r.nd,by rw [zR]; exact r.len,r.fa,fun m c o hc ho=>?_⟩
 ·rw [Qam (fun z=>by rw [z,r.fa a ha] at e; cases e)]; exact r.fh c u e
 ·by_cases hm:m=n
  ·subst hm;rw [hn] at hc;cases hc
   have hlt:m < O.length:=by rw [←r.len]; exact (zj.mp hn).1
   rw [zE hlt] at ho;cases ho;exact ⟨xs,QaE,hx⟩
  ·rw [ze (Ne.symm hm)] at ho
   refine (r.ob m c o hc ho).keep (Qam fun z=>hm ?_) (Same.refl F) fun _ _ h=>h
   obtain ⟨q0,q1⟩:=zj.mp hc;obtain ⟨p0,p1⟩:=zj.mp hn;exact (List.getElem_inj r.nd).mp (q1.trans (z.trans p1.symm))
theorem RlO.ml {K:Frag}{mg:Str→Option Value}{O:Qac}{H F:Hp}{as:List Addr}{n:Nat}{a:Addr}{ds:List D} (r:RlO K mg O H F as) (hn:as[n]? = some a) (hO:O[n]? = some (.ml ds)):∃xs,H a=some (.lst xs)∧Rps K F as xs ds:=r.ob n a _ hn hO
def QfT (mo m:M D):MS:=fun ρ O=>match mo ρ O with
 | .ok (.ob n) O1=>match O1[n]? with
  | some (.ml _)=>match m ρ O1 with
   | .ok d O2=>match O2[n]? with
    | some (.ml ds)=>if ds.length < 1000000 then .nx ρ (O2.set n (.ml (ds ++ [d]))) else .no
    | _=>.no
   | _=>.no
  | _=>.no
 | _=>.no
theorem QoX {o e:Expr}{apos cpos pos:Pos}{mo m:M D} (ho:VE X md P o mo) (h:VE X md P e m)
  (hbase:attributeBase o "append" X.env (eval o X.env)=eval o X.env:=by rfl)
  (hfew:((backTo cpos (starEach [e] X.env)).all (fun x=>!x.1)&&(backToKw cpos (keywordEach [] X.env)).all (fun x=>x.1.isSome)&&decide ([e].length+([]:List Keyword).length+(if ([]:List Keyword).isEmpty then 0 else 1) < 30))=true:=by rfl)
  (hline:(apos.endLine == cpos.line)=true:=by rfl) (hs:starEach [e] X.env=(false,eval e X.env)::starEach [] X.env:=by exact Qa7 rfl) (hplain:(backTo cpos (starEach [] X.env)).any (·.1)=false:=by exact Qbb rfl)
  (hsw:swapsWith (.Call (.Attribute o "append" apos) [e] [] cpos) none pos.line X.env=pure false:=by rfl) :
  VS X md P R (.Expr (.Call (.Attribute o "append" apos) [e] [] cpos) pos) (QfT mo m) :=
 (Qh3 (Qml PySem.F.plainAttrs_list PySem.F.slot_list_append PySem.F.type_list_append QlK ho (QbY h Qc6 hs) hbase hfew hline hs hplain) hsw).imp fun D σ H q=>by
  obtain ⟨ρ,O,F,as,r,s,k⟩:=q;unfold QfT at k;split at k
  ·rename_i n O1 e1;split at k
   ·rename_i ds0 e2;split at k
    ·rename_i d O2 e3;split at k
     ·rename_i ds e4;split at k
      ·rename_i hz;refine ⟨ρ,O,F,as,_,_,r,s,e1,fun v H1 F1 as1 g1 r1 hv=>?_⟩;obtain ⟨a,rfl,ha⟩:=Rp.unO hv;obtain ⟨xs0,x1,x2⟩:=r1.ml ha e2;refine ⟨.inl ⟨rfl,xs0,.inl (.inl x1)⟩,ρ,O1,F1,as1,d,O2,r1,s.step g1,e3,fun y H2 F2 as2 g2 r2 hy=>?_⟩;have ha2:=g2.at_ n a ha;obtain ⟨xs,y1,y2⟩:=r2.ml ha2 e4;have g3:Gr H2 F2 as2 (upd H2 a (.lst (xs ++ [y]))) F2 as2:=Que (zN ha2) y1;exact ⟨a,xs,y,rfl,rfl,y1,by rw [y2.length]; exact zz hz (by decide),k σ _ F2 as2 ((g1.trans g2).trans g3).toS (r2.mutO ha2 (y2.snoc hy)) (s.step ((g1.trans g2).trans g3))⟩
      ·exact False.elim k
     ·exact False.elim k
    ·exact False.elim k
   ·exact False.elim k
  ·exact False.elim k
def Qcy (n:Nat) (all:List D) (g:MG) (b:MS):List D→MS
 | [],ρ,O=>match O[n]? with
  | some (.ml es)=>if es.length=all.length then .nx ρ O else .no
  | _=>.no
 | d::ds,ρ,O=>match O[n]? with
  | some (.ml es)=>match es[all.length - (ds.length+1)]? with
   | some d'=>match g d' ρ with
    | none=>.no
    | some ρ1=>match b ρ1 O with
     | .nx ρ2 O2=>Qcy n all g b ds ρ2 O2
     | .ct ρ2 O2=>Qcy n all g b ds ρ2 O2
     | .bk ρ2 O2=>.nx ρ2 O2
     | r=>r
   | none=>.no
  | _=>.no
def Qfr (m:M D) (g:MG) (b:MS):MS:=fun ρ O=>match m ρ O with
 | .ok (.ob n) O'=>match O'[n]? with
  | some (.ml ds)=>Qcy n ds g b ds ρ O'
  | _=>.no
 | .ok (.lst ds) O'=>Qa5 g b ds ρ O'
 | _=>.no
theorem QtW {K:Frag}{mg:Str→Option Value}{m:M D}{g:MG}{b:MS}{n:Nat}{ds:List D}{D:Ends}{σ:St}{H F:Hp}{as:List Addr}{ρ:Qal}{O O1:Qac} (r:RlO K mg O H F as) (s:SlO K md P ρ σ H F as) (e:m ρ O = .ok (.ob n) O1) (e2:O1[n]? = some (.ml ds))
  (k:QeU K mg md P R D H F as (Qcy n ds g b ds ρ O1)):Qm3 (QsQ K (tM K mg md P (rW K P) m)) (tMG K mg md P g) (tMS K mg md P R b) D σ H:=by
 refine ⟨ρ,O,F,as,_,_,r,s,e,fun v H1 F1 as1 g1 r1 hv=>?_⟩
 have hv':Rp K F1 as1 v (.ob n):=by
  rcases hv with hv | ⟨a,xs,ds',_,z,_⟩
  ·exact hv
  ·cases z
 obtain ⟨a,rfl,ha⟩:=Rp.unO hv';obtain ⟨xs0,x1,x2⟩:=r1.ml ha e2;have k1:=Qd1 (R:=R) g1.toS k;refine ⟨a,rfl,⟨xs0,.inl (.inl x1)⟩,fun i m σ' H'=>m=ds.length - i∧i≤ds.length∧∃ρ' O' F' as',GrS P H1 F1 as1 H' F' as'∧RlO K mg O' H' F' as'∧SlO K md P ρ' σ' H' F' as'∧QeU K mg md P R D H' F' as' (Qcy n ds g b (ds.drop i) ρ' O'),⟨ds.length,by simp,Nat.zero_le _,ρ,O1,F1,as1,GrS.refl,r1,s.step g1,by rw [List.drop_zero]; exact k1⟩,?_⟩;rintro i t σ' H' ⟨rfl,hi,ρ',O',F',as',g',r',s',k'⟩;have ha':=g'.at_ n a ha
 by_cases hlt:i < ds.length
 ·rw [List.drop_eq_getElem_cons hlt] at k';unfold Qcy at k';split at k'
  ·rename_i es ee;obtain ⟨xs,y1,y2⟩:=r'.ml ha' ee
   have hidx:ds.length - ((ds.drop (i+1)).length+1)=i:=by rw [List.length_drop]; omega
   rw [hidx] at k';split at k'
   ·rename_i d' ed;obtain ⟨x,hx,rx⟩:=y2.get' ed;have hsq:SqL K H' a xs:=.inl (.inl y1);refine .inr ⟨⟨xs,x,hsq,hx⟩,fun σ2 H2=>∃ρ2 O2 F2 as2,GrS P H1 F1 as1 H2 F2 as2∧RlO K mg O2 H2 F2 as2∧SlO K md P ρ2 σ2 H2 F2 as2∧QeU K mg md P R D H2 F2 as2 (Qcy n ds g b (ds.drop (i+1)) ρ2 O2),fun σ2 H2 h2=>⟨ds.length - (i+1),by omega,rfl,hlt,h2⟩,fun x' H3 y=>?_⟩;obtain ⟨rfl,hy⟩:=y;have hxx:=hy xs hsq;rw [hx] at hxx;cases hxx;split at k'
    ·exact False.elim k'
    ·rename_i ρ1 eg;refine ⟨ρ',O',F',as',d',ρ1,r',s',rx,eg,fun σ4 s4=>?_⟩;refine ⟨ρ1,O',F',as',r',s4,?_⟩
     cases eb:b ρ1 O' with
     | nx ρ2 O2 =>
      rw [eb] at k'
      exact fun σ2 H2 F2 as2 g2 r2 s2=>⟨ρ2,O2,F2,as2,g'.trans g2,r2,s2,Qd1 g2 k'⟩
     | ct ρ2 O2 =>
      rw [eb] at k'
      exact fun σ2 H2 F2 as2 g2 r2 s2=>⟨ρ2,O2,F2,as2,g'.trans g2,r2,s2,Qd1 g2 k'⟩
     | bk ρ2 O2 =>
      rw [eb] at k'
      exact fun σ2 H2 F2 as2 g2 r2 s2=>k' σ2 H2 F2 as2 g2 r2 s2
     | rt d O2 =>
      rw [eb] at k'
      exact fun v H2 F2 as2 g2 r2 s2=>k' v H2 F2 as2 g2 r2 s2
     | ex _ _=>rw [eb] at k'; exact False.elim k'
     | no=>rw [eb] at k'; exact False.elim k'
   ·exact False.elim k'
  ·exact False.elim k'
 ·have hi':i=ds.length:=by omega
  subst hi';rw [List.drop_length] at k';unfold Qcy at k';split at k'
  ·rename_i es ee;split at k'
   ·rename_i hl;obtain ⟨xs,y1,y2⟩:=r'.ml ha' ee;exact .inl ⟨⟨xs,.inl (.inl y1),by rw [y2.length,hl]; exact zc _⟩,k' σ' H' F' as' GrS.refl r' s'⟩
   ·exact False.elim k'
  ·exact False.elim k'
theorem QoR {tg iter:Expr}{body:List Stmt}{pos:Pos}{m:M D}{g:MG}{b:MS} (hc:X.calm=true) (hi:WE X md P iter m) (hg:VG X md P tg g) (hb:VSs X md P R body b) (hp:PassesOwn (model X.prog X.w) X.A X.env X.xe:=by exact PassesOwn.never)
  (hs:∀x,foldedSetIterable iter X.env x=pure x:=by intro _; rfl):VS X md P R (.For tg iter body [] pos) (Qfr m g b):=fun pins s σ H D I q=>by
 obtain ⟨ρ,O,F,as,r,sl,k⟩:=q;unfold Qfr at k;split at k
 ·rename_i n O1 e1;split at k
  ·rename_i ds e2;exact QkF hp hc (QjD hi) hg hb hs pins s σ H D I (QtW r sl e1 e2 k)
  ·exact False.elim k
 ·rename_i ds O1 e1;refine Qh2 hc (Qoj hi) hg hb hp hs pins s σ H D I ⟨ρ,O,F,as,r,sl,?_⟩;unfold Qct
  have:QdV m ρ O = .ok ds O1:=by unfold QdV; rw [e1]; rfl
  rw [this];exact k
 ·exact False.elim k
end
def Qpk (K:Frag) (mg:Str→Option Value) (x:Str) (ls:List (List Nat)):Prop:=∃(a:Addr) (o:Obj) (its:Array Value) (n:Nat),mg x=some (.ref a)∧K.lookup a=some o∧o.cls = .type "tuple"∧o.data = .seq its n∧its.size≤sizeLine∧QaB (ls.map fun l=>V.str (S l)) its.toList
theorem Rps.texts {K:Frag}{F:Hp}{as:List Addr}:∀ls:List (List Nat),Rps K F as (ls.map fun l=>V.str (S l)) (ls.map D.str)
 | []=>Rps.nil
 | l::ls=>Rps.cons Rp.str (Rps.texts ls)
theorem Qou {X:Cx}{md:List Md}{P:Pt}{x:Str}{ls:List (List Nat)}{pos:Pos} (h:Qpk X.K X.mg x ls) (hg:Gl X x:=by rfl) (hdb:(x == ("__debug__":Str))=false:=by decide):VE X md P (.Name x pos) (mC (.tup (ls.map D.str))):=by
 obtain ⟨a,o,its,n,hm,hk,h1,h2,h3,h4⟩:=h
 refine (Qm4 (v:=.ref a) ⟨_,hm,rfl⟩ hg hdb).imp fun σ H Q q=>?_
 obtain ⟨ρ,O,F,as,d,O',r,s,e,k⟩:=q;cases e;exact k _ H F as Gr.refl r (Rp.mkT (.inr ⟨o,its,n,hk,h1,h2,h3,h4⟩) (Rps.texts ls))
theorem QbG {α:Type}{p:List α→Prop} (h:p []):∀us:List α,us.length=0→p us:=fun us e=>by
 cases us with
 | nil=>exact h
 | cons a as=>cases e
theorem Qa1 {α:Type}{p:List α→Prop}{n:Nat} (h:∀a,∀us:List α,us.length=n→p (a::us)):∀us:List α,us.length=n+1→p us:=fun us e=>by
 cases us with
 | nil=>cases e
 | cons a as=>exact h a as (Nat.succ.inj e)
section
variable {prog:Program}{w:World}{κ:Type} [DecidableEq κ] {knd:HeapKind prog w κ}{A:Around}{E:Value→Shared→Prop}{s:Shared}
end
section
variable {X:Cx}{pins:List (Addr×Obj)}{σ:St}{H:Hp}{s:Shared}{a b:Addr}{v:V}{r:Value}{kvs:List (List Key×V)}{k:List Key}{A:Around}{E:Value→Shared→Prop}
end
def Qps:List D→Option (List Key)
 | []=>some []
 | .int i::ds=>(Qps ds).map (Sum.inl i :: ·)
 | _=>none
theorem Rps.keys {K:Frag}{F:Hp}{as:List Addr}:∀{ds:List D}{xs:List V}{ks:List Key},Rps K F as xs ds→Qps ds=some ks→xs=ks.map kV∧∃is:List Int,ks=is.map Sum.inl
 | [],xs,ks,h,e=>by cases e; exact ⟨h.un0,[],rfl⟩
 | .int i::ds,xs,ks,h,e=>by
  obtain ⟨x,r,rfl,h1,h2⟩:=h.un;obtain ⟨ks',e1,rfl⟩:=Option.map_eq_some_iff.mp (show (Qps ds).map (Sum.inl i :: ·)=some ks from e);obtain ⟨q1,is,rfl⟩:=Rps.keys h2 e1;exact ⟨by rw [h1.unI,q1]; rfl,i::is,rfl⟩
 | .non::ds,xs,ks,h,e=>by cases e
 | .bl _::ds,xs,ks,h,e=>by cases e
 | .str _::ds,xs,ks,h,e=>by cases e
 | .lst _::ds,xs,ks,h,e=>by cases e
 | .tup _::ds,xs,ks,h,e=>by cases e
 | .dic _ _::ds,xs,ks,h,e=>by cases e
 | .ob _::ds,xs,ks,h,e=>by cases e
def Qlm (kvs:List (List Key×D)) (k:List Key):Option D:=(kvs.find? fun p=>decide (p.1=k)).map (·.2)
def QvB (kvs:List (List Key×D)) (k:List Key) (d:D):List (List Key×D) :=
 if (kvs.any fun p=>decide (p.1=k))=true then kvs.map (fun p=>if p.1=k then (p.1,d) else p) else kvs ++ [(k,d)]
def DtR (K:Frag) (F:Hp) (as:List Addr) (xs:List (List Key×V)) (kvs:List (List Key×D)):Prop:=xs.map (·.1)=kvs.map (·.1)∧Rps K F as (xs.map (·.2)) (kvs.map (·.2))
section
variable {K:Frag}{mg:Str→Option Value}{O:Qac}{H F H' F':Hp}{as as':List Addr}
theorem DtR.len {xs:List (List Key×V)}{kvs:List (List Key×D)} (h:DtR K F as xs kvs):xs.length=kvs.length:=by
 have:=congrArg List.length h.1
 simpa using this
theorem DtR.un {xs:List (List Key×V)}{p:List Key×D}{kvs:List (List Key×D)} (h:DtR K F as xs (p::kvs)):∃v r,xs=(p.1,v)::r∧Rp K F as v p.2∧DtR K F as r kvs:=by
 obtain ⟨h1,h2⟩:=h
 cases xs with
 | nil=>cases h1
 | cons x r =>
  obtain ⟨v,r',e,q1,q2⟩:=h2.un;cases e;rw [zf,zf] at h1;have q3:=(List.cons.inj h1).1;refine ⟨x.2,r,?_,q1,(List.cons.inj h1).2,q2⟩;rw [←q3]
theorem DtR.val {k:List Key}:∀{kvs:List (List Key×D)}{xs:List (List Key×V)},DtR K F as xs kvs→(Qlm kvs k=none∧Qew xs k=none)∨∃d v,Qlm kvs k=some d∧Qew xs k=some v∧Rp K F as v d
 | [],xs,h=>by
  have:=h.len
  cases xs with
  | nil=>exact .inl ⟨rfl,rfl⟩
  | cons=>cases this
 | p::kvs,xs,h=>by
  obtain ⟨v,r,rfl,h1,h2⟩:=h.un
  by_cases e:p.1=k
  ·exact .inr ⟨p.2,v,by simp [Qlm,List.find?_cons,e],Qg8 e,h1⟩
  ·rw [show Qlm (p::kvs) k=Qlm kvs k by simp [Qlm,List.find?_cons,e],Qg7 (p:=(p.1,v)) e];exact DtR.val h2
theorem DtR.any {k:List Key}:∀{kvs:List (List Key×D)}{xs:List (List Key×V)},DtR K F as xs kvs→(xs.any fun p=>decide (p.1=k))=kvs.any fun p=>decide (p.1=k)
 | [],xs,h=>by
  have:=h.len
  cases xs with
  | nil=>rfl
  | cons=>cases this
 | p::kvs,xs,h=>by
  obtain ⟨v,r,rfl,h1,h2⟩:=h.un;rw [List.any_cons,List.any_cons,DtR.any h2]
theorem DtR.repl {k:List Key}{v:V}{d:D} (hv:Rp K F as v d):∀{kvs:List (List Key×D)}{xs:List (List Key×V)},DtR K F as xs kvs →
  DtR K F as (xs.map fun p=>if p.1=k then (p.1,v) else p) (kvs.map fun p=>if p.1=k then (p.1,d) else p)
 | [],xs,h=>by
  have:=h.len
  cases xs with
  | nil=>exact ⟨rfl,Rps.nil⟩
  | cons=>cases this
 | p::kvs,xs,h=>by
  obtain ⟨u,r,rfl,h1,h2⟩:=h.un;obtain ⟨i1,i2⟩:=DtR.repl (k:=k) hv h2
  by_cases e:p.1=k
  ·rw [zf,zf,if_pos e,if_pos e];exact ⟨by rw [zf,zf,i1],Rps.cons hv i2⟩
  ·rw [zf,zf,if_neg e,if_neg e];exact ⟨by rw [zf,zf,i1],Rps.cons h1 i2⟩
theorem DtR.put {xs:List (List Key×V)}{kvs:List (List Key×D)} (h:DtR K F as xs kvs) (k:List Key) {v:V}{d:D} (hv:Rp K F as v d):DtR K F as (putK xs k v) (QvB kvs k d):=by
 unfold putK QvB;rw [h.any]
 split
 ·exact h.repl hv
 ·exact ⟨by rw [zO,zO,h.1]; rfl,by rw [zO,zO]; exact Rps.snoc h.2 hv⟩
theorem DtR.mono {xs:List (List Key×V)}{kvs:List (List Key×D)} (h:DtR K F as xs kvs) (e:Same F F') (ea:∀(n:Nat) (a:Addr),as[n]? = some a→as'[n]? = some a):DtR K F' as' xs kvs:=⟨h.1,Rps.mono e ea _ h.2⟩
theorem RlO.dt {n:Nat}{a:Addr}{kvs:List (List Key×D)} (r:RlO K mg O H F as) (hn:as[n]? = some a) (hO:O[n]? = some (.dt kvs)):∃xs,H a=some (.dT xs)∧DtR K F as xs kvs:=let ⟨xs,h1,h2,h3⟩:=r.ob n a _ hn hO; ⟨xs,h1,h2,h3⟩
theorem Gr.snoc {p:Addr}{o:HO} (hp:H p=none):Gr H F as (upd H p o) F (as ++ [p]) :=
 ⟨fun _ _ _ _ _=>rfl,Same.refl F,⟨[p],rfl,fun a h=>by rw [zr.mp h]; exact hp⟩,fun a u e _ _=>by rw [Qam (Qax e hp)]; exact e,fun a e=>by
  by_cases h:a=p
  ·subst h; exact hp
  ·rwa [Qam h] at e,fun a o' u e=>by rw [Qam (Qax e hp)]; exact e⟩
end
section
variable {X:Cx}{md:List Md}{P:Pt}{R:RR}
end
section
variable {X:Cx}
open Classical in
noncomputable def eqR (s:Shared) (x:PyData) (u:Value):Bool:=decide (∃d as,Reads s.heap u d as∧d.canLay0=true∧PyData.eqv d x=true)
open Classical in
theorem QyK {s:Shared}{x d:PyData}{u:Value}{as:List Addr} (h:Reads s.heap u d as) (hd:d.canLay0=true):eqR s x u=PyData.eqv d x:=by
 unfold eqR
 cases e:PyData.eqv d x with
 | true=>exact zV ⟨d,as,h,hd,e⟩
 | false =>
  refine zy fun ⟨d',as',h',hd',e'⟩=>?_
  rw [←SeqAt.Reads.unique d d' u as as' hd h h',e] at e';cases e'
end
section
variable {X:Cx}{md:List Md}{P:Pt}{R:RR}
end
section
variable {K:Frag}{mg:Str→Option Value}{O:Qac}{H F:Hp}{as:List Addr}
end
section
variable {X:Cx}{md:List Md}{P:Pt}{R:RR}
end
section
variable {X:Cx}{md:List Md}{P:Pt}{R:RR}
end
end L2
namespace L2
open PySem PySem.Spec PyProof.Rows PySem.W PySem.Calls
section
variable {prog:Program}{w:World}{A:Around}{E:Value→Shared→Prop}{s:Shared}{a:Addr}{vs out:List Value}{p:Array Nat}
def Keeps (s:Shared) (a:Addr) (h':Heap):Prop:=∀b o,b≠a→s.heap.get? b=some o→h'.get? b=some o
end
def Qp2 {α:Type} (cmp:Nat→Nat→Bool→Prop):KasT α→α→Prop
 | .ret a,r=>r=a
 | .ask i j k,r=>∃b,cmp i j b∧Qp2 cmp (k b) r
theorem Qp2.wp {α:Type}{cmp:Nat→Nat→Bool→Prop}{ask:Nat→Nat→(Bool→Shared→Prop)→Shared→Prop}{s:Shared} (hc:∀i j b,cmp i j b→∀C:Bool→Shared→Prop,C b s→ask i j C s) {G:α→Shared→Prop}{r:α} (hg:G r s):∀t:KasT α,Qp2 cmp t r→t.kasWp ask G s
 | .ret a,h=>by
  cases (show r=a from h);exact hg
 | .ask i j k,h=>by
  obtain ⟨b,h1,h2⟩:=h;exact hc i j b h1 _ (Qp2.wp hc hg (k b) h2)
section
variable {X:Cx}
theorem Rps.getD {K:Frag}{F:Hp}{as:List Addr}{ds:List D}{xs:List V} (h:Rps K F as xs ds) (i:Nat):Rp K F as (xs.getD i V.non) (ds.getD i .non):=by
 rw [jf,jf]
 cases e:ds[i]? with
 | none =>
  have:xs[i]? = none:=by
   rw [List.getElem?_eq_none_iff] at e ⊢;rw [h.length];exact e
  rw [this];exact Rp.non
 | some d =>
  obtain ⟨v,hv,r⟩:=h.get' e;rw [hv];exact r
end
structure QvC (mg:Str→Option Value):Prop extends Blt mg where
 sorted_:mg "sorted" = none
end L2
namespace L2
open PySem PySem.Spec PyProof.Rows
abbrev Qvi (h:Heap) (z TI TO T:Addr) (b:Bool):Prop :=
 h.get? z=some { cls:=.type "zip",dict:=none,data:=.fields #[rawInt T,.bool b,.bool false,.ref TI,.ref TO],slots:=#[] }
section
variable {prog:Program}{w:World}{A:Around}{E:Value→Shared→Prop}{s:Shared}
structure ZS (base:Nat) (h:Heap) (z TI TO i1 i2 l1 l2 S:Addr) (xs ys acc:Array Value) (c i:Nat):Prop where
 zi:(IsZip h z TI TO .none∧∃a b,IsPair h TO a b)∨∃T b o,Qvi h z TI TO T b∧h.get? T=some o∧T∉[z,TO,i1,i2,S]
 ti:IsPair h TI (.ref i1) (.ref i2)
 it1:h.IsListIter i1 l1 i
 it2:h.IsListIter i2 l2 i
 a1:h.IsList l1 xs
 a2:h.IsList l2 ys
 ls:h.get? S=some { cls:=.type "list",dict:=none,data:=.seq acc c,slots:=#[] }
 sz:acc.size=i
 tl:TO < h.objs.size
 nd:acc.toList.Nodup
 ts:∀(j:Nat) (v:Value),acc[j]? = some v→∃(T:Addr) (x y:Value),v=Value.ref T∧xs[j]? = some x∧ys[j]? = some y∧IsPair h T x y∧T∉[z,TO,i1,i2,S]∧base≤T
variable {R:PySem.Result→Shared→Prop}
end
theorem Un.more {fs ex:List Addr}{H H1:Hp}{h h':Heap}{a:Addr}{o:HO} (u:Un fs ex H H1 h h') (hp:h.objs.size≤a) (hn:H1 a=none):Un fs ex H (upd H1 a o) h h' where
 keep:=u.keep
 slot:=u.slot
 free:=fun b ob q n hx=>by rw [Qam (zl (zz (zd q) hp))]; exact u.free b ob q n hx
 there:=u.there
 tups:=fun b xs q=>by have z:=u.tups b xs q; rw [Qam (Qax z hn)]; exact z
 frzs:=fun b ob v q=>by have z:=u.frzs b ob v q; rw [Qam (Qax z hn)]; exact z
 tbls:=fun b ps q=>by obtain ⟨m,z⟩:=u.tbls b ps q; exact ⟨m,by rw [Qam (Qax z hn)]; exact z⟩
theorem HOk.more {P:Program}{w:World}{H:Hp}{h:Heap}{a:Addr}{o:HO} (x:HOk P w H h) (hn:H a=none) (new:Qb3 P w (upd H a o) h a o):HOk P w (upd H a o) h:=fun b u e=>by
 by_cases hb:b=a
 ·subst hb; rw [QaE] at e; cases e; exact new
 ·rw [Qam hb] at e
  exact (x b u e).stay (fun c v _ q=>q) (fun c q=>by rw [Qam (Qax q hn)]; exact q) fun c xs q=>by rw [Qam (Qax q hn)]; exact q
section
variable {X:Cx}
end
section
variable {X:Cx}{md:List Md}{P:Pt}
end
section
end
end L2
namespace L2
open PySem PySem.Spec PyProof.Rows PySem.W
section
variable {X:Cx}{md:List Md}{P:Pt}
end
end L2
namespace L2
open PySem PySem.Spec PyProof.Rows
section
variable {X:Cx}{md:List Md}{P:Pt}{R:RR}
variable {elts:List Expr}{x1:Nat}{tpos:Pos}{a elt:Expr}{ifs:List Expr}{scope:Scope}{p pos pe:Pos}{m:M D}{g:MG}{t:M Bool}{e:M D}
end
section
variable {X:Cx}{md:List Md}{P:Pt}{R:RR}{tg:Expr}
end
structure QzL (mg:Str→Option Value):Prop extends QvC mg where
 reversed_:mg "reversed" = none
end L2
namespace L2
open PySem PySem.Spec PyProof.Rows PySem.W
section
variable {prog:Program}{w:World}{A:Around}{E:Value→Shared→Prop}
end
section
variable {X:Cx}{md:List Md}{P:Pt}{R:RR}
end
section
variable {X:Cx}{tg:Expr}{md:List Md}{P:Pt}
end
section
variable {X:Cx}{pins:List (Addr×Obj)}{σ:List (Option V)}{H:Hp}{s:Shared}{a:Addr}{xs:List (List Key×V)}{o:Obj}
end
section
variable {prog:Program}{w:World}{A:Around}{E:Value→Shared→Prop}{s:Shared}
end
section
variable {K:Frag}{mg:Str→Option Value}{O:Qac}{H F:Hp}{as:List Addr}
theorem RlO.df {n:Nat}{a:Addr}{kvs:List (List Key×D)} (r:RlO K mg O H F as) (hn:as[n]? = some a) (hO:O[n]? = some (.df kvs)):∃o xs,H a=some (.frz o (.dT xs))∧DtR K F as xs kvs:=let ⟨o,xs,h1,h2,h3⟩:=r.ob n a _ hn hO; ⟨o,xs,h1,h2,h3⟩
end
section
variable {X:Cx}{md:List Md}{P:Pt}{R:RR}
end
section
variable {K:Frag}{mg:Str→Option Value}{md:List Md}{P:Pt}{ρ:Qal}{σ:St}{O:Qac}{H F H' F':Hp}{as as':List Addr}
end
section
variable {X:Cx}{md:List Md}{P:Pt}{R:RR}
end
section
variable {X:Cx}{md:List Md}{P:Pt}{R:RR}
end
section
variable {prog:Program}{w:World}
end
section
variable {X:Cx}{md:List Md}{P:Pt}{R:RR}
end
def Qlu (kvs:List (Key×D)) (k:Key):Option D:=(kvs.find? fun p=>decide (p.1=k)).map (·.2)
def Qut (kvs:List (Key×D)) (k:Key) (d:D):List (Key×D) :=
 if (kvs.any fun p=>decide (p.1=k))=true then kvs.map (fun p=>if p.1=k then (p.1,d) else p) else kvs ++ [(k,d)]
def DkR (K:Frag) (F:Hp) (as:List Addr) (xs:List (Key×V)) (kvs:List (Key×D)):Prop:=xs.map (·.1)=kvs.map (·.1)∧Rps K F as (xs.map (·.2)) (kvs.map (·.2))
section
variable {K:Frag}{mg:Str→Option Value}{O:Qac}{H F H' F':Hp}{as as':List Addr}
theorem DkR.len {xs:List (Key×V)}{kvs:List (Key×D)} (h:DkR K F as xs kvs):xs.length=kvs.length:=by
 have:=congrArg List.length h.1
 simpa using this
theorem DkR.un {xs:List (Key×V)}{p:Key×D}{kvs:List (Key×D)} (h:DkR K F as xs (p::kvs)):∃v r,xs=(p.1,v)::r∧Rp K F as v p.2∧DkR K F as r kvs:=by
 obtain ⟨h1,h2⟩:=h
 cases xs with
 | nil=>cases h1
 | cons x r =>
  obtain ⟨v,r',e,q1,q2⟩:=h2.un;cases e;rw [zf,zf] at h1;have q3:=(List.cons.inj h1).1;refine ⟨x.2,r,?_,q1,(List.cons.inj h1).2,q2⟩;rw [←q3]
theorem DkR.val {k:Key}:∀{kvs:List (Key×D)}{xs:List (Key×V)},DkR K F as xs kvs→(Qlu kvs k=none∧Qew xs k=none)∨∃d v,Qlu kvs k=some d∧Qew xs k=some v∧Rp K F as v d
 | [],xs,h=>by
  have:=h.len
  cases xs with
  | nil=>exact .inl ⟨rfl,rfl⟩
  | cons=>cases this
 | p::kvs,xs,h=>by
  obtain ⟨v,r,rfl,h1,h2⟩:=h.un
  by_cases e:p.1=k
  ·exact .inr ⟨p.2,v,by simp [Qlu,List.find?_cons,e],Qg8 e,h1⟩
  ·rw [show Qlu (p::kvs) k=Qlu kvs k by simp [Qlu,List.find?_cons,e],Qg7 (p:=(p.1,v)) e];exact DkR.val h2
theorem DkR.any {k:Key}:∀{kvs:List (Key×D)}{xs:List (Key×V)},DkR K F as xs kvs→(xs.any fun p=>decide (p.1=k))=kvs.any fun p=>decide (p.1=k)
 | [],xs,h=>by
  have:=h.len
  cases xs with
  | nil=>rfl
  | cons=>cases this
 | p::kvs,xs,h=>by
  obtain ⟨v,r,rfl,h1,h2⟩:=h.un;rw [List.any_cons,List.any_cons,DkR.any h2]
theorem DkR.repl {k:Key}{v:V}{d:D} (hv:Rp K F as v d):∀{kvs:List (Key×D)}{xs:List (Key×V)},DkR K F as xs kvs →
  DkR K F as (xs.map fun p=>if p.1=k then (p.1,v) else p) (kvs.map fun p=>if p.1=k then (p.1,d) else p)
 | [],xs,h=>by
  have:=h.len
  cases xs with
  | nil=>exact ⟨rfl,Rps.nil⟩
  | cons=>cases this
 | p::kvs,xs,h=>by
  obtain ⟨u,r,rfl,h1,h2⟩:=h.un;obtain ⟨i1,i2⟩:=DkR.repl (k:=k) hv h2
  by_cases e:p.1=k
  ·rw [zf,zf,if_pos e,if_pos e];exact ⟨by rw [zf,zf,i1],Rps.cons hv i2⟩
  ·rw [zf,zf,if_neg e,if_neg e];exact ⟨by rw [zf,zf,i1],Rps.cons h1 i2⟩
theorem DkR.put {xs:List (Key×V)}{kvs:List (Key×D)} (h:DkR K F as xs kvs) (k:Key) {v:V}{d:D} (hv:Rp K F as v d):DkR K F as (putK xs k v) (Qut kvs k d):=by
 unfold putK Qut;rw [h.any]
 split
 ·exact h.repl hv
 ·exact ⟨by rw [zO,zO,h.1]; rfl,by rw [zO,zO]; exact Rps.snoc h.2 hv⟩
theorem RlO.dk {n:Nat}{a:Addr}{kvs:List (Key×D)} (r:RlO K mg O H F as) (hn:as[n]? = some a) (hO:O[n]? = some (.dk kvs)):∃xs,H a=some (.dK xs)∧DkR K F as xs kvs:=let ⟨xs,h1,h2,h3⟩:=r.ob n a _ hn hO; ⟨xs,h1,h2,h3⟩
end
section
variable {X:Cx}{md:List Md}{P:Pt}{R:RR}
end
section
variable {X:Cx}{md:List Md}{P:Pt}{R:RR}
end
section
variable {X:Cx}{md:List Md}{P:Pt}{R:RR}
theorem QfK.int {K:Frag}{H F:Hp}{as:List Addr}{m:Md}{v:V}{a:Int} (h:QfK P K H F as m v (.int a)):v = .int a:=by
 cases m with
 | v=>exact (show Rp K F as v (.int a) from h).unI
 | s =>
  rcases h with h | ⟨_,_,_,_,h,_⟩
  ·exact h.unI
  ·cases h
 | o =>
  rcases h with ⟨_,h⟩ | ⟨_,_,_,_,h,_⟩
  ·exact h.unI
  ·cases h
end
end L2
namespace L2
open PySem PySem.Spec PyProof.Rows PySem.W PySem.Calls
def Qgw (ss:List Str) (x:Str):List Str:=if x∈ss then ss else ss ++ [x]
def QjF (es:Array (Int×Value)):List Str:=es.toList.map fun e=>strOf e.2
def Qpz (prog:Program) (w:World) (h:Heap) (a:Addr) (ss:List Str) (o:Obj) (es:Array (Int×Value)) (ep:Nat) (t:SetTable):Prop :=
 h.get? a=some o∧o.ExactSet∧o.data = .set es ep t∧ElemsOf (PySem.strKind prog w) es.toList∧(QjF es).Perm ss∧es.size < scanBound∧t.fits es.size=true∧(es.size=0∨t.plain=false)∧t.led = !w.params.followText "set-order"
def Qeo (prog:Program) (w:World) (h:Heap) (a:Addr) (ss:List Str):Prop:=∃o es ep t,Qpz prog w h a ss o es ep t
section
variable {prog:Program}{w:World}{A:Around}{E:Value→Shared→Prop}{s:Shared}{a:Addr}{ss:List Str}
theorem Qeo.at {h h':Heap} (x:Qeo prog w h a ss) (k:∀o,h.get? a=some o→h'.get? a=some o):Qeo prog w h' a ss :=
 let ⟨o,es,ep,t,h1,r⟩:=x; ⟨o,es,ep,t,k o h1,r⟩
theorem Qeo.len {h:Heap} (x:Qeo prog w h a ss):ss.length < scanBound:=by
 obtain ⟨o,es,ep,t,h1,h2,h3,h4,h5,h6,_⟩:=x;rw [←h5.length_eq];unfold QjF;rw [zD];exact h6
theorem QnY (t:SetTable) (es:Array (Int×Value)) (n:Nat) (h:t.plain=false):(relayAll t es n).2.1.plain=false:=by
 unfold relayAll
 split
 ·rename_i t' order e;dsimp only
  split
  ·unfold SetTable.relaid SetTable.laid at e
   cases q:SetTable.layClean (SetTable.sizeAbove n - 1) (Array.map (fun x=>x.fst) es) with
   | none=>rw [q] at e; cases e
   | some ow =>
    rw [q] at e;cases e;exact h
  ·rfl
 ·rfl
theorem QqK (t:SetTable) (es:Array (Int×Value)) (n:Nat):(relayAll t es n).2.1.led=t.led:=by
 unfold relayAll
 split
 ·rename_i t' order e;dsimp only
  split
  ·unfold SetTable.relaid SetTable.laid at e
   cases q:SetTable.layClean (SetTable.sizeAbove n - 1) (Array.map (fun x=>x.fst) es) with
   | none=>rw [q] at e; cases e
   | some ow =>
    rw [q] at e;cases e;rfl
  ·rfl
 ·rfl
theorem Qq0 (t:SetTable) (n:Nat):(t.orStandIn n).led=t.led:=by
 unfold SetTable.orStandIn
 split <;> rfl
theorem Qud (t:SetTable) (es:Array (Int×Value)) (h:Int) (x:Value):(layNew t es h x).2.1.led=t.led:=by
 unfold layNew
 split
 ·exact Qq0 _ _
 ·rfl
theorem QkC {h:Heap}{o:Obj}{es:Array (Int×Value)}{ep:Nat}{t:SetTable} (ho:h.get? a=some o) (hex:o.ExactSet) (hd:o.data = .set es ep t)
  {es':Array (Int×Value)}{t':SetTable} (hel:ElemsOf (PySem.strKind prog w) es'.toList) (hp:(QjF es').Perm ss) (hb:es'.size < scanBound) (hf:t'.fits es'.size=true) (hpl:t'.plain=false) (hled:t'.led = !w.params.followText "set-order") :
  (h.update a (Obj.putSet es' t')).get? a=some { o with data:=.set es' (ep+1) t' }∧Qeo prog w (h.update a (Obj.putSet es' t')) a ss:=by
 have hg:(h.update a (Obj.putSet es' t')).get? a=some { o with data:=.set es' (ep+1) t' }:=by
  have:=Heap.get?_update_self (Obj.putSet es' t') ho (by rw [putSet_of es' t' hd]; rfl)
  rw [putSet_of es' t' hd] at this; exact this
 exact ⟨hg,_,es',ep+1,t',hg,hex,rfl,hel,hp,hb,hf,.inr hpl,hled⟩
theorem Ql1 {g:Bool→Sem Unit} (hg:∀(b:Bool) (s₁:Shared) (Q':Unit→Shared→Prop),Q' () s₁→wpAny (model prog w) A (g b) Q' E s₁)
  {o:Obj}{es:Array (Int×Value)}{ep:Nat}{t:SetTable} (ho:s.heap.get? a=some o) (hex:o.ExactSet) (hd:o.data = .set es ep t)
  {es1:Array (Int×Value)}{t2:SetTable} (hel1:ElemsOf (PySem.strKind prog w) es1.toList) (hp1:(QjF es1).Perm ss) (hb1:es1.size < scanBound) (hf2:t2.fits es1.size=true) (hpl:t2.plain=false) (hled:t2.led = !w.params.followText "set-order") {wasDummy:Bool}{R:Option Bool→Shared→Prop}
  (h:∀h',Heap.SameBut a s.heap h'→Qeo prog w h' a ss→R (some true) { s with heap:=h' }) :
  wpAny (model prog w) A (do
    storeSet a es1 t2
    if (!wasDummy&&t2.tooFull)=true then do
      g (relayAll t2 es1 (SetTable.grown es1.size)).2.2
      storeSet a (relayAll t2 es1 (SetTable.grown es1.size)).1 (relayAll t2 es1 (SetTable.grown es1.size)).2.1
      pure (some true)
     else pure (some true)) R E s:=by
 refine za (wpAny_storeSet_of ho hd ?_ (fits_of_scanBound hb1));obtain ⟨ho1,hS1⟩:=QkC (prog:=prog) (w:=w) ho hex hd hel1 hp1 hb1 hf2 hpl hled;have hsb1:=Heap.SameBut.update s.heap a (Obj.putSet es1 t2)
 split
 ·have hp:=relayAll_perm t2 es1 (SetTable.grown es1.size);have hfr:=relayAll_fits t2 es1 (SetTable.grown es1.size);have hpr:=QnY t2 es1 (SetTable.grown es1.size) hpl;have hlr:=QqK t2 es1 (SetTable.grown es1.size)
  generalize hRl:relayAll t2 es1 (SetTable.grown es1.size)=Rl at hp hfr hpr hlr ⊢
  obtain ⟨es2,t3,gave2⟩:=Rl;dsimp only at hp hfr hpr hlr ⊢;have hel2:ElemsOf (PySem.strKind prog w) es2.toList:=hel1.perm hp
  have hsz:es2.size=es1.size:=by rw [←Array.length_toList,hp.length_eq,Array.length_toList]
  have hb2:es2.size < scanBound:=by rw [hsz]; exact hb1
  refine za (hg _ _ _ ?_);refine za (wpAny_storeSet_of ho1 rfl ?_ (fits_of_scanBound hb2));obtain ⟨_,hS2⟩:=QkC (prog:=prog) (w:=w) ho1 hex rfl hel2 ((hp.map _).trans hp1) hb2 hfr hpr (hlr.trans hled);exact zb (h _ (hsb1.trans (Heap.SameBut.update _ a _)) hS2)
 ·exact zb (h _ hsb1 hS1)
theorem QrW {x:Str}{tk:Tok}{Q:Bool→Shared→Prop} (hS:Qeo prog w s.heap a ss) (hroom:ss.length+1 < scanBound)
  (h:∀h' b,Heap.SameBut a s.heap h'→Qeo prog w h' a (Qgw ss x)→Q b { s with heap:=h' }) :
  wpAny (model prog w) A (setAddHashed a (.str x tk) ((PySem.strKind prog w).hash x)) Q E s:=by
 obtain ⟨o,es,ep,t,ho,hex,hd,hel,hp,hb,hf,hpl,hled⟩:=hS
 have hkey:(PySem.strKind prog w).is x (.str x tk)=true:=by
  show Value.isStrOf x (.str x tk)=true;simp [Value.isStrOf]
 have hlen:es.size=ss.length:=by rw [←hp.length_eq]; unfold QjF; rw [zD,Array.length_toList]
 have hb1:es.size+1 < scanBound:=by rw [hlen]; exact hroom
 have hsc:(Value.str x tk).scannable=true:=rfl
 have key:∀e∈es.toList,∀y,(PySem.strKind prog w).is y e.2=true↔strOf e.2=y:=fun e he y=>by
  obtain ⟨⟨k,hk,_⟩,_⟩:=hel e he;obtain ⟨t',ht⟩:=Value.isStrOf_shape hk;rw [ht];show Value.isStrOf y (.str k t')=true↔k=y;simp [Value.isStrOf]
 unfold setAddHashed setAddHashedIn;refine zF (za (wpAny_setState_of ho hd hf ?_));dsimp only;rw [byScan_of hsc hb hel];simp only [↓reduceIte];unfold setAddByScan;refine za ?_;refine za (zY ?_);refine za (wpAny_setScan_of hkey ho hd hf hel ?_)
 cases hr:List.findIdx? (fun e=>(PySem.strKind prog w).is x e.2) es.toList with
 | some j =>
  dsimp only;obtain ⟨hj,hpj,_⟩:=List.findIdx?_eq_some_iff_getElem.mp hr;have hx:x∈ss:=hp.mem_iff.mp (zZ.mpr ⟨es.toList[j],jm hj,(key _ (jm hj) x).mp hpj⟩);refine zb (zb ?_)
  have e:s = { s with heap:=s.heap }:=by cases s; rfl
  rw [e];exact h s.heap _ (Heap.SameBut.refl a s.heap) ⟨o,es,ep,t,ho,hex,hd,hel,by rw [Qgw,if_pos hx]; exact hp,hb,hf,hpl,hled⟩
 | none =>
  dsimp only
  have hx:x∉ss:=fun hx=>by
   obtain ⟨e,he,q⟩:=zZ.mp (hp.mem_iff.mpr hx)
   have:=List.findIdx?_eq_none_iff.mp hr e he
   rw [(key e he x).mpr q] at this;exact Bool.noConfusion this
  have hgw:∀(b:Bool) {s₁:Shared}{Q':Unit→Shared→Prop},Q' () s₁→wpAny (model prog w) A (match b with | true=>rule "set.scan.the-table-gave-way" | false=>pure ()) Q' E s₁ :=
   fun b s₁ Q' hq=>by cases b <;> first | exact zb hq | exact zY hq
  have hperm:=layNew_perm t es ((PySem.strKind prog w).hash x) (.str x tk);have hfits:=layNew_fits t es ((PySem.strKind prog w).hash x) (.str x tk);have hll:=Qud t es ((PySem.strKind prog w).hash x) (.str x tk)
  generalize hL:layNew t es ((PySem.strKind prog w).hash x) (.str x tk)=L at hperm hfits hll ⊢
  obtain ⟨es1,t1,wasDummy,gave⟩:=L;dsimp only at hperm hfits hll ⊢;rw [Array.toList_push] at hperm;have hel1:ElemsOf (PySem.strKind prog w) es1.toList:=(hel.push hkey hsc).perm hperm
  have hp1:(QjF es1).Perm (Qgw ss x):=by
   rw [Qgw,if_neg hx];refine (hperm.map fun e=>strOf e.2).trans ?_;rw [zO];exact hp.append_right _
  have hb1':es1.size < scanBound:=by rw [←Array.length_toList,hperm.length_eq,zu,Array.length_toList]; simpa using hb1
  refine za (hgw _ ?_)
  split
  ·refine za ?_;refine za (m:=hashByValue 8 (.str x tk)) (zb ?_);refine zb ?_;simp only [Bool.false_eq_true,↓reduceIte];refine Ql1 (t2:={ t1 with plain:=false }) ?_ ho hex hd hel1 hp1 hb1' (SetTable.fits_plain_off hfits) rfl (hll.trans hled) ?_
   ·intro b s₁ Q' hq; cases b <;> first | exact zb hq | exact zY hq
   ·intro h' hsb hS'; dsimp only; exact zb (h h' _ hsb hS')
  ·rename_i hnp;refine za (zb ?_);simp only [↓reduceIte];refine Ql1 ?_ ho hex hd hel1 hp1 hb1' hfits (by simpa using hnp) (hll.trans hled) ?_
   ·intro b s₁ Q' hq; cases b <;> first | exact zb hq | exact zY hq
   ·intro h' hsb hS'; dsimp only; exact zb (h h' _ hsb hS')
theorem isS (x:Str) (t:Tok):(PySem.strKind prog w).is x (.str x t)=true:=by
 show Value.isStrOf x (.str x t)=true;simp [Value.isStrOf]
theorem map_getD (ns:List Str):(List.range' 0 ns.length).map (fun i=>ns.getD i ⟨#[]⟩)=ns:=by
 apply List.ext_getElem
 ·simp
 ·intro i h1 h2;simp [jf,h2]
theorem QqI {R:Result→Shared→Prop}{I:Addr}{fp wr:List Addr}{G:Array GenState→Array GenState→Prop}{n:Nat}{P:Nat→Value→Prop}{St:Nat→Shared→Prop} (W:WalksS prog w A.in1 I fp wr G n P St) (S:Addr) (hSf:S∉fp)
  (val:Nat→Str) (hval:∀i v,P i v→∃t,v = .str (val i) t) (hb:n+1 < scanBound) :
  ∀(k i:Nat) (s:Shared) (ss:List Str),n - i=k→i≤n→St i s→ss.length≤i→Qeo prog w s.heap S ss →
   (∀s',Moved (S::wr) G s s'→Qeo prog w s'.heap S (((List.range' i (n - i)).map val).foldl Qgw ss)→R (.ok (.ret .none)) s') →
   codeAny (model prog w) A (.builtin "set.update.loop" ⟨[.ref S,.ref I],[]⟩) R s:=by
 have hSw:S∉wr:=fun h=>hSf (W.sub _ h)
 have hsub:∀b∈wr,b∈S::wr:=fun b hb=>zv _ hb
 intro k
 induction k with
 | zero =>
  intro i s ss hk hi hst hle hS hR
  have hin:i=n:=by omega
  subst hin;refine jg PyProof.Rows.F.entry_set_update_loop ?_;rw [Around.under_plainId PyProof.Rows.F.plain_set_update_loop _];show wpAny _ A.in1 (pyNext (.ref I) >>= _) _ _ s;refine za (W.done s _ _ hst fun s' hm=>?_);show wpAny _ A.in1 (ret Value.none) _ _ s';refine zb (hR s' (hm.mono hsub) ?_);rw [Nat.sub_self]
  exact hS.at fun o e=>hm.heap S _ hSw e
 | succ k ih =>
  intro i s ss hk hi hst hle hS hR
  have hlt:i < n:=by omega
  refine jg PyProof.Rows.F.entry_set_update_loop ?_;rw [Around.under_plainId PyProof.Rows.F.plain_set_update_loop _];show wpAny _ A.in1 (pyNext (.ref I) >>= _) _ _ s;refine za (W.item i s _ _ hlt hst fun v s' hP hst' hm=>?_);obtain ⟨t,rfl⟩:=hval i v hP
  have hS':Qeo prog w s'.heap S ss:=hS.at fun o e=>hm.heap S _ hSw e
  show wpAny _ A.in1 (holding [Value.str (val i) t] (setAdd S (.str (val i) t)) >>= _) _ _ s';refine za (zF ?_);unfold setAdd;refine zF ?_;refine za ((PySem.strKind prog w).pyHash (k:=val i) (isS _ _) ?_)
  refine QrW (s:={ s' with toks:=s'.toks+1 }) hS' (by omega) fun h' b hsb hS2=>?_
  refine zb ⟨plainId_quiet PyProof.Rows.F.plain_set_update_loop _,ih (i+1) _ (Qgw ss (val i)) (by omega) hlt (W.frame _ s' _ _ hst' (Nat.le_succ _) fun b hb o e=>?_) ?_ hS2 fun s'' hm'' hS''=>?_⟩
  ·rw [hsb.2 b (fun h:b=S=>hSf (by rw [←h]; exact hb))]; exact e
  ·unfold Qgw
   split
   ·omega
   ·rw [zu,zW]; omega
  ·refine hR s'' (Moved.trans W.gtrans ((hm.mono hsub).then_heap (Nat.le_succ _) fun b o hb e=>?_) hm'') ?_
   ·rw [hsb.2 b (fun h:b=S=>hb (by rw [h]; exact zB))]; exact e
   ·rw [show n - i=(n - (i+1))+1 by omega,List.range'_succ,zf,List.foldl_cons];exact hS''
theorem QsA (x:Value) {Q₁:Value→Shared→Prop}
  (h:Q₁ (.ref s.heap.objs.size) { s with heap:=s.heap.push { cls:=.type "set",dict:=none,data:=.set #[] 0 (.fresh 0 0 (!w.params.followText "set-order")) } }) :
  codeAny (model prog w) A (.call (.builtin "set.__new__") ⟨[.type "set",x],[]⟩) (wants Q₁ E) s:=by
 refine codeAny_of_tree ?_;show wpAny _ A.in1 (do checkBuiltinCall "set.__new__" ⟨[.type "set",x],[]⟩; again (.builtin "set.__new__" ⟨[.type "set",x],[]⟩)) _ _ s;refine za (zX (PySem.F.newCall_set_1 x) (zb ⟨plainId_quiet PySem.F.plain_set_new _,jg PySem.F.entry_set_new ?_⟩));rw [Around.under_plainId PySem.F.plain_set_new _];unfold Builtin.«set.__new__» Builtin.Frozenset.newClass;have hsub:=sub_set_self;obtain ⟨hp,g,d,tk,os⟩:=s;dsimp only
 wp_walk
 refine wpAny_askSetting (zb ?_);dsimp only;simp only [newObj];refine za (wpAny_alloc (zb ?_));exact zb h
theorem Qra {h:Heap}:Qeo prog w (h.push { cls:=.type "set",dict:=none,data:=.set #[] 0 (.fresh 0 0 (!w.params.followText "set-order")) }) h.objs.size [] :=
 ⟨_,#[],0,_,zL _ rfl,⟨rfl,rfl,rfl⟩,rfl,fun e he=>by simp at he,.nil,by decide,by rfl,.inl rfl,rfl⟩
set_option maxHeartbeats 8000000 in
theorem QtZ {l:Addr}{items:Array Value}{ns:List Str}{Q:Value→Shared→Prop}
  (hh:A.handled=none) (hl:s.heap.IsList l items) (hi:StrsAre items.toList ns) (hb:items.size+1 < scanBound)
  (h:∀(h':Heap) (tk:Nat),Qeo prog w h' s.heap.objs.size (ns.foldl Qgw []) →
   (∀b o,s.heap.get? b=some o→h'.get? b=some o)→Q (.ref s.heap.objs.size) { s with heap:=h',toks:=tk }) :
  wpAny (model prog w) A (call (.type "set") [.ref l]) Q E s:=by
 obtain ⟨c,tl,hmro⟩:=PySem.F.called_set.mro;have hmade:=PySem.F.called_set.made;have hsub:=PySem.F.called_set.sub;refine zQ (codeAny_of_tree ?_);show wpAny _ _ (callAny (.type "set") _) _ _ _;refine zb ⟨Code.quiet_builtin _ (by decide +kernel),jg PySem.F.entry_type_call ?_⟩;rw [Around.under_plain (weight_type_call_type "set" [.ref l] []) rfl];have h1:=PySem.F.called_set.notType;have h2:=PySem.F.called_set.canCreate;have hct:=PySem.F.typeCall_set_1 (.ref l)
 repeat (any_goals (first | assumption | wp_step))
 generalize hO:({ cls:=.type "set",dict:=none,data:=.set #[] 0 (.fresh 0 0 (!w.params.followText "set-order")) }:Obj)=O0
 refine codeAny_mono (QsA (.ref l) (E:=E) (Q₁:=fun obj s₁=>obj = .ref s.heap.objs.size∧s₁ = { s with heap:=s.heap.push O0 }) (by rw [hO]; exact ⟨rfl,rfl⟩)) fun r s₁ hr=>?_
 cases r with
 | error e=>exact hr
 | ok fl =>
  cases fl with
  | ret obj =>
   obtain ⟨rfl,rfl⟩:=hr
   have hfr:Qeo prog w (s.heap.push O0) s.heap.objs.size []:=by rw [←hO]; exact Qra
   have hS:(s.heap.push O0).get? s.heap.objs.size=some O0:=by rw [←hO]; exact zL _ rfl
   have hcls:O0.cls = .type "set":=by rw [←hO]
   have hdat:O0.data = .set #[] 0 (.fresh 0 0 (!w.params.followText "set-order")):=by rw [←hO]
   have hT:Shared.TypeIs { s with heap:=s.heap.push O0 } (.ref s.heap.objs.size) "set":=⟨_,hS,hcls⟩;have hli:=PySem.F.called_set.init.lookup;have hbi:=PySem.F.called_set.init.bind (.ref s.heap.objs.size)
   repeat (any_goals (first | assumption | wp_step))
   refine codeAny_mono (codeAny_call_builtin (R:=wants (fun r s₂=>r = .none∧∃h' tk,s₂ = { s with heap:=h',toks:=tk } ∧
     Qeo prog w h' s.heap.objs.size (ns.foldl Qgw []) ∧
     (∀b o,s.heap.get? b=some o→h'.get? b=some o)) E) PySem.F.called_set.init.plain PySem.F.entry_set_init (check_set_init_1 hT ?_)) fun r₂ s₂ hr₂=>?_
   ·subst hO;obtain ⟨ol,hol,hcl,nl,hdl⟩:=hl;obtain ⟨ocls,odict,odata,oslots⟩:=ol;simp only at hcl hdl;subst hcl; subst hdl;have hol':(s.heap.push { cls:=.type "set",dict:=none,data:=.set #[] 0 (.fresh 0 0 (!w.params.followText "set-order")) }).get? l=some { cls:=.type "list",dict:=odict,data:=.seq items nl,slots:=oslots }:=zk _ hol;have hsls:=PySem.F.sub_list_set;have hslf:=PySem.F.sub_list_frozenset
    have hne:(Value.type "list" == Value.type "dict")=false:=by decide
    have hl1:(s.heap.push { cls:=.type "set",dict:=none,data:=.set #[] 0 (.fresh 0 0 (!w.params.followText "set-order")) }).IsList l items:=⟨_,hol',rfl,nl,rfl⟩;unfold Builtin.«set.__init__» noKeywords Builtin.Frozenset.updateFrom
    generalize hPI:pyIter=PI
    wp_walk
    subst hPI;refine wpAny_pyIter_list hl1 ?_;refine za (wpAny_runValue ?_);have hlS:l < s.heap.objs.size:=zd hol
    have hh3:A.in1.in1.in1.handled=none:=by simp [hh]
    have hneI:l≠(s.heap.push { cls:=.type "set",dict:=none,data:=.set #[] 0 (.fresh 0 0 (!w.params.followText "set-order")) }).objs.size:=by
     rw [Heap.size_push]; exact zl (Nat.lt_succ_of_lt hlS)
    have hSf:s.heap.objs.size∉[(s.heap.push { cls:=.type "set",dict:=none,data:=.set #[] 0 (.fresh 0 0 (!w.params.followText "set-order")) }).objs.size,l]:=by
     rw [Heap.size_push]; simp only [zm,zr,List.not_mem_nil,or_false,not_or];exact ⟨zl (jd _),Nat.ne_of_gt hlS⟩
    have hnl:ns.length=items.size:=by rw [←hi.strs,zD,Array.length_toList]
    have hval:∀(i:Nat) (v:Value),items[i]? = some v→∃t,v = .str ((fun i=>ns.getD i ⟨#[]⟩) i) t:=fun i v hv=>by
     have hv':items.toList[i]? = some v:=by rw [Array.getElem?_toList]; exact hv
     obtain ⟨x,t,rfl⟩:=hi.all v (zN hv');refine ⟨t,?_⟩
     have hm:(items.toList.map strOf)[i]? = some x:=by rw [zJ,hv']; rfl
     rw [hi.strs] at hm;show Value.str x t=Value.str (ns.getD i ⟨#[]⟩) t;rw [jf,hm];rfl
    refine QqI ((Walks.list hh3 _ l hneI items).toS) s.heap.objs.size
     hSf (fun i=>ns.getD i ⟨#[]⟩) hval hb (items.size - 0) 0 _ [] (by omega) (Nat.zero_le _)
     ⟨⟨_,zL _ rfl,rfl,rfl⟩,(hl1.push _)⟩ (zc _) (Qra.at fun o e=>zk _ e) ?hR
    intro s' hm hS';rw [Nat.sub_zero,←hnl] at hS';rw [map_getD] at hS';obtain ⟨h',g',d',tk',os'⟩:=s';have eg:g'=s.gens:=hm.gens;have ed:d'=s.drawn:=hm.drawn;have eo:os'=s.os:=hm.os;subst eg; subst ed; subst eo;show wpAny _ _ _ _ _ _;refine zb ?_;show wpAny _ _ (ret Value.none) _ _ _;refine zb ⟨rfl,h',tk',rfl,hS',fun b o e=>?_⟩;have hb':=zd e;have hb1:b≠s.heap.objs.size:=zl hb'
    have hb2:b≠(s.heap.push { cls:=.type "set",dict:=none,data:=.set #[] 0 (.fresh 0 0 (!w.params.followText "set-order")) }).objs.size:=by
     rw [Heap.size_push]; exact zl (Nat.lt_succ_of_lt hb')
    exact hm.heap b o (by simp only [zm,zr,List.not_mem_nil,or_false,not_or]; exact ⟨hb1,hb2⟩) (zk _ (zk _ e))
   ·cases r₂ with
    | error e=>exact hr₂
    | ok fl₂ =>
     cases fl₂ with
     | ret r =>
      obtain ⟨rfl,h',tk,rfl,hS',hk'⟩:=hr₂
      repeat (any_goals (first | assumption | wp_step))
      exact h _ _ hS' hk'
     | _=>exact hr₂.elim
  | _=>exact hr.elim
end
def ItS (h:Heap) (I a:Addr) (first:Value) (i n ep:Nat):Prop:=∃o,h.get? I=some o∧o.cls = .type "set_iterator"∧o.data = .fields #[first,.int i 0,.ref a,.int n 0,.int ep 0]
section
variable {prog:Program}{w:World}{A:Around}{E:Value→Shared→Prop}{s:Shared}{a:Addr}{ss:List Str}{o:Obj}{es:Array (Int×Value)}{ep:Nat}{t:SetTable}
theorem ItS.typeIs {I:Addr}{first:Value}{i n:Nat} (h:ItS s.heap I a first i n ep):s.TypeIs (.ref I) "set_iterator":=let ⟨o,h1,h2,_⟩:=h; ⟨o,h1,h2⟩
end
section
variable {prog:Program}{w:World}{A:Around}{E:Value→Shared→Prop}{s:Shared}{a:Addr}{ss:List Str}{o:Obj}{es:Array (Int×Value)}{ep:Nat}{t:SetTable}
theorem ItS.at {h h':Heap}{I:Addr}{first:Value}{i n:Nat} (x:ItS h I a first i n ep) (e:∀o,h.get? I=some o→h'.get? I=some o):ItS h' I a first i n ep:=let ⟨o,ho,r⟩:=x; ⟨o,e _ ho,r⟩
theorem Qpz.at {h h':Heap} (x:Qpz prog w h a ss o es ep t) (e:∀o,h.get? a=some o→h'.get? a=some o):Qpz prog w h' a ss o es ep t:=⟨e _ x.1,x.2⟩
end
section
variable {X:Cx}
variable {md:List Md}{P:Pt}
end
structure QzM (mg:Str→Option Value):Prop extends QvC mg where
 set_:mg "set" = none
section
variable {prog:Program}{w:World}{A:Around}{E:Value→Shared→Prop}{s:Shared}{K:Frag}{H F:Hp}{as:List Addr}
end
section
variable {X:Cx}
end
end L2
namespace L2
open PySem PySem.Spec PyProof.Rows
section
variable {X:Cx}{md:List Md}{P:Pt}{R:RR}
end
section
variable {X:Cx}{md:List Md}{P:Pt}
variable {tg iter elt:Expr}{ifs:List Expr}{scope:Scope}{pos:Pos}{mi:M D}{g:MG}{t:M Bool}{e:M D}
end
end L2
namespace L2
open PySem PySem.Spec PyProof.Rows PySem.W
def CXE (Pr:Program) (w:World):CXT:=fun outer H s E e s'=>∃(ea C:Addr) (H':Hp) (B:Heap) (a0:Value),e = .ref ea∧s'.os=s.os∧AllBare s'.gens∧Un (frs outer) [] H H' s.heap s'.heap∧HOk Pr w H' s'.heap ∧
 Heap.FlyingW B outer ea (.ref C) a0 s'.heap∧(∀b u,H' b=some u→∃o,B.get? b=some o)∧(∀b o,s.heap.get? b=some o→b∉frs outer→∃o',B.get? b=some o')∧E (.ref C) none H'
section
variable {X:Cx}{md:List Md}{P:Pt}{R:RR}
def Qpj (K:Frag) (mg:Str→Option Value) (md:List Md) (P:Pt) (R:RR) (W:Xc→Hp→Prop) (D:Ends) (H F:Hp) (as:List Addr):Fl→Prop
 | .ex x O'=>∀H' F' as',GrS P H F as H' F' as'→RlO K mg O' H' F' as'→W x H'
 | f=>QeU K mg md P R D H F as f
theorem Qpj.gr {K:Frag}{mg:Str→Option Value}{W:Xc→Hp→Prop}{D:Ends}{H F H' F':Hp}{as as':List Addr}{f:Fl} (g:GrS P H F as H' F' as') (h:Qpj K mg md P R W D H F as f):Qpj K mg md P R W D H' F' as' f:=by
 cases f with
 | ex x O'=>exact fun H2 F2 as2 g2 r2=>h H2 F2 as2 (g.trans g2) r2
 | nx ρ' O'=>exact fun σ' H2 F2 as2 g2 r2 s2=>h σ' H2 F2 as2 (g.trans g2) r2 s2
 | bk ρ' O'=>exact fun σ' H2 F2 as2 g2 r2 s2=>h σ' H2 F2 as2 (g.trans g2) r2 s2
 | ct ρ' O'=>exact fun σ' H2 F2 as2 g2 r2 s2=>h σ' H2 F2 as2 (g.trans g2) r2 s2
 | rt d O'=>exact fun v H2 F2 as2 g2 r2 s2=>h v H2 F2 as2 (g.trans g2) r2 s2
 | no=>exact h
def msN (m:MS):MS:=fun ρ O=>match m ρ O with
 | .ex _ _=>.no
 | f=>f
def Qfc (t:M Bool) (a b:MS):MS:=fun ρ O=>match t ρ O with
 | .ok v O'=>if v=true then a ρ O' else b ρ O'
 | _=>.no
end
def bmV:List Value:=[.type "ValueError",.type "Exception",.type "BaseException",.type "object"]
def QrU (K:Frag) (mg:Str→Option Value) (c:Str):Prop:=∃C,mg c=some (.ref C)∧excIn K C bmV "ValueError.__new__" = true
theorem Qtg {K:Frag}{h:Heap}{C:Addr}{id:String} (hK:K.In h) (hq:excIn K C bmV id=true) :
  ∃bm N nm qn bs hd sn sub ab col dd k0 k1 k2 k3 k5 mN,h.get? C=some (excClassObj nm qn C N bs bm hd sn sub ab col dd k0 k1 k2 k3 k5 id)∧h.Ns N mN∧mN "__init__" = none∧OwnTail h bmV bm:=by
 unfold excIn at hq;split at hq
 case h_2=>cases hq
 case h_1 dd cd sl lk =>
  split at hq
  case h_2=>cases hq
  case h_1 C1 bm k0 k1 k2 k3 nn k5 e1 e2 =>
   rw [zg,zg,zg,zg,zg] at hq;obtain ⟨⟨⟨⟨⟨p1,p2⟩,p3⟩,p4⟩,p5⟩,p6⟩:=hq;have q1:C1=C:=beq_iff_eq.mp p1;have q2:nn=id:=beq_iff_eq.mp p2;subst q1;subst q2
   rcases cd with ⟨nm,bs,mro,ns,qn,hd,sn,sub,ab,col,del⟩
   have e1':mro = .ref C1::bm:=e1
   have p3':del=false:=by
    have z:(!del)=true:=p3
    cases del with
    | false=>rfl
    | true=>cases z
   subst e1';subst p3'
   rcases sl with ⟨ls⟩
   have e2':ls = [k0,k1,k2,k3,some (.builtin nn),k5]:=e2;subst e2';exact ⟨bm,ns,nm,qn,bs,hd,sn,sub,ab,col,dd,k0,k1,k2,k3,k5,_,hK _ _ lk,.of_isNs (isNs_of_in hK p5),nsMap_none_of_in hK p5 (beq_iff_eq.mp p6),tail_of_in hK p4⟩
section
variable {X:Cx}{md:List Md}{P:Pt}{R:RR}
def QoA (c:Str):MS:=fun _ O=>.ex ⟨c,[]⟩ O
end
theorem Qb3.has {P:Program}{w:World}{H:Hp}{h:Heap}{a:Addr}{o:HO} (x:Qb3 P w H h a o):∃u,h.get? a=some u:=by
 cases o with
 | lst xs=>exact let ⟨_,_,_,_,e⟩:=x; ⟨_,e⟩
 | tup xs=>exact let ⟨_,_,_,_,e,_⟩:=x; ⟨_,e⟩
 | dK kvs=>exact let ⟨_,_,_,_,_,_,_,e,_⟩:=x; ⟨_,e⟩
 | dT kvs=>exact let ⟨_,_,_,_,_,_,_,e,_⟩:=x; ⟨_,e⟩
 | set S n=>exact let ⟨_,_,_,_,e,_⟩:=x; ⟨_,e⟩
 | ins C dx fs=>exact let ⟨_,_,_,e,_⟩:=x; ⟨_,e⟩
 | own y=>exact let ⟨_,e⟩:=x; ⟨_,e⟩
 | xd fs=>exact let ⟨_,⟨_,_,_,e,_⟩,_⟩:=x; ⟨_,e⟩
 | rng lo hi=>exact let ⟨_,_,_,e⟩:=x; ⟨_,e⟩
 | frz ob u=>exact ⟨_,x.1⟩
 | tbl ps=>exact ⟨_,x⟩
 | met f y=>exact ⟨_,x⟩
 | ext φ=>exact x.2.1
theorem HOk.only {P:Program}{w:World}{H:Hp}{h h':Heap} (x:HOk P w H h) (k:∀b v u,H b=some v→h.get? b=some u→h'.get? b=some u):HOk P w H h':=fun a o e =>
 (x a o e).stay (fun b u hb q=>by
  rcases hb with rfl | hb
  ·exact k _ _ u e q
  ·exact k b _ u hb q) (fun _ q=>q) fun _ _ q=>q
theorem Un.then {fs:List Addr}{H0 H:Hp}{h0 h1 h2:Heap} (u:Un fs [] H0 H h0 h1) (st:∀b o,h1.get? b=some o→b∉fs→(∃o',h0.get? b=some o')→h2.get? b=some o)
  (fr:∀b o,h1.get? b=some o→b∈fs→∃sl,h2.get? b=some { o with slots:=sl }):Un fs [] H0 H h0 h2 where
 keep:=fun b o q n nf nx=>st b o (u.keep b o q n nf nx) nf ⟨o,q⟩
 slot:=fun b o q n hb nx=>by
  obtain ⟨sl,e⟩:=u.slot b o q n hb nx;obtain ⟨sl2,e2⟩:=fr b _ e hb;exact ⟨sl2,e2⟩
 free:=u.free
 there:=fun b o q nx=>by
  obtain ⟨o',e⟩:=u.there b o q nx
  by_cases hb:b∈fs
  ·obtain ⟨sl,e2⟩:=fr b o' e hb;exact ⟨_,e2⟩
  ·exact ⟨o',st b o' e hb ⟨o,q⟩⟩
 tups:=u.tups
 frzs:=u.frzs
 tbls:=u.tbls
theorem Qre {l:List Env}{H H':Hp}{h0 h1 h2 B:Heap} (un:Un (frs l) [] H H' h0 h1) (hB:B.StaysIn h1) (ff:h1.FunFrames B l) (old:∀b o,h0.get? b=some o→b∉frs l→∃o',B.get? b=some o') (hB2:B.StaysIn h2) (up:h1.UpToSlots h2):Un (frs l) [] H H' h0 h2 :=
 Un.then un (fun b o q n z=>by
  obtain ⟨o0,z⟩:=z;obtain ⟨o',e⟩:=old b o0 z n;have e1:=hB b o' e;rw [q] at e1;cases e1
  exact hB2 b _ e) fun b o q z=>by
  obtain ⟨_,o',q',nf⟩:=ff.mem z;rw [q] at q';cases q';exact up b o q nf
theorem QqT {P:Program}{w:World}{H:Hp}{h1 h2 B:Heap} (hok:HOk P w H h1) (trk:∀b u,H b=some u→∃o,B.get? b=some o) (hB:B.StaysIn h1) (hB2:B.StaysIn h2):HOk P w H h2:=hok.only fun b v u e q=>by
 obtain ⟨o,e1⟩:=trk b v e;have e2:=hB b o e1;rw [q] at e2;cases e2;exact hB2 b _ e1
def QvW (P:Program) (w:World) (K:Frag) (mg:Str→Option Value) (base:Heap) (x:Str) (ps:List Str) (k:Nat) (sp:Sp):Prop :=
 ∃f fd,mg x=some (.ref f)∧keepIn K (.ref f)=true∧Binds K fd ps []∧QbH P w K mg base (CXE P w) k f fd ps sp∧∃oc od osl,K.lookup f=some ⟨oc,od,.func fd,osl⟩
def Qw0 (K:Frag) (mg:Str→Option Value) (R:RR) (H F:Hp) (as:List Addr) (Q:VK) (E:XK):Res D→Prop
 | .ok d O'=>∀v H' F' as',Gr H F as H' F' as'→RlO K mg O' H' F' as'→R (fun a=>H a=none) H' F' as' v d→Q v H'
 | .ex x O'=>∀C H' F' as',mg x.cls=some (.ref C)→Gr H F as H' F' as'→RlO K mg O' H' F' as'→E (.ref C) none H'
 | .no=>False
def Qp7 (K:Frag) (mg:Str→Option Value) (pm:List Md) (R:RR) (c:List D→Qac→Res D):Sp:=fun vs H Q E =>
 ∃ds O F as,RlO K mg O H F as∧QbV K H F as pm vs ds∧Qw0 K mg R H F as Q E (c ds O)
section
variable {Pr:Program}{w:World}{K:Frag}{mg:Str→Option Value}{base:Heap}
theorem QvW.can {x:Str}{ps:List Str}{k:Nat}{pm:List Md}{R:RR}{c:List D→Qac→Res D} (C:QvW Pr w K mg base x ps k (Qp7 K mg pm R c)) (hl:pm.length=ps.length:=by rfl):Can Pr w K mg base x ps k (vSp K mg pm R c):=by
 obtain ⟨f,fd,hm,hk,hb,Fn,lk⟩:=C;refine ⟨f,fd,hm,hk,hb,⟨fun vs H Q E h=>?_,fun A outer s H args us vs Q E hr e0 hbi r h=>?_⟩,lk⟩
 ·obtain ⟨ds,O,F,as,d,O',r,a,_⟩:=h;rw [a.len.1,hl]
 ·obtain ⟨ds,O,F,as,d,O',ro,a,e,q⟩:=h
  have z:Qp7 K mg pm R c vs H Q fun _ _ _=>False:=⟨ds,O,F,as,ro,a,by rw [e]; exact q⟩
  refine codeAny_mono (Fn.run A outer s H args us vs Q _ hr e0 hbi r z) fun res s' hq=>?_
  cases res with
  | error ev =>
   obtain ⟨_,_,_,_,_,_,_,_,_,_,_,_,_,f0⟩:=hq;exact f0.elim
  | ok fl=>cases fl <;> exact hq
end
section
variable {X:Cx}{pins:List (Addr×Obj)}{σ:St}{H:Hp}{s:Shared}{ea:Addr}{oe:Obj}
theorem Inv.gone {h':Heap}{m':Str→Option Value}{t':Nat} (I:Inv X pins σ H s) (hn:h'.Ns X.env.locals m') (hs:Heap.SameBut X.env.locals s.heap h'):Inv X pins (List.replicate X.N.length none) H { s with heap:=h',toks:=t' }:=by
 have ne:∀b o,X.s₀.heap.get? b=some o→b≠X.env.locals:=fun b o e=>zl (zz (zd e) I.ok.above)
 refine ⟨I.ok,I.os,I.bare,⟨fun b o e n hb hx=>(hs.2 b (ne b o e)).trans (I.base.keep b o e n hb hx),fun b o e n hb hx=>?_,I.base.free,fun b o e hx=>?_,I.base.tups,I.base.frzs,I.base.tbls⟩,⟨m',hn,fun i x v _ e2 _=>?_⟩,fun y c e=>?_,I.free,I.freeC,fun p hp=>?_,I.hok.only fun b v u e q=>(hs.2 b fun z=>?_).trans q,List.length_replicate⟩
 ·obtain ⟨sl,e1⟩:=I.base.slot b o e n hb hx;exact ⟨sl,(hs.2 b (ne b o e)).trans e1⟩
 ·obtain ⟨o',e1⟩:=I.base.there b o e hx;exact ⟨o',(hs.2 b (ne b o e)).trans e1⟩
 ·rw [List.getElem?_replicate] at e2
  split at e2 <;> cases e2
 ·obtain ⟨v,z⟩:=I.cell y c e;exact ⟨v,z.sameBut hs (I.cne y c e)⟩
 ·obtain ⟨e,n,nl,nf,d⟩:=I.pin p hp;exact ⟨(hs.2 p.1 nl).trans e,n,nl,nf,d⟩
 ·rw [z,I.free] at e;cases e
end
end L2
namespace L2
open PySem PySem.Spec PyProof.Rows PySem.W PySem.Calls PySem.Builtin PySem.Builtin.ObjectAttr PySem.Builtin.Getset_descriptor
section
variable {prog:Program}{w:World}{A:Around}{E:Value→Shared→Prop}{K:Frag}{a C:Addr}{o:Obj}{h:Heap}{g:Array GenState}{d:Drawn}{t:Nat}{os:OsState}
theorem QrD {R:Result→Shared→Prop}{tp:Value} (X:K.In h) (hx:h.get? a=some o) (hc:o.cls = .ref C) (hm:mroIn K C (.type "object")=some true) (hq:R (.ok (.ret (.ref C))) ⟨h,g,d,t,os⟩) :
  codeAny (model prog w) A (.call (.builtin "getset_descriptor.__get__") ⟨[.builtin "object.__class__",.ref a,tp],[]⟩) R ⟨h,g,d,t,os⟩:=by
 have L0:Looks (model prog w) h (typeOf (.ref a)) (.ref C):=hc ▸ (Looks.ld hx).andThen .now;have L1:=looks_mroIn (M:=model prog w) X hm;refine codeAny_call_builtin KF.slot_gs.plain KF.entry_gs (KF.slot_gs.check _ _ _ _ _ _ _ _ KF.type_class (KF.args_gs _ _ _) ?_); unfold Builtin.«getset_descriptor.__get__» descrGet;rw [dga_obj]; refine za (zb ?_);unfold descrGetter descrCheckInstance descrNameAndClass isInstance; simp only [KF.owner_class]
 repeat lk
 refine ⟨Code.quiet_builtin _ (by decide +kernel),jg KF.entry_class ?_⟩; unfold Builtin.«object.__class__» shownTypeOf
 repeat lk
 exact hq
structure QfB (K:Frag) (C:Addr):Prop where
 ga:findIn K (.ref C) "__getattribute__" = some (some (.builtin "BaseException.__getattribute__"))
 na:findIn K (.ref C) "__getattr__" = some none
 ca:findIn K (.ref C) "__class__" = some (some (.builtin "object.__class__"))
 sp:specialIn K (.builtin "object.__class__") "__get__" = some (some (.builtin "getset_descriptor.__get__"))
 tk:takesIn K (.builtin "object.__class__")=some true
 ob:mroIn K C (.type "object")=some true
 be:mroIn K C (.type "BaseException")=some true
 cl:(clsIn K C).isSome=true
theorem Qr5 {tk:Tok}{Q:Fin→Shared→Prop} (F0:QfB K C) (X:K.In h) (hx:h.get? a=some o) (hc:o.cls = .ref C) (hq:Q (.done (.ret (.ref C))) ⟨h,g,d,t,os⟩) :
  wpAny (model prog w) A (Builtin.«object.__getattribute__» ⟨[.ref a,.str "__class__" tk],[]⟩) Q E ⟨h,g,d,t,os⟩:=by
 have L0:Looks (model prog w) h (typeOf (.ref a)) (.ref C):=hc ▸ (Looks.ld hx).andThen .now;have L1:=looks_findIn (M:=model prog w) X F0.ca;have L2:=looks_specialIn (M:=model prog w) X F0.sp;have L3:=looks_takesIn (M:=model prog w) X F0.tk;unfold Builtin.«object.__getattribute__»;refine za (zX (a:=(Value.ref a,[Value.str "__class__" tk])) rfl ?_);dsimp only;refine za (zb ?_);refine za (L0.at ?_);unfold find getOf;refine za (za (L1.at (za (L2.at (za ?_)))));unfold dataDescriptor?;refine za (L3.at ?_);rw [if_pos rfl];refine zb ?_;dsimp only;refine za (zY (zb ?_));dsimp only;unfold bindTo;dsimp only
 refine za (zF (zQ (QrD X hx hc F0.ob ?_)));exact zb hq
theorem QlQ {nv:Value}{Q:Unit→Shared→Prop} (F0:QfB K C) (X:K.In h) (hx:h.get? a=some o) (hc:o.cls = .ref C) (hq:Q () ⟨h,g,d,t,os⟩):wpAny (model prog w) A (checkBuiltinCall "BaseException.__getattribute__" ⟨[.ref a,nv],[]⟩) Q E ⟨h,g,d,t,os⟩:=by
 have L4:Looks (model prog w) h (isInstance (.ref a) (.type "BaseException")) true:=(show Looks (model prog w) h (typeOf (.ref a)) (.ref C) from hc ▸ (Looks.ld hx).andThen .now).andThen (looks_mroIn X F0.be)
 have e1:builtinKind "BaseException.__getattribute__" = some .slot:=by decide +kernel
 have e2:splitId "BaseException.__getattribute__" = some ("BaseException","__getattribute__"):=by decide +kernel
 have e3:=PySem.F.args_bexc_ga (.ref a) nv;simp only [checkBuiltinCall,e1,e2];refine za (L4.at ?_);rw [if_neg (by decide)];exact zX (a:=()) e3 hq
theorem QqJ {Q:Option Value→Shared→Prop} (F0:QfB K C) (X:K.In h) (hx:h.get? a=some o) (hc:o.cls = .ref C) (hq:Q (some (.ref C)) ⟨h,g,d,t+1,os⟩) :
  wpAny (model prog w) A (getAttr? (.ref a) "__class__") Q E ⟨h,g,d,t,os⟩:=by
 have L0:Looks (model prog w) h (typeOf (.ref a)) (.ref C):=hc ▸ (Looks.ld hx).andThen .now;have L1:=looks_findIn (M:=model prog w) X F0.ga;have L2:=looks_findIn (M:=model prog w) X F0.na;have L4:Looks (model prog w) h (isInstance (.ref a) (.type "BaseException")) true:=L0.andThen (looks_mroIn X F0.be);have bnd:=PySem.F.attrBase_ValueError.ga.bind (.ref a)
 have hne:(onTheHeap (Value.ref C)&&Value.builtin "BaseException.__getattribute__" == Value.builtin "object.__getattribute__")=false:=by rw [show (Value.builtin "BaseException.__getattribute__" == Value.builtin "object.__getattribute__")=false by decide +kernel,Bool.and_false]
 unfold getAttr? getAttrBy? getAttrBy;refine za (wpAny_mkText ?_);refine za (wpAny_attempt (zF ?_));refine za (L0.at ?_);refine za (L1.at ?_);dsimp only;rw [if_neg (by rw [hne]; exact zh)];unfold getAttrByItsOwn;refine za ?_;unfold hookBefore;rw [if_pos (show onTheHeap (Value.ref C)=true from rfl)];refine L2.at ?_;refine za (wpAny_attempt (zF ?_));unfold callGetattribute;rw [if_neg (by decide)];unfold boundAndCalled;refine za (zX bnd ?_);refine zQ (codeAny_call_builtin PySem.F.attrBase_ValueError.ga.plain PySem.F.entry_bexc_ga (QlQ F0 X hx hc (Qr5 F0 X hx hc ?_)));show wpAny (model prog w) A (handedOut (.ref C)) _ _ _
 exact handed_on rfl (zb hq)
def HX (a C:Addr) (h:Heap):Prop:=∃o,h.get? a=some o∧o.cls = .ref C
theorem Qnx (F0:QfB K C):KitX K (.ref a) (.ref C) (HX a C) where
 ty:=fun _ _ _ p=>by
  obtain ⟨o,q1,q2⟩:=p;exact q2 ▸ (Looks.ld q1).andThen .now
 it:=fun _ _ X _=>by
  have z:=F0.cl;unfold clsIn at z;split at z
  case h_1 c1 d1 cd1 sl1 lk1=>exact fun A1 Q1 E1 s1 k1 q1=>by unfold isType loadHead; exact za (wpAny_loadPart (k1 _ _ (X _ _ lk1)) (zb q1))
  case h_2=>cases z
 ne:=fun h tp dd its n sl X p=>by
  cases e:(Value.ref C == Value.ref tp) with
  | false=>rfl
  | true =>
   have e':C=tp:=Value.ref.inj (beq_iff_eq.mp e);subst e';have z:=F0.cl;unfold clsIn at z;split at z
   case h_1 =>
    have y:=X _ _ ‹_›;rw [p] at y;cases y
   case h_2=>cases z
 ca:=fun {_ _ _ _ _ s} X p k=>by
  obtain ⟨o,q1,q2⟩:=p;obtain ⟨h,g,d,t,os⟩:=s;exact QqJ F0 X q1 q2 k
end
end L2
namespace L2
open PySem PySem.Spec PyProof.Rows PySem.W
section
variable {X:Cx}{ea C:Addr}{oe:Obj}
def QpM:V→Option Value
 | .ref a=>some (.ref a)
 | .ty n=>some (.type n)
 | _=>none
theorem Qny {v:V}{u c:Value} (h:RelV v u) (e:QpM v=some c):u=c:=by
 cases v <;> cases e <;> exact h
def QjH:List V→Option (List Value)
 | []=>some []
 | v::vs=>(QpM v).bind fun c=>(QjH vs).map (c :: ·)
theorem Ql7:∀{vs:List V}{us cs:List Value},QaB vs us→QjH vs=some cs→us=cs
 | [],_,_,.nil,e=>by cases e; rfl
 | v::vs,_,_,.cons r t,e=>by
  obtain ⟨c,e1,e2⟩:=Option.bind_eq_some_iff.mp e;obtain ⟨l,e3,rfl⟩:=Option.map_eq_some_iff.mp e2;rw [Qny r e1,Ql7 t e3]
end
section
variable {X:Cx}{md:List Md}{P:Pt}{R:RR}
end
section
variable {X:Cx}{ea C:Addr}{oe:Obj}{i:Nat}{b:Bool}{n:Str}{p p1 pos:Pos}
def QhU (X:Cx):List Expr→List V→Prop
 | [],vs=>vs = []
 | e::es,vs=>∃v r,vs=v::r∧(∀Y:Cx,Y.env=X.env→Y.mg=X.mg→PE Y e (tC v))∧starEach (e::es) X.env=(false,eval e X.env)::starEach es X.env∧QhU X es r
end
end L2
namespace L2
open PySem PySem.Spec PyProof.Rows
section
variable {X:Cx}
variable {md:List Md}{P:Pt}
end
end L2
namespace L2
open PySem PySem.Spec PyProof.Rows PySem.W
section
variable {prog:Program}{w:World}{A:Around}{E:Value→Shared→Prop}
end
section
variable {X:Cx}{md:List Md}{P:Pt}{R:RR}
end
def Qfu (mg:Str→Option Value):List Str→List Addr→Prop
 | [],as=>as = []
 | n::ns,as=>∃a r,as=a::r∧mg n=some (.ref a)∧Qfu mg ns r
theorem Qk8:∀as:List Addr,QjH (as.map V.ref)=some (as.map Value.ref)
 | []=>rfl
 | a::as=>by
  show QjH (V.ref a::as.map V.ref)=_;unfold QjH;rw [Qk8 as];rfl
theorem Qfu.len {mg:Str→Option Value}:∀{ns:List Str}{as:List Addr},Qfu mg ns as→as.length=ns.length
 | [],as,h=>by
  have h':as = []:=h;rw [h'];rfl
 | n::ns,as,h=>by
  obtain ⟨a,r,rfl,_,h2⟩:=h;rw [zq,h2.len,zq]
section
variable {X:Cx}{md:List Md}{P:Pt}{R:RR}
theorem Qti:∀as,Qfu X.mg [] as→QhU X [] (as.map V.ref):=fun as h=>by
 have h':as = []:=h;subst h';exact rfl
theorem Qd7 {n:Str}{ns:List Str}{es:List Expr}{p:Pos} (h:∀as,Qfu X.mg ns as→QhU X es (as.map V.ref)) (hg:Gl X n:=by rfl) (hd:(n == ("__debug__":Str))=false:=by decide) (hs:starEach (.Name n p::es) X.env=(false,eval (.Name n p) X.env)::starEach es X.env:=by rfl) :
  ∀as,Qfu X.mg (n::ns) as→QhU X (.Name n p::es) (as.map V.ref):=fun as z=>by
 obtain ⟨a,r,rfl,hm,z⟩:=z;exact ⟨.ref a,_,rfl,fun Y e1 e2=>Qls (show Y.env.kindOf n=_ by rw [e1]; exact hg) (by rw [e2]; exact hm) rfl hd,hs,h r z⟩
end
section
variable {X:Cx}{pins:List (Addr×Obj)}{σ:St}{H:Hp}{s:Shared}{ea:Addr}{oe:Obj}
theorem Inv.goneI {h':Heap}{m:Str→Option Value}{v:Option Value}{t' i:Nat}{n:Str} (I:Inv X pins σ H s) (hN:X.N.Nodup) (hi:X.N[i]? = some n)
  (hl:∀(i:Nat) (x:Str) (v:V),X.N[i]? = some x→σ[i]? = some (some v)→Vis X.env.scope x→∃u,RelV v u∧Look X.env s.heap m x u)
  (hn:h'.Ns X.env.locals (fun x=>if x=n then v else m x)) (hs:Heap.SameBut X.env.locals s.heap h'):Inv X pins (σ.set i none) H { s with heap:=h',toks:=t' }:=by
 have ne:∀b o,X.s₀.heap.get? b=some o→b≠X.env.locals:=fun b o e=>zl (zz (zd e) I.ok.above)
 refine ⟨I.ok,I.os,I.bare,⟨fun b o e n hb hx=>(hs.2 b (ne b o e)).trans (I.base.keep b o e n hb hx),fun b o e n hb hx=>?_,I.base.free,fun b o e hx=>?_,I.base.tups,I.base.frzs,I.base.tbls⟩,⟨_,hn,fun j x v' e1 e2 e3=>?_⟩,fun y c e=>?_,I.free,I.freeC,fun p hp=>?_,I.hok.only fun b v u e q=>(hs.2 b fun z=>?_).trans q,by rw [zR]; exact I.len⟩
 ·obtain ⟨sl,e1⟩:=I.base.slot b o e n hb hx;exact ⟨sl,(hs.2 b (ne b o e)).trans e1⟩
 ·obtain ⟨o',e1⟩:=I.base.there b o e hx;exact ⟨o',(hs.2 b (ne b o e)).trans e1⟩
 ·have hji:j≠i:=fun z=>by
   subst z;rw [zE (by rw [I.len]; exact (zj.mp hi).1)] at e2;cases e2
  rw [ze (Ne.symm hji)] at e2;obtain ⟨u,r,lk⟩:=hl j x v' e1 e2 e3;refine ⟨u,r,?_⟩
  have hxn:x≠n:=fun z=>by
   subst z;obtain ⟨q1,q2⟩:=zj.mp e1;obtain ⟨q3,q4⟩:=zj.mp hi
   rcases Nat.lt_trichotomy j i with q | q | q
   ·exact List.pairwise_iff_getElem.mp hN j i q1 q3 q (q2.trans q4.symm)
   ·exact hji q
   ·exact List.pairwise_iff_getElem.mp hN i j q3 q1 q (q4.trans q2.symm)
  rcases lk with ⟨k1,k2⟩ | ⟨k1,c,k2,k3⟩
  ·exact .inl ⟨k1,(if_neg hxn).trans k2⟩
  ·exact .inr ⟨k1,c,k2,k3.sameBut hs (I.cne x c k2)⟩
 ·obtain ⟨v,z⟩:=I.cell y c e;exact ⟨v,z.sameBut hs (I.cne y c e)⟩
 ·obtain ⟨e,n,nl,nf,d⟩:=I.pin p hp;exact ⟨(hs.2 p.1 nl).trans e,n,nl,nf,d⟩
 ·rw [z,I.free] at e;cases e
end
section
variable {X:Cx}{md:List Md}{P:Pt}{R:RR}
theorem SlO.drop {K:Frag}{ρ:Qal}{σ:St}{H F:Hp}{as:List Addr}{i:Nat}{x:Option V} (s:SlO K md P ρ σ H F as) (hm:md[i]? = some .v):SlO K md P (ρ.set i none) (σ.set i x) H F as:=by
 have hi:i < ρ.length:=by rw [s.len']; exact (zj.mp hm).1
 have ne:∀(j:Nat) (d:D),(ρ.set i none)[j]? = some (some d)→j≠i∧ρ[j]? = some (some d):=fun j d e=>by
  by_cases hj:j=i
  ·subst hj;rw [zE hi] at e;cases e
  ·rw [ze (Ne.symm hj)] at e;exact ⟨hj,e⟩
 refine ⟨by rw [zR]; exact s.len,by rw [zR]; exact s.len',s.pd,fun j m d e1 e2=>?_,fun j k a ds es h1 h2 h3 h4 h5 h6=>?_,fun y hy=>?_⟩
 ·obtain ⟨hj,e2⟩:=ne j d e2;rw [ze (Ne.symm hj)];exact s.sl j m d e1 e2
 ·obtain ⟨hj,h3⟩:=ne j _ h3;obtain ⟨hk,h4⟩:=ne k _ h4;rw [ze (Ne.symm hj)] at h5;rw [ze (Ne.symm hk)] at h6;exact s.inj j k a ds es h1 h2 h3 h4 h5 h6
 ·obtain ⟨p1,p2,p3⟩:=s.pin y hy
  have hne:i≠y.1:=fun z=>by rw [←z,hm] at p1; cases p1
  rw [ze hne,ze hne];exact ⟨p1,p2,p3⟩
end
section
variable {X:Cx}{ea C:Addr}{oe:Obj}{i ja jb:Nat}{b:Bool}{n na nb w1 w2:Str}{p p1 pos:Pos}
end
section
variable {X:Cx}{md:List Md}{P:Pt}{R:RR}
end
def DK (h h':Heap):Prop:=∀b o,h.get? b=some o→∃o',h'.get? b=some o'∧o'.dict=o.dict
theorem DK.refl (h:Heap):DK h h:=fun _ o e=>⟨o,e,rfl⟩
theorem DK.trans {h h' h2:Heap} (x:DK h h') (y:DK h' h2):DK h h2:=fun b o e=>by
 obtain ⟨o1,e1,q1⟩:=x b o e;obtain ⟨o2,e2,q2⟩:=y b o1 e1;exact ⟨o2,e2,q2.trans q1⟩
theorem DK.upd {h:Heap}{a:Addr}{f:Obj→Obj} (hf:∀o,o.isFreed=false→(f o).isFreed=false∧(f o).dict=o.dict):DK h (h.update a f):=fun b o e=>by
 by_cases z:a=b
 ·subst z;have hz:=(Heap.get?_some_iff.mp e).2;exact ⟨f o,Heap.get?_update_self f e (hf o hz).1,(hf o hz).2⟩
 ·exact ⟨o,(Heap.get?_update_other h f z).trans e,rfl⟩
def KD {α:Type}:Sem α→Prop
 | .pure _=>True
 | .raise _=>True
 | .unsupported _=>True
 | .finish _=>True
 | .rule _ k=>KD (k ())
 | .at _ k=>KD (k ())
 | .load _ _ k=>∀o,KD (k o)
 | .update _ _ f k=>(∀o,o.isFreed=false→(f o).isFreed=false∧(f o).dict=o.dict)∧KD (k ())
 | .alloc _ k=>∀a,KD (k a)
 | .loadIfAlive _ k=>∀o,KD (k o)
 | .point _ k=>KD (k ())
 | .fresh k=>∀t,KD (k t)
 | .ask k=>∀x,KD (k x)
 | .handled _ k=>∀v,KD (k v)
 | .stack k=>∀l,KD (k l)
 | .thread k=>∀n,KD (k n)
 | _=>False
theorem Qba {α β:Type}{t:Sem α}{f:α→Sem β} (h:KD t) (hf:∀a,KD (f a)):KD (t.bind f):=by
 induction t with
 | pure a=>exact hf a
 | raise | unsupported | finish=>trivial
 | rule _ k ih=>exact ih () h
 | «at» _ k ih=>exact ih () h
 | point _ k ih=>exact ih () h
 | load _ _ k ih=>exact fun o=>ih o (h o)
 | update _ _ g k ih=>exact ⟨h.1,ih () h.2⟩
 | alloc _ k ih=>exact fun o=>ih o (h o)
 | loadIfAlive _ k ih=>exact fun o=>ih o (h o)
 | fresh k ih=>exact fun o=>ih o (h o)
 | ask k ih=>exact fun o=>ih o (h o)
 | handled _ k ih=>exact fun o=>ih o (h o)
 | stack k ih=>exact fun o=>ih o (h o)
 | thread k ih=>exact fun o=>ih o (h o)
 | _=>exact False.elim h
theorem Qxg {α:Type}{M:Model}{Γ:PySem.Ctx}{t:Sem α} (h:KD t) {h0:Heap}{Q:α→Pos→Shared→Prop}{E:Value→Pos→Shared→Prop}{p:Pos}{s:Shared} (d:DK h0 s.heap) (w:Sem.wp M Γ t Q E p s) :
  Sem.wp M Γ t (fun a p' s'=>Q a p' s'∧DK h0 s'.heap) (fun e p' s'=>E e p' s'∧DK h0 s'.heap) p s:=by
 induction t generalizing p s with
 | pure a=>exact ⟨w,d⟩
 | raise e=>exact ⟨w,d⟩
 | unsupported=>exact w
 | finish=>exact w
 | rule _ k ih=>exact ih () h d w
 | «at» _ k ih=>exact ih () h d w
 | point _ k ih=>exact ih () h d w
 | load _ _ k ih=>obtain ⟨o,e,w⟩:=w; exact ⟨o,e,ih o (h o) d w⟩
 | update _ _ g k ih=>obtain ⟨e,w⟩:=w; exact ⟨e,ih () h.2 (d.trans (DK.upd h.1)) w⟩
 | alloc o k ih=>exact ih _ (h _) (d.trans fun b o' e=>⟨o',zk _ e,rfl⟩) w
 | loadIfAlive _ k ih=>exact ih _ (h _) d w
 | fresh k ih=>exact ih _ (h _) d w
 | ask k ih=>exact ih _ (h _) d w
 | handled _ k ih=>exact ih _ (h _) d w
 | stack k ih=>exact ih _ (h _) d w
 | thread k ih=>exact ih _ (h _) d w
 | _=>exact False.elim h
theorem Qg5 {α:Type}{M:Model}{A:Around}{t:Sem α} (h:KD t) {Q:α→Shared→Prop}{E:Value→Shared→Prop}{s:Shared} (w:wpAny M A t Q E s):wpAny M A t (fun a s'=>Q a s'∧DK s.heap s'.heap) (fun e s'=>E e s'∧DK s.heap s'.heap) s:=fun Γ p hΓ=>Qxg h (DK.refl _) (w Γ p hΓ)
theorem Qll (a:Addr):KD (load a):=fun _=>trivial
theorem Qkj:KD stack:=fun _=>trivial
theorem Qio (v:Value) (i:Nat):KD (field v i):=by
 unfold field fieldsOf
 refine Qba ?_ fun a=>?_
 ·split
  ·refine Qba (Qll _) fun o=>?_
   split <;> trivial
  ·trivial
 ·split <;> trivial
theorem Qru {a:Addr}{f:Obj→Obj} (hf:∀o,o.isFreed=false→(f o).isFreed=false∧(f o).dict=o.dict):KD (update a f):=⟨hf,trivial⟩
theorem QfP (v:Value) (i:Nat) (x:Value):KD (setField v i x):=by
 unfold setField
 split
 ·unfold updateField
  refine Qba (Qll _) fun o=>?_
  split
  ·split
   ·refine Qru fun o h=>?_
    unfold Obj.mapFields
    split
    ·exact ⟨rfl,rfl⟩
    ·exact ⟨h,rfl⟩
   ·trivial
  ·trivial
 ·trivial
theorem Qg6 (e:Value) (f:Option Addr):KD (setFlight e f):=by
 unfold setFlight
 refine Qba (Qio _ _) fun tb=>?_
 split
 ·exact QfP _ _ _
 ·trivial
theorem QmW:KD frameEnvs:=by
 unfold frameEnvs
 exact Qba Qkj fun _=>trivial
theorem QqD (env:Env) (l:List Env):KD (behindIsImport env l):=by
 unfold behindIsImport
 split
 ·trivial
 ·split
  ·trivial
  ·exact Qba (Qio _ _) fun _=>trivial
theorem Qul (env:Env) (b:Bool) (l:List Env):KD (keptBack env b l):=by
 unfold keptBack
 split
 ·split
  ·trivial
  ·refine Qba ?_ fun _=>trivial
   unfold underTheClaimsCaller
   exact Qba Qkj fun _=>trivial
 ·trivial
theorem QmF:∀l:List Env,KD (readyFrames l)
 | []=>trivial
 | env::outer=>by
  unfold readyFrames
  split
  ·refine Qba (Qll _) fun o=>?_
   split
   ·trivial
   ·exact Qba (QqD _ _) fun b=>Qba (Qul _ _ _) fun k=>Qba (Qru fun o h=>⟨(by revert h; unfold Obj.isFreed; cases o with | mk c d dt sl=>cases dt <;> exact id),rfl⟩) fun _=>QmF outer
  ·trivial
theorem QkA (env:Env):KD (PySem.frameOf env):=by
 unfold PySem.frameOf
 refine Qba QmW fun l=>Qba ?_ fun o=>?_
 ·unfold frameObject
  split
  ·trivial
  ·exact Qba (QmF _) fun _=>trivial
 ·split <;> trivial
theorem kd_new (ty:String) (vs:List Value):KD (newFields ty vs):=by
 have k:KD (newObjAsIs (.type ty) (.fields vs.toArray)):=by
  unfold newObjAsIs
  exact Qba (t:=alloc _) (fun _=>trivial) fun _=>trivial
 unfold newFields newObj;dsimp only
 split
 ·exact Qba (t:=unsupported _) trivial fun _=>k
 ·exact k
theorem QmD (a b c d e:Value) (l:List Value):KD (EntryCells.newEntry a b c d e l):=kd_new _ _
theorem QnL (f:Addr) (b:Bool):KD (entryPlaceOf f b):=by
 unfold entryPlaceOf
 refine Qba Qkj fun l=>?_
 split <;> trivial
theorem Qoc (e:Value) (env:Env):KD (noteFrame e env):=by
 unfold noteFrame
 split
 ·refine Qba (Qio _ _) fun h=>?_
  split
  ·refine Qba (Qio _ _) fun x=>?_
   split
   ·trivial
   ·exact Qba (QfP _ _ _) fun _=>Qba (QkA _) fun _=>Qba (QnL _ _) fun _=>Qba (QmD _ _ _ _ _ _) fun _=>QfP _ _ _
  ·exact Qba (QkA _) fun _=>Qba (QnL _ _) fun _=>Qba (QmD _ _ _ _ _ _) fun _=>QfP _ _ _
 ·trivial
theorem QkZ (env:Env) (e:Value):KD (leaving env e):=Qba (Qoc _ _) fun _=>Qg6 _ _
section
variable {X:Cx}{md:List Md}{P:Pt}{R:RR}
end
section
variable {X:Cx}{md:List Md}{P:Pt}{R:RR}
def QeH (m:M (List D)) (g:MG) (b:MS):MS:=fun ρ O=>match m ρ O with
 | .ok ds O'=>Qa5 g b ds ρ O'
 | _=>.no
end
section
variable {Pr:Program}{w:World}{K:Frag}{mg:Str→Option Value}{base:Heap}
def QsY (P:Program) (w:World) (K:Frag) (mg:Str→Option Value) (base:Heap) (c m:Str) (ps:List Str) (k:Nat) (sp:Sp):Prop :=
 ∃C f fd,mg c=some (.ref C)∧Cls K C∧Qks K C m f∧Binds K fd ps []∧QbH P w K mg base (CXE P w) k f fd ps sp
theorem QsY.can {c x:Str}{ps:List Str}{k:Nat}{pm:List Md}{R:RR}{cf:List D→Qac→Res D} (C:QsY Pr w K mg base c x ps k (Qp7 K mg pm R cf)) (hl:pm.length=ps.length:=by rfl):Qeq Pr w K mg base c x ps k (vSp K mg pm R cf):=by
 obtain ⟨C,f,fd,h1,h2,h3,hb,Fn⟩:=C;refine ⟨C,f,fd,h1,h2,h3,hb,⟨fun vs H Q E h=>?_,fun A outer s H args us vs Q E hr e0 hbi r h=>?_⟩⟩
 ·obtain ⟨ds,O,F,as,d,O',r,a,_⟩:=h;rw [a.len.1,hl]
 ·obtain ⟨ds,O,F,as,d,O',ro,a,e,q⟩:=h
  have z:Qp7 K mg pm R cf vs H Q fun _ _ _=>False:=⟨ds,O,F,as,ro,a,by rw [e]; exact q⟩
  refine codeAny_mono (Fn.run A outer s H args us vs Q _ hr e0 hbi r z) fun res s' hq=>?_
  cases res with
  | error ev =>
   obtain ⟨_,_,_,_,_,_,_,_,_,_,_,_,_,f0⟩:=hq;exact f0.elim
  | ok fl=>cases fl <;> exact hq
end
section
variable {X:Cx}{md:List Md}{P:Pt}{R:RR}
def QdH (c:List D→Qac→Res D) (ma:M (List D)):M D:=fun ρ O=>match ma ρ O with
 | .ok ds O1=>c ds O1
 | _=>.no
def QfG (m:M D):MS:=fun ρ O=>match m ρ O with
 | .ok _ O'=>.nx ρ O'
 | .ex x O'=>.ex x O'
 | .no=>.no
end
section
variable {X:Cx}{md:List Md}{P:Pt}{R:RR}{k:Nat}{c m:Str}{ps:List Str}{p pos apos:Pos}{o e:Expr}{es:List Expr}{pm:List Md}{cf:List D→Qac→Res D}{mo:M D}{ma:M (List D)}
def Qh0 (c m:Str) (cf:List D→Qac→Res D) (mo:M D) (ma:M (List D)):M D:=fun ρ O=>match mo ρ O with
 | .ok (.ob n) O1=>match O1[n]? with
  | some (.ins c' fs)=>if c'=c∧(fs.lookup m).isNone=true then (match ma ρ O1 with
   | .ok ds O2=>cf (.ob n::ds) O2
   | _=>.no) else .no
  | _=>.no
 | _=>.no
end
def CXF (Pr:Program) (w:World):CXT:=fun outer H s E e s'=>∃(ea C:Addr) (H':Hp) (B:Heap) (a0:Value) (dxo:Option Addr),e = .ref ea∧s'.os=s.os∧AllBare s'.gens∧Un (frs outer) [] H H' s.heap s'.heap∧HOk Pr w H' s'.heap ∧
 Heap.FlyingW B outer ea (.ref C) a0 s'.heap∧(∀b u,H' b=some u→∃o,B.get? b=some o)∧(∀b o,s.heap.get? b=some o→b∉frs outer→∃o',B.get? b=some o')∧(∃oe,s'.heap.get? ea=some oe∧oe.dict=dxo)∧E (.ref C) dxo H'
def Raw (X:Cx) (H:Hp) (s:Shared) (ea C:Addr) (dxo:Option Addr):Prop:=∃(oe:Obj) (ws:Array Value) (a0:Value),s.heap.get? ea=some oe∧oe.cls = .ref C∧oe.dict=dxo∧oe.data = .fields ws∧ws[1]? = some .none∧ws[0]? = some a0∧H ea=none∧X.s₀.heap.get? ea=none
section
variable {X:Cx}{md:List Md}{P:Pt}{R:RR}
def exR (X:Cx) (x:Xc) (dxo:Option Addr) (H:Hp):Prop:=∀(pins:List (Addr×Obj)) (σ:St) (s:Shared) (ea C:Addr),X.mg x.cls=some (.ref C)→Inv X pins σ H s→Raw X H s ea C dxo→X.xe (.ref ea) s
def exL (X:Cx) (x:Xc) (dxo:Option Addr) (H:Hp):Prop:=∀(pins:List (Addr×Obj)) (σ:St) (H0:Hp) (s:Shared) (e:Value) (s':Shared),Inv X pins σ H0 s→CXF X.prog X.w X.stack H0 s (fun cv d H'=>∃C,cv = .ref C∧X.mg x.cls=some (.ref C)∧d=dxo∧H'=H) e s'→X.xe e s'
def exV (X:Cx) (x:Xc) (dxo:Option Addr) (H:Hp):Prop:=exR X x dxo H∧exL X x dxo H
abbrev WX:=Xc→Option Addr→Hp→Prop
def Qcs (K:Frag) (mg:Str→Option Value) (md:List Md) (P:Pt) (R:RR) (W:WX) (D:Ends) (H F:Hp) (as:List Addr):Fl→Prop
 | .ex x O'=>∀dxo H' F' as',GrS P H F as H' F' as'→RlO K mg O' H' F' as'→XF K F' as' dxo x.fs→W x dxo H'
 | f=>QeU K mg md P R D H F as f
def QlA (K:Frag) (mg:Str→Option Value) (md:List Md) (P:Pt) (R:RR) (W:WX) (m:MS):TS:=fun D σ H =>
 ∃ρ O F as,RlO K mg O H F as∧SlO K md P ρ σ H F as∧Qcs K mg md P R W D H F as (m ρ O)
def VSF (X:Cx) (md:List Md) (P:Pt) (R:RR) (st:Stmt) (m:MS):Prop:=PS X st (QlA X.K X.mg md P R (exV X) m)
def Qgj (X:Cx) (md:List Md) (P:Pt) (R:RR) (st:List Stmt) (m:MS):Prop:=PSs X st (QlA X.K X.mg md P R (exV X) m)
theorem Qcs.gr {K:Frag}{mg:Str→Option Value}{W:WX}{D:Ends}{H F H' F':Hp}{as as':List Addr}{f:Fl} (g:GrS P H F as H' F' as') (h:Qcs K mg md P R W D H F as f):Qcs K mg md P R W D H' F' as' f:=by
 cases f with
 | ex x O'=>exact fun d H2 F2 as2 g2 r2=>h d H2 F2 as2 (g.trans g2) r2
 | nx ρ' O'=>exact fun σ' H2 F2 as2 g2 r2 s2=>h σ' H2 F2 as2 (g.trans g2) r2 s2
 | bk ρ' O'=>exact fun σ' H2 F2 as2 g2 r2 s2=>h σ' H2 F2 as2 (g.trans g2) r2 s2
 | ct ρ' O'=>exact fun σ' H2 F2 as2 g2 r2 s2=>h σ' H2 F2 as2 (g.trans g2) r2 s2
 | rt d O'=>exact fun v H2 F2 as2 g2 r2 s2=>h v H2 F2 as2 (g.trans g2) r2 s2
 | no=>exact h
theorem Qg2 {st:Stmt}{m:MS} (h:VS X md P R st m):VSF X md P R st (msN m):=h.imp fun D σ H q=>by
 obtain ⟨ρ,O,F,as,r,s,k⟩:=q;refine ⟨ρ,O,F,as,r,s,?_⟩;unfold msN at k
 cases e:m ρ O with
 | ex x O'=>rw [e] at k; exact False.elim k
 | nx ρ' O'=>rw [e] at k; exact k
 | bk ρ' O'=>rw [e] at k; exact k
 | ct ρ' O'=>rw [e] at k; exact k
 | rt d O'=>rw [e] at k; exact k
 | no=>rw [e] at k; exact k
theorem QcA:Qgj X md P R [] Qay:=Qoe.imp fun D σ H q=>by
 obtain ⟨ρ,O,F,as,r,s,k⟩:=q;exact k σ H F as GrS.refl r s
theorem Qbj {st:Stmt}{rest:List Stmt}{a b:MS} (h1:VSF X md P R st a) (h2:Qgj X md P R rest b):Qgj X md P R (st::rest) (Qaj a b):=(QmL h1 h2).imp fun D σ H q=>by
 obtain ⟨ρ,O,F,as,r,s,k⟩:=q;refine ⟨ρ,O,F,as,r,s,?_⟩;unfold Qaj at k
 cases e:a ρ O with
 | nx ρ1 O1 =>
  rw [e] at k
  exact fun σ' H' F' as' g r' s'=>⟨ρ1,O1,F',as',r',s',Qcs.gr g k⟩
 | ex x O'=>rw [e] at k; exact k
 | bk ρ' O'=>rw [e] at k; exact k
 | ct ρ' O'=>rw [e] at k; exact k
 | rt d O'=>rw [e] at k; exact k
 | no=>rw [e] at k; exact k
theorem QpW {c:Expr}{a b:List Stmt}{pos:Pos}{t:M Bool}{ma mb:MS} (hc:TsE X md P c t) (ha:Qgj X md P R a ma) (hb:Qgj X md P R b mb):VSF X md P R (.If c a b pos) (Qfc t ma mb):=(QsT hc ha hb).imp fun D σ H q=>by
 obtain ⟨ρ,O,F,as,r,s,k⟩:=q;unfold Qfc at k
 cases e:t ρ O with
 | ok v O' =>
  rw [e] at k;refine ⟨ρ,_,F,as,_,_,r,s,e,fun H1 F1 as1 g r1=>?_⟩;dsimp only at k
  cases v with
  | true =>
   rw [if_pos rfl] at k ⊢;exact ⟨ρ,O',F1,as1,r1,s.step g,Qcs.gr g.toS k⟩
  | false =>
   rw [if_neg zh] at k ⊢;exact ⟨ρ,O',F1,as1,r1,s.step g,Qcs.gr g.toS k⟩
 | ex x O'=>rw [e] at k; exact False.elim k
 | no=>rw [e] at k; exact False.elim k
end
section
variable {Pr:Program}{w:World}{K:Frag}{mg:Str→Option Value}{base:Heap}{N:List Str}{qual:Str}{scope:Scope}{f:Addr}{cd:Value}{A:Around}{outer:List Env}{s0:Shared}{H0:Hp}{E E':XK}{pins:List (Addr×Obj)}{σ:St}{H:Hp}{s s':Shared}
theorem QtQ {ea C:Addr}{dxo:Option Addr} (I:Inv (Qcw (CXF Pr w) Pr w K mg base N qual scope f cd A outer s0 H0 E) pins σ H s) (hr:Raw (Qcw (CXF Pr w) Pr w K mg base N qual scope f cd A outer s0 H0 E) H s ea C dxo) (hE:E (.ref C) dxo H) :
  (Qcw (CXF Pr w) Pr w K mg base N qual scope f cd A outer s0 H0 E).xe (.ref ea) s:=by
 have stk:=I.stack;have sfr:=I.stkFree;have hfr:=I.ok.frames;have hb0:=I.base;obtain ⟨oe,ws,a0,he,hc,hdi,hd,h1,h0,hn,hold⟩:=hr;have hold:s0.heap.get? ea=none:=hold
 have nfr:ea∉frs (envOfC qual scope s0.heap.objs.size f cd::outer):=fun z=>by
  obtain ⟨_,o,ho,nf⟩:=stk.mem z;rw [he] at ho;cases ho;exact nf ws hd
 show wpAny (model Pr w) (A.deeper (envOfC qual scope s0.heap.objs.size f cd)) (leaving (envOfC qual scope s0.heap.objs.size f cd) (.ref ea)) (fun _ s''=>CXF Pr w outer H0 s0 E (.ref ea) s'') _ s
 have kd:=Qg5 (QkZ _ _) (wpAny_leaving_firstW (M:=model Pr w) (A:=A.deeper (envOfC qual scope s0.heap.objs.size f cd)) (E:=fun e' s''=>CXF Pr w outer H0 s0 E e' s'') (base:=hideAll s.heap (ea::frs (envOfC qual scope s0.heap.objs.size f cd::outer)))
  (Q:=fun _ s''=>∃h',s'' = { s with heap:=h' }∧Heap.LeftW (hideAll s.heap (ea::frs (envOfC qual scope s0.heap.objs.size f cd::outer))) (envOfC qual scope s0.heap.objs.size f cd::outer) ea oe.cls a0 s.heap h')
  hfr (funFrames_hide stk fun env he a ha=>zv _ (List.mem_filterMap.mpr ⟨env,he,ha⟩)) rfl he (fun b o q=>of_hideAll _ q) (hideAll_none _ zB) hd h1 h0 fun h' hL=>⟨h',rfl,hL⟩)
 refine zo kd (fun _ s2 z=>?_) fun _ _ z=>z.1
 obtain ⟨⟨h2,rfl,k1,⟨_,_,k2⟩,k3,up⟩,dk⟩:=z
 have keepB:∀b o,s.heap.get? b=some o→b≠ea→b∉frs (envOfC qual scope s0.heap.objs.size f cd::outer)→h2.get? b=some o:=fun b o q n n2=>k1 b o (hideAll_get _ q fun z=>by
  rcases zm.mp z with z | z
  ·exact n z
  ·exact n2 z)
 have notE:∀b o,s0.heap.get? b=some o→b≠ea:=fun b o q z=>by rw [z,hold] at q; cases q
 have Qfz:∀b o,s0.heap.get? b=some o→b∉frs outer→b∉frs (envOfC qual scope s0.heap.objs.size f cd::outer):=fun b o q n z=>by
  rcases zm.mp (show b∈s0.heap.objs.size::frs outer from z) with rfl | z
  ·exact absurd (zd q) (zM _)
  ·exact n z
 have sub:∀b,b∈frs outer→b∈frs (envOfC qual scope s0.heap.objs.size f cd::outer):=fun b z=>zv _ z
 have tr:∀b u,H b=some u→∃o,s.heap.get? b=some o∧b≠ea∧b∉frs (envOfC qual scope s0.heap.objs.size f cd::outer):=fun b u e=>by
  obtain ⟨o,q⟩:=(I.hok b u e).has;exact ⟨o,q,(fun z=>by rw [z,hn] at e; cases e),fun z=>by rw [sfr b z] at e; cases e⟩
 have frm:∀b o,s.heap.get? b=some o→b∈frs outer→∃sl,h2.get? b=some { o with slots:=sl }:=fun b o q z=>by
  obtain ⟨_,o',q',nf⟩:=stk.mem (sub b z);rw [q] at q';cases q';exact up b o q nf
 obtain ⟨oe2,he2,hd2⟩:=dk ea oe he;refine ⟨ea,C,H,_,a0,dxo,rfl,I.os,I.bare,Un.then hb0 (fun b o q n z=>by obtain ⟨o',z⟩:=z; exact keepB b o q (notE b o' z) (Qfz b o' z n)) frm,I.hok.only fun b v u e q=>(by obtain ⟨_,_,n1,n2⟩:=tr b v e; exact keepB b u q n1 n2),⟨k1,hideAll_none _ zB,k2,hc ▸ k3⟩,fun b u e=>?_,fun b o q n=>?_,⟨oe2,he2,hd2.trans hdi⟩,hE⟩
 ·obtain ⟨o,q,n1,n2⟩:=tr b u e
  exact ⟨o,hideAll_get _ q fun z=>by
   rcases zm.mp z with z | z
   ·exact n1 z
   ·exact n2 z⟩
 ·obtain ⟨o',q'⟩:=hb0.there b o q (fun z=>nomatch z)
  exact ⟨o',hideAll_get _ q' fun z=>by
   rcases zm.mp z with z | z
   ·exact notE b o q z
   ·exact Qfz b o q n z⟩
theorem Qrs {e:Value} (I:Inv (Qcw (CXF Pr w) Pr w K mg base N qual scope f cd A outer s0 H0 E) pins σ H s) (hx:CXF Pr w (Qcw (CXF Pr w) Pr w K mg base N qual scope f cd A outer s0 H0 E).stack H s E' e s') (hE:∀C d H',E' (.ref C) d H'→E (.ref C) d H') :
  (Qcw (CXF Pr w) Pr w K mg base N qual scope f cd A outer s0 H0 E).xe e s':=by
 obtain ⟨ea,C,H',B,a0,dxo,rfl,hos,hbare,un,hok,fl,trk,old,⟨oe,he,hd⟩,hE'⟩:=hx;have hfr:=I.ok.frames;show wpAny (model Pr w) (A.deeper (envOfC qual scope s0.heap.objs.size f cd)) (leaving (envOfC qual scope s0.heap.objs.size f cd) (.ref ea)) (fun _ s''=>CXF Pr w outer H0 s0 E (.ref ea) s'') _ s'
 have kd:=Qg5 (QkZ _ _) (wpAny_leaves_onW (M:=model Pr w) (A:=A.deeper (envOfC qual scope s0.heap.objs.size f cd)) (E:=fun e' s''=>CXF Pr w outer H0 s0 E e' s'')
  (Q:=fun _ s''=>∃h',s'' = { s' with heap:=h' }∧Heap.FlyingW B outer ea (.ref C) a0 h'∧s'.heap.UpToSlots h') hfr rfl fl fun h' fl' up=>⟨h',rfl,fl',up⟩)
 refine zo kd (fun _ s2 z=>?_) fun _ _ z=>z.1
 obtain ⟨⟨h',rfl,fl',up⟩,dk⟩:=z;have I':=I.call' (s':={ s' with heap:=h' }) (ch:=[]) hos (Qre un fl.1 fl.2.2.1 old fl'.1 up) (QqT hok trk fl.1 fl'.1) hbare (fun _ z=>nomatch z);obtain ⟨oe2,he2,hd2⟩:=dk ea oe he;refine ⟨ea,C,H',B,a0,dxo,rfl,I'.os,I'.bare,I'.base,I'.hok,fl',trk,fun b o q n=>?_,⟨oe2,he2,hd2.trans hd⟩,hE C dxo H' hE'⟩;obtain ⟨o',q'⟩:=I.base.there b o q (fun z=>nomatch z)
 refine old b o' q' fun z=>?_
 rcases zm.mp (show b∈s0.heap.objs.size::frs outer from z) with rfl | z
 ·exact absurd (zd q) (zM _)
 ·exact n z
end
def QiB (P:Program) (w:World) (K:Frag) (mg:Str→Option Value) (base:Heap) (x:Str) (ps:List Str) (k:Nat) (sp:Sp):Prop :=
 ∃f fd,mg x=some (.ref f)∧keepIn K (.ref f)=true∧Binds K fd ps []∧QbH P w K mg base (CXF P w) k f fd ps sp∧∃oc od osl,K.lookup f=some ⟨oc,od,.func fd,osl⟩
def Qk6 (P:Program) (w:World) (K:Frag) (mg:Str→Option Value) (base:Heap) (c m:Str) (ps:List Str) (k:Nat) (sp:Sp):Prop :=
 ∃C f fd,mg c=some (.ref C)∧Cls K C∧Qks K C m f∧Binds K fd ps []∧QbH P w K mg base (CXF P w) k f fd ps sp
def Qya (K:Frag) (mg:Str→Option Value) (R:RR) (H F:Hp) (as:List Addr) (Q:VK) (E:XK):Res D→Prop
 | .ok d O'=>∀v H' F' as',Gr H F as H' F' as'→RlO K mg O' H' F' as'→R (fun a=>H a=none) H' F' as' v d→Q v H'
 | .ex x O'=>∀C dxo H' F' as',mg x.cls=some (.ref C)→Gr H F as H' F' as'→RlO K mg O' H' F' as'→XF K F' as' dxo x.fs→E (.ref C) dxo H'
 | .no=>False
def QcD (K:Frag) (mg:Str→Option Value) (pm:List Md) (R:RR) (c:List D→Qac→Res D):Sp:=fun vs H Q E =>
 ∃ds O F as,RlO K mg O H F as∧QbV K H F as pm vs ds∧Qya K mg R H F as Q E (c ds O)
section
variable {Pr:Program}{w:World}{K:Frag}{mg:Str→Option Value}{base:Heap}
theorem Qo6 {x qual:Str}{st:Stmt}{f:Addr}{fd:FuncData}{N ps:List Str}{k:Nat} (Fn:Fun K x qual st f fd) (S:QaA N ps (Qai st))
  (pm lm:List Md) {R:RR}{b:MS} (hR:QcO R) (hR0:∀N H F as,R N H F as .non .non) (hpl:pm.length=ps.length) (hl:(pm++lm).length=N.length) (hp:∀m∈pm,m≠.o)
  (body:∀(cdv:Value) (A:Around) (outer:List Env) (s:Shared) (H:Hp) (E:XK),QaH k (A.deeper (envOfC qual (Qai st) s.heap.objs.size f cdv))→∀P,Qgj (Qcw (CXF Pr w) Pr w K mg base N qual (Qai st) f cdv A outer s H E) (pm++lm) P R (QaX st) b) :
  QbH Pr w K mg base (CXF Pr w) (k+1) f fd ps (QcD K mg pm R (Qa8 N.length b)):=by
 obtain ⟨oc,od,kV,doc,pmv,an,cdv,ct,osl,rfl,lk,hcd⟩:=Fn.ex
 refine QpP lk hcd S (fun vs H Q E h=>?_) fun A outer s H vs Q E hr h=>?_
 ·obtain ⟨ds,O,F,as,r,a,_⟩:=h;rw [a.len.1,hpl]
 ·obtain ⟨ds,O,F,as,r,a,q⟩:=h;refine ⟨_,body cdv A outer s H E hr (Pt.all H),?_⟩;refine ⟨_,O,F,as,r,QfH a hl hp,?_⟩;unfold Qa8 at q
  cases eb:b (ds.map some++List.replicate (N.length - ds.length) none) O with
  | rt d' O2 =>
   rw [eb] at q
   exact fun v H' F' as' g r' hv=>q v H' F' as' g.gr r' (hR _ _ _ _ _ _ _ (fun c hc=>jj.mp hc) hv)
  | nx ρ O2 =>
   rw [eb] at q
   exact fun σ' H' F' as' g r' _=>q _ H' F' as' g.gr r' (hR0 _ _ _ _)
  | ex x' O2 =>
   rw [eb] at q
   exact fun dxo H' F' as' g r' hx=>⟨fun pins σ s1 ea C hC I hr=>QtQ I hr (q C dxo H' F' as' hC g.gr r' hx),fun pins σ H0 s1 e s2 I hz=>Qrs I hz fun C d H2 ⟨C',z1,z2,z3,z4⟩=>by
    cases z1;subst z3 z4
    exact q C _ _ F' as' z2 g.gr r' hx⟩
  | bk _ _=>rw [eb] at q; exact False.elim q
  | ct _ _=>rw [eb] at q; exact False.elim q
  | no=>rw [eb] at q; exact False.elim q
theorem QpC {x:Str}{st:Stmt}{N ps:List Str}{k:Nat} (Df:Def K mg x st) (S:QaA N ps (Qai st))
  (hb:∀(kV doc pm:Value) (an:Option Addr) (cdv ct:Value) (us:List Value),us.length=ps.length→bindArgs (PySem.W.fnOf x x (QbQ st) (QaX st) (Qai st) .none kV doc pm an cdv ct) ⟨us,[]⟩=pure (ps.zip us))
  (pm lm:List Md) {R:RR}{b:MS} (hR:QcO R) (hR0:∀N H F as,R N H F as .non .non) (hpl:pm.length=ps.length:=by rfl) (hl:(pm++lm).length=N.length:=by rfl) (hp:∀m∈pm,m≠.o:=by decide)
  (body:∀(f:Addr) (cdv:Value) (A:Around) (outer:List Env) (s:Shared) (H:Hp) (E:XK),QaH k (A.deeper (envOfC x (Qai st) s.heap.objs.size f cdv))→∀P,Qgj (Qcw (CXF Pr w) Pr w K mg base N x (Qai st) f cdv A outer s H E) (pm++lm) P R (QaX st) b) :
  QiB Pr w K mg base x ps (k+1) (QcD K mg pm R (Qa8 N.length b)):=by
 obtain ⟨f,fd,hm,Fn⟩:=Df;have hbi:=Fn.binds hb;have hkp:=Fn.kp;have ok:=Qo6 Fn S pm lm hR hR0 hpl hl hp (body f);obtain ⟨oc,od,kV,doc,pmv,an,cdv,ct,osl,rfl,lk,hcd⟩:=Fn.ex;exact ⟨f,_,hm,hkp,hbi,ok,oc,od,osl,lk⟩
theorem QvQ {c x qual:Str}{st:Stmt}{N ps:List Str}{k:Nat} (Df:Qgd K mg c x qual st) (S:QaA N ps (Qai st))
  (hb:∀(kV doc pm:Value) (an:Option Addr) (cdv ct:Value) (us:List Value),us.length=ps.length→bindArgs (PySem.W.fnOf x qual (QbQ st) (QaX st) (Qai st) .none kV doc pm an cdv ct) ⟨us,[]⟩=pure (ps.zip us))
  (pm lm:List Md) {R:RR}{b:MS} (hR:QcO R) (hR0:∀N H F as,R N H F as .non .non) (hpl:pm.length=ps.length:=by rfl) (hl:(pm++lm).length=N.length:=by rfl) (hp:∀m∈pm,m≠.o:=by decide)
  (body:∀(f:Addr) (cdv:Value) (A:Around) (outer:List Env) (s:Shared) (H:Hp) (E:XK),QaH k (A.deeper (envOfC qual (Qai st) s.heap.objs.size f cdv))→∀P,Qgj (Qcw (CXF Pr w) Pr w K mg base N qual (Qai st) f cdv A outer s H E) (pm++lm) P R (QaX st) b) :
  Qk6 Pr w K mg base c x ps (k+1) (QcD K mg pm R (Qa8 N.length b)):=by
 obtain ⟨C,f,fd,h1,h2,h3,h4⟩:=Df;exact ⟨C,f,fd,h1,h2,h3,h4.binds hb,Qo6 h4 S pm lm hR hR0 hpl hl hp (body f)⟩
theorem Qlw {f:Addr}{fd:FuncData}{ps:List Str}{k:Nat}{pm:List Md}{R:RR}{c:List D→Qac→Res D} (Fn:QbH Pr w K mg base (CXF Pr w) k f fd ps (QcD K mg pm R c)) (hl:pm.length=ps.length) {CX:CXT}:QbH Pr w K mg base CX k f fd ps (vSp K mg pm R c):=by
 refine ⟨fun vs H Q E h=>?_,fun A outer s H args us vs Q E hr e0 hbi r h=>?_⟩
 ·obtain ⟨ds,O,F,as,d,O',r,a,_⟩:=h;rw [a.len.1,hl]
 ·obtain ⟨ds,O,F,as,d,O',ro,a,e,q⟩:=h
  have z:QcD K mg pm R c vs H Q fun _ _ _=>False:=⟨ds,O,F,as,ro,a,by rw [e]; exact q⟩
  refine codeAny_mono (Fn.run A outer s H args us vs Q _ hr e0 hbi r z) fun res s' hq=>?_
  cases res with
  | error ev =>
   obtain ⟨_,_,_,_,_,_,_,_,_,_,_,_,_,_,_,f0⟩:=hq;exact f0.elim
  | ok fl=>cases fl <;> exact hq
theorem QiB.can {x:Str}{ps:List Str}{k:Nat}{pm:List Md}{R:RR}{c:List D→Qac→Res D} (C:QiB Pr w K mg base x ps k (QcD K mg pm R c)) (hl:pm.length=ps.length:=by rfl):Can Pr w K mg base x ps k (vSp K mg pm R c):=by
 obtain ⟨f,fd,hm,hk,hb,Fn,lk⟩:=C;exact ⟨f,fd,hm,hk,hb,Qlw Fn hl,lk⟩
theorem Qk6.can {c x:Str}{ps:List Str}{k:Nat}{pm:List Md}{R:RR}{cf:List D→Qac→Res D} (C:Qk6 Pr w K mg base c x ps k (QcD K mg pm R cf)) (hl:pm.length=ps.length:=by rfl):Qeq Pr w K mg base c x ps k (vSp K mg pm R cf):=by
 obtain ⟨C,f,fd,h1,h2,h3,hb,Fn⟩:=C;exact ⟨C,f,fd,h1,h2,h3,hb,Qlw Fn hl⟩
end
section
variable {X:Cx}{md:List Md}{P:Pt}{R:RR}
def exG (X:Cx):XK:=fun cv d H'=>∃x C,cv = .ref C∧X.mg x.cls=some (.ref C)∧exL X x d H'
theorem Qkq:Qe2 (CXF X.prog X.w) X (exG X):=fun pins σ H s e s' I hx=>by
 obtain ⟨ea,C,H',B,a0,dxo,rfl,x1,x2,x3,x4,x5,x6,x7,x8,x,C',e1,hC,hw⟩:=hx;cases e1;exact hw pins σ H s (.ref ea) s' I ⟨ea,C,H',B,a0,dxo,rfl,x1,x2,x3,x4,x5,x6,x7,x8,C,rfl,hC,rfl,rfl⟩
def QuI (K:Frag) (mg:Str→Option Value) (R:RR) (W:WX) (H F:Hp) (as:List Addr) (Q:VK):Res D→Prop
 | .ok d O'=>∀v H' F' as',Gr H F as H' F' as'→RlO K mg O' H' F' as'→R (fun a=>H a=none) H' F' as' v d→Q v H'
 | .ex x O'=>∀dxo H' F' as',Gr H F as H' F' as'→RlO K mg O' H' F' as'→XF K F' as' dxo x.fs→W x dxo H'
 | .no=>False
def tMF (K:Frag) (mg:Str→Option Value) (md:List Md) (P:Pt) (R:RR) (W:WX) (m:M D):TE:=fun σ H Q=>∃ρ O F as,RlO K mg O H F as∧SlO K md P ρ σ H F as∧QuI K mg R W H F as Q (m ρ O)
def VEF (X:Cx) (md:List Md) (P:Pt) (R:RR) (e:Expr) (m:M D):Prop:=PE X e (tMF X.K X.mg md P R (exL X) m)
theorem Qss {pm:List Md}{c:List D→Qac→Res D}{ma:M (List D)} (hR:QcO R) {σ:St}{H:Hp}{Q:VK} (q:tMF X.K X.mg md P R (exL X) (QdH c ma) σ H Q):Qmn (QcD X.K X.mg pm R c) [] (exG X) (tMA X.K X.mg md P pm ma) σ H Q:=by
 obtain ⟨ρ,O,F,as,r,s,k⟩:=q;unfold QdH at k
 cases em:ma ρ O with
 | ex x O'=>rw [em] at k; exact False.elim k
 | no=>rw [em] at k; exact False.elim k
 | ok ds O1 =>
  rw [em] at k;dsimp only at k;refine ⟨ρ,O,F,as,ds,O1,r,s,em,fun vs H1 F1 as1 g1 r1 h1=>?_⟩;dsimp only;rw [zG];refine ⟨ds,O1,F1,as1,r1,h1,?_⟩
  cases ec:c ds O1 with
  | ok d O2 =>
   rw [ec] at k
   exact fun v H2 F2 as2 g2 r2 h=>k v H2 F2 as2 (g1.trans g2) r2 (hR _ _ _ _ _ _ _ (fun a z=>g1.dm a z) h)
  | ex x O2 =>
   rw [ec] at k
   exact fun C dxo H2 F2 as2 hC g2 r2 hx=>⟨x,C,rfl,hC,k dxo H2 F2 as2 (g1.trans g2) r2 hx⟩
  | no=>rw [ec] at k; exact False.elim k
theorem Qrz {f:Str}{ps:List Str}{k:Nat}{a:Expr}{as:List Expr}{pm:List Md}{c:List D→Qac→Res D}{ma:M (List D)}{p1 p2:Pos} (hR:QcO R)
  (Cn:QiB X.prog X.w X.K X.mg X.base f ps k (QcD X.K X.mg pm R c)) (hr:QaH k X.A) (ha:AE X md P pm (a::as) ma) (hg:Gl X f:=by rfl) (hfd:(f == ("__debug__":Str))=false:=by decide)
  (hs:starEach (a::as) X.env=(false,eval a X.env)::starEach as X.env:=by exact Qa7 rfl) (hpl:(backTo p2 (starEach as X.env)).any (·.1)=false:=by exact Qbb rfl):VEF X md P R (.Call (.Name f p1) (a::as) [] p2) (QdH c ma):=by
 obtain ⟨fa,fd,hm,hk,hb,Fn,_⟩:=Cn
 exact (Qog (dvs:=[]) (ds:=[]) Fn hr hg hm hk hb .nil Qkq ha hfd hs hpl).imp fun σ H Q q=>Qss hR q
theorem Qvs {e:Expr}{m:M D} (h:VEF X md P (rO X.K) e m):VEF X md P (rV X.K) e m:=h.imp fun σ H Q q=>by
 obtain ⟨ρ,O,F,as,r,s,k⟩:=q;refine ⟨ρ,O,F,as,r,s,?_⟩
 cases e:m ρ O with
 | ok d O' =>
  rw [e] at k;intro v H' F' as' g r' hv
  rcases hv with ⟨_,hv⟩ | ⟨a,xs,ds,rfl,rfl,e3,e4,e5,e6,e7⟩
  ·exact k v H' F' as' g r' hv
  ·have ff:Same F' (upd F' a (.lst xs)):=fun b u q=>by rw [Qam (Qax q e4)]; exact q
   exact k _ H' (upd F' a (.lst xs)) as' (g.frz e6 e4) (r'.frz e3 e4 e5 rfl) (Rp.mkL (.inl (.inl QaE)) (Rps.mono ff (fun _ _ z=>z) _ e7))
 | ex x O'=>rw [e] at k; exact k
 | no=>rw [e] at k; exact k
theorem QtO {R':RR}{e:Expr}{pos:Pos}{m:M D} (h:VEF X md P R' e m) (hs:swapsWith e none pos.line X.env=pure false:=by rfl):VSF X md P R (.Expr e pos) (QfG m):=(Qh3 h hs).imp fun D σ H q=>by
 obtain ⟨ρ,O,F,as,r,s,k⟩:=q;refine ⟨ρ,O,F,as,r,s,?_⟩;unfold QfG at k
 cases e:m ρ O with
 | ok d O'=>rw [e] at k; exact fun v H' F' as' g r' _=>k σ H' F' as' g.toS r' (s.step g)
 | ex x O'=>rw [e] at k; exact fun d H' F' as' g r' hx=>(k d H' F' as' g.toS r' hx).2
 | no=>rw [e] at k; exact False.elim k
def QfX (i:Nat) (m:M D):MS:=fun ρ O=>match m ρ O with
 | .ok d O'=>.nx (ρ.set i (some d)) O'
 | .ex x O'=>.ex x O'
 | .no=>.no
theorem QoU {e:Expr}{x:Str}{i:Nat}{p0 pos:Pos}{m:M D} (h:VEF X md P (rV X.K) e m) (hN:X.N.Nodup) (hi:X.N[i]? = some x:=by rfl) (hx:Loc X.env.scope x:=by exact .inl rfl) (hm:md[i]? = some .v:=by rfl)
  (hsw:swapsWith e (some (.Name x p0)) pos.line X.env=pure false:=by rfl) (hf:X.fn x=true∨X.env.scope.names.lookup x=some .local:=by first | exact .inl rfl | exact .inr rfl):VSF X md P R (.Assign [.Name x p0] e pos) (QfX i m):=(QmQ hN hi hx h hsw hf).imp fun D σ H q=>by
 obtain ⟨ρ,O,F,as,r,s,k⟩:=q;refine ⟨ρ,O,F,as,r,s,?_⟩;unfold QfX at k
 cases e:m ρ O with
 | ok d O'=>rw [e] at k; exact fun v H' F' as' g r' hv=>k _ H' F' as' g.toS r' ((s.step g).setV hm hv)
 | ex x O'=>rw [e] at k; exact fun d H' F' as' g r' hx=>(k d H' F' as' g.toS r' hx).2
 | no=>rw [e] at k; exact False.elim k
end
section
variable {X:Cx}{md:List Md}{P:Pt}{R:RR}{k:Nat}{c m:Str}{ps:List Str}{p pos apos:Pos}{o e:Expr}{es:List Expr}{pm:List Md}{cf:List D→Qac→Res D}{mo:M D}{ma:M (List D)}
theorem QrA {C:Addr} (hR:QcO R) (hC:X.mg c=some (.ref C)) {σ:St}{H:Hp}{Q:VK} (q:tMF X.K X.mg md P R (exL X) (Qh0 c m cf mo ma) σ H Q) :
  Qmw C m (QcD X.K X.mg (.v::pm) R cf) [] (exG X) (tM X.K X.mg md P (rV X.K) mo) (tMA X.K X.mg md P pm ma) σ H Q:=by
 obtain ⟨ρ,O,F,as,r,s,k⟩:=q;unfold Qh0 at k
 cases e1:mo ρ O with
 | ex x O'=>rw [e1] at k; exact False.elim k
 | no=>rw [e1] at k; exact False.elim k
 | ok x O1 =>
  rw [e1] at k
  cases x with
  | ob n =>
   dsimp only at k;split at k
   ·rename_i c' fs eo;split at k
    ·rename_i hc
     cases e2:ma ρ O1 with
     | ex x O'=>rw [e2] at k; exact False.elim k
     | no=>rw [e2] at k; exact False.elim k
     | ok ds O2 =>
      rw [e2] at k;dsimp only at k;refine ⟨ρ,O,F,as,.ob n,O1,r,s,e1,fun v H1 F1 as1 g1 r1 hv=>?_⟩;obtain ⟨a,rfl,ha⟩:=Rp.unO hv;obtain ⟨C',dx,gs,h1,h2,h3⟩:=r1.ob n a _ ha eo;rw [hc.1,hC] at h1; cases h1;refine ⟨a,dx,gs,rfl,h2,h3.no (Option.isNone_iff_eq_none.mp hc.2),?_⟩;refine ⟨ρ,O1,F1,as1,ds,O2,r1,s.step g1,e2,fun vs H2 F2 as2 g2 r2 hvs=>?_⟩;dsimp only;rw [zG];refine ⟨.ob n::ds,O2,F2,as2,r2,⟨Rp.gr hv g2,hvs⟩,?_⟩
      cases ec:cf (.ob n::ds) O2 with
      | ok d O3 =>
       rw [ec] at k
       exact fun v H3 F3 as3 g3 r3 h=>k v H3 F3 as3 ((g1.trans g2).trans g3) r3 (hR _ _ _ _ _ _ _ (fun b hb=>(g1.trans g2).dm b hb) h)
      | ex x O3 =>
       rw [ec] at k
       exact fun C dxo H3 F3 as3 hC g3 r3 hx=>⟨x,C,rfl,hC,k dxo H3 F3 as3 ((g1.trans g2).trans g3) r3 hx⟩
      | no=>rw [ec] at k; exact False.elim k
    ·exact False.elim k
   ·exact False.elim k
  | _=>exact False.elim k
theorem QsI {pl:Sem Bool} (hR:QcO R) (M:Qk6 X.prog X.w X.K X.mg X.base c m ps k (QcD X.K X.mg (.v::pm) R cf)) (hr:QaH k X.A) (ho:VE X md P o mo) (ha:AE X md P pm (e::es) ma)
  (hst:starEach (e::es) X.env=(false,eval e X.env)::starEach es X.env:=by exact Qa7 rfl) (hpl:(backTo pos (starEach es X.env)).any (·.1)=false:=by exact Qbb rfl)
  (ht:eval (.Call (.Attribute o m apos) (e::es) [] pos) X.env=(do
   let ov ←eval o X.env
   standAt apos.atName
   let (f,first) ←holding [ov] (getMethod ov m pl)
   callWith pos f first (backTo pos (starEach (e::es) X.env)) (backToKw pos (keywordEach [] X.env))):=by rfl) :
  VEF X md P R (.Call (.Attribute o m apos) (e::es) [] pos) (Qh0 c m cf mo ma):=by
 obtain ⟨C,f,fd,h1,h2,h3,h4,h5⟩:=M
 exact (QoQ (pl:=pl) (ds:=[]) (dvs:=[]) ho h2 h3 h5 hr h4 .nil Qkq ha hst hpl ht).imp fun _ _ _ q=>QrA hR h1 q
end
section
variable {X:Cx}{md:List Md}{P:Pt}{R:RR}
theorem Qug {K:Frag}{mg:Str→Option Value}{W:WX}{m:M (List D)}{g:MG}{b:MS}{D:Ends}{σ:St}{H:Hp} (q:QlA K mg md P R W (QeH m g b) D σ H):Qm3 (tMI K mg md P m) (tMG K mg md P g) (QlA K mg md P R W b) D σ H:=by
 obtain ⟨ρ,O,F,as,r,s,k⟩:=q;unfold QeH at k
 cases e:m ρ O with
 | ex x O'=>rw [e] at k; exact False.elim k
 | no=>rw [e] at k; exact False.elim k
 | ok ds O1 =>
  rw [e] at k;dsimp only at k;refine ⟨ρ,_,F,as,_,_,r,s,e,fun J H1 F1 as1 g1 r1 hJ=>?_⟩;have k1:=Qcs.gr (R:=R) (W:=W) g1.toS k;refine ⟨fun i m σ' H'=>m=ds.length - i∧i≤ds.length∧∃ρ' O' F' as',GrS P H1 F1 as1 H' F' as'∧RlO K mg O' H' F' as'∧SlO K md P ρ' σ' H' F' as'∧Qcs K mg md P R W D H' F' as' (Qa5 g b (ds.drop i) ρ' O'),⟨ds.length,by simp,Nat.zero_le _,ρ,O1,F1,as1,GrS.refl,r1,s.step g1,by rw [List.drop_zero]; exact k1⟩,?_⟩;rintro i n σ' H' ⟨rfl,hi,ρ',O',F',as',g',r',s',k'⟩
  by_cases hlt:i < ds.length
  ·have hd:=zK hlt;obtain ⟨go,yl⟩:=hJ.turn i _ H' F' as' g' ⟨O',r'⟩ hd;rw [List.drop_eq_getElem_cons hlt] at k';refine .inr ⟨go,fun σ2 H2=>∃ρ2 O2 F2 as2,GrS P H1 F1 as1 H2 F2 as2∧RlO K mg O2 H2 F2 as2∧SlO K md P ρ2 σ2 H2 F2 as2∧Qcs K mg md P R W D H2 F2 as2 (Qa5 g b (ds.drop (i+1)) ρ2 O2),fun σ2 H2 h2=>⟨ds.length - (i+1),by omega,rfl,hlt,h2⟩,fun x H3 y=>?_⟩;obtain ⟨F3,g3,r3,hx⟩:=yl x H3 y;have r3':=r3 O' r';unfold Qa5 at k'
   cases eg:g ds[i] ρ' with
   | none=>rw [eg] at k'; exact False.elim k'
   | some ρ1 =>
    rw [eg] at k';dsimp only at k';refine ⟨ρ',O',F3,as',ds[i],ρ1,r3',s'.step g3,hx,eg,fun σ4 s4=>?_⟩;refine ⟨ρ1,O',F3,as',r3',s4,?_⟩;have g4:GrS P H1 F1 as1 H3 F3 as':=g'.trans g3.toS
    cases eb:b ρ1 O' with
    | nx ρ2 O2 =>
     rw [eb] at k'
     exact fun σ2 H2 F2 as2 g2 r2 s2=>⟨ρ2,O2,F2,as2,g4.trans g2,r2,s2,Qcs.gr g2 (Qcs.gr g3.toS k')⟩
    | ct ρ2 O2 =>
     rw [eb] at k'
     exact fun σ2 H2 F2 as2 g2 r2 s2=>⟨ρ2,O2,F2,as2,g4.trans g2,r2,s2,Qcs.gr g2 (Qcs.gr g3.toS k')⟩
    | bk ρ2 O2 =>
     rw [eb] at k'
     exact fun σ2 H2 F2 as2 g2 r2 s2=>k' σ2 H2 F2 as2 (g3.toS.trans g2) r2 s2
    | rt d O2 =>
     rw [eb] at k'
     exact fun v H2 F2 as2 g2 r2 s2=>k' v H2 F2 as2 (g3.toS.trans g2) r2 s2
    | ex x O2 =>
     rw [eb] at k'
     exact fun d H2 F2 as2 g2 r2 hx=>k' d H2 F2 as2 (g3.toS.trans g2) r2 hx
    | no=>rw [eb] at k'; exact False.elim k'
  ·have hi':i=ds.length:=by omega
   subst hi';refine .inl ⟨hJ.stop H' F' as' g' ⟨O',r'⟩,?_⟩;rw [List.drop_length] at k';exact k' σ' H' F' as' GrS.refl r' s'
theorem QqH {tg iter:Expr}{body:List Stmt}{pos:Pos}{m:M (List D)}{g:MG}{b:MS} (hc:X.calm=true) (hi:VI X md P tg iter m) (hg:VG X md P tg g) (hb:Qgj X md P R body b) (hp:PassesOwn (model X.prog X.w) X.A X.env X.xe:=by exact PassesOwn.leaving)
  (hs:∀x,foldedSetIterable iter X.env x=pure x:=by intro _; rfl):VSF X md P R (.For tg iter body [] pos) (QeH m g b):=(QkF hp hc hi hg hb hs).imp fun _ _ _ q=>Qug q
def Qvu (K:Frag) (mg:Str→Option Value) (md:List Md) (P:Pt) (W:WX) (m:M (List D)):TI:=fun σ H Q=>∃ρ O F as,RlO K mg O H F as∧SlO K md P ρ σ H F as ∧
 match m ρ O with
 | .ok ds O'=>∀J H' F' as',Gr H F as H' F' as'→RlO K mg O' H' F' as'→JOk K mg P J ds H' F' as'→Q J H'
 | .ex x O'=>∀dxo H' F' as',Gr H F as H' F' as'→RlO K mg O' H' F' as'→XF K F' as' dxo x.fs→W x dxo H'
 | .no=>False
def VIF (X:Cx) (md:List Md) (P:Pt) (tg iter:Expr) (m:M (List D)):Prop:=PI X tg iter (Qvu X.K X.mg md P (exL X) m)
theorem QsH {tg e:Expr}{m:M D} (h:VEF X md P (rV X.K) e m):VIF X md P tg e (QdV m):=(QjD h).imp fun σ H Q q=>by
 obtain ⟨ρ,O,F,as,r,s,k⟩:=q;refine ⟨ρ,O,F,as,r,s,?_⟩;unfold QdV at k
 cases e:m ρ O with
 | ok d O' =>
  rw [e] at k
  cases d with
  | lst es =>
   intro v H1 F1 as1 g1 r1 hv;obtain ⟨a,xs,rfl,h1,h2⟩:=QkW (mg:=X.mg) (P:=P) (N:=fun _=>True) (.inl hv);exact ⟨a,rfl,⟨xs,(h2 H1 F1 as1 GrS.refl ⟨_,r1⟩).sq⟩,k _ H1 F1 as1 g1 r1 (Qnp h1 h2)⟩
  | _=>exact False.elim k
 | ex x O'=>rw [e] at k; exact k
 | no=>rw [e] at k; exact False.elim k
theorem Qtj {K:Frag}{mg:Str→Option Value}{W W':WX} (hW:∀x d H,W x d H→W' x d H) {m:M (List D)}{g:MG}{b:MS}{D:Ends}{σ:St}{H:Hp} (q:QlA K mg md P R W (Qct m g b) D σ H):Qm3 (Qvu K mg md P W' m) (tMG K mg md P g) (QlA K mg md P R W b) D σ H:=by
 obtain ⟨ρ,O,F,as,r,s,k⟩:=q;refine ⟨ρ,O,F,as,r,s,?_⟩;unfold Qct at k
 cases e:m ρ O with
 | ex x O'=>rw [e] at k; exact fun d H' F' as' g r' hx=>hW _ _ _ (k d H' F' as' g.toS r' hx)
 | no=>rw [e] at k; exact False.elim k
 | ok ds O1 =>
  rw [e] at k;dsimp only at k;intro J H1 F1 as1 g1 r1 hJ;have k1:=Qcs.gr (R:=R) (W:=W) g1.toS k;refine ⟨fun i m σ' H'=>m=ds.length - i∧i≤ds.length∧∃ρ' O' F' as',GrS P H1 F1 as1 H' F' as'∧RlO K mg O' H' F' as'∧SlO K md P ρ' σ' H' F' as'∧Qcs K mg md P R W D H' F' as' (Qa5 g b (ds.drop i) ρ' O'),⟨ds.length,by simp,Nat.zero_le _,ρ,O1,F1,as1,GrS.refl,r1,s.step g1,by rw [List.drop_zero]; exact k1⟩,?_⟩;rintro i n σ' H' ⟨rfl,hi,ρ',O',F',as',g',r',s',k'⟩
  by_cases hlt:i < ds.length
  ·have hd:=zK hlt;obtain ⟨go,yl⟩:=hJ.turn i _ H' F' as' g' ⟨O',r'⟩ hd;rw [List.drop_eq_getElem_cons hlt] at k';refine .inr ⟨go,fun σ2 H2=>∃ρ2 O2 F2 as2,GrS P H1 F1 as1 H2 F2 as2∧RlO K mg O2 H2 F2 as2∧SlO K md P ρ2 σ2 H2 F2 as2∧Qcs K mg md P R W D H2 F2 as2 (Qa5 g b (ds.drop (i+1)) ρ2 O2),fun σ2 H2 h2=>⟨ds.length - (i+1),by omega,rfl,hlt,h2⟩,fun x H3 y=>?_⟩;obtain ⟨F3,g3,r3,hx⟩:=yl x H3 y;have r3':=r3 O' r';unfold Qa5 at k'
   cases eg:g ds[i] ρ' with
   | none=>rw [eg] at k'; exact False.elim k'
   | some ρ1 =>
    rw [eg] at k';dsimp only at k';refine ⟨ρ',O',F3,as',ds[i],ρ1,r3',s'.step g3,hx,eg,fun σ4 s4=>?_⟩;refine ⟨ρ1,O',F3,as',r3',s4,?_⟩;have g4:GrS P H1 F1 as1 H3 F3 as':=g'.trans g3.toS
    cases eb:b ρ1 O' with
    | nx ρ2 O2 =>
     rw [eb] at k'
     exact fun σ2 H2 F2 as2 g2 r2 s2=>⟨ρ2,O2,F2,as2,g4.trans g2,r2,s2,Qcs.gr g2 (Qcs.gr g3.toS k')⟩
    | ct ρ2 O2 =>
     rw [eb] at k'
     exact fun σ2 H2 F2 as2 g2 r2 s2=>⟨ρ2,O2,F2,as2,g4.trans g2,r2,s2,Qcs.gr g2 (Qcs.gr g3.toS k')⟩
    | bk ρ2 O2 =>
     rw [eb] at k'
     exact fun σ2 H2 F2 as2 g2 r2 s2=>k' σ2 H2 F2 as2 (g3.toS.trans g2) r2 s2
    | rt d O2 =>
     rw [eb] at k'
     exact fun v H2 F2 as2 g2 r2 s2=>k' v H2 F2 as2 (g3.toS.trans g2) r2 s2
    | ex x O2 =>
     rw [eb] at k'
     exact fun d H2 F2 as2 g2 r2 hx=>k' d H2 F2 as2 (g3.toS.trans g2) r2 hx
    | no=>rw [eb] at k'; exact False.elim k'
  ·have hi':i=ds.length:=by omega
   subst hi';refine .inl ⟨hJ.stop H' F' as' g' ⟨O',r'⟩,?_⟩;rw [List.drop_length] at k';exact k' σ' H' F' as' GrS.refl r' s'
theorem Quq {tg iter:Expr}{body:List Stmt}{pos:Pos}{m:M (List D)}{g:MG}{b:MS} (hc:X.calm=true) (hi:VIF X md P tg iter m) (hg:VG X md P tg g) (hb:Qgj X md P R body b) (hp:PassesOwn (model X.prog X.w) X.A X.env X.xe:=by exact PassesOwn.leaving)
  (hs:∀x,foldedSetIterable iter X.env x=pure x:=by intro _; rfl):VSF X md P R (.For tg iter body [] pos) (Qct m g b):=(QkF hp hc hi hg hb hs).imp fun _ _ _ q=>Qtj (fun _ _ _ z=>z.2) q
end
end L2
namespace L2
open PySem PySem.Spec PyProof.Rows PySem.W PySem.Builtin PySem.Builtin.ObjectAttr
theorem QpJ {K:Frag}{h:Heap}{N:Addr}{m:Str→Option Value}{n:Str}{v:Value} (X:K.In h) (G:h.Ns N m) (e:nsIn K N n=some (some v)):m n=some v:=by
 obtain ⟨o,es,ep,ho,hd,_,hf⟩:=G;unfold nsIn at e;split at e
 ·rename_i q;have z:=X _ _ q;rw [ho] at z;cases z;cases hd;split at e
  ·rename_i en he;cases e;rw [←hf];unfold nsFind findBy;rw [←Array.find?_toList,he];rfl
  ·split at e <;> cases e
 ·cases e
def Qk7 (K:Frag) (C:Addr) (bmB:List Value) (newId:String) (fI:Addr):Bool:=match K.lookup C with
 | some ⟨.type "type",_,.cls cd,sl⟩=>(match cd.mro,sl.toList with
  | .ref C'::bm,[_,_,_,_,some (.builtin n),_]=>C' == C&&n == newId && !cd.hasDel&&tailIn K bmB bm&&nsOkIn K cd.ns&&nsIn K cd.ns "__init__" == some (some (.ref fI))&&cd.hasDict
  | _,_=>false)
 | _=>false
theorem Qni {K:Frag}{C fI:Addr}{id:String} (hq:Qk7 K C bmV id fI=true) :
  ∃bm N nm qn bs sn sub ab col dd k0 k1 k2 k3 k5,K.lookup C=some (excClassObj nm qn C N bs bm true sn sub ab col dd k0 k1 k2 k3 k5 id)∧tailIn K bmV bm=true∧nsOkIn K N=true∧nsIn K N "__init__" = some (some (.ref fI)):=by
 unfold Qk7 at hq;split at hq
 case h_2=>cases hq
 case h_1 dd cd sl lk =>
  split at hq
  case h_2=>cases hq
  case h_1 C1 bm k0 k1 k2 k3 nn k5 e1 e2 =>
   rw [zg,zg,zg,zg,zg,zg] at hq;obtain ⟨⟨⟨⟨⟨⟨p1,p2⟩,p3⟩,p4⟩,p5⟩,p6⟩,p7⟩:=hq;have q1:C1=C:=beq_iff_eq.mp p1;have q2:nn=id:=beq_iff_eq.mp p2;subst q1;subst q2
   rcases cd with ⟨nm,bs,mro,ns,qn,hd,sn,sub,ab,col,del⟩
   have e1':mro = .ref C1::bm:=e1
   have p3':del=false:=by
    have z:(!del)=true:=p3
    cases del with
    | false=>rfl
    | true=>cases z
   have p7':hd=true:=p7;subst e1';subst p3';subst p7'
   rcases sl with ⟨ls⟩
   have e2':ls = [k0,k1,k2,k3,some (.builtin nn),k5]:=e2;subst e2';exact ⟨bm,ns,nm,qn,bs,sn,sub,ab,col,dd,k0,k1,k2,k3,k5,lk,p4,p5,beq_iff_eq.mp p6⟩
theorem QjZ {K:Frag} (self:Value):∀{l:List Value},tailIn K bmV l=true→refuseLoop self "__setattr__" l=pure ()
 | [],e=>by rw [show ([]:List Value)=bmV from (beq_iff_eq.mp e).symm]; exact PySem.F.store_ValueError.passes self
 | v::r,e=>by
  unfold tailIn at e
  rcases Bool.or_eq_true_iff.mp e with q | q
  ·rw [beq_iff_eq.mp q];exact PySem.F.store_ValueError.passes self
  ·split at q
   ·split at q
    ·rw [zg,zg] at q;rw [refuseLoop_ref];exact QjZ self q.2
    ·cases q
   ·cases q
def Qit (h:Heap) (C:Addr) (rest:List Value):Heap:=(h.push { cls:=.type "tuple",data:=.seq rest.toArray }).push { cls:=.ref C,data:=.fields #[.ref h.objs.size,.none,.none,.none,.bool false,.none] }
def QfY (C t:Addr) (dxo:Option Addr):Obj:={ cls:=.ref C,dict:=dxo,data:=.fields #[.ref t,.none,.none,.none,.bool false,.none] }
section
variable {prog:Program}{w:World}{A:Around}{E:Value→Shared→Prop}{h:Heap}{g:Array GenState}{d:Drawn}{t:Nat}{os:OsState}
variable {nm q:Str}{C N:Addr}{bs bm bmB:List Value}{hdct:Bool}{sn:List Str}{sub:List Value}{ab:Bool}{col:Option Bool}{dd:Option Addr}{k0 k1 k2 k3 k5:Option Value}{B newId initId:String}
theorem QkU (F:ExcBaseFacts B newId initId bmB) (T:OwnTail h bmB bm) {mN:Str→Option Value}{rest:List Value}{fI:Addr}{oI:Obj}{Q:Fin→Shared→Prop}
  (hC:h.get? C=some (excClassObj nm q C N bs bm hdct sn sub ab col dd k0 k1 k2 k3 k5 newId)) (hn:h.Ns N mN) (hi:mN "__init__" = some (.ref fI)) (hfI:h.get? fI=some oI) (hfc:oI.cls = .type "function")
  (hq:wpAny (model prog w) A (call (.ref fI) (.ref (h.objs.size+1)::rest)) (fun r s'=>r = .none∧Q (.done (.ret (.ref (h.objs.size+1)))) s') E ⟨Qit h C rest,g,d,t,os⟩) (hrest:rest.length≤sizeLine) :
  wpAny (model prog w) A (Builtin.«type.__call__» ⟨.ref C::rest,[]⟩) Q E ⟨h,g,d,t,os⟩:=by
 repeat (first | with_reducible refine wpAny_loadPart_at hC ?_ | with_reducible refine wpAny_madeBy_exc hC ?_ | wp_step)
 refine codeAny_call_builtin_code (Code.quiet_builtin _ F.quiet) (wpAny_check_new_subT F T hC ?_);refine codeAny_exc_new_subT F T hC ?_ hrest;show wpAny _ _ _ _ _ _;have hC₁:=zk { cls:=.ref C,data:=.fields #[.ref h.objs.size,.none,.none,.none,.bool false,.none] }
  (zk { cls:=.type "tuple",data:=.seq rest.toArray } hC)
 have hfI₁:=zk { cls:=.ref C,data:=.fields #[.ref h.objs.size,.none,.none,.none,.bool false,.none] }
  (zk { cls:=.type "tuple",data:=.seq rest.toArray } hfI)
 have hn₁:((h.push { cls:=.type "tuple",data:=.seq rest.toArray }).push { cls:=.ref C,data:=.fields #[.ref h.objs.size,.none,.none,.none,.bool false,.none] }).Ns N mN :=
  let ⟨o,es,ep,e,r⟩:=hn; ⟨o,es,ep,zk _ (zk _ e),r⟩
 have hget:((h.push { cls:=.type "tuple",data:=.seq rest.toArray }).push
   { cls:=.ref C,data:=.fields #[.ref h.objs.size,.none,.none,.none,.bool false,.none] }).get? (h.objs.size+1)=some
   { cls:=.ref C,data:=.fields #[.ref h.objs.size,.none,.none,.none,.bool false,.none] }:=by heap_get
 have hcC:(Value.ref C::bm).contains (.ref C)=true:=by simp
 have T₁:=T.keeps (h':=(h.push { cls:=.type "tuple",data:=.seq rest.toArray }).push { cls:=.ref C,data:=.fields #[.ref h.objs.size,.none,.none,.none,.bool false,.none] })
  fun b o e=>zk _ (zk _ e)
 unfold isInstance
 repeat (first | with_reducible refine wpAny_loadPart_at hget ?_ | (with_reducible refine wpAny_isSubtype_exc hC₁ ?_; rw [hcC]) | wp_step)
 show wpAny _ _ (typeLookup (.ref C) _) _ _ _;refine wpAny_typeLookup_tail hC₁ hn₁ T₁ F.mroIs F.init.lookup ?_;rw [hi];refine zF (za ?_);unfold bindSpecial;refine za (wpAny_typeOf (T:="function") ⟨_,hfI₁,hfc⟩ ?_);rw [if_pos (by decide)];refine zb (za (zo hq (fun r s' hr=>?_) fun _ _ x=>x));obtain ⟨rfl,hQ⟩:=hr
 wp_walk
 exact hQ
theorem Qp0 (F:ExcBaseFacts B newId initId bmB) (T:OwnTail h bmB bm) {mN:Str→Option Value}{rest:List Value}{fI:Addr}{oI:Obj}{Q:Value→Shared→Prop}
  (hC:h.get? C=some (excClassObj nm q C N bs bm hdct sn sub ab col dd k0 k1 k2 k3 k5 newId)) (hn:h.Ns N mN) (hi:mN "__init__" = some (.ref fI)) (hfI:h.get? fI=some oI) (hfc:oI.cls = .type "function")
  (hq:wpAny (model prog w) (A.under (.builtin "type.__call__" ⟨.ref C::rest,[]⟩)) (call (.ref fI) (.ref (h.objs.size+1)::rest)) (fun r s'=>r = .none∧Q (.ref (h.objs.size+1)) s') E ⟨Qit h C rest,g,d,t,os⟩) (hrest:rest.length≤sizeLine) :
  wpAny (model prog w) A (call (.ref C) rest) Q E ⟨h,g,d,t,os⟩:=by
 have f1:=tc_lookup;have f2:=tc_bind (.ref C);have hT:(⟨h,g,d,t,os⟩:Shared).TypeIs (.ref C) "type":=⟨_,hC,rfl⟩;refine zQ (codeAny_of_tree ?_);show wpAny _ _ (callAny (.ref C) _) _ _ _
 repeat (any_goals (first | assumption | with_reducible refine wpAny_loadPart_at hC ?_ | wp_step))
 refine ⟨rfl,?_⟩;exact codeAny_call_builtin_at (Code.quiet_builtin _ (by decide +kernel)) entry_typeCall (wpAny_check_type_call_sub hC (QkU F T hC hn hi hfI hfc hq hrest))
theorem QlG {M:Model}{env:Env}{s:Shared}{x:Sem Value}{Q:Flow→Shared→Prop} (hbase:bm.contains (.type "BaseException")=true) (hh:A.handled=none)
  (h:wpAny M A x (fun v s₁=>∃e t dxo,v = .ref e∧s₁.heap.get? C=some (excClassObj nm q C N bs bm hdct sn sub ab col dd k0 k1 k2 k3 k5 newId)∧s₁.heap.get? e=some (QfY C t dxo)∧E (.ref e) s₁) E s) :
  wpAny M A (raiseStmt env (some x) none) Q E s:=by
 have hcB:(Value.ref C::bm).contains (.type "BaseException")=true:=by rw [List.contains_cons,hbase,Bool.or_true]
 unfold raiseStmt;refine za (zo h (fun v s₁ h₁=>?_) fun _ _ x=>x);obtain ⟨e,t,dxo,rfl,hC,he,hE⟩:=h₁;unfold QfY at he;obtain ⟨hp,g,d,tk,os⟩:=s₁
 repeat (first | with_reducible refine wpAny_loadPart_at he ?_ | with_reducible refine wpAny_loadPart_at hC ?_ | (with_reducible refine wpAny_isSubtype_exc hC ?_; rw [hcB]) | wp_step)
 exact wpAny_raiseNew_none hh hE
theorem Quj {K:Frag}{x:Addr}{ox:Obj}{name:Str}{tk:Tok}{v:Value}{cd:ClassData}{Q:Fin→Shared→Prop} (X:K.In h) (hx:h.get? x=some ox) (hc:ox.cls = .ref C) (hnd:ox.dict=none) (hda:∃ws,ox.data = .fields ws)
  (hcd:clsIn K C=some cd) (hhd:cd.hasDict=true) (hrf:refuseLoop (.ref x) "__setattr__" cd.mro=pure ()) (hna:findIn K (.ref C) name=some none)
  (hq:∀h' tk',h'.Ns1 h.objs.size (fun y=>if y=name then some v else none)→h'.get? x=some { ox with dict:=some h.objs.size }→(∀b o,b≠x→h.get? b=some o→h'.get? b=some o)→Q (.done (.ret .none)) ⟨h',g,d,tk',os⟩) :
  wpAny (model prog w) A (Builtin.«object.__setattr__» ⟨[.ref x,.str name tk,v],[]⟩) Q E ⟨h,g,d,t,os⟩:=by
 obtain ⟨ws,hda⟩:=hda;have L0:Looks (model prog w) h (typeOf (.ref x)) (.ref C):=hc ▸ (Looks.ld hx).andThen .now;have hm:Looks (model prog w) h (mroOf (.ref C)) cd.mro:=(looks_clsIn X hcd).andThen .now;have L2:=looks_findIn (M:=model prog w) X hna;rw [osa_eq,refuse_eq];refine za (za (L0.at (za (hm.at ?_))));rw [hrf];refine zb (za (L0.at (za (L2.at (za (zb ?_))))));show wpAny _ _ (storeInOwnDict _ _ _ _ _ _) _ _ _;unfold storeInOwnDict;refine za (zb (za ?_));unfold ownDictForStores instanceDict;dsimp only;refine za (wpAny_loadPart hx ?_);obtain ⟨oc,odi,oda,osl⟩:=ox;dsimp only at hc hnd hda
 subst hc hnd hda;refine za ((looks_clsIn X hcd).at ?_);rw [hhd];rw [if_neg (by decide),if_neg (by simp [typeHasDict])];have hx₁:=zk { cls:=.type "dict",data:=.dict #[] } hx;have hxs:x≠h.objs.size:=zl (zd hx);refine za (wpAny_alloc' ?_);refine za (wpAny_update' hx₁ ?_);refine zb ?_;have hgd:((h.push { cls:=.type "dict",data:=.dict #[] }).update x fun o=>{ cls:=o.cls,dict:=some h.objs.size,data:=o.data,slots:=o.slots }).get? h.objs.size=some { cls:=.type "dict",data:=.dict #[] } :=
  (Heap.get?_update_ne _ _ _ _ hxs.symm).trans (Heap.get?_push_at rfl rfl)
 have hnd:((h.push { cls:=.type "dict",data:=.dict #[] }).update x fun o=>{ cls:=o.cls,dict:=some h.objs.size,data:=o.data,slots:=o.slots }).Ns h.objs.size (fun _=>none) :=
  ⟨_,#[],_,hgd,rfl,fun e he=>absurd he (by simp),fun _=>rfl⟩
 show wpAny _ _ (storeInDict h.objs.size (.str name tk) name v) _ _ _;unfold storeInDict newKeyGuard;refine za (zb (za (wpAny_nsSet1 (Heap.Ns1.of_empty hnd) fun h' hn' hs=>?_)));obtain ⟨oD,esD,epD,hoD,hdD,hcD⟩:=hn'.count (Within.cons name v Within.nil);refine za (wpAny_lookBehind hoD (by rw [hdD]; exact pastItsLine_dict (zA hcD (by rw [zq,zI,sizeLine_eq]; omega))) ?_)
 wp_walk
 refine hq h' _ hn' ((hs.2 x hxs).trans (Heap.get?_update_self _ hx₁ rfl)) fun b ob hbx hb=>?_
 exact (hs.2 b (zl (zd hb))).trans ((Heap.get?_update_ne _ _ _ _ hbx).trans (zk _ hb))
end
def xoK (C t ea:Addr) (dxo:Option Addr):HO:=.ext fun h=>h.get? ea=some (QfY C t dxo)
theorem QqE {P:Program}{w:World}{H:Hp}{h:Heap}{C t ea:Addr}{dxo:Option Addr} (e:h.get? ea=some (QfY C t dxo)):Qb3 P w H h ea (xoK C t ea dxo):=⟨e,⟨_,e⟩,fun _ _ z k=>k _ z⟩
theorem Qq7 {P:Program}{w:World}{H:Hp}{h:Heap}{C t ea:Addr}{dxo:Option Addr} (q:Qb3 P w H h ea (xoK C t ea dxo)):h.get? ea=some (QfY C t dxo):=q.1
def spI (C:Addr) (name:Str):Sp:=fun vs H Q _=>∃ea t v,vs = [.ref ea,v]∧H ea=some (xoK C t ea none)∧∀dx od,H dx=none→dx≠ea→Q .non (upd (upd H dx (.frz od (.xd [(name,v)]))) ea (xoK C t ea (some dx)))
structure QmK (K:Frag) (C fI:Addr) (name:Str):Prop where
 cl:Qk7 K C bmV "ValueError.__new__" fI=true
 sa:findIn K (.ref C) "__setattr__" = some (some (.builtin "object.__setattr__"))
 na:findIn K (.ref C) name=some none
 ob:mroIn K C (.type "object")=some true
section
variable {X:Cx}{pins:List (Addr×Obj)}{σ:St}{H:Hp}{s:Shared}{ea C fI t:Addr}{name:Str}{v:V}{u:Value}
theorem Qt5 {A:Around}{E:Value→Shared→Prop}{Q:Unit→Shared→Prop} (I:Inv X pins σ H s) (Z:QmK X.K C fI name) (e:H ea=some (xoK C t ea none)) (rv:RelV v u)
  (hq:∀dx od s',H dx=none→dx≠ea→Inv X pins σ (upd (upd H dx (.frz od (.xd [(name,v)]))) ea (xoK C t ea (some dx))) s'→Q () s'):wpAny (model X.prog X.w) A (setAttr (.ref ea) name u) Q E s:=by
 have hx:=Qq7 (I.hok ea _ e);obtain ⟨bm,N,nm,qn,bs,sn,sub,ab,col,dd,k0,k1,k2,k3,k5,lk,ht,_,_⟩:=Qni Z.cl;have SF:=PySem.F.store_object
 obtain ⟨cd,hcl,hm,hhd⟩:∃cd,clsIn X.K C=some cd∧cd.mro = .ref C::bm∧cd.hasDict=true:=by
  refine ⟨_,by unfold clsIn; rw [show X.K.lookup C=_ from lk],rfl,rfl⟩
 refine set_plain (od:=none) I.kIn ⟨hx,rfl,rfl,trivial⟩ Z.sa ?_;have L0:Looks (model X.prog X.w) s.heap (isInstance (.ref ea) (.type "object")) true:=(show Looks (model X.prog X.w) s.heap (typeOf (.ref ea)) (.ref C) from (Looks.ld hx).andThen .now).andThen (looks_mroIn I.kIn Z.ob);refine codeAny_call_builtin SF.slot.plain SF.entry (@check_slot (model X.prog X.w) _ _ { s with toks:=s.toks+1 } "object.__setattr__" "object" "__setattr__" (.ref ea) [.str name s.toks,u] [] _ SF.kind SF.split L0 (SF.args (.ref ea) (.str name s.toks) u) ?_)
 refine Quj I.kIn hx rfl rfl ⟨_,rfl⟩ hcl hhd (by rw [hm,refuseLoop_ref]; exact QjZ _ ht) Z.na fun h' tk' hns hex hk=>?_
 show Q () _;have hfr:H s.heap.objs.size=none:=I.hok.fresh (zc _);have hne:s.heap.objs.size≠ea:=(zl (zd hx)).symm;obtain ⟨od,es,ep,hod,hr⟩:=id hns;refine hq s.heap.objs.size od _ hfr hne (I.un ⟨fun b o q n _ _=>?_,fun b o q n _ _=>?_,fun b o q n _=>?_,fun b o q _=>?_,fun b xs q=>?_,fun b o u' q=>?_,fun b ps q=>?_⟩ fun b o q=>?_)
 ·exact hk b o (fun z=>by rw [z,e] at n; cases n) q
 ·exact ⟨o.slots,hk b o (fun z=>by rw [z,e] at n; cases n) q⟩
 ·rw [Qam (fun z=>by rw [z,e] at n; cases n),Qam (zl (zd q))];exact n
 ·by_cases z:b=ea
  ·exact ⟨_,z ▸ hex⟩
  ·exact ⟨o,hk b o z q⟩
 ·rw [Qam (fun z=>by rw [z,e] at q; cases q),Qam (fun z=>by rw [z,hfr] at q; cases q)];exact q
 ·rw [Qam (fun z=>by rw [z,e] at q; cases q),Qam (fun z=>by rw [z,hfr] at q; cases q)];exact q
 ·refine ⟨#[],?_⟩;rw [Qam (fun z=>by rw [z,e] at q; cases q),Qam (fun z=>by rw [z,hfr] at q; cases q),Array.append_empty];exact q
 ·by_cases z:b=ea
  ·subst z;rw [QaE] at q;cases q;exact QqE hex
  ·rw [Qam z] at q
   by_cases y:b=s.heap.objs.size
   ·subst y;rw [QaE] at q;cases q;refine ⟨hod,_,hns,fun f=>?_⟩
    by_cases hf:f=name
    ·rw [if_pos hf,hf];show QdN (List.lookup name [(name,v)]) _;rw [show List.lookup name [(name,v)]=some v by simp [List.lookup]];exact rv
    ·have hb:(f == name)=false:=beq_eq_false_iff_ne.mpr hf;rw [if_neg hf,show List.lookup f [(name,v)]=none by simp only [List.lookup,hb]];exact True.intro
   ·rw [Qam y] at q
    refine (I.hok b o q).stay (fun b' u' hb' q'=>hk b' u' (fun x=>?_) q') (fun b' q'=>?_) fun b' xs q'=>?_
    ·rcases hb' with rfl | hb'
     ·exact z x
     ·rw [x,e] at hb';cases hb'
    ·rw [Qam (fun x=>by rw [x,e] at q'; cases q'),Qam (fun x=>by rw [x,hfr] at q'; cases q')];exact q'
    ·rw [Qam (fun x=>by rw [x,e] at q'; cases q'),Qam (fun x=>by rw [x,hfr] at q'; cases q')];exact q'
def QwA (C:Addr) (name:Str):TS:=fun D σ H=>∃ea t v,σ[0]? = some (some (.ref ea))∧σ[1]? = some (some v)∧H ea=some (xoK C t ea none)∧∀dx od,H dx=none→dx≠ea→D.nx σ (upd (upd H dx (.frz od (.xd [(name,v)]))) ea (xoK C t ea (some dx)))
theorem QtH {sf pn:Str}{p1 p2 p3 p4:Pos} (Z:QmK X.K C fI name) (h0:X.N[0]? = some sf) (h1:X.N[1]? = some pn) (v0:Vis X.env.scope sf) (v1:Vis X.env.scope pn) (d0:(sf == ("__debug__":Str))=false) (d1:(pn == ("__debug__":Str))=false) (c0:(sf == ("__classdict__":Str))=false) (c1:(pn == ("__classdict__":Str))=false)
  (hs:swapsWith (.Name pn p3) (some (.Attribute (.Name sf p1) name p2)) p4.line X.env=pure false):PS X (.Assign [.Attribute (.Name sf p1) name p2] (.Name pn p3) p4) (QwA C name):=by
 intro pins s σ H D I q;obtain ⟨ea,t,v,e0,e1,eh,k⟩:=q;refine plainObj_wpAny_Assign_Attribute (thn (Qfm (i:=1) h1 v1 d1 c1 pins s σ H (fun v' H1=>v'=v∧H1=H) I ⟨v,e1,rfl,rfl⟩) fun u s1 z=>?_) hs;obtain ⟨_,_,I1,ru,rfl,rfl⟩:=z
 refine thn (Qfm (i:=0) h0 v0 d0 c0 pins s1 σ _ (fun v' H1=>v' = .ref ea∧H1=_) I1 ⟨.ref ea,e0,rfl,rfl⟩) fun ov s2 z=>?_
 obtain ⟨_,_,I2,ro,rfl,rfl⟩:=z;obtain rfl:ov=Value.ref ea:=ro
 exact Qt5 I2 Z eh ru fun dx od s3 n1 n2 I3=>⟨σ,_,I3,k dx od n1 n2⟩
theorem Inv.dropH {H':Hp}{φ:Heap→Prop} (I:Inv X pins σ H s) (he:H ea=some (.ext φ)) (h1:∀b,b≠ea→H' b=H b) (h2:H' ea=none):Inv X pins σ H' s:=by
 have nn:∀b,H b=none→H' b=none:=fun b n=>by
  by_cases z:b=ea
  ·rw [z]; exact h2
  ·rw [h1 b z]; exact n
 have ne:∀b o,H b=some o→(∀φ,o≠.ext φ)→H' b=some o:=fun b o q n=>by
  rw [h1 b fun z=>by rw [z,he] at q; cases q; exact n _ rfl];exact q
 refine ⟨I.ok,I.os,I.bare,⟨I.base.keep,I.base.slot,fun b o q n hx=>nn b (I.base.free b o q n hx),I.base.there,fun b xs q=>ne b _ (I.base.tups b xs q) (fun _ z=>nomatch z),fun b o u q=>ne b _ (I.base.frzs b o u q) (fun _ z=>nomatch z),fun b ps q=>?_⟩,I.loc,I.cell,nn _ I.free,fun x c q=>nn _ (I.freeC x c q),fun p hp=>?_,fun b o q=>?_,I.len⟩
 ·obtain ⟨more,q'⟩:=I.base.tbls b ps q;exact ⟨more,ne b _ q' fun _ z=>nomatch z⟩
 ·obtain ⟨e,n,nl,nf,d⟩:=I.pin p hp;exact ⟨e,nn _ n,nl,nf,d⟩
 ·have hb:b≠ea:=fun z=>by rw [z,h2] at q; cases q
  rw [h1 b hb] at q
  exact (I.hok b o q).stay (fun _ _ _ e=>e) (fun b' q'=>ne b' _ q' fun _ z=>nomatch z) fun b' xs q'=>ne b' _ q' fun _ z=>nomatch z
end
def QnE (P:Program) (w:World) (K:Frag) (mg:Str→Option Value) (base:Heap) (c name:Str) (k:Nat):Prop :=
 ∃(C fI:Addr) (fd:FuncData) (ps:List Str),mg c=some (.ref C)∧QmK K C fI name∧isFn K (.ref fI)=true∧Binds K fd ps []∧QbH P w K mg base CX0 k fI fd ps (spI C name)
section
variable {Pr:Program}{w:World}{K:Frag}{mg:Str→Option Value}{base:Heap}
theorem Qw6 {c name qual sf pn:Str}{st:Stmt}{C fI:Addr}{fd:FuncData}{p1 p2 p3 p4:Pos} (hC:mg c=some (.ref C)) (Z:QmK K C fI name) (hf:isFn K (.ref fI)=true) (Fn:Fun K "__init__" qual st fI fd) (S:QaA [sf,pn] [sf,pn] (Qai st))
  (hb:∀(kV doc pm:Value) (an:Option Addr) (cdv ct:Value) (us:List Value),us.length = [sf,pn].length→bindArgs (PySem.W.fnOf "__init__" qual (QbQ st) (QaX st) (Qai st) .none kV doc pm an cdv ct) ⟨us,[]⟩=pure ([sf,pn].zip us))
  (hbo:QaX st = [.Assign [.Attribute (.Name sf p1) name p2] (.Name pn p3) p4]) (v0:Vis (Qai st) sf) (v1:Vis (Qai st) pn) (d0:(sf == ("__debug__":Str))=false) (d1:(pn == ("__debug__":Str))=false) (c0:(sf == ("__classdict__":Str))=false) (c1:(pn == ("__classdict__":Str))=false)
  (hs:∀L f cdv,swapsWith (.Name pn p3) (some (.Attribute (.Name sf p1) name p2)) p4.line (envOfC qual (Qai st) L f cdv)=pure false):QnE Pr w K mg base c name 1:=by
 have hbi:=Fn.binds hb;obtain ⟨oc,od,kV,doc,pmv,an,cdv,ct,osl,rfl,lk,hcd⟩:=Fn.ex;refine ⟨C,fI,_,_,hC,Z,hf,hbi,QpP lk hcd S (fun vs H Q E h=>?_) fun A outer s H vs Q E hr h=>?_⟩
 ·obtain ⟨ea,t,v,rfl,_⟩:=h;rfl
 ·obtain ⟨ea,t,v,rfl,e,k⟩:=h;rw [hbo];exact ⟨_,Qor (QtH (X:=Qcw CX0 Pr w K mg base [sf,pn] qual (Qai st) fI cdv A outer s H E) Z rfl rfl v0 v1 d0 d1 c0 c1 (hs _ _ _)),ea,t,v,rfl,rfl,e,k⟩
end
section
variable {prog:Program}{w:World}{A:Around}{E:Value→Shared→Prop}{s:Shared}{env:Env}
variable {nm q:Str}{C N:Addr}{bs bm:List Value}{hdct:Bool}{sn:List Str}{sub:List Value}{ab:Bool}{col:Option Bool}{dd:Option Addr}{k0 k1 k2 k3 k5:Option Value}{newId:String}
theorem Qn7 {x:Str}{np cpos pos:Pos}{args:List Expr}{Q:Flow→Shared→Prop} (hbase:bm.contains (.type "BaseException")=true) (hh:A.handled=none) (hplain:(backTo cpos (starEach args env)).any (·.1)=false)
  (h:wpAny (model prog w) A (eval (.Name x np) env) (fun f s₁=>f = .ref C∧wpAny (model prog w) A (evalArgs (.ref C) true (backTo cpos (starEach args env)) [])
   (fun a s₂=>a.kw = []∧s₂.heap.get? C=some (excClassObj nm q C N bs bm hdct sn sub ab col dd k0 k1 k2 k3 k5 newId)∧wpAny (model prog w) A (call (.ref C) a.pos) (fun v s₃=>∃e t dxo,v = .ref e∧s₃.heap.get? C=some (excClassObj nm q C N bs bm hdct sn sub ab col dd k0 k1 k2 k3 k5 newId)∧s₃.heap.get? e=some (QfY C t dxo)∧E (.ref e) s₃) E s₂) E s₁) E s) :
  wpAny (model prog w) A (exec (.Raise (some (.Call (.Name x np) args [] cpos)) none pos) env) Q E s:=by
 rw [arm_exec_Raise]
 first
  | refine za (wpAny_standAt (QlG (C:=C) (nm:=nm) (q:=q) (N:=N) (bs:=bs) (bm:=bm) (hdct:=hdct) (sn:=sn) (sub:=sub) (ab:=ab) (col:=col) (dd:=dd) (k0:=k0) (k1:=k1) (k2:=k2) (k3:=k3) (k5:=k5) (newId:=newId) hbase hh (za (zo (wpAny_Call_ofName (zo h (fun f s₁ h₁=>?_) fun _ _ x=>x)) (fun v s₃ h₃=>za (wpAny_standAt (zb h₃))) fun _ _ x=>x))))
  | (simp only [evalOpt,Option.map]; refine za (wpAny_standAt (QlG (C:=C) (nm:=nm) (q:=q) (N:=N) (bs:=bs) (bm:=bm) (hdct:=hdct) (sn:=sn) (sub:=sub) (ab:=ab) (col:=col) (dd:=dd) (k0:=k0) (k1:=k1) (k2:=k2) (k3:=k3) (k5:=k5) (newId:=newId) hbase hh (za (zo (wpAny_Call_ofName (zo h (fun f s₁ h₁=>?_) fun _ _ x=>x)) (fun v s₃ h₃=>za (wpAny_standAt (zb h₃))) fun _ _ x=>x)))))
 obtain ⟨rfl,h₁⟩:=h₁;unfold callWith;refine za (zF (zo h₁ (fun a s₂ h₂=>za (wpAny_standAt ?_)) fun _ _ x=>x));obtain ⟨apos,akw⟩:=a;obtain ⟨hkw,hC,h₂⟩:=h₂;obtain rfl:akw = []:=hkw;obtain ⟨hp,g,d,tk,os⟩:=s₂;simp only [hplain];refine za (wpAny_keeperOf_exc hC ?_);exact za (zo h₂ (fun v s₃ h₃=>za (zF (wpAny_point (zb h₃)))) fun _ _ z=>z)
end
section
variable {X:Cx}{md:List Md}{P:Pt}{R:RR}
def QeW (c name:Str) (m:M D):MS:=fun ρ O=>match m ρ O with
 | .ok d O'=>.ex ⟨c,[(name,d)]⟩ O'
 | _=>.no
theorem QlZ {c name:Str}{k:Nat}{p cpos pos:Pos}{a:Expr}{m:M D} (Cn:QnE X.prog X.w X.K X.mg X.base c name k) (hr:QaH (k+1) X.A) (hc:X.calm=true) (ha:VE X md P a m) (hg:Gl X c:=by rfl) (hd:(c == ("__debug__":Str))=false:=by decide)
  (hs1:starEach [a] X.env=(false,eval a X.env)::starEach [] X.env:=by exact Qa7 rfl) (hpl:(backTo cpos (starEach [a] X.env)).any (·.1)=false:=by rfl) :
  VSF X md P R (.Raise (some (.Call (.Name c p) [a] [] cpos)) none pos) (QeW c name m):=by
 intro pins s σ H D I q;obtain ⟨ρ,O,F,as,r,sl,k0⟩:=q;obtain ⟨C,fI,fd,ps,hC,Z,hf,hb,Fn⟩:=Cn;unfold QeW at k0
 cases em:m ρ O with
 | ex x O'=>rw [em] at k0; exact False.elim k0
 | no=>rw [em] at k0; exact False.elim k0
 | ok d O' =>
  rw [em] at k0;dsimp only at k0;obtain ⟨bm,N,nm,qn,bs,sn,sub,ab,col,dd,kk0,kk1,kk2,kk3,kk5,lk,ht,hno,hin⟩:=Qni Z.cl;refine Qn7 (C:=C) (nm:=nm) (q:=qn) (N:=N) (bs:=bs) (bm:=bm) (hdct:=true) (sn:=sn) (sub:=sub) (ab:=ab) (col:=col) (dd:=dd) (k0:=kk0) (k1:=kk1) (k2:=kk2) (k3:=kk3) (k5:=kk5) (newId:="ValueError.__new__") ((tail_of_in I.kIn ht).hasType PySem.F.excBase_ValueError.hasBase) (I.ok.hd hc) hpl (QdM I hg hC ⟨rfl,?_⟩ hd);have hA:=QbY ha Qc6 hs1 cpos pins s σ H (fun vs H1=>∃v F1 as1,vs = [v]∧Gr H F as H1 F1 as1∧RlO X.K X.mg O' H1 F1 as1∧Rp X.K F1 as1 v d) I ⟨ρ,O,F,as,d,O',r,sl,em,fun v H1 F1 as1 g1 r1 hv=>⟨v,F1,as1,rfl,g1,r1,hv⟩⟩
  rw [hs1] at hA ⊢;refine Calls.evalArgs_plain (thn hA fun us s1 z=>?_);obtain ⟨vs,H1,I1,rv,v,F1,as1,rfl,g1,r1,hv⟩:=z;obtain ⟨u,rfl,ru⟩:=vals1 rv;refine ⟨rfl,I1.kIn _ _ lk,?_⟩;have hfr:H1 (s1.heap.objs.size+1)=none:=I1.hok.fresh (Nat.le_succ _)
  have kp:∀b o,s1.heap.get? b=some o→(Qit s1.heap C [u]).get? b=some o:=fun b o e=>zk _ (zk _ e)
  have hge:(Qit s1.heap C [u]).get? (s1.heap.objs.size+1)=some (QfY C s1.heap.objs.size none):=by
   unfold Qit QfY;exact Heap.get?_push_at (by rw [Heap.size_push]) rfl
  have I2:Inv X pins σ (upd H1 (s1.heap.objs.size+1) (xoK C s1.heap.objs.size (s1.heap.objs.size+1) none)) { s1 with heap:=Qit s1.heap C [u] }:=I1.laid (t':=s1.toks) kp (Nat.le_succ _) (QqE hge);have hns:s1.heap.Ns N _:=.of_isNs (isNs_of_in I1.kIn hno);have hfo:typeIn X.K (.ref fI)=some (.type "function"):=beq_iff_eq.mp hf
  obtain ⟨oI,hoI,hoc⟩:∃oI,s1.heap.get? fI=some oI∧oI.cls = .type "function":=by
   obtain ⟨o,ho,hc'⟩:=Option.map_eq_some_iff.mp (show (X.K.lookup fI).map (·.cls)=some (.type "function") from hfo);exact ⟨o,I1.kIn _ _ ho,hc'⟩
  obtain ⟨hh,gg,dr,tk,os⟩:=s1;refine Qp0 PySem.F.excBase_ValueError (tail_of_in I1.kIn ht) (I1.kIn _ _ lk) hns (QpJ I1.kIn hns hin) hoI hoc ?_ (by rw [sizeLine_eq]; show (1:Nat)≤16777216; decide);have sp:spI C name [.ref (hh.objs.size+1),v] (upd H1 (hh.objs.size+1) (xoK C hh.objs.size (hh.objs.size+1) none)) (fun v' H2=>v' = .non∧∃dx od,upd H1 (hh.objs.size+1) (xoK C hh.objs.size (hh.objs.size+1) none) dx=none∧dx≠hh.objs.size+1∧H2=upd (upd (upd H1 (hh.objs.size+1) (xoK C hh.objs.size (hh.objs.size+1) none)) dx (.frz od (.xd [(name,v)]))) (hh.objs.size+1) (xoK C hh.objs.size (hh.objs.size+1) (some dx))) (fun _ _ _=>False) :=
   ⟨_,_,v,rfl,QaE,fun dx od n1 n2=>⟨rfl,dx,od,n1,n2,rfl⟩⟩
  have hl:=Fn.len _ _ _ _ sp;have bi:=hb { heap:=Qit hh C [u],gens:=gg,drawn:=dr,toks:=tk,os:=os } [.ref (hh.objs.size+1),u] I2.kIn hl;rw [zG] at bi;refine zQ (codeAny_mono (Fn.run _ X.stack _ _ ⟨[.ref (hh.objs.size+1),u],[]⟩ [.ref (hh.objs.size+1),u] [.ref (hh.objs.size+1),v] _ _ (hr.make C [u] []) (I2.env0.make C [u] []) bi (.cons rfl (.cons ru .nil)) sp) fun res s2 hq=>?_)
  cases res with
  | error e=>exact False.elim hq
  | ok fl =>
   cases fl with
   | ret u' =>
    obtain ⟨v',H2,I3,rv',rfl,dx,od,n1,n2,rfl⟩:=I2.after hq;refine ⟨rv',?_⟩;have hx:=Qq7 (I3.hok (hh.objs.size+1) _ QaE)
    have e1:H1 dx=none:=by rw [Qam n2] at n1; exact n1
    have I4:Inv X pins σ (upd H1 dx (.frz od (.xd [(name,v)]))) s2:=I3.dropH (ea:=hh.objs.size+1) QaE (fun b hb=>by
     rw [Qam hb];unfold upd
     rw [if_neg hb]) (by rw [Qam n2.symm]; exact hfr)
    refine ⟨_,_,_,rfl,I3.kIn _ _ lk,hx,?_⟩;have fN:F1 dx=none:=r1.frF e1;have g2:Gr H1 F1 as1 (upd H1 dx (.frz od (.xd [(name,v)]))) (upd F1 dx (.frz od (.xd [(name,v)]))) as1:=(Gr.lay e1).frz e1 fN;have r2:RlO X.K X.mg O' (upd H1 dx (.frz od (.xd [(name,v)]))) (upd F1 dx (.frz od (.xd [(name,v)]))) as1:=(r1.lay e1).frz QaE fN (fun z=>r1.all z e1) rfl;have wx:=k0 (some dx) _ _ as1 (g1.trans g2).toS r2 (.inr ⟨dx,od,[(name,v)],rfl,QaE,rfl,Rps.cons (Rp.gr hv g2) Rps.nil⟩);refine wx.1 pins σ s2 (hh.objs.size+1) C hC I4 ⟨_,_,_,hx,rfl,rfl,rfl,rfl,rfl,by rw [Qam n2.symm]; exact hfr,Heap.get?_none_of_le (zA I1.sz (Nat.le_succ _))⟩
   | next=>exact False.elim hq
   | brk=>exact False.elim hq
   | cont=>exact False.elim hq
end
end L2
namespace L2
open PySem PySem.Spec PyProof.Rows PySem.W
def Cx.inH (X:Cx) (ea:Addr):Cx:={ X with A:=X.A.mark (some (.ref ea)),calm:=false,xe:=fun _ _=>False }
def xcO (oe:Obj):HO:=.frz oe (.ext fun _=>True)
section
variable {X:Cx}{md:List Md}{P:Pt}{R:RR}{pins:List (Addr×Obj)}{σ:St}{H:Hp}{s:Shared}{ea:Addr}{oe:Obj}
theorem Inv.inH (I:Inv X pins σ H s) (ea:Addr):Inv (X.inH ea) pins σ H s:=by
 have ok:=I.ok;exact ⟨⟨ok.mod,ok.kind,ok.glob,ok.blt,ok.above,ok.inj,ok.has,ok.cab,(fun z=>(nomatch z)),ok.frames,ok.stk,ok.exf,ok.bs,ok.bsz,ok.noex,ok.exfs,ok.funs,ok.frf⟩,I.os,I.bare,I.base,I.loc,I.cell,I.free,I.freeC,I.pin,I.hok,I.len⟩
theorem Inv.outH (ok:X.Ok) (I:Inv (X.inH ea) pins σ H s):Inv X pins σ H s:=⟨ok,I.os,I.bare,I.base,I.loc,I.cell,I.free,I.freeC,I.pin,I.hok,I.len⟩
theorem Inv.trackX {ws:Array Value} (I:Inv X pins σ H s) (he:s.heap.get? ea=some oe) (hd:oe.data = .fields ws) (hn:H ea=none) (h0:X.s₀.heap.get? ea=none) (hl:ea≠X.env.locals) (hp:∀p∈X.pn++pins,p.1≠ea):Inv X pins σ (upd H ea (xcO oe)) s:=by
 have ne:∀b o,H b=some o→upd H ea (xcO oe) b=some o:=fun b o q=>by
  rw [Qam (Qax q hn)];exact q
 refine ⟨I.ok,I.os,I.bare,⟨I.base.keep,I.base.slot,fun b o q n hx=>?_,I.base.there,fun b xs q=>ne b _ (I.base.tups b xs q),fun b o u q=>ne b _ (I.base.frzs b o u q),fun b ps q=>?_⟩,I.loc,I.cell,?_,fun x c q=>?_,fun p hp'=>?_,fun b o q=>?_,I.len⟩
 ·rw [Qam (fun z=>by rw [z,h0] at q; cases q)];exact I.base.free b o q n hx
 ·obtain ⟨more,q'⟩:=I.base.tbls b ps q;exact ⟨more,ne b _ q'⟩
 ·rw [Qam hl.symm];exact I.free
 ·rw [Qam (fun z=>?_)]
  ·exact I.freeC x c q
  ·obtain ⟨v,o,ho,hc⟩:=I.cell x c q;rw [z,he] at ho;cases ho;rw [hd] at hc;cases hc
 ·obtain ⟨e,n,nl,nf,d⟩:=I.pin p hp';exact ⟨e,by rw [Qam (hp p hp')]; exact n,nl,nf,d⟩
 ·by_cases z:b=ea
  ·subst z;rw [QaE] at q;cases q;exact ⟨he,True.intro,⟨_,he⟩,fun _ _ _ _=>True.intro⟩
  ·rw [Qam z] at q
   exact (I.hok b o q).stay (fun _ _ _ e=>e) (fun b' q'=>ne b' _ q') fun b' xs q'=>ne b' _ q'
def D3F (D:Ends) (i:Nat):Ends:={ nx:=fun σ' H'=>D.nx (σ'.set i none) H',rt:=D.rt }
def HsF (X:Cx) (D:Ends) (σ:St) (H:Hp) (ea C:Addr) (dxo:Option Addr):List ExceptHandler→Prop
 | .ExceptHandler (some (.Name T p)) (some n) (b₀::suite) pos::rest=>∃A,X.mg T=some (.ref A)∧Gl X T∧(T == ("__debug__":Str))=false ∧
   ((exmOne X.K (.ref C) (.ref A)=some false∧HsF X D σ H ea C dxo rest)∨(exmOne X.K (.ref C) (.ref A)=some true∧∃i,X.N[i]? = some n∧X.env.kindOf n=some .local ∧
    ∀oe:Obj,oe.cls = .ref C→oe.dict=dxo→(∃ws,oe.data = .fields ws)→∃t,PSs (X.inH ea) (b₀::suite) t∧t (D3F D i) (σ.set i (some (.ref ea))) (upd H ea (xcO oe))))
 | _=>False
theorem QtJ {D:Ends}{B:Heap}{C:Addr}{a0:Value}{dxo:Option Addr} (hst:X.stack=X.env::X.outer) (hfr:X.env.frame=some X.env.locals) (hN:X.N.Nodup) (hn:H ea=none) (h0:X.s₀.heap.get? ea=none) (hp:∀p∈X.pn++pins,p.1≠ea)
  (inv:∀h2:Heap,B.StaysIn h2→s.heap.UpToSlots h2→Inv X pins σ H { s with heap:=h2 }) (fl:Heap.FlyingW B (X.env::X.outer) ea (.ref C) a0 s.heap) (hdi:∃oe,s.heap.get? ea=some oe∧oe.dict=dxo) :
  ∀{hs:List ExceptHandler},HsF X D σ H ea C dxo hs→wpAny (model X.prog X.w) X.A (handleBy (.ref ea) X.env hs) (SP X pins D) X.xe s:=by
 have apart:∀(h2:Heap) (oe:Obj) (ws:Array Value),h2.FunFrames B (X.env::X.outer)→h2.get? ea=some oe→oe.data = .fields ws→ea≠X.env.locals:=fun h2 oe ws ff he hd z=>by
  have hb:X.env.locals∈(X.env::X.outer).filterMap (·.frame):=by
   rw [List.filterMap_cons,hfr];exact zB
  obtain ⟨_,o,ho,nf⟩:=ff.mem hb;rw [←z,he] at ho;cases ho;exact nf ws hd
 have I2:Inv X pins σ H s:=inv s.heap fl.1 (Heap.UpToSlots.refl _)
 obtain ⟨oe,ws,hoe,hoec,hoed,_⟩:=fl.first
 intro hs
 induction hs with
 | nil=>exact fun h=>False.elim h
 | cons hd rest ih =>
  intro h;unfold HsF at h;split at h
  ·rename_i T p n b₀ suite pos rest' eq;cases eq;obtain ⟨A,hT,hgT,hTd,h⟩:=h;refine wpAny_handleBy_cons (codeAny_handlers_test ?_) (by intro q; cases q);refine QdM (X:=X.inH ea) (I2.inH ea) hgT hT ?_ hTd
   rcases h with ⟨hex,h⟩ | ⟨hex,i,hi,hlo,k⟩
   ·refine (exm_one I2.kIn (hoec ▸ (Looks.ld hoe).andThen .now) hex).at ?_;exact ih h
   ·refine (exm_one I2.kIn (hoec ▸ (Looks.ld hoe).andThen .now) hex).at ?_;refine codeAny_handlers_suite_as ?_
    refine zo (Qg5 (Qg6 _ _) (lands_againW (Q:=fun _ s2=>∃h3,s2 = { s with heap:=h3 }∧Heap.FlyingW B (X.env::X.outer) ea (.ref C) a0 h3∧s.heap.UpToSlots h3) fl fun h3 fl3 up3=>⟨h3,rfl,fl3,up3⟩)) (fun _ s2 z=>?_) fun _ _ z=>z.1
    obtain ⟨⟨h3,rfl,fl3,up3⟩,dk⟩:=z;have I3:=inv h3 fl3.1 up3
    obtain ⟨oe3,ws3,hoe3,hoec3,hoed3,_⟩:=fl3.first
    obtain ⟨oeD,hoeD,hdi⟩:=hdi;obtain ⟨oe4,hoe4,hd4⟩:=dk ea oeD hoeD;have e4:oe4=oe3:=zH (hoe4.symm.trans hoe3);subst e4;have nl3:=apart h3 oe4 ws3 fl3.2.2.1 hoe3 hoed3;have I3x:=(I3.trackX hoe3 hoed3 hn h0 nl3 hp).inH ea;obtain ⟨t,hs,ht⟩:=k oe4 hoec3 (hd4.trans hdi) ⟨ws3,hoed3⟩;refine QiE (X:=X.inH ea) (v:=.ref ea) I3x hN hi (.inl hlo) rfl (fun s4 I4=>?_) (.inr hlo);refine zo (hs pins s4 _ _ (D3F D i) I4 ht) (fun f s5 sp=>?_) (fun _ _ z=>z.elim)
    cases f with
    | next =>
     obtain ⟨σ5,H5,I5,q5⟩:=sp;have J:=I5.outH I2.ok;obtain ⟨m,hm,hl⟩:=J.loc
     refine wpAny_nameGoes_keeps hlo hm (by rw [I2.ok.kind]; rfl) fun h6 v hm6 hs6=>?_
     exact ⟨_,H5,J.goneI hN hi hl hm6 hs6,q5⟩
    | ret u =>
     obtain ⟨v,σ5,H5,I5,r5,q5⟩:=sp;have J:=I5.outH I2.ok;obtain ⟨m,hm,_⟩:=J.loc
     refine wpAny_nameGoes hlo hm (by rw [I2.ok.kind]; rfl) fun h6 m6 hm6 hs6=>?_
     exact ⟨v,_,H5,J.gone hm6 hs6,r5,q5⟩
    | brk=>obtain ⟨_,_,_,q⟩:=sp; exact q.elim
    | cont=>obtain ⟨_,_,_,q⟩:=sp; exact q.elim
  ·exact False.elim h
theorem QuH {E:XK}{e:Value}{s':Shared}{D:Ends}{hs:List ExceptHandler} (I:Inv X pins σ H s) (hx:CXF X.prog X.w X.stack H s E e s') (hst:X.stack=X.env::X.outer) (hfr:X.env.frame=some X.env.locals) (hN:X.N.Nodup) (hex:X.ex = [])
  (k:∀(ea C:Addr) (dxo:Option Addr) (H':Hp),E (.ref C) dxo H'→H' ea=none→HsF X D σ H' ea C dxo hs) :
  wpAny (model X.prog X.w) X.A (noteFrame e X.env) (fun _ s₂=>wpAny (model X.prog X.w) X.A (setFlight e none) (fun _ s₃=>wpAny (model X.prog X.w) X.A (handleBy e X.env hs) (SP X pins D) X.xe s₃) X.xe s₂) X.xe s':=by
 obtain ⟨ea,C,H',B,a0,dxo,rfl,hos,hbare,un,hok,fl,trk,old,⟨oe,hoe,hdi⟩,hE⟩:=hx;have fl':=fl;rw [hst] at fl';have frames:=I.ok.frames;rw [hst] at frames
 have hn:H' ea=none:=by
  cases q:H' ea with
  | none=>rfl
  | some u =>
   obtain ⟨o,z⟩:=trk ea u q;rw [fl.2.1] at z;cases z
 have nfr:ea∉frs X.stack:=fun z=>by
  obtain ⟨oe2,ws,he2,_,hd,_⟩:=fl.first
  obtain ⟨_,o,ho,nf⟩:=fl.2.2.1.mem z;rw [he2] at ho;cases ho;exact nf ws hd
 have hold:s.heap.get? ea=none:=by
  cases q:s.heap.get? ea with
  | none=>rfl
  | some o =>
   obtain ⟨o',z⟩:=old ea o q nfr;rw [fl.2.1] at z;cases z
 have h0:X.s₀.heap.get? ea=none:=by
  cases q:X.s₀.heap.get? ea with
  | none=>rfl
  | some o =>
   obtain ⟨o',z⟩:=I.base.there ea o q (by rw [hex]; exact fun z=>nomatch z);rw [hold] at z;cases z
 have hp:∀p∈X.pn++pins,p.1≠ea:=fun p hp z=>by
  have q:=(I.pin p hp).1;rw [z,hold] at q;cases q
 have inv:∀h2:Heap,B.StaysIn h2→s'.heap.UpToSlots h2→Inv X pins σ H' { s' with heap:=h2 }:=fun h2 hb up=>I.call' (s':={ s' with heap:=h2 }) (ch:=[]) hos (Qre un fl.1 fl.2.2.1 old hb up) (QqT hok trk fl.1 hb) hbare fun _ z=>nomatch z
 refine zo (Qg5 (Qoc _ _) (wpAny_looks_onW (Q:=fun _ s2=>∃h1,s2 = { s' with heap:=h1 }∧Heap.HeldW B (X.env::X.outer) ea (.ref C) a0 X.env.locals h1∧s'.heap.UpToSlots h1) frames hfr fl' fun h1 held up1=>⟨h1,rfl,held,up1⟩)) (fun _ s2 z=>?_) fun _ _ z=>z.1
 obtain ⟨⟨h1,rfl,held,up1⟩,dk1⟩:=z
 refine zo (Qg5 (Qg6 _ _) (wpAny_landsW (s:={ s' with heap:=h1 }) (Q:=fun _ s2=>∃h2,s2 = { s' with heap:=h2 }∧Heap.FlyingW B (X.env::X.outer) ea (.ref C) a0 h2∧h1.UpToSlots h2) held fun h2 fl2 up2=>⟨h2,rfl,fl2,up2⟩)) (fun _ s3 z=>?_) fun _ _ z=>z.1
 obtain ⟨⟨h2,rfl,fl2,up2⟩,dk2⟩:=z;obtain ⟨oe1,e1,d1⟩:=dk1 ea oe hoe;obtain ⟨oe2,e2,d2⟩:=dk2 ea oe1 e1;exact QtJ (s:={ s' with heap:=h2 }) hst hfr hN hn h0 hp (fun h3 hb up=>inv h3 hb ((up1.trans up2).trans up)) fl2 ⟨oe2,e2,(d2.trans d1).trans hdi⟩ (k ea C dxo H' hE hn)
end
end L2
namespace L2
open PySem PySem.Spec PyProof.Rows PySem.W PySem.Calls PySem.Builtin PySem.Builtin.ObjectAttr
section
variable {X:Cx}{md:List Md}{P:Pt}{R:RR}
theorem Qua {k:Nat}{f:Addr}{fd:FuncData}{ps:List Str}{sp:Sp}{E:XK}{W:Value→Shared→Prop}{pins:List (Addr×Obj)}{σ:St}{H:Hp}{s:Shared}{Q:VK}{us:List Value}{vs:List V} (F:QbH X.prog X.w X.K X.mg X.base (CXF X.prog X.w) k f fd ps sp) (hr:QaH k X.A) (hb:Binds X.K fd ps [])
  (I:Inv X pins σ H s) (r:QaB vs us) (h:sp vs H Q E) (hx:∀e s',CXF X.prog X.w X.stack H s E e s'→W e s'):wpAny (model X.prog X.w) X.A (call (.ref f) us) (EP X pins σ Q) W s:=by
 have hl:us.length=ps.length:=by rw [←r.length]; exact F.len _ _ _ _ h
 have bi:=hb s us I.kIn (by rw [zG]; exact hl);rw [zG] at bi;refine zQ (codeAny_mono (F.run X.A X.stack s H ⟨us,[]⟩ us vs Q E hr I.env0 bi r h) fun res s' hq=>?_)
 cases res with
 | error e=>exact hx e s' hq
 | ok fl =>
  cases fl with
  | ret u=>exact I.after hq
  | next=>exact False.elim hq
  | brk=>exact False.elim hq
  | cont=>exact False.elim hq
def VEH (X:Cx) (md:List Md) (P:Pt) (R:RR) (e:Expr) (m:M D):Prop:=∀(pins:List (Addr×Obj)) (s:Shared) (σ:St) (H:Hp) (ρ:Qal) (O:Qac) (F:Hp) (as:List Addr) (Q:VK) (W:Value→Shared→Prop),Inv X pins σ H s→RlO X.K X.mg O H F as→SlO X.K md P ρ σ H F as →
 QuI X.K X.mg R (fun x dxo H'=>∀(H0:Hp) (s0:Shared) (e:Value) (s':Shared),Inv X pins σ H0 s0→CXF X.prog X.w X.stack H0 s0 (fun cv d H''=>∃C,cv = .ref C∧X.mg x.cls=some (.ref C)∧d=dxo∧H''=H') e s'→W e s') H F as Q (m ρ O)→wpAny (model X.prog X.w) X.A (eval e X.env) (EP X pins σ Q) W s
def exJ (X:Cx) (pins:List (Addr×Obj)) (σ:St) (W:Value→Shared→Prop):XK:=fun cv d H'=>∃(x:Xc) (C:Addr),cv = .ref C∧X.mg x.cls=some (.ref C)∧∀(H0:Hp) (s0:Shared) (e:Value) (s':Shared),Inv X pins σ H0 s0→CXF X.prog X.w X.stack H0 s0 (fun cv d' H''=>∃C,cv = .ref C∧X.mg x.cls=some (.ref C)∧d'=d∧H''=H') e s'→W e s'
theorem Qrc {pins:List (Addr×Obj)}{σ:St}{W:Value→Shared→Prop}{H:Hp}{s:Shared} (I:Inv X pins σ H s) (e:Value) (s':Shared) (hx:CXF X.prog X.w X.stack H s (exJ X pins σ W) e s'):W e s':=by
 obtain ⟨ea,C,H',B,a0,dxo,rfl,x1,x2,x3,x4,x5,x6,x7,x8,x,C',e1,hC,hw⟩:=hx;cases e1;exact hw H s (.ref ea) s' I ⟨ea,C,H',B,a0,dxo,rfl,x1,x2,x3,x4,x5,x6,x7,x8,C,rfl,hC,rfl,rfl⟩
theorem QrK {f:Str}{ps:List Str}{k:Nat}{a:Expr}{as:List Expr}{pm:List Md}{c:List D→Qac→Res D}{ma:M (List D)}{p1 p2:Pos} (hR:QcO R)
  (Cn:QiB X.prog X.w X.K X.mg X.base f ps k (QcD X.K X.mg pm R c)) (hr:QaH k X.A) (ha:∀E,AE (X.wish E) md P pm (a::as) ma) (hg:Gl X f:=by rfl) (hfd:(f == ("__debug__":Str))=false:=by decide)
  (hs:starEach (a::as) X.env=(false,eval a X.env)::starEach as X.env:=by exact Qa7 rfl) (hpl:(backTo p2 (starEach as X.env)).any (·.1)=false:=by exact Qbb rfl):VEH X md P R (.Call (.Name f p1) (a::as) [] p2) (QdH c ma):=by
 intro pins s σ H ρ O F as' Q W I r sl kk;obtain ⟨fa,fd,hm,hk,hb,Fn,_⟩:=Cn;unfold QdH at kk
 cases em:ma ρ O with
 | ex x O'=>rw [em] at kk; exact False.elim kk
 | no=>rw [em] at kk; exact False.elim kk
 | ok ds O1 =>
  rw [em] at kk;dsimp only at kk;refine wpAny_Call_Name_kw (QdM I hg hm ?_ hfd);refine PySem.W.callWith_K (h₀:=X.base) I.ok.mod.kin hk (thn (ha W p2 pins s σ H (fun vs H1=>∃F1 as1,Gr H F as' H1 F1 as1∧RlO X.K X.mg O1 H1 F1 as1∧QbV X.K H1 F1 as1 pm vs ds) (I.wish W) ⟨ρ,O,F,as',ds,O1,r,sl,em,fun vs H1 F1 as1 g1 r1 h1=>⟨F1,as1,g1,r1,h1⟩⟩) fun us s1 z=>?_) hs hpl;obtain ⟨vs,H1,J1,rv,F1,as1,g1,r1,h1⟩:=z;have J:=J1.unwish;refine ⟨J.kIn,Qua (E:=exJ X pins σ W) Fn hr hb J rv ⟨ds,O1,F1,as1,r1,h1,?_⟩ (Qrc J)⟩
  cases ec:c ds O1 with
  | ok d O2 =>
   rw [ec] at kk
   exact fun v H2 F2 as2 g2 r2 h=>kk v H2 F2 as2 (g1.trans g2) r2 (hR _ _ _ _ _ _ _ (fun a z=>g1.dm a z) h)
  | ex x O2 =>
   rw [ec] at kk
   exact fun C dxo H2 F2 as2 hC g2 r2 hx=>⟨x,C,rfl,hC,kk dxo H2 F2 as2 (g1.trans g2) r2 hx⟩
  | no=>rw [ec] at kk; exact False.elim kk
def EXM (K:Frag) (mg:Str→Option Value) (T c:Str) (b:Bool):Prop:=∃C A,mg c=some (.ref C)∧mg T=some (.ref A)∧exmOne K (.ref C) (.ref A)=some b
abbrev HM:=List Str×List Str×Nat×MS
def QgO:List HM→Xc→MS
 | [],_=>fun _ _=>.no
 | (ys,ns,i,hb)::rest,x=>fun ρ O=>if ys.contains x.cls=true then (match hb (ρ.set i (some (.ob O.length))) (O ++ [.xc x.cls x.fs]) with
   | .nx ρ' O2=>.nx (ρ'.set i none) O2
   | .rt d O2=>.rt d O2
   | _=>.no) else if ns.contains x.cls=true then QgO rest x ρ O else .no
def Qf3 (m:M D) (hs:List HM):MS:=fun ρ O=>match m ρ O with
 | .ok _ O1=>.nx ρ O1
 | .ex x O1=>QgO hs x ρ O1
 | .no=>.no
def VHs (X:Cx) (md:List Md) (P:Pt) (R:RR):List ExceptHandler→List HM→Prop
 | _,[]=>True
 | .ExceptHandler (some (.Name T p)) (some n) (b₀::suite) pos::rest,(ys,ns,i,hb)::rest'=>(∀c∈ys,EXM X.K X.mg T c true)∧(∀c∈ns,EXM X.K X.mg T c false)∧Gl X T∧(T == ("__debug__":Str))=false∧X.N[i]? = some n∧X.env.kindOf n=some .local∧md[i]? = some .v ∧
   (∀ea,VSs (X.inH ea) md P R (b₀::suite) hb)∧VHs X md P R rest rest'
 | _,_=>False
theorem Qq8 {hs:List ExceptHandler}:VHs X md P R hs []:=by
 cases hs <;> simp [VHs]
theorem QoD {T n:Str}{p pos:Pos}{b₀:Stmt}{suite:List Stmt}{rest:List ExceptHandler}{ys ns:List Str}{i:Nat}{hb:MS}{rest':List HM} (h1:∀c∈ys,EXM X.K X.mg T c true) (h2:∀c∈ns,EXM X.K X.mg T c false)
  (hs:∀ea,VSs (X.inH ea) md P R (b₀::suite) hb) (hr:VHs X md P R rest rest') (hg:Gl X T:=by rfl) (hd:(T == ("__debug__":Str))=false:=by decide) (hi:X.N[i]? = some n:=by rfl) (hl:X.env.kindOf n=some .local:=by rfl) (hm:md[i]? = some .v:=by rfl) :
  VHs X md P R (.ExceptHandler (some (.Name T p)) (some n) (b₀::suite) pos::rest) ((ys,ns,i,hb)::rest'):=⟨h1,h2,hg,hd,hi,hl,hm,hs,hr⟩
theorem RlO.xc {K:Frag}{mg:Str→Option Value}{O:Qac}{H F:Hp}{as:List Addr}{ea C:Addr}{oe:Obj}{c:Str}{fs:List (Str×D)} (r:RlO K mg O H F as) (hn:H ea=none) (hC:mg c=some (.ref C)) (hc:oe.cls = .ref C) (hd:∃ws,oe.data = .fields ws) (hx:XF K F as oe.dict fs) :
  RlO K mg (O ++ [.xc c fs]) (upd H ea (xcO oe)) F (as ++ [ea])∧Gr H F as (upd H ea (xcO oe)) F (as ++ [ea]):=by
 have at_:∀(n:Nat) (a:Addr),as[n]? = some a→(as ++ [ea])[n]? = some a:=fun n a h=>by
  rw [zt (zj.mp h).1]; exact h
 have g0:Gr H F as (upd H ea (xcO oe)) F as:=Gr.lay hn;have rB:RlO K mg O (upd H ea (xcO oe)) F as:=r.lay hn;refine ⟨⟨rB.fh,rB.fd,?_,by simp [r.len],fun a ha=>?_,fun n a o ha ho=>?_⟩,⟨g0.fz,g0.ff,⟨[ea],rfl,fun a ha=>by rw [zr.mp ha]; exact hn⟩,fun a o e ha hd=>g0.fr a o e ha hd,g0.dm,g0.kz⟩⟩
 ·rw [jl];refine ⟨r.nd,by simp,fun a ha b hb=>?_⟩;rw [zr.mp hb];intro z;subst z;exact r.all ha hn
 ·rcases zC.mp ha with z | z
  ·exact r.fa a z
  ·rw [zr.mp z];exact r.frF hn
 ·by_cases hn':n < O.length
  ·rw [zt (by rw [r.len]; exact hn')] at ha;rw [zt hn'] at ho;exact (rB.ob n a o ha ho).keep rfl (Same.refl _) at_
  ·have hn2:n=O.length:=by
    have:=(zj.mp ho).1
    simp at this
    omega
   subst hn2;rw [zw (zc _),Nat.sub_self] at ho;rw [←r.len,zw (zc _),Nat.sub_self] at ha;cases ho;cases ha;exact ⟨C,oe,_,hC,QaE,hc,hd,hx.mono (Same.refl _) at_⟩
theorem Qtn {D:Ends}{pins:List (Addr×Obj)}{σ:St}{ρ:Qal}{O:Qac}{H F:Hp}{as:List Addr}{x:Xc}{ea C:Addr}{dxo:Option Addr} (r:RlO X.K X.mg O H F as) (sl:SlO X.K md P ρ σ H F as) (hC:X.mg x.cls=some (.ref C)) (hn:H ea=none) (hx:XF X.K F as dxo x.fs) :
  ∀{hs:List ExceptHandler}{hm:List HM},VHs X md P R hs hm→QeU X.K X.mg md P R D H F as (QgO hm x ρ O)→HsF X D σ H ea C dxo hs:=by
 intro hs
 induction hs with
 | nil =>
  intro hm h k
  cases hm with
  | nil=>exact False.elim k
  | cons a b=>exact False.elim h
 | cons hd rest ih =>
  intro hm h k
  cases hm with
  | nil=>exact False.elim k
  | cons a b =>
   unfold VHs at h;split at h
   ·rename_i q; cases q
   ·rename_i T p n b₀ suite pos rest1 ys ns i hb rest' eq1 eq2;cases eq1;cases eq2;obtain ⟨h1,h2,hg,hdb,hi,hl,hmi,hsu,hre⟩:=h;unfold QgO at k;split at k
    ·rename_i hy;obtain ⟨C',A,e1,e2,e3⟩:=h1 x.cls (List.contains_iff_mem.mp hy);rw [hC] at e1;cases e1;refine ⟨A,e2,hg,hdb,.inr ⟨e3,i,hi,hl,fun oe hoc hod hda=>⟨_,hsu ea,?_⟩⟩⟩;obtain ⟨r2,g2⟩:=r.xc (oe:=oe) hn hC hoc hda (hod ▸ hx);refine ⟨ρ.set i (some (.ob O.length)),_,F,as ++ [ea],r2,(sl.step g2).setV hmi (Rp.mkO (by rw [←r.len,zw (zc _),Nat.sub_self]; rfl)),?_⟩
     cases eb:hb (ρ.set i (some (.ob O.length))) (O ++ [.xc x.cls x.fs]) with
     | nx ρ' O2 =>
      rw [eb] at k
      exact fun σ' H' F' as' g' r' s'=>k _ H' F' as' (g2.toS.trans g') r' (s'.drop (x:=none) hmi)
     | rt d O2 =>
      rw [eb] at k
      exact fun v H' F' as' g' r' s'=>k v H' F' as' (g2.toS.trans g') r' s'
     | bk _ _=>rw [eb] at k; exact False.elim k
     | ct _ _=>rw [eb] at k; exact False.elim k
     | ex _ _=>rw [eb] at k; exact False.elim k
     | no=>rw [eb] at k; exact False.elim k
    ·split at k
     ·rename_i _ hy;obtain ⟨C',A,e1,e2,e3⟩:=h2 x.cls (List.contains_iff_mem.mp hy);rw [hC] at e1;cases e1;exact ⟨A,e2,hg,hdb,.inl ⟨e3,ih hre k⟩⟩
     ·exact False.elim k
   ·exact False.elim h
theorem QoG {e:Expr}{m:M D}{R':RR}{h0:ExceptHandler}{hs:List ExceptHandler}{hm:List HM}{p3 p6:Pos} (he:VEH X md P R' e m) (hh:VHs X md P R (h0::hs) hm) (hN:X.N.Nodup) (hst:X.stack=X.env::X.outer:=by rfl) (hfr:X.env.frame=some X.env.locals:=by rfl) (hex:X.ex = []:=by rfl)
  (hsw:swapsWith e none p3.line X.env=pure false:=by rfl):VS X md P R (.Try [.Expr e p3] (h0::hs) [] [] p6) (Qf3 m hm):=by
 intro pins s σ H D I q;obtain ⟨ρ,O,F,as,r,sl,kk⟩:=q;refine wpAny_Try_except ?_
 have ev:=he pins s σ H ρ O F as (fun _ H2=>D.nx σ H2) (fun e s1=>wpAny (model X.prog X.w) X.A (noteFrame e X.env) (fun _ s₂=>wpAny (model X.prog X.w) X.A (setFlight e none) (fun _ s₃=>wpAny (model X.prog X.w) X.A (handleBy e X.env (h0::hs)) (SP X pins D) X.xe s₃) X.xe s₂) X.xe s1) I r sl (by
  unfold Qf3 at kk
  cases em:m ρ O with
  | ok d O1 =>
   rw [em] at kk
   exact fun v H' F' as' g r' _=>kk σ H' F' as' g.toS r' (sl.step g)
  | ex x O1 =>
   rw [em] at kk;intro dxo H' F' as' g r' hx H0 s0 e s' I0 hz
   refine QuH I0 hz hst hfr hN hex fun ea C d H2 hE hn=>?_
   obtain ⟨C',z1,z2,rfl,rfl⟩:=hE;cases z1;exact Qtn (pins:=pins) r' (sl.step g) z2 hn hx hh (Qd1 (R:=R) g.toS kk)
  | no=>rw [em] at kk; exact False.elim kk)
 refine wpAny_execs_cons (thn (wpAny_Expr_any (Q:=fun fl s1=>fl = .next∧∃H2,Inv X pins σ H2 s1∧D.nx σ H2) (thn ev fun v s1 z=>?_) I.quiet hsw) fun fl s1 z=>?_)
 ·obtain ⟨_,H2,I2,_,q2⟩:=z;exact ⟨rfl,H2,I2,q2⟩
 ·obtain ⟨rfl,H2,I2,q2⟩:=z;exact wpAny_execs_nil (wpAny_execs_nil ⟨σ,H2,I2,q2⟩)
end
section
variable {prog:Program}{w:World}{A:Around}{E:Value→Shared→Prop}{K:Frag}{a C:Addr}{o od:Obj}{h:Heap}{g:Array GenState}{d:Drawn}{t:Nat}{os:OsState}{name:Str}{v:Value}
theorem Qto {tk:Tok}{Q:Fin→Shared→Prop} (X:K.In h) (I:InstAt h a o C (some od)) (hf:findObj K C (some od) name=some (.value v)) (hq:Q (.done (.ret v)) ⟨h,g,d,t,os⟩) :
  wpAny (model prog w) A (Builtin.«object.__getattribute__» ⟨[.ref a,.str name tk],[]⟩) Q E ⟨h,g,d,t,os⟩:=by
 have L0:=I.type (M:=model prog w);have L1:=looks_find (M:=model prog w) X I hf;unfold Builtin.«object.__getattribute__»;refine za (zX (a:=(Value.ref a,[Value.str name tk])) rfl ?_);dsimp only;refine za (zb ?_);refine za (L0.at ?_);refine za (L1.at ?_);exact zb hq
theorem QtT {expr:Bool}{Q:Value→Shared→Prop} (F0:QfB K C) (X:K.In h) (I:InstAt h a o C (some od)) (hh:hasDictIn K C=true) (hn:findIn K (.ref C) name=some none) (hl:lookIn name od=some (some v)) (hv:handedIn v=true) (hq:Q v ⟨h,g,d,t+1,os⟩) :
  wpAny (model prog w) A (getAttr (.ref a) name expr) Q E ⟨h,g,d,t,os⟩:=by
 have L0:=I.type (M:=model prog w);have L1:=looks_findIn (M:=model prog w) X F0.ga;have L2:=looks_findIn (M:=model prog w) X F0.na;have bnd:=PySem.F.attrBase_ValueError.ga.bind (.ref a)
 have hne:(onTheHeap (Value.ref C)&&Value.builtin "BaseException.__getattribute__" == Value.builtin "object.__getattribute__")=false:=by rw [show (Value.builtin "BaseException.__getattribute__" == Value.builtin "object.__getattribute__")=false by decide +kernel,Bool.and_false]
 have hf:=findObj_own (od:=od) (v:=v) hh hn rfl hl;unfold getAttr getAttrBy;refine za (wpAny_mkText (zF ?_));refine za (L0.at ?_);refine za (L1.at ?_);dsimp only;rw [if_neg (by rw [hne]; exact zh)];unfold getAttrByItsOwn;refine za ?_;unfold hookBefore;rw [if_pos (show onTheHeap (Value.ref C)=true from rfl)];refine L2.at ?_;refine za (wpAny_attempt (zF ?_));unfold callGetattribute;rw [if_neg (by cases expr <;> decide)];unfold boundAndCalled;refine za (zX bnd ?_);refine zQ (codeAny_call_builtin PySem.F.attrBase_ValueError.ga.plain PySem.F.entry_bexc_ga (QlQ F0 X I.at_ I.cls (Qto X I hf ?_)));show wpAny (model prog w) A (handedOut v) _ _ _
 exact handed_on hv hq
end
section
variable {X:Cx}{md:List Md}{P:Pt}{R:RR}
theorem QlF:Qhm X (.builtin "isinstance") (fun xs H Q=>∃(a C:Addr) (oe:Obj) (u:HO) (b:Bool),H a=some (.frz oe u)∧oe.cls = .ref C∧QfB X.K C∧Q (.bl b) H ∧
  ((∃v c,xs = [.ref a,v]∧QpM v=some c∧kitOne X.K (.ref C) c=some b)∨∃tp ys cs,xs = [.ref a,.ref tp]∧H tp=some (.tup ys)∧QjH ys=some cs∧kitAny X.K (.ref C) cs=some b)):=by
 intro pins s σ H xs us Q I r h;obtain ⟨ea,C,oe,u,b,he0,hc,F0,q,h⟩:=h;have he:s.heap.get? ea=some oe:=(I.hok ea _ he0).1
 have nb:Value.ref ea≠.builtin "__main__.__loader__#opaque":=fun z=>nomatch z
 rcases h with ⟨v,c,rfl,ev,ek⟩ | ⟨tp,ys,cs,rfl,et,ev,ek⟩
 ·obtain ⟨u1,u2,rfl,r1,r2⟩:=vals2 r;cases r1;rw [Qny r2 ev]
  exact kia_one (Qnx F0) I.kIn ⟨oe,he,hc⟩ ek nb fun tk=>⟨.bl b,H,I.tok tk,rfl,q⟩
 ·obtain ⟨u1,u2,rfl,r1,r2⟩:=vals2 r;cases r1;cases r2;obtain ⟨_,its,rv,ot,ho,hcl,n,hda⟩:=I.hok tp _ et;have ei:=Ql7 rv ev;subst ei;obtain ⟨c0,d0,da0,sl0⟩:=ot;dsimp only at hcl hda;subst hcl hda
  exact kia_tup (Qnx F0) I.kIn ⟨oe,he,hc⟩ ho ek nb fun tk=>⟨.bl b,H,I.tok tk,rfl,q⟩
def QeR (tb:List (Str×Bool)) (mo:M D):M D:=fun ρ O=>(mo ρ O).bind fun d O1=>match d with
 | .ob n=>match O1[n]? with
  | some (.xc c _)=>match tb.lookup c with
   | some b=>.ok (.bl b) O1
   | none=>.no
  | _=>.no
 | _=>.no
theorem Qrk {tb:List (Str×Bool)}{mo:M D}{ρ:Qal}{O O':Qac}{d:D} (e:QeR tb mo ρ O = .ok d O'):∃n c fs b,mo ρ O = .ok (.ob n) O'∧O'[n]? = some (.xc c fs)∧tb.lookup c=some b∧d = .bl b:=by
 obtain ⟨x,O1,e1,e⟩:=Res.bind_ok e
 cases x with
 | ob n =>
  dsimp only at e;split at e
  ·rename_i c fs eo;split at e
   ·rename_i b eb;cases e;exact ⟨n,c,fs,b,e1,eo,eb,rfl⟩
   ·cases e
  ·cases e
 | _=>cases e
def ISN (K:Frag) (mg:Str→Option Value) (T c:Str) (b:Bool):Prop:=∃C A,mg c=some (.ref C)∧QfB K C∧mg T=some (.ref A)∧kitOne K (.ref C) (.ref A)=some b
def ISV (K:Frag) (mg:Str→Option Value) (c:Str):Prop:=∃C,mg c=some (.ref C)∧QfB K C∧kitOne K (.ref C) (.type "ValueError")=some true
def Qkh (K:Frag) (mg:Str→Option Value) (ns:List Str) (c:Str) (b:Bool):Prop:=∃C as,mg c=some (.ref C)∧QfB K C∧Qfu mg ns as∧kitAny K (.ref C) (as.map Value.ref)=some b
theorem Qfu.det {mg:Str→Option Value}:∀{ns:List Str}{as bs:List Addr},Qfu mg ns as→Qfu mg ns bs→as=bs
 | [],as,bs,h,h'=>by
  have e:as = []:=h;have e':bs = []:=h';rw [e,e']
 | n::ns,as,bs,h,h'=>by
  obtain ⟨a,r,rfl,h1,h2⟩:=h;obtain ⟨b,r',rfl,h3,h4⟩:=h';rw [h1] at h3;cases h3;rw [h2.det h4]
theorem Ql2:∀{es:List Expr}{vs:List V},QhU X es vs→PA X es (fun _ H Q=>Q vs H)
 | [],vs,h=>by
  have h':vs = []:=h;subst h';exact Qc6
 | e::es,vs,h=>by
  obtain ⟨v,r,rfl,h1,h2,h3⟩:=h;exact QbY (h1 X rfl rfl) (Ql2 h3) h2
theorem Qqs {o eT:Expr}{p pos:Pos}{v:V}{cv:Value}{mo:M D}{tb:List (Str×Bool)} (hm:X.mg "isinstance" = none) (ho:VE X md P o mo) (hT:PE X eT (tC v)) (hv:QpM v=some cv)
  (hE:∀c b,tb.lookup c=some b→∃C,X.mg c=some (.ref C)∧QfB X.K C∧kitOne X.K (.ref C) cv=some b) (hg:Gl X "isinstance":=by rfl)
  (hs1:starEach [o,eT] X.env=(false,eval o X.env)::starEach [eT] X.env:=by exact Qa7 rfl) (hs2:starEach [eT] X.env=(false,eval eT X.env)::starEach [] X.env:=by exact Qa7 rfl) (hpl:(backTo pos (starEach [eT] X.env)).any (·.1)=false:=by exact Qbb rfl) :
  VE X md P (.Call (.Name "isinstance" p) [o,eT] [] pos) (QeR tb mo) :=
 (QiM QlF hg hm (by decide +kernel) (QbY ho (QbY hT Qc6 hs2) hs1) (by decide) (by decide) hs1 hpl).imp fun σ H Q q=>by
  obtain ⟨ρ,O,F,as,d,O',r,s,e,k⟩:=q;obtain ⟨n,c,fs,b,e1,e2,e3,rfl⟩:=Qrk e;refine ⟨ρ,O,F,as,.ob n,O',r,s,e1,fun v1 H1 F1 as1 g1 r1 hv1=>?_⟩;obtain ⟨a,rfl,ha⟩:=Rp.unO hv1;obtain ⟨C,oe,u,hC,hH,hoc,_,_⟩:=r1.ob n a _ ha e2;obtain ⟨C',hC',F0,kk⟩:=hE c b e3;rw [hC] at hC';cases hC';exact ⟨a,C,oe,u,b,hH,hoc,F0,k _ H1 F1 as1 g1 r1 Rp.bl,.inl ⟨v,cv,rfl,hv,kk⟩⟩
theorem QkD {o:Expr}{T:Str}{p p1 pos:Pos}{mo:M D}{tb:List (Str×Bool)} (hm:X.mg "isinstance" = none) (hT:∃A,X.mg T=some (.ref A)) (ho:VE X md P o mo)
  (hE:∀c b,tb.lookup c=some b→ISN X.K X.mg T c b) (hg:Gl X "isinstance":=by rfl) (hgT:Gl X T:=by rfl) (hd:(T == ("__debug__":Str))=false:=by decide)
  (hs1:starEach [o,.Name T p1] X.env=(false,eval o X.env)::starEach [.Name T p1] X.env:=by exact Qa7 rfl) (hs2:starEach [.Name T p1] X.env=(false,eval (.Name T p1) X.env)::starEach [] X.env:=by exact Qa7 rfl) (hpl:(backTo pos (starEach [.Name T p1] X.env)).any (·.1)=false:=by exact Qbb rfl) :
  VE X md P (.Call (.Name "isinstance" p) [o,.Name T p1] [] pos) (QeR tb mo):=by
 obtain ⟨A,hA⟩:=hT;refine Qqs (v:=.ref A) (cv:=.ref A) hm ho (Qls hgT hA rfl hd) rfl (fun c b e=>?_) hg hs1 hs2 hpl;obtain ⟨C,A',h1,h2,h3,h4⟩:=hE c b e;rw [hA] at h3;cases h3;exact ⟨C,h1,h2,h4⟩
theorem QuM {o:Expr}{p p1 pos:Pos}{mo:M D}{tb:List (Str×Bool)} (hm:X.mg "isinstance" = none) (hT:X.mg "ValueError" = none) (ho:VE X md P o mo)
  (hE:∀c b,tb.lookup c=some b→b=true∧ISV X.K X.mg c) (hg:Gl X "isinstance":=by rfl) (hgT:Gl X "ValueError":=by rfl)
  (hs1:starEach [o,.Name "ValueError" p1] X.env=(false,eval o X.env)::starEach [.Name "ValueError" p1] X.env:=by exact Qa7 rfl) (hs2:starEach [.Name "ValueError" p1] X.env=(false,eval (.Name "ValueError" p1) X.env)::starEach [] X.env:=by exact Qa7 rfl) (hpl:(backTo pos (starEach [.Name "ValueError" p1] X.env)).any (·.1)=false:=by exact Qbb rfl) :
  VE X md P (.Call (.Name "isinstance" p) [o,.Name "ValueError" p1] [] pos) (QeR tb mo):=by
 refine Qqs (v:=.ty "ValueError") (cv:=.type "ValueError") hm ho (Qom hgT hT (by decide +kernel) rfl) rfl (fun c b e=>?_) hg hs1 hs2 hpl;obtain ⟨rfl,C,h1,h2,h3⟩:=hE c b e;exact ⟨C,h1,h2,h3⟩
theorem Qv5 {o:Expr}{ns:List Str}{es:List Expr}{x1:Nat}{p p1 pos:Pos}{mo:M D}{tb:List (Str×Bool)} (hm:X.mg "isinstance" = none) (hT:∃as,Qfu X.mg ns as) (hNV:∀as,Qfu X.mg ns as→QhU X es (as.map V.ref)) (ho:VE X md P o mo)
  (hE:∀c b,tb.lookup c=some b→Qkh X.K X.mg ns c b) (hns:ns.length≤1000:=by decide) (hg:Gl X "isinstance":=by rfl)
  (hs1:starEach [o,.Tuple es x1 p1] X.env=(false,eval o X.env)::starEach [.Tuple es x1 p1] X.env:=by exact Qa7 rfl) (hs2:starEach [.Tuple es x1 p1] X.env=(false,eval (.Tuple es x1 p1) X.env)::starEach [] X.env:=by exact Qa7 rfl) (hpl:(backTo pos (starEach [.Tuple es x1 p1] X.env)).any (·.1)=false:=by exact Qbb rfl) :
  VE X md P (.Call (.Name "isinstance" p) [o,.Tuple es x1 p1] [] pos) (QeR tb mo):=by
 obtain ⟨la,hla⟩:=hT
 refine (QiM QlF hg hm (by decide +kernel) (QbY ho (QbY (Qqx (Ql2 (hNV la hla))) Qc6 hs2) hs1) (by decide) (by decide) hs1 hpl).imp fun σ H Q q=>?_
 obtain ⟨ρ,O,F,as,d,O',r,s,e,k⟩:=q;obtain ⟨n,c,fs,b,e1,e2,e3,rfl⟩:=Qrk e;refine ⟨ρ,O,F,as,.ob n,O',r,s,e1,fun v1 H1 F1 as1 g1 r1 hv1=>?_⟩;obtain ⟨a,rfl,ha⟩:=Rp.unO hv1;obtain ⟨C,oe,u,hC,hH,hoc,_,_⟩:=r1.ob n a _ ha e2;obtain ⟨C',la',hC',F0,hla',kk⟩:=hE c b e3;rw [hC] at hC';cases hC';rw [hla'.det hla] at kk;have hsz:sizeLine=16777216:=sizeLine_eq;refine ⟨by rw [zD,hla.len]; omega,fun tp htp=>?_⟩;refine ⟨a,C,oe,u,b,by rw [Qam (Qax hH htp)]; exact hH,hoc,F0,k _ _ F1 as1 (g1.trans (Gr.lay htp)) (r1.lay htp) Rp.bl,.inr ⟨tp,la.map V.ref,la.map Value.ref,rfl,QaE,Qk8 la,kk⟩⟩
def QiD (f:Str) (L:List Str) (mo:M D):M D:=fun ρ O=>(mo ρ O).bind fun d O1=>match d with
 | .ob n=>match O1[n]? with
  | some (.xc c fs)=>if L.contains c=true then (match fs.lookup f with
   | some d=>.ok d O1
   | none=>.no) else .no
  | _=>.no
 | _=>.no
def XFC (K:Frag) (mg:Str→Option Value) (f c:Str):Prop:=∃C,mg c=some (.ref C)∧QfB K C∧findIn K (.ref C) f=some none∧hasDictIn K C=true
theorem FsR.at {K:Frag}{F:Hp}{as:List Addr}{f:Str}{d:D}:∀{fs:List (Str×D)}{gs:List (Str×V)},FsR K F as gs fs→fs.lookup f=some d→∃v,gs.lookup f=some v∧Rp K F as v d
 | [],gs,h,e=>by cases e
 | (g,y)::fs,gs,h,e=>by
  obtain ⟨h1,h2⟩:=h
  cases gs with
  | nil=>cases h1
  | cons p gs =>
   obtain ⟨g',x⟩:=p;have hg:g'=g:=(List.cons.inj h1).1;subst hg;obtain ⟨x',r,ex,hx,hr⟩:=Rps.un h2;cases ex
   by_cases hf:(f == g')=true
   ·have e':some y=some d:=by
     simp only [List.lookup,hf] at e;exact e
    cases e';exact ⟨x,by simp only [List.lookup,hf],hx⟩
   ·have hf':(f == g')=false:=by simpa using hf
    have e':fs.lookup f=some d:=by
     simp only [List.lookup,hf'] at e;exact e
    obtain ⟨v,q1,q2⟩:=FsR.at (fs:=fs) (gs:=gs) ⟨(List.cons.inj h1).2,hr⟩ e';exact ⟨v,by simp only [List.lookup,hf']; exact q1,q2⟩
theorem Qok {o:Expr}{f:Str}{pos:Pos}{L:List Str}{mo:M D} (ho:VE X md P o mo) (hL:∀c∈L,XFC X.K X.mg f c) (hb:attributeBase o f X.env (eval o X.env)=eval o X.env:=by rfl):VE X md P (.Attribute o f pos) (QiD f L mo):=by
 intro pins s σ H Q I q;obtain ⟨ρ,O,F,as,d,O',r,sl,e,k⟩:=q;obtain ⟨x,O1,e1,e⟩:=Res.bind_ok e
 cases x with
 | ob n =>
  dsimp only at e;split at e
  ·rename_i c fs eo;split at e
   ·rename_i hc;split at e
    ·rename_i d' el;cases e;refine Qoy hb (thn (ho pins s σ H (fun v H1=>∃F1 as1,Gr H F as H1 F1 as1∧RlO X.K X.mg O' H1 F1 as1∧Rp X.K F1 as1 v (.ob n)) I ⟨ρ,O,F,as,.ob n,O',r,sl,e1,fun v H1 F1 as1 g1 r1 hv=>⟨F1,as1,g1,r1,hv⟩⟩) fun u s1 z=>?_);obtain ⟨v,H1,I1,rv,F1,as1,g1,r1,hv⟩:=z;obtain ⟨a,rfl,ha⟩:=Rp.unO hv;obtain rfl:u=Value.ref a:=rv;obtain ⟨C,oe,uu,hC,hH,hoc,⟨ws,hda⟩,hx⟩:=r1.ob n a _ ha eo;obtain ⟨C',hC',F0,hn,hh⟩:=hL c (List.contains_iff_mem.mp hc);rw [hC] at hC';cases hC'
     rcases hx with hx | ⟨dx,od,gs,hdx,hF,hfs⟩
     ·rw [hx] at el; cases el
     ·obtain ⟨w1,hw,hrp⟩:=hfs.at el;have hHd:=r1.fh _ _ hF;have hoe:s1.heap.get? a=some oe:=(I1.hok a _ hH).1;obtain ⟨hod,mA,hns,hrel⟩:=I1.hok dx _ hHd;obtain ⟨u1,hu1,ru1⟩:=QdN.some_of (v:=w1) (o:=mA f) (by rw [←hw]; exact hrel f);obtain ⟨od',ho',hl⟩:=QlU hns;have hia:InstAt s1.heap a oe C (some od'):=⟨hoe,hoc,by unfold notCls; rw [hda],by rw [hdx]; exact ho'⟩;obtain ⟨hh1,gg,dr,tk,os⟩:=s1;exact QtT F0 I1.kIn hia hh hn (by rw [hl,hu1]) (QlD ru1) ⟨w1,H1,I1.tok (tk+1),ru1,k w1 H1 F1 as1 g1 r1 hrp⟩
    ·cases e
   ·cases e
  ·cases e
 | _=>cases e
end
end L2
namespace L2
open PySem PySem.Spec PyProof.Rows PySem.W
def Qff (A:Around):Around:={ A with handled:=none }
def Cx.loud (X:Cx):Cx:={ X with calm:=false,xe:=fun _ _=>False }
theorem RoomH.deeper {k:Nat}{A:Around} (r:QaH (k+1) (Qff A)) (env:Env):QaH k (Qff (A.deeper env)):=⟨rfl,(r.deeper env).dp,(r.deeper env).un⟩
theorem QaH.h {k:Nat}{A:Around} (r:QaH k A):QaH k (Qff A):=⟨rfl,r.dp,r.un⟩
theorem QaH.inH {k:Nat}{A:Around}{e:Option Value} (r:QaH k A):QaH k (Qff (A.mark e)):=⟨rfl,r.dp,r.un⟩
structure Qmt (P:Program) (w:World) (K:Frag) (mg:Str→Option Value) (base:Heap) (k:Nat) (f:Addr) (fd:FuncData) (ps:List Str) (sp:Sp):Prop where
 len:∀vs H Q E,sp vs H Q E→vs.length=ps.length
 run:∀(A:Around) (outer:List Env) (s:Shared) (H:Hp) (args:Args) (us:List Value) (vs:List V) (Q:VK) (E:XK),QaH k (Qff A)→QeS P w K mg base A outer s H→BindsTo s fd args (ps.zip us)→QaB vs us→sp vs H Q E →
  codeAny (model P w) A (.call (.ref f) args) (CR CX0 outer P w H s Q E) s
theorem Qmt.fn {P:Program}{w:World}{K:Frag}{mg:Str→Option Value}{base:Heap}{k:Nat}{f:Addr}{fd:FuncData}{ps:List Str}{sp:Sp} (F:Qmt P w K mg base k f fd ps sp):QbH P w K mg base CX0 k f fd ps sp:=⟨F.len,fun A outer s H args us vs Q E hr=>F.run A outer s H args us vs Q E hr.h⟩
def Qku (P:Program) (w:World) (K:Frag) (mg:Str→Option Value) (base:Heap) (x:Str) (ps:List Str) (k:Nat) (sp:Sp):Prop :=
 ∃f fd,mg x=some (.ref f)∧keepIn K (.ref f)=true∧Binds K fd ps []∧Qmt P w K mg base k f fd ps sp∧∃oc od osl,K.lookup f=some ⟨oc,od,.func fd,osl⟩
section
variable {Pr:Program}{w:World}{K:Frag}{mg:Str→Option Value}{base:Heap}
theorem Qku.can {x:Str}{ps:List Str}{k:Nat}{sp:Sp} (C:Qku Pr w K mg base x ps k sp):Can Pr w K mg base x ps k sp:=by
 obtain ⟨f,fd,h1,h2,h3,h4,h5⟩:=C;exact ⟨f,fd,h1,h2,h3,h4.fn,h5⟩
theorem QrR {N:List Str}{qual:Str}{scope:Scope}{f:Addr}{cd:Value}{A:Around}{outer:List Env}{s s1:Shared}{H:Hp}{E:XK}{σ:St} (I:Inv (Qcw CX0 Pr w K mg base N qual scope f cd (Qff A) outer s H E) [] σ H s1):Inv (Qcw CX0 Pr w K mg base N qual scope f cd A outer s H E).loud [] σ H s1:=by
 have ok:=I.ok;exact ⟨⟨ok.mod,ok.kind,ok.glob,ok.blt,ok.above,ok.inj,ok.has,ok.cab,(fun z=>(nomatch z)),ok.frames,ok.stk,ok.exf,ok.bs,ok.bsz,ok.noex,ok.exfs,ok.funs,ok.frf⟩,I.os,I.bare,I.base,I.loc,I.cell,I.free,I.freeC,I.pin,I.hok,I.len⟩
theorem QeS.mark0 {A:Around}{outer:List Env}{s:Shared}{H:Hp} (e:QeS Pr w K mg base A outer s H):QeS Pr w K mg base (Qff A) outer s H:=⟨e.frames,e.mod,e.bs,e.bsz,e.funs,e.frf,e.hok,e.bare⟩
theorem QuU {k:Nat}{x qual:Str}{st:Stmt}{f:Addr}{fd:FuncData}{N ps:List Str}{sp:Sp} (Fn:Fun K x qual st f fd) (S:QaA N ps (Qai st)) (len:∀vs H Q E,sp vs H Q E→vs.length=ps.length)
  (hbody:∀(cdv:Value) (A:Around) (outer:List Env) (s:Shared) (H:Hp) (vs:List V) (Q:VK) (E:XK),QaH k (Qff (A.deeper (envOfC qual (Qai st) s.heap.objs.size f cdv)))→sp vs H Q E →
   ∃t,PSs (Qcw CX0 Pr w K mg base N qual (Qai st) f cdv A outer s H E).loud (QaX st) t∧t { nx:=fun _ H'=>Q .non H',rt:=Q } (start N vs) H):Qmt Pr w K mg base (k+1) f fd ps sp:=by
 obtain ⟨oc,od,kV,doc,pmv,an,cdv,ct,osl,rfl,lk,hcd⟩:=Fn.ex;refine ⟨len,fun A outer s H args us vs Q E hr e0 hb r hsp=>?_⟩;have hl:=len _ _ _ _ hsp
 have KX:K.In s.heap:=e0.mod.kin.keeps fun b o e=>(e0.bs b o e).1
 have lim:s.heap.NoLimit:=e0.mod.nolimit.keeps fun b o e=>(e0.bs b o e).1
 have hkind:∀y∈ps.zip us,(Qai st).names.lookup y.1=some .local∨((Qai st).names.lookup y.1=some .cell∧((cellsFrom (s.heap.objs.size+1) (Qai st).names []).lookup y.1).isSome=true):=fun ⟨n,v⟩ hy=>(S.par n (List.of_mem_zip hy).1).imp id fun q=>⟨q,PySem.W.cellsFrom_some _ _ _ (.inl q)⟩
 refine codeAny_call_function (show A.depth < recursionLimit from hr.depth) (KX _ _ lk) rfl S.co S.gen rfl (PySem.W.codeRec_of KX hcd) (hb _ _ _ _ ?_)
 refine wpAny_newFunctionEnv_cells S.kind hkind fun env he s1 x=>?_
 subst he;refine ⟨lim.keeps x.toInCall.keep,codeAny_func ?_⟩;obtain ⟨t,ht,hq⟩:=hbody cdv A outer s H vs Q E (RoomH.deeper hr _) hsp;have I:=QrR (QlE (CX:=CX0) (E:=E) S hr.hd e0.mark0 hl r x)
 refine zo (ht [] s1 (start N vs) H _ I hq) (fun fl s' hs=>?_) fun _ _ z=>False.elim z
 cases fl with
 | ret u =>
  obtain ⟨v,σ',H',J,rv,q⟩:=hs;exact ⟨v,H',J.os,J.bare,J.base,J.hok,rv,q⟩
 | next =>
  obtain ⟨σ',H',J,q⟩:=hs;exact ⟨V.non,H',J.os,J.bare,J.base,J.hok,rfl,q⟩
 | brk=>obtain ⟨_,_,_,q⟩:=hs; exact False.elim q
 | cont=>obtain ⟨_,_,_,q⟩:=hs; exact False.elim q
theorem Qs4 {x:Str}{st:Stmt}{N ps:List Str}{k:Nat} (Df:Def K mg x st) (S:QaA N ps (Qai st))
  (hb:∀(kV doc pm:Value) (an:Option Addr) (cdv ct:Value) (us:List Value),us.length=ps.length→bindArgs (PySem.W.fnOf x x (QbQ st) (QaX st) (Qai st) .none kV doc pm an cdv ct) ⟨us,[]⟩=pure (ps.zip us))
  (pm lm:List Md) {R:RR}{b:MS} (hR:QcO R) (hR0:∀N H F as,R N H F as .non .non) (hpl:pm.length=ps.length:=by rfl) (hl:(pm++lm).length=N.length:=by rfl) (hp:∀m∈pm,m≠.o:=by decide)
  (body:∀(f:Addr) (cdv:Value) (A:Around) (outer:List Env) (s:Shared) (H:Hp) (E:XK),QaH k (Qff (A.deeper (envOfC x (Qai st) s.heap.objs.size f cdv)))→∀P,VSs ((Qcw CX0 Pr w K mg base N x (Qai st) f cdv A outer s H E).loud) (pm++lm) P R (QaX st) b) :
  Qku Pr w K mg base x ps (k+1) (vSp K mg pm R (Qa8 N.length b)):=by
 obtain ⟨f,fd,hm,Fn⟩:=Df;have hbi:=Fn.binds hb;have hkp:=Fn.kp
 have ok:=QuU (Pr:=Pr) (w:=w) (mg:=mg) (base:=base) (k:=k) (sp:=vSp K mg pm R (Qa8 N.length b)) Fn S (fun vs H Q E h=>by
  obtain ⟨ds,O,F,as,d,O',r,a,_⟩:=h
  rw [a.len.1,hpl]) (fun cdv A outer s H vs Q E hr h=>by
  obtain ⟨ds,O,F,as,d,O',r,a,e,q⟩:=h;refine ⟨_,body f cdv A outer s H E hr (Pt.all H),?_⟩;refine ⟨_,O,F,as,r,QfH a hl hp,?_⟩;unfold Qa8 at e
  cases eb:b (ds.map some++List.replicate (N.length - ds.length) none) O with
  | rt d' O2 =>
   rw [eb] at e;cases e
   exact fun v H' F' as' g r' hv=>q v H' F' as' g.gr r' (hR _ _ _ _ _ _ _ (fun c hc=>jj.mp hc) hv)
  | nx ρ O2 =>
   rw [eb] at e;cases e
   exact fun σ' H' F' as' g r' _=>q _ H' F' as' g.gr r' (hR0 _ _ _ _)
  | _=>rw [eb] at e; cases e)
 obtain ⟨oc,od,kV,doc,pmv,an,cdv,ct,osl,rfl,lk,hcd⟩:=Fn.ex;exact ⟨f,_,hm,hkp,hbi,ok,oc,od,osl,lk⟩
end
section
variable {X:Cx}{md:List Md}{P:Pt}{R:RR}
theorem QrF {x:Str}{ps:List Str}{k:Nat}{e:Expr}{es:List Expr}{pm:List Md}{c:List D→Qac→Res D}{ma:M (List D)}{p pos:Pos} (hR:QcO R) (C:Qku X.prog X.w X.K X.mg X.base x ps k (vSp X.K X.mg pm R c)) (hr:QaH k (Qff X.A)) (ha:AE X md P pm (e::es) ma) (hg:Gl X x:=by rfl) (hdb:(x == ("__debug__":Str))=false:=by decide)
  (he:starEach (e::es) X.env=(false,eval e X.env)::starEach es X.env:=by exact Qa7 rfl) (hpl:(backTo pos (starEach es X.env)).any (·.1)=false:=by exact Qbb rfl):PE X (.Call (.Name x p) (e::es) [] pos) (tM X.K X.mg md P R (Qat c ma)):=by
 obtain ⟨fa,fd,hm,hk,hb,Fn,_⟩:=C;intro pins s σ H Q I q;refine wpAny_Call_Name_kw (QdM I hg hm ?_ hdb);refine PySem.W.callWith_K (h₀:=X.base) I.ok.mod.kin hk (thn (ha pos pins s σ H _ I (Qol (pm:=pm) (E:=E0) hR q)) fun us s1 z=>?_) he hpl;obtain ⟨vs,H1,J,rv,sp⟩:=z;rw [zG] at sp
 have hl:us.length=ps.length:=by rw [←rv.length]; exact Fn.len _ _ _ _ sp
 have bi:=hb s1 us J.kIn (by rw [zG]; exact hl);rw [zG] at bi;refine ⟨J.kIn,zQ (codeAny_mono (Fn.run X.A X.stack s1 H1 ⟨us,[]⟩ us vs Q E0 hr J.env0 bi rv sp) fun res s' hq=>?_)⟩
 cases res with
 | error e=>exact False.elim hq
 | ok fl =>
  cases fl with
  | ret u=>exact J.after hq
  | next=>exact False.elim hq
  | brk=>exact False.elim hq
  | cont=>exact False.elim hq
end
section
variable {X:Cx}{md:List Md}{P:Pt}{R:RR}
theorem Qr8 {c:Str}{v:V}{p cpos pos:Pos}{a:Expr} (hE:QrU X.K X.mg c) (hc:X.calm=true) (ha:PE X a (tC v)) (hex:X.ex = []:=by rfl) (hg:Gl X c:=by rfl) (hd:(c == ("__debug__":Str))=false:=by decide)
  (hs1:starEach [a] X.env=(false,eval a X.env)::starEach [] X.env:=by rfl) (hpl:(backTo cpos (starEach [a] X.env)).any (·.1)=false:=by rfl) :
  VSF X md P R (.Raise (some (.Call (.Name c p) [a] [] cpos)) none pos) (QoA c):=by
 intro pins s σ H D I q;obtain ⟨ρ,O,F,as,r,sl,k⟩:=q;obtain ⟨C,hC,hx⟩:=hE;obtain ⟨bm,N,nm,qn,bs,hdd,sn,sub,ab,col,dd,k0,k1,k2,k3,k5,mN,oC,hN,hni,T⟩:=Qtg I.ok.mod.kin hx;refine wpAny_Raise_call_subT (C:=C) (nm:=nm) (q:=qn) (N:=N) (bs:=bs) (bm:=bm) (hdct:=hdd) (sn:=sn) (sub:=sub) (ab:=ab) (col:=col) (dd:=dd) (k0:=k0) (k1:=k1) (k2:=k2) (k3:=k3) (k5:=k5) PySem.F.excBase_ValueError (mN:=mN) (T.hasType PySem.F.excBase_ValueError.hasBase) (I.ok.hd hc) hpl hni (QdM I hg hC ⟨rfl,?_⟩ hd);have hA:=QbY ha Qc6 hs1 cpos pins s σ H (fun vs H1=>vs.length=1∧H1=H) I ⟨rfl,rfl⟩;rw [hs1] at hA ⊢
 refine Calls.evalArgs_plain (thn hA fun us s1 z=>?_);obtain ⟨vs,H1,I1,r1,e1,e2⟩:=z;subst e2;refine ⟨rfl,?_,I1.bk _ _ oC,hN.keeps I1.bk,T.keeps I1.bk,fun h' ea hm=>?_⟩
 ·show us.length≤sizeLine;rw [←r1.length,e1];decide
 ·obtain ⟨t,ht,_,_⟩:=hm.there
  have hn:H1 ea=none:=by
   cases q:H1 ea with
   | none=>rfl
   | some u =>
    obtain ⟨o,z⟩:=(I1.hok ea u q).has;rw [hm.new] at z;cases z
  have h0:X.s₀.heap.get? ea=none:=by
   cases q:X.s₀.heap.get? ea with
   | none=>rfl
   | some o =>
    obtain ⟨o',z⟩:=I1.base.there ea o q (by rw [hex]; exact fun z=>nomatch z);rw [hm.new] at z;cases z
  have I2:Inv X pins σ H1 { s1 with heap:=h' }:=I1.un (t':=s1.toks) (Un.kept hm.keeps) (I1.hok.kept hm.keeps);exact (k none H1 F as GrS.refl r (.inl rfl)).1 pins σ _ ea C hC I2 ⟨_,_,_,ht,rfl,rfl,rfl,rfl,rfl,hn,h0⟩
theorem Qka {x:Str}{ps:List Str}{k:Nat}{e:Expr}{es:List Expr}{pm:List Md}{c:List D→Qac→Res D}{ma:M (List D)}{p pos:Pos} (C:Qku X.prog X.w X.K X.mg X.base x ps k (vSp X.K X.mg pm (rV X.K) c)) (hr:QaH k (Qff X.A)) (ha:AE X md P pm (e::es) ma) (hg:Gl X x:=by rfl) (hdb:(x == ("__debug__":Str))=false:=by decide)
  (he:starEach (e::es) X.env=(false,eval e X.env)::starEach es X.env:=by exact Qa7 rfl) (hpl:(backTo pos (starEach es X.env)).any (·.1)=false:=by exact Qbb rfl):VE X md P (.Call (.Name x p) (e::es) [] pos) (Qat c ma):=QrF Qbr C hr ha hg hdb he hpl
theorem QlC {f:Str}{ps:List Str}{k:Nat}{a:Expr}{as:List Expr}{pm:List Md}{c:List D→Qac→Res D}{ma:M (List D)}{p1 p2:Pos} (Cn:QiB X.prog X.w X.K X.mg X.base f ps k (QcD X.K X.mg pm (rV X.K) c)) (hr:QaH k X.A) (ha:AE X md P pm (a::as) ma) (hg:Gl X f:=by rfl) (hfd:(f == ("__debug__":Str))=false:=by decide)
  (hs:starEach (a::as) X.env=(false,eval a X.env)::starEach as X.env:=by exact Qa7 rfl) (hpl:(backTo p2 (starEach as X.env)).any (·.1)=false:=by exact Qbb rfl):VEF X md P (rV X.K) (.Call (.Name f p1) (a::as) [] p2) (QdH c ma):=Qrz Qbr Cn hr ha hg hfd hs hpl
end
theorem QhV {P:Str→Bool→Prop}:∀c b,([]:List (Str×Bool)).lookup c=some b→P c b:=fun _ _ e=>nomatch e
theorem QcX {P:Str→Bool→Prop}{c:Str}{b:Bool}{tb:List (Str×Bool)} (h:P c b) (t:∀c b,tb.lookup c=some b→P c b):∀c' b',((c,b)::tb).lookup c'=some b'→P c' b':=fun c' b' e=>by
 by_cases hc:(c' == c)=true
 ·have e':some b=some b':=by
   simp only [List.lookup,hc] at e;exact e
  cases e';rw [beq_iff_eq.mp hc];exact h
 ·have hf:(c' == c)=false:=by simpa using hc
  refine t c' b' ?_;simp only [List.lookup,hf] at e;exact e
theorem QhS {P:Str→Prop}:∀c∈([]:List Str),P c:=fun _ e=>nomatch e
theorem QgH {P:Str→Prop}{c:Str}{l:List Str} (h:P c) (t:∀c∈l,P c):∀c'∈c::l,P c':=fun c' e=>by
 rcases zm.mp e with rfl | e
 ·exact h
 ·exact t c' e
theorem ISN.nm {K:Frag}{mg:Str→Option Value}{T c:Str}{b:Bool} (h:ISN K mg T c b):∃A,mg T=some (.ref A):=let ⟨_,A,_,_,e,_⟩:=h; ⟨A,e⟩
theorem Qkh.nm {K:Frag}{mg:Str→Option Value}{ns:List Str}{c:Str}{b:Bool} (h:Qkh K mg ns c b):∃as,Qfu mg ns as:=let ⟨_,as,_,_,e,_⟩:=h; ⟨as,e⟩
theorem ISV.tb {K:Frag}{mg:Str→Option Value}{c:Str} (h:ISV K mg c):true=true∧ISV K mg c:=⟨rfl,h⟩
def Qpc (K:Frag) (mg:Str→Option Value) (c name qual:Str) (st:Stmt):Prop:=∃C fI fd,mg c=some (.ref C)∧QmK K C fI name∧isFn K (.ref fI)=true∧Fun K "__init__" qual st fI fd
theorem Qpc.can {Pr:Program}{w:World}{K:Frag}{mg:Str→Option Value}{base:Heap}{c name qual sf pn:Str}{st:Stmt}{p1 p2 p3 p4:Pos} (h:Qpc K mg c name qual st) (S:QaA [sf,pn] [sf,pn] (Qai st))
  (hb:∀(kV doc pm:Value) (an:Option Addr) (cdv ct:Value) (us:List Value),us.length = [sf,pn].length→bindArgs (PySem.W.fnOf "__init__" qual (QbQ st) (QaX st) (Qai st) .none kV doc pm an cdv ct) ⟨us,[]⟩=pure ([sf,pn].zip us))
  (hbo:QaX st = [.Assign [.Attribute (.Name sf p1) name p2] (.Name pn p3) p4]) (v0:Vis (Qai st) sf) (v1:Vis (Qai st) pn) (hs:∀L f cdv,swapsWith (.Name pn p3) (some (.Attribute (.Name sf p1) name p2)) p4.line (envOfC qual (Qai st) L f cdv)=pure false)
  (d0:(sf == ("__debug__":Str))=false:=by decide) (d1:(pn == ("__debug__":Str))=false:=by decide) (c0:(sf == ("__classdict__":Str))=false:=by decide) (c1:(pn == ("__classdict__":Str))=false:=by decide):QnE Pr w K mg base c name 1:=by
 obtain ⟨C,fI,fd,h1,h2,h3,h4⟩:=h;exact Qw6 h1 h2 h3 h4 S hb hbo v0 v1 d0 d1 c0 c1 hs
section
variable {X:Cx}{md:List Md}{P:Pt}{R:RR}
end
def QjK (P:Program) (w:World) (K:Frag) (mg:Str→Option Value) (base:Heap) (c:Str) (ps:List Str) (k:Nat) (sp:Sp):Prop :=
 ∃C f fd,mg c=some (.ref C)∧Mk K C f∧Binds K fd ps []∧QbH P w K mg base (CXF P w) k f fd ps sp
section
variable {Pr:Program}{w:World}{K:Frag}{mg:Str→Option Value}{base:Heap}
theorem QuB {c qual:Str}{st:Stmt}{N ps:List Str}{k:Nat} (Df:Qnd K mg c qual st) (S:QaA N ps (Qai st))
  (hb:∀(kV doc pm:Value) (an:Option Addr) (cdv ct:Value) (us:List Value),us.length=ps.length→bindArgs (PySem.W.fnOf "__init__" qual (QbQ st) (QaX st) (Qai st) .none kV doc pm an cdv ct) ⟨us,[]⟩=pure (ps.zip us))
  (pm lm:List Md) {R:RR}{b:MS} (hR:QcO R) (hR0:∀N H F as,R N H F as .non .non) (hpl:pm.length=ps.length:=by rfl) (hl:(pm++lm).length=N.length:=by rfl) (hp:∀m∈pm,m≠.o:=by decide)
  (body:∀(f:Addr) (cdv:Value) (A:Around) (outer:List Env) (s:Shared) (H:Hp) (E:XK),QaH k (A.deeper (envOfC qual (Qai st) s.heap.objs.size f cdv))→∀P,Qgj (Qcw (CXF Pr w) Pr w K mg base N qual (Qai st) f cdv A outer s H E) (pm++lm) P R (QaX st) b) :
  QjK Pr w K mg base c ps (k+1) (QcD K mg pm R (Qa8 N.length b)):=by
 obtain ⟨C,f,fd,h1,h2,h3⟩:=Df;exact ⟨C,f,fd,h1,h2,h3.binds hb,Qo6 h3 S pm lm hR hR0 hpl hl hp (body f)⟩
theorem QjK.can {c:Str}{ps:List Str}{k:Nat}{pm:List Md}{R:RR}{cf:List D→Qac→Res D} (C:QjK Pr w K mg base c ps k (QcD K mg pm R cf)) (hl:pm.length=ps.length:=by rfl):Qly Pr w K mg base c ps k (vSp K mg pm R cf):=by
 obtain ⟨C,f,fd,h1,h2,hb,Fn⟩:=C;exact ⟨C,f,fd,h1,h2,hb,Qlw Fn hl⟩
end
theorem RlO.ins {K:Frag}{mg:Str→Option Value}{O:Qac}{H F:Hp}{as:List Addr}{x dx C:Addr}{c:Str} (r1:RlO K mg O H F as) (hC:mg c=some (.ref C)) (hx:H x=none) (hdx:H dx=none) (hne:dx≠x) :
  RlO K mg (O ++ [.ins c []]) (upd (upd H dx (.own x)) x (.ins C dx [])) F (as ++ [x])∧Gr H F as (upd (upd H dx (.own x)) x (.ins C dx [])) F (as ++ [x])∧Rp K F (as ++ [x]) (.ref x) (.ob O.length):=by
 have hx2:upd H dx (.own x) x=none:=by rw [Qam hne.symm]; exact hx
 have gAB:Gr H F as (upd (upd H dx (.own x)) x (.ins C dx [])) F as:=(Gr.lay hdx).trans (Gr.lay hx2)
 have nx:x∉as:=fun z=>r1.all z hx
 have rB:=(r1.lay (o:=.own x) hdx).lay (o:=.ins C dx []) hx2
 have at_:∀(n:Nat) (a:Addr),as[n]? = some a→(as ++ [x])[n]? = some a:=fun n a h=>by
  rw [zt (zj.mp h).1]; exact h
 refine ⟨⟨rB.fh,rB.fd,?_,by simp [r1.len],fun a ha=>?_,fun n a o ha ho=>?_⟩,⟨gAB.fz,gAB.ff,⟨[x],rfl,fun a ha=>by rw [zr.mp ha]; exact hx⟩,fun a o e ha hd=>gAB.fr a o e ha hd,gAB.dm,gAB.kz⟩,Rp.mkO (by rw [←r1.len,zw (zc _),Nat.sub_self]; rfl)⟩
 ·rw [jl];refine ⟨r1.nd,by simp,fun a ha b hb=>?_⟩;rw [zr.mp hb];intro z;subst z;exact nx ha
 ·rcases zC.mp ha with z | z
  ·exact r1.fa a z
  ·rw [zr.mp z];exact r1.frF hx
 ·by_cases hn:n < O.length
  ·rw [zt (by rw [r1.len]; exact hn)] at ha;rw [zt hn] at ho;exact (rB.ob n a o ha ho).keep rfl (Same.refl _) at_
  ·have hn':n=O.length:=by
    have:=(zj.mp ho).1
    simp at this
    omega
   subst hn';rw [zw (zc _),Nat.sub_self] at ho;rw [←r1.len,zw (zc _),Nat.sub_self] at ha;cases ho;cases ha;exact ⟨C,dx,[],hC,QaE,⟨rfl,Rps.nil⟩⟩
section
variable {X:Cx}{md:List Md}{P:Pt}{k:Nat}{c:Str}{ps:List Str}{p pos:Pos}{e:Expr}{es:List Expr}{pm:List Md}{cf:List D→Qac→Res D}{ma:M (List D)}
def QdW (c:Str) (cf:List D→Qac→Res D) (ma:M (List D)):M D:=fun ρ O=>match ma ρ O with
 | .ok ds O1=>match cf (.ob O1.length::ds) (O1 ++ [.ins c []]) with
  | .ok .non O2=>.ok (.ob O1.length) O2
  | .ex x O2=>.ex x O2
  | _=>.no
 | _=>.no
theorem Qr9 {C:Addr} (hC:X.mg c=some (.ref C)) {σ:St}{H:Hp}{Q:VK} (q:tMF X.K X.mg md P (rV X.K) (exL X) (QdW c cf ma) σ H Q) :
  Qmy C (QcD X.K X.mg (.v::pm) (rV X.K) cf) [] (exG X) (tMA X.K X.mg md P pm ma) σ H Q:=by
 obtain ⟨ρ,O,F,as,r,s,k⟩:=q;unfold QdW at k
 cases em:ma ρ O with
 | ex x O'=>rw [em] at k; exact False.elim k
 | no=>rw [em] at k; exact False.elim k
 | ok ds O1 =>
  rw [em] at k;dsimp only at k;refine ⟨ρ,O,F,as,ds,O1,r,s,em,fun vs H1 F1 as1 g1 r1 hvs=>?_⟩;intro x dx hx hdx hne;rw [zG];obtain ⟨r2,g2,hox⟩:=r1.ins (c:=c) hC hx hdx hne;refine ⟨.ob O1.length::ds,_,F1,as1 ++ [x],r2,⟨hox,hvs.gr g2⟩,?_⟩
  cases ec:cf (.ob O1.length::ds) (O1 ++ [.ins c []]) with
  | ok d O2 =>
   rw [ec] at k
   cases d with
   | non=>exact fun v H3 F3 as3 g3 r3 hv=>⟨Rp.unN hv,k _ H3 F3 as3 ((g1.trans g2).trans g3) r3 (Rp.gr hox g3)⟩
   | _=>exact False.elim k
  | ex y O2 =>
   rw [ec] at k
   exact fun C' dxo H3 F3 as3 hC' g3 r3 hx3=>⟨y,C',rfl,hC',k dxo H3 F3 as3 ((g1.trans g2).trans g3) r3 hx3⟩
  | no=>rw [ec] at k; exact False.elim k
theorem QrM (M:QjK X.prog X.w X.K X.mg X.base c ps k (QcD X.K X.mg (.v::pm) (rV X.K) cf)) (hr:QaH (k+1) X.A) (ha:AE X md P pm (e::es) ma) (hg:Gl X c:=by rfl) (hdb:(c == ("__debug__":Str))=false:=by decide)
  (he:starEach (e::es) X.env=(false,eval e X.env)::starEach es X.env:=by exact Qa7 rfl) (hpl:(backTo pos (starEach es X.env)).any (·.1)=false:=by exact Qbb rfl):VEF X md P (rV X.K) (.Call (.Name c p) (e::es) [] pos) (QdW c cf ma):=by
 obtain ⟨C,f,fd,h1,h3,h4,h5⟩:=M
 exact (QoL (ds:=[]) (dvs:=[]) h3 h5 hr hg h1 h4 .nil Qkq ha hdb he hpl).imp fun _ _ _ q=>Qr9 h1 q
theorem Qsr (M:QjK X.prog X.w X.K X.mg X.base c ps k (QcD X.K X.mg (.v::pm) (rV X.K) cf)) (hr:QaH (k+1) X.A) (ha:∀E,AE (X.wish E) md P pm (e::es) ma) (hg:Gl X c:=by rfl) (hdb:(c == ("__debug__":Str))=false:=by decide)
  (he:starEach (e::es) X.env=(false,eval e X.env)::starEach es X.env:=by exact Qa7 rfl) (hpl:(backTo pos (starEach es X.env)).any (·.1)=false:=by exact Qbb rfl):VEH X md P (rV X.K) (.Call (.Name c p) (e::es) [] pos) (QdW c cf ma):=by
 intro pins s σ H ρ O F as Q W I r sl k;obtain ⟨C,f,fd,hC,hM,hb,Fn⟩:=M;unfold QdW at k
 cases em:ma ρ O with
 | ex x O'=>rw [em] at k; exact False.elim k
 | no=>rw [em] at k; exact False.elim k
 | ok ds O1 =>
  rw [em] at k;dsimp only at k;refine wpAny_Call_Name_kw (QdM I hg hC ?_ hdb);refine PySem.W.callWith_K (h₀:=X.base) I.ok.mod.kin hM.kp (thn (ha W pos pins s σ H (fun vs H1=>∃F1 as1,Gr H F as H1 F1 as1∧RlO X.K X.mg O1 H1 F1 as1∧QbV X.K H1 F1 as1 pm vs ds) (I.wish W) ⟨ρ,O,F,as,ds,O1,r,sl,em,fun vs H1 F1 as1 g1 r1 h1=>⟨F1,as1,g1,r1,h1⟩⟩) fun us s1 z=>?_) he hpl;obtain ⟨vs,H1,J1,rv,F1,as1,g1,r1,hvs⟩:=z;have J:=J1.unwish;refine ⟨J.kIn,?_⟩;have hx:=J.hok.fresh (Nat.le_succ s1.heap.objs.size);have hdx:=J.hok.fresh (zc s1.heap.objs.size);have hne:s1.heap.objs.size≠s1.heap.objs.size+1:=zl (jd _)
  obtain ⟨r2,g2,hox⟩:=r1.ins (c:=c) hC hx hdx hne;have I2:=Inv.made (C:=C) J
  have sp:QcD X.K X.mg (.v::pm) (rV X.K) cf (.ref (s1.heap.objs.size+1)::vs) (upd (upd H1 s1.heap.objs.size (.own (s1.heap.objs.size+1))) (s1.heap.objs.size+1) (.ins C s1.heap.objs.size [])) (fun v H2=>v = .non∧Q (.ref (s1.heap.objs.size+1)) H2) (exJ X pins σ W):=by
   refine ⟨.ob O1.length::ds,_,F1,as1 ++ [s1.heap.objs.size+1],r2,⟨hox,hvs.gr g2⟩,?_⟩
   cases ec:cf (.ob O1.length::ds) (O1 ++ [.ins c []]) with
   | ok d O2 =>
    rw [ec] at k
    cases d with
    | non=>exact fun v H3 F3 as3 g3 r3 hv=>⟨Rp.unN hv,k _ H3 F3 as3 ((g1.trans g2).trans g3) r3 (Rp.gr hox g3)⟩
    | _=>exact False.elim k
   | ex y O2 =>
    rw [ec] at k
    exact fun C' dxo H3 F3 as3 hC' g3 r3 hx3=>⟨y,C',rfl,hC',k dxo H3 F3 as3 ((g1.trans g2).trans g3) r3 hx3⟩
   | no=>rw [ec] at k; exact False.elim k
  have r3:QaB (V.ref (s1.heap.objs.size+1)::vs) (Value.ref (s1.heap.objs.size+1)::us):=.cons rfl rv
  have hl:(Value.ref (s1.heap.objs.size+1)::us).length=ps.length:=by rw [←r3.length]; exact Fn.len _ _ _ _ sp
  have bi:=hb { s1 with heap:=(s1.heap.push PySem.W.emptyDict).push (PySem.W.instObj C s1.heap.objs.size) } (Value.ref (s1.heap.objs.size+1)::us) I2.kIn (by rw [zG]; exact hl);rw [zG] at bi;refine zQ (QmZ (f:=f) J.kIn hM.makes hM.init (beq_iff_eq.mp hM.fn) (codeAny_mono (Fn.run _ X.stack _ _ ⟨Value.ref (s1.heap.objs.size+1)::us,[]⟩ (Value.ref (s1.heap.objs.size+1)::us) _ _ _ (hr.make C us []) (I2.env0.make C us []) bi r3 sp) fun res s' hq=>?_))
  cases res with
  | error e=>exact Qrc I2 e s' hq
  | ok fl =>
   cases fl with
   | ret u =>
    obtain ⟨v,H',I3,rv3,ev,q3⟩:=I2.after hq;subst ev;exact ⟨rv3,⟨V.ref (s1.heap.objs.size+1),H',I3,rfl,q3⟩⟩
   | next=>exact False.elim hq
   | brk=>exact False.elim hq
   | cont=>exact False.elim hq
end
section
variable {K:Frag}{h:Heap}{mg:Str→Option Value}
theorem mkD {x:Str}{st:Stmt}{f:Addr}{oc:Value}{od an:Option Addr}{sl:Array (Option Value)}{kV dc pm cd ct:Value} (X:K.In h) (G:h.Ns mainGlobals mg) (a:nsIn K mainGlobals x=some (some (.ref f))) (l:K.lookup f=some ⟨oc,od,.func (fnOf x x (QbQ st) (QaX st) (Qai st) .none kV dc pm an cd ct),sl⟩) (c:codeIn K cd x=true) (k:keepIn K (.ref f)=true):Def K mg x st:=⟨_,_,mg_of X G a,QkG l c k⟩
structure ClsAt (K:Frag) (c:Str) (A:Addr):Prop where
 ns:nsIn K mainGlobals c=some (some (.ref A))
 pg:plainGet K A Str.empty=true
 hd:hasDictIn K A=true
 po:plainOver K A=true
 sa:findIn K (.ref A) "__setattr__" = some (some (.builtin "object.__setattr__"))
 mks:makesIn K A=true
 kc:keepIn K (.ref A)=true
def MethAt (K:Frag) (A:Addr) (m qual:Str) (st:Stmt):Prop:=∃f fd,findIn K (.ref A) m=some (some (.ref f))∧isFn K (.ref f)=true∧keepIn K (.ref f)=true∧Fun K m qual st f fd
theorem mkM {A:Addr}{m qual:Str}{st:Stmt}{f:Addr}{oc:Value}{od an:Option Addr}{sl:Array (Option Value)}{kV dc pm cd ct:Value} (a:findIn K (.ref A) m=some (some (.ref f))) (i:isFn K (.ref f)=true) (l:K.lookup f=some ⟨oc,od,.func (fnOf m qual (QbQ st) (QaX st) (Qai st) .none kV dc pm an cd ct),sl⟩) (c:codeIn K cd qual=true) (k:keepIn K (.ref f)=true):MethAt K A m qual st:=⟨_,_,a,i,k,QkG l c k⟩
variable {A:Addr}{c:Str}
theorem ClsAt.cl (z:ClsAt K c A):Cls K A:=⟨z.pg,z.hd,z.po,z.sa⟩
theorem ClsAt.dm (z:ClsAt K c A) (X:K.In h) (G:h.Ns mainGlobals mg) {m qual:Str}{st:Stmt} (q:MethAt K A m qual st):Qgd K mg c m qual st:=by
 obtain ⟨f,fd,a,i,k,fu⟩:=q;exact ⟨_,_,_,mg_of X G z.ns,z.cl,⟨a,i,k⟩,fu⟩
theorem ClsAt.dc (z:ClsAt K c A) (X:K.In h) (G:h.Ns mainGlobals mg) {qual:Str}{st:Stmt} (q:MethAt K A "__init__" qual st):Qnd K mg c qual st:=by
 obtain ⟨f,fd,a,i,k,fu⟩:=q;exact ⟨_,_,_,mg_of X G z.ns,⟨z.mks,a,i,z.kc⟩,fu⟩
theorem ClsAt.kf (z:ClsAt K c A) (X:K.In h) (G:h.Ns mainGlobals mg) {f:Str} (n:findIn K (.ref A) f=some none):KC K mg c f:=⟨_,mg_of X G z.ns,z.cl,n⟩
end
end L2
namespace L2
open PySem PySem.Spec PyProof.Rows
section
variable {X:Cx}
end
def ofO (o:Option D) (O:Qac):Res D:=match o with
 | some d=>.ok d O
 | none=>.no
@[simp] theorem QbS {d:D}{O:Qac}:ofO (some d) O = .ok d O:=rfl
@[simp] theorem Qaq {α β:Type}{a:α}{O:Qac}{f:α→Qac→Res β}:(Res.ok a O).bind f=f a O:=rfl
@[simp] theorem Qxi {O:Qac}:QaL O .non = .non:=rfl
@[simp] theorem Qkv {O:Qac}{b:Bool}:QaL O (.bl b) = .bl b:=rfl
@[simp] theorem Qb5 {O:Qac}{b:Int}:QaL O (.int b) = .int b:=rfl
@[simp] theorem Qc1 {O:Qac}{b:List Nat}:QaL O (.str b) = .str b:=rfl
@[simp] theorem QfW {O:Qac}{b:List D}:QaL O (.lst b) = .lst b:=rfl
@[simp] theorem Qxq {O:Qac}{b:List D}:QaL O (.tup b) = .tup b:=rfl
@[simp] theorem Qxl {O:Qac}{a b:List D}:QaL O (.dic a b) = .dic a b:=rfl
@[simp] theorem Qbm {i:Nat}{ρ:Qal}{O:Qac}:Qab i ρ O=(match ρ[i]? with | some (some d)=>.ok d O | _=>.no):=rfl
@[simp] theorem m_c {d:D}{ρ:Qal}{O:Qac}:mC d ρ O = .ok d O:=rfl
@[simp] theorem Qd9 {g:D→D→Option D}{a b:M D}{ρ:Qal}{O:Qac}:Qaf g a b ρ O=(a ρ O).bind fun x O1=>(b ρ O1).bind fun y O2=>ofO (g (QaL O2 x) (QaL O2 y)) O2:=rfl
def gF (r:Res D):Res D:=match r with
 | .ok d O'=>if Qfz d=true then .ok d O' else .no
 | r=>r
@[simp] theorem m_g {m:M D}{ρ:Qal}{O:Qac}:mG m ρ O=gF (m ρ O):=rfl
@[simp] theorem QuN {i:Int}{O:Qac}:gF (.ok (.int i) O) = .ok (.int i) O:=rfl
@[simp] theorem QyV {i:List Nat}{O:Qac}:gF (.ok (.str i) O) = .ok (.str i) O:=rfl
@[simp] theorem Qzl {i:Bool}{O:Qac}:gF (.ok (.bl i) O) = .ok (.bl i) O:=rfl
@[simp] theorem QyQ {O:Qac}:gF (.ok .non O) = .ok .non O:=rfl
@[simp] theorem Qy2 {l:List D}{O:Qac}:gF (.ok (.tup l) O) = .ok (.tup l) O:=rfl
@[simp] theorem Qzi {n:Nat}{O:Qac}:gF (.ok (.ob n) O) = .ok (.ob n) O:=rfl
def chF (o:Option D) (O:Qac) (f:Unit→Res D):Res D:=match o with
 | some (.bl true)=>f ()
 | some (.bl false)=>.ok (.bl false) O
 | _=>.no
@[simp] theorem Qzc {b:Bool}{O:Qac}{f:Unit→Res D}:chF (some (.bl b)) O f=if b=true then f () else .ok (.bl false) O:=by cases b <;> rfl
@[simp] theorem Qyx {g g':D→D→Option D}{a b c:M D}{ρ:Qal}{O:Qac}:QhY g g' a b c ρ O=(a ρ O).bind fun x O1=>(b ρ O1).bind fun y O2=>chF (g (QaL O2 x) (QaL O2 y)) O2 fun _=>(c ρ O2).bind fun z O3=>ofO (g' (QaL O3 y) (QaL O3 z)) O3:=by
 unfold QhY;congr 1
@[simp] theorem Qza {m:M D}{ρ:Qal}{O:Qac}:Qyg m ρ O=(m ρ O).bind fun d O1=>.ok (.bl (isNon d)) O1:=rfl
@[simp] theorem QyE {m:M D}{ρ:Qal}{O:Qac}:Qmv m ρ O=(m ρ O).bind fun d O1=>.ok (.bl (!isNon d)) O1:=rfl
@[simp] theorem Qxk:isNon .non=true:=rfl
@[simp] theorem Qxn {l:List D}:isNon (.lst l)=false:=rfl
@[simp] theorem Qxj {l:List D}:isNon (.tup l)=false:=rfl
@[simp] theorem Qxp {l:List Nat}:isNon (.str l)=false:=rfl
@[simp] theorem Qxo {l:Int}:isNon (.int l)=false:=rfl
@[simp] theorem Qyf {l:Nat}:isNon (.ob l)=false:=rfl
def teF (d:D) (O:Qac):Res Bool:=match d with
 | .bl b=>.ok b O
 | _=>.no
@[simp] theorem QeD {b:Bool}{O:Qac}:teF (.bl b) O = .ok b O:=rfl
@[simp] theorem QeK {m:M D}{ρ:Qal}{O:Qac}:QaD m ρ O=(m ρ O).bind teF:=rfl
def ofB (o:Option Bool) (O:Qac):Res Bool:=match o with
 | some d=>.ok d O
 | none=>.no
@[simp] theorem Qkr {d:Bool}{O:Qac}:ofB (some d) O = .ok d O:=rfl
@[simp] theorem Qgq {m:M D}{ρ:Qal}{O:Qac}:Qbv m ρ O=(m ρ O).bind fun d O1=>ofB (Qld (QaL O1 d)) O1:=rfl
@[simp] theorem Qli {b:Bool}:Qld (.bl b)=some b:=rfl
@[simp] theorem Qx5 {b:List D}:Qld (.lst b)=some (!b.isEmpty):=rfl
@[simp] theorem QmC {a b:M Bool}{ρ:Qal}{O:Qac}:QcW a b ρ O=(a ρ O).bind fun c O1=>if c=true then b ρ O1 else .ok false O1:=rfl
@[simp] theorem Qmq {a b:M Bool}{ρ:Qal}{O:Qac}:QcC a b ρ O=(a ρ O).bind fun c O1=>if c=true then .ok true O1 else b ρ O1:=rfl
@[simp] theorem QeE {a:M Bool}{ρ:Qal}{O:Qac}:Qca a ρ O=(a ρ O).bind fun c O1=>.ok (!c) O1:=rfl
def anF (d:D) (O:Qac) (f:Unit→Res D):Res D:=match d with
 | .bl true=>f ()
 | .bl false=>.ok (.bl false) O
 | _=>.no
def orF (d:D) (O:Qac) (f:Unit→Res D):Res D:=match d with
 | .bl true=>.ok (.bl true) O
 | .bl false=>f ()
 | _=>.no
@[simp] theorem Qzu {b:Bool}{O:Qac}{f:Unit→Res D}:anF (.bl b) O f=if b=true then f () else .ok (.bl false) O:=by cases b <;> rfl
@[simp] theorem Qzy {b:Bool}{O:Qac}{f:Unit→Res D}:orF (.bl b) O f=if b=true then .ok (.bl true) O else f ():=by cases b <;> rfl
@[simp] theorem QyO {a b:M D}{ρ:Qal}{O:Qac}:Qeg a b ρ O=(a ρ O).bind fun d O1=>anF d O1 fun _=>b ρ O1:=by
 unfold Qeg;congr 1
@[simp] theorem QzC {a b:M D}{ρ:Qal}{O:Qac}:Qln a b ρ O=(a ρ O).bind fun d O1=>orF d O1 fun _=>b ρ O1:=by
 unfold Qln;congr 1
def noF (d:D) (O:Qac):Res D:=match d with
 | .bl b=>.ok (.bl (!b)) O
 | _=>.no
@[simp] theorem Qzh {b:Bool}{O:Qac}:noF (.bl b) O = .ok (.bl (!b)) O:=rfl
@[simp] theorem QyJ {a:M D}{ρ:Qal}{O:Qac}:Qmx a ρ O=(a ρ O).bind noF:=rfl
@[simp] theorem QzJ {t:M Bool}{a b:M D}{ρ:Qal}{O:Qac}:mIf t a b ρ O=(t ρ O).bind fun c O1=>if c=true then a ρ O1 else b ρ O1:=rfl
@[simp] theorem QbO {ρ:Qal}{O:Qac}:Qae ρ O = .ok [] O:=rfl
@[simp] theorem QcM {m:M D}{r:M (List D)}{ρ:Qal}{O:Qac}:Qaa m r ρ O=(m ρ O).bind fun d O1=>(r ρ O1).bind fun ds O2=>.ok (d::ds) O2:=rfl
@[simp] theorem QeL {r:M (List D)}{ρ:Qal}{O:Qac}:Qa0 r ρ O=(r ρ O).bind fun ds O1=>if ds.length≤1000000 then .ok (.lst ds) O1 else .no:=rfl
@[simp] theorem Qo5 {r:M (List D)}{ρ:Qal}{O:Qac}:Qbn r ρ O=(r ρ O).bind fun ds O1=>if ds.length≤1000000 then .ok (.tup ds) O1 else .no:=rfl
@[simp] theorem Qnw {c:List D→Qac→Res D}{ma:M (List D)}{ρ:Qal}{O:Qac}:Qat c ma ρ O=(ma ρ O).bind fun ds O1=>c ds O1:=rfl
@[simp] theorem QjG {g:List D→Option D}{ma:M (List D)}{ρ:Qal}{O:Qac}:QaY g ma ρ O=(ma ρ O).bind fun ds O1=>ofO (g (ds.map (QaL O1))) O1:=rfl
@[simp] theorem QzK {g:D→Option D}{ma:M D}{ρ:Qal}{O:Qac}:mUn g ma ρ O=(ma ρ O).bind fun d O1=>ofO (g (QaL O1 d)) O1:=rfl
def isF (n:String) (o:Option String) (O:Qac):Res D:=match o with
 | some t=>.ok (.bl (Qd6 t n)) O
 | none=>.no
@[simp] theorem Qkf {n t:String}{O:Qac}:isF n (some t) O = .ok (.bl (Qd6 t n)) O:=rfl
@[simp] theorem Qpl {n:String}{m:M D}{ρ:Qal}{O:Qac}:Qds n m ρ O=(m ρ O).bind fun d O1=>isF n (tyD (QaL O1 d)) O1:=rfl
@[simp] theorem QyA:tyD .non=some "NoneType":=rfl
@[simp] theorem QyX {b:Bool}:tyD (.bl b)=some "bool":=rfl
@[simp] theorem QyD {b:Int}:tyD (.int b)=some "int":=rfl
@[simp] theorem Qyz {b:List Nat}:tyD (.str b)=some "str":=rfl
@[simp] theorem Qle {b:List D}:tyD (.lst b)=some "list":=rfl
@[simp] theorem Qyq {b:List D}:tyD (.tup b)=some "tuple":=rfl
@[simp] theorem QyB {a b:List D}:tyD (.dic a b)=some "dict":=rfl
@[simp] theorem Qx9 {ρ:Qal}{O:Qac}:moN ρ O = .ok none O:=rfl
def osF (d:D) (O:Qac):Res (Option Int):=match d with
 | .int i=>.ok (some i) O
 | _=>.no
@[simp] theorem Qwm {i:Int}{O:Qac}:osF (.int i) O = .ok (some i) O:=rfl
@[simp] theorem QxS {m:M D}{ρ:Qal}{O:Qac}:moS m ρ O=(m ρ O).bind osF:=rfl
@[simp] theorem Qvn {m:M D}{lo hi:M (Option Int)}{ρ:Qal}{O:Qac}:mSl m lo hi ρ O=(m ρ O).bind fun d O1=>(lo ρ O1).bind fun l O2=>(hi ρ O2).bind fun h O3=>ofO (gSl (QaL O3 d) l h) O3:=rfl
@[simp] theorem Qtz {l:List Nat}{lo hi:Option Int}:gSl (.str l) lo hi=if l.length≤16777216 then some (.str (Qdm l lo hi)) else none:=rfl
@[simp] theorem QtA {l:List D}{lo hi:Option Int}:gSl (.lst l) lo hi=some (.lst (Qdm l lo hi)):=rfl
@[simp] theorem Qyo {l:List D}{lo hi:Option Int}:gSl (.tup l) lo hi=some (.tup (Qdm l lo hi)):=rfl
def QiN (f:Fl) (b:MS):Fl:=match f with
 | .nx ρ' O'=>b ρ' O'
 | r=>r
@[simp] theorem Qcz {a b:MS}{ρ:Qal}{O:Qac}:Qaj a b ρ O=QiN (a ρ O) b:=rfl
@[simp] theorem Qcp {ρ:Qal}{O:Qac}{b:MS}:QiN (.nx ρ O) b=b ρ O:=rfl
@[simp] theorem Quc {d:D}{O:Qac}{b:MS}:QiN (.rt d O) b = .rt d O:=rfl
@[simp] theorem Qyw {ρ:Qal}{O:Qac}{b:MS}:QiN (.bk ρ O) b = .bk ρ O:=rfl
@[simp] theorem Qyv {ρ:Qal}{O:Qac}{b:MS}:QiN (.ct ρ O) b = .ct ρ O:=rfl
@[simp] theorem Qyy {b:MS}:QiN .no b = .no:=rfl
@[simp] theorem QeI {ρ:Qal}{O:Qac}:Qay ρ O = .nx ρ O:=rfl
def QnG (r:Res D):Fl:=match r with
 | .ok d O'=>.rt d O'
 | .ex x O'=>.ex x O'
 | .no=>.no
@[simp] theorem QcP {m:M D}{ρ:Qal}{O:Qac}:Qaw m ρ O=QnG (m ρ O):=rfl
@[simp] theorem Qco {d:D}{O:Qac}:QnG (.ok d O) = .rt d O:=rfl
def Qs8 (r:Res D) (ρ:Qal):Fl:=match r with
 | .ok _ O'=>.nx ρ O'
 | .ex x O'=>.ex x O'
 | .no=>.no
@[simp] theorem QhO {m:M D}{ρ:Qal}{O:Qac}:Qh9 m ρ O=Qs8 (m ρ O) ρ:=rfl
@[simp] theorem QgK {d:D}{O:Qac}{ρ:Qal}:Qs8 (.ok d O) ρ = .nx ρ O:=rfl
def ifF (r:Res Bool) (a b:MS) (ρ:Qal):Fl:=match r with
 | .ok c O'=>if c=true then a ρ O' else b ρ O'
 | .ex x O'=>.ex x O'
 | .no=>.no
@[simp] theorem Qd8 {t:M Bool}{a b:MS}{ρ:Qal}{O:Qac}:QaT t a b ρ O=ifF (t ρ O) a b ρ:=rfl
@[simp] theorem Qdk {c:Bool}{O:Qac}{a b:MS}{ρ:Qal}:ifF (.ok c O) a b ρ=if c=true then a ρ O else b ρ O:=rfl
def QnD (i:Nat) (r:Res D) (ρ:Qal):Fl:=match r with
 | .ok d O'=>.nx (ρ.set i (some d)) O'
 | .ex x O'=>.ex x O'
 | .no=>.no
@[simp] theorem QdC {i:Nat}{m:M D}{ρ:Qal}{O:Qac}:Qas i m ρ O=QnD i (m ρ O) ρ:=rfl
@[simp] theorem QcY {i:Nat}{d:D}{O:Qac}{ρ:Qal}:QnD i (.ok d O) ρ = .nx (ρ.set i (some d)) O:=rfl
def Qwc (r:Res (List D)) (g:MG) (b:MS) (ρ:Qal):Fl:=match r with
 | .ok ds O'=>Qa5 g b ds ρ O'
 | .ex x O'=>.ex x O'
 | .no=>.no
@[simp] theorem Qnz {m:M (List D)}{g:MG}{b:MS}{ρ:Qal}{O:Qac}:Qct m g b ρ O=Qwc (m ρ O) g b ρ:=rfl
@[simp] theorem QoK {ds:List D}{O:Qac}{g:MG}{b:MS}{ρ:Qal}:Qwc (.ok ds O) g b ρ=Qa5 g b ds ρ O:=rfl
@[simp] theorem mg_n {i:Nat}{d:D}{ρ:Qal}:mgN i d ρ=some (ρ.set i (some d)):=rfl
def QbA (f:Fl):Res D:=match f with
 | .rt d O'=>.ok d O'
 | .nx _ O'=>.ok .non O'
 | .ex x O'=>.ex x O'
 | _=>.no
@[simp] theorem QpA {n:Nat}{b:MS}{ds:List D}{O:Qac}:Qa8 n b ds O=QbA (b (ds.map some++List.replicate (n - ds.length) none) O):=rfl
@[simp] theorem QgJ {d:D}{O:Qac}:QbA (.rt d O) = .ok d O:=rfl
@[simp] theorem QtI {ρ:Qal}{O:Qac}:QbA (.nx ρ O) = .ok .non O:=rfl
@[simp] theorem Qvc {m:M (List D)}{ρ:Qal}{O:Qac}:Qfl m ρ O=(m ρ O).bind fun ds O1=>match ds with
 | [.int j]=>if j≤1000000000∧-1000000000≤j then .ok (Qcd 0 j.toNat) O1 else .no
 | _=>.no:=rfl
def itF (o:Option (List D)) (O:Qac):Res (List D):=match o with
 | some ds=>.ok ds O
 | none=>.no
@[simp] theorem QxB {ds:List D}{O:Qac}:itF (some ds) O = .ok ds O:=rfl
@[simp] theorem QuE {m:M D}{ρ:Qal}{O:Qac}:Qfj m ρ O=(m ρ O).bind fun d O1=>itF (Qhn d) O1:=rfl
@[simp] theorem Qxh {ds:List D}:Qhn (.lst ds)=some ds:=rfl
@[simp] theorem Qxm {ds:List D}:Qhn (.tup ds)=some ds:=rfl
theorem QqO {l:List Nat} (h:ascii l=true):Qhn (.str l)=some (Qbe l):=by
 show (if ascii l=true then some (Qbe l) else none)=_;rw [if_pos h]
@[simp] theorem Qv4 {m:M (List D)}{own:Nat}{cap:List Nat}{g:MG}{t:M Bool}{e:M D}{ρ:Qal}{O:Qac}:Qgu m own cap g t e ρ O=(m ρ O).bind fun ds O1=>if ds.length≤1000000 then (Qc2 g t e ds (Qjn own cap ρ) O1 []).bind fun ys O2=>.ok (.lst ys) O2 else .no:=rfl
@[simp] theorem QyM {i j:Int}:Qce (.int i) (.int j)=some (.int (i+j)):=rfl
@[simp] theorem QuP {a b:List Nat}:Qce (.str a) (.str b)=if a.length+b.length≤1000000 then some (.str (a++b)) else none:=rfl
@[simp] theorem Quz {a b:List D}:Qce (.lst a) (.lst b)=if a.length+b.length≤1000000 then some (.lst (a++b)) else none:=rfl
@[simp] theorem QxZ {i j:Int}:Qh5 (.int i) (.int j)=some (.int (i - j)):=rfl
@[simp] theorem Qve {i j:Int}:Qbz (.int i) (.int j)=if 0 < j then some (.int (i % j)) else none:=by
 unfold Qbz gI
 by_cases h:0 < j <;> simp [h]
@[simp] theorem Qyn {i j:Int}:Qhi (.int i) (.int j)=if 0 < j∧j < 1073741824 then some (.int (i / j)) else none:=by
 unfold Qhi gI
 by_cases h:0 < j∧j < 1073741824 <;> simp [h]
theorem QqS {i j:Int} (h:(-(2 ^ 64) < i∧i < 2 ^ 64)∨(-(2 ^ 64) < j∧j < 2 ^ 64)):Qf8 (.int i) (.int j)=some (.int (i * j)):=by
 unfold Qf8;dsimp only;rw [if_pos];rw [Bool.or_eq_true];unfold QgF;rw [zg,zg,decide_eq_true_eq,decide_eq_true_eq,decide_eq_true_eq,decide_eq_true_eq];exact h
@[simp] theorem Qzb {i j:Int}:gLt (.int i) (.int j)=some (.bl (decide (i < j))):=rfl
@[simp] theorem Qzj {i j:Int}:gGt (.int i) (.int j)=some (.bl (decide (j < i))):=rfl
@[simp] theorem Qy8 {i j:Int}:gGe (.int i) (.int j)=some (.bl (decide (j≤i))):=rfl
@[simp] theorem Qzo {i j:Int}:gLe (.int i) (.int j)=some (.bl (decide (i≤j))):=rfl
theorem QqW (a b:Nat):(([a]:List Nat) < [b])↔a < b:=by
 constructor
 ·intro h
  rcases List.cons_lt_cons_iff.mp h with h | ⟨_,h⟩
  ·exact h
  ·exact absurd h (List.not_lt_nil _)
 ·intro h;exact List.cons_lt_cons_iff.mpr (.inl h)
@[simp] theorem Qzp {a b:Nat}:gLe (.str [a]) (.str [b])=some (.bl (decide (a≤b))):=by
 show some (D.bl (!decide (([b]:List Nat) < [a])))=_
 have:decide (([b]:List Nat) < [a])=decide (b < a):=by
  by_cases h:b < a
  ·rw [zV h,zV ((QqW _ _).mpr h)]
  ·rw [zy h,zy (fun z=>h ((QqW _ _).mp z))]
 rw [this]
 by_cases h:b < a
 ·rw [zV h,zy (by omega)]; rfl
 ·rw [zy h,zV (by omega)]; rfl
@[simp] theorem QzB {i j:Int}:gEq (.int i) (.int j)=some (.bl (decide (i=j))):=rfl
@[simp] theorem QjJ {i j:List Nat}:gEq (.str i) (.str j)=some (.bl (decide (i=j))):=rfl
@[simp] theorem Qzf {i j:Bool}:gEq (.bl i) (.bl j)=some (.bl (decide (i=j))):=rfl
@[simp] theorem Qs6 {i j:List D}:gEq (.lst i) (.lst j)=if (okE (.lst i)&&okE (.lst j))=true then some (.bl (Qjx (.lst i) (.lst j))) else none:=rfl
@[simp] theorem QpO {i j:Int}:gNe (.int i) (.int j)=some (.bl (!decide (i=j))):=rfl
@[simp] theorem Qzt {i j:List Nat}:gNe (.str i) (.str j)=some (.bl (!decide (i=j))):=rfl
@[simp] theorem Qzg {i j:Bool}:gNe (.bl i) (.bl j)=some (.bl (!decide (i=j))):=rfl
@[simp] theorem Qw3 {i j:List D}:gNe (.lst i) (.lst j)=if (okE (.lst i)&&okE (.lst j))=true then some (.bl (!Qjx (.lst i) (.lst j))) else none:=rfl
@[simp] theorem Qzz {n:Bool}{c:Nat}{l:List Nat}:gIn n (.str [c]) (.str l)=some (.bl (n ^^ decide (c∈l))):=rfl
theorem Qpx {ds:List D}{i:Int}:gIx (.lst ds) (.int i)=atI ds i:=rfl
theorem Qw4 {l:List Nat}{i:Int}:gIx (.str l) (.int i)=if l.length≤1000000 then (atI l i).map (fun c=>.str [c]) else none:=rfl
@[simp] theorem Quu {l:List Nat}:QbN [.str l]=if l.length≤1000000 then some (.int l.length) else none:=rfl
@[simp] theorem QmT {l:List D}:QbN [.lst l]=some (.int l.length):=rfl
@[simp] theorem Qy5 {l:List D}:QbN [.tup l]=some (.int l.length):=rfl
@[simp] theorem QyR {i j:Int}:QxY [.int i,.int j]=some (.int (if j > i then j else i)):=rfl
@[simp] theorem QyZ {i j:Int}:QxI [.int i,.int j]=some (.int (if j < i then j else i)):=rfl
@[simp] theorem QyU {i:Int}:Qj9 [.int i]=some (.int i):=rfl
@[simp] theorem QyW {b:Bool}:Qj9 [.bl b]=some (.int (if b then 1 else 0)):=rfl
@[simp] theorem QyS:Qgi (.int 10) (.int 18)=some (.int 1000000000000000000):=by rfl
@[simp] theorem Qy1:Qgi (.int 10) (.int 9)=some (.int 1000000000):=by rfl
@[simp] theorem Qjc {α:Type}{xs:List α}{j:Nat}:atI xs (j:Int)=xs[j]?:=by
 unfold atI ixN;rw [if_pos (by omega)]
 by_cases h:j < xs.length
 ·rw [if_pos (by omega)];simp
 ·rw [if_neg (by omega),List.getElem?_eq_none (by omega)];rfl
theorem QqV {α:Type}{xs:List α}{i:Int} (h0:0≤i) (h1:i < xs.length):∃x,atI xs i=some x∧x∈xs:=by
 obtain ⟨j,rfl⟩:=Int.eq_ofNat_of_zero_le h0
 have hj:j < xs.length:=by omega
 exact ⟨xs[j],by show atI xs (j:Int)=_; rw [Qjc,zK hj],jm hj⟩
section
variable {c:Prop} [Decidable c]
@[simp] theorem QxJ {a b:Fl}:QbA (if c then a else b)=if c then QbA a else QbA b:=by split <;> rfl
@[simp] theorem QxA {a b:Res D}:QnG (if c then a else b)=if c then QnG a else QnG b:=by split <;> rfl
@[simp] theorem QxG {a b:Fl}{r:MS}:QiN (if c then a else b) r=if c then QiN a r else QiN b r:=by split <;> rfl
@[simp] theorem QxC {α β:Type}{a b:Res α}{f:α→Qac→Res β}:(if c then a else b).bind f=if c then a.bind f else b.bind f:=by split <;> rfl
@[simp] theorem QyC {a b:Res Bool}{x y:MS}{ρ:Qal}:ifF (if c then a else b) x y ρ=if c then ifF a x y ρ else ifF b x y ρ:=by split <;> rfl
@[simp] theorem Qxw {a b:Res D}{i:Nat}{ρ:Qal}:QnD i (if c then a else b) ρ=if c then QnD i a ρ else QnD i b ρ:=by split <;> rfl
@[simp] theorem Qyp {a b:Option D}{O:Qac}:ofO (if c then a else b) O=if c then ofO a O else ofO b O:=by split <;> rfl
end
@[simp] theorem QyI:Qd6 "str" "str" = true:=by decide
@[simp] theorem QyF:Qd6 "int" "str" = false:=by decide
@[simp] theorem Qy4:Qd6 "bool" "str" = false:=by decide
@[simp] theorem Qy7:Qd6 "list" "str" = false:=by decide
@[simp] theorem QyG:Qd6 "tuple" "str" = false:=by decide
@[simp] theorem Qy0:Qd6 "dict" "str" = false:=by decide
@[simp] theorem Qy3:Qd6 "NoneType" "str" = false:=by decide
@[simp] theorem QyN:Qd6 "int" "int" = true:=by decide
@[simp] theorem QyY:Qd6 "int" "bool" = false:=by decide
@[simp] theorem Qyk:Qd6 "bool" "bool" = true:=by decide
@[simp] theorem Qlj:Qd6 "list" "list" = true:=by decide
@[simp] theorem Qyl:Qd6 "tuple" "tuple" = true:=by decide
@[simp] theorem Qys:Qd6 "NoneType" "list" = false:=by decide
theorem Qhk {g:MG}{b:MS} (Pv:Nat→Qal→Qac→Prop):∀(ds:List D) (k:Nat) (ρ:Qal) (O:Qac),Pv k ρ O →
  (∀i d ρ O,ds[i]? = some d→Pv (k+i) ρ O→∃ρ1,g d ρ=some ρ1∧∃ρ2 O2,(b ρ1 O = .nx ρ2 O2∨b ρ1 O = .ct ρ2 O2)∧Pv (k+i+1) ρ2 O2)→∃ρ' O',Qa5 g b ds ρ O = .nx ρ' O'∧Pv (k+ds.length) ρ' O'
 | [],k,ρ,O,h,_=>⟨ρ,O,rfl,h⟩
 | d::ds,k,ρ,O,h,hs=>by
  obtain ⟨ρ1,e1,ρ2,O2,e2,h2⟩:=hs 0 d ρ O rfl h
  obtain ⟨ρ',O',e3,h3⟩:=Qhk Pv ds (k+1) ρ2 O2 h2 fun i d' ρ' O' hi hp=>by
   have:=hs (i+1) d' ρ' O' (by simpa using hi) (by rw [show k+(i+1)=k+1+i by omega]; exact hp)
   rw [show k+(i+1)+1=k+1+i+1 by omega] at this;exact this
  refine ⟨ρ',O',?_,by rw [zq,show k+(ds.length+1)=k+1+ds.length by omega]; exact h3⟩;unfold Qa5;rw [e1];dsimp only
  rcases e2 with e2 | e2 <;> rw [e2] <;> exact e3
theorem Qma {g:MG}{t:M Bool}{m:M D} (Pv:Qal→Prop) (f:D→D):∀(ds:List D) (ρ:Qal) (O:Qac) (acc:List D),Pv ρ→(∀d∈ds,∀ρ,Pv ρ→∃ρ1,g d ρ=some ρ1∧Pv ρ1∧t ρ1 O = .ok true O∧m ρ1 O = .ok (f d) O)→Qc2 g t m ds ρ O acc = .ok (acc++ds.map f) O
 | [],ρ,O,acc,_,_=>by simp [Qc2]
 | d::ds,ρ,O,acc,h,hs=>by
  obtain ⟨ρ1,e1,h1,e2,e3⟩:=hs d zB ρ h;unfold Qc2;rw [e1];dsimp only;rw [e2];dsimp only;rw [e3];dsimp only;rw [Qma Pv f ds ρ1 O _ h1 fun d' hd'=>hs d' (zv _ hd')];simp
@[simp] theorem QyP {ρ:Qal}{O:Qac}:Qwy ρ O = .ok [] O:=rfl
@[simp] theorem Qym {a b:M D}{r:M (List (D×D))}{ρ:Qal}{O:Qac}:Qu8 a b r ρ O=(a ρ O).bind fun x O1=>(b ρ O1).bind fun y O2=>(r ρ O2).bind fun ps O3=>.ok ((x,y)::ps) O3:=rfl
def diF (o:Option (List Key)) (kv:List (D×D)) (O:Qac):Res D:=match o with
 | some ks=>if ks.Nodup∧kv.length≤15 then .ok (.dic (kv.map (·.1)) (kv.map (·.2))) O else .no
 | none=>.no
@[simp] theorem QxT {ks:List Key}{kv:List (D×D)}{O:Qac}:diF (some ks) kv O=if ks.Nodup∧kv.length≤15 then .ok (.dic (kv.map (·.1)) (kv.map (·.2))) O else .no:=rfl
@[simp] theorem QyL {m:M (List (D×D))}{ρ:Qal}{O:Qac}:QwG m ρ O=(m ρ O).bind fun kv O1=>diF (keysOf kv) kv O1:=rfl
@[simp] theorem Qyt {i:Int}:keyOf (.int i)=some (.inl i):=rfl
@[simp] theorem Qyr {i:List Nat}:keyOf (.str i)=some (.inr (S i)):=rfl
@[simp] theorem Qw5:keysOf []=some []:=rfl
@[simp] theorem Qwd {a b:D}{r:List (D×D)}:keysOf ((a,b)::r)=(keyOf a).bind fun k=>(keysOf r).map (k :: ·):=rfl
def joF (o:Option (List (List Nat))) (O:Qac):Res D:=match o with
 | some ls=>if (ls.map List.length).sum≤1000000 then .ok (.str ls.flatten) O else .no
 | none=>.no
@[simp] theorem Qx6 {ls:List (List Nat)}{O:Qac}:joF (some ls) O=if (ls.map List.length).sum≤1000000 then .ok (.str ls.flatten) O else .no:=rfl
def jdF (d:D) (O:Qac):Res D:=match d with
 | .lst ds=>joF (Qiu ds) O
 | _=>.no
@[simp] theorem Qzw {ds:List D}{O:Qac}:jdF (.lst ds) O=joF (Qiu ds) O:=rfl
@[simp] theorem Qy6 {m:M D}{ρ:Qal}{O:Qac}:QwO m ρ O=(m ρ O).bind fun d O1=>jdF (QaL O1 d) O1:=rfl
@[simp] theorem Qzs {own:Nat}{cap:List Nat}{ρ:Qal}:Qjn own cap ρ=List.replicate own none++cap.map fun j=>(ρ[j]?).join:=rfl
@[simp] theorem Qqr {g:MG}{t:M Bool}{m:M D}{ρ:Qal}{O:Qac}{acc:List D}:Qc2 g t m [] ρ O acc = .ok acc O:=rfl
theorem QmH:∀ds:List D,Qjk ds=ds.map toP
 | []=>rfl
 | d::ds=>by rw [Qjk,QmH ds]; rfl
theorem QjW:∀{ds:List D},(∀d∈ds,Qc4 d=true)→QfF ds=true
 | [],_=>rfl
 | d::ds,h=>by rw [QfF,h d zB,QjW fun x hx=>h x (zv _ hx)]; rfl
theorem Qov {n:Nat} (hn:n < 60) {ds:List D} (h:∀d∈ds,Qc4 d=true∧(toP d).canLay0=true∧(toP d).depth≤n):okE (.lst ds)=true:=by
 unfold okE;rw [zg];refine ⟨?_,?_⟩
 ·rw [Qc4]; exact QjW fun d hd=>(h d hd).1
 ·rw [toP,QmH]
  refine QtF hn fun d hd=>?_
  obtain ⟨x,hx,rfl⟩:=zZ.mp hd;exact (h x hx).2
theorem QhP {l:List Nat} (h:∀c∈l,c < 1114112):(PyData.str (S l)).canLay0=true:=by
 show PyData.strOk (S l)=true;unfold PyData.strOk S;simp;exact h
theorem Qf0 {d:D} (h:okE d=true):Qjx d d=true:=by
 unfold okE at h;rw [zg] at h
 have:=h.2
 unfold okD at this;rw [zg] at this;exact SeqAt.eqv_refl _ this.1
def it (f:Int→Int):Nat→Int→Int
 | 0,x=>x
 | n+1,x=>f (it f n x)
def mix (n k:Int):Int:=if n > 1000000000000000000 then it (fun r=>r / 1000000000) k.toNat n % 1000000000
 else
  let m:=it (fun m=>(m * 48271+104729) % 2147483629) (k+2).toNat (n % 2147483647+7919)
  m * m % 998244353 / 11
theorem Qs9 (j:Nat) (x:Int) (h0:0≤x) (h1:x < 2147491566):0≤it (fun m=>(m * 48271+104729) % 2147483629) j x∧it (fun m=>(m * 48271+104729) % 2147483629) j x < 2147491566:=by
 induction j with
 | zero=>exact ⟨h0,h1⟩
 | succ j ih =>
  refine ⟨jh _ (by decide),?_⟩
  have:=jn (it (fun m=>(m * 48271+104729) % 2147483629) j x * 48271+104729) (show (0:Int) < 2147483629 by decide)
  show (it (fun m=>(m * 48271+104729) % 2147483629) j x * 48271+104729) % 2147483629 < _;omega
def Qo4:MS:=(Qaj (QaT (QaD (Qaf gGt (Qab 0) (Qaf Qgi (mC (.int 10)) (mC (.int 18))))) (Qaj (Qas 2 (mG (Qab 0)))
  (Qaj (Qct (Qfl (Qaa (Qab 1) Qae)) (mgN 3) (Qas 2 (Qaf Qhi (Qab 2) (Qaf Qgi (mC (.int 10)) (mC (.int 9))))))
  (Qaw (Qaf Qbz (Qab 2) (Qaf Qgi (mC (.int 10)) (mC (.int 9))))))) Qay)
  (Qaj (Qas 4 (Qaf Qce (Qaf Qbz (Qab 0) (mC (.int 2147483647))) (mC (.int 7919))))
  (Qaj (Qct (Qfl (Qaa (Qaf Qce (Qab 1) (mC (.int 2))) Qae)) (mgN 3) (Qas 4 (Qaf Qbz (Qaf Qce (Qaf Qf8 (Qab 4) (mC (.int 48271))) (mC (.int 104729))) (mC (.int 2147483629)))))
  (Qaw (Qaf Qhi (Qaf Qbz (Qaf Qf8 (Qab 4) (Qab 4)) (mC (.int 998244353))) (mC (.int 11)))))))
theorem QkL (lo:Int) (n:Nat):(Qcd lo n).length=n:=by simp [Qcd]
theorem Qvg (n k:Int) (h0:0≤k) (h1:k≤1000000) (O:Qac):Qa8 5 Qo4 [.int n,.int k] O = .ok (.int (mix n k)) O:=by
 unfold mix
 by_cases hn:n > 1000000000000000000
 ·obtain ⟨ρ',O',e,rfl,o3,rfl⟩:=Qhk (g:=mgN 3) (b:=Qas 2 (Qaf Qhi (Qab 2) (Qaf Qgi (mC (.int 10)) (mC (.int 9)))))
   (fun i ρ O'=>O'=O∧∃o3,ρ = [some (.int n),some (.int k),some (.int (it (fun r=>r / 1000000000) i n)),o3,none]) (Qcd 0 k.toNat) 0 [some (.int n),some (.int k),some (.int n),none,none] O ⟨rfl,none,rfl⟩ (by
    rintro i d ρ O' hi ⟨rfl,o3,rfl⟩;refine ⟨_,rfl,?_⟩;simp;rw [show it (fun r=>r / 1000000000) (i+1) n=it (fun r=>r / 1000000000) i n / 1000000000 from rfl]
    exact ⟨_,_,⟨rfl,rfl⟩,rfl,_,rfl⟩)
  rw [QkL,Nat.zero_add] at e
  have hk:k≤1000000000∧-1000000000≤k:=by omega
  simp [Qo4,hn,hk,e]
 ·have hm0:0≤n % 2147483647+7919:=by have:=jh n (show (2147483647:Int)≠0 by decide); omega
  have hm1:n % 2147483647+7919 < 2147491566:=by have:=jn n (show (0:Int) < 2147483647 by decide); omega
  obtain ⟨ρ',O',e,rfl,o3,rfl⟩:=Qhk (g:=mgN 3) (b:=Qas 4 (Qaf Qbz (Qaf Qce (Qaf Qf8 (Qab 4) (mC (.int 48271))) (mC (.int 104729))) (mC (.int 2147483629))))
   (fun i ρ O'=>O'=O∧∃o3,ρ = [some (.int n),some (.int k),none,o3,some (.int (it (fun m=>(m * 48271+104729) % 2147483629) i (n % 2147483647+7919)))]) (Qcd 0 (k+2).toNat) 0 [some (.int n),some (.int k),none,none,some (.int (n % 2147483647+7919))] O ⟨rfl,none,rfl⟩ (by
    rintro i d ρ O' hi ⟨rfl,o3,rfl⟩;refine ⟨_,rfl,?_⟩;obtain ⟨b0,b1⟩:=Qs9 i _ hm0 hm1
    have:=QqS (i:=it (fun m=>(m * 48271+104729) % 2147483629) i (n % 2147483647+7919)) (j:=48271) (.inr ⟨by decide,by decide⟩)
    simp [this]
    rw [show it (fun m=>(m * 48271+104729) % 2147483629) (i+1) (n % 2147483647+7919)=(it (fun m=>(m * 48271+104729) % 2147483629) i (n % 2147483647+7919) * 48271+104729) % 2147483629 from rfl]
    exact ⟨_,_,⟨rfl,rfl⟩,rfl,_,rfl⟩)
  rw [QkL,Nat.zero_add] at e
  have hk:k+2≤1000000000∧-1000000000≤k+2:=by omega
  obtain ⟨b0,b1⟩:=Qs9 (k+2).toNat _ hm0 hm1;have hq:=QqS (i:=it (fun m=>(m * 48271+104729) % 2147483629) (k+2).toNat (n % 2147483647+7919)) (j:=it (fun m=>(m * 48271+104729) % 2147483629) (k+2).toNat (n % 2147483647+7919)) (.inl ⟨by omega,by omega⟩);simp [Qo4,hn,hk,e,hq]
def QfC (cs:List Str) (f:Str) (d:D) (O:Qac):Res D:=match d with
 | .ob n=>match O[n]? with
  | some (.ins c fs)=>if c∈cs then match fs.lookup f with
   | some y=>.ok y O
   | none=>.no else .no
  | _=>.no
 | _=>.no
@[simp] theorem Qxf {cs:List Str}{f:Str}{m:M D}{ρ:Qal}{O:Qac}:Qb0 cs f m ρ O=(m ρ O).bind (QfC cs f):=rfl
def puF (cs:List Str) (f:Str) (d:D) (ρ:Qal) (r:Res D):Fl:=match r with
 | .ok (.ob n) O2=>match O2[n]? with
  | some (.ins c fs)=>if c∈cs∧fs.length < 900 then .nx ρ (O2.set n (.ins c (putD f d fs))) else .no
  | _=>.no
 | _=>.no
def sfF (cs:List Str) (f:Str) (mo:M D) (r:Res D) (ρ:Qal):Fl:=match r with
 | .ok d O1=>puF cs f d ρ (mo ρ O1)
 | .ex x O'=>.ex x O'
 | .no=>.no
@[simp] theorem Qh1 {cs:List Str}{f:Str}{mo mv:M D}{ρ:Qal}{O:Qac}:QbK cs f mo mv ρ O=sfF cs f mo (mv ρ O) ρ:=by
 unfold QbK sfF puF
 cases mv ρ O <;> rfl
@[simp] theorem QhX {cs:List Str}{f:Str}{mo:M D}{d:D}{O:Qac}{ρ:Qal}:sfF cs f mo (.ok d O) ρ=puF cs f d ρ (mo ρ O):=rfl
def meF (c m:Str) (cf:List D→Qac→Res D) (ma:Qac→Res (List D)) (d:D) (O1:Qac):Res D:=match d with
 | .ob n=>match O1[n]? with
  | some (.ins c' fs)=>if c'=c∧(fs.lookup m).isNone=true then (ma O1).bind fun ds O2=>cf (.ob n::ds) O2 else .no
  | _=>.no
 | _=>.no
@[simp] theorem QeC {c m:Str}{cf:List D→Qac→Res D}{mo:M D}{ma:M (List D)}{ρ:Qal}{O:Qac}:Qbq c m cf mo ma ρ O=(mo ρ O).bind (meF c m cf (ma ρ)):=rfl
def mkF (n:Nat) (r:Res D):Res D:=match r with
 | .ok .non O2=>.ok (.ob n) O2
 | .ok _ _=>.no
 | .ex x O2=>.ex x O2
 | .no=>.no
@[simp] theorem Qux {c:Str}{cf:List D→Qac→Res D}{ma:M (List D)}{ρ:Qal}{O:Qac}:Qc7 c cf ma ρ O=(ma ρ O).bind fun ds O1=>mkF O1.length (cf (.ob O1.length::ds) (O1 ++ [.ins c []])):=by
 unfold Qc7;congr 1
@[simp] theorem QuK {n:Nat}{O:Qac}:mkF n (.ok .non O) = .ok (.ob n) O:=rfl
def apF (i:Nat) (r:Res D) (ρ:Qal):Fl:=match r with
 | .ok d O'=>match ρ[i]? with
  | some (some (.lst ds))=>if ds.length < 1000000 then .nx (ρ.set i (some (.lst (ds ++ [d])))) O' else .no
  | _=>.no
 | .ex x O'=>.ex x O'
 | .no=>.no
@[simp] theorem QyH {i:Nat}{m:M D}{ρ:Qal}{O:Qac}:Qha i m ρ O=apF i (m ρ O) ρ:=rfl
def exF (i:Nat) (r:Res D) (ρ:Qal):Fl:=match r with
 | .ok d O'=>match ρ[i]?,QaL O' d with
  | some (some (.lst ds)),.lst es=>if ds.length+es.length≤1000000 then .nx (ρ.set i (some (.lst (ds++es)))) O' else .no
  | _,_=>.no
 | .ex x O'=>.ex x O'
 | .no=>.no
@[simp] theorem QqM {i:Nat}{m:M D}{ρ:Qal}{O:Qac}:Qgv i m ρ O=exF i (m ρ O) ρ:=rfl
theorem Qqc {i:Nat}{es ds:List D}{ρ:Qal}{O:Qac} (h:ρ[i]? = some (some (.lst ds))) (hl:ds.length+es.length≤1000000):exF i (.ok (.lst es) O) ρ = .nx (ρ.set i (some (.lst (ds++es)))) O:=by
 unfold exF; dsimp only [QaL]; rw [h]; dsimp only; rw [if_pos hl]
def enF (d:D) (O1:Qac):Res (List D):=match d with
 | .lst ds=>.ok (Qb2 0 ds) O1
 | .str l=>if ascii l=true then .ok (Qb2 0 (Qbe l)) O1 else .no
 | _=>.no
@[simp] theorem QvM {m:M D}{ρ:Qal}{O:Qac}:QiJ m ρ O=(m ρ O).bind enF:=rfl
theorem QoJ {l:List Nat}{O:Qac} (h:ascii l=true):enF (.str l) O = .ok (Qb2 0 (Qbe l)) O:=by
 show (if ascii l=true then _ else _)=_;rw [if_pos h]
def asF (r:Res D) (g:MG) (ρ:Qal):Fl:=match r with
 | .ok d O'=>match g d ρ with
  | some ρ'=>.nx ρ' O'
  | none=>.no
 | .ex x O'=>.ex x O'
 | .no=>.no
@[simp] theorem Qvo {m:M D}{g:MG}{ρ:Qal}{O:Qac}:QjL m g ρ O=asF (m ρ O) g ρ:=rfl
@[simp] theorem Qyb {i j:Nat}{a b:D}{ρ:Qal}:Qfq 2 (Qa6 (mgN i) (Qa6 (mgN j) Qdi)) (.tup [a,b]) ρ=some ((ρ.set i (some a)).set j (some b)):=rfl
def stF (a b:D) (O:Qac):Res D:=match a,b with
 | .str l,.str n=>.ok (.bl (decide (l.take n.length=n))) O
 | _,_=>.no
@[simp] theorem Qx4 {a b:M D}{ρ:Qal}{O:Qac}:QjO a b ρ O=(a ρ O).bind fun x O1=>(b ρ O1).bind fun y O2=>stF x y O2:=rfl
@[simp] theorem Qzr {l n:List Nat}{O:Qac}:stF (.str l) (.str n) O = .ok (.bl (decide (l.take n.length=n))) O:=rfl
def QcB:List Nat:=[101,110,100]
def Qcg:List Nat:=[97,110,101,119]
def Qcc:List Nat:=[112,108,97,105,110]
def QaF:List Nat:=[115,105,103,110]
def Qcn:List Nat:=[105,110,107]
def Qbs:List Nat:=[103,114,111,117,110,100]
def item (p:Int) (k v:List Nat):D:=.tup [.int p,.str k,.str v]
def col (c:Nat):Bool:=decide (c∈[97,98,99,100,101,102,103,104,46])
theorem QkY {c:Nat} (h:col c=true):c≠91∧c≠93∧c≠47∧c≠10∧c≠9:=by
 have:c∈[97,98,99,100,101,102,103,104,46]:=jk h
 have q:∀c∈[97,98,99,100,101,102,103,104,46],c≠91∧c≠93∧c≠47∧c≠10∧c≠9:=by decide
 exact q c this
def Qlc (x:Nat):List Nat→List Nat×List Nat×Nat
 | []=>(QaF,[91],0)
 | e::_=>if e=93 then (Qbs,[x],3) else (QaF,[91],0)
def Qi1:List Nat→List Nat×List Nat×Nat
 | []=>(QaF,[91],0)
 | x::t=>if col x=true then Qlc x t else (QaF,[91],0)
def Qlt (x:Nat):List Nat→List Nat×List Nat×Nat
 | []=>(QaF,[91],0)
 | e::_=>if e=93 then (Qcn,[x],2) else (QaF,[91],0)
def QeX:List Nat→List Nat×List Nat×Nat
 | []=>(QaF,[91],0)
 | d::t=>if d=93 then (Qcc,[],1) else if d=91 then (QaF,[91],1) else if col d=true then Qlt d t else if d=47 then Qi1 t else (QaF,[91],0)
def one (c:Nat) (t:List Nat):List Nat×List Nat×Nat :=
 if c=10 then (QcB,[],0) else if c=9 then (Qcg,[],0) else if c=91 then QeX t else (QaF,[c],0)
def items (p:Int):List Nat→List D
 | []=>[]
 | c::t=>item p (one c t).1 (one c t).2.1::items (p+((one c t).2.2+1:Nat)) (t.drop (one c t).2.2)
termination_by l=>l.length
decreasing_by
 simp only [List.length_drop,zq];omega
theorem QdX (p:Int):items p [] = []:=by rw [items]
theorem Qgz (p:Int) (c:Nat) (t:List Nat):items p (c::t)=item p (one c t).1 (one c t).2.1::items (p+((one c t).2.2+1:Nat)) (t.drop (one c t).2.2):=by rw [items]
def own (p:Int) (c:Nat):D:=if c=10 then item p QcB [] else if c=9 then item p Qcg [] else item p QaF [c]
def Qdc:Int→List Nat→List D
 | _,[]=>[]
 | p,c::l=>own p c::Qdc (p+1) l
theorem Qbx {p:Int}{c:Nat}{t:List Nat} (h:c≠91):items p (c::t)=own p c::items (p+1) t:=by
 rw [Qgz];unfold one own
 by_cases h1:c=10
 ·simp [h1]
 ·by_cases h2:c=9
  ·simp [h1,h2]
  ·simp [h1,h2,h]
theorem QcR {p:Int}{t:List Nat} (h:QeX t=(QaF,[91],0)):items p (91::t)=own p 91::items (p+1) t:=by
 rw [Qgz]
 have:one 91 t=(QaF,[91],0):=h
 rw [this];rfl
theorem Qhe {p:Int}{t:List Nat}{k v:List Nat}{n:Nat} (h:QeX t=(k,v,n)):items p (91::t)=item p k v::items (p+(n+1:Nat)) (t.drop n):=by
 rw [Qgz]
 have:one 91 t=(k,v,n):=h
 rw [this]
def QcQ:List Nat→Bool
 | [a]=>decide (a=91)
 | [a,b]=>decide (a=91)&&(decide (b=47) || col b)
 | [a,b,c]=>decide (a=91)&&(decide (b=47)&&col c)
 | _=>false
def markB:List Nat→Option (List Nat×List Nat)
 | [a,b]=>if a=91∧b=93 then some (Qcc,[]) else if a=91∧b=91 then some (QaF,[91]) else none
 | [a,b,c]=>if a=91∧col b=true∧c=93 then some (Qcn,[b]) else none
 | [a,b,c,d]=>if a=91∧b=47∧col c=true∧d=93 then some (Qbs,[c]) else none
 | _=>none
def tk (h:List Nat) (c:Nat) (p:Int):List D×List Nat :=
 if QcQ (h ++ [c])=true then ([],h ++ [c]) else match markB (h ++ [c]) with
 | some (k,v)=>([item p k v],[])
 | none=>if c=91 then (Qdc p h,[91]) else (Qdc p (h ++ [c]),[])
inductive Held:List Nat→Prop where
 | h0:Held []
 | h1:Held [91]
 | h2:Held [91,47]
 | h3 (x:Nat) (h:col x=true):Held [91,x]
 | h4 (x:Nat) (h:col x=true):Held [91,47,x]
theorem Held.len {h:List Nat} (H:Held h):h.length≤3:=by cases H <;> simp
theorem QmY:col 91=false:=by decide
theorem Qry:col 93=false:=by decide
theorem QfV:col 47=false:=by decide
theorem Qiv {h:List Nat} (H:Held h) (c:Nat) (p:Int) (rest:List Nat) :
  Held (tk h c p).2∧items p (h++c::rest)=(tk h c p).1++items (p+h.length+1 - (tk h c p).2.length) ((tk h c p).2++rest):=by
 cases H with
 | h0 =>
  by_cases h1:c=91
  ·subst h1;refine ⟨Held.h1,?_⟩;simp [tk,QcQ]
  ·have:tk [] c p=([own p c],[]):=by simp [tk,QcQ,markB,h1,Qdc]
   rw [this];refine ⟨Held.h0,?_⟩;simp [Qbx h1]
 | h1 =>
  by_cases h2:c=93
  ·subst h2
   have:tk [91] 93 p=([item p Qcc []],[]):=by simp [tk,QcQ,markB,Qry]
   rw [this];refine ⟨Held.h0,?_⟩;show items p (91::93::rest)=_;rw [Qhe (k:=Qcc) (v:=[]) (n:=1) rfl];simp [Int.add_assoc]
  ·by_cases h1:c=91
   ·subst h1
    have:tk [91] 91 p=([item p QaF [91]],[]):=by simp [tk,QcQ,markB,QmY]
    rw [this];refine ⟨Held.h0,?_⟩;show items p (91::91::rest)=_;rw [Qhe (k:=QaF) (v:=[91]) (n:=1) rfl];simp [Int.add_assoc]
   ·by_cases h3:c=47
    ·subst h3
     have:tk [91] 47 p=([],[91,47]):=by simp [tk,QcQ]
     rw [this];exact ⟨Held.h2,by simp; congr 1; omega⟩
    ·by_cases h4:col c=true
     ·have:tk [91] c p=([],[91,c]):=by simp [tk,QcQ,h4]
      rw [this];exact ⟨Held.h3 c h4,by simp; congr 1; omega⟩
     ·have:tk [91] c p=([own p 91,own (p+1) c],[]):=by simp [tk,QcQ,markB,h1,h2,h3,h4,Qdc]
      rw [this];refine ⟨Held.h0,?_⟩;show items p (91::c::rest)=_;rw [QcR (by simp [QeX,h1,h2,h3,h4]),Qbx h1];simp
 | h2 =>
  by_cases h4:col c=true
  ·have:tk [91,47] c p=([],[91,47,c]):=by simp [tk,QcQ,h4]
   rw [this];exact ⟨Held.h4 c h4,by simp; congr 1; omega⟩
  ·by_cases h1:c=91
   ·subst h1
    have:tk [91,47] 91 p=([own p 91,own (p+1) 47],[91]):=by simp [tk,QcQ,markB,QfV,QmY,Qdc]
    rw [this];refine ⟨Held.h1,?_⟩;show items p (91::47::91::rest)=_;rw [QcR (by simp [QeX,Qi1,QfV,QmY]),Qbx (by decide)];simp;congr 1;omega
   ·have:tk [91,47] c p=([own p 91,own (p+1) 47,own (p+1+1) c],[]):=by simp [tk,QcQ,markB,h1,h4,QfV,Qdc]
    rw [this];refine ⟨Held.h0,?_⟩;show items p (91::47::c::rest)=_;rw [QcR (by simp [QeX,Qi1,QfV,h4]),Qbx (by decide),Qbx h1];simp;congr 1;omega
 | h3 x hx =>
  obtain ⟨n1,n2,n3,n4,n5⟩:=QkY hx
  by_cases h2:c=93
  ·subst h2
   have:tk [91,x] 93 p=([item p Qcn [x]],[]):=by simp [tk,QcQ,markB,Qry,hx]
   rw [this];refine ⟨Held.h0,?_⟩;show items p (91::x::93::rest)=_;rw [Qhe (k:=Qcn) (v:=[x]) (n:=2) (by simp [QeX,Qlt,n1,n2,hx])];simp;congr 1;omega
  ·by_cases h1:c=91
   ·subst h1
    have:tk [91,x] 91 p=([own p 91,own (p+1) x],[91]):=by simp [tk,QcQ,markB,n3,Qdc]
    rw [this];refine ⟨Held.h1,?_⟩;show items p (91::x::91::rest)=_;rw [QcR (by simp [QeX,Qlt,n1,n2,hx]),Qbx n1];simp;congr 1;omega
   ·have:tk [91,x] c p=([own p 91,own (p+1) x,own (p+1+1) c],[]):=by simp [tk,QcQ,markB,h1,h2,n3,Qdc]
    rw [this];refine ⟨Held.h0,?_⟩;show items p (91::x::c::rest)=_;rw [QcR (by simp [QeX,Qlt,n1,n2,hx,h2]),Qbx n1,Qbx h1];simp;congr 1;omega
 | h4 x hx =>
  obtain ⟨n1,n2,n3,n4,n5⟩:=QkY hx
  by_cases h2:c=93
  ·subst h2
   have:tk [91,47,x] 93 p=([item p Qbs [x]],[]):=by simp [tk,QcQ,markB,hx]
   rw [this];refine ⟨Held.h0,?_⟩;show items p (91::47::x::93::rest)=_;rw [Qhe (k:=Qbs) (v:=[x]) (n:=3) (by simp [QeX,Qi1,Qlc,QfV,hx])];simp;congr 1;omega
  ·by_cases h1:c=91
   ·subst h1
    have:tk [91,47,x] 91 p=([own p 91,own (p+1) 47,own (p+1+1) x],[91]):=by simp [tk,QcQ,markB,Qdc]
    rw [this];refine ⟨Held.h1,?_⟩;show items p (91::47::x::91::rest)=_;rw [QcR (by simp [QeX,Qi1,Qlc,QfV,hx]),Qbx (by decide),Qbx n1];simp;congr 1;omega
   ·have:tk [91,47,x] c p=([own p 91,own (p+1) 47,own (p+1+1) x,own (p+1+1+1) c],[]):=by simp [tk,QcQ,markB,h1,h2,Qdc]
    rw [this];refine ⟨Held.h0,?_⟩;show items p (91::47::x::c::rest)=_;rw [QcR (by simp [QeX,Qi1,Qlc,QfV,hx,h2]),Qbx (by decide),Qbx n1,Qbx h1];simp;congr 1;omega
theorem Qpd {h:List Nat} (H:Held h) (p:Int):items p h=Qdc p h:=by
 cases H with
 | h0=>rw [QdX]; rfl
 | h1=>rw [QcR rfl,QdX]; rfl
 | h2=>rw [QcR rfl,Qbx (by decide),QdX]; rfl
 | h3 x hx =>
  obtain ⟨n1,n2,n3,n4,n5⟩:=QkY hx;rw [QcR (by simp [QeX,Qlt,n1,n2,hx]),Qbx n1,QdX]; rfl
 | h4 x hx =>
  obtain ⟨n1,n2,n3,n4,n5⟩:=QkY hx;rw [QcR (by simp [QeX,Qi1,Qlc,QfV,hx]),Qbx (by decide),Qbx n1,QdX]; rfl
def QbU:List Nat→Int→List Nat→List D×List Nat
 | h,_,[]=>([],h)
 | h,p,c::t=>((tk h c (p - h.length)).1++(QbU (tk h c (p - h.length)).2 (p+1) t).1,(QbU (tk h c (p - h.length)).2 (p+1) t).2)
theorem Ql0:∀(t:List Nat) {h:List Nat} (_:Held h) (p:Int) (rest:List Nat),Held (QbU h p t).2∧items (p - h.length) (h++(t++rest))=(QbU h p t).1++items (p+t.length - (QbU h p t).2.length) ((QbU h p t).2++rest)
 | [],h,H,p,rest=>⟨H,by simp [QbU]⟩
 | c::t,h,H,p,rest=>by
  obtain ⟨a,b⟩:=Qiv H c (p - h.length) (t++rest);obtain ⟨a2,b2⟩:=Ql0 t a (p+1) rest;refine ⟨a2,?_⟩;show items (p - h.length) (h++c::(t++rest))=_;rw [b]
  have e:p - (h.length:Int)+h.length+1 - ((tk h c (p - h.length)).2.length:Int)=p+1 - ((tk h c (p - h.length)).2.length:Int):=by omega
  rw [e,b2];show _=((tk h c (p - h.length)).1++(QbU (tk h c (p - h.length)).2 (p+1) t).1)++items (p+((c::t).length:Nat) - ((QbU (tk h c (p - h.length)).2 (p+1) t).2.length:Int)) ((QbU (tk h c (p - h.length)).2 (p+1) t).2++rest);rw [zU]
  have e2:p+1+(t.length:Int)=p+((c::t).length:Nat):=by simp; omega
  rw [e2]
theorem QtY (t:List Nat):Held (QbU [] 0 t).2∧items 0 t=(QbU [] 0 t).1++Qdc (t.length - (QbU [] 0 t).2.length) (QbU [] 0 t).2:=by
 obtain ⟨a,b⟩:=Ql0 t Held.h0 0 [];refine ⟨a,?_⟩;simp at b;rw [b,Qpd a]
@[simp] theorem Qyu {l:List D}:Qmp [.lst l]=some (.lst l):=rfl
def fzF (f:Fl):Fl:=match f with
 | .rt d O'=>.rt d O'
 | _=>.no
@[simp] theorem QsM {m:MS}{ρ:Qal}{O:Qac}:Qki m ρ O=fzF (m ρ O):=rfl
@[simp] theorem Qq4 {d:D}{O:Qac}:fzF (.rt d O) = .rt d O:=rfl
def ziF (d e:D) (O:Qac):Res (List D):=match d,e with
 | .lst ds,.lst es=>.ok (Qer ds es) O
 | _,_=>.no
@[simp] theorem Qwk {ma mb:M D}{ρ:Qal}{O:Qac}:QpQ ma mb ρ O=(ma ρ O).bind fun d O1=>(mb ρ O1).bind fun e O2=>ziF d e O2:=by
 unfold QpQ;congr 1
@[simp] theorem Qwp {ds es:List D}{O:Qac}:ziF (.lst ds) (.lst es) O = .ok (Qer ds es) O:=rfl
end L2
namespace L2
open PySem
section
variable {ρ ρ':Qal}{O O' O1 O2:Qac}{d:D}{x:Xc}{a b m:MS}{r:M D}{t:M Bool}{ma:M (List D)}{c:List D→Qac→Res D}{ds:List D}
theorem QaS (h:a ρ O = .nx ρ' O'):Qaj a b ρ O=b ρ' O':=by rw [Qcz,h,Qcp]
theorem Qhd (h:a ρ O = .rt d O'):Qaj a b ρ O = .rt d O':=by rw [Qcz,h,Quc]
theorem Qfg (h:a ρ O = .ex x O'):Qaj a b ρ O = .ex x O':=by rw [Qcz,h]; rfl
theorem QmE (h:t ρ O = .ok true O'):Qfc t a b ρ O=a ρ O':=by unfold Qfc; rw [h]; rfl
theorem Qs2 (h:t ρ O = .ok false O'):Qfc t a b ρ O=b ρ O':=by unfold Qfc; rw [h]; rfl
theorem QmN (h:t ρ O = .ok false O'):Qfc t a Qay ρ O = .nx ρ O':=Qs2 h
theorem QfN (h:m ρ O = .nx ρ' O'):msN m ρ O = .nx ρ' O':=by unfold msN; rw [h]
theorem Qp4 (h:m ρ O = .rt d O'):msN m ρ O = .rt d O':=by unfold msN; rw [h]
theorem Qix (h:ma ρ O = .ok ds O1):QdH c ma ρ O=c ds O1:=by unfold QdH; rw [h]
theorem Qxe (h:r ρ O = .ok d O'):QfG r ρ O = .nx ρ O':=by unfold QfG; rw [h]
theorem Qsa (h:r ρ O = .ex x O'):QfG r ρ O = .ex x O':=by unfold QfG; rw [h]
theorem Qse {i:Nat} (h:r ρ O = .ok d O'):QfX i r ρ O = .nx (ρ.set i (some d)) O':=by unfold QfX; rw [h]
theorem Qoo {i:Nat} (h:r ρ O = .ex x O'):QfX i r ρ O = .ex x O':=by unfold QfX; rw [h]
theorem Qq3 {cc nn:Str} (h:r ρ O = .ok d O'):QeW cc nn r ρ O = .ex ⟨cc,[(nn,d)]⟩ O':=by unfold QeW; rw [h]
theorem QsO {cl mm:Str}{cf:List D→Qac→Res D}{n:Nat}{fs:List (Str×D)} (h1:r ρ O = .ok (.ob n) O1) (h2:O1[n]? = some (.ins cl fs)) (h3:(fs.lookup mm).isNone=true) (h4:ma ρ O1 = .ok ds O2):Qh0 cl mm cf r ma ρ O=cf (.ob n::ds) O2:=by
 unfold Qh0;rw [h1];dsimp only;rw [h2];dsimp only;rw [if_pos ⟨rfl,h3⟩,h4]
theorem QrL {g:MG} (h:ma ρ O = .ok ds O'):QeH ma g b ρ O=Qa5 g b ds ρ O':=by unfold QeH; rw [h]
theorem QpD {g:MG} (h:ma ρ O = .ok ds O'):Qct ma g b ρ O=Qa5 g b ds ρ O':=by rw [Qnz,h,QoK]
theorem QtV {g:MG} (h:ma ρ O = .ex x O'):Qct ma g b ρ O = .ex x O':=by rw [Qnz,h]; rfl
theorem Qwi (h:r ρ O = .ok (.lst ds) O'):QdV r ρ O = .ok ds O':=by unfold QdV; rw [h]; rfl
theorem Qsm (h:r ρ O = .ex x O'):QdV r ρ O = .ex x O':=by unfold QdV; rw [h]; rfl
theorem Qva {hs:List HM} (h:r ρ O = .ok d O'):Qf3 r hs ρ O = .nx ρ O':=by unfold Qf3; rw [h]
theorem QlB {hs:List HM} (h:r ρ O = .ex x O'):Qf3 r hs ρ O=QgO hs x ρ O':=by unfold Qf3; rw [h]
theorem Qkc {ys ns:List Str}{i:Nat}{rest:List HM} (hy:ys.contains x.cls=true) (h:m (ρ.set i (some (.ob O.length))) (O ++ [.xc x.cls x.fs]) = .rt d O'):QgO ((ys,ns,i,m)::rest) x ρ O = .rt d O':=by
 unfold QgO;rw [if_pos hy,h]
theorem Qu4 {tb:List (Str×Bool)}{n:Nat}{cc:Str}{fs:List (Str×D)}{bb:Bool} (h:r ρ O = .ok (.ob n) O') (h2:O'[n]? = some (.xc cc fs)) (h3:tb.lookup cc=some bb):QeR tb r ρ O = .ok (.bl bb) O':=by
 unfold QeR;rw [h];show (match O'[n]? with | some (.xc c _)=>(match tb.lookup c with | some b=>Res.ok (D.bl b) O' | none=>.no) | _=>.no)=_;rw [h2];dsimp only;rw [h3]
theorem Qx3 {f:Str}{L:List Str}{n:Nat}{cc:Str}{fs:List (Str×D)} (h:r ρ O = .ok (.ob n) O') (h2:O'[n]? = some (.xc cc fs)) (h3:L.contains cc=true) (h4:fs.lookup f=some d):QiD f L r ρ O = .ok d O':=by
 unfold QiD;rw [h];show (match O'[n]? with | some (.xc c fs)=>(if L.contains c=true then (match fs.lookup f with | some d=>Res.ok d O' | none=>.no) else .no) | _=>.no)=_;rw [h2];dsimp only;rw [if_pos h3,h4]
end
end L2
namespace K27
open PySem L2
seal VE SE OE WE TsE TwE AE VS VSs VG VGs VI VIc VO VIf DPE VSF Qgj VEF VIF VEH VHs
def top (i:Nat):Stmt:=PySem.Challenge.pw_outweave_k27_most_refused.main.body.getD i (.Pass ⟨0,0,0,0⟩)
local macro_rules | `(tactic| trivial) => `(tactic| exact ⟨rfl, rfl, rfl, by decide +kernel, rfl, by decide +kernel, by decide +kernel⟩)
section
variable {Pr:Program}{w:World}{K:Frag}{mg:Str→Option Value}{base:Heap}
abbrev Qc0:Stmt:=inClass (top 3) 0
theorem Qri (Qsp:Qpc K mg "NoSign" "at" "NoSign.__init__" Qc0):QnE Pr w K mg base "NoSign" "at" 1:=Qsp.can (sf:="self") (pn:="at") (by trivial) (fun _ _ _ _ _ _=>Qa1 fun _=>Qa1 fun _=>QbG rfl) rfl (.inl rfl) (.inl rfl) (fun _ _ _=>rfl)
abbrev Qje:Stmt:=top 19
theorem QpX:QaA ["thing"] ["thing"] (Qai Qje):=by trivial
def Qi0:MS :=
  (Qaw (Qeg (Qds "str" (Qab 0)) (Qeg (Qaf gEq (QaY QbN (Qaa (Qab 0) Qae)) (mC (.int 1))) (QhY gLe gLe (mC (.str [32])) (Qab 0) (mC (.str [125]))))))
def QeZ:List D→Qac→Res D:=Qa8 1 Qi0
abbrev Qme (Pr:Program) (w:World) (K:Frag) (mg:Str→Option Value) (base:Heap):Prop:=Can Pr w K mg base "is_sign" ["thing"] 1 (vSp K mg [.s] (rV K) QeZ)
theorem QpR (Qi2:Def K mg "is_sign" Qje)
  (B:Blt mg)
  (QgV:∃u,mg "FIRST_SIGN" = some u∧RelV (.str (S [32])) u)
  (QhL:∃u,mg "LAST_SIGN" = some u∧RelV (.str (S [125])) u) :
  Qme Pr w K mg base:=by
 refine Qdu (k:=0) (b:=Qi0) Qi2 QpX (fun _ _ _ _ _ _=>Qa1 fun _=>QbG rfl) [.s] [] Qbr (fun _ _ _ _=>Rp.non) (body:=fun f cdv A outer s H E hr P=>?_);refine Qao ?_;refine Qaz ?_;refine QeF ?_ ?_;refine QaV (QdD "str" (hb:=Qk1) B.isinstance_ B.str_ (Qap 0));refine QeF ?_ ?_;refine QaV ?_;refine Qf4 (Qbo hr) ?_ (Qad Qan) (QaJ _);refine QaI ?_;refine Qbt (ms:=[.s]) (hv:=Qb6) Qb9 B.len_ ?_;refine Qau (Qap 0) Qah;refine Qf1 ?_;refine QaV ?_;refine QmI Qmu Qmu ?_ (Qap 0) ?_;refine Qad ?_;refine QdY QgV (fun _ _ _=>Rp.str);refine Qad ?_;refine QdY QhL (fun _ _ _=>Rp.str)
abbrev Qhz:Stmt:=top 20
theorem QmU:QaA ["thing"] ["thing"] (Qai Qhz):=by trivial
def Qhw:MS :=
  (Qaw (Qeg (Qds "str" (Qab 0)) (Qeg (Qaf gEq (QaY QbN (Qaa (Qab 0) Qae)) (mC (.int 1))) (Qaf (gIn false) (Qab 0) (mC (.str [97,98,99,100,101,102,103,104,46]))))))
def Qda:List D→Qac→Res D:=Qa8 1 Qhw
abbrev Qho (Pr:Program) (w:World) (K:Frag) (mg:Str→Option Value) (base:Heap):Prop:=Can Pr w K mg base "is_colour" ["thing"] 1 (vSp K mg [.s] (rV K) Qda)
theorem QmR (Qhu:Def K mg "is_colour" Qhz)
  (B:Blt mg)
  (Qi4:∃u,mg "COLOURS" = some u∧RelV (.str (S [97,98,99,100,101,102,103,104,46])) u) :
  Qho Pr w K mg base:=by
 refine Qdu (k:=0) (b:=Qhw) Qhu QmU (fun _ _ _ _ _ _=>Qa1 fun _=>QbG rfl) [.s] [] Qbr (fun _ _ _ _=>Rp.non) (body:=fun f cdv A outer s H E hr P=>?_);refine Qao ?_;refine Qaz ?_;refine QeF ?_ ?_;refine QaV (QdD "str" (hb:=Qk1) B.isinstance_ B.str_ (Qap 0));refine QeF ?_ ?_;refine QaV ?_;refine Qf4 (Qbo hr) ?_ (Qad Qan) (QaJ _);refine QaI ?_;refine Qbt (ms:=[.s]) (hv:=Qb6) Qb9 B.len_ ?_;refine Qau (Qap 0) Qah;refine Qf1 ?_;refine QaV ?_;refine Qf4 QwX (Qap 0) ?_ (by with_unfolding_all rfl);refine Qad ?_;refine QdY Qi4 (fun _ _ _=>Rp.str)
abbrev QiZ:Stmt:=top 21
theorem Qip:QaA ["text","place","sign"] ["text"] (Qai QiZ):=by trivial
def Qdr:MS :=
  (Qaj (Qfc (Qca (Qbv (Qds "str" (Qab 0)))) (Qaj (QeW "NoSign" "at" (mC (.int 0)))
  Qay) Qay)
  (Qaj (QeH (QiJ (Qab 0)) (Qfq 2 (Qa6 (mgN 1) (Qa6 (mgN 2) Qdi))) (Qaj (Qfc (Qca (QcC (Qbv (Qat QeZ (Qaa (Qab 2) Qae))) (QcC (QaD (Qaf gEq (Qab 2) (mC (.str [10])))) (QaD (Qaf gEq (Qab 2) (mC (.str [9]))))))) (Qaj (QeW "NoSign" "at" (Qab 1))
  Qay) Qay)
  Qay))
  Qay))
def QcF:List D→Qac→Res D:=Qa8 3 Qdr
abbrev QlW (Pr:Program) (w:World) (K:Frag) (mg:Str→Option Value) (base:Heap):Prop:=QiB Pr w K mg base "checked" ["text"] 3 (QcD K mg [.s] (rV K) QcF)
theorem Qpb (Qi5:Def K mg "checked" QiZ)
  (B:Blt mg)
  (QdI:∃u,mg "ANEW_SIGN" = some u∧RelV (.str (S [9])) u)
  (QeY:∃u,mg "ROW_END" = some u∧RelV (.str (S [10])) u)
  (XI_NoSign:QnE Pr w K mg base "NoSign" "at" 1)
  (Qjr:Qme Pr w K mg base) :
  QlW Pr w K mg base:=by
 refine QpC (k:=2) (b:=Qdr) Qi5 Qip (fun _ _ _ _ _ _=>Qa1 fun _=>QbG rfl) [.s] [.v,.v] Qbr (fun _ _ _ _=>Rp.non) (body:=fun f cdv A outer s H E hr P=>?_)
 refine Qbj (QpW (QdG (QbF (QaI (QdD "str" (hb:=Qk1) B.isinstance_ B.str_ (Qap 0))))) (Qbj (QlZ XI_NoSign (hr.mono (by decide)) rfl Qan)
   QcA) QcA) (Qbj (QqH rfl (Qop B.enumerate_ (QgN 0)) (Qjd 2 rfl (QcS (QbI (i:=1) Qip.nd rfl (.inl rfl)) (QcS (QbI (i:=2) Qip.nd rfl (.inl rfl)) QhW))) (Qbj (QpW (QdG (Qfb (QeM (QbF (Qad (QaO Qjr (hr.mono (by decide)) (Qau (Qad (Qag 2)) Qah)))) (QeM (QaQ (Qbo hr) (Qad (Qag 2)) (Qad (QdY QeY (fun _ _ _=>Rp.str))) (QaJ _)) (Qe5 (QaQ (Qbo hr) (Qad (Qag 2)) (Qad (QdY QdI (fun _ _ _=>Rp.str))) (QaJ _))))))) (Qbj (QlZ XI_NoSign (hr.mono (by decide)) rfl (Qag 1))
   QcA) QcA)
   QcA))
   QcA)
abbrev QjA:Stmt:=top 23
theorem Qp3:QaA ["text"] ["text"] (Qai QjA):=by trivial
def Qe0:MS :=
  (Qaj (QaT (QaD (Qaf gEq (Qab 0) (mC (.str [91,93])))) (Qaw (Qbn (Qaa (mC (.str [112,108,97,105,110])) (Qaa (mC (.str [])) Qae)))) Qay)
  (Qaj (QaT (QaD (Qaf gEq (Qab 0) (mC (.str [91,91])))) (Qaw (Qbn (Qaa (mC (.str [115,105,103,110])) (Qaa (mC (.str [91])) Qae)))) Qay)
  (Qaj (QaT (QcW (QaD (Qaf gEq (QaY QbN (Qaa (Qab 0) Qae)) (mC (.int 3)))) (QcW (QaD (Qaf gEq (Qaf gIx (Qab 0) (mC (.int 0))) (mC (.str [91])))) (QcW (Qbv (Qat Qda (Qaa (Qaf gIx (Qab 0) (mC (.int 1))) Qae))) (QaD (Qaf gEq (Qaf gIx (Qab 0) (mC (.int 2))) (mC (.str [93]))))))) (Qaw (Qbn (Qaa (mC (.str [105,110,107])) (Qaa (Qaf gIx (Qab 0) (mC (.int 1))) Qae)))) Qay)
  (Qaj (QaT (QcW (QaD (Qaf gEq (QaY QbN (Qaa (Qab 0) Qae)) (mC (.int 4)))) (QcW (Qbv (QjO (mG (Qab 0)) (mC (.str [91,47])))) (QcW (Qbv (Qat Qda (Qaa (Qaf gIx (Qab 0) (mC (.int 2))) Qae))) (QaD (Qaf gEq (Qaf gIx (Qab 0) (mC (.int 3))) (mC (.str [93]))))))) (Qaw (Qbn (Qaa (mC (.str [103,114,111,117,110,100])) (Qaa (Qaf gIx (Qab 0) (mC (.int 2))) Qae)))) Qay)
  (Qaw (mC .non))))))
def Qd5:List D→Qac→Res D:=Qa8 1 Qe0
abbrev Ql8 (Pr:Program) (w:World) (K:Frag) (mg:Str→Option Value) (base:Heap):Prop:=Can Pr w K mg base "mark_of" ["text"] 2 (vSp K mg [.s] (rV K) Qd5)
theorem Qpt (Qjw:Def K mg "mark_of" QjA)
  (B:Blt mg)
  (QcE:Qho Pr w K mg base) :
  Ql8 Pr w K mg base:=by
 refine Qdu (k:=1) (b:=Qe0) Qjw Qp3 (fun _ _ _ _ _ _=>Qa1 fun _=>QbG rfl) [.s] [] Qbr (fun _ _ _ _=>Rp.non) (body:=fun f cdv A outer s H E hr P=>?_);refine Qak ?_ ?_;refine Qa4 ?_ ?_ QaM;refine QaQ (Qbo hr) (Qap 0) (Qad (Qav [91,93])) (QaJ _);refine Qao ?_;refine Qaz ?_;refine Qbh 2 ?_;refine Qar (Qav [112,108,97,105,110]) ?_;refine Qar (Qav []) Qah;refine Qak ?_ ?_;refine Qa4 ?_ ?_ QaM;refine QaQ (Qbo hr) (Qap 0) (Qad (Qav [91,91])) (QaJ _);refine Qao ?_;refine Qaz ?_;refine Qbh 2 ?_;refine Qar (Qav [115,105,103,110]) ?_;refine Qar (Qav [91]) Qah;refine Qak ?_ ?_;refine Qa4 ?_ ?_ QaM;refine Qfb ?_
 refine QeG ?_ ?_;refine QaQ (Qbo hr) ?_ (Qad Qan) (QaJ _);refine QaI ?_;refine Qbt (ms:=[.s]) (hv:=Qb6) Qb9 B.len_ ?_;refine Qau (Qap 0) Qah;refine QeG ?_ ?_;refine QaQ (Qbo hr) ?_ (Qad (Qav [91])) (QaJ _);refine Qad ?_;refine QaW (Qap 0) (Qad Qan);refine QeG ?_ ?_;refine QbF ?_;refine Qad ?_;refine QaO QcE (hr.mono (by decide)) ?_;refine Qau ?_ Qah;refine Qad ?_;refine QaW (Qap 0) (Qad Qan);refine QhZ ?_;refine QaQ (Qbo hr) ?_ (Qad (Qav [93])) (QaJ _);refine Qad ?_;refine QaW (Qap 0) (Qad Qan);refine Qao ?_;refine Qaz ?_;refine Qbh 2 ?_;refine Qar (Qav [105,110,107]) ?_;refine Qar ?_ Qah;refine QaW (Qap 0) (Qad Qan)
 refine Qak ?_ ?_;refine Qa4 ?_ ?_ QaM;refine Qfb ?_;refine QeG ?_ ?_;refine QaQ (Qbo hr) ?_ (Qad Qan) (QaJ _);refine QaI ?_;refine Qbt (ms:=[.s]) (hv:=Qb6) Qb9 B.len_ ?_;refine Qau (Qap 0) Qah;refine QeG ?_ ?_;refine QbF ?_;refine QaI ?_;refine Ql4 (Qde (Qap 0)) (Qav [91,47]);refine QeG ?_ ?_;refine QbF ?_;refine Qad ?_;refine QaO QcE (hr.mono (by decide)) ?_;refine Qau ?_ Qah;refine Qad ?_;refine QaW (Qap 0) (Qad Qan);refine QhZ ?_;refine QaQ (Qbo hr) ?_ (Qad (Qav [93])) (QaJ _);refine Qad ?_;refine QaW (Qap 0) (Qad Qan);refine Qao ?_;refine Qaz ?_;refine Qbh 2 ?_;refine Qar (Qav [103,114,111,117,110,100]) ?_
 refine Qar ?_ Qah;refine QaW (Qap 0) (Qad Qan);refine Qao (Qaz QnJ)
abbrev Qev:Stmt:=top 24
theorem Qjp:QaA ["text"] ["text"] (Qai Qev):=by trivial
def Qcl:MS :=
  (Qaj (QaT (QcC (QaD (Qaf gEq (Qab 0) (mC (.str [91])))) (QaD (Qaf gEq (Qab 0) (mC (.str [91,47]))))) (Qaw (mC (.bl true))) Qay)
  (Qaj (QaT (QaD (Qaf gEq (QaY QbN (Qaa (Qab 0) Qae)) (mC (.int 2)))) (Qaw (Qeg (Qaf gEq (Qaf gIx (Qab 0) (mC (.int 0))) (mC (.str [91]))) (Qat Qda (Qaa (Qaf gIx (Qab 0) (mC (.int 1))) Qae)))) Qay)
  (Qaw (Qeg (Qaf gEq (QaY QbN (Qaa (Qab 0) Qae)) (mC (.int 3))) (Qeg (QjO (mG (Qab 0)) (mC (.str [91,47]))) (Qat Qda (Qaa (Qaf gIx (Qab 0) (mC (.int 2))) Qae)))))))
def QbT:List D→Qac→Res D:=Qa8 1 Qcl
abbrev Qgo (Pr:Program) (w:World) (K:Frag) (mg:Str→Option Value) (base:Heap):Prop:=Can Pr w K mg base "may_become_mark" ["text"] 2 (vSp K mg [.s] (rV K) QbT)
theorem Qjf (Qeu:Def K mg "may_become_mark" Qev)
  (B:Blt mg)
  (QcE:Qho Pr w K mg base) :
  Qgo Pr w K mg base:=by
 refine Qdu (k:=1) (b:=Qcl) Qeu Qjp (fun _ _ _ _ _ _=>Qa1 fun _=>QbG rfl) [.s] [] Qbr (fun _ _ _ _=>Rp.non) (body:=fun f cdv A outer s H E hr P=>?_);refine Qak ?_ ?_;refine Qa4 ?_ ?_ QaM;refine Qfb ?_;refine QeM ?_ ?_;refine QaQ (Qbo hr) (Qap 0) (Qad (Qav [91])) (QaJ _);refine Qe5 ?_;refine QaQ (Qbo hr) (Qap 0) (Qad (Qav [91,47])) (QaJ _);refine Qao (Qaz QbP);refine Qak ?_ ?_;refine Qa4 ?_ ?_ QaM;refine QaQ (Qbo hr) ?_ (Qad Qan) (QaJ _);refine QaI ?_;refine Qbt (ms:=[.s]) (hv:=Qb6) Qb9 B.len_ ?_;refine Qau (Qap 0) Qah;refine Qao ?_;refine Qaz ?_;refine QeF ?_ ?_;refine QaV ?_;refine Qf4 (Qbo hr) ?_ (Qad (Qav [91])) (QaJ _)
 refine Qad ?_;refine QaW (Qap 0) (Qad Qan);refine Qf1 ?_;refine QaO QcE (hr.mono (by decide)) ?_;refine Qau ?_ Qah;refine Qad ?_;refine QaW (Qap 0) (Qad Qan);refine Qao ?_;refine Qaz ?_;refine QeF ?_ ?_;refine QaV ?_;refine Qf4 (Qbo hr) ?_ (Qad Qan) (QaJ _);refine QaI ?_;refine Qbt (ms:=[.s]) (hv:=Qb6) Qb9 B.len_ ?_;refine Qau (Qap 0) Qah;refine QeF ?_ ?_;refine QaV ?_;refine Ql4 (Qde (Qap 0)) (Qav [91,47]);refine Qf1 ?_;refine QaO QcE (hr.mono (by decide)) ?_;refine Qau ?_ Qah;refine Qad ?_;refine QaW (Qap 0) (Qad Qan)
abbrev Qid:Stmt:=top 25
theorem Qn8:QaA ["place","sign"] ["place","sign"] (Qai Qid):=by trivial
def Qii:MS :=
  (Qaj (QaT (QaD (Qaf gEq (Qab 1) (mC (.str [10])))) (Qaw (Qbn (Qaa (mG (Qab 0)) (Qaa (mC (.str [101,110,100])) (Qaa (mC (.str [])) Qae))))) Qay)
  (Qaj (QaT (QaD (Qaf gEq (Qab 1) (mC (.str [9])))) (Qaw (Qbn (Qaa (mG (Qab 0)) (Qaa (mC (.str [97,110,101,119])) (Qaa (mC (.str [])) Qae))))) Qay)
  (Qaw (Qbn (Qaa (mG (Qab 0)) (Qaa (mC (.str [115,105,103,110])) (Qaa (mG (Qab 1)) Qae)))))))
def Qfh:List D→Qac→Res D:=Qa8 2 Qii
abbrev Qkx (Pr:Program) (w:World) (K:Frag) (mg:Str→Option Value) (base:Heap):Prop:=Can Pr w K mg base "own_item" ["place","sign"] 1 (vSp K mg [.s,.s] (rV K) Qfh)
theorem QnX (Qis:Def K mg "own_item" Qid)
  (B:Blt mg)
  (QdI:∃u,mg "ANEW_SIGN" = some u∧RelV (.str (S [9])) u)
  (QeY:∃u,mg "ROW_END" = some u∧RelV (.str (S [10])) u) :
  Qkx Pr w K mg base:=by
 refine Qdu (k:=0) (b:=Qii) Qis Qn8 (fun _ _ _ _ _ _=>Qa1 fun _=>Qa1 fun _=>QbG rfl) [.s,.s] [] Qbr (fun _ _ _ _=>Rp.non) (body:=fun f cdv A outer s H E hr P=>?_);refine Qak ?_ ?_;refine Qa4 ?_ ?_ QaM;refine QaQ (Qbo hr) (Qap 1) ?_ (QaJ _);refine Qad ?_;refine QdY QeY (fun _ _ _=>Rp.str);refine Qao ?_;refine Qaz ?_;refine Qbh 3 ?_;refine Qar (Qde (Qap 0)) ?_;refine Qar (Qav [101,110,100]) ?_;refine Qar (Qav []) Qah;refine Qak ?_ ?_;refine Qa4 ?_ ?_ QaM;refine QaQ (Qbo hr) (Qap 1) ?_ (QaJ _);refine Qad ?_;refine QdY QdI (fun _ _ _=>Rp.str);refine Qao ?_;refine Qaz ?_;refine Qbh 3 ?_;refine Qar (Qde (Qap 0)) ?_
 refine Qar (Qav [97,110,101,119]) ?_;refine Qar (Qav []) Qah;refine Qao ?_;refine Qaz ?_;refine Qbh 3 ?_;refine Qar (Qde (Qap 0)) ?_;refine Qar (Qav [115,105,103,110]) ?_;refine Qar (Qde (Qap 1)) Qah
abbrev QfL:Stmt:=top 26
theorem Qnh:QaA ["place","signs"] ["place","signs"] (Qai QfL):=by trivial
def QhK:MS :=
  (Qaw (Qgu (QiJ (Qab 1)) 2 [0] (Qfq 2 (Qa6 (mgN 0) (Qa6 (mgN 1) Qdi))) QgL (Qat Qfh (Qaa (Qaf Qce (Qab 2) (Qab 0)) (Qaa (Qab 1) Qae)))))
def QdK:List D→Qac→Res D:=Qa8 2 QhK
abbrev Qhr (Pr:Program) (w:World) (K:Frag) (mg:Str→Option Value) (base:Heap):Prop:=Can Pr w K mg base "own_items" ["place","signs"] 2 (vSp K mg [.s,.s] (rO K) QdK)
theorem QmV (QhC:Def K mg "own_items" QfL)
  (B:Blt mg)
  (Qiq:Qkx Pr w K mg base) :
  Qhr Pr w K mg base:=by
 refine Qdu (k:=1) (b:=QhK) QhC Qnh (fun _ _ _ _ _ _=>Qa1 fun _=>Qa1 fun _=>QbG rfl) [.s,.s] [] Qdg (fun _ _ _ _=>.inl ⟨rfl,Rp.non⟩) (body:=fun f cdv A outer s H E hr P=>?_);refine Qao ?_;refine QgE ?_;refine QoC (Qai QfL) ["place","signs"] ["k","sign"] [0] rfl ?_ (fun _ _ _ _ P=>?_) (fun _ _ _ _ P=>?_) (fun _ _ _ _ P=>?_);refine Qm6 (Qop B.enumerate_ (QgN 1));refine Qjd 2 rfl ?_;refine QcS (QbI (i:=0) (show (Qbp ["place","signs"] ["k","sign"] [0]).Nodup by decide +kernel) rfl (.inl rfl)) ?_;refine QcS (QbI (i:=1) (show (Qbp ["place","signs"] ["k","sign"] [0]).Nodup by decide +kernel) rfl (.inl rfl)) QhW
 exact Qlq
 refine QaO Qiq (hr.mono (by decide)) ?_;refine Qau ?_ ?_;refine QaI ?_;refine Qa3 QdB (Qap 2) (Qad (Qag 0));refine Qau (Qad (Qag 1)) Qah
abbrev Qez:Stmt:=inClass (top 27) 0
theorem Qjm:QaA ["self"] ["self"] (Qai Qez):=by trivial
def Qen:MS :=
  (Qaj (QbK ["Reader"] "held" (Qab 0) (mC (.str [])))
  (QbK ["Reader"] "place" (Qab 0) (mC (.int 0))))
def Qcj:List D→Qac→Res D:=Qa8 1 Qen
abbrev Qgm (Pr:Program) (w:World) (K:Frag) (mg:Str→Option Value) (base:Heap):Prop:=Qly Pr w K mg base "Reader" ["self"] 1 (vSp K mg [.v] (rV K) Qcj)
theorem Qjh (Qet:Qnd K mg "Reader" "Reader.__init__" Qez)
  (B:Blt mg)
  (QaZ:KC K mg "Reader" "held")
  (Qbu:KC K mg "Reader" "place") :
  Qgm Pr w K mg base:=by
 refine Qw2 (k:=0) (b:=Qen) Qet Qjm (fun _ _ _ _ _ _=>Qa1 fun _=>QbG rfl) [.v] [] Qbr (fun _ _ _ _=>Rp.non) (body:=fun f cdv A outer s H E hr P=>?_);refine Qak ?_ ?_;refine Qb8 (QaP QaZ Qa2) (Qag 0) (Qav []);refine Qao ?_;refine Qb8 (QaP Qbu Qa2) (Qag 0) Qan
abbrev Qgf:Stmt:=inClass (top 27) 4
theorem Qdn:QaA ["self","sign","seen","first","mark","told"] ["self","sign"] (Qai Qgf):=by trivial
def Qgb:MS :=
  (Qaj (Qas 2 (Qaf Qce (Qb0 ["Reader"] "held" (Qab 0)) (Qab 1)))
  (Qaj (Qas 3 (Qaf Qh5 (Qb0 ["Reader"] "place" (Qab 0)) (QaY QbN (Qaa (Qb0 ["Reader"] "held" (Qab 0)) Qae))))
  (Qaj (QbK ["Reader"] "place" (Qab 0) (Qaf Qce (Qb0 ["Reader"] "place" (Qab 0)) (mC (.int 1))))
  (Qaj (QaT (Qbv (Qat QbT (Qaa (Qab 2) Qae))) (Qaj (QbK ["Reader"] "held" (Qab 0) (Qab 2))
  (Qaw (Qa0 Qae))) Qay)
  (Qaj (Qas 4 (Qat Qd5 (Qaa (Qab 2) Qae)))
  (Qaj (QaT (QaD (Qmv (Qab 4))) (Qaj (QbK ["Reader"] "held" (Qab 0) (mC (.str [])))
  (Qaw (Qa0 (Qaa (Qbn (Qaa (Qab 3) (Qaa (Qaf gIx (Qab 4) (mC (.int 0))) (Qaa (Qaf gIx (Qab 4) (mC (.int 1))) Qae)))) Qae)))) Qay)
  (Qaj (QaT (QaD (Qaf gEq (Qab 1) (mC (.str [91])))) (Qaj (Qas 5 (Qat QdK (Qaa (Qab 3) (Qaa (Qb0 ["Reader"] "held" (Qab 0)) Qae))))
  (Qaj (QbK ["Reader"] "held" (Qab 0) (mG (Qab 1)))
  (Qaw (Qab 5)))) Qay)
  (Qaj (QbK ["Reader"] "held" (Qab 0) (mC (.str [])))
  (Qaw (Qat QdK (Qaa (Qab 3) (Qaa (Qab 2) Qae))))))))))))
def Qcm:List D→Qac→Res D:=Qa8 6 Qgb
abbrev QiV (Pr:Program) (w:World) (K:Frag) (mg:Str→Option Value) (base:Heap):Prop:=Qeq Pr w K mg base "Reader" "take" ["self","sign"] 3 (vSp K mg [.v,.s] (rO K) Qcm)
theorem Qlk (Qf9:Qgd K mg "Reader" "take" "Reader.take" Qgf)
  (B:Blt mg)
  (Qbu:KC K mg "Reader" "place")
  (QaZ:KC K mg "Reader" "held")
  (Qey:Qgo Pr w K mg base)
  (Qjg:Ql8 Pr w K mg base)
  (Qc9:Qhr Pr w K mg base) :
  QiV Pr w K mg base:=by
 refine Qhc (k:=2) (b:=Qgb) Qf9 Qdn (fun _ _ _ _ _ _=>Qa1 fun _=>Qa1 fun _=>QbG rfl) [.v,.s] [.v,.v,.v,.o] Qdg (fun _ _ _ _=>.inl ⟨rfl,Rp.non⟩) (body:=fun f cdv A outer s H E hr P=>?_);refine Qak ?_ ?_;refine QaU (i:=2) Qdn.nd rfl (.inl rfl) ?_;refine QaV ?_;refine Qa3 QdB ?_ (Qap 1);refine Qad (Qcv (QaP QaZ Qa2) (Qag 0));refine Qak ?_ ?_;refine QaU (i:=3) Qdn.nd rfl (.inl rfl) ?_;refine QaV ?_;refine Qa3 Qnl ?_ ?_;refine Qad (Qcv (QaP Qbu Qa2) (Qag 0));refine QaI ?_;refine Qbt (ms:=[.s]) (hv:=Qb6) Qb9 B.len_ ?_;refine Qau ?_ Qah;refine Qad (Qcv (QaP QaZ Qa2) (Qag 0));refine Qak ?_ ?_;refine Qb8 (QaP Qbu Qa2) (Qag 0) ?_
 refine QaV ?_;refine Qa3 QdB ?_ (Qad Qan);refine Qad (Qcv (QaP Qbu Qa2) (Qag 0));refine Qak ?_ ?_;refine Qa4 ?_ ?_ QaM;refine QbF ?_;refine Qad ?_;refine QaO Qey (hr.mono (by decide)) ?_;refine Qau (Qad (Qag 2)) Qah;refine Qak ?_ ?_;refine Qb8 (QaP QaZ Qa2) (Qag 0) (Qag 2);refine Qao ?_;refine QgE (Qbd 0 Qah);refine Qak ?_ ?_;refine QaU (i:=4) Qdn.nd rfl (.inl rfl) ?_;refine QaO Qjg (hr.mono (by decide)) ?_;refine Qau (Qad (Qag 2)) Qah;refine Qak ?_ ?_;refine Qa4 ?_ ?_ QaM;refine QtS (Qad (Qag 4));refine Qak ?_ ?_;refine Qb8 (QaP QaZ Qa2) (Qag 0) (Qav []);refine Qao ?_;refine QgE ?_;refine Qbd 1 ?_
 refine Qar ?_ Qah;refine Qbh 3 ?_;refine Qar (Qag 3) ?_;refine Qar ?_ ?_;refine QaW (Qad (Qag 4)) (Qad Qan);refine Qar ?_ Qah;refine QaW (Qad (Qag 4)) (Qad Qan);refine Qak ?_ ?_;refine Qa4 ?_ ?_ QaM;refine QaQ (Qbo hr) (Qap 1) (Qad (Qav [91])) (QaJ _);refine Qak ?_ ?_;refine Qdj (i:=5) Qdn.nd rfl (.inl rfl) ?_;refine Qlp Qc9 (hr.mono (by decide)) ?_;refine Qau (Qad (Qag 3)) ?_;refine Qau ?_ Qah;refine Qad (Qcv (QaP QaZ Qa2) (Qag 0));refine Qak ?_ (Qao (QjM 5));refine Qb8 (QaP QaZ Qa2) (Qag 0) (Qde (Qap 1));refine Qak ?_ ?_;refine Qb8 (QaP QaZ Qa2) (Qag 0) (Qav []);refine Qao ?_;refine QgE ?_;refine Qlp Qc9 (hr.mono (by decide)) ?_
 refine Qau (Qad (Qag 3)) ?_;refine Qau (Qad (Qag 2)) Qah
abbrev Qf7:Stmt:=inClass (top 27) 1
theorem Qfy:QaA ["self","piece","told","sign"] ["self","piece"] (Qai Qf7):=by trivial
def QcZ:MS :=
  (Qaj (QfG (QdH QcF (Qaa (Qab 1) Qae)))
  (Qaj (msN (Qas 2 (Qa0 Qae)))
  (Qaj (QeH (Qfj (Qab 1)) (mgN 3) (Qaj (msN (Qgv 2 (Qbq "Reader" "take" Qcm (Qab 0) (Qaa (Qab 3) Qae))))
  Qay))
  (Qaj (msN (Qaw (Qab 2)))
  Qay))))
def QeO:List D→Qac→Res D:=Qa8 4 QcZ
abbrev QiU (Pr:Program) (w:World) (K:Frag) (mg:Str→Option Value) (base:Heap):Prop:=Qk6 Pr w K mg base "Reader" "feed" ["self","piece"] 4 (QcD K mg [.v,.s] (rO K) QeO)
theorem Qk9 (Qge:Qgd K mg "Reader" "feed" "Reader.feed" Qf7)
  (B:Blt mg)
  (Qjv:QlW Pr w K mg base)
  (Qgh:QiV Pr w K mg base) :
  QiU Pr w K mg base:=by
 refine QvQ (k:=3) (b:=QcZ) Qge Qfy (fun _ _ _ _ _ _=>Qa1 fun _=>Qa1 fun _=>QbG rfl) [.v,.s] [.o,.v] Qdg (fun _ _ _ _=>.inl ⟨rfl,Rp.non⟩) (body:=fun f cdv A outer s H E hr P=>?_)
 refine Qbj (QtO (QlC Qjv (hr.mono (by decide)) (Qau (Qap 1) Qah))) (Qbj (Qg2 (Qdj (i:=2) Qfy.nd rfl (.inl rfl) (Qbd 0 Qah)))
   (Qbj (QqH rfl (Qu2 (QgN 1)) (QbI (i:=3) Qfy.nd rfl (.inl rfl)) (Qbj (Qg2 (Qmd 2 (QaI (QgI Qgh (hr.mono (by decide)) (Qag 0) (Qau (Qad (Qag 3)) Qah)))))
   QcA))
   (Qbj (Qg2 (QjM 2))
   QcA)))
abbrev Qfs:Stmt:=inClass (top 27) 3
theorem Qg9:QaA ["self","told"] ["self"] (Qai Qfs):=by trivial
def Qe7:MS :=
  (Qaj (Qas 1 (Qat QdK (Qaa (Qaf Qh5 (Qb0 ["Reader"] "place" (Qab 0)) (QaY QbN (Qaa (Qb0 ["Reader"] "held" (Qab 0)) Qae))) (Qaa (Qb0 ["Reader"] "held" (Qab 0)) Qae))))
  (Qaj (QbK ["Reader"] "held" (Qab 0) (mC (.str [])))
  (Qaw (Qab 1))))
def QdU:List D→Qac→Res D:=Qa8 2 Qe7
abbrev Qhf (Pr:Program) (w:World) (K:Frag) (mg:Str→Option Value) (base:Heap):Prop:=Qeq Pr w K mg base "Reader" "finish" ["self"] 3 (vSp K mg [.v] (rV K) QdU)
theorem Qkb (Qfn:Qgd K mg "Reader" "finish" "Reader.finish" Qfs)
  (B:Blt mg)
  (QaZ:KC K mg "Reader" "held")
  (Qbu:KC K mg "Reader" "place")
  (Qc9:Qhr Pr w K mg base) :
  Qhf Pr w K mg base:=by
 refine Qhc (k:=2) (b:=Qe7) Qfn Qg9 (fun _ _ _ _ _ _=>Qa1 fun _=>QbG rfl) [.v] [.v] Qbr (fun _ _ _ _=>Rp.non) (body:=fun f cdv A outer s H E hr P=>?_);refine Qak ?_ ?_;refine QaU (i:=1) Qg9.nd rfl (.inl rfl) ?_;refine QaV ?_;refine Qlp Qc9 (hr.mono (by decide)) ?_;refine Qau ?_ ?_;refine QaI ?_;refine Qa3 Qnl ?_ ?_;refine Qad (Qcv (QaP Qbu Qa2) (Qag 0));refine QaI ?_;refine Qbt (ms:=[.s]) (hv:=Qb6) Qb9 B.len_ ?_;refine Qau ?_ Qah;refine Qad (Qcv (QaP QaZ Qa2) (Qag 0));refine Qau ?_ Qah;refine Qad (Qcv (QaP QaZ Qa2) (Qag 0));refine Qak ?_ ?_;refine Qb8 (QaP QaZ Qa2) (Qag 0) (Qav []);refine Qao (Qaz (Qag 1))
abbrev QiR:Stmt:=top 28
theorem Qht:QaA ["text","reader","told"] ["text"] (Qai QiR):=by trivial
def Qea:MS :=
  (Qaj (msN (Qas 1 (Qc7 "Reader" Qcj Qae)))
  (Qaj (QfX 2 (Qh0 "Reader" "feed" QeO (Qab 1) (Qaa (Qab 0) Qae)))
  (Qaj (msN (Qaw (Qaf Qce (Qab 2) (Qbq "Reader" "finish" QdU (Qab 1) Qae))))
  Qay)))
def Qfp:List D→Qac→Res D:=Qa8 3 Qea
abbrev Qk2 (Pr:Program) (w:World) (K:Frag) (mg:Str→Option Value) (base:Heap):Prop:=QiB Pr w K mg base "items_of" ["text"] 5 (QcD K mg [.s] (rV K) Qfp)
theorem Qn5 (QiQ:Def K mg "items_of" QiR)
  (B:Blt mg)
  (Qep:Qgm Pr w K mg base)
  (Qf6:QiU Pr w K mg base)
  (Qe8:Qhf Pr w K mg base) :
  Qk2 Pr w K mg base:=by
 refine QpC (k:=4) (b:=Qea) QiQ Qht (fun _ _ _ _ _ _=>Qa1 fun _=>QbG rfl) [.s] [.v,.v] Qbr (fun _ _ _ _=>Rp.non) (body:=fun f cdv A outer s H E hr P=>?_)
 refine Qbj (Qg2 (QaU (i:=1) Qht.nd rfl (.inl rfl) (Qsg Qep (hr.mono (by decide))))) (Qbj (QoU (i:=2) (Qvs (QsI Qdg Qf6 (hr.mono (by decide)) (Qag 1) (Qau (Qap 0) Qah))) Qht.nd rfl (.inl rfl))
   (Qbj (Qg2 (Qaz (QaV (Qa3 QdB (Qad (Qag 2)) (Qad (Qkg Qe8 (hr.mono (by decide)) (Qag 1)))))))
   QcA))
abbrev Qgk:Stmt:=top 31
theorem Qlf:QaA ["pair","kind","value"] ["pair","kind","value"] (Qai Qgk):=by trivial
def Qgc:MS :=
  (Qaj (QaT (QaD (Qaf gEq (Qab 1) (mC (.str [105,110,107])))) (Qaw (Qbn (Qaa (mG (Qab 2)) (Qaa (Qaf gIx (Qab 0) (mC (.int 1))) Qae)))) Qay)
  (Qaj (QaT (QaD (Qaf gEq (Qab 1) (mC (.str [103,114,111,117,110,100])))) (Qaw (Qbn (Qaa (Qaf gIx (Qab 0) (mC (.int 0))) (Qaa (mG (Qab 2)) Qae)))) Qay)
  (Qaj (QaT (QaD (Qaf gEq (Qab 1) (mC (.str [115,105,103,110])))) (Qaw (mG (Qab 0))) Qay)
  (Qaw (mC (.tup [.str [46],.str [46]]))))))
def QdF:List D→Qac→Res D:=Qa8 3 Qgc
abbrev QiS (Pr:Program) (w:World) (K:Frag) (mg:Str→Option Value) (base:Heap):Prop:=Can Pr w K mg base "pair_behind" ["pair","kind","value"] 1 (vSp K mg [.s,.s,.s] (rV K) QdF)
theorem Qlg (Qga:Def K mg "pair_behind" Qgk)
  (B:Blt mg)
  (QgG:Qpk K mg "PLAIN" [[46],[46]]) :
  QiS Pr w K mg base:=by
 refine Qdu (k:=0) (b:=Qgc) Qga Qlf (fun _ _ _ _ _ _=>Qa1 fun _=>Qa1 fun _=>Qa1 fun _=>QbG rfl) [.s,.s,.s] [] Qbr (fun _ _ _ _=>Rp.non) (body:=fun f cdv A outer s H E hr P=>?_);refine Qak ?_ ?_;refine Qa4 ?_ ?_ QaM;refine QaQ (Qbo hr) (Qap 1) (Qad (Qav [105,110,107])) (QaJ _);refine Qao ?_;refine Qaz ?_;refine Qbh 2 ?_;refine Qar (Qde (Qap 2)) ?_;refine Qar ?_ Qah;refine QaW (Qap 0) (Qad Qan);refine Qak ?_ ?_;refine Qa4 ?_ ?_ QaM;refine QaQ (Qbo hr) (Qap 1) (Qad (Qav [103,114,111,117,110,100])) (QaJ _);refine Qao ?_;refine Qaz ?_;refine Qbh 2 ?_;refine Qar ?_ ?_;refine QaW (Qap 0) (Qad Qan);refine Qar (Qde (Qap 2)) Qah
 refine Qak ?_ ?_;refine Qa4 ?_ ?_ QaM;refine QaQ (Qbo hr) (Qap 1) (Qad (Qav [115,105,103,110])) (QaJ _);refine Qao ?_;refine Qaz (Qde (Qap 0));refine Qao (Qaz (Qou (ls:=[[46],[46]]) QgG))
abbrev Qih:Stmt:=top 33
theorem QnZ:QaA ["thing"] ["thing"] (Qai Qih):=by trivial
def Qgt:MS :=
  (Qaw (Qeg (Qds "int" (Qab 0)) (Qmx (Qds "bool" (Qab 0)))))
def QgD:List D→Qac→Res D:=Qa8 1 Qgt
abbrev QkJ (Pr:Program) (w:World) (K:Frag) (mg:Str→Option Value) (base:Heap):Prop:=Can Pr w K mg base "is_whole" ["thing"] 1 (vSp K mg [.s] (rV K) QgD)
theorem Qn1 (Qif:Def K mg "is_whole" Qih)
  (B:Blt mg) :
  QkJ Pr w K mg base:=by
 refine Qdu (k:=0) (b:=Qgt) Qif QnZ (fun _ _ _ _ _ _=>Qa1 fun _=>QbG rfl) [.s] [] Qbr (fun _ _ _ _=>Rp.non) (body:=fun f cdv A outer s H E hr P=>?_);refine Qao ?_;refine Qaz ?_;refine QeF ?_ ?_;refine QaV (QdD "int" (hb:=QnO) B.isinstance_ B.int_ (Qap 0));refine Qf1 ?_;refine Qq9 ?_;refine QaV (QdD "bool" (hb:=QoZ) B.isinstance_ B.bool_ (Qap 0))
abbrev QhH:Stmt:=top 34
theorem QnQ:QaA ["thing","least","greatest"] ["thing","least","greatest"] (Qai QhH):=by trivial
def QfI:MS :=
  (Qaw (Qeg (Qat QgD (Qaa (Qab 0) Qae)) (QhY gLe gLe (Qab 1) (Qab 0) (Qab 2))))
def QcG:List D→Qac→Res D:=Qa8 3 QfI
abbrev Qj3 (Pr:Program) (w:World) (K:Frag) (mg:Str→Option Value) (base:Heap):Prop:=Can Pr w K mg base "is_within" ["thing","least","greatest"] 2 (vSp K mg [.s,.s,.s] (rV K) QcG)
theorem Qnb (Qhq:Def K mg "is_within" QhH)
  (B:Blt mg)
  (QiP:QkJ Pr w K mg base) :
  Qj3 Pr w K mg base:=by
 refine Qdu (k:=1) (b:=QfI) Qhq QnQ (fun _ _ _ _ _ _=>Qa1 fun _=>Qa1 fun _=>Qa1 fun _=>QbG rfl) [.s,.s,.s] [] Qbr (fun _ _ _ _=>Rp.non) (body:=fun f cdv A outer s H E hr P=>?_);refine Qao ?_;refine Qaz ?_;refine QeF ?_ ?_;refine QaO QiP (hr.mono (by decide)) ?_;refine Qau (Qap 0) Qah;refine Qf1 ?_;refine QaV ?_;refine QmI Qmu Qmu (Qap 1) (Qap 0) (Qap 2)
abbrev Qel:Stmt:=inClass (top 37) 5
theorem Qja:QaA ["self"] ["self"] (Qai Qel):=by trivial
def Qdf:MS :=
  (Qaj (QbK ["Maker"] "letters" (Qab 0) (mMl (Qa0 Qae)))
  (Qaj (QbK ["Maker"] "pair" (Qab 0) (mC (.tup [.str [46],.str [46]])))
  (QbK ["Maker"] "stale" (Qab 0) (mC (.bl false)))))
def Qci:List D→Qac→Res D:=Qa8 1 Qdf
abbrev Qgl (Pr:Program) (w:World) (K:Frag) (mg:Str→Option Value) (base:Heap):Prop:=Qeq Pr w K mg base "Maker" "begin_row" ["self"] 1 (vSp K mg [.v] (rV K) Qci)
theorem Qjy (QeA:Qgd K mg "Maker" "begin_row" "Maker.begin_row" Qel)
  (B:Blt mg)
  (QgG:Qpk K mg "PLAIN" [[46],[46]])
  (QaN:KC K mg "Maker" "letters")
  (QbM:KC K mg "Maker" "pair")
  (QbB:KC K mg "Maker" "stale") :
  Qgl Pr w K mg base:=by
 refine Qhc (k:=0) (b:=Qdf) QeA Qja (fun _ _ _ _ _ _=>Qa1 fun _=>QbG rfl) [.v] [] Qbr (fun _ _ _ _=>Rp.non) (body:=fun f cdv A outer s H E hr P=>?_);refine Qak ?_ ?_;refine Qb8 (QaP QaN Qa2) (Qag 0) ?_;refine Qil (Qbd 0 Qah);refine Qak ?_ ?_;refine Qb8 (QaP QbM Qa2) (Qag 0) (Qou (ls:=[[46],[46]]) QgG);refine Qao ?_;refine Qb8 (QaP QbB Qa2) (Qag 0) QbP
abbrev QeV:Stmt:=inClass (top 37) 0
theorem QjS:QaA ["self","most"] ["self","most"] (Qai QeV):=by trivial
def Qcq:MS :=
  (Qaj (Qfc (Qca (Qbv (Qat QcG (Qaa (Qab 1) (Qaa (mC (.int 1)) (Qaa (mC (.int 200)) Qae)))))) (Qaj (QoA "NoSize")
  Qay) Qay)
  (Qaj (msN (QbK ["Maker"] "most" (Qab 0) (mG (Qab 1))))
  (Qaj (msN (QbK ["Maker"] "last_word" (Qab 0) (mC (.str [119,104,111,108,101]))))
  (Qaj (msN (Qh9 (Qbq "Maker" "begin_row" Qci (Qab 0) Qae)))
  Qay))))
def QaK:List D→Qac→Res D:=Qa8 2 Qcq
abbrev QeP (Pr:Program) (w:World) (K:Frag) (mg:Str→Option Value) (base:Heap):Prop:=QjK Pr w K mg base "Maker" ["self","most"] 3 (QcD K mg [.v,.s] (rV K) QaK)
theorem QjT (QeT:Qnd K mg "Maker" "Maker.__init__" QeV)
  (B:Blt mg)
  (Qfi:∃u,mg "GREATEST_MOST" = some u∧RelV (.int 200) u)
  (Qdh:KC K mg "Maker" "most")
  (Qck:KC K mg "Maker" "last_word")
  (X_NoSize:QrU K mg "NoSize")
  (QhE:Qj3 Pr w K mg base)
  (QeB:Qgl Pr w K mg base) :
  QeP Pr w K mg base:=by
 refine QuB (k:=2) (b:=Qcq) QeT QjS (fun _ _ _ _ _ _=>Qa1 fun _=>Qa1 fun _=>QbG rfl) [.v,.s] [] Qbr (fun _ _ _ _=>Rp.non) (body:=fun f cdv A outer s H E hr P=>?_)
 refine Qbj (QpW (QdG (QbF (Qad (QaO QhE (hr.mono (by decide)) (Qau (Qap 1) (Qau (Qad Qan) (Qau (Qad (QdY Qfi (fun _ _ _=>Rp.int))) Qah))))))) (Qbj (Qr8 X_NoSize rfl Qqb)
   QcA) QcA) (Qbj (Qg2 (Qb8 (QaP Qdh Qa2) (Qag 0) (Qde (Qap 1))))
   (Qbj (Qg2 (Qb8 (QaP Qck Qa2) (Qag 0) (Qav [119,104,111,108,101])))
   (Qbj (Qg2 (QoV (Qad (Qkg QeB (hr.mono (by decide)) (Qag 0)))))
   QcA)))
abbrev QgT:Stmt:=inClass (top 37) 8
theorem QiT:QaA ["self","word","part"] ["self","word"] (Qai QgT):=by trivial
def QgR:MS :=
  (Qaj (Qas 2 (Qbn (Qaa (Qb0 ["Maker"] "letters" (Qab 0)) (Qaa (mG (Qab 1)) Qae))))
  (Qaj (QbK ["Maker"] "letters" (Qab 0) (mMl (Qa0 Qae)))
  (Qaj (QbK ["Maker"] "last_word" (Qab 0) (mG (Qab 1)))
  (Qaw (Qa0 (Qaa (Qab 2) Qae))))))
def QcN:List D→Qac→Res D:=Qa8 3 QgR
abbrev QgP (Pr:Program) (w:World) (K:Frag) (mg:Str→Option Value) (base:Heap):Prop:=Qeq Pr w K mg base "Maker" "tell" ["self","word"] 1 (vSp K mg [.v,.s] (rO K) QcN)
theorem Qmk (Qg4:Qgd K mg "Maker" "tell" "Maker.tell" QgT)
  (B:Blt mg)
  (QaN:KC K mg "Maker" "letters")
  (Qck:KC K mg "Maker" "last_word") :
  QgP Pr w K mg base:=by
 refine Qhc (k:=0) (b:=QgR) Qg4 QiT (fun _ _ _ _ _ _=>Qa1 fun _=>Qa1 fun _=>QbG rfl) [.v,.s] [.v] Qdg (fun _ _ _ _=>.inl ⟨rfl,Rp.non⟩) (body:=fun f cdv A outer s H E hr P=>?_);refine Qak ?_ ?_;refine QaU (i:=2) QiT.nd rfl (.inl rfl) ?_;refine Qbh 2 ?_;refine Qar (Qcv (QaP QaN Qa2) (Qag 0)) ?_;refine Qar (Qde (Qap 1)) Qah;refine Qak ?_ ?_;refine Qb8 (QaP QaN Qa2) (Qag 0) ?_;refine Qil (Qbd 0 Qah);refine Qak ?_ ?_;refine Qb8 (QaP Qck Qa2) (Qag 0) (Qde (Qap 1));refine Qao ?_;refine QgE ?_;refine Qbd 1 ?_;refine Qar (Qag 2) Qah
abbrev QdO:Stmt:=inClass (top 37) 6
theorem Qie:QaA ["self"] ["self"] (Qai QdO):=by trivial
def QcT:MS :=
  (QaT (Qbv (Qb0 ["Maker"] "stale" (Qab 0))) (Qaj (QbK ["Maker"] "letters" (Qab 0) (mMl (Qa0 Qae)))
  (QbK ["Maker"] "stale" (Qab 0) (mC (.bl false)))) Qay)
def QbD:List D→Qac→Res D:=Qa8 1 QcT
abbrev Qft (Pr:Program) (w:World) (K:Frag) (mg:Str→Option Value) (base:Heap):Prop:=Qeq Pr w K mg base "Maker" "empty_stale" ["self"] 1 (vSp K mg [.v] (rV K) QbD)
theorem Qig (QdP:Qgd K mg "Maker" "empty_stale" "Maker.empty_stale" QdO)
  (B:Blt mg)
  (QbB:KC K mg "Maker" "stale")
  (QaN:KC K mg "Maker" "letters") :
  Qft Pr w K mg base:=by
 refine Qhc (k:=0) (b:=QcT) QdP Qie (fun _ _ _ _ _ _=>Qa1 fun _=>QbG rfl) [.v] [] Qbr (fun _ _ _ _=>Rp.non) (body:=fun f cdv A outer s H E hr P=>?_);refine Qao ?_;refine Qa4 ?_ ?_ QaM;refine QbF ?_;refine Qad (Qcv (QaP QbB Qa2) (Qag 0));refine Qak ?_ ?_;refine Qb8 (QaP QaN Qa2) (Qag 0) ?_;refine Qil (Qbd 0 Qah);refine Qao ?_;refine Qb8 (QaP QbB Qa2) (Qag 0) QbP
abbrev Qd2:Stmt:=inClass (top 37) 7
theorem QdR:QaA ["self","item","told"] ["self","item"] (Qai Qd2):=by trivial
def Qb7:MS :=
  (Qaj (Qas 2 (Qa0 Qae))
  (Qaj (QaT (QaD (Qaf gEq (QaY QbN (Qaa (Qb0 ["Maker"] "letters" (Qab 0)) Qae)) (Qb0 ["Maker"] "most" (Qab 0)))) (Qas 2 (Qbq "Maker" "tell" QcN (Qab 0) (Qaa (mC (.str [109,111,114,101])) Qae))) Qay)
  (Qaj (QfT (Qb0 ["Maker"] "letters" (Qab 0)) (Qbn (Qaa (Qaf gIx (Qab 1) (mC (.int 2))) (Qaa (Qaf gIx (Qb0 ["Maker"] "pair" (Qab 0)) (mC (.int 0))) (Qaa (Qaf gIx (Qb0 ["Maker"] "pair" (Qab 0)) (mC (.int 1))) (Qaa (Qaf gIx (Qab 1) (mC (.int 0))) Qae))))))
  (Qaw (Qab 2)))))
def Qcx:List D→Qac→Res D:=Qa8 3 Qb7
abbrev QfS (Pr:Program) (w:World) (K:Frag) (mg:Str→Option Value) (base:Heap):Prop:=Qeq Pr w K mg base "Maker" "add_letter" ["self","item"] 2 (vSp K mg [.v,.s] (rO K) Qcx)
theorem QiX (Qd0:Qgd K mg "Maker" "add_letter" "Maker.add_letter" Qd2)
  (B:Blt mg)
  (Qdh:KC K mg "Maker" "most")
  (QaN:KC K mg "Maker" "letters")
  (QbM:KC K mg "Maker" "pair")
  (Qdl:QgP Pr w K mg base) :
  QfS Pr w K mg base:=by
 refine Qhc (k:=1) (b:=Qb7) Qd0 QdR (fun _ _ _ _ _ _=>Qa1 fun _=>Qa1 fun _=>QbG rfl) [.v,.s] [.o] Qdg (fun _ _ _ _=>.inl ⟨rfl,Rp.non⟩) (body:=fun f cdv A outer s H E hr P=>?_);refine Qak ?_ ?_;refine Qdj (i:=2) QdR.nd rfl (.inl rfl) (Qbd 0 Qah);refine Qak ?_ ?_;refine Qa4 ?_ ?_ QaM;refine QaQ (Qbo hr) ?_ ?_ (QaJ _);refine QaI ?_;refine Qbt (ms:=[.s]) (hv:=Qb6) Qb9 B.len_ ?_;refine Qau ?_ Qah;refine Qad (Qcv (QaP QaN Qa2) (Qag 0));refine Qad (Qcv (QaP Qdh Qa2) (Qag 0));refine Qao ?_;refine Qdj (i:=2) QdR.nd rfl (.inl rfl) ?_;refine QgI Qdl (hr.mono (by decide)) (Qag 0) ?_;refine Qau (Qad (Qav [109,111,114,101])) Qah
 refine Qak ?_ (Qao (QjM 2));refine QoX (Qcv (QaP QaN Qa2) (Qag 0)) ?_;refine Qbh 4 ?_;refine Qar ?_ ?_;refine QaW (Qap 1) (Qad Qan);refine Qar ?_ ?_;refine QaW ?_ (Qad Qan);refine Qad (Qcv (QaP QbM Qa2) (Qag 0));refine Qar ?_ ?_;refine QaW ?_ (Qad Qan);refine Qad (Qcv (QaP QbM Qa2) (Qag 0));refine Qar ?_ Qah;refine QaW (Qap 1) (Qad Qan)
abbrev Qhy:Stmt:=inClass (top 37) 1
theorem QdZ:QaA ["self","item","kind","told"] ["self","item"] (Qai Qhy):=by trivial
def Qcb:MS :=
  (Qaj (Qas 2 (Qaf gIx (Qab 1) (mC (.int 1))))
  (Qaj (Qas 3 (Qa0 Qae))
  (Qaj (QaT (QaD (Qaf gEq (Qab 2) (mC (.str [101,110,100])))) (Qaj (Qas 3 (Qbq "Maker" "tell" QcN (Qab 0) (Qaa (mC (.str [119,104,111,108,101])) Qae)))
  (QbK ["Maker"] "stale" (Qab 0) (mC (.bl false)))) (QaT (QaD (Qaf gEq (Qab 2) (mC (.str [97,110,101,119])))) (QbK ["Maker"] "stale" (Qab 0) (mC (.bl true))) (Qh9 (Qbq "Maker" "empty_stale" QbD (Qab 0) Qae))))
  (Qaj (QaT (QaD (Qaf gEq (Qab 2) (mC (.str [115,105,103,110])))) (Qas 3 (Qbq "Maker" "add_letter" Qcx (Qab 0) (Qaa (Qab 1) Qae))) Qay)
  (Qaj (QbK ["Maker"] "pair" (Qab 0) (Qat QdF (Qaa (Qb0 ["Maker"] "pair" (Qab 0)) (Qaa (Qab 2) (Qaa (Qaf gIx (Qab 1) (mC (.int 2))) Qae)))))
  (Qaw (Qab 3)))))))
def Qb1:List D→Qac→Res D:=Qa8 4 Qcb
abbrev QhD (Pr:Program) (w:World) (K:Frag) (mg:Str→Option Value) (base:Heap):Prop:=Qeq Pr w K mg base "Maker" "put" ["self","item"] 3 (vSp K mg [.v,.s] (rO K) Qb1)
theorem QnH (QhF:Qgd K mg "Maker" "put" "Maker.put" Qhy)
  (B:Blt mg)
  (QbM:KC K mg "Maker" "pair")
  (QbB:KC K mg "Maker" "stale")
  (Qdl:QgP Pr w K mg base)
  (QdS:Qft Pr w K mg base)
  (Qd3:QfS Pr w K mg base)
  (Qf5:QiS Pr w K mg base) :
  QhD Pr w K mg base:=by
 refine Qhc (k:=2) (b:=Qcb) QhF QdZ (fun _ _ _ _ _ _=>Qa1 fun _=>Qa1 fun _=>QbG rfl) [.v,.s] [.v,.o] Qdg (fun _ _ _ _=>.inl ⟨rfl,Rp.non⟩) (body:=fun f cdv A outer s H E hr P=>?_);refine Qak ?_ ?_;refine QaU (i:=2) QdZ.nd rfl (.inl rfl) ?_;refine QaW (Qap 1) (Qad Qan);refine Qak ?_ ?_;refine Qdj (i:=3) QdZ.nd rfl (.inl rfl) (Qbd 0 Qah);refine Qak ?_ ?_;refine Qa4 ?_ ?_ ?_;refine QaQ (Qbo hr) (Qad (Qag 2)) (Qad (Qav [101,110,100])) (QaJ _);refine Qak ?_ ?_;refine Qdj (i:=3) QdZ.nd rfl (.inl rfl) ?_;refine QgI Qdl (hr.mono (by decide)) (Qag 0) ?_;refine Qau (Qad (Qav [119,104,111,108,101])) Qah
 refine Qao ?_;refine Qb8 (QaP QbB Qa2) (Qag 0) QbP;refine Qao ?_;refine Qa4 ?_ ?_ ?_;refine QaQ (Qbo hr) (Qad (Qag 2)) (Qad (Qav [97,110,101,119])) (QaJ _);refine Qao ?_;refine Qb8 (QaP QbB Qa2) (Qag 0) QbP;refine Qao ?_;refine QoV ?_;refine Qad (Qkg QdS (hr.mono (by decide)) (Qag 0));refine Qak ?_ ?_;refine Qa4 ?_ ?_ QaM;refine QaQ (Qbo hr) (Qad (Qag 2)) (Qad (Qav [115,105,103,110])) (QaJ _);refine Qao ?_;refine Qdj (i:=3) QdZ.nd rfl (.inl rfl) ?_;refine QgI Qd3 (hr.mono (by decide)) (Qag 0) ?_;refine Qau (Qap 1) Qah;refine Qak ?_ (Qao (QjM 3));refine Qb8 (QaP QbM Qa2) (Qag 0) ?_;refine QaO Qf5 (hr.mono (by decide)) ?_
 refine Qau ?_ ?_;refine Qad (Qcv (QaP QbM Qa2) (Qag 0));refine Qau (Qad (Qag 2)) ?_;refine Qau ?_ Qah;refine Qad ?_;refine QaW (Qap 1) (Qad Qan)
abbrev QdA:Stmt:=inClass (top 37) 2
theorem Qh6:QaA ["self"] ["self"] (Qai QdA):=by trivial
def Qdw:MS :=
  (Qaw (QaY Qmp (Qaa (Qb0 ["Maker"] "letters" (Qab 0)) Qae)))
def Qbc:List D→Qac→Res D:=Qa8 1 Qdw
abbrev Qdv (Pr:Program) (w:World) (K:Frag) (mg:Str→Option Value) (base:Heap):Prop:=Qeq Pr w K mg base "Maker" "open_letters" ["self"] 1 (vSp K mg [.v] (rO K) Qbc)
theorem Qib (Qdt:Qgd K mg "Maker" "open_letters" "Maker.open_letters" QdA)
  (B:Blt mg)
  (QaN:KC K mg "Maker" "letters") :
  Qdv Pr w K mg base:=by
 refine Qhc (k:=0) (b:=Qdw) Qdt Qh6 (fun _ _ _ _ _ _=>Qa1 fun _=>QbG rfl) [.v] [] Qdg (fun _ _ _ _=>.inl ⟨rfl,Rp.non⟩) (body:=fun f cdv A outer s H E hr P=>?_);refine Qao ?_;refine QgE ?_;refine Qm1 (ms:=[.s]) (hv:=Qlv) Qty B.list_ ?_;refine Qau ?_ Qah;refine Qad (Qcv (QaP QaN Qa2) (Qag 0))
abbrev Qi8:Stmt:=top 38
theorem Qgr:QaA ["text","most","maker","parts","item"] ["text","most"] (Qai Qi8):=by trivial
def Qdo:MS :=
  (Qaj (QfX 2 (QdW "Maker" QaK (Qaa (Qab 1) Qae)))
  (Qaj (msN (Qas 3 (Qa0 Qae)))
  (Qaj (Qct (QdV (QdH Qfp (Qaa (Qab 0) Qae))) (mgN 4) (Qaj (msN (Qgv 3 (Qbq "Maker" "put" Qb1 (Qab 2) (Qaa (Qab 4) Qae))))
  Qay))
  (Qaj (msN (Qki (Qaw (Qbn (Qaa (Qab 3) (Qaa (mMl (Qbq "Maker" "open_letters" Qbc (Qab 2) Qae)) Qae))))))
  Qay))))
def Qdp:List D→Qac→Res D:=Qa8 5 Qdo
abbrev QlL (Pr:Program) (w:World) (K:Frag) (mg:Str→Option Value) (base:Heap):Prop:=QiB Pr w K mg base "rows_of" ["text","most"] 6 (QcD K mg [.s,.s] (rV K) Qdp)
theorem Qpg (Qjj:Def K mg "rows_of" Qi8)
  (B:Blt mg)
  (Qby:QeP Pr w K mg base)
  (QiG:Qk2 Pr w K mg base)
  (QdJ:QhD Pr w K mg base)
  (QbR:Qdv Pr w K mg base) :
  QlL Pr w K mg base:=by
 refine QpC (k:=5) (b:=Qdo) Qjj Qgr (fun _ _ _ _ _ _=>Qa1 fun _=>Qa1 fun _=>QbG rfl) [.s,.s] [.v,.o,.v] Qbr (fun _ _ _ _=>Rp.non) (body:=fun f cdv A outer s H E hr P=>?_)
 refine Qbj (QoU (i:=2) (QrM Qby (hr.mono (by decide)) (Qau (Qap 1) Qah)) Qgr.nd rfl (.inl rfl)) (Qbj (Qg2 (Qdj (i:=3) Qgr.nd rfl (.inl rfl) (Qbd 0 Qah)))
   (Qbj (Quq rfl (QsH (QlC QiG (hr.mono (by decide)) (Qau (Qap 0) Qah))) (QbI (i:=4) Qgr.nd rfl (.inl rfl)) (Qbj (Qg2 (Qmd 3 (QaI (QgI QdJ (hr.mono (by decide)) (Qag 2) (Qau (Qad (Qag 4)) Qah)))))
   QcA))
   (Qbj (Qg2 (Qqf 3 rfl (Qaz (Qbh 2 (Qar (Qag 3) (Qar (Qil (Qm7 QbR (hr.mono (by decide)) (Qag 2))) Qah))))))
   QcA)))
abbrev QiF:Stmt:=top 40
theorem Qn3:QaA ["_law_script","_law_k"] ["_law_script","_law_k"] (Qai QiF):=by trivial
def Qgs:MS :=
  (Qaj (QaT (QaD (Qaf gLt (Qab 1) (QaY QbN (Qaa (Qab 0) Qae)))) (Qaw (Qaf gIx (Qab 0) (Qab 1))) Qay)
  (Qaw (mC (.int 0))))
def Qfa:List D→Qac→Res D:=Qa8 2 Qgs
abbrev QkS (Pr:Program) (w:World) (K:Frag) (mg:Str→Option Value) (base:Heap):Prop:=Can Pr w K mg base "_law_cell" ["_law_script","_law_k"] 1 (vSp K mg [.s,.s] (rV K) Qfa)
theorem QnW (Qim:Def K mg "_law_cell" QiF)
  (B:Blt mg) :
  QkS Pr w K mg base:=by
 refine Qdu (k:=0) (b:=Qgs) Qim Qn3 (fun _ _ _ _ _ _=>Qa1 fun _=>Qa1 fun _=>QbG rfl) [.s,.s] [] Qbr (fun _ _ _ _=>Rp.non) (body:=fun f cdv A outer s H E hr P=>?_);refine Qak ?_ ?_;refine Qa4 ?_ ?_ QaM;refine QaQ QwD (Qap 1) ?_ (QaJ _);refine QaI ?_;refine Qbt (ms:=[.s]) (hv:=Qb6) Qb9 B.len_ ?_;refine Qau (Qap 0) Qah;refine Qao ?_;refine Qaz ?_;refine QaW (Qap 0) (Qap 1);refine Qao (Qaz Qan)
abbrev Qi7:Stmt:=top 41
theorem Qdz:QaA ["_law_cell_here","_law_k","_law_rest","_law_turn","_law_number"] ["_law_cell_here","_law_k"] (Qai Qi7):=by trivial
def QlX:MS :=
  (Qaj (QaT (QaD (Qaf gGt (Qab 0) (Qaf Qgi (mC (.int 10)) (mC (.int 18))))) (Qaj (Qas 2 (mG (Qab 0)))
  (Qaj (Qct (Qfl (Qaa (Qab 1) Qae)) (mgN 3) (Qas 2 (Qaf Qhi (Qab 2) (Qaf Qgi (mC (.int 10)) (mC (.int 9))))))
  (Qaw (Qaf Qbz (Qab 2) (Qaf Qgi (mC (.int 10)) (mC (.int 9))))))) Qay)
  (Qaj (Qas 4 (Qaf Qce (Qaf Qbz (Qab 0) (mC (.int 2147483647))) (mC (.int 7919))))
  (Qaj (Qct (Qfl (Qaa (Qaf Qce (Qab 1) (mC (.int 2))) Qae)) (mgN 3) (Qas 4 (Qaf Qbz (Qaf Qce (Qaf Qf8 (Qab 4) (mC (.int 48271))) (mC (.int 104729))) (mC (.int 2147483629)))))
  (Qaw (Qaf Qhi (Qaf Qbz (Qaf Qf8 (Qab 4) (Qab 4)) (mC (.int 998244353))) (mC (.int 11)))))))
def QaR:List D→Qac→Res D:=Qa8 5 QlX
abbrev Qhj (Pr:Program) (w:World) (K:Frag) (mg:Str→Option Value) (base:Heap):Prop:=Can Pr w K mg base "_law_mix" ["_law_cell_here","_law_k"] 1 (vSp K mg [.s,.s] (rV K) QaR)
theorem Qpe (Qjt:Def K mg "_law_mix" Qi7)
  (B:Blt mg) :
  Qhj Pr w K mg base:=by
 refine Qdu (k:=0) (b:=QlX) Qjt Qdz (fun _ _ _ _ _ _=>Qa1 fun _=>Qa1 fun _=>QbG rfl) [.s,.s] [.v,.v,.v] Qbr (fun _ _ _ _=>Rp.non) (body:=fun f cdv A outer s H E hr P=>?_);refine Qak ?_ ?_;refine Qa4 ?_ ?_ QaM;refine QaQ QwK (Qap 0) ?_ (QaJ _);refine QaI ?_;refine Qa3 Qkz (Qad Qan) (Qad Qan);refine Qak ?_ ?_;refine QaU (i:=2) Qdz.nd rfl (.inl rfl) (Qde (Qap 0));refine Qak ?_ ?_;refine Qh2 rfl ?_ (QbI (i:=3) Qdz.nd rfl (.inl rfl)) ?_;refine Qhg B.range_ ?_;refine Qau (Qap 1) Qah;refine Qao ?_;refine QaU (i:=2) Qdz.nd rfl (.inl rfl) ?_;refine QaV ?_;refine Qa3 Qoz (Qad (Qag 2)) ?_;refine QaI ?_;refine Qa3 Qkz (Qad Qan) (Qad Qan)
 refine Qao ?_;refine Qaz ?_;refine QaV ?_;refine Qa3 QdE (Qad (Qag 2)) ?_;refine QaI ?_;refine Qa3 Qkz (Qad Qan) (Qad Qan);refine Qak ?_ ?_;refine QaU (i:=4) Qdz.nd rfl (.inl rfl) ?_;refine QaV ?_;refine Qa3 QdB ?_ (Qad Qan);refine QaI ?_;refine Qa3 QdE (Qap 0) (Qad Qan);refine Qak ?_ ?_;refine Qh2 rfl ?_ (QbI (i:=3) Qdz.nd rfl (.inl rfl)) ?_;refine Qhg B.range_ ?_;refine Qau ?_ Qah;refine QaI ?_;refine Qa3 QdB (Qap 1) (Qad Qan);refine Qao ?_;refine QaU (i:=4) Qdz.nd rfl (.inl rfl) ?_;refine QaV ?_;refine Qa3 QdE ?_ (Qad Qan);refine QaI ?_;refine Qa3 QdB ?_ (Qad Qan);refine QaI ?_;refine Qa3 QnA (Qad (Qag 4)) (Qad Qan)
 refine Qao ?_;refine Qaz ?_;refine QaV ?_;refine Qa3 Qoz ?_ (Qad Qan);refine QaI ?_;refine Qa3 QdE ?_ (Qad Qan);refine QaI ?_;refine Qa3 QnA (Qad (Qag 4)) (Qad (Qag 4))
abbrev QhN:Stmt:=top 43
theorem Qa9:QaA ["_law_items","_law_most","_law_parts_here","_law_row","_law_stale","_law_colours","_law_place","_law_kind","_law_value"] ["_law_items","_law_most"] (Qai QhN):=by trivial
def QfM:MS :=
  (Qaj (Qas 2 (Qa0 Qae))
  (Qaj (Qas 3 (Qa0 Qae))
  (Qaj (Qas 4 (mC (.bl false)))
  (Qaj (Qas 5 (Qa0 (Qaa (mC (.str [46])) (Qaa (mC (.str [46])) Qae))))
  (Qaj (Qfr (Qab 0) (Qfq 3 (Qa6 (mgN 6) (Qa6 (mgN 7) (Qa6 (mgN 8) Qdi)))) (Qaj (QaT (QcW (Qbv (Qab 4)) (QcW (QaD (Qaf gNe (Qab 7) (mC (.str [101,110,100])))) (QaD (Qaf gNe (Qab 7) (mC (.str [97,110,101,119])))))) (Qaj (Qas 3 (Qa0 Qae))
  (Qas 4 (mC (.bl false)))) Qay)
  (Qaj (QaT (QaD (Qaf gEq (Qab 7) (mC (.str [115,105,103,110])))) (Qaj (QaT (QaD (Qaf gEq (QaY QbN (Qaa (Qab 3) Qae)) (Qab 1))) (Qaj (Qha 2 (Qbn (Qaa (Qab 3) (Qaa (mC (.str [109,111,114,101])) Qae))))
  (Qas 3 (Qa0 Qae))) Qay)
  (Qas 3 (Qaf Qce (Qab 3) (Qa0 (Qaa (Qbn (Qaa (Qab 8) (Qaa (Qaf gIx (Qab 5) (mC (.int 0))) (Qaa (Qaf gIx (Qab 5) (mC (.int 1))) (Qaa (Qab 6) Qae))))) Qae))))) (QaT (QaD (Qaf gEq (Qab 7) (mC (.str [105,110,107])))) (Qe1 5 (mC (.int 0)) (Qab 8)) (QaT (QaD (Qaf gEq (Qab 7) (mC (.str [103,114,111,117,110,100])))) (Qe1 5 (mC (.int 1)) (Qab 8)) (Qas 5 (Qa0 (Qaa (mC (.str [46])) (Qaa (mC (.str [46])) Qae)))))))
  (Qaj (QaT (QaD (Qaf gEq (Qab 7) (mC (.str [97,110,101,119])))) (Qas 4 (mC (.bl true))) Qay)
  (QaT (QaD (Qaf gEq (Qab 7) (mC (.str [101,110,100])))) (Qaj (Qha 2 (Qbn (Qaa (Qab 3) (Qaa (mC (.str [119,104,111,108,101])) Qae))))
  (Qaj (Qas 3 (Qa0 Qae))
  (Qas 4 (mC (.bl false))))) Qay)))))
  (Qki (Qaw (Qbn (Qaa (Qab 2) (Qaa (Qab 3) Qae))))))))))
def Qcu:List D→Qac→Res D:=Qa8 9 QfM
abbrev Qj0 (Pr:Program) (w:World) (K:Frag) (mg:Str→Option Value) (base:Heap):Prop:=Can Pr w K mg base "_law_parts" ["_law_items","_law_most"] 1 (vSp K mg [.s,.s] (rV K) Qcu)
theorem QnR (QhJ:Def K mg "_law_parts" QhN)
  (B:Blt mg) :
  Qj0 Pr w K mg base:=by
 refine Qdu (k:=0) (b:=QfM) QhJ Qa9 (fun _ _ _ _ _ _=>Qa1 fun _=>Qa1 fun _=>QbG rfl) [.s,.s] [.o,.v,.v,.o,.v,.v,.v] Qbr (fun _ _ _ _=>Rp.non) (body:=fun f cdv A outer s H E hr P=>?_);refine Qak ?_ ?_;refine Qdj (i:=2) Qa9.nd rfl (.inl rfl) (Qbd 0 Qah);refine Qak ?_ ?_;refine QaU (i:=3) Qa9.nd rfl (.inl rfl) ?_;refine QaV (Qbd 0 Qah);refine Qak (QaU (i:=4) Qa9.nd rfl (.inl rfl) QbP) ?_;refine Qak ?_ ?_;refine Qdj (i:=5) Qa9.nd rfl (.inl rfl) ?_;refine Qbd 2 ?_;refine Qar (Qav [46]) ?_;refine Qar (Qav [46]) Qah;refine Qak ?_ ?_;refine QoR rfl (QgN 0) ?_ ?_;refine Qjd 3 rfl ?_;refine QcS (QbI (i:=6) Qa9.nd rfl (.inl rfl)) ?_
 refine QcS (QbI (i:=7) Qa9.nd rfl (.inl rfl)) ?_;refine QcS (QbI (i:=8) Qa9.nd rfl (.inl rfl)) QhW;refine Qak ?_ ?_;refine Qa4 ?_ ?_ QaM;refine Qfb ?_;refine QeG ?_ ?_;refine QbF (Qad (Qag 4));refine QeG ?_ ?_;refine QaQ (Qej hr) (Qad (Qag 7)) (Qad (Qav [101,110,100])) (QaJ _);refine QhZ ?_;refine QaQ (Qej hr) (Qad (Qag 7)) (Qad (Qav [97,110,101,119])) (QaJ _);refine Qak ?_ ?_;refine QaU (i:=3) Qa9.nd rfl (.inl rfl) ?_;refine QaV (Qbd 0 Qah);refine Qao (QaU (i:=4) Qa9.nd rfl (.inl rfl) QbP);refine Qak ?_ ?_;refine Qa4 ?_ ?_ ?_;refine QaQ (Qbo hr) (Qad (Qag 7)) (Qad (Qav [115,105,103,110])) (QaJ _)
 refine Qak ?_ ?_;refine Qa4 ?_ ?_ QaM;refine QaQ (Qbo hr) ?_ (Qap 1) (QaJ _);refine QaI ?_;refine Qbt (ms:=[.s]) (hv:=Qb6) Qb9 B.len_ ?_;refine Qau (Qad (Qag 3)) Qah;refine Qak ?_ ?_;refine QlV 2 ?_;refine Qbh 2 ?_;refine Qar (Qag 3) ?_;refine Qar (Qav [109,111,114,101]) Qah;refine Qao ?_;refine QaU (i:=3) Qa9.nd rfl (.inl rfl) ?_;refine QaV (Qbd 0 Qah);refine Qao ?_;refine QaU (i:=3) Qa9.nd rfl (.inl rfl) ?_;refine QaV ?_;refine Qa3 QdB (Qad (Qag 3)) ?_;refine QaI ?_;refine Qbd 1 ?_;refine Qar ?_ Qah;refine Qbh 4 ?_;refine Qar (Qag 8) ?_;refine Qar ?_ ?_;refine QaW (Qap 5) (Qad Qan);refine Qar ?_ ?_
 refine QaW (Qap 5) (Qad Qan);refine Qar (Qag 6) Qah;refine Qao ?_;refine Qa4 ?_ ?_ ?_;refine QaQ (Qbo hr) (Qad (Qag 7)) (Qad (Qav [105,110,107])) (QaJ _);refine Qao ?_;refine Qnv 5 (Qag 8) Qan;refine Qao ?_;refine Qa4 ?_ ?_ ?_;refine QaQ (Qbo hr) (Qad (Qag 7)) (Qad (Qav [103,114,111,117,110,100])) (QaJ _);refine Qao ?_;refine Qnv 5 (Qag 8) Qan;refine Qao ?_;refine Qdj (i:=5) Qa9.nd rfl (.inl rfl) ?_;refine Qbd 2 ?_;refine Qar (Qav [46]) ?_;refine Qar (Qav [46]) Qah;refine Qak ?_ ?_;refine Qa4 ?_ ?_ QaM;refine QaQ (Qbo hr) (Qad (Qag 7)) (Qad (Qav [97,110,101,119])) (QaJ _);refine Qao (QaU (i:=4) Qa9.nd rfl (.inl rfl) QbP)
 refine Qao ?_;refine Qa4 ?_ ?_ QaM;refine QaQ (Qbo hr) (Qad (Qag 7)) (Qad (Qav [101,110,100])) (QaJ _);refine Qak ?_ ?_;refine QlV 2 ?_;refine Qbh 2 ?_;refine Qar (Qag 3) ?_;refine Qar (Qav [119,104,111,108,101]) Qah;refine Qak ?_ ?_;refine QaU (i:=3) Qa9.nd rfl (.inl rfl) ?_;refine QaV (Qbd 0 Qah);refine Qao (QaU (i:=4) Qa9.nd rfl (.inl rfl) QbP);refine Qao ?_;refine Qqf 2 rfl ?_;refine Qaz ?_;refine Qbh 2 ?_;refine Qar (Qag 2) ?_;refine Qar (Qag 3) Qah
abbrev Qhv:Stmt:=top 44
theorem Qno:QaA ["_law_found"] ["_law_found"] (Qai Qhv):=by trivial
def QhA:MS :=
  (Qaw (Qeg (Qds "int" (Qab 0)) (Qmx (Qds "bool" (Qab 0)))))
def QcH:List D→Qac→Res D:=Qa8 1 QhA
abbrev Qj8 (Pr:Program) (w:World) (K:Frag) (mg:Str→Option Value) (base:Heap):Prop:=Qku Pr w K mg base "_law_whole" ["_law_found"] 1 (vSp K mg [.s] (rV K) QcH)
theorem QnC (QhG:Def K mg "_law_whole" Qhv)
  (B:Blt mg) :
  Qj8 Pr w K mg base:=by
 refine Qs4 (k:=0) (b:=QhA) QhG Qno (fun _ _ _ _ _ _=>Qa1 fun _=>QbG rfl) [.s] [] Qbr (fun _ _ _ _=>Rp.non) (body:=fun f cdv A outer s H E hr P=>?_);refine Qao ?_;refine Qaz ?_;refine QeF ?_ ?_;refine QaV (QdD "int" (hb:=QnO) B.isinstance_ B.int_ (Qap 0));refine Qf1 ?_;refine Qq9 ?_;refine QaV (QdD "bool" (hb:=QoZ) B.isinstance_ B.bool_ (Qap 0))
abbrev QcV:Stmt:=top 45
theorem Qe4:QaA ["_law_found","_law_due","_law_letter"] ["_law_found","_law_due"] (Qai QcV):=by trivial
def QcU:MS :=
  (Qaj (QaT (QcC (Qca (Qbv (Qds "list" (Qab 0)))) (QaD (Qaf gNe (QaY QbN (Qaa (Qab 0) Qae)) (QaY QbN (Qaa (Qab 1) Qae))))) (Qaw (mC (.bl false))) Qay)
  (Qaj (Qfr (Qab 0) (mgN 2) (Qaj (QaT (QcC (Qca (Qbv (Qds "tuple" (Qab 2)))) (QcC (QaD (Qaf gNe (QaY QbN (Qaa (Qab 2) Qae)) (mC (.int 4)))) (Qca (Qbv (Qat QcH (Qaa (Qaf gIx (Qab 2) (mC (.int 3))) Qae)))))) (Qaw (mC (.bl false))) Qay)
  (QaT (QaD (Qaf gNe (Qgu (Qfj (mSl (Qab 2) moN (moS (mC (.int 3))))) 1 [] (mgN 0) QgL (Qds "str" (Qab 0))) (Qa0 (Qaa (mC (.bl true)) (Qaa (mC (.bl true)) (Qaa (mC (.bl true)) Qae)))))) (Qaw (mC (.bl false))) Qay)))
  (Qaw (Qaf gEq (Qab 0) (Qab 1)))))
def Qbl:List D→Qac→Res D:=Qa8 3 QcU
abbrev QdQ (Pr:Program) (w:World) (K:Frag) (mg:Str→Option Value) (base:Heap):Prop:=Can Pr w K mg base "_law_letters_right" ["_law_found","_law_due"] 2 (vSp K mg [.s,.s] (rV K) Qbl)
theorem Qic (QdT:Def K mg "_law_letters_right" QcV)
  (B:Blt mg)
  (QdL:Can Pr w K mg base "_law_whole" ["_law_found"] 1 (vSp K mg [.s] (rV K) QcH)) :
  QdQ Pr w K mg base:=by
 refine Qdu (k:=1) (b:=QcU) QdT Qe4 (fun _ _ _ _ _ _=>Qa1 fun _=>Qa1 fun _=>QbG rfl) [.s,.s] [.v] Qbr (fun _ _ _ _=>Rp.non) (body:=fun f cdv A outer s H E hr P=>?_);refine Qak ?_ ?_;refine Qa4 ?_ ?_ QaM;refine Qfb ?_;refine QeM ?_ ?_;refine QdG ?_;refine QbF ?_;refine QaI (QdD "list" (hb:=Qlv) B.isinstance_ B.list_ (Qap 0));refine Qe5 ?_;refine QaQ (Qej hr) ?_ ?_ (QaJ _);refine QaI ?_;refine Qbt (ms:=[.s]) (hv:=Qb6) Qb9 B.len_ ?_;refine Qau (Qap 0) Qah;refine QaI ?_;refine Qbt (ms:=[.s]) (hv:=Qb6) Qb9 B.len_ ?_;refine Qau (Qap 1) Qah;refine Qao (Qaz QbP);refine Qak ?_ ?_;refine QoR rfl (QgN 0) (QbI (i:=2) Qe4.nd rfl (.inl rfl)) ?_
 refine Qak ?_ ?_;refine Qa4 ?_ ?_ QaM;refine Qfb ?_;refine QeM ?_ ?_;refine QdG ?_;refine QbF ?_;refine QaI ?_;refine QdD "tuple" (hb:=Qne) B.isinstance_ B.tuple_ (Qad (Qag 2));refine QeM ?_ ?_;refine QaQ (Qej hr) ?_ (Qad Qan) (QaJ _);refine QaI ?_;refine Qbt (ms:=[.s]) (hv:=Qb6) Qb9 B.len_ ?_;refine Qau (Qad (Qag 2)) Qah;refine Qe5 ?_;refine QdG ?_;refine QbF ?_;refine Qad ?_;refine QaO QdL (hr.mono (by decide)) ?_;refine Qau ?_ Qah;refine Qad ?_;refine QaW (Qad (Qag 2)) (Qad Qan);refine Qao (Qaz QbP);refine Qao ?_;refine Qa4 ?_ ?_ QaM;refine QaQ (Qej hr) ?_ ?_ (QaJ _);refine QaI ?_;refine QoC (Qai QcV) ["_law_found","_law_due","_law_letter"] ["_law_thing"] [] rfl ?_ (fun _ _ _ _ P=>?_) (fun _ _ _ _ P=>?_) (fun _ _ _ _ P=>?_)
 refine Qot ?_;refine QaI ?_;refine QiC (Qad (Qag 2)) QjI (QjN Qan);exact QbI (i:=0) (show (Qbp ["_law_found","_law_due","_law_letter"] ["_law_thing"] []).Nodup by decide +kernel) rfl (.inl rfl);exact Qlq;refine QaV ?_;refine QdD "str" (hb:=Qk1) B.isinstance_ B.str_ (Qad (Qag 0));refine QaI ?_;refine Qbd 3 ?_;refine Qar QbP ?_;refine Qar QbP ?_;refine Qar QbP Qah;refine Qao (Qaz QbP);refine Qao ?_;refine Qaz ?_;refine QaV ?_;refine Qf4 (Qbo hr) (Qap 0) (Qap 1) (QaJ _)
abbrev Qem:Stmt:=top 46
theorem Qd4:QaA ["_law_found","_law_due","_law_part","_law_other"] ["_law_found","_law_due"] (Qai Qem):=by trivial
def Qdd:MS :=
  (Qaj (QaT (QcC (Qca (Qbv (Qds "list" (Qab 0)))) (QaD (Qaf gNe (QaY QbN (Qaa (Qab 0) Qae)) (QaY QbN (Qaa (Qab 1) Qae))))) (Qaw (mC (.bl false))) Qay)
  (Qaj (Qct (QpQ (Qab 0) (Qab 1)) (Qfq 2 (Qa6 (mgN 2) (Qa6 (mgN 3) Qdi))) (Qaj (QaT (QcC (Qca (Qbv (Qds "tuple" (Qab 2)))) (QcC (QaD (Qaf gNe (QaY QbN (Qaa (Qab 2) Qae)) (mC (.int 2)))) (QaD (Qaf gNe (Qaf gIx (Qab 2) (mC (.int 1))) (Qaf gIx (Qab 3) (mC (.int 1))))))) (Qaw (mC (.bl false))) Qay)
  (QaT (Qca (Qbv (Qat Qbl (Qaa (Qaf gIx (Qab 2) (mC (.int 0))) (Qaa (Qaf gIx (Qab 3) (mC (.int 0))) Qae))))) (Qaw (mC (.bl false))) Qay)))
  (Qaw (mC (.bl true)))))
def Qch:List D→Qac→Res D:=Qa8 4 Qdd
abbrev Qgn (Pr:Program) (w:World) (K:Frag) (mg:Str→Option Value) (base:Heap):Prop:=Can Pr w K mg base "_law_parts_right" ["_law_found","_law_due"] 3 (vSp K mg [.s,.s] (rV K) Qch)
theorem Qi6 (Qes:Def K mg "_law_parts_right" Qem)
  (B:Blt mg)
  (QbZ:QdQ Pr w K mg base) :
  Qgn Pr w K mg base:=by
 refine Qdu (k:=2) (b:=Qdd) Qes Qd4 (fun _ _ _ _ _ _=>Qa1 fun _=>Qa1 fun _=>QbG rfl) [.s,.s] [.v,.v] Qbr (fun _ _ _ _=>Rp.non) (body:=fun f cdv A outer s H E hr P=>?_);refine Qak ?_ ?_;refine Qa4 ?_ ?_ QaM;refine Qfb ?_;refine QeM ?_ ?_;refine QdG ?_;refine QbF ?_;refine QaI (QdD "list" (hb:=Qlv) B.isinstance_ B.list_ (Qap 0));refine Qe5 ?_;refine QaQ (Qej hr) ?_ ?_ (QaJ _);refine QaI ?_;refine Qbt (ms:=[.s]) (hv:=Qb6) Qb9 B.len_ ?_;refine Qau (Qap 0) Qah;refine QaI ?_;refine Qbt (ms:=[.s]) (hv:=Qb6) Qb9 B.len_ ?_;refine Qau (Qap 1) Qah;refine Qao (Qaz QbP);refine Qak ?_ ?_;refine Qh2 rfl ?_ ?_ ?_
 refine QvI B.zip_ (QgN 0) (QgN 1);refine Qjd 2 rfl ?_;refine QcS (QbI (i:=2) Qd4.nd rfl (.inl rfl)) ?_;refine QcS (QbI (i:=3) Qd4.nd rfl (.inl rfl)) QhW;refine Qak ?_ ?_;refine Qa4 ?_ ?_ QaM;refine Qfb ?_;refine QeM ?_ ?_;refine QdG ?_;refine QbF ?_;refine QaI ?_;refine QdD "tuple" (hb:=Qne) B.isinstance_ B.tuple_ (Qad (Qag 2));refine QeM ?_ ?_;refine QaQ (Qej hr) ?_ (Qad Qan) (QaJ _);refine QaI ?_;refine Qbt (ms:=[.s]) (hv:=Qb6) Qb9 B.len_ ?_;refine Qau (Qad (Qag 2)) Qah;refine Qe5 ?_;refine QaQ (Qej hr) ?_ ?_ (QaJ _);refine Qad ?_;refine QaW (Qad (Qag 2)) (Qad Qan);refine Qad ?_;refine QaW (Qad (Qag 3)) (Qad Qan)
 refine Qao (Qaz QbP);refine Qao ?_;refine Qa4 ?_ ?_ QaM;refine QdG ?_;refine QbF ?_;refine Qad ?_;refine QaO QbZ (hr.mono (by decide)) ?_;refine Qau ?_ ?_;refine Qad ?_;refine QaW (Qad (Qag 2)) (Qad Qan);refine Qau ?_ Qah;refine Qad ?_;refine QaW (Qad (Qag 3)) (Qad Qan);refine Qao (Qaz QbP);refine Qao (Qaz QbP)
abbrev Qfw:Stmt:=top 47
theorem Qe9:QaA ["_law_cell_here","_law_far","_law_some"] ["_law_cell_here"] (Qai Qfw):=by trivial
def Qeh:MS :=
  (Qaj (Qas 1 (Qaf Qbz (Qat QaR (Qaa (Qab 0) (Qaa (mC (.int 1)) Qae))) (mC (.int 1000))))
  (Qaj (Qas 2 (Qa0 (Qaa (mC (.int 0)) (Qaa (mC (.int 201)) (Qaa (Qaf Qce (mC (.int 201)) (Qab 1)) (Qaa (Qaf Qh5 (mUn Qkl (mC (.int 1))) (Qab 1)) (Qaa (mC (.bl true)) (Qaa (mC (.bl false)) (Qaa (mC .non) (Qaa (mC (.str [53])) (Qaa (Qa0 (Qaa (mC (.int 5)) Qae)) (Qaa (Qbn (Qaa (mC (.int 5)) Qae)) (Qaa (mC (.dic [] [])) (Qaa (Qaf Qce (Qaf Qgi (mC (.int 10)) (mC (.int 30))) (Qab 1)) Qae))))))))))))))
  (Qaw (Qaf gIx (Qab 2) (Qaf Qbz (Qat QaR (Qaa (Qab 0) (Qaa (mC (.int 0)) Qae))) (mC (.int 12)))))))
def QfD:List D→Qac→Res D:=Qa8 3 Qeh
abbrev Qh4 (Pr:Program) (w:World) (K:Frag) (mg:Str→Option Value) (base:Heap):Prop:=Can Pr w K mg base "_law_bad_most" ["_law_cell_here"] 2 (vSp K mg [.s] (rV K) QfD)
theorem QkR (Qfx:Def K mg "_law_bad_most" Qfw)
  (B:Blt mg)
  (QbW:Qhj Pr w K mg base) :
  Qh4 Pr w K mg base:=by
 refine Qdu (k:=1) (b:=Qeh) Qfx Qe9 (fun _ _ _ _ _ _=>Qa1 fun _=>QbG rfl) [.s] [.v,.v] Qbr (fun _ _ _ _=>Rp.non) (body:=fun f cdv A outer s H E hr P=>?_);refine Qak ?_ ?_;refine QaU (i:=1) Qe9.nd rfl (.inl rfl) ?_;refine QaV ?_;refine Qa3 QdE ?_ (Qad Qan);refine Qad ?_;refine QaO QbW (hr.mono (by decide)) ?_;refine Qau (Qap 0) ?_;refine Qau (Qad Qan) Qah;refine Qak ?_ ?_;refine QaU (i:=2) Qe9.nd rfl (.inl rfl) ?_;refine QaV ?_;refine Qbd 12 ?_;refine Qar Qan ?_;refine Qar Qan ?_;refine Qar ?_ ?_;refine QaV ?_;refine Qa3 QdB (Qad Qan) (Qad (Qag 1));refine Qar ?_ ?_;refine QaV ?_;refine Qa3 Qnl ?_ (Qad (Qag 1))
 refine QaI ?_;refine Qqt (Qad Qan);refine Qar QbP ?_;refine Qar QbP ?_;refine Qar QnJ ?_;refine Qar (Qav [53]) ?_;refine Qar ?_ ?_;refine QaV ?_;refine Qbd 1 ?_;refine Qar Qan Qah;refine Qar ?_ ?_;refine Qbh 1 ?_;refine Qar Qan Qah;refine Qar Qtm ?_;refine Qar ?_ Qah;refine QaV ?_;refine Qa3 QdB ?_ (Qad (Qag 1));refine QaI ?_;refine Qa3 Qkz (Qad Qan) (Qad Qan);refine Qao ?_;refine Qaz ?_;refine QaW (Qad (Qag 2)) ?_;refine QaI ?_;refine Qa3 QdE ?_ (Qad Qan);refine Qad ?_;refine QaO QbW (hr.mono (by decide)) ?_;refine Qau (Qap 0) ?_;refine Qau (Qad Qan) Qah
abbrev Qik:Stmt:=top 48
theorem Qn0:QaA ["_law_e"] ["_law_e"] (Qai Qik):=by trivial
def Qef:MS :=
  (Qaj (QaT (Qbv (QeR [("NoSize",false),("NoSign",false)] (Qab 0))) (Qaw (Qbn (Qaa (mC (.str [111,116,104,101,114])) (Qaa (mC (.int 0)) Qae)))) Qay)
  (Qaj (QaT (QcC (QcW (Qbv (QeR [("NoSize",true),("NoSign",false)] (Qab 0))) (Qbv (QeR [("NoSize",false),("NoSign",true)] (Qab 0)))) (Qca (Qbv (QeR [("NoSize",true),("NoSign",true)] (Qab 0))))) (Qaw (Qbn (Qaa (mC (.str [111,116,104,101,114])) (Qaa (mC (.int 0)) Qae)))) Qay)
  (Qaj (QaT (Qbv (QeR [("NoSize",true),("NoSign",false)] (Qab 0))) (Qaw (Qbn (Qaa (mC (.str [115,105,122,101])) (Qaa (mC (.int 0)) Qae)))) Qay)
  (Qaj (QaT (QcW (Qbv (QeR [("NoSize",false),("NoSign",true)] (Qab 0))) (Qbv (Qat QcH (Qaa (QiD "at" ["NoSign"] (Qab 0)) Qae)))) (Qaw (Qbn (Qaa (mC (.str [115,105,103,110])) (Qaa (QiD "at" ["NoSign"] (Qab 0)) Qae)))) Qay)
  (Qaw (Qbn (Qaa (mC (.str [111,116,104,101,114])) (Qaa (mC (.int 0)) Qae))))))))
def Qc5:List D→Qac→Res D:=Qa8 1 Qef
abbrev Qiw (Pr:Program) (w:World) (K:Frag) (mg:Str→Option Value) (base:Heap):Prop:=Qku Pr w K mg base "_law_word" ["_law_e"] 2 (vSp K mg [.v] (rV K) Qc5)
theorem Qn6 (QiA:Def K mg "_law_word" Qik)
  (B:Blt mg)
  (IT_ClosedNoCellNoHandNoNameNoRollNoRoomNoRowTwice_NoSize:Qkh K mg ["Closed","NoCell","NoHand","NoName","NoRoll","NoRoom","NoRow","Twice"] "NoSize" false)
  (IT_ClosedNoCellNoHandNoNameNoRollNoRoomNoRowTwice_NoSign:Qkh K mg ["Closed","NoCell","NoHand","NoName","NoRoll","NoRoom","NoRow","Twice"] "NoSign" false)
  (IS_NoSize_NoSize:ISN K mg "NoSize" "NoSize" true)
  (IS_NoSize_NoSign:ISN K mg "NoSize" "NoSign" false)
  (IS_NoSign_NoSize:ISN K mg "NoSign" "NoSize" false)
  (IS_NoSign_NoSign:ISN K mg "NoSign" "NoSign" true)
  (VN:mg "ValueError" = none)
  (IV_NoSize:ISV K mg "NoSize")
  (IV_NoSign:ISV K mg "NoSign")
  (XA_at_NoSign:XFC K mg "at" "NoSign")
  (QdL:Qj8 Pr w K mg base) :
  Qiw Pr w K mg base:=by
 refine Qs4 (k:=1) (b:=Qef) QiA Qn0 (fun _ _ _ _ _ _=>Qa1 fun _=>QbG rfl) [.v] [] Qbr (fun _ _ _ _=>Rp.non) (body:=fun f cdv A outer s H E hr P=>?_);refine Qak ?_ ?_;refine Qa4 ?_ ?_ QaM;refine QbF ?_;refine Qad (Qv5 (ns:=["Closed","NoCell","NoHand","NoName","NoRoll","NoRoom","NoRow","Twice"]) (tb:=[("NoSize",false),("NoSign",false)]) B.isinstance_ IT_ClosedNoCellNoHandNoNameNoRollNoRoomNoRowTwice_NoSize.nm (Qd7 (Qd7 (Qd7 (Qd7 (Qd7 (Qd7 (Qd7 (Qd7 Qti)))))))) (Qag 0) (QcX IT_ClosedNoCellNoHandNoNameNoRollNoRoomNoRowTwice_NoSize (QcX IT_ClosedNoCellNoHandNoNameNoRollNoRoomNoRowTwice_NoSign QhV)))
 refine Qao ?_;refine Qaz ?_;refine Qbh 2 ?_;refine Qar (Qav [111,116,104,101,114]) ?_;refine Qar Qan Qah;refine Qak ?_ ?_;refine Qa4 ?_ ?_ QaM;refine Qfb ?_;refine QeM ?_ ?_;refine Qfb ?_;refine QeG ?_ ?_;refine QbF ?_;refine Qad (QkD (tb:=[("NoSize",true),("NoSign",false)]) B.isinstance_ IS_NoSize_NoSize.nm (Qag 0) (QcX IS_NoSize_NoSize (QcX IS_NoSize_NoSign QhV)));refine QhZ ?_;refine QbF ?_;refine Qad (QkD (tb:=[("NoSize",false),("NoSign",true)]) B.isinstance_ IS_NoSign_NoSize.nm (Qag 0) (QcX IS_NoSign_NoSize (QcX IS_NoSign_NoSign QhV)));refine Qe5 ?_;refine QdG ?_;refine QbF ?_;refine Qad (QuM (tb:=[("NoSize",true),("NoSign",true)]) B.isinstance_ VN (Qag 0) (QcX (ISV.tb IV_NoSize) (QcX (ISV.tb IV_NoSign) QhV)))
 refine Qao ?_;refine Qaz ?_;refine Qbh 2 ?_;refine Qar (Qav [111,116,104,101,114]) ?_;refine Qar Qan Qah;refine Qak ?_ ?_;refine Qa4 ?_ ?_ QaM;refine QbF ?_;refine Qad (QkD (tb:=[("NoSize",true),("NoSign",false)]) B.isinstance_ IS_NoSize_NoSize.nm (Qag 0) (QcX IS_NoSize_NoSize (QcX IS_NoSize_NoSign QhV)));refine Qao ?_;refine Qaz ?_;refine Qbh 2 ?_;refine Qar (Qav [115,105,122,101]) ?_;refine Qar Qan Qah;refine Qak ?_ ?_;refine Qa4 ?_ ?_ QaM;refine Qfb ?_;refine QeG ?_ ?_;refine QbF ?_;refine Qad (QkD (tb:=[("NoSize",false),("NoSign",true)]) B.isinstance_ IS_NoSign_NoSize.nm (Qag 0) (QcX IS_NoSign_NoSize (QcX IS_NoSign_NoSign QhV)))
 refine QhZ ?_;refine QbF ?_;refine Qad ?_;refine Qka QdL (hr.mono (by decide)) ?_;refine Qau ?_ Qah;refine Qad (Qok (L:=["NoSign"]) (Qag 0) (QgH XA_at_NoSign QhS));refine Qao ?_;refine Qaz ?_;refine Qbh 2 ?_;refine Qar (Qav [115,105,103,110]) ?_;refine Qar (Qok (L:=["NoSign"]) (Qag 0) (QgH XA_at_NoSign QhS)) Qah;refine Qao ?_;refine Qaz ?_;refine Qbh 2 ?_;refine Qar (Qav [111,116,104,101,114]) ?_;refine Qar Qan Qah
abbrev QhB:Stmt:=top 49
theorem Qi3:QaA ["_law_text","_law_most","_law_e"] ["_law_text","_law_most"] (Qai QhB):=by trivial
def QcJ:MS :=
  (Qaj (Qf3 (QdH Qdp (Qaa (Qab 0) (Qaa (Qab 1) Qae))) ((["NoSize","NoSign"],[],2,(Qaw (Qat Qc5 (Qaa (Qab 2) Qae)))) :: []))
  (Qaw (Qbn (Qaa (mC (.str [116,111,108,100])) (Qaa (mC (.int 0)) Qae)))))
def QbC:List D→Qac→Res D:=Qa8 3 QcJ
abbrev QjX (Pr:Program) (w:World) (K:Frag) (mg:Str→Option Value) (base:Heap):Prop:=Can Pr w K mg base "_law_asked" ["_law_text","_law_most"] 7 (vSp K mg [.s,.s] (rV K) QbC)
theorem QnS (QhM:Def K mg "_law_asked" QhB)
  (B:Blt mg)
  (EX_OutError_NoSize:EXM K mg "OutError" "NoSize" true)
  (EX_OutError_NoSign:EXM K mg "OutError" "NoSign" true)
  (Qjl:QlL Pr w K mg base)
  (Qei:Qiw Pr w K mg base) :
  QjX Pr w K mg base:=by
 refine Qdu (k:=6) (b:=QcJ) QhM Qi3 (fun _ _ _ _ _ _=>Qa1 fun _=>Qa1 fun _=>QbG rfl) [.s,.s] [.v] Qbr (fun _ _ _ _=>Rp.non) (body:=fun f cdv A outer s H E hr P=>?_);refine Qak ?_ ?_;refine QoG (QrK Qbr Qjl (hr.mono (by decide)) (fun E=>(Qau (Qap 0) (Qau (Qap 1) Qah)))) (QoD (ys:=["NoSize","NoSign"]) (ns:=[]) (i:=2) (QgH EX_OutError_NoSize (QgH EX_OutError_NoSign QhS)) QhS (fun ea=>(Qao (Qaz (Qka Qei (QaH.inH (hr.mono (by decide))) (Qar (Qag 2) Qah))))) Qq8) Qi3.nd;refine Qao ?_;refine Qaz ?_;refine Qbh 2 ?_;refine Qar (Qav [116,111,108,100]) ?_;refine Qar Qan Qah
abbrev Qij:Stmt:=top 50
theorem Qj6:QaA ["_law_most","_law_e"] ["_law_most"] (Qai Qij):=by trivial
def Qeb:MS :=
  (Qaj (Qf3 (QdW "Maker" QaK (Qaa (Qab 0) Qae)) ((["NoSize","NoSign"],[],1,(Qaw (Qat Qc5 (Qaa (Qab 1) Qae)))) :: []))
  (Qaw (Qbn (Qaa (mC (.str [116,111,108,100])) (Qaa (mC (.int 0)) Qae)))))
def Qed:List D→Qac→Res D:=Qa8 2 Qeb
abbrev QkT (Pr:Program) (w:World) (K:Frag) (mg:Str→Option Value) (base:Heap):Prop:=Can Pr w K mg base "_law_made" ["_law_most"] 5 (vSp K mg [.s] (rV K) Qed)
theorem QnV (QiK:Def K mg "_law_made" Qij)
  (B:Blt mg)
  (EX_OutError_NoSize:EXM K mg "OutError" "NoSize" true)
  (EX_OutError_NoSign:EXM K mg "OutError" "NoSign" true)
  (Qby:QeP Pr w K mg base)
  (Qei:Qiw Pr w K mg base) :
  QkT Pr w K mg base:=by
 refine Qdu (k:=4) (b:=Qeb) QiK Qj6 (fun _ _ _ _ _ _=>Qa1 fun _=>QbG rfl) [.s] [.v] Qbr (fun _ _ _ _=>Rp.non) (body:=fun f cdv A outer s H E hr P=>?_);refine Qak ?_ ?_;refine QoG (Qsr Qby (hr.mono (by decide)) (fun E=>(Qau (Qap 0) Qah))) (QoD (ys:=["NoSize","NoSign"]) (ns:=[]) (i:=1) (QgH EX_OutError_NoSize (QgH EX_OutError_NoSign QhS)) QhS (fun ea=>(Qao (Qaz (Qka Qei (QaH.inH (hr.mono (by decide))) (Qar (Qag 1) Qah))))) Qq8) Qj6.nd;refine Qao ?_;refine Qaz ?_;refine Qbh 2 ?_;refine Qar (Qav [116,111,108,100]) ?_;refine Qar Qan Qah
abbrev Qec:Stmt:=top 51
theorem Qbf:QaA ["_law_script","_law_mosts","_law_makers","_law_items","_law_k","_law_cell_here","_law_at","_law_ahead","_law_kind","_law_value","_law_parts_here","_law_row"] ["_law_script","_law_mosts"] (Qai Qec):=by trivial
def Qek:MS :=
  (Qaj (Qas 2 (Qgu (Qfj (Qab 1)) 1 [] (mgN 0) QgL (Qc7 "Maker" QaK (Qaa (Qab 0) Qae))))
  (Qaj (Qas 3 (Qa0 (Qaa (mMl (Qa0 Qae)) (Qaa (mMl (Qa0 Qae)) (Qaa (mMl (Qa0 Qae)) Qae)))))
  (Qaj (Qct (Qfl (Qaa (QaY QbN (Qaa (mSl (Qab 0) moN (moS (mC (.int 40)))) Qae)) Qae)) (mgN 4) (Qaj (Qas 5 (Qaf gIx (Qab 0) (Qab 4)))
  (Qaj (Qas 6 (Qaf Qbz (Qat QaR (Qaa (Qab 5) (Qaa (mC (.int 5)) Qae))) (mC (.int 3))))
  (Qaj (Qas 7 (QaY QbN (Qaa (Qaf gIx (Qat Qcu (Qaa (Qaf gIx (Qab 3) (Qab 6)) (Qaa (Qaf gIx (Qab 1) (Qab 6)) Qae))) (mC (.int 0))) Qae)))
  (Qaj (Qas 8 (Qaf gIx (Qa0 (Qaa (mC (.str [115,105,103,110])) (Qaa (mC (.str [115,105,103,110])) (Qaa (mC (.str [105,110,107])) (Qaa (mC (.str [101,110,100])) (Qaa (mC (.str [97,110,101,119])) (Qaa (mC (.str [115,105,103,110])) Qae))))))) (Qaf Qbz (Qat QaR (Qaa (Qab 5) (Qaa (mC (.int 6)) Qae))) (mC (.int 6)))))
  (Qaj (Qas 9 (Qaf gIx (Qa0 (Qaa (mC (.str [])) (Qaa (Qaf gIx (mC (.str [97,98,99])) (Qaf Qbz (Qat QaR (Qaa (Qab 5) (Qaa (mC (.int 7)) Qae))) (mC (.int 3)))) Qae))) (QaY Qj9 (Qaa (Qln (Qaf gEq (Qab 8) (mC (.str [115,105,103,110]))) (Qaf gEq (Qab 8) (mC (.str [105,110,107])))) Qae))))
  (Qaj (QfT (Qaf gIx (Qab 3) (Qab 6)) (Qbn (Qaa (Qab 4) (Qaa (Qab 8) (Qaa (Qab 9) Qae)))))
  (Qaj (QjL (Qat Qcu (Qaa (Qaf gIx (Qab 3) (Qab 6)) (Qaa (Qaf gIx (Qab 1) (Qab 6)) Qae))) (Qfq 2 (Qa6 (mgN 10) (Qa6 (mgN 11) Qdi))))
  (QaT (Qca (Qbv (Qat Qch (Qaa (Qbq "Maker" "put" Qb1 (Qaf gIx (Qab 2) (Qab 6)) (Qaa (Qaf gIx (Qaf gIx (Qab 3) (Qab 6)) (mUn Qkl (mC (.int 1)))) Qae)) (Qaa (mSl (Qab 10) (moS (Qab 7)) moN) Qae))))) (Qaw (mC (.bl false))) Qay)))))))))
  (Qaj (Qct (Qfl (Qaa (mC (.int 3)) Qae)) (mgN 6) (QaT (Qca (Qbv (Qat Qbl (Qaa (Qbq "Maker" "open_letters" Qbc (Qaf gIx (Qab 2) (Qab 6)) Qae) (Qaa (Qaf gIx (Qat Qcu (Qaa (Qaf gIx (Qab 3) (Qab 6)) (Qaa (Qaf gIx (Qab 1) (Qab 6)) Qae))) (mC (.int 1))) Qae))))) (Qaw (mC (.bl false))) Qay))
  (Qaw (mC (.bl true)))))))
def Qee:List D→Qac→Res D:=Qa8 12 Qek
abbrev QhQ (Pr:Program) (w:World) (K:Frag) (mg:Str→Option Value) (base:Heap):Prop:=Can Pr w K mg base "_law_by_turns" ["_law_script","_law_mosts"] 5 (vSp K mg [.s,.s] (rV K) Qee)
theorem QkP (QfE:Def K mg "_law_by_turns" Qec)
  (B:Blt mg)
  (Qby:Qly Pr w K mg base "Maker" ["self","most"] 3 (vSp K mg [.v,.s] (rV K) QaK))
  (QbW:Qhj Pr w K mg base)
  (QeJ:Qj0 Pr w K mg base)
  (Qex:Qgn Pr w K mg base)
  (QdJ:QhD Pr w K mg base)
  (QbZ:QdQ Pr w K mg base)
  (QbR:Qdv Pr w K mg base) :
  QhQ Pr w K mg base:=by
 refine Qdu (k:=4) (b:=Qek) QfE Qbf (fun _ _ _ _ _ _=>Qa1 fun _=>Qa1 fun _=>QbG rfl) [.s,.s] [.v,.v,.v,.v,.v,.v,.v,.v,.v,.v] Qbr (fun _ _ _ _=>Rp.non) (body:=fun f cdv A outer s H E hr P=>?_);refine Qak ?_ ?_;refine Qst (i:=2) (Qai Qec) ["_law_script","_law_mosts","_law_makers","_law_items","_law_k","_law_cell_here","_law_at","_law_ahead","_law_kind","_law_value","_law_parts_here","_law_row"] ["_law_most"] [] Qbf.nd rfl (.inl rfl) rfl (Qot (Qap 1)) (fun _ _ _ _ P=>?_) (fun _ _ _ _ P=>?_) (fun _ _ _ _ P=>?_);exact QbI (i:=0) (show (Qbp ["_law_script","_law_mosts","_law_makers","_law_items","_law_k","_law_cell_here","_law_at","_law_ahead","_law_kind","_law_value","_law_parts_here","_law_row"] ["_law_most"] []).Nodup by decide +kernel) rfl (.inl rfl)
 exact Qlq
 refine Qt2 Qby (hr.mono (by decide)) ?_;refine Qau (Qad (Qag 0)) Qah;refine Qak ?_ ?_;refine QaU (i:=3) Qbf.nd rfl (.inl rfl) ?_;refine QaV ?_;refine Qbd 3 ?_;refine Qar ?_ ?_;refine Qil (Qbd 0 Qah);refine Qar ?_ ?_;refine Qil (Qbd 0 Qah);refine Qar ?_ Qah;refine Qil (Qbd 0 Qah);refine Qak ?_ ?_;refine Qh2 rfl ?_ (QbI (i:=4) Qbf.nd rfl (.inl rfl)) ?_;refine Qhg B.range_ ?_;refine Qau ?_ Qah;refine QaI ?_;refine Qbt (ms:=[.s]) (hv:=Qb6) Qb9 B.len_ ?_;refine Qau ?_ Qah;refine QaI ?_;refine QiC (Qap 0) QjI (QjN Qan);refine Qak ?_ ?_;refine QaU (i:=5) Qbf.nd rfl (.inl rfl) ?_;refine QaW (Qap 0) (Qad (Qag 4))
 refine Qak ?_ ?_;refine QaU (i:=6) Qbf.nd rfl (.inl rfl) ?_;refine QaV ?_;refine Qa3 QdE ?_ (Qad Qan);refine Qad ?_;refine QaO QbW (hr.mono (by decide)) ?_;refine Qau (Qad (Qag 5)) ?_;refine Qau (Qad Qan) Qah;refine Qak ?_ ?_;refine QaU (i:=7) Qbf.nd rfl (.inl rfl) ?_;refine QaV ?_;refine Qbt (ms:=[.s]) (hv:=Qb6) Qb9 B.len_ ?_;refine Qau ?_ Qah;refine Qad ?_;refine QaW ?_ (Qad Qan);refine Qad ?_;refine QaO QeJ (hr.mono (by decide)) ?_;refine Qau ?_ ?_;refine Qad ?_;refine QaW (Qad (Qag 3)) (Qad (Qag 6));refine Qau ?_ Qah;refine Qad ?_;refine QaW (Qap 1) (Qad (Qag 6));refine Qak ?_ ?_;refine QaU (i:=8) Qbf.nd rfl (.inl rfl) ?_
 refine QaW ?_ ?_;refine QaI ?_;refine Qbd 6 ?_;refine Qar (Qav [115,105,103,110]) ?_;refine Qar (Qav [115,105,103,110]) ?_;refine Qar (Qav [105,110,107]) ?_;refine Qar (Qav [101,110,100]) ?_;refine Qar (Qav [97,110,101,119]) ?_;refine Qar (Qav [115,105,103,110]) Qah;refine QaI ?_;refine Qa3 QdE ?_ (Qad Qan);refine Qad ?_;refine QaO QbW (hr.mono (by decide)) ?_;refine Qau (Qad (Qag 5)) ?_;refine Qau (Qad Qan) Qah;refine Qak ?_ ?_;refine QaU (i:=9) Qbf.nd rfl (.inl rfl) ?_;refine QaW ?_ ?_;refine QaI ?_;refine Qbd 2 ?_;refine Qar (Qav []) ?_;refine Qar ?_ Qah;refine QaW (Qad (Qav [97,98,99])) ?_
 refine QaI ?_;refine Qa3 QdE ?_ (Qad Qan);refine Qad ?_;refine QaO QbW (hr.mono (by decide)) ?_;refine Qau (Qad (Qag 5)) ?_;refine Qau (Qad Qan) Qah;refine QaI ?_;refine Qm1 (ms:=[.s]) (hv:=QnO) Qvp B.int_ ?_;refine Qau ?_ Qah;refine Qad ?_;refine Qw7 ?_ ?_;refine QaV ?_;refine Qf4 (Qbo hr) (Qad (Qag 8)) (Qad (Qav [115,105,103,110])) (QaJ _);refine Qf1 ?_;refine QaV ?_;refine Qf4 (Qbo hr) (Qad (Qag 8)) (Qad (Qav [105,110,107])) (QaJ _);refine Qak ?_ ?_;refine QoX ?_ ?_;refine QaW (Qad (Qag 3)) (Qad (Qag 6));refine Qbh 3 ?_;refine Qar (Qag 4) ?_;refine Qar (Qag 8) ?_;refine Qar (Qag 9) Qah;refine Qak ?_ ?_
 refine QvZ ?_ ?_;refine QaO QeJ (hr.mono (by decide)) ?_;refine Qau ?_ ?_;refine Qad ?_;refine QaW (Qad (Qag 3)) (Qad (Qag 6));refine Qau ?_ Qah;refine Qad ?_;refine QaW (Qap 1) (Qad (Qag 6));refine Qjd 2 rfl ?_;refine QcS (QbI (i:=10) Qbf.nd rfl (.inl rfl)) ?_;refine QcS (QbI (i:=11) Qbf.nd rfl (.inl rfl)) QhW;refine Qao ?_;refine Qa4 ?_ ?_ QaM;refine QdG ?_;refine QbF ?_;refine Qad ?_;refine QaO Qex (hr.mono (by decide)) ?_;refine Qau ?_ ?_;refine QaI ?_;refine QgI QdJ (hr.mono (by decide)) ?_ ?_;refine QaW (Qad (Qag 2)) (Qad (Qag 6));refine Qau ?_ Qah;refine Qad ?_;refine QaW ?_ ?_;refine Qad ?_
 refine QaW (Qad (Qag 3)) (Qad (Qag 6));refine QaI ?_;refine Qqt (Qad Qan);refine Qau ?_ Qah;refine QaI ?_;refine QiC (Qad (Qag 10)) (QjN (Qag 7)) QjI;refine Qao (Qaz QbP);refine Qak ?_ ?_;refine Qh2 rfl ?_ (QbI (i:=6) Qbf.nd rfl (.inl rfl)) ?_;refine Qhg B.range_ ?_;refine Qau (Qad Qan) Qah;refine Qao ?_;refine Qa4 ?_ ?_ QaM;refine QdG ?_;refine QbF ?_;refine Qad ?_;refine QaO QbZ (hr.mono (by decide)) ?_;refine Qau ?_ ?_;refine QaI ?_;refine Qm7 QbR (hr.mono (by decide)) ?_;refine QaW (Qad (Qag 2)) (Qad (Qag 6));refine Qau ?_ Qah;refine Qad ?_;refine QaW ?_ (Qad Qan);refine Qad ?_;refine QaO QeJ (hr.mono (by decide)) ?_
 refine Qau ?_ ?_;refine Qad ?_;refine QaW (Qad (Qag 3)) (Qad (Qag 6));refine Qau ?_ Qah;refine Qad ?_;refine QaW (Qap 1) (Qad (Qag 6));refine Qao (Qaz QbP);refine Qao (Qaz QbP)
abbrev QfO:Stmt:=top 52
theorem QgZ:QaA ["_law_script","_law_cell_here","_law_bad","_law_text","_law_spoilt","_law_good","_law_words"] ["_law_script"] (Qai QfO):=by trivial
def Qms:MS :=
  (Qaj (Qas 1 (Qat Qfa (Qaa (Qab 0) (Qaa (mC (.int 0)) Qae))))
  (Qaj (Qas 2 (Qat QfD (Qaa (Qab 1) Qae)))
  (Qaj (Qas 3 (mSl (mC (.str [119,101,97,118,101])) moN (moS (Qaf Qbz (Qat QaR (Qaa (Qab 1) (Qaa (mC (.int 3)) Qae))) (mC (.int 6))))))
  (Qaj (Qas 4 (Qaf Qce (Qab 3) (mC (.str [126,126]))))
  (Qaj (Qas 5 (Qaf gIx (Qa0 (Qaa (mC (.int 1)) (Qaa (mC (.int 200)) (Qaa (mC (.int 7)) Qae)))) (Qaf Qbz (Qat QaR (Qaa (Qab 1) (Qaa (mC (.int 4)) Qae))) (mC (.int 3)))))
  (Qaj (Qas 6 (Qa0 (Qaa (Qat Qed (Qaa (Qab 2) Qae)) (Qaa (Qat QbC (Qaa (Qab 3) (Qaa (Qab 2) Qae))) (Qaa (Qat QbC (Qaa (Qab 4) (Qaa (Qab 2) Qae))) (Qaa (Qat QbC (Qaa (mC .non) (Qaa (Qab 2) Qae))) Qae))))))
  (Qaj (QaT (QaD (Qaf gNe (Qab 6) (Qaf Qf8 (Qa0 (Qaa (Qbn (Qaa (mC (.str [115,105,122,101])) (Qaa (mC (.int 0)) Qae))) Qae)) (mC (.int 4))))) (Qaw (mC (.bl false))) Qay)
  (Qaj (QaT (QcC (QaD (Qaf gNe (Qat QbC (Qaa (Qab 4) (Qaa (Qab 5) Qae))) (Qbn (Qaa (mC (.str [115,105,103,110])) (Qaa (QaY QbN (Qaa (Qab 3) Qae)) Qae))))) (QaD (Qaf gNe (Qat QbC (Qaa (Qa0 (Qaa (Qab 3) Qae)) (Qaa (Qab 5) Qae))) (Qbn (Qaa (mC (.str [115,105,103,110])) (Qaa (mC (.int 0)) Qae)))))) (Qaw (mC (.bl false))) Qay)
  (Qaj (QaT (QcC (QaD (Qaf gNe (Qat QbC (Qaa (Qab 3) (Qaa (Qab 5) Qae))) (Qbn (Qaa (mC (.str [116,111,108,100])) (Qaa (mC (.int 0)) Qae))))) (QaD (Qaf gNe (Qat Qed (Qaa (Qab 5) Qae)) (Qbn (Qaa (mC (.str [116,111,108,100])) (Qaa (mC (.int 0)) Qae)))))) (Qaw (mC (.bl false))) Qay)
  (Qaw (Qat Qee (Qaa (Qab 0) (Qaa (Qa0 (Qaa (Qaf Qce (mC (.int 1)) (Qaf Qbz (Qat QaR (Qaa (Qab 1) (Qaa (mC (.int 9)) Qae))) (mC (.int 3)))) (Qaa (mC (.int 200)) (Qaa (mC (.int 1)) Qae)))) Qae)))))))))))))
def Qs3:List D→Qac→Res D:=Qa8 7 Qms
abbrev QwM (Pr:Program) (w:World) (K:Frag) (mg:Str→Option Value) (base:Heap):Prop:=Can Pr w K mg base "law" ["_law_script"] 8 (vSp K mg [.s] (rV K) Qs3)
theorem Qu9 (QpE:Def K mg "law" QfO)
  (B:Blt mg)
  (QiO:QkS Pr w K mg base)
  (Qfv:Qh4 Pr w K mg base)
  (QbW:Qhj Pr w K mg base)
  (QgB:QkT Pr w K mg base)
  (QcI:QjX Pr w K mg base)
  (QfA:QhQ Pr w K mg base) :
  QwM Pr w K mg base:=by
 refine Qdu (k:=7) (b:=Qms) QpE QgZ (fun _ _ _ _ _ _=>Qa1 fun _=>QbG rfl) [.s] [.v,.v,.v,.v,.v,.v] Qbr (fun _ _ _ _=>Rp.non) (body:=fun f cdv A outer s H E hr P=>?_);refine Qak ?_ ?_;refine QaU (i:=1) QgZ.nd rfl (.inl rfl) ?_;refine QaO QiO (hr.mono (by decide)) ?_;refine Qau (Qap 0) ?_;refine Qau (Qad Qan) Qah;refine Qak ?_ ?_;refine QaU (i:=2) QgZ.nd rfl (.inl rfl) ?_;refine QaO Qfv (hr.mono (by decide)) ?_;refine Qau (Qad (Qag 1)) Qah;refine Qak ?_ ?_;refine QaU (i:=3) QgZ.nd rfl (.inl rfl) ?_;refine QaV ?_;refine QiC (Qad (Qav [119,101,97,118,101])) QjI ?_;refine QjN ?_;refine QaV ?_;refine Qa3 QdE ?_ (Qad Qan)
 refine Qad ?_;refine QaO QbW (hr.mono (by decide)) ?_;refine Qau (Qad (Qag 1)) ?_;refine Qau (Qad Qan) Qah;refine Qak ?_ ?_;refine QaU (i:=4) QgZ.nd rfl (.inl rfl) ?_;refine QaV ?_;refine Qa3 QdB (Qad (Qag 3)) (Qad (Qav [126,126]));refine Qak ?_ ?_;refine QaU (i:=5) QgZ.nd rfl (.inl rfl) ?_;refine QaW ?_ ?_;refine QaI ?_;refine Qbd 3 ?_;refine Qar Qan ?_;refine Qar Qan ?_;refine Qar Qan Qah;refine QaI ?_;refine Qa3 QdE ?_ (Qad Qan);refine Qad ?_;refine QaO QbW (hr.mono (by decide)) ?_;refine Qau (Qad (Qag 1)) ?_;refine Qau (Qad Qan) Qah;refine Qak ?_ ?_;refine QaU (i:=6) QgZ.nd rfl (.inl rfl) ?_
 refine QaV ?_;refine Qbd 4 ?_;refine Qar ?_ ?_;refine QaO QgB (hr.mono (by decide)) ?_;refine Qau (Qad (Qag 2)) Qah;refine Qar ?_ ?_;refine QaO QcI (hr.mono (by decide)) ?_;refine Qau (Qad (Qag 3)) ?_;refine Qau (Qad (Qag 2)) Qah;refine Qar ?_ ?_;refine QaO QcI (hr.mono (by decide)) ?_;refine Qau (Qad (Qag 4)) ?_;refine Qau (Qad (Qag 2)) Qah;refine Qar ?_ Qah;refine QaO QcI (hr.mono (by decide)) ?_;refine Qau (Qad QnJ) ?_;refine Qau (Qad (Qag 2)) Qah;refine Qak ?_ ?_;refine Qa4 ?_ ?_ QaM;refine QaQ (Qej hr) (Qad (Qag 6)) ?_ (QaJ _);refine QaI ?_;refine Qa3 QnA ?_ (Qad Qan);refine QaI ?_;refine Qbd 1 ?_
 refine Qar ?_ Qah;refine Qbh 2 ?_;refine Qar (Qav [115,105,122,101]) ?_;refine Qar Qan Qah;refine Qao (Qaz QbP);refine Qak ?_ ?_;refine Qa4 ?_ ?_ QaM;refine Qfb ?_;refine QeM ?_ ?_;refine QaQ (Qej hr) ?_ ?_ (QaJ _);refine Qad ?_;refine QaO QcI (hr.mono (by decide)) ?_;refine Qau (Qad (Qag 4)) ?_;refine Qau (Qad (Qag 5)) Qah;refine Qad ?_;refine Qbh 2 ?_;refine Qar (Qav [115,105,103,110]) ?_;refine Qar ?_ Qah;refine QaV ?_;refine Qbt (ms:=[.s]) (hv:=Qb6) Qb9 B.len_ ?_;refine Qau (Qad (Qag 3)) Qah;refine Qe5 ?_;refine QaQ (Qej hr) ?_ ?_ (QaJ _);refine Qad ?_;refine QaO QcI (hr.mono (by decide)) ?_
 refine Qau ?_ ?_;refine QaI ?_;refine Qbd 1 ?_;refine Qar (Qag 3) Qah;refine Qau (Qad (Qag 5)) Qah;refine Qad ?_;refine Qbh 2 ?_;refine Qar (Qav [115,105,103,110]) ?_;refine Qar Qan Qah;refine Qao (Qaz QbP);refine Qak ?_ ?_;refine Qa4 ?_ ?_ QaM;refine Qfb ?_;refine QeM ?_ ?_;refine QaQ (Qej hr) ?_ ?_ (QaJ _);refine Qad ?_;refine QaO QcI (hr.mono (by decide)) ?_;refine Qau (Qad (Qag 3)) ?_;refine Qau (Qad (Qag 5)) Qah;refine Qad ?_;refine Qbh 2 ?_;refine Qar (Qav [116,111,108,100]) ?_;refine Qar Qan Qah;refine Qe5 ?_;refine QaQ (Qej hr) ?_ ?_ (QaJ _);refine Qad ?_;refine QaO QgB (hr.mono (by decide)) ?_
 refine Qau (Qad (Qag 5)) Qah;refine Qad ?_;refine Qbh 2 ?_;refine Qar (Qav [116,111,108,100]) ?_;refine Qar Qan Qah;refine Qao (Qaz QbP);refine Qao ?_;refine Qaz ?_;refine QaO QfA (hr.mono (by decide)) ?_;refine Qau (Qap 0) ?_;refine Qau ?_ Qah;refine QaI ?_;refine Qbd 3 ?_;refine Qar ?_ ?_;refine QaV ?_;refine Qa3 QdB (Qad Qan) ?_;refine QaI ?_;refine Qa3 QdE ?_ (Qad Qan);refine Qad ?_;refine QaO QbW (hr.mono (by decide)) ?_;refine Qau (Qad (Qag 1)) ?_;refine Qau (Qad Qan) Qah;refine Qar Qan ?_;refine Qar Qan Qah
end
structure Okt (t:List Nat):Prop where
 len:t.length≤5000
 ok:∀c∈t,(32≤c∧c≤125)∨c=10∨c=9
theorem Okt.lt {t:List Nat} (h:Okt t):∀c∈t,c < 128:=fun c hc=>by
 have:=h.ok c hc
 omega
theorem Okt.asc {t:List Nat} (h:Okt t):ascii t=true:=by
 unfold ascii;rw [ji];intro c hc;exact zV (h.lt c hc)
@[simp] theorem Qzk {a:Nat}:gIx (.str [a]) (.int 0)=some (.str [a]):=rfl
@[simp] theorem Qze {a b:Nat}:gIx (.str [a,b]) (.int 0)=some (.str [a]):=rfl
@[simp] theorem QzD {a b:Nat}:gIx (.str [a,b]) (.int 1)=some (.str [b]):=rfl
@[simp] theorem Qzm {a b c:Nat}:gIx (.str [a,b,c]) (.int 0)=some (.str [a]):=rfl
@[simp] theorem Qzn {a b c:Nat}:gIx (.str [a,b,c]) (.int 1)=some (.str [b]):=rfl
@[simp] theorem Qzd {a b c:Nat}:gIx (.str [a,b,c]) (.int 2)=some (.str [c]):=rfl
@[simp] theorem Qzv {a b c d:Nat}:gIx (.str [a,b,c,d]) (.int 0)=some (.str [a]):=rfl
@[simp] theorem QzF {a b c d:Nat}:gIx (.str [a,b,c,d]) (.int 1)=some (.str [b]):=rfl
@[simp] theorem QzA {a b c d:Nat}:gIx (.str [a,b,c,d]) (.int 2)=some (.str [c]):=rfl
@[simp] theorem QzE {a b c d:Nat}:gIx (.str [a,b,c,d]) (.int 3)=some (.str [d]):=rfl
@[simp] theorem Qzq {a b:D}:gIx (.tup [a,b]) (.int 0)=some a:=rfl
@[simp] theorem QzH {a b:D}:gIx (.tup [a,b]) (.int 1)=some b:=rfl
@[simp] theorem Qzx {a b c:D}:gIx (.tup [a,b,c]) (.int 0)=some a:=rfl
@[simp] theorem Qy9 {a b c:D}:gIx (.tup [a,b,c]) (.int 1)=some b:=rfl
@[simp] theorem QzG {a b c:D}:gIx (.tup [a,b,c]) (.int 2)=some c:=rfl
theorem Qiy (c:Nat) (O:Qac):Qda [.str [c]] O = .ok (.bl (col c)) O:=by
 simp [Qda,Qhw,col]
theorem QgA (c:Nat) (O:Qac):QeZ [.str [c]] O = .ok (.bl (decide (32≤c∧c≤125))) O:=by
 simp [QeZ,Qi0]
 by_cases h:32≤c <;> simp [h]
theorem Qql {t:List Nat}{d:D}{i:Nat} (h:(Qb2 0 (Qbe t))[i]? = some d):∃c,c∈t∧d = .tup [.int i,.str [c]]:=by
 rw [Qhh] at h;unfold Qbe at h;rw [zJ] at h
 cases q:t[i]? with
 | none=>rw [q] at h; cases h
 | some c =>
  rw [q] at h;simp at h;exact ⟨c,zN q,h.symm⟩
def mkD:Option (List Nat×List Nat)→D
 | some (k,v)=>.tup [.str k,.str v]
 | none=>.non
theorem Qvr (s:List Nat) (h0:1≤s.length) (h4:s.length≤4) (O:Qac):Qd5 [.str s] O = .ok (mkD (markB s)) O:=by
 match s,h0,h4 with
 | [a],_,_=>simp [Qd5,Qe0,markB,mkD]
 | [a,b],_,_ =>
  simp [Qd5,Qe0,markB]
  by_cases h1:a=91∧b=93
  ·simp [h1,mkD,Qcc]
  ·by_cases h2:a=91∧b=91
   ·simp [h2,mkD,QaF]
   ·simp [h1,h2,mkD]
 | [a,b,c],_,_ =>
  simp [Qd5,Qe0,markB,Qiy]
  by_cases h1:a=91
  ·by_cases h2:col b=true
   ·by_cases h3:c=93
    ·simp [h1,h2,h3,mkD,Qcn]
    ·simp [h1,h2,h3,mkD]
   ·simp [h1,h2,mkD]
  ·simp [h1,mkD]
 | [a,b,c,d],_,_ =>
  simp [Qd5,Qe0,markB,Qiy]
  by_cases h1:a=91
  ·by_cases h5:b=47
   ·by_cases h2:col c=true
    ·by_cases h3:d=93
     ·simp [h1,h2,h3,h5,mkD,Qbs]
     ·simp [h1,h2,h3,h5,mkD]
    ·simp [h1,h2,h5,mkD]
   ·simp [h1,h5,mkD]
  ·simp [h1,mkD]
theorem Qwt (s:List Nat) (h0:1≤s.length) (h4:s.length≤4) (O:Qac):QbT [.str s] O = .ok (.bl (QcQ s)) O:=by
 match s,h0,h4 with
 | [a],_,_ =>
  simp [QbT,Qcl,QcQ]
  by_cases h1:a=91 <;> simp [h1]
 | [a,b],_,_ =>
  simp [QbT,Qcl,QcQ,Qiy]
  by_cases h1:a=91
  ·by_cases h2:b=47 <;> simp [h1,h2]
  ·simp [h1]
 | [a,b,c],_,_ =>
  simp [QbT,Qcl,QcQ,Qiy]
  by_cases h1:a=91
  ·by_cases h2:b=47 <;> simp [h1,h2]
  ·simp [h1]
 | [a,b,c,d],_,_ =>
  simp [QbT,Qcl,QcQ]
theorem QwH (p:Int) (c:Nat) (O:Qac):Qfh [.int p,.str [c]] O = .ok (own p c) O:=by
 simp [Qfh,Qii,own,item]
 by_cases h1:c=10
 ·simp [h1,QcB]
 ·by_cases h2:c=9
  ·simp [h1,h2,Qcg]
  ·simp [h1,h2,QaF]
theorem Ql3 (p:Int):∀(l:List Nat) (k:Nat),(Qb2 k (Qbe l)).map (fun d=>match d with | .tup [.int i,.str [c]]=>own (p+i) c | _=>.non)=Qdc (p+k) l
 | [],k=>rfl
 | c::l,k=>by
  show own (p+(k:Int)) c::(Qb2 (k+1) (Qbe l)).map _=own (p+k) c::Qdc (p+k+1) l;rw [Ql3 p l (k+1)];congr 2;omega
theorem Qm9 (p:Int) (l:List Nat) (ha:ascii l=true) (hl:l.length≤100000) (O:Qac):QdK [.int p,.str l] O = .ok (.lst (Qdc p l)) O:=by
 have hl':(Qb2 0 (Qbe l)).length≤1000000:=by rw [Qhb]; unfold Qbe; rw [zD]; omega
 have ec:Qc2 (Qfq 2 (Qa6 (mgN 0) (Qa6 (mgN 1) Qdi))) QgL (Qat Qfh (Qaa (Qaf Qce (Qab 2) (Qab 0)) (Qaa (Qab 1) Qae))) (Qb2 0 (Qbe l)) [none,none,some (.int p)] O [] = .ok (Qdc p l) O:=by
  rw [Qma (fun ρ=>∃a b,ρ = [a,b,some (.int p)]) (fun d=>match d with | .tup [.int i,.str [c]]=>own (p+i) c | _=>.non) _ _ _ _ ⟨none,none,rfl⟩ (by
   rintro d hd ρ ⟨a,b,rfl⟩;obtain ⟨i,hi⟩:=List.mem_iff_getElem?.mp hd;obtain ⟨c,hc,rfl⟩:=Qql hi;refine ⟨_,rfl,⟨_,_,rfl⟩,rfl,?_⟩
   simp [QwH])]
  rw [Ql3 p l 0];simp
 simp [QdK,QhK,QoJ ha,hl',ec]
def RO (h:List Nat) (p:Int):Ob:=.ins "Reader" [("held",.str h),("place",.int p)]
theorem fh {O:Qac}{n:Nat}{h:List Nat}{p:Int} (e:O[n]? = some (RO h p)):QfC ["Reader"] "held" (.ob n) O = .ok (.str h) O:=by
 unfold QfC; dsimp only; rw [e]; rfl
theorem fp {O:Qac}{n:Nat}{h:List Nat}{p:Int} (e:O[n]? = some (RO h p)):QfC ["Reader"] "place" (.ob n) O = .ok (.int p) O:=by
 unfold QfC; dsimp only; rw [e]; rfl
theorem ph {O:Qac}{n:Nat}{h h':List Nat}{p:Int}{ρ:Qal} (e:O[n]? = some (RO h p)):puF ["Reader"] "held" (.str h') ρ (.ok (.ob n) O) = .nx ρ (O.set n (RO h' p)):=by
 unfold puF; dsimp only; rw [e]; rfl
theorem pp {O:Qac}{n:Nat}{h:List Nat}{p p':Int}{ρ:Qal} (e:O[n]? = some (RO h p)):puF ["Reader"] "place" (.int p') ρ (.ok (.ob n) O) = .nx ρ (O.set n (RO h p')):=by
 unfold puF; dsimp only; rw [e]; rfl
theorem gs {O:Qac}{n:Nat}{x y:Ob} (e:O[n]? = some x):(O.set n y)[n]? = some y:=by
 obtain ⟨h,_⟩:=zj.mp e;simp [h]
theorem Qkn {h:List Nat} (H:Held h):ascii h=true:=by
 cases H with
 | h0=>rfl
 | h1=>rfl
 | h2=>rfl
 | h3 x hx =>
  have:x∈[97,98,99,100,101,102,103,104,46]:=jk hx
  have q:∀c∈[97,98,99,100,101,102,103,104,46],c < 128:=by decide
  simp [ascii,q x this]
 | h4 x hx =>
  have:x∈[97,98,99,100,101,102,103,104,46]:=jk hx
  have q:∀c∈[97,98,99,100,101,102,103,104,46],c < 128:=by decide
  simp [ascii,q x this]
theorem QtG {a:List Nat}{c:Nat} (h:ascii a=true) (hc:c < 128):ascii (a ++ [c])=true:=by
 unfold ascii at *;rw [List.all_append,h];simp [hc]
theorem QuX {O:Qac}{n:Nat}{h:List Nat}{p:Int} (e:O[n]? = some (RO h p)) (H:Held h) (c:Nat) (hc:c < 128):Qcm [.ob n,.str [c]] O = .ok (.lst (tk h c (p - h.length)).1) (O.set n (RO (tk h c (p - h.length)).2 (p+1))):=by
 have hl:=H.len;have e1:(O.set n (RO h (p+1)))[n]? = some (RO h (p+1)):=gs e
 have z1:h.length+1≤1000000:=by omega
 have z2:h.length≤1000000:=by omega
 have s0:1≤(h ++ [c]).length:=by simp
 have s4:(h ++ [c]).length≤4:=by simp; omega
 have f1:=Qwt (h ++ [c]) s0 s4;have f2:=Qvr (h ++ [c]) s0 s4
 have f3:=fun O=>Qm9 (p - h.length) h (Qkn H) (by omega) O
 have f4:=fun O=>Qm9 (p - h.length) (h ++ [c]) (QtG (Qkn H) hc) (by omega) O
 unfold tk;simp [Qcm,Qgb,fh e,fp e,pp e,z1,z2,f1]
 by_cases q1:QcQ (h ++ [c])=true
 ·simp [q1,ph e1]
 ·simp [q1,f2]
  cases q2:markB (h ++ [c]) with
  | some kv =>
   obtain ⟨k,v⟩:=kv;simp [mkD,ph e1,item]
  | none =>
   simp [mkD]
   by_cases q3:c=91
   ·subst q3;simp [fh e1,f3,ph e1]
   ·simp [q3,ph e1,f4]
def bC:MS:=(Qaj (Qfc (Qca (QcC (Qbv (Qat QeZ (Qaa (Qab 2) Qae))) (QcC (QaD (Qaf gEq (Qab 2) (mC (.str [10])))) (QaD (Qaf gEq (Qab 2) (mC (.str [9]))))))) (Qaj (QeW "NoSign" "at" (Qab 1))
  Qay) Qay)
  Qay)
def gC:MG:=Qfq 2 (Qa6 (mgN 1) (Qa6 (mgN 2) Qdi))
def okc (c:Nat):Prop:=(32≤c∧c≤125)∨c=10∨c=9
theorem Qnt (c:Nat) (o0 o1:Option D) (O:Qac):∃b,(b=true↔okc c)∧(QcC (Qbv (Qat QeZ (Qaa (Qab 2) Qae))) (QcC (QaD (Qaf gEq (Qab 2) (mC (.str [10])))) (QaD (Qaf gEq (Qab 2) (mC (.str [9])))))) [o0,o1,some (.str [c])] O = .ok b O:=by
 unfold okc
 by_cases h:32≤c∧c≤125
 ·exact ⟨true,by simp [h],by simp [QgA,h]⟩
 ·by_cases h1:c=10
  ·exact ⟨true,by simp [h1],by simp [QgA,h1]⟩
  ·by_cases h2:c=9
   ·exact ⟨true,by simp [h2],by simp [QgA,h2]⟩
   ·have h':32≤c→125 < c:=by omega
    exact ⟨false,by simp [h,h1,h2],by simp [QgA,h,h1,h2]; try exact h'⟩
theorem QoE {c:Nat} (h:okc c) (o0 o1:Option D) (O:Qac):bC [o0,o1,some (.str [c])] O = .nx [o0,o1,some (.str [c])] O:=by
 obtain ⟨b,hb,e⟩:=Qnt c o0 o1 O;have hb':b=true:=hb.mpr h;subst hb';unfold bC;exact QaS (Qs2 (by rw [QeE,e,Qaq]; rfl))
theorem Qtl {c:Nat} (h:¬okc c) {d:D} (o0:Option D) (O:Qac):bC [o0,some d,some (.str [c])] O = .ex ⟨"NoSign",[("at",d)]⟩ O:=by
 obtain ⟨b,hb,e⟩:=Qnt c o0 (some d) O
 have hb':b=false:=by
  cases b with
  | true=>exact absurd (hb.mp rfl) h
  | false=>rfl
 subst hb';unfold bC;exact Qfg ((QmE (by rw [QeE,e,Qaq]; rfl)).trans (Qfg (Qq3 rfl)))
theorem QpK (o0 o1 o2:Option D) (d e:D):gC (.tup [d,e]) [o0,o1,o2]=some [o0,some d,some e]:=rfl
theorem Qm5:∀(t:List Nat) (k:Nat) (o0 o1 o2:Option D) (O:Qac),(∀c∈t,okc c)→∃o1' o2',Qa5 gC bC (Qb2 k (Qbe t)) [o0,o1,o2] O = .nx [o0,o1',o2'] O
 | [],k,o0,o1,o2,O,_=>⟨o1,o2,rfl⟩
 | c::t,k,o0,o1,o2,O,h=>by
  obtain ⟨o1',o2',e⟩:=Qm5 t (k+1) o0 (some (.int k)) (some (.str [c])) O fun x hx=>h x (zv _ hx)
  refine ⟨o1',o2',?_⟩;show Qa5 gC bC (.tup [.int k,.str [c]]::Qb2 (k+1) (Qbe t)) [o0,o1,o2] O=_;unfold Qa5;rw [QpK];dsimp only;rw [QoE (h c zB)];exact e
theorem Qjz {x:Nat} (hx:¬okc x) (b:List Nat):∀(a:List Nat) (k:Nat) (o0 o1 o2:Option D) (O:Qac),(∀c∈a,okc c)→Qa5 gC bC (Qb2 k (Qbe (a++x::b))) [o0,o1,o2] O = .ex ⟨"NoSign",[("at",.int ((k+a.length:Nat):Int))]⟩ O
 | [],k,o0,o1,o2,O,_=>by
  show Qa5 gC bC (.tup [.int k,.str [x]]::Qb2 (k+1) (Qbe b)) [o0,o1,o2] O=_;unfold Qa5;rw [QpK];dsimp only;rw [Qtl hx];rfl
 | c::a,k,o0,o1,o2,O,h=>by
  have e:=Qjz hx b a (k+1) o0 (some (.int k)) (some (.str [c])) O fun y hy=>h y (zv _ hy)
  show Qa5 gC bC (.tup [.int k,.str [c]]::Qb2 (k+1) (Qbe (a++x::b))) [o0,o1,o2] O=_;unfold Qa5;rw [QpK];dsimp only;rw [QoE (h c zB)];dsimp only;rw [e,show k+1+a.length=k+(c::a).length by rw [zq]; omega]
theorem Qoh (t:List Nat) (o1 o2:Option D) (O:Qac):Qca (Qbv (Qds "str" (Qab 0))) [some (.str t),o1,o2] O = .ok false O:=rfl
theorem QoN {t:List Nat} (ha:ascii t=true) (o1 o2:Option D) (O:Qac):QiJ (Qab 0) [some (.str t),o1,o2] O = .ok (Qb2 0 (Qbe t)) O:=by
 rw [QvM,Qbm];exact QoJ ha
theorem Qqu (t:List Nat) (h:Okt t) (O:Qac):QcF [.str t] O = .ok .non O:=by
 obtain ⟨o1,o2,e⟩:=Qm5 t 0 (some (.str t)) none none O h.ok;show QbA (Qdr [some (.str t),none,none] O)=_;unfold Qdr;rw [QaS (QmN (Qoh t none none O))];show QbA (Qaj (QeH (QiJ (Qab 0)) gC bC) Qay [some (.str t),none,none] O)=_;rw [QaS ((QrL (QoN h.asc none none O)).trans e)];rfl
theorem Qmh {a b:List Nat}{x:Nat} (hx:¬okc x) (ha:∀c∈a,okc c) (hs:ascii (a++x::b)=true) (O:Qac):QcF [.str (a++x::b)] O = .ex ⟨"NoSign",[("at",.int (a.length:Int))]⟩ O:=by
 have e:=Qjz hx b a 0 (some (.str (a++x::b))) none none O ha;rw [Nat.zero_add] at e;show QbA (Qdr [some (.str (a++x::b)),none,none] O)=_;unfold Qdr;rw [QaS (QmN (Qoh _ none none O))];show QbA (Qaj (QeH (QiJ (Qab 0)) gC bC) Qay [some (.str (a++x::b)),none,none] O)=_;rw [Qfg ((QrL (QoN hs none none O)).trans e)];rfl
theorem QnI {d:D}{O:Qac} (h:Qds "str" (Qab 0) [some d,none,none] O = .ok (.bl false) O):QcF [d] O = .ex ⟨"NoSign",[("at",.int 0)]⟩ O:=by
 show QbA (Qdr [some d,none,none] O)=_;unfold Qdr;rw [Qfg ((QmE (O':=O) (by rw [QeE,Qgq,h]; rfl)).trans (Qfg (Qq3 rfl)))];rfl
theorem Qke:∀(l:List Nat) (p:Int),(Qdc p l).length=l.length
 | [],_=>rfl
 | c::l,p=>by show (Qdc (p+1) l).length+1=l.length+1; rw [Qke l]
theorem QqA {h:List Nat} (H:Held h) (c:Nat) (p:Int):(tk h c p).1.length≤4:=by
 have:=H.len
 unfold tk
 split
 ·simp
 ·split
  ·simp
  ·split <;> simp [Qke] <;> omega
theorem Qnc:∀(t:List Nat) {h:List Nat} (_:Held h) (p:Int),(QbU h p t).1.length≤4 * t.length
 | [],h,H,p=>by simp [QbU]
 | c::t,h,H,p=>by
  have a:=QqA H c (p - h.length);have b:=Qnc t (Qiv H c (p - h.length) []).1 (p+1);simp only [QbU,zu,zq];omega
theorem QrY {O:Qac}{n:Nat}{x y:Ob}:(O.set n x).set n y=O.set n y:=by simp
def bT:MS:=(Qaj (msN (Qgv 2 (Qbq "Reader" "take" Qcm (Qab 0) (Qaa (Qab 3) Qae))))
  Qay)
theorem QlJ {n:Nat}{t0:List Nat}:∀(t:List Nat) (h:List Nat) (_:Held h) (p:Int) (acc:List D) (O:Qac) (o3:Option D),O[n]? = some (RO h p)→(∀c∈t,c < 128)→acc.length+4 * t.length≤1000000 →
  ∃o3',Qa5 (mgN 3) bT (Qbe t) [some (.ob n),some (.str t0),some (.lst acc),o3] O = .nx [some (.ob n),some (.str t0),some (.lst (acc++(QbU h p t).1)),o3'] (O.set n (RO (QbU h p t).2 (p+t.length)))
 | [],h,H,p,acc,O,o3,e,_,_=>by
  refine ⟨o3,?_⟩;obtain ⟨hn,e'⟩:=zj.mp e;show Fl.nx _ O=_;simp only [QbU,zG,zI]
  have:O.set n (RO h p)=O:=by rw [←e']; exact List.set_getElem_self _
  simp [this]
 | c::t,h,H,p,acc,O,o3,e,hc,hl=>by
  have et:=QuX e H c (hc c zB)
  have hm:meF "Reader" "take" Qcm (Qaa (Qab 3) Qae [some (.ob n),some (.str t0),some (.lst acc),some (.str [c])]) (.ob n) O=Qcm [.ob n,.str [c]] O:=by
   unfold meF;dsimp only;rw [e];rfl
  have tl:=QqA H c (p - h.length);simp only [zq] at hl;obtain ⟨o3',q⟩:=QlJ t (tk h c (p - h.length)).2 (Qiv H c (p - h.length) []).1 (p+1) (acc++(tk h c (p - h.length)).1) (O.set n (RO (tk h c (p - h.length)).2 (p+1))) (some (.str [c])) (gs e) (fun d hd=>hc d (zv _ hd)) (by rw [zu]; omega);refine ⟨o3',?_⟩
  have eb:bT [some (.ob n),some (.str t0),some (.lst acc),some (.str [c])] O = .nx [some (.ob n),some (.str t0),some (.lst (acc++(tk h c (p - h.length)).1)),some (.str [c])] (O.set n (RO (tk h c (p - h.length)).2 (p+1))):=by
   unfold bT;refine QaS (QfN ?_);rw [QqM,QeC,Qbm];show exF 2 (meF "Reader" "take" Qcm _ (.ob n) O) _=_;rw [hm,et,Qqc (ds:=acc) rfl (by omega)];rfl
  show Qa5 _ _ (D.str [c]::Qbe t) _ O=_;unfold Qa5;rw [mg_n];dsimp only
  show (match bT [some (.ob n),some (.str t0),some (.lst acc),some (.str [c])] O with
   | .nx ρ' O'=>Qa5 _ _ (Qbe t) ρ' O' | .ct ρ' O'=>Qa5 _ _ (Qbe t) ρ' O' | .bk ρ' O'=>Fl.nx ρ' O' | r=>r)=_
  rw [eb];dsimp only;rw [q,QrY];simp only [QbU,zU,zq];congr 3
  push_cast
  omega
theorem Qvf {O:Qac}{n:Nat}{h:List Nat}{p:Int} (e:O[n]? = some (RO h p)) (H:Held h) (t:List Nat) (ht:Okt t):QeO [.ob n,.str t] O = .ok (.lst (QbU h p t).1) (O.set n (RO (QbU h p t).2 (p+t.length))):=by
 have hl:=ht.len;obtain ⟨o3,q⟩:=QlJ (t0:=t) t h H p [] O none e ht.lt (by simp; omega);rw [jc] at q;show QbA (QcZ [some (.ob n),some (.str t),none,none] O)=_;unfold QcZ
 rw [QaS (Qxe ((Qix (show Qaa (Qab 1) Qae [some (.ob n),some (.str t),none,none] O = .ok [.str t] O from rfl)).trans (Qqu t ht O))),
  QaS (QfN (show Qas 2 (Qa0 Qae) [some (.ob n),some (.str t),none,none] O = .nx [some (.ob n),some (.str t),some (.lst []),none] O from rfl))]
 show QbA (Qaj (QeH (Qfj (Qab 1)) (mgN 3) bT) (Qaj (msN (Qaw (Qab 2))) Qay) [some (.ob n),some (.str t),some (.lst []),none] O)=_
 rw [QaS ((QrL (show Qfj (Qab 1) [some (.ob n),some (.str t),some (.lst []),none] O = .ok (Qbe t) O by rw [QuE,Qbm]; show itF (Qhn (.str t)) O=_; rw [QqO ht.asc]; rfl)).trans q),
  Qhd (Qp4 (show Qaw (Qab 2) [some (.ob n),some (.str t),some (.lst (QbU h p t).1),o3] (O.set n (RO (QbU h p t).2 (p+t.length))) = .rt (.lst (QbU h p t).1) (O.set n (RO (QbU h p t).2 (p+t.length))) from rfl))]
 rfl
theorem Qrx {O:Qac}{n:Nat}{d:D}{x:Xc} (e:QcF [d] O = .ex x O):QeO [.ob n,d] O = .ex x O:=by
 show QbA (QcZ [some (.ob n),some d,none,none] O)=_;unfold QcZ;rw [Qfg (Qsa ((Qix (show Qaa (Qab 1) Qae [some (.ob n),some d,none,none] O = .ok [d] O from rfl)).trans e))];rfl
theorem QrV {O:Qac}{n:Nat}{h:List Nat}{p:Int} (e:O[n]? = some (RO h p)) (H:Held h):QdU [.ob n] O = .ok (.lst (Qdc (p - h.length) h)) (O.set n (RO [] p)):=by
 have hl:=H.len
 have z2:h.length≤1000000:=by omega
 have f3:=fun O=>Qm9 (p - h.length) h (Qkn H) (by omega) O
 simp [QdU,Qe7,fh e,fp e,z2,f3,ph e]
theorem Qv6 (O:Qac):Qcj [.ob O.length] (O ++ [.ins "Reader" []]) = .ok .non (O ++ [RO [] 0]):=by
 have a:(O ++ [Ob.ins "Reader" []])[O.length]? = some (.ins "Reader" []):=by simp
 have s1:∀ρ,puF ["Reader"] "held" (.str []) ρ (.ok (.ob O.length) (O ++ [.ins "Reader" []])) = .nx ρ (O ++ [.ins "Reader" [("held",.str [])]]):=fun ρ=>by
  unfold puF;dsimp only;rw [a];dsimp only;rw [if_pos (by decide)];simp [putD]
 have b:(O ++ [Ob.ins "Reader" [("held",.str [])]])[O.length]? = some (.ins "Reader" [("held",.str [])]):=by simp
 have s2:∀ρ,puF ["Reader"] "place" (.int 0) ρ (.ok (.ob O.length) (O ++ [.ins "Reader" [("held",.str [])]])) = .nx ρ (O ++ [RO [] 0]):=fun ρ=>by
  unfold puF;dsimp only;rw [b];dsimp only;rw [if_pos (by constructor <;> decide)]
  have:putD "place" (.int 0) [("held",.str [])] = [(("held":Str),D.str []),("place",.int 0)]:=by rfl
  rw [this];simp [RO]
 simp [Qcj,Qen,s1,s2]
theorem QwV (ρ:Qal) (O:Qac):Qc7 "Reader" Qcj Qae ρ O = .ok (.ob O.length) (O ++ [RO [] 0]):=by
 simp [Qv6]
theorem Qk5 (O:Qac):(O ++ [RO [] 0])[O.length]? = some (RO [] 0):=by simp
theorem Qvv {cf:List D→Qac→Res D}{m:Str}{ma:Qac→Res (List D)}{n:Nat}{O:Qac}{h:List Nat}{p:Int} (hm:m≠"held") (hm':m≠"place") (e:O[n]? = some (RO h p)):meF "Reader" m cf ma (.ob n) O=(ma O).bind fun ds O2=>cf (.ob n::ds) O2:=by
 unfold meF;dsimp only;rw [e];dsimp only [RO];rw [if_pos];refine ⟨rfl,?_⟩
 have a:(m == ("held":Str))=false:=by simpa using hm
 have b:(m == ("place":Str))=false:=by simpa using hm'
 simp [List.lookup,a,b]
theorem Qow {m:Str} (hm:m≠"held") (hm':m≠"place") (h:List Nat) (p:Int):(List.lookup m [(("held":Str),D.str h),("place",.int p)]).isNone=true:=by
 have a:(m == ("held":Str))=false:=by simpa using hm
 have b:(m == ("place":Str))=false:=by simpa using hm'
 simp [List.lookup,a,b]
theorem Qqk (d:D) (O:Qac):Qas 1 (Qc7 "Reader" Qcj Qae) [some d,none,none] O = .nx [some d,some (.ob O.length),none] (O ++ [RO [] 0]):=by
 rw [QdC,QwV,QcY];rfl
theorem QpN (t:List Nat) (ht:Okt t) (O:Qac):∃O',Qfp [.str t] O = .ok (.lst (items 0 t)) O'∧∀(n:Nat) (x:Ob),O[n]? = some x→O'[n]? = some x:=by
 obtain ⟨H,q⟩:=QtY t;have f1:=Qvf (Qk5 O) Held.h0 t ht;have e2:((O ++ [RO [] 0]).set O.length (RO (QbU [] 0 t).2 (0+t.length)))[O.length]? = some (RO (QbU [] 0 t).2 (0+t.length)):=gs (Qk5 O);have f2:=QrV e2 H;have hl:=ht.len;have l1:=Qnc t Held.h0 0;have l2:=H.len
 have z:(QbU [] 0 t).1.length+(Qdc (0+(t.length:Int) - ((QbU [] 0 t).2.length:Int)) (QbU [] 0 t).2).length≤1000000:=by
  rw [Qke]; omega
 rw [q];have z':=Int.zero_add (t.length:Int);rw [z'] at f1 f2 e2 z
 refine ⟨((O ++ [RO [] 0]).set O.length (RO (QbU [] 0 t).2 t.length)).set O.length (RO [] t.length),?_,fun n x h=>by
  have hl:=(zj.mp h).1;rw [ze (by omega),ze (by omega),zt hl]
  exact h⟩
 show QbA (Qea [some (.str t),none,none] O)=_;unfold Qea;rw [QaS (QfN (Qqk _ O)),QaS (Qse ((QsO (ds:=[.str t]) (n:=O.length) (O1:=O ++ [RO [] 0]) (O2:=O ++ [RO [] 0]) rfl (Qk5 O) (Qow (by decide) (by decide) _ _) rfl).trans f1))];refine congrArg QbA (Qhd (Qp4 ?_));simp only [QcP,Qd9,Qbm,QeC,zS,zT,zp,zx,Qaq,Qvv (show ("finish":Str)≠"held" by decide) (by decide) e2,QbO,f2,QfW,Quz,if_pos z,QbS,Qco]
theorem Qo1 {d:D}{x:Xc}{O:Qac} (e:QcF [d] (O ++ [RO [] 0]) = .ex x (O ++ [RO [] 0])):Qfp [d] O = .ex x (O ++ [RO [] 0]):=by
 show QbA (Qea [some d,none,none] O)=_;unfold Qea;rw [QaS (QfN (Qqk _ O)),Qfg (Qoo ((QsO (ds:=[d]) (n:=O.length) (O1:=O ++ [RO [] 0]) (O2:=O ++ [RO [] 0]) rfl (Qk5 O) (Qow (by decide) (by decide) _ _) rfl).trans (Qrx e)))];rfl
abbrev LT:=Nat×Nat×Nat×Int
def dL (x:LT):D:=.tup [.str [x.1],.str [x.2.1],.str [x.2.2.1],.int x.2.2.2]
def OkL (x:LT):Prop:=x.1≤125∧x.2.1≤125∧x.2.2.1≤125
theorem Qrp {x:LT} (h:OkL x):Qc4 (dL x)=true∧(toP (dL x)).canLay0=true∧(toP (dL x)).depth≤5:=by
 obtain ⟨h1,h2,h3⟩:=h;refine ⟨rfl,?_,?_⟩
 ·have a:=QhP (l:=[x.1]) (by simp; omega);have b:=QhP (l:=[x.2.1]) (by simp; omega);have c:=QhP (l:=[x.2.2.1]) (by simp; omega);show PyData.canLay0 (.tuple [.str (S [x.1]),.str (S [x.2.1]),.str (S [x.2.2.1]),.int x.2.2.2])=true;simp [PyData.canLay0,PyData.canLayAll0] at *
  try exact ⟨a,b,c⟩
 ·show PyData.depth (.tuple [.str (S [x.1]),.str (S [x.2.1]),.str (S [x.2.2.1]),.int x.2.2.2])≤5;simp [PyData.depth,PyData.depthAll]
theorem QjU (l:List LT) (h:∀x∈l,OkL x):okE (.lst (l.map dL))=true:=Qov (n:=5) (by decide) fun d hd=>by
 obtain ⟨x,hx,rfl⟩:=zZ.mp hd;exact Qrp (h x hx)
def QaC:List Nat:=[119,104,111,108,101]
def Qcf:List Nat:=[109,111,114,101]
def mkO (M:Int) (lw:List Nat) (n:Nat) (i g:Nat) (st:Bool):Ob:=.ins "Maker" [("most",.int M),("last_word",.str lw),("letters",.ob n),("pair",.tup [.str [i],.str [g]]),("stale",.bl st)]
section
variable {O:Qac}{o n i g:Nat}{M:Int}{lw:List Nat}{st:Bool}
theorem fM (e:O[o]? = some (mkO M lw n i g st)):QfC ["Maker"] "most" (.ob o) O = .ok (.int M) O:=by
 unfold QfC; dsimp only; rw [e]; rfl
theorem fL (e:O[o]? = some (mkO M lw n i g st)):QfC ["Maker"] "letters" (.ob o) O = .ok (.ob n) O:=by
 unfold QfC; dsimp only; rw [e]; rfl
theorem fP (e:O[o]? = some (mkO M lw n i g st)):QfC ["Maker"] "pair" (.ob o) O = .ok (.tup [.str [i],.str [g]]) O:=by
 unfold QfC; dsimp only; rw [e]; rfl
theorem fS (e:O[o]? = some (mkO M lw n i g st)):QfC ["Maker"] "stale" (.ob o) O = .ok (.bl st) O:=by
 unfold QfC; dsimp only; rw [e]; rfl
theorem pW {ρ:Qal}{w:List Nat} (e:O[o]? = some (mkO M lw n i g st)):puF ["Maker"] "last_word" (.str w) ρ (.ok (.ob o) O) = .nx ρ (O.set o (mkO M w n i g st)):=by
 unfold puF; dsimp only; rw [e]; rfl
theorem pL {ρ:Qal}{m:Nat} (e:O[o]? = some (mkO M lw n i g st)):puF ["Maker"] "letters" (.ob m) ρ (.ok (.ob o) O) = .nx ρ (O.set o (mkO M lw m i g st)):=by
 unfold puF; dsimp only; rw [e]; rfl
theorem pP {ρ:Qal}{i' g':Nat} (e:O[o]? = some (mkO M lw n i g st)):puF ["Maker"] "pair" (.tup [.str [i'],.str [g']]) ρ (.ok (.ob o) O) = .nx ρ (O.set o (mkO M lw n i' g' st)):=by
 unfold puF; dsimp only; rw [e]; rfl
theorem pS {ρ:Qal}{b:Bool} (e:O[o]? = some (mkO M lw n i g st)):puF ["Maker"] "stale" (.bl b) ρ (.ok (.ob o) O) = .nx ρ (O.set o (mkO M lw n i g b)):=by
 unfold puF; dsimp only; rw [e]; rfl
theorem gs' {x y:Ob} (e:O[o]? = some x):(O.set o y)[o]? = some y:=by
 obtain ⟨h,_⟩:=zj.mp e;simp [h]
theorem ap1 {x y:Ob} (e:O[o]? = some x):(O ++ [y])[o]? = some x:=by
 rw [zt (zj.mp e).1]; exact e
theorem apN {y:Ob}:(O ++ [y])[O.length]? = some y:=by simp
@[simp] theorem QrG {m:L2.M D}{ρ:Qal}:mMl m ρ O=(m ρ O).bind fun d O1=>match d with
 | .lst ds=>.ok (.ob O1.length) (O1 ++ [.ml ds])
 | d=>.ok d O1:=rfl
theorem QiI {cf:List D→Qac→Res D}{m:Str}{ma:Qac→Res (List D)} (h1:m≠"most") (h2:m≠"last_word") (h3:m≠"letters") (h4:m≠"pair") (h5:m≠"stale") (e:O[o]? = some (mkO M lw n i g st)):meF "Maker" m cf ma (.ob o) O=(ma O).bind fun ds O2=>cf (.ob o::ds) O2:=by
 unfold meF;dsimp only;rw [e];dsimp only [mkO];rw [if_pos];refine ⟨rfl,?_⟩
 have a1:(m == ("most":Str))=false:=by simpa using h1
 have a2:(m == ("last_word":Str))=false:=by simpa using h2
 have a3:(m == ("letters":Str))=false:=by simpa using h3
 have a4:(m == ("pair":Str))=false:=by simpa using h4
 have a5:(m == ("stale":Str))=false:=by simpa using h5
 simp [List.lookup,a1,a2,a3,a4,a5]
theorem Qqh {w:List Nat} (e:O[o]? = some (mkO M lw n i g st)):QcN [.ob o,.str w] O = .ok (.lst [.tup [.ob n,.str w]]) ((O ++ [Ob.ml []]).set o (mkO M w O.length i g st)):=by
 have e1:(O ++ [Ob.ml []])[o]? = some (mkO M lw n i g st):=ap1 e;have e2:((O ++ [Ob.ml []]).set o (mkO M lw O.length i g st))[o]? = some (mkO M lw O.length i g st):=gs' e1;simp [QcN,QgR,fL e,pL e1,pW e2]
theorem QtR (e:O[o]? = some (mkO M lw n i g st)):QbD [.ob o] O = .ok .non (if st=true then (O ++ [Ob.ml []]).set o (mkO M lw O.length i g false) else O):=by
 have e1:(O ++ [Ob.ml []])[o]? = some (mkO M lw n i g st):=ap1 e;have e2:((O ++ [Ob.ml []]).set o (mkO M lw O.length i g st))[o]? = some (mkO M lw O.length i g st):=gs' e1
 cases st with
 | true=>simp [QbD,QcT,fS e,pL e1,pS e2]
 | false=>simp [QbD,QcT,fS e]
theorem Qlz {mo m:L2.M D}{ρ:Qal}{ds:List D}{d:D} (h1:mo ρ O = .ok (.ob n) O) (h2:O[n]? = some (.ml ds)) (h3:m ρ O = .ok d O) (h4:ds.length < 1000000):QfT mo m ρ O = .nx ρ (O.set n (.ml (ds ++ [d]))):=by
 unfold QfT;rw [h1];dsimp only;rw [h2];dsimp only;rw [h3];dsimp only;rw [h2];dsimp only;rw [if_pos h4]
theorem Qiz {ds:List D} (h:O[n]? = some (.ml ds)):QaL O (.ob n) = .lst ds:=by
 unfold QaL;dsimp only;rw [h]
end
structure Sta where
 row:List LT
 st:Bool
 i:Nat
 g:Nat
structure OkS (M:Int) (s:Sta):Prop where
 len:(s.row.length:Int)≤M
 ok:∀x∈s.row,OkL x
 i:s.i≤125
 g:s.g≤125
def Mk (O:Qac) (o:Nat) (M:Int) (lw:List Nat) (s:Sta):Prop:=∃n,O[o]? = some (mkO M lw n s.i s.g s.st)∧O[n]? = some (.ml (s.row.map dL))
def Prt (O:Qac) (told:List D) (due:List (List LT×List Nat)):Prop:=(told = []∧due = [])∨∃n r w,told = [.tup [.ob n,.str w]]∧due = [(r,w)]∧O[n]? = some (.ml (r.map dL))∧(w=QaC∨w=Qcf)∧(∀x∈r,OkL x)∧r.length≤1000
inductive Itm:List Nat→List Nat→Prop where
 | anew:Itm Qcg []
 | end_:Itm QcB []
 | plain:Itm Qcc []
 | ink (c:Nat) (h:c≤125):Itm Qcn [c]
 | ground (c:Nat) (h:c≤125):Itm Qbs [c]
 | sign (c:Nat) (h:c≤125):Itm QaF [c]
def bare (s:Sta):List LT:=if s.st=true then [] else s.row
def stS (M:Int) (s:Sta) (p:Int) (c:Nat):Sta:=if ((bare s).length:Int)=M then ⟨[(c,s.i,s.g,p)],false,s.i,s.g⟩ else ⟨bare s ++ [(c,s.i,s.g,p)],false,s.i,s.g⟩
def Qhp (M:Int) (s:Sta):List (List LT×List Nat):=if ((bare s).length:Int)=M then [(bare s,Qcf)] else []
def stp (M:Int) (s:Sta) (p:Int) (k v:List Nat):Sta :=
 if k=Qcg then ⟨s.row,true,46,46⟩ else if k=QcB then ⟨[],false,46,46⟩ else if k=QaF then stS M s p (v.headD 0) else if k=Qcn then ⟨bare s,false,v.headD 0,s.g⟩ else if k=Qbs then ⟨bare s,false,s.i,v.headD 0⟩ else ⟨bare s,false,46,46⟩
def due (M:Int) (s:Sta) (k:List Nat):List (List LT×List Nat):=if k=QcB then [(s.row,QaC)] else if k=QaF then Qhp M s else []
def lwS (M:Int) (s:Sta) (lw k:List Nat):List Nat:=match due M s k with
 | [(_,w)]=>w
 | _=>lw
def Qbw (x:List LT×List Nat):D:=.tup [.lst (x.1.map dL),.str x.2]
@[simp] theorem QzI {i j k:Nat}{a b c:D}{ρ:Qal}:Qfq 3 (Qa6 (mgN i) (Qa6 (mgN j) (Qa6 (mgN k) Qdi))) (.tup [a,b,c]) ρ=some (((ρ.set i (some a)).set j (some b)).set k (some c)):=rfl
section
variable {O:Qac}{o n i g:Nat}{M:Int}{lw:List Nat}{st:Bool}
theorem Qkp {x:Ob} (e:O[o]? = some x):o < O.length:=(zj.mp e).1
theorem QwP {ds:List D}{p:Int}{c:Nat} (e:O[o]? = some (mkO M lw n i g st)) (el:O[n]? = some (.ml ds)) (hl:ds.length < 1000000) :
  Qcx [.ob o,item p QaF [c]] O=if (ds.length:Int)=M then .ok (.lst [.tup [.ob n,.str Qcf]]) (((O ++ [Ob.ml []]).set o (mkO M Qcf O.length i g st)).set O.length (.ml [dL (c,i,g,p)])) else .ok (.lst []) (O.set n (.ml (ds ++ [dL (c,i,g,p)]))):=by
 have ed:=Qiz el
 have pre:∀(ρ:Qal) (O':Qac) (n':Nat) (lw':List Nat),O'[o]? = some (mkO M lw' n' i g st)→∀a2,(Qbn (Qaa (Qaf gIx (Qab 1) (mC (.int 2))) (Qaa (Qaf gIx (Qb0 ["Maker"] "pair" (Qab 0)) (mC (.int 0))) (Qaa (Qaf gIx (Qb0 ["Maker"] "pair" (Qab 0)) (mC (.int 1))) (Qaa (Qaf gIx (Qab 1) (mC (.int 0))) Qae))))) [some (.ob o),some (item p QaF [c]),a2] O' = .ok (dL (c,i,g,p)) O':=fun ρ O' n' lw' h a2=>by
  have i0:gIx (.tup [.int p,.str QaF,.str [c]]) (.int 2)=some (.str [c]):=rfl;have i1:gIx (.tup [.int p,.str QaF,.str [c]]) (.int 0)=some (.int p):=rfl;have i2:gIx (.tup [.str [i],.str [g]]) (.int 0)=some (.str [i]):=rfl;have i3:gIx (.tup [.str [i],.str [g]]) (.int 1)=some (.str [g]):=rfl;simp [item,fP h,i0,i1,i2,i3,dL]
 by_cases hm:(ds.length:Int)=M
 ·rw [if_pos hm];have et:=Qqh (w:=Qcf) e;have e1:((O ++ [Ob.ml []]).set o (mkO M Qcf O.length i g st))[o]? = some (mkO M Qcf O.length i g st):=gs' (ap1 e)
  have e2:((O ++ [Ob.ml []]).set o (mkO M Qcf O.length i g st))[O.length]? = some (.ml []):=by
   rw [ze (zl (Qkp e))]; exact apN
  have ea:=Qlz (mo:=Qb0 ["Maker"] "letters" (Qab 0)) (m:=Qbn (Qaa (Qaf gIx (Qab 1) (mC (.int 2))) (Qaa (Qaf gIx (Qb0 ["Maker"] "pair" (Qab 0)) (mC (.int 0))) (Qaa (Qaf gIx (Qb0 ["Maker"] "pair" (Qab 0)) (mC (.int 1))) (Qaa (Qaf gIx (Qab 1) (mC (.int 0))) Qae))))) (ρ:=[some (.ob o),some (item p QaF [c]),some (.lst [.tup [.ob n,.str Qcf]])]) (by simp [fL e1]) e2 (pre [] _ _ _ e1 _) (by simp)
  have c1:(QaD (Qaf gEq (QaY QbN (Qaa (Qb0 ["Maker"] "letters" (Qab 0)) Qae)) (Qb0 ["Maker"] "most" (Qab 0)))) [some (.ob o),some (item p QaF [c]),some (.lst [])] O = .ok true O:=by
   simp [fL e,fM e,ed,hm]
  have c2:(Qbq "Maker" "tell" QcN (Qab 0) (Qaa (mC (.str [109,111,114,101])) Qae)) [some (.ob o),some (item p QaF [c]),some (.lst [])] O = .ok (.lst [.tup [.ob n,.str Qcf]]) ((O ++ [Ob.ml []]).set o (mkO M Qcf O.length i g st)):=by
   rw [QeC];simp only [Qbm,zp,Qaq,QiI (m:="tell") (by decide) (by decide) (by decide) (by decide) (by decide) e,QcM,QbO,m_c];exact et
  show QbA (Qb7 [some (.ob o),some (item p QaF [c]),none] O)=_;unfold Qb7;simp only [Qcz,QdC,QeL,QbO,Qaq,zI,Nat.zero_le,if_true,QcY,Qcp,zS,zT,Qd8,c1,Qdk,c2,ea,QcP,Qbm,zx,zp,Qco,QgJ,jc]
 ·rw [if_neg hm];have ea:=Qlz (mo:=Qb0 ["Maker"] "letters" (Qab 0)) (m:=Qbn (Qaa (Qaf gIx (Qab 1) (mC (.int 2))) (Qaa (Qaf gIx (Qb0 ["Maker"] "pair" (Qab 0)) (mC (.int 0))) (Qaa (Qaf gIx (Qb0 ["Maker"] "pair" (Qab 0)) (mC (.int 1))) (Qaa (Qaf gIx (Qab 1) (mC (.int 0))) Qae))))) (ρ:=[some (.ob o),some (item p QaF [c]),some (.lst [])]) (by simp [fL e]) el (pre [] _ _ _ e _) hl
  have c1:(QaD (Qaf gEq (QaY QbN (Qaa (Qb0 ["Maker"] "letters" (Qab 0)) Qae)) (Qb0 ["Maker"] "most" (Qab 0)))) [some (.ob o),some (item p QaF [c]),some (.lst [])] O = .ok false O:=by
   simp [fL e,fM e,ed,hm]
  show QbA (Qb7 [some (.ob o),some (item p QaF [c]),none] O)=_;unfold Qb7;simp only [Qcz,QdC,QeL,QbO,Qaq,zI,Nat.zero_le,if_true,QcY,Qcp,zS,zT,Qd8,c1,Qdk,Bool.false_eq_true,if_false,QeI,ea,QcP,Qbm,zx,zp,Qco,QgJ]
theorem Qvm {i g:Nat}{k v:List Nat} (h:Itm k v) (O:Qac):QdF [.tup [.str [i],.str [g]],.str k,.str v] O = .ok (if k=Qcn then .tup [.str [v.headD 0],.str [g]] else if k=Qbs then .tup [.str [i],.str [v.headD 0]] else if k=QaF then .tup [.str [i],.str [g]] else .tup [.str [46],.str [46]]) O:=by
 have i2:gIx (.tup [.str [i],.str [g]]) (.int 0)=some (.str [i]):=rfl;have i3:gIx (.tup [.str [i],.str [g]]) (.int 1)=some (.str [g]):=rfl
 cases h <;> simp [QdF,Qgc,Qcg,QcB,QaF,Qcn,Qbs,Qcc,i2,i3]
theorem Qqn {ds:List D} (e:O[o]? = some (mkO M lw n i g st)) (el:O[n]? = some (.ml ds)):Qbc [.ob o] O = .ok (.lst ds) O:=by
 simp [Qbc,Qdw,fL e,Qiz el]
end
theorem QfJ {O:Qac}{o n:Nat}{M:Int}{lw:List Nat}{m i g:Nat}{st:Bool}{ds:List D} (e:O[o]? = some (mkO M lw m i g st)) (el:O[n]? = some (.ml ds)):o≠n:=fun z=>by
 rw [z,el] at e;cases e
theorem Prt.set {O:Qac}{o:Nat}{M:Int}{lw:List Nat}{m i g:Nat}{st:Bool}{told:List D}{du:List (List LT×List Nat)}{x:Ob} (h:Prt O told du) (e:O[o]? = some (mkO M lw m i g st)):Prt (O.set o x) told du:=by
 rcases h with h | ⟨n,r,w,h1,h2,h3,h4⟩
 ·exact .inl h
 ·exact .inr ⟨n,r,w,h1,h2,by rw [ze (QfJ e h3)]; exact h3,h4⟩
def Sep (O:Qac) (o:Nat) (told:List D):Prop:=∀n w,told = [.tup [.ob n,.str w]]→∀(M:Int) (lw:List Nat) (m i g:Nat) (st:Bool),O[o]? = some (mkO M lw m i g st)→m≠n
theorem Qlr {M M':Int}{lw lw':List Nat}{n m i i' g g':Nat}{st st':Bool} (h:mkO M lw n i g st=mkO M' lw' m i' g' st'):n=m:=by
 unfold mkO at h;cases h;rfl
theorem Sep.nil {O:Qac}{o:Nat}:Sep O o []:=fun n w h=>nomatch h
theorem Sep.one {O:Qac}{o n:Nat}{w:List Nat}{M:Int}{lw:List Nat}{m i g:Nat}{st:Bool} (e:O[o]? = some (mkO M lw m i g st)) (h:m≠n):Sep O o [.tup [.ob n,.str w]]:=fun n' w' hz M' lw' m' i' g' st' e'=>by
 rw [e] at e'
 have:=Qlr (zH e')
 cases hz;rw [←this];exact h
def Old (O:Qac) (o n:Nat) (x:Ob):Prop:=O[n]? = some x∧o≠n∧∀(M:Int) (lw:List Nat) (m i g:Nat) (st:Bool),O[o]? = some (mkO M lw m i g st)→m≠n
def Keeps (O O':Qac) (o:Nat):Prop:=∀n x,Old O o n x→Old O' o n x
theorem Keeps.refl {O:Qac}{o:Nat}:Keeps O O o:=fun _ _ h=>h
theorem Keeps.trans {O O1 O2:Qac}{o:Nat} (a:Keeps O O1 o) (b:Keeps O1 O2 o):Keeps O O2 o:=fun n x h=>b n x (a n x h)
theorem QkO {O:Qac}{o n:Nat}{x:Ob}{M:Int}{lw:List Nat}{m i g:Nat}{st:Bool} (el:O[n]? = some x) (hne:o≠n) (e:O[o]? = some (mkO M lw m i g st)) (h:m≠n):Old O o n x:=⟨el,hne,fun M' lw' m' i' g' st' e'=>by
 rw [e] at e';rw [←Qlr (zH e')]
 exact h⟩
theorem Qjs {O:Qac}{o:Nat}{M:Int}{lw:List Nat}{n i g:Nat}{st:Bool} (e:O[o]? = some (mkO M lw n i g st)) {M':Int}{lw':List Nat}{i' g':Nat}{st':Bool}:Keeps O ((O ++ [Ob.ml []]).set o (mkO M' lw' O.length i' g' st')) o:=fun m x h=>by
 have hm:=(zj.mp h.1).1;refine QkO (by rw [ze h.2.1]; exact ap1 h.1) h.2.1 (gs' (ap1 e)) (by omega)
theorem QlS {O:Qac}{o:Nat}{M:Int}{lw:List Nat}{n i g:Nat}{st:Bool} (e:O[o]? = some (mkO M lw n i g st)) {M':Int}{lw':List Nat}{i' g':Nat}{st':Bool}:Keeps O (O.set o (mkO M' lw' n i' g' st')) o:=fun m x h =>
 QkO (by rw [ze h.2.1]; exact h.1) h.2.1 (gs' e) (h.2.2 _ _ _ _ _ _ e)
theorem QlM {O:Qac}{o:Nat}{M:Int}{lw:List Nat}{n i g:Nat}{st:Bool}{ds' ds'':List D} (e:O[o]? = some (mkO M lw n i g st)) (el:O[n]? = some (.ml ds')):Keeps O (O.set n (.ml ds'')) o:=fun m x h =>
 QkO (by rw [ze (h.2.2 _ _ _ _ _ _ e)]; exact h.1) h.2.1 (by rw [ze (Ne.symm (QfJ e el))]; exact e) (h.2.2 _ _ _ _ _ _ e)
theorem Qtr {O:Qac}{o:Nat}{M:Int}{lw:List Nat}{s:Sta} (h:Mk O o M lw s):∃O1,QbD [.ob o] O = .ok .non O1∧Mk O1 o M lw ⟨bare s,false,s.i,s.g⟩∧Keeps O O1 o:=by
 obtain ⟨n,e,el⟩:=h;have q:=QtR e
 cases hs:s.st with
 | true =>
  rw [hs,if_pos rfl] at q;refine ⟨_,q,⟨O.length,gs' (ap1 e),?_⟩,Qjs e⟩;rw [ze (zl (Qkp e))];show (O ++ [Ob.ml []])[O.length]? = some (.ml ((bare s).map dL));unfold bare;rw [hs];exact apN
 | false =>
  rw [hs,if_neg zh] at q;refine ⟨_,q,⟨n,by rw [hs] at e; exact e,?_⟩,Keeps.refl⟩;show O[n]? = some (.ml ((bare s).map dL));unfold bare;rw [hs];exact el
theorem QwB {O:Qac}{o:Nat}{M:Int}{lw:List Nat}{s:Sta}{p:Int}{c:Nat} (h:Mk O o M lw s) (hl:s.row.length≤1000) (hok:∀x∈s.row,OkL x):∃O1 told,Qcx [.ob o,item p QaF [c]] O = .ok (.lst told) O1 ∧
  Mk O1 o M (if (s.row.length:Int)=M then Qcf else lw) ⟨if (s.row.length:Int)=M then [(c,s.i,s.g,p)] else s.row ++ [(c,s.i,s.g,p)],s.st,s.i,s.g⟩∧Prt O1 told (if (s.row.length:Int)=M then [(s.row,Qcf)] else [])∧Sep O1 o told∧Keeps O O1 o:=by
 obtain ⟨n,e,el⟩:=h;have q:=QwP (p:=p) (c:=c) e el (by rw [zD]; omega);rw [zD] at q;have hn:=Qkp el;have ho:=Qkp e
 by_cases hm:(s.row.length:Int)=M
 ·rw [if_pos hm] at q;rw [if_pos hm,if_pos hm,if_pos hm]
  have l1:((O ++ [Ob.ml []]).set o (mkO M Qcf O.length s.i s.g s.st)).length=O.length+1:=by simp
  have eo:(((O ++ [Ob.ml []]).set o (mkO M Qcf O.length s.i s.g s.st)).set O.length (.ml [dL (c,s.i,s.g,p)]))[o]? = some (mkO M Qcf O.length s.i s.g s.st):=by
   rw [ze (by omega)];exact gs' (ap1 e)
  refine ⟨_,_,q,⟨O.length,eo,?_⟩,.inr ⟨n,s.row,Qcf,rfl,rfl,?_,.inr rfl,hok,hl⟩,Sep.one eo (by omega),(Qjs e).trans (QlM (gs' (ap1 e)) (by rw [ze (zl (Qkp e))]; exact apN))⟩
  ·rw [zE (by rw [l1]; omega)];rfl
  ·rw [ze (by omega),ze (QfJ e el)];exact ap1 el
 ·rw [if_neg hm] at q;rw [if_neg hm,if_neg hm,if_neg hm];refine ⟨_,_,q,⟨n,?_,?_⟩,.inl ⟨rfl,rfl⟩,Sep.nil,QlM e el⟩
  ·rw [ze (Ne.symm (QfJ e el))];exact e
  ·rw [zE hn];simp
def Qin (s:Sta) (k v:List Nat):Nat×Nat:=if k=Qcn then (v.headD 0,s.g) else if k=Qbs then (s.i,v.headD 0) else if k=QaF then (s.i,s.g) else (46,46)
theorem Qh7 {O:Qac}{o:Nat}{M:Int}{lw:List Nat}{s:Sta}{p:Int}{k v:List Nat}{told:List D}{du:List (List LT×List Nat)} (h:Mk O o M lw s) (it:Itm k v) (hp:Prt O told du) (hse:Sep O o told) :
  ∃O',(Qaj (QbK ["Maker"] "pair" (Qab 0) (Qat QdF (Qaa (Qb0 ["Maker"] "pair" (Qab 0)) (Qaa (Qab 2) (Qaa (Qaf gIx (Qab 1) (mC (.int 2))) Qae))))) (Qaw (Qab 3))) [some (.ob o),some (item p k v),some (.str k),some (.lst told)] O = .rt (.lst told) O'∧Mk O' o M lw ⟨s.row,s.st,(Qin s k v).1,(Qin s k v).2⟩∧Prt O' told du∧Sep O' o told∧Keeps O O' o:=by
 obtain ⟨n,e,el⟩:=h;have i2:gIx (item p k v) (.int 2)=some (.str v):=rfl;have ep:=Qvm (i:=s.i) (g:=s.g) it O
 have pk:(if k=Qcn then D.tup [.str [v.headD 0],.str [s.g]] else if k=Qbs then .tup [.str [s.i],.str [v.headD 0]] else if k=QaF then .tup [.str [s.i],.str [s.g]] else .tup [.str [46],.str [46]]) = .tup [.str [(Qin s k v).1],.str [(Qin s k v).2]]:=by
  unfold Qin
  split
  ·rfl
  ·split
   ·rfl
   ·split <;> rfl
 rw [pk] at ep;have di:QaL O (item p k v)=item p k v:=rfl;refine ⟨O.set o (mkO M lw n (Qin s k v).1 (Qin s k v).2 s.st),?_,⟨n,gs' e,by rw [ze (QfJ e el)]; exact el⟩,hp.set e,?_,QlS e⟩
 rotate_left
 ·intro n' w' hz M' lw' m' i' g' st' e';rw [gs' e] at e';rw [←Qlr (zH e')];exact hse n' w' hz _ _ _ _ _ _ e
 simp only [Qcz,Qh1,Qnw,QcM,QbO,Qxf,Qbm,zp,zx,Qaq,fP e,Qd9,m_c,di,Qb5,i2,QbS,ep,QhX,pP e,Qcp,QcP,Qco]
theorem Qs7 {O:Qac}{o:Nat}{M:Int}{lw:List Nat}{s:Sta}{p:Int}{k v:List Nat} (h:Mk O o M lw s) (hs:OkS M s) (hM:M≤200) (it:Itm k v):∃O' told,Qb1 [.ob o,item p k v] O = .ok (.lst told) O'∧Mk O' o M (lwS M s lw k) (stp M s p k v)∧Prt O' told (due M s k)∧Sep O' o told∧Keeps O O' o:=by
 have hlen:=hs.len
 have hl:s.row.length≤1000:=by omega
 have hb:∀x∈bare s,OkL x:=fun x hx=>by
  unfold bare at hx;split at hx
  ·cases hx
  ·exact hs.ok x hx
 have hbl:(bare s).length≤1000:=by
  unfold bare
  split
  ·simp
  ·exact hl
 have i1:gIx (item p k v) (.int 1)=some (.str k):=rfl
 have di:∀O:Qac,QaL O (item p k v)=item p k v:=fun _=>rfl
 obtain ⟨n,e,el⟩:=id h
 have fin:∀{told:List D}{O':Qac},Qcb [some (.ob o),some (item p k v),none,none] O = .rt (.lst told) O'→Qb1 [.ob o,item p k v] O = .ok (.lst told) O':=fun h=>by
  show QbA (Qcb [some (.ob o),some (item p k v),none,none] O)=_;rw [h];rfl
 obtain ⟨O1,q1,h1,k1⟩:=Qtr h
 have em:(Qbq "Maker" "empty_stale" QbD (Qab 0) Qae) [some (.ob o),some (item p k v),some (.str k),some (.lst [])] O = .ok .non O1:=by
  rw [QeC];simp only [Qbm,zp,Qaq,QiI (m:="empty_stale") (by decide) (by decide) (by decide) (by decide) (by decide) e,QbO];exact q1
 cases it with
 | anew =>
  have h2:Mk (O.set o (mkO M lw n s.i s.g true)) o M lw ⟨s.row,true,s.i,s.g⟩:=⟨n,gs' e,by rw [ze (QfJ e el)]; exact el⟩;obtain ⟨O',t1,t2,t3,t4,t5⟩:=Qh7 (p:=p) (told:=[]) (du:=[]) h2 Itm.anew (.inl ⟨rfl,rfl⟩) Sep.nil;refine ⟨O',[],fin ?_,t2,t3,t4,(QlS e).trans t5⟩;unfold Qcb;simp only [Qcz,QdC,Qd9,Qbm,m_c,zp,zx,Qaq,di,Qb5,i1,QbS,QcY,Qcp,zS,zT,QeL,QbO,zI,Nat.zero_le,if_true,Qd8,QeK,Qc1,QjJ,QeD,Qdk,show decide (Qcg = [101,110,100])=false from rfl,show decide (Qcg = [97,110,101,119])=true from rfl,show decide (Qcg = [115,105,103,110])=false from rfl,Bool.false_eq_true,if_false,Qh1,QhX,pS e,QeI]
  exact t1
 | end_ =>
  have et:=Qqh (w:=QaC) e;have e1:((O ++ [Ob.ml []]).set o (mkO M QaC O.length s.i s.g s.st))[o]? = some (mkO M QaC O.length s.i s.g s.st):=gs' (ap1 e);have h2:Mk ((O ++ [Ob.ml []]).set o (mkO M QaC O.length s.i s.g false)) o M QaC ⟨[],false,s.i,s.g⟩:=⟨O.length,gs' (ap1 e),by rw [ze (zl (Qkp e))]; exact apN⟩;obtain ⟨O',t1,t2,t3,t4,t5⟩:=Qh7 (p:=p) (told:=[.tup [.ob n,.str QaC]]) (du:=[(s.row,QaC)]) h2 Itm.end_ (.inr ⟨n,s.row,QaC,rfl,rfl,by rw [ze (QfJ e el)]; exact ap1 el,.inl rfl,hs.ok,hl⟩) (Sep.one (gs' (ap1 e)) (Nat.ne_of_gt (Qkp el)));refine ⟨O',[.tup [.ob n,.str QaC]],fin ?_,t2,t3,t4,(Qjs e).trans t5⟩
  have ct:(Qbq "Maker" "tell" QcN (Qab 0) (Qaa (mC (.str [119,104,111,108,101])) Qae)) [some (.ob o),some (item p QcB []),some (.str QcB),some (.lst [])] O = .ok (.lst [.tup [.ob n,.str QaC]]) ((O ++ [Ob.ml []]).set o (mkO M QaC O.length s.i s.g s.st)):=by
   rw [QeC];simp only [Qbm,zp,Qaq,QiI (m:="tell") (by decide) (by decide) (by decide) (by decide) (by decide) e,QcM,QbO,m_c];exact et
  unfold Qcb;simp only [Qcz,QdC,Qd9,Qbm,m_c,zp,zx,Qaq,di,Qb5,i1,QbS,QcY,Qcp,zS,zT,QeL,QbO,zI,Nat.zero_le,if_true,Qd8,QeK,Qc1,QjJ,QeD,Qdk,show decide (QcB = [101,110,100])=true from rfl,show decide (QcB = [115,105,103,110])=false from rfl,ct,Qh1,QhX,pS e1,List.set_set,Bool.false_eq_true,if_false,QeI];exact t1
 | plain =>
  obtain ⟨O',t1,t2,t3,t4,t5⟩:=Qh7 (p:=p) (told:=[]) (du:=[]) h1 Itm.plain (.inl ⟨rfl,rfl⟩) Sep.nil;refine ⟨O',[],fin ?_,t2,t3,t4,k1.trans t5⟩;unfold Qcb;simp only [Qcz,QdC,Qd9,Qbm,m_c,zp,zx,Qaq,di,Qb5,i1,QbS,QcY,Qcp,zS,zT,QeL,QbO,zI,Nat.zero_le,if_true,Qd8,QeK,Qc1,QjJ,QeD,Qdk,show decide (Qcc = [101,110,100])=false from rfl,show decide (Qcc = [97,110,101,119])=false from rfl,show decide (Qcc = [115,105,103,110])=false from rfl,Bool.false_eq_true,if_false,QhO,em,QgK,QeI];exact t1
 | ink c hc =>
  obtain ⟨O',t1,t2,t3,t4,t5⟩:=Qh7 (p:=p) (told:=[]) (du:=[]) h1 (Itm.ink c hc) (.inl ⟨rfl,rfl⟩) Sep.nil;refine ⟨O',[],fin ?_,t2,t3,t4,k1.trans t5⟩;unfold Qcb;simp only [Qcz,QdC,Qd9,Qbm,m_c,zp,zx,Qaq,di,Qb5,i1,QbS,QcY,Qcp,zS,zT,QeL,QbO,zI,Nat.zero_le,if_true,Qd8,QeK,Qc1,QjJ,QeD,Qdk,show decide (Qcn = [101,110,100])=false from rfl,show decide (Qcn = [97,110,101,119])=false from rfl,show decide (Qcn = [115,105,103,110])=false from rfl,Bool.false_eq_true,if_false,QhO,em,QgK,QeI];exact t1
 | ground c hc =>
  obtain ⟨O',t1,t2,t3,t4,t5⟩:=Qh7 (p:=p) (told:=[]) (du:=[]) h1 (Itm.ground c hc) (.inl ⟨rfl,rfl⟩) Sep.nil;refine ⟨O',[],fin ?_,t2,t3,t4,k1.trans t5⟩;unfold Qcb;simp only [Qcz,QdC,Qd9,Qbm,m_c,zp,zx,Qaq,di,Qb5,i1,QbS,QcY,Qcp,zS,zT,QeL,QbO,zI,Nat.zero_le,if_true,Qd8,QeK,Qc1,QjJ,QeD,Qdk,show decide (Qbs = [101,110,100])=false from rfl,show decide (Qbs = [97,110,101,119])=false from rfl,show decide (Qbs = [115,105,103,110])=false from rfl,Bool.false_eq_true,if_false,QhO,em,QgK,QeI];exact t1
 | sign c hc =>
  obtain ⟨O2,told,a1,a2,a3,a4,a5⟩:=QwB (p:=p) (c:=c) h1 hbl hb;obtain ⟨O',t1,t2,t3,t4,t5⟩:=Qh7 (p:=p) a2 (Itm.sign c hc) a3 a4;obtain ⟨n1,f1,_⟩:=id h1
  have ca:(Qbq "Maker" "add_letter" Qcx (Qab 0) (Qaa (Qab 1) Qae)) [some (.ob o),some (item p QaF [c]),some (.str QaF),some (.lst [])] O1 = .ok (.lst told) O2:=by
   rw [QeC];simp only [Qbm,zp,Qaq,QiI (m:="add_letter") (by decide) (by decide) (by decide) (by decide) (by decide) f1,QcM,QbO,zx];exact a1
  refine ⟨O',told,fin ?_,?_,?_,t4,(k1.trans a5).trans t5⟩
  ·unfold Qcb;simp only [Qcz,QdC,Qd9,Qbm,m_c,zp,zx,Qaq,di,Qb5,i1,QbS,QcY,Qcp,zS,zT,QeL,QbO,zI,Nat.zero_le,if_true,Qd8,QeK,Qc1,QjJ,QeD,Qdk,show decide (QaF = [101,110,100])=false from rfl,show decide (QaF = [97,110,101,119])=false from rfl,show decide (QaF = [115,105,103,110])=true from rfl,Bool.false_eq_true,if_false,QhO,em,QgK,ca,QeI];exact t1
  ·have d1:stp M s p QaF [c]=stS M s p c:=rfl
   have d2:lwS M s lw QaF=if ((bare s).length:Int)=M then Qcf else lw:=by
    show (match Qhp M s with | [(_,w)]=>w | _=>lw)=_;unfold Qhp
    by_cases hm:((bare s).length:Int)=M
    ·rw [if_pos hm,if_pos hm]
    ·rw [if_neg hm,if_neg hm]
   rw [d1,d2];have t2':Mk O' o M (if ((bare s).length:Int)=M then Qcf else lw) ⟨if ((bare s).length:Int)=M then [(c,s.i,s.g,p)] else bare s ++ [(c,s.i,s.g,p)],false,s.i,s.g⟩:=t2;unfold stS
   by_cases hm:((bare s).length:Int)=M
   ·rw [if_pos hm,if_pos hm] at t2' ⊢;exact t2'
   ·rw [if_neg hm,if_neg hm] at t2' ⊢;exact t2'
  ·have d3:due M s QaF=Qhp M s:=rfl;rw [d3];unfold Qhp;exact t3
theorem Qk3 {n:Nat}{all:List D}{g:MG}{b:MS}{O:Qac} (Pv:Qal→Prop) (h:O[n]? = some (.ml all)) (hs:∀d∈all,∀ρ,Pv ρ→∃ρ1,g d ρ=some ρ1∧∃ρ2,b ρ1 O = .nx ρ2 O∧Pv ρ2) :
  ∀(m i:Nat) (ρ:Qal),i+m=all.length→Pv ρ→∃ρ',Qcy n all g b (all.drop i) ρ O = .nx ρ' O∧Pv ρ'
 | 0,i,ρ,hi,hp=>by
  refine ⟨ρ,?_,hp⟩;rw [List.drop_eq_nil_of_le (by omega)];unfold Qcy;rw [h];dsimp only;rw [if_pos rfl]
 | m+1,i,ρ,hi,hp=>by
  have hlt:i < all.length:=by omega
  have ed:=zK hlt;obtain ⟨ρ1,e1,ρ2,e2,hp2⟩:=hs all[i] (jm hlt) ρ hp;obtain ⟨ρ',e3,h3⟩:=Qk3 Pv h hs m (i+1) ρ2 (by omega) hp2;refine ⟨ρ',?_,h3⟩;rw [List.drop_eq_getElem_cons hlt];unfold Qcy;rw [h];dsimp only;rw [show all.length - ((all.drop (i+1)).length+1)=i by rw [List.length_drop]; omega,ed];dsimp only;rw [e1];dsimp only;rw [e2];exact e3
def Qjb:MS:=(Qaj (QaT (QcC (Qca (Qbv (Qds "tuple" (Qab 2)))) (QcC (QaD (Qaf gNe (QaY QbN (Qaa (Qab 2) Qae)) (mC (.int 4)))) (Qca (Qbv (Qat QcH (Qaa (Qaf gIx (Qab 2) (mC (.int 3))) Qae)))))) (Qaw (mC (.bl false))) Qay)
  (QaT (QaD (Qaf gNe (Qgu (Qfj (mSl (Qab 2) moN (moS (mC (.int 3))))) 1 [] (mgN 0) QgL (Qds "str" (Qab 0))) (Qa0 (Qaa (mC (.bl true)) (Qaa (mC (.bl true)) (Qaa (mC (.bl true)) Qae)))))) (Qaw (mC (.bl false))) Qay))
theorem Qo0 (p:Int) (O:Qac):QcH [.int p] O = .ok (.bl true) O:=by
 simp [QcH,QhA]
theorem QsV (x:LT) (a0 a1:Option D) (O:Qac):Qjb [a0,a1,some (dL x)] O = .nx [a0,a1,some (dL x)] O:=by
 have i3:gIx (.tup [.str [x.1],.str [x.2.1],.str [x.2.2.1],.int x.2.2.2]) (.int 3)=some (.int x.2.2.2):=rfl;have c3:Qdm [D.str [x.1],D.str [x.2.1],D.str [x.2.2.1],D.int x.2.2.2] none (some 3) = [.str [x.1],.str [x.2.1],.str [x.2.2.1]]:=rfl;have ok:okE (.lst [.bl true,.bl true,.bl true])=true:=rfl;have q:=Qf0 ok;unfold Qjb;simp [dL,i3,Qo0,c3,Qc2,QgL,ok,q]
theorem Qw1 (l:List LT) (hok:∀x∈l,OkL x) (O:Qac):Qbl [.lst (l.map dL),.lst (l.map dL)] O = .ok (.bl true) O:=by
 have ok:=QjU l hok;have q:=Qf0 ok
 obtain ⟨ρ',O',e,rfl,o2,rfl⟩:=Qhk (g:=mgN 2) (b:=Qjb) (fun i ρ O'=>O'=O∧∃o2,ρ = [some (.lst (l.map dL)),some (.lst (l.map dL)),o2]) (l.map dL) 0 [some (.lst (l.map dL)),some (.lst (l.map dL)),none] O ⟨rfl,none,rfl⟩ (by
  rintro i d ρ O' hi ⟨rfl,o2,rfl⟩;obtain ⟨x,_,rfl⟩:=zZ.mp (zN hi)
  exact ⟨_,rfl,_,_,.inl (QsV x _ _ O'),rfl,_,rfl⟩)
 have ef:Qfr (Qab 0) (mgN 2) Qjb [some (.lst (l.map dL)),some (.lst (l.map dL)),none] O' = .nx [some (.lst (l.map dL)),some (.lst (l.map dL)),o2] O':=e;unfold Qjb at ef;simp only [Qbl,QcU,QpA,zf,List.map_nil,zq,zI,List.replicate,List.cons_append,jc,Qcz,Qd8,Qmq,QeE,Qgq,Qpl,Qbm,zp,zx,Qaq,QfW,Qle,Qkf,Qlj,Qkv,Qli,Qkr,Bool.not_true,Bool.false_eq_true,if_false,QeK,Qd9,QjG,QcM,QbO,QmT,QbS,Qb5,QpO,decide_true,QeD,Qdk,QeI,Qcp,ef,QcP,Qs6,ok,q,Bool.and_self,if_true,Qco,QgJ]
theorem Qxc {O:Qac}{n:Nat} (l:List LT) (hok:∀x∈l,OkL x) (h:O[n]? = some (.ml (l.map dL))):Qbl [.ob n,.lst (l.map dL)] O = .ok (.bl true) O:=by
 have ok:=QjU l hok;have q:=Qf0 ok;have dr:=Qiz h
 obtain ⟨ρ',e,o2,rfl⟩:=Qk3 (g:=mgN 2) (b:=Qjb) (fun ρ=>∃o2,ρ = [some (.ob n),some (.lst (l.map dL)),o2]) h (by
  rintro d hd ρ ⟨o2,rfl⟩;obtain ⟨x,_,rfl⟩:=zZ.mp hd
  exact ⟨_,rfl,_,QsV x _ _ O,_,rfl⟩) (l.map dL).length 0 [some (.ob n),some (.lst (l.map dL)),none] (by omega) ⟨none,rfl⟩
 rw [List.drop_zero] at e
 have ef:Qfr (Qab 0) (mgN 2) Qjb [some (.ob n),some (.lst (l.map dL)),none] O = .nx [some (.ob n),some (.lst (l.map dL)),o2] O:=by
  unfold Qfr;simp only [Qbm,zp];rw [h];exact e
 unfold Qjb at ef;simp only [Qbl,QcU,QpA,zf,List.map_nil,zq,zI,List.replicate,List.cons_append,jc,Qcz,Qd8,Qmq,QeE,Qgq,Qpl,Qbm,zp,zx,Qaq,dr,QfW,Qle,Qkf,Qlj,Qkv,Qli,Qkr,Bool.not_true,Bool.false_eq_true,if_false,QeK,Qd9,QjG,QcM,QbO,QmT,QbS,Qb5,QpO,decide_true,QeD,Qdk,QeI,Qcp,ef,QcP,Qs6,ok,q,Bool.and_self,if_true,Qco,QgJ]
def QpH:MS:=(Qaj (QaT (QcC (Qca (Qbv (Qds "tuple" (Qab 2)))) (QcC (QaD (Qaf gNe (QaY QbN (Qaa (Qab 2) Qae)) (mC (.int 2)))) (QaD (Qaf gNe (Qaf gIx (Qab 2) (mC (.int 1))) (Qaf gIx (Qab 3) (mC (.int 1))))))) (Qaw (mC (.bl false))) Qay)
  (QaT (Qca (Qbv (Qat Qbl (Qaa (Qaf gIx (Qab 2) (mC (.int 0))) (Qaa (Qaf gIx (Qab 3) (mC (.int 0))) Qae))))) (Qaw (mC (.bl false))) Qay))
theorem QtM {O:Qac}{told:List D}{du:List (List LT×List Nat)} (h:Prt O told du):Qch [.lst told,.lst (du.map Qbw)] O = .ok (.bl true) O:=by
 rcases h with ⟨rfl,rfl⟩ | ⟨n,r,w,rfl,rfl,h3,h4,h5,h6⟩
 ·simp [Qch,Qdd,Qer,Qa5]
 ·have lr:=Qxc r h5 h3
  have eb:QpH [some (.lst [.tup [.ob n,.str w]]),some (.lst [Qbw (r,w)]),some (.tup [.ob n,.str w]),some (Qbw (r,w))] O = .nx [some (.lst [.tup [.ob n,.str w]]),some (.lst [Qbw (r,w)]),some (.tup [.ob n,.str w]),some (Qbw (r,w))] O:=by
   have i0:gIx (.tup [.ob n,.str w]) (.int 0)=some (.ob n):=rfl;have i1:gIx (.tup [.ob n,.str w]) (.int 1)=some (.str w):=rfl;have i2:gIx (Qbw (r,w)) (.int 0)=some (.lst (r.map dL)):=rfl;have i3:gIx (Qbw (r,w)) (.int 1)=some (.str w):=rfl;have dd:QaL O (Qbw (r,w))=Qbw (r,w):=rfl;unfold QpH;simp [i0,i1,i2,i3,dd,lr]
  have ef:Qa5 (Qfq 2 (Qa6 (mgN 2) (Qa6 (mgN 3) Qdi))) QpH (Qer [.tup [.ob n,.str w]] [Qbw (r,w)]) [some (.lst [.tup [.ob n,.str w]]),some (.lst [Qbw (r,w)]),none,none] O = .nx [some (.lst [.tup [.ob n,.str w]]),some (.lst [Qbw (r,w)]),some (.tup [.ob n,.str w]),some (Qbw (r,w))] O:=by
   simp only [Qer,Qa5,Qyb,zS,zT,eb]
  unfold QpH at ef;simp only [Qch,Qdd,QpA,zf,List.map_nil,zq,zI,List.replicate,List.cons_append,jc,Qcz,Qd8,Qmq,QeE,Qgq,Qpl,Qbm,zp,zx,Qaq,QfW,Qle,Qkf,Qlj,Qkv,Qli,Qkr,Bool.not_true,Bool.false_eq_true,if_false,QeK,Qd9,QjG,QcM,QbO,QmT,QbS,Qb5,QpO,decide_true,QeD,Qdk,QeI,Qcp,Qnz,Qwk,Qwp,QoK,ef,QcP,m_c,Qco,QgJ]
theorem OkS.stp {M:Int}{s:Sta} (h:OkS M s) (hM:1≤M) {p:Int}{k v:List Nat} (it:Itm k v):OkS M (stp M s p k v):=by
 have hb:∀x∈bare s,OkL x:=fun x hx=>by
  unfold bare at hx;split at hx
  ·cases hx
  ·exact h.ok x hx
 have hbl:((bare s).length:Int)≤M:=by
  unfold bare
  split
  ·simp; omega
  ·exact h.len
 cases it with
 | anew=>exact ⟨h.len,h.ok,(show 46≤125 by decide),(show 46≤125 by decide)⟩
 | end_=>exact ⟨(show ((0:Nat):Int)≤M by omega),(fun x (hx:x∈[])=>nomatch hx),(show 46≤125 by decide),(show 46≤125 by decide)⟩
 | plain=>exact ⟨hbl,hb,(show 46≤125 by decide),(show 46≤125 by decide)⟩
 | ink c hc=>exact ⟨hbl,hb,hc,h.g⟩
 | ground c hc=>exact ⟨hbl,hb,h.i,hc⟩
 | sign c hc =>
  show OkS M (stS M s p c);unfold stS
  split
  ·refine ⟨by show ((1:Nat):Int)≤M; omega,?_,h.i,h.g⟩;intro x hx;rw [zr.mp hx];exact ⟨hc,h.i,h.g⟩
  ·rename_i hm;refine ⟨by show ((bare s ++ [(c,s.i,s.g,p)]).length:Int)≤M; rw [zu]; simp only [zW]; omega,?_,h.i,h.g⟩;intro x hx
   rcases zC.mp hx with hx | hx
   ·exact hb x hx
   ·rw [zr.mp hx];exact ⟨hc,h.i,h.g⟩
theorem ixS {l:List Nat}{v n:Int} (hl:l.length≤1000000) (h:(l.length:Int)=n) (hn:0 < n):∃c,c∈l∧gIx (.str l) (.int (v % n))=some (.str [c]):=by
 obtain ⟨c,h1,h2⟩:=QqV (xs:=l) (i:=v % n) (jh _ (by omega)) (by rw [h]; exact jn _ hn);exact ⟨c,h2,by rw [Qw4,if_pos hl,h1]; rfl⟩
theorem ixL {l:List D}{v n:Int} (h:(l.length:Int)=n) (hn:0 < n):∃c,c∈l∧gIx (.lst l) (.int (v % n))=some c:=by
 obtain ⟨c,h1,h2⟩:=QqV (xs:=l) (i:=v % n) (jh _ (by omega)) (by rw [h]; exact jn _ hn);exact ⟨c,h2,h1⟩
theorem Qhl (n k:Int) (h0:0≤k) (h1:k≤1000000) (O:Qac):QaR [.int n,.int k] O = .ok (.int (mix n k)) O:=Qvg n k h0 h1 O
theorem Qwb (ns:List Int) (O:Qac):∃v,Qfa [.lst (ns.map D.int),.int 0] O = .ok (.int v) O:=by
 cases ns with
 | nil=>exact ⟨0,by simp [Qfa,Qgs]⟩
 | cons n ns =>
  have i0:gIx (.lst (D.int n::ns.map D.int)) (.int 0)=some (.int n):=by
   have:=Qjc (xs:=D.int n::ns.map D.int) (j:=0)
   rw [Qpx];exact this
  refine ⟨n,?_⟩;simp [Qfa,Qgs,i0]
abbrev It3:=Int×List Nat×List Nat
def itD (x:It3):D:=item x.1 x.2.1 x.2.2
theorem pG {O:Qac}{o:Nat}{fs:List (Str×D)}{f:Str}{d:D}{ρ:Qal} (e:O[o]? = some (.ins "Maker" fs)) (h:fs.length < 900):puF ["Maker"] f d ρ (.ok (.ob o) O) = .nx ρ (O.set o (.ins "Maker" (putD f d fs))):=by
 unfold puF;dsimp only;rw [e];dsimp only;rw [if_pos ⟨by simp,h⟩]
theorem Qr2 {O:Qac}{o:Nat}{M:Int}{lw:List Nat} (e:O[o]? = some (.ins "Maker" [("most",.int M),("last_word",.str lw)])):Qci [.ob o] O = .ok .non ((O ++ [Ob.ml []]).set o (mkO M lw O.length 46 46 false)):=by
 have e1:(O ++ [Ob.ml []])[o]? = some (.ins "Maker" [("most",.int M),("last_word",.str lw)]):=ap1 e
 have p1:=fun ρ=>pG (f:="letters") (d:=.ob O.length) (ρ:=ρ) e1 (by simp)
 have e2:=gs' (y:=.ins "Maker" (putD "letters" (.ob O.length) [("most",.int M),("last_word",.str lw)])) e1
 have p2:=fun ρ=>pG (f:="pair") (d:=.tup [.str [46],.str [46]]) (ρ:=ρ) e2 (by show 3 < 900; decide)
 have e3:=gs' (y:=.ins "Maker" (putD "pair" (.tup [.str [46],.str [46]]) (putD "letters" (.ob O.length) [("most",.int M),("last_word",.str lw)]))) e1
 have p3:=fun ρ=>pG (f:="stale") (d:=.bl false) (ρ:=ρ) e3 (by show 4 < 900; decide)
 have fe:Ob.ins "Maker" (putD "stale" (.bl false) (putD "pair" (.tup [.str [46],.str [46]]) (putD "letters" (.ob O.length) [("most",.int M),("last_word",.str lw)])))=mkO M lw O.length 46 46 false:=rfl;rw [fe] at p3;show QbA (Qdf [some (.ob o)] O)=_;unfold Qdf;simp only [Qcz,Qh1,QrG,QeL,QbO,Qaq,zI,Nat.zero_le,if_true,QhX,Qbm,zp,p1,Qcp,m_c,p2,p3,QtI,List.set_set]
theorem Qsh (M:Int) (h:1≤M∧M≤200) (O:Qac):QcG [.int M,.int 1,.int 200] O = .ok (.bl true) O:=by
 simp [QcG,QfI,QgD,Qgt,h]
theorem QbE {g:D→D→Option D}{a b:L2.M D}{ρ:Qal}{O:Qac}{x y z:D} (ha:a ρ O = .ok x O) (hb:b ρ O = .ok y O) (h:g (QaL O x) (QaL O y)=some z):Qaf g a b ρ O = .ok z O:=by
 rw [Qd9,ha,Qaq,hb,Qaq,h,QbS]
theorem ma1 {a:L2.M D}{ρ:Qal}{O:Qac}{x:D} (h:a ρ O = .ok x O):Qaa a Qae ρ O = .ok [x] O:=by
 rw [QcM,h,Qaq,QbO,Qaq]
theorem maS {a:L2.M D}{r:L2.M (List D)}{ρ:Qal}{O:Qac}{x:D}{xs:List D} (h:a ρ O = .ok x O) (h2:r ρ O = .ok xs O):Qaa a r ρ O = .ok (x::xs) O:=by
 rw [QcM,h,Qaq,h2,Qaq]
theorem Qsk {m:L2.M (List D)}{ρ:Qal}{O:Qac}{xs:List D} (h:m ρ O = .ok xs O) (hl:xs.length≤1000000):Qbn m ρ O = .ok (.tup xs) O:=by
 rw [Qo5,h,Qaq,if_pos hl]
theorem Qns {m:L2.M (List D)}{ρ:Qal}{O:Qac}{xs:List D} (h:m ρ O = .ok xs O) (hl:xs.length≤1000000):Qa0 m ρ O = .ok (.lst xs) O:=by
 rw [QeL,h,Qaq,if_pos hl]
theorem QnF {g:List D→Option D}{m:L2.M (List D)}{ρ:Qal}{O:Qac}{xs:List D}{z:D} (h:m ρ O = .ok xs O) (hg:g (xs.map (QaL O))=some z):QaY g m ρ O = .ok z O:=by
 rw [QjG,h,Qaq,hg,QbS]
theorem Qc3 {i:Nat}{m:L2.M D}{ρ:Qal}{O:Qac}{d:D} (h:m ρ O = .ok d O):Qas i m ρ O = .nx (ρ.set i (some d)) O:=by
 rw [QdC,h,QcY]
theorem QbX {c:List D→Qac→Res D}{ma:L2.M (List D)}{ρ:Qal}{O:Qac}{ds:List D} (h:ma ρ O = .ok ds O):Qat c ma ρ O=c ds O:=by
 rw [Qnw,h,Qaq]
theorem Qrg {m:L2.M D}{ρ:Qal}{O:Qac}{l:List D} (h:m ρ O = .ok (.lst l) O):QaY QbN (Qaa m Qae) ρ O = .ok (.int (l.length:Int)) O:=QnF (ma1 h) rfl
theorem Qqv {m:L2.M D}{ρ:Qal}{O:Qac}{n:Nat} (h:m ρ O = .ok (.int (n:Int)) O) (hn:n≤1000000):Qfl (Qaa m Qae) ρ O = .ok (Qcd 0 n) O:=by
 rw [Qvc,ma1 h,Qaq];show (if (n:Int)≤1000000000∧-1000000000≤(n:Int) then Res.ok (Qcd 0 (n:Int).toNat) O else .no)=_;rw [if_pos ⟨by omega,by omega⟩,Int.toNat_natCast]
theorem Qf2 {a b:L2.M D}{ρ:Qal}{O:Qac}{i j:Int} (ha:a ρ O = .ok (.int i) O) (hb:b ρ O = .ok (.int j) O) (hj:0 < j):Qaf Qbz a b ρ O = .ok (.int (i % j)) O:=QbE ha hb (by rw [Qb5,Qb5,Qve,if_pos hj])
theorem QpV {a b:L2.M D}{ρ:Qal}{O:Qac}{i j:Int} (ha:a ρ O = .ok (.int i) O) (hb:b ρ O = .ok (.int j) O):Qaf Qce a b ρ O = .ok (.int (i+j)) O:=QbE ha hb rfl
theorem QwN {a b:L2.M D}{ρ:Qal}{O:Qac}{i j:Int} (ha:a ρ O = .ok (.int i) O) (hb:b ρ O = .ok (.int j) O):Qaf Qh5 a b ρ O = .ok (.int (i - j)) O:=QbE ha hb rfl
theorem QtK {c:Nat}{r:List Nat} (h:∀x∈c::r,x≤125):Itm (one c r).1 (one c r).2.1:=by
 have hc:=h c zB;have s91:Itm QaF [91]:=Itm.sign 91 (by decide);unfold one
 split
 ·exact Itm.end_
 split
 ·exact Itm.anew
 split
 ·unfold QeX
  cases r with
  | nil=>exact s91
  | cons d r =>
   have hd:=h d (by simp);dsimp only
   split
   ·exact Itm.plain
   split
   ·exact s91
   split
   ·unfold Qlt
    cases r with
    | nil=>exact s91
    | cons e r =>
     dsimp only
     split
     ·exact Itm.ink d hd
     ·exact s91
   split
   ·unfold Qi1
    cases r with
    | nil=>exact s91
    | cons e r =>
     have he:=h e (by simp);dsimp only
     split
     ·unfold Qlc
      cases r with
      | nil=>exact s91
      | cons f r =>
       dsimp only
       split
       ·exact Itm.ground e he
       ·exact s91
     ·exact s91
   ·exact s91
 ·exact Itm.sign c hc
theorem QmB:∀(n:Nat) (t:List Nat) (p:Int),t.length≤n→(∀c∈t,c≤125)→∃its:List It3,items p t=its.map itD∧(∀x∈its,Itm x.2.1 x.2.2)∧its.length≤t.length
 | 0,[],p,_,_=>⟨[],by rw [QdX]; rfl,by simp,zc _⟩
 | 0,c::t,p,h,_=>by simp at h
 | n+1,[],p,_,_=>⟨[],by rw [QdX]; rfl,by simp,zc _⟩
 | n+1,c::t,p,h,hc=>by
  simp only [zq] at h;obtain ⟨its,e,hi,hl⟩:=QmB n (t.drop (one c t).2.2) (p+((one c t).2.2+1:Nat)) (by rw [List.length_drop]; omega) (fun x hx=>hc x (zv _ (List.mem_of_mem_drop hx)));refine ⟨(p,(one c t).1,(one c t).2.1)::its,by rw [Qgz,e]; rfl,fun x hx=>?_,by rw [List.length_drop] at hl; simp only [zq]; omega⟩
  rcases zm.mp hx with rfl | hx
  ·exact QtK hc
  ·exact hi x hx
abbrev Du:=List LT×List Nat
def rn (M:Int):Sta→List It3→Sta×List Du
 | s,[]=>(s,[])
 | s,x::xs=>((rn M (stp M s x.1 x.2.1 x.2.2) xs).1,due M s x.2.1++(rn M (stp M s x.1 x.2.1 x.2.2) xs).2)
def s0:Sta:=⟨[],false,46,46⟩
theorem Qmr {M:Int} (h:1≤M):OkS M s0:=⟨(show ((0:Nat):Int)≤M by omega),(fun x (hx:x∈[])=>nomatch hx),(show 46≤125 by decide),(show 46≤125 by decide)⟩
theorem QoP (M:Int) (s:Sta) (k:List Nat):(due M s k).length≤1:=by
 unfold due Qhp
 split
 ·simp
 ·split
  ·split <;> simp
  ·simp
theorem QpS {M:Int} (hM:1≤M):∀(its:List It3) (s:Sta),OkS M s→(∀x∈its,Itm x.2.1 x.2.2)→OkS M (rn M s its).1∧(rn M s its).2.length≤its.length
 | [],s,h,_=>⟨h,zc _⟩
 | x::xs,s,h,hi=>by
  obtain ⟨a,b⟩:=QpS hM xs _ (h.stp hM (p:=x.1) (hi x zB)) (fun y hy=>hi y (zv _ hy))
  have:=QoP M s x.2.1
  refine ⟨a,?_⟩;simp only [rn,zu,zq];omega
def Qm0:MS:=(Qaj (QaT (QcW (Qbv (Qab 4)) (QcW (QaD (Qaf gNe (Qab 7) (mC (.str [101,110,100])))) (QaD (Qaf gNe (Qab 7) (mC (.str [97,110,101,119])))))) (Qaj (Qas 3 (Qa0 Qae))
  (Qas 4 (mC (.bl false)))) Qay)
  (Qaj (QaT (QaD (Qaf gEq (Qab 7) (mC (.str [115,105,103,110])))) (Qaj (QaT (QaD (Qaf gEq (QaY QbN (Qaa (Qab 3) Qae)) (Qab 1))) (Qaj (Qha 2 (Qbn (Qaa (Qab 3) (Qaa (mC (.str [109,111,114,101])) Qae))))
  (Qas 3 (Qa0 Qae))) Qay)
  (Qas 3 (Qaf Qce (Qab 3) (Qa0 (Qaa (Qbn (Qaa (Qab 8) (Qaa (Qaf gIx (Qab 5) (mC (.int 0))) (Qaa (Qaf gIx (Qab 5) (mC (.int 1))) (Qaa (Qab 6) Qae))))) Qae))))) (QaT (QaD (Qaf gEq (Qab 7) (mC (.str [105,110,107])))) (Qe1 5 (mC (.int 0)) (Qab 8)) (QaT (QaD (Qaf gEq (Qab 7) (mC (.str [103,114,111,117,110,100])))) (Qe1 5 (mC (.int 1)) (Qab 8)) (Qas 5 (Qa0 (Qaa (mC (.str [46])) (Qaa (mC (.str [46])) Qae)))))))
  (Qaj (QaT (QaD (Qaf gEq (Qab 7) (mC (.str [97,110,101,119])))) (Qas 4 (mC (.bl true))) Qay)
  (QaT (QaD (Qaf gEq (Qab 7) (mC (.str [101,110,100])))) (Qaj (Qha 2 (Qbn (Qaa (Qab 3) (Qaa (mC (.str [119,104,111,108,101])) Qae))))
  (Qaj (Qas 3 (Qa0 Qae))
  (Qas 4 (mC (.bl false))))) Qay))))
theorem Qtk (s:Sta) (M p:Int) (k v:List Nat) (h:Itm k v) (hl:s.row.length≤1000) (acc:List Du) (ha:acc.length≤10000) (a0:Option D) (O:Qac) :
  Qm0 [a0,some (.int M),some (.lst (acc.map Qbw)),some (.lst (s.row.map dL)),some (.bl s.st),some (.lst [.str [s.i],.str [s.g]]),some (.int p),some (.str k),some (.str v)] O = .nx [a0,some (.int M),some (.lst ((acc++due M s k).map Qbw)),some (.lst ((stp M s p k v).row.map dL)),some (.bl (stp M s p k v).st),some (.lst [.str [(stp M s p k v).i],.str [(stp M s p k v).g]]),some (.int p),some (.str k),some (.str v)] O:=by
 have hz:acc.length < 1000000:=by omega
 have i0:∀a b:D,gIx (.lst [a,b]) (.int 0)=some a:=fun _ _=>rfl
 have i1:∀a b:D,gIx (.lst [a,b]) (.int 1)=some b:=fun _ _=>rfl
 have x0:ixN 2 0=some 0:=rfl;have x1:ixN 2 1=some 1:=rfl;unfold Qm0
 cases h with
 | anew=>cases hs:s.st <;> simp [stp,due,Qcg,QcB,QaF,Qcn,Qbs,Qcc]
 | end_=>cases hs:s.st <;> simp [stp,due,Qbw,Qcg,QcB,QaF,Qcn,Qbs,Qcc,QaC,apF,hz]
 | plain=>cases hs:s.st <;> simp [stp,due,bare,Qcg,QcB,QaF,Qcn,Qbs,Qcc,hs]
 | ink c hc=>cases hs:s.st <;> simp [stp,due,bare,Qcg,QcB,QaF,Qcn,Qbs,Qcc,hs,Qe1,x0]
 | ground c hc=>cases hs:s.st <;> simp [stp,due,bare,Qcg,QcB,QaF,Qcn,Qbs,Qcc,hs,Qe1,x1]
 | sign c hc =>
  cases hs:s.st with
  | true =>
   by_cases hm:(0:Int)=M
   ·subst hm;simp [stp,stS,due,Qhp,Qbw,bare,dL,Qcg,QcB,QaF,Qcn,Qbs,Qcc,Qcf,hs,i0,i1,apF,hz]
   ·simp [stp,stS,due,Qhp,Qbw,bare,dL,Qcg,QcB,QaF,Qcn,Qbs,Qcc,Qcf,hs,hm,i0,i1]
  | false =>
   by_cases hm:(s.row.length:Int)=M
   ·simp [stp,stS,due,Qhp,Qbw,bare,dL,Qcg,QcB,QaF,Qcn,Qbs,Qcc,Qcf,hs,hm,i0,i1,apF,hz]
   ·simp [stp,stS,due,Qhp,Qbw,bare,dL,Qcg,QcB,QaF,Qcn,Qbs,Qcc,Qcf,hs,hm,i0,i1]
    intro hx;omega
theorem Qq1 {n:Nat}{all:List D}{g:MG}{b:MS}{pre:List D}{d:D}{ds:List D}{ρ ρ1 ρ2:Qal}{O O2:Qac} (h:O[n]? = some (.ml all)) (ha:all=pre++d::ds) (hg:g d ρ=some ρ1) (hb:b ρ1 O = .nx ρ2 O2):Qcy n all g b (d::ds) ρ O=Qcy n all g b ds ρ2 O2:=by
 have e:all[all.length - (ds.length+1)]? = some d:=by
  rw [ha,zu,zq,Nat.add_sub_cancel,zw (zc _),Nat.sub_self];rfl
 conv=>lhs; unfold Qcy
 rw [h];dsimp only;rw [e];dsimp only;rw [hg];dsimp only;rw [hb]
theorem Qpm {n:Nat}{all:List D}{g:MG}{b:MS}{ρ:Qal}{O:Qac} (h:O[n]? = some (.ml all)):Qcy n all g b [] ρ O = .nx ρ O:=by
 unfold Qcy;rw [h];dsimp only;rw [if_pos rfl]
def gLp:MG:=(Qfq 3 (Qa6 (mgN 6) (Qa6 (mgN 7) (Qa6 (mgN 8) Qdi))))
theorem Qoi {M:Int} (hM:1≤M∧M≤200) (a0:Option D) (O:Qac) {n:Nat}{all:List D} (hn:O[n]? = some (.ml all)):∀(its:List It3) (pre:List D) (s:Sta) (acc:List Du) (o6 o7 o8:Option D),all=pre++its.map itD→OkS M s→(∀x∈its,Itm x.2.1 x.2.2)→acc.length+its.length≤10000 →
  ∃o6' o7' o8',Qcy n all gLp Qm0 (its.map itD) [a0,some (.int M),some (.lst (acc.map Qbw)),some (.lst (s.row.map dL)),some (.bl s.st),some (.lst [.str [s.i],.str [s.g]]),o6,o7,o8] O = .nx [a0,some (.int M),some (.lst ((acc++(rn M s its).2).map Qbw)),some (.lst ((rn M s its).1.row.map dL)),some (.bl (rn M s its).1.st),some (.lst [.str [(rn M s its).1.i],.str [(rn M s its).1.g]]),o6',o7',o8'] O
 | [],pre,s,acc,o6,o7,o8,_,_,_,_=>⟨o6,o7,o8,by
   rw [List.map_nil,Qpm hn]
   simp [rn]⟩
 | x::its,pre,s,acc,o6,o7,o8,ha,hs,hi,hl=>by
  have it:=hi x zB;simp only [zq] at hl;have hlen:=hs.len;have dl:=QoP M s x.2.1;have e1:=Qtk s M x.1 x.2.1 x.2.2 it (by omega) acc (by omega) a0 O;obtain ⟨o6',o7',o8',e2⟩:=Qoi hM a0 O hn its (pre ++ [itD x]) (stp M s x.1 x.2.1 x.2.2) (acc++due M s x.2.1) (some (.int x.1)) (some (.str x.2.1)) (some (.str x.2.2)) (by rw [ha,zU]; rfl) (hs.stp hM.1 it) (fun y hy=>hi y (zv _ hy)) (by rw [zu]; omega);refine ⟨o6',o7',o8',?_⟩;rw [zf,Qq1 (pre:=pre) (ρ1:=[a0,some (.int M),some (.lst (acc.map Qbw)),some (.lst (s.row.map dL)),some (.bl s.st),some (.lst [.str [s.i],.str [s.g]]),some (.int x.1),some (.str x.2.1),some (.str x.2.2)]) hn ha rfl e1,e2,zU]
  rfl
theorem QrI {M:Int} (hM:1≤M∧M≤200) (its:List It3) (hi:∀x∈its,Itm x.2.1 x.2.2) (hl:its.length≤5000) {O:Qac}{n:Nat} (hn:O[n]? = some (.ml (its.map itD))):Qcu [.ob n,.int M] O = .ok (.tup [.lst ((rn M s0 its).2.map Qbw),.lst ((rn M s0 its).1.row.map dL)]) O:=by
 obtain ⟨o6,o7,o8,e⟩:=Qoi hM (some (.ob n)) O hn its [] s0 [] none none none rfl (Qmr hM.1) hi (by simp; omega)
 have ef:Qfr (Qab 0) gLp Qm0 [some (.ob n),some (.int M),some (.lst []),some (.lst []),some (.bl false),some (.lst [.str [46],.str [46]]),none,none,none] O = .nx [some (.ob n),some (.int M),some (.lst ((rn M s0 its).2.map Qbw)),some (.lst ((rn M s0 its).1.row.map dL)),some (.bl (rn M s0 its).1.st),some (.lst [.str [(rn M s0 its).1.i],.str [(rn M s0 its).1.g]]),o6,o7,o8] O:=by
  unfold Qfr;simp only [Qbm,zp];rw [hn];exact e
 unfold gLp Qm0 at ef;show QbA (QfM [some (.ob n),some (.int M),none,none,none,none,none,none,none] O)=_;unfold QfM;simp only [Qcz,QdC,QeL,QcM,QbO,m_c,Qaq,zq,zI,Nat.zero_le,Nat.reduceAdd,Nat.reduceLeDiff,if_true,QcY,Qcp,zS,zT,Qbm,zp,zx,ef,QsM,QcP,Qo5,Qco,Qq4,QgJ]
theorem Qla (M:Int) (x:It3):∀(its:List It3) (s:Sta),rn M s (its ++ [x])=(stp M (rn M s its).1 x.1 x.2.1 x.2.2,(rn M s its).2++due M (rn M s its).1 x.2.1)
 | [],s=>by simp [rn]
 | y::its,s=>by
  rw [List.cons_append];simp only [rn];rw [Qla M x its];simp [rn]
theorem Qnq {a:L2.M D}{r:L2.M (List D)}{ρ:Qal}{O O1 O2:Qac}{x:D}{xs:List D} (h:a ρ O = .ok x O1) (h2:r ρ O1 = .ok xs O2):Qaa a r ρ O = .ok (x::xs) O2:=by
 rw [QcM,h,Qaq,h2,Qaq]
theorem QvV {a:L2.M D}{ρ:Qal}{O O1:Qac}{x:D} (h:a ρ O = .ok x O1):Qaa a Qae ρ O = .ok [x] O1:=Qnq h rfl
theorem QwI {m:L2.M (List D)}{ρ:Qal}{O O1:Qac}{xs:List D} (h:m ρ O = .ok xs O1) (hl:xs.length≤1000000):Qa0 m ρ O = .ok (.lst xs) O1:=by
 rw [QeL,h,Qaq,if_pos hl]
theorem Qph {i:Nat}{m:L2.M D}{ρ:Qal}{O O1:Qac}{d:D} (h:m ρ O = .ok d O1):Qas i m ρ O = .nx (ρ.set i (some d)) O1:=by
 rw [QdC,h,QcY]
theorem QsS {m:L2.M D}{ρ:Qal}{O O':Qac} (h:m ρ O = .ok (.bl true) O'):Qca (Qbv m) ρ O = .ok false O':=by
 rw [QeE,Qgq,h];rfl
theorem Qmm {a b:L2.M Bool}{ρ:Qal}{O O1 O2:Qac} (ha:a ρ O = .ok false O1) (hb:b ρ O1 = .ok false O2):QcC a b ρ O = .ok false O2:=by
 rw [Qmq,ha,Qaq,if_neg zh,hb]
theorem ifN {t:L2.M Bool}{a:MS}{ρ:Qal}{O O':Qac} (h:t ρ O = .ok false O'):QaT t a Qay ρ O = .nx ρ O':=by
 rw [Qd8,h,Qdk];rfl
theorem ifY {t:L2.M Bool}{a b:MS}{ρ:Qal}{O O':Qac} (h:t ρ O = .ok true O'):QaT t a b ρ O=a ρ O':=by
 rw [Qd8,h,Qdk];rfl
theorem Qe6 {c:List D→Qac→Res D}{ma:L2.M (List D)}{ρ:Qal}{O O1:Qac}{ds:List D} (h:ma ρ O = .ok ds O1):Qat c ma ρ O=c ds O1:=by
 rw [Qnw,h,Qaq]
theorem Qk4 {g:D→D→Option D}{a b:L2.M D}{ρ:Qal}{O O1 O2:Qac}{x y z:D} (ha:a ρ O = .ok x O1) (hb:b ρ O1 = .ok y O2) (h:g (QaL O2 x) (QaL O2 y)=some z):Qaf g a b ρ O = .ok z O2:=by
 rw [Qd9,ha,Qaq,hb,Qaq,h,QbS]
theorem Qji {m:L2.M D}{ρ:Qal}{O O':Qac}{b:Bool} (h:m ρ O = .ok (.bl b) O'):QaD m ρ O = .ok b O':=by
 rw [QeK,h,Qaq,QeD]
theorem QuW {a b:L2.M Bool}{ρ:Qal}{O O1:Qac} (ha:a ρ O = .ok true O1) (hb:b ρ O1 = .ok false O1):QcW a b ρ O = .ok false O1:=by
 rw [QmC,ha,Qaq,if_pos rfl,hb]
theorem and_f {a b:L2.M Bool}{ρ:Qal}{O O1:Qac} (ha:a ρ O = .ok false O1):QcW a b ρ O = .ok false O1:=by
 rw [QmC,ha,Qaq];rfl
theorem QtC {a b:L2.M Bool}{ρ:Qal}{O O1 O2:Qac}{x:Bool} (ha:a ρ O = .ok true O1) (hb:b ρ O1 = .ok x O2):QcW a b ρ O = .ok x O2:=by
 rw [QmC,ha,Qaq,if_pos rfl,hb]
def NoM (d:D):Prop:=∀O,QcG [d,.int 1,.int 200] O = .ok (.bl false) O
theorem Qrn {d:D}{O:Qac}{b:Bool} (h:QcG [d,.int 1,.int 200] O = .ok (.bl b) O) (o0:Option D):(Qca (Qbv (Qat QcG (Qaa (Qab 1) (Qaa (mC (.int 1)) (Qaa (mC (.int 200)) Qae)))))) [o0,some d] O = .ok (!b) O:=by
 rw [QeE,Qgq,QbX (ds:=[d,.int 1,.int 200]) rfl,h];rfl
theorem Qp5 {d:D} (h:NoM d) (n:Nat) (O:Qac):QaK [.ob n,d] O = .ex ⟨"NoSize",[]⟩ O:=by
 show QbA (Qcq [some (.ob n),some d] O)=_;unfold Qcq;rw [Qfg ((QmE (Qrn (h O) _)).trans (Qfg rfl))];rfl
theorem QoM (M:Int) (h:1≤M∧M≤200) (O:Qac):QaK [.ob O.length,.int M] (O ++ [Ob.ins "Maker" []]) = .ok .non (O ++ [mkO M QaC (O.length+1) 46 46 false,.ml []]):=by
 have e0:(O ++ [Ob.ins "Maker" []])[O.length]? = some (.ins "Maker" []):=apN
 have p0:=fun ρ=>pG (f:="most") (d:=.int M) (ρ:=ρ) e0 (by decide)
 have e1:=gs' (y:=.ins "Maker" (putD "most" (.int M) [])) e0
 have p1:=fun ρ=>pG (f:="last_word") (d:=.str QaC) (ρ:=ρ) e1 (by show 1 < 900; decide)
 have e2:(((O ++ [Ob.ins "Maker" []]).set O.length (.ins "Maker" (putD "most" (.int M) []))).set O.length (.ins "Maker" (putD "last_word" (.str QaC) (putD "most" (.int M) []))))[O.length]? = some (.ins "Maker" [("most",.int M),("last_word",.str QaC)]):=gs' e1;have eb:=Qr2 e2
 have em:∀(O':Qac) (a1:Option D),O'[O.length]? = some (.ins "Maker" [("most",.int M),("last_word",.str QaC)])→(Qbq "Maker" "begin_row" Qci (Qab 0) Qae) [some (.ob O.length),a1] O'=Qci [.ob O.length] O':=fun O' a1 h'=>by
  rw [QeC];simp only [Qbm,zp,Qaq];unfold meF;dsimp only;rw [h'];rfl
 have p1':∀ρ,puF ["Maker"] "last_word" (.str [119,104,111,108,101]) ρ (.ok (.ob O.length) ((O ++ [Ob.ins "Maker" []]).set O.length (.ins "Maker" (putD "most" (.int M) []))))=_:=p1;have f1:QbK ["Maker"] "most" (Qab 0) (mG (Qab 1)) [some (.ob O.length),some (.int M)] (O ++ [Ob.ins "Maker" []])=_:=(by simp only [Qh1,m_g,QuN,QhX,Qbm,zp,zx,Qaq,p0]; rfl);have f2:QbK ["Maker"] "last_word" (Qab 0) (mC (.str [119,104,111,108,101])) [some (.ob O.length),some (.int M)] ((O ++ [Ob.ins "Maker" []]).set O.length (.ins "Maker" (putD "most" (.int M) [])))=_:=(by simp only [Qh1,m_c,QhX,Qbm,zp,zx,Qaq,p1']; rfl)
 obtain ⟨S2,hS⟩:∃S2,S2=((O ++ [Ob.ins "Maker" []]).set O.length (.ins "Maker" (putD "most" (.int M) []))).set O.length (.ins "Maker" (putD "last_word" (.str QaC) (putD "most" (.int M) []))):=⟨_,rfl⟩
 have f2':QbK ["Maker"] "last_word" (Qab 0) (mC (.str [119,104,111,108,101])) [some (.ob O.length),some (.int M)] ((O ++ [Ob.ins "Maker" []]).set O.length (.ins "Maker" (putD "most" (.int M) []))) = .nx [some (.ob O.length),some (.int M)] S2:=by rw [hS]; exact f2
 rw [←hS] at e2 eb
 have f3:Qh9 (Qbq "Maker" "begin_row" Qci (Qab 0) Qae) [some (.ob O.length),some (.int M)] S2 = .nx [some (.ob O.length),some (.int M)] ((S2 ++ [Ob.ml []]).set O.length (mkO M QaC S2.length 46 46 false)):=by
  rw [QhO,em _ _ e2,eb,QgK]
 show QbA (Qcq [some (.ob O.length),some (.int M)] (O ++ [Ob.ins "Maker" []]))=_;unfold Qcq;rw [QaS (QmN (Qrn (Qsh M h _) _)),QaS (QfN f1),QaS (QfN f2'),QaS (QfN f3)];show Res.ok D.non _=_;rw [hS];congr 1;simp [List.set_append]
theorem Qna {M:Int} (h:1≤M∧M≤200) {ma:L2.M (List D)}{ρ:Qal}{O:Qac} (hm:ma ρ O = .ok [.int M] O):QdW "Maker" QaK ma ρ O = .ok (.ob O.length) (O ++ [mkO M QaC (O.length+1) 46 46 false,.ml []]):=by
 unfold QdW;rw [hm];dsimp only;rw [QoM M h]
theorem Qt7 {M:Int} (h:1≤M∧M≤200) {ma:L2.M (List D)}{ρ:Qal}{O:Qac} (hm:ma ρ O = .ok [.int M] O):Qc7 "Maker" QaK ma ρ O = .ok (.ob O.length) (O ++ [mkO M QaC (O.length+1) 46 46 false,.ml []]):=by
 rw [Qux,hm,Qaq,QoM M h,QuK]
theorem QkB {d:D} (h:NoM d) {ma:L2.M (List D)}{ρ:Qal}{O:Qac} (hm:ma ρ O = .ok [d] O):QdW "Maker" QaK ma ρ O = .ex ⟨"NoSize",[]⟩ (O ++ [.ins "Maker" []]):=by
 unfold QdW;rw [hm];dsimp only;rw [Qp5 h]
def kSz:D:=.tup [.str [115,105,122,101],.int 0]
def kSg (p:Int):D:=.tup [.str [115,105,103,110],.int p]
def kTl:D:=.tup [.str [116,111,108,100],.int 0]
theorem QjV {O:Qac}{n:Nat} (h:O[n]? = some (.xc "NoSize" [])):Qc5 [.ob n] O = .ok kSz O:=by
 have q:∀tb b,List.lookup ("NoSize":Str) tb=some b→Qbv (QeR tb (Qab 0)) [some (.ob n)] O = .ok b O:=fun tb b e=>by
  rw [Qgq,Qu4 rfl h e];rfl
 show QbA (Qef [some (.ob n)] O)=_;unfold Qef;rw [QaS (ifN (q _ false rfl)),QaS (ifN (Qmm (QuW (q _ true rfl) (q _ false rfl)) (by rw [QeE,q _ true rfl]; rfl))),Qhd ((ifY (q _ true rfl)).trans rfl)];rfl
theorem Qn2 {O:Qac}{n:Nat}{p:Int} (h:O[n]? = some (.xc "NoSign" [("at",.int p)])):Qc5 [.ob n] O = .ok (kSg p) O:=by
 have q:∀tb b,List.lookup ("NoSign":Str) tb=some b→Qbv (QeR tb (Qab 0)) [some (.ob n)] O = .ok b O:=fun tb b e=>by
  rw [Qgq,Qu4 rfl h e];rfl
 have f:QiD "at" ["NoSign"] (Qab 0) [some (.ob n)] O = .ok (.int p) O:=Qx3 rfl h (by decide) rfl
 have w:Qbv (Qat QcH (Qaa (QiD "at" ["NoSign"] (Qab 0)) Qae)) [some (.ob n)] O = .ok true O:=by
  rw [Qgq,QbX (ma1 f),Qo0];rfl
 show QbA (Qef [some (.ob n)] O)=_;unfold Qef;rw [QaS (ifN (q _ false rfl)),QaS (ifN (Qmm (and_f (q _ false rfl)) (by rw [QeE,q _ true rfl]; rfl))),QaS (ifN (q _ false rfl))];rw [Qhd ((ifY (QtC (q _ true rfl) w)).trans (by rw [QcP,Qsk (maS rfl (ma1 f)) (show (2:Nat)≤1000000 by decide),Qco]))];rfl
theorem QgX {g:MG}{b:MS}{d:D}{ds:List D}{ρ ρ1 ρ2:Qal}{O O2:Qac} (hg:g d ρ=some ρ1) (hb:b ρ1 O = .nx ρ2 O2):Qa5 g b (d::ds) ρ O=Qa5 g b ds ρ2 O2:=by
 rw [Qa5,hg];dsimp only;rw [hb]
def bRo:MS:=(Qaj (msN (Qgv 3 (Qbq "Maker" "put" Qb1 (Qab 2) (Qaa (Qab 4) Qae))))
  Qay)
theorem QoW {o:Nat}{M:Int} (hM:1≤M∧M≤200) (a0 a1:Option D):∀(its:List It3) (O:Qac) (lw:List Nat) (s:Sta) (T:List D) (o4:Option D),(∀x∈its,Itm x.2.1 x.2.2)→T.length+its.length≤10000→Mk O o M lw s→OkS M s →
  ∃O' lw' s' T' o4',Qa5 (mgN 4) bRo (its.map itD) [a0,a1,some (.ob o),some (.lst T),o4] O = .nx [a0,a1,some (.ob o),some (.lst T'),o4'] O'∧Mk O' o M lw' s'
 | [],O,lw,s,T,o4,_,_,h,_=>⟨O,lw,s,T,o4,rfl,h⟩
 | x::its,O,lw,s,T,o4,hi,hl,h,hs=>by
  have it:=hi x zB;simp only [zq] at hl;obtain ⟨O1,told,q,m1,p1,sp,kp⟩:=Qs7 (p:=x.1) h hs hM.2 it;obtain ⟨n,e,_⟩:=id h
  have tl:told.length≤1:=by
   rcases p1 with ⟨rfl,_⟩ | ⟨n',r,w,rfl,_⟩
   ·exact Nat.zero_le _
   ·exact zc _
  obtain ⟨O',lw',s',T',o4',e2,h2⟩:=QoW hM a0 a1 its O1 _ _ (T++told) (some (itD x)) (fun y hy=>hi y (zv _ hy)) (by rw [zu]; omega) m1 (hs.stp hM.1 it);refine ⟨O',lw',s',T',o4',?_,h2⟩
  have eb:(Qgv 3 (Qbq "Maker" "put" Qb1 (Qab 2) (Qaa (Qab 4) Qae))) [a0,a1,some (.ob o),some (.lst T),some (itD x)] O = .nx [a0,a1,some (.ob o),some (.lst (T++told)),some (itD x)] O1:=by
   rw [QqM,QeC];simp only [Qbm,zp,zx,Qaq,QiI (m:="put") (by decide) (by decide) (by decide) (by decide) (by decide) e,QcM,QbO];have q':Qb1 [.ob o,itD x] O = .ok (.lst told) O1:=q;rw [q',Qqc (ds:=T) rfl (by omega)];rfl
  have eb':bRo [a0,a1,some (.ob o),some (.lst T),some (itD x)] O = .nx [a0,a1,some (.ob o),some (.lst (T++told)),some (itD x)] O1:=by
   unfold bRo;rw [QaS (QfN eb)];rfl
  rw [zf,QgX (ρ1:=[a0,a1,some (.ob o),some (.lst T),some (itD x)]) rfl eb'];exact e2
theorem QvA (M:Int) (O:Qac):Mk (O ++ [mkO M QaC (O.length+1) 46 46 false,.ml []]) O.length M QaC s0:=⟨O.length+1,by simp [s0],by simp [s0]⟩
theorem QuJ {M:Int} (hM:1≤M∧M≤200) (t:List Nat) (ht:Okt t) (hl:t.length≤5000) (O:Qac):∃O' d,Qdp [.str t,.int M] O = .ok d O':=by
 obtain ⟨its,hit,hi,hil⟩:=QmB t.length t 0 (zc _) (fun c hc=>by
  have:=ht.ok c hc
  omega)
 have m0:=QvA M O;have en:=Qna hM (ma:=Qaa (Qab 1) Qae) (ρ:=[some (.str t),some (.int M),none,none,none]) (O:=O) rfl
 generalize hO1:O ++ [mkO M QaC (O.length+1) 46 46 false,.ml []]=O1 at m0 en
 obtain ⟨O2,ei,keep⟩:=QpN t ht O1;rw [hit] at ei
 have m1:Mk O2 O.length M QaC s0:=by
  obtain ⟨n,a,b⟩:=m0;exact ⟨n,keep _ _ a,keep _ _ b⟩
 obtain ⟨O3,lw,s',T,o4,e,m3⟩:=QoW hM (some (.str t)) (some (.int M)) its O2 QaC s0 [] none hi (by simp; omega) m1 (Qmr hM.1);obtain ⟨n,f1,f2⟩:=id m3;have eo:=Qqn f1 f2
 have t3:(Qbq "Maker" "open_letters" Qbc (Qab 2) Qae) [some (.str t),some (.int M),some (.ob O.length),some (.lst T),o4] O3 = .ok (.lst (s'.row.map dL)) O3:=by
  rw [QeC];simp only [Qbm,zp,zx,Qaq,QiI (m:="open_letters") (by decide) (by decide) (by decide) (by decide) (by decide) f1,QbO,eo]
 have t4:Qki (Qaw (Qbn (Qaa (Qab 3) (Qaa (mMl (Qbq "Maker" "open_letters" Qbc (Qab 2) Qae)) Qae)))) [some (.str t),some (.int M),some (.ob O.length),some (.lst T),o4] O3 = .rt (.tup [.lst T,.ob O3.length]) (O3 ++ [.ml (s'.row.map dL)]):=by
  simp only [QsM,QcP,Qo5,QcM,QbO,Qbm,zp,zx,Qaq,QrG,t3,zq,zI,Nat.reduceAdd,Nat.reduceLeDiff,if_true,Qco,Qq4]
 refine ⟨O3 ++ [.ml (s'.row.map dL)],.tup [.lst T,.ob O3.length],?_⟩;show QbA (Qdo [some (.str t),some (.int M),none,none,none] O)=_;unfold Qdo;rw [QaS (Qse en),QaS (QfN (Qc3 (d:=.lst []) (Qns rfl (Nat.zero_le _))))];show QbA (Qaj (Qct (QdV (QdH Qfp (Qaa (Qab 0) Qae))) (mgN 4) bRo) _ [some (.str t),some (.int M),some (.ob O.length),some (.lst []),none] O1)=_;rw [QaS ((QpD (Qwi ((Qix (ds:=[.str t]) rfl).trans ei))).trans e),Qhd (Qp4 t4)];rfl
theorem Qhx {d:D} (h:NoM d) (t:D) (O:Qac):Qdp [t,d] O = .ex ⟨"NoSize",[]⟩ (O ++ [.ins "Maker" []]):=by
 show QbA (Qdo [some t,some d,none,none,none] O)=_;unfold Qdo;rw [Qfg (Qoo (QkB h rfl))];rfl
theorem Qj7 {M:Int} (hM:1≤M∧M≤200) {t:D}{x:Xc} (hb:∀O,QcF [t] O = .ex x O) (O:Qac):∃O',Qdp [t,.int M] O = .ex x O':=by
 have en:=Qna hM (ma:=Qaa (Qab 1) Qae) (ρ:=[some t,some (.int M),none,none,none]) (O:=O) rfl;refine ⟨O ++ [mkO M QaC (O.length+1) 46 46 false,.ml []] ++ [RO [] 0],?_⟩;show QbA (Qdo [some t,some (.int M),none,none,none] O)=_;unfold Qdo;rw [QaS (Qse en),QaS (QfN (Qc3 (d:=.lst []) (Qns rfl (Nat.zero_le _)))),Qfg (QtV (Qsm ((Qix (ds:=[t]) rfl).trans (Qo1 (hb _)))))];rfl
theorem Qpq {t:D}{d:D}{O O':Qac}{r:D} (h:Qdp [t,d] O = .ok r O'):QbC [t,d] O = .ok kTl O':=by
 show QbA (QcJ [some t,some d,none] O)=_;unfold QcJ;rw [QaS (Qva ((Qix (ds:=[t,d]) rfl).trans h))];rfl
theorem QgS {t:D}{d:D}{O O':Qac} (h:Qdp [t,d] O = .ex ⟨"NoSize",[]⟩ O'):QbC [t,d] O = .ok kSz (O' ++ [.xc "NoSize" []]):=by
 show QbA (QcJ [some t,some d,none] O)=_;unfold QcJ;rw [Qhd ((QlB ((Qix (ds:=[t,d]) rfl).trans h)).trans (Qkc (by decide) (show Qaw (Qat Qc5 (Qaa (Qab 2) Qae)) [some t,some d,some (.ob O'.length)] (O' ++ [.xc "NoSize" []]) = .rt kSz (O' ++ [.xc "NoSize" []]) by rw [QcP,QbX (ds:=[.ob O'.length]) rfl,QjV apN,Qco])))];rfl
theorem Qjq {t:D}{d:D}{O O':Qac}{p:Int} (h:Qdp [t,d] O = .ex ⟨"NoSign",[("at",.int p)]⟩ O'):QbC [t,d] O = .ok (kSg p) (O' ++ [.xc "NoSign" [("at",.int p)]]):=by
 show QbA (QcJ [some t,some d,none] O)=_;unfold QcJ;rw [Qhd ((QlB ((Qix (ds:=[t,d]) rfl).trans h)).trans (Qkc (show List.contains [("NoSize":Str),"NoSign"] "NoSign" = true by decide) (show Qaw (Qat Qc5 (Qaa (Qab 2) Qae)) [some t,some d,some (.ob O'.length)] (O' ++ [.xc "NoSign" [("at",.int p)]]) = .rt (kSg p) (O' ++ [.xc "NoSign" [("at",.int p)]]) by rw [QcP,QbX (ds:=[.ob O'.length]) rfl,Qn2 apN,Qco])))];rfl
theorem Qn4 {d:D} (h:NoM d) (O:Qac):∃O',Qed [d] O = .ok kSz O':=by
 refine ⟨O ++ [.ins "Maker" []] ++ [.xc "NoSize" []],?_⟩;show QbA (Qeb [some d,none] O)=_;unfold Qeb;rw [Qhd ((QlB (QkB h rfl)).trans (Qkc (by decide) (show Qaw (Qat Qc5 (Qaa (Qab 1) Qae)) [some d,some (.ob (O ++ [Ob.ins "Maker" []]).length)] (O ++ [.ins "Maker" []] ++ [.xc "NoSize" []]) = .rt kSz (O ++ [.ins "Maker" []] ++ [.xc "NoSize" []]) by rw [QcP,QbX (ds:=[.ob (O ++ [Ob.ins "Maker" []]).length]) rfl,QjV apN,Qco])))];rfl
theorem Qqi {M:Int} (hM:1≤M∧M≤200) (O:Qac):∃O',Qed [.int M] O = .ok kTl O':=by
 refine ⟨O ++ [mkO M QaC (O.length+1) 46 46 false,.ml []],?_⟩;show QbA (Qeb [some (.int M),none] O)=_;unfold Qeb;rw [QaS (Qva (Qna hM rfl))];rfl
theorem Qrh {α:Type} (l:List α) (b:Nat):Qdm l none (some (b:Int))=l.take b:=by
 unfold Qdm;rw [HT.sIx_nat,HT.sIx_none,List.drop_zero,Nat.sub_zero]
 by_cases hb:b≤l.length
 ·rw [Nat.min_eq_left hb]
 ·rw [Nat.min_eq_right (by omega),List.take_of_length_le (by omega),List.take_of_length_le (by omega)]
theorem QvX {α:Type} (l:List α) (a:Nat):Qdm l (some (a:Int)) none=l.drop a:=by
 unfold Qdm;rw [HT.sIx_nat,HT.sIx_none]
 by_cases h:a≤l.length
 ·rw [Nat.min_eq_left h,List.take_of_length_le (by rw [List.length_drop]; omega)]
 ·rw [Nat.min_eq_right (by omega),List.drop_eq_nil_of_le (by omega),List.drop_eq_nil_of_le (by omega)];simp
theorem Quk {pre:List D}{x:D}:gIx (.lst (pre ++ [x])) (.int (-1))=some x:=by
 rw [Qpx]
 have q:atI (pre ++ [x]) (-1)=(pre ++ [x])[pre.length]?:=by
  have z:ixN (pre ++ [x]).length (-1)=some pre.length:=by
   unfold ixN;rw [zu,zW,if_neg (by omega),if_pos (by omega)];congr 1;omega
  unfold atI;rw [z];rfl
 rw [q,zw (zc _),Nat.sub_self];rfl
theorem QwZ {m:L2.M D}{ρ:Qal}{O:Qac}{i:Int} (h:m ρ O = .ok (.int i) O):moS m ρ O = .ok (some i) O:=by rw [QxS,h,Qaq,Qwm]
theorem Qum {m:L2.M D}{ρ:Qal}{O:Qac}{t:List Nat} (h:m ρ O = .ok (.str t) O) (hz:t.length≤1000000):QaY QbN (Qaa m Qae) ρ O = .ok (.int (t.length:Int)) O:=QnF (xs:=[.str t]) (ma1 h) (by
 show QbN [D.str t]=_
 rw [Quu,if_pos hz])
theorem Qth {a b:L2.M D}{ρ:Qal}{O:Qac}{x y:List Nat} (ha:a ρ O = .ok (.str x) O) (hb:b ρ O = .ok (.str y) O) (hl:x.length+y.length≤1000000):Qaf Qce a b ρ O = .ok (.str (x++y)) O:=QbE ha hb (by rw [Qc1,Qc1,QuP,if_pos hl])
def bTu:MS:=(Qaj (Qas 5 (Qaf gIx (Qab 0) (Qab 4)))
  (Qaj (Qas 6 (Qaf Qbz (Qat QaR (Qaa (Qab 5) (Qaa (mC (.int 5)) Qae))) (mC (.int 3))))
  (Qaj (Qas 7 (QaY QbN (Qaa (Qaf gIx (Qat Qcu (Qaa (Qaf gIx (Qab 3) (Qab 6)) (Qaa (Qaf gIx (Qab 1) (Qab 6)) Qae))) (mC (.int 0))) Qae)))
  (Qaj (Qas 8 (Qaf gIx (Qa0 (Qaa (mC (.str [115,105,103,110])) (Qaa (mC (.str [115,105,103,110])) (Qaa (mC (.str [105,110,107])) (Qaa (mC (.str [101,110,100])) (Qaa (mC (.str [97,110,101,119])) (Qaa (mC (.str [115,105,103,110])) Qae))))))) (Qaf Qbz (Qat QaR (Qaa (Qab 5) (Qaa (mC (.int 6)) Qae))) (mC (.int 6)))))
  (Qaj (Qas 9 (Qaf gIx (Qa0 (Qaa (mC (.str [])) (Qaa (Qaf gIx (mC (.str [97,98,99])) (Qaf Qbz (Qat QaR (Qaa (Qab 5) (Qaa (mC (.int 7)) Qae))) (mC (.int 3)))) Qae))) (QaY Qj9 (Qaa (Qln (Qaf gEq (Qab 8) (mC (.str [115,105,103,110]))) (Qaf gEq (Qab 8) (mC (.str [105,110,107])))) Qae))))
  (Qaj (QfT (Qaf gIx (Qab 3) (Qab 6)) (Qbn (Qaa (Qab 4) (Qaa (Qab 8) (Qaa (Qab 9) Qae)))))
  (Qaj (QjL (Qat Qcu (Qaa (Qaf gIx (Qab 3) (Qab 6)) (Qaa (Qaf gIx (Qab 1) (Qab 6)) Qae))) (Qfq 2 (Qa6 (mgN 10) (Qa6 (mgN 11) Qdi))))
  (QaT (Qca (Qbv (Qat Qch (Qaa (Qbq "Maker" "put" Qb1 (Qaf gIx (Qab 2) (Qab 6)) (Qaa (Qaf gIx (Qaf gIx (Qab 3) (Qab 6)) (mUn Qkl (mC (.int 1)))) Qae)) (Qaa (mSl (Qab 10) (moS (Qab 7)) moN) Qae))))) (Qaw (mC (.bl false))) Qay))))))))
def bEd:MS:=(QaT (Qca (Qbv (Qat Qbl (Qaa (Qbq "Maker" "open_letters" Qbc (Qaf gIx (Qab 2) (Qab 6)) Qae) (Qaa (Qaf gIx (Qat Qcu (Qaa (Qaf gIx (Qab 3) (Qab 6)) (Qaa (Qaf gIx (Qab 1) (Qab 6)) Qae))) (mC (.int 1))) Qae))))) (Qaw (mC (.bl false))) Qay)
structure Trn (O:Qac) (os ns is:Nat→Nat) (Ms:Nat→Int) (it:Nat→List It3):Prop where
 mke:∀j,j < 3→∃lw,O[os j]? = some (mkO (Ms j) lw (ns j) (rn (Ms j) s0 (it j)).1.i (rn (Ms j) s0 (it j)).1.g (rn (Ms j) s0 (it j)).1.st)
 lt:∀j,j < 3→O[ns j]? = some (.ml ((rn (Ms j) s0 (it j)).1.row.map dL))
 im:∀j,j < 3→O[is j]? = some (.ml ((it j).map itD))
 d1:∀j k,j < 3→k < 3→j≠k→os j≠os k
 d2:∀j k,j < 3→k < 3→j≠k→ns j≠ns k
 d3:∀j k,j < 3→k < 3→j≠k→is j≠is k
 d4:∀j k,j < 3→k < 3→ns j≠is k
 ok:∀j,j < 3→∀x∈it j,Itm x.2.1 x.2.2
def upA {α:Type} (f:Nat→α) (a:Nat) (x:α):Nat→α:=fun j=>if j=a then x else f j
theorem QfQ {α:Type} (f:Nat→α) (a:Nat) (x:α):upA f a x a=x:=if_pos rfl
theorem Qfo {α:Type} (f:Nat→α) {a j:Nat} (x:α) (h:j≠a):upA f a x j=f j:=if_neg h
theorem Trn.turn {O:Qac}{os ns is:Nat→Nat}{Ms:Nat→Int}{it:Nat→List It3} (I:Trn O os ns is Ms it) (hM:∀j,j < 3→1≤Ms j∧Ms j≤200) {a:Nat} (ha:a < 3) {x:It3} (hx:Itm x.2.1 x.2.2) :
  ∃O2 told ns',Qb1 [.ob (os a),itD x] (O.set (is a) (.ml ((it a ++ [x]).map itD))) = .ok (.lst told) O2∧Prt O2 told (due (Ms a) (rn (Ms a) s0 (it a)).1 x.2.1)∧Trn O2 os ns' is Ms (upA it a (it a ++ [x])):=by
 obtain ⟨lw,ea⟩:=I.mke a ha;have la:=I.lt a ha;have ia:=I.im a ha
 have n1:∀j k,j < 3→k < 3→os j≠is k:=fun j k hj hk=>by
  obtain ⟨l,e⟩:=I.mke j hj;exact QfJ e (I.im k hk)
 have n2:∀j k,j < 3→k < 3→os j≠ns k:=fun j k hj hk=>by
  obtain ⟨l,e⟩:=I.mke j hj;exact QfJ e (I.lt k hk)
 generalize hO1:O.set (is a) (.ml ((it a ++ [x]).map itD))=O1
 have g1:∀(m:Nat) (y:Ob),is a≠m→O[m]? = some y→O1[m]? = some y:=fun m y h e=>by
  rw [←hO1,ze h];exact e
 have gi:O1[is a]? = some (.ml ((it a ++ [x]).map itD)):=by rw [←hO1]; exact gs' ia
 have ea1:=g1 _ _ (Ne.symm (n1 a a ha ha)) ea;have la1:=g1 _ _ (Ne.symm (I.d4 a a ha ha)) la;obtain ⟨O2,told,q,⟨n',e2,l2⟩,p,sp,kp⟩:=Qs7 (p:=x.1) (k:=x.2.1) (v:=x.2.2) (show Mk O1 (os a) (Ms a) lw (rn (Ms a) s0 (it a)).1 from ⟨ns a,ea1,la1⟩) (QpS (hM a ha).1 (it a) s0 (Qmr (hM a ha).1) (I.ok a ha)).1 (hM a ha).2 hx
 have K:∀(m:Nat) (y:Ob),O1[m]? = some y→os a≠m→ns a≠m→O2[m]? = some y∧n'≠m:=fun m y h h1 h2=>by
  have o:=kp m y (QkO h h1 ea1 h2);exact ⟨o.1,o.2.2 _ _ _ _ _ _ e2⟩
 refine ⟨O2,told,upA ns a n',q,p,?_⟩;have rs:=Qla (Ms a) x (it a) s0;refine ⟨fun j hj=>?_,fun j hj=>?_,fun j hj=>?_,I.d1,fun j k hj hk hjk=>?_,I.d3,fun j k hj hk=>?_,fun j hj=>?_⟩
 ·by_cases h:j=a
  ·subst h;rw [QfQ,QfQ,rs];exact ⟨_,e2⟩
  ·rw [Qfo _ _ h,Qfo _ _ h];obtain ⟨l,e⟩:=I.mke j hj;exact ⟨l,(K _ _ (g1 _ _ (Ne.symm (n1 j a hj ha)) e) (I.d1 a j ha hj (Ne.symm h)) (Ne.symm (n2 j a hj ha))).1⟩
 ·by_cases h:j=a
  ·subst h;rw [QfQ,QfQ,rs];exact l2
  ·rw [Qfo _ _ h,Qfo _ _ h];exact (K _ _ (g1 _ _ (Ne.symm (I.d4 j a hj ha)) (I.lt j hj)) (n2 a j ha hj) (I.d2 a j ha hj (Ne.symm h))).1
 ·by_cases h:j=a
  ·subst h;rw [QfQ];exact (K _ _ gi (n1 j j hj hj) (I.d4 j j hj hj)).1
  ·rw [Qfo _ _ h];exact (K _ _ (g1 _ _ (I.d3 a j ha hj (Ne.symm h)) (I.im j hj)) (n1 a j ha hj) (I.d4 a j ha hj)).1
 ·by_cases h:j=a
  ·subst h;rw [QfQ,Qfo _ _ (Ne.symm hjk)];exact (K _ _ (g1 _ _ (Ne.symm (I.d4 k j hk hj)) (I.lt k hk)) (n2 j k hj hk) (I.d2 j k hj hk hjk)).2
  ·rw [Qfo _ _ h]
   by_cases h':k=a
   ·subst h';rw [QfQ];exact Ne.symm (K _ _ (g1 _ _ (Ne.symm (I.d4 j k hj hk)) (I.lt j hj)) (n2 k j hk hj) (I.d2 k j hk hj (Ne.symm hjk))).2
   ·rw [Qfo _ _ h'];exact I.d2 j k hj hk hjk
 ·by_cases h:j=a
  ·subst h;rw [QfQ]
   by_cases h':k=j
   ·subst h';exact (K _ _ gi (n1 k k hk hk) (I.d4 k k hk hk)).2
   ·exact (K _ _ (g1 _ _ (I.d3 j k hj hk (Ne.symm h')) (I.im k hk)) (n1 j k hj hk) (I.d4 j k hj hk)).2
  ·rw [Qfo _ _ h];exact I.d4 j k hj hk
 ·by_cases h:j=a
  ·subst h;rw [QfQ];intro y hy
   rcases zC.mp hy with hy | hy
   ·exact I.ok j hj y hy
   ·rw [zr.mp hy];exact hx
  ·rw [Qfo _ _ h];exact I.ok j hj
theorem ix3 (f:Nat→D) {a:Nat} (h:a < 3):gIx (.lst [f 0,f 1,f 2]) (.int (a:Int))=some (f a):=by
 match a,h with
 | 0,_=>rfl
 | 1,_=>rfl
 | 2,_=>rfl
theorem Qvt {a b:L2.M (Option Int)}{m:L2.M D}{ρ:Qal}{O:Qac}{t:List D}{x y:Option Int} (hm:m ρ O = .ok (.lst t) O) (ha:a ρ O = .ok x O) (hb:b ρ O = .ok y O):mSl m a b ρ O = .ok (.lst (Qdm t x y)) O:=by
 rw [Qvn,hm,Qaq,ha,Qaq,hb,Qaq,QfW,QtA,QbS]
theorem QsN {m:Str}{cf:List D→Qac→Res D}{mo:L2.M D}{ma:L2.M (List D)}{ρ:Qal}{O:Qac}{o n i g:Nat}{M:Int}{lw:List Nat}{st:Bool}{ds:List D} (h1:mo ρ O = .ok (.ob o) O) (e:O[o]? = some (mkO M lw n i g st)) (h2:ma ρ O = .ok ds O) (a1:m≠"most") (a2:m≠"last_word") (a3:m≠"letters") (a4:m≠"pair") (a5:m≠"stale"):Qbq "Maker" m cf mo ma ρ O=cf (.ob o::ds) O:=by
 rw [QeC,h1,Qaq,QiI a1 a2 a3 a4 a5 e,h2,Qaq]
def mVl:L2.M D:=(Qaf gIx (Qa0 (Qaa (mC (.str [])) (Qaa (Qaf gIx (mC (.str [97,98,99])) (Qaf Qbz (Qat QaR (Qaa (Qab 5) (Qaa (mC (.int 7)) Qae))) (mC (.int 3)))) Qae))) (QaY Qj9 (Qaa (Qln (Qaf gEq (Qab 8) (mC (.str [115,105,103,110]))) (Qaf gEq (Qab 8) (mC (.str [105,110,107])))) Qae)))
theorem Qwx {k:List Nat} (hk:k=QaF∨k=Qcn∨k=QcB∨k=Qcg) (n:Int) (o0 o1 o2 o3 o4 o6 o7 o9 o10 o11:Option D) (O:Qac):∃v,Itm k v∧mVl [o0,o1,o2,o3,o4,some (.int n),o6,o7,some (.str k),o9,o10,o11] O = .ok (.str v) O:=by
 obtain ⟨c,hc,ec⟩:=ixS (l:=[97,98,99]) (v:=mix n 7) (n:=3) (by decide) rfl (by decide)
 have hc':c≤125:=by
  simp at hc
  omega
 have e7:Qaf gIx (mC (.str [97,98,99])) (Qaf Qbz (Qat QaR (Qaa (Qab 5) (Qaa (mC (.int 7)) Qae))) (mC (.int 3))) [o0,o1,o2,o3,o4,some (.int n),o6,o7,some (.str k),o9,o10,o11] O = .ok (.str [c]) O:=QbE rfl (Qf2 ((QbX (ds:=[.int n,.int 7]) rfl).trans (Qhl n 7 (by decide) (by decide) O)) rfl (by decide)) ec;have el:Qa0 (Qaa (mC (.str [])) (Qaa (Qaf gIx (mC (.str [97,98,99])) (Qaf Qbz (Qat QaR (Qaa (Qab 5) (Qaa (mC (.int 7)) Qae))) (mC (.int 3)))) Qae)) [o0,o1,o2,o3,o4,some (.int n),o6,o7,some (.str k),o9,o10,o11] O = .ok (.lst [.str [],.str [c]]) O:=Qns (maS rfl (ma1 e7)) (show (2:Nat)≤1000000 by decide)
 rcases hk with rfl | rfl | rfl | rfl
 ·exact ⟨[c],Itm.sign c hc',QbE el (y:=.int 1) rfl rfl⟩
 ·exact ⟨[c],Itm.ink c hc',QbE el (y:=.int 1) rfl rfl⟩
 ·exact ⟨[],Itm.end_,QbE el (y:=.int 0) rfl rfl⟩
 ·exact ⟨[],Itm.anew,QbE el (y:=.int 0) rfl rfl⟩
theorem Qv7 (n:Int) (ρ:Qal) (h5:ρ[5]? = some (some (.int n))) (O:Qac):∃k,(k=QaF∨k=Qcn∨k=QcB∨k=Qcg)∧Qaf gIx (Qa0 (Qaa (mC (.str [115,105,103,110])) (Qaa (mC (.str [115,105,103,110])) (Qaa (mC (.str [105,110,107])) (Qaa (mC (.str [101,110,100])) (Qaa (mC (.str [97,110,101,119])) (Qaa (mC (.str [115,105,103,110])) Qae))))))) (Qaf Qbz (Qat QaR (Qaa (Qab 5) (Qaa (mC (.int 6)) Qae))) (mC (.int 6))) ρ O = .ok (.str k) O:=by
 obtain ⟨d,hd,e⟩:=ixL (l:=[.str QaF,.str QaF,.str Qcn,.str QcB,.str Qcg,.str QaF]) (v:=mix n 6) (n:=6) rfl (by decide)
 have v5:Qab 5 ρ O = .ok (.int n) O:=by rw [Qbm,h5]
 have em:Qaf Qbz (Qat QaR (Qaa (Qab 5) (Qaa (mC (.int 6)) Qae))) (mC (.int 6)) ρ O = .ok (.int (mix n 6 % 6)) O:=Qf2 ((QbX (ds:=[.int n,.int 6]) (maS v5 rfl)).trans (Qhl n 6 (by decide) (by decide) O)) rfl (by decide)
 have key:∀k:List Nat,d = .str k→Qaf gIx (Qa0 (Qaa (mC (.str [115,105,103,110])) (Qaa (mC (.str [115,105,103,110])) (Qaa (mC (.str [105,110,107])) (Qaa (mC (.str [101,110,100])) (Qaa (mC (.str [97,110,101,119])) (Qaa (mC (.str [115,105,103,110])) Qae))))))) (Qaf Qbz (Qat QaR (Qaa (Qab 5) (Qaa (mC (.int 6)) Qae))) (mC (.int 6))) ρ O = .ok (.str k) O:=fun k hk=>QbE (x:=.lst [.str QaF,.str QaF,.str Qcn,.str QcB,.str Qcg,.str QaF]) rfl em (by rw [←hk]; exact e)
 simp at hd
 rcases hd with h | h | h | h | h
 ·exact ⟨QaF,.inl rfl,key _ h⟩
 ·exact ⟨Qcn,.inr (.inl rfl),key _ h⟩
 ·exact ⟨QcB,.inr (.inr (.inl rfl)),key _ h⟩
 ·exact ⟨Qcg,.inr (.inr (.inr rfl)),key _ h⟩
 ·exact ⟨QaF,.inl rfl,key _ h⟩
def mkL (os:Nat→Nat):D:=.lst [.ob (os 0),.ob (os 1),.ob (os 2)]
def msL (Ms:Nat→Int):D:=.lst [.int (Ms 0),.int (Ms 1),.int (Ms 2)]
theorem QmP {O:Qac}{os ns is:Nat→Nat}{Ms:Nat→Int}{its:List It3}{a:Nat} (ha:a < 3) (hM:1≤Ms a∧Ms a≤200) (hi:∀x∈its,Itm x.2.1 x.2.2) (hl:its.length≤100) (hn:O[is a]? = some (.ml (its.map itD))) {ρ:Qal} (h1:ρ[1]? = some (some (msL Ms))) (h3:ρ[3]? = some (some (mkL is))) (h6:ρ[6]? = some (some (.int (a:Int)))) :
  Qat Qcu (Qaa (Qaf gIx (Qab 3) (Qab 6)) (Qaa (Qaf gIx (Qab 1) (Qab 6)) Qae)) ρ O = .ok (.tup [.lst ((rn (Ms a) s0 its).2.map Qbw),.lst ((rn (Ms a) s0 its).1.row.map dL)]) O:=by
 have v1:Qab 1 ρ O = .ok (msL Ms) O:=by rw [Qbm,h1]
 have v3:Qab 3 ρ O = .ok (mkL is) O:=by rw [Qbm,h3]
 have v6:Qab 6 ρ O = .ok (.int (a:Int)) O:=by rw [Qbm,h6]
 exact (QbX (maS (QbE v3 v6 (ix3 (fun j=>.ob (is j)) ha)) (ma1 (QbE v1 v6 (ix3 (fun j=>.int (Ms j)) ha))))).trans (QrI hM its hi (by omega) hn)
theorem ixk {ns:List Int}{k:Nat}{n:Int} (h:ns[k]? = some n):gIx (.lst (ns.map D.int)) (.int (k:Int))=some (.int n):=by
 rw [Qpx,Qjc,zJ,h];rfl
theorem Qtd {O:Qac}{os ns is:Nat→Nat}{Ms:Nat→Int}{it:Nat→List It3} (I:Trn O os ns is Ms it) (hM:∀j,j < 3→1≤Ms j∧Ms j≤200) {q:Nat} (hq:q≤50) (hl:∀j,j < 3→(it j).length≤q) {sc:List Int}{k:Nat}{n:Int} (hk:sc[k]? = some n) (o5 o6 o7 o8 o9 o10 o11:Option D) :
  ∃O' ns' it' p5 p6 p7 p8 p9 p10 p11,bTu [some (.lst (sc.map D.int)),some (msL Ms),some (mkL os),some (mkL is),some (.int (k:Int)),o5,o6,o7,o8,o9,o10,o11] O = .nx [some (.lst (sc.map D.int)),some (msL Ms),some (mkL os),some (mkL is),some (.int (k:Int)),p5,p6,p7,p8,p9,p10,p11] O'∧Trn O' os ns' is Ms it'∧∀j,j < 3→(it' j).length≤q+1:=by
 obtain ⟨a,ha,ea⟩:∃a:Nat,a < 3∧mix n 5 % 3=(a:Int):=⟨(mix n 5 % 3).toNat,by omega,by omega⟩
 have e5:∀o6:Option D,Qaf Qbz (Qat QaR (Qaa (Qab 5) (Qaa (mC (.int 5)) Qae))) (mC (.int 3)) [some (.lst (sc.map D.int)),some (msL Ms),some (mkL os),some (mkL is),some (.int (k:Int)),some (.int n),o6,o7,o8,o9,o10,o11] O = .ok (.int (a:Int)) O:=fun o6=>by
  rw [←ea];exact Qf2 ((QbX (ds:=[.int n,.int 5]) rfl).trans (Qhl n 5 (by decide) (by decide) O)) rfl (by decide)
 have hMa:=hM a ha;have hla:=hl a ha;have c1:=QmP (os:=os) (ns:=ns) (is:=is) (ρ:=[some (.lst (sc.map D.int)),some (msL Ms),some (mkL os),some (mkL is),some (.int (k:Int)),some (.int n),some (.int (a:Int)),o7,o8,o9,o10,o11]) ha hMa (I.ok a ha) (by omega) (I.im a ha) rfl rfl rfl;obtain ⟨kd,hkd,ekd⟩:=Qv7 n [some (.lst (sc.map D.int)),some (msL Ms),some (mkL os),some (mkL is),some (.int (k:Int)),some (.int n),some (.int (a:Int)),some (.int ((rn (Ms a) s0 (it a)).2.length:Int)),o8,o9,o10,o11] rfl O;obtain ⟨v,hv,ev⟩:=Qwx hkd n (some (.lst (sc.map D.int))) (some (msL Ms)) (some (mkL os)) (some (mkL is)) (some (.int (k:Int))) (some (.int (a:Int))) (some (.int ((rn (Ms a) s0 (it a)).2.length:Int))) o9 o10 o11 O
 obtain ⟨O2,told,ns',ep,pr,I2⟩:=I.turn hM ha (x:=((k:Int),kd,v)) hv;have gi:(O.set (is a) (.ml ((it a ++ [((k:Int),kd,v)]).map itD)))[is a]? = some (.ml ((it a ++ [((k:Int),kd,v)]).map itD)):=gs' (I.im a ha)
 have gm:∃lw,(O.set (is a) (.ml ((it a ++ [((k:Int),kd,v)]).map itD)))[os a]? = some (mkO (Ms a) lw (ns a) (rn (Ms a) s0 (it a)).1.i (rn (Ms a) s0 (it a)).1.g (rn (Ms a) s0 (it a)).1.st):=by
  obtain ⟨lw,e⟩:=I.mke a ha;exact ⟨lw,by rw [ze (Ne.symm (QfJ e (I.im a ha)))]; exact e⟩
 obtain ⟨lw,gm⟩:=gm
 have ap:QfT (Qaf gIx (Qab 3) (Qab 6)) (Qbn (Qaa (Qab 4) (Qaa (Qab 8) (Qaa (Qab 9) Qae)))) [some (.lst (sc.map D.int)),some (msL Ms),some (mkL os),some (mkL is),some (.int (k:Int)),some (.int n),some (.int (a:Int)),some (.int ((rn (Ms a) s0 (it a)).2.length:Int)),some (.str kd),some (.str v),o10,o11] O = .nx [some (.lst (sc.map D.int)),some (msL Ms),some (mkL os),some (mkL is),some (.int (k:Int)),some (.int n),some (.int (a:Int)),some (.int ((rn (Ms a) s0 (it a)).2.length:Int)),some (.str kd),some (.str v),o10,o11] (O.set (is a) (.ml ((it a ++ [((k:Int),kd,v)]).map itD))):=by
  have z:=Qlz (mo:=Qaf gIx (Qab 3) (Qab 6)) (m:=Qbn (Qaa (Qab 4) (Qaa (Qab 8) (Qaa (Qab 9) Qae)))) (ρ:=[some (.lst (sc.map D.int)),some (msL Ms),some (mkL os),some (mkL is),some (.int (k:Int)),some (.int n),some (.int (a:Int)),some (.int ((rn (Ms a) s0 (it a)).2.length:Int)),some (.str kd),some (.str v),o10,o11]) (n:=is a) (d:=itD ((k:Int),kd,v)) (QbE (x:=mkL is) (y:=.int (a:Int)) rfl rfl (ix3 (fun j=>.ob (is j)) ha)) (I.im a ha) (Qsk rfl (show (3:Nat)≤1000000 by decide)) (by rw [zD]; omega);rw [z,zO];rfl
 generalize hO1:O.set (is a) (.ml ((it a ++ [((k:Int),kd,v)]).map itD))=O1 at ep gi gm ap
 have c2:=QmP (os:=os) (ns:=ns) (is:=is) (ρ:=[some (.lst (sc.map D.int)),some (msL Ms),some (mkL os),some (mkL is),some (.int (k:Int)),some (.int n),some (.int (a:Int)),some (.int ((rn (Ms a) s0 (it a)).2.length:Int)),some (.str kd),some (.str v),o10,o11]) ha hMa (fun y hy=>by
  rcases zC.mp hy with hy | hy
  ·exact I.ok a ha y hy
  ·rw [zr.mp hy]
   exact hv) (by rw [zu,zW]; omega) gi rfl rfl rfl
 have rs:=Qla (Ms a) ((k:Int),kd,v) (it a) s0
 have r2:((rn (Ms a) s0 (it a ++ [((k:Int),kd,v)])).2).map Qbw=(rn (Ms a) s0 (it a)).2.map Qbw++(due (Ms a) (rn (Ms a) s0 (it a)).1 kd).map Qbw:=by rw [rs,zO]
 rw [r2] at c2
 generalize hR:D.lst ((rn (Ms a) s0 (it a ++ [((k:Int),kd,v)])).1.row.map dL)=R at c2
 have epr:=QtM pr;refine ⟨O2,ns',upA it a (it a ++ [((k:Int),kd,v)]),some (.int n),some (.int (a:Int)),some (.int ((rn (Ms a) s0 (it a)).2.length:Int)),some (.str kd),some (.str v),some (.lst ((rn (Ms a) s0 (it a)).2.map Qbw++(due (Ms a) (rn (Ms a) s0 (it a)).1 kd).map Qbw)),some R,?_,I2,fun j hj=>?_⟩
 ·have last:Qaf gIx (Qaf gIx (Qab 3) (Qab 6)) (mUn Qkl (mC (.int 1))) [some (.lst (sc.map D.int)),some (msL Ms),some (mkL os),some (mkL is),some (.int (k:Int)),some (.int n),some (.int (a:Int)),some (.int ((rn (Ms a) s0 (it a)).2.length:Int)),some (.str kd),some (.str v),some (.lst ((rn (Ms a) s0 (it a)).2.map Qbw++(due (Ms a) (rn (Ms a) s0 (it a)).1 kd).map Qbw)),some R] O1 = .ok (itD ((k:Int),kd,v)) O1:=QbE (x:=.ob (is a)) (y:=.int (-1)) (QbE (x:=mkL is) (y:=.int (a:Int)) rfl rfl (ix3 (fun j=>.ob (is j)) ha)) rfl (by
   rw [Qiz gi,Qb5,zO]
   exact Quk)
  have put:Qbq "Maker" "put" Qb1 (Qaf gIx (Qab 2) (Qab 6)) (Qaa (Qaf gIx (Qaf gIx (Qab 3) (Qab 6)) (mUn Qkl (mC (.int 1)))) Qae) [some (.lst (sc.map D.int)),some (msL Ms),some (mkL os),some (mkL is),some (.int (k:Int)),some (.int n),some (.int (a:Int)),some (.int ((rn (Ms a) s0 (it a)).2.length:Int)),some (.str kd),some (.str v),some (.lst ((rn (Ms a) s0 (it a)).2.map Qbw++(due (Ms a) (rn (Ms a) s0 (it a)).1 kd).map Qbw)),some R] O1 = .ok (.lst told) O2:=(QsN (QbE (x:=mkL os) (y:=.int (a:Int)) rfl rfl (ix3 (fun j=>.ob (os j)) ha)) gm (ma1 last) (by decide) (by decide) (by decide) (by decide) (by decide)).trans ep
  have cut:mSl (Qab 10) (moS (Qab 7)) moN [some (.lst (sc.map D.int)),some (msL Ms),some (mkL os),some (mkL is),some (.int (k:Int)),some (.int n),some (.int (a:Int)),some (.int ((rn (Ms a) s0 (it a)).2.length:Int)),some (.str kd),some (.str v),some (.lst ((rn (Ms a) s0 (it a)).2.map Qbw++(due (Ms a) (rn (Ms a) s0 (it a)).1 kd).map Qbw)),some R] O2 = .ok (.lst ((due (Ms a) (rn (Ms a) s0 (it a)).1 kd).map Qbw)) O2:=by
   rw [Qvt (x:=some ((rn (Ms a) s0 (it a)).2.length:Int)) (y:=none) rfl rfl rfl,QvX,List.drop_append_of_le_length (by rw [zD]; exact zc _),List.drop_eq_nil_of_le (by rw [zD]; exact zc _),jc]
  unfold bTu;unfold mVl at ev
  rw [QaS (show Qas 5 (Qaf gIx (Qab 0) (Qab 4)) [some (.lst (sc.map D.int)),some (msL Ms),some (mkL os),some (mkL is),some (.int (k:Int)),o5,o6,o7,o8,o9,o10,o11] O = .nx [some (.lst (sc.map D.int)),some (msL Ms),some (mkL os),some (mkL is),some (.int (k:Int)),some (.int n),o6,o7,o8,o9,o10,o11] O from Qc3 (QbE rfl rfl (ixk hk))),
   QaS (show Qas 6 _ [some (.lst (sc.map D.int)),some (msL Ms),some (mkL os),some (mkL is),some (.int (k:Int)),some (.int n),o6,o7,o8,o9,o10,o11] O = .nx [some (.lst (sc.map D.int)),some (msL Ms),some (mkL os),some (mkL is),some (.int (k:Int)),some (.int n),some (.int (a:Int)),o7,o8,o9,o10,o11] O from Qc3 (e5 o6)),
   QaS (show Qas 7 _ [some (.lst (sc.map D.int)),some (msL Ms),some (mkL os),some (mkL is),some (.int (k:Int)),some (.int n),some (.int (a:Int)),o7,o8,o9,o10,o11] O = .nx [some (.lst (sc.map D.int)),some (msL Ms),some (mkL os),some (mkL is),some (.int (k:Int)),some (.int n),some (.int (a:Int)),some (.int ((rn (Ms a) s0 (it a)).2.length:Int)),o8,o9,o10,o11] O from Qc3 (by
    have z:=Qrg (QbE (g:=gIx) (b:=mC (.int 0)) (y:=.int 0) c1 rfl rfl);rw [zD] at z
    exact z)),
   QaS (show Qas 8 _ [some (.lst (sc.map D.int)),some (msL Ms),some (mkL os),some (mkL is),some (.int (k:Int)),some (.int n),some (.int (a:Int)),some (.int ((rn (Ms a) s0 (it a)).2.length:Int)),o8,o9,o10,o11] O = .nx [some (.lst (sc.map D.int)),some (msL Ms),some (mkL os),some (mkL is),some (.int (k:Int)),some (.int n),some (.int (a:Int)),some (.int ((rn (Ms a) s0 (it a)).2.length:Int)),some (.str kd),o9,o10,o11] O from Qc3 ekd),
   QaS (show Qas 9 _ [some (.lst (sc.map D.int)),some (msL Ms),some (mkL os),some (mkL is),some (.int (k:Int)),some (.int n),some (.int (a:Int)),some (.int ((rn (Ms a) s0 (it a)).2.length:Int)),some (.str kd),o9,o10,o11] O = .nx [some (.lst (sc.map D.int)),some (msL Ms),some (mkL os),some (mkL is),some (.int (k:Int)),some (.int n),some (.int (a:Int)),some (.int ((rn (Ms a) s0 (it a)).2.length:Int)),some (.str kd),some (.str v),o10,o11] O from Qc3 ev),
   QaS ap,
   QaS (show QjL _ _ [some (.lst (sc.map D.int)),some (msL Ms),some (mkL os),some (mkL is),some (.int (k:Int)),some (.int n),some (.int (a:Int)),some (.int ((rn (Ms a) s0 (it a)).2.length:Int)),some (.str kd),some (.str v),o10,o11] O1 = .nx [some (.lst (sc.map D.int)),some (msL Ms),some (mkL os),some (mkL is),some (.int (k:Int)),some (.int n),some (.int (a:Int)),some (.int ((rn (Ms a) s0 (it a)).2.length:Int)),some (.str kd),some (.str v),some (.lst ((rn (Ms a) s0 (it a)).2.map Qbw++(due (Ms a) (rn (Ms a) s0 (it a)).1 kd).map Qbw)),some R] O1 from by rw [Qvo,c2]; rfl)]
  exact ifN (QsS ((Qe6 (Qnq put (QvV cut))).trans epr))
 ·by_cases h:j=a
  ·subst h;rw [QfQ,zu,zW];omega
  ·rw [Qfo _ _ h]
   have:=hl j hj
   omega
theorem Qsd (lo:Int) (n:Nat):Qcd lo (n+1) = .int lo::Qcd (lo+1) n:=by
 unfold Qcd;rw [List.range_succ_eq_map,zf,List.map_map];congr 1
 ·simp
 ·congr 1
  funext i
  simp only [Function.comp];congr 1
  push_cast
  omega
theorem QkI {os is:Nat→Nat}{Ms:Nat→Int} (hM:∀j,j < 3→1≤Ms j∧Ms j≤200) {sc:List Int}:∀(m k:Nat) (O:Qac) (ns:Nat→Nat) (it:Nat→List It3) (o4 o5 o6 o7 o8 o9 o10 o11:Option D),k+m≤sc.length→k+m≤40→Trn O os ns is Ms it→(∀j,j < 3→(it j).length≤k) →
  ∃O' ns' it' p4 p5 p6 p7 p8 p9 p10 p11,Qa5 (mgN 4) bTu (Qcd (k:Int) m) [some (.lst (sc.map D.int)),some (msL Ms),some (mkL os),some (mkL is),o4,o5,o6,o7,o8,o9,o10,o11] O = .nx [some (.lst (sc.map D.int)),some (msL Ms),some (mkL os),some (mkL is),p4,p5,p6,p7,p8,p9,p10,p11] O'∧Trn O' os ns' is Ms it'∧∀j,j < 3→(it' j).length≤40
 | 0,k,O,ns,it,o4,o5,o6,o7,o8,o9,o10,o11,_,h2,I,hl=>⟨O,ns,it,o4,o5,o6,o7,o8,o9,o10,o11,rfl,I,fun j hj=>by
   have:=hl j hj
   omega⟩
 | m+1,k,O,ns,it,o4,o5,o6,o7,o8,o9,o10,o11,h1,h2,I,hl=>by
  obtain ⟨n,hn⟩:∃n,sc[k]? = some n:=⟨_,zK (show k < sc.length by omega)⟩;obtain ⟨O1,ns1,it1,p5,p6,p7,p8,p9,p10,p11,e1,I1,l1⟩:=Qtd I hM (q:=k) (by omega) hl hn o5 o6 o7 o8 o9 o10 o11;obtain ⟨O',ns',it',q4,q5,q6,q7,q8,q9,q10,q11,e2,I2,l2⟩:=QkI hM (sc:=sc) m (k+1) O1 ns1 it1 (some (.int (k:Int))) p5 p6 p7 p8 p9 p10 p11 (by omega) (by omega) I1 l1;refine ⟨O',ns',it',q4,q5,q6,q7,q8,q9,q10,q11,?_,I2,l2⟩;rw [Qsd,QgX (ρ1:=[some (.lst (sc.map D.int)),some (msL Ms),some (mkL os),some (mkL is),some (.int (k:Int)),o5,o6,o7,o8,o9,o10,o11]) rfl e1];exact e2
theorem Qnj {O:Qac}{os ns is:Nat→Nat}{Ms:Nat→Int}{it:Nat→List It3} (I:Trn O os ns is Ms it) (hM:∀j,j < 3→1≤Ms j∧Ms j≤200) (hl:∀j,j < 3→(it j).length≤40) {a:Nat} (ha:a < 3) (o0 o4 o5 o7 o8 o9 o10 o11:Option D) :
  bEd [o0,some (msL Ms),some (mkL os),some (mkL is),o4,o5,some (.int (a:Int)),o7,o8,o9,o10,o11] O = .nx [o0,some (msL Ms),some (mkL os),some (mkL is),o4,o5,some (.int (a:Int)),o7,o8,o9,o10,o11] O:=by
 have hla:=hl a ha;have c1:=QmP (os:=os) (ns:=ns) (is:=is) (ρ:=[o0,some (msL Ms),some (mkL os),some (mkL is),o4,o5,some (.int (a:Int)),o7,o8,o9,o10,o11]) ha (hM a ha) (I.ok a ha) (by omega) (I.im a ha) rfl rfl rfl;obtain ⟨lw,e⟩:=I.mke a ha;have eo:=Qqn e (I.lt a ha);have op:Qbq "Maker" "open_letters" Qbc (Qaf gIx (Qab 2) (Qab 6)) Qae [o0,some (msL Ms),some (mkL os),some (mkL is),o4,o5,some (.int (a:Int)),o7,o8,o9,o10,o11] O = .ok (.lst ((rn (Ms a) s0 (it a)).1.row.map dL)) O:=(QsN (QbE (x:=mkL os) (y:=.int (a:Int)) rfl rfl (ix3 (fun j=>.ob (os j)) ha)) e rfl (by decide) (by decide) (by decide) (by decide) (by decide)).trans eo
 have okr:=(QpS (hM a ha).1 (it a) s0 (Qmr (hM a ha).1) (I.ok a ha)).1.ok;unfold bEd;exact ifN (QsS ((QbX (maS op (ma1 (QbE (g:=gIx) (b:=mC (.int 1)) (y:=.int 1) c1 rfl rfl)))).trans (Qw1 _ okr O)))
def idx (b s:Nat):Nat→Nat:=fun j=>b+s * j
theorem start {O:Qac}{Ms:Nat→Int}:Trn (O ++ [mkO (Ms 0) QaC (O.length+1) 46 46 false,.ml [],mkO (Ms 1) QaC (O.length+3) 46 46 false,.ml [],mkO (Ms 2) QaC (O.length+5) 46 46 false,.ml [],.ml [],.ml [],.ml []]) (idx O.length 2) (idx (O.length+1) 2) (idx (O.length+6) 1) Ms (fun _=>[]):=by
 have g:∀(E:List Ob) (i:Nat),(O++E)[O.length+i]? = E[i]?:=fun E i=>by
  rw [zw (by omega),Nat.add_sub_cancel_left]
 refine ⟨fun j hj=>⟨QaC,?_⟩,fun j hj=>?_,fun j hj=>?_,fun j k _ _ h=>by unfold idx; omega,fun j k _ _ h=>by unfold idx; omega,fun j k _ _ h=>by unfold idx; omega,fun j k _ _=>by unfold idx; omega,fun j _ x hx=>nomatch hx⟩
 ·match j,hj with
  | 0,_=>exact g _ 0
  | 1,_=>exact g _ 2
  | 2,_=>exact g _ 4
 ·match j,hj with
  | 0,_=>exact g _ 1
  | 1,_=>exact (congrArg _ (by unfold idx; omega)).trans (g _ 3)
  | 2,_=>exact (congrArg _ (by unfold idx; omega)).trans (g _ 5)
 ·match j,hj with
  | 0,_=>exact g _ 6
  | 1,_=>exact (congrArg _ (by unfold idx; omega)).trans (g _ 7)
  | 2,_=>exact (congrArg _ (by unfold idx; omega)).trans (g _ 8)
theorem Qup {Ms:Nat→Int} (hM:∀j,j < 3→1≤Ms j∧Ms j≤200) (sc:List Int) (hs:sc.length≤63) (O:Qac):∃O',Qee [.lst (sc.map D.int),msL Ms] O = .ok (.bl true) O':=by
 have I:=start (O:=O) (Ms:=Ms)
 have m0:Qgu (Qfj (Qab 1)) 1 [] (mgN 0) QgL (Qc7 "Maker" QaK (Qaa (Qab 0) Qae)) [some (.lst (sc.map D.int)),some (msL Ms),none,none,none,none,none,none,none,none,none,none] O = .ok (mkL (idx O.length 2)) (O ++ [mkO (Ms 0) QaC (O.length+1) 46 46 false,.ml [],mkO (Ms 1) QaC (O.length+3) 46 46 false,.ml [],mkO (Ms 2) QaC (O.length+5) 46 46 false,.ml []]):=by
  have q:∀(j:Nat),j < 3→∀(O:Qac),Qc7 "Maker" QaK (Qaa (Qab 0) Qae) [some (.int (Ms j))] O = .ok (.ob O.length) (O ++ [mkO (Ms j) QaC (O.length+1) 46 46 false,.ml []]):=fun j hj O=>Qt7 (hM j hj) rfl
  rw [Qv4,show Qfj (Qab 1) [some (.lst (sc.map D.int)),some (msL Ms),none,none,none,none,none,none,none,none,none,none] O = .ok [.int (Ms 0),.int (Ms 1),.int (Ms 2)] O from rfl,Qaq,if_pos (show [D.int (Ms 0),.int (Ms 1),.int (Ms 2)].length≤1000000 from (show (3:Nat)≤1000000 by decide)),show Qjn 1 [] [some (.lst (sc.map D.int)),some (msL Ms),none,none,none,none,none,none,none,none,none,none] = [none] from rfl]
  have st:∀(d:D) (ds:List D) (o:Option D) (O O2:Qac) (y:D) (acc:List D),Qc7 "Maker" QaK (Qaa (Qab 0) Qae) [some d] O = .ok y O2→Qc2 (mgN 0) QgL (Qc7 "Maker" QaK (Qaa (Qab 0) Qae)) (d::ds) [o] O acc=Qc2 (mgN 0) QgL (Qc7 "Maker" QaK (Qaa (Qab 0) Qae)) ds [some d] O2 (acc ++ [y]):=fun d ds o O O2 y acc h=>by
   conv=>lhs; unfold Qc2
   show (match Qc7 "Maker" QaK (Qaa (Qab 0) Qae) [some d] O with
    | .ok y O2=>Qc2 (mgN 0) QgL (Qc7 "Maker" QaK (Qaa (Qab 0) Qae)) ds [some d] O2 (acc ++ [y])
    | .ex x O'=>.ex x O'
    | .no=>.no)=_
   rw [h]
  rw [st _ _ _ _ _ _ _ (q 0 (by decide) _),st _ _ _ _ _ _ _ (q 1 (by decide) _),st _ _ _ _ _ _ _ (q 2 (by decide) _),Qqr,Qaq];simp [mkL,idx]
 have m1:∀(O:Qac) (ρ:Qal),Qa0 (Qaa (mMl (Qa0 Qae)) (Qaa (mMl (Qa0 Qae)) (Qaa (mMl (Qa0 Qae)) Qae))) ρ O = .ok (.lst [.ob O.length,.ob (O.length+1),.ob (O.length+2)]) (O ++ [.ml [],.ml [],.ml []]):=fun O ρ=>by
  simp [QrG]
 have m1':=m1 (O ++ [mkO (Ms 0) QaC (O.length+1) 46 46 false,.ml [],mkO (Ms 1) QaC (O.length+3) 46 46 false,.ml [],mkO (Ms 2) QaC (O.length+5) 46 46 false,.ml []]) [some (.lst (sc.map D.int)),some (msL Ms),some (mkL (idx O.length 2)),none,none,none,none,none,none,none,none,none];rw [zU] at m1'
 have hidx:D.lst [.ob (O ++ [mkO (Ms 0) QaC (O.length+1) 46 46 false,.ml [],mkO (Ms 1) QaC (O.length+3) 46 46 false,.ml [],mkO (Ms 2) QaC (O.length+5) 46 46 false,.ml []]).length,.ob ((O ++ [mkO (Ms 0) QaC (O.length+1) 46 46 false,.ml [],mkO (Ms 1) QaC (O.length+3) 46 46 false,.ml [],mkO (Ms 2) QaC (O.length+5) 46 46 false,.ml []]).length+1),.ob ((O ++ [mkO (Ms 0) QaC (O.length+1) 46 46 false,.ml [],mkO (Ms 1) QaC (O.length+3) 46 46 false,.ml [],mkO (Ms 2) QaC (O.length+5) 46 46 false,.ml []]).length+2)]=mkL (idx (O.length+6) 1):=by
  rw [zu];rfl
 rw [hidx] at m1';have I':Trn (O++([mkO (Ms 0) QaC (O.length+1) 46 46 false,.ml [],mkO (Ms 1) QaC (O.length+3) 46 46 false,.ml [],mkO (Ms 2) QaC (O.length+5) 46 46 false,.ml []] ++ [.ml [],.ml [],.ml []])) (idx O.length 2) (idx (O.length+1) 2) (idx (O.length+6) 1) Ms (fun _=>[]):=I
 generalize hO1:O ++ [mkO (Ms 0) QaC (O.length+1) 46 46 false,.ml [],mkO (Ms 1) QaC (O.length+3) 46 46 false,.ml [],mkO (Ms 2) QaC (O.length+5) 46 46 false,.ml []]=O1 at m0 m1'
 generalize O++([mkO (Ms 0) QaC (O.length+1) 46 46 false,.ml [],mkO (Ms 1) QaC (O.length+3) 46 46 false,.ml [],mkO (Ms 2) QaC (O.length+5) 46 46 false,.ml []] ++ [.ml [],.ml [],.ml []])=O2 at I' m1'
 generalize idx O.length 2=os at I' m0 m1'
 generalize idx (O.length+1) 2=ns at I'
 generalize idx (O.length+6) 1=is at I' m1'
 have hlt:(sc.take 40).length≤40:=by rw [List.length_take]; omega
 have hlt':(sc.take 40).length≤sc.length:=by rw [List.length_take]; omega
 obtain ⟨O3,ns3,it3,p4,p5,p6,p7,p8,p9,p10,p11,e3,I3,l3⟩:=QkI hM (sc:=sc) (sc.take 40).length 0 O2 ns (fun _=>[]) none none none none none none none none (by omega) (by omega) I' (fun j _=>zc _)
 have er:Qfl (Qaa (QaY QbN (Qaa (mSl (Qab 0) moN (moS (mC (.int 40)))) Qae)) Qae) [some (.lst (sc.map D.int)),some (msL Ms),some (mkL os),some (mkL is),none,none,none,none,none,none,none,none] O2 = .ok (Qcd 0 (sc.take 40).length) O2:=Qqv (by
  have z:=Qrg (Qvt (m:=Qab 0) (a:=moN) (b:=moS (mC (.int 40))) (ρ:=[some (.lst (sc.map D.int)),some (msL Ms),some (mkL os),some (mkL is),none,none,none,none,none,none,none,none]) (O:=O2) (t:=sc.map D.int) (x:=none) (y:=some ((40:Nat):Int)) rfl rfl rfl);rw [Qrh,←List.map_take,zD] at z
  exact z) (by omega)
 have s0':=Qnj I3 hM l3 (a:=0) (by decide) (some (.lst (sc.map D.int))) p4 p5 p7 p8 p9 p10 p11;have s1':=Qnj I3 hM l3 (a:=1) (by decide) (some (.lst (sc.map D.int))) p4 p5 p7 p8 p9 p10 p11;have s2':=Qnj I3 hM l3 (a:=2) (by decide) (some (.lst (sc.map D.int))) p4 p5 p7 p8 p9 p10 p11
 have e4:Qa5 (mgN 6) bEd (Qcd 0 3) [some (.lst (sc.map D.int)),some (msL Ms),some (mkL os),some (mkL is),p4,p5,p6,p7,p8,p9,p10,p11] O3 = .nx [some (.lst (sc.map D.int)),some (msL Ms),some (mkL os),some (mkL is),p4,p5,some (.int 2),p7,p8,p9,p10,p11] O3:=by
  rw [show Qcd 0 3 = [.int 0,.int 1,.int 2] from rfl,QgX (ρ1:=[some (.lst (sc.map D.int)),some (msL Ms),some (mkL os),some (mkL is),p4,p5,some (.int 0),p7,p8,p9,p10,p11]) rfl s0',QgX (ρ1:=[some (.lst (sc.map D.int)),some (msL Ms),some (mkL os),some (mkL is),p4,p5,some (.int 1),p7,p8,p9,p10,p11]) rfl s1',QgX (ρ1:=[some (.lst (sc.map D.int)),some (msL Ms),some (mkL os),some (mkL is),p4,p5,some (.int 2),p7,p8,p9,p10,p11]) rfl s2'];rfl
 have er2:∀(ρ:Qal) (O:Qac),Qfl (Qaa (mC (.int 3)) Qae) ρ O = .ok (Qcd 0 3) O:=fun ρ O=>Qqv (n:=3) rfl (by decide)
 refine ⟨O3,?_⟩;show QbA (Qek [some (.lst (sc.map D.int)),some (msL Ms),none,none,none,none,none,none,none,none,none,none] O)=_;unfold Qek
 rw [QaS (show Qas 2 _ [some (.lst (sc.map D.int)),some (msL Ms),none,none,none,none,none,none,none,none,none,none] O = .nx [some (.lst (sc.map D.int)),some (msL Ms),some (mkL os),none,none,none,none,none,none,none,none,none] O1 from Qph m0),
  QaS (show Qas 3 _ [some (.lst (sc.map D.int)),some (msL Ms),some (mkL os),none,none,none,none,none,none,none,none,none] O1 = .nx [some (.lst (sc.map D.int)),some (msL Ms),some (mkL os),some (mkL is),none,none,none,none,none,none,none,none] O2 from Qph m1')]
 show QbA (Qaj (Qct _ (mgN 4) bTu) (Qaj (Qct _ (mgN 6) bEd) _) _ _)=_;rw [QaS ((QpD er).trans e3),QaS ((QpD (er2 _ _)).trans e4)];rfl
theorem QwR {i j:List D}:gNe (.tup i) (.tup j)=if (okE (.tup i)&&okE (.tup j))=true then some (.bl (!Qjx (.tup i) (.tup j))) else none:=rfl
theorem QwW {w:List Nat} (hw:∀c∈w,c < 128) (p:Int):okE (.tup [.str w,.int p])=true:=by
 unfold okE;show (true&&okD (.tuple [.str (S w),.int p]))=true;unfold okD
 rw [show (PyData.tuple [.str (S w),.int p]).canLay0=true by
  show ((PyData.str (S w)).canLay0&&((PyData.int p).canLay0&&true))=true;rw [QhP fun c hc=>Nat.lt_trans (hw c hc) (by decide)]
  rfl]
 rfl
theorem Qv3 {w:List Nat} (hw:∀c∈w,c < 128) (p:Int):gNe (.tup [.str w,.int p]) (.tup [.str w,.int p])=some (.bl false):=by
 have ok:=QwW hw p;rw [QwR,ok,Qf0 ok];rfl
theorem Qwf:Qc4 kSz=true∧(toP kSz).canLay0=true∧(toP kSz).depth≤5:=by
 refine ⟨rfl,?_,?_⟩
 ·show ((PyData.str (S [115,105,122,101])).canLay0&&((PyData.int 0).canLay0&&true))=true;rw [QhP (by decide)];rfl
 ·show PyData.depth (.tuple [.str (S [115,105,122,101]),.int 0])≤5;simp [PyData.depth,PyData.depthAll]
theorem QxE:gNe (.lst [kSz,kSz,kSz,kSz]) (.lst [kSz,kSz,kSz,kSz])=some (.bl false):=by
 have ok:okE (.lst [kSz,kSz,kSz,kSz])=true:=Qov (n:=5) (by decide) fun d hd=>by
  simp only [zm,List.not_mem_nil,or_false] at hd
  rcases hd with rfl | rfl | rfl | rfl <;> exact Qwf
 rw [Qw3,ok,Qf0 ok];rfl
theorem Qr4 (v:Int) (O:Qac):∃d,QfD [.int v] O = .ok d O∧NoM d:=by
 have far:0≤mix v 1 % 1000:=jh _ (by decide);have e1:Qaf Qbz (Qat QaR (Qaa (Qab 0) (Qaa (mC (.int 1)) Qae))) (mC (.int 1000)) [some (.int v),none,none] O = .ok (.int (mix v 1 % 1000)) O:=Qf2 ((QbX (ds:=[.int v,.int 1]) rfl).trans (Qhl v 1 (by decide) (by decide) O)) rfl (by decide)
 generalize mix v 1 % 1000=f at far e1
 obtain ⟨d,hd,e⟩:=ixL (l:=[.int 0,.int 201,.int (201+f),.int (-1 - f),.bl true,.bl false,.non,.str [53],.lst [.int 5],.tup [.int 5],.dic [] [],.int (10 ^ 30+f)]) (v:=mix v 0) (n:=12) rfl (by decide);have e2:Qaf Qbz (Qat QaR (Qaa (Qab 0) (Qaa (mC (.int 0)) Qae))) (mC (.int 12)) [some (.int v),some (.int f),some (.lst [.int 0,.int 201,.int (201+f),.int (-1 - f),.bl true,.bl false,.non,.str [53],.lst [.int 5],.tup [.int 5],.dic [] [],.int (10 ^ 30+f)])] O = .ok (.int (mix v 0 % 12)) O:=Qf2 ((QbX (ds:=[.int v,.int 0]) rfl).trans (Qhl v 0 (by decide) (by decide) O)) rfl (by decide);refine ⟨d,?_,?_⟩
 ·show QbA (Qeh [some (.int v),none,none] O)=_;unfold Qeh;have el:=Qns (O:=O) (ρ:=[some (.int v),some (.int f),none]) (maS (a:=mC (.int 0)) rfl (maS (a:=mC (.int 201)) rfl (maS (QpV (a:=mC (.int 201)) (b:=Qab 1) rfl rfl) (maS (QwN (a:=mUn Qkl (mC (.int 1))) (b:=Qab 1) (i:=-1) rfl rfl) (maS (a:=mC (.bl true)) rfl (maS (a:=mC (.bl false)) rfl (maS (a:=mC .non) rfl (maS (a:=mC (.str [53])) rfl (maS (a:=Qa0 (Qaa (mC (.int 5)) Qae)) (x:=.lst [.int 5]) rfl (maS (a:=Qbn (Qaa (mC (.int 5)) Qae)) (x:=.tup [.int 5]) rfl (maS (a:=mC (.dic [] [])) rfl (ma1 (QpV (a:=Qaf Qgi (mC (.int 10)) (mC (.int 30))) (b:=Qab 1) (i:=10 ^ 30) (j:=f) (QbE (x:=.int 10) (y:=.int 30) rfl rfl rfl) rfl))))))))))))) (show (12:Nat)≤1000000 by decide)
  rw [QaS (show Qas 1 _ [some (.int v),none,none] O = .nx [some (.int v),some (.int f),none] O from Qc3 e1),
   QaS (show Qas 2 _ [some (.int v),some (.int f),none] O = .nx [some (.int v),some (.int f),some (.lst [.int 0,.int 201,.int (201+f),.int (-1 - f),.bl true,.bl false,.non,.str [53],.lst [.int 5],.tup [.int 5],.dic [] [],.int (10 ^ 30+f)])] O from Qc3 el)]
  rw [QcP,QbE (x:=.lst [.int 0,.int 201,.int (201+f),.int (-1 - f),.bl true,.bl false,.non,.str [53],.lst [.int 5],.tup [.int 5],.dic [] [],.int (10 ^ 30+f)]) rfl e2 e,Qco];rfl
 ·have nI:∀i:Int,¬(1≤i∧i≤200)→NoM (.int i):=fun i hi O=>by
   simp [QcG,QfI,QgD,Qgt]
   omega
  simp only [zm,List.not_mem_nil,or_false] at hd
  rcases hd with rfl | rfl | rfl | rfl | rfl | rfl | rfl | rfl | rfl | rfl | rfl | rfl
  ·exact nI _ (by omega)
  ·exact nI _ (by omega)
  ·exact nI _ (by omega)
  ·exact nI _ (by omega)
  ·exact fun O=>rfl
  ·exact fun O=>rfl
  ·exact fun O=>rfl
  ·exact fun O=>rfl
  ·exact fun O=>rfl
  ·exact fun O=>rfl
  ·exact fun O=>rfl
  ·exact nI _ (by omega)
theorem Qrv (v:Int) (ρ:Qal) (h1:ρ[1]? = some (some (.int v))) (O:Qac):∃M:Int,(1≤M∧M≤200)∧Qaf gIx (Qa0 (Qaa (mC (.int 1)) (Qaa (mC (.int 200)) (Qaa (mC (.int 7)) Qae)))) (Qaf Qbz (Qat QaR (Qaa (Qab 1) (Qaa (mC (.int 4)) Qae))) (mC (.int 3))) ρ O = .ok (.int M) O:=by
 obtain ⟨d,hd,e⟩:=ixL (l:=[.int 1,.int 200,.int 7]) (v:=mix v 4) (n:=3) rfl (by decide)
 have v1:Qab 1 ρ O = .ok (.int v) O:=by rw [Qbm,h1]
 have em:Qaf Qbz (Qat QaR (Qaa (Qab 1) (Qaa (mC (.int 4)) Qae))) (mC (.int 3)) ρ O = .ok (.int (mix v 4 % 3)) O:=Qf2 ((QbX (ds:=[.int v,.int 4]) (maS v1 rfl)).trans (Qhl v 4 (by decide) (by decide) O)) rfl (by decide)
 have key:∀M:Int,d = .int M→Qaf gIx (Qa0 (Qaa (mC (.int 1)) (Qaa (mC (.int 200)) (Qaa (mC (.int 7)) Qae)))) (Qaf Qbz (Qat QaR (Qaa (Qab 1) (Qaa (mC (.int 4)) Qae))) (mC (.int 3))) ρ O = .ok (.int M) O:=fun M hM=>QbE (x:=.lst [.int 1,.int 200,.int 7]) rfl em (by rw [←hM]; exact e)
 simp only [zm,List.not_mem_nil,or_false] at hd
 rcases hd with h | h | h
 ·exact ⟨1,by decide,key _ h⟩
 ·exact ⟨200,by decide,key _ h⟩
 ·exact ⟨7,by decide,key _ h⟩
theorem Qsf (v:Int) (ρ:Qal) (h1:ρ[1]? = some (some (.int v))) (O:Qac):∃t:List Nat,(∀c∈t,97≤c∧c≤122)∧t.length≤5∧mSl (mC (.str [119,101,97,118,101])) moN (moS (Qaf Qbz (Qat QaR (Qaa (Qab 1) (Qaa (mC (.int 3)) Qae))) (mC (.int 6)))) ρ O = .ok (.str t) O:=by
 obtain ⟨n,hn⟩:∃n:Nat,mix v 3 % 6=(n:Int):=⟨(mix v 3 % 6).toNat,by omega⟩
 have v1:Qab 1 ρ O = .ok (.int v) O:=by rw [Qbm,h1]
 have em:Qaf Qbz (Qat QaR (Qaa (Qab 1) (Qaa (mC (.int 3)) Qae))) (mC (.int 6)) ρ O = .ok (.int (n:Int)) O:=by
  rw [←hn];exact Qf2 ((QbX (ds:=[.int v,.int 3]) (maS v1 rfl)).trans (Qhl v 3 (by decide) (by decide) O)) rfl (by decide)
 refine ⟨[119,101,97,118,101].take n,fun c hc=>?_,?_,?_⟩
 ·have:=List.mem_of_mem_take hc
  simp at this
  omega
 ·rw [List.length_take];exact Nat.min_le_right _ _
 ·rw [Qvn,m_c,Qaq,Qx9,Qaq,QwZ em,Qaq,Qc1,Qtz,if_pos (show [119,101,97,118,101].length≤16777216 by decide),Qrh,QbS]
theorem Qsb (ns:List Int) (hn:ns.length≤63):∃O',Qs3 [.lst (ns.map D.int)] [] = .ok (.bl true) O':=by
 obtain ⟨v,e0⟩:=Qwb ns [];obtain ⟨bad,e1,hb⟩:=Qr4 v [];obtain ⟨t,ht,hl,e2⟩:=Qsf v [some (.lst (ns.map D.int)),some (.int v),some bad,none,none,none,none] rfl [];have e3:Qaf Qce (Qab 3) (mC (.str [126,126])) [some (.lst (ns.map D.int)),some (.int v),some bad,some (.str t),none,none,none] [] = .ok (.str (t ++ [126,126])) []:=Qth rfl rfl (by show t.length+2≤1000000; omega);obtain ⟨M,hM,e4⟩:=Qrv v [some (.lst (ns.map D.int)),some (.int v),some bad,some (.str t),some (.str (t ++ [126,126])),none,none] rfl []
 have okt:∀c∈t,okc c:=fun c hc=>.inl (by have:=ht c hc; omega)
 have Ot:Okt t:=⟨by omega,okt⟩
 have no126:¬okc 126:=by unfold okc; omega
 have asc:ascii (t++126 :: [126])=true:=by
  simp only [ascii,List.all_append,List.all_cons,List.all_nil,Bool.and_true,zg,ji,decide_eq_true_eq];exact ⟨fun c hc=>by have:=ht c hc; omega,by decide⟩
 have ck:∀O,QcF [.str (t ++ [126,126])] O = .ex ⟨"NoSign",[("at",.int (t.length:Int))]⟩ O:=fun O=>Qmh no126 okt asc O
 have ck2:∀O,QcF [.lst [.str t]] O = .ex ⟨"NoSign",[("at",.int 0)]⟩ O:=fun O=>QnI rfl
 obtain ⟨O1,w1⟩:=Qn4 hb [];have w2:=QgS (Qhx hb (.str t) O1)
 generalize O1 ++ [Ob.ins "Maker" []] ++ [.xc "NoSize" []]=O2 at w2
 have w3:=QgS (Qhx hb (.str (t ++ [126,126])) O2)
 generalize O2 ++ [Ob.ins "Maker" []] ++ [.xc "NoSize" []]=O3 at w3
 have w4:=QgS (Qhx hb .non O3)
 generalize O3 ++ [Ob.ins "Maker" []] ++ [.xc "NoSize" []]=O4 at w4
 obtain ⟨O5',r5⟩:=Qj7 hM ck O4;have w5:=Qjq r5
 generalize O5' ++ [.xc "NoSign" [("at",D.int (t.length:Int))]]=O5 at w5
 obtain ⟨O6',r6⟩:=Qj7 hM ck2 O5;have w6:=Qjq r6
 generalize O6' ++ [.xc "NoSign" [("at",D.int 0)]]=O6 at w6
 obtain ⟨O7,d7,r7⟩:=QuJ hM t Ot (by omega) O6;have w7:=Qpq r7;obtain ⟨O8,w8⟩:=Qqi hM O7;have e9:Qaf Qce (mC (.int 1)) (Qaf Qbz (Qat QaR (Qaa (Qab 1) (Qaa (mC (.int 9)) Qae))) (mC (.int 3))) [some (.lst (ns.map D.int)),some (.int v),some bad,some (.str t),some (.str (t ++ [126,126])),some (.int M),some (.lst [kSz,kSz,kSz,kSz])] O8 = .ok (.int (1+mix v 9 % 3)) O8:=QpV rfl (Qf2 ((QbX (ds:=[.int v,.int 9]) rfl).trans (Qhl v 9 (by decide) (by decide) O8)) rfl (by decide))
 have hM9:∀j,j < 3→1≤(fun j:Nat=>if j=0 then 1+mix v 9 % 3 else if j=1 then 200 else 1) j∧(fun j:Nat=>if j=0 then 1+mix v 9 % 3 else if j=1 then 200 else (1:Int)) j≤200:=fun j hj=>by
  dsimp only
  split
  ·omega
  ·split <;> omega
 obtain ⟨O9,e10⟩:=Qup hM9 ns hn O8;have e10':Qee [.lst (ns.map D.int),.lst [.int (1+mix v 9 % 3),.int 200,.int 1]] O8 = .ok (.bl true) O9:=e10;have words:Qa0 (Qaa (Qat Qed (Qaa (Qab 2) Qae)) (Qaa (Qat QbC (Qaa (Qab 3) (Qaa (Qab 2) Qae))) (Qaa (Qat QbC (Qaa (Qab 4) (Qaa (Qab 2) Qae))) (Qaa (Qat QbC (Qaa (mC .non) (Qaa (Qab 2) Qae))) Qae)))) [some (.lst (ns.map D.int)),some (.int v),some bad,some (.str t),some (.str (t ++ [126,126])),some (.int M),none] [] = .ok (.lst [kSz,kSz,kSz,kSz]) O4 :=
  QwI (Qnq ((Qe6 (ds:=[bad]) rfl).trans w1) (Qnq ((Qe6 (ds:=[.str t,bad]) rfl).trans w2) (Qnq ((Qe6 (ds:=[.str (t ++ [126,126]),bad]) rfl).trans w3) (QvV ((Qe6 (ds:=[.non,bad]) rfl).trans w4))))) (show (4:Nat)≤1000000 by decide)
 have neS:∀(p:Int) (O:Qac),gNe (QaL O (kSg p)) (QaL O (kSg p))=some (.bl false):=fun p O=>Qv3 (by decide) p
 have neT:∀O:Qac,gNe (QaL O kTl) (QaL O kTl)=some (.bl false):=fun O=>Qv3 (by decide) 0
 have ne4:∀O:Qac,gNe (QaL O (.lst [kSz,kSz,kSz,kSz])) (QaL O (.lst [kSz,kSz,kSz,kSz]))=some (.bl false):=fun O=>QxE
 refine ⟨O9,?_⟩;show QbA (Qms [some (.lst (ns.map D.int)),none,none,none,none,none,none] [])=_;unfold Qms
 rw [QaS (show Qas 1 _ [some (.lst (ns.map D.int)),none,none,none,none,none,none] [] = .nx [some (.lst (ns.map D.int)),some (.int v),none,none,none,none,none] [] from Qc3 ((QbX (ds:=[.lst (ns.map D.int),.int 0]) rfl).trans e0)),
  QaS (show Qas 2 _ [some (.lst (ns.map D.int)),some (.int v),none,none,none,none,none] [] = .nx [some (.lst (ns.map D.int)),some (.int v),some bad,none,none,none,none] [] from Qc3 ((QbX (ds:=[.int v]) rfl).trans e1)),
  QaS (show Qas 3 _ [some (.lst (ns.map D.int)),some (.int v),some bad,none,none,none,none] [] = .nx [some (.lst (ns.map D.int)),some (.int v),some bad,some (.str t),none,none,none] [] from Qc3 e2),
  QaS (show Qas 4 _ [some (.lst (ns.map D.int)),some (.int v),some bad,some (.str t),none,none,none] [] = .nx [some (.lst (ns.map D.int)),some (.int v),some bad,some (.str t),some (.str (t ++ [126,126])),none,none] [] from Qc3 e3),
  QaS (show Qas 5 _ [some (.lst (ns.map D.int)),some (.int v),some bad,some (.str t),some (.str (t ++ [126,126])),none,none] [] = .nx [some (.lst (ns.map D.int)),some (.int v),some bad,some (.str t),some (.str (t ++ [126,126])),some (.int M),none] [] from Qc3 e4),
  QaS (show Qas 6 _ [some (.lst (ns.map D.int)),some (.int v),some bad,some (.str t),some (.str (t ++ [126,126])),some (.int M),none] [] = .nx [some (.lst (ns.map D.int)),some (.int v),some bad,some (.str t),some (.str (t ++ [126,126])),some (.int M),some (.lst [kSz,kSz,kSz,kSz])] O4 from Qph words),
  QaS (ifN (Qji (Qk4 (x:=.lst [kSz,kSz,kSz,kSz]) (y:=.lst [kSz,kSz,kSz,kSz]) rfl (QbE (x:=.lst [kSz]) (y:=.int 4) rfl rfl rfl) (ne4 _)))),
  QaS (ifN (Qmm (Qji (Qk4 ((Qe6 (ds:=[.str (t ++ [126,126]),.int M]) rfl).trans w5) (Qsk (xs:=[.str [115,105,103,110],.int (t.length:Int)]) (maS rfl (ma1 (Qum rfl (by omega)))) (show (2:Nat)≤1000000 by decide)) (neS _ _))) (Qji (Qk4 ((Qe6 (ds:=[.lst [.str t],.int M]) rfl).trans w6) (y:=kSg 0) rfl (neS _ _))))),
  QaS (ifN (Qmm (Qji (Qk4 ((Qe6 (ds:=[.str t,.int M]) rfl).trans w7) (y:=kTl) rfl (neT _))) (Qji (Qk4 ((Qe6 (ds:=[.int M]) rfl).trans w8) (y:=kTl) rfl (neT _)))))]
 rw [QcP,QbX (ds:=[.lst (ns.map D.int),.lst [.int (1+mix v 9 % 3),.int 200,.int 1]]) (maS rfl (ma1 (Qns (maS e9 rfl) (show (3:Nat)≤1000000 by decide)))),e10',Qco];rfl
theorem all_mk {l:PySem.W.OpenLaw}{w:World}{K:PySem.W.Frag}{h:Heap}{mg:Str→Option Value}{fa:Addr} (X:K.In h) (G:h.Ns mainGlobals mg) (hfa:mg "law" = some (.ref fa))
  {QeQ:Addr}
  {QcL:Addr}
  {QpU:Addr}{Quv Qp9:Option Addr}{QvS:Array (Option Value)}{QvP Qqw QqB Qqj Qnn Qrf:Value}
  {ad_PLAIN:Addr}{QnM:Value}{QrP:Option Addr}{it_PLAIN:Array Value}{nn_PLAIN:Nat}{Qr3:Array (Option Value)}
  {QbL:Addr}
  {Qbk:Addr}
  {QgQ:Addr}
  {Qg3:Addr}
  {QgW:Addr}
  {Qg0:Addr}
  {QgM:Addr}
  {Qg1:Addr}
  {Qh8:Addr}
  {QhR:Addr}
  {Qir:Addr}
  {Qqp:ClassData}
  {QqQ:ClassData}
  {fI_NoSign:Addr}{odI_NoSign anI_NoSign:Option Addr}{slI_NoSign:Array (Option Value)}{ocI_NoSign kVI_NoSign dcI_NoSign pmI_NoSign cdI_NoSign ctI_NoSign:Value}
  (Z_Reader:ClsAt K "Reader" QeQ)
  (Qmf:PySem.W.findIn K (.ref QeQ) "held" = some none)
  (Qlo:PySem.W.findIn K (.ref QeQ) "place" = some none)
  (Z_Maker:ClsAt K "Maker" QcL)
  (QjR:PySem.W.findIn K (.ref QcL) "last_word" = some none)
  (QkQ:PySem.W.findIn K (.ref QcL) "letters" = some none)
  (QnT:PySem.W.findIn K (.ref QcL) "most" = some none)
  (QmG:PySem.W.findIn K (.ref QcL) "pair" = some none)
  (Qmg:PySem.W.findIn K (.ref QcL) "stale" = some none)
  (Qi2:Def K mg "is_sign" Qje)
  (Qhu:Def K mg "is_colour" Qhz)
  (Qi5:Def K mg "checked" QiZ)
  (Qjw:Def K mg "mark_of" QjA)
  (Qeu:Def K mg "may_become_mark" Qev)
  (Qis:Def K mg "own_item" Qid)
  (QhC:Def K mg "own_items" QfL)
  (M_Reader___init__:MethAt K QeQ "__init__" "Reader.__init__" Qez)
  (M_Reader_take:MethAt K QeQ "take" "Reader.take" Qgf)
  (M_Reader_feed:MethAt K QeQ "feed" "Reader.feed" Qf7)
  (M_Reader_finish:MethAt K QeQ "finish" "Reader.finish" Qfs)
  (QiQ:Def K mg "items_of" QiR)
  (Qga:Def K mg "pair_behind" Qgk)
  (Qif:Def K mg "is_whole" Qih)
  (Qhq:Def K mg "is_within" QhH)
  (M_Maker_begin_row:MethAt K QcL "begin_row" "Maker.begin_row" Qel)
  (M_Maker___init__:MethAt K QcL "__init__" "Maker.__init__" QeV)
  (M_Maker_tell:MethAt K QcL "tell" "Maker.tell" QgT)
  (M_Maker_empty_stale:MethAt K QcL "empty_stale" "Maker.empty_stale" QdO)
  (M_Maker_add_letter:MethAt K QcL "add_letter" "Maker.add_letter" Qd2)
  (M_Maker_put:MethAt K QcL "put" "Maker.put" Qhy)
  (M_Maker_open_letters:MethAt K QcL "open_letters" "Maker.open_letters" QdA)
  (Qjj:Def K mg "rows_of" Qi8)
  (Qim:Def K mg "_law_cell" QiF)
  (Qjt:Def K mg "_law_mix" Qi7)
  (QhJ:Def K mg "_law_parts" QhN)
  (QhG:Def K mg "_law_whole" Qhv)
  (QdT:Def K mg "_law_letters_right" QcV)
  (Qes:Def K mg "_law_parts_right" Qem)
  (Qfx:Def K mg "_law_bad_most" Qfw)
  (QiA:Def K mg "_law_word" Qik)
  (QhM:Def K mg "_law_asked" QhB)
  (QiK:Def K mg "_law_made" Qij)
  (QfE:Def K mg "_law_by_turns" Qec)
  (QpB:PySem.W.nsIn K mainGlobals "law" = some (some (.ref QpU))) (QsR:K.lookup QpU=some ⟨QvP,Quv,.func (PySem.W.fnOf "law" "law" (QbQ QfO) (QaX QfO) (Qai QfO) .none Qqw QqB Qqj Qp9 Qnn Qrf),QvS⟩) (QuT:PySem.W.codeIn K Qnn "law" = true) (QwU:PySem.W.keepIn K (.ref QpU)=true)
  (B:Blt mg)
  (QdI:∃u,mg "ANEW_SIGN" = some u∧RelV (.str (S [9])) u)
  (Qi4:∃u,mg "COLOURS" = some u∧RelV (.str (S [97,98,99,100,101,102,103,104,46])) u)
  (QgV:∃u,mg "FIRST_SIGN" = some u∧RelV (.str (S [32])) u)
  (Qfi:∃u,mg "GREATEST_MOST" = some u∧RelV (.int 200) u)
  (QhL:∃u,mg "LAST_SIGN" = some u∧RelV (.str (S [125])) u)
  (Qqg:PySem.W.nsIn K mainGlobals "PLAIN" = some (some (.ref ad_PLAIN))) (Qrm:K.lookup ad_PLAIN=some ⟨QnM,QrP,.seq it_PLAIN nn_PLAIN,Qr3⟩) (t_c_PLAIN:QnM = .type "tuple") (Qrq:it_PLAIN.size≤sizeLine) (v_c_PLAIN:QaB (List.map (fun l=>V.str (S l)) [[46],[46]]) it_PLAIN.toList)
  (QeY:∃u,mg "ROW_END" = some u∧RelV (.str (S [10])) u)
  (Qdq:PySem.W.nsIn K mainGlobals "NoSize" = some (some (.ref QbL)))
  (Qc8:PySem.W.nsIn K mainGlobals "NoSign" = some (some (.ref Qbk)))
  (Qmb:PySem.W.nsIn K mainGlobals "Closed" = some (some (.ref QgQ)))
  (QlH:PySem.W.nsIn K mainGlobals "NoCell" = some (some (.ref Qg3)))
  (Qmc:PySem.W.nsIn K mainGlobals "NoHand" = some (some (.ref QgW)))
  (QlN:PySem.W.nsIn K mainGlobals "NoName" = some (some (.ref Qg0)))
  (QlO:PySem.W.nsIn K mainGlobals "NoRoll" = some (some (.ref QgM)))
  (Ql9:PySem.W.nsIn K mainGlobals "NoRoom" = some (some (.ref Qg1)))
  (Qnf:PySem.W.nsIn K mainGlobals "NoRow" = some (some (.ref Qh8)))
  (Qnu:PySem.W.nsIn K mainGlobals "Twice" = some (some (.ref QhR)))
  (Qj2:PySem.W.nsIn K mainGlobals "OutError" = some (some (.ref Qir)))
  (xsp:PySem.W.specialIn K (.builtin "object.__class__") "__get__" = some (some (.builtin "getset_descriptor.__get__")))
  (xtk:PySem.W.takesIn K (.builtin "object.__class__")=some true)
  (xga_NoSize:PySem.W.findIn K (.ref QbL) "__getattribute__" = some (some (.builtin "BaseException.__getattribute__")))
  (xna_NoSize:PySem.W.findIn K (.ref QbL) "__getattr__" = some none)
  (xca_NoSize:PySem.W.findIn K (.ref QbL) "__class__" = some (some (.builtin "object.__class__")))
  (xob_NoSize:PySem.W.mroIn K QbL (.type "object")=some true)
  (xbe_NoSize:PySem.W.mroIn K QbL (.type "BaseException")=some true)
  (xcl_NoSize:PySem.W.clsIn K QbL=some Qqp)
  (xga_NoSign:PySem.W.findIn K (.ref Qbk) "__getattribute__" = some (some (.builtin "BaseException.__getattribute__")))
  (xna_NoSign:PySem.W.findIn K (.ref Qbk) "__getattr__" = some none)
  (xca_NoSign:PySem.W.findIn K (.ref Qbk) "__class__" = some (some (.builtin "object.__class__")))
  (xob_NoSign:PySem.W.mroIn K Qbk (.type "object")=some true)
  (xbe_NoSign:PySem.W.mroIn K Qbk (.type "BaseException")=some true)
  (xcl_NoSign:PySem.W.clsIn K Qbk=some QqQ)
  (xif_NoSign:PySem.W.findIn K (.ref Qbk) "__init__" = some (some (.ref fI_NoSign)))
  (xii_NoSign:PySem.W.isFn K (.ref fI_NoSign)=true)
  (xil_NoSign:K.lookup fI_NoSign=some ⟨ocI_NoSign,odI_NoSign,.func (PySem.W.fnOf "__init__" "NoSign.__init__" (QbQ Qc0) (QaX Qc0) (Qai Qc0) .none kVI_NoSign dcI_NoSign pmI_NoSign anI_NoSign cdI_NoSign ctI_NoSign),slI_NoSign⟩)
  (xic_NoSign:PySem.W.codeIn K cdI_NoSign "NoSign.__init__" = true)
  (xik_NoSign:PySem.W.keepIn K (.ref fI_NoSign)=true)
  (xis_NoSign:PySem.W.findIn K (.ref Qbk) "__setattr__" = some (some (.builtin "object.__setattr__")))
  (xin_NoSign:PySem.W.findIn K (.ref Qbk) "at" = some none)
  (xio_NoSign:PySem.W.mroIn K Qbk (.type "object")=some true)
  (xix_NoSign:Qk7 K Qbk bmV "ValueError.__new__" fI_NoSign=true)
  (xN_NoSize:PySem.W.excIn K QbL bmV "ValueError.__new__" = true)
  (fIT_ClosedNoCellNoHandNoNameNoRollNoRoomNoRowTwice_NoSize:PySem.W.kitAny K (.ref QbL) [.ref QgQ,.ref Qg3,.ref QgW,.ref Qg0,.ref QgM,.ref Qg1,.ref Qh8,.ref QhR]=some false)
  (fIT_ClosedNoCellNoHandNoNameNoRollNoRoomNoRowTwice_NoSign:PySem.W.kitAny K (.ref Qbk) [.ref QgQ,.ref Qg3,.ref QgW,.ref Qg0,.ref QgM,.ref Qg1,.ref Qh8,.ref QhR]=some false)
  (fIS_NoSize_NoSize:PySem.W.kitOne K (.ref QbL) (.ref QbL)=some true)
  (fIS_NoSize_NoSign:PySem.W.kitOne K (.ref Qbk) (.ref QbL)=some false)
  (fIS_NoSign_NoSize:PySem.W.kitOne K (.ref QbL) (.ref Qbk)=some false)
  (fIS_NoSign_NoSign:PySem.W.kitOne K (.ref Qbk) (.ref Qbk)=some true)
  (xve:PySem.W.nsIn K mainGlobals "ValueError" = some none)
  (fIV_NoSize:PySem.W.kitOne K (.ref QbL) (.type "ValueError")=some true)
  (fIV_NoSign:PySem.W.kitOne K (.ref Qbk) (.type "ValueError")=some true)
  (fXA_at_NoSign:PySem.W.findIn K (.ref Qbk) "at" = some none) (hXA_at_NoSign:PySem.W.hasDictIn K Qbk=true)
  (fEX_OutError_NoSize:PySem.W.exmOne K (.ref QbL) (.ref Qir)=some true)
  (fEX_OutError_NoSign:PySem.W.exmOne K (.ref Qbk) (.ref Qir)=some true) :
  ∃fd:FuncData,(∀(s:Shared) (v:Value),BindsTo s fd ⟨[v],[]⟩ [("_law_script",v)])∧∀base:Heap,K.In base→base.Ns mainGlobals mg→QbH l.prog w K mg base CX0 8 fa fd ["_law_script"] (sp_law K):=by
 have e:=hfa.symm.trans (PySem.W.mg_of X G QpB);cases e;have QaZ:=Z_Reader.kf X G Qmf;have Qbu:=Z_Reader.kf X G Qlo;have Qck:=Z_Maker.kf X G QjR;have QaN:=Z_Maker.kf X G QkQ;have Qdh:=Z_Maker.kf X G QnT;have QbM:=Z_Maker.kf X G QmG;have QbB:=Z_Maker.kf X G Qmg;have Qet:=Z_Reader.dc X G M_Reader___init__;have Qf9:=Z_Reader.dm X G M_Reader_take;have Qge:=Z_Reader.dm X G M_Reader_feed;have Qfn:=Z_Reader.dm X G M_Reader_finish;have QeA:=Z_Maker.dm X G M_Maker_begin_row;have QeT:=Z_Maker.dc X G M_Maker___init__;have Qg4:=Z_Maker.dm X G M_Maker_tell;have QdP:=Z_Maker.dm X G M_Maker_empty_stale;have Qd0:=Z_Maker.dm X G M_Maker_add_letter
 have QhF:=Z_Maker.dm X G M_Maker_put;have Qdt:=Z_Maker.dm X G M_Maker_open_letters;have QpE:Def K mg "law" QfO:=⟨_,_,PySem.W.mg_of X G QpB,QkG (st:=QfO) QsR QuT QwU⟩;have QgG:Qpk K mg "PLAIN" [[46],[46]]:=⟨ad_PLAIN,_,it_PLAIN,nn_PLAIN,PySem.W.mg_of X G Qqg,Qrm,t_c_PLAIN,rfl,Qrq,v_c_PLAIN⟩;have XF_NoSize:QfB K QbL:=⟨xga_NoSize,xna_NoSize,xca_NoSize,xsp,xtk,xob_NoSize,xbe_NoSize,by rw [xcl_NoSize]; rfl⟩;have XF_NoSign:QfB K Qbk:=⟨xga_NoSign,xna_NoSign,xca_NoSign,xsp,xtk,xob_NoSign,xbe_NoSign,by rw [xcl_NoSign]; rfl⟩;have DI_NoSign:Qpc K mg "NoSign" "at" "NoSign.__init__" Qc0:=⟨_,_,_,PySem.W.mg_of X G Qc8,⟨xix_NoSign,xis_NoSign,xin_NoSign,xio_NoSign⟩,xii_NoSign,QkG (st:=Qc0) xil_NoSign xic_NoSign xik_NoSign⟩
 have X_NoSize:QrU K mg "NoSize":=⟨_,PySem.W.mg_of X G Qdq,xN_NoSize⟩;have IT_ClosedNoCellNoHandNoNameNoRollNoRoomNoRowTwice_NoSize:Qkh K mg ["Closed","NoCell","NoHand","NoName","NoRoll","NoRoom","NoRow","Twice"] "NoSize" false:=⟨QbL,[QgQ,Qg3,QgW,Qg0,QgM,Qg1,Qh8,QhR],PySem.W.mg_of X G Qdq,XF_NoSize,⟨_,_,rfl,PySem.W.mg_of X G Qmb,⟨_,_,rfl,PySem.W.mg_of X G QlH,⟨_,_,rfl,PySem.W.mg_of X G Qmc,⟨_,_,rfl,PySem.W.mg_of X G QlN,⟨_,_,rfl,PySem.W.mg_of X G QlO,⟨_,_,rfl,PySem.W.mg_of X G Ql9,⟨_,_,rfl,PySem.W.mg_of X G Qnf,⟨_,_,rfl,PySem.W.mg_of X G Qnu,rfl⟩⟩⟩⟩⟩⟩⟩⟩,fIT_ClosedNoCellNoHandNoNameNoRollNoRoomNoRowTwice_NoSize⟩
 have IT_ClosedNoCellNoHandNoNameNoRollNoRoomNoRowTwice_NoSign:Qkh K mg ["Closed","NoCell","NoHand","NoName","NoRoll","NoRoom","NoRow","Twice"] "NoSign" false:=⟨Qbk,[QgQ,Qg3,QgW,Qg0,QgM,Qg1,Qh8,QhR],PySem.W.mg_of X G Qc8,XF_NoSign,⟨_,_,rfl,PySem.W.mg_of X G Qmb,⟨_,_,rfl,PySem.W.mg_of X G QlH,⟨_,_,rfl,PySem.W.mg_of X G Qmc,⟨_,_,rfl,PySem.W.mg_of X G QlN,⟨_,_,rfl,PySem.W.mg_of X G QlO,⟨_,_,rfl,PySem.W.mg_of X G Ql9,⟨_,_,rfl,PySem.W.mg_of X G Qnf,⟨_,_,rfl,PySem.W.mg_of X G Qnu,rfl⟩⟩⟩⟩⟩⟩⟩⟩,fIT_ClosedNoCellNoHandNoNameNoRollNoRoomNoRowTwice_NoSign⟩;have IS_NoSize_NoSize:ISN K mg "NoSize" "NoSize" true:=⟨_,_,PySem.W.mg_of X G Qdq,XF_NoSize,PySem.W.mg_of X G Qdq,fIS_NoSize_NoSize⟩
 have IS_NoSize_NoSign:ISN K mg "NoSize" "NoSign" false:=⟨_,_,PySem.W.mg_of X G Qc8,XF_NoSign,PySem.W.mg_of X G Qdq,fIS_NoSize_NoSign⟩;have IS_NoSign_NoSize:ISN K mg "NoSign" "NoSize" false:=⟨_,_,PySem.W.mg_of X G Qdq,XF_NoSize,PySem.W.mg_of X G Qc8,fIS_NoSign_NoSize⟩;have IS_NoSign_NoSign:ISN K mg "NoSign" "NoSign" true:=⟨_,_,PySem.W.mg_of X G Qc8,XF_NoSign,PySem.W.mg_of X G Qc8,fIS_NoSign_NoSign⟩;have VN:=PySem.W.mg_none_of X G xve;have IV_NoSize:ISV K mg "NoSize":=⟨_,PySem.W.mg_of X G Qdq,XF_NoSize,fIV_NoSize⟩;have IV_NoSign:ISV K mg "NoSign":=⟨_,PySem.W.mg_of X G Qc8,XF_NoSign,fIV_NoSign⟩
 have XA_at_NoSign:XFC K mg "at" "NoSign":=⟨_,PySem.W.mg_of X G Qc8,XF_NoSign,fXA_at_NoSign,hXA_at_NoSign⟩;have EX_OutError_NoSize:EXM K mg "OutError" "NoSize" true:=⟨_,_,PySem.W.mg_of X G Qdq,PySem.W.mg_of X G Qj2,fEX_OutError_NoSize⟩;have EX_OutError_NoSign:EXM K mg "OutError" "NoSign" true:=⟨_,_,PySem.W.mg_of X G Qc8,PySem.W.mg_of X G Qj2,fEX_OutError_NoSign⟩;refine ⟨PySem.W.fnOf "law" "law" (QbQ QfO) (QaX QfO) (Qai QfO) .none Qqw QqB Qqj Qp9 Qnn Qrf,fun s v=>.of_eq rfl,fun base _ _=>?_⟩;have XI_NoSign:=@Qri l.prog w K mg base DI_NoSign;have Qjr:=@QpR l.prog w K mg base Qi2 B QgV QhL
 have QcE:=@QmR l.prog w K mg base Qhu B Qi4;have Qjv:=@Qpb l.prog w K mg base Qi5 B QdI QeY XI_NoSign Qjr;have Qjg:=@Qpt l.prog w K mg base Qjw B QcE;have Qey:=@Qjf l.prog w K mg base Qeu B QcE;have Qiq:=@QnX l.prog w K mg base Qis B QdI QeY;have Qc9:=@QmV l.prog w K mg base QhC B Qiq;have Qep:=@Qjh l.prog w K mg base Qet B QaZ Qbu;have Qgh:=@Qlk l.prog w K mg base Qf9 B Qbu QaZ Qey Qjg Qc9;have Qf6:=@Qk9 l.prog w K mg base Qge B Qjv Qgh;have Qe8:=@Qkb l.prog w K mg base Qfn B QaZ Qbu Qc9;have QiG:=@Qn5 l.prog w K mg base QiQ B Qep Qf6 Qe8;have Qf5:=@Qlg l.prog w K mg base Qga B QgG;have QiP:=@Qn1 l.prog w K mg base Qif B
 have QhE:=@Qnb l.prog w K mg base Qhq B QiP;have QeB:=@Qjy l.prog w K mg base QeA B QgG QaN QbM QbB;have Qby:=@QjT l.prog w K mg base QeT B Qfi Qdh Qck X_NoSize QhE QeB;have Qdl:=@Qmk l.prog w K mg base Qg4 B QaN Qck;have QdS:=@Qig l.prog w K mg base QdP B QbB QaN;have Qd3:=@QiX l.prog w K mg base Qd0 B Qdh QaN QbM Qdl;have QdJ:=@QnH l.prog w K mg base QhF B QbM QbB Qdl QdS Qd3 Qf5;have QbR:=@Qib l.prog w K mg base Qdt B QaN;have Qjl:=@Qpg l.prog w K mg base Qjj B Qby QiG QdJ QbR;have QiO:=@QnW l.prog w K mg base Qim B;have QbW:=@Qpe l.prog w K mg base Qjt B;have QeJ:=@QnR l.prog w K mg base QhJ B
 have QdL:=@QnC l.prog w K mg base QhG B;have QbZ:=@Qic l.prog w K mg base QdT B QdL.can;have Qex:=@Qi6 l.prog w K mg base Qes B QbZ;have Qfv:=@QkR l.prog w K mg base Qfx B QbW;have Qei:=@Qn6 l.prog w K mg base QiA B IT_ClosedNoCellNoHandNoNameNoRollNoRoomNoRowTwice_NoSize IT_ClosedNoCellNoHandNoNameNoRollNoRoomNoRowTwice_NoSign IS_NoSize_NoSize IS_NoSize_NoSign IS_NoSign_NoSize IS_NoSign_NoSign VN IV_NoSize IV_NoSign XA_at_NoSign QdL;have QcI:=@QnS l.prog w K mg base QhM B EX_OutError_NoSize EX_OutError_NoSign Qjl Qei;have QgB:=@QnV l.prog w K mg base QiK B EX_OutError_NoSize EX_OutError_NoSign Qby Qei
 have QfA:=@QkP l.prog w K mg base QfE B Qby.can QbW QeJ Qex QdJ QbZ QbR;have QwC:=@Qu9 l.prog w K mg base QpE B QiO Qfv QbW QgB QcI QfA;obtain ⟨f',fd',hm',hk',hb',F',oc',od',osl',lk'⟩:=QwC;have e2:=(PySem.W.mg_of X G QpB).symm.trans hm';cases e2;have e3:=QsR.symm.trans lk';cases e3;exact F'.imp (Qur Qsb)
theorem walk {l:PySem.W.OpenLaw}{q:Program}{loose:List Str}{XP:(Str→Option Value)→Heap→Prop}{YP:World→Heap→Prop}{d:DefRec}{K:Params→PySem.W.Frag} (hn:l.most=some 63) (hdf:d.params.defaults = [])
  (hY:∀(w:World) (h:Heap),YP w h→(K w.params).In h)
  (F:∀(w:World) (mg:Str→Option Value) (fa:Addr) (h:Heap),(K w.params).In h→h.Ns mainGlobals mg→mg d.name=some (.ref fa) →
   ∃fd:FuncData,(∀(s:Shared) (u:Value),BindsTo s fd ⟨[u],[]⟩ [("_law_script",u)])∧∀base:Heap,(K w.params).In base→base.Ns mainGlobals mg→QbH l.prog w (K w.params) mg base CX0 8 fa fd ["_law_script"] (sp_law (K w.params))) :
  PySem.W.WalkO q loose XP YP l.row.toRowW d [] (fun f vs=>PySem.call f vs) :=
 L2.walk_ofR (n:=63) (k:=8) (x:="_law_script") (CX:=fun _=>CX0) (sp:=fun w=>sp_law (K w.params)) hn (by decide) hdf ⟨rfl,by decide,by decide⟩ hY F (fun _ _ a ns hl ho hS=>⟨a,ns,rfl,hS,hl,ho,fun _=>rfl⟩) fun _ _ _ _ _ z=>z
end K27
open PySem PySem.W PyProof.Rows L2
set_option maxRecDepth 100000 in
set_option maxHeartbeats 0 in
theorem PySem.Challenge.cw_outweave_k27_most_refused_holds : PySem.Challenge.rw_outweave_k27_most_refused.Holds := by
 w_on; o_law; k_head; (case hw=>w_witness2)
 k_fill
 refine K27.walk (l:=PySem.Challenge.rw_outweave_k27_most_refused) rfl rfl (fun w h Y=>PySem.W.kIn_of Y) ?F
 case F =>
  intro w mg fa h KX G hmg
  refine' K27.all_mk KX G hmg ⟨?x1,?x2,?x3,?x4,?x5,?x6,?x7⟩ ?x8 ?x9 ⟨?x10,?x11,?x12,?x13,?x14,?x15,?x16⟩ ?x17 ?x18 ?x19 ?x20 ?x21 (mkD KX G ?x22 ?x23 ?x24 ?x25) (mkD KX G ?x26 ?x27 ?x28 ?x29) (mkD KX G ?x30 ?x31 ?x32 ?x33) (mkD KX G ?x34 ?x35 ?x36 ?x37) (mkD KX G ?x38 ?x39 ?x40 ?x41) (mkD KX G ?x42 ?x43 ?x44 ?x45) (mkD KX G ?x46 ?x47 ?x48 ?x49) (mkM ?x50 ?x51 ?x52 ?x53 ?x54) (mkM ?x55 ?x56 ?x57 ?x58 ?x59) (mkM ?x60 ?x61 ?x62 ?x63 ?x64) (mkM ?x65 ?x66 ?x67 ?x68 ?x69) (mkD KX G ?x70 ?x71 ?x72 ?x73) (mkD KX G ?x74 ?x75 ?x76 ?x77) (mkD KX G ?x78 ?x79 ?x80 ?x81) (mkD KX G ?x82 ?x83 ?x84 ?x85) (mkM ?x86 ?x87 ?x88 ?x89 ?x90) (mkM ?x91 ?x92 ?x93 ?x94 ?x95) (mkM ?x96 ?x97 ?x98 ?x99 ?x100) (mkM ?x101 ?x102 ?x103 ?x104 ?x105) (mkM ?x106 ?x107 ?x108 ?x109 ?x110) (mkM ?x111 ?x112 ?x113 ?x114 ?x115) (mkM ?x116 ?x117 ?x118 ?x119 ?x120) (mkD KX G ?x121 ?x122 ?x123 ?x124) (mkD KX G ?x125 ?x126 ?x127 ?x128) (mkD KX G ?x129 ?x130 ?x131 ?x132) (mkD KX G ?x133 ?x134 ?x135 ?x136) (mkD KX G ?x137 ?x138 ?x139 ?x140) (mkD KX G ?x141 ?x142 ?x143 ?x144) (mkD KX G ?x145 ?x146 ?x147 ?x148) (mkD KX G ?x149 ?x150 ?x151 ?x152) (mkD KX G ?x153 ?x154 ?x155 ?x156) (mkD KX G ?x157 ?x158 ?x159 ?x160) (mkD KX G ?x161 ?x162 ?x163 ?x164) (mkD KX G ?x165 ?x166 ?x167 ?x168) ?x169 ?x170 ?x171 ?x172 ⟨PySem.W.mg_none_of KX G ?x173,PySem.W.mg_none_of KX G ?x174,PySem.W.mg_none_of KX G ?x175,PySem.W.mg_none_of KX G ?x176,PySem.W.mg_none_of KX G ?x177,PySem.W.mg_none_of KX G ?x178,PySem.W.mg_none_of KX G ?x179,PySem.W.mg_none_of KX G ?x180,PySem.W.mg_none_of KX G ?x181,PySem.W.mg_none_of KX G ?x182,PySem.W.mg_none_of KX G ?x183,PySem.W.mg_none_of KX G ?x184,PySem.W.mg_none_of KX G ?x185,PySem.W.mg_none_of KX G ?x186,PySem.W.mg_none_of KX G ?x187⟩ ⟨_,PySem.W.mg_of KX G ?x188,?x189⟩ ⟨_,PySem.W.mg_of KX G ?x190,?x191⟩ ⟨_,PySem.W.mg_of KX G ?x192,?x193⟩ ⟨_,PySem.W.mg_of KX G ?x194,?x195⟩ ⟨_,PySem.W.mg_of KX G ?x196,?x197⟩ ?x198 ?x199 ?x200 ?x201 ?x202 ⟨_,PySem.W.mg_of KX G ?x203,?x204⟩ ?x205 ?x206 ?x207 ?x208 ?x209 ?x210 ?x211 ?x212 ?x213 ?x214 ?x215 ?x216 ?x217 ?x218 ?x219 ?x220 ?x221 ?x222 ?x223 ?x224 ?x225 ?x226 ?x227 ?x228 ?x229 ?x230 ?x231 ?x232 ?x233 ?x234 ?x235 ?x236 ?x237 ?x238 ?x239 ?x240 ?x241 ?x242 ?x243 ?x244 ?x245 ?x246 ?x247 ?x248 ?x249 ?x250 ?x251 ?x252
  (case x1 | x2 | x3 | x4 | x5 | x6 | x7 | x8 | x9 | x10 | x11 | x12 | x13 | x14 | x15 | x16 | x17 | x18 | x19 | x20 | x21 | x22 | x23 | x24 | x25 | x26 | x27 | x28 | x29 | x30 | x31 | x32 | x33 | x34 | x35 | x36 | x37 | x38 | x39 | x40 | x41 | x42 | x43 | x44 | x45 | x46 | x47 | x48 | x49 | x50 | x51 | x52 | x53 | x54 | x55 | x56 | x57 | x58 | x59 | x60 | x61 | x62 | x63 | x64 | x65 | x66 | x67 | x68 | x69 | x70 | x71 | x72 | x73 | x74 | x75 | x76 | x77 | x78 | x79 | x80 | x81 | x82 | x83 | x84 | x85 | x86 | x87 | x88 | x89 | x90 | x91 | x92 | x93 | x94 | x95 | x96 | x97 | x98 | x99 | x100 | x101 | x102 | x103 | x104 | x105 | x106 | x107 | x108 | x109 | x110 | x111 | x112 | x113 | x114 | x115 | x116 | x117 | x118 | x119 | x120 | x121 | x122 | x123 | x124 | x125 | x126 | x127 | x128 | x129 | x130 | x131 | x132 | x133 | x134 | x135 | x136 | x137 | x138 | x139 | x140 | x141 | x142 | x143 | x144 | x145 | x146 | x147 | x148 | x149 | x150 | x151 | x152 | x153 | x154 | x155 | x156 | x157 | x158 | x159 | x160 | x161 | x162 | x163 | x164 | x165 | x166 | x167 | x168 | x169 | x170 | x171 | x172 | x173 | x174 | x175 | x176 | x177 | x178 | x179 | x180 | x181 | x182 | x183 | x184 | x185 | x186 | x187 | x188 | x190 | x192 | x194 | x196 | x198 | x199 | x203 | x205 | x206 | x207 | x208 | x209 | x210 | x211 | x212 | x213 | x214 | x215 | x216 | x217 | x218 | x219 | x220 | x221 | x222 | x223 | x224 | x225 | x226 | x227 | x228 | x229 | x230 | x231 | x232 | x233 | x234 | x235 | x236 | x237 | x246 | x249 | x250=>k_is)
  (case x189 | x191 | x193 | x195 | x197 | x204=>exact ⟨_,rfl⟩)
  (case x200=>rfl)
  (case x201=>decide +kernel)
  (case x202=>repeat (first | exact .nil | refine .cons ⟨_,rfl⟩ ?_))
  (case x238=>first | kernel_rfl | decide +kernel)
  (case x239=>k_exc)
  (case x240 | x241 | x242 | x243 | x244 | x245 | x247 | x248=>kit_is)
  (case x251 | x252=>kts_exm)
