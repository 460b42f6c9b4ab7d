import PyProof.Rows.All
import Wide.All
import OpenK.AllK
import Wide.FinOn
import Lean
import PyProof.EqAt
import PyProof.EqKinds
import PyProof.TupleCall
import PySem.Challenge.RW_outweave_k16_signs_refused
set_option Elab.async false
set_option linter.all false
set_option maxRecDepth 100000
set_option maxHeartbeats 4000000
section
open PySem PyProof.Rows
abbrev za:=@wpAny_bind
abbrev zb:=@wpAny_pure
abbrev zc:=@Nat.le_refl
abbrev zd:=@Heap.lt_size
abbrev ze:=@List.map_cons
abbrev zf:=@Bool.and_eq_true
abbrev zg:=@Bool.false_ne_true
abbrev zh:=@Heap.get?_push_of_some
abbrev zj:=@List.mem_cons
abbrev zk:=@Nat.ne_of_lt
abbrev zl:=@List.getElem?_eq_some_iff
abbrev zm:=@wpAny_mono
abbrev zn:=@List.size_toArray
abbrev zo:=@List.getElem?_set_ne
abbrev zp:=@decide_eq_false
abbrev zq:=@List.length_cons
abbrev zr:=@List.length_append
abbrev zt:=@Nat.le_trans
abbrev zu:=@List.mem_cons_of_mem
abbrev zv:=@Nat.lt_of_lt_of_le
abbrev zw:=@List.mem_cons_self
abbrev zx:=@List.append_nil
abbrev zy:=@List.getElem?_append_right
abbrev zz:=@List.getElem?_append_left
abbrev zA:=@List.mem_append
abbrev zB:=@List.mem_singleton
abbrev zC:=@List.getElem?_set_self
abbrev zD:=@Heap.get?_push_size
abbrev zE:=@List.getElem?_map
abbrev zF:=@wpAny_holding
abbrev zG:=@decide_eq_true
abbrev zH:=@Nat.lt_irrefl
abbrev zI:=@List.length_map
abbrev zJ:=@List.mem_append_right
abbrev zK:=@List.getElem?_eq_getElem
abbrev zL:=@Option.some.inj
abbrev zM:=@wpAny_call
abbrev zN:=@List.mem_of_getElem?
abbrev zO:=@List.append_assoc
abbrev zP:=@List.length_set
abbrev zQ:=@List.map_append
abbrev zR:=@wpAny_of_eq
abbrev zS:=@wpAny_rule
abbrev zT:=@List.mem_map
abbrev zU:=@List.nil_append
abbrev zV:=@Nat.zero_add
abbrev zW:=@Nat.lt_succ_self
abbrev zX:=@List.getD_eq_getElem?_getD
abbrev zY:=@codeAny_builtin
abbrev zZ:=@Int.emod_nonneg
abbrev jc:=@List.length_singleton
abbrev jd:=@List.all_eq_true
abbrev je:=@Classical.not_not
abbrev jf:=@of_decide_eq_true
abbrev jg:=@List.getElem?_cons_succ
abbrev jh:=@Option.map_eq_some_iff
abbrev ji:=@Int.emod_lt_of_pos
end
namespace PySem.W.Fast
abbrev tw3350495724857285712:=()
abbrev tw16109856560425625153:=()
abbrev tw1749914295539756566:=()
abbrev tw16620874728566516226:=()
abbrev tw14068186378028640188:=()
abbrev tw12992354572838632920:=()
abbrev tw5272705670162465780:=()
abbrev tw2124472934480632525:=()
abbrev tw2799514209077579664:=()
abbrev tw15667443984461345728:=()
abbrev tw12014174908191154988:=()
abbrev tw8343915115338292760:=()
abbrev tw10783050302573307741:=()
abbrev tw1545859395758039294:=()
abbrev tw295903529520391960:=()
abbrev tw9556240391868058430:=()
abbrev tw3151610745117580166:=()
abbrev tw619090987472967657:=()
abbrev tw17495298401652222800:=()
abbrev tw6620248076073164450:=()
abbrev tw15937006400902802366:=()
abbrev tw16767373967158660492:=()
abbrev tw3379298710410076184:=()
abbrev tw14906294181230075926:=()
abbrev tw14895739610731865089:=()
abbrev tw11013865915996238737:=()
abbrev tw8786444385661657405:=()
abbrev tw13255599976910108927:=()
abbrev tw2827083172169003001:=()
abbrev tw17036666612316185988:=()
abbrev tw3922058602956029784:=()
abbrev tw4405908612232185097:=()
abbrev tw1246323680151785795:=()
abbrev tw12689091004625808843:=()
abbrev tw1438181389345585818:=()
abbrev tw7180904226061652747:=()
end PySem.W.Fast
namespace L2
open PySem PySem.Spec PyProof.Rows
abbrev Key:=Sum Int Str
def QqG:Key→Value→Bool
 | .inl k,v=>Value.isInt k v
 | .inr x,v=>Value.isStrOf x v
def QuU (w:World):Key→Int
 | .inl k=>hashInt k
 | .inr x=>hashStr w x
theorem QbZ:∀{k:Key}{v:Value},QqG k v=true→(∃i t,k=Sum.inl i∧v=Value.int i t)∨(∃x t,k=Sum.inr x∧v=Value.str x t)
 | .inl i,v,h=>by
  obtain ⟨t,e⟩:=Value.isInt_shape (k:=i) (v:=v) h;exact .inl ⟨i,t,rfl,e⟩
 | .inr x,v,h=>by
  obtain ⟨t,e⟩:=Value.isStrOf_shape (x:=x) (v:=v) h;exact .inr ⟨x,t,rfl,e⟩
theorem Qts (a b:Int):decide ((Sum.inl a:Key)=Sum.inl b)=(a == b):=by
 by_cases e:a=b
 ·subst e; simp
 ·have h:¬(Sum.inl a:Key)=Sum.inl b:=fun q=>e (Sum.inl.inj q)
  rw [zp h];exact (beq_eq_false_iff_ne.mpr e).symm
theorem QtF (a b:Str):decide ((Sum.inr a:Key)=Sum.inr b)=decide (a=b):=by
 by_cases e:a=b
 ·subst e; simp
 ·have h:¬(Sum.inr a:Key)=Sum.inr b:=fun q=>e (Sum.inr.inj q)
  rw [zp h,zp e]
theorem Qse (a:Int) (b:Str):decide ((Sum.inl a:Key)=Sum.inr b)=false:=zp (fun q=>nomatch q)
theorem QtH (a:Str) (b:Int):decide ((Sum.inr a:Key)=Sum.inl b)=false:=zp (fun q=>nomatch q)
def QjL (prog:Program) (w:World):PySem.KeyKind prog w Key where
 is:=QqG
 hash:=QuU w
 inj:=fun v a b ha hb=>by
  rcases QbZ ha with ⟨i,t,rfl,rfl⟩ | ⟨x,t,rfl,rfl⟩
  ·rcases QbZ hb with ⟨j,u,rfl,e⟩ | ⟨y,u,rfl,e⟩
   ·injection e with e1 _; rw [e1]
   ·exact nomatch e
  ·rcases QbZ hb with ⟨j,u,rfl,e⟩ | ⟨y,u,rfl,e⟩
   ·exact nomatch e
   ·injection e with e1 _; rw [e1]
 byValue:=fun k v h=>by
  rcases QbZ h with ⟨i,t,rfl,rfl⟩ | ⟨x,t,rfl,rfl⟩ <;> rfl
 pyHash:=fun hv h=>by
  rcases QbZ hv with ⟨i,t,rfl,rfl⟩ | ⟨x,t,rfl,rfl⟩
  ·exact wpAny_pyHash_int h
  ·exact wpAny_pyHash_str h
 eqBool:=fun hu hv h=>by
  rcases QbZ hu with ⟨i,t,rfl,rfl⟩ | ⟨x,t,rfl,rfl⟩
  ·rcases QbZ hv with ⟨j,u,rfl,rfl⟩ | ⟨y,u,rfl,rfl⟩
   ·rw [Qts] at h; exact wpAny_eqBool_int h
   ·rw [Qse] at h; exact SeqAt.EqAt.int_str i t y u _ _ _ _ h
  ·rcases QbZ hv with ⟨j,u,rfl,rfl⟩ | ⟨y,u,rfl,rfl⟩
   ·rw [QtH] at h; exact SeqAt.EqAt.str_int x t j u _ _ _ _ h
   ·rw [QtF] at h; exact wpAny_eqBool_str h
 «strs»:=fun k x t v h=>by
  rcases QbZ h with ⟨i,u,rfl,e⟩ | ⟨y,u,rfl,e⟩
  ·exact nomatch e
  ·injection e with e1 _
   subst e1
   cases v <;> rfl
inductive V where
 | non | bl (b:Bool) | int (i:Int) | str (x:Str) | byt (b:Array UInt8) | flt (b:UInt64) | ref (a:Addr) | ty (n:String)
 deriving DecidableEq
def RelV:V→Value→Prop
 | .non,u=>u=Value.none
 | .bl b,u=>u=Value.bool b
 | .int i,u=>∃t,u=Value.int i t
 | .str x,u=>∃t,u=Value.str x t
 | .byt b,u=>∃t,u=Value.bytes b t
 | .flt b,u=>∃t,u=Value.float b t
 | .ref a,u=>u=Value.ref a
 | .ty n,u=>u=Value.type n
abbrev QaC:List V→List Value→Prop:=Paired RelV
theorem QaC.length {xs:List V}{us:List Value} (r:QaC xs us):xs.length=us.length:=Paired.length r
theorem QaC.get:∀{xs:List V}{us:List Value}{i:Nat}{x:V},QaC xs us→xs[i]? = some x→∃u,us[i]? = some u∧RelV x u
 | _,_,_,_,.nil,e=>by simp at e
 | _,_,0,_,.cons r _,e=>by simp at e; subst e; exact ⟨_,rfl,r⟩
 | _,_,i+1,x,.cons _ t,e=>by
  obtain ⟨u,h1,h2⟩:=QaC.get (i:=i) (x:=x) t (by simpa using e);exact ⟨u,by simpa using h1,h2⟩
theorem QaC.set {x:V}{u:Value} (r:RelV x u):∀{xs:List V}{us:List Value} (i:Nat),QaC xs us→QaC (xs.set i x) (us.set i u)
 | _,_,_,.nil=>.nil
 | _,_,0,.cons _ t=>.cons r t
 | _,_,i+1,.cons q t=>.cons q (QaC.set r i t)
theorem QaC.append:∀{xs ys:List V}{us ws:List Value},QaC xs us→QaC ys ws→QaC (xs++ys) (us++ws)
 | _,_,_,_,.nil,s=>s
 | _,_,_,_,.cons r t,s=>.cons r (QaC.append t s)
theorem QaC.take:∀{xs:List V}{us:List Value} (n:Nat),QaC xs us→QaC (xs.take n) (us.take n)
 | _,_,0,_=>.nil
 | _,_,_+1,.nil=>.nil
 | _,_,n+1,.cons r t=>.cons r (QaC.take n t)
theorem QaC.drop:∀{xs:List V}{us:List Value} (n:Nat),QaC xs us→QaC (xs.drop n) (us.drop n)
 | _,_,0,r=>r
 | _,_,_+1,.nil=>.nil
 | _,_,n+1,.cons _ t=>QaC.drop n t
theorem QaC.none_of:∀{xs:List V}{us:List Value}{i:Nat},QaC xs us→xs[i]? = none→us[i]? = none:=fun {xs us i} r e=>by
 have h1:=r.length;have h2:xs.length≤i:=List.getElem?_eq_none_iff.mp e;exact List.getElem?_eq_none_iff.mpr (by omega)
def Qc4:Option V→Option Value→Prop
 | some v,some u=>RelV v u
 | none,none=>True
 | _,_=>False
def KV {κ:Type}:List (κ×V)→List (κ×Value)→Prop:=Paired fun (p:κ×V) (q:κ×Value)=>p.1=q.1∧RelV p.2 q.2
def kV:Key→V
 | .inl i=>.int i
 | .inr x=>.str x
inductive HO where
  | lst (xs:List V)
  | tup (xs:List V)
  | dK (kvs:List (Key×V)) | dT (kvs:List (List Key×V))
  | set (S:Int→Bool) (n:Nat)
  | ins (C dx:Addr) (fs:List (Str×V))
  | own (x:Addr)
  | xd (fs:List (Str×V))
  | met (f x:Addr)
  | rng (lo hi:Int)
  | frz (o:Obj) (u:HO)
  | tbl (ps:Array Value)
  | ext (φ:Heap→Prop)
abbrev Hp:=Addr→Option HO
def upd (H:Hp) (a:Addr) (o:HO):Hp:=fun b=>if b=a then some o else H b
theorem QaD {H:Hp}{a:Addr}{o:HO}:upd H a o a=some o:=by unfold upd; rw [if_pos rfl]
theorem Qan {H:Hp}{a b:Addr}{o:HO} (h:b≠a):upd H a o b=H b:=by unfold upd; rw [if_neg h]
theorem Qay {H:Hp}{a b:Addr}{o:HO} (h:H a=some o) (h':H b=none):a≠b:=by
 intro e; subst e; rw [h] at h'; cases h'
section
variable (P:Program) (w:World)
def QbL (H:Hp) (h:Heap) (a:Addr):HO→Prop
 | .lst xs=>xs.length≤sizeLine∧∃(its:List Value) (n:Nat),QaC xs its∧h.get? a=some { cls:=.type "list",data:=.seq its.toArray n }
 | .tup xs=>xs.length≤sizeLine∧∃its:List Value,QaC xs its∧IsTup h a its.toArray
 | .dK kvs=>kvs.length≤sizeLine∧(a == sysModules)=false∧∃vs,KV kvs vs∧h.DictOf (QjL P w) a vs
 | .dT kvs=>kvs.length≤sizeLine∧(a == sysModules)=false∧∃xs:List (List Key×Addr×Value),
   Paired (fun (p:List Key×V) (q:List Key×Addr×Value)=>p.1=q.1∧H q.2.1=some (.tup (p.1.map kV))∧RelV p.2 q.2.2) kvs xs ∧
   ∃o es ep,h.get? a=some o∧o.ExactDict∧o.data = .dict es ep∧es.toList=xs.map (entryOfKey (tupleKind (QjL P w)))∧(xs.map (·.1)).Nodup
 | .set S n=>h.SetOf (intKind P w) a S n
 | .ins C dx fs=>H dx=some (.own a)∧fs.length≤1000∧dx≠a∧h.get? a=some (PySem.W.instObj C dx) ∧
   ∃mA,h.Ns1 dx mA∧(∀f,Qc4 (fs.lookup f) (mA f))∧PySem.Within mA (fs.map (·.1))
 | .own _=>∃o,h.get? a=some o
 | .xd fs=>∃mA,h.Ns1 a mA∧∀f,Qc4 (fs.lookup f) (mA f)
 | .rng lo hi=>∃t u v,h.get? a=some { cls:=.type "range",data:=.fields #[.int lo t,.int hi u,.int 1 v] }
 | .frz o u=>h.get? a=some o∧QbL H h a u
 | .tbl ps=>h.get? a=some { cls:=.none,data:=.fields ps }
 | .met f x=>h.get? a=some (PySem.W.methodObj (.ref f) (.ref x))
 | .ext φ=>φ h∧(∃o,h.get? a=some o)∧∀h1 h2:Heap,φ h1→(∀o,h1.get? a=some o→h2.get? a=some o)→φ h2
def HOk (H:Hp) (h:Heap):Prop:=∀a o,H a=some o→QbL P w H h a o
end
section
variable {P:Program}{w:World}{H H':Hp}{h h':Heap}{a:Addr}{o:HO}
theorem QbL.lt (x:QbL P w H h a o):a < h.objs.size:=by
 cases o with
 | lst xs=>obtain ⟨_,_,_,_,e⟩:=x; exact zd e
 | tup xs=>obtain ⟨_,_,_,p⟩:=x; exact p.lt
 | dK kvs=>obtain ⟨_,_,_,_,o,_,_,e,_⟩:=x; exact zd e
 | dT kvs=>obtain ⟨_,_,_,_,o,_,_,e,_⟩:=x; exact zd e
 | set S n=>obtain ⟨o,_,_,_,e,_⟩:=x; exact zd e
 | ins C dx fs=>obtain ⟨_,_,_,e,_⟩:=x; exact zd e
 | own y=>obtain ⟨_,e⟩:=x; exact zd e
 | xd fs=>obtain ⟨_,⟨_,_,_,e,_⟩,_⟩:=x; exact zd e
 | rng lo hi=>obtain ⟨_,_,_,e⟩:=x; exact zd e
 | frz ob u=>obtain ⟨e,_⟩:=x; exact zd e
 | tbl ps=>exact zd (show h.get? a=some _ from x)
 | met f y=>exact zd (show h.get? a=some _ from x)
 | ext φ=>obtain ⟨_,⟨_,e⟩,_⟩:=x; exact zd e
theorem Paired.mapP {α β:Type}{F G:α→β→Prop}:∀{l₁:List α}{l₂:List β},Paired F l₁ l₂→(∀a b,F a b→G a b)→Paired G l₁ l₂
 | _,_,.nil,_=>.nil
 | _,_,.cons r t,f=>.cons (f _ _ r) (Paired.mapP t f)
theorem QbL.stay (x:QbL P w H h a o) (k:∀b u,(b=a∨H b=some (.own a))→h.get? b=some u→h'.get? b=some u)
  (ho:∀b,H b=some (.own a)→H' b=some (.own a)) (ht:∀b xs,H b=some (.tup xs)→H' b=some (.tup xs)):QbL P w H' h' a o:=by
 induction o with
 | lst xs=>obtain ⟨z,its,n,r,e⟩:=x; exact ⟨z,its,n,r,k _ _ (.inl rfl) e⟩
 | tup xs=>obtain ⟨z,its,r,ob,e,c⟩:=x; exact ⟨z,its,r,ob,k _ _ (.inl rfl) e,c⟩
 | dK kvs=>obtain ⟨z,y,vs,r,ob,es,ep,e,c⟩:=x; exact ⟨z,y,vs,r,ob,es,ep,k _ _ (.inl rfl) e,c⟩
 | dT kvs =>
  obtain ⟨z,y,xs,r,ob,es,ep,e,c⟩:=x;exact ⟨z,y,xs,Paired.mapP r fun p q z=>⟨z.1,ht _ _ z.2.1,z.2.2⟩,ob,es,ep,k _ _ (.inl rfl) e,c⟩
 | set S n=>obtain ⟨ob,es,ep,t,e,c⟩:=x; exact ⟨ob,es,ep,t,k _ _ (.inl rfl) e,c⟩
 | ins C dx fs =>
  obtain ⟨d,z,ne,e,mA,⟨od,es,ep,e2,c⟩,r⟩:=x;exact ⟨ho _ d,z,ne,k _ _ (.inl rfl) e,mA,⟨od,es,ep,k _ _ (.inr d) e2,c⟩,r⟩
 | own y=>obtain ⟨ob,e⟩:=x; exact ⟨ob,k _ _ (.inl rfl) e⟩
 | xd fs=>obtain ⟨mA,⟨od,es,ep,e,c⟩,r⟩:=x; exact ⟨mA,⟨od,es,ep,k _ _ (.inl rfl) e,c⟩,r⟩
 | rng lo hi=>obtain ⟨t,u,v,e⟩:=x; exact ⟨t,u,v,k _ _ (.inl rfl) e⟩
 | frz ob u ih=>obtain ⟨e,q⟩:=x; exact ⟨k _ _ (.inl rfl) e,ih q⟩
 | tbl ps =>
  have e:h.get? a=some { cls:=.none,data:=.fields ps }:=x;show h'.get? a=some { cls:=.none,data:=.fields ps };exact k a _ (.inl rfl) e
 | met f y =>
  have e:h.get? a=some (PySem.W.methodObj (.ref f) (.ref y)):=x;show h'.get? a=some (PySem.W.methodObj (.ref f) (.ref y));exact k a _ (.inl rfl) e
 | ext φ=>obtain ⟨p,⟨o,e⟩,st⟩:=x; exact ⟨st _ _ p fun o q=>k _ _ (.inl rfl) q,⟨o,k _ _ (.inl rfl) e⟩,st⟩
theorem HOk.lt (x:HOk P w H h) (e:H a=some o):a < h.objs.size:=(x a o e).lt
theorem HOk.fresh (x:HOk P w H h) (e:h.objs.size≤a):H a=none:=by
 cases q:H a with
 | none=>rfl
 | some u=>exact absurd (zv (x.lt q) e) (zH _)
theorem HOk.kept (x:HOk P w H h) (k:∀b u,h.get? b=some u→h'.get? b=some u):HOk P w H h':=fun a o e =>
 (x a o e).stay (fun b u _ q=>k b u q) (fun _ q=>q) fun _ _ q=>q
theorem HOk.laid (x:HOk P w H h) (k:∀b u,h.get? b=some u→h'.get? b=some u) (hp:h.objs.size≤a) (new:QbL P w (upd H a o) h' a o):HOk P w (upd H a o) h':=fun b u e=>by
 have hn:=x.fresh hp
 by_cases hb:b=a
 ·subst hb; rw [QaD] at e; cases e; exact new
 ·rw [Qan hb] at e
  exact (x b u e).stay (fun c v _ q=>k c v q) (fun c q=>by rw [Qan (Qay q hn)]; exact q) fun c xs q=>by rw [Qan (Qay q hn)]; exact q
end
def Rd (H:Hp) (a:Addr) (u:HO):Prop:=H a=some u∨∃o,H a=some (.frz o u)
theorem Rd.of {H:Hp}{a:Addr}{u:HO} (h:H a=some u):Rd H a u:=.inl h
theorem Rd.ok {P:Program}{w:World}{H:Hp}{h:Heap}{a:Addr}{u:HO} (r:Rd H a u) (x:HOk P w H h):QbL P w H h a u:=by
 rcases r with r | ⟨o,r⟩
 ·exact x a u r
 ·obtain ⟨_,q⟩:=x a _ r;exact q
def Mut:Option HO→Prop
 | some (.lst _)=>True
 | some (.dK _)=>True
 | some (.dT _)=>True
 | some (.set _ _)=>True
 | some (.ins _ _ _)=>True
 | some (.ext _)=>True
 | _=>False
section
variable {P:Program}{w:World}{H:Hp}{h h':Heap}{x e:Addr}{o':HO}
theorem HOk.write (ok:HOk P w H h) (mu:Mut (H x)) (he:e=x∨H e=some (.own x)) (k:∀b u,b≠e→h.get? b=some u→h'.get? b=some u) (heo:∃u,h'.get? e=some u)
  (new:QbL P w (upd H x o') h' x o'):HOk P w (upd H x o') h':=fun b u q=>by
 have nown:∀c y,H c=some (.own y)→c≠x:=fun c y r z=>by subst z; rw [r] at mu; exact mu
 have ntup:∀c xs,H c=some (.tup xs)→c≠x:=fun c xs r z=>by subst z; rw [r] at mu; exact mu
 by_cases hb:b=x
 ·subst hb; rw [QaD] at q; cases q; exact new
 ·rw [Qan hb] at q
  by_cases hbe:b=e
  ·have q':H b=some (.own x):=by
    rcases he with z | z
    ·exact absurd (hbe.trans z) hb
    ·rw [hbe]; exact z
   rw [q] at q'; cases q';obtain ⟨v,hv⟩:=heo;exact ⟨v,by rw [hbe]; exact hv⟩
  ·refine (ok b u q).stay (fun c v hc r=>k c v ?_ r) (fun c r=>by rw [Qan (nown c b r)]; exact r) fun c xs r=>by rw [Qan (ntup c xs r)]; exact r
   rcases hc with rfl | hc
   ·exact hbe
   ·rintro rfl
    rcases he with z | z
    ·exact nown c b hc z
    ·rw [hc] at z; cases z; exact hb rfl
end
structure Un (fs ex:List Addr) (H H':Hp) (h h':Heap):Prop where
 keep:∀b o,h.get? b=some o→H b=none→b∉fs→b∉ex→h'.get? b=some o
 slot:∀b o,h.get? b=some o→H b=none→b∈fs→b∉ex→∃sl,h'.get? b=some { o with slots:=sl }
 free:∀b o,h.get? b=some o→H b=none→b∉ex→H' b=none
 there:∀b o,h.get? b=some o→b∉ex→∃o',h'.get? b=some o'
 tups:∀b xs,H b=some (.tup xs)→H' b=some (.tup xs)
 frzs:∀b o u,H b=some (.frz o u)→H' b=some (.frz o u)
 tbls:∀b ps,H b=some (.tbl ps)→∃more,H' b=some (.tbl (ps++more))
section
variable {fs fs' ex ex':List Addr}{H H1 H2:Hp}{h h1 h2 h':Heap}{a x e:Addr}{o:HO}
theorem Un.any (u:Un fs ex H H1 h h1) {b:Addr}{ob:Obj} (q:h.get? b=some ob) (n:H b=none) (hx:b∉ex):∃sl,h1.get? b=some { ob with slots:=sl }:=by
 by_cases hb:b∈fs
 ·exact u.slot b ob q n hb hx
 ·exact ⟨ob.slots,u.keep b ob q n hb hx⟩
theorem Un.trans (a:Un fs ex H H1 h h1) (b:Un fs ex H1 H2 h1 h2):Un fs ex H H2 h h2 where
 keep:=fun c ob q n hc hx=>b.keep c ob (a.keep c ob q n hc hx) (a.free c ob q n hx) hc hx
 slot:=fun c ob q n hc hx=>by
  obtain ⟨sl,e1⟩:=a.slot c ob q n hc hx;obtain ⟨sl',e2⟩:=b.slot c _ e1 (a.free c ob q n hx) hc hx;exact ⟨sl',e2⟩
 free:=fun c ob q n hx=>by
  obtain ⟨o',e1⟩:=a.there c ob q hx;exact b.free c o' e1 (a.free c ob q n hx) hx
 there:=fun c ob q hx=>by
  obtain ⟨o',e1⟩:=a.there c ob q hx;exact b.there c o' e1 hx
 tups:=fun c xs q=>b.tups c xs (a.tups c xs q)
 frzs:=fun c ob xs q=>b.frzs c ob xs (a.frzs c ob xs q)
 tbls:=fun c ps q=>by
  obtain ⟨m1,e1⟩:=a.tbls c ps q;obtain ⟨m2,e2⟩:=b.tbls c _ e1;exact ⟨m1++m2,by rw [e2,Array.append_assoc]⟩
theorem Un.kept (k:∀b u,h.get? b=some u→h'.get? b=some u):Un fs ex H H h h' :=
 ⟨fun b ob q _ _ _=>k b ob q,fun b ob q _ _ _=>⟨ob.slots,k b ob q⟩,fun _ _ _ n _=>n,fun b ob q _=>⟨ob,k b ob q⟩,fun _ _ q=>q,fun _ _ _ q=>q,fun _ ps q=>⟨#[],by rw [q]; simp⟩⟩
theorem Un.refl:Un fs ex H H h h:=Un.kept fun _ _ q=>q
theorem Un.laid (k:∀b u,h.get? b=some u→h'.get? b=some u) (hp:h.objs.size≤a) (hn:H a=none):Un fs ex H (upd H a o) h h' where
 keep:=fun b u q _ _ _=>k b u q
 slot:=fun b u q _ _ _=>⟨u.slots,k b u q⟩
 free:=fun b u q n _=>by rw [Qan (zk (zv (zd q) hp))]; exact n
 there:=fun b u q _=>⟨u,k b u q⟩
 tups:=fun b xs q=>by rw [Qan (Qay q hn)]; exact q
 frzs:=fun b u xs q=>by rw [Qan (Qay q hn)]; exact q
 tbls:=fun b ps q=>⟨#[],by rw [Qan (Qay q hn),q]; simp⟩
theorem Un.write (mu:Mut (H x)) (he:e=x∨H e=some (.own x)) (k:∀b u,b≠e→h.get? b=some u→h'.get? b=some u) (heo:∃u,h'.get? e=some u):Un fs ex H (upd H x o) h h':=by
 have hx:∀b,H b=none→b≠x:=fun b n z=>by subst z; rw [n] at mu; exact mu
 have hb:∀b,H b=none→b≠e:=fun b n z=>by
  subst z
  rcases he with r | r
  ·exact hx b n r
  ·rw [n] at r; cases r
 have hm:∀b u,H b=some u→¬Mut (some u)→b≠x:=fun b u q nm z=>by subst z; rw [q] at mu; exact nm mu
 refine ⟨fun b u q n _ _=>k b u (hb b n) q,fun b u q n _ _=>⟨u.slots,k b u (hb b n) q⟩,fun b u q n _=>by rw [Qan (hx b n)]; exact n,fun b u q _=>?_,
  fun b xs q=>by rw [Qan (hm b _ q fun z=>z)]; exact q,fun b u xs q=>by rw [Qan (hm b _ q fun z=>z)]; exact q,fun b ps q=>⟨#[],by rw [Qan (hm b _ q fun z=>z),q]; simp⟩⟩
 by_cases hbe:b=e
 ·subst hbe; exact heo
 ·exact ⟨u,k b u hbe q⟩
theorem Un.mono (u:Un fs ex H H1 h h1) (hs:∀b∈fs,b∈fs') (hx:∀b∈ex,b∈ex'):Un fs' ex' H H1 h h1 :=
 ⟨fun b ob q n hb he=>u.keep b ob q n (fun z=>hb (hs b z)) fun z=>he (hx b z),fun _ _ q n _ he=>u.any q n fun z=>he (hx _ z),fun b ob q n he=>u.free b ob q n fun z=>he (hx b z),fun b ob q he=>u.there b ob q fun z=>he (hx b z),u.tups,u.frzs,u.tbls⟩
end
def trk (h:Heap) (H:Hp):List Addr:=(List.range h.objs.size).filter fun a=>(H a).isSome
def Qen (h:Heap) (H:Hp):Heap:=PySem.W.hideAll h (trk h H)
theorem Qj6 (h:Heap) (H:Hp):(Qen h H).objs.size=h.objs.size:=PySem.W.hideAll_size _ _
theorem Qk1 {h:Heap}{H:Hp}{b:Addr}{o:Obj} (e:h.get? b=some o) (n:H b=none):(Qen h H).get? b=some o :=
 PySem.W.hideAll_get _ e fun hm=>by
  have q:(H b).isSome=true:=(List.mem_filter.mp hm).2;rw [n] at q; simp at q
theorem QlH {h:Heap}{H:Hp}{b:Addr}{o:Obj} (e:(Qen h H).get? b=some o):h.get? b=some o∧H b=none:=by
 have e':h.get? b=some o:=PySem.W.of_hideAll (trk h H) e;refine ⟨e',?_⟩
 cases q:H b with
 | none=>rfl
 | some x =>
  have hm:b∈trk h H:=List.mem_filter.mpr ⟨List.mem_range.mpr (zd e'),by simp [q]⟩;have z:(Qen h H).get? b=none:=PySem.W.hideAll_none (trk h H) hm;rw [z] at e; cases e
def Qru (g h:Heap) (L:Addr):List (Addr×Obj):=(List.range h.objs.size).filterMap fun a=>if a=L∨(g.get? a).isSome=true then none else (h.get? a).map fun o=>(a,o)
def rest (g h:Heap) (L d:Addr):List (Addr×Obj):=(Qru g h L).filter fun p=>decide (p.1≠d)
structure Mod (K:PySem.W.Frag) (mg:Str→Option Value) (base:Heap):Prop where
 kin:K.In base
 glob:base.Ns mainGlobals mg
 blt:∃mb,base.Ns builtinsNs mb∧∀x:Str,x≠"__name__"→mb x=bootBuiltins x
 nolimit:base.NoLimit
structure Cx where
 prog:Program
 w:World
 K:PySem.W.Frag
 mg:Str→Option Value
 base:Heap
 A:Around
 N:List Str
 s₀:Shared
 H₀:Hp
 env:Env
 outer:List Env
 stack:List Env
 ex:List Addr
 fn:Str→Bool
 calm:Bool
 pn:List (Addr×Obj)
 xe:Value→Shared→Prop
def frs (l:List Env):List Addr:=l.filterMap (·.frame)
abbrev Cx.fs (X:Cx):List Addr:=frs X.outer
def Vis (sc:Scope) (x:Str):Prop:=sc.names.lookup x=some .local∨sc.names.lookup x=some .cell∨sc.names.lookup x=some .free
def Loc (sc:Scope) (x:Str):Prop:=sc.names.lookup x=some .local∨sc.names.lookup x=some .cell
def Look (env:Env) (h:Heap) (m:Str→Option Value) (x:Str) (u:Value):Prop :=
 (env.kindOf x=some .local∧m x=some u)∨((env.kindOf x=some .cell∨env.kindOf x=some .free)∧∃c,env.cells.lookup x=some c∧h.IsCell c (some u))
structure Cx.Ok (X:Cx):Prop where
 mod:Mod X.K X.mg X.base
 kind:X.env.scope.kind = .function
 glob:X.env.globals=mainGlobals
 blt:X.env.builtins=builtinsNs
 above:X.s₀.heap.objs.size≤X.env.locals
 inj:∀x y c,X.env.cells.lookup x=some c→X.env.cells.lookup y=some c→x=y
 has:∀x,(X.env.kindOf x=some .cell∨X.env.kindOf x=some .free)→∃c,X.env.cells.lookup x=some c
 cab:∀x c,X.fn x=true→X.env.cells.lookup x=some c→X.s₀.heap.objs.size≤c
 hd:X.calm=true→X.A.handled=none
 frames:X.A.frames=some X.stack
 stk:X.stack=X.outer∨(X.stack=X.env::X.outer∧X.env.frame=some X.env.locals)
 exf:∀b∈X.ex,b≠X.env.locals∧∀x c,X.env.cells.lookup x=some c→c≠b
 bs:∀b o,X.base.get? b=some o→X.s₀.heap.get? b=some o∧X.H₀ b=none
 bsz:X.base.objs.size≤X.s₀.heap.objs.size
 noex:∀b o,X.base.get? b=some o→b∉X.ex
 exfs:∀b∈X.ex,b∉X.fs
 funs:X.s₀.heap.FunFrames X.base X.outer
 frf:∀b∈X.fs,X.H₀ b=none
structure Inv (X:Cx) (pins:List (Addr×Obj)) (σ:List (Option V)) (H:Hp) (s:Shared):Prop where
 ok:X.Ok
 os:s.os=X.s₀.os
 bare:AllBare s.gens
 base:Un X.fs X.ex X.H₀ H X.s₀.heap s.heap
 loc:∃m,s.heap.Ns X.env.locals m∧∀(i:Nat) (x:Str) (v:V),X.N[i]? = some x→σ[i]? = some (some v)→Vis X.env.scope x→∃u,RelV v u∧Look X.env s.heap m x u
 cell:∀x c,X.env.cells.lookup x=some c→∃v,s.heap.IsCell c v
 free:H X.env.locals=none
 freeC:∀x c,X.env.cells.lookup x=some c→H c=none
 pin:∀p∈X.pn++pins,s.heap.get? p.1=some p.2∧H p.1=none∧p.1≠X.env.locals∧p.1∉X.fs∧∀v,p.2.data≠.cell v
 hok:HOk X.prog X.w H s.heap
 len:σ.length=X.N.length
section
variable {X:Cx}{pins:List (Addr×Obj)}{σ:List (Option V)}{H H':Hp}{s:Shared}{h':Heap}
theorem Cx.Ok.nofr (ok:X.Ok) {b:Addr}{o:Obj} (e:X.base.get? b=some o):b∉X.fs:=fun hb=>by
 have:=(ok.funs.mem hb).1
 rw [e] at this; cases this
theorem Inv.bs (I:Inv X pins σ H s):∀b o,X.base.get? b=some o→s.heap.get? b=some o∧H b=none:=fun b o e =>
 ⟨I.base.keep b o (I.ok.bs b o e).1 (I.ok.bs b o e).2 (I.ok.nofr e) (I.ok.noex b o e),I.base.free b o (I.ok.bs b o e).1 (I.ok.bs b o e).2 (I.ok.noex b o e)⟩
theorem Inv.bk (I:Inv X pins σ H s):∀b o,X.base.get? b=some o→s.heap.get? b=some o:=fun b o e=>(I.bs b o e).1
theorem Inv.mod (I:Inv X pins σ H s):Mod X.K X.mg X.base:=I.ok.mod
theorem Inv.kIn (I:Inv X pins σ H s):X.K.In s.heap:=I.ok.mod.kin.keeps I.bk
theorem Inv.nolimit (I:Inv X pins σ H s):s.heap.NoLimit:=I.ok.mod.nolimit.keeps I.bk
theorem Inv.fr (I:Inv X pins σ H s):∃m,Fr X.base X.env.locals s.heap m :=
 let ⟨m,hn,_⟩:=I.loc
 ⟨m,hn,I.bk,zt I.ok.bsz I.ok.above⟩
theorem Inv.lt (I:Inv X pins σ H s):X.env.locals < s.heap.objs.size:=let ⟨_,hn,_⟩:=I.loc; hn.lt
theorem Inv.sz (I:Inv X pins σ H s):X.s₀.heap.objs.size≤s.heap.objs.size:=zt I.ok.above (Nat.le_of_lt I.lt)
theorem Inv.nofs (I:Inv X pins σ H s) {a:Addr} (h:s.heap.objs.size≤a):a∉X.fs:=fun hb=>by
 obtain ⟨_,o,ho,_⟩:=I.ok.funs.mem hb;exact absurd (zv (zd ho) (zt I.sz h)) (zH _)
theorem Inv.cne (I:Inv X pins σ H s):∀x c,X.env.cells.lookup x=some c→c≠X.env.locals:=fun x c e z=>by
 obtain ⟨v,o,ho,hd⟩:=I.cell x c e;obtain ⟨m,⟨o',es,ep,ho',hd',_⟩,_⟩:=I.loc;rw [z,ho'] at ho; cases ho; rw [hd'] at hd; cases hd
theorem Inv.funs (I:Inv X pins σ H s):s.heap.FunFrames X.base X.outer:=by
 have all:∀(l:List Env),(∀b∈frs l,b∈X.fs)→X.s₀.heap.FunFrames X.base l→s.heap.FunFrames X.base l:=by
  intro l
  induction l with
  | nil=>intro _ _; trivial
  | cons env r ih =>
   intro hs hl;obtain ⟨hk,⟨L,o,hf,hn,ho,hd⟩,hr⟩:=hl;have hL:L∈X.fs:=hs L (by unfold frs; rw [List.filterMap_cons,hf]; exact zw)
   obtain ⟨sl,e⟩:=I.base.slot L o ho (I.ok.frf L hL) hL fun z=>I.ok.exfs L z hL
   exact ⟨hk,⟨L,_,hf,hn,e,hd⟩,ih (fun b hb=>hs b (by unfold frs; rw [List.filterMap_cons,hf]; exact zu _ hb)) hr⟩
 exact all X.outer (fun _ hb=>hb) I.ok.funs
theorem Inv.stack (I:Inv X pins σ H s):s.heap.FunFrames X.base X.stack:=by
 rcases I.ok.stk with e | ⟨e,hf⟩
 ·rw [e]; exact I.funs
 ·rw [e];obtain ⟨m,hn,_⟩:=I.loc;refine .cons (by rw [I.ok.kind]; decide) hf hn ?_ I.funs;exact Heap.get?_none_of_le (zt I.ok.bsz I.ok.above)
theorem Inv.stkSub (I:Inv X pins σ H s):∀b∈frs X.stack,b∈X.env.locals::X.fs:=fun b hb=>by
 rcases I.ok.stk with e | ⟨e,hf⟩
 ·rw [e] at hb; exact zu _ hb
 ·rw [e] at hb;unfold frs at hb;rw [List.filterMap_cons,hf] at hb;exact hb
theorem Inv.stkFree (I:Inv X pins σ H s):∀b∈frs X.stack,H b=none:=fun b hb=>by
 rcases zj.mp (I.stkSub b hb) with e | hb
 ·rw [e]; exact I.free
 ·obtain ⟨_,o,ho,_⟩:=I.ok.funs.mem hb
  exact I.base.free b o ho (I.ok.frf b hb) fun z=>I.ok.exfs b z hb
theorem Inv.step {g':Array GenState}{t':Nat}{d':Drawn}{ch:List Addr} (I:Inv X pins σ H s)
  (hch:∀b∈ch,(b∈X.ex∨X.s₀.heap.objs.size≤b)∧b≠X.env.locals∧(∀x c,X.env.cells.lookup x=some c→c≠b)∧∀p∈X.pn++pins,p.1≠b)
  (keep:∀b o,b≠X.env.locals→b∉X.fs→b∉ch→s.heap.get? b=some o→H b=none→h'.get? b=some o)
  (slot:∀b o,b≠X.env.locals→b∈X.fs→b∉ch→s.heap.get? b=some o→H b=none→∃sl,h'.get? b=some { o with slots:=sl }) (free:∀b o,b∉ch→s.heap.get? b=some o→H b=none→H' b=none)
  (there:∀b o,b∉ch→s.heap.get? b=some o→∃o',h'.get? b=some o')
  (tups:∀b xs,H b=some (.tup xs)→H' b=some (.tup xs)) (frzs:∀b o u,H b=some (.frz o u)→H' b=some (.frz o u)) (tbls:∀b ps,H b=some (.tbl ps)→∃more,H' b=some (.tbl (ps++more)))
  (ns:∀m,s.heap.Ns X.env.locals m→h'.Ns X.env.locals m) (hok:HOk X.prog X.w H' h') (hg:AllBare g') :
  Inv X pins σ H' { s with heap:=h',gens:=g',drawn:=d',toks:=t' }:=by
 have neL:∀b o,X.s₀.heap.get? b=some o→b≠X.env.locals:=fun b o e=>zk (zv (zd e) I.ok.above)
 have neC:∀b o,X.s₀.heap.get? b=some o→b∉X.ex→b∉ch:=fun b o e hx hb=>by
  rcases (hch b hb).1 with z | z
  ·exact hx z
  ·exact absurd (zv (zd e) z) (zH _)
 have cellK:∀x c,X.env.cells.lookup x=some c→∀v,s.heap.IsCell c v→h'.IsCell c v:=fun x c e v ⟨o,ho,hd⟩=>by
  have nch:c∉ch:=fun z=>(hch c z).2.2.1 x c e rfl
  by_cases hc:c∈X.fs
  ·obtain ⟨sl,q⟩:=slot c o (I.cne x c e) hc nch ho (I.freeC x c e);exact ⟨_,q,hd⟩
  ·exact ⟨o,keep c o (I.cne x c e) hc nch ho (I.freeC x c e),hd⟩
 refine ⟨I.ok,I.os,hg,⟨fun b o e n hb hx=>?_,fun b o e n hb hx=>?_,fun b o e n hx=>?_,fun b o e hx=>?_,fun b xs e=>tups b xs (I.base.tups b xs e),fun b o xs e=>frzs b o xs (I.base.frzs b o xs e),fun b ps e=>?_⟩,?_,fun x c e=>?_,?_,fun x c e=>?_,fun p hp=>?_,hok,I.len⟩
 ·exact keep b o (neL b o e) hb (neC b o e hx) (I.base.keep b o e n hb hx) (I.base.free b o e n hx)
 ·obtain ⟨sl,e1⟩:=I.base.slot b o e n hb hx;obtain ⟨sl',e2⟩:=slot b _ (neL b o e) hb (neC b o e hx) e1 (I.base.free b o e n hx);exact ⟨sl',e2⟩
 ·obtain ⟨o',e1⟩:=I.base.there b o e hx;exact free b o' (neC b o e hx) e1 (I.base.free b o e n hx)
 ·obtain ⟨o',e1⟩:=I.base.there b o e hx;exact there b o' (neC b o e hx) e1
 ·obtain ⟨m1,e1⟩:=I.base.tbls b ps e;obtain ⟨m2,e2⟩:=tbls b _ e1;exact ⟨m1++m2,by rw [e2,Array.append_assoc]⟩
 ·obtain ⟨m,hn,hl⟩:=I.loc;refine ⟨m,ns m hn,fun i x v e1 e2 e3=>?_⟩;obtain ⟨u,r,l⟩:=hl i x v e1 e2 e3;refine ⟨u,r,?_⟩
  rcases l with l | ⟨k,c,e,z⟩
  ·exact .inl l
  ·exact .inr ⟨k,c,e,cellK x c e _ z⟩
 ·obtain ⟨v,z⟩:=I.cell x c e;exact ⟨v,cellK x c e v z⟩
 ·obtain ⟨m,⟨o,_,_,ho,_⟩,_⟩:=I.loc;exact free _ o (fun z=>(hch _ z).2.1 rfl) ho I.free
 ·obtain ⟨v,o,ho,hd⟩:=I.cell x c e;exact free c o (fun z=>(hch c z).2.2.1 x c e rfl) ho (I.freeC x c e)
 ·obtain ⟨e,n,ne,nf,d⟩:=I.pin p hp
  have nch:p.1∉ch:=fun z=>(hch p.1 z).2.2.2 p hp rfl
  exact ⟨keep p.1 p.2 ne nf nch e n,free p.1 p.2 nch e n,ne,nf,d⟩
theorem Inv.un {t':Nat} (I:Inv X pins σ H s) (u:Un X.fs [] H H' s.heap h') (hok:HOk X.prog X.w H' h'):Inv X pins σ H' { s with heap:=h',toks:=t' }:=by
 obtain ⟨m,⟨o,es,ep,ho,r⟩,_⟩:=id I.loc;obtain ⟨sl,hL⟩:=u.any ho I.free (by simp)
 exact I.step (g':=s.gens) (d':=s.drawn) (ch:=[]) (fun _ z=>nomatch z) (fun b o _ hb _ e n=>u.keep b o e n hb (by simp)) (fun b o _ hb _ e n=>u.slot b o e n hb (by simp)) (fun b o _ e n=>u.free b o e n (by simp)) (fun b o _ e=>u.there b o e (by simp)) u.tups u.frzs u.tbls (fun m' hm=>by
  obtain ⟨o',es',ep',ho',r'⟩:=hm;rw [ho] at ho'; cases ho'
  exact ⟨_,es',ep',hL,r'⟩) hok I.bare
theorem Inv.call {g':Array GenState}{t':Nat}{d':Drawn}{ch:List Addr} (I:Inv X pins σ H s) (u:Un (frs X.stack) ch H H' s.heap h') (hok:HOk X.prog X.w H' h') (hg:AllBare g')
  (hch:∀b∈ch,(b∈X.ex∨X.s₀.heap.objs.size≤b)∧b≠X.env.locals∧(∀x c,X.env.cells.lookup x=some c→c≠b)∧∀p∈X.pn++pins,p.1≠b) :
  Inv X pins σ H' { s with heap:=h',gens:=g',drawn:=d',toks:=t' }:=by
 obtain ⟨m,⟨o,es,ep,ho,r⟩,_⟩:=id I.loc
 obtain ⟨sl,hL⟩:=u.any ho I.free fun z=>(hch _ z).2.1 rfl
 exact I.step (ch:=ch) hch (fun b o hL hb hc e n=>u.keep b o e n (fun z=>(zj.mp (I.stkSub b z)).elim hL hb) hc) (fun b o _ _ hc e n=>u.any e n hc) (fun b o hc e n=>u.free b o e n hc) (fun b o hc e=>u.there b o e hc) u.tups u.frzs u.tbls (fun m' hm=>by
  obtain ⟨o',es',ep',ho',r'⟩:=hm;rw [ho] at ho'; cases ho'
  exact ⟨_,es',ep',hL,r'⟩) hok hg
theorem Inv.turned {t':Nat}{it:Addr} (I:Inv X pins σ H s) (k:∀b o,b≠it→s.heap.get? b=some o→h'.get? b=some o) (hn:H it=none) (hL:it≠X.env.locals)
  (h1:it∈X.ex∨X.s₀.heap.objs.size≤it) (h2:∀x c,X.env.cells.lookup x=some c→c≠it) (h3:∀p∈X.pn++pins,p.1≠it):Inv X pins σ H { s with heap:=h',toks:=t' }:=by
 have nit:∀b u,H b=some u→b≠it:=fun b u e z=>by rw [z,hn] at e; cases e
 refine I.step (g':=s.gens) (d':=s.drawn) (ch:=[it]) (fun b hb=>?_) (fun b o _ _ hc e _=>k b o (fun z=>hc (by simp [z])) e) (fun b o _ _ hc e _=>⟨o.slots,k b o (fun z=>hc (by simp [z])) e⟩) (fun _ _ _ _ n=>n)
  (fun b o hc e=>⟨o,k b o (fun z=>hc (by simp [z])) e⟩) (fun _ _ e=>e) (fun _ _ _ e=>e) (fun b ps e=>⟨#[],by rw [e]; simp⟩) (fun m hm=>?_) (fun b u e=>?_) I.bare
 ·have e:b=it:=by simpa using hb
  subst e;exact ⟨h1,hL,h2,h3⟩
 ·obtain ⟨o,es,ep,ho,r⟩:=hm;exact ⟨o,es,ep,k _ o (Ne.symm hL) ho,r⟩
 ·refine (I.hok b u e).stay (fun c v hc q=>k c v ?_ q) (fun _ q=>q) fun _ _ q=>q
  rcases hc with z | z
  ·rw [z]; exact nit b u e
  ·exact nit c _ z
theorem Inv.tok (I:Inv X pins σ H s) (t:Nat):Inv X pins σ H { s with toks:=t }:=I.un (h':=s.heap) (t':=t) Un.refl I.hok
theorem Inv.kept {t':Nat} (I:Inv X pins σ H s) (k:∀b u,s.heap.get? b=some u→h'.get? b=some u):Inv X pins σ H { s with heap:=h',toks:=t' }:=I.un (Un.kept k) (I.hok.kept k)
theorem Inv.laid {a:Addr}{o:HO}{t':Nat} (I:Inv X pins σ H s) (k:∀b u,s.heap.get? b=some u→h'.get? b=some u) (hp:s.heap.objs.size≤a) (new:QbL X.prog X.w (upd H a o) h' a o) :
  Inv X pins σ (upd H a o) { s with heap:=h',toks:=t' }:=I.un (Un.laid k hp (I.hok.fresh hp)) (I.hok.laid k hp new)
theorem Inv.write {x e:Addr}{o:HO}{t':Nat} (I:Inv X pins σ H s) (mu:Mut (H x)) (he:e=x∨H e=some (.own x)) (k:∀b u,b≠e→s.heap.get? b=some u→h'.get? b=some u) (heo:∃u,h'.get? e=some u)
  (new:QbL X.prog X.w (upd H x o) h' x o):Inv X pins σ (upd H x o) { s with heap:=h',toks:=t' }:=I.un (Un.write mu he k heo) (I.hok.write mu he k heo new)
theorem Inv.pins_of {pins':List (Addr×Obj)} (I:Inv X pins σ H s) (h:∀p∈pins',s.heap.get? p.1=some p.2∧H p.1=none∧p.1≠X.env.locals∧p.1∉X.fs∧∀v,p.2.data≠.cell v):Inv X pins' σ H s :=
 ⟨I.ok,I.os,I.bare,I.base,I.loc,I.cell,I.free,I.freeC,fun p hp=>(zA.mp hp).elim (fun z=>I.pin p (List.mem_append_left _ z)) (h p),I.hok,I.len⟩
theorem Qla {N:List Str} (hN:N.Nodup) {i j:Nat}{x:Str} (a:N[i]? = some x) (b:N[j]? = some x):i=j:=by
 obtain ⟨h1,e1⟩:=zl.mp a;obtain ⟨h2,e2⟩:=zl.mp b;exact (List.getElem_inj hN).mp (e1.trans e2.symm)
theorem Qn2 {M:Model}{A:Around}{E:Value→Shared→Prop}{i:Nat}{x:Str}{v:V}{u:Value}{Q:Unit→Shared→Prop} (I:Inv X pins σ H s) (hN:X.N.Nodup) (hi:X.N[i]? = some x) (hx:Loc X.env.scope x) (r:RelV v u)
  (h:∀s',Inv X pins (σ.set i (some v)) H s'→(∃a,Heap.SameBut a s.heap s'.heap∧(a=X.env.locals∨X.env.cells.lookup x=some a))→Q () s') (hf:X.fn x=true∨X.env.scope.names.lookup x=some .local:=by first | exact .inl rfl | exact .inr rfl | assumption):wpAny M A (storeName X.env x u) Q E s:=by
 obtain ⟨m,hn,hl⟩:=id I.loc
 have hcls:(X.env.scope.kind == .class || (X.env.scope.kind == .module&&X.env.locals != X.env.globals))=false:=by rw [I.ok.kind]; rfl
 have hiσ:i < σ.length:=by rw [I.len]; exact (zl.mp hi).1
 have cne:=I.cne
 have tracked:∀{a:Addr}{h':Heap},(∃o,s.heap.get? a=some o∧H a=none)→Heap.SameBut a s.heap h'→HOk X.prog X.w H h':=fun {a h'} ha hs b ob e=>by
  obtain ⟨_,_,hfree⟩:=ha
  refine (I.hok b ob e).stay (fun c w' hc q=>(hs.2 c ?_).trans q) (fun _ q=>q) fun _ _ q=>q
  rintro rfl
  rcases hc with rfl | hc
  ·rw [hfree] at e; cases e
  ·rw [hfree] at hc; cases hc
 rcases hx with hk | hk
 ·refine wpAny_storeName_local hk hn (fun h' hn' hs=>?_) hcls;obtain ⟨oL,_,_,hoL,_⟩:=id hn;refine h _ ⟨I.ok,I.os,I.bare,⟨fun b o e n hb hx=>?_,fun b o e n hb hx=>?_,I.base.free,fun b o e hx=>?_,I.base.tups,I.base.frzs,I.base.tbls⟩,⟨_,hn',fun j y v' e1 e2 e3=>?_⟩,fun y c e=>?_,I.free,I.freeC,fun p hp=>?_,tracked ⟨oL,hoL,I.free⟩ hs,by simpa using I.len⟩ ⟨_,hs,.inl rfl⟩
  ·exact (hs.2 b (zk (zv (zd e) I.ok.above))).trans (I.base.keep b o e n hb hx)
  ·obtain ⟨sl,e1⟩:=I.base.slot b o e n hb hx;exact ⟨sl,(hs.2 b (zk (zv (zd e) I.ok.above))).trans e1⟩
  ·obtain ⟨o',e1⟩:=I.base.there b o e hx;exact ⟨o',(hs.2 b (zk (zv (zd e) I.ok.above))).trans e1⟩
  ·by_cases hj:j=i
   ·subst hj;rw [hi] at e1; cases e1;rw [zC hiσ] at e2;cases e2;exact ⟨u,r,.inl ⟨hk,by simp⟩⟩
   ·rw [zo (Ne.symm hj)] at e2;obtain ⟨u',r',q⟩:=hl j y v' e1 e2 e3;refine ⟨u',r',?_⟩
    rcases q with ⟨k,e⟩ | ⟨k,c,e,z⟩
    ·refine .inl ⟨k,?_⟩
     have:y≠x:=fun e=>hj (Qla hN e1 (e ▸ hi))
     simp [this,e]
    ·exact .inr ⟨k,c,e,z.sameBut hs (cne y c e)⟩
  ·obtain ⟨w',z⟩:=I.cell y c e;exact ⟨w',z.sameBut hs (cne y c e)⟩
  ·obtain ⟨e,n,ne,nf,d⟩:=I.pin p hp;exact ⟨(hs.2 p.1 ne).trans e,n,ne,nf,d⟩
 ·have hfn:X.fn x=true:=by
   rcases hf with z | z
   ·exact z
   ·rw [z] at hk; cases hk
  obtain ⟨c,hc⟩:=I.ok.has x (.inl hk);obtain ⟨w',z⟩:=I.cell x c hc;refine wpAny_storeName_cell I.ok.kind hk hc z (fun h' hc' hs=>?_);obtain ⟨oc,hoc,hocd⟩:=id z;refine h { s with heap:=h' } ⟨I.ok,I.os,I.bare,⟨fun b o e n hb hx=>?_,fun b o e n hb hx=>?_,I.base.free,fun b o e hx=>?_,I.base.tups,I.base.frzs,I.base.tbls⟩,⟨m,hn.sameBut hs (Ne.symm (cne x c hc)),fun j y v' e1 e2 e3=>?_⟩,fun y c' e=>?_,I.free,I.freeC,fun p hp=>?_,tracked ⟨oc,hoc,I.freeC x c hc⟩ hs,by simpa using I.len⟩ ⟨c,hs,.inr hc⟩
  ·exact (hs.2 b (zk (zv (zd e) (I.ok.cab x c hfn hc)))).trans (I.base.keep b o e n hb hx)
  ·obtain ⟨sl,e1⟩:=I.base.slot b o e n hb hx;exact ⟨sl,(hs.2 b (zk (zv (zd e) (I.ok.cab x c hfn hc)))).trans e1⟩
  ·obtain ⟨o',e1⟩:=I.base.there b o e hx;exact ⟨o',(hs.2 b (zk (zv (zd e) (I.ok.cab x c hfn hc)))).trans e1⟩
  ·by_cases hj:j=i
   ·subst hj;rw [hi] at e1; cases e1;rw [zC hiσ] at e2;cases e2;exact ⟨u,r,.inr ⟨.inl hk,c,hc,hc'⟩⟩
   ·rw [zo (Ne.symm hj)] at e2;obtain ⟨u',r',q⟩:=hl j y v' e1 e2 e3;refine ⟨u',r',?_⟩
    rcases q with q | ⟨k,c',e,z'⟩
    ·exact .inl q
    ·refine .inr ⟨k,c',e,z'.sameBut hs ?_⟩;rintro rfl;exact hj (Qla hN e1 (I.ok.inj _ _ _ e hc ▸ hi))
  ·by_cases hcc:c'=c
   ·subst hcc; exact ⟨_,hc'⟩
   ·obtain ⟨w2,z2⟩:=I.cell y c' e;exact ⟨w2,z2.sameBut hs hcc⟩
  ·obtain ⟨e,n,ne,nf,d⟩:=I.pin p hp;refine ⟨(hs.2 p.1 ?_).trans e,n,ne,nf,d⟩;intro q;rw [q,hoc] at e;have q':oc=p.2:=zL e;exact d w' (by rw [←q']; exact hocd)
theorem Qiw {M:Model}{A:Around}{E:Value→Shared→Prop}{i:Nat}{x:Str}{v:V}{u:Value}{Q:Unit→Shared→Prop} (I:Inv X pins σ H s) (hN:X.N.Nodup) (hi:X.N[i]? = some x) (hx:Loc X.env.scope x) (r:RelV v u)
  (h:∀s',Inv X pins (σ.set i (some v)) H s'→Q () s') (hf:X.fn x=true∨X.env.scope.names.lookup x=some .local:=by first | exact .inl rfl | exact .inr rfl | assumption):wpAny M A (storeName X.env x u) Q E s :=
 Qn2 I hN hi hx r (fun s' I' _=>h s' I') hf
theorem Inv.call' {s':Shared}{ch:List Addr} (I:Inv X pins σ H s) (ho:s'.os=s.os) (u:Un (frs X.stack) ch H H' s.heap s'.heap) (hok:HOk X.prog X.w H' s'.heap) (hg:AllBare s'.gens)
  (hch:∀b∈ch,(b∈X.ex∨X.s₀.heap.objs.size≤b)∧b≠X.env.locals∧(∀x c,X.env.cells.lookup x=some c→c≠b)∧∀p∈X.pn++pins,p.1≠b):Inv X pins σ H' s':=by
 obtain ⟨h',g',d',t',o'⟩:=s';have e:o'=s.os:=ho;subst e;exact I.call (g':=g') (t':=t') (d':=d') u hok hg hch
end
abbrev XK:=Value→Option Addr→Hp→Prop
abbrev St:=List (Option V)
abbrev VK:=V→Hp→Prop
abbrev TE:=St→Hp→VK→Prop
abbrev TT:=St→Hp→(Bool→Hp→Prop)→Prop
abbrev TA:=St→Hp→(List V→Hp→Prop)→Prop
structure Ends where
 nx:St→Hp→Prop
 rt:VK
 bk:St→Hp→Prop:=fun _ _=>False
 ct:St→Hp→Prop:=fun _ _=>False
abbrev TS:=Ends→St→Hp→Prop
def EP (X:Cx) (pins:List (Addr×Obj)) (σ:St) (Q:VK) (u:Value) (s':Shared):Prop:=∃v H',Inv X pins σ H' s'∧RelV v u∧Q v H'
def TP (X:Cx) (pins:List (Addr×Obj)) (σ:St) (Q:Bool→Hp→Prop) (b:Bool) (s':Shared):Prop:=∃H',Inv X pins σ H' s'∧Q b H'
def AP (X:Cx) (pins:List (Addr×Obj)) (σ:St) (Q:List V→Hp→Prop) (us:List Value) (s':Shared):Prop:=∃vs H',Inv X pins σ H' s'∧QaC vs us∧Q vs H'
def SP (X:Cx) (pins:List (Addr×Obj)) (D:Ends) (f:Flow) (s':Shared):Prop :=
 match f with
 | .next=>∃σ' H',Inv X pins σ' H' s'∧D.nx σ' H'
 | .brk=>∃σ' H',Inv X pins σ' H' s'∧D.bk σ' H'
 | .cont=>∃σ' H',Inv X pins σ' H' s'∧D.ct σ' H'
 | .ret u=>∃v σ' H',Inv X pins σ' H' s'∧RelV v u∧D.rt v H'
def PE (X:Cx) (e:Expr) (t:TE):Prop :=
 ∀(pins:List (Addr×Obj)) (s:Shared) (σ:St) (H:Hp) (Q:VK),Inv X pins σ H s→t σ H Q→wpAny (model X.prog X.w) X.A (eval e X.env) (EP X pins σ Q) X.xe s
def PT (X:Cx) (e:Expr) (t:TT):Prop :=
 ∀(pins:List (Addr×Obj)) (s:Shared) (σ:St) (H:Hp) (Q:Bool→Hp→Prop),Inv X pins σ H s→t σ H Q→wpAny (model X.prog X.w) X.A (isTrue e X.env (eval e X.env)) (TP X pins σ Q) X.xe s
def PW (X:Cx) (e:Expr) (t:TT):Prop :=
 ∀(whole:Sem Value) (pins:List (Addr×Obj)) (s:Shared) (σ:St) (H:Hp) (Q:Bool→Hp→Prop),Inv X pins σ H s→t σ H Q→wpAny (model X.prog X.w) X.A (isTrue e X.env whole) (TP X pins σ Q) X.xe s
theorem PW.pt {X:Cx}{e:Expr}{t:TT} (h:PW X e t):PT X e t:=h _
def PA (X:Cx) (es:List Expr) (t:TA):Prop :=
 ∀(pos:Pos) (pins:List (Addr×Obj)) (s:Shared) (σ:St) (H:Hp) (Q:List V→Hp→Prop),Inv X pins σ H s→t σ H Q→wpAny (model X.prog X.w) X.A (spliced (backTo pos (starEach es X.env))) (AP X pins σ Q) X.xe s
def PS (X:Cx) (st:Stmt) (t:TS):Prop :=
 ∀(pins:List (Addr×Obj)) (s:Shared) (σ:St) (H:Hp) (D:Ends),Inv X pins σ H s→t D σ H→wpAny (model X.prog X.w) X.A (exec st X.env) (SP X pins D) X.xe s
def PSs (X:Cx) (st:List Stmt) (t:TS):Prop :=
 ∀(pins:List (Addr×Obj)) (s:Shared) (σ:St) (H:Hp) (D:Ends),Inv X pins σ H s→t D σ H→wpAny (model X.prog X.w) X.A (execs st X.env) (SP X pins D) X.xe s
theorem thn {α:Type}{t:Sem α}{Q Q':α→Shared→Prop}{M:Model}{A:Around}{E:Value→Shared→Prop}{s:Shared} (h:wpAny M A t Q E s) (hQ:∀a s,Q a s→Q' a s):wpAny M A t Q' E s:=zm h hQ fun _ _ x=>x
section
variable {X:Cx}
def Qu9 (i:Nat):TE:=fun σ H Q=>∃v,σ[i]? = some (some v)∧Q v H
def tC (v:V):TE:=fun _ H Q=>Q v H
theorem QeO {i:Nat}{x:Str}{pos:Pos} (hN:X.N[i]? = some x) (hv:Vis X.env.scope x) (hd:(x == ("__debug__":Str))=false:=by decide) (hcd:(x == ("__classdict__":Str))=false:=by decide):PE X (.Name x pos) (Qu9 i):=by
 intro pins s σ H Q I h;obtain ⟨v,e,h⟩:=h;obtain ⟨m,hn,hl⟩:=I.loc;obtain ⟨u,r,l⟩:=hl i x v hN e hv;have fin:EP X pins σ Q u s:=⟨v,H,I,r,h⟩
 rcases l with ⟨hk,hm⟩ | ⟨hk,c,hc,hcell⟩
 ·exact wpAny_Name (wpAny_loadName_local I.ok.kind hk hn hm fin) hd
 ·rcases hk with hk | hk
  ·exact wpAny_Name (wpAny_loadName_cell I.ok.kind hk hc hcell fin) hd
  ·exact wpAny_Name (wpAny_loadName_free I.ok.kind hk hc hcell fin hcd) hd
theorem Qtr {i j pos}:PE X (.Constant (.int i) j pos) (tC (.int i)):=fun _ _ _ H _ I h=>wpAny_Constant_int ⟨.int i,H,I.tok _,⟨_,rfl⟩,h⟩
theorem QtZ {b j pos}:PE X (.Constant (.bool b) j pos) (tC (.bl b)):=fun _ _ _ H _ I h=>Constant_bool ⟨.bl b,H,I,rfl,h⟩
theorem Qtx {j pos}:PE X (.Constant .none j pos) (tC .non):=fun _ _ _ H _ I h=>Constant_none ⟨.non,H,I,rfl,h⟩
theorem Qgo {x j pos}:PE X (.Constant (.str x) j pos) (tC (.str x)):=fun _ _ _ H _ I h=>Calls.Constant_str ⟨.str x,H,I.tok _,⟨_,rfl⟩,h⟩
def Gl (X:Cx) (x:Str):Prop:=X.env.kindOf x=some .globalImplicit
theorem Qc3 {E:Value→Shared→Prop}{pins:List (Addr×Obj)}{s:Shared}{σ:St}{H:Hp}{x:Str}{u:Value}{pos:Pos}{Q:Value→Shared→Prop} (I:Inv X pins σ H s) (hg:Gl X x) (hm:X.mg x=some u) (h:Q u s)
  (hd:(x == ("__debug__":Str))=false:=by decide):wpAny (model X.prog X.w) X.A (eval (.Name x pos) X.env) Q E s :=
 Calls.Name_function_global I.ok.kind hg (Calls.loadGlobal_global (by rw [I.ok.glob]; exact I.mod.glob.keeps I.bk) hm h) hd
theorem Qhw {E:Value→Shared→Prop}{pins:List (Addr×Obj)}{s:Shared}{σ:St}{H:Hp}{x:Str}{u:Value}{pos:Pos}{Q:Value→Shared→Prop} (I:Inv X pins σ H s) (hg:Gl X x) (hm:X.mg x=none) (hv:bootBuiltins x=some u) (h:Q u s)
  (hn:x≠"__name__":=by decide) (hd:(x == ("__debug__":Str))=false:=by decide):wpAny (model X.prog X.w) X.A (eval (.Name x pos) X.env) Q E s:=by
 obtain ⟨mb,h1,h2⟩:=I.mod.blt;exact Calls.Name_function_global I.ok.kind hg (Calls.loadGlobal_builtin (by rw [I.ok.glob]; exact I.mod.glob.keeps I.bk) hm (by rw [I.ok.blt]; exact h1.keeps I.bk) ((h2 x hn).trans hv) h) hd
theorem QjE {x:Str}{v:V}{u:Value}{pos:Pos} (hg:Gl X x) (hm:X.mg x=some u) (r:RelV v u) (hd:(x == ("__debug__":Str))=false:=by decide):PE X (.Name x pos) (tC v) :=
 fun _ _ _ H _ I h=>Qc3 I hg hm ⟨v,H,I,r,h⟩ hd
theorem QlZ {x:Str}{v:V}{u:Value}{pos:Pos} (hg:Gl X x) (hm:X.mg x=none) (hv:bootBuiltins x=some u) (r:RelV v u) (hn:x≠"__name__":=by decide) (hd:(x == ("__debug__":Str))=false:=by decide):PE X (.Name x pos) (tC v) :=
 fun _ _ _ H _ I h=>Qhw I hg hm hv ⟨v,H,I,r,h⟩ hn hd
variable {a b:Expr}{ta tb:TE}{pos:Pos}
def PC (X:Cx) (op:CmpOp) (a b:Expr) (t:TE):Prop :=
 ∀(pins:List (Addr×Obj)) (s:Shared) (σ:St) (H:Hp) (Q:VK),Inv X pins σ H s→t σ H Q →
  wpAny (model X.prog X.w) X.A (eval a X.env) (fun v s₁=>wpAny (model X.prog X.w) X.A (eval b X.env) (fun u s₂=>wpAny (model X.prog X.w) X.A (compareOp op v u) (EP X pins σ Q) X.xe s₂) X.xe s₁) X.xe s
theorem QoW (b:Expr) {op:CmpOp} (h:op≠.In) (h2:op≠.NotIn):behindInMarks op b=false:=by
 have e1:(op == CmpOp.In)=false:=by cases op <;> first | rfl | exact absurd rfl h
 have e2:(op == CmpOp.NotIn)=false:=by cases op <;> first | rfl | exact absurd rfl h2
 cases b <;> simp [behindInMarks,e1,e2]
def Qqn (ta:TE):TE:=fun σ H Q=>ta σ H fun x H1=>Q (.bl (!decide (x = .non))) H1
theorem RelV.none_iff {x:V}{v:Value} (r:RelV x v):(v == Value.none)=decide (x = .non):=by
 cases x with
 | non=>cases r; rfl
 | bl _=>cases r; rfl
 | int _=>obtain ⟨t,rfl⟩:=r; rfl
 | str _=>obtain ⟨t,rfl⟩:=r; rfl
 | byt _=>obtain ⟨t,rfl⟩:=r; rfl
 | flt _=>obtain ⟨t,rfl⟩:=r; rfl
 | ref _=>cases r; rfl
 | ty _=>cases r; rfl
theorem Qrk {j pos'} (ha:PE X a ta):PC X .IsNot a (.Constant .none j pos') (Qqn ta):=by
 intro pins s σ H Q I h
 refine thn (ha pins s σ H _ I h) fun v s1 ⟨x,H1,I1,r1,q1⟩=>?_
 exact Constant_none (isnot_none_gen ⟨.bl _,H1,I1,by rw [r1.none_iff]; rfl,q1⟩)
def tB (t:TE):TT:=fun σ H Q=>t σ H fun x H1=>∃c,x = .bl c∧Q c H1
theorem Qsf {op:CmpOp}{t:TE} (h:PC X op a b t) (h1:behindInMarks op b=false:=by first | exact QoW _ (by decide) (by decide) | rfl):PT X (.Compare a [op] [b] pos) (tB t):=by
 intro pins s σ H Q I hw;refine wpAny_isTrue_Compare1 (thn (h pins s σ H _ I hw) fun v s1 h1=>thn h1 fun u s2 h2=>thn h2 fun c s3 ⟨x,H1,I1,r1,q1⟩=>?_) h1;obtain ⟨d,rfl,q⟩:=q1;cases r1;exact wpAny_truthy_bool ⟨H1,I1,q⟩
variable {tA tB':TT}{rest:List Expr}
def Qtc (t u:TT):TT:=fun σ H Q=>t σ H fun c H1=>if c=true then u σ H1 Q else Q false H1
def tOr (t u:TT):TT:=fun σ H Q=>t σ H fun c H1=>if c=true then Q true H1 else u σ H1 Q
def Qu2 (t:TT):TT:=fun σ H Q=>t σ H fun c H1=>Q (!c) H1
theorem QrT (ha:PT X a tA):PW X (.BoolOp .And [a] pos) tA:=by
 intro wh pins s σ H Q I h;refine isTrue_and (thn (ha pins s σ H Q I h) fun c s1 e=>?_)
 cases c with
 | true=>exact isTrue_and_nil e
 | false=>exact e
theorem Qr7 (ha:PT X a tA):PW X (.BoolOp .Or [a] pos) tA:=by
 intro wh pins s σ H Q I h;refine isTrue_or (thn (ha pins s σ H Q I h) fun c s1 e=>?_)
 cases c with
 | false=>exact isTrue_or_nil e
 | true=>exact e
theorem Qtg (ha:PT X a tA) (hb:PW X (.BoolOp .And (b::rest) pos) tB'):PW X (.BoolOp .And (a::b::rest) pos) (Qtc tA tB'):=by
 intro wh pins s σ H Q I h;refine isTrue_and (thn (ha pins s σ H _ I h) fun c s1 ⟨H1,I1,q1⟩=>?_)
 cases c with
 | true=>exact hb wh pins s1 σ H1 Q I1 q1
 | false=>exact ⟨H1,I1,q1⟩
theorem Qt8 (ha:PT X a tA) (hb:PW X (.BoolOp .Or (b::rest) pos) tB'):PW X (.BoolOp .Or (a::b::rest) pos) (tOr tA tB'):=by
 intro wh pins s σ H Q I h;refine isTrue_or (thn (ha pins s σ H _ I h) fun c s1 ⟨H1,I1,q1⟩=>?_)
 cases c with
 | true=>exact ⟨H1,I1,q1⟩
 | false=>exact hb wh pins s1 σ H1 Q I1 q1
theorem QsT (ha:PT X a tA):PT X (.UnaryOp .Not a pos) (Qu2 tA):=by
 intro pins s σ H Q I h;exact isTrue_not (ha pins s σ H (fun c H1=>Q (!c) H1) I h)
def Qul (ta tb:TE):TE:=fun σ H Q=>ta σ H fun x H1=>∃c,x = .bl c∧if c=true then tb σ H1 Q else Q (.bl false) H1
def Quu (ta:TE):TE:=fun σ H Q=>ta σ H fun x H1=>∃c,x = .bl c∧Q (.bl (!c)) H1
theorem QsC {op}{t:TE} (h:PE X a t):PE X (.BoolOp op [a] pos) t:=fun pins s σ H Q I hw=>BoolOp_one (h pins s σ H Q I hw)
theorem QsU (ha:PE X a ta) (hb:PE X (.BoolOp .And (b::rest) pos) tb):PE X (.BoolOp .And (a::b::rest) pos) (Qul ta tb):=by
 intro pins s σ H Q I h;refine BoolOp_and (thn (ha pins s σ H _ I h) fun v s1 ⟨x,H1,I1,r1,q1⟩=>?_);obtain ⟨c,rfl,q1⟩:=q1;cases r1;refine wpAny_truthy_bool ?_
 cases c with
 | true=>exact hb pins s1 σ H1 Q I1 q1
 | false=>exact ⟨.bl false,H1,I1,rfl,q1⟩
theorem Qta (ha:PE X a ta):PE X (.UnaryOp .Not a pos) (Quu ta):=by
 intro pins s σ H Q I h;refine UnaryOp_ (thn (ha pins s σ H _ I h) fun v s1 ⟨x,H1,I1,r1,q1⟩=>?_);obtain ⟨c,rfl,q1⟩:=q1;cases r1;exact not_of (wpAny_truthy_bool ⟨.bl (!c),H1,I1,rfl,q1⟩)
end
def SqL (K:PySem.W.Frag) (H:Hp) (a:Addr) (xs:List V):Prop :=
 Rd H a (.lst xs) ∨
  ∃(o:Obj) (its:Array Value) (n:Nat),K.lookup a=some o∧o.cls = .type "list"∧o.dict=none∧o.data = .seq its n∧its.size≤sizeLine∧QaC xs its.toList
def SqT (K:PySem.W.Frag) (H:Hp) (a:Addr) (xs:List V):Prop :=
 Rd H a (.tup xs) ∨
  ∃(o:Obj) (its:Array Value) (n:Nat),K.lookup a=some o∧o.cls = .type "tuple"∧o.data = .seq its n∧its.size≤sizeLine∧QaC xs its.toList
def Qvq:Value→Option V
 | .none=>some .non
 | .bool b=>some (.bl b)
 | .int i _=>some (.int i)
 | .str x _=>some (.str x)
 | .bytes b _=>some (.byt b)
 | .float b _=>some (.flt b)
 | .ref a=>some (.ref a)
 | .type n=>some (.ty n)
 | _=>none
theorem RelV.abs {x:V}{u:Value} (r:RelV x u):Qvq u=some x:=by
 cases x with
 | non=>cases r; rfl
 | bl _=>cases r; rfl
 | int _=>obtain ⟨t,rfl⟩:=r; rfl
 | str _=>obtain ⟨t,rfl⟩:=r; rfl
 | byt _=>obtain ⟨t,rfl⟩:=r; rfl
 | flt _=>obtain ⟨t,rfl⟩:=r; rfl
 | ref _=>cases r; rfl
 | ty _=>cases r; rfl
theorem RelV.inj {x y:V}{u:Value} (r:RelV x u) (q:RelV y u):x=y:=zL (r.abs.symm.trans q.abs)
theorem QaC.inj:∀{xs ys:List V}{us:List Value},QaC xs us→QaC ys us→xs=ys
 | _,_,_,.nil,.nil=>rfl
 | _,_,_,.cons r t,.cons r' t'=>by rw [r.inj r',QaC.inj t t']
section
variable {X:Cx}{pins:List (Addr×Obj)}{σ:St}{H:Hp}{s:Shared}{a:Addr}{xs ys:List V}
theorem SqL.of {K:PySem.W.Frag} (h:H a=some (.lst xs)):SqL K H a xs:=.inl (.inl h)
theorem SqT.of {K:PySem.W.Frag} (h:H a=some (.tup xs)):SqT K H a xs:=.inl (.inl h)
theorem Inv.list (I:Inv X pins σ H s) (h:SqL X.K H a xs):∃its:List Value,QaC xs its∧PlainL s.heap a its.toArray∧xs.length≤sizeLine:=by
 rcases h with h | ⟨o,its,n,hk,hc,hd,hs,hz,r⟩
 ·obtain ⟨z,its,n,r,e⟩:=h.ok I.hok;exact ⟨its,r,⟨_,n,e,rfl,rfl,rfl⟩,z⟩
 ·refine ⟨its.toList,r,⟨o,n,I.kIn a o hk,hc,hd,by simpa using hs⟩,?_⟩;have e:=r.length;simp only [Array.length_toList] at e;omega
theorem Inv.tuple (I:Inv X pins σ H s) (h:SqT X.K H a xs):∃its:List Value,QaC xs its∧IsTup s.heap a its.toArray∧xs.length≤sizeLine:=by
 rcases h with h | ⟨o,its,n,hk,hc,hs,hz,r⟩
 ·obtain ⟨z,its,r,p⟩:=h.ok I.hok;exact ⟨its,r,p,z⟩
 ·refine ⟨its.toList,r,⟨o,I.kIn a o hk,hc,n,by simpa using hs⟩,?_⟩;have e:=r.length;simp only [Array.length_toList] at e;omega
theorem Inv.list_inj (I:Inv X pins σ H s) (h:SqL X.K H a xs) (h':SqL X.K H a ys):xs=ys:=by
 obtain ⟨its,r,⟨o,n,e,_,_,d⟩,_⟩:=I.list h;obtain ⟨its',r',⟨o',n',e',_,_,d'⟩,_⟩:=I.list h';rw [e] at e'; cases e';rw [d] at d'
 injection d' with d1 _
 have:its=its':=by simpa using congrArg Array.toList d1
 subst this;exact r.inj r'
theorem Inv.tuple_inj (I:Inv X pins σ H s) (h:SqT X.K H a xs) (h':SqT X.K H a ys):xs=ys:=by
 obtain ⟨its,r,⟨o,e,_,n,d⟩,_⟩:=I.tuple h;obtain ⟨its',r',⟨o',e',_,n',d'⟩,_⟩:=I.tuple h';rw [e] at e'; cases e';rw [d] at d'
 injection d' with d1 _
 have:its=its':=by simpa using congrArg Array.toList d1
 subst this;exact r.inj r'
end
abbrev Cx.wish (X:Cx) (E:Value→Shared→Prop):Cx:={ X with xe:=E }
abbrev Cx.nox (X:Cx):Cx:=X.wish fun _ _=>False
theorem Cx.Ok.wish {X:Cx} (ok:X.Ok) (E:Value→Shared→Prop):(X.wish E).Ok :=
 ⟨ok.mod,ok.kind,ok.glob,ok.blt,ok.above,ok.inj,ok.has,ok.cab,ok.hd,ok.frames,ok.stk,ok.exf,ok.bs,ok.bsz,ok.noex,ok.exfs,ok.funs,ok.frf⟩
theorem Cx.Ok.unwish {X:Cx}{E:Value→Shared→Prop} (ok:(X.wish E).Ok):X.Ok :=
 ⟨ok.mod,ok.kind,ok.glob,ok.blt,ok.above,ok.inj,ok.has,ok.cab,ok.hd,ok.frames,ok.stk,ok.exf,ok.bs,ok.bsz,ok.noex,ok.exfs,ok.funs,ok.frf⟩
section
variable {X:Cx}{pins:List (Addr×Obj)}{σ:St}{H:Hp}{s:Shared}{E:Value→Shared→Prop}
theorem Inv.wish (I:Inv X pins σ H s) (E:Value→Shared→Prop):Inv (X.wish E) pins σ H s:=⟨I.ok.wish E,I.os,I.bare,I.base,I.loc,I.cell,I.free,I.freeC,I.pin,I.hok,I.len⟩
theorem Inv.unwish (I:Inv (X.wish E) pins σ H s):Inv X pins σ H s:=⟨I.ok.unwish,I.os,I.bare,I.base,I.loc,I.cell,I.free,I.freeC,I.pin,I.hok,I.len⟩
theorem SP.unwish {D:Ends}{f:Flow}{s':Shared} (h:SP (X.wish E) pins D f s'):SP X pins D f s':=by
 cases f with
 | next=>obtain ⟨σ',H',I,q⟩:=h; exact ⟨σ',H',I.unwish,q⟩
 | brk=>obtain ⟨σ',H',I,q⟩:=h; exact ⟨σ',H',I.unwish,q⟩
 | cont=>obtain ⟨σ',H',I,q⟩:=h; exact ⟨σ',H',I.unwish,q⟩
 | ret u=>obtain ⟨v,σ',H',I,r,q⟩:=h; exact ⟨v,σ',H',I.unwish,r,q⟩
theorem PE.nox {e:Expr}{t:TE} (h:PE X.nox e t):PE X e t:=fun pins s σ H Q I hw =>
 zm (h pins s σ H Q (I.wish _) hw) (fun _ _ ⟨v,H',I',r,q⟩=>⟨v,H',I'.unwish,r,q⟩) fun _ _ z=>False.elim z
theorem PT.nox {e:Expr}{t:TT} (h:PT X.nox e t):PT X e t:=fun pins s σ H Q I hw =>
 zm (h pins s σ H Q (I.wish _) hw) (fun _ _ ⟨H',I',q⟩=>⟨H',I'.unwish,q⟩) fun _ _ z=>False.elim z
theorem PSs.nox {st:List Stmt}{t:TS} (h:PSs X.nox st t):PSs X st t:=fun pins s σ H D I hw =>
 zm (h pins s σ H D (I.wish _) hw) (fun _ _ q=>q.unwish) fun _ _ z=>False.elim z
end
section
variable {X:Cx}{st:Stmt}{rest:List Stmt}{t u:TS}{e:Expr}{te:TE}{pos:Pos}
def Que:TS:=fun D σ H=>D.nx σ H
def QuN (t u:TS):TS:=fun D σ H=>t { D with nx:=u D } σ H
theorem Ql2:PSs X [] Que:=fun _ _ σ H _ I h=>wpAny_execs_nil ⟨σ,H,I,h⟩
theorem Qk6 (h1:PS X st t) (h2:PSs X rest u):PSs X (st::rest) (QuN t u):=by
 intro pins s σ H D I h;refine wpAny_execs_cons (thn (h1 pins s σ H { D with nx:=u D } I h) fun f s1 q=>?_)
 cases f with
 | next =>
  obtain ⟨σ',H',I',q⟩:=q;exact h2 pins s1 σ' H' D I' q
 | ret v=>exact q
 | brk=>exact q
 | cont=>exact q
theorem QlY (h1:PS X st t):PSs X [st] t:=by
 intro pins s σ H D I h;refine wpAny_execs_cons (thn (h1 pins s σ H D I h) fun f s1 q=>?_)
 cases f with
 | next=>exact wpAny_execs_nil q
 | ret v=>exact q
 | brk=>exact q
 | cont=>exact q
theorem Inv.quiet {pins:List (Addr×Obj)}{σ:St}{H:Hp}{s:Shared} (I:Inv X pins σ H s):interactive X.env=false:=by simp [interactive,I.ok.kind]
def QtS (te:TE):TS:=fun D σ H=>te σ H fun _ H1=>D.nx σ H1
theorem QjC (he:PE X e te) (hs:swapsWith e none pos.line X.env=pure false:=by rfl):PS X (.Expr e pos) (QtS te):=by
 intro pins s σ H D I h;exact wpAny_Expr_any (thn (he pins s σ H _ I h) fun v s1 ⟨x,H1,I1,r1,q1⟩=>⟨σ,H1,I1,q1⟩) I.quiet hs
def Qvb (te:TE):TS:=fun D σ H=>te σ H D.rt
theorem Qln (he:PE X e te):PS X (.Return (some e) pos) (Qvb te):=by
 intro pins s σ H D I h;exact wpAny_Return_some (thn (he pins s σ H _ I h) fun v s1 ⟨x,H1,I1,r1,q1⟩=>⟨x,σ,H1,I1,r1,q1⟩)
def Qu8 (c:TT) (t u:TS):TS:=fun D σ H=>c σ H fun b H1=>if b=true then t D σ H1 else u D σ H1
theorem Qqh {c:Expr}{a b:List Stmt}{tc:TT} (hc:PT X c tc) (ha:PSs X a t) (hb:PSs X b u):PS X (.If c a b pos) (Qu8 tc t u):=by
 intro pins s σ H D I h;refine wpAny_If (thn (hc pins s σ H _ I h) fun d s1 ⟨H1,I1,q1⟩=>?_)
 cases d with
 | true=>exact ha pins s1 σ H1 D I1 q1
 | false=>exact hb pins s1 σ H1 D I1 q1
end
abbrev TG:=V→St→Hp→(St→Hp→Prop)→Prop
abbrev TGs:=List V→St→Hp→(St→Hp→Prop)→Prop
def PG (X:Cx) (target:Expr) (t:TG):Prop :=
 ∀(pins:List (Addr×Obj)) (s:Shared) (σ:St) (H:Hp) (v:V) (u:Value) (Q:St→Hp→Prop),Inv X pins σ H s→RelV v u→t v σ H Q →
  wpAny (model X.prog X.w) X.A (assign target X.env u) (fun _ s'=>∃σ' H',Inv X pins σ' H' s'∧Q σ' H') X.xe s
def PGs (X:Cx) (ts:List Expr) (t:TGs):Prop :=
 ∀(pins:List (Addr×Obj)) (s:Shared) (σ:St) (H:Hp) (vs:List V) (us:List Value) (Q:St→Hp→Prop),Inv X pins σ H s→QaC vs us→t vs σ H Q →
  wpAny (model X.prog X.w) X.A (assignInOrder ((assignEach ts X.env).map (·.2)) us) (fun _ s'=>∃σ' H',Inv X pins σ' H' s'∧Q σ' H') X.xe s
section
variable {X:Cx}{pos:Pos}
def Qkq (i:Nat):TG:=fun v σ H Q=>Q (σ.set i (some v)) H
theorem QrI {i:Nat}{x:Str} (hN:X.N.Nodup) (hi:X.N[i]? = some x) (hx:Loc X.env.scope x) (hf:X.fn x=true∨X.env.scope.names.lookup x=some .local:=by first | exact .inl rfl | exact .inr rfl | assumption):PG X (.Name x pos) (Qkq i):=by
 intro pins s σ H v u Q I r h;exact wpAny_assign_Name (Qiw I hN hi hx r (fun s' I'=>⟨_,H,I',h⟩) hf)
def QuS:TGs:=fun vs σ H Q=>vs = []∧Q σ H
def Qt5 (t:TG) (u:TGs):TGs:=fun vs σ H Q=>∃v r,vs=v::r∧t v σ H fun σ' H'=>u r σ' H' Q
theorem Qq7:PGs X [] QuS:=by
 intro pins s σ H vs us Q I r h;obtain ⟨e,h⟩:=h;subst e;cases r;exact assignInOrder_nil ⟨σ,H,I,h⟩
theorem QpJ {e:Expr}{es:List Expr}{t:TG}{u:TGs} (h1:PG X e t) (h2:PGs X es u)
  (hs:(assignEach (e::es) X.env).map (·.2)=assign e X.env::(assignEach es X.env).map (·.2):=by rfl):PGs X (e::es) (Qt5 t u):=by
 intro pins s σ H vs us Q I r h;obtain ⟨v,vr,e1,h⟩:=h;subst e1
 cases r with
 | cons r rr =>
  rw [hs];refine assignInOrder_cons (thn (h1 pins s σ H _ _ _ I r h) fun _ s1 ⟨σ1,H1,I1,q1⟩=>?_);exact h2 pins s1 σ1 H1 _ _ Q I1 rr q1
def Qvx (K:PySem.W.Frag) (n:Nat) (t:TGs):TG:=fun v σ H Q=>∃a xs,v = .ref a∧SqT K H a xs∧xs.length=n∧t xs σ H Q
theorem QsK {es:List Expr}{k:Nat}{t:TGs}{n:Nat} (hc:X.calm=true) (h:PGs X es t)
  (hn:(assignEach es X.env).length=n:=by rfl) (hst:(assignEach es X.env).findIdx? (·.1)=none:=by rfl):PG X (.Tuple es k pos) (Qvx X.K n t):=by
 intro pins s σ H v u Q I r hw;obtain ⟨a,xs,e1,hq,hl,hw⟩:=hw;subst e1;cases r;obtain ⟨its,rv,ht,hz⟩:=I.tuple hq
 refine assign_Tuple_tuple (I.ok.hd hc) ht (by simp [hn,←hl,rv.length]) hst fun h' hx=>?_
 have I1:Inv X pins σ H { s with heap:=h' }:=I.kept (t':=s.toks) fun b o e=>hx b o (zk (zd e)) e
 exact h pins _ σ H xs _ Q I1 (by simpa using rv) hw
def QmF (te:TE) (g:TG):TS:=fun D σ H=>te σ H fun x H1=>g x σ H1 D.nx
theorem QtO {tg e:Expr}{te:TE}{g:TG} (he:PE X e te) (hg:PG X tg g) (hs:swapsWithSole [tg] e pos.line X.env=pure false:=by rfl) (hw:swappedStores [tg] e X.env=pure none:=by rfl)
  (h1:(assignEach [tg] X.env).map (·.2) = [assign tg X.env]:=by rfl):PS X (.Assign [tg] e pos) (QmF te g):=by
 intro pins s σ H D I h;refine wpAny_Assign_stores (thn (he pins s σ H _ I h) fun v s1 ⟨x,H1,I1,r1,q1⟩=>?_) hs hw;rw [h1]
 exact thn (hg pins s1 σ H1 x v _ I1 r1 q1) fun _ s2 q=>q
theorem QkT {i:Nat}{x:Str}{e:Expr}{te:TE}{pos':Pos} (hN:X.N.Nodup) (hi:X.N[i]? = some x) (hx:Loc X.env.scope x) (he:PE X e te) (hs:swapsWith e (some (.Name x pos')) pos.line X.env=pure false:=by rfl) (hf:X.fn x=true∨X.env.scope.names.lookup x=some .local:=by first | exact .inl rfl | exact .inr rfl | assumption) :
  PS X (.Assign [.Name x pos'] e pos) (QmF te (Qkq i)):=by
 intro pins s σ H D I h;refine wpAny_Assign_Name (thn (he pins s σ H _ I h) fun v s1 ⟨y,H1,I1,r1,q1⟩=>?_) hs;exact Qiw I1 hN hi hx r1 (fun s2 I2=>⟨_,H1,I2,q1⟩) hf
end
section
variable {X:Cx}{pos:Pos}
def QnD (c:TT) (tb:TS):TS:=fun D σ H=>∃W:Nat→St→Hp→Prop,(∃m,W m σ H)∧∀m σ H,W m σ H →
 c σ H fun b H1=>if b=true then ∃N:St→Hp→Prop,(∀σ' H',N σ' H'→∃m',m' < m∧W m' σ' H')∧tb { D with nx:=N,ct:=N,bk:=D.nx } σ H1 else D.nx σ H1
theorem QpF {c:Expr}{body:List Stmt}{tc:TT}{tb:TS} (hp:PassesOwn (model X.prog X.w) X.A X.env X.xe) (hc:PT X c tc) (hb:PSs X body tb):PS X (.While c body [] pos) (QnD tc tb):=by
 intro pins s σ H D I h;obtain ⟨W,⟨m0,w0⟩,turn⟩:=h;refine wpAny_While (codeAny_whileLoop (fun n s'=>∃σ' H',Inv X pins σ' H' s'∧W n σ' H') ?_ m0 ⟨σ,H,I,w0⟩);rintro n s1 ⟨σ1,H1,I1,w1⟩;refine wpAny_passesOwn hp (thn (hc pins s1 σ1 H1 _ I1 (turn n σ1 H1 w1)) fun b s2 ⟨H2,I2,q2⟩=>?_)
 cases b with
 | true =>
  obtain ⟨N,hN,q2⟩:=q2;rw [if_pos rfl];refine wpAny_passesOwn hp (thn (hb pins s2 σ1 H2 _ I2 q2) fun f s3 q3=>?_)
  cases f with
  | next =>
   obtain ⟨σ3,H3,I3,n3⟩:=q3;obtain ⟨m',hm,w3⟩:=hN σ3 H3 n3;exact ⟨m',hm,σ3,H3,I3,w3⟩
  | cont =>
   obtain ⟨σ3,H3,I3,n3⟩:=q3;obtain ⟨m',hm,w3⟩:=hN σ3 H3 n3;exact ⟨m',hm,σ3,H3,I3,w3⟩
  | brk=>exact q3
  | ret v=>exact q3
 | false =>
  rw [if_neg zg];exact wpAny_execs_nil ⟨σ1,H2,I2,q2⟩
end
structure It where
 go:Nat→Hp→Prop
 yld:Nat→Hp→V→Hp→Prop
 stop:Nat→Hp→Prop
def Qd2 (X:Cx) (pins:List (Addr×Obj)) (H:Hp) (b:Addr):Prop :=
 H b=none∧b≠X.env.locals∧b∉X.fs∧(b∈X.ex∨X.s₀.heap.objs.size≤b)∧(∀x c,X.env.cells.lookup x=some c→c≠b)∧∀p∈X.pn++pins,p.1≠b
theorem Inv.fpOk {X:Cx}{pins:List (Addr×Obj)}{σ:St}{H H':Hp}{s:Shared}{b:Addr} (I:Inv X pins σ H s) (hb:s.heap.objs.size≤b) (hn:H' b=none):Qd2 X pins H' b:=by
 refine ⟨hn,Nat.ne_of_gt (zv I.lt hb),I.nofs hb,.inr (zt I.sz hb),fun x c e z=>?_,fun p hp z=>?_⟩
 ·obtain ⟨v,q⟩:=I.cell x c e;exact absurd (zv q.lt (by rw [z]; exact hb)) (zH _)
 ·exact absurd (zv (zd (I.pin p hp).1) (by rw [z]; exact hb)) (zH _)
structure Turn (P:Program) (w:World) (K:PySem.W.Frag) (tg:Expr) (J:It) (fp:List Addr) (it:Addr) (tn:Nat→Heap→Prop):Prop where
 mem:it∈fp
 obj:∀i h,tn i h→∀b∈fp,∃o,h.get? b=some o∧∀v,o.data≠.cell v
 keep:∀i h h',tn i h→(∀b∈fp,∀o,h.get? b=some o→h'.get? b=some o)→tn i h'
 item:∀(X:Cx),X.prog=P→X.w=w→X.K=K→X.calm=true→∀(i:Nat) (pins:List (Addr×Obj)) (s:Shared) (σ:St) (H:Hp) (E:Value→Shared→Prop),Inv X pins σ H s→(∀b∈fp,Qd2 X pins H b)→tn i s.heap→J.go i H →
  wpAny (model P w) X.A (pyNext (.ref it)) (fun r s1=>∃u,r=some u ∧
   wpAny (model P w) X.A (letOwnedTupleGo tg (.ref it) u) (fun _ s2=>∃x H',Inv X pins σ H' s2∧RelV x u∧J.yld i H x H'∧tn (i+1) s2.heap∧∀b∈fp,H' b=none) E s1) E s
 done:∀(X:Cx),X.prog=P→X.w=w→X.K=K→X.calm=true→∀(i:Nat) (pins:List (Addr×Obj)) (s:Shared) (σ:St) (H:Hp) (E:Value→Shared→Prop),Inv X pins σ H s→(∀b∈fp,Qd2 X pins H b)→tn i s.heap→J.stop i H →
  wpAny (model P w) X.A (pyNext (.ref it)) (fun r s1=>r=none∧Inv X pins σ H s1) E s
 self:∀(A:Around) (i:Nat) (s:Shared) (Q:Value→Shared→Prop) (E:Value→Shared→Prop),tn i s.heap→Q (.ref it) s→wpAny (model P w) A (pyIter (.ref it)) Q E s
abbrev TI:=St→Hp→(It→Hp→Prop)→Prop
def PIE (X:Cx) (pins:List (Addr×Obj)) (σ:St) (tg:Expr) (R:It→Hp→Prop) (itv:Value) (s2:Shared):Prop :=
 ∃(it:Addr) (fp:List Addr) (tn:Nat→Heap→Prop) (J:It) (H':Hp),itv = .ref it∧Inv X pins σ H' s2∧Turn X.prog X.w X.K tg J fp it tn∧tn 0 s2.heap∧(∀b∈fp,Qd2 X pins H' b)∧R J H'
def PI (X:Cx) (tg iter:Expr) (wi:TI):Prop :=
 ∀(pins:List (Addr×Obj)) (s:Shared) (σ:St) (H:Hp) (R:It→Hp→Prop),Inv X pins σ H s→wi σ H R →
  wpAny (model X.prog X.w) X.A (eval iter X.env) (fun v s1=>wpAny (model X.prog X.w) X.A (pyIter v) (PIE X pins σ tg R) X.xe s1) X.xe s
theorem Qkr {M:Model}{A:Around}{E:Value→Shared→Prop}{s:Shared}{tg:Expr}{it:Addr}{u:Value}{o:Obj}{n:String}{vs:Array Value}{Q:Unit→Shared→Prop} (ho:s.heap.get? it=some o) (hc:o.cls = .type n) (hd:o.data = .fields vs)
  (hn:["enumerate","zip","dict_itemiterator","dict_reverseitemiterator","odict_iterator","itertools.zip_longest","itertools.pairwise"].contains n=false) (hQ:Q () s):wpAny M A (letOwnedTupleGo tg (.ref it) u) Q E s:=by
 unfold letOwnedTupleGo
 cases tg <;> first
  | exact zb hQ
  | (cases u <;> first
    | exact zb hQ
    | (refine za (wpAny_load ho ?_)
       rw [hc,hd];show wpAny M A (if (["enumerate","zip","dict_itemiterator","dict_reverseitemiterator","odict_iterator","itertools.zip_longest","itertools.pairwise"].contains n&&vs[0]? == some (rawInt _))=true then _ else _) Q E s;rw [if_neg (by intro h; rw [hn,Bool.false_and] at h; cases h)]
       exact zb hQ))
def Itl (K:PySem.W.Frag) (a:Addr):It :=
 ⟨fun i H=>∃xs x,SqL K H a xs∧xs[i]? = some x,fun i H x H'=>H'=H∧∀xs,SqL K H a xs→xs[i]? = some x,fun i H=>∃xs,SqL K H a xs∧xs.length≤i⟩
def Itt (K:PySem.W.Frag) (a:Addr):It :=
 ⟨fun i H=>∃xs x,SqT K H a xs∧xs[i]? = some x,fun i H x H'=>H'=H∧∀xs,SqT K H a xs→xs[i]? = some x,fun i H=>∃xs,SqT K H a xs∧xs.length≤i⟩
def Itr (lo:Int) (n:Nat):It:=⟨fun i _=>i < n,fun i H x H'=>H'=H∧x = .int (lo+i),fun i _=>n≤i⟩
theorem Qn1 {P:Program}{w:World}{K:PySem.W.Frag}{tg:Expr} (a it:Addr):Turn P w K tg (Itl K a) [it] it (fun i h=>h.IsListIter it a i) where
 mem:=by simp
 obj:=fun i h st b hb=>by
  have e:b=it:=by simpa using hb
  subst e;obtain ⟨o,e,c,d⟩:=st;exact ⟨o,e,fun v z=>by rw [d] at z; cases z⟩
 keep:=fun i h h' st k=>st.at fun o e=>k it (by simp) o e
 item:=by
  intro X hP hw hK hc i pins s σ H E I hf st hg;subst hP hw hK;obtain ⟨xs,x,hq,hx⟩:=hg;obtain ⟨its,rv,p,hz⟩:=I.list hq;obtain ⟨u,hu,ru⟩:=rv.get hx;obtain ⟨f0,f1,f2,f3,f4,f5⟩:=hf it (by simp)
  refine wpAny_pyNext_list_item st p.isList (x:=u) (by simpa using hu) fun h' st' sb=>?_
  have I1:Inv X pins σ H { s with heap:=h' }:=I.turned (t':=s.toks) (fun b o hb e=>(sb.2 b hb).trans e) f0 f1 f3 f4 f5;obtain ⟨o,e,c,d⟩:=id st';exact ⟨u,rfl,Qkr (s:={ s with heap:=h' }) e c d (by decide) ⟨x,H,I1,ru,⟨rfl,fun ys hy=>by rw [I.list_inj hy hq]; exact hx⟩,st',fun b hb=>(hf b hb).1⟩⟩
 done:=by
  intro X hP hw hK hc i pins s σ H E I hf st hg;subst hP hw hK;obtain ⟨xs,hq,hx⟩:=hg;obtain ⟨its,rv,p,hz⟩:=I.list hq;obtain ⟨f0,f1,f2,f3,f4,f5⟩:=hf it (by simp);have hl:=rv.length
  exact wpAny_pyNext_list_end (I.ok.hd hc) st p.isList (by simp; omega) fun h' eb=>⟨rfl,I.turned (t':=s.toks) (fun b o hb e=>eb b o hb e) f0 f1 f3 f4 f5⟩
 self:=fun _ _ _ _ _ st h=>wpAny_pyIter_listiter st h
theorem QmU {P:Program}{w:World}{K:PySem.W.Frag}{tg:Expr} (a it:Addr):Turn P w K tg (Itt K a) [it] it (fun i h=>h.IsTupleIter it a i) where
 mem:=by simp
 obj:=fun i h st b hb=>by
  have e:b=it:=by simpa using hb
  subst e;obtain ⟨o,e,c,d⟩:=st;exact ⟨o,e,fun v z=>by rw [d] at z; cases z⟩
 keep:=fun i h h' st k=>st.at fun o e=>k it (by simp) o e
 item:=by
  intro X hP hw hK hc i pins s σ H E I hf st hg;subst hP hw hK;obtain ⟨xs,x,hq,hx⟩:=hg;obtain ⟨its,rv,p,hz⟩:=I.tuple hq;obtain ⟨u,hu,ru⟩:=rv.get hx;obtain ⟨f0,f1,f2,f3,f4,f5⟩:=hf it (by simp)
  refine wpAny_pyNext_tuple_item st (show s.heap.IsTuple a its.toArray from p) (x:=u) (by simpa using hu) fun h' st' sb=>?_
  have I1:Inv X pins σ H { s with heap:=h' }:=I.turned (t':=s.toks) (fun b o hb e=>(sb.2 b hb).trans e) f0 f1 f3 f4 f5;obtain ⟨o,e,c,d⟩:=id st';exact ⟨u,rfl,Qkr (s:={ s with heap:=h' }) e c d (by decide) ⟨x,H,I1,ru,⟨rfl,fun ys hy=>by rw [I.tuple_inj hy hq]; exact hx⟩,st',fun b hb=>(hf b hb).1⟩⟩
 done:=by
  intro X hP hw hK hc i pins s σ H E I hf st hg;subst hP hw hK;obtain ⟨xs,hq,hx⟩:=hg;obtain ⟨its,rv,p,hz⟩:=I.tuple hq;obtain ⟨f0,f1,f2,f3,f4,f5⟩:=hf it (by simp);have hl:=rv.length
  exact wpAny_pyNext_tuple_end (I.ok.hd hc) st (show s.heap.IsTuple a its.toArray from p) (by simp; omega) fun h' eb=>⟨rfl,I.turned (t':=s.toks) (fun b o hb e=>eb b o hb e) f0 f1 f3 f4 f5⟩
 self:=fun _ _ _ _ _ st h=>wpAny_pyIter_tupleiter st h
theorem Qmp {P:Program}{w:World}{K:PySem.W.Frag}{tg:Expr} (it:Addr) (lo:Int) (n:Nat):Turn P w K tg (Itr lo n) [it] it (fun i h=>IsRangeIter h it (lo+(i:Nat) * 1) ((n:Int) - (i:Nat)) 1) where
 mem:=by simp
 obj:=fun i h st b hb=>by
  have e:b=it:=by simpa using hb
  subst e
  exact ⟨_,st,fun v z=>by
   have z':Data.fields _=Data.cell v:=z
   cases z'⟩
 keep:=fun i h h' st k=>k it (by simp) _ st
 item:=by
  intro X hP hw hK hc i pins s σ H E I hf st hg;subst hP hw hK;obtain ⟨f0,f1,f2,f3,f4,f5⟩:=hf it (by simp);have W:=Walks.range (prog:=X.prog) (w:=X.w) (I.ok.hd hc) it lo 1 n
  refine W.item i s _ _ hg st fun v h' tk hv st' kk=>?_
  obtain ⟨t,rfl⟩:=hv;have I1:Inv X pins σ H { s with heap:=h',toks:=tk }:=I.turned (fun b o hb e=>kk b o (by simpa using hb) e) f0 f1 f3 f4 f5;refine ⟨_,rfl,Qkr (s:={ s with heap:=h',toks:=tk }) (n:="range_iterator") st' rfl rfl (by decide) ⟨.int (lo+i),H,I1,⟨t,?_⟩,⟨rfl,rfl⟩,st',fun b hb=>(hf b hb).1⟩⟩;rw [Int.mul_one]
 done:=by
  intro X hP hw hK hc i pins s σ H E I hf st hg;subst hP hw hK;obtain ⟨f0,f1,f2,f3,f4,f5⟩:=hf it (by simp)
  exact wpAny_pyNext_range_end (I.ok.hd hc) st (by have:n≤i:=hg; omega) fun h' eb=>⟨rfl,I.turned (t':=s.toks) (fun b o hb e=>eb b o hb e) f0 f1 f3 f4 f5⟩
 self:=fun _ _ _ _ _ st h=>wpAny_pyIter_rangeiter st h
section
variable {X:Cx}{tg:Expr}
def Qt3 (K:PySem.W.Frag) (tl:TE):TI:=fun σ H R=>tl σ H fun x H1=>∃a,x = .ref a∧(∃xs,SqL K H1 a xs)∧R (Itl K a) H1
def QuW (K:PySem.W.Frag) (tl:TE):TI:=fun σ H R=>tl σ H fun x H1=>∃a,x = .ref a∧(∃xs,SqT K H1 a xs)∧R (Itt K a) H1
theorem Qmb {l:Expr}{tl:TE} (hl:PE X l tl):PI X tg l (Qt3 X.K tl):=by
 intro pins s σ H R I h
 refine thn (hl pins s σ H _ I h) fun v s1 ⟨x,H1,I1,r1,q1⟩=>?_
 obtain ⟨a,e,⟨xs,hq⟩,q⟩:=q1;subst e;cases r1;obtain ⟨its,rv,p,hz⟩:=I1.list hq;refine wpAny_pyIter_list p.isList ?_;refine ⟨s1.heap.objs.size,[s1.heap.objs.size],_,_,H1,rfl,I1.kept (t':=s1.toks) fun b o e=>zh _ e,Qn1 a _,⟨_,zD _ rfl,rfl,rfl⟩,fun b hb=>?_,q⟩
 have e:b=s1.heap.objs.size:=by simpa using hb
 subst e;exact I1.fpOk (zc _) (I1.hok.fresh (zc _))
theorem QsS {l:Expr}{tl:TE} (hl:PE X l tl):PI X tg l (QuW X.K tl):=by
 intro pins s σ H R I h
 refine thn (hl pins s σ H _ I h) fun v s1 ⟨x,H1,I1,r1,q1⟩=>?_
 obtain ⟨a,e,⟨xs,hq⟩,q⟩:=q1;subst e;cases r1;obtain ⟨its,rv,p,hz⟩:=I1.tuple hq;refine wpAny_pyIter_tuple (show s1.heap.IsTuple a its.toArray from p) ?_;refine ⟨s1.heap.objs.size,[s1.heap.objs.size],_,_,H1,rfl,I1.kept (t':=s1.toks) fun b o e=>zh _ e,QmU a _,⟨_,zD _ rfl,rfl,rfl⟩,fun b hb=>?_,q⟩
 have e:b=s1.heap.objs.size:=by simpa using hb
 subst e;exact I1.fpOk (zc _) (I1.hok.fresh (zc _))
theorem Qpf {pins:List (Addr×Obj)}{σ:St}{H:Hp}{s:Shared}{R:It→Hp→Prop}{E:Value→Shared→Prop}{lo hi:Int}{t u v:Tok}{tk:Nat} (I:Inv X pins σ H s) (h1:-(2 ^ 62)≤lo) (h2:lo < 2 ^ 62) (h3:-(2 ^ 62)≤hi) (h4:hi < 2 ^ 62)
  (q:R (Itr lo (hi - lo).toNat) H):wpAny (model X.prog X.w) X.A (pyIter (.ref s.heap.objs.size)) (PIE X pins σ tg R) E { s with heap:=s.heap.push { cls:=.type "range",data:=.fields #[.int lo t,.int hi u,.int 1 v] },toks:=tk }:=by
 refine wpAny_pyIter_range (IsRange.new ..) (small_one h1 h2 h3 h4) ?_
 have I1:Inv X pins σ H { s with heap:=s.heap.push { cls:=.type "range",data:=.fields #[.int lo t,.int hi u,.int 1 v] },toks:=tk }:=I.kept fun b o e=>zh _ e
 refine ⟨(s.heap.push { cls:=.type "range",data:=.fields #[.int lo t,.int hi u,.int 1 v] }).objs.size,[(s.heap.push { cls:=.type "range",data:=.fields #[.int lo t,.int hi u,.int 1 v] }).objs.size],_,_,H,rfl,
  I1.kept (t':=tk) fun b o e=>zh _ e,Qmp _ lo (hi - lo).toNat,?_,fun b hb=>?_,q⟩
 ·have e1:lo+((0:Nat):Int) * 1=lo:=by simp
  have e2:(((hi - lo).toNat:Nat):Int) - ((0:Nat):Int)=Builtin.Range.rangeSize lo hi 1:=by rw [rangeSize_one]; split <;> omega
  show IsRangeIter _ _ (lo+((0:Nat):Int) * 1) ((((hi - lo).toNat:Nat):Int) - ((0:Nat):Int)) 1;rw [e1,e2];exact zD _ rfl
 ·have e:b=(s.heap.push { cls:=.type "range",data:=.fields #[.int lo t,.int hi u,.int 1 v] }).objs.size:=by simpa using hb
  subst e;exact I1.fpOk (zc _) (I1.hok.fresh (zc _))
def Quq (ta:TA):TI:=fun σ H R=>ta σ H fun vs H1=>∃j:Int,vs = [.int j]∧-(2 ^ 62)≤j∧j < 2 ^ 62∧R (Itr 0 j.toNat) H1
theorem QnK {a:Expr}{ta:TA}{p pos:Pos} (hg:Gl X "range") (hm:X.mg "range" = none) (ha:PA X [a] ta) (hs:starEach [a] X.env = [(false,eval a X.env)]:=by rfl):PI X tg (.Call (.Name "range" p) [a] [] pos) (Quq ta):=by
 intro pins s σ H R I h;refine Call_ (Qhw I hg hm boot_range (PyProof.Rows.callWith_type1 (thn (ha pos pins s σ H _ I h) fun us s1 ⟨vs,H1,I1,r1,q1⟩=>?_) hs rfl));obtain ⟨j,e,q1,q2,q⟩:=q1;subst e
 cases r1 with
 | cons r rr =>
  cases rr;obtain ⟨t,rfl⟩:=r;exact call_range_1 (Qpf I1 (by omega) (by omega) q1 q2 (by simpa using q))
def QoP (wi:TI) (g:TG) (tb:TS):TS:=fun D σ H=>wi σ H fun J H1=>∃W:Nat→Nat→St→Hp→Prop,(∃m,W 0 m σ H1)∧∀i m σ H,W i m σ H →
 (J.stop i H∧D.nx σ H)∨(J.go i H∧∃N:St→Hp→Prop,(∀σ' H',N σ' H'→∃m',m' < m∧W (i+1) m' σ' H')∧∀x H',J.yld i H x H'→g x σ H' fun σ2 H2=>tb { D with nx:=N,ct:=N,bk:=D.nx } σ2 H2)
def Qhh (fp:List Addr) (h:Heap):List (Addr×Obj):=fp.filterMap fun b=>(h.get? b).map fun o=>(b,o)
theorem Qfa {fp:List Addr}{h:Heap}{b:Addr}{o:Obj} (hb:b∈fp) (e:h.get? b=some o):(b,o)∈Qhh fp h:=List.mem_filterMap.mpr ⟨b,hb,by rw [e]; rfl⟩
theorem QoF {fp:List Addr}{h:Heap}{p:Addr×Obj} (hp:p∈Qhh fp h):p.1∈fp∧h.get? p.1=some p.2:=by
 obtain ⟨b,hb,e⟩:=List.mem_filterMap.mp hp
 cases q:h.get? b with
 | none=>rw [q] at e; cases e
 | some o =>
  rw [q] at e;have e':(b,o)=p:=zL e;subst e';exact ⟨hb,q⟩
theorem Inv.pinned {pins:List (Addr×Obj)}{σ:St}{H:Hp}{s:Shared}{fp:List Addr} (I:Inv X pins σ H s) (hf:∀b∈fp,Qd2 X pins H b) (ho:∀b∈fp,∃o,s.heap.get? b=some o∧∀v,o.data≠.cell v):Inv X (pins++Qhh fp s.heap) σ H s :=
 I.pins_of fun p hp=>(zA.mp hp).elim (fun z=>I.pin p (zJ _ z)) fun z=>by
  obtain ⟨hb,e⟩:=QoF z;obtain ⟨f0,f1,f2,_⟩:=hf p.1 hb;obtain ⟨o,e',d⟩:=ho p.1 hb;rw [e] at e'; cases e';exact ⟨e,f0,f1,f2,d⟩
theorem Inv.unpinned {pins pl:List (Addr×Obj)}{σ:St}{H:Hp}{s:Shared} (I:Inv X (pins++pl) σ H s):Inv X pins σ H s:=I.pins_of fun p hp=>I.pin p (zJ _ (List.mem_append_left _ hp))
theorem QoD {iter:Expr}{body:List Stmt}{wi:TI}{g:TG}{tb:TS}{pos:Pos} (hp:PassesOwn (model X.prog X.w) X.A X.env X.xe) (hc:X.calm=true) (hi:PI X tg iter wi) (hg:PG X tg g) (hb:PSs X body tb)
  (hs:∀x,foldedSetIterable iter X.env x=pure x:=by intro _; rfl):PS X (.For tg iter body [] pos) (QoP wi g tb):=by
 intro pins s σ H D I h;refine wpAny_For (thn (hi pins s σ H _ I h) fun v s1 h1=>thn h1 fun itv s2 h2=>?_) hs;obtain ⟨it,fp,tn,J,H2,e,I2,T,st2,f2,W,⟨m0,w0⟩,turn⟩:=h2;subst e
 have stat:∀{H':Hp},(∀b∈fp,H' b=none)→∀b∈fp,Qd2 X pins H' b:=fun hn b hb=>⟨hn b hb,(f2 b hb).2⟩
 refine codeAny_forLoop_any (fun n s'=>∃i σ' H',Inv X pins σ' H' s'∧tn i s'.heap∧(∀b∈fp,H' b=none)∧W i n σ' H') ?_ m0 ⟨0,σ,H2,I2,st2,fun b hb=>(f2 b hb).1,w0⟩;rintro n s3 ⟨i,σ3,H3,I3,st3,fr3,w3⟩
 rcases turn i n σ3 H3 w3 with ⟨stop,qn⟩ | ⟨go,N,hN,step⟩
 ·refine wpAny_passesOwn hp (thn (T.done X rfl rfl rfl hc i pins s3 σ3 H3 X.xe I3 (stat fr3) st3 stop) fun r s4 ⟨hr,I4⟩=>?_);subst hr;exact wpAny_execs_nil ⟨σ3,H3,I4,qn⟩
 ·refine wpAny_passesOwn hp (thn (T.item X rfl rfl rfl hc i pins s3 σ3 H3 X.xe I3 (stat fr3) st3 go) fun r s4 ⟨u,hr,h4⟩=>?_);subst hr;refine wpAny_passesOwn hp (thn h4 fun _ s5 ⟨x,H5,I5,r5,y5,st5,fr5⟩=>?_);have I5':=I5.pinned (stat fr5) (T.obj _ _ st5);refine wpAny_passesOwn hp (thn (hg _ s5 σ3 H5 x u _ I5' r5 (step x H5 y5)) fun _ s6 ⟨σ6,H6,I6,q6⟩=>?_);refine wpAny_passesOwn hp (thn (hb _ s6 σ6 H6 _ I6 q6) fun f s7 q7=>?_)
  have again:∀{σ7:St}{H7:Hp},Inv X (pins++Qhh fp s5.heap) σ7 H7 s7→N σ7 H7→∃m,m < n∧∃i σ' H',Inv X pins σ' H' s7∧tn i s7.heap∧(∀b∈fp,H' b=none)∧W i m σ' H':=fun {σ7 H7} I7 n7=>by
   obtain ⟨m',hm,w7⟩:=hN σ7 H7 n7;refine ⟨m',hm,i+1,σ7,H7,I7.unpinned,T.keep _ _ _ st5 fun b hb o e=>(I7.pin (b,o) (zJ _ (zJ _ (Qfa hb e)))).1,fun b hb=>?_,w7⟩;obtain ⟨o,e,d⟩:=T.obj _ _ st5 b hb;exact (I7.pin (b,o) (zJ _ (zJ _ (Qfa hb e)))).2.1
  cases f with
  | next=>obtain ⟨σ7,H7,I7,n7⟩:=q7; exact again I7 n7
  | cont=>obtain ⟨σ7,H7,I7,n7⟩:=q7; exact again I7 n7
  | brk=>obtain ⟨σ7,H7,I7,q7⟩:=q7; exact ⟨σ7,H7,I7.unpinned,q7⟩
  | ret v=>obtain ⟨x7,σ7,H7,I7,r7,q7⟩:=q7; exact ⟨x7,σ7,H7,I7.unpinned,r7,q7⟩
end
abbrev R2:=V→V→Hp→VK→Prop
def OpR (X:Cx) (f:Value→Value→Sem Value) (r:R2):Prop :=
 ∀(pins:List (Addr×Obj)) (s:Shared) (σ:St) (H:Hp) (x y:V) (v u:Value) (Q:VK),Inv X pins σ H s→RelV x v→RelV y u→r x y H Q →
  wpAny (model X.prog X.w) X.A (f v u) (EP X pins σ Q) X.xe s
def UnR (X:Cx) (f:Value→Sem Value) (r:V→Hp→VK→Prop):Prop :=
 ∀(pins:List (Addr×Obj)) (s:Shared) (σ:St) (H:Hp) (x:V) (v:Value) (Q:VK),Inv X pins σ H s→RelV x v→r x H Q →
  wpAny (model X.prog X.w) X.A (f v) (EP X pins σ Q) X.xe s
def QiT (X:Cx) (f:Value) (r:List V→Hp→VK→Prop):Prop :=
 ∀(pins:List (Addr×Obj)) (s:Shared) (σ:St) (H:Hp) (xs:List V) (us:List Value) (Q:VK),Inv X pins σ H s→QaC xs us→r xs H Q →
  wpAny (model X.prog X.w) X.A (call f us) (EP X pins σ Q) X.xe s
def Qvs (X:Cx) (r:V→Hp→(Bool→Hp→Prop)→Prop):Prop :=
 ∀(pins:List (Addr×Obj)) (s:Shared) (σ:St) (H:Hp) (x:V) (v:Value) (Q:Bool→Hp→Prop),Inv X pins σ H s→RelV x v→r x H Q →
  wpAny (model X.prog X.w) X.A (truthy v) (TP X pins σ Q) X.xe s
def tOp (r:R2) (ta tb:TE):TE:=fun σ H Q=>ta σ H fun x H1=>tb σ H1 fun y H2=>r x y H2 Q
def rI (C:Int→Int→Prop) (g:Int→Int→V):R2:=fun x y H Q=>∃i j,x = .int i∧y = .int j∧C i j∧Q (g i j) H
def rI0 (g:Int→Int→V):R2:=fun x y H Q=>∃i j,x = .int i∧y = .int j∧Q (g i j) H
def rU (g:Int→V):V→Hp→VK→Prop:=fun x H Q=>∃i,x = .int i∧Q (g i) H
section
variable {X:Cx}{a b c:Expr}{ta tb tc:TE}{pos:Pos}
theorem QoV (ha:PE X a ta) (hb:PE X b tb) {pins:List (Addr×Obj)}{s:Shared}{σ:St}{H:Hp}{R:V→V→Hp→Prop} (I:Inv X pins σ H s)
  (h:ta σ H fun x H1=>tb σ H1 fun y H2=>R x y H2) {Q:Value→Shared→Prop}{f:Value→Value→Sem Value}
  (hf:∀v u s2 x y H2,Inv X pins σ H2 s2→RelV x v→RelV y u→R x y H2→wpAny (model X.prog X.w) X.A (f v u) Q X.xe s2) :
  wpAny (model X.prog X.w) X.A (eval a X.env) (fun v s₁=>wpAny (model X.prog X.w) X.A (eval b X.env) (fun u s₂=>wpAny (model X.prog X.w) X.A (f v u) Q X.xe s₂) X.xe s₁) X.xe s:=by
 refine thn (ha pins s σ H _ I h) fun v s1 ⟨x,H1,I1,r1,q1⟩=>?_
 refine thn (hb pins s1 σ H1 _ I1 q1) fun u s2 ⟨y,H2,I2,r2,q2⟩=>?_
 exact hf v u s2 x y H2 I2 r1 r2 q2
theorem Qt0 {op:Operator}{r:R2} (ho:OpR X (binaryOp op) r) (ha:PE X a ta) (hb:PE X b tb):PE X (.BinOp a op b pos) (tOp r ta tb):=by
 intro pins s σ H Q I h;exact wpAny_BinOp (QoV ha hb I h fun v u s2 x y H2 I2 rx ry q=>ho pins s2 σ H2 x y v u Q I2 rx ry q)
theorem opI {f:Value→Value→Sem Value}{C:Int→Int→Prop}{g:Int→Int→Int}
  (rule:∀(i j:Int) (t u:Tok) (s:Shared) (Q:Value→Shared→Prop) (E:Value→Shared→Prop),C i j→Q (.int (g i j) s.toks) { s with toks:=s.toks+1 }→wpAny (model X.prog X.w) X.A (f (.int i t) (.int j u)) Q E s) :
  OpR X f (rI C fun i j=>.int (g i j)):=by
 intro pins s σ H x y v u Q I rx ry h;obtain ⟨i,j,rfl,rfl,hc,q⟩:=h;obtain ⟨t,rfl⟩:=rx;obtain ⟨t',rfl⟩:=ry;exact rule i j t t' s _ _ hc ⟨.int (g i j),H,I.tok _,⟨_,rfl⟩,q⟩
theorem Qtb {f:Value→Value→Sem Value}{g:Int→Int→Int}
  (rule:∀(i j:Int) (t u:Tok) (s:Shared) (Q:Value→Shared→Prop) (E:Value→Shared→Prop),Q (.int (g i j) s.toks) { s with toks:=s.toks+1 }→wpAny (model X.prog X.w) X.A (f (.int i t) (.int j u)) Q E s) :
  OpR X f (rI0 fun i j=>.int (g i j)):=by
 intro pins s σ H x y v u Q I rx ry h;obtain ⟨i,j,rfl,rfl,q⟩:=h;obtain ⟨t,rfl⟩:=rx;obtain ⟨t',rfl⟩:=ry;exact rule i j t t' s _ _ ⟨.int (g i j),H,I.tok _,⟨_,rfl⟩,q⟩
theorem Qp3 {f:Value→Value→Sem Value}{g:Int→Int→Bool}
  (rule:∀(i j:Int) (t u:Tok) (s:Shared) (Q:Value→Shared→Prop) (E:Value→Shared→Prop),Q (.bool (g i j)) s→wpAny (model X.prog X.w) X.A (f (.int i t) (.int j u)) Q E s) :
  OpR X f (rI0 fun i j=>.bl (g i j)):=by
 intro pins s σ H x y v u Q I rx ry h;obtain ⟨i,j,rfl,rfl,q⟩:=h;obtain ⟨t,rfl⟩:=rx;obtain ⟨t',rfl⟩:=ry;exact rule i j t t' s _ _ ⟨.bl (g i j),H,I,rfl,q⟩
def Qvv (i j:Int):Prop:=0 < j∧j < 1073741824
def Qu6 (i j:Int):Prop:=0≤j∧j≤1000000∧i.natAbs < 2 ^ 64
def Qpm (i j:Int):Prop:=(-(2 ^ 64) < i∧i < 2 ^ 64)∨(-(2 ^ 64) < j∧j < 2 ^ 64)
theorem Qpm.ok {i j:Int} (h:Qpm i j):IntMulOk i j:=by
 rcases h with ⟨h1,h2⟩ | ⟨h1,h2⟩
 ·exact .of_left (intBits_le_64 h1 h2)
 ·exact .of_right (intBits_le_64 h1 h2)
theorem Qsz:OpR X (binaryOp .Add) (rI0 fun i j=>.int (i+j)):=Qtb fun _ _ _ _ _ _ _ q=>add_int q
theorem Qs8:OpR X (binaryOp .Sub) (rI0 fun i j=>.int (i - j)):=Qtb fun _ _ _ _ _ _ _ q=>sub_int q
theorem QsH:OpR X (binaryOp .Mult) (rI Qpm fun i j=>.int (i * j)):=opI fun _ _ _ _ _ _ _ hc q=>mul_int q hc.ok
theorem Qq3:OpR X (binaryOp .FloorDiv) (rI Qvv fun i j=>.int (i / j)):=opI fun i j _ _ _ _ _ hc q=>by
 have h1:(0:Int) < j:=hc.1;have h2:j < 1073741824:=hc.2;exact floordiv_int (by omega) (by rw [Int.fdiv_eq_ediv_of_nonneg i (by omega)]; exact q) (.inl (PyProof.noPylong_small (by omega)))
theorem Qsi:OpR X (binaryOp .Mod) (rI (fun _ j=>0 < j) fun i j=>.int (i % j)):=opI fun i j _ _ _ _ _ hc q=>by
 have h1:(0:Int) < j:=hc;exact mod_int' (by omega) (by rw [Int.fmod_eq_emod_of_nonneg i (by omega)]; exact q)
theorem Qtt:OpR X (binaryOp .Pow) (rI Qu6 fun i j=>.int (i ^ j.toNat)):=opI fun _ _ _ _ _ _ _ hc q=>pow_int_small hc.1 hc.2.1 hc.2.2 q
theorem unI {f:Value→Sem Value}{g:Int→Int}
  (rule:∀(i:Int) (t:Tok) (s:Shared) (Q:Value→Shared→Prop) (E:Value→Shared→Prop),Q (.int (g i) s.toks) { s with toks:=s.toks+1 }→wpAny (model X.prog X.w) X.A (f (.int i t)) Q E s) :
  UnR X f (rU fun i=>.int (g i)):=by
 intro pins s σ H x v Q I rx h;obtain ⟨i,rfl,q⟩:=h;obtain ⟨t,rfl⟩:=rx;exact rule i t s _ _ ⟨.int (g i),H,I.tok _,⟨_,rfl⟩,q⟩
theorem QnR:OpR X (binaryOp .Add) (fun x y H Q=>∃i k,x = .int i∧y = .bl k∧Q (.int (i+b2i k)) H):=by
 intro pins s σ H x y v u Q I rx ry h;obtain ⟨i,k,rfl,rfl,q⟩:=h;obtain ⟨t,rfl⟩:=rx;cases ry;exact add_int_bool ⟨.int (i+b2i k),H,I.tok _,⟨_,rfl⟩,q⟩
end
def Qsk:V→V→Bool
 | .non,.non=>true | .non,.int _=>true | .int _,.non=>true | .non,.bl _=>true | .bl _,.non=>true | .non,.str _=>true | .str _,.non=>true
 | .int _,.int _=>true | .bl _,.bl _=>true | .str _,.str _=>true | .byt _,.byt _=>true
 | .int _,.str _=>true | .str _,.int _=>true | .bl _,.str _=>true | .str _,.bl _=>true
 | _,_=>false
def rEq:R2:=fun x y H Q=>Qsk x y=true∧Q (.bl (decide (x=y))) H
def rNe:R2:=fun x y H Q=>Qsk x y=true∧Q (.bl (!decide (x=y))) H
theorem QlG {i j:Int}:decide (V.int i=V.int j)=(i == j):=by
 rw [Bool.eq_iff_iff];simp
theorem Qov {i j:Bool}:decide (V.bl i=V.bl j)=(i == j):=by
 rw [Bool.eq_iff_iff];simp
theorem Ql3 {i j:Str}:decide (V.str i=V.str j)=(i == j):=by
 rw [Bool.eq_iff_iff];simp
theorem QlU {i j:Array UInt8}:decide (V.byt i=V.byt j)=(i.toList == j.toList):=by
 rw [Bool.eq_iff_iff];cases i;cases j;simp
section
variable {X:Cx}{a b c:Expr}{ta tb tc:TE}{pos:Pos}
theorem Qa0 {pins:List (Addr×Obj)}{σ:St}{H:Hp}{s:Shared}{Q:VK}{k k':Bool} (I:Inv X pins σ H s) (q:Q (.bl k) H) (e:k=k'):EP X pins σ Q (.bool k') s:=by
 subst e;exact ⟨.bl k,H,I,rfl,q⟩
theorem Qid:OpR X (compareOp .Eq) rEq:=by
 intro pins s σ H x y v u Q I rx ry h;obtain ⟨hs,q⟩:=h
 cases x with
 | non =>
  cases rx
  cases y with
  | non=>cases ry; exact PySem.EqNone.eq_none_none (Qa0 I q (by simp))
  | bl j=>cases ry; exact PySem.EqNone.eq_none_bool (Qa0 I q (by simp))
  | int j=>obtain ⟨t',rfl⟩:=ry; exact PySem.EqNone.eq_none_int (Qa0 I q (by simp))
  | str j=>obtain ⟨t',rfl⟩:=ry; exact PySem.EqNone.eq_none_str (Qa0 I q (by simp))
  | _=>exact absurd (show false=true from hs) zg
 | bl i =>
  cases rx
  cases y with
  | non=>cases ry; exact PySem.EqNone.eq_bool_none (Qa0 I q (by simp))
  | bl j=>cases ry; exact eq_bool (Qa0 I q Qov)
  | str j=>obtain ⟨t',rfl⟩:=ry; exact PySem.EqMixed.eq_bool_str (Qa0 I q (by simp))
  | _=>exact absurd (show false=true from hs) zg
 | int i =>
  obtain ⟨t,rfl⟩:=rx
  cases y with
  | non=>cases ry; exact PySem.EqNone.eq_int_none (Qa0 I q (by simp))
  | int j=>obtain ⟨t',rfl⟩:=ry; exact eq_int (Qa0 I q QlG)
  | str j=>obtain ⟨t',rfl⟩:=ry; exact PySem.EqMixed.eq_int_str (Qa0 I q (by simp))
  | _=>exact absurd (show false=true from hs) zg
 | str i =>
  obtain ⟨t,rfl⟩:=rx
  cases y with
  | non=>cases ry; exact PySem.EqNone.eq_str_none (Qa0 I q (by simp))
  | bl j=>cases ry; exact PySem.EqMixed.eq_str_bool (Qa0 I q (by simp))
  | int j=>obtain ⟨t',rfl⟩:=ry; exact PySem.EqMixed.eq_str_int (Qa0 I q (by simp))
  | str j=>obtain ⟨t',rfl⟩:=ry; exact eq_str (Qa0 I q Ql3)
  | _=>exact absurd (show false=true from hs) zg
 | byt i =>
  obtain ⟨t,rfl⟩:=rx
  cases y with
  | byt j=>obtain ⟨t',rfl⟩:=ry; exact PySem.W.eq_bytes (Qa0 I q QlU)
  | _=>exact absurd (show false=true from hs) zg
 | _=>cases y <;> exact absurd (show false=true from hs) zg
theorem Qmy:OpR X (compareOp .NotEq) rNe:=by
 intro pins s σ H x y v u Q I rx ry h;obtain ⟨hs,q⟩:=h
 cases x with
 | non =>
  cases rx
  cases y with
  | non=>cases ry; exact PySem.EqNone.ne_none_none (Qa0 I q (by simp))
  | bl j=>cases ry; exact PySem.EqNone.ne_none_bool (Qa0 I q (by simp))
  | int j=>obtain ⟨t',rfl⟩:=ry; exact PySem.EqNone.ne_none_int (Qa0 I q (by simp))
  | str j=>obtain ⟨t',rfl⟩:=ry; exact PySem.EqNone.ne_none_str (Qa0 I q (by simp))
  | _=>exact absurd (show false=true from hs) zg
 | bl i =>
  cases rx
  cases y with
  | non=>cases ry; exact PySem.EqNone.ne_bool_none (Qa0 I q (by simp))
  | bl j=>cases ry; exact ne_bool (Qa0 I q (congrArg not Qov))
  | str j=>obtain ⟨t',rfl⟩:=ry; exact PySem.EqMixed.ne_bool_str (Qa0 I q (by simp))
  | _=>exact absurd (show false=true from hs) zg
 | int i =>
  obtain ⟨t,rfl⟩:=rx
  cases y with
  | non=>cases ry; exact PySem.EqNone.ne_int_none (Qa0 I q (by simp))
  | int j=>obtain ⟨t',rfl⟩:=ry; exact ne_int (Qa0 I q (congrArg not QlG))
  | str j=>obtain ⟨t',rfl⟩:=ry; exact PySem.EqMixed.ne_int_str (Qa0 I q (by simp))
  | _=>exact absurd (show false=true from hs) zg
 | str i =>
  obtain ⟨t,rfl⟩:=rx
  cases y with
  | non=>cases ry; exact PySem.EqNone.ne_str_none (Qa0 I q (by simp))
  | bl j=>cases ry; exact PySem.EqMixed.ne_str_bool (Qa0 I q (by simp))
  | int j=>obtain ⟨t',rfl⟩:=ry; exact PySem.EqMixed.ne_str_int (Qa0 I q (by simp))
  | str j=>obtain ⟨t',rfl⟩:=ry; exact ne_str (Qa0 I q (congrArg not Ql3))
  | _=>exact absurd (show false=true from hs) zg
 | byt i =>
  obtain ⟨t,rfl⟩:=rx
  cases y with
  | byt j=>obtain ⟨t',rfl⟩:=ry; exact PySem.W.ne_bytes (Qa0 I q (congrArg not QlU))
  | _=>exact absurd (show false=true from hs) zg
 | _=>cases y <;> exact absurd (show false=true from hs) zg
theorem Quh:OpR X (compareOp .Lt) (rI0 fun i j=>.bl (decide (i < j))):=Qp3 fun _ _ _ _ _ _ _ q=>lt_int q
theorem Qt2:OpR X (compareOp .LtE) (rI0 fun i j=>.bl (decide (i≤j))):=Qp3 fun _ _ _ _ _ _ _ q=>le_int q
theorem Quy:OpR X (compareOp .Gt) (rI0 fun i j=>.bl (decide (j < i))):=Qp3 fun _ _ _ _ _ _ _ q=>gt_int q
theorem Qol:OpR X (compareOp .In) (fun x y H Q=>∃i j,x = .str i∧y = .str j∧Q (.bl (!(Builtin.Str.occurrences j i 0 j.length 1).isEmpty)) H):=by
 intro pins s σ H x y v u Q I rx ry h;obtain ⟨i,j,rfl,rfl,q⟩:=h;obtain ⟨t,rfl⟩:=rx;obtain ⟨t',rfl⟩:=ry;exact in_str (Qa0 I q rfl)
theorem QaG (b:Expr) {op:CmpOp} (h:op≠.In:=by decide) (h2:op≠.NotIn:=by decide):behindInMarks op b=false:=by
 have e1:(op == CmpOp.In)=false:=by cases op <;> first | rfl | exact absurd rfl h
 have e2:(op == CmpOp.NotIn)=false:=by cases op <;> first | rfl | exact absurd rfl h2
 cases b <;> simp [behindInMarks,e1,e2]
theorem QqP {op:CmpOp}{r:R2} (ho:OpR X (compareOp op) r) (ha:PE X a ta) (hb:PE X b tb) (hm:behindInMarks op b=false):PE X (.Compare a [op] [b] pos) (tOp r ta tb):=by
 intro pins s σ H Q I h;exact wpAny_Compare1 (QoV ha hb I h fun v u s2 x y H2 I2 rx ry q=>ho pins s2 σ H2 x y v u Q I2 rx ry q) hm
def Qm8 (t:TE):TT:=fun σ H Q=>t σ H fun x H'=>∃k,x = .bl k∧Q k H'
theorem QrN {op:CmpOp}{r:R2} (ho:OpR X (compareOp op) r) (ha:PE X a ta) (hb:PE X b tb) (hm:behindInMarks op b=false):PT X (.Compare a [op] [b] pos) (Qm8 (tOp r ta tb)):=by
 intro pins s σ H Q I h
 refine wpAny_isTrue_Compare1 (thn (ha pins s σ H _ I h) fun v s1 ⟨x,H1,I1,r1,q1⟩=>thn (hb pins s1 σ H1 _ I1 q1) fun u s2 ⟨y,H2,I2,r2,q2⟩ =>
  thn (ho pins s2 σ H2 x y v u _ I2 r1 r2 q2) fun c s3 ⟨z,H3,I3,r3,k,e,q3⟩=>?_) hm
 subst e;cases r3;exact wpAny_truthy_bool ⟨H3,I3,q3⟩
def Qnr (r r':R2) (ta tb tc:TE):TE:=fun σ H Q=>ta σ H fun x H1=>tb σ H1 fun y H2=>r x y H2 fun z H3=>∃k,z = .bl k ∧
 (if k=true then tc σ H3 fun w' H4=>r' y w' H4 Q else Q (.bl false) H3)
theorem Qpv {op op':CmpOp}{r r':R2} (ho:OpR X (compareOp op) r) (ho':OpR X (compareOp op') r') (ha:PE X a ta) (hb:PE X b tb) (hc:PE X c tc)
  (hm:lastMarks [op,op'] [b,c]=false:=by with_unfolding_all rfl):PE X (.Compare a [op,op'] [b,c] pos) (Qnr r r' ta tb tc):=by
 intro pins s σ H Q I h
 refine Compare_chain (thn (ha pins s σ H _ I h) fun v s1 ⟨x,H1,I1,r1,q1⟩=>chain_link (thn (hb pins s1 σ H1 _ I1 q1) fun u s2 ⟨y,H2,I2,r2,q2⟩ =>
  thn (ho pins s2 σ H2 x y v u _ I2 r1 r2 q2) fun d s3 ⟨z,H3,I3,r3,k,e,q3⟩=>?_)) hm
 subst e;cases r3;refine wpAny_truthy_bool ?_
 cases k with
 | false=>exact ite_ff ⟨.bl false,H3,I3,rfl,q3⟩
 | true=>exact ite_tt (chain_last (thn (hc pins s3 σ H3 _ I3 q3) fun w' s4 ⟨z',H4,I4,r4,q4⟩=>ho' pins s4 σ H4 y z' u w' Q I4 r2 r4 q4))
def Qpj (K:PySem.W.Frag) (x:V) (H:Hp) (k:Bool):Prop :=
 match x with
 | .non=>k=false
 | .bl b=>k=b
 | .int i=>k=(i != 0)
 | .str y=>y.length≤sizeLine∧k=((y.length:Int) != 0)
 | .byt y=>y.size≤sizeLine∧k=((y.size:Int) != 0)
 | .ref p=>(∃xs,SqL K H p xs∧k = !xs.isEmpty)∨(∃xs,SqT K H p xs∧k = !xs.isEmpty)∨∃kvs,H p=some (.dK kvs)∧k = !kvs.isEmpty
 | _=>False
theorem QmT {κ:Type}{kvs:List (κ×V)}{vs:List (κ×Value)} (r:KV kvs vs):(!vs.isEmpty) = !kvs.isEmpty:=by
 cases r <;> rfl
theorem Qi3 {xs:List V}{its:List Value} (r:QaC xs its):(!its.toArray.isEmpty) = !xs.isEmpty:=by
 cases r <;> simp
theorem QhX:(sizeLine:Nat) < 2 ^ 63:=by rw [sizeLine_eq]; decide
theorem QsZ:Qvs X (fun x H Q=>∃k,Qpj X.K x H k∧Q k H):=by
 intro pins s σ H x v Q I rx h;obtain ⟨k,e,q⟩:=h;have hl:=QhX;have hs:sizeLine=16777216:=sizeLine_eq
 cases x with
 | non =>
  cases rx;have e':k=false:=e;subst e';exact truthy_none ⟨H,I,q⟩
 | bl b =>
  cases rx;have e':k=b:=e;subst e';exact wpAny_truthy_bool ⟨H,I,q⟩
 | int i =>
  obtain ⟨t,rfl⟩:=rx;have e':k=(i != 0):=e;subst e';exact PySem.P.truthy_int ⟨H,I,q⟩
 | str y =>
  obtain ⟨t,rfl⟩:=rx;obtain ⟨hy,e'⟩:y.length≤sizeLine∧k=((y.length:Int) != 0):=e;subst e';exact PySem.P.truthy_str (by omega) ⟨H,I.tok _,q⟩
 | byt y =>
  obtain ⟨t,rfl⟩:=rx;obtain ⟨hy,e'⟩:y.size≤sizeLine∧k=((y.size:Int) != 0):=e;subst e';exact PySem.W.truthy_bytes (by omega) ⟨H,I.tok _,q⟩
 | ref p =>
  cases rx;have e':(∃xs,SqL X.K H p xs∧k = !xs.isEmpty)∨(∃xs,SqT X.K H p xs∧k = !xs.isEmpty)∨∃kvs,H p=some (.dK kvs)∧k = !kvs.isEmpty:=e
  rcases e' with ⟨xs,hx,e'⟩ | ⟨xs,hx,e'⟩ | ⟨kvs,hx,e'⟩
  ·subst e';obtain ⟨its,r,pl,hz⟩:=I.list hx;have hlen:=r.length;exact wpAny_truthy_list pl.isList (by simp only [zn]; omega) ⟨H,I.tok _,by rw [Qi3 r]; exact q⟩
  ·subst e';obtain ⟨its,r,pl,hz⟩:=I.tuple hx;have hlen:=r.length;exact truthy_tuple pl (by simp only [zn]; omega) ⟨H,I.tok _,by rw [Qi3 r]; exact q⟩
  ·subst e';obtain ⟨hz,hS,vs,r,m⟩:kvs.length≤sizeLine∧(p == sysModules)=false∧∃vs,KV kvs vs∧s.heap.DictOf (QjL X.prog X.w) p vs:=I.hok p _ hx;have hlen:kvs.length=vs.length:=Paired.length r;exact wpAny_truthy_dict hS m (by omega) ⟨H,I.tok _,by rw [QmT r]; exact q⟩
 | _=>exact (show False from e).elim
theorem QoQ (ha:PE X a ta) (he:∀whole,isTrue a X.env whole=(do let v ←whole; standAt a.pos; holding [v] (truthy v))) :
  PT X a (fun σ H Q=>ta σ H fun x H'=>∃k,Qpj X.K x H' k∧Q k H'):=by
 intro pins s σ H Q I h;exact isTrue_plain (thn (ha pins s σ H _ I h) fun v s1 ⟨x,H1,I1,r1,q1⟩=>QsZ pins s1 σ H1 x v Q I1 r1 q1) (he _)
theorem QmN:OpR X (binaryOp .Add) (fun x y H Q=>∃i j,x = .str i∧y = .str j∧i.length+j.length≤sizeLine∧Q (.str (i++j)) H):=by
 intro pins s σ H x y v u Q I rx ry h;obtain ⟨i,j,rfl,rfl,hz,q⟩:=h;obtain ⟨t,rfl⟩:=rx;obtain ⟨t',rfl⟩:=ry;exact add_str (fun t' tk=>⟨.str (i++j),H,I.tok _,⟨_,rfl⟩,q⟩) hz
theorem vals1 {x:V}{us:List Value} (r:QaC [x] us):∃u,us = [u]∧RelV x u:=by
 cases r with
 | cons r1 r2=>cases r2; exact ⟨_,rfl,r1⟩
theorem vals2 {x y:V}{us:List Value} (r:QaC [x,y] us):∃u w',us = [u,w']∧RelV x u∧RelV y w':=by
 cases r with
 | cons r1 r2 =>
  cases r2 with
  | cons r3 r4=>cases r4; exact ⟨_,_,rfl,r1,r3⟩
def QvC (K:PySem.W.Frag) (x:V) (H:Hp) (n:Nat):Prop :=
 match x with
 | .str y=>y.length≤sizeLine∧n=y.length
 | .byt y=>y.size≤sizeLine∧n=y.size
 | .ref p=>(∃xs,SqL K H p xs∧n=xs.length)∨∃xs,SqT K H p xs∧n=xs.length
 | _=>False
theorem call_len:QiT X (.builtin "len") (fun xs H Q=>∃x n,xs = [x]∧QvC X.K x H n∧Q (.int n) H):=by
 intro pins s σ H xs us Q I r h;obtain ⟨x,n,rfl,e,q⟩:=h;obtain ⟨u,rfl,rx⟩:=vals1 r;have hl:=QhX;have hs:sizeLine=16777216:=sizeLine_eq
 cases x with
 | str y =>
  obtain ⟨t,rfl⟩:=rx;obtain ⟨hy,e'⟩:y.length≤sizeLine∧n=y.length:=e;subst e';exact len_str (by omega) ⟨.int _,H,I.tok _,⟨_,rfl⟩,q⟩
 | byt y =>
  obtain ⟨t,rfl⟩:=rx;obtain ⟨hy,e'⟩:y.size≤sizeLine∧n=y.size:=e;subst e';exact PySem.W.len_bytes (by omega) ⟨.int _,H,I.tok _,⟨_,rfl⟩,q⟩
 | ref p =>
  cases rx;have e':(∃xs,SqL X.K H p xs∧n=xs.length)∨∃xs,SqT X.K H p xs∧n=xs.length:=e
  rcases e' with ⟨xs,hx,e'⟩ | ⟨xs,hx,e'⟩
  ·subst e';obtain ⟨its,r',pl,hz⟩:=I.list hx;have hlen:=r'.length;exact Calls.call_len_list pl.isList (by simp only [zn]; omega) ⟨.int xs.length,H,I.tok _,⟨_,by simp only [zn]; rw [hlen]⟩,q⟩
  ·subst e';obtain ⟨its,r',pl,hz⟩:=I.tuple hx;have hlen:=r'.length;exact len_tuple pl (by simp only [zn]; omega) ⟨.int xs.length,H,I.tok _,⟨_,by simp only [zn]; rw [hlen]⟩,q⟩
 | _=>exact (show False from e).elim
end
structure QiC (h:Heap) (x dx C:Addr) (mA:Str→Option Value):Prop where
 obj:h.get? x=some (PySem.W.instObj C dx)
 ns:h.Ns1 dx mA
 ne:dx≠x
theorem QjR {h:Heap}{dx:Addr}{mA:Str→Option Value} (n:h.Ns1 dx mA):∃od,h.get? dx=some od∧∀name,PySem.W.lookIn name od=some (mA name):=by
 obtain ⟨o,es,ep,ho,hd,hk,_,hm⟩:=n;refine ⟨o,ho,fun name=>?_⟩;have e:=hm name;unfold nsFind findBy at e;rw [←Array.find?_toList] at e;unfold PySem.W.lookIn;rw [hd];dsimp only
 split
 ·rename_i y q;rw [q] at e;exact congrArg some e
 ·rename_i q;rw [q] at e
  have a:es.toList.any (·.refKey)=false:=by
   rw [List.any_eq_false];intro y hy;obtain ⟨z,t,hkey⟩:=hk y (Array.mem_toList_iff.mp hy);simp [DictEntry.refKey,hkey]
  have a':¬es.toList.any (·.refKey)=true:=by rw [a]; exact zg
  rw [if_neg a'];exact congrArg some e
theorem QiC.look {h:Heap}{x dx C:Addr}{mA:Str→Option Value} (I:QiC h x dx C mA):∃od,PySem.W.InstAt h x (PySem.W.instObj C dx) C (some od)∧∀name,PySem.W.lookIn name od=some (mA name) :=
 let ⟨od,ho,hl⟩:=QjR I.ns
 ⟨od,⟨I.obj,rfl,rfl,ho⟩,hl⟩
section
variable {prog:Program}{w:World}{A:Around}{E:Value→Shared→Prop}{s:Shared}{K:PySem.W.Frag}{x dx C f:Addr}{mA:Str→Option Value}{name:Str}{v:Value}
theorem QqR {expr:Bool}{Q:Value→Shared→Prop} (X:K.In s.heap) (I:QiC s.heap x dx C mA) (hg:PySem.W.plainGet K C name=true) (hh:PySem.W.hasDictIn K C=true)
  (ha:PySem.W.findIn K (.ref C) name=some none) (hv:mA name=some v) (hv':PySem.W.handedIn v=true) (h:Q v { s with toks:=s.toks+1 }) :
  wpAny (model prog w) A (getAttr (.ref x) name expr) Q E s:=by
 obtain ⟨od,J,hl⟩:=I.look;exact PySem.W.get_value X J (PySem.W.plainGet_of hg).1 (PySem.W.findObj_own hh ha rfl (by rw [hl,hv])) hv' h
theorem Qpu {pl:Sem Bool}{Q:Value×List Value→Shared→Prop} (X:K.In s.heap) (I:QiC s.heap x dx C mA) (hg:PySem.W.plainGet K C name=true)
  (hf:PySem.W.findIn K (.ref C) name=some (some (.ref f))) (ht:PySem.W.isFn K (.ref f)=true) (hv:mA name=none) (h:Q (.ref f,[.ref x]) s) :
  wpAny (model prog w) A (getMethod (.ref x) name pl) Q E s:=by
 obtain ⟨od,J,hl⟩:=I.look;exact PySem.W.method_fn X J (PySem.W.plainGet_of hg).1 (PySem.W.plainGet_of hg).2 hf (beq_iff_eq.mp ht) (by show (PySem.W.lookIn name od).map (·.isSome)=some false; rw [hl,hv]; rfl) h
theorem QrZ {ns:List Str}{Q:Unit→Shared→Prop} (X:K.In s.heap) (I:QiC s.heap x dx C mA)
  (hs:PySem.W.findIn K (.ref C) "__setattr__" = some (some (.builtin "object.__setattr__"))) (hp:PySem.W.plainOver K C=true) (ht:PySem.W.takerIn K C name=some none) (hh:PySem.W.hasDictIn K C=true)
  (hw:PySem.Within mA ns) (hsz:ns.length≤sizeLine)
  (h:∀h',QiC h' x dx C (fun y=>if y=name then some v else mA y)→Heap.SameBut dx s.heap h'→Q () { s with heap:=h',toks:=s.toks+2 }) :
  wpAny (model prog w) A (setAttr (.ref x) name v) Q E s:=by
 obtain ⟨od,J,hl⟩:=I.look;refine PySem.W.set_plain X J hs (PySem.W.osa_open (s:={ s with toks:=s.toks+1 }) (r:=none) X J hp ht fun b=>?_);obtain ⟨cd,hc,hd'⟩:=PySem.W.any_some hh;have hx:s.heap.get? x=some ⟨.ref C,some dx,.plain,#[]⟩:=I.obj;refine za (zb (za (za (wpAny_loadPart hx (za (PySem.W.Looks.here (s:={ s with toks:=s.toks+1 }) (PySem.W.looks_clsIn X hc) ?_))))));rw [hd'];refine zb (a:=some dx) (za (zb (za ?_)))
 refine wpAny_nsSet1 (s:={ s with toks:=s.toks+1 }) I.ns fun h' hn2 hs2=>?_
 obtain ⟨oD,esD,epD,hoD,hdD,hcD⟩:=hn2.count (PySem.Within.cons name v hw);refine za (wpAny_lookBehind hoD (by rw [hdD]; exact pastItsLine_dict (zt hcD (by rw [zq]; omega))) ?_);exact zb (h _ ⟨(hs2.2 _ (Ne.symm I.ne)).trans I.obj,hn2,I.ne⟩ hs2)
theorem Qpp {R:Result→Shared→Prop}{vs:List Value}{kw:List (Str×Value)} (X:K.In s.heap) (hm:PySem.W.makesIn K C=true)
  (hi:PySem.W.findIn K (.ref C) "__init__" = some (some (.ref f))) (hf:PySem.W.typeIn K (.ref f)=some (.type "function"))
  (h:codeAny (model prog w) (A.under (.builtin "type.__call__" ⟨.ref C::vs,kw⟩)) (.call (.ref f) ⟨.ref (s.heap.objs.size+1)::vs,kw⟩) (PySem.W.InitBack (s.heap.objs.size+1) R)
   { s with heap:=(s.heap.push PySem.W.emptyDict).push (PySem.W.instObj C s.heap.objs.size) }) :
  codeAny (model prog w) A (.call (.ref C) ⟨vs,kw⟩) R s:=by
 obtain ⟨hh,g,d,t,os⟩:=s;exact PySem.W.make_core (PySem.W.makes_of X hm) (PySem.W.looks_findIn X hi) (fun self=>PySem.W.bind_fn X self hf) (.inl rfl) h
end
def QcV (f:Str) (v:V):List (Str×V)→List (Str×V)
 | []=>[(f,v)]
 | (g,x)::r=>if g=f then (g,v)::r else (g,x)::QcV f v r
theorem Qik (f g:Str) (v:V):∀fs:List (Str×V),(QcV f v fs).lookup g=if g=f then some v else fs.lookup g
 | []=>by
  show List.lookup g [(f,v)]=_
  by_cases h:g=f
  ·have hb:(g == f)=true:=beq_iff_eq.mpr h;simp only [List.lookup,hb,if_pos h]
  ·have hb:(g == f)=false:=beq_eq_false_iff_ne.mpr h;simp only [List.lookup,hb,if_neg h]
 | (k,x)::r=>by
  have ih:=Qik f g v r;rw [show QcV f v ((k,x)::r)=(if k=f then (k,v)::r else (k,x)::QcV f v r) from rfl]
  by_cases hk:k=f
  ·rw [if_pos hk]
   by_cases h:g=k
   ·have hb:(g == k)=true:=beq_iff_eq.mpr h;simp only [List.lookup,hb,if_pos (h.trans hk)]
   ·have hb:(g == k)=false:=beq_eq_false_iff_ne.mpr h;simp only [List.lookup,hb,if_neg (fun e:g=f=>h (e.trans hk.symm))]
  ·rw [if_neg hk]
   by_cases h:g=k
   ·have hb:(g == k)=true:=beq_iff_eq.mpr h;simp only [List.lookup,hb,if_neg (fun e:g=f=>hk (h.symm.trans e))]
   ·have hb:(g == k)=false:=beq_eq_false_iff_ne.mpr h;simp only [List.lookup,hb];exact ih
theorem Qhz (f:Str) (v:V):∀fs:List (Str×V),f∈(QcV f v fs).map (·.1)∧∀g,g∈fs.map (·.1)→g∈(QcV f v fs).map (·.1)
 | []=>⟨by simp [QcV],fun g h=>by simp at h⟩
 | (k,x)::r=>by
  obtain ⟨i1,i2⟩:=Qhz f v r;rw [show QcV f v ((k,x)::r)=(if k=f then (k,v)::r else (k,x)::QcV f v r) from rfl]
  by_cases hk:k=f
  ·rw [if_pos hk];subst hk;exact ⟨by simp,fun g h=>by simpa using h⟩
  ·rw [if_neg hk];refine ⟨?_,fun g h=>?_⟩
   ·rw [ze];exact zu _ i1
   ·rw [ze] at h ⊢
    rcases zj.mp h with e | e
    ·exact zj.mpr (.inl e)
    ·exact zu _ (i2 g e)
theorem Qii (f:Str) (v:V):∀fs:List (Str×V),(QcV f v fs).length≤fs.length+1
 | []=>by simp [QcV]
 | (k,x)::r=>by
  have ih:=Qii f v r;rw [show QcV f v ((k,x)::r)=(if k=f then (k,v)::r else (k,x)::QcV f v r) from rfl]
  by_cases hk:k=f
  ·rw [if_pos hk,zq,zq]; omega
  ·rw [if_neg hk,zq,zq]; omega
theorem Qc4.some_of {v:V}{o:Option Value} (r:Qc4 (some v) o):∃u,o=some u∧RelV v u:=by
 cases o with
 | none=>exact (show False from r).elim
 | some u=>exact ⟨u,rfl,r⟩
theorem Qc4.none_of {o:Option Value} (r:Qc4 none o):o=none:=by
 cases o with
 | none=>rfl
 | some u=>exact (show False from r).elim
theorem Qj7 {v:V}{u:Value} (r:RelV v u):PySem.W.handedIn u=true:=by
 cases v with
 | non=>cases (show u=Value.none from r); rfl
 | bl b=>cases (show u=Value.bool b from r); rfl
 | int i=>obtain ⟨t,e⟩:=(show ∃t,u=Value.int i t from r); cases e; rfl
 | str x=>obtain ⟨t,e⟩:=(show ∃t,u=Value.str x t from r); cases e; rfl
 | byt b=>obtain ⟨t,e⟩:=(show ∃t,u=Value.bytes b t from r); cases e; rfl
 | flt b=>obtain ⟨t,e⟩:=(show ∃t,u=Value.float b t from r); cases e; rfl
 | ref a=>cases (show u=Value.ref a from r); rfl
 | ty n=>cases (show u=Value.type n from r); rfl
section
variable {P:Program}{w:World}{H H':Hp}{h h':Heap}{a C dx:Addr}{fs fs':List (Str×V)}
theorem Qh1 (hok:HOk P w H h) (e:H a=some (.ins C dx fs)):∃mA,QiC h a dx C mA∧(∀f,Qc4 (fs.lookup f) (mA f))∧PySem.Within mA (fs.map (·.1))∧fs.length≤1000∧H dx=some (.own a):=by
 obtain ⟨d,z,ne,ob,mA,n,r,q⟩:=(show QbL P w H h a (.ins C dx fs) from hok a _ e);exact ⟨mA,⟨ob,n,ne⟩,r,q,z,d⟩
end
structure Cls (K:PySem.W.Frag) (C:Addr):Prop where
 pg:PySem.W.plainGet K C Str.empty=true
 hd:PySem.W.hasDictIn K C=true
 po:PySem.W.plainOver K C=true
 sa:PySem.W.findIn K (.ref C) "__setattr__" = some (some (.builtin "object.__setattr__"))
theorem Cls.get {K:PySem.W.Frag}{C:Addr} (c:Cls K C) (f:Str):PySem.W.plainGet K C f=true:=c.pg
def Qfm (K:PySem.W.Frag) (C:Addr) (f:Str):Prop:=PySem.W.findIn K (.ref C) f=some none
theorem Qfm.taker {K:PySem.W.Frag}{C:Addr}{f:Str} (n:Qfm K C f):PySem.W.takerIn K C f=some none:=by
 unfold PySem.W.takerIn;rw [show PySem.W.findIn K (.ref C) f=some none from n];rfl
structure Con (K:PySem.W.Frag) (C:Addr) (f:Str) (v:V) (u:Value):Prop where
 at_:PySem.W.findIn K (.ref C) f=some (some u)
 rel:RelV v u
 get:PySem.W.specialIn K u "__get__" = some none
 cp:PySem.W.copiedNames.contains f=false
structure QiF (K:PySem.W.Frag) (C:Addr) (m:Str) (f:Addr):Prop where
 at_:PySem.W.findIn K (.ref C) m=some (some (.ref f))
 fn:PySem.W.isFn K (.ref f)=true
 kp:PySem.W.keepIn K (.ref f)=true
section
variable {X:Cx}{pins:List (Addr×Obj)}{σ:St}{H:Hp}{s:Shared}{a C dx:Addr}{fs:List (Str×V)}{f:Str}{v:V}{A:Around}{E:Value→Shared→Prop}
theorem QmY {b:Bool}{Q:Value→Shared→Prop} (I:Inv X pins σ H s) (e:H a=some (.ins C dx fs)) (c:Cls X.K C) (n:Qfm X.K C f) (l:fs.lookup f=some v)
  (h:∀u s',Inv X pins σ H s'→RelV v u→Q u s'):wpAny (model X.prog X.w) A (getAttr (.ref a) f b) Q E s:=by
 obtain ⟨mA,O,r,_,_,_⟩:=Qh1 I.hok e;obtain ⟨u,hu,ru⟩:=Qc4.some_of (v:=v) (o:=mA f) (by rw [←l]; exact r f);exact QqR I.kIn O (c.get f) c.hd n hu (Qj7 ru) (h u _ (I.tok _) ru)
theorem Qjd {m:Str}{g:Addr}{pl:Sem Bool}{Q:Value×List Value→Shared→Prop} (I:Inv X pins σ H s) (e:H a=some (.ins C dx fs)) (c:Cls X.K C) (k:QiF X.K C m g) (l:fs.lookup m=none)
  (h:Q (.ref g,[.ref a]) s):wpAny (model X.prog X.w) A (getMethod (.ref a) m pl) Q E s:=by
 obtain ⟨mA,O,r,_,_,_⟩:=Qh1 I.hok e;have hn:mA m=none:=Qc4.none_of (by rw [←l]; exact r m);exact Qpu I.kIn O (c.get m) k.at_ k.fn hn h
theorem Qm6 {y:V}{u:Value}{Q:Unit→Shared→Prop} (I:Inv X pins σ H s) (e:H a=some (.ins C dx fs)) (c:Cls X.K C) (n:Qfm X.K C f) (hl:fs.length < 1000) (ry:RelV y u)
  (h:∀s',Inv X pins σ (upd H a (.ins C dx (QcV f y fs))) s'→Q () s'):wpAny (model X.prog X.w) A (setAttr (.ref a) f u) Q E s:=by
 obtain ⟨mA,O,r,wi,_,ho⟩:=Qh1 I.hok e
 have hz:(fs.map (·.1)).length≤sizeLine:=by rw [zI,sizeLine_eq]; omega
 refine QrZ I.kIn O c.sa c.po n.taker c.hd wi hz fun h' O' sb=>h _ ?_
 have hd:∃o,h'.get? dx=some o:=let ⟨o,_,_,e',_⟩:=O'.ns; ⟨o,e'⟩;refine I.write (x:=a) (e:=dx) (by rw [e]; exact True.intro) (.inr ho) (fun b q hb z=>(sb.2 b hb).trans z) hd ?_;refine ⟨by rw [Qan O.ne]; exact ho,?_,O.ne,O'.obj,_,O'.ns,fun g=>?_,fun g hg=>?_⟩
 ·have:=Qii f y fs; omega
 ·show Qc4 ((QcV f y fs).lookup g) (if g=f then some u else mA g);rw [Qik]
  by_cases q:g=f
  ·rw [if_pos q,if_pos q]; exact ry
  ·rw [if_neg q,if_neg q]; exact r g
 ·by_cases q:g=f
  ·rw [q]; exact (Qhz f y fs).1
  ·refine (Qhz f y fs).2 g (wi g fun z=>hg ?_);show (if g=f then some u else mA g)=none;rw [if_neg q]; exact z
theorem Inv.made (I:Inv X pins σ H s):Inv X pins σ (upd (upd H s.heap.objs.size (.own (s.heap.objs.size+1))) (s.heap.objs.size+1) (.ins C s.heap.objs.size []))
  { s with heap:=(s.heap.push PySem.W.emptyDict).push (PySem.W.instObj C s.heap.objs.size) }:=by
 have e1:(s.heap.push PySem.W.emptyDict).get? s.heap.objs.size=some PySem.W.emptyDict:=zD s.heap rfl
 have e2:((s.heap.push PySem.W.emptyDict).push (PySem.W.instObj C s.heap.objs.size)).get? (s.heap.objs.size+1)=some (PySem.W.instObj C s.heap.objs.size):=by
  have:=zD (s.heap.push PySem.W.emptyDict) (o:=PySem.W.instObj C s.heap.objs.size) rfl
  rwa [Heap.size_push] at this
 have e3:(s.heap.push PySem.W.emptyDict).Ns s.heap.objs.size (fun _=>none):=⟨PySem.W.emptyDict,#[],_,e1,rfl,(fun e he=>absurd he (by simp)),fun _=>rfl⟩;have I1:=I.laid (a:=s.heap.objs.size) (o:=.own (s.heap.objs.size+1)) (h':=s.heap.push PySem.W.emptyDict) (t':=s.toks) (fun b u q=>zh _ q) (zc _) ⟨_,e1⟩;refine I1.laid (a:=s.heap.objs.size+1) (o:=.ins C s.heap.objs.size []) (t':=s.toks) (fun b u q=>zh _ q) (Nat.le_of_eq (Heap.size_push _ _)) ?_;have ne:s.heap.objs.size≠s.heap.objs.size+1:=zk (zW _);refine ⟨by rw [Qan ne,QaD],Nat.zero_le _,ne,e2,fun _=>none,(Heap.Ns1.of_empty e3).at fun o q=>zh _ q,fun _=>True.intro,fun y hy=>absurd rfl hy⟩
theorem QlX {prog:Program}{w:World}{env:Env}{e:Expr}{f:Str}{pos:Pos}{s:Shared}{Q:Value→Shared→Prop} (hb:attributeBase e f env (eval e env)=eval e env)
  (h:wpAny (model prog w) A (eval e env) (fun o s₁=>wpAny (model prog w) A (getAttr o f true) Q E s₁) E s):wpAny (model prog w) A (eval (.Attribute e f pos) env) Q E s :=
 Attribute_any_ h (by rw [arm_eval_Attribute,hb])
end
def Qve (K:PySem.W.Frag) (ta:TE) (f:Str):TE:=fun σ H Q=>ta σ H fun x H1=>∃a C dx fs v,x = .ref a∧H1 a=some (.ins C dx fs)∧Cls K C∧Qfm K C f∧fs.lookup f=some v∧Q v H1
def Qu7 (K:PySem.W.Frag) (ta tv:TE) (f:Str):TS:=fun D σ H=>tv σ H fun y H1=>ta σ H1 fun x H2=>∃a C dx fs,x = .ref a∧H2 a=some (.ins C dx fs)∧Cls K C∧Qfm K C f∧fs.length < 1000 ∧
 D.nx σ (upd H2 a (.ins C dx (QcV f y fs)))
section
variable {X:Cx}{o e value:Expr}{f:Str}{pos pos' tpos:Pos}{ta tv:TE}
theorem QtE (he:PE X e ta) (hb:attributeBase e f X.env (eval e X.env)=eval e X.env):PE X (.Attribute e f pos) (Qve X.K ta f):=by
 intro pins s σ H Q I h;refine QlX hb (thn (he pins s σ H _ I h) fun u s1 ⟨x,H1,I1,rx,a,C,dx,fs,v,ex,ea,c,n,l,q⟩=>?_);subst ex;obtain rfl:u=Value.ref a:=rx
 exact QmY I1 ea c n l fun u' s2 I2 ru=>⟨v,H1,I2,ru,q⟩
theorem QsW (ha:PE X o ta) (hv:PE X value tv) (hs:swapsWith value (some (.Attribute o f pos')) pos.line X.env=pure false):PS X (.Assign [.Attribute o f pos'] value pos) (Qu7 X.K ta tv f):=by
 intro pins s σ H D I h;refine plainObj_wpAny_Assign_Attribute (thn (hv pins s σ H _ I h) fun u s1 ⟨y,H1,I1,ry,q⟩=>thn (ha pins s1 σ H1 _ I1 q) fun ov s2 ⟨x,H2,I2,rx,a,C,dx,fs,ex,ea,c,n,l,q2⟩=>?_) hs;subst ex;obtain rfl:ov=Value.ref a:=rx
 exact Qm6 I2 ea c n l ry fun s3 I3=>⟨σ,_,I3,q2⟩
end
section
variable {X:Cx}{pins:List (Addr×Obj)}{σ:St}{H:Hp}{s:Shared}{A:Around}{E:Value→Shared→Prop}{Q:Value→Shared→Prop}{c:Value}{b:Bool}
inductive Qe7 (K:PySem.W.Frag) (H:Hp):V→Value→Prop where
 | non:Qe7 K H .non (.type "NoneType")
 | bl (x:Bool):Qe7 K H (.bl x) (.type "bool")
 | int (i:Int):Qe7 K H (.int i) (.type "int")
 | str (x:Str):Qe7 K H (.str x) (.type "str")
 | flt (x:UInt64):Qe7 K H (.flt x) (.type "float")
 | lst {a:Addr}{xs:List V} (e:H a=some (.lst xs)):Qe7 K H (.ref a) (.type "list")
 | frz {a:Addr}{o:Obj}{xs:List V} (e:H a=some (.frz o (.lst xs))):Qe7 K H (.ref a) (.type "list")
 | tup {a:Addr}{xs:List V} (e:H a=some (.tup xs)):Qe7 K H (.ref a) (.type "tuple")
 | dK {a:Addr}{kvs:List (Key×V)} (e:H a=some (.dK kvs)):Qe7 K H (.ref a) (.type "dict")
 | dT {a:Addr}{kvs:List (List Key×V)} (e:H a=some (.dT kvs)):Qe7 K H (.ref a) (.type "dict")
 | ins {a C dx:Addr}{fs:List (Str×V)} (e:H a=some (.ins C dx fs)) (cl:Cls K C) (ha:PySem.W.findIn K (.ref C) "__class__" = some (some (.builtin "object.__class__")))
   (hn:PySem.W.specialIn K (.builtin "object.__class__") "__get__" = some (some (.builtin "getset_descriptor.__get__"))) (htk:PySem.W.takesIn K (.builtin "object.__class__")=some true)
   (hm:PySem.W.mroIn K C (.type "object")=some true):Qe7 K H (.ref a) (.ref C)
theorem QeN {x:V}{u t:Value} (I:Inv X pins σ H s) (rx:RelV x u) (ty:Qe7 X.K H x t) (e:PySem.W.kitOne X.K t c=some b) (h:∀tk,Q (.bool b) { s with toks:=tk }) :
  wpAny (model X.prog X.w) A (call (.builtin "isinstance") [u,c]) Q E s:=by
 cases ty with
 | non=>cases (show u=Value.none from rx); exact PySem.W.kia_one PySem.W.kitx_none I.kIn True.intro e (fun z=>nomatch z) h
 | bl y=>cases (show u=Value.bool y from rx); exact PySem.W.kia_one PySem.W.kitx_bool I.kIn True.intro e (fun z=>nomatch z) h
 | int i=>obtain ⟨t,q⟩:=(show ∃t,u=Value.int i t from rx); cases q; exact PySem.W.kia_one PySem.W.kitx_int I.kIn True.intro e (fun z=>nomatch z) h
 | str y=>obtain ⟨t,q⟩:=(show ∃t,u=Value.str y t from rx); cases q; exact PySem.W.kia_one PySem.W.kitx_str I.kIn True.intro e (fun z=>nomatch z) h
 | flt y=>obtain ⟨t,q⟩:=(show ∃t,u=Value.float y t from rx); cases q; exact PySem.W.kia_one PySem.W.kitx_float I.kIn True.intro e (fun z=>nomatch z) h
 | @lst a xs ea =>
  cases (show u=Value.ref a from rx);obtain ⟨_,_,n,_,h1⟩:=(show QbL X.prog X.w H s.heap a (.lst xs) from I.hok a _ ea);exact PySem.W.kia_one PySem.W.kitx_list I.kIn ⟨_,h1,rfl⟩ e (fun z=>nomatch z) h
 | @frz a ob xs ea =>
  cases (show u=Value.ref a from rx);obtain ⟨_,_,_,n,_,h1⟩:=(show QbL X.prog X.w H s.heap a (.frz ob (.lst xs)) from I.hok a _ ea);exact PySem.W.kia_one PySem.W.kitx_list I.kIn ⟨_,h1,rfl⟩ e (fun z=>nomatch z) h
 | @tup a xs ea =>
  cases (show u=Value.ref a from rx);obtain ⟨_,_,_,p⟩:=(show QbL X.prog X.w H s.heap a (.tup xs) from I.hok a _ ea);obtain ⟨o,h1,h2,_⟩:=p;exact PySem.W.kia_one PySem.W.kitx_tuple I.kIn ⟨o,h1,h2⟩ e (fun z=>nomatch z) h
 | @dK a kvs ea =>
  cases (show u=Value.ref a from rx);obtain ⟨_,_,vs,_,p⟩:=(show QbL X.prog X.w H s.heap a (.dK kvs) from I.hok a _ ea);obtain ⟨o,es,ep,h1,h2,_⟩:=p;exact PySem.W.kia_one PySem.W.kitx_dict I.kIn ⟨o,h1,h2.1⟩ e (fun z=>nomatch z) h
 | @dT a kvs ea =>
  cases (show u=Value.ref a from rx);obtain ⟨_,_,xs,_,o,es,ep,h1,h2,_⟩:=(show QbL X.prog X.w H s.heap a (.dT kvs) from I.hok a _ ea);exact PySem.W.kia_one PySem.W.kitx_dict I.kIn ⟨o,h1,h2.1⟩ e (fun z=>nomatch z) h
 | @ins a C dx fs ea cl ha hn htk hm =>
  cases (show u=Value.ref a from rx);obtain ⟨mA,O,_⟩:=Qh1 I.hok ea;obtain ⟨od,J,_⟩:=O.look;exact PySem.W.kia_one (PySem.W.kitx_own (cl.get _) cl.hd ha hn htk hm) I.kIn J e (fun z=>nomatch z) h
end
structure QaJ (k:Nat) (A:Around):Prop where
 hd:A.handled=none
 dp:A.depth+3 * k+5 < recursionLimit
 un:A.units+16 * k+200 < cLine
theorem QaJ.mono {j k:Nat}{A:Around} (r:QaJ k A) (h:j≤k):QaJ j A:=⟨r.hd,by have:=r.dp; omega,by have:=r.un; omega⟩
theorem QaJ.deeper {k:Nat}{A:Around} (r:QaJ (k+1) A) (env:Env):QaJ k (A.deeper env) :=
 ⟨r.hd,by have:=r.dp; show A.depth+1+3 * k+5 < _; omega,by have:=r.un; show A.units+3+16 * k+200 < _; omega⟩
theorem QaJ.in1 {k:Nat}{A:Around} (r:QaJ (k+1) A):QaJ k A.in1 :=
 ⟨r.hd,by have:=r.dp; show A.depth+3 * k+5 < _; omega,by have:=r.un; show A.units+1+16 * k+200 < _; omega⟩
theorem QmH {A:Around}{C:Addr}{us:List Value}{kw:List (Str×Value)}:(A.under (.builtin "type.__call__" ⟨.ref C::us,kw⟩)).depth=A.depth+1:=by
 first | rfl | simp [Around.under,Code.weight,Code.isCreation,Code.isGuard,Code.isCaller,Code.frames,Code.isFrame,guardIds]
theorem QmP {A:Around}{C:Addr}{us:List Value}{kw:List (Str×Value)}:(A.under (.builtin "type.__call__" ⟨.ref C::us,kw⟩)).units=A.units+1:=by
 first | rfl | simp [Around.under,Code.cUnits,Code.frames,Code.isFrame]
theorem QaJ.make {k:Nat}{A:Around} (r:QaJ (k+1) A) (C:Addr) (us:List Value) (kw:List (Str×Value)):QaJ k (A.under (.builtin "type.__call__" ⟨.ref C::us,kw⟩)) :=
 ⟨r.hd,by have:=r.dp; rw [QmH]; omega,by have:=r.un; rw [QmP]; omega⟩
theorem QaJ.depth {k:Nat}{A:Around} (r:QaJ k A):A.depth < recursionLimit:=by have:=r.dp; omega
theorem QaJ.units {k:Nat}{A:Around} (r:QaJ k A):A.units+64 < cLine:=by have:=r.un; omega
def Qkz:TA:=fun _ H Q=>Q [] H
def Qup (ta:TE) (tr:TA):TA:=fun σ H Q=>ta σ H fun x H1=>tr σ H1 fun xs H2=>Q (x::xs) H2
section
variable {X:Cx}{e:Expr}{es:List Expr}{te:TE}{t:TA}{pos:Pos}
theorem Qcg:PA X [] Qkz:=fun _ _ _ _ H Q I h=>Calls.spliced_nil ⟨[],H,I,.nil,h⟩
theorem QbB (ha:PE X e te) (hr:PA X es t) (hs:starEach (e::es) X.env=(false,eval e X.env)::starEach es X.env:=by rfl):PA X (e::es) (Qup te t):=by
 intro pos pins s σ H Q I h;rw [hs];show wpAny _ _ (spliced ((false,eval e X.env)::backTo pos (starEach es X.env))) _ _ s;refine Calls.spliced_cons (thn (ha pins s σ H _ I h) fun u s1 ⟨x,H1,I1,r1,q1⟩=>?_)
 exact thn (hr pos pins s1 σ H1 _ I1 q1) fun us s2 ⟨xs,H2,I2,r2,q2⟩=>⟨x::xs,H2,I2,.cons r1 r2,q2⟩
def QuZ (t:TA):TE:=fun σ H Q=>t σ H fun xs H1=>xs.length≤sizeLine∧∀p,H1 p=none→Q (.ref p) (upd H1 p (.tup xs))
def QuQ (t:TA):TE:=fun σ H Q=>t σ H fun xs H1=>xs.length≤sizeLine∧∀p,H1 p=none→Q (.ref p) (upd H1 p (.lst xs))
theorem Qnm {x1} (h:PA X es t):PE X (.Tuple es x1 pos) (QuZ t):=by
 intro pins s σ H Q I hq;refine wpAny_Tuple_spliced (thn (h pos pins s σ H _ I hq) fun us s1 ⟨xs,H1,I1,r,z,q⟩=>⟨by rw [←r.length]; exact z,?_⟩);have hf:H1 s1.heap.objs.size=none:=I1.hok.fresh (zc _);refine ⟨.ref s1.heap.objs.size,upd H1 s1.heap.objs.size (.tup xs),I1.laid (t':=s1.toks) (fun b u e=>zh _ e) (zc _) ?_,rfl,q _ hf⟩;exact ⟨z,us,r,⟨_,zD _ rfl,rfl,_,rfl⟩⟩
theorem QtL (h:PA X es t):PE X (.List es pos) (QuQ t):=by
 intro pins s σ H Q I hq;refine wpAny_List_spliced (thn (h pos pins s σ H _ I hq) fun us s1 ⟨xs,H1,I1,r,z,q⟩=>⟨by rw [←r.length]; exact z,?_⟩);have hf:H1 s1.heap.objs.size=none:=I1.hok.fresh (zc _);refine ⟨.ref s1.heap.objs.size,upd H1 s1.heap.objs.size (.lst xs),I1.laid (t':=s1.toks) (fun b u e=>zh _ e) (zc _) ?_,rfl,q _ hf⟩;exact ⟨z,us,0,r,zD _ rfl⟩
end
abbrev Sp:=List V→Hp→VK→XK→Prop
abbrev CXT:=List Env→Hp→Shared→XK→Value→Shared→Prop
structure QdO (P:Program) (w:World) (K:PySem.W.Frag) (mg:Str→Option Value) (base:Heap) (A:Around) (outer:List Env) (s:Shared) (H:Hp):Prop where
 frames:A.frames=some outer
 mod:Mod K mg base
 bs:∀b o,base.get? b=some o→s.heap.get? b=some o∧H b=none
 bsz:base.objs.size≤s.heap.objs.size
 funs:s.heap.FunFrames base outer
 frf:∀b∈frs outer,H b=none
 hok:HOk P w H s.heap
 bare:AllBare s.gens
def CE (outer:List Env) (P:Program) (w:World) (H:Hp) (s:Shared) (Q:VK) (u:Value) (s':Shared):Prop :=
 ∃v H',s'.os=s.os∧AllBare s'.gens∧Un (frs outer) [] H H' s.heap s'.heap∧HOk P w H' s'.heap∧RelV v u∧Q v H'
def CR (CX:CXT) (outer:List Env) (P:Program) (w:World) (H:Hp) (s:Shared) (Q:VK) (E:XK) (r:Result) (s':Shared):Prop :=
 match r with
 | .ok (.ret u)=>CE outer P w H s Q u s'
 | .ok _=>False
 | .error e=>CX outer H s E e s'
structure Qby (P:Program) (w:World) (K:PySem.W.Frag) (mg:Str→Option Value) (base:Heap) (CX:CXT) (k:Nat) (f:Addr) (fd:FuncData) (ps:List Str) (sp:Sp):Prop where
 len:∀vs H Q E,sp vs H Q E→vs.length=ps.length
 run:∀(A:Around) (outer:List Env) (s:Shared) (H:Hp) (args:Args) (us:List Value) (vs:List V) (Q:VK) (E:XK),QaJ k A→QdO P w K mg base A outer s H→BindsTo s fd args (ps.zip us)→QaC vs us→sp vs H Q E →
  codeAny (model P w) A (.call (.ref f) args) (CR CX outer P w H s Q E) s
theorem Qby.mono {P:Program}{w:World}{K:PySem.W.Frag}{mg:Str→Option Value}{base:Heap}{CX:CXT}{j k:Nat}{f:Addr}{fd:FuncData}{ps:List Str}{sp:Sp} (F:Qby P w K mg base CX j f fd ps sp) (h:j≤k) :
  Qby P w K mg base CX k f fd ps sp:=⟨F.len,fun A outer s H args us vs Q E hr=>F.run A outer s H args us vs Q E (hr.mono h)⟩
theorem Qby.imp {P:Program}{w:World}{K:PySem.W.Frag}{mg:Str→Option Value}{base:Heap}{CX:CXT}{k:Nat}{f:Addr}{fd:FuncData}{ps:List Str}{sp sp':Sp} (F:Qby P w K mg base CX k f fd ps sp)
  (h:∀vs H Q E,sp' vs H Q E→sp vs H Q E):Qby P w K mg base CX k f fd ps sp' :=
 ⟨fun vs H Q E q=>F.len vs H Q E (h _ _ _ _ q),fun A outer s H args us vs Q E hr he hb hv hs=>F.run A outer s H args us vs Q E hr he hb hv (h _ _ _ _ hs)⟩
theorem QdO.make {P:Program}{w:World}{K:PySem.W.Frag}{mg:Str→Option Value}{base:Heap}{A:Around}{outer:List Env}{s:Shared}{H:Hp} (e:QdO P w K mg base A outer s H) (C:Addr) (us:List Value) (kw:List (Str×Value)) :
  QdO P w K mg base (A.under (.builtin "type.__call__" ⟨.ref C::us,kw⟩)) outer s H:=⟨by first | exact e.frames | (simpa [Around.under,Code.envs,Code.isFrame,pushEnvs] using e.frames),e.mod,e.bs,e.bsz,e.funs,e.frf,e.hok,e.bare⟩
theorem QdO.in1 {P:Program}{w:World}{K:PySem.W.Frag}{mg:Str→Option Value}{base:Heap}{A:Around}{outer:List Env}{s:Shared}{H:Hp} (e:QdO P w K mg base A outer s H) :
  QdO P w K mg base A.in1 outer s H:=⟨e.frames,e.mod,e.bs,e.bsz,e.funs,e.frf,e.hok,e.bare⟩
section
variable {X:Cx}{pins:List (Addr×Obj)}{σ:St}{H:Hp}{s s':Shared}
theorem Inv.env0 (I:Inv X pins σ H s):QdO X.prog X.w X.K X.mg X.base X.A X.stack s H :=
 ⟨I.ok.frames,I.ok.mod,I.bs,zt I.ok.bsz I.sz,I.stack,I.stkFree,I.hok,I.bare⟩
theorem Inv.after {Q:VK}{u:Value} (I:Inv X pins σ H s) (h:CE X.stack X.prog X.w H s Q u s'):EP X pins σ Q u s':=by
 obtain ⟨v,H',os,bare,un,hok,r,q⟩:=h;obtain ⟨hh,g,d,t,os'⟩:=s';obtain rfl:os'=s.os:=os;exact ⟨v,H',I.call (h':=hh) (g':=g) (d':=d) (t':=t) (ch:=[]) un hok bare (fun b z=>absurd z (by simp)),r,q⟩
end
def Qib (sp:Sp) (dvs:List V) (E:XK) (t:TA):TE:=fun σ H Q=>t σ H fun vs H1=>sp (vs++dvs) H1 Q E
def Qkt (C:Addr) (m:Str) (sp:Sp) (dvs:List V) (E:XK) (ta:TE) (t:TA):TE:=fun σ H Q=>ta σ H fun x H1=>∃a dx fs,x = .ref a∧H1 a=some (.ins C dx fs)∧fs.lookup m=none ∧
 t σ H1 fun vs H2=>sp (x::(vs++dvs)) H2 Q E
def Qqf (C:Addr) (sp:Sp) (dvs:List V) (E:XK) (t:TA):TE:=fun σ H Q=>t σ H fun vs H1=>∀x dx,H1 x=none→H1 dx=none→dx≠x →
 sp (.ref x::(vs++dvs)) (upd (upd H1 dx (.own x)) x (.ins C dx [])) (fun v H2=>v = .non∧Q (.ref x) H2) E
def Binds (K:PySem.W.Frag) (fd:FuncData) (ps:List Str) (ds:List Value):Prop :=
 ∀(s:Shared) (us:List Value),K.In s.heap→(us++ds).length=ps.length→BindsTo s fd ⟨us,[]⟩ (ps.zip (us++ds))
theorem Binds.all {K:PySem.W.Frag}{fd:FuncData}{ps:List Str} (h:∀us:List Value,us.length=ps.length→bindArgs fd ⟨us,[]⟩=pure (ps.zip us)):Binds K fd ps []:=fun s us _ hl=>by
 rw [zx] at hl ⊢;exact .of_eq (h us hl)
def Qeo (CX:CXT) (X:Cx) (E:XK):Prop:=∀(pins:List (Addr×Obj)) (σ:St) (H:Hp) (s:Shared) (e:Value) (s':Shared),Inv X pins σ H s→CX X.stack H s E e s'→X.xe e s'
section
variable {X:Cx}{CX:CXT}{k:Nat}{f C:Addr}{fd:FuncData}{ps:List Str}{sp:Sp}{dvs:List V}{ds:List Value}{E:XK}{x m:Str}{p pos apos:Pos}{e o:Expr}{es:List Expr}{ta:TE}{t:TA}
theorem QiW {pins:List (Addr×Obj)}{σ:St}{H:Hp}{s:Shared}{Q:VK}{us:List Value}{vs:List V} (F:Qby X.prog X.w X.K X.mg X.base CX k f fd ps sp) (hr:QaJ k X.A) (hb:Binds X.K fd ps ds) (hd:QaC dvs ds) (hx:Qeo CX X E)
  (I:Inv X pins σ H s) (r:QaC vs us) (h:sp (vs++dvs) H Q E):wpAny (model X.prog X.w) X.A (call (.ref f) us) (EP X pins σ Q) X.xe s:=by
 have r2:QaC (vs++dvs) (us++ds):=r.append hd
 have hl:(us++ds).length=ps.length:=by rw [←r2.length]; exact F.len _ _ _ _ h
 refine zM (codeAny_mono (F.run X.A X.stack s H ⟨us,[]⟩ (us++ds) (vs++dvs) Q E hr I.env0 (hb s us I.kIn hl) r2 h) fun r s' hq=>?_)
 cases r with
 | error e=>exact hx pins σ H s e s' I hq
 | ok fl =>
  cases fl with
  | ret u=>exact I.after hq
  | next=>exact False.elim hq
  | brk=>exact False.elim hq
  | cont=>exact False.elim hq
theorem Ql0 (F:Qby X.prog X.w X.K X.mg X.base CX k f fd ps sp) (hr:QaJ k X.A) (hg:Gl X x) (hm:X.mg x=some (.ref f)) (hk:PySem.W.keepIn X.K (.ref f)=true) (hb:Binds X.K fd ps ds) (hd:QaC dvs ds) (hx:Qeo CX X E)
  (ha:PA X (e::es) t) (hdb:(x == ("__debug__":Str))=false:=by decide) (he:starEach (e::es) X.env=(false,eval e X.env)::starEach es X.env:=by rfl) (hpl:(backTo pos (starEach es X.env)).any (·.1)=false:=by rfl) :
  PE X (.Call (.Name x p) (e::es) [] pos) (Qib sp dvs E t):=by
 intro pins s σ H Q I h;refine wpAny_Call_Name_kw (Qc3 I hg hm ?_ hdb);refine PySem.W.callWith_K (h₀:=X.base) I.ok.mod.kin hk (thn (ha pos pins s σ H _ I h) fun us s1 ⟨vs,H1,I1,r,q⟩=>⟨I1.kIn,?_⟩) he hpl;exact QiW F hr hb hd hx I1 r q
theorem Qpq (F:Qby X.prog X.w X.K X.mg X.base CX k f fd ps sp) (hr:QaJ k X.A) (hg:Gl X x) (hm:X.mg x=some (.ref f)) (hk:PySem.W.keepIn X.K (.ref f)=true) (hb:Binds X.K fd ps ds) (hd:QaC dvs ds) (hx:Qeo CX X E)
  (hdb:(x == ("__debug__":Str))=false:=by decide):PE X (.Call (.Name x p) [] [] pos) (Qib sp dvs E Qkz):=by
 intro pins s σ H Q I h;refine wpAny_Call_Name_kw (Qc3 I hg hm ?_ hdb);exact PySem.W.callWith_K0 I.kIn hk (QiW (us:=[]) F hr hb hd hx I .nil h)
theorem QlV {pl:Sem Bool} (he:PE X o ta) (c:Cls X.K C) (hm:QiF X.K C m f) (F:Qby X.prog X.w X.K X.mg X.base CX k f fd ps sp) (hr:QaJ k X.A) (hb:Binds X.K fd ps ds) (hd:QaC dvs ds) (hx:Qeo CX X E) (ha:PA X (e::es) t)
  (hst:starEach (e::es) X.env=(false,eval e X.env)::starEach es X.env:=by rfl) (hpl:(backTo pos (starEach es X.env)).any (·.1)=false:=by rfl)
  (ht:eval (.Call (.Attribute o m apos) (e::es) [] pos) X.env=(do
   let ov ←eval o X.env
   standAt apos.atName
   let (f,first) ←holding [ov] (getMethod ov m pl)
   callWith pos f first (backTo pos (starEach (e::es) X.env)) (backToKw pos (keywordEach [] X.env))):=by rfl) :
  PE X (.Call (.Attribute o m apos) (e::es) [] pos) (Qkt C m sp dvs E ta t):=by
 intro pins s σ H Q I h;refine PySem.W.methodCall_KW (pl:=pl) (thn (he pins s σ H _ I h) fun u s1 ⟨x,H1,I1,rx,a,dx,fs,ex,ea,l,q⟩=>?_) ht;subst ex;obtain rfl:u=Value.ref a:=rx;refine Qjd I1 ea c hm l ?_;refine PySem.W.callWith_K (first:=[.ref a]) (h₀:=X.base) I.ok.mod.kin hm.kp (thn (ha pos pins s1 σ H1 _ I1 q) fun us s2 ⟨vs,H2,I2,r,q2⟩=>⟨I2.kIn,?_⟩) hst hpl;exact QiW (us:=.ref a::us) (vs:=.ref a::vs) F hr hb hd hx I2 (.cons rfl r) q2
theorem Qpr {pl:Sem Bool} (he:PE X o ta) (c:Cls X.K C) (hm:QiF X.K C m f) (F:Qby X.prog X.w X.K X.mg X.base CX k f fd ps sp) (hr:QaJ k X.A) (hb:Binds X.K fd ps ds) (hd:QaC dvs ds) (hx:Qeo CX X E)
  (ht:eval (.Call (.Attribute o m apos) [] [] pos) X.env=(do
   let ov ←eval o X.env
   standAt apos.atName
   let (f,first) ←holding [ov] (getMethod ov m pl)
   callWith pos f first (backTo pos (starEach [] X.env)) (backToKw pos (keywordEach [] X.env))):=by rfl) :
  PE X (.Call (.Attribute o m apos) [] [] pos) (Qkt C m sp dvs E ta Qkz):=by
 intro pins s σ H Q I h;refine PySem.W.methodCall_KW (pl:=pl) (thn (he pins s σ H _ I h) fun u s1 ⟨x,H1,I1,rx,a,dx,fs,ex,ea,l,q⟩=>?_) ht;subst ex;obtain rfl:u=Value.ref a:=rx;refine Qjd I1 ea c hm l ?_;exact PySem.W.callWith_K0 (first:=[.ref a]) I1.kIn hm.kp (QiW (us:=[.ref a]) (vs:=[.ref a]) F hr hb hd hx I1 (.cons rfl .nil) q)
structure Mk (K:PySem.W.Frag) (C f:Addr):Prop where
 makes:PySem.W.makesIn K C=true
 init:PySem.W.findIn K (.ref C) "__init__" = some (some (.ref f))
 fn:PySem.W.isFn K (.ref f)=true
 kp:PySem.W.keepIn K (.ref C)=true
theorem QpO {pins:List (Addr×Obj)}{σ:St}{H:Hp}{s:Shared}{Q:VK}{us:List Value}{vs:List V} (M:Mk X.K C f) (F:Qby X.prog X.w X.K X.mg X.base CX k f fd ps sp) (hr:QaJ (k+1) X.A) (hb:Binds X.K fd ps ds) (hd:QaC dvs ds)
  (hx:Qeo CX X E) (I:Inv X pins σ H s) (r:QaC vs us)
  (h:∀x dx,H x=none→H dx=none→dx≠x→sp (.ref x::(vs++dvs)) (upd (upd H dx (.own x)) x (.ins C dx [])) (fun v H2=>v = .non∧Q (.ref x) H2) E) :
  wpAny (model X.prog X.w) X.A (call (.ref C) us) (EP X pins σ Q) X.xe s:=by
 have hq:=h (s.heap.objs.size+1) s.heap.objs.size (I.hok.fresh (Nat.le_succ _)) (I.hok.fresh (zc _)) (zk (zW _));have I2:=Inv.made (C:=C) I;have r2:QaC (V.ref (s.heap.objs.size+1)::(vs++dvs)) (Value.ref (s.heap.objs.size+1)::(us++ds)):=.cons rfl (r.append hd)
 have hl:(Value.ref (s.heap.objs.size+1)::us++ds).length=ps.length:=by
  have e:=r2.length;rw [F.len _ _ _ _ hq] at e;exact e.symm
 refine zM (Qpp (f:=f) I.kIn M.makes M.init (beq_iff_eq.mp M.fn) (codeAny_mono (F.run _ X.stack _ _ ⟨Value.ref (s.heap.objs.size+1)::us,[]⟩ (Value.ref (s.heap.objs.size+1)::(us++ds)) _ _ E (hr.make C us [])
  (I2.env0.make C us []) (hb _ (Value.ref (s.heap.objs.size+1)::us) I2.kIn hl) r2 hq) fun r s' hq'=>?_))
 cases r with
 | error e=>exact hx pins σ _ _ e s' I2 hq'
 | ok fl =>
  cases fl with
  | ret u =>
   obtain ⟨v,H',I3,rv,ev,q3⟩:=I2.after hq';subst ev;exact ⟨rv,⟨V.ref (s.heap.objs.size+1),H',I3,rfl,q3⟩⟩
  | next=>exact False.elim hq'
  | brk=>exact False.elim hq'
  | cont=>exact False.elim hq'
theorem Qqb (M:Mk X.K C f) (F:Qby X.prog X.w X.K X.mg X.base CX k f fd ps sp) (hr:QaJ (k+1) X.A) (hg:Gl X x) (hm:X.mg x=some (.ref C)) (hb:Binds X.K fd ps ds) (hd:QaC dvs ds) (hx:Qeo CX X E)
  (hdb:(x == ("__debug__":Str))=false:=by decide):PE X (.Call (.Name x p) [] [] pos) (Qqf C sp dvs E Qkz):=by
 intro pins s σ H Q I h;refine wpAny_Call_Name_kw (Qc3 I hg hm ?_ hdb);exact PySem.W.callWith_K0 I.kIn M.kp (QpO (us:=[]) M F hr hb hd hx I .nil h)
end
section
variable {X:Cx}{CX:CXT}{k:Nat}{f C:Addr}{fd:FuncData}{ps ks:List Str}{sp:Sp}{E:XK}{x m:Str}{p pos apos kpos:Pos}{e o:Expr}{es:List Expr}{kws:List Keyword}{te ta:TE}{t tk:TA}{nm:Option Str}
structure Qv4 (K:PySem.W.Frag) (fd:FuncData) (ps ks:List Str) (g:List Value→List Value→List Value) (gV:List V→List V→List V):Prop where
 to:∀(s:Shared) (us ws:List Value),K.In s.heap→(g us ws).length=ps.length→BindsTo s fd ⟨us,ks.zip ws⟩ (ps.zip (g us ws))
 rel:∀{vs:List V}{us:List Value}{zs:List V}{ws:List Value},QaC vs us→QaC zs ws→QaC (gV vs zs) (g us ws)
variable {g:List Value→List Value→List Value}{gV:List V→List V→List V}
end
structure QaK (N P:List Str) (sc:Scope):Prop where
 kind:sc.kind = .function
 co:sc.isCoroutine=false
 gen:sc.isGenerator=false
 nd:N.Nodup
 pre:N.take P.length=P
 par:∀x∈P,sc.names.lookup x=some .local∨sc.names.lookup x=some .cell
 nofree:∀y∈sc.names,y.2≠.free
theorem Qkd {kindOf:Str→Option NameKind}{x:Str}:∀{binds:List (Str×Value)}{m:Str→Option Value},(∀v,(x,v)∉binds)→bindL kindOf binds m x=m x
 | [],_,_=>rfl
 | (n,v)::r,m,h=>by
  unfold bindL;rw [Qkd fun w hw=>h w (zu _ hw)]
  split
  ·have:x≠n:=by rintro rfl; exact h v zw
   simp [this]
  ·rfl
theorem QjO {kindOf:Str→Option NameKind}{x:Str}:∀{binds:List (Str×Value)}{m:Str→Option Value},(∀v,(x,v)∉binds)→bindC kindOf binds m x=m x
 | [],_,_=>rfl
 | (n,v)::r,m,h=>by
  unfold bindC;rw [QjO fun w hw=>h w (zu _ hw)]
  split
  ·rfl
  ·have:x≠n:=by rintro rfl; exact h v zw
   simp [this]
theorem Qkf {kindOf:Str→Option NameKind}{x:Str}{v:Value}:∀{P:List Str}{vs:List Value}{i:Nat}{m:Str→Option Value},P.Nodup→P[i]? = some x→vs[i]? = some v→kindOf x=some .local →
  bindL kindOf (P.zip vs) m x=some v
 | [],_,_,_,_,h,_,_=>by simp at h
 | _::_,[],_,_,_,_,h,_=>by simp at h
 | p::P,w::vs,0,m,nd,h1,h2,hk=>by
  simp at h1 h2; subst h1; subst h2
  show bindL kindOf ((p,w)::P.zip vs) m p=_;unfold bindL;rw [Qkd fun v hv=>(List.nodup_cons.mp nd).1 (List.of_mem_zip hv).1,if_pos hk];simp
 | p::P,w::vs,i+1,m,nd,h1,h2,hk=>by
  show bindL kindOf ((p,w)::P.zip vs) m x=_;unfold bindL;exact Qkf (i:=i) (List.nodup_cons.mp nd).2 (by simpa using h1) (by simpa using h2) hk
theorem Qj9 {kindOf:Str→Option NameKind}{x:Str}{v:Value}:∀{P:List Str}{vs:List Value}{i:Nat}{m:Str→Option Value},P.Nodup→P[i]? = some x→vs[i]? = some v→kindOf x≠some .local →
  bindC kindOf (P.zip vs) m x=some v
 | [],_,_,_,_,h,_,_=>by simp at h
 | _::_,[],_,_,_,_,h,_=>by simp at h
 | p::P,w::vs,0,m,nd,h1,h2,hk=>by
  simp at h1 h2; subst h1; subst h2
  show bindC kindOf ((p,w)::P.zip vs) m p=_;unfold bindC;rw [QjO fun v hv=>(List.nodup_cons.mp nd).1 (List.of_mem_zip hv).1,if_neg hk];simp
 | p::P,w::vs,i+1,m,nd,h1,h2,hk=>by
  show bindC kindOf ((p,w)::P.zip vs) m x=_;unfold bindC;exact Qj9 (i:=i) (List.nodup_cons.mp nd).2 (by simpa using h1) (by simpa using h2) hk
def start (N:List Str) (vs:List V):St:=vs.map some++List.replicate (N.length - vs.length) none
def Qb7 (CX:CXT) (P:Program) (w:World) (K:PySem.W.Frag) (mg:Str→Option Value) (base:Heap) (N:List Str) (qual:Str) (scope:Scope) (f:Addr) (cd:Value) (A:Around) (outer:List Env) (s:Shared) (H:Hp) (E:XK):Cx where
 prog:=P
 w:=w
 K:=K
 mg:=mg
 base:=base
 A:=A.deeper (envOfC qual scope s.heap.objs.size f cd)
 N:=N
 s₀:=s
 H₀:=H
 env:=envOfC qual scope s.heap.objs.size f cd
 outer:=outer
 stack:=envOfC qual scope s.heap.objs.size f cd::outer
 ex:=[]
 calm:=true
 fn:=fun _=>true
 pn:=[]
 xe:=fun e s'=>wpAny (model P w) (A.deeper (envOfC qual scope s.heap.objs.size f cd)) (leaving (envOfC qual scope s.heap.objs.size f cd) e) (fun _ s''=>CX outer H s E e s'') (fun e' s''=>CX outer H s E e' s'') s'
theorem QkR {sc:Scope}{n:Nat}{x:Str} (h:sc.names.lookup x=some .cell):∃c,(cellsFrom n sc.names []).lookup x=some c:=by
 have q:=PySem.W.cellsFrom_some sc.names n [] (.inl h);exact Option.isSome_iff_exists.mp q
theorem Qkh {CX:CXT}{P:Program}{w:World}{K:PySem.W.Frag}{mg:Str→Option Value}{base:Heap}{N ps:List Str}{qual:Str}{scope:Scope}{f:Addr}{cd:Value}{A:Around}{outer:List Env}{s s1:Shared}{H:Hp}{E:XK}{us:List Value}{vs:List V}
  (S:QaK N ps scope) (hd:A.handled=none) (e0:QdO P w K mg base A outer s H) (hl:vs.length=ps.length) (r:QaC vs us)
  (x:InCallC s s.heap.objs.size (bindL (envOfC qual scope s.heap.objs.size f cd).kindOf (ps.zip us) fun _=>none) (cellsFrom (s.heap.objs.size+1) scope.names []) (bindC (envOfC qual scope s.heap.objs.size f cd).kindOf (ps.zip us) fun _=>none) s1) :
  Inv (Qb7 CX P w K mg base N qual scope f cd A outer s H E) [] (start N vs) H s1:=by
 have hpl:ps.length≤N.length:=by have:=congrArg List.length S.pre; rw [List.length_take] at this; omega
 obtain ⟨h1,tk,rfl,hk⟩:=x.done
 have noA:∀b:Addr,b∉(Qb7 CX P w K mg base N qual scope f cd A outer s H E).ex:=fun b z=>absurd (show b∈([]:List Addr) from z) (by simp)
 refine ⟨⟨e0.mod,S.kind,rfl,rfl,zc _,fun y z c h1 h2=>?_,fun y hy=>?_,fun y c _ h=>?_,fun _=>hd,Around.frames_deeper e0.frames,.inr ⟨rfl,rfl⟩,fun b z=>absurd z (noA b),e0.bs,e0.bsz,fun b _ _=>noA b,fun b z=>absurd z (noA b),e0.funs,e0.frf⟩,
  rfl,e0.bare,Un.kept hk,⟨_,x.toInCall.ns,fun i y v h1 h2 h3=>?_⟩,fun y c h=>⟨_,x.cell y c h⟩,e0.hok.fresh (zc _),fun y c h=>?_,fun p hp=>absurd (show p∈([]:List (Addr×Obj)) from hp) (by simp),e0.hok.kept hk,?_⟩
 ·exact name_of_addr x.apart (PySem.mem_of_lookup h1) (PySem.mem_of_lookup h2)
 ·have hy:scope.names.lookup y=some .cell∨scope.names.lookup y=some .free:=hy
  rcases hy with hy | hy
  ·exact QkR hy
  ·exact absurd rfl (S.nofree _ (PySem.mem_of_lookup hy))
 ·exact Nat.le_of_lt (x.above y c (PySem.mem_of_lookup h))
 ·have hi:i < vs.length:=by
   unfold start at h2
   by_cases hi:i < vs.length
   ·exact hi
   ·rw [zy (by simpa using hi)] at h2;rw [List.getElem?_replicate] at h2
    split at h2 <;> cases h2
  have ha:vs[i]? = some v:=by
   unfold start at h2;rw [zz (by simpa using hi),zE] at h2
   cases e:vs[i]? with
   | none=>rw [e] at h2; cases h2
   | some a=>rw [e] at h2; cases h2; rfl
  obtain ⟨u,hu,rv⟩:=r.get ha
  have hp:ps[i]? = some y:=by
   rw [←S.pre,List.getElem?_take_of_lt (by omega)]; exact h1
  have ndP:ps.Nodup:=by rw [←S.pre]; exact S.nd.sublist (List.take_sublist _ _)
  refine ⟨u,rv,?_⟩
  rcases S.par y (zN hp) with k | k
  ·exact .inl ⟨k,Qkf ndP hp hu k⟩
  ·obtain ⟨c,e⟩:=QkR (n:=s.heap.objs.size+1) k;refine .inr ⟨.inl k,c,e,?_⟩;have q:=x.cell y c e;rw [Qj9 ndP hp hu (by show scope.names.lookup y≠_; rw [k]; decide)] at q;exact q
 ·exact e0.hok.fresh (Nat.le_of_lt (x.above y c (PySem.mem_of_lookup h)))
 ·unfold start;show _=N.length;rw [zr,zI,List.length_replicate];omega
theorem QmR {CX:CXT}{P:Program}{w:World}{K:PySem.W.Frag}{mg:Str→Option Value}{base:Heap}{k:Nat}{f:Addr}{name qual:Str}{params:Arguments}{body:List Stmt}{scope:Scope}{dV kV doc pm cdv ct oc:Value}{an od:Option Addr}
  {osl:Array (Option Value)}{N ps:List Str}{sp:Sp} (lk:K.lookup f=some ⟨oc,od,.func (PySem.W.fnOf name qual params body scope dV kV doc pm an cdv ct),osl⟩) (hcd:PySem.W.codeIn K cdv qual=true) (S:QaK N ps scope)
  (len:∀vs H Q E,sp vs H Q E→vs.length=ps.length)
  (hbody:∀(A:Around) (outer:List Env) (s:Shared) (H:Hp) (vs:List V) (Q:VK) (E:XK),QaJ k (A.deeper (envOfC qual scope s.heap.objs.size f cdv))→sp vs H Q E →
   ∃t,PSs (Qb7 CX P w K mg base N qual scope f cdv A outer s H E) body t∧t { nx:=fun _ H'=>Q .non H',rt:=Q } (start N vs) H) :
  Qby P w K mg base CX (k+1) f (PySem.W.fnOf name qual params body scope dV kV doc pm an cdv ct) ps sp:=by
 refine ⟨len,fun A outer s H args us vs Q E hr e0 hb r hsp=>?_⟩;have hl:=len _ _ _ _ hsp
 have KX:K.In s.heap:=e0.mod.kin.keeps fun b o e=>(e0.bs b o e).1
 have lim:s.heap.NoLimit:=e0.mod.nolimit.keeps fun b o e=>(e0.bs b o e).1
 have hkind:∀y∈ps.zip us,scope.names.lookup y.1=some .local∨(scope.names.lookup y.1=some .cell∧((cellsFrom (s.heap.objs.size+1) scope.names []).lookup y.1).isSome=true):=fun ⟨n,v⟩ hy=>by
  rcases S.par n (List.of_mem_zip hy).1 with q | q
  ·exact .inl q
  ·exact .inr ⟨q,PySem.W.cellsFrom_some _ _ _ (.inl q)⟩
 refine codeAny_call_function hr.depth (KX _ _ lk) rfl S.co S.gen rfl (PySem.W.codeRec_of KX hcd) (hb _ _ _ _ ?_)
 refine wpAny_newFunctionEnv_cells S.kind hkind fun env he s1 x=>?_
 subst he;refine ⟨lim.keeps x.toInCall.keep,codeAny_func ?_⟩;obtain ⟨t,ht,hq⟩:=hbody A outer s H vs Q E (hr.deeper _) hsp;have I:Inv (Qb7 CX P w K mg base N qual scope f cdv A outer s H E) [] (start N vs) H s1:=Qkh S hr.hd e0 hl r x
 refine zm (ht [] s1 (start N vs) H _ I hq) (fun fl s' hs=>?_) fun e s' hs=>hs
 have fin:∀{σ':St}{H':Hp}{v:V}{u:Value},Inv (Qb7 CX P w K mg base N qual scope f cdv A outer s H E) [] σ' H' s'→RelV v u→Q v H'→CE outer P w H s Q u s' :=
  fun {σ' H' v u} J rv q=>⟨v,H',J.os,J.bare,J.base,J.hok,rv,q⟩
 cases fl with
 | ret u =>
  obtain ⟨v,σ',H',J,rv,q⟩:=hs;exact fin J rv q
 | next =>
  obtain ⟨σ',H',J,q⟩:=hs;exact fin (v:=V.non) (u:=Value.none) J rfl q
 | brk =>
  obtain ⟨_,_,_,q⟩:=hs;exact False.elim q
 | cont =>
  obtain ⟨_,_,_,q⟩:=hs;exact False.elim q
section
variable {X:Cx}{x:Str}{p pos:Pos}{e:Expr}{es:List Expr}{t:TA}{id T:String}{r:List V→Hp→VK→Prop}
def tCB (r:List V→Hp→VK→Prop) (t:TA):TE:=fun σ H Q=>t σ H fun vs H1=>r vs H1 Q
theorem QgQ (hc:QiT X (.builtin id) r) (hg:Gl X x) (hm:X.mg x=none) (hv:bootBuiltins x=some (.builtin id)) (ha:PA X (e::es) t) (hn:x≠"__name__":=by decide) (hdb:(x == ("__debug__":Str))=false:=by decide)
  (he:starEach (e::es) X.env=(false,eval e X.env)::starEach es X.env:=by rfl) (hpl:(backTo pos (starEach es X.env)).any (·.1)=false:=by rfl):PE X (.Call (.Name x p) (e::es) [] pos) (tCB r t):=by
 intro pins s σ H Q I h;refine wpAny_Call_Name_kw (Qhw I hg hm hv ?_ hn hdb);exact PyProof.Rows.callWith_builtin1 (thn (ha pos pins s σ H _ I h) fun us s1 ⟨vs,H1,I1,r1,q1⟩=>hc pins s1 σ H1 vs us Q I1 r1 q1) he hpl
end
end L2
namespace HT
open PySem PyProof.Rows
section
open PySem.SeqAt
open PySem.AutoSeq1 (wpAny_loadPart')
open PySem.MeetsSeq PySem.MeetsSeq2 PySem.MeetsSeq3
end
section
variable {prog:Program}{w:World}{A:Around}{E:Value→Shared→Prop}{s:Shared}
theorem cat_tup {t b:Addr}{vs ws:List Value}{Q:Value→Shared→Prop} (ht:IsTup s.heap t vs.toArray) (hb:IsTup s.heap b ws.toArray) (hv:vs≠[])
  (h1:ws = []→Q (.ref t) s) (h2:ws≠[]→Q (.ref s.heap.objs.size) { s with heap:=s.heap.push { cls:=.type "tuple",data:=.seq (vs++ws).toArray } })
  (hsz:vs.length+ws.length≤sizeLine):wpAny (model prog w) A (binaryOp .Add (.ref t) (.ref b)) Q E s:=by
 obtain ⟨⟨cls,dd,data,sl⟩,ho,hc,n,hd⟩:=id ht;obtain ⟨⟨cls2,dd2,data2,sl2⟩,ho2,hc2,n2,hd2⟩:=id hb;simp only at hc hd hc2 hd2;subst hc hd hc2 hd2
 have e:vs.toArray++ws.toArray=(vs++ws).toArray:=by simp
 by_cases hw:ws = []
 ·exact concat_meets ⟨_,ho,rfl⟩ ⟨_,ho2,rfl⟩ noFill_tuple_add seq_tuple_add PySem.F.slot_tuple_add PySem.F.entry_tuple_add (PySem.F.args_tuple_add_2 _ _)
   (tuple_addW1 t b vs.toArray ws.toArray n n2 dd dd2 sl sl2 (by simpa using hv) (by simp [hw])) ⟨ho,ho2,h1 hw⟩
 ·refine concat_meets ⟨_,ho,rfl⟩ ⟨_,ho2,rfl⟩ noFill_tuple_add seq_tuple_add PySem.F.slot_tuple_add PySem.F.entry_tuple_add (PySem.F.args_tuple_add_2 _ _)
   (tuple_addW2 t b vs.toArray ws.toArray n n2 dd dd2 sl sl2 (by simpa using hv) (by simpa using hw) (by rw [zn,zn]; exact hsz)) ⟨ho,ho2,?_⟩
  rw [e];exact h2 hw
def sIx (n d:Nat):Option Int→Nat
 | none=>d
 | some v=>if v < 0 then (v+(n:Int)).toNat else min v.toNat n
theorem sIx_none (n d:Nat):sIx n d none=d:=rfl
theorem sIx_nat (n d k:Nat):sIx n d (some (k:Int))=min k n:=by
 show (if (k:Int) < 0 then ((k:Int)+(n:Int)).toNat else min (k:Int).toNat n)=min k n;rw [if_neg (by omega),Int.toNat_natCast]
theorem sIx_le (n d:Nat) (hd:d≤n) (o:Option Int):sIx n d o≤n:=by
 cases o with
 | none=>exact hd
 | some v =>
  show (if v < 0 then (v+(n:Int)).toNat else min v.toNat n)≤n
  by_cases hv:v < 0
  ·rw [if_pos hv]; omega
  ·rw [if_neg hv]; exact Nat.min_le_right _ _
theorem Qme (v:Int) (n d:Nat):(if v < 0 then max (v+(n:Int)) 0 else min v (n:Int))=((sIx n d (some v):Nat):Int):=by
 show (if v < 0 then max (v+(n:Int)) 0 else min v (n:Int))=(((if v < 0 then (v+(n:Int)).toNat else min v.toNat n):Nat):Int)
 by_cases hv:v < 0
 ·simp only [if_pos hv]; omega
 ·simp only [if_neg hv]; omega
theorem Qmx (lo hi:Option Int) (n:Nat):Builtin.Slice.sliceAdjust lo hi 1 (n:Int)=(((sIx n 0 lo:Nat):Int),((sIx n n hi:Nat):Int)):=by
 have h1:¬((1:Int) < 0):=by omega
 unfold Builtin.Slice.sliceAdjust;simp only [h1,if_false];refine Prod.ext ?_ ?_
 ·cases lo with
  | none=>rfl
  | some v=>exact Qme v n 0
 ·cases hi with
  | none=>rfl
  | some v=>exact Qme v n n
theorem Qna (i j:Nat):Builtin.Slice.slicePlaces (i:Int) (j:Int) 1=j - i:=by
 unfold Builtin.Slice.slicePlaces
 have h1:(1:Int) > 0:=by omega
 simp only [h1,if_true,Int.ediv_one]
 split <;> omega
theorem QiJ {v:Value}{o:Option Int}{Q:Option Int→Shared→Prop} (p:IsPart v o) (h:Q o s):wpAny (model prog w) A (Builtin.Slice.slicePartIndex v) Q E s:=by
 cases p with
 | none=>exact slicePart_none h
 | int i t=>exact slicePart_int h
theorem sliceApplied_gen {sl:Addr}{vl vu:Value}{lo hi:Option Int}{n:Nat}{Q:Int×Int×Nat→Shared→Prop} (hs:s.heap.IsSliceOf sl vl vu .none) (pl:IsPart vl lo) (pu:IsPart vu hi)
  (h:Q (((sIx n 0 lo:Nat):Int),1,sIx n n hi - sIx n 0 lo) s):wpAny (model prog w) A (Builtin.Slice.sliceApplied (.ref sl) (pure (n:Int))) Q E s:=by
 obtain ⟨os,hos,hcs,hds⟩:=id hs;unfold Builtin.Slice.sliceApplied Builtin.Slice.sliceFields;refine za (za (wpAny_field hos hds (x:=vl) rfl (za (wpAny_field hos hds (x:=vu) rfl (za (wpAny_field hos hds (x:=.none) rfl (zb ?_)))))));refine za (slicePart_none ?_);show wpAny _ _ (if ((1:Int) == 0)=true then _ else _) _ _ s;rw [if_neg (by decide)];refine za (QiJ pl (za (QiJ pu (za (zb ?_)))));show wpAny _ _ (match Builtin.Slice.sliceAdjust lo hi 1 (n:Int) with | (lo,hi)=>pure (lo,(1:Int),Builtin.Slice.slicePlaces lo hi 1)) _ _ s;rw [Qmx lo hi n];show wpAny _ _ (pure (((sIx n 0 lo:Nat):Int),(1:Int),Builtin.Slice.slicePlaces ((sIx n 0 lo:Nat):Int) ((sIx n n hi:Nat):Int) 1)) _ _ s
 rw [Qna];exact zb h
theorem Qpl (xs:Array Value) (i k:Nat):((List.range k).filterMap fun (m:Nat)=>xs[((i:Int)+(m:Int) * 1).toNat]?).toArray=((xs.toList.drop i).take k).toArray:=by
 have e:(fun (m:Nat)=>xs[((i:Int)+(m:Int) * 1).toNat]?)=fun m=>xs[i+m]?:=by
  funext m
  have:((i:Int)+(m:Int) * 1).toNat=i+m:=by omega
  rw [this]
 rw [e]
 have:=pick_run xs i k
 rw [List.filterMap_map] at this
 have e2:((fun x=>xs[x]?) ∘ fun x=>i+x)=fun m=>xs[i+m]?:=rfl
 rw [e2] at this;rw [this]
theorem getItem_tuple_cut {t sl:Addr}{items:Array Value}{vl vu:Value}{lo hi:Option Int}{Q:Value→Shared→Prop} (ht:IsTup s.heap t items) (hs:s.heap.IsSliceOf sl vl vu .none) (pl:IsPart vl lo) (pu:IsPart vu hi)
  (hw:¬(sIx items.size 0 lo=0∧sIx items.size items.size hi=items.size))
  (h:Q (.ref s.heap.objs.size) { s with heap:=s.heap.push { cls:=.type "tuple",data:=.seq ((items.toList.drop (sIx items.size 0 lo)).take (sIx items.size items.size hi - sIx items.size 0 lo)).toArray } })
  (hsz:items.size≤sizeLine):wpAny (model prog w) A (getItem (.ref t) (.ref sl)) Q E s:=by
 have htake:sizeOk (.seq ((items.toList.drop (sIx items.size 0 lo)).take (sIx items.size items.size hi - sIx items.size 0 lo)).toArray):=by
  show ((items.toList.drop (sIx items.size 0 lo)).take (sIx items.size items.size hi - sIx items.size 0 lo)).toArray.size≤sizeLine;rw [zn,List.length_take,List.length_drop,Array.length_toList];omega
 have hj:sIx items.size items.size hi≤items.size:=sIx_le _ _ (zc _) hi;obtain ⟨os,hos,hcs,hds⟩:=id hs;have hTs:s.TypeIs (.ref sl) "slice":=⟨os,hos,hcs⟩;unfold getItem
 try with_reducible refine zF ?_
 first | refine za (zb ?_) | skip
 refine za (wpAny_sequenceKey ht.typeIs (by decide) ?_)
 refine za (wpAny_callSpecial?_slot (name:=Str.ofString "__getitem__") ht.typeIs PyProof.Rows.slot_tuple_getitem
  (wpAny_call_entry PyProof.Rows.slot_tuple_getitem ht.typeIs entry_tuple_getitem ?_ (args_tuple_getitem _ _)))
 show wpAny _ _ (Builtin.Tuple.tupleItemsOf (.ref t) >>= _) _ _ s;refine za (tupleItemsOf_ ht ?_);refine za (wpAny_typeOf hTs ?_);rw [if_pos (by decide)];refine za (sliceApplied_gen hs pl pu ?_)
 have hno:¬((((sIx items.size 0 lo:Nat):Int) == 0&&(1:Int) == 1&&(sIx items.size items.size hi - sIx items.size 0 lo) == items.size)=true):=by
  intro q;rw [zf,zf] at q;have q1:((sIx items.size 0 lo:Nat):Int)=0:=eq_of_beq q.1.1;have q2:sIx items.size items.size hi - sIx items.size 0 lo=items.size:=eq_of_beq q.2;exact hw ⟨by omega,by omega⟩
 show wpAny _ _ (if (((sIx items.size 0 lo:Nat):Int) == 0&&(1:Int) == 1&&(sIx items.size items.size hi - sIx items.size 0 lo) == items.size)=true then _ else _) _ _ s;rw [if_neg hno,Qpl]
 first
  | exact za (m:=Builtin.Tuple.tupleExact _) (wpAny_newObj_type (zb ⟨_,rfl,zb h⟩) htake)
  | exact za (m:=Builtin.Tuple.tupleExact _) (wpAny_newObj_type (za (zb (zb ⟨_,rfl,zb h⟩))) htake)
  | exact za (za (m:=Builtin.Tuple.tupleExact _) (wpAny_newObj_type (zb (zb ⟨_,rfl,zb h⟩)) htake))
  | exact za (za (m:=Builtin.Tuple.tupleExact _) (wpAny_newObj_type (zb ⟨_,rfl,zb h⟩) htake))
end
end HT
namespace L2
open PySem PySem.Spec PyProof.Rows
abbrev TO:=St→Hp→(Option Int→Hp→Prop)→Prop
def PO (X:Cx) (e:Option Expr) (t:TO):Prop :=
 ∀(pins:List (Addr×Obj)) (s:Shared) (σ:St) (H:Hp) (Q:Option Int→Hp→Prop),Inv X pins σ H s→t σ H Q →
  wpAny (model X.prog X.w) X.A (evalPart e X.env) (fun u s'=>∃o H',Inv X pins σ H' s'∧IsPart u o∧Q o H') X.xe s
def QrL:TO:=fun _ H Q=>Q none H
def Qum (t:TE):TO:=fun σ H Q=>t σ H fun x H1=>∃i,x = .int i∧Q (some i) H1
section
variable {X:Cx}{e:Expr}{te:TE}{lo hi:Option Expr}{tl th:TO}{pos p2:Pos}
theorem Qrl:PO X none QrL:=by
 intro pins s σ H Q I h;rw [evalPart_none];exact zb ⟨none,H,I,.none,h⟩
theorem Qrq (h:PE X e te):PO X (some e) (Qum te):=by
 intro pins s σ H Q I hw;rw [evalPart_some]
 refine thn (h pins s σ H _ I hw) fun u s1 ⟨x,H1,I1,r1,q1⟩=>?_
 obtain ⟨i,rfl,q⟩:=q1;obtain ⟨t,rfl⟩:=r1;exact ⟨some i,H1,I1,.int i t,q⟩
def SlR (X:Cx) (r:V→Option Int→Option Int→Hp→VK→Prop):Prop :=
 ∀(pins:List (Addr×Obj)) (s:Shared) (σ:St) (H:Hp) (x:V) (v vl vu:Value) (lo hi:Option Int) (sl:Addr) (Q:VK),Inv X pins σ H s→RelV x v→s.heap.IsSliceOf sl vl vu .none→IsPart vl lo→IsPart vu hi→r x lo hi H Q →
  ∃T id,typeLookup (.type T) "__getitem__" = pure (some (.builtin id))∧s.TypeIs v T∧wpAny (model X.prog X.w) X.A (getItem v (.ref sl)) (EP X pins σ Q) X.xe s
def tSl (r:V→Option Int→Option Int→Hp→VK→Prop) (te:TE) (tl th:TO):TE:=fun σ H Q=>te σ H fun x H1=>tl σ H1 fun l H2=>th σ H2 fun u H3=>r x l u H3 Q
theorem QpP {r:V→Option Int→Option Int→Hp→VK→Prop} (hr:SlR X r) (he:PE X e te) (hl:PO X lo tl) (hu:PO X hi th):PE X (.Subscript e (.Slice lo hi none p2) pos) (tSl r te tl th):=by
 intro pins s σ H Q I h;refine Subscript_ (thn (he pins s σ H _ I h) fun v s1 ⟨x,H1,I1,r1,q1⟩=>?_);refine wpAny_Slice (thn (hl pins s1 σ H1 _ I1 q1) fun vl s2 ⟨l,H2,I2,pl,q2⟩=>thn (hu pins s2 σ H2 _ I2 q2) fun vu s3 ⟨u,H3,I3,pu,q3⟩=>?_);rw [evalPart_none];refine zb ?_
 have I4:Inv X pins σ H3 { s3 with heap:=s3.heap.push { cls:=.type "slice",data:=.fields #[vl,vu,.none] } }:=I3.kept (t':=s3.toks) fun b ob q=>zh _ q
 obtain ⟨T,id,hT,ht,hg⟩:=hr pins { s3 with heap:=s3.heap.push { cls:=.type "slice",data:=.fields #[vl,vu,.none] } } σ H3 x v vl vu l u s3.heap.objs.size Q I4 r1 (Heap.IsSliceOf.new ..) pl pu q3;show wpAny (model X.prog X.w) X.A (subscriptTail e (.Slice lo hi none p2) v (.ref s3.heap.objs.size)) (EP X pins σ Q) X.xe { s3 with heap:=s3.heap.push { cls:=.type "slice",data:=.fields #[vl,vu,.none] } };exact tail_any (ops:=[.ref s3.heap.objs.size,v]) ht hT hg (by with_unfolding_all rfl)
def QgJ (xs:List V) (lo hi:Option Int):List V:=(xs.drop (HT.sIx xs.length 0 lo)).take (HT.sIx xs.length xs.length hi - HT.sIx xs.length 0 lo)
theorem Qio (xs:List V) (lo hi:Option Int):(QgJ xs lo hi).length≤xs.length:=by
 unfold QgJ;rw [List.length_take,List.length_drop];omega
def Qvd (K:PySem.W.Frag):V→Option Int→Option Int→Hp→VK→Prop:=fun x lo hi H Q=>∃a xs,x = .ref a∧SqT K H a xs ∧
 ¬(HT.sIx xs.length 0 lo=0∧HT.sIx xs.length xs.length hi=xs.length)∧∀p,H p=none→Q (.ref p) (upd H p (.tup (QgJ xs lo hi)))
theorem QsB:SlR X (Qvd X.K):=by
 intro pins s σ H x v vl vu lo hi sl Q I rx hs pl pu h;obtain ⟨a,xs,rfl,hx,hw,q⟩:=h;cases rx;obtain ⟨its,r,ht,hz⟩:=I.tuple hx
 have hlen:its.toArray.size=xs.length:=by rw [zn]; exact r.length.symm
 refine ⟨"tuple",_,PyProof.Rows.slot_tuple_getitem.lookup,ht.typeIs,?_⟩;refine HT.getItem_tuple_cut ht hs pl pu (by rw [hlen]; exact hw) ?_ (by rw [hlen]; exact hz);rw [hlen];refine ⟨.ref s.heap.objs.size,_,I.laid (t':=s.toks) (o:=.tup (QgJ xs lo hi)) (fun b ob q=>zh _ q) (zc _) ?_,rfl,q _ (I.hok.fresh (zc _))⟩;exact ⟨zt (Qio xs lo hi) hz,_,(r.drop (HT.sIx xs.length 0 lo)).take (HT.sIx xs.length xs.length hi - HT.sIx xs.length 0 lo),IsTup.new _ _⟩
def Quo (K:PySem.W.Frag):R2:=fun x y H Q=>∃a b xs ys,x = .ref a∧y = .ref b∧SqT K H a xs∧SqT K H b ys∧xs≠[]∧xs.length+ys.length≤sizeLine ∧
 (ys = []→Q (.ref a) H)∧(ys≠[]→∀p,H p=none→Q (.ref p) (upd H p (.tup (xs++ys))))
theorem QaC.nil_iff {xs:List V}{us:List Value} (r:QaC xs us):us = []↔xs = []:=by
 cases r with
 | nil=>simp
 | cons _ _=>simp
theorem QrY:OpR X (binaryOp .Add) (Quo X.K):=by
 intro pins s σ H x y v u Q I rx ry h;obtain ⟨a,b,xs,ys,rfl,rfl,ha,hb,hx,hz,q1,q2⟩:=h;cases rx;cases ry;obtain ⟨its,r1,p1,_⟩:=I.tuple ha;obtain ⟨its2,r2,p2,_⟩:=I.tuple hb;refine HT.cat_tup p1 p2 (fun z=>hx (r1.nil_iff.mp z)) (fun z=>⟨.ref a,H,I,rfl,q1 (r2.nil_iff.mp z)⟩) (fun z=>?_) (by rw [←r1.length,←r2.length]; exact hz);refine ⟨.ref s.heap.objs.size,_,I.laid (t':=s.toks) (o:=.tup (xs++ys)) (fun b ob q=>zh _ q) (zc _) ?_,rfl,q2 (fun w=>z (r2.nil_iff.mpr w)) _ (I.hok.fresh (zc _))⟩;exact ⟨by rw [zr]; exact hz,_,r1.append r2,IsTup.new _ _⟩
end
def ixN (n:Nat) (i:Int):Option Nat:=if 0≤i then (if i < n then some i.toNat else none) else if -(n:Int)≤i then some (i+n).toNat else none
def atI {α:Type} (xs:List α) (i:Int):Option α:=(ixN xs.length i).bind fun j=>xs[j]?
theorem QrC {n:Nat}{i:Int}{j:Nat} (h:ixN n i=some j):seqIndex? i n=some j∧j < n∧-(n:Int)≤i∧i < n:=by
 unfold ixN at h
 by_cases h0:0≤i
 ·rw [if_pos h0] at h
  by_cases h1:i < n
  ·rw [if_pos h1] at h;have e:i.toNat=j:=zL h;exact ⟨by rw [seqIndex_of h0 h1,e],by omega,by omega,h1⟩
  ·rw [if_neg h1] at h; cases h
 ·rw [if_neg h0] at h
  by_cases h1:-(n:Int)≤i
  ·rw [if_pos h1] at h;have e:(i+n).toNat=j:=zL h;exact ⟨by rw [seqIndex_neg (by omega) h1,e],by omega,h1,by omega⟩
  ·rw [if_neg h1] at h; cases h
theorem Qjq {α:Type}{xs:List α}{i:Int}{v:α} (h:atI xs i=some v):∃j,seqIndex? i xs.length=some j∧xs[j]? = some v∧j < xs.length∧-(xs.length:Int)≤i∧i < xs.length:=by
 unfold atI at h
 cases e:ixN xs.length i with
 | none=>rw [e] at h; cases h
 | some j =>
  rw [e] at h;obtain ⟨h1,h2,h3,h4⟩:=QrC e;exact ⟨j,h1,h,h2,h3,h4⟩
def Ql9 (b:Expr):Prop:=∀o i,subscripted b false o i=operate [o,i] (getItem o i)
def IxR (X:Cx) (r:R2):Prop :=
 ∀(value slice:Expr) (pins:List (Addr×Obj)) (s:Shared) (σ:St) (H:Hp) (x y:V) (v u:Value) (Q:VK),Inv X pins σ H s→RelV x v→RelV y u→r x y H Q →
  subscripted slice false v u=operate [v,u] (getItem v u)→wpAny (model X.prog X.w) X.A (subscriptTail value slice v u) (EP X pins σ Q) X.xe s
def MtR (X:Cx) (id:String) (r:V→List V→Hp→VK→Prop):Prop :=
 ∀(pins:List (Addr×Obj)) (s:Shared) (σ:St) (H:Hp) (x:V) (xs:List V) (v:Value) (us:List Value) (Q:VK),Inv X pins σ H s→RelV x v→QaC xs us→r x xs H Q →
  wpAny (model X.prog X.w) X.A (call (.builtin id) (v::us)) (EP X pins σ Q) X.xe s
section
variable {X:Cx}{a b:Expr}{ta tb:TE}{pos:Pos}
theorem Quj {r:R2} (hr:IxR X r) (ha:PE X a ta) (hb:PE X b tb) (hs:Ql9 b):PE X (.Subscript a b pos) (tOp r ta tb):=by
 intro pins s σ H Q I h;exact Subscript_ (QoV ha hb I h fun v u s2 x y H2 I2 rx ry q=>hr a b pins s2 σ H2 x y v u Q I2 rx ry q (hs _ _))
def Qvp (K:PySem.W.Frag):R2:=fun x y H Q=>∃p xs i v,x = .ref p∧y = .int i∧SqL K H p xs∧atI xs i=some v∧Q v H
def QvD (K:PySem.W.Frag):R2:=fun x y H Q=>∃p xs i v,x = .ref p∧y = .int i∧SqT K H p xs∧atI xs i=some v∧Q v H
def QuX:R2:=fun x y H Q=>∃z i c,x = .str z∧y = .int i∧z.length≤sizeLine∧atI z.cps.toList i=some c∧Q (.str ⟨#[c]⟩) H
theorem QrR:IxR X (Qvp X.K):=by
 intro value slice pins s σ H x y v u Q I rx ry h hs;obtain ⟨p,xs,i,z,rfl,rfl,hq,he,q⟩:=h;cases rx;obtain ⟨t,rfl⟩:=ry;obtain ⟨its,r,pl,hz⟩:=I.list hq;obtain ⟨j,h1,h2,h3,h4,h5⟩:=Qjq he;obtain ⟨w,ew,rw'⟩:=r.get h2;have hl:=r.length;have hn:=QhX;have fin:EP X pins σ Q w s:=⟨z,H,I,rw',q⟩
 by_cases h0:0≤i
 ·have hj:i.toNat=j:=by
   rw [seqIndex_of h0 h5] at h1;exact zL h1
  exact item_listR pl.isList h0 (by omega) (by rw [hj]; simpa using ew) fin hs
 ·have hj:(i+(its.toArray.size:Int)).toNat=j:=by
   rw [seqIndex_neg (by omega) h4] at h1;rw [zn,←hl];exact zL h1
  exact subscriptTail_builtinR (x:=w) pl.isList.typeIs slot_list_getitem.lookup
   (wpAny_getItem_list_neg (Q:=fun r s'=>r=w∧EP X pins σ Q r s') pl.isList (by omega) (by rw [zn] <;> omega) (by omega) (by rw [hj]; simpa using ew) ⟨rfl,fin⟩) hs
theorem QsP:IxR X (QvD X.K):=by
 intro value slice pins s σ H x y v u Q I rx ry h hs;obtain ⟨p,xs,i,z,rfl,rfl,hq,he,q⟩:=h;cases rx;obtain ⟨t,rfl⟩:=ry;obtain ⟨its,r,pl,hz⟩:=I.tuple hq;obtain ⟨j,h1,h2,h3,h4,h5⟩:=Qjq he;obtain ⟨w,ew,rw'⟩:=r.get h2;have hl:=r.length;have hn:=QhX;have fin:EP X pins σ Q w s:=⟨z,H,I,rw',q⟩;exact subscriptTail_builtinR (x:=w) pl.typeIs slot_tuple_getitem.lookup
  (getItem_tuple (j:=j) (Q:=fun r s'=>r=w∧EP X pins σ Q r s') pl (by omega) (by omega) (by rw [zn,←hl]; exact h1) (by simpa using ew) ⟨rfl,fin⟩) hs
theorem Qsm:IxR X QuX:=by
 intro value slice pins s σ H x y v u Q I rx ry h hs;obtain ⟨z,i,c,rfl,rfl,hz,he,q⟩:=h;obtain ⟨t,rfl⟩:=rx;obtain ⟨t',rfl⟩:=ry;obtain ⟨j,h1,h2,h3,h4,h5⟩:=Qjq he
 have hl:z.cps.toList.length=z.length:=by simp [Str.length]
 rw [hl] at h1 h4 h5;have hn:=QhX
 exact tail_any (typeIs_str s z t) slot_str_getitem.lookup (getItem_str (c:=c) (by
  have e1:decide (i < -(2 ^ 63:Int))=false:=zp (by omega);have e2:decide (i≥2 ^ 63)=false:=zp (by omega)
  rw [e1,e2,Bool.or_false]) (by rw [h1]; simpa using h2) ⟨.str ⟨#[c]⟩,H,I.tok _,⟨_,rfl⟩,q⟩) hs
theorem Inv.lst {pins:List (Addr×Obj)}{σ:St}{H:Hp}{s:Shared}{p:Addr}{xs:List V} (I:Inv X pins σ H s) (h:H p=some (.lst xs)) :
  ∃(its:List Value) (n:Nat),QaC xs its∧s.heap.get? p=some { cls:=.type "list",data:=.seq its.toArray n }∧xs.length≤sizeLine:=by
 obtain ⟨z,its,n,r,e⟩:=I.hok p _ h;exact ⟨its,n,r,e,z⟩
theorem QhA (lo hi:Option Int) (n:Nat):(sliceBounds lo hi none n).1=((HT.sIx n 0 lo:Nat):Int)∧(sliceBounds lo hi none n).2.1=((HT.sIx n n hi:Nat):Int)∧(sliceBounds lo hi none n).2.2=1:=by
 refine ⟨?_,?_,rfl⟩
 ·cases lo with
  | none=>simp [sliceBounds,HT.sIx]
  | some i =>
   simp only [sliceBounds,HT.sIx,Option.getD_none,show (1:Int) > 0 by decide,if_true]
   by_cases h:i < 0
   ·simp only [h,if_true] <;> omega
   ·simp only [h,if_false] <;> omega
 ·cases hi with
  | none=>simp [sliceBounds,HT.sIx]
  | some i =>
   simp only [sliceBounds,HT.sIx,Option.getD_none,show (1:Int) > 0 by decide,if_true]
   by_cases h:i < 0
   ·simp only [h,if_true] <;> omega
   ·simp only [h,if_false] <;> omega
theorem Qkn (its:List Value) (lo hi:Option Int):slicePick its.toArray lo hi none=((its.drop (HT.sIx its.length 0 lo)).take (HT.sIx its.length its.length hi - HT.sIx its.length 0 lo)).toArray:=by
 obtain ⟨h1,h2,h3⟩:=QhA lo hi its.toArray.size;unfold slicePick;rw [h1,h2,h3]
 simp only [sliceRange_one,pick_run,zn] <;> rfl
def Qvl (K:PySem.W.Frag):V→Option Int→Option Int→Hp→VK→Prop:=fun x lo hi H Q=>∃a xs,x = .ref a∧SqL K H a xs∧∀p,H p=none→Q (.ref p) (upd H p (.lst (QgJ xs lo hi)))
theorem Qrh:SlR X (Qvl X.K):=by
 intro pins s σ H x v vl vu lo hi sl Q I rx hs pl pu h;obtain ⟨a,xs,rfl,hx,q⟩:=h;cases rx;obtain ⟨its,r,ht,hz⟩:=I.list hx;have hlen:=r.length;refine ⟨"list",_,slot_list_getitem.lookup,ht.isList.typeIs,?_⟩;refine wpAny_getItem_list_slice ht.isList hs pl pu .none (by simp) ?_ (by rw [zn] <;> omega);rw [Qkn,←hlen];refine ⟨.ref s.heap.objs.size,_,I.laid (t':=s.toks) (o:=.lst (QgJ xs lo hi)) (fun b ob q=>zh _ q) (zc _) ?_,rfl,q _ (I.hok.fresh (zc _))⟩;exact ⟨zt (Qio xs lo hi) hz,_,0,(r.drop (HT.sIx xs.length 0 lo)).take (HT.sIx xs.length xs.length hi - HT.sIx xs.length 0 lo),zD _ rfl⟩
def QeE:V→Bool
 | .non=>true
 | .bl _=>true
 | .int _=>true
 | .str _=>true
 | _=>false
def eqV:V→V→Bool
 | .non,.non=>true
 | .bl a,.bl b=>a == b
 | .bl a,.int b=>(if a then 1 else 0) == b
 | .int a,.bl b=>a == (if b then 1 else 0)
 | .int a,.int b=>a == b
 | .str a,.str b=>a == b
 | _,_=>false
theorem QtP {A:Around}{s:Shared}{y x:V}{u v:Value} (ry:RelV y u) (rx:RelV x v) (fy:QeE y=true) (fx:QeE x=true):SeqAt.EqAt A s u v (eqV y x):=by
 cases y with
 | non =>
  cases ry
  cases x with
  | non=>cases rx; exact SeqAt.EqAt.same _
  | bl b=>cases rx; exact SeqAt.EqAt.none_bool b
  | int b=>obtain ⟨t,rfl⟩:=rx; exact SeqAt.EqAt.none_int b t
  | str b=>obtain ⟨t,rfl⟩:=rx; exact SeqAt.EqAt.none_str b t
  | _=>exact absurd (show false=true from fx) zg
 | bl a =>
  cases ry
  cases x with
  | non=>cases rx; exact SeqAt.EqAt.bool_none a
  | bl b=>cases rx; exact SeqAt.EqAt.bool_bool a b
  | int b=>obtain ⟨t,rfl⟩:=rx; exact SeqAt.EqAt.bool_int a b t
  | str b=>obtain ⟨t,rfl⟩:=rx; exact SeqAt.EqAt.bool_str a b t
  | _=>exact absurd (show false=true from fx) zg
 | int a =>
  obtain ⟨t',rfl⟩:=ry
  cases x with
  | non=>cases rx; exact SeqAt.EqAt.int_none a t'
  | bl b=>cases rx; exact SeqAt.EqAt.int_bool a t' b
  | int b=>obtain ⟨t,rfl⟩:=rx; exact SeqAt.EqAt.int_int a t' b t
  | str b=>obtain ⟨t,rfl⟩:=rx; exact SeqAt.EqAt.int_str a t' b t
  | _=>exact absurd (show false=true from fx) zg
 | str a =>
  obtain ⟨t',rfl⟩:=ry
  cases x with
  | non=>cases rx; exact SeqAt.EqAt.str_none a t'
  | bl b=>cases rx; exact SeqAt.EqAt.str_bool a t' b
  | int b=>obtain ⟨t,rfl⟩:=rx; exact SeqAt.EqAt.str_int a t' b t
  | str b=>obtain ⟨t,rfl⟩:=rx; exact SeqAt.EqAt.str_str a t' b t
  | _=>exact absurd (show false=true from fx) zg
 | _=>exact absurd (show false=true from fy) zg
def eqU (x:V) (u:Value):Bool:=match u with
 | .none=>eqV .non x
 | .bool b=>eqV (.bl b) x
 | .int i _=>eqV (.int i) x
 | .str z _=>eqV (.str z) x
 | _=>false
theorem QnW {x y:V}{u:Value} (r:RelV y u) (f:QeE y=true):eqU x u=eqV y x:=by
 cases y with
 | non=>cases r; rfl
 | bl b=>cases r; rfl
 | int i=>obtain ⟨t,rfl⟩:=r; rfl
 | str z=>obtain ⟨t,rfl⟩:=r; rfl
 | _=>exact absurd (show false=true from f) zg
theorem QjD {x:V}:∀{xs:List V}{us:List Value},QaC xs us→xs.all QeE=true→us.any (eqU x)=xs.any fun y=>eqV y x
 | _,_,.nil,_=>rfl
 | y::xs,u::us,.cons r t,f=>by
  rw [List.all_cons,zf] at f;rw [List.any_cons,List.any_cons,QnW r f.1,QjD t f.2]
theorem Qiv {A:Around}{s:Shared}{x:V}{v:Value} (rx:RelV x v) (fx:QeE x=true):∀{xs:List V}{us:List Value},QaC xs us→xs.all QeE=true→∀u∈us,SeqAt.EqAt A s u v (eqU x u)
 | _,_,.nil,_=>fun u hu=>by cases hu
 | y::xs,u::us,.cons r t,f=>fun u' hu=>by
  rw [List.all_cons,zf] at f
  rcases zj.mp hu with rfl | hu
  ·rw [QnW r f.1]; exact QtP r rx f.1 fx
  ·exact Qiv rx fx t f.2 u' hu
def inV (x:V) (xs:List V):Bool:=xs.any fun y=>eqV y x
def rIn (K:PySem.W.Frag) (neg:Bool):R2:=fun x y H Q=>∃p xs,y = .ref p∧(SqL K H p xs∨SqT K H p xs)∧QeE x=true∧xs.all QeE=true∧Q (.bl (if neg then !inV x xs else inV x xs)) H
theorem Qow:OpR X (compareOp .In) (rIn X.K false):=by
 intro pins s σ H x y v u Q I rx ry h;obtain ⟨p,xs,rfl,hq,fx,fs,q⟩:=h;cases ry
 rcases hq with hq | hq
 ·obtain ⟨its,r,pl,hz⟩:=I.list hq;refine SeqAt.in_listAt (eqU x) pl.isList (fun w hw=>Qiv rx fx r fs w (by simpa using hw)) ⟨.bl _,H,I,rfl,?_⟩;rw [show its.toArray.any (eqU x)=its.any (eqU x) by simp,QjD r fs];exact q
 ·obtain ⟨its,r,pl,hz⟩:=I.tuple hq;refine SeqAt.in_tupleAt (eqU x) pl (fun w hw=>Qiv rx fx r fs w (by simpa using hw)) ⟨.bl _,H,I,rfl,?_⟩;rw [show its.toArray.any (eqU x)=its.any (eqU x) by simp,QjD r fs];exact q
def tyV (K:PySem.W.Frag) (T:String) (x:V) (H:Hp):Prop:=match x with
 | .str _=>T = "str"
 | .int _=>T = "int"
 | .ref p=>(T = "list"∧∃xs,SqL K H p xs)∨(T = "tuple"∧∃o,K.lookup p=some o∧o.cls = .type "tuple"∧o.dict=none) ∨
   (T = "dict"∧((∃kvs,H p=some (.dK kvs))∨∃kvs,H p=some (.dT kvs)))∨(T = "set"∧∃S n,H p=some (.set S n))
 | _=>False
theorem Qth {pins:List (Addr×Obj)}{σ:St}{H:Hp}{s:Shared}{T:String}{x:V}{v:Value} (I:Inv X pins σ H s) (r:RelV x v) (ty:tyV X.K T x H) :
  s.TypeIs v T∧∀a,v = .ref a→∃ob,s.heap.get? a=some ob∧ob.dict=none:=by
 cases x with
 | str z =>
  obtain ⟨t,rfl⟩:=r;cases (show T = "str" from ty);exact ⟨typeIs_str s z t,fun _ e=>nomatch e⟩
 | int i =>
  obtain ⟨t,rfl⟩:=r;cases (show T = "int" from ty);exact ⟨typeIs_int s i t,fun _ e=>nomatch e⟩
 | ref p =>
  cases r
  rcases ty with ⟨rfl,xs,hq⟩ | ⟨rfl,o,hk,hc,hd⟩ | ⟨rfl,hk⟩ | ⟨rfl,S,n,hk⟩
  ·obtain ⟨its,_,pl,_⟩:=I.list hq;refine ⟨pl.isList.typeIs,fun a e=>?_⟩;cases e;obtain ⟨o,n,e,c,hd,_⟩:=pl;exact ⟨o,e,hd⟩
  ·refine ⟨⟨o,I.kIn p o hk,hc⟩,fun a e=>?_⟩;cases e;exact ⟨o,I.kIn _ o hk,hd⟩
  ·have z:∃o,s.heap.get? p=some o∧o.ExactDict:=by
    rcases hk with ⟨kvs,hk⟩ | ⟨kvs,hk⟩
    ·obtain ⟨_,_,_,_,o,_,_,e,ex,_⟩:=I.hok p _ hk;exact ⟨o,e,ex⟩
    ·obtain ⟨_,_,_,_,o,_,_,e,ex,_⟩:=I.hok p _ hk;exact ⟨o,e,ex⟩
   obtain ⟨o,e,ex⟩:=z;refine ⟨⟨o,e,ex.1⟩,fun a e2=>?_⟩;cases e2;exact ⟨o,e,ex.2.1⟩
  ·obtain ⟨o,_,_,_,e,ex,_⟩:=I.hok p _ hk;refine ⟨⟨o,e,ex.1⟩,fun a e2=>?_⟩;cases e2;exact ⟨o,e,ex.2.1⟩
 | _=>exact False.elim ty
def tBM (K:PySem.W.Frag) (T:String) (r:V→List V→Hp→VK→Prop) (to:TE) (t:TA):TE:=fun σ H Q=>to σ H fun x H1=>tyV K T x H1∧t σ H1 fun xs H2=>r x xs H2 Q
variable {o e:Expr}{es:List Expr}{to:TE}{t:TA}{name:Str}{apos cpos:Pos}{T id:String}{r:V→List V→Hp→VK→Prop}
theorem Qi0 (pa:PlainAttrs T) (slot:Slot T name id) (hty:typeOf (.builtin id)=pure (.type "method_descriptor")) (hm:MtR X id r) (ho:PE X o to) (ha:PA X (e::es) t)
  (hbase:attributeBase o name X.env (eval o X.env)=eval o X.env:=by rfl)
  (hfew:((backTo cpos (starEach (e::es) X.env)).all (fun x=>!x.1)&&(backToKw cpos (keywordEach [] X.env)).all (fun x=>x.1.isSome)
   && decide ((e::es).length+([]:List Keyword).length+(if ([]:List Keyword).isEmpty then 0 else 1) < 30))=true:=by rfl)
  (hline:(apos.endLine == cpos.line)=true:=by rfl) (hs:starEach (e::es) X.env=(false,eval e X.env)::starEach es X.env:=by rfl) (hplain:(backTo cpos (starEach es X.env)).any (·.1)=false:=by rfl) :
  PE X (.Call (.Attribute o name apos) (e::es) [] cpos) (tBM X.K T r to t):=by
 intro pins s σ H Q I h;refine wpAny_Call_method_late hbase hfew hline rfl (thn (ho pins s σ H _ I h) fun v s1 ⟨x,H1,I1,r1,ty,q1⟩=>?_);obtain ⟨h1,h2⟩:=Qth I1 r1 ty;refine ⟨T,id,pa,slot,hty,h1,h2,?_⟩;have hA:=ha cpos pins s1 σ H1 _ I1 q1;rw [hs] at hA ⊢;refine Calls.callWith_builtin (by show (false || (backTo cpos (starEach es X.env)).any (·.1))=false; rw [hplain] <;> rfl) (Calls.evalArgs_plain ?_)
 exact thn hA fun us s2 ⟨vs,H2,I2,r2,q2⟩=>hm pins s2 σ H2 x vs v us Q I2 r1 r2 q2
/- xs.append(e),list.index on a module's tuple .. are MtR facts of 06m -/
end
def MtM (X:Cx) (id:String) (r:V→List V→Hp→VK→Prop):Prop :=
 ∀(pins:List (Addr×Obj)) (s:Shared) (σ:St) (H:Hp) (x:V) (xs:List V) (v:Value) (us:List Value) (Q:VK),Inv X pins σ H s→RelV x v→QaC xs us→r x xs H Q →
  wpAny (model X.prog X.w) X.A (call (.builtin id) (v::us)) (EP X pins σ Q) X.xe s
theorem QaC.one:∀{x:V}{us:List Value},QaC [x] us→∃u,us = [u]∧RelV x u
 | _,_,.cons r .nil=>⟨_,rfl,r⟩
theorem QaC.zero:∀{us:List Value},QaC [] us→us = []
 | _,.nil=>rfl
theorem QaC.rep {xs:List V}{us:List Value} (h:QaC xs us):∀k:Nat,QaC (List.replicate k xs).flatten (List.replicate k us).flatten
 | 0=>.nil
 | k+1=>by
  rw [List.replicate_succ,List.replicate_succ,List.flatten_cons,List.flatten_cons];exact QaC.append h (QaC.rep h k)
theorem foldl_rep (its:List Value):∀(k:Nat) (acc:List Value),
  List.foldl (fun x1 x2=>x1++x2) acc.toArray (List.replicate k its.toArray)=(acc++(List.replicate k its).flatten).toArray
 | 0,acc=>by simp
 | k+1,acc=>by
  have e:acc.toArray++its.toArray=(acc++its).toArray:=by simp
  have e2:(acc++its)++(List.replicate k its).flatten=acc++(List.replicate (k+1) its).flatten:=by
   rw [List.replicate_succ,List.flatten_cons,zO]
  rw [←e2,←foldl_rep its k (acc++its),←e,List.replicate_succ,List.foldl_cons]
section
variable {X:Cx}{pins:List (Addr×Obj)}{σ:St}{H:Hp}{s:Shared}{l b:Addr}{xs ys zs:List V}
theorem Inv.lset {its its':List Value}{n:Nat}{f:Array Value→Array Value}{t':Nat} (I:Inv X pins σ H s) (hH:H l=some (.lst xs))
  (e:s.heap.get? l=some { cls:=.type "list",data:=.seq its.toArray n }) (hf:f its.toArray=its'.toArray) (hv:QaC ys its') (hz:ys.length≤sizeLine) :
  Inv X pins σ (upd H l (.lst ys)) { s with heap:=s.heap.update l (Obj.mapSeq f),toks:=t' }:=by
 have q:=PySem.IsL.update e f;rw [hf] at q;refine I.write (x:=l) (e:=l) (by rw [hH]; exact trivial) (.inl rfl) (fun b' u hb hu=>(Heap.get?_update_other s.heap (Obj.mapSeq f) (Ne.symm hb)).trans hu) ⟨_,q⟩ ?_;exact ⟨hz,its',_,hv,q⟩
theorem Inv.lnew {its:List Value}{t':Nat} (I:Inv X pins σ H s) (hv:QaC ys its) (hz:ys.length≤sizeLine) :
  Inv X pins σ (upd H s.heap.objs.size (.lst ys)) { s with heap:=s.heap.push { cls:=.type "list",data:=.seq its.toArray },toks:=t' } :=
 I.laid (fun _ _ q=>zh _ q) (zc _) ⟨hz,its,0,hv,zD _ rfl⟩
theorem Inv.fresh (I:Inv X pins σ H s):H s.heap.objs.size=none:=I.hok.fresh (zc _)
theorem Inv.lstM (I:Inv X pins σ H s) (hH:H l=some (.lst xs)):xs.length≤sizeLine∧∃(its:List Value) (n:Nat),QaC xs its∧xs.length=its.length∧s.heap.get? l=some { cls:=.type "list",data:=.seq its.toArray n }:=by
 obtain ⟨z,its,n,r,e⟩:=I.hok l _ hH;exact ⟨z,its,n,r,r.length,e⟩
theorem QgW {n:Nat} (h:n≤sizeLine):Builtin.List.listTooLong n=false:=by
 unfold Builtin.List.listTooLong;exact zp (by omega)
end
section
variable {X:Cx}
def QrP:V→List V→Hp→VK→Prop:=fun x vs H Q=>∃l xs y,x = .ref l∧vs = [y]∧H l=some (.lst xs)∧xs.length < sizeLine∧Q .non (upd H l (.lst (xs ++ [y])))
theorem QnG:MtM X "list.append" QrP:=by
 intro pins s σ H x vs v us Q I rx rv h;obtain ⟨l,xs,y,rfl,rfl,hH,hz,q⟩:=h;cases rx;obtain ⟨u,rfl,ru⟩:=rv.one;obtain ⟨z,its,n,r,hl,e⟩:=I.lstM hH;refine call_meets F.slot_list_append ⟨_,e,rfl⟩ F.entry_list_append (F.args_list_append_2 _ _) (PySem.list_append l its.toArray n u (by rw [zn]; omega)) ⟨e,?_⟩;refine ⟨.non,_,I.lset (its':=its ++ [u]) hH e (by simp) (r.append (.cons ru .nil)) ?_,rfl,q⟩;rw [zr,jc];omega
theorem len_rep {α:Type} (xs:List α) (k:Nat):(List.replicate k xs).flatten.length=k * xs.length:=by
 induction k with
 | zero=>simp
 | succ k ih=>rw [List.replicate_succ,List.flatten_cons,zr,ih,Nat.succ_mul,Nat.add_comm]
end
section
variable {prog:Program}{w:World}{A:Around}{E:Value→Shared→Prop}{s:Shared}
theorem QmJ {a c n:Nat} (hac:a≤c) (hc:c≤n):sliceBounds (some (a:Int)) (some (c:Int)) none n=((a:Int),(c:Int),1):=by
 simp only [sliceBounds,Option.getD_none]
 have h1:¬((a:Int) < 0):=by omega
 have h2:¬((c:Int) < 0):=by omega
 simp only [h1,h2,if_false,show (1:Int) > 0 by decide,if_true];congr 1
 ·omega
 ·congr 1; omega
set_option maxRecDepth 100000 in
theorem Qr3 {l b sl:Addr}{items new:Array Value}{n n2:Nat}{vl vu:Value}{a c:Nat}{Q:Unit→Shared→Prop}
  (e:s.heap.get? l=some { cls:=.type "list",data:=.seq items n }) (e2:s.heap.get? b=some { cls:=.type "list",data:=.seq new n2 }) (hne:l≠b)
  (hs:s.heap.IsSliceOf sl vl vu .none) (pl:IsPart vl (some (a:Int))) (pu:IsPart vu (some (c:Int))) (hac:a≤c) (hc:c≤items.size)
  (hsz:items.size+new.size≤sizeLine) (h:Q () { s with heap:=s.heap.update l (Obj.mapSeq fun xs=>xs.extract 0 a++new++xs.extract c xs.size) }) :
  wpAny (model prog w) A (setItem (.ref l) (.ref sl) (.ref b)) Q E s:=by
 have hl:s.heap.IsList l items:=PySem.IsL.isList e;have hb:s.heap.IsList b new:=PySem.IsL.isList e2;obtain ⟨os,hos,hcs,hds⟩:=id hs;have hTs:s.TypeIs (.ref sl) "slice":=⟨os,hos,hcs⟩;have hstep:¬((rawPart none == rawInt 0)=true):=zg
 have hsame:Builtin.List.listSameRef (.ref l) (.ref b)=false:=by
  unfold Builtin.List.listSameRef;exact beq_eq_false_iff_ne.mpr hne
 have hmax:(max (a:Int) (c:Int)).toNat=c:=by omega
 have hz':((fun xs:Array Value=>xs.extract 0 a++new++xs.extract c xs.size) items).size≤sizeLine+1:=by
  simp only [Array.size_append,Array.size_extract];omega
 unfold setItem
 try with_reducible refine zF ?_
 first | refine za (zb ?_) | skip
 refine za (wpAny_sequenceKey hl.typeIs (by decide) ?_)
 refine za (wpAny_callSpecial?_slot (name:=Str.ofString "__setitem__") hl.typeIs slot_list_setitem
  (wpAny_call_entry slot_list_setitem hl.typeIs entry_list_setitem ?_ (args_list_setitem _ _ _)))
 show wpAny _ _ (Builtin.List.listSubscript? (.ref sl) >>= _) _ _ s;refine za ?_;unfold Builtin.List.listSubscript?;refine za (wpAny_specialOf hTs slice_no_index ?_);simp only [Option.isNone_none,if_true];refine zb ?_;show wpAny _ _ (typeOf (.ref sl) >>= _) _ _ s;refine za (wpAny_typeOf hTs ?_)
 first
  | rw [if_neg (by decide)]
  | refine PySem.W.KFB.if_not (by decide) ?_
 rw [listSliceParts_eq];refine za (za (wpAny_field hos hds (x:=.none) rfl (za (wpAny_listPart .none ?_))));rw [if_neg hstep];refine za (wpAny_field hos hds (x:=vl) rfl (za (wpAny_listPart pl ?_)));refine za (wpAny_field hos hds (x:=vu) rfl (za (wpAny_listPart pu (zb ?_))))
 first
  | simp only [hsame,Bool.false_eq_true,if_false]
  | refine PySem.W.KFB.if_not hsame ?_
  | (dsimp only
     rw [if_neg (by rw [hsame]; exact zg)])
 refine za (m:=Builtin.List.listAllItems (.ref b) "must assign iterable to extended slice") ?_;unfold Builtin.List.listAllItems;refine za (wpAny_typeOf hb.typeIs ?_)
 first
  | refine PySem.W.KFB.if_so (by decide) ?_
  | rw [if_pos (by decide)]
  | simp only [beq_self_eq_true,Bool.true_or,if_true]
 unfold Builtin.List.listItems;refine za (wpAny_seqItems e2 rfl (zb ?_));refine za (za (wpAny_seqItems e rfl (zb ?_)));refine za (zR ((sliceIndices_raw (some (a:Int)) (some (c:Int)) none items.size (by simp)).trans (congrArg (pure:Int×Int×Int→Sem (Int×Int×Int)) (QmJ hac hc))) ?_);show wpAny _ _ (if ((1:Int) == 1)=true then _ else _) _ _ s;rw [if_pos (by decide)];refine za (zS ?_)
 first
  | simp only [QgW hsz,Bool.false_eq_true,if_false]
  | refine PySem.W.KFB.if_not (QgW hsz) ?_
 first | refine za (zb ?_) | skip
 show wpAny _ _ (updateSeq l (fun xs=>xs.extract 0 ((a:Int)).toNat++new++xs.extract (max (a:Int) (c:Int)).toNat xs.size) >>= _) _ _ s;rw [hmax,Int.toNat_natCast];refine za (wpAny_updateSeq (hz:=zt (Nat.le_add_right _ _) hsz) (_hz':=hz') e rfl ?_);refine za (wpAny_letGo ?_)
 first
  | exact za (zb (zb ⟨.none,rfl,zb h⟩))
  | exact zb ⟨.none,rfl,zb h⟩
end
section
variable {X:Cx}
end
end L2
namespace Att
open PySem PySem.W PySem.Calls PyProof.Rows
theorem Qja {P:Params}{h:Heap}:∀(ns:List Int) (vs:List Value),WellAll P h vs (ns.map WData.int)→IntsAre vs ns:=by
 intro ns
 induction ns with
 | nil =>
  intro vs w;rw [List.map_nil] at w;cases w;exact .nil
 | cons n ns ih =>
  intro vs w;rw [ze] at w
  cases w with
  | cons a b =>
   cases a;exact .cons _ _ (ih _ b)
theorem QoH {l:OpenLaw}{n:Nat} (hn:l.most=some n) {P:Params}{h:Heap}{args:List WData}{vals:List Value}
  (hpre:l.row.toRowW.claim.pre args=true) (hwl:WellAll P h vals args) :
  ∃a vs ns,vals = [Value.ref a]∧args = [WData.list (ns.map WData.int)]∧h.get? a=some { cls:=.type "list",data:=.seq vs.toArray }∧IntsAre vs ns∧ns.length≤n:=by
 have hsh:WShape.hasAll [] args [.list .int]=true:=(pre_splitW hpre).1;have hc:l.pre.holds [] { args:=args }=true:=(pre_splitW hpre).2;obtain ⟨d,r,rfl,h1,h2⟩:=hasAllW_cons hsh;obtain rfl:=hasAllW_nil h2;obtain ⟨xs,rfl,h3⟩:=hasW_list h1;obtain ⟨ns,rfl⟩:=items_int h3
 have hlen:ns.length≤n:=by
  unfold OpenLaw.pre at hc
  have h4:(WTm.not (.lt (.lit (.int (n:Int))) (.len (.arg 0)))).holds [] { args:=[.list (ns.map .int)] }=true:=by
   have h4:=(holds_andW hc).1;rw [hn] at h4;exact h4
  have h5:=condW_of h4 (w_not (w_lt w_lit (w_len_list (w_arg rfl))));rw [zI] at h5
  refine Nat.le_of_not_lt fun q=>?_
  have q':(n:Int) < ((ns.length:Nat):Int):=by omega
  first
   | (rw [zG q'] at h5; exact absurd h5 (by decide))
   | (simp at h5; omega)
 cases hwl with
 | cons w1 w2 =>
  cases w2
  cases w1 with
  | list ho hall=>exact ⟨_,_,ns,rfl,rfl,ho,Qja ns _ hall,hlen⟩
theorem Qno (l:OpenLaw) (args:List WData):l.row.toRowW.claim.post args (.bool true) args=true :=
 postW_of (r:=l.row.toRowW) (X:=(true == true))
  (show WShape.has [] (.bool true) .bool=true by first | rfl | decide | simp [WShape.has,WShape.arms,WShape.armsAll])
  (show (WTm.eq .res (.lit (.bool true))).value [] { args:=args,res:=some (.bool true),after:=args }=some (.bool (true == true)) from w_eq_bool (w_res rfl) w_lit) rfl
theorem attach_call {l:OpenLaw}{n:Nat}{q:Program}{loose:List Str}{XP:(Str→Option Value)→Heap→Prop}{YP:World→Heap→Prop}{d:DefRec}
  (hn:l.most=some n) (hdf:d.params.defaults = [])
  (call:∀(w:World) (s₀ s₁:Shared) (mg mb:Str→Option Value) (fa:Addr) (o:Obj) (pm cd doc:Value) (a:Addr) (vs:List Value) (ns:List Int),
   Ground q loose [] XP w s₀ mg mb s₁.heap→YP w s₁.heap →
   s₁.heap.get? fa=some o→o.data = .func (docDef d.name d.params d.body d.scope pm cd doc)→s₁.heap.CodeRec cd d.name→mg d.name=some (.ref fa) →
   s₁.heap.get? a=some { cls:=.type "list",data:=.seq vs.toArray }→IntsAre vs ns→ns.length≤n→s₁.gens = #[] →
   codeAny (model l.prog w) callerA (.call (.ref fa) ⟨[.ref a],[]⟩) (fun r s'=>r = .ok (.ret (.bool true))∧OldK s₁.heap s'.heap∧s'.os=s₁.os∧AllBare s'.gens) s₁) :
  WalkO q loose XP YP l.row.toRowW d [] (fun f vs=>PySem.call f vs):=by
 intro w s₀ s₁ mg mb G Y fa o pm cd doc dV kV ho hd hcd hD hmg hg args vals as hpre hlay hrd hwl hlo;obtain rfl:dV = .none:=Dflts.none hD hdf;obtain rfl:kV = .none:=Dflts.noKw hD;obtain ⟨a,vs,ns,rfl,rfl,hobj,hints,hlen⟩:=QoH hn hpre hwl;refine enter_call (codeAny_mono (call w s₀ s₁ mg mb fa o pm cd doc a vs ns G Y ho (fd_plain hd) hcd hmg hobj hints hlen hg) fun r s' hq=>?_);obtain ⟨rfl,h2,h3,h4⟩:=hq;exact ⟨.inl ⟨.bool true,.bool true,[],rfl,fun _=>rfl,.bool true,Qno l _,fun _=>⟨List.Pairwise.nil,fun _ hm=>(nomatch hm)⟩⟩,h2,h3,h4⟩
section
variable {prog:Program}{w:World}{A:Around}{E:Value→Shared→Prop}{s:Shared}{K:Frag}
end
end Att
namespace L2
open PySem PySem.Spec PyProof.Rows
theorem QhZ:∀{vs:List Value}{ns:List Int},IntsAre vs ns→QaC (ns.map V.int) vs
 | _,_,.nil=>.nil
 | _,_,.cons n t h=>.cons ⟨t,rfl⟩ (QhZ h)
def Qiy (H:Hp):Prop:=∀b,H b=none∨∃o xs,H b=some (.frz o (.lst xs))
theorem Qp6 {P:Program}{w:World}{K:PySem.W.Frag}{mg mb:Str→Option Value}{CX:CXT}{k:Nat}{fa a:Addr}{fd:FuncData}{x:Str}{sp:Sp}{s₁:Shared}{vs:List Value}{ns:List Int}
  (KX:K.In s₁.heap) (hns:s₁.heap.Ns mainGlobals mg) (hb:s₁.heap.Ns builtinsNs mb) (hbb:∀x:Str,x≠"__name__"→mb x=bootBuiltins x) (hlim:s₁.heap.NoLimit) (hg:s₁.gens = #[])
  (ha:s₁.heap.get? a=some { cls:=.type "list",data:=.seq vs.toArray }) (hi:IntsAre vs ns) (hl:ns.length≤sizeLine) (hr:QaJ k callerA)
  (F:∀base:Heap,K.In base→base.Ns mainGlobals mg→Qby P w K mg base CX k fa fd [x] sp) (hbind:∀(s:Shared) (u:Value),BindsTo s fd ⟨[u],[]⟩ [(x,u)])
  (hsp:∀H:Hp,Qiy H→SqL K H a (ns.map V.int)→sp [.ref a] H (fun v _=>v = .bl true) fun _ _ _=>False)
  (hCX:∀H e s',CX [] H s₁ (fun _ _ _=>False) e s'→False) :
  codeAny (model P w) callerA (.call (.ref fa) ⟨[.ref a],[]⟩) (fun r s'=>r = .ok (.ret (.bool true))∧OldK s₁.heap s'.heap∧s'.os=s₁.os∧AllBare s'.gens) s₁:=by
 have rv:=QhZ hi;have lenV:=hi.length;have core:∀H:Hp,Qiy H→SqL K H a (ns.map V.int)→HOk P w H s₁.heap→(∀b,H b≠none→b=a)→(H a≠none→K.lookup a=none) →
   codeAny (model P w) callerA (.call (.ref fa) ⟨[.ref a],[]⟩) (fun r s'=>r = .ok (.ret (.bool true))∧OldK s₁.heap s'.heap∧s'.os=s₁.os∧AllBare s'.gens) s₁:=by
  intro H hO hS hok hA hK
  have base_of:∀{b:Addr}{o:Obj},s₁.heap.get? b=some o→H b=none→(Qen s₁.heap H).get? b=some o:=fun e n=>Qk1 e n
  have noA:∀{b:Addr}{o:Obj}{es:Array DictEntry}{ep:Nat},s₁.heap.get? b=some o→o.data = .dict es ep→H b=none:=fun {b o es ep} e d=>by
   cases q:H b with
   | none=>rfl
   | some u =>
    have e':b=a:=hA b (by rw [q]; simp);subst e';rw [ha] at e; cases e;have d':Data.seq vs.toArray _=Data.dict es ep:=d;cases d'
  have nsK:∀{b:Addr}{m:Str→Option Value},s₁.heap.Ns b m→(Qen s₁.heap H).Ns b m:=fun {b m} ⟨o,es,ep,e,d,r⟩=>⟨o,es,ep,base_of e (noA e d),d,r⟩
  have hKb:K.In (Qen s₁.heap H):=fun b o e=>base_of (KX b o e) (by
   cases q:H b with
   | none=>rfl
   | some u =>
    have e':b=a:=hA b (by rw [q]; simp);subst e'
    rw [hK (by rw [q]; simp)] at e; cases e)
  have hM:Mod K mg (Qen s₁.heap H):=⟨hKb,nsK hns,⟨mb,nsK hb,hbb⟩,let ⟨mc,h1,h2⟩:=hlim; ⟨mc,nsK h1,h2⟩⟩;have e0:QdO P w K mg (Qen s₁.heap H) callerA [] s₁ H:=⟨rfl,hM,fun b o e=>QlH e,Nat.le_of_eq (Qj6 _ _),trivial,fun b hb=>absurd (show b∈([]:List Addr) from hb) (by simp),hok,.of_eq hg⟩
  refine codeAny_mono ((F _ hKb (nsK hns)).run callerA [] s₁ H ⟨[.ref a],[]⟩ [.ref a] [.ref a] _ _ hr e0 (hbind s₁ (.ref a)) (.cons rfl .nil) (hsp H hO hS)) fun r s' h=>?_
  cases r with
  | error e=>exact (hCX H e s' h).elim
  | ok fl =>
   cases fl with
   | next=>exact False.elim h
   | brk=>exact False.elim h
   | cont=>exact False.elim h
   | ret u =>
    obtain ⟨v,H',os,bare,un,hok',r',q⟩:=h;have q':v = .bl true:=q;subst q';obtain rfl:u=Value.bool true:=r';refine ⟨rfl,OldK.of_keep fun b o e=>?_,os,bare⟩
    cases q:H b with
    | none=>exact un.keep b o e q (by intro z; exact absurd (show b∈([]:List Addr) from z) (by simp)) (by simp)
    | some u =>
     rcases hO b with z | ⟨ob,xs,z⟩
     ·rw [q] at z; cases z
     ·have z2:=un.frzs b ob _ z;obtain ⟨e1,_⟩:=hok b _ z;obtain ⟨e2,_⟩:=hok' b _ z2;rw [e] at e1; cases e1;exact e2
 cases hk:K.lookup a with
 | some o =>
  have e:=KX a o hk;rw [ha] at e;cases e
  refine core (fun _=>none) (fun _=>.inl rfl) (.inr ⟨_,vs.toArray,_,hk,rfl,rfl,rfl,by rw [zn,lenV]; exact hl,by simpa using rv⟩) (fun b u z=>by have z':(none:Option HO)=some u:=z; cases z') (fun b z=>absurd rfl z) fun z=>absurd rfl z
 | none =>
  refine core (fun b=>if b=a then some (.frz { cls:=.type "list",data:=.seq vs.toArray } (.lst (ns.map V.int))) else none) (fun b=>?_) (.inl (.inr ⟨{ cls:=.type "list",data:=.seq vs.toArray },if_pos rfl⟩)) (fun b u z=>?_) (fun b z=>?_) fun _=>hk
  ·by_cases hb:b=a
   ·exact .inr ⟨_,_,if_pos hb⟩
   ·exact .inl (if_neg hb)
  ·by_cases hb:b=a
   ·have z':=(if_pos hb).symm.trans z;cases z';subst hb;exact ⟨ha,by rw [zI]; exact hl,vs,_,rv,ha⟩
   ·have z':=(if_neg hb).symm.trans z;cases z'
  ·by_cases hb:b=a
   ·exact hb
   ·exact absurd (if_neg hb) z
abbrev KOf {K:PySem.W.Frag}{h:Heap} (_:K.In h):PySem.W.Frag:=K
theorem walk_of {l:PySem.W.OpenLaw}{n k:Nat}{q:Program}{loose:List Str}{XP:(Str→Option Value)→Heap→Prop}{YP:World→Heap→Prop}{d:DefRec}{K:Params→PySem.W.Frag}{CX:World→CXT}{sp:World→Sp}{x:Str}
  (hn:l.most=some n) (hn2:n≤sizeLine) (hdf:d.params.defaults = []) (hr:QaJ k callerA)
  (hY:∀(w:World) (h:Heap),YP w h→(K w.params).In h)
  (F:∀(w:World) (mg:Str→Option Value) (fa:Addr) (h:Heap),(K w.params).In h→h.Ns mainGlobals mg→mg d.name=some (.ref fa) →
   ∃fd:FuncData,(∀(s:Shared) (u:Value),BindsTo s fd ⟨[u],[]⟩ [(x,u)]) ∧
    ∀base:Heap,(K w.params).In base→base.Ns mainGlobals mg→Qby l.prog w (K w.params) mg base (CX w) k fa fd [x] (sp w))
  (hsp:∀(w:World) (H:Hp) (a:Addr) (ns:List Int),ns.length≤n→Qiy H→SqL (K w.params) H a (ns.map V.int)→sp w [.ref a] H (fun v _=>v = .bl true) fun _ _ _=>False)
  (hCX:∀(w:World) (H:Hp) (s:Shared) (e:Value) (s':Shared),CX w [] H s (fun _ _ _=>False) e s'→False) :
  PySem.W.WalkO q loose XP YP l.row.toRowW d [] (fun f vs=>PySem.call f vs):=by
 refine Att.attach_call hn hdf fun w s₀ s₁ mg mb fa o pm cd doc a vs ns G Y ho hd hcd hmg hobj hints hlen hg=>?_
 have KX:=hY w _ Y;obtain ⟨fd,hb,hF⟩:=F w mg fa _ KX G.T.g hmg
 exact Qp6 KX G.T.g G.T.b G.T.builtins G.T.nolimit hg hobj hints (zt hlen hn2) hr hF hb (fun H hO hS=>hsp w H a ns hlen hO hS) fun H e s'=>hCX w H s₁ e s'
end L2
/- THE LAST THEOREM (shape; LID,My.* are yours):
   My.Adr: a structure of the addresses that your layer names (classes,functions); My.Txt K t: a structure (Prop) of the equations over K;
   My.txt_mk:{K}{implicit addresses ..} (e1:nsIn K mainGlobals "law" = some (some (.ref f))) (e2:K.lookup f=some ⟨oc,od,.func (fnOf "law" "law" params body scope dV kV doc pm an cdv ct),sl⟩) (e3:codeIn K cdv "law" = true) ..:∃t,My.Txt K t
set_option maxRecDepth 100000 in
set_option maxHeartbeats 0 in
theorem PySem.Challenge.cw_LID_holds : PySem.Challenge.rw_LID.Holds := by
 w_on; o_law; k_head; (case hw=>w_witness2)
 k_fill
 refine L2.walk_of (l:=PySem.Challenge.rw_LID) (n:=63) (k:=40) (x:="script") (CX:=fun w=>..) (sp:=fun _=>My.sp_law) rfl (by decide) rfl ⟨rfl,by decide,by decide⟩ (fun w h Y=>PySem.W.kIn_of Y) ?F ?S ?C
 case F =>
  intro w mg fa h KX G hmg
  have T:∃t,My.Txt (L2.KOf KX) t:=by
   dsimp only [L2.KOf]                          -- K must stand as «<heap const> w.params» for k_is
   refine' My.txt_mk ?e1 ?e2 ?e3 ..
   (case e1=>PySem.W.k_is)                    -- in the order: a name -> its address -> its object -> its parts
   (case e2=>PySem.W.k_is)
   ..
  obtain ⟨t,T⟩:=T;have e0:=hmg.symm.trans (PySem.W.mg_of KX G T.law);cases e0                                       -- fa is the law's own address
  exact ⟨_,fun s u=>.of_eq rfl,fun base kb nb=>My.law_fn T kb nb⟩     -- if «.of_eq rfl» comes too early: refine' ⟨_,?b,fun base kb nb=>My.law_fn T kb nb⟩; exact fun s u=>.of_eq rfl
 case S=>exact fun w H a ns hl hO hS=>..
 case C=>exact ..
(the tactic k_is has no namespace: write k_is) -/
namespace L2
open PySem PySem.Spec PyProof.Rows
def inClass (s:Stmt) (j:Nat):Stmt:=match s with
 | .ClassDef _ _ _ body _ _ _ _ _ _ _=>body.getD j (.Pass ⟨0,0,0,0⟩)
 | _=>.Pass ⟨0,0,0,0⟩
def Qba (s:Stmt):Arguments:=match s with
 | .FunctionDef _ a _ _ _ _ _ _ _ _=>a
 | _=>{ posonlyargs:=[],args:=[],vararg:=none,kwonlyargs:=[],kw_defaults:=[],kwarg:=none,defaults:=[] }
def QaP (s:Stmt):List Stmt:=match s with
 | .FunctionDef _ _ b _ _ _ _ _ _ _=>b
 | _=>[]
def Qah (s:Stmt):Scope:=match s with
 | .FunctionDef _ _ _ _ _ _ sc _ _ _=>sc
 | _=>{ kind:=.function,names:=[],isGenerator:=false,isCoroutine:=false }
abbrev CX0:CXT:=fun _ _ _ _ _ _=>False
abbrev E0:XK:=fun _ _ _=>False
theorem Qi1 {X:Cx}:Qeo CX0 X E0:=fun _ _ _ _ _ _ _ h=>h.elim
structure Fun (K:PySem.W.Frag) (x qual:Str) (st:Stmt) (f:Addr) (fd:FuncData):Prop where
 ex:∃(oc:Value) (od:Option Addr) (kV doc pm:Value) (an:Option Addr) (cdv ct:Value) (osl:Array (Option Value)),
  fd=PySem.W.fnOf x qual (Qba st) (QaP st) (Qah st) .none kV doc pm an cdv ct∧K.lookup f=some ⟨oc,od,.func fd,osl⟩∧PySem.W.codeIn K cdv qual=true
 kp:PySem.W.keepIn K (.ref f)=true
section
variable {P:Program}{w:World}{K:PySem.W.Frag}{mg:Str→Option Value}{base:Heap}
theorem Fun.ok {x qual:Str}{st:Stmt}{f:Addr}{fd:FuncData}{N ps:List Str}{k:Nat}{sp:Sp} (F:Fun K x qual st f fd) (S:QaK N ps (Qah st)) (len:∀vs H Q E,sp vs H Q E→vs.length=ps.length)
  (hbody:∀(cdv:Value) (A:Around) (outer:List Env) (s:Shared) (H:Hp) (vs:List V) (Q:VK) (E:XK),QaJ k (A.deeper (envOfC qual (Qah st) s.heap.objs.size f cdv))→sp vs H Q E →
   ∃t,PSs (Qb7 CX0 P w K mg base N qual (Qah st) f cdv A outer s H E).nox (QaP st) t∧t { nx:=fun _ H'=>Q .non H',rt:=Q } (start N vs) H):Qby P w K mg base CX0 (k+1) f fd ps sp:=by
 obtain ⟨oc,od,kV,doc,pm,an,cdv,ct,osl,rfl,lk,hcd⟩:=F.ex
 refine QmR lk hcd S len fun A outer s H vs Q E hr hsp=>?_
 obtain ⟨t,h,q⟩:=hbody cdv A outer s H vs Q E hr hsp;exact ⟨t,h.nox,q⟩
theorem Fun.binds {x qual:Str}{st:Stmt}{f:Addr}{fd:FuncData}{ps:List Str} (F:Fun K x qual st f fd)
  (h:∀(kV doc pm:Value) (an:Option Addr) (cdv ct:Value) (us:List Value),us.length=ps.length→bindArgs (PySem.W.fnOf x qual (Qba st) (QaP st) (Qah st) .none kV doc pm an cdv ct) ⟨us,[]⟩=pure (ps.zip us)):Binds K fd ps []:=by
 obtain ⟨oc,od,kV,doc,pm,an,cdv,ct,osl,rfl,lk,hcd⟩:=F.ex;exact .all (h kV doc pm an cdv ct)
theorem Qd6 {x qual:Str}{st:Stmt}{f:Addr}{oc:Value}{od an:Option Addr}{osl:Array (Option Value)}{kV doc pm cdv ct:Value} (l:K.lookup f=some ⟨oc,od,.func (PySem.W.fnOf x qual (Qba st) (QaP st) (Qah st) .none kV doc pm an cdv ct),osl⟩)
  (c:PySem.W.codeIn K cdv qual=true) (k:PySem.W.keepIn K (.ref f)=true):Fun K x qual st f (PySem.W.fnOf x qual (Qba st) (QaP st) (Qah st) .none kV doc pm an cdv ct):=⟨⟨oc,od,kV,doc,pm,an,cdv,ct,osl,rfl,l,c⟩,k⟩
end
section
variable {X:Cx}
end
def Same (H H':Hp):Prop:=∀b o,H b=some o→H' b=some o
theorem Same.refl (H:Hp):Same H H:=fun _ _ h=>h
theorem Same.trans {H H1 H2:Hp} (a:Same H H1) (b:Same H1 H2):Same H H2:=fun c o h=>b c o (a c o h)
theorem Same.free {H H':Hp} (e:Same H H') {l:Addr} (h:H' l=Option.none):H l=Option.none:=by
 cases q:H l with
 | none=>rfl
 | some o =>
  rw [e l o q] at h;cases h
theorem Same.seq {K:PySem.W.Frag}{H H':Hp}{a:Addr}{xs:List V} (e:Same H H') (h:SqL K H a xs):SqL K H' a xs:=by
 rcases h with (h | ⟨o,h⟩) | h
 ·exact .inl (.inl (e _ _ h))
 ·exact .inl (.inr ⟨o,e _ _ h⟩)
 ·exact .inr h
section
variable {κ:Type} [DecidableEq κ]
def QdA (kvs:List (κ×V)) (k:κ):Option V:=(kvs.find? fun kv=>decide (kv.1=k)).map (·.2)
def putK (kvs:List (κ×V)) (k:κ) (v:V):List (κ×V) :=
 if (kvs.any fun kv=>decide (kv.1=k))=true then kvs.map (fun kv=>if kv.1=k then (kv.1,v) else kv) else kvs ++ [(k,v)]
def QqA (kvs:List (κ×V)) (k:κ):List (κ×V):=kvs.filter fun kv=>decide (kv.1≠k)
theorem QfF {p:κ×V}{r:List (κ×V)}{k:κ} (e:p.1=k):QdA (p::r) k=some p.2:=by simp [QdA,List.find?_cons,e]
theorem Qfs {p:κ×V}{r:List (κ×V)}{k:κ} (e:¬p.1=k):QdA (p::r) k=QdA r k:=by simp [QdA,List.find?_cons,e]
theorem QkK (k:κ):∀kvs:List (κ×V),(kvs.any fun kv=>decide (kv.1=k))=(QdA kvs k).isSome
 | []=>rfl
 | p::r=>by
  rw [List.any_cons]
  by_cases e:p.1=k
  ·simp only [QfF e,zG e,Bool.true_or,Option.isSome_some]
  ·rw [Qfs e,zp e,Bool.false_or]; exact QkK k r
theorem Qc4.isSome_eq {o:Option V}{u:Option Value} (r:Qc4 o u):o.isSome=u.isSome:=by
 cases o with
 | none=>cases u with
  | none=>rfl
  | some _=>exact (show False from r).elim
 | some _=>cases u with
  | none=>exact (show False from r).elim
  | some _=>rfl
theorem Qc4.getD {o:Option V}{u:Option Value}{d:V}{d':Value} (r:Qc4 o u) (rd:RelV d d'):RelV (o.getD d) (u.getD d'):=by
 cases o with
 | none=>cases u with
  | none=>exact rd
  | some _=>exact (show False from r).elim
 | some _=>cases u with
  | none=>exact (show False from r).elim
  | some _=>exact r
theorem KV.val {kvs:List (κ×V)}{vs:List (κ×Value)} (r:KV kvs vs) (k:κ):Qc4 (QdA kvs k) (valueAt vs k):=by
 unfold KV at r
 induction r with
 | nil=>exact True.intro
 | @cons p q ps qs h t ih =>
  obtain ⟨h1,h2⟩:=h
  by_cases e:p.1=k
  ·have e':q.1=k:=h1.symm.trans e
   have b:valueAt (q::qs) k=some q.2:=by simp [valueAt,List.find?_cons,e']
   rw [QfF e,b]; exact h2
  ·have e':¬q.1=k:=fun z=>e (h1.trans z)
   have b:valueAt (q::qs) k=valueAt qs k:=by simp [valueAt,List.find?_cons,e']
   rw [Qfs e,b]; exact ih
theorem KV.any {kvs:List (κ×V)}{vs:List (κ×Value)} (r:KV kvs vs) (k:κ):(kvs.any fun kv=>decide (kv.1=k))=vs.any fun kv=>decide (kv.1=k):=by
 unfold KV at r
 induction r with
 | nil=>rfl
 | cons h t ih=>rw [List.any_cons,List.any_cons,ih,h.1]
theorem KV.repl {kvs:List (κ×V)}{vs:List (κ×Value)} (r:KV kvs vs) (k:κ) {y:V}{u:Value} (ry:RelV y u) :
  KV (kvs.map fun kv=>if kv.1=k then (kv.1,y) else kv) (vs.map fun kv=>if kv.1=k then (kv.1,u) else kv):=by
 unfold KV at r ⊢
 induction r with
 | nil=>exact .nil
 | @cons p q ps qs h t ih =>
  rw [ze,ze];refine .cons ?_ ih;obtain ⟨h1,h2⟩:=h
  by_cases e:p.1=k
  ·rw [if_pos e,if_pos (h1.symm.trans e)]; exact ⟨h1,ry⟩
  ·rw [if_neg e,if_neg (fun z=>e (h1.trans z))]; exact ⟨h1,h2⟩
theorem KV.put {kvs:List (κ×V)}{vs:List (κ×Value)} (r:KV kvs vs) (k:κ) {y:V}{u:Value} (ry:RelV y u):KV (putK kvs k y) (stored vs k u):=by
 unfold putK stored;rw [r.any k]
 by_cases e:(vs.any fun kv=>decide (kv.1=k))=true
 ·rw [if_pos e,if_pos e]; exact r.repl k ry
 ·rw [if_neg e,if_neg e]; exact Paired.snoc r ⟨rfl,ry⟩
theorem KV.drop {kvs:List (κ×V)}{vs:List (κ×Value)} (r:KV kvs vs) (k:κ):KV (QqA kvs k) (without vs k):=by
 unfold KV at r ⊢;unfold QqA without
 induction r with
 | nil=>exact .nil
 | @cons p q ps qs h t ih =>
  obtain ⟨h1,h2⟩:=h;rw [List.filter_cons,List.filter_cons]
  by_cases e:p.1=k
  ·have a:¬decide (p.1≠k)=true:=by simp [e]
   have b:¬decide (q.1≠k)=true:=by simp [h1.symm.trans e]
   rw [if_neg a,if_neg b]; exact ih
  ·have e':¬q.1=k:=fun z=>e (h1.trans z)
   have a:decide (p.1≠k)=true:=by simp [e]
   have b:decide (q.1≠k)=true:=by simp [e']
   rw [if_pos a,if_pos b]; exact .cons ⟨h1,h2⟩ ih
theorem KV.keys {kvs:List (κ×V)}{vs:List (κ×Value)} (r:KV kvs vs):kvs.map (·.1)=vs.map (·.1):=by
 unfold KV at r
 induction r with
 | nil=>rfl
 | cons h t ih=>rw [ze,ze,ih,h.1]
theorem KV.length {kvs:List (κ×V)}{vs:List (κ×Value)} (r:KV kvs vs):kvs.length=vs.length:=Paired.length r
end
abbrev KT (H:Hp):List (List Key×V)→List (List Key×Addr×Value)→Prop:=Paired fun p q=>p.1=q.1∧H q.2.1=some (.tup (p.1.map kV))∧RelV p.2 q.2.2
theorem KT.val {H:Hp}{kvs:List (List Key×V)}{xs:List (List Key×Addr×Value)} (r:KT H kvs xs) (k:List Key):Qc4 (QdA kvs k) ((atKey xs k).map (·.2)):=by
 induction r with
 | nil=>exact True.intro
 | @cons p q ps qs h t ih =>
  obtain ⟨h1,_,h2⟩:=h
  by_cases e:p.1=k
  ·have e':q.1=k:=h1.symm.trans e
   have b:atKey (q::qs) k=some q.2:=by simp [atKey,List.find?_cons,e']
   rw [QfF e,b]; exact h2
  ·have e':¬q.1=k:=fun z=>e (h1.trans z)
   have b:atKey (q::qs) k=atKey qs k:=by simp [atKey,List.find?_cons,e']
   rw [Qfs e,b]; exact ih
theorem KT.repl {H:Hp}{kvs:List (List Key×V)}{xs:List (List Key×Addr×Value)} (r:KT H kvs xs) (k:List Key) {y:V}{u:Value} (ry:RelV y u) :
  KT H (kvs.map fun kv=>if kv.1=k then (kv.1,y) else kv) (xs.map (putAt k u)):=by
 induction r with
 | nil=>exact .nil
 | @cons p q ps qs h t ih =>
  rw [ze,ze];refine .cons ?_ ih;obtain ⟨h1,h2,h3⟩:=h;unfold putAt
  by_cases e:p.1=k
  ·rw [if_pos e,if_pos (h1.symm.trans e)]; exact ⟨h1,h2,ry⟩
  ·rw [if_neg e,if_neg (fun z=>e (h1.trans z))]; exact ⟨h1,h2,h3⟩
theorem KT.put {H:Hp}{kvs:List (List Key×V)}{xs:List (List Key×Addr×Value)} (r:KT H kvs xs) (k:List Key) {b:Addr}{y:V}{u:Value} (hb:H b=some (.tup (k.map kV))) (ry:RelV y u) :
  KT H (putK kvs k y) (storedH xs k b u):=by
 have e:(kvs.any fun kv=>decide (kv.1=k))=(atKey xs k).isSome:=by
  rw [QkK,(r.val k).isSome_eq,Option.isSome_map]
 unfold putK storedH;rw [e]
 by_cases q:(atKey xs k).isSome=true
 ·rw [if_pos q,if_pos q]; exact r.repl k ry
 ·rw [if_neg q,if_neg q]; exact Paired.snoc r ⟨rfl,hb,ry⟩
theorem KT.keeps {H H':Hp}{kvs:List (List Key×V)}{xs:List (List Key×Addr×Value)} (r:KT H kvs xs) (ht:∀b ys,H b=some (.tup ys)→H' b=some (.tup ys)):KT H' kvs xs :=
 Paired.mapP r fun _ _ z=>⟨z.1,ht _ _ z.2.1,z.2.2⟩
section
variable {P:Program}{w:World}{H:Hp}{h:Heap}{a:Addr}
end
def Qm7 (H:Hp) (a:Addr) (y:V) (r:Option V):Prop :=
 (∃kvs k,Rd H a (.dK kvs)∧y=kV k∧r=QdA kvs k)∨∃kvs k b,Rd H a (.dT kvs)∧y = .ref b∧H b=some (.tup (k.map kV))∧r=QdA kvs k
def QmZ (H:Hp) (a:Addr) (y v:V) (H':Hp):Prop :=
 (∃kvs k,H a=some (.dK kvs)∧y=kV k∧kvs.length < sizeLine∧H'=upd H a (.dK (putK kvs k v))) ∨
 ∃kvs k b,H a=some (.dT kvs)∧y = .ref b∧H b=some (.tup (k.map kV))∧kvs.length < sizeLine∧H'=upd H a (.dT (putK kvs k v))
theorem Qm7.k {H:Hp}{a:Addr}{kvs:List (Key×V)}{k:Key} (e:H a=some (.dK kvs)):Qm7 H a (kV k) (QdA kvs k):=.inl ⟨kvs,k,.inl e,rfl,rfl⟩
theorem Qm7.t {H:Hp}{a b:Addr}{kvs:List (List Key×V)}{k:List Key} (e:H a=some (.dT kvs)) (eb:H b=some (.tup (k.map kV))):Qm7 H a (.ref b) (QdA kvs k):=.inr ⟨kvs,k,b,.inl e,rfl,eb,rfl⟩
theorem QmZ.k {H:Hp}{a:Addr}{kvs:List (Key×V)}{k:Key}{v:V} (e:H a=some (.dK kvs)) (hl:kvs.length < sizeLine):QmZ H a (kV k) v (upd H a (.dK (putK kvs k v))):=.inl ⟨kvs,k,e,rfl,hl,rfl⟩
theorem QmZ.t {H:Hp}{a b:Addr}{kvs:List (List Key×V)}{k:List Key}{v:V} (e:H a=some (.dT kvs)) (eb:H b=some (.tup (k.map kV))) (hl:kvs.length < sizeLine) :
  QmZ H a (.ref b) v (upd H a (.dT (putK kvs k v))):=.inr ⟨kvs,k,b,e,rfl,eb,hl,rfl⟩
section
variable {X:Cx}{pins:List (Addr×Obj)}{σ:St}{H:Hp}{s:Shared}{a:Addr}{y v:V}{u r:Value}{o:Option V}{A:Around}{E:Value→Shared→Prop}
theorem Inv.big (I:Inv X pins σ H s):sysModules < s.heap.objs.size:=by
 have h:mainGlobals < s.heap.objs.size:=(I.mod.glob.keeps I.bk).lt;exact Nat.lt_trans (by decide) h
end
section
variable {X:Cx}{pins:List (Addr×Obj)}{σ:St}{H:Hp}{s:Shared}{a:Addr}{kvs:List (Key×V)}{k:Key}{u:Value}{A:Around}{E:Value→Shared→Prop}
end
section
variable {X:Cx}{o i e value:Expr}{pos pos' tpos:Pos}{td ty tv:TE}
end
theorem Qpk {P:Program}{w:World}{H:Hp} (h:Heap) (hb:sysModules < h.objs.size):QbL P w H (h.push { cls:=.type "dict",data:=.dict #[] }) h.objs.size (.dK []) :=
 ⟨Nat.zero_le _,beq_eq_false_iff_ne.mpr (Ne.symm (zk hb)),[],.nil,Heap.DictOf.new h⟩
def Qto:TE:=fun _ H Q=>∀p,H p=none→Q (.ref p) (upd H p (.dK []))
section
variable {X:Cx}{pos:Pos}
theorem QpT:PE X (.Dict [] [] pos) Qto:=fun pins s σ H Q I h =>
 wpAny_Dict_empty ⟨.ref s.heap.objs.size,_,I.laid (a:=s.heap.objs.size) (o:=.dK []) (t':=s.toks) (fun _ _ q=>zh _ q) (zc _) (Qpk s.heap I.big),rfl,h _ (I.hok.fresh (zc _))⟩
end
def QkO:List (TE×TE)→St→Hp→(List (V×V)→Hp→Prop)→Prop
 | [],_,H,Q=>Q [] H
 | (tk,tv)::r,σ,H,Q=>tk σ H fun x H1=>tv σ H1 fun y H2=>QkO r σ H2 fun ps H3=>Q ((x,y)::ps) H3
abbrev VV:List (V×V)→List (Value×Value)→Prop:=Paired fun p q=>RelV p.1 q.1∧RelV p.2 q.2
def PPs (X:Cx) (pos:Pos) (keys:List (Option Expr)) (values:List Expr) (trs:List (TE×TE)):Prop :=
 ∀(pins:List (Addr×Obj)) (s:Shared) (σ:St) (H:Hp) (Q:List (V×V)→Hp→Prop),Inv X pins σ H s→QkO trs σ H Q →
  wpAny (model X.prog X.w) X.A (evalPairs (pairTrees keys values X.env pos)) (fun vs s'=>∃ps H',Inv X pins σ H' s'∧VV ps vs∧Q ps H') X.xe s
structure M1 (X:Cx) (o:Expr) (m:Str) (apos:Pos) (e:Expr) (cpos:Pos):Prop where
 base:attributeBase o m X.env (eval o X.env)=eval o X.env
 few:((backTo cpos (starEach [e] X.env)).all (fun x=>!x.1)&&(backToKw cpos (keywordEach [] X.env)).all (fun x=>x.1.isSome)
  && decide (([e]:List Expr).length+([]:List Keyword).length+(if ([]:List Keyword).isEmpty then 0 else 1) < 30))=true
 line:(apos.endLine == cpos.line)=true
 trees:backTo cpos (starEach [e] X.env) = [(false,eval e X.env)]
structure M2 (X:Cx) (o:Expr) (m:Str) (apos:Pos) (e f:Expr) (cpos:Pos):Prop where
 base:attributeBase o m X.env (eval o X.env)=eval o X.env
 few:((backTo cpos (starEach [e,f] X.env)).all (fun x=>!x.1)&&(backToKw cpos (keywordEach [] X.env)).all (fun x=>x.1.isSome)
  && decide (([e,f]:List Expr).length+([]:List Keyword).length+(if ([]:List Keyword).isEmpty then 0 else 1) < 30))=true
 line:(apos.endLine == cpos.line)=true
 trees:backTo cpos (starEach [e,f] X.env) = [(false,eval e X.env),(false,eval f X.env)]
section
variable {X:Cx}{pins:List (Addr×Obj)}{σ:St}{H:Hp}{s:Shared}{a:Addr}{y d:V}{u r:Value}{o:Option V}{A:Around}{E:Value→Shared→Prop}
end
section
variable {X:Cx}{o e f:Expr}{apos cpos:Pos}{td ty tx:TE}
end
section
variable {X:Cx}{pins:List (Addr×Obj)}{σ:St}{H:Hp}{s:Shared}{a:Addr}{kvs:List (Key×V)}{A:Around}{E:Value→Shared→Prop}
end
section
variable {X:Cx}{pins:List (Addr×Obj)}{σ:St}{H:Hp}{s:Shared}{a:Addr}{y:V}{u:Value}{A:Around}{E:Value→Shared→Prop}
end
section
variable {X:Cx}
end
section
variable {κ:Type} [DecidableEq κ]
end
def QdY (cells:List (Str×Addr)):List (Str×NameKind)→List (Str×Addr)→List (Str×Addr)
 | [],acc=>acc
 | (n,k)::r,acc=>if k == .free then QdY cells r ((n,(cells.lookup n).getD 0)::acc) else QdY cells r acc
def QeL (scope:Scope) (env:Env):List (Str×Addr):=QdY env.cells scope.names []
theorem Qkl {scope:Scope}{env:Env} (hf:∀y∈scope.names,y.2 = .free→∃c,env.cells.lookup y.1=some c):closureFor scope env=pure (QeL scope env):=by
 simp only [closureFor,QeL]
 generalize ([]:List (Str×Addr))=acc
 generalize scope.names=names at hf
 induction names generalizing acc with
 | nil=>rfl
 | cons y r ih =>
  obtain ⟨n,k⟩:=y
  have hr:=fun a=>ih a fun z hz=>hf z (zu _ hz)
  by_cases hk:k = .free
  ·obtain ⟨c,hc⟩:=hf (n,k) zw hk;have hc':env.cells.lookup n=some c:=hc;subst hk;simp only [List.forIn_cons,beq_self_eq_true,if_true,cellOf,hc',pure_bind,bind_assoc,QdY,Option.getD_some];exact hr _
  ·have hb:(k == NameKind.free)=false:=by simpa using hk
   simp only [List.forIn_cons,hb,Bool.false_eq_true,if_false,pure_bind,bind_assoc,QdY];exact hr _
theorem QfW {cells:List (Str×Addr)}{x:Str}{c:Addr}:∀{names:List (Str×NameKind)}{acc:List (Str×Addr)},(QdY cells names acc).lookup x=some c→acc.lookup x=some c∨(∃k,(x,k)∈names∧k = .free∧(cells.lookup x).getD 0=c)
 | [],acc,h=>.inl h
 | (n,k)::r,acc,h=>by
  unfold QdY at h
  by_cases hk:k = .free
  ·subst hk;simp only [beq_self_eq_true,if_true] at h
   rcases QfW h with z | ⟨k,hm,q⟩
   ·rw [List.lookup_cons] at z
    by_cases hx:x=n
    ·subst hx;simp at z;exact .inr ⟨.free,zw,rfl,z⟩
    ·have hb:(x == n)=false:=by simpa using hx
     rw [hb] at z;exact .inl z
   ·exact .inr ⟨k,zu _ hm,q⟩
  ·have hb:(k == NameKind.free)=false:=by simpa using hk
   simp only [hb,Bool.false_eq_true,if_false] at h
   rcases QfW h with z | ⟨k,hm,q⟩
   ·exact .inl z
   ·exact .inr ⟨k,zu _ hm,q⟩
theorem Qfj {cells:List (Str×Addr)}{x:Str}:∀{names:List (Str×NameKind)}{acc:List (Str×Addr)},((∃c,acc.lookup x=some c)∨(x,NameKind.free)∈names)→∃c,(QdY cells names acc).lookup x=some c
 | [],acc,h=>by
  rcases h with h | h
  ·exact h
  ·cases h
 | (n,k)::r,acc,h=>by
  unfold QdY
  by_cases hk:k = .free
  ·subst hk;simp only [beq_self_eq_true,if_true];refine Qfj ?_
   by_cases hx:x=n
   ·subst hx;exact .inl ⟨(cells.lookup x).getD 0,by simp [List.lookup_cons]⟩
   ·have hb:(x == n)=false:=by simpa using hx
    rcases h with ⟨c,h⟩ | h
    ·exact .inl ⟨c,by rw [List.lookup_cons,hb]; exact h⟩
    ·rcases zj.mp h with e | h
     ·cases e; exact absurd rfl hx
     ·exact .inr h
  ·have hb:(k == NameKind.free)=false:=by simpa using hk
   simp only [hb,Bool.false_eq_true,if_false];refine Qfj ?_
   rcases h with h | h
   ·exact .inl h
   ·rcases zj.mp h with e | h
    ·cases e; exact absurd rfl hk
    ·exact .inr h
def QcE (scope sc0:Scope):List (Str×NameKind) :=
 scope.names.map fun (n,k)=>if (k == .free&&sc0.kind == .function&&sc0.names.lookup n == some .cell) then (n,.cell) else (n,k)
theorem Qiq {scope sc0:Scope} (hc:∀y∈scope.names,y.2≠.cell) {x:Str}{k:NameKind} (h:(QcE scope sc0).lookup x=some k) (hk:k = .cell∨k = .free):(x,NameKind.free)∈scope.names:=by
 have hm:=PySem.mem_of_lookup h;unfold QcE at hm;obtain ⟨⟨n,k0⟩,h1,h2⟩:=zT.mp hm;dsimp only at h2
 by_cases hb:(k0 == NameKind.free&&sc0.kind == .function&&sc0.names.lookup n == some .cell)=true
 ·rw [if_pos hb] at h2
  have e:k0 = .free:=by
   simp only [zf,beq_iff_eq] at hb;exact hb.1.1
  cases h2;rw [←e]; exact h1
 ·rw [if_neg hb] at h2;cases h2
  rcases hk with e | e
  ·exact absurd e (hc _ h1)
  ·rw [←e]; exact h1
def Qbu (N0 own:List Str) (cap:List Nat):List Str:=own++cap.map fun j=>N0.getD j (Str.ofString "")
def compSt (own:List Str) (cap:List Nat) (σ:St):St:=own.map (fun _=>none)++cap.map fun j=>(σ[j]?).join
def Qjl (sc0:Scope) (N0:List Str) (scope:Scope) (own:List Str) (cap:List Nat):Bool :=
 (scope.kind == .function)&&scope.names.all (fun y=>y.2 != .cell)&&scope.names.all (fun y=>y.2 != .local || scope.names.lookup y.1 == some .local) &&
 scope.names.all (fun y=>y.2 != .free || sc0.names.lookup y.1 == some .cell || sc0.names.lookup y.1 == some .free) &&
 cap.all fun j=>decide (j < N0.length)&&scope.names.contains (N0.getD j (Str.ofString ""),NameKind.free)&&((QcE scope sc0).lookup (N0.getD j (Str.ofString "")) == some .cell || (QcE scope sc0).lookup (N0.getD j (Str.ofString "")) == some .free)
structure QeS (sc0:Scope) (N0:List Str) (scope:Scope) (own:List Str) (cap:List Nat):Prop where
 kind:scope.kind = .function
 nocell:∀y∈scope.names,y.2≠.cell
 names:∀y∈scope.names,y.2 = .local→scope.names.lookup y.1=some .local
 free:∀y∈scope.names,y.2 = .free→sc0.names.lookup y.1=some .cell∨sc0.names.lookup y.1=some .free
 cap:∀j∈cap,j < N0.length∧(N0.getD j (Str.ofString ""),NameKind.free)∈scope.names∧((QcE scope sc0).lookup (N0.getD j (Str.ofString ""))=some .cell∨(QcE scope sc0).lookup (N0.getD j (Str.ofString ""))=some .free)
theorem QeS.of {sc0:Scope}{N0:List Str}{scope:Scope}{own:List Str}{cap:List Nat} (h:Qjl sc0 N0 scope own cap=true):QeS sc0 N0 scope own cap:=by
 unfold Qjl at h;simp only [zf,jd,beq_iff_eq,bne_iff_ne,ne_eq,Bool.or_eq_true,decide_eq_true_eq,List.contains_iff_mem] at h;obtain ⟨⟨⟨⟨h1,h2⟩,h3⟩,h4⟩,h5⟩:=h;refine ⟨h1,h2,fun y hy e=>?_,fun y hy e=>?_,fun j hj=>?_⟩
 ·rcases h3 y hy with z | z
  ·exact absurd e z
  ·exact z
 ·rcases h4 y hy with (z | z) | z
  ·exact absurd e z
  ·exact .inl z
  ·exact .inr z
 ·obtain ⟨⟨a,b⟩,c⟩:=h5 j hj;exact ⟨a,b,c⟩
def Qbk (X:Cx) (scope:Scope) (C:Addr) (N':List Str) (s:Shared) (H:Hp) (ex:List Addr):Cx where
 prog:=X.prog
 w:=X.w
 K:=X.K
 mg:=X.mg
 base:=X.base
 A:=X.A
 N:=N'
 s₀:=s
 H₀:=H
 env:=compEnvC scope (QeL scope X.env) C X.env
 outer:=X.stack
 stack:=X.stack
 ex:=ex
 fn:=fun _=>false
 calm:=X.calm
 pn:=[]
 xe:=fun _ _=>False
section
variable {X:Cx}
def Qjv (X:Cx) (ifs:List Expr) (t:TT):Prop :=
 ∀(pins:List (Addr×Obj)) (s:Shared) (σ:St) (H:Hp) (Q:Bool→Hp→Prop),Inv X pins σ H s→t σ H Q →
  wpAny (model X.prog X.w) X.A (forIn ifs true fun c r=>if r=true then do let ok ←isTrue c X.env (eval c X.env); pure (ForInStep.yield ok) else pure (ForInStep.yield r)) (TP X pins σ Q) X.xe s
def Qu4:TT:=fun _ H Q=>Q true H
theorem Qo6:Qjv X [] Qu4:=fun _ _ _ H _ I h=>wpAny_tests_nil ⟨H,I,h⟩
end
def Qqr (J:It) (g:TG) (tt:TT) (te:TE) (Q:List V→Hp→Prop) (σ0:St) (H1:Hp):Prop :=
 ∃W:Nat→Nat→List V→St→Hp→Prop,(∃m,W 0 m [] σ0 H1)∧∀i m ys σ H,W i m ys σ H →
  (J.stop i H∧Q ys H)∨(J.go i H∧ys.length < sizeLine∧∃N:List V→St→Hp→Prop,(∀ys σ' H',N ys σ' H'→∃m',m' < m∧W (i+1) m' ys σ' H')∧∀x H',J.yld i H x H'→g x σ H' fun σ2 H2=>tt σ2 H2 fun b H3 =>
   if b=true then te σ2 H3 fun y H4=>N (ys ++ [y]) σ2 H4 else N ys σ2 H3)
def Qqd (wi:TI) (own:List Str) (cap:List Nat) (g:TG) (tt:TT) (te:TE):TE:=fun σ H Q =>
 wi σ H fun J H1=>Qqr J g tt te (fun ys H'=>ys.length≤sizeLine∧∀p,H' p=none→Q (.ref p) (upd H' p (.lst ys))) (compSt own cap σ) H1
section
variable {prog:Program}{w:World}{A:Around}{R:Result→Shared→Prop}{s:Shared}
theorem Qhb {elt target iter:Expr}{ifs:List Expr}{scope:Scope}{pos:Pos}{it acc:Value}{env:Env} (I:Nat→Shared→Prop)
  (turn:∀n s,I n s→wpAny (model prog w) A (pyNext it) (fun r s₁=>match r with
   | none=>R (.ok .next) s₁
   | some v=>wpAny (model prog w) A (letOwnedTupleGo target it v) (fun _ s₁'=>wpAny (model prog w) A (assign target env v) (fun _ s₂ =>
     wpAny (model prog w) A (forIn ifs true fun c r=>if r=true then do let ok ←isTrue c env (eval c env); pure (ForInStep.yield ok) else pure (ForInStep.yield r)) (fun ok s₃ =>
      if ok=true then wpAny (model prog w) A (eval elt env) (fun x s₄ =>
       wpAny (model prog w) A (call (.builtin "list.append") [acc,x]) (fun _ s₅=>∃m,m < n∧I m s₅) (fun _ _=>False) s₄) (fun _ _=>False) s₃
      else ∃m,m < n∧I m s₃) (fun _ _=>False) s₂) (fun _ _=>False) s₁') (fun _ _=>False) s₁) (fun _ _=>False) s)
  (n:Nat) (h:I n s) :
  codeAny (model prog w) A (.compLoop (.ListComp elt [⟨target,iter,ifs,0⟩] scope pos) 0 it acc env) R s:=by
 refine codeAny_loop rfl I (fun n s hI=>?_) n h;show wpAny _ A ((compTurn (.ListComp elt [⟨target,iter,ifs,0⟩] scope pos) 0 it acc env).onRaise (fun x=>do noteFrame x env; theTreesLotGoes x)) _ _ s;refine wpAny_noted ?_;rw [compTurn_list];refine za (wpAny_standAt (za (zm (turn n s hI) (fun r s₁ h₁=>?_) fun _ _ h'=>h'.elim)))
 cases r with
 | none=>exact zb h₁
 | some v =>
  refine za (zm h₁ (fun _ s₁' h₁'=>?_) fun _ _ h'=>h'.elim);refine za (zm h₁' (fun _ s₂ h₂=>za (zm h₂ (fun ok s₃ h₃=>?_) fun _ _ h'=>h'.elim)) fun _ _ h'=>h'.elim)
  cases ok with
  | false=>exact zb ⟨rfl,h₃⟩
  | true =>
   exact za (za (zm h₃ (fun x s₄ h₄=>za (zm h₄ (fun _ s₅ h₅=>zb (zb ⟨rfl,h₅⟩)) fun _ _ h'=>h'.elim)) fun _ _ h'=>h'.elim))
end
section
variable {X:Cx}{pins:List (Addr×Obj)}{σ:St}{s2:Shared}{H2:Hp}{elt tg iter:Expr}{ifs:List Expr}{scope:Scope}{pos:Pos}{g:TG}{tt:TT}{te:TE}{sc0:Scope}{N0 own:List Str}{cap:List Nat}
 {it:Addr}{fp:List Addr}{tn:Nat→Heap→Prop}{J:It}
theorem Qlv (I2:Inv X pins σ H2 s2) (hsc:X.env.scope=sc0) (ok:QeS sc0 N0 scope own cap):∀y∈scope.names,y.2 = .free→∃c,X.env.cells.lookup y.1=some c:=fun y hy e=>by
 refine I2.ok.has y.1 ?_;have q:=ok.free y hy e;rw [←hsc] at q;exact q
theorem Qcd (I2:Inv X pins σ H2 s2) (hsc:X.env.scope=sc0) (ok:QeS sc0 N0 scope own cap) {x:Str}{c:Addr} (h:(QeL scope X.env).lookup x=some c):X.env.cells.lookup x=some c:=by
 rcases QfW h with z | ⟨k,hm,hk,q⟩
 ·simp at z
 ·obtain ⟨c',e⟩:=Qlv I2 hsc ok (x,k) hm hk;have e':X.env.cells.lookup x=some c':=e;rw [e'] at q;rw [e',←q]; rfl
theorem Qop (I2:Inv X pins σ H2 s2) (hsc:X.env.scope=sc0) (ok:QeS sc0 N0 scope own cap) (T:Turn X.prog X.w X.K tg J fp it tn) (st2:tn 0 s2.heap) (f2:∀b∈fp,Qd2 X pins H2 b)
  (C:Addr) (hC:s2.heap.objs.size≤C):(Qbk X scope C (Qbu N0 own cap) s2 H2 fp).Ok:=by
 have lt:∀b∈fp,b < s2.heap.objs.size:=fun b hb=>by
  obtain ⟨o,e,_⟩:=T.obj 0 _ st2 b hb;exact zd e
 have rel:(relabel scope X.env).names=QcE scope sc0:=by rw [←hsc]; rfl
 refine ⟨I2.ok.mod,ok.kind,I2.ok.glob,I2.ok.blt,hC,fun x y c h1 h2=>?_,fun x hx=>?_,fun x c hf _=>absurd hf (by simp [Qbk]),I2.ok.hd,I2.ok.frames,.inl rfl,fun b hb=>⟨?_,fun x c h=>?_⟩,I2.bs,zt I2.ok.bsz I2.sz,
  fun b o e hb=>?_,fun b hb hz=>?_,I2.stack,I2.stkFree⟩
 ·exact I2.ok.inj x y c (Qcd I2 hsc ok h1) (Qcd I2 hsc ok h2)
 ·have hx':(QcE scope sc0).lookup x=some .cell∨(QcE scope sc0).lookup x=some .free:=by rw [←rel]; exact hx
  have hm:(x,NameKind.free)∈scope.names:=by
   rcases hx' with q | q
   ·exact Qiq ok.nocell q (.inl rfl)
   ·exact Qiq ok.nocell q (.inr rfl)
  exact Qfj (.inr hm)
 ·exact zk (zv (lt b hb) hC)
 ·exact (f2 b hb).2.2.2.2.1 x c (Qcd I2 hsc ok h)
 ·rcases (f2 b hb).2.2.2.1 with z | z
  ·exact I2.ok.noex b o e z
  ·exact absurd (zv (zd e) (zt I2.ok.bsz z)) (zH _)
 ·rcases zj.mp (I2.stkSub b hz) with z | z
  ·exact (f2 b hb).2.1 z
  ·exact (f2 b hb).2.2.1 z
theorem Qo1 (I2:Inv X pins σ H2 s2) (hsc:X.env.scope=sc0) (hN0:X.N=N0) (ok:QeS sc0 N0 scope own cap) (T:Turn X.prog X.w X.K tg J fp it tn) (st2:tn 0 s2.heap) (f2:∀b∈fp,Qd2 X pins H2 b)
  (C:Addr) (hC:s2.heap.objs.size≤C) {h₁:Heap}{tk:Nat}{m:Str→Option Value} (old:∀b o,s2.heap.get? b=some o→h₁.get? b=some o) (hns:h₁.Ns C m) :
  Inv (Qbk X scope C (Qbu N0 own cap) s2 H2 fp) [] (compSt own cap σ) H2 { s2 with heap:=h₁,toks:=tk }:=by
 have rel:(relabel scope X.env).names=QcE scope sc0:=by rw [←hsc]; rfl
 refine ⟨Qop I2 hsc ok T st2 f2 C hC,rfl,I2.bare,Un.kept old,⟨m,hns,fun i x v e1 e2 _=>?_⟩,fun x c h=>?_,I2.hok.fresh hC,fun x c h=>?_,fun p hp=>absurd (show p∈([]:List (Addr×Obj)) from hp) (by simp),I2.hok.kept old,?_⟩
 ·have e1':(Qbu N0 own cap)[i]? = some x:=e1;unfold Qbu at e1';unfold compSt at e2
  by_cases hi:i < own.length
  ·rw [zz (by simpa using hi),zE] at e2
   cases q:own[i]? with
   | none=>rw [q] at e2; cases e2
   | some z=>rw [q] at e2; cases e2
  ·rw [zy (by simpa using hi),zE] at e2;rw [zy (by simpa using hi),zE] at e1';rw [zI] at e2
   cases q:cap[i - own.length]? with
   | none=>rw [q] at e2; cases e2
   | some j =>
    rw [q] at e1' e2;have ex:N0.getD j (Str.ofString "")=x:=zL e1';have ev:(σ[j]?).join=some v:=zL e2;obtain ⟨hj,hm,hk⟩:=ok.cap j (zN q);rw [ex] at hm hk
    have eN:X.N[j]? = some x:=by
     rw [hN0,zK hj];rw [zX,zK hj] at ex;exact congrArg some ex
    have eσ:σ[j]? = some (some v):=by
     cases z:σ[j]? with
     | none=>rw [z] at ev; cases ev
     | some o=>rw [z] at ev; cases o with
      | none=>cases ev
      | some y=>exact congrArg some ev
    have kf:X.env.kindOf x=some .cell∨X.env.kindOf x=some .free:=by
     have z:=ok.free _ hm rfl;rw [←hsc] at z;exact z
    obtain ⟨m0,hn0,hl⟩:=I2.loc;obtain ⟨u,r,l⟩:=hl j x v eN eσ (kf.elim (fun z=>.inr (.inl z)) fun z=>.inr (.inr z));refine ⟨u,r,.inr ⟨?_,?_⟩⟩
    ·show (relabel scope X.env).names.lookup x=_∨(relabel scope X.env).names.lookup x=_;rw [rel]; exact hk
    ·rcases l with ⟨l,_⟩ | ⟨_,c,hc,⟨o,ho,hd⟩⟩
     ·rcases kf with z | z <;> (rw [z] at l; cases l)
     ·obtain ⟨c',hc'⟩:=Qfj (cells:=X.env.cells) (names:=scope.names) (acc:=[]) (.inr hm);have z:=Qcd I2 hsc ok hc';rw [hc] at z;cases z;exact ⟨c,hc',o,old _ _ ho,hd⟩
 ·obtain ⟨v,o,ho,hd⟩:=I2.cell x c (Qcd I2 hsc ok h);exact ⟨v,o,old _ _ ho,hd⟩
 ·exact I2.freeC x c (Qcd I2 hsc ok h)
 ·show (compSt own cap σ).length=(Qbu N0 own cap).length;unfold compSt Qbu;simp
theorem Qmv {Q:List V→Hp→Prop}{RR:Value→Addr→Result→Shared→Prop}{E:Value→Shared→Prop} (hc:X.calm=true) (I2:Inv X pins σ H2 s2) (hsc:X.env.scope=sc0) (hN0:X.N=N0) (ok:QeS sc0 N0 scope own cap)
  (hg:∀C s H ex,PG (Qbk X scope C (Qbu N0 own cap) s H ex) tg g) (ht:∀C s H ex,Qjv (Qbk X scope C (Qbu N0 own cap) s H ex) ifs tt) (he:∀C s H ex,PE (Qbk X scope C (Qbu N0 own cap) s H ex) elt te)
  (T:Turn X.prog X.w X.K tg J fp it tn) (st2:tn 0 s2.heap) (f2:∀b∈fp,Qd2 X pins H2 b) (hW:Qqr J g tt te Q (compSt own cap σ) H2)
  (hRR:∀D C oC ys H' s',Inv X (pins ++ [(C,oC)]) σ (upd H' D (.lst ys)) s'→(∀h:Heap,h.get? C=some oC→∃m,h.Ns C m)→Qd2 X pins (upd H' D (.lst ys)) C→H' D=none→Q ys H'→RR (.ref D) C (.ok .next) s')
  (hQsz:∀ys H',Q ys H'→ys.length≤sizeLine) :
  wpAny (model X.prog X.w) X.A (newList []) (fun acc s₃=>wpAny (model X.prog X.w) X.A (newFunctionEnv scope X.env.globals (QeL scope X.env) [] X.env.qual none .none (some X.env)) (fun cenv s₄ =>
   codeAny (model X.prog X.w) X.A (.compStart (.ListComp elt [⟨tg,iter,ifs,0⟩] scope pos) 0 (.ref it) acc { cenv with scope:=relabel scope X.env }) (RR acc cenv.locals) s₄) E s₃) E s2:=by
 refine wpAny_newObj_type (wpAny_newFunctionEnv ok.nocell (by intro y hy; simp at hy) (fun h₁ hns₁ hsb₁=>?_) ok.kind);dsimp only at hns₁ hsb₁ ⊢
 generalize hP2:s2.heap.push { cls:=.type "list",dict:=none,data:=.seq ([]:List Value).toArray }=P2 at hns₁ hsb₁ ⊢
 have hC:P2.objs.size=s2.heap.objs.size+1:=by rw [←hP2,Heap.size_push]
 have hDC:s2.heap.objs.size≠P2.objs.size:=by rw [hC]; exact zk (zW _)
 have hCle:s2.heap.objs.size≤P2.objs.size:=by rw [hC]; exact Nat.le_succ _
 have below:∀b,b < s2.heap.objs.size→b≠P2.objs.size∧b≠s2.heap.objs.size:=fun b hb=>⟨by rw [hC]; exact zk (Nat.lt_succ_of_lt hb),zk hb⟩
 have ltf:∀b∈fp,b < s2.heap.objs.size:=fun b hb=>by
  obtain ⟨o,e,_⟩:=T.obj 0 _ st2 b hb;exact zd e
 have old:∀b o,s2.heap.get? b=some o→h₁.get? b=some o:=fun b o e=>hsb₁.extBut b o (below b (zd e)).1 (zh _ (hP2 ▸ zh _ e))
 have hacc:h₁.PlainList s2.heap.objs.size #[]:=⟨_,hsb₁.extBut _ _ hDC (zh _ (hP2 ▸ zD _ rfl))⟩
 have st₁:tn 0 h₁:=T.keep _ _ _ st2 fun b _ o e=>old b o e
 have hDno:∀b∈fp,s2.heap.objs.size≠b:=fun b hb=>(below b (ltf b hb)).2.symm
 generalize hXe:Qbk X scope P2.objs.size (Qbu N0 own cap) s2 H2 fp=X'
 have loop:∀s₃:Shared,s₃ = { s2 with heap:=h₁,toks:=s2.toks+([]:List (Str×Value)).length } →
   codeAny (model X.prog X.w) X.A (.compLoop (.ListComp elt [⟨tg,iter,ifs,0⟩] scope pos) 0 (.ref it) (.ref s2.heap.objs.size) (compEnvC scope (QeL scope X.env) P2.objs.size X.env))
    (RR (.ref s2.heap.objs.size) P2.objs.size) s₃:=by
  rintro s₃ rfl;obtain ⟨W,⟨m0,w0⟩,turn⟩:=hW;subst hXe
  have stat:∀{H':Hp}{oD:Obj},(∀b∈fp,H' b=none)→∀b∈fp,Qd2 (Qbk X scope P2.objs.size (Qbu N0 own cap) s2 H2 fp) [(s2.heap.objs.size,oD)] H' b:=fun {H' oD} hn b hb =>
   ⟨hn b hb,(below b (ltf b hb)).1,fun z=>by
    rcases zj.mp (I2.stkSub b z) with z | z
    ·exact (f2 b hb).2.1 z
    ·exact (f2 b hb).2.2.1 z,.inl hb,fun x c h=>(f2 b hb).2.2.2.2.1 x c (Qcd I2 hsc ok h),fun p hp=>by
    have e:p=(s2.heap.objs.size,oD):=by simpa [Qbk] using hp
    rw [e]; exact hDno b hb⟩
  have notcell:∀x c,(QeL scope X.env).lookup x=some c→c≠s2.heap.objs.size:=fun x c h z=>by
   obtain ⟨v,o,ho,hd⟩:=I2.cell x c (Qcd I2 hsc ok h);exact absurd (zd ho) (by rw [z]; exact zH _)
  have nofs:s2.heap.objs.size∉frs X.stack:=fun z=>by
   rcases zj.mp (I2.stkSub _ z) with z | z
   ·exact absurd I2.lt (by rw [z]; exact zH _)
   ·exact I2.nofs (zc _) z
  have pinD:∀{σ':St}{H':Hp}{s':Shared}{its:Array Value}{k:Nat},Inv (Qbk X scope P2.objs.size (Qbu N0 own cap) s2 H2 fp) [] σ' H' s'→H' s2.heap.objs.size=none →
    s'.heap.get? s2.heap.objs.size=some { cls:=.type "list",data:=.seq its k }→Inv (Qbk X scope P2.objs.size (Qbu N0 own cap) s2 H2 fp) [(s2.heap.objs.size,{ cls:=.type "list",data:=.seq its k })] σ' H' s' :=
   fun {σ' H' s' its k} I hn hd=>I.pins_of fun p hp=>by
    have e:p=(s2.heap.objs.size,{ cls:=.type "list",data:=.seq its k }):=by simpa using hp
    subst e;exact ⟨hd,hn,hDC,nofs,fun v z=>by cases z⟩
  obtain ⟨k0,hk0⟩:=hacc;refine Qhb (env:=compEnvC scope (QeL scope X.env) P2.objs.size X.env)
   (fun n s'=>∃i ys its k σ' H',Inv (Qbk X scope P2.objs.size (Qbu N0 own cap) s2 H2 fp) [(s2.heap.objs.size,{ cls:=.type "list",data:=.seq its k })] σ' H' s'∧tn i s'.heap∧(∀b∈fp,H' b=none)∧QaC ys its.toList∧W i n ys σ' H') ?_ m0
   ⟨0,[],#[],k0,_,H2,pinD (Qo1 I2 hsc hN0 ok T st2 f2 _ hCle old hns₁) (I2.hok.fresh (zc _)) hk0,st₁,fun b hb=>(f2 b hb).1,.nil,w0⟩
  rintro n s3 ⟨i,ys,its,k,σ3,H3,I3,st3,fr3,hv,w3⟩
  rcases turn i n ys σ3 H3 w3 with ⟨stop,qn⟩ | ⟨go,hsz,N,hN,step⟩
  ·refine thn (T.done (Qbk X scope P2.objs.size (Qbu N0 own cap) s2 H2 fp) rfl rfl rfl hc i _ s3 σ3 H3 _ I3 (stat fr3) st3 stop) fun r s4 ⟨hr,I4⟩=>?_
   subst hr;show RR _ _ (.ok .next) s4;obtain ⟨hd4,hn4,_⟩:=I4.pin (s2.heap.objs.size,{ cls:=.type "list",data:=.seq its k }) (by simp [Qbk]);dsimp only at hd4 hn4;obtain ⟨m4,hns4,_⟩:=id I4.loc;have hns4':s4.heap.Ns P2.objs.size m4:=hns4;obtain ⟨oC,es,ep,hoC,rC⟩:=id hns4';have cne:P2.objs.size≠s2.heap.objs.size:=hDC.symm;have freeC:H3 P2.objs.size=none:=I4.free;have hchC:Qd2 X pins (upd H3 s2.heap.objs.size (.lst ys)) P2.objs.size:=I2.fpOk hCle (by rw [Qan cne]; exact freeC)
   have hlen:ys.length=its.size:=by have e:=hv.length; simpa using e
   have I5:Inv X pins σ (upd H3 s2.heap.objs.size (.lst ys)) s4:=by
    refine I2.call' (ch:=fp) I4.os ⟨I4.base.keep,I4.base.slot,fun b o e n hx=>?_,I4.base.there,fun b xs e=>?_,fun b o u e=>?_,fun b ps e=>?_⟩ (fun b u e=>?_) I4.bare fun b hb=>?_
    ·rw [Qan (zk (zd e))]; exact I4.base.free b o e n hx
    ·have q:=I4.base.tups b xs e;rw [Qan (Qay q hn4)]; exact q
    ·have q:=I4.base.frzs b o u e;rw [Qan (Qay q hn4)]; exact q
    ·obtain ⟨more,q⟩:=I4.base.tbls b ps e;exact ⟨more,by rw [Qan (Qay q hn4)]; exact q⟩
    ·by_cases hb:b=s2.heap.objs.size
     ·subst hb;rw [QaD] at e;cases e;exact ⟨hQsz ys H3 qn,its.toList,k,hv,by simpa using hd4⟩
     ·rw [Qan hb] at e
      exact (I4.hok b u e).stay (fun _ _ _ q=>q) (fun c q=>by rw [Qan (Qay q hn4)]; exact q) fun c xs q=>by rw [Qan (Qay q hn4)]; exact q
    ·obtain ⟨_,a2,_,a4,a5,a6⟩:=f2 b hb;exact ⟨a4,a2,a5,a6⟩
   refine hRR s2.heap.objs.size P2.objs.size oC ys H3 s4 (I5.pins_of fun p hp=>?_) (fun h e=>⟨m4,oC,es,ep,e,rC⟩) hchC hn4 qn
   rcases zA.mp hp with z | z
   ·exact I5.pin p (zJ _ z)
   ·have e:p=(P2.objs.size,oC):=by simpa using z
    subst e
    exact ⟨hoC,hchC.1,hchC.2.1,hchC.2.2.1,fun v z=>by
     have:=rC.1
     rw [this] at z; cases z⟩
  ·refine thn (T.item (Qbk X scope P2.objs.size (Qbu N0 own cap) s2 H2 fp) rfl rfl rfl hc i _ s3 σ3 H3 _ I3 (stat fr3) st3 go) fun r s4 ⟨u,hr,h4⟩=>?_
   subst hr
   refine thn h4 fun _ s5 ⟨x,H5,I5,r5,y5,st5,fr5⟩=>?_
   have I5':=I5.pinned (stat fr5) (T.obj _ _ st5)
   refine thn (hg _ _ _ _ _ s5 σ3 H5 x u _ I5' r5 (step x H5 y5)) fun _ s6 ⟨σ6,H6,I6,q6⟩=>?_
   refine thn (ht _ _ _ _ _ s6 σ6 H6 _ I6 q6) fun b s7 ⟨H7,I7,q7⟩=>?_
   have keepT:∀{σ':St}{H':Hp}{s':Shared},Inv (Qbk X scope P2.objs.size (Qbu N0 own cap) s2 H2 fp) ([(s2.heap.objs.size,{ cls:=.type "list",data:=.seq its k })]++Qhh fp s5.heap) σ' H' s'→tn (i+1) s'.heap∧∀b∈fp,H' b=none:=fun {σ' H' s'} I'=>by
    refine ⟨T.keep _ _ _ st5 fun b hb o e=>(I'.pin (b,o) (zJ _ (zJ _ (Qfa hb e)))).1,fun b hb=>?_⟩;obtain ⟨o,e,d⟩:=T.obj _ _ st5 b hb;exact (I'.pin (b,o) (zJ _ (zJ _ (Qfa hb e)))).2.1
   cases b with
   | false =>
    rw [if_neg zg] at q7 ⊢;obtain ⟨m',hm,w7⟩:=hN _ _ _ q7;obtain ⟨a,b⟩:=keepT I7;exact ⟨m',hm,i+1,ys,its,k,σ6,H7,I7.unpinned,a,b,hv,w7⟩
   | true =>
    rw [if_pos rfl] at q7 ⊢
    refine thn (he _ _ _ _ _ s7 σ6 H7 _ I7 q7) fun v s8 ⟨y,H8,I8,r8,q8⟩=>?_
    obtain ⟨m',hm,w8⟩:=hN _ _ _ q8;obtain ⟨a,b⟩:=keepT I8;obtain ⟨hd8,hn8,_⟩:=I8.pin (s2.heap.objs.size,{ cls:=.type "list",data:=.seq its k }) (by simp [Qbk]);dsimp only at hd8 hn8
    have hl:its.size≤sizeLine:=by
     have e:=hv.length;simp at e;omega
    refine wpAny_list_append_plain (hsz:=hl) ⟨k,hd8⟩ fun h9 hl9 hs9=>?_
    obtain ⟨k9,hd9⟩:=hl9
    have I8':Inv (Qbk X scope P2.objs.size (Qbu N0 own cap) s2 H2 fp) [] σ6 H8 s8:=I8.pins_of fun p hp=>absurd hp (by simp)
    have I9:Inv (Qbk X scope P2.objs.size (Qbu N0 own cap) s2 H2 fp) [] σ6 H8 { s8 with heap:=h9 } :=
     I8'.turned (t':=s8.toks) (it:=s2.heap.objs.size) (fun b o hb e=>hs9.extBut b o hb e) hn8 hDC (.inr (zc _)) notcell (fun p hp=>absurd (show p∈([]:List (Addr×Obj)) from hp) (by simp))
    refine ⟨m',hm,i+1,ys ++ [y],its.push v,k9,σ6,H8,pinD I9 hn8 hd9,T.keep _ _ _ a fun b hb o e=>hs9.extBut b o (hDno b hb).symm e,b,?_,w8⟩;rw [Array.toList_push];exact hv.append (.cons r8 .nil)
 exact codeAny_compStart_list (loop _ rfl) (T.self _ 0 _ _ _ st₁ (loop _ rfl))
theorem QrQ {wi:TI} (sc0:Scope) (N0 own:List Str) (cap:List Nat) (hc:X.calm=true) (hi:PI X tg iter wi)
  (hg:∀C s H ex,PG (Qbk X scope C (Qbu N0 own cap) s H ex) tg g) (ht:∀C s H ex,Qjv (Qbk X scope C (Qbu N0 own cap) s H ex) ifs tt) (he:∀C s H ex,PE (Qbk X scope C (Qbu N0 own cap) s H ex) elt te)
  (hsc:X.env.scope=sc0:=by rfl) (hN0:X.N=N0:=by rfl) (ok:Qjl sc0 N0 scope own cap=true:=by decide +kernel) (hs:∀x,foldedSetIterable iter X.env x=pure x:=by intro _; rfl) :
  PE X (.ListComp elt [⟨tg,iter,ifs,0⟩] scope pos) (Qqd wi own cap g tt te):=by
 intro pins s σ H Q I h;have ok:=QeS.of ok;rw [eval_ListComp];refine wpAny_comprehension_free (use:=none) rfl hs (Qkl (Qlv I hsc ok)) ok.kind ok.names (thn (hi pins s σ H _ I h) fun xv s1 h1=>thn h1 fun itv s2 h2=>?_);obtain ⟨it,fp,tn,J,H2,e,I2,T,st2,f2,hW⟩:=h2;subst e
 refine Qmv (RR:=fun acc C=>compPost (model X.prog X.w) X.A X.xe none (EP X pins σ Q) acc C) hc I2 hsc hN0 ok hg ht he T st2 f2 hW (fun D C oC ys H' s' I' hns fpC hD q=>?_) fun ys H' q=>q.1
 obtain ⟨hC,hCn,_⟩:=I'.pin (C,oC) (by simp);obtain ⟨m,hm⟩:=hns _ hC;refine ⟨m,hm,fun h' hs'=>⟨.ref D,upd H' D (.lst ys),?_,rfl,q.2 D hD⟩⟩;obtain ⟨f0,f1,f2',f3,f4,f5⟩:=fpC;exact I'.unpinned.turned (t':=s'.toks) (it:=C) (fun b o hb e=>hs'.extBut b o hb e) f0 f1 f3 f4 f5
end
def Can (P:Program) (w:World) (K:PySem.W.Frag) (mg:Str→Option Value) (base:Heap) (x:Str) (ps:List Str) (k:Nat) (sp:Sp):Prop :=
 ∃f fd,mg x=some (.ref f)∧PySem.W.keepIn K (.ref f)=true∧Binds K fd ps []∧Qby P w K mg base CX0 k f fd ps sp∧∃oc od osl,K.lookup f=some ⟨oc,od,.func fd,osl⟩
def Def (K:PySem.W.Frag) (mg:Str→Option Value) (x:Str) (st:Stmt):Prop:=∃f fd,mg x=some (.ref f)∧Fun K x x st f fd
section
variable {P:Program}{w:World}{K:PySem.W.Frag}{mg:Str→Option Value}{base:Heap}
theorem Can.mono {x:Str}{ps:List Str}{j k:Nat}{sp:Sp} (c:Can P w K mg base x ps j sp) (h:j≤k):Can P w K mg base x ps k sp :=
 let ⟨f,fd,a,b,d,e,g⟩:=c; ⟨f,fd,a,b,d,e.mono h,g⟩
theorem Def.can {x:Str}{st:Stmt}{N ps:List Str}{k:Nat}{sp:Sp} (D:Def K mg x st) (S:QaK N ps (Qah st))
  (hb:∀(kV doc pm:Value) (an:Option Addr) (cdv ct:Value) (us:List Value),us.length=ps.length→bindArgs (PySem.W.fnOf x x (Qba st) (QaP st) (Qah st) .none kV doc pm an cdv ct) ⟨us,[]⟩=pure (ps.zip us))
  (len:∀vs H Q E,sp vs H Q E→vs.length=ps.length)
  (hbody:∀(f:Addr) (cdv:Value) (A:Around) (outer:List Env) (s:Shared) (H:Hp) (vs:List V) (Q:VK) (E:XK),QaJ k (A.deeper (envOfC x (Qah st) s.heap.objs.size f cdv))→sp vs H Q E →
   ∃t,PSs (Qb7 CX0 P w K mg base N x (Qah st) f cdv A outer s H E).nox (QaP st) t∧t { nx:=fun _ H'=>Q .non H',rt:=Q } (start N vs) H):Can P w K mg base x ps (k+1) sp:=by
 obtain ⟨f,fd,hm,F⟩:=D;obtain ⟨oc,od,_,_,_,_,_,_,osl,_,lk,_⟩:=F.ex;exact ⟨f,fd,hm,F.kp,F.binds hb,F.ok S len fun cdv A outer s H vs Q E hr h=>hbody f cdv A outer s H vs Q E hr h,oc,od,osl,lk⟩
end
section
variable {X:Cx}{k:Nat}{x:Str}{ps:List Str}{sp:Sp}{p pos:Pos}{e:Expr}{es:List Expr}{t:TA}
theorem QtN (C:Can X.prog X.w X.K X.mg X.base x ps k sp) (hr:QaJ k X.A) (ha:PA X (e::es) t) (hg:Gl X x:=by rfl) (hdb:(x == ("__debug__":Str))=false:=by decide)
  (he:starEach (e::es) X.env=(false,eval e X.env)::starEach es X.env:=by rfl) (hpl:(backTo pos (starEach es X.env)).any (·.1)=false:=by rfl) :
  PE X (.Call (.Name x p) (e::es) [] pos) (Qib sp [] E0 t):=by
 obtain ⟨f,fd,hm,hk,hb,F,_⟩:=C;exact Ql0 F hr hg hm hk hb .nil Qi1 ha hdb he hpl
theorem QqO (C:Can X.prog X.w X.K X.mg X.base x ps k sp) (hr:QaJ k X.A) (hg:Gl X x:=by rfl) (hdb:(x == ("__debug__":Str))=false:=by decide) :
  PE X (.Call (.Name x p) [] [] pos) (Qib sp [] E0 Qkz):=by
 obtain ⟨f,fd,hm,hk,hb,F,_⟩:=C;exact Qpq F hr hg hm hk hb .nil Qi1 hdb
end
theorem Same.seqT {K:PySem.W.Frag}{H H':Hp}{a:Addr}{xs:List V} (e:Same H H') (h:SqT K H a xs):SqT K H' a xs:=by
 rcases h with (h | ⟨o,h⟩) | h
 ·exact .inl (.inl (e _ _ h))
 ·exact .inl (.inr ⟨o,e _ _ h⟩)
 ·exact .inr h
theorem Same.upd {H:Hp}{a:Addr}{o:HO} (h:H a=none):Same H (upd H a o):=fun b u e=>by rw [Qan (Qay e h)]; exact e
mutual
def Rep (K:PySem.W.Frag) (H:Hp):V→PyData→Prop
 | v,.none=>v = .non
 | v,.bool b=>v = .bl b
 | v,.int i=>v = .int i
 | v,.str x=>v = .str x
 | v,.list ds=>∃a xs,v = .ref a∧SqL K H a xs∧QaE K H xs ds
 | v,.tuple ds=>∃a xs,v = .ref a∧SqT K H a xs∧QaE K H xs ds
 | _,.dict _=>False
def QaE (K:PySem.W.Frag) (H:Hp):List V→List PyData→Prop
 | xs,[]=>xs = []
 | xs,d::ds=>∃x r,xs=x::r∧Rep K H x d∧QaE K H r ds
end
mutual
theorem Rep.mono {K:PySem.W.Frag}{H H':Hp} (e:Same H H'):∀(d:PyData) {v:V},Rep K H v d→Rep K H' v d
 | .none,v,h=>by rw [Rep] at h ⊢; exact h
 | .bool b,v,h=>by rw [Rep] at h ⊢; exact h
 | .int i,v,h=>by rw [Rep] at h ⊢; exact h
 | .str x,v,h=>by rw [Rep] at h ⊢; exact h
 | .list ds,v,h=>by
  rw [Rep] at h ⊢;obtain ⟨a,xs,h1,h2,h3⟩:=h;exact ⟨a,xs,h1,e.seq h2,QaE.mono e ds h3⟩
 | .tuple ds,v,h=>by
  rw [Rep] at h ⊢;obtain ⟨a,xs,h1,h2,h3⟩:=h;exact ⟨a,xs,h1,e.seqT h2,QaE.mono e ds h3⟩
 | .dict _,v,h=>by rw [Rep] at h; exact h.elim
theorem QaE.mono {K:PySem.W.Frag}{H H':Hp} (e:Same H H'):∀(ds:List PyData) {xs:List V},QaE K H xs ds→QaE K H' xs ds
 | [],xs,h=>by rw [QaE] at h ⊢; exact h
 | d::ds,xs,h=>by
  rw [QaE] at h ⊢;obtain ⟨x,r,h1,h2,h3⟩:=h;exact ⟨x,r,h1,Rep.mono e d h2,QaE.mono e ds h3⟩
end
theorem QaE.nil {K:PySem.W.Frag}{H:Hp}:QaE K H [] []:=by rw [QaE]
theorem QaE.cons {K:PySem.W.Frag}{H:Hp}{x:V}{xs:List V}{d:PyData}{ds:List PyData} (h:Rep K H x d) (hs:QaE K H xs ds):QaE K H (x::xs) (d::ds):=by
 rw [QaE]; exact ⟨x,xs,rfl,h,hs⟩
theorem QaE.un {K:PySem.W.Frag}{H:Hp}{xs:List V}{d:PyData}{ds:List PyData} (h:QaE K H xs (d::ds)):∃x r,xs=x::r∧Rep K H x d∧QaE K H r ds:=by rw [QaE] at h; exact h
theorem QaE.un0 {K:PySem.W.Frag}{H:Hp}{xs:List V} (h:QaE K H xs []):xs = []:=by rw [QaE] at h; exact h
theorem Rep.unL {K:PySem.W.Frag}{H:Hp}{v:V}{ds:List PyData} (h:Rep K H v (.list ds)):∃a xs,v = .ref a∧SqL K H a xs∧QaE K H xs ds:=by rw [Rep] at h; exact h
theorem Rep.unT {K:PySem.W.Frag}{H:Hp}{v:V}{ds:List PyData} (h:Rep K H v (.tuple ds)):∃a xs,v = .ref a∧SqT K H a xs∧QaE K H xs ds:=by rw [Rep] at h; exact h
theorem Rep.unS {K:PySem.W.Frag}{H:Hp}{v:V}{x:Str} (h:Rep K H v (.str x)):v = .str x:=by rw [Rep] at h; exact h
theorem Rep.unI {K:PySem.W.Frag}{H:Hp}{v:V}{x:Int} (h:Rep K H v (.int x)):v = .int x:=by rw [Rep] at h; exact h
theorem Rep.s {K:PySem.W.Frag}{H:Hp}{x:Str}:Rep K H (.str x) (.str x):=by rw [Rep]
theorem Rep.i {K:PySem.W.Frag}{H:Hp}{x:Int}:Rep K H (.int x) (.int x):=by rw [Rep]
theorem Rep.b {K:PySem.W.Frag}{H:Hp}{x:Bool}:Rep K H (.bl x) (.bool x):=by rw [Rep]
theorem QaE.length {K:PySem.W.Frag}{H:Hp}:∀{ds:List PyData}{xs:List V},QaE K H xs ds→xs.length=ds.length
 | [],xs,h=>by rw [QaE] at h; rw [h]; rfl
 | d::ds,xs,h=>by
  rw [QaE] at h;obtain ⟨x,r,rfl,_,h3⟩:=h;simp [QaE.length h3]
theorem QaE.get {K:PySem.W.Frag}{H:Hp}:∀{ds:List PyData}{xs:List V}{i:Nat}{x:V},QaE K H xs ds→xs[i]? = some x→∃d,ds[i]? = some d∧Rep K H x d
 | [],xs,i,x,h,e=>by rw [QaE] at h; rw [h] at e; simp at e
 | d::ds,xs,i,x,h,e=>by
  rw [QaE] at h;obtain ⟨y,r,rfl,h2,h3⟩:=h
  cases i with
  | zero=>simp at e; subst e; exact ⟨d,rfl,h2⟩
  | succ i =>
   obtain ⟨d',e',q⟩:=QaE.get (i:=i) (x:=x) h3 (by simpa using e);exact ⟨d',by simpa using e',q⟩
theorem QaE.snoc {K:PySem.W.Frag}{H:Hp}{x:V}{d:PyData} (hx:Rep K H x d):∀{ds:List PyData}{xs:List V},QaE K H xs ds→QaE K H (xs ++ [x]) (ds ++ [d])
 | [],xs,h=>by rw [QaE] at h; rw [h]; exact QaE.cons hx QaE.nil
 | e::ds,xs,h=>by
  rw [QaE] at h;obtain ⟨y,r,rfl,h2,h3⟩:=h;exact QaE.cons h2 (QaE.snoc hx h3)
theorem QaE.append {K:PySem.W.Frag}{H:Hp}{ys:List V}{es:List PyData} (hy:QaE K H ys es):∀{ds:List PyData}{xs:List V},QaE K H xs ds→QaE K H (xs++ys) (ds++es)
 | [],xs,h=>by rw [QaE] at h; rw [h]; exact hy
 | e::ds,xs,h=>by
  rw [QaE] at h;obtain ⟨y,r,rfl,h2,h3⟩:=h;exact QaE.cons h2 (QaE.append hy h3)
theorem QaE.take {K:PySem.W.Frag}{H:Hp}:∀{ds:List PyData}{xs:List V} (n:Nat),QaE K H xs ds→QaE K H (xs.take n) (ds.take n)
 | _,_,0,_=>by simpa using QaE.nil
 | [],xs,n+1,h=>by rw [QaE] at h; rw [h]; simpa using QaE.nil
 | d::ds,xs,n+1,h=>by
  rw [QaE] at h;obtain ⟨y,r,rfl,h2,h3⟩:=h;exact QaE.cons h2 (QaE.take n h3)
theorem QaE.drop {K:PySem.W.Frag}{H:Hp}:∀{ds:List PyData}{xs:List V} (n:Nat),QaE K H xs ds→QaE K H (xs.drop n) (ds.drop n)
 | _,_,0,h=>by simpa using h
 | [],xs,n+1,h=>by rw [QaE] at h; rw [h]; simpa using QaE.nil
 | d::ds,xs,n+1,h=>by
  rw [QaE] at h;obtain ⟨y,r,rfl,h2,h3⟩:=h;exact QaE.drop n h3
section
variable {X:Cx}{pins:List (Addr×Obj)}{σ:St}{H:Hp}{s:Shared}
mutual
theorem Rep.reads (I:Inv X pins σ H s):∀(d:PyData) {v:V}{u:Value},Rep X.K H v d→RelV v u→∃as,Reads s.heap u d as
 | .none,v,u,h,r=>by rw [Rep] at h; subst h; cases (show u = .none from r); exact ⟨_,.none⟩
 | .bool b,v,u,h,r=>by rw [Rep] at h; subst h; cases (show u = .bool b from r); exact ⟨_,.bool b⟩
 | .int i,v,u,h,r=>by rw [Rep] at h; subst h; obtain ⟨t,rfl⟩:=(show ∃t,u = .int i t from r); exact ⟨_,.int i t⟩
 | .str x,v,u,h,r=>by rw [Rep] at h; subst h; obtain ⟨t,rfl⟩:=(show ∃t,u = .str x t from r); exact ⟨_,.str x t⟩
 | .list ds,v,u,h,r=>by
  rw [Rep] at h;obtain ⟨a,xs,rfl,h2,h3⟩:=h;cases (show u = .ref a from r);obtain ⟨its,rv,pl,_⟩:=I.list h2;obtain ⟨as,q⟩:=QaE.reads I ds h3 rv;obtain ⟨o,ho,hc,n,hd⟩:=pl.isList;exact ⟨_,.list ho hc hd (by simpa using q)⟩
 | .tuple ds,v,u,h,r=>by
  rw [Rep] at h;obtain ⟨a,xs,rfl,h2,h3⟩:=h;cases (show u = .ref a from r);obtain ⟨its,rv,pl,_⟩:=I.tuple h2;obtain ⟨as,q⟩:=QaE.reads I ds h3 rv;obtain ⟨o,ho,hc,n,hd⟩:=pl;exact ⟨_,.tuple ho hc hd (by simpa using q)⟩
 | .dict _,v,u,h,r=>by rw [Rep] at h; exact h.elim
theorem QaE.reads (I:Inv X pins σ H s):∀(ds:List PyData) {xs:List V}{us:List Value},QaE X.K H xs ds→QaC xs us→∃as,ReadsAll s.heap us ds as
 | [],xs,us,h,r=>by rw [QaE] at h; subst h; cases r; exact ⟨_,.nil⟩
 | d::ds,xs,us,h,r=>by
  rw [QaE] at h;obtain ⟨x,rest,rfl,h2,h3⟩:=h
  cases r with
  | cons r1 r2 =>
   obtain ⟨as,q⟩:=Rep.reads I d h2 r1;obtain ⟨bs,q'⟩:=QaE.reads I ds h3 r2;exact ⟨_,.cons q q'⟩
end
end
def okD (d:PyData):Bool:=d.canLay0&&decide (d.depth≤60)
def Qs7 (K:PySem.W.Frag) (neg:Bool):R2:=fun x y H Q=>∃d e,Rep K H x d∧Rep K H y e∧okD d=true∧okD e=true∧Q (.bl (if neg then !PyData.eqv d e else PyData.eqv d e)) H
section
variable {X:Cx}
theorem Qsr {k:Nat} (hr:QaJ k X.A):OpR X (compareOp .Eq) (Qs7 X.K false):=by
 intro pins s σ H x y v u Q I rx ry h;obtain ⟨d,e,h1,h2,k1,k2,q⟩:=h;obtain ⟨as,r1⟩:=Rep.reads I d h1 rx;obtain ⟨bs,r2⟩:=Rep.reads I e h2 ry;unfold okD at k1 k2;simp only [zf,decide_eq_true_eq] at k1 k2;exact SeqAt.compareEq_reads r1 r2 k1.1 k2.1 (by have:=hr.units; omega) ⟨.bl _,H,I,rfl,q⟩
theorem Qtw {k:Nat} (hr:QaJ k X.A):OpR X (compareOp .NotEq) (Qs7 X.K true):=by
 intro pins s σ H x y v u Q I rx ry h;obtain ⟨d,e,h1,h2,k1,k2,q⟩:=h;obtain ⟨as,r1⟩:=Rep.reads I d h1 rx;obtain ⟨bs,r2⟩:=Rep.reads I e h2 ry;unfold okD at k1 k2;simp only [zf,decide_eq_true_eq] at k1 k2;exact SeqAt.compareNe_reads r1 r2 k1.1 k2.1 (by have:=hr.units; omega) ⟨.bl _,H,I,rfl,q⟩
end
def S (l:List Nat):Str:=⟨l.toArray⟩
theorem Qdq (l:List Nat):(S l).cps.toList=l:=by simp [S]
theorem Qa6 (l:List Nat):(S l).length=l.length:=by simp [S,Str.length]
theorem QpQ (a b:List Nat):S a++S b=S (a++b):=by
 show Str.mk _=Str.mk _;simp [S]
theorem Qt6 {a b:List Nat} (h:S a=S b):a=b:=by have:=congrArg (fun x:Str=>x.cps.toList) h; simpa [Qdq] using this
section
variable {X:Cx}
theorem QoI:OpR X (compareOp .LtE) (fun x y H Q=>∃i j,x = .str i∧y = .str j∧Q (.bl (!decide (j.cps.toList < i.cps.toList))) H):=by
 intro pins s σ H x y v u Q I rx ry h;obtain ⟨i,j,rfl,rfl,q⟩:=h;obtain ⟨t,rfl⟩:=rx;obtain ⟨t',rfl⟩:=ry;exact P.le_str ⟨.bl _,H,I,rfl,q⟩
theorem QoE:OpR X (compareOp .In) (fun x y H Q=>∃c l,x = .str (S [c])∧y = .str (S l)∧Q (.bl (decide (c∈l))) H):=by
 intro pins s σ H x y v u Q I rx ry h;obtain ⟨c,l,rfl,rfl,q⟩:=h;refine Qol pins s σ H _ _ v u Q I rx ry ⟨S [c],S l,rfl,rfl,?_⟩;have e:=PySem.StrLaws.found_one (S l) c;rw [Qdq] at e;show Q (.bl (!(Builtin.Str.occurrences (S l) (S [c]) 0 (S l).length 1).isEmpty)) H;rw [show S [c]=⟨#[c]⟩ from rfl,e];exact q
def Its (l:List Nat):It:=⟨fun i _=>i < l.length,fun i H x H'=>H'=H∧∃c,l[i]? = some c∧x = .str (S [c]),fun i _=>l.length≤i⟩
theorem QpB {P:Program}{w:World}{K:PySem.W.Frag}{tg:Expr} (l:List Nat) (it:Addr) (t:Tok):Turn P w K tg (Its l) [it] it (fun i h=>h.IsStrIter it "str_ascii_iterator" (S l) t i) where
 mem:=by simp
 obj:=fun i h st b hb=>by
  have e:b=it:=by simpa using hb
  subst e;obtain ⟨o,e,c,d⟩:=st;exact ⟨o,e,fun v z=>by rw [d] at z; cases z⟩
 keep:=fun i h h' st k=>let ⟨o,ho,r⟩:=st; ⟨o,k it (by simp) o ho,r⟩
 item:=by
  intro X hP hw hK hc i pins s σ H E I hf st hg;subst hP hw hK;obtain ⟨f0,f1,f2,f3,f4,f5⟩:=hf it (by simp);have hg':i < l.length:=hg
  refine wpAny_pyNext_ascii_item st (c:=l[i]) (by simp [S,hg']) fun h' st' sb=>?_
  have I1:Inv X pins σ H { s with heap:=h',toks:=s.toks+1 }:=I.turned (fun b o hb e=>(sb.2 b hb).trans e) f0 f1 f3 f4 f5;obtain ⟨o,e,c,d⟩:=id st';exact ⟨_,rfl,Qkr (s:={ s with heap:=h',toks:=s.toks+1 }) e c d (by decide) ⟨.str (S [l[i]]),H,I1,⟨_,rfl⟩,⟨rfl,l[i],by simp [hg'],rfl⟩,st',fun b hb=>(hf b hb).1⟩⟩
 done:=by
  intro X hP hw hK hc i pins s σ H E I hf st hg;subst hP hw hK;obtain ⟨f0,f1,f2,f3,f4,f5⟩:=hf it (by simp);have hg':l.length≤i:=hg
  exact wpAny_pyNext_ascii_end (I.ok.hd hc) st (by simp [S,hg']) fun h' eb=>⟨rfl,I.turned (t':=s.toks) (fun b o hb e=>eb b o hb e) f0 f1 f3 f4 f5⟩
 self:=fun _ _ _ _ _ st h=>wpAny_pyIter_striter_ascii st h
def ascii (l:List Nat):Bool:=l.all (· < 128)
def QuY (tl:TE):TI:=fun σ H R=>tl σ H fun x H1=>∃l,x = .str (S l)∧ascii l=true∧R (Its l) H1
theorem Qtm {tg e:Expr}{tl:TE} (hl:PE X e tl):PI X tg e (QuY tl):=by
 intro pins s σ H R I h
 refine thn (hl pins s σ H _ I h) fun v s1 ⟨x,H1,I1,r1,q1⟩=>?_
 obtain ⟨l,e,ha,q⟩:=q1;subst e;obtain ⟨t,rfl⟩:=r1;refine wpAny_pyIter_ascii (by simpa [S,ascii] using ha) ?_;refine ⟨s1.heap.objs.size,[s1.heap.objs.size],_,_,H1,rfl,I1.kept (t':=s1.toks) fun b o e=>zh _ e,QpB l _ t,⟨_,zD _ rfl,rfl,rfl⟩,fun b hb=>?_,q⟩
 have e:b=s1.heap.objs.size:=by simpa using hb
 subst e;exact I1.fpOk (zc _) (I1.hok.fresh (zc _))
end
structure Blt (mg:Str→Option Value):Prop where
 len_:mg "len" = none
 isinstance_:mg "isinstance" = none
 all_:mg "all" = none
 sum_:mg "sum" = none
 max_:mg "max" = none
 min_:mg "min" = none
 int_:mg "int" = none
 str_:mg "str" = none
 bool_:mg "bool" = none
 list_:mg "list" = none
 tuple_:mg "tuple" = none
 dict_:mg "dict" = none
 range_:mg "range" = none
 enumerate_:mg "enumerate" = none
 zip_:mg "zip" = none
section
variable {X:Cx}
theorem Qo5 {x:Str}{v:V}{pos:Pos} (h:∃u,X.mg x=some u∧RelV v u) (hg:Gl X x:=by rfl) (hd:(x == ("__debug__":Str))=false:=by decide):PE X (.Name x pos) (tC v):=by
 obtain ⟨u,hm,r⟩:=h;exact QjE hg hm r hd
end
def QbM {α:Type} (l:List α) (lo hi:Option Int):List α:=(l.drop (HT.sIx l.length 0 lo)).take (HT.sIx l.length l.length hi - HT.sIx l.length 0 lo)
theorem QlO (l:List Nat) (lo hi:Option Int):Txt.slice (S l) lo hi=S (QbM l lo hi):=by
 obtain ⟨h1,h2,h3⟩:=QhA lo hi l.length
 have e:Builtin.Str.strSliceIndices lo hi 1 (S l).length=(List.range (HT.sIx l.length l.length hi - HT.sIx l.length 0 lo)).map (HT.sIx l.length 0 lo + ·):=by
  rw [Qa6];show sliceRange (sliceBounds lo hi none l.length).1 (sliceBounds lo hi none l.length).2.1 (sliceBounds lo hi none l.length).2.2=_;rw [h1,h2,h3,sliceRange_one]
 unfold Txt.slice;rw [e,pick_run,Qdq]
 split
 ·rename_i h
  have hl:HT.sIx l.length l.length hi - HT.sIx l.length 0 lo=l.length:=by simpa [Qa6] using h
  have hle:HT.sIx l.length l.length hi≤l.length:=HT.sIx_le _ _ (zc _) hi;have hlo:HT.sIx l.length 0 lo≤l.length:=HT.sIx_le _ _ (Nat.zero_le _) lo
  have h0:HT.sIx l.length 0 lo=0:=by omega
  have h1:HT.sIx l.length l.length hi=l.length:=by omega
  unfold QbM;rw [h0,h1];simp
 ·rfl
section
variable {X:Cx}
def Qvn:V→Option Int→Option Int→Hp→VK→Prop:=fun x lo hi H Q=>∃l,x = .str (S l)∧l.length≤sizeLine∧Q (.str (S (QbM l lo hi))) H
theorem part_of {v:Value}{o:Option Int} (p:IsPart v o):∃q:Option (Int×Tok),v=partValue q∧q.map (·.1)=o:=by
 cases p with
 | none=>exact ⟨none,rfl,rfl⟩
 | int i t=>exact ⟨some (i,t),rfl,rfl⟩
theorem Qss:SlR X Qvn:=by
 intro pins s σ H x v vl vu lo hi sl Q I rx hs pl pu h;obtain ⟨l,rfl,hz,q⟩:=h;obtain ⟨t,rfl⟩:=rx;obtain ⟨ql,rfl,e1⟩:=part_of pl;obtain ⟨qu,rfl,e2⟩:=part_of pu;refine ⟨"str",_,F.slot_str_getitem.lookup,typeIs_str _ _ _,?_⟩;refine wpAny_getItem_str_slice (l:=ql) (u:=qu) (st:=none) hs rfl ?_;have key:(if ((1:Int) == 1&&(Builtin.Str.strSliceIndices lo hi 1 (S l).length).length == (S l).length)=true then S l else ⟨((Builtin.Str.strSliceIndices lo hi 1 (S l).length).filterMap ((S l).cps[·]?)).toArray⟩)=S (QbM l lo hi):=QlO l lo hi;unfold sliceMade slicePicked;rw [e1,e2];refine post_val_or_str ⟨?_,fun t' k=>?_⟩
 ·show (Txt.slice (S l) lo hi).length≤_;exact zt (Txt.slice_le _ _ _) (by rw [Qa6]; exact hz)
 ·have e3:=QlO l lo hi;unfold Txt.slice at e3;show EP X pins σ Q (.str (if ((1:Int) == 1&&(Builtin.Str.strSliceIndices lo hi 1 (S l).length).length == (S l).length)=true then S l else ⟨((Builtin.Str.strSliceIndices lo hi 1 (S l).length).filterMap ((S l).cps[·]?)).toArray⟩) t') { s with toks:=k };rw [e3];exact ⟨.str _,H,I.tok k,⟨t',rfl⟩,q⟩
end
namespace HT2
theorem getItem_tuple_whole {prog:Program}{w:World}{A:Around}{E:Value→Shared→Prop}{s:Shared}{t sl:Addr}{items:Array Value}{vl vu:Value}{lo hi:Option Int}{Q:Value→Shared→Prop} (ht:IsTup s.heap t items) (hs:s.heap.IsSliceOf sl vl vu .none) (pl:IsPart vl lo) (pu:IsPart vu hi)
  (hw:HT.sIx items.size 0 lo=0∧HT.sIx items.size items.size hi=items.size) (h:Q (.ref t) s):wpAny (model prog w) A (getItem (.ref t) (.ref sl)) Q E s:=by
 obtain ⟨os,hos,hcs,hds⟩:=id hs;have hTs:s.TypeIs (.ref sl) "slice":=⟨os,hos,hcs⟩;unfold getItem
 try with_reducible refine zF ?_
 first | refine za (zb ?_) | skip
 refine za (wpAny_sequenceKey ht.typeIs (by decide) ?_)
 refine za (wpAny_callSpecial?_slot (name:=Str.ofString "__getitem__") ht.typeIs PyProof.Rows.slot_tuple_getitem
  (wpAny_call_entry PyProof.Rows.slot_tuple_getitem ht.typeIs entry_tuple_getitem ?_ (args_tuple_getitem _ _)))
 show wpAny _ _ (Builtin.Tuple.tupleItemsOf (.ref t) >>= _) _ _ s;refine za (tupleItemsOf_ ht ?_);refine za (wpAny_typeOf hTs ?_);rw [if_pos (by decide)];refine za (HT.sliceApplied_gen hs pl pu ?_)
 have hyes:(((HT.sIx items.size 0 lo:Nat):Int) == 0&&(1:Int) == 1&&(HT.sIx items.size items.size hi - HT.sIx items.size 0 lo) == items.size)=true:=by
  rw [hw.1,hw.2];simp
 show wpAny _ _ (if (((HT.sIx items.size 0 lo:Nat):Int) == 0&&(1:Int) == 1&&(HT.sIx items.size items.size hi - HT.sIx items.size 0 lo) == items.size)=true then _ else _) _ _ s;rw [if_pos hyes]
 have hex:∀{A':Around}{E':Value→Shared→Prop}{Q':Bool→Shared→Prop},Q' true s→wpAny (model prog w) A' (Builtin.Tuple.tupleIsExact (.ref t)) Q' E' s:=fun {A' E' Q'} hq=>by
  unfold Builtin.Tuple.tupleIsExact;exact za (wpAny_typeOf ht.typeIs (zb hq))
 refine za (hex ?_);rw [if_pos rfl];exact za (zS (zb ⟨_,rfl,zb h⟩))
end HT2
section
variable {X:Cx}
def QtX (K:PySem.W.Frag):V→Option Int→Option Int→Hp→VK→Prop:=fun x lo hi H Q=>∃a xs,x = .ref a∧SqT K H a xs ∧
 ((HT.sIx xs.length 0 lo=0∧HT.sIx xs.length xs.length hi=xs.length)→Q (.ref a) H)∧(¬(HT.sIx xs.length 0 lo=0∧HT.sIx xs.length xs.length hi=xs.length)→∀p,H p=none→Q (.ref p) (upd H p (.tup (QgJ xs lo hi))))
theorem QqS (K:PySem.W.Frag) (hK:X.K=K:=by rfl):SlR X (QtX K):=by
 subst hK;intro pins s σ H x v vl vu lo hi sl Q I rx hs pl pu h;obtain ⟨a,xs,rfl,hx,q1,q2⟩:=h
 by_cases hw:HT.sIx xs.length 0 lo=0∧HT.sIx xs.length xs.length hi=xs.length
 ·cases rx;obtain ⟨its,r,ht,hz⟩:=I.tuple hx
  have hlen:its.toArray.size=xs.length:=by rw [zn]; exact r.length.symm
  exact ⟨"tuple",_,PyProof.Rows.slot_tuple_getitem.lookup,ht.typeIs,HT2.getItem_tuple_whole ht hs pl pu (by rw [hlen]; exact hw) ⟨.ref a,H,I,rfl,q1 hw⟩⟩
 ·exact QsB pins s σ H _ v vl vu lo hi sl Q I rx hs pl pu ⟨a,xs,rfl,hx,hw,q2 hw⟩
inductive TyQ (K:PySem.W.Frag) (H:Hp):V→String→Prop where
 | non:TyQ K H .non "NoneType"
 | bl (x:Bool):TyQ K H (.bl x) "bool"
 | int (i:Int):TyQ K H (.int i) "int"
 | str (x:Str):TyQ K H (.str x) "str"
 | lst {a:Addr}{xs:List V} (e:SqL K H a xs):TyQ K H (.ref a) "list"
 | tup {a:Addr}{xs:List V} (e:SqT K H a xs):TyQ K H (.ref a) "tuple"
 | dK {a:Addr}{kvs:List (Key×V)} (e:H a=some (.dK kvs)):TyQ K H (.ref a) "dict"
def QvB (K:PySem.W.Frag):List V→Hp→VK→Prop:=fun xs H Q=>∃x n t b,xs = [x,.ty n]∧TyQ K H x t∧PySem.W.kitOne K (.type t) (.type n)=some b∧Q (.bl b) H
theorem Qnk (K:PySem.W.Frag) (hK:X.K=K:=by rfl):QiT X (.builtin "isinstance") (QvB K):=by
 subst hK;intro pins s σ H xs us Q I r h;obtain ⟨x,n,t,b,rfl,ty,e,q⟩:=h;obtain ⟨u,c,rfl,r1,r2⟩:=vals2 r;cases (show c = .type n from r2)
 have fin:∀tk,EP X pins σ Q (.bool b) { s with toks:=tk }:=fun tk=>⟨.bl b,H,I.tok tk,rfl,q⟩
 cases ty with
 | non=>exact QeN I r1 .non e fin
 | bl y=>exact QeN I r1 (.bl y) e fin
 | int i=>exact QeN I r1 (.int i) e fin
 | str y=>exact QeN I r1 (.str y) e fin
 | @lst a xs ea =>
  cases (show u=Value.ref a from r1);obtain ⟨its,_,p,_⟩:=I.list ea;obtain ⟨o,ho,hc,_⟩:=p.isList;exact PySem.W.kia_one PySem.W.kitx_list I.kIn ⟨o,ho,hc⟩ e (fun z=>nomatch z) fin
 | @tup a xs ea =>
  cases (show u=Value.ref a from r1);obtain ⟨its,_,p,_⟩:=I.tuple ea;obtain ⟨o,ho,hc,_⟩:=p;exact PySem.W.kia_one PySem.W.kitx_tuple I.kIn ⟨o,ho,hc⟩ e (fun z=>nomatch z) fin
 | @dK a kvs ea=>exact QeN I r1 (.dK ea) e fin
theorem Qp9 (K:PySem.W.Frag) (n:String):PySem.W.kitOne K (.type n) (.type n)=some true:=by
 unfold PySem.W.kitOne;rw [if_pos (beq_self_eq_true _)]
end
theorem QlL:∀{ds:List PyData},(∀d∈ds,d.canLay0=true)→PyData.canLayAll0 ds=true
 | [],_=>rfl
 | d::ds,h=>by rw [PyData.canLayAll0,h d zw,QlL fun x hx=>h x (zu _ hx)]; rfl
theorem Qk4 {n:Nat}:∀{ds:List PyData},(∀d∈ds,d.depth≤n)→PyData.depthAll ds≤n
 | [],_=>by rw [PyData.depthAll]; exact Nat.zero_le _
 | d::ds,h=>by
  rw [PyData.depthAll];exact Nat.max_le.mpr ⟨h d zw,Qk4 fun x hx=>h x (zu _ hx)⟩
theorem QrB {n:Nat} (hn:n < 60) {ds:List PyData} (h:∀d∈ds,d.canLay0=true∧d.depth≤n):okD (.list ds)=true:=by
 unfold okD;rw [zf];refine ⟨?_,zG ?_⟩
 ·show PyData.canLayAll0 ds=true
  exact QlL fun d hd=>(h d hd).1
 ·show PyData.depthAll ds+1≤60
  have:=Qk4 fun d hd=>(h d hd).2
  omega
section
variable {X:Cx}
theorem QiZ:∀{ls:List (List Nat)}{us:List Value},QaC (ls.map fun l=>V.str (S l)) us→StrsAre us (ls.map S)
 | [],us,r=>by rw [List.map_nil] at r; cases r; exact .nil
 | l::ls,us,r=>by
  rw [ze] at r
  cases r with
  | cons r1 r2 =>
   obtain ⟨t,e⟩:=r1;subst e;exact .cons _ t (QiZ r2)
theorem Qn6:∀(ls:List (List Nat)) (a:Array Nat),(ls.map S).foldl (fun acc p=>acc++(S []).cps++p.cps) a=a++ls.flatten.toArray
 | [],a=>by simp
 | l::ls,a=>by
  rw [ze,List.foldl_cons,Qn6 ls];simp [S]
theorem QsY (ls:List (List Nat)):Txt.join (S []) (ls.map S)=S ls.flatten:=by
 show Builtin.Str.glued (S []) (ls.map S)=_;unfold Builtin.Str.glued
 cases ls with
 | nil=>rfl
 | cons l ls =>
  show Str.mk ((ls.map S).foldl (fun acc p=>acc++(S []).cps++p.cps) (S l).cps)=_;rw [Qn6];simp [S]
def rJoin (K:PySem.W.Frag):V→List V→Hp→VK→Prop:=fun x vs H Q=>∃(p:Addr) (ls:List (List Nat)),x = .str (S [])∧vs = [.ref p]∧SqL K H p (ls.map fun l=>V.str (S l))∧(ls.map List.length).sum≤1000000∧Q (.str (S ls.flatten)) H
theorem QpC (K:PySem.W.Frag) (hK:X.K=K:=by rfl):MtR X "str.join" (rJoin K):=by
 subst hK;intro pins s σ H x xs v us Q I rx rs h;obtain ⟨p,ls,rfl,rfl,hq,hz,q⟩:=h;obtain ⟨t,rfl⟩:=rx;obtain ⟨u,rfl,ru⟩:=vals1 rs;cases ru;obtain ⟨its,rv,pl,_⟩:=I.list hq
 refine join_list pl.isList (ys:=ls.map S) (by simpa using QiZ rv) ?_ fun t' k=>⟨.str (S ls.flatten),H,I.tok k,⟨t',?_⟩,q⟩
 ·have e:((ls.map S).map (·.length)).sum=(ls.map List.length).sum:=by
   rw [List.map_map];exact congrArg List.sum (List.map_congr_left fun l _=>Qa6 l)
  rw [e,Qa6];simp only [List.length_nil,Nat.mul_zero];omega
 ·rw [QsY]
def Qry:V→List V→Hp→VK→Prop:=fun x vs H Q=>∃l m,x = .str (S l)∧vs = [.str (S m)]∧Q (.bl (decide (l.take m.length=m))) H
theorem QpY (l m:List Nat):Txt.startswith (S l) (S m)=decide (l.take m.length=m):=by
 unfold Txt.startswith;rw [StrLaws.subAt_eq,Qdq,Qdq,Qa6,Qa6,List.drop_zero,Bool.eq_iff_iff,zf,decide_eq_true_eq,decide_eq_true_eq,beq_iff_eq];constructor
 ·exact fun h=>h.2
 ·intro h;refine ⟨?_,h⟩
  have:=congrArg List.length h
  rw [List.length_take] at this;omega
def QuC:R2:=fun x y H Q=>∃(l:List Nat) (n:Int),x = .str (S l)∧y = .int n∧-1000000 < n∧n < 1000000∧l.length * n.toNat≤16777216∧Q (.str (S (List.replicate n.toNat l).flatten)) H
theorem Qqq (l:List Nat):∀(n:Nat) (a:Array Nat),(List.replicate n (S l).cps).foldl (· ++ ·) a=a++(List.replicate n l).flatten.toArray
 | 0,a=>by simp
 | n+1,a=>by
  rw [List.replicate_succ,List.foldl_cons,Qqq l n,List.replicate_succ,List.flatten_cons];simp [S]
theorem Qmu:OpR X (binaryOp .Mult) QuC:=by
 intro pins s σ H x y v u Q I rx ry h;obtain ⟨l,n,rfl,rfl,h1,h2,h3,q⟩:=h;obtain ⟨t,rfl⟩:=rx;obtain ⟨t',rfl⟩:=ry;have hs:sizeLine=16777216:=sizeLine_eq
 by_cases hn:n < 1
 ·have e0:n.toNat=0:=by omega
  rw [e0] at q;exact P.mul_str_none hn (by omega) ⟨.str (S []),H,I.tok _,⟨s.toks,rfl⟩,q⟩
 refine P.mul_str ?_ (fun _ _=>?_) (fun _ _=>?_) ?_
 ·rw [zp (by omega),zp (by omega)];rfl
 ·rw [Qa6];intro hz
  have h4:(l.length:Int) * n≤16777216:=by
   have:((l.length * n.toNat:Nat):Int)≤16777216:=by omega
   rw [Int.natCast_mul,Int.toNat_of_nonneg (by omega)] at this;exact this
  have h5:(2 ^ 63 - 1) / n < (l.length:Int):=hz;have h6:=(Int.ediv_lt_iff_lt_mul (show 0 < n by omega)).mp h5;omega
 ·rw [Qa6];unfold Builtin.Str.tooLong;exact zp (by omega)
 ·rw [if_neg (by omega)]
  by_cases hl:(n == 1 || (S l).length == 0)=true
  ·rw [if_pos hl]
   have e:(List.replicate n.toNat l).flatten=l:=by
    rw [Bool.or_eq_true,beq_iff_eq,beq_iff_eq,Qa6] at hl
    rcases hl with z | z
    ·rw [z];show (List.replicate 1 l).flatten=l;simp
    ·have z':=List.eq_nil_of_length_eq_zero z;subst z';rw [List.flatten_eq_nil_iff];intro x hx;exact (List.mem_replicate.mp hx).2
   rw [e] at q;exact ⟨.str (S l),H,I,⟨t,rfl⟩,q⟩
  ·rw [if_neg hl,Qqq];refine ⟨?_,.str (S (List.replicate n.toNat l).flatten),H,I.tok _,⟨s.toks,?_⟩,q⟩
   ·show (#[]++(List.replicate n.toNat l).flatten.toArray).size≤sizeLine;simp only [Array.size_append,zn,List.length_flatten,List.map_replicate,List.sum_replicate_nat];simp;rw [Nat.mul_comm];omega
   ·congr 1;simp [S]
theorem QnC:MtR X "str.startswith" Qry:=by
 intro pins s σ H x xs v us Q I rx rs h;obtain ⟨l,m,rfl,rfl,q⟩:=h;obtain ⟨t,rfl⟩:=rx;obtain ⟨u,rfl,ru⟩:=vals1 rs;obtain ⟨t',rfl⟩:=ru;exact SC.startswith ⟨.bl _,H,I,rfl,by rw [QpY]; exact q⟩
end
inductive D where
 | non | bl (b:Bool) | int (i:Int) | str (l:List Nat) | lst (ds:List D) | tup (ds:List D) | dic (ks vs:List D) | ob (n:Nat)
inductive Ob where
 | ins (c:Str) (fs:List (Str×D))
 | ml (ds:List D)
 | dt (kvs:List (List Key×D))
 | df (kvs:List (List Key×D))
 | dk (kvs:List (Key×D))
 | xc (c:Str) (fs:List (Str×D))
abbrev Qab:=List Ob
abbrev Qak:=List (Option D)
structure Xc where
 cls:Str
 fs:List (Str×D)
inductive Res (α:Type) where
 | ok (a:α) (O:Qab) | ex (x:Xc) (O:Qab) | no
inductive Fl where
 | nx (ρ:Qak) (O:Qab) | rt (d:D) (O:Qab) | bk (ρ:Qak) (O:Qab) | ct (ρ:Qak) (O:Qab) | ex (x:Xc) (O:Qab) | no
abbrev M (α:Type):=Qak→Qab→Res α
abbrev MS:=Qak→Qab→Fl
def Res.bind {α β:Type} (r:Res α) (f:α→Qab→Res β):Res β:=match r with
 | .ok a O=>f a O
 | .ex x O=>.ex x O
 | .no=>.no
theorem Res.bind_ok {α β:Type}{r:Res α}{f:α→Qab→Res β}{b:β}{O':Qab} (h:r.bind f = .ok b O'):∃a O,r = .ok a O∧f a O = .ok b O':=by
 cases r with
 | ok a O=>exact ⟨a,O,rfl,h⟩
 | ex x O=>cases h
 | no=>cases h
def Qlg:Expr→Bool
 | .Starred _ _=>false
 | _=>true
theorem Qa1 {e:Expr}{es:List Expr}{env:Env} (h:Qlg e=true):starEach (e::es) env=(false,eval e env)::starEach es env:=by
 cases e <;> first | rfl | cases h
theorem Qa5 {pos:Pos}{env:Env}:∀{es:List Expr},es.all Qlg=true→(backTo pos (starEach es env)).any (·.1)=false
 | [],_=>by simp [starEach,backTo]
 | e::es,h=>by
  rw [List.all_cons,zf] at h;rw [Qa1 h.1];show (false || (backTo pos (starEach es env)).any (·.1))=false;rw [Qa5 h.2];rfl
theorem Qh4 {e:Expr}{env:Env} (h:Qlg e=true):starEach [e] env = [(false,eval e env)]:=by rw [Qa1 h]; simp [starEach]
abbrev Frag:=PySem.W.Frag
def Qm1:Key→D
 | .inl i=>.int i
 | .inr x=>.str x.cps.toList
def RdK (K:Frag) (H:Hp) (a:Addr) (xs:List V):Prop:=Rd H a (.lst xs)∨∃(its:List Value) (n:Nat),K.lookup a=some { cls:=.type "list",data:=.seq its.toArray n }∧its.length≤sizeLine∧QaC xs its
theorem RdK.sq {K:Frag}{H:Hp}{a:Addr}{xs:List V} (h:RdK K H a xs):SqL K H a xs:=by
 rcases h with h | ⟨its,n,h1,h2,h3⟩
 ·exact .inl h
 ·exact .inr ⟨_,its.toArray,n,h1,rfl,rfl,rfl,by simpa using h2,by simpa using h3⟩
theorem RdK.ok {X:Cx}{pins:List (Addr×Obj)}{σ:St}{H:Hp}{s:Shared}{a:Addr}{xs:List V} (h:RdK X.K H a xs) (I:Inv X pins σ H s):xs.length≤sizeLine∧∃(its:List Value) (n:Nat),QaC xs its∧s.heap.get? a=some { cls:=.type "list",data:=.seq its.toArray n }:=by
 rcases h with h | ⟨its,n,h1,h2,h3⟩
 ·exact h.ok I.hok
 ·exact ⟨by rw [h3.length]; exact h2,its,n,h3,I.kIn a _ h1⟩
def TqT (K:Frag) (F:Hp) (a:Addr) (xs:List V):Prop :=
 F a=some (.tup xs)∨∃(o:Obj) (its:Array Value) (n:Nat),K.lookup a=some o∧o.cls = .type "tuple"∧o.data = .seq its n∧its.size≤sizeLine∧QaC xs its.toList
theorem TqT.sq {K:Frag}{F:Hp}{a:Addr}{xs:List V} (h:TqT K F a xs):SqT K F a xs:=h.imp .inl id
mutual
def Rp (K:Frag) (F:Hp) (as:List Addr):V→D→Prop
 | v,.non=>v = .non
 | v,.bl b=>v = .bl b
 | v,.int i=>v = .int i
 | v,.str l=>v = .str (S l)
 | v,.lst ds=>∃a xs,v = .ref a∧RdK K F a xs∧Rps K F as xs ds
 | v,.tup ds=>∃a xs,v = .ref a∧TqT K F a xs∧Rps K F as xs ds
 | v,.dic ks vs=>∃(a:Addr) (kvs:List (Key×V)),v = .ref a∧F a=some (.dK kvs)∧ks=kvs.map (fun p=>Qm1 p.1)∧Rps K F as (kvs.map (·.2)) vs
 | v,.ob n=>∃a,v = .ref a∧as[n]? = some a
def Rps (K:Frag) (F:Hp) (as:List Addr):List V→List D→Prop
 | xs,[]=>xs = []
 | xs,d::ds=>∃x r,xs=x::r∧Rp K F as x d∧Rps K F as r ds
end
section
variable {K:Frag}{F F':Hp}{as as':List Addr}
theorem Rd.mono {H H':Hp}{a:Addr}{u:HO} (e:Same H H') (h:Rd H a u):Rd H' a u:=by
 rcases h with h | ⟨o,h⟩
 ·exact .inl (e _ _ h)
 ·exact .inr ⟨o,e _ _ h⟩
theorem RdK.mono {H H':Hp}{a:Addr}{xs:List V} (e:Same H H') (h:RdK K H a xs):RdK K H' a xs:=h.imp (fun z=>z.mono e) id
mutual
theorem Rp.mono (e:Same F F') (ea:∀(n:Nat) (a:Addr),as[n]? = some a→as'[n]? = some a):∀(d:D) {v:V},Rp K F as v d→Rp K F' as' v d
 | .non,v,h=>by rw [Rp] at h ⊢; exact h
 | .bl b,v,h=>by rw [Rp] at h ⊢; exact h
 | .int i,v,h=>by rw [Rp] at h ⊢; exact h
 | .str x,v,h=>by rw [Rp] at h ⊢; exact h
 | .lst ds,v,h=>by
  rw [Rp] at h ⊢;obtain ⟨a,xs,h1,h2,h3⟩:=h;exact ⟨a,xs,h1,h2.mono e,Rps.mono e ea ds h3⟩
 | .tup ds,v,h=>by
  rw [Rp] at h ⊢;obtain ⟨a,xs,h1,h2,h3⟩:=h;exact ⟨a,xs,h1,h2.imp (e _ _) id,Rps.mono e ea ds h3⟩
 | .dic ks vs,v,h=>by
  rw [Rp] at h ⊢;obtain ⟨a,kvs,h1,h2,h3,h4⟩:=h;exact ⟨a,kvs,h1,e _ _ h2,h3,Rps.mono e ea vs h4⟩
 | .ob n,v,h=>by
  rw [Rp] at h ⊢;obtain ⟨a,h1,h2⟩:=h;exact ⟨a,h1,ea _ _ h2⟩
theorem Rps.mono (e:Same F F') (ea:∀(n:Nat) (a:Addr),as[n]? = some a→as'[n]? = some a):∀(ds:List D) {xs:List V},Rps K F as xs ds→Rps K F' as' xs ds
 | [],xs,h=>by rw [Rps] at h ⊢; exact h
 | d::ds,xs,h=>by
  rw [Rps] at h ⊢;obtain ⟨x,r,h1,h2,h3⟩:=h;exact ⟨x,r,h1,Rp.mono e ea d h2,Rps.mono e ea ds h3⟩
end
theorem Rp.non:Rp K F as .non .non:=by rw [Rp]
theorem Rp.bl {b:Bool}:Rp K F as (.bl b) (.bl b):=by rw [Rp]
theorem Rp.int {i:Int}:Rp K F as (.int i) (.int i):=by rw [Rp]
theorem Rp.str {l:List Nat}:Rp K F as (.str (S l)) (.str l):=by rw [Rp]
theorem Rp.unN {v:V} (h:Rp K F as v .non):v = .non:=by rw [Rp] at h; exact h
theorem Rp.unB {v:V}{b:Bool} (h:Rp K F as v (.bl b)):v = .bl b:=by rw [Rp] at h; exact h
theorem Rp.unI {v:V}{i:Int} (h:Rp K F as v (.int i)):v = .int i:=by rw [Rp] at h; exact h
theorem Rp.unS {v:V}{l:List Nat} (h:Rp K F as v (.str l)):v = .str (S l):=by rw [Rp] at h; exact h
theorem Rp.unL {v:V}{ds:List D} (h:Rp K F as v (.lst ds)):∃a xs,v = .ref a∧RdK K F a xs∧Rps K F as xs ds:=by rw [Rp] at h; exact h
theorem Rp.unT' {v:V}{ds:List D} (h:Rp K F as v (.tup ds)):∃a xs,v = .ref a∧TqT K F a xs∧Rps K F as xs ds:=by rw [Rp] at h; exact h
theorem Rp.unT {v:V}{ds:List D} (h:Rp K F as v (.tup ds)):∃a xs,v = .ref a∧SqT K F a xs∧Rps K F as xs ds:=let ⟨a,xs,e,h1,h2⟩:=h.unT'; ⟨a,xs,e,h1.sq,h2⟩
theorem Rp.unO {v:V}{n:Nat} (h:Rp K F as v (.ob n)):∃a,v = .ref a∧as[n]? = some a:=by rw [Rp] at h; exact h
theorem Rp.unD {v:V}{ks vs:List D} (h:Rp K F as v (.dic ks vs)):∃(a:Addr) (kvs:List (Key×V)),v = .ref a∧F a=some (.dK kvs)∧ks=kvs.map (fun p=>Qm1 p.1)∧Rps K F as (kvs.map (·.2)) vs:=by rw [Rp] at h; exact h
theorem Rp.mkL {a:Addr}{xs:List V}{ds:List D} (h:RdK K F a xs) (hs:Rps K F as xs ds):Rp K F as (.ref a) (.lst ds):=by rw [Rp]; exact ⟨a,xs,rfl,h,hs⟩
theorem Rp.mkT {a:Addr}{xs:List V}{ds:List D} (h:TqT K F a xs) (hs:Rps K F as xs ds):Rp K F as (.ref a) (.tup ds):=by rw [Rp]; exact ⟨a,xs,rfl,h,hs⟩
theorem Rp.mkO {a:Addr}{n:Nat} (h:as[n]? = some a):Rp K F as (.ref a) (.ob n):=by rw [Rp]; exact ⟨a,rfl,h⟩
theorem Rps.nil:Rps K F as [] []:=by rw [Rps]
theorem Rps.cons {x:V}{xs:List V}{d:D}{ds:List D} (h:Rp K F as x d) (hs:Rps K F as xs ds):Rps K F as (x::xs) (d::ds):=by
 rw [Rps]; exact ⟨x,xs,rfl,h,hs⟩
theorem Rps.un {xs:List V}{d:D}{ds:List D} (h:Rps K F as xs (d::ds)):∃x r,xs=x::r∧Rp K F as x d∧Rps K F as r ds:=by rw [Rps] at h; exact h
theorem Rps.un0 {xs:List V} (h:Rps K F as xs []):xs = []:=by rw [Rps] at h; exact h
theorem Rps.length:∀{ds:List D}{xs:List V},Rps K F as xs ds→xs.length=ds.length
 | [],xs,h=>by rw [h.un0]; rfl
 | d::ds,xs,h=>by
  obtain ⟨x,r,rfl,_,h3⟩:=h.un;simp [Rps.length h3]
theorem Rps.get:∀{ds:List D}{xs:List V}{i:Nat}{x:V},Rps K F as xs ds→xs[i]? = some x→∃d,ds[i]? = some d∧Rp K F as x d
 | [],xs,i,x,h,e=>by rw [h.un0] at e; simp at e
 | d::ds,xs,i,x,h,e=>by
  obtain ⟨y,r,rfl,h2,h3⟩:=h.un
  cases i with
  | zero=>simp at e; subst e; exact ⟨d,rfl,h2⟩
  | succ i =>
   obtain ⟨d',e',q⟩:=Rps.get (i:=i) (x:=x) h3 (by simpa using e);exact ⟨d',by simpa using e',q⟩
theorem Rps.get':∀{ds:List D}{xs:List V}{i:Nat}{d:D},Rps K F as xs ds→ds[i]? = some d→∃x,xs[i]? = some x∧Rp K F as x d:=by
 intro ds xs i d h e;have hl:=h.length
 have hi:i < xs.length:=by rw [hl]; exact (zl.mp e).1
 obtain ⟨d',e',q⟩:=h.get (zK hi);rw [e] at e'; cases e';exact ⟨_,zK hi,q⟩
theorem Rps.append {ys:List V}{es:List D} (hy:Rps K F as ys es):∀{ds:List D}{xs:List V},Rps K F as xs ds→Rps K F as (xs++ys) (ds++es)
 | [],xs,h=>by rw [h.un0]; exact hy
 | e::ds,xs,h=>by
  obtain ⟨y,r,rfl,h2,h3⟩:=h.un;exact Rps.cons h2 (Rps.append hy h3)
theorem Rps.snoc {x:V}{d:D}{ds:List D}{xs:List V} (h:Rps K F as xs ds) (hx:Rp K F as x d):Rps K F as (xs ++ [x]) (ds ++ [d]):=Rps.append (Rps.cons hx Rps.nil) h
theorem Rps.take:∀{ds:List D}{xs:List V} (n:Nat),Rps K F as xs ds→Rps K F as (xs.take n) (ds.take n)
 | _,_,0,_=>by simpa using Rps.nil
 | [],xs,n+1,h=>by rw [h.un0]; simpa using Rps.nil
 | d::ds,xs,n+1,h=>by
  obtain ⟨y,r,rfl,h2,h3⟩:=h.un;exact Rps.cons h2 (Rps.take n h3)
theorem Rps.drop:∀{ds:List D}{xs:List V} (n:Nat),Rps K F as xs ds→Rps K F as (xs.drop n) (ds.drop n)
 | _,_,0,h=>by simpa using h
 | [],xs,n+1,h=>by rw [h.un0]; simpa using Rps.nil
 | d::ds,xs,n+1,h=>by
  obtain ⟨y,r,rfl,h2,h3⟩:=h.un;exact Rps.drop n h3
theorem Rps.set:∀{ds:List D}{xs:List V}{x:V}{d:D} (n:Nat),Rps K F as xs ds→Rp K F as x d→Rps K F as (xs.set n x) (ds.set n d)
 | [],xs,x,d,n,h,_=>by rw [h.un0]; simpa using Rps.nil
 | e::ds,xs,x,d,0,h,hx=>by
  obtain ⟨y,r,rfl,h2,h3⟩:=h.un;exact Rps.cons hx h3
 | e::ds,xs,x,d,n+1,h,hx=>by
  obtain ⟨y,r,rfl,h2,h3⟩:=h.un;exact Rps.cons h2 (Rps.set n h3 hx)
theorem Rps.rep {ds:List D}{xs:List V} (h:Rps K F as xs ds):∀n:Nat,Rps K F as (List.replicate n xs).flatten (List.replicate n ds).flatten
 | 0=>by simpa using Rps.nil
 | n+1=>by
  rw [List.replicate_succ,List.replicate_succ,List.flatten_cons,List.flatten_cons];exact Rps.append (Rps.rep h n) h
end
def isD:HO→Bool
 | .ins _ _ _=>false
 | .own _=>false
 | .xd _=>false
 | _=>true
def isL:HO→Bool
 | .lst _=>true
 | .dK _=>true
 | _=>false
theorem Qql {o:HO} (h:isL o=true):isD o=true:=by
 cases o <;> first | rfl | cases h
structure Gr (H F:Hp) (as:List Addr) (H' F':Hp) (as':List Addr):Prop where
 fz:∀a o,H a=some o→a∉as→isL o=true→F' a=F a
 ff:Same F F'
 nw:∃new,as'=as++new∧∀a∈new,H a=none
 fr:∀a o,H a=some o→a∉as→isD o=true→H' a=some o
 dm:∀a,H' a=none→H a=none
 kz:∀a o u,H a=some (.frz o u)→H' a=some (.frz o u)
structure Pt where
 p:Addr→Prop
 ss:List (Nat×V×D)
instance:CoeFun Pt (fun _=>Addr→Prop):=⟨Pt.p⟩
def Pt.all (H:Hp):Pt:=⟨fun a=>H a≠none,[]⟩
structure GrS (P:Pt) (H F:Hp) (as:List Addr) (H' F':Hp) (as':List Addr):Prop where
 fz:∀a o,P a→H a=some o→a∉as→isL o=true→F' a=F a
 ff:Same F F'
 nw:∃new,as'=as++new∧∀a∈new,H a=none
 fr:∀a o,P a→H a=some o→a∉as→isD o=true→H' a=some o
 dm:∀a,H' a=none→H a=none
 kz:∀a o u,H a=some (.frz o u)→H' a=some (.frz o u)
section
variable {H F H' F' H2 F2:Hp}{as as' as2:List Addr}{P:Pt}
theorem Gr.refl:Gr H F as H F as:=⟨fun _ _ _ _ _=>rfl,Same.refl F,⟨[],by simp,fun _ h=>nomatch h⟩,fun _ _ h _ _=>h,fun _ h=>h,fun _ _ _ h=>h⟩
theorem Gr.trans (a:Gr H F as H' F' as') (b:Gr H' F' as' H2 F2 as2):Gr H F as H2 F2 as2:=by
 obtain ⟨n1,e1,h1⟩:=a.nw;obtain ⟨n2,e2,h2⟩:=b.nw;refine ⟨fun c o hc hn hd=>?_,a.ff.trans b.ff,⟨n1++n2,by rw [e2,e1,zO],fun c hc=>?_⟩,fun c o e hn hd=>?_,fun c h=>a.dm c (b.dm c h),fun c o u h=>b.kz c o u (a.kz c o u h)⟩
 ·have q:=a.fr c o hc hn (Qql hd);refine (b.fz c o q ?_ hd).trans (a.fz c o hc hn hd);rw [e1];intro z
  rcases zA.mp z with z | z
  ·exact hn z
  ·rw [h1 c z] at hc; cases hc
 ·rcases zA.mp hc with z | z
  ·exact h1 c z
  ·exact a.dm c (h2 c z)
 ·have q:=a.fr c o e hn hd;refine b.fr c o q ?_ hd;rw [e1];intro z
  rcases zA.mp z with z | z
  ·exact hn z
  ·rw [h1 c z] at e; cases e
theorem Gr.toS (a:Gr H F as H' F' as'):GrS P H F as H' F' as':=⟨fun c o _=>a.fz c o,a.ff,a.nw,fun c o _ e hn hd=>a.fr c o e hn hd,a.dm,a.kz⟩
theorem GrS.refl:GrS P H F as H F as:=Gr.refl.toS
theorem GrS.trans (a:GrS P H F as H' F' as') (b:GrS P H' F' as' H2 F2 as2):GrS P H F as H2 F2 as2:=by
 obtain ⟨n1,e1,h1⟩:=a.nw;obtain ⟨n2,e2,h2⟩:=b.nw;refine ⟨fun c o p hc hn hd=>?_,a.ff.trans b.ff,⟨n1++n2,by rw [e2,e1,zO],fun c hc=>?_⟩,fun c o p e hn hd=>?_,fun c h=>a.dm c (b.dm c h),fun c o u h=>b.kz c o u (a.kz c o u h)⟩
 ·have q:=a.fr c o p hc hn (Qql hd);refine (b.fz c o p q ?_ hd).trans (a.fz c o p hc hn hd);rw [e1];intro z
  rcases zA.mp z with z | z
  ·exact hn z
  ·rw [h1 c z] at hc; cases hc
 ·rcases zA.mp hc with z | z
  ·exact h1 c z
  ·exact a.dm c (h2 c z)
 ·have q:=a.fr c o p e hn hd;refine b.fr c o p q ?_ hd;rw [e1];intro z
  rcases zA.mp z with z | z
  ·exact hn z
  ·rw [h1 c z] at e; cases e
theorem GrS.mono {P':Pt} (a:GrS P H F as H' F' as') (h:∀c,P' c→P c):GrS P' H F as H' F' as':=⟨fun c o p=>a.fz c o (h c p),a.ff,a.nw,fun c o p=>a.fr c o (h c p),a.dm,a.kz⟩
theorem GrS.gr (a:GrS (Pt.all H) H F as H' F' as'):Gr H F as H' F' as':=⟨fun c o e=>a.fz c o (show H c≠none by rw [e]; exact fun z=>nomatch z) e,a.ff,a.nw,fun c o e=>a.fr c o (show H c≠none by rw [e]; exact fun z=>nomatch z) e,a.dm,a.kz⟩
theorem Gr.at_ (a:Gr H F as H' F' as'):∀(n:Nat) (c:Addr),as[n]? = some c→as'[n]? = some c:=fun n c h=>by
 obtain ⟨new,e,_⟩:=a.nw;rw [e,zz (zl.mp h).1];exact h
theorem GrS.at_ (a:GrS P H F as H' F' as'):∀(n:Nat) (c:Addr),as[n]? = some c→as'[n]? = some c:=fun n c h=>by
 obtain ⟨new,e,_⟩:=a.nw;rw [e,zz (zl.mp h).1];exact h
theorem Gr.out (a:Gr H F as H' F' as') {c:Addr} (h:c∉as) (e:H c≠none):c∉as':=by
 obtain ⟨new,e1,h1⟩:=a.nw;rw [e1];intro z
 rcases zA.mp z with z | z
 ·exact h z
 ·exact e (h1 c z)
theorem GrS.out (a:GrS P H F as H' F' as') {c:Addr} (h:c∉as) (e:H c≠none):c∉as':=by
 obtain ⟨new,e1,h1⟩:=a.nw;rw [e1];intro z
 rcases zA.mp z with z | z
 ·exact h z
 ·exact e (h1 c z)
theorem Rp.gr {K:Frag}{v:V}{d:D} (h:Rp K F as v d) (a:Gr H F as H' F' as'):Rp K F' as' v d:=Rp.mono a.ff a.at_ d h
theorem Rps.gr {K:Frag}{v:List V}{d:List D} (h:Rps K F as v d) (a:Gr H F as H' F' as'):Rps K F' as' v d:=Rps.mono a.ff a.at_ d h
theorem Rp.grS {K:Frag}{v:V}{d:D} (h:Rp K F as v d) (a:GrS P H F as H' F' as'):Rp K F' as' v d:=Rp.mono a.ff a.at_ d h
theorem Rps.grS {K:Frag}{v:List V}{d:List D} (h:Rps K F as v d) (a:GrS P H F as H' F' as'):Rps K F' as' v d:=Rps.mono a.ff a.at_ d h
end
structure FsR (K:Frag) (F:Hp) (as:List Addr) (gs:List (Str×V)) (fs:List (Str×D)):Prop where
 nm:gs.map (·.1)=fs.map (·.1)
 vl:Rps K F as (gs.map (·.2)) (fs.map (·.2))
def XF (K:Frag) (F:Hp) (as:List Addr) (dxo:Option Addr) (fs:List (Str×D)):Prop:=fs = []∨∃dx od gs,dxo=some dx∧F dx=some (.frz od (.xd gs))∧FsR K F as gs fs
theorem XF.mono {K:Frag}{F F':Hp}{as as':List Addr}{dxo:Option Addr}{fs:List (Str×D)} (h:XF K F as dxo fs) (e:Same F F') (ea:∀(n:Nat) (a:Addr),as[n]? = some a→as'[n]? = some a):XF K F' as' dxo fs:=by
 rcases h with h | ⟨dx,od,gs,h1,h2,h3,h4⟩
 ·exact .inl h
 ·exact .inr ⟨dx,od,gs,h1,e _ _ h2,h3,Rps.mono e ea _ h4⟩
def ObR (K:Frag) (mg:Str→Option Value) (H F:Hp) (as:List Addr) (a:Addr):Ob→Prop
 | .ins c fs=>∃C dx gs,mg c=some (.ref C)∧H a=some (.ins C dx gs)∧FsR K F as gs fs
 | .ml ds=>∃xs,H a=some (.lst xs)∧Rps K F as xs ds
 | .dt kvs=>∃xs:List (List Key×V),H a=some (.dT xs)∧xs.map (·.1)=kvs.map (·.1)∧Rps K F as (xs.map (·.2)) (kvs.map (·.2))
 | .df kvs=>∃(o:Obj) (xs:List (List Key×V)),H a=some (.frz o (.dT xs))∧xs.map (·.1)=kvs.map (·.1)∧Rps K F as (xs.map (·.2)) (kvs.map (·.2))
 | .dk kvs=>∃xs:List (Key×V),H a=some (.dK xs)∧xs.map (·.1)=kvs.map (·.1)∧Rps K F as (xs.map (·.2)) (kvs.map (·.2))
 | .xc c fs=>∃(C:Addr) (oe:Obj) (u:HO),mg c=some (.ref C)∧H a=some (.frz oe u)∧oe.cls = .ref C∧(∃ws,oe.data = .fields ws)∧XF K F as oe.dict fs
structure RlO (K:Frag) (mg:Str→Option Value) (O:Qab) (H F:Hp) (as:List Addr):Prop where
 fh:Same F H
 fd:∀a o,F a=some o→isD o=true
 nd:as.Nodup
 len:as.length=O.length
 fa:∀a∈as,F a=none
 ob:∀(n:Nat) (a:Addr) (o:Ob),as[n]? = some a→O[n]? = some o→ObR K mg H F as a o
inductive Md where
 | v | s | o
 deriving DecidableEq
def Qet:D→Bool
 | .lst _=>false
 | _=>true
def Qez (P:Pt) (K:Frag) (H F:Hp) (as:List Addr):Md→V→D→Prop
 | .v,v,d=>Rp K F as v d
 | .s,v,d=>Rp K F as v d∨∃a xs ds,v = .ref a∧d = .lst ds∧H a=some (.lst xs)∧a∉as∧P a∧Rps K F as xs ds
 | .o,v,d=>(Qet d=true∧Rp K F as v d)∨∃a xs ds,v = .ref a∧d = .lst ds∧H a=some (.lst xs)∧F a=none∧a∉as∧¬P a∧Rps K F as xs ds
structure SlO (K:Frag) (md:List Md) (P:Pt) (ρ:Qak) (σ:St) (H F:Hp) (as:List Addr):Prop where
 len:σ.length=md.length
 len':ρ.length=md.length
 pd:∀a,P a→H a≠none
 sl:∀(i:Nat) (m:Md) (d:D),md[i]? = some m→ρ[i]? = some (some d)→∃v,σ[i]? = some (some v)∧Qez P K H F as m v d
 inj:∀(i j:Nat) (a:Addr) (ds es:List D),md[i]? = some .o→md[j]? = some .o→ρ[i]? = some (some (.lst ds))→ρ[j]? = some (some (.lst es))→σ[i]? = some (some (.ref a))→σ[j]? = some (some (.ref a))→i=j
 pin:∀x∈P.ss,md[x.1]? = some .s∧ρ[x.1]? = some (some x.2.2)∧σ[x.1]? = some (some x.2.1)
section
variable {K:Frag}{mg:Str→Option Value}{md:List Md}{P:Pt}{ρ:Qak}{σ:St}{H F H' F':Hp}{as as':List Addr}{O O':Qab}
theorem Qez.step {m:Md}{v:V}{d:D} (h:Qez P K H F as m v d) (g:Gr H F as H' F' as'):Qez P K H' F' as' m v d:=by
 cases m with
 | v=>exact Rp.gr (show Rp K F as v d from h) g
 | s =>
  rcases h with h | ⟨a,xs,ds,e1,e2,e3,e4,e5,e6⟩
  ·exact .inl (h.gr g)
  ·exact .inr ⟨a,xs,ds,e1,e2,g.fr _ _ e3 e4 rfl,g.out e4 (by rw [e3]; exact fun z=>nomatch z),e5,e6.gr g⟩
 | o =>
  rcases h with ⟨h1,h⟩ | ⟨a,xs,ds,e1,e2,e3,e0,e4,e5,e6⟩
  ·exact .inl ⟨h1,h.gr g⟩
  ·have hn:H a≠none:=by rw [e3]; exact fun z=>nomatch z
   exact .inr ⟨a,xs,ds,e1,e2,g.fr _ _ e3 e4 rfl,by rw [g.fz a _ e3 e4 rfl]; exact e0,g.out e4 hn,e5,e6.gr g⟩
theorem SlO.step (h:SlO K md P ρ σ H F as) (g:Gr H F as H' F' as'):SlO K md P ρ σ H' F' as' :=
 ⟨h.len,h.len',fun a p z=>h.pd a p (g.dm a z),fun i m d e1 e2=>let ⟨v,q,r⟩:=h.sl i m d e1 e2; ⟨v,q,r.step g⟩,h.inj,h.pin⟩
end
def Sv (K:Frag) (H F:Hp) (as:List Addr) (v:V) (d:D):Prop :=
 Rp K F as v d∨∃a xs ds,v = .ref a∧d = .lst ds∧H a=some (.lst xs)∧a∉as∧Rps K F as xs ds
def Lk (K:Frag) (H F:Hp) (as:List Addr) (v:V) (d:D):Prop :=
 Rp K F as v d∨∃a xs ds,v = .ref a∧d = .lst ds∧H a=some (.lst xs)∧Rps K F as xs ds
def Ow (K:Frag) (N:Addr→Prop) (H F:Hp) (as:List Addr) (v:V) (d:D):Prop :=
 (Qet d=true∧Rp K F as v d)∨∃a xs ds,v = .ref a∧d = .lst ds∧H a=some (.lst xs)∧F a=none∧a∉as∧N a∧Rps K F as xs ds
def QaU (O:Qab) (d:D):D:=match d with
 | .ob n=>match O[n]? with
  | some (.ml ds)=>.lst ds
  | _=>.ob n
 | d=>d
section
variable {K:Frag}{mg:Str→Option Value}{H0 H F H' F':Hp}{as as':List Addr}{O:Qab}{v:V}{d:D}
theorem Sv.gr (h:Sv K H F as v d) (g:Gr H F as H' F' as'):Sv K H' F' as' v d:=by
 rcases h with h | ⟨a,xs,ds,e1,e2,e3,e4,e5⟩
 ·exact .inl (h.gr g)
 ·exact .inr ⟨a,xs,ds,e1,e2,g.fr _ _ e3 e4 rfl,g.out e4 (by rw [e3]; exact fun z=>nomatch z),e5.gr g⟩
theorem Sv.lk (h:Sv K H F as v d) (r:RlO K mg O H F as):Lk K H F as v (QaU O d):=by
 rcases h with h | ⟨a,xs,ds,rfl,rfl,e3,e4,e5⟩
 ·cases d with
  | ob n =>
   obtain ⟨a,rfl,ha⟩:=h.unO;unfold QaU;dsimp only
   split
   ·rename_i ds e;obtain ⟨xs,e1,e2⟩:=r.ob n a _ ha e;exact .inr ⟨a,xs,ds,rfl,rfl,e1,e2⟩
   ·exact .inl (Rp.mkO ha)
  | _=>exact .inl h
 ·exact .inr ⟨a,xs,ds,rfl,rfl,e3,e5⟩
theorem Lk.list {ds:List D} (h:Lk K H F as v (.lst ds)) (fh:Same F H):∃a xs,v = .ref a∧RdK K H a xs∧Rps K F as xs ds:=by
 rcases h with h | ⟨a,xs,ds',e1,e2,e3,e4⟩
 ·obtain ⟨a,xs,e,h1,h2⟩:=h.unL;exact ⟨a,xs,e,h1.mono fh,h2⟩
 ·cases e2;exact ⟨a,xs,e1,.inl (.inl e3),e4⟩
theorem Lk.rp (h:Lk K H F as v d) (hn:Qet d=true):Rp K F as v d:=by
 rcases h with h | ⟨a,xs,ds',e1,rfl,e3,e4⟩
 ·exact h
 ·cases hn
theorem Sv.rp (h:Sv K H F as v d) (hn:Qet d=true):Rp K F as v d:=by
 rcases h with h | ⟨a,xs,ds',e1,rfl,e3,e4⟩
 ·exact h
 ·cases hn
theorem Ow.sv {N:Addr→Prop} (h:Ow K N H F as v d):Sv K H F as v d:=by
 rcases h with ⟨_,h⟩ | ⟨a,xs,ds,e1,e2,e3,e4,e5,e6,e7⟩
 ·exact .inl h
 ·exact .inr ⟨a,xs,ds,e1,e2,e3,e5,e7⟩
theorem Gr.lay {p:Addr}{o:HO} (hp:H p=none):Gr H F as (upd H p o) F as :=
 ⟨fun _ _ _ _ _=>rfl,Same.refl F,⟨[],by simp,fun _ h=>nomatch h⟩,fun a o' e _ _=>by rw [Qan (Qay e hp)]; exact e,fun a e=>by
  by_cases h:a=p
  ·subst h; exact hp
  ·rwa [Qan h] at e,fun a o' u e=>by rw [Qan (Qay e hp)]; exact e⟩
theorem ObR.keep {a:Addr}{o:Ob} (h:ObR K mg H F as a o) (hH:H' a=H a) (e:Same F F') (ea:∀(n:Nat) (a:Addr),as[n]? = some a→as'[n]? = some a):ObR K mg H' F' as' a o:=by
 cases o with
 | ins c fs =>
  obtain ⟨C,dx,gs,h1,h2,h3,h4⟩:=h;exact ⟨C,dx,gs,h1,by rw [hH]; exact h2,h3,Rps.mono e ea _ h4⟩
 | ml ds =>
  obtain ⟨xs,h1,h2⟩:=h;exact ⟨xs,by rw [hH]; exact h1,Rps.mono e ea _ h2⟩
 | dt kvs =>
  obtain ⟨xs,h1,h2,h3⟩:=h;exact ⟨xs,by rw [hH]; exact h1,h2,Rps.mono e ea _ h3⟩
 | df kvs =>
  obtain ⟨o,xs,h1,h2,h3⟩:=h;exact ⟨o,xs,by rw [hH]; exact h1,h2,Rps.mono e ea _ h3⟩
 | dk kvs =>
  obtain ⟨xs,h1,h2,h3⟩:=h;exact ⟨xs,by rw [hH]; exact h1,h2,Rps.mono e ea _ h3⟩
 | xc c fs =>
  obtain ⟨C,oe,u,h1,h2,h3,h4,h5⟩:=h;exact ⟨C,oe,u,h1,by rw [hH]; exact h2,h3,h4,h5.mono e ea⟩
theorem RlO.at {n:Nat}{a:Addr}{o:Ob} (r:RlO K mg O H F as) (ha:as[n]? = some a) (ho:O[n]? = some o):H a≠none:=by
 have q:=r.ob n a o ha ho
 cases o with
 | ins c fs=>obtain ⟨C,dx,gs,h1,h2,_⟩:=q; rw [h2]; exact fun z=>nomatch z
 | ml ds=>obtain ⟨xs,h1,_⟩:=q; rw [h1]; exact fun z=>nomatch z
 | dt kvs=>obtain ⟨xs,h1,_⟩:=q; rw [h1]; exact fun z=>nomatch z
 | df kvs=>obtain ⟨o,xs,h1,_⟩:=q; rw [h1]; exact fun z=>nomatch z
 | dk kvs=>obtain ⟨xs,h1,_⟩:=q; rw [h1]; exact fun z=>nomatch z
 | xc c fs=>obtain ⟨C,oe,u,_,h1,_⟩:=q; rw [h1]; exact fun z=>nomatch z
theorem RlO.all {a:Addr} (r:RlO K mg O H F as) (ha:a∈as):H a≠none:=by
 obtain ⟨n,hn,e⟩:=List.mem_iff_getElem.mp ha
 have hO:n < O.length:=by rw [←r.len]; exact hn
 exact r.at (n:=n) (by rw [zK hn,e]) (zK hO)
theorem RlO.lay {p:Addr}{o:HO} (r:RlO K mg O H F as) (hp:H p=none):RlO K mg O (upd H p o) F as:=by
 refine ⟨fun a u e=>?_,r.fd,r.nd,r.len,r.fa,fun n a u ha hu=>(r.ob n a u ha hu).keep (Qan ?_) (Same.refl F) fun _ _ h=>h⟩
 ·have q:=r.fh a u e;rw [Qan (Qay q hp)]; exact q
 ·intro z; subst z; exact r.at ha hu hp
theorem Gr.frz {p:Addr}{o:HO} (hp:H p=none) (g:Gr H F as H' F' as') (hf:F' p=none):Gr H F as H' (upd F' p o) as' :=
 ⟨fun a o' ha hn hd=>by rw [Qan (fun z=>by subst z; rw [hp] at ha; cases ha)]; exact g.fz a o' ha hn hd,fun a u e=>by
  have q:=g.ff a u e
  rw [Qan (Qay q hf)]; exact q,g.nw,g.fr,g.dm,g.kz⟩
theorem RlO.frz {p:Addr}{o:HO} (r:RlO K mg O H F as) (hp:H p=some o) (hf:F p=none) (ha:p∉as) (hd:isD o=true):RlO K mg O H (upd F p o) as:=by
 have ff:Same F (upd F p o):=fun a u e=>by rw [Qan (Qay e hf)]; exact e
 refine ⟨fun a u e=>?_,fun a u e=>?_,r.nd,r.len,fun a h=>?_,fun n a u h1 h2=>(r.ob n a u h1 h2).keep rfl ff fun _ _ h=>h⟩
 ·by_cases h:a=p
  ·subst h; rw [QaD] at e; cases e; exact hp
  ·rw [Qan h] at e; exact r.fh a u e
 ·by_cases h:a=p
  ·subst h; rw [QaD] at e; cases e; exact hd
  ·rw [Qan h] at e; exact r.fd a u e
 ·rw [Qan (fun z=>by subst z; exact ha h)]; exact r.fa a h
end
abbrev RR:=(Addr→Prop)→Hp→Hp→List Addr→V→D→Prop
def rV (K:Frag):RR:=fun _ _ F as v d=>Rp K F as v d
def rS (K:Frag):RR:=fun _ H F as v d=>Sv K H F as v d
def rO (K:Frag):RR:=fun N H F as v d=>Ow K N H F as v d
def rA (K:Frag):Md→RR
 | .v=>rV K
 | _=>rS K
def Qca (R:RR):Prop:=∀(N N':Addr→Prop) (H F:Hp) (as:List Addr) (v:V) (d:D),(∀a,N a→N' a)→R N H F as v d→R N' H F as v d
theorem Qbe {K:Frag}:Qca (rV K):=fun _ _ _ _ _ _ _ _ h=>h
theorem Qdn {K:Frag}:Qca (rO K):=fun N N' H F as v d hn h=>by
 rcases h with h | ⟨a,xs,ds,e1,e2,e3,e4,e5,e6,e7⟩
 ·exact .inl h
 ·exact .inr ⟨a,xs,ds,e1,e2,e3,e4,e5,hn a e6,e7⟩
def tM (K:Frag) (mg:Str→Option Value) (md:List Md) (P:Pt) (R:RR) (m:M D):TE:=fun σ H Q =>
 ∃ρ O F as d O',RlO K mg O H F as∧SlO K md P ρ σ H F as∧m ρ O = .ok d O' ∧
  ∀v H' F' as',Gr H F as H' F' as'→RlO K mg O' H' F' as'→R (fun a=>H a=none) H' F' as' v d→Q v H'
def tMT (K:Frag) (mg:Str→Option Value) (md:List Md) (P:Pt) (m:M Bool):TT:=fun σ H Q =>
 ∃ρ O F as b O',RlO K mg O H F as∧SlO K md P ρ σ H F as∧m ρ O = .ok b O' ∧
  ∀H' F' as',Gr H F as H' F' as'→RlO K mg O' H' F' as'→Q b H'
def QbG (K:Frag) (H F:Hp) (as:List Addr):List Md→List V→List D→Prop
 | [],[],[]=>True
 | m::ms,v::vs,d::ds=>rA K m (fun _=>True) H F as v d∧QbG K H F as ms vs ds
 | _,_,_=>False
def tMA (K:Frag) (mg:Str→Option Value) (md:List Md) (P:Pt) (ms:List Md) (m:M (List D)):TA:=fun σ H Q =>
 ∃ρ O F as ds O',RlO K mg O H F as∧SlO K md P ρ σ H F as∧m ρ O = .ok ds O' ∧
  ∀vs H' F' as',Gr H F as H' F' as'→RlO K mg O' H' F' as'→QbG K H' F' as' ms vs ds→Q vs H'
def XE (X:Cx) (md:List Md) (P:Pt) (R:RR) (e:Expr) (m:M D):Prop:=PE X e (tM X.K X.mg md P R m)
def VE (X:Cx) (md:List Md) (P:Pt) (e:Expr) (m:M D):Prop:=PE X e (tM X.K X.mg md P (rV X.K) m)
def SE (X:Cx) (md:List Md) (P:Pt) (e:Expr) (m:M D):Prop:=PE X e (tM X.K X.mg md P (rS X.K) m)
def OE (X:Cx) (md:List Md) (P:Pt) (e:Expr) (m:M D):Prop:=PE X e (tM X.K X.mg md P (rO X.K) m)
def TsE (X:Cx) (md:List Md) (P:Pt) (e:Expr) (m:M Bool):Prop:=PT X e (tMT X.K X.mg md P m)
def TwE (X:Cx) (md:List Md) (P:Pt) (e:Expr) (m:M Bool):Prop:=PW X e (tMT X.K X.mg md P m)
def AE (X:Cx) (md:List Md) (P:Pt) (ms:List Md) (es:List Expr) (m:M (List D)):Prop:=PA X es (tMA X.K X.mg md P ms m)
def QeX (K:Frag) (mg:Str→Option Value) (md:List Md) (P:Pt) (R:RR) (D:Ends) (H F:Hp) (as:List Addr):Fl→Prop
 | .nx ρ' O'=>∀σ' H' F' as',GrS P H F as H' F' as'→RlO K mg O' H' F' as'→SlO K md P ρ' σ' H' F' as'→D.nx σ' H'
 | .bk ρ' O'=>∀σ' H' F' as',GrS P H F as H' F' as'→RlO K mg O' H' F' as'→SlO K md P ρ' σ' H' F' as'→D.bk σ' H'
 | .ct ρ' O'=>∀σ' H' F' as',GrS P H F as H' F' as'→RlO K mg O' H' F' as'→SlO K md P ρ' σ' H' F' as'→D.ct σ' H'
 | .rt d O'=>∀v H' F' as',GrS P H F as H' F' as'→RlO K mg O' H' F' as'→R (fun a=>¬P a) H' F' as' v d→D.rt v H'
 | .ex _ _=>False
 | .no=>False
def tMS (K:Frag) (mg:Str→Option Value) (md:List Md) (P:Pt) (R:RR) (m:MS):TS:=fun D σ H =>
 ∃ρ O F as,RlO K mg O H F as∧SlO K md P ρ σ H F as∧QeX K mg md P R D H F as (m ρ O)
def VS (X:Cx) (md:List Md) (P:Pt) (R:RR) (st:Stmt) (m:MS):Prop:=PS X st (tMS X.K X.mg md P R m)
def VSs (X:Cx) (md:List Md) (P:Pt) (R:RR) (st:List Stmt) (m:MS):Prop:=PSs X st (tMS X.K X.mg md P R m)
section
variable {X:Cx}{md:List Md}{P:Pt}{R:RR}
theorem PE.imp {e:Expr}{t t':TE} (h:PE X e t) (k:∀σ H Q,t' σ H Q→t σ H Q):PE X e t':=fun pins s σ H Q I q=>h pins s σ H Q I (k σ H Q q)
theorem PT.imp {e:Expr}{t t':TT} (h:PT X e t) (k:∀σ H Q,t' σ H Q→t σ H Q):PT X e t':=fun pins s σ H Q I q=>h pins s σ H Q I (k σ H Q q)
theorem PW.imp {e:Expr}{t t':TT} (h:PW X e t) (k:∀σ H Q,t' σ H Q→t σ H Q):PW X e t':=fun w pins s σ H Q I q=>h w pins s σ H Q I (k σ H Q q)
theorem PA.imp {e:List Expr}{t t':TA} (h:PA X e t) (k:∀σ H Q,t' σ H Q→t σ H Q):PA X e t':=fun pos pins s σ H Q I q=>h pos pins s σ H Q I (k σ H Q q)
theorem PS.imp {e:Stmt}{t t':TS} (h:PS X e t) (k:∀D σ H,t' D σ H→t D σ H):PS X e t':=fun pins s σ H D I q=>h pins s σ H D I (k D σ H q)
theorem PSs.imp {e:List Stmt}{t t':TS} (h:PSs X e t) (k:∀D σ H,t' D σ H→t D σ H):PSs X e t':=fun pins s σ H D I q=>h pins s σ H D I (k D σ H q)
def Qac (i:Nat):M D:=fun ρ O=>match ρ[i]? with
 | some (some d)=>.ok d O
 | _=>.no
def mC (d:D):M D:=fun _ O=>.ok d O
def mG (m:M D):M D:=fun ρ O=>match m ρ O with
 | .ok d O'=>if Qet d=true then .ok d O' else .no
 | r=>r
theorem Qh2 {i:Nat}{ρ:Qak}{O O':Qab}{d:D} (h:Qac i ρ O = .ok d O'):ρ[i]? = some (some d)∧O'=O:=by
 unfold Qac at h;split at h
 ·rename_i d' e;cases h;exact ⟨e,rfl⟩
 ·cases h
theorem QtT {m:M D}{ρ:Qak}{O O':Qab}{d:D} (h:mG m ρ O = .ok d O'):m ρ O = .ok d O'∧Qet d=true:=by
 unfold mG at h;split at h
 ·rename_i d' O1 e;split at h
  ·rename_i hn;cases h;exact ⟨e,hn⟩
  ·cases h
 ·rename_i hne;exact absurd h (hne _ _)
theorem SlO.get {K:Frag}{ρ:Qak}{σ:St}{H F:Hp}{as:List Addr}{i:Nat}{d:D} (s:SlO K md P ρ σ H F as) (h:ρ[i]? = some (some d)):∃m v,md[i]? = some m∧σ[i]? = some (some v)∧Qez P K H F as m v d:=by
 have hi:i < md.length:=by rw [←s.len']; exact (zl.mp h).1
 obtain ⟨v,h1,h2⟩:=s.sl i md[i] d (zK hi) h;exact ⟨_,v,zK hi,h1,h2⟩
theorem Qez.sv {K:Frag}{H F:Hp}{as:List Addr}{m:Md}{v:V}{d:D} (h:Qez P K H F as m v d):Sv K H F as v d:=by
 cases m with
 | v=>exact .inl h
 | s =>
  rcases h with h | ⟨a,xs,ds,e1,e2,e3,e4,e5,e6⟩
  ·exact .inl h
  ·exact .inr ⟨a,xs,ds,e1,e2,e3,e4,e6⟩
 | o =>
  rcases h with ⟨_,h⟩ | ⟨a,xs,ds,e1,e2,e3,e0,e4,e5,e6⟩
  ·exact .inl h
  ·exact .inr ⟨a,xs,ds,e1,e2,e3,e4,e6⟩
theorem Qao (i:Nat) {x:Str}{pos:Pos} (hN:X.N[i]? = some x:=by rfl) (hv:Vis X.env.scope x:=by first | exact Or.inl rfl | exact Or.inr (Or.inl rfl) | exact Or.inr (Or.inr rfl))
  (hd:(x == ("__debug__":Str))=false:=by decide) (hcd:(x == ("__classdict__":Str))=false:=by decide):SE X md P (.Name x pos) (Qac i):=by
 refine (QeO (i:=i) hN hv hd hcd).imp fun σ H Q h=>?_
 obtain ⟨ρ,O,F,as,d,O',r,s,e,k⟩:=h;obtain ⟨e1,rfl⟩:=Qh2 e;obtain ⟨m,v,h1,h2,h3⟩:=s.get e1;exact ⟨v,h2,k v H F as Gr.refl r h3.sv⟩
theorem Qag (i:Nat) {x:Str}{pos:Pos} (hm:md[i]? = some .v:=by rfl) (hN:X.N[i]? = some x:=by rfl) (hv:Vis X.env.scope x:=by first | exact Or.inl rfl | exact Or.inr (Or.inl rfl) | exact Or.inr (Or.inr rfl))
  (hd:(x == ("__debug__":Str))=false:=by decide) (hcd:(x == ("__classdict__":Str))=false:=by decide):VE X md P (.Name x pos) (Qac i):=by
 refine (QeO (i:=i) hN hv hd hcd).imp fun σ H Q h=>?_
 obtain ⟨ρ,O,F,as,d,O',r,s,e,k⟩:=h;obtain ⟨e1,rfl⟩:=Qh2 e;obtain ⟨v,h2,h3⟩:=s.sl i .v d hm e1;exact ⟨v,h2,k v H F as Gr.refl r h3⟩
theorem Qad {e:Expr}{m:M D} (h:VE X md P e m):SE X md P e m:=h.imp fun σ H Q q=>by
 obtain ⟨ρ,O,F,as,d,O',r,s,e,k⟩:=q;exact ⟨ρ,_,F,as,_,_,r,s,e,fun v H' F' as' g r' hv=>k v H' F' as' g r' (.inl hv)⟩
theorem Qav {e:Expr}{m:M D} (h:OE X md P e m):SE X md P e m:=h.imp fun σ H Q q=>by
 obtain ⟨ρ,O,F,as,d,O',r,s,e,k⟩:=q;exact ⟨ρ,_,F,as,_,_,r,s,e,fun v H' F' as' g r' hv=>k v H' F' as' g r' (Ow.sv hv)⟩
theorem Qb6 {e:Expr}{m:M D} (h:SE X md P e m):VE X md P e (mG m):=h.imp fun σ H Q q=>by
 obtain ⟨ρ,O,F,as,d,O',r,s,e,k⟩:=q;obtain ⟨e,hn⟩:=QtT e;exact ⟨ρ,_,F,as,_,_,r,s,e,fun v H' F' as' g r' hv=>k v H' F' as' g r' (Sv.rp hv hn)⟩
theorem QaH {e:Expr}{m:M D} (h:OE X md P e m):VE X md P e m:=h.imp fun σ H Q q=>by
 obtain ⟨ρ,O,F,as,d,O',r,s,e,k⟩:=q;refine ⟨ρ,_,F,as,_,_,r,s,e,fun v H' F' as' g r' hv=>?_⟩
 rcases hv with ⟨_,hv⟩ | ⟨a,xs,ds,rfl,rfl,e3,e4,e5,e6,e7⟩
 ·exact k v H' F' as' g r' hv
 ·have ff:Same F' (upd F' a (.lst xs)):=fun b u q=>by rw [Qan (Qay q e4)]; exact q
  refine k _ H' (upd F' a (.lst xs)) as' (g.frz e6 e4) (r'.frz e3 e4 e5 rfl) (Rp.mkL (.inl (.inl QaD)) (Rps.mono ff (fun _ _ z=>z) _ e7))
theorem QkV {e:Expr}{v:V}{d:D} (h:PE X e (tC v)) (hd:∀K F as,Rp K F as v d):VE X md P e (mC d):=h.imp fun σ H Q q=>by
 obtain ⟨ρ,O,F,as,d,O',r,s,e,k⟩:=q;cases e;exact k v H F as Gr.refl r (hd _ _ _)
theorem Qai {i:Int}{j pos}:VE X md P (.Constant (.int i) j pos) (mC (.int i)):=QkV Qtr fun _ _ _=>Rp.int
theorem Qej {b:Bool}{j pos}:VE X md P (.Constant (.bool b) j pos) (mC (.bl b)):=QkV QtZ fun _ _ _=>Rp.bl
theorem Qnv {j pos}:VE X md P (.Constant .none j pos) (mC .non):=QkV Qtx fun _ _ _=>Rp.non
theorem Qap {x:Str}{j pos} (l:List Nat) (hx:x=S l:=by decide +kernel):VE X md P (.Constant (.str x) j pos) (mC (.str l)):=QkV Qgo fun _ _ _=>by rw [hx]; exact Rp.str
theorem QdQ {x:Str}{v:V}{d:D}{pos:Pos} (h:∃u,X.mg x=some u∧RelV v u) (hd:∀K F as,Rp K F as v d) (hg:Gl X x:=by rfl) (hdb:(x == ("__debug__":Str))=false:=by decide):VE X md P (.Name x pos) (mC d):=QkV (Qo5 h hg hdb) hd
def Qaf:M (List D):=fun _ O=>.ok [] O
def Qaa (m:M D) (r:M (List D)):M (List D):=fun ρ O=>(m ρ O).bind fun d O1=>(r ρ O1).bind fun ds O2=>.ok (d::ds) O2
theorem Qam:AE X md P [] [] Qaf:=Qcg.imp fun σ H Q q=>by
 obtain ⟨ρ,O,F,as,d,O',r,s,e,k⟩:=q;cases e;exact k [] H F as Gr.refl r trivial
theorem rA.gr {K:Frag}{m:Md}{N:Addr→Prop}{H F H' F':Hp}{as as':List Addr}{v:V}{d:D} (h:rA K m N H F as v d) (g:Gr H F as H' F' as'):rA K m (fun _=>True) H' F' as' v d:=by
 cases m with
 | v=>exact Rp.gr (show Rp K F as v d from h) g
 | s=>exact Sv.gr (show Sv K H F as v d from h) g
 | o=>exact Sv.gr (show Sv K H F as v d from h) g
theorem QbG.gr {K:Frag}{H F H' F':Hp}{as as':List Addr} (g:Gr H F as H' F' as'):∀{ms:List Md}{vs:List V}{ds:List D},QbG K H F as ms vs ds→QbG K H' F' as' ms vs ds
 | [],[],[],_=>trivial
 | m::ms,v::vs,d::ds,h=>⟨rA.gr h.1 g,QbG.gr g h.2⟩
 | [],[],_::_,h=>h.elim
 | [],_::_,[],h=>h.elim
 | [],_::_,_::_,h=>h.elim
 | _::_,[],[],h=>h.elim
 | _::_,[],_::_,h=>h.elim
 | _::_,_::_,[],h=>h.elim
theorem QlP (md0:Md) {e:Expr}{es:List Expr}{m:M D}{ms:List Md}{r:M (List D)} (h:XE X md P (rA X.K md0) e m) (hr:AE X md P ms es r)
  (hs:starEach (e::es) X.env=(false,eval e X.env)::starEach es X.env:=by exact Qa1 rfl):AE X md P (md0::ms) (e::es) (Qaa m r):=(QbB h hr hs).imp fun σ H Q q=>by
 obtain ⟨ρ,O,F,as,d,O',r0,s,e,k⟩:=q;obtain ⟨d,O1,e1,e⟩:=Res.bind_ok e;obtain ⟨ds',O2,e2,e⟩:=Res.bind_ok e;cases e;refine ⟨ρ,_,F,as,_,_,r0,s,e1,fun v H1 F1 as1 g1 r1 hv=>?_⟩;refine ⟨ρ,_,F1,as1,_,_,r1,s.step g1,e2,fun vs H2 F2 as2 g2 r2 hvs=>?_⟩;exact k (v::vs) H2 F2 as2 (g1.trans g2) r2 ⟨rA.gr hv g2,hvs⟩
theorem Qaq {e:Expr}{es:List Expr}{m:M D}{ms:List Md}{r:M (List D)} (h:VE X md P e m) (hr:AE X md P ms es r)
  (hs:starEach (e::es) X.env=(false,eval e X.env)::starEach es X.env:=by exact Qa1 rfl):AE X md P (.v::ms) (e::es) (Qaa m r):=QlP .v h hr hs
theorem Qaz {e:Expr}{es:List Expr}{m:M D}{ms:List Md}{r:M (List D)} (h:SE X md P e m) (hr:AE X md P ms es r)
  (hs:starEach (e::es) X.env=(false,eval e X.env)::starEach es X.env:=by exact Qa1 rfl):AE X md P (.s::ms) (e::es) (Qaa m r):=QlP .s h hr hs
theorem QbG.rps {K:Frag}{H F:Hp}{as:List Addr}:∀{n:Nat}{vs:List V}{ds:List D},QbG K H F as (List.replicate n .v) vs ds→Rps K F as vs ds
 | 0,[],[],_=>Rps.nil
 | n+1,v::vs,d::ds,h=>by
  rw [List.replicate_succ] at h;exact Rps.cons h.1 (QbG.rps h.2)
 | 0,[],_::_,h=>h.elim
 | 0,_::_,[],h=>h.elim
 | 0,_::_,_::_,h=>h.elim
 | n+1,[],[],h=>h.elim
 | n+1,[],_::_,h=>h.elim
 | n+1,_::_,[],h=>h.elim
def Qbx (r:M (List D)):M D:=fun ρ O=>(r ρ O).bind fun ds O1=>if ds.length≤1000000 then .ok (.lst ds) O1 else .no
def Qb8 (r:M (List D)):M D:=fun ρ O=>(r ρ O).bind fun ds O1=>if ds.length≤1000000 then .ok (.tup ds) O1 else .no
theorem QdH {n:Nat} (h:n≤1000000):n≤sizeLine:=zt h (by decide)
theorem QbS {es:List Expr}{pos:Pos}{r:M (List D)} (n:Nat) (h:AE X md P (List.replicate n .v) es r):OE X md P (.List es pos) (Qbx r):=(QtL h).imp fun σ H Q q=>by
 obtain ⟨ρ,O,F,as,d,O',r0,s,e,k⟩:=q;obtain ⟨ds,O1,e1,e⟩:=Res.bind_ok e;split at e
 ·rename_i hz;cases e;refine ⟨ρ,_,F,as,_,_,r0,s,e1,fun vs H1 F1 as1 g1 r1 hv=>?_⟩;have hr:=hv.rps;refine ⟨by rw [hr.length]; exact QdH hz,fun p hp=>?_⟩
  have hF:F1 p=none:=by
   cases q:F1 p with
   | none=>rfl
   | some o=>rw [r1.fh p o q] at hp; cases hp
  refine k _ _ F1 as1 (g1.trans (Gr.lay hp)) (r1.lay hp) (.inr ⟨p,vs,ds,rfl,rfl,QaD,hF,fun z=>r1.all z hp,g1.dm p hp,hr⟩)
 ·cases e
theorem Qbw {es:List Expr}{pos:Pos}{x1}{r:M (List D)} (n:Nat) (h:AE X md P (List.replicate n .v) es r):VE X md P (.Tuple es x1 pos) (Qb8 r):=(Qnm h).imp fun σ H Q q=>by
 obtain ⟨ρ,O,F,as,d,O',r0,s,e,k⟩:=q;obtain ⟨ds,O1,e1,e⟩:=Res.bind_ok e;split at e
 ·rename_i hz;cases e;refine ⟨ρ,_,F,as,_,_,r0,s,e1,fun vs H1 F1 as1 g1 r1 hv=>?_⟩;have hr:=hv.rps;refine ⟨by rw [hr.length]; exact QdH hz,fun p hp=>?_⟩
  have hF:F1 p=none:=by
   cases q:F1 p with
   | none=>rfl
   | some o=>rw [r1.fh p o q] at hp; cases hp
  have ff:Same F1 (upd F1 p (.tup vs)):=fun b u q=>by rw [Qan (Qay q hF)]; exact q
  refine k _ _ (upd F1 p (.tup vs)) as1 ((g1.trans (Gr.lay hp)).frz (g1.dm p hp) hF) ((r1.lay hp).frz QaD hF (fun z=>r1.all z hp) rfl) (Rp.mkT (.inl QaD) (Rps.mono ff (fun _ _ z=>z) _ hr))
 ·cases e
def rD (K:Frag) (mg:Str→Option Value) (g:D→D→Option D):R2:=fun x y H Q=>∃O F as dx dy d,RlO K mg O H F as∧Lk K H F as x dx∧Lk K H F as y dy∧g dx dy=some d ∧
 ∀v' H' F',Gr H F as H' F' as→RlO K mg O H' F' as→Ow K (fun a=>H a=none) H' F' as v' d→Q v' H'
abbrev OpD (X:Cx) (f:Value→Value→Sem Value) (g:D→D→Option D):Prop:=OpR X f (rD X.K X.mg g)
def Qae (g:D→D→Option D) (ma mb:M D):M D:=fun ρ O=>(ma ρ O).bind fun x O1=>(mb ρ O1).bind fun y O2=>match g (QaU O2 x) (QaU O2 y) with
 | some d=>.ok d O2
 | none=>.no
theorem QkD {K:Frag}{mg:Str→Option Value}{g:D→D→Option D}{ma mb:M D}{σ:St}{H:Hp}{Q:VK} (h:tM K mg md P (rO K) (Qae g ma mb) σ H Q):tOp (rD K mg g) (tM K mg md P (rS K) ma) (tM K mg md P (rS K) mb) σ H Q:=by
 obtain ⟨ρ,O,F,as,d,O',r,sl,e,k⟩:=h;obtain ⟨x,O1,e1,e⟩:=Res.bind_ok e;obtain ⟨y,O2,e2,e⟩:=Res.bind_ok e;split at e
 ·rename_i d' hg;cases e;refine ⟨ρ,_,F,as,_,_,r,sl,e1,fun v H1 F1 as1 g1 r1 hv=>?_⟩;refine ⟨ρ,_,F1,as1,_,_,r1,sl.step g1,e2,fun u H2 F2 as2 g2 r2 hu=>?_⟩;refine ⟨_,F2,as2,_,_,_,r2,Sv.lk (Sv.gr hv g2) r2,Sv.lk hu r2,hg,fun v' H' F' g' r' hw=>?_⟩;exact k v' H' F' as2 ((g1.trans g2).trans g') r' (Qdn _ _ _ _ _ _ _ (fun a ha=>(g1.trans g2).dm a ha) hw)
 ·cases e
theorem Qas {e1 e2:Expr}{pos:Pos}{op:Operator}{g:D→D→Option D}{ma mb:M D} (ho:OpD X (binaryOp op) g) (ha:SE X md P e1 ma) (hb:SE X md P e2 mb):OE X md P (.BinOp e1 op e2 pos) (Qae g ma mb) :=
 (Qt0 ho ha hb).imp fun _ _ _=>QkD
theorem QdX {e1 e2:Expr}{pos:Pos}{op:CmpOp}{g:D→D→Option D}{ma mb:M D} (ho:OpD X (compareOp op) g) (ha:SE X md P e1 ma) (hb:SE X md P e2 mb) (hm:behindInMarks op e2=false):OE X md P (.Compare e1 [op] [e2] pos) (Qae g ma mb) :=
 (QqP ho ha hb hm).imp fun _ _ _=>QkD
def Qaw (m:M D):M Bool:=fun ρ O=>(m ρ O).bind fun d O1=>match d with
 | .bl b=>.ok b O1
 | _=>.no
theorem Qmf {K:Frag}{mg:Str→Option Value}{m:M D}{σ:St}{H:Hp}{Q:Bool→Hp→Prop} (h:tMT K mg md P (Qaw m) σ H Q):Qm8 (tM K mg md P (rO K) m) σ H Q:=by
 obtain ⟨ρ,O,F,as,d,O',r,sl,e,k⟩:=h;obtain ⟨d,O1,e1,e⟩:=Res.bind_ok e
 cases d with
 | bl c =>
  cases e;refine ⟨ρ,_,F,as,_,_,r,sl,e1,fun v H1 F1 as1 g1 r1 hv=>?_⟩
  rcases hv with ⟨_,hv⟩ | ⟨a,xs,ds,_,e2,_⟩
  ·exact ⟨_,hv.unB,k H1 F1 as1 g1 r1⟩
  ·cases e2
 | _=>cases e
theorem QaL {e1 e2:Expr}{pos:Pos}{op:CmpOp}{g:D→D→Option D}{ma mb:M D} (ho:OpD X (compareOp op) g) (ha:SE X md P e1 ma) (hb:SE X md P e2 mb) (hm:behindInMarks op e2=false):TsE X md P (.Compare e1 [op] [e2] pos) (Qaw (Qae g ma mb)) :=
 (QrN ho ha hb hm).imp fun σ H Q h=>by
  have q:=Qmf h;exact QkD q
def Qhx (g g':D→D→Option D) (ma mb mc:M D):M D:=fun ρ O=>(ma ρ O).bind fun x O1=>(mb ρ O1).bind fun y O2=>match g (QaU O2 x) (QaU O2 y) with
 | some (.bl true)=>(mc ρ O2).bind fun z O3=>match g' (QaU O3 y) (QaU O3 z) with
  | some d=>.ok d O3
  | none=>.no
 | some (.bl false)=>.ok (.bl false) O2
 | _=>.no
theorem Qpg {K:Frag}{mg:Str→Option Value}{g g':D→D→Option D}{ma mb mc:M D}{σ:St}{H:Hp}{Q:VK} (h:tM K mg md P (rO K) (Qhx g g' ma mb mc) σ H Q) :
  Qnr (rD K mg g) (rD K mg g') (tM K mg md P (rS K) ma) (tM K mg md P (rS K) mb) (tM K mg md P (rS K) mc) σ H Q:=by
 obtain ⟨ρ,O,F,as,d,O',r,sl,e,k⟩:=h;obtain ⟨x,O1,e1,e⟩:=Res.bind_ok e;obtain ⟨y,O2,e2,e⟩:=Res.bind_ok e;refine ⟨ρ,_,F,as,_,_,r,sl,e1,fun v H1 F1 as1 g1 r1 hv=>?_⟩;refine ⟨ρ,_,F1,as1,_,_,r1,sl.step g1,e2,fun u H2 F2 as2 g2 r2 hu=>?_⟩;split at e
 ·rename_i hg;obtain ⟨z,O3,e3,e⟩:=Res.bind_ok e;refine ⟨_,F2,as2,_,_,_,r2,Sv.lk (Sv.gr hv g2) r2,Sv.lk hu r2,hg,fun v' H' F' g' r' hw=>?_⟩
  rcases hw with ⟨_,hw⟩ | ⟨a,xs,ds,_,z,_⟩
  ·refine ⟨true,hw.unB,?_⟩;rw [if_pos rfl];split at e
   ·rename_i d' hg';cases e;have g3:=(g1.trans g2).trans g';refine ⟨ρ,_,F',as2,_,_,r',sl.step g3,e3,fun w H4 F4 as4 g4 r4 hz=>?_⟩;refine ⟨_,F4,as4,_,_,_,r4,Sv.lk (Sv.gr (Sv.gr hu g') g4) r4,Sv.lk hz r4,hg',fun v5 H5 F5 g5 r5 hw5=>?_⟩;exact k v5 H5 F5 as4 ((g3.trans g4).trans g5) r5 (Qdn _ _ _ _ _ _ _ (fun a ha=>(g3.trans g4).dm a ha) hw5)
   ·cases e
  ·cases z
 ·rename_i hg;cases e;refine ⟨_,F2,as2,_,_,_,r2,Sv.lk (Sv.gr hv g2) r2,Sv.lk hu r2,hg,fun v' H' F' g' r' hw=>?_⟩
  rcases hw with ⟨_,hw⟩ | ⟨a,xs,ds,_,z,_⟩
  ·refine ⟨false,hw.unB,?_⟩;rw [if_neg zg];exact k _ H' F' as2 ((g1.trans g2).trans g') r' (.inl ⟨rfl,Rp.bl⟩)
  ·cases z
 ·cases e
theorem Qo8 {a b c:Expr}{pos:Pos}{op op':CmpOp}{g g':D→D→Option D}{ma mb mc:M D} (ho:OpD X (compareOp op) g) (ho':OpD X (compareOp op') g') (ha:SE X md P a ma) (hb:SE X md P b mb) (hc:SE X md P c mc)
  (hm:lastMarks [op,op'] [b,c]=false:=by with_unfolding_all rfl):OE X md P (.Compare a [op,op'] [b,c] pos) (Qhx g g' ma mb mc):=(Qpv ho ho' ha hb hc hm).imp fun _ _ _=>Qpg
def isNon:D→Bool
 | .non=>true
 | _=>false
def Qu3 (m:M D):M D:=fun ρ O=>(m ρ O).bind fun d O1=>.ok (.bl (isNon d)) O1
def QeD (m:M D):M D:=fun ρ O=>(m ρ O).bind fun d O1=>.ok (.bl (!isNon d)) O1
theorem Sv.isN {K:Frag}{H F:Hp}{as:List Addr}{v:V}{d:D} (h:Sv K H F as v d):decide (v = .non)=isNon d:=by
 rcases h with h | ⟨a,xs,ds,rfl,rfl,_⟩
 ·cases d with
  | non=>rw [h.unN]; rfl
  | bl b=>rw [h.unB]; rfl
  | int b=>rw [h.unI]; rfl
  | str b=>rw [h.unS]; rfl
  | lst b=>obtain ⟨a,xs,rfl,_⟩:=h.unL; rfl
  | tup b=>obtain ⟨a,xs,rfl,_⟩:=h.unT; rfl
  | dic k b=>obtain ⟨a,xs,rfl,_⟩:=h.unD; rfl
  | ob b=>obtain ⟨a,rfl,_⟩:=h.unO; rfl
 ·rfl
theorem QrH {K:Frag}{mg:Str→Option Value}{m:M D}{σ:St}{H:Hp}{Q:VK} (h:tM K mg md P (rO K) (QeD m) σ H Q):Qqn (tM K mg md P (rS K) m) σ H Q:=by
 obtain ⟨ρ,O,F,as,d,O',r,sl,e,k⟩:=h;obtain ⟨x,O1,e1,e⟩:=Res.bind_ok e;cases e;refine ⟨ρ,_,F,as,_,_,r,sl,e1,fun v H1 F1 as1 g1 r1 hv=>?_⟩;dsimp only;rw [Sv.isN hv];exact k _ H1 F1 as1 g1 r1 (.inl ⟨rfl,Rp.bl⟩)
theorem QuB {t t':TE}{σ:St}{H:Hp}{Q:Bool→Hp→Prop} (h:∀Q',t σ H Q'→t' σ H Q') (q:Qm8 t σ H Q):tB t' σ H Q:=h _ q
theorem Qjs {a:Expr}{pos pos':Pos}{j}{m:M D} (h:SE X md P a m):TsE X md P (.Compare a [.IsNot] [.Constant .none j pos'] pos) (Qaw (QeD m)):=(Qsf (Qrk h)).imp fun _ _ _ q=>QuB (fun _=>QrH) (Qmf q)
def Qjt:D→Option Bool
 | .non=>some false
 | .bl b=>some b
 | .int i=>some (i != 0)
 | .str l=>if l.length≤1000000 then some (!l.isEmpty) else none
 | .lst ds=>some (!ds.isEmpty)
 | .tup ds=>some (!ds.isEmpty)
 | .dic ks _=>some (!ks.isEmpty)
 | .ob _=>none
def QbI (m:M D):M Bool:=fun ρ O=>(m ρ O).bind fun d O1=>match Qjt (QaU O1 d) with
 | some b=>.ok b O1
 | none=>.no
theorem Qj4 {α β:Type}{xs:List α}{ys:List β} (h:xs.length=ys.length):(!xs.isEmpty) = !ys.isEmpty:=by
 cases xs <;> cases ys <;> simp_all
theorem Lk.tru {K:Frag}{H F:Hp}{as:List Addr}{v:V}{d:D}{b:Bool} (h:Lk K H F as v d) (fh:Same F H) (e:Qjt d=some b):Qpj K v H b:=by
 cases d with
 | non=>rw [(h.rp rfl).unN]; cases e; rfl
 | bl b=>rw [(h.rp rfl).unB]; cases e; rfl
 | int b=>rw [(h.rp rfl).unI]; cases e; rfl
 | str l =>
  rw [(h.rp rfl).unS];simp only [Qjt] at e;split at e
  ·rename_i hl;cases e;refine ⟨by rw [Qa6]; exact QdH hl,?_⟩;rw [Qa6]
   cases l with
   | nil=>rfl
   | cons c l =>
    have:((((c::l).length:Nat):Int) != 0)=true:=by
     rw [bne_iff_ne,zq];omega
    rw [this];rfl
  ·cases e
 | lst ds =>
  obtain ⟨a,xs,rfl,h1,h2⟩:=h.list fh;cases e;exact .inl ⟨xs,h1.sq,(Qj4 h2.length).symm⟩
 | tup ds =>
  obtain ⟨a,xs,rfl,h1,h2⟩:=(h.rp rfl).unT;cases e;exact .inr (.inl ⟨xs,Same.seqT fh h1,(Qj4 h2.length).symm⟩)
 | dic ks vs =>
  obtain ⟨a,kvs,rfl,h1,rfl,h2⟩:=(h.rp rfl).unD;cases e;exact .inr (.inr ⟨kvs,fh _ _ h1,by cases kvs <;> rfl⟩)
 | ob n=>cases e
theorem Qb9 {a:Expr}{m:M D} (h:SE X md P a m) (he:∀whole,isTrue a X.env whole=(do let v ←whole; standAt a.pos; holding [v] (truthy v)):=by intro _; rfl):TsE X md P a (QbI m):=(QoQ h he).imp fun σ H Q q=>by
 obtain ⟨ρ,O,F,as,d,O',r,sl,e,k⟩:=q;obtain ⟨d,O1,e1,e⟩:=Res.bind_ok e;split at e
 ·rename_i c hc;cases e;exact ⟨ρ,_,F,as,_,_,r,sl,e1,fun v H1 F1 as1 g1 r1 hv=>⟨_,Lk.tru (Sv.lk hv r1) r1.fh hc,k H1 F1 as1 g1 r1⟩⟩
 ·cases e
def QcS (a b:M Bool):M Bool:=fun ρ O=>(a ρ O).bind fun c O1=>if c=true then b ρ O1 else .ok false O1
def Qck (a b:M Bool):M Bool:=fun ρ O=>(a ρ O).bind fun c O1=>if c=true then .ok true O1 else b ρ O1
def QbF (a:M Bool):M Bool:=fun ρ O=>(a ρ O).bind fun c O1=>.ok (!c) O1
theorem QqL {K:Frag}{mg:Str→Option Value}{ma mb:M Bool}{σ:St}{H:Hp}{Q:Bool→Hp→Prop} (h:tMT K mg md P (QcS ma mb) σ H Q):Qtc (tMT K mg md P ma) (tMT K mg md P mb) σ H Q:=by
 obtain ⟨ρ,O,F,as,d,O',r,sl,e,k⟩:=h;obtain ⟨c,O1,e1,e⟩:=Res.bind_ok e;refine ⟨ρ,_,F,as,_,_,r,sl,e1,fun H1 F1 as1 g1 r1=>?_⟩
 cases c with
 | true =>
  rw [if_pos rfl] at e ⊢;exact ⟨ρ,_,F1,as1,_,_,r1,sl.step g1,e,fun H2 F2 as2 g2 r2=>k H2 F2 as2 (g1.trans g2) r2⟩
 | false =>
  rw [if_neg zg] at e ⊢;cases e;exact k H1 F1 as1 g1 r1
theorem QsA {K:Frag}{mg:Str→Option Value}{ma mb:M Bool}{σ:St}{H:Hp}{Q:Bool→Hp→Prop} (h:tMT K mg md P (Qck ma mb) σ H Q):tOr (tMT K mg md P ma) (tMT K mg md P mb) σ H Q:=by
 obtain ⟨ρ,O,F,as,d,O',r,sl,e,k⟩:=h;obtain ⟨c,O1,e1,e⟩:=Res.bind_ok e;refine ⟨ρ,_,F,as,_,_,r,sl,e1,fun H1 F1 as1 g1 r1=>?_⟩
 cases c with
 | true =>
  rw [if_pos rfl] at e ⊢;cases e;exact k H1 F1 as1 g1 r1
 | false =>
  rw [if_neg zg] at e ⊢;exact ⟨ρ,_,F1,as1,_,_,r1,sl.step g1,e,fun H2 F2 as2 g2 r2=>k H2 F2 as2 (g1.trans g2) r2⟩
theorem Qh8 {a:Expr}{pos:Pos}{m:M Bool} (h:TsE X md P a m):TwE X md P (.BoolOp .And [a] pos) m:=QrT h
theorem Qfu {a:Expr}{pos:Pos}{m:M Bool} (h:TsE X md P a m):TwE X md P (.BoolOp .Or [a] pos) m:=Qr7 h
theorem QcZ {a b:Expr}{rest:List Expr}{pos:Pos}{ma mb:M Bool} (ha:TsE X md P a ma) (hb:TwE X md P (.BoolOp .And (b::rest) pos) mb):TwE X md P (.BoolOp .And (a::b::rest) pos) (QcS ma mb):=(Qtg ha hb).imp fun _ _ _=>QqL
theorem QeI {a b:Expr}{rest:List Expr}{pos:Pos}{ma mb:M Bool} (ha:TsE X md P a ma) (hb:TwE X md P (.BoolOp .Or (b::rest) pos) mb):TwE X md P (.BoolOp .Or (a::b::rest) pos) (Qck ma mb):=(Qt8 ha hb).imp fun _ _ _=>QsA
theorem Qfr {e:Expr}{m:M Bool} (h:TwE X md P e m):TsE X md P e m:=PW.pt h
theorem Qdh {a:Expr}{pos:Pos}{m:M Bool} (h:TsE X md P a m):TsE X md P (.UnaryOp .Not a pos) (QbF m):=(QsT h).imp fun σ H Q q=>by
 obtain ⟨ρ,O,F,as,d,O',r,sl,e,k⟩:=q;obtain ⟨c,O1,e1,e⟩:=Res.bind_ok e;cases e;exact ⟨ρ,_,F,as,_,_,r,sl,e1,k⟩
def QcT (ma mb:M D):M D:=fun ρ O=>(ma ρ O).bind fun d O1=>match d with
 | .bl true=>mb ρ O1
 | .bl false=>.ok (.bl false) O1
 | _=>.no
def Qsc (ma mb:M D):M D:=fun ρ O=>(ma ρ O).bind fun d O1=>match d with
 | .bl true=>.ok (.bl true) O1
 | .bl false=>mb ρ O1
 | _=>.no
def Qni (ma:M D):M D:=fun ρ O=>(ma ρ O).bind fun d O1=>match d with
 | .bl b=>.ok (.bl (!b)) O1
 | _=>.no
theorem QfC {a:Expr}{pos:Pos}{op}{m:M D} (h:VE X md P a m):VE X md P (.BoolOp op [a] pos) m:=QsC h
theorem QcX {a b:Expr}{rest:List Expr}{pos:Pos}{ma mb:M D} (ha:VE X md P a ma) (hb:VE X md P (.BoolOp .And (b::rest) pos) mb):VE X md P (.BoolOp .And (a::b::rest) pos) (QcT ma mb):=(QsU ha hb).imp fun σ H Q q=>by
 obtain ⟨ρ,O,F,as,d,O',r,sl,e,k⟩:=q;obtain ⟨x,O1,e1,e⟩:=Res.bind_ok e;refine ⟨ρ,_,F,as,_,_,r,sl,e1,fun v H1 F1 as1 g1 r1 hv=>?_⟩
 cases x with
 | bl c =>
  refine ⟨c,Rp.unB hv,?_⟩
  cases c with
  | true =>
   rw [if_pos rfl];exact ⟨ρ,_,F1,as1,_,_,r1,sl.step g1,e,fun v2 H2 F2 as2 g2 r2 hv2=>k v2 H2 F2 as2 (g1.trans g2) r2 hv2⟩
  | false =>
   rw [if_neg zg];cases e;exact k _ H1 F1 as1 g1 r1 Rp.bl
 | _=>cases e
theorem QsN {a:Expr}{pos:Pos}{m:M D} (h:VE X md P a m):VE X md P (.UnaryOp .Not a pos) (Qni m):=(Qta h).imp fun σ H Q q=>by
 obtain ⟨ρ,O,F,as,d,O',r,sl,e,k⟩:=q;obtain ⟨x,O1,e1,e⟩:=Res.bind_ok e;refine ⟨ρ,_,F,as,_,_,r,sl,e1,fun v H1 F1 as1 g1 r1 hv=>?_⟩
 cases x with
 | bl c =>
  cases e;exact ⟨c,Rp.unB hv,k _ H1 F1 as1 g1 r1 Rp.bl⟩
 | _=>cases e
def mIf (t:M Bool) (a b:M D):M D:=fun ρ O=>(t ρ O).bind fun c O1=>if c=true then a ρ O1 else b ρ O1
end
section
variable {K:Frag}{mg:Str→Option Value}{md:List Md}{P:Pt}{R:RR}{ρ:Qak}{σ:St}{H F H' F':Hp}{as as':List Addr}{O O':Qab}
theorem SlO.set {i:Nat}{m:Md}{v:V}{d:D} (s:SlO K md P ρ σ H F as) (hm:md[i]? = some m) (hns:m≠.s) (hv:Qez P K H F as m v d)
  (hj:∀(a:Addr) (ds:List D) (j:Nat) (es:List D),m = .o→v = .ref a→d = .lst ds→i≠j→md[j]? = some .o→ρ[j]? = some (some (.lst es))→σ[j]?≠some (some (.ref a))):SlO K md P (ρ.set i (some d)) (σ.set i (some v)) H F as:=by
 have hi:i < md.length:=(zl.mp hm).1;refine ⟨by rw [zP]; exact s.len,by rw [zP]; exact s.len',s.pd,fun j m' d' e1 e2=>?_,fun j k a ds es h1 h2 h3 h4 h5 h6=>?_,fun x hx=>?_⟩
 ·by_cases h:i=j
  ·subst h;rw [hm] at e1; cases e1;rw [zC (by rw [s.len']; exact hi)] at e2;cases e2;exact ⟨v,zC (by rw [s.len]; exact hi),hv⟩
  ·rw [zo h] at e2;rw [zo h];exact s.sl j m' d' e1 e2
 ·by_cases hij:i=j
  ·by_cases hik:i=k
   ·rw [←hij,←hik]
   ·exfalso
    subst hij;rw [hm] at h1; cases h1;rw [zC (by rw [s.len']; exact hi)] at h3;rw [zC (by rw [s.len]; exact hi)] at h5;rw [zo hik] at h4 h6;cases h3; cases h5;exact hj a ds k es rfl rfl rfl hik h2 h4 h6
  ·by_cases hik:i=k
   ·exfalso
    subst hik;rw [hm] at h2; cases h2;rw [zC (by rw [s.len']; exact hi)] at h4;rw [zC (by rw [s.len]; exact hi)] at h6;rw [zo hij] at h3 h5;cases h4; cases h6;exact hj a es j ds rfl rfl rfl hij h1 h3 h5
   ·rw [zo hij] at h3 h5;rw [zo hik] at h4 h6;exact s.inj j k a ds es h1 h2 h3 h4 h5 h6
 ·obtain ⟨p1,p2,p3⟩:=s.pin x hx
  have hne:i≠x.1:=fun z=>by
   rw [←z,hm] at p1;exact hns (zL p1)
  exact ⟨p1,by rw [zo hne]; exact p2,by rw [zo hne]; exact p3⟩
theorem SlO.setV {i:Nat}{v:V}{d:D} (s:SlO K md P ρ σ H F as) (hm:md[i]? = some .v) (hv:Rp K F as v d):SlO K md P (ρ.set i (some d)) (σ.set i (some v)) H F as :=
 s.set hm (by decide) hv fun _ _ _ _ z=>nomatch z
theorem SlO.setN {i:Nat}{v:V}{d:D} (s:SlO K md P ρ σ H F as) (hm:md[i]? = some .o) (hn:Qet d=true) (hv:Rp K F as v d):SlO K md P (ρ.set i (some d)) (σ.set i (some v)) H F as :=
 s.set hm (by decide) (.inl ⟨hn,hv⟩) fun _ _ _ _ _ _ z=>by subst z; cases hn
theorem SlO.setO {i:Nat}{v:V}{d:D}{H0:Hp} (s:SlO K md P ρ σ H0 F as) (g:Gr H0 F as H' F' as') (hm:md[i]? = some .o) (hv:Ow K (fun a=>H0 a=none) H' F' as' v d):SlO K md P (ρ.set i (some d)) (σ.set i (some v)) H' F' as':=by
 have s':=s.step g
 rcases hv with ⟨hn,hv⟩ | ⟨a,xs,ds,rfl,rfl,e3,e4,e5,e6,e7⟩
 ·exact s'.setN hm hn hv
 ·refine s'.set hm (by decide) (.inr ⟨a,xs,ds,rfl,rfl,e3,e4,e5,fun p=>s.pd a p e6,e7⟩) fun b ds' j es _ hb hd hij hj he hs=>?_
  cases hb;obtain ⟨v,h1,h2⟩:=s.sl j .o _ hj he;rw [hs] at h1; cases h1
  rcases h2 with ⟨h2,_⟩ | ⟨a',xs',_,z1,_,z3,_⟩
  ·cases h2
  ·cases z1;rw [e6] at z3; cases z3
end
section
variable {X:Cx}{md:List Md}{P:Pt}{R:RR}
def Qau:MS:=fun ρ O=>.nx ρ O
def Qaj (a b:MS):MS:=fun ρ O=>match a ρ O with
 | .nx ρ' O'=>b ρ' O'
 | r=>r
theorem QaO:VSs X md P R [] Qau:=Ql2.imp fun D σ H q=>by
 obtain ⟨ρ,O,F,as,r,s,k⟩:=q;exact k σ H F as GrS.refl r s
theorem Qdc {K:Frag}{mg:Str→Option Value}{D:Ends}{H F H1 F1:Hp}{as as1:List Addr} (g:GrS P H F as H1 F1 as1) {f:Fl} (k:QeX K mg md P R D H F as f):QeX K mg md P R D H1 F1 as1 f:=by
 cases f with
 | nx ρ' O'=>exact fun σ' H' F' as' g'=>k σ' H' F' as' (g.trans g')
 | bk ρ' O'=>exact fun σ' H' F' as' g'=>k σ' H' F' as' (g.trans g')
 | ct ρ' O'=>exact fun σ' H' F' as' g'=>k σ' H' F' as' (g.trans g')
 | rt d O'=>exact fun σ' H' F' as' g'=>k σ' H' F' as' (g.trans g')
 | ex _ _=>exact k
 | no=>exact k
theorem Qal {st:Stmt}{rest:List Stmt}{a b:MS} (h1:VS X md P R st a) (h2:VSs X md P R rest b):VSs X md P R (st::rest) (Qaj a b):=(Qk6 h1 h2).imp fun D σ H q=>by
 obtain ⟨ρ,O,F,as,r,s,k⟩:=q;refine ⟨ρ,O,F,as,r,s,?_⟩;unfold Qaj at k
 cases e:a ρ O with
 | nx ρ' O' =>
  rw [e] at k;dsimp only at k
  exact fun σ' H' F' as' g r' s'=>⟨ρ',O',F',as',r',s',Qdc g k⟩
 | bk ρ' O'=>rw [e] at k; exact k
 | ct ρ' O'=>rw [e] at k; exact k
 | rt d O'=>rw [e] at k; exact k
 | ex x O'=>rw [e] at k; exact k
 | no=>rw [e] at k; exact k
theorem Qar {st:Stmt}{a:MS} (h1:VS X md P R st a):VSs X md P R [st] a:=QlY h1
def Qr9 (m:M D):MS:=fun ρ O=>match m ρ O with
 | .ok _ O'=>.nx ρ O'
 | .ex x O'=>.ex x O'
 | .no=>.no
def Qat (m:M D):MS:=fun ρ O=>match m ρ O with
 | .ok d O'=>.rt d O'
 | .ex x O'=>.ex x O'
 | .no=>.no
theorem Qoy (hR:Qca R) {e:Expr}{pos:Pos}{m:M D} (h:PE X e (tM X.K X.mg md P R m)):VS X md P R (.Return (some e) pos) (Qat m):=(Qln h).imp fun D σ H q=>by
 obtain ⟨ρ,O,F,as,r,s,k⟩:=q;unfold Qat at k
 cases e:m ρ O with
 | ok d O' =>
  rw [e] at k;exact ⟨ρ,_,F,as,_,_,r,s,e,fun v H' F' as' g r' hv=>k v H' F' as' g.toS r' (hR _ _ _ _ _ _ _ (fun a ha p=>s.pd a p ha) hv)⟩
 | ex x O'=>rw [e] at k; exact False.elim k
 | no=>rw [e] at k; exact False.elim k
theorem QaA {e:Expr}{pos:Pos}{m:M D} (h:VE X md P e m):VS X md P (rV X.K) (.Return (some e) pos) (Qat m):=Qoy Qbe h
theorem Qh6 {e:Expr}{pos:Pos}{m:M D} (h:OE X md P e m):VS X md P (rO X.K) (.Return (some e) pos) (Qat m):=Qoy Qdn h
theorem QjG (i:Nat) {x:Str}{p pos:Pos} (hm:md[i]? = some .o:=by rfl) (hN:X.N[i]? = some x:=by rfl) (hv:Vis X.env.scope x:=by first | exact Or.inl rfl | exact Or.inr (Or.inl rfl) | exact Or.inr (Or.inr rfl))
  (hd:(x == ("__debug__":Str))=false:=by decide) (hcd:(x == ("__classdict__":Str))=false:=by decide):VS X md P (rO X.K) (.Return (some (.Name x p)) pos) (Qat (Qac i)):=(Qln (QeO (i:=i) hN hv hd hcd)).imp fun D σ H q=>by
 obtain ⟨ρ,O,F,as,r,s,k⟩:=q;unfold Qat at k
 cases e:Qac i ρ O with
 | ok d O' =>
  rw [e] at k;obtain ⟨e1,rfl⟩:=Qh2 e;obtain ⟨v,h1,h2⟩:=s.sl i .o d hm e1;refine ⟨v,h1,k v H F as GrS.refl r ?_⟩
  rcases h2 with h2 | ⟨a,xs,ds,e1,e2,e3,e0,e4,e5,e6⟩
  ·exact .inl h2
  ·exact .inr ⟨a,xs,ds,e1,e2,e3,e0,e4,e5,e6⟩
 | ex x O'=>rw [e] at k; exact False.elim k
 | no=>rw [e] at k; exact False.elim k
def QaR (t:M Bool) (a b:MS):MS:=fun ρ O=>match t ρ O with
 | .ok c O'=>if c=true then a ρ O' else b ρ O'
 | .ex x O'=>.ex x O'
 | .no=>.no
theorem Qa2 {c:Expr}{a b:List Stmt}{pos:Pos}{t:M Bool}{ma mb:MS} (hc:TsE X md P c t) (ha:VSs X md P R a ma) (hb:VSs X md P R b mb):VS X md P R (.If c a b pos) (QaR t ma mb):=(Qqh hc ha hb).imp fun D σ H q=>by
 obtain ⟨ρ,O,F,as,r,s,k⟩:=q;unfold QaR at k
 cases e:t ρ O with
 | ok c O' =>
  rw [e] at k;refine ⟨ρ,_,F,as,_,_,r,s,e,fun H1 F1 as1 g r1=>?_⟩;dsimp only at k
  cases c with
  | true =>
   rw [if_pos rfl] at k ⊢;exact ⟨ρ,O',F1,as1,r1,s.step g,Qdc g.toS k⟩
  | false =>
   rw [if_neg zg] at k ⊢;exact ⟨ρ,O',F1,as1,r1,s.step g,Qdc g.toS k⟩
 | ex x O'=>rw [e] at k; exact False.elim k
 | no=>rw [e] at k; exact False.elim k
def QaB (i:Nat) (m:M D):MS:=fun ρ O=>match m ρ O with
 | .ok d O'=>.nx (ρ.set i (some d)) O'
 | .ex x O'=>.ex x O'
 | .no=>.no
theorem QrU {K:Frag}{mg:Str→Option Value}{i:Nat}{m:M D}{t:TE} (hm:md[i]? = some .v) (ht:∀σ H Q,tM K mg md P (rV K) m σ H Q→t σ H Q) {D:Ends}{σ:St}{H:Hp} (q:tMS K mg md P R (QaB i m) D σ H):QmF t (Qkq i) D σ H:=by
 obtain ⟨ρ,O,F,as,r,s,k⟩:=q;unfold QaB at k
 cases e:m ρ O with
 | ok d O' =>
  rw [e] at k;exact ht _ _ _ ⟨ρ,_,F,as,_,_,r,s,e,fun v H' F' as' g r' hv=>k _ H' F' as' g.toS r' ((s.step g).setV hm hv)⟩
 | ex x O'=>rw [e] at k; exact False.elim k
 | no=>rw [e] at k; exact False.elim k
theorem Qq0 {K:Frag}{mg:Str→Option Value}{i:Nat}{m:M D}{t:TE} (hm:md[i]? = some .o) (ht:∀σ H Q,tM K mg md P (rO K) m σ H Q→t σ H Q) {D:Ends}{σ:St}{H:Hp} (q:tMS K mg md P R (QaB i m) D σ H):QmF t (Qkq i) D σ H:=by
 obtain ⟨ρ,O,F,as,r,s,k⟩:=q;unfold QaB at k
 cases e:m ρ O with
 | ok d O' =>
  rw [e] at k;exact ht _ _ _ ⟨ρ,_,F,as,_,_,r,s,e,fun v H' F' as' g r' hv=>k _ H' F' as' g.toS r' (s.setO g hm hv)⟩
 | ex x O'=>rw [e] at k; exact False.elim k
 | no=>rw [e] at k; exact False.elim k
theorem QaQ {i:Nat}{x:Str}{e:Expr}{pos pos':Pos}{m:M D} (hN:X.N.Nodup) (hi:X.N[i]? = some x) (hx:Loc X.env.scope x) (h:VE X md P e m) (hm:md[i]? = some .v:=by rfl) (hs:swapsWith e (some (.Name x pos')) pos.line X.env=pure false:=by rfl)
  (hf:X.fn x=true∨X.env.scope.names.lookup x=some .local:=by first | exact .inl rfl | exact .inr rfl | assumption):VS X md P R (.Assign [.Name x pos'] e pos) (QaB i m):=(QkT (i:=i) hN hi hx h hs hf).imp fun D σ H q=>QrU hm (fun _ _ _ z=>z) q
theorem Qgu {i:Nat}{x:Str}{e:Expr}{pos pos':Pos}{m:M D} (hN:X.N.Nodup) (hi:X.N[i]? = some x) (hx:Loc X.env.scope x) (h:OE X md P e m) (hm:md[i]? = some .o:=by rfl) (hs:swapsWith e (some (.Name x pos')) pos.line X.env=pure false:=by rfl)
  (hf:X.fn x=true∨X.env.scope.names.lookup x=some .local:=by first | exact .inl rfl | exact .inr rfl | assumption):VS X md P R (.Assign [.Name x pos'] e pos) (QaB i m):=(QkT (i:=i) hN hi hx h hs hf).imp fun D σ H q=>Qq0 hm (fun _ _ _ z=>z) q
abbrev MG:=D→Qak→Option Qak
def tMG (K:Frag) (mg:Str→Option Value) (md:List Md) (P:Pt) (g:MG):TG:=fun v σ H Q=>∃ρ O F as d ρ',RlO K mg O H F as∧SlO K md P ρ σ H F as∧Rp K F as v d∧g d ρ=some ρ'∧∀σ',SlO K md P ρ' σ' H F as→Q σ' H
def Qvm (K:Frag) (mg:Str→Option Value) (md:List Md) (P:Pt) (g:List D→Qak→Option Qak):TGs:=fun vs σ H Q=>∃ρ O F as ds ρ',RlO K mg O H F as∧SlO K md P ρ σ H F as∧Rps K F as vs ds∧g ds ρ=some ρ'∧∀σ',SlO K md P ρ' σ' H F as→Q σ' H
def VG (X:Cx) (md:List Md) (P:Pt) (tg:Expr) (g:MG):Prop:=PG X tg (tMG X.K X.mg md P g)
def VGs (X:Cx) (md:List Md) (P:Pt) (tg:List Expr) (g:List D→Qak→Option Qak):Prop:=PGs X tg (Qvm X.K X.mg md P g)
theorem PG.imp {e:Expr}{t t':TG} (h:PG X e t) (k:∀v σ H Q,t' v σ H Q→t v σ H Q):PG X e t':=fun pins s σ H v u Q I r q=>h pins s σ H v u Q I r (k v σ H Q q)
theorem PGs.imp {e:List Expr}{t t':TGs} (h:PGs X e t) (k:∀v σ H Q,t' v σ H Q→t v σ H Q):PGs X e t':=fun pins s σ H v u Q I r q=>h pins s σ H v u Q I r (k v σ H Q q)
def mgN (i:Nat):MG:=fun d ρ=>some (ρ.set i (some d))
theorem Qce {i:Nat}{x:Str}{pos:Pos} (hN:X.N.Nodup) (hi:X.N[i]? = some x) (hx:Loc X.env.scope x) (hm:md[i]? = some .v:=by rfl) (hf:X.fn x=true∨X.env.scope.names.lookup x=some .local:=by first | exact .inl rfl | exact .inr rfl | assumption):VG X md P (.Name x pos) (mgN i) :=
 (QrI (i:=i) hN hi hx hf).imp fun v σ H Q q=>by
  obtain ⟨ρ,O,F,as,d,ρ',r,s,hv,e,k⟩:=q;cases e;exact k _ (s.setV hm hv)
def QeK:List D→Qak→Option Qak:=fun ds ρ=>match ds with
 | []=>some ρ
 | _=>none
def QbO (g:MG) (r:List D→Qak→Option Qak):List D→Qak→Option Qak:=fun ds ρ=>match ds with
 | d::ds=>(g d ρ).bind fun ρ1=>r ds ρ1
 | []=>none
theorem Qjn:VGs X md P [] QeK:=Qq7.imp fun v σ H Q q=>by
 obtain ⟨ρ,O,F,as,ds,ρ',r,s,hv,e,k⟩:=q
 cases ds with
 | nil=>cases e; exact ⟨hv.un0,k _ s⟩
 | cons _ _=>cases e
theorem Qeu {e:Expr}{es:List Expr}{g:MG}{r:List D→Qak→Option Qak} (h1:VG X md P e g) (h2:VGs X md P es r) (hs:(assignEach (e::es) X.env).map (·.2)=assign e X.env::(assignEach es X.env).map (·.2):=by rfl):VGs X md P (e::es) (QbO g r) :=
 (QpJ h1 h2 hs).imp fun v σ H Q q=>by
  obtain ⟨ρ,O,F,as,ds,ρ',r0,s,hv,e,k⟩:=q
  cases ds with
  | nil=>cases e
  | cons d ds =>
   obtain ⟨x,rs,rfl,hx,hr⟩:=hv.un;unfold QbO at e;dsimp only at e
   cases e1:g d ρ with
   | none=>rw [e1] at e; cases e
   | some ρ1 =>
    rw [e1] at e;exact ⟨x,rs,rfl,ρ,O,F,as,d,ρ1,r0,s,hx,e1,fun σ' s'=>⟨ρ1,O,F,as,ds,ρ',r0,s',hr,e,k⟩⟩
def QgI (n:Nat) (r:List D→Qak→Option Qak):MG:=fun d ρ=>match d with
 | .tup ds=>if ds.length=n then r ds ρ else none
 | _=>none
theorem QkG {es:List Expr}{pos:Pos}{k:Nat}{r:List D→Qak→Option Qak} (n:Nat) (hc:X.calm=true) (h:VGs X md P es r) (hn:(assignEach es X.env).length=n:=by rfl) (hst:(assignEach es X.env).findIdx? (·.1)=none:=by rfl):VG X md P (.Tuple es k pos) (QgI n r) :=
 (QsK hc h hn hst).imp fun v σ H Q q=>by
  obtain ⟨ρ,O,F,as,d,ρ',r0,s,hv,e,k⟩:=q
  cases d with
  | tup ds =>
   obtain ⟨a,xs,rfl,h1,h2⟩:=hv.unT;unfold QgI at e;dsimp only at e;split at e
   ·rename_i hl;exact ⟨a,xs,rfl,Same.seqT r0.fh h1,by rw [h2.length]; exact hl,ρ,O,F,as,ds,ρ',r0,s,h2,e,k⟩
   ·cases e
  | _=>cases e
def Qjc (m:M D) (g:MG):MS:=fun ρ O=>match m ρ O with
 | .ok d O'=>match g d ρ with
  | some ρ'=>.nx ρ' O'
  | none=>.no
 | .ex x O'=>.ex x O'
 | .no=>.no
theorem Qs3 {tg e:Expr}{pos:Pos}{m:M D}{g:MG} (h:VE X md P e m) (hg:VG X md P tg g) (hs:swapsWithSole [tg] e pos.line X.env=pure false:=by rfl) (hw:swappedStores [tg] e X.env=pure none:=by rfl)
  (h1:(assignEach [tg] X.env).map (·.2) = [assign tg X.env]:=by rfl):VS X md P R (.Assign [tg] e pos) (Qjc m g):=(QtO h hg hs hw h1).imp fun D σ H q=>by
 obtain ⟨ρ,O,F,as,r,s,k⟩:=q;unfold Qjc at k
 cases e:m ρ O with
 | ok d O' =>
  rw [e] at k;dsimp only at k
  cases e2:g d ρ with
  | none=>rw [e2] at k; exact False.elim k
  | some ρ' =>
   rw [e2] at k;refine ⟨ρ,_,F,as,_,_,r,s,e,fun v H1 F1 as1 g1 r1 hv=>?_⟩;exact ⟨ρ,O',F1,as1,d,ρ',r1,s.step g1,hv,e2,fun σ' s'=>k σ' H1 F1 as1 g1.toS r1 s'⟩
 | ex x O'=>rw [e] at k; exact False.elim k
 | no=>rw [e] at k; exact False.elim k
end
structure JOk (K:Frag) (mg:Str→Option Value) (P:Pt) (J:It) (ds:List D) (H F:Hp) (as:List Addr):Prop where
 turn:∀(i:Nat) (d:D) (H2 F2:Hp) (as2:List Addr),GrS P H F as H2 F2 as2→(∃O,RlO K mg O H2 F2 as2)→ds[i]? = some d→J.go i H2∧∀x H3,J.yld i H2 x H3→∃F3,Gr H2 F2 as2 H3 F3 as2∧(∀O,RlO K mg O H2 F2 as2→RlO K mg O H3 F3 as2)∧Rp K F3 as2 x d
 stop:∀(H2 F2:Hp) (as2:List Addr),GrS P H F as H2 F2 as2→(∃O,RlO K mg O H2 F2 as2)→J.stop ds.length H2
structure QsR (K:Frag) (mg:Str→Option Value) (J:It) (ds:List D) (H F:Hp) (as:List Addr):Prop where
 turn:∀(i:Nat) (d:D) (H2 F2:Hp) (as2:List Addr),Gr H F as H2 F2 as2→(∃O,RlO K mg O H2 F2 as2)→ds[i]? = some d→J.go i H2∧∀x H3,J.yld i H2 x H3→∃F3,Gr H2 F2 as2 H3 F3 as2∧(∀O,RlO K mg O H2 F2 as2→RlO K mg O H3 F3 as2)∧Rp K F3 as2 x d
 stop:∀(H2 F2:Hp) (as2:List Addr),Gr H F as H2 F2 as2→(∃O,RlO K mg O H2 F2 as2)→J.stop ds.length H2
theorem JOk.e {K:Frag}{mg:Str→Option Value}{P:Pt}{J:It}{ds:List D}{H F:Hp}{as:List Addr} (h:JOk K mg P J ds H F as):QsR K mg J ds H F as:=⟨fun i d H2 F2 as2 g=>h.turn i d H2 F2 as2 g.toS,fun H2 F2 as2 g=>h.stop H2 F2 as2 g.toS⟩
def QsX (K:Frag) (mg:Str→Option Value) (md:List Md) (P:Pt) (m:M (List D)):TI:=fun σ H Q=>∃ρ O F as ds O',RlO K mg O H F as∧SlO K md P ρ σ H F as∧m ρ O = .ok ds O' ∧
 ∀J H' F' as',Gr H F as H' F' as'→RlO K mg O' H' F' as'→QsR K mg J ds H' F' as'→Q J H'
def VIc (X:Cx) (md:List Md) (P:Pt) (tg iter:Expr) (m:M (List D)):Prop:=PI X tg iter (QsX X.K X.mg md P m)
def tMI (K:Frag) (mg:Str→Option Value) (md:List Md) (P:Pt) (m:M (List D)):TI:=fun σ H Q=>∃ρ O F as ds O',RlO K mg O H F as∧SlO K md P ρ σ H F as∧m ρ O = .ok ds O' ∧
 ∀J H' F' as',Gr H F as H' F' as'→RlO K mg O' H' F' as'→JOk K mg P J ds H' F' as'→Q J H'
def VI (X:Cx) (md:List Md) (P:Pt) (tg iter:Expr) (m:M (List D)):Prop:=PI X tg iter (tMI X.K X.mg md P m)
section
variable {X:Cx}{md:List Md}{P:Pt}{R:RR}
theorem PI.imp {tg e:Expr}{t t':TI} (h:PI X tg e t) (k:∀σ H Q,t' σ H Q→t σ H Q):PI X tg e t':=fun pins s σ H Q I q=>h pins s σ H Q I (k σ H Q q)
theorem QkZ {tg e:Expr}{m:M (List D)} (h:VI X md P tg e m):VIc X md P tg e m:=h.imp fun σ H Q q=>by
 obtain ⟨ρ,O,F,as,ds,O',r,s,e,k⟩:=q;exact ⟨ρ,O,F,as,ds,O',r,s,e,fun J H' F' as' g r' hJ=>k J H' F' as' g r' hJ.e⟩
def Qa8 (g:MG) (b:MS):List D→MS
 | [],ρ,O=>.nx ρ O
 | d::ds,ρ,O=>match g d ρ with
  | none=>.no
  | some ρ1=>match b ρ1 O with
   | .nx ρ2 O2=>Qa8 g b ds ρ2 O2
   | .ct ρ2 O2=>Qa8 g b ds ρ2 O2
   | .bk ρ2 O2=>.nx ρ2 O2
   | r=>r
def Qc6 (m:M (List D)) (g:MG) (b:MS):MS:=fun ρ O=>match m ρ O with
 | .ok ds O'=>Qa8 g b ds ρ O'
 | .ex x O'=>.ex x O'
 | .no=>.no
theorem QsV {K:Frag}{mg:Str→Option Value}{m:M (List D)}{g:MG}{b:MS}{D:Ends}{σ:St}{H:Hp} (q:tMS K mg md P R (Qc6 m g b) D σ H):QoP (tMI K mg md P m) (tMG K mg md P g) (tMS K mg md P R b) D σ H:=by
 obtain ⟨ρ,O,F,as,r,s,k⟩:=q;unfold Qc6 at k
 cases e:m ρ O with
 | ex x O'=>rw [e] at k; exact False.elim k
 | no=>rw [e] at k; exact False.elim k
 | ok ds O1 =>
  rw [e] at k;dsimp only at k;refine ⟨ρ,_,F,as,_,_,r,s,e,fun J H1 F1 as1 g1 r1 hJ=>?_⟩;have k1:=Qdc (R:=R) g1.toS k;refine ⟨fun i m σ' H'=>m=ds.length - i∧i≤ds.length∧∃ρ' O' F' as',GrS P H1 F1 as1 H' F' as'∧RlO K mg O' H' F' as'∧SlO K md P ρ' σ' H' F' as'∧QeX K mg md P R D H' F' as' (Qa8 g b (ds.drop i) ρ' O'),⟨ds.length,by simp,Nat.zero_le _,ρ,O1,F1,as1,GrS.refl,r1,s.step g1,by rw [List.drop_zero]; exact k1⟩,?_⟩;rintro i n σ' H' ⟨rfl,hi,ρ',O',F',as',g',r',s',k'⟩
  by_cases hlt:i < ds.length
  ·have hd:=zK hlt;obtain ⟨go,yl⟩:=hJ.turn i _ H' F' as' g' ⟨O',r'⟩ hd;rw [List.drop_eq_getElem_cons hlt] at k';refine .inr ⟨go,fun σ2 H2=>∃ρ2 O2 F2 as2,GrS P H1 F1 as1 H2 F2 as2∧RlO K mg O2 H2 F2 as2∧SlO K md P ρ2 σ2 H2 F2 as2∧QeX K mg md P R D H2 F2 as2 (Qa8 g b (ds.drop (i+1)) ρ2 O2),fun σ2 H2 h2=>⟨ds.length - (i+1),by omega,rfl,hlt,h2⟩,fun x H3 y=>?_⟩;obtain ⟨F3,g3,r3,hx⟩:=yl x H3 y;have r3':=r3 O' r';unfold Qa8 at k'
   cases eg:g ds[i] ρ' with
   | none=>rw [eg] at k'; exact False.elim k'
   | some ρ1 =>
    rw [eg] at k';dsimp only at k';refine ⟨ρ',O',F3,as',ds[i],ρ1,r3',s'.step g3,hx,eg,fun σ4 s4=>?_⟩;refine ⟨ρ1,O',F3,as',r3',s4,?_⟩;have g4:GrS P H1 F1 as1 H3 F3 as':=g'.trans g3.toS
    have keep:=fun {f}=>Qdc (K:=K) (mg:=mg) (md:=md) (R:=R) (D:=D) (f:=f) (g3.toS (P:=P))
    cases eb:b ρ1 O' with
    | nx ρ2 O2 =>
     rw [eb] at k'
     exact fun σ2 H2 F2 as2 g2 r2 s2=>⟨ρ2,O2,F2,as2,g4.trans g2,r2,s2,Qdc g2 (keep k')⟩
    | ct ρ2 O2 =>
     rw [eb] at k'
     exact fun σ2 H2 F2 as2 g2 r2 s2=>⟨ρ2,O2,F2,as2,g4.trans g2,r2,s2,Qdc g2 (keep k')⟩
    | bk ρ2 O2 =>
     rw [eb] at k'
     exact fun σ2 H2 F2 as2 g2 r2 s2=>k' σ2 H2 F2 as2 (g3.toS.trans g2) r2 s2
    | rt d O2 =>
     rw [eb] at k'
     exact fun v H2 F2 as2 g2 r2 s2=>k' v H2 F2 as2 (g3.toS.trans g2) r2 s2
    | ex _ _=>rw [eb] at k'; exact False.elim k'
    | no=>rw [eb] at k'; exact False.elim k'
  ·have hi':i=ds.length:=by omega
   subst hi';refine .inl ⟨hJ.stop H' F' as' g' ⟨O',r'⟩,?_⟩;rw [List.drop_length] at k';exact k' σ' H' F' as' GrS.refl r' s'
theorem Qhq {tg iter:Expr}{body:List Stmt}{pos:Pos}{m:M (List D)}{g:MG}{b:MS} (hc:X.calm=true) (hi:VI X md P tg iter m) (hg:VG X md P tg g) (hb:VSs X md P R body b) (hp:PassesOwn (model X.prog X.w) X.A X.env X.xe:=by exact PassesOwn.never)
  (hs:∀x,foldedSetIterable iter X.env x=pure x:=by intro _; rfl):VS X md P R (.For tg iter body [] pos) (Qc6 m g b):=(QoD hp hc hi hg hb hs).imp fun _ _ _ q=>QsV q
def Qfd (t:M Bool) (b:MS):Nat→MS
 | 0,_,_=>.no
 | n+1,ρ,O=>match t ρ O with
  | .ok true O1=>match b ρ O1 with
   | .nx ρ2 O2=>Qfd t b n ρ2 O2
   | .ct ρ2 O2=>Qfd t b n ρ2 O2
   | .bk ρ2 O2=>.nx ρ2 O2
   | r=>r
  | .ok false O1=>.nx ρ O1
  | .ex x O'=>.ex x O'
  | .no=>.no
def Qgr (n:Nat) (t:M Bool) (b:MS):MS:=Qfd t b n
theorem Qpz {K:Frag}{mg:Str→Option Value}{n:Nat}{t:M Bool}{b:MS}{D:Ends}{σ:St}{H:Hp} (q:tMS K mg md P R (Qgr n t b) D σ H):QnD (tMT K mg md P t) (tMS K mg md P R b) D σ H:=by
 refine ⟨fun n σ' H'=>tMS K mg md P R (Qfd t b n) D σ' H',⟨n,q⟩,?_⟩;rintro m σ1 H1 ⟨ρ,O,F,as,r,s,k⟩
 cases m with
 | zero=>exact False.elim k
 | succ m =>
  unfold Qfd at k
  cases e:t ρ O with
  | ex x O'=>rw [e] at k; exact False.elim k
  | no=>rw [e] at k; exact False.elim k
  | ok c O1 =>
   rw [e] at k;refine ⟨ρ,_,F,as,_,_,r,s,e,fun H2 F2 as2 g2 r2=>?_⟩
   cases c with
   | false =>
    rw [if_neg zg];exact k σ1 H2 F2 as2 g2.toS r2 (s.step g2)
   | true =>
    rw [if_pos rfl];refine ⟨fun σ' H'=>tMS K mg md P R (Qfd t b m) D σ' H',fun σ' H' h'=>⟨m,zW m,h'⟩,ρ,O1,F2,as2,r2,s.step g2,?_⟩;dsimp only at k
    have keep:=fun {f}=>Qdc (K:=K) (mg:=mg) (md:=md) (R:=R) (D:=D) (f:=f) (g2.toS (P:=P))
    cases eb:b ρ O1 with
    | nx ρ2 O2 =>
     rw [eb] at k
     exact fun σ3 H3 F3 as3 g3 r3 s3=>⟨ρ2,O2,F3,as3,r3,s3,Qdc g3 (keep k)⟩
    | ct ρ2 O2 =>
     rw [eb] at k
     exact fun σ3 H3 F3 as3 g3 r3 s3=>⟨ρ2,O2,F3,as3,r3,s3,Qdc g3 (keep k)⟩
    | bk ρ2 O2 =>
     rw [eb] at k
     exact fun σ3 H3 F3 as3 g3 r3 s3=>k σ3 H3 F3 as3 (g2.toS.trans g3) r3 s3
    | rt d O2 =>
     rw [eb] at k
     exact fun σ3 H3 F3 as3 g3 r3 s3=>k σ3 H3 F3 as3 (g2.toS.trans g3) r3 s3
    | ex _ _=>rw [eb] at k; exact False.elim k
    | no=>rw [eb] at k; exact False.elim k
theorem Qp2 (n:Nat) {c:Expr}{body:List Stmt}{pos:Pos}{t:M Bool}{b:MS} (hc:TsE X md P c t) (hb:VSs X md P R body b) (hp:PassesOwn (model X.prog X.w) X.A X.env X.xe:=by exact PassesOwn.never):VS X md P R (.While c body [] pos) (Qgr n t b) :=
 (QpF hp hc hb).imp fun _ _ _ q=>Qpz q
def Qdr (g:MG) (t:M Bool) (m:M D):List D→Qak→Qab→List D→Res (List D)
 | [],ρ,O,acc=>.ok acc O
 | d::ds,ρ,O,acc=>match g d ρ with
  | none=>.no
  | some ρ1=>match t ρ1 O with
   | .ok true O1=>match m ρ1 O1 with
    | .ok y O2=>Qdr g t m ds ρ1 O2 (acc ++ [y])
    | .ex x O'=>.ex x O'
    | .no=>.no
   | .ok false O1=>Qdr g t m ds ρ1 O1 acc
   | .ex x O'=>.ex x O'
   | .no=>.no
def Qhs (own:Nat) (cap:List Nat) (ρ:Qak):Qak:=List.replicate own none++cap.map fun j=>(ρ[j]?).join
def Qih (m:M (List D)) (own:Nat) (cap:List Nat) (g:MG) (t:M Bool) (e:M D):M D:=fun ρ O=>(m ρ O).bind fun ds O1=>if ds.length≤1000000 then (Qdr g t e ds (Qhs own cap ρ) O1 []).bind fun ys O2=>.ok (.lst ys) O2 else .no
def Qjx:M Bool:=fun _ O=>.ok true O
def cMd (own:Nat) (cap:List Nat) (md:List Md):List Md:=List.replicate own .v++cap.map fun j=>match md[j]? with
 | some .v=>.v
 | _=>.s
theorem QmD {K:Frag}{ρ:Qak}{σ:St}{H F:Hp}{as:List Addr}{own:List Str}{cap:List Nat} (s:SlO K md P ρ σ H F as) (hcap:∀j∈cap,j < md.length):SlO K (cMd own.length cap md) (Pt.all H) (Qhs own.length cap ρ) (compSt own cap σ) H F as:=by
 refine ⟨by simp [compSt,cMd],by simp [Qhs,cMd],fun a h=>h,fun i m d e1 e2=>?_,fun i j a ds es h1=>?_,fun _ z=>nomatch z⟩
 ·unfold Qhs at e2;unfold cMd at e1;unfold compSt
  by_cases hi:i < own.length
  ·rw [zz (by simpa using hi),List.getElem?_replicate_of_lt hi] at e2;cases e2
  ·have hi':own.length≤i:=Nat.le_of_not_lt hi;rw [zy (by simpa using hi'),List.length_replicate,zE] at e2 e1;rw [zy (by simpa using hi'),zI,zE]
   cases q:cap[i - own.length]? with
   | none=>rw [q] at e2; cases e2
   | some j =>
    rw [q] at e1 e2;simp only [Option.map_some,Option.some.injEq] at e1 e2 ⊢
    cases q2:ρ[j]? with
    | none=>rw [q2] at e2; cases e2
    | some o =>
     rw [q2] at e2;have e2':o=some d:=e2;subst e2';obtain ⟨m0,v,h1,h2,h3⟩:=s.get q2;rw [h1] at e1;refine ⟨v,by rw [h2]; rfl,?_⟩
     cases m0 with
     | v=>dsimp only at e1; subst e1; exact h3
     | s =>
      dsimp only at e1; subst e1
      rcases h3 with h3 | ⟨a,xs,ds,e1,e2,e3,e4,e5,e6⟩
      ·exact .inl h3
      ·exact .inr ⟨a,xs,ds,e1,e2,e3,e4,(show H a≠none by rw [e3]; exact fun z=>nomatch z),e6⟩
     | o =>
      dsimp only at e1; subst e1
      rcases h3 with ⟨_,h3⟩ | ⟨a,xs,ds,e1,e2,e3,e0,e4,e5,e6⟩
      ·exact .inl h3
      ·exact .inr ⟨a,xs,ds,e1,e2,e3,e4,(show H a≠none by rw [e3]; exact fun z=>nomatch z),e6⟩
 ·exfalso
  unfold cMd at h1
  by_cases hi:i < own.length
  ·rw [zz (by simpa using hi),List.getElem?_replicate_of_lt hi] at h1;cases h1
  ·have hi':own.length≤i:=Nat.le_of_not_lt hi;rw [zy (by simpa using hi'),List.length_replicate,zE] at h1
   cases q:cap[i - own.length]? with
   | none=>rw [q] at h1; cases h1
   | some j =>
    rw [q] at h1;simp only [Option.map_some,Option.some.injEq] at h1
    split at h1 <;> cases h1
end
section
variable {X:Cx}{md:List Md}{P:Pt}{R:RR}
def xM (K:Frag) (mg:Str→Option Value) (md:List Md) (R:RR) (m:M D):TE:=fun σ H Q=>∃P,tM K mg md P R m σ H Q
def xMT (K:Frag) (mg:Str→Option Value) (md:List Md) (m:M Bool):TT:=fun σ H Q=>∃P,tMT K mg md P m σ H Q
def xMG (K:Frag) (mg:Str→Option Value) (md:List Md) (g:MG):TG:=fun v σ H Q=>∃P,tMG K mg md P g v σ H Q
theorem xm {e:Expr}{m:M D} (h:∀P,PE X e (tM X.K X.mg md P R m)):PE X e (xM X.K X.mg md R m):=fun pins s σ H Q I ⟨P,q⟩=>h P pins s σ H Q I q
theorem xmg {e:Expr}{g:MG} (h:∀P,VG X md P e g):PG X e (xMG X.K X.mg md g):=fun pins s σ H v u Q I r ⟨P,q⟩=>h P pins s σ H v u Q I r q
theorem xmt {e:List Expr}{m:M Bool} (h:∀P,Qjv X e (tMT X.K X.mg md P m)):Qjv X e (xMT X.K X.mg md m):=fun pins s σ H Q I ⟨P,q⟩=>h P pins s σ H Q I q
def VIf (X:Cx) (md:List Md) (P:Pt) (e:List Expr) (m:M Bool):Prop:=Qjv X e (tMT X.K X.mg md P m)
theorem Qmd:VIf X md P [] Qjx:=fun pins s σ H Q I q=>by
 obtain ⟨ρ,O,F,as,d,O',r,s,e,k⟩:=q;cases e;exact Qo6 pins _ σ H Q I (k H F as Gr.refl r)
theorem Qrx {K:Frag}{mg:Str→Option Value}{m:M (List D)}{own:List Str}{cap:List Nat}{g:MG}{t:M Bool}{e:M D} (hcap:∀j∈cap,j < md.length) {σ:St}{H:Hp}{Q:VK} (q:tM K mg md P (rO K) (Qih m own.length cap g t e) σ H Q) :
  Qqd (QsX K mg md P m) own cap (xMG K mg (cMd own.length cap md) g) (xMT K mg (cMd own.length cap md) t) (xM K mg (cMd own.length cap md) (rV K) e) σ H Q:=by
 obtain ⟨ρ,O,F,as,d,OZ,r,s,eq,k⟩:=q;obtain ⟨ds,O1,e1,eq⟩:=Res.bind_ok eq;split at eq
 ·rename_i hz;obtain ⟨yf,O2,e2,eq⟩:=Res.bind_ok eq;cases eq;refine ⟨ρ,_,F,as,_,_,r,s,e1,fun J H1 F1 as1 g1 r1 hJ=>?_⟩;have sb:=QmD (own:=own) (s.step g1) hcap
  refine ⟨fun i n ys σ' H'=>n=ds.length - i∧i≤ds.length∧∃ρ' O' F' as' acc,Gr H1 F1 as1 H' F' as'∧RlO K mg O' H' F' as'∧SlO K (cMd own.length cap md) (Pt.all H1) ρ' σ' H' F' as'∧Rps K F' as' ys acc∧acc.length≤i ∧
   Qdr g t e (ds.drop i) ρ' O' acc = .ok yf OZ,⟨ds.length,by simp,Nat.zero_le _,Qhs own.length cap ρ,O1,F1,as1,[],Gr.refl,r1,sb,Rps.nil,zc _,by rw [List.drop_zero]; exact e2⟩,?_⟩
  rintro i n ys σ' H' ⟨rfl,hi,ρ',O',F',as',acc,g',r',s',hy,hl,ec⟩
  by_cases hlt:i < ds.length
  ·obtain ⟨go,yl⟩:=hJ.turn i _ H' F' as' g' ⟨O',r'⟩ (zK hlt)
   refine .inr ⟨go,?_,fun ys σ2 H2=>∃ρ2 O3 F2 as2 acc2,Gr H1 F1 as1 H2 F2 as2∧RlO K mg O3 H2 F2 as2∧SlO K (cMd own.length cap md) (Pt.all H1) ρ2 σ2 H2 F2 as2∧Rps K F2 as2 ys acc2∧acc2.length≤i+1 ∧
    Qdr g t e (ds.drop (i+1)) ρ2 O3 acc2 = .ok yf OZ,fun ys2 σ2 H2 h2=>⟨ds.length - (i+1),by omega,rfl,hlt,h2⟩,fun x H3 y=>?_⟩
   ·rw [hy.length]
    have:=QdH hz
    omega
   obtain ⟨F3,g3,r3,hx⟩:=yl x H3 y;have r3':=r3 O' r';have g13:=g'.trans g3;rw [List.drop_eq_getElem_cons hlt] at ec;unfold Qdr at ec
   cases eg:g ds[i] ρ' with
   | none=>rw [eg] at ec; cases ec
   | some ρ1 =>
    rw [eg] at ec;dsimp only at ec;refine ⟨_,ρ',O',F3,as',ds[i],ρ1,r3',s'.step g3,hx,eg,fun σ4 s4=>?_⟩
    cases et:t ρ1 O' with
    | ex _ _=>rw [et] at ec; cases ec
    | no=>rw [et] at ec; cases ec
    | ok c O4 =>
     rw [et] at ec;refine ⟨_,ρ1,O',F3,as',c,O4,r3',s4,et,fun H5 F5 as5 g5 r5=>?_⟩
     cases c with
     | false =>
      rw [if_neg zg];exact ⟨ρ1,O4,F5,as5,acc,g13.trans g5,r5,s4.step g5,(hy.gr g3).gr g5,by omega,ec⟩
     | true =>
      rw [if_pos rfl];dsimp only at ec
      cases em:e ρ1 O4 with
      | ex _ _=>rw [em] at ec; cases ec
      | no=>rw [em] at ec; cases ec
      | ok yd O6 =>
       rw [em] at ec;refine ⟨_,ρ1,O4,F5,as5,yd,O6,r5,s4.step g5,em,fun vy H7 F7 as7 g7 r7 hvy=>?_⟩;exact ⟨ρ1,O6,F7,as7,acc ++ [yd],(g13.trans g5).trans g7,r7,(s4.step g5).step g7,(((hy.gr g3).gr g5).gr g7).snoc hvy,by rw [zr]; show acc.length+1≤i+1; omega,ec⟩
  ·have hi':i=ds.length:=by omega
   subst hi';rw [List.drop_length] at ec;cases ec;refine .inl ⟨hJ.stop H' F' as' g' ⟨_,r'⟩,?_,fun p hp=>?_⟩
   ·rw [hy.length];exact zt hl (QdH hz)
   ·have hF:F' p=none:=by
     cases q:F' p with
     | none=>rfl
     | some o=>rw [r'.fh p o q] at hp; cases hp
    exact k _ _ F' as' ((g1.trans g').trans (Gr.lay hp)) (r'.lay hp) (.inr ⟨p,ys,yf,rfl,rfl,QaD,hF,fun z=>r'.all z hp,(g1.trans g').dm p hp,hy⟩)
 ·cases eq
variable {tg iter elt:Expr}{ifs:List Expr}{scope:Scope}{pos:Pos}{mi:M (List D)}{g:MG}{t:M Bool}{e:M D}
theorem Ql8 (sc0:Scope) (N0 own:List Str) (cap:List Nat) (hc:X.calm=true) (hi:VIc X md P tg iter mi)
  (hg:∀C s H ex P,VG (Qbk X scope C (Qbu N0 own cap) s H ex) (cMd own.length cap md) P tg g) (ht:∀C s H ex P,VIf (Qbk X scope C (Qbu N0 own cap) s H ex) (cMd own.length cap md) P ifs t)
  (he:∀C s H ex P,VE (Qbk X scope C (Qbu N0 own cap) s H ex) (cMd own.length cap md) P elt e)
  (hcap:∀j∈cap,j < md.length:=by decide) (hsc:X.env.scope=sc0:=by rfl) (hN0:X.N=N0:=by rfl) (ok:Qjl sc0 N0 scope own cap=true:=by decide +kernel) (hs:∀x,foldedSetIterable iter X.env x=pure x:=by intro _; rfl) :
  OE X md P (.ListComp elt [⟨tg,iter,ifs,0⟩] scope pos) (Qih mi own.length cap g t e) :=
 (QrQ sc0 N0 own cap hc hi (fun C s H ex=>xmg (hg C s H ex)) (fun C s H ex=>xmt (ht C s H ex)) (fun C s H ex=>xm (he C s H ex)) hsc hN0 ok hs).imp fun _ _ _ q=>Qrx hcap q
end
def vSp (K:Frag) (mg:Str→Option Value) (pm:List Md) (R:RR) (c:List D→Qab→Res D):Sp:=fun vs H Q _ =>
 ∃ds O F as d O',RlO K mg O H F as∧QbG K H F as pm vs ds∧c ds O = .ok d O'∧∀v H' F' as',Gr H F as H' F' as'→RlO K mg O' H' F' as'→R (fun a=>H a=none) H' F' as' v d→Q v H'
def Qbc (n:Nat) (b:MS):List D→Qab→Res D:=fun ds O=>match b (ds.map some++List.replicate (n - ds.length) none) O with
 | .rt d O'=>.ok d O'
 | .nx _ O'=>.ok .non O'
 | .ex x O'=>.ex x O'
 | _=>.no
theorem QbG.len {K:Frag}{H F:Hp}{as:List Addr}:∀{ms:List Md}{vs:List V}{ds:List D},QbG K H F as ms vs ds→vs.length=ms.length∧ds.length=ms.length
 | [],[],[],_=>⟨rfl,rfl⟩
 | m::ms,v::vs,d::ds,h=>by
  have:=QbG.len h.2
  simp [this.1,this.2]
 | [],[],_::_,h=>h.elim
 | [],_::_,[],h=>h.elim
 | [],_::_,_::_,h=>h.elim
 | _::_,[],[],h=>h.elim
 | _::_,[],_::_,h=>h.elim
 | _::_,_::_,[],h=>h.elim
theorem QbG.get {K:Frag}{H F:Hp}{as:List Addr}:∀{ms:List Md}{vs:List V}{ds:List D}{i:Nat}{m:Md}{d:D},QbG K H F as ms vs ds→ms[i]? = some m→ds[i]? = some d→∃v,vs[i]? = some v∧rA K m (fun _=>True) H F as v d
 | m::ms,v::vs,d::ds,0,m',d',h,e1,e2=>by
  simp at e1 e2
  subst e1 e2;exact ⟨v,rfl,h.1⟩
 | m::ms,v::vs,d::ds,i+1,m',d',h,e1,e2=>by
  obtain ⟨v',h1,h2⟩:=QbG.get (i:=i) (m:=m') (d:=d') h.2 (by simpa using e1) (by simpa using e2);exact ⟨v',by simpa using h1,h2⟩
 | [],[],[],_,_,_,_,e1,_=>by simp at e1
 | [],[],_::_,_,_,_,h,_,_=>h.elim
 | [],_::_,[],_,_,_,h,_,_=>h.elim
 | [],_::_,_::_,_,_,_,h,_,_=>h.elim
 | _::_,[],[],_,_,_,h,_,_=>h.elim
 | _::_,[],_::_,_,_,_,h,_,_=>h.elim
 | _::_,_::_,[],_,_,_,h,_,_=>h.elim
theorem QeH {K:Frag}{H F:Hp}{as:List Addr}{N:List Str}{pm lm:List Md}{vs:List V}{ds:List D} (h:QbG K H F as pm vs ds) (hl:(pm++lm).length=N.length) (hp:∀m∈pm,m≠.o) :
  SlO K (pm++lm) (Pt.all H) (ds.map some++List.replicate (N.length - ds.length) none) (start N vs) H F as:=by
 obtain ⟨h1,h2⟩:=h.len;rw [zr] at hl
 have vsl:vs.length≤N.length:=by omega
 have no:∀i a,(ds.map some++List.replicate (N.length - ds.length) none)[i]? = some (some a)→i < ds.length:=fun i a e=>by
  by_cases hi:i < ds.length
  ·exact hi
  ·rw [zy (by simpa using hi),List.getElem?_replicate] at e
   split at e <;> cases e
 refine ⟨by unfold start; simp; omega,by simp; omega,fun a z=>z,fun i m d e1 e2=>?_,fun i j a es fs e1 e2 e3=>?_,fun _ z=>nomatch z⟩
 ·have hi:=no i d e2;rw [zz (by simpa using hi),zE] at e2;rw [zz (by omega)] at e1
  cases q:ds[i]? with
  | none=>rw [q] at e2; cases e2
  | some d' =>
   rw [q] at e2;cases e2;obtain ⟨v,h3,h4⟩:=h.get e1 q;refine ⟨v,?_,?_⟩
   ·unfold start;rw [zz (by simp; omega),zE,h3];rfl
   ·cases m with
    | v=>exact h4
    | s =>
     rcases h4 with h4 | ⟨a,xs,es,z1,z2,z3,z4,z5⟩
     ·exact .inl h4
     ·exact .inr ⟨a,xs,es,z1,z2,z3,z4,(show H a≠none by rw [z3]; exact fun z=>nomatch z),z5⟩
    | o=>exact absurd rfl (hp .o (zN e1))
 ·have hi:=no i _ e3;rw [zz (by omega)] at e1;exact absurd rfl (hp .o (zN e1))
section
variable {Pr:Program}{w:World}{K:Frag}{mg:Str→Option Value}{base:Heap}
theorem Qdd {x:Str}{st:Stmt}{N ps:List Str}{k:Nat} (Df:Def K mg x st) (S:QaK N ps (Qah st))
  (hb:∀(kV doc pm:Value) (an:Option Addr) (cdv ct:Value) (us:List Value),us.length=ps.length→bindArgs (PySem.W.fnOf x x (Qba st) (QaP st) (Qah st) .none kV doc pm an cdv ct) ⟨us,[]⟩=pure (ps.zip us))
  (pm lm:List Md) {R:RR}{b:MS} (hR:Qca R) (hR0:∀N H F as,R N H F as .non .non) (hpl:pm.length=ps.length:=by rfl) (hl:(pm++lm).length=N.length:=by rfl) (hp:∀m∈pm,m≠.o:=by decide)
  (body:∀(f:Addr) (cdv:Value) (A:Around) (outer:List Env) (s:Shared) (H:Hp) (E:XK),QaJ k (A.deeper (envOfC x (Qah st) s.heap.objs.size f cdv))→∀P,VSs ((Qb7 CX0 Pr w K mg base N x (Qah st) f cdv A outer s H E).nox) (pm++lm) P R (QaP st) b) :
  Can Pr w K mg base x ps (k+1) (vSp K mg pm R (Qbc N.length b)):=by
 refine Df.can (k:=k) S hb (fun vs H Q E h=>?_) (fun f cdv A outer s H vs Q E hr h=>?_)
 ·obtain ⟨ds,O,F,as,d,O',r,a,_⟩:=h;rw [a.len.1,hpl]
 ·obtain ⟨ds,O,F,as,d,O',r,a,e,q⟩:=h;refine ⟨_,body f cdv A outer s H E hr (Pt.all H),?_⟩;refine ⟨_,O,F,as,r,QeH a hl hp,?_⟩;unfold Qbc at e
  cases eb:b (ds.map some++List.replicate (N.length - ds.length) none) O with
  | rt d' O2 =>
   rw [eb] at e;cases e
   exact fun v H' F' as' g r' hv=>q v H' F' as' g.gr r' (hR _ _ _ _ _ _ _ (fun c hc=>je.mp hc) hv)
  | nx ρ O2 =>
   rw [eb] at e;cases e
   exact fun σ' H' F' as' g r' _=>q _ H' F' as' g.gr r' (hR0 _ _ _ _)
  | bk _ _=>rw [eb] at e; cases e
  | ct _ _=>rw [eb] at e; cases e
  | ex _ _=>rw [eb] at e; cases e
  | no=>rw [eb] at e; cases e
end
section
variable {X:Cx}{md:List Md}{P:Pt}{R:RR}{k:Nat}{x:Str}{ps:List Str}{p pos:Pos}{e:Expr}{es:List Expr}{pm:List Md}{c:List D→Qab→Res D}{ma:M (List D)}
def Qax (c:List D→Qab→Res D) (ma:M (List D)):M D:=fun ρ O=>(ma ρ O).bind fun ds O1=>c ds O1
theorem QjK {K:Frag}{mg:Str→Option Value} (hR:Qca R) {E:XK}{σ:St}{H:Hp}{Q:VK} (q:tM K mg md P R (Qax c ma) σ H Q):Qib (vSp K mg pm R c) [] E (tMA K mg md P pm ma) σ H Q:=by
 obtain ⟨ρ,O,F,as,d,O',r,s,e,k⟩:=q;obtain ⟨ds,O1,e1,e⟩:=Res.bind_ok e;refine ⟨ρ,_,F,as,_,_,r,s,e1,fun vs H1 F1 as1 g1 r1 hv=>?_⟩;dsimp only;rw [zx];exact ⟨ds,O1,F1,as1,d,O',r1,hv,e,fun v H' F' as' g' r' hw=>k v H' F' as' (g1.trans g') r' (hR _ _ _ _ _ _ _ (fun a ha=>g1.dm a ha) hw)⟩
theorem Ql6 (hR:Qca R) (C:Can X.prog X.w X.K X.mg X.base x ps k (vSp X.K X.mg pm R c)) (hr:QaJ k X.A) (ha:AE X md P pm (e::es) ma) (hg:Gl X x:=by rfl) (hdb:(x == ("__debug__":Str))=false:=by decide)
  (he:starEach (e::es) X.env=(false,eval e X.env)::starEach es X.env:=by exact Qa1 rfl) (hpl:(backTo pos (starEach es X.env)).any (·.1)=false:=by exact Qa5 rfl):PE X (.Call (.Name x p) (e::es) [] pos) (tM X.K X.mg md P R (Qax c ma)) :=
 (QtN C hr ha hg hdb he hpl).imp fun _ _ _ q=>QjK hR q
theorem Qpa (hR:Qca R) (C:Can X.prog X.w X.K X.mg X.base x ps k (vSp X.K X.mg [] R c)) (hr:QaJ k X.A) (hg:Gl X x:=by rfl) (hdb:(x == ("__debug__":Str))=false:=by decide):PE X (.Call (.Name x p) [] [] pos) (tM X.K X.mg md P R (Qax c Qaf)) :=
 (QqO C hr hg hdb).imp fun σ H Q q=>by
  have:=QjK (pm:=[]) (E:=E0) hR q
  obtain ⟨ρ,O,F,as,d,O',r,s,e1,k⟩:=this;cases e1;exact k [] H F as Gr.refl r trivial
end
section
variable {K:Frag}{mg:Str→Option Value}{H F:Hp}{as:List Addr}{O:Qab}{Q:VK}{d:D}{p:Addr}{xs:List V}{ds:List D}
theorem Qbt {v:V} (r:RlO K mg O H F as) (k:∀v' H' F',Gr H F as H' F' as→RlO K mg O H' F' as→Ow K (fun a=>H a=none) H' F' as v' d→Q v' H') (hn:Qet d=true) (hv:Rp K F as v d):Q v H:=k v H F Gr.refl r (.inl ⟨hn,hv⟩)
theorem RlO.frF (r:RlO K mg O H F as) (hp:H p=none):F p=none:=by
 cases q:F p with
 | none=>rfl
 | some o=>rw [r.fh p o q] at hp; cases hp
theorem QmK (r:RlO K mg O H F as) (k:∀v' H' F',Gr H F as H' F' as→RlO K mg O H' F' as→Ow K (fun a=>H a=none) H' F' as v' (.lst ds)→Q v' H') (hp:H p=none) (hs:Rps K F as xs ds):Q (.ref p) (upd H p (.lst xs)) :=
 k _ _ F (Gr.lay hp) (r.lay hp) (.inr ⟨p,xs,ds,rfl,rfl,QaD,r.frF hp,fun z=>r.all z hp,hp,hs⟩)
theorem Qqo (r:RlO K mg O H F as) (k:∀v' H' F',Gr H F as H' F' as→RlO K mg O H' F' as→Ow K (fun a=>H a=none) H' F' as v' (.tup ds)→Q v' H') (hp:H p=none) (hs:Rps K F as xs ds):Q (.ref p) (upd H p (.tup xs)):=by
 have hF:=r.frF hp
 have ff:Same F (upd F p (.tup xs)):=fun b u q=>by rw [Qan (Qay q hF)]; exact q
 exact k _ _ (upd F p (.tup xs)) ((Gr.lay hp).frz hp hF) ((r.lay hp).frz QaD hF (fun z=>r.all z hp) rfl) (.inl ⟨rfl,Rp.mkT (.inl QaD) (Rps.mono ff (fun _ _ z=>z) _ hs)⟩)
end
section
variable {X:Cx}
def Qun (K:Frag):R2:=fun x y H Q=>∃l b xs zs,x = .ref l∧y = .ref b∧RdK K H l xs∧RdK K H b zs∧xs.length+zs.length≤sizeLine∧∀p,H p=none→Q (.ref p) (upd H p (.lst (xs++zs)))
theorem QqJ:OpR X (binaryOp .Add) (Qun X.K):=by
 intro pins s σ H x y v u Q I rx ry h;obtain ⟨l,b,xs,zs,rfl,rfl,hH,hB,hz,q⟩:=h;cases rx;cases ry;obtain ⟨z,its,n,r,e⟩:=hH.ok I;obtain ⟨z2,its2,n2,r2,e2⟩:=hB.ok I;have hl:=r.length;have hl2:=r2.length;refine PySem.P.add_list e e2 ?_ (by rw [zn,zn]; omega)
 have ea:its.toArray++its2.toArray=(its++its2).toArray:=by simp
 rw [ea];exact ⟨.ref _,_,I.lnew (t':=s.toks) (r.append r2) (by rw [zr]; omega),rfl,q _ I.fresh⟩
def QtW (K:Frag):R2:=fun x y H Q=>∃l k xs,x = .ref l∧y = .int k∧RdK K H l xs∧-(2 ^ 63)≤k∧k < 2 ^ 63∧xs.length * k.toNat≤sizeLine ∧
 ∀p,H p=none→Q (.ref p) (upd H p (.lst (List.replicate k.toNat xs).flatten))
theorem Qrv:OpR X (binaryOp .Mult) (QtW X.K):=by
 intro pins s σ H x y v u Q I rx ry h;obtain ⟨l,k,xs,rfl,rfl,hH,h1,h2,hz,q⟩:=h;cases rx;obtain ⟨t,rfl⟩:=ry;obtain ⟨z,its,n,r,e⟩:=hH.ok I;have hl:=r.length
 have hlen:its.toArray.size * k.toNat≤sizeLine:=by rw [zn,←hl]; exact hz
 have hcap:¬its.toArray.size * k.toNat > (2 ^ 63 - 1) / 8:=by
  have:(sizeLine:Nat)≤(2 ^ 63 - 1) / 8:=by decide
  omega
 have hfit:¬(!Builtin.List.listFitsIndex k)=true:=by
  rw [fitsIndex_both h1 h2];exact zg
 have hlong:¬Builtin.List.listTooLong (its.toArray.size * k.toNat)=true:=by
  rw [QgW hlen];exact zg
 have hnew:List.foldl (fun x1 x2=>x1++x2) #[] (List.replicate (if its.toArray.isEmpty=true then 0 else k.toNat) its.toArray)=(List.replicate k.toNat its).flatten.toArray:=by
  have f0:∀m:Nat,List.foldl (fun x1 x2=>x1++x2) #[] (List.replicate m its.toArray)=(List.replicate m its).flatten.toArray:=fun m=>by
   have:=foldl_rep its m []
   rw [zU] at this;exact this
  rw [f0]
  cases its with
  | nil=>simp
  | cons a r'=>rw [if_neg (by simp)]
 refine wpAny_binaryOp_repeat_ref (T:="list") (U:="int") (by decide) ⟨_,e,rfl⟩ (fun s'=>typeIs_int s' k t) noFill_list_mul F.fills_int_mul F.slot_int_rmul repeat_list F.slot_int_index.lookup
  (call_meets F.slot_int_rmul (typeIs_int s k t) F.entry_int_rmul (F.args_int_rmul_2 _ _) (int___rmul___int_list k t l its.toArray n)
   ⟨e,rfl,⟨_,e,rfl⟩,call_meets F.slot_list_mul ⟨_,e,rfl⟩ F.entry_list_mul (F.args_list_mul_2 _ _) (AutoListH.list___mul___list_int_3 l its.toArray n k t hfit hcap hlong) ⟨e,?_⟩⟩)
 rw [hnew];exact ⟨.ref _,_,I.lnew (t':=s.toks) (r.rep k.toNat) (by rw [len_rep,Nat.mul_comm]; exact hz),rfl,q _ I.fresh⟩
def QaF:D→D→Option D
 | .int i,.int j=>some (.int (i+j))
 | .int i,.bl k=>some (.int (i+b2i k))
 | .str a,.str b=>if a.length+b.length≤1000000 then some (.str (a++b)) else none
 | .lst a,.lst b=>if a.length+b.length≤1000000 then some (.lst (a++b)) else none
 | .tup a,.tup b=>if a.length+b.length≤1000000∧a≠[] then some (.tup (a++b)) else none
 | _,_=>none
instance (a:List D):Decidable (a≠[]):=match a with
 | []=>isFalse fun h=>h rfl
 | _::_=>isTrue fun h=>nomatch h
theorem QaM:OpD X (binaryOp .Add) QaF:=by
 intro pins s σ H x y v u Q I rx ry h;obtain ⟨O,F,as,dx,dy,d,r,hx,hy,e,k⟩:=h
 cases dx with
 | int i =>
  cases (hx.rp rfl).unI
  cases dy with
  | int j =>
   cases (hy.rp rfl).unI;cases e;exact Qsz pins s σ H _ _ v u Q I rx ry ⟨i,j,rfl,rfl,Qbt r k rfl Rp.int⟩
  | bl j =>
   cases (hy.rp rfl).unB;cases e;exact QnR pins s σ H _ _ v u Q I rx ry ⟨i,j,rfl,rfl,Qbt r k rfl Rp.int⟩
  | _=>cases e
 | str a =>
  cases (hx.rp rfl).unS
  cases dy with
  | str b =>
   cases (hy.rp rfl).unS;simp only [QaF] at e;split at e
   ·rename_i hz;cases e;refine QmN pins s σ H _ _ v u Q I rx ry ⟨S a,S b,rfl,rfl,by rw [Qa6,Qa6]; exact QdH hz,?_⟩;rw [QpQ];exact Qbt r k rfl Rp.str
   ·cases e
  | _=>cases e
 | lst a =>
  obtain ⟨p,xs,rfl,h1,h2⟩:=hx.list r.fh
  cases dy with
  | lst b =>
   obtain ⟨p',ys,rfl,h3,h4⟩:=hy.list r.fh;simp only [QaF] at e;split at e
   ·rename_i hz;cases e;exact QqJ pins s σ H _ _ v u Q I rx ry ⟨p,p',xs,ys,rfl,rfl,h1,h3,by rw [h2.length,h4.length]; exact QdH hz,fun q hq=>QmK r k hq (Rps.append h4 h2)⟩
   ·cases e
  | _=>cases e
 | tup a =>
  obtain ⟨p,xs,rfl,h1,h2⟩:=(hx.rp rfl).unT
  cases dy with
  | tup b =>
   obtain ⟨p',ys,rfl,h3,h4⟩:=(hy.rp rfl).unT;simp only [QaF] at e;split at e
   ·rename_i hz;cases e
    have hxs:xs≠[]:=fun z=>hz.2 (List.eq_nil_of_length_eq_zero (by rw [←h2.length,z]; rfl))
    refine QrY pins s σ H _ _ v u Q I rx ry ⟨p,p',xs,ys,rfl,rfl,Same.seqT r.fh h1,Same.seqT r.fh h3,hxs,by rw [h2.length,h4.length]; exact QdH hz.1,fun z=>?_,fun _ q hq=>Qqo r k hq (Rps.append h4 h2)⟩;have hb:b = []:=List.eq_nil_of_length_eq_zero (by rw [←h4.length,z]; rfl);subst hb;rw [zx] at k;exact Qbt r k rfl (hx.rp rfl)
   ·cases e
  | _=>cases e
 | _=>cases e
def gI (C:Int→Int→Bool) (f:Int→Int→Int):D→D→Option D
 | .int i,.int j=>if C i j=true then some (.int (f i j)) else none
 | _,_=>none
theorem QoS {f:Value→Value→Sem Value}{Cp:Int→Int→Prop}{g:Int→Int→Int}{C:Int→Int→Bool} (h:OpR X f (rI Cp fun i j=>.int (g i j))) (hc:∀i j,C i j=true→Cp i j):OpD X f (gI C g):=by
 intro pins s σ H x y v u Q I rx ry h';obtain ⟨O,F,as,dx,dy,d,r,hx,hy,e,k⟩:=h'
 cases dx with
 | int i =>
  cases (hx.rp rfl).unI
  cases dy with
  | int j =>
   cases (hy.rp rfl).unI;simp only [gI] at e;split at e
   ·rename_i hC;cases e;exact h pins s σ H _ _ v u Q I rx ry ⟨i,j,rfl,rfl,hc i j hC,Qbt r k rfl Rp.int⟩
   ·cases e
  | _=>cases e
 | _=>cases e
def QiP:D→D→Option D:=gI (fun _ _=>true) fun i j=>i - j
theorem Qoc:OpD X (binaryOp .Sub) QiP:=by
 intro pins s σ H x y v u Q I rx ry h';obtain ⟨O,F,as,dx,dy,d,r,hx,hy,e,k⟩:=h'
 cases dx with
 | int i =>
  cases (hx.rp rfl).unI
  cases dy with
  | int j =>
   cases (hy.rp rfl).unI;cases e;exact Qs8 pins s σ H _ _ v u Q I rx ry ⟨i,j,rfl,rfl,Qbt r k rfl Rp.int⟩
  | _=>cases e
 | _=>cases e
def Qfk (i:Int):Bool:=decide (-(2 ^ 64) < i)&&decide (i < 2 ^ 64)
theorem Qf3 {i:Int} (h:Qfk i=true):-(2 ^ 64) < i∧i < 2 ^ 64:=by
 unfold Qfk at h;rw [zf,decide_eq_true_eq,decide_eq_true_eq] at h;exact h
def Qfq:D→D→Option D
 | .int i,.int j=>if (Qfk i || Qfk j)=true then some (.int (i * j)) else none
 | .str l,.int n=>if -1000000 < n∧n < 1000000∧l.length * n.toNat≤16777216 then some (.str (List.replicate n.toNat l).flatten) else none
 | .lst l,.int n=>if -1000000 < n∧n < 1000000∧l.length * n.toNat≤1000000 then some (.lst (List.replicate n.toNat l).flatten) else none
 | _,_=>none
theorem QnI:OpD X (binaryOp .Mult) Qfq:=by
 intro pins s σ H x y v u Q I rx ry h;obtain ⟨O,F,as,dx,dy,d,r,hx,hy,e,k⟩:=h
 cases dx with
 | int i =>
  cases (hx.rp rfl).unI
  cases dy with
  | int j =>
   cases (hy.rp rfl).unI;simp only [Qfq] at e;split at e
   ·rename_i hz;cases e;refine QsH pins s σ H _ _ v u Q I rx ry ⟨i,j,rfl,rfl,?_,Qbt r k rfl Rp.int⟩;rw [Bool.or_eq_true] at hz
    rcases hz with z | z
    ·exact .inl (Qf3 z)
    ·exact .inr (Qf3 z)
   ·cases e
  | _=>cases e
 | str l =>
  cases (hx.rp rfl).unS
  cases dy with
  | int n =>
   cases (hy.rp rfl).unI;simp only [Qfq] at e;split at e
   ·rename_i hz;cases e;exact Qmu pins s σ H _ _ v u Q I rx ry ⟨l,n,rfl,rfl,hz.1,hz.2.1,hz.2.2,Qbt r k rfl Rp.str⟩
   ·cases e
  | _=>cases e
 | lst l =>
  obtain ⟨p,xs,rfl,h1,h2⟩:=hx.list r.fh
  cases dy with
  | int n =>
   cases (hy.rp rfl).unI;simp only [Qfq] at e;split at e
   ·rename_i hz;cases e;exact Qrv pins s σ H _ _ v u Q I rx ry ⟨p,n,xs,rfl,rfl,h1,by omega,by omega,by rw [h2.length]; exact QdH hz.2.2,fun q hq=>QmK r k hq (h2.rep _)⟩
   ·cases e
  | _=>cases e
 | _=>cases e
def Qbh:D→D→Option D:=gI (fun _ j=>decide (0 < j)) fun i j=>i % j
theorem QbU:OpD X (binaryOp .Mod) Qbh:=QoS Qsi fun _ _ h=>jf h
def QfL:D→D→Option D:=gI (fun _ j=>decide (0 < j)&&decide (j < 1073741824)) fun i j=>i / j
theorem QlT:OpD X (binaryOp .FloorDiv) QfL:=QoS Qq3 fun i j h=>by
 rw [zf,decide_eq_true_eq,decide_eq_true_eq] at h;exact h
def Qgm:D→D→Option D:=gI (fun i j=>decide (0≤j)&&(decide (j≤1000000)&&Qfk i)) fun i j=>i ^ j.toNat
theorem Qk3:OpD X (binaryOp .Pow) Qgm:=QoS Qtt fun i j h=>by
 rw [zf,zf,decide_eq_true_eq,decide_eq_true_eq] at h
 have:=Qf3 h.2.2
 exact ⟨h.1,h.2.1,by omega⟩
def mUn (g:D→Option D) (m:M D):M D:=fun ρ O=>(m ρ O).bind fun d O1=>match g (QaU O1 d) with
 | some y=>.ok y O1
 | none=>.no
def gCI (f:Int→Int→Bool):D→D→Option D
 | .int i,.int j=>some (.bl (f i j))
 | _,_=>none
theorem Qqv {f:Value→Value→Sem Value}{g:Int→Int→Bool} (h:OpR X f (rI0 fun i j=>.bl (g i j))):OpD X f (gCI g):=by
 intro pins s σ H x y v u Q I rx ry h';obtain ⟨O,F,as,dx,dy,d,r,hx,hy,e,k⟩:=h'
 cases dx with
 | int i =>
  cases (hx.rp rfl).unI
  cases dy with
  | int j =>
   cases (hy.rp rfl).unI;cases e;exact h pins s σ H _ _ v u Q I rx ry ⟨i,j,rfl,rfl,Qbt r k rfl Rp.bl⟩
  | _=>cases e
 | _=>cases e
def gLt:D→D→Option D:=gCI fun i j=>decide (i < j)
def gGt:D→D→Option D:=gCI fun i j=>decide (j < i)
def gGe:D→D→Option D:=gCI fun i j=>decide (j≤i)
def gLe:D→D→Option D
 | .int i,.int j=>some (.bl (decide (i≤j)))
 | .str a,.str b=>some (.bl (!decide (b < a)))
 | _,_=>none
theorem Qqz:OpD X (compareOp .LtE) gLe:=by
 intro pins s σ H x y v u Q I rx ry h';obtain ⟨O,F,as,dx,dy,d,r,hx,hy,e,k⟩:=h'
 cases dx with
 | int i =>
  cases (hx.rp rfl).unI
  cases dy with
  | int j =>
   cases (hy.rp rfl).unI;cases e;exact Qt2 pins s σ H _ _ v u Q I rx ry ⟨i,j,rfl,rfl,Qbt r k rfl Rp.bl⟩
  | _=>cases e
 | str a =>
  cases (hx.rp rfl).unS
  cases dy with
  | str b =>
   cases (hy.rp rfl).unS;cases e;refine QoI pins s σ H _ _ v u Q I rx ry ⟨S a,S b,rfl,rfl,?_⟩;rw [Qdq,Qdq];exact Qbt r k rfl Rp.bl
  | _=>cases e
 | _=>cases e
theorem QmV:OpD X (compareOp .Lt) gLt:=Qqv Quh
theorem Qqy:OpD X (compareOp .Gt) gGt:=Qqv Quy
mutual
def toP:D→PyData
 | .non=>.none
 | .bl b=>.bool b
 | .int i=>.int i
 | .str l=>.str (S l)
 | .lst ds=>.list (QhE ds)
 | .tup ds=>.tuple (QhE ds)
 | .dic _ _=>.none
 | .ob _=>.none
def QhE:List D→List PyData
 | []=>[]
 | d::ds=>toP d::QhE ds
end
mutual
def QcI:D→Bool
 | .lst ds=>Qev ds
 | .tup ds=>Qev ds
 | .dic _ _=>false
 | .ob _=>false
 | _=>true
def Qev:List D→Bool
 | []=>true
 | d::ds=>QcI d&&Qev ds
end
section
variable {K:Frag}{F:Hp}{as:List Addr}
mutual
theorem Rp.rep:∀(d:D) {v:V},QcI d=true→Rp K F as v d→Rep K F v (toP d)
 | .non,v,_,h=>by rw [toP,Rep]; exact h.unN
 | .bl b,v,_,h=>by rw [toP,Rep]; exact h.unB
 | .int i,v,_,h=>by rw [toP,Rep]; exact h.unI
 | .str x,v,_,h=>by rw [toP,Rep]; exact h.unS
 | .lst ds,v,hp,h=>by
  obtain ⟨a,xs,h1,h2,h3⟩:=h.unL;rw [toP,Rep];rw [QcI] at hp;exact ⟨a,xs,h1,h2.sq,Rps.rep' ds hp h3⟩
 | .tup ds,v,hp,h=>by
  obtain ⟨a,xs,h1,h2,h3⟩:=h.unT;rw [toP,Rep];rw [QcI] at hp;exact ⟨a,xs,h1,h2,Rps.rep' ds hp h3⟩
 | .dic _ _,v,hp,h=>by rw [QcI] at hp; cases hp
 | .ob _,v,hp,h=>by rw [QcI] at hp; cases hp
theorem Rps.rep':∀(ds:List D) {xs:List V},Qev ds=true→Rps K F as xs ds→QaE K F xs (QhE ds)
 | [],xs,_,h=>by rw [h.un0,QhE]; exact QaE.nil
 | d::ds,xs,hp,h=>by
  obtain ⟨x,r,rfl,h2,h3⟩:=h.un;rw [Qev,zf] at hp;rw [QhE];exact QaE.cons (Rp.rep d hp.1 h2) (Rps.rep' ds hp.2 h3)
end
theorem Lk.rep {H:Hp}{d:D}{v:V} (h:Lk K H F as v d) (fh:Same F H) (hp:QcI d=true):Rep K H v (toP d):=by
 rcases h with h | ⟨a,xs,ds,rfl,rfl,h1,h2⟩
 ·exact Rep.mono fh _ (Rp.rep d hp h)
 ·rw [QcI] at hp;rw [toP,Rep];exact ⟨a,xs,rfl,.inl (.inl h1),QaE.mono fh _ (Rps.rep' ds hp h2)⟩
end
def okE (d:D):Bool:=QcI d&&okD (toP d)
def QgY (a b:D):Bool:=PyData.eqv (toP a) (toP b)
def gEq:D→D→Option D
 | .int i,.int j=>some (.bl (decide (i=j)))
 | .str a,.str b=>some (.bl (decide (a=b)))
 | .bl a,.bl b=>some (.bl (decide (a=b)))
 | a,b=>if (okE a&&okE b)=true then some (.bl (QgY a b)) else none
def gNe:D→D→Option D
 | .int i,.int j=>some (.bl (!decide (i=j)))
 | .str a,.str b=>some (.bl (!decide (a=b)))
 | .bl a,.bl b=>some (.bl (!decide (a=b)))
 | a,b=>if (okE a&&okE b)=true then some (.bl (!QgY a b)) else none
theorem QmB (a b:List Nat):decide (V.str (S a)=V.str (S b))=decide (a=b):=by
 by_cases h:a=b
 ·subst h; simp
 ·rw [zp h,zp];intro z;exact h (Qt6 (V.str.inj z))
theorem Qne (a b:Int):decide (V.int a=V.int b)=decide (a=b):=by
 by_cases h:a=b
 ·subst h; simp
 ·rw [zp h,zp];intro z;exact h (V.int.inj z)
theorem QmC (a b:Bool):decide (V.bl a=V.bl b)=decide (a=b):=by
 cases a <;> cases b <;> rfl
theorem QqT {a b d:D} (h:gEq a b=some d):(∃i j,a = .int i∧b = .int j∧d = .bl (decide (i=j)))∨(∃i j,a = .str i∧b = .str j∧d = .bl (decide (i=j)))∨(∃i j,a = .bl i∧b = .bl j∧d = .bl (decide (i=j))) ∨
  (okE a=true∧okE b=true∧d = .bl (QgY a b)):=by
 unfold gEq at h;split at h
 ·cases h; exact .inl ⟨_,_,rfl,rfl,rfl⟩
 ·cases h; exact .inr (.inl ⟨_,_,rfl,rfl,rfl⟩)
 ·cases h; exact .inr (.inr (.inl ⟨_,_,rfl,rfl,rfl⟩))
 ·split at h
  ·rename_i hk;rw [zf] at hk;cases h;exact .inr (.inr (.inr ⟨hk.1,hk.2,rfl⟩))
  ·cases h
theorem QqM {a b d:D} (h:gNe a b=some d):(∃i j,a = .int i∧b = .int j∧d = .bl (!decide (i=j)))∨(∃i j,a = .str i∧b = .str j∧d = .bl (!decide (i=j)))∨(∃i j,a = .bl i∧b = .bl j∧d = .bl (!decide (i=j))) ∨
  (okE a=true∧okE b=true∧d = .bl (!QgY a b)):=by
 unfold gNe at h;split at h
 ·cases h; exact .inl ⟨_,_,rfl,rfl,rfl⟩
 ·cases h; exact .inr (.inl ⟨_,_,rfl,rfl,rfl⟩)
 ·cases h; exact .inr (.inr (.inl ⟨_,_,rfl,rfl,rfl⟩))
 ·split at h
  ·rename_i hk;rw [zf] at hk;cases h;exact .inr (.inr (.inr ⟨hk.1,hk.2,rfl⟩))
  ·cases h
theorem QaT {k:Nat} (hr:QaJ k X.A):OpD X (compareOp .Eq) gEq:=by
 intro pins s σ H x y v u Q I rx ry h';obtain ⟨O,F,as,dx,dy,d,r,hx,hy,e,k⟩:=h'
 rcases QqT e with ⟨i,j,rfl,rfl,rfl⟩ | ⟨i,j,rfl,rfl,rfl⟩ | ⟨i,j,rfl,rfl,rfl⟩ | ⟨h1,h2,rfl⟩
 ·cases (hx.rp rfl).unI;cases (hy.rp rfl).unI;refine Qid pins s σ H _ _ v u Q I rx ry ⟨rfl,?_⟩;rw [Qne];exact Qbt r k rfl Rp.bl
 ·cases (hx.rp rfl).unS;cases (hy.rp rfl).unS;refine Qid pins s σ H _ _ v u Q I rx ry ⟨rfl,?_⟩;rw [QmB];exact Qbt r k rfl Rp.bl
 ·cases (hx.rp rfl).unB;cases (hy.rp rfl).unB;refine Qid pins s σ H _ _ v u Q I rx ry ⟨rfl,?_⟩;rw [QmC];exact Qbt r k rfl Rp.bl
 ·unfold okE at h1 h2;rw [zf] at h1 h2;exact Qsr hr pins s σ H _ _ v u Q I rx ry ⟨toP dx,toP dy,hx.rep r.fh h1.1,hy.rep r.fh h2.1,h1.2,h2.2,Qbt r k rfl Rp.bl⟩
theorem Qm2 {k:Nat} (hr:QaJ k X.A):OpD X (compareOp .NotEq) gNe:=by
 intro pins s σ H x y v u Q I rx ry h';obtain ⟨O,F,as,dx,dy,d,r,hx,hy,e,k⟩:=h'
 rcases QqM e with ⟨i,j,rfl,rfl,rfl⟩ | ⟨i,j,rfl,rfl,rfl⟩ | ⟨i,j,rfl,rfl,rfl⟩ | ⟨h1,h2,rfl⟩
 ·cases (hx.rp rfl).unI;cases (hy.rp rfl).unI;refine Qmy pins s σ H _ _ v u Q I rx ry ⟨rfl,?_⟩;rw [Qne];exact Qbt r k rfl Rp.bl
 ·cases (hx.rp rfl).unS;cases (hy.rp rfl).unS;refine Qmy pins s σ H _ _ v u Q I rx ry ⟨rfl,?_⟩;rw [QmB];exact Qbt r k rfl Rp.bl
 ·cases (hx.rp rfl).unB;cases (hy.rp rfl).unB;refine Qmy pins s σ H _ _ v u Q I rx ry ⟨rfl,?_⟩;rw [QmC];exact Qbt r k rfl Rp.bl
 ·unfold okE at h1 h2;rw [zf] at h1 h2;exact Qtw hr pins s σ H _ _ v u Q I rx ry ⟨toP dx,toP dy,hx.rep r.fh h1.1,hy.rep r.fh h2.1,h1.2,h2.2,Qbt r k rfl Rp.bl⟩
def toV:D→V
 | .bl b=>.bl b
 | .int i=>.int i
 | .str l=>.str (S l)
 | _=>.non
def Qff:D→Bool
 | .non=>true
 | .bl _=>true
 | .int _=>true
 | .str _=>true
 | _=>false
def eqF (x y:D):Bool:=eqV (toV x) (toV y)
theorem Rp.flat {K:Frag}{F:Hp}{as:List Addr}{v:V}{d:D} (h:Rp K F as v d) (hf:Qff d=true):v=toV d∧QeE v=true:=by
 cases d with
 | non=>rw [h.unN]; exact ⟨rfl,rfl⟩
 | bl b=>rw [h.unB]; exact ⟨rfl,rfl⟩
 | int b=>rw [h.unI]; exact ⟨rfl,rfl⟩
 | str b=>rw [h.unS]; exact ⟨rfl,rfl⟩
 | _=>cases hf
theorem Rps.flat {K:Frag}{F:Hp}{as:List Addr}:∀{ds:List D}{xs:List V},Rps K F as xs ds→ds.all Qff=true→xs=ds.map toV∧xs.all QeE=true
 | [],xs,h,_=>by rw [h.un0]; exact ⟨rfl,rfl⟩
 | d::ds,xs,h,hf=>by
  obtain ⟨x,r,rfl,h2,h3⟩:=h.un;rw [List.all_cons,zf] at hf;obtain ⟨e1,e2⟩:=h2.flat hf.1;obtain ⟨e3,e4⟩:=Rps.flat h3 hf.2;exact ⟨by rw [ze,←e1,←e3],by rw [List.all_cons,e2,e4]; rfl⟩
def gIn (neg:Bool):D→D→Option D
 | .str [c],.str l=>some (.bl (neg ^^ decide (c∈l)))
 | x,.lst ds=>if (Qff x&&ds.all Qff)=true then some (.bl (neg ^^ ds.any fun y=>eqF y x)) else none
 | x,.tup ds=>if (Qff x&&ds.all Qff)=true then some (.bl (neg ^^ ds.any fun y=>eqF y x)) else none
 | _,_=>none
theorem QqQ {neg:Bool}{a b d:D} (h:gIn neg a b=some d):(∃c l,a = .str [c]∧b = .str l∧d = .bl (neg ^^ decide (c∈l)))∨(∃ds,(b = .lst ds∨b = .tup ds)∧Qff a=true∧ds.all Qff=true∧d = .bl (neg ^^ ds.any fun y=>eqF y a)):=by
 unfold gIn at h;split at h
 ·cases h; exact .inl ⟨_,_,rfl,rfl,rfl⟩
 ·split at h
  ·rename_i hk;rw [zf] at hk;cases h;exact .inr ⟨_,.inl rfl,hk.1,hk.2,rfl⟩
  ·cases h
 ·split at h
  ·rename_i hk;rw [zf] at hk;cases h;exact .inr ⟨_,.inr rfl,hk.1,hk.2,rfl⟩
  ·cases h
 ·cases h
theorem Qri {x:D}{ds:List D}:inV (toV x) (ds.map toV)=ds.any fun y=>eqF y x:=by
 unfold inV;rw [List.any_map];rfl
theorem QpW {K:Frag}{mg:Str→Option Value}{H F:Hp}{as:List Addr}{O:Qab}{v:V}{b:D}{ds:List D} (r:RlO K mg O H F as) (hy:Lk K H F as v b) (hb:b = .lst ds∨b = .tup ds):∃p xs,v = .ref p∧(SqL K H p xs∨SqT K H p xs)∧Rps K F as xs ds:=by
 rcases hb with rfl | rfl
 ·obtain ⟨p,xs,e,h1,h2⟩:=hy.list r.fh;exact ⟨p,xs,e,.inl h1.sq,h2⟩
 ·obtain ⟨p,xs,e,h1,h2⟩:=(hy.rp rfl).unT;exact ⟨p,xs,e,.inr (Same.seqT r.fh h1),h2⟩
theorem QnS {d:D} (h:Qff d=true):Qet d=true:=by cases d <;> first | rfl | cases h
theorem Qml:OpD X (compareOp .In) (gIn false):=by
 intro pins s σ H x y v u Q I rx ry h';obtain ⟨O,F,as,dx,dy,d,r,hx,hy,e,k⟩:=h'
 rcases QqQ e with ⟨c,l,rfl,rfl,rfl⟩ | ⟨ds,hb,h1,h2,rfl⟩
 ·cases (hx.rp rfl).unS;cases (hy.rp rfl).unS;refine QoE pins s σ H _ _ v u Q I rx ry ⟨c,l,rfl,rfl,?_⟩;rw [Bool.false_xor] at k;exact Qbt r k rfl Rp.bl
 ·obtain ⟨p,xs,rfl,h3,h4⟩:=QpW r hy hb;obtain ⟨e1,e2⟩:=(hx.rp (QnS h1)).flat h1;obtain ⟨e3,e4⟩:=h4.flat h2;refine Qow pins s σ H _ _ v u Q I rx ry ⟨p,xs,rfl,h3,e2,e4,?_⟩;rw [if_neg zg,e1,e3,Qri];rw [Bool.false_xor] at k;exact Qbt r k rfl Rp.bl
def gIx:D→D→Option D
 | .lst ds,.int i=>atI ds i
 | .tup ds,.int i=>atI ds i
 | .str l,.int i=>if l.length≤1000000 then (atI l i).map fun c=>.str [c] else none
 | _,_=>none
theorem Rps.atI {K:Frag}{F:Hp}{as:List Addr}{xs:List V}{ds:List D}{i:Int}{d:D} (h:Rps K F as xs ds) (e:atI ds i=some d):∃v,L2.atI xs i=some v∧Rp K F as v d:=by
 unfold L2.atI at e ⊢;rw [h.length]
 cases q:ixN ds.length i with
 | none=>rw [q] at e; cases e
 | some j =>
  rw [q] at e;exact h.get' e
def rDv (K:Frag) (mg:Str→Option Value) (g:D→D→Option D):R2:=fun x y H Q=>∃O F as dx dy d,RlO K mg O H F as∧Lk K H F as x dx∧Lk K H F as y dy∧g dx dy=some d∧∀v',Rp K F as v' d→Q v' H
theorem Qva:IxR X (rDv X.K X.mg gIx):=by
 intro value slice pins s σ H x y v u Q I rx ry h' hsb;obtain ⟨O,F,as,dx,dy,d,r,hx,hy,e,k⟩:=h'
 cases dx with
 | lst ds =>
  obtain ⟨p,xs,rfl,h1,h2⟩:=hx.list r.fh
  cases dy with
  | int i =>
   cases (hy.rp rfl).unI;obtain ⟨z,e1,e2⟩:=h2.atI e;exact QrR value slice pins s σ H _ _ v u Q I rx ry ⟨p,xs,i,z,rfl,rfl,h1.sq,e1,k z e2⟩ hsb
  | _=>cases e
 | tup ds =>
  obtain ⟨p,xs,rfl,h1,h2⟩:=(hx.rp rfl).unT
  cases dy with
  | int i =>
   cases (hy.rp rfl).unI;obtain ⟨z,e1,e2⟩:=h2.atI e;exact QsP value slice pins s σ H _ _ v u Q I rx ry ⟨p,xs,i,z,rfl,rfl,Same.seqT r.fh h1,e1,k z e2⟩ hsb
  | _=>cases e
 | str l =>
  cases (hx.rp rfl).unS
  cases dy with
  | int i =>
   cases (hy.rp rfl).unI;simp only [gIx] at e;split at e
   ·rename_i hz
    cases q:L2.atI l i with
    | none=>rw [q] at e; cases e
    | some c =>
     rw [q] at e;cases e;exact Qsm value slice pins s σ H _ _ v u Q I rx ry ⟨S l,i,c,rfl,rfl,by rw [Qa6]; exact QdH hz,by rw [Qdq]; exact q,k _ Rp.str⟩ hsb
   ·cases e
  | _=>cases e
 | _=>cases e
theorem Qa7 {md:List Md}{P:Pt}{a b:Expr}{pos:Pos}{ma mb:M D} (ha:SE X md P a ma) (hb:SE X md P b mb) (hs:Ql9 b:=by intro _ _; rfl):VE X md P (.Subscript a b pos) (Qae gIx ma mb):=(Quj Qva ha hb hs).imp fun σ H Q h=>by
 obtain ⟨ρ,O,F,as,d,O',r,sl,e,k⟩:=h;obtain ⟨x,O1,e1,e⟩:=Res.bind_ok e;obtain ⟨y,O2,e2,e⟩:=Res.bind_ok e;split at e
 ·rename_i d' hg;cases e;refine ⟨ρ,_,F,as,_,_,r,sl,e1,fun v H1 F1 as1 g1 r1 hv=>?_⟩;refine ⟨ρ,_,F1,as1,_,_,r1,sl.step g1,e2,fun u H2 F2 as2 g2 r2 hu=>?_⟩;exact ⟨_,F2,as2,_,_,_,r2,Sv.lk (Sv.gr hv g2) r2,Sv.lk hu r2,hg,fun v' hw=>k v' H2 F2 as2 (g1.trans g2) r2 hw⟩
 ·cases e
def tMO (K:Frag) (mg:Str→Option Value) (md:List Md) (P:Pt) (m:M (Option Int)):TO:=fun σ H Q =>
 ∃ρ O F as b O',RlO K mg O H F as∧SlO K md P ρ σ H F as∧m ρ O = .ok b O'∧∀H' F' as',Gr H F as H' F' as'→RlO K mg O' H' F' as'→Q b H'
def VO (X:Cx) (md:List Md) (P:Pt) (e:Option Expr) (m:M (Option Int)):Prop:=PO X e (tMO X.K X.mg md P m)
theorem PO.imp {e:Option Expr}{t t':TO} (h:PO X e t) (k:∀σ H Q,t' σ H Q→t σ H Q):PO X e t':=fun pins s σ H Q I q=>h pins s σ H Q I (k σ H Q q)
def moN:M (Option Int):=fun _ O=>.ok none O
def moS (m:M D):M (Option Int):=fun ρ O=>(m ρ O).bind fun d O1=>match d with
 | .int i=>.ok (some i) O1
 | _=>.no
theorem QdS {md:List Md}{P:Pt}:VO X md P none moN:=Qrl.imp fun σ H Q q=>by
 obtain ⟨ρ,O,F,as,d,O',r,s,e,k⟩:=q;cases e;exact k H F as Gr.refl r
theorem Qcn {md:List Md}{P:Pt}{e:Expr}{m:M D} (h:VE X md P e m):VO X md P (some e) (moS m):=(Qrq h).imp fun σ H Q q=>by
 obtain ⟨ρ,O,F,as,d,O',r,s,e,k⟩:=q;obtain ⟨x,O1,e1,e⟩:=Res.bind_ok e
 cases x with
 | int i =>
  cases e;exact ⟨ρ,_,F,as,_,_,r,s,e1,fun v H1 F1 as1 g1 r1 hv=>⟨i,Rp.unI hv,k H1 F1 as1 g1 r1⟩⟩
 | _=>cases e
def gSl (d:D) (lo hi:Option Int):Option D:=match d with
 | .lst ds=>some (.lst (QbM ds lo hi))
 | .tup ds=>some (.tup (QbM ds lo hi))
 | .str l=>if l.length≤16777216 then some (.str (QbM l lo hi)) else none
 | _=>none
def QuP (K:Frag) (mg:Str→Option Value):V→Option Int→Option Int→Hp→VK→Prop:=fun x lo hi H Q=>∃O F as dx d,RlO K mg O H F as∧Lk K H F as x dx∧gSl dx lo hi=some d ∧
 ∀v' H' F',Gr H F as H' F' as→RlO K mg O H' F' as→Ow K (fun a=>H a=none) H' F' as v' d→Q v' H'
theorem Rps.cut {K:Frag}{F:Hp}{as:List Addr}{xs:List V}{ds:List D} (h:Rps K F as xs ds) (lo hi:Option Int):Rps K F as (QgJ xs lo hi) (QbM ds lo hi):=by
 unfold QgJ QbM;rw [h.length];exact (h.drop _).take _
theorem QvA:SlR X (QuP X.K X.mg):=by
 intro pins s σ H x v vl vu lo hi sl Q I rx hs pl pu h;obtain ⟨O,F,as,dx,d,r,hx,e,k⟩:=h
 cases dx with
 | lst ds =>
  obtain ⟨p,xs,rfl,h1,h2⟩:=hx.list r.fh;cases e;exact Qrh pins s σ H _ v vl vu lo hi sl Q I rx hs pl pu ⟨p,xs,rfl,h1.sq,fun q hq=>QmK r k hq (h2.cut lo hi)⟩
 | tup ds =>
  obtain ⟨p,xs,rfl,h1,h2⟩:=(hx.rp rfl).unT;cases e;refine QqS X.K rfl pins s σ H _ v vl vu lo hi sl Q I rx hs pl pu ⟨p,xs,rfl,Same.seqT r.fh h1,fun z=>?_,fun _ q hq=>Qqo r k hq (h2.cut lo hi)⟩
  have:QbM ds lo hi=ds:=by
   unfold QbM;rw [←h2.length,z.1,z.2,List.drop_zero,Nat.sub_zero,h2.length,List.take_length]
  rw [this] at k;exact Qbt r k rfl (hx.rp rfl)
 | str l =>
  cases (hx.rp rfl).unS;simp only [gSl] at e;split at e
  ·rename_i hz;cases e;exact Qss pins s σ H _ v vl vu lo hi sl Q I rx hs pl pu ⟨l,rfl,zt hz (Nat.le_of_eq sizeLine_eq.symm),Qbt r k rfl Rp.str⟩
  ·cases e
 | _=>cases e
def mSl (m:M D) (lo hi:M (Option Int)):M D:=fun ρ O=>(m ρ O).bind fun d O1=>(lo ρ O1).bind fun l O2=>(hi ρ O2).bind fun h O3=>match gSl (QaU O3 d) l h with
 | some y=>.ok y O3
 | none=>.no
end
section
variable {X:Cx}{md:List Md}{P:Pt}{R:RR}
theorem Qcy {e:Expr}{lo hi:Option Expr}{p2 pos:Pos}{m:M D}{ml mh:M (Option Int)} (he:SE X md P e m) (hl:VO X md P lo ml) (hh:VO X md P hi mh):OE X md P (.Subscript e (.Slice lo hi none p2) pos) (mSl m ml mh):=(QpP QvA he hl hh).imp fun σ H Q q=>by
 obtain ⟨ρ,O,F,as,d,O',r,s,e,k⟩:=q;obtain ⟨x,O1,e1,e⟩:=Res.bind_ok e;obtain ⟨l,O2,e2,e⟩:=Res.bind_ok e;obtain ⟨h,O3,e3,e⟩:=Res.bind_ok e;split at e
 ·rename_i y hg;cases e;refine ⟨ρ,_,F,as,_,_,r,s,e1,fun v H1 F1 as1 g1 r1 hv=>?_⟩;refine ⟨ρ,_,F1,as1,_,_,r1,s.step g1,e2,fun H2 F2 as2 g2 r2=>?_⟩;have g12:=g1.trans g2;refine ⟨ρ,_,F2,as2,_,_,r2,s.step g12,e3,fun H3 F3 as3 g3 r3=>?_⟩;have g13:=g12.trans g3;exact ⟨_,F3,as3,_,_,r3,Sv.lk (Sv.gr (Sv.gr hv g2) g3) r3,hg,fun v' H' F' g' r' hw=>k v' H' F' as3 (g13.trans g') r' (Qdn _ _ _ _ _ _ _ (fun a ha=>g13.dm a ha) hw)⟩
 ·cases e
def Lks (K:Frag) (H F:Hp) (as:List Addr):List V→List D→Prop
 | [],[]=>True
 | v::vs,d::ds=>Lk K H F as v d∧Lks K H F as vs ds
 | _,_=>False
theorem QbG.lks {K:Frag}{mg:Str→Option Value}{O:Qab}{H F:Hp}{as:List Addr} (r:RlO K mg O H F as):∀{ms:List Md}{vs:List V}{ds:List D},QbG K H F as ms vs ds→Lks K H F as vs (ds.map (QaU O))
 | [],[],[],_=>trivial
 | m::ms,v::vs,d::ds,h=>by
  refine ⟨?_,QbG.lks r h.2⟩
  have h1:Sv K H F as v d:=by
   cases m with
   | v=>exact .inl h.1
   | s=>exact h.1
   | o=>exact h.1
  exact h1.lk r
 | [],[],_::_,h=>h.elim
 | [],_::_,[],h=>h.elim
 | [],_::_,_::_,h=>h.elim
 | _::_,[],[],h=>h.elim
 | _::_,[],_::_,h=>h.elim
 | _::_,_::_,[],h=>h.elim
def rC (K:Frag) (mg:Str→Option Value) (g:List D→Option D):List V→Hp→VK→Prop:=fun vs H Q=>∃O F as ds d,RlO K mg O H F as∧Lks K H F as vs ds∧g ds=some d ∧
 ∀v' H' F',Gr H F as H' F' as→RlO K mg O H' F' as→Ow K (fun a=>H a=none) H' F' as v' d→Q v' H'
abbrev QqB (X:Cx) (f:Value) (g:List D→Option D):Prop:=QiT X f (rC X.K X.mg g)
def Qbd (g:List D→Option D) (ma:M (List D)):M D:=fun ρ O=>(ma ρ O).bind fun ds O1=>match g (ds.map (QaU O1)) with
 | some d=>.ok d O1
 | none=>.no
theorem Qph {K:Frag}{mg:Str→Option Value}{g:List D→Option D}{ms:List Md}{ma:M (List D)}{σ:St}{H:Hp}{Q:VK} (q:tM K mg md P (rO K) (Qbd g ma) σ H Q):tCB (rC K mg g) (tMA K mg md P ms ma) σ H Q:=by
 obtain ⟨ρ,O,F,as,d,O',r,s,e,k⟩:=q;obtain ⟨ds,O1,e1,e⟩:=Res.bind_ok e;split at e
 ·rename_i y hg;cases e;refine ⟨ρ,_,F,as,_,_,r,s,e1,fun vs H1 F1 as1 g1 r1 hv=>?_⟩;exact ⟨_,F1,as1,_,_,r1,hv.lks r1,hg,fun v' H' F' g' r' hw=>k v' H' F' as1 (g1.trans g') r' (Qdn _ _ _ _ _ _ _ (fun a ha=>g1.dm a ha) hw)⟩
 ·cases e
theorem Qbs {x:Str}{p pos:Pos}{e:Expr}{es:List Expr}{id:String}{g:List D→Option D}{ms:List Md}{ma:M (List D)} (hc:QqB X (.builtin id) g) (hm:X.mg x=none) (ha:AE X md P ms (e::es) ma) (hv:bootBuiltins x=some (.builtin id):=by decide +kernel) (hg:Gl X x:=by rfl)
  (hn:x≠"__name__":=by decide) (hdb:(x == ("__debug__":Str))=false:=by decide) (he:starEach (e::es) X.env=(false,eval e X.env)::starEach es X.env:=by exact Qa1 rfl) (hpl:(backTo pos (starEach es X.env)).any (·.1)=false:=by exact Qa5 rfl) :
  OE X md P (.Call (.Name x p) (e::es) [] pos) (Qbd g ma):=(QgQ hc hg hm hv ha hn hdb he hpl).imp fun _ _ _ q=>Qph q
theorem Lks.one {K:Frag}{H F:Hp}{as:List Addr}{vs:List V}{d:D} (h:Lks K H F as vs [d]):∃v,vs = [v]∧Lk K H F as v d:=by
 cases vs with
 | nil=>exact h.elim
 | cons v vs =>
  cases vs with
  | nil=>exact ⟨v,rfl,h.1⟩
  | cons u us=>exact h.2.elim
def QbN:List D→Option D
 | [.str l]=>if l.length≤1000000 then some (.int l.length) else none
 | [.lst ds]=>some (.int ds.length)
 | [.tup ds]=>some (.int ds.length)
 | _=>none
theorem QbV:QqB X (.builtin "len") QbN:=by
 intro pins s σ H xs us Q I rs h;obtain ⟨O,F,as,ds,d,r,hvs,e,k⟩:=h;unfold QbN at e;split at e
 ·rename_i l;obtain ⟨v,rfl,hv⟩:=hvs.one;split at e
  ·rename_i hz;cases e;cases (hv.rp rfl).unS;refine call_len pins s σ H _ us Q I rs ⟨_,_,rfl,⟨by rw [Qa6]; exact QdH hz,rfl⟩,?_⟩;rw [Qa6];exact Qbt r k rfl Rp.int
  ·cases e
 ·rename_i l;obtain ⟨v,rfl,hv⟩:=hvs.one;cases e;obtain ⟨p,xs,rfl,h1,h2⟩:=hv.list r.fh;refine call_len pins s σ H _ us Q I rs ⟨_,_,rfl,.inl ⟨xs,h1.sq,rfl⟩,?_⟩;rw [h2.length];exact Qbt r k rfl Rp.int
 ·rename_i l;obtain ⟨v,rfl,hv⟩:=hvs.one;cases e;obtain ⟨p,xs,rfl,h1,h2⟩:=(hv.rp rfl).unT;refine call_len pins s σ H _ us Q I rs ⟨_,_,rfl,.inr ⟨xs,Same.seqT r.fh h1,rfl⟩,?_⟩;rw [h2.length];exact Qbt r k rfl Rp.int
 ·cases e
def Qvt:List D→Option D
 | [.int i,.int j]=>some (.int (if j > i then j else i))
 | _=>none
def Qvc:List D→Option D
 | [.int i,.int j]=>some (.int (if j < i then j else i))
 | _=>none
def QsI:List D→Option D
 | [.int i]=>some (.int i)
 | [.bl b]=>some (.int (if b then 1 else 0))
 | _=>none
def QtU:List D→Option D
 | [.lst ds]=>some (.lst ds)
 | [.tup ds]=>some (.lst ds)
 | _=>none
theorem QbT:bootBuiltins "len" = some (.builtin "len"):=by decide +kernel
theorem QsG:bootBuiltins "int" = some (.type "int"):=by decide +kernel
theorem QhU:bootBuiltins "str" = some (.type "str"):=by decide +kernel
theorem Qrp:bootBuiltins "bool" = some (.type "bool"):=by decide +kernel
theorem Qro:bootBuiltins "list" = some (.type "list"):=by decide +kernel
theorem QpZ:bootBuiltins "tuple" = some (.type "tuple"):=by decide +kernel
def tyD:D→Option String
 | .non=>some "NoneType"
 | .bl _=>some "bool"
 | .int _=>some "int"
 | .str _=>some "str"
 | .lst _=>some "list"
 | .tup _=>some "tuple"
 | .dic _ _=>some "dict"
 | .ob _=>none
def Qdm (t n:String):Bool:=t == n || (t == "bool" && n == "int")
def Qda (n:String) (m:M D):M D:=fun ρ O=>(m ρ O).bind fun d O1=>match tyD (QaU O1 d) with
 | some t=>.ok (.bl (Qdm t n)) O1
 | none=>.no
def Qp0:List String:=["str","int","bool","list","tuple","dict"]
theorem Qra (K:Frag):∀d t,tyD d=some t→∀n∈Qp0,PySem.W.kitOne K (.type t) (.type n)=some (Qdm t n):=by
 intro d t e n hn;simp only [Qp0,zj,List.not_mem_nil,or_false] at hn
 cases d <;> cases e <;> rcases hn with rfl | rfl | rfl | rfl | rfl | rfl <;> first | exact Qp9 K _ | kernel_rfl
theorem Lk.ty {K:Frag}{H F:Hp}{as:List Addr}{v:V}{d:D}{t:String} (h:Lk K H F as v d) (fh:Same F H) (e:tyD d=some t):TyQ K H v t:=by
 cases d with
 | non=>cases e; rw [(h.rp rfl).unN]; exact .non
 | bl b=>cases e; rw [(h.rp rfl).unB]; exact .bl _
 | int b=>cases e; rw [(h.rp rfl).unI]; exact .int _
 | str b=>cases e; rw [(h.rp rfl).unS]; exact .str _
 | lst ds=>cases e; obtain ⟨p,xs,rfl,h1,h2⟩:=h.list fh; exact .lst h1.sq
 | tup ds=>cases e; obtain ⟨p,xs,rfl,h1,h2⟩:=(h.rp rfl).unT; exact .tup (Same.seqT fh h1)
 | dic ks vs=>cases e; obtain ⟨p,xs,rfl,h1,h2⟩:=(h.rp rfl).unD; exact .dK (fh _ _ h1)
 | ob n=>cases e
theorem Qek (n:String) {T:Str}{a:Expr}{p p' pos:Pos}{m:M D} (hm:X.mg "isinstance" = none) (hT:X.mg T=none) (h:SE X md P a m) (hb:bootBuiltins T=some (.type n):=by decide +kernel) (hn:n∈Qp0:=by decide) (hg:Gl X "isinstance":=by rfl) (hgT:Gl X T:=by rfl)
  (hTn:T≠"__name__":=by decide) (hTd:(T == ("__debug__":Str))=false:=by decide)
  (hs1:starEach [a,.Name T p'] X.env=(false,eval a X.env)::starEach [.Name T p'] X.env:=by exact Qa1 rfl) (hs2:starEach [.Name T p'] X.env=(false,eval (.Name T p') X.env)::starEach [] X.env:=by rfl) (hpl:(backTo pos (starEach [.Name T p'] X.env)).any (·.1)=false:=by exact Qa5 rfl) :
  OE X md P (.Call (.Name "isinstance" p) [a,.Name T p'] [] pos) (Qda n m) :=
 (QgQ (Qnk X.K) hg hm (by decide +kernel) (QbB h (QbB (QlZ (v:=.ty n) hgT hT hb rfl hTn hTd) Qcg hs2) hs1) (by decide) (by decide) hs1 hpl).imp fun σ H Q q=>by
  obtain ⟨ρ,O,F,as,d,O',r,s,e,k⟩:=q;obtain ⟨x,O1,e1,e⟩:=Res.bind_ok e;split at e
  ·rename_i t ht;cases e;refine ⟨ρ,_,F,as,_,_,r,s,e1,fun v H1 F1 as1 g1 r1 hv=>?_⟩;exact ⟨v,n,t,_,rfl,Lk.ty (Sv.lk hv r1) r1.fh ht,Qra _ _ t ht n hn,k _ H1 F1 as1 g1 r1 (.inl ⟨rfl,Rp.bl⟩)⟩
  ·cases e
def Qkx (m:M D):M (List D):=fun ρ O=>(m ρ O).bind fun d O1=>match d with
 | .lst ds=>.ok ds O1
 | _=>.no
def Qm4 (m:M D):M (List D):=fun ρ O=>(m ρ O).bind fun d O1=>match d with
 | .tup ds=>.ok ds O1
 | _=>.no
theorem Qpy {K:Frag}{mg:Str→Option Value}{H F:Hp}{as:List Addr}{a:Addr}{xs:List V}{ds:List D} (hs:Rps K F as xs ds) (hp:∀(H2 F2:Hp) (as2:List Addr),GrS P H F as H2 F2 as2→(∃O,RlO K mg O H2 F2 as2)→RdK K H2 a xs):JOk K mg P (Itl K a) ds H F as:=by
 refine ⟨fun i d H2 F2 as2 g r e=>?_,fun H2 F2 as2 g r=>⟨xs,(hp H2 F2 as2 g r).sq,by rw [hs.length]; exact zc _⟩⟩;obtain ⟨x,h1,h2⟩:=hs.get' e;have q:=hp H2 F2 as2 g r;refine ⟨⟨xs,x,q.sq,h1⟩,fun y H3 hy=>?_⟩;obtain ⟨rfl,hy⟩:=hy
 have:=hy xs q.sq
 rw [h1] at this;cases this;exact ⟨F2,Gr.refl,fun _ r=>r,h2.grS g⟩
end
section
variable {X:Cx}{pins:List (Addr×Obj)}{σ:St}{H:Hp}{s:Shared}
theorem Inv.turnL {ch:List Addr}{h':Heap}{t':Nat} (I:Inv X pins σ H s) (hch:∀b∈ch,Qd2 X pins H b) (k:∀b o,b∉ch→s.heap.get? b=some o→h'.get? b=some o):Inv X pins σ H { s with heap:=h',toks:=t' }:=by
 have nit:∀b u,H b=some u→b∉ch:=fun b u e z=>by rw [(hch b z).1] at e; cases e
 refine I.step (g':=s.gens) (d':=s.drawn) (ch:=ch) (fun b hb=>?_) (fun b o _ _ hc e _=>k b o hc e) (fun b o _ _ hc e _=>⟨o.slots,k b o hc e⟩) (fun _ _ _ _ n=>n)
  (fun b o hc e=>⟨o,k b o hc e⟩) (fun _ _ e=>e) (fun _ _ _ e=>e) (fun b ps e=>⟨#[],by rw [e]; simp⟩) (fun m hm=>?_) (fun b u e=>?_) I.bare
 ·obtain ⟨f0,f1,f2,f3,f4,f5⟩:=hch b hb;exact ⟨f3,f1,f4,f5⟩
 ·obtain ⟨o,es,ep,ho,r⟩:=hm;exact ⟨o,es,ep,k _ o (fun z=>(hch _ z).2.1 rfl) ho,r⟩
 ·refine (I.hok b u e).stay (fun c v hc q=>k c v ?_ q) (fun _ q=>q) fun _ _ q=>q
  rcases hc with z | z
  ·rw [z]; exact nit b u e
  ·exact nit c _ z
theorem Inv.turnT {ch:List Addr}{h':Heap}{t':Nat}{T:Addr}{vs:List V}{us:List Value} (I:Inv X pins σ H s) (hch:∀b∈ch,Qd2 X pins H b) (k:∀b o,b∉ch→s.heap.get? b=some o→h'.get? b=some o)
  (hT:s.heap.objs.size≤T) (new:IsTup h' T us.toArray) (hv:QaC vs us) (hz:vs.length≤sizeLine):Inv X pins σ (upd H T (.tup vs)) { s with heap:=h',toks:=t' }:=by
 have hn:H T=none:=I.hok.fresh hT
 have nit:∀b u,H b=some u→b∉ch:=fun b u e z=>by rw [(hch b z).1] at e; cases e
 have ne:∀b o,s.heap.get? b=some o→b≠T:=fun b o e z=>by
  subst z;exact absurd (zd e) (Nat.not_lt_of_le hT)
 refine I.step (g':=s.gens) (d':=s.drawn) (ch:=ch) (fun b hb=>?_) (fun b o _ _ hc e _=>k b o hc e) (fun b o _ _ hc e _=>⟨o.slots,k b o hc e⟩) (fun b o _ e n=>by rw [Qan (ne b o e)]; exact n)
  (fun b o hc e=>⟨o,k b o hc e⟩) (fun b _ e=>by rw [Qan (Qay e hn)]; exact e) (fun b _ _ e=>by rw [Qan (Qay e hn)]; exact e) (fun b ps e=>⟨#[],by rw [Qan (Qay e hn),e]; simp⟩) (fun m hm=>?_) (fun b u e=>?_) I.bare
 ·obtain ⟨f0,f1,f2,f3,f4,f5⟩:=hch b hb;exact ⟨f3,f1,f4,f5⟩
 ·obtain ⟨o,es,ep,ho,r⟩:=hm;exact ⟨o,es,ep,k _ o (fun z=>(hch _ z).2.1 rfl) ho,r⟩
 ·by_cases hb:b=T
  ·subst hb;rw [QaD] at e;cases e;exact ⟨hz,us,hv,new⟩
  ·rw [Qan hb] at e
   refine (I.hok b u e).stay (fun c v hc q=>k c v ?_ q) (fun c q=>by rw [Qan (Qay q hn)]; exact q) fun c xs q=>by rw [Qan (Qay q hn)]; exact q
   rcases hc with z | z
   ·rw [z]; exact nit b u e
   ·exact nit c _ z
end
def Ite (K:Frag) (l:Addr):It:=⟨fun i H=>∃xs x,SqL K H l xs∧xs[i]? = some x,fun i H v H'=>∃T x,v = .ref T∧H T=none∧H'=upd H T (.tup [.int i,x])∧∀xs,SqL K H l xs→xs[i]? = some x,fun i H=>∃xs,SqL K H l xs∧xs.length≤i⟩
def Qs9 (l:List Nat):It:=⟨fun i _=>i < l.length,fun i H v H'=>∃T c,v = .ref T∧H T=none∧H'=upd H T (.tup [.int i,.str (S [c])])∧l[i]? = some c,fun i _=>l.length≤i⟩
theorem Qfg {h:Heap}{b:Addr}{o:Obj}{vs:Array Value} (e:h.get? b=some o) (d:o.data = .fields vs):∃o,h.get? b=some o∧∀v,o.data≠.cell v:=⟨o,e,fun v z=>by rw [d] at z; cases z⟩
theorem Qmw {P:Program}{w:World}{K:Frag}{elts:List Expr}{x1}{pos:Pos} (e it l:Addr) (hne:e≠it):Turn P w K (.Tuple elts x1 pos) (Ite K l) [e,it] e (fun i h=>(∃old,IsEnum h e it i old)∧h.IsListIter it l i) where
 mem:=by simp
 obj:=fun i h st b hb=>by
  obtain ⟨⟨old,he⟩,o,ho,hc,hd⟩:=st
  rcases zj.mp hb with rfl | hb
  ·exact Qfg he rfl
  ·rw [zB.mp hb];exact Qfg ho hd
 keep:=fun i h h' st k=>by
  obtain ⟨⟨old,he⟩,o,ho,r⟩:=st;exact ⟨⟨old,k e (by simp) _ he⟩,o,k it (by simp) o ho,r⟩
 item:=by
  intro X hP hw hK hc i pins s σ H E I hf st hg;subst hP hw hK;obtain ⟨⟨old,he⟩,hit⟩:=st;obtain ⟨xs,x,hq,hx⟩:=hg;obtain ⟨its,rv,pl,hz⟩:=I.list hq;obtain ⟨u,hu,ru⟩:=rv.get hx;have hT:H s.heap.objs.size=none:=I.hok.fresh (zc _);have elt:e < s.heap.objs.size:=zd he
  refine wpAny_pyNext_enum_item he hit pl.isList (x:=u) (by simpa using hu) hne fun h' ho hit' hTup hsz hk=>⟨_,rfl,?_⟩
  refine wpAny_letOwnedTupleGo_enum ho fun h'' he'' hs''=>⟨.ref s.heap.objs.size,_,?_,rfl,⟨s.heap.objs.size,x,rfl,hT,rfl,fun ys hy=>by rw [I.list_inj hy hq]; exact hx⟩,⟨⟨_,by simpa using he''⟩,hit'.extBut hs''.extBut (Ne.symm hne)⟩,fun b hb=>?_⟩
  ·show Inv X pins σ _ { s with heap:=h'',toks:=s.toks+1 };refine I.turnT (ch:=[e,it]) (us:=[.int i s.toks,u]) hf (fun b o hb q=>?_) (zc _) ⟨_,hs''.extBut _ _ (Nat.ne_of_gt elt) hTup,rfl,_,rfl⟩ (.cons ⟨_,rfl⟩ (.cons ru .nil)) (by show 2≤sizeLine; decide)
   have h1:b≠e:=fun z=>hb (by simp [z])
   have h2:b≠it:=fun z=>hb (by simp [z])
   exact hs''.extBut _ _ h1 (hk b o h1 h2 q)
  ·have q:=hf b hb;rw [Qan (fun z=>?_)]
   ·exact q.1
   ·obtain ⟨o,ho⟩:∃o,s.heap.get? b=some o:=by
     rcases zj.mp hb with rfl | hb
     ·exact ⟨_,he⟩
     ·rw [zB.mp hb];obtain ⟨o,ho,_⟩:=hit;exact ⟨o,ho⟩
    exact absurd (zd ho) (by rw [z]; exact zH _)
 done:=by
  intro X hP hw hK hc i pins s σ H E I hf st hg;subst hP hw hK;obtain ⟨⟨old,he⟩,hit⟩:=st;obtain ⟨xs,hq,hl⟩:=hg;obtain ⟨its,rv,pl,hz⟩:=I.list hq
  refine wpAny_pyNext_enum_end (I.ok.hd hc) he hit pl.isList (by have:=rv.length; simp; omega) fun h' hx=>⟨rfl,?_⟩
  exact I.turnL (t':=s.toks) (ch:=[e,it]) hf fun b o hb q=>hx b o (fun z=>hb (by simp [z])) q
 self:=fun A i s Q E st h=>by
  obtain ⟨⟨old,he⟩,_⟩:=st;exact wpAny_pyIter_enum he h
theorem Qmm {P:Program}{w:World}{K:Frag}{elts:List Expr}{x1}{pos:Pos} (e it:Addr) (l:List Nat) (t:Tok) (hne:e≠it):Turn P w K (.Tuple elts x1 pos) (Qs9 l) [e,it] e (fun i h=>(∃old,IsEnum h e it i old)∧h.IsStrIter it "str_ascii_iterator" (S l) t i) where
 mem:=by simp
 obj:=fun i h st b hb=>by
  obtain ⟨⟨old,he⟩,o,ho,hc,hd⟩:=st
  rcases zj.mp hb with rfl | hb
  ·exact Qfg he rfl
  ·rw [zB.mp hb];exact Qfg ho hd
 keep:=fun i h h' st k=>by
  obtain ⟨⟨old,he⟩,o,ho,r⟩:=st;exact ⟨⟨old,k e (by simp) _ he⟩,o,k it (by simp) o ho,r⟩
 item:=by
  intro X hP hw hK hc i pins s σ H E I hf st hg;subst hP hw hK;obtain ⟨⟨old,he⟩,hit⟩:=st;have hg':i < l.length:=hg;have hT:H s.heap.objs.size=none:=I.hok.fresh (zc _);have elt:e < s.heap.objs.size:=zd he;have hd:X.A.in1.handled=none:=I.ok.hd hc
  refine wpAny_pyNext_enum_itemD (Draws.strAscii hd it (S l) t) he hit (by simpa [S] using hg') hne (fun z=>hne (by simpa using z)) fun u h' tk hP ho hit' hTup hsz hk=>⟨_,rfl,?_⟩
  obtain ⟨c,tc,hcx,rfl⟩:=hP
  have hcl:l[i]? = some c:=by
   rw [←hcx];simp [S]
  refine wpAny_letOwnedTupleGo_enum ho fun h'' he'' hs''=>⟨.ref s.heap.objs.size,_,?_,rfl,⟨s.heap.objs.size,c,rfl,hT,rfl,hcl⟩,⟨⟨_,by simpa using he''⟩,?_⟩,fun b hb=>?_⟩
  ·show Inv X pins σ _ { s with heap:=h'',toks:=tk+1 };refine I.turnT (ch:=[e,it]) (us:=[.int i tk,.str ⟨#[c]⟩ tc]) hf (fun b o hb q=>?_) (zc _) ⟨_,hs''.extBut _ _ (Nat.ne_of_gt elt) hTup,rfl,_,rfl⟩ (.cons ⟨_,rfl⟩ (.cons ⟨_,rfl⟩ .nil)) (by show 2≤sizeLine; decide)
   have h1:b≠e:=fun z=>hb (by simp [z])
   have h2:b≠it:=fun z=>hb (by simp [z])
   exact hs''.extBut _ _ h1 (hk b o h1 h2 q)
  ·obtain ⟨o,ho',r⟩:=hit';exact ⟨o,hs''.extBut _ _ (Ne.symm hne) ho',r⟩
  ·have q:=hf b hb;rw [Qan (fun z=>?_)]
   ·exact q.1
   ·obtain ⟨o,ho⟩:∃o,s.heap.get? b=some o:=by
     rcases zj.mp hb with rfl | hb
     ·exact ⟨_,he⟩
     ·rw [zB.mp hb];obtain ⟨o,ho,_⟩:=hit;exact ⟨o,ho⟩
    exact absurd (zd ho) (by rw [z]; exact zH _)
 done:=by
  intro X hP hw hK hc i pins s σ H E I hf st hg;subst hP hw hK;obtain ⟨⟨old,he⟩,hit⟩:=st;have hd:X.A.in1.handled=none:=I.ok.hd hc;have hg':l.length≤i:=hg;have hT:s.TypeIs (.ref e) "enumerate":=⟨_,he,rfl⟩;unfold pyNext
  refine za (wpAny_attempt (wpAny_callSpecial?_slot (name:=Str.ofString "__next__") hT F.slot_enumerate_next
   (wpAny_call_entry F.slot_enumerate_next hT F.entry_enumerate_next ?_ (F.args_enumerate_next_1 _))))
  show wpAny _ _ (field (.ref e) 2 >>= _) _ _ _;refine za (wpAny_field he rfl (x:=.ref it) rfl ?_);refine za (wpAny_nextOf_ascii_end hd hit (by simp [S]; exact hg') fun h' x he' hx'=>?_);obtain ⟨o,ho,hc⟩:=hx';refine za (wpAny_isInstance (T:="StopIteration") (b:=true) ⟨o,ho,hc⟩ isSubtype_stop ?_);exact zb ⟨rfl,I.turnL (t':=s.toks) (ch:=[e,it]) hf fun b o hb q=>he' b o (fun z=>hb (by simp [z])) q⟩
 self:=fun A i s Q E st h=>by
  obtain ⟨⟨old,he⟩,_⟩:=st;exact wpAny_pyIter_enum he h
section
variable {X:Cx}{elts:List Expr}{x1:Nat}{tpos:Pos}
def Qtv (K:Frag) (ta:TA):TI:=fun σ H R=>ta σ H fun vs H1=>∃a,vs = [.ref a]∧(∃xs,SqL K H1 a xs)∧R (Ite K a) H1
def Qs5 (ta:TA):TI:=fun σ H R=>ta σ H fun vs H1=>∃l,vs = [.str (S l)]∧ascii l=true∧R (Qs9 l) H1
theorem Qkj {l:List Nat} (h:ascii l=true):strIterType (S l) = "str_ascii_iterator":=by
 unfold strIterType;rw [if_pos];unfold ascii at h;rw [jd] at h;simp [S];intro i hi;simpa using h i hi
theorem Qp8 {a:Expr}{ta:TA}{p pos:Pos} (hg:Gl X "enumerate") (hm:X.mg "enumerate" = none) (ha:PA X [a] ta) (hs:starEach [a] X.env = [(false,eval a X.env)]:=by exact Qh4 rfl):PI X (.Tuple elts x1 tpos) (.Call (.Name "enumerate" p) [a] [] pos) (Qtv X.K ta):=by
 intro pins s σ H R I h;refine Call_ (Qhw I hg hm boot_enumerate (PyProof.Rows.callWith_type1 (thn (ha pos pins s σ H _ I h) fun us s1 ⟨vs,H1,I1,r1,q1⟩=>?_) hs rfl));obtain ⟨l,e,⟨xs,hq⟩,q⟩:=q1;subst e;obtain ⟨u,rfl,ru⟩:=vals1 r1;cases ru;obtain ⟨its,rv,pl,hz⟩:=I1.list hq
 refine call_enumerate_list pl.isList fun h' he hit hsz hk=>wpAny_pyIter_enum he ?_
 refine ⟨s1.heap.objs.size+1,[s1.heap.objs.size+1,s1.heap.objs.size],_,_,H1,rfl,I1.kept (t':=s1.toks) hk,Qmw (s1.heap.objs.size+1) s1.heap.objs.size l (Nat.succ_ne_self _),⟨⟨_,he⟩,hit⟩,fun b hb=>?_,q⟩
 have hb':s1.heap.objs.size≤b:=by
  rcases zj.mp hb with rfl | hb
  ·exact Nat.le_succ _
  ·rw [zB.mp hb]; exact zc _
 exact I1.fpOk hb' (I1.hok.fresh hb')
theorem Qp5 {a:Expr}{ta:TA}{p pos:Pos} (hg:Gl X "enumerate") (hm:X.mg "enumerate" = none) (ha:PA X [a] ta) (hs:starEach [a] X.env = [(false,eval a X.env)]:=by exact Qh4 rfl):PI X (.Tuple elts x1 tpos) (.Call (.Name "enumerate" p) [a] [] pos) (Qs5 ta):=by
 intro pins s σ H R I h;refine Call_ (Qhw I hg hm boot_enumerate (PyProof.Rows.callWith_type1 (thn (ha pos pins s σ H _ I h) fun us s1 ⟨vs,H1,I1,r1,q1⟩=>?_) hs rfl));obtain ⟨l,e,hl,q⟩:=q1;subst e;obtain ⟨u,rfl,t,rfl⟩:=vals1 r1
 refine call_enumerate_str fun h' he hit hsz hk=>wpAny_pyIter_enum he ?_
 rw [Qkj hl] at hit;refine ⟨s1.heap.objs.size+1,[s1.heap.objs.size+1,s1.heap.objs.size],_,_,H1,rfl,I1.kept (t':=s1.toks) hk,Qmm (s1.heap.objs.size+1) s1.heap.objs.size l t (Nat.succ_ne_self _),⟨⟨_,he⟩,hit⟩,fun b hb=>?_,q⟩
 have hb':s1.heap.objs.size≤b:=by
  rcases zj.mp hb with rfl | hb
  ·exact Nat.le_succ _
  ·rw [zB.mp hb]; exact zc _
 exact I1.fpOk hb' (I1.hok.fresh hb')
end
def rW (K:Frag) (P:Pt):RR:=fun _ H F as v d=>Rp K F as v d∨∃a xs ds,v = .ref a∧d = .lst ds∧H a=some (.lst xs)∧a∉as∧P a∧Rps K F as xs ds
def WE (X:Cx) (md:List Md) (P:Pt) (e:Expr) (m:M D):Prop:=PE X e (tM X.K X.mg md P (rW X.K P) m)
section
variable {X:Cx}{md:List Md}{P:Pt}{R:RR}
theorem QqD {e:Expr}{m:M D} (h:VE X md P e m):WE X md P e m:=h.imp fun σ H Q q=>by
 obtain ⟨ρ,O,F,as,d,O',r,s,e,k⟩:=q;exact ⟨ρ,O,F,as,d,O',r,s,e,fun v H' F' as' g r' hv=>k v H' F' as' g r' (.inl hv)⟩
theorem QiR (i:Nat) {x:Str}{pos:Pos} (hm:md[i]? = some .s:=by rfl) (hN:X.N[i]? = some x:=by rfl) (hv:Vis X.env.scope x:=by first | exact Or.inl rfl | exact Or.inr (Or.inl rfl) | exact Or.inr (Or.inr rfl))
  (hd:(x == ("__debug__":Str))=false:=by decide) (hcd:(x == ("__classdict__":Str))=false:=by decide):WE X md P (.Name x pos) (Qac i):=by
 refine (QeO (i:=i) hN hv hd hcd).imp fun σ H Q h=>?_
 obtain ⟨ρ,O,F,as,d,O',r,s,e,k⟩:=h;obtain ⟨e1,rfl⟩:=Qh2 e;obtain ⟨v,h2,h3⟩:=s.sl i .s d hm e1;exact ⟨v,h2,k v H F as Gr.refl r h3⟩
theorem Qqe {K:Frag}{mg:Str→Option Value}{N:Addr→Prop}{H F:Hp}{as:List Addr}{v:V}{ds:List D} (hv:rW K P N H F as v (.lst ds)) :
  ∃a xs,v = .ref a∧Rps K F as xs ds∧∀(H2 F2:Hp) (as2:List Addr),GrS P H F as H2 F2 as2→(∃O,RlO K mg O H2 F2 as2)→RdK K H2 a xs:=by
 rcases hv with hv | ⟨a,xs,ds',rfl,e,e3,e4,e5,e6⟩
 ·obtain ⟨a,xs,rfl,h1,h2⟩:=hv.unL;exact ⟨a,xs,rfl,h2,fun H2 F2 as2 g ⟨O,r⟩=>(h1.mono g.ff).mono r.fh⟩
 ·cases e;exact ⟨a,xs,rfl,e6,fun H2 F2 as2 g _=>.inl (.inl (g.fr _ _ e5 e3 e4 rfl))⟩
theorem Qrd {tg e:Expr}{m:M D} (h:WE X md P e m):VI X md P tg e (Qkx m):=(Qmb h).imp fun σ H Q q=>by
 obtain ⟨ρ,O,F,as,ds,O',r,s,e,k⟩:=q;obtain ⟨d,O1,e1,e⟩:=Res.bind_ok e
 cases d with
 | lst es =>
  cases e;refine ⟨ρ,_,F,as,_,_,r,s,e1,fun v H1 F1 as1 g1 r1 hv=>?_⟩;obtain ⟨a,xs,rfl,h1,h2⟩:=Qqe (mg:=X.mg) hv;exact ⟨a,rfl,⟨xs,(h2 H1 F1 as1 GrS.refl ⟨_,r1⟩).sq⟩,k _ H1 F1 as1 g1 r1 (Qpy h1 h2)⟩
 | _=>cases e
theorem QnZ {tg e:Expr}{m:M D} (h:VE X md P e m):VI X md P tg e (Qm4 m):=(QsS h).imp fun σ H Q q=>by
 obtain ⟨ρ,O,F,as,ds,O',r,s,e,k⟩:=q;obtain ⟨d,O1,e1,e⟩:=Res.bind_ok e
 cases d with
 | tup es =>
  cases e;refine ⟨ρ,_,F,as,_,_,r,s,e1,fun v H1 F1 as1 g1 r1 hv=>?_⟩;obtain ⟨a,xs,rfl,h1,h2⟩:=Rp.unT hv
  have hp:∀(H2 F2:Hp) (as2:List Addr),GrS P H1 F1 as1 H2 F2 as2→(∃O,RlO X.K X.mg O H2 F2 as2)→SqT X.K H2 a xs:=fun H2 F2 as2 g ⟨O,r⟩=>Same.seqT r.fh (Same.seqT g.ff h1)
  refine ⟨a,rfl,⟨xs,hp H1 F1 as1 GrS.refl ⟨_,r1⟩⟩,k _ H1 F1 as1 g1 r1 ⟨fun i d H2 F2 as2 g r e=>?_,fun H2 F2 as2 g r=>⟨xs,hp H2 F2 as2 g r,by rw [h2.length]; exact zc _⟩⟩⟩;obtain ⟨x,h3,h4⟩:=h2.get' e;have q:=hp H2 F2 as2 g r;refine ⟨⟨xs,x,q,h3⟩,fun y H3 hy=>?_⟩;obtain ⟨rfl,hy⟩:=hy
  have:=hy xs q
  rw [h3] at this;cases this;exact ⟨F2,Gr.refl,fun _ r=>r,h4.grS g⟩
 | _=>cases e
def QaX (l:List Nat):List D:=l.map fun c=>.str [c]
def Qnb (m:M D):M (List D):=fun ρ O=>(m ρ O).bind fun d O1=>match d with
 | .str l=>if ascii l=true then .ok (QaX l) O1 else .no
 | _=>.no
theorem Qlq {K:Frag}{mg:Str→Option Value}{J:It}{ds:List D}{H F:Hp}{as:List Addr} (h1:∀(i:Nat) (d:D) (H2:Hp),ds[i]? = some d→J.go i H2∧∀x H3,J.yld i H2 x H3→H3=H2∧∀K F as,Rp K F as x d) (h2:∀H2,J.stop ds.length H2):JOk K mg P J ds H F as :=
 ⟨fun i d H2 F2 as2 _ _ e=>⟨(h1 i d H2 e).1,fun x H3 y=>by
  obtain ⟨rfl,hx⟩:=(h1 i d H2 e).2 x H3 y
  exact ⟨F2,Gr.refl,fun _ r=>r,hx _ _ _⟩⟩,fun H2 _ _ _ _=>h2 H2⟩
theorem Qnx {tg e:Expr}{m:M D} (h:SE X md P e m):VI X md P tg e (Qnb m):=(Qtm h).imp fun σ H Q q=>by
 obtain ⟨ρ,O,F,as,ds,O',r,s,e,k⟩:=q;obtain ⟨d,O1,e1,e⟩:=Res.bind_ok e
 cases d with
 | str l =>
  dsimp only at e;split at e
  ·rename_i hl;cases e;refine ⟨ρ,_,F,as,_,_,r,s,e1,fun v H1 F1 as1 g1 r1 hv=>?_⟩;refine ⟨l,(Sv.rp hv rfl).unS,hl,k _ H1 F1 as1 g1 r1 (Qlq (fun i d H2 e=>?_) fun H2=>by simp [QaX,Its])⟩;unfold QaX at e;rw [zE] at e
   cases q:l[i]? with
   | none=>rw [q] at e; cases e
   | some c =>
    rw [q] at e;cases e;refine ⟨(zl.mp q).1,fun x H3 y=>?_⟩;obtain ⟨e1,c',e2,rfl⟩:=y;rw [q] at e2;cases e2;exact ⟨e1,fun _ _ _=>Rp.str⟩
  ·cases e
 | _=>cases e
def QdZ (lo:Int) (n:Nat):List D:=(List.range n).map fun (k:Nat)=>.int (lo+(k:Int))
def Qie (m:M (List D)):M (List D):=fun ρ O=>(m ρ O).bind fun ds O1=>match ds with
 | [.int j]=>if j≤1000000000∧-1000000000≤j then .ok (QdZ 0 j.toNat) O1 else .no
 | _=>.no
theorem QoK {K:Frag}{mg:Str→Option Value}{lo:Int}{n:Nat}{H F:Hp}{as:List Addr}:JOk K mg P (Itr lo n) (QdZ lo n) H F as:=Qlq (fun i d H2 e=>by
 unfold QdZ at e;rw [zE] at e
 by_cases hi:i < n
 ·rw [List.getElem?_range hi] at e;cases e;refine ⟨hi,fun x H3 y=>?_⟩;obtain ⟨e1,rfl⟩:=y;exact ⟨e1,fun _ _ _=>Rp.int⟩
 ·rw [List.getElem?_eq_none (by simpa using hi)] at e
  cases e) fun H2=>by simp [QdZ,Itr]
theorem QbG.one {K:Frag}{H F:Hp}{as:List Addr}{m:Md}{vs:List V}{d:D} (h:QbG K H F as [m] vs [d]):∃v,vs = [v]∧rA K m (fun _=>True) H F as v d:=by
 cases vs with
 | nil=>exact h.elim
 | cons v vs =>
  cases vs with
  | nil=>exact ⟨v,rfl,h.1⟩
  | cons u us=>exact h.2.elim
theorem QjX {tg a:Expr}{p pos:Pos}{m:M (List D)} (hm:X.mg "range" = none) (ha:AE X md P [.s] [a] m) (hg:Gl X "range":=by rfl) (hs:starEach [a] X.env = [(false,eval a X.env)]:=by exact Qh4 rfl):VI X md P tg (.Call (.Name "range" p) [a] [] pos) (Qie m):=(QnK hg hm ha hs).imp fun σ H Q q=>by
 obtain ⟨ρ,O,F,as,ds,O',r,s,e,k⟩:=q;obtain ⟨es,O1,e1,e⟩:=Res.bind_ok e;split at e
 ·rename_i j;split at e
  ·rename_i hj;cases e;refine ⟨ρ,_,F,as,_,_,r,s,e1,fun vs H1 F1 as1 g1 r1 hv=>?_⟩;obtain ⟨v,rfl,hv1⟩:=hv.one
   have:=(Sv.rp hv1 rfl).unI
   subst this;exact ⟨j,rfl,by omega,by omega,k _ H1 F1 as1 g1 r1 QoK⟩
  ·cases e
 ·cases e
def QbH:Nat→List D→List D
 | _,[]=>[]
 | k,d::ds=>.tup [.int k,d]::QbH (k+1) ds
theorem QfN:∀(k:Nat) (ds:List D),(QbH k ds).length=ds.length
 | _,[]=>rfl
 | k,d::ds=>by simp [QbH,QfN (k+1) ds]
theorem QfU:∀(k:Nat) (ds:List D) (i:Nat),(QbH k ds)[i]? = (ds[i]?).map fun d=>.tup [.int ((k+i:Nat):Int),d]
 | k,[],i=>by simp [QbH]
 | k,d::ds,0=>by simp [QbH]
 | k,d::ds,i+1=>by
  rw [QbH,jg,jg,QfU (k+1) ds i];congr 1
  funext d
  congr 3;omega
theorem Qlu {K:Frag}{mg:Str→Option Value}{H2 F2:Hp}{as2:List Addr}{T:Addr}{xs:List V}{ds:List D} (hr:∃O,RlO K mg O H2 F2 as2) (hT:H2 T=none) (hx:Rps K F2 as2 xs ds) :
  ∃F3,Gr H2 F2 as2 (upd H2 T (.tup xs)) F3 as2∧(∀O,RlO K mg O H2 F2 as2→RlO K mg O (upd H2 T (.tup xs)) F3 as2)∧Rp K F3 as2 (.ref T) (.tup ds):=by
 obtain ⟨O,r⟩:=hr;have hF:=r.frF hT
 have ff:Same F2 (upd F2 T (.tup xs)):=fun b u q=>by rw [Qan (Qay q hF)]; exact q
 exact ⟨upd F2 T (.tup xs),(Gr.lay hT).frz hT hF,fun O' r'=>(r'.lay hT).frz QaD hF (fun z=>r'.all z hT) rfl,Rp.mkT (.inl QaD) (Rps.mono ff (fun _ _ z=>z) _ hx)⟩
def QnV (m:M D):M (List D):=fun ρ O=>(m ρ O).bind fun d O1=>match d with
 | .lst ds=>.ok (QbH 0 ds) O1
 | _=>.no
def Qnu (m:M D):M (List D):=fun ρ O=>(m ρ O).bind fun d O1=>match d with
 | .str l=>if ascii l=true then .ok (QbH 0 (QaX l)) O1 else .no
 | _=>.no
variable {elts:List Expr}{x1:Nat}{tpos:Pos}
theorem QpU {a:Expr}{p pos:Pos}{m:M D} (hm:X.mg "enumerate" = none) (h:WE X md P a m) (hg:Gl X "enumerate":=by rfl) (hs:starEach [a] X.env = [(false,eval a X.env)]:=by exact Qh4 rfl) (hs':starEach [a] X.env=(false,eval a X.env)::starEach [] X.env:=by exact Qa1 rfl) :
  VI X md P (.Tuple elts x1 tpos) (.Call (.Name "enumerate" p) [a] [] pos) (QnV m):=(Qp8 hg hm (QbB h Qcg hs') hs).imp fun σ H Q q=>by
 obtain ⟨ρ,O,F,as,ds,O',r,s,e,k⟩:=q;obtain ⟨d,O1,e1,e⟩:=Res.bind_ok e
 cases d with
 | lst es =>
  cases e;refine ⟨ρ,_,F,as,_,_,r,s,e1,fun v H1 F1 as1 g1 r1 hv=>?_⟩;obtain ⟨a,xs,rfl,h1,h2⟩:=Qqe (mg:=X.mg) hv;refine ⟨a,rfl,⟨xs,(h2 H1 F1 as1 GrS.refl ⟨_,r1⟩).sq⟩,k _ H1 F1 as1 g1 r1 ⟨fun i d H2 F2 as2 g r e=>?_,fun H2 F2 as2 g r=>⟨xs,(h2 H2 F2 as2 g r).sq,by rw [QfN,h1.length]; exact zc _⟩⟩⟩;rw [QfU] at e
  cases q:es[i]? with
  | none=>rw [q] at e; cases e
  | some y =>
   rw [q] at e;cases e;obtain ⟨x,h3,h4⟩:=h1.get' q;have hq:=h2 H2 F2 as2 g r;refine ⟨⟨xs,x,hq.sq,h3⟩,fun z H3 hz=>?_⟩;obtain ⟨T,x',rfl,hT,rfl,hx'⟩:=hz
   have:=hx' xs hq.sq
   rw [h3] at this;cases this;rw [zV];exact Qlu r hT (Rps.cons Rp.int (Rps.cons (h4.grS g) Rps.nil))
 | _=>cases e
theorem QpH {a:Expr}{p pos:Pos}{m:M D} (hm:X.mg "enumerate" = none) (h:SE X md P a m) (hg:Gl X "enumerate":=by rfl) (hs:starEach [a] X.env = [(false,eval a X.env)]:=by exact Qh4 rfl) (hs':starEach [a] X.env=(false,eval a X.env)::starEach [] X.env:=by exact Qa1 rfl) :
  VI X md P (.Tuple elts x1 tpos) (.Call (.Name "enumerate" p) [a] [] pos) (Qnu m):=(Qp5 hg hm (QbB h Qcg hs') hs).imp fun σ H Q q=>by
 obtain ⟨ρ,O,F,as,ds,O',r,s,e,k⟩:=q;obtain ⟨d,O1,e1,e⟩:=Res.bind_ok e
 cases d with
 | str l =>
  dsimp only at e;split at e
  ·rename_i hl;cases e;refine ⟨ρ,_,F,as,_,_,r,s,e1,fun v H1 F1 as1 g1 r1 hv=>?_⟩;refine ⟨l,by rw [(Sv.rp hv rfl).unS],hl,k _ H1 F1 as1 g1 r1 ⟨fun i d H2 F2 as2 g r e=>?_,fun H2 F2 as2 g r=>?_⟩⟩
   ·rw [QfU] at e;unfold QaX at e;rw [zE] at e
    cases q:l[i]? with
    | none=>rw [q] at e; cases e
    | some c =>
     rw [q] at e;cases e;refine ⟨(zl.mp q).1,fun z H3 hz=>?_⟩;obtain ⟨T,c',rfl,hT,rfl,hc'⟩:=hz;rw [q] at hc';cases hc';rw [zV];exact Qlu r hT (Rps.cons Rp.int (Rps.cons Rp.str Rps.nil))
   ·show l.length≤_;rw [QfN];simp [QaX]
  ·cases e
 | _=>cases e
def QeF:List D→Option (List (List Nat))
 | []=>some []
 | .str l::ds=>(QeF ds).map (l :: ·)
 | _=>none
theorem Rps.strs {K:Frag}{F:Hp}{as:List Addr}:∀{ds:List D}{xs:List V}{ls:List (List Nat)},Rps K F as xs ds→QeF ds=some ls→xs=ls.map fun l=>V.str (S l)
 | [],xs,bs,h,e=>by cases e; rw [h.un0]; rfl
 | d::ds,xs,bs,h,e=>by
  obtain ⟨x,r,rfl,h2,h3⟩:=h.un
  cases d with
  | str b =>
   unfold QeF at e
   cases q:QeF ds with
   | none=>rw [q] at e; cases e
   | some cs =>
    rw [q] at e;cases e;rw [h2.unS,Rps.strs h3 q];rfl
  | _=>cases e
def Qkw (m:M D):M D:=fun ρ O=>(m ρ O).bind fun d O1=>match QaU O1 d with
 | .lst ds=>match QeF ds with
  | some ls=>if (ls.map List.length).sum≤1000000 then .ok (.str ls.flatten) O1 else .no
  | none=>.no
 | _=>.no
theorem QrJ {e:Expr}{j:Nat}{p apos cpos:Pos}{m:M D} (h:SE X md P e m) {x:Str} (hx:x=S []:=by decide +kernel)
  (hfew:((backTo cpos (starEach [e] X.env)).all (fun x=>!x.1)&&(backToKw cpos (keywordEach [] X.env)).all (fun x=>x.1.isSome)&&decide ([e].length+([]:List Keyword).length+(if ([]:List Keyword).isEmpty then 0 else 1) < 30))=true:=by rfl)
  (hline:(apos.endLine == cpos.line)=true:=by rfl) (hs:starEach [e] X.env=(false,eval e X.env)::starEach [] X.env:=by exact Qa1 rfl) (hbase:attributeBase (.Constant (.str x) j p) "join" X.env (eval (.Constant (.str x) j p) X.env)=eval (.Constant (.str x) j p) X.env:=by rfl) (hplain:(backTo cpos (starEach [] X.env)).any (·.1)=false:=by exact Qa5 rfl) :
  OE X md P (.Call (.Attribute (.Constant (.str x) j p) "join" apos) [e] [] cpos) (Qkw m) :=
 (Qi0 PySem.F.plainAttrs_str PySem.F.slot_str_join PySem.F.type_str_join (QpC X.K) (Qgo (x:=x)) (QbB h Qcg hs) hbase hfew hline hs hplain).imp fun σ H Q q=>by
  obtain ⟨ρ,O,F,as,d,O',r,s,e,k⟩:=q;obtain ⟨y,O1,e1,e⟩:=Res.bind_ok e
  cases ed:QaU O1 y with
  | lst ds =>
   rw [ed] at e;dsimp only at e
   cases es:QeF ds with
   | none=>rw [es] at e; cases e
   | some ls =>
    rw [es] at e;dsimp only at e;split at e
    ·rename_i hz;cases e;refine ⟨rfl,ρ,_,F,as,_,_,r,s,e1,fun v H1 F1 as1 g1 r1 hv=>?_⟩;have q:=Sv.lk hv r1;rw [ed] at q;obtain ⟨a,xs,rfl,h1,h2⟩:=q.list r1.fh;refine ⟨a,ls,by rw [hx],rfl,?_,hz,k _ H1 F1 as1 g1 r1 (.inl ⟨rfl,Rp.str⟩)⟩;rw [←h2.strs es];exact h1.sq
    ·cases e
  | _=>rw [ed] at e; cases e
def Qh3 (mo m:M D):M D:=fun ρ O=>(mo ρ O).bind fun a O1=>(m ρ O1).bind fun b O2=>match a,b with
 | .str l,.str n=>.ok (.bl (decide (l.take n.length=n))) O2
 | _,_=>.no
theorem QjV {o e:Expr}{apos cpos:Pos}{mo m:M D} (ho:VE X md P o mo) (h:VE X md P e m)
  (hbase:attributeBase o "startswith" X.env (eval o X.env)=eval o X.env:=by rfl)
  (hfew:((backTo cpos (starEach [e] X.env)).all (fun x=>!x.1)&&(backToKw cpos (keywordEach [] X.env)).all (fun x=>x.1.isSome)&&decide ([e].length+([]:List Keyword).length+(if ([]:List Keyword).isEmpty then 0 else 1) < 30))=true:=by rfl)
  (hline:(apos.endLine == cpos.line)=true:=by rfl) (hs:starEach [e] X.env=(false,eval e X.env)::starEach [] X.env:=by exact Qa1 rfl) (hplain:(backTo cpos (starEach [] X.env)).any (·.1)=false:=by exact Qa5 rfl) :
  OE X md P (.Call (.Attribute o "startswith" apos) [e] [] cpos) (Qh3 mo m) :=
 (Qi0 PySem.F.plainAttrs_str PySem.F.slot_str_startswith PySem.F.type_str_startswith QnC ho (QbB h Qcg hs) hbase hfew hline hs hplain).imp fun σ H Q q=>by
  obtain ⟨ρ,O,F,as,d,O',r,s,e,k⟩:=q;obtain ⟨a,O1,e1,e⟩:=Res.bind_ok e;obtain ⟨b,O2,e2,e⟩:=Res.bind_ok e;split at e
  ·cases e;refine ⟨ρ,_,F,as,_,_,r,s,e1,fun v H1 F1 as1 g1 r1 hv=>?_⟩;cases Rp.unS hv;refine ⟨rfl,ρ,_,F1,as1,_,_,r1,s.step g1,e2,fun u H2 F2 as2 g2 r2 hu=>?_⟩;cases Rp.unS hu;exact ⟨_,_,rfl,rfl,k _ H2 F2 as2 (g1.trans g2) r2 (.inl ⟨rfl,Rp.bl⟩)⟩
  ·cases e
end
section
variable {K:Frag}{mg:Str→Option Value}{md:List Md}{P:Pt}{ρ:Qak}{σ:St}{H F:Hp}{as:List Addr}{O:Qab}{i:Nat}{a:Addr}{xs xs':List V}{ds ds':List D}
theorem SlO.own (s:SlO K md P ρ σ H F as) (hm:md[i]? = some .o) (hρ:ρ[i]? = some (some (.lst ds))):∃a xs,σ[i]? = some (some (.ref a))∧H a=some (.lst xs)∧F a=none∧a∉as∧¬P a∧Rps K F as xs ds:=by
 obtain ⟨v,h1,h2⟩:=s.sl i .o _ hm hρ
 rcases h2 with ⟨h2,_⟩ | ⟨a,xs,es,rfl,e2,e3,e0,e4,e5,e6⟩
 ·cases h2
 ·cases e2;exact ⟨a,xs,h1,e3,e0,e4,e5,e6⟩
theorem SlO.mut (s:SlO K md P ρ σ H F as) (hm:md[i]? = some .o) (hρ:ρ[i]? = some (some (.lst ds))) (hσ:σ[i]? = some (some (.ref a))) (hF:F a=none) (ha:a∉as) (hP:¬P a) (r:Rps K F as xs' ds'):SlO K md P (ρ.set i (some (.lst ds'))) σ (upd H a (.lst xs')) F as:=by
 have hi:i < md.length:=(zl.mp hm).1;refine ⟨s.len,by rw [zP]; exact s.len',fun c p=>?_,fun j m d e1 e2=>?_,fun j k c es fs h1 h2 h3 h4 h5 h6=>?_,fun x hx=>?_⟩
 ·have:=s.pd c p
  unfold upd
  split
  ·exact fun z=>nomatch z
  ·exact this
 ·by_cases h:i=j
  ·subst h;rw [hm] at e1; cases e1;rw [zC (by rw [s.len']; exact hi)] at e2;cases e2;exact ⟨_,hσ,.inr ⟨a,xs',ds',rfl,rfl,QaD,hF,ha,hP,r⟩⟩
  ·rw [zo h] at e2;obtain ⟨v,q1,q2⟩:=s.sl j m d e1 e2;refine ⟨v,q1,?_⟩
   cases m with
   | v=>exact q2
   | s =>
    rcases q2 with q2 | ⟨c,ys,es,z1,z2,z3,z4,z5,z6⟩
    ·exact .inl q2
    ·exact .inr ⟨c,ys,es,z1,z2,by rw [Qan (fun z=>hP (by rw [←z]; exact z5))]; exact z3,z4,z5,z6⟩
   | o =>
    rcases q2 with q2 | ⟨c,ys,es,z1,z2,z3,z0,z4,z5,z6⟩
    ·exact .inl q2
    ·refine .inr ⟨c,ys,es,z1,z2,?_,z0,z4,z5,z6⟩;rw [Qan]
     ·exact z3
     ·intro z;subst z z1 z2;exact h (s.inj i j c ds es hm e1 hρ e2 hσ q1)
 ·have f:∀k es,(ρ.set i (some (.lst ds')))[k]? = some (some (D.lst es))→∃es',ρ[k]? = some (some (D.lst es')):=fun k es q=>by
   by_cases h:i=k
   ·subst h; exact ⟨ds,hρ⟩
   ·rw [zo h] at q; exact ⟨es,q⟩
  obtain ⟨es',q3⟩:=f j es h3;obtain ⟨fs',q4⟩:=f k fs h4;exact s.inj j k c es' fs' h1 h2 q3 q4 h5 h6
 ·obtain ⟨p1,p2,p3⟩:=s.pin x hx
  have hne:i≠x.1:=fun z=>by rw [←z,hm] at p1; cases p1
  exact ⟨p1,by rw [zo hne]; exact p2,p3⟩
theorem Qn7 {xs:List V} (hH:H a=some (.lst xs)) (hP:¬P a) {o:HO}:GrS P H F as (upd H a o) F as :=
 ⟨fun _ _ _ _ _ _=>rfl,Same.refl F,⟨[],by simp,fun _ h=>nomatch h⟩,fun c u p e _ _=>by rw [Qan (fun z=>hP (by rw [←z]; exact p))]; exact e,fun c e=>by
  by_cases h:c=a
  ·subst h; rw [QaD] at e; cases e
  ·rwa [Qan h] at e,fun c o' u e=>by rw [Qan (fun z=>by rw [z,hH] at e; cases e)]; exact e⟩
theorem RlO.mut (r:RlO K mg O H F as) (hF:F a=none) (ha:a∉as) {o:HO}:RlO K mg O (upd H a o) F as:=by
 refine ⟨fun c u e=>?_,r.fd,r.nd,r.len,r.fa,fun n c u hc hu=>(r.ob n c u hc hu).keep (Qan ?_) (Same.refl F) fun _ _ h=>h⟩
 ·rw [Qan (Qay e hF)]; exact r.fh c u e
 ·intro z; subst z; exact ha (zN hc)
end
section
variable {X:Cx}{md:List Md}{P:Pt}{R:RR}
def Qgz (i:Nat) (m:M D):MS:=fun ρ O=>match m ρ O with
 | .ok d O'=>match ρ[i]? with
  | some (some (.lst ds))=>if ds.length < 1000000 then .nx (ρ.set i (some (.lst (ds ++ [d])))) O' else .no
  | _=>.no
 | .ex x O'=>.ex x O'
 | .no=>.no
theorem QoA {i:Nat}{m:M D}{ρ:Qak}{O:Qab} (K:Frag) (mg:Str→Option Value) {D:Ends}{H F:Hp}{as:List Addr} (k:QeX K mg md P R D H F as (Qgz i m ρ O)) :
  ∃d O' ds,m ρ O = .ok d O'∧ρ[i]? = some (some (.lst ds))∧ds.length < 1000000∧QeX K mg md P R D H F as (.nx (ρ.set i (some (.lst (ds ++ [d])))) O'):=by
 unfold Qgz at k;split at k
 ·rename_i d O' e;split at k
  ·rename_i ds e2;split at k
   ·rename_i hz;exact ⟨d,O',ds,e,e2,hz,k⟩
   ·exact False.elim k
  ·exact False.elim k
 ·exact False.elim k
 ·exact False.elim k
theorem Qj0 (i:Nat) {x:Str}{p apos cpos pos:Pos}{e:Expr}{m:M D} (h:VE X md P e m) (hm:md[i]? = some .o:=by rfl) (hN:X.N[i]? = some x:=by rfl) (hv:Vis X.env.scope x:=by first | exact Or.inl rfl | exact Or.inr (Or.inl rfl) | exact Or.inr (Or.inr rfl))
  (hd:(x == ("__debug__":Str))=false:=by decide) (hcd:(x == ("__classdict__":Str))=false:=by decide)
  (hbase:attributeBase (.Name x p) "append" X.env (eval (.Name x p) X.env)=eval (.Name x p) X.env:=by rfl)
  (hfew:((backTo cpos (starEach [e] X.env)).all (fun x=>!x.1)&&(backToKw cpos (keywordEach [] X.env)).all (fun x=>x.1.isSome)&&decide ([e].length+([]:List Keyword).length+(if ([]:List Keyword).isEmpty then 0 else 1) < 30))=true:=by rfl)
  (hline:(apos.endLine == cpos.line)=true:=by rfl) (hs:starEach [e] X.env=(false,eval e X.env)::starEach [] X.env:=by exact Qa1 rfl) (hplain:(backTo cpos (starEach [] X.env)).any (·.1)=false:=by exact Qa5 rfl)
  (hsw:swapsWith (.Call (.Attribute (.Name x p) "append" apos) [e] [] cpos) none pos.line X.env=pure false:=by rfl) :
  VS X md P R (.Expr (.Call (.Attribute (.Name x p) "append" apos) [e] [] cpos) pos) (Qgz i m) :=
 (QjC (Qi0 PySem.F.plainAttrs_list PySem.F.slot_list_append PySem.F.type_list_append QnG (QeO (i:=i) hN hv hd hcd) (QbB h Qcg hs) hbase hfew hline hs hplain) hsw).imp fun D σ H q=>by
  obtain ⟨ρ,O,F,as,r,s,k⟩:=q;obtain ⟨d,O',ds,e,e2,hz,k⟩:=QoA X.K X.mg k;obtain ⟨a,xs,h1,h2,h3,h4,h5,h6⟩:=s.own hm e2;refine ⟨_,h1,.inl ⟨rfl,xs,.inl (.inl h2)⟩,ρ,O,F,as,d,O',r,s,e,fun y H1 F1 as1 g1 r1 hy=>?_⟩;have s1:=s.step g1
  have hn:H a≠none:=by rw [h2]; exact fun z=>nomatch z
  have q2:=g1.fr _ _ h2 h4 rfl
  have q3:F1 a=none:=by rw [g1.fz a _ h2 h4 rfl]; exact h3
  have q4:=g1.out h4 hn
  have hn1:H1 a≠none:=by rw [q2]; exact fun z=>nomatch z
  exact ⟨a,xs,y,rfl,rfl,q2,by rw [h6.length]; exact zv hz (by decide),k σ _ F1 as1 (g1.toS.trans (Qn7 q2 h5)) (r1.mut q3 q4) (s1.mut hm e2 h1 q3 q4 h5 ((h6.gr g1).snoc hy))⟩
def Qub (K:Frag):V→List V→Hp→VK→Prop:=fun x vs H Q=>∃l b xs zs,x = .ref l∧vs = [.ref b]∧H l=some (.lst xs)∧RdK K H b zs∧xs.length+zs.length≤sizeLine∧Q .non (upd H l (.lst (xs++zs)))
theorem QqU:MtM X "list.extend" (Qub X.K):=by
 intro pins s σ H x vs v us Q I rx rv h;obtain ⟨l,b,xs,zs,rfl,rfl,hH,hB,hz,q⟩:=h;cases rx;obtain ⟨u,rfl,ru⟩:=rv.one;cases ru;obtain ⟨z,its,n,r,hl,e⟩:=I.lstM hH;obtain ⟨z2,its2,n2,r2,e2⟩:=hB.ok I;have hl2:=r2.length
 have hsz:its.toArray.size+its2.toArray.size≤sizeLine:=by rw [zn,zn]; omega
 have hlong:¬(!its.toArray.isEmpty&&Builtin.List.listTooLong (its.toArray.size+its2.toArray.size))=true:=by
  rw [QgW hsz,Bool.and_false];exact zg
 refine call_meets F.slot_list_extend ⟨_,e,rfl⟩ F.entry_list_extend (F.args_list_extend_2 _ _)
  (AutoSeq1.list_extend_list_list_0 l its.toArray n b its2.toArray n2 hlong (by rw [zn]; omega) (by omega)) ⟨e,e2,?_⟩
 refine ⟨.non,_,I.lset (its':=its++its2) hH e (by simp) (r.append r2) ?_,rfl,q⟩;rw [zr];omega
def Qh0 (i:Nat) (m:M D):MS:=fun ρ O=>match m ρ O with
 | .ok d O'=>match ρ[i]?,QaU O' d with
  | some (some (.lst ds)),.lst es=>if ds.length+es.length≤1000000 then .nx (ρ.set i (some (.lst (ds++es)))) O' else .no
  | _,_=>.no
 | .ex x O'=>.ex x O'
 | .no=>.no
theorem Qoj {i:Nat}{m:M D}{ρ:Qak}{O:Qab} (K:Frag) (mg:Str→Option Value) {D:Ends}{H F:Hp}{as:List Addr} (k:QeX K mg md P R D H F as (Qh0 i m ρ O)) :
  ∃d O' ds es,m ρ O = .ok d O'∧ρ[i]? = some (some (.lst ds))∧QaU O' d = .lst es∧ds.length+es.length≤1000000∧QeX K mg md P R D H F as (.nx (ρ.set i (some (.lst (ds++es)))) O'):=by
 unfold Qh0 at k;split at k
 ·rename_i d O' e;split at k
  ·rename_i ds es e2 e3;split at k
   ·rename_i hz;exact ⟨d,O',ds,es,e,e2,e3,hz,k⟩
   ·exact False.elim k
  ·exact False.elim k
 ·exact False.elim k
 ·exact False.elim k
theorem Qoq (i:Nat) {x:Str}{p apos cpos pos:Pos}{e:Expr}{m:M D} (h:SE X md P e m) (hm:md[i]? = some .o:=by rfl) (hN:X.N[i]? = some x:=by rfl) (hv:Vis X.env.scope x:=by first | exact Or.inl rfl | exact Or.inr (Or.inl rfl) | exact Or.inr (Or.inr rfl))
  (hd:(x == ("__debug__":Str))=false:=by decide) (hcd:(x == ("__classdict__":Str))=false:=by decide)
  (hbase:attributeBase (.Name x p) "extend" X.env (eval (.Name x p) X.env)=eval (.Name x p) X.env:=by rfl)
  (hfew:((backTo cpos (starEach [e] X.env)).all (fun x=>!x.1)&&(backToKw cpos (keywordEach [] X.env)).all (fun x=>x.1.isSome)&&decide ([e].length+([]:List Keyword).length+(if ([]:List Keyword).isEmpty then 0 else 1) < 30))=true:=by rfl)
  (hline:(apos.endLine == cpos.line)=true:=by rfl) (hs:starEach [e] X.env=(false,eval e X.env)::starEach [] X.env:=by exact Qa1 rfl) (hplain:(backTo cpos (starEach [] X.env)).any (·.1)=false:=by exact Qa5 rfl)
  (hsw:swapsWith (.Call (.Attribute (.Name x p) "extend" apos) [e] [] cpos) none pos.line X.env=pure false:=by rfl) :
  VS X md P R (.Expr (.Call (.Attribute (.Name x p) "extend" apos) [e] [] cpos) pos) (Qh0 i m) :=
 (QjC (Qi0 PySem.F.plainAttrs_list PySem.F.slot_list_extend PySem.F.type_list_extend QqU (QeO (i:=i) hN hv hd hcd) (QbB h Qcg hs) hbase hfew hline hs hplain) hsw).imp fun D σ H q=>by
  obtain ⟨ρ,O,F,as,r,s,k⟩:=q;obtain ⟨d,O',ds,es,e,e2,e3,hz,k⟩:=Qoj X.K X.mg k;obtain ⟨a,xs,h1,h2,h3,h4,h5,h6⟩:=s.own hm e2;refine ⟨_,h1,.inl ⟨rfl,xs,.inl (.inl h2)⟩,ρ,O,F,as,d,O',r,s,e,fun y H1 F1 as1 g1 r1 hy=>?_⟩;have s1:=s.step g1
  have hn:H a≠none:=by rw [h2]; exact fun z=>nomatch z
  have q2:=g1.fr _ _ h2 h4 rfl
  have q3:F1 a=none:=by rw [g1.fz a _ h2 h4 rfl]; exact h3
  have q4:=g1.out h4 hn
  have hn1:H1 a≠none:=by rw [q2]; exact fun z=>nomatch z
  have ly:=Sv.lk hy r1;rw [e3] at ly;obtain ⟨b,zs,rfl,w1,w2⟩:=ly.list r1.fh;exact ⟨a,b,xs,zs,rfl,rfl,q2,w1,by rw [h6.length,w2.length]; exact QdH hz,k σ _ F1 as1 (g1.toS.trans (Qn7 q2 h5)) (r1.mut q3 q4) (s1.mut hm e2 h1 q3 q4 h5 (Rps.append w2 (h6.gr g1)))⟩
end
def putD (f:Str) (v:D):List (Str×D)→List (Str×D)
 | []=>[(f,v)]
 | (g,x)::r=>if g=f then (g,v)::r else (g,x)::putD f v r
section
variable {K:Frag}{F:Hp}{as:List Addr}
theorem FsR.cons_inv {gs:List (Str×V)}{f:Str}{d:D}{fs:List (Str×D)} (h:FsR K F as gs ((f,d)::fs)):∃v gs',gs=(f,v)::gs'∧Rp K F as v d∧FsR K F as gs' fs:=by
 obtain ⟨h1,h2⟩:=h
 cases gs with
 | nil=>cases h1
 | cons g gs' =>
  obtain ⟨g1,g2⟩:=g;simp only [ze,List.cons.injEq] at h1;obtain ⟨x,r,e,h3,h4⟩:=h2.un;simp only [ze,List.cons.injEq] at e;obtain ⟨rfl,rfl⟩:=e;exact ⟨g2,gs',by rw [h1.1],h3,⟨h1.2,h4⟩⟩
theorem FsR.nil_inv {gs:List (Str×V)} (h:FsR K F as gs []):gs = []:=List.map_eq_nil_iff.mp h.nm
theorem FsR.get:∀{fs:List (Str×D)}{gs:List (Str×V)}{f:Str}{d:D},FsR K F as gs fs→fs.lookup f=some d→∃v,gs.lookup f=some v∧Rp K F as v d
 | [],_,_,_,_,e=>by cases e
 | (g,x)::fs,gs,f,d,h,e=>by
  obtain ⟨v,gs',rfl,h1,h2⟩:=h.cons_inv;rw [List.lookup_cons] at e ⊢
  cases q:f == g with
  | true =>
   rw [q] at e;cases e;exact ⟨v,rfl,h1⟩
  | false =>
   rw [q] at e;exact FsR.get h2 e
theorem FsR.no:∀{fs:List (Str×D)}{gs:List (Str×V)}{f:Str},FsR K F as gs fs→fs.lookup f=none→gs.lookup f=none
 | [],_,_,h,e=>by rw [h.nil_inv]; rfl
 | (g,x)::fs,gs,f,h,e=>by
  obtain ⟨v,gs',rfl,h1,h2⟩:=h.cons_inv;rw [List.lookup_cons] at e ⊢
  cases q:f == g with
  | true=>rw [q] at e; cases e
  | false =>
   rw [q] at e;exact FsR.no h2 e
theorem FsR.put {f:Str}{v:V}{d:D} (hv:Rp K F as v d):∀{fs:List (Str×D)}{gs:List (Str×V)},FsR K F as gs fs→FsR K F as (QcV f v gs) (putD f d fs)
 | [],_,h=>by
  rw [h.nil_inv];exact ⟨rfl,Rps.cons hv Rps.nil⟩
 | (g,x)::fs,gs,h=>by
  obtain ⟨u,gs',rfl,h1,h2⟩:=h.cons_inv;rw [QcV,putD]
  by_cases q:g=f
  ·rw [if_pos q,if_pos q];exact ⟨by simp [h2.nm],Rps.cons hv h2.vl⟩
  ·rw [if_neg q,if_neg q];have ih:=FsR.put (f:=f) hv h2;exact ⟨by simp [ih.nm],Rps.cons h1 ih.vl⟩
theorem FsR.length {fs:List (Str×D)}{gs:List (Str×V)} (h:FsR K F as gs fs):gs.length=fs.length:=by
 have:=congrArg List.length h.nm
 simpa using this
theorem RlO.set {mg:Str→Option Value}{O:Qab}{H:Hp}{n:Nat}{a:Addr}{o:Ob}{u:HO} (r:RlO K mg O H F as) (ha:as[n]? = some a) (ho:ObR K mg (upd H a u) F as a o):RlO K mg (O.set n o) (upd H a u) F as:=by
 have hF:=r.fa a (zN ha);refine ⟨fun c w e=>?_,r.fd,r.nd,by rw [zP]; exact r.len,r.fa,fun k c w hc hw=>?_⟩
 ·rw [Qan (Qay e hF)]; exact r.fh c w e
 ·by_cases h:n=k
  ·subst h;rw [ha] at hc; cases hc;rw [zC (by rw [←r.len]; exact (zl.mp ha).1)] at hw;cases hw;exact ho
  ·rw [zo h] at hw
   refine (r.ob k c w hc hw).keep (Qan ?_) (Same.refl F) fun _ _ h=>h
   intro z;subst z;obtain ⟨l1,q1⟩:=zl.mp ha;obtain ⟨l2,q2⟩:=zl.mp hc;exact h ((List.getElem_inj r.nd).mp (q1.trans q2.symm))
end
def KC (K:Frag) (mg:Str→Option Value) (c f:Str):Prop:=∃C,mg c=some (.ref C)∧Cls K C∧Qfm K C f
section
variable {X:Cx}{md:List Md}{P:Pt}{R:RR}
def Qfn (cs:List Str) (f:Str) (m:M D):M D:=fun ρ O=>(m ρ O).bind fun d O1=>match d with
 | .ob n=>match O1[n]? with
  | some (.ins c fs)=>if c∈cs then match fs.lookup f with
   | some y=>.ok y O1
   | none=>.no else .no
  | _=>.no
 | _=>.no
theorem Qeg {cs:List Str}{f:Str}{o:Expr}{pos:Pos}{m:M D} (hc:∀c∈cs,KC X.K X.mg c f) (h:VE X md P o m) (hb:attributeBase o f X.env (eval o X.env)=eval o X.env:=by rfl):VE X md P (.Attribute o f pos) (Qfn cs f m):=(QtE h hb).imp fun σ H Q q=>by
 obtain ⟨ρ,O,F,as,d,O',r,s,e,k⟩:=q;obtain ⟨x,O1,e1,e⟩:=Res.bind_ok e
 cases x with
 | ob n =>
  dsimp only at e;split at e
  ·rename_i c fs eo;split at e
   ·rename_i hcs;split at e
    ·rename_i y ey;cases e;refine ⟨ρ,_,F,as,_,_,r,s,e1,fun v H1 F1 as1 g1 r1 hv=>?_⟩;obtain ⟨a,rfl,ha⟩:=Rp.unO hv;obtain ⟨C,dx,gs,h1,h2,h3⟩:=r1.ob n a _ ha eo;obtain ⟨C',h4,h5,h6⟩:=hc c hcs;rw [h1] at h4; cases h4;obtain ⟨w,h7,h8⟩:=h3.get ey;exact ⟨a,C,dx,gs,w,rfl,h2,h5,h6,h7,k w H1 F1 as1 g1 r1 h8⟩
    ·cases e
   ·cases e
  ·cases e
 | _=>cases e
def QdM (cs:List Str) (f:Str) (mo mv:M D):MS:=fun ρ O=>match mv ρ O with
 | .ok d O1=>match mo ρ O1 with
  | .ok (.ob n) O2=>match O2[n]? with
   | some (.ins c fs)=>if c∈cs∧fs.length < 900 then .nx ρ (O2.set n (.ins c (putD f d fs))) else .no
   | _=>.no
  | _=>.no
 | .ex x O'=>.ex x O'
 | .no=>.no
theorem QeR {cs:List Str}{f:Str}{o value:Expr}{pos pos':Pos}{mo mv:M D} (hc:∀c∈cs,KC X.K X.mg c f) (ho:VE X md P o mo) (hv:VE X md P value mv) (hs:swapsWith value (some (.Attribute o f pos')) pos.line X.env=pure false:=by rfl):VS X md P R (.Assign [.Attribute o f pos'] value pos) (QdM cs f mo mv):=(QsW ho hv hs).imp fun D σ H q=>by
 obtain ⟨ρ,O,F,as,r,s,k⟩:=q;unfold QdM at k;split at k
 ·rename_i d O1 e1;split at k
  ·rename_i n O2 e2;split at k
   ·rename_i c fs eo;split at k
    ·rename_i hcs;refine ⟨ρ,O,F,as,d,O1,r,s,e1,fun y H1 F1 as1 g1 r1 hy=>?_⟩;refine ⟨ρ,O1,F1,as1,.ob n,O2,r1,s.step g1,e2,fun z H2 F2 as2 g2 r2 hz=>?_⟩;have g:=g1.trans g2;obtain ⟨a,rfl,ha⟩:=Rp.unO hz;obtain ⟨C,dx,gs,h1,h2,h3⟩:=r2.ob n a _ ha eo;obtain ⟨C',h4,h5,h6⟩:=hc c hcs.1;rw [h1] at h4; cases h4;have hmem:=zN ha
     have hn:H2 a≠none:=by rw [h2]; exact fun z=>nomatch z
     have gg:Gr H2 F2 as2 (upd H2 a (.ins C dx (QcV f y gs))) F2 as2:=⟨fun _ _ _ _ _=>rfl,Same.refl _,⟨[],by simp,fun _ h=>nomatch h⟩,fun b u e hb _=>by rw [Qan (fun z=>hb (by rw [z]; exact hmem))]; exact e,fun b e=>by
      by_cases h:b=a
      ·subst h; rw [QaD] at e; cases e
      ·rwa [Qan h] at e,fun b o' u e=>by rw [Qan (fun z=>by rw [z,h2] at e; cases e)]; exact e⟩
     refine ⟨a,C,dx,gs,rfl,h2,h5,h6,by rw [h3.length]; omega,?_⟩;exact k σ _ F2 as2 (g.trans gg).toS (r2.set ha ⟨C,dx,_,h1,QaD,h3.put (Rp.gr hy g2)⟩) ((s.step g).step gg)
    ·exact False.elim k
   ·exact False.elim k
  ·exact False.elim k
 ·exact False.elim k
 ·exact False.elim k
end
section
variable {Pr:Program}{w:World}{K:Frag}{mg:Str→Option Value}{base:Heap}
theorem Qsl {x qual:Str}{st:Stmt}{f:Addr}{fd:FuncData}{N ps:List Str}{k:Nat} (Fn:Fun K x qual st f fd) (S:QaK N ps (Qah st))
  (pm lm:List Md) {R:RR}{b:MS} (hR:Qca R) (hR0:∀N H F as,R N H F as .non .non) (hpl:pm.length=ps.length) (hl:(pm++lm).length=N.length) (hp:∀m∈pm,m≠.o)
  (body:∀(cdv:Value) (A:Around) (outer:List Env) (s:Shared) (H:Hp) (E:XK),QaJ k (A.deeper (envOfC qual (Qah st) s.heap.objs.size f cdv))→∀P,VSs ((Qb7 CX0 Pr w K mg base N qual (Qah st) f cdv A outer s H E).nox) (pm++lm) P R (QaP st) b) :
  Qby Pr w K mg base CX0 (k+1) f fd ps (vSp K mg pm R (Qbc N.length b)):=by
 refine Fn.ok S (fun vs H Q E h=>?_) (fun cdv A outer s H vs Q E hr h=>?_)
 ·obtain ⟨ds,O,F,as,d,O',r,a,_⟩:=h;rw [a.len.1,hpl]
 ·obtain ⟨ds,O,F,as,d,O',r,a,e,q⟩:=h;refine ⟨_,body cdv A outer s H E hr (Pt.all H),?_⟩;refine ⟨_,O,F,as,r,QeH a hl hp,?_⟩;unfold Qbc at e
  cases eb:b (ds.map some++List.replicate (N.length - ds.length) none) O with
  | rt d' O2 =>
   rw [eb] at e;cases e
   exact fun v H' F' as' g r' hv=>q v H' F' as' g.gr r' (hR _ _ _ _ _ _ _ (fun c hc=>je.mp hc) hv)
  | nx ρ O2 =>
   rw [eb] at e;cases e
   exact fun σ' H' F' as' g r' _=>q _ H' F' as' g.gr r' (hR0 _ _ _ _)
  | bk _ _=>rw [eb] at e; cases e
  | ct _ _=>rw [eb] at e; cases e
  | ex _ _=>rw [eb] at e; cases e
  | no=>rw [eb] at e; cases e
def QiG (K:Frag) (mg:Str→Option Value) (c m qual:Str) (st:Stmt):Prop:=∃C f fd,mg c=some (.ref C)∧Cls K C∧QiF K C m f∧Fun K m qual st f fd
def QfD (P:Program) (w:World) (K:Frag) (mg:Str→Option Value) (base:Heap) (c m:Str) (ps:List Str) (k:Nat) (sp:Sp):Prop :=
 ∃C f fd,mg c=some (.ref C)∧Cls K C∧QiF K C m f∧Binds K fd ps []∧Qby P w K mg base CX0 k f fd ps sp
def Qpe (P:Program) (w:World) (K:Frag) (mg:Str→Option Value) (base:Heap) (c:Str) (ps:List Str) (k:Nat) (sp:Sp):Prop :=
 ∃C f fd,mg c=some (.ref C)∧Mk K C f∧Binds K fd ps []∧Qby P w K mg base CX0 k f fd ps sp
def QoY (K:Frag) (mg:Str→Option Value) (c qual:Str) (st:Stmt):Prop:=∃C f fd,mg c=some (.ref C)∧Mk K C f∧Fun K "__init__" qual st f fd
theorem Qnd {c x qual:Str}{st:Stmt}{N ps:List Str}{k:Nat} (Df:QiG K mg c x qual st) (S:QaK N ps (Qah st))
  (hb:∀(kV doc pm:Value) (an:Option Addr) (cdv ct:Value) (us:List Value),us.length=ps.length→bindArgs (PySem.W.fnOf x qual (Qba st) (QaP st) (Qah st) .none kV doc pm an cdv ct) ⟨us,[]⟩=pure (ps.zip us))
  (pm lm:List Md) {R:RR}{b:MS} (hR:Qca R) (hR0:∀N H F as,R N H F as .non .non) (hpl:pm.length=ps.length:=by rfl) (hl:(pm++lm).length=N.length:=by rfl) (hp:∀m∈pm,m≠.o:=by decide)
  (body:∀(f:Addr) (cdv:Value) (A:Around) (outer:List Env) (s:Shared) (H:Hp) (E:XK),QaJ k (A.deeper (envOfC qual (Qah st) s.heap.objs.size f cdv))→∀P,VSs ((Qb7 CX0 Pr w K mg base N qual (Qah st) f cdv A outer s H E).nox) (pm++lm) P R (QaP st) b) :
  QfD Pr w K mg base c x ps (k+1) (vSp K mg pm R (Qbc N.length b)):=by
 obtain ⟨C,f,fd,h1,h2,h3,h4⟩:=Df;exact ⟨C,f,fd,h1,h2,h3,h4.binds hb,Qsl h4 S pm lm hR hR0 hpl hl hp (body f)⟩
theorem Quk {c qual:Str}{st:Stmt}{N ps:List Str}{k:Nat} (Df:QoY K mg c qual st) (S:QaK N ps (Qah st))
  (hb:∀(kV doc pm:Value) (an:Option Addr) (cdv ct:Value) (us:List Value),us.length=ps.length→bindArgs (PySem.W.fnOf "__init__" qual (Qba st) (QaP st) (Qah st) .none kV doc pm an cdv ct) ⟨us,[]⟩=pure (ps.zip us))
  (pm lm:List Md) {R:RR}{b:MS} (hR:Qca R) (hR0:∀N H F as,R N H F as .non .non) (hpl:pm.length=ps.length:=by rfl) (hl:(pm++lm).length=N.length:=by rfl) (hp:∀m∈pm,m≠.o:=by decide)
  (body:∀(f:Addr) (cdv:Value) (A:Around) (outer:List Env) (s:Shared) (H:Hp) (E:XK),QaJ k (A.deeper (envOfC qual (Qah st) s.heap.objs.size f cdv))→∀P,VSs ((Qb7 CX0 Pr w K mg base N qual (Qah st) f cdv A outer s H E).nox) (pm++lm) P R (QaP st) b) :
  Qpe Pr w K mg base c ps (k+1) (vSp K mg pm R (Qbc N.length b)):=by
 obtain ⟨C,f,fd,h1,h2,h4⟩:=Df;exact ⟨C,f,fd,h1,h2,h4.binds hb,Qsl h4 S pm lm hR hR0 hpl hl hp (body f)⟩
end
section
variable {X:Cx}{md:List Md}{P:Pt}{R:RR}{k:Nat}{c m:Str}{ps:List Str}{p pos apos:Pos}{o e:Expr}{es:List Expr}{pm:List Md}{cf:List D→Qab→Res D}{mo:M D}{ma:M (List D)}
def Qb0 (c m:Str) (cf:List D→Qab→Res D) (mo:M D) (ma:M (List D)):M D:=fun ρ O=>(mo ρ O).bind fun d O1=>match d with
 | .ob n=>match O1[n]? with
  | some (.ins c' fs)=>if c'=c∧(fs.lookup m).isNone=true then (ma ρ O1).bind fun ds O2=>cf (.ob n::ds) O2 else .no
  | _=>.no
 | _=>.no
theorem QlN {K:Frag}{mg:Str→Option Value}{C:Addr} (hR:Qca R) (hC:mg c=some (.ref C)) {E:XK}{σ:St}{H:Hp}{Q:VK} (q:tM K mg md P R (Qb0 c m cf mo ma) σ H Q) :
  Qkt C m (vSp K mg (.v::pm) R cf) [] E (tM K mg md P (rV K) mo) (tMA K mg md P pm ma) σ H Q:=by
 obtain ⟨ρ,O,F,as,d,O',r,s,e,k⟩:=q;obtain ⟨x,O1,e1,e⟩:=Res.bind_ok e
 cases x with
 | ob n =>
  dsimp only at e;split at e
  ·rename_i c' fs eo;split at e
   ·rename_i hc;obtain ⟨ds,O2,e2,e⟩:=Res.bind_ok e;refine ⟨ρ,O,F,as,.ob n,O1,r,s,e1,fun v H1 F1 as1 g1 r1 hv=>?_⟩;obtain ⟨a,rfl,ha⟩:=Rp.unO hv;obtain ⟨C',dx,gs,h1,h2,h3⟩:=r1.ob n a _ ha eo;rw [hc.1,hC] at h1; cases h1;refine ⟨a,dx,gs,rfl,h2,h3.no (Option.isNone_iff_eq_none.mp hc.2),?_⟩;refine ⟨ρ,O1,F1,as1,ds,O2,r1,s.step g1,e2,fun vs H2 F2 as2 g2 r2 hvs=>?_⟩;dsimp only;rw [zx];exact ⟨.ob n::ds,O2,F2,as2,d,O',r2,⟨Rp.gr hv g2,hvs⟩,e,fun v' H' F' as' g' r' hw=>k v' H' F' as' ((g1.trans g2).trans g') r' (hR _ _ _ _ _ _ _ (fun b hb=>(g1.trans g2).dm b hb) hw)⟩
   ·cases e
  ·cases e
 | _=>cases e
theorem Qrr {pl:Sem Bool} (hR:Qca R) (M:QfD X.prog X.w X.K X.mg X.base c m ps k (vSp X.K X.mg (.v::pm) R cf)) (hr:QaJ k X.A) (ho:VE X md P o mo) (ha:AE X md P pm (e::es) ma)
  (hst:starEach (e::es) X.env=(false,eval e X.env)::starEach es X.env:=by exact Qa1 rfl) (hpl:(backTo pos (starEach es X.env)).any (·.1)=false:=by exact Qa5 rfl)
  (ht:eval (.Call (.Attribute o m apos) (e::es) [] pos) X.env=(do
   let ov ←eval o X.env
   standAt apos.atName
   let (f,first) ←holding [ov] (getMethod ov m pl)
   callWith pos f first (backTo pos (starEach (e::es) X.env)) (backToKw pos (keywordEach [] X.env))):=by rfl) :
  PE X (.Call (.Attribute o m apos) (e::es) [] pos) (tM X.K X.mg md P R (Qb0 c m cf mo ma)):=by
 obtain ⟨C,f,fd,h1,h2,h3,h4,h5⟩:=M
 exact (QlV (pl:=pl) (E:=E0) (ds:=[]) (dvs:=[]) ho h2 h3 h5 hr h4 .nil Qi1 ha hst hpl ht).imp fun _ _ _ q=>QlN hR h1 q
theorem QoX {pl:Sem Bool} (hR:Qca R) (M:QfD X.prog X.w X.K X.mg X.base c m ps k (vSp X.K X.mg [.v] R cf)) (hr:QaJ k X.A) (ho:VE X md P o mo)
  (ht:eval (.Call (.Attribute o m apos) [] [] pos) X.env=(do
   let ov ←eval o X.env
   standAt apos.atName
   let (f,first) ←holding [ov] (getMethod ov m pl)
   callWith pos f first (backTo pos (starEach [] X.env)) (backToKw pos (keywordEach [] X.env))):=by rfl) :
  PE X (.Call (.Attribute o m apos) [] [] pos) (tM X.K X.mg md P R (Qb0 c m cf mo Qaf)):=by
 obtain ⟨C,f,fd,h1,h2,h3,h4,h5⟩:=M
 refine (Qpr (pl:=pl) (E:=E0) (ds:=[]) (dvs:=[]) ho h2 h3 h5 hr h4 .nil Qi1 ht).imp fun σ H Q q=>?_
 obtain ⟨ρ,O,F,as,d,O',r,s,e,k⟩:=QlN (pm:=[]) (E:=E0) hR h1 q;refine ⟨ρ,O,F,as,d,O',r,s,e,fun v H' F' as' g r' hv=>?_⟩;obtain ⟨a,dx,fs,e1,e2,e3,t⟩:=k v H' F' as' g r' hv;refine ⟨a,dx,fs,e1,e2,e3,?_⟩;obtain ⟨ρ1,O1,F1,as1,ds1,O2,r1,s1,e4,k4⟩:=t;cases e4;exact k4 [] H' F1 as1 Gr.refl r1 trivial
def Qfc (c:Str) (cf:List D→Qab→Res D) (ma:M (List D)):M D:=fun ρ O=>(ma ρ O).bind fun ds O1=>match cf (.ob O1.length::ds) (O1 ++ [.ins c []]) with
 | .ok .non O2=>.ok (.ob O1.length) O2
 | .ok _ _=>.no
 | .ex x O2=>.ex x O2
 | .no=>.no
theorem Qq8 {K:Frag}{mg:Str→Option Value}{C:Addr} (hC:mg c=some (.ref C)) {E:XK}{σ:St}{H:Hp}{Q:VK} (q:tM K mg md P (rV K) (Qfc c cf ma) σ H Q) :
  Qqf C (vSp K mg (.v::pm) (rV K) cf) [] E (tMA K mg md P pm ma) σ H Q:=by
 obtain ⟨ρ,O,F,as,d,O',r,s,e,k⟩:=q;obtain ⟨ds,O1,e1,e⟩:=Res.bind_ok e;split at e
 ·rename_i O2 ec;cases e;refine ⟨ρ,O,F,as,ds,O1,r,s,e1,fun vs H1 F1 as1 g1 r1 hvs=>?_⟩;intro x dx hx hdx hne;rw [zx]
  have hx2:upd H1 dx (.own x) x=none:=by rw [Qan hne.symm]; exact hx
  have gA:Gr H1 F1 as1 (upd H1 dx (.own x)) F1 as1:=Gr.lay hdx;have gB:Gr (upd H1 dx (.own x)) F1 as1 (upd (upd H1 dx (.own x)) x (.ins C dx [])) F1 as1:=Gr.lay hx2;have gC:Gr (upd (upd H1 dx (.own x)) x (.ins C dx [])) F1 as1 (upd (upd H1 dx (.own x)) x (.ins C dx [])) F1 as1:=Gr.refl;have gAB:=gA.trans gB;have g2:Gr H1 F1 as1 (upd (upd H1 dx (.own x)) x (.ins C dx [])) F1 (as1 ++ [x]):=⟨gAB.fz,gAB.ff,⟨[x],rfl,fun a ha=>by rw [zB.mp ha]; exact hx⟩,fun a o e ha hd=>gAB.fr a o e ha hd,gAB.dm,gAB.kz⟩
  have nx:x∉as1:=fun z=>r1.all z hx
  have rB:=(r1.lay (o:=.own x) hdx).lay (o:=.ins C dx []) hx2
  have at_:∀(n:Nat) (a:Addr),as1[n]? = some a→(as1 ++ [x])[n]? = some a:=fun n a h=>by
   rw [zz (zl.mp h).1]; exact h
  have r2:RlO K mg (O1 ++ [.ins c []]) (upd (upd H1 dx (.own x)) x (.ins C dx [])) F1 (as1 ++ [x]):=by
   refine ⟨rB.fh,rB.fd,?_,by simp [r1.len],fun a ha=>?_,fun n a o ha ho=>?_⟩
   ·rw [List.nodup_append];refine ⟨r1.nd,by simp,fun a ha b hb=>?_⟩;rw [zB.mp hb];intro z;subst z;exact nx ha
   ·rcases zA.mp ha with z | z
    ·exact r1.fa a z
    ·rw [zB.mp z];exact r1.frF hx
   ·by_cases hn:n < O1.length
    ·rw [zz (by rw [r1.len]; exact hn)] at ha;rw [zz hn] at ho;exact (rB.ob n a o ha ho).keep rfl (Same.refl _) at_
    ·have hn':n=O1.length:=by
      have:=(zl.mp ho).1
      simp at this
      omega
     subst hn';rw [zy (zc _),Nat.sub_self] at ho;rw [←r1.len,zy (zc _),Nat.sub_self] at ha;cases ho;cases ha;exact ⟨C,dx,[],hC,QaD,⟨rfl,Rps.nil⟩⟩
  have hox:Rp K F1 (as1 ++ [x]) (.ref x) (.ob O1.length):=Rp.mkO (by rw [←r1.len,zy (zc _),Nat.sub_self]; rfl);refine ⟨.ob O1.length::ds,_,F1,as1 ++ [x],.non,_,r2,⟨hox,hvs.gr g2⟩,ec,fun v H3 F3 as3 g3 r3 hv=>?_⟩;exact ⟨Rp.unN hv,k _ H3 F3 as3 ((g1.trans g2).trans g3) r3 (Rp.gr hox g3)⟩
 ·cases e
 ·cases e
 ·cases e
theorem Qlb (M:Qpe X.prog X.w X.K X.mg X.base c ps k (vSp X.K X.mg [.v] (rV X.K) cf)) (hr:QaJ (k+1) X.A) (hg:Gl X c:=by rfl) (hdb:(c == ("__debug__":Str))=false:=by decide):VE X md P (.Call (.Name c p) [] [] pos) (Qfc c cf Qaf):=by
 obtain ⟨C,f,fd,h1,h3,h4,h5⟩:=M
 refine (Qqb (E:=E0) (ds:=[]) (dvs:=[]) h3 h5 hr hg h1 h4 .nil Qi1 hdb).imp fun σ H Q q=>?_
 obtain ⟨ρ,O,F,as,ds,O1,r,s,e,k⟩:=Qq8 (pm:=[]) (E:=E0) h1 q;cases e;exact k [] H F as Gr.refl r trivial
end
section
variable {X:Cx}{md:List Md}{P:Pt}{R:RR}
def QfI:D→Option (List D)
 | .lst ds=>some ds
 | .tup ds=>some ds
 | .str l=>if ascii l=true then some (QaX l) else none
 | _=>none
def QcH (m:M D):M (List D):=fun ρ O=>(m ρ O).bind fun d O1=>match QfI d with
 | some ds=>.ok ds O1
 | none=>.no
theorem Qmo {e:Expr}{m:M D} (h:WE X md P e m):SE X md P e m:=h.imp fun σ H Q q=>by
 obtain ⟨ρ,O,F,as,d,O',r,s,e,k⟩:=q;refine ⟨ρ,O,F,as,d,O',r,s,e,fun v H' F' as' g r' hv=>k v H' F' as' g r' ?_⟩
 rcases hv with hv | ⟨a,xs,ds,e1,e2,e3,e4,e5,e6⟩
 ·exact .inl hv
 ·exact .inr ⟨a,xs,ds,e1,e2,e3,e4,e6⟩
theorem QiQ {tg e:Expr}{m:M D} (h:WE X md P e m):VI X md P tg e (QcH m):=fun pins s σ H Q I q=>by
 obtain ⟨ρ,O,F,as,ds,O',r,sl,e,k⟩:=q;obtain ⟨d,O1,e1,e⟩:=Res.bind_ok e
 cases d with
 | lst es =>
  cases e;exact Qrd h pins s σ H Q I ⟨ρ,O,F,as,_,_,r,sl,by unfold Qkx; rw [e1]; rfl,k⟩
 | tup es =>
  cases e;exact QnZ (Qb6 (Qmo h)) pins s σ H Q I ⟨ρ,O,F,as,_,_,r,sl,by unfold Qm4 mG; rw [e1]; rfl,k⟩
 | str l =>
  simp only [QfI] at e;split at e
  ·rename_i es hes;split at hes
   ·rename_i hl;cases hes;cases e;refine Qnx (Qmo h) pins s σ H Q I ⟨ρ,O,F,as,QaX l,_,r,sl,?_,k⟩;unfold Qnb;rw [e1];show (if ascii l=true then _ else _)=_;rw [if_pos hl]
   ·cases hes
  ·cases e
 | _=>cases e
theorem Qo9 {tg e:Expr}{m:M D} (h:SE X md P e m):VIc X md P tg e (Qkx m):=(Qmb h).imp fun σ H Q q=>by
 obtain ⟨ρ,O,F,as,ds,O',r,s,e,k⟩:=q;obtain ⟨d,O1,e1,e⟩:=Res.bind_ok e
 cases d with
 | lst es =>
  cases e;refine ⟨ρ,_,F,as,_,_,r,s,e1,fun v H1 F1 as1 g1 r1 hv=>?_⟩
  obtain ⟨a,xs,rfl,h1,h2⟩:∃a xs,v = .ref a∧Rps X.K F1 as1 xs ds∧∀(H2 F2:Hp) (as2:List Addr),Gr H1 F1 as1 H2 F2 as2→(∃O,RlO X.K X.mg O H2 F2 as2)→RdK X.K H2 a xs:=by
   rcases hv with hv | ⟨a,xs,ds',rfl,e,e3,e4,e6⟩
   ·obtain ⟨a,xs,rfl,h1,h2⟩:=hv.unL;exact ⟨a,xs,rfl,h2,fun H2 F2 as2 g ⟨O,r⟩=>(h1.mono g.ff).mono r.fh⟩
   ·cases e;exact ⟨a,xs,rfl,e6,fun H2 F2 as2 g _=>.inl (.inl (g.fr _ _ e3 e4 rfl))⟩
  refine ⟨a,rfl,⟨xs,(h2 H1 F1 as1 Gr.refl ⟨_,r1⟩).sq⟩,k _ H1 F1 as1 g1 r1 ⟨fun i d H2 F2 as2 g r e=>?_,fun H2 F2 as2 g r=>⟨xs,(h2 H2 F2 as2 g r).sq,by rw [h1.length]; exact zc _⟩⟩⟩;obtain ⟨x,h3,h4⟩:=h1.get' e;have q:=h2 H2 F2 as2 g r;refine ⟨⟨xs,x,q.sq,h3⟩,fun y H3 hy=>?_⟩;obtain ⟨rfl,hy⟩:=hy
  have:=hy xs q.sq
  rw [h3] at this;cases this;exact ⟨F2,Gr.refl,fun _ r=>r,h4.gr g⟩
 | _=>cases e
theorem QqW {tg e:Expr}{m:M D} (h:SE X md P e m):VIc X md P tg e (QcH m):=fun pins s σ H Q I q=>by
 obtain ⟨ρ,O,F,as,ds,O',r,sl,e,k⟩:=q;obtain ⟨d,O1,e1,e⟩:=Res.bind_ok e
 cases d with
 | lst es =>
  cases e;exact Qo9 h pins s σ H Q I ⟨ρ,O,F,as,_,_,r,sl,by unfold Qkx; rw [e1]; rfl,k⟩
 | tup es =>
  cases e;exact QkZ (QnZ (Qb6 h)) pins s σ H Q I ⟨ρ,O,F,as,_,_,r,sl,by unfold Qm4 mG; rw [e1]; rfl,k⟩
 | str l =>
  simp only [QfI] at e;split at e
  ·rename_i es hes;split at hes
   ·rename_i hl;cases hes;cases e;refine QkZ (Qnx h) pins s σ H Q I ⟨ρ,O,F,as,QaX l,_,r,sl,?_,k⟩;unfold Qnb;rw [e1];show (if ascii l=true then _ else _)=_;rw [if_pos hl]
   ·cases hes
  ·cases e
 | _=>cases e
def QgN (m:M D):M (List D):=fun ρ O=>(m ρ O).bind fun d O1=>match d with
 | .lst ds=>.ok (QbH 0 ds) O1
 | .str l=>if ascii l=true then .ok (QbH 0 (QaX l)) O1 else .no
 | _=>.no
variable {elts:List Expr}{x1:Nat}{tpos:Pos}
theorem QlI {a:Expr}{p pos:Pos}{m:M D} (hm:X.mg "enumerate" = none) (h:WE X md P a m) (hg:Gl X "enumerate":=by rfl) (hs:starEach [a] X.env = [(false,eval a X.env)]:=by exact Qh4 rfl) (hs':starEach [a] X.env=(false,eval a X.env)::starEach [] X.env:=by exact Qa1 rfl) :
  VI X md P (.Tuple elts x1 tpos) (.Call (.Name "enumerate" p) [a] [] pos) (QgN m):=fun pins s σ H Q I q=>by
 obtain ⟨ρ,O,F,as,ds,O',r,sl,e,k⟩:=q;obtain ⟨d,O1,e1,e⟩:=Res.bind_ok e
 cases d with
 | lst es =>
  cases e;exact QpU hm h hg hs hs' pins s σ H Q I ⟨ρ,O,F,as,_,_,r,sl,by unfold QnV; rw [e1]; rfl,k⟩
 | str l=>exact QpH hm (Qmo h) hg hs hs' pins s σ H Q I ⟨ρ,O,F,as,ds,O',r,sl,by unfold Qnu; rw [e1]; exact e,k⟩
 | _=>cases e
def Pt.with (P:Pt) (a:Addr) (i:Nat) (d:D) (l:List (Nat×V×D)):Pt:=⟨fun c=>P c∨c=a,(i,.ref a,d)::(l++P.ss)⟩
end
theorem Qon {P:Program}{w:World}{K:PySem.W.Frag}{mg mb:Str→Option Value}{CX:CXT}{k:Nat}{fa a:Addr}{fd:FuncData}{x:Str}{sp:Sp}{s₁:Shared}{vs:List Value}{ns:List Int}
  (KX:K.In s₁.heap) (hns:s₁.heap.Ns mainGlobals mg) (hb:s₁.heap.Ns builtinsNs mb) (hbb:∀x:Str,x≠"__name__"→mb x=bootBuiltins x) (hlim:s₁.heap.NoLimit) (hg:s₁.gens = #[])
  (ha:s₁.heap.get? a=some { cls:=.type "list",data:=.seq vs.toArray }) (hi:IntsAre vs ns) (hl:ns.length≤sizeLine) (hr:QaJ k callerA)
  (F:∀base:Heap,K.In base→base.Ns mainGlobals mg→Qby P w K mg base CX k fa fd [x] sp) (hbind:∀(s:Shared) (u:Value),BindsTo s fd ⟨[u],[]⟩ [(x,u)])
  (hsp:∀H:Hp,Qiy H→RdK K H a (ns.map V.int)→sp [.ref a] H (fun v _=>v = .bl true) fun _ _ _=>False)
  (hCX:∀H e s',CX [] H s₁ (fun _ _ _=>False) e s'→False) :
  codeAny (model P w) callerA (.call (.ref fa) ⟨[.ref a],[]⟩) (fun r s'=>r = .ok (.ret (.bool true))∧OldK s₁.heap s'.heap∧s'.os=s₁.os∧AllBare s'.gens) s₁:=by
 have rv:=QhZ hi;have lenV:=hi.length;have core:∀H:Hp,Qiy H→RdK K H a (ns.map V.int)→HOk P w H s₁.heap→(∀b,H b≠none→b=a)→(H a≠none→K.lookup a=none) →
   codeAny (model P w) callerA (.call (.ref fa) ⟨[.ref a],[]⟩) (fun r s'=>r = .ok (.ret (.bool true))∧OldK s₁.heap s'.heap∧s'.os=s₁.os∧AllBare s'.gens) s₁:=by
  intro H hO hS hok hA hK
  have base_of:∀{b:Addr}{o:Obj},s₁.heap.get? b=some o→H b=none→(Qen s₁.heap H).get? b=some o:=fun e n=>Qk1 e n
  have noA:∀{b:Addr}{o:Obj}{es:Array DictEntry}{ep:Nat},s₁.heap.get? b=some o→o.data = .dict es ep→H b=none:=fun {b o es ep} e d=>by
   cases q:H b with
   | none=>rfl
   | some u =>
    have e':b=a:=hA b (by rw [q]; simp);subst e';rw [ha] at e; cases e;have d':Data.seq vs.toArray _=Data.dict es ep:=d;cases d'
  have nsK:∀{b:Addr}{m:Str→Option Value},s₁.heap.Ns b m→(Qen s₁.heap H).Ns b m:=fun {b m} ⟨o,es,ep,e,d,r⟩=>⟨o,es,ep,base_of e (noA e d),d,r⟩
  have hKb:K.In (Qen s₁.heap H):=fun b o e=>base_of (KX b o e) (by
   cases q:H b with
   | none=>rfl
   | some u =>
    have e':b=a:=hA b (by rw [q]; simp);subst e'
    rw [hK (by rw [q]; simp)] at e; cases e)
  have hM:Mod K mg (Qen s₁.heap H):=⟨hKb,nsK hns,⟨mb,nsK hb,hbb⟩,let ⟨mc,h1,h2⟩:=hlim; ⟨mc,nsK h1,h2⟩⟩;have e0:QdO P w K mg (Qen s₁.heap H) callerA [] s₁ H:=⟨rfl,hM,fun b o e=>QlH e,Nat.le_of_eq (Qj6 _ _),trivial,fun b hb=>absurd (show b∈([]:List Addr) from hb) (by simp),hok,.of_eq hg⟩
  refine codeAny_mono ((F _ hKb (nsK hns)).run callerA [] s₁ H ⟨[.ref a],[]⟩ [.ref a] [.ref a] _ _ hr e0 (hbind s₁ (.ref a)) (.cons rfl .nil) (hsp H hO hS)) fun r s' h=>?_
  cases r with
  | error e=>exact (hCX H e s' h).elim
  | ok fl =>
   cases fl with
   | next=>exact False.elim h
   | brk=>exact False.elim h
   | cont=>exact False.elim h
   | ret u =>
    obtain ⟨v,H',os,bare,un,hok',r',q⟩:=h;have q':v = .bl true:=q;subst q';obtain rfl:u=Value.bool true:=r';refine ⟨rfl,OldK.of_keep fun b o e=>?_,os,bare⟩
    cases q:H b with
    | none=>exact un.keep b o e q (by intro z; exact absurd (show b∈([]:List Addr) from z) (by simp)) (by simp)
    | some u =>
     rcases hO b with z | ⟨ob,xs,z⟩
     ·rw [q] at z; cases z
     ·have z2:=un.frzs b ob _ z;obtain ⟨e1,_⟩:=hok b _ z;obtain ⟨e2,_⟩:=hok' b _ z2;rw [e] at e1; cases e1;exact e2
 cases hk:K.lookup a with
 | some o =>
  have e:=KX a o hk;rw [ha] at e;cases e
  refine core (fun _=>none) (fun _=>.inl rfl) (.inr ⟨vs,_,hk,by rw [lenV]; exact hl,rv⟩) (fun b u z=>by have z':(none:Option HO)=some u:=z; cases z') (fun b z=>absurd rfl z) fun z=>absurd rfl z
 | none =>
  refine core (fun b=>if b=a then some (.frz { cls:=.type "list",data:=.seq vs.toArray } (.lst (ns.map V.int))) else none) (fun b=>?_) (.inl (.inr ⟨{ cls:=.type "list",data:=.seq vs.toArray },if_pos rfl⟩)) (fun b u z=>?_) (fun b z=>?_) fun _=>hk
  ·by_cases hb:b=a
   ·exact .inr ⟨_,_,if_pos hb⟩
   ·exact .inl (if_neg hb)
  ·by_cases hb:b=a
   ·have z':=(if_pos hb).symm.trans z;cases z';subst hb;exact ⟨ha,by rw [zI]; exact hl,vs,_,rv,ha⟩
   ·have z':=(if_neg hb).symm.trans z;cases z'
  ·by_cases hb:b=a
   ·exact hb
   ·exact absurd (if_neg hb) z
theorem walk_ofR {l:PySem.W.OpenLaw}{n k:Nat}{q:Program}{loose:List Str}{XP:(Str→Option Value)→Heap→Prop}{YP:World→Heap→Prop}{d:DefRec}{K:Params→PySem.W.Frag}{CX:World→CXT}{sp:World→Sp}{x:Str}
  (hn:l.most=some n) (hn2:n≤sizeLine) (hdf:d.params.defaults = []) (hr:QaJ k callerA)
  (hY:∀(w:World) (h:Heap),YP w h→(K w.params).In h)
  (F:∀(w:World) (mg:Str→Option Value) (fa:Addr) (h:Heap),(K w.params).In h→h.Ns mainGlobals mg→mg d.name=some (.ref fa) →
   ∃fd:FuncData,(∀(s:Shared) (u:Value),BindsTo s fd ⟨[u],[]⟩ [(x,u)]) ∧
    ∀base:Heap,(K w.params).In base→base.Ns mainGlobals mg→Qby l.prog w (K w.params) mg base (CX w) k fa fd [x] (sp w))
  (hsp:∀(w:World) (H:Hp) (a:Addr) (ns:List Int),ns.length≤n→Qiy H→RdK (K w.params) H a (ns.map V.int)→sp w [.ref a] H (fun v _=>v = .bl true) fun _ _ _=>False)
  (hCX:∀(w:World) (H:Hp) (s:Shared) (e:Value) (s':Shared),CX w [] H s (fun _ _ _=>False) e s'→False) :
  PySem.W.WalkO q loose XP YP l.row.toRowW d [] (fun f vs=>PySem.call f vs):=by
 refine Att.attach_call hn hdf fun w s₀ s₁ mg mb fa o pm cd doc a vs ns G Y ho hd hcd hmg hobj hints hlen hg=>?_
 have KX:=hY w _ Y;obtain ⟨fd,hb,hF⟩:=F w mg fa _ KX G.T.g hmg
 exact Qon KX G.T.g G.T.b G.T.builtins G.T.nolimit hg hobj hints (zt hlen hn2) hr hF hb (fun H hO hS=>hsp w H a ns hlen hO hS) fun H e s'=>hCX w H s₁ e s'
theorem Qb2 {K:Frag}{mg:Str→Option Value}{f:Str}:∀c∈([]:List Str),KC K mg c f:=fun _ h=>nomatch h
theorem QbK {K:Frag}{mg:Str→Option Value}{f c:Str}{cs:List Str} (h:KC K mg c f) (hr:∀c∈cs,KC K mg c f):∀c'∈c::cs,KC K mg c' f:=fun c' hc=>by
 rcases zj.mp hc with rfl | hc
 ·exact h
 ·exact hr c' hc
def wF:Nat:=1000000
def sp_law (K:Frag):Sp:=fun vs H Q _=>∃(a:Addr) (ns:List Int),vs = [.ref a]∧RdK K H a (ns.map V.int)∧ns.length≤63∧Qiy H∧∀H',Q (.bl true) H'
theorem Rps.ofInts {K:Frag}{F:Hp}{as:List Addr}:∀ns:List Int,Rps K F as (ns.map V.int) (ns.map D.int)
 | []=>Rps.nil
 | n::ns=>Rps.cons Rp.int (Rps.ofInts ns)
theorem QqV {K:Frag}{mg:Str→Option Value}{c:List D→Qab→Res D} (h:∀ns:List Int,ns.length≤63→∃O',c [.lst (ns.map D.int)] [] = .ok (.bl true) O'):∀vs H Q E,sp_law K vs H Q E→vSp K mg [.s] (rV K) c vs H Q E:=by
 rintro vs H Q E ⟨a,ns,rfl,hS,hl,hO,q⟩;obtain ⟨O',e⟩:=h ns hl
 have r:RlO K mg [] H H []:=⟨Same.refl H,fun b o e=>by
  rcases hO b with z | ⟨o',xs,z⟩
  ·rw [e] at z; cases z
  ·rw [e] at z; cases z; rfl,List.nodup_nil,rfl,(fun _ z=>nomatch z),fun n b o z=>by cases z⟩
 refine ⟨[.lst (ns.map D.int)],[],H,[],.bl true,O',r,⟨.inl (Rp.mkL hS (Rps.ofInts ns)),trivial⟩,e,fun v H' F' as' g r' hv=>?_⟩;rw [Rp.unB hv];exact q H'
def keyOf:D→Option Key
 | .int i=>some (.inl i)
 | .str l=>some (.inr (S l))
 | _=>none
theorem Qq9 {d:D}{k:Key} (h:keyOf d=some k):Qm1 k=d:=by
 cases d with
 | int i=>cases h; rfl
 | str l=>cases h; show D.str (S l).cps.toList=_; rw [Qdq]
 | _=>cases h
theorem Rp.key {K:Frag}{F:Hp}{as:List Addr}{v:V}{d:D}{k:Key} (h:Rp K F as v d) (e:keyOf d=some k):v=kV k:=by
 cases d with
 | int i=>cases e; exact h.unI
 | str l=>cases e; exact h.unS
 | _=>cases e
section
variable {X:Cx}{md:List Md}{P:Pt}
theorem QrE {pos:Pos}:VE X md P (.Dict [] [] pos) (mC (.dic [] [])):=QpT.imp fun σ H Q q=>by
 obtain ⟨ρ,O,F,as,d,O',r,s,e,k⟩:=q;cases e;intro p hp;have hF:=r.frF hp;refine k _ _ (upd F p (.dK [])) as ((Gr.lay hp).frz hp hF) ((r.lay hp).frz QaD hF (fun z=>r.all z hp) rfl) ?_;show Rp X.K _ _ _ _;rw [Rp];exact ⟨p,[],rfl,QaD,rfl,Rps.nil⟩
def Prs (K:Frag) (F:Hp) (as:List Addr):List (V×V)→List (D×D)→Prop
 | [],[]=>True
 | p::ps,d::ds=>Rp K F as p.1 d.1∧Rp K F as p.2 d.2∧Prs K F as ps ds
 | _,_=>False
def DPE (X:Cx) (md:List Md) (P:Pt) (pos:Pos) (keys:List (Option Expr)) (values:List Expr) (m:M (List (D×D))):Prop:=∃trs:List (TE×TE),
 PPs X pos keys values trs∧∀σ H Q,(∃ρ O F as kv O',RlO X.K X.mg O H F as∧SlO X.K md P ρ σ H F as∧m ρ O = .ok kv O'∧∀ps H' F' as',Gr H F as H' F' as'→RlO X.K X.mg O' H' F' as'→Prs X.K F' as' ps kv→Q ps H')→QkO trs σ H Q
def Qur:M (List (D×D)):=fun _ O=>.ok [] O
def QsL (mk mv:M D) (r:M (List (D×D))):M (List (D×D)):=fun ρ O=>(mk ρ O).bind fun a O1=>(mv ρ O1).bind fun b O2=>(r ρ O2).bind fun ps O3=>.ok ((a,b)::ps) O3
def keysOf:List (D×D)→Option (List Key)
 | []=>some []
 | (a,_)::r=>(keyOf a).bind fun k=>(keysOf r).map (k :: ·)
theorem Prs.kvs {K:Frag}{F:Hp}{as:List Addr}:∀{kv:List (D×D)}{ps:List (V×V)}{ks:List Key},Prs K F as ps kv→keysOf kv=some ks →
  ∃kvs:List (Key×V),ps=kvs.map (fun p=>(kV p.1,p.2))∧kvs.map (·.1)=ks∧kv.map (·.1)=kvs.map (fun p=>Qm1 p.1)∧Rps K F as (kvs.map (·.2)) (kv.map (·.2))
 | [],ps,ks,h,e=>by
  cases ps with
  | nil=>cases e; exact ⟨[],rfl,rfl,rfl,Rps.nil⟩
  | cons _ _=>exact h.elim
 | (a,b)::kv,ps,ks,h,e=>by
  cases ps with
  | nil=>exact h.elim
  | cons p ps =>
   obtain ⟨p1,p2⟩:=p;unfold keysOf at e
   cases ea:keyOf a with
   | none=>rw [ea] at e; cases e
   | some k =>
    rw [ea] at e
    cases er:keysOf kv with
    | none=>rw [er] at e; cases e
    | some ks' =>
     rw [er] at e;cases e;obtain ⟨kvs,h1,h2,h3,h4⟩:=Prs.kvs h.2.2 er;refine ⟨(k,p2)::kvs,?_,?_,?_,Rps.cons h.2.1 h4⟩
     ·rw [ze,←h1]
      have:p1=kV k:=Rp.key h.1 ea
      rw [this]
     ·rw [ze,h2]
     ·rw [ze,ze,h3,Qq9 ea]
def Qua (m:M (List (D×D))):M D:=fun ρ O=>(m ρ O).bind fun kv O1=>match keysOf kv with
 | some ks=>if ks.Nodup∧kv.length≤15 then .ok (.dic (kv.map (·.1)) (kv.map (·.2))) O1 else .no
 | none=>.no
theorem Prs.length {K:Frag}{F:Hp}{as:List Addr}:∀{kv:List (D×D)}{ps:List (V×V)},Prs K F as ps kv→ps.length=kv.length
 | [],[],_=>rfl
 | _::kv,_::ps,h=>by simp [Prs.length h.2.2]
 | [],_::_,h=>h.elim
 | _::_,[],h=>h.elim
end
section
variable {X:Cx}{md:List Md}{P:Pt}{k:Nat}{c x m:Str}{ps:List Str}{p pos apos:Pos}{o e:Expr}{es:List Expr}{pm:List Md}{cf:List D→Qab→Res D}{mo:M D}{ma:M (List D)}
theorem QaS (C:Can X.prog X.w X.K X.mg X.base x ps k (vSp X.K X.mg pm (rV X.K) cf)) (hr:QaJ k X.A) (ha:AE X md P pm (e::es) ma) (hg:Gl X x:=by rfl) (hdb:(x == ("__debug__":Str))=false:=by decide) (he:starEach (e::es) X.env=(false,eval e X.env)::starEach es X.env:=by exact Qa1 rfl) (hpl:(backTo pos (starEach es X.env)).any (·.1)=false:=by exact Qa5 rfl) :
  VE X md P (.Call (.Name x p) (e::es) [] pos) (Qax cf ma):=Ql6 Qbe C hr ha hg hdb he hpl
theorem Qia (C:Can X.prog X.w X.K X.mg X.base x ps k (vSp X.K X.mg pm (rO X.K) cf)) (hr:QaJ k X.A) (ha:AE X md P pm (e::es) ma) (hg:Gl X x:=by rfl) (hdb:(x == ("__debug__":Str))=false:=by decide) (he:starEach (e::es) X.env=(false,eval e X.env)::starEach es X.env:=by exact Qa1 rfl) (hpl:(backTo pos (starEach es X.env)).any (·.1)=false:=by exact Qa5 rfl) :
  OE X md P (.Call (.Name x p) (e::es) [] pos) (Qax cf ma):=Ql6 Qdn C hr ha hg hdb he hpl
theorem QpL (C:Can X.prog X.w X.K X.mg X.base x ps k (vSp X.K X.mg [] (rV X.K) cf)) (hr:QaJ k X.A) (hg:Gl X x:=by rfl) (hdb:(x == ("__debug__":Str))=false:=by decide):VE X md P (.Call (.Name x p) [] [] pos) (Qax cf Qaf):=Qpa Qbe C hr hg hdb
theorem QjN {pl:Sem Bool} (M:QfD X.prog X.w X.K X.mg X.base c m ps k (vSp X.K X.mg (.v::pm) (rO X.K) cf)) (hr:QaJ k X.A) (ho:VE X md P o mo) (ha:AE X md P pm (e::es) ma) (hst:starEach (e::es) X.env=(false,eval e X.env)::starEach es X.env:=by exact Qa1 rfl) (hpl:(backTo pos (starEach es X.env)).any (·.1)=false:=by exact Qa5 rfl)
  (ht:eval (.Call (.Attribute o m apos) (e::es) [] pos) X.env=(do
   let ov ←eval o X.env
   standAt apos.atName
   let (f,first) ←holding [ov] (getMethod ov m pl)
   callWith pos f first (backTo pos (starEach (e::es) X.env)) (backToKw pos (keywordEach [] X.env))):=by rfl):OE X md P (.Call (.Attribute o m apos) (e::es) [] pos) (Qb0 c m cf mo ma):=Qrr Qdn M hr ho ha hst hpl ht
theorem Qgy {pl:Sem Bool} (M:QfD X.prog X.w X.K X.mg X.base c m ps k (vSp X.K X.mg [.v] (rV X.K) cf)) (hr:QaJ k X.A) (ho:VE X md P o mo)
  (ht:eval (.Call (.Attribute o m apos) [] [] pos) X.env=(do
   let ov ←eval o X.env
   standAt apos.atName
   let (f,first) ←holding [ov] (getMethod ov m pl)
   callWith pos f first (backTo pos (starEach [] X.env)) (backToKw pos (keywordEach [] X.env))):=by rfl):VE X md P (.Call (.Attribute o m apos) [] [] pos) (Qb0 c m cf mo Qaf):=QoX Qbe M hr ho ht
end
section
variable {X:Cx}{md:List Md}{P:Pt}{R:RR}{elts:List Expr}{x1:Nat}{tpos:Pos}
def QmG:List D→List D→List D
 | d::ds,e::es=>.tup [d,e]::QmG ds es
 | _,_=>[]
def Qtk (ma mb:M D):M (List D):=fun ρ O=>(ma ρ O).bind fun d O1=>(mb ρ O1).bind fun e O2=>match d,e with
 | .lst ds,.lst es=>.ok (QmG ds es) O2
 | _,_=>.no
def Qvj (m:MS):MS:=fun ρ O=>match m ρ O with
 | .rt d O'=>.rt d O'
 | _=>.no
theorem SlO.toV {K:Frag}{ρ:Qak}{σ:St}{H F F':Hp}{as:List Addr}{i:Nat} (s:SlO K md P ρ σ H F as) (hm:md[i]? = some .o) (ff:Same F F')
  (hown:∀(j:Nat) (ds:List D) (a:Addr),j≠i→md[j]? = some .o→ρ[j]? = some (some (.lst ds))→σ[j]? = some (some (.ref a))→F' a=F a)
  (hv:∀d,ρ[i]? = some (some d)→∃v,σ[i]? = some (some v)∧Rp K F' as v d):SlO K (md.set i .v) P ρ σ H F' as:=by
 have hi:i < md.length:=(zl.mp hm).1
 have back:∀(j:Nat),(md.set i Md.v)[j]? = some Md.o→j≠i∧md[j]? = some .o:=fun j e=>by
  by_cases hj:j=i
  ·subst hj;rw [zC hi] at e;cases e
  ·rw [zo (Ne.symm hj)] at e;exact ⟨hj,e⟩
 refine ⟨by rw [zP]; exact s.len,by rw [zP]; exact s.len',s.pd,fun j m d e1 e2=>?_,fun j k a ds es h1 h2 h3 h4 h5 h6=>s.inj j k a ds es (back j h1).2 (back k h2).2 h3 h4 h5 h6,fun x hx=>?_⟩
 ·by_cases hj:j=i
  ·subst hj;rw [zC hi] at e1;cases e1;exact hv d e2
  ·rw [zo (Ne.symm hj)] at e1;obtain ⟨v,q,t⟩:=s.sl j m d e1 e2;refine ⟨v,q,?_⟩
   cases m with
   | v=>exact Rp.mono ff (fun _ _ z=>z) _ t
   | s =>
    rcases t with t | ⟨a,xs,ds,t1,t2,t3,t4,t5,t6⟩
    ·exact .inl (Rp.mono ff (fun _ _ z=>z) _ t)
    ·exact .inr ⟨a,xs,ds,t1,t2,t3,t4,t5,Rps.mono ff (fun _ _ z=>z) _ t6⟩
   | o =>
    rcases t with ⟨t0,t⟩ | ⟨a,xs,ds,rfl,rfl,t3,t0,t4,t5,t6⟩
    ·exact .inl ⟨t0,Rp.mono ff (fun _ _ z=>z) _ t⟩
    ·exact .inr ⟨a,xs,ds,rfl,rfl,t3,by rw [hown j ds a hj e1 e2 q]; exact t0,t4,t5,Rps.mono ff (fun _ _ z=>z) _ t6⟩
 ·obtain ⟨p1,p2,p3⟩:=s.pin x hx
  have hne:i≠x.1:=fun z=>by rw [←z,hm] at p1; cases p1
  exact ⟨by rw [zo hne]; exact p1,p2,p3⟩
end
section
variable {prog:Program}{w:World}{A:Around}{E:Value→Shared→Prop}
end
section
variable {X:Cx}{md:List Md}{P:Pt}{R:RR}
theorem RlO.ml {K:Frag}{mg:Str→Option Value}{O:Qab}{H F:Hp}{as:List Addr}{n:Nat}{a:Addr}{ds:List D} (r:RlO K mg O H F as) (hn:as[n]? = some a) (hO:O[n]? = some (.ml ds)):∃xs,H a=some (.lst xs)∧Rps K F as xs ds:=r.ob n a _ hn hO
end
theorem QbD {α:Type}{p:List α→Prop} (h:p []):∀us:List α,us.length=0→p us:=fun us e=>by
 cases us with
 | nil=>exact h
 | cons a as=>cases e
theorem QaV {α:Type}{p:List α→Prop}{n:Nat} (h:∀a,∀us:List α,us.length=n→p (a::us)):∀us:List α,us.length=n+1→p us:=fun us e=>by
 cases us with
 | nil=>cases e
 | cons a as=>exact h a as (Nat.succ.inj e)
section
variable {prog:Program}{w:World}{κ:Type} [DecidableEq κ] {knd:HeapKind prog w κ}{A:Around}{E:Value→Shared→Prop}{s:Shared}
end
section
variable {X:Cx}{pins:List (Addr×Obj)}{σ:St}{H:Hp}{s:Shared}{a b:Addr}{v:V}{r:Value}{kvs:List (List Key×V)}{k:List Key}{A:Around}{E:Value→Shared→Prop}
end
def Qmt:List D→Option (List Key)
 | []=>some []
 | .int i::ds=>(Qmt ds).map (Sum.inl i :: ·)
 | _=>none
theorem Rps.keys {K:Frag}{F:Hp}{as:List Addr}:∀{ds:List D}{xs:List V}{ks:List Key},Rps K F as xs ds→Qmt ds=some ks→xs=ks.map kV∧∃is:List Int,ks=is.map Sum.inl
 | [],xs,ks,h,e=>by cases e; exact ⟨h.un0,[],rfl⟩
 | .int i::ds,xs,ks,h,e=>by
  obtain ⟨x,r,rfl,h1,h2⟩:=h.un;obtain ⟨ks',e1,rfl⟩:=jh.mp (show (Qmt ds).map (Sum.inl i :: ·)=some ks from e);obtain ⟨q1,is,rfl⟩:=Rps.keys h2 e1;exact ⟨by rw [h1.unI,q1]; rfl,i::is,rfl⟩
 | .non::ds,xs,ks,h,e=>by cases e
 | .bl _::ds,xs,ks,h,e=>by cases e
 | .str _::ds,xs,ks,h,e=>by cases e
 | .lst _::ds,xs,ks,h,e=>by cases e
 | .tup _::ds,xs,ks,h,e=>by cases e
 | .dic _ _::ds,xs,ks,h,e=>by cases e
 | .ob _::ds,xs,ks,h,e=>by cases e
def Qjw (kvs:List (List Key×D)) (k:List Key):Option D:=(kvs.find? fun p=>decide (p.1=k)).map (·.2)
def Qs6 (kvs:List (List Key×D)) (k:List Key) (d:D):List (List Key×D) :=
 if (kvs.any fun p=>decide (p.1=k))=true then kvs.map (fun p=>if p.1=k then (p.1,d) else p) else kvs ++ [(k,d)]
def DtR (K:Frag) (F:Hp) (as:List Addr) (xs:List (List Key×V)) (kvs:List (List Key×D)):Prop:=xs.map (·.1)=kvs.map (·.1)∧Rps K F as (xs.map (·.2)) (kvs.map (·.2))
section
variable {K:Frag}{mg:Str→Option Value}{O:Qab}{H F H' F':Hp}{as as':List Addr}
theorem DtR.len {xs:List (List Key×V)}{kvs:List (List Key×D)} (h:DtR K F as xs kvs):xs.length=kvs.length:=by
 have:=congrArg List.length h.1
 simpa using this
theorem DtR.un {xs:List (List Key×V)}{p:List Key×D}{kvs:List (List Key×D)} (h:DtR K F as xs (p::kvs)):∃v r,xs=(p.1,v)::r∧Rp K F as v p.2∧DtR K F as r kvs:=by
 obtain ⟨h1,h2⟩:=h
 cases xs with
 | nil=>cases h1
 | cons x r =>
  obtain ⟨v,r',e,q1,q2⟩:=h2.un;cases e;rw [ze,ze] at h1;have q3:=(List.cons.inj h1).1;refine ⟨x.2,r,?_,q1,(List.cons.inj h1).2,q2⟩;rw [←q3]
theorem DtR.val {k:List Key}:∀{kvs:List (List Key×D)}{xs:List (List Key×V)},DtR K F as xs kvs→(Qjw kvs k=none∧QdA xs k=none)∨∃d v,Qjw kvs k=some d∧QdA xs k=some v∧Rp K F as v d
 | [],xs,h=>by
  have:=h.len
  cases xs with
  | nil=>exact .inl ⟨rfl,rfl⟩
  | cons=>cases this
 | p::kvs,xs,h=>by
  obtain ⟨v,r,rfl,h1,h2⟩:=h.un
  by_cases e:p.1=k
  ·exact .inr ⟨p.2,v,by simp [Qjw,List.find?_cons,e],QfF e,h1⟩
  ·rw [show Qjw (p::kvs) k=Qjw kvs k by simp [Qjw,List.find?_cons,e],Qfs (p:=(p.1,v)) e];exact DtR.val h2
theorem DtR.any {k:List Key}:∀{kvs:List (List Key×D)}{xs:List (List Key×V)},DtR K F as xs kvs→(xs.any fun p=>decide (p.1=k))=kvs.any fun p=>decide (p.1=k)
 | [],xs,h=>by
  have:=h.len
  cases xs with
  | nil=>rfl
  | cons=>cases this
 | p::kvs,xs,h=>by
  obtain ⟨v,r,rfl,h1,h2⟩:=h.un;rw [List.any_cons,List.any_cons,DtR.any h2]
theorem DtR.repl {k:List Key}{v:V}{d:D} (hv:Rp K F as v d):∀{kvs:List (List Key×D)}{xs:List (List Key×V)},DtR K F as xs kvs →
  DtR K F as (xs.map fun p=>if p.1=k then (p.1,v) else p) (kvs.map fun p=>if p.1=k then (p.1,d) else p)
 | [],xs,h=>by
  have:=h.len
  cases xs with
  | nil=>exact ⟨rfl,Rps.nil⟩
  | cons=>cases this
 | p::kvs,xs,h=>by
  obtain ⟨u,r,rfl,h1,h2⟩:=h.un;obtain ⟨i1,i2⟩:=DtR.repl (k:=k) hv h2
  by_cases e:p.1=k
  ·rw [ze,ze,if_pos e,if_pos e];exact ⟨by rw [ze,ze,i1],Rps.cons hv i2⟩
  ·rw [ze,ze,if_neg e,if_neg e];exact ⟨by rw [ze,ze,i1],Rps.cons h1 i2⟩
theorem DtR.put {xs:List (List Key×V)}{kvs:List (List Key×D)} (h:DtR K F as xs kvs) (k:List Key) {v:V}{d:D} (hv:Rp K F as v d):DtR K F as (putK xs k v) (Qs6 kvs k d):=by
 unfold putK Qs6;rw [h.any]
 split
 ·exact h.repl hv
 ·exact ⟨by rw [zQ,zQ,h.1]; rfl,by rw [zQ,zQ]; exact Rps.snoc h.2 hv⟩
theorem DtR.mono {xs:List (List Key×V)}{kvs:List (List Key×D)} (h:DtR K F as xs kvs) (e:Same F F') (ea:∀(n:Nat) (a:Addr),as[n]? = some a→as'[n]? = some a):DtR K F' as' xs kvs:=⟨h.1,Rps.mono e ea _ h.2⟩
theorem RlO.dt {n:Nat}{a:Addr}{kvs:List (List Key×D)} (r:RlO K mg O H F as) (hn:as[n]? = some a) (hO:O[n]? = some (.dt kvs)):∃xs,H a=some (.dT xs)∧DtR K F as xs kvs:=let ⟨xs,h1,h2,h3⟩:=r.ob n a _ hn hO; ⟨xs,h1,h2,h3⟩
theorem Gr.snoc {p:Addr}{o:HO} (hp:H p=none):Gr H F as (upd H p o) F (as ++ [p]) :=
 ⟨fun _ _ _ _ _=>rfl,Same.refl F,⟨[p],rfl,fun a h=>by rw [zB.mp h]; exact hp⟩,fun a u e _ _=>by rw [Qan (Qay e hp)]; exact e,fun a e=>by
  by_cases h:a=p
  ·subst h; exact hp
  ·rwa [Qan h] at e,fun a o' u e=>by rw [Qan (Qay e hp)]; exact e⟩
end
section
variable {X:Cx}{md:List Md}{P:Pt}{R:RR}
end
section
variable {X:Cx}
open Classical in
noncomputable def eqR (s:Shared) (x:PyData) (u:Value):Bool:=decide (∃d as,Reads s.heap u d as∧d.canLay0=true∧PyData.eqv d x=true)
open Classical in
theorem Qwz {s:Shared}{x d:PyData}{u:Value}{as:List Addr} (h:Reads s.heap u d as) (hd:d.canLay0=true):eqR s x u=PyData.eqv d x:=by
 unfold eqR
 cases e:PyData.eqv d x with
 | true=>exact zG ⟨d,as,h,hd,e⟩
 | false =>
  refine zp fun ⟨d',as',h',hd',e'⟩=>?_
  rw [←SeqAt.Reads.unique d d' u as as' hd h h',e] at e';cases e'
end
section
variable {X:Cx}{md:List Md}{P:Pt}{R:RR}
end
section
variable {K:Frag}{mg:Str→Option Value}{O:Qab}{H F:Hp}{as:List Addr}
end
section
variable {X:Cx}{md:List Md}{P:Pt}{R:RR}
end
section
variable {X:Cx}{md:List Md}{P:Pt}{R:RR}
end
end L2
namespace L2
open PySem PySem.Spec PyProof.Rows PySem.W PySem.Calls
section
variable {prog:Program}{w:World}{A:Around}{E:Value→Shared→Prop}{s:Shared}{a:Addr}{vs out:List Value}{p:Array Nat}
end
def Qm3 {α:Type} (cmp:Nat→Nat→Bool→Prop):KasT α→α→Prop
 | .ret a,r=>r=a
 | .ask i j k,r=>∃b,cmp i j b∧Qm3 cmp (k b) r
theorem Qm3.wp {α:Type}{cmp:Nat→Nat→Bool→Prop}{ask:Nat→Nat→(Bool→Shared→Prop)→Shared→Prop}{s:Shared} (hc:∀i j b,cmp i j b→∀C:Bool→Shared→Prop,C b s→ask i j C s) {G:α→Shared→Prop}{r:α} (hg:G r s):∀t:KasT α,Qm3 cmp t r→t.kasWp ask G s
 | .ret a,h=>by
  cases (show r=a from h);exact hg
 | .ask i j k,h=>by
  obtain ⟨b,h1,h2⟩:=h;exact hc i j b h1 _ (Qm3.wp hc hg (k b) h2)
section
variable {X:Cx}
theorem Rps.getD {K:Frag}{F:Hp}{as:List Addr}{ds:List D}{xs:List V} (h:Rps K F as xs ds) (i:Nat):Rp K F as (xs.getD i V.non) (ds.getD i .non):=by
 rw [zX,zX]
 cases e:ds[i]? with
 | none =>
  have:xs[i]? = none:=by
   rw [List.getElem?_eq_none_iff] at e ⊢;rw [h.length];exact e
  rw [this];exact Rp.non
 | some d =>
  obtain ⟨v,hv,r⟩:=h.get' e;rw [hv];exact r
end
structure Qtd (mg:Str→Option Value):Prop extends Blt mg where
 sorted_:mg "sorted" = none
end L2
namespace L2
open PySem PySem.Spec PyProof.Rows
abbrev QtB (h:Heap) (z TI TO T:Addr) (b:Bool):Prop :=
 h.get? z=some { cls:=.type "zip",dict:=none,data:=.fields #[rawInt T,.bool b,.bool false,.ref TI,.ref TO],slots:=#[] }
section
variable {prog:Program}{w:World}{A:Around}{E:Value→Shared→Prop}{s:Shared}
structure ZS (base:Nat) (h:Heap) (z TI TO i1 i2 l1 l2 S:Addr) (xs ys acc:Array Value) (c i:Nat):Prop where
 zi:(IsZip h z TI TO .none∧∃a b,IsPair h TO a b)∨∃T b o,QtB h z TI TO T b∧h.get? T=some o∧T∉[z,TO,i1,i2,S]
 ti:IsPair h TI (.ref i1) (.ref i2)
 it1:h.IsListIter i1 l1 i
 it2:h.IsListIter i2 l2 i
 a1:h.IsList l1 xs
 a2:h.IsList l2 ys
 ls:h.get? S=some { cls:=.type "list",dict:=none,data:=.seq acc c,slots:=#[] }
 sz:acc.size=i
 tl:TO < h.objs.size
 nd:acc.toList.Nodup
 ts:∀(j:Nat) (v:Value),acc[j]? = some v→∃(T:Addr) (x y:Value),v=Value.ref T∧xs[j]? = some x∧ys[j]? = some y∧IsPair h T x y∧T∉[z,TO,i1,i2,S]∧base≤T
variable {R:PySem.Result→Shared→Prop}
end
theorem Un.more {fs ex:List Addr}{H H1:Hp}{h h':Heap}{a:Addr}{o:HO} (u:Un fs ex H H1 h h') (hp:h.objs.size≤a) (hn:H1 a=none):Un fs ex H (upd H1 a o) h h' where
 keep:=u.keep
 slot:=u.slot
 free:=fun b ob q n hx=>by rw [Qan (zk (zv (zd q) hp))]; exact u.free b ob q n hx
 there:=u.there
 tups:=fun b xs q=>by have z:=u.tups b xs q; rw [Qan (Qay z hn)]; exact z
 frzs:=fun b ob v q=>by have z:=u.frzs b ob v q; rw [Qan (Qay z hn)]; exact z
 tbls:=fun b ps q=>by obtain ⟨m,z⟩:=u.tbls b ps q; exact ⟨m,by rw [Qan (Qay z hn)]; exact z⟩
theorem HOk.more {P:Program}{w:World}{H:Hp}{h:Heap}{a:Addr}{o:HO} (x:HOk P w H h) (hn:H a=none) (new:QbL P w (upd H a o) h a o):HOk P w (upd H a o) h:=fun b u e=>by
 by_cases hb:b=a
 ·subst hb; rw [QaD] at e; cases e; exact new
 ·rw [Qan hb] at e
  exact (x b u e).stay (fun c v _ q=>q) (fun c q=>by rw [Qan (Qay q hn)]; exact q) fun c xs q=>by rw [Qan (Qay q hn)]; exact q
section
variable {X:Cx}
end
section
variable {X:Cx}{md:List Md}{P:Pt}
end
section
end
end L2
namespace L2
open PySem PySem.Spec PyProof.Rows PySem.W
section
variable {X:Cx}{md:List Md}{P:Pt}
end
end L2
namespace L2
open PySem PySem.Spec PyProof.Rows
section
variable {X:Cx}{md:List Md}{P:Pt}{R:RR}
variable {elts:List Expr}{x1:Nat}{tpos:Pos}{a elt:Expr}{ifs:List Expr}{scope:Scope}{p pos pe:Pos}{m:M D}{g:MG}{t:M Bool}{e:M D}
end
section
variable {X:Cx}{md:List Md}{P:Pt}{R:RR}{tg:Expr}
end
structure Qxm (mg:Str→Option Value):Prop extends Qtd mg where
 reversed_:mg "reversed" = none
end L2
namespace L2
open PySem PySem.Spec PyProof.Rows PySem.W
section
variable {prog:Program}{w:World}{A:Around}{E:Value→Shared→Prop}
end
section
variable {X:Cx}{md:List Md}{P:Pt}{R:RR}
end
section
variable {X:Cx}{tg:Expr}{md:List Md}{P:Pt}
end
section
variable {X:Cx}{pins:List (Addr×Obj)}{σ:List (Option V)}{H:Hp}{s:Shared}{a:Addr}{xs:List (List Key×V)}{o:Obj}
end
section
variable {prog:Program}{w:World}{A:Around}{E:Value→Shared→Prop}{s:Shared}
end
section
variable {K:Frag}{mg:Str→Option Value}{O:Qab}{H F:Hp}{as:List Addr}
theorem RlO.df {n:Nat}{a:Addr}{kvs:List (List Key×D)} (r:RlO K mg O H F as) (hn:as[n]? = some a) (hO:O[n]? = some (.df kvs)):∃o xs,H a=some (.frz o (.dT xs))∧DtR K F as xs kvs:=let ⟨o,xs,h1,h2,h3⟩:=r.ob n a _ hn hO; ⟨o,xs,h1,h2,h3⟩
end
section
variable {X:Cx}{md:List Md}{P:Pt}{R:RR}
end
section
variable {K:Frag}{mg:Str→Option Value}{md:List Md}{P:Pt}{ρ:Qak}{σ:St}{O:Qab}{H F H' F':Hp}{as as':List Addr}
end
section
variable {X:Cx}{md:List Md}{P:Pt}{R:RR}
end
section
variable {X:Cx}{md:List Md}{P:Pt}{R:RR}
end
section
variable {prog:Program}{w:World}
end
section
variable {X:Cx}{md:List Md}{P:Pt}{R:RR}
end
def QjA (kvs:List (Key×D)) (k:Key):Option D:=(kvs.find? fun p=>decide (p.1=k)).map (·.2)
def QtC (kvs:List (Key×D)) (k:Key) (d:D):List (Key×D) :=
 if (kvs.any fun p=>decide (p.1=k))=true then kvs.map (fun p=>if p.1=k then (p.1,d) else p) else kvs ++ [(k,d)]
def DkR (K:Frag) (F:Hp) (as:List Addr) (xs:List (Key×V)) (kvs:List (Key×D)):Prop:=xs.map (·.1)=kvs.map (·.1)∧Rps K F as (xs.map (·.2)) (kvs.map (·.2))
section
variable {K:Frag}{mg:Str→Option Value}{O:Qab}{H F H' F':Hp}{as as':List Addr}
theorem DkR.len {xs:List (Key×V)}{kvs:List (Key×D)} (h:DkR K F as xs kvs):xs.length=kvs.length:=by
 have:=congrArg List.length h.1
 simpa using this
theorem DkR.un {xs:List (Key×V)}{p:Key×D}{kvs:List (Key×D)} (h:DkR K F as xs (p::kvs)):∃v r,xs=(p.1,v)::r∧Rp K F as v p.2∧DkR K F as r kvs:=by
 obtain ⟨h1,h2⟩:=h
 cases xs with
 | nil=>cases h1
 | cons x r =>
  obtain ⟨v,r',e,q1,q2⟩:=h2.un;cases e;rw [ze,ze] at h1;have q3:=(List.cons.inj h1).1;refine ⟨x.2,r,?_,q1,(List.cons.inj h1).2,q2⟩;rw [←q3]
theorem DkR.val {k:Key}:∀{kvs:List (Key×D)}{xs:List (Key×V)},DkR K F as xs kvs→(QjA kvs k=none∧QdA xs k=none)∨∃d v,QjA kvs k=some d∧QdA xs k=some v∧Rp K F as v d
 | [],xs,h=>by
  have:=h.len
  cases xs with
  | nil=>exact .inl ⟨rfl,rfl⟩
  | cons=>cases this
 | p::kvs,xs,h=>by
  obtain ⟨v,r,rfl,h1,h2⟩:=h.un
  by_cases e:p.1=k
  ·exact .inr ⟨p.2,v,by simp [QjA,List.find?_cons,e],QfF e,h1⟩
  ·rw [show QjA (p::kvs) k=QjA kvs k by simp [QjA,List.find?_cons,e],Qfs (p:=(p.1,v)) e];exact DkR.val h2
theorem DkR.any {k:Key}:∀{kvs:List (Key×D)}{xs:List (Key×V)},DkR K F as xs kvs→(xs.any fun p=>decide (p.1=k))=kvs.any fun p=>decide (p.1=k)
 | [],xs,h=>by
  have:=h.len
  cases xs with
  | nil=>rfl
  | cons=>cases this
 | p::kvs,xs,h=>by
  obtain ⟨v,r,rfl,h1,h2⟩:=h.un;rw [List.any_cons,List.any_cons,DkR.any h2]
theorem DkR.repl {k:Key}{v:V}{d:D} (hv:Rp K F as v d):∀{kvs:List (Key×D)}{xs:List (Key×V)},DkR K F as xs kvs →
  DkR K F as (xs.map fun p=>if p.1=k then (p.1,v) else p) (kvs.map fun p=>if p.1=k then (p.1,d) else p)
 | [],xs,h=>by
  have:=h.len
  cases xs with
  | nil=>exact ⟨rfl,Rps.nil⟩
  | cons=>cases this
 | p::kvs,xs,h=>by
  obtain ⟨u,r,rfl,h1,h2⟩:=h.un;obtain ⟨i1,i2⟩:=DkR.repl (k:=k) hv h2
  by_cases e:p.1=k
  ·rw [ze,ze,if_pos e,if_pos e];exact ⟨by rw [ze,ze,i1],Rps.cons hv i2⟩
  ·rw [ze,ze,if_neg e,if_neg e];exact ⟨by rw [ze,ze,i1],Rps.cons h1 i2⟩
theorem DkR.put {xs:List (Key×V)}{kvs:List (Key×D)} (h:DkR K F as xs kvs) (k:Key) {v:V}{d:D} (hv:Rp K F as v d):DkR K F as (putK xs k v) (QtC kvs k d):=by
 unfold putK QtC;rw [h.any]
 split
 ·exact h.repl hv
 ·exact ⟨by rw [zQ,zQ,h.1]; rfl,by rw [zQ,zQ]; exact Rps.snoc h.2 hv⟩
theorem RlO.dk {n:Nat}{a:Addr}{kvs:List (Key×D)} (r:RlO K mg O H F as) (hn:as[n]? = some a) (hO:O[n]? = some (.dk kvs)):∃xs,H a=some (.dK xs)∧DkR K F as xs kvs:=let ⟨xs,h1,h2,h3⟩:=r.ob n a _ hn hO; ⟨xs,h1,h2,h3⟩
end
section
variable {X:Cx}{md:List Md}{P:Pt}{R:RR}
end
section
variable {X:Cx}{md:List Md}{P:Pt}{R:RR}
end
section
variable {X:Cx}{md:List Md}{P:Pt}{R:RR}
theorem Qez.int {K:Frag}{H F:Hp}{as:List Addr}{m:Md}{v:V}{a:Int} (h:Qez P K H F as m v (.int a)):v = .int a:=by
 cases m with
 | v=>exact (show Rp K F as v (.int a) from h).unI
 | s =>
  rcases h with h | ⟨_,_,_,_,h,_⟩
  ·exact h.unI
  ·cases h
 | o =>
  rcases h with ⟨_,h⟩ | ⟨_,_,_,_,h,_⟩
  ·exact h.unI
  ·cases h
end
end L2
namespace L2
open PySem PySem.Spec PyProof.Rows PySem.W PySem.Calls
def Qfe (ss:List Str) (x:Str):List Str:=if x∈ss then ss else ss ++ [x]
def Qh5 (es:Array (Int×Value)):List Str:=es.toList.map fun e=>strOf e.2
def Qnf (prog:Program) (w:World) (h:Heap) (a:Addr) (ss:List Str) (o:Obj) (es:Array (Int×Value)) (ep:Nat) (t:SetTable):Prop :=
 h.get? a=some o∧o.ExactSet∧o.data = .set es ep t∧ElemsOf (PySem.strKind prog w) es.toList∧(Qh5 es).Perm ss∧es.size < scanBound∧t.fits es.size=true∧(es.size=0∨t.plain=false)∧t.led = !w.params.followText "set-order"
def Qdw (prog:Program) (w:World) (h:Heap) (a:Addr) (ss:List Str):Prop:=∃o es ep t,Qnf prog w h a ss o es ep t
section
variable {prog:Program}{w:World}{A:Around}{E:Value→Shared→Prop}{s:Shared}{a:Addr}{ss:List Str}
theorem Qdw.at {h h':Heap} (x:Qdw prog w h a ss) (k:∀o,h.get? a=some o→h'.get? a=some o):Qdw prog w h' a ss :=
 let ⟨o,es,ep,t,h1,r⟩:=x; ⟨o,es,ep,t,k o h1,r⟩
theorem Qdw.len {h:Heap} (x:Qdw prog w h a ss):ss.length < scanBound:=by
 obtain ⟨o,es,ep,t,h1,h2,h3,h4,h5,h6,_⟩:=x;rw [←h5.length_eq];unfold Qh5;rw [zI];exact h6
theorem Qlx (t:SetTable) (es:Array (Int×Value)) (n:Nat) (h:t.plain=false):(relayAll t es n).2.1.plain=false:=by
 unfold relayAll
 split
 ·rename_i t' order e;dsimp only
  split
  ·unfold SetTable.relaid SetTable.laid at e
   cases q:SetTable.layClean (SetTable.sizeAbove n - 1) (Array.map (fun x=>x.fst) es) with
   | none=>rw [q] at e; cases e
   | some ow =>
    rw [q] at e;cases e;exact h
  ·rfl
 ·rfl
theorem Qnw (t:SetTable) (es:Array (Int×Value)) (n:Nat):(relayAll t es n).2.1.led=t.led:=by
 unfold relayAll
 split
 ·rename_i t' order e;dsimp only
  split
  ·unfold SetTable.relaid SetTable.laid at e
   cases q:SetTable.layClean (SetTable.sizeAbove n - 1) (Array.map (fun x=>x.fst) es) with
   | none=>rw [q] at e; cases e
   | some ow =>
    rw [q] at e;cases e;rfl
  ·rfl
 ·rfl
theorem QnE (t:SetTable) (n:Nat):(t.orStandIn n).led=t.led:=by
 unfold SetTable.orStandIn
 split <;> rfl
theorem Qrz (t:SetTable) (es:Array (Int×Value)) (h:Int) (x:Value):(layNew t es h x).2.1.led=t.led:=by
 unfold layNew
 split
 ·exact QnE _ _
 ·rfl
theorem QiO {h:Heap}{o:Obj}{es:Array (Int×Value)}{ep:Nat}{t:SetTable} (ho:h.get? a=some o) (hex:o.ExactSet) (hd:o.data = .set es ep t)
  {es':Array (Int×Value)}{t':SetTable} (hel:ElemsOf (PySem.strKind prog w) es'.toList) (hp:(Qh5 es').Perm ss) (hb:es'.size < scanBound) (hf:t'.fits es'.size=true) (hpl:t'.plain=false) (hled:t'.led = !w.params.followText "set-order") :
  (h.update a (Obj.putSet es' t')).get? a=some { o with data:=.set es' (ep+1) t' }∧Qdw prog w (h.update a (Obj.putSet es' t')) a ss:=by
 have hg:(h.update a (Obj.putSet es' t')).get? a=some { o with data:=.set es' (ep+1) t' }:=by
  have:=Heap.get?_update_self (Obj.putSet es' t') ho (by rw [putSet_of es' t' hd]; rfl)
  rw [putSet_of es' t' hd] at this; exact this
 exact ⟨hg,_,es',ep+1,t',hg,hex,rfl,hel,hp,hb,hf,.inr hpl,hled⟩
theorem QjS {g:Bool→Sem Unit} (hg:∀(b:Bool) (s₁:Shared) (Q':Unit→Shared→Prop),Q' () s₁→wpAny (model prog w) A (g b) Q' E s₁)
  {o:Obj}{es:Array (Int×Value)}{ep:Nat}{t:SetTable} (ho:s.heap.get? a=some o) (hex:o.ExactSet) (hd:o.data = .set es ep t)
  {es1:Array (Int×Value)}{t2:SetTable} (hel1:ElemsOf (PySem.strKind prog w) es1.toList) (hp1:(Qh5 es1).Perm ss) (hb1:es1.size < scanBound) (hf2:t2.fits es1.size=true) (hpl:t2.plain=false) (hled:t2.led = !w.params.followText "set-order") {wasDummy:Bool}{R:Option Bool→Shared→Prop}
  (h:∀h',Heap.SameBut a s.heap h'→Qdw prog w h' a ss→R (some true) { s with heap:=h' }) :
  wpAny (model prog w) A (do
    storeSet a es1 t2
    if (!wasDummy&&t2.tooFull)=true then do
      g (relayAll t2 es1 (SetTable.grown es1.size)).2.2
      storeSet a (relayAll t2 es1 (SetTable.grown es1.size)).1 (relayAll t2 es1 (SetTable.grown es1.size)).2.1
      pure (some true)
     else pure (some true)) R E s:=by
 refine za (wpAny_storeSet_of ho hd ?_ (fits_of_scanBound hb1));obtain ⟨ho1,hS1⟩:=QiO (prog:=prog) (w:=w) ho hex hd hel1 hp1 hb1 hf2 hpl hled;have hsb1:=Heap.SameBut.update s.heap a (Obj.putSet es1 t2)
 split
 ·have hp:=relayAll_perm t2 es1 (SetTable.grown es1.size);have hfr:=relayAll_fits t2 es1 (SetTable.grown es1.size);have hpr:=Qlx t2 es1 (SetTable.grown es1.size) hpl;have hlr:=Qnw t2 es1 (SetTable.grown es1.size)
  generalize hRl:relayAll t2 es1 (SetTable.grown es1.size)=Rl at hp hfr hpr hlr ⊢
  obtain ⟨es2,t3,gave2⟩:=Rl;dsimp only at hp hfr hpr hlr ⊢;have hel2:ElemsOf (PySem.strKind prog w) es2.toList:=hel1.perm hp
  have hsz:es2.size=es1.size:=by rw [←Array.length_toList,hp.length_eq,Array.length_toList]
  have hb2:es2.size < scanBound:=by rw [hsz]; exact hb1
  refine za (hg _ _ _ ?_);refine za (wpAny_storeSet_of ho1 rfl ?_ (fits_of_scanBound hb2));obtain ⟨_,hS2⟩:=QiO (prog:=prog) (w:=w) ho1 hex rfl hel2 ((hp.map _).trans hp1) hb2 hfr hpr (hlr.trans hled);exact zb (h _ (hsb1.trans (Heap.SameBut.update _ a _)) hS2)
 ·exact zb (h _ hsb1 hS1)
theorem Qo4 {x:Str}{tk:Tok}{Q:Bool→Shared→Prop} (hS:Qdw prog w s.heap a ss) (hroom:ss.length+1 < scanBound)
  (h:∀h' b,Heap.SameBut a s.heap h'→Qdw prog w h' a (Qfe ss x)→Q b { s with heap:=h' }) :
  wpAny (model prog w) A (setAddHashed a (.str x tk) ((PySem.strKind prog w).hash x)) Q E s:=by
 obtain ⟨o,es,ep,t,ho,hex,hd,hel,hp,hb,hf,hpl,hled⟩:=hS
 have hkey:(PySem.strKind prog w).is x (.str x tk)=true:=by
  show Value.isStrOf x (.str x tk)=true;simp [Value.isStrOf]
 have hlen:es.size=ss.length:=by rw [←hp.length_eq]; unfold Qh5; rw [zI,Array.length_toList]
 have hb1:es.size+1 < scanBound:=by rw [hlen]; exact hroom
 have hsc:(Value.str x tk).scannable=true:=rfl
 have key:∀e∈es.toList,∀y,(PySem.strKind prog w).is y e.2=true↔strOf e.2=y:=fun e he y=>by
  obtain ⟨⟨k,hk,_⟩,_⟩:=hel e he;obtain ⟨t',ht⟩:=Value.isStrOf_shape hk;rw [ht];show Value.isStrOf y (.str k t')=true↔k=y;simp [Value.isStrOf]
 unfold setAddHashed setAddHashedIn;refine zF (za (wpAny_setState_of ho hd hf ?_));dsimp only;rw [byScan_of hsc hb hel];simp only [↓reduceIte];unfold setAddByScan;refine za ?_;refine za (zS ?_);refine za (wpAny_setScan_of hkey ho hd hf hel ?_)
 cases hr:List.findIdx? (fun e=>(PySem.strKind prog w).is x e.2) es.toList with
 | some j =>
  dsimp only;obtain ⟨hj,hpj,_⟩:=List.findIdx?_eq_some_iff_getElem.mp hr;have hx:x∈ss:=hp.mem_iff.mp (zT.mpr ⟨es.toList[j],List.getElem_mem hj,(key _ (List.getElem_mem hj) x).mp hpj⟩);refine zb (zb ?_)
  have e:s = { s with heap:=s.heap }:=by cases s; rfl
  rw [e];exact h s.heap _ (Heap.SameBut.refl a s.heap) ⟨o,es,ep,t,ho,hex,hd,hel,by rw [Qfe,if_pos hx]; exact hp,hb,hf,hpl,hled⟩
 | none =>
  dsimp only
  have hx:x∉ss:=fun hx=>by
   obtain ⟨e,he,q⟩:=zT.mp (hp.mem_iff.mpr hx)
   have:=List.findIdx?_eq_none_iff.mp hr e he
   rw [(key e he x).mpr q] at this;exact Bool.noConfusion this
  have hgw:∀(b:Bool) {s₁:Shared}{Q':Unit→Shared→Prop},Q' () s₁→wpAny (model prog w) A (match b with | true=>rule "set.scan.the-table-gave-way" | false=>pure ()) Q' E s₁ :=
   fun b s₁ Q' hq=>by cases b <;> first | exact zb hq | exact zS hq
  have hperm:=layNew_perm t es ((PySem.strKind prog w).hash x) (.str x tk);have hfits:=layNew_fits t es ((PySem.strKind prog w).hash x) (.str x tk);have hll:=Qrz t es ((PySem.strKind prog w).hash x) (.str x tk)
  generalize hL:layNew t es ((PySem.strKind prog w).hash x) (.str x tk)=L at hperm hfits hll ⊢
  obtain ⟨es1,t1,wasDummy,gave⟩:=L;dsimp only at hperm hfits hll ⊢;rw [Array.toList_push] at hperm;have hel1:ElemsOf (PySem.strKind prog w) es1.toList:=(hel.push hkey hsc).perm hperm
  have hp1:(Qh5 es1).Perm (Qfe ss x):=by
   rw [Qfe,if_neg hx];refine (hperm.map fun e=>strOf e.2).trans ?_;rw [zQ];exact hp.append_right _
  have hb1':es1.size < scanBound:=by rw [←Array.length_toList,hperm.length_eq,zr,Array.length_toList]; simpa using hb1
  refine za (hgw _ ?_)
  split
  ·refine za ?_;refine za (m:=hashByValue 8 (.str x tk)) (zb ?_);refine zb ?_;simp only [Bool.false_eq_true,↓reduceIte];refine QjS (t2:={ t1 with plain:=false }) ?_ ho hex hd hel1 hp1 hb1' (SetTable.fits_plain_off hfits) rfl (hll.trans hled) ?_
   ·intro b s₁ Q' hq; cases b <;> first | exact zb hq | exact zS hq
   ·intro h' hsb hS'; dsimp only; exact zb (h h' _ hsb hS')
  ·rename_i hnp;refine za (zb ?_);simp only [↓reduceIte];refine QjS ?_ ho hex hd hel1 hp1 hb1' hfits (by simpa using hnp) (hll.trans hled) ?_
   ·intro b s₁ Q' hq; cases b <;> first | exact zb hq | exact zS hq
   ·intro h' hsb hS'; dsimp only; exact zb (h h' _ hsb hS')
theorem isS (x:Str) (t:Tok):(PySem.strKind prog w).is x (.str x t)=true:=by
 show Value.isStrOf x (.str x t)=true;simp [Value.isStrOf]
theorem map_getD (ns:List Str):(List.range' 0 ns.length).map (fun i=>ns.getD i ⟨#[]⟩)=ns:=by
 apply List.ext_getElem
 ·simp
 ·intro i h1 h2;simp [zX,h2]
theorem QoJ {R:Result→Shared→Prop}{I:Addr}{fp wr:List Addr}{G:Array GenState→Array GenState→Prop}{n:Nat}{P:Nat→Value→Prop}{St:Nat→Shared→Prop} (W:WalksS prog w A.in1 I fp wr G n P St) (S:Addr) (hSf:S∉fp)
  (val:Nat→Str) (hval:∀i v,P i v→∃t,v = .str (val i) t) (hb:n+1 < scanBound) :
  ∀(k i:Nat) (s:Shared) (ss:List Str),n - i=k→i≤n→St i s→ss.length≤i→Qdw prog w s.heap S ss →
   (∀s',Moved (S::wr) G s s'→Qdw prog w s'.heap S (((List.range' i (n - i)).map val).foldl Qfe ss)→R (.ok (.ret .none)) s') →
   codeAny (model prog w) A (.builtin "set.update.loop" ⟨[.ref S,.ref I],[]⟩) R s:=by
 have hSw:S∉wr:=fun h=>hSf (W.sub _ h)
 have hsub:∀b∈wr,b∈S::wr:=fun b hb=>zu _ hb
 intro k
 induction k with
 | zero =>
  intro i s ss hk hi hst hle hS hR
  have hin:i=n:=by omega
  subst hin;refine zY PyProof.Rows.F.entry_set_update_loop ?_;rw [Around.under_plainId PyProof.Rows.F.plain_set_update_loop _];show wpAny _ A.in1 (pyNext (.ref I) >>= _) _ _ s;refine za (W.done s _ _ hst fun s' hm=>?_);show wpAny _ A.in1 (ret Value.none) _ _ s';refine zb (hR s' (hm.mono hsub) ?_);rw [Nat.sub_self]
  exact hS.at fun o e=>hm.heap S _ hSw e
 | succ k ih =>
  intro i s ss hk hi hst hle hS hR
  have hlt:i < n:=by omega
  refine zY PyProof.Rows.F.entry_set_update_loop ?_;rw [Around.under_plainId PyProof.Rows.F.plain_set_update_loop _];show wpAny _ A.in1 (pyNext (.ref I) >>= _) _ _ s;refine za (W.item i s _ _ hlt hst fun v s' hP hst' hm=>?_);obtain ⟨t,rfl⟩:=hval i v hP
  have hS':Qdw prog w s'.heap S ss:=hS.at fun o e=>hm.heap S _ hSw e
  show wpAny _ A.in1 (holding [Value.str (val i) t] (setAdd S (.str (val i) t)) >>= _) _ _ s';refine za (zF ?_);unfold setAdd;refine zF ?_;refine za ((PySem.strKind prog w).pyHash (k:=val i) (isS _ _) ?_)
  refine Qo4 (s:={ s' with toks:=s'.toks+1 }) hS' (by omega) fun h' b hsb hS2=>?_
  refine zb ⟨plainId_quiet PyProof.Rows.F.plain_set_update_loop _,ih (i+1) _ (Qfe ss (val i)) (by omega) hlt (W.frame _ s' _ _ hst' (Nat.le_succ _) fun b hb o e=>?_) ?_ hS2 fun s'' hm'' hS''=>?_⟩
  ·rw [hsb.2 b (fun h:b=S=>hSf (by rw [←h]; exact hb))]; exact e
  ·unfold Qfe
   split
   ·omega
   ·rw [zr,jc]; omega
  ·refine hR s'' (Moved.trans W.gtrans ((hm.mono hsub).then_heap (Nat.le_succ _) fun b o hb e=>?_) hm'') ?_
   ·rw [hsb.2 b (fun h:b=S=>hb (by rw [h]; exact zw))]; exact e
   ·rw [show n - i=(n - (i+1))+1 by omega,List.range'_succ,ze,List.foldl_cons];exact hS''
theorem QpS (x:Value) {Q₁:Value→Shared→Prop}
  (h:Q₁ (.ref s.heap.objs.size) { s with heap:=s.heap.push { cls:=.type "set",dict:=none,data:=.set #[] 0 (.fresh 0 0 (!w.params.followText "set-order")) } }) :
  codeAny (model prog w) A (.call (.builtin "set.__new__") ⟨[.type "set",x],[]⟩) (wants Q₁ E) s:=by
 refine codeAny_of_tree ?_;show wpAny _ A.in1 (do checkBuiltinCall "set.__new__" ⟨[.type "set",x],[]⟩; again (.builtin "set.__new__" ⟨[.type "set",x],[]⟩)) _ _ s;refine za (zR (PySem.F.newCall_set_1 x) (zb ⟨plainId_quiet PySem.F.plain_set_new _,zY PySem.F.entry_set_new ?_⟩));rw [Around.under_plainId PySem.F.plain_set_new _];unfold Builtin.«set.__new__» Builtin.Frozenset.newClass;have hsub:=sub_set_self;obtain ⟨hp,g,d,tk,os⟩:=s;dsimp only
 wp_walk
 refine wpAny_askSetting (zb ?_);dsimp only;simp only [newObj];refine za (wpAny_alloc (zb ?_));exact zb h
theorem QoG {h:Heap}:Qdw prog w (h.push { cls:=.type "set",dict:=none,data:=.set #[] 0 (.fresh 0 0 (!w.params.followText "set-order")) }) h.objs.size [] :=
 ⟨_,#[],0,_,zD _ rfl,⟨rfl,rfl,rfl⟩,rfl,fun e he=>by simp at he,.nil,by decide,by rfl,.inl rfl,rfl⟩
set_option maxHeartbeats 8000000 in
theorem QrV {l:Addr}{items:Array Value}{ns:List Str}{Q:Value→Shared→Prop}
  (hh:A.handled=none) (hl:s.heap.IsList l items) (hi:StrsAre items.toList ns) (hb:items.size+1 < scanBound)
  (h:∀(h':Heap) (tk:Nat),Qdw prog w h' s.heap.objs.size (ns.foldl Qfe []) →
   (∀b o,s.heap.get? b=some o→h'.get? b=some o)→Q (.ref s.heap.objs.size) { s with heap:=h',toks:=tk }) :
  wpAny (model prog w) A (call (.type "set") [.ref l]) Q E s:=by
 obtain ⟨c,tl,hmro⟩:=PySem.F.called_set.mro;have hmade:=PySem.F.called_set.made;have hsub:=PySem.F.called_set.sub;refine zM (codeAny_of_tree ?_);show wpAny _ _ (callAny (.type "set") _) _ _ _;refine zb ⟨Code.quiet_builtin _ (by decide +kernel),zY PySem.F.entry_type_call ?_⟩;rw [Around.under_plain (weight_type_call_type "set" [.ref l] []) rfl];have h1:=PySem.F.called_set.notType;have h2:=PySem.F.called_set.canCreate;have hct:=PySem.F.typeCall_set_1 (.ref l)
 repeat (any_goals (first | assumption | wp_step))
 generalize hO:({ cls:=.type "set",dict:=none,data:=.set #[] 0 (.fresh 0 0 (!w.params.followText "set-order")) }:Obj)=O0
 refine codeAny_mono (QpS (.ref l) (E:=E) (Q₁:=fun obj s₁=>obj = .ref s.heap.objs.size∧s₁ = { s with heap:=s.heap.push O0 }) (by rw [hO]; exact ⟨rfl,rfl⟩)) fun r s₁ hr=>?_
 cases r with
 | error e=>exact hr
 | ok fl =>
  cases fl with
  | ret obj =>
   obtain ⟨rfl,rfl⟩:=hr
   have hfr:Qdw prog w (s.heap.push O0) s.heap.objs.size []:=by rw [←hO]; exact QoG
   have hS:(s.heap.push O0).get? s.heap.objs.size=some O0:=by rw [←hO]; exact zD _ rfl
   have hcls:O0.cls = .type "set":=by rw [←hO]
   have hdat:O0.data = .set #[] 0 (.fresh 0 0 (!w.params.followText "set-order")):=by rw [←hO]
   have hT:Shared.TypeIs { s with heap:=s.heap.push O0 } (.ref s.heap.objs.size) "set":=⟨_,hS,hcls⟩;have hli:=PySem.F.called_set.init.lookup;have hbi:=PySem.F.called_set.init.bind (.ref s.heap.objs.size)
   repeat (any_goals (first | assumption | wp_step))
   refine codeAny_mono (codeAny_call_builtin (R:=wants (fun r s₂=>r = .none∧∃h' tk,s₂ = { s with heap:=h',toks:=tk } ∧
     Qdw prog w h' s.heap.objs.size (ns.foldl Qfe []) ∧
     (∀b o,s.heap.get? b=some o→h'.get? b=some o)) E) PySem.F.called_set.init.plain PySem.F.entry_set_init (check_set_init_1 hT ?_)) fun r₂ s₂ hr₂=>?_
   ·subst hO;obtain ⟨ol,hol,hcl,nl,hdl⟩:=hl;obtain ⟨ocls,odict,odata,oslots⟩:=ol;simp only at hcl hdl;subst hcl; subst hdl;have hol':(s.heap.push { cls:=.type "set",dict:=none,data:=.set #[] 0 (.fresh 0 0 (!w.params.followText "set-order")) }).get? l=some { cls:=.type "list",dict:=odict,data:=.seq items nl,slots:=oslots }:=zh _ hol;have hsls:=PySem.F.sub_list_set;have hslf:=PySem.F.sub_list_frozenset
    have hne:(Value.type "list" == Value.type "dict")=false:=by decide
    have hl1:(s.heap.push { cls:=.type "set",dict:=none,data:=.set #[] 0 (.fresh 0 0 (!w.params.followText "set-order")) }).IsList l items:=⟨_,hol',rfl,nl,rfl⟩;unfold Builtin.«set.__init__» noKeywords Builtin.Frozenset.updateFrom
    generalize hPI:pyIter=PI
    wp_walk
    subst hPI;refine wpAny_pyIter_list hl1 ?_;refine za (wpAny_runValue ?_);have hlS:l < s.heap.objs.size:=zd hol
    have hh3:A.in1.in1.in1.handled=none:=by simp [hh]
    have hneI:l≠(s.heap.push { cls:=.type "set",dict:=none,data:=.set #[] 0 (.fresh 0 0 (!w.params.followText "set-order")) }).objs.size:=by
     rw [Heap.size_push]; exact zk (Nat.lt_succ_of_lt hlS)
    have hSf:s.heap.objs.size∉[(s.heap.push { cls:=.type "set",dict:=none,data:=.set #[] 0 (.fresh 0 0 (!w.params.followText "set-order")) }).objs.size,l]:=by
     rw [Heap.size_push]; simp only [zj,zB,List.not_mem_nil,or_false,not_or];exact ⟨zk (zW _),Nat.ne_of_gt hlS⟩
    have hnl:ns.length=items.size:=by rw [←hi.strs,zI,Array.length_toList]
    have hval:∀(i:Nat) (v:Value),items[i]? = some v→∃t,v = .str ((fun i=>ns.getD i ⟨#[]⟩) i) t:=fun i v hv=>by
     have hv':items.toList[i]? = some v:=by rw [Array.getElem?_toList]; exact hv
     obtain ⟨x,t,rfl⟩:=hi.all v (zN hv');refine ⟨t,?_⟩
     have hm:(items.toList.map strOf)[i]? = some x:=by rw [zE,hv']; rfl
     rw [hi.strs] at hm;show Value.str x t=Value.str (ns.getD i ⟨#[]⟩) t;rw [zX,hm];rfl
    refine QoJ ((Walks.list hh3 _ l hneI items).toS) s.heap.objs.size
     hSf (fun i=>ns.getD i ⟨#[]⟩) hval hb (items.size - 0) 0 _ [] (by omega) (Nat.zero_le _)
     ⟨⟨_,zD _ rfl,rfl,rfl⟩,(hl1.push _)⟩ (zc _) (QoG.at fun o e=>zh _ e) ?hR
    intro s' hm hS';rw [Nat.sub_zero,←hnl] at hS';rw [map_getD] at hS';obtain ⟨h',g',d',tk',os'⟩:=s';have eg:g'=s.gens:=hm.gens;have ed:d'=s.drawn:=hm.drawn;have eo:os'=s.os:=hm.os;subst eg; subst ed; subst eo;show wpAny _ _ _ _ _ _;refine zb ?_;show wpAny _ _ (ret Value.none) _ _ _;refine zb ⟨rfl,h',tk',rfl,hS',fun b o e=>?_⟩;have hb':=zd e;have hb1:b≠s.heap.objs.size:=zk hb'
    have hb2:b≠(s.heap.push { cls:=.type "set",dict:=none,data:=.set #[] 0 (.fresh 0 0 (!w.params.followText "set-order")) }).objs.size:=by
     rw [Heap.size_push]; exact zk (Nat.lt_succ_of_lt hb')
    exact hm.heap b o (by simp only [zj,zB,List.not_mem_nil,or_false,not_or]; exact ⟨hb1,hb2⟩) (zh _ (zh _ e))
   ·cases r₂ with
    | error e=>exact hr₂
    | ok fl₂ =>
     cases fl₂ with
     | ret r =>
      obtain ⟨rfl,h',tk,rfl,hS',hk'⟩:=hr₂
      repeat (any_goals (first | assumption | wp_step))
      exact h _ _ hS' hk'
     | _=>exact hr₂.elim
  | _=>exact hr.elim
end
def ItS (h:Heap) (I a:Addr) (first:Value) (i n ep:Nat):Prop:=∃o,h.get? I=some o∧o.cls = .type "set_iterator"∧o.data = .fields #[first,.int i 0,.ref a,.int n 0,.int ep 0]
section
variable {prog:Program}{w:World}{A:Around}{E:Value→Shared→Prop}{s:Shared}{a:Addr}{ss:List Str}{o:Obj}{es:Array (Int×Value)}{ep:Nat}{t:SetTable}
theorem ItS.typeIs {I:Addr}{first:Value}{i n:Nat} (h:ItS s.heap I a first i n ep):s.TypeIs (.ref I) "set_iterator":=let ⟨o,h1,h2,_⟩:=h; ⟨o,h1,h2⟩
end
section
variable {prog:Program}{w:World}{A:Around}{E:Value→Shared→Prop}{s:Shared}{a:Addr}{ss:List Str}{o:Obj}{es:Array (Int×Value)}{ep:Nat}{t:SetTable}
theorem ItS.at {h h':Heap}{I:Addr}{first:Value}{i n:Nat} (x:ItS h I a first i n ep) (e:∀o,h.get? I=some o→h'.get? I=some o):ItS h' I a first i n ep:=let ⟨o,ho,r⟩:=x; ⟨o,e _ ho,r⟩
theorem Qnf.at {h h':Heap} (x:Qnf prog w h a ss o es ep t) (e:∀o,h.get? a=some o→h'.get? a=some o):Qnf prog w h' a ss o es ep t:=⟨e _ x.1,x.2⟩
end
section
variable {X:Cx}
variable {md:List Md}{P:Pt}
end
structure Qxr (mg:Str→Option Value):Prop extends Qtd mg where
 set_:mg "set" = none
section
variable {prog:Program}{w:World}{A:Around}{E:Value→Shared→Prop}{s:Shared}{K:Frag}{H F:Hp}{as:List Addr}
end
section
variable {X:Cx}
end
end L2
namespace L2
open PySem PySem.Spec PyProof.Rows
section
variable {X:Cx}{md:List Md}{P:Pt}{R:RR}
end
section
variable {X:Cx}{md:List Md}{P:Pt}
variable {tg iter elt:Expr}{ifs:List Expr}{scope:Scope}{pos:Pos}{mi:M D}{g:MG}{t:M Bool}{e:M D}
end
end L2
namespace L2
open PySem PySem.Spec PyProof.Rows PySem.W
def CXE (Pr:Program) (w:World):CXT:=fun outer H s E e s'=>∃(ea C:Addr) (H':Hp) (B:Heap) (a0:Value),e = .ref ea∧s'.os=s.os∧AllBare s'.gens∧Un (frs outer) [] H H' s.heap s'.heap∧HOk Pr w H' s'.heap ∧
 Heap.FlyingW B outer ea (.ref C) a0 s'.heap∧(∀b u,H' b=some u→∃o,B.get? b=some o)∧(∀b o,s.heap.get? b=some o→b∉frs outer→∃o',B.get? b=some o')∧E (.ref C) none H'
section
variable {X:Cx}{md:List Md}{P:Pt}{R:RR}
def Qmn (K:Frag) (mg:Str→Option Value) (md:List Md) (P:Pt) (R:RR) (W:Xc→Hp→Prop) (D:Ends) (H F:Hp) (as:List Addr):Fl→Prop
 | .ex x O'=>∀H' F' as',GrS P H F as H' F' as'→RlO K mg O' H' F' as'→W x H'
 | f=>QeX K mg md P R D H F as f
theorem Qmn.gr {K:Frag}{mg:Str→Option Value}{W:Xc→Hp→Prop}{D:Ends}{H F H' F':Hp}{as as':List Addr}{f:Fl} (g:GrS P H F as H' F' as') (h:Qmn K mg md P R W D H F as f):Qmn K mg md P R W D H' F' as' f:=by
 cases f with
 | ex x O'=>exact fun H2 F2 as2 g2 r2=>h H2 F2 as2 (g.trans g2) r2
 | nx ρ' O'=>exact fun σ' H2 F2 as2 g2 r2 s2=>h σ' H2 F2 as2 (g.trans g2) r2 s2
 | bk ρ' O'=>exact fun σ' H2 F2 as2 g2 r2 s2=>h σ' H2 F2 as2 (g.trans g2) r2 s2
 | ct ρ' O'=>exact fun σ' H2 F2 as2 g2 r2 s2=>h σ' H2 F2 as2 (g.trans g2) r2 s2
 | rt d O'=>exact fun v H2 F2 as2 g2 r2 s2=>h v H2 F2 as2 (g.trans g2) r2 s2
 | no=>exact h
def msN (m:MS):MS:=fun ρ O=>match m ρ O with
 | .ex _ _=>.no
 | f=>f
def QdJ (t:M Bool) (a b:MS):MS:=fun ρ O=>match t ρ O with
 | .ok v O'=>if v=true then a ρ O' else b ρ O'
 | _=>.no
end
def bmV:List Value:=[.type "ValueError",.type "Exception",.type "BaseException",.type "object"]
def QgU (K:Frag) (mg:Str→Option Value) (c:Str):Prop:=∃C,mg c=some (.ref C)∧excIn K C bmV "ValueError.__new__" = true
theorem Qq6 {K:Frag}{h:Heap}{C:Addr}{id:String} (hK:K.In h) (hq:excIn K C bmV id=true) :
  ∃bm N nm qn bs hd sn sub ab col dd k0 k1 k2 k3 k5 mN,h.get? C=some (excClassObj nm qn C N bs bm hd sn sub ab col dd k0 k1 k2 k3 k5 id)∧h.Ns N mN∧mN "__init__" = none∧OwnTail h bmV bm:=by
 unfold excIn at hq;split at hq
 case h_2=>cases hq
 case h_1 dd cd sl lk =>
  split at hq
  case h_2=>cases hq
  case h_1 C1 bm k0 k1 k2 k3 nn k5 e1 e2 =>
   rw [zf,zf,zf,zf,zf] at hq;obtain ⟨⟨⟨⟨⟨p1,p2⟩,p3⟩,p4⟩,p5⟩,p6⟩:=hq;have q1:C1=C:=beq_iff_eq.mp p1;have q2:nn=id:=beq_iff_eq.mp p2;subst q1;subst q2
   rcases cd with ⟨nm,bs,mro,ns,qn,hd,sn,sub,ab,col,del⟩
   have e1':mro = .ref C1::bm:=e1
   have p3':del=false:=by
    have z:(!del)=true:=p3
    cases del with
    | false=>rfl
    | true=>cases z
   subst e1';subst p3'
   rcases sl with ⟨ls⟩
   have e2':ls = [k0,k1,k2,k3,some (.builtin nn),k5]:=e2;subst e2';exact ⟨bm,ns,nm,qn,bs,hd,sn,sub,ab,col,dd,k0,k1,k2,k3,k5,_,hK _ _ lk,.of_isNs (isNs_of_in hK p5),nsMap_none_of_in hK p5 (beq_iff_eq.mp p6),tail_of_in hK p4⟩
section
variable {X:Cx}{md:List Md}{P:Pt}{R:RR}
end
theorem QbL.has {P:Program}{w:World}{H:Hp}{h:Heap}{a:Addr}{o:HO} (x:QbL P w H h a o):∃u,h.get? a=some u:=by
 cases o with
 | lst xs=>exact let ⟨_,_,_,_,e⟩:=x; ⟨_,e⟩
 | tup xs=>exact let ⟨_,_,_,_,e,_⟩:=x; ⟨_,e⟩
 | dK kvs=>exact let ⟨_,_,_,_,_,_,_,e,_⟩:=x; ⟨_,e⟩
 | dT kvs=>exact let ⟨_,_,_,_,_,_,_,e,_⟩:=x; ⟨_,e⟩
 | set S n=>exact let ⟨_,_,_,_,e,_⟩:=x; ⟨_,e⟩
 | ins C dx fs=>exact let ⟨_,_,_,e,_⟩:=x; ⟨_,e⟩
 | own y=>exact let ⟨_,e⟩:=x; ⟨_,e⟩
 | xd fs=>exact let ⟨_,⟨_,_,_,e,_⟩,_⟩:=x; ⟨_,e⟩
 | rng lo hi=>exact let ⟨_,_,_,e⟩:=x; ⟨_,e⟩
 | frz ob u=>exact ⟨_,x.1⟩
 | tbl ps=>exact ⟨_,x⟩
 | met f y=>exact ⟨_,x⟩
 | ext φ=>exact x.2.1
theorem HOk.only {P:Program}{w:World}{H:Hp}{h h':Heap} (x:HOk P w H h) (k:∀b v u,H b=some v→h.get? b=some u→h'.get? b=some u):HOk P w H h':=fun a o e =>
 (x a o e).stay (fun b u hb q=>by
  rcases hb with rfl | hb
  ·exact k _ _ u e q
  ·exact k b _ u hb q) (fun _ q=>q) fun _ _ q=>q
theorem Un.then {fs:List Addr}{H0 H:Hp}{h0 h1 h2:Heap} (u:Un fs [] H0 H h0 h1) (st:∀b o,h1.get? b=some o→b∉fs→(∃o',h0.get? b=some o')→h2.get? b=some o)
  (fr:∀b o,h1.get? b=some o→b∈fs→∃sl,h2.get? b=some { o with slots:=sl }):Un fs [] H0 H h0 h2 where
 keep:=fun b o q n nf nx=>st b o (u.keep b o q n nf nx) nf ⟨o,q⟩
 slot:=fun b o q n hb nx=>by
  obtain ⟨sl,e⟩:=u.slot b o q n hb nx;obtain ⟨sl2,e2⟩:=fr b _ e hb;exact ⟨sl2,e2⟩
 free:=u.free
 there:=fun b o q nx=>by
  obtain ⟨o',e⟩:=u.there b o q nx
  by_cases hb:b∈fs
  ·obtain ⟨sl,e2⟩:=fr b o' e hb;exact ⟨_,e2⟩
  ·exact ⟨o',st b o' e hb ⟨o,q⟩⟩
 tups:=u.tups
 frzs:=u.frzs
 tbls:=u.tbls
theorem QnM {l:List Env}{H H':Hp}{h0 h1 h2 B:Heap} (un:Un (frs l) [] H H' h0 h1) (hB:B.StaysIn h1) (ff:h1.FunFrames B l) (old:∀b o,h0.get? b=some o→b∉frs l→∃o',B.get? b=some o') (hB2:B.StaysIn h2) (up:h1.UpToSlots h2):Un (frs l) [] H H' h0 h2 :=
 Un.then un (fun b o q n z=>by
  obtain ⟨o0,z⟩:=z;obtain ⟨o',e⟩:=old b o0 z n;have e1:=hB b o' e;rw [q] at e1;cases e1
  exact hB2 b _ e) fun b o q z=>by
  obtain ⟨_,o',q',nf⟩:=ff.mem z;rw [q] at q';cases q';exact up b o q nf
theorem QoN {P:Program}{w:World}{H:Hp}{h1 h2 B:Heap} (hok:HOk P w H h1) (trk:∀b u,H b=some u→∃o,B.get? b=some o) (hB:B.StaysIn h1) (hB2:B.StaysIn h2):HOk P w H h2:=hok.only fun b v u e q=>by
 obtain ⟨o,e1⟩:=trk b v e;have e2:=hB b o e1;rw [q] at e2;cases e2;exact hB2 b _ e1
def Qsd (P:Program) (w:World) (K:Frag) (mg:Str→Option Value) (base:Heap) (x:Str) (ps:List Str) (k:Nat) (sp:Sp):Prop :=
 ∃f fd,mg x=some (.ref f)∧keepIn K (.ref f)=true∧Binds K fd ps []∧Qby P w K mg base (CXE P w) k f fd ps sp∧∃oc od osl,K.lookup f=some ⟨oc,od,.func fd,osl⟩
def Qus (K:Frag) (mg:Str→Option Value) (R:RR) (H F:Hp) (as:List Addr) (Q:VK) (E:XK):Res D→Prop
 | .ok d O'=>∀v H' F' as',Gr H F as H' F' as'→RlO K mg O' H' F' as'→R (fun a=>H a=none) H' F' as' v d→Q v H'
 | .ex x O'=>∀C H' F' as',mg x.cls=some (.ref C)→Gr H F as H' F' as'→RlO K mg O' H' F' as'→E (.ref C) none H'
 | .no=>False
def QmE (K:Frag) (mg:Str→Option Value) (pm:List Md) (R:RR) (c:List D→Qab→Res D):Sp:=fun vs H Q E =>
 ∃ds O F as,RlO K mg O H F as∧QbG K H F as pm vs ds∧Qus K mg R H F as Q E (c ds O)
section
variable {Pr:Program}{w:World}{K:Frag}{mg:Str→Option Value}{base:Heap}
theorem Qsd.can {x:Str}{ps:List Str}{k:Nat}{pm:List Md}{R:RR}{c:List D→Qab→Res D} (C:Qsd Pr w K mg base x ps k (QmE K mg pm R c)) (hl:pm.length=ps.length:=by rfl):Can Pr w K mg base x ps k (vSp K mg pm R c):=by
 obtain ⟨f,fd,hm,hk,hb,Fn,lk⟩:=C;refine ⟨f,fd,hm,hk,hb,⟨fun vs H Q E h=>?_,fun A outer s H args us vs Q E hr e0 hbi r h=>?_⟩,lk⟩
 ·obtain ⟨ds,O,F,as,d,O',r,a,_⟩:=h;rw [a.len.1,hl]
 ·obtain ⟨ds,O,F,as,d,O',ro,a,e,q⟩:=h
  have z:QmE K mg pm R c vs H Q fun _ _ _=>False:=⟨ds,O,F,as,ro,a,by rw [e]; exact q⟩
  refine codeAny_mono (Fn.run A outer s H args us vs Q _ hr e0 hbi r z) fun res s' hq=>?_
  cases res with
  | error ev =>
   obtain ⟨_,_,_,_,_,_,_,_,_,_,_,_,_,f0⟩:=hq;exact f0.elim
  | ok fl=>cases fl <;> exact hq
end
section
variable {X:Cx}{pins:List (Addr×Obj)}{σ:St}{H:Hp}{s:Shared}{ea:Addr}{oe:Obj}
theorem Inv.gone {h':Heap}{m':Str→Option Value}{t':Nat} (I:Inv X pins σ H s) (hn:h'.Ns X.env.locals m') (hs:Heap.SameBut X.env.locals s.heap h'):Inv X pins (List.replicate X.N.length none) H { s with heap:=h',toks:=t' }:=by
 have ne:∀b o,X.s₀.heap.get? b=some o→b≠X.env.locals:=fun b o e=>zk (zv (zd e) I.ok.above)
 refine ⟨I.ok,I.os,I.bare,⟨fun b o e n hb hx=>(hs.2 b (ne b o e)).trans (I.base.keep b o e n hb hx),fun b o e n hb hx=>?_,I.base.free,fun b o e hx=>?_,I.base.tups,I.base.frzs,I.base.tbls⟩,⟨m',hn,fun i x v _ e2 _=>?_⟩,fun y c e=>?_,I.free,I.freeC,fun p hp=>?_,I.hok.only fun b v u e q=>(hs.2 b fun z=>?_).trans q,List.length_replicate⟩
 ·obtain ⟨sl,e1⟩:=I.base.slot b o e n hb hx;exact ⟨sl,(hs.2 b (ne b o e)).trans e1⟩
 ·obtain ⟨o',e1⟩:=I.base.there b o e hx;exact ⟨o',(hs.2 b (ne b o e)).trans e1⟩
 ·rw [List.getElem?_replicate] at e2
  split at e2 <;> cases e2
 ·obtain ⟨v,z⟩:=I.cell y c e;exact ⟨v,z.sameBut hs (I.cne y c e)⟩
 ·obtain ⟨e,n,nl,nf,d⟩:=I.pin p hp;exact ⟨(hs.2 p.1 nl).trans e,n,nl,nf,d⟩
 ·rw [z,I.free] at e;cases e
end
end L2
namespace L2
open PySem PySem.Spec PyProof.Rows PySem.W PySem.Calls PySem.Builtin PySem.Builtin.ObjectAttr PySem.Builtin.Getset_descriptor
section
variable {prog:Program}{w:World}{A:Around}{E:Value→Shared→Prop}{K:Frag}{a C:Addr}{o:Obj}{h:Heap}{g:Array GenState}{d:Drawn}{t:Nat}{os:OsState}
theorem Qp1 {R:Result→Shared→Prop}{tp:Value} (X:K.In h) (hx:h.get? a=some o) (hc:o.cls = .ref C) (hm:mroIn K C (.type "object")=some true) (hq:R (.ok (.ret (.ref C))) ⟨h,g,d,t,os⟩) :
  codeAny (model prog w) A (.call (.builtin "getset_descriptor.__get__") ⟨[.builtin "object.__class__",.ref a,tp],[]⟩) R ⟨h,g,d,t,os⟩:=by
 have L0:Looks (model prog w) h (typeOf (.ref a)) (.ref C):=hc ▸ (Looks.ld hx).andThen .now;have L1:=looks_mroIn (M:=model prog w) X hm;refine codeAny_call_builtin KF.slot_gs.plain KF.entry_gs (KF.slot_gs.check _ _ _ _ _ _ _ _ KF.type_class (KF.args_gs _ _ _) ?_); unfold Builtin.«getset_descriptor.__get__» descrGet;rw [dga_obj]; refine za (zb ?_);unfold descrGetter descrCheckInstance descrNameAndClass isInstance; simp only [KF.owner_class]
 repeat lk
 refine ⟨Code.quiet_builtin _ (by decide +kernel),zY KF.entry_class ?_⟩; unfold Builtin.«object.__class__» shownTypeOf
 repeat lk
 exact hq
structure QcG (K:Frag) (C:Addr):Prop where
 ga:findIn K (.ref C) "__getattribute__" = some (some (.builtin "BaseException.__getattribute__"))
 na:findIn K (.ref C) "__getattr__" = some none
 ca:findIn K (.ref C) "__class__" = some (some (.builtin "object.__class__"))
 sp:specialIn K (.builtin "object.__class__") "__get__" = some (some (.builtin "getset_descriptor.__get__"))
 tk:takesIn K (.builtin "object.__class__")=some true
 ob:mroIn K C (.type "object")=some true
 be:mroIn K C (.type "BaseException")=some true
 cl:(clsIn K C).isSome=true
theorem QpD {tk:Tok}{Q:Fin→Shared→Prop} (F0:QcG K C) (X:K.In h) (hx:h.get? a=some o) (hc:o.cls = .ref C) (hq:Q (.done (.ret (.ref C))) ⟨h,g,d,t,os⟩) :
  wpAny (model prog w) A (Builtin.«object.__getattribute__» ⟨[.ref a,.str "__class__" tk],[]⟩) Q E ⟨h,g,d,t,os⟩:=by
 have L0:Looks (model prog w) h (typeOf (.ref a)) (.ref C):=hc ▸ (Looks.ld hx).andThen .now;have L1:=looks_findIn (M:=model prog w) X F0.ca;have L2:=looks_specialIn (M:=model prog w) X F0.sp;have L3:=looks_takesIn (M:=model prog w) X F0.tk;unfold Builtin.«object.__getattribute__»;refine za (zR (a:=(Value.ref a,[Value.str "__class__" tk])) rfl ?_);dsimp only;refine za (zb ?_);refine za (L0.at ?_);unfold find getOf;refine za (za (L1.at (za (L2.at (za ?_)))));unfold dataDescriptor?;refine za (L3.at ?_);rw [if_pos rfl];refine zb ?_;dsimp only;refine za (zS (zb ?_));dsimp only;unfold bindTo;dsimp only
 refine za (zF (zM (Qp1 X hx hc F0.ob ?_)));exact zb hq
theorem Qj1 {nv:Value}{Q:Unit→Shared→Prop} (F0:QcG K C) (X:K.In h) (hx:h.get? a=some o) (hc:o.cls = .ref C) (hq:Q () ⟨h,g,d,t,os⟩):wpAny (model prog w) A (checkBuiltinCall "BaseException.__getattribute__" ⟨[.ref a,nv],[]⟩) Q E ⟨h,g,d,t,os⟩:=by
 have L4:Looks (model prog w) h (isInstance (.ref a) (.type "BaseException")) true:=(show Looks (model prog w) h (typeOf (.ref a)) (.ref C) from hc ▸ (Looks.ld hx).andThen .now).andThen (looks_mroIn X F0.be)
 have e1:builtinKind "BaseException.__getattribute__" = some .slot:=by decide +kernel
 have e2:splitId "BaseException.__getattribute__" = some ("BaseException","__getattribute__"):=by decide +kernel
 have e3:=PySem.F.args_bexc_ga (.ref a) nv;simp only [checkBuiltinCall,e1,e2];refine za (L4.at ?_);rw [if_neg (by decide)];exact zR (a:=()) e3 hq
theorem QnP {Q:Option Value→Shared→Prop} (F0:QcG K C) (X:K.In h) (hx:h.get? a=some o) (hc:o.cls = .ref C) (hq:Q (some (.ref C)) ⟨h,g,d,t+1,os⟩) :
  wpAny (model prog w) A (getAttr? (.ref a) "__class__") Q E ⟨h,g,d,t,os⟩:=by
 have L0:Looks (model prog w) h (typeOf (.ref a)) (.ref C):=hc ▸ (Looks.ld hx).andThen .now;have L1:=looks_findIn (M:=model prog w) X F0.ga;have L2:=looks_findIn (M:=model prog w) X F0.na;have L4:Looks (model prog w) h (isInstance (.ref a) (.type "BaseException")) true:=L0.andThen (looks_mroIn X F0.be);have bnd:=PySem.F.attrBase_ValueError.ga.bind (.ref a)
 have hne:(onTheHeap (Value.ref C)&&Value.builtin "BaseException.__getattribute__" == Value.builtin "object.__getattribute__")=false:=by rw [show (Value.builtin "BaseException.__getattribute__" == Value.builtin "object.__getattribute__")=false by decide +kernel,Bool.and_false]
 unfold getAttr? getAttrBy? getAttrBy;refine za (wpAny_mkText ?_);refine za (wpAny_attempt (zF ?_));refine za (L0.at ?_);refine za (L1.at ?_);dsimp only;rw [if_neg (by rw [hne]; exact zg)];unfold getAttrByItsOwn;refine za ?_;unfold hookBefore;rw [if_pos (show onTheHeap (Value.ref C)=true from rfl)];refine L2.at ?_;refine za (wpAny_attempt (zF ?_));unfold callGetattribute;rw [if_neg (by decide)];unfold boundAndCalled;refine za (zR bnd ?_);refine zM (codeAny_call_builtin PySem.F.attrBase_ValueError.ga.plain PySem.F.entry_bexc_ga (Qj1 F0 X hx hc (QpD F0 X hx hc ?_)));show wpAny (model prog w) A (handedOut (.ref C)) _ _ _
 exact handed_on rfl (zb hq)
def HX (a C:Addr) (h:Heap):Prop:=∃o,h.get? a=some o∧o.cls = .ref C
theorem Qlj (F0:QcG K C):KitX K (.ref a) (.ref C) (HX a C) where
 ty:=fun _ _ _ p=>by
  obtain ⟨o,q1,q2⟩:=p;exact q2 ▸ (Looks.ld q1).andThen .now
 it:=fun _ _ X _=>by
  have z:=F0.cl;unfold clsIn at z;split at z
  case h_1 c1 d1 cd1 sl1 lk1=>exact fun A1 Q1 E1 s1 k1 q1=>by unfold isType loadHead; exact za (wpAny_loadPart (k1 _ _ (X _ _ lk1)) (zb q1))
  case h_2=>cases z
 ne:=fun h tp dd its n sl X p=>by
  cases e:(Value.ref C == Value.ref tp) with
  | false=>rfl
  | true =>
   have e':C=tp:=Value.ref.inj (beq_iff_eq.mp e);subst e';have z:=F0.cl;unfold clsIn at z;split at z
   case h_1 =>
    have y:=X _ _ ‹_›;rw [p] at y;cases y
   case h_2=>cases z
 ca:=fun {_ _ _ _ _ s} X p k=>by
  obtain ⟨o,q1,q2⟩:=p;obtain ⟨h,g,d,t,os⟩:=s;exact QnP F0 X q1 q2 k
end
end L2
namespace L2
open PySem PySem.Spec PyProof.Rows PySem.W
section
variable {X:Cx}{ea C:Addr}{oe:Obj}
def QmW:V→Option Value
 | .ref a=>some (.ref a)
 | .ty n=>some (.type n)
 | _=>none
theorem Qls {v:V}{u c:Value} (h:RelV v u) (e:QmW v=some c):u=c:=by
 cases v <;> cases e <;> exact h
def Qig:List V→Option (List Value)
 | []=>some []
 | v::vs=>(QmW v).bind fun c=>(Qig vs).map (c :: ·)
theorem Qj2:∀{vs:List V}{us cs:List Value},QaC vs us→Qig vs=some cs→us=cs
 | [],_,_,.nil,e=>by cases e; rfl
 | v::vs,_,_,.cons r t,e=>by
  obtain ⟨c,e1,e2⟩:=Option.bind_eq_some_iff.mp e;obtain ⟨l,e3,rfl⟩:=jh.mp e2;rw [Qls r e1,Qj2 t e3]
end
section
variable {X:Cx}{md:List Md}{P:Pt}{R:RR}
end
section
variable {X:Cx}{ea C:Addr}{oe:Obj}{i:Nat}{b:Bool}{n:Str}{p p1 pos:Pos}
def Qgp (X:Cx):List Expr→List V→Prop
 | [],vs=>vs = []
 | e::es,vs=>∃v r,vs=v::r∧(∀Y:Cx,Y.env=X.env→Y.mg=X.mg→PE Y e (tC v))∧starEach (e::es) X.env=(false,eval e X.env)::starEach es X.env∧Qgp X es r
end
end L2
namespace L2
open PySem PySem.Spec PyProof.Rows
section
variable {X:Cx}
variable {md:List Md}{P:Pt}
end
end L2
namespace L2
open PySem PySem.Spec PyProof.Rows PySem.W
section
variable {prog:Program}{w:World}{A:Around}{E:Value→Shared→Prop}
end
section
variable {X:Cx}{md:List Md}{P:Pt}{R:RR}
end
def Qex (mg:Str→Option Value):List Str→List Addr→Prop
 | [],as=>as = []
 | n::ns,as=>∃a r,as=a::r∧mg n=some (.ref a)∧Qex mg ns r
theorem Qjm:∀as:List Addr,Qig (as.map V.ref)=some (as.map Value.ref)
 | []=>rfl
 | a::as=>by
  show Qig (V.ref a::as.map V.ref)=_;unfold Qig;rw [Qjm as];rfl
theorem Qex.len {mg:Str→Option Value}:∀{ns:List Str}{as:List Addr},Qex mg ns as→as.length=ns.length
 | [],as,h=>by
  have h':as = []:=h;rw [h'];rfl
 | n::ns,as,h=>by
  obtain ⟨a,r,rfl,_,h2⟩:=h;rw [zq,h2.len,zq]
section
variable {X:Cx}{md:List Md}{P:Pt}{R:RR}
theorem QrK:∀as,Qex X.mg [] as→Qgp X [] (as.map V.ref):=fun as h=>by
 have h':as = []:=h;subst h';exact rfl
theorem QcU {n:Str}{ns:List Str}{es:List Expr}{p:Pos} (h:∀as,Qex X.mg ns as→Qgp X es (as.map V.ref)) (hg:Gl X n:=by rfl) (hd:(n == ("__debug__":Str))=false:=by decide) (hs:starEach (.Name n p::es) X.env=(false,eval (.Name n p) X.env)::starEach es X.env:=by rfl) :
  ∀as,Qex X.mg (n::ns) as→Qgp X (.Name n p::es) (as.map V.ref):=fun as z=>by
 obtain ⟨a,r,rfl,hm,z⟩:=z;exact ⟨.ref a,_,rfl,fun Y e1 e2=>QjE (show Y.env.kindOf n=_ by rw [e1]; exact hg) (by rw [e2]; exact hm) rfl hd,hs,h r z⟩
end
section
variable {X:Cx}{pins:List (Addr×Obj)}{σ:St}{H:Hp}{s:Shared}{ea:Addr}{oe:Obj}
theorem Inv.goneI {h':Heap}{m:Str→Option Value}{v:Option Value}{t' i:Nat}{n:Str} (I:Inv X pins σ H s) (hN:X.N.Nodup) (hi:X.N[i]? = some n)
  (hl:∀(i:Nat) (x:Str) (v:V),X.N[i]? = some x→σ[i]? = some (some v)→Vis X.env.scope x→∃u,RelV v u∧Look X.env s.heap m x u)
  (hn:h'.Ns X.env.locals (fun x=>if x=n then v else m x)) (hs:Heap.SameBut X.env.locals s.heap h'):Inv X pins (σ.set i none) H { s with heap:=h',toks:=t' }:=by
 have ne:∀b o,X.s₀.heap.get? b=some o→b≠X.env.locals:=fun b o e=>zk (zv (zd e) I.ok.above)
 refine ⟨I.ok,I.os,I.bare,⟨fun b o e n hb hx=>(hs.2 b (ne b o e)).trans (I.base.keep b o e n hb hx),fun b o e n hb hx=>?_,I.base.free,fun b o e hx=>?_,I.base.tups,I.base.frzs,I.base.tbls⟩,⟨_,hn,fun j x v' e1 e2 e3=>?_⟩,fun y c e=>?_,I.free,I.freeC,fun p hp=>?_,I.hok.only fun b v u e q=>(hs.2 b fun z=>?_).trans q,by rw [zP]; exact I.len⟩
 ·obtain ⟨sl,e1⟩:=I.base.slot b o e n hb hx;exact ⟨sl,(hs.2 b (ne b o e)).trans e1⟩
 ·obtain ⟨o',e1⟩:=I.base.there b o e hx;exact ⟨o',(hs.2 b (ne b o e)).trans e1⟩
 ·have hji:j≠i:=fun z=>by
   subst z;rw [zC (by rw [I.len]; exact (zl.mp hi).1)] at e2;cases e2
  rw [zo (Ne.symm hji)] at e2;obtain ⟨u,r,lk⟩:=hl j x v' e1 e2 e3;refine ⟨u,r,?_⟩
  have hxn:x≠n:=fun z=>by
   subst z;obtain ⟨q1,q2⟩:=zl.mp e1;obtain ⟨q3,q4⟩:=zl.mp hi
   rcases Nat.lt_trichotomy j i with q | q | q
   ·exact List.pairwise_iff_getElem.mp hN j i q1 q3 q (q2.trans q4.symm)
   ·exact hji q
   ·exact List.pairwise_iff_getElem.mp hN i j q3 q1 q (q4.trans q2.symm)
  rcases lk with ⟨k1,k2⟩ | ⟨k1,c,k2,k3⟩
  ·exact .inl ⟨k1,(if_neg hxn).trans k2⟩
  ·exact .inr ⟨k1,c,k2,k3.sameBut hs (I.cne x c k2)⟩
 ·obtain ⟨v,z⟩:=I.cell y c e;exact ⟨v,z.sameBut hs (I.cne y c e)⟩
 ·obtain ⟨e,n,nl,nf,d⟩:=I.pin p hp;exact ⟨(hs.2 p.1 nl).trans e,n,nl,nf,d⟩
 ·rw [z,I.free] at e;cases e
end
section
variable {X:Cx}{md:List Md}{P:Pt}{R:RR}
theorem SlO.drop {K:Frag}{ρ:Qak}{σ:St}{H F:Hp}{as:List Addr}{i:Nat}{x:Option V} (s:SlO K md P ρ σ H F as) (hm:md[i]? = some .v):SlO K md P (ρ.set i none) (σ.set i x) H F as:=by
 have hi:i < ρ.length:=by rw [s.len']; exact (zl.mp hm).1
 have ne:∀(j:Nat) (d:D),(ρ.set i none)[j]? = some (some d)→j≠i∧ρ[j]? = some (some d):=fun j d e=>by
  by_cases hj:j=i
  ·subst hj;rw [zC hi] at e;cases e
  ·rw [zo (Ne.symm hj)] at e;exact ⟨hj,e⟩
 refine ⟨by rw [zP]; exact s.len,by rw [zP]; exact s.len',s.pd,fun j m d e1 e2=>?_,fun j k a ds es h1 h2 h3 h4 h5 h6=>?_,fun y hy=>?_⟩
 ·obtain ⟨hj,e2⟩:=ne j d e2;rw [zo (Ne.symm hj)];exact s.sl j m d e1 e2
 ·obtain ⟨hj,h3⟩:=ne j _ h3;obtain ⟨hk,h4⟩:=ne k _ h4;rw [zo (Ne.symm hj)] at h5;rw [zo (Ne.symm hk)] at h6;exact s.inj j k a ds es h1 h2 h3 h4 h5 h6
 ·obtain ⟨p1,p2,p3⟩:=s.pin y hy
  have hne:i≠y.1:=fun z=>by rw [←z,hm] at p1; cases p1
  rw [zo hne,zo hne];exact ⟨p1,p2,p3⟩
end
section
variable {X:Cx}{ea C:Addr}{oe:Obj}{i ja jb:Nat}{b:Bool}{n na nb w1 w2:Str}{p p1 pos:Pos}
end
section
variable {X:Cx}{md:List Md}{P:Pt}{R:RR}
end
def DK (h h':Heap):Prop:=∀b o,h.get? b=some o→∃o',h'.get? b=some o'∧o'.dict=o.dict
theorem DK.refl (h:Heap):DK h h:=fun _ o e=>⟨o,e,rfl⟩
theorem DK.trans {h h' h2:Heap} (x:DK h h') (y:DK h' h2):DK h h2:=fun b o e=>by
 obtain ⟨o1,e1,q1⟩:=x b o e;obtain ⟨o2,e2,q2⟩:=y b o1 e1;exact ⟨o2,e2,q2.trans q1⟩
theorem DK.upd {h:Heap}{a:Addr}{f:Obj→Obj} (hf:∀o,o.isFreed=false→(f o).isFreed=false∧(f o).dict=o.dict):DK h (h.update a f):=fun b o e=>by
 by_cases z:a=b
 ·subst z;have hz:=(Heap.get?_some_iff.mp e).2;exact ⟨f o,Heap.get?_update_self f e (hf o hz).1,(hf o hz).2⟩
 ·exact ⟨o,(Heap.get?_update_other h f z).trans e,rfl⟩
def KD {α:Type}:Sem α→Prop
 | .pure _=>True
 | .raise _=>True
 | .unsupported _=>True
 | .finish _=>True
 | .rule _ k=>KD (k ())
 | .at _ k=>KD (k ())
 | .load _ _ k=>∀o,KD (k o)
 | .update _ _ f k=>(∀o,o.isFreed=false→(f o).isFreed=false∧(f o).dict=o.dict)∧KD (k ())
 | .alloc _ k=>∀a,KD (k a)
 | .loadIfAlive _ k=>∀o,KD (k o)
 | .point _ k=>KD (k ())
 | .fresh k=>∀t,KD (k t)
 | .ask k=>∀x,KD (k x)
 | .handled _ k=>∀v,KD (k v)
 | .stack k=>∀l,KD (k l)
 | .thread k=>∀n,KD (k n)
 | _=>False
theorem QaW {α β:Type}{t:Sem α}{f:α→Sem β} (h:KD t) (hf:∀a,KD (f a)):KD (t.bind f):=by
 induction t with
 | pure a=>exact hf a
 | raise | unsupported | finish=>trivial
 | rule _ k ih=>exact ih () h
 | «at» _ k ih=>exact ih () h
 | point _ k ih=>exact ih () h
 | load _ _ k ih=>exact fun o=>ih o (h o)
 | update _ _ g k ih=>exact ⟨h.1,ih () h.2⟩
 | alloc _ k ih=>exact fun o=>ih o (h o)
 | loadIfAlive _ k ih=>exact fun o=>ih o (h o)
 | fresh k ih=>exact fun o=>ih o (h o)
 | ask k ih=>exact fun o=>ih o (h o)
 | handled _ k ih=>exact fun o=>ih o (h o)
 | stack k ih=>exact fun o=>ih o (h o)
 | thread k ih=>exact fun o=>ih o (h o)
 | _=>exact False.elim h
theorem Quw {α:Type}{M:Model}{Γ:PySem.Ctx}{t:Sem α} (h:KD t) {h0:Heap}{Q:α→Pos→Shared→Prop}{E:Value→Pos→Shared→Prop}{p:Pos}{s:Shared} (d:DK h0 s.heap) (w:Sem.wp M Γ t Q E p s) :
  Sem.wp M Γ t (fun a p' s'=>Q a p' s'∧DK h0 s'.heap) (fun e p' s'=>E e p' s'∧DK h0 s'.heap) p s:=by
 induction t generalizing p s with
 | pure a=>exact ⟨w,d⟩
 | raise e=>exact ⟨w,d⟩
 | unsupported=>exact w
 | finish=>exact w
 | rule _ k ih=>exact ih () h d w
 | «at» _ k ih=>exact ih () h d w
 | point _ k ih=>exact ih () h d w
 | load _ _ k ih=>obtain ⟨o,e,w⟩:=w; exact ⟨o,e,ih o (h o) d w⟩
 | update _ _ g k ih=>obtain ⟨e,w⟩:=w; exact ⟨e,ih () h.2 (d.trans (DK.upd h.1)) w⟩
 | alloc o k ih=>exact ih _ (h _) (d.trans fun b o' e=>⟨o',zh _ e,rfl⟩) w
 | loadIfAlive _ k ih=>exact ih _ (h _) d w
 | fresh k ih=>exact ih _ (h _) d w
 | ask k ih=>exact ih _ (h _) d w
 | handled _ k ih=>exact ih _ (h _) d w
 | stack k ih=>exact ih _ (h _) d w
 | thread k ih=>exact ih _ (h _) d w
 | _=>exact False.elim h
theorem Qfv {α:Type}{M:Model}{A:Around}{t:Sem α} (h:KD t) {Q:α→Shared→Prop}{E:Value→Shared→Prop}{s:Shared} (w:wpAny M A t Q E s):wpAny M A t (fun a s'=>Q a s'∧DK s.heap s'.heap) (fun e s'=>E e s'∧DK s.heap s'.heap) s:=fun Γ p hΓ=>Quw h (DK.refl _) (w Γ p hΓ)
theorem Qju (a:Addr):KD (load a):=fun _=>trivial
theorem Qix:KD stack:=fun _=>trivial
theorem QgZ (v:Value) (i:Nat):KD (field v i):=by
 unfold field fieldsOf
 refine QaW ?_ fun a=>?_
 ·split
  ·refine QaW (Qju _) fun o=>?_
   split <;> trivial
  ·trivial
 ·split <;> trivial
theorem QnJ {a:Addr}{f:Obj→Obj} (hf:∀o,o.isFreed=false→(f o).isFreed=false∧(f o).dict=o.dict):KD (update a f):=⟨hf,trivial⟩
theorem QeC (v:Value) (i:Nat) (x:Value):KD (setField v i x):=by
 unfold setField
 split
 ·unfold updateField
  refine QaW (Qju _) fun o=>?_
  split
  ·split
   ·refine QnJ fun o h=>?_
    unfold Obj.mapFields
    split
    ·exact ⟨rfl,rfl⟩
    ·exact ⟨h,rfl⟩
   ·trivial
  ·trivial
 ·trivial
theorem Qfo (e:Value) (f:Option Addr):KD (setFlight e f):=by
 unfold setFlight
 refine QaW (QgZ _ _) fun tb=>?_
 split
 ·exact QeC _ _ _
 ·trivial
theorem QkW:KD frameEnvs:=by
 unfold frameEnvs
 exact QaW Qix fun _=>trivial
theorem QnT (env:Env) (l:List Env):KD (behindIsImport env l):=by
 unfold behindIsImport
 split
 ·trivial
 ·split
  ·trivial
  ·exact QaW (QgZ _ _) fun _=>trivial
theorem QrF (env:Env) (b:Bool) (l:List Env):KD (keptBack env b l):=by
 unfold keptBack
 split
 ·split
  ·trivial
  ·refine QaW ?_ fun _=>trivial
   unfold underTheClaimsCaller
   exact QaW Qix fun _=>trivial
 ·trivial
theorem Qli:∀l:List Env,KD (readyFrames l)
 | []=>trivial
 | env::outer=>by
  unfold readyFrames
  split
  ·refine QaW (Qju _) fun o=>?_
   split
   ·trivial
   ·exact QaW (QnT _ _) fun b=>QaW (QrF _ _ _) fun k=>QaW (QnJ fun o h=>⟨(by revert h; unfold Obj.isFreed; cases o with | mk c d dt sl=>cases dt <;> exact id),rfl⟩) fun _=>Qli outer
  ·trivial
theorem QiY (env:Env):KD (PySem.frameOf env):=by
 unfold PySem.frameOf
 refine QaW QkW fun l=>QaW ?_ fun o=>?_
 ·unfold frameObject
  split
  ·trivial
  ·exact QaW (Qli _) fun _=>trivial
 ·split <;> trivial
theorem kd_new (ty:String) (vs:List Value):KD (newFields ty vs):=by
 have k:KD (newObjAsIs (.type ty) (.fields vs.toArray)):=by
  unfold newObjAsIs
  exact QaW (t:=alloc _) (fun _=>trivial) fun _=>trivial
 unfold newFields newObj;dsimp only
 split
 ·exact QaW (t:=unsupported _) trivial fun _=>k
 ·exact k
theorem QkE (a b c d e:Value) (l:List Value):KD (EntryCells.newEntry a b c d e l):=kd_new _ _
theorem Qk0 (f:Addr) (b:Bool):KD (entryPlaceOf f b):=by
 unfold entryPlaceOf
 refine QaW Qix fun l=>?_
 split <;> trivial
theorem QlS (e:Value) (env:Env):KD (noteFrame e env):=by
 unfold noteFrame
 split
 ·refine QaW (QgZ _ _) fun h=>?_
  split
  ·refine QaW (QgZ _ _) fun x=>?_
   split
   ·trivial
   ·exact QaW (QeC _ _ _) fun _=>QaW (QiY _) fun _=>QaW (Qk0 _ _) fun _=>QaW (QkE _ _ _ _ _ _) fun _=>QeC _ _ _
  ·exact QaW (QiY _) fun _=>QaW (Qk0 _ _) fun _=>QaW (QkE _ _ _ _ _ _) fun _=>QeC _ _ _
 ·trivial
theorem QiK (env:Env) (e:Value):KD (leaving env e):=QaW (QlS _ _) fun _=>Qfo _ _
section
variable {X:Cx}{md:List Md}{P:Pt}{R:RR}
end
section
variable {X:Cx}{md:List Md}{P:Pt}{R:RR}
def QdC (m:M (List D)) (g:MG) (b:MS):MS:=fun ρ O=>match m ρ O with
 | .ok ds O'=>Qa8 g b ds ρ O'
 | _=>.no
end
section
variable {Pr:Program}{w:World}{K:Frag}{mg:Str→Option Value}{base:Heap}
def QqI (P:Program) (w:World) (K:Frag) (mg:Str→Option Value) (base:Heap) (c m:Str) (ps:List Str) (k:Nat) (sp:Sp):Prop :=
 ∃C f fd,mg c=some (.ref C)∧Cls K C∧QiF K C m f∧Binds K fd ps []∧Qby P w K mg base (CXE P w) k f fd ps sp
theorem QqI.can {c x:Str}{ps:List Str}{k:Nat}{pm:List Md}{R:RR}{cf:List D→Qab→Res D} (C:QqI Pr w K mg base c x ps k (QmE K mg pm R cf)) (hl:pm.length=ps.length:=by rfl):QfD Pr w K mg base c x ps k (vSp K mg pm R cf):=by
 obtain ⟨C,f,fd,h1,h2,h3,hb,Fn⟩:=C;refine ⟨C,f,fd,h1,h2,h3,hb,⟨fun vs H Q E h=>?_,fun A outer s H args us vs Q E hr e0 hbi r h=>?_⟩⟩
 ·obtain ⟨ds,O,F,as,d,O',r,a,_⟩:=h;rw [a.len.1,hl]
 ·obtain ⟨ds,O,F,as,d,O',ro,a,e,q⟩:=h
  have z:QmE K mg pm R cf vs H Q fun _ _ _=>False:=⟨ds,O,F,as,ro,a,by rw [e]; exact q⟩
  refine codeAny_mono (Fn.run A outer s H args us vs Q _ hr e0 hbi r z) fun res s' hq=>?_
  cases res with
  | error ev =>
   obtain ⟨_,_,_,_,_,_,_,_,_,_,_,_,_,f0⟩:=hq;exact f0.elim
  | ok fl=>cases fl <;> exact hq
end
section
variable {X:Cx}{md:List Md}{P:Pt}{R:RR}
def QcW (c:List D→Qab→Res D) (ma:M (List D)):M D:=fun ρ O=>match ma ρ O with
 | .ok ds O1=>c ds O1
 | _=>.no
def Qes (m:M D):MS:=fun ρ O=>match m ρ O with
 | .ok _ O'=>.nx ρ O'
 | .ex x O'=>.ex x O'
 | .no=>.no
def Qfy (m:M D):MS:=fun ρ O=>match m ρ O with
 | .ok d O'=>.rt d O'
 | .ex x O'=>.ex x O'
 | .no=>.no
end
section
variable {X:Cx}{md:List Md}{P:Pt}{R:RR}{k:Nat}{c m:Str}{ps:List Str}{p pos apos:Pos}{o e:Expr}{es:List Expr}{pm:List Md}{cf:List D→Qab→Res D}{mo:M D}{ma:M (List D)}
def Qfx (c m:Str) (cf:List D→Qab→Res D) (mo:M D) (ma:M (List D)):M D:=fun ρ O=>match mo ρ O with
 | .ok (.ob n) O1=>match O1[n]? with
  | some (.ins c' fs)=>if c'=c∧(fs.lookup m).isNone=true then (match ma ρ O1 with
   | .ok ds O2=>cf (.ob n::ds) O2
   | _=>.no) else .no
  | _=>.no
 | _=>.no
end
def CXF (Pr:Program) (w:World):CXT:=fun outer H s E e s'=>∃(ea C:Addr) (H':Hp) (B:Heap) (a0:Value) (dxo:Option Addr),e = .ref ea∧s'.os=s.os∧AllBare s'.gens∧Un (frs outer) [] H H' s.heap s'.heap∧HOk Pr w H' s'.heap ∧
 Heap.FlyingW B outer ea (.ref C) a0 s'.heap∧(∀b u,H' b=some u→∃o,B.get? b=some o)∧(∀b o,s.heap.get? b=some o→b∉frs outer→∃o',B.get? b=some o')∧(∃oe,s'.heap.get? ea=some oe∧oe.dict=dxo)∧E (.ref C) dxo H'
def Raw (X:Cx) (H:Hp) (s:Shared) (ea C:Addr) (dxo:Option Addr):Prop:=∃(oe:Obj) (ws:Array Value) (a0:Value),s.heap.get? ea=some oe∧oe.cls = .ref C∧oe.dict=dxo∧oe.data = .fields ws∧ws[1]? = some .none∧ws[0]? = some a0∧H ea=none∧X.s₀.heap.get? ea=none
section
variable {X:Cx}{md:List Md}{P:Pt}{R:RR}
def exR (X:Cx) (x:Xc) (dxo:Option Addr) (H:Hp):Prop:=∀(pins:List (Addr×Obj)) (σ:St) (s:Shared) (ea C:Addr),X.mg x.cls=some (.ref C)→Inv X pins σ H s→Raw X H s ea C dxo→X.xe (.ref ea) s
def exL (X:Cx) (x:Xc) (dxo:Option Addr) (H:Hp):Prop:=∀(pins:List (Addr×Obj)) (σ:St) (H0:Hp) (s:Shared) (e:Value) (s':Shared),Inv X pins σ H0 s→CXF X.prog X.w X.stack H0 s (fun cv d H'=>∃C,cv = .ref C∧X.mg x.cls=some (.ref C)∧d=dxo∧H'=H) e s'→X.xe e s'
def exV (X:Cx) (x:Xc) (dxo:Option Addr) (H:Hp):Prop:=exR X x dxo H∧exL X x dxo H
abbrev WX:=Xc→Option Addr→Hp→Prop
def Qc5 (K:Frag) (mg:Str→Option Value) (md:List Md) (P:Pt) (R:RR) (W:WX) (D:Ends) (H F:Hp) (as:List Addr):Fl→Prop
 | .ex x O'=>∀dxo H' F' as',GrS P H F as H' F' as'→RlO K mg O' H' F' as'→XF K F' as' dxo x.fs→W x dxo H'
 | f=>QeX K mg md P R D H F as f
def Qmh (K:Frag) (mg:Str→Option Value) (md:List Md) (P:Pt) (R:RR) (W:WX) (m:MS):TS:=fun D σ H =>
 ∃ρ O F as,RlO K mg O H F as∧SlO K md P ρ σ H F as∧Qc5 K mg md P R W D H F as (m ρ O)
def VSF (X:Cx) (md:List Md) (P:Pt) (R:RR) (st:Stmt) (m:MS):Prop:=PS X st (Qmh X.K X.mg md P R (exV X) m)
def Qgd (X:Cx) (md:List Md) (P:Pt) (R:RR) (st:List Stmt) (m:MS):Prop:=PSs X st (Qmh X.K X.mg md P R (exV X) m)
theorem Qc5.gr {K:Frag}{mg:Str→Option Value}{W:WX}{D:Ends}{H F H' F':Hp}{as as':List Addr}{f:Fl} (g:GrS P H F as H' F' as') (h:Qc5 K mg md P R W D H F as f):Qc5 K mg md P R W D H' F' as' f:=by
 cases f with
 | ex x O'=>exact fun d H2 F2 as2 g2 r2=>h d H2 F2 as2 (g.trans g2) r2
 | nx ρ' O'=>exact fun σ' H2 F2 as2 g2 r2 s2=>h σ' H2 F2 as2 (g.trans g2) r2 s2
 | bk ρ' O'=>exact fun σ' H2 F2 as2 g2 r2 s2=>h σ' H2 F2 as2 (g.trans g2) r2 s2
 | ct ρ' O'=>exact fun σ' H2 F2 as2 g2 r2 s2=>h σ' H2 F2 as2 (g.trans g2) r2 s2
 | rt d O'=>exact fun v H2 F2 as2 g2 r2 s2=>h v H2 F2 as2 (g.trans g2) r2 s2
 | no=>exact h
theorem QkI {st:Stmt}{m:MS} (h:VS X md P R st m):VSF X md P R st (msN m):=h.imp fun D σ H q=>by
 obtain ⟨ρ,O,F,as,r,s,k⟩:=q;refine ⟨ρ,O,F,as,r,s,?_⟩;unfold msN at k
 cases e:m ρ O with
 | ex x O'=>rw [e] at k; exact False.elim k
 | nx ρ' O'=>rw [e] at k; exact k
 | bk ρ' O'=>rw [e] at k; exact k
 | ct ρ' O'=>rw [e] at k; exact k
 | rt d O'=>rw [e] at k; exact k
 | no=>rw [e] at k; exact k
theorem Qb4:Qgd X md P R [] Qau:=Ql2.imp fun D σ H q=>by
 obtain ⟨ρ,O,F,as,r,s,k⟩:=q;exact k σ H F as GrS.refl r s
theorem Qbp {st:Stmt}{rest:List Stmt}{a b:MS} (h1:VSF X md P R st a) (h2:Qgd X md P R rest b):Qgd X md P R (st::rest) (Qaj a b):=(Qk6 h1 h2).imp fun D σ H q=>by
 obtain ⟨ρ,O,F,as,r,s,k⟩:=q;refine ⟨ρ,O,F,as,r,s,?_⟩;unfold Qaj at k
 cases e:a ρ O with
 | nx ρ1 O1 =>
  rw [e] at k
  exact fun σ' H' F' as' g r' s'=>⟨ρ1,O1,F',as',r',s',Qc5.gr g k⟩
 | ex x O'=>rw [e] at k; exact k
 | bk ρ' O'=>rw [e] at k; exact k
 | ct ρ' O'=>rw [e] at k; exact k
 | rt d O'=>rw [e] at k; exact k
 | no=>rw [e] at k; exact k
theorem Qkp {c:Expr}{a b:List Stmt}{pos:Pos}{t:M Bool}{ma mb:MS} (hc:TsE X md P c t) (ha:Qgd X md P R a ma) (hb:Qgd X md P R b mb):VSF X md P R (.If c a b pos) (QdJ t ma mb):=(Qqh hc ha hb).imp fun D σ H q=>by
 obtain ⟨ρ,O,F,as,r,s,k⟩:=q;unfold QdJ at k
 cases e:t ρ O with
 | ok v O' =>
  rw [e] at k;refine ⟨ρ,_,F,as,_,_,r,s,e,fun H1 F1 as1 g r1=>?_⟩;dsimp only at k
  cases v with
  | true =>
   rw [if_pos rfl] at k ⊢;exact ⟨ρ,O',F1,as1,r1,s.step g,Qc5.gr g.toS k⟩
  | false =>
   rw [if_neg zg] at k ⊢;exact ⟨ρ,O',F1,as1,r1,s.step g,Qc5.gr g.toS k⟩
 | ex x O'=>rw [e] at k; exact False.elim k
 | no=>rw [e] at k; exact False.elim k
end
section
variable {Pr:Program}{w:World}{K:Frag}{mg:Str→Option Value}{base:Heap}{N:List Str}{qual:Str}{scope:Scope}{f:Addr}{cd:Value}{A:Around}{outer:List Env}{s0:Shared}{H0:Hp}{E E':XK}{pins:List (Addr×Obj)}{σ:St}{H:Hp}{s s':Shared}
theorem Qre {ea C:Addr}{dxo:Option Addr} (I:Inv (Qb7 (CXF Pr w) Pr w K mg base N qual scope f cd A outer s0 H0 E) pins σ H s) (hr:Raw (Qb7 (CXF Pr w) Pr w K mg base N qual scope f cd A outer s0 H0 E) H s ea C dxo) (hE:E (.ref C) dxo H) :
  (Qb7 (CXF Pr w) Pr w K mg base N qual scope f cd A outer s0 H0 E).xe (.ref ea) s:=by
 have stk:=I.stack;have sfr:=I.stkFree;have hfr:=I.ok.frames;have hb0:=I.base;obtain ⟨oe,ws,a0,he,hc,hdi,hd,h1,h0,hn,hold⟩:=hr;have hold:s0.heap.get? ea=none:=hold
 have nfr:ea∉frs (envOfC qual scope s0.heap.objs.size f cd::outer):=fun z=>by
  obtain ⟨_,o,ho,nf⟩:=stk.mem z;rw [he] at ho;cases ho;exact nf ws hd
 show wpAny (model Pr w) (A.deeper (envOfC qual scope s0.heap.objs.size f cd)) (leaving (envOfC qual scope s0.heap.objs.size f cd) (.ref ea)) (fun _ s''=>CXF Pr w outer H0 s0 E (.ref ea) s'') _ s
 have kd:=Qfv (QiK _ _) (wpAny_leaving_firstW (M:=model Pr w) (A:=A.deeper (envOfC qual scope s0.heap.objs.size f cd)) (E:=fun e' s''=>CXF Pr w outer H0 s0 E e' s'') (base:=hideAll s.heap (ea::frs (envOfC qual scope s0.heap.objs.size f cd::outer)))
  (Q:=fun _ s''=>∃h',s'' = { s with heap:=h' }∧Heap.LeftW (hideAll s.heap (ea::frs (envOfC qual scope s0.heap.objs.size f cd::outer))) (envOfC qual scope s0.heap.objs.size f cd::outer) ea oe.cls a0 s.heap h')
  hfr (funFrames_hide stk fun env he a ha=>zu _ (List.mem_filterMap.mpr ⟨env,he,ha⟩)) rfl he (fun b o q=>of_hideAll _ q) (hideAll_none _ zw) hd h1 h0 fun h' hL=>⟨h',rfl,hL⟩)
 refine zm kd (fun _ s2 z=>?_) fun _ _ z=>z.1
 obtain ⟨⟨h2,rfl,k1,⟨_,_,k2⟩,k3,up⟩,dk⟩:=z
 have keepB:∀b o,s.heap.get? b=some o→b≠ea→b∉frs (envOfC qual scope s0.heap.objs.size f cd::outer)→h2.get? b=some o:=fun b o q n n2=>k1 b o (hideAll_get _ q fun z=>by
  rcases zj.mp z with z | z
  ·exact n z
  ·exact n2 z)
 have notE:∀b o,s0.heap.get? b=some o→b≠ea:=fun b o q z=>by rw [z,hold] at q; cases q
 have Qet:∀b o,s0.heap.get? b=some o→b∉frs outer→b∉frs (envOfC qual scope s0.heap.objs.size f cd::outer):=fun b o q n z=>by
  rcases zj.mp (show b∈s0.heap.objs.size::frs outer from z) with rfl | z
  ·exact absurd (zd q) (zH _)
  ·exact n z
 have sub:∀b,b∈frs outer→b∈frs (envOfC qual scope s0.heap.objs.size f cd::outer):=fun b z=>zu _ z
 have tr:∀b u,H b=some u→∃o,s.heap.get? b=some o∧b≠ea∧b∉frs (envOfC qual scope s0.heap.objs.size f cd::outer):=fun b u e=>by
  obtain ⟨o,q⟩:=(I.hok b u e).has;exact ⟨o,q,(fun z=>by rw [z,hn] at e; cases e),fun z=>by rw [sfr b z] at e; cases e⟩
 have frm:∀b o,s.heap.get? b=some o→b∈frs outer→∃sl,h2.get? b=some { o with slots:=sl }:=fun b o q z=>by
  obtain ⟨_,o',q',nf⟩:=stk.mem (sub b z);rw [q] at q';cases q';exact up b o q nf
 obtain ⟨oe2,he2,hd2⟩:=dk ea oe he;refine ⟨ea,C,H,_,a0,dxo,rfl,I.os,I.bare,Un.then hb0 (fun b o q n z=>by obtain ⟨o',z⟩:=z; exact keepB b o q (notE b o' z) (Qet b o' z n)) frm,I.hok.only fun b v u e q=>(by obtain ⟨_,_,n1,n2⟩:=tr b v e; exact keepB b u q n1 n2),⟨k1,hideAll_none _ zw,k2,hc ▸ k3⟩,fun b u e=>?_,fun b o q n=>?_,⟨oe2,he2,hd2.trans hdi⟩,hE⟩
 ·obtain ⟨o,q,n1,n2⟩:=tr b u e
  exact ⟨o,hideAll_get _ q fun z=>by
   rcases zj.mp z with z | z
   ·exact n1 z
   ·exact n2 z⟩
 ·obtain ⟨o',q'⟩:=hb0.there b o q (fun z=>nomatch z)
  exact ⟨o',hideAll_get _ q' fun z=>by
   rcases zj.mp z with z | z
   ·exact notE b o q z
   ·exact Qet b o q n z⟩
theorem QnO {e:Value} (I:Inv (Qb7 (CXF Pr w) Pr w K mg base N qual scope f cd A outer s0 H0 E) pins σ H s) (hx:CXF Pr w (Qb7 (CXF Pr w) Pr w K mg base N qual scope f cd A outer s0 H0 E).stack H s E' e s') (hE:∀C d H',E' (.ref C) d H'→E (.ref C) d H') :
  (Qb7 (CXF Pr w) Pr w K mg base N qual scope f cd A outer s0 H0 E).xe e s':=by
 obtain ⟨ea,C,H',B,a0,dxo,rfl,hos,hbare,un,hok,fl,trk,old,⟨oe,he,hd⟩,hE'⟩:=hx;have hfr:=I.ok.frames;show wpAny (model Pr w) (A.deeper (envOfC qual scope s0.heap.objs.size f cd)) (leaving (envOfC qual scope s0.heap.objs.size f cd) (.ref ea)) (fun _ s''=>CXF Pr w outer H0 s0 E (.ref ea) s'') _ s'
 have kd:=Qfv (QiK _ _) (wpAny_leaves_onW (M:=model Pr w) (A:=A.deeper (envOfC qual scope s0.heap.objs.size f cd)) (E:=fun e' s''=>CXF Pr w outer H0 s0 E e' s'')
  (Q:=fun _ s''=>∃h',s'' = { s' with heap:=h' }∧Heap.FlyingW B outer ea (.ref C) a0 h'∧s'.heap.UpToSlots h') hfr rfl fl fun h' fl' up=>⟨h',rfl,fl',up⟩)
 refine zm kd (fun _ s2 z=>?_) fun _ _ z=>z.1
 obtain ⟨⟨h',rfl,fl',up⟩,dk⟩:=z;have I':=I.call' (s':={ s' with heap:=h' }) (ch:=[]) hos (QnM un fl.1 fl.2.2.1 old fl'.1 up) (QoN hok trk fl.1 fl'.1) hbare (fun _ z=>nomatch z);obtain ⟨oe2,he2,hd2⟩:=dk ea oe he;refine ⟨ea,C,H',B,a0,dxo,rfl,I'.os,I'.bare,I'.base,I'.hok,fl',trk,fun b o q n=>?_,⟨oe2,he2,hd2.trans hd⟩,hE C dxo H' hE'⟩;obtain ⟨o',q'⟩:=I.base.there b o q (fun z=>nomatch z)
 refine old b o' q' fun z=>?_
 rcases zj.mp (show b∈s0.heap.objs.size::frs outer from z) with rfl | z
 ·exact absurd (zd q) (zH _)
 ·exact n z
end
def QgP (P:Program) (w:World) (K:Frag) (mg:Str→Option Value) (base:Heap) (x:Str) (ps:List Str) (k:Nat) (sp:Sp):Prop :=
 ∃f fd,mg x=some (.ref f)∧keepIn K (.ref f)=true∧Binds K fd ps []∧Qby P w K mg base (CXF P w) k f fd ps sp∧∃oc od osl,K.lookup f=some ⟨oc,od,.func fd,osl⟩
def Qi7 (P:Program) (w:World) (K:Frag) (mg:Str→Option Value) (base:Heap) (c m:Str) (ps:List Str) (k:Nat) (sp:Sp):Prop :=
 ∃C f fd,mg c=some (.ref C)∧Cls K C∧QiF K C m f∧Binds K fd ps []∧Qby P w K mg base (CXF P w) k f fd ps sp
def Qvh (K:Frag) (mg:Str→Option Value) (R:RR) (H F:Hp) (as:List Addr) (Q:VK) (E:XK):Res D→Prop
 | .ok d O'=>∀v H' F' as',Gr H F as H' F' as'→RlO K mg O' H' F' as'→R (fun a=>H a=none) H' F' as' v d→Q v H'
 | .ex x O'=>∀C dxo H' F' as',mg x.cls=some (.ref C)→Gr H F as H' F' as'→RlO K mg O' H' F' as'→XF K F' as' dxo x.fs→E (.ref C) dxo H'
 | .no=>False
def Qdg (K:Frag) (mg:Str→Option Value) (pm:List Md) (R:RR) (c:List D→Qab→Res D):Sp:=fun vs H Q E =>
 ∃ds O F as,RlO K mg O H F as∧QbG K H F as pm vs ds∧Qvh K mg R H F as Q E (c ds O)
section
variable {Pr:Program}{w:World}{K:Frag}{mg:Str→Option Value}{base:Heap}
theorem Qqx {x qual:Str}{st:Stmt}{f:Addr}{fd:FuncData}{N ps:List Str}{k:Nat} (Fn:Fun K x qual st f fd) (S:QaK N ps (Qah st))
  (pm lm:List Md) {R:RR}{b:MS} (hR:Qca R) (hR0:∀N H F as,R N H F as .non .non) (hpl:pm.length=ps.length) (hl:(pm++lm).length=N.length) (hp:∀m∈pm,m≠.o)
  (body:∀(cdv:Value) (A:Around) (outer:List Env) (s:Shared) (H:Hp) (E:XK),QaJ k (A.deeper (envOfC qual (Qah st) s.heap.objs.size f cdv))→∀P,Qgd (Qb7 (CXF Pr w) Pr w K mg base N qual (Qah st) f cdv A outer s H E) (pm++lm) P R (QaP st) b) :
  Qby Pr w K mg base (CXF Pr w) (k+1) f fd ps (Qdg K mg pm R (Qbc N.length b)):=by
 obtain ⟨oc,od,kV,doc,pmv,an,cdv,ct,osl,rfl,lk,hcd⟩:=Fn.ex
 refine QmR lk hcd S (fun vs H Q E h=>?_) fun A outer s H vs Q E hr h=>?_
 ·obtain ⟨ds,O,F,as,r,a,_⟩:=h;rw [a.len.1,hpl]
 ·obtain ⟨ds,O,F,as,r,a,q⟩:=h;refine ⟨_,body cdv A outer s H E hr (Pt.all H),?_⟩;refine ⟨_,O,F,as,r,QeH a hl hp,?_⟩;unfold Qbc at q
  cases eb:b (ds.map some++List.replicate (N.length - ds.length) none) O with
  | rt d' O2 =>
   rw [eb] at q
   exact fun v H' F' as' g r' hv=>q v H' F' as' g.gr r' (hR _ _ _ _ _ _ _ (fun c hc=>je.mp hc) hv)
  | nx ρ O2 =>
   rw [eb] at q
   exact fun σ' H' F' as' g r' _=>q _ H' F' as' g.gr r' (hR0 _ _ _ _)
  | ex x' O2 =>
   rw [eb] at q
   exact fun dxo H' F' as' g r' hx=>⟨fun pins σ s1 ea C hC I hr=>Qre I hr (q C dxo H' F' as' hC g.gr r' hx),fun pins σ H0 s1 e s2 I hz=>QnO I hz fun C d H2 ⟨C',z1,z2,z3,z4⟩=>by
    cases z1;subst z3 z4
    exact q C _ _ F' as' z2 g.gr r' hx⟩
  | bk _ _=>rw [eb] at q; exact False.elim q
  | ct _ _=>rw [eb] at q; exact False.elim q
  | no=>rw [eb] at q; exact False.elim q
theorem Qmr {x:Str}{st:Stmt}{N ps:List Str}{k:Nat} (Df:Def K mg x st) (S:QaK N ps (Qah st))
  (hb:∀(kV doc pm:Value) (an:Option Addr) (cdv ct:Value) (us:List Value),us.length=ps.length→bindArgs (PySem.W.fnOf x x (Qba st) (QaP st) (Qah st) .none kV doc pm an cdv ct) ⟨us,[]⟩=pure (ps.zip us))
  (pm lm:List Md) {R:RR}{b:MS} (hR:Qca R) (hR0:∀N H F as,R N H F as .non .non) (hpl:pm.length=ps.length:=by rfl) (hl:(pm++lm).length=N.length:=by rfl) (hp:∀m∈pm,m≠.o:=by decide)
  (body:∀(f:Addr) (cdv:Value) (A:Around) (outer:List Env) (s:Shared) (H:Hp) (E:XK),QaJ k (A.deeper (envOfC x (Qah st) s.heap.objs.size f cdv))→∀P,Qgd (Qb7 (CXF Pr w) Pr w K mg base N x (Qah st) f cdv A outer s H E) (pm++lm) P R (QaP st) b) :
  QgP Pr w K mg base x ps (k+1) (Qdg K mg pm R (Qbc N.length b)):=by
 obtain ⟨f,fd,hm,Fn⟩:=Df;have hbi:=Fn.binds hb;have hkp:=Fn.kp;have ok:=Qqx Fn S pm lm hR hR0 hpl hl hp (body f);obtain ⟨oc,od,kV,doc,pmv,an,cdv,ct,osl,rfl,lk,hcd⟩:=Fn.ex;exact ⟨f,_,hm,hkp,hbi,ok,oc,od,osl,lk⟩
theorem Qs4 {c x qual:Str}{st:Stmt}{N ps:List Str}{k:Nat} (Df:QiG K mg c x qual st) (S:QaK N ps (Qah st))
  (hb:∀(kV doc pm:Value) (an:Option Addr) (cdv ct:Value) (us:List Value),us.length=ps.length→bindArgs (PySem.W.fnOf x qual (Qba st) (QaP st) (Qah st) .none kV doc pm an cdv ct) ⟨us,[]⟩=pure (ps.zip us))
  (pm lm:List Md) {R:RR}{b:MS} (hR:Qca R) (hR0:∀N H F as,R N H F as .non .non) (hpl:pm.length=ps.length:=by rfl) (hl:(pm++lm).length=N.length:=by rfl) (hp:∀m∈pm,m≠.o:=by decide)
  (body:∀(f:Addr) (cdv:Value) (A:Around) (outer:List Env) (s:Shared) (H:Hp) (E:XK),QaJ k (A.deeper (envOfC qual (Qah st) s.heap.objs.size f cdv))→∀P,Qgd (Qb7 (CXF Pr w) Pr w K mg base N qual (Qah st) f cdv A outer s H E) (pm++lm) P R (QaP st) b) :
  Qi7 Pr w K mg base c x ps (k+1) (Qdg K mg pm R (Qbc N.length b)):=by
 obtain ⟨C,f,fd,h1,h2,h3,h4⟩:=Df;exact ⟨C,f,fd,h1,h2,h3,h4.binds hb,Qqx h4 S pm lm hR hR0 hpl hl hp (body f)⟩
theorem Ql1 {f:Addr}{fd:FuncData}{ps:List Str}{k:Nat}{pm:List Md}{R:RR}{c:List D→Qab→Res D} (Fn:Qby Pr w K mg base (CXF Pr w) k f fd ps (Qdg K mg pm R c)) (hl:pm.length=ps.length) {CX:CXT}:Qby Pr w K mg base CX k f fd ps (vSp K mg pm R c):=by
 refine ⟨fun vs H Q E h=>?_,fun A outer s H args us vs Q E hr e0 hbi r h=>?_⟩
 ·obtain ⟨ds,O,F,as,d,O',r,a,_⟩:=h;rw [a.len.1,hl]
 ·obtain ⟨ds,O,F,as,d,O',ro,a,e,q⟩:=h
  have z:Qdg K mg pm R c vs H Q fun _ _ _=>False:=⟨ds,O,F,as,ro,a,by rw [e]; exact q⟩
  refine codeAny_mono (Fn.run A outer s H args us vs Q _ hr e0 hbi r z) fun res s' hq=>?_
  cases res with
  | error ev =>
   obtain ⟨_,_,_,_,_,_,_,_,_,_,_,_,_,_,_,f0⟩:=hq;exact f0.elim
  | ok fl=>cases fl <;> exact hq
theorem QgP.can {x:Str}{ps:List Str}{k:Nat}{pm:List Md}{R:RR}{c:List D→Qab→Res D} (C:QgP Pr w K mg base x ps k (Qdg K mg pm R c)) (hl:pm.length=ps.length:=by rfl):Can Pr w K mg base x ps k (vSp K mg pm R c):=by
 obtain ⟨f,fd,hm,hk,hb,Fn,lk⟩:=C;exact ⟨f,fd,hm,hk,hb,Ql1 Fn hl,lk⟩
theorem Qi7.can {c x:Str}{ps:List Str}{k:Nat}{pm:List Md}{R:RR}{cf:List D→Qab→Res D} (C:Qi7 Pr w K mg base c x ps k (Qdg K mg pm R cf)) (hl:pm.length=ps.length:=by rfl):QfD Pr w K mg base c x ps k (vSp K mg pm R cf):=by
 obtain ⟨C,f,fd,h1,h2,h3,hb,Fn⟩:=C;exact ⟨C,f,fd,h1,h2,h3,hb,Ql1 Fn hl⟩
end
section
variable {X:Cx}{md:List Md}{P:Pt}{R:RR}
def exG (X:Cx):XK:=fun cv d H'=>∃x C,cv = .ref C∧X.mg x.cls=some (.ref C)∧exL X x d H'
theorem Qlt:Qeo (CXF X.prog X.w) X (exG X):=fun pins σ H s e s' I hx=>by
 obtain ⟨ea,C,H',B,a0,dxo,rfl,x1,x2,x3,x4,x5,x6,x7,x8,x,C',e1,hC,hw⟩:=hx;cases e1;exact hw pins σ H s (.ref ea) s' I ⟨ea,C,H',B,a0,dxo,rfl,x1,x2,x3,x4,x5,x6,x7,x8,C,rfl,hC,rfl,rfl⟩
def Qsb (K:Frag) (mg:Str→Option Value) (R:RR) (W:WX) (H F:Hp) (as:List Addr) (Q:VK):Res D→Prop
 | .ok d O'=>∀v H' F' as',Gr H F as H' F' as'→RlO K mg O' H' F' as'→R (fun a=>H a=none) H' F' as' v d→Q v H'
 | .ex x O'=>∀dxo H' F' as',Gr H F as H' F' as'→RlO K mg O' H' F' as'→XF K F' as' dxo x.fs→W x dxo H'
 | .no=>False
def tMF (K:Frag) (mg:Str→Option Value) (md:List Md) (P:Pt) (R:RR) (W:WX) (m:M D):TE:=fun σ H Q=>∃ρ O F as,RlO K mg O H F as∧SlO K md P ρ σ H F as∧Qsb K mg R W H F as Q (m ρ O)
def VEF (X:Cx) (md:List Md) (P:Pt) (R:RR) (e:Expr) (m:M D):Prop:=PE X e (tMF X.K X.mg md P R (exL X) m)
theorem Qo3 {pm:List Md}{c:List D→Qab→Res D}{ma:M (List D)} (hR:Qca R) {σ:St}{H:Hp}{Q:VK} (q:tMF X.K X.mg md P R (exL X) (QcW c ma) σ H Q):Qib (Qdg X.K X.mg pm R c) [] (exG X) (tMA X.K X.mg md P pm ma) σ H Q:=by
 obtain ⟨ρ,O,F,as,r,s,k⟩:=q;unfold QcW at k
 cases em:ma ρ O with
 | ex x O'=>rw [em] at k; exact False.elim k
 | no=>rw [em] at k; exact False.elim k
 | ok ds O1 =>
  rw [em] at k;dsimp only at k;refine ⟨ρ,O,F,as,ds,O1,r,s,em,fun vs H1 F1 as1 g1 r1 h1=>?_⟩;dsimp only;rw [zx];refine ⟨ds,O1,F1,as1,r1,h1,?_⟩
  cases ec:c ds O1 with
  | ok d O2 =>
   rw [ec] at k
   exact fun v H2 F2 as2 g2 r2 h=>k v H2 F2 as2 (g1.trans g2) r2 (hR _ _ _ _ _ _ _ (fun a z=>g1.dm a z) h)
  | ex x O2 =>
   rw [ec] at k
   exact fun C dxo H2 F2 as2 hC g2 r2 hx=>⟨x,C,rfl,hC,k dxo H2 F2 as2 (g1.trans g2) r2 hx⟩
  | no=>rw [ec] at k; exact False.elim k
theorem Qpc {f:Str}{ps:List Str}{k:Nat}{a:Expr}{as:List Expr}{pm:List Md}{c:List D→Qab→Res D}{ma:M (List D)}{p1 p2:Pos} (hR:Qca R)
  (Cn:QgP X.prog X.w X.K X.mg X.base f ps k (Qdg X.K X.mg pm R c)) (hr:QaJ k X.A) (ha:AE X md P pm (a::as) ma) (hg:Gl X f:=by rfl) (hfd:(f == ("__debug__":Str))=false:=by decide)
  (hs:starEach (a::as) X.env=(false,eval a X.env)::starEach as X.env:=by exact Qa1 rfl) (hpl:(backTo p2 (starEach as X.env)).any (·.1)=false:=by exact Qa5 rfl):VEF X md P R (.Call (.Name f p1) (a::as) [] p2) (QcW c ma):=by
 obtain ⟨fa,fd,hm,hk,hb,Fn,_⟩:=Cn
 exact (Ql0 (dvs:=[]) (ds:=[]) Fn hr hg hm hk hb .nil Qlt ha hfd hs hpl).imp fun σ H Q q=>Qo3 hR q
theorem Qoa {e:Expr}{m:M D} (h:VEF X md P (rO X.K) e m):VEF X md P (rV X.K) e m:=h.imp fun σ H Q q=>by
 obtain ⟨ρ,O,F,as,r,s,k⟩:=q;refine ⟨ρ,O,F,as,r,s,?_⟩
 cases e:m ρ O with
 | ok d O' =>
  rw [e] at k;intro v H' F' as' g r' hv
  rcases hv with ⟨_,hv⟩ | ⟨a,xs,ds,rfl,rfl,e3,e4,e5,e6,e7⟩
  ·exact k v H' F' as' g r' hv
  ·have ff:Same F' (upd F' a (.lst xs)):=fun b u q=>by rw [Qan (Qay q e4)]; exact q
   exact k _ H' (upd F' a (.lst xs)) as' (g.frz e6 e4) (r'.frz e3 e4 e5 rfl) (Rp.mkL (.inl (.inl QaD)) (Rps.mono ff (fun _ _ z=>z) _ e7))
 | ex x O'=>rw [e] at k; exact k
 | no=>rw [e] at k; exact k
theorem Qrn {R':RR}{e:Expr}{pos:Pos}{m:M D} (h:VEF X md P R' e m) (hs:swapsWith e none pos.line X.env=pure false:=by rfl):VSF X md P R (.Expr e pos) (Qes m):=(QjC h hs).imp fun D σ H q=>by
 obtain ⟨ρ,O,F,as,r,s,k⟩:=q;refine ⟨ρ,O,F,as,r,s,?_⟩;unfold Qes at k
 cases e:m ρ O with
 | ok d O'=>rw [e] at k; exact fun v H' F' as' g r' _=>k σ H' F' as' g.toS r' (s.step g)
 | ex x O'=>rw [e] at k; exact fun d H' F' as' g r' hx=>(k d H' F' as' g.toS r' hx).2
 | no=>rw [e] at k; exact False.elim k
theorem QjM (hR:Qca R) {e:Expr}{pos:Pos}{m:M D} (h:VEF X md P R e m):VSF X md P R (.Return (some e) pos) (Qfy m):=(Qln h).imp fun D σ H q=>by
 obtain ⟨ρ,O,F,as,r,s,k⟩:=q;refine ⟨ρ,O,F,as,r,s,?_⟩;unfold Qfy at k
 cases e:m ρ O with
 | ok d O'=>rw [e] at k; exact fun v H' F' as' g r' hv=>k v H' F' as' g.toS r' (hR _ _ _ _ _ _ _ (fun a ha p=>s.pd a p ha) hv)
 | ex x O'=>rw [e] at k; exact fun d H' F' as' g r' hx=>(k d H' F' as' g.toS r' hx).2
 | no=>rw [e] at k; exact False.elim k
def Qhj (i:Nat) (m:M D):MS:=fun ρ O=>match m ρ O with
 | .ok d O'=>.nx (ρ.set i (some d)) O'
 | .ex x O'=>.ex x O'
 | .no=>.no
theorem Qr2 {e:Expr}{x:Str}{i:Nat}{p0 pos:Pos}{m:M D} (h:VEF X md P (rV X.K) e m) (hN:X.N.Nodup) (hi:X.N[i]? = some x:=by rfl) (hx:Loc X.env.scope x:=by exact .inl rfl) (hm:md[i]? = some .v:=by rfl)
  (hsw:swapsWith e (some (.Name x p0)) pos.line X.env=pure false:=by rfl) (hf:X.fn x=true∨X.env.scope.names.lookup x=some .local:=by first | exact .inl rfl | exact .inr rfl):VSF X md P R (.Assign [.Name x p0] e pos) (Qhj i m):=(QkT hN hi hx h hsw hf).imp fun D σ H q=>by
 obtain ⟨ρ,O,F,as,r,s,k⟩:=q;refine ⟨ρ,O,F,as,r,s,?_⟩;unfold Qhj at k
 cases e:m ρ O with
 | ok d O'=>rw [e] at k; exact fun v H' F' as' g r' hv=>k _ H' F' as' g.toS r' ((s.step g).setV hm hv)
 | ex x O'=>rw [e] at k; exact fun d H' F' as' g r' hx=>(k d H' F' as' g.toS r' hx).2
 | no=>rw [e] at k; exact False.elim k
end
section
variable {X:Cx}{md:List Md}{P:Pt}{R:RR}{k:Nat}{c m:Str}{ps:List Str}{p pos apos:Pos}{o e:Expr}{es:List Expr}{pm:List Md}{cf:List D→Qab→Res D}{mo:M D}{ma:M (List D)}
theorem Qpx {C:Addr} (hR:Qca R) (hC:X.mg c=some (.ref C)) {σ:St}{H:Hp}{Q:VK} (q:tMF X.K X.mg md P R (exL X) (Qfx c m cf mo ma) σ H Q) :
  Qkt C m (Qdg X.K X.mg (.v::pm) R cf) [] (exG X) (tM X.K X.mg md P (rV X.K) mo) (tMA X.K X.mg md P pm ma) σ H Q:=by
 obtain ⟨ρ,O,F,as,r,s,k⟩:=q;unfold Qfx at k
 cases e1:mo ρ O with
 | ex x O'=>rw [e1] at k; exact False.elim k
 | no=>rw [e1] at k; exact False.elim k
 | ok x O1 =>
  rw [e1] at k
  cases x with
  | ob n =>
   dsimp only at k;split at k
   ·rename_i c' fs eo;split at k
    ·rename_i hc
     cases e2:ma ρ O1 with
     | ex x O'=>rw [e2] at k; exact False.elim k
     | no=>rw [e2] at k; exact False.elim k
     | ok ds O2 =>
      rw [e2] at k;dsimp only at k;refine ⟨ρ,O,F,as,.ob n,O1,r,s,e1,fun v H1 F1 as1 g1 r1 hv=>?_⟩;obtain ⟨a,rfl,ha⟩:=Rp.unO hv;obtain ⟨C',dx,gs,h1,h2,h3⟩:=r1.ob n a _ ha eo;rw [hc.1,hC] at h1; cases h1;refine ⟨a,dx,gs,rfl,h2,h3.no (Option.isNone_iff_eq_none.mp hc.2),?_⟩;refine ⟨ρ,O1,F1,as1,ds,O2,r1,s.step g1,e2,fun vs H2 F2 as2 g2 r2 hvs=>?_⟩;dsimp only;rw [zx];refine ⟨.ob n::ds,O2,F2,as2,r2,⟨Rp.gr hv g2,hvs⟩,?_⟩
      cases ec:cf (.ob n::ds) O2 with
      | ok d O3 =>
       rw [ec] at k
       exact fun v H3 F3 as3 g3 r3 h=>k v H3 F3 as3 ((g1.trans g2).trans g3) r3 (hR _ _ _ _ _ _ _ (fun b hb=>(g1.trans g2).dm b hb) h)
      | ex x O3 =>
       rw [ec] at k
       exact fun C dxo H3 F3 as3 hC g3 r3 hx=>⟨x,C,rfl,hC,k dxo H3 F3 as3 ((g1.trans g2).trans g3) r3 hx⟩
      | no=>rw [ec] at k; exact False.elim k
    ·exact False.elim k
   ·exact False.elim k
  | _=>exact False.elim k
theorem Qld {pl:Sem Bool} (hR:Qca R) (M:Qi7 X.prog X.w X.K X.mg X.base c m ps k (Qdg X.K X.mg (.v::pm) R cf)) (hr:QaJ k X.A) (ho:VE X md P o mo) (ha:AE X md P pm (e::es) ma)
  (hst:starEach (e::es) X.env=(false,eval e X.env)::starEach es X.env:=by exact Qa1 rfl) (hpl:(backTo pos (starEach es X.env)).any (·.1)=false:=by exact Qa5 rfl)
  (ht:eval (.Call (.Attribute o m apos) (e::es) [] pos) X.env=(do
   let ov ←eval o X.env
   standAt apos.atName
   let (f,first) ←holding [ov] (getMethod ov m pl)
   callWith pos f first (backTo pos (starEach (e::es) X.env)) (backToKw pos (keywordEach [] X.env))):=by rfl) :
  VEF X md P R (.Call (.Attribute o m apos) (e::es) [] pos) (Qfx c m cf mo ma):=by
 obtain ⟨C,f,fd,h1,h2,h3,h4,h5⟩:=M
 exact (QlV (pl:=pl) (ds:=[]) (dvs:=[]) ho h2 h3 h5 hr h4 .nil Qlt ha hst hpl ht).imp fun _ _ _ q=>Qpx hR h1 q
end
section
variable {X:Cx}{md:List Md}{P:Pt}{R:RR}
theorem Qq1 {K:Frag}{mg:Str→Option Value}{W:WX}{m:M (List D)}{g:MG}{b:MS}{D:Ends}{σ:St}{H:Hp} (q:Qmh K mg md P R W (QdC m g b) D σ H):QoP (tMI K mg md P m) (tMG K mg md P g) (Qmh K mg md P R W b) D σ H:=by
 obtain ⟨ρ,O,F,as,r,s,k⟩:=q;unfold QdC at k
 cases e:m ρ O with
 | ex x O'=>rw [e] at k; exact False.elim k
 | no=>rw [e] at k; exact False.elim k
 | ok ds O1 =>
  rw [e] at k;dsimp only at k;refine ⟨ρ,_,F,as,_,_,r,s,e,fun J H1 F1 as1 g1 r1 hJ=>?_⟩;have k1:=Qc5.gr (R:=R) (W:=W) g1.toS k;refine ⟨fun i m σ' H'=>m=ds.length - i∧i≤ds.length∧∃ρ' O' F' as',GrS P H1 F1 as1 H' F' as'∧RlO K mg O' H' F' as'∧SlO K md P ρ' σ' H' F' as'∧Qc5 K mg md P R W D H' F' as' (Qa8 g b (ds.drop i) ρ' O'),⟨ds.length,by simp,Nat.zero_le _,ρ,O1,F1,as1,GrS.refl,r1,s.step g1,by rw [List.drop_zero]; exact k1⟩,?_⟩;rintro i n σ' H' ⟨rfl,hi,ρ',O',F',as',g',r',s',k'⟩
  by_cases hlt:i < ds.length
  ·have hd:=zK hlt;obtain ⟨go,yl⟩:=hJ.turn i _ H' F' as' g' ⟨O',r'⟩ hd;rw [List.drop_eq_getElem_cons hlt] at k';refine .inr ⟨go,fun σ2 H2=>∃ρ2 O2 F2 as2,GrS P H1 F1 as1 H2 F2 as2∧RlO K mg O2 H2 F2 as2∧SlO K md P ρ2 σ2 H2 F2 as2∧Qc5 K mg md P R W D H2 F2 as2 (Qa8 g b (ds.drop (i+1)) ρ2 O2),fun σ2 H2 h2=>⟨ds.length - (i+1),by omega,rfl,hlt,h2⟩,fun x H3 y=>?_⟩;obtain ⟨F3,g3,r3,hx⟩:=yl x H3 y;have r3':=r3 O' r';unfold Qa8 at k'
   cases eg:g ds[i] ρ' with
   | none=>rw [eg] at k'; exact False.elim k'
   | some ρ1 =>
    rw [eg] at k';dsimp only at k';refine ⟨ρ',O',F3,as',ds[i],ρ1,r3',s'.step g3,hx,eg,fun σ4 s4=>?_⟩;refine ⟨ρ1,O',F3,as',r3',s4,?_⟩;have g4:GrS P H1 F1 as1 H3 F3 as':=g'.trans g3.toS
    cases eb:b ρ1 O' with
    | nx ρ2 O2 =>
     rw [eb] at k'
     exact fun σ2 H2 F2 as2 g2 r2 s2=>⟨ρ2,O2,F2,as2,g4.trans g2,r2,s2,Qc5.gr g2 (Qc5.gr g3.toS k')⟩
    | ct ρ2 O2 =>
     rw [eb] at k'
     exact fun σ2 H2 F2 as2 g2 r2 s2=>⟨ρ2,O2,F2,as2,g4.trans g2,r2,s2,Qc5.gr g2 (Qc5.gr g3.toS k')⟩
    | bk ρ2 O2 =>
     rw [eb] at k'
     exact fun σ2 H2 F2 as2 g2 r2 s2=>k' σ2 H2 F2 as2 (g3.toS.trans g2) r2 s2
    | rt d O2 =>
     rw [eb] at k'
     exact fun v H2 F2 as2 g2 r2 s2=>k' v H2 F2 as2 (g3.toS.trans g2) r2 s2
    | ex x O2 =>
     rw [eb] at k'
     exact fun d H2 F2 as2 g2 r2 hx=>k' d H2 F2 as2 (g3.toS.trans g2) r2 hx
    | no=>rw [eb] at k'; exact False.elim k'
  ·have hi':i=ds.length:=by omega
   subst hi';refine .inl ⟨hJ.stop H' F' as' g' ⟨O',r'⟩,?_⟩;rw [List.drop_length] at k';exact k' σ' H' F' as' GrS.refl r' s'
theorem Qog {tg iter:Expr}{body:List Stmt}{pos:Pos}{m:M (List D)}{g:MG}{b:MS} (hc:X.calm=true) (hi:VI X md P tg iter m) (hg:VG X md P tg g) (hb:Qgd X md P R body b) (hp:PassesOwn (model X.prog X.w) X.A X.env X.xe:=by exact PassesOwn.leaving)
  (hs:∀x,foldedSetIterable iter X.env x=pure x:=by intro _; rfl):VSF X md P R (.For tg iter body [] pos) (QdC m g b):=(QoD hp hc hi hg hb hs).imp fun _ _ _ q=>Qq1 q
def Qu5 (K:Frag) (mg:Str→Option Value) (md:List Md) (P:Pt) (W:WX) (m:M (List D)):TI:=fun σ H Q=>∃ρ O F as,RlO K mg O H F as∧SlO K md P ρ σ H F as ∧
 match m ρ O with
 | .ok ds O'=>∀J H' F' as',Gr H F as H' F' as'→RlO K mg O' H' F' as'→JOk K mg P J ds H' F' as'→Q J H'
 | .ex x O'=>∀dxo H' F' as',Gr H F as H' F' as'→RlO K mg O' H' F' as'→XF K F' as' dxo x.fs→W x dxo H'
 | .no=>False
def VIF (X:Cx) (md:List Md) (P:Pt) (tg iter:Expr) (m:M (List D)):Prop:=PI X tg iter (Qu5 X.K X.mg md P (exL X) m)
end
end L2
namespace L2
open PySem PySem.Spec PyProof.Rows PySem.W PySem.Builtin PySem.Builtin.ObjectAttr
theorem Qi6 {K:Frag}{h:Heap}{N:Addr}{m:Str→Option Value}{n:Str}{v:Value} (X:K.In h) (G:h.Ns N m) (e:nsIn K N n=some (some v)):m n=some v:=by
 obtain ⟨o,es,ep,ho,hd,_,hf⟩:=G;unfold nsIn at e;split at e
 ·rename_i q;have z:=X _ _ q;rw [ho] at z;cases z;cases hd;split at e
  ·rename_i en he;cases e;rw [←hf];unfold nsFind findBy;rw [←Array.find?_toList,he];rfl
  ·split at e <;> cases e
 ·cases e
def Qeh (K:Frag) (C:Addr) (bmB:List Value) (newId:String) (fI:Addr):Bool:=match K.lookup C with
 | some ⟨.type "type",_,.cls cd,sl⟩=>(match cd.mro,sl.toList with
  | .ref C'::bm,[_,_,_,_,some (.builtin n),_]=>C' == C&&n == newId && !cd.hasDel&&tailIn K bmB bm&&nsOkIn K cd.ns&&nsIn K cd.ns "__init__" == some (some (.ref fI))&&cd.hasDict
  | _,_=>false)
 | _=>false
theorem QiE {K:Frag}{C fI:Addr}{id:String} (hq:Qeh K C bmV id fI=true) :
  ∃bm N nm qn bs sn sub ab col dd k0 k1 k2 k3 k5,K.lookup C=some (excClassObj nm qn C N bs bm true sn sub ab col dd k0 k1 k2 k3 k5 id)∧tailIn K bmV bm=true∧nsOkIn K N=true∧nsIn K N "__init__" = some (some (.ref fI)):=by
 unfold Qeh at hq;split at hq
 case h_2=>cases hq
 case h_1 dd cd sl lk =>
  split at hq
  case h_2=>cases hq
  case h_1 C1 bm k0 k1 k2 k3 nn k5 e1 e2 =>
   rw [zf,zf,zf,zf,zf,zf] at hq;obtain ⟨⟨⟨⟨⟨⟨p1,p2⟩,p3⟩,p4⟩,p5⟩,p6⟩,p7⟩:=hq;have q1:C1=C:=beq_iff_eq.mp p1;have q2:nn=id:=beq_iff_eq.mp p2;subst q1;subst q2
   rcases cd with ⟨nm,bs,mro,ns,qn,hd,sn,sub,ab,col,del⟩
   have e1':mro = .ref C1::bm:=e1
   have p3':del=false:=by
    have z:(!del)=true:=p3
    cases del with
    | false=>rfl
    | true=>cases z
   have p7':hd=true:=p7;subst e1';subst p3';subst p7'
   rcases sl with ⟨ls⟩
   have e2':ls = [k0,k1,k2,k3,some (.builtin nn),k5]:=e2;subst e2';exact ⟨bm,ns,nm,qn,bs,sn,sub,ab,col,dd,k0,k1,k2,k3,k5,lk,p4,p5,beq_iff_eq.mp p6⟩
theorem Qij {K:Frag} (self:Value):∀{l:List Value},tailIn K bmV l=true→refuseLoop self "__setattr__" l=pure ()
 | [],e=>by rw [show ([]:List Value)=bmV from (beq_iff_eq.mp e).symm]; exact PySem.F.store_ValueError.passes self
 | v::r,e=>by
  unfold tailIn at e
  rcases Bool.or_eq_true_iff.mp e with q | q
  ·rw [beq_iff_eq.mp q];exact PySem.F.store_ValueError.passes self
  ·split at q
   ·split at q
    ·rw [zf,zf] at q;rw [refuseLoop_ref];exact Qij self q.2
    ·cases q
   ·cases q
def QdL (h:Heap) (C:Addr) (rest:List Value):Heap:=(h.push { cls:=.type "tuple",data:=.seq rest.toArray }).push { cls:=.ref C,data:=.fields #[.ref h.objs.size,.none,.none,.none,.bool false,.none] }
def Qdf (C t:Addr) (dxo:Option Addr):Obj:={ cls:=.ref C,dict:=dxo,data:=.fields #[.ref t,.none,.none,.none,.bool false,.none] }
section
variable {prog:Program}{w:World}{A:Around}{E:Value→Shared→Prop}{h:Heap}{g:Array GenState}{d:Drawn}{t:Nat}{os:OsState}
variable {nm q:Str}{C N:Addr}{bs bm bmB:List Value}{hdct:Bool}{sn:List Str}{sub:List Value}{ab:Bool}{col:Option Bool}{dd:Option Addr}{k0 k1 k2 k3 k5:Option Value}{B newId initId:String}
theorem QiL (F:ExcBaseFacts B newId initId bmB) (T:OwnTail h bmB bm) {mN:Str→Option Value}{rest:List Value}{fI:Addr}{oI:Obj}{Q:Fin→Shared→Prop}
  (hC:h.get? C=some (excClassObj nm q C N bs bm hdct sn sub ab col dd k0 k1 k2 k3 k5 newId)) (hn:h.Ns N mN) (hi:mN "__init__" = some (.ref fI)) (hfI:h.get? fI=some oI) (hfc:oI.cls = .type "function")
  (hq:wpAny (model prog w) A (call (.ref fI) (.ref (h.objs.size+1)::rest)) (fun r s'=>r = .none∧Q (.done (.ret (.ref (h.objs.size+1)))) s') E ⟨QdL h C rest,g,d,t,os⟩) (hrest:rest.length≤sizeLine) :
  wpAny (model prog w) A (Builtin.«type.__call__» ⟨.ref C::rest,[]⟩) Q E ⟨h,g,d,t,os⟩:=by
 repeat (first | with_reducible refine wpAny_loadPart_at hC ?_ | with_reducible refine wpAny_madeBy_exc hC ?_ | wp_step)
 refine codeAny_call_builtin_code (Code.quiet_builtin _ F.quiet) (wpAny_check_new_subT F T hC ?_);refine codeAny_exc_new_subT F T hC ?_ hrest;show wpAny _ _ _ _ _ _;have hC₁:=zh { cls:=.ref C,data:=.fields #[.ref h.objs.size,.none,.none,.none,.bool false,.none] }
  (zh { cls:=.type "tuple",data:=.seq rest.toArray } hC)
 have hfI₁:=zh { cls:=.ref C,data:=.fields #[.ref h.objs.size,.none,.none,.none,.bool false,.none] }
  (zh { cls:=.type "tuple",data:=.seq rest.toArray } hfI)
 have hn₁:((h.push { cls:=.type "tuple",data:=.seq rest.toArray }).push { cls:=.ref C,data:=.fields #[.ref h.objs.size,.none,.none,.none,.bool false,.none] }).Ns N mN :=
  let ⟨o,es,ep,e,r⟩:=hn; ⟨o,es,ep,zh _ (zh _ e),r⟩
 have hget:((h.push { cls:=.type "tuple",data:=.seq rest.toArray }).push
   { cls:=.ref C,data:=.fields #[.ref h.objs.size,.none,.none,.none,.bool false,.none] }).get? (h.objs.size+1)=some
   { cls:=.ref C,data:=.fields #[.ref h.objs.size,.none,.none,.none,.bool false,.none] }:=by heap_get
 have hcC:(Value.ref C::bm).contains (.ref C)=true:=by simp
 have T₁:=T.keeps (h':=(h.push { cls:=.type "tuple",data:=.seq rest.toArray }).push { cls:=.ref C,data:=.fields #[.ref h.objs.size,.none,.none,.none,.bool false,.none] })
  fun b o e=>zh _ (zh _ e)
 unfold isInstance
 repeat (first | with_reducible refine wpAny_loadPart_at hget ?_ | (with_reducible refine wpAny_isSubtype_exc hC₁ ?_; rw [hcC]) | wp_step)
 show wpAny _ _ (typeLookup (.ref C) _) _ _ _;refine wpAny_typeLookup_tail hC₁ hn₁ T₁ F.mroIs F.init.lookup ?_;rw [hi];refine zF (za ?_);unfold bindSpecial;refine za (wpAny_typeOf (T:="function") ⟨_,hfI₁,hfc⟩ ?_);rw [if_pos (by decide)];refine zb (za (zm hq (fun r s' hr=>?_) fun _ _ x=>x));obtain ⟨rfl,hQ⟩:=hr
 wp_walk
 exact hQ
theorem QiI (F:ExcBaseFacts B newId initId bmB) (T:OwnTail h bmB bm) {mN:Str→Option Value}{rest:List Value}{fI:Addr}{oI:Obj}{Q:Value→Shared→Prop}
  (hC:h.get? C=some (excClassObj nm q C N bs bm hdct sn sub ab col dd k0 k1 k2 k3 k5 newId)) (hn:h.Ns N mN) (hi:mN "__init__" = some (.ref fI)) (hfI:h.get? fI=some oI) (hfc:oI.cls = .type "function")
  (hq:wpAny (model prog w) (A.under (.builtin "type.__call__" ⟨.ref C::rest,[]⟩)) (call (.ref fI) (.ref (h.objs.size+1)::rest)) (fun r s'=>r = .none∧Q (.ref (h.objs.size+1)) s') E ⟨QdL h C rest,g,d,t,os⟩) (hrest:rest.length≤sizeLine) :
  wpAny (model prog w) A (call (.ref C) rest) Q E ⟨h,g,d,t,os⟩:=by
 have f1:=tc_lookup;have f2:=tc_bind (.ref C);have hT:(⟨h,g,d,t,os⟩:Shared).TypeIs (.ref C) "type":=⟨_,hC,rfl⟩;refine zM (codeAny_of_tree ?_);show wpAny _ _ (callAny (.ref C) _) _ _ _
 repeat (any_goals (first | assumption | with_reducible refine wpAny_loadPart_at hC ?_ | wp_step))
 refine ⟨rfl,?_⟩;exact codeAny_call_builtin_at (Code.quiet_builtin _ (by decide +kernel)) entry_typeCall (wpAny_check_type_call_sub hC (QiL F T hC hn hi hfI hfc hq hrest))
theorem Qj5 {M:Model}{env:Env}{s:Shared}{x:Sem Value}{Q:Flow→Shared→Prop} (hbase:bm.contains (.type "BaseException")=true) (hh:A.handled=none)
  (h:wpAny M A x (fun v s₁=>∃e t dxo,v = .ref e∧s₁.heap.get? C=some (excClassObj nm q C N bs bm hdct sn sub ab col dd k0 k1 k2 k3 k5 newId)∧s₁.heap.get? e=some (Qdf C t dxo)∧E (.ref e) s₁) E s) :
  wpAny M A (raiseStmt env (some x) none) Q E s:=by
 have hcB:(Value.ref C::bm).contains (.type "BaseException")=true:=by rw [List.contains_cons,hbase,Bool.or_true]
 unfold raiseStmt;refine za (zm h (fun v s₁ h₁=>?_) fun _ _ x=>x);obtain ⟨e,t,dxo,rfl,hC,he,hE⟩:=h₁;unfold Qdf at he;obtain ⟨hp,g,d,tk,os⟩:=s₁
 repeat (first | with_reducible refine wpAny_loadPart_at he ?_ | with_reducible refine wpAny_loadPart_at hC ?_ | (with_reducible refine wpAny_isSubtype_exc hC ?_; rw [hcB]) | wp_step)
 exact wpAny_raiseNew_none hh hE
theorem QrX {K:Frag}{x:Addr}{ox:Obj}{name:Str}{tk:Tok}{v:Value}{cd:ClassData}{Q:Fin→Shared→Prop} (X:K.In h) (hx:h.get? x=some ox) (hc:ox.cls = .ref C) (hnd:ox.dict=none) (hda:∃ws,ox.data = .fields ws)
  (hcd:clsIn K C=some cd) (hhd:cd.hasDict=true) (hrf:refuseLoop (.ref x) "__setattr__" cd.mro=pure ()) (hna:findIn K (.ref C) name=some none)
  (hq:∀h' tk',h'.Ns1 h.objs.size (fun y=>if y=name then some v else none)→h'.get? x=some { ox with dict:=some h.objs.size }→(∀b o,b≠x→h.get? b=some o→h'.get? b=some o)→Q (.done (.ret .none)) ⟨h',g,d,tk',os⟩) :
  wpAny (model prog w) A (Builtin.«object.__setattr__» ⟨[.ref x,.str name tk,v],[]⟩) Q E ⟨h,g,d,t,os⟩:=by
 obtain ⟨ws,hda⟩:=hda;have L0:Looks (model prog w) h (typeOf (.ref x)) (.ref C):=hc ▸ (Looks.ld hx).andThen .now;have hm:Looks (model prog w) h (mroOf (.ref C)) cd.mro:=(looks_clsIn X hcd).andThen .now;have L2:=looks_findIn (M:=model prog w) X hna;rw [osa_eq,refuse_eq];refine za (za (L0.at (za (hm.at ?_))));rw [hrf];refine zb (za (L0.at (za (L2.at (za (zb ?_))))));show wpAny _ _ (storeInOwnDict _ _ _ _ _ _) _ _ _;unfold storeInOwnDict;refine za (zb (za ?_));unfold ownDictForStores instanceDict;dsimp only;refine za (wpAny_loadPart hx ?_);obtain ⟨oc,odi,oda,osl⟩:=ox;dsimp only at hc hnd hda
 subst hc hnd hda;refine za ((looks_clsIn X hcd).at ?_);rw [hhd];rw [if_neg (by decide),if_neg (by simp [typeHasDict])];have hx₁:=zh { cls:=.type "dict",data:=.dict #[] } hx;have hxs:x≠h.objs.size:=zk (zd hx);refine za (wpAny_alloc' ?_);refine za (wpAny_update' hx₁ ?_);refine zb ?_;have hgd:((h.push { cls:=.type "dict",data:=.dict #[] }).update x fun o=>{ cls:=o.cls,dict:=some h.objs.size,data:=o.data,slots:=o.slots }).get? h.objs.size=some { cls:=.type "dict",data:=.dict #[] } :=
  (Heap.get?_update_ne _ _ _ _ hxs.symm).trans (Heap.get?_push_at rfl rfl)
 have hnd:((h.push { cls:=.type "dict",data:=.dict #[] }).update x fun o=>{ cls:=o.cls,dict:=some h.objs.size,data:=o.data,slots:=o.slots }).Ns h.objs.size (fun _=>none) :=
  ⟨_,#[],_,hgd,rfl,fun e he=>absurd he (by simp),fun _=>rfl⟩
 show wpAny _ _ (storeInDict h.objs.size (.str name tk) name v) _ _ _;unfold storeInDict newKeyGuard;refine za (zb (za (wpAny_nsSet1 (Heap.Ns1.of_empty hnd) fun h' hn' hs=>?_)));obtain ⟨oD,esD,epD,hoD,hdD,hcD⟩:=hn'.count (Within.cons name v Within.nil);refine za (wpAny_lookBehind hoD (by rw [hdD]; exact pastItsLine_dict (zt hcD (by rw [zq,List.length_nil,sizeLine_eq]; omega))) ?_)
 wp_walk
 refine hq h' _ hn' ((hs.2 x hxs).trans (Heap.get?_update_self _ hx₁ rfl)) fun b ob hbx hb=>?_
 exact (hs.2 b (zk (zd hb))).trans ((Heap.get?_update_ne _ _ _ _ hbx).trans (zh _ hb))
end
def xoK (C t ea:Addr) (dxo:Option Addr):HO:=.ext fun h=>h.get? ea=some (Qdf C t dxo)
theorem QkU {P:Program}{w:World}{H:Hp}{h:Heap}{C t ea:Addr}{dxo:Option Addr} (e:h.get? ea=some (Qdf C t dxo)):QbL P w H h ea (xoK C t ea dxo):=⟨e,⟨_,e⟩,fun _ _ z k=>k _ z⟩
theorem QkM {P:Program}{w:World}{H:Hp}{h:Heap}{C t ea:Addr}{dxo:Option Addr} (q:QbL P w H h ea (xoK C t ea dxo)):h.get? ea=some (Qdf C t dxo):=q.1
def spI (C:Addr) (name:Str):Sp:=fun vs H Q _=>∃ea t v,vs = [.ref ea,v]∧H ea=some (xoK C t ea none)∧∀dx od,H dx=none→dx≠ea→Q .non (upd (upd H dx (.frz od (.xd [(name,v)]))) ea (xoK C t ea (some dx)))
structure QkF (K:Frag) (C fI:Addr) (name:Str):Prop where
 cl:Qeh K C bmV "ValueError.__new__" fI=true
 sa:findIn K (.ref C) "__setattr__" = some (some (.builtin "object.__setattr__"))
 na:findIn K (.ref C) name=some none
 ob:mroIn K C (.type "object")=some true
section
variable {X:Cx}{pins:List (Addr×Obj)}{σ:St}{H:Hp}{s:Shared}{ea C fI t:Addr}{name:Str}{v:V}{u:Value}
theorem Qrb {A:Around}{E:Value→Shared→Prop}{Q:Unit→Shared→Prop} (I:Inv X pins σ H s) (Z:QkF X.K C fI name) (e:H ea=some (xoK C t ea none)) (rv:RelV v u)
  (hq:∀dx od s',H dx=none→dx≠ea→Inv X pins σ (upd (upd H dx (.frz od (.xd [(name,v)]))) ea (xoK C t ea (some dx))) s'→Q () s'):wpAny (model X.prog X.w) A (setAttr (.ref ea) name u) Q E s:=by
 have hx:=QkM (I.hok ea _ e);obtain ⟨bm,N,nm,qn,bs,sn,sub,ab,col,dd,k0,k1,k2,k3,k5,lk,ht,_,_⟩:=QiE Z.cl;have SF:=PySem.F.store_object
 obtain ⟨cd,hcl,hm,hhd⟩:∃cd,clsIn X.K C=some cd∧cd.mro = .ref C::bm∧cd.hasDict=true:=by
  refine ⟨_,by unfold clsIn; rw [show X.K.lookup C=_ from lk],rfl,rfl⟩
 refine set_plain (od:=none) I.kIn ⟨hx,rfl,rfl,trivial⟩ Z.sa ?_;have L0:Looks (model X.prog X.w) s.heap (isInstance (.ref ea) (.type "object")) true:=(show Looks (model X.prog X.w) s.heap (typeOf (.ref ea)) (.ref C) from (Looks.ld hx).andThen .now).andThen (looks_mroIn I.kIn Z.ob);refine codeAny_call_builtin SF.slot.plain SF.entry (@check_slot (model X.prog X.w) _ _ { s with toks:=s.toks+1 } "object.__setattr__" "object" "__setattr__" (.ref ea) [.str name s.toks,u] [] _ SF.kind SF.split L0 (SF.args (.ref ea) (.str name s.toks) u) ?_)
 refine QrX I.kIn hx rfl rfl ⟨_,rfl⟩ hcl hhd (by rw [hm,refuseLoop_ref]; exact Qij _ ht) Z.na fun h' tk' hns hex hk=>?_
 show Q () _;have hfr:H s.heap.objs.size=none:=I.hok.fresh (zc _);have hne:s.heap.objs.size≠ea:=(zk (zd hx)).symm;obtain ⟨od,es,ep,hod,hr⟩:=id hns;refine hq s.heap.objs.size od _ hfr hne (I.un ⟨fun b o q n _ _=>?_,fun b o q n _ _=>?_,fun b o q n _=>?_,fun b o q _=>?_,fun b xs q=>?_,fun b o u' q=>?_,fun b ps q=>?_⟩ fun b o q=>?_)
 ·exact hk b o (fun z=>by rw [z,e] at n; cases n) q
 ·exact ⟨o.slots,hk b o (fun z=>by rw [z,e] at n; cases n) q⟩
 ·rw [Qan (fun z=>by rw [z,e] at n; cases n),Qan (zk (zd q))];exact n
 ·by_cases z:b=ea
  ·exact ⟨_,z ▸ hex⟩
  ·exact ⟨o,hk b o z q⟩
 ·rw [Qan (fun z=>by rw [z,e] at q; cases q),Qan (fun z=>by rw [z,hfr] at q; cases q)];exact q
 ·rw [Qan (fun z=>by rw [z,e] at q; cases q),Qan (fun z=>by rw [z,hfr] at q; cases q)];exact q
 ·refine ⟨#[],?_⟩;rw [Qan (fun z=>by rw [z,e] at q; cases q),Qan (fun z=>by rw [z,hfr] at q; cases q),Array.append_empty];exact q
 ·by_cases z:b=ea
  ·subst z;rw [QaD] at q;cases q;exact QkU hex
  ·rw [Qan z] at q
   by_cases y:b=s.heap.objs.size
   ·subst y;rw [QaD] at q;cases q;refine ⟨hod,_,hns,fun f=>?_⟩
    by_cases hf:f=name
    ·rw [if_pos hf,hf];show Qc4 (List.lookup name [(name,v)]) _;rw [show List.lookup name [(name,v)]=some v by simp [List.lookup]];exact rv
    ·have hb:(f == name)=false:=beq_eq_false_iff_ne.mpr hf;rw [if_neg hf,show List.lookup f [(name,v)]=none by simp only [List.lookup,hb]];exact True.intro
   ·rw [Qan y] at q
    refine (I.hok b o q).stay (fun b' u' hb' q'=>hk b' u' (fun x=>?_) q') (fun b' q'=>?_) fun b' xs q'=>?_
    ·rcases hb' with rfl | hb'
     ·exact z x
     ·rw [x,e] at hb';cases hb'
    ·rw [Qan (fun x=>by rw [x,e] at q'; cases q'),Qan (fun x=>by rw [x,hfr] at q'; cases q')];exact q'
    ·rw [Qan (fun x=>by rw [x,e] at q'; cases q'),Qan (fun x=>by rw [x,hfr] at q'; cases q')];exact q'
def Quf (C:Addr) (name:Str):TS:=fun D σ H=>∃ea t v,σ[0]? = some (some (.ref ea))∧σ[1]? = some (some v)∧H ea=some (xoK C t ea none)∧∀dx od,H dx=none→dx≠ea→D.nx σ (upd (upd H dx (.frz od (.xd [(name,v)]))) ea (xoK C t ea (some dx)))
theorem Qrj {sf pn:Str}{p1 p2 p3 p4:Pos} (Z:QkF X.K C fI name) (h0:X.N[0]? = some sf) (h1:X.N[1]? = some pn) (v0:Vis X.env.scope sf) (v1:Vis X.env.scope pn) (d0:(sf == ("__debug__":Str))=false) (d1:(pn == ("__debug__":Str))=false) (c0:(sf == ("__classdict__":Str))=false) (c1:(pn == ("__classdict__":Str))=false)
  (hs:swapsWith (.Name pn p3) (some (.Attribute (.Name sf p1) name p2)) p4.line X.env=pure false):PS X (.Assign [.Attribute (.Name sf p1) name p2] (.Name pn p3) p4) (Quf C name):=by
 intro pins s σ H D I q;obtain ⟨ea,t,v,e0,e1,eh,k⟩:=q;refine plainObj_wpAny_Assign_Attribute (thn (QeO (i:=1) h1 v1 d1 c1 pins s σ H (fun v' H1=>v'=v∧H1=H) I ⟨v,e1,rfl,rfl⟩) fun u s1 z=>?_) hs;obtain ⟨_,_,I1,ru,rfl,rfl⟩:=z
 refine thn (QeO (i:=0) h0 v0 d0 c0 pins s1 σ _ (fun v' H1=>v' = .ref ea∧H1=_) I1 ⟨.ref ea,e0,rfl,rfl⟩) fun ov s2 z=>?_
 obtain ⟨_,_,I2,ro,rfl,rfl⟩:=z;obtain rfl:ov=Value.ref ea:=ro
 exact Qrb I2 Z eh ru fun dx od s3 n1 n2 I3=>⟨σ,_,I3,k dx od n1 n2⟩
theorem Inv.dropH {H':Hp}{φ:Heap→Prop} (I:Inv X pins σ H s) (he:H ea=some (.ext φ)) (h1:∀b,b≠ea→H' b=H b) (h2:H' ea=none):Inv X pins σ H' s:=by
 have nn:∀b,H b=none→H' b=none:=fun b n=>by
  by_cases z:b=ea
  ·rw [z]; exact h2
  ·rw [h1 b z]; exact n
 have ne:∀b o,H b=some o→(∀φ,o≠.ext φ)→H' b=some o:=fun b o q n=>by
  rw [h1 b fun z=>by rw [z,he] at q; cases q; exact n _ rfl];exact q
 refine ⟨I.ok,I.os,I.bare,⟨I.base.keep,I.base.slot,fun b o q n hx=>nn b (I.base.free b o q n hx),I.base.there,fun b xs q=>ne b _ (I.base.tups b xs q) (fun _ z=>nomatch z),fun b o u q=>ne b _ (I.base.frzs b o u q) (fun _ z=>nomatch z),fun b ps q=>?_⟩,I.loc,I.cell,nn _ I.free,fun x c q=>nn _ (I.freeC x c q),fun p hp=>?_,fun b o q=>?_,I.len⟩
 ·obtain ⟨more,q'⟩:=I.base.tbls b ps q;exact ⟨more,ne b _ q' fun _ z=>nomatch z⟩
 ·obtain ⟨e,n,nl,nf,d⟩:=I.pin p hp;exact ⟨e,nn _ n,nl,nf,d⟩
 ·have hb:b≠ea:=fun z=>by rw [z,h2] at q; cases q
  rw [h1 b hb] at q
  exact (I.hok b o q).stay (fun _ _ _ e=>e) (fun b' q'=>ne b' _ q' fun _ z=>nomatch z) fun b' xs q'=>ne b' _ q' fun _ z=>nomatch z
end
def Qde (P:Program) (w:World) (K:Frag) (mg:Str→Option Value) (base:Heap) (c name:Str) (k:Nat):Prop :=
 ∃(C fI:Addr) (fd:FuncData) (ps:List Str),mg c=some (.ref C)∧QkF K C fI name∧isFn K (.ref fI)=true∧Binds K fd ps []∧Qby P w K mg base CX0 k fI fd ps (spI C name)
section
variable {Pr:Program}{w:World}{K:Frag}{mg:Str→Option Value}{base:Heap}
theorem QtY {c name qual sf pn:Str}{st:Stmt}{C fI:Addr}{fd:FuncData}{p1 p2 p3 p4:Pos} (hC:mg c=some (.ref C)) (Z:QkF K C fI name) (hf:isFn K (.ref fI)=true) (Fn:Fun K "__init__" qual st fI fd) (S:QaK [sf,pn] [sf,pn] (Qah st))
  (hb:∀(kV doc pm:Value) (an:Option Addr) (cdv ct:Value) (us:List Value),us.length = [sf,pn].length→bindArgs (PySem.W.fnOf "__init__" qual (Qba st) (QaP st) (Qah st) .none kV doc pm an cdv ct) ⟨us,[]⟩=pure ([sf,pn].zip us))
  (hbo:QaP st = [.Assign [.Attribute (.Name sf p1) name p2] (.Name pn p3) p4]) (v0:Vis (Qah st) sf) (v1:Vis (Qah st) pn) (d0:(sf == ("__debug__":Str))=false) (d1:(pn == ("__debug__":Str))=false) (c0:(sf == ("__classdict__":Str))=false) (c1:(pn == ("__classdict__":Str))=false)
  (hs:∀L f cdv,swapsWith (.Name pn p3) (some (.Attribute (.Name sf p1) name p2)) p4.line (envOfC qual (Qah st) L f cdv)=pure false):Qde Pr w K mg base c name 1:=by
 have hbi:=Fn.binds hb;obtain ⟨oc,od,kV,doc,pmv,an,cdv,ct,osl,rfl,lk,hcd⟩:=Fn.ex;refine ⟨C,fI,_,_,hC,Z,hf,hbi,QmR lk hcd S (fun vs H Q E h=>?_) fun A outer s H vs Q E hr h=>?_⟩
 ·obtain ⟨ea,t,v,rfl,_⟩:=h;rfl
 ·obtain ⟨ea,t,v,rfl,e,k⟩:=h;rw [hbo];exact ⟨_,QlY (Qrj (X:=Qb7 CX0 Pr w K mg base [sf,pn] qual (Qah st) fI cdv A outer s H E) Z rfl rfl v0 v1 d0 d1 c0 c1 (hs _ _ _)),ea,t,v,rfl,rfl,e,k⟩
end
section
variable {prog:Program}{w:World}{A:Around}{E:Value→Shared→Prop}{s:Shared}{env:Env}
variable {nm q:Str}{C N:Addr}{bs bm:List Value}{hdct:Bool}{sn:List Str}{sub:List Value}{ab:Bool}{col:Option Bool}{dd:Option Addr}{k0 k1 k2 k3 k5:Option Value}{newId:String}
theorem QlB {x:Str}{np cpos pos:Pos}{args:List Expr}{Q:Flow→Shared→Prop} (hbase:bm.contains (.type "BaseException")=true) (hh:A.handled=none) (hplain:(backTo cpos (starEach args env)).any (·.1)=false)
  (h:wpAny (model prog w) A (eval (.Name x np) env) (fun f s₁=>f = .ref C∧wpAny (model prog w) A (evalArgs (.ref C) true (backTo cpos (starEach args env)) [])
   (fun a s₂=>a.kw = []∧s₂.heap.get? C=some (excClassObj nm q C N bs bm hdct sn sub ab col dd k0 k1 k2 k3 k5 newId)∧wpAny (model prog w) A (call (.ref C) a.pos) (fun v s₃=>∃e t dxo,v = .ref e∧s₃.heap.get? C=some (excClassObj nm q C N bs bm hdct sn sub ab col dd k0 k1 k2 k3 k5 newId)∧s₃.heap.get? e=some (Qdf C t dxo)∧E (.ref e) s₃) E s₂) E s₁) E s) :
  wpAny (model prog w) A (exec (.Raise (some (.Call (.Name x np) args [] cpos)) none pos) env) Q E s:=by
 rw [arm_exec_Raise]
 first
  | refine za (wpAny_standAt (Qj5 (C:=C) (nm:=nm) (q:=q) (N:=N) (bs:=bs) (bm:=bm) (hdct:=hdct) (sn:=sn) (sub:=sub) (ab:=ab) (col:=col) (dd:=dd) (k0:=k0) (k1:=k1) (k2:=k2) (k3:=k3) (k5:=k5) (newId:=newId) hbase hh (za (zm (wpAny_Call_ofName (zm h (fun f s₁ h₁=>?_) fun _ _ x=>x)) (fun v s₃ h₃=>za (wpAny_standAt (zb h₃))) fun _ _ x=>x))))
  | (simp only [evalOpt,Option.map]; refine za (wpAny_standAt (Qj5 (C:=C) (nm:=nm) (q:=q) (N:=N) (bs:=bs) (bm:=bm) (hdct:=hdct) (sn:=sn) (sub:=sub) (ab:=ab) (col:=col) (dd:=dd) (k0:=k0) (k1:=k1) (k2:=k2) (k3:=k3) (k5:=k5) (newId:=newId) hbase hh (za (zm (wpAny_Call_ofName (zm h (fun f s₁ h₁=>?_) fun _ _ x=>x)) (fun v s₃ h₃=>za (wpAny_standAt (zb h₃))) fun _ _ x=>x)))))
 obtain ⟨rfl,h₁⟩:=h₁;unfold callWith;refine za (zF (zm h₁ (fun a s₂ h₂=>za (wpAny_standAt ?_)) fun _ _ x=>x));obtain ⟨apos,akw⟩:=a;obtain ⟨hkw,hC,h₂⟩:=h₂;obtain rfl:akw = []:=hkw;obtain ⟨hp,g,d,tk,os⟩:=s₂;simp only [hplain];refine za (wpAny_keeperOf_exc hC ?_);exact za (zm h₂ (fun v s₃ h₃=>za (zF (wpAny_point (zb h₃)))) fun _ _ z=>z)
end
section
variable {X:Cx}{md:List Md}{P:Pt}{R:RR}
def QdN (c name:Str) (m:M D):MS:=fun ρ O=>match m ρ O with
 | .ok d O'=>.ex ⟨c,[(name,d)]⟩ O'
 | _=>.no
theorem QjT {c name:Str}{k:Nat}{p cpos pos:Pos}{a:Expr}{m:M D} (Cn:Qde X.prog X.w X.K X.mg X.base c name k) (hr:QaJ (k+1) X.A) (hc:X.calm=true) (ha:VE X md P a m) (hg:Gl X c:=by rfl) (hd:(c == ("__debug__":Str))=false:=by decide)
  (hs1:starEach [a] X.env=(false,eval a X.env)::starEach [] X.env:=by exact Qa1 rfl) (hpl:(backTo cpos (starEach [a] X.env)).any (·.1)=false:=by rfl) :
  VSF X md P R (.Raise (some (.Call (.Name c p) [a] [] cpos)) none pos) (QdN c name m):=by
 intro pins s σ H D I q;obtain ⟨ρ,O,F,as,r,sl,k0⟩:=q;obtain ⟨C,fI,fd,ps,hC,Z,hf,hb,Fn⟩:=Cn;unfold QdN at k0
 cases em:m ρ O with
 | ex x O'=>rw [em] at k0; exact False.elim k0
 | no=>rw [em] at k0; exact False.elim k0
 | ok d O' =>
  rw [em] at k0;dsimp only at k0;obtain ⟨bm,N,nm,qn,bs,sn,sub,ab,col,dd,kk0,kk1,kk2,kk3,kk5,lk,ht,hno,hin⟩:=QiE Z.cl;refine QlB (C:=C) (nm:=nm) (q:=qn) (N:=N) (bs:=bs) (bm:=bm) (hdct:=true) (sn:=sn) (sub:=sub) (ab:=ab) (col:=col) (dd:=dd) (k0:=kk0) (k1:=kk1) (k2:=kk2) (k3:=kk3) (k5:=kk5) (newId:="ValueError.__new__") ((tail_of_in I.kIn ht).hasType PySem.F.excBase_ValueError.hasBase) (I.ok.hd hc) hpl (Qc3 I hg hC ⟨rfl,?_⟩ hd);have hA:=QbB ha Qcg hs1 cpos pins s σ H (fun vs H1=>∃v F1 as1,vs = [v]∧Gr H F as H1 F1 as1∧RlO X.K X.mg O' H1 F1 as1∧Rp X.K F1 as1 v d) I ⟨ρ,O,F,as,d,O',r,sl,em,fun v H1 F1 as1 g1 r1 hv=>⟨v,F1,as1,rfl,g1,r1,hv⟩⟩
  rw [hs1] at hA ⊢;refine Calls.evalArgs_plain (thn hA fun us s1 z=>?_);obtain ⟨vs,H1,I1,rv,v,F1,as1,rfl,g1,r1,hv⟩:=z;obtain ⟨u,rfl,ru⟩:=vals1 rv;refine ⟨rfl,I1.kIn _ _ lk,?_⟩;have hfr:H1 (s1.heap.objs.size+1)=none:=I1.hok.fresh (Nat.le_succ _)
  have kp:∀b o,s1.heap.get? b=some o→(QdL s1.heap C [u]).get? b=some o:=fun b o e=>zh _ (zh _ e)
  have hge:(QdL s1.heap C [u]).get? (s1.heap.objs.size+1)=some (Qdf C s1.heap.objs.size none):=by
   unfold QdL Qdf;exact Heap.get?_push_at (by rw [Heap.size_push]) rfl
  have I2:Inv X pins σ (upd H1 (s1.heap.objs.size+1) (xoK C s1.heap.objs.size (s1.heap.objs.size+1) none)) { s1 with heap:=QdL s1.heap C [u] }:=I1.laid (t':=s1.toks) kp (Nat.le_succ _) (QkU hge);have hns:s1.heap.Ns N _:=.of_isNs (isNs_of_in I1.kIn hno);have hfo:typeIn X.K (.ref fI)=some (.type "function"):=beq_iff_eq.mp hf
  obtain ⟨oI,hoI,hoc⟩:∃oI,s1.heap.get? fI=some oI∧oI.cls = .type "function":=by
   obtain ⟨o,ho,hc'⟩:=jh.mp (show (X.K.lookup fI).map (·.cls)=some (.type "function") from hfo);exact ⟨o,I1.kIn _ _ ho,hc'⟩
  obtain ⟨hh,gg,dr,tk,os⟩:=s1;refine QiI PySem.F.excBase_ValueError (tail_of_in I1.kIn ht) (I1.kIn _ _ lk) hns (Qi6 I1.kIn hns hin) hoI hoc ?_ (by rw [sizeLine_eq]; show (1:Nat)≤16777216; decide);have sp:spI C name [.ref (hh.objs.size+1),v] (upd H1 (hh.objs.size+1) (xoK C hh.objs.size (hh.objs.size+1) none)) (fun v' H2=>v' = .non∧∃dx od,upd H1 (hh.objs.size+1) (xoK C hh.objs.size (hh.objs.size+1) none) dx=none∧dx≠hh.objs.size+1∧H2=upd (upd (upd H1 (hh.objs.size+1) (xoK C hh.objs.size (hh.objs.size+1) none)) dx (.frz od (.xd [(name,v)]))) (hh.objs.size+1) (xoK C hh.objs.size (hh.objs.size+1) (some dx))) (fun _ _ _=>False) :=
   ⟨_,_,v,rfl,QaD,fun dx od n1 n2=>⟨rfl,dx,od,n1,n2,rfl⟩⟩
  have hl:=Fn.len _ _ _ _ sp;have bi:=hb { heap:=QdL hh C [u],gens:=gg,drawn:=dr,toks:=tk,os:=os } [.ref (hh.objs.size+1),u] I2.kIn hl;rw [zx] at bi;refine zM (codeAny_mono (Fn.run _ X.stack _ _ ⟨[.ref (hh.objs.size+1),u],[]⟩ [.ref (hh.objs.size+1),u] [.ref (hh.objs.size+1),v] _ _ (hr.make C [u] []) (I2.env0.make C [u] []) bi (.cons rfl (.cons ru .nil)) sp) fun res s2 hq=>?_)
  cases res with
  | error e=>exact False.elim hq
  | ok fl =>
   cases fl with
   | ret u' =>
    obtain ⟨v',H2,I3,rv',rfl,dx,od,n1,n2,rfl⟩:=I2.after hq;refine ⟨rv',?_⟩;have hx:=QkM (I3.hok (hh.objs.size+1) _ QaD)
    have e1:H1 dx=none:=by rw [Qan n2] at n1; exact n1
    have I4:Inv X pins σ (upd H1 dx (.frz od (.xd [(name,v)]))) s2:=I3.dropH (ea:=hh.objs.size+1) QaD (fun b hb=>by
     rw [Qan hb];unfold upd
     rw [if_neg hb]) (by rw [Qan n2.symm]; exact hfr)
    refine ⟨_,_,_,rfl,I3.kIn _ _ lk,hx,?_⟩;have fN:F1 dx=none:=r1.frF e1;have g2:Gr H1 F1 as1 (upd H1 dx (.frz od (.xd [(name,v)]))) (upd F1 dx (.frz od (.xd [(name,v)]))) as1:=(Gr.lay e1).frz e1 fN;have r2:RlO X.K X.mg O' (upd H1 dx (.frz od (.xd [(name,v)]))) (upd F1 dx (.frz od (.xd [(name,v)]))) as1:=(r1.lay e1).frz QaD fN (fun z=>r1.all z e1) rfl;have wx:=k0 (some dx) _ _ as1 (g1.trans g2).toS r2 (.inr ⟨dx,od,[(name,v)],rfl,QaD,rfl,Rps.cons (Rp.gr hv g2) Rps.nil⟩);refine wx.1 pins σ s2 (hh.objs.size+1) C hC I4 ⟨_,_,_,hx,rfl,rfl,rfl,rfl,rfl,by rw [Qan n2.symm]; exact hfr,Heap.get?_none_of_le (zt I1.sz (Nat.le_succ _))⟩
   | next=>exact False.elim hq
   | brk=>exact False.elim hq
   | cont=>exact False.elim hq
end
end L2
namespace L2
open PySem PySem.Spec PyProof.Rows PySem.W
def Cx.inH (X:Cx) (ea:Addr):Cx:={ X with A:=X.A.mark (some (.ref ea)),calm:=false,xe:=fun _ _=>False }
def xcO (oe:Obj):HO:=.frz oe (.ext fun _=>True)
section
variable {X:Cx}{md:List Md}{P:Pt}{R:RR}{pins:List (Addr×Obj)}{σ:St}{H:Hp}{s:Shared}{ea:Addr}{oe:Obj}
theorem Inv.inH (I:Inv X pins σ H s) (ea:Addr):Inv (X.inH ea) pins σ H s:=by
 have ok:=I.ok;exact ⟨⟨ok.mod,ok.kind,ok.glob,ok.blt,ok.above,ok.inj,ok.has,ok.cab,(fun z=>(nomatch z)),ok.frames,ok.stk,ok.exf,ok.bs,ok.bsz,ok.noex,ok.exfs,ok.funs,ok.frf⟩,I.os,I.bare,I.base,I.loc,I.cell,I.free,I.freeC,I.pin,I.hok,I.len⟩
theorem Inv.outH (ok:X.Ok) (I:Inv (X.inH ea) pins σ H s):Inv X pins σ H s:=⟨ok,I.os,I.bare,I.base,I.loc,I.cell,I.free,I.freeC,I.pin,I.hok,I.len⟩
theorem Inv.trackX {ws:Array Value} (I:Inv X pins σ H s) (he:s.heap.get? ea=some oe) (hd:oe.data = .fields ws) (hn:H ea=none) (h0:X.s₀.heap.get? ea=none) (hl:ea≠X.env.locals) (hp:∀p∈X.pn++pins,p.1≠ea):Inv X pins σ (upd H ea (xcO oe)) s:=by
 have ne:∀b o,H b=some o→upd H ea (xcO oe) b=some o:=fun b o q=>by
  rw [Qan (Qay q hn)];exact q
 refine ⟨I.ok,I.os,I.bare,⟨I.base.keep,I.base.slot,fun b o q n hx=>?_,I.base.there,fun b xs q=>ne b _ (I.base.tups b xs q),fun b o u q=>ne b _ (I.base.frzs b o u q),fun b ps q=>?_⟩,I.loc,I.cell,?_,fun x c q=>?_,fun p hp'=>?_,fun b o q=>?_,I.len⟩
 ·rw [Qan (fun z=>by rw [z,h0] at q; cases q)];exact I.base.free b o q n hx
 ·obtain ⟨more,q'⟩:=I.base.tbls b ps q;exact ⟨more,ne b _ q'⟩
 ·rw [Qan hl.symm];exact I.free
 ·rw [Qan (fun z=>?_)]
  ·exact I.freeC x c q
  ·obtain ⟨v,o,ho,hc⟩:=I.cell x c q;rw [z,he] at ho;cases ho;rw [hd] at hc;cases hc
 ·obtain ⟨e,n,nl,nf,d⟩:=I.pin p hp';exact ⟨e,by rw [Qan (hp p hp')]; exact n,nl,nf,d⟩
 ·by_cases z:b=ea
  ·subst z;rw [QaD] at q;cases q;exact ⟨he,True.intro,⟨_,he⟩,fun _ _ _ _=>True.intro⟩
  ·rw [Qan z] at q
   exact (I.hok b o q).stay (fun _ _ _ e=>e) (fun b' q'=>ne b' _ q') fun b' xs q'=>ne b' _ q'
def D3F (D:Ends) (i:Nat):Ends:={ nx:=fun σ' H'=>D.nx (σ'.set i none) H',rt:=D.rt }
def HsF (X:Cx) (D:Ends) (σ:St) (H:Hp) (ea C:Addr) (dxo:Option Addr):List ExceptHandler→Prop
 | .ExceptHandler (some (.Name T p)) (some n) (b₀::suite) pos::rest=>∃A,X.mg T=some (.ref A)∧Gl X T∧(T == ("__debug__":Str))=false ∧
   ((exmOne X.K (.ref C) (.ref A)=some false∧HsF X D σ H ea C dxo rest)∨(exmOne X.K (.ref C) (.ref A)=some true∧∃i,X.N[i]? = some n∧X.env.kindOf n=some .local ∧
    ∀oe:Obj,oe.cls = .ref C→oe.dict=dxo→(∃ws,oe.data = .fields ws)→∃t,PSs (X.inH ea) (b₀::suite) t∧t (D3F D i) (σ.set i (some (.ref ea))) (upd H ea (xcO oe))))
 | _=>False
theorem Qrc {D:Ends}{B:Heap}{C:Addr}{a0:Value}{dxo:Option Addr} (hst:X.stack=X.env::X.outer) (hfr:X.env.frame=some X.env.locals) (hN:X.N.Nodup) (hn:H ea=none) (h0:X.s₀.heap.get? ea=none) (hp:∀p∈X.pn++pins,p.1≠ea)
  (inv:∀h2:Heap,B.StaysIn h2→s.heap.UpToSlots h2→Inv X pins σ H { s with heap:=h2 }) (fl:Heap.FlyingW B (X.env::X.outer) ea (.ref C) a0 s.heap) (hdi:∃oe,s.heap.get? ea=some oe∧oe.dict=dxo) :
  ∀{hs:List ExceptHandler},HsF X D σ H ea C dxo hs→wpAny (model X.prog X.w) X.A (handleBy (.ref ea) X.env hs) (SP X pins D) X.xe s:=by
 have apart:∀(h2:Heap) (oe:Obj) (ws:Array Value),h2.FunFrames B (X.env::X.outer)→h2.get? ea=some oe→oe.data = .fields ws→ea≠X.env.locals:=fun h2 oe ws ff he hd z=>by
  have hb:X.env.locals∈(X.env::X.outer).filterMap (·.frame):=by
   rw [List.filterMap_cons,hfr];exact zw
  obtain ⟨_,o,ho,nf⟩:=ff.mem hb;rw [←z,he] at ho;cases ho;exact nf ws hd
 have I2:Inv X pins σ H s:=inv s.heap fl.1 (Heap.UpToSlots.refl _)
 obtain ⟨oe,ws,hoe,hoec,hoed,_⟩:=fl.first
 intro hs
 induction hs with
 | nil=>exact fun h=>False.elim h
 | cons hd rest ih =>
  intro h;unfold HsF at h;split at h
  ·rename_i T p n b₀ suite pos rest' eq;cases eq;obtain ⟨A,hT,hgT,hTd,h⟩:=h;refine wpAny_handleBy_cons (codeAny_handlers_test ?_) (by intro q; cases q);refine Qc3 (X:=X.inH ea) (I2.inH ea) hgT hT ?_ hTd
   rcases h with ⟨hex,h⟩ | ⟨hex,i,hi,hlo,k⟩
   ·refine (exm_one I2.kIn (hoec ▸ (Looks.ld hoe).andThen .now) hex).at ?_;exact ih h
   ·refine (exm_one I2.kIn (hoec ▸ (Looks.ld hoe).andThen .now) hex).at ?_;refine codeAny_handlers_suite_as ?_
    refine zm (Qfv (Qfo _ _) (lands_againW (Q:=fun _ s2=>∃h3,s2 = { s with heap:=h3 }∧Heap.FlyingW B (X.env::X.outer) ea (.ref C) a0 h3∧s.heap.UpToSlots h3) fl fun h3 fl3 up3=>⟨h3,rfl,fl3,up3⟩)) (fun _ s2 z=>?_) fun _ _ z=>z.1
    obtain ⟨⟨h3,rfl,fl3,up3⟩,dk⟩:=z;have I3:=inv h3 fl3.1 up3
    obtain ⟨oe3,ws3,hoe3,hoec3,hoed3,_⟩:=fl3.first
    obtain ⟨oeD,hoeD,hdi⟩:=hdi;obtain ⟨oe4,hoe4,hd4⟩:=dk ea oeD hoeD;have e4:oe4=oe3:=zL (hoe4.symm.trans hoe3);subst e4;have nl3:=apart h3 oe4 ws3 fl3.2.2.1 hoe3 hoed3;have I3x:=(I3.trackX hoe3 hoed3 hn h0 nl3 hp).inH ea;obtain ⟨t,hs,ht⟩:=k oe4 hoec3 (hd4.trans hdi) ⟨ws3,hoed3⟩;refine Qiw (X:=X.inH ea) (v:=.ref ea) I3x hN hi (.inl hlo) rfl (fun s4 I4=>?_) (.inr hlo);refine zm (hs pins s4 _ _ (D3F D i) I4 ht) (fun f s5 sp=>?_) (fun _ _ z=>z.elim)
    cases f with
    | next =>
     obtain ⟨σ5,H5,I5,q5⟩:=sp;have J:=I5.outH I2.ok;obtain ⟨m,hm,hl⟩:=J.loc
     refine wpAny_nameGoes_keeps hlo hm (by rw [I2.ok.kind]; rfl) fun h6 v hm6 hs6=>?_
     exact ⟨_,H5,J.goneI hN hi hl hm6 hs6,q5⟩
    | ret u =>
     obtain ⟨v,σ5,H5,I5,r5,q5⟩:=sp;have J:=I5.outH I2.ok;obtain ⟨m,hm,_⟩:=J.loc
     refine wpAny_nameGoes hlo hm (by rw [I2.ok.kind]; rfl) fun h6 m6 hm6 hs6=>?_
     exact ⟨v,_,H5,J.gone hm6 hs6,r5,q5⟩
    | brk=>obtain ⟨_,_,_,q⟩:=sp; exact q.elim
    | cont=>obtain ⟨_,_,_,q⟩:=sp; exact q.elim
  ·exact False.elim h
theorem Qty {E:XK}{e:Value}{s':Shared}{D:Ends}{hs:List ExceptHandler} (I:Inv X pins σ H s) (hx:CXF X.prog X.w X.stack H s E e s') (hst:X.stack=X.env::X.outer) (hfr:X.env.frame=some X.env.locals) (hN:X.N.Nodup) (hex:X.ex = [])
  (k:∀(ea C:Addr) (dxo:Option Addr) (H':Hp),E (.ref C) dxo H'→H' ea=none→HsF X D σ H' ea C dxo hs) :
  wpAny (model X.prog X.w) X.A (noteFrame e X.env) (fun _ s₂=>wpAny (model X.prog X.w) X.A (setFlight e none) (fun _ s₃=>wpAny (model X.prog X.w) X.A (handleBy e X.env hs) (SP X pins D) X.xe s₃) X.xe s₂) X.xe s':=by
 obtain ⟨ea,C,H',B,a0,dxo,rfl,hos,hbare,un,hok,fl,trk,old,⟨oe,hoe,hdi⟩,hE⟩:=hx;have fl':=fl;rw [hst] at fl';have frames:=I.ok.frames;rw [hst] at frames
 have hn:H' ea=none:=by
  cases q:H' ea with
  | none=>rfl
  | some u =>
   obtain ⟨o,z⟩:=trk ea u q;rw [fl.2.1] at z;cases z
 have nfr:ea∉frs X.stack:=fun z=>by
  obtain ⟨oe2,ws,he2,_,hd,_⟩:=fl.first
  obtain ⟨_,o,ho,nf⟩:=fl.2.2.1.mem z;rw [he2] at ho;cases ho;exact nf ws hd
 have hold:s.heap.get? ea=none:=by
  cases q:s.heap.get? ea with
  | none=>rfl
  | some o =>
   obtain ⟨o',z⟩:=old ea o q nfr;rw [fl.2.1] at z;cases z
 have h0:X.s₀.heap.get? ea=none:=by
  cases q:X.s₀.heap.get? ea with
  | none=>rfl
  | some o =>
   obtain ⟨o',z⟩:=I.base.there ea o q (by rw [hex]; exact fun z=>nomatch z);rw [hold] at z;cases z
 have hp:∀p∈X.pn++pins,p.1≠ea:=fun p hp z=>by
  have q:=(I.pin p hp).1;rw [z,hold] at q;cases q
 have inv:∀h2:Heap,B.StaysIn h2→s'.heap.UpToSlots h2→Inv X pins σ H' { s' with heap:=h2 }:=fun h2 hb up=>I.call' (s':={ s' with heap:=h2 }) (ch:=[]) hos (QnM un fl.1 fl.2.2.1 old hb up) (QoN hok trk fl.1 hb) hbare fun _ z=>nomatch z
 refine zm (Qfv (QlS _ _) (wpAny_looks_onW (Q:=fun _ s2=>∃h1,s2 = { s' with heap:=h1 }∧Heap.HeldW B (X.env::X.outer) ea (.ref C) a0 X.env.locals h1∧s'.heap.UpToSlots h1) frames hfr fl' fun h1 held up1=>⟨h1,rfl,held,up1⟩)) (fun _ s2 z=>?_) fun _ _ z=>z.1
 obtain ⟨⟨h1,rfl,held,up1⟩,dk1⟩:=z
 refine zm (Qfv (Qfo _ _) (wpAny_landsW (s:={ s' with heap:=h1 }) (Q:=fun _ s2=>∃h2,s2 = { s' with heap:=h2 }∧Heap.FlyingW B (X.env::X.outer) ea (.ref C) a0 h2∧h1.UpToSlots h2) held fun h2 fl2 up2=>⟨h2,rfl,fl2,up2⟩)) (fun _ s3 z=>?_) fun _ _ z=>z.1
 obtain ⟨⟨h2,rfl,fl2,up2⟩,dk2⟩:=z;obtain ⟨oe1,e1,d1⟩:=dk1 ea oe hoe;obtain ⟨oe2,e2,d2⟩:=dk2 ea oe1 e1;exact Qrc (s:={ s' with heap:=h2 }) hst hfr hN hn h0 hp (fun h3 hb up=>inv h3 hb ((up1.trans up2).trans up)) fl2 ⟨oe2,e2,(d2.trans d1).trans hdi⟩ (k ea C dxo H' hE hn)
end
end L2
namespace L2
open PySem PySem.Spec PyProof.Rows PySem.W PySem.Calls PySem.Builtin PySem.Builtin.ObjectAttr
section
variable {X:Cx}{md:List Md}{P:Pt}{R:RR}
theorem Qq4 {k:Nat}{f:Addr}{fd:FuncData}{ps:List Str}{sp:Sp}{E:XK}{W:Value→Shared→Prop}{pins:List (Addr×Obj)}{σ:St}{H:Hp}{s:Shared}{Q:VK}{us:List Value}{vs:List V} (F:Qby X.prog X.w X.K X.mg X.base (CXF X.prog X.w) k f fd ps sp) (hr:QaJ k X.A) (hb:Binds X.K fd ps [])
  (I:Inv X pins σ H s) (r:QaC vs us) (h:sp vs H Q E) (hx:∀e s',CXF X.prog X.w X.stack H s E e s'→W e s'):wpAny (model X.prog X.w) X.A (call (.ref f) us) (EP X pins σ Q) W s:=by
 have hl:us.length=ps.length:=by rw [←r.length]; exact F.len _ _ _ _ h
 have bi:=hb s us I.kIn (by rw [zx]; exact hl);rw [zx] at bi;refine zM (codeAny_mono (F.run X.A X.stack s H ⟨us,[]⟩ us vs Q E hr I.env0 bi r h) fun res s' hq=>?_)
 cases res with
 | error e=>exact hx e s' hq
 | ok fl =>
  cases fl with
  | ret u=>exact I.after hq
  | next=>exact False.elim hq
  | brk=>exact False.elim hq
  | cont=>exact False.elim hq
def VEH (X:Cx) (md:List Md) (P:Pt) (R:RR) (e:Expr) (m:M D):Prop:=∀(pins:List (Addr×Obj)) (s:Shared) (σ:St) (H:Hp) (ρ:Qak) (O:Qab) (F:Hp) (as:List Addr) (Q:VK) (W:Value→Shared→Prop),Inv X pins σ H s→RlO X.K X.mg O H F as→SlO X.K md P ρ σ H F as →
 Qsb X.K X.mg R (fun x dxo H'=>∀(H0:Hp) (s0:Shared) (e:Value) (s':Shared),Inv X pins σ H0 s0→CXF X.prog X.w X.stack H0 s0 (fun cv d H''=>∃C,cv = .ref C∧X.mg x.cls=some (.ref C)∧d=dxo∧H''=H') e s'→W e s') H F as Q (m ρ O)→wpAny (model X.prog X.w) X.A (eval e X.env) (EP X pins σ Q) W s
def exJ (X:Cx) (pins:List (Addr×Obj)) (σ:St) (W:Value→Shared→Prop):XK:=fun cv d H'=>∃(x:Xc) (C:Addr),cv = .ref C∧X.mg x.cls=some (.ref C)∧∀(H0:Hp) (s0:Shared) (e:Value) (s':Shared),Inv X pins σ H0 s0→CXF X.prog X.w X.stack H0 s0 (fun cv d' H''=>∃C,cv = .ref C∧X.mg x.cls=some (.ref C)∧d'=d∧H''=H') e s'→W e s'
theorem Qsa {pins:List (Addr×Obj)}{σ:St}{W:Value→Shared→Prop}{H:Hp}{s:Shared} (I:Inv X pins σ H s) (e:Value) (s':Shared) (hx:CXF X.prog X.w X.stack H s (exJ X pins σ W) e s'):W e s':=by
 obtain ⟨ea,C,H',B,a0,dxo,rfl,x1,x2,x3,x4,x5,x6,x7,x8,x,C',e1,hC,hw⟩:=hx;cases e1;exact hw H s (.ref ea) s' I ⟨ea,C,H',B,a0,dxo,rfl,x1,x2,x3,x4,x5,x6,x7,x8,C,rfl,hC,rfl,rfl⟩
theorem Qo0 {f:Str}{ps:List Str}{k:Nat}{a:Expr}{as:List Expr}{pm:List Md}{c:List D→Qab→Res D}{ma:M (List D)}{p1 p2:Pos} (hR:Qca R)
  (Cn:QgP X.prog X.w X.K X.mg X.base f ps k (Qdg X.K X.mg pm R c)) (hr:QaJ k X.A) (ha:∀E,AE (X.wish E) md P pm (a::as) ma) (hg:Gl X f:=by rfl) (hfd:(f == ("__debug__":Str))=false:=by decide)
  (hs:starEach (a::as) X.env=(false,eval a X.env)::starEach as X.env:=by exact Qa1 rfl) (hpl:(backTo p2 (starEach as X.env)).any (·.1)=false:=by exact Qa5 rfl):VEH X md P R (.Call (.Name f p1) (a::as) [] p2) (QcW c ma):=by
 intro pins s σ H ρ O F as' Q W I r sl kk;obtain ⟨fa,fd,hm,hk,hb,Fn,_⟩:=Cn;unfold QcW at kk
 cases em:ma ρ O with
 | ex x O'=>rw [em] at kk; exact False.elim kk
 | no=>rw [em] at kk; exact False.elim kk
 | ok ds O1 =>
  rw [em] at kk;dsimp only at kk;refine wpAny_Call_Name_kw (Qc3 I hg hm ?_ hfd);refine PySem.W.callWith_K (h₀:=X.base) I.ok.mod.kin hk (thn (ha W p2 pins s σ H (fun vs H1=>∃F1 as1,Gr H F as' H1 F1 as1∧RlO X.K X.mg O1 H1 F1 as1∧QbG X.K H1 F1 as1 pm vs ds) (I.wish W) ⟨ρ,O,F,as',ds,O1,r,sl,em,fun vs H1 F1 as1 g1 r1 h1=>⟨F1,as1,g1,r1,h1⟩⟩) fun us s1 z=>?_) hs hpl;obtain ⟨vs,H1,J1,rv,F1,as1,g1,r1,h1⟩:=z;have J:=J1.unwish;refine ⟨J.kIn,Qq4 (E:=exJ X pins σ W) Fn hr hb J rv ⟨ds,O1,F1,as1,r1,h1,?_⟩ (Qsa J)⟩
  cases ec:c ds O1 with
  | ok d O2 =>
   rw [ec] at kk
   exact fun v H2 F2 as2 g2 r2 h=>kk v H2 F2 as2 (g1.trans g2) r2 (hR _ _ _ _ _ _ _ (fun a z=>g1.dm a z) h)
  | ex x O2 =>
   rw [ec] at kk
   exact fun C dxo H2 F2 as2 hC g2 r2 hx=>⟨x,C,rfl,hC,kk dxo H2 F2 as2 (g1.trans g2) r2 hx⟩
  | no=>rw [ec] at kk; exact False.elim kk
def EXM (K:Frag) (mg:Str→Option Value) (T c:Str) (b:Bool):Prop:=∃C A,mg c=some (.ref C)∧mg T=some (.ref A)∧exmOne K (.ref C) (.ref A)=some b
abbrev HM:=List Str×List Str×Nat×MS
def QfA:List HM→Xc→MS
 | [],_=>fun _ _=>.no
 | (ys,ns,i,hb)::rest,x=>fun ρ O=>if ys.contains x.cls=true then (match hb (ρ.set i (some (.ob O.length))) (O ++ [.xc x.cls x.fs]) with
   | .nx ρ' O2=>.nx (ρ'.set i none) O2
   | .rt d O2=>.rt d O2
   | _=>.no) else if ns.contains x.cls=true then QfA rest x ρ O else .no
def Qhn (m:M D) (hs:List HM):MS:=fun ρ O=>match m ρ O with
 | .ok _ O1=>.nx ρ O1
 | .ex x O1=>QfA hs x ρ O1
 | .no=>.no
def VHs (X:Cx) (md:List Md) (P:Pt) (R:RR):List ExceptHandler→List HM→Prop
 | _,[]=>True
 | .ExceptHandler (some (.Name T p)) (some n) (b₀::suite) pos::rest,(ys,ns,i,hb)::rest'=>(∀c∈ys,EXM X.K X.mg T c true)∧(∀c∈ns,EXM X.K X.mg T c false)∧Gl X T∧(T == ("__debug__":Str))=false∧X.N[i]? = some n∧X.env.kindOf n=some .local∧md[i]? = some .v ∧
   (∀ea,VSs (X.inH ea) md P R (b₀::suite) hb)∧VHs X md P R rest rest'
 | _,_=>False
theorem QtA {hs:List ExceptHandler}:VHs X md P R hs []:=by
 cases hs <;> simp [VHs]
theorem Qrs {T n:Str}{p pos:Pos}{b₀:Stmt}{suite:List Stmt}{rest:List ExceptHandler}{ys ns:List Str}{i:Nat}{hb:MS}{rest':List HM} (h1:∀c∈ys,EXM X.K X.mg T c true) (h2:∀c∈ns,EXM X.K X.mg T c false)
  (hs:∀ea,VSs (X.inH ea) md P R (b₀::suite) hb) (hr:VHs X md P R rest rest') (hg:Gl X T:=by rfl) (hd:(T == ("__debug__":Str))=false:=by decide) (hi:X.N[i]? = some n:=by rfl) (hl:X.env.kindOf n=some .local:=by rfl) (hm:md[i]? = some .v:=by rfl) :
  VHs X md P R (.ExceptHandler (some (.Name T p)) (some n) (b₀::suite) pos::rest) ((ys,ns,i,hb)::rest'):=⟨h1,h2,hg,hd,hi,hl,hm,hs,hr⟩
theorem RlO.xc {K:Frag}{mg:Str→Option Value}{O:Qab}{H F:Hp}{as:List Addr}{ea C:Addr}{oe:Obj}{c:Str}{fs:List (Str×D)} (r:RlO K mg O H F as) (hn:H ea=none) (hC:mg c=some (.ref C)) (hc:oe.cls = .ref C) (hd:∃ws,oe.data = .fields ws) (hx:XF K F as oe.dict fs) :
  RlO K mg (O ++ [.xc c fs]) (upd H ea (xcO oe)) F (as ++ [ea])∧Gr H F as (upd H ea (xcO oe)) F (as ++ [ea]):=by
 have at_:∀(n:Nat) (a:Addr),as[n]? = some a→(as ++ [ea])[n]? = some a:=fun n a h=>by
  rw [zz (zl.mp h).1]; exact h
 have g0:Gr H F as (upd H ea (xcO oe)) F as:=Gr.lay hn;have rB:RlO K mg O (upd H ea (xcO oe)) F as:=r.lay hn;refine ⟨⟨rB.fh,rB.fd,?_,by simp [r.len],fun a ha=>?_,fun n a o ha ho=>?_⟩,⟨g0.fz,g0.ff,⟨[ea],rfl,fun a ha=>by rw [zB.mp ha]; exact hn⟩,fun a o e ha hd=>g0.fr a o e ha hd,g0.dm,g0.kz⟩⟩
 ·rw [List.nodup_append];refine ⟨r.nd,by simp,fun a ha b hb=>?_⟩;rw [zB.mp hb];intro z;subst z;exact r.all ha hn
 ·rcases zA.mp ha with z | z
  ·exact r.fa a z
  ·rw [zB.mp z];exact r.frF hn
 ·by_cases hn':n < O.length
  ·rw [zz (by rw [r.len]; exact hn')] at ha;rw [zz hn'] at ho;exact (rB.ob n a o ha ho).keep rfl (Same.refl _) at_
  ·have hn2:n=O.length:=by
    have:=(zl.mp ho).1
    simp at this
    omega
   subst hn2;rw [zy (zc _),Nat.sub_self] at ho;rw [←r.len,zy (zc _),Nat.sub_self] at ha;cases ho;cases ha;exact ⟨C,oe,_,hC,QaD,hc,hd,hx.mono (Same.refl _) at_⟩
theorem QrD {D:Ends}{pins:List (Addr×Obj)}{σ:St}{ρ:Qak}{O:Qab}{H F:Hp}{as:List Addr}{x:Xc}{ea C:Addr}{dxo:Option Addr} (r:RlO X.K X.mg O H F as) (sl:SlO X.K md P ρ σ H F as) (hC:X.mg x.cls=some (.ref C)) (hn:H ea=none) (hx:XF X.K F as dxo x.fs) :
  ∀{hs:List ExceptHandler}{hm:List HM},VHs X md P R hs hm→QeX X.K X.mg md P R D H F as (QfA hm x ρ O)→HsF X D σ H ea C dxo hs:=by
 intro hs
 induction hs with
 | nil =>
  intro hm h k
  cases hm with
  | nil=>exact False.elim k
  | cons a b=>exact False.elim h
 | cons hd rest ih =>
  intro hm h k
  cases hm with
  | nil=>exact False.elim k
  | cons a b =>
   unfold VHs at h;split at h
   ·rename_i q; cases q
   ·rename_i T p n b₀ suite pos rest1 ys ns i hb rest' eq1 eq2;cases eq1;cases eq2;obtain ⟨h1,h2,hg,hdb,hi,hl,hmi,hsu,hre⟩:=h;unfold QfA at k;split at k
    ·rename_i hy;obtain ⟨C',A,e1,e2,e3⟩:=h1 x.cls (List.contains_iff_mem.mp hy);rw [hC] at e1;cases e1;refine ⟨A,e2,hg,hdb,.inr ⟨e3,i,hi,hl,fun oe hoc hod hda=>⟨_,hsu ea,?_⟩⟩⟩;obtain ⟨r2,g2⟩:=r.xc (oe:=oe) hn hC hoc hda (hod ▸ hx);refine ⟨ρ.set i (some (.ob O.length)),_,F,as ++ [ea],r2,(sl.step g2).setV hmi (Rp.mkO (by rw [←r.len,zy (zc _),Nat.sub_self]; rfl)),?_⟩
     cases eb:hb (ρ.set i (some (.ob O.length))) (O ++ [.xc x.cls x.fs]) with
     | nx ρ' O2 =>
      rw [eb] at k
      exact fun σ' H' F' as' g' r' s'=>k _ H' F' as' (g2.toS.trans g') r' (s'.drop (x:=none) hmi)
     | rt d O2 =>
      rw [eb] at k
      exact fun v H' F' as' g' r' s'=>k v H' F' as' (g2.toS.trans g') r' s'
     | bk _ _=>rw [eb] at k; exact False.elim k
     | ct _ _=>rw [eb] at k; exact False.elim k
     | ex _ _=>rw [eb] at k; exact False.elim k
     | no=>rw [eb] at k; exact False.elim k
    ·split at k
     ·rename_i _ hy;obtain ⟨C',A,e1,e2,e3⟩:=h2 x.cls (List.contains_iff_mem.mp hy);rw [hC] at e1;cases e1;exact ⟨A,e2,hg,hdb,.inl ⟨e3,ih hre k⟩⟩
     ·exact False.elim k
   ·exact False.elim h
theorem QrG {e:Expr}{m:M D}{R':RR}{h0:ExceptHandler}{hs:List ExceptHandler}{hm:List HM}{p3 p6:Pos} (he:VEH X md P R' e m) (hh:VHs X md P R (h0::hs) hm) (hN:X.N.Nodup) (hst:X.stack=X.env::X.outer:=by rfl) (hfr:X.env.frame=some X.env.locals:=by rfl) (hex:X.ex = []:=by rfl)
  (hsw:swapsWith e none p3.line X.env=pure false:=by rfl):VS X md P R (.Try [.Expr e p3] (h0::hs) [] [] p6) (Qhn m hm):=by
 intro pins s σ H D I q;obtain ⟨ρ,O,F,as,r,sl,kk⟩:=q;refine wpAny_Try_except ?_
 have ev:=he pins s σ H ρ O F as (fun _ H2=>D.nx σ H2) (fun e s1=>wpAny (model X.prog X.w) X.A (noteFrame e X.env) (fun _ s₂=>wpAny (model X.prog X.w) X.A (setFlight e none) (fun _ s₃=>wpAny (model X.prog X.w) X.A (handleBy e X.env (h0::hs)) (SP X pins D) X.xe s₃) X.xe s₂) X.xe s1) I r sl (by
  unfold Qhn at kk
  cases em:m ρ O with
  | ok d O1 =>
   rw [em] at kk
   exact fun v H' F' as' g r' _=>kk σ H' F' as' g.toS r' (sl.step g)
  | ex x O1 =>
   rw [em] at kk;intro dxo H' F' as' g r' hx H0 s0 e s' I0 hz
   refine Qty I0 hz hst hfr hN hex fun ea C d H2 hE hn=>?_
   obtain ⟨C',z1,z2,rfl,rfl⟩:=hE;cases z1;exact QrD (pins:=pins) r' (sl.step g) z2 hn hx hh (Qdc (R:=R) g.toS kk)
  | no=>rw [em] at kk; exact False.elim kk)
 refine wpAny_execs_cons (thn (wpAny_Expr_any (Q:=fun fl s1=>fl = .next∧∃H2,Inv X pins σ H2 s1∧D.nx σ H2) (thn ev fun v s1 z=>?_) I.quiet hsw) fun fl s1 z=>?_)
 ·obtain ⟨_,H2,I2,_,q2⟩:=z;exact ⟨rfl,H2,I2,q2⟩
 ·obtain ⟨rfl,H2,I2,q2⟩:=z;exact wpAny_execs_nil (wpAny_execs_nil ⟨σ,H2,I2,q2⟩)
end
section
variable {prog:Program}{w:World}{A:Around}{E:Value→Shared→Prop}{K:Frag}{a C:Addr}{o od:Obj}{h:Heap}{g:Array GenState}{d:Drawn}{t:Nat}{os:OsState}{name:Str}{v:Value}
theorem QqN {tk:Tok}{Q:Fin→Shared→Prop} (X:K.In h) (I:InstAt h a o C (some od)) (hf:findObj K C (some od) name=some (.value v)) (hq:Q (.done (.ret v)) ⟨h,g,d,t,os⟩) :
  wpAny (model prog w) A (Builtin.«object.__getattribute__» ⟨[.ref a,.str name tk],[]⟩) Q E ⟨h,g,d,t,os⟩:=by
 have L0:=I.type (M:=model prog w);have L1:=looks_find (M:=model prog w) X I hf;unfold Builtin.«object.__getattribute__»;refine za (zR (a:=(Value.ref a,[Value.str name tk])) rfl ?_);dsimp only;refine za (zb ?_);refine za (L0.at ?_);refine za (L1.at ?_);exact zb hq
theorem QrW {expr:Bool}{Q:Value→Shared→Prop} (F0:QcG K C) (X:K.In h) (I:InstAt h a o C (some od)) (hh:hasDictIn K C=true) (hn:findIn K (.ref C) name=some none) (hl:lookIn name od=some (some v)) (hv:handedIn v=true) (hq:Q v ⟨h,g,d,t+1,os⟩) :
  wpAny (model prog w) A (getAttr (.ref a) name expr) Q E ⟨h,g,d,t,os⟩:=by
 have L0:=I.type (M:=model prog w);have L1:=looks_findIn (M:=model prog w) X F0.ga;have L2:=looks_findIn (M:=model prog w) X F0.na;have bnd:=PySem.F.attrBase_ValueError.ga.bind (.ref a)
 have hne:(onTheHeap (Value.ref C)&&Value.builtin "BaseException.__getattribute__" == Value.builtin "object.__getattribute__")=false:=by rw [show (Value.builtin "BaseException.__getattribute__" == Value.builtin "object.__getattribute__")=false by decide +kernel,Bool.and_false]
 have hf:=findObj_own (od:=od) (v:=v) hh hn rfl hl;unfold getAttr getAttrBy;refine za (wpAny_mkText (zF ?_));refine za (L0.at ?_);refine za (L1.at ?_);dsimp only;rw [if_neg (by rw [hne]; exact zg)];unfold getAttrByItsOwn;refine za ?_;unfold hookBefore;rw [if_pos (show onTheHeap (Value.ref C)=true from rfl)];refine L2.at ?_;refine za (wpAny_attempt (zF ?_));unfold callGetattribute;rw [if_neg (by cases expr <;> decide)];unfold boundAndCalled;refine za (zR bnd ?_);refine zM (codeAny_call_builtin PySem.F.attrBase_ValueError.ga.plain PySem.F.entry_bexc_ga (Qj1 F0 X I.at_ I.cls (QqN X I hf ?_)));show wpAny (model prog w) A (handedOut v) _ _ _
 exact handed_on hv hq
end
section
variable {X:Cx}{md:List Md}{P:Pt}{R:RR}
theorem QjU:QiT X (.builtin "isinstance") (fun xs H Q=>∃(a C:Addr) (oe:Obj) (u:HO) (b:Bool),H a=some (.frz oe u)∧oe.cls = .ref C∧QcG X.K C∧Q (.bl b) H ∧
  ((∃v c,xs = [.ref a,v]∧QmW v=some c∧kitOne X.K (.ref C) c=some b)∨∃tp ys cs,xs = [.ref a,.ref tp]∧H tp=some (.tup ys)∧Qig ys=some cs∧kitAny X.K (.ref C) cs=some b)):=by
 intro pins s σ H xs us Q I r h;obtain ⟨ea,C,oe,u,b,he0,hc,F0,q,h⟩:=h;have he:s.heap.get? ea=some oe:=(I.hok ea _ he0).1
 have nb:Value.ref ea≠.builtin "__main__.__loader__#opaque":=fun z=>nomatch z
 rcases h with ⟨v,c,rfl,ev,ek⟩ | ⟨tp,ys,cs,rfl,et,ev,ek⟩
 ·obtain ⟨u1,u2,rfl,r1,r2⟩:=vals2 r;cases r1;rw [Qls r2 ev]
  exact kia_one (Qlj F0) I.kIn ⟨oe,he,hc⟩ ek nb fun tk=>⟨.bl b,H,I.tok tk,rfl,q⟩
 ·obtain ⟨u1,u2,rfl,r1,r2⟩:=vals2 r;cases r1;cases r2;obtain ⟨_,its,rv,ot,ho,hcl,n,hda⟩:=I.hok tp _ et;have ei:=Qj2 rv ev;subst ei;obtain ⟨c0,d0,da0,sl0⟩:=ot;dsimp only at hcl hda;subst hcl hda
  exact kia_tup (Qlj F0) I.kIn ⟨oe,he,hc⟩ ho ek nb fun tk=>⟨.bl b,H,I.tok tk,rfl,q⟩
def Qei (tb:List (Str×Bool)) (mo:M D):M D:=fun ρ O=>(mo ρ O).bind fun d O1=>match d with
 | .ob n=>match O1[n]? with
  | some (.xc c _)=>match tb.lookup c with
   | some b=>.ok (.bl b) O1
   | none=>.no
  | _=>.no
 | _=>.no
theorem Qnn {tb:List (Str×Bool)}{mo:M D}{ρ:Qak}{O O':Qab}{d:D} (e:Qei tb mo ρ O = .ok d O'):∃n c fs b,mo ρ O = .ok (.ob n) O'∧O'[n]? = some (.xc c fs)∧tb.lookup c=some b∧d = .bl b:=by
 obtain ⟨x,O1,e1,e⟩:=Res.bind_ok e
 cases x with
 | ob n =>
  dsimp only at e;split at e
  ·rename_i c fs eo;split at e
   ·rename_i b eb;cases e;exact ⟨n,c,fs,b,e1,eo,eb,rfl⟩
   ·cases e
  ·cases e
 | _=>cases e
def ISN (K:Frag) (mg:Str→Option Value) (T c:Str) (b:Bool):Prop:=∃C A,mg c=some (.ref C)∧QcG K C∧mg T=some (.ref A)∧kitOne K (.ref C) (.ref A)=some b
def ISV (K:Frag) (mg:Str→Option Value) (c:Str):Prop:=∃C,mg c=some (.ref C)∧QcG K C∧kitOne K (.ref C) (.type "ValueError")=some true
def Qlh (K:Frag) (mg:Str→Option Value) (ns:List Str) (c:Str) (b:Bool):Prop:=∃C as,mg c=some (.ref C)∧QcG K C∧Qex mg ns as∧kitAny K (.ref C) (as.map Value.ref)=some b
theorem Qex.det {mg:Str→Option Value}:∀{ns:List Str}{as bs:List Addr},Qex mg ns as→Qex mg ns bs→as=bs
 | [],as,bs,h,h'=>by
  have e:as = []:=h;have e':bs = []:=h';rw [e,e']
 | n::ns,as,bs,h,h'=>by
  obtain ⟨a,r,rfl,h1,h2⟩:=h;obtain ⟨b,r',rfl,h3,h4⟩:=h';rw [h1] at h3;cases h3;rw [h2.det h4]
theorem QjP:∀{es:List Expr}{vs:List V},Qgp X es vs→PA X es (fun _ H Q=>Q vs H)
 | [],vs,h=>by
  have h':vs = []:=h;subst h';exact Qcg
 | e::es,vs,h=>by
  obtain ⟨v,r,rfl,h1,h2,h3⟩:=h;exact QbB (h1 X rfl rfl) (QjP h3) h2
theorem Qnt {o eT:Expr}{p pos:Pos}{v:V}{cv:Value}{mo:M D}{tb:List (Str×Bool)} (hm:X.mg "isinstance" = none) (ho:VE X md P o mo) (hT:PE X eT (tC v)) (hv:QmW v=some cv)
  (hE:∀c b,tb.lookup c=some b→∃C,X.mg c=some (.ref C)∧QcG X.K C∧kitOne X.K (.ref C) cv=some b) (hg:Gl X "isinstance":=by rfl)
  (hs1:starEach [o,eT] X.env=(false,eval o X.env)::starEach [eT] X.env:=by exact Qa1 rfl) (hs2:starEach [eT] X.env=(false,eval eT X.env)::starEach [] X.env:=by exact Qa1 rfl) (hpl:(backTo pos (starEach [eT] X.env)).any (·.1)=false:=by exact Qa5 rfl) :
  VE X md P (.Call (.Name "isinstance" p) [o,eT] [] pos) (Qei tb mo) :=
 (QgQ QjU hg hm (by decide +kernel) (QbB ho (QbB hT Qcg hs2) hs1) (by decide) (by decide) hs1 hpl).imp fun σ H Q q=>by
  obtain ⟨ρ,O,F,as,d,O',r,s,e,k⟩:=q;obtain ⟨n,c,fs,b,e1,e2,e3,rfl⟩:=Qnn e;refine ⟨ρ,O,F,as,.ob n,O',r,s,e1,fun v1 H1 F1 as1 g1 r1 hv1=>?_⟩;obtain ⟨a,rfl,ha⟩:=Rp.unO hv1;obtain ⟨C,oe,u,hC,hH,hoc,_,_⟩:=r1.ob n a _ ha e2;obtain ⟨C',hC',F0,kk⟩:=hE c b e3;rw [hC] at hC';cases hC';exact ⟨a,C,oe,u,b,hH,hoc,F0,k _ H1 F1 as1 g1 r1 Rp.bl,.inl ⟨v,cv,rfl,hv,kk⟩⟩
theorem QoO {o:Expr}{T:Str}{p p1 pos:Pos}{mo:M D}{tb:List (Str×Bool)} (hm:X.mg "isinstance" = none) (hT:∃A,X.mg T=some (.ref A)) (ho:VE X md P o mo)
  (hE:∀c b,tb.lookup c=some b→ISN X.K X.mg T c b) (hg:Gl X "isinstance":=by rfl) (hgT:Gl X T:=by rfl) (hd:(T == ("__debug__":Str))=false:=by decide)
  (hs1:starEach [o,.Name T p1] X.env=(false,eval o X.env)::starEach [.Name T p1] X.env:=by exact Qa1 rfl) (hs2:starEach [.Name T p1] X.env=(false,eval (.Name T p1) X.env)::starEach [] X.env:=by exact Qa1 rfl) (hpl:(backTo pos (starEach [.Name T p1] X.env)).any (·.1)=false:=by exact Qa5 rfl) :
  VE X md P (.Call (.Name "isinstance" p) [o,.Name T p1] [] pos) (Qei tb mo):=by
 obtain ⟨A,hA⟩:=hT;refine Qnt (v:=.ref A) (cv:=.ref A) hm ho (QjE hgT hA rfl hd) rfl (fun c b e=>?_) hg hs1 hs2 hpl;obtain ⟨C,A',h1,h2,h3,h4⟩:=hE c b e;rw [hA] at h3;cases h3;exact ⟨C,h1,h2,h4⟩
theorem Qsy {o:Expr}{p p1 pos:Pos}{mo:M D}{tb:List (Str×Bool)} (hm:X.mg "isinstance" = none) (hT:X.mg "ValueError" = none) (ho:VE X md P o mo)
  (hE:∀c b,tb.lookup c=some b→b=true∧ISV X.K X.mg c) (hg:Gl X "isinstance":=by rfl) (hgT:Gl X "ValueError":=by rfl)
  (hs1:starEach [o,.Name "ValueError" p1] X.env=(false,eval o X.env)::starEach [.Name "ValueError" p1] X.env:=by exact Qa1 rfl) (hs2:starEach [.Name "ValueError" p1] X.env=(false,eval (.Name "ValueError" p1) X.env)::starEach [] X.env:=by exact Qa1 rfl) (hpl:(backTo pos (starEach [.Name "ValueError" p1] X.env)).any (·.1)=false:=by exact Qa5 rfl) :
  VE X md P (.Call (.Name "isinstance" p) [o,.Name "ValueError" p1] [] pos) (Qei tb mo):=by
 refine Qnt (v:=.ty "ValueError") (cv:=.type "ValueError") hm ho (QlZ hgT hT (by decide +kernel) rfl) rfl (fun c b e=>?_) hg hs1 hs2 hpl;obtain ⟨rfl,C,h1,h2,h3⟩:=hE c b e;exact ⟨C,h1,h2,h3⟩
theorem Qs2 {o:Expr}{ns:List Str}{es:List Expr}{x1:Nat}{p p1 pos:Pos}{mo:M D}{tb:List (Str×Bool)} (hm:X.mg "isinstance" = none) (hT:∃as,Qex X.mg ns as) (hNV:∀as,Qex X.mg ns as→Qgp X es (as.map V.ref)) (ho:VE X md P o mo)
  (hE:∀c b,tb.lookup c=some b→Qlh X.K X.mg ns c b) (hns:ns.length≤1000:=by decide) (hg:Gl X "isinstance":=by rfl)
  (hs1:starEach [o,.Tuple es x1 p1] X.env=(false,eval o X.env)::starEach [.Tuple es x1 p1] X.env:=by exact Qa1 rfl) (hs2:starEach [.Tuple es x1 p1] X.env=(false,eval (.Tuple es x1 p1) X.env)::starEach [] X.env:=by exact Qa1 rfl) (hpl:(backTo pos (starEach [.Tuple es x1 p1] X.env)).any (·.1)=false:=by exact Qa5 rfl) :
  VE X md P (.Call (.Name "isinstance" p) [o,.Tuple es x1 p1] [] pos) (Qei tb mo):=by
 obtain ⟨la,hla⟩:=hT
 refine (QgQ QjU hg hm (by decide +kernel) (QbB ho (QbB (Qnm (QjP (hNV la hla))) Qcg hs2) hs1) (by decide) (by decide) hs1 hpl).imp fun σ H Q q=>?_
 obtain ⟨ρ,O,F,as,d,O',r,s,e,k⟩:=q;obtain ⟨n,c,fs,b,e1,e2,e3,rfl⟩:=Qnn e;refine ⟨ρ,O,F,as,.ob n,O',r,s,e1,fun v1 H1 F1 as1 g1 r1 hv1=>?_⟩;obtain ⟨a,rfl,ha⟩:=Rp.unO hv1;obtain ⟨C,oe,u,hC,hH,hoc,_,_⟩:=r1.ob n a _ ha e2;obtain ⟨C',la',hC',F0,hla',kk⟩:=hE c b e3;rw [hC] at hC';cases hC';rw [hla'.det hla] at kk;have hsz:sizeLine=16777216:=sizeLine_eq;refine ⟨by rw [zI,hla.len]; omega,fun tp htp=>?_⟩;refine ⟨a,C,oe,u,b,by rw [Qan (Qay hH htp)]; exact hH,hoc,F0,k _ _ F1 as1 (g1.trans (Gr.lay htp)) (r1.lay htp) Rp.bl,.inr ⟨tp,la.map V.ref,la.map Value.ref,rfl,QaD,Qjm la,kk⟩⟩
def Qcj (f:Str) (L:List Str) (mo:M D):M D:=fun ρ O=>(mo ρ O).bind fun d O1=>match d with
 | .ob n=>match O1[n]? with
  | some (.xc c fs)=>if L.contains c=true then (match fs.lookup f with
   | some d=>.ok d O1
   | none=>.no) else .no
  | _=>.no
 | _=>.no
def XFC (K:Frag) (mg:Str→Option Value) (f c:Str):Prop:=∃C,mg c=some (.ref C)∧QcG K C∧findIn K (.ref C) f=some none∧hasDictIn K C=true
theorem FsR.at {K:Frag}{F:Hp}{as:List Addr}{f:Str}{d:D}:∀{fs:List (Str×D)}{gs:List (Str×V)},FsR K F as gs fs→fs.lookup f=some d→∃v,gs.lookup f=some v∧Rp K F as v d
 | [],gs,h,e=>by cases e
 | (g,y)::fs,gs,h,e=>by
  obtain ⟨h1,h2⟩:=h
  cases gs with
  | nil=>cases h1
  | cons p gs =>
   obtain ⟨g',x⟩:=p;have hg:g'=g:=(List.cons.inj h1).1;subst hg;obtain ⟨x',r,ex,hx,hr⟩:=Rps.un h2;cases ex
   by_cases hf:(f == g')=true
   ·have e':some y=some d:=by
     simp only [List.lookup,hf] at e;exact e
    cases e';exact ⟨x,by simp only [List.lookup,hf],hx⟩
   ·have hf':(f == g')=false:=by simpa using hf
    have e':fs.lookup f=some d:=by
     simp only [List.lookup,hf'] at e;exact e
    obtain ⟨v,q1,q2⟩:=FsR.at (fs:=fs) (gs:=gs) ⟨(List.cons.inj h1).2,hr⟩ e';exact ⟨v,by simp only [List.lookup,hf']; exact q1,q2⟩
theorem QdT {o:Expr}{f:Str}{pos:Pos}{L:List Str}{mo:M D} (ho:VE X md P o mo) (hL:∀c∈L,XFC X.K X.mg f c) (hb:attributeBase o f X.env (eval o X.env)=eval o X.env:=by rfl):VE X md P (.Attribute o f pos) (Qcj f L mo):=by
 intro pins s σ H Q I q;obtain ⟨ρ,O,F,as,d,O',r,sl,e,k⟩:=q;obtain ⟨x,O1,e1,e⟩:=Res.bind_ok e
 cases x with
 | ob n =>
  dsimp only at e;split at e
  ·rename_i c fs eo;split at e
   ·rename_i hc;split at e
    ·rename_i d' el;cases e;refine QlX hb (thn (ho pins s σ H (fun v H1=>∃F1 as1,Gr H F as H1 F1 as1∧RlO X.K X.mg O' H1 F1 as1∧Rp X.K F1 as1 v (.ob n)) I ⟨ρ,O,F,as,.ob n,O',r,sl,e1,fun v H1 F1 as1 g1 r1 hv=>⟨F1,as1,g1,r1,hv⟩⟩) fun u s1 z=>?_);obtain ⟨v,H1,I1,rv,F1,as1,g1,r1,hv⟩:=z;obtain ⟨a,rfl,ha⟩:=Rp.unO hv;obtain rfl:u=Value.ref a:=rv;obtain ⟨C,oe,uu,hC,hH,hoc,⟨ws,hda⟩,hx⟩:=r1.ob n a _ ha eo;obtain ⟨C',hC',F0,hn,hh⟩:=hL c (List.contains_iff_mem.mp hc);rw [hC] at hC';cases hC'
     rcases hx with hx | ⟨dx,od,gs,hdx,hF,hfs⟩
     ·rw [hx] at el; cases el
     ·obtain ⟨w1,hw,hrp⟩:=hfs.at el;have hHd:=r1.fh _ _ hF;have hoe:s1.heap.get? a=some oe:=(I1.hok a _ hH).1;obtain ⟨hod,mA,hns,hrel⟩:=I1.hok dx _ hHd;obtain ⟨u1,hu1,ru1⟩:=Qc4.some_of (v:=w1) (o:=mA f) (by rw [←hw]; exact hrel f);obtain ⟨od',ho',hl⟩:=QjR hns;have hia:InstAt s1.heap a oe C (some od'):=⟨hoe,hoc,by unfold notCls; rw [hda],by rw [hdx]; exact ho'⟩;obtain ⟨hh1,gg,dr,tk,os⟩:=s1;exact QrW F0 I1.kIn hia hh hn (by rw [hl,hu1]) (Qj7 ru1) ⟨w1,H1,I1.tok (tk+1),ru1,k w1 H1 F1 as1 g1 r1 hrp⟩
    ·cases e
   ·cases e
  ·cases e
 | _=>cases e
end
end L2
namespace L2
open PySem PySem.Spec PyProof.Rows PySem.W
def Qec (A:Around):Around:={ A with handled:=none }
def Cx.loud (X:Cx):Cx:={ X with calm:=false,xe:=fun _ _=>False }
theorem RoomH.deeper {k:Nat}{A:Around} (r:QaJ (k+1) (Qec A)) (env:Env):QaJ k (Qec (A.deeper env)):=⟨rfl,(r.deeper env).dp,(r.deeper env).un⟩
theorem QaJ.h {k:Nat}{A:Around} (r:QaJ k A):QaJ k (Qec A):=⟨rfl,r.dp,r.un⟩
theorem QaJ.inH {k:Nat}{A:Around}{e:Option Value} (r:QaJ k A):QaJ k (Qec (A.mark e)):=⟨rfl,r.dp,r.un⟩
structure Qku (P:Program) (w:World) (K:Frag) (mg:Str→Option Value) (base:Heap) (k:Nat) (f:Addr) (fd:FuncData) (ps:List Str) (sp:Sp):Prop where
 len:∀vs H Q E,sp vs H Q E→vs.length=ps.length
 run:∀(A:Around) (outer:List Env) (s:Shared) (H:Hp) (args:Args) (us:List Value) (vs:List V) (Q:VK) (E:XK),QaJ k (Qec A)→QdO P w K mg base A outer s H→BindsTo s fd args (ps.zip us)→QaC vs us→sp vs H Q E →
  codeAny (model P w) A (.call (.ref f) args) (CR CX0 outer P w H s Q E) s
theorem Qku.fn {P:Program}{w:World}{K:Frag}{mg:Str→Option Value}{base:Heap}{k:Nat}{f:Addr}{fd:FuncData}{ps:List Str}{sp:Sp} (F:Qku P w K mg base k f fd ps sp):Qby P w K mg base CX0 k f fd ps sp:=⟨F.len,fun A outer s H args us vs Q E hr=>F.run A outer s H args us vs Q E hr.h⟩
def QjH (P:Program) (w:World) (K:Frag) (mg:Str→Option Value) (base:Heap) (x:Str) (ps:List Str) (k:Nat) (sp:Sp):Prop :=
 ∃f fd,mg x=some (.ref f)∧keepIn K (.ref f)=true∧Binds K fd ps []∧Qku P w K mg base k f fd ps sp∧∃oc od osl,K.lookup f=some ⟨oc,od,.func fd,osl⟩
section
variable {Pr:Program}{w:World}{K:Frag}{mg:Str→Option Value}{base:Heap}
theorem QjH.can {x:Str}{ps:List Str}{k:Nat}{sp:Sp} (C:QjH Pr w K mg base x ps k sp):Can Pr w K mg base x ps k sp:=by
 obtain ⟨f,fd,h1,h2,h3,h4,h5⟩:=C;exact ⟨f,fd,h1,h2,h3,h4.fn,h5⟩
theorem Qpd {N:List Str}{qual:Str}{scope:Scope}{f:Addr}{cd:Value}{A:Around}{outer:List Env}{s s1:Shared}{H:Hp}{E:XK}{σ:St} (I:Inv (Qb7 CX0 Pr w K mg base N qual scope f cd (Qec A) outer s H E) [] σ H s1):Inv (Qb7 CX0 Pr w K mg base N qual scope f cd A outer s H E).loud [] σ H s1:=by
 have ok:=I.ok;exact ⟨⟨ok.mod,ok.kind,ok.glob,ok.blt,ok.above,ok.inj,ok.has,ok.cab,(fun z=>(nomatch z)),ok.frames,ok.stk,ok.exf,ok.bs,ok.bsz,ok.noex,ok.exfs,ok.funs,ok.frf⟩,I.os,I.bare,I.base,I.loc,I.cell,I.free,I.freeC,I.pin,I.hok,I.len⟩
theorem QdO.mark0 {A:Around}{outer:List Env}{s:Shared}{H:Hp} (e:QdO Pr w K mg base A outer s H):QdO Pr w K mg base (Qec A) outer s H:=⟨e.frames,e.mod,e.bs,e.bsz,e.funs,e.frf,e.hok,e.bare⟩
theorem QsE {k:Nat}{x qual:Str}{st:Stmt}{f:Addr}{fd:FuncData}{N ps:List Str}{sp:Sp} (Fn:Fun K x qual st f fd) (S:QaK N ps (Qah st)) (len:∀vs H Q E,sp vs H Q E→vs.length=ps.length)
  (hbody:∀(cdv:Value) (A:Around) (outer:List Env) (s:Shared) (H:Hp) (vs:List V) (Q:VK) (E:XK),QaJ k (Qec (A.deeper (envOfC qual (Qah st) s.heap.objs.size f cdv)))→sp vs H Q E →
   ∃t,PSs (Qb7 CX0 Pr w K mg base N qual (Qah st) f cdv A outer s H E).loud (QaP st) t∧t { nx:=fun _ H'=>Q .non H',rt:=Q } (start N vs) H):Qku Pr w K mg base (k+1) f fd ps sp:=by
 obtain ⟨oc,od,kV,doc,pmv,an,cdv,ct,osl,rfl,lk,hcd⟩:=Fn.ex;refine ⟨len,fun A outer s H args us vs Q E hr e0 hb r hsp=>?_⟩;have hl:=len _ _ _ _ hsp
 have KX:K.In s.heap:=e0.mod.kin.keeps fun b o e=>(e0.bs b o e).1
 have lim:s.heap.NoLimit:=e0.mod.nolimit.keeps fun b o e=>(e0.bs b o e).1
 have hkind:∀y∈ps.zip us,(Qah st).names.lookup y.1=some .local∨((Qah st).names.lookup y.1=some .cell∧((cellsFrom (s.heap.objs.size+1) (Qah st).names []).lookup y.1).isSome=true):=fun ⟨n,v⟩ hy=>(S.par n (List.of_mem_zip hy).1).imp id fun q=>⟨q,PySem.W.cellsFrom_some _ _ _ (.inl q)⟩
 refine codeAny_call_function (show A.depth < recursionLimit from hr.depth) (KX _ _ lk) rfl S.co S.gen rfl (PySem.W.codeRec_of KX hcd) (hb _ _ _ _ ?_)
 refine wpAny_newFunctionEnv_cells S.kind hkind fun env he s1 x=>?_
 subst he;refine ⟨lim.keeps x.toInCall.keep,codeAny_func ?_⟩;obtain ⟨t,ht,hq⟩:=hbody cdv A outer s H vs Q E (RoomH.deeper hr _) hsp;have I:=Qpd (Qkh (CX:=CX0) (E:=E) S hr.hd e0.mark0 hl r x)
 refine zm (ht [] s1 (start N vs) H _ I hq) (fun fl s' hs=>?_) fun _ _ z=>False.elim z
 cases fl with
 | ret u =>
  obtain ⟨v,σ',H',J,rv,q⟩:=hs;exact ⟨v,H',J.os,J.bare,J.base,J.hok,rv,q⟩
 | next =>
  obtain ⟨σ',H',J,q⟩:=hs;exact ⟨V.non,H',J.os,J.bare,J.base,J.hok,rfl,q⟩
 | brk=>obtain ⟨_,_,_,q⟩:=hs; exact False.elim q
 | cont=>obtain ⟨_,_,_,q⟩:=hs; exact False.elim q
theorem Qut {x:Str}{st:Stmt}{N ps:List Str}{k:Nat} (Df:Def K mg x st) (S:QaK N ps (Qah st))
  (hb:∀(kV doc pm:Value) (an:Option Addr) (cdv ct:Value) (us:List Value),us.length=ps.length→bindArgs (PySem.W.fnOf x x (Qba st) (QaP st) (Qah st) .none kV doc pm an cdv ct) ⟨us,[]⟩=pure (ps.zip us))
  (pm lm:List Md) {R:RR}{b:MS} (hR:Qca R) (hR0:∀N H F as,R N H F as .non .non) (hpl:pm.length=ps.length:=by rfl) (hl:(pm++lm).length=N.length:=by rfl) (hp:∀m∈pm,m≠.o:=by decide)
  (body:∀(f:Addr) (cdv:Value) (A:Around) (outer:List Env) (s:Shared) (H:Hp) (E:XK),QaJ k (Qec (A.deeper (envOfC x (Qah st) s.heap.objs.size f cdv)))→∀P,VSs ((Qb7 CX0 Pr w K mg base N x (Qah st) f cdv A outer s H E).loud) (pm++lm) P R (QaP st) b) :
  QjH Pr w K mg base x ps (k+1) (vSp K mg pm R (Qbc N.length b)):=by
 obtain ⟨f,fd,hm,Fn⟩:=Df;have hbi:=Fn.binds hb;have hkp:=Fn.kp
 have ok:=QsE (Pr:=Pr) (w:=w) (mg:=mg) (base:=base) (k:=k) (sp:=vSp K mg pm R (Qbc N.length b)) Fn S (fun vs H Q E h=>by
  obtain ⟨ds,O,F,as,d,O',r,a,_⟩:=h
  rw [a.len.1,hpl]) (fun cdv A outer s H vs Q E hr h=>by
  obtain ⟨ds,O,F,as,d,O',r,a,e,q⟩:=h;refine ⟨_,body f cdv A outer s H E hr (Pt.all H),?_⟩;refine ⟨_,O,F,as,r,QeH a hl hp,?_⟩;unfold Qbc at e
  cases eb:b (ds.map some++List.replicate (N.length - ds.length) none) O with
  | rt d' O2 =>
   rw [eb] at e;cases e
   exact fun v H' F' as' g r' hv=>q v H' F' as' g.gr r' (hR _ _ _ _ _ _ _ (fun c hc=>je.mp hc) hv)
  | nx ρ O2 =>
   rw [eb] at e;cases e
   exact fun σ' H' F' as' g r' _=>q _ H' F' as' g.gr r' (hR0 _ _ _ _)
  | _=>rw [eb] at e; cases e)
 obtain ⟨oc,od,kV,doc,pmv,an,cdv,ct,osl,rfl,lk,hcd⟩:=Fn.ex;exact ⟨f,_,hm,hkp,hbi,ok,oc,od,osl,lk⟩
end
section
variable {X:Cx}{md:List Md}{P:Pt}{R:RR}
theorem QpE {x:Str}{ps:List Str}{k:Nat}{e:Expr}{es:List Expr}{pm:List Md}{c:List D→Qab→Res D}{ma:M (List D)}{p pos:Pos} (hR:Qca R) (C:QjH X.prog X.w X.K X.mg X.base x ps k (vSp X.K X.mg pm R c)) (hr:QaJ k (Qec X.A)) (ha:AE X md P pm (e::es) ma) (hg:Gl X x:=by rfl) (hdb:(x == ("__debug__":Str))=false:=by decide)
  (he:starEach (e::es) X.env=(false,eval e X.env)::starEach es X.env:=by exact Qa1 rfl) (hpl:(backTo pos (starEach es X.env)).any (·.1)=false:=by exact Qa5 rfl):PE X (.Call (.Name x p) (e::es) [] pos) (tM X.K X.mg md P R (Qax c ma)):=by
 obtain ⟨fa,fd,hm,hk,hb,Fn,_⟩:=C;intro pins s σ H Q I q;refine wpAny_Call_Name_kw (Qc3 I hg hm ?_ hdb);refine PySem.W.callWith_K (h₀:=X.base) I.ok.mod.kin hk (thn (ha pos pins s σ H _ I (QjK (pm:=pm) (E:=E0) hR q)) fun us s1 z=>?_) he hpl;obtain ⟨vs,H1,J,rv,sp⟩:=z;rw [zx] at sp
 have hl:us.length=ps.length:=by rw [←rv.length]; exact Fn.len _ _ _ _ sp
 have bi:=hb s1 us J.kIn (by rw [zx]; exact hl);rw [zx] at bi;refine ⟨J.kIn,zM (codeAny_mono (Fn.run X.A X.stack s1 H1 ⟨us,[]⟩ us vs Q E0 hr J.env0 bi rv sp) fun res s' hq=>?_)⟩
 cases res with
 | error e=>exact False.elim hq
 | ok fl =>
  cases fl with
  | ret u=>exact J.after hq
  | next=>exact False.elim hq
  | brk=>exact False.elim hq
  | cont=>exact False.elim hq
end
section
variable {X:Cx}{md:List Md}{P:Pt}{R:RR}
def QmO:D→D→Option D
 | .int i,.int j=>some (.bl (decide (i=j)))
 | .str a,.str b=>some (.bl (decide (a=b)))
 | .bl a,.bl b=>some (.bl (decide (a=b)))
 | _,_=>none
theorem Qsg:OpD X (compareOp .Eq) QmO:=by
 intro pins s σ H x y v u Q I rx ry h';obtain ⟨O,F,as,dx,dy,d,r,hx,hy,e,k⟩:=h';unfold QmO at e;split at e
 ·cases e;cases (hx.rp rfl).unI;cases (hy.rp rfl).unI;refine Qid pins s σ H _ _ v u Q I rx ry ⟨rfl,?_⟩;rw [Qne];exact Qbt r k rfl Rp.bl
 ·cases e;cases (hx.rp rfl).unS;cases (hy.rp rfl).unS;refine Qid pins s σ H _ _ v u Q I rx ry ⟨rfl,?_⟩;rw [QmB];exact Qbt r k rfl Rp.bl
 ·cases e;cases (hx.rp rfl).unB;cases (hy.rp rfl).unB;refine Qid pins s σ H _ _ v u Q I rx ry ⟨rfl,?_⟩;rw [QmC];exact Qbt r k rfl Rp.bl
 ·cases e
theorem Qpt {x:Str}{ps:List Str}{k:Nat}{e:Expr}{es:List Expr}{pm:List Md}{c:List D→Qab→Res D}{ma:M (List D)}{p pos:Pos} (C:QjH X.prog X.w X.K X.mg X.base x ps k (vSp X.K X.mg pm (rV X.K) c)) (hr:QaJ k (Qec X.A)) (ha:AE X md P pm (e::es) ma) (hg:Gl X x:=by rfl) (hdb:(x == ("__debug__":Str))=false:=by decide)
  (he:starEach (e::es) X.env=(false,eval e X.env)::starEach es X.env:=by exact Qa1 rfl) (hpl:(backTo pos (starEach es X.env)).any (·.1)=false:=by exact Qa5 rfl):VE X md P (.Call (.Name x p) (e::es) [] pos) (Qax c ma):=QpE Qbe C hr ha hg hdb he hpl
theorem QhN {f:Str}{ps:List Str}{k:Nat}{a:Expr}{as:List Expr}{pm:List Md}{c:List D→Qab→Res D}{ma:M (List D)}{p1 p2:Pos} (Cn:QgP X.prog X.w X.K X.mg X.base f ps k (Qdg X.K X.mg pm (rV X.K) c)) (hr:QaJ k X.A) (ha:AE X md P pm (a::as) ma) (hg:Gl X f:=by rfl) (hfd:(f == ("__debug__":Str))=false:=by decide)
  (hs:starEach (a::as) X.env=(false,eval a X.env)::starEach as X.env:=by exact Qa1 rfl) (hpl:(backTo p2 (starEach as X.env)).any (·.1)=false:=by exact Qa5 rfl):VEF X md P (rV X.K) (.Call (.Name f p1) (a::as) [] p2) (QcW c ma):=Qpc Qbe Cn hr ha hg hfd hs hpl
end
theorem QiS {P:Str→Bool→Prop}:∀c b,([]:List (Str×Bool)).lookup c=some b→P c b:=fun _ _ e=>nomatch e
theorem Qdp {P:Str→Bool→Prop}{c:Str}{b:Bool}{tb:List (Str×Bool)} (h:P c b) (t:∀c b,tb.lookup c=some b→P c b):∀c' b',((c,b)::tb).lookup c'=some b'→P c' b':=fun c' b' e=>by
 by_cases hc:(c' == c)=true
 ·have e':some b=some b':=by
   simp only [List.lookup,hc] at e;exact e
  cases e';rw [beq_iff_eq.mp hc];exact h
 ·have hf:(c' == c)=false:=by simpa using hc
  refine t c' b' ?_;simp only [List.lookup,hf] at e;exact e
theorem QdD {P:Str→Prop}:∀c∈([]:List Str),P c:=fun _ e=>nomatch e
theorem Qdo {P:Str→Prop}{c:Str}{l:List Str} (h:P c) (t:∀c∈l,P c):∀c'∈c::l,P c':=fun c' e=>by
 rcases zj.mp e with rfl | e
 ·exact h
 ·exact t c' e
theorem ISN.nm {K:Frag}{mg:Str→Option Value}{T c:Str}{b:Bool} (h:ISN K mg T c b):∃A,mg T=some (.ref A):=let ⟨_,A,_,_,e,_⟩:=h; ⟨A,e⟩
theorem Qlh.nm {K:Frag}{mg:Str→Option Value}{ns:List Str}{c:Str}{b:Bool} (h:Qlh K mg ns c b):∃as,Qex mg ns as:=let ⟨_,as,_,_,e,_⟩:=h; ⟨as,e⟩
theorem ISV.tb {K:Frag}{mg:Str→Option Value}{c:Str} (h:ISV K mg c):true=true∧ISV K mg c:=⟨rfl,h⟩
def Qef (K:Frag) (mg:Str→Option Value) (c name qual:Str) (st:Stmt):Prop:=∃C fI fd,mg c=some (.ref C)∧QkF K C fI name∧isFn K (.ref fI)=true∧Fun K "__init__" qual st fI fd
theorem Qef.can {Pr:Program}{w:World}{K:Frag}{mg:Str→Option Value}{base:Heap}{c name qual sf pn:Str}{st:Stmt}{p1 p2 p3 p4:Pos} (h:Qef K mg c name qual st) (S:QaK [sf,pn] [sf,pn] (Qah st))
  (hb:∀(kV doc pm:Value) (an:Option Addr) (cdv ct:Value) (us:List Value),us.length = [sf,pn].length→bindArgs (PySem.W.fnOf "__init__" qual (Qba st) (QaP st) (Qah st) .none kV doc pm an cdv ct) ⟨us,[]⟩=pure ([sf,pn].zip us))
  (hbo:QaP st = [.Assign [.Attribute (.Name sf p1) name p2] (.Name pn p3) p4]) (v0:Vis (Qah st) sf) (v1:Vis (Qah st) pn) (hs:∀L f cdv,swapsWith (.Name pn p3) (some (.Attribute (.Name sf p1) name p2)) p4.line (envOfC qual (Qah st) L f cdv)=pure false)
  (d0:(sf == ("__debug__":Str))=false:=by decide) (d1:(pn == ("__debug__":Str))=false:=by decide) (c0:(sf == ("__classdict__":Str))=false:=by decide) (c1:(pn == ("__classdict__":Str))=false:=by decide):Qde Pr w K mg base c name 1:=by
 obtain ⟨C,fI,fd,h1,h2,h3,h4⟩:=h;exact QtY h1 h2 h3 h4 S hb hbo v0 v1 d0 d1 c0 c1 hs
section
variable {X:Cx}{md:List Md}{P:Pt}{R:RR}
def Qu1:V→List V→Hp→VK→Prop:=fun x vs H Q=>∃(l n:List Nat) (i:Nat) (r:List Nat),x = .str (S l)∧vs = [.str (S n)]∧Builtin.Str.occurrences (S l) (S n) 0 (S l).length 1=i::r∧Q (.int (i:Int)) H
theorem QpA:MtR X "str.index" Qu1:=by
 intro pins s σ H x xs v us Q I rx rs h;obtain ⟨l,n,i,r,rfl,rfl,ho,q⟩:=h;obtain ⟨a,rfl⟩:=rx;obtain ⟨u,rfl,ru⟩:=vals1 rs;obtain ⟨b,rfl⟩:=ru;exact SC.index ho ⟨.int _,H,I.tok _,⟨_,rfl⟩,q⟩
def Qgt (mo m:M D):M D:=fun ρ O=>(mo ρ O).bind fun a O1=>(m ρ O1).bind fun b O2=>match a,b with
 | .str l,.str n=>match Builtin.Str.occurrences (S l) (S n) 0 (S l).length 1 with
  | i::_=>.ok (.int (i:Int)) O2
  | []=>.no
 | _,_=>.no
theorem QpM {o e:Expr}{apos cpos:Pos}{mo m:M D} (ho:VE X md P o mo) (h:VE X md P e m)
  (hbase:attributeBase o "index" X.env (eval o X.env)=eval o X.env:=by rfl) (hfew:((backTo cpos (starEach [e] X.env)).all (fun x=>!x.1)&&(backToKw cpos (keywordEach [] X.env)).all (fun x=>x.1.isSome)&&decide ([e].length+([]:List Keyword).length+(if ([]:List Keyword).isEmpty then 0 else 1) < 30))=true:=by rfl)
  (hline:(apos.endLine == cpos.line)=true:=by rfl) (hs:starEach [e] X.env=(false,eval e X.env)::starEach [] X.env:=by exact Qa1 rfl) (hplain:(backTo cpos (starEach [] X.env)).any (·.1)=false:=by exact Qa5 rfl) :
  OE X md P (.Call (.Attribute o "index" apos) [e] [] cpos) (Qgt mo m) :=
 (Qi0 PySem.F.plainAttrs_str PySem.F.slot_str_index PySem.F.type_str_index QpA ho (QbB h Qcg hs) hbase hfew hline hs hplain).imp fun σ H Q q=>by
  obtain ⟨ρ,O,F,as,d,O',r,s,e,k⟩:=q;obtain ⟨a,O1,e1,e⟩:=Res.bind_ok e;obtain ⟨b,O2,e2,e⟩:=Res.bind_ok e;split at e
  ·rename_i l n;split at e
   ·rename_i i r0 eo;cases e;refine ⟨ρ,_,F,as,_,_,r,s,e1,fun v H1 F1 as1 g1 r1 hv=>?_⟩;cases Rp.unS hv;refine ⟨rfl,ρ,_,F1,as1,_,_,r1,s.step g1,e2,fun u H2 F2 as2 g2 r2 hu=>?_⟩;cases Rp.unS hu;exact ⟨_,_,_,_,rfl,rfl,eo,k _ H2 F2 as2 (g1.trans g2) r2 (.inl ⟨rfl,Rp.int⟩)⟩
   ·cases e
  ·cases e
def KPC (K:Frag) (mg:Str→Option Value) (c:Str):Prop:=∃C,mg c=some (.ref C)∧keepIn K (.ref C)=true
def QcB (c name:Str) (m:M D):M D:=fun ρ O=>(m ρ O).bind fun d O1=>.ok (.ob O1.length) (O1 ++ [.xc c [(name,d)]])
theorem QeP {c name:Str}{k:Nat}{p cpos:Pos}{a:Expr}{m:M D} (Cn:Qde X.prog X.w X.K X.mg X.base c name k) (hK:KPC X.K X.mg c) (hr:QaJ (k+1) X.A) (ha:VE X md P a m) (hg:Gl X c:=by rfl) (hd:(c == ("__debug__":Str))=false:=by decide)
  (hs1:starEach [a] X.env=(false,eval a X.env)::starEach [] X.env:=by exact Qa1 rfl) (hpl:(backTo cpos (starEach [] X.env)).any (·.1)=false:=by exact Qa5 rfl) :
  VE X md P (.Call (.Name c p) [a] [] cpos) (QcB c name m):=by
 intro pins s σ H Q I q;obtain ⟨ρ,O,F,as,dd0,O'',r,sl,em0,k0⟩:=q;obtain ⟨d,O',em,e'⟩:=Res.bind_ok em0;cases e';obtain ⟨C,fI,fd,ps,hC,Z,hf,hb,Fn⟩:=Cn;obtain ⟨C',hC',hkp⟩:=hK;rw [hC] at hC';cases hC';obtain ⟨bm,N,nm,qn,bs,sn,sub,ab,col,dd,kk0,kk1,kk2,kk3,kk5,lk,ht,hno,hin⟩:=QiE Z.cl;refine wpAny_Call_Name_kw (Qc3 I hg hC ?_ hd);refine PySem.W.callWith_K (h₀:=X.base) I.ok.mod.kin hkp (thn (QbB ha Qcg hs1 cpos pins s σ H (fun vs H1=>∃v F1 as1,vs = [v]∧Gr H F as H1 F1 as1∧RlO X.K X.mg O' H1 F1 as1∧Rp X.K F1 as1 v d) I ⟨ρ,O,F,as,d,O',r,sl,em,fun v H1 F1 as1 g1 r1 hv=>⟨v,F1,as1,rfl,g1,r1,hv⟩⟩) fun us s1 z=>?_) hs1 hpl
 obtain ⟨vs,H1,I1,rv,v,F1,as1,rfl,g1,r1,hv⟩:=z;obtain ⟨u,rfl,ru⟩:=vals1 rv;refine ⟨I1.kIn,?_⟩;have hfr:H1 (s1.heap.objs.size+1)=none:=I1.hok.fresh (Nat.le_succ _)
 have kp:∀b o,s1.heap.get? b=some o→(QdL s1.heap C [u]).get? b=some o:=fun b o e=>zh _ (zh _ e)
 have hge:(QdL s1.heap C [u]).get? (s1.heap.objs.size+1)=some (Qdf C s1.heap.objs.size none):=by
  unfold QdL Qdf;exact Heap.get?_push_at (by rw [Heap.size_push]) rfl
 have I2:Inv X pins σ (upd H1 (s1.heap.objs.size+1) (xoK C s1.heap.objs.size (s1.heap.objs.size+1) none)) { s1 with heap:=QdL s1.heap C [u] }:=I1.laid (t':=s1.toks) kp (Nat.le_succ _) (QkU hge);have hns:s1.heap.Ns N _:=.of_isNs (isNs_of_in I1.kIn hno)
 obtain ⟨oI,hoI,hoc⟩:∃oI,s1.heap.get? fI=some oI∧oI.cls = .type "function":=by
  obtain ⟨o,ho,hc'⟩:=jh.mp (show (X.K.lookup fI).map (·.cls)=some (.type "function") from beq_iff_eq.mp hf);exact ⟨o,I1.kIn _ _ ho,hc'⟩
 have hout:∀b o,s1.heap.get? b=some o→b≠s1.heap.objs.size+1:=fun b o e z=>by
  have:=zd e
  rw [z] at this;exact absurd this (Nat.not_lt.mpr (Nat.le_succ _))
 have hloc:s1.heap.objs.size+1≠X.env.locals:=by
  obtain ⟨mL,⟨oL,_,_,eL,_⟩,_⟩:=I1.loc;exact (hout _ _ eL).symm
 have hpin:∀p∈X.pn++pins,p.1≠s1.heap.objs.size+1:=fun p hp=>hout _ _ (I1.pin p hp).1
 have h0:X.s₀.heap.get? (s1.heap.objs.size+1)=none:=Heap.get?_none_of_le (zt I1.sz (Nat.le_succ _));obtain ⟨hh,gg,dr,tk,os⟩:=s1;refine QiI PySem.F.excBase_ValueError (tail_of_in I1.kIn ht) (I1.kIn _ _ lk) hns (Qi6 I1.kIn hns hin) hoI hoc ?_ (by rw [sizeLine_eq]; show (1:Nat)≤16777216; decide);have sp:spI C name [.ref (hh.objs.size+1),v] (upd H1 (hh.objs.size+1) (xoK C hh.objs.size (hh.objs.size+1) none)) (fun v' H2=>v' = .non∧∃dx od,upd H1 (hh.objs.size+1) (xoK C hh.objs.size (hh.objs.size+1) none) dx=none∧dx≠hh.objs.size+1∧H2=upd (upd (upd H1 (hh.objs.size+1) (xoK C hh.objs.size (hh.objs.size+1) none)) dx (.frz od (.xd [(name,v)]))) (hh.objs.size+1) (xoK C hh.objs.size (hh.objs.size+1) (some dx))) (fun _ _ _=>False) :=
  ⟨_,_,v,rfl,QaD,fun dx od n1 n2=>⟨rfl,dx,od,n1,n2,rfl⟩⟩
 have hl:=Fn.len _ _ _ _ sp;have bi:=hb { heap:=QdL hh C [u],gens:=gg,drawn:=dr,toks:=tk,os:=os } [.ref (hh.objs.size+1),u] I2.kIn hl;rw [zx] at bi;refine zM (codeAny_mono (Fn.run _ X.stack _ _ ⟨[.ref (hh.objs.size+1),u],[]⟩ [.ref (hh.objs.size+1),u] [.ref (hh.objs.size+1),v] _ _ (hr.make C [u] []) (I2.env0.make C [u] []) bi (.cons rfl (.cons ru .nil)) sp) fun res s2 hq=>?_)
 cases res with
 | error e=>exact False.elim hq
 | ok fl =>
  cases fl with
  | ret u' =>
   obtain ⟨v',H2,I3,rv',rfl,dx,od,n1,n2,rfl⟩:=I2.after hq;refine ⟨rv',?_⟩;have hx:=QkM (I3.hok (hh.objs.size+1) _ QaD)
   have e1:H1 dx=none:=by rw [Qan n2] at n1; exact n1
   have nea:upd H1 dx (HO.frz od (.xd [(name,v)])) (hh.objs.size+1)=none:=by rw [Qan n2.symm]; exact hfr
   have I4:Inv X pins σ (upd H1 dx (.frz od (.xd [(name,v)]))) s2:=I3.dropH (ea:=hh.objs.size+1) QaD (fun b hb=>by
    rw [Qan hb];unfold upd
    rw [if_neg hb]) nea
   have I5:=I4.trackX hx rfl nea h0 hloc hpin;have fN:F1 dx=none:=r1.frF e1;have g2:Gr H1 F1 as1 (upd H1 dx (.frz od (.xd [(name,v)]))) (upd F1 dx (.frz od (.xd [(name,v)]))) as1:=(Gr.lay e1).frz e1 fN;have r2:RlO X.K X.mg O' (upd H1 dx (.frz od (.xd [(name,v)]))) (upd F1 dx (.frz od (.xd [(name,v)]))) as1:=(r1.lay e1).frz QaD fN (fun z=>r1.all z e1) rfl;obtain ⟨r3,g3⟩:=r2.xc (oe:=Qdf C hh.objs.size (some dx)) (fs:=[(name,d)]) nea hC rfl ⟨_,rfl⟩ (.inr ⟨dx,od,[(name,v)],rfl,QaD,rfl,Rps.cons (Rp.gr hv g2) Rps.nil⟩);exact ⟨.ref (hh.objs.size+1),_,I5,rfl,k0 _ _ _ _ ((g1.trans g2).trans g3) r3 (Rp.mkO (by rw [←r2.len,zy (zc _),Nat.sub_self]; rfl))⟩
  | next=>exact False.elim hq
  | brk=>exact False.elim hq
  | cont=>exact False.elim hq
def Qer (c:Str):M D:=fun _ O=>.ok (.ob O.length) (O ++ [.xc c []])
theorem Qjb {c:Str}{v:V}{p cpos:Pos}{a:Expr} (hE:QgU X.K X.mg c) (hK:KPC X.K X.mg c) (ha:PE X a (tC v)) (hex:X.ex = []:=by rfl) (hg:Gl X c:=by rfl) (hd:(c == ("__debug__":Str))=false:=by decide)
  (hs1:starEach [a] X.env=(false,eval a X.env)::starEach [] X.env:=by exact Qa1 rfl) (hpl:(backTo cpos (starEach [] X.env)).any (·.1)=false:=by exact Qa5 rfl) :
  VE X md P (.Call (.Name c p) [a] [] cpos) (Qer c):=by
 intro pins s σ H Q I q;obtain ⟨ρ,O,F,as,d,O',r,sl,em,k0⟩:=q;cases em;obtain ⟨C,hC,hx⟩:=hE;obtain ⟨C',hC',hkp⟩:=hK;rw [hC] at hC';cases hC';obtain ⟨bm,N,nm,qn,bs,hdd,sn,sub,ab,col,dd,kk0,kk1,kk2,kk3,kk5,mN,oC,hN,hni,T⟩:=Qq6 I.ok.mod.kin hx;refine wpAny_Call_Name_kw (Qc3 I hg hC ?_ hd);refine PySem.W.callWith_K (h₀:=X.base) I.ok.mod.kin hkp (thn (QbB ha Qcg hs1 cpos pins s σ H (fun vs H1=>vs = [v]∧H1=H) I ⟨rfl,rfl⟩) fun us s1 z=>?_) hs1 hpl;obtain ⟨vs,H1,I1,rv,rfl,rfl⟩:=z;obtain ⟨u,rfl,ru⟩:=vals1 rv;refine ⟨I1.kIn,?_⟩;obtain ⟨hh,gg,dr,tk,os⟩:=s1;refine wpAny_call_exc_subT PySem.F.excBase_ValueError (T.keeps I1.bk) (I1.bk _ _ oC) (hN.keeps I1.bk) hni (fun h' ea hm=>?_) (by rw [sizeLine_eq]; show (1:Nat)≤16777216; decide)
 obtain ⟨t,htt,_,_⟩:=hm.there
 have hn:H1 ea=none:=by
  cases q:H1 ea with
  | none=>rfl
  | some u =>
   obtain ⟨o,z⟩:=(I1.hok ea u q).has;have z':hh.get? ea=some o:=z;rw [hm.new] at z';cases z'
 have hout:∀b o,hh.get? b=some o→b≠ea:=fun b o e z=>by rw [z,hm.new] at e; cases e
 have h0:X.s₀.heap.get? ea=none:=by
  cases q:X.s₀.heap.get? ea with
  | none=>rfl
  | some o =>
   obtain ⟨o',z⟩:=I1.base.there ea o q (by rw [hex]; exact fun z=>nomatch z);exact absurd rfl (hout _ _ z)
 have hloc:ea≠X.env.locals:=by
  obtain ⟨mL,⟨oL,_,_,eL,_⟩,_⟩:=I1.loc;exact (hout _ _ eL).symm
 have I2:Inv X pins σ H1 { heap:=h',gens:=gg,drawn:=dr,toks:=tk,os:=os }:=I1.un (t':=tk) (Un.kept hm.keeps) (I1.hok.kept hm.keeps)
 have I5:=I2.trackX htt rfl hn h0 hloc fun p hp=>hout _ _ (I1.pin p hp).1
 obtain ⟨r3,g3⟩:=r.xc (oe:={ cls:=.ref C,data:=.fields #[.ref t,.none,.none,.none,.bool false,.none] }) (c:=c) (fs:=[]) hn hC rfl ⟨_,rfl⟩ (.inl rfl);exact ⟨.ref ea,_,I5,rfl,k0 _ _ _ _ g3 r3 (Rp.mkO (by rw [←r.len,zy (zc _),Nat.sub_self]; rfl))⟩
end
section
variable {K:Frag}{h:Heap}{mg:Str→Option Value}
theorem mkD {x:Str}{st:Stmt}{f:Addr}{oc:Value}{od an:Option Addr}{sl:Array (Option Value)}{kV dc pm cd ct:Value} (X:K.In h) (G:h.Ns mainGlobals mg) (a:nsIn K mainGlobals x=some (some (.ref f))) (l:K.lookup f=some ⟨oc,od,.func (fnOf x x (Qba st) (QaP st) (Qah st) .none kV dc pm an cd ct),sl⟩) (c:codeIn K cd x=true) (k:keepIn K (.ref f)=true):Def K mg x st:=⟨_,_,mg_of X G a,Qd6 l c k⟩
structure ClsAt (K:Frag) (c:Str) (A:Addr):Prop where
 ns:nsIn K mainGlobals c=some (some (.ref A))
 pg:plainGet K A Str.empty=true
 hd:hasDictIn K A=true
 po:plainOver K A=true
 sa:findIn K (.ref A) "__setattr__" = some (some (.builtin "object.__setattr__"))
 mks:makesIn K A=true
 kc:keepIn K (.ref A)=true
def MethAt (K:Frag) (A:Addr) (m qual:Str) (st:Stmt):Prop:=∃f fd,findIn K (.ref A) m=some (some (.ref f))∧isFn K (.ref f)=true∧keepIn K (.ref f)=true∧Fun K m qual st f fd
theorem mkM {A:Addr}{m qual:Str}{st:Stmt}{f:Addr}{oc:Value}{od an:Option Addr}{sl:Array (Option Value)}{kV dc pm cd ct:Value} (a:findIn K (.ref A) m=some (some (.ref f))) (i:isFn K (.ref f)=true) (l:K.lookup f=some ⟨oc,od,.func (fnOf m qual (Qba st) (QaP st) (Qah st) .none kV dc pm an cd ct),sl⟩) (c:codeIn K cd qual=true) (k:keepIn K (.ref f)=true):MethAt K A m qual st:=⟨_,_,a,i,k,Qd6 l c k⟩
variable {A:Addr}{c:Str}
theorem ClsAt.cl (z:ClsAt K c A):Cls K A:=⟨z.pg,z.hd,z.po,z.sa⟩
theorem ClsAt.dm (z:ClsAt K c A) (X:K.In h) (G:h.Ns mainGlobals mg) {m qual:Str}{st:Stmt} (q:MethAt K A m qual st):QiG K mg c m qual st:=by
 obtain ⟨f,fd,a,i,k,fu⟩:=q;exact ⟨_,_,_,mg_of X G z.ns,z.cl,⟨a,i,k⟩,fu⟩
theorem ClsAt.dc (z:ClsAt K c A) (X:K.In h) (G:h.Ns mainGlobals mg) {qual:Str}{st:Stmt} (q:MethAt K A "__init__" qual st):QoY K mg c qual st:=by
 obtain ⟨f,fd,a,i,k,fu⟩:=q;exact ⟨_,_,_,mg_of X G z.ns,⟨z.mks,a,i,z.kc⟩,fu⟩
theorem ClsAt.kf (z:ClsAt K c A) (X:K.In h) (G:h.Ns mainGlobals mg) {f:Str} (n:findIn K (.ref A) f=some none):KC K mg c f:=⟨_,mg_of X G z.ns,z.cl,n⟩
end
end L2
namespace L2
open PySem PySem.Spec PyProof.Rows
section
variable {X:Cx}
end
def ofO (o:Option D) (O:Qab):Res D:=match o with
 | some d=>.ok d O
 | none=>.no
@[simp] theorem Qep {d:D}{O:Qab}:ofO (some d) O = .ok d O:=rfl
@[simp] theorem QaI {α β:Type}{a:α}{O:Qab}{f:α→Qab→Res β}:(Res.ok a O).bind f=f a O:=rfl
@[simp] theorem QuH {O:Qab}:QaU O .non = .non:=rfl
@[simp] theorem QpI {O:Qab}{b:Bool}:QaU O (.bl b) = .bl b:=rfl
@[simp] theorem QhR {O:Qab}{b:Int}:QaU O (.int b) = .int b:=rfl
@[simp] theorem Qhm {O:Qab}{b:List Nat}:QaU O (.str b) = .str b:=rfl
@[simp] theorem QdR {O:Qab}{b:List D}:QaU O (.lst b) = .lst b:=rfl
@[simp] theorem QuD {O:Qab}{b:List D}:QaU O (.tup b) = .tup b:=rfl
@[simp] theorem QuE {O:Qab}{a b:List D}:QaU O (.dic a b) = .dic a b:=rfl
@[simp] theorem Qfh {i:Nat}{ρ:Qak}{O:Qab}:Qac i ρ O=(match ρ[i]? with | some (some d)=>.ok d O | _=>.no):=rfl
@[simp] theorem m_c {d:D}{ρ:Qak}{O:Qab}:mC d ρ O = .ok d O:=rfl
@[simp] theorem Qky {g:D→D→Option D}{a b:M D}{ρ:Qak}{O:Qab}:Qae g a b ρ O=(a ρ O).bind fun x O1=>(b ρ O1).bind fun y O2=>ofO (g (QaU O2 x) (QaU O2 y)) O2:=rfl
def gF (r:Res D):Res D:=match r with
 | .ok d O'=>if Qet d=true then .ok d O' else .no
 | r=>r
@[simp] theorem m_g {m:M D}{ρ:Qak}{O:Qab}:mG m ρ O=gF (m ρ O):=rfl
@[simp] theorem Qwp {i:Int}{O:Qab}:gF (.ok (.int i) O) = .ok (.int i) O:=rfl
@[simp] theorem Qwc {i:List Nat}{O:Qab}:gF (.ok (.str i) O) = .ok (.str i) O:=rfl
@[simp] theorem Qw1 {i:Bool}{O:Qab}:gF (.ok (.bl i) O) = .ok (.bl i) O:=rfl
@[simp] theorem Qv8 {O:Qab}:gF (.ok .non O) = .ok .non O:=rfl
@[simp] theorem Qwq {l:List D}{O:Qab}:gF (.ok (.tup l) O) = .ok (.tup l) O:=rfl
@[simp] theorem QwG {n:Nat}{O:Qab}:gF (.ok (.ob n) O) = .ok (.ob n) O:=rfl
def chF (o:Option D) (O:Qab) (f:Unit→Res D):Res D:=match o with
 | some (.bl true)=>f ()
 | some (.bl false)=>.ok (.bl false) O
 | _=>.no
@[simp] theorem QwP {b:Bool}{O:Qab}{f:Unit→Res D}:chF (some (.bl b)) O f=if b=true then f () else .ok (.bl false) O:=by cases b <;> rfl
@[simp] theorem QvX {g g':D→D→Option D}{a b c:M D}{ρ:Qak}{O:Qab}:Qhx g g' a b c ρ O=(a ρ O).bind fun x O1=>(b ρ O1).bind fun y O2=>chF (g (QaU O2 x) (QaU O2 y)) O2 fun _=>(c ρ O2).bind fun z O3=>ofO (g' (QaU O3 y) (QaU O3 z)) O3:=by
 unfold Qhx;congr 1
@[simp] theorem QwX {m:M D}{ρ:Qak}{O:Qab}:Qu3 m ρ O=(m ρ O).bind fun d O1=>.ok (.bl (isNon d)) O1:=rfl
@[simp] theorem Qwt {m:M D}{ρ:Qak}{O:Qab}:QeD m ρ O=(m ρ O).bind fun d O1=>.ok (.bl (!isNon d)) O1:=rfl
@[simp] theorem QuF:isNon .non=true:=rfl
@[simp] theorem QuM {l:List D}:isNon (.lst l)=false:=rfl
@[simp] theorem QuK {l:List D}:isNon (.tup l)=false:=rfl
@[simp] theorem QuJ {l:List Nat}:isNon (.str l)=false:=rfl
@[simp] theorem QuI {l:Int}:isNon (.int l)=false:=rfl
@[simp] theorem Qvo {l:Nat}:isNon (.ob l)=false:=rfl
def teF (d:D) (O:Qab):Res Bool:=match d with
 | .bl b=>.ok b O
 | _=>.no
@[simp] theorem Qtf {b:Bool}{O:Qab}:teF (.bl b) O = .ok b O:=rfl
@[simp] theorem Qlm {m:M D}{ρ:Qak}{O:Qab}:Qaw m ρ O=(m ρ O).bind teF:=rfl
def ofB (o:Option Bool) (O:Qab):Res Bool:=match o with
 | some d=>.ok d O
 | none=>.no
@[simp] theorem QoT {d:Bool}{O:Qab}:ofB (some d) O = .ok d O:=rfl
@[simp] theorem Qks {m:M D}{ρ:Qak}{O:Qab}:QbI m ρ O=(m ρ O).bind fun d O1=>ofB (Qjt (QaU O1 d)) O1:=rfl
@[simp] theorem Qrf {b:Bool}:Qjt (.bl b)=some b:=rfl
@[simp] theorem QuO {b:List D}:Qjt (.lst b)=some (!b.isEmpty):=rfl
@[simp] theorem Qwg {a b:M Bool}{ρ:Qak}{O:Qab}:QcS a b ρ O=(a ρ O).bind fun c O1=>if c=true then b ρ O1 else .ok false O1:=rfl
@[simp] theorem Quv {a b:M Bool}{ρ:Qak}{O:Qab}:Qck a b ρ O=(a ρ O).bind fun c O1=>if c=true then .ok true O1 else b ρ O1:=rfl
@[simp] theorem Qhp {a:M Bool}{ρ:Qak}{O:Qab}:QbF a ρ O=(a ρ O).bind fun c O1=>.ok (!c) O1:=rfl
def anF (d:D) (O:Qab) (f:Unit→Res D):Res D:=match d with
 | .bl true=>f ()
 | .bl false=>.ok (.bl false) O
 | _=>.no
def orF (d:D) (O:Qab) (f:Unit→Res D):Res D:=match d with
 | .bl true=>.ok (.bl true) O
 | .bl false=>f ()
 | _=>.no
@[simp] theorem QqE {b:Bool}{O:Qab}{f:Unit→Res D}:anF (.bl b) O f=if b=true then f () else .ok (.bl false) O:=by cases b <;> rfl
@[simp] theorem QwK {b:Bool}{O:Qab}{f:Unit→Res D}:orF (.bl b) O f=if b=true then .ok (.bl true) O else f ():=by cases b <;> rfl
@[simp] theorem QnU {a b:M D}{ρ:Qak}{O:Qab}:QcT a b ρ O=(a ρ O).bind fun d O1=>anF d O1 fun _=>b ρ O1:=by
 unfold QcT;congr 1
@[simp] theorem Qw5 {a b:M D}{ρ:Qak}{O:Qab}:Qsc a b ρ O=(a ρ O).bind fun d O1=>orF d O1 fun _=>b ρ O1:=by
 unfold Qsc;congr 1
def noF (d:D) (O:Qab):Res D:=match d with
 | .bl b=>.ok (.bl (!b)) O
 | _=>.no
@[simp] theorem QwN {b:Bool}{O:Qab}:noF (.bl b) O = .ok (.bl (!b)) O:=rfl
@[simp] theorem Qv5 {a:M D}{ρ:Qak}{O:Qab}:Qni a ρ O=(a ρ O).bind noF:=rfl
@[simp] theorem Qxt {t:M Bool}{a b:M D}{ρ:Qak}{O:Qab}:mIf t a b ρ O=(t ρ O).bind fun c O1=>if c=true then a ρ O1 else b ρ O1:=rfl
@[simp] theorem QiM {ρ:Qak}{O:Qab}:Qaf ρ O = .ok [] O:=rfl
@[simp] theorem Qgv {m:M D}{r:M (List D)}{ρ:Qak}{O:Qab}:Qaa m r ρ O=(m ρ O).bind fun d O1=>(r ρ O1).bind fun ds O2=>.ok (d::ds) O2:=rfl
@[simp] theorem QmI {r:M (List D)}{ρ:Qak}{O:Qab}:Qbx r ρ O=(r ρ O).bind fun ds O1=>if ds.length≤1000000 then .ok (.lst ds) O1 else .no:=rfl
@[simp] theorem Qw3 {r:M (List D)}{ρ:Qak}{O:Qab}:Qb8 r ρ O=(r ρ O).bind fun ds O1=>if ds.length≤1000000 then .ok (.tup ds) O1 else .no:=rfl
@[simp] theorem QiX {c:List D→Qab→Res D}{ma:M (List D)}{ρ:Qak}{O:Qab}:Qax c ma ρ O=(ma ρ O).bind fun ds O1=>c ds O1:=rfl
@[simp] theorem QqK {g:List D→Option D}{ma:M (List D)}{ρ:Qak}{O:Qab}:Qbd g ma ρ O=(ma ρ O).bind fun ds O1=>ofO (g (ds.map (QaU O1))) O1:=rfl
@[simp] theorem Qxp {g:D→Option D}{ma:M D}{ρ:Qak}{O:Qab}:mUn g ma ρ O=(ma ρ O).bind fun d O1=>ofO (g (QaU O1 d)) O1:=rfl
def isF (n:String) (o:Option String) (O:Qab):Res D:=match o with
 | some t=>.ok (.bl (Qdm t n)) O
 | none=>.no
@[simp] theorem Qvr {n t:String}{O:Qab}:isF n (some t) O = .ok (.bl (Qdm t n)) O:=rfl
@[simp] theorem QwI {n:String}{m:M D}{ρ:Qak}{O:Qab}:Qda n m ρ O=(m ρ O).bind fun d O1=>isF n (tyD (QaU O1 d)) O1:=rfl
@[simp] theorem QvG:tyD .non=some "NoneType":=rfl
@[simp] theorem QwD {b:Bool}:tyD (.bl b)=some "bool":=rfl
@[simp] theorem QvF {b:Int}:tyD (.int b)=some "int":=rfl
@[simp] theorem QvR {b:List Nat}:tyD (.str b)=some "str":=rfl
@[simp] theorem QvJ {b:List D}:tyD (.lst b)=some "list":=rfl
@[simp] theorem QvU {b:List D}:tyD (.tup b)=some "tuple":=rfl
@[simp] theorem Qv1 {a b:List D}:tyD (.dic a b)=some "dict":=rfl
@[simp] theorem Qxn {ρ:Qak}{O:Qab}:moN ρ O = .ok none O:=rfl
def osF (d:D) (O:Qab):Res (Option Int):=match d with
 | .int i=>.ok (some i) O
 | _=>.no
@[simp] theorem Qqm {i:Int}{O:Qab}:osF (.int i) O = .ok (some i) O:=rfl
@[simp] theorem Qsu {m:M D}{ρ:Qak}{O:Qab}:moS m ρ O=(m ρ O).bind osF:=rfl
@[simp] theorem QtM {m:M D}{lo hi:M (Option Int)}{ρ:Qak}{O:Qab}:mSl m lo hi ρ O=(m ρ O).bind fun d O1=>(lo ρ O1).bind fun l O2=>(hi ρ O2).bind fun h O3=>ofO (gSl (QaU O3 d) l h) O3:=rfl
@[simp] theorem Qrg {l:List Nat}{lo hi:Option Int}:gSl (.str l) lo hi=if l.length≤16777216 then some (.str (QbM l lo hi)) else none:=rfl
@[simp] theorem QqZ {l:List D}{lo hi:Option Int}:gSl (.lst l) lo hi=some (.lst (QbM l lo hi)):=rfl
@[simp] theorem QvN {l:List D}{lo hi:Option Int}:gSl (.tup l) lo hi=some (.tup (QbM l lo hi)):=rfl
def Qf8 (f:Fl) (b:MS):Fl:=match f with
 | .nx ρ' O'=>b ρ' O'
 | r=>r
@[simp] theorem Qfl {a b:MS}{ρ:Qak}{O:Qab}:Qaj a b ρ O=Qf8 (a ρ O) b:=rfl
@[simp] theorem Qif {ρ:Qak}{O:Qab}{b:MS}:Qf8 (.nx ρ O) b=b ρ O:=rfl
@[simp] theorem QrM {d:D}{O:Qab}{b:MS}:Qf8 (.rt d O) b = .rt d O:=rfl
@[simp] theorem QvL {ρ:Qak}{O:Qab}{b:MS}:Qf8 (.bk ρ O) b = .bk ρ O:=rfl
@[simp] theorem QvE {ρ:Qak}{O:Qab}{b:MS}:Qf8 (.ct ρ O) b = .ct ρ O:=rfl
@[simp] theorem QvZ {b:MS}:Qf8 .no b = .no:=rfl
@[simp] theorem Qti {ρ:Qak}{O:Qab}:Qau ρ O = .nx ρ O:=rfl
def Qk5 (r:Res D):Fl:=match r with
 | .ok d O'=>.rt d O'
 | .ex x O'=>.ex x O'
 | .no=>.no
@[simp] theorem Qjg {m:M D}{ρ:Qak}{O:Qab}:Qat m ρ O=Qk5 (m ρ O):=rfl
@[simp] theorem QvO {d:D}{O:Qab}:Qk5 (.ok d O) = .rt d O:=rfl
def Qqg (r:Res D) (ρ:Qak):Fl:=match r with
 | .ok _ O'=>.nx ρ O'
 | .ex x O'=>.ex x O'
 | .no=>.no
@[simp] theorem QvV {m:M D}{ρ:Qak}{O:Qab}:Qr9 m ρ O=Qqg (m ρ O) ρ:=rfl
@[simp] theorem QuV {d:D}{O:Qab}{ρ:Qak}:Qqg (.ok d O) ρ = .nx ρ O:=rfl
def ifF (r:Res Bool) (a b:MS) (ρ:Qak):Fl:=match r with
 | .ok c O'=>if c=true then a ρ O' else b ρ O'
 | .ex x O'=>.ex x O'
 | .no=>.no
@[simp] theorem Qjh {t:M Bool}{a b:MS}{ρ:Qak}{O:Qab}:QaR t a b ρ O=ifF (t ρ O) a b ρ:=rfl
@[simp] theorem Qi9 {c:Bool}{O:Qab}{a b:MS}{ρ:Qak}:ifF (.ok c O) a b ρ=if c=true then a ρ O else b ρ O:=rfl
def Qlp (i:Nat) (r:Res D) (ρ:Qak):Fl:=match r with
 | .ok d O'=>.nx (ρ.set i (some d)) O'
 | .ex x O'=>.ex x O'
 | .no=>.no
@[simp] theorem Qi2 {i:Nat}{m:M D}{ρ:Qak}{O:Qab}:QaB i m ρ O=Qlp i (m ρ O) ρ:=rfl
@[simp] theorem Qic {i:Nat}{d:D}{O:Qab}{ρ:Qak}:Qlp i (.ok d O) ρ = .nx (ρ.set i (some d)) O:=rfl
def QsQ (r:Res (List D)) (g:MG) (b:MS) (ρ:Qak):Fl:=match r with
 | .ok ds O'=>Qa8 g b ds ρ O'
 | .ex x O'=>.ex x O'
 | .no=>.no
@[simp] theorem QsM {m:M (List D)}{g:MG}{b:MS}{ρ:Qak}{O:Qab}:Qc6 m g b ρ O=QsQ (m ρ O) g b ρ:=rfl
@[simp] theorem Qq2 {ds:List D}{O:Qab}{g:MG}{b:MS}{ρ:Qak}:QsQ (.ok ds O) g b ρ=Qa8 g b ds ρ O:=rfl
@[simp] theorem mg_n {i:Nat}{d:D}{ρ:Qak}:mgN i d ρ=some (ρ.set i (some d)):=rfl
def Qb1 (f:Fl):Res D:=match f with
 | .rt d O'=>.ok d O'
 | .nx _ O'=>.ok .non O'
 | .ex x O'=>.ex x O'
 | _=>.no
@[simp] theorem Qt9 {n:Nat}{b:MS}{ds:List D}{O:Qab}:Qbc n b ds O=Qb1 (b (ds.map some++List.replicate (n - ds.length) none) O):=rfl
@[simp] theorem QvY {d:D}{O:Qab}:Qb1 (.rt d O) = .ok d O:=rfl
@[simp] theorem QvM {ρ:Qak}{O:Qab}:Qb1 (.nx ρ O) = .ok .non O:=rfl
@[simp] theorem Qwn {m:M (List D)}{ρ:Qak}{O:Qab}:Qie m ρ O=(m ρ O).bind fun ds O1=>match ds with
 | [.int j]=>if j≤1000000000∧-1000000000≤j then .ok (QdZ 0 j.toNat) O1 else .no
 | _=>.no:=rfl
def itF (o:Option (List D)) (O:Qab):Res (List D):=match o with
 | some ds=>.ok ds O
 | none=>.no
@[simp] theorem QpV {ds:List D}{O:Qab}:itF (some ds) O = .ok ds O:=rfl
@[simp] theorem QoC {m:M D}{ρ:Qak}{O:Qab}:QcH m ρ O=(m ρ O).bind fun d O1=>itF (QfI d) O1:=rfl
@[simp] theorem Qn0 {ds:List D}:QfI (.lst ds)=some ds:=rfl
@[simp] theorem QuG {ds:List D}:QfI (.tup ds)=some ds:=rfl
theorem Qoo {l:List Nat} (h:ascii l=true):QfI (.str l)=some (QaX l):=by
 show (if ascii l=true then some (QaX l) else none)=_;rw [if_pos h]
@[simp] theorem QsJ {m:M (List D)}{own:Nat}{cap:List Nat}{g:MG}{t:M Bool}{e:M D}{ρ:Qak}{O:Qab}:Qih m own cap g t e ρ O=(m ρ O).bind fun ds O1=>if ds.length≤1000000 then (Qdr g t e ds (Qhs own cap ρ) O1 []).bind fun ys O2=>.ok (.lst ys) O2 else .no:=rfl
@[simp] theorem Qwl {i j:Int}:QaF (.int i) (.int j)=some (.int (i+j)):=rfl
@[simp] theorem Qtp {a b:List Nat}:QaF (.str a) (.str b)=if a.length+b.length≤1000000 then some (.str (a++b)) else none:=rfl
@[simp] theorem QoL {a b:List D}:QaF (.lst a) (.lst b)=if a.length+b.length≤1000000 then some (.lst (a++b)) else none:=rfl
@[simp] theorem Qvy {i j:Int}:QiP (.int i) (.int j)=some (.int (i - j)):=rfl
@[simp] theorem Qsq {i j:Int}:Qbh (.int i) (.int j)=if 0 < j then some (.int (i % j)) else none:=by
 unfold Qbh gI
 by_cases h:0 < j <;> simp [h]
@[simp] theorem QvT {i j:Int}:QfL (.int i) (.int j)=if 0 < j∧j < 1073741824 then some (.int (i / j)) else none:=by
 unfold QfL gI
 by_cases h:0 < j∧j < 1073741824 <;> simp [h]
theorem Qns {i j:Int} (h:(-(2 ^ 64) < i∧i < 2 ^ 64)∨(-(2 ^ 64) < j∧j < 2 ^ 64)):Qfq (.int i) (.int j)=some (.int (i * j)):=by
 unfold Qfq;dsimp only;rw [if_pos];rw [Bool.or_eq_true];unfold Qfk;rw [zf,zf,decide_eq_true_eq,decide_eq_true_eq,decide_eq_true_eq,decide_eq_true_eq];exact h
@[simp] theorem QwL {i j:Int}:gLt (.int i) (.int j)=some (.bl (decide (i < j))):=rfl
@[simp] theorem Qxg {i j:Int}:gGt (.int i) (.int j)=some (.bl (decide (j < i))):=rfl
@[simp] theorem QwQ {i j:Int}:gGe (.int i) (.int j)=some (.bl (decide (j≤i))):=rfl
@[simp] theorem QwV {i j:Int}:gLe (.int i) (.int j)=some (.bl (decide (i≤j))):=rfl
theorem Qox (a b:Nat):(([a]:List Nat) < [b])↔a < b:=by
 constructor
 ·intro h
  rcases List.cons_lt_cons_iff.mp h with h | ⟨_,h⟩
  ·exact h
  ·exact absurd h (List.not_lt_nil _)
 ·intro h;exact List.cons_lt_cons_iff.mpr (.inl h)
@[simp] theorem Qxc {a b:Nat}:gLe (.str [a]) (.str [b])=some (.bl (decide (a≤b))):=by
 show some (D.bl (!decide (([b]:List Nat) < [a])))=_
 have:decide (([b]:List Nat) < [a])=decide (b < a):=by
  by_cases h:b < a
  ·rw [zG h,zG ((Qox _ _).mpr h)]
  ·rw [zp h,zp (fun z=>h ((Qox _ _).mp z))]
 rw [this]
 by_cases h:b < a
 ·rw [zG h,zp (by omega)]; rfl
 ·rw [zp h,zG (by omega)]; rfl
@[simp] theorem QwY {i j:Int}:gEq (.int i) (.int j)=some (.bl (decide (i=j))):=rfl
@[simp] theorem QwH {i j:List Nat}:gEq (.str i) (.str j)=some (.bl (decide (i=j))):=rfl
@[simp] theorem QwO {i j:Bool}:gEq (.bl i) (.bl j)=some (.bl (decide (i=j))):=rfl
@[simp] theorem Qw0 {i j:List D}:gEq (.lst i) (.lst j)=if (okE (.lst i)&&okE (.lst j))=true then some (.bl (QgY (.lst i) (.lst j))) else none:=rfl
@[simp] theorem Qw2 {i j:Int}:gNe (.int i) (.int j)=some (.bl (!decide (i=j))):=rfl
@[simp] theorem Qxj {i j:List Nat}:gNe (.str i) (.str j)=some (.bl (!decide (i=j))):=rfl
@[simp] theorem QwF {i j:Bool}:gNe (.bl i) (.bl j)=some (.bl (!decide (i=j))):=rfl
@[simp] theorem Qw4 {i j:List D}:gNe (.lst i) (.lst j)=if (okE (.lst i)&&okE (.lst j))=true then some (.bl (!QgY (.lst i) (.lst j))) else none:=rfl
@[simp] theorem QfP {n:Bool}{c:Nat}{l:List Nat}:gIn n (.str [c]) (.str l)=some (.bl (n ^^ decide (c∈l))):=rfl
theorem Qux {ds:List D}{i:Int}:gIx (.lst ds) (.int i)=atI ds i:=rfl
theorem Qt7 {l:List Nat}{i:Int}:gIx (.str l) (.int i)=if l.length≤1000000 then (atI l i).map (fun c=>.str [c]) else none:=rfl
@[simp] theorem Qsh {l:List Nat}:QbN [.str l]=if l.length≤1000000 then some (.int l.length) else none:=rfl
@[simp] theorem Qwu {l:List D}:QbN [.lst l]=some (.int l.length):=rfl
@[simp] theorem Qwb {l:List D}:QbN [.tup l]=some (.int l.length):=rfl
@[simp] theorem Qwy {i j:Int}:Qvt [.int i,.int j]=some (.int (if j > i then j else i)):=rfl
@[simp] theorem Qwr {i j:Int}:Qvc [.int i,.int j]=some (.int (if j < i then j else i)):=rfl
@[simp] theorem Qwj {i:Int}:QsI [.int i]=some (.int i):=rfl
@[simp] theorem QwC {b:Bool}:QsI [.bl b]=some (.int (if b then 1 else 0)):=rfl
@[simp] theorem Qwi:Qgm (.int 10) (.int 18)=some (.int 1000000000000000000):=by rfl
@[simp] theorem Qwv:Qgm (.int 10) (.int 9)=some (.int 1000000000):=by rfl
@[simp] theorem Qot {α:Type}{xs:List α}{j:Nat}:atI xs (j:Int)=xs[j]?:=by
 unfold atI ixN;rw [if_pos (by omega)]
 by_cases h:j < xs.length
 ·rw [if_pos (by omega)];simp
 ·rw [if_neg (by omega),List.getElem?_eq_none (by omega)];rfl
theorem QnQ {α:Type}{xs:List α}{i:Int} (h0:0≤i) (h1:i < xs.length):∃x,atI xs i=some x∧x∈xs:=by
 obtain ⟨j,rfl⟩:=Int.eq_ofNat_of_zero_le h0
 have hj:j < xs.length:=by omega
 exact ⟨xs[j],by show atI xs (j:Int)=_; rw [Qot,zK hj],List.getElem_mem hj⟩
section
variable {c:Prop} [Decidable c]
@[simp] theorem Qvu {a b:Fl}:Qb1 (if c then a else b)=if c then Qb1 a else Qb1 b:=by split <;> rfl
@[simp] theorem Qvg {a b:Res D}:Qk5 (if c then a else b)=if c then Qk5 a else Qk5 b:=by split <;> rfl
@[simp] theorem Qvk {a b:Fl}{r:MS}:Qf8 (if c then a else b) r=if c then Qf8 a r else Qf8 b r:=by split <;> rfl
@[simp] theorem Qvw {α β:Type}{a b:Res α}{f:α→Qab→Res β}:(if c then a else b).bind f=if c then a.bind f else b.bind f:=by split <;> rfl
@[simp] theorem QvW {a b:Res Bool}{x y:MS}{ρ:Qak}:ifF (if c then a else b) x y ρ=if c then ifF a x y ρ else ifF b x y ρ:=by split <;> rfl
@[simp] theorem Qvi {a b:Res D}{i:Nat}{ρ:Qak}:Qlp i (if c then a else b) ρ=if c then Qlp i a ρ else Qlp i b ρ:=by split <;> rfl
@[simp] theorem QvH {a b:Option D}{O:Qab}:ofO (if c then a else b) O=if c then ofO a O else ofO b O:=by split <;> rfl
end
@[simp] theorem Qwm:Qdm "str" "str" = true:=by decide
@[simp] theorem Qwd:Qdm "int" "str" = false:=by decide
@[simp] theorem Qwf:Qdm "bool" "str" = false:=by decide
@[simp] theorem Qwe:Qdm "list" "str" = false:=by decide
@[simp] theorem QwA:Qdm "tuple" "str" = false:=by decide
@[simp] theorem Qwh:Qdm "dict" "str" = false:=by decide
@[simp] theorem Qv6:Qdm "NoneType" "str" = false:=by decide
@[simp] theorem Qws:Qdm "int" "int" = true:=by decide
@[simp] theorem Qwo:Qdm "int" "bool" = false:=by decide
@[simp] theorem Qv2:Qdm "bool" "bool" = true:=by decide
@[simp] theorem Qv0:Qdm "list" "list" = true:=by decide
@[simp] theorem QvI:Qdm "tuple" "tuple" = true:=by decide
@[simp] theorem QvS:Qdm "NoneType" "list" = false:=by decide
theorem QeQ {g:MG}{b:MS} (Pv:Nat→Qak→Qab→Prop):∀(ds:List D) (k:Nat) (ρ:Qak) (O:Qab),Pv k ρ O →
  (∀i d ρ O,ds[i]? = some d→Pv (k+i) ρ O→∃ρ1,g d ρ=some ρ1∧∃ρ2 O2,(b ρ1 O = .nx ρ2 O2∨b ρ1 O = .ct ρ2 O2)∧Pv (k+i+1) ρ2 O2)→∃ρ' O',Qa8 g b ds ρ O = .nx ρ' O'∧Pv (k+ds.length) ρ' O'
 | [],k,ρ,O,h,_=>⟨ρ,O,rfl,h⟩
 | d::ds,k,ρ,O,h,hs=>by
  obtain ⟨ρ1,e1,ρ2,O2,e2,h2⟩:=hs 0 d ρ O rfl h
  obtain ⟨ρ',O',e3,h3⟩:=QeQ Pv ds (k+1) ρ2 O2 h2 fun i d' ρ' O' hi hp=>by
   have:=hs (i+1) d' ρ' O' (by simpa using hi) (by rw [show k+(i+1)=k+1+i by omega]; exact hp)
   rw [show k+(i+1)+1=k+1+i+1 by omega] at this;exact this
  refine ⟨ρ',O',?_,by rw [zq,show k+(ds.length+1)=k+1+ds.length by omega]; exact h3⟩;unfold Qa8;rw [e1];dsimp only
  rcases e2 with e2 | e2 <;> rw [e2] <;> exact e3
theorem Qhu {g:MG}{t:M Bool}{m:M D} (Pv:Qak→Prop) (f:D→D):∀(ds:List D) (ρ:Qak) (O:Qab) (acc:List D),Pv ρ→(∀d∈ds,∀ρ,Pv ρ→∃ρ1,g d ρ=some ρ1∧Pv ρ1∧t ρ1 O = .ok true O∧m ρ1 O = .ok (f d) O)→Qdr g t m ds ρ O acc = .ok (acc++ds.map f) O
 | [],ρ,O,acc,_,_=>by simp [Qdr]
 | d::ds,ρ,O,acc,h,hs=>by
  obtain ⟨ρ1,e1,h1,e2,e3⟩:=hs d zw ρ h;unfold Qdr;rw [e1];dsimp only;rw [e2];dsimp only;rw [e3];dsimp only;rw [Qhu Pv f ds ρ1 O _ h1 fun d' hd'=>hs d' (zu _ hd')];simp
@[simp] theorem Qwa {ρ:Qak}{O:Qab}:Qur ρ O = .ok [] O:=rfl
@[simp] theorem QvP {a b:M D}{r:M (List (D×D))}{ρ:Qak}{O:Qab}:QsL a b r ρ O=(a ρ O).bind fun x O1=>(b ρ O1).bind fun y O2=>(r ρ O2).bind fun ps O3=>.ok ((x,y)::ps) O3:=rfl
def diF (o:Option (List Key)) (kv:List (D×D)) (O:Qab):Res D:=match o with
 | some ks=>if ks.Nodup∧kv.length≤15 then .ok (.dic (kv.map (·.1)) (kv.map (·.2))) O else .no
 | none=>.no
@[simp] theorem Qu0 {ks:List Key}{kv:List (D×D)}{O:Qab}:diF (some ks) kv O=if ks.Nodup∧kv.length≤15 then .ok (.dic (kv.map (·.1)) (kv.map (·.2))) O else .no:=rfl
@[simp] theorem Qww {m:M (List (D×D))}{ρ:Qak}{O:Qab}:Qua m ρ O=(m ρ O).bind fun kv O1=>diF (keysOf kv) kv O1:=rfl
@[simp] theorem QvQ {i:Int}:keyOf (.int i)=some (.inl i):=rfl
@[simp] theorem Qv3 {i:List Nat}:keyOf (.str i)=some (.inr (S i)):=rfl
@[simp] theorem Qud:keysOf []=some []:=rfl
@[simp] theorem QtQ {a b:D}{r:List (D×D)}:keysOf ((a,b)::r)=(keyOf a).bind fun k=>(keysOf r).map (k :: ·):=rfl
def joF (o:Option (List (List Nat))) (O:Qab):Res D:=match o with
 | some ls=>if (ls.map List.length).sum≤1000000 then .ok (.str ls.flatten) O else .no
 | none=>.no
@[simp] theorem Qp4 {ls:List (List Nat)}{O:Qab}:joF (some ls) O=if (ls.map List.length).sum≤1000000 then .ok (.str ls.flatten) O else .no:=rfl
def jdF (d:D) (O:Qab):Res D:=match d with
 | .lst ds=>joF (QeF ds) O
 | _=>.no
@[simp] theorem Qug {ds:List D}{O:Qab}:jdF (.lst ds) O=joF (QeF ds) O:=rfl
@[simp] theorem QtD {m:M D}{ρ:Qak}{O:Qab}:Qkw m ρ O=(m ρ O).bind fun d O1=>jdF (QaU O1 d) O1:=rfl
theorem QjZ {α:Type}{f:α→List Nat}:∀l:List α,QeF (l.map fun x=>.str (f x))=some (l.map f)
 | []=>rfl
 | x::l=>by
  show (QeF (l.map fun x=>D.str (f x))).map _=_;rw [QjZ l];rfl
@[simp] theorem QwJ {own:Nat}{cap:List Nat}{ρ:Qak}:Qhs own cap ρ=List.replicate own none++cap.map fun j=>(ρ[j]?).join:=rfl
@[simp] theorem QuL {g:MG}{t:M Bool}{m:M D}{ρ:Qak}{O:Qab}{acc:List D}:Qdr g t m [] ρ O acc = .ok acc O:=rfl
theorem Qk2:∀ds:List D,QhE ds=ds.map toP
 | []=>rfl
 | d::ds=>by rw [QhE,Qk2 ds]; rfl
theorem Qil:∀{ds:List D},(∀d∈ds,QcI d=true)→Qev ds=true
 | [],_=>rfl
 | d::ds,h=>by rw [Qev,h d zw,Qil fun x hx=>h x (zu _ hx)]; rfl
theorem Ql7 {n:Nat} (hn:n < 60) {ds:List D} (h:∀d∈ds,QcI d=true∧(toP d).canLay0=true∧(toP d).depth≤n):okE (.lst ds)=true:=by
 unfold okE;rw [zf];refine ⟨?_,?_⟩
 ·rw [QcI]; exact Qil fun d hd=>(h d hd).1
 ·rw [toP,Qk2]
  refine QrB hn fun d hd=>?_
  obtain ⟨x,hx,rfl⟩:=zT.mp hd;exact (h x hx).2
theorem QlM {l:List Nat} (h:∀c∈l,c < 1114112):(PyData.str (S l)).canLay0=true:=by
 show PyData.strOk (S l)=true;unfold PyData.strOk S;simp;exact h
theorem QhP {d:D} (h:okE d=true):QgY d d=true:=by
 unfold okE at h;rw [zf] at h
 have:=h.2
 unfold okD at this;rw [zf] at this;exact SeqAt.eqv_refl _ this.1
def it (f:Int→Int):Nat→Int→Int
 | 0,x=>x
 | n+1,x=>f (it f n x)
def mix (n k:Int):Int:=if n > 1000000000000000000 then it (fun r=>r / 1000000000) k.toNat n % 1000000000
 else
  let m:=it (fun m=>(m * 48271+104729) % 2147483629) (k+2).toNat (n % 2147483647+7919)
  m * m % 998244353 / 11
theorem QqC (j:Nat) (x:Int) (h0:0≤x) (h1:x < 2147491566):0≤it (fun m=>(m * 48271+104729) % 2147483629) j x∧it (fun m=>(m * 48271+104729) % 2147483629) j x < 2147491566:=by
 induction j with
 | zero=>exact ⟨h0,h1⟩
 | succ j ih =>
  refine ⟨zZ _ (by decide),?_⟩
  have:=ji (it (fun m=>(m * 48271+104729) % 2147483629) j x * 48271+104729) (show (0:Int) < 2147483629 by decide)
  show (it (fun m=>(m * 48271+104729) % 2147483629) j x * 48271+104729) % 2147483629 < _;omega
def Qm9:MS:=(Qaj (QaR (Qaw (Qae gGt (Qac 0) (Qae Qgm (mC (.int 10)) (mC (.int 18))))) (Qaj (QaB 2 (mG (Qac 0)))
  (Qaj (Qc6 (Qie (Qaa (Qac 1) Qaf)) (mgN 3) (QaB 2 (Qae QfL (Qac 2) (Qae Qgm (mC (.int 10)) (mC (.int 9))))))
  (Qat (Qae Qbh (Qac 2) (Qae Qgm (mC (.int 10)) (mC (.int 9))))))) Qau)
  (Qaj (QaB 4 (Qae QaF (Qae Qbh (Qac 0) (mC (.int 2147483647))) (mC (.int 7919))))
  (Qaj (Qc6 (Qie (Qaa (Qae QaF (Qac 1) (mC (.int 2))) Qaf)) (mgN 3) (QaB 4 (Qae Qbh (Qae QaF (Qae Qfq (Qac 4) (mC (.int 48271))) (mC (.int 104729))) (mC (.int 2147483629)))))
  (Qat (Qae QfL (Qae Qbh (Qae Qfq (Qac 4) (Qac 4)) (mC (.int 998244353))) (mC (.int 11)))))))
theorem Qi4 (lo:Int) (n:Nat):(QdZ lo n).length=n:=by simp [QdZ]
theorem Qs1 (n k:Int) (h0:0≤k) (h1:k≤1000000) (O:Qab):Qbc 5 Qm9 [.int n,.int k] O = .ok (.int (mix n k)) O:=by
 unfold mix
 by_cases hn:n > 1000000000000000000
 ·obtain ⟨ρ',O',e,rfl,o3,rfl⟩:=QeQ (g:=mgN 3) (b:=QaB 2 (Qae QfL (Qac 2) (Qae Qgm (mC (.int 10)) (mC (.int 9)))))
   (fun i ρ O'=>O'=O∧∃o3,ρ = [some (.int n),some (.int k),some (.int (it (fun r=>r / 1000000000) i n)),o3,none]) (QdZ 0 k.toNat) 0 [some (.int n),some (.int k),some (.int n),none,none] O ⟨rfl,none,rfl⟩ (by
    rintro i d ρ O' hi ⟨rfl,o3,rfl⟩;refine ⟨_,rfl,?_⟩;simp;rw [show it (fun r=>r / 1000000000) (i+1) n=it (fun r=>r / 1000000000) i n / 1000000000 from rfl]
    exact ⟨_,_,⟨rfl,rfl⟩,rfl,_,rfl⟩)
  rw [Qi4,zV] at e
  have hk:k≤1000000000∧-1000000000≤k:=by omega
  simp [Qm9,hn,hk,e]
 ·have hm0:0≤n % 2147483647+7919:=by have:=zZ n (show (2147483647:Int)≠0 by decide); omega
  have hm1:n % 2147483647+7919 < 2147491566:=by have:=ji n (show (0:Int) < 2147483647 by decide); omega
  obtain ⟨ρ',O',e,rfl,o3,rfl⟩:=QeQ (g:=mgN 3) (b:=QaB 4 (Qae Qbh (Qae QaF (Qae Qfq (Qac 4) (mC (.int 48271))) (mC (.int 104729))) (mC (.int 2147483629))))
   (fun i ρ O'=>O'=O∧∃o3,ρ = [some (.int n),some (.int k),none,o3,some (.int (it (fun m=>(m * 48271+104729) % 2147483629) i (n % 2147483647+7919)))]) (QdZ 0 (k+2).toNat) 0 [some (.int n),some (.int k),none,none,some (.int (n % 2147483647+7919))] O ⟨rfl,none,rfl⟩ (by
    rintro i d ρ O' hi ⟨rfl,o3,rfl⟩;refine ⟨_,rfl,?_⟩;obtain ⟨b0,b1⟩:=QqC i _ hm0 hm1
    have:=Qns (i:=it (fun m=>(m * 48271+104729) % 2147483629) i (n % 2147483647+7919)) (j:=48271) (.inr ⟨by decide,by decide⟩)
    simp [this]
    rw [show it (fun m=>(m * 48271+104729) % 2147483629) (i+1) (n % 2147483647+7919)=(it (fun m=>(m * 48271+104729) % 2147483629) i (n % 2147483647+7919) * 48271+104729) % 2147483629 from rfl]
    exact ⟨_,_,⟨rfl,rfl⟩,rfl,_,rfl⟩)
  rw [Qi4,zV] at e
  have hk:k+2≤1000000000∧-1000000000≤k+2:=by omega
  obtain ⟨b0,b1⟩:=QqC (k+2).toNat _ hm0 hm1;have hq:=Qns (i:=it (fun m=>(m * 48271+104729) % 2147483629) (k+2).toNat (n % 2147483647+7919)) (j:=it (fun m=>(m * 48271+104729) % 2147483629) (k+2).toNat (n % 2147483647+7919)) (.inl ⟨by omega,by omega⟩);simp [Qm9,hn,hk,e,hq]
def QkC (cs:List Str) (f:Str) (d:D) (O:Qab):Res D:=match d with
 | .ob n=>match O[n]? with
  | some (.ins c fs)=>if c∈cs then match fs.lookup f with
   | some y=>.ok y O
   | none=>.no else .no
  | _=>.no
 | _=>.no
@[simp] theorem QwS {cs:List Str}{f:Str}{m:M D}{ρ:Qak}{O:Qab}:Qfn cs f m ρ O=(m ρ O).bind (QkC cs f):=rfl
def puF (cs:List Str) (f:Str) (d:D) (ρ:Qak) (r:Res D):Fl:=match r with
 | .ok (.ob n) O2=>match O2[n]? with
  | some (.ins c fs)=>if c∈cs∧fs.length < 900 then .nx ρ (O2.set n (.ins c (putD f d fs))) else .no
  | _=>.no
 | _=>.no
def sfF (cs:List Str) (f:Str) (mo:M D) (r:Res D) (ρ:Qak):Fl:=match r with
 | .ok d O1=>puF cs f d ρ (mo ρ O1)
 | .ex x O'=>.ex x O'
 | .no=>.no
@[simp] theorem Qv7 {cs:List Str}{f:Str}{mo mv:M D}{ρ:Qak}{O:Qab}:QdM cs f mo mv ρ O=sfF cs f mo (mv ρ O) ρ:=by
 unfold QdM sfF puF
 cases mv ρ O <;> rfl
@[simp] theorem QwB {cs:List Str}{f:Str}{mo:M D}{d:D}{O:Qab}{ρ:Qak}:sfF cs f mo (.ok d O) ρ=puF cs f d ρ (mo ρ O):=rfl
def meF (c m:Str) (cf:List D→Qab→Res D) (ma:Qab→Res (List D)) (d:D) (O1:Qab):Res D:=match d with
 | .ob n=>match O1[n]? with
  | some (.ins c' fs)=>if c'=c∧(fs.lookup m).isNone=true then (ma O1).bind fun ds O2=>cf (.ob n::ds) O2 else .no
  | _=>.no
 | _=>.no
@[simp] theorem QnF {c m:Str}{cf:List D→Qab→Res D}{mo:M D}{ma:M (List D)}{ρ:Qak}{O:Qab}:Qb0 c m cf mo ma ρ O=(mo ρ O).bind (meF c m cf (ma ρ)):=rfl
def mkF (n:Nat) (r:Res D):Res D:=match r with
 | .ok .non O2=>.ok (.ob n) O2
 | .ok _ _=>.no
 | .ex x O2=>.ex x O2
 | .no=>.no
@[simp] theorem Qwx {c:Str}{cf:List D→Qab→Res D}{ma:M (List D)}{ρ:Qak}{O:Qab}:Qfc c cf ma ρ O=(ma ρ O).bind fun ds O1=>mkF O1.length (cf (.ob O1.length::ds) (O1 ++ [.ins c []])):=by
 unfold Qfc;congr 1
@[simp] theorem Qwk {n:Nat}{O:Qab}:mkF n (.ok .non O) = .ok (.ob n) O:=rfl
def apF (i:Nat) (r:Res D) (ρ:Qak):Fl:=match r with
 | .ok d O'=>match ρ[i]? with
  | some (some (.lst ds))=>if ds.length < 1000000 then .nx (ρ.set i (some (.lst (ds ++ [d])))) O' else .no
  | _=>.no
 | .ex x O'=>.ex x O'
 | .no=>.no
@[simp] theorem Qr5 {i:Nat}{m:M D}{ρ:Qak}{O:Qab}:Qgz i m ρ O=apF i (m ρ O) ρ:=rfl
theorem Qr6 {i:Nat}{d:D}{ds:List D}{ρ:Qak}{O:Qab} (h:ρ[i]? = some (some (.lst ds))) (hl:ds.length < 1000000):apF i (.ok d O) ρ = .nx (ρ.set i (some (.lst (ds ++ [d])))) O:=by
 unfold apF; dsimp only; rw [h]; dsimp only; rw [if_pos hl]
def exF (i:Nat) (r:Res D) (ρ:Qak):Fl:=match r with
 | .ok d O'=>match ρ[i]?,QaU O' d with
  | some (some (.lst ds)),.lst es=>if ds.length+es.length≤1000000 then .nx (ρ.set i (some (.lst (ds++es)))) O' else .no
  | _,_=>.no
 | .ex x O'=>.ex x O'
 | .no=>.no
@[simp] theorem Qtj {i:Nat}{m:M D}{ρ:Qak}{O:Qab}:Qh0 i m ρ O=exF i (m ρ O) ρ:=rfl
theorem Qst {i:Nat}{es ds:List D}{ρ:Qak}{O:Qab} (h:ρ[i]? = some (some (.lst ds))) (hl:ds.length+es.length≤1000000):exF i (.ok (.lst es) O) ρ = .nx (ρ.set i (some (.lst (ds++es)))) O:=by
 unfold exF; dsimp only [QaU]; rw [h]; dsimp only; rw [if_pos hl]
def enF (d:D) (O1:Qab):Res (List D):=match d with
 | .lst ds=>.ok (QbH 0 ds) O1
 | .str l=>if ascii l=true then .ok (QbH 0 (QaX l)) O1 else .no
 | _=>.no
@[simp] theorem Qsw {m:M D}{ρ:Qak}{O:Qab}:QgN m ρ O=(m ρ O).bind enF:=rfl
theorem QlJ {l:List Nat}{O:Qab} (h:ascii l=true):enF (.str l) O = .ok (QbH 0 (QaX l)) O:=by
 show (if ascii l=true then _ else _)=_;rw [if_pos h]
def asF (r:Res D) (g:MG) (ρ:Qak):Fl:=match r with
 | .ok d O'=>match g d ρ with
  | some ρ'=>.nx ρ' O'
  | none=>.no
 | .ex x O'=>.ex x O'
 | .no=>.no
@[simp] theorem Qtu {m:M D}{g:MG}{ρ:Qak}{O:Qab}:Qjc m g ρ O=asF (m ρ O) g ρ:=rfl
theorem QsO {d:D}{g:MG}{ρ ρ':Qak}{O:Qab} (h:g d ρ=some ρ'):asF (.ok d O) g ρ = .nx ρ' O:=by
 unfold asF; dsimp only; rw [h]
@[simp] theorem QuR {i j:Nat}{a b:D}{ρ:Qak}:QgI 2 (QbO (mgN i) (QbO (mgN j) QeK)) (.tup [a,b]) ρ=some ((ρ.set i (some a)).set j (some b)):=rfl
def stF (a b:D) (O:Qab):Res D:=match a,b with
 | .str l,.str n=>.ok (.bl (decide (l.take n.length=n))) O
 | _,_=>.no
@[simp] theorem Qvz {a b:M D}{ρ:Qak}{O:Qab}:Qh3 a b ρ O=(a ρ O).bind fun x O1=>(b ρ O1).bind fun y O2=>stF x y O2:=rfl
@[simp] theorem Qw6 {l n:List Nat}{O:Qab}:stF (.str l) (.str n) O = .ok (.bl (decide (l.take n.length=n))) O:=rfl
theorem Qkc {t:M Bool}{b:MS} (Pv:Nat→Qak→Qab→Prop):∀(n:Nat) (k:Nat) (ρ:Qak) (O:Qab),k < n→Pv k ρ O →
  (∀k ρ O,Pv (k+1) ρ O→t ρ O = .ok true O∧∃j ρ2 O2,j≤k∧b ρ O = .nx ρ2 O2∧Pv j ρ2 O2)→(∀ρ O,Pv 0 ρ O→t ρ O = .ok false O)→∃ρ' O',Qfd t b n ρ O = .nx ρ' O'∧Pv 0 ρ' O'
 | 0,k,ρ,O,hk,_,_,_=>absurd hk (Nat.not_lt_zero _)
 | n+1,0,ρ,O,_,h,_,h0=>by
  refine ⟨ρ,O,?_,h⟩;unfold Qfd;rw [h0 ρ O h]
 | n+1,k+1,ρ,O,hk,h,hs,h0=>by
  obtain ⟨e1,j,ρ2,O2,hj,e2,h2⟩:=hs k ρ O h;obtain ⟨ρ',O',e3,h3⟩:=Qkc Pv n j ρ2 O2 (by omega) h2 hs h0;refine ⟨ρ',O',?_,h3⟩;unfold Qfd;rw [e1];dsimp only;rw [e2];exact e3
def QhT:List Nat:=[101,110,100]
def QfR:List Nat:=[97,110,101,119]
def Qd0:List Nat:=[112,108,97,105,110]
def Qa4:List Nat:=[115,105,103,110]
def QhH:List Nat:=[105,110,107]
def Qew:List Nat:=[103,114,111,117,110,100]
def item (p:Int) (k v:List Nat):D:=.tup [.int p,.str k,.str v]
def col (c:Nat):Bool:=decide (c∈[97,98,99,100,101,102,103,104,46])
theorem QhK {c:Nat} (h:col c=true):c≠91∧c≠93∧c≠47∧c≠10∧c≠9:=by
 have:c∈[97,98,99,100,101,102,103,104,46]:=jf h
 have q:∀c∈[97,98,99,100,101,102,103,104,46],c≠91∧c≠93∧c≠47∧c≠10∧c≠9:=by decide
 exact q c this
def Qf4 (x:Nat):List Nat→List Nat×List Nat×Nat
 | []=>(Qa4,[91],0)
 | e::_=>if e=93 then (Qew,[x],3) else (Qa4,[91],0)
def QdP:List Nat→List Nat×List Nat×Nat
 | []=>(Qa4,[91],0)
 | x::t=>if col x=true then Qf4 x t else (Qa4,[91],0)
def Qe1 (x:Nat):List Nat→List Nat×List Nat×Nat
 | []=>(Qa4,[91],0)
 | e::_=>if e=93 then (QhH,[x],2) else (Qa4,[91],0)
def QbJ:List Nat→List Nat×List Nat×Nat
 | []=>(Qa4,[91],0)
 | d::t=>if d=93 then (Qd0,[],1) else if d=91 then (Qa4,[91],1) else if col d=true then Qe1 d t else if d=47 then QdP t else (Qa4,[91],0)
def one (c:Nat) (t:List Nat):List Nat×List Nat×Nat :=
 if c=10 then (QhT,[],0) else if c=9 then (QfR,[],0) else if c=91 then QbJ t else (Qa4,[c],0)
def items (p:Int):List Nat→List D
 | []=>[]
 | c::t=>item p (one c t).1 (one c t).2.1::items (p+((one c t).2.2+1:Nat)) (t.drop (one c t).2.2)
termination_by l=>l.length
decreasing_by
 simp only [List.length_drop,zq];omega
theorem QcO (p:Int):items p [] = []:=by rw [items]
theorem Qeb (p:Int) (c:Nat) (t:List Nat):items p (c::t)=item p (one c t).1 (one c t).2.1::items (p+((one c t).2.2+1:Nat)) (t.drop (one c t).2.2):=by rw [items]
def own (p:Int) (c:Nat):D:=if c=10 then item p QhT [] else if c=9 then item p QfR [] else item p Qa4 [c]
def QcD:Int→List Nat→List D
 | _,[]=>[]
 | p,c::l=>own p c::QcD (p+1) l
theorem Qbg {p:Int}{c:Nat}{t:List Nat} (h:c≠91):items p (c::t)=own p c::items (p+1) t:=by
 rw [Qeb];unfold one own
 by_cases h1:c=10
 ·simp [h1]
 ·by_cases h2:c=9
  ·simp [h1,h2]
  ·simp [h1,h2,h]
theorem Qci {p:Int}{t:List Nat} (h:QbJ t=(Qa4,[91],0)):items p (91::t)=own p 91::items (p+1) t:=by
 rw [Qeb]
 have:one 91 t=(Qa4,[91],0):=h
 rw [this];rfl
theorem QfO {p:Int}{t:List Nat}{k v:List Nat}{n:Nat} (h:QbJ t=(k,v,n)):items p (91::t)=item p k v::items (p+(n+1:Nat)) (t.drop n):=by
 rw [Qeb]
 have:one 91 t=(k,v,n):=h
 rw [this]
def Qch:List Nat→Bool
 | [a]=>decide (a=91)
 | [a,b]=>decide (a=91)&&(decide (b=47) || col b)
 | [a,b,c]=>decide (a=91)&&(decide (b=47)&&col c)
 | _=>false
def markB:List Nat→Option (List Nat×List Nat)
 | [a,b]=>if a=91∧b=93 then some (Qd0,[]) else if a=91∧b=91 then some (Qa4,[91]) else none
 | [a,b,c]=>if a=91∧col b=true∧c=93 then some (QhH,[b]) else none
 | [a,b,c,d]=>if a=91∧b=47∧col c=true∧d=93 then some (Qew,[c]) else none
 | _=>none
def tk (h:List Nat) (c:Nat) (p:Int):List D×List Nat :=
 if Qch (h ++ [c])=true then ([],h ++ [c]) else match markB (h ++ [c]) with
 | some (k,v)=>([item p k v],[])
 | none=>if c=91 then (QcD p h,[91]) else (QcD p (h ++ [c]),[])
inductive Held:List Nat→Prop where
 | h0:Held []
 | h1:Held [91]
 | h2:Held [91,47]
 | h3 (x:Nat) (h:col x=true):Held [91,x]
 | h4 (x:Nat) (h:col x=true):Held [91,47,x]
theorem Held.len {h:List Nat} (H:Held h):h.length≤3:=by cases H <;> simp
theorem QkS:col 91=false:=by decide
theorem Qos:col 93=false:=by decide
theorem Qc9:col 47=false:=by decide
theorem QgK {h:List Nat} (H:Held h) (c:Nat) (p:Int) (rest:List Nat) :
  Held (tk h c p).2∧items p (h++c::rest)=(tk h c p).1++items (p+h.length+1 - (tk h c p).2.length) ((tk h c p).2++rest):=by
 cases H with
 | h0 =>
  by_cases h1:c=91
  ·subst h1;refine ⟨Held.h1,?_⟩;simp [tk,Qch]
  ·have:tk [] c p=([own p c],[]):=by simp [tk,Qch,markB,h1,QcD]
   rw [this];refine ⟨Held.h0,?_⟩;simp [Qbg h1]
 | h1 =>
  by_cases h2:c=93
  ·subst h2
   have:tk [91] 93 p=([item p Qd0 []],[]):=by simp [tk,Qch,markB,Qos]
   rw [this];refine ⟨Held.h0,?_⟩;show items p (91::93::rest)=_;rw [QfO (k:=Qd0) (v:=[]) (n:=1) rfl];simp [Int.add_assoc]
  ·by_cases h1:c=91
   ·subst h1
    have:tk [91] 91 p=([item p Qa4 [91]],[]):=by simp [tk,Qch,markB,QkS]
    rw [this];refine ⟨Held.h0,?_⟩;show items p (91::91::rest)=_;rw [QfO (k:=Qa4) (v:=[91]) (n:=1) rfl];simp [Int.add_assoc]
   ·by_cases h3:c=47
    ·subst h3
     have:tk [91] 47 p=([],[91,47]):=by simp [tk,Qch]
     rw [this];exact ⟨Held.h2,by simp; congr 1; omega⟩
    ·by_cases h4:col c=true
     ·have:tk [91] c p=([],[91,c]):=by simp [tk,Qch,h4]
      rw [this];exact ⟨Held.h3 c h4,by simp; congr 1; omega⟩
     ·have:tk [91] c p=([own p 91,own (p+1) c],[]):=by simp [tk,Qch,markB,h1,h2,h3,h4,QcD]
      rw [this];refine ⟨Held.h0,?_⟩;show items p (91::c::rest)=_;rw [Qci (by simp [QbJ,h1,h2,h3,h4]),Qbg h1];simp
 | h2 =>
  by_cases h4:col c=true
  ·have:tk [91,47] c p=([],[91,47,c]):=by simp [tk,Qch,h4]
   rw [this];exact ⟨Held.h4 c h4,by simp; congr 1; omega⟩
  ·by_cases h1:c=91
   ·subst h1
    have:tk [91,47] 91 p=([own p 91,own (p+1) 47],[91]):=by simp [tk,Qch,markB,Qc9,QkS,QcD]
    rw [this];refine ⟨Held.h1,?_⟩;show items p (91::47::91::rest)=_;rw [Qci (by simp [QbJ,QdP,Qc9,QkS]),Qbg (by decide)];simp;congr 1;omega
   ·have:tk [91,47] c p=([own p 91,own (p+1) 47,own (p+1+1) c],[]):=by simp [tk,Qch,markB,h1,h4,Qc9,QcD]
    rw [this];refine ⟨Held.h0,?_⟩;show items p (91::47::c::rest)=_;rw [Qci (by simp [QbJ,QdP,Qc9,h4]),Qbg (by decide),Qbg h1];simp;congr 1;omega
 | h3 x hx =>
  obtain ⟨n1,n2,n3,n4,n5⟩:=QhK hx
  by_cases h2:c=93
  ·subst h2
   have:tk [91,x] 93 p=([item p QhH [x]],[]):=by simp [tk,Qch,markB,Qos,hx]
   rw [this];refine ⟨Held.h0,?_⟩;show items p (91::x::93::rest)=_;rw [QfO (k:=QhH) (v:=[x]) (n:=2) (by simp [QbJ,Qe1,n1,n2,hx])];simp;congr 1;omega
  ·by_cases h1:c=91
   ·subst h1
    have:tk [91,x] 91 p=([own p 91,own (p+1) x],[91]):=by simp [tk,Qch,markB,n3,QcD]
    rw [this];refine ⟨Held.h1,?_⟩;show items p (91::x::91::rest)=_;rw [Qci (by simp [QbJ,Qe1,n1,n2,hx]),Qbg n1];simp;congr 1;omega
   ·have:tk [91,x] c p=([own p 91,own (p+1) x,own (p+1+1) c],[]):=by simp [tk,Qch,markB,h1,h2,n3,QcD]
    rw [this];refine ⟨Held.h0,?_⟩;show items p (91::x::c::rest)=_;rw [Qci (by simp [QbJ,Qe1,n1,n2,hx,h2]),Qbg n1,Qbg h1];simp;congr 1;omega
 | h4 x hx =>
  obtain ⟨n1,n2,n3,n4,n5⟩:=QhK hx
  by_cases h2:c=93
  ·subst h2
   have:tk [91,47,x] 93 p=([item p Qew [x]],[]):=by simp [tk,Qch,markB,hx]
   rw [this];refine ⟨Held.h0,?_⟩;show items p (91::47::x::93::rest)=_;rw [QfO (k:=Qew) (v:=[x]) (n:=3) (by simp [QbJ,QdP,Qf4,Qc9,hx])];simp;congr 1;omega
  ·by_cases h1:c=91
   ·subst h1
    have:tk [91,47,x] 91 p=([own p 91,own (p+1) 47,own (p+1+1) x],[91]):=by simp [tk,Qch,markB,QcD]
    rw [this];refine ⟨Held.h1,?_⟩;show items p (91::47::x::91::rest)=_;rw [Qci (by simp [QbJ,QdP,Qf4,Qc9,hx]),Qbg (by decide),Qbg n1];simp;congr 1;omega
   ·have:tk [91,47,x] c p=([own p 91,own (p+1) 47,own (p+1+1) x,own (p+1+1+1) c],[]):=by simp [tk,Qch,markB,h1,h2,QcD]
    rw [this];refine ⟨Held.h0,?_⟩;show items p (91::47::x::c::rest)=_;rw [Qci (by simp [QbJ,QdP,Qf4,Qc9,hx,h2]),Qbg (by decide),Qbg n1,Qbg h1];simp;congr 1;omega
theorem QmA {h:List Nat} (H:Held h) (p:Int):items p h=QcD p h:=by
 cases H with
 | h0=>rw [QcO]; rfl
 | h1=>rw [Qci rfl,QcO]; rfl
 | h2=>rw [Qci rfl,Qbg (by decide),QcO]; rfl
 | h3 x hx =>
  obtain ⟨n1,n2,n3,n4,n5⟩:=QhK hx;rw [Qci (by simp [QbJ,Qe1,n1,n2,hx]),Qbg n1,QcO]; rfl
 | h4 x hx =>
  obtain ⟨n1,n2,n3,n4,n5⟩:=QhK hx;rw [Qci (by simp [QbJ,QdP,Qf4,Qc9,hx]),Qbg (by decide),Qbg n1,QcO]; rfl
def QaY:List Nat→Int→List Nat→List D×List Nat
 | h,_,[]=>([],h)
 | h,p,c::t=>((tk h c (p - h.length)).1++(QaY (tk h c (p - h.length)).2 (p+1) t).1,(QaY (tk h c (p - h.length)).2 (p+1) t).2)
theorem QjQ:∀(t:List Nat) {h:List Nat} (_:Held h) (p:Int) (rest:List Nat),Held (QaY h p t).2∧items (p - h.length) (h++(t++rest))=(QaY h p t).1++items (p+t.length - (QaY h p t).2.length) ((QaY h p t).2++rest)
 | [],h,H,p,rest=>⟨H,by simp [QaY]⟩
 | c::t,h,H,p,rest=>by
  obtain ⟨a,b⟩:=QgK H c (p - h.length) (t++rest);obtain ⟨a2,b2⟩:=QjQ t a (p+1) rest;refine ⟨a2,?_⟩;show items (p - h.length) (h++c::(t++rest))=_;rw [b]
  have e:p - (h.length:Int)+h.length+1 - ((tk h c (p - h.length)).2.length:Int)=p+1 - ((tk h c (p - h.length)).2.length:Int):=by omega
  rw [e,b2];show _=((tk h c (p - h.length)).1++(QaY (tk h c (p - h.length)).2 (p+1) t).1)++items (p+((c::t).length:Nat) - ((QaY (tk h c (p - h.length)).2 (p+1) t).2.length:Int)) ((QaY (tk h c (p - h.length)).2 (p+1) t).2++rest);rw [zO]
  have e2:p+1+(t.length:Int)=p+((c::t).length:Nat):=by simp; omega
  rw [e2]
theorem QlR (t:List Nat):Held (QaY [] 0 t).2∧items 0 t=(QaY [] 0 t).1++QcD (t.length - (QaY [] 0 t).2.length) (QaY [] 0 t).2:=by
 obtain ⟨a,b⟩:=QjQ t Held.h0 0 [];refine ⟨a,?_⟩;simp at b;rw [b,QmA a]
@[simp] theorem QvK {l:List D}:QtU [.lst l]=some (.lst l):=rfl
def fzF (f:Fl):Fl:=match f with
 | .rt d O'=>.rt d O'
 | _=>.no
@[simp] theorem Qxi {m:MS}{ρ:Qak}{O:Qab}:Qvj m ρ O=fzF (m ρ O):=rfl
@[simp] theorem Qv9 {d:D}{O:Qab}:fzF (.rt d O) = .rt d O:=rfl
def ziF (d e:D) (O:Qab):Res (List D):=match d,e with
 | .lst ds,.lst es=>.ok (QmG ds es) O
 | _,_=>.no
@[simp] theorem QwM {ma mb:M D}{ρ:Qak}{O:Qab}:Qtk ma mb ρ O=(ma ρ O).bind fun d O1=>(mb ρ O1).bind fun e O2=>ziF d e O2:=by
 unfold Qtk;congr 1
@[simp] theorem QwZ {ds es:List D}{O:Qab}:ziF (.lst ds) (.lst es) O = .ok (QmG ds es) O:=rfl
end L2
namespace L2
open PySem
section
variable {ρ ρ':Qak}{O O' O1 O2:Qab}{d:D}{x:Xc}{a b m:MS}{r:M D}{t:M Bool}{ma:M (List D)}{c:List D→Qab→Res D}{ds:List D}
theorem Qa9 (h:a ρ O = .nx ρ' O'):Qaj a b ρ O=b ρ' O':=by rw [Qfl,h,Qif]
theorem Qqi (h:a ρ O = .rt d O'):Qaj a b ρ O = .rt d O':=by rw [Qfl,h,QrM]
theorem QdF (h:a ρ O = .ex x O'):Qaj a b ρ O = .ex x O':=by rw [Qfl,h]; rfl
theorem Qji (h:t ρ O = .ok true O'):QdJ t a b ρ O=a ρ O':=by unfold QdJ; rw [h]; rfl
theorem Qqj (h:t ρ O = .ok false O'):QdJ t a b ρ O=b ρ O':=by unfold QdJ; rw [h]; rfl
theorem QhQ (h:t ρ O = .ok false O'):QdJ t a Qau ρ O = .nx ρ O':=Qqj h
theorem QmM (h:m ρ O = .nx ρ' O'):msN m ρ O = .nx ρ' O':=by unfold msN; rw [h]
theorem Quz (h:m ρ O = .rt d O'):msN m ρ O = .rt d O':=by unfold msN; rw [h]
theorem Qjk (h:ma ρ O = .ok ds O1):QcW c ma ρ O=c ds O1:=by unfold QcW; rw [h]
theorem Qt1 (h:r ρ O = .ok d O'):Qes r ρ O = .nx ρ O':=by unfold Qes; rw [h]
theorem QpG (h:r ρ O = .ex x O'):Qes r ρ O = .ex x O':=by unfold Qes; rw [h]
theorem QrS {i:Nat} (h:r ρ O = .ex x O'):Qhj i r ρ O = .ex x O':=by unfold Qhj; rw [h]
theorem Qjp (h:r ρ O = .ex x O'):Qfy r ρ O = .ex x O':=by unfold Qfy; rw [h]
theorem Qoz {cc nn:Str} (h:r ρ O = .ok d O'):QdN cc nn r ρ O = .ex ⟨cc,[(nn,d)]⟩ O':=by unfold QdN; rw [h]
theorem Qqt {cl mm:Str}{cf:List D→Qab→Res D}{n:Nat}{fs:List (Str×D)} (h1:r ρ O = .ok (.ob n) O1) (h2:O1[n]? = some (.ins cl fs)) (h3:(fs.lookup mm).isNone=true) (h4:ma ρ O1 = .ok ds O2):Qfx cl mm cf r ma ρ O=cf (.ob n::ds) O2:=by
 unfold Qfx;rw [h1];dsimp only;rw [h2];dsimp only;rw [if_pos ⟨rfl,h3⟩,h4]
theorem QoU {g:MG} (h:ma ρ O = .ok ds O'):QdC ma g b ρ O=Qa8 g b ds ρ O':=by unfold QdC; rw [h]
theorem Qqw {g:MG} (h:ma ρ O = .ok ds O'):Qc6 ma g b ρ O=Qa8 g b ds ρ O':=by rw [QsM,h,Qq2]
theorem Qr1 {hs:List HM} (h:r ρ O = .ex x O'):Qhn r hs ρ O=QfA hs x ρ O':=by unfold Qhn; rw [h]
theorem QpN {ys ns:List Str}{i:Nat}{rest:List HM} (hy:ys.contains x.cls=true) (h:m (ρ.set i (some (.ob O.length))) (O ++ [.xc x.cls x.fs]) = .rt d O'):QfA ((ys,ns,i,m)::rest) x ρ O = .rt d O':=by
 unfold QfA;rw [if_pos hy,h]
theorem QoZ {tb:List (Str×Bool)}{n:Nat}{cc:Str}{fs:List (Str×D)}{bb:Bool} (h:r ρ O = .ok (.ob n) O') (h2:O'[n]? = some (.xc cc fs)) (h3:tb.lookup cc=some bb):Qei tb r ρ O = .ok (.bl bb) O':=by
 unfold Qei;rw [h];show (match O'[n]? with | some (.xc c _)=>(match tb.lookup c with | some b=>Res.ok (D.bl b) O' | none=>.no) | _=>.no)=_;rw [h2];dsimp only;rw [h3]
theorem Qtz {f:Str}{L:List Str}{n:Nat}{cc:Str}{fs:List (Str×D)} (h:r ρ O = .ok (.ob n) O') (h2:O'[n]? = some (.xc cc fs)) (h3:L.contains cc=true) (h4:fs.lookup f=some d):Qcj f L r ρ O = .ok d O':=by
 unfold Qcj;rw [h];show (match O'[n]? with | some (.xc c fs)=>(if L.contains c=true then (match fs.lookup f with | some d=>Res.ok d O' | none=>.no) else .no) | _=>.no)=_;rw [h2];dsimp only;rw [if_pos h3,h4]
end
end L2
namespace K16
open PySem L2
seal VE SE OE WE TsE TwE AE VS VSs VG VGs VI VIc VO VIf DPE VSF Qgd VEF VIF VEH VHs
def top (i:Nat):Stmt:=PySem.Challenge.pw_outweave_k16_signs_refused.main.body.getD i (.Pass ⟨0,0,0,0⟩)
local macro_rules | `(tactic| trivial) => `(tactic| exact ⟨rfl, rfl, rfl, by decide +kernel, rfl, by decide +kernel, by decide +kernel⟩)
section
variable {Pr:Program}{w:World}{K:Frag}{mg:Str→Option Value}{base:Heap}
abbrev Qcu:Stmt:=inClass (top 2) 0
theorem QnN (Qps:Qef K mg "NoSign" "at" "NoSign.__init__" Qcu):Qde Pr w K mg base "NoSign" "at" 1:=Qps.can (sf:="self") (pn:="at") (by trivial) (fun _ _ _ _ _ _=>QaV fun _=>QaV fun _=>QbD rfl) rfl (.inl rfl) (.inl rfl) (fun _ _ _=>rfl)
abbrev Qcp:Stmt:=inClass (top 5) 0
theorem Qnp (Qpb:Qef K mg "NoHand" "name" "NoHand.__init__" Qcp):Qde Pr w K mg base "NoHand" "name" 1:=Qpb.can (sf:="self") (pn:="name") (by trivial) (fun _ _ _ _ _ _=>QaV fun _=>QaV fun _=>QbD rfl) rfl (.inl rfl) (.inl rfl) (fun _ _ _=>rfl)
abbrev Qcr:Stmt:=inClass (top 3) 0
theorem QnA (QoR:Qef K mg "NoRoom" "at" "NoRoom.__init__" Qcr):Qde Pr w K mg base "NoRoom" "at" 1:=QoR.can (sf:="self") (pn:="at") (by trivial) (fun _ _ _ _ _ _=>QaV fun _=>QaV fun _=>QbD rfl) rfl (.inl rfl) (.inl rfl) (fun _ _ _=>rfl)
abbrev Qcs:Stmt:=inClass (top 4) 0
theorem Qok (Qqa:Qef K mg "NoRoll" "at" "NoRoll.__init__" Qcs):Qde Pr w K mg base "NoRoll" "at" 1:=Qqa.can (sf:="self") (pn:="at") (by trivial) (fun _ _ _ _ _ _=>QaV fun _=>QaV fun _=>QbD rfl) rfl (.inl rfl) (.inl rfl) (fun _ _ _=>rfl)
abbrev QcM:Stmt:=inClass (top 6) 0
theorem Qo2 (QqY:Qef K mg "Twice" "name" "Twice.__init__" QcM):Qde Pr w K mg base "Twice" "name" 1:=QqY.can (sf:="self") (pn:="name") (by trivial) (fun _ _ _ _ _ _=>QaV fun _=>QaV fun _=>QbD rfl) rfl (.inl rfl) (.inl rfl) (fun _ _ _=>rfl)
abbrev Qcq:Stmt:=inClass (top 7) 0
theorem QoB (Qpi:Qef K mg "Closed" "name" "Closed.__init__" Qcq):Qde Pr w K mg base "Closed" "name" 1:=Qpi.can (sf:="self") (pn:="name") (by trivial) (fun _ _ _ _ _ _=>QaV fun _=>QaV fun _=>QbD rfl) rfl (.inl rfl) (.inl rfl) (fun _ _ _=>rfl)
abbrev QhF:Stmt:=top 18
theorem Qmz:QaK ["thing"] ["thing"] (Qah QhF):=by trivial
def Qhc:MS :=
  (Qat (QcT (Qda "str" (Qac 0)) (QcT (Qae gEq (Qbd QbN (Qaa (Qac 0) Qaf)) (mC (.int 1))) (Qhx gLe gLe (mC (.str [32])) (Qac 0) (mC (.str [125]))))))
def QdV:List D→Qab→Res D:=Qbc 1 Qhc
abbrev QjY (Pr:Program) (w:World) (K:Frag) (mg:Str→Option Value) (base:Heap):Prop:=Can Pr w K mg base "is_sign" ["thing"] 1 (vSp K mg [.s] (rV K) QdV)
theorem Qmg (QhD:Def K mg "is_sign" QhF)
  (B:Blt mg)
  (Qfw:∃u,mg "FIRST_SIGN" = some u∧RelV (.str (S [32])) u)
  (Qgc:∃u,mg "LAST_SIGN" = some u∧RelV (.str (S [125])) u) :
  QjY Pr w K mg base:=by
 refine Qdd (k:=0) (b:=Qhc) QhD Qmz (fun _ _ _ _ _ _=>QaV fun _=>QbD rfl) [.s] [] Qbe (fun _ _ _ _=>Rp.non) (body:=fun f cdv A outer s H E hr P=>?_);refine Qar ?_;refine QaA ?_;refine QcX ?_ ?_;refine QaH (Qek "str" (hb:=QhU) B.isinstance_ B.str_ (Qao 0));refine QcX ?_ ?_;refine QaH ?_;refine QdX (QaT hr) ?_ (Qad Qai) (QaG _);refine Qav ?_;refine Qbs (ms:=[.s]) (hv:=QbT) QbV B.len_ ?_;refine Qaz (Qao 0) Qam;refine QfC ?_;refine QaH ?_;refine Qo8 Qqz Qqz ?_ (Qao 0) ?_;refine Qad ?_;refine QdQ Qfw (fun _ _ _=>Rp.str);refine Qad ?_;refine QdQ Qgc (fun _ _ _=>Rp.str)
abbrev Qf7:Stmt:=top 19
theorem Qk8:QaK ["thing"] ["thing"] (Qah Qf7):=by trivial
def Qgl:MS :=
  (Qat (QcT (Qda "str" (Qac 0)) (QcT (Qae gEq (Qbd QbN (Qaa (Qac 0) Qaf)) (mC (.int 1))) (Qae (gIn false) (Qac 0) (mC (.str [97,98,99,100,101,102,103,104,46]))))))
def QcC:List D→Qab→Res D:=Qbc 1 Qgl
abbrev Qge (Pr:Program) (w:World) (K:Frag) (mg:Str→Option Value) (base:Heap):Prop:=Can Pr w K mg base "is_colour" ["thing"] 1 (vSp K mg [.s] (rV K) QcC)
theorem QkJ (Qf9:Def K mg "is_colour" Qf7)
  (B:Blt mg)
  (Qhf:∃u,mg "COLOURS" = some u∧RelV (.str (S [97,98,99,100,101,102,103,104,46])) u) :
  Qge Pr w K mg base:=by
 refine Qdd (k:=0) (b:=Qgl) Qf9 Qk8 (fun _ _ _ _ _ _=>QaV fun _=>QbD rfl) [.s] [] Qbe (fun _ _ _ _=>Rp.non) (body:=fun f cdv A outer s H E hr P=>?_);refine Qar ?_;refine QaA ?_;refine QcX ?_ ?_;refine QaH (Qek "str" (hb:=QhU) B.isinstance_ B.str_ (Qao 0));refine QcX ?_ ?_;refine QaH ?_;refine QdX (QaT hr) ?_ (Qad Qai) (QaG _);refine Qav ?_;refine Qbs (ms:=[.s]) (hv:=QbT) QbV B.len_ ?_;refine Qaz (Qao 0) Qam;refine QfC ?_;refine QaH ?_;refine QdX Qml (Qao 0) ?_ (by with_unfolding_all rfl);refine Qad ?_;refine QdQ Qhf (fun _ _ _=>Rp.str)
abbrev QhV:Stmt:=top 20
theorem QgO:QaK ["text","place","sign"] ["text"] (Qah QhV):=by trivial
def QcP:MS :=
  (Qaj (QdJ (QbF (QbI (Qda "str" (Qac 0)))) (Qaj (QdN "NoSign" "at" (mC (.int 0)))
  Qau) Qau)
  (Qaj (QdC (QgN (Qac 0)) (QgI 2 (QbO (mgN 1) (QbO (mgN 2) QeK))) (Qaj (QdJ (QbF (Qck (QbI (Qax QdV (Qaa (Qac 2) Qaf))) (Qck (Qaw (Qae gEq (Qac 2) (mC (.str [10])))) (Qaw (Qae gEq (Qac 2) (mC (.str [9]))))))) (Qaj (QdN "NoSign" "at" (Qac 1))
  Qau) Qau)
  Qau))
  Qau))
def Qbm:List D→Qab→Res D:=Qbc 3 QcP
abbrev Qho (Pr:Program) (w:World) (K:Frag) (mg:Str→Option Value) (base:Heap):Prop:=QgP Pr w K mg base "checked" ["text"] 3 (Qdg K mg [.s] (rV K) Qbm)
theorem QmS (Qhd:Def K mg "checked" QhV)
  (B:Blt mg)
  (Qc2:∃u,mg "ANEW_SIGN" = some u∧RelV (.str (S [9])) u)
  (QdW:∃u,mg "ROW_END" = some u∧RelV (.str (S [10])) u)
  (XI_NoSign:Qde Pr w K mg base "NoSign" "at" 1)
  (QhL:QjY Pr w K mg base) :
  Qho Pr w K mg base:=by
 refine Qmr (k:=2) (b:=QcP) Qhd QgO (fun _ _ _ _ _ _=>QaV fun _=>QbD rfl) [.s] [.v,.v] Qbe (fun _ _ _ _=>Rp.non) (body:=fun f cdv A outer s H E hr P=>?_)
 refine Qbp (Qkp (Qdh (Qb9 (Qav (Qek "str" (hb:=QhU) B.isinstance_ B.str_ (Qao 0))))) (Qbp (QjT XI_NoSign (hr.mono (by decide)) rfl Qai)
   Qb4) Qb4) (Qbp (Qog rfl (QlI B.enumerate_ (QiR 0)) (QkG 2 rfl (Qeu (Qce (i:=1) QgO.nd rfl (.inl rfl)) (Qeu (Qce (i:=2) QgO.nd rfl (.inl rfl)) Qjn))) (Qbp (Qkp (Qdh (Qfr (QeI (Qb9 (Qad (QaS QhL (hr.mono (by decide)) (Qaz (Qad (Qag 2)) Qam)))) (QeI (QaL (QaT hr) (Qad (Qag 2)) (Qad (QdQ QdW (fun _ _ _=>Rp.str))) (QaG _)) (Qfu (QaL (QaT hr) (Qad (Qag 2)) (Qad (QdQ Qc2 (fun _ _ _=>Rp.str))) (QaG _))))))) (Qbp (QjT XI_NoSign (hr.mono (by decide)) rfl (Qag 1))
   Qb4) Qb4)
   Qb4))
   Qb4)
abbrev QhS:Stmt:=top 22
theorem Qms:QaK ["text"] ["text"] (Qah QhS):=by trivial
def QdU:MS :=
  (Qaj (QaR (Qaw (Qae gEq (Qac 0) (mC (.str [91,93])))) (Qat (Qb8 (Qaa (mC (.str [112,108,97,105,110])) (Qaa (mC (.str [])) Qaf)))) Qau)
  (Qaj (QaR (Qaw (Qae gEq (Qac 0) (mC (.str [91,91])))) (Qat (Qb8 (Qaa (mC (.str [115,105,103,110])) (Qaa (mC (.str [91])) Qaf)))) Qau)
  (Qaj (QaR (QcS (Qaw (Qae gEq (Qbd QbN (Qaa (Qac 0) Qaf)) (mC (.int 3)))) (QcS (Qaw (Qae gEq (Qae gIx (Qac 0) (mC (.int 0))) (mC (.str [91])))) (QcS (QbI (Qax QcC (Qaa (Qae gIx (Qac 0) (mC (.int 1))) Qaf))) (Qaw (Qae gEq (Qae gIx (Qac 0) (mC (.int 2))) (mC (.str [93]))))))) (Qat (Qb8 (Qaa (mC (.str [105,110,107])) (Qaa (Qae gIx (Qac 0) (mC (.int 1))) Qaf)))) Qau)
  (Qaj (QaR (QcS (Qaw (Qae gEq (Qbd QbN (Qaa (Qac 0) Qaf)) (mC (.int 4)))) (QcS (QbI (Qh3 (mG (Qac 0)) (mC (.str [91,47])))) (QcS (QbI (Qax QcC (Qaa (Qae gIx (Qac 0) (mC (.int 2))) Qaf))) (Qaw (Qae gEq (Qae gIx (Qac 0) (mC (.int 3))) (mC (.str [93]))))))) (Qat (Qb8 (Qaa (mC (.str [103,114,111,117,110,100])) (Qaa (Qae gIx (Qac 0) (mC (.int 2))) Qaf)))) Qau)
  (Qat (mC .non))))))
def Qdj:List D→Qab→Res D:=Qbc 1 QdU
abbrev Qj3 (Pr:Program) (w:World) (K:Frag) (mg:Str→Option Value) (base:Heap):Prop:=Can Pr w K mg base "mark_of" ["text"] 2 (vSp K mg [.s] (rV K) Qdj)
theorem Qm5 (Qhv:Def K mg "mark_of" QhS)
  (B:Blt mg)
  (Qcc:Qge Pr w K mg base) :
  Qj3 Pr w K mg base:=by
 refine Qdd (k:=1) (b:=QdU) Qhv Qms (fun _ _ _ _ _ _=>QaV fun _=>QbD rfl) [.s] [] Qbe (fun _ _ _ _=>Rp.non) (body:=fun f cdv A outer s H E hr P=>?_);refine Qal ?_ ?_;refine Qa2 ?_ ?_ QaO;refine QaL (QaT hr) (Qao 0) (Qad (Qap [91,93])) (QaG _);refine Qar ?_;refine QaA ?_;refine Qbw 2 ?_;refine Qaq (Qap [112,108,97,105,110]) ?_;refine Qaq (Qap []) Qam;refine Qal ?_ ?_;refine Qa2 ?_ ?_ QaO;refine QaL (QaT hr) (Qao 0) (Qad (Qap [91,91])) (QaG _);refine Qar ?_;refine QaA ?_;refine Qbw 2 ?_;refine Qaq (Qap [115,105,103,110]) ?_;refine Qaq (Qap [91]) Qam;refine Qal ?_ ?_;refine Qa2 ?_ ?_ QaO;refine Qfr ?_
 refine QcZ ?_ ?_;refine QaL (QaT hr) ?_ (Qad Qai) (QaG _);refine Qav ?_;refine Qbs (ms:=[.s]) (hv:=QbT) QbV B.len_ ?_;refine Qaz (Qao 0) Qam;refine QcZ ?_ ?_;refine QaL (QaT hr) ?_ (Qad (Qap [91])) (QaG _);refine Qad ?_;refine Qa7 (Qao 0) (Qad Qai);refine QcZ ?_ ?_;refine Qb9 ?_;refine Qad ?_;refine QaS Qcc (hr.mono (by decide)) ?_;refine Qaz ?_ Qam;refine Qad ?_;refine Qa7 (Qao 0) (Qad Qai);refine Qh8 ?_;refine QaL (QaT hr) ?_ (Qad (Qap [93])) (QaG _);refine Qad ?_;refine Qa7 (Qao 0) (Qad Qai);refine Qar ?_;refine QaA ?_;refine Qbw 2 ?_;refine Qaq (Qap [105,110,107]) ?_;refine Qaq ?_ Qam;refine Qa7 (Qao 0) (Qad Qai)
 refine Qal ?_ ?_;refine Qa2 ?_ ?_ QaO;refine Qfr ?_;refine QcZ ?_ ?_;refine QaL (QaT hr) ?_ (Qad Qai) (QaG _);refine Qav ?_;refine Qbs (ms:=[.s]) (hv:=QbT) QbV B.len_ ?_;refine Qaz (Qao 0) Qam;refine QcZ ?_ ?_;refine Qb9 ?_;refine Qav ?_;refine QjV (Qb6 (Qao 0)) (Qap [91,47]);refine QcZ ?_ ?_;refine Qb9 ?_;refine Qad ?_;refine QaS Qcc (hr.mono (by decide)) ?_;refine Qaz ?_ Qam;refine Qad ?_;refine Qa7 (Qao 0) (Qad Qai);refine Qh8 ?_;refine QaL (QaT hr) ?_ (Qad (Qap [93])) (QaG _);refine Qad ?_;refine Qa7 (Qao 0) (Qad Qai);refine Qar ?_;refine QaA ?_;refine Qbw 2 ?_;refine Qaq (Qap [103,114,111,117,110,100]) ?_
 refine Qaq ?_ Qam;refine Qa7 (Qao 0) (Qad Qai);refine Qar (QaA Qnv)
abbrev Qdx:Stmt:=top 23
theorem Qhy:QaK ["text"] ["text"] (Qah Qdx):=by trivial
def QbQ:MS :=
  (Qaj (QaR (Qck (Qaw (Qae gEq (Qac 0) (mC (.str [91])))) (Qaw (Qae gEq (Qac 0) (mC (.str [91,47]))))) (Qat (mC (.bl true))) Qau)
  (Qaj (QaR (Qaw (Qae gEq (Qbd QbN (Qaa (Qac 0) Qaf)) (mC (.int 2)))) (Qat (QcT (Qae gEq (Qae gIx (Qac 0) (mC (.int 0))) (mC (.str [91]))) (Qax QcC (Qaa (Qae gIx (Qac 0) (mC (.int 1))) Qaf)))) Qau)
  (Qat (QcT (Qae gEq (Qbd QbN (Qaa (Qac 0) Qaf)) (mC (.int 3))) (QcT (Qh3 (mG (Qac 0)) (mC (.str [91,47]))) (Qax QcC (Qaa (Qae gIx (Qac 0) (mC (.int 2))) Qaf)))))))
def QbA:List D→Qab→Res D:=Qbc 1 QbQ
abbrev Qe9 (Pr:Program) (w:World) (K:Frag) (mg:Str→Option Value) (base:Heap):Prop:=Can Pr w K mg base "may_become_mark" ["text"] 2 (vSp K mg [.s] (rV K) QbA)
theorem Qhg (QdB:Def K mg "may_become_mark" Qdx)
  (B:Blt mg)
  (Qcc:Qge Pr w K mg base) :
  Qe9 Pr w K mg base:=by
 refine Qdd (k:=1) (b:=QbQ) QdB Qhy (fun _ _ _ _ _ _=>QaV fun _=>QbD rfl) [.s] [] Qbe (fun _ _ _ _=>Rp.non) (body:=fun f cdv A outer s H E hr P=>?_);refine Qal ?_ ?_;refine Qa2 ?_ ?_ QaO;refine Qfr ?_;refine QeI ?_ ?_;refine QaL (QaT hr) (Qao 0) (Qad (Qap [91])) (QaG _);refine Qfu ?_;refine QaL (QaT hr) (Qao 0) (Qad (Qap [91,47])) (QaG _);refine Qar (QaA Qej);refine Qal ?_ ?_;refine Qa2 ?_ ?_ QaO;refine QaL (QaT hr) ?_ (Qad Qai) (QaG _);refine Qav ?_;refine Qbs (ms:=[.s]) (hv:=QbT) QbV B.len_ ?_;refine Qaz (Qao 0) Qam;refine Qar ?_;refine QaA ?_;refine QcX ?_ ?_;refine QaH ?_;refine QdX (QaT hr) ?_ (Qad (Qap [91])) (QaG _)
 refine Qad ?_;refine Qa7 (Qao 0) (Qad Qai);refine QfC ?_;refine QaS Qcc (hr.mono (by decide)) ?_;refine Qaz ?_ Qam;refine Qad ?_;refine Qa7 (Qao 0) (Qad Qai);refine Qar ?_;refine QaA ?_;refine QcX ?_ ?_;refine QaH ?_;refine QdX (QaT hr) ?_ (Qad Qai) (QaG _);refine Qav ?_;refine Qbs (ms:=[.s]) (hv:=QbT) QbV B.len_ ?_;refine Qaz (Qao 0) Qam;refine QcX ?_ ?_;refine QaH ?_;refine QjV (Qb6 (Qao 0)) (Qap [91,47]);refine QfC ?_;refine QaS Qcc (hr.mono (by decide)) ?_;refine Qaz ?_ Qam;refine Qad ?_;refine Qa7 (Qao 0) (Qad Qai)
abbrev Qg4:Stmt:=top 24
theorem QlD:QaK ["place","sign"] ["place","sign"] (Qah Qg4):=by trivial
def Qg1:MS :=
  (Qaj (QaR (Qaw (Qae gEq (Qac 1) (mC (.str [10])))) (Qat (Qb8 (Qaa (mG (Qac 0)) (Qaa (mC (.str [101,110,100])) (Qaa (mC (.str [])) Qaf))))) Qau)
  (Qaj (QaR (Qaw (Qae gEq (Qac 1) (mC (.str [9])))) (Qat (Qb8 (Qaa (mG (Qac 0)) (Qaa (mC (.str [97,110,101,119])) (Qaa (mC (.str [])) Qaf))))) Qau)
  (Qat (Qb8 (Qaa (mG (Qac 0)) (Qaa (mC (.str [115,105,103,110])) (Qaa (mG (Qac 1)) Qaf)))))))
def Qd1:List D→Qab→Res D:=Qbc 2 Qg1
abbrev QiV (Pr:Program) (w:World) (K:Frag) (mg:Str→Option Value) (base:Heap):Prop:=Can Pr w K mg base "own_item" ["place","sign"] 1 (vSp K mg [.s,.s] (rV K) Qd1)
theorem Qly (QgC:Def K mg "own_item" Qg4)
  (B:Blt mg)
  (Qc2:∃u,mg "ANEW_SIGN" = some u∧RelV (.str (S [9])) u)
  (QdW:∃u,mg "ROW_END" = some u∧RelV (.str (S [10])) u) :
  QiV Pr w K mg base:=by
 refine Qdd (k:=0) (b:=Qg1) QgC QlD (fun _ _ _ _ _ _=>QaV fun _=>QaV fun _=>QbD rfl) [.s,.s] [] Qbe (fun _ _ _ _=>Rp.non) (body:=fun f cdv A outer s H E hr P=>?_);refine Qal ?_ ?_;refine Qa2 ?_ ?_ QaO;refine QaL (QaT hr) (Qao 1) ?_ (QaG _);refine Qad ?_;refine QdQ QdW (fun _ _ _=>Rp.str);refine Qar ?_;refine QaA ?_;refine Qbw 3 ?_;refine Qaq (Qb6 (Qao 0)) ?_;refine Qaq (Qap [101,110,100]) ?_;refine Qaq (Qap []) Qam;refine Qal ?_ ?_;refine Qa2 ?_ ?_ QaO;refine QaL (QaT hr) (Qao 1) ?_ (QaG _);refine Qad ?_;refine QdQ Qc2 (fun _ _ _=>Rp.str);refine Qar ?_;refine QaA ?_;refine Qbw 3 ?_;refine Qaq (Qb6 (Qao 0)) ?_
 refine Qaq (Qap [97,110,101,119]) ?_;refine Qaq (Qap []) Qam;refine Qar ?_;refine QaA ?_;refine Qbw 3 ?_;refine Qaq (Qb6 (Qao 0)) ?_;refine Qaq (Qap [115,105,103,110]) ?_;refine Qaq (Qb6 (Qao 1)) Qam
abbrev QeB:Stmt:=top 25
theorem Qll:QaK ["place","signs"] ["place","signs"] (Qah QeB):=by trivial
def Qf6:MS :=
  (Qat (Qih (QgN (Qac 1)) 2 [0] (QgI 2 (QbO (mgN 0) (QbO (mgN 1) QeK))) Qjx (Qax Qd1 (Qaa (Qae QaF (Qac 2) (Qac 0)) (Qaa (Qac 1) Qaf)))))
def Qc1:List D→Qab→Res D:=Qbc 2 Qf6
abbrev Qf5 (Pr:Program) (w:World) (K:Frag) (mg:Str→Option Value) (base:Heap):Prop:=Can Pr w K mg base "own_items" ["place","signs"] 2 (vSp K mg [.s,.s] (rO K) Qc1)
theorem Qk7 (Qf1:Def K mg "own_items" QeB)
  (B:Blt mg)
  (Qg3:QiV Pr w K mg base) :
  Qf5 Pr w K mg base:=by
 refine Qdd (k:=1) (b:=Qf6) Qf1 Qll (fun _ _ _ _ _ _=>QaV fun _=>QaV fun _=>QbD rfl) [.s,.s] [] Qdn (fun _ _ _ _=>.inl ⟨rfl,Rp.non⟩) (body:=fun f cdv A outer s H E hr P=>?_);refine Qar ?_;refine Qh6 ?_;refine Ql8 (Qah QeB) ["place","signs"] ["k","sign"] [0] rfl ?_ (fun _ _ _ _ P=>?_) (fun _ _ _ _ P=>?_) (fun _ _ _ _ P=>?_);refine QkZ (QlI B.enumerate_ (QiR 1));refine QkG 2 rfl ?_;refine Qeu (Qce (i:=0) (show (Qbu ["place","signs"] ["k","sign"] [0]).Nodup by decide +kernel) rfl (.inl rfl)) ?_;refine Qeu (Qce (i:=1) (show (Qbu ["place","signs"] ["k","sign"] [0]).Nodup by decide +kernel) rfl (.inl rfl)) Qjn
 exact Qmd
 refine QaS Qg3 (hr.mono (by decide)) ?_;refine Qaz ?_ ?_;refine Qav ?_;refine Qas QaM (Qao 2) (Qad (Qag 0));refine Qaz (Qad (Qag 1)) Qam
abbrev Qdv:Stmt:=inClass (top 26) 0
theorem Qhk:QaK ["self"] ["self"] (Qah Qdv):=by trivial
def Qdt:MS :=
  (Qaj (QdM ["Reader"] "held" (Qac 0) (mC (.str [])))
  (QdM ["Reader"] "place" (Qac 0) (mC (.int 0))))
def Qbl:List D→Qab→Res D:=Qbc 1 Qdt
abbrev Qdy (Pr:Program) (w:World) (K:Frag) (mg:Str→Option Value) (base:Heap):Prop:=Qpe Pr w K mg base "Reader" ["self"] 1 (vSp K mg [.v] (rV K) Qbl)
theorem QhI (Qds:QoY K mg "Reader" "Reader.__init__" Qdv)
  (B:Blt mg)
  (QaN:KC K mg "Reader" "held")
  (Qbb:KC K mg "Reader" "place") :
  Qdy Pr w K mg base:=by
 refine Quk (k:=0) (b:=Qdt) Qds Qhk (fun _ _ _ _ _ _=>QaV fun _=>QbD rfl) [.v] [] Qbe (fun _ _ _ _=>Rp.non) (body:=fun f cdv A outer s H E hr P=>?_);refine Qal ?_ ?_;refine QeR (QbK QaN Qb2) (Qag 0) (Qap []);refine Qar ?_;refine QeR (QbK Qbb Qb2) (Qag 0) Qai
abbrev Qe0:Stmt:=inClass (top 26) 4
theorem QcJ:QaK ["self","sign","seen","first","mark","told"] ["self","sign"] (Qah Qe0):=by trivial
def Qe3:MS :=
  (Qaj (QaB 2 (Qae QaF (Qfn ["Reader"] "held" (Qac 0)) (Qac 1)))
  (Qaj (QaB 3 (Qae QiP (Qfn ["Reader"] "place" (Qac 0)) (Qbd QbN (Qaa (Qfn ["Reader"] "held" (Qac 0)) Qaf))))
  (Qaj (QdM ["Reader"] "place" (Qac 0) (Qae QaF (Qfn ["Reader"] "place" (Qac 0)) (mC (.int 1))))
  (Qaj (QaR (QbI (Qax QbA (Qaa (Qac 2) Qaf))) (Qaj (QdM ["Reader"] "held" (Qac 0) (Qac 2))
  (Qat (Qbx Qaf))) Qau)
  (Qaj (QaB 4 (Qax Qdj (Qaa (Qac 2) Qaf)))
  (Qaj (QaR (Qaw (QeD (Qac 4))) (Qaj (QdM ["Reader"] "held" (Qac 0) (mC (.str [])))
  (Qat (Qbx (Qaa (Qb8 (Qaa (Qac 3) (Qaa (Qae gIx (Qac 4) (mC (.int 0))) (Qaa (Qae gIx (Qac 4) (mC (.int 1))) Qaf)))) Qaf)))) Qau)
  (Qaj (QaR (Qaw (Qae gEq (Qac 1) (mC (.str [91])))) (Qaj (QaB 5 (Qax Qc1 (Qaa (Qac 3) (Qaa (Qfn ["Reader"] "held" (Qac 0)) Qaf))))
  (Qaj (QdM ["Reader"] "held" (Qac 0) (mG (Qac 1)))
  (Qat (Qac 5)))) Qau)
  (Qaj (QdM ["Reader"] "held" (Qac 0) (mC (.str [])))
  (Qat (Qax Qc1 (Qaa (Qac 3) (Qaa (Qac 2) Qaf))))))))))))
def QbR:List D→Qab→Res D:=Qbc 6 Qe3
abbrev Qg8 (Pr:Program) (w:World) (K:Frag) (mg:Str→Option Value) (base:Heap):Prop:=QfD Pr w K mg base "Reader" "take" ["self","sign"] 3 (vSp K mg [.v,.s] (rO K) QbR)
theorem Qjo (QeT:QiG K mg "Reader" "take" "Reader.take" Qe0)
  (B:Blt mg)
  (Qbb:KC K mg "Reader" "place")
  (QaN:KC K mg "Reader" "held")
  (Qdu:Qe9 Pr w K mg base)
  (QhY:Qj3 Pr w K mg base)
  (QcF:Qf5 Pr w K mg base) :
  Qg8 Pr w K mg base:=by
 refine Qnd (k:=2) (b:=Qe3) QeT QcJ (fun _ _ _ _ _ _=>QaV fun _=>QaV fun _=>QbD rfl) [.v,.s] [.v,.v,.v,.o] Qdn (fun _ _ _ _=>.inl ⟨rfl,Rp.non⟩) (body:=fun f cdv A outer s H E hr P=>?_);refine Qal ?_ ?_;refine QaQ (i:=2) QcJ.nd rfl (.inl rfl) ?_;refine QaH ?_;refine Qas QaM ?_ (Qao 1);refine Qad (Qeg (QbK QaN Qb2) (Qag 0));refine Qal ?_ ?_;refine QaQ (i:=3) QcJ.nd rfl (.inl rfl) ?_;refine QaH ?_;refine Qas Qoc ?_ ?_;refine Qad (Qeg (QbK Qbb Qb2) (Qag 0));refine Qav ?_;refine Qbs (ms:=[.s]) (hv:=QbT) QbV B.len_ ?_;refine Qaz ?_ Qam;refine Qad (Qeg (QbK QaN Qb2) (Qag 0));refine Qal ?_ ?_;refine QeR (QbK Qbb Qb2) (Qag 0) ?_
 refine QaH ?_;refine Qas QaM ?_ (Qad Qai);refine Qad (Qeg (QbK Qbb Qb2) (Qag 0));refine Qal ?_ ?_;refine Qa2 ?_ ?_ QaO;refine Qb9 ?_;refine Qad ?_;refine QaS Qdu (hr.mono (by decide)) ?_;refine Qaz (Qad (Qag 2)) Qam;refine Qal ?_ ?_;refine QeR (QbK QaN Qb2) (Qag 0) (Qag 2);refine Qar ?_;refine Qh6 (QbS 0 Qam);refine Qal ?_ ?_;refine QaQ (i:=4) QcJ.nd rfl (.inl rfl) ?_;refine QaS QhY (hr.mono (by decide)) ?_;refine Qaz (Qad (Qag 2)) Qam;refine Qal ?_ ?_;refine Qa2 ?_ ?_ QaO;refine Qjs (Qad (Qag 4));refine Qal ?_ ?_;refine QeR (QbK QaN Qb2) (Qag 0) (Qap []);refine Qar ?_;refine Qh6 ?_;refine QbS 1 ?_
 refine Qaq ?_ Qam;refine Qbw 3 ?_;refine Qaq (Qag 3) ?_;refine Qaq ?_ ?_;refine Qa7 (Qad (Qag 4)) (Qad Qai);refine Qaq ?_ Qam;refine Qa7 (Qad (Qag 4)) (Qad Qai);refine Qal ?_ ?_;refine Qa2 ?_ ?_ QaO;refine QaL (QaT hr) (Qao 1) (Qad (Qap [91])) (QaG _);refine Qal ?_ ?_;refine Qgu (i:=5) QcJ.nd rfl (.inl rfl) ?_;refine Qia QcF (hr.mono (by decide)) ?_;refine Qaz (Qad (Qag 3)) ?_;refine Qaz ?_ Qam;refine Qad (Qeg (QbK QaN Qb2) (Qag 0));refine Qal ?_ (Qar (QjG 5));refine QeR (QbK QaN Qb2) (Qag 0) (Qb6 (Qao 1));refine Qal ?_ ?_;refine QeR (QbK QaN Qb2) (Qag 0) (Qap []);refine Qar ?_;refine Qh6 ?_;refine Qia QcF (hr.mono (by decide)) ?_
 refine Qaz (Qad (Qag 3)) ?_;refine Qaz (Qad (Qag 2)) Qam
abbrev Qe5:Stmt:=inClass (top 26) 1
theorem Qey:QaK ["self","piece","told","sign"] ["self","piece"] (Qah Qe5):=by trivial
def Qco:MS :=
  (Qaj (Qes (QcW Qbm (Qaa (Qac 1) Qaf)))
  (Qaj (msN (QaB 2 (Qbx Qaf)))
  (Qaj (QdC (QcH (Qac 1)) (mgN 3) (Qaj (msN (Qh0 2 (Qb0 "Reader" "take" QbR (Qac 0) (Qaa (Qac 3) Qaf))))
  Qau))
  (Qaj (msN (Qat (Qac 2)))
  Qau))))
def Qbj:List D→Qab→Res D:=Qbc 4 Qco
abbrev Qe2 (Pr:Program) (w:World) (K:Frag) (mg:Str→Option Value) (base:Heap):Prop:=Qi7 Pr w K mg base "Reader" "feed" ["self","piece"] 4 (Qdg K mg [.v,.s] (rO K) Qbj)
theorem Qjz (QeU:QiG K mg "Reader" "feed" "Reader.feed" Qe5)
  (B:Blt mg)
  (Qcb:Qho Pr w K mg base)
  (Qe6:Qg8 Pr w K mg base) :
  Qe2 Pr w K mg base:=by
 refine Qs4 (k:=3) (b:=Qco) QeU Qey (fun _ _ _ _ _ _=>QaV fun _=>QaV fun _=>QbD rfl) [.v,.s] [.o,.v] Qdn (fun _ _ _ _=>.inl ⟨rfl,Rp.non⟩) (body:=fun f cdv A outer s H E hr P=>?_)
 refine Qbp (Qrn (QhN Qcb (hr.mono (by decide)) (Qaz (Qao 1) Qam))) (Qbp (QkI (Qgu (i:=2) Qey.nd rfl (.inl rfl) (QbS 0 Qam)))
   (Qbp (Qog rfl (QiQ (QiR 1)) (Qce (i:=3) Qey.nd rfl (.inl rfl)) (Qbp (QkI (Qoq 2 (Qav (QjN Qe6 (hr.mono (by decide)) (Qag 0) (Qaz (Qad (Qag 3)) Qam)))))
   Qb4))
   (Qbp (QkI (QjG 2))
   Qb4)))
abbrev Qc7:Stmt:=inClass (top 26) 2
theorem Qha:QaK ["self"] ["self"] (Qah Qc7):=by trivial
def Qdb:MS :=
  (Qat (Qfn ["Reader"] "held" (Qac 0)))
def Qbv:List D→Qab→Res D:=Qbc 1 Qdb
abbrev QeJ (Pr:Program) (w:World) (K:Frag) (mg:Str→Option Value) (base:Heap):Prop:=QfD Pr w K mg base "Reader" "held_text" ["self"] 1 (vSp K mg [.v] (rV K) Qbv)
theorem Qg9 (Qdl:QiG K mg "Reader" "held_text" "Reader.held_text" Qc7)
  (B:Blt mg)
  (QaN:KC K mg "Reader" "held") :
  QeJ Pr w K mg base:=by
 refine Qnd (k:=0) (b:=Qdb) Qdl Qha (fun _ _ _ _ _ _=>QaV fun _=>QbD rfl) [.v] [] Qbe (fun _ _ _ _=>Rp.non) (body:=fun f cdv A outer s H E hr P=>?_);refine Qar ?_;refine QaA (Qeg (QbK QaN Qb2) (Qag 0))
abbrev Qd5:Stmt:=inClass (top 26) 3
theorem Qfz:QaK ["self","told"] ["self"] (Qah Qd5):=by trivial
def Qd3:MS :=
  (Qaj (QaB 1 (Qax Qc1 (Qaa (Qae QiP (Qfn ["Reader"] "place" (Qac 0)) (Qbd QbN (Qaa (Qfn ["Reader"] "held" (Qac 0)) Qaf))) (Qaa (Qfn ["Reader"] "held" (Qac 0)) Qaf))))
  (Qaj (QdM ["Reader"] "held" (Qac 0) (mC (.str [])))
  (Qat (Qac 1))))
def Qb5:List D→Qab→Res D:=Qbc 2 Qd3
abbrev Qd9 (Pr:Program) (w:World) (K:Frag) (mg:Str→Option Value) (base:Heap):Prop:=QfD Pr w K mg base "Reader" "finish" ["self"] 3 (vSp K mg [.v] (rV K) Qb5)
theorem Qiz (Qd8:QiG K mg "Reader" "finish" "Reader.finish" Qd5)
  (B:Blt mg)
  (QaN:KC K mg "Reader" "held")
  (Qbb:KC K mg "Reader" "place")
  (QcF:Qf5 Pr w K mg base) :
  Qd9 Pr w K mg base:=by
 refine Qnd (k:=2) (b:=Qd3) Qd8 Qfz (fun _ _ _ _ _ _=>QaV fun _=>QbD rfl) [.v] [.v] Qbe (fun _ _ _ _=>Rp.non) (body:=fun f cdv A outer s H E hr P=>?_);refine Qal ?_ ?_;refine QaQ (i:=1) Qfz.nd rfl (.inl rfl) ?_;refine QaH ?_;refine Qia QcF (hr.mono (by decide)) ?_;refine Qaz ?_ ?_;refine Qav ?_;refine Qas Qoc ?_ ?_;refine Qad (Qeg (QbK Qbb Qb2) (Qag 0));refine Qav ?_;refine Qbs (ms:=[.s]) (hv:=QbT) QbV B.len_ ?_;refine Qaz ?_ Qam;refine Qad (Qeg (QbK QaN Qb2) (Qag 0));refine Qaz ?_ Qam;refine Qad (Qeg (QbK QaN Qb2) (Qag 0));refine Qal ?_ ?_;refine QeR (QbK QaN Qb2) (Qag 0) (Qap []);refine Qar (QaA (Qag 1))
abbrev Qg0:Stmt:=top 27
theorem QfV:QaK ["text","reader","told"] ["text"] (Qah Qg0):=by trivial
def Qfi:MS :=
  (Qaj (msN (QaB 1 (Qfc "Reader" Qbl Qaf)))
  (Qaj (Qhj 2 (Qfx "Reader" "feed" Qbj (Qac 1) (Qaa (Qac 0) Qaf)))
  (Qaj (msN (Qat (Qae QaF (Qac 2) (Qb0 "Reader" "finish" Qb5 (Qac 1) Qaf))))
  Qau)))
def QgA:List D→Qab→Res D:=Qbc 3 Qfi
abbrev Qjj (Pr:Program) (w:World) (K:Frag) (mg:Str→Option Value) (base:Heap):Prop:=QgP Pr w K mg base "items_of" ["text"] 5 (Qdg K mg [.s] (rV K) QgA)
theorem QlF (Qgw:Def K mg "items_of" Qg0)
  (B:Blt mg)
  (QbP:Qdy Pr w K mg base)
  (Qbz:Qe2 Pr w K mg base)
  (Qb3:Qd9 Pr w K mg base) :
  Qjj Pr w K mg base:=by
 refine Qmr (k:=4) (b:=Qfi) Qgw QfV (fun _ _ _ _ _ _=>QaV fun _=>QbD rfl) [.s] [.v,.v] Qbe (fun _ _ _ _=>Rp.non) (body:=fun f cdv A outer s H E hr P=>?_)
 refine Qbp (QkI (QaQ (i:=1) QfV.nd rfl (.inl rfl) (Qlb QbP (hr.mono (by decide))))) (Qbp (Qr2 (i:=2) (Qoa (Qld Qdn Qbz (hr.mono (by decide)) (Qag 1) (Qaz (Qao 0) Qam))) QfV.nd rfl (.inl rfl))
   (Qbp (QkI (QaA (QaH (Qas QaM (Qad (Qag 2)) (Qad (Qgy Qb3 (hr.mono (by decide)) (Qag 1)))))))
   Qb4))
abbrev QgR:Stmt:=top 29
theorem QlE:QaK ["_law_script","_law_k"] ["_law_script","_law_k"] (Qah QgR):=by trivial
def QgE:MS :=
  (Qaj (QaR (Qaw (Qae gLt (Qac 1) (Qbd QbN (Qaa (Qac 0) Qaf)))) (Qat (Qae gIx (Qac 0) (Qac 1))) Qau)
  (Qat (mC (.int 0))))
def QbE:List D→Qab→Res D:=Qbc 2 QgE
abbrev Qje (Pr:Program) (w:World) (K:Frag) (mg:Str→Option Value) (base:Heap):Prop:=Can Pr w K mg base "_law_cell" ["_law_script","_law_k"] 1 (vSp K mg [.s,.s] (rV K) QbE)
theorem Qlz (Qg5:Def K mg "_law_cell" QgR)
  (B:Blt mg) :
  Qje Pr w K mg base:=by
 refine Qdd (k:=0) (b:=QgE) Qg5 QlE (fun _ _ _ _ _ _=>QaV fun _=>QaV fun _=>QbD rfl) [.s,.s] [] Qbe (fun _ _ _ _=>Rp.non) (body:=fun f cdv A outer s H E hr P=>?_);refine Qal ?_ ?_;refine Qa2 ?_ ?_ QaO;refine QaL QmV (Qao 1) ?_ (QaG _);refine Qav ?_;refine Qbs (ms:=[.s]) (hv:=QbT) QbV B.len_ ?_;refine Qaz (Qao 0) Qam;refine Qar ?_;refine QaA ?_;refine Qa7 (Qao 0) (Qao 1);refine Qar (QaA Qai)
abbrev QhO:Stmt:=top 30
theorem QcR:QaK ["_law_cell_here","_law_k","_law_rest","_law_turn","_law_number"] ["_law_cell_here","_law_k"] (Qah QhO):=by trivial
def Qka:MS :=
  (Qaj (QaR (Qaw (Qae gGt (Qac 0) (Qae Qgm (mC (.int 10)) (mC (.int 18))))) (Qaj (QaB 2 (mG (Qac 0)))
  (Qaj (Qc6 (Qie (Qaa (Qac 1) Qaf)) (mgN 3) (QaB 2 (Qae QfL (Qac 2) (Qae Qgm (mC (.int 10)) (mC (.int 9))))))
  (Qat (Qae Qbh (Qac 2) (Qae Qgm (mC (.int 10)) (mC (.int 9))))))) Qau)
  (Qaj (QaB 4 (Qae QaF (Qae Qbh (Qac 0) (mC (.int 2147483647))) (mC (.int 7919))))
  (Qaj (Qc6 (Qie (Qaa (Qae QaF (Qac 1) (mC (.int 2))) Qaf)) (mgN 3) (QaB 4 (Qae Qbh (Qae QaF (Qae Qfq (Qac 4) (mC (.int 48271))) (mC (.int 104729))) (mC (.int 2147483629)))))
  (Qat (Qae QfL (Qae Qbh (Qae Qfq (Qac 4) (Qac 4)) (mC (.int 998244353))) (mC (.int 11)))))))
def Qa3:List D→Qab→Res D:=Qbc 5 Qka
abbrev QfM (Pr:Program) (w:World) (K:Frag) (mg:Str→Option Value) (base:Heap):Prop:=Can Pr w K mg base "_law_mix" ["_law_cell_here","_law_k"] 1 (vSp K mg [.s,.s] (rV K) Qa3)
theorem Qmq (QhJ:Def K mg "_law_mix" QhO)
  (B:Blt mg) :
  QfM Pr w K mg base:=by
 refine Qdd (k:=0) (b:=Qka) QhJ QcR (fun _ _ _ _ _ _=>QaV fun _=>QaV fun _=>QbD rfl) [.s,.s] [.v,.v,.v] Qbe (fun _ _ _ _=>Rp.non) (body:=fun f cdv A outer s H E hr P=>?_);refine Qal ?_ ?_;refine Qa2 ?_ ?_ QaO;refine QaL Qqy (Qao 0) ?_ (QaG _);refine Qav ?_;refine Qas Qk3 (Qad Qai) (Qad Qai);refine Qal ?_ ?_;refine QaQ (i:=2) QcR.nd rfl (.inl rfl) (Qb6 (Qao 0));refine Qal ?_ ?_;refine Qhq rfl ?_ (Qce (i:=3) QcR.nd rfl (.inl rfl)) ?_;refine QjX B.range_ ?_;refine Qaz (Qao 1) Qam;refine Qar ?_;refine QaQ (i:=2) QcR.nd rfl (.inl rfl) ?_;refine QaH ?_;refine Qas QlT (Qad (Qag 2)) ?_;refine Qav ?_;refine Qas Qk3 (Qad Qai) (Qad Qai)
 refine Qar ?_;refine QaA ?_;refine QaH ?_;refine Qas QbU (Qad (Qag 2)) ?_;refine Qav ?_;refine Qas Qk3 (Qad Qai) (Qad Qai);refine Qal ?_ ?_;refine QaQ (i:=4) QcR.nd rfl (.inl rfl) ?_;refine QaH ?_;refine Qas QaM ?_ (Qad Qai);refine Qav ?_;refine Qas QbU (Qao 0) (Qad Qai);refine Qal ?_ ?_;refine Qhq rfl ?_ (Qce (i:=3) QcR.nd rfl (.inl rfl)) ?_;refine QjX B.range_ ?_;refine Qaz ?_ Qam;refine Qav ?_;refine Qas QaM (Qao 1) (Qad Qai);refine Qar ?_;refine QaQ (i:=4) QcR.nd rfl (.inl rfl) ?_;refine QaH ?_;refine Qas QbU ?_ (Qad Qai);refine Qav ?_;refine Qas QaM ?_ (Qad Qai);refine Qav ?_;refine Qas QnI (Qad (Qag 4)) (Qad Qai)
 refine Qar ?_;refine QaA ?_;refine QaH ?_;refine Qas QlT ?_ (Qad Qai);refine Qav ?_;refine Qas QbU ?_ (Qad Qai);refine Qav ?_;refine Qas QnI (Qad (Qag 4)) (Qad (Qag 4))
abbrev Qgj:Stmt:=top 31
theorem Qhe:QaK ["_law_some"] [] (Qah Qgj):=by trivial
def Qit:MS :=
  (Qaj (QaB 0 (mC (.str [32,33,34,35,36,38,39,40,41,42,43,44,45,46,47,48,49,50,51,52,53,54,55,56,57,58,59,60,61,62,63,64,65,66,67,68,69,70,71,72,73,74,75,76,77,78,79,80,81,82,83,84,85,86,87,88,89,90])))
  (Qat (Qae QaF (Qac 0) (mC (.str [91,92,93,94,95,96,97,98,99,100,101,102,103,104,105,106,107,108,109,110,111,112,113,114,115,116,117,118,119,120,121,122,123,124,125])))))
def QeA:List D→Qab→Res D:=Qbc 1 Qit
abbrev Qip (Pr:Program) (w:World) (K:Frag) (mg:Str→Option Value) (base:Heap):Prop:=Can Pr w K mg base "_law_signs" [] 1 (vSp K mg [] (rV K) QeA)
theorem QkL (QfY:Def K mg "_law_signs" Qgj)
  (B:Blt mg) :
  Qip Pr w K mg base:=by
 refine Qdd (k:=0) (b:=Qit) QfY Qhe (fun _ _ _ _ _ _=>QbD rfl) [] [.v] Qbe (fun _ _ _ _=>Rp.non) (body:=fun f cdv A outer s H E hr P=>?_);refine Qal (QaQ (i:=0) Qhe.nd rfl (.inl rfl) (Qap [32,33,34,35,36,38,39,40,41,42,43,44,45,46,47,48,49,50,51,52,53,54,55,56,57,58,59,60,61,62,63,64,65,66,67,68,69,70,71,72,73,74,75,76,77,78,79,80,81,82,83,84,85,86,87,88,89,90])) ?_;refine Qar ?_;refine QaA ?_;refine QaH ?_;refine Qas QaM (Qad (Qag 0)) (Qad (Qap [91,92,93,94,95,96,97,98,99,100,101,102,103,104,105,106,107,108,109,110,111,112,113,114,115,116,117,118,119,120,121,122,123,124,125]))
abbrev Qgb:Stmt:=top 32
theorem QcL:QaK ["_law_cell_here","_law_colour","_law_way","_law_pick","_law_odd"] ["_law_cell_here"] (Qah Qgb):=by trivial
def Qir:MS :=
  (Qaj (QaB 1 (Qae gIx (mC (.str [97,98,99,100,101,102,103,104,46])) (Qae Qbh (Qax Qa3 (Qaa (Qac 0) (Qaa (mC (.int 2)) Qaf))) (mC (.int 9)))))
  (Qaj (QaB 2 (Qae Qbh (Qax Qa3 (Qaa (Qac 0) (Qaa (mC (.int 0)) Qaf))) (mC (.int 12))))
  (Qaj (QaB 3 (Qax Qa3 (Qaa (Qac 0) (Qaa (mC (.int 1)) Qaf))))
  (Qaj (QaB 4 (Qbx (Qaa (mC (.str [91])) (Qaa (mC (.str [91,47])) (Qaa (Qae QaF (mC (.str [91])) (Qac 1)) (Qaa (Qae QaF (mC (.str [91,47])) (Qac 1)) (Qaa (mC (.str [91,105,93])) (Qaa (mC (.str [91,47,93])) (Qaa (Qae QaF (Qae QaF (Qae QaF (mC (.str [91])) (Qac 1)) (Qac 1)) (mC (.str [93]))) (Qaa (mC (.str [91,65,93])) (Qaa (mC (.str [91,47,105,93])) (Qaa (mC (.str [91,91,91])) Qaf))))))))))))
  (Qaj (QaB 4 (Qae QaF (Qac 4) (Qbx (Qaa (mC (.str [91,47,91])) (Qaa (Qae QaF (Qae QaF (mC (.str [91])) (Qac 1)) (mC (.str [91]))) (Qaa (Qae QaF (Qae QaF (mC (.str [91,47])) (Qac 1)) (mC (.str [47,93]))) (Qaa (Qae QaF (Qae QaF (mC (.str [91,47,47])) (Qac 1)) (mC (.str [93]))) (Qaa (Qae QaF (Qae QaF (mC (.str [91])) (Qac 1)) (mC (.str [10]))) (Qaa (mC (.str [93])) (Qaa (mC (.str [47])) Qaf))))))))))
  (Qaj (Qgz 4 (Qae QaF (Qae QaF (mC (.str [91,47])) (Qac 1)) (mC (.str [9,93]))))
  (Qaj (QaR (Qaw (Qae gLt (Qac 2) (mC (.int 3)))) (Qat (Qae gIx (Qax QeA Qaf) (Qae Qbh (Qac 3) (mC (.int 93))))) Qau)
  (Qaj (QaR (Qaw (Qae gEq (Qac 2) (mC (.int 3)))) (Qat (Qae gIx (mC (.str [32,65,66,90])) (Qae Qbh (Qac 3) (mC (.int 4))))) Qau)
  (Qaj (QaR (Qaw (Qae gEq (Qac 2) (mC (.int 4)))) (Qat (Qae QaF (Qae QaF (mC (.str [91])) (Qac 1)) (mC (.str [93])))) Qau)
  (Qaj (QaR (Qaw (Qae gEq (Qac 2) (mC (.int 5)))) (Qat (Qae QaF (Qae QaF (mC (.str [91,47])) (Qac 1)) (mC (.str [93])))) Qau)
  (Qaj (QaR (Qaw (Qae gEq (Qac 2) (mC (.int 6)))) (Qat (Qae gIx (Qbx (Qaa (mC (.str [91,93])) (Qaa (mC (.str [91,91])) (Qaa (mC (.str [91,93,93])) (Qaa (mC (.str [91,91,93])) Qaf))))) (Qae Qbh (Qac 3) (mC (.int 4))))) Qau)
  (Qaj (QaR (Qaw (Qae gEq (Qac 2) (mC (.int 9)))) (Qat (Qae gIx (Qbx (Qaa (mC (.str [10])) (Qaa (mC (.str [9])) (Qaa (mC (.str [10])) Qaf)))) (Qae Qbh (Qac 3) (mC (.int 3))))) Qau)
  (Qaj (QaR (Qaw (Qae gEq (Qac 2) (mC (.int 10)))) (Qat (Qac 1)) Qau)
  (Qaj (QaR (Qaw (Qae gEq (Qac 2) (mC (.int 11)))) (Qat (mSl (mC (.str [111,117,116,119,101,97,118,101,115])) moN (moS (Qae QaF (mC (.int 2)) (Qae Qbh (Qac 3) (mC (.int 8))))))) Qau)
  (Qat (Qae gIx (Qac 4) (Qae Qbh (Qac 3) (mC (.int 18)))))))))))))))))))
def Qbf:List D→Qab→Res D:=Qbc 5 Qir
abbrev Qin (Pr:Program) (w:World) (K:Frag) (mg:Str→Option Value) (base:Heap):Prop:=Can Pr w K mg base "_law_token" ["_law_cell_here"] 2 (vSp K mg [.s] (rV K) Qbf)
theorem QkN (Qgh:Def K mg "_law_token" Qgb)
  (B:Blt mg)
  (Qbn:QfM Pr w K mg base)
  (Qgf:Qip Pr w K mg base) :
  Qin Pr w K mg base:=by
 refine Qdd (k:=1) (b:=Qir) Qgh QcL (fun _ _ _ _ _ _=>QaV fun _=>QbD rfl) [.s] [.v,.v,.v,.o] Qbe (fun _ _ _ _=>Rp.non) (body:=fun f cdv A outer s H E hr P=>?_);refine Qal ?_ ?_;refine QaQ (i:=1) QcL.nd rfl (.inl rfl) ?_;refine Qa7 (Qad (Qap [97,98,99,100,101,102,103,104,46])) ?_;refine Qav ?_;refine Qas QbU ?_ (Qad Qai);refine Qad ?_;refine QaS Qbn (hr.mono (by decide)) ?_;refine Qaz (Qao 0) ?_;refine Qaz (Qad Qai) Qam;refine Qal ?_ ?_;refine QaQ (i:=2) QcL.nd rfl (.inl rfl) ?_;refine QaH ?_;refine Qas QbU ?_ (Qad Qai);refine Qad ?_;refine QaS Qbn (hr.mono (by decide)) ?_;refine Qaz (Qao 0) ?_
 refine Qaz (Qad Qai) Qam;refine Qal ?_ ?_;refine QaQ (i:=3) QcL.nd rfl (.inl rfl) ?_;refine QaS Qbn (hr.mono (by decide)) ?_;refine Qaz (Qao 0) ?_;refine Qaz (Qad Qai) Qam;refine Qal ?_ ?_;refine Qgu (i:=4) QcL.nd rfl (.inl rfl) ?_;refine QbS 10 ?_;refine Qaq (Qap [91]) ?_;refine Qaq (Qap [91,47]) ?_;refine Qaq ?_ ?_;refine QaH ?_;refine Qas QaM (Qad (Qap [91])) (Qad (Qag 1));refine Qaq ?_ ?_;refine QaH ?_;refine Qas QaM (Qad (Qap [91,47])) (Qad (Qag 1));refine Qaq (Qap [91,105,93]) ?_;refine Qaq (Qap [91,47,93]) ?_;refine Qaq ?_ ?_;refine QaH ?_;refine Qas QaM ?_ (Qad (Qap [93]));refine Qav ?_
 refine Qas QaM ?_ (Qad (Qag 1));refine Qav ?_;refine Qas QaM (Qad (Qap [91])) (Qad (Qag 1));refine Qaq (Qap [91,65,93]) ?_;refine Qaq (Qap [91,47,105,93]) ?_;refine Qaq (Qap [91,91,91]) Qam;refine Qal ?_ ?_;refine Qgu (i:=4) QcL.nd rfl (.inl rfl) ?_;refine Qas QaM (Qao 4) ?_;refine Qav ?_;refine QbS 7 ?_;refine Qaq (Qap [91,47,91]) ?_;refine Qaq ?_ ?_;refine QaH ?_;refine Qas QaM ?_ (Qad (Qap [91]));refine Qav ?_;refine Qas QaM (Qad (Qap [91])) (Qad (Qag 1));refine Qaq ?_ ?_;refine QaH ?_;refine Qas QaM ?_ (Qad (Qap [47,93]));refine Qav ?_;refine Qas QaM (Qad (Qap [91,47])) (Qad (Qag 1));refine Qaq ?_ ?_
 refine QaH ?_;refine Qas QaM ?_ (Qad (Qap [93]));refine Qav ?_;refine Qas QaM (Qad (Qap [91,47,47])) (Qad (Qag 1));refine Qaq ?_ ?_;refine QaH ?_;refine Qas QaM ?_ (Qad (Qap [10]));refine Qav ?_;refine Qas QaM (Qad (Qap [91])) (Qad (Qag 1));refine Qaq (Qap [93]) ?_;refine Qaq (Qap [47]) Qam;refine Qal ?_ ?_;refine Qj0 4 ?_;refine QaH ?_;refine Qas QaM ?_ (Qad (Qap [9,93]));refine Qav ?_;refine Qas QaM (Qad (Qap [91,47])) (Qad (Qag 1));refine Qal ?_ ?_;refine Qa2 ?_ ?_ QaO;refine QaL QmV (Qad (Qag 2)) (Qad Qai) (QaG _);refine Qar ?_;refine QaA ?_;refine Qa7 (Qad (QpL Qgf (hr.mono (by decide)))) ?_
 refine Qav ?_;refine Qas QbU (Qad (Qag 3)) (Qad Qai);refine Qal ?_ ?_;refine Qa2 ?_ ?_ QaO;refine QaL (QaT hr) (Qad (Qag 2)) (Qad Qai) (QaG _);refine Qar ?_;refine QaA ?_;refine Qa7 (Qad (Qap [32,65,66,90])) ?_;refine Qav ?_;refine Qas QbU (Qad (Qag 3)) (Qad Qai);refine Qal ?_ ?_;refine Qa2 ?_ ?_ QaO;refine QaL (QaT hr) (Qad (Qag 2)) (Qad Qai) (QaG _);refine Qar ?_;refine QaA ?_;refine QaH ?_;refine Qas QaM ?_ (Qad (Qap [93]));refine Qav ?_;refine Qas QaM (Qad (Qap [91])) (Qad (Qag 1));refine Qal ?_ ?_;refine Qa2 ?_ ?_ QaO;refine QaL (QaT hr) (Qad (Qag 2)) (Qad Qai) (QaG _);refine Qar ?_;refine QaA ?_
 refine QaH ?_;refine Qas QaM ?_ (Qad (Qap [93]));refine Qav ?_;refine Qas QaM (Qad (Qap [91,47])) (Qad (Qag 1));refine Qal ?_ ?_;refine Qa2 ?_ ?_ QaO;refine QaL (QaT hr) (Qad (Qag 2)) (Qad Qai) (QaG _);refine Qar ?_;refine QaA ?_;refine Qa7 ?_ ?_;refine Qav ?_;refine QbS 4 ?_;refine Qaq (Qap [91,93]) ?_;refine Qaq (Qap [91,91]) ?_;refine Qaq (Qap [91,93,93]) ?_;refine Qaq (Qap [91,91,93]) Qam;refine Qav ?_;refine Qas QbU (Qad (Qag 3)) (Qad Qai);refine Qal ?_ ?_;refine Qa2 ?_ ?_ QaO;refine QaL (QaT hr) (Qad (Qag 2)) (Qad Qai) (QaG _);refine Qar ?_;refine QaA ?_;refine Qa7 ?_ ?_;refine Qav ?_;refine QbS 3 ?_
 refine Qaq (Qap [10]) ?_;refine Qaq (Qap [9]) ?_;refine Qaq (Qap [10]) Qam;refine Qav ?_;refine Qas QbU (Qad (Qag 3)) (Qad Qai);refine Qal ?_ ?_;refine Qa2 ?_ ?_ QaO;refine QaL (QaT hr) (Qad (Qag 2)) (Qad Qai) (QaG _);refine Qar (QaA (Qag 1));refine Qal ?_ ?_;refine Qa2 ?_ ?_ QaO;refine QaL (QaT hr) (Qad (Qag 2)) (Qad Qai) (QaG _);refine Qar ?_;refine QaA ?_;refine QaH ?_;refine Qcy (Qad (Qap [111,117,116,119,101,97,118,101,115])) QdS ?_;refine Qcn ?_;refine QaH ?_;refine Qas QaM (Qad Qai) ?_;refine Qav ?_;refine Qas QbU (Qad (Qag 3)) (Qad Qai);refine Qar ?_;refine QaA ?_;refine Qa7 (Qao 4) ?_
 refine Qav ?_;refine Qas QbU (Qad (Qag 3)) (Qad Qai)
abbrev QgB:Stmt:=top 33
theorem QfX:QaK ["_law_text","_law_at","_law_colours","_law_here"] ["_law_text","_law_at"] (Qah QgB):=by trivial
def QgV:MS :=
  (Qaj (QaB 2 (mC (.str [97,98,99,100,101,102,103,104,46])))
  (Qaj (QaB 3 (mSl (Qac 0) (moS (mG (Qac 1))) (moS (Qae QaF (Qac 1) (mC (.int 4))))))
  (Qaj (QaR (Qaw (Qae gEq (Qae gIx (Qac 3) (mC (.int 0))) (mC (.str [10])))) (Qat (Qb8 (Qaa (Qb8 (Qaa (mG (Qac 1)) (Qaa (mC (.str [101,110,100])) (Qaa (mC (.str [])) Qaf)))) (Qaa (mC (.int 1)) Qaf)))) Qau)
  (Qaj (QaR (Qaw (Qae gEq (Qae gIx (Qac 3) (mC (.int 0))) (mC (.str [9])))) (Qat (Qb8 (Qaa (Qb8 (Qaa (mG (Qac 1)) (Qaa (mC (.str [97,110,101,119])) (Qaa (mC (.str [])) Qaf)))) (Qaa (mC (.int 1)) Qaf)))) Qau)
  (Qaj (QaR (Qaw (Qae gEq (mSl (Qac 3) moN (moS (mC (.int 2)))) (mC (.str [91,93])))) (Qat (Qb8 (Qaa (Qb8 (Qaa (mG (Qac 1)) (Qaa (mC (.str [112,108,97,105,110])) (Qaa (mC (.str [])) Qaf)))) (Qaa (mC (.int 2)) Qaf)))) Qau)
  (Qaj (QaR (Qaw (Qae gEq (mSl (Qac 3) moN (moS (mC (.int 2)))) (mC (.str [91,91])))) (Qat (Qb8 (Qaa (Qb8 (Qaa (mG (Qac 1)) (Qaa (mC (.str [115,105,103,110])) (Qaa (mC (.str [91])) Qaf)))) (Qaa (mC (.int 2)) Qaf)))) Qau)
  (Qaj (QaR (QcS (Qaw (Qae gGt (Qbd QbN (Qaa (Qac 3) Qaf)) (mC (.int 2)))) (QcS (Qaw (Qae gEq (Qae gIx (Qac 3) (mC (.int 0))) (mC (.str [91])))) (QcS (Qaw (Qae (gIn false) (Qae gIx (Qac 3) (mC (.int 1))) (Qac 2))) (Qaw (Qae gEq (Qae gIx (Qac 3) (mC (.int 2))) (mC (.str [93]))))))) (Qat (Qb8 (Qaa (Qb8 (Qaa (mG (Qac 1)) (Qaa (mC (.str [105,110,107])) (Qaa (Qae gIx (Qac 3) (mC (.int 1))) Qaf)))) (Qaa (mC (.int 3)) Qaf)))) Qau)
  (Qaj (QaR (QcS (Qaw (Qae gEq (Qbd QbN (Qaa (Qac 3) Qaf)) (mC (.int 4)))) (QcS (Qaw (Qae gEq (mSl (Qac 3) moN (moS (mC (.int 2)))) (mC (.str [91,47])))) (QcS (Qaw (Qae (gIn false) (Qae gIx (Qac 3) (mC (.int 2))) (Qac 2))) (Qaw (Qae gEq (Qae gIx (Qac 3) (mC (.int 3))) (mC (.str [93]))))))) (Qat (Qb8 (Qaa (Qb8 (Qaa (mG (Qac 1)) (Qaa (mC (.str [103,114,111,117,110,100])) (Qaa (Qae gIx (Qac 3) (mC (.int 2))) Qaf)))) (Qaa (mC (.int 4)) Qaf)))) Qau)
  (Qat (Qb8 (Qaa (Qb8 (Qaa (mG (Qac 1)) (Qaa (mC (.str [115,105,103,110])) (Qaa (Qae gIx (Qac 3) (mC (.int 0))) Qaf)))) (Qaa (mC (.int 1)) Qaf))))))))))))
def Qed:List D→Qab→Res D:=Qbc 4 QgV
abbrev Qi8 (Pr:Program) (w:World) (K:Frag) (mg:Str→Option Value) (base:Heap):Prop:=Can Pr w K mg base "_law_item" ["_law_text","_law_at"] 1 (vSp K mg [.s,.s] (rV K) Qed)
theorem QlC (QgF:Def K mg "_law_item" QgB)
  (B:Blt mg) :
  Qi8 Pr w K mg base:=by
 refine Qdd (k:=0) (b:=QgV) QgF QfX (fun _ _ _ _ _ _=>QaV fun _=>QaV fun _=>QbD rfl) [.s,.s] [.v,.v] Qbe (fun _ _ _ _=>Rp.non) (body:=fun f cdv A outer s H E hr P=>?_);refine Qal (QaQ (i:=2) QfX.nd rfl (.inl rfl) (Qap [97,98,99,100,101,102,103,104,46])) ?_;refine Qal ?_ ?_;refine QaQ (i:=3) QfX.nd rfl (.inl rfl) ?_;refine QaH ?_;refine Qcy (Qao 0) ?_ ?_;refine Qcn (Qb6 (Qao 1));refine Qcn ?_;refine QaH ?_;refine Qas QaM (Qao 1) (Qad Qai);refine Qal ?_ ?_;refine Qa2 ?_ ?_ QaO;refine QaL (QaT hr) ?_ (Qad (Qap [10])) (QaG _);refine Qad ?_;refine Qa7 (Qad (Qag 3)) (Qad Qai);refine Qar ?_;refine QaA ?_
 refine Qbw 2 ?_;refine Qaq ?_ ?_;refine Qbw 3 ?_;refine Qaq (Qb6 (Qao 1)) ?_;refine Qaq (Qap [101,110,100]) ?_;refine Qaq (Qap []) Qam;refine Qaq Qai Qam;refine Qal ?_ ?_;refine Qa2 ?_ ?_ QaO;refine QaL (QaT hr) ?_ (Qad (Qap [9])) (QaG _);refine Qad ?_;refine Qa7 (Qad (Qag 3)) (Qad Qai);refine Qar ?_;refine QaA ?_;refine Qbw 2 ?_;refine Qaq ?_ ?_;refine Qbw 3 ?_;refine Qaq (Qb6 (Qao 1)) ?_;refine Qaq (Qap [97,110,101,119]) ?_;refine Qaq (Qap []) Qam;refine Qaq Qai Qam;refine Qal ?_ ?_;refine Qa2 ?_ ?_ QaO;refine QaL (QaT hr) ?_ (Qad (Qap [91,93])) (QaG _);refine Qav ?_;refine Qcy (Qad (Qag 3)) QdS (Qcn Qai)
 refine Qar ?_;refine QaA ?_;refine Qbw 2 ?_;refine Qaq ?_ ?_;refine Qbw 3 ?_;refine Qaq (Qb6 (Qao 1)) ?_;refine Qaq (Qap [112,108,97,105,110]) ?_;refine Qaq (Qap []) Qam;refine Qaq Qai Qam;refine Qal ?_ ?_;refine Qa2 ?_ ?_ QaO;refine QaL (QaT hr) ?_ (Qad (Qap [91,91])) (QaG _);refine Qav ?_;refine Qcy (Qad (Qag 3)) QdS (Qcn Qai);refine Qar ?_;refine QaA ?_;refine Qbw 2 ?_;refine Qaq ?_ ?_;refine Qbw 3 ?_;refine Qaq (Qb6 (Qao 1)) ?_;refine Qaq (Qap [115,105,103,110]) ?_;refine Qaq (Qap [91]) Qam;refine Qaq Qai Qam;refine Qal ?_ ?_;refine Qa2 ?_ ?_ QaO;refine Qfr ?_;refine QcZ ?_ ?_;refine QaL Qqy ?_ (Qad Qai) (QaG _)
 refine Qav ?_;refine Qbs (ms:=[.s]) (hv:=QbT) QbV B.len_ ?_;refine Qaz (Qad (Qag 3)) Qam;refine QcZ ?_ ?_;refine QaL (QaT hr) ?_ (Qad (Qap [91])) (QaG _);refine Qad ?_;refine Qa7 (Qad (Qag 3)) (Qad Qai);refine QcZ ?_ ?_;refine QaL Qml ?_ (Qad (Qag 2)) (by with_unfolding_all rfl);refine Qad ?_;refine Qa7 (Qad (Qag 3)) (Qad Qai);refine Qh8 ?_;refine QaL (QaT hr) ?_ (Qad (Qap [93])) (QaG _);refine Qad ?_;refine Qa7 (Qad (Qag 3)) (Qad Qai);refine Qar ?_;refine QaA ?_;refine Qbw 2 ?_;refine Qaq ?_ ?_;refine Qbw 3 ?_;refine Qaq (Qb6 (Qao 1)) ?_;refine Qaq (Qap [105,110,107]) ?_;refine Qaq ?_ Qam;refine Qa7 (Qad (Qag 3)) (Qad Qai)
 refine Qaq Qai Qam;refine Qal ?_ ?_;refine Qa2 ?_ ?_ QaO;refine Qfr ?_;refine QcZ ?_ ?_;refine QaL (QaT hr) ?_ (Qad Qai) (QaG _);refine Qav ?_;refine Qbs (ms:=[.s]) (hv:=QbT) QbV B.len_ ?_;refine Qaz (Qad (Qag 3)) Qam;refine QcZ ?_ ?_;refine QaL (QaT hr) ?_ (Qad (Qap [91,47])) (QaG _);refine Qav ?_;refine Qcy (Qad (Qag 3)) QdS (Qcn Qai);refine QcZ ?_ ?_;refine QaL Qml ?_ (Qad (Qag 2)) (by with_unfolding_all rfl);refine Qad ?_;refine Qa7 (Qad (Qag 3)) (Qad Qai);refine Qh8 ?_;refine QaL (QaT hr) ?_ (Qad (Qap [93])) (QaG _);refine Qad ?_;refine Qa7 (Qad (Qag 3)) (Qad Qai);refine Qar ?_;refine QaA ?_
 refine Qbw 2 ?_;refine Qaq ?_ ?_;refine Qbw 3 ?_;refine Qaq (Qb6 (Qao 1)) ?_;refine Qaq (Qap [103,114,111,117,110,100]) ?_;refine Qaq ?_ Qam;refine Qa7 (Qad (Qag 3)) (Qad Qai);refine Qaq Qai Qam;refine Qar ?_;refine QaA ?_;refine Qbw 2 ?_;refine Qaq ?_ ?_;refine Qbw 3 ?_;refine Qaq (Qb6 (Qao 1)) ?_;refine Qaq (Qap [115,105,103,110]) ?_;refine Qaq ?_ Qam;refine Qa7 (Qad (Qag 3)) (Qad Qai);refine Qaq Qai Qam
abbrev Qgg:Stmt:=top 34
theorem QcK:QaK ["_law_text","_law_items_here","_law_at","_law_item_here","_law_size"] ["_law_text"] (Qah Qgg):=by trivial
def Qgi:MS :=
  (Qaj (QaB 1 (Qbx Qaf))
  (Qaj (QaB 2 (mC (.int 0)))
  (Qaj (Qgr wF (Qaw (Qae gLt (Qac 2) (Qbd QbN (Qaa (Qac 0) Qaf)))) (Qaj (Qjc (Qax Qed (Qaa (Qac 0) (Qaa (Qac 2) Qaf))) (QgI 2 (QbO (mgN 3) (QbO (mgN 4) QeK))))
  (Qaj (Qgz 1 (Qac 3))
  (QaB 2 (Qae QaF (Qac 2) (Qac 4))))))
  (Qat (Qac 1)))))
def QeG:List D→Qab→Res D:=Qbc 5 Qgi
abbrev Qiu (Pr:Program) (w:World) (K:Frag) (mg:Str→Option Value) (base:Heap):Prop:=Can Pr w K mg base "_law_items" ["_law_text"] 2 (vSp K mg [.s] (rO K) QeG)
theorem Qlr (Qga:Def K mg "_law_items" Qgg)
  (B:Blt mg)
  (QgX:Qi8 Pr w K mg base) :
  Qiu Pr w K mg base:=by
 refine Qdd (k:=1) (b:=Qgi) Qga QcK (fun _ _ _ _ _ _=>QaV fun _=>QbD rfl) [.s] [.o,.v,.v,.v] Qdn (fun _ _ _ _=>.inl ⟨rfl,Rp.non⟩) (body:=fun f cdv A outer s H E hr P=>?_);refine Qal ?_ ?_;refine Qgu (i:=1) QcK.nd rfl (.inl rfl) (QbS 0 Qam);refine Qal (QaQ (i:=2) QcK.nd rfl (.inl rfl) Qai) ?_;refine Qal ?_ (Qar (QjG 1));refine Qp2 wF ?_ ?_;refine QaL QmV (Qad (Qag 2)) ?_ (QaG _);refine Qav ?_;refine Qbs (ms:=[.s]) (hv:=QbT) QbV B.len_ ?_;refine Qaz (Qao 0) Qam;refine Qal ?_ ?_;refine Qs3 ?_ ?_;refine QaS QgX (hr.mono (by decide)) ?_;refine Qaz (Qao 0) ?_;refine Qaz (Qad (Qag 2)) Qam;refine QkG 2 rfl ?_
 refine Qeu (Qce (i:=3) QcK.nd rfl (.inl rfl)) ?_;refine Qeu (Qce (i:=4) QcK.nd rfl (.inl rfl)) Qjn;refine Qal (Qj0 1 (Qag 3)) ?_;refine Qar ?_;refine QaQ (i:=2) QcK.nd rfl (.inl rfl) ?_;refine QaH ?_;refine Qas QaM (Qad (Qag 2)) (Qad (Qag 4))
abbrev Qf0:Stmt:=top 35
theorem QkA:QaK ["_law_found"] ["_law_found"] (Qah Qf0):=by trivial
def Qf2:MS :=
  (Qat (QcT (Qda "int" (Qac 0)) (Qni (Qda "bool" (Qac 0)))))
def Qcz:List D→Qab→Res D:=Qbc 1 Qf2
abbrev Qis (Pr:Program) (w:World) (K:Frag) (mg:Str→Option Value) (base:Heap):Prop:=QjH Pr w K mg base "_law_whole" ["_law_found"] 1 (vSp K mg [.s] (rV K) Qcz)
theorem Qle (QfZ:Def K mg "_law_whole" Qf0)
  (B:Blt mg) :
  Qis Pr w K mg base:=by
 refine Qut (k:=0) (b:=Qf2) QfZ QkA (fun _ _ _ _ _ _=>QaV fun _=>QbD rfl) [.s] [] Qbe (fun _ _ _ _=>Rp.non) (body:=fun f cdv A outer s H E hr P=>?_);refine Qar ?_;refine QaA ?_;refine QcX ?_ ?_;refine QaH (Qek "int" (hb:=QsG) B.isinstance_ B.int_ (Qao 0));refine QfC ?_;refine QsN ?_;refine QaH (Qek "bool" (hb:=Qrp) B.isinstance_ B.bool_ (Qao 0))
abbrev QgD:Stmt:=top 36
theorem Qim:QaK ["_law_found","_law_due","_law_item_here"] ["_law_found","_law_due"] (Qah QgD):=by trivial
def QgS:MS :=
  (Qaj (QaR (Qck (QbF (QbI (Qda "list" (Qac 0)))) (Qaw (Qae gNe (Qbd QbN (Qaa (Qac 0) Qaf)) (Qbd QbN (Qaa (Qac 1) Qaf))))) (Qat (mC (.bl false))) Qau)
  (Qaj (Qc6 (QcH (Qac 0)) (mgN 2) (Qaj (QaR (Qck (QbF (QbI (Qda "tuple" (Qac 2)))) (Qck (Qaw (Qae gNe (Qbd QbN (Qaa (Qac 2) Qaf)) (mC (.int 3)))) (QbF (QbI (Qax Qcz (Qaa (Qae gIx (Qac 2) (mC (.int 0))) Qaf)))))) (Qat (mC (.bl false))) Qau)
  (QaR (Qck (QbF (QbI (Qda "str" (Qae gIx (Qac 2) (mC (.int 1)))))) (QbF (QbI (Qda "str" (Qae gIx (Qac 2) (mC (.int 2))))))) (Qat (mC (.bl false))) Qau)))
  (Qat (Qae gEq (Qac 0) (Qac 1)))))
def Qea:List D→Qab→Res D:=Qbc 3 QgS
abbrev Qjf (Pr:Program) (w:World) (K:Frag) (mg:Str→Option Value) (base:Heap):Prop:=Can Pr w K mg base "_law_same" ["_law_found","_law_due"] 2 (vSp K mg [.s,.s] (rV K) Qea)
theorem Qlw (QgL:Def K mg "_law_same" QgD)
  (B:Blt mg)
  (Qc0:Can Pr w K mg base "_law_whole" ["_law_found"] 1 (vSp K mg [.s] (rV K) Qcz)) :
  Qjf Pr w K mg base:=by
 refine Qdd (k:=1) (b:=QgS) QgL Qim (fun _ _ _ _ _ _=>QaV fun _=>QaV fun _=>QbD rfl) [.s,.s] [.v] Qbe (fun _ _ _ _=>Rp.non) (body:=fun f cdv A outer s H E hr P=>?_);refine Qal ?_ ?_;refine Qa2 ?_ ?_ QaO;refine Qfr ?_;refine QeI ?_ ?_;refine Qdh ?_;refine Qb9 ?_;refine Qav (Qek "list" (hb:=Qro) B.isinstance_ B.list_ (Qao 0));refine Qfu ?_;refine QaL (Qm2 hr) ?_ ?_ (QaG _);refine Qav ?_;refine Qbs (ms:=[.s]) (hv:=QbT) QbV B.len_ ?_;refine Qaz (Qao 0) Qam;refine Qav ?_;refine Qbs (ms:=[.s]) (hv:=QbT) QbV B.len_ ?_;refine Qaz (Qao 1) Qam;refine Qar (QaA Qej);refine Qal ?_ ?_;refine Qhq rfl (QiQ (QiR 0)) (Qce (i:=2) Qim.nd rfl (.inl rfl)) ?_
 refine Qal ?_ ?_;refine Qa2 ?_ ?_ QaO;refine Qfr ?_;refine QeI ?_ ?_;refine Qdh ?_;refine Qb9 ?_;refine Qav ?_;refine Qek "tuple" (hb:=QpZ) B.isinstance_ B.tuple_ (Qad (Qag 2));refine QeI ?_ ?_;refine QaL (Qm2 hr) ?_ (Qad Qai) (QaG _);refine Qav ?_;refine Qbs (ms:=[.s]) (hv:=QbT) QbV B.len_ ?_;refine Qaz (Qad (Qag 2)) Qam;refine Qfu ?_;refine Qdh ?_;refine Qb9 ?_;refine Qad ?_;refine QaS Qc0 (hr.mono (by decide)) ?_;refine Qaz ?_ Qam;refine Qad ?_;refine Qa7 (Qad (Qag 2)) (Qad Qai);refine Qar (QaA Qej);refine Qar ?_;refine Qa2 ?_ ?_ QaO;refine Qfr ?_;refine QeI ?_ ?_;refine Qdh ?_;refine Qb9 ?_
 refine Qav ?_;refine Qek "str" (hb:=QhU) B.isinstance_ B.str_ ?_;refine Qad ?_;refine Qa7 (Qad (Qag 2)) (Qad Qai);refine Qfu ?_;refine Qdh ?_;refine Qb9 ?_;refine Qav ?_;refine Qek "str" (hb:=QhU) B.isinstance_ B.str_ ?_;refine Qad ?_;refine Qa7 (Qad (Qag 2)) (Qad Qai);refine Qar (QaA Qej);refine Qar ?_;refine QaA ?_;refine QaH ?_;refine QdX (QaT hr) (Qao 0) (Qao 1) (QaG _)
abbrev Qht:Stmt:=top 37
theorem Qng:QaK ["_law_way","_law_reader","_law_thing"] ["_law_way","_law_reader","_law_thing"] (Qah Qht):=by trivial
def QcQ:MS :=
  (Qaj (QdJ (Qaw (Qae gEq (Qac 0) (mC (.int 0)))) (Qaj (Qfy (QcW Qbm (Qaa (Qac 2) Qaf)))
  Qau) Qau)
  (Qaj (QdJ (Qaw (Qae gEq (Qac 0) (mC (.int 1)))) (Qaj (Qfy (QcW QgA (Qaa (Qac 2) Qaf)))
  Qau) Qau)
  (Qaj (Qfy (Qfx "Reader" "feed" Qbj (Qac 1) (Qaa (Qac 2) Qaf)))
  Qau)))
def QhM:List D→Qab→Res D:=Qbc 3 QcQ
abbrev Qj8 (Pr:Program) (w:World) (K:Frag) (mg:Str→Option Value) (base:Heap):Prop:=QgP Pr w K mg base "_law_did" ["_law_way","_law_reader","_law_thing"] 6 (Qdg K mg [.s,.v,.s] (rV K) QhM)
theorem Qnh (Qhr:Def K mg "_law_did" Qht)
  (B:Blt mg)
  (Qcb:Qho Pr w K mg base)
  (Qgx:Qjj Pr w K mg base)
  (Qbz:Qe2 Pr w K mg base) :
  Qj8 Pr w K mg base:=by
 refine Qmr (k:=5) (b:=QcQ) Qhr Qng (fun _ _ _ _ _ _=>QaV fun _=>QaV fun _=>QaV fun _=>QbD rfl) [.s,.v,.s] [] Qbe (fun _ _ _ _=>Rp.non) (body:=fun f cdv A outer s H E hr P=>?_)
 refine Qbp (Qkp (QaL (QaT hr) (Qao 0) (Qad Qai) (QaG _)) (Qbp (QjM Qbe (QhN Qcb (hr.mono (by decide)) (Qaz (Qao 2) Qam)))
   Qb4) Qb4) (Qbp (Qkp (QaL (QaT hr) (Qao 0) (Qad Qai) (QaG _)) (Qbp (QjM Qbe (QhN Qgx (hr.mono (by decide)) (Qaz (Qao 2) Qam)))
   Qb4) Qb4)
   (Qbp (QjM Qbe (Qoa (Qld Qdn Qbz (hr.mono (by decide)) (Qag 1) (Qaz (Qao 2) Qam))))
   Qb4))
abbrev QeY:Stmt:=top 38
theorem Qgs:QaK ["_law_way","_law_reader","_law_thing","_law_at","_law_e"] ["_law_way","_law_reader","_law_thing","_law_at"] (Qah QeY):=by trivial
def QdG:MS :=
  (Qaj (Qhn (QcW QhM (Qaa (Qac 0) (Qaa (Qac 1) (Qaa (Qac 2) Qaf)))) ((["NoSign"],[],4,(Qaj (QaR (QbI (Qei [("NoSign",false)] (Qac 4))) (Qat (mC (.bl false))) Qau)
  (Qat (QcT (Qei [("NoSign",true)] (Qac 4)) (QcT (Qei [("NoSign",true)] (Qac 4)) (QcT (Qax Qcz (Qaa (Qcj "at" ["NoSign"] (Qac 4)) Qaf)) (Qae QmO (Qcj "at" ["NoSign"] (Qac 4)) (Qac 3)))))))) :: []))
  (Qat (mC (.bl false))))
def Qcl:List D→Qab→Res D:=Qbc 5 QdG
abbrev Qg7 (Pr:Program) (w:World) (K:Frag) (mg:Str→Option Value) (base:Heap):Prop:=Can Pr w K mg base "_law_refused" ["_law_way","_law_reader","_law_thing","_law_at"] 7 (vSp K mg [.s,.v,.s,.s] (rV K) Qcl)
theorem QjI (QeV:Def K mg "_law_refused" QeY)
  (B:Blt mg)
  (EX_OutError_NoSign:EXM K mg "OutError" "NoSign" true)
  (IT_ClosedNoCellNoHandNoNameNoRollNoRoomNoRowNoSizeTwice_NoSign:Qlh K mg ["Closed","NoCell","NoHand","NoName","NoRoll","NoRoom","NoRow","NoSize","Twice"] "NoSign" false)
  (IS_NoSign_NoSign:ISN K mg "NoSign" "NoSign" true)
  (VN:mg "ValueError" = none)
  (IV_NoSign:ISV K mg "NoSign")
  (XA_at_NoSign:XFC K mg "at" "NoSign")
  (QhC:Qj8 Pr w K mg base)
  (Qc0:Qis Pr w K mg base) :
  Qg7 Pr w K mg base:=by
 refine Qdd (k:=6) (b:=QdG) QeV Qgs (fun _ _ _ _ _ _=>QaV fun _=>QaV fun _=>QaV fun _=>QaV fun _=>QbD rfl) [.s,.v,.s,.s] [.v] Qbe (fun _ _ _ _=>Rp.non) (body:=fun f cdv A outer s H E hr P=>?_);refine Qal ?_ ?_
 refine QrG (Qo0 Qbe QhC (hr.mono (by decide)) (fun E=>(Qaz (Qao 0) (Qaq (Qag 1) (Qaz (Qao 2) Qam))))) (Qrs (ys:=["NoSign"]) (ns:=[]) (i:=4) (Qdo EX_OutError_NoSign QdD) QdD (fun ea=>(Qal (Qa2 (Qb9 (Qad (Qs2 (ns:=["Closed","NoCell","NoHand","NoName","NoRoll","NoRoom","NoRow","NoSize","Twice"]) (tb:=[("NoSign",false)]) B.isinstance_ IT_ClosedNoCellNoHandNoNameNoRollNoRoomNoRowNoSizeTwice_NoSign.nm (QcU (QcU (QcU (QcU (QcU (QcU (QcU (QcU (QcU QrK))))))))) (Qag 4) (Qdp IT_ClosedNoCellNoHandNoNameNoRollNoRoomNoRowNoSizeTwice_NoSign QiS)))) (Qar (QaA Qej)) QaO)
   (Qar (QaA (QcX (QoO (tb:=[("NoSign",true)]) B.isinstance_ IS_NoSign_NoSign.nm (Qag 4) (Qdp IS_NoSign_NoSign QiS)) (QcX (Qsy (tb:=[("NoSign",true)]) B.isinstance_ VN (Qag 4) (Qdp (ISV.tb IV_NoSign) QiS)) (QcX (Qpt Qc0 (QaJ.inH (hr.mono (by decide))) (Qaz (Qad (QdT (L:=["NoSign"]) (Qag 4) (Qdo XA_at_NoSign QdD))) Qam)) (QfC (QaH (QdX Qsg (Qad (QdT (L:=["NoSign"]) (Qag 4) (Qdo XA_at_NoSign QdD))) (Qao 3) (QaG _))))))))))) QtA) Qgs.nd
 refine Qar (QaA Qej)
abbrev QeW:Stmt:=top 39
theorem QcN:QaK ["_law_number","_law_some","_law_names","_law_errors","_law_e"] ["_law_number"] (Qah QeW):=by trivial
def QdK:MS :=
  (Qaj (QaB 1 (Qbx (Qaa (Qcj "at" ["NoSign"] (QcB "NoSign" "at" (mG (Qac 0)))) (Qaa (Qcj "at" ["NoRoom"] (QcB "NoRoom" "at" (Qae QaF (Qac 0) (mC (.int 1))))) (Qaa (Qcj "at" ["NoRoll"] (QcB "NoRoll" "at" (Qae QaF (Qac 0) (mC (.int 2))))) Qaf)))))
  (Qaj (QaB 2 (Qbx (Qaa (Qcj "name" ["NoHand"] (QcB "NoHand" "name" (mC (.str [97])))) (Qaa (Qcj "name" ["Twice"] (QcB "Twice" "name" (mC (.str [98])))) (Qaa (Qcj "name" ["Closed"] (QcB "Closed" "name" (mC (.str [99])))) Qaf)))))
  (Qaj (QaB 3 (Qbx (Qaa (Qer "NoName") (Qaa (Qer "NoSize") (Qaa (Qer "NoCell") (Qaa (Qer "NoRow") (Qaa (QcB "NoSign" "at" (mC (.int 0))) (Qaa (QcB "NoHand" "name" (mC (.str [97]))) Qaf))))))))
  (Qaj (Qc6 (QcH (Qac 3)) (mgN 4) (QaR (QbF (QbI (Qei [("NoName",true),("NoSize",true),("NoCell",true),("NoRow",true),("NoSign",true),("NoHand",true)] (Qac 4)))) (Qat (mC (.bl false))) Qau))
  (Qat (QcT (Qae gEq (Qac 1) (Qbx (Qaa (mG (Qac 0)) (Qaa (Qae QaF (Qac 0) (mC (.int 1))) (Qaa (Qae QaF (Qac 0) (mC (.int 2))) Qaf))))) (Qae gEq (Qac 2) (Qbx (Qaa (mC (.str [97])) (Qaa (mC (.str [98])) (Qaa (mC (.str [99])) Qaf)))))))))))
def Qe4:List D→Qab→Res D:=Qbc 5 QdK
abbrev Qg6 (Pr:Program) (w:World) (K:Frag) (mg:Str→Option Value) (base:Heap):Prop:=Can Pr w K mg base "_law_by_hand" ["_law_number"] 3 (vSp K mg [.s] (rV K) Qe4)
theorem Qjr (Qe8:Def K mg "_law_by_hand" QeW)
  (B:Blt mg)
  (XA_at_NoSign:XFC K mg "at" "NoSign")
  (XA_at_NoRoom:XFC K mg "at" "NoRoom")
  (XA_at_NoRoll:XFC K mg "at" "NoRoll")
  (XA_name_NoHand:XFC K mg "name" "NoHand")
  (XA_name_Twice:XFC K mg "name" "Twice")
  (XA_name_Closed:XFC K mg "name" "Closed")
  (X_NoName:QgU K mg "NoName")
  (KP_NoName:KPC K mg "NoName")
  (X_NoSize:QgU K mg "NoSize")
  (KP_NoSize:KPC K mg "NoSize")
  (X_NoCell:QgU K mg "NoCell")
  (KP_NoCell:KPC K mg "NoCell")
  (X_NoRow:QgU K mg "NoRow")
  (KP_NoRow:KPC K mg "NoRow")
  (XI_NoSign:Qde Pr w K mg base "NoSign" "at" 1)
  (KP_NoSign:KPC K mg "NoSign")
  (XI_NoHand:Qde Pr w K mg base "NoHand" "name" 1)
  (KP_NoHand:KPC K mg "NoHand")
  (XI_NoRoom:Qde Pr w K mg base "NoRoom" "at" 1)
  (KP_NoRoom:KPC K mg "NoRoom")
  (XI_NoRoll:Qde Pr w K mg base "NoRoll" "at" 1)
  (KP_NoRoll:KPC K mg "NoRoll")
  (XI_Twice:Qde Pr w K mg base "Twice" "name" 1)
  (KP_Twice:KPC K mg "Twice")
  (XI_Closed:Qde Pr w K mg base "Closed" "name" 1)
  (KP_Closed:KPC K mg "Closed")
  (IS_OutError_NoName:ISN K mg "OutError" "NoName" true)
  (IS_OutError_NoSize:ISN K mg "OutError" "NoSize" true)
  (IS_OutError_NoCell:ISN K mg "OutError" "NoCell" true)
  (IS_OutError_NoRow:ISN K mg "OutError" "NoRow" true)
  (IS_OutError_NoSign:ISN K mg "OutError" "NoSign" true)
  (IS_OutError_NoHand:ISN K mg "OutError" "NoHand" true) :
  Qg6 Pr w K mg base:=by
 refine Qdd (k:=2) (b:=QdK) Qe8 QcN (fun _ _ _ _ _ _=>QaV fun _=>QbD rfl) [.s] [.v,.v,.v,.v] Qbe (fun _ _ _ _=>Rp.non) (body:=fun f cdv A outer s H E hr P=>?_);refine Qal ?_ ?_;refine QaQ (i:=1) QcN.nd rfl (.inl rfl) ?_;refine QaH ?_;refine QbS 3 ?_;refine Qaq ?_ ?_;refine QdT (L:=["NoSign"]) ?_ (Qdo XA_at_NoSign QdD);refine QeP XI_NoSign KP_NoSign (hr.mono (by decide)) (Qb6 (Qao 0));refine Qaq ?_ ?_;refine QdT (L:=["NoRoom"]) ?_ (Qdo XA_at_NoRoom QdD);refine QeP XI_NoRoom KP_NoRoom (hr.mono (by decide)) ?_;refine QaH ?_;refine Qas QaM (Qao 0) (Qad Qai);refine Qaq ?_ Qam;refine QdT (L:=["NoRoll"]) ?_ (Qdo XA_at_NoRoll QdD)
 refine QeP XI_NoRoll KP_NoRoll (hr.mono (by decide)) ?_;refine QaH ?_;refine Qas QaM (Qao 0) (Qad Qai);refine Qal ?_ ?_;refine QaQ (i:=2) QcN.nd rfl (.inl rfl) ?_;refine QaH ?_;refine QbS 3 ?_;refine Qaq ?_ ?_;refine QdT (L:=["NoHand"]) (QeP XI_NoHand KP_NoHand (hr.mono (by decide)) (Qap [97])) (Qdo XA_name_NoHand QdD);refine Qaq ?_ ?_;refine QdT (L:=["Twice"]) (QeP XI_Twice KP_Twice (hr.mono (by decide)) (Qap [98])) (Qdo XA_name_Twice QdD);refine Qaq ?_ Qam;refine QdT (L:=["Closed"]) (QeP XI_Closed KP_Closed (hr.mono (by decide)) (Qap [99])) (Qdo XA_name_Closed QdD);refine Qal ?_ ?_;refine QaQ (i:=3) QcN.nd rfl (.inl rfl) ?_
 refine QaH ?_;refine QbS 6 ?_;refine Qaq (Qjb X_NoName KP_NoName Qgo) ?_;refine Qaq (Qjb X_NoSize KP_NoSize Qgo) ?_;refine Qaq (Qjb X_NoCell KP_NoCell Qgo) ?_;refine Qaq (Qjb X_NoRow KP_NoRow Qgo) ?_;refine Qaq (QeP XI_NoSign KP_NoSign (hr.mono (by decide)) Qai) ?_;refine Qaq (QeP XI_NoHand KP_NoHand (hr.mono (by decide)) (Qap [97])) Qam;refine Qal ?_ ?_;refine Qhq rfl ?_ (Qce (i:=4) QcN.nd rfl (.inl rfl)) ?_;refine QiQ (QqD (Qag 3));refine Qar ?_;refine Qa2 ?_ ?_ QaO;refine Qdh ?_;refine Qb9 ?_;refine Qad (QoO (tb:=[("NoName",true),("NoSize",true),("NoCell",true),("NoRow",true),("NoSign",true),("NoHand",true)]) B.isinstance_ IS_OutError_NoName.nm (Qag 4) (Qdp IS_OutError_NoName (Qdp IS_OutError_NoSize (Qdp IS_OutError_NoCell (Qdp IS_OutError_NoRow (Qdp IS_OutError_NoSign (Qdp IS_OutError_NoHand QiS)))))))
 refine Qar (QaA Qej);refine Qar ?_;refine QaA ?_;refine QcX ?_ ?_;refine QaH ?_;refine QdX (QaT hr) (Qad (Qag 1)) ?_ (QaG _);refine Qav ?_;refine QbS 3 ?_;refine Qaq (Qb6 (Qao 0)) ?_;refine Qaq ?_ ?_;refine QaH ?_;refine Qas QaM (Qao 0) (Qad Qai);refine Qaq ?_ Qam;refine QaH ?_;refine Qas QaM (Qao 0) (Qad Qai);refine QfC ?_;refine QaH ?_;refine QdX (QaT hr) (Qad (Qag 2)) ?_ (QaG _);refine Qav ?_;refine QbS 3 ?_;refine Qaq (Qap [97]) ?_;refine Qaq (Qap [98]) ?_;refine Qaq (Qap [99]) Qam
abbrev Qfp:Stmt:=top 40
theorem Qcm:QaK ["_law_text","_law_cell_here","_law_at","_law_bad","_law_other"] ["_law_text","_law_cell_here"] (Qah Qfp):=by trivial
def Qee:MS :=
  (Qaj (QaB 2 (Qae Qbh (Qax Qa3 (Qaa (Qac 1) (Qaa (mC (.int 11)) Qaf))) (Qae QaF (Qbd QbN (Qaa (Qac 0) Qaf)) (mC (.int 1)))))
  (Qaj (QaR (Qaw (Qae gEq (Qae Qbh (Qax Qa3 (Qaa (Qac 1) (Qaa (mC (.int 12)) Qaf))) (mC (.int 5))) (mC (.int 0)))) (QaB 2 (Qae gIx (Qbx (Qaa (mC (.int 0)) (Qaa (Qbd QbN (Qaa (Qac 0) Qaf)) Qaf))) (Qae Qbh (Qax Qa3 (Qaa (Qac 1) (Qaa (mC (.int 13)) Qaf))) (mC (.int 2))))) Qau)
  (Qaj (QaB 3 (Qae QaF (Qae QaF (mSl (Qac 0) moN (moS (Qac 2))) (mC (.str [126]))) (mSl (Qac 0) (moS (Qac 2)) moN)))
  (Qaj (QaB 4 (Qae Qbh (Qax Qa3 (Qaa (Qac 1) (Qaa (mC (.int 14)) Qaf))) (Qae QaF (Qbd QbN (Qaa (Qac 3) Qaf)) (mC (.int 1)))))
  (Qaj (QaR (Qaw (Qae gEq (Qae Qbh (Qax Qa3 (Qaa (Qac 1) (Qaa (mC (.int 15)) Qaf))) (mC (.int 2))) (mC (.int 0)))) (QaB 3 (Qae QaF (Qae QaF (mSl (Qac 3) moN (moS (Qac 4))) (mC (.str [126]))) (mSl (Qac 3) (moS (Qac 4)) moN))) Qau)
  (Qat (Qac 3)))))))
def Qc8:List D→Qab→Res D:=Qbc 5 Qee
abbrev QhG (Pr:Program) (w:World) (K:Frag) (mg:Str→Option Value) (base:Heap):Prop:=Can Pr w K mg base "_law_spoilt" ["_law_text","_law_cell_here"] 2 (vSp K mg [.s,.s] (rV K) Qc8)
theorem Qkm (QfE:Def K mg "_law_spoilt" Qfp)
  (B:Blt mg)
  (Qbn:QfM Pr w K mg base) :
  QhG Pr w K mg base:=by
 refine Qdd (k:=1) (b:=Qee) QfE Qcm (fun _ _ _ _ _ _=>QaV fun _=>QaV fun _=>QbD rfl) [.s,.s] [.v,.v,.v] Qbe (fun _ _ _ _=>Rp.non) (body:=fun f cdv A outer s H E hr P=>?_);refine Qal ?_ ?_;refine QaQ (i:=2) Qcm.nd rfl (.inl rfl) ?_;refine QaH ?_;refine Qas QbU ?_ ?_;refine Qad ?_;refine QaS Qbn (hr.mono (by decide)) ?_;refine Qaz (Qao 1) ?_;refine Qaz (Qad Qai) Qam;refine Qav ?_;refine Qas QaM ?_ (Qad Qai);refine Qav ?_;refine Qbs (ms:=[.s]) (hv:=QbT) QbV B.len_ ?_;refine Qaz (Qao 0) Qam;refine Qal ?_ ?_;refine Qa2 ?_ ?_ QaO;refine QaL (QaT hr) ?_ (Qad Qai) (QaG _);refine Qav ?_;refine Qas QbU ?_ (Qad Qai)
 refine Qad ?_;refine QaS Qbn (hr.mono (by decide)) ?_;refine Qaz (Qao 1) ?_;refine Qaz (Qad Qai) Qam;refine Qar ?_;refine QaQ (i:=2) Qcm.nd rfl (.inl rfl) ?_;refine Qa7 ?_ ?_;refine Qav ?_;refine QbS 2 ?_;refine Qaq Qai ?_;refine Qaq ?_ Qam;refine QaH ?_;refine Qbs (ms:=[.s]) (hv:=QbT) QbV B.len_ ?_;refine Qaz (Qao 0) Qam;refine Qav ?_;refine Qas QbU ?_ (Qad Qai);refine Qad ?_;refine QaS Qbn (hr.mono (by decide)) ?_;refine Qaz (Qao 1) ?_;refine Qaz (Qad Qai) Qam;refine Qal ?_ ?_;refine QaQ (i:=3) Qcm.nd rfl (.inl rfl) ?_;refine QaH ?_;refine Qas QaM ?_ ?_;refine Qav ?_;refine Qas QaM ?_ (Qad (Qap [126]))
 refine Qav ?_;refine Qcy (Qao 0) QdS (Qcn (Qag 2));refine Qav ?_;refine Qcy (Qao 0) (Qcn (Qag 2)) QdS;refine Qal ?_ ?_;refine QaQ (i:=4) Qcm.nd rfl (.inl rfl) ?_;refine QaH ?_;refine Qas QbU ?_ ?_;refine Qad ?_;refine QaS Qbn (hr.mono (by decide)) ?_;refine Qaz (Qao 1) ?_;refine Qaz (Qad Qai) Qam;refine Qav ?_;refine Qas QaM ?_ (Qad Qai);refine Qav ?_;refine Qbs (ms:=[.s]) (hv:=QbT) QbV B.len_ ?_;refine Qaz (Qad (Qag 3)) Qam;refine Qal ?_ ?_;refine Qa2 ?_ ?_ QaO;refine QaL (QaT hr) ?_ (Qad Qai) (QaG _);refine Qav ?_;refine Qas QbU ?_ (Qad Qai);refine Qad ?_;refine QaS Qbn (hr.mono (by decide)) ?_
 refine Qaz (Qao 1) ?_;refine Qaz (Qad Qai) Qam;refine Qar ?_;refine QaQ (i:=3) Qcm.nd rfl (.inl rfl) ?_;refine QaH ?_;refine Qas QaM ?_ ?_;refine Qav ?_;refine Qas QaM ?_ (Qad (Qap [126]));refine Qav ?_;refine Qcy (Qad (Qag 3)) QdS (Qcn (Qag 4));refine Qav ?_;refine Qcy (Qad (Qag 3)) (Qcn (Qag 4)) QdS;refine Qar (QaA (Qag 3))
abbrev Qd7:Stmt:=top 41
theorem Qdi:QaK ["_law_script","_law_text","_law_cell_here","_law_ahead","_law_reader","_law_told","_law_held","_law_bad","_law_thing","_law_way"] ["_law_script"] (Qah Qd7):=by trivial
def Qkv:MS :=
  (Qaj (QaB 1 (Qkw (Qih (QcH (mSl (Qac 0) (moS (mC (.int 1))) (moS (mC (.int 41))))) 1 [] (mgN 0) Qjx (Qax Qbf (Qaa (Qac 0) Qaf)))))
  (Qaj (QaB 2 (Qax QbE (Qaa (Qac 0) (Qaa (mC (.int 0)) Qaf))))
  (Qaj (QaB 3 (Qae QaF (Qax Qbf (Qaa (Qax QbE (Qaa (Qac 0) (Qaa (mC (.int 41)) Qaf))) Qaf)) (Qax Qbf (Qaa (Qax QbE (Qaa (Qac 0) (Qaa (mC (.int 42)) Qaf))) Qaf))))
  (Qaj (QaB 4 (Qfc "Reader" Qbl Qaf))
  (Qaj (QaB 5 (Qb0 "Reader" "feed" Qbj (Qac 4) (Qaa (Qac 3) Qaf)))
  (Qaj (QaB 6 (Qb0 "Reader" "held_text" Qbv (Qac 4) Qaf))
  (Qaj (QaB 7 (Qax Qc8 (Qaa (Qac 1) (Qaa (Qac 2) Qaf))))
  (Qaj (QaB 8 (Qae gIx (Qbx (Qaa (mC .non) (Qaa (mC (.int 5)) (Qaa (mC (.bl true)) (Qaa (Qbx (Qaa (mC (.str [97])) Qaf)) (Qaa (Qb8 (Qaa (mC (.str [97])) Qaf)) (Qaa (mC (.dic [] [])) (Qaa (Qbx (Qaa (Qac 7) Qaf)) Qaf)))))))) (Qae Qbh (Qax Qa3 (Qaa (Qac 2) (Qaa (mC (.int 16)) Qaf))) (mC (.int 7)))))
  (Qaj (QaR (Qck (Qaw (QeD (Qax Qbm (Qaa (Qac 1) Qaf)))) (Qck (Qaw (QeD (Qax Qbm (Qaa (mC (.str [])) Qaf)))) (QbF (QbI (Qax Qe4 (Qaa (Qax Qa3 (Qaa (Qac 2) (Qaa (mC (.int 17)) Qaf))) Qaf)))))) (Qat (mC (.bl false))) Qau)
  (Qaj (Qc6 (QcH (Qbx (Qaa (mC (.int 0)) (Qaa (mC (.int 1)) (Qaa (mC (.int 2)) (Qaa (mC (.int 2)) Qaf)))))) (mgN 9) (QaR (Qck (QbF (QbI (Qax Qcl (Qaa (Qac 9) (Qaa (Qac 4) (Qaa (Qac 7) (Qaa (Qgt (Qac 7) (mC (.str [126]))) Qaf))))))) (QbF (QbI (Qax Qcl (Qaa (Qac 9) (Qaa (Qac 4) (Qaa (Qac 8) (Qaa (mC (.int 0)) Qaf)))))))) (Qat (mC (.bl false))) Qau))
  (Qaj (QaR (Qaw (Qae gNe (Qb0 "Reader" "held_text" Qbv (Qac 4) Qaf) (Qac 6))) (Qat (mC (.bl false))) Qau)
  (Qaj (QaB 5 (Qae QaF (Qae QaF (Qac 5) (Qb0 "Reader" "feed" Qbj (Qac 4) (Qaa (Qac 1) Qaf))) (Qb0 "Reader" "finish" Qb5 (Qac 4) Qaf)))
  (Qat (Qax Qea (Qaa (Qac 5) (Qaa (Qax QeG (Qaa (Qae QaF (Qac 3) (Qac 1)) Qaf)) Qaf))))))))))))))))
def Qqc:List D→Qab→Res D:=Qbc 10 Qkv
abbrev QuA (Pr:Program) (w:World) (K:Frag) (mg:Str→Option Value) (base:Heap):Prop:=Can Pr w K mg base "law" ["_law_script"] 8 (vSp K mg [.s] (rV K) Qqc)
theorem Qs0 (QmL:Def K mg "law" Qd7)
  (B:Blt mg)
  (QdE:Qin Pr w K mg base)
  (Qd4:Qje Pr w K mg base)
  (QbP:Qdy Pr w K mg base)
  (Qbz:QfD Pr w K mg base "Reader" "feed" ["self","piece"] 4 (vSp K mg [.v,.s] (rO K) Qbj))
  (Qcx:QeJ Pr w K mg base)
  (Qft:QhG Pr w K mg base)
  (Qbn:QfM Pr w K mg base)
  (Qcb:Can Pr w K mg base "checked" ["text"] 3 (vSp K mg [.s] (rV K) Qbm))
  (QeZ:Qg6 Pr w K mg base)
  (QdI:Qg7 Pr w K mg base)
  (Qb3:Qd9 Pr w K mg base)
  (QgM:Qjf Pr w K mg base)
  (Qgk:Qiu Pr w K mg base) :
  QuA Pr w K mg base:=by
 refine Qdd (k:=7) (b:=Qkv) QmL Qdi (fun _ _ _ _ _ _=>QaV fun _=>QbD rfl) [.s] [.v,.v,.v,.v,.v,.v,.v,.v,.v] Qbe (fun _ _ _ _=>Rp.non) (body:=fun f cdv A outer s H E hr P=>?_);refine Qal ?_ ?_;refine QaQ (i:=1) Qdi.nd rfl (.inl rfl) ?_;refine QaH ?_;refine QrJ ?_;refine Qav ?_;refine Ql8 (Qah Qd7) ["_law_script","_law_text","_law_cell_here","_law_ahead","_law_reader","_law_told","_law_held","_law_bad","_law_thing","_law_way"] ["_law_cell_here"] [] rfl ?_ (fun _ _ _ _ P=>?_) (fun _ _ _ _ P=>?_) (fun _ _ _ _ P=>?_);refine QqW ?_;refine Qav ?_;refine Qcy (Qao 0) (Qcn Qai) (Qcn Qai);exact Qce (i:=0) (show (Qbu ["_law_script","_law_text","_law_cell_here","_law_ahead","_law_reader","_law_told","_law_held","_law_bad","_law_thing","_law_way"] ["_law_cell_here"] []).Nodup by decide +kernel) rfl (.inl rfl)
 exact Qmd
 refine QaS QdE (hr.mono (by decide)) ?_;refine Qaz (Qad (Qag 0)) Qam;refine Qal ?_ ?_;refine QaQ (i:=2) Qdi.nd rfl (.inl rfl) ?_;refine QaS Qd4 (hr.mono (by decide)) ?_;refine Qaz (Qao 0) ?_;refine Qaz (Qad Qai) Qam;refine Qal ?_ ?_;refine QaQ (i:=3) Qdi.nd rfl (.inl rfl) ?_;refine QaH ?_;refine Qas QaM ?_ ?_;refine Qad ?_;refine QaS QdE (hr.mono (by decide)) ?_;refine Qaz ?_ Qam;refine Qad ?_;refine QaS Qd4 (hr.mono (by decide)) ?_;refine Qaz (Qao 0) ?_;refine Qaz (Qad Qai) Qam;refine Qad ?_;refine QaS QdE (hr.mono (by decide)) ?_;refine Qaz ?_ Qam;refine Qad ?_;refine QaS Qd4 (hr.mono (by decide)) ?_
 refine Qaz (Qao 0) ?_;refine Qaz (Qad Qai) Qam;refine Qal (QaQ (i:=4) Qdi.nd rfl (.inl rfl) (Qlb QbP (hr.mono (by decide)))) ?_;refine Qal ?_ ?_;refine QaQ (i:=5) Qdi.nd rfl (.inl rfl) ?_;refine QaH ?_;refine QjN Qbz (hr.mono (by decide)) (Qag 4) ?_;refine Qaz (Qad (Qag 3)) Qam;refine Qal ?_ ?_;refine QaQ (i:=6) Qdi.nd rfl (.inl rfl) (Qgy Qcx (hr.mono (by decide)) (Qag 4));refine Qal ?_ ?_;refine QaQ (i:=7) Qdi.nd rfl (.inl rfl) ?_;refine QaS Qft (hr.mono (by decide)) ?_;refine Qaz (Qad (Qag 1)) ?_;refine Qaz (Qad (Qag 2)) Qam;refine Qal ?_ ?_;refine QaQ (i:=8) Qdi.nd rfl (.inl rfl) ?_;refine Qa7 ?_ ?_
 refine Qav ?_;refine QbS 7 ?_;refine Qaq Qnv ?_;refine Qaq Qai ?_;refine Qaq Qej ?_;refine Qaq ?_ ?_;refine QaH ?_;refine QbS 1 ?_;refine Qaq (Qap [97]) Qam;refine Qaq ?_ ?_;refine Qbw 1 ?_;refine Qaq (Qap [97]) Qam;refine Qaq QrE ?_;refine Qaq ?_ Qam;refine QaH ?_;refine QbS 1 ?_;refine Qaq (Qag 7) Qam;refine Qav ?_;refine Qas QbU ?_ (Qad Qai);refine Qad ?_;refine QaS Qbn (hr.mono (by decide)) ?_;refine Qaz (Qad (Qag 2)) ?_;refine Qaz (Qad Qai) Qam;refine Qal ?_ ?_;refine Qa2 ?_ ?_ QaO;refine Qfr ?_;refine QeI ?_ ?_;refine Qjs ?_;refine Qad ?_;refine QaS Qcb (hr.mono (by decide)) ?_;refine Qaz (Qad (Qag 1)) Qam
 refine QeI ?_ ?_;refine Qjs ?_;refine Qad ?_;refine QaS Qcb (hr.mono (by decide)) ?_;refine Qaz (Qad (Qap [])) Qam;refine Qfu ?_;refine Qdh ?_;refine Qb9 ?_;refine Qad ?_;refine QaS QeZ (hr.mono (by decide)) ?_;refine Qaz ?_ Qam;refine Qad ?_;refine QaS Qbn (hr.mono (by decide)) ?_;refine Qaz (Qad (Qag 2)) ?_;refine Qaz (Qad Qai) Qam;refine Qar (QaA Qej);refine Qal ?_ ?_;refine Qhq rfl ?_ (Qce (i:=9) Qdi.nd rfl (.inl rfl)) ?_;refine QiQ ?_;refine QqD ?_;refine QaH ?_;refine QbS 4 ?_;refine Qaq Qai ?_;refine Qaq Qai ?_;refine Qaq Qai ?_;refine Qaq Qai Qam;refine Qar ?_;refine Qa2 ?_ ?_ QaO;refine Qfr ?_
 refine QeI ?_ ?_;refine Qdh ?_;refine Qb9 ?_;refine Qad ?_;refine QaS QdI (hr.mono (by decide)) ?_;refine Qaz (Qad (Qag 9)) ?_;refine Qaq (Qag 4) ?_;refine Qaz (Qad (Qag 7)) ?_;refine Qaz ?_ Qam;refine Qav ?_;refine QpM (Qag 7) (Qap [126]);refine Qfu ?_;refine Qdh ?_;refine Qb9 ?_;refine Qad ?_;refine QaS QdI (hr.mono (by decide)) ?_;refine Qaz (Qad (Qag 9)) ?_;refine Qaq (Qag 4) ?_;refine Qaz (Qad (Qag 8)) ?_;refine Qaz (Qad Qai) Qam;refine Qar (QaA Qej);refine Qal ?_ ?_;refine Qa2 ?_ ?_ QaO;refine QaL (Qm2 hr) ?_ (Qad (Qag 6)) (QaG _);refine Qad (Qgy Qcx (hr.mono (by decide)) (Qag 4));refine Qar (QaA Qej)
 refine Qal ?_ ?_;refine QaQ (i:=5) Qdi.nd rfl (.inl rfl) ?_;refine QaH ?_;refine Qas QaM ?_ ?_;refine Qav ?_;refine Qas QaM (Qad (Qag 5)) ?_;refine Qav ?_;refine QjN Qbz (hr.mono (by decide)) (Qag 4) ?_;refine Qaz (Qad (Qag 1)) Qam;refine Qad (Qgy Qb3 (hr.mono (by decide)) (Qag 4));refine Qar ?_;refine QaA ?_;refine QaS QgM (hr.mono (by decide)) ?_;refine Qaz (Qad (Qag 5)) ?_;refine Qaz ?_ Qam;refine Qav ?_;refine Qia Qgk (hr.mono (by decide)) ?_;refine Qaz ?_ Qam;refine Qav ?_;refine Qas QaM (Qad (Qag 3)) (Qad (Qag 1))
end
structure Okt (t:List Nat):Prop where
 len:t.length≤5000
 ok:∀c∈t,(32≤c∧c≤125)∨c=10∨c=9
theorem Okt.lt {t:List Nat} (h:Okt t):∀c∈t,c < 128:=fun c hc=>by
 have:=h.ok c hc
 omega
theorem Okt.asc {t:List Nat} (h:Okt t):ascii t=true:=by
 unfold ascii;rw [jd];intro c hc;exact zG (h.lt c hc)
@[simp] theorem Qxd {a:Nat}:gIx (.str [a]) (.int 0)=some (.str [a]):=rfl
@[simp] theorem Qxf {a b:Nat}:gIx (.str [a,b]) (.int 0)=some (.str [a]):=rfl
@[simp] theorem Qxb {a b:Nat}:gIx (.str [a,b]) (.int 1)=some (.str [b]):=rfl
@[simp] theorem QwT {a b c:Nat}:gIx (.str [a,b,c]) (.int 0)=some (.str [a]):=rfl
@[simp] theorem Qw8 {a b c:Nat}:gIx (.str [a,b,c]) (.int 1)=some (.str [b]):=rfl
@[simp] theorem Qw9 {a b c:Nat}:gIx (.str [a,b,c]) (.int 2)=some (.str [c]):=rfl
@[simp] theorem Qxe {a b c d:Nat}:gIx (.str [a,b,c,d]) (.int 0)=some (.str [a]):=rfl
@[simp] theorem QwU {a b c d:Nat}:gIx (.str [a,b,c,d]) (.int 1)=some (.str [b]):=rfl
@[simp] theorem QwW {a b c d:Nat}:gIx (.str [a,b,c,d]) (.int 2)=some (.str [c]):=rfl
@[simp] theorem Qxh {a b c d:Nat}:gIx (.str [a,b,c,d]) (.int 3)=some (.str [d]):=rfl
@[simp] theorem QwR {a b:D}:gIx (.tup [a,b]) (.int 0)=some a:=rfl
@[simp] theorem Qw7 {a b:D}:gIx (.tup [a,b]) (.int 1)=some b:=rfl
@[simp] theorem Qxk {a b c:D}:gIx (.tup [a,b,c]) (.int 0)=some a:=rfl
@[simp] theorem QwE {a b c:D}:gIx (.tup [a,b,c]) (.int 1)=some b:=rfl
@[simp] theorem Qxa {a b c:D}:gIx (.tup [a,b,c]) (.int 2)=some c:=rfl
theorem QgG (c:Nat) (O:Qab):QcC [.str [c]] O = .ok (.bl (col c)) O:=by
 simp [QcC,Qgl,col]
theorem Qfb (c:Nat) (O:Qab):QdV [.str [c]] O = .ok (.bl (decide (32≤c∧c≤125))) O:=by
 simp [QdV,Qhc]
 by_cases h:32≤c <;> simp [h]
theorem QnB {t:List Nat}{d:D}{i:Nat} (h:(QbH 0 (QaX t))[i]? = some d):∃c,c∈t∧d = .tup [.int i,.str [c]]:=by
 rw [QfU] at h;unfold QaX at h;rw [zE] at h
 cases q:t[i]? with
 | none=>rw [q] at h; cases h
 | some c =>
  rw [q] at h;simp at h;exact ⟨c,zN q,h.symm⟩
def mkD:Option (List Nat×List Nat)→D
 | some (k,v)=>.tup [.str k,.str v]
 | none=>.non
theorem QsD (s:List Nat) (h0:1≤s.length) (h4:s.length≤4) (O:Qab):Qdj [.str s] O = .ok (mkD (markB s)) O:=by
 match s,h0,h4 with
 | [a],_,_=>simp [Qdj,QdU,markB,mkD]
 | [a,b],_,_ =>
  simp [Qdj,QdU,markB]
  by_cases h1:a=91∧b=93
  ·simp [h1,mkD,Qd0]
  ·by_cases h2:a=91∧b=91
   ·simp [h2,mkD,Qa4]
   ·simp [h1,h2,mkD]
 | [a,b,c],_,_ =>
  simp [Qdj,QdU,markB,QgG]
  by_cases h1:a=91
  ·by_cases h2:col b=true
   ·by_cases h3:c=93
    ·simp [h1,h2,h3,mkD,QhH]
    ·simp [h1,h2,h3,mkD]
   ·simp [h1,h2,mkD]
  ·simp [h1,mkD]
 | [a,b,c,d],_,_ =>
  simp [Qdj,QdU,markB,QgG]
  by_cases h1:a=91
  ·by_cases h5:b=47
   ·by_cases h2:col c=true
    ·by_cases h3:d=93
     ·simp [h1,h2,h3,h5,mkD,Qew]
     ·simp [h1,h2,h3,h5,mkD]
    ·simp [h1,h2,h5,mkD]
   ·simp [h1,h5,mkD]
  ·simp [h1,mkD]
theorem QtV (s:List Nat) (h0:1≤s.length) (h4:s.length≤4) (O:Qab):QbA [.str s] O = .ok (.bl (Qch s)) O:=by
 match s,h0,h4 with
 | [a],_,_ =>
  simp [QbA,QbQ,Qch]
  by_cases h1:a=91 <;> simp [h1]
 | [a,b],_,_ =>
  simp [QbA,QbQ,Qch,QgG]
  by_cases h1:a=91
  ·by_cases h2:b=47 <;> simp [h1,h2]
  ·simp [h1]
 | [a,b,c],_,_ =>
  simp [QbA,QbQ,Qch,QgG]
  by_cases h1:a=91
  ·by_cases h2:b=47 <;> simp [h1,h2]
  ·simp [h1]
 | [a,b,c,d],_,_ =>
  simp [QbA,QbQ,Qch]
theorem Quc (p:Int) (c:Nat) (O:Qab):Qd1 [.int p,.str [c]] O = .ok (own p c) O:=by
 simp [Qd1,Qg1,own,item]
 by_cases h1:c=10
 ·simp [h1,QhT]
 ·by_cases h2:c=9
  ·simp [h1,h2,QfR]
  ·simp [h1,h2,Qa4]
theorem Qkb (p:Int):∀(l:List Nat) (k:Nat),(QbH k (QaX l)).map (fun d=>match d with | .tup [.int i,.str [c]]=>own (p+i) c | _=>.non)=QcD (p+k) l
 | [],k=>rfl
 | c::l,k=>by
  show own (p+(k:Int)) c::(QbH (k+1) (QaX l)).map _=own (p+k) c::QcD (p+k+1) l;rw [Qkb p l (k+1)];congr 2;omega
theorem Qlo (p:Int) (l:List Nat) (ha:ascii l=true) (hl:l.length≤100000) (O:Qab):Qc1 [.int p,.str l] O = .ok (.lst (QcD p l)) O:=by
 have hl':(QbH 0 (QaX l)).length≤1000000:=by rw [QfN]; unfold QaX; rw [zI]; omega
 have ec:Qdr (QgI 2 (QbO (mgN 0) (QbO (mgN 1) QeK))) Qjx (Qax Qd1 (Qaa (Qae QaF (Qac 2) (Qac 0)) (Qaa (Qac 1) Qaf))) (QbH 0 (QaX l)) [none,none,some (.int p)] O [] = .ok (QcD p l) O:=by
  rw [Qhu (fun ρ=>∃a b,ρ = [a,b,some (.int p)]) (fun d=>match d with | .tup [.int i,.str [c]]=>own (p+i) c | _=>.non) _ _ _ _ ⟨none,none,rfl⟩ (by
   rintro d hd ρ ⟨a,b,rfl⟩;obtain ⟨i,hi⟩:=List.mem_iff_getElem?.mp hd;obtain ⟨c,hc,rfl⟩:=QnB hi;refine ⟨_,rfl,⟨_,_,rfl⟩,rfl,?_⟩
   simp [Quc])]
  rw [Qkb p l 0];simp
 simp [Qc1,Qf6,QlJ ha,hl',ec]
def RO (h:List Nat) (p:Int):Ob:=.ins "Reader" [("held",.str h),("place",.int p)]
theorem fh {O:Qab}{n:Nat}{h:List Nat}{p:Int} (e:O[n]? = some (RO h p)):QkC ["Reader"] "held" (.ob n) O = .ok (.str h) O:=by
 unfold QkC; dsimp only; rw [e]; rfl
theorem fp {O:Qab}{n:Nat}{h:List Nat}{p:Int} (e:O[n]? = some (RO h p)):QkC ["Reader"] "place" (.ob n) O = .ok (.int p) O:=by
 unfold QkC; dsimp only; rw [e]; rfl
theorem ph {O:Qab}{n:Nat}{h h':List Nat}{p:Int}{ρ:Qak} (e:O[n]? = some (RO h p)):puF ["Reader"] "held" (.str h') ρ (.ok (.ob n) O) = .nx ρ (O.set n (RO h' p)):=by
 unfold puF; dsimp only; rw [e]; rfl
theorem pp {O:Qab}{n:Nat}{h:List Nat}{p p':Int}{ρ:Qak} (e:O[n]? = some (RO h p)):puF ["Reader"] "place" (.int p') ρ (.ok (.ob n) O) = .nx ρ (O.set n (RO h p')):=by
 unfold puF; dsimp only; rw [e]; rfl
theorem gs {O:Qab}{n:Nat}{x y:Ob} (e:O[n]? = some x):(O.set n y)[n]? = some y:=by
 obtain ⟨h,_⟩:=zl.mp e;simp [h]
theorem QiB {h:List Nat} (H:Held h):ascii h=true:=by
 cases H with
 | h0=>rfl
 | h1=>rfl
 | h2=>rfl
 | h3 x hx =>
  have:x∈[97,98,99,100,101,102,103,104,46]:=jf hx
  have q:∀c∈[97,98,99,100,101,102,103,104,46],c < 128:=by decide
  simp [ascii,q x this]
 | h4 x hx =>
  have:x∈[97,98,99,100,101,102,103,104,46]:=jf hx
  have q:∀c∈[97,98,99,100,101,102,103,104,46],c < 128:=by decide
  simp [ascii,q x this]
theorem QqX {a:List Nat}{c:Nat} (h:ascii a=true) (hc:c < 128):ascii (a ++ [c])=true:=by
 unfold ascii at *;rw [List.all_append,h];simp [hc]
theorem Qsv {O:Qab}{n:Nat}{h:List Nat}{p:Int} (e:O[n]? = some (RO h p)) (H:Held h) (c:Nat) (hc:c < 128):QbR [.ob n,.str [c]] O = .ok (.lst (tk h c (p - h.length)).1) (O.set n (RO (tk h c (p - h.length)).2 (p+1))):=by
 have hl:=H.len;have e1:(O.set n (RO h (p+1)))[n]? = some (RO h (p+1)):=gs e
 have z1:h.length+1≤1000000:=by omega
 have z2:h.length≤1000000:=by omega
 have s0:1≤(h ++ [c]).length:=by simp
 have s4:(h ++ [c]).length≤4:=by simp; omega
 have f1:=QtV (h ++ [c]) s0 s4;have f2:=QsD (h ++ [c]) s0 s4
 have f3:=fun O=>Qlo (p - h.length) h (QiB H) (by omega) O
 have f4:=fun O=>Qlo (p - h.length) (h ++ [c]) (QqX (QiB H) hc) (by omega) O
 unfold tk;simp [QbR,Qe3,fh e,fp e,pp e,z1,z2,f1]
 by_cases q1:Qch (h ++ [c])=true
 ·simp [q1,ph e1]
 ·simp [q1,f2]
  cases q2:markB (h ++ [c]) with
  | some kv =>
   obtain ⟨k,v⟩:=kv;simp [mkD,ph e1,item]
  | none =>
   simp [mkD]
   by_cases q3:c=91
   ·subst q3;simp [fh e1,f3,ph e1]
   ·simp [q3,ph e1,f4]
def bC:MS:=(Qaj (QdJ (QbF (Qck (QbI (Qax QdV (Qaa (Qac 2) Qaf))) (Qck (Qaw (Qae gEq (Qac 2) (mC (.str [10])))) (Qaw (Qae gEq (Qac 2) (mC (.str [9]))))))) (Qaj (QdN "NoSign" "at" (Qac 1))
  Qau) Qau)
  Qau)
def gC:MG:=QgI 2 (QbO (mgN 1) (QbO (mgN 2) QeK))
def okc (c:Nat):Prop:=(32≤c∧c≤125)∨c=10∨c=9
theorem QkH (c:Nat) (o0 o1:Option D) (O:Qab):∃b,(b=true↔okc c)∧(Qck (QbI (Qax QdV (Qaa (Qac 2) Qaf))) (Qck (Qaw (Qae gEq (Qac 2) (mC (.str [10])))) (Qaw (Qae gEq (Qac 2) (mC (.str [9])))))) [o0,o1,some (.str [c])] O = .ok b O:=by
 unfold okc
 by_cases h:32≤c∧c≤125
 ·exact ⟨true,by simp [h],by simp [Qfb,h]⟩
 ·by_cases h1:c=10
  ·exact ⟨true,by simp [h1],by simp [Qfb,h1]⟩
  ·by_cases h2:c=9
   ·exact ⟨true,by simp [h2],by simp [Qfb,h2]⟩
   ·have h':32≤c→125 < c:=by omega
    exact ⟨false,by simp [h,h1,h2],by simp [Qfb,h,h1,h2]; try exact h'⟩
theorem QlK {c:Nat} (h:okc c) (o0 o1:Option D) (O:Qab):bC [o0,o1,some (.str [c])] O = .nx [o0,o1,some (.str [c])] O:=by
 obtain ⟨b,hb,e⟩:=QkH c o0 o1 O;have hb':b=true:=hb.mpr h;subst hb';unfold bC;exact Qa9 (Qqj (by rw [Qhp,e,QaI]; rfl))
theorem Qrt {c:Nat} (h:¬okc c) {d:D} (o0:Option D) (O:Qab):bC [o0,some d,some (.str [c])] O = .ex ⟨"NoSign",[("at",d)]⟩ O:=by
 obtain ⟨b,hb,e⟩:=QkH c o0 (some d) O
 have hb':b=false:=by
  cases b with
  | true=>exact absurd (hb.mp rfl) h
  | false=>rfl
 subst hb';unfold bC;exact QdF ((Qji (by rw [Qhp,e,QaI]; rfl)).trans (QdF (Qoz rfl)))
theorem QmX (o0 o1 o2:Option D) (d e:D):gC (.tup [d,e]) [o0,o1,o2]=some [o0,some d,some e]:=rfl
theorem QkQ:∀(t:List Nat) (k:Nat) (o0 o1 o2:Option D) (O:Qab),(∀c∈t,okc c)→∃o1' o2',Qa8 gC bC (QbH k (QaX t)) [o0,o1,o2] O = .nx [o0,o1',o2'] O
 | [],k,o0,o1,o2,O,_=>⟨o1,o2,rfl⟩
 | c::t,k,o0,o1,o2,O,h=>by
  obtain ⟨o1',o2',e⟩:=QkQ t (k+1) o0 (some (.int k)) (some (.str [c])) O fun x hx=>h x (zu _ hx)
  refine ⟨o1',o2',?_⟩;show Qa8 gC bC (.tup [.int k,.str [c]]::QbH (k+1) (QaX t)) [o0,o1,o2] O=_;unfold Qa8;rw [QmX];dsimp only;rw [QlK (h c zw)];exact e
theorem Qhi {x:Nat} (hx:¬okc x) (b:List Nat):∀(a:List Nat) (k:Nat) (o0 o1 o2:Option D) (O:Qab),(∀c∈a,okc c)→Qa8 gC bC (QbH k (QaX (a++x::b))) [o0,o1,o2] O = .ex ⟨"NoSign",[("at",.int ((k+a.length:Nat):Int))]⟩ O
 | [],k,o0,o1,o2,O,_=>by
  show Qa8 gC bC (.tup [.int k,.str [x]]::QbH (k+1) (QaX b)) [o0,o1,o2] O=_;unfold Qa8;rw [QmX];dsimp only;rw [Qrt hx];rfl
 | c::a,k,o0,o1,o2,O,h=>by
  have e:=Qhi hx b a (k+1) o0 (some (.int k)) (some (.str [c])) O fun y hy=>h y (zu _ hy)
  show Qa8 gC bC (.tup [.int k,.str [c]]::QbH (k+1) (QaX (a++x::b))) [o0,o1,o2] O=_;unfold Qa8;rw [QmX];dsimp only;rw [QlK (h c zw)];dsimp only;rw [e,show k+1+a.length=k+(c::a).length by rw [zq]; omega]
theorem Qma (t:List Nat) (o1 o2:Option D) (O:Qab):QbF (QbI (Qda "str" (Qac 0))) [some (.str t),o1,o2] O = .ok false O:=rfl
theorem QlW {t:List Nat} (ha:ascii t=true) (o1 o2:Option D) (O:Qab):QgN (Qac 0) [some (.str t),o1,o2] O = .ok (QbH 0 (QaX t)) O:=by
 rw [Qsw,Qfh];exact QlJ ha
theorem Qhl (t:List Nat) (h:Okt t) (O:Qab):Qbm [.str t] O = .ok .non O:=by
 obtain ⟨o1,o2,e⟩:=QkQ t 0 (some (.str t)) none none O h.ok;show Qb1 (QcP [some (.str t),none,none] O)=_;unfold QcP;rw [Qa9 (QhQ (Qma t none none O))];show Qb1 (Qaj (QdC (QgN (Qac 0)) gC bC) Qau [some (.str t),none,none] O)=_;rw [Qa9 ((QoU (QlW h.asc none none O)).trans e)];rfl
theorem Qkk {a b:List Nat}{x:Nat} (hx:¬okc x) (ha:∀c∈a,okc c) (hs:ascii (a++x::b)=true) (O:Qab):Qbm [.str (a++x::b)] O = .ex ⟨"NoSign",[("at",.int (a.length:Int))]⟩ O:=by
 have e:=Qhi hx b a 0 (some (.str (a++x::b))) none none O ha;rw [zV] at e;show Qb1 (QcP [some (.str (a++x::b)),none,none] O)=_;unfold QcP;rw [Qa9 (QhQ (Qma _ none none O))];show Qb1 (Qaj (QdC (QgN (Qac 0)) gC bC) Qau [some (.str (a++x::b)),none,none] O)=_;rw [QdF ((QoU (QlW hs none none O)).trans e)];rfl
theorem QkB {d:D}{O:Qab} (h:Qda "str" (Qac 0) [some d,none,none] O = .ok (.bl false) O):Qbm [d] O = .ex ⟨"NoSign",[("at",.int 0)]⟩ O:=by
 show Qb1 (QcP [some d,none,none] O)=_;unfold QcP;rw [QdF ((Qji (O':=O) (by rw [Qhp,Qks,h]; rfl)).trans (QdF (Qoz rfl)))];rfl
theorem QiA:∀(l:List Nat) (p:Int),(QcD p l).length=l.length
 | [],_=>rfl
 | c::l,p=>by show (QcD (p+1) l).length+1=l.length+1; rw [QiA l]
theorem QnX {h:List Nat} (H:Held h) (c:Nat) (p:Int):(tk h c p).1.length≤4:=by
 have:=H.len
 unfold tk
 split
 ·simp
 ·split
  ·simp
  ·split <;> simp [QiA] <;> omega
theorem QiD:∀(t:List Nat) {h:List Nat} (_:Held h) (p:Int),(QaY h p t).1.length≤4 * t.length
 | [],h,H,p=>by simp [QaY]
 | c::t,h,H,p=>by
  have a:=QnX H c (p - h.length);have b:=QiD t (QgK H c (p - h.length) []).1 (p+1);simp only [QaY,zr,zq];omega
theorem Qpo {O:Qab}{n:Nat}{x y:Ob}:(O.set n x).set n y=O.set n y:=by simp
def bT:MS:=(Qaj (msN (Qh0 2 (Qb0 "Reader" "take" QbR (Qac 0) (Qaa (Qac 3) Qaf))))
  Qau)
theorem Qke {n:Nat}{t0:List Nat}:∀(t:List Nat) (h:List Nat) (_:Held h) (p:Int) (acc:List D) (O:Qab) (o3:Option D),O[n]? = some (RO h p)→(∀c∈t,c < 128)→acc.length+4 * t.length≤1000000 →
  ∃o3',Qa8 (mgN 3) bT (QaX t) [some (.ob n),some (.str t0),some (.lst acc),o3] O = .nx [some (.ob n),some (.str t0),some (.lst (acc++(QaY h p t).1)),o3'] (O.set n (RO (QaY h p t).2 (p+t.length)))
 | [],h,H,p,acc,O,o3,e,_,_=>by
  refine ⟨o3,?_⟩;obtain ⟨hn,e'⟩:=zl.mp e;show Fl.nx _ O=_;simp only [QaY,zx,List.length_nil]
  have:O.set n (RO h p)=O:=by rw [←e']; exact List.set_getElem_self _
  simp [this]
 | c::t,h,H,p,acc,O,o3,e,hc,hl=>by
  have et:=Qsv e H c (hc c zw)
  have hm:meF "Reader" "take" QbR (Qaa (Qac 3) Qaf [some (.ob n),some (.str t0),some (.lst acc),some (.str [c])]) (.ob n) O=QbR [.ob n,.str [c]] O:=by
   unfold meF;dsimp only;rw [e];rfl
  have tl:=QnX H c (p - h.length);simp only [zq] at hl;obtain ⟨o3',q⟩:=Qke t (tk h c (p - h.length)).2 (QgK H c (p - h.length) []).1 (p+1) (acc++(tk h c (p - h.length)).1) (O.set n (RO (tk h c (p - h.length)).2 (p+1))) (some (.str [c])) (gs e) (fun d hd=>hc d (zu _ hd)) (by rw [zr]; omega);refine ⟨o3',?_⟩
  have eb:bT [some (.ob n),some (.str t0),some (.lst acc),some (.str [c])] O = .nx [some (.ob n),some (.str t0),some (.lst (acc++(tk h c (p - h.length)).1)),some (.str [c])] (O.set n (RO (tk h c (p - h.length)).2 (p+1))):=by
   unfold bT;refine Qa9 (QmM ?_);rw [Qtj,QnF,Qfh];show exF 2 (meF "Reader" "take" QbR _ (.ob n) O) _=_;rw [hm,et,Qst (ds:=acc) rfl (by omega)];rfl
  show Qa8 _ _ (D.str [c]::QaX t) _ O=_;unfold Qa8;rw [mg_n];dsimp only
  show (match bT [some (.ob n),some (.str t0),some (.lst acc),some (.str [c])] O with
   | .nx ρ' O'=>Qa8 _ _ (QaX t) ρ' O' | .ct ρ' O'=>Qa8 _ _ (QaX t) ρ' O' | .bk ρ' O'=>Fl.nx ρ' O' | r=>r)=_
  rw [eb];dsimp only;rw [q,Qpo];simp only [QaY,zO,zq];congr 3
  push_cast
  omega
theorem Qou {O:Qab}{n:Nat}{h:List Nat}{p:Int} (e:O[n]? = some (RO h p)) (H:Held h) (t:List Nat) (ht:Okt t):Qbj [.ob n,.str t] O = .ok (.lst (QaY h p t).1) (O.set n (RO (QaY h p t).2 (p+t.length))):=by
 have hl:=ht.len;obtain ⟨o3,q⟩:=Qke (t0:=t) t h H p [] O none e ht.lt (by simp; omega);rw [zU] at q;show Qb1 (Qco [some (.ob n),some (.str t),none,none] O)=_;unfold Qco
 rw [Qa9 (Qt1 ((Qjk (show Qaa (Qac 1) Qaf [some (.ob n),some (.str t),none,none] O = .ok [.str t] O from rfl)).trans (Qhl t ht O))),
  Qa9 (QmM (show QaB 2 (Qbx Qaf) [some (.ob n),some (.str t),none,none] O = .nx [some (.ob n),some (.str t),some (.lst []),none] O from rfl))]
 show Qb1 (Qaj (QdC (QcH (Qac 1)) (mgN 3) bT) (Qaj (msN (Qat (Qac 2))) Qau) [some (.ob n),some (.str t),some (.lst []),none] O)=_
 rw [Qa9 ((QoU (show QcH (Qac 1) [some (.ob n),some (.str t),some (.lst []),none] O = .ok (QaX t) O by rw [QoC,Qfh]; show itF (QfI (.str t)) O=_; rw [Qoo ht.asc]; rfl)).trans q),
  Qqi (Quz (show Qat (Qac 2) [some (.ob n),some (.str t),some (.lst (QaY h p t).1),o3] (O.set n (RO (QaY h p t).2 (p+t.length))) = .rt (.lst (QaY h p t).1) (O.set n (RO (QaY h p t).2 (p+t.length))) from rfl))]
 rfl
theorem Qkg {O:Qab}{n:Nat}{d:D}{x:Xc} (e:Qbm [d] O = .ex x O):Qbj [.ob n,d] O = .ex x O:=by
 show Qb1 (Qco [some (.ob n),some d,none,none] O)=_;unfold Qco;rw [QdF (QpG ((Qjk (show Qaa (Qac 1) Qaf [some (.ob n),some d,none,none] O = .ok [d] O from rfl)).trans e))];rfl
theorem QpK {O:Qab}{n:Nat}{h:List Nat}{p:Int} (e:O[n]? = some (RO h p)) (H:Held h):Qb5 [.ob n] O = .ok (.lst (QcD (p - h.length) h)) (O.set n (RO [] p)):=by
 have hl:=H.len
 have z2:h.length≤1000000:=by omega
 have f3:=fun O=>Qlo (p - h.length) h (QiB H) (by omega) O
 simp [Qb5,Qd3,fh e,fp e,z2,f3,ph e]
theorem QtI (O:Qab):Qbl [.ob O.length] (O ++ [.ins "Reader" []]) = .ok .non (O ++ [RO [] 0]):=by
 have a:(O ++ [Ob.ins "Reader" []])[O.length]? = some (.ins "Reader" []):=by simp
 have s1:∀ρ,puF ["Reader"] "held" (.str []) ρ (.ok (.ob O.length) (O ++ [.ins "Reader" []])) = .nx ρ (O ++ [.ins "Reader" [("held",.str [])]]):=fun ρ=>by
  unfold puF;dsimp only;rw [a];dsimp only;rw [if_pos (by decide)];simp [putD]
 have b:(O ++ [Ob.ins "Reader" [("held",.str [])]])[O.length]? = some (.ins "Reader" [("held",.str [])]):=by simp
 have s2:∀ρ,puF ["Reader"] "place" (.int 0) ρ (.ok (.ob O.length) (O ++ [.ins "Reader" [("held",.str [])]])) = .nx ρ (O ++ [RO [] 0]):=fun ρ=>by
  unfold puF;dsimp only;rw [b];dsimp only;rw [if_pos (by constructor <;> decide)]
  have:putD "place" (.int 0) [("held",.str [])] = [(("held":Str),D.str []),("place",.int 0)]:=by rfl
  rw [this];simp [RO]
 simp [Qbl,Qdt,s1,s2]
theorem QqF (ρ:Qak) (O:Qab):Qfc "Reader" Qbl Qaf ρ O = .ok (.ob O.length) (O ++ [RO [] 0]):=by
 simp [QtI]
theorem Qtl (O:Qab):(O ++ [RO [] 0])[O.length]? = some (RO [] 0):=by simp
theorem QtG {cf:List D→Qab→Res D}{m:Str}{ma:Qab→Res (List D)}{n:Nat}{O:Qab}{h:List Nat}{p:Int} (hm:m≠"held") (hm':m≠"place") (e:O[n]? = some (RO h p)):meF "Reader" m cf ma (.ob n) O=(ma O).bind fun ds O2=>cf (.ob n::ds) O2:=by
 unfold meF;dsimp only;rw [e];dsimp only [RO];rw [if_pos];refine ⟨rfl,?_⟩
 have a:(m == ("held":Str))=false:=by simpa using hm
 have b:(m == ("place":Str))=false:=by simpa using hm'
 simp [List.lookup,a,b]
theorem Ql5 {m:Str} (hm:m≠"held") (hm':m≠"place") (h:List Nat) (p:Int):(List.lookup m [(("held":Str),D.str h),("place",.int p)]).isNone=true:=by
 have a:(m == ("held":Str))=false:=by simpa using hm
 have b:(m == ("place":Str))=false:=by simpa using hm'
 simp [List.lookup,a,b]
theorem QtK (d:D) (O:Qab):QaB 1 (Qfc "Reader" Qbl Qaf) [some d,none,none] O = .nx [some d,some (.ob O.length),none] (O ++ [RO [] 0]):=by
 rw [Qi2,QqF,Qic];rfl
theorem QmQ {d:D}{x:Xc}{O:Qab} (e:Qbm [d] (O ++ [RO [] 0]) = .ex x (O ++ [RO [] 0])):QgA [d] O = .ex x (O ++ [RO [] 0]):=by
 show Qb1 (Qfi [some d,none,none] O)=_;unfold Qfi;rw [Qa9 (QmM (QtK _ O)),QdF (QrS ((Qqt (ds:=[d]) (n:=O.length) (O1:=O ++ [RO [] 0]) (O2:=O ++ [RO [] 0]) rfl (Qtl O) (Ql5 (by decide) (by decide) _ _) rfl).trans (Qkg e)))];rfl
theorem Qnz {α:Type} (l:List α) (a b:Nat):QbM l (some (a:Int)) (some (b:Int))=(l.drop a).take (b - a):=by
 unfold QbM;rw [HT.sIx_nat,HT.sIx_nat]
 by_cases h:a≤l.length
 ·rw [Nat.min_eq_left h]
  by_cases hb:b≤l.length
  ·rw [Nat.min_eq_left hb]
  ·rw [Nat.min_eq_right (by omega),List.take_of_length_le (by rw [List.length_drop]; omega),List.take_of_length_le (by rw [List.length_drop]; omega)]
 ·rw [Nat.min_eq_right (show l.length≤a by omega),List.drop_eq_nil_of_le (show l.length≤l.length by omega),List.drop_eq_nil_of_le (show l.length≤a by omega)];simp
theorem Qsj {α:Type} (l:List α) (b:Nat):QbM l none (some (b:Int))=l.take b:=by
 unfold QbM;rw [HT.sIx_nat,HT.sIx_none,List.drop_zero,Nat.sub_zero]
 by_cases hb:b≤l.length
 ·rw [Nat.min_eq_left hb]
 ·rw [Nat.min_eq_right (by omega),List.take_of_length_le (by omega),List.take_of_length_le (by omega)]
theorem QsF {α:Type} (l:List α) (a:Nat):QbM l (some (a:Int)) none=l.drop a:=by
 unfold QbM;rw [HT.sIx_nat,HT.sIx_none]
 by_cases h:a≤l.length
 ·rw [Nat.min_eq_left h,List.take_of_length_le (by rw [List.length_drop]; omega)]
 ·rw [Nat.min_eq_right (by omega),List.drop_eq_nil_of_le (by omega),List.drop_eq_nil_of_le (by omega)];simp
@[simp] theorem Qxs {a:Nat}:QbM [a] none (some 2) = [a]:=rfl
@[simp] theorem Qxo {a b:Nat}:QbM [a,b] none (some 2) = [a,b]:=rfl
@[simp] theorem Qxl {a b c:Nat}:QbM [a,b,c] none (some 2) = [a,b]:=rfl
@[simp] theorem Qxq {a b c d:Nat}:QbM [a,b,c,d] none (some 2) = [a,b]:=rfl
theorem QfB {c:Nat}:gIn false (.str [c]) (.str [97,98,99,100,101,102,103,104,46])=some (.bl (col c)):=by
 rw [QfP]; simp [col]
theorem Qmi (t:List Nat) (ht:t.length≤1000000) (at':Nat) (c:Nat) (r:List Nat) (hr:t.drop at'=c::r) (O:Qab):Qed [.str t,.int at'] O = .ok (.tup [item at' (one c r).1 (one c r).2.1,.int ((one c r).2.2+1:Nat)]) O:=by
 have hcut:QbM t (some (at':Int)) (some ((at':Int)+4))=(c::r).take 4:=by
  rw [show (at':Int)+4=((at'+4:Nat):Int) by push_cast; rfl,Qnz,hr,show at'+4 - at'=4 by omega]
 have hz:t.length≤16777216:=by omega
 simp [Qed,QgV,hcut,hz]
 by_cases h10:c=10
 ·subst h10
  match r with
  | []=>simp [one,item,QhT]
  | [d]=>simp [one,item,QhT]
  | [d,e]=>simp [one,item,QhT]
  | d::e::f::g=>simp [one,item,QhT]
 by_cases h9:c=9
 ·subst h9
  match r with
  | []=>simp [one,item,QfR]
  | [d]=>simp [one,item,QfR]
  | [d,e]=>simp [one,item,QfR]
  | d::e::f::g=>simp [one,item,QfR]
 by_cases h91:c=91
 ·subst h91
  match r with
  | []=>simp [one,QbJ,item,Qa4]
  | [d] =>
   by_cases d1:d=93
   ·simp [one,QbJ,item,d1,Qd0]
   by_cases d2:d=91
   ·simp [one,QbJ,item,d1,d2,Qa4]
   by_cases d3:col d=true <;> by_cases d4:d=47 <;> simp [one,QbJ,Qe1,QdP,item,d1,d2,d3,d4,Qa4]
  | [d,e] =>
   by_cases d1:d=93
   ·simp [one,QbJ,item,d1,Qd0]
   by_cases d2:d=91
   ·simp [one,QbJ,item,d1,d2,Qa4]
   by_cases d3:col d=true
   ·by_cases e1:e=93 <;> simp [-QfP,QfB,one,QbJ,Qe1,item,d1,d2,d3,e1,Qa4,QhH]
   by_cases d4:d=47
   ·by_cases e2:col e=true <;> simp [-QfP,QfB,one,QbJ,QdP,Qf4,item,d1,d2,d3,d4,e2,Qa4,Qc9]
   ·simp [-QfP,QfB,one,QbJ,Qe1,QdP,item,d1,d2,d3,d4,Qa4]
  | d::e::f::g =>
   by_cases d1:d=93
   ·simp [one,QbJ,item,d1,Qd0]
   by_cases d2:d=91
   ·simp [one,QbJ,item,d1,d2,Qa4]
   by_cases d3:col d=true
   ·have d5:=(QhK d3).2.2.1
    by_cases e1:e=93 <;> simp [-QfP,QfB,one,QbJ,Qe1,item,d1,d2,d3,d5,e1,Qa4,QhH]
   by_cases d4:d=47
   ·by_cases e2:col e=true
    ·by_cases f1:f=93 <;> simp [-QfP,QfB,one,QbJ,QdP,Qf4,item,d1,d2,d3,d4,e2,f1,Qa4,Qew,Qc9]
    ·simp [-QfP,QfB,one,QbJ,QdP,Qf4,item,d1,d2,d3,d4,e2,Qa4,Qc9]
   ·simp [-QfP,QfB,one,QbJ,Qe1,QdP,item,d1,d2,d3,d4,Qa4]
 ·match r with
  | []=>simp [one,item,Qa4,h10,h9,h91]
  | [d]=>simp [one,item,Qa4,h10,h9,h91]
  | [d,e]=>simp [one,item,Qa4,h10,h9,h91]
  | d::e::f::g=>simp [one,item,Qa4,h10,h9,h91]
theorem one_le (c:Nat) (r:List Nat):(one c r).2.2≤r.length:=by
 unfold one
 split
 ·simp
 split
 ·simp
 split
 ·unfold QbJ
  cases r with
  | nil=>simp
  | cons d r =>
   dsimp only
   split
   ·simp
   split
   ·simp
   split
   ·unfold Qe1
    cases r with
    | nil=>simp
    | cons e r=>dsimp only; split <;> simp
   split
   ·unfold QdP
    cases r with
    | nil=>simp
    | cons e r =>
     dsimp only
     split
     ·unfold Qf4
      cases r with
      | nil=>simp
      | cons f r=>dsimp only; split <;> simp
     ·simp
   ·simp
 ·simp
theorem QlA (t:List Nat) (ht:t.length≤5000) (O:Qab):QeG [.str t] O = .ok (.lst (items 0 t)) O:=by
 obtain ⟨ρ',O',e,rfl,pre,at',o3,o4,rfl,h1,h2,h3,h4⟩:=Qkc (t:=Qaw (Qae gLt (Qac 2) (Qbd QbN (Qaa (Qac 0) Qaf))))
  (b:=Qaj (Qjc (Qax Qed (Qaa (Qac 0) (Qaa (Qac 2) Qaf))) (QgI 2 (QbO (mgN 3) (QbO (mgN 4) QeK)))) (Qaj (Qgz 1 (Qac 3)) (QaB 2 (Qae QaF (Qac 2) (Qac 4)))))
  (fun k ρ O'=>O'=O∧∃(pre:List D) (at':Nat) (o3 o4:Option D),ρ = [some (.str t),some (.lst pre),some (.int at'),o3,o4]∧at'≤t.length∧k=t.length - at'∧pre++items at' (t.drop at')=items 0 t∧pre.length≤at')
  wF t.length [some (.str t),some (.lst []),some (.int 0),none,none] O (by unfold wF; omega) ⟨rfl,[],0,none,none,rfl,Nat.zero_le _,by omega,by simp,by simp⟩ (by
   rintro k ρ O' ⟨rfl,pre,at',o3,o4,rfl,h1,h2,h3,h4⟩
   have hz:t.length≤1000000:=by omega
   have hlt:at' < t.length:=by omega
   have hlt':(at':Int) < t.length:=by omega
   refine ⟨by simp [hz,hlt],?_⟩
   cases hd:t.drop at' with
   | nil =>
    have:=congrArg List.length hd
    simp at this
    omega
   | cons c r =>
    have hl:=congrArg List.length hd;simp at hl;have ho:=one_le c r;have ei:=Qmi t hz at' c r hd O';refine ⟨t.length - (at'+((one c r).2.2+1)),[some (.str t),some (.lst (pre ++ [item at' (one c r).1 (one c r).2.1])),some (.int ((at'+((one c r).2.2+1):Nat):Int)),some (item at' (one c r).1 (one c r).2.1),some (.int ((one c r).2.2+1:Nat))],O',by omega,?_,rfl,_,_,_,_,rfl,by omega,rfl,?_,?_⟩
    ·rw [Qfl,Qtu];simp only [QiX,Qgv,QiM,Qfh,List.getElem?_cons_zero,jg,QaI,ei];rw [QsO QuR];simp only [Qif,Qfl,Qr5,Qfh,List.set_cons_succ,List.set_cons_zero,List.getElem?_cons_zero,jg];rw [Qr6 (ds:=pre) rfl (by omega)];simp
    ·rw [hd,Qeb] at h3;rw [←h3,zO];congr 1
     have:t.drop (at'+((one c r).2.2+1))=r.drop (one c r).2.2:=by
      rw [←List.drop_drop,hd,Nat.add_comm,←List.drop_drop];rfl
     rw [this];simp
    ·simp
     omega) (by
   rintro ρ O' ⟨rfl,pre,at',o3,o4,rfl,h1,h2,h3,h4⟩
   have hz:t.length≤1000000:=by omega
   have hlt:t.length≤at':=by omega
   simp [hz,hlt])
 have hd:t.drop at' = []:=List.drop_eq_nil_of_le (by omega);rw [hd,QcO,zx] at h3;subst h3;simp only [QeG,Qgi,Qt9,ze,List.map_nil,zq,List.length_nil,List.replicate,List.cons_append,zU,Qfl,Qi2,QmI,QiM,QaI,Nat.zero_le,if_true,Qic,Qif,List.set_cons_succ,List.set_cons_zero,m_c];show Qb1 (Qf8 (Qgr wF _ _ [some (.str t),some (.lst []),some (.int 0),none,none] O') _)=_;unfold Qgr;rw [e];rfl
def Qpn (d:D):Prop:=∃(p:Int) (k v:List Nat),d=item p k v∧(∀c∈k,c < 1114112)∧∀c∈v,c < 1114112
theorem QrO {d:D} (h:Qpn d):QcI d=true∧(toP d).canLay0=true∧(toP d).depth≤5:=by
 obtain ⟨p,k,v,rfl,hk,hv⟩:=h;refine ⟨rfl,?_,?_⟩
 ·have a:=QlM hk;have b:=QlM hv;show PyData.canLay0 (.tuple [.int p,.str (S k),.str (S v)])=true;simp [PyData.canLay0,PyData.canLayAll0] at *
  try exact ⟨a,b⟩
 ·show PyData.depth (.tuple [.int p,.str (S k),.str (S v)])≤5;simp [PyData.depth,PyData.depthAll]
theorem Qod {c:Nat}{r:List Nat} (h:∀x∈c::r,x < 128):(∀x∈(one c r).1,x < 1114112)∧∀x∈(one c r).2.1,x < 1114112:=by
 have hc:=h c zw
 have e1:∀x∈QhT,x < 1114112:=by decide
 have e2:∀x∈QfR,x < 1114112:=by decide
 have e3:∀x∈Qd0,x < 1114112:=by decide
 have e4:∀x∈Qa4,x < 1114112:=by decide
 have e5:∀x∈QhH,x < 1114112:=by decide
 have e6:∀x∈Qew,x < 1114112:=by decide
 have s91:(∀x∈Qa4,x < 1114112)∧∀x∈([91]:List Nat),x < 1114112:=⟨e4,by decide⟩;unfold one
 split
 ·exact ⟨e1,by simp⟩
 split
 ·exact ⟨e2,by simp⟩
 split
 ·unfold QbJ
  cases r with
  | nil=>exact s91
  | cons d r =>
   have hd:=h d (by simp);dsimp only
   split
   ·exact ⟨e3,by simp⟩
   split
   ·exact s91
   split
   ·unfold Qe1
    cases r with
    | nil=>exact s91
    | cons e r =>
     dsimp only
     split
     ·exact ⟨e5,by simp; omega⟩
     ·exact s91
   split
   ·unfold QdP
    cases r with
    | nil=>exact s91
    | cons e r =>
     have he:=h e (by simp);dsimp only
     split
     ·unfold Qf4
      cases r with
      | nil=>exact s91
      | cons f r =>
       dsimp only
       split
       ·exact ⟨e6,by simp; omega⟩
       ·exact s91
     ·exact s91
   ·exact s91
 ·exact ⟨e4,by simp; omega⟩
theorem Qi5:∀(n:Nat) (t:List Nat) (p:Int),t.length≤n→(∀x∈t,x < 128)→∀d∈items p t,Qpn d
 | 0,t,p,h,_=>by
  cases t with
  | nil=>rw [QcO]; intro d hd; cases hd
  | cons c t=>simp at h
 | n+1,t,p,h,ht=>by
  cases t with
  | nil=>rw [QcO]; intro d hd; cases hd
  | cons c t =>
   rw [Qeb];intro d hd;simp only [zq] at h
   rcases zj.mp hd with rfl | hd
   ·exact ⟨_,_,_,rfl,(Qod ht).1,(Qod ht).2⟩
   ·exact Qi5 n _ _ (by rw [List.length_drop]; omega) (fun x hx=>ht x (zu _ (List.mem_of_mem_drop hx))) d hd
theorem QlQ (p:Int) (O:Qab):Qcz [.int p] O = .ok (.bl true) O:=by
 simp [Qcz,Qf2]
theorem QtJ (xs:List D) (h:∀d∈xs,Qpn d) (O:Qab):Qea [.lst xs,.lst xs] O = .ok (.bl true) O:=by
 have ok:okE (.lst xs)=true:=Ql7 (n:=5) (by decide) fun d hd=>QrO (h d hd)
 obtain ⟨ρ1,O1,e1,rfl,o1,rfl⟩:=QeQ (g:=mgN 2) (b:=Qaj (QaR (Qck (QbF (QbI (Qda "tuple" (Qac 2)))) (Qck (Qaw (Qae gNe (Qbd QbN (Qaa (Qac 2) Qaf)) (mC (.int 3)))) (QbF (QbI (Qax Qcz (Qaa (Qae gIx (Qac 2) (mC (.int 0))) Qaf)))))) (Qat (mC (.bl false))) Qau)
  (QaR (Qck (QbF (QbI (Qda "str" (Qae gIx (Qac 2) (mC (.int 1)))))) (QbF (QbI (Qda "str" (Qae gIx (Qac 2) (mC (.int 2))))))) (Qat (mC (.bl false))) Qau))
  (fun i ρ O'=>O'=O∧∃o1,ρ = [some (.lst xs),some (.lst xs),o1]) xs 0 [some (.lst xs),some (.lst xs),none] O ⟨rfl,none,rfl⟩ (by
   rintro i d ρ O' hi ⟨rfl,o1,rfl⟩;obtain ⟨p,k,v,rfl,_,_⟩:=h d (zN hi);refine ⟨_,rfl,_,_,.inl ?_,rfl,some (item p k v),rfl⟩
   simp [item,QlQ])
 have q:=QhP ok;simp [Qea,QgS,e1,ok,q]
theorem QfH (n k:Int) (h0:0≤k) (h1:k≤1000000) (O:Qab):Qa3 [.int n,.int k] O = .ok (.int (mix n k)) O:=Qs1 n k h0 h1 O
def sgl:List Nat:=[32,33,34,35,36,38,39,40,41,42,43,44,45,46,47,48,49,50,51,52,53,54,55,56,57,58,59,60,61,62,63,64,65,66,67,68,69,70,71,72,73,74,75,76,77,78,79,80,81,82,83,84,85,86,87,88,89,90,91,92,93,94,95,96,97,98,99,100,101,102,103,104,105,106,107,108,109,110,111,112,113,114,115,116,117,118,119,120,121,122,123,124,125]
theorem Qq5 (O:Qab):QeA [] O = .ok (.str sgl) O:=rfl
theorem Qsp:∀c∈sgl,32≤c∧c≤125:=by decide
theorem ixS {l:List Nat}{v n:Int} (hl:l.length≤1000000) (h:(l.length:Int)=n) (hn:0 < n):∃c,c∈l∧gIx (.str l) (.int (v % n))=some (.str [c]):=by
 obtain ⟨c,h1,h2⟩:=QnQ (xs:=l) (i:=v % n) (zZ _ (by omega)) (by rw [h]; exact ji _ hn);exact ⟨c,h2,by rw [Qt7,if_pos hl,h1]; rfl⟩
theorem ixL {l:List D}{v n:Int} (h:(l.length:Int)=n) (hn:0 < n):∃c,c∈l∧gIx (.lst l) (.int (v % n))=some c:=by
 obtain ⟨c,h1,h2⟩:=QnQ (xs:=l) (i:=v % n) (zZ _ (by omega)) (by rw [h]; exact ji _ hn);exact ⟨c,h2,h1⟩
structure Tok (l:List Nat):Prop where
 len:l.length≤9
 ok:∀c∈l,(32≤c∧c≤125)∨c=10∨c=9
def QuT:List Nat:=[97,98,99,100,101,102,103,104,46]
theorem Qr0:∀c∈QuT,32≤c∧c≤125:=by decide
def Qel:MS:=(Qaj (QaR (Qaw (Qae gLt (Qac 2) (mC (.int 3)))) (Qat (Qae gIx (Qax QeA Qaf) (Qae Qbh (Qac 3) (mC (.int 93))))) Qau)
  (Qaj (QaR (Qaw (Qae gEq (Qac 2) (mC (.int 3)))) (Qat (Qae gIx (mC (.str [32,65,66,90])) (Qae Qbh (Qac 3) (mC (.int 4))))) Qau)
  (Qaj (QaR (Qaw (Qae gEq (Qac 2) (mC (.int 4)))) (Qat (Qae QaF (Qae QaF (mC (.str [91])) (Qac 1)) (mC (.str [93])))) Qau)
  (Qaj (QaR (Qaw (Qae gEq (Qac 2) (mC (.int 5)))) (Qat (Qae QaF (Qae QaF (mC (.str [91,47])) (Qac 1)) (mC (.str [93])))) Qau)
  (Qaj (QaR (Qaw (Qae gEq (Qac 2) (mC (.int 6)))) (Qat (Qae gIx (Qbx (Qaa (mC (.str [91,93])) (Qaa (mC (.str [91,91])) (Qaa (mC (.str [91,93,93])) (Qaa (mC (.str [91,91,93])) Qaf))))) (Qae Qbh (Qac 3) (mC (.int 4))))) Qau)
  (Qaj (QaR (Qaw (Qae gEq (Qac 2) (mC (.int 9)))) (Qat (Qae gIx (Qbx (Qaa (mC (.str [10])) (Qaa (mC (.str [9])) (Qaa (mC (.str [10])) Qaf)))) (Qae Qbh (Qac 3) (mC (.int 3))))) Qau)
  (Qaj (QaR (Qaw (Qae gEq (Qac 2) (mC (.int 10)))) (Qat (Qac 1)) Qau)
  (Qaj (QaR (Qaw (Qae gEq (Qac 2) (mC (.int 11)))) (Qat (mSl (mC (.str [111,117,116,119,101,97,118,101,115])) moN (moS (Qae QaF (mC (.int 2)) (Qae Qbh (Qac 3) (mC (.int 8))))))) Qau)
  (Qat (Qae gIx (Qac 4) (Qae Qbh (Qac 3) (mC (.int 18)))))))))))))
theorem QjB (n:Int):∃l,Tok l∧∀O,Qbf [.int n] O = .ok (.str l) O:=by
 obtain ⟨c,hc,ec⟩:=ixS (l:=[97,98,99,100,101,102,103,104,46]) (v:=mix n 2) (n:=9) (by decide) (by decide) (by decide);have oc:=Qr0 c hc
 have pre:∀O,Qbf [.int n] O=Qb1 (Qel [some (.int n),some (.str [c]),some (.int (mix n 0 % 12)),some (.int (mix n 1)),some (.lst [.str [91],.str [91,47],.str [91,c],.str [91,47,c],.str [91,105,93],.str [91,47,93],.str [91,c,c,93],.str [91,65,93],.str [91,47,105,93],.str [91,91,91],.str [91,47,91],.str [91,c,91],.str [91,47,c,47,93],.str [91,47,47,c,93],.str [91,c,10],.str [93],.str [47],.str [91,47,c,9,93]])] O):=fun O=>by
  show Qb1 (Qaj _ (Qaj _ (Qaj _ (Qaj _ (Qaj _ (Qaj _ Qel))))) [some (.int n),none,none,none,none] O)=_;simp [QfH,ec,apF]
 by_cases w0:mix n 0 % 12 < 3
 ·obtain ⟨x,hx,ex⟩:=ixS (l:=sgl) (v:=mix n 1) (n:=93) (by decide) (by decide) (by decide);have ox:=Qsp x hx;exact ⟨[x],⟨by simp,by simp [ox]⟩,fun O=>by simp [pre,Qel,Qq5,w0,ex]⟩
 by_cases w3:mix n 0 % 12=3
 ·obtain ⟨x,hx,ex⟩:=ixS (l:=[32,65,66,90]) (v:=mix n 1) (n:=4) (by decide) (by decide) (by decide)
  have ox:32≤x∧x≤125:=by
   have:∀x∈[32,65,66,90],32≤x∧x≤125:=by decide
   exact this x hx
  exact ⟨[x],⟨by simp,by simp [ox]⟩,fun O=>by simp [pre,Qel,w3,ex]⟩
 by_cases w4:mix n 0 % 12=4
 ·exact ⟨[91,c,93],⟨by simp,by simp [oc]⟩,fun O=>by simp [pre,Qel,w4]⟩
 by_cases w5:mix n 0 % 12=5
 ·exact ⟨[91,47,c,93],⟨by simp,by simp [oc]⟩,fun O=>by simp [pre,Qel,w5]⟩
 by_cases w6:mix n 0 % 12=6
 ·obtain ⟨x,hx,ex⟩:=ixL (l:=[.str [91,93],.str [91,91],.str [91,93,93],.str [91,91,93]]) (v:=mix n 1) (n:=4) rfl (by decide)
  have r:∀O,Qbf [.int n] O = .ok x O:=fun O=>by simp [pre,Qel,w6,ex]
  simp at hx
  rcases hx with rfl | rfl | rfl | rfl
  all_goals exact ⟨_,⟨by simp,by simp⟩,r⟩
 by_cases w9:mix n 0 % 12=9
 ·obtain ⟨x,hx,ex⟩:=ixL (l:=[.str [10],.str [9],.str [10]]) (v:=mix n 1) (n:=3) rfl (by decide)
  have r:∀O,Qbf [.int n] O = .ok x O:=fun O=>by simp [pre,Qel,w9,ex]
  simp at hx
  rcases hx with rfl | rfl | rfl
  all_goals exact ⟨_,⟨by simp,by simp⟩,r⟩
 by_cases w10:mix n 0 % 12=10
 ·exact ⟨[c],⟨by simp,by simp [oc]⟩,fun O=>by simp [pre,Qel,w10]⟩
 by_cases w11:mix n 0 % 12=11
 ·refine ⟨QbM [111,117,116,119,101,97,118,101,115] none (some (2+mix n 1 % 8)),⟨?_,?_⟩,fun O=>by simp [pre,Qel,w11]⟩
  ·unfold QbM;simp;omega
  ·intro x hx
   have:x∈[111,117,116,119,101,97,118,101,115]:=List.mem_of_mem_drop (List.mem_of_mem_take hx)
   have q:∀x∈[111,117,116,119,101,97,118,101,115],32≤x∧x≤125:=by decide
   exact .inl (q x this)
 obtain ⟨x,hx,ex⟩:=ixL (l:=[.str [91],.str [91,47],.str [91,c],.str [91,47,c],.str [91,105,93],.str [91,47,93],.str [91,c,c,93],.str [91,65,93],.str [91,47,105,93],.str [91,91,91],.str [91,47,91],.str [91,c,91],.str [91,47,c,47,93],.str [91,47,47,c,93],.str [91,c,10],.str [93],.str [47],.str [91,47,c,9,93]]) (v:=mix n 1) (n:=18) rfl (by decide)
 have r:∀O,Qbf [.int n] O = .ok x O:=fun O=>by simp [pre,Qel,w0,w3,w4,w5,w6,w9,w10,w11,ex]
 simp at hx
 rcases hx with rfl | rfl | rfl | rfl | rfl | rfl | rfl | rfl | rfl | rfl | rfl | rfl | rfl | rfl | rfl | rfl | rfl | rfl
 all_goals exact ⟨_,⟨by simp,by simp [oc]⟩,r⟩
noncomputable def tok (n:Int):List Nat:=(QjB n).choose
theorem QiU (n:Int):Tok (tok n):=(QjB n).choose_spec.1
theorem QkY (n:Int) (O:Qab):Qbf [.int n] O = .ok (.str (tok n)) O:=(QjB n).choose_spec.2 O
noncomputable def toks (ns:List Int):List Nat:=(ns.map tok).flatten
theorem QiH:∀ns:List Int,(toks ns).length≤9 * ns.length∧((ns.map tok).map List.length).sum≤9 * ns.length
 | []=>⟨zc _,zc _⟩
 | n::ns=>by
  obtain ⟨a,b⟩:=QiH ns
  have:=(QiU n).len
  unfold toks at *;simp only [ze,List.flatten_cons,zr,List.sum_cons,zq] at *;omega
theorem Qrm (ns:List Int):∀c∈toks ns,(32≤c∧c≤125)∨c=10∨c=9:=by
 intro c hc;unfold toks at hc;obtain ⟨l,hl,hcl⟩:=List.mem_flatten.mp hc;obtain ⟨n,_,rfl⟩:=zT.mp hl;exact (QiU n).ok c hcl
def Okt.of {t:List Nat} (h:t.length≤5000) (h':∀c∈t,(32≤c∧c≤125)∨c=10∨c=9):Okt t:=⟨h,h'⟩
theorem Qor {O:Qab}{n:Nat}{h:List Nat}{p:Int} (e:O[n]? = some (RO h p)):Qbv [.ob n] O = .ok (.str h) O:=by
 simp [Qbv,Qdb,fh e]
theorem Qlk:∀(a:List Nat) (h:List Nat) (p:Int) (b:List Nat),QaY h p (a++b)=((QaY h p a).1++(QaY (QaY h p a).2 (p+a.length) b).1,(QaY (QaY h p a).2 (p+a.length) b).2)
 | [],h,p,b=>by simp [QaY]
 | c::a,h,p,b=>by
  have e:p+1+(a.length:Int)=p+((c::a).length:Nat):=by simp; omega
  simp only [List.cons_append,QaY];rw [Qlk a,e];simp
theorem Qem {g:D→D→Option D}{a b:L2.M D}{ρ:Qak}{O:Qab}{x y z:D} (ha:a ρ O = .ok x O) (hb:b ρ O = .ok y O) (h:g (QaU O x) (QaU O y)=some z):Qae g a b ρ O = .ok z O:=by
 rw [Qky,ha,QaI,hb,QaI,h,Qep]
theorem ma1 {a:L2.M D}{ρ:Qak}{O:Qab}{x:D} (h:a ρ O = .ok x O):Qaa a Qaf ρ O = .ok [x] O:=by
 rw [Qgv,h,QaI,QiM,QaI]
theorem maS {a:L2.M D}{r:L2.M (List D)}{ρ:Qak}{O:Qab}{x:D}{xs:List D} (h:a ρ O = .ok x O) (h2:r ρ O = .ok xs O):Qaa a r ρ O = .ok (x::xs) O:=by
 rw [Qgv,h,QaI,h2,QaI]
theorem Qvf {m:L2.M (List D)}{ρ:Qak}{O:Qab}{xs:List D} (h:m ρ O = .ok xs O) (hl:xs.length≤1000000):Qbx m ρ O = .ok (.lst xs) O:=by
 rw [QmI,h,QaI,if_pos hl]
theorem Qp7 {g:List D→Option D}{m:L2.M (List D)}{ρ:Qak}{O:Qab}{xs:List D}{z:D} (h:m ρ O = .ok xs O) (hg:g (xs.map (QaU O))=some z):Qbd g m ρ O = .ok z O:=by
 rw [QqK,h,QaI,hg,Qep]
theorem QcY {i:Nat}{m:L2.M D}{ρ:Qak}{O:Qab}{d:D} (h:m ρ O = .ok d O):QaB i m ρ O = .nx (ρ.set i (some d)) O:=by
 rw [Qi2,h,Qic]
theorem Qct {c:List D→Qab→Res D}{ma:L2.M (List D)}{ρ:Qak}{O:Qab}{ds:List D} (h:ma ρ O = .ok ds O):Qax c ma ρ O=c ds O:=by
 rw [QiX,h,QaI]
theorem Ql4 {m:L2.M D}{ρ:Qak}{O:Qab}{b:Bool} (h:m ρ O = .ok (.bl b) O):Qaw m ρ O = .ok b O:=by
 rw [Qlm,h,QaI,Qtf]
theorem Qlc {t:L2.M Bool}{a b:MS}{ρ:Qak}{O:Qab} (h:t ρ O = .ok true O):QaR t a b ρ O=a ρ O:=by
 rw [Qjh,h,Qi9,if_pos rfl]
theorem if_no {t:L2.M Bool}{a b:MS}{ρ:Qak}{O:Qab} (h:t ρ O = .ok false O):QaR t a b ρ O=b ρ O:=by
 rw [Qjh,h,Qi9,if_neg zg]
theorem Qgn {a b:L2.M D}{ρ:Qak}{O:Qab}{i j:Int} (ha:a ρ O = .ok (.int i) O) (hb:b ρ O = .ok (.int j) O) (hj:0 < j):Qae Qbh a b ρ O = .ok (.int (i % j)) O:=Qem ha hb (by rw [QhR,QhR,Qsq,if_pos hj])
theorem Qqu {a b:L2.M D}{ρ:Qak}{O:Qab}{i j:Int} (ha:a ρ O = .ok (.int i) O) (hb:b ρ O = .ok (.int j) O):Qae QaF a b ρ O = .ok (.int (i+j)) O:=Qem ha hb rfl
theorem Qqk {a b:L2.M D}{ρ:Qak}{O:Qab}{i j:Int} (ha:a ρ O = .ok (.int i) O) (hb:b ρ O = .ok (.int j) O):Qaw (Qae gEq a b) ρ O = .ok (decide (i=j)) O:=Ql4 (Qem ha hb rfl)
theorem Qeq {O E:Qab}{n:Nat}{x:Ob} (h:O[n]? = some x):(O++E)[n]? = some x:=by
 rw [zz (zl.mp h).1];exact h
def Bad (d:D) (x:Xc):Prop:=∀O,Qbm [d] O = .ex x O
theorem Qt4 {d:D}{x:Xc} (hb:Bad d x) {O:Qab}{n:Nat}{h:List Nat}{p:Int} (hn:O[n]? = some (RO h p)) (w:Int) (hw:w=0∨w=1∨w=2):∃E,QhM [.int w,.ob n,d] O = .ex x (O++E):=by
 rcases hw with rfl | rfl | rfl
 ·refine ⟨[],?_⟩;rw [zx];show Qb1 (QcQ [some (.int 0),some (.ob n),some d] O)=_;unfold QcQ;rw [QdF ((Qji (O':=O) rfl).trans (QdF (Qjp ((Qjk (ds:=[d]) rfl).trans (hb O)))))];rfl
 ·refine ⟨[RO [] 0],?_⟩;show Qb1 (QcQ [some (.int 1),some (.ob n),some d] O)=_;unfold QcQ;rw [Qa9 (QhQ (O':=O) rfl),QdF ((Qji (O':=O) rfl).trans (QdF (Qjp ((Qjk (ds:=[d]) rfl).trans (QmQ (hb _))))))];rfl
 ·refine ⟨[],?_⟩;rw [zx];show Qb1 (QcQ [some (.int 2),some (.ob n),some d] O)=_;unfold QcQ;rw [Qa9 (QhQ (O':=O) rfl),Qa9 (QhQ (O':=O) rfl),QdF (Qjp ((Qqt (ds:=[d]) (n:=n) (O1:=O) (O2:=O) rfl hn (Ql5 (by decide) (by decide) _ _) rfl).trans (Qkg (hb O))))];rfl
theorem QjW {d:D}{q:Int} (hb:Bad d ⟨"NoSign",[("at",.int q)]⟩) {O:Qab}{n:Nat}{h:List Nat}{p:Int} (hn:O[n]? = some (RO h p)) (w:Int) (hw:w=0∨w=1∨w=2):∃E,Qcl [.int w,.ob n,d,.int q] O = .ok (.bl true) (O++E):=by
 obtain ⟨E,eu⟩:=Qt4 hb hn w hw;refine ⟨E ++ [.xc "NoSign" [("at",.int q)]],?_⟩;rw [←zO];show Qb1 (QdG [some (.int w),some (.ob n),some d,some (.int q),none] O)=_;unfold QdG;rw [Qqi ((Qr1 ((Qjk (show Qaa (Qac 0) (Qaa (Qac 1) (Qaa (Qac 2) Qaf)) [some (.int w),some (.ob n),some d,some (.int q),none] O = .ok [.int w,.ob n,d] O from rfl)).trans eu)).trans (QpN (show List.contains [("NoSign":Str)] "NoSign" = true by decide) ?_))]
 ·rfl
 ·have hx:((O++E) ++ [Ob.xc "NoSign" [("at",.int q)]])[(O++E).length]? = some (.xc "NoSign" [("at",.int q)]):=by
   rw [zy (zc _),Nat.sub_self];rfl
  generalize (O++E).length=k at hx ⊢
  generalize (O++E) ++ [Ob.xc "NoSign" [("at",.int q)]]=O2 at hx ⊢
  have hv:Qac 4 ([some (.int w),some (.ob n),some d,some (.int q),none].set 4 (some (.ob k))) O2 = .ok (.ob k) O2:=rfl;have f1:=QoZ (tb:=[("NoSign",false)]) (bb:=false) hv hx rfl;have f2:=QoZ (tb:=[("NoSign",true)]) (bb:=true) hv hx rfl;have f3:=Qtz (f:="at") (L:=["NoSign"]) (d:=.int q) hv hx (by decide) rfl;simp only [Qfl,Qjh,Qks,f1,QaI,QpI,Qrf,QoT,Qi9,Bool.false_eq_true,if_false,Qti,Qif,f2,Qjg,QnU,QiX,Qgv,QiM,f3,QlQ,QqE,if_true,Qky,QhR];simp [QmO]
theorem Qr4 {O:Qab}{x:Ob}:(O ++ [x])[O.length]? = some x:=by
 rw [zy (zc _),Nat.sub_self];rfl
theorem Qgq {c n:Str}{m:L2.M D}{ρ:Qak}{O O1:Qab}{d:D} (h:m ρ O = .ok d O1) (hb:(n == n)=true:=by decide) (hc:List.contains [c] c=true:=by decide):Qcj n [c] (QcB c n m) ρ O = .ok d (O1 ++ [.xc c [(n,d)]]):=by
 refine Qtz (n:=O1.length) (cc:=c) (fs:=[(n,d)]) ?_ Qr4 hc ?_
 ·unfold QcB;rw [h];rfl
 ·simp only [List.lookup,hb]
theorem Qnl {c n:Str}{m:L2.M D}{ρ:Qak}{O O1:Qab}{d:D} (h:m ρ O = .ok d O1):QcB c n m ρ O = .ok (.ob O1.length) (O1 ++ [.xc c [(n,d)]]):=by
 unfold QcB;rw [h];rfl
theorem Qdz {a:L2.M D}{r:L2.M (List D)}{ρ:Qak}{O O1 O2:Qab}{x:D}{xs:List D} (h:a ρ O = .ok x O1) (h2:r ρ O1 = .ok xs O2):Qaa a r ρ O = .ok (x::xs) O2:=by
 rw [Qgv,h,QaI,h2,QaI]
theorem Qjy {a:L2.M D}{ρ:Qak}{O O1:Qab}{x:D} (h:a ρ O = .ok x O1):Qaa a Qaf ρ O = .ok [x] O1:=Qdz h rfl
theorem Qko {m:L2.M (List D)}{ρ:Qak}{O O1:Qab}{xs:List D} (h:m ρ O = .ok xs O1) (hl:xs.length≤1000000):Qbx m ρ O = .ok (.lst xs) O1:=by
 rw [QmI,h,QaI,if_pos hl]
theorem Qh9 {i:Nat}{m:L2.M D}{ρ:Qak}{O O1:Qab}{d:D} (h:m ρ O = .ok d O1):QaB i m ρ O = .nx (ρ.set i (some d)) O1:=by
 rw [Qi2,h,Qic]
theorem Qnq (a b c:Int):okE (.lst [.int a,.int b,.int c])=true:=Ql7 (n:=5) (by decide) fun d hd=>by
 simp at hd
 rcases hd with rfl | rfl | rfl <;> exact ⟨rfl,rfl,by simp [toP,PyData.depth]⟩
def tb6:List (Str×Bool):=[("NoName",true),("NoSize",true),("NoCell",true),("NoRow",true),("NoSign",true),("NoHand",true)]
theorem Qoi (m:Int) (O:Qab):∃E,Qe4 [.int m] O = .ok (.bl true) (O++E):=by
 refine ⟨[.xc "NoSign" [("at",.int m)],.xc "NoRoom" [("at",.int (m+1))],.xc "NoRoll" [("at",.int (m+2))],.xc "NoHand" [("name",.str [97])],.xc "Twice" [("name",.str [98])],.xc "Closed" [("name",.str [99])],.xc "NoName" [],.xc "NoSize" [],.xc "NoCell" [],.xc "NoRow" [],.xc "NoSign" [("at",.int 0)],.xc "NoHand" [("name",.str [97])]],?_⟩;show Qb1 (QdK [some (.int m),none,none,none,none] O)=_;unfold QdK;have e1:Qbx (Qaa (Qcj "at" ["NoSign"] (QcB "NoSign" "at" (mG (Qac 0)))) (Qaa (Qcj "at" ["NoRoom"] (QcB "NoRoom" "at" (Qae QaF (Qac 0) (mC (.int 1))))) (Qaa (Qcj "at" ["NoRoll"] (QcB "NoRoll" "at" (Qae QaF (Qac 0) (mC (.int 2))))) Qaf))) [some (.int m),none,none,none,none] O = .ok (.lst [.int m,.int (m+1),.int (m+2)]) (((O ++ [.xc "NoSign" [("at",.int m)]]) ++ [.xc "NoRoom" [("at",.int (m+1))]]) ++ [.xc "NoRoll" [("at",.int (m+2))]]) :=
  Qko (Qdz (Qgq (show mG (Qac 0) [some (.int m),none,none,none,none] O = .ok (.int m) O from rfl)) (Qdz (Qgq rfl) (Qjy (Qgq rfl)))) (show (3:Nat)≤1000000 by decide)
 rw [Qa9 (Qh9 e1)]
 generalize hO1:((O ++ [Ob.xc "NoSign" [("at",.int m)]]) ++ [Ob.xc "NoRoom" [("at",.int (m+1))]]) ++ [Ob.xc "NoRoll" [("at",.int (m+2))]]=O1
 have e2:Qbx (Qaa (Qcj "name" ["NoHand"] (QcB "NoHand" "name" (mC (.str [97])))) (Qaa (Qcj "name" ["Twice"] (QcB "Twice" "name" (mC (.str [98])))) (Qaa (Qcj "name" ["Closed"] (QcB "Closed" "name" (mC (.str [99])))) Qaf))) [some (.int m),some (.lst [.int m,.int (m+1),.int (m+2)]),none,none,none] O1 = .ok (.lst [.str [97],.str [98],.str [99]]) (((O1 ++ [.xc "NoHand" [("name",.str [97])]]) ++ [.xc "Twice" [("name",.str [98])]]) ++ [.xc "Closed" [("name",.str [99])]]) :=
  Qko (Qdz (Qgq rfl) (Qdz (Qgq rfl) (Qjy (Qgq rfl)))) (show (3:Nat)≤1000000 by decide)
 rw [show ([some (D.int m),none,none,none,none]:Qak).set 1 (some (.lst [.int m,.int (m+1),.int (m+2)])) = [some (.int m),some (.lst [.int m,.int (m+1),.int (m+2)]),none,none,none] from rfl,Qa9 (Qh9 e2)]
 generalize hO2:((O1 ++ [Ob.xc "NoHand" [("name",.str [97])]]) ++ [Ob.xc "Twice" [("name",.str [98])]]) ++ [Ob.xc "Closed" [("name",.str [99])]]=O2
 have e3:Qbx (Qaa (Qer "NoName") (Qaa (Qer "NoSize") (Qaa (Qer "NoCell") (Qaa (Qer "NoRow") (Qaa (QcB "NoSign" "at" (mC (.int 0))) (Qaa (QcB "NoHand" "name" (mC (.str [97]))) Qaf)))))) [some (.int m),some (.lst [.int m,.int (m+1),.int (m+2)]),some (.lst [.str [97],.str [98],.str [99]]),none,none] O2 = .ok (.lst [.ob O2.length,.ob (O2.length+1),.ob (O2.length+2),.ob (O2.length+3),.ob (O2.length+4),.ob (O2.length+5)]) (O2 ++ [.xc "NoName" [],.xc "NoSize" [],.xc "NoCell" [],.xc "NoRow" [],.xc "NoSign" [("at",.int 0)],.xc "NoHand" [("name",.str [97])]]):=by
  refine Qko (Qdz (show Qer "NoName" _ O2 = .ok (.ob O2.length) (O2 ++ [.xc "NoName" []]) from rfl) (Qdz (x:=.ob (O2.length+1)) (O1:=O2 ++ [.xc "NoName" [],.xc "NoSize" []]) ?_ (Qdz (x:=.ob (O2.length+2)) (O1:=O2 ++ [.xc "NoName" [],.xc "NoSize" [],.xc "NoCell" []]) ?_ (Qdz (x:=.ob (O2.length+3)) (O1:=O2 ++ [.xc "NoName" [],.xc "NoSize" [],.xc "NoCell" [],.xc "NoRow" []]) ?_ (Qdz (x:=.ob (O2.length+4)) (O1:=O2 ++ [.xc "NoName" [],.xc "NoSize" [],.xc "NoCell" [],.xc "NoRow" [],.xc "NoSign" [("at",.int 0)]]) ?_ (Qjy ?_)))))) (show (6:Nat)≤1000000 by decide)
  ·unfold Qer;simp
  ·unfold Qer;simp
  ·unfold Qer;simp
  ·rw [Qnl rfl];simp
  ·rw [Qnl rfl];simp
 rw [show ([some (D.int m),some (D.lst [.int m,.int (m+1),.int (m+2)]),none,none,none]:Qak).set 2 (some (.lst [.str [97],.str [98],.str [99]])) = [some (.int m),some (.lst [.int m,.int (m+1),.int (m+2)]),some (.lst [.str [97],.str [98],.str [99]]),none,none] from rfl,Qa9 (Qh9 e3)]
 generalize hO3:O2 ++ [Ob.xc "NoName" [],.xc "NoSize" [],.xc "NoCell" [],.xc "NoRow" [],.xc "NoSign" [("at",.int 0)],.xc "NoHand" [("name",.str [97])]]=O3
 have a3:∀j x,[Ob.xc "NoName" [],.xc "NoSize" [],.xc "NoCell" [],.xc "NoRow" [],.xc "NoSign" [("at",.int 0)],.xc "NoHand" [("name",.str [97])]][j]? = some x→O3[O2.length+j]? = some x:=fun j x h=>by
  rw [←hO3,zy (Nat.le_add_right _ _),Nat.add_sub_cancel_left];exact h
 have ln:O3=O ++ [.xc "NoSign" [("at",.int m)],.xc "NoRoom" [("at",.int (m+1))],.xc "NoRoll" [("at",.int (m+2))],.xc "NoHand" [("name",.str [97])],.xc "Twice" [("name",.str [98])],.xc "Closed" [("name",.str [99])],.xc "NoName" [],.xc "NoSize" [],.xc "NoCell" [],.xc "NoRow" [],.xc "NoSign" [("at",.int 0)],.xc "NoHand" [("name",.str [97])]]:=by
  rw [←hO3,←hO2,←hO1];simp only [zO,List.cons_append,zU]
 rw [←ln]
 generalize O2.length=k at a3
 have st:∀(j:Nat) (c:Str) (fs:List (Str×D)) (L:Qak),O3[k+j]? = some (.xc c fs)→tb6.lookup c=some true→L[4]? = some (some (.ob (k+j)))→(QaR (QbF (QbI (Qei [("NoName",true),("NoSize",true),("NoCell",true),("NoRow",true),("NoSign",true),("NoHand",true)] (Qac 4)))) (Qat (mC (.bl false))) Qau) L O3 = .nx L O3:=fun j c fs L h1 h2 h3=>by
  have q:=QoZ (tb:=[("NoName",true),("NoSize",true),("NoCell",true),("NoRow",true),("NoSign",true),("NoHand",true)]) (r:=Qac 4) (ρ:=L) (O:=O3) (O':=O3) (n:=k+j) (by rw [Qfh,h3]) h1 h2;rw [Qjh,Qhp,Qks,q];rfl
 have lp:∀o4,Qa8 (mgN 4) (QaR (QbF (QbI (Qei [("NoName",true),("NoSize",true),("NoCell",true),("NoRow",true),("NoSign",true),("NoHand",true)] (Qac 4)))) (Qat (mC (.bl false))) Qau) [.ob k,.ob (k+1),.ob (k+2),.ob (k+3),.ob (k+4),.ob (k+5)] [some (.int m),some (.lst [.int m,.int (m+1),.int (m+2)]),some (.lst [.str [97],.str [98],.str [99]]),some (.lst [.ob k,.ob (k+1),.ob (k+2),.ob (k+3),.ob (k+4),.ob (k+5)]),o4] O3 = .nx [some (.int m),some (.lst [.int m,.int (m+1),.int (m+2)]),some (.lst [.str [97],.str [98],.str [99]]),some (.lst [.ob k,.ob (k+1),.ob (k+2),.ob (k+3),.ob (k+4),.ob (k+5)]),some (.ob (k+5))] O3:=fun o4=>by
  obtain ⟨ρ1,O1',e1',rfl,o4',h4',rfl⟩:=QeQ (g:=mgN 4) (b:=QaR (QbF (QbI (Qei [("NoName",true),("NoSize",true),("NoCell",true),("NoRow",true),("NoSign",true),("NoHand",true)] (Qac 4)))) (Qat (mC (.bl false))) Qau)
   (fun i ρ O'=>O'=O3∧∃o4',(i=6→o4'=some (.ob (k+5)))∧ρ = [some (.int m),some (.lst [.int m,.int (m+1),.int (m+2)]),some (.lst [.str [97],.str [98],.str [99]]),some (.lst [.ob k,.ob (k+1),.ob (k+2),.ob (k+3),.ob (k+4),.ob (k+5)]),o4']) [.ob k,.ob (k+1),.ob (k+2),.ob (k+3),.ob (k+4),.ob (k+5)] 0 [some (.int m),some (.lst [.int m,.int (m+1),.int (m+2)]),some (.lst [.str [97],.str [98],.str [99]]),some (.lst [.ob k,.ob (k+1),.ob (k+2),.ob (k+3),.ob (k+4),.ob (k+5)]),o4] O3 ⟨rfl,o4,(fun z=>by cases z),rfl⟩ (by
    rintro i d ρ O' hi ⟨rfl,o4',_,rfl⟩
    match i,hi with
    | 0,hi=>cases hi; exact ⟨_,rfl,_,_,.inl (st 0 "NoName" [] _ (a3 0 _ rfl) rfl rfl),rfl,some (.ob k),(fun z=>by simp at z),rfl⟩
    | 1,hi=>cases hi; exact ⟨_,rfl,_,_,.inl (st 1 "NoSize" [] _ (a3 1 _ rfl) rfl rfl),rfl,some (.ob (k+1)),(fun z=>by simp at z),rfl⟩
    | 2,hi=>cases hi; exact ⟨_,rfl,_,_,.inl (st 2 "NoCell" [] _ (a3 2 _ rfl) rfl rfl),rfl,some (.ob (k+2)),(fun z=>by simp at z),rfl⟩
    | 3,hi=>cases hi; exact ⟨_,rfl,_,_,.inl (st 3 "NoRow" [] _ (a3 3 _ rfl) rfl rfl),rfl,some (.ob (k+3)),(fun z=>by simp at z),rfl⟩
    | 4,hi=>cases hi; exact ⟨_,rfl,_,_,.inl (st 4 "NoSign" [("at",.int 0)] _ (a3 4 _ rfl) rfl rfl),rfl,some (.ob (k+4)),(fun z=>by simp at z),rfl⟩
    | 5,hi=>cases hi; exact ⟨_,rfl,_,_,.inl (st 5 "NoHand" [("name",.str [97])] _ (a3 5 _ rfl) rfl rfl),rfl,some (.ob (k+5)),(fun _=>rfl),rfl⟩
    | i+6,hi=>cases hi)
  rw [e1',h4' rfl]
 rw [show ([some (D.int m),some (D.lst [.int m,.int (m+1),.int (m+2)]),some (D.lst [.str [97],.str [98],.str [99]]),none,none]:Qak).set 3 (some (.lst [.ob k,.ob (k+1),.ob (k+2),.ob (k+3),.ob (k+4),.ob (k+5)])) = [some (.int m),some (.lst [.int m,.int (m+1),.int (m+2)]),some (.lst [.str [97],.str [98],.str [99]]),some (.lst [.ob k,.ob (k+1),.ob (k+2),.ob (k+3),.ob (k+4),.ob (k+5)]),none] from rfl,
  Qa9 ((Qqw (show QcH (Qac 3) _ O3 = .ok [.ob k,.ob (k+1),.ob (k+2),.ob (k+3),.ob (k+4),.ob (k+5)] O3 from rfl)).trans (lp none))]
 have q1:Qae gEq (Qac 1) (Qbx (Qaa (mG (Qac 0)) (Qaa (Qae QaF (Qac 0) (mC (.int 1))) (Qaa (Qae QaF (Qac 0) (mC (.int 2))) Qaf)))) [some (.int m),some (.lst [.int m,.int (m+1),.int (m+2)]),some (.lst [.str [97],.str [98],.str [99]]),some (.lst [.ob k,.ob (k+1),.ob (k+2),.ob (k+3),.ob (k+4),.ob (k+5)]),some (.ob (k+5))] O3 = .ok (.bl true) O3:=by
  refine Qem (x:=.lst [.int m,.int (m+1),.int (m+2)]) (y:=.lst [.int m,.int (m+1),.int (m+2)]) rfl (Qko (Qdz (show mG (Qac 0) _ O3 = .ok (.int m) O3 from rfl) (Qdz rfl (Qjy rfl))) (show (3:Nat)≤1000000 by decide)) ?_;show (if (okE (.lst [.int m,.int (m+1),.int (m+2)])&&okE (.lst [.int m,.int (m+1),.int (m+2)]))=true then some (D.bl (QgY (.lst [.int m,.int (m+1),.int (m+2)]) (.lst [.int m,.int (m+1),.int (m+2)]))) else none)=_;rw [Qnq,Bool.and_self,if_pos rfl,QhP (Qnq _ _ _)]
 have q2:Qae gEq (Qac 2) (Qbx (Qaa (mC (.str [97])) (Qaa (mC (.str [98])) (Qaa (mC (.str [99])) Qaf)))) [some (.int m),some (.lst [.int m,.int (m+1),.int (m+2)]),some (.lst [.str [97],.str [98],.str [99]]),some (.lst [.ob k,.ob (k+1),.ob (k+2),.ob (k+3),.ob (k+4),.ob (k+5)]),some (.ob (k+5))] O3 = .ok (.bl true) O3:=Qem (x:=.lst [.str [97],.str [98],.str [99]]) (y:=.lst [.str [97],.str [98],.str [99]]) rfl rfl (by
  have ok:okE (.lst [.str [97],.str [98],.str [99]])=true:=by decide +kernel
  show (if (okE (.lst [.str [97],.str [98],.str [99]])&&okE (.lst [.str [97],.str [98],.str [99]]))=true then some (D.bl (QgY (.lst [.str [97],.str [98],.str [99]]) (.lst [.str [97],.str [98],.str [99]]))) else none)=_
  rw [ok,Bool.and_self,if_pos rfl,QhP ok])
 rw [Qjg,QnU,q1,QaI,QqE,if_pos rfl,q2];rfl
theorem Qlf {l:List Nat}{x:Nat}:∀(a b:List Nat) (k:Nat),l.drop k=a++x::b→x∉a→∀n,a.length < n→(forIn (List.range' k n) (#[],0) (StrLaws.occBody (S l) (S [x]) l.length 1)).run.fst = #[k+a.length]
 | [],b,k,hd,_,0,hn=>absurd hn (zH _)
 | [],b,k,hd,_,n+1,_=>by
  have hk:k < l.length:=by
   have:=congrArg List.length hd
   rw [List.length_drop,zr,zq] at this;omega
  have hsub:Builtin.Str.subAt (S l) (S [x]) k=true:=by
   rw [StrLaws.subAt_eq,Qdq,Qdq,Qa6,hd];simp
  rw [List.range'_succ,List.forIn_cons]
  have full:∀(m:List Nat) (f:Nat),(forIn m (#[k],f) (StrLaws.occBody (S l) (S [x]) l.length 1)).run.fst = #[k]:=fun m=>by
   induction m with
   | nil=>intro f; rfl
   | cons c m ih =>
    intro f;rw [List.forIn_cons]
    have:StrLaws.occBody (S l) (S [x]) l.length 1 c (#[k],f)=pure (ForInStep.yield (#[k],f)):=by
     unfold StrLaws.occBody;rw [if_neg (fun z=>absurd z.1.1.1 (by simp))]
    rw [this];exact ih f
  have:StrLaws.occBody (S l) (S [x]) l.length 1 k (#[],0)=pure (ForInStep.yield (#[k],k+(S [x]).length)):=by
   unfold StrLaws.occBody;rw [if_pos ⟨⟨⟨by simp,Nat.zero_le _⟩,by rw [Qa6]; show k+1≤l.length; omega⟩,hsub⟩];rfl
  rw [this];exact full _ _
 | c::a,b,k,hd,hx,0,hn=>absurd hn (Nat.not_lt_zero _)
 | c::a,b,k,hd,hx,n+1,hn=>by
  rw [List.range'_succ,List.forIn_cons]
  have hc:c≠x:=fun z=>hx (by rw [z]; exact zw)
  have:StrLaws.occBody (S l) (S [x]) l.length 1 k (#[],0)=pure (ForInStep.yield (#[],0)):=by
   unfold StrLaws.occBody;rw [if_neg];rintro ⟨_,h2⟩;rw [StrLaws.subAt_eq,Qdq,Qdq,Qa6,hd,beq_iff_eq] at h2;have h3:[c] = [x]:=h2;exact hc (List.cons.inj h3).1
  rw [this]
  have hd':l.drop (k+1)=a++x::b:=by
   rw [←List.drop_drop,hd];rfl
  have q:=Qlf a b (k+1) hd' (fun z=>hx (zu _ z)) n (by rw [zq] at hn; omega);show (forIn (List.range' (k+1) n) (#[],0) (StrLaws.occBody (S l) (S [x]) l.length 1)).run.fst=_;rw [q,zq];congr 2;omega
theorem occ_first (a b:List Nat) (x:Nat) (hx:x∉a):Builtin.Str.occurrences (S (a++x::b)) (S [x]) 0 (S (a++x::b)).length 1 = [a.length]:=by
 rw [StrLaws.occ_eq,Qa6];have q:=Qlf (l:=a++x::b) a b 0 rfl hx ((a++x::b).length+1 - 0) (by rw [zr]; omega);rw [q,zV]
theorem QkX {x:Nat}:∀{l:List Nat},x∈l→∃a b,l=a++x::b∧x∉a
 | [],h=>nomatch h
 | c::l,h=>by
  by_cases hc:c=x
  ·subst hc;exact ⟨[],l,rfl,fun z=>nomatch z⟩
  ·rcases zj.mp h with z | z
   ·exact absurd z.symm hc
   ·obtain ⟨a,b,e,ha⟩:=QkX z;refine ⟨c::a,b,by rw [e]; rfl,fun w=>?_⟩
    rcases zj.mp w with w | w
    ·exact hc w.symm
    ·exact ha w
structure Spo (s:List Nat):Prop where
 ok:∀c∈s,okc c∨c=126
 has:126∈s
 len:s.length≤1000
theorem Qsn {c:Nat} (h:okc c):c < 126:=by unfold okc at h; omega
theorem Qrw {s:List Nat} (h:Spo s):∃q:Nat,Bad (.str s) ⟨"NoSign",[("at",.int (q:Int))]⟩∧∀(m:L2.M D) (ρ:Qak) (O:Qab),m ρ O = .ok (.str s) O→Qgt m (mC (.str [126])) ρ O = .ok (.int (q:Int)) O:=by
 obtain ⟨a,b,e,ha⟩:=QkX h.has;have hok:=h.ok
 have has:ascii s=true:=by
  unfold ascii;rw [jd];intro c hc;refine zG ?_
  rcases hok c hc with z | z
  ·have:=Qsn z; omega
  ·omega
 subst e;refine ⟨a.length,fun O=>Qkk (by unfold okc; omega) (fun c hc=>?_) has O,fun m ρ O hm=>?_⟩
 ·rcases hok c (List.mem_append_left _ hc) with z | z
  ·exact z
  ·exact absurd (z ▸ hc) ha
 ·unfold Qgt;rw [hm,QaI,m_c,QaI];show (match Builtin.Str.occurrences (S (a++126::b)) (S [126]) 0 (S (a++126::b)).length 1 with | i::_=>Res.ok (D.int (i:Int)) O | []=>.no)=_;rw [occ_first a b 126 ha]
theorem Qqp {a b:L2.M (Option Int)}{m:L2.M D}{ρ:Qak}{O:Qab}{t:List Nat}{x y:Option Int} (hm:m ρ O = .ok (.str t) O) (ha:a ρ O = .ok x O) (hb:b ρ O = .ok y O) (hz:t.length≤1000000):mSl m a b ρ O = .ok (.str (QbM t x y)) O:=by
 rw [QtM,hm,QaI,ha,QaI,hb,QaI,Qhm,Qrg,if_pos (by omega),Qep]
theorem QqH {m:L2.M D}{ρ:Qak}{O:Qab}{i:Int} (h:m ρ O = .ok (.int i) O):moS m ρ O = .ok (some i) O:=by rw [Qsu,h,QaI,Qqm]
theorem QjF {m:L2.M D}{ρ:Qak}{O:Qab}{t:List Nat} (h:m ρ O = .ok (.str t) O) (hz:t.length≤1000000):Qbd QbN (Qaa m Qaf) ρ O = .ok (.int (t.length:Int)) O:=Qp7 (xs:=[.str t]) (ma1 h) (by
 show QbN [D.str t]=_
 rw [Qsh,if_pos hz])
theorem Qh7 {a b:L2.M D}{ρ:Qak}{O:Qab}{x y:List Nat} (ha:a ρ O = .ok (.str x) O) (hb:b ρ O = .ok (.str y) O) (hl:x.length+y.length≤1000000):Qae QaF a b ρ O = .ok (.str (x++y)) O:=Qem ha hb (by rw [Qhm,Qhm,Qtp,if_pos hl])
theorem Qoh {m i:L2.M D}{ρ:Qak}{O:Qab}{t:List Nat}{n:Nat} (hm:m ρ O = .ok (.str t) O) (hi:i ρ O = .ok (.int (n:Int)) O) (hz:t.length≤900):Qae QaF (Qae QaF (mSl m moN (moS i)) (mC (.str [126]))) (mSl m (moS i) moN) ρ O = .ok (.str (t.take n++126::t.drop n)) O:=by
 have s1:=Qqp (x:=none) (y:=some (n:Int)) hm (show moN ρ O = .ok none O from rfl) (QqH hi) (by omega);have s2:=Qqp (x:=some (n:Int)) (y:=none) hm (QqH hi) (show moN ρ O = .ok none O from rfl) (by omega);rw [Qsj] at s1;rw [QsF] at s2
 have l1:(t.take n).length≤900:=by rw [List.length_take]; omega
 have l2:(t.drop n).length≤900:=by rw [List.length_drop]; omega
 rw [Qh7 (Qh7 s1 (show mC (.str [126]) ρ O = .ok (.str [126]) O from rfl) (by rw [jc]; omega)) s2 (by rw [zr,jc]; omega)];simp only [zO,List.cons_append,zU]
theorem Qmc {t:List Nat} (h:∀c∈t,okc c∨c=126) (hl:t.length≤900) (n:Nat):Spo (t.take n++126::t.drop n):=by
 refine ⟨fun c hc=>?_,zJ _ zw,?_⟩
 ·rcases zA.mp hc with z | z
  ·exact h c (List.mem_of_mem_take z)
  ·rcases zj.mp z with z | z
   ·exact .inr z
   ·exact h c (List.mem_of_mem_drop z)
 ·rw [zr,zq,List.length_take,List.length_drop];omega
theorem Qtq {v:Int}{k:Nat}:∃n:Nat,v % ((k:Int)+1)=(n:Int):=by
 obtain ⟨n,h⟩:=Int.eq_ofNat_of_zero_le (zZ v (show (k:Int)+1≠0 by omega));exact ⟨n,h⟩
theorem QpR (t:List Nat) (h:∀c∈t,okc c) (hl:t.length≤800) (v:Int) (O:Qab):∃s,Spo s∧Qc8 [.str t,.int v] O = .ok (.str s) O:=by
 have m11:=QfH v 11 (by decide) (by decide) O;have m12:=QfH v 12 (by decide) (by decide) O;have m13:=QfH v 13 (by decide) (by decide) O;have m14:=QfH v 14 (by decide) (by decide) O;have m15:=QfH v 15 (by decide) (by decide) O;obtain ⟨n0,hn0⟩:=Qtq (v:=mix v 11) (k:=t.length)
 have ec:∀(j:Int) (ρ:Qak) (r:Int),ρ[1]? = some (some (.int v))→Qa3 [.int v,.int j] O = .ok (.int r) O→Qax Qa3 (Qaa (Qac 1) (Qaa (mC (.int j)) Qaf)) ρ O = .ok (.int r) O:=fun j ρ r h1 h2=>(Qct (ds:=[.int v,.int j]) (maS (by rw [Qfh,h1]) (ma1 rfl))).trans h2
 obtain ⟨n,en⟩:∃n:Nat,QaR (Qaw (Qae gEq (Qae Qbh (Qax Qa3 (Qaa (Qac 1) (Qaa (mC (.int 12)) Qaf))) (mC (.int 5))) (mC (.int 0)))) (QaB 2 (Qae gIx (Qbx (Qaa (mC (.int 0)) (Qaa (Qbd QbN (Qaa (Qac 0) Qaf)) Qaf))) (Qae Qbh (Qax Qa3 (Qaa (Qac 1) (Qaa (mC (.int 13)) Qaf))) (mC (.int 2))))) Qau [some (.str t),some (.int v),some (.int n0),none,none] O = .nx [some (.str t),some (.int v),some (.int n),none,none] O:=by
  have tst:Qaw (Qae gEq (Qae Qbh (Qax Qa3 (Qaa (Qac 1) (Qaa (mC (.int 12)) Qaf))) (mC (.int 5))) (mC (.int 0))) [some (.str t),some (.int v),some (.int n0),none,none] O = .ok (decide (mix v 12 % 5=0)) O:=Qqk (Qgn (ec 12 _ _ rfl m12) rfl (by decide)) rfl
  by_cases hc:mix v 12 % 5=0
  ·obtain ⟨x,hx,ex⟩:=ixL (l:=[.int 0,.int (t.length:Int)]) (v:=mix v 13) (n:=2) rfl (by decide);have e2:Qae gIx (Qbx (Qaa (mC (.int 0)) (Qaa (Qbd QbN (Qaa (Qac 0) Qaf)) Qaf))) (Qae Qbh (Qax Qa3 (Qaa (Qac 1) (Qaa (mC (.int 13)) Qaf))) (mC (.int 2))) [some (.str t),some (.int v),some (.int n0),none,none] O = .ok x O:=Qem (x:=.lst [.int 0,.int (t.length:Int)]) (y:=.int (mix v 13 % 2)) (Qvf (maS rfl (ma1 (QjF rfl (by omega)))) (show (2:Nat)≤1000000 by decide)) (Qgn (ec 13 _ _ rfl m13) rfl (by decide)) ex;simp at hx
   rcases hx with rfl | rfl
   ·exact ⟨0,(Qlc (by rw [tst,zG hc])).trans (QcY e2)⟩
   ·exact ⟨t.length,(Qlc (by rw [tst,zG hc])).trans (QcY e2)⟩
  ·exact ⟨n0,(if_no (by rw [tst,zp hc])).trans rfl⟩
 have sp1:=Qmc (t:=t) (fun c hc=>.inl (h c hc)) (by omega) n
 have l1:(t.take n++126::t.drop n).length≤801:=by
  rw [zr,zq,List.length_take,List.length_drop];omega
 have e3:QaB 3 (Qae QaF (Qae QaF (mSl (Qac 0) moN (moS (Qac 2))) (mC (.str [126]))) (mSl (Qac 0) (moS (Qac 2)) moN)) [some (.str t),some (.int v),some (.int n),none,none] O = .nx [some (.str t),some (.int v),some (.int n),some (.str (t.take n++126::t.drop n)),none] O:=QcY (Qoh rfl rfl (by omega))
 generalize t.take n++126::t.drop n=s1 at sp1 l1 e3
 obtain ⟨k,hk⟩:=Qtq (v:=mix v 14) (k:=s1.length);have sp2:=Qmc (t:=s1) sp1.ok (by omega) k;have tst:Qaw (Qae gEq (Qae Qbh (Qax Qa3 (Qaa (Qac 1) (Qaa (mC (.int 15)) Qaf))) (mC (.int 2))) (mC (.int 0))) [some (.str t),some (.int v),some (.int n),some (.str s1),some (.int k)] O = .ok (decide (mix v 15 % 2=0)) O:=Qqk (Qgn (ec 15 _ _ rfl m15) rfl (by decide)) rfl
 have st:∀s f,QaR (Qaw (Qae gEq (Qae Qbh (Qax Qa3 (Qaa (Qac 1) (Qaa (mC (.int 15)) Qaf))) (mC (.int 2))) (mC (.int 0)))) (QaB 3 (Qae QaF (Qae QaF (mSl (Qac 3) moN (moS (Qac 4))) (mC (.str [126]))) (mSl (Qac 3) (moS (Qac 4)) moN))) Qau [some (.str t),some (.int v),some (.int n),some (.str s1),some (.int k)] O = .nx f O→f[3]? = some (some (.str s))→Qc8 [.str t,.int v] O = .ok (.str s) O:=fun s f e5 e6=>by
  show Qb1 (Qee [some (.str t),some (.int v),none,none,none] O)=_;unfold Qee
  rw [Qa9 (show QaB 2 _ [some (.str t),some (.int v),none,none,none] O = .nx [some (.str t),some (.int v),some (.int n0),none,none] O from QcY (by
    rw [Qgn (i:=mix v 11) (j:=(t.length:Int)+1) (ec 11 _ _ rfl m11) (Qqu (QjF rfl (by omega)) rfl) (by omega),hn0])),Qa9 en,Qa9 e3,
   Qa9 (show QaB 4 _ [some (.str t),some (.int v),some (.int n),some (.str s1),none] O = .nx [some (.str t),some (.int v),some (.int n),some (.str s1),some (.int k)] O from QcY (by
    rw [Qgn (i:=mix v 14) (j:=(s1.length:Int)+1) (ec 14 _ _ rfl m14) (Qqu (QjF rfl (by omega)) rfl) (by omega),hk])),Qa9 e5]
  rw [Qjg,Qfh,e6];rfl
 by_cases hc:mix v 15 % 2=0
 ·exact ⟨_,sp2,st _ _ ((Qlc (by rw [tst,zG hc])).trans (QcY (Qoh rfl rfl (by omega)))) rfl⟩
 ·exact ⟨_,sp1,st _ _ ((if_no (by rw [tst,zp hc])).trans rfl) rfl⟩
theorem Qnj (t:List Nat) (ht:Okt t) (O:Qab):Qea [.lst (items 0 t),.lst (items 0 t)] O = .ok (.bl true) O :=
 QtJ _ (Qi5 t.length t 0 (zc _) ht.lt) O
theorem Qg2 {g:MG}{b:MS}{d:D}{ds:List D}{ρ ρ1 ρ2:Qak}{O O2:Qab} (hg:g d ρ=some ρ1) (hb:b ρ1 O = .nx ρ2 O2):Qa8 g b (d::ds) ρ O=Qa8 g b ds ρ2 O2:=by
 rw [Qa8,hg];dsimp only;rw [hb]
theorem QrA (ns:List Int) (ρ:Qak) (hρ:ρ[0]? = some (some (.lst (ns.map D.int)))) (O:Qab) :
  Qkw (Qih (QcH (mSl (Qac 0) (moS (mC (.int 1))) (moS (mC (.int 41))))) 1 [] (mgN 0) Qjx (Qax Qbf (Qaa (Qac 0) Qaf))) ρ O = .ok (.str (toks ((ns.drop 1).take 40))) O:=by
 have ecut:QbM (ns.map D.int) (some ((1:Nat):Int)) (some ((41:Nat):Int))=((ns.drop 1).take 40).map D.int:=by rw [Qnz,←List.map_drop,←List.map_take]
 have ecut':QbM (ns.map D.int) (some 1) (some 41)=((ns.drop 1).take 40).map D.int:=ecut
 have ec:Qdr (mgN 0) Qjx (Qax Qbf (Qaa (Qac 0) Qaf)) (((ns.drop 1).take 40).map D.int) [none] O [] = .ok (((ns.drop 1).take 40).map fun n=>.str (tok n)) O:=by
  rw [Qhu (fun ρ=>∃a,ρ = [a]) (fun d=>match d with | .int n=>.str (tok n) | _=>.non) _ _ _ _ ⟨none,rfl⟩ (by
   rintro d hd ρ ⟨a,rfl⟩;obtain ⟨n,hn,rfl⟩:=zT.mp hd;refine ⟨_,rfl,⟨_,rfl⟩,rfl,?_⟩
   exact (Qct (ds:=[.int n]) rfl).trans (QkY n O))]
  rw [List.map_map,zU];congr 1
 have e2:=QjZ (f:=tok) ((ns.drop 1).take 40)
 have hl:((ns.drop 1).take 40).length≤40:=by rw [List.length_take]; omega
 have z1:(((ns.drop 1).take 40).map D.int).length≤1000000:=by rw [zI]; omega
 have z2:=(QiH ((ns.drop 1).take 40)).2
 have z3:((((ns.drop 1).take 40).map tok).map List.length).sum≤1000000:=by omega
 have ei:QcH (mSl (Qac 0) (moS (mC (.int 1))) (moS (mC (.int 41)))) ρ O = .ok (((ns.drop 1).take 40).map D.int) O:=by
  simp only [QoC,QtM,Qsu,m_c,Qfh,hρ,QaI,QdR,Qqm,QqZ,ecut',Qep,Qn0,QpV]
 rw [QtD,QsJ,ei,QaI,if_pos z1,show Qhs 1 [] ρ = [none] from rfl,ec,QaI,QaI,QdR,Qug,e2,Qp4,if_pos z3];rfl
theorem QkP (ns:List Int) (k:Nat) (O:Qab):QbE [.lst (ns.map D.int),.int k] O = .ok (.int (ns.getD k 0)) O:=by
 simp [QbE,QgE,Qux]
 by_cases h:k < ns.length
 ·simp [h]
 ·simp [h]
theorem Qte {d:D} (h:∀O,Qda "str" (Qac 0) [some d,none,none] O = .ok (.bl false) O):Bad d ⟨"NoSign",[("at",.int 0)]⟩:=fun O=>QkB (h O)
theorem Qob (v:Int) (s:List Nat):∃d,gIx (.lst [.non,.int 5,.bl true,.lst [.str [97]],.tup [.str [97]],.dic [] [],.lst [.str s]]) (.int (v % 7))=some d∧Bad d ⟨"NoSign",[("at",.int 0)]⟩:=by
 obtain ⟨d,hd,e⟩:=ixL (l:=[.non,.int 5,.bl true,.lst [.str [97]],.tup [.str [97]],.dic [] [],.lst [.str s]]) (v:=v) (n:=7) rfl (by decide);refine ⟨d,e,?_⟩;simp at hd
 rcases hd with rfl | rfl | rfl | rfl | rfl | rfl | rfl
 all_goals exact Qte fun _=>rfl
theorem Qmj {m:L2.M D}{ρ:Qak}{O O':Qab} (h:m ρ O = .ok (.bl true) O'):QbF (QbI m) ρ O = .ok false O':=by
 rw [Qhp,Qks,h];rfl
theorem Qnc {a b:L2.M Bool}{ρ:Qak}{O O1 O2:Qab} (ha:a ρ O = .ok false O1) (hb:b ρ O1 = .ok false O2):Qck a b ρ O = .ok false O2:=by
 rw [Quv,ha,QaI,if_neg zg,hb]
theorem ifN {t:L2.M Bool}{a:MS}{ρ:Qak}{O O':Qab} (h:t ρ O = .ok false O'):QaR t a Qau ρ O = .nx ρ O':=by
 rw [Qjh,h,Qi9];rfl
theorem QhW {c:List D→Qab→Res D}{ma:L2.M (List D)}{ρ:Qak}{O O1:Qab}{ds:List D} (h:ma ρ O = .ok ds O1):Qax c ma ρ O=c ds O1:=by
 rw [QiX,h,QaI]
theorem QhB {m:Str}{cf:List D→Qab→Res D}{mo:L2.M D}{ma:L2.M (List D)}{ρ:Qak}{O:Qab}{n:Nat}{h:List Nat}{p:Int}{ds:List D} (h1:mo ρ O = .ok (.ob n) O) (e:O[n]? = some (RO h p)) (h2:ma ρ O = .ok ds O) (hm:m≠"held") (hm':m≠"place"):Qb0 "Reader" m cf mo ma ρ O=cf (.ob n::ds) O:=by
 rw [QnF,h1,QaI,QtG hm hm' e,h2,QaI]
def bW:MS:=(QaR (Qck (QbF (QbI (Qax Qcl (Qaa (Qac 9) (Qaa (Qac 4) (Qaa (Qac 7) (Qaa (Qgt (Qac 7) (mC (.str [126]))) Qaf))))))) (QbF (QbI (Qax Qcl (Qaa (Qac 9) (Qaa (Qac 4) (Qaa (Qac 8) (Qaa (mC (.int 0)) Qaf)))))))) (Qat (mC (.bl false))) Qau)
theorem QiN {o0 o1 o2 o3 o5 o6:Option D}{n q:Nat}{s:List Nat}{d:D}{h:List Nat}{p:Int} (b1:Bad (.str s) ⟨"NoSign",[("at",.int (q:Int))]⟩) (ix:∀(m:L2.M D) (ρ:Qak) (O:Qab),m ρ O = .ok (.str s) O→Qgt m (mC (.str [126])) ρ O = .ok (.int (q:Int)) O) (b2:Bad d ⟨"NoSign",[("at",.int 0)]⟩)
  {O:Qab} (hn:O[n]? = some (RO h p)) (w:Int) (hw:w=0∨w=1∨w=2):∃E,bW [o0,o1,o2,o3,some (.ob n),o5,o6,some (.str s),some d,some (.int w)] O = .nx [o0,o1,o2,o3,some (.ob n),o5,o6,some (.str s),some d,some (.int w)] (O++E):=by
 obtain ⟨E1,e1⟩:=QjW b1 hn w hw;obtain ⟨E2,e2⟩:=QjW b2 (Qeq (E:=E1) hn) w hw;refine ⟨E1++E2,?_⟩;rw [←zO];unfold bW;refine ifN (Qnc (Qmj ((QhW (ds:=[.int w,.ob n,.str s,.int (q:Int)]) (Qdz rfl (Qdz rfl (Qdz rfl (Qjy (ix (Qac 7) _ O rfl)))))).trans e1)) (Qmj ((QhW (ds:=[.int w,.ob n,d,.int 0]) rfl).trans e2)))
theorem QpX (ns:List Int) (hn:ns.length≤63):∃O',Qqc [.lst (ns.map D.int)] [] = .ok (.bl true) O':=by
 have et:=QrA ns [some (.lst (ns.map D.int)),none,none,none,none,none,none,none,none,none] rfl [];have tl:=(QiH ((ns.drop 1).take 40)).1
 have tl':((ns.drop 1).take 40).length≤40:=by rw [List.length_take]; omega
 have tok':=Qrm ((ns.drop 1).take 40)
 generalize toks ((ns.drop 1).take 40)=t at et tl tok'
 have ht:Okt t:=⟨by omega,tok'⟩;have ec0:∀O,QbE [.lst (ns.map D.int),.int 0] O = .ok (.int (ns.getD 0 0)) O:=QkP ns 0;have ec1:∀O,QbE [.lst (ns.map D.int),.int 41] O = .ok (.int (ns.getD 41 0)) O:=QkP ns 41;have ec2:∀O,QbE [.lst (ns.map D.int),.int 42] O = .ok (.int (ns.getD 42 0)) O:=QkP ns 42
 generalize ns.getD 0 0=cl at ec0
 have ta:=QiU (ns.getD 41 0);have tb:=QiU (ns.getD 42 0);have ea:=QkY (ns.getD 41 0) [];have eb:=QkY (ns.getD 42 0) []
 generalize tok (ns.getD 41 0)=ta1 at ta ea
 generalize tok (ns.getD 42 0)=tb1 at tb eb
 have la:=ta.len;have lb:=tb.len;have hah:Okt (ta1++tb1):=⟨by rw [zr]; omega,fun c hc=>(zA.mp hc).elim (ta.ok c) (tb.ok c)⟩
 have lah:(ta1++tb1).length≤18:=by rw [zr]; omega
 have e3:Qae QaF (Qax Qbf (Qaa (Qax QbE (Qaa (Qac 0) (Qaa (mC (.int 41)) Qaf))) Qaf)) (Qax Qbf (Qaa (Qax QbE (Qaa (Qac 0) (Qaa (mC (.int 42)) Qaf))) Qaf)) [some (.lst (ns.map D.int)),some (.str t),some (.int cl),none,none,none,none,none,none,none] [] = .ok (.str (ta1++tb1)) []:=Qh7 ((Qct (ma1 ((Qct (ds:=[.lst (ns.map D.int),.int 41]) rfl).trans (ec1 [])))).trans ea) ((Qct (ma1 ((Qct (ds:=[.lst (ns.map D.int),.int 42]) rfl).trans (ec2 [])))).trans eb) (by omega)
 generalize ta1++tb1=ah at hah e3 lah
 have hn0:([RO [] 0]:Qab)[0]? = some (RO [] 0):=rfl;have f1:=Qou hn0 Held.h0 ah hah;have H1:Held (QaY [] 0 ah).2:=(QlR ah).1;have R2:=Qlk ah [] 0 t;have ra:=QlR (ah++t);rw [R2] at ra
 generalize hT1:QaY [] 0 ah=T1 at f1 H1 R2 ra
 have l1:T1.1.length≤72:=by
  have:=QiD ah Held.h0 0
  rw [hT1] at this;omega
 obtain ⟨told1,held⟩:=T1;dsimp only at f1 H1 R2 ra l1;have z0:(0:Int)+(ah.length:Int)=(ah.length:Int):=Int.zero_add _;rw [z0] at f1 ra;have hn1:(([RO [] 0]:Qab).set 0 (RO held (ah.length:Int)))[0]? = some (RO held (ah.length:Int)):=rfl
 generalize hO2:([RO [] 0]:Qab).set 0 (RO held (ah.length:Int))=O2 at f1 hn1
 have eh:=Qor hn1;obtain ⟨s,sps,es⟩:=QpR t ht.ok (by omega) cl O2;obtain ⟨q,b1,ix⟩:=Qrw sps;have m16:=QfH cl 16 (by decide) (by decide) O2;obtain ⟨d,ed,b2⟩:=Qob (mix cl 16) s;have m17:=QfH cl 17 (by decide) (by decide) O2;obtain ⟨E3,eby⟩:=Qoi (mix cl 17) O2;have hn3:=Qeq (E:=E3) hn1
 generalize hO3:O2++E3=O3 at eby hn3
 obtain ⟨E4,w0⟩:=QiN (o0:=some (.lst (ns.map D.int))) (o1:=some (.str t)) (o2:=some (.int cl)) (o3:=some (.str ah)) (o5:=some (.lst told1)) (o6:=some (.str held)) b1 ix b2 hn3 0 (.inl rfl);have hn4:=Qeq (E:=E4) hn3
 generalize O3++E4=O4 at w0 hn4
 obtain ⟨E5,w1⟩:=QiN (o0:=some (.lst (ns.map D.int))) (o1:=some (.str t)) (o2:=some (.int cl)) (o3:=some (.str ah)) (o5:=some (.lst told1)) (o6:=some (.str held)) b1 ix b2 hn4 1 (.inr (.inl rfl));have hn5:=Qeq (E:=E5) hn4
 generalize O4++E5=O5 at w1 hn5
 obtain ⟨E6,w2⟩:=QiN (o0:=some (.lst (ns.map D.int))) (o1:=some (.str t)) (o2:=some (.int cl)) (o3:=some (.str ah)) (o5:=some (.lst told1)) (o6:=some (.str held)) b1 ix b2 hn5 2 (.inr (.inr rfl));have hn6:=Qeq (E:=E6) hn5
 generalize O5++E6=O6 at w2 hn6
 obtain ⟨E7,w3⟩:=QiN (o0:=some (.lst (ns.map D.int))) (o1:=some (.str t)) (o2:=some (.int cl)) (o3:=some (.str ah)) (o5:=some (.lst told1)) (o6:=some (.str held)) b1 ix b2 hn6 2 (.inr (.inr rfl));have hn7:=Qeq (E:=E7) hn6
 generalize O6++E7=O7 at w3 hn7
 have eh7:=Qor hn7;have f7:=Qou hn7 H1 t ht;have hn8:(O7.set 0 (RO (QaY held (ah.length:Int) t).2 ((ah.length:Int)+(t.length:Int))))[0]? = some (RO (QaY held (ah.length:Int) t).2 ((ah.length:Int)+(t.length:Int))):=gs hn7
 generalize hO8:O7.set 0 (RO (QaY held (ah.length:Int) t).2 ((ah.length:Int)+(t.length:Int)))=O8 at f7 hn8
 have f8:=QpK hn8 ra.1;have l2:(QaY held (ah.length:Int) t).1.length≤4 * t.length:=QiD t H1 _;have l3:=ra.1.len;have eit:=ra.2
 have cst:(((ah++t).length:Int)) - ((QaY held (ah.length:Int) t).2.length:Int)=(ah.length:Int)+(t.length:Int) - ((QaY held (ah.length:Int) t).2.length:Int):=by
  rw [zr]
  push_cast
  rfl
 rw [cst] at eit;have l4:=QiA (QaY held (ah.length:Int) t).2 ((ah.length:Int)+(t.length:Int) - ((QaY held (ah.length:Int) t).2.length:Int))
 generalize hW:QcD ((ah.length:Int)+(t.length:Int) - ((QaY held (ah.length:Int) t).2.length:Int)) (QaY held (ah.length:Int) t).2=W at eit f8 l4
 generalize hT2:QaY held (ah.length:Int) t=T2 at f7 f8 hn8 eit l2 l3 l4 hO8
 have okall:Okt (ah++t):=⟨by rw [zr]; omega,fun c hc=>(zA.mp hc).elim (hah.ok c) (ht.ok c)⟩;have esame:=Qnj (ah++t) okall (O8.set 0 (RO [] ((ah.length:Int)+(t.length:Int))));have eli:=QlA (ah++t) okall.len (O8.set 0 (RO [] ((ah.length:Int)+(t.length:Int))));refine ⟨O8.set 0 (RO [] ((ah.length:Int)+(t.length:Int))),?_⟩;show Qb1 (Qkv [some (.lst (ns.map D.int)),none,none,none,none,none,none,none,none,none] [])=_;unfold Qkv
 rw [Qa9 (show QaB 1 _ [some (.lst (ns.map D.int)),none,none,none,none,none,none,none,none,none] [] = .nx [some (.lst (ns.map D.int)),some (.str t),none,none,none,none,none,none,none,none] [] from QcY et),
  Qa9 (show QaB 2 (Qax QbE (Qaa (Qac 0) (Qaa (mC (.int 0)) Qaf))) [some (.lst (ns.map D.int)),some (.str t),none,none,none,none,none,none,none,none] [] = .nx [some (.lst (ns.map D.int)),some (.str t),some (.int cl),none,none,none,none,none,none,none] [] from QcY ((Qct (ds:=[.lst (ns.map D.int),.int 0]) rfl).trans (ec0 []))),
  Qa9 (show QaB 3 _ [some (.lst (ns.map D.int)),some (.str t),some (.int cl),none,none,none,none,none,none,none] [] = .nx [some (.lst (ns.map D.int)),some (.str t),some (.int cl),some (.str ah),none,none,none,none,none,none] [] from QcY e3),
  Qa9 (show QaB 4 (Qfc "Reader" Qbl Qaf) [some (.lst (ns.map D.int)),some (.str t),some (.int cl),some (.str ah),none,none,none,none,none,none] [] = .nx [some (.lst (ns.map D.int)),some (.str t),some (.int cl),some (.str ah),some (.ob 0),none,none,none,none,none] [RO [] 0] from Qh9 (QqF _ [])),
  Qa9 (show QaB 5 (Qb0 "Reader" "feed" Qbj (Qac 4) (Qaa (Qac 3) Qaf)) [some (.lst (ns.map D.int)),some (.str t),some (.int cl),some (.str ah),some (.ob 0),none,none,none,none,none] [RO [] 0] = .nx [some (.lst (ns.map D.int)),some (.str t),some (.int cl),some (.str ah),some (.ob 0),some (.lst told1),none,none,none,none] O2 from Qh9 ((QhB rfl hn0 (ds:=[.str ah]) rfl (by decide) (by decide)).trans f1)),
  Qa9 (show QaB 6 (Qb0 "Reader" "held_text" Qbv (Qac 4) Qaf) [some (.lst (ns.map D.int)),some (.str t),some (.int cl),some (.str ah),some (.ob 0),some (.lst told1),none,none,none,none] O2 = .nx [some (.lst (ns.map D.int)),some (.str t),some (.int cl),some (.str ah),some (.ob 0),some (.lst told1),some (.str held),none,none,none] O2 from QcY ((QhB rfl hn1 (ds:=[]) rfl (by decide) (by decide)).trans eh)),
  Qa9 (show QaB 7 (Qax Qc8 (Qaa (Qac 1) (Qaa (Qac 2) Qaf))) [some (.lst (ns.map D.int)),some (.str t),some (.int cl),some (.str ah),some (.ob 0),some (.lst told1),some (.str held),none,none,none] O2 = .nx [some (.lst (ns.map D.int)),some (.str t),some (.int cl),some (.str ah),some (.ob 0),some (.lst told1),some (.str held),some (.str s),none,none] O2 from QcY ((Qct (ds:=[.str t,.int cl]) rfl).trans es)),
  Qa9 (show QaB 8 _ [some (.lst (ns.map D.int)),some (.str t),some (.int cl),some (.str ah),some (.ob 0),some (.lst told1),some (.str held),some (.str s),none,none] O2 = .nx [some (.lst (ns.map D.int)),some (.str t),some (.int cl),some (.str ah),some (.ob 0),some (.lst told1),some (.str held),some (.str s),some d,none] O2 from QcY (Qem (x:=.lst [.non,.int 5,.bl true,.lst [.str [97]],.tup [.str [97]],.dic [] [],.lst [.str s]]) (y:=.int (mix cl 16 % 7)) rfl (Qgn ((Qct (ds:=[.int cl,.int 16]) rfl).trans m16) rfl (by decide)) ed))]
 have c1:Qaw (QeD (Qax Qbm (Qaa (Qac 1) Qaf))) [some (.lst (ns.map D.int)),some (.str t),some (.int cl),some (.str ah),some (.ob 0),some (.lst told1),some (.str held),some (.str s),some d,none] O2 = .ok false O2:=by
  have q:=(Qct (c:=Qbm) (ds:=[.str t]) (ma:=Qaa (Qac 1) Qaf) (ρ:=[some (.lst (ns.map D.int)),some (.str t),some (.int cl),some (.str ah),some (.ob 0),some (.lst told1),some (.str held),some (.str s),some d,none]) (O:=O2) rfl).trans (Qhl t ht O2);rw [Qlm];unfold QeD;rw [q];rfl
 have c2:Qaw (QeD (Qax Qbm (Qaa (mC (.str [])) Qaf))) [some (.lst (ns.map D.int)),some (.str t),some (.int cl),some (.str ah),some (.ob 0),some (.lst told1),some (.str held),some (.str s),some d,none] O2 = .ok false O2:=by
  have q:=(Qct (c:=Qbm) (ds:=[.str []]) (ma:=Qaa (mC (.str [])) Qaf) (ρ:=[some (.lst (ns.map D.int)),some (.str t),some (.int cl),some (.str ah),some (.ob 0),some (.lst told1),some (.str held),some (.str s),some d,none]) (O:=O2) rfl).trans (Qhl [] ⟨by simp,by simp⟩ O2);rw [Qlm];unfold QeD;rw [q];rfl
 rw [Qa9 (ifN (Qnc c1 (Qnc c2 (Qmj ((QhW (ds:=[.int (mix cl 17)]) (ma1 ((Qct (ds:=[.int cl,.int 17]) rfl).trans m17))).trans eby)))))];show Qb1 (Qaj (Qc6 (QcH (Qbx (Qaa (mC (.int 0)) (Qaa (mC (.int 1)) (Qaa (mC (.int 2)) (Qaa (mC (.int 2)) Qaf)))))) (mgN 9) bW) _ [some (.lst (ns.map D.int)),some (.str t),some (.int cl),some (.str ah),some (.ob 0),some (.lst told1),some (.str held),some (.str s),some d,none] O3)=_
 rw [Qa9 (show Qc6 (QcH (Qbx (Qaa (mC (.int 0)) (Qaa (mC (.int 1)) (Qaa (mC (.int 2)) (Qaa (mC (.int 2)) Qaf)))))) (mgN 9) bW [some (.lst (ns.map D.int)),some (.str t),some (.int cl),some (.str ah),some (.ob 0),some (.lst told1),some (.str held),some (.str s),some d,none] O3 = .nx [some (.lst (ns.map D.int)),some (.str t),some (.int cl),some (.str ah),some (.ob 0),some (.lst told1),some (.str held),some (.str s),some d,some (.int 2)] O7 from by
  refine (Qqw (show QcH (Qbx (Qaa (mC (.int 0)) (Qaa (mC (.int 1)) (Qaa (mC (.int 2)) (Qaa (mC (.int 2)) Qaf))))) _ O3 = .ok [.int 0,.int 1,.int 2,.int 2] O3 from rfl)).trans ?_;refine (Qg2 (ρ1:=[some (.lst (ns.map D.int)),some (.str t),some (.int cl),some (.str ah),some (.ob 0),some (.lst told1),some (.str held),some (.str s),some d,some (.int 0)]) rfl w0).trans ?_;refine (Qg2 (ρ1:=[some (.lst (ns.map D.int)),some (.str t),some (.int cl),some (.str ah),some (.ob 0),some (.lst told1),some (.str held),some (.str s),some d,some (.int 1)]) rfl w1).trans ?_;refine (Qg2 (ρ1:=[some (.lst (ns.map D.int)),some (.str t),some (.int cl),some (.str ah),some (.ob 0),some (.lst told1),some (.str held),some (.str s),some d,some (.int 2)]) rfl w2).trans ?_
  refine (Qg2 (ρ1:=[some (.lst (ns.map D.int)),some (.str t),some (.int cl),some (.str ah),some (.ob 0),some (.lst told1),some (.str held),some (.str s),some d,some (.int 2)]) rfl w3).trans ?_
  rfl)]
 rw [Qa9 (ifN (show Qaw (Qae gNe (Qb0 "Reader" "held_text" Qbv (Qac 4) Qaf) (Qac 6)) [some (.lst (ns.map D.int)),some (.str t),some (.int cl),some (.str ah),some (.ob 0),some (.lst told1),some (.str held),some (.str s),some d,some (.int 2)] O7 = .ok false O7 from Ql4 (Qem (x:=.str held) (y:=.str held) ((QhB rfl hn7 (ds:=[]) rfl (by decide) (by decide)).trans eh7) rfl (by
  show some (D.bl (!decide (held=held)))=_;rw [zG rfl]
  rfl))))]
 have e5:Qae QaF (Qae QaF (Qac 5) (Qb0 "Reader" "feed" Qbj (Qac 4) (Qaa (Qac 1) Qaf))) (Qb0 "Reader" "finish" Qb5 (Qac 4) Qaf) [some (.lst (ns.map D.int)),some (.str t),some (.int cl),some (.str ah),some (.ob 0),some (.lst told1),some (.str held),some (.str s),some d,some (.int 2)] O7 = .ok (.lst (items 0 (ah++t))) (O8.set 0 (RO [] ((ah.length:Int)+(t.length:Int)))):=by
  have g1:Qae QaF (Qac 5) (Qb0 "Reader" "feed" Qbj (Qac 4) (Qaa (Qac 1) Qaf)) [some (.lst (ns.map D.int)),some (.str t),some (.int cl),some (.str ah),some (.ob 0),some (.lst told1),some (.str held),some (.str s),some d,some (.int 2)] O7 = .ok (.lst (told1++T2.1)) O8:=by
   rw [Qky,show Qac 5 [some (.lst (ns.map D.int)),some (.str t),some (.int cl),some (.str ah),some (.ob 0),some (.lst told1),some (.str held),some (.str s),some d,some (.int 2)] O7 = .ok (.lst told1) O7 from rfl,QaI,(QhB (ds:=[.str t]) rfl hn7 rfl (by decide) (by decide)).trans f7,QaI,QdR,QdR,QoL,if_pos (by omega),Qep]
  rw [Qky,g1,QaI,(QhB (ds:=[]) rfl hn8 rfl (by decide) (by decide)).trans f8,QaI,QdR,QdR,QoL,if_pos (by rw [zr]; omega),Qep,eit]
 rw [Qa9 (show QaB 5 _ [some (.lst (ns.map D.int)),some (.str t),some (.int cl),some (.str ah),some (.ob 0),some (.lst told1),some (.str held),some (.str s),some d,some (.int 2)] O7 = .nx [some (.lst (ns.map D.int)),some (.str t),some (.int cl),some (.str ah),some (.ob 0),some (.lst (items 0 (ah++t))),some (.str held),some (.str s),some d,some (.int 2)] (O8.set 0 (RO [] ((ah.length:Int)+(t.length:Int)))) from Qh9 e5)];rw [Qjg,QhW (ds:=[.lst (items 0 (ah++t)),.lst (items 0 (ah++t))]) (Qdz rfl (Qjy ((QhW (ds:=[.str (ah++t)]) (ma1 (Qh7 (x:=ah) (y:=t) rfl rfl (by omega)))).trans eli))),esame];rfl
theorem all_mk {l:PySem.W.OpenLaw}{w:World}{K:PySem.W.Frag}{h:Heap}{mg:Str→Option Value}{fa:Addr} (X:K.In h) (G:h.Ns mainGlobals mg) (hfa:mg "law" = some (.ref fa))
  {Qdk:Addr}
  {Qmk:Addr}{Qr8 Qn4:Option Addr}{Qso:Array (Option Value)}{Qtn Qn5 Qn8 QnY Qk9 QnL:Value}
  {QaZ:Addr}
  {QbW:Addr}
  {QbY:Addr}
  {QbX:Addr}
  {Qcf:Addr}
  {Qbi:Addr}
  {Qbo:Addr}
  {Qbr:Addr}
  {QbC:Addr}
  {Qbq:Addr}
  {Qcw:Addr}
  {QnH:ClassData}
  {Qny:ClassData}
  {Qoe:ClassData}
  {Qom:ClassData}
  {Qpw:ClassData}
  {QoM:ClassData}
  {Qof:ClassData}
  {Qn9:ClassData}
  {Qo7:ClassData}
  {Qn3:ClassData}
  {fI_NoSign:Addr}{odI_NoSign anI_NoSign:Option Addr}{slI_NoSign:Array (Option Value)}{ocI_NoSign kVI_NoSign dcI_NoSign pmI_NoSign cdI_NoSign ctI_NoSign:Value}
  {fI_NoHand:Addr}{odI_NoHand anI_NoHand:Option Addr}{slI_NoHand:Array (Option Value)}{ocI_NoHand kVI_NoHand dcI_NoHand pmI_NoHand cdI_NoHand ctI_NoHand:Value}
  {fI_NoRoom:Addr}{odI_NoRoom anI_NoRoom:Option Addr}{slI_NoRoom:Array (Option Value)}{ocI_NoRoom kVI_NoRoom dcI_NoRoom pmI_NoRoom cdI_NoRoom ctI_NoRoom:Value}
  {fI_NoRoll:Addr}{odI_NoRoll anI_NoRoll:Option Addr}{slI_NoRoll:Array (Option Value)}{ocI_NoRoll kVI_NoRoll dcI_NoRoll pmI_NoRoll cdI_NoRoll ctI_NoRoll:Value}
  {fI_Twice:Addr}{odI_Twice anI_Twice:Option Addr}{slI_Twice:Array (Option Value)}{ocI_Twice kVI_Twice dcI_Twice pmI_Twice cdI_Twice ctI_Twice:Value}
  {fI_Closed:Addr}{odI_Closed anI_Closed:Option Addr}{slI_Closed:Array (Option Value)}{ocI_Closed kVI_Closed dcI_Closed pmI_Closed cdI_Closed ctI_Closed:Value}
  (Z_Reader:ClsAt K "Reader" Qdk)
  (Qki:PySem.W.findIn K (.ref Qdk) "held" = some none)
  (QjJ:PySem.W.findIn K (.ref Qdk) "place" = some none)
  (QhD:Def K mg "is_sign" QhF)
  (Qf9:Def K mg "is_colour" Qf7)
  (Qhd:Def K mg "checked" QhV)
  (Qhv:Def K mg "mark_of" QhS)
  (QdB:Def K mg "may_become_mark" Qdx)
  (QgC:Def K mg "own_item" Qg4)
  (Qf1:Def K mg "own_items" QeB)
  (M_Reader___init__:MethAt K Qdk "__init__" "Reader.__init__" Qdv)
  (M_Reader_take:MethAt K Qdk "take" "Reader.take" Qe0)
  (M_Reader_feed:MethAt K Qdk "feed" "Reader.feed" Qe5)
  (M_Reader_held_text:MethAt K Qdk "held_text" "Reader.held_text" Qc7)
  (M_Reader_finish:MethAt K Qdk "finish" "Reader.finish" Qd5)
  (Qgw:Def K mg "items_of" Qg0)
  (Qg5:Def K mg "_law_cell" QgR)
  (QhJ:Def K mg "_law_mix" QhO)
  (QfY:Def K mg "_law_signs" Qgj)
  (Qgh:Def K mg "_law_token" Qgb)
  (QgF:Def K mg "_law_item" QgB)
  (Qga:Def K mg "_law_items" Qgg)
  (QfZ:Def K mg "_law_whole" Qf0)
  (QgL:Def K mg "_law_same" QgD)
  (Qhr:Def K mg "_law_did" Qht)
  (QeV:Def K mg "_law_refused" QeY)
  (Qe8:Def K mg "_law_by_hand" QeW)
  (QfE:Def K mg "_law_spoilt" Qfp)
  (Qm0:PySem.W.nsIn K mainGlobals "law" = some (some (.ref Qmk))) (Qqs:K.lookup Qmk=some ⟨Qtn,Qr8,.func (PySem.W.fnOf "law" "law" (Qba Qd7) (QaP Qd7) (Qah Qd7) .none Qn5 Qn8 QnY Qn4 Qk9 QnL),Qso⟩) (Qsx:PySem.W.codeIn K Qk9 "law" = true) (Qui:PySem.W.keepIn K (.ref Qmk)=true)
  (B:Blt mg)
  (Qc2:∃u,mg "ANEW_SIGN" = some u∧RelV (.str (S [9])) u)
  (Qhf:∃u,mg "COLOURS" = some u∧RelV (.str (S [97,98,99,100,101,102,103,104,46])) u)
  (Qfw:∃u,mg "FIRST_SIGN" = some u∧RelV (.str (S [32])) u)
  (Qgc:∃u,mg "LAST_SIGN" = some u∧RelV (.str (S [125])) u)
  (QdW:∃u,mg "ROW_END" = some u∧RelV (.str (S [10])) u)
  (Qcv:PySem.W.nsIn K mainGlobals "NoSign" = some (some (.ref QaZ)))
  (QfQ:PySem.W.nsIn K mainGlobals "NoName" = some (some (.ref QbW)))
  (QfG:PySem.W.nsIn K mainGlobals "NoSize" = some (some (.ref QbY)))
  (QfS:PySem.W.nsIn K mainGlobals "NoCell" = some (some (.ref QbX)))
  (QgH:PySem.W.nsIn K mainGlobals "NoRow" = some (some (.ref Qcf)))
  (QeM:PySem.W.nsIn K mainGlobals "NoHand" = some (some (.ref Qbi)))
  (QfJ:PySem.W.nsIn K mainGlobals "NoRoom" = some (some (.ref Qbo)))
  (QfT:PySem.W.nsIn K mainGlobals "NoRoll" = some (some (.ref Qbr)))
  (QgT:PySem.W.nsIn K mainGlobals "Twice" = some (some (.ref QbC)))
  (QfK:PySem.W.nsIn K mainGlobals "Closed" = some (some (.ref Qbq)))
  (QcA:PySem.W.nsIn K mainGlobals "OutError" = some (some (.ref Qcw)))
  (xsp:PySem.W.specialIn K (.builtin "object.__class__") "__get__" = some (some (.builtin "getset_descriptor.__get__")))
  (xtk:PySem.W.takesIn K (.builtin "object.__class__")=some true)
  (xga_NoSign:PySem.W.findIn K (.ref QaZ) "__getattribute__" = some (some (.builtin "BaseException.__getattribute__")))
  (xna_NoSign:PySem.W.findIn K (.ref QaZ) "__getattr__" = some none)
  (xca_NoSign:PySem.W.findIn K (.ref QaZ) "__class__" = some (some (.builtin "object.__class__")))
  (xob_NoSign:PySem.W.mroIn K QaZ (.type "object")=some true)
  (xbe_NoSign:PySem.W.mroIn K QaZ (.type "BaseException")=some true)
  (xcl_NoSign:PySem.W.clsIn K QaZ=some QnH)
  (xga_NoName:PySem.W.findIn K (.ref QbW) "__getattribute__" = some (some (.builtin "BaseException.__getattribute__")))
  (xna_NoName:PySem.W.findIn K (.ref QbW) "__getattr__" = some none)
  (xca_NoName:PySem.W.findIn K (.ref QbW) "__class__" = some (some (.builtin "object.__class__")))
  (xob_NoName:PySem.W.mroIn K QbW (.type "object")=some true)
  (xbe_NoName:PySem.W.mroIn K QbW (.type "BaseException")=some true)
  (xcl_NoName:PySem.W.clsIn K QbW=some Qny)
  (xga_NoSize:PySem.W.findIn K (.ref QbY) "__getattribute__" = some (some (.builtin "BaseException.__getattribute__")))
  (xna_NoSize:PySem.W.findIn K (.ref QbY) "__getattr__" = some none)
  (xca_NoSize:PySem.W.findIn K (.ref QbY) "__class__" = some (some (.builtin "object.__class__")))
  (xob_NoSize:PySem.W.mroIn K QbY (.type "object")=some true)
  (xbe_NoSize:PySem.W.mroIn K QbY (.type "BaseException")=some true)
  (xcl_NoSize:PySem.W.clsIn K QbY=some Qoe)
  (xga_NoCell:PySem.W.findIn K (.ref QbX) "__getattribute__" = some (some (.builtin "BaseException.__getattribute__")))
  (xna_NoCell:PySem.W.findIn K (.ref QbX) "__getattr__" = some none)
  (xca_NoCell:PySem.W.findIn K (.ref QbX) "__class__" = some (some (.builtin "object.__class__")))
  (xob_NoCell:PySem.W.mroIn K QbX (.type "object")=some true)
  (xbe_NoCell:PySem.W.mroIn K QbX (.type "BaseException")=some true)
  (xcl_NoCell:PySem.W.clsIn K QbX=some Qom)
  (xga_NoRow:PySem.W.findIn K (.ref Qcf) "__getattribute__" = some (some (.builtin "BaseException.__getattribute__")))
  (xna_NoRow:PySem.W.findIn K (.ref Qcf) "__getattr__" = some none)
  (xca_NoRow:PySem.W.findIn K (.ref Qcf) "__class__" = some (some (.builtin "object.__class__")))
  (xob_NoRow:PySem.W.mroIn K Qcf (.type "object")=some true)
  (xbe_NoRow:PySem.W.mroIn K Qcf (.type "BaseException")=some true)
  (xcl_NoRow:PySem.W.clsIn K Qcf=some Qpw)
  (xga_NoHand:PySem.W.findIn K (.ref Qbi) "__getattribute__" = some (some (.builtin "BaseException.__getattribute__")))
  (xna_NoHand:PySem.W.findIn K (.ref Qbi) "__getattr__" = some none)
  (xca_NoHand:PySem.W.findIn K (.ref Qbi) "__class__" = some (some (.builtin "object.__class__")))
  (xob_NoHand:PySem.W.mroIn K Qbi (.type "object")=some true)
  (xbe_NoHand:PySem.W.mroIn K Qbi (.type "BaseException")=some true)
  (xcl_NoHand:PySem.W.clsIn K Qbi=some QoM)
  (xga_NoRoom:PySem.W.findIn K (.ref Qbo) "__getattribute__" = some (some (.builtin "BaseException.__getattribute__")))
  (xna_NoRoom:PySem.W.findIn K (.ref Qbo) "__getattr__" = some none)
  (xca_NoRoom:PySem.W.findIn K (.ref Qbo) "__class__" = some (some (.builtin "object.__class__")))
  (xob_NoRoom:PySem.W.mroIn K Qbo (.type "object")=some true)
  (xbe_NoRoom:PySem.W.mroIn K Qbo (.type "BaseException")=some true)
  (xcl_NoRoom:PySem.W.clsIn K Qbo=some Qof)
  (xga_NoRoll:PySem.W.findIn K (.ref Qbr) "__getattribute__" = some (some (.builtin "BaseException.__getattribute__")))
  (xna_NoRoll:PySem.W.findIn K (.ref Qbr) "__getattr__" = some none)
  (xca_NoRoll:PySem.W.findIn K (.ref Qbr) "__class__" = some (some (.builtin "object.__class__")))
  (xob_NoRoll:PySem.W.mroIn K Qbr (.type "object")=some true)
  (xbe_NoRoll:PySem.W.mroIn K Qbr (.type "BaseException")=some true)
  (xcl_NoRoll:PySem.W.clsIn K Qbr=some Qn9)
  (xga_Twice:PySem.W.findIn K (.ref QbC) "__getattribute__" = some (some (.builtin "BaseException.__getattribute__")))
  (xna_Twice:PySem.W.findIn K (.ref QbC) "__getattr__" = some none)
  (xca_Twice:PySem.W.findIn K (.ref QbC) "__class__" = some (some (.builtin "object.__class__")))
  (xob_Twice:PySem.W.mroIn K QbC (.type "object")=some true)
  (xbe_Twice:PySem.W.mroIn K QbC (.type "BaseException")=some true)
  (xcl_Twice:PySem.W.clsIn K QbC=some Qo7)
  (xga_Closed:PySem.W.findIn K (.ref Qbq) "__getattribute__" = some (some (.builtin "BaseException.__getattribute__")))
  (xna_Closed:PySem.W.findIn K (.ref Qbq) "__getattr__" = some none)
  (xca_Closed:PySem.W.findIn K (.ref Qbq) "__class__" = some (some (.builtin "object.__class__")))
  (xob_Closed:PySem.W.mroIn K Qbq (.type "object")=some true)
  (xbe_Closed:PySem.W.mroIn K Qbq (.type "BaseException")=some true)
  (xcl_Closed:PySem.W.clsIn K Qbq=some Qn3)
  (xif_NoSign:PySem.W.findIn K (.ref QaZ) "__init__" = some (some (.ref fI_NoSign)))
  (xii_NoSign:PySem.W.isFn K (.ref fI_NoSign)=true)
  (xil_NoSign:K.lookup fI_NoSign=some ⟨ocI_NoSign,odI_NoSign,.func (PySem.W.fnOf "__init__" "NoSign.__init__" (Qba Qcu) (QaP Qcu) (Qah Qcu) .none kVI_NoSign dcI_NoSign pmI_NoSign anI_NoSign cdI_NoSign ctI_NoSign),slI_NoSign⟩)
  (xic_NoSign:PySem.W.codeIn K cdI_NoSign "NoSign.__init__" = true)
  (xik_NoSign:PySem.W.keepIn K (.ref fI_NoSign)=true)
  (xis_NoSign:PySem.W.findIn K (.ref QaZ) "__setattr__" = some (some (.builtin "object.__setattr__")))
  (xin_NoSign:PySem.W.findIn K (.ref QaZ) "at" = some none)
  (xio_NoSign:PySem.W.mroIn K QaZ (.type "object")=some true)
  (xix_NoSign:Qeh K QaZ bmV "ValueError.__new__" fI_NoSign=true)
  (xif_NoHand:PySem.W.findIn K (.ref Qbi) "__init__" = some (some (.ref fI_NoHand)))
  (xii_NoHand:PySem.W.isFn K (.ref fI_NoHand)=true)
  (xil_NoHand:K.lookup fI_NoHand=some ⟨ocI_NoHand,odI_NoHand,.func (PySem.W.fnOf "__init__" "NoHand.__init__" (Qba Qcp) (QaP Qcp) (Qah Qcp) .none kVI_NoHand dcI_NoHand pmI_NoHand anI_NoHand cdI_NoHand ctI_NoHand),slI_NoHand⟩)
  (xic_NoHand:PySem.W.codeIn K cdI_NoHand "NoHand.__init__" = true)
  (xik_NoHand:PySem.W.keepIn K (.ref fI_NoHand)=true)
  (xis_NoHand:PySem.W.findIn K (.ref Qbi) "__setattr__" = some (some (.builtin "object.__setattr__")))
  (xin_NoHand:PySem.W.findIn K (.ref Qbi) "name" = some none)
  (xio_NoHand:PySem.W.mroIn K Qbi (.type "object")=some true)
  (xix_NoHand:Qeh K Qbi bmV "ValueError.__new__" fI_NoHand=true)
  (xif_NoRoom:PySem.W.findIn K (.ref Qbo) "__init__" = some (some (.ref fI_NoRoom)))
  (xii_NoRoom:PySem.W.isFn K (.ref fI_NoRoom)=true)
  (xil_NoRoom:K.lookup fI_NoRoom=some ⟨ocI_NoRoom,odI_NoRoom,.func (PySem.W.fnOf "__init__" "NoRoom.__init__" (Qba Qcr) (QaP Qcr) (Qah Qcr) .none kVI_NoRoom dcI_NoRoom pmI_NoRoom anI_NoRoom cdI_NoRoom ctI_NoRoom),slI_NoRoom⟩)
  (xic_NoRoom:PySem.W.codeIn K cdI_NoRoom "NoRoom.__init__" = true)
  (xik_NoRoom:PySem.W.keepIn K (.ref fI_NoRoom)=true)
  (xis_NoRoom:PySem.W.findIn K (.ref Qbo) "__setattr__" = some (some (.builtin "object.__setattr__")))
  (xin_NoRoom:PySem.W.findIn K (.ref Qbo) "at" = some none)
  (xio_NoRoom:PySem.W.mroIn K Qbo (.type "object")=some true)
  (xix_NoRoom:Qeh K Qbo bmV "ValueError.__new__" fI_NoRoom=true)
  (xif_NoRoll:PySem.W.findIn K (.ref Qbr) "__init__" = some (some (.ref fI_NoRoll)))
  (xii_NoRoll:PySem.W.isFn K (.ref fI_NoRoll)=true)
  (xil_NoRoll:K.lookup fI_NoRoll=some ⟨ocI_NoRoll,odI_NoRoll,.func (PySem.W.fnOf "__init__" "NoRoll.__init__" (Qba Qcs) (QaP Qcs) (Qah Qcs) .none kVI_NoRoll dcI_NoRoll pmI_NoRoll anI_NoRoll cdI_NoRoll ctI_NoRoll),slI_NoRoll⟩)
  (xic_NoRoll:PySem.W.codeIn K cdI_NoRoll "NoRoll.__init__" = true)
  (xik_NoRoll:PySem.W.keepIn K (.ref fI_NoRoll)=true)
  (xis_NoRoll:PySem.W.findIn K (.ref Qbr) "__setattr__" = some (some (.builtin "object.__setattr__")))
  (xin_NoRoll:PySem.W.findIn K (.ref Qbr) "at" = some none)
  (xio_NoRoll:PySem.W.mroIn K Qbr (.type "object")=some true)
  (xix_NoRoll:Qeh K Qbr bmV "ValueError.__new__" fI_NoRoll=true)
  (xif_Twice:PySem.W.findIn K (.ref QbC) "__init__" = some (some (.ref fI_Twice)))
  (xii_Twice:PySem.W.isFn K (.ref fI_Twice)=true)
  (xil_Twice:K.lookup fI_Twice=some ⟨ocI_Twice,odI_Twice,.func (PySem.W.fnOf "__init__" "Twice.__init__" (Qba QcM) (QaP QcM) (Qah QcM) .none kVI_Twice dcI_Twice pmI_Twice anI_Twice cdI_Twice ctI_Twice),slI_Twice⟩)
  (xic_Twice:PySem.W.codeIn K cdI_Twice "Twice.__init__" = true)
  (xik_Twice:PySem.W.keepIn K (.ref fI_Twice)=true)
  (xis_Twice:PySem.W.findIn K (.ref QbC) "__setattr__" = some (some (.builtin "object.__setattr__")))
  (xin_Twice:PySem.W.findIn K (.ref QbC) "name" = some none)
  (xio_Twice:PySem.W.mroIn K QbC (.type "object")=some true)
  (xix_Twice:Qeh K QbC bmV "ValueError.__new__" fI_Twice=true)
  (xif_Closed:PySem.W.findIn K (.ref Qbq) "__init__" = some (some (.ref fI_Closed)))
  (xii_Closed:PySem.W.isFn K (.ref fI_Closed)=true)
  (xil_Closed:K.lookup fI_Closed=some ⟨ocI_Closed,odI_Closed,.func (PySem.W.fnOf "__init__" "Closed.__init__" (Qba Qcq) (QaP Qcq) (Qah Qcq) .none kVI_Closed dcI_Closed pmI_Closed anI_Closed cdI_Closed ctI_Closed),slI_Closed⟩)
  (xic_Closed:PySem.W.codeIn K cdI_Closed "Closed.__init__" = true)
  (xik_Closed:PySem.W.keepIn K (.ref fI_Closed)=true)
  (xis_Closed:PySem.W.findIn K (.ref Qbq) "__setattr__" = some (some (.builtin "object.__setattr__")))
  (xin_Closed:PySem.W.findIn K (.ref Qbq) "name" = some none)
  (xio_Closed:PySem.W.mroIn K Qbq (.type "object")=some true)
  (xix_Closed:Qeh K Qbq bmV "ValueError.__new__" fI_Closed=true)
  (fEX_OutError_NoSign:PySem.W.exmOne K (.ref QaZ) (.ref Qcw)=some true)
  (fIT_ClosedNoCellNoHandNoNameNoRollNoRoomNoRowNoSizeTwice_NoSign:PySem.W.kitAny K (.ref QaZ) [.ref Qbq,.ref QbX,.ref Qbi,.ref QbW,.ref Qbr,.ref Qbo,.ref Qcf,.ref QbY,.ref QbC]=some false)
  (fIS_NoSign_NoSign:PySem.W.kitOne K (.ref QaZ) (.ref QaZ)=some true)
  (xve:PySem.W.nsIn K mainGlobals "ValueError" = some none)
  (fIV_NoSign:PySem.W.kitOne K (.ref QaZ) (.type "ValueError")=some true)
  (fXA_at_NoSign:PySem.W.findIn K (.ref QaZ) "at" = some none) (hXA_at_NoSign:PySem.W.hasDictIn K QaZ=true)
  (fXA_at_NoRoom:PySem.W.findIn K (.ref Qbo) "at" = some none) (hXA_at_NoRoom:PySem.W.hasDictIn K Qbo=true)
  (fXA_at_NoRoll:PySem.W.findIn K (.ref Qbr) "at" = some none) (hXA_at_NoRoll:PySem.W.hasDictIn K Qbr=true)
  (fXA_name_NoHand:PySem.W.findIn K (.ref Qbi) "name" = some none) (hXA_name_NoHand:PySem.W.hasDictIn K Qbi=true)
  (fXA_name_Twice:PySem.W.findIn K (.ref QbC) "name" = some none) (hXA_name_Twice:PySem.W.hasDictIn K QbC=true)
  (fXA_name_Closed:PySem.W.findIn K (.ref Qbq) "name" = some none) (hXA_name_Closed:PySem.W.hasDictIn K Qbq=true)
  (xN_NoName:PySem.W.excIn K QbW bmV "ValueError.__new__" = true)
  (fKP_NoName:PySem.W.keepIn K (.ref QbW)=true)
  (xN_NoSize:PySem.W.excIn K QbY bmV "ValueError.__new__" = true)
  (fKP_NoSize:PySem.W.keepIn K (.ref QbY)=true)
  (xN_NoCell:PySem.W.excIn K QbX bmV "ValueError.__new__" = true)
  (fKP_NoCell:PySem.W.keepIn K (.ref QbX)=true)
  (xN_NoRow:PySem.W.excIn K Qcf bmV "ValueError.__new__" = true)
  (fKP_NoRow:PySem.W.keepIn K (.ref Qcf)=true)
  (fKP_NoSign:PySem.W.keepIn K (.ref QaZ)=true)
  (fKP_NoHand:PySem.W.keepIn K (.ref Qbi)=true)
  (fKP_NoRoom:PySem.W.keepIn K (.ref Qbo)=true)
  (fKP_NoRoll:PySem.W.keepIn K (.ref Qbr)=true)
  (fKP_Twice:PySem.W.keepIn K (.ref QbC)=true)
  (fKP_Closed:PySem.W.keepIn K (.ref Qbq)=true)
  (fIS_OutError_NoName:PySem.W.kitOne K (.ref QbW) (.ref Qcw)=some true)
  (fIS_OutError_NoSize:PySem.W.kitOne K (.ref QbY) (.ref Qcw)=some true)
  (fIS_OutError_NoCell:PySem.W.kitOne K (.ref QbX) (.ref Qcw)=some true)
  (fIS_OutError_NoRow:PySem.W.kitOne K (.ref Qcf) (.ref Qcw)=some true)
  (fIS_OutError_NoSign:PySem.W.kitOne K (.ref QaZ) (.ref Qcw)=some true)
  (fIS_OutError_NoHand:PySem.W.kitOne K (.ref Qbi) (.ref Qcw)=some true) :
  ∃fd:FuncData,(∀(s:Shared) (v:Value),BindsTo s fd ⟨[v],[]⟩ [("_law_script",v)])∧∀base:Heap,K.In base→base.Ns mainGlobals mg→Qby l.prog w K mg base CX0 8 fa fd ["_law_script"] (sp_law K):=by
 have e:=hfa.symm.trans (PySem.W.mg_of X G Qm0);cases e;have QaN:=Z_Reader.kf X G Qki;have Qbb:=Z_Reader.kf X G QjJ;have Qds:=Z_Reader.dc X G M_Reader___init__;have QeT:=Z_Reader.dm X G M_Reader_take;have QeU:=Z_Reader.dm X G M_Reader_feed;have Qdl:=Z_Reader.dm X G M_Reader_held_text;have Qd8:=Z_Reader.dm X G M_Reader_finish;have QmL:Def K mg "law" Qd7:=⟨_,_,PySem.W.mg_of X G Qm0,Qd6 (st:=Qd7) Qqs Qsx Qui⟩;have XF_NoSign:QcG K QaZ:=⟨xga_NoSign,xna_NoSign,xca_NoSign,xsp,xtk,xob_NoSign,xbe_NoSign,by rw [xcl_NoSign]; rfl⟩;have XF_NoName:QcG K QbW:=⟨xga_NoName,xna_NoName,xca_NoName,xsp,xtk,xob_NoName,xbe_NoName,by rw [xcl_NoName]; rfl⟩
 have XF_NoSize:QcG K QbY:=⟨xga_NoSize,xna_NoSize,xca_NoSize,xsp,xtk,xob_NoSize,xbe_NoSize,by rw [xcl_NoSize]; rfl⟩;have XF_NoCell:QcG K QbX:=⟨xga_NoCell,xna_NoCell,xca_NoCell,xsp,xtk,xob_NoCell,xbe_NoCell,by rw [xcl_NoCell]; rfl⟩;have XF_NoRow:QcG K Qcf:=⟨xga_NoRow,xna_NoRow,xca_NoRow,xsp,xtk,xob_NoRow,xbe_NoRow,by rw [xcl_NoRow]; rfl⟩;have XF_NoHand:QcG K Qbi:=⟨xga_NoHand,xna_NoHand,xca_NoHand,xsp,xtk,xob_NoHand,xbe_NoHand,by rw [xcl_NoHand]; rfl⟩;have XF_NoRoom:QcG K Qbo:=⟨xga_NoRoom,xna_NoRoom,xca_NoRoom,xsp,xtk,xob_NoRoom,xbe_NoRoom,by rw [xcl_NoRoom]; rfl⟩;have XF_NoRoll:QcG K Qbr:=⟨xga_NoRoll,xna_NoRoll,xca_NoRoll,xsp,xtk,xob_NoRoll,xbe_NoRoll,by rw [xcl_NoRoll]; rfl⟩
 have XF_Twice:QcG K QbC:=⟨xga_Twice,xna_Twice,xca_Twice,xsp,xtk,xob_Twice,xbe_Twice,by rw [xcl_Twice]; rfl⟩;have XF_Closed:QcG K Qbq:=⟨xga_Closed,xna_Closed,xca_Closed,xsp,xtk,xob_Closed,xbe_Closed,by rw [xcl_Closed]; rfl⟩;have DI_NoSign:Qef K mg "NoSign" "at" "NoSign.__init__" Qcu:=⟨_,_,_,PySem.W.mg_of X G Qcv,⟨xix_NoSign,xis_NoSign,xin_NoSign,xio_NoSign⟩,xii_NoSign,Qd6 (st:=Qcu) xil_NoSign xic_NoSign xik_NoSign⟩;have DI_NoHand:Qef K mg "NoHand" "name" "NoHand.__init__" Qcp:=⟨_,_,_,PySem.W.mg_of X G QeM,⟨xix_NoHand,xis_NoHand,xin_NoHand,xio_NoHand⟩,xii_NoHand,Qd6 (st:=Qcp) xil_NoHand xic_NoHand xik_NoHand⟩
 have DI_NoRoom:Qef K mg "NoRoom" "at" "NoRoom.__init__" Qcr:=⟨_,_,_,PySem.W.mg_of X G QfJ,⟨xix_NoRoom,xis_NoRoom,xin_NoRoom,xio_NoRoom⟩,xii_NoRoom,Qd6 (st:=Qcr) xil_NoRoom xic_NoRoom xik_NoRoom⟩;have DI_NoRoll:Qef K mg "NoRoll" "at" "NoRoll.__init__" Qcs:=⟨_,_,_,PySem.W.mg_of X G QfT,⟨xix_NoRoll,xis_NoRoll,xin_NoRoll,xio_NoRoll⟩,xii_NoRoll,Qd6 (st:=Qcs) xil_NoRoll xic_NoRoll xik_NoRoll⟩;have DI_Twice:Qef K mg "Twice" "name" "Twice.__init__" QcM:=⟨_,_,_,PySem.W.mg_of X G QgT,⟨xix_Twice,xis_Twice,xin_Twice,xio_Twice⟩,xii_Twice,Qd6 (st:=QcM) xil_Twice xic_Twice xik_Twice⟩
 have DI_Closed:Qef K mg "Closed" "name" "Closed.__init__" Qcq:=⟨_,_,_,PySem.W.mg_of X G QfK,⟨xix_Closed,xis_Closed,xin_Closed,xio_Closed⟩,xii_Closed,Qd6 (st:=Qcq) xil_Closed xic_Closed xik_Closed⟩;have EX_OutError_NoSign:EXM K mg "OutError" "NoSign" true:=⟨_,_,PySem.W.mg_of X G Qcv,PySem.W.mg_of X G QcA,fEX_OutError_NoSign⟩;have IT_ClosedNoCellNoHandNoNameNoRollNoRoomNoRowNoSizeTwice_NoSign:Qlh K mg ["Closed","NoCell","NoHand","NoName","NoRoll","NoRoom","NoRow","NoSize","Twice"] "NoSign" false:=⟨QaZ,[Qbq,QbX,Qbi,QbW,Qbr,Qbo,Qcf,QbY,QbC],PySem.W.mg_of X G Qcv,XF_NoSign,⟨_,_,rfl,PySem.W.mg_of X G QfK,⟨_,_,rfl,PySem.W.mg_of X G QfS,⟨_,_,rfl,PySem.W.mg_of X G QeM,⟨_,_,rfl,PySem.W.mg_of X G QfQ,⟨_,_,rfl,PySem.W.mg_of X G QfT,⟨_,_,rfl,PySem.W.mg_of X G QfJ,⟨_,_,rfl,PySem.W.mg_of X G QgH,⟨_,_,rfl,PySem.W.mg_of X G QfG,⟨_,_,rfl,PySem.W.mg_of X G QgT,rfl⟩⟩⟩⟩⟩⟩⟩⟩⟩,fIT_ClosedNoCellNoHandNoNameNoRollNoRoomNoRowNoSizeTwice_NoSign⟩
 have IS_NoSign_NoSign:ISN K mg "NoSign" "NoSign" true:=⟨_,_,PySem.W.mg_of X G Qcv,XF_NoSign,PySem.W.mg_of X G Qcv,fIS_NoSign_NoSign⟩;have VN:=PySem.W.mg_none_of X G xve;have IV_NoSign:ISV K mg "NoSign":=⟨_,PySem.W.mg_of X G Qcv,XF_NoSign,fIV_NoSign⟩;have XA_at_NoSign:XFC K mg "at" "NoSign":=⟨_,PySem.W.mg_of X G Qcv,XF_NoSign,fXA_at_NoSign,hXA_at_NoSign⟩;have XA_at_NoRoom:XFC K mg "at" "NoRoom":=⟨_,PySem.W.mg_of X G QfJ,XF_NoRoom,fXA_at_NoRoom,hXA_at_NoRoom⟩;have XA_at_NoRoll:XFC K mg "at" "NoRoll":=⟨_,PySem.W.mg_of X G QfT,XF_NoRoll,fXA_at_NoRoll,hXA_at_NoRoll⟩;have XA_name_NoHand:XFC K mg "name" "NoHand":=⟨_,PySem.W.mg_of X G QeM,XF_NoHand,fXA_name_NoHand,hXA_name_NoHand⟩
 have XA_name_Twice:XFC K mg "name" "Twice":=⟨_,PySem.W.mg_of X G QgT,XF_Twice,fXA_name_Twice,hXA_name_Twice⟩;have XA_name_Closed:XFC K mg "name" "Closed":=⟨_,PySem.W.mg_of X G QfK,XF_Closed,fXA_name_Closed,hXA_name_Closed⟩;have X_NoName:QgU K mg "NoName":=⟨_,PySem.W.mg_of X G QfQ,xN_NoName⟩;have KP_NoName:KPC K mg "NoName":=⟨_,PySem.W.mg_of X G QfQ,fKP_NoName⟩;have X_NoSize:QgU K mg "NoSize":=⟨_,PySem.W.mg_of X G QfG,xN_NoSize⟩;have KP_NoSize:KPC K mg "NoSize":=⟨_,PySem.W.mg_of X G QfG,fKP_NoSize⟩;have X_NoCell:QgU K mg "NoCell":=⟨_,PySem.W.mg_of X G QfS,xN_NoCell⟩
 have KP_NoCell:KPC K mg "NoCell":=⟨_,PySem.W.mg_of X G QfS,fKP_NoCell⟩;have X_NoRow:QgU K mg "NoRow":=⟨_,PySem.W.mg_of X G QgH,xN_NoRow⟩;have KP_NoRow:KPC K mg "NoRow":=⟨_,PySem.W.mg_of X G QgH,fKP_NoRow⟩;have KP_NoSign:KPC K mg "NoSign":=⟨_,PySem.W.mg_of X G Qcv,fKP_NoSign⟩;have KP_NoHand:KPC K mg "NoHand":=⟨_,PySem.W.mg_of X G QeM,fKP_NoHand⟩;have KP_NoRoom:KPC K mg "NoRoom":=⟨_,PySem.W.mg_of X G QfJ,fKP_NoRoom⟩;have KP_NoRoll:KPC K mg "NoRoll":=⟨_,PySem.W.mg_of X G QfT,fKP_NoRoll⟩;have KP_Twice:KPC K mg "Twice":=⟨_,PySem.W.mg_of X G QgT,fKP_Twice⟩;have KP_Closed:KPC K mg "Closed":=⟨_,PySem.W.mg_of X G QfK,fKP_Closed⟩
 have IS_OutError_NoName:ISN K mg "OutError" "NoName" true:=⟨_,_,PySem.W.mg_of X G QfQ,XF_NoName,PySem.W.mg_of X G QcA,fIS_OutError_NoName⟩;have IS_OutError_NoSize:ISN K mg "OutError" "NoSize" true:=⟨_,_,PySem.W.mg_of X G QfG,XF_NoSize,PySem.W.mg_of X G QcA,fIS_OutError_NoSize⟩;have IS_OutError_NoCell:ISN K mg "OutError" "NoCell" true:=⟨_,_,PySem.W.mg_of X G QfS,XF_NoCell,PySem.W.mg_of X G QcA,fIS_OutError_NoCell⟩;have IS_OutError_NoRow:ISN K mg "OutError" "NoRow" true:=⟨_,_,PySem.W.mg_of X G QgH,XF_NoRow,PySem.W.mg_of X G QcA,fIS_OutError_NoRow⟩;have IS_OutError_NoSign:ISN K mg "OutError" "NoSign" true:=⟨_,_,PySem.W.mg_of X G Qcv,XF_NoSign,PySem.W.mg_of X G QcA,fIS_OutError_NoSign⟩
 have IS_OutError_NoHand:ISN K mg "OutError" "NoHand" true:=⟨_,_,PySem.W.mg_of X G QeM,XF_NoHand,PySem.W.mg_of X G QcA,fIS_OutError_NoHand⟩;refine ⟨PySem.W.fnOf "law" "law" (Qba Qd7) (QaP Qd7) (Qah Qd7) .none Qn5 Qn8 QnY Qn4 Qk9 QnL,fun s v=>.of_eq rfl,fun base _ _=>?_⟩;have XI_NoSign:=@QnN l.prog w K mg base DI_NoSign;have XI_NoHand:=@Qnp l.prog w K mg base DI_NoHand;have XI_NoRoom:=@QnA l.prog w K mg base DI_NoRoom;have XI_NoRoll:=@Qok l.prog w K mg base DI_NoRoll;have XI_Twice:=@Qo2 l.prog w K mg base DI_Twice;have XI_Closed:=@QoB l.prog w K mg base DI_Closed;have QhL:=@Qmg l.prog w K mg base QhD B Qfw Qgc
 have Qcc:=@QkJ l.prog w K mg base Qf9 B Qhf;have Qcb:=@QmS l.prog w K mg base Qhd B Qc2 QdW XI_NoSign QhL;have QhY:=@Qm5 l.prog w K mg base Qhv B Qcc;have Qdu:=@Qhg l.prog w K mg base QdB B Qcc;have Qg3:=@Qly l.prog w K mg base QgC B Qc2 QdW;have QcF:=@Qk7 l.prog w K mg base Qf1 B Qg3;have QbP:=@QhI l.prog w K mg base Qds B QaN Qbb;have Qe6:=@Qjo l.prog w K mg base QeT B Qbb QaN Qdu QhY QcF;have Qbz:=@Qjz l.prog w K mg base QeU B Qcb Qe6;have Qcx:=@Qg9 l.prog w K mg base Qdl B QaN;have Qb3:=@Qiz l.prog w K mg base Qd8 B QaN Qbb QcF;have Qgx:=@QlF l.prog w K mg base Qgw B QbP Qbz Qb3;have Qd4:=@Qlz l.prog w K mg base Qg5 B
 have Qbn:=@Qmq l.prog w K mg base QhJ B;have Qgf:=@QkL l.prog w K mg base QfY B;have QdE:=@QkN l.prog w K mg base Qgh B Qbn Qgf;have QgX:=@QlC l.prog w K mg base QgF B;have Qgk:=@Qlr l.prog w K mg base Qga B QgX;have Qc0:=@Qle l.prog w K mg base QfZ B;have QgM:=@Qlw l.prog w K mg base QgL B Qc0.can;have QhC:=@Qnh l.prog w K mg base Qhr B Qcb Qgx Qbz;have QdI:=@QjI l.prog w K mg base QeV B EX_OutError_NoSign IT_ClosedNoCellNoHandNoNameNoRollNoRoomNoRowNoSizeTwice_NoSign IS_NoSign_NoSign VN IV_NoSign XA_at_NoSign QhC Qc0;have QeZ:=@Qjr l.prog w K mg base Qe8 B XA_at_NoSign XA_at_NoRoom XA_at_NoRoll XA_name_NoHand XA_name_Twice XA_name_Closed X_NoName KP_NoName X_NoSize KP_NoSize X_NoCell KP_NoCell X_NoRow KP_NoRow XI_NoSign KP_NoSign XI_NoHand KP_NoHand XI_NoRoom KP_NoRoom XI_NoRoll KP_NoRoll XI_Twice KP_Twice XI_Closed KP_Closed IS_OutError_NoName IS_OutError_NoSize IS_OutError_NoCell IS_OutError_NoRow IS_OutError_NoSign IS_OutError_NoHand
 have Qft:=@Qkm l.prog w K mg base QfE B Qbn;have QtR:=@Qs0 l.prog w K mg base QmL B QdE Qd4 QbP Qbz.can Qcx Qft Qbn Qcb.can QeZ QdI Qb3 QgM Qgk;obtain ⟨f',fd',hm',hk',hb',F',oc',od',osl',lk'⟩:=QtR;have e2:=(PySem.W.mg_of X G Qm0).symm.trans hm';cases e2;have e3:=Qqs.symm.trans lk';cases e3;exact F'.imp (QqV QpX)
theorem walk {l:PySem.W.OpenLaw}{q:Program}{loose:List Str}{XP:(Str→Option Value)→Heap→Prop}{YP:World→Heap→Prop}{d:DefRec}{K:Params→PySem.W.Frag} (hn:l.most=some 63) (hdf:d.params.defaults = [])
  (hY:∀(w:World) (h:Heap),YP w h→(K w.params).In h)
  (F:∀(w:World) (mg:Str→Option Value) (fa:Addr) (h:Heap),(K w.params).In h→h.Ns mainGlobals mg→mg d.name=some (.ref fa) →
   ∃fd:FuncData,(∀(s:Shared) (u:Value),BindsTo s fd ⟨[u],[]⟩ [("_law_script",u)])∧∀base:Heap,(K w.params).In base→base.Ns mainGlobals mg→Qby l.prog w (K w.params) mg base CX0 8 fa fd ["_law_script"] (sp_law (K w.params))) :
  PySem.W.WalkO q loose XP YP l.row.toRowW d [] (fun f vs=>PySem.call f vs) :=
 L2.walk_ofR (n:=63) (k:=8) (x:="_law_script") (CX:=fun _=>CX0) (sp:=fun w=>sp_law (K w.params)) hn (by decide) hdf ⟨rfl,by decide,by decide⟩ hY F (fun _ _ a ns hl ho hS=>⟨a,ns,rfl,hS,hl,ho,fun _=>rfl⟩) fun _ _ _ _ _ z=>z
end K16
open PySem PySem.W PyProof.Rows L2
set_option maxRecDepth 100000 in
set_option maxHeartbeats 0 in
theorem PySem.Challenge.cw_outweave_k16_signs_refused_holds : PySem.Challenge.rw_outweave_k16_signs_refused.Holds := by
 w_on; o_law; k_head; (case hw=>w_witness2)
 k_fill
 refine K16.walk (l:=PySem.Challenge.rw_outweave_k16_signs_refused) rfl rfl (fun w h Y=>PySem.W.kIn_of Y) ?F
 case F =>
  intro w mg fa h KX G hmg
  refine' K16.all_mk KX G hmg ⟨?x1,?x2,?x3,?x4,?x5,?x6,?x7⟩ ?x8 ?x9 (mkD KX G ?x10 ?x11 ?x12 ?x13) (mkD KX G ?x14 ?x15 ?x16 ?x17) (mkD KX G ?x18 ?x19 ?x20 ?x21) (mkD KX G ?x22 ?x23 ?x24 ?x25) (mkD KX G ?x26 ?x27 ?x28 ?x29) (mkD KX G ?x30 ?x31 ?x32 ?x33) (mkD KX G ?x34 ?x35 ?x36 ?x37) (mkM ?x38 ?x39 ?x40 ?x41 ?x42) (mkM ?x43 ?x44 ?x45 ?x46 ?x47) (mkM ?x48 ?x49 ?x50 ?x51 ?x52) (mkM ?x53 ?x54 ?x55 ?x56 ?x57) (mkM ?x58 ?x59 ?x60 ?x61 ?x62) (mkD KX G ?x63 ?x64 ?x65 ?x66) (mkD KX G ?x67 ?x68 ?x69 ?x70) (mkD KX G ?x71 ?x72 ?x73 ?x74) (mkD KX G ?x75 ?x76 ?x77 ?x78) (mkD KX G ?x79 ?x80 ?x81 ?x82) (mkD KX G ?x83 ?x84 ?x85 ?x86) (mkD KX G ?x87 ?x88 ?x89 ?x90) (mkD KX G ?x91 ?x92 ?x93 ?x94) (mkD KX G ?x95 ?x96 ?x97 ?x98) (mkD KX G ?x99 ?x100 ?x101 ?x102) (mkD KX G ?x103 ?x104 ?x105 ?x106) (mkD KX G ?x107 ?x108 ?x109 ?x110) (mkD KX G ?x111 ?x112 ?x113 ?x114) ?x115 ?x116 ?x117 ?x118 ⟨PySem.W.mg_none_of KX G ?x119,PySem.W.mg_none_of KX G ?x120,PySem.W.mg_none_of KX G ?x121,PySem.W.mg_none_of KX G ?x122,PySem.W.mg_none_of KX G ?x123,PySem.W.mg_none_of KX G ?x124,PySem.W.mg_none_of KX G ?x125,PySem.W.mg_none_of KX G ?x126,PySem.W.mg_none_of KX G ?x127,PySem.W.mg_none_of KX G ?x128,PySem.W.mg_none_of KX G ?x129,PySem.W.mg_none_of KX G ?x130,PySem.W.mg_none_of KX G ?x131,PySem.W.mg_none_of KX G ?x132,PySem.W.mg_none_of KX G ?x133⟩ ⟨_,PySem.W.mg_of KX G ?x134,?x135⟩ ⟨_,PySem.W.mg_of KX G ?x136,?x137⟩ ⟨_,PySem.W.mg_of KX G ?x138,?x139⟩ ⟨_,PySem.W.mg_of KX G ?x140,?x141⟩ ⟨_,PySem.W.mg_of KX G ?x142,?x143⟩ ?x144 ?x145 ?x146 ?x147 ?x148 ?x149 ?x150 ?x151 ?x152 ?x153 ?x154 ?x155 ?x156 ?x157 ?x158 ?x159 ?x160 ?x161 ?x162 ?x163 ?x164 ?x165 ?x166 ?x167 ?x168 ?x169 ?x170 ?x171 ?x172 ?x173 ?x174 ?x175 ?x176 ?x177 ?x178 ?x179 ?x180 ?x181 ?x182 ?x183 ?x184 ?x185 ?x186 ?x187 ?x188 ?x189 ?x190 ?x191 ?x192 ?x193 ?x194 ?x195 ?x196 ?x197 ?x198 ?x199 ?x200 ?x201 ?x202 ?x203 ?x204 ?x205 ?x206 ?x207 ?x208 ?x209 ?x210 ?x211 ?x212 ?x213 ?x214 ?x215 ?x216 ?x217 ?x218 ?x219 ?x220 ?x221 ?x222 ?x223 ?x224 ?x225 ?x226 ?x227 ?x228 ?x229 ?x230 ?x231 ?x232 ?x233 ?x234 ?x235 ?x236 ?x237 ?x238 ?x239 ?x240 ?x241 ?x242 ?x243 ?x244 ?x245 ?x246 ?x247 ?x248 ?x249 ?x250 ?x251 ?x252 ?x253 ?x254 ?x255 ?x256 ?x257 ?x258 ?x259 ?x260 ?x261 ?x262 ?x263 ?x264 ?x265 ?x266 ?x267 ?x268 ?x269 ?x270 ?x271 ?x272 ?x273 ?x274 ?x275 ?x276 ?x277 ?x278 ?x279 ?x280 ?x281 ?x282 ?x283 ?x284 ?x285 ?x286 ?x287 ?x288 ?x289 ?x290 ?x291 ?x292 ?x293 ?x294 ?x295 ?x296 ?x297 ?x298 ?x299 ?x300 ?x301 ?x302 ?x303 ?x304 ?x305 ?x306 ?x307
  (case x1 | x2 | x3 | x4 | x5 | x6 | x7 | x8 | x9 | x10 | x11 | x12 | x13 | x14 | x15 | x16 | x17 | x18 | x19 | x20 | x21 | x22 | x23 | x24 | x25 | x26 | x27 | x28 | x29 | x30 | x31 | x32 | x33 | x34 | x35 | x36 | x37 | x38 | x39 | x40 | x41 | x42 | x43 | x44 | x45 | x46 | x47 | x48 | x49 | x50 | x51 | x52 | x53 | x54 | x55 | x56 | x57 | x58 | x59 | x60 | x61 | x62 | x63 | x64 | x65 | x66 | x67 | x68 | x69 | x70 | x71 | x72 | x73 | x74 | x75 | x76 | x77 | x78 | x79 | x80 | x81 | x82 | x83 | x84 | x85 | x86 | x87 | x88 | x89 | x90 | x91 | x92 | x93 | x94 | x95 | x96 | x97 | x98 | x99 | x100 | x101 | x102 | x103 | x104 | x105 | x106 | x107 | x108 | x109 | x110 | x111 | x112 | x113 | x114 | x115 | x116 | x117 | x118 | x119 | x120 | x121 | x122 | x123 | x124 | x125 | x126 | x127 | x128 | x129 | x130 | x131 | x132 | x133 | x134 | x136 | x138 | x140 | x142 | x144 | x145 | x146 | x147 | x148 | x149 | x150 | x151 | x152 | x153 | x154 | x155 | x156 | x157 | x158 | x159 | x160 | x161 | x162 | x163 | x164 | x165 | x166 | x167 | x168 | x169 | x170 | x171 | x172 | x173 | x174 | x175 | x176 | x177 | x178 | x179 | x180 | x181 | x182 | x183 | x184 | x185 | x186 | x187 | x188 | x189 | x190 | x191 | x192 | x193 | x194 | x195 | x196 | x197 | x198 | x199 | x200 | x201 | x202 | x203 | x204 | x205 | x206 | x207 | x208 | x209 | x210 | x211 | x212 | x213 | x214 | x215 | x216 | x217 | x218 | x219 | x220 | x221 | x222 | x223 | x224 | x226 | x227 | x228 | x229 | x230 | x231 | x232 | x233 | x235 | x236 | x237 | x238 | x239 | x240 | x241 | x242 | x244 | x245 | x246 | x247 | x248 | x249 | x250 | x251 | x253 | x254 | x255 | x256 | x257 | x258 | x259 | x260 | x262 | x263 | x264 | x265 | x266 | x267 | x268 | x269 | x274 | x276 | x277 | x278 | x279 | x280 | x281 | x282 | x283 | x284 | x285 | x286 | x287 | x289 | x291 | x293 | x295 | x296 | x297 | x298 | x299 | x300 | x301=>k_is)
  (case x135 | x137 | x139 | x141 | x143=>exact ⟨_,rfl⟩)
  (case x225 | x234 | x243 | x252 | x261 | x270=>first | kernel_rfl | decide +kernel)
  (case x271=>kts_exm)
  (case x272 | x273 | x275 | x302 | x303 | x304 | x305 | x306 | x307=>kit_is)
  (case x288 | x290 | x292 | x294=>k_exc)
