import PyProof.Rows.All
import Wide.All
import OpenK.AllK
import Wide.FinOn
import Lean
import PyProof.EqAt
import PyProof.EqKinds
import PyProof.TupleCall
import PySem.Challenge.RW_outweave_k36_texts_unshaded
set_option Elab.async false
set_option linter.all false
set_option maxRecDepth 100000
set_option maxHeartbeats 4000000
section
open PySem PyProof.Rows
abbrev za:=@wpAny_bind
abbrev zb:=@wpAny_pure
abbrev zc:=@Nat.le_refl
abbrev zd:=@Heap.lt_size
abbrev ze:=@List.map_cons
abbrev zf:=@Bool.false_ne_true
abbrev zg:=@decide_eq_false
abbrev zh:=@Heap.get?_push_of_some
abbrev zj:=@Bool.and_eq_true
abbrev zk:=@List.mem_cons
abbrev zl:=@Nat.ne_of_lt
abbrev zm:=@wpAny_mono
abbrev zn:=@List.getElem?_eq_some_iff
abbrev zo:=@List.size_toArray
abbrev zp:=@List.length_cons
abbrev zq:=@List.getElem?_set_ne
abbrev zr:=@List.length_append
abbrev zt:=@decide_eq_true
abbrev zu:=@Nat.le_trans
abbrev zv:=@Nat.lt_of_lt_of_le
abbrev zw:=@List.mem_cons_of_mem
abbrev zx:=@List.mem_cons_self
abbrev zy:=@List.mem_append
abbrev zz:=@List.mem_singleton
abbrev zA:=@List.length_map
abbrev zB:=@List.getElem?_append_left
abbrev zC:=@List.append_nil
abbrev zD:=@List.getElem?_append_right
abbrev zE:=@List.getElem?_set_self
abbrev zF:=@Heap.get?_push_size
abbrev zG:=@List.getElem?_map
abbrev zH:=@wpAny_holding
abbrev zI:=@Nat.lt_irrefl
abbrev zJ:=@List.getElem?_eq_getElem
abbrev zK:=@Option.some.inj
abbrev zL:=@List.mem_append_right
abbrev zM:=@wpAny_call
abbrev zN:=@List.map_append
abbrev zO:=@List.mem_of_getElem?
abbrev zP:=@List.append_assoc
abbrev zQ:=@List.length_set
abbrev zR:=@List.length_nil
abbrev zS:=@List.length_singleton
abbrev zT:=@wpAny_of_eq
abbrev zU:=@wpAny_rule
abbrev zV:=@List.getElem?_cons_succ
abbrev zW:=@Nat.le_add_right
abbrev zX:=@List.mem_map
abbrev zY:=@List.nil_append
abbrev zZ:=@Int.emod_nonneg
abbrev jc:=@Int.emod_lt_of_pos
abbrev jd:=@Nat.lt_succ_self
abbrev je:=@List.getD_eq_getElem?_getD
abbrev jf:=@of_decide_eq_true
abbrev jg:=@codeAny_builtin
abbrev jh:=@List.getElem?_cons_zero
abbrev ji:=@List.mem_of_mem_drop
abbrev jj:=@List.all_eq_true
abbrev jk:=@Classical.not_not
end
namespace PySem.W.Fast
abbrev tw9910113770884233436:=()
abbrev tw5491311123299378327:=()
abbrev tw6650990961987779179:=()
abbrev tw9615760646251733595:=()
abbrev tw8358758974385314914:=()
abbrev tw10118599393233489426:=()
abbrev tw10389375828918036777:=()
abbrev tw2277077052221754806:=()
abbrev tw8340129184515045673:=()
abbrev tw13275289348121204600:=()
abbrev tw18276582593365460099:=()
abbrev tw17673111871479603397:=()
abbrev tw12001805648106684776:=()
abbrev tw17526254077719007017:=()
abbrev tw2172251555005683929:=()
abbrev tw17262734306827071587:=()
abbrev tw10163264633170990517:=()
abbrev tw16328472495527364558:=()
abbrev tw13151229296965740790:=()
abbrev tw2519626419470415912:=()
abbrev tw14560858720511434100:=()
abbrev tw10282356377798901910:=()
abbrev tw169710181444739045:=()
abbrev tw9979341999941810507:=()
abbrev tw14286043967645299286:=()
abbrev tw2648127230029347678:=()
abbrev tw15592913124928120508:=()
abbrev tw9057332790990877653:=()
abbrev tw6785086092667706727:=()
abbrev tw17933276394286608130:=()
abbrev tw14963293863887667286:=()
abbrev tw10486599238782053215:=()
abbrev tw13440899409917455960:=()
abbrev tw758862634343084171:=()
abbrev tw15286285417229235427:=()
abbrev tw17327453055137712141:=()
end PySem.W.Fast
namespace L2
open PySem PySem.Spec PyProof.Rows
abbrev Key:=Sum Int Str
def QhT:Key→Value→Bool
 | .inl k,v=>Value.isInt k v
 | .inr x,v=>Value.isStrOf x v
def QwC (w:World):Key→Int
 | .inl k=>hashInt k
 | .inr x=>hashStr w x
theorem QbV:∀{k:Key}{v:Value},QhT k v=true→(∃i t,k=Sum.inl i∧v=Value.int i t)∨(∃x t,k=Sum.inr x∧v=Value.str x t)
 | .inl i,v,h=>by
  obtain ⟨t,e⟩:=Value.isInt_shape (k:=i) (v:=v) h;exact .inl ⟨i,t,rfl,e⟩
 | .inr x,v,h=>by
  obtain ⟨t,e⟩:=Value.isStrOf_shape (x:=x) (v:=v) h;exact .inr ⟨x,t,rfl,e⟩
theorem Qof (i:Int) (t:Tok):QhT (.inl i) (.int i t)=true:=by simp [QhT,Value.isInt]
theorem QoZ (x:Str) (t:Tok):QhT (.inr x) (.str x t)=true:=by simp [QhT,Value.isStrOf]
theorem QuD (a b:Int):decide ((Sum.inl a:Key)=Sum.inl b)=(a == b):=by
 by_cases e:a=b
 ·subst e; simp
 ·have h:¬(Sum.inl a:Key)=Sum.inl b:=fun q=>e (Sum.inl.inj q)
  rw [zg h];exact (beq_eq_false_iff_ne.mpr e).symm
theorem Qt0 (a b:Str):decide ((Sum.inr a:Key)=Sum.inr b)=decide (a=b):=by
 by_cases e:a=b
 ·subst e; simp
 ·have h:¬(Sum.inr a:Key)=Sum.inr b:=fun q=>e (Sum.inr.inj q)
  rw [zg h,zg e]
theorem QsK (a:Int) (b:Str):decide ((Sum.inl a:Key)=Sum.inr b)=false:=zg (fun q=>nomatch q)
theorem Qtl (a:Str) (b:Int):decide ((Sum.inr a:Key)=Sum.inl b)=false:=zg (fun q=>nomatch q)
def QbB (prog:Program) (w:World):PySem.KeyKind prog w Key where
 is:=QhT
 hash:=QwC w
 inj:=fun v a b ha hb=>by
  rcases QbV ha with ⟨i,t,rfl,rfl⟩ | ⟨x,t,rfl,rfl⟩
  ·rcases QbV hb with ⟨j,u,rfl,e⟩ | ⟨y,u,rfl,e⟩
   ·injection e with e1 _; rw [e1]
   ·exact nomatch e
  ·rcases QbV hb with ⟨j,u,rfl,e⟩ | ⟨y,u,rfl,e⟩
   ·exact nomatch e
   ·injection e with e1 _; rw [e1]
 byValue:=fun k v h=>by
  rcases QbV h with ⟨i,t,rfl,rfl⟩ | ⟨x,t,rfl,rfl⟩ <;> rfl
 pyHash:=fun hv h=>by
  rcases QbV hv with ⟨i,t,rfl,rfl⟩ | ⟨x,t,rfl,rfl⟩
  ·exact wpAny_pyHash_int h
  ·exact wpAny_pyHash_str h
 eqBool:=fun hu hv h=>by
  rcases QbV hu with ⟨i,t,rfl,rfl⟩ | ⟨x,t,rfl,rfl⟩
  ·rcases QbV hv with ⟨j,u,rfl,rfl⟩ | ⟨y,u,rfl,rfl⟩
   ·rw [QuD] at h; exact wpAny_eqBool_int h
   ·rw [QsK] at h; exact SeqAt.EqAt.int_str i t y u _ _ _ _ h
  ·rcases QbV hv with ⟨j,u,rfl,rfl⟩ | ⟨y,u,rfl,rfl⟩
   ·rw [Qtl] at h; exact SeqAt.EqAt.str_int x t j u _ _ _ _ h
   ·rw [Qt0] at h; exact wpAny_eqBool_str h
 «strs»:=fun k x t v h=>by
  rcases QbV h with ⟨i,u,rfl,e⟩ | ⟨y,u,rfl,e⟩
  ·exact nomatch e
  ·injection e with e1 _
   subst e1
   cases v <;> rfl
theorem QlR (prog:Program) (w:World) (i:Int) (t:Tok):(QbB prog w).is (.inl i) (.int i t)=true:=Qof i t
theorem QlV (prog:Program) (w:World) (x:Str) (t:Tok):(QbB prog w).is (.inr x) (.str x t)=true:=QoZ x t
inductive V where
 | non | bl (b:Bool) | int (i:Int) | str (x:Str) | byt (b:Array UInt8) | flt (b:UInt64) | ref (a:Addr) | ty (n:String)
 deriving DecidableEq
def RelV:V→Value→Prop
 | .non,u=>u=Value.none
 | .bl b,u=>u=Value.bool b
 | .int i,u=>∃t,u=Value.int i t
 | .str x,u=>∃t,u=Value.str x t
 | .byt b,u=>∃t,u=Value.bytes b t
 | .flt b,u=>∃t,u=Value.float b t
 | .ref a,u=>u=Value.ref a
 | .ty n,u=>u=Value.type n
abbrev QaA:List V→List Value→Prop:=Paired RelV
theorem QaA.length {xs:List V}{us:List Value} (r:QaA xs us):xs.length=us.length:=Paired.length r
theorem QaA.get:∀{xs:List V}{us:List Value}{i:Nat}{x:V},QaA xs us→xs[i]? = some x→∃u,us[i]? = some u∧RelV x u
 | _,_,_,_,.nil,e=>by simp at e
 | _,_,0,_,.cons r _,e=>by simp at e; subst e; exact ⟨_,rfl,r⟩
 | _,_,i+1,x,.cons _ t,e=>by
  obtain ⟨u,h1,h2⟩:=QaA.get (i:=i) (x:=x) t (by simpa using e);exact ⟨u,by simpa using h1,h2⟩
theorem QaA.set {x:V}{u:Value} (r:RelV x u):∀{xs:List V}{us:List Value} (i:Nat),QaA xs us→QaA (xs.set i x) (us.set i u)
 | _,_,_,.nil=>.nil
 | _,_,0,.cons _ t=>.cons r t
 | _,_,i+1,.cons q t=>.cons q (QaA.set r i t)
theorem QaA.append:∀{xs ys:List V}{us ws:List Value},QaA xs us→QaA ys ws→QaA (xs++ys) (us++ws)
 | _,_,_,_,.nil,s=>s
 | _,_,_,_,.cons r t,s=>.cons r (QaA.append t s)
theorem QaA.take:∀{xs:List V}{us:List Value} (n:Nat),QaA xs us→QaA (xs.take n) (us.take n)
 | _,_,0,_=>.nil
 | _,_,_+1,.nil=>.nil
 | _,_,n+1,.cons r t=>.cons r (QaA.take n t)
theorem QaA.drop:∀{xs:List V}{us:List Value} (n:Nat),QaA xs us→QaA (xs.drop n) (us.drop n)
 | _,_,0,r=>r
 | _,_,_+1,.nil=>.nil
 | _,_,n+1,.cons _ t=>QaA.drop n t
theorem QaA.none_of:∀{xs:List V}{us:List Value}{i:Nat},QaA xs us→xs[i]? = none→us[i]? = none:=fun {xs us i} r e=>by
 have h1:=r.length;have h2:xs.length≤i:=List.getElem?_eq_none_iff.mp e;exact List.getElem?_eq_none_iff.mpr (by omega)
def QcJ:Option V→Option Value→Prop
 | some v,some u=>RelV v u
 | none,none=>True
 | _,_=>False
def KV {κ:Type}:List (κ×V)→List (κ×Value)→Prop:=Paired fun (p:κ×V) (q:κ×Value)=>p.1=q.1∧RelV p.2 q.2
def kV:Key→V
 | .inl i=>.int i
 | .inr x=>.str x
inductive HO where
  | lst (xs:List V)
  | tup (xs:List V)
  | dK (kvs:List (Key×V)) | dT (kvs:List (List Key×V))
  | set (S:Int→Bool) (n:Nat)
  | ins (C dx:Addr) (fs:List (Str×V))
  | own (x:Addr)
  | xd (fs:List (Str×V))
  | met (f x:Addr)
  | rng (lo hi:Int)
  | frz (o:Obj) (u:HO)
  | tbl (ps:Array Value)
  | ext (φ:Heap→Prop)
abbrev Hp:=Addr→Option HO
def upd (H:Hp) (a:Addr) (o:HO):Hp:=fun b=>if b=a then some o else H b
theorem QaC {H:Hp}{a:Addr}{o:HO}:upd H a o a=some o:=by unfold upd; rw [if_pos rfl]
theorem Qaj {H:Hp}{a b:Addr}{o:HO} (h:b≠a):upd H a o b=H b:=by unfold upd; rw [if_neg h]
theorem Qau {H:Hp}{a b:Addr}{o:HO} (h:H a=some o) (h':H b=none):a≠b:=by
 intro e; subst e; rw [h] at h'; cases h'
section
variable (P:Program) (w:World)
def Qbi (H:Hp) (h:Heap) (a:Addr):HO→Prop
 | .lst xs=>xs.length≤sizeLine∧∃(its:List Value) (n:Nat),QaA xs its∧h.get? a=some { cls:=.type "list",data:=.seq its.toArray n }
 | .tup xs=>xs.length≤sizeLine∧∃its:List Value,QaA xs its∧IsTup h a its.toArray
 | .dK kvs=>kvs.length≤sizeLine∧(a == sysModules)=false∧∃vs,KV kvs vs∧h.DictOf (QbB P w) a vs
 | .dT kvs=>kvs.length≤sizeLine∧(a == sysModules)=false∧∃xs:List (List Key×Addr×Value),
   Paired (fun (p:List Key×V) (q:List Key×Addr×Value)=>p.1=q.1∧H q.2.1=some (.tup (p.1.map kV))∧RelV p.2 q.2.2) kvs xs ∧
   ∃o es ep,h.get? a=some o∧o.ExactDict∧o.data = .dict es ep∧es.toList=xs.map (entryOfKey (tupleKind (QbB P w)))∧(xs.map (·.1)).Nodup
 | .set S n=>h.SetOf (intKind P w) a S n
 | .ins C dx fs=>H dx=some (.own a)∧fs.length≤1000∧dx≠a∧h.get? a=some (PySem.W.instObj C dx) ∧
   ∃mA,h.Ns1 dx mA∧(∀f,QcJ (fs.lookup f) (mA f))∧PySem.Within mA (fs.map (·.1))
 | .own _=>∃o,h.get? a=some o
 | .xd fs=>∃mA,h.Ns1 a mA∧∀f,QcJ (fs.lookup f) (mA f)
 | .rng lo hi=>∃t u v,h.get? a=some { cls:=.type "range",data:=.fields #[.int lo t,.int hi u,.int 1 v] }
 | .frz o u=>h.get? a=some o∧Qbi H h a u
 | .tbl ps=>h.get? a=some { cls:=.none,data:=.fields ps }
 | .met f x=>h.get? a=some (PySem.W.methodObj (.ref f) (.ref x))
 | .ext φ=>φ h∧(∃o,h.get? a=some o)∧∀h1 h2:Heap,φ h1→(∀o,h1.get? a=some o→h2.get? a=some o)→φ h2
def HOk (H:Hp) (h:Heap):Prop:=∀a o,H a=some o→Qbi P w H h a o
end
section
variable {P:Program}{w:World}{H H':Hp}{h h':Heap}{a:Addr}{o:HO}
theorem Qbi.lt (x:Qbi P w H h a o):a < h.objs.size:=by
 cases o with
 | lst xs=>obtain ⟨_,_,_,_,e⟩:=x; exact zd e
 | tup xs=>obtain ⟨_,_,_,p⟩:=x; exact p.lt
 | dK kvs=>obtain ⟨_,_,_,_,o,_,_,e,_⟩:=x; exact zd e
 | dT kvs=>obtain ⟨_,_,_,_,o,_,_,e,_⟩:=x; exact zd e
 | set S n=>obtain ⟨o,_,_,_,e,_⟩:=x; exact zd e
 | ins C dx fs=>obtain ⟨_,_,_,e,_⟩:=x; exact zd e
 | own y=>obtain ⟨_,e⟩:=x; exact zd e
 | xd fs=>obtain ⟨_,⟨_,_,_,e,_⟩,_⟩:=x; exact zd e
 | rng lo hi=>obtain ⟨_,_,_,e⟩:=x; exact zd e
 | frz ob u=>obtain ⟨e,_⟩:=x; exact zd e
 | tbl ps=>exact zd (show h.get? a=some _ from x)
 | met f y=>exact zd (show h.get? a=some _ from x)
 | ext φ=>obtain ⟨_,⟨_,e⟩,_⟩:=x; exact zd e
theorem Paired.mapP {α β:Type}{F G:α→β→Prop}:∀{l₁:List α}{l₂:List β},Paired F l₁ l₂→(∀a b,F a b→G a b)→Paired G l₁ l₂
 | _,_,.nil,_=>.nil
 | _,_,.cons r t,f=>.cons (f _ _ r) (Paired.mapP t f)
theorem Qbi.stay (x:Qbi P w H h a o) (k:∀b u,(b=a∨H b=some (.own a))→h.get? b=some u→h'.get? b=some u)
  (ho:∀b,H b=some (.own a)→H' b=some (.own a)) (ht:∀b xs,H b=some (.tup xs)→H' b=some (.tup xs)):Qbi P w H' h' a o:=by
 induction o with
 | lst xs=>obtain ⟨z,its,n,r,e⟩:=x; exact ⟨z,its,n,r,k _ _ (.inl rfl) e⟩
 | tup xs=>obtain ⟨z,its,r,ob,e,c⟩:=x; exact ⟨z,its,r,ob,k _ _ (.inl rfl) e,c⟩
 | dK kvs=>obtain ⟨z,y,vs,r,ob,es,ep,e,c⟩:=x; exact ⟨z,y,vs,r,ob,es,ep,k _ _ (.inl rfl) e,c⟩
 | dT kvs =>
  obtain ⟨z,y,xs,r,ob,es,ep,e,c⟩:=x;exact ⟨z,y,xs,Paired.mapP r fun p q z=>⟨z.1,ht _ _ z.2.1,z.2.2⟩,ob,es,ep,k _ _ (.inl rfl) e,c⟩
 | set S n=>obtain ⟨ob,es,ep,t,e,c⟩:=x; exact ⟨ob,es,ep,t,k _ _ (.inl rfl) e,c⟩
 | ins C dx fs =>
  obtain ⟨d,z,ne,e,mA,⟨od,es,ep,e2,c⟩,r⟩:=x;exact ⟨ho _ d,z,ne,k _ _ (.inl rfl) e,mA,⟨od,es,ep,k _ _ (.inr d) e2,c⟩,r⟩
 | own y=>obtain ⟨ob,e⟩:=x; exact ⟨ob,k _ _ (.inl rfl) e⟩
 | xd fs=>obtain ⟨mA,⟨od,es,ep,e,c⟩,r⟩:=x; exact ⟨mA,⟨od,es,ep,k _ _ (.inl rfl) e,c⟩,r⟩
 | rng lo hi=>obtain ⟨t,u,v,e⟩:=x; exact ⟨t,u,v,k _ _ (.inl rfl) e⟩
 | frz ob u ih=>obtain ⟨e,q⟩:=x; exact ⟨k _ _ (.inl rfl) e,ih q⟩
 | tbl ps =>
  have e:h.get? a=some { cls:=.none,data:=.fields ps }:=x;show h'.get? a=some { cls:=.none,data:=.fields ps };exact k a _ (.inl rfl) e
 | met f y =>
  have e:h.get? a=some (PySem.W.methodObj (.ref f) (.ref y)):=x;show h'.get? a=some (PySem.W.methodObj (.ref f) (.ref y));exact k a _ (.inl rfl) e
 | ext φ=>obtain ⟨p,⟨o,e⟩,st⟩:=x; exact ⟨st _ _ p fun o q=>k _ _ (.inl rfl) q,⟨o,k _ _ (.inl rfl) e⟩,st⟩
theorem HOk.lt (x:HOk P w H h) (e:H a=some o):a < h.objs.size:=(x a o e).lt
theorem HOk.fresh (x:HOk P w H h) (e:h.objs.size≤a):H a=none:=by
 cases q:H a with
 | none=>rfl
 | some u=>exact absurd (zv (x.lt q) e) (zI _)
theorem HOk.kept (x:HOk P w H h) (k:∀b u,h.get? b=some u→h'.get? b=some u):HOk P w H h':=fun a o e =>
 (x a o e).stay (fun b u _ q=>k b u q) (fun _ q=>q) fun _ _ q=>q
theorem HOk.laid (x:HOk P w H h) (k:∀b u,h.get? b=some u→h'.get? b=some u) (hp:h.objs.size≤a) (new:Qbi P w (upd H a o) h' a o):HOk P w (upd H a o) h':=fun b u e=>by
 have hn:=x.fresh hp
 by_cases hb:b=a
 ·subst hb; rw [QaC] at e; cases e; exact new
 ·rw [Qaj hb] at e
  exact (x b u e).stay (fun c v _ q=>k c v q) (fun c q=>by rw [Qaj (Qau q hn)]; exact q) fun c xs q=>by rw [Qaj (Qau q hn)]; exact q
end
def Rd (H:Hp) (a:Addr) (u:HO):Prop:=H a=some u∨∃o,H a=some (.frz o u)
theorem Rd.of {H:Hp}{a:Addr}{u:HO} (h:H a=some u):Rd H a u:=.inl h
theorem Rd.ok {P:Program}{w:World}{H:Hp}{h:Heap}{a:Addr}{u:HO} (r:Rd H a u) (x:HOk P w H h):Qbi P w H h a u:=by
 rcases r with r | ⟨o,r⟩
 ·exact x a u r
 ·obtain ⟨_,q⟩:=x a _ r;exact q
def Mut:Option HO→Prop
 | some (.lst _)=>True
 | some (.dK _)=>True
 | some (.dT _)=>True
 | some (.set _ _)=>True
 | some (.ins _ _ _)=>True
 | some (.ext _)=>True
 | _=>False
section
variable {P:Program}{w:World}{H:Hp}{h h':Heap}{x e:Addr}{o':HO}
theorem HOk.write (ok:HOk P w H h) (mu:Mut (H x)) (he:e=x∨H e=some (.own x)) (k:∀b u,b≠e→h.get? b=some u→h'.get? b=some u) (heo:∃u,h'.get? e=some u)
  (new:Qbi P w (upd H x o') h' x o'):HOk P w (upd H x o') h':=fun b u q=>by
 have nown:∀c y,H c=some (.own y)→c≠x:=fun c y r z=>by subst z; rw [r] at mu; exact mu
 have ntup:∀c xs,H c=some (.tup xs)→c≠x:=fun c xs r z=>by subst z; rw [r] at mu; exact mu
 by_cases hb:b=x
 ·subst hb; rw [QaC] at q; cases q; exact new
 ·rw [Qaj hb] at q
  by_cases hbe:b=e
  ·have q':H b=some (.own x):=by
    rcases he with z | z
    ·exact absurd (hbe.trans z) hb
    ·rw [hbe]; exact z
   rw [q] at q'; cases q';obtain ⟨v,hv⟩:=heo;exact ⟨v,by rw [hbe]; exact hv⟩
  ·refine (ok b u q).stay (fun c v hc r=>k c v ?_ r) (fun c r=>by rw [Qaj (nown c b r)]; exact r) fun c xs r=>by rw [Qaj (ntup c xs r)]; exact r
   rcases hc with rfl | hc
   ·exact hbe
   ·rintro rfl
    rcases he with z | z
    ·exact nown c b hc z
    ·rw [hc] at z; cases z; exact hb rfl
end
structure Un (fs ex:List Addr) (H H':Hp) (h h':Heap):Prop where
 keep:∀b o,h.get? b=some o→H b=none→b∉fs→b∉ex→h'.get? b=some o
 slot:∀b o,h.get? b=some o→H b=none→b∈fs→b∉ex→∃sl,h'.get? b=some { o with slots:=sl }
 free:∀b o,h.get? b=some o→H b=none→b∉ex→H' b=none
 there:∀b o,h.get? b=some o→b∉ex→∃o',h'.get? b=some o'
 tups:∀b xs,H b=some (.tup xs)→H' b=some (.tup xs)
 frzs:∀b o u,H b=some (.frz o u)→H' b=some (.frz o u)
 tbls:∀b ps,H b=some (.tbl ps)→∃more,H' b=some (.tbl (ps++more))
section
variable {fs fs' ex ex':List Addr}{H H1 H2:Hp}{h h1 h2 h':Heap}{a x e:Addr}{o:HO}
theorem Un.any (u:Un fs ex H H1 h h1) {b:Addr}{ob:Obj} (q:h.get? b=some ob) (n:H b=none) (hx:b∉ex):∃sl,h1.get? b=some { ob with slots:=sl }:=by
 by_cases hb:b∈fs
 ·exact u.slot b ob q n hb hx
 ·exact ⟨ob.slots,u.keep b ob q n hb hx⟩
theorem Un.trans (a:Un fs ex H H1 h h1) (b:Un fs ex H1 H2 h1 h2):Un fs ex H H2 h h2 where
 keep:=fun c ob q n hc hx=>b.keep c ob (a.keep c ob q n hc hx) (a.free c ob q n hx) hc hx
 slot:=fun c ob q n hc hx=>by
  obtain ⟨sl,e1⟩:=a.slot c ob q n hc hx;obtain ⟨sl',e2⟩:=b.slot c _ e1 (a.free c ob q n hx) hc hx;exact ⟨sl',e2⟩
 free:=fun c ob q n hx=>by
  obtain ⟨o',e1⟩:=a.there c ob q hx;exact b.free c o' e1 (a.free c ob q n hx) hx
 there:=fun c ob q hx=>by
  obtain ⟨o',e1⟩:=a.there c ob q hx;exact b.there c o' e1 hx
 tups:=fun c xs q=>b.tups c xs (a.tups c xs q)
 frzs:=fun c ob xs q=>b.frzs c ob xs (a.frzs c ob xs q)
 tbls:=fun c ps q=>by
  obtain ⟨m1,e1⟩:=a.tbls c ps q;obtain ⟨m2,e2⟩:=b.tbls c _ e1;exact ⟨m1++m2,by rw [e2,Array.append_assoc]⟩
theorem Un.kept (k:∀b u,h.get? b=some u→h'.get? b=some u):Un fs ex H H h h' :=
 ⟨fun b ob q _ _ _=>k b ob q,fun b ob q _ _ _=>⟨ob.slots,k b ob q⟩,fun _ _ _ n _=>n,fun b ob q _=>⟨ob,k b ob q⟩,fun _ _ q=>q,fun _ _ _ q=>q,fun _ ps q=>⟨#[],by rw [q]; simp⟩⟩
theorem Un.refl:Un fs ex H H h h:=Un.kept fun _ _ q=>q
theorem Un.laid (k:∀b u,h.get? b=some u→h'.get? b=some u) (hp:h.objs.size≤a) (hn:H a=none):Un fs ex H (upd H a o) h h' where
 keep:=fun b u q _ _ _=>k b u q
 slot:=fun b u q _ _ _=>⟨u.slots,k b u q⟩
 free:=fun b u q n _=>by rw [Qaj (zl (zv (zd q) hp))]; exact n
 there:=fun b u q _=>⟨u,k b u q⟩
 tups:=fun b xs q=>by rw [Qaj (Qau q hn)]; exact q
 frzs:=fun b u xs q=>by rw [Qaj (Qau q hn)]; exact q
 tbls:=fun b ps q=>⟨#[],by rw [Qaj (Qau q hn),q]; simp⟩
theorem Un.write (mu:Mut (H x)) (he:e=x∨H e=some (.own x)) (k:∀b u,b≠e→h.get? b=some u→h'.get? b=some u) (heo:∃u,h'.get? e=some u):Un fs ex H (upd H x o) h h':=by
 have hx:∀b,H b=none→b≠x:=fun b n z=>by subst z; rw [n] at mu; exact mu
 have hb:∀b,H b=none→b≠e:=fun b n z=>by
  subst z
  rcases he with r | r
  ·exact hx b n r
  ·rw [n] at r; cases r
 have hm:∀b u,H b=some u→¬Mut (some u)→b≠x:=fun b u q nm z=>by subst z; rw [q] at mu; exact nm mu
 refine ⟨fun b u q n _ _=>k b u (hb b n) q,fun b u q n _ _=>⟨u.slots,k b u (hb b n) q⟩,fun b u q n _=>by rw [Qaj (hx b n)]; exact n,fun b u q _=>?_,
  fun b xs q=>by rw [Qaj (hm b _ q fun z=>z)]; exact q,fun b u xs q=>by rw [Qaj (hm b _ q fun z=>z)]; exact q,fun b ps q=>⟨#[],by rw [Qaj (hm b _ q fun z=>z),q]; simp⟩⟩
 by_cases hbe:b=e
 ·subst hbe; exact heo
 ·exact ⟨u,k b u hbe q⟩
theorem Un.mono (u:Un fs ex H H1 h h1) (hs:∀b∈fs,b∈fs') (hx:∀b∈ex,b∈ex'):Un fs' ex' H H1 h h1 :=
 ⟨fun b ob q n hb he=>u.keep b ob q n (fun z=>hb (hs b z)) fun z=>he (hx b z),fun _ _ q n _ he=>u.any q n fun z=>he (hx _ z),fun b ob q n he=>u.free b ob q n fun z=>he (hx b z),fun b ob q he=>u.there b ob q fun z=>he (hx b z),u.tups,u.frzs,u.tbls⟩
end
def trk (h:Heap) (H:Hp):List Addr:=(List.range h.objs.size).filter fun a=>(H a).isSome
def QdK (h:Heap) (H:Hp):Heap:=PySem.W.hideAll h (trk h H)
theorem QjX (h:Heap) (H:Hp):(QdK h H).objs.size=h.objs.size:=PySem.W.hideAll_size _ _
theorem Qlp {h:Heap}{H:Hp}{b:Addr}{o:Obj} (e:h.get? b=some o) (n:H b=none):(QdK h H).get? b=some o :=
 PySem.W.hideAll_get _ e fun hm=>by
  have q:(H b).isSome=true:=(List.mem_filter.mp hm).2;rw [n] at q; simp at q
theorem Ql4 {h:Heap}{H:Hp}{b:Addr}{o:Obj} (e:(QdK h H).get? b=some o):h.get? b=some o∧H b=none:=by
 have e':h.get? b=some o:=PySem.W.of_hideAll (trk h H) e;refine ⟨e',?_⟩
 cases q:H b with
 | none=>rfl
 | some x =>
  have hm:b∈trk h H:=List.mem_filter.mpr ⟨List.mem_range.mpr (zd e'),by simp [q]⟩;have z:(QdK h H).get? b=none:=PySem.W.hideAll_none (trk h H) hm;rw [z] at e; cases e
def QsA (g h:Heap) (L:Addr):List (Addr×Obj):=(List.range h.objs.size).filterMap fun a=>if a=L∨(g.get? a).isSome=true then none else (h.get? a).map fun o=>(a,o)
def rest (g h:Heap) (L d:Addr):List (Addr×Obj):=(QsA g h L).filter fun p=>decide (p.1≠d)
structure Mod (K:PySem.W.Frag) (mg:Str→Option Value) (base:Heap):Prop where
 kin:K.In base
 glob:base.Ns mainGlobals mg
 blt:∃mb,base.Ns builtinsNs mb∧∀x:Str,x≠"__name__"→mb x=bootBuiltins x
 nolimit:base.NoLimit
structure Cx where
 prog:Program
 w:World
 K:PySem.W.Frag
 mg:Str→Option Value
 base:Heap
 A:Around
 N:List Str
 s₀:Shared
 H₀:Hp
 env:Env
 outer:List Env
 stack:List Env
 ex:List Addr
 fn:Str→Bool
 calm:Bool
 pn:List (Addr×Obj)
 xe:Value→Shared→Prop
def frs (l:List Env):List Addr:=l.filterMap (·.frame)
abbrev Cx.fs (X:Cx):List Addr:=frs X.outer
def Vis (sc:Scope) (x:Str):Prop:=sc.names.lookup x=some .local∨sc.names.lookup x=some .cell∨sc.names.lookup x=some .free
def Loc (sc:Scope) (x:Str):Prop:=sc.names.lookup x=some .local∨sc.names.lookup x=some .cell
def Look (env:Env) (h:Heap) (m:Str→Option Value) (x:Str) (u:Value):Prop :=
 (env.kindOf x=some .local∧m x=some u)∨((env.kindOf x=some .cell∨env.kindOf x=some .free)∧∃c,env.cells.lookup x=some c∧h.IsCell c (some u))
structure Cx.Ok (X:Cx):Prop where
 mod:Mod X.K X.mg X.base
 kind:X.env.scope.kind = .function
 glob:X.env.globals=mainGlobals
 blt:X.env.builtins=builtinsNs
 above:X.s₀.heap.objs.size≤X.env.locals
 inj:∀x y c,X.env.cells.lookup x=some c→X.env.cells.lookup y=some c→x=y
 has:∀x,(X.env.kindOf x=some .cell∨X.env.kindOf x=some .free)→∃c,X.env.cells.lookup x=some c
 cab:∀x c,X.fn x=true→X.env.cells.lookup x=some c→X.s₀.heap.objs.size≤c
 hd:X.calm=true→X.A.handled=none
 frames:X.A.frames=some X.stack
 stk:X.stack=X.outer∨(X.stack=X.env::X.outer∧X.env.frame=some X.env.locals)
 exf:∀b∈X.ex,b≠X.env.locals∧∀x c,X.env.cells.lookup x=some c→c≠b
 bs:∀b o,X.base.get? b=some o→X.s₀.heap.get? b=some o∧X.H₀ b=none
 bsz:X.base.objs.size≤X.s₀.heap.objs.size
 noex:∀b o,X.base.get? b=some o→b∉X.ex
 exfs:∀b∈X.ex,b∉X.fs
 funs:X.s₀.heap.FunFrames X.base X.outer
 frf:∀b∈X.fs,X.H₀ b=none
structure Inv (X:Cx) (pins:List (Addr×Obj)) (σ:List (Option V)) (H:Hp) (s:Shared):Prop where
 ok:X.Ok
 os:s.os=X.s₀.os
 bare:AllBare s.gens
 base:Un X.fs X.ex X.H₀ H X.s₀.heap s.heap
 loc:∃m,s.heap.Ns X.env.locals m∧∀(i:Nat) (x:Str) (v:V),X.N[i]? = some x→σ[i]? = some (some v)→Vis X.env.scope x→∃u,RelV v u∧Look X.env s.heap m x u
 cell:∀x c,X.env.cells.lookup x=some c→∃v,s.heap.IsCell c v
 free:H X.env.locals=none
 freeC:∀x c,X.env.cells.lookup x=some c→H c=none
 pin:∀p∈X.pn++pins,s.heap.get? p.1=some p.2∧H p.1=none∧p.1≠X.env.locals∧p.1∉X.fs∧∀v,p.2.data≠.cell v
 hok:HOk X.prog X.w H s.heap
 len:σ.length=X.N.length
section
variable {X:Cx}{pins:List (Addr×Obj)}{σ:List (Option V)}{H H':Hp}{s:Shared}{h':Heap}
theorem Cx.Ok.nofr (ok:X.Ok) {b:Addr}{o:Obj} (e:X.base.get? b=some o):b∉X.fs:=fun hb=>by
 have:=(ok.funs.mem hb).1
 rw [e] at this; cases this
theorem Inv.bs (I:Inv X pins σ H s):∀b o,X.base.get? b=some o→s.heap.get? b=some o∧H b=none:=fun b o e =>
 ⟨I.base.keep b o (I.ok.bs b o e).1 (I.ok.bs b o e).2 (I.ok.nofr e) (I.ok.noex b o e),I.base.free b o (I.ok.bs b o e).1 (I.ok.bs b o e).2 (I.ok.noex b o e)⟩
theorem Inv.bk (I:Inv X pins σ H s):∀b o,X.base.get? b=some o→s.heap.get? b=some o:=fun b o e=>(I.bs b o e).1
theorem Inv.mod (I:Inv X pins σ H s):Mod X.K X.mg X.base:=I.ok.mod
theorem Inv.kIn (I:Inv X pins σ H s):X.K.In s.heap:=I.ok.mod.kin.keeps I.bk
theorem Inv.nolimit (I:Inv X pins σ H s):s.heap.NoLimit:=I.ok.mod.nolimit.keeps I.bk
theorem Inv.fr (I:Inv X pins σ H s):∃m,Fr X.base X.env.locals s.heap m :=
 let ⟨m,hn,_⟩:=I.loc
 ⟨m,hn,I.bk,zu I.ok.bsz I.ok.above⟩
theorem Inv.lt (I:Inv X pins σ H s):X.env.locals < s.heap.objs.size:=let ⟨_,hn,_⟩:=I.loc; hn.lt
theorem Inv.sz (I:Inv X pins σ H s):X.s₀.heap.objs.size≤s.heap.objs.size:=zu I.ok.above (Nat.le_of_lt I.lt)
theorem Inv.nofs (I:Inv X pins σ H s) {a:Addr} (h:s.heap.objs.size≤a):a∉X.fs:=fun hb=>by
 obtain ⟨_,o,ho,_⟩:=I.ok.funs.mem hb;exact absurd (zv (zd ho) (zu I.sz h)) (zI _)
theorem Inv.cne (I:Inv X pins σ H s):∀x c,X.env.cells.lookup x=some c→c≠X.env.locals:=fun x c e z=>by
 obtain ⟨v,o,ho,hd⟩:=I.cell x c e;obtain ⟨m,⟨o',es,ep,ho',hd',_⟩,_⟩:=I.loc;rw [z,ho'] at ho; cases ho; rw [hd'] at hd; cases hd
theorem Inv.funs (I:Inv X pins σ H s):s.heap.FunFrames X.base X.outer:=by
 have all:∀(l:List Env),(∀b∈frs l,b∈X.fs)→X.s₀.heap.FunFrames X.base l→s.heap.FunFrames X.base l:=by
  intro l
  induction l with
  | nil=>intro _ _; trivial
  | cons env r ih =>
   intro hs hl;obtain ⟨hk,⟨L,o,hf,hn,ho,hd⟩,hr⟩:=hl;have hL:L∈X.fs:=hs L (by unfold frs; rw [List.filterMap_cons,hf]; exact zx)
   obtain ⟨sl,e⟩:=I.base.slot L o ho (I.ok.frf L hL) hL fun z=>I.ok.exfs L z hL
   exact ⟨hk,⟨L,_,hf,hn,e,hd⟩,ih (fun b hb=>hs b (by unfold frs; rw [List.filterMap_cons,hf]; exact zw _ hb)) hr⟩
 exact all X.outer (fun _ hb=>hb) I.ok.funs
theorem Inv.stack (I:Inv X pins σ H s):s.heap.FunFrames X.base X.stack:=by
 rcases I.ok.stk with e | ⟨e,hf⟩
 ·rw [e]; exact I.funs
 ·rw [e];obtain ⟨m,hn,_⟩:=I.loc;refine .cons (by rw [I.ok.kind]; decide) hf hn ?_ I.funs;exact Heap.get?_none_of_le (zu I.ok.bsz I.ok.above)
theorem Inv.stkSub (I:Inv X pins σ H s):∀b∈frs X.stack,b∈X.env.locals::X.fs:=fun b hb=>by
 rcases I.ok.stk with e | ⟨e,hf⟩
 ·rw [e] at hb; exact zw _ hb
 ·rw [e] at hb;unfold frs at hb;rw [List.filterMap_cons,hf] at hb;exact hb
theorem Inv.stkFree (I:Inv X pins σ H s):∀b∈frs X.stack,H b=none:=fun b hb=>by
 rcases zk.mp (I.stkSub b hb) with e | hb
 ·rw [e]; exact I.free
 ·obtain ⟨_,o,ho,_⟩:=I.ok.funs.mem hb
  exact I.base.free b o ho (I.ok.frf b hb) fun z=>I.ok.exfs b z hb
theorem Inv.step {g':Array GenState}{t':Nat}{d':Drawn}{ch:List Addr} (I:Inv X pins σ H s)
  (hch:∀b∈ch,(b∈X.ex∨X.s₀.heap.objs.size≤b)∧b≠X.env.locals∧(∀x c,X.env.cells.lookup x=some c→c≠b)∧∀p∈X.pn++pins,p.1≠b)
  (keep:∀b o,b≠X.env.locals→b∉X.fs→b∉ch→s.heap.get? b=some o→H b=none→h'.get? b=some o)
  (slot:∀b o,b≠X.env.locals→b∈X.fs→b∉ch→s.heap.get? b=some o→H b=none→∃sl,h'.get? b=some { o with slots:=sl }) (free:∀b o,b∉ch→s.heap.get? b=some o→H b=none→H' b=none)
  (there:∀b o,b∉ch→s.heap.get? b=some o→∃o',h'.get? b=some o')
  (tups:∀b xs,H b=some (.tup xs)→H' b=some (.tup xs)) (frzs:∀b o u,H b=some (.frz o u)→H' b=some (.frz o u)) (tbls:∀b ps,H b=some (.tbl ps)→∃more,H' b=some (.tbl (ps++more)))
  (ns:∀m,s.heap.Ns X.env.locals m→h'.Ns X.env.locals m) (hok:HOk X.prog X.w H' h') (hg:AllBare g') :
  Inv X pins σ H' { s with heap:=h',gens:=g',drawn:=d',toks:=t' }:=by
 have neL:∀b o,X.s₀.heap.get? b=some o→b≠X.env.locals:=fun b o e=>zl (zv (zd e) I.ok.above)
 have neC:∀b o,X.s₀.heap.get? b=some o→b∉X.ex→b∉ch:=fun b o e hx hb=>by
  rcases (hch b hb).1 with z | z
  ·exact hx z
  ·exact absurd (zv (zd e) z) (zI _)
 have cellK:∀x c,X.env.cells.lookup x=some c→∀v,s.heap.IsCell c v→h'.IsCell c v:=fun x c e v ⟨o,ho,hd⟩=>by
  have nch:c∉ch:=fun z=>(hch c z).2.2.1 x c e rfl
  by_cases hc:c∈X.fs
  ·obtain ⟨sl,q⟩:=slot c o (I.cne x c e) hc nch ho (I.freeC x c e);exact ⟨_,q,hd⟩
  ·exact ⟨o,keep c o (I.cne x c e) hc nch ho (I.freeC x c e),hd⟩
 refine ⟨I.ok,I.os,hg,⟨fun b o e n hb hx=>?_,fun b o e n hb hx=>?_,fun b o e n hx=>?_,fun b o e hx=>?_,fun b xs e=>tups b xs (I.base.tups b xs e),fun b o xs e=>frzs b o xs (I.base.frzs b o xs e),fun b ps e=>?_⟩,?_,fun x c e=>?_,?_,fun x c e=>?_,fun p hp=>?_,hok,I.len⟩
 ·exact keep b o (neL b o e) hb (neC b o e hx) (I.base.keep b o e n hb hx) (I.base.free b o e n hx)
 ·obtain ⟨sl,e1⟩:=I.base.slot b o e n hb hx;obtain ⟨sl',e2⟩:=slot b _ (neL b o e) hb (neC b o e hx) e1 (I.base.free b o e n hx);exact ⟨sl',e2⟩
 ·obtain ⟨o',e1⟩:=I.base.there b o e hx;exact free b o' (neC b o e hx) e1 (I.base.free b o e n hx)
 ·obtain ⟨o',e1⟩:=I.base.there b o e hx;exact there b o' (neC b o e hx) e1
 ·obtain ⟨m1,e1⟩:=I.base.tbls b ps e;obtain ⟨m2,e2⟩:=tbls b _ e1;exact ⟨m1++m2,by rw [e2,Array.append_assoc]⟩
 ·obtain ⟨m,hn,hl⟩:=I.loc;refine ⟨m,ns m hn,fun i x v e1 e2 e3=>?_⟩;obtain ⟨u,r,l⟩:=hl i x v e1 e2 e3;refine ⟨u,r,?_⟩
  rcases l with l | ⟨k,c,e,z⟩
  ·exact .inl l
  ·exact .inr ⟨k,c,e,cellK x c e _ z⟩
 ·obtain ⟨v,z⟩:=I.cell x c e;exact ⟨v,cellK x c e v z⟩
 ·obtain ⟨m,⟨o,_,_,ho,_⟩,_⟩:=I.loc;exact free _ o (fun z=>(hch _ z).2.1 rfl) ho I.free
 ·obtain ⟨v,o,ho,hd⟩:=I.cell x c e;exact free c o (fun z=>(hch c z).2.2.1 x c e rfl) ho (I.freeC x c e)
 ·obtain ⟨e,n,ne,nf,d⟩:=I.pin p hp
  have nch:p.1∉ch:=fun z=>(hch p.1 z).2.2.2 p hp rfl
  exact ⟨keep p.1 p.2 ne nf nch e n,free p.1 p.2 nch e n,ne,nf,d⟩
theorem Inv.un {t':Nat} (I:Inv X pins σ H s) (u:Un X.fs [] H H' s.heap h') (hok:HOk X.prog X.w H' h'):Inv X pins σ H' { s with heap:=h',toks:=t' }:=by
 obtain ⟨m,⟨o,es,ep,ho,r⟩,_⟩:=id I.loc;obtain ⟨sl,hL⟩:=u.any ho I.free (by simp)
 exact I.step (g':=s.gens) (d':=s.drawn) (ch:=[]) (fun _ z=>nomatch z) (fun b o _ hb _ e n=>u.keep b o e n hb (by simp)) (fun b o _ hb _ e n=>u.slot b o e n hb (by simp)) (fun b o _ e n=>u.free b o e n (by simp)) (fun b o _ e=>u.there b o e (by simp)) u.tups u.frzs u.tbls (fun m' hm=>by
  obtain ⟨o',es',ep',ho',r'⟩:=hm;rw [ho] at ho'; cases ho'
  exact ⟨_,es',ep',hL,r'⟩) hok I.bare
theorem Inv.call {g':Array GenState}{t':Nat}{d':Drawn}{ch:List Addr} (I:Inv X pins σ H s) (u:Un (frs X.stack) ch H H' s.heap h') (hok:HOk X.prog X.w H' h') (hg:AllBare g')
  (hch:∀b∈ch,(b∈X.ex∨X.s₀.heap.objs.size≤b)∧b≠X.env.locals∧(∀x c,X.env.cells.lookup x=some c→c≠b)∧∀p∈X.pn++pins,p.1≠b) :
  Inv X pins σ H' { s with heap:=h',gens:=g',drawn:=d',toks:=t' }:=by
 obtain ⟨m,⟨o,es,ep,ho,r⟩,_⟩:=id I.loc
 obtain ⟨sl,hL⟩:=u.any ho I.free fun z=>(hch _ z).2.1 rfl
 exact I.step (ch:=ch) hch (fun b o hL hb hc e n=>u.keep b o e n (fun z=>(zk.mp (I.stkSub b z)).elim hL hb) hc) (fun b o _ _ hc e n=>u.any e n hc) (fun b o hc e n=>u.free b o e n hc) (fun b o hc e=>u.there b o e hc) u.tups u.frzs u.tbls (fun m' hm=>by
  obtain ⟨o',es',ep',ho',r'⟩:=hm;rw [ho] at ho'; cases ho'
  exact ⟨_,es',ep',hL,r'⟩) hok hg
theorem Inv.turned {t':Nat}{it:Addr} (I:Inv X pins σ H s) (k:∀b o,b≠it→s.heap.get? b=some o→h'.get? b=some o) (hn:H it=none) (hL:it≠X.env.locals)
  (h1:it∈X.ex∨X.s₀.heap.objs.size≤it) (h2:∀x c,X.env.cells.lookup x=some c→c≠it) (h3:∀p∈X.pn++pins,p.1≠it):Inv X pins σ H { s with heap:=h',toks:=t' }:=by
 have nit:∀b u,H b=some u→b≠it:=fun b u e z=>by rw [z,hn] at e; cases e
 refine I.step (g':=s.gens) (d':=s.drawn) (ch:=[it]) (fun b hb=>?_) (fun b o _ _ hc e _=>k b o (fun z=>hc (by simp [z])) e) (fun b o _ _ hc e _=>⟨o.slots,k b o (fun z=>hc (by simp [z])) e⟩) (fun _ _ _ _ n=>n)
  (fun b o hc e=>⟨o,k b o (fun z=>hc (by simp [z])) e⟩) (fun _ _ e=>e) (fun _ _ _ e=>e) (fun b ps e=>⟨#[],by rw [e]; simp⟩) (fun m hm=>?_) (fun b u e=>?_) I.bare
 ·have e:b=it:=by simpa using hb
  subst e;exact ⟨h1,hL,h2,h3⟩
 ·obtain ⟨o,es,ep,ho,r⟩:=hm;exact ⟨o,es,ep,k _ o (Ne.symm hL) ho,r⟩
 ·refine (I.hok b u e).stay (fun c v hc q=>k c v ?_ q) (fun _ q=>q) fun _ _ q=>q
  rcases hc with z | z
  ·rw [z]; exact nit b u e
  ·exact nit c _ z
theorem Inv.tok (I:Inv X pins σ H s) (t:Nat):Inv X pins σ H { s with toks:=t }:=I.un (h':=s.heap) (t':=t) Un.refl I.hok
theorem Inv.kept {t':Nat} (I:Inv X pins σ H s) (k:∀b u,s.heap.get? b=some u→h'.get? b=some u):Inv X pins σ H { s with heap:=h',toks:=t' }:=I.un (Un.kept k) (I.hok.kept k)
theorem Inv.laid {a:Addr}{o:HO}{t':Nat} (I:Inv X pins σ H s) (k:∀b u,s.heap.get? b=some u→h'.get? b=some u) (hp:s.heap.objs.size≤a) (new:Qbi X.prog X.w (upd H a o) h' a o) :
  Inv X pins σ (upd H a o) { s with heap:=h',toks:=t' }:=I.un (Un.laid k hp (I.hok.fresh hp)) (I.hok.laid k hp new)
theorem Inv.write {x e:Addr}{o:HO}{t':Nat} (I:Inv X pins σ H s) (mu:Mut (H x)) (he:e=x∨H e=some (.own x)) (k:∀b u,b≠e→s.heap.get? b=some u→h'.get? b=some u) (heo:∃u,h'.get? e=some u)
  (new:Qbi X.prog X.w (upd H x o) h' x o):Inv X pins σ (upd H x o) { s with heap:=h',toks:=t' }:=I.un (Un.write mu he k heo) (I.hok.write mu he k heo new)
theorem Inv.pins_of {pins':List (Addr×Obj)} (I:Inv X pins σ H s) (h:∀p∈pins',s.heap.get? p.1=some p.2∧H p.1=none∧p.1≠X.env.locals∧p.1∉X.fs∧∀v,p.2.data≠.cell v):Inv X pins' σ H s :=
 ⟨I.ok,I.os,I.bare,I.base,I.loc,I.cell,I.free,I.freeC,fun p hp=>(zy.mp hp).elim (fun z=>I.pin p (List.mem_append_left _ z)) (h p),I.hok,I.len⟩
theorem Qls {N:List Str} (hN:N.Nodup) {i j:Nat}{x:Str} (a:N[i]? = some x) (b:N[j]? = some x):i=j:=by
 obtain ⟨h1,e1⟩:=zn.mp a;obtain ⟨h2,e2⟩:=zn.mp b;exact (List.getElem_inj hN).mp (e1.trans e2.symm)
theorem Qol {M:Model}{A:Around}{E:Value→Shared→Prop}{i:Nat}{x:Str}{v:V}{u:Value}{Q:Unit→Shared→Prop} (I:Inv X pins σ H s) (hN:X.N.Nodup) (hi:X.N[i]? = some x) (hx:Loc X.env.scope x) (r:RelV v u)
  (h:∀s',Inv X pins (σ.set i (some v)) H s'→(∃a,Heap.SameBut a s.heap s'.heap∧(a=X.env.locals∨X.env.cells.lookup x=some a))→Q () s') (hf:X.fn x=true∨X.env.scope.names.lookup x=some .local:=by first | exact .inl rfl | exact .inr rfl | assumption):wpAny M A (storeName X.env x u) Q E s:=by
 obtain ⟨m,hn,hl⟩:=id I.loc
 have hcls:(X.env.scope.kind == .class || (X.env.scope.kind == .module&&X.env.locals != X.env.globals))=false:=by rw [I.ok.kind]; rfl
 have hiσ:i < σ.length:=by rw [I.len]; exact (zn.mp hi).1
 have cne:=I.cne
 have tracked:∀{a:Addr}{h':Heap},(∃o,s.heap.get? a=some o∧H a=none)→Heap.SameBut a s.heap h'→HOk X.prog X.w H h':=fun {a h'} ha hs b ob e=>by
  obtain ⟨_,_,hfree⟩:=ha
  refine (I.hok b ob e).stay (fun c w' hc q=>(hs.2 c ?_).trans q) (fun _ q=>q) fun _ _ q=>q
  rintro rfl
  rcases hc with rfl | hc
  ·rw [hfree] at e; cases e
  ·rw [hfree] at hc; cases hc
 rcases hx with hk | hk
 ·refine wpAny_storeName_local hk hn (fun h' hn' hs=>?_) hcls;obtain ⟨oL,_,_,hoL,_⟩:=id hn;refine h _ ⟨I.ok,I.os,I.bare,⟨fun b o e n hb hx=>?_,fun b o e n hb hx=>?_,I.base.free,fun b o e hx=>?_,I.base.tups,I.base.frzs,I.base.tbls⟩,⟨_,hn',fun j y v' e1 e2 e3=>?_⟩,fun y c e=>?_,I.free,I.freeC,fun p hp=>?_,tracked ⟨oL,hoL,I.free⟩ hs,by simpa using I.len⟩ ⟨_,hs,.inl rfl⟩
  ·exact (hs.2 b (zl (zv (zd e) I.ok.above))).trans (I.base.keep b o e n hb hx)
  ·obtain ⟨sl,e1⟩:=I.base.slot b o e n hb hx;exact ⟨sl,(hs.2 b (zl (zv (zd e) I.ok.above))).trans e1⟩
  ·obtain ⟨o',e1⟩:=I.base.there b o e hx;exact ⟨o',(hs.2 b (zl (zv (zd e) I.ok.above))).trans e1⟩
  ·by_cases hj:j=i
   ·subst hj;rw [hi] at e1; cases e1;rw [zE hiσ] at e2;cases e2;exact ⟨u,r,.inl ⟨hk,by simp⟩⟩
   ·rw [zq (Ne.symm hj)] at e2;obtain ⟨u',r',q⟩:=hl j y v' e1 e2 e3;refine ⟨u',r',?_⟩
    rcases q with ⟨k,e⟩ | ⟨k,c,e,z⟩
    ·refine .inl ⟨k,?_⟩
     have:y≠x:=fun e=>hj (Qls hN e1 (e ▸ hi))
     simp [this,e]
    ·exact .inr ⟨k,c,e,z.sameBut hs (cne y c e)⟩
  ·obtain ⟨w',z⟩:=I.cell y c e;exact ⟨w',z.sameBut hs (cne y c e)⟩
  ·obtain ⟨e,n,ne,nf,d⟩:=I.pin p hp;exact ⟨(hs.2 p.1 ne).trans e,n,ne,nf,d⟩
 ·have hfn:X.fn x=true:=by
   rcases hf with z | z
   ·exact z
   ·rw [z] at hk; cases hk
  obtain ⟨c,hc⟩:=I.ok.has x (.inl hk);obtain ⟨w',z⟩:=I.cell x c hc;refine wpAny_storeName_cell I.ok.kind hk hc z (fun h' hc' hs=>?_);obtain ⟨oc,hoc,hocd⟩:=id z;refine h { s with heap:=h' } ⟨I.ok,I.os,I.bare,⟨fun b o e n hb hx=>?_,fun b o e n hb hx=>?_,I.base.free,fun b o e hx=>?_,I.base.tups,I.base.frzs,I.base.tbls⟩,⟨m,hn.sameBut hs (Ne.symm (cne x c hc)),fun j y v' e1 e2 e3=>?_⟩,fun y c' e=>?_,I.free,I.freeC,fun p hp=>?_,tracked ⟨oc,hoc,I.freeC x c hc⟩ hs,by simpa using I.len⟩ ⟨c,hs,.inr hc⟩
  ·exact (hs.2 b (zl (zv (zd e) (I.ok.cab x c hfn hc)))).trans (I.base.keep b o e n hb hx)
  ·obtain ⟨sl,e1⟩:=I.base.slot b o e n hb hx;exact ⟨sl,(hs.2 b (zl (zv (zd e) (I.ok.cab x c hfn hc)))).trans e1⟩
  ·obtain ⟨o',e1⟩:=I.base.there b o e hx;exact ⟨o',(hs.2 b (zl (zv (zd e) (I.ok.cab x c hfn hc)))).trans e1⟩
  ·by_cases hj:j=i
   ·subst hj;rw [hi] at e1; cases e1;rw [zE hiσ] at e2;cases e2;exact ⟨u,r,.inr ⟨.inl hk,c,hc,hc'⟩⟩
   ·rw [zq (Ne.symm hj)] at e2;obtain ⟨u',r',q⟩:=hl j y v' e1 e2 e3;refine ⟨u',r',?_⟩
    rcases q with q | ⟨k,c',e,z'⟩
    ·exact .inl q
    ·refine .inr ⟨k,c',e,z'.sameBut hs ?_⟩;rintro rfl;exact hj (Qls hN e1 (I.ok.inj _ _ _ e hc ▸ hi))
  ·by_cases hcc:c'=c
   ·subst hcc; exact ⟨_,hc'⟩
   ·obtain ⟨w2,z2⟩:=I.cell y c' e;exact ⟨w2,z2.sameBut hs hcc⟩
  ·obtain ⟨e,n,ne,nf,d⟩:=I.pin p hp;refine ⟨(hs.2 p.1 ?_).trans e,n,ne,nf,d⟩;intro q;rw [q,hoc] at e;have q':oc=p.2:=zK e;exact d w' (by rw [←q']; exact hocd)
theorem Qit {M:Model}{A:Around}{E:Value→Shared→Prop}{i:Nat}{x:Str}{v:V}{u:Value}{Q:Unit→Shared→Prop} (I:Inv X pins σ H s) (hN:X.N.Nodup) (hi:X.N[i]? = some x) (hx:Loc X.env.scope x) (r:RelV v u)
  (h:∀s',Inv X pins (σ.set i (some v)) H s'→Q () s') (hf:X.fn x=true∨X.env.scope.names.lookup x=some .local:=by first | exact .inl rfl | exact .inr rfl | assumption):wpAny M A (storeName X.env x u) Q E s :=
 Qol I hN hi hx r (fun s' I' _=>h s' I') hf
theorem Inv.call' {s':Shared}{ch:List Addr} (I:Inv X pins σ H s) (ho:s'.os=s.os) (u:Un (frs X.stack) ch H H' s.heap s'.heap) (hok:HOk X.prog X.w H' s'.heap) (hg:AllBare s'.gens)
  (hch:∀b∈ch,(b∈X.ex∨X.s₀.heap.objs.size≤b)∧b≠X.env.locals∧(∀x c,X.env.cells.lookup x=some c→c≠b)∧∀p∈X.pn++pins,p.1≠b):Inv X pins σ H' s':=by
 obtain ⟨h',g',d',t',o'⟩:=s';have e:o'=s.os:=ho;subst e;exact I.call (g':=g') (t':=t') (d':=d') u hok hg hch
end
abbrev XK:=Value→Option Addr→Hp→Prop
abbrev St:=List (Option V)
abbrev VK:=V→Hp→Prop
abbrev TE:=St→Hp→VK→Prop
abbrev TT:=St→Hp→(Bool→Hp→Prop)→Prop
abbrev TA:=St→Hp→(List V→Hp→Prop)→Prop
structure Ends where
 nx:St→Hp→Prop
 rt:VK
 bk:St→Hp→Prop:=fun _ _=>False
 ct:St→Hp→Prop:=fun _ _=>False
abbrev TS:=Ends→St→Hp→Prop
def EP (X:Cx) (pins:List (Addr×Obj)) (σ:St) (Q:VK) (u:Value) (s':Shared):Prop:=∃v H',Inv X pins σ H' s'∧RelV v u∧Q v H'
def TP (X:Cx) (pins:List (Addr×Obj)) (σ:St) (Q:Bool→Hp→Prop) (b:Bool) (s':Shared):Prop:=∃H',Inv X pins σ H' s'∧Q b H'
def AP (X:Cx) (pins:List (Addr×Obj)) (σ:St) (Q:List V→Hp→Prop) (us:List Value) (s':Shared):Prop:=∃vs H',Inv X pins σ H' s'∧QaA vs us∧Q vs H'
def SP (X:Cx) (pins:List (Addr×Obj)) (D:Ends) (f:Flow) (s':Shared):Prop :=
 match f with
 | .next=>∃σ' H',Inv X pins σ' H' s'∧D.nx σ' H'
 | .brk=>∃σ' H',Inv X pins σ' H' s'∧D.bk σ' H'
 | .cont=>∃σ' H',Inv X pins σ' H' s'∧D.ct σ' H'
 | .ret u=>∃v σ' H',Inv X pins σ' H' s'∧RelV v u∧D.rt v H'
def PE (X:Cx) (e:Expr) (t:TE):Prop :=
 ∀(pins:List (Addr×Obj)) (s:Shared) (σ:St) (H:Hp) (Q:VK),Inv X pins σ H s→t σ H Q→wpAny (model X.prog X.w) X.A (eval e X.env) (EP X pins σ Q) X.xe s
def PT (X:Cx) (e:Expr) (t:TT):Prop :=
 ∀(pins:List (Addr×Obj)) (s:Shared) (σ:St) (H:Hp) (Q:Bool→Hp→Prop),Inv X pins σ H s→t σ H Q→wpAny (model X.prog X.w) X.A (isTrue e X.env (eval e X.env)) (TP X pins σ Q) X.xe s
def PW (X:Cx) (e:Expr) (t:TT):Prop :=
 ∀(whole:Sem Value) (pins:List (Addr×Obj)) (s:Shared) (σ:St) (H:Hp) (Q:Bool→Hp→Prop),Inv X pins σ H s→t σ H Q→wpAny (model X.prog X.w) X.A (isTrue e X.env whole) (TP X pins σ Q) X.xe s
theorem PW.pt {X:Cx}{e:Expr}{t:TT} (h:PW X e t):PT X e t:=h _
def PA (X:Cx) (es:List Expr) (t:TA):Prop :=
 ∀(pos:Pos) (pins:List (Addr×Obj)) (s:Shared) (σ:St) (H:Hp) (Q:List V→Hp→Prop),Inv X pins σ H s→t σ H Q→wpAny (model X.prog X.w) X.A (spliced (backTo pos (starEach es X.env))) (AP X pins σ Q) X.xe s
def PS (X:Cx) (st:Stmt) (t:TS):Prop :=
 ∀(pins:List (Addr×Obj)) (s:Shared) (σ:St) (H:Hp) (D:Ends),Inv X pins σ H s→t D σ H→wpAny (model X.prog X.w) X.A (exec st X.env) (SP X pins D) X.xe s
def PSs (X:Cx) (st:List Stmt) (t:TS):Prop :=
 ∀(pins:List (Addr×Obj)) (s:Shared) (σ:St) (H:Hp) (D:Ends),Inv X pins σ H s→t D σ H→wpAny (model X.prog X.w) X.A (execs st X.env) (SP X pins D) X.xe s
theorem thn {α:Type}{t:Sem α}{Q Q':α→Shared→Prop}{M:Model}{A:Around}{E:Value→Shared→Prop}{s:Shared} (h:wpAny M A t Q E s) (hQ:∀a s,Q a s→Q' a s):wpAny M A t Q' E s:=zm h hQ fun _ _ x=>x
section
variable {X:Cx}
def Qwt (i:Nat):TE:=fun σ H Q=>∃v,σ[i]? = some (some v)∧Q v H
def tC (v:V):TE:=fun _ H Q=>Q v H
theorem Qet {i:Nat}{x:Str}{pos:Pos} (hN:X.N[i]? = some x) (hv:Vis X.env.scope x) (hd:(x == ("__debug__":Str))=false:=by decide) (hcd:(x == ("__classdict__":Str))=false:=by decide):PE X (.Name x pos) (Qwt i):=by
 intro pins s σ H Q I h;obtain ⟨v,e,h⟩:=h;obtain ⟨m,hn,hl⟩:=I.loc;obtain ⟨u,r,l⟩:=hl i x v hN e hv;have fin:EP X pins σ Q u s:=⟨v,H,I,r,h⟩
 rcases l with ⟨hk,hm⟩ | ⟨hk,c,hc,hcell⟩
 ·exact wpAny_Name (wpAny_loadName_local I.ok.kind hk hn hm fin) hd
 ·rcases hk with hk | hk
  ·exact wpAny_Name (wpAny_loadName_cell I.ok.kind hk hc hcell fin) hd
  ·exact wpAny_Name (wpAny_loadName_free I.ok.kind hk hc hcell fin hcd) hd
theorem Qug {i j pos}:PE X (.Constant (.int i) j pos) (tC (.int i)):=fun _ _ _ H _ I h=>wpAny_Constant_int ⟨.int i,H,I.tok _,⟨_,rfl⟩,h⟩
theorem Qvw {b j pos}:PE X (.Constant (.bool b) j pos) (tC (.bl b)):=fun _ _ _ H _ I h=>Constant_bool ⟨.bl b,H,I,rfl,h⟩
theorem Qtg {j pos}:PE X (.Constant .none j pos) (tC .non):=fun _ _ _ H _ I h=>Constant_none ⟨.non,H,I,rfl,h⟩
theorem QnQ {x j pos}:PE X (.Constant (.str x) j pos) (tC (.str x)):=fun _ _ _ H _ I h=>Calls.Constant_str ⟨.str x,H,I.tok _,⟨_,rfl⟩,h⟩
def Gl (X:Cx) (x:Str):Prop:=X.env.kindOf x=some .globalImplicit
theorem Qd3 {E:Value→Shared→Prop}{pins:List (Addr×Obj)}{s:Shared}{σ:St}{H:Hp}{x:Str}{u:Value}{pos:Pos}{Q:Value→Shared→Prop} (I:Inv X pins σ H s) (hg:Gl X x) (hm:X.mg x=some u) (h:Q u s)
  (hd:(x == ("__debug__":Str))=false:=by decide):wpAny (model X.prog X.w) X.A (eval (.Name x pos) X.env) Q E s :=
 Calls.Name_function_global I.ok.kind hg (Calls.loadGlobal_global (by rw [I.ok.glob]; exact I.mod.glob.keeps I.bk) hm h) hd
theorem Qfr {E:Value→Shared→Prop}{pins:List (Addr×Obj)}{s:Shared}{σ:St}{H:Hp}{x:Str}{u:Value}{pos:Pos}{Q:Value→Shared→Prop} (I:Inv X pins σ H s) (hg:Gl X x) (hm:X.mg x=none) (hv:bootBuiltins x=some u) (h:Q u s)
  (hn:x≠"__name__":=by decide) (hd:(x == ("__debug__":Str))=false:=by decide):wpAny (model X.prog X.w) X.A (eval (.Name x pos) X.env) Q E s:=by
 obtain ⟨mb,h1,h2⟩:=I.mod.blt;exact Calls.Name_function_global I.ok.kind hg (Calls.loadGlobal_builtin (by rw [I.ok.glob]; exact I.mod.glob.keeps I.bk) hm (by rw [I.ok.blt]; exact h1.keeps I.bk) ((h2 x hn).trans hv) h) hd
theorem Qjc {x:Str}{v:V}{u:Value}{pos:Pos} (hg:Gl X x) (hm:X.mg x=some u) (r:RelV v u) (hd:(x == ("__debug__":Str))=false:=by decide):PE X (.Name x pos) (tC v) :=
 fun _ _ _ H _ I h=>Qd3 I hg hm ⟨v,H,I,r,h⟩ hd
theorem Qme {x:Str}{v:V}{u:Value}{pos:Pos} (hg:Gl X x) (hm:X.mg x=none) (hv:bootBuiltins x=some u) (r:RelV v u) (hn:x≠"__name__":=by decide) (hd:(x == ("__debug__":Str))=false:=by decide):PE X (.Name x pos) (tC v) :=
 fun _ _ _ H _ I h=>Qfr I hg hm hv ⟨v,H,I,r,h⟩ hn hd
variable {a b:Expr}{ta tb:TE}{pos:Pos}
def PC (X:Cx) (op:CmpOp) (a b:Expr) (t:TE):Prop :=
 ∀(pins:List (Addr×Obj)) (s:Shared) (σ:St) (H:Hp) (Q:VK),Inv X pins σ H s→t σ H Q →
  wpAny (model X.prog X.w) X.A (eval a X.env) (fun v s₁=>wpAny (model X.prog X.w) X.A (eval b X.env) (fun u s₂=>wpAny (model X.prog X.w) X.A (compareOp op v u) (EP X pins σ Q) X.xe s₂) X.xe s₁) X.xe s
theorem Qlr (b:Expr) {op:CmpOp} (h:op≠.In) (h2:op≠.NotIn):behindInMarks op b=false:=by
 have e1:(op == CmpOp.In)=false:=by cases op <;> first | rfl | exact absurd rfl h
 have e2:(op == CmpOp.NotIn)=false:=by cases op <;> first | rfl | exact absurd rfl h2
 cases b <;> simp [behindInMarks,e1,e2]
def Qs8 (ta:TE):TE:=fun σ H Q=>ta σ H fun x H1=>Q (.bl (decide (x = .non))) H1
def Qrd (ta:TE):TE:=fun σ H Q=>ta σ H fun x H1=>Q (.bl (!decide (x = .non))) H1
theorem RelV.none_iff {x:V}{v:Value} (r:RelV x v):(v == Value.none)=decide (x = .non):=by
 cases x with
 | non=>cases r; rfl
 | bl _=>cases r; rfl
 | int _=>obtain ⟨t,rfl⟩:=r; rfl
 | str _=>obtain ⟨t,rfl⟩:=r; rfl
 | byt _=>obtain ⟨t,rfl⟩:=r; rfl
 | flt _=>obtain ⟨t,rfl⟩:=r; rfl
 | ref _=>cases r; rfl
 | ty _=>cases r; rfl
theorem Qoj {j pos'} (ha:PE X a ta):PC X .Is a (.Constant .none j pos') (Qs8 ta):=by
 intro pins s σ H Q I h
 refine thn (ha pins s σ H _ I h) fun v s1 ⟨x,H1,I1,r1,q1⟩=>?_
 exact Constant_none (is_none_gen ⟨.bl _,H1,I1,by rw [r1.none_iff]; rfl,q1⟩)
theorem Qrl {j pos'} (ha:PE X a ta):PC X .IsNot a (.Constant .none j pos') (Qrd ta):=by
 intro pins s σ H Q I h
 refine thn (ha pins s σ H _ I h) fun v s1 ⟨x,H1,I1,r1,q1⟩=>?_
 exact Constant_none (isnot_none_gen ⟨.bl _,H1,I1,by rw [r1.none_iff]; rfl,q1⟩)
def tB (t:TE):TT:=fun σ H Q=>t σ H fun x H1=>∃c,x = .bl c∧Q c H1
theorem Qt5 {op:CmpOp}{t:TE} (h:PC X op a b t) (h1:behindInMarks op b=false:=by first | exact Qlr _ (by decide) (by decide) | rfl):PE X (.Compare a [op] [b] pos) t:=fun pins s σ H Q I hw=>wpAny_Compare1 (h pins s σ H Q I hw) h1
theorem QoR {op:CmpOp}{t:TE} (h:PC X op a b t) (h1:behindInMarks op b=false:=by first | exact Qlr _ (by decide) (by decide) | rfl):PT X (.Compare a [op] [b] pos) (tB t):=by
 intro pins s σ H Q I hw;refine wpAny_isTrue_Compare1 (thn (h pins s σ H _ I hw) fun v s1 h1=>thn h1 fun u s2 h2=>thn h2 fun c s3 ⟨x,H1,I1,r1,q1⟩=>?_) h1;obtain ⟨d,rfl,q⟩:=q1;cases r1;exact wpAny_truthy_bool ⟨H1,I1,q⟩
variable {tA tB':TT}{rest:List Expr}
def Qs6 (t u:TT):TT:=fun σ H Q=>t σ H fun c H1=>if c=true then u σ H1 Q else Q false H1
def tOr (t u:TT):TT:=fun σ H Q=>t σ H fun c H1=>if c=true then Q true H1 else u σ H1 Q
def Qwq (t:TT):TT:=fun σ H Q=>t σ H fun c H1=>Q (!c) H1
theorem Qru (ha:PT X a tA):PW X (.BoolOp .And [a] pos) tA:=by
 intro wh pins s σ H Q I h;refine isTrue_and (thn (ha pins s σ H Q I h) fun c s1 e=>?_)
 cases c with
 | true=>exact isTrue_and_nil e
 | false=>exact e
theorem Quu (ha:PT X a tA):PW X (.BoolOp .Or [a] pos) tA:=by
 intro wh pins s σ H Q I h;refine isTrue_or (thn (ha pins s σ H Q I h) fun c s1 e=>?_)
 cases c with
 | false=>exact isTrue_or_nil e
 | true=>exact e
theorem QsN (ha:PT X a tA) (hb:PW X (.BoolOp .And (b::rest) pos) tB'):PW X (.BoolOp .And (a::b::rest) pos) (Qs6 tA tB'):=by
 intro wh pins s σ H Q I h;refine isTrue_and (thn (ha pins s σ H _ I h) fun c s1 ⟨H1,I1,q1⟩=>?_)
 cases c with
 | true=>exact hb wh pins s1 σ H1 Q I1 q1
 | false=>exact ⟨H1,I1,q1⟩
theorem Qvb (ha:PT X a tA) (hb:PW X (.BoolOp .Or (b::rest) pos) tB'):PW X (.BoolOp .Or (a::b::rest) pos) (tOr tA tB'):=by
 intro wh pins s σ H Q I h;refine isTrue_or (thn (ha pins s σ H _ I h) fun c s1 ⟨H1,I1,q1⟩=>?_)
 cases c with
 | true=>exact ⟨H1,I1,q1⟩
 | false=>exact hb wh pins s1 σ H1 Q I1 q1
theorem Qs4 (ha:PT X a tA):PT X (.UnaryOp .Not a pos) (Qwq tA):=by
 intro pins s σ H Q I h;exact isTrue_not (ha pins s σ H (fun c H1=>Q (!c) H1) I h)
def QuR (ta tb:TE):TE:=fun σ H Q=>ta σ H fun x H1=>∃c,x = .bl c∧if c=true then tb σ H1 Q else Q (.bl false) H1
def Qvo (ta:TE):TE:=fun σ H Q=>ta σ H fun x H1=>∃c,x = .bl c∧Q (.bl (!c)) H1
theorem Quw {op}{t:TE} (h:PE X a t):PE X (.BoolOp op [a] pos) t:=fun pins s σ H Q I hw=>BoolOp_one (h pins s σ H Q I hw)
theorem Qtn (ha:PE X a ta) (hb:PE X (.BoolOp .And (b::rest) pos) tb):PE X (.BoolOp .And (a::b::rest) pos) (QuR ta tb):=by
 intro pins s σ H Q I h;refine BoolOp_and (thn (ha pins s σ H _ I h) fun v s1 ⟨x,H1,I1,r1,q1⟩=>?_);obtain ⟨c,rfl,q1⟩:=q1;cases r1;refine wpAny_truthy_bool ?_
 cases c with
 | true=>exact hb pins s1 σ H1 Q I1 q1
 | false=>exact ⟨.bl false,H1,I1,rfl,q1⟩
theorem Qte (ha:PE X a ta):PE X (.UnaryOp .Not a pos) (Qvo ta):=by
 intro pins s σ H Q I h;refine UnaryOp_ (thn (ha pins s σ H _ I h) fun v s1 ⟨x,H1,I1,r1,q1⟩=>?_);obtain ⟨c,rfl,q1⟩:=q1;cases r1;exact not_of (wpAny_truthy_bool ⟨.bl (!c),H1,I1,rfl,q1⟩)
def tIf (t:TT) (ta tb:TE):TE:=fun σ H Q=>t σ H fun c H1=>if c=true then ta σ H1 Q else tb σ H1 Q
theorem Qqx {c:Expr} (hc:PT X c tA) (ha:PE X a ta) (hb:PE X b tb):PE X (.IfExp c a b pos) (tIf tA ta tb):=by
 intro pins s σ H Q I h;refine wpAny_IfExp (thn (hc pins s σ H _ I h) fun d s1 ⟨H1,I1,q1⟩=>?_)
 cases d with
 | true=>exact ha pins s1 σ H1 Q I1 q1
 | false=>exact hb pins s1 σ H1 Q I1 q1
end
def SqL (K:PySem.W.Frag) (H:Hp) (a:Addr) (xs:List V):Prop :=
 Rd H a (.lst xs) ∨
  ∃(o:Obj) (its:Array Value) (n:Nat),K.lookup a=some o∧o.cls = .type "list"∧o.dict=none∧o.data = .seq its n∧its.size≤sizeLine∧QaA xs its.toList
def SqT (K:PySem.W.Frag) (H:Hp) (a:Addr) (xs:List V):Prop :=
 Rd H a (.tup xs) ∨
  ∃(o:Obj) (its:Array Value) (n:Nat),K.lookup a=some o∧o.cls = .type "tuple"∧o.data = .seq its n∧its.size≤sizeLine∧QaA xs its.toList
def Qv2:Value→Option V
 | .none=>some .non
 | .bool b=>some (.bl b)
 | .int i _=>some (.int i)
 | .str x _=>some (.str x)
 | .bytes b _=>some (.byt b)
 | .float b _=>some (.flt b)
 | .ref a=>some (.ref a)
 | .type n=>some (.ty n)
 | _=>none
theorem RelV.abs {x:V}{u:Value} (r:RelV x u):Qv2 u=some x:=by
 cases x with
 | non=>cases r; rfl
 | bl _=>cases r; rfl
 | int _=>obtain ⟨t,rfl⟩:=r; rfl
 | str _=>obtain ⟨t,rfl⟩:=r; rfl
 | byt _=>obtain ⟨t,rfl⟩:=r; rfl
 | flt _=>obtain ⟨t,rfl⟩:=r; rfl
 | ref _=>cases r; rfl
 | ty _=>cases r; rfl
theorem RelV.inj {x y:V}{u:Value} (r:RelV x u) (q:RelV y u):x=y:=zK (r.abs.symm.trans q.abs)
theorem QaA.inj:∀{xs ys:List V}{us:List Value},QaA xs us→QaA ys us→xs=ys
 | _,_,_,.nil,.nil=>rfl
 | _,_,_,.cons r t,.cons r' t'=>by rw [r.inj r',QaA.inj t t']
section
variable {X:Cx}{pins:List (Addr×Obj)}{σ:St}{H:Hp}{s:Shared}{a:Addr}{xs ys:List V}
theorem SqL.of {K:PySem.W.Frag} (h:H a=some (.lst xs)):SqL K H a xs:=.inl (.inl h)
theorem SqT.of {K:PySem.W.Frag} (h:H a=some (.tup xs)):SqT K H a xs:=.inl (.inl h)
theorem Inv.list (I:Inv X pins σ H s) (h:SqL X.K H a xs):∃its:List Value,QaA xs its∧PlainL s.heap a its.toArray∧xs.length≤sizeLine:=by
 rcases h with h | ⟨o,its,n,hk,hc,hd,hs,hz,r⟩
 ·obtain ⟨z,its,n,r,e⟩:=h.ok I.hok;exact ⟨its,r,⟨_,n,e,rfl,rfl,rfl⟩,z⟩
 ·refine ⟨its.toList,r,⟨o,n,I.kIn a o hk,hc,hd,by simpa using hs⟩,?_⟩;have e:=r.length;simp only [Array.length_toList] at e;omega
theorem Inv.tuple (I:Inv X pins σ H s) (h:SqT X.K H a xs):∃its:List Value,QaA xs its∧IsTup s.heap a its.toArray∧xs.length≤sizeLine:=by
 rcases h with h | ⟨o,its,n,hk,hc,hs,hz,r⟩
 ·obtain ⟨z,its,r,p⟩:=h.ok I.hok;exact ⟨its,r,p,z⟩
 ·refine ⟨its.toList,r,⟨o,I.kIn a o hk,hc,n,by simpa using hs⟩,?_⟩;have e:=r.length;simp only [Array.length_toList] at e;omega
theorem Inv.list_inj (I:Inv X pins σ H s) (h:SqL X.K H a xs) (h':SqL X.K H a ys):xs=ys:=by
 obtain ⟨its,r,⟨o,n,e,_,_,d⟩,_⟩:=I.list h;obtain ⟨its',r',⟨o',n',e',_,_,d'⟩,_⟩:=I.list h';rw [e] at e'; cases e';rw [d] at d'
 injection d' with d1 _
 have:its=its':=by simpa using congrArg Array.toList d1
 subst this;exact r.inj r'
theorem Inv.tuple_inj (I:Inv X pins σ H s) (h:SqT X.K H a xs) (h':SqT X.K H a ys):xs=ys:=by
 obtain ⟨its,r,⟨o,e,_,n,d⟩,_⟩:=I.tuple h;obtain ⟨its',r',⟨o',e',_,n',d'⟩,_⟩:=I.tuple h';rw [e] at e'; cases e';rw [d] at d'
 injection d' with d1 _
 have:its=its':=by simpa using congrArg Array.toList d1
 subst this;exact r.inj r'
end
abbrev Cx.wish (X:Cx) (E:Value→Shared→Prop):Cx:={ X with xe:=E }
abbrev Cx.nox (X:Cx):Cx:=X.wish fun _ _=>False
theorem Cx.Ok.wish {X:Cx} (ok:X.Ok) (E:Value→Shared→Prop):(X.wish E).Ok :=
 ⟨ok.mod,ok.kind,ok.glob,ok.blt,ok.above,ok.inj,ok.has,ok.cab,ok.hd,ok.frames,ok.stk,ok.exf,ok.bs,ok.bsz,ok.noex,ok.exfs,ok.funs,ok.frf⟩
theorem Cx.Ok.unwish {X:Cx}{E:Value→Shared→Prop} (ok:(X.wish E).Ok):X.Ok :=
 ⟨ok.mod,ok.kind,ok.glob,ok.blt,ok.above,ok.inj,ok.has,ok.cab,ok.hd,ok.frames,ok.stk,ok.exf,ok.bs,ok.bsz,ok.noex,ok.exfs,ok.funs,ok.frf⟩
section
variable {X:Cx}{pins:List (Addr×Obj)}{σ:St}{H:Hp}{s:Shared}{E:Value→Shared→Prop}
theorem Inv.wish (I:Inv X pins σ H s) (E:Value→Shared→Prop):Inv (X.wish E) pins σ H s:=⟨I.ok.wish E,I.os,I.bare,I.base,I.loc,I.cell,I.free,I.freeC,I.pin,I.hok,I.len⟩
theorem Inv.unwish (I:Inv (X.wish E) pins σ H s):Inv X pins σ H s:=⟨I.ok.unwish,I.os,I.bare,I.base,I.loc,I.cell,I.free,I.freeC,I.pin,I.hok,I.len⟩
theorem SP.unwish {D:Ends}{f:Flow}{s':Shared} (h:SP (X.wish E) pins D f s'):SP X pins D f s':=by
 cases f with
 | next=>obtain ⟨σ',H',I,q⟩:=h; exact ⟨σ',H',I.unwish,q⟩
 | brk=>obtain ⟨σ',H',I,q⟩:=h; exact ⟨σ',H',I.unwish,q⟩
 | cont=>obtain ⟨σ',H',I,q⟩:=h; exact ⟨σ',H',I.unwish,q⟩
 | ret u=>obtain ⟨v,σ',H',I,r,q⟩:=h; exact ⟨v,σ',H',I.unwish,r,q⟩
theorem PE.nox {e:Expr}{t:TE} (h:PE X.nox e t):PE X e t:=fun pins s σ H Q I hw =>
 zm (h pins s σ H Q (I.wish _) hw) (fun _ _ ⟨v,H',I',r,q⟩=>⟨v,H',I'.unwish,r,q⟩) fun _ _ z=>False.elim z
theorem PT.nox {e:Expr}{t:TT} (h:PT X.nox e t):PT X e t:=fun pins s σ H Q I hw =>
 zm (h pins s σ H Q (I.wish _) hw) (fun _ _ ⟨H',I',q⟩=>⟨H',I'.unwish,q⟩) fun _ _ z=>False.elim z
theorem PSs.nox {st:List Stmt}{t:TS} (h:PSs X.nox st t):PSs X st t:=fun pins s σ H D I hw =>
 zm (h pins s σ H D (I.wish _) hw) (fun _ _ q=>q.unwish) fun _ _ z=>False.elim z
end
section
variable {X:Cx}{st:Stmt}{rest:List Stmt}{t u:TS}{e:Expr}{te:TE}{pos:Pos}
def Qve:TS:=fun D σ H=>D.nx σ H
def Qv7 (t u:TS):TS:=fun D σ H=>t { D with nx:=u D } σ H
theorem Qmo:PSs X [] Qve:=fun _ _ σ H _ I h=>wpAny_execs_nil ⟨σ,H,I,h⟩
theorem QkM (h1:PS X st t) (h2:PSs X rest u):PSs X (st::rest) (Qv7 t u):=by
 intro pins s σ H D I h;refine wpAny_execs_cons (thn (h1 pins s σ H { D with nx:=u D } I h) fun f s1 q=>?_)
 cases f with
 | next =>
  obtain ⟨σ',H',I',q⟩:=q;exact h2 pins s1 σ' H' D I' q
 | ret v=>exact q
 | brk=>exact q
 | cont=>exact q
theorem Ql7 (h1:PS X st t):PSs X [st] t:=by
 intro pins s σ H D I h;refine wpAny_execs_cons (thn (h1 pins s σ H D I h) fun f s1 q=>?_)
 cases f with
 | next=>exact wpAny_execs_nil q
 | ret v=>exact q
 | brk=>exact q
 | cont=>exact q
theorem Inv.quiet {pins:List (Addr×Obj)}{σ:St}{H:Hp}{s:Shared} (I:Inv X pins σ H s):interactive X.env=false:=by simp [interactive,I.ok.kind]
def Qvz (te:TE):TS:=fun D σ H=>te σ H fun _ H1=>D.nx σ H1
theorem Qjh (he:PE X e te) (hs:swapsWith e none pos.line X.env=pure false:=by rfl):PS X (.Expr e pos) (Qvz te):=by
 intro pins s σ H D I h;exact wpAny_Expr_any (thn (he pins s σ H _ I h) fun v s1 ⟨x,H1,I1,r1,q1⟩=>⟨σ,H1,I1,q1⟩) I.quiet hs
def Qwz (te:TE):TS:=fun D σ H=>te σ H D.rt
theorem QoL (he:PE X e te):PS X (.Return (some e) pos) (Qwz te):=by
 intro pins s σ H D I h;exact wpAny_Return_some (thn (he pins s σ H _ I h) fun v s1 ⟨x,H1,I1,r1,q1⟩=>⟨x,σ,H1,I1,r1,q1⟩)
def Qwd (c:TT) (t u:TS):TS:=fun D σ H=>c σ H fun b H1=>if b=true then t D σ H1 else u D σ H1
theorem QqG {c:Expr}{a b:List Stmt}{tc:TT} (hc:PT X c tc) (ha:PSs X a t) (hb:PSs X b u):PS X (.If c a b pos) (Qwd tc t u):=by
 intro pins s σ H D I h;refine wpAny_If (thn (hc pins s σ H _ I h) fun d s1 ⟨H1,I1,q1⟩=>?_)
 cases d with
 | true=>exact ha pins s1 σ H1 D I1 q1
 | false=>exact hb pins s1 σ H1 D I1 q1
end
abbrev TG:=V→St→Hp→(St→Hp→Prop)→Prop
abbrev TGs:=List V→St→Hp→(St→Hp→Prop)→Prop
def PG (X:Cx) (target:Expr) (t:TG):Prop :=
 ∀(pins:List (Addr×Obj)) (s:Shared) (σ:St) (H:Hp) (v:V) (u:Value) (Q:St→Hp→Prop),Inv X pins σ H s→RelV v u→t v σ H Q →
  wpAny (model X.prog X.w) X.A (assign target X.env u) (fun _ s'=>∃σ' H',Inv X pins σ' H' s'∧Q σ' H') X.xe s
def PGs (X:Cx) (ts:List Expr) (t:TGs):Prop :=
 ∀(pins:List (Addr×Obj)) (s:Shared) (σ:St) (H:Hp) (vs:List V) (us:List Value) (Q:St→Hp→Prop),Inv X pins σ H s→QaA vs us→t vs σ H Q →
  wpAny (model X.prog X.w) X.A (assignInOrder ((assignEach ts X.env).map (·.2)) us) (fun _ s'=>∃σ' H',Inv X pins σ' H' s'∧Q σ' H') X.xe s
section
variable {X:Cx}{pos:Pos}
def QkD (i:Nat):TG:=fun v σ H Q=>Q (σ.set i (some v)) H
theorem Qst {i:Nat}{x:Str} (hN:X.N.Nodup) (hi:X.N[i]? = some x) (hx:Loc X.env.scope x) (hf:X.fn x=true∨X.env.scope.names.lookup x=some .local:=by first | exact .inl rfl | exact .inr rfl | assumption):PG X (.Name x pos) (QkD i):=by
 intro pins s σ H v u Q I r h;exact wpAny_assign_Name (Qit I hN hi hx r (fun s' I'=>⟨_,H,I',h⟩) hf)
def Qv8:TGs:=fun vs σ H Q=>vs = []∧Q σ H
def QuM (t:TG) (u:TGs):TGs:=fun vs σ H Q=>∃v r,vs=v::r∧t v σ H fun σ' H'=>u r σ' H' Q
theorem Qrm:PGs X [] Qv8:=by
 intro pins s σ H vs us Q I r h;obtain ⟨e,h⟩:=h;subst e;cases r;exact assignInOrder_nil ⟨σ,H,I,h⟩
theorem Qp3 {e:Expr}{es:List Expr}{t:TG}{u:TGs} (h1:PG X e t) (h2:PGs X es u)
  (hs:(assignEach (e::es) X.env).map (·.2)=assign e X.env::(assignEach es X.env).map (·.2):=by rfl):PGs X (e::es) (QuM t u):=by
 intro pins s σ H vs us Q I r h;obtain ⟨v,vr,e1,h⟩:=h;subst e1
 cases r with
 | cons r rr =>
  rw [hs];refine assignInOrder_cons (thn (h1 pins s σ H _ _ _ I r h) fun _ s1 ⟨σ1,H1,I1,q1⟩=>?_);exact h2 pins s1 σ1 H1 _ _ Q I1 rr q1
def QvX (K:PySem.W.Frag) (n:Nat) (t:TGs):TG:=fun v σ H Q=>∃a xs,v = .ref a∧SqT K H a xs∧xs.length=n∧t xs σ H Q
theorem QsR {es:List Expr}{k:Nat}{t:TGs}{n:Nat} (hc:X.calm=true) (h:PGs X es t)
  (hn:(assignEach es X.env).length=n:=by rfl) (hst:(assignEach es X.env).findIdx? (·.1)=none:=by rfl):PG X (.Tuple es k pos) (QvX X.K n t):=by
 intro pins s σ H v u Q I r hw;obtain ⟨a,xs,e1,hq,hl,hw⟩:=hw;subst e1;cases r;obtain ⟨its,rv,ht,hz⟩:=I.tuple hq
 refine assign_Tuple_tuple (I.ok.hd hc) ht (by simp [hn,←hl,rv.length]) hst fun h' hx=>?_
 have I1:Inv X pins σ H { s with heap:=h' }:=I.kept (t':=s.toks) fun b o e=>hx b o (zl (zd e)) e
 exact h pins _ σ H xs _ Q I1 (by simpa using rv) hw
def Qpy (te:TE) (g:TG):TS:=fun D σ H=>te σ H fun x H1=>g x σ H1 D.nx
theorem Qlw {i:Nat}{x:Str}{e:Expr}{te:TE}{pos':Pos} (hN:X.N.Nodup) (hi:X.N[i]? = some x) (hx:Loc X.env.scope x) (he:PE X e te) (hs:swapsWith e (some (.Name x pos')) pos.line X.env=pure false:=by rfl) (hf:X.fn x=true∨X.env.scope.names.lookup x=some .local:=by first | exact .inl rfl | exact .inr rfl | assumption) :
  PS X (.Assign [.Name x pos'] e pos) (Qpy te (QkD i)):=by
 intro pins s σ H D I h;refine wpAny_Assign_Name (thn (he pins s σ H _ I h) fun v s1 ⟨y,H1,I1,r1,q1⟩=>?_) hs;exact Qit I1 hN hi hx r1 (fun s2 I2=>⟨_,H1,I2,q1⟩) hf
end
section
variable {X:Cx}{pos:Pos}
def Qoi (c:TT) (tb:TS):TS:=fun D σ H=>∃W:Nat→St→Hp→Prop,(∃m,W m σ H)∧∀m σ H,W m σ H →
 c σ H fun b H1=>if b=true then ∃N:St→Hp→Prop,(∀σ' H',N σ' H'→∃m',m' < m∧W m' σ' H')∧tb { D with nx:=N,ct:=N,bk:=D.nx } σ H1 else D.nx σ H1
theorem Qpp {c:Expr}{body:List Stmt}{tc:TT}{tb:TS} (hp:PassesOwn (model X.prog X.w) X.A X.env X.xe) (hc:PT X c tc) (hb:PSs X body tb):PS X (.While c body [] pos) (Qoi tc tb):=by
 intro pins s σ H D I h;obtain ⟨W,⟨m0,w0⟩,turn⟩:=h;refine wpAny_While (codeAny_whileLoop (fun n s'=>∃σ' H',Inv X pins σ' H' s'∧W n σ' H') ?_ m0 ⟨σ,H,I,w0⟩);rintro n s1 ⟨σ1,H1,I1,w1⟩;refine wpAny_passesOwn hp (thn (hc pins s1 σ1 H1 _ I1 (turn n σ1 H1 w1)) fun b s2 ⟨H2,I2,q2⟩=>?_)
 cases b with
 | true =>
  obtain ⟨N,hN,q2⟩:=q2;rw [if_pos rfl];refine wpAny_passesOwn hp (thn (hb pins s2 σ1 H2 _ I2 q2) fun f s3 q3=>?_)
  cases f with
  | next =>
   obtain ⟨σ3,H3,I3,n3⟩:=q3;obtain ⟨m',hm,w3⟩:=hN σ3 H3 n3;exact ⟨m',hm,σ3,H3,I3,w3⟩
  | cont =>
   obtain ⟨σ3,H3,I3,n3⟩:=q3;obtain ⟨m',hm,w3⟩:=hN σ3 H3 n3;exact ⟨m',hm,σ3,H3,I3,w3⟩
  | brk=>exact q3
  | ret v=>exact q3
 | false =>
  rw [if_neg zf];exact wpAny_execs_nil ⟨σ1,H2,I2,q2⟩
end
structure It where
 go:Nat→Hp→Prop
 yld:Nat→Hp→V→Hp→Prop
 stop:Nat→Hp→Prop
def QdI (X:Cx) (pins:List (Addr×Obj)) (H:Hp) (b:Addr):Prop :=
 H b=none∧b≠X.env.locals∧b∉X.fs∧(b∈X.ex∨X.s₀.heap.objs.size≤b)∧(∀x c,X.env.cells.lookup x=some c→c≠b)∧∀p∈X.pn++pins,p.1≠b
theorem Inv.fpOk {X:Cx}{pins:List (Addr×Obj)}{σ:St}{H H':Hp}{s:Shared}{b:Addr} (I:Inv X pins σ H s) (hb:s.heap.objs.size≤b) (hn:H' b=none):QdI X pins H' b:=by
 refine ⟨hn,Nat.ne_of_gt (zv I.lt hb),I.nofs hb,.inr (zu I.sz hb),fun x c e z=>?_,fun p hp z=>?_⟩
 ·obtain ⟨v,q⟩:=I.cell x c e;exact absurd (zv q.lt (by rw [z]; exact hb)) (zI _)
 ·exact absurd (zv (zd (I.pin p hp).1) (by rw [z]; exact hb)) (zI _)
structure Turn (P:Program) (w:World) (K:PySem.W.Frag) (tg:Expr) (J:It) (fp:List Addr) (it:Addr) (tn:Nat→Heap→Prop):Prop where
 mem:it∈fp
 obj:∀i h,tn i h→∀b∈fp,∃o,h.get? b=some o∧∀v,o.data≠.cell v
 keep:∀i h h',tn i h→(∀b∈fp,∀o,h.get? b=some o→h'.get? b=some o)→tn i h'
 item:∀(X:Cx),X.prog=P→X.w=w→X.K=K→X.calm=true→∀(i:Nat) (pins:List (Addr×Obj)) (s:Shared) (σ:St) (H:Hp) (E:Value→Shared→Prop),Inv X pins σ H s→(∀b∈fp,QdI X pins H b)→tn i s.heap→J.go i H →
  wpAny (model P w) X.A (pyNext (.ref it)) (fun r s1=>∃u,r=some u ∧
   wpAny (model P w) X.A (letOwnedTupleGo tg (.ref it) u) (fun _ s2=>∃x H',Inv X pins σ H' s2∧RelV x u∧J.yld i H x H'∧tn (i+1) s2.heap∧∀b∈fp,H' b=none) E s1) E s
 done:∀(X:Cx),X.prog=P→X.w=w→X.K=K→X.calm=true→∀(i:Nat) (pins:List (Addr×Obj)) (s:Shared) (σ:St) (H:Hp) (E:Value→Shared→Prop),Inv X pins σ H s→(∀b∈fp,QdI X pins H b)→tn i s.heap→J.stop i H →
  wpAny (model P w) X.A (pyNext (.ref it)) (fun r s1=>r=none∧Inv X pins σ H s1) E s
 self:∀(A:Around) (i:Nat) (s:Shared) (Q:Value→Shared→Prop) (E:Value→Shared→Prop),tn i s.heap→Q (.ref it) s→wpAny (model P w) A (pyIter (.ref it)) Q E s
abbrev TI:=St→Hp→(It→Hp→Prop)→Prop
def PIE (X:Cx) (pins:List (Addr×Obj)) (σ:St) (tg:Expr) (R:It→Hp→Prop) (itv:Value) (s2:Shared):Prop :=
 ∃(it:Addr) (fp:List Addr) (tn:Nat→Heap→Prop) (J:It) (H':Hp),itv = .ref it∧Inv X pins σ H' s2∧Turn X.prog X.w X.K tg J fp it tn∧tn 0 s2.heap∧(∀b∈fp,QdI X pins H' b)∧R J H'
def PI (X:Cx) (tg iter:Expr) (wi:TI):Prop :=
 ∀(pins:List (Addr×Obj)) (s:Shared) (σ:St) (H:Hp) (R:It→Hp→Prop),Inv X pins σ H s→wi σ H R →
  wpAny (model X.prog X.w) X.A (eval iter X.env) (fun v s1=>wpAny (model X.prog X.w) X.A (pyIter v) (PIE X pins σ tg R) X.xe s1) X.xe s
theorem Qkw {M:Model}{A:Around}{E:Value→Shared→Prop}{s:Shared}{tg:Expr}{it:Addr}{u:Value}{o:Obj}{n:String}{vs:Array Value}{Q:Unit→Shared→Prop} (ho:s.heap.get? it=some o) (hc:o.cls = .type n) (hd:o.data = .fields vs)
  (hn:["enumerate","zip","dict_itemiterator","dict_reverseitemiterator","odict_iterator","itertools.zip_longest","itertools.pairwise"].contains n=false) (hQ:Q () s):wpAny M A (letOwnedTupleGo tg (.ref it) u) Q E s:=by
 unfold letOwnedTupleGo
 cases tg <;> first
  | exact zb hQ
  | (cases u <;> first
    | exact zb hQ
    | (refine za (wpAny_load ho ?_)
       rw [hc,hd];show wpAny M A (if (["enumerate","zip","dict_itemiterator","dict_reverseitemiterator","odict_iterator","itertools.zip_longest","itertools.pairwise"].contains n&&vs[0]? == some (rawInt _))=true then _ else _) Q E s;rw [if_neg (by intro h; rw [hn,Bool.false_and] at h; cases h)]
       exact zb hQ))
def Itl (K:PySem.W.Frag) (a:Addr):It :=
 ⟨fun i H=>∃xs x,SqL K H a xs∧xs[i]? = some x,fun i H x H'=>H'=H∧∀xs,SqL K H a xs→xs[i]? = some x,fun i H=>∃xs,SqL K H a xs∧xs.length≤i⟩
def Itt (K:PySem.W.Frag) (a:Addr):It :=
 ⟨fun i H=>∃xs x,SqT K H a xs∧xs[i]? = some x,fun i H x H'=>H'=H∧∀xs,SqT K H a xs→xs[i]? = some x,fun i H=>∃xs,SqT K H a xs∧xs.length≤i⟩
def Itr (lo:Int) (n:Nat):It:=⟨fun i _=>i < n,fun i H x H'=>H'=H∧x = .int (lo+i),fun i _=>n≤i⟩
theorem QoG {P:Program}{w:World}{K:PySem.W.Frag}{tg:Expr} (a it:Addr):Turn P w K tg (Itl K a) [it] it (fun i h=>h.IsListIter it a i) where
 mem:=by simp
 obj:=fun i h st b hb=>by
  have e:b=it:=by simpa using hb
  subst e;obtain ⟨o,e,c,d⟩:=st;exact ⟨o,e,fun v z=>by rw [d] at z; cases z⟩
 keep:=fun i h h' st k=>st.at fun o e=>k it (by simp) o e
 item:=by
  intro X hP hw hK hc i pins s σ H E I hf st hg;subst hP hw hK;obtain ⟨xs,x,hq,hx⟩:=hg;obtain ⟨its,rv,p,hz⟩:=I.list hq;obtain ⟨u,hu,ru⟩:=rv.get hx;obtain ⟨f0,f1,f2,f3,f4,f5⟩:=hf it (by simp)
  refine wpAny_pyNext_list_item st p.isList (x:=u) (by simpa using hu) fun h' st' sb=>?_
  have I1:Inv X pins σ H { s with heap:=h' }:=I.turned (t':=s.toks) (fun b o hb e=>(sb.2 b hb).trans e) f0 f1 f3 f4 f5;obtain ⟨o,e,c,d⟩:=id st';exact ⟨u,rfl,Qkw (s:={ s with heap:=h' }) e c d (by decide) ⟨x,H,I1,ru,⟨rfl,fun ys hy=>by rw [I.list_inj hy hq]; exact hx⟩,st',fun b hb=>(hf b hb).1⟩⟩
 done:=by
  intro X hP hw hK hc i pins s σ H E I hf st hg;subst hP hw hK;obtain ⟨xs,hq,hx⟩:=hg;obtain ⟨its,rv,p,hz⟩:=I.list hq;obtain ⟨f0,f1,f2,f3,f4,f5⟩:=hf it (by simp);have hl:=rv.length
  exact wpAny_pyNext_list_end (I.ok.hd hc) st p.isList (by simp; omega) fun h' eb=>⟨rfl,I.turned (t':=s.toks) (fun b o hb e=>eb b o hb e) f0 f1 f3 f4 f5⟩
 self:=fun _ _ _ _ _ st h=>wpAny_pyIter_listiter st h
theorem Qng {P:Program}{w:World}{K:PySem.W.Frag}{tg:Expr} (a it:Addr):Turn P w K tg (Itt K a) [it] it (fun i h=>h.IsTupleIter it a i) where
 mem:=by simp
 obj:=fun i h st b hb=>by
  have e:b=it:=by simpa using hb
  subst e;obtain ⟨o,e,c,d⟩:=st;exact ⟨o,e,fun v z=>by rw [d] at z; cases z⟩
 keep:=fun i h h' st k=>st.at fun o e=>k it (by simp) o e
 item:=by
  intro X hP hw hK hc i pins s σ H E I hf st hg;subst hP hw hK;obtain ⟨xs,x,hq,hx⟩:=hg;obtain ⟨its,rv,p,hz⟩:=I.tuple hq;obtain ⟨u,hu,ru⟩:=rv.get hx;obtain ⟨f0,f1,f2,f3,f4,f5⟩:=hf it (by simp)
  refine wpAny_pyNext_tuple_item st (show s.heap.IsTuple a its.toArray from p) (x:=u) (by simpa using hu) fun h' st' sb=>?_
  have I1:Inv X pins σ H { s with heap:=h' }:=I.turned (t':=s.toks) (fun b o hb e=>(sb.2 b hb).trans e) f0 f1 f3 f4 f5;obtain ⟨o,e,c,d⟩:=id st';exact ⟨u,rfl,Qkw (s:={ s with heap:=h' }) e c d (by decide) ⟨x,H,I1,ru,⟨rfl,fun ys hy=>by rw [I.tuple_inj hy hq]; exact hx⟩,st',fun b hb=>(hf b hb).1⟩⟩
 done:=by
  intro X hP hw hK hc i pins s σ H E I hf st hg;subst hP hw hK;obtain ⟨xs,hq,hx⟩:=hg;obtain ⟨its,rv,p,hz⟩:=I.tuple hq;obtain ⟨f0,f1,f2,f3,f4,f5⟩:=hf it (by simp);have hl:=rv.length
  exact wpAny_pyNext_tuple_end (I.ok.hd hc) st (show s.heap.IsTuple a its.toArray from p) (by simp; omega) fun h' eb=>⟨rfl,I.turned (t':=s.toks) (fun b o hb e=>eb b o hb e) f0 f1 f3 f4 f5⟩
 self:=fun _ _ _ _ _ st h=>wpAny_pyIter_tupleiter st h
theorem Qm0 {P:Program}{w:World}{K:PySem.W.Frag}{tg:Expr} (it:Addr) (lo:Int) (n:Nat):Turn P w K tg (Itr lo n) [it] it (fun i h=>IsRangeIter h it (lo+(i:Nat) * 1) ((n:Int) - (i:Nat)) 1) where
 mem:=by simp
 obj:=fun i h st b hb=>by
  have e:b=it:=by simpa using hb
  subst e
  exact ⟨_,st,fun v z=>by
   have z':Data.fields _=Data.cell v:=z
   cases z'⟩
 keep:=fun i h h' st k=>k it (by simp) _ st
 item:=by
  intro X hP hw hK hc i pins s σ H E I hf st hg;subst hP hw hK;obtain ⟨f0,f1,f2,f3,f4,f5⟩:=hf it (by simp);have W:=Walks.range (prog:=X.prog) (w:=X.w) (I.ok.hd hc) it lo 1 n
  refine W.item i s _ _ hg st fun v h' tk hv st' kk=>?_
  obtain ⟨t,rfl⟩:=hv;have I1:Inv X pins σ H { s with heap:=h',toks:=tk }:=I.turned (fun b o hb e=>kk b o (by simpa using hb) e) f0 f1 f3 f4 f5;refine ⟨_,rfl,Qkw (s:={ s with heap:=h',toks:=tk }) (n:="range_iterator") st' rfl rfl (by decide) ⟨.int (lo+i),H,I1,⟨t,?_⟩,⟨rfl,rfl⟩,st',fun b hb=>(hf b hb).1⟩⟩;rw [Int.mul_one]
 done:=by
  intro X hP hw hK hc i pins s σ H E I hf st hg;subst hP hw hK;obtain ⟨f0,f1,f2,f3,f4,f5⟩:=hf it (by simp)
  exact wpAny_pyNext_range_end (I.ok.hd hc) st (by have:n≤i:=hg; omega) fun h' eb=>⟨rfl,I.turned (t':=s.toks) (fun b o hb e=>eb b o hb e) f0 f1 f3 f4 f5⟩
 self:=fun _ _ _ _ _ st h=>wpAny_pyIter_rangeiter st h
section
variable {X:Cx}{tg:Expr}
def Qvi (K:PySem.W.Frag) (tl:TE):TI:=fun σ H R=>tl σ H fun x H1=>∃a,x = .ref a∧(∃xs,SqL K H1 a xs)∧R (Itl K a) H1
def Qwp (K:PySem.W.Frag) (tl:TE):TI:=fun σ H R=>tl σ H fun x H1=>∃a,x = .ref a∧(∃xs,SqT K H1 a xs)∧R (Itt K a) H1
theorem Qjz {l:Expr}{tl:TE} (hl:PE X l tl):PI X tg l (Qvi X.K tl):=by
 intro pins s σ H R I h
 refine thn (hl pins s σ H _ I h) fun v s1 ⟨x,H1,I1,r1,q1⟩=>?_
 obtain ⟨a,e,⟨xs,hq⟩,q⟩:=q1;subst e;cases r1;obtain ⟨its,rv,p,hz⟩:=I1.list hq;refine wpAny_pyIter_list p.isList ?_;refine ⟨s1.heap.objs.size,[s1.heap.objs.size],_,_,H1,rfl,I1.kept (t':=s1.toks) fun b o e=>zh _ e,QoG a _,⟨_,zF _ rfl,rfl,rfl⟩,fun b hb=>?_,q⟩
 have e:b=s1.heap.objs.size:=by simpa using hb
 subst e;exact I1.fpOk (zc _) (I1.hok.fresh (zc _))
theorem Qtb {l:Expr}{tl:TE} (hl:PE X l tl):PI X tg l (Qwp X.K tl):=by
 intro pins s σ H R I h
 refine thn (hl pins s σ H _ I h) fun v s1 ⟨x,H1,I1,r1,q1⟩=>?_
 obtain ⟨a,e,⟨xs,hq⟩,q⟩:=q1;subst e;cases r1;obtain ⟨its,rv,p,hz⟩:=I1.tuple hq;refine wpAny_pyIter_tuple (show s1.heap.IsTuple a its.toArray from p) ?_;refine ⟨s1.heap.objs.size,[s1.heap.objs.size],_,_,H1,rfl,I1.kept (t':=s1.toks) fun b o e=>zh _ e,Qng a _,⟨_,zF _ rfl,rfl,rfl⟩,fun b hb=>?_,q⟩
 have e:b=s1.heap.objs.size:=by simpa using hb
 subst e;exact I1.fpOk (zc _) (I1.hok.fresh (zc _))
theorem Qpi {pins:List (Addr×Obj)}{σ:St}{H:Hp}{s:Shared}{R:It→Hp→Prop}{E:Value→Shared→Prop}{lo hi:Int}{t u v:Tok}{tk:Nat} (I:Inv X pins σ H s) (h1:-(2 ^ 62)≤lo) (h2:lo < 2 ^ 62) (h3:-(2 ^ 62)≤hi) (h4:hi < 2 ^ 62)
  (q:R (Itr lo (hi - lo).toNat) H):wpAny (model X.prog X.w) X.A (pyIter (.ref s.heap.objs.size)) (PIE X pins σ tg R) E { s with heap:=s.heap.push { cls:=.type "range",data:=.fields #[.int lo t,.int hi u,.int 1 v] },toks:=tk }:=by
 refine wpAny_pyIter_range (IsRange.new ..) (small_one h1 h2 h3 h4) ?_
 have I1:Inv X pins σ H { s with heap:=s.heap.push { cls:=.type "range",data:=.fields #[.int lo t,.int hi u,.int 1 v] },toks:=tk }:=I.kept fun b o e=>zh _ e
 refine ⟨(s.heap.push { cls:=.type "range",data:=.fields #[.int lo t,.int hi u,.int 1 v] }).objs.size,[(s.heap.push { cls:=.type "range",data:=.fields #[.int lo t,.int hi u,.int 1 v] }).objs.size],_,_,H,rfl,
  I1.kept (t':=tk) fun b o e=>zh _ e,Qm0 _ lo (hi - lo).toNat,?_,fun b hb=>?_,q⟩
 ·have e1:lo+((0:Nat):Int) * 1=lo:=by simp
  have e2:(((hi - lo).toNat:Nat):Int) - ((0:Nat):Int)=Builtin.Range.rangeSize lo hi 1:=by rw [rangeSize_one]; split <;> omega
  show IsRangeIter _ _ (lo+((0:Nat):Int) * 1) ((((hi - lo).toNat:Nat):Int) - ((0:Nat):Int)) 1;rw [e1,e2];exact zF _ rfl
 ·have e:b=(s.heap.push { cls:=.type "range",data:=.fields #[.int lo t,.int hi u,.int 1 v] }).objs.size:=by simpa using hb
  subst e;exact I1.fpOk (zc _) (I1.hok.fresh (zc _))
def Qvj (ta:TA):TI:=fun σ H R=>ta σ H fun vs H1=>∃j:Int,vs = [.int j]∧-(2 ^ 62)≤j∧j < 2 ^ 62∧R (Itr 0 j.toNat) H1
theorem QnW {a:Expr}{ta:TA}{p pos:Pos} (hg:Gl X "range") (hm:X.mg "range" = none) (ha:PA X [a] ta) (hs:starEach [a] X.env = [(false,eval a X.env)]:=by rfl):PI X tg (.Call (.Name "range" p) [a] [] pos) (Qvj ta):=by
 intro pins s σ H R I h;refine Call_ (Qfr I hg hm boot_range (PyProof.Rows.callWith_type1 (thn (ha pos pins s σ H _ I h) fun us s1 ⟨vs,H1,I1,r1,q1⟩=>?_) hs rfl));obtain ⟨j,e,q1,q2,q⟩:=q1;subst e
 cases r1 with
 | cons r rr =>
  cases rr;obtain ⟨t,rfl⟩:=r;exact call_range_1 (Qpi I1 (by omega) (by omega) q1 q2 (by simpa using q))
def Qnt (wi:TI) (g:TG) (tb:TS):TS:=fun D σ H=>wi σ H fun J H1=>∃W:Nat→Nat→St→Hp→Prop,(∃m,W 0 m σ H1)∧∀i m σ H,W i m σ H →
 (J.stop i H∧D.nx σ H)∨(J.go i H∧∃N:St→Hp→Prop,(∀σ' H',N σ' H'→∃m',m' < m∧W (i+1) m' σ' H')∧∀x H',J.yld i H x H'→g x σ H' fun σ2 H2=>tb { D with nx:=N,ct:=N,bk:=D.nx } σ2 H2)
def Qhs (fp:List Addr) (h:Heap):List (Addr×Obj):=fp.filterMap fun b=>(h.get? b).map fun o=>(b,o)
theorem Qe7 {fp:List Addr}{h:Heap}{b:Addr}{o:Obj} (hb:b∈fp) (e:h.get? b=some o):(b,o)∈Qhs fp h:=List.mem_filterMap.mpr ⟨b,hb,by rw [e]; rfl⟩
theorem Qn8 {fp:List Addr}{h:Heap}{p:Addr×Obj} (hp:p∈Qhs fp h):p.1∈fp∧h.get? p.1=some p.2:=by
 obtain ⟨b,hb,e⟩:=List.mem_filterMap.mp hp
 cases q:h.get? b with
 | none=>rw [q] at e; cases e
 | some o =>
  rw [q] at e;have e':(b,o)=p:=zK e;subst e';exact ⟨hb,q⟩
theorem Inv.pinned {pins:List (Addr×Obj)}{σ:St}{H:Hp}{s:Shared}{fp:List Addr} (I:Inv X pins σ H s) (hf:∀b∈fp,QdI X pins H b) (ho:∀b∈fp,∃o,s.heap.get? b=some o∧∀v,o.data≠.cell v):Inv X (pins++Qhs fp s.heap) σ H s :=
 I.pins_of fun p hp=>(zy.mp hp).elim (fun z=>I.pin p (zL _ z)) fun z=>by
  obtain ⟨hb,e⟩:=Qn8 z;obtain ⟨f0,f1,f2,_⟩:=hf p.1 hb;obtain ⟨o,e',d⟩:=ho p.1 hb;rw [e] at e'; cases e';exact ⟨e,f0,f1,f2,d⟩
theorem Inv.unpinned {pins pl:List (Addr×Obj)}{σ:St}{H:Hp}{s:Shared} (I:Inv X (pins++pl) σ H s):Inv X pins σ H s:=I.pins_of fun p hp=>I.pin p (zL _ (List.mem_append_left _ hp))
theorem QkS {iter:Expr}{body:List Stmt}{wi:TI}{g:TG}{tb:TS}{pos:Pos} (hp:PassesOwn (model X.prog X.w) X.A X.env X.xe) (hc:X.calm=true) (hi:PI X tg iter wi) (hg:PG X tg g) (hb:PSs X body tb)
  (hs:∀x,foldedSetIterable iter X.env x=pure x:=by intro _; rfl):PS X (.For tg iter body [] pos) (Qnt wi g tb):=by
 intro pins s σ H D I h;refine wpAny_For (thn (hi pins s σ H _ I h) fun v s1 h1=>thn h1 fun itv s2 h2=>?_) hs;obtain ⟨it,fp,tn,J,H2,e,I2,T,st2,f2,W,⟨m0,w0⟩,turn⟩:=h2;subst e
 have stat:∀{H':Hp},(∀b∈fp,H' b=none)→∀b∈fp,QdI X pins H' b:=fun hn b hb=>⟨hn b hb,(f2 b hb).2⟩
 refine codeAny_forLoop_any (fun n s'=>∃i σ' H',Inv X pins σ' H' s'∧tn i s'.heap∧(∀b∈fp,H' b=none)∧W i n σ' H') ?_ m0 ⟨0,σ,H2,I2,st2,fun b hb=>(f2 b hb).1,w0⟩;rintro n s3 ⟨i,σ3,H3,I3,st3,fr3,w3⟩
 rcases turn i n σ3 H3 w3 with ⟨stop,qn⟩ | ⟨go,N,hN,step⟩
 ·refine wpAny_passesOwn hp (thn (T.done X rfl rfl rfl hc i pins s3 σ3 H3 X.xe I3 (stat fr3) st3 stop) fun r s4 ⟨hr,I4⟩=>?_);subst hr;exact wpAny_execs_nil ⟨σ3,H3,I4,qn⟩
 ·refine wpAny_passesOwn hp (thn (T.item X rfl rfl rfl hc i pins s3 σ3 H3 X.xe I3 (stat fr3) st3 go) fun r s4 ⟨u,hr,h4⟩=>?_);subst hr;refine wpAny_passesOwn hp (thn h4 fun _ s5 ⟨x,H5,I5,r5,y5,st5,fr5⟩=>?_);have I5':=I5.pinned (stat fr5) (T.obj _ _ st5);refine wpAny_passesOwn hp (thn (hg _ s5 σ3 H5 x u _ I5' r5 (step x H5 y5)) fun _ s6 ⟨σ6,H6,I6,q6⟩=>?_);refine wpAny_passesOwn hp (thn (hb _ s6 σ6 H6 _ I6 q6) fun f s7 q7=>?_)
  have again:∀{σ7:St}{H7:Hp},Inv X (pins++Qhs fp s5.heap) σ7 H7 s7→N σ7 H7→∃m,m < n∧∃i σ' H',Inv X pins σ' H' s7∧tn i s7.heap∧(∀b∈fp,H' b=none)∧W i m σ' H':=fun {σ7 H7} I7 n7=>by
   obtain ⟨m',hm,w7⟩:=hN σ7 H7 n7;refine ⟨m',hm,i+1,σ7,H7,I7.unpinned,T.keep _ _ _ st5 fun b hb o e=>(I7.pin (b,o) (zL _ (zL _ (Qe7 hb e)))).1,fun b hb=>?_,w7⟩;obtain ⟨o,e,d⟩:=T.obj _ _ st5 b hb;exact (I7.pin (b,o) (zL _ (zL _ (Qe7 hb e)))).2.1
  cases f with
  | next=>obtain ⟨σ7,H7,I7,n7⟩:=q7; exact again I7 n7
  | cont=>obtain ⟨σ7,H7,I7,n7⟩:=q7; exact again I7 n7
  | brk=>obtain ⟨σ7,H7,I7,q7⟩:=q7; exact ⟨σ7,H7,I7.unpinned,q7⟩
  | ret v=>obtain ⟨x7,σ7,H7,I7,r7,q7⟩:=q7; exact ⟨x7,σ7,H7,I7.unpinned,r7,q7⟩
end
abbrev R2:=V→V→Hp→VK→Prop
def OpR (X:Cx) (f:Value→Value→Sem Value) (r:R2):Prop :=
 ∀(pins:List (Addr×Obj)) (s:Shared) (σ:St) (H:Hp) (x y:V) (v u:Value) (Q:VK),Inv X pins σ H s→RelV x v→RelV y u→r x y H Q →
  wpAny (model X.prog X.w) X.A (f v u) (EP X pins σ Q) X.xe s
def UnR (X:Cx) (f:Value→Sem Value) (r:V→Hp→VK→Prop):Prop :=
 ∀(pins:List (Addr×Obj)) (s:Shared) (σ:St) (H:Hp) (x:V) (v:Value) (Q:VK),Inv X pins σ H s→RelV x v→r x H Q →
  wpAny (model X.prog X.w) X.A (f v) (EP X pins σ Q) X.xe s
def QgF (X:Cx) (f:Value) (r:List V→Hp→VK→Prop):Prop :=
 ∀(pins:List (Addr×Obj)) (s:Shared) (σ:St) (H:Hp) (xs:List V) (us:List Value) (Q:VK),Inv X pins σ H s→QaA xs us→r xs H Q →
  wpAny (model X.prog X.w) X.A (call f us) (EP X pins σ Q) X.xe s
def Qwk (X:Cx) (r:V→Hp→(Bool→Hp→Prop)→Prop):Prop :=
 ∀(pins:List (Addr×Obj)) (s:Shared) (σ:St) (H:Hp) (x:V) (v:Value) (Q:Bool→Hp→Prop),Inv X pins σ H s→RelV x v→r x H Q →
  wpAny (model X.prog X.w) X.A (truthy v) (TP X pins σ Q) X.xe s
def tOp (r:R2) (ta tb:TE):TE:=fun σ H Q=>ta σ H fun x H1=>tb σ H1 fun y H2=>r x y H2 Q
def tUn (r:V→Hp→VK→Prop) (ta:TE):TE:=fun σ H Q=>ta σ H fun x H1=>r x H1 Q
def rI (C:Int→Int→Prop) (g:Int→Int→V):R2:=fun x y H Q=>∃i j,x = .int i∧y = .int j∧C i j∧Q (g i j) H
def rI0 (g:Int→Int→V):R2:=fun x y H Q=>∃i j,x = .int i∧y = .int j∧Q (g i j) H
def rU (g:Int→V):V→Hp→VK→Prop:=fun x H Q=>∃i,x = .int i∧Q (g i) H
section
variable {X:Cx}{a b c:Expr}{ta tb tc:TE}{pos:Pos}
theorem QpP (ha:PE X a ta) (hb:PE X b tb) {pins:List (Addr×Obj)}{s:Shared}{σ:St}{H:Hp}{R:V→V→Hp→Prop} (I:Inv X pins σ H s)
  (h:ta σ H fun x H1=>tb σ H1 fun y H2=>R x y H2) {Q:Value→Shared→Prop}{f:Value→Value→Sem Value}
  (hf:∀v u s2 x y H2,Inv X pins σ H2 s2→RelV x v→RelV y u→R x y H2→wpAny (model X.prog X.w) X.A (f v u) Q X.xe s2) :
  wpAny (model X.prog X.w) X.A (eval a X.env) (fun v s₁=>wpAny (model X.prog X.w) X.A (eval b X.env) (fun u s₂=>wpAny (model X.prog X.w) X.A (f v u) Q X.xe s₂) X.xe s₁) X.xe s:=by
 refine thn (ha pins s σ H _ I h) fun v s1 ⟨x,H1,I1,r1,q1⟩=>?_
 refine thn (hb pins s1 σ H1 _ I1 q1) fun u s2 ⟨y,H2,I2,r2,q2⟩=>?_
 exact hf v u s2 x y H2 I2 r1 r2 q2
theorem Qvx {op:Operator}{r:R2} (ho:OpR X (binaryOp op) r) (ha:PE X a ta) (hb:PE X b tb):PE X (.BinOp a op b pos) (tOp r ta tb):=by
 intro pins s σ H Q I h;exact wpAny_BinOp (QpP ha hb I h fun v u s2 x y H2 I2 rx ry q=>ho pins s2 σ H2 x y v u Q I2 rx ry q)
theorem QvD {op:UnaryOp}{r:V→Hp→VK→Prop} (ho:UnR X (unaryOp op) r) (ha:PE X a ta):PE X (.UnaryOp op a pos) (tUn r ta):=by
 intro pins s σ H Q I h;exact UnaryOp_ (thn (ha pins s σ H _ I h) fun v s1 ⟨x,H1,I1,r1,q1⟩=>ho pins s1 σ H1 x v Q I1 r1 q1)
theorem opI {f:Value→Value→Sem Value}{C:Int→Int→Prop}{g:Int→Int→Int}
  (rule:∀(i j:Int) (t u:Tok) (s:Shared) (Q:Value→Shared→Prop) (E:Value→Shared→Prop),C i j→Q (.int (g i j) s.toks) { s with toks:=s.toks+1 }→wpAny (model X.prog X.w) X.A (f (.int i t) (.int j u)) Q E s) :
  OpR X f (rI C fun i j=>.int (g i j)):=by
 intro pins s σ H x y v u Q I rx ry h;obtain ⟨i,j,rfl,rfl,hc,q⟩:=h;obtain ⟨t,rfl⟩:=rx;obtain ⟨t',rfl⟩:=ry;exact rule i j t t' s _ _ hc ⟨.int (g i j),H,I.tok _,⟨_,rfl⟩,q⟩
theorem QsT {f:Value→Value→Sem Value}{g:Int→Int→Int}
  (rule:∀(i j:Int) (t u:Tok) (s:Shared) (Q:Value→Shared→Prop) (E:Value→Shared→Prop),Q (.int (g i j) s.toks) { s with toks:=s.toks+1 }→wpAny (model X.prog X.w) X.A (f (.int i t) (.int j u)) Q E s) :
  OpR X f (rI0 fun i j=>.int (g i j)):=by
 intro pins s σ H x y v u Q I rx ry h;obtain ⟨i,j,rfl,rfl,q⟩:=h;obtain ⟨t,rfl⟩:=rx;obtain ⟨t',rfl⟩:=ry;exact rule i j t t' s _ _ ⟨.int (g i j),H,I.tok _,⟨_,rfl⟩,q⟩
theorem Qpu {f:Value→Value→Sem Value}{g:Int→Int→Bool}
  (rule:∀(i j:Int) (t u:Tok) (s:Shared) (Q:Value→Shared→Prop) (E:Value→Shared→Prop),Q (.bool (g i j)) s→wpAny (model X.prog X.w) X.A (f (.int i t) (.int j u)) Q E s) :
  OpR X f (rI0 fun i j=>.bl (g i j)):=by
 intro pins s σ H x y v u Q I rx ry h;obtain ⟨i,j,rfl,rfl,q⟩:=h;obtain ⟨t,rfl⟩:=rx;obtain ⟨t',rfl⟩:=ry;exact rule i j t t' s _ _ ⟨.bl (g i j),H,I,rfl,q⟩
def Qwc (i j:Int):Prop:=0 < j∧j < 1073741824
def Qws (i j:Int):Prop:=0≤j∧j≤1000000∧i.natAbs < 2 ^ 64
def QpV (i j:Int):Prop:=(-(2 ^ 64) < i∧i < 2 ^ 64)∨(-(2 ^ 64) < j∧j < 2 ^ 64)
theorem QpV.ok {i j:Int} (h:QpV i j):IntMulOk i j:=by
 rcases h with ⟨h1,h2⟩ | ⟨h1,h2⟩
 ·exact .of_left (intBits_le_64 h1 h2)
 ·exact .of_right (intBits_le_64 h1 h2)
theorem Qt9:OpR X (binaryOp .Add) (rI0 fun i j=>.int (i+j)):=QsT fun _ _ _ _ _ _ _ q=>add_int q
theorem Qux:OpR X (binaryOp .Sub) (rI0 fun i j=>.int (i - j)):=QsT fun _ _ _ _ _ _ _ q=>sub_int q
theorem QsZ:OpR X (binaryOp .Mult) (rI QpV fun i j=>.int (i * j)):=opI fun _ _ _ _ _ _ _ hc q=>mul_int q hc.ok
theorem QrZ:OpR X (binaryOp .FloorDiv) (rI Qwc fun i j=>.int (i / j)):=opI fun i j _ _ _ _ _ hc q=>by
 have h1:(0:Int) < j:=hc.1;have h2:j < 1073741824:=hc.2;exact floordiv_int (by omega) (by rw [Int.fdiv_eq_ediv_of_nonneg i (by omega)]; exact q) (.inl (PyProof.noPylong_small (by omega)))
theorem QsU:OpR X (binaryOp .Mod) (rI (fun _ j=>0 < j) fun i j=>.int (i % j)):=opI fun i j _ _ _ _ _ hc q=>by
 have h1:(0:Int) < j:=hc;exact mod_int' (by omega) (by rw [Int.fmod_eq_emod_of_nonneg i (by omega)]; exact q)
theorem Quz:OpR X (binaryOp .Pow) (rI Qws fun i j=>.int (i ^ j.toNat)):=opI fun _ _ _ _ _ _ _ hc q=>pow_int_small hc.1 hc.2.1 hc.2.2 q
theorem unI {f:Value→Sem Value}{g:Int→Int}
  (rule:∀(i:Int) (t:Tok) (s:Shared) (Q:Value→Shared→Prop) (E:Value→Shared→Prop),Q (.int (g i) s.toks) { s with toks:=s.toks+1 }→wpAny (model X.prog X.w) X.A (f (.int i t)) Q E s) :
  UnR X f (rU fun i=>.int (g i)):=by
 intro pins s σ H x v Q I rx h;obtain ⟨i,rfl,q⟩:=h;obtain ⟨t,rfl⟩:=rx;exact rule i t s _ _ ⟨.int (g i),H,I.tok _,⟨_,rfl⟩,q⟩
theorem QtR:UnR X (unaryOp .USub) (rU fun i=>.int (-i)):=unI fun _ _ _ _ _ q=>neg_int q
theorem QoW:OpR X (binaryOp .Add) (fun x y H Q=>∃i k,x = .int i∧y = .bl k∧Q (.int (i+b2i k)) H):=by
 intro pins s σ H x y v u Q I rx ry h;obtain ⟨i,k,rfl,rfl,q⟩:=h;obtain ⟨t,rfl⟩:=rx;cases ry;exact add_int_bool ⟨.int (i+b2i k),H,I.tok _,⟨_,rfl⟩,q⟩
end
def Qt7:V→V→Bool
 | .non,.non=>true | .non,.int _=>true | .int _,.non=>true | .non,.bl _=>true | .bl _,.non=>true | .non,.str _=>true | .str _,.non=>true
 | .int _,.int _=>true | .bl _,.bl _=>true | .str _,.str _=>true | .byt _,.byt _=>true
 | .int _,.str _=>true | .str _,.int _=>true | .bl _,.str _=>true | .str _,.bl _=>true
 | _,_=>false
def rEq:R2:=fun x y H Q=>Qt7 x y=true∧Q (.bl (decide (x=y))) H
def rNe:R2:=fun x y H Q=>Qt7 x y=true∧Q (.bl (!decide (x=y))) H
theorem Ql6 {i j:Int}:decide (V.int i=V.int j)=(i == j):=by
 rw [Bool.eq_iff_iff];simp
theorem QnS {i j:Bool}:decide (V.bl i=V.bl j)=(i == j):=by
 rw [Bool.eq_iff_iff];simp
theorem Qmr {i j:Str}:decide (V.str i=V.str j)=(i == j):=by
 rw [Bool.eq_iff_iff];simp
theorem Ql8 {i j:Array UInt8}:decide (V.byt i=V.byt j)=(i.toList == j.toList):=by
 rw [Bool.eq_iff_iff];cases i;cases j;simp
section
variable {X:Cx}{a b c:Expr}{ta tb tc:TE}{pos:Pos}
theorem Qa4 {pins:List (Addr×Obj)}{σ:St}{H:Hp}{s:Shared}{Q:VK}{k k':Bool} (I:Inv X pins σ H s) (q:Q (.bl k) H) (e:k=k'):EP X pins σ Q (.bool k') s:=by
 subst e;exact ⟨.bl k,H,I,rfl,q⟩
theorem QhG:OpR X (compareOp .Eq) rEq:=by
 intro pins s σ H x y v u Q I rx ry h;obtain ⟨hs,q⟩:=h
 cases x with
 | non =>
  cases rx
  cases y with
  | non=>cases ry; exact PySem.EqNone.eq_none_none (Qa4 I q (by simp))
  | bl j=>cases ry; exact PySem.EqNone.eq_none_bool (Qa4 I q (by simp))
  | int j=>obtain ⟨t',rfl⟩:=ry; exact PySem.EqNone.eq_none_int (Qa4 I q (by simp))
  | str j=>obtain ⟨t',rfl⟩:=ry; exact PySem.EqNone.eq_none_str (Qa4 I q (by simp))
  | _=>exact absurd (show false=true from hs) zf
 | bl i =>
  cases rx
  cases y with
  | non=>cases ry; exact PySem.EqNone.eq_bool_none (Qa4 I q (by simp))
  | bl j=>cases ry; exact eq_bool (Qa4 I q QnS)
  | str j=>obtain ⟨t',rfl⟩:=ry; exact PySem.EqMixed.eq_bool_str (Qa4 I q (by simp))
  | _=>exact absurd (show false=true from hs) zf
 | int i =>
  obtain ⟨t,rfl⟩:=rx
  cases y with
  | non=>cases ry; exact PySem.EqNone.eq_int_none (Qa4 I q (by simp))
  | int j=>obtain ⟨t',rfl⟩:=ry; exact eq_int (Qa4 I q Ql6)
  | str j=>obtain ⟨t',rfl⟩:=ry; exact PySem.EqMixed.eq_int_str (Qa4 I q (by simp))
  | _=>exact absurd (show false=true from hs) zf
 | str i =>
  obtain ⟨t,rfl⟩:=rx
  cases y with
  | non=>cases ry; exact PySem.EqNone.eq_str_none (Qa4 I q (by simp))
  | bl j=>cases ry; exact PySem.EqMixed.eq_str_bool (Qa4 I q (by simp))
  | int j=>obtain ⟨t',rfl⟩:=ry; exact PySem.EqMixed.eq_str_int (Qa4 I q (by simp))
  | str j=>obtain ⟨t',rfl⟩:=ry; exact eq_str (Qa4 I q Qmr)
  | _=>exact absurd (show false=true from hs) zf
 | byt i =>
  obtain ⟨t,rfl⟩:=rx
  cases y with
  | byt j=>obtain ⟨t',rfl⟩:=ry; exact PySem.W.eq_bytes (Qa4 I q Ql8)
  | _=>exact absurd (show false=true from hs) zf
 | _=>cases y <;> exact absurd (show false=true from hs) zf
theorem QmL:OpR X (compareOp .NotEq) rNe:=by
 intro pins s σ H x y v u Q I rx ry h;obtain ⟨hs,q⟩:=h
 cases x with
 | non =>
  cases rx
  cases y with
  | non=>cases ry; exact PySem.EqNone.ne_none_none (Qa4 I q (by simp))
  | bl j=>cases ry; exact PySem.EqNone.ne_none_bool (Qa4 I q (by simp))
  | int j=>obtain ⟨t',rfl⟩:=ry; exact PySem.EqNone.ne_none_int (Qa4 I q (by simp))
  | str j=>obtain ⟨t',rfl⟩:=ry; exact PySem.EqNone.ne_none_str (Qa4 I q (by simp))
  | _=>exact absurd (show false=true from hs) zf
 | bl i =>
  cases rx
  cases y with
  | non=>cases ry; exact PySem.EqNone.ne_bool_none (Qa4 I q (by simp))
  | bl j=>cases ry; exact ne_bool (Qa4 I q (congrArg not QnS))
  | str j=>obtain ⟨t',rfl⟩:=ry; exact PySem.EqMixed.ne_bool_str (Qa4 I q (by simp))
  | _=>exact absurd (show false=true from hs) zf
 | int i =>
  obtain ⟨t,rfl⟩:=rx
  cases y with
  | non=>cases ry; exact PySem.EqNone.ne_int_none (Qa4 I q (by simp))
  | int j=>obtain ⟨t',rfl⟩:=ry; exact ne_int (Qa4 I q (congrArg not Ql6))
  | str j=>obtain ⟨t',rfl⟩:=ry; exact PySem.EqMixed.ne_int_str (Qa4 I q (by simp))
  | _=>exact absurd (show false=true from hs) zf
 | str i =>
  obtain ⟨t,rfl⟩:=rx
  cases y with
  | non=>cases ry; exact PySem.EqNone.ne_str_none (Qa4 I q (by simp))
  | bl j=>cases ry; exact PySem.EqMixed.ne_str_bool (Qa4 I q (by simp))
  | int j=>obtain ⟨t',rfl⟩:=ry; exact PySem.EqMixed.ne_str_int (Qa4 I q (by simp))
  | str j=>obtain ⟨t',rfl⟩:=ry; exact ne_str (Qa4 I q (congrArg not Qmr))
  | _=>exact absurd (show false=true from hs) zf
 | byt i =>
  obtain ⟨t,rfl⟩:=rx
  cases y with
  | byt j=>obtain ⟨t',rfl⟩:=ry; exact PySem.W.ne_bytes (Qa4 I q (congrArg not Ql8))
  | _=>exact absurd (show false=true from hs) zf
 | _=>cases y <;> exact absurd (show false=true from hs) zf
theorem QuZ:OpR X (compareOp .Lt) (rI0 fun i j=>.bl (decide (i < j))):=Qpu fun _ _ _ _ _ _ _ q=>lt_int q
theorem Qu7:OpR X (compareOp .LtE) (rI0 fun i j=>.bl (decide (i≤j))):=Qpu fun _ _ _ _ _ _ _ q=>le_int q
theorem Qvp:OpR X (compareOp .Gt) (rI0 fun i j=>.bl (decide (j < i))):=Qpu fun _ _ _ _ _ _ _ q=>gt_int q
theorem QoB:OpR X (compareOp .In) (fun x y H Q=>∃i j,x = .str i∧y = .str j∧Q (.bl (!(Builtin.Str.occurrences j i 0 j.length 1).isEmpty)) H):=by
 intro pins s σ H x y v u Q I rx ry h;obtain ⟨i,j,rfl,rfl,q⟩:=h;obtain ⟨t,rfl⟩:=rx;obtain ⟨t',rfl⟩:=ry;exact in_str (Qa4 I q rfl)
theorem QaF (b:Expr) {op:CmpOp} (h:op≠.In:=by decide) (h2:op≠.NotIn:=by decide):behindInMarks op b=false:=by
 have e1:(op == CmpOp.In)=false:=by cases op <;> first | rfl | exact absurd rfl h
 have e2:(op == CmpOp.NotIn)=false:=by cases op <;> first | rfl | exact absurd rfl h2
 cases b <;> simp [behindInMarks,e1,e2]
theorem QrO {op:CmpOp}{r:R2} (ho:OpR X (compareOp op) r) (ha:PE X a ta) (hb:PE X b tb) (hm:behindInMarks op b=false):PE X (.Compare a [op] [b] pos) (tOp r ta tb):=by
 intro pins s σ H Q I h;exact wpAny_Compare1 (QpP ha hb I h fun v u s2 x y H2 I2 rx ry q=>ho pins s2 σ H2 x y v u Q I2 rx ry q) hm
def Qm9 (t:TE):TT:=fun σ H Q=>t σ H fun x H'=>∃k,x = .bl k∧Q k H'
theorem QrT {op:CmpOp}{r:R2} (ho:OpR X (compareOp op) r) (ha:PE X a ta) (hb:PE X b tb) (hm:behindInMarks op b=false):PT X (.Compare a [op] [b] pos) (Qm9 (tOp r ta tb)):=by
 intro pins s σ H Q I h
 refine wpAny_isTrue_Compare1 (thn (ha pins s σ H _ I h) fun v s1 ⟨x,H1,I1,r1,q1⟩=>thn (hb pins s1 σ H1 _ I1 q1) fun u s2 ⟨y,H2,I2,r2,q2⟩ =>
  thn (ho pins s2 σ H2 x y v u _ I2 r1 r2 q2) fun c s3 ⟨z,H3,I3,r3,k,e,q3⟩=>?_) hm
 subst e;cases r3;exact wpAny_truthy_bool ⟨H3,I3,q3⟩
def Qn7 (r r':R2) (ta tb tc:TE):TE:=fun σ H Q=>ta σ H fun x H1=>tb σ H1 fun y H2=>r x y H2 fun z H3=>∃k,z = .bl k ∧
 (if k=true then tc σ H3 fun w' H4=>r' y w' H4 Q else Q (.bl false) H3)
theorem Qph {op op':CmpOp}{r r':R2} (ho:OpR X (compareOp op) r) (ho':OpR X (compareOp op') r') (ha:PE X a ta) (hb:PE X b tb) (hc:PE X c tc)
  (hm:lastMarks [op,op'] [b,c]=false:=by with_unfolding_all rfl):PE X (.Compare a [op,op'] [b,c] pos) (Qn7 r r' ta tb tc):=by
 intro pins s σ H Q I h
 refine Compare_chain (thn (ha pins s σ H _ I h) fun v s1 ⟨x,H1,I1,r1,q1⟩=>chain_link (thn (hb pins s1 σ H1 _ I1 q1) fun u s2 ⟨y,H2,I2,r2,q2⟩ =>
  thn (ho pins s2 σ H2 x y v u _ I2 r1 r2 q2) fun d s3 ⟨z,H3,I3,r3,k,e,q3⟩=>?_)) hm
 subst e;cases r3;refine wpAny_truthy_bool ?_
 cases k with
 | false=>exact ite_ff ⟨.bl false,H3,I3,rfl,q3⟩
 | true=>exact ite_tt (chain_last (thn (hc pins s3 σ H3 _ I3 q3) fun w' s4 ⟨z',H4,I4,r4,q4⟩=>ho' pins s4 σ H4 y z' u w' Q I4 r2 r4 q4))
def Qqs (K:PySem.W.Frag) (x:V) (H:Hp) (k:Bool):Prop :=
 match x with
 | .non=>k=false
 | .bl b=>k=b
 | .int i=>k=(i != 0)
 | .str y=>y.length≤sizeLine∧k=((y.length:Int) != 0)
 | .byt y=>y.size≤sizeLine∧k=((y.size:Int) != 0)
 | .ref p=>(∃xs,SqL K H p xs∧k = !xs.isEmpty)∨(∃xs,SqT K H p xs∧k = !xs.isEmpty)∨∃kvs,H p=some (.dK kvs)∧k = !kvs.isEmpty
 | _=>False
theorem QmO {κ:Type}{kvs:List (κ×V)}{vs:List (κ×Value)} (r:KV kvs vs):(!vs.isEmpty) = !kvs.isEmpty:=by
 cases r <;> rfl
theorem Qiv {xs:List V}{its:List Value} (r:QaA xs its):(!its.toArray.isEmpty) = !xs.isEmpty:=by
 cases r <;> simp
theorem Qhw:(sizeLine:Nat) < 2 ^ 63:=by rw [sizeLine_eq]; decide
theorem Qgm:Qwk X (fun x H Q=>∃k,Qqs X.K x H k∧Q k H):=by
 intro pins s σ H x v Q I rx h;obtain ⟨k,e,q⟩:=h;have hl:=Qhw;have hs:sizeLine=16777216:=sizeLine_eq
 cases x with
 | non =>
  cases rx;have e':k=false:=e;subst e';exact truthy_none ⟨H,I,q⟩
 | bl b =>
  cases rx;have e':k=b:=e;subst e';exact wpAny_truthy_bool ⟨H,I,q⟩
 | int i =>
  obtain ⟨t,rfl⟩:=rx;have e':k=(i != 0):=e;subst e';exact PySem.P.truthy_int ⟨H,I,q⟩
 | str y =>
  obtain ⟨t,rfl⟩:=rx;obtain ⟨hy,e'⟩:y.length≤sizeLine∧k=((y.length:Int) != 0):=e;subst e';exact PySem.P.truthy_str (by omega) ⟨H,I.tok _,q⟩
 | byt y =>
  obtain ⟨t,rfl⟩:=rx;obtain ⟨hy,e'⟩:y.size≤sizeLine∧k=((y.size:Int) != 0):=e;subst e';exact PySem.W.truthy_bytes (by omega) ⟨H,I.tok _,q⟩
 | ref p =>
  cases rx;have e':(∃xs,SqL X.K H p xs∧k = !xs.isEmpty)∨(∃xs,SqT X.K H p xs∧k = !xs.isEmpty)∨∃kvs,H p=some (.dK kvs)∧k = !kvs.isEmpty:=e
  rcases e' with ⟨xs,hx,e'⟩ | ⟨xs,hx,e'⟩ | ⟨kvs,hx,e'⟩
  ·subst e';obtain ⟨its,r,pl,hz⟩:=I.list hx;have hlen:=r.length;exact wpAny_truthy_list pl.isList (by simp only [zo]; omega) ⟨H,I.tok _,by rw [Qiv r]; exact q⟩
  ·subst e';obtain ⟨its,r,pl,hz⟩:=I.tuple hx;have hlen:=r.length;exact truthy_tuple pl (by simp only [zo]; omega) ⟨H,I.tok _,by rw [Qiv r]; exact q⟩
  ·subst e';obtain ⟨hz,hS,vs,r,m⟩:kvs.length≤sizeLine∧(p == sysModules)=false∧∃vs,KV kvs vs∧s.heap.DictOf (QbB X.prog X.w) p vs:=I.hok p _ hx;have hlen:kvs.length=vs.length:=Paired.length r;exact wpAny_truthy_dict hS m (by omega) ⟨H,I.tok _,by rw [QmO r]; exact q⟩
 | _=>exact (show False from e).elim
theorem QpB (ha:PE X a ta) (he:∀whole,isTrue a X.env whole=(do let v ←whole; standAt a.pos; holding [v] (truthy v))) :
  PT X a (fun σ H Q=>ta σ H fun x H'=>∃k,Qqs X.K x H' k∧Q k H'):=by
 intro pins s σ H Q I h;exact isTrue_plain (thn (ha pins s σ H _ I h) fun v s1 ⟨x,H1,I1,r1,q1⟩=>Qgm pins s1 σ H1 x v Q I1 r1 q1) (he _)
theorem Qnb:OpR X (binaryOp .Add) (fun x y H Q=>∃i j,x = .str i∧y = .str j∧i.length+j.length≤sizeLine∧Q (.str (i++j)) H):=by
 intro pins s σ H x y v u Q I rx ry h;obtain ⟨i,j,rfl,rfl,hz,q⟩:=h;obtain ⟨t,rfl⟩:=rx;obtain ⟨t',rfl⟩:=ry;exact add_str (fun t' tk=>⟨.str (i++j),H,I.tok _,⟨_,rfl⟩,q⟩) hz
theorem vals1 {x:V}{us:List Value} (r:QaA [x] us):∃u,us = [u]∧RelV x u:=by
 cases r with
 | cons r1 r2=>cases r2; exact ⟨_,rfl,r1⟩
theorem vals2 {x y:V}{us:List Value} (r:QaA [x,y] us):∃u w',us = [u,w']∧RelV x u∧RelV y w':=by
 cases r with
 | cons r1 r2 =>
  cases r2 with
  | cons r3 r4=>cases r4; exact ⟨_,_,rfl,r1,r3⟩
theorem QjV:QgF X (.type "int") (fun xs H Q=>(∃i,xs = [.int i]∧Q (.int i) H)∨∃k,xs = [.bl k]∧Q (.int (if k then 1 else 0)) H):=by
 intro pins s σ H xs us Q I r h
 rcases h with ⟨i,rfl,q⟩ | ⟨k,rfl,q⟩
 ·obtain ⟨u,rfl,t,rfl⟩:=vals1 r;exact call_int_int ⟨.int i,H,I,⟨_,rfl⟩,q⟩
 ·obtain ⟨u,rfl,r1⟩:=vals1 r;cases r1;exact call_int_bool ⟨.int (if k then 1 else 0),H,I.tok _,⟨_,rfl⟩,q⟩
def Qwr (K:PySem.W.Frag) (x:V) (H:Hp) (n:Nat):Prop :=
 match x with
 | .str y=>y.length≤sizeLine∧n=y.length
 | .byt y=>y.size≤sizeLine∧n=y.size
 | .ref p=>(∃xs,SqL K H p xs∧n=xs.length)∨∃xs,SqT K H p xs∧n=xs.length
 | _=>False
theorem call_len:QgF X (.builtin "len") (fun xs H Q=>∃x n,xs = [x]∧Qwr X.K x H n∧Q (.int n) H):=by
 intro pins s σ H xs us Q I r h;obtain ⟨x,n,rfl,e,q⟩:=h;obtain ⟨u,rfl,rx⟩:=vals1 r;have hl:=Qhw;have hs:sizeLine=16777216:=sizeLine_eq
 cases x with
 | str y =>
  obtain ⟨t,rfl⟩:=rx;obtain ⟨hy,e'⟩:y.length≤sizeLine∧n=y.length:=e;subst e';exact len_str (by omega) ⟨.int _,H,I.tok _,⟨_,rfl⟩,q⟩
 | byt y =>
  obtain ⟨t,rfl⟩:=rx;obtain ⟨hy,e'⟩:y.size≤sizeLine∧n=y.size:=e;subst e';exact PySem.W.len_bytes (by omega) ⟨.int _,H,I.tok _,⟨_,rfl⟩,q⟩
 | ref p =>
  cases rx;have e':(∃xs,SqL X.K H p xs∧n=xs.length)∨∃xs,SqT X.K H p xs∧n=xs.length:=e
  rcases e' with ⟨xs,hx,e'⟩ | ⟨xs,hx,e'⟩
  ·subst e';obtain ⟨its,r',pl,hz⟩:=I.list hx;have hlen:=r'.length;exact Calls.call_len_list pl.isList (by simp only [zo]; omega) ⟨.int xs.length,H,I.tok _,⟨_,by simp only [zo]; rw [hlen]⟩,q⟩
  ·subst e';obtain ⟨its,r',pl,hz⟩:=I.tuple hx;have hlen:=r'.length;exact len_tuple pl (by simp only [zo]; omega) ⟨.int xs.length,H,I.tok _,⟨_,by simp only [zo]; rw [hlen]⟩,q⟩
 | _=>exact (show False from e).elim
end
structure Qii (h:Heap) (x dx C:Addr) (mA:Str→Option Value):Prop where
 obj:h.get? x=some (PySem.W.instObj C dx)
 ns:h.Ns1 dx mA
 ne:dx≠x
theorem Qj4 {h:Heap}{dx:Addr}{mA:Str→Option Value} (n:h.Ns1 dx mA):∃od,h.get? dx=some od∧∀name,PySem.W.lookIn name od=some (mA name):=by
 obtain ⟨o,es,ep,ho,hd,hk,_,hm⟩:=n;refine ⟨o,ho,fun name=>?_⟩;have e:=hm name;unfold nsFind findBy at e;rw [←Array.find?_toList] at e;unfold PySem.W.lookIn;rw [hd];dsimp only
 split
 ·rename_i y q;rw [q] at e;exact congrArg some e
 ·rename_i q;rw [q] at e
  have a:es.toList.any (·.refKey)=false:=by
   rw [List.any_eq_false];intro y hy;obtain ⟨z,t,hkey⟩:=hk y (Array.mem_toList_iff.mp hy);simp [DictEntry.refKey,hkey]
  have a':¬es.toList.any (·.refKey)=true:=by rw [a]; exact zf
  rw [if_neg a'];exact congrArg some e
theorem Qii.look {h:Heap}{x dx C:Addr}{mA:Str→Option Value} (I:Qii h x dx C mA):∃od,PySem.W.InstAt h x (PySem.W.instObj C dx) C (some od)∧∀name,PySem.W.lookIn name od=some (mA name) :=
 let ⟨od,ho,hl⟩:=Qj4 I.ns
 ⟨od,⟨I.obj,rfl,rfl,ho⟩,hl⟩
section
variable {prog:Program}{w:World}{A:Around}{E:Value→Shared→Prop}{s:Shared}{K:PySem.W.Frag}{x dx C f:Addr}{mA:Str→Option Value}{name:Str}{v:Value}
theorem QrB {expr:Bool}{Q:Value→Shared→Prop} (X:K.In s.heap) (I:Qii s.heap x dx C mA) (hg:PySem.W.plainGet K C name=true) (hh:PySem.W.hasDictIn K C=true)
  (ha:PySem.W.findIn K (.ref C) name=some none) (hv:mA name=some v) (hv':PySem.W.handedIn v=true) (h:Q v { s with toks:=s.toks+1 }) :
  wpAny (model prog w) A (getAttr (.ref x) name expr) Q E s:=by
 obtain ⟨od,J,hl⟩:=I.look;exact PySem.W.get_value X J (PySem.W.plainGet_of hg).1 (PySem.W.findObj_own hh ha rfl (by rw [hl,hv])) hv' h
theorem QpL {pl:Sem Bool}{Q:Value×List Value→Shared→Prop} (X:K.In s.heap) (I:Qii s.heap x dx C mA) (hg:PySem.W.plainGet K C name=true)
  (hf:PySem.W.findIn K (.ref C) name=some (some (.ref f))) (ht:PySem.W.isFn K (.ref f)=true) (hv:mA name=none) (h:Q (.ref f,[.ref x]) s) :
  wpAny (model prog w) A (getMethod (.ref x) name pl) Q E s:=by
 obtain ⟨od,J,hl⟩:=I.look;exact PySem.W.method_fn X J (PySem.W.plainGet_of hg).1 (PySem.W.plainGet_of hg).2 hf (beq_iff_eq.mp ht) (by show (PySem.W.lookIn name od).map (·.isSome)=some false; rw [hl,hv]; rfl) h
theorem Qre {ns:List Str}{Q:Unit→Shared→Prop} (X:K.In s.heap) (I:Qii s.heap x dx C mA)
  (hs:PySem.W.findIn K (.ref C) "__setattr__" = some (some (.builtin "object.__setattr__"))) (hp:PySem.W.plainOver K C=true) (ht:PySem.W.takerIn K C name=some none) (hh:PySem.W.hasDictIn K C=true)
  (hw:PySem.Within mA ns) (hsz:ns.length≤sizeLine)
  (h:∀h',Qii h' x dx C (fun y=>if y=name then some v else mA y)→Heap.SameBut dx s.heap h'→Q () { s with heap:=h',toks:=s.toks+2 }) :
  wpAny (model prog w) A (setAttr (.ref x) name v) Q E s:=by
 obtain ⟨od,J,hl⟩:=I.look;refine PySem.W.set_plain X J hs (PySem.W.osa_open (s:={ s with toks:=s.toks+1 }) (r:=none) X J hp ht fun b=>?_);obtain ⟨cd,hc,hd'⟩:=PySem.W.any_some hh;have hx:s.heap.get? x=some ⟨.ref C,some dx,.plain,#[]⟩:=I.obj;refine za (zb (za (za (wpAny_loadPart hx (za (PySem.W.Looks.here (s:={ s with toks:=s.toks+1 }) (PySem.W.looks_clsIn X hc) ?_))))));rw [hd'];refine zb (a:=some dx) (za (zb (za ?_)))
 refine wpAny_nsSet1 (s:={ s with toks:=s.toks+1 }) I.ns fun h' hn2 hs2=>?_
 obtain ⟨oD,esD,epD,hoD,hdD,hcD⟩:=hn2.count (PySem.Within.cons name v hw);refine za (wpAny_lookBehind hoD (by rw [hdD]; exact pastItsLine_dict (zu hcD (by rw [zp]; omega))) ?_);exact zb (h _ ⟨(hs2.2 _ (Ne.symm I.ne)).trans I.obj,hn2,I.ne⟩ hs2)
theorem QpD {R:Result→Shared→Prop}{vs:List Value}{kw:List (Str×Value)} (X:K.In s.heap) (hm:PySem.W.makesIn K C=true)
  (hi:PySem.W.findIn K (.ref C) "__init__" = some (some (.ref f))) (hf:PySem.W.typeIn K (.ref f)=some (.type "function"))
  (h:codeAny (model prog w) (A.under (.builtin "type.__call__" ⟨.ref C::vs,kw⟩)) (.call (.ref f) ⟨.ref (s.heap.objs.size+1)::vs,kw⟩) (PySem.W.InitBack (s.heap.objs.size+1) R)
   { s with heap:=(s.heap.push PySem.W.emptyDict).push (PySem.W.instObj C s.heap.objs.size) }) :
  codeAny (model prog w) A (.call (.ref C) ⟨vs,kw⟩) R s:=by
 obtain ⟨hh,g,d,t,os⟩:=s;exact PySem.W.make_core (PySem.W.makes_of X hm) (PySem.W.looks_findIn X hi) (fun self=>PySem.W.bind_fn X self hf) (.inl rfl) h
end
def Qcx (f:Str) (v:V):List (Str×V)→List (Str×V)
 | []=>[(f,v)]
 | (g,x)::r=>if g=f then (g,v)::r else (g,x)::Qcx f v r
theorem Qh0 (f g:Str) (v:V):∀fs:List (Str×V),(Qcx f v fs).lookup g=if g=f then some v else fs.lookup g
 | []=>by
  show List.lookup g [(f,v)]=_
  by_cases h:g=f
  ·have hb:(g == f)=true:=beq_iff_eq.mpr h;simp only [List.lookup,hb,if_pos h]
  ·have hb:(g == f)=false:=beq_eq_false_iff_ne.mpr h;simp only [List.lookup,hb,if_neg h]
 | (k,x)::r=>by
  have ih:=Qh0 f g v r;rw [show Qcx f v ((k,x)::r)=(if k=f then (k,v)::r else (k,x)::Qcx f v r) from rfl]
  by_cases hk:k=f
  ·rw [if_pos hk]
   by_cases h:g=k
   ·have hb:(g == k)=true:=beq_iff_eq.mpr h;simp only [List.lookup,hb,if_pos (h.trans hk)]
   ·have hb:(g == k)=false:=beq_eq_false_iff_ne.mpr h;simp only [List.lookup,hb,if_neg (fun e:g=f=>h (e.trans hk.symm))]
  ·rw [if_neg hk]
   by_cases h:g=k
   ·have hb:(g == k)=true:=beq_iff_eq.mpr h;simp only [List.lookup,hb,if_neg (fun e:g=f=>hk (h.symm.trans e))]
   ·have hb:(g == k)=false:=beq_eq_false_iff_ne.mpr h;simp only [List.lookup,hb];exact ih
theorem Qhp (f:Str) (v:V):∀fs:List (Str×V),f∈(Qcx f v fs).map (·.1)∧∀g,g∈fs.map (·.1)→g∈(Qcx f v fs).map (·.1)
 | []=>⟨by simp [Qcx],fun g h=>by simp at h⟩
 | (k,x)::r=>by
  obtain ⟨i1,i2⟩:=Qhp f v r;rw [show Qcx f v ((k,x)::r)=(if k=f then (k,v)::r else (k,x)::Qcx f v r) from rfl]
  by_cases hk:k=f
  ·rw [if_pos hk];subst hk;exact ⟨by simp,fun g h=>by simpa using h⟩
  ·rw [if_neg hk];refine ⟨?_,fun g h=>?_⟩
   ·rw [ze];exact zw _ i1
   ·rw [ze] at h ⊢
    rcases zk.mp h with e | e
    ·exact zk.mpr (.inl e)
    ·exact zw _ (i2 g e)
theorem QhY (f:Str) (v:V):∀fs:List (Str×V),(Qcx f v fs).length≤fs.length+1
 | []=>by simp [Qcx]
 | (k,x)::r=>by
  have ih:=QhY f v r;rw [show Qcx f v ((k,x)::r)=(if k=f then (k,v)::r else (k,x)::Qcx f v r) from rfl]
  by_cases hk:k=f
  ·rw [if_pos hk,zp,zp]; omega
  ·rw [if_neg hk,zp,zp]; omega
theorem QcJ.some_of {v:V}{o:Option Value} (r:QcJ (some v) o):∃u,o=some u∧RelV v u:=by
 cases o with
 | none=>exact (show False from r).elim
 | some u=>exact ⟨u,rfl,r⟩
theorem QcJ.none_of {o:Option Value} (r:QcJ none o):o=none:=by
 cases o with
 | none=>rfl
 | some u=>exact (show False from r).elim
theorem QjZ {v:V}{u:Value} (r:RelV v u):PySem.W.handedIn u=true:=by
 cases v with
 | non=>cases (show u=Value.none from r); rfl
 | bl b=>cases (show u=Value.bool b from r); rfl
 | int i=>obtain ⟨t,e⟩:=(show ∃t,u=Value.int i t from r); cases e; rfl
 | str x=>obtain ⟨t,e⟩:=(show ∃t,u=Value.str x t from r); cases e; rfl
 | byt b=>obtain ⟨t,e⟩:=(show ∃t,u=Value.bytes b t from r); cases e; rfl
 | flt b=>obtain ⟨t,e⟩:=(show ∃t,u=Value.float b t from r); cases e; rfl
 | ref a=>cases (show u=Value.ref a from r); rfl
 | ty n=>cases (show u=Value.type n from r); rfl
section
variable {P:Program}{w:World}{H H':Hp}{h h':Heap}{a C dx:Addr}{fs fs':List (Str×V)}
theorem QhL (hok:HOk P w H h) (e:H a=some (.ins C dx fs)):∃mA,Qii h a dx C mA∧(∀f,QcJ (fs.lookup f) (mA f))∧PySem.Within mA (fs.map (·.1))∧fs.length≤1000∧H dx=some (.own a):=by
 obtain ⟨d,z,ne,ob,mA,n,r,q⟩:=(show Qbi P w H h a (.ins C dx fs) from hok a _ e);exact ⟨mA,⟨ob,n,ne⟩,r,q,z,d⟩
end
structure Cls (K:PySem.W.Frag) (C:Addr):Prop where
 pg:PySem.W.plainGet K C Str.empty=true
 hd:PySem.W.hasDictIn K C=true
 po:PySem.W.plainOver K C=true
 sa:PySem.W.findIn K (.ref C) "__setattr__" = some (some (.builtin "object.__setattr__"))
theorem Cls.get {K:PySem.W.Frag}{C:Addr} (c:Cls K C) (f:Str):PySem.W.plainGet K C f=true:=c.pg
def Qfv (K:PySem.W.Frag) (C:Addr) (f:Str):Prop:=PySem.W.findIn K (.ref C) f=some none
theorem Qfv.taker {K:PySem.W.Frag}{C:Addr}{f:Str} (n:Qfv K C f):PySem.W.takerIn K C f=some none:=by
 unfold PySem.W.takerIn;rw [show PySem.W.findIn K (.ref C) f=some none from n];rfl
structure Con (K:PySem.W.Frag) (C:Addr) (f:Str) (v:V) (u:Value):Prop where
 at_:PySem.W.findIn K (.ref C) f=some (some u)
 rel:RelV v u
 get:PySem.W.specialIn K u "__get__" = some none
 cp:PySem.W.copiedNames.contains f=false
structure Qic (K:PySem.W.Frag) (C:Addr) (m:Str) (f:Addr):Prop where
 at_:PySem.W.findIn K (.ref C) m=some (some (.ref f))
 fn:PySem.W.isFn K (.ref f)=true
 kp:PySem.W.keepIn K (.ref f)=true
section
variable {X:Cx}{pins:List (Addr×Obj)}{σ:St}{H:Hp}{s:Shared}{a C dx:Addr}{fs:List (Str×V)}{f:Str}{v:V}{A:Around}{E:Value→Shared→Prop}
theorem QmA {b:Bool}{Q:Value→Shared→Prop} (I:Inv X pins σ H s) (e:H a=some (.ins C dx fs)) (c:Cls X.K C) (n:Qfv X.K C f) (l:fs.lookup f=some v)
  (h:∀u s',Inv X pins σ H s'→RelV v u→Q u s'):wpAny (model X.prog X.w) A (getAttr (.ref a) f b) Q E s:=by
 obtain ⟨mA,O,r,_,_,_⟩:=QhL I.hok e;obtain ⟨u,hu,ru⟩:=QcJ.some_of (v:=v) (o:=mA f) (by rw [←l]; exact r f);exact QrB I.kIn O (c.get f) c.hd n hu (QjZ ru) (h u _ (I.tok _) ru)
theorem QiL {m:Str}{g:Addr}{pl:Sem Bool}{Q:Value×List Value→Shared→Prop} (I:Inv X pins σ H s) (e:H a=some (.ins C dx fs)) (c:Cls X.K C) (k:Qic X.K C m g) (l:fs.lookup m=none)
  (h:Q (.ref g,[.ref a]) s):wpAny (model X.prog X.w) A (getMethod (.ref a) m pl) Q E s:=by
 obtain ⟨mA,O,r,_,_,_⟩:=QhL I.hok e;have hn:mA m=none:=QcJ.none_of (by rw [←l]; exact r m);exact QpL I.kIn O (c.get m) k.at_ k.fn hn h
theorem Qnw {y:V}{u:Value}{Q:Unit→Shared→Prop} (I:Inv X pins σ H s) (e:H a=some (.ins C dx fs)) (c:Cls X.K C) (n:Qfv X.K C f) (hl:fs.length < 1000) (ry:RelV y u)
  (h:∀s',Inv X pins σ (upd H a (.ins C dx (Qcx f y fs))) s'→Q () s'):wpAny (model X.prog X.w) A (setAttr (.ref a) f u) Q E s:=by
 obtain ⟨mA,O,r,wi,_,ho⟩:=QhL I.hok e
 have hz:(fs.map (·.1)).length≤sizeLine:=by rw [zA,sizeLine_eq]; omega
 refine Qre I.kIn O c.sa c.po n.taker c.hd wi hz fun h' O' sb=>h _ ?_
 have hd:∃o,h'.get? dx=some o:=let ⟨o,_,_,e',_⟩:=O'.ns; ⟨o,e'⟩;refine I.write (x:=a) (e:=dx) (by rw [e]; exact True.intro) (.inr ho) (fun b q hb z=>(sb.2 b hb).trans z) hd ?_;refine ⟨by rw [Qaj O.ne]; exact ho,?_,O.ne,O'.obj,_,O'.ns,fun g=>?_,fun g hg=>?_⟩
 ·have:=QhY f y fs; omega
 ·show QcJ ((Qcx f y fs).lookup g) (if g=f then some u else mA g);rw [Qh0]
  by_cases q:g=f
  ·rw [if_pos q,if_pos q]; exact ry
  ·rw [if_neg q,if_neg q]; exact r g
 ·by_cases q:g=f
  ·rw [q]; exact (Qhp f y fs).1
  ·refine (Qhp f y fs).2 g (wi g fun z=>hg ?_);show (if g=f then some u else mA g)=none;rw [if_neg q]; exact z
theorem Inv.made (I:Inv X pins σ H s):Inv X pins σ (upd (upd H s.heap.objs.size (.own (s.heap.objs.size+1))) (s.heap.objs.size+1) (.ins C s.heap.objs.size []))
  { s with heap:=(s.heap.push PySem.W.emptyDict).push (PySem.W.instObj C s.heap.objs.size) }:=by
 have e1:(s.heap.push PySem.W.emptyDict).get? s.heap.objs.size=some PySem.W.emptyDict:=zF s.heap rfl
 have e2:((s.heap.push PySem.W.emptyDict).push (PySem.W.instObj C s.heap.objs.size)).get? (s.heap.objs.size+1)=some (PySem.W.instObj C s.heap.objs.size):=by
  have:=zF (s.heap.push PySem.W.emptyDict) (o:=PySem.W.instObj C s.heap.objs.size) rfl
  rwa [Heap.size_push] at this
 have e3:(s.heap.push PySem.W.emptyDict).Ns s.heap.objs.size (fun _=>none):=⟨PySem.W.emptyDict,#[],_,e1,rfl,(fun e he=>absurd he (by simp)),fun _=>rfl⟩;have I1:=I.laid (a:=s.heap.objs.size) (o:=.own (s.heap.objs.size+1)) (h':=s.heap.push PySem.W.emptyDict) (t':=s.toks) (fun b u q=>zh _ q) (zc _) ⟨_,e1⟩;refine I1.laid (a:=s.heap.objs.size+1) (o:=.ins C s.heap.objs.size []) (t':=s.toks) (fun b u q=>zh _ q) (Nat.le_of_eq (Heap.size_push _ _)) ?_;have ne:s.heap.objs.size≠s.heap.objs.size+1:=zl (jd _);refine ⟨by rw [Qaj ne,QaC],Nat.zero_le _,ne,e2,fun _=>none,(Heap.Ns1.of_empty e3).at fun o q=>zh _ q,fun _=>True.intro,fun y hy=>absurd rfl hy⟩
theorem Qma {prog:Program}{w:World}{env:Env}{e:Expr}{f:Str}{pos:Pos}{s:Shared}{Q:Value→Shared→Prop} (hb:attributeBase e f env (eval e env)=eval e env)
  (h:wpAny (model prog w) A (eval e env) (fun o s₁=>wpAny (model prog w) A (getAttr o f true) Q E s₁) E s):wpAny (model prog w) A (eval (.Attribute e f pos) env) Q E s :=
 Attribute_any_ h (by rw [arm_eval_Attribute,hb])
end
def Qwy (K:PySem.W.Frag) (ta:TE) (f:Str):TE:=fun σ H Q=>ta σ H fun x H1=>∃a C dx fs v,x = .ref a∧H1 a=some (.ins C dx fs)∧Cls K C∧Qfv K C f∧fs.lookup f=some v∧Q v H1
def QvU (K:PySem.W.Frag) (ta tv:TE) (f:Str):TS:=fun D σ H=>tv σ H fun y H1=>ta σ H1 fun x H2=>∃a C dx fs,x = .ref a∧H2 a=some (.ins C dx fs)∧Cls K C∧Qfv K C f∧fs.length < 1000 ∧
 D.nx σ (upd H2 a (.ins C dx (Qcx f y fs)))
section
variable {X:Cx}{o e value:Expr}{f:Str}{pos pos' tpos:Pos}{ta tv:TE}
theorem QuA (he:PE X e ta) (hb:attributeBase e f X.env (eval e X.env)=eval e X.env):PE X (.Attribute e f pos) (Qwy X.K ta f):=by
 intro pins s σ H Q I h;refine Qma hb (thn (he pins s σ H _ I h) fun u s1 ⟨x,H1,I1,rx,a,C,dx,fs,v,ex,ea,c,n,l,q⟩=>?_);subst ex;obtain rfl:u=Value.ref a:=rx
 exact QmA I1 ea c n l fun u' s2 I2 ru=>⟨v,H1,I2,ru,q⟩
theorem Qti (ha:PE X o ta) (hv:PE X value tv) (hs:swapsWith value (some (.Attribute o f pos')) pos.line X.env=pure false):PS X (.Assign [.Attribute o f pos'] value pos) (QvU X.K ta tv f):=by
 intro pins s σ H D I h;refine plainObj_wpAny_Assign_Attribute (thn (hv pins s σ H _ I h) fun u s1 ⟨y,H1,I1,ry,q⟩=>thn (ha pins s1 σ H1 _ I1 q) fun ov s2 ⟨x,H2,I2,rx,a,C,dx,fs,ex,ea,c,n,l,q2⟩=>?_) hs;subst ex;obtain rfl:ov=Value.ref a:=rx
 exact Qnw I2 ea c n l ry fun s3 I3=>⟨σ,_,I3,q2⟩
end
section
variable {X:Cx}{pins:List (Addr×Obj)}{σ:St}{H:Hp}{s:Shared}{A:Around}{E:Value→Shared→Prop}{Q:Value→Shared→Prop}{c:Value}{b:Bool}
inductive QeO (K:PySem.W.Frag) (H:Hp):V→Value→Prop where
 | non:QeO K H .non (.type "NoneType")
 | bl (x:Bool):QeO K H (.bl x) (.type "bool")
 | int (i:Int):QeO K H (.int i) (.type "int")
 | str (x:Str):QeO K H (.str x) (.type "str")
 | flt (x:UInt64):QeO K H (.flt x) (.type "float")
 | lst {a:Addr}{xs:List V} (e:H a=some (.lst xs)):QeO K H (.ref a) (.type "list")
 | frz {a:Addr}{o:Obj}{xs:List V} (e:H a=some (.frz o (.lst xs))):QeO K H (.ref a) (.type "list")
 | tup {a:Addr}{xs:List V} (e:H a=some (.tup xs)):QeO K H (.ref a) (.type "tuple")
 | dK {a:Addr}{kvs:List (Key×V)} (e:H a=some (.dK kvs)):QeO K H (.ref a) (.type "dict")
 | dT {a:Addr}{kvs:List (List Key×V)} (e:H a=some (.dT kvs)):QeO K H (.ref a) (.type "dict")
 | ins {a C dx:Addr}{fs:List (Str×V)} (e:H a=some (.ins C dx fs)) (cl:Cls K C) (ha:PySem.W.findIn K (.ref C) "__class__" = some (some (.builtin "object.__class__")))
   (hn:PySem.W.specialIn K (.builtin "object.__class__") "__get__" = some (some (.builtin "getset_descriptor.__get__"))) (htk:PySem.W.takesIn K (.builtin "object.__class__")=some true)
   (hm:PySem.W.mroIn K C (.type "object")=some true):QeO K H (.ref a) (.ref C)
theorem Qes {x:V}{u t:Value} (I:Inv X pins σ H s) (rx:RelV x u) (ty:QeO X.K H x t) (e:PySem.W.kitOne X.K t c=some b) (h:∀tk,Q (.bool b) { s with toks:=tk }) :
  wpAny (model X.prog X.w) A (call (.builtin "isinstance") [u,c]) Q E s:=by
 cases ty with
 | non=>cases (show u=Value.none from rx); exact PySem.W.kia_one PySem.W.kitx_none I.kIn True.intro e (fun z=>nomatch z) h
 | bl y=>cases (show u=Value.bool y from rx); exact PySem.W.kia_one PySem.W.kitx_bool I.kIn True.intro e (fun z=>nomatch z) h
 | int i=>obtain ⟨t,q⟩:=(show ∃t,u=Value.int i t from rx); cases q; exact PySem.W.kia_one PySem.W.kitx_int I.kIn True.intro e (fun z=>nomatch z) h
 | str y=>obtain ⟨t,q⟩:=(show ∃t,u=Value.str y t from rx); cases q; exact PySem.W.kia_one PySem.W.kitx_str I.kIn True.intro e (fun z=>nomatch z) h
 | flt y=>obtain ⟨t,q⟩:=(show ∃t,u=Value.float y t from rx); cases q; exact PySem.W.kia_one PySem.W.kitx_float I.kIn True.intro e (fun z=>nomatch z) h
 | @lst a xs ea =>
  cases (show u=Value.ref a from rx);obtain ⟨_,_,n,_,h1⟩:=(show Qbi X.prog X.w H s.heap a (.lst xs) from I.hok a _ ea);exact PySem.W.kia_one PySem.W.kitx_list I.kIn ⟨_,h1,rfl⟩ e (fun z=>nomatch z) h
 | @frz a ob xs ea =>
  cases (show u=Value.ref a from rx);obtain ⟨_,_,_,n,_,h1⟩:=(show Qbi X.prog X.w H s.heap a (.frz ob (.lst xs)) from I.hok a _ ea);exact PySem.W.kia_one PySem.W.kitx_list I.kIn ⟨_,h1,rfl⟩ e (fun z=>nomatch z) h
 | @tup a xs ea =>
  cases (show u=Value.ref a from rx);obtain ⟨_,_,_,p⟩:=(show Qbi X.prog X.w H s.heap a (.tup xs) from I.hok a _ ea);obtain ⟨o,h1,h2,_⟩:=p;exact PySem.W.kia_one PySem.W.kitx_tuple I.kIn ⟨o,h1,h2⟩ e (fun z=>nomatch z) h
 | @dK a kvs ea =>
  cases (show u=Value.ref a from rx);obtain ⟨_,_,vs,_,p⟩:=(show Qbi X.prog X.w H s.heap a (.dK kvs) from I.hok a _ ea);obtain ⟨o,es,ep,h1,h2,_⟩:=p;exact PySem.W.kia_one PySem.W.kitx_dict I.kIn ⟨o,h1,h2.1⟩ e (fun z=>nomatch z) h
 | @dT a kvs ea =>
  cases (show u=Value.ref a from rx);obtain ⟨_,_,xs,_,o,es,ep,h1,h2,_⟩:=(show Qbi X.prog X.w H s.heap a (.dT kvs) from I.hok a _ ea);exact PySem.W.kia_one PySem.W.kitx_dict I.kIn ⟨o,h1,h2.1⟩ e (fun z=>nomatch z) h
 | @ins a C dx fs ea cl ha hn htk hm =>
  cases (show u=Value.ref a from rx);obtain ⟨mA,O,_⟩:=QhL I.hok ea;obtain ⟨od,J,_⟩:=O.look;exact PySem.W.kia_one (PySem.W.kitx_own (cl.get _) cl.hd ha hn htk hm) I.kIn J e (fun z=>nomatch z) h
end
structure QaK (k:Nat) (A:Around):Prop where
 hd:A.handled=none
 dp:A.depth+3 * k+5 < recursionLimit
 un:A.units+16 * k+200 < cLine
theorem QaK.mono {j k:Nat}{A:Around} (r:QaK k A) (h:j≤k):QaK j A:=⟨r.hd,by have:=r.dp; omega,by have:=r.un; omega⟩
theorem QaK.deeper {k:Nat}{A:Around} (r:QaK (k+1) A) (env:Env):QaK k (A.deeper env) :=
 ⟨r.hd,by have:=r.dp; show A.depth+1+3 * k+5 < _; omega,by have:=r.un; show A.units+3+16 * k+200 < _; omega⟩
theorem QaK.in1 {k:Nat}{A:Around} (r:QaK (k+1) A):QaK k A.in1 :=
 ⟨r.hd,by have:=r.dp; show A.depth+3 * k+5 < _; omega,by have:=r.un; show A.units+1+16 * k+200 < _; omega⟩
theorem Qm1 {A:Around}{C:Addr}{us:List Value}{kw:List (Str×Value)}:(A.under (.builtin "type.__call__" ⟨.ref C::us,kw⟩)).depth=A.depth+1:=by
 first | rfl | simp [Around.under,Code.weight,Code.isCreation,Code.isGuard,Code.isCaller,Code.frames,Code.isFrame,guardIds]
theorem QmU {A:Around}{C:Addr}{us:List Value}{kw:List (Str×Value)}:(A.under (.builtin "type.__call__" ⟨.ref C::us,kw⟩)).units=A.units+1:=by
 first | rfl | simp [Around.under,Code.cUnits,Code.frames,Code.isFrame]
theorem QaK.make {k:Nat}{A:Around} (r:QaK (k+1) A) (C:Addr) (us:List Value) (kw:List (Str×Value)):QaK k (A.under (.builtin "type.__call__" ⟨.ref C::us,kw⟩)) :=
 ⟨r.hd,by have:=r.dp; rw [Qm1]; omega,by have:=r.un; rw [QmU]; omega⟩
theorem QaK.depth {k:Nat}{A:Around} (r:QaK k A):A.depth < recursionLimit:=by have:=r.dp; omega
theorem QaK.units {k:Nat}{A:Around} (r:QaK k A):A.units+64 < cLine:=by have:=r.un; omega
def Qqq:TA:=fun _ H Q=>Q [] H
def QuH (ta:TE) (tr:TA):TA:=fun σ H Q=>ta σ H fun x H1=>tr σ H1 fun xs H2=>Q (x::xs) H2
section
variable {X:Cx}{e:Expr}{es:List Expr}{te:TE}{t:TA}{pos:Pos}
theorem Qcp:PA X [] Qqq:=fun _ _ _ _ H Q I h=>Calls.spliced_nil ⟨[],H,I,.nil,h⟩
theorem QbA (ha:PE X e te) (hr:PA X es t) (hs:starEach (e::es) X.env=(false,eval e X.env)::starEach es X.env:=by rfl):PA X (e::es) (QuH te t):=by
 intro pos pins s σ H Q I h;rw [hs];show wpAny _ _ (spliced ((false,eval e X.env)::backTo pos (starEach es X.env))) _ _ s;refine Calls.spliced_cons (thn (ha pins s σ H _ I h) fun u s1 ⟨x,H1,I1,r1,q1⟩=>?_)
 exact thn (hr pos pins s1 σ H1 _ I1 q1) fun us s2 ⟨xs,H2,I2,r2,q2⟩=>⟨x::xs,H2,I2,.cons r1 r2,q2⟩
def Qwx (t:TA):TE:=fun σ H Q=>t σ H fun xs H1=>xs.length≤sizeLine∧∀p,H1 p=none→Q (.ref p) (upd H1 p (.tup xs))
def QvY (t:TA):TE:=fun σ H Q=>t σ H fun xs H1=>xs.length≤sizeLine∧∀p,H1 p=none→Q (.ref p) (upd H1 p (.lst xs))
theorem QoY {x1} (h:PA X es t):PE X (.Tuple es x1 pos) (Qwx t):=by
 intro pins s σ H Q I hq;refine wpAny_Tuple_spliced (thn (h pos pins s σ H _ I hq) fun us s1 ⟨xs,H1,I1,r,z,q⟩=>⟨by rw [←r.length]; exact z,?_⟩);have hf:H1 s1.heap.objs.size=none:=I1.hok.fresh (zc _);refine ⟨.ref s1.heap.objs.size,upd H1 s1.heap.objs.size (.tup xs),I1.laid (t':=s1.toks) (fun b u e=>zh _ e) (zc _) ?_,rfl,q _ hf⟩;exact ⟨z,us,r,⟨_,zF _ rfl,rfl,_,rfl⟩⟩
theorem QtN (h:PA X es t):PE X (.List es pos) (QvY t):=by
 intro pins s σ H Q I hq;refine wpAny_List_spliced (thn (h pos pins s σ H _ I hq) fun us s1 ⟨xs,H1,I1,r,z,q⟩=>⟨by rw [←r.length]; exact z,?_⟩);have hf:H1 s1.heap.objs.size=none:=I1.hok.fresh (zc _);refine ⟨.ref s1.heap.objs.size,upd H1 s1.heap.objs.size (.lst xs),I1.laid (t':=s1.toks) (fun b u e=>zh _ e) (zc _) ?_,rfl,q _ hf⟩;exact ⟨z,us,0,r,zF _ rfl⟩
end
abbrev Sp:=List V→Hp→VK→XK→Prop
abbrev CXT:=List Env→Hp→Shared→XK→Value→Shared→Prop
structure Qdy (P:Program) (w:World) (K:PySem.W.Frag) (mg:Str→Option Value) (base:Heap) (A:Around) (outer:List Env) (s:Shared) (H:Hp):Prop where
 frames:A.frames=some outer
 mod:Mod K mg base
 bs:∀b o,base.get? b=some o→s.heap.get? b=some o∧H b=none
 bsz:base.objs.size≤s.heap.objs.size
 funs:s.heap.FunFrames base outer
 frf:∀b∈frs outer,H b=none
 hok:HOk P w H s.heap
 bare:AllBare s.gens
def CE (outer:List Env) (P:Program) (w:World) (H:Hp) (s:Shared) (Q:VK) (u:Value) (s':Shared):Prop :=
 ∃v H',s'.os=s.os∧AllBare s'.gens∧Un (frs outer) [] H H' s.heap s'.heap∧HOk P w H' s'.heap∧RelV v u∧Q v H'
def CR (CX:CXT) (outer:List Env) (P:Program) (w:World) (H:Hp) (s:Shared) (Q:VK) (E:XK) (r:Result) (s':Shared):Prop :=
 match r with
 | .ok (.ret u)=>CE outer P w H s Q u s'
 | .ok _=>False
 | .error e=>CX outer H s E e s'
structure Qbo (P:Program) (w:World) (K:PySem.W.Frag) (mg:Str→Option Value) (base:Heap) (CX:CXT) (k:Nat) (f:Addr) (fd:FuncData) (ps:List Str) (sp:Sp):Prop where
 len:∀vs H Q E,sp vs H Q E→vs.length=ps.length
 run:∀(A:Around) (outer:List Env) (s:Shared) (H:Hp) (args:Args) (us:List Value) (vs:List V) (Q:VK) (E:XK),QaK k A→Qdy P w K mg base A outer s H→BindsTo s fd args (ps.zip us)→QaA vs us→sp vs H Q E →
  codeAny (model P w) A (.call (.ref f) args) (CR CX outer P w H s Q E) s
theorem Qbo.mono {P:Program}{w:World}{K:PySem.W.Frag}{mg:Str→Option Value}{base:Heap}{CX:CXT}{j k:Nat}{f:Addr}{fd:FuncData}{ps:List Str}{sp:Sp} (F:Qbo P w K mg base CX j f fd ps sp) (h:j≤k) :
  Qbo P w K mg base CX k f fd ps sp:=⟨F.len,fun A outer s H args us vs Q E hr=>F.run A outer s H args us vs Q E (hr.mono h)⟩
theorem Qbo.imp {P:Program}{w:World}{K:PySem.W.Frag}{mg:Str→Option Value}{base:Heap}{CX:CXT}{k:Nat}{f:Addr}{fd:FuncData}{ps:List Str}{sp sp':Sp} (F:Qbo P w K mg base CX k f fd ps sp)
  (h:∀vs H Q E,sp' vs H Q E→sp vs H Q E):Qbo P w K mg base CX k f fd ps sp' :=
 ⟨fun vs H Q E q=>F.len vs H Q E (h _ _ _ _ q),fun A outer s H args us vs Q E hr he hb hv hs=>F.run A outer s H args us vs Q E hr he hb hv (h _ _ _ _ hs)⟩
theorem Qdy.make {P:Program}{w:World}{K:PySem.W.Frag}{mg:Str→Option Value}{base:Heap}{A:Around}{outer:List Env}{s:Shared}{H:Hp} (e:Qdy P w K mg base A outer s H) (C:Addr) (us:List Value) (kw:List (Str×Value)) :
  Qdy P w K mg base (A.under (.builtin "type.__call__" ⟨.ref C::us,kw⟩)) outer s H:=⟨by first | exact e.frames | (simpa [Around.under,Code.envs,Code.isFrame,pushEnvs] using e.frames),e.mod,e.bs,e.bsz,e.funs,e.frf,e.hok,e.bare⟩
theorem Qdy.in1 {P:Program}{w:World}{K:PySem.W.Frag}{mg:Str→Option Value}{base:Heap}{A:Around}{outer:List Env}{s:Shared}{H:Hp} (e:Qdy P w K mg base A outer s H) :
  Qdy P w K mg base A.in1 outer s H:=⟨e.frames,e.mod,e.bs,e.bsz,e.funs,e.frf,e.hok,e.bare⟩
section
variable {X:Cx}{pins:List (Addr×Obj)}{σ:St}{H:Hp}{s s':Shared}
theorem Inv.env0 (I:Inv X pins σ H s):Qdy X.prog X.w X.K X.mg X.base X.A X.stack s H :=
 ⟨I.ok.frames,I.ok.mod,I.bs,zu I.ok.bsz I.sz,I.stack,I.stkFree,I.hok,I.bare⟩
theorem Inv.after {Q:VK}{u:Value} (I:Inv X pins σ H s) (h:CE X.stack X.prog X.w H s Q u s'):EP X pins σ Q u s':=by
 obtain ⟨v,H',os,bare,un,hok,r,q⟩:=h;obtain ⟨hh,g,d,t,os'⟩:=s';obtain rfl:os'=s.os:=os;exact ⟨v,H',I.call (h':=hh) (g':=g) (d':=d) (t':=t) (ch:=[]) un hok bare (fun b z=>absurd z (by simp)),r,q⟩
end
def Qkq (sp:Sp) (dvs:List V) (E:XK) (t:TA):TE:=fun σ H Q=>t σ H fun vs H1=>sp (vs++dvs) H1 Q E
def Qkz (C:Addr) (m:Str) (sp:Sp) (dvs:List V) (E:XK) (ta:TE) (t:TA):TE:=fun σ H Q=>ta σ H fun x H1=>∃a dx fs,x = .ref a∧H1 a=some (.ins C dx fs)∧fs.lookup m=none ∧
 t σ H1 fun vs H2=>sp (x::(vs++dvs)) H2 Q E
def QqY (C:Addr) (sp:Sp) (dvs:List V) (E:XK) (t:TA):TE:=fun σ H Q=>t σ H fun vs H1=>∀x dx,H1 x=none→H1 dx=none→dx≠x →
 sp (.ref x::(vs++dvs)) (upd (upd H1 dx (.own x)) x (.ins C dx [])) (fun v H2=>v = .non∧Q (.ref x) H2) E
def Binds (K:PySem.W.Frag) (fd:FuncData) (ps:List Str) (ds:List Value):Prop :=
 ∀(s:Shared) (us:List Value),K.In s.heap→(us++ds).length=ps.length→BindsTo s fd ⟨us,[]⟩ (ps.zip (us++ds))
theorem Binds.all {K:PySem.W.Frag}{fd:FuncData}{ps:List Str} (h:∀us:List Value,us.length=ps.length→bindArgs fd ⟨us,[]⟩=pure (ps.zip us)):Binds K fd ps []:=fun s us _ hl=>by
 rw [zC] at hl ⊢;exact .of_eq (h us hl)
def Qeo (CX:CXT) (X:Cx) (E:XK):Prop:=∀(pins:List (Addr×Obj)) (σ:St) (H:Hp) (s:Shared) (e:Value) (s':Shared),Inv X pins σ H s→CX X.stack H s E e s'→X.xe e s'
section
variable {X:Cx}{CX:CXT}{k:Nat}{f C:Addr}{fd:FuncData}{ps:List Str}{sp:Sp}{dvs:List V}{ds:List Value}{E:XK}{x m:Str}{p pos apos:Pos}{e o:Expr}{es:List Expr}{ta:TE}{t:TA}
theorem QlH {pins:List (Addr×Obj)}{σ:St}{H:Hp}{s:Shared}{Q:VK}{us:List Value}{vs:List V} (F:Qbo X.prog X.w X.K X.mg X.base CX k f fd ps sp) (hr:QaK k X.A) (hb:Binds X.K fd ps ds) (hd:QaA dvs ds) (hx:Qeo CX X E)
  (I:Inv X pins σ H s) (r:QaA vs us) (h:sp (vs++dvs) H Q E):wpAny (model X.prog X.w) X.A (call (.ref f) us) (EP X pins σ Q) X.xe s:=by
 have r2:QaA (vs++dvs) (us++ds):=r.append hd
 have hl:(us++ds).length=ps.length:=by rw [←r2.length]; exact F.len _ _ _ _ h
 refine zM (codeAny_mono (F.run X.A X.stack s H ⟨us,[]⟩ (us++ds) (vs++dvs) Q E hr I.env0 (hb s us I.kIn hl) r2 h) fun r s' hq=>?_)
 cases r with
 | error e=>exact hx pins σ H s e s' I hq
 | ok fl =>
  cases fl with
  | ret u=>exact I.after hq
  | next=>exact False.elim hq
  | brk=>exact False.elim hq
  | cont=>exact False.elim hq
theorem Qmf (F:Qbo X.prog X.w X.K X.mg X.base CX k f fd ps sp) (hr:QaK k X.A) (hg:Gl X x) (hm:X.mg x=some (.ref f)) (hk:PySem.W.keepIn X.K (.ref f)=true) (hb:Binds X.K fd ps ds) (hd:QaA dvs ds) (hx:Qeo CX X E)
  (ha:PA X (e::es) t) (hdb:(x == ("__debug__":Str))=false:=by decide) (he:starEach (e::es) X.env=(false,eval e X.env)::starEach es X.env:=by rfl) (hpl:(backTo pos (starEach es X.env)).any (·.1)=false:=by rfl) :
  PE X (.Call (.Name x p) (e::es) [] pos) (Qkq sp dvs E t):=by
 intro pins s σ H Q I h;refine wpAny_Call_Name_kw (Qd3 I hg hm ?_ hdb);refine PySem.W.callWith_K (h₀:=X.base) I.ok.mod.kin hk (thn (ha pos pins s σ H _ I h) fun us s1 ⟨vs,H1,I1,r,q⟩=>⟨I1.kIn,?_⟩) he hpl;exact QlH F hr hb hd hx I1 r q
theorem Qmm {pl:Sem Bool} (he:PE X o ta) (c:Cls X.K C) (hm:Qic X.K C m f) (F:Qbo X.prog X.w X.K X.mg X.base CX k f fd ps sp) (hr:QaK k X.A) (hb:Binds X.K fd ps ds) (hd:QaA dvs ds) (hx:Qeo CX X E) (ha:PA X (e::es) t)
  (hst:starEach (e::es) X.env=(false,eval e X.env)::starEach es X.env:=by rfl) (hpl:(backTo pos (starEach es X.env)).any (·.1)=false:=by rfl)
  (ht:eval (.Call (.Attribute o m apos) (e::es) [] pos) X.env=(do
   let ov ←eval o X.env
   standAt apos.atName
   let (f,first) ←holding [ov] (getMethod ov m pl)
   callWith pos f first (backTo pos (starEach (e::es) X.env)) (backToKw pos (keywordEach [] X.env))):=by rfl) :
  PE X (.Call (.Attribute o m apos) (e::es) [] pos) (Qkz C m sp dvs E ta t):=by
 intro pins s σ H Q I h;refine PySem.W.methodCall_KW (pl:=pl) (thn (he pins s σ H _ I h) fun u s1 ⟨x,H1,I1,rx,a,dx,fs,ex,ea,l,q⟩=>?_) ht;subst ex;obtain rfl:u=Value.ref a:=rx;refine QiL I1 ea c hm l ?_;refine PySem.W.callWith_K (first:=[.ref a]) (h₀:=X.base) I.ok.mod.kin hm.kp (thn (ha pos pins s1 σ H1 _ I1 q) fun us s2 ⟨vs,H2,I2,r,q2⟩=>⟨I2.kIn,?_⟩) hst hpl;exact QlH (us:=.ref a::us) (vs:=.ref a::vs) F hr hb hd hx I2 (.cons rfl r) q2
theorem QpW {pl:Sem Bool} (he:PE X o ta) (c:Cls X.K C) (hm:Qic X.K C m f) (F:Qbo X.prog X.w X.K X.mg X.base CX k f fd ps sp) (hr:QaK k X.A) (hb:Binds X.K fd ps ds) (hd:QaA dvs ds) (hx:Qeo CX X E)
  (ht:eval (.Call (.Attribute o m apos) [] [] pos) X.env=(do
   let ov ←eval o X.env
   standAt apos.atName
   let (f,first) ←holding [ov] (getMethod ov m pl)
   callWith pos f first (backTo pos (starEach [] X.env)) (backToKw pos (keywordEach [] X.env))):=by rfl) :
  PE X (.Call (.Attribute o m apos) [] [] pos) (Qkz C m sp dvs E ta Qqq):=by
 intro pins s σ H Q I h;refine PySem.W.methodCall_KW (pl:=pl) (thn (he pins s σ H _ I h) fun u s1 ⟨x,H1,I1,rx,a,dx,fs,ex,ea,l,q⟩=>?_) ht;subst ex;obtain rfl:u=Value.ref a:=rx;refine QiL I1 ea c hm l ?_;exact PySem.W.callWith_K0 (first:=[.ref a]) I1.kIn hm.kp (QlH (us:=[.ref a]) (vs:=[.ref a]) F hr hb hd hx I1 (.cons rfl .nil) q)
structure Mk (K:PySem.W.Frag) (C f:Addr):Prop where
 makes:PySem.W.makesIn K C=true
 init:PySem.W.findIn K (.ref C) "__init__" = some (some (.ref f))
 fn:PySem.W.isFn K (.ref f)=true
 kp:PySem.W.keepIn K (.ref C)=true
theorem Qqm {pins:List (Addr×Obj)}{σ:St}{H:Hp}{s:Shared}{Q:VK}{us:List Value}{vs:List V} (M:Mk X.K C f) (F:Qbo X.prog X.w X.K X.mg X.base CX k f fd ps sp) (hr:QaK (k+1) X.A) (hb:Binds X.K fd ps ds) (hd:QaA dvs ds)
  (hx:Qeo CX X E) (I:Inv X pins σ H s) (r:QaA vs us)
  (h:∀x dx,H x=none→H dx=none→dx≠x→sp (.ref x::(vs++dvs)) (upd (upd H dx (.own x)) x (.ins C dx [])) (fun v H2=>v = .non∧Q (.ref x) H2) E) :
  wpAny (model X.prog X.w) X.A (call (.ref C) us) (EP X pins σ Q) X.xe s:=by
 have hq:=h (s.heap.objs.size+1) s.heap.objs.size (I.hok.fresh (Nat.le_succ _)) (I.hok.fresh (zc _)) (zl (jd _));have I2:=Inv.made (C:=C) I;have r2:QaA (V.ref (s.heap.objs.size+1)::(vs++dvs)) (Value.ref (s.heap.objs.size+1)::(us++ds)):=.cons rfl (r.append hd)
 have hl:(Value.ref (s.heap.objs.size+1)::us++ds).length=ps.length:=by
  have e:=r2.length;rw [F.len _ _ _ _ hq] at e;exact e.symm
 refine zM (QpD (f:=f) I.kIn M.makes M.init (beq_iff_eq.mp M.fn) (codeAny_mono (F.run _ X.stack _ _ ⟨Value.ref (s.heap.objs.size+1)::us,[]⟩ (Value.ref (s.heap.objs.size+1)::(us++ds)) _ _ E (hr.make C us [])
  (I2.env0.make C us []) (hb _ (Value.ref (s.heap.objs.size+1)::us) I2.kIn hl) r2 hq) fun r s' hq'=>?_))
 cases r with
 | error e=>exact hx pins σ _ _ e s' I2 hq'
 | ok fl =>
  cases fl with
  | ret u =>
   obtain ⟨v,H',I3,rv,ev,q3⟩:=I2.after hq';subst ev;exact ⟨rv,⟨V.ref (s.heap.objs.size+1),H',I3,rfl,q3⟩⟩
  | next=>exact False.elim hq'
  | brk=>exact False.elim hq'
  | cont=>exact False.elim hq'
theorem QpF (M:Mk X.K C f) (F:Qbo X.prog X.w X.K X.mg X.base CX k f fd ps sp) (hr:QaK (k+1) X.A) (hg:Gl X x) (hm:X.mg x=some (.ref C)) (hb:Binds X.K fd ps ds) (hd:QaA dvs ds) (hx:Qeo CX X E)
  (hdb:(x == ("__debug__":Str))=false:=by decide):PE X (.Call (.Name x p) [] [] pos) (QqY C sp dvs E Qqq):=by
 intro pins s σ H Q I h;refine wpAny_Call_Name_kw (Qd3 I hg hm ?_ hdb);exact PySem.W.callWith_K0 I.kIn M.kp (Qqm (us:=[]) M F hr hb hd hx I .nil h)
end
section
variable {X:Cx}{CX:CXT}{k:Nat}{f C:Addr}{fd:FuncData}{ps ks:List Str}{sp:Sp}{E:XK}{x m:Str}{p pos apos kpos:Pos}{e o:Expr}{es:List Expr}{kws:List Keyword}{te ta:TE}{t tk:TA}{nm:Option Str}
structure QxB (K:PySem.W.Frag) (fd:FuncData) (ps ks:List Str) (g:List Value→List Value→List Value) (gV:List V→List V→List V):Prop where
 to:∀(s:Shared) (us ws:List Value),K.In s.heap→(g us ws).length=ps.length→BindsTo s fd ⟨us,ks.zip ws⟩ (ps.zip (g us ws))
 rel:∀{vs:List V}{us:List Value}{zs:List V}{ws:List Value},QaA vs us→QaA zs ws→QaA (gV vs zs) (g us ws)
variable {g:List Value→List Value→List Value}{gV:List V→List V→List V}
end
structure QaI (N P:List Str) (sc:Scope):Prop where
 kind:sc.kind = .function
 co:sc.isCoroutine=false
 gen:sc.isGenerator=false
 nd:N.Nodup
 pre:N.take P.length=P
 par:∀x∈P,sc.names.lookup x=some .local∨sc.names.lookup x=some .cell
 nofree:∀y∈sc.names,y.2≠.free
theorem QjW {kindOf:Str→Option NameKind}{x:Str}:∀{binds:List (Str×Value)}{m:Str→Option Value},(∀v,(x,v)∉binds)→bindL kindOf binds m x=m x
 | [],_,_=>rfl
 | (n,v)::r,m,h=>by
  unfold bindL;rw [QjW fun w hw=>h w (zw _ hw)]
  split
  ·have:x≠n:=by rintro rfl; exact h v zx
   simp [this]
  ·rfl
theorem QjM {kindOf:Str→Option NameKind}{x:Str}:∀{binds:List (Str×Value)}{m:Str→Option Value},(∀v,(x,v)∉binds)→bindC kindOf binds m x=m x
 | [],_,_=>rfl
 | (n,v)::r,m,h=>by
  unfold bindC;rw [QjM fun w hw=>h w (zw _ hw)]
  split
  ·rfl
  ·have:x≠n:=by rintro rfl; exact h v zx
   simp [this]
theorem Qj2 {kindOf:Str→Option NameKind}{x:Str}{v:Value}:∀{P:List Str}{vs:List Value}{i:Nat}{m:Str→Option Value},P.Nodup→P[i]? = some x→vs[i]? = some v→kindOf x=some .local →
  bindL kindOf (P.zip vs) m x=some v
 | [],_,_,_,_,h,_,_=>by simp at h
 | _::_,[],_,_,_,_,h,_=>by simp at h
 | p::P,w::vs,0,m,nd,h1,h2,hk=>by
  simp at h1 h2; subst h1; subst h2
  show bindL kindOf ((p,w)::P.zip vs) m p=_;unfold bindL;rw [QjW fun v hv=>(List.nodup_cons.mp nd).1 (List.of_mem_zip hv).1,if_pos hk];simp
 | p::P,w::vs,i+1,m,nd,h1,h2,hk=>by
  show bindL kindOf ((p,w)::P.zip vs) m x=_;unfold bindL;exact Qj2 (i:=i) (List.nodup_cons.mp nd).2 (by simpa using h1) (by simpa using h2) hk
theorem QjP {kindOf:Str→Option NameKind}{x:Str}{v:Value}:∀{P:List Str}{vs:List Value}{i:Nat}{m:Str→Option Value},P.Nodup→P[i]? = some x→vs[i]? = some v→kindOf x≠some .local →
  bindC kindOf (P.zip vs) m x=some v
 | [],_,_,_,_,h,_,_=>by simp at h
 | _::_,[],_,_,_,_,h,_=>by simp at h
 | p::P,w::vs,0,m,nd,h1,h2,hk=>by
  simp at h1 h2; subst h1; subst h2
  show bindC kindOf ((p,w)::P.zip vs) m p=_;unfold bindC;rw [QjM fun v hv=>(List.nodup_cons.mp nd).1 (List.of_mem_zip hv).1,if_neg hk];simp
 | p::P,w::vs,i+1,m,nd,h1,h2,hk=>by
  show bindC kindOf ((p,w)::P.zip vs) m x=_;unfold bindC;exact QjP (i:=i) (List.nodup_cons.mp nd).2 (by simpa using h1) (by simpa using h2) hk
def start (N:List Str) (vs:List V):St:=vs.map some++List.replicate (N.length - vs.length) none
def Qb1 (CX:CXT) (P:Program) (w:World) (K:PySem.W.Frag) (mg:Str→Option Value) (base:Heap) (N:List Str) (qual:Str) (scope:Scope) (f:Addr) (cd:Value) (A:Around) (outer:List Env) (s:Shared) (H:Hp) (E:XK):Cx where
 prog:=P
 w:=w
 K:=K
 mg:=mg
 base:=base
 A:=A.deeper (envOfC qual scope s.heap.objs.size f cd)
 N:=N
 s₀:=s
 H₀:=H
 env:=envOfC qual scope s.heap.objs.size f cd
 outer:=outer
 stack:=envOfC qual scope s.heap.objs.size f cd::outer
 ex:=[]
 calm:=true
 fn:=fun _=>true
 pn:=[]
 xe:=fun e s'=>wpAny (model P w) (A.deeper (envOfC qual scope s.heap.objs.size f cd)) (leaving (envOfC qual scope s.heap.objs.size f cd) e) (fun _ s''=>CX outer H s E e s'') (fun e' s''=>CX outer H s E e' s'') s'
theorem Qlo {sc:Scope}{n:Nat}{x:Str} (h:sc.names.lookup x=some .cell):∃c,(cellsFrom n sc.names []).lookup x=some c:=by
 have q:=PySem.W.cellsFrom_some sc.names n [] (.inl h);exact Option.isSome_iff_exists.mp q
theorem Qj7 {CX:CXT}{P:Program}{w:World}{K:PySem.W.Frag}{mg:Str→Option Value}{base:Heap}{N ps:List Str}{qual:Str}{scope:Scope}{f:Addr}{cd:Value}{A:Around}{outer:List Env}{s s1:Shared}{H:Hp}{E:XK}{us:List Value}{vs:List V}
  (S:QaI N ps scope) (hd:A.handled=none) (e0:Qdy P w K mg base A outer s H) (hl:vs.length=ps.length) (r:QaA vs us)
  (x:InCallC s s.heap.objs.size (bindL (envOfC qual scope s.heap.objs.size f cd).kindOf (ps.zip us) fun _=>none) (cellsFrom (s.heap.objs.size+1) scope.names []) (bindC (envOfC qual scope s.heap.objs.size f cd).kindOf (ps.zip us) fun _=>none) s1) :
  Inv (Qb1 CX P w K mg base N qual scope f cd A outer s H E) [] (start N vs) H s1:=by
 have hpl:ps.length≤N.length:=by have:=congrArg List.length S.pre; rw [List.length_take] at this; omega
 obtain ⟨h1,tk,rfl,hk⟩:=x.done
 have noA:∀b:Addr,b∉(Qb1 CX P w K mg base N qual scope f cd A outer s H E).ex:=fun b z=>absurd (show b∈([]:List Addr) from z) (by simp)
 refine ⟨⟨e0.mod,S.kind,rfl,rfl,zc _,fun y z c h1 h2=>?_,fun y hy=>?_,fun y c _ h=>?_,fun _=>hd,Around.frames_deeper e0.frames,.inr ⟨rfl,rfl⟩,fun b z=>absurd z (noA b),e0.bs,e0.bsz,fun b _ _=>noA b,fun b z=>absurd z (noA b),e0.funs,e0.frf⟩,
  rfl,e0.bare,Un.kept hk,⟨_,x.toInCall.ns,fun i y v h1 h2 h3=>?_⟩,fun y c h=>⟨_,x.cell y c h⟩,e0.hok.fresh (zc _),fun y c h=>?_,fun p hp=>absurd (show p∈([]:List (Addr×Obj)) from hp) (by simp),e0.hok.kept hk,?_⟩
 ·exact name_of_addr x.apart (PySem.mem_of_lookup h1) (PySem.mem_of_lookup h2)
 ·have hy:scope.names.lookup y=some .cell∨scope.names.lookup y=some .free:=hy
  rcases hy with hy | hy
  ·exact Qlo hy
  ·exact absurd rfl (S.nofree _ (PySem.mem_of_lookup hy))
 ·exact Nat.le_of_lt (x.above y c (PySem.mem_of_lookup h))
 ·have hi:i < vs.length:=by
   unfold start at h2
   by_cases hi:i < vs.length
   ·exact hi
   ·rw [zD (by simpa using hi)] at h2;rw [List.getElem?_replicate] at h2
    split at h2 <;> cases h2
  have ha:vs[i]? = some v:=by
   unfold start at h2;rw [zB (by simpa using hi),zG] at h2
   cases e:vs[i]? with
   | none=>rw [e] at h2; cases h2
   | some a=>rw [e] at h2; cases h2; rfl
  obtain ⟨u,hu,rv⟩:=r.get ha
  have hp:ps[i]? = some y:=by
   rw [←S.pre,List.getElem?_take_of_lt (by omega)]; exact h1
  have ndP:ps.Nodup:=by rw [←S.pre]; exact S.nd.sublist (List.take_sublist _ _)
  refine ⟨u,rv,?_⟩
  rcases S.par y (zO hp) with k | k
  ·exact .inl ⟨k,Qj2 ndP hp hu k⟩
  ·obtain ⟨c,e⟩:=Qlo (n:=s.heap.objs.size+1) k;refine .inr ⟨.inl k,c,e,?_⟩;have q:=x.cell y c e;rw [QjP ndP hp hu (by show scope.names.lookup y≠_; rw [k]; decide)] at q;exact q
 ·exact e0.hok.fresh (Nat.le_of_lt (x.above y c (PySem.mem_of_lookup h)))
 ·unfold start;show _=N.length;rw [zr,zA,List.length_replicate];omega
theorem QmX {CX:CXT}{P:Program}{w:World}{K:PySem.W.Frag}{mg:Str→Option Value}{base:Heap}{k:Nat}{f:Addr}{name qual:Str}{params:Arguments}{body:List Stmt}{scope:Scope}{dV kV doc pm cdv ct oc:Value}{an od:Option Addr}
  {osl:Array (Option Value)}{N ps:List Str}{sp:Sp} (lk:K.lookup f=some ⟨oc,od,.func (PySem.W.fnOf name qual params body scope dV kV doc pm an cdv ct),osl⟩) (hcd:PySem.W.codeIn K cdv qual=true) (S:QaI N ps scope)
  (len:∀vs H Q E,sp vs H Q E→vs.length=ps.length)
  (hbody:∀(A:Around) (outer:List Env) (s:Shared) (H:Hp) (vs:List V) (Q:VK) (E:XK),QaK k (A.deeper (envOfC qual scope s.heap.objs.size f cdv))→sp vs H Q E →
   ∃t,PSs (Qb1 CX P w K mg base N qual scope f cdv A outer s H E) body t∧t { nx:=fun _ H'=>Q .non H',rt:=Q } (start N vs) H) :
  Qbo P w K mg base CX (k+1) f (PySem.W.fnOf name qual params body scope dV kV doc pm an cdv ct) ps sp:=by
 refine ⟨len,fun A outer s H args us vs Q E hr e0 hb r hsp=>?_⟩;have hl:=len _ _ _ _ hsp
 have KX:K.In s.heap:=e0.mod.kin.keeps fun b o e=>(e0.bs b o e).1
 have lim:s.heap.NoLimit:=e0.mod.nolimit.keeps fun b o e=>(e0.bs b o e).1
 have hkind:∀y∈ps.zip us,scope.names.lookup y.1=some .local∨(scope.names.lookup y.1=some .cell∧((cellsFrom (s.heap.objs.size+1) scope.names []).lookup y.1).isSome=true):=fun ⟨n,v⟩ hy=>by
  rcases S.par n (List.of_mem_zip hy).1 with q | q
  ·exact .inl q
  ·exact .inr ⟨q,PySem.W.cellsFrom_some _ _ _ (.inl q)⟩
 refine codeAny_call_function hr.depth (KX _ _ lk) rfl S.co S.gen rfl (PySem.W.codeRec_of KX hcd) (hb _ _ _ _ ?_)
 refine wpAny_newFunctionEnv_cells S.kind hkind fun env he s1 x=>?_
 subst he;refine ⟨lim.keeps x.toInCall.keep,codeAny_func ?_⟩;obtain ⟨t,ht,hq⟩:=hbody A outer s H vs Q E (hr.deeper _) hsp;have I:Inv (Qb1 CX P w K mg base N qual scope f cdv A outer s H E) [] (start N vs) H s1:=Qj7 S hr.hd e0 hl r x
 refine zm (ht [] s1 (start N vs) H _ I hq) (fun fl s' hs=>?_) fun e s' hs=>hs
 have fin:∀{σ':St}{H':Hp}{v:V}{u:Value},Inv (Qb1 CX P w K mg base N qual scope f cdv A outer s H E) [] σ' H' s'→RelV v u→Q v H'→CE outer P w H s Q u s' :=
  fun {σ' H' v u} J rv q=>⟨v,H',J.os,J.bare,J.base,J.hok,rv,q⟩
 cases fl with
 | ret u =>
  obtain ⟨v,σ',H',J,rv,q⟩:=hs;exact fin J rv q
 | next =>
  obtain ⟨σ',H',J,q⟩:=hs;exact fin (v:=V.non) (u:=Value.none) J rfl q
 | brk =>
  obtain ⟨_,_,_,q⟩:=hs;exact False.elim q
 | cont =>
  obtain ⟨_,_,_,q⟩:=hs;exact False.elim q
section
variable {X:Cx}{x:Str}{p pos:Pos}{e:Expr}{es:List Expr}{t:TA}{id T:String}{r:List V→Hp→VK→Prop}
def tCB (r:List V→Hp→VK→Prop) (t:TA):TE:=fun σ H Q=>t σ H fun vs H1=>r vs H1 Q
theorem QgS (hc:QgF X (.builtin id) r) (hg:Gl X x) (hm:X.mg x=none) (hv:bootBuiltins x=some (.builtin id)) (ha:PA X (e::es) t) (hn:x≠"__name__":=by decide) (hdb:(x == ("__debug__":Str))=false:=by decide)
  (he:starEach (e::es) X.env=(false,eval e X.env)::starEach es X.env:=by rfl) (hpl:(backTo pos (starEach es X.env)).any (·.1)=false:=by rfl):PE X (.Call (.Name x p) (e::es) [] pos) (tCB r t):=by
 intro pins s σ H Q I h;refine wpAny_Call_Name_kw (Qfr I hg hm hv ?_ hn hdb);exact PyProof.Rows.callWith_builtin1 (thn (ha pos pins s σ H _ I h) fun us s1 ⟨vs,H1,I1,r1,q1⟩=>hc pins s1 σ H1 vs us Q I1 r1 q1) he hpl
theorem Qop (hc:QgF X (.type T) r) (hg:Gl X x) (hm:X.mg x=none) (hv:bootBuiltins x=some (.type T)) (ha:PA X (e::es) t) (hn:x≠"__name__":=by decide) (hdb:(x == ("__debug__":Str))=false:=by decide)
  (he:starEach (e::es) X.env=(false,eval e X.env)::starEach es X.env:=by rfl) (hpl:(backTo pos (starEach es X.env)).any (·.1)=false:=by rfl):PE X (.Call (.Name x p) (e::es) [] pos) (tCB r t):=by
 intro pins s σ H Q I h;refine wpAny_Call_Name_kw (Qfr I hg hm hv ?_ hn hdb);exact PyProof.Rows.callWith_type1 (thn (ha pos pins s σ H _ I h) fun us s1 ⟨vs,H1,I1,r1,q1⟩=>hc pins s1 σ H1 vs us Q I1 r1 q1) he hpl
end
end L2
namespace HT
open PySem PyProof.Rows
section
open PySem.SeqAt
open PySem.AutoSeq1 (wpAny_loadPart')
open PySem.MeetsSeq PySem.MeetsSeq2 PySem.MeetsSeq3
end
section
variable {prog:Program}{w:World}{A:Around}{E:Value→Shared→Prop}{s:Shared}
theorem cat_tup {t b:Addr}{vs ws:List Value}{Q:Value→Shared→Prop} (ht:IsTup s.heap t vs.toArray) (hb:IsTup s.heap b ws.toArray) (hv:vs≠[])
  (h1:ws = []→Q (.ref t) s) (h2:ws≠[]→Q (.ref s.heap.objs.size) { s with heap:=s.heap.push { cls:=.type "tuple",data:=.seq (vs++ws).toArray } })
  (hsz:vs.length+ws.length≤sizeLine):wpAny (model prog w) A (binaryOp .Add (.ref t) (.ref b)) Q E s:=by
 obtain ⟨⟨cls,dd,data,sl⟩,ho,hc,n,hd⟩:=id ht;obtain ⟨⟨cls2,dd2,data2,sl2⟩,ho2,hc2,n2,hd2⟩:=id hb;simp only at hc hd hc2 hd2;subst hc hd hc2 hd2
 have e:vs.toArray++ws.toArray=(vs++ws).toArray:=by simp
 by_cases hw:ws = []
 ·exact concat_meets ⟨_,ho,rfl⟩ ⟨_,ho2,rfl⟩ noFill_tuple_add seq_tuple_add PySem.F.slot_tuple_add PySem.F.entry_tuple_add (PySem.F.args_tuple_add_2 _ _)
   (tuple_addW1 t b vs.toArray ws.toArray n n2 dd dd2 sl sl2 (by simpa using hv) (by simp [hw])) ⟨ho,ho2,h1 hw⟩
 ·refine concat_meets ⟨_,ho,rfl⟩ ⟨_,ho2,rfl⟩ noFill_tuple_add seq_tuple_add PySem.F.slot_tuple_add PySem.F.entry_tuple_add (PySem.F.args_tuple_add_2 _ _)
   (tuple_addW2 t b vs.toArray ws.toArray n n2 dd dd2 sl sl2 (by simpa using hv) (by simpa using hw) (by rw [zo,zo]; exact hsz)) ⟨ho,ho2,?_⟩
  rw [e];exact h2 hw
def sIx (n d:Nat):Option Int→Nat
 | none=>d
 | some v=>if v < 0 then (v+(n:Int)).toNat else min v.toNat n
theorem sIx_none (n d:Nat):sIx n d none=d:=rfl
theorem sIx_nat (n d k:Nat):sIx n d (some (k:Int))=min k n:=by
 show (if (k:Int) < 0 then ((k:Int)+(n:Int)).toNat else min (k:Int).toNat n)=min k n;rw [if_neg (by omega),Int.toNat_natCast]
theorem sIx_le (n d:Nat) (hd:d≤n) (o:Option Int):sIx n d o≤n:=by
 cases o with
 | none=>exact hd
 | some v =>
  show (if v < 0 then (v+(n:Int)).toNat else min v.toNat n)≤n
  by_cases hv:v < 0
  ·rw [if_pos hv]; omega
  ·rw [if_neg hv]; exact Nat.min_le_right _ _
theorem QlY (v:Int) (n d:Nat):(if v < 0 then max (v+(n:Int)) 0 else min v (n:Int))=((sIx n d (some v):Nat):Int):=by
 show (if v < 0 then max (v+(n:Int)) 0 else min v (n:Int))=(((if v < 0 then (v+(n:Int)).toNat else min v.toNat n):Nat):Int)
 by_cases hv:v < 0
 ·simp only [if_pos hv]; omega
 ·simp only [if_neg hv]; omega
theorem Qmx (lo hi:Option Int) (n:Nat):Builtin.Slice.sliceAdjust lo hi 1 (n:Int)=(((sIx n 0 lo:Nat):Int),((sIx n n hi:Nat):Int)):=by
 have h1:¬((1:Int) < 0):=by omega
 unfold Builtin.Slice.sliceAdjust;simp only [h1,if_false];refine Prod.ext ?_ ?_
 ·cases lo with
  | none=>rfl
  | some v=>exact QlY v n 0
 ·cases hi with
  | none=>rfl
  | some v=>exact QlY v n n
theorem Qmz (i j:Nat):Builtin.Slice.slicePlaces (i:Int) (j:Int) 1=j - i:=by
 unfold Builtin.Slice.slicePlaces
 have h1:(1:Int) > 0:=by omega
 simp only [h1,if_true,Int.ediv_one]
 split <;> omega
theorem QiD {v:Value}{o:Option Int}{Q:Option Int→Shared→Prop} (p:IsPart v o) (h:Q o s):wpAny (model prog w) A (Builtin.Slice.slicePartIndex v) Q E s:=by
 cases p with
 | none=>exact slicePart_none h
 | int i t=>exact slicePart_int h
theorem sliceApplied_gen {sl:Addr}{vl vu:Value}{lo hi:Option Int}{n:Nat}{Q:Int×Int×Nat→Shared→Prop} (hs:s.heap.IsSliceOf sl vl vu .none) (pl:IsPart vl lo) (pu:IsPart vu hi)
  (h:Q (((sIx n 0 lo:Nat):Int),1,sIx n n hi - sIx n 0 lo) s):wpAny (model prog w) A (Builtin.Slice.sliceApplied (.ref sl) (pure (n:Int))) Q E s:=by
 obtain ⟨os,hos,hcs,hds⟩:=id hs;unfold Builtin.Slice.sliceApplied Builtin.Slice.sliceFields;refine za (za (wpAny_field hos hds (x:=vl) rfl (za (wpAny_field hos hds (x:=vu) rfl (za (wpAny_field hos hds (x:=.none) rfl (zb ?_)))))));refine za (slicePart_none ?_);show wpAny _ _ (if ((1:Int) == 0)=true then _ else _) _ _ s;rw [if_neg (by decide)];refine za (QiD pl (za (QiD pu (za (zb ?_)))));show wpAny _ _ (match Builtin.Slice.sliceAdjust lo hi 1 (n:Int) with | (lo,hi)=>pure (lo,(1:Int),Builtin.Slice.slicePlaces lo hi 1)) _ _ s;rw [Qmx lo hi n];show wpAny _ _ (pure (((sIx n 0 lo:Nat):Int),(1:Int),Builtin.Slice.slicePlaces ((sIx n 0 lo:Nat):Int) ((sIx n n hi:Nat):Int) 1)) _ _ s
 rw [Qmz];exact zb h
theorem Qpm (xs:Array Value) (i k:Nat):((List.range k).filterMap fun (m:Nat)=>xs[((i:Int)+(m:Int) * 1).toNat]?).toArray=((xs.toList.drop i).take k).toArray:=by
 have e:(fun (m:Nat)=>xs[((i:Int)+(m:Int) * 1).toNat]?)=fun m=>xs[i+m]?:=by
  funext m
  have:((i:Int)+(m:Int) * 1).toNat=i+m:=by omega
  rw [this]
 rw [e]
 have:=pick_run xs i k
 rw [List.filterMap_map] at this
 have e2:((fun x=>xs[x]?) ∘ fun x=>i+x)=fun m=>xs[i+m]?:=rfl
 rw [e2] at this;rw [this]
theorem getItem_tuple_cut {t sl:Addr}{items:Array Value}{vl vu:Value}{lo hi:Option Int}{Q:Value→Shared→Prop} (ht:IsTup s.heap t items) (hs:s.heap.IsSliceOf sl vl vu .none) (pl:IsPart vl lo) (pu:IsPart vu hi)
  (hw:¬(sIx items.size 0 lo=0∧sIx items.size items.size hi=items.size))
  (h:Q (.ref s.heap.objs.size) { s with heap:=s.heap.push { cls:=.type "tuple",data:=.seq ((items.toList.drop (sIx items.size 0 lo)).take (sIx items.size items.size hi - sIx items.size 0 lo)).toArray } })
  (hsz:items.size≤sizeLine):wpAny (model prog w) A (getItem (.ref t) (.ref sl)) Q E s:=by
 have htake:sizeOk (.seq ((items.toList.drop (sIx items.size 0 lo)).take (sIx items.size items.size hi - sIx items.size 0 lo)).toArray):=by
  show ((items.toList.drop (sIx items.size 0 lo)).take (sIx items.size items.size hi - sIx items.size 0 lo)).toArray.size≤sizeLine;rw [zo,List.length_take,List.length_drop,Array.length_toList];omega
 have hj:sIx items.size items.size hi≤items.size:=sIx_le _ _ (zc _) hi;obtain ⟨os,hos,hcs,hds⟩:=id hs;have hTs:s.TypeIs (.ref sl) "slice":=⟨os,hos,hcs⟩;unfold getItem
 try with_reducible refine zH ?_
 first | refine za (zb ?_) | skip
 refine za (wpAny_sequenceKey ht.typeIs (by decide) ?_)
 refine za (wpAny_callSpecial?_slot (name:=Str.ofString "__getitem__") ht.typeIs PyProof.Rows.slot_tuple_getitem
  (wpAny_call_entry PyProof.Rows.slot_tuple_getitem ht.typeIs entry_tuple_getitem ?_ (args_tuple_getitem _ _)))
 show wpAny _ _ (Builtin.Tuple.tupleItemsOf (.ref t) >>= _) _ _ s;refine za (tupleItemsOf_ ht ?_);refine za (wpAny_typeOf hTs ?_);rw [if_pos (by decide)];refine za (sliceApplied_gen hs pl pu ?_)
 have hno:¬((((sIx items.size 0 lo:Nat):Int) == 0&&(1:Int) == 1&&(sIx items.size items.size hi - sIx items.size 0 lo) == items.size)=true):=by
  intro q;rw [zj,zj] at q;have q1:((sIx items.size 0 lo:Nat):Int)=0:=eq_of_beq q.1.1;have q2:sIx items.size items.size hi - sIx items.size 0 lo=items.size:=eq_of_beq q.2;exact hw ⟨by omega,by omega⟩
 show wpAny _ _ (if (((sIx items.size 0 lo:Nat):Int) == 0&&(1:Int) == 1&&(sIx items.size items.size hi - sIx items.size 0 lo) == items.size)=true then _ else _) _ _ s;rw [if_neg hno,Qpm]
 first
  | exact za (m:=Builtin.Tuple.tupleExact _) (wpAny_newObj_type (zb ⟨_,rfl,zb h⟩) htake)
  | exact za (m:=Builtin.Tuple.tupleExact _) (wpAny_newObj_type (za (zb (zb ⟨_,rfl,zb h⟩))) htake)
  | exact za (za (m:=Builtin.Tuple.tupleExact _) (wpAny_newObj_type (zb (zb ⟨_,rfl,zb h⟩)) htake))
  | exact za (za (m:=Builtin.Tuple.tupleExact _) (wpAny_newObj_type (zb ⟨_,rfl,zb h⟩) htake))
end
end HT
namespace L2
open PySem PySem.Spec PyProof.Rows
abbrev TO:=St→Hp→(Option Int→Hp→Prop)→Prop
def PO (X:Cx) (e:Option Expr) (t:TO):Prop :=
 ∀(pins:List (Addr×Obj)) (s:Shared) (σ:St) (H:Hp) (Q:Option Int→Hp→Prop),Inv X pins σ H s→t σ H Q →
  wpAny (model X.prog X.w) X.A (evalPart e X.env) (fun u s'=>∃o H',Inv X pins σ H' s'∧IsPart u o∧Q o H') X.xe s
def Qr8:TO:=fun _ H Q=>Q none H
def Qvm (t:TE):TO:=fun σ H Q=>t σ H fun x H1=>∃i,x = .int i∧Q (some i) H1
section
variable {X:Cx}{e:Expr}{te:TE}{lo hi:Option Expr}{tl th:TO}{pos p2:Pos}
theorem QsC:PO X none Qr8:=by
 intro pins s σ H Q I h;rw [evalPart_none];exact zb ⟨none,H,I,.none,h⟩
theorem Qr6 (h:PE X e te):PO X (some e) (Qvm te):=by
 intro pins s σ H Q I hw;rw [evalPart_some]
 refine thn (h pins s σ H _ I hw) fun u s1 ⟨x,H1,I1,r1,q1⟩=>?_
 obtain ⟨i,rfl,q⟩:=q1;obtain ⟨t,rfl⟩:=r1;exact ⟨some i,H1,I1,.int i t,q⟩
def SlR (X:Cx) (r:V→Option Int→Option Int→Hp→VK→Prop):Prop :=
 ∀(pins:List (Addr×Obj)) (s:Shared) (σ:St) (H:Hp) (x:V) (v vl vu:Value) (lo hi:Option Int) (sl:Addr) (Q:VK),Inv X pins σ H s→RelV x v→s.heap.IsSliceOf sl vl vu .none→IsPart vl lo→IsPart vu hi→r x lo hi H Q →
  ∃T id,typeLookup (.type T) "__getitem__" = pure (some (.builtin id))∧s.TypeIs v T∧wpAny (model X.prog X.w) X.A (getItem v (.ref sl)) (EP X pins σ Q) X.xe s
def tSl (r:V→Option Int→Option Int→Hp→VK→Prop) (te:TE) (tl th:TO):TE:=fun σ H Q=>te σ H fun x H1=>tl σ H1 fun l H2=>th σ H2 fun u H3=>r x l u H3 Q
theorem Qqd {r:V→Option Int→Option Int→Hp→VK→Prop} (hr:SlR X r) (he:PE X e te) (hl:PO X lo tl) (hu:PO X hi th):PE X (.Subscript e (.Slice lo hi none p2) pos) (tSl r te tl th):=by
 intro pins s σ H Q I h;refine Subscript_ (thn (he pins s σ H _ I h) fun v s1 ⟨x,H1,I1,r1,q1⟩=>?_);refine wpAny_Slice (thn (hl pins s1 σ H1 _ I1 q1) fun vl s2 ⟨l,H2,I2,pl,q2⟩=>thn (hu pins s2 σ H2 _ I2 q2) fun vu s3 ⟨u,H3,I3,pu,q3⟩=>?_);rw [evalPart_none];refine zb ?_
 have I4:Inv X pins σ H3 { s3 with heap:=s3.heap.push { cls:=.type "slice",data:=.fields #[vl,vu,.none] } }:=I3.kept (t':=s3.toks) fun b ob q=>zh _ q
 obtain ⟨T,id,hT,ht,hg⟩:=hr pins { s3 with heap:=s3.heap.push { cls:=.type "slice",data:=.fields #[vl,vu,.none] } } σ H3 x v vl vu l u s3.heap.objs.size Q I4 r1 (Heap.IsSliceOf.new ..) pl pu q3;show wpAny (model X.prog X.w) X.A (subscriptTail e (.Slice lo hi none p2) v (.ref s3.heap.objs.size)) (EP X pins σ Q) X.xe { s3 with heap:=s3.heap.push { cls:=.type "slice",data:=.fields #[vl,vu,.none] } };exact tail_any (ops:=[.ref s3.heap.objs.size,v]) ht hT hg (by with_unfolding_all rfl)
def Qgt (xs:List V) (lo hi:Option Int):List V:=(xs.drop (HT.sIx xs.length 0 lo)).take (HT.sIx xs.length xs.length hi - HT.sIx xs.length 0 lo)
theorem Qh2 (xs:List V) (lo hi:Option Int):(Qgt xs lo hi).length≤xs.length:=by
 unfold Qgt;rw [List.length_take,List.length_drop];omega
def Qwi (K:PySem.W.Frag):V→Option Int→Option Int→Hp→VK→Prop:=fun x lo hi H Q=>∃a xs,x = .ref a∧SqT K H a xs ∧
 ¬(HT.sIx xs.length 0 lo=0∧HT.sIx xs.length xs.length hi=xs.length)∧∀p,H p=none→Q (.ref p) (upd H p (.tup (Qgt xs lo hi)))
theorem QuC:SlR X (Qwi X.K):=by
 intro pins s σ H x v vl vu lo hi sl Q I rx hs pl pu h;obtain ⟨a,xs,rfl,hx,hw,q⟩:=h;cases rx;obtain ⟨its,r,ht,hz⟩:=I.tuple hx
 have hlen:its.toArray.size=xs.length:=by rw [zo]; exact r.length.symm
 refine ⟨"tuple",_,PyProof.Rows.slot_tuple_getitem.lookup,ht.typeIs,?_⟩;refine HT.getItem_tuple_cut ht hs pl pu (by rw [hlen]; exact hw) ?_ (by rw [hlen]; exact hz);rw [hlen];refine ⟨.ref s.heap.objs.size,_,I.laid (t':=s.toks) (o:=.tup (Qgt xs lo hi)) (fun b ob q=>zh _ q) (zc _) ?_,rfl,q _ (I.hok.fresh (zc _))⟩;exact ⟨zu (Qh2 xs lo hi) hz,_,(r.drop (HT.sIx xs.length 0 lo)).take (HT.sIx xs.length xs.length hi - HT.sIx xs.length 0 lo),IsTup.new _ _⟩
def Qvg (K:PySem.W.Frag):R2:=fun x y H Q=>∃a b xs ys,x = .ref a∧y = .ref b∧SqT K H a xs∧SqT K H b ys∧xs≠[]∧xs.length+ys.length≤sizeLine ∧
 (ys = []→Q (.ref a) H)∧(ys≠[]→∀p,H p=none→Q (.ref p) (upd H p (.tup (xs++ys))))
theorem QaA.nil_iff {xs:List V}{us:List Value} (r:QaA xs us):us = []↔xs = []:=by
 cases r with
 | nil=>simp
 | cons _ _=>simp
theorem Qr2:OpR X (binaryOp .Add) (Qvg X.K):=by
 intro pins s σ H x y v u Q I rx ry h;obtain ⟨a,b,xs,ys,rfl,rfl,ha,hb,hx,hz,q1,q2⟩:=h;cases rx;cases ry;obtain ⟨its,r1,p1,_⟩:=I.tuple ha;obtain ⟨its2,r2,p2,_⟩:=I.tuple hb;refine HT.cat_tup p1 p2 (fun z=>hx (r1.nil_iff.mp z)) (fun z=>⟨.ref a,H,I,rfl,q1 (r2.nil_iff.mp z)⟩) (fun z=>?_) (by rw [←r1.length,←r2.length]; exact hz);refine ⟨.ref s.heap.objs.size,_,I.laid (t':=s.toks) (o:=.tup (xs++ys)) (fun b ob q=>zh _ q) (zc _) ?_,rfl,q2 (fun w=>z (r2.nil_iff.mpr w)) _ (I.hok.fresh (zc _))⟩;exact ⟨by rw [zr]; exact hz,_,r1.append r2,IsTup.new _ _⟩
end
def ixN (n:Nat) (i:Int):Option Nat:=if 0≤i then (if i < n then some i.toNat else none) else if -(n:Int)≤i then some (i+n).toNat else none
def atI {α:Type} (xs:List α) (i:Int):Option α:=(ixN xs.length i).bind fun j=>xs[j]?
theorem Qrx {n:Nat}{i:Int}{j:Nat} (h:ixN n i=some j):seqIndex? i n=some j∧j < n∧-(n:Int)≤i∧i < n:=by
 unfold ixN at h
 by_cases h0:0≤i
 ·rw [if_pos h0] at h
  by_cases h1:i < n
  ·rw [if_pos h1] at h;have e:i.toNat=j:=zK h;exact ⟨by rw [seqIndex_of h0 h1,e],by omega,by omega,h1⟩
  ·rw [if_neg h1] at h; cases h
 ·rw [if_neg h0] at h
  by_cases h1:-(n:Int)≤i
  ·rw [if_pos h1] at h;have e:(i+n).toNat=j:=zK h;exact ⟨by rw [seqIndex_neg (by omega) h1,e],by omega,h1,by omega⟩
  ·rw [if_neg h1] at h; cases h
theorem Qjy {α:Type}{xs:List α}{i:Int}{v:α} (h:atI xs i=some v):∃j,seqIndex? i xs.length=some j∧xs[j]? = some v∧j < xs.length∧-(xs.length:Int)≤i∧i < xs.length:=by
 unfold atI at h
 cases e:ixN xs.length i with
 | none=>rw [e] at h; cases h
 | some j =>
  rw [e] at h;obtain ⟨h1,h2,h3,h4⟩:=Qrx e;exact ⟨j,h1,h,h2,h3,h4⟩
def Qmk (b:Expr):Prop:=∀o i,subscripted b false o i=operate [o,i] (getItem o i)
def IxR (X:Cx) (r:R2):Prop :=
 ∀(value slice:Expr) (pins:List (Addr×Obj)) (s:Shared) (σ:St) (H:Hp) (x y:V) (v u:Value) (Q:VK),Inv X pins σ H s→RelV x v→RelV y u→r x y H Q →
  subscripted slice false v u=operate [v,u] (getItem v u)→wpAny (model X.prog X.w) X.A (subscriptTail value slice v u) (EP X pins σ Q) X.xe s
def MtR (X:Cx) (id:String) (r:V→List V→Hp→VK→Prop):Prop :=
 ∀(pins:List (Addr×Obj)) (s:Shared) (σ:St) (H:Hp) (x:V) (xs:List V) (v:Value) (us:List Value) (Q:VK),Inv X pins σ H s→RelV x v→QaA xs us→r x xs H Q →
  wpAny (model X.prog X.w) X.A (call (.builtin id) (v::us)) (EP X pins σ Q) X.xe s
section
variable {X:Cx}{a b:Expr}{ta tb:TE}{pos:Pos}
theorem QuN {r:R2} (hr:IxR X r) (ha:PE X a ta) (hb:PE X b tb) (hs:Qmk b):PE X (.Subscript a b pos) (tOp r ta tb):=by
 intro pins s σ H Q I h;exact Subscript_ (QpP ha hb I h fun v u s2 x y H2 I2 rx ry q=>hr a b pins s2 σ H2 x y v u Q I2 rx ry q (hs _ _))
def Qwa (K:PySem.W.Frag):R2:=fun x y H Q=>∃p xs i v,x = .ref p∧y = .int i∧SqL K H p xs∧atI xs i=some v∧Q v H
def Qv6 (K:PySem.W.Frag):R2:=fun x y H Q=>∃p xs i v,x = .ref p∧y = .int i∧SqT K H p xs∧atI xs i=some v∧Q v H
def QwB:R2:=fun x y H Q=>∃z i c,x = .str z∧y = .int i∧z.length≤sizeLine∧atI z.cps.toList i=some c∧Q (.str ⟨#[c]⟩) H
theorem Qsw:IxR X (Qwa X.K):=by
 intro value slice pins s σ H x y v u Q I rx ry h hs;obtain ⟨p,xs,i,z,rfl,rfl,hq,he,q⟩:=h;cases rx;obtain ⟨t,rfl⟩:=ry;obtain ⟨its,r,pl,hz⟩:=I.list hq;obtain ⟨j,h1,h2,h3,h4,h5⟩:=Qjy he;obtain ⟨w,ew,rw'⟩:=r.get h2;have hl:=r.length;have hn:=Qhw;have fin:EP X pins σ Q w s:=⟨z,H,I,rw',q⟩
 by_cases h0:0≤i
 ·have hj:i.toNat=j:=by
   rw [seqIndex_of h0 h5] at h1;exact zK h1
  exact item_listR pl.isList h0 (by omega) (by rw [hj]; simpa using ew) fin hs
 ·have hj:(i+(its.toArray.size:Int)).toNat=j:=by
   rw [seqIndex_neg (by omega) h4] at h1;rw [zo,←hl];exact zK h1
  exact subscriptTail_builtinR (x:=w) pl.isList.typeIs slot_list_getitem.lookup
   (wpAny_getItem_list_neg (Q:=fun r s'=>r=w∧EP X pins σ Q r s') pl.isList (by omega) (by rw [zo] <;> omega) (by omega) (by rw [hj]; simpa using ew) ⟨rfl,fin⟩) hs
theorem Quo:IxR X (Qv6 X.K):=by
 intro value slice pins s σ H x y v u Q I rx ry h hs;obtain ⟨p,xs,i,z,rfl,rfl,hq,he,q⟩:=h;cases rx;obtain ⟨t,rfl⟩:=ry;obtain ⟨its,r,pl,hz⟩:=I.tuple hq;obtain ⟨j,h1,h2,h3,h4,h5⟩:=Qjy he;obtain ⟨w,ew,rw'⟩:=r.get h2;have hl:=r.length;have hn:=Qhw;have fin:EP X pins σ Q w s:=⟨z,H,I,rw',q⟩;exact subscriptTail_builtinR (x:=w) pl.typeIs slot_tuple_getitem.lookup
  (getItem_tuple (j:=j) (Q:=fun r s'=>r=w∧EP X pins σ Q r s') pl (by omega) (by omega) (by rw [zo,←hl]; exact h1) (by simpa using ew) ⟨rfl,fin⟩) hs
theorem QtC:IxR X QwB:=by
 intro value slice pins s σ H x y v u Q I rx ry h hs;obtain ⟨z,i,c,rfl,rfl,hz,he,q⟩:=h;obtain ⟨t,rfl⟩:=rx;obtain ⟨t',rfl⟩:=ry;obtain ⟨j,h1,h2,h3,h4,h5⟩:=Qjy he
 have hl:z.cps.toList.length=z.length:=by simp [Str.length]
 rw [hl] at h1 h4 h5;have hn:=Qhw
 exact tail_any (typeIs_str s z t) slot_str_getitem.lookup (getItem_str (c:=c) (by
  have e1:decide (i < -(2 ^ 63:Int))=false:=zg (by omega);have e2:decide (i≥2 ^ 63)=false:=zg (by omega)
  rw [e1,e2,Bool.or_false]) (by rw [h1]; simpa using h2) ⟨.str ⟨#[c]⟩,H,I.tok _,⟨_,rfl⟩,q⟩) hs
theorem Inv.lst {pins:List (Addr×Obj)}{σ:St}{H:Hp}{s:Shared}{p:Addr}{xs:List V} (I:Inv X pins σ H s) (h:H p=some (.lst xs)) :
  ∃(its:List Value) (n:Nat),QaA xs its∧s.heap.get? p=some { cls:=.type "list",data:=.seq its.toArray n }∧xs.length≤sizeLine:=by
 obtain ⟨z,its,n,r,e⟩:=I.hok p _ h;exact ⟨its,n,r,e,z⟩
theorem QhD (lo hi:Option Int) (n:Nat):(sliceBounds lo hi none n).1=((HT.sIx n 0 lo:Nat):Int)∧(sliceBounds lo hi none n).2.1=((HT.sIx n n hi:Nat):Int)∧(sliceBounds lo hi none n).2.2=1:=by
 refine ⟨?_,?_,rfl⟩
 ·cases lo with
  | none=>simp [sliceBounds,HT.sIx]
  | some i =>
   simp only [sliceBounds,HT.sIx,Option.getD_none,show (1:Int) > 0 by decide,if_true]
   by_cases h:i < 0
   ·simp only [h,if_true] <;> omega
   ·simp only [h,if_false] <;> omega
 ·cases hi with
  | none=>simp [sliceBounds,HT.sIx]
  | some i =>
   simp only [sliceBounds,HT.sIx,Option.getD_none,show (1:Int) > 0 by decide,if_true]
   by_cases h:i < 0
   ·simp only [h,if_true] <;> omega
   ·simp only [h,if_false] <;> omega
theorem Qkp (its:List Value) (lo hi:Option Int):slicePick its.toArray lo hi none=((its.drop (HT.sIx its.length 0 lo)).take (HT.sIx its.length its.length hi - HT.sIx its.length 0 lo)).toArray:=by
 obtain ⟨h1,h2,h3⟩:=QhD lo hi its.toArray.size;unfold slicePick;rw [h1,h2,h3]
 simp only [sliceRange_one,pick_run,zo] <;> rfl
def QvP (K:PySem.W.Frag):V→Option Int→Option Int→Hp→VK→Prop:=fun x lo hi H Q=>∃a xs,x = .ref a∧SqL K H a xs∧∀p,H p=none→Q (.ref p) (upd H p (.lst (Qgt xs lo hi)))
theorem Qsp:SlR X (QvP X.K):=by
 intro pins s σ H x v vl vu lo hi sl Q I rx hs pl pu h;obtain ⟨a,xs,rfl,hx,q⟩:=h;cases rx;obtain ⟨its,r,ht,hz⟩:=I.list hx;have hlen:=r.length;refine ⟨"list",_,slot_list_getitem.lookup,ht.isList.typeIs,?_⟩;refine wpAny_getItem_list_slice ht.isList hs pl pu .none (by simp) ?_ (by rw [zo] <;> omega);rw [Qkp,←hlen];refine ⟨.ref s.heap.objs.size,_,I.laid (t':=s.toks) (o:=.lst (Qgt xs lo hi)) (fun b ob q=>zh _ q) (zc _) ?_,rfl,q _ (I.hok.fresh (zc _))⟩;exact ⟨zu (Qh2 xs lo hi) hz,_,0,(r.drop (HT.sIx xs.length 0 lo)).take (HT.sIx xs.length xs.length hi - HT.sIx xs.length 0 lo),zF _ rfl⟩
def Qeh:V→Bool
 | .non=>true
 | .bl _=>true
 | .int _=>true
 | .str _=>true
 | _=>false
def eqV:V→V→Bool
 | .non,.non=>true
 | .bl a,.bl b=>a == b
 | .bl a,.int b=>(if a then 1 else 0) == b
 | .int a,.bl b=>a == (if b then 1 else 0)
 | .int a,.int b=>a == b
 | .str a,.str b=>a == b
 | _,_=>false
theorem QsP {A:Around}{s:Shared}{y x:V}{u v:Value} (ry:RelV y u) (rx:RelV x v) (fy:Qeh y=true) (fx:Qeh x=true):SeqAt.EqAt A s u v (eqV y x):=by
 cases y with
 | non =>
  cases ry
  cases x with
  | non=>cases rx; exact SeqAt.EqAt.same _
  | bl b=>cases rx; exact SeqAt.EqAt.none_bool b
  | int b=>obtain ⟨t,rfl⟩:=rx; exact SeqAt.EqAt.none_int b t
  | str b=>obtain ⟨t,rfl⟩:=rx; exact SeqAt.EqAt.none_str b t
  | _=>exact absurd (show false=true from fx) zf
 | bl a =>
  cases ry
  cases x with
  | non=>cases rx; exact SeqAt.EqAt.bool_none a
  | bl b=>cases rx; exact SeqAt.EqAt.bool_bool a b
  | int b=>obtain ⟨t,rfl⟩:=rx; exact SeqAt.EqAt.bool_int a b t
  | str b=>obtain ⟨t,rfl⟩:=rx; exact SeqAt.EqAt.bool_str a b t
  | _=>exact absurd (show false=true from fx) zf
 | int a =>
  obtain ⟨t',rfl⟩:=ry
  cases x with
  | non=>cases rx; exact SeqAt.EqAt.int_none a t'
  | bl b=>cases rx; exact SeqAt.EqAt.int_bool a t' b
  | int b=>obtain ⟨t,rfl⟩:=rx; exact SeqAt.EqAt.int_int a t' b t
  | str b=>obtain ⟨t,rfl⟩:=rx; exact SeqAt.EqAt.int_str a t' b t
  | _=>exact absurd (show false=true from fx) zf
 | str a =>
  obtain ⟨t',rfl⟩:=ry
  cases x with
  | non=>cases rx; exact SeqAt.EqAt.str_none a t'
  | bl b=>cases rx; exact SeqAt.EqAt.str_bool a t' b
  | int b=>obtain ⟨t,rfl⟩:=rx; exact SeqAt.EqAt.str_int a t' b t
  | str b=>obtain ⟨t,rfl⟩:=rx; exact SeqAt.EqAt.str_str a t' b t
  | _=>exact absurd (show false=true from fx) zf
 | _=>exact absurd (show false=true from fy) zf
def eqU (x:V) (u:Value):Bool:=match u with
 | .none=>eqV .non x
 | .bool b=>eqV (.bl b) x
 | .int i _=>eqV (.int i) x
 | .str z _=>eqV (.str z) x
 | _=>false
theorem QoO {x y:V}{u:Value} (r:RelV y u) (f:Qeh y=true):eqU x u=eqV y x:=by
 cases y with
 | non=>cases r; rfl
 | bl b=>cases r; rfl
 | int i=>obtain ⟨t,rfl⟩:=r; rfl
 | str z=>obtain ⟨t,rfl⟩:=r; rfl
 | _=>exact absurd (show false=true from f) zf
theorem QjI {x:V}:∀{xs:List V}{us:List Value},QaA xs us→xs.all Qeh=true→us.any (eqU x)=xs.any fun y=>eqV y x
 | _,_,.nil,_=>rfl
 | y::xs,u::us,.cons r t,f=>by
  rw [List.all_cons,zj] at f;rw [List.any_cons,List.any_cons,QoO r f.1,QjI t f.2]
theorem Qis {A:Around}{s:Shared}{x:V}{v:Value} (rx:RelV x v) (fx:Qeh x=true):∀{xs:List V}{us:List Value},QaA xs us→xs.all Qeh=true→∀u∈us,SeqAt.EqAt A s u v (eqU x u)
 | _,_,.nil,_=>fun u hu=>by cases hu
 | y::xs,u::us,.cons r t,f=>fun u' hu=>by
  rw [List.all_cons,zj] at f
  rcases zk.mp hu with rfl | hu
  ·rw [QoO r f.1]; exact QsP r rx f.1 fx
  ·exact Qis rx fx t f.2 u' hu
def inV (x:V) (xs:List V):Bool:=xs.any fun y=>eqV y x
def rIn (K:PySem.W.Frag) (neg:Bool):R2:=fun x y H Q=>∃p xs,y = .ref p∧(SqL K H p xs∨SqT K H p xs)∧Qeh x=true∧xs.all Qeh=true∧Q (.bl (if neg then !inV x xs else inV x xs)) H
theorem Qn0:OpR X (compareOp .In) (rIn X.K false):=by
 intro pins s σ H x y v u Q I rx ry h;obtain ⟨p,xs,rfl,hq,fx,fs,q⟩:=h;cases ry
 rcases hq with hq | hq
 ·obtain ⟨its,r,pl,hz⟩:=I.list hq;refine SeqAt.in_listAt (eqU x) pl.isList (fun w hw=>Qis rx fx r fs w (by simpa using hw)) ⟨.bl _,H,I,rfl,?_⟩;rw [show its.toArray.any (eqU x)=its.any (eqU x) by simp,QjI r fs];exact q
 ·obtain ⟨its,r,pl,hz⟩:=I.tuple hq;refine SeqAt.in_tupleAt (eqU x) pl (fun w hw=>Qis rx fx r fs w (by simpa using hw)) ⟨.bl _,H,I,rfl,?_⟩;rw [show its.toArray.any (eqU x)=its.any (eqU x) by simp,QjI r fs];exact q
def tyV (K:PySem.W.Frag) (T:String) (x:V) (H:Hp):Prop:=match x with
 | .str _=>T = "str"
 | .int _=>T = "int"
 | .ref p=>(T = "list"∧∃xs,SqL K H p xs)∨(T = "tuple"∧∃o,K.lookup p=some o∧o.cls = .type "tuple"∧o.dict=none) ∨
   (T = "dict"∧((∃kvs,H p=some (.dK kvs))∨∃kvs,H p=some (.dT kvs)))∨(T = "set"∧∃S n,H p=some (.set S n))
 | _=>False
theorem Qua {pins:List (Addr×Obj)}{σ:St}{H:Hp}{s:Shared}{T:String}{x:V}{v:Value} (I:Inv X pins σ H s) (r:RelV x v) (ty:tyV X.K T x H) :
  s.TypeIs v T∧∀a,v = .ref a→∃ob,s.heap.get? a=some ob∧ob.dict=none:=by
 cases x with
 | str z =>
  obtain ⟨t,rfl⟩:=r;cases (show T = "str" from ty);exact ⟨typeIs_str s z t,fun _ e=>nomatch e⟩
 | int i =>
  obtain ⟨t,rfl⟩:=r;cases (show T = "int" from ty);exact ⟨typeIs_int s i t,fun _ e=>nomatch e⟩
 | ref p =>
  cases r
  rcases ty with ⟨rfl,xs,hq⟩ | ⟨rfl,o,hk,hc,hd⟩ | ⟨rfl,hk⟩ | ⟨rfl,S,n,hk⟩
  ·obtain ⟨its,_,pl,_⟩:=I.list hq;refine ⟨pl.isList.typeIs,fun a e=>?_⟩;cases e;obtain ⟨o,n,e,c,hd,_⟩:=pl;exact ⟨o,e,hd⟩
  ·refine ⟨⟨o,I.kIn p o hk,hc⟩,fun a e=>?_⟩;cases e;exact ⟨o,I.kIn _ o hk,hd⟩
  ·have z:∃o,s.heap.get? p=some o∧o.ExactDict:=by
    rcases hk with ⟨kvs,hk⟩ | ⟨kvs,hk⟩
    ·obtain ⟨_,_,_,_,o,_,_,e,ex,_⟩:=I.hok p _ hk;exact ⟨o,e,ex⟩
    ·obtain ⟨_,_,_,_,o,_,_,e,ex,_⟩:=I.hok p _ hk;exact ⟨o,e,ex⟩
   obtain ⟨o,e,ex⟩:=z;refine ⟨⟨o,e,ex.1⟩,fun a e2=>?_⟩;cases e2;exact ⟨o,e,ex.2.1⟩
  ·obtain ⟨o,_,_,_,e,ex,_⟩:=I.hok p _ hk;refine ⟨⟨o,e,ex.1⟩,fun a e2=>?_⟩;cases e2;exact ⟨o,e,ex.2.1⟩
 | _=>exact False.elim ty
def tBM (K:PySem.W.Frag) (T:String) (r:V→List V→Hp→VK→Prop) (to:TE) (t:TA):TE:=fun σ H Q=>to σ H fun x H1=>tyV K T x H1∧t σ H1 fun xs H2=>r x xs H2 Q
variable {o e:Expr}{es:List Expr}{to:TE}{t:TA}{name:Str}{apos cpos:Pos}{T id:String}{r:V→List V→Hp→VK→Prop}
theorem QkA (pa:PlainAttrs T) (slot:Slot T name id) (hty:typeOf (.builtin id)=pure (.type "method_descriptor")) (hm:MtR X id r) (ho:PE X o to) (ha:PA X (e::es) t)
  (hbase:attributeBase o name X.env (eval o X.env)=eval o X.env:=by rfl)
  (hfew:((backTo cpos (starEach (e::es) X.env)).all (fun x=>!x.1)&&(backToKw cpos (keywordEach [] X.env)).all (fun x=>x.1.isSome)
   && decide ((e::es).length+([]:List Keyword).length+(if ([]:List Keyword).isEmpty then 0 else 1) < 30))=true:=by rfl)
  (hline:(apos.endLine == cpos.line)=true:=by rfl) (hs:starEach (e::es) X.env=(false,eval e X.env)::starEach es X.env:=by rfl) (hplain:(backTo cpos (starEach es X.env)).any (·.1)=false:=by rfl) :
  PE X (.Call (.Attribute o name apos) (e::es) [] cpos) (tBM X.K T r to t):=by
 intro pins s σ H Q I h;refine wpAny_Call_method_late hbase hfew hline rfl (thn (ho pins s σ H _ I h) fun v s1 ⟨x,H1,I1,r1,ty,q1⟩=>?_);obtain ⟨h1,h2⟩:=Qua I1 r1 ty;refine ⟨T,id,pa,slot,hty,h1,h2,?_⟩;have hA:=ha cpos pins s1 σ H1 _ I1 q1;rw [hs] at hA ⊢;refine Calls.callWith_builtin (by show (false || (backTo cpos (starEach es X.env)).any (·.1))=false; rw [hplain] <;> rfl) (Calls.evalArgs_plain ?_)
 exact thn hA fun us s2 ⟨vs,H2,I2,r2,q2⟩=>hm pins s2 σ H2 x vs v us Q I2 r1 r2 q2
/- xs.append(e),list.index on a module's tuple .. are MtR facts of 06m -/
end
def MtM (X:Cx) (id:String) (r:V→List V→Hp→VK→Prop):Prop :=
 ∀(pins:List (Addr×Obj)) (s:Shared) (σ:St) (H:Hp) (x:V) (xs:List V) (v:Value) (us:List Value) (Q:VK),Inv X pins σ H s→RelV x v→QaA xs us→r x xs H Q →
  wpAny (model X.prog X.w) X.A (call (.builtin id) (v::us)) (EP X pins σ Q) X.xe s
theorem QaA.one:∀{x:V}{us:List Value},QaA [x] us→∃u,us = [u]∧RelV x u
 | _,_,.cons r .nil=>⟨_,rfl,r⟩
theorem QaA.zero:∀{us:List Value},QaA [] us→us = []
 | _,.nil=>rfl
theorem QaA.rep {xs:List V}{us:List Value} (h:QaA xs us):∀k:Nat,QaA (List.replicate k xs).flatten (List.replicate k us).flatten
 | 0=>.nil
 | k+1=>by
  rw [List.replicate_succ,List.replicate_succ,List.flatten_cons,List.flatten_cons];exact QaA.append h (QaA.rep h k)
theorem foldl_rep (its:List Value):∀(k:Nat) (acc:List Value),
  List.foldl (fun x1 x2=>x1++x2) acc.toArray (List.replicate k its.toArray)=(acc++(List.replicate k its).flatten).toArray
 | 0,acc=>by simp
 | k+1,acc=>by
  have e:acc.toArray++its.toArray=(acc++its).toArray:=by simp
  have e2:(acc++its)++(List.replicate k its).flatten=acc++(List.replicate (k+1) its).flatten:=by
   rw [List.replicate_succ,List.flatten_cons,zP]
  rw [←e2,←foldl_rep its k (acc++its),←e,List.replicate_succ,List.foldl_cons]
section
variable {X:Cx}{pins:List (Addr×Obj)}{σ:St}{H:Hp}{s:Shared}{l b:Addr}{xs ys zs:List V}
theorem Inv.lset {its its':List Value}{n:Nat}{f:Array Value→Array Value}{t':Nat} (I:Inv X pins σ H s) (hH:H l=some (.lst xs))
  (e:s.heap.get? l=some { cls:=.type "list",data:=.seq its.toArray n }) (hf:f its.toArray=its'.toArray) (hv:QaA ys its') (hz:ys.length≤sizeLine) :
  Inv X pins σ (upd H l (.lst ys)) { s with heap:=s.heap.update l (Obj.mapSeq f),toks:=t' }:=by
 have q:=PySem.IsL.update e f;rw [hf] at q;refine I.write (x:=l) (e:=l) (by rw [hH]; exact trivial) (.inl rfl) (fun b' u hb hu=>(Heap.get?_update_other s.heap (Obj.mapSeq f) (Ne.symm hb)).trans hu) ⟨_,q⟩ ?_;exact ⟨hz,its',_,hv,q⟩
theorem Inv.lnew {its:List Value}{t':Nat} (I:Inv X pins σ H s) (hv:QaA ys its) (hz:ys.length≤sizeLine) :
  Inv X pins σ (upd H s.heap.objs.size (.lst ys)) { s with heap:=s.heap.push { cls:=.type "list",data:=.seq its.toArray },toks:=t' } :=
 I.laid (fun _ _ q=>zh _ q) (zc _) ⟨hz,its,0,hv,zF _ rfl⟩
theorem Inv.fresh (I:Inv X pins σ H s):H s.heap.objs.size=none:=I.hok.fresh (zc _)
theorem Inv.lstM (I:Inv X pins σ H s) (hH:H l=some (.lst xs)):xs.length≤sizeLine∧∃(its:List Value) (n:Nat),QaA xs its∧xs.length=its.length∧s.heap.get? l=some { cls:=.type "list",data:=.seq its.toArray n }:=by
 obtain ⟨z,its,n,r,e⟩:=I.hok l _ hH;exact ⟨z,its,n,r,r.length,e⟩
theorem QgD {n:Nat} (h:n≤sizeLine):Builtin.List.listTooLong n=false:=by
 unfold Builtin.List.listTooLong;exact zg (by omega)
end
section
variable {X:Cx}
def Qsh:V→List V→Hp→VK→Prop:=fun x vs H Q=>∃l xs y,x = .ref l∧vs = [y]∧H l=some (.lst xs)∧xs.length < sizeLine∧Q .non (upd H l (.lst (xs ++ [y])))
theorem QnY:MtM X "list.append" Qsh:=by
 intro pins s σ H x vs v us Q I rx rv h;obtain ⟨l,xs,y,rfl,rfl,hH,hz,q⟩:=h;cases rx;obtain ⟨u,rfl,ru⟩:=rv.one;obtain ⟨z,its,n,r,hl,e⟩:=I.lstM hH;refine call_meets F.slot_list_append ⟨_,e,rfl⟩ F.entry_list_append (F.args_list_append_2 _ _) (PySem.list_append l its.toArray n u (by rw [zo]; omega)) ⟨e,?_⟩;refine ⟨.non,_,I.lset (its':=its ++ [u]) hH e (by simp) (r.append (.cons ru .nil)) ?_,rfl,q⟩;rw [zr,zS];omega
theorem len_rep {α:Type} (xs:List α) (k:Nat):(List.replicate k xs).flatten.length=k * xs.length:=by
 induction k with
 | zero=>simp
 | succ k ih=>rw [List.replicate_succ,List.flatten_cons,zr,ih,Nat.succ_mul,Nat.add_comm]
end
section
variable {prog:Program}{w:World}{A:Around}{E:Value→Shared→Prop}{s:Shared}
theorem Qna {a c n:Nat} (hac:a≤c) (hc:c≤n):sliceBounds (some (a:Int)) (some (c:Int)) none n=((a:Int),(c:Int),1):=by
 simp only [sliceBounds,Option.getD_none]
 have h1:¬((a:Int) < 0):=by omega
 have h2:¬((c:Int) < 0):=by omega
 simp only [h1,h2,if_false,show (1:Int) > 0 by decide,if_true];congr 1
 ·omega
 ·congr 1; omega
set_option maxRecDepth 100000 in
theorem QsJ {l b sl:Addr}{items new:Array Value}{n n2:Nat}{vl vu:Value}{a c:Nat}{Q:Unit→Shared→Prop}
  (e:s.heap.get? l=some { cls:=.type "list",data:=.seq items n }) (e2:s.heap.get? b=some { cls:=.type "list",data:=.seq new n2 }) (hne:l≠b)
  (hs:s.heap.IsSliceOf sl vl vu .none) (pl:IsPart vl (some (a:Int))) (pu:IsPart vu (some (c:Int))) (hac:a≤c) (hc:c≤items.size)
  (hsz:items.size+new.size≤sizeLine) (h:Q () { s with heap:=s.heap.update l (Obj.mapSeq fun xs=>xs.extract 0 a++new++xs.extract c xs.size) }) :
  wpAny (model prog w) A (setItem (.ref l) (.ref sl) (.ref b)) Q E s:=by
 have hl:s.heap.IsList l items:=PySem.IsL.isList e;have hb:s.heap.IsList b new:=PySem.IsL.isList e2;obtain ⟨os,hos,hcs,hds⟩:=id hs;have hTs:s.TypeIs (.ref sl) "slice":=⟨os,hos,hcs⟩;have hstep:¬((rawPart none == rawInt 0)=true):=zf
 have hsame:Builtin.List.listSameRef (.ref l) (.ref b)=false:=by
  unfold Builtin.List.listSameRef;exact beq_eq_false_iff_ne.mpr hne
 have hmax:(max (a:Int) (c:Int)).toNat=c:=by omega
 have hz':((fun xs:Array Value=>xs.extract 0 a++new++xs.extract c xs.size) items).size≤sizeLine+1:=by
  simp only [Array.size_append,Array.size_extract];omega
 unfold setItem
 try with_reducible refine zH ?_
 first | refine za (zb ?_) | skip
 refine za (wpAny_sequenceKey hl.typeIs (by decide) ?_)
 refine za (wpAny_callSpecial?_slot (name:=Str.ofString "__setitem__") hl.typeIs slot_list_setitem
  (wpAny_call_entry slot_list_setitem hl.typeIs entry_list_setitem ?_ (args_list_setitem _ _ _)))
 show wpAny _ _ (Builtin.List.listSubscript? (.ref sl) >>= _) _ _ s;refine za ?_;unfold Builtin.List.listSubscript?;refine za (wpAny_specialOf hTs slice_no_index ?_);simp only [Option.isNone_none,if_true];refine zb ?_;show wpAny _ _ (typeOf (.ref sl) >>= _) _ _ s;refine za (wpAny_typeOf hTs ?_)
 first
  | rw [if_neg (by decide)]
  | refine PySem.W.KFB.if_not (by decide) ?_
 rw [listSliceParts_eq];refine za (za (wpAny_field hos hds (x:=.none) rfl (za (wpAny_listPart .none ?_))));rw [if_neg hstep];refine za (wpAny_field hos hds (x:=vl) rfl (za (wpAny_listPart pl ?_)));refine za (wpAny_field hos hds (x:=vu) rfl (za (wpAny_listPart pu (zb ?_))))
 first
  | simp only [hsame,Bool.false_eq_true,if_false]
  | refine PySem.W.KFB.if_not hsame ?_
  | (dsimp only
     rw [if_neg (by rw [hsame]; exact zf)])
 refine za (m:=Builtin.List.listAllItems (.ref b) "must assign iterable to extended slice") ?_;unfold Builtin.List.listAllItems;refine za (wpAny_typeOf hb.typeIs ?_)
 first
  | refine PySem.W.KFB.if_so (by decide) ?_
  | rw [if_pos (by decide)]
  | simp only [beq_self_eq_true,Bool.true_or,if_true]
 unfold Builtin.List.listItems;refine za (wpAny_seqItems e2 rfl (zb ?_));refine za (za (wpAny_seqItems e rfl (zb ?_)));refine za (zT ((sliceIndices_raw (some (a:Int)) (some (c:Int)) none items.size (by simp)).trans (congrArg (pure:Int×Int×Int→Sem (Int×Int×Int)) (Qna hac hc))) ?_);show wpAny _ _ (if ((1:Int) == 1)=true then _ else _) _ _ s;rw [if_pos (by decide)];refine za (zU ?_)
 first
  | simp only [QgD hsz,Bool.false_eq_true,if_false]
  | refine PySem.W.KFB.if_not (QgD hsz) ?_
 first | refine za (zb ?_) | skip
 show wpAny _ _ (updateSeq l (fun xs=>xs.extract 0 ((a:Int)).toNat++new++xs.extract (max (a:Int) (c:Int)).toNat xs.size) >>= _) _ _ s;rw [hmax,Int.toNat_natCast];refine za (wpAny_updateSeq (hz:=zu (zW _ _) hsz) (_hz':=hz') e rfl ?_);refine za (wpAny_letGo ?_)
 first
  | exact za (zb (zb ⟨.none,rfl,zb h⟩))
  | exact zb ⟨.none,rfl,zb h⟩
end
section
variable {X:Cx}
end
end L2
namespace Att
open PySem PySem.W PySem.Calls PyProof.Rows
theorem QiV {P:Params}{h:Heap}:∀(ns:List Int) (vs:List Value),WellAll P h vs (ns.map WData.int)→IntsAre vs ns:=by
 intro ns
 induction ns with
 | nil =>
  intro vs w;rw [List.map_nil] at w;cases w;exact .nil
 | cons n ns ih =>
  intro vs w;rw [ze] at w
  cases w with
  | cons a b =>
   cases a;exact .cons _ _ (ih _ b)
theorem Qpa {l:OpenLaw}{n:Nat} (hn:l.most=some n) {P:Params}{h:Heap}{args:List WData}{vals:List Value}
  (hpre:l.row.toRowW.claim.pre args=true) (hwl:WellAll P h vals args) :
  ∃a vs ns,vals = [Value.ref a]∧args = [WData.list (ns.map WData.int)]∧h.get? a=some { cls:=.type "list",data:=.seq vs.toArray }∧IntsAre vs ns∧ns.length≤n:=by
 have hsh:WShape.hasAll [] args [.list .int]=true:=(pre_splitW hpre).1;have hc:l.pre.holds [] { args:=args }=true:=(pre_splitW hpre).2;obtain ⟨d,r,rfl,h1,h2⟩:=hasAllW_cons hsh;obtain rfl:=hasAllW_nil h2;obtain ⟨xs,rfl,h3⟩:=hasW_list h1;obtain ⟨ns,rfl⟩:=items_int h3
 have hlen:ns.length≤n:=by
  unfold OpenLaw.pre at hc
  have h4:(WTm.not (.lt (.lit (.int (n:Int))) (.len (.arg 0)))).holds [] { args:=[.list (ns.map .int)] }=true:=by
   have h4:=(holds_andW hc).1;rw [hn] at h4;exact h4
  have h5:=condW_of h4 (w_not (w_lt w_lit (w_len_list (w_arg rfl))));rw [zA] at h5
  refine Nat.le_of_not_lt fun q=>?_
  have q':(n:Int) < ((ns.length:Nat):Int):=by omega
  first
   | (rw [zt q'] at h5; exact absurd h5 (by decide))
   | (simp at h5; omega)
 cases hwl with
 | cons w1 w2 =>
  cases w2
  cases w1 with
  | list ho hall=>exact ⟨_,_,ns,rfl,rfl,ho,QiV ns _ hall,hlen⟩
theorem QnK (l:OpenLaw) (args:List WData):l.row.toRowW.claim.post args (.bool true) args=true :=
 postW_of (r:=l.row.toRowW) (X:=(true == true))
  (show WShape.has [] (.bool true) .bool=true by first | rfl | decide | simp [WShape.has,WShape.arms,WShape.armsAll])
  (show (WTm.eq .res (.lit (.bool true))).value [] { args:=args,res:=some (.bool true),after:=args }=some (.bool (true == true)) from w_eq_bool (w_res rfl) w_lit) rfl
theorem attach_call {l:OpenLaw}{n:Nat}{q:Program}{loose:List Str}{XP:(Str→Option Value)→Heap→Prop}{YP:World→Heap→Prop}{d:DefRec}
  (hn:l.most=some n) (hdf:d.params.defaults = [])
  (call:∀(w:World) (s₀ s₁:Shared) (mg mb:Str→Option Value) (fa:Addr) (o:Obj) (pm cd doc:Value) (a:Addr) (vs:List Value) (ns:List Int),
   Ground q loose [] XP w s₀ mg mb s₁.heap→YP w s₁.heap →
   s₁.heap.get? fa=some o→o.data = .func (docDef d.name d.params d.body d.scope pm cd doc)→s₁.heap.CodeRec cd d.name→mg d.name=some (.ref fa) →
   s₁.heap.get? a=some { cls:=.type "list",data:=.seq vs.toArray }→IntsAre vs ns→ns.length≤n→s₁.gens = #[] →
   codeAny (model l.prog w) callerA (.call (.ref fa) ⟨[.ref a],[]⟩) (fun r s'=>r = .ok (.ret (.bool true))∧OldK s₁.heap s'.heap∧s'.os=s₁.os∧AllBare s'.gens) s₁) :
  WalkO q loose XP YP l.row.toRowW d [] (fun f vs=>PySem.call f vs):=by
 intro w s₀ s₁ mg mb G Y fa o pm cd doc dV kV ho hd hcd hD hmg hg args vals as hpre hlay hrd hwl hlo;obtain rfl:dV = .none:=Dflts.none hD hdf;obtain rfl:kV = .none:=Dflts.noKw hD;obtain ⟨a,vs,ns,rfl,rfl,hobj,hints,hlen⟩:=Qpa hn hpre hwl;refine enter_call (codeAny_mono (call w s₀ s₁ mg mb fa o pm cd doc a vs ns G Y ho (fd_plain hd) hcd hmg hobj hints hlen hg) fun r s' hq=>?_);obtain ⟨rfl,h2,h3,h4⟩:=hq;exact ⟨.inl ⟨.bool true,.bool true,[],rfl,fun _=>rfl,.bool true,QnK l _,fun _=>⟨List.Pairwise.nil,fun _ hm=>(nomatch hm)⟩⟩,h2,h3,h4⟩
section
variable {prog:Program}{w:World}{A:Around}{E:Value→Shared→Prop}{s:Shared}{K:Frag}
end
end Att
namespace L2
open PySem PySem.Spec PyProof.Rows
theorem Qg9:∀{vs:List Value}{ns:List Int},IntsAre vs ns→QaA (ns.map V.int) vs
 | _,_,.nil=>.nil
 | _,_,.cons n t h=>.cons ⟨t,rfl⟩ (Qg9 h)
def Qig (H:Hp):Prop:=∀b,H b=none∨∃o xs,H b=some (.frz o (.lst xs))
theorem Qqo {P:Program}{w:World}{K:PySem.W.Frag}{mg mb:Str→Option Value}{CX:CXT}{k:Nat}{fa a:Addr}{fd:FuncData}{x:Str}{sp:Sp}{s₁:Shared}{vs:List Value}{ns:List Int}
  (KX:K.In s₁.heap) (hns:s₁.heap.Ns mainGlobals mg) (hb:s₁.heap.Ns builtinsNs mb) (hbb:∀x:Str,x≠"__name__"→mb x=bootBuiltins x) (hlim:s₁.heap.NoLimit) (hg:s₁.gens = #[])
  (ha:s₁.heap.get? a=some { cls:=.type "list",data:=.seq vs.toArray }) (hi:IntsAre vs ns) (hl:ns.length≤sizeLine) (hr:QaK k callerA)
  (F:∀base:Heap,K.In base→base.Ns mainGlobals mg→Qbo P w K mg base CX k fa fd [x] sp) (hbind:∀(s:Shared) (u:Value),BindsTo s fd ⟨[u],[]⟩ [(x,u)])
  (hsp:∀H:Hp,Qig H→SqL K H a (ns.map V.int)→sp [.ref a] H (fun v _=>v = .bl true) fun _ _ _=>False)
  (hCX:∀H e s',CX [] H s₁ (fun _ _ _=>False) e s'→False) :
  codeAny (model P w) callerA (.call (.ref fa) ⟨[.ref a],[]⟩) (fun r s'=>r = .ok (.ret (.bool true))∧OldK s₁.heap s'.heap∧s'.os=s₁.os∧AllBare s'.gens) s₁:=by
 have rv:=Qg9 hi;have lenV:=hi.length;have core:∀H:Hp,Qig H→SqL K H a (ns.map V.int)→HOk P w H s₁.heap→(∀b,H b≠none→b=a)→(H a≠none→K.lookup a=none) →
   codeAny (model P w) callerA (.call (.ref fa) ⟨[.ref a],[]⟩) (fun r s'=>r = .ok (.ret (.bool true))∧OldK s₁.heap s'.heap∧s'.os=s₁.os∧AllBare s'.gens) s₁:=by
  intro H hO hS hok hA hK
  have base_of:∀{b:Addr}{o:Obj},s₁.heap.get? b=some o→H b=none→(QdK s₁.heap H).get? b=some o:=fun e n=>Qlp e n
  have noA:∀{b:Addr}{o:Obj}{es:Array DictEntry}{ep:Nat},s₁.heap.get? b=some o→o.data = .dict es ep→H b=none:=fun {b o es ep} e d=>by
   cases q:H b with
   | none=>rfl
   | some u =>
    have e':b=a:=hA b (by rw [q]; simp);subst e';rw [ha] at e; cases e;have d':Data.seq vs.toArray _=Data.dict es ep:=d;cases d'
  have nsK:∀{b:Addr}{m:Str→Option Value},s₁.heap.Ns b m→(QdK s₁.heap H).Ns b m:=fun {b m} ⟨o,es,ep,e,d,r⟩=>⟨o,es,ep,base_of e (noA e d),d,r⟩
  have hKb:K.In (QdK s₁.heap H):=fun b o e=>base_of (KX b o e) (by
   cases q:H b with
   | none=>rfl
   | some u =>
    have e':b=a:=hA b (by rw [q]; simp);subst e'
    rw [hK (by rw [q]; simp)] at e; cases e)
  have hM:Mod K mg (QdK s₁.heap H):=⟨hKb,nsK hns,⟨mb,nsK hb,hbb⟩,let ⟨mc,h1,h2⟩:=hlim; ⟨mc,nsK h1,h2⟩⟩;have e0:Qdy P w K mg (QdK s₁.heap H) callerA [] s₁ H:=⟨rfl,hM,fun b o e=>Ql4 e,Nat.le_of_eq (QjX _ _),trivial,fun b hb=>absurd (show b∈([]:List Addr) from hb) (by simp),hok,.of_eq hg⟩
  refine codeAny_mono ((F _ hKb (nsK hns)).run callerA [] s₁ H ⟨[.ref a],[]⟩ [.ref a] [.ref a] _ _ hr e0 (hbind s₁ (.ref a)) (.cons rfl .nil) (hsp H hO hS)) fun r s' h=>?_
  cases r with
  | error e=>exact (hCX H e s' h).elim
  | ok fl =>
   cases fl with
   | next=>exact False.elim h
   | brk=>exact False.elim h
   | cont=>exact False.elim h
   | ret u =>
    obtain ⟨v,H',os,bare,un,hok',r',q⟩:=h;have q':v = .bl true:=q;subst q';obtain rfl:u=Value.bool true:=r';refine ⟨rfl,OldK.of_keep fun b o e=>?_,os,bare⟩
    cases q:H b with
    | none=>exact un.keep b o e q (by intro z; exact absurd (show b∈([]:List Addr) from z) (by simp)) (by simp)
    | some u =>
     rcases hO b with z | ⟨ob,xs,z⟩
     ·rw [q] at z; cases z
     ·have z2:=un.frzs b ob _ z;obtain ⟨e1,_⟩:=hok b _ z;obtain ⟨e2,_⟩:=hok' b _ z2;rw [e] at e1; cases e1;exact e2
 cases hk:K.lookup a with
 | some o =>
  have e:=KX a o hk;rw [ha] at e;cases e
  refine core (fun _=>none) (fun _=>.inl rfl) (.inr ⟨_,vs.toArray,_,hk,rfl,rfl,rfl,by rw [zo,lenV]; exact hl,by simpa using rv⟩) (fun b u z=>by have z':(none:Option HO)=some u:=z; cases z') (fun b z=>absurd rfl z) fun z=>absurd rfl z
 | none =>
  refine core (fun b=>if b=a then some (.frz { cls:=.type "list",data:=.seq vs.toArray } (.lst (ns.map V.int))) else none) (fun b=>?_) (.inl (.inr ⟨{ cls:=.type "list",data:=.seq vs.toArray },if_pos rfl⟩)) (fun b u z=>?_) (fun b z=>?_) fun _=>hk
  ·by_cases hb:b=a
   ·exact .inr ⟨_,_,if_pos hb⟩
   ·exact .inl (if_neg hb)
  ·by_cases hb:b=a
   ·have z':=(if_pos hb).symm.trans z;cases z';subst hb;exact ⟨ha,by rw [zA]; exact hl,vs,_,rv,ha⟩
   ·have z':=(if_neg hb).symm.trans z;cases z'
  ·by_cases hb:b=a
   ·exact hb
   ·exact absurd (if_neg hb) z
abbrev KOf {K:PySem.W.Frag}{h:Heap} (_:K.In h):PySem.W.Frag:=K
theorem walk_of {l:PySem.W.OpenLaw}{n k:Nat}{q:Program}{loose:List Str}{XP:(Str→Option Value)→Heap→Prop}{YP:World→Heap→Prop}{d:DefRec}{K:Params→PySem.W.Frag}{CX:World→CXT}{sp:World→Sp}{x:Str}
  (hn:l.most=some n) (hn2:n≤sizeLine) (hdf:d.params.defaults = []) (hr:QaK k callerA)
  (hY:∀(w:World) (h:Heap),YP w h→(K w.params).In h)
  (F:∀(w:World) (mg:Str→Option Value) (fa:Addr) (h:Heap),(K w.params).In h→h.Ns mainGlobals mg→mg d.name=some (.ref fa) →
   ∃fd:FuncData,(∀(s:Shared) (u:Value),BindsTo s fd ⟨[u],[]⟩ [(x,u)]) ∧
    ∀base:Heap,(K w.params).In base→base.Ns mainGlobals mg→Qbo l.prog w (K w.params) mg base (CX w) k fa fd [x] (sp w))
  (hsp:∀(w:World) (H:Hp) (a:Addr) (ns:List Int),ns.length≤n→Qig H→SqL (K w.params) H a (ns.map V.int)→sp w [.ref a] H (fun v _=>v = .bl true) fun _ _ _=>False)
  (hCX:∀(w:World) (H:Hp) (s:Shared) (e:Value) (s':Shared),CX w [] H s (fun _ _ _=>False) e s'→False) :
  PySem.W.WalkO q loose XP YP l.row.toRowW d [] (fun f vs=>PySem.call f vs):=by
 refine Att.attach_call hn hdf fun w s₀ s₁ mg mb fa o pm cd doc a vs ns G Y ho hd hcd hmg hobj hints hlen hg=>?_
 have KX:=hY w _ Y;obtain ⟨fd,hb,hF⟩:=F w mg fa _ KX G.T.g hmg
 exact Qqo KX G.T.g G.T.b G.T.builtins G.T.nolimit hg hobj hints (zu hlen hn2) hr hF hb (fun H hO hS=>hsp w H a ns hlen hO hS) fun H e s'=>hCX w H s₁ e s'
end L2
/- THE LAST THEOREM (shape; LID,My.* are yours):
   My.Adr: a structure of the addresses that your layer names (classes,functions); My.Txt K t: a structure (Prop) of the equations over K;
   My.txt_mk:{K}{implicit addresses ..} (e1:nsIn K mainGlobals "law" = some (some (.ref f))) (e2:K.lookup f=some ⟨oc,od,.func (fnOf "law" "law" params body scope dV kV doc pm an cdv ct),sl⟩) (e3:codeIn K cdv "law" = true) ..:∃t,My.Txt K t
set_option maxRecDepth 100000 in
set_option maxHeartbeats 0 in
theorem PySem.Challenge.cw_LID_holds : PySem.Challenge.rw_LID.Holds := by
 w_on; o_law; k_head; (case hw=>w_witness2)
 k_fill
 refine L2.walk_of (l:=PySem.Challenge.rw_LID) (n:=63) (k:=40) (x:="script") (CX:=fun w=>..) (sp:=fun _=>My.sp_law) rfl (by decide) rfl ⟨rfl,by decide,by decide⟩ (fun w h Y=>PySem.W.kIn_of Y) ?F ?S ?C
 case F =>
  intro w mg fa h KX G hmg
  have T:∃t,My.Txt (L2.KOf KX) t:=by
   dsimp only [L2.KOf]                          -- K must stand as «<heap const> w.params» for k_is
   refine' My.txt_mk ?e1 ?e2 ?e3 ..
   (case e1=>PySem.W.k_is)                    -- in the order: a name -> its address -> its object -> its parts
   (case e2=>PySem.W.k_is)
   ..
  obtain ⟨t,T⟩:=T;have e0:=hmg.symm.trans (PySem.W.mg_of KX G T.law);cases e0                                       -- fa is the law's own address
  exact ⟨_,fun s u=>.of_eq rfl,fun base kb nb=>My.law_fn T kb nb⟩     -- if «.of_eq rfl» comes too early: refine' ⟨_,?b,fun base kb nb=>My.law_fn T kb nb⟩; exact fun s u=>.of_eq rfl
 case S=>exact fun w H a ns hl hO hS=>..
 case C=>exact ..
(the tactic k_is has no namespace: write k_is) -/
namespace L2
open PySem PySem.Spec PyProof.Rows
def inClass (s:Stmt) (j:Nat):Stmt:=match s with
 | .ClassDef _ _ _ body _ _ _ _ _ _ _=>body.getD j (.Pass ⟨0,0,0,0⟩)
 | _=>.Pass ⟨0,0,0,0⟩
def Qbv (s:Stmt):Arguments:=match s with
 | .FunctionDef _ a _ _ _ _ _ _ _ _=>a
 | _=>{ posonlyargs:=[],args:=[],vararg:=none,kwonlyargs:=[],kw_defaults:=[],kwarg:=none,defaults:=[] }
def QaW (s:Stmt):List Stmt:=match s with
 | .FunctionDef _ _ b _ _ _ _ _ _ _=>b
 | _=>[]
def Qah (s:Stmt):Scope:=match s with
 | .FunctionDef _ _ _ _ _ _ sc _ _ _=>sc
 | _=>{ kind:=.function,names:=[],isGenerator:=false,isCoroutine:=false }
abbrev CX0:CXT:=fun _ _ _ _ _ _=>False
abbrev E0:XK:=fun _ _ _=>False
theorem Qkt {X:Cx}:Qeo CX0 X E0:=fun _ _ _ _ _ _ _ h=>h.elim
structure Fun (K:PySem.W.Frag) (x qual:Str) (st:Stmt) (f:Addr) (fd:FuncData):Prop where
 ex:∃(oc:Value) (od:Option Addr) (kV doc pm:Value) (an:Option Addr) (cdv ct:Value) (osl:Array (Option Value)),
  fd=PySem.W.fnOf x qual (Qbv st) (QaW st) (Qah st) .none kV doc pm an cdv ct∧K.lookup f=some ⟨oc,od,.func fd,osl⟩∧PySem.W.codeIn K cdv qual=true
 kp:PySem.W.keepIn K (.ref f)=true
section
variable {P:Program}{w:World}{K:PySem.W.Frag}{mg:Str→Option Value}{base:Heap}
theorem Fun.ok {x qual:Str}{st:Stmt}{f:Addr}{fd:FuncData}{N ps:List Str}{k:Nat}{sp:Sp} (F:Fun K x qual st f fd) (S:QaI N ps (Qah st)) (len:∀vs H Q E,sp vs H Q E→vs.length=ps.length)
  (hbody:∀(cdv:Value) (A:Around) (outer:List Env) (s:Shared) (H:Hp) (vs:List V) (Q:VK) (E:XK),QaK k (A.deeper (envOfC qual (Qah st) s.heap.objs.size f cdv))→sp vs H Q E →
   ∃t,PSs (Qb1 CX0 P w K mg base N qual (Qah st) f cdv A outer s H E).nox (QaW st) t∧t { nx:=fun _ H'=>Q .non H',rt:=Q } (start N vs) H):Qbo P w K mg base CX0 (k+1) f fd ps sp:=by
 obtain ⟨oc,od,kV,doc,pm,an,cdv,ct,osl,rfl,lk,hcd⟩:=F.ex
 refine QmX lk hcd S len fun A outer s H vs Q E hr hsp=>?_
 obtain ⟨t,h,q⟩:=hbody cdv A outer s H vs Q E hr hsp;exact ⟨t,h.nox,q⟩
theorem Fun.binds {x qual:Str}{st:Stmt}{f:Addr}{fd:FuncData}{ps:List Str} (F:Fun K x qual st f fd)
  (h:∀(kV doc pm:Value) (an:Option Addr) (cdv ct:Value) (us:List Value),us.length=ps.length→bindArgs (PySem.W.fnOf x qual (Qbv st) (QaW st) (Qah st) .none kV doc pm an cdv ct) ⟨us,[]⟩=pure (ps.zip us)):Binds K fd ps []:=by
 obtain ⟨oc,od,kV,doc,pm,an,cdv,ct,osl,rfl,lk,hcd⟩:=F.ex;exact .all (h kV doc pm an cdv ct)
theorem Qi0 {x qual:Str}{st:Stmt}{f:Addr}{oc:Value}{od an:Option Addr}{osl:Array (Option Value)}{kV doc pm cdv ct:Value} (l:K.lookup f=some ⟨oc,od,.func (PySem.W.fnOf x qual (Qbv st) (QaW st) (Qah st) .none kV doc pm an cdv ct),osl⟩)
  (c:PySem.W.codeIn K cdv qual=true) (k:PySem.W.keepIn K (.ref f)=true):Fun K x qual st f (PySem.W.fnOf x qual (Qbv st) (QaW st) (Qah st) .none kV doc pm an cdv ct):=⟨⟨oc,od,kV,doc,pm,an,cdv,ct,osl,rfl,l,c⟩,k⟩
end
theorem Qu3 {A:Around}{k:Nat} (hr:QaK k A):A.units+1 < cLine:=Nat.lt_of_le_of_lt (Nat.add_le_add_left (by decide:1≤64) _) hr.units
section
variable {X:Cx}
end
def Same (H H':Hp):Prop:=∀b o,H b=some o→H' b=some o
theorem Same.refl (H:Hp):Same H H:=fun _ _ h=>h
theorem Same.trans {H H1 H2:Hp} (a:Same H H1) (b:Same H1 H2):Same H H2:=fun c o h=>b c o (a c o h)
theorem Same.free {H H':Hp} (e:Same H H') {l:Addr} (h:H' l=Option.none):H l=Option.none:=by
 cases q:H l with
 | none=>rfl
 | some o =>
  rw [e l o q] at h;cases h
theorem Same.seq {K:PySem.W.Frag}{H H':Hp}{a:Addr}{xs:List V} (e:Same H H') (h:SqL K H a xs):SqL K H' a xs:=by
 rcases h with (h | ⟨o,h⟩) | h
 ·exact .inl (.inl (e _ _ h))
 ·exact .inl (.inr ⟨o,e _ _ h⟩)
 ·exact .inr h
section
variable {κ:Type} [DecidableEq κ]
def QbY (kvs:List (κ×V)) (k:κ):Option V:=(kvs.find? fun kv=>decide (kv.1=k)).map (·.2)
def putK (kvs:List (κ×V)) (k:κ) (v:V):List (κ×V) :=
 if (kvs.any fun kv=>decide (kv.1=k))=true then kvs.map (fun kv=>if kv.1=k then (kv.1,v) else kv) else kvs ++ [(k,v)]
def Qq6 (kvs:List (κ×V)) (k:κ):List (κ×V):=kvs.filter fun kv=>decide (kv.1≠k)
theorem Qfi {p:κ×V}{r:List (κ×V)}{k:κ} (e:p.1=k):QbY (p::r) k=some p.2:=by simp [QbY,List.find?_cons,e]
theorem Qft {p:κ×V}{r:List (κ×V)}{k:κ} (e:¬p.1=k):QbY (p::r) k=QbY r k:=by simp [QbY,List.find?_cons,e]
theorem Qif (k:κ):∀kvs:List (κ×V),(kvs.any fun kv=>decide (kv.1=k))=(QbY kvs k).isSome
 | []=>rfl
 | p::r=>by
  rw [List.any_cons]
  by_cases e:p.1=k
  ·simp only [Qfi e,zt e,Bool.true_or,Option.isSome_some]
  ·rw [Qft e,zg e,Bool.false_or]; exact Qif k r
theorem QlL (kvs:List (κ×V)) (k:κ) (v:V):(putK kvs k v).length≤kvs.length+1:=by
 unfold putK
 split
 ·rw [zA]; omega
 ·rw [zr,zp,zR]; omega
theorem Qqi {kvs:List (κ×V)}{k:κ} (v:V) (h:QbY kvs k=none):putK kvs k v=kvs ++ [(k,v)]:=by
 unfold putK;rw [Qif,h];exact if_neg (by decide)
theorem QcJ.isSome_eq {o:Option V}{u:Option Value} (r:QcJ o u):o.isSome=u.isSome:=by
 cases o with
 | none=>cases u with
  | none=>rfl
  | some _=>exact (show False from r).elim
 | some _=>cases u with
  | none=>exact (show False from r).elim
  | some _=>rfl
theorem QcJ.getD {o:Option V}{u:Option Value}{d:V}{d':Value} (r:QcJ o u) (rd:RelV d d'):RelV (o.getD d) (u.getD d'):=by
 cases o with
 | none=>cases u with
  | none=>exact rd
  | some _=>exact (show False from r).elim
 | some _=>cases u with
  | none=>exact (show False from r).elim
  | some _=>exact r
theorem KV.val {kvs:List (κ×V)}{vs:List (κ×Value)} (r:KV kvs vs) (k:κ):QcJ (QbY kvs k) (valueAt vs k):=by
 unfold KV at r
 induction r with
 | nil=>exact True.intro
 | @cons p q ps qs h t ih =>
  obtain ⟨h1,h2⟩:=h
  by_cases e:p.1=k
  ·have e':q.1=k:=h1.symm.trans e
   have b:valueAt (q::qs) k=some q.2:=by simp [valueAt,List.find?_cons,e']
   rw [Qfi e,b]; exact h2
  ·have e':¬q.1=k:=fun z=>e (h1.trans z)
   have b:valueAt (q::qs) k=valueAt qs k:=by simp [valueAt,List.find?_cons,e']
   rw [Qft e,b]; exact ih
theorem KV.any {kvs:List (κ×V)}{vs:List (κ×Value)} (r:KV kvs vs) (k:κ):(kvs.any fun kv=>decide (kv.1=k))=vs.any fun kv=>decide (kv.1=k):=by
 unfold KV at r
 induction r with
 | nil=>rfl
 | cons h t ih=>rw [List.any_cons,List.any_cons,ih,h.1]
theorem KV.repl {kvs:List (κ×V)}{vs:List (κ×Value)} (r:KV kvs vs) (k:κ) {y:V}{u:Value} (ry:RelV y u) :
  KV (kvs.map fun kv=>if kv.1=k then (kv.1,y) else kv) (vs.map fun kv=>if kv.1=k then (kv.1,u) else kv):=by
 unfold KV at r ⊢
 induction r with
 | nil=>exact .nil
 | @cons p q ps qs h t ih =>
  rw [ze,ze];refine .cons ?_ ih;obtain ⟨h1,h2⟩:=h
  by_cases e:p.1=k
  ·rw [if_pos e,if_pos (h1.symm.trans e)]; exact ⟨h1,ry⟩
  ·rw [if_neg e,if_neg (fun z=>e (h1.trans z))]; exact ⟨h1,h2⟩
theorem KV.put {kvs:List (κ×V)}{vs:List (κ×Value)} (r:KV kvs vs) (k:κ) {y:V}{u:Value} (ry:RelV y u):KV (putK kvs k y) (stored vs k u):=by
 unfold putK stored;rw [r.any k]
 by_cases e:(vs.any fun kv=>decide (kv.1=k))=true
 ·rw [if_pos e,if_pos e]; exact r.repl k ry
 ·rw [if_neg e,if_neg e]; exact Paired.snoc r ⟨rfl,ry⟩
theorem KV.drop {kvs:List (κ×V)}{vs:List (κ×Value)} (r:KV kvs vs) (k:κ):KV (Qq6 kvs k) (without vs k):=by
 unfold KV at r ⊢;unfold Qq6 without
 induction r with
 | nil=>exact .nil
 | @cons p q ps qs h t ih =>
  obtain ⟨h1,h2⟩:=h;rw [List.filter_cons,List.filter_cons]
  by_cases e:p.1=k
  ·have a:¬decide (p.1≠k)=true:=by simp [e]
   have b:¬decide (q.1≠k)=true:=by simp [h1.symm.trans e]
   rw [if_neg a,if_neg b]; exact ih
  ·have e':¬q.1=k:=fun z=>e (h1.trans z)
   have a:decide (p.1≠k)=true:=by simp [e]
   have b:decide (q.1≠k)=true:=by simp [e']
   rw [if_pos a,if_pos b]; exact .cons ⟨h1,h2⟩ ih
theorem KV.keys {kvs:List (κ×V)}{vs:List (κ×Value)} (r:KV kvs vs):kvs.map (·.1)=vs.map (·.1):=by
 unfold KV at r
 induction r with
 | nil=>rfl
 | cons h t ih=>rw [ze,ze,ih,h.1]
theorem KV.length {kvs:List (κ×V)}{vs:List (κ×Value)} (r:KV kvs vs):kvs.length=vs.length:=Paired.length r
end
theorem QmH {P:Program}{w:World}{k:Key}{u:Value} (r:RelV (kV k) u):(QbB P w).is k u=true:=by
 cases k with
 | inl i=>obtain ⟨t,e⟩:=(show ∃t,u=Value.int i t from r); subst e; exact QlR P w i t
 | inr x=>obtain ⟨t,e⟩:=(show ∃t,u=Value.str x t from r); subst e; exact QlV P w x t
theorem QjS {P:Program}{w:World}:∀{ks:List Key}{us:List Value},QaA (ks.map kV) us→ItemsAre (QbB P w) ks us
 | [],_,r=>by rw [List.map_nil] at r; cases r; exact .nil
 | k::ks,_,r=>by
  rw [ze] at r
  cases r with
  | cons h t=>exact .cons (QmH h) (QjS t)
abbrev KT (H:Hp):List (List Key×V)→List (List Key×Addr×Value)→Prop:=Paired fun p q=>p.1=q.1∧H q.2.1=some (.tup (p.1.map kV))∧RelV p.2 q.2.2
theorem KT.val {H:Hp}{kvs:List (List Key×V)}{xs:List (List Key×Addr×Value)} (r:KT H kvs xs) (k:List Key):QcJ (QbY kvs k) ((atKey xs k).map (·.2)):=by
 induction r with
 | nil=>exact True.intro
 | @cons p q ps qs h t ih =>
  obtain ⟨h1,_,h2⟩:=h
  by_cases e:p.1=k
  ·have e':q.1=k:=h1.symm.trans e
   have b:atKey (q::qs) k=some q.2:=by simp [atKey,List.find?_cons,e']
   rw [Qfi e,b]; exact h2
  ·have e':¬q.1=k:=fun z=>e (h1.trans z)
   have b:atKey (q::qs) k=atKey qs k:=by simp [atKey,List.find?_cons,e']
   rw [Qft e,b]; exact ih
theorem KT.repl {H:Hp}{kvs:List (List Key×V)}{xs:List (List Key×Addr×Value)} (r:KT H kvs xs) (k:List Key) {y:V}{u:Value} (ry:RelV y u) :
  KT H (kvs.map fun kv=>if kv.1=k then (kv.1,y) else kv) (xs.map (putAt k u)):=by
 induction r with
 | nil=>exact .nil
 | @cons p q ps qs h t ih =>
  rw [ze,ze];refine .cons ?_ ih;obtain ⟨h1,h2,h3⟩:=h;unfold putAt
  by_cases e:p.1=k
  ·rw [if_pos e,if_pos (h1.symm.trans e)]; exact ⟨h1,h2,ry⟩
  ·rw [if_neg e,if_neg (fun z=>e (h1.trans z))]; exact ⟨h1,h2,h3⟩
theorem KT.put {H:Hp}{kvs:List (List Key×V)}{xs:List (List Key×Addr×Value)} (r:KT H kvs xs) (k:List Key) {b:Addr}{y:V}{u:Value} (hb:H b=some (.tup (k.map kV))) (ry:RelV y u) :
  KT H (putK kvs k y) (storedH xs k b u):=by
 have e:(kvs.any fun kv=>decide (kv.1=k))=(atKey xs k).isSome:=by
  rw [Qif,(r.val k).isSome_eq,Option.isSome_map]
 unfold putK storedH;rw [e]
 by_cases q:(atKey xs k).isSome=true
 ·rw [if_pos q,if_pos q]; exact r.repl k ry
 ·rw [if_neg q,if_neg q]; exact Paired.snoc r ⟨rfl,hb,ry⟩
theorem KT.keeps {H H':Hp}{kvs:List (List Key×V)}{xs:List (List Key×Addr×Value)} (r:KT H kvs xs) (ht:∀b ys,H b=some (.tup ys)→H' b=some (.tup ys)):KT H' kvs xs :=
 Paired.mapP r fun _ _ z=>⟨z.1,ht _ _ z.2.1,z.2.2⟩
section
variable {P:Program}{w:World}{H:Hp}{h:Heap}{a:Addr}
theorem Qrb {u:HO} (ok:HOk P w H h) (e:Rd H a u):Qbi P w H h a u:=e.ok ok
theorem QmJ {kvs:List (Key×V)} (ok:HOk P w H h) (e:Rd H a (.dK kvs)):kvs.length≤sizeLine∧(a == sysModules)=false∧∃vs,KV kvs vs∧h.DictOf (QbB P w) a vs :=
 show Qbi P w H h a (.dK kvs) from Qrb ok e
theorem Qu1 {kvs:List (Key×V)} (ok:HOk P w H h) (e:H a=some (.dK kvs)):kvs.length≤sizeLine∧(a == sysModules)=false∧∃vs,KV kvs vs∧h.DictOf (QbB P w) a vs:=QmJ ok (.inl e)
theorem Qn4 {ks:List Key} (ok:HOk P w H h) (e:H a=some (.tup (ks.map kV))):(tupleKind (QbB P w)).is h ks a:=by
 obtain ⟨_,its,r,o,h1,h2,n,h3⟩:=(show Qbi P w H h a (.tup (ks.map kV)) from ok a _ e);exact ⟨o,its.toArray,n,h1,h2,h3,by simpa using QjS r⟩
theorem QqJ {kvs:List (List Key×V)} (ok:HOk P w H h) (e:Rd H a (.dT kvs)):kvs.length≤sizeLine∧(a == sysModules)=false ∧
  ∃xs,KT H kvs xs∧h.DictOfH (tupleKind (QbB P w)) a xs:=by
 obtain ⟨z,y,xs,r,o,es,ep,h1,h2,h3,h4,h5⟩:=(show Qbi P w H h a (.dT kvs) from Qrb ok e);refine ⟨z,y,xs,r,o,es,ep,h1,h2,h3,h4,fun x hx=>?_,h5⟩
 have all:∀{l:List (List Key×V)}{m:List (List Key×Addr×Value)},KT H l m→∀x∈m,(tupleKind (QbB P w)).is h x.1 x.2.1:=by
  intro l m q
  induction q with
  | nil=>intro x hx; exact nomatch hx
  | @cons p q ps qs hq t ih =>
   intro x hx
   rcases zk.mp hx with e | hx
   ·subst e;exact Qn4 ok (by rw [←hq.1]; exact hq.2.1)
   ·exact ih x hx
 exact all r x hx
end
def Qjg (H:Hp) (a:Addr) (y:V) (r:Option V):Prop :=
 (∃kvs k,Rd H a (.dK kvs)∧y=kV k∧r=QbY kvs k)∨∃kvs k b,Rd H a (.dT kvs)∧y = .ref b∧H b=some (.tup (k.map kV))∧r=QbY kvs k
def QmG (H:Hp) (a:Addr) (y v:V) (H':Hp):Prop :=
 (∃kvs k,H a=some (.dK kvs)∧y=kV k∧kvs.length < sizeLine∧H'=upd H a (.dK (putK kvs k v))) ∨
 ∃kvs k b,H a=some (.dT kvs)∧y = .ref b∧H b=some (.tup (k.map kV))∧kvs.length < sizeLine∧H'=upd H a (.dT (putK kvs k v))
theorem Qjg.k {H:Hp}{a:Addr}{kvs:List (Key×V)}{k:Key} (e:H a=some (.dK kvs)):Qjg H a (kV k) (QbY kvs k):=.inl ⟨kvs,k,.inl e,rfl,rfl⟩
theorem Qjg.t {H:Hp}{a b:Addr}{kvs:List (List Key×V)}{k:List Key} (e:H a=some (.dT kvs)) (eb:H b=some (.tup (k.map kV))):Qjg H a (.ref b) (QbY kvs k):=.inr ⟨kvs,k,b,.inl e,rfl,eb,rfl⟩
theorem QmG.k {H:Hp}{a:Addr}{kvs:List (Key×V)}{k:Key}{v:V} (e:H a=some (.dK kvs)) (hl:kvs.length < sizeLine):QmG H a (kV k) v (upd H a (.dK (putK kvs k v))):=.inl ⟨kvs,k,e,rfl,hl,rfl⟩
theorem QmG.t {H:Hp}{a b:Addr}{kvs:List (List Key×V)}{k:List Key}{v:V} (e:H a=some (.dT kvs)) (eb:H b=some (.tup (k.map kV))) (hl:kvs.length < sizeLine) :
  QmG H a (.ref b) v (upd H a (.dT (putK kvs k v))):=.inr ⟨kvs,k,b,e,rfl,eb,hl,rfl⟩
section
variable {X:Cx}{pins:List (Addr×Obj)}{σ:St}{H:Hp}{s:Shared}{a:Addr}{y v:V}{u r:Value}{o:Option V}{A:Around}{E:Value→Shared→Prop}
theorem Inv.big (I:Inv X pins σ H s):sysModules < s.heap.objs.size:=by
 have h:mainGlobals < s.heap.objs.size:=(I.mod.glob.keeps I.bk).lt;exact Nat.lt_trans (by decide) h
theorem QrY {h':Heap}{t':Nat}{ob:HO} (I:Inv X pins σ H s) (mu:Mut (H a)) (hs:Heap.SameBut a s.heap h') (he:∃q,h'.get? a=some q) (new:Qbi X.prog X.w (upd H a ob) h' a ob) :
  Inv X pins σ (upd H a ob) { s with heap:=h',toks:=t' } :=
 I.write (x:=a) (e:=a) mu (.inl rfl) (fun b q hb z=>(hs.2 b hb).trans z) he new
theorem QuB {P:Program}{w:World}{H':Hp}{h':Heap}{kvs:List (Key×V)}{vs:List (Key×Value)} (z:kvs.length≤sizeLine) (hd:(a == sysModules)=false) (rel:KV kvs vs) (dd:h'.DictOf (QbB P w) a vs) :
  Qbi P w H' h' a (.dK kvs):=⟨z,hd,vs,rel,dd⟩
end
section
variable {X:Cx}{pins:List (Addr×Obj)}{σ:St}{H:Hp}{s:Shared}{a:Addr}{kvs:List (Key×V)}{k:Key}{u:Value}{A:Around}{E:Value→Shared→Prop}
end
section
variable {X:Cx}{o i e value:Expr}{pos pos' tpos:Pos}{td ty tv:TE}
end
theorem QkX {P:Program}{w:World}{H:Hp} (h:Heap) (hb:sysModules < h.objs.size):Qbi P w H (h.push { cls:=.type "dict",data:=.dict #[] }) h.objs.size (.dK []) :=
 ⟨Nat.zero_le _,beq_eq_false_iff_ne.mpr (Ne.symm (zl hb)),[],.nil,Heap.DictOf.new h⟩
def Qty:TE:=fun _ H Q=>∀p,H p=none→Q (.ref p) (upd H p (.dK []))
section
variable {X:Cx}{pos:Pos}
theorem Qqe:PE X (.Dict [] [] pos) Qty:=fun pins s σ H Q I h =>
 wpAny_Dict_empty ⟨.ref s.heap.objs.size,_,I.laid (a:=s.heap.objs.size) (o:=.dK []) (t':=s.toks) (fun _ _ q=>zh _ q) (zc _) (QkX s.heap I.big),rfl,h _ (I.hok.fresh (zc _))⟩
end
def QiJ:List (TE×TE)→St→Hp→(List (V×V)→Hp→Prop)→Prop
 | [],_,H,Q=>Q [] H
 | (tk,tv)::r,σ,H,Q=>tk σ H fun x H1=>tv σ H1 fun y H2=>QiJ r σ H2 fun ps H3=>Q ((x,y)::ps) H3
abbrev VV:List (V×V)→List (Value×Value)→Prop:=Paired fun p q=>RelV p.1 q.1∧RelV p.2 q.2
def PPs (X:Cx) (pos:Pos) (keys:List (Option Expr)) (values:List Expr) (trs:List (TE×TE)):Prop :=
 ∀(pins:List (Addr×Obj)) (s:Shared) (σ:St) (H:Hp) (Q:List (V×V)→Hp→Prop),Inv X pins σ H s→QiJ trs σ H Q →
  wpAny (model X.prog X.w) X.A (evalPairs (pairTrees keys values X.env pos)) (fun vs s'=>∃ps H',Inv X pins σ H' s'∧VV ps vs∧Q ps H') X.xe s
theorem Qrz {X:Cx}{pos:Pos}:PPs X pos [] [] []:=fun pins s σ H Q I h=>pairTrees_nil_walk ⟨[],H,I,.nil,h⟩
theorem Qqy {X:Cx}{pos:Pos}{k v:Expr}{ks:List (Option Expr)}{vs:List Expr}{tk tv:TE}{trs:List (TE×TE)} (hk:PE X k tk) (hv:PE X v tv) (hr:PPs X pos ks vs trs) :
  PPs X pos (some k::ks) (v::vs) ((tk,tv)::trs):=fun pins s σ H Q I h =>
 pairTrees_cons_walk (thn (hk pins s σ H _ I h) fun u s1 ⟨x,H1,I1,rx,q1⟩=>thn (hv pins s1 σ H1 _ I1 q1) fun w2 s2 ⟨y,H2,I2,ry,q2⟩ =>
  thn (hr pins s2 σ H2 _ I2 q2) fun ws s3 ⟨ps,H3,I3,rel,q3⟩=>⟨(x,y)::ps,H3,I3,.cons ⟨rx,ry⟩ rel,q3⟩)
def Qeq (kvs more:List (Key×V)):List (Key×V):=more.foldl (fun acc kv=>putK acc kv.1 kv.2) kvs
theorem KV.merge:∀{more:List (Key×V)}{rs:List (Key×Value)}{kvs:List (Key×V)}{vs:List (Key×Value)},KV more rs→KV kvs vs→KV (Qeq kvs more) (merged vs rs):=by
 intro more rs kvs vs r;unfold KV at r
 induction r generalizing kvs vs with
 | nil=>intro q; exact q
 | @cons p q ps qs h t ih =>
  intro r0
  have e:KV (putK kvs p.1 p.2) (stored vs q.1 q.2):=by
   have:=r0.put p.1 h.2
   rw [←h.1]; exact this
  exact ih e
theorem Qg1:∀(more kvs:List (Key×V)),(Qeq kvs more).length≤kvs.length+more.length
 | [],kvs=>by show kvs.length≤kvs.length+0; omega
 | p::r,kvs=>by
  have h1:=Qg1 r (putK kvs p.1 p.2);have h2:=QlL kvs p.1 p.2;show (Qeq (putK kvs p.1 p.2) r).length≤_;rw [zp]; omega
theorem QiT {P:Program}{w:World}:∀{kvs:List (Key×V)}{ws:List (Value×Value)},VV (kvs.map fun kv=>(kV kv.1,kv.2)) ws→∃rs,Carries (QbB P w) ws rs∧KV kvs rs
 | [],_,r=>by rw [List.map_nil] at r; cases r; exact ⟨[],True.intro,.nil⟩
 | p::kvs,_,r=>by
  rw [ze] at r
  cases r with
  | @cons a b as bs h t =>
   obtain ⟨rs,c,q⟩:=QiT (P:=P) (w:=w) t;obtain ⟨b1,b2⟩:=b;exact ⟨(p.1,b2)::rs,⟨QmH h.1,rfl,c⟩,.cons ⟨rfl,h.2⟩ q⟩
def QuT (trs:List (TE×TE)):TE:=fun σ H Q=>∀p,H p=none→QiJ trs σ (upd H p (.dK [])) fun ps H2=>H2 p=some (.dK [])∧∃kvs:List (Key×V),ps=kvs.map (fun kv=>(kV kv.1,kv.2))∧kvs.length≤15∧Q (.ref p) (upd H2 p (.dK (Qeq [] kvs)))
theorem Qrj {X:Cx}{pos:Pos}{keys:List (Option Expr)}{values:List Expr}{trs:List (TE×TE)} (h:PPs X pos keys values trs) (hall:keys.all (·.isSome)=true) (hl:keys.length=values.length) (h0:keys≠[])
  (h15:keys.length≤15):PE X (.Dict keys values pos) (QuT trs):=by
 intro pins s σ H Q I q;have hn:=I.hok.fresh (zc s.heap.objs.size);have I1:=I.laid (a:=s.heap.objs.size) (o:=.dK []) (h':=s.heap.push { cls:=.type "dict",data:=.dict #[] }) (t':=s.toks) (fun _ _ q=>zh _ q) (zc _) (QkX s.heap I.big);refine wpAny_Dict_walk (knd:=QbB X.prog X.w) hall hl h0 h15 (thn (h pins _ σ _ _ I1 (q _ hn)) fun ws s2 ⟨ps,H2,I2,rel,e,kvs,ep,lk,q2⟩=>?_);subst ep;obtain ⟨rs,c,rk⟩:=QiT (P:=X.prog) (w:=X.w) rel;obtain ⟨z,hd,vs0,r0,dd⟩:=Qu1 I2.hok e;cases r0;refine ⟨rs,c,dd,fun h' dd' hs=>⟨.ref s.heap.objs.size,_,?_,rfl,q2⟩⟩
 have hz:(Qeq [] kvs).length≤sizeLine:=by
  have h1:=Qg1 kvs [];rw [zR] at h1;rw [sizeLine_eq]; omega
 have he:∃q,h'.get? s.heap.objs.size=some q:=let ⟨q,_,_,hq,_⟩:=dd'; ⟨q,hq⟩;exact QrY I2 (by rw [e]; exact True.intro) hs he (QuB hz hd (rk.merge .nil) dd')
structure M1 (X:Cx) (o:Expr) (m:Str) (apos:Pos) (e:Expr) (cpos:Pos):Prop where
 base:attributeBase o m X.env (eval o X.env)=eval o X.env
 few:((backTo cpos (starEach [e] X.env)).all (fun x=>!x.1)&&(backToKw cpos (keywordEach [] X.env)).all (fun x=>x.1.isSome)
  && decide (([e]:List Expr).length+([]:List Keyword).length+(if ([]:List Keyword).isEmpty then 0 else 1) < 30))=true
 line:(apos.endLine == cpos.line)=true
 trees:backTo cpos (starEach [e] X.env) = [(false,eval e X.env)]
structure M2 (X:Cx) (o:Expr) (m:Str) (apos:Pos) (e f:Expr) (cpos:Pos):Prop where
 base:attributeBase o m X.env (eval o X.env)=eval o X.env
 few:((backTo cpos (starEach [e,f] X.env)).all (fun x=>!x.1)&&(backToKw cpos (keywordEach [] X.env)).all (fun x=>x.1.isSome)
  && decide (([e,f]:List Expr).length+([]:List Keyword).length+(if ([]:List Keyword).isEmpty then 0 else 1) < 30))=true
 line:(apos.endLine == cpos.line)=true
 trees:backTo cpos (starEach [e,f] X.env) = [(false,eval e X.env),(false,eval f X.env)]
def IsD (H:Hp) (a:Addr):Prop:=(∃kvs,Rd H a (.dK kvs))∨∃kvs,Rd H a (.dT kvs)
theorem Que {X:Cx}{pins:List (Addr×Obj)}{σ:St}{H:Hp}{s:Shared}{a:Addr} (I:Inv X pins σ H s) (d:IsD H a) :
  s.TypeIs (.ref a) "dict"∧(∀b,Value.ref a = .ref b→∃ob,s.heap.get? b=some ob∧ob.dict=none)∧(a == sysModules)=false:=by
 rcases d with ⟨kvs,e⟩ | ⟨kvs,e⟩
 ·obtain ⟨_,hd,vs,_,dd⟩:=QmJ I.hok e;refine ⟨dd.typeIs,fun b q=>?_,hd⟩;cases q;obtain ⟨ob,_,_,h1,h2,_⟩:=dd;exact ⟨ob,h1,h2.2.1⟩
 ·obtain ⟨_,hd,xs,_,dd⟩:=QqJ I.hok e;refine ⟨dd.typeIs,fun b q=>?_,hd⟩;cases q;obtain ⟨ob,_,_,h1,h2,_⟩:=dd;exact ⟨ob,h1,h2.2.1⟩
section
variable {X:Cx}{pins:List (Addr×Obj)}{σ:St}{H:Hp}{s:Shared}{a:Addr}{y d:V}{u r:Value}{o:Option V}{A:Around}{E:Value→Shared→Prop}
theorem Qt1 {Q:Value→Shared→Prop} (hu:A.units+1 < cLine) (I:Inv X pins σ H s) (g:Qjg H a y o) (ry:RelV y u) (rd:RelV d r) (h:∀w' s',Inv X pins σ H s'→RelV (o.getD d) w'→Q w' s') :
  wpAny (model X.prog X.w) A (call (.builtin "dict.get") [.ref a,u,r]) Q E s:=by
 rcases g with ⟨kvs,k,e,ey,l⟩ | ⟨kvs,k,b,e,ey,eb,l⟩
 ·subst ey;obtain ⟨z,hd,vs,rel,dd⟩:=QmJ I.hok e;refine call_meetsIn PySem.F.slot_dict_get dd.typeIs PySem.F.entry_dict_get (PySem.F.args_dict_get_3 _ _ _) (meets_dict_get_default (QbB X.prog X.w) a (QmH ry) hd r) ⟨_,dd.mapOf,h _ _ (I.tok _) ?_⟩;rw [l];exact (rel.val k).getD rd
 ·subst ey;cases (show u=Value.ref b from ry);obtain ⟨z,hd,xs,rel,dd⟩:=QqJ I.hok e;refine call_meetsIn PySem.F.slot_dict_get dd.typeIs PySem.F.entry_dict_get (PySem.F.args_dict_get_3 _ _ _) (meetsH_dict_get_default (tupleKind (QbB X.prog X.w)) a b hd r) ⟨tupleKind_room_in1 hu,k,xs,Qn4 I.hok eb,dd,h _ _ (I.tok _) ?_⟩;rw [l];exact (rel.val k).getD rd
end
def Qtr (td ty tx:TE):TE:=fun σ H Q=>td σ H fun x H1=>∃a,x = .ref a∧IsD H1 a∧ty σ H1 fun y H2=>tx σ H2 fun z H3=>∃o,Qjg H3 a y o∧Q (o.getD z) H3
section
variable {X:Cx}{o e f:Expr}{apos cpos:Pos}{td ty tx:TE}
theorem QpX (hu:X.A.units+1 < cLine) (ho:PE X o td) (he:PE X e ty) (hf:PE X f tx) (m:M2 X o "get" apos e f cpos):PE X (.Call (.Attribute o "get" apos) [e,f] [] cpos) (Qtr td ty tx):=by
 intro pins s σ H Q I h;refine wpAny_Call_method m.base m.few m.line PySem.F.plainAttrs_dict PySem.F.slot_dict_get PySem.F.type_dict_get (thn (ho pins s σ H _ I h) fun u s1 ⟨x,H1,I1,rx,a,ex,d,q1⟩=>?_);subst ex;obtain rfl:u=Value.ref a:=rx;obtain ⟨t1,t2,_⟩:=Que I1 d;refine ⟨t1,t2,?_⟩;rw [m.trees]
 refine Calls.callWith_builtin rfl (Calls.evalArgs_plain (Calls.spliced_cons (thn (he pins s1 σ H1 _ I1 q1) fun iv s2 ⟨y,H2,I2,ry,q2⟩ =>
  Calls.spliced_cons (thn (hf pins s2 σ H2 _ I2 q2) fun fv s3 ⟨z,H3,I3,rz,ov,g,q3⟩=>Calls.spliced_nil ?_))))
 exact Qt1 hu I3 g ry rz fun w' s4 I4 rw'=>⟨_,H3,I4,rw',q3⟩
end
section
variable {X:Cx}{pins:List (Addr×Obj)}{σ:St}{H:Hp}{s:Shared}{a:Addr}{kvs:List (Key×V)}{A:Around}{E:Value→Shared→Prop}
end
section
variable {X:Cx}{pins:List (Addr×Obj)}{σ:St}{H:Hp}{s:Shared}{a:Addr}{y:V}{u:Value}{A:Around}{E:Value→Shared→Prop}
end
section
variable {X:Cx}
end
section
variable {κ:Type} [DecidableEq κ]
end
def QdX (cells:List (Str×Addr)):List (Str×NameKind)→List (Str×Addr)→List (Str×Addr)
 | [],acc=>acc
 | (n,k)::r,acc=>if k == .free then QdX cells r ((n,(cells.lookup n).getD 0)::acc) else QdX cells r acc
def Qev (scope:Scope) (env:Env):List (Str×Addr):=QdX env.cells scope.names []
theorem Qkl {scope:Scope}{env:Env} (hf:∀y∈scope.names,y.2 = .free→∃c,env.cells.lookup y.1=some c):closureFor scope env=pure (Qev scope env):=by
 simp only [closureFor,Qev]
 generalize ([]:List (Str×Addr))=acc
 generalize scope.names=names at hf
 induction names generalizing acc with
 | nil=>rfl
 | cons y r ih =>
  obtain ⟨n,k⟩:=y
  have hr:=fun a=>ih a fun z hz=>hf z (zw _ hz)
  by_cases hk:k = .free
  ·obtain ⟨c,hc⟩:=hf (n,k) zx hk;have hc':env.cells.lookup n=some c:=hc;subst hk;simp only [List.forIn_cons,beq_self_eq_true,if_true,cellOf,hc',pure_bind,bind_assoc,QdX,Option.getD_some];exact hr _
  ·have hb:(k == NameKind.free)=false:=by simpa using hk
   simp only [List.forIn_cons,hb,Bool.false_eq_true,if_false,pure_bind,bind_assoc,QdX];exact hr _
theorem QfU {cells:List (Str×Addr)}{x:Str}{c:Addr}:∀{names:List (Str×NameKind)}{acc:List (Str×Addr)},(QdX cells names acc).lookup x=some c→acc.lookup x=some c∨(∃k,(x,k)∈names∧k = .free∧(cells.lookup x).getD 0=c)
 | [],acc,h=>.inl h
 | (n,k)::r,acc,h=>by
  unfold QdX at h
  by_cases hk:k = .free
  ·subst hk;simp only [beq_self_eq_true,if_true] at h
   rcases QfU h with z | ⟨k,hm,q⟩
   ·rw [List.lookup_cons] at z
    by_cases hx:x=n
    ·subst hx;simp at z;exact .inr ⟨.free,zx,rfl,z⟩
    ·have hb:(x == n)=false:=by simpa using hx
     rw [hb] at z;exact .inl z
   ·exact .inr ⟨k,zw _ hm,q⟩
  ·have hb:(k == NameKind.free)=false:=by simpa using hk
   simp only [hb,Bool.false_eq_true,if_false] at h
   rcases QfU h with z | ⟨k,hm,q⟩
   ·exact .inl z
   ·exact .inr ⟨k,zw _ hm,q⟩
theorem Qe1 {cells:List (Str×Addr)}{x:Str}:∀{names:List (Str×NameKind)}{acc:List (Str×Addr)},((∃c,acc.lookup x=some c)∨(x,NameKind.free)∈names)→∃c,(QdX cells names acc).lookup x=some c
 | [],acc,h=>by
  rcases h with h | h
  ·exact h
  ·cases h
 | (n,k)::r,acc,h=>by
  unfold QdX
  by_cases hk:k = .free
  ·subst hk;simp only [beq_self_eq_true,if_true];refine Qe1 ?_
   by_cases hx:x=n
   ·subst hx;exact .inl ⟨(cells.lookup x).getD 0,by simp [List.lookup_cons]⟩
   ·have hb:(x == n)=false:=by simpa using hx
    rcases h with ⟨c,h⟩ | h
    ·exact .inl ⟨c,by rw [List.lookup_cons,hb]; exact h⟩
    ·rcases zk.mp h with e | h
     ·cases e; exact absurd rfl hx
     ·exact .inr h
  ·have hb:(k == NameKind.free)=false:=by simpa using hk
   simp only [hb,Bool.false_eq_true,if_false];refine Qe1 ?_
   rcases h with h | h
   ·exact .inl h
   ·rcases zk.mp h with e | h
    ·cases e; exact absurd rfl hk
    ·exact .inr h
def Qcj (scope sc0:Scope):List (Str×NameKind) :=
 scope.names.map fun (n,k)=>if (k == .free&&sc0.kind == .function&&sc0.names.lookup n == some .cell) then (n,.cell) else (n,k)
theorem Qh4 {scope sc0:Scope} (hc:∀y∈scope.names,y.2≠.cell) {x:Str}{k:NameKind} (h:(Qcj scope sc0).lookup x=some k) (hk:k = .cell∨k = .free):(x,NameKind.free)∈scope.names:=by
 have hm:=PySem.mem_of_lookup h;unfold Qcj at hm;obtain ⟨⟨n,k0⟩,h1,h2⟩:=zX.mp hm;dsimp only at h2
 by_cases hb:(k0 == NameKind.free&&sc0.kind == .function&&sc0.names.lookup n == some .cell)=true
 ·rw [if_pos hb] at h2
  have e:k0 = .free:=by
   simp only [zj,beq_iff_eq] at hb;exact hb.1.1
  cases h2;rw [←e]; exact h1
 ·rw [if_neg hb] at h2;cases h2
  rcases hk with e | e
  ·exact absurd e (hc _ h1)
  ·rw [←e]; exact h1
def Qbk (N0 own:List Str) (cap:List Nat):List Str:=own++cap.map fun j=>N0.getD j (Str.ofString "")
def compSt (own:List Str) (cap:List Nat) (σ:St):St:=own.map (fun _=>none)++cap.map fun j=>(σ[j]?).join
def QiI (sc0:Scope) (N0:List Str) (scope:Scope) (own:List Str) (cap:List Nat):Bool :=
 (scope.kind == .function)&&scope.names.all (fun y=>y.2 != .cell)&&scope.names.all (fun y=>y.2 != .local || scope.names.lookup y.1 == some .local) &&
 scope.names.all (fun y=>y.2 != .free || sc0.names.lookup y.1 == some .cell || sc0.names.lookup y.1 == some .free) &&
 cap.all fun j=>decide (j < N0.length)&&scope.names.contains (N0.getD j (Str.ofString ""),NameKind.free)&&((Qcj scope sc0).lookup (N0.getD j (Str.ofString "")) == some .cell || (Qcj scope sc0).lookup (N0.getD j (Str.ofString "")) == some .free)
structure Qer (sc0:Scope) (N0:List Str) (scope:Scope) (own:List Str) (cap:List Nat):Prop where
 kind:scope.kind = .function
 nocell:∀y∈scope.names,y.2≠.cell
 names:∀y∈scope.names,y.2 = .local→scope.names.lookup y.1=some .local
 free:∀y∈scope.names,y.2 = .free→sc0.names.lookup y.1=some .cell∨sc0.names.lookup y.1=some .free
 cap:∀j∈cap,j < N0.length∧(N0.getD j (Str.ofString ""),NameKind.free)∈scope.names∧((Qcj scope sc0).lookup (N0.getD j (Str.ofString ""))=some .cell∨(Qcj scope sc0).lookup (N0.getD j (Str.ofString ""))=some .free)
theorem Qer.of {sc0:Scope}{N0:List Str}{scope:Scope}{own:List Str}{cap:List Nat} (h:QiI sc0 N0 scope own cap=true):Qer sc0 N0 scope own cap:=by
 unfold QiI at h;simp only [zj,jj,beq_iff_eq,bne_iff_ne,ne_eq,Bool.or_eq_true,decide_eq_true_eq,List.contains_iff_mem] at h;obtain ⟨⟨⟨⟨h1,h2⟩,h3⟩,h4⟩,h5⟩:=h;refine ⟨h1,h2,fun y hy e=>?_,fun y hy e=>?_,fun j hj=>?_⟩
 ·rcases h3 y hy with z | z
  ·exact absurd e z
  ·exact z
 ·rcases h4 y hy with (z | z) | z
  ·exact absurd e z
  ·exact .inl z
  ·exact .inr z
 ·obtain ⟨⟨a,b⟩,c⟩:=h5 j hj;exact ⟨a,b,c⟩
def Qbh (X:Cx) (scope:Scope) (C:Addr) (N':List Str) (s:Shared) (H:Hp) (ex:List Addr):Cx where
 prog:=X.prog
 w:=X.w
 K:=X.K
 mg:=X.mg
 base:=X.base
 A:=X.A
 N:=N'
 s₀:=s
 H₀:=H
 env:=compEnvC scope (Qev scope X.env) C X.env
 outer:=X.stack
 stack:=X.stack
 ex:=ex
 fn:=fun _=>false
 calm:=X.calm
 pn:=[]
 xe:=fun _ _=>False
section
variable {X:Cx}
def Qju (X:Cx) (ifs:List Expr) (t:TT):Prop :=
 ∀(pins:List (Addr×Obj)) (s:Shared) (σ:St) (H:Hp) (Q:Bool→Hp→Prop),Inv X pins σ H s→t σ H Q →
  wpAny (model X.prog X.w) X.A (forIn ifs true fun c r=>if r=true then do let ok ←isTrue c X.env (eval c X.env); pure (ForInStep.yield ok) else pure (ForInStep.yield r)) (TP X pins σ Q) X.xe s
def QwA:TT:=fun _ H Q=>Q true H
theorem Qpq:Qju X [] QwA:=fun _ _ _ H _ I h=>wpAny_tests_nil ⟨H,I,h⟩
end
def QqR (J:It) (g:TG) (tt:TT) (te:TE) (Q:List V→Hp→Prop) (σ0:St) (H1:Hp):Prop :=
 ∃W:Nat→Nat→List V→St→Hp→Prop,(∃m,W 0 m [] σ0 H1)∧∀i m ys σ H,W i m ys σ H →
  (J.stop i H∧Q ys H)∨(J.go i H∧ys.length < sizeLine∧∃N:List V→St→Hp→Prop,(∀ys σ' H',N ys σ' H'→∃m',m' < m∧W (i+1) m' ys σ' H')∧∀x H',J.yld i H x H'→g x σ H' fun σ2 H2=>tt σ2 H2 fun b H3 =>
   if b=true then te σ2 H3 fun y H4=>N (ys ++ [y]) σ2 H4 else N ys σ2 H3)
def Qq3 (wi:TI) (own:List Str) (cap:List Nat) (g:TG) (tt:TT) (te:TE):TE:=fun σ H Q =>
 wi σ H fun J H1=>QqR J g tt te (fun ys H'=>ys.length≤sizeLine∧∀p,H' p=none→Q (.ref p) (upd H' p (.lst ys))) (compSt own cap σ) H1
section
variable {prog:Program}{w:World}{A:Around}{R:Result→Shared→Prop}{s:Shared}
theorem Qg5 {elt target iter:Expr}{ifs:List Expr}{scope:Scope}{pos:Pos}{it acc:Value}{env:Env} (I:Nat→Shared→Prop)
  (turn:∀n s,I n s→wpAny (model prog w) A (pyNext it) (fun r s₁=>match r with
   | none=>R (.ok .next) s₁
   | some v=>wpAny (model prog w) A (letOwnedTupleGo target it v) (fun _ s₁'=>wpAny (model prog w) A (assign target env v) (fun _ s₂ =>
     wpAny (model prog w) A (forIn ifs true fun c r=>if r=true then do let ok ←isTrue c env (eval c env); pure (ForInStep.yield ok) else pure (ForInStep.yield r)) (fun ok s₃ =>
      if ok=true then wpAny (model prog w) A (eval elt env) (fun x s₄ =>
       wpAny (model prog w) A (call (.builtin "list.append") [acc,x]) (fun _ s₅=>∃m,m < n∧I m s₅) (fun _ _=>False) s₄) (fun _ _=>False) s₃
      else ∃m,m < n∧I m s₃) (fun _ _=>False) s₂) (fun _ _=>False) s₁') (fun _ _=>False) s₁) (fun _ _=>False) s)
  (n:Nat) (h:I n s) :
  codeAny (model prog w) A (.compLoop (.ListComp elt [⟨target,iter,ifs,0⟩] scope pos) 0 it acc env) R s:=by
 refine codeAny_loop rfl I (fun n s hI=>?_) n h;show wpAny _ A ((compTurn (.ListComp elt [⟨target,iter,ifs,0⟩] scope pos) 0 it acc env).onRaise (fun x=>do noteFrame x env; theTreesLotGoes x)) _ _ s;refine wpAny_noted ?_;rw [compTurn_list];refine za (wpAny_standAt (za (zm (turn n s hI) (fun r s₁ h₁=>?_) fun _ _ h'=>h'.elim)))
 cases r with
 | none=>exact zb h₁
 | some v =>
  refine za (zm h₁ (fun _ s₁' h₁'=>?_) fun _ _ h'=>h'.elim);refine za (zm h₁' (fun _ s₂ h₂=>za (zm h₂ (fun ok s₃ h₃=>?_) fun _ _ h'=>h'.elim)) fun _ _ h'=>h'.elim)
  cases ok with
  | false=>exact zb ⟨rfl,h₃⟩
  | true =>
   exact za (za (zm h₃ (fun x s₄ h₄=>za (zm h₄ (fun _ s₅ h₅=>zb (zb ⟨rfl,h₅⟩)) fun _ _ h'=>h'.elim)) fun _ _ h'=>h'.elim))
end
section
variable {X:Cx}{pins:List (Addr×Obj)}{σ:St}{s2:Shared}{H2:Hp}{elt tg iter:Expr}{ifs:List Expr}{scope:Scope}{pos:Pos}{g:TG}{tt:TT}{te:TE}{sc0:Scope}{N0 own:List Str}{cap:List Nat}
 {it:Addr}{fp:List Addr}{tn:Nat→Heap→Prop}{J:It}
theorem QkL (I2:Inv X pins σ H2 s2) (hsc:X.env.scope=sc0) (ok:Qer sc0 N0 scope own cap):∀y∈scope.names,y.2 = .free→∃c,X.env.cells.lookup y.1=some c:=fun y hy e=>by
 refine I2.ok.has y.1 ?_;have q:=ok.free y hy e;rw [←hsc] at q;exact q
theorem Qb6 (I2:Inv X pins σ H2 s2) (hsc:X.env.scope=sc0) (ok:Qer sc0 N0 scope own cap) {x:Str}{c:Addr} (h:(Qev scope X.env).lookup x=some c):X.env.cells.lookup x=some c:=by
 rcases QfU h with z | ⟨k,hm,hk,q⟩
 ·simp at z
 ·obtain ⟨c',e⟩:=QkL I2 hsc ok (x,k) hm hk;have e':X.env.cells.lookup x=some c':=e;rw [e'] at q;rw [e',←q]; rfl
theorem QnF (I2:Inv X pins σ H2 s2) (hsc:X.env.scope=sc0) (ok:Qer sc0 N0 scope own cap) (T:Turn X.prog X.w X.K tg J fp it tn) (st2:tn 0 s2.heap) (f2:∀b∈fp,QdI X pins H2 b)
  (C:Addr) (hC:s2.heap.objs.size≤C):(Qbh X scope C (Qbk N0 own cap) s2 H2 fp).Ok:=by
 have lt:∀b∈fp,b < s2.heap.objs.size:=fun b hb=>by
  obtain ⟨o,e,_⟩:=T.obj 0 _ st2 b hb;exact zd e
 have rel:(relabel scope X.env).names=Qcj scope sc0:=by rw [←hsc]; rfl
 refine ⟨I2.ok.mod,ok.kind,I2.ok.glob,I2.ok.blt,hC,fun x y c h1 h2=>?_,fun x hx=>?_,fun x c hf _=>absurd hf (by simp [Qbh]),I2.ok.hd,I2.ok.frames,.inl rfl,fun b hb=>⟨?_,fun x c h=>?_⟩,I2.bs,zu I2.ok.bsz I2.sz,
  fun b o e hb=>?_,fun b hb hz=>?_,I2.stack,I2.stkFree⟩
 ·exact I2.ok.inj x y c (Qb6 I2 hsc ok h1) (Qb6 I2 hsc ok h2)
 ·have hx':(Qcj scope sc0).lookup x=some .cell∨(Qcj scope sc0).lookup x=some .free:=by rw [←rel]; exact hx
  have hm:(x,NameKind.free)∈scope.names:=by
   rcases hx' with q | q
   ·exact Qh4 ok.nocell q (.inl rfl)
   ·exact Qh4 ok.nocell q (.inr rfl)
  exact Qe1 (.inr hm)
 ·exact zl (zv (lt b hb) hC)
 ·exact (f2 b hb).2.2.2.2.1 x c (Qb6 I2 hsc ok h)
 ·rcases (f2 b hb).2.2.2.1 with z | z
  ·exact I2.ok.noex b o e z
  ·exact absurd (zv (zd e) (zu I2.ok.bsz z)) (zI _)
 ·rcases zk.mp (I2.stkSub b hz) with z | z
  ·exact (f2 b hb).2.1 z
  ·exact (f2 b hb).2.2.1 z
theorem QpT (I2:Inv X pins σ H2 s2) (hsc:X.env.scope=sc0) (hN0:X.N=N0) (ok:Qer sc0 N0 scope own cap) (T:Turn X.prog X.w X.K tg J fp it tn) (st2:tn 0 s2.heap) (f2:∀b∈fp,QdI X pins H2 b)
  (C:Addr) (hC:s2.heap.objs.size≤C) {h₁:Heap}{tk:Nat}{m:Str→Option Value} (old:∀b o,s2.heap.get? b=some o→h₁.get? b=some o) (hns:h₁.Ns C m) :
  Inv (Qbh X scope C (Qbk N0 own cap) s2 H2 fp) [] (compSt own cap σ) H2 { s2 with heap:=h₁,toks:=tk }:=by
 have rel:(relabel scope X.env).names=Qcj scope sc0:=by rw [←hsc]; rfl
 refine ⟨QnF I2 hsc ok T st2 f2 C hC,rfl,I2.bare,Un.kept old,⟨m,hns,fun i x v e1 e2 _=>?_⟩,fun x c h=>?_,I2.hok.fresh hC,fun x c h=>?_,fun p hp=>absurd (show p∈([]:List (Addr×Obj)) from hp) (by simp),I2.hok.kept old,?_⟩
 ·have e1':(Qbk N0 own cap)[i]? = some x:=e1;unfold Qbk at e1';unfold compSt at e2
  by_cases hi:i < own.length
  ·rw [zB (by simpa using hi),zG] at e2
   cases q:own[i]? with
   | none=>rw [q] at e2; cases e2
   | some z=>rw [q] at e2; cases e2
  ·rw [zD (by simpa using hi),zG] at e2;rw [zD (by simpa using hi),zG] at e1';rw [zA] at e2
   cases q:cap[i - own.length]? with
   | none=>rw [q] at e2; cases e2
   | some j =>
    rw [q] at e1' e2;have ex:N0.getD j (Str.ofString "")=x:=zK e1';have ev:(σ[j]?).join=some v:=zK e2;obtain ⟨hj,hm,hk⟩:=ok.cap j (zO q);rw [ex] at hm hk
    have eN:X.N[j]? = some x:=by
     rw [hN0,zJ hj];rw [je,zJ hj] at ex;exact congrArg some ex
    have eσ:σ[j]? = some (some v):=by
     cases z:σ[j]? with
     | none=>rw [z] at ev; cases ev
     | some o=>rw [z] at ev; cases o with
      | none=>cases ev
      | some y=>exact congrArg some ev
    have kf:X.env.kindOf x=some .cell∨X.env.kindOf x=some .free:=by
     have z:=ok.free _ hm rfl;rw [←hsc] at z;exact z
    obtain ⟨m0,hn0,hl⟩:=I2.loc;obtain ⟨u,r,l⟩:=hl j x v eN eσ (kf.elim (fun z=>.inr (.inl z)) fun z=>.inr (.inr z));refine ⟨u,r,.inr ⟨?_,?_⟩⟩
    ·show (relabel scope X.env).names.lookup x=_∨(relabel scope X.env).names.lookup x=_;rw [rel]; exact hk
    ·rcases l with ⟨l,_⟩ | ⟨_,c,hc,⟨o,ho,hd⟩⟩
     ·rcases kf with z | z <;> (rw [z] at l; cases l)
     ·obtain ⟨c',hc'⟩:=Qe1 (cells:=X.env.cells) (names:=scope.names) (acc:=[]) (.inr hm);have z:=Qb6 I2 hsc ok hc';rw [hc] at z;cases z;exact ⟨c,hc',o,old _ _ ho,hd⟩
 ·obtain ⟨v,o,ho,hd⟩:=I2.cell x c (Qb6 I2 hsc ok h);exact ⟨v,o,old _ _ ho,hd⟩
 ·exact I2.freeC x c (Qb6 I2 hsc ok h)
 ·show (compSt own cap σ).length=(Qbk N0 own cap).length;unfold compSt Qbk;simp
theorem Qnm {Q:List V→Hp→Prop}{RR:Value→Addr→Result→Shared→Prop}{E:Value→Shared→Prop} (hc:X.calm=true) (I2:Inv X pins σ H2 s2) (hsc:X.env.scope=sc0) (hN0:X.N=N0) (ok:Qer sc0 N0 scope own cap)
  (hg:∀C s H ex,PG (Qbh X scope C (Qbk N0 own cap) s H ex) tg g) (ht:∀C s H ex,Qju (Qbh X scope C (Qbk N0 own cap) s H ex) ifs tt) (he:∀C s H ex,PE (Qbh X scope C (Qbk N0 own cap) s H ex) elt te)
  (T:Turn X.prog X.w X.K tg J fp it tn) (st2:tn 0 s2.heap) (f2:∀b∈fp,QdI X pins H2 b) (hW:QqR J g tt te Q (compSt own cap σ) H2)
  (hRR:∀D C oC ys H' s',Inv X (pins ++ [(C,oC)]) σ (upd H' D (.lst ys)) s'→(∀h:Heap,h.get? C=some oC→∃m,h.Ns C m)→QdI X pins (upd H' D (.lst ys)) C→H' D=none→Q ys H'→RR (.ref D) C (.ok .next) s')
  (hQsz:∀ys H',Q ys H'→ys.length≤sizeLine) :
  wpAny (model X.prog X.w) X.A (newList []) (fun acc s₃=>wpAny (model X.prog X.w) X.A (newFunctionEnv scope X.env.globals (Qev scope X.env) [] X.env.qual none .none (some X.env)) (fun cenv s₄ =>
   codeAny (model X.prog X.w) X.A (.compStart (.ListComp elt [⟨tg,iter,ifs,0⟩] scope pos) 0 (.ref it) acc { cenv with scope:=relabel scope X.env }) (RR acc cenv.locals) s₄) E s₃) E s2:=by
 refine wpAny_newObj_type (wpAny_newFunctionEnv ok.nocell (by intro y hy; simp at hy) (fun h₁ hns₁ hsb₁=>?_) ok.kind);dsimp only at hns₁ hsb₁ ⊢
 generalize hP2:s2.heap.push { cls:=.type "list",dict:=none,data:=.seq ([]:List Value).toArray }=P2 at hns₁ hsb₁ ⊢
 have hC:P2.objs.size=s2.heap.objs.size+1:=by rw [←hP2,Heap.size_push]
 have hDC:s2.heap.objs.size≠P2.objs.size:=by rw [hC]; exact zl (jd _)
 have hCle:s2.heap.objs.size≤P2.objs.size:=by rw [hC]; exact Nat.le_succ _
 have below:∀b,b < s2.heap.objs.size→b≠P2.objs.size∧b≠s2.heap.objs.size:=fun b hb=>⟨by rw [hC]; exact zl (Nat.lt_succ_of_lt hb),zl hb⟩
 have ltf:∀b∈fp,b < s2.heap.objs.size:=fun b hb=>by
  obtain ⟨o,e,_⟩:=T.obj 0 _ st2 b hb;exact zd e
 have old:∀b o,s2.heap.get? b=some o→h₁.get? b=some o:=fun b o e=>hsb₁.extBut b o (below b (zd e)).1 (zh _ (hP2 ▸ zh _ e))
 have hacc:h₁.PlainList s2.heap.objs.size #[]:=⟨_,hsb₁.extBut _ _ hDC (zh _ (hP2 ▸ zF _ rfl))⟩
 have st₁:tn 0 h₁:=T.keep _ _ _ st2 fun b _ o e=>old b o e
 have hDno:∀b∈fp,s2.heap.objs.size≠b:=fun b hb=>(below b (ltf b hb)).2.symm
 generalize hXe:Qbh X scope P2.objs.size (Qbk N0 own cap) s2 H2 fp=X'
 have loop:∀s₃:Shared,s₃ = { s2 with heap:=h₁,toks:=s2.toks+([]:List (Str×Value)).length } →
   codeAny (model X.prog X.w) X.A (.compLoop (.ListComp elt [⟨tg,iter,ifs,0⟩] scope pos) 0 (.ref it) (.ref s2.heap.objs.size) (compEnvC scope (Qev scope X.env) P2.objs.size X.env))
    (RR (.ref s2.heap.objs.size) P2.objs.size) s₃:=by
  rintro s₃ rfl;obtain ⟨W,⟨m0,w0⟩,turn⟩:=hW;subst hXe
  have stat:∀{H':Hp}{oD:Obj},(∀b∈fp,H' b=none)→∀b∈fp,QdI (Qbh X scope P2.objs.size (Qbk N0 own cap) s2 H2 fp) [(s2.heap.objs.size,oD)] H' b:=fun {H' oD} hn b hb =>
   ⟨hn b hb,(below b (ltf b hb)).1,fun z=>by
    rcases zk.mp (I2.stkSub b z) with z | z
    ·exact (f2 b hb).2.1 z
    ·exact (f2 b hb).2.2.1 z,.inl hb,fun x c h=>(f2 b hb).2.2.2.2.1 x c (Qb6 I2 hsc ok h),fun p hp=>by
    have e:p=(s2.heap.objs.size,oD):=by simpa [Qbh] using hp
    rw [e]; exact hDno b hb⟩
  have notcell:∀x c,(Qev scope X.env).lookup x=some c→c≠s2.heap.objs.size:=fun x c h z=>by
   obtain ⟨v,o,ho,hd⟩:=I2.cell x c (Qb6 I2 hsc ok h);exact absurd (zd ho) (by rw [z]; exact zI _)
  have nofs:s2.heap.objs.size∉frs X.stack:=fun z=>by
   rcases zk.mp (I2.stkSub _ z) with z | z
   ·exact absurd I2.lt (by rw [z]; exact zI _)
   ·exact I2.nofs (zc _) z
  have pinD:∀{σ':St}{H':Hp}{s':Shared}{its:Array Value}{k:Nat},Inv (Qbh X scope P2.objs.size (Qbk N0 own cap) s2 H2 fp) [] σ' H' s'→H' s2.heap.objs.size=none →
    s'.heap.get? s2.heap.objs.size=some { cls:=.type "list",data:=.seq its k }→Inv (Qbh X scope P2.objs.size (Qbk N0 own cap) s2 H2 fp) [(s2.heap.objs.size,{ cls:=.type "list",data:=.seq its k })] σ' H' s' :=
   fun {σ' H' s' its k} I hn hd=>I.pins_of fun p hp=>by
    have e:p=(s2.heap.objs.size,{ cls:=.type "list",data:=.seq its k }):=by simpa using hp
    subst e;exact ⟨hd,hn,hDC,nofs,fun v z=>by cases z⟩
  obtain ⟨k0,hk0⟩:=hacc;refine Qg5 (env:=compEnvC scope (Qev scope X.env) P2.objs.size X.env)
   (fun n s'=>∃i ys its k σ' H',Inv (Qbh X scope P2.objs.size (Qbk N0 own cap) s2 H2 fp) [(s2.heap.objs.size,{ cls:=.type "list",data:=.seq its k })] σ' H' s'∧tn i s'.heap∧(∀b∈fp,H' b=none)∧QaA ys its.toList∧W i n ys σ' H') ?_ m0
   ⟨0,[],#[],k0,_,H2,pinD (QpT I2 hsc hN0 ok T st2 f2 _ hCle old hns₁) (I2.hok.fresh (zc _)) hk0,st₁,fun b hb=>(f2 b hb).1,.nil,w0⟩
  rintro n s3 ⟨i,ys,its,k,σ3,H3,I3,st3,fr3,hv,w3⟩
  rcases turn i n ys σ3 H3 w3 with ⟨stop,qn⟩ | ⟨go,hsz,N,hN,step⟩
  ·refine thn (T.done (Qbh X scope P2.objs.size (Qbk N0 own cap) s2 H2 fp) rfl rfl rfl hc i _ s3 σ3 H3 _ I3 (stat fr3) st3 stop) fun r s4 ⟨hr,I4⟩=>?_
   subst hr;show RR _ _ (.ok .next) s4;obtain ⟨hd4,hn4,_⟩:=I4.pin (s2.heap.objs.size,{ cls:=.type "list",data:=.seq its k }) (by simp [Qbh]);dsimp only at hd4 hn4;obtain ⟨m4,hns4,_⟩:=id I4.loc;have hns4':s4.heap.Ns P2.objs.size m4:=hns4;obtain ⟨oC,es,ep,hoC,rC⟩:=id hns4';have cne:P2.objs.size≠s2.heap.objs.size:=hDC.symm;have freeC:H3 P2.objs.size=none:=I4.free;have hchC:QdI X pins (upd H3 s2.heap.objs.size (.lst ys)) P2.objs.size:=I2.fpOk hCle (by rw [Qaj cne]; exact freeC)
   have hlen:ys.length=its.size:=by have e:=hv.length; simpa using e
   have I5:Inv X pins σ (upd H3 s2.heap.objs.size (.lst ys)) s4:=by
    refine I2.call' (ch:=fp) I4.os ⟨I4.base.keep,I4.base.slot,fun b o e n hx=>?_,I4.base.there,fun b xs e=>?_,fun b o u e=>?_,fun b ps e=>?_⟩ (fun b u e=>?_) I4.bare fun b hb=>?_
    ·rw [Qaj (zl (zd e))]; exact I4.base.free b o e n hx
    ·have q:=I4.base.tups b xs e;rw [Qaj (Qau q hn4)]; exact q
    ·have q:=I4.base.frzs b o u e;rw [Qaj (Qau q hn4)]; exact q
    ·obtain ⟨more,q⟩:=I4.base.tbls b ps e;exact ⟨more,by rw [Qaj (Qau q hn4)]; exact q⟩
    ·by_cases hb:b=s2.heap.objs.size
     ·subst hb;rw [QaC] at e;cases e;exact ⟨hQsz ys H3 qn,its.toList,k,hv,by simpa using hd4⟩
     ·rw [Qaj hb] at e
      exact (I4.hok b u e).stay (fun _ _ _ q=>q) (fun c q=>by rw [Qaj (Qau q hn4)]; exact q) fun c xs q=>by rw [Qaj (Qau q hn4)]; exact q
    ·obtain ⟨_,a2,_,a4,a5,a6⟩:=f2 b hb;exact ⟨a4,a2,a5,a6⟩
   refine hRR s2.heap.objs.size P2.objs.size oC ys H3 s4 (I5.pins_of fun p hp=>?_) (fun h e=>⟨m4,oC,es,ep,e,rC⟩) hchC hn4 qn
   rcases zy.mp hp with z | z
   ·exact I5.pin p (zL _ z)
   ·have e:p=(P2.objs.size,oC):=by simpa using z
    subst e
    exact ⟨hoC,hchC.1,hchC.2.1,hchC.2.2.1,fun v z=>by
     have:=rC.1
     rw [this] at z; cases z⟩
  ·refine thn (T.item (Qbh X scope P2.objs.size (Qbk N0 own cap) s2 H2 fp) rfl rfl rfl hc i _ s3 σ3 H3 _ I3 (stat fr3) st3 go) fun r s4 ⟨u,hr,h4⟩=>?_
   subst hr
   refine thn h4 fun _ s5 ⟨x,H5,I5,r5,y5,st5,fr5⟩=>?_
   have I5':=I5.pinned (stat fr5) (T.obj _ _ st5)
   refine thn (hg _ _ _ _ _ s5 σ3 H5 x u _ I5' r5 (step x H5 y5)) fun _ s6 ⟨σ6,H6,I6,q6⟩=>?_
   refine thn (ht _ _ _ _ _ s6 σ6 H6 _ I6 q6) fun b s7 ⟨H7,I7,q7⟩=>?_
   have keepT:∀{σ':St}{H':Hp}{s':Shared},Inv (Qbh X scope P2.objs.size (Qbk N0 own cap) s2 H2 fp) ([(s2.heap.objs.size,{ cls:=.type "list",data:=.seq its k })]++Qhs fp s5.heap) σ' H' s'→tn (i+1) s'.heap∧∀b∈fp,H' b=none:=fun {σ' H' s'} I'=>by
    refine ⟨T.keep _ _ _ st5 fun b hb o e=>(I'.pin (b,o) (zL _ (zL _ (Qe7 hb e)))).1,fun b hb=>?_⟩;obtain ⟨o,e,d⟩:=T.obj _ _ st5 b hb;exact (I'.pin (b,o) (zL _ (zL _ (Qe7 hb e)))).2.1
   cases b with
   | false =>
    rw [if_neg zf] at q7 ⊢;obtain ⟨m',hm,w7⟩:=hN _ _ _ q7;obtain ⟨a,b⟩:=keepT I7;exact ⟨m',hm,i+1,ys,its,k,σ6,H7,I7.unpinned,a,b,hv,w7⟩
   | true =>
    rw [if_pos rfl] at q7 ⊢
    refine thn (he _ _ _ _ _ s7 σ6 H7 _ I7 q7) fun v s8 ⟨y,H8,I8,r8,q8⟩=>?_
    obtain ⟨m',hm,w8⟩:=hN _ _ _ q8;obtain ⟨a,b⟩:=keepT I8;obtain ⟨hd8,hn8,_⟩:=I8.pin (s2.heap.objs.size,{ cls:=.type "list",data:=.seq its k }) (by simp [Qbh]);dsimp only at hd8 hn8
    have hl:its.size≤sizeLine:=by
     have e:=hv.length;simp at e;omega
    refine wpAny_list_append_plain (hsz:=hl) ⟨k,hd8⟩ fun h9 hl9 hs9=>?_
    obtain ⟨k9,hd9⟩:=hl9
    have I8':Inv (Qbh X scope P2.objs.size (Qbk N0 own cap) s2 H2 fp) [] σ6 H8 s8:=I8.pins_of fun p hp=>absurd hp (by simp)
    have I9:Inv (Qbh X scope P2.objs.size (Qbk N0 own cap) s2 H2 fp) [] σ6 H8 { s8 with heap:=h9 } :=
     I8'.turned (t':=s8.toks) (it:=s2.heap.objs.size) (fun b o hb e=>hs9.extBut b o hb e) hn8 hDC (.inr (zc _)) notcell (fun p hp=>absurd (show p∈([]:List (Addr×Obj)) from hp) (by simp))
    refine ⟨m',hm,i+1,ys ++ [y],its.push v,k9,σ6,H8,pinD I9 hn8 hd9,T.keep _ _ _ a fun b hb o e=>hs9.extBut b o (hDno b hb).symm e,b,?_,w8⟩;rw [Array.toList_push];exact hv.append (.cons r8 .nil)
 exact codeAny_compStart_list (loop _ rfl) (T.self _ 0 _ _ _ st₁ (loop _ rfl))
theorem Qsq {wi:TI} (sc0:Scope) (N0 own:List Str) (cap:List Nat) (hc:X.calm=true) (hi:PI X tg iter wi)
  (hg:∀C s H ex,PG (Qbh X scope C (Qbk N0 own cap) s H ex) tg g) (ht:∀C s H ex,Qju (Qbh X scope C (Qbk N0 own cap) s H ex) ifs tt) (he:∀C s H ex,PE (Qbh X scope C (Qbk N0 own cap) s H ex) elt te)
  (hsc:X.env.scope=sc0:=by rfl) (hN0:X.N=N0:=by rfl) (ok:QiI sc0 N0 scope own cap=true:=by decide +kernel) (hs:∀x,foldedSetIterable iter X.env x=pure x:=by intro _; rfl) :
  PE X (.ListComp elt [⟨tg,iter,ifs,0⟩] scope pos) (Qq3 wi own cap g tt te):=by
 intro pins s σ H Q I h;have ok:=Qer.of ok;rw [eval_ListComp];refine wpAny_comprehension_free (use:=none) rfl hs (Qkl (QkL I hsc ok)) ok.kind ok.names (thn (hi pins s σ H _ I h) fun xv s1 h1=>thn h1 fun itv s2 h2=>?_);obtain ⟨it,fp,tn,J,H2,e,I2,T,st2,f2,hW⟩:=h2;subst e
 refine Qnm (RR:=fun acc C=>compPost (model X.prog X.w) X.A X.xe none (EP X pins σ Q) acc C) hc I2 hsc hN0 ok hg ht he T st2 f2 hW (fun D C oC ys H' s' I' hns fpC hD q=>?_) fun ys H' q=>q.1
 obtain ⟨hC,hCn,_⟩:=I'.pin (C,oC) (by simp);obtain ⟨m,hm⟩:=hns _ hC;refine ⟨m,hm,fun h' hs'=>⟨.ref D,upd H' D (.lst ys),?_,rfl,q.2 D hD⟩⟩;obtain ⟨f0,f1,f2',f3,f4,f5⟩:=fpC;exact I'.unpinned.turned (t':=s'.toks) (it:=C) (fun b o hb e=>hs'.extBut b o hb e) f0 f1 f3 f4 f5
end
def Can (P:Program) (w:World) (K:PySem.W.Frag) (mg:Str→Option Value) (base:Heap) (x:Str) (ps:List Str) (k:Nat) (sp:Sp):Prop :=
 ∃f fd,mg x=some (.ref f)∧PySem.W.keepIn K (.ref f)=true∧Binds K fd ps []∧Qbo P w K mg base CX0 k f fd ps sp∧∃oc od osl,K.lookup f=some ⟨oc,od,.func fd,osl⟩
def Def (K:PySem.W.Frag) (mg:Str→Option Value) (x:Str) (st:Stmt):Prop:=∃f fd,mg x=some (.ref f)∧Fun K x x st f fd
section
variable {P:Program}{w:World}{K:PySem.W.Frag}{mg:Str→Option Value}{base:Heap}
theorem Can.mono {x:Str}{ps:List Str}{j k:Nat}{sp:Sp} (c:Can P w K mg base x ps j sp) (h:j≤k):Can P w K mg base x ps k sp :=
 let ⟨f,fd,a,b,d,e,g⟩:=c; ⟨f,fd,a,b,d,e.mono h,g⟩
theorem Def.can {x:Str}{st:Stmt}{N ps:List Str}{k:Nat}{sp:Sp} (D:Def K mg x st) (S:QaI N ps (Qah st))
  (hb:∀(kV doc pm:Value) (an:Option Addr) (cdv ct:Value) (us:List Value),us.length=ps.length→bindArgs (PySem.W.fnOf x x (Qbv st) (QaW st) (Qah st) .none kV doc pm an cdv ct) ⟨us,[]⟩=pure (ps.zip us))
  (len:∀vs H Q E,sp vs H Q E→vs.length=ps.length)
  (hbody:∀(f:Addr) (cdv:Value) (A:Around) (outer:List Env) (s:Shared) (H:Hp) (vs:List V) (Q:VK) (E:XK),QaK k (A.deeper (envOfC x (Qah st) s.heap.objs.size f cdv))→sp vs H Q E →
   ∃t,PSs (Qb1 CX0 P w K mg base N x (Qah st) f cdv A outer s H E).nox (QaW st) t∧t { nx:=fun _ H'=>Q .non H',rt:=Q } (start N vs) H):Can P w K mg base x ps (k+1) sp:=by
 obtain ⟨f,fd,hm,F⟩:=D;obtain ⟨oc,od,_,_,_,_,_,_,osl,_,lk,_⟩:=F.ex;exact ⟨f,fd,hm,F.kp,F.binds hb,F.ok S len fun cdv A outer s H vs Q E hr h=>hbody f cdv A outer s H vs Q E hr h,oc,od,osl,lk⟩
end
section
variable {X:Cx}{k:Nat}{x:Str}{ps:List Str}{sp:Sp}{p pos:Pos}{e:Expr}{es:List Expr}{t:TA}
theorem QsS (C:Can X.prog X.w X.K X.mg X.base x ps k sp) (hr:QaK k X.A) (ha:PA X (e::es) t) (hg:Gl X x:=by rfl) (hdb:(x == ("__debug__":Str))=false:=by decide)
  (he:starEach (e::es) X.env=(false,eval e X.env)::starEach es X.env:=by rfl) (hpl:(backTo pos (starEach es X.env)).any (·.1)=false:=by rfl) :
  PE X (.Call (.Name x p) (e::es) [] pos) (Qkq sp [] E0 t):=by
 obtain ⟨f,fd,hm,hk,hb,F,_⟩:=C;exact Qmf F hr hg hm hk hb .nil Qkt ha hdb he hpl
end
theorem Same.seqT {K:PySem.W.Frag}{H H':Hp}{a:Addr}{xs:List V} (e:Same H H') (h:SqT K H a xs):SqT K H' a xs:=by
 rcases h with (h | ⟨o,h⟩) | h
 ·exact .inl (.inl (e _ _ h))
 ·exact .inl (.inr ⟨o,e _ _ h⟩)
 ·exact .inr h
theorem Same.upd {H:Hp}{a:Addr}{o:HO} (h:H a=none):Same H (upd H a o):=fun b u e=>by rw [Qaj (Qau e h)]; exact e
mutual
def Rep (K:PySem.W.Frag) (H:Hp):V→PyData→Prop
 | v,.none=>v = .non
 | v,.bool b=>v = .bl b
 | v,.int i=>v = .int i
 | v,.str x=>v = .str x
 | v,.list ds=>∃a xs,v = .ref a∧SqL K H a xs∧QaE K H xs ds
 | v,.tuple ds=>∃a xs,v = .ref a∧SqT K H a xs∧QaE K H xs ds
 | _,.dict _=>False
def QaE (K:PySem.W.Frag) (H:Hp):List V→List PyData→Prop
 | xs,[]=>xs = []
 | xs,d::ds=>∃x r,xs=x::r∧Rep K H x d∧QaE K H r ds
end
mutual
theorem Rep.mono {K:PySem.W.Frag}{H H':Hp} (e:Same H H'):∀(d:PyData) {v:V},Rep K H v d→Rep K H' v d
 | .none,v,h=>by rw [Rep] at h ⊢; exact h
 | .bool b,v,h=>by rw [Rep] at h ⊢; exact h
 | .int i,v,h=>by rw [Rep] at h ⊢; exact h
 | .str x,v,h=>by rw [Rep] at h ⊢; exact h
 | .list ds,v,h=>by
  rw [Rep] at h ⊢;obtain ⟨a,xs,h1,h2,h3⟩:=h;exact ⟨a,xs,h1,e.seq h2,QaE.mono e ds h3⟩
 | .tuple ds,v,h=>by
  rw [Rep] at h ⊢;obtain ⟨a,xs,h1,h2,h3⟩:=h;exact ⟨a,xs,h1,e.seqT h2,QaE.mono e ds h3⟩
 | .dict _,v,h=>by rw [Rep] at h; exact h.elim
theorem QaE.mono {K:PySem.W.Frag}{H H':Hp} (e:Same H H'):∀(ds:List PyData) {xs:List V},QaE K H xs ds→QaE K H' xs ds
 | [],xs,h=>by rw [QaE] at h ⊢; exact h
 | d::ds,xs,h=>by
  rw [QaE] at h ⊢;obtain ⟨x,r,h1,h2,h3⟩:=h;exact ⟨x,r,h1,Rep.mono e d h2,QaE.mono e ds h3⟩
end
theorem QaE.nil {K:PySem.W.Frag}{H:Hp}:QaE K H [] []:=by rw [QaE]
theorem QaE.cons {K:PySem.W.Frag}{H:Hp}{x:V}{xs:List V}{d:PyData}{ds:List PyData} (h:Rep K H x d) (hs:QaE K H xs ds):QaE K H (x::xs) (d::ds):=by
 rw [QaE]; exact ⟨x,xs,rfl,h,hs⟩
theorem QaE.un {K:PySem.W.Frag}{H:Hp}{xs:List V}{d:PyData}{ds:List PyData} (h:QaE K H xs (d::ds)):∃x r,xs=x::r∧Rep K H x d∧QaE K H r ds:=by rw [QaE] at h; exact h
theorem QaE.un0 {K:PySem.W.Frag}{H:Hp}{xs:List V} (h:QaE K H xs []):xs = []:=by rw [QaE] at h; exact h
theorem Rep.unL {K:PySem.W.Frag}{H:Hp}{v:V}{ds:List PyData} (h:Rep K H v (.list ds)):∃a xs,v = .ref a∧SqL K H a xs∧QaE K H xs ds:=by rw [Rep] at h; exact h
theorem Rep.unT {K:PySem.W.Frag}{H:Hp}{v:V}{ds:List PyData} (h:Rep K H v (.tuple ds)):∃a xs,v = .ref a∧SqT K H a xs∧QaE K H xs ds:=by rw [Rep] at h; exact h
theorem Rep.unS {K:PySem.W.Frag}{H:Hp}{v:V}{x:Str} (h:Rep K H v (.str x)):v = .str x:=by rw [Rep] at h; exact h
theorem Rep.unI {K:PySem.W.Frag}{H:Hp}{v:V}{x:Int} (h:Rep K H v (.int x)):v = .int x:=by rw [Rep] at h; exact h
theorem Rep.s {K:PySem.W.Frag}{H:Hp}{x:Str}:Rep K H (.str x) (.str x):=by rw [Rep]
theorem Rep.i {K:PySem.W.Frag}{H:Hp}{x:Int}:Rep K H (.int x) (.int x):=by rw [Rep]
theorem Rep.b {K:PySem.W.Frag}{H:Hp}{x:Bool}:Rep K H (.bl x) (.bool x):=by rw [Rep]
theorem QaE.length {K:PySem.W.Frag}{H:Hp}:∀{ds:List PyData}{xs:List V},QaE K H xs ds→xs.length=ds.length
 | [],xs,h=>by rw [QaE] at h; rw [h]; rfl
 | d::ds,xs,h=>by
  rw [QaE] at h;obtain ⟨x,r,rfl,_,h3⟩:=h;simp [QaE.length h3]
theorem QaE.get {K:PySem.W.Frag}{H:Hp}:∀{ds:List PyData}{xs:List V}{i:Nat}{x:V},QaE K H xs ds→xs[i]? = some x→∃d,ds[i]? = some d∧Rep K H x d
 | [],xs,i,x,h,e=>by rw [QaE] at h; rw [h] at e; simp at e
 | d::ds,xs,i,x,h,e=>by
  rw [QaE] at h;obtain ⟨y,r,rfl,h2,h3⟩:=h
  cases i with
  | zero=>simp at e; subst e; exact ⟨d,rfl,h2⟩
  | succ i =>
   obtain ⟨d',e',q⟩:=QaE.get (i:=i) (x:=x) h3 (by simpa using e);exact ⟨d',by simpa using e',q⟩
theorem QaE.snoc {K:PySem.W.Frag}{H:Hp}{x:V}{d:PyData} (hx:Rep K H x d):∀{ds:List PyData}{xs:List V},QaE K H xs ds→QaE K H (xs ++ [x]) (ds ++ [d])
 | [],xs,h=>by rw [QaE] at h; rw [h]; exact QaE.cons hx QaE.nil
 | e::ds,xs,h=>by
  rw [QaE] at h;obtain ⟨y,r,rfl,h2,h3⟩:=h;exact QaE.cons h2 (QaE.snoc hx h3)
theorem QaE.append {K:PySem.W.Frag}{H:Hp}{ys:List V}{es:List PyData} (hy:QaE K H ys es):∀{ds:List PyData}{xs:List V},QaE K H xs ds→QaE K H (xs++ys) (ds++es)
 | [],xs,h=>by rw [QaE] at h; rw [h]; exact hy
 | e::ds,xs,h=>by
  rw [QaE] at h;obtain ⟨y,r,rfl,h2,h3⟩:=h;exact QaE.cons h2 (QaE.append hy h3)
theorem QaE.take {K:PySem.W.Frag}{H:Hp}:∀{ds:List PyData}{xs:List V} (n:Nat),QaE K H xs ds→QaE K H (xs.take n) (ds.take n)
 | _,_,0,_=>by simpa using QaE.nil
 | [],xs,n+1,h=>by rw [QaE] at h; rw [h]; simpa using QaE.nil
 | d::ds,xs,n+1,h=>by
  rw [QaE] at h;obtain ⟨y,r,rfl,h2,h3⟩:=h;exact QaE.cons h2 (QaE.take n h3)
theorem QaE.drop {K:PySem.W.Frag}{H:Hp}:∀{ds:List PyData}{xs:List V} (n:Nat),QaE K H xs ds→QaE K H (xs.drop n) (ds.drop n)
 | _,_,0,h=>by simpa using h
 | [],xs,n+1,h=>by rw [QaE] at h; rw [h]; simpa using QaE.nil
 | d::ds,xs,n+1,h=>by
  rw [QaE] at h;obtain ⟨y,r,rfl,h2,h3⟩:=h;exact QaE.drop n h3
section
variable {X:Cx}{pins:List (Addr×Obj)}{σ:St}{H:Hp}{s:Shared}
mutual
theorem Rep.reads (I:Inv X pins σ H s):∀(d:PyData) {v:V}{u:Value},Rep X.K H v d→RelV v u→∃as,Reads s.heap u d as
 | .none,v,u,h,r=>by rw [Rep] at h; subst h; cases (show u = .none from r); exact ⟨_,.none⟩
 | .bool b,v,u,h,r=>by rw [Rep] at h; subst h; cases (show u = .bool b from r); exact ⟨_,.bool b⟩
 | .int i,v,u,h,r=>by rw [Rep] at h; subst h; obtain ⟨t,rfl⟩:=(show ∃t,u = .int i t from r); exact ⟨_,.int i t⟩
 | .str x,v,u,h,r=>by rw [Rep] at h; subst h; obtain ⟨t,rfl⟩:=(show ∃t,u = .str x t from r); exact ⟨_,.str x t⟩
 | .list ds,v,u,h,r=>by
  rw [Rep] at h;obtain ⟨a,xs,rfl,h2,h3⟩:=h;cases (show u = .ref a from r);obtain ⟨its,rv,pl,_⟩:=I.list h2;obtain ⟨as,q⟩:=QaE.reads I ds h3 rv;obtain ⟨o,ho,hc,n,hd⟩:=pl.isList;exact ⟨_,.list ho hc hd (by simpa using q)⟩
 | .tuple ds,v,u,h,r=>by
  rw [Rep] at h;obtain ⟨a,xs,rfl,h2,h3⟩:=h;cases (show u = .ref a from r);obtain ⟨its,rv,pl,_⟩:=I.tuple h2;obtain ⟨as,q⟩:=QaE.reads I ds h3 rv;obtain ⟨o,ho,hc,n,hd⟩:=pl;exact ⟨_,.tuple ho hc hd (by simpa using q)⟩
 | .dict _,v,u,h,r=>by rw [Rep] at h; exact h.elim
theorem QaE.reads (I:Inv X pins σ H s):∀(ds:List PyData) {xs:List V}{us:List Value},QaE X.K H xs ds→QaA xs us→∃as,ReadsAll s.heap us ds as
 | [],xs,us,h,r=>by rw [QaE] at h; subst h; cases r; exact ⟨_,.nil⟩
 | d::ds,xs,us,h,r=>by
  rw [QaE] at h;obtain ⟨x,rest,rfl,h2,h3⟩:=h
  cases r with
  | cons r1 r2 =>
   obtain ⟨as,q⟩:=Rep.reads I d h2 r1;obtain ⟨bs,q'⟩:=QaE.reads I ds h3 r2;exact ⟨_,.cons q q'⟩
end
end
def okD (d:PyData):Bool:=d.canLay0&&decide (d.depth≤60)
def Qtf (K:PySem.W.Frag) (neg:Bool):R2:=fun x y H Q=>∃d e,Rep K H x d∧Rep K H y e∧okD d=true∧okD e=true∧Q (.bl (if neg then !PyData.eqv d e else PyData.eqv d e)) H
section
variable {X:Cx}
theorem Qtj {k:Nat} (hr:QaK k X.A):OpR X (compareOp .Eq) (Qtf X.K false):=by
 intro pins s σ H x y v u Q I rx ry h;obtain ⟨d,e,h1,h2,k1,k2,q⟩:=h;obtain ⟨as,r1⟩:=Rep.reads I d h1 rx;obtain ⟨bs,r2⟩:=Rep.reads I e h2 ry;unfold okD at k1 k2;simp only [zj,decide_eq_true_eq] at k1 k2;exact SeqAt.compareEq_reads r1 r2 k1.1 k2.1 (by have:=hr.units; omega) ⟨.bl _,H,I,rfl,q⟩
theorem Qup {k:Nat} (hr:QaK k X.A):OpR X (compareOp .NotEq) (Qtf X.K true):=by
 intro pins s σ H x y v u Q I rx ry h;obtain ⟨d,e,h1,h2,k1,k2,q⟩:=h;obtain ⟨as,r1⟩:=Rep.reads I d h1 rx;obtain ⟨bs,r2⟩:=Rep.reads I e h2 ry;unfold okD at k1 k2;simp only [zj,decide_eq_true_eq] at k1 k2;exact SeqAt.compareNe_reads r1 r2 k1.1 k2.1 (by have:=hr.units; omega) ⟨.bl _,H,I,rfl,q⟩
end
def S (l:List Nat):Str:=⟨l.toArray⟩
theorem Qea (l:List Nat):(S l).cps.toList=l:=by simp [S]
theorem Qbm (l:List Nat):(S l).length=l.length:=by simp [S,Str.length]
theorem Qwg (x:Str):S x.cps.toList=x:=by cases x; simp [S]
theorem Qqa (a b:List Nat):S a++S b=S (a++b):=by
 show Str.mk _=Str.mk _;simp [S]
theorem Qnp {a b:List Nat} (h:S a=S b):a=b:=by have:=congrArg (fun x:Str=>x.cps.toList) h; simpa [Qea] using this
section
variable {X:Cx}
theorem Qow:OpR X (compareOp .LtE) (fun x y H Q=>∃i j,x = .str i∧y = .str j∧Q (.bl (!decide (j.cps.toList < i.cps.toList))) H):=by
 intro pins s σ H x y v u Q I rx ry h;obtain ⟨i,j,rfl,rfl,q⟩:=h;obtain ⟨t,rfl⟩:=rx;obtain ⟨t',rfl⟩:=ry;exact P.le_str ⟨.bl _,H,I,rfl,q⟩
theorem Qpd:OpR X (compareOp .In) (fun x y H Q=>∃c l,x = .str (S [c])∧y = .str (S l)∧Q (.bl (decide (c∈l))) H):=by
 intro pins s σ H x y v u Q I rx ry h;obtain ⟨c,l,rfl,rfl,q⟩:=h;refine QoB pins s σ H _ _ v u Q I rx ry ⟨S [c],S l,rfl,rfl,?_⟩;have e:=PySem.StrLaws.found_one (S l) c;rw [Qea] at e;show Q (.bl (!(Builtin.Str.occurrences (S l) (S [c]) 0 (S l).length 1).isEmpty)) H;rw [show S [c]=⟨#[c]⟩ from rfl,e];exact q
def Its (l:List Nat):It:=⟨fun i _=>i < l.length,fun i H x H'=>H'=H∧∃c,l[i]? = some c∧x = .str (S [c]),fun i _=>l.length≤i⟩
theorem QpM {P:Program}{w:World}{K:PySem.W.Frag}{tg:Expr} (l:List Nat) (it:Addr) (t:Tok):Turn P w K tg (Its l) [it] it (fun i h=>h.IsStrIter it "str_ascii_iterator" (S l) t i) where
 mem:=by simp
 obj:=fun i h st b hb=>by
  have e:b=it:=by simpa using hb
  subst e;obtain ⟨o,e,c,d⟩:=st;exact ⟨o,e,fun v z=>by rw [d] at z; cases z⟩
 keep:=fun i h h' st k=>let ⟨o,ho,r⟩:=st; ⟨o,k it (by simp) o ho,r⟩
 item:=by
  intro X hP hw hK hc i pins s σ H E I hf st hg;subst hP hw hK;obtain ⟨f0,f1,f2,f3,f4,f5⟩:=hf it (by simp);have hg':i < l.length:=hg
  refine wpAny_pyNext_ascii_item st (c:=l[i]) (by simp [S,hg']) fun h' st' sb=>?_
  have I1:Inv X pins σ H { s with heap:=h',toks:=s.toks+1 }:=I.turned (fun b o hb e=>(sb.2 b hb).trans e) f0 f1 f3 f4 f5;obtain ⟨o,e,c,d⟩:=id st';exact ⟨_,rfl,Qkw (s:={ s with heap:=h',toks:=s.toks+1 }) e c d (by decide) ⟨.str (S [l[i]]),H,I1,⟨_,rfl⟩,⟨rfl,l[i],by simp [hg'],rfl⟩,st',fun b hb=>(hf b hb).1⟩⟩
 done:=by
  intro X hP hw hK hc i pins s σ H E I hf st hg;subst hP hw hK;obtain ⟨f0,f1,f2,f3,f4,f5⟩:=hf it (by simp);have hg':l.length≤i:=hg
  exact wpAny_pyNext_ascii_end (I.ok.hd hc) st (by simp [S,hg']) fun h' eb=>⟨rfl,I.turned (t':=s.toks) (fun b o hb e=>eb b o hb e) f0 f1 f3 f4 f5⟩
 self:=fun _ _ _ _ _ st h=>wpAny_pyIter_striter_ascii st h
def ascii (l:List Nat):Bool:=l.all (· < 128)
def QvQ (tl:TE):TI:=fun σ H R=>tl σ H fun x H1=>∃l,x = .str (S l)∧ascii l=true∧R (Its l) H1
theorem QtY {tg e:Expr}{tl:TE} (hl:PE X e tl):PI X tg e (QvQ tl):=by
 intro pins s σ H R I h
 refine thn (hl pins s σ H _ I h) fun v s1 ⟨x,H1,I1,r1,q1⟩=>?_
 obtain ⟨l,e,ha,q⟩:=q1;subst e;obtain ⟨t,rfl⟩:=r1;refine wpAny_pyIter_ascii (by simpa [S,ascii] using ha) ?_;refine ⟨s1.heap.objs.size,[s1.heap.objs.size],_,_,H1,rfl,I1.kept (t':=s1.toks) fun b o e=>zh _ e,QpM l _ t,⟨_,zF _ rfl,rfl,rfl⟩,fun b hb=>?_,q⟩
 have e:b=s1.heap.objs.size:=by simpa using hb
 subst e;exact I1.fpOk (zc _) (I1.hok.fresh (zc _))
end
structure Blt (mg:Str→Option Value):Prop where
 len_:mg "len" = none
 isinstance_:mg "isinstance" = none
 all_:mg "all" = none
 sum_:mg "sum" = none
 max_:mg "max" = none
 min_:mg "min" = none
 int_:mg "int" = none
 str_:mg "str" = none
 bool_:mg "bool" = none
 list_:mg "list" = none
 tuple_:mg "tuple" = none
 dict_:mg "dict" = none
 range_:mg "range" = none
 enumerate_:mg "enumerate" = none
 zip_:mg "zip" = none
section
variable {X:Cx}
theorem Qlc {x:Str}{v:V}{pos:Pos} (h:∃u,X.mg x=some u∧RelV v u) (hg:Gl X x:=by rfl) (hd:(x == ("__debug__":Str))=false:=by decide):PE X (.Name x pos) (tC v):=by
 obtain ⟨u,hm,r⟩:=h;exact Qjc hg hm r hd
end
def Qb2 {α:Type} (l:List α) (lo hi:Option Int):List α:=(l.drop (HT.sIx l.length 0 lo)).take (HT.sIx l.length l.length hi - HT.sIx l.length 0 lo)
theorem Qmg (l:List Nat) (lo hi:Option Int):Txt.slice (S l) lo hi=S (Qb2 l lo hi):=by
 obtain ⟨h1,h2,h3⟩:=QhD lo hi l.length
 have e:Builtin.Str.strSliceIndices lo hi 1 (S l).length=(List.range (HT.sIx l.length l.length hi - HT.sIx l.length 0 lo)).map (HT.sIx l.length 0 lo + ·):=by
  rw [Qbm];show sliceRange (sliceBounds lo hi none l.length).1 (sliceBounds lo hi none l.length).2.1 (sliceBounds lo hi none l.length).2.2=_;rw [h1,h2,h3,sliceRange_one]
 unfold Txt.slice;rw [e,pick_run,Qea]
 split
 ·rename_i h
  have hl:HT.sIx l.length l.length hi - HT.sIx l.length 0 lo=l.length:=by simpa [Qbm] using h
  have hle:HT.sIx l.length l.length hi≤l.length:=HT.sIx_le _ _ (zc _) hi;have hlo:HT.sIx l.length 0 lo≤l.length:=HT.sIx_le _ _ (Nat.zero_le _) lo
  have h0:HT.sIx l.length 0 lo=0:=by omega
  have h1:HT.sIx l.length l.length hi=l.length:=by omega
  unfold Qb2;rw [h0,h1];simp
 ·rfl
section
variable {X:Cx}
def QwD:V→Option Int→Option Int→Hp→VK→Prop:=fun x lo hi H Q=>∃l,x = .str (S l)∧l.length≤sizeLine∧Q (.str (S (Qb2 l lo hi))) H
theorem part_of {v:Value}{o:Option Int} (p:IsPart v o):∃q:Option (Int×Tok),v=partValue q∧q.map (·.1)=o:=by
 cases p with
 | none=>exact ⟨none,rfl,rfl⟩
 | int i t=>exact ⟨some (i,t),rfl,rfl⟩
theorem QtG:SlR X QwD:=by
 intro pins s σ H x v vl vu lo hi sl Q I rx hs pl pu h;obtain ⟨l,rfl,hz,q⟩:=h;obtain ⟨t,rfl⟩:=rx;obtain ⟨ql,rfl,e1⟩:=part_of pl;obtain ⟨qu,rfl,e2⟩:=part_of pu;refine ⟨"str",_,F.slot_str_getitem.lookup,typeIs_str _ _ _,?_⟩;refine wpAny_getItem_str_slice (l:=ql) (u:=qu) (st:=none) hs rfl ?_;have key:(if ((1:Int) == 1&&(Builtin.Str.strSliceIndices lo hi 1 (S l).length).length == (S l).length)=true then S l else ⟨((Builtin.Str.strSliceIndices lo hi 1 (S l).length).filterMap ((S l).cps[·]?)).toArray⟩)=S (Qb2 l lo hi):=Qmg l lo hi;unfold sliceMade slicePicked;rw [e1,e2];refine post_val_or_str ⟨?_,fun t' k=>?_⟩
 ·show (Txt.slice (S l) lo hi).length≤_;exact zu (Txt.slice_le _ _ _) (by rw [Qbm]; exact hz)
 ·have e3:=Qmg l lo hi;unfold Txt.slice at e3;show EP X pins σ Q (.str (if ((1:Int) == 1&&(Builtin.Str.strSliceIndices lo hi 1 (S l).length).length == (S l).length)=true then S l else ⟨((Builtin.Str.strSliceIndices lo hi 1 (S l).length).filterMap ((S l).cps[·]?)).toArray⟩) t') { s with toks:=k };rw [e3];exact ⟨.str _,H,I.tok k,⟨t',rfl⟩,q⟩
end
namespace HT2
theorem getItem_tuple_whole {prog:Program}{w:World}{A:Around}{E:Value→Shared→Prop}{s:Shared}{t sl:Addr}{items:Array Value}{vl vu:Value}{lo hi:Option Int}{Q:Value→Shared→Prop} (ht:IsTup s.heap t items) (hs:s.heap.IsSliceOf sl vl vu .none) (pl:IsPart vl lo) (pu:IsPart vu hi)
  (hw:HT.sIx items.size 0 lo=0∧HT.sIx items.size items.size hi=items.size) (h:Q (.ref t) s):wpAny (model prog w) A (getItem (.ref t) (.ref sl)) Q E s:=by
 obtain ⟨os,hos,hcs,hds⟩:=id hs;have hTs:s.TypeIs (.ref sl) "slice":=⟨os,hos,hcs⟩;unfold getItem
 try with_reducible refine zH ?_
 first | refine za (zb ?_) | skip
 refine za (wpAny_sequenceKey ht.typeIs (by decide) ?_)
 refine za (wpAny_callSpecial?_slot (name:=Str.ofString "__getitem__") ht.typeIs PyProof.Rows.slot_tuple_getitem
  (wpAny_call_entry PyProof.Rows.slot_tuple_getitem ht.typeIs entry_tuple_getitem ?_ (args_tuple_getitem _ _)))
 show wpAny _ _ (Builtin.Tuple.tupleItemsOf (.ref t) >>= _) _ _ s;refine za (tupleItemsOf_ ht ?_);refine za (wpAny_typeOf hTs ?_);rw [if_pos (by decide)];refine za (HT.sliceApplied_gen hs pl pu ?_)
 have hyes:(((HT.sIx items.size 0 lo:Nat):Int) == 0&&(1:Int) == 1&&(HT.sIx items.size items.size hi - HT.sIx items.size 0 lo) == items.size)=true:=by
  rw [hw.1,hw.2];simp
 show wpAny _ _ (if (((HT.sIx items.size 0 lo:Nat):Int) == 0&&(1:Int) == 1&&(HT.sIx items.size items.size hi - HT.sIx items.size 0 lo) == items.size)=true then _ else _) _ _ s;rw [if_pos hyes]
 have hex:∀{A':Around}{E':Value→Shared→Prop}{Q':Bool→Shared→Prop},Q' true s→wpAny (model prog w) A' (Builtin.Tuple.tupleIsExact (.ref t)) Q' E' s:=fun {A' E' Q'} hq=>by
  unfold Builtin.Tuple.tupleIsExact;exact za (wpAny_typeOf ht.typeIs (zb hq))
 refine za (hex ?_);rw [if_pos rfl];exact za (zU (zb ⟨_,rfl,zb h⟩))
end HT2
section
variable {X:Cx}
def Qvu (K:PySem.W.Frag):V→Option Int→Option Int→Hp→VK→Prop:=fun x lo hi H Q=>∃a xs,x = .ref a∧SqT K H a xs ∧
 ((HT.sIx xs.length 0 lo=0∧HT.sIx xs.length xs.length hi=xs.length)→Q (.ref a) H)∧(¬(HT.sIx xs.length 0 lo=0∧HT.sIx xs.length xs.length hi=xs.length)→∀p,H p=none→Q (.ref p) (upd H p (.tup (Qgt xs lo hi))))
theorem QrG (K:PySem.W.Frag) (hK:X.K=K:=by rfl):SlR X (Qvu K):=by
 subst hK;intro pins s σ H x v vl vu lo hi sl Q I rx hs pl pu h;obtain ⟨a,xs,rfl,hx,q1,q2⟩:=h
 by_cases hw:HT.sIx xs.length 0 lo=0∧HT.sIx xs.length xs.length hi=xs.length
 ·cases rx;obtain ⟨its,r,ht,hz⟩:=I.tuple hx
  have hlen:its.toArray.size=xs.length:=by rw [zo]; exact r.length.symm
  exact ⟨"tuple",_,PyProof.Rows.slot_tuple_getitem.lookup,ht.typeIs,HT2.getItem_tuple_whole ht hs pl pu (by rw [hlen]; exact hw) ⟨.ref a,H,I,rfl,q1 hw⟩⟩
 ·exact QuC pins s σ H _ v vl vu lo hi sl Q I rx hs pl pu ⟨a,xs,rfl,hx,hw,q2 hw⟩
inductive TyQ (K:PySem.W.Frag) (H:Hp):V→String→Prop where
 | non:TyQ K H .non "NoneType"
 | bl (x:Bool):TyQ K H (.bl x) "bool"
 | int (i:Int):TyQ K H (.int i) "int"
 | str (x:Str):TyQ K H (.str x) "str"
 | lst {a:Addr}{xs:List V} (e:SqL K H a xs):TyQ K H (.ref a) "list"
 | tup {a:Addr}{xs:List V} (e:SqT K H a xs):TyQ K H (.ref a) "tuple"
 | dK {a:Addr}{kvs:List (Key×V)} (e:H a=some (.dK kvs)):TyQ K H (.ref a) "dict"
def Qv5 (K:PySem.W.Frag):List V→Hp→VK→Prop:=fun xs H Q=>∃x n t b,xs = [x,.ty n]∧TyQ K H x t∧PySem.W.kitOne K (.type t) (.type n)=some b∧Q (.bl b) H
theorem QnZ (K:PySem.W.Frag) (hK:X.K=K:=by rfl):QgF X (.builtin "isinstance") (Qv5 K):=by
 subst hK;intro pins s σ H xs us Q I r h;obtain ⟨x,n,t,b,rfl,ty,e,q⟩:=h;obtain ⟨u,c,rfl,r1,r2⟩:=vals2 r;cases (show c = .type n from r2)
 have fin:∀tk,EP X pins σ Q (.bool b) { s with toks:=tk }:=fun tk=>⟨.bl b,H,I.tok tk,rfl,q⟩
 cases ty with
 | non=>exact Qes I r1 .non e fin
 | bl y=>exact Qes I r1 (.bl y) e fin
 | int i=>exact Qes I r1 (.int i) e fin
 | str y=>exact Qes I r1 (.str y) e fin
 | @lst a xs ea =>
  cases (show u=Value.ref a from r1);obtain ⟨its,_,p,_⟩:=I.list ea;obtain ⟨o,ho,hc,_⟩:=p.isList;exact PySem.W.kia_one PySem.W.kitx_list I.kIn ⟨o,ho,hc⟩ e (fun z=>nomatch z) fin
 | @tup a xs ea =>
  cases (show u=Value.ref a from r1);obtain ⟨its,_,p,_⟩:=I.tuple ea;obtain ⟨o,ho,hc,_⟩:=p;exact PySem.W.kia_one PySem.W.kitx_tuple I.kIn ⟨o,ho,hc⟩ e (fun z=>nomatch z) fin
 | @dK a kvs ea=>exact Qes I r1 (.dK ea) e fin
theorem Qp5 (K:PySem.W.Frag) (n:String):PySem.W.kitOne K (.type n) (.type n)=some true:=by
 unfold PySem.W.kitOne;rw [if_pos (beq_self_eq_true _)]
end
section
variable {X:Cx}
theorem QiR:∀{ls:List (List Nat)}{us:List Value},QaA (ls.map fun l=>V.str (S l)) us→StrsAre us (ls.map S)
 | [],us,r=>by rw [List.map_nil] at r; cases r; exact .nil
 | l::ls,us,r=>by
  rw [ze] at r
  cases r with
  | cons r1 r2 =>
   obtain ⟨t,e⟩:=r1;subst e;exact .cons _ t (QiR r2)
theorem Qot:∀(ls:List (List Nat)) (a:Array Nat),(ls.map S).foldl (fun acc p=>acc++(S []).cps++p.cps) a=a++ls.flatten.toArray
 | [],a=>by simp
 | l::ls,a=>by
  rw [ze,List.foldl_cons,Qot ls];simp [S]
theorem Qtc (ls:List (List Nat)):Txt.join (S []) (ls.map S)=S ls.flatten:=by
 show Builtin.Str.glued (S []) (ls.map S)=_;unfold Builtin.Str.glued
 cases ls with
 | nil=>rfl
 | cons l ls =>
  show Str.mk ((ls.map S).foldl (fun acc p=>acc++(S []).cps++p.cps) (S l).cps)=_;rw [Qot];simp [S]
def rJoin (K:PySem.W.Frag):V→List V→Hp→VK→Prop:=fun x vs H Q=>∃(p:Addr) (ls:List (List Nat)),x = .str (S [])∧vs = [.ref p]∧SqL K H p (ls.map fun l=>V.str (S l))∧(ls.map List.length).sum≤1000000∧Q (.str (S ls.flatten)) H
theorem Qpj (K:PySem.W.Frag) (hK:X.K=K:=by rfl):MtR X "str.join" (rJoin K):=by
 subst hK;intro pins s σ H x xs v us Q I rx rs h;obtain ⟨p,ls,rfl,rfl,hq,hz,q⟩:=h;obtain ⟨t,rfl⟩:=rx;obtain ⟨u,rfl,ru⟩:=vals1 rs;cases ru;obtain ⟨its,rv,pl,_⟩:=I.list hq
 refine join_list pl.isList (ys:=ls.map S) (by simpa using QiR rv) ?_ fun t' k=>⟨.str (S ls.flatten),H,I.tok k,⟨t',?_⟩,q⟩
 ·have e:((ls.map S).map (·.length)).sum=(ls.map List.length).sum:=by
   rw [List.map_map];exact congrArg List.sum (List.map_congr_left fun l _=>Qbm l)
  rw [e,Qbm];simp only [zR,Nat.mul_zero];omega
 ·rw [Qtc]
def Qry:V→List V→Hp→VK→Prop:=fun x vs H Q=>∃l m,x = .str (S l)∧vs = [.str (S m)]∧Q (.bl (decide (l.take m.length=m))) H
theorem QpE (l m:List Nat):Txt.startswith (S l) (S m)=decide (l.take m.length=m):=by
 unfold Txt.startswith;rw [StrLaws.subAt_eq,Qea,Qea,Qbm,Qbm,List.drop_zero,Bool.eq_iff_iff,zj,decide_eq_true_eq,decide_eq_true_eq,beq_iff_eq];constructor
 ·exact fun h=>h.2
 ·intro h;refine ⟨?_,h⟩
  have:=congrArg List.length h
  rw [List.length_take] at this;omega
def Qvh:R2:=fun x y H Q=>∃(l:List Nat) (n:Int),x = .str (S l)∧y = .int n∧-1000000 < n∧n < 1000000∧l.length * n.toNat≤16777216∧Q (.str (S (List.replicate n.toNat l).flatten)) H
theorem QqB (l:List Nat):∀(n:Nat) (a:Array Nat),(List.replicate n (S l).cps).foldl (· ++ ·) a=a++(List.replicate n l).flatten.toArray
 | 0,a=>by simp
 | n+1,a=>by
  rw [List.replicate_succ,List.foldl_cons,QqB l n,List.replicate_succ,List.flatten_cons];simp [S]
theorem Qm4:OpR X (binaryOp .Mult) Qvh:=by
 intro pins s σ H x y v u Q I rx ry h;obtain ⟨l,n,rfl,rfl,h1,h2,h3,q⟩:=h;obtain ⟨t,rfl⟩:=rx;obtain ⟨t',rfl⟩:=ry;have hs:sizeLine=16777216:=sizeLine_eq
 by_cases hn:n < 1
 ·have e0:n.toNat=0:=by omega
  rw [e0] at q;exact P.mul_str_none hn (by omega) ⟨.str (S []),H,I.tok _,⟨s.toks,rfl⟩,q⟩
 refine P.mul_str ?_ (fun _ _=>?_) (fun _ _=>?_) ?_
 ·rw [zg (by omega),zg (by omega)];rfl
 ·rw [Qbm];intro hz
  have h4:(l.length:Int) * n≤16777216:=by
   have:((l.length * n.toNat:Nat):Int)≤16777216:=by omega
   rw [Int.natCast_mul,Int.toNat_of_nonneg (by omega)] at this;exact this
  have h5:(2 ^ 63 - 1) / n < (l.length:Int):=hz;have h6:=(Int.ediv_lt_iff_lt_mul (show 0 < n by omega)).mp h5;omega
 ·rw [Qbm];unfold Builtin.Str.tooLong;exact zg (by omega)
 ·rw [if_neg (by omega)]
  by_cases hl:(n == 1 || (S l).length == 0)=true
  ·rw [if_pos hl]
   have e:(List.replicate n.toNat l).flatten=l:=by
    rw [Bool.or_eq_true,beq_iff_eq,beq_iff_eq,Qbm] at hl
    rcases hl with z | z
    ·rw [z];show (List.replicate 1 l).flatten=l;simp
    ·have z':=List.eq_nil_of_length_eq_zero z;subst z';rw [List.flatten_eq_nil_iff];intro x hx;exact (List.mem_replicate.mp hx).2
   rw [e] at q;exact ⟨.str (S l),H,I,⟨t,rfl⟩,q⟩
  ·rw [if_neg hl,QqB];refine ⟨?_,.str (S (List.replicate n.toNat l).flatten),H,I.tok _,⟨s.toks,?_⟩,q⟩
   ·show (#[]++(List.replicate n.toNat l).flatten.toArray).size≤sizeLine;simp only [Array.size_append,zo,List.length_flatten,List.map_replicate,List.sum_replicate_nat];simp;rw [Nat.mul_comm];omega
   ·congr 1;simp [S]
theorem Qom:MtR X "str.startswith" Qry:=by
 intro pins s σ H x xs v us Q I rx rs h;obtain ⟨l,m,rfl,rfl,q⟩:=h;obtain ⟨t,rfl⟩:=rx;obtain ⟨u,rfl,ru⟩:=vals1 rs;obtain ⟨t',rfl⟩:=ru;exact SC.startswith ⟨.bl _,H,I,rfl,by rw [QpE]; exact q⟩
end
inductive D where
 | non | bl (b:Bool) | int (i:Int) | str (l:List Nat) | lst (ds:List D) | tup (ds:List D) | dic (ks vs:List D) | ob (n:Nat)
inductive Ob where
 | ins (c:Str) (fs:List (Str×D))
 | ml (ds:List D)
 | dt (kvs:List (List Key×D))
 | df (kvs:List (List Key×D))
 | dk (kvs:List (Key×D))
 | xc (c:Str) (fs:List (Str×D))
abbrev Qac:=List Ob
abbrev Qak:=List (Option D)
structure Xc where
 cls:Str
 fs:List (Str×D)
inductive Res (α:Type) where
 | ok (a:α) (O:Qac) | ex (x:Xc) (O:Qac) | no
inductive Fl where
 | nx (ρ:Qak) (O:Qac) | rt (d:D) (O:Qac) | bk (ρ:Qak) (O:Qac) | ct (ρ:Qak) (O:Qac) | ex (x:Xc) (O:Qac) | no
abbrev M (α:Type):=Qak→Qac→Res α
abbrev MS:=Qak→Qac→Fl
def Res.bind {α β:Type} (r:Res α) (f:α→Qac→Res β):Res β:=match r with
 | .ok a O=>f a O
 | .ex x O=>.ex x O
 | .no=>.no
theorem Res.bind_ok {α β:Type}{r:Res α}{f:α→Qac→Res β}{b:β}{O':Qac} (h:r.bind f = .ok b O'):∃a O,r = .ok a O∧f a O = .ok b O':=by
 cases r with
 | ok a O=>exact ⟨a,O,rfl,h⟩
 | ex x O=>cases h
 | no=>cases h
def Qk0:Expr→Bool
 | .Starred _ _=>false
 | _=>true
theorem Qa3 {e:Expr}{es:List Expr}{env:Env} (h:Qk0 e=true):starEach (e::es) env=(false,eval e env)::starEach es env:=by
 cases e <;> first | rfl | cases h
theorem Qa5 {pos:Pos}{env:Env}:∀{es:List Expr},es.all Qk0=true→(backTo pos (starEach es env)).any (·.1)=false
 | [],_=>by simp [starEach,backTo]
 | e::es,h=>by
  rw [List.all_cons,zj] at h;rw [Qa3 h.1];show (false || (backTo pos (starEach es env)).any (·.1))=false;rw [Qa5 h.2];rfl
theorem QhN {e:Expr}{env:Env} (h:Qk0 e=true):starEach [e] env = [(false,eval e env)]:=by rw [Qa3 h]; simp [starEach]
abbrev Frag:=PySem.W.Frag
def Qia:Key→D
 | .inl i=>.int i
 | .inr x=>.str x.cps.toList
def RdK (K:Frag) (H:Hp) (a:Addr) (xs:List V):Prop:=Rd H a (.lst xs)∨∃(its:List Value) (n:Nat),K.lookup a=some { cls:=.type "list",data:=.seq its.toArray n }∧its.length≤sizeLine∧QaA xs its
theorem RdK.sq {K:Frag}{H:Hp}{a:Addr}{xs:List V} (h:RdK K H a xs):SqL K H a xs:=by
 rcases h with h | ⟨its,n,h1,h2,h3⟩
 ·exact .inl h
 ·exact .inr ⟨_,its.toArray,n,h1,rfl,rfl,rfl,by simpa using h2,by simpa using h3⟩
theorem RdK.ok {X:Cx}{pins:List (Addr×Obj)}{σ:St}{H:Hp}{s:Shared}{a:Addr}{xs:List V} (h:RdK X.K H a xs) (I:Inv X pins σ H s):xs.length≤sizeLine∧∃(its:List Value) (n:Nat),QaA xs its∧s.heap.get? a=some { cls:=.type "list",data:=.seq its.toArray n }:=by
 rcases h with h | ⟨its,n,h1,h2,h3⟩
 ·exact h.ok I.hok
 ·exact ⟨by rw [h3.length]; exact h2,its,n,h3,I.kIn a _ h1⟩
def TqT (K:Frag) (F:Hp) (a:Addr) (xs:List V):Prop :=
 F a=some (.tup xs)∨∃(o:Obj) (its:Array Value) (n:Nat),K.lookup a=some o∧o.cls = .type "tuple"∧o.data = .seq its n∧its.size≤sizeLine∧QaA xs its.toList
theorem TqT.sq {K:Frag}{F:Hp}{a:Addr}{xs:List V} (h:TqT K F a xs):SqT K F a xs:=h.imp .inl id
mutual
def Rp (K:Frag) (F:Hp) (as:List Addr):V→D→Prop
 | v,.non=>v = .non
 | v,.bl b=>v = .bl b
 | v,.int i=>v = .int i
 | v,.str l=>v = .str (S l)
 | v,.lst ds=>∃a xs,v = .ref a∧RdK K F a xs∧Rps K F as xs ds
 | v,.tup ds=>∃a xs,v = .ref a∧TqT K F a xs∧Rps K F as xs ds
 | v,.dic ks vs=>∃(a:Addr) (kvs:List (Key×V)),v = .ref a∧F a=some (.dK kvs)∧ks=kvs.map (fun p=>Qia p.1)∧Rps K F as (kvs.map (·.2)) vs
 | v,.ob n=>∃a,v = .ref a∧as[n]? = some a
def Rps (K:Frag) (F:Hp) (as:List Addr):List V→List D→Prop
 | xs,[]=>xs = []
 | xs,d::ds=>∃x r,xs=x::r∧Rp K F as x d∧Rps K F as r ds
end
section
variable {K:Frag}{F F':Hp}{as as':List Addr}
theorem Rd.mono {H H':Hp}{a:Addr}{u:HO} (e:Same H H') (h:Rd H a u):Rd H' a u:=by
 rcases h with h | ⟨o,h⟩
 ·exact .inl (e _ _ h)
 ·exact .inr ⟨o,e _ _ h⟩
theorem RdK.mono {H H':Hp}{a:Addr}{xs:List V} (e:Same H H') (h:RdK K H a xs):RdK K H' a xs:=h.imp (fun z=>z.mono e) id
mutual
theorem Rp.mono (e:Same F F') (ea:∀(n:Nat) (a:Addr),as[n]? = some a→as'[n]? = some a):∀(d:D) {v:V},Rp K F as v d→Rp K F' as' v d
 | .non,v,h=>by rw [Rp] at h ⊢; exact h
 | .bl b,v,h=>by rw [Rp] at h ⊢; exact h
 | .int i,v,h=>by rw [Rp] at h ⊢; exact h
 | .str x,v,h=>by rw [Rp] at h ⊢; exact h
 | .lst ds,v,h=>by
  rw [Rp] at h ⊢;obtain ⟨a,xs,h1,h2,h3⟩:=h;exact ⟨a,xs,h1,h2.mono e,Rps.mono e ea ds h3⟩
 | .tup ds,v,h=>by
  rw [Rp] at h ⊢;obtain ⟨a,xs,h1,h2,h3⟩:=h;exact ⟨a,xs,h1,h2.imp (e _ _) id,Rps.mono e ea ds h3⟩
 | .dic ks vs,v,h=>by
  rw [Rp] at h ⊢;obtain ⟨a,kvs,h1,h2,h3,h4⟩:=h;exact ⟨a,kvs,h1,e _ _ h2,h3,Rps.mono e ea vs h4⟩
 | .ob n,v,h=>by
  rw [Rp] at h ⊢;obtain ⟨a,h1,h2⟩:=h;exact ⟨a,h1,ea _ _ h2⟩
theorem Rps.mono (e:Same F F') (ea:∀(n:Nat) (a:Addr),as[n]? = some a→as'[n]? = some a):∀(ds:List D) {xs:List V},Rps K F as xs ds→Rps K F' as' xs ds
 | [],xs,h=>by rw [Rps] at h ⊢; exact h
 | d::ds,xs,h=>by
  rw [Rps] at h ⊢;obtain ⟨x,r,h1,h2,h3⟩:=h;exact ⟨x,r,h1,Rp.mono e ea d h2,Rps.mono e ea ds h3⟩
end
theorem Rp.non:Rp K F as .non .non:=by rw [Rp]
theorem Rp.bl {b:Bool}:Rp K F as (.bl b) (.bl b):=by rw [Rp]
theorem Rp.int {i:Int}:Rp K F as (.int i) (.int i):=by rw [Rp]
theorem Rp.str {l:List Nat}:Rp K F as (.str (S l)) (.str l):=by rw [Rp]
theorem Rp.unN {v:V} (h:Rp K F as v .non):v = .non:=by rw [Rp] at h; exact h
theorem Rp.unB {v:V}{b:Bool} (h:Rp K F as v (.bl b)):v = .bl b:=by rw [Rp] at h; exact h
theorem Rp.unI {v:V}{i:Int} (h:Rp K F as v (.int i)):v = .int i:=by rw [Rp] at h; exact h
theorem Rp.unS {v:V}{l:List Nat} (h:Rp K F as v (.str l)):v = .str (S l):=by rw [Rp] at h; exact h
theorem Rp.unL {v:V}{ds:List D} (h:Rp K F as v (.lst ds)):∃a xs,v = .ref a∧RdK K F a xs∧Rps K F as xs ds:=by rw [Rp] at h; exact h
theorem Rp.unT' {v:V}{ds:List D} (h:Rp K F as v (.tup ds)):∃a xs,v = .ref a∧TqT K F a xs∧Rps K F as xs ds:=by rw [Rp] at h; exact h
theorem Rp.unT {v:V}{ds:List D} (h:Rp K F as v (.tup ds)):∃a xs,v = .ref a∧SqT K F a xs∧Rps K F as xs ds:=let ⟨a,xs,e,h1,h2⟩:=h.unT'; ⟨a,xs,e,h1.sq,h2⟩
theorem Rp.unO {v:V}{n:Nat} (h:Rp K F as v (.ob n)):∃a,v = .ref a∧as[n]? = some a:=by rw [Rp] at h; exact h
theorem Rp.unD {v:V}{ks vs:List D} (h:Rp K F as v (.dic ks vs)):∃(a:Addr) (kvs:List (Key×V)),v = .ref a∧F a=some (.dK kvs)∧ks=kvs.map (fun p=>Qia p.1)∧Rps K F as (kvs.map (·.2)) vs:=by rw [Rp] at h; exact h
theorem Rp.mkL {a:Addr}{xs:List V}{ds:List D} (h:RdK K F a xs) (hs:Rps K F as xs ds):Rp K F as (.ref a) (.lst ds):=by rw [Rp]; exact ⟨a,xs,rfl,h,hs⟩
theorem Rp.mkT {a:Addr}{xs:List V}{ds:List D} (h:TqT K F a xs) (hs:Rps K F as xs ds):Rp K F as (.ref a) (.tup ds):=by rw [Rp]; exact ⟨a,xs,rfl,h,hs⟩
theorem Rp.mkO {a:Addr}{n:Nat} (h:as[n]? = some a):Rp K F as (.ref a) (.ob n):=by rw [Rp]; exact ⟨a,rfl,h⟩
theorem Rps.nil:Rps K F as [] []:=by rw [Rps]
theorem Rps.cons {x:V}{xs:List V}{d:D}{ds:List D} (h:Rp K F as x d) (hs:Rps K F as xs ds):Rps K F as (x::xs) (d::ds):=by
 rw [Rps]; exact ⟨x,xs,rfl,h,hs⟩
theorem Rps.un {xs:List V}{d:D}{ds:List D} (h:Rps K F as xs (d::ds)):∃x r,xs=x::r∧Rp K F as x d∧Rps K F as r ds:=by rw [Rps] at h; exact h
theorem Rps.un0 {xs:List V} (h:Rps K F as xs []):xs = []:=by rw [Rps] at h; exact h
theorem Rps.length:∀{ds:List D}{xs:List V},Rps K F as xs ds→xs.length=ds.length
 | [],xs,h=>by rw [h.un0]; rfl
 | d::ds,xs,h=>by
  obtain ⟨x,r,rfl,_,h3⟩:=h.un;simp [Rps.length h3]
theorem Rps.get:∀{ds:List D}{xs:List V}{i:Nat}{x:V},Rps K F as xs ds→xs[i]? = some x→∃d,ds[i]? = some d∧Rp K F as x d
 | [],xs,i,x,h,e=>by rw [h.un0] at e; simp at e
 | d::ds,xs,i,x,h,e=>by
  obtain ⟨y,r,rfl,h2,h3⟩:=h.un
  cases i with
  | zero=>simp at e; subst e; exact ⟨d,rfl,h2⟩
  | succ i =>
   obtain ⟨d',e',q⟩:=Rps.get (i:=i) (x:=x) h3 (by simpa using e);exact ⟨d',by simpa using e',q⟩
theorem Rps.get':∀{ds:List D}{xs:List V}{i:Nat}{d:D},Rps K F as xs ds→ds[i]? = some d→∃x,xs[i]? = some x∧Rp K F as x d:=by
 intro ds xs i d h e;have hl:=h.length
 have hi:i < xs.length:=by rw [hl]; exact (zn.mp e).1
 obtain ⟨d',e',q⟩:=h.get (zJ hi);rw [e] at e'; cases e';exact ⟨_,zJ hi,q⟩
theorem Rps.append {ys:List V}{es:List D} (hy:Rps K F as ys es):∀{ds:List D}{xs:List V},Rps K F as xs ds→Rps K F as (xs++ys) (ds++es)
 | [],xs,h=>by rw [h.un0]; exact hy
 | e::ds,xs,h=>by
  obtain ⟨y,r,rfl,h2,h3⟩:=h.un;exact Rps.cons h2 (Rps.append hy h3)
theorem Rps.snoc {x:V}{d:D}{ds:List D}{xs:List V} (h:Rps K F as xs ds) (hx:Rp K F as x d):Rps K F as (xs ++ [x]) (ds ++ [d]):=Rps.append (Rps.cons hx Rps.nil) h
theorem Rps.take:∀{ds:List D}{xs:List V} (n:Nat),Rps K F as xs ds→Rps K F as (xs.take n) (ds.take n)
 | _,_,0,_=>by simpa using Rps.nil
 | [],xs,n+1,h=>by rw [h.un0]; simpa using Rps.nil
 | d::ds,xs,n+1,h=>by
  obtain ⟨y,r,rfl,h2,h3⟩:=h.un;exact Rps.cons h2 (Rps.take n h3)
theorem Rps.drop:∀{ds:List D}{xs:List V} (n:Nat),Rps K F as xs ds→Rps K F as (xs.drop n) (ds.drop n)
 | _,_,0,h=>by simpa using h
 | [],xs,n+1,h=>by rw [h.un0]; simpa using Rps.nil
 | d::ds,xs,n+1,h=>by
  obtain ⟨y,r,rfl,h2,h3⟩:=h.un;exact Rps.drop n h3
theorem Rps.set:∀{ds:List D}{xs:List V}{x:V}{d:D} (n:Nat),Rps K F as xs ds→Rp K F as x d→Rps K F as (xs.set n x) (ds.set n d)
 | [],xs,x,d,n,h,_=>by rw [h.un0]; simpa using Rps.nil
 | e::ds,xs,x,d,0,h,hx=>by
  obtain ⟨y,r,rfl,h2,h3⟩:=h.un;exact Rps.cons hx h3
 | e::ds,xs,x,d,n+1,h,hx=>by
  obtain ⟨y,r,rfl,h2,h3⟩:=h.un;exact Rps.cons h2 (Rps.set n h3 hx)
theorem Rps.rep {ds:List D}{xs:List V} (h:Rps K F as xs ds):∀n:Nat,Rps K F as (List.replicate n xs).flatten (List.replicate n ds).flatten
 | 0=>by simpa using Rps.nil
 | n+1=>by
  rw [List.replicate_succ,List.replicate_succ,List.flatten_cons,List.flatten_cons];exact Rps.append (Rps.rep h n) h
end
def isD:HO→Bool
 | .ins _ _ _=>false
 | .own _=>false
 | .xd _=>false
 | _=>true
def isL:HO→Bool
 | .lst _=>true
 | .dK _=>true
 | _=>false
theorem QqM {o:HO} (h:isL o=true):isD o=true:=by
 cases o <;> first | rfl | cases h
structure Gr (H F:Hp) (as:List Addr) (H' F':Hp) (as':List Addr):Prop where
 fz:∀a o,H a=some o→a∉as→isL o=true→F' a=F a
 ff:Same F F'
 nw:∃new,as'=as++new∧∀a∈new,H a=none
 fr:∀a o,H a=some o→a∉as→isD o=true→H' a=some o
 dm:∀a,H' a=none→H a=none
 kz:∀a o u,H a=some (.frz o u)→H' a=some (.frz o u)
structure Pt where
 p:Addr→Prop
 ss:List (Nat×V×D)
instance:CoeFun Pt (fun _=>Addr→Prop):=⟨Pt.p⟩
def Pt.all (H:Hp):Pt:=⟨fun a=>H a≠none,[]⟩
structure GrS (P:Pt) (H F:Hp) (as:List Addr) (H' F':Hp) (as':List Addr):Prop where
 fz:∀a o,P a→H a=some o→a∉as→isL o=true→F' a=F a
 ff:Same F F'
 nw:∃new,as'=as++new∧∀a∈new,H a=none
 fr:∀a o,P a→H a=some o→a∉as→isD o=true→H' a=some o
 dm:∀a,H' a=none→H a=none
 kz:∀a o u,H a=some (.frz o u)→H' a=some (.frz o u)
section
variable {H F H' F' H2 F2:Hp}{as as' as2:List Addr}{P:Pt}
theorem Gr.refl:Gr H F as H F as:=⟨fun _ _ _ _ _=>rfl,Same.refl F,⟨[],by simp,fun _ h=>nomatch h⟩,fun _ _ h _ _=>h,fun _ h=>h,fun _ _ _ h=>h⟩
theorem Gr.trans (a:Gr H F as H' F' as') (b:Gr H' F' as' H2 F2 as2):Gr H F as H2 F2 as2:=by
 obtain ⟨n1,e1,h1⟩:=a.nw;obtain ⟨n2,e2,h2⟩:=b.nw;refine ⟨fun c o hc hn hd=>?_,a.ff.trans b.ff,⟨n1++n2,by rw [e2,e1,zP],fun c hc=>?_⟩,fun c o e hn hd=>?_,fun c h=>a.dm c (b.dm c h),fun c o u h=>b.kz c o u (a.kz c o u h)⟩
 ·have q:=a.fr c o hc hn (QqM hd);refine (b.fz c o q ?_ hd).trans (a.fz c o hc hn hd);rw [e1];intro z
  rcases zy.mp z with z | z
  ·exact hn z
  ·rw [h1 c z] at hc; cases hc
 ·rcases zy.mp hc with z | z
  ·exact h1 c z
  ·exact a.dm c (h2 c z)
 ·have q:=a.fr c o e hn hd;refine b.fr c o q ?_ hd;rw [e1];intro z
  rcases zy.mp z with z | z
  ·exact hn z
  ·rw [h1 c z] at e; cases e
theorem Gr.toS (a:Gr H F as H' F' as'):GrS P H F as H' F' as':=⟨fun c o _=>a.fz c o,a.ff,a.nw,fun c o _ e hn hd=>a.fr c o e hn hd,a.dm,a.kz⟩
theorem GrS.refl:GrS P H F as H F as:=Gr.refl.toS
theorem GrS.trans (a:GrS P H F as H' F' as') (b:GrS P H' F' as' H2 F2 as2):GrS P H F as H2 F2 as2:=by
 obtain ⟨n1,e1,h1⟩:=a.nw;obtain ⟨n2,e2,h2⟩:=b.nw;refine ⟨fun c o p hc hn hd=>?_,a.ff.trans b.ff,⟨n1++n2,by rw [e2,e1,zP],fun c hc=>?_⟩,fun c o p e hn hd=>?_,fun c h=>a.dm c (b.dm c h),fun c o u h=>b.kz c o u (a.kz c o u h)⟩
 ·have q:=a.fr c o p hc hn (QqM hd);refine (b.fz c o p q ?_ hd).trans (a.fz c o p hc hn hd);rw [e1];intro z
  rcases zy.mp z with z | z
  ·exact hn z
  ·rw [h1 c z] at hc; cases hc
 ·rcases zy.mp hc with z | z
  ·exact h1 c z
  ·exact a.dm c (h2 c z)
 ·have q:=a.fr c o p e hn hd;refine b.fr c o p q ?_ hd;rw [e1];intro z
  rcases zy.mp z with z | z
  ·exact hn z
  ·rw [h1 c z] at e; cases e
theorem GrS.mono {P':Pt} (a:GrS P H F as H' F' as') (h:∀c,P' c→P c):GrS P' H F as H' F' as':=⟨fun c o p=>a.fz c o (h c p),a.ff,a.nw,fun c o p=>a.fr c o (h c p),a.dm,a.kz⟩
theorem GrS.gr (a:GrS (Pt.all H) H F as H' F' as'):Gr H F as H' F' as':=⟨fun c o e=>a.fz c o (show H c≠none by rw [e]; exact fun z=>nomatch z) e,a.ff,a.nw,fun c o e=>a.fr c o (show H c≠none by rw [e]; exact fun z=>nomatch z) e,a.dm,a.kz⟩
theorem Gr.at_ (a:Gr H F as H' F' as'):∀(n:Nat) (c:Addr),as[n]? = some c→as'[n]? = some c:=fun n c h=>by
 obtain ⟨new,e,_⟩:=a.nw;rw [e,zB (zn.mp h).1];exact h
theorem GrS.at_ (a:GrS P H F as H' F' as'):∀(n:Nat) (c:Addr),as[n]? = some c→as'[n]? = some c:=fun n c h=>by
 obtain ⟨new,e,_⟩:=a.nw;rw [e,zB (zn.mp h).1];exact h
theorem Gr.out (a:Gr H F as H' F' as') {c:Addr} (h:c∉as) (e:H c≠none):c∉as':=by
 obtain ⟨new,e1,h1⟩:=a.nw;rw [e1];intro z
 rcases zy.mp z with z | z
 ·exact h z
 ·exact e (h1 c z)
theorem GrS.out (a:GrS P H F as H' F' as') {c:Addr} (h:c∉as) (e:H c≠none):c∉as':=by
 obtain ⟨new,e1,h1⟩:=a.nw;rw [e1];intro z
 rcases zy.mp z with z | z
 ·exact h z
 ·exact e (h1 c z)
theorem Rp.gr {K:Frag}{v:V}{d:D} (h:Rp K F as v d) (a:Gr H F as H' F' as'):Rp K F' as' v d:=Rp.mono a.ff a.at_ d h
theorem Rps.gr {K:Frag}{v:List V}{d:List D} (h:Rps K F as v d) (a:Gr H F as H' F' as'):Rps K F' as' v d:=Rps.mono a.ff a.at_ d h
theorem Rp.grS {K:Frag}{v:V}{d:D} (h:Rp K F as v d) (a:GrS P H F as H' F' as'):Rp K F' as' v d:=Rp.mono a.ff a.at_ d h
theorem Rps.grS {K:Frag}{v:List V}{d:List D} (h:Rps K F as v d) (a:GrS P H F as H' F' as'):Rps K F' as' v d:=Rps.mono a.ff a.at_ d h
end
structure FsR (K:Frag) (F:Hp) (as:List Addr) (gs:List (Str×V)) (fs:List (Str×D)):Prop where
 nm:gs.map (·.1)=fs.map (·.1)
 vl:Rps K F as (gs.map (·.2)) (fs.map (·.2))
def XF (K:Frag) (F:Hp) (as:List Addr) (dxo:Option Addr) (fs:List (Str×D)):Prop:=fs = []∨∃dx od gs,dxo=some dx∧F dx=some (.frz od (.xd gs))∧FsR K F as gs fs
theorem XF.mono {K:Frag}{F F':Hp}{as as':List Addr}{dxo:Option Addr}{fs:List (Str×D)} (h:XF K F as dxo fs) (e:Same F F') (ea:∀(n:Nat) (a:Addr),as[n]? = some a→as'[n]? = some a):XF K F' as' dxo fs:=by
 rcases h with h | ⟨dx,od,gs,h1,h2,h3,h4⟩
 ·exact .inl h
 ·exact .inr ⟨dx,od,gs,h1,e _ _ h2,h3,Rps.mono e ea _ h4⟩
def ObR (K:Frag) (mg:Str→Option Value) (H F:Hp) (as:List Addr) (a:Addr):Ob→Prop
 | .ins c fs=>∃C dx gs,mg c=some (.ref C)∧H a=some (.ins C dx gs)∧FsR K F as gs fs
 | .ml ds=>∃xs,H a=some (.lst xs)∧Rps K F as xs ds
 | .dt kvs=>∃xs:List (List Key×V),H a=some (.dT xs)∧xs.map (·.1)=kvs.map (·.1)∧Rps K F as (xs.map (·.2)) (kvs.map (·.2))
 | .df kvs=>∃(o:Obj) (xs:List (List Key×V)),H a=some (.frz o (.dT xs))∧xs.map (·.1)=kvs.map (·.1)∧Rps K F as (xs.map (·.2)) (kvs.map (·.2))
 | .dk kvs=>∃xs:List (Key×V),H a=some (.dK xs)∧xs.map (·.1)=kvs.map (·.1)∧Rps K F as (xs.map (·.2)) (kvs.map (·.2))
 | .xc c fs=>∃(C:Addr) (oe:Obj) (u:HO),mg c=some (.ref C)∧H a=some (.frz oe u)∧oe.cls = .ref C∧(∃ws,oe.data = .fields ws)∧XF K F as oe.dict fs
structure RlO (K:Frag) (mg:Str→Option Value) (O:Qac) (H F:Hp) (as:List Addr):Prop where
 fh:Same F H
 fd:∀a o,F a=some o→isD o=true
 nd:as.Nodup
 len:as.length=O.length
 fa:∀a∈as,F a=none
 ob:∀(n:Nat) (a:Addr) (o:Ob),as[n]? = some a→O[n]? = some o→ObR K mg H F as a o
inductive Md where
 | v | s | o
 deriving DecidableEq
def Qd7:D→Bool
 | .lst _=>false
 | _=>true
def Qef (P:Pt) (K:Frag) (H F:Hp) (as:List Addr):Md→V→D→Prop
 | .v,v,d=>Rp K F as v d
 | .s,v,d=>Rp K F as v d∨∃a xs ds,v = .ref a∧d = .lst ds∧H a=some (.lst xs)∧a∉as∧P a∧Rps K F as xs ds
 | .o,v,d=>(Qd7 d=true∧Rp K F as v d)∨∃a xs ds,v = .ref a∧d = .lst ds∧H a=some (.lst xs)∧F a=none∧a∉as∧¬P a∧Rps K F as xs ds
structure SlO (K:Frag) (md:List Md) (P:Pt) (ρ:Qak) (σ:St) (H F:Hp) (as:List Addr):Prop where
 len:σ.length=md.length
 len':ρ.length=md.length
 pd:∀a,P a→H a≠none
 sl:∀(i:Nat) (m:Md) (d:D),md[i]? = some m→ρ[i]? = some (some d)→∃v,σ[i]? = some (some v)∧Qef P K H F as m v d
 inj:∀(i j:Nat) (a:Addr) (ds es:List D),md[i]? = some .o→md[j]? = some .o→ρ[i]? = some (some (.lst ds))→ρ[j]? = some (some (.lst es))→σ[i]? = some (some (.ref a))→σ[j]? = some (some (.ref a))→i=j
 pin:∀x∈P.ss,md[x.1]? = some .s∧ρ[x.1]? = some (some x.2.2)∧σ[x.1]? = some (some x.2.1)
section
variable {K:Frag}{mg:Str→Option Value}{md:List Md}{P:Pt}{ρ:Qak}{σ:St}{H F H' F':Hp}{as as':List Addr}{O O':Qac}
theorem Qef.step {m:Md}{v:V}{d:D} (h:Qef P K H F as m v d) (g:Gr H F as H' F' as'):Qef P K H' F' as' m v d:=by
 cases m with
 | v=>exact Rp.gr (show Rp K F as v d from h) g
 | s =>
  rcases h with h | ⟨a,xs,ds,e1,e2,e3,e4,e5,e6⟩
  ·exact .inl (h.gr g)
  ·exact .inr ⟨a,xs,ds,e1,e2,g.fr _ _ e3 e4 rfl,g.out e4 (by rw [e3]; exact fun z=>nomatch z),e5,e6.gr g⟩
 | o =>
  rcases h with ⟨h1,h⟩ | ⟨a,xs,ds,e1,e2,e3,e0,e4,e5,e6⟩
  ·exact .inl ⟨h1,h.gr g⟩
  ·have hn:H a≠none:=by rw [e3]; exact fun z=>nomatch z
   exact .inr ⟨a,xs,ds,e1,e2,g.fr _ _ e3 e4 rfl,by rw [g.fz a _ e3 e4 rfl]; exact e0,g.out e4 hn,e5,e6.gr g⟩
theorem SlO.step (h:SlO K md P ρ σ H F as) (g:Gr H F as H' F' as'):SlO K md P ρ σ H' F' as' :=
 ⟨h.len,h.len',fun a p z=>h.pd a p (g.dm a z),fun i m d e1 e2=>let ⟨v,q,r⟩:=h.sl i m d e1 e2; ⟨v,q,r.step g⟩,h.inj,h.pin⟩
end
def Sv (K:Frag) (H F:Hp) (as:List Addr) (v:V) (d:D):Prop :=
 Rp K F as v d∨∃a xs ds,v = .ref a∧d = .lst ds∧H a=some (.lst xs)∧a∉as∧Rps K F as xs ds
def Lk (K:Frag) (H F:Hp) (as:List Addr) (v:V) (d:D):Prop :=
 Rp K F as v d∨∃a xs ds,v = .ref a∧d = .lst ds∧H a=some (.lst xs)∧Rps K F as xs ds
def Ow (K:Frag) (N:Addr→Prop) (H F:Hp) (as:List Addr) (v:V) (d:D):Prop :=
 (Qd7 d=true∧Rp K F as v d)∨∃a xs ds,v = .ref a∧d = .lst ds∧H a=some (.lst xs)∧F a=none∧a∉as∧N a∧Rps K F as xs ds
def QaX (O:Qac) (d:D):D:=match d with
 | .ob n=>match O[n]? with
  | some (.ml ds)=>.lst ds
  | _=>.ob n
 | d=>d
section
variable {K:Frag}{mg:Str→Option Value}{H0 H F H' F':Hp}{as as':List Addr}{O:Qac}{v:V}{d:D}
theorem Sv.gr (h:Sv K H F as v d) (g:Gr H F as H' F' as'):Sv K H' F' as' v d:=by
 rcases h with h | ⟨a,xs,ds,e1,e2,e3,e4,e5⟩
 ·exact .inl (h.gr g)
 ·exact .inr ⟨a,xs,ds,e1,e2,g.fr _ _ e3 e4 rfl,g.out e4 (by rw [e3]; exact fun z=>nomatch z),e5.gr g⟩
theorem Sv.lk (h:Sv K H F as v d) (r:RlO K mg O H F as):Lk K H F as v (QaX O d):=by
 rcases h with h | ⟨a,xs,ds,rfl,rfl,e3,e4,e5⟩
 ·cases d with
  | ob n =>
   obtain ⟨a,rfl,ha⟩:=h.unO;unfold QaX;dsimp only
   split
   ·rename_i ds e;obtain ⟨xs,e1,e2⟩:=r.ob n a _ ha e;exact .inr ⟨a,xs,ds,rfl,rfl,e1,e2⟩
   ·exact .inl (Rp.mkO ha)
  | _=>exact .inl h
 ·exact .inr ⟨a,xs,ds,rfl,rfl,e3,e5⟩
theorem Lk.list {ds:List D} (h:Lk K H F as v (.lst ds)) (fh:Same F H):∃a xs,v = .ref a∧RdK K H a xs∧Rps K F as xs ds:=by
 rcases h with h | ⟨a,xs,ds',e1,e2,e3,e4⟩
 ·obtain ⟨a,xs,e,h1,h2⟩:=h.unL;exact ⟨a,xs,e,h1.mono fh,h2⟩
 ·cases e2;exact ⟨a,xs,e1,.inl (.inl e3),e4⟩
theorem Lk.rp (h:Lk K H F as v d) (hn:Qd7 d=true):Rp K F as v d:=by
 rcases h with h | ⟨a,xs,ds',e1,rfl,e3,e4⟩
 ·exact h
 ·cases hn
theorem Sv.rp (h:Sv K H F as v d) (hn:Qd7 d=true):Rp K F as v d:=by
 rcases h with h | ⟨a,xs,ds',e1,rfl,e3,e4⟩
 ·exact h
 ·cases hn
theorem Ow.sv {N:Addr→Prop} (h:Ow K N H F as v d):Sv K H F as v d:=by
 rcases h with ⟨_,h⟩ | ⟨a,xs,ds,e1,e2,e3,e4,e5,e6,e7⟩
 ·exact .inl h
 ·exact .inr ⟨a,xs,ds,e1,e2,e3,e5,e7⟩
theorem Gr.lay {p:Addr}{o:HO} (hp:H p=none):Gr H F as (upd H p o) F as :=
 ⟨fun _ _ _ _ _=>rfl,Same.refl F,⟨[],by simp,fun _ h=>nomatch h⟩,fun a o' e _ _=>by rw [Qaj (Qau e hp)]; exact e,fun a e=>by
  by_cases h:a=p
  ·subst h; exact hp
  ·rwa [Qaj h] at e,fun a o' u e=>by rw [Qaj (Qau e hp)]; exact e⟩
theorem ObR.keep {a:Addr}{o:Ob} (h:ObR K mg H F as a o) (hH:H' a=H a) (e:Same F F') (ea:∀(n:Nat) (a:Addr),as[n]? = some a→as'[n]? = some a):ObR K mg H' F' as' a o:=by
 cases o with
 | ins c fs =>
  obtain ⟨C,dx,gs,h1,h2,h3,h4⟩:=h;exact ⟨C,dx,gs,h1,by rw [hH]; exact h2,h3,Rps.mono e ea _ h4⟩
 | ml ds =>
  obtain ⟨xs,h1,h2⟩:=h;exact ⟨xs,by rw [hH]; exact h1,Rps.mono e ea _ h2⟩
 | dt kvs =>
  obtain ⟨xs,h1,h2,h3⟩:=h;exact ⟨xs,by rw [hH]; exact h1,h2,Rps.mono e ea _ h3⟩
 | df kvs =>
  obtain ⟨o,xs,h1,h2,h3⟩:=h;exact ⟨o,xs,by rw [hH]; exact h1,h2,Rps.mono e ea _ h3⟩
 | dk kvs =>
  obtain ⟨xs,h1,h2,h3⟩:=h;exact ⟨xs,by rw [hH]; exact h1,h2,Rps.mono e ea _ h3⟩
 | xc c fs =>
  obtain ⟨C,oe,u,h1,h2,h3,h4,h5⟩:=h;exact ⟨C,oe,u,h1,by rw [hH]; exact h2,h3,h4,h5.mono e ea⟩
theorem RlO.at {n:Nat}{a:Addr}{o:Ob} (r:RlO K mg O H F as) (ha:as[n]? = some a) (ho:O[n]? = some o):H a≠none:=by
 have q:=r.ob n a o ha ho
 cases o with
 | ins c fs=>obtain ⟨C,dx,gs,h1,h2,_⟩:=q; rw [h2]; exact fun z=>nomatch z
 | ml ds=>obtain ⟨xs,h1,_⟩:=q; rw [h1]; exact fun z=>nomatch z
 | dt kvs=>obtain ⟨xs,h1,_⟩:=q; rw [h1]; exact fun z=>nomatch z
 | df kvs=>obtain ⟨o,xs,h1,_⟩:=q; rw [h1]; exact fun z=>nomatch z
 | dk kvs=>obtain ⟨xs,h1,_⟩:=q; rw [h1]; exact fun z=>nomatch z
 | xc c fs=>obtain ⟨C,oe,u,_,h1,_⟩:=q; rw [h1]; exact fun z=>nomatch z
theorem RlO.all {a:Addr} (r:RlO K mg O H F as) (ha:a∈as):H a≠none:=by
 obtain ⟨n,hn,e⟩:=List.mem_iff_getElem.mp ha
 have hO:n < O.length:=by rw [←r.len]; exact hn
 exact r.at (n:=n) (by rw [zJ hn,e]) (zJ hO)
theorem RlO.lay {p:Addr}{o:HO} (r:RlO K mg O H F as) (hp:H p=none):RlO K mg O (upd H p o) F as:=by
 refine ⟨fun a u e=>?_,r.fd,r.nd,r.len,r.fa,fun n a u ha hu=>(r.ob n a u ha hu).keep (Qaj ?_) (Same.refl F) fun _ _ h=>h⟩
 ·have q:=r.fh a u e;rw [Qaj (Qau q hp)]; exact q
 ·intro z; subst z; exact r.at ha hu hp
theorem Gr.frz {p:Addr}{o:HO} (hp:H p=none) (g:Gr H F as H' F' as') (hf:F' p=none):Gr H F as H' (upd F' p o) as' :=
 ⟨fun a o' ha hn hd=>by rw [Qaj (fun z=>by subst z; rw [hp] at ha; cases ha)]; exact g.fz a o' ha hn hd,fun a u e=>by
  have q:=g.ff a u e
  rw [Qaj (Qau q hf)]; exact q,g.nw,g.fr,g.dm,g.kz⟩
theorem RlO.frz {p:Addr}{o:HO} (r:RlO K mg O H F as) (hp:H p=some o) (hf:F p=none) (ha:p∉as) (hd:isD o=true):RlO K mg O H (upd F p o) as:=by
 have ff:Same F (upd F p o):=fun a u e=>by rw [Qaj (Qau e hf)]; exact e
 refine ⟨fun a u e=>?_,fun a u e=>?_,r.nd,r.len,fun a h=>?_,fun n a u h1 h2=>(r.ob n a u h1 h2).keep rfl ff fun _ _ h=>h⟩
 ·by_cases h:a=p
  ·subst h; rw [QaC] at e; cases e; exact hp
  ·rw [Qaj h] at e; exact r.fh a u e
 ·by_cases h:a=p
  ·subst h; rw [QaC] at e; cases e; exact hd
  ·rw [Qaj h] at e; exact r.fd a u e
 ·rw [Qaj (fun z=>by subst z; exact ha h)]; exact r.fa a h
end
abbrev RR:=(Addr→Prop)→Hp→Hp→List Addr→V→D→Prop
def rV (K:Frag):RR:=fun _ _ F as v d=>Rp K F as v d
def rS (K:Frag):RR:=fun _ H F as v d=>Sv K H F as v d
def rO (K:Frag):RR:=fun N H F as v d=>Ow K N H F as v d
def rA (K:Frag):Md→RR
 | .v=>rV K
 | _=>rS K
def Qb8 (R:RR):Prop:=∀(N N':Addr→Prop) (H F:Hp) (as:List Addr) (v:V) (d:D),(∀a,N a→N' a)→R N H F as v d→R N' H F as v d
theorem Qbj {K:Frag}:Qb8 (rV K):=fun _ _ _ _ _ _ _ _ h=>h
theorem Qc4 {K:Frag}:Qb8 (rO K):=fun N N' H F as v d hn h=>by
 rcases h with h | ⟨a,xs,ds,e1,e2,e3,e4,e5,e6,e7⟩
 ·exact .inl h
 ·exact .inr ⟨a,xs,ds,e1,e2,e3,e4,e5,hn a e6,e7⟩
def tM (K:Frag) (mg:Str→Option Value) (md:List Md) (P:Pt) (R:RR) (m:M D):TE:=fun σ H Q =>
 ∃ρ O F as d O',RlO K mg O H F as∧SlO K md P ρ σ H F as∧m ρ O = .ok d O' ∧
  ∀v H' F' as',Gr H F as H' F' as'→RlO K mg O' H' F' as'→R (fun a=>H a=none) H' F' as' v d→Q v H'
def tMT (K:Frag) (mg:Str→Option Value) (md:List Md) (P:Pt) (m:M Bool):TT:=fun σ H Q =>
 ∃ρ O F as b O',RlO K mg O H F as∧SlO K md P ρ σ H F as∧m ρ O = .ok b O' ∧
  ∀H' F' as',Gr H F as H' F' as'→RlO K mg O' H' F' as'→Q b H'
def Qby (K:Frag) (H F:Hp) (as:List Addr):List Md→List V→List D→Prop
 | [],[],[]=>True
 | m::ms,v::vs,d::ds=>rA K m (fun _=>True) H F as v d∧Qby K H F as ms vs ds
 | _,_,_=>False
def tMA (K:Frag) (mg:Str→Option Value) (md:List Md) (P:Pt) (ms:List Md) (m:M (List D)):TA:=fun σ H Q =>
 ∃ρ O F as ds O',RlO K mg O H F as∧SlO K md P ρ σ H F as∧m ρ O = .ok ds O' ∧
  ∀vs H' F' as',Gr H F as H' F' as'→RlO K mg O' H' F' as'→Qby K H' F' as' ms vs ds→Q vs H'
def XE (X:Cx) (md:List Md) (P:Pt) (R:RR) (e:Expr) (m:M D):Prop:=PE X e (tM X.K X.mg md P R m)
def VE (X:Cx) (md:List Md) (P:Pt) (e:Expr) (m:M D):Prop:=PE X e (tM X.K X.mg md P (rV X.K) m)
def SE (X:Cx) (md:List Md) (P:Pt) (e:Expr) (m:M D):Prop:=PE X e (tM X.K X.mg md P (rS X.K) m)
def OE (X:Cx) (md:List Md) (P:Pt) (e:Expr) (m:M D):Prop:=PE X e (tM X.K X.mg md P (rO X.K) m)
def TsE (X:Cx) (md:List Md) (P:Pt) (e:Expr) (m:M Bool):Prop:=PT X e (tMT X.K X.mg md P m)
def TwE (X:Cx) (md:List Md) (P:Pt) (e:Expr) (m:M Bool):Prop:=PW X e (tMT X.K X.mg md P m)
def AE (X:Cx) (md:List Md) (P:Pt) (ms:List Md) (es:List Expr) (m:M (List D)):Prop:=PA X es (tMA X.K X.mg md P ms m)
def QeE (K:Frag) (mg:Str→Option Value) (md:List Md) (P:Pt) (R:RR) (D:Ends) (H F:Hp) (as:List Addr):Fl→Prop
 | .nx ρ' O'=>∀σ' H' F' as',GrS P H F as H' F' as'→RlO K mg O' H' F' as'→SlO K md P ρ' σ' H' F' as'→D.nx σ' H'
 | .bk ρ' O'=>∀σ' H' F' as',GrS P H F as H' F' as'→RlO K mg O' H' F' as'→SlO K md P ρ' σ' H' F' as'→D.bk σ' H'
 | .ct ρ' O'=>∀σ' H' F' as',GrS P H F as H' F' as'→RlO K mg O' H' F' as'→SlO K md P ρ' σ' H' F' as'→D.ct σ' H'
 | .rt d O'=>∀v H' F' as',GrS P H F as H' F' as'→RlO K mg O' H' F' as'→R (fun a=>¬P a) H' F' as' v d→D.rt v H'
 | .ex _ _=>False
 | .no=>False
def tMS (K:Frag) (mg:Str→Option Value) (md:List Md) (P:Pt) (R:RR) (m:MS):TS:=fun D σ H =>
 ∃ρ O F as,RlO K mg O H F as∧SlO K md P ρ σ H F as∧QeE K mg md P R D H F as (m ρ O)
def VS (X:Cx) (md:List Md) (P:Pt) (R:RR) (st:Stmt) (m:MS):Prop:=PS X st (tMS X.K X.mg md P R m)
def VSs (X:Cx) (md:List Md) (P:Pt) (R:RR) (st:List Stmt) (m:MS):Prop:=PSs X st (tMS X.K X.mg md P R m)
section
variable {X:Cx}{md:List Md}{P:Pt}{R:RR}
theorem PE.imp {e:Expr}{t t':TE} (h:PE X e t) (k:∀σ H Q,t' σ H Q→t σ H Q):PE X e t':=fun pins s σ H Q I q=>h pins s σ H Q I (k σ H Q q)
theorem PT.imp {e:Expr}{t t':TT} (h:PT X e t) (k:∀σ H Q,t' σ H Q→t σ H Q):PT X e t':=fun pins s σ H Q I q=>h pins s σ H Q I (k σ H Q q)
theorem PW.imp {e:Expr}{t t':TT} (h:PW X e t) (k:∀σ H Q,t' σ H Q→t σ H Q):PW X e t':=fun w pins s σ H Q I q=>h w pins s σ H Q I (k σ H Q q)
theorem PA.imp {e:List Expr}{t t':TA} (h:PA X e t) (k:∀σ H Q,t' σ H Q→t σ H Q):PA X e t':=fun pos pins s σ H Q I q=>h pos pins s σ H Q I (k σ H Q q)
theorem PS.imp {e:Stmt}{t t':TS} (h:PS X e t) (k:∀D σ H,t' D σ H→t D σ H):PS X e t':=fun pins s σ H D I q=>h pins s σ H D I (k D σ H q)
theorem PSs.imp {e:List Stmt}{t t':TS} (h:PSs X e t) (k:∀D σ H,t' D σ H→t D σ H):PSs X e t':=fun pins s σ H D I q=>h pins s σ H D I (k D σ H q)
def Qaa (i:Nat):M D:=fun ρ O=>match ρ[i]? with
 | some (some d)=>.ok d O
 | _=>.no
def mC (d:D):M D:=fun _ O=>.ok d O
def mG (m:M D):M D:=fun ρ O=>match m ρ O with
 | .ok d O'=>if Qd7 d=true then .ok d O' else .no
 | r=>r
theorem QhQ {i:Nat}{ρ:Qak}{O O':Qac}{d:D} (h:Qaa i ρ O = .ok d O'):ρ[i]? = some (some d)∧O'=O:=by
 unfold Qaa at h;split at h
 ·rename_i d' e;cases h;exact ⟨e,rfl⟩
 ·cases h
theorem Qq5 {m:M D}{ρ:Qak}{O O':Qac}{d:D} (h:mG m ρ O = .ok d O'):m ρ O = .ok d O'∧Qd7 d=true:=by
 unfold mG at h;split at h
 ·rename_i d' O1 e;split at h
  ·rename_i hn;cases h;exact ⟨e,hn⟩
  ·cases h
 ·rename_i hne;exact absurd h (hne _ _)
theorem SlO.get {K:Frag}{ρ:Qak}{σ:St}{H F:Hp}{as:List Addr}{i:Nat}{d:D} (s:SlO K md P ρ σ H F as) (h:ρ[i]? = some (some d)):∃m v,md[i]? = some m∧σ[i]? = some (some v)∧Qef P K H F as m v d:=by
 have hi:i < md.length:=by rw [←s.len']; exact (zn.mp h).1
 obtain ⟨v,h1,h2⟩:=s.sl i md[i] d (zJ hi) h;exact ⟨_,v,zJ hi,h1,h2⟩
theorem Qef.sv {K:Frag}{H F:Hp}{as:List Addr}{m:Md}{v:V}{d:D} (h:Qef P K H F as m v d):Sv K H F as v d:=by
 cases m with
 | v=>exact .inl h
 | s =>
  rcases h with h | ⟨a,xs,ds,e1,e2,e3,e4,e5,e6⟩
  ·exact .inl h
  ·exact .inr ⟨a,xs,ds,e1,e2,e3,e4,e6⟩
 | o =>
  rcases h with ⟨_,h⟩ | ⟨a,xs,ds,e1,e2,e3,e0,e4,e5,e6⟩
  ·exact .inl h
  ·exact .inr ⟨a,xs,ds,e1,e2,e3,e4,e6⟩
theorem Qap (i:Nat) {x:Str}{pos:Pos} (hN:X.N[i]? = some x:=by rfl) (hv:Vis X.env.scope x:=by first | exact Or.inl rfl | exact Or.inr (Or.inl rfl) | exact Or.inr (Or.inr rfl))
  (hd:(x == ("__debug__":Str))=false:=by decide) (hcd:(x == ("__classdict__":Str))=false:=by decide):SE X md P (.Name x pos) (Qaa i):=by
 refine (Qet (i:=i) hN hv hd hcd).imp fun σ H Q h=>?_
 obtain ⟨ρ,O,F,as,d,O',r,s,e,k⟩:=h;obtain ⟨e1,rfl⟩:=QhQ e;obtain ⟨m,v,h1,h2,h3⟩:=s.get e1;exact ⟨v,h2,k v H F as Gr.refl r h3.sv⟩
theorem Qag (i:Nat) {x:Str}{pos:Pos} (hm:md[i]? = some .v:=by rfl) (hN:X.N[i]? = some x:=by rfl) (hv:Vis X.env.scope x:=by first | exact Or.inl rfl | exact Or.inr (Or.inl rfl) | exact Or.inr (Or.inr rfl))
  (hd:(x == ("__debug__":Str))=false:=by decide) (hcd:(x == ("__classdict__":Str))=false:=by decide):VE X md P (.Name x pos) (Qaa i):=by
 refine (Qet (i:=i) hN hv hd hcd).imp fun σ H Q h=>?_
 obtain ⟨ρ,O,F,as,d,O',r,s,e,k⟩:=h;obtain ⟨e1,rfl⟩:=QhQ e;obtain ⟨v,h2,h3⟩:=s.sl i .v d hm e1;exact ⟨v,h2,k v H F as Gr.refl r h3⟩
theorem Qae {e:Expr}{m:M D} (h:VE X md P e m):SE X md P e m:=h.imp fun σ H Q q=>by
 obtain ⟨ρ,O,F,as,d,O',r,s,e,k⟩:=q;exact ⟨ρ,_,F,as,_,_,r,s,e,fun v H' F' as' g r' hv=>k v H' F' as' g r' (.inl hv)⟩
theorem Qay {e:Expr}{m:M D} (h:OE X md P e m):SE X md P e m:=h.imp fun σ H Q q=>by
 obtain ⟨ρ,O,F,as,d,O',r,s,e,k⟩:=q;exact ⟨ρ,_,F,as,_,_,r,s,e,fun v H' F' as' g r' hv=>k v H' F' as' g r' (Ow.sv hv)⟩
theorem QcK {e:Expr}{m:M D} (h:SE X md P e m):VE X md P e (mG m):=h.imp fun σ H Q q=>by
 obtain ⟨ρ,O,F,as,d,O',r,s,e,k⟩:=q;obtain ⟨e,hn⟩:=Qq5 e;exact ⟨ρ,_,F,as,_,_,r,s,e,fun v H' F' as' g r' hv=>k v H' F' as' g r' (Sv.rp hv hn)⟩
theorem QqE {e:Expr}{m:M D} (h:VE X md P e m):OE X md P e (mG m):=h.imp fun σ H Q q=>by
 obtain ⟨ρ,O,F,as,d,O',r,s,e,k⟩:=q;obtain ⟨e,hn⟩:=Qq5 e;exact ⟨ρ,_,F,as,_,_,r,s,e,fun v H' F' as' g r' hv=>k v H' F' as' g r' (.inl ⟨hn,hv⟩)⟩
theorem QaJ {e:Expr}{m:M D} (h:OE X md P e m):VE X md P e m:=h.imp fun σ H Q q=>by
 obtain ⟨ρ,O,F,as,d,O',r,s,e,k⟩:=q;refine ⟨ρ,_,F,as,_,_,r,s,e,fun v H' F' as' g r' hv=>?_⟩
 rcases hv with ⟨_,hv⟩ | ⟨a,xs,ds,rfl,rfl,e3,e4,e5,e6,e7⟩
 ·exact k v H' F' as' g r' hv
 ·have ff:Same F' (upd F' a (.lst xs)):=fun b u q=>by rw [Qaj (Qau q e4)]; exact q
  refine k _ H' (upd F' a (.lst xs)) as' (g.frz e6 e4) (r'.frz e3 e4 e5 rfl) (Rp.mkL (.inl (.inl QaC)) (Rps.mono ff (fun _ _ z=>z) _ e7))
theorem QlF {e:Expr}{v:V}{d:D} (h:PE X e (tC v)) (hd:∀K F as,Rp K F as v d):VE X md P e (mC d):=h.imp fun σ H Q q=>by
 obtain ⟨ρ,O,F,as,d,O',r,s,e,k⟩:=q;cases e;exact k v H F as Gr.refl r (hd _ _ _)
theorem Qaq {i:Int}{j pos}:VE X md P (.Constant (.int i) j pos) (mC (.int i)):=QlF Qug fun _ _ _=>Rp.int
theorem Qc3 {b:Bool}{j pos}:VE X md P (.Constant (.bool b) j pos) (mC (.bl b)):=QlF Qvw fun _ _ _=>Rp.bl
theorem Qgr {j pos}:VE X md P (.Constant .none j pos) (mC .non):=QlF Qtg fun _ _ _=>Rp.non
theorem Qal {x:Str}{j pos} (l:List Nat) (hx:x=S l:=by decide +kernel):VE X md P (.Constant (.str x) j pos) (mC (.str l)):=QlF QnQ fun _ _ _=>by rw [hx]; exact Rp.str
theorem Qdz {x:Str}{v:V}{d:D}{pos:Pos} (h:∃u,X.mg x=some u∧RelV v u) (hd:∀K F as,Rp K F as v d) (hg:Gl X x:=by rfl) (hdb:(x == ("__debug__":Str))=false:=by decide):VE X md P (.Name x pos) (mC d):=QlF (Qlc h hg hdb) hd
def Qaf:M (List D):=fun _ O=>.ok [] O
def Qab (m:M D) (r:M (List D)):M (List D):=fun ρ O=>(m ρ O).bind fun d O1=>(r ρ O1).bind fun ds O2=>.ok (d::ds) O2
theorem Qao:AE X md P [] [] Qaf:=Qcp.imp fun σ H Q q=>by
 obtain ⟨ρ,O,F,as,d,O',r,s,e,k⟩:=q;cases e;exact k [] H F as Gr.refl r trivial
theorem rA.gr {K:Frag}{m:Md}{N:Addr→Prop}{H F H' F':Hp}{as as':List Addr}{v:V}{d:D} (h:rA K m N H F as v d) (g:Gr H F as H' F' as'):rA K m (fun _=>True) H' F' as' v d:=by
 cases m with
 | v=>exact Rp.gr (show Rp K F as v d from h) g
 | s=>exact Sv.gr (show Sv K H F as v d from h) g
 | o=>exact Sv.gr (show Sv K H F as v d from h) g
theorem Qby.gr {K:Frag}{H F H' F':Hp}{as as':List Addr} (g:Gr H F as H' F' as'):∀{ms:List Md}{vs:List V}{ds:List D},Qby K H F as ms vs ds→Qby K H' F' as' ms vs ds
 | [],[],[],_=>trivial
 | m::ms,v::vs,d::ds,h=>⟨rA.gr h.1 g,Qby.gr g h.2⟩
 | [],[],_::_,h=>h.elim
 | [],_::_,[],h=>h.elim
 | [],_::_,_::_,h=>h.elim
 | _::_,[],[],h=>h.elim
 | _::_,[],_::_,h=>h.elim
 | _::_,_::_,[],h=>h.elim
theorem Qmv (md0:Md) {e:Expr}{es:List Expr}{m:M D}{ms:List Md}{r:M (List D)} (h:XE X md P (rA X.K md0) e m) (hr:AE X md P ms es r)
  (hs:starEach (e::es) X.env=(false,eval e X.env)::starEach es X.env:=by exact Qa3 rfl):AE X md P (md0::ms) (e::es) (Qab m r):=(QbA h hr hs).imp fun σ H Q q=>by
 obtain ⟨ρ,O,F,as,d,O',r0,s,e,k⟩:=q;obtain ⟨d,O1,e1,e⟩:=Res.bind_ok e;obtain ⟨ds',O2,e2,e⟩:=Res.bind_ok e;cases e;refine ⟨ρ,_,F,as,_,_,r0,s,e1,fun v H1 F1 as1 g1 r1 hv=>?_⟩;refine ⟨ρ,_,F1,as1,_,_,r1,s.step g1,e2,fun vs H2 F2 as2 g2 r2 hvs=>?_⟩;exact k (v::vs) H2 F2 as2 (g1.trans g2) r2 ⟨rA.gr hv g2,hvs⟩
theorem QaD {e:Expr}{es:List Expr}{m:M D}{ms:List Md}{r:M (List D)} (h:VE X md P e m) (hr:AE X md P ms es r)
  (hs:starEach (e::es) X.env=(false,eval e X.env)::starEach es X.env:=by exact Qa3 rfl):AE X md P (.v::ms) (e::es) (Qab m r):=Qmv .v h hr hs
theorem QaH {e:Expr}{es:List Expr}{m:M D}{ms:List Md}{r:M (List D)} (h:SE X md P e m) (hr:AE X md P ms es r)
  (hs:starEach (e::es) X.env=(false,eval e X.env)::starEach es X.env:=by exact Qa3 rfl):AE X md P (.s::ms) (e::es) (Qab m r):=Qmv .s h hr hs
theorem Qby.rps {K:Frag}{H F:Hp}{as:List Addr}:∀{n:Nat}{vs:List V}{ds:List D},Qby K H F as (List.replicate n .v) vs ds→Rps K F as vs ds
 | 0,[],[],_=>Rps.nil
 | n+1,v::vs,d::ds,h=>by
  rw [List.replicate_succ] at h;exact Rps.cons h.1 (Qby.rps h.2)
 | 0,[],_::_,h=>h.elim
 | 0,_::_,[],h=>h.elim
 | 0,_::_,_::_,h=>h.elim
 | n+1,[],[],h=>h.elim
 | n+1,[],_::_,h=>h.elim
 | n+1,_::_,[],h=>h.elim
def QbF (r:M (List D)):M D:=fun ρ O=>(r ρ O).bind fun ds O1=>if ds.length≤1000000 then .ok (.lst ds) O1 else .no
def Qbt (r:M (List D)):M D:=fun ρ O=>(r ρ O).bind fun ds O1=>if ds.length≤1000000 then .ok (.tup ds) O1 else .no
theorem Qdu {n:Nat} (h:n≤1000000):n≤sizeLine:=zu h (by decide)
theorem Qcb {es:List Expr}{pos:Pos}{r:M (List D)} (n:Nat) (h:AE X md P (List.replicate n .v) es r):OE X md P (.List es pos) (QbF r):=(QtN h).imp fun σ H Q q=>by
 obtain ⟨ρ,O,F,as,d,O',r0,s,e,k⟩:=q;obtain ⟨ds,O1,e1,e⟩:=Res.bind_ok e;split at e
 ·rename_i hz;cases e;refine ⟨ρ,_,F,as,_,_,r0,s,e1,fun vs H1 F1 as1 g1 r1 hv=>?_⟩;have hr:=hv.rps;refine ⟨by rw [hr.length]; exact Qdu hz,fun p hp=>?_⟩
  have hF:F1 p=none:=by
   cases q:F1 p with
   | none=>rfl
   | some o=>rw [r1.fh p o q] at hp; cases hp
  refine k _ _ F1 as1 (g1.trans (Gr.lay hp)) (r1.lay hp) (.inr ⟨p,vs,ds,rfl,rfl,QaC,hF,fun z=>r1.all z hp,g1.dm p hp,hr⟩)
 ·cases e
theorem QbR {es:List Expr}{pos:Pos}{x1}{r:M (List D)} (n:Nat) (h:AE X md P (List.replicate n .v) es r):VE X md P (.Tuple es x1 pos) (Qbt r):=(QoY h).imp fun σ H Q q=>by
 obtain ⟨ρ,O,F,as,d,O',r0,s,e,k⟩:=q;obtain ⟨ds,O1,e1,e⟩:=Res.bind_ok e;split at e
 ·rename_i hz;cases e;refine ⟨ρ,_,F,as,_,_,r0,s,e1,fun vs H1 F1 as1 g1 r1 hv=>?_⟩;have hr:=hv.rps;refine ⟨by rw [hr.length]; exact Qdu hz,fun p hp=>?_⟩
  have hF:F1 p=none:=by
   cases q:F1 p with
   | none=>rfl
   | some o=>rw [r1.fh p o q] at hp; cases hp
  have ff:Same F1 (upd F1 p (.tup vs)):=fun b u q=>by rw [Qaj (Qau q hF)]; exact q
  refine k _ _ (upd F1 p (.tup vs)) as1 ((g1.trans (Gr.lay hp)).frz (g1.dm p hp) hF) ((r1.lay hp).frz QaC hF (fun z=>r1.all z hp) rfl) (Rp.mkT (.inl QaC) (Rps.mono ff (fun _ _ z=>z) _ hr))
 ·cases e
def rD (K:Frag) (mg:Str→Option Value) (g:D→D→Option D):R2:=fun x y H Q=>∃O F as dx dy d,RlO K mg O H F as∧Lk K H F as x dx∧Lk K H F as y dy∧g dx dy=some d ∧
 ∀v' H' F',Gr H F as H' F' as→RlO K mg O H' F' as→Ow K (fun a=>H a=none) H' F' as v' d→Q v' H'
abbrev OpD (X:Cx) (f:Value→Value→Sem Value) (g:D→D→Option D):Prop:=OpR X f (rD X.K X.mg g)
def Qad (g:D→D→Option D) (ma mb:M D):M D:=fun ρ O=>(ma ρ O).bind fun x O1=>(mb ρ O1).bind fun y O2=>match g (QaX O2 x) (QaX O2 y) with
 | some d=>.ok d O2
 | none=>.no
theorem QkT {K:Frag}{mg:Str→Option Value}{g:D→D→Option D}{ma mb:M D}{σ:St}{H:Hp}{Q:VK} (h:tM K mg md P (rO K) (Qad g ma mb) σ H Q):tOp (rD K mg g) (tM K mg md P (rS K) ma) (tM K mg md P (rS K) mb) σ H Q:=by
 obtain ⟨ρ,O,F,as,d,O',r,sl,e,k⟩:=h;obtain ⟨x,O1,e1,e⟩:=Res.bind_ok e;obtain ⟨y,O2,e2,e⟩:=Res.bind_ok e;split at e
 ·rename_i d' hg;cases e;refine ⟨ρ,_,F,as,_,_,r,sl,e1,fun v H1 F1 as1 g1 r1 hv=>?_⟩;refine ⟨ρ,_,F1,as1,_,_,r1,sl.step g1,e2,fun u H2 F2 as2 g2 r2 hu=>?_⟩;refine ⟨_,F2,as2,_,_,_,r2,Sv.lk (Sv.gr hv g2) r2,Sv.lk hu r2,hg,fun v' H' F' g' r' hw=>?_⟩;exact k v' H' F' as2 ((g1.trans g2).trans g') r' (Qc4 _ _ _ _ _ _ _ (fun a ha=>(g1.trans g2).dm a ha) hw)
 ·cases e
theorem Qax {e1 e2:Expr}{pos:Pos}{op:Operator}{g:D→D→Option D}{ma mb:M D} (ho:OpD X (binaryOp op) g) (ha:SE X md P e1 ma) (hb:SE X md P e2 mb):OE X md P (.BinOp e1 op e2 pos) (Qad g ma mb) :=
 (Qvx ho ha hb).imp fun _ _ _=>QkT
theorem Qdm {e1 e2:Expr}{pos:Pos}{op:CmpOp}{g:D→D→Option D}{ma mb:M D} (ho:OpD X (compareOp op) g) (ha:SE X md P e1 ma) (hb:SE X md P e2 mb) (hm:behindInMarks op e2=false):OE X md P (.Compare e1 [op] [e2] pos) (Qad g ma mb) :=
 (QrO ho ha hb hm).imp fun _ _ _=>QkT
def Qam (m:M D):M Bool:=fun ρ O=>(m ρ O).bind fun d O1=>match d with
 | .bl b=>.ok b O1
 | _=>.no
theorem QjH {K:Frag}{mg:Str→Option Value}{m:M D}{σ:St}{H:Hp}{Q:Bool→Hp→Prop} (h:tMT K mg md P (Qam m) σ H Q):Qm9 (tM K mg md P (rO K) m) σ H Q:=by
 obtain ⟨ρ,O,F,as,d,O',r,sl,e,k⟩:=h;obtain ⟨d,O1,e1,e⟩:=Res.bind_ok e
 cases d with
 | bl c =>
  cases e;refine ⟨ρ,_,F,as,_,_,r,sl,e1,fun v H1 F1 as1 g1 r1 hv=>?_⟩
  rcases hv with ⟨_,hv⟩ | ⟨a,xs,ds,_,e2,_⟩
  ·exact ⟨_,hv.unB,k H1 F1 as1 g1 r1⟩
  ·cases e2
 | _=>cases e
theorem QaN {e1 e2:Expr}{pos:Pos}{op:CmpOp}{g:D→D→Option D}{ma mb:M D} (ho:OpD X (compareOp op) g) (ha:SE X md P e1 ma) (hb:SE X md P e2 mb) (hm:behindInMarks op e2=false):TsE X md P (.Compare e1 [op] [e2] pos) (Qam (Qad g ma mb)) :=
 (QrT ho ha hb hm).imp fun σ H Q h=>by
  have q:=QjH h;exact QkT q
def Qhq (g g':D→D→Option D) (ma mb mc:M D):M D:=fun ρ O=>(ma ρ O).bind fun x O1=>(mb ρ O1).bind fun y O2=>match g (QaX O2 x) (QaX O2 y) with
 | some (.bl true)=>(mc ρ O2).bind fun z O3=>match g' (QaX O3 y) (QaX O3 z) with
  | some d=>.ok d O3
  | none=>.no
 | some (.bl false)=>.ok (.bl false) O2
 | _=>.no
theorem Qp2 {K:Frag}{mg:Str→Option Value}{g g':D→D→Option D}{ma mb mc:M D}{σ:St}{H:Hp}{Q:VK} (h:tM K mg md P (rO K) (Qhq g g' ma mb mc) σ H Q) :
  Qn7 (rD K mg g) (rD K mg g') (tM K mg md P (rS K) ma) (tM K mg md P (rS K) mb) (tM K mg md P (rS K) mc) σ H Q:=by
 obtain ⟨ρ,O,F,as,d,O',r,sl,e,k⟩:=h;obtain ⟨x,O1,e1,e⟩:=Res.bind_ok e;obtain ⟨y,O2,e2,e⟩:=Res.bind_ok e;refine ⟨ρ,_,F,as,_,_,r,sl,e1,fun v H1 F1 as1 g1 r1 hv=>?_⟩;refine ⟨ρ,_,F1,as1,_,_,r1,sl.step g1,e2,fun u H2 F2 as2 g2 r2 hu=>?_⟩;split at e
 ·rename_i hg;obtain ⟨z,O3,e3,e⟩:=Res.bind_ok e;refine ⟨_,F2,as2,_,_,_,r2,Sv.lk (Sv.gr hv g2) r2,Sv.lk hu r2,hg,fun v' H' F' g' r' hw=>?_⟩
  rcases hw with ⟨_,hw⟩ | ⟨a,xs,ds,_,z,_⟩
  ·refine ⟨true,hw.unB,?_⟩;rw [if_pos rfl];split at e
   ·rename_i d' hg';cases e;have g3:=(g1.trans g2).trans g';refine ⟨ρ,_,F',as2,_,_,r',sl.step g3,e3,fun w H4 F4 as4 g4 r4 hz=>?_⟩;refine ⟨_,F4,as4,_,_,_,r4,Sv.lk (Sv.gr (Sv.gr hu g') g4) r4,Sv.lk hz r4,hg',fun v5 H5 F5 g5 r5 hw5=>?_⟩;exact k v5 H5 F5 as4 ((g3.trans g4).trans g5) r5 (Qc4 _ _ _ _ _ _ _ (fun a ha=>(g3.trans g4).dm a ha) hw5)
   ·cases e
  ·cases z
 ·rename_i hg;cases e;refine ⟨_,F2,as2,_,_,_,r2,Sv.lk (Sv.gr hv g2) r2,Sv.lk hu r2,hg,fun v' H' F' g' r' hw=>?_⟩
  rcases hw with ⟨_,hw⟩ | ⟨a,xs,ds,_,z,_⟩
  ·refine ⟨false,hw.unB,?_⟩;rw [if_neg zf];exact k _ H' F' as2 ((g1.trans g2).trans g') r' (.inl ⟨rfl,Rp.bl⟩)
  ·cases z
 ·cases e
theorem QpA {a b c:Expr}{pos:Pos}{op op':CmpOp}{g g':D→D→Option D}{ma mb mc:M D} (ho:OpD X (compareOp op) g) (ho':OpD X (compareOp op') g') (ha:SE X md P a ma) (hb:SE X md P b mb) (hc:SE X md P c mc)
  (hm:lastMarks [op,op'] [b,c]=false:=by with_unfolding_all rfl):OE X md P (.Compare a [op,op'] [b,c] pos) (Qhq g g' ma mb mc):=(Qph ho ho' ha hb hc hm).imp fun _ _ _=>Qp2
def isNon:D→Bool
 | .non=>true
 | _=>false
def Qhh (m:M D):M D:=fun ρ O=>(m ρ O).bind fun d O1=>.ok (.bl (isNon d)) O1
def QkG (m:M D):M D:=fun ρ O=>(m ρ O).bind fun d O1=>.ok (.bl (!isNon d)) O1
theorem Sv.isN {K:Frag}{H F:Hp}{as:List Addr}{v:V}{d:D} (h:Sv K H F as v d):decide (v = .non)=isNon d:=by
 rcases h with h | ⟨a,xs,ds,rfl,rfl,_⟩
 ·cases d with
  | non=>rw [h.unN]; rfl
  | bl b=>rw [h.unB]; rfl
  | int b=>rw [h.unI]; rfl
  | str b=>rw [h.unS]; rfl
  | lst b=>obtain ⟨a,xs,rfl,_⟩:=h.unL; rfl
  | tup b=>obtain ⟨a,xs,rfl,_⟩:=h.unT; rfl
  | dic k b=>obtain ⟨a,xs,rfl,_⟩:=h.unD; rfl
  | ob b=>obtain ⟨a,rfl,_⟩:=h.unO; rfl
 ·rfl
theorem QnD {K:Frag}{mg:Str→Option Value}{m:M D}{σ:St}{H:Hp}{Q:VK} (h:tM K mg md P (rO K) (Qhh m) σ H Q):Qs8 (tM K mg md P (rS K) m) σ H Q:=by
 obtain ⟨ρ,O,F,as,d,O',r,sl,e,k⟩:=h;obtain ⟨x,O1,e1,e⟩:=Res.bind_ok e;cases e;refine ⟨ρ,_,F,as,_,_,r,sl,e1,fun v H1 F1 as1 g1 r1 hv=>?_⟩;dsimp only;rw [Sv.isN hv];exact k _ H1 F1 as1 g1 r1 (.inl ⟨rfl,Rp.bl⟩)
theorem Qrn {K:Frag}{mg:Str→Option Value}{m:M D}{σ:St}{H:Hp}{Q:VK} (h:tM K mg md P (rO K) (QkG m) σ H Q):Qrd (tM K mg md P (rS K) m) σ H Q:=by
 obtain ⟨ρ,O,F,as,d,O',r,sl,e,k⟩:=h;obtain ⟨x,O1,e1,e⟩:=Res.bind_ok e;cases e;refine ⟨ρ,_,F,as,_,_,r,sl,e1,fun v H1 F1 as1 g1 r1 hv=>?_⟩;dsimp only;rw [Sv.isN hv];exact k _ H1 F1 as1 g1 r1 (.inl ⟨rfl,Rp.bl⟩)
theorem QtZ {a:Expr}{pos pos':Pos}{j}{m:M D} (h:SE X md P a m):OE X md P (.Compare a [.Is] [.Constant .none j pos'] pos) (Qhh m):=(Qt5 (Qoj h)).imp fun _ _ _=>QnD
theorem QqI {t t':TE}{σ:St}{H:Hp}{Q:Bool→Hp→Prop} (h:∀Q',t σ H Q'→t' σ H Q') (q:Qm9 t σ H Q):tB t' σ H Q:=h _ q
theorem QsQ {a:Expr}{pos pos':Pos}{j}{m:M D} (h:SE X md P a m):TsE X md P (.Compare a [.Is] [.Constant .none j pos'] pos) (Qam (Qhh m)):=(QoR (Qoj h)).imp fun _ _ _ q=>QqI (fun _=>QnD) (QjH q)
theorem Qrt {a:Expr}{pos pos':Pos}{j}{m:M D} (h:SE X md P a m):TsE X md P (.Compare a [.IsNot] [.Constant .none j pos'] pos) (Qam (QkG m)):=(QoR (Qrl h)).imp fun _ _ _ q=>QqI (fun _=>Qrn) (QjH q)
def Qjk:D→Option Bool
 | .non=>some false
 | .bl b=>some b
 | .int i=>some (i != 0)
 | .str l=>if l.length≤1000000 then some (!l.isEmpty) else none
 | .lst ds=>some (!ds.isEmpty)
 | .tup ds=>some (!ds.isEmpty)
 | .dic ks _=>some (!ks.isEmpty)
 | .ob _=>none
def Qa7 (m:M D):M Bool:=fun ρ O=>(m ρ O).bind fun d O1=>match Qjk (QaX O1 d) with
 | some b=>.ok b O1
 | none=>.no
theorem Qj3 {α β:Type}{xs:List α}{ys:List β} (h:xs.length=ys.length):(!xs.isEmpty) = !ys.isEmpty:=by
 cases xs <;> cases ys <;> simp_all
theorem Lk.tru {K:Frag}{H F:Hp}{as:List Addr}{v:V}{d:D}{b:Bool} (h:Lk K H F as v d) (fh:Same F H) (e:Qjk d=some b):Qqs K v H b:=by
 cases d with
 | non=>rw [(h.rp rfl).unN]; cases e; rfl
 | bl b=>rw [(h.rp rfl).unB]; cases e; rfl
 | int b=>rw [(h.rp rfl).unI]; cases e; rfl
 | str l =>
  rw [(h.rp rfl).unS];simp only [Qjk] at e;split at e
  ·rename_i hl;cases e;refine ⟨by rw [Qbm]; exact Qdu hl,?_⟩;rw [Qbm]
   cases l with
   | nil=>rfl
   | cons c l =>
    have:((((c::l).length:Nat):Int) != 0)=true:=by
     rw [bne_iff_ne,zp];omega
    rw [this];rfl
  ·cases e
 | lst ds =>
  obtain ⟨a,xs,rfl,h1,h2⟩:=h.list fh;cases e;exact .inl ⟨xs,h1.sq,(Qj3 h2.length).symm⟩
 | tup ds =>
  obtain ⟨a,xs,rfl,h1,h2⟩:=(h.rp rfl).unT;cases e;exact .inr (.inl ⟨xs,Same.seqT fh h1,(Qj3 h2.length).symm⟩)
 | dic ks vs =>
  obtain ⟨a,kvs,rfl,h1,rfl,h2⟩:=(h.rp rfl).unD;cases e;exact .inr (.inr ⟨kvs,fh _ _ h1,by cases kvs <;> rfl⟩)
 | ob n=>cases e
theorem QbS {a:Expr}{m:M D} (h:SE X md P a m) (he:∀whole,isTrue a X.env whole=(do let v ←whole; standAt a.pos; holding [v] (truthy v)):=by intro _; rfl):TsE X md P a (Qa7 m):=(QpB h he).imp fun σ H Q q=>by
 obtain ⟨ρ,O,F,as,d,O',r,sl,e,k⟩:=q;obtain ⟨d,O1,e1,e⟩:=Res.bind_ok e;split at e
 ·rename_i c hc;cases e;exact ⟨ρ,_,F,as,_,_,r,sl,e1,fun v H1 F1 as1 g1 r1 hv=>⟨_,Lk.tru (Sv.lk hv r1) r1.fh hc,k H1 F1 as1 g1 r1⟩⟩
 ·cases e
def Qbp (a b:M Bool):M Bool:=fun ρ O=>(a ρ O).bind fun c O1=>if c=true then b ρ O1 else .ok false O1
def QbD (a b:M Bool):M Bool:=fun ρ O=>(a ρ O).bind fun c O1=>if c=true then .ok true O1 else b ρ O1
def QbQ (a:M Bool):M Bool:=fun ρ O=>(a ρ O).bind fun c O1=>.ok (!c) O1
theorem QrS {K:Frag}{mg:Str→Option Value}{ma mb:M Bool}{σ:St}{H:Hp}{Q:Bool→Hp→Prop} (h:tMT K mg md P (Qbp ma mb) σ H Q):Qs6 (tMT K mg md P ma) (tMT K mg md P mb) σ H Q:=by
 obtain ⟨ρ,O,F,as,d,O',r,sl,e,k⟩:=h;obtain ⟨c,O1,e1,e⟩:=Res.bind_ok e;refine ⟨ρ,_,F,as,_,_,r,sl,e1,fun H1 F1 as1 g1 r1=>?_⟩
 cases c with
 | true =>
  rw [if_pos rfl] at e ⊢;exact ⟨ρ,_,F1,as1,_,_,r1,sl.step g1,e,fun H2 F2 as2 g2 r2=>k H2 F2 as2 (g1.trans g2) r2⟩
 | false =>
  rw [if_neg zf] at e ⊢;cases e;exact k H1 F1 as1 g1 r1
theorem Qt4 {K:Frag}{mg:Str→Option Value}{ma mb:M Bool}{σ:St}{H:Hp}{Q:Bool→Hp→Prop} (h:tMT K mg md P (QbD ma mb) σ H Q):tOr (tMT K mg md P ma) (tMT K mg md P mb) σ H Q:=by
 obtain ⟨ρ,O,F,as,d,O',r,sl,e,k⟩:=h;obtain ⟨c,O1,e1,e⟩:=Res.bind_ok e;refine ⟨ρ,_,F,as,_,_,r,sl,e1,fun H1 F1 as1 g1 r1=>?_⟩
 cases c with
 | true =>
  rw [if_pos rfl] at e ⊢;cases e;exact k H1 F1 as1 g1 r1
 | false =>
  rw [if_neg zf] at e ⊢;exact ⟨ρ,_,F1,as1,_,_,r1,sl.step g1,e,fun H2 F2 as2 g2 r2=>k H2 F2 as2 (g1.trans g2) r2⟩
theorem QhJ {a:Expr}{pos:Pos}{m:M Bool} (h:TsE X md P a m):TwE X md P (.BoolOp .And [a] pos) m:=Qru h
theorem Qex {a:Expr}{pos:Pos}{m:M Bool} (h:TsE X md P a m):TwE X md P (.BoolOp .Or [a] pos) m:=Quu h
theorem Qdp {a b:Expr}{rest:List Expr}{pos:Pos}{ma mb:M Bool} (ha:TsE X md P a ma) (hb:TwE X md P (.BoolOp .And (b::rest) pos) mb):TwE X md P (.BoolOp .And (a::b::rest) pos) (Qbp ma mb):=(QsN ha hb).imp fun _ _ _=>QrS
theorem Qel {a b:Expr}{rest:List Expr}{pos:Pos}{ma mb:M Bool} (ha:TsE X md P a ma) (hb:TwE X md P (.BoolOp .Or (b::rest) pos) mb):TwE X md P (.BoolOp .Or (a::b::rest) pos) (QbD ma mb):=(Qvb ha hb).imp fun _ _ _=>Qt4
theorem QeI {e:Expr}{m:M Bool} (h:TwE X md P e m):TsE X md P e m:=PW.pt h
theorem Qdn {a:Expr}{pos:Pos}{m:M Bool} (h:TsE X md P a m):TsE X md P (.UnaryOp .Not a pos) (QbQ m):=(Qs4 h).imp fun σ H Q q=>by
 obtain ⟨ρ,O,F,as,d,O',r,sl,e,k⟩:=q;obtain ⟨c,O1,e1,e⟩:=Res.bind_ok e;cases e;exact ⟨ρ,_,F,as,_,_,r,sl,e1,k⟩
def QcY (ma mb:M D):M D:=fun ρ O=>(ma ρ O).bind fun d O1=>match d with
 | .bl true=>mb ρ O1
 | .bl false=>.ok (.bl false) O1
 | _=>.no
def Qtu (ma mb:M D):M D:=fun ρ O=>(ma ρ O).bind fun d O1=>match d with
 | .bl true=>.ok (.bl true) O1
 | .bl false=>mb ρ O1
 | _=>.no
def Qm7 (ma:M D):M D:=fun ρ O=>(ma ρ O).bind fun d O1=>match d with
 | .bl b=>.ok (.bl (!b)) O1
 | _=>.no
theorem Qfj {a:Expr}{pos:Pos}{op}{m:M D} (h:VE X md P a m):VE X md P (.BoolOp op [a] pos) m:=Quw h
theorem Qdq {a b:Expr}{rest:List Expr}{pos:Pos}{ma mb:M D} (ha:VE X md P a ma) (hb:VE X md P (.BoolOp .And (b::rest) pos) mb):VE X md P (.BoolOp .And (a::b::rest) pos) (QcY ma mb):=(Qtn ha hb).imp fun σ H Q q=>by
 obtain ⟨ρ,O,F,as,d,O',r,sl,e,k⟩:=q;obtain ⟨x,O1,e1,e⟩:=Res.bind_ok e;refine ⟨ρ,_,F,as,_,_,r,sl,e1,fun v H1 F1 as1 g1 r1 hv=>?_⟩
 cases x with
 | bl c =>
  refine ⟨c,Rp.unB hv,?_⟩
  cases c with
  | true =>
   rw [if_pos rfl];exact ⟨ρ,_,F1,as1,_,_,r1,sl.step g1,e,fun v2 H2 F2 as2 g2 r2 hv2=>k v2 H2 F2 as2 (g1.trans g2) r2 hv2⟩
  | false =>
   rw [if_neg zf];cases e;exact k _ H1 F1 as1 g1 r1 Rp.bl
 | _=>cases e
theorem Quv {a:Expr}{pos:Pos}{m:M D} (h:VE X md P a m):VE X md P (.UnaryOp .Not a pos) (Qm7 m):=(Qte h).imp fun σ H Q q=>by
 obtain ⟨ρ,O,F,as,d,O',r,sl,e,k⟩:=q;obtain ⟨x,O1,e1,e⟩:=Res.bind_ok e;refine ⟨ρ,_,F,as,_,_,r,sl,e1,fun v H1 F1 as1 g1 r1 hv=>?_⟩
 cases x with
 | bl c =>
  cases e;exact ⟨c,Rp.unB hv,k _ H1 F1 as1 g1 r1 Rp.bl⟩
 | _=>cases e
def mIf (t:M Bool) (a b:M D):M D:=fun ρ O=>(t ρ O).bind fun c O1=>if c=true then a ρ O1 else b ρ O1
theorem Qu5 (hR:Qb8 R) {c a b:Expr}{pos:Pos}{mc:M Bool}{ma mb:M D} (hc:TsE X md P c mc) (ha:PE X a (tM X.K X.mg md P R ma)) (hb:PE X b (tM X.K X.mg md P R mb)):PE X (.IfExp c a b pos) (tM X.K X.mg md P R (mIf mc ma mb)):=(Qqx hc ha hb).imp fun σ H Q q=>by
 obtain ⟨ρ,O,F,as,d,O',r,sl,e,k⟩:=q;obtain ⟨x,O1,e1,e⟩:=Res.bind_ok e;refine ⟨ρ,_,F,as,_,_,r,sl,e1,fun H1 F1 as1 g1 r1=>?_⟩
 cases x with
 | true =>
  rw [if_pos rfl] at e ⊢;exact ⟨ρ,_,F1,as1,_,_,r1,sl.step g1,e,fun v2 H2 F2 as2 g2 r2 hv2=>k v2 H2 F2 as2 (g1.trans g2) r2 (hR _ _ _ _ _ _ _ (fun a ha=>g1.dm a ha) hv2)⟩
 | false =>
  rw [if_neg zf] at e ⊢;exact ⟨ρ,_,F1,as1,_,_,r1,sl.step g1,e,fun v2 H2 F2 as2 g2 r2 hv2=>k v2 H2 F2 as2 (g1.trans g2) r2 (hR _ _ _ _ _ _ _ (fun a ha=>g1.dm a ha) hv2)⟩
theorem QqT {c a b:Expr}{pos:Pos}{mc:M Bool}{ma mb:M D} (hc:TsE X md P c mc) (ha:VE X md P a ma) (hb:VE X md P b mb):VE X md P (.IfExp c a b pos) (mIf mc ma mb):=Qu5 Qbj hc ha hb
end
section
variable {K:Frag}{mg:Str→Option Value}{md:List Md}{P:Pt}{R:RR}{ρ:Qak}{σ:St}{H F H' F':Hp}{as as':List Addr}{O O':Qac}
theorem SlO.set {i:Nat}{m:Md}{v:V}{d:D} (s:SlO K md P ρ σ H F as) (hm:md[i]? = some m) (hns:m≠.s) (hv:Qef P K H F as m v d)
  (hj:∀(a:Addr) (ds:List D) (j:Nat) (es:List D),m = .o→v = .ref a→d = .lst ds→i≠j→md[j]? = some .o→ρ[j]? = some (some (.lst es))→σ[j]?≠some (some (.ref a))):SlO K md P (ρ.set i (some d)) (σ.set i (some v)) H F as:=by
 have hi:i < md.length:=(zn.mp hm).1;refine ⟨by rw [zQ]; exact s.len,by rw [zQ]; exact s.len',s.pd,fun j m' d' e1 e2=>?_,fun j k a ds es h1 h2 h3 h4 h5 h6=>?_,fun x hx=>?_⟩
 ·by_cases h:i=j
  ·subst h;rw [hm] at e1; cases e1;rw [zE (by rw [s.len']; exact hi)] at e2;cases e2;exact ⟨v,zE (by rw [s.len]; exact hi),hv⟩
  ·rw [zq h] at e2;rw [zq h];exact s.sl j m' d' e1 e2
 ·by_cases hij:i=j
  ·by_cases hik:i=k
   ·rw [←hij,←hik]
   ·exfalso
    subst hij;rw [hm] at h1; cases h1;rw [zE (by rw [s.len']; exact hi)] at h3;rw [zE (by rw [s.len]; exact hi)] at h5;rw [zq hik] at h4 h6;cases h3; cases h5;exact hj a ds k es rfl rfl rfl hik h2 h4 h6
  ·by_cases hik:i=k
   ·exfalso
    subst hik;rw [hm] at h2; cases h2;rw [zE (by rw [s.len']; exact hi)] at h4;rw [zE (by rw [s.len]; exact hi)] at h6;rw [zq hij] at h3 h5;cases h4; cases h6;exact hj a es j ds rfl rfl rfl hij h1 h3 h5
   ·rw [zq hij] at h3 h5;rw [zq hik] at h4 h6;exact s.inj j k a ds es h1 h2 h3 h4 h5 h6
 ·obtain ⟨p1,p2,p3⟩:=s.pin x hx
  have hne:i≠x.1:=fun z=>by
   rw [←z,hm] at p1;exact hns (zK p1)
  exact ⟨p1,by rw [zq hne]; exact p2,by rw [zq hne]; exact p3⟩
theorem SlO.setV {i:Nat}{v:V}{d:D} (s:SlO K md P ρ σ H F as) (hm:md[i]? = some .v) (hv:Rp K F as v d):SlO K md P (ρ.set i (some d)) (σ.set i (some v)) H F as :=
 s.set hm (by decide) hv fun _ _ _ _ z=>nomatch z
theorem SlO.setN {i:Nat}{v:V}{d:D} (s:SlO K md P ρ σ H F as) (hm:md[i]? = some .o) (hn:Qd7 d=true) (hv:Rp K F as v d):SlO K md P (ρ.set i (some d)) (σ.set i (some v)) H F as :=
 s.set hm (by decide) (.inl ⟨hn,hv⟩) fun _ _ _ _ _ _ z=>by subst z; cases hn
theorem SlO.setO {i:Nat}{v:V}{d:D}{H0:Hp} (s:SlO K md P ρ σ H0 F as) (g:Gr H0 F as H' F' as') (hm:md[i]? = some .o) (hv:Ow K (fun a=>H0 a=none) H' F' as' v d):SlO K md P (ρ.set i (some d)) (σ.set i (some v)) H' F' as':=by
 have s':=s.step g
 rcases hv with ⟨hn,hv⟩ | ⟨a,xs,ds,rfl,rfl,e3,e4,e5,e6,e7⟩
 ·exact s'.setN hm hn hv
 ·refine s'.set hm (by decide) (.inr ⟨a,xs,ds,rfl,rfl,e3,e4,e5,fun p=>s.pd a p e6,e7⟩) fun b ds' j es _ hb hd hij hj he hs=>?_
  cases hb;obtain ⟨v,h1,h2⟩:=s.sl j .o _ hj he;rw [hs] at h1; cases h1
  rcases h2 with ⟨h2,_⟩ | ⟨a',xs',_,z1,_,z3,_⟩
  ·cases h2
  ·cases z1;rw [e6] at z3; cases z3
end
section
variable {X:Cx}{md:List Md}{P:Pt}{R:RR}
def Qav:MS:=fun ρ O=>.nx ρ O
def Qai (a b:MS):MS:=fun ρ O=>match a ρ O with
 | .nx ρ' O'=>b ρ' O'
 | r=>r
theorem QaQ:VSs X md P R [] Qav:=Qmo.imp fun D σ H q=>by
 obtain ⟨ρ,O,F,as,r,s,k⟩:=q;exact k σ H F as GrS.refl r s
theorem QcQ {K:Frag}{mg:Str→Option Value}{D:Ends}{H F H1 F1:Hp}{as as1:List Addr} (g:GrS P H F as H1 F1 as1) {f:Fl} (k:QeE K mg md P R D H F as f):QeE K mg md P R D H1 F1 as1 f:=by
 cases f with
 | nx ρ' O'=>exact fun σ' H' F' as' g'=>k σ' H' F' as' (g.trans g')
 | bk ρ' O'=>exact fun σ' H' F' as' g'=>k σ' H' F' as' (g.trans g')
 | ct ρ' O'=>exact fun σ' H' F' as' g'=>k σ' H' F' as' (g.trans g')
 | rt d O'=>exact fun σ' H' F' as' g'=>k σ' H' F' as' (g.trans g')
 | ex _ _=>exact k
 | no=>exact k
theorem Qan {st:Stmt}{rest:List Stmt}{a b:MS} (h1:VS X md P R st a) (h2:VSs X md P R rest b):VSs X md P R (st::rest) (Qai a b):=(QkM h1 h2).imp fun D σ H q=>by
 obtain ⟨ρ,O,F,as,r,s,k⟩:=q;refine ⟨ρ,O,F,as,r,s,?_⟩;unfold Qai at k
 cases e:a ρ O with
 | nx ρ' O' =>
  rw [e] at k;dsimp only at k
  exact fun σ' H' F' as' g r' s'=>⟨ρ',O',F',as',r',s',QcQ g k⟩
 | bk ρ' O'=>rw [e] at k; exact k
 | ct ρ' O'=>rw [e] at k; exact k
 | rt d O'=>rw [e] at k; exact k
 | ex x O'=>rw [e] at k; exact k
 | no=>rw [e] at k; exact k
theorem Qar {st:Stmt}{a:MS} (h1:VS X md P R st a):VSs X md P R [st] a:=Ql7 h1
def QtI (m:M D):MS:=fun ρ O=>match m ρ O with
 | .ok _ O'=>.nx ρ O'
 | .ex x O'=>.ex x O'
 | .no=>.no
def Qaw (m:M D):MS:=fun ρ O=>match m ρ O with
 | .ok d O'=>.rt d O'
 | .ex x O'=>.ex x O'
 | .no=>.no
theorem QnB (hR:Qb8 R) {e:Expr}{pos:Pos}{m:M D} (h:PE X e (tM X.K X.mg md P R m)):VS X md P R (.Return (some e) pos) (Qaw m):=(QoL h).imp fun D σ H q=>by
 obtain ⟨ρ,O,F,as,r,s,k⟩:=q;unfold Qaw at k
 cases e:m ρ O with
 | ok d O' =>
  rw [e] at k;exact ⟨ρ,_,F,as,_,_,r,s,e,fun v H' F' as' g r' hv=>k v H' F' as' g.toS r' (hR _ _ _ _ _ _ _ (fun a ha p=>s.pd a p ha) hv)⟩
 | ex x O'=>rw [e] at k; exact False.elim k
 | no=>rw [e] at k; exact False.elim k
theorem QaG {e:Expr}{pos:Pos}{m:M D} (h:VE X md P e m):VS X md P (rV X.K) (.Return (some e) pos) (Qaw m):=QnB Qbj h
theorem Qfd {e:Expr}{pos:Pos}{m:M D} (h:OE X md P e m):VS X md P (rO X.K) (.Return (some e) pos) (Qaw m):=QnB Qc4 h
theorem QhM (i:Nat) {x:Str}{p pos:Pos} (hm:md[i]? = some .o:=by rfl) (hN:X.N[i]? = some x:=by rfl) (hv:Vis X.env.scope x:=by first | exact Or.inl rfl | exact Or.inr (Or.inl rfl) | exact Or.inr (Or.inr rfl))
  (hd:(x == ("__debug__":Str))=false:=by decide) (hcd:(x == ("__classdict__":Str))=false:=by decide):VS X md P (rO X.K) (.Return (some (.Name x p)) pos) (Qaw (Qaa i)):=(QoL (Qet (i:=i) hN hv hd hcd)).imp fun D σ H q=>by
 obtain ⟨ρ,O,F,as,r,s,k⟩:=q;unfold Qaw at k
 cases e:Qaa i ρ O with
 | ok d O' =>
  rw [e] at k;obtain ⟨e1,rfl⟩:=QhQ e;obtain ⟨v,h1,h2⟩:=s.sl i .o d hm e1;refine ⟨v,h1,k v H F as GrS.refl r ?_⟩
  rcases h2 with h2 | ⟨a,xs,ds,e1,e2,e3,e0,e4,e5,e6⟩
  ·exact .inl h2
  ·exact .inr ⟨a,xs,ds,e1,e2,e3,e0,e4,e5,e6⟩
 | ex x O'=>rw [e] at k; exact False.elim k
 | no=>rw [e] at k; exact False.elim k
def QaL (t:M Bool) (a b:MS):MS:=fun ρ O=>match t ρ O with
 | .ok c O'=>if c=true then a ρ O' else b ρ O'
 | .ex x O'=>.ex x O'
 | .no=>.no
theorem Qa0 {c:Expr}{a b:List Stmt}{pos:Pos}{t:M Bool}{ma mb:MS} (hc:TsE X md P c t) (ha:VSs X md P R a ma) (hb:VSs X md P R b mb):VS X md P R (.If c a b pos) (QaL t ma mb):=(QqG hc ha hb).imp fun D σ H q=>by
 obtain ⟨ρ,O,F,as,r,s,k⟩:=q;unfold QaL at k
 cases e:t ρ O with
 | ok c O' =>
  rw [e] at k;refine ⟨ρ,_,F,as,_,_,r,s,e,fun H1 F1 as1 g r1=>?_⟩;dsimp only at k
  cases c with
  | true =>
   rw [if_pos rfl] at k ⊢;exact ⟨ρ,O',F1,as1,r1,s.step g,QcQ g.toS k⟩
  | false =>
   rw [if_neg zf] at k ⊢;exact ⟨ρ,O',F1,as1,r1,s.step g,QcQ g.toS k⟩
 | ex x O'=>rw [e] at k; exact False.elim k
 | no=>rw [e] at k; exact False.elim k
def Qat (i:Nat) (m:M D):MS:=fun ρ O=>match m ρ O with
 | .ok d O'=>.nx (ρ.set i (some d)) O'
 | .ex x O'=>.ex x O'
 | .no=>.no
theorem Qss {K:Frag}{mg:Str→Option Value}{i:Nat}{m:M D}{t:TE} (hm:md[i]? = some .v) (ht:∀σ H Q,tM K mg md P (rV K) m σ H Q→t σ H Q) {D:Ends}{σ:St}{H:Hp} (q:tMS K mg md P R (Qat i m) D σ H):Qpy t (QkD i) D σ H:=by
 obtain ⟨ρ,O,F,as,r,s,k⟩:=q;unfold Qat at k
 cases e:m ρ O with
 | ok d O' =>
  rw [e] at k;exact ht _ _ _ ⟨ρ,_,F,as,_,_,r,s,e,fun v H' F' as' g r' hv=>k _ H' F' as' g.toS r' ((s.step g).setV hm hv)⟩
 | ex x O'=>rw [e] at k; exact False.elim k
 | no=>rw [e] at k; exact False.elim k
theorem Qr7 {K:Frag}{mg:Str→Option Value}{i:Nat}{m:M D}{t:TE} (hm:md[i]? = some .o) (ht:∀σ H Q,tM K mg md P (rO K) m σ H Q→t σ H Q) {D:Ends}{σ:St}{H:Hp} (q:tMS K mg md P R (Qat i m) D σ H):Qpy t (QkD i) D σ H:=by
 obtain ⟨ρ,O,F,as,r,s,k⟩:=q;unfold Qat at k
 cases e:m ρ O with
 | ok d O' =>
  rw [e] at k;exact ht _ _ _ ⟨ρ,_,F,as,_,_,r,s,e,fun v H' F' as' g r' hv=>k _ H' F' as' g.toS r' (s.setO g hm hv)⟩
 | ex x O'=>rw [e] at k; exact False.elim k
 | no=>rw [e] at k; exact False.elim k
theorem QaP {i:Nat}{x:Str}{e:Expr}{pos pos':Pos}{m:M D} (hN:X.N.Nodup) (hi:X.N[i]? = some x) (hx:Loc X.env.scope x) (h:VE X md P e m) (hm:md[i]? = some .v:=by rfl) (hs:swapsWith e (some (.Name x pos')) pos.line X.env=pure false:=by rfl)
  (hf:X.fn x=true∨X.env.scope.names.lookup x=some .local:=by first | exact .inl rfl | exact .inr rfl | assumption):VS X md P R (.Assign [.Name x pos'] e pos) (Qat i m):=(Qlw (i:=i) hN hi hx h hs hf).imp fun D σ H q=>Qss hm (fun _ _ _ z=>z) q
theorem Qgg {i:Nat}{x:Str}{e:Expr}{pos pos':Pos}{m:M D} (hN:X.N.Nodup) (hi:X.N[i]? = some x) (hx:Loc X.env.scope x) (h:OE X md P e m) (hm:md[i]? = some .o:=by rfl) (hs:swapsWith e (some (.Name x pos')) pos.line X.env=pure false:=by rfl)
  (hf:X.fn x=true∨X.env.scope.names.lookup x=some .local:=by first | exact .inl rfl | exact .inr rfl | assumption):VS X md P R (.Assign [.Name x pos'] e pos) (Qat i m):=(Qlw (i:=i) hN hi hx h hs hf).imp fun D σ H q=>Qr7 hm (fun _ _ _ z=>z) q
abbrev MG:=D→Qak→Option Qak
def tMG (K:Frag) (mg:Str→Option Value) (md:List Md) (P:Pt) (g:MG):TG:=fun v σ H Q=>∃ρ O F as d ρ',RlO K mg O H F as∧SlO K md P ρ σ H F as∧Rp K F as v d∧g d ρ=some ρ'∧∀σ',SlO K md P ρ' σ' H F as→Q σ' H
def Qv0 (K:Frag) (mg:Str→Option Value) (md:List Md) (P:Pt) (g:List D→Qak→Option Qak):TGs:=fun vs σ H Q=>∃ρ O F as ds ρ',RlO K mg O H F as∧SlO K md P ρ σ H F as∧Rps K F as vs ds∧g ds ρ=some ρ'∧∀σ',SlO K md P ρ' σ' H F as→Q σ' H
def VG (X:Cx) (md:List Md) (P:Pt) (tg:Expr) (g:MG):Prop:=PG X tg (tMG X.K X.mg md P g)
def VGs (X:Cx) (md:List Md) (P:Pt) (tg:List Expr) (g:List D→Qak→Option Qak):Prop:=PGs X tg (Qv0 X.K X.mg md P g)
theorem PG.imp {e:Expr}{t t':TG} (h:PG X e t) (k:∀v σ H Q,t' v σ H Q→t v σ H Q):PG X e t':=fun pins s σ H v u Q I r q=>h pins s σ H v u Q I r (k v σ H Q q)
theorem PGs.imp {e:List Expr}{t t':TGs} (h:PGs X e t) (k:∀v σ H Q,t' v σ H Q→t v σ H Q):PGs X e t':=fun pins s σ H v u Q I r q=>h pins s σ H v u Q I r (k v σ H Q q)
def mgN (i:Nat):MG:=fun d ρ=>some (ρ.set i (some d))
theorem QbT {i:Nat}{x:Str}{pos:Pos} (hN:X.N.Nodup) (hi:X.N[i]? = some x) (hx:Loc X.env.scope x) (hm:md[i]? = some .v:=by rfl) (hf:X.fn x=true∨X.env.scope.names.lookup x=some .local:=by first | exact .inl rfl | exact .inr rfl | assumption):VG X md P (.Name x pos) (mgN i) :=
 (Qst (i:=i) hN hi hx hf).imp fun v σ H Q q=>by
  obtain ⟨ρ,O,F,as,d,ρ',r,s,hv,e,k⟩:=q;cases e;exact k _ (s.setV hm hv)
def Qdl:List D→Qak→Option Qak:=fun ds ρ=>match ds with
 | []=>some ρ
 | _=>none
def Qbe (g:MG) (r:List D→Qak→Option Qak):List D→Qak→Option Qak:=fun ds ρ=>match ds with
 | d::ds=>(g d ρ).bind fun ρ1=>r ds ρ1
 | []=>none
theorem QhU:VGs X md P [] Qdl:=Qrm.imp fun v σ H Q q=>by
 obtain ⟨ρ,O,F,as,ds,ρ',r,s,hv,e,k⟩:=q
 cases ds with
 | nil=>cases e; exact ⟨hv.un0,k _ s⟩
 | cons _ _=>cases e
theorem Qcz {e:Expr}{es:List Expr}{g:MG}{r:List D→Qak→Option Qak} (h1:VG X md P e g) (h2:VGs X md P es r) (hs:(assignEach (e::es) X.env).map (·.2)=assign e X.env::(assignEach es X.env).map (·.2):=by rfl):VGs X md P (e::es) (Qbe g r) :=
 (Qp3 h1 h2 hs).imp fun v σ H Q q=>by
  obtain ⟨ρ,O,F,as,ds,ρ',r0,s,hv,e,k⟩:=q
  cases ds with
  | nil=>cases e
  | cons d ds =>
   obtain ⟨x,rs,rfl,hx,hr⟩:=hv.un;unfold Qbe at e;dsimp only at e
   cases e1:g d ρ with
   | none=>rw [e1] at e; cases e
   | some ρ1 =>
    rw [e1] at e;exact ⟨x,rs,rfl,ρ,O,F,as,d,ρ1,r0,s,hx,e1,fun σ' s'=>⟨ρ1,O,F,as,ds,ρ',r0,s',hr,e,k⟩⟩
def Qfl (n:Nat) (r:List D→Qak→Option Qak):MG:=fun d ρ=>match d with
 | .tup ds=>if ds.length=n then r ds ρ else none
 | _=>none
theorem QiA {es:List Expr}{pos:Pos}{k:Nat}{r:List D→Qak→Option Qak} (n:Nat) (hc:X.calm=true) (h:VGs X md P es r) (hn:(assignEach es X.env).length=n:=by rfl) (hst:(assignEach es X.env).findIdx? (·.1)=none:=by rfl):VG X md P (.Tuple es k pos) (Qfl n r) :=
 (QsR hc h hn hst).imp fun v σ H Q q=>by
  obtain ⟨ρ,O,F,as,d,ρ',r0,s,hv,e,k⟩:=q
  cases d with
  | tup ds =>
   obtain ⟨a,xs,rfl,h1,h2⟩:=hv.unT;unfold Qfl at e;dsimp only at e;split at e
   ·rename_i hl;exact ⟨a,xs,rfl,Same.seqT r0.fh h1,by rw [h2.length]; exact hl,ρ,O,F,as,ds,ρ',r0,s,h2,e,k⟩
   ·cases e
  | _=>cases e
def QuI (m:M D) (g:MG):MS:=fun ρ O=>match m ρ O with
 | .ok d O'=>match g d ρ with
  | some ρ'=>.nx ρ' O'
  | none=>.no
 | .ex x O'=>.ex x O'
 | .no=>.no
end
structure JOk (K:Frag) (mg:Str→Option Value) (P:Pt) (J:It) (ds:List D) (H F:Hp) (as:List Addr):Prop where
 turn:∀(i:Nat) (d:D) (H2 F2:Hp) (as2:List Addr),GrS P H F as H2 F2 as2→(∃O,RlO K mg O H2 F2 as2)→ds[i]? = some d→J.go i H2∧∀x H3,J.yld i H2 x H3→∃F3,Gr H2 F2 as2 H3 F3 as2∧(∀O,RlO K mg O H2 F2 as2→RlO K mg O H3 F3 as2)∧Rp K F3 as2 x d
 stop:∀(H2 F2:Hp) (as2:List Addr),GrS P H F as H2 F2 as2→(∃O,RlO K mg O H2 F2 as2)→J.stop ds.length H2
structure QtV (K:Frag) (mg:Str→Option Value) (J:It) (ds:List D) (H F:Hp) (as:List Addr):Prop where
 turn:∀(i:Nat) (d:D) (H2 F2:Hp) (as2:List Addr),Gr H F as H2 F2 as2→(∃O,RlO K mg O H2 F2 as2)→ds[i]? = some d→J.go i H2∧∀x H3,J.yld i H2 x H3→∃F3,Gr H2 F2 as2 H3 F3 as2∧(∀O,RlO K mg O H2 F2 as2→RlO K mg O H3 F3 as2)∧Rp K F3 as2 x d
 stop:∀(H2 F2:Hp) (as2:List Addr),Gr H F as H2 F2 as2→(∃O,RlO K mg O H2 F2 as2)→J.stop ds.length H2
theorem JOk.e {K:Frag}{mg:Str→Option Value}{P:Pt}{J:It}{ds:List D}{H F:Hp}{as:List Addr} (h:JOk K mg P J ds H F as):QtV K mg J ds H F as:=⟨fun i d H2 F2 as2 g=>h.turn i d H2 F2 as2 g.toS,fun H2 F2 as2 g=>h.stop H2 F2 as2 g.toS⟩
def Qtm (K:Frag) (mg:Str→Option Value) (md:List Md) (P:Pt) (m:M (List D)):TI:=fun σ H Q=>∃ρ O F as ds O',RlO K mg O H F as∧SlO K md P ρ σ H F as∧m ρ O = .ok ds O' ∧
 ∀J H' F' as',Gr H F as H' F' as'→RlO K mg O' H' F' as'→QtV K mg J ds H' F' as'→Q J H'
def VIc (X:Cx) (md:List Md) (P:Pt) (tg iter:Expr) (m:M (List D)):Prop:=PI X tg iter (Qtm X.K X.mg md P m)
def tMI (K:Frag) (mg:Str→Option Value) (md:List Md) (P:Pt) (m:M (List D)):TI:=fun σ H Q=>∃ρ O F as ds O',RlO K mg O H F as∧SlO K md P ρ σ H F as∧m ρ O = .ok ds O' ∧
 ∀J H' F' as',Gr H F as H' F' as'→RlO K mg O' H' F' as'→JOk K mg P J ds H' F' as'→Q J H'
def VI (X:Cx) (md:List Md) (P:Pt) (tg iter:Expr) (m:M (List D)):Prop:=PI X tg iter (tMI X.K X.mg md P m)
section
variable {X:Cx}{md:List Md}{P:Pt}{R:RR}
theorem PI.imp {tg e:Expr}{t t':TI} (h:PI X tg e t) (k:∀σ H Q,t' σ H Q→t σ H Q):PI X tg e t':=fun pins s σ H Q I q=>h pins s σ H Q I (k σ H Q q)
theorem Qlv {tg e:Expr}{m:M (List D)} (h:VI X md P tg e m):VIc X md P tg e m:=h.imp fun σ H Q q=>by
 obtain ⟨ρ,O,F,as,ds,O',r,s,e,k⟩:=q;exact ⟨ρ,O,F,as,ds,O',r,s,e,fun J H' F' as' g r' hJ=>k J H' F' as' g r' hJ.e⟩
def QaS (g:MG) (b:MS):List D→MS
 | [],ρ,O=>.nx ρ O
 | d::ds,ρ,O=>match g d ρ with
  | none=>.no
  | some ρ1=>match b ρ1 O with
   | .nx ρ2 O2=>QaS g b ds ρ2 O2
   | .ct ρ2 O2=>QaS g b ds ρ2 O2
   | .bk ρ2 O2=>.nx ρ2 O2
   | r=>r
def QbP (m:M (List D)) (g:MG) (b:MS):MS:=fun ρ O=>match m ρ O with
 | .ok ds O'=>QaS g b ds ρ O'
 | .ex x O'=>.ex x O'
 | .no=>.no
theorem Quj {K:Frag}{mg:Str→Option Value}{m:M (List D)}{g:MG}{b:MS}{D:Ends}{σ:St}{H:Hp} (q:tMS K mg md P R (QbP m g b) D σ H):Qnt (tMI K mg md P m) (tMG K mg md P g) (tMS K mg md P R b) D σ H:=by
 obtain ⟨ρ,O,F,as,r,s,k⟩:=q;unfold QbP at k
 cases e:m ρ O with
 | ex x O'=>rw [e] at k; exact False.elim k
 | no=>rw [e] at k; exact False.elim k
 | ok ds O1 =>
  rw [e] at k;dsimp only at k;refine ⟨ρ,_,F,as,_,_,r,s,e,fun J H1 F1 as1 g1 r1 hJ=>?_⟩;have k1:=QcQ (R:=R) g1.toS k;refine ⟨fun i m σ' H'=>m=ds.length - i∧i≤ds.length∧∃ρ' O' F' as',GrS P H1 F1 as1 H' F' as'∧RlO K mg O' H' F' as'∧SlO K md P ρ' σ' H' F' as'∧QeE K mg md P R D H' F' as' (QaS g b (ds.drop i) ρ' O'),⟨ds.length,by simp,Nat.zero_le _,ρ,O1,F1,as1,GrS.refl,r1,s.step g1,by rw [List.drop_zero]; exact k1⟩,?_⟩;rintro i n σ' H' ⟨rfl,hi,ρ',O',F',as',g',r',s',k'⟩
  by_cases hlt:i < ds.length
  ·have hd:=zJ hlt;obtain ⟨go,yl⟩:=hJ.turn i _ H' F' as' g' ⟨O',r'⟩ hd;rw [List.drop_eq_getElem_cons hlt] at k';refine .inr ⟨go,fun σ2 H2=>∃ρ2 O2 F2 as2,GrS P H1 F1 as1 H2 F2 as2∧RlO K mg O2 H2 F2 as2∧SlO K md P ρ2 σ2 H2 F2 as2∧QeE K mg md P R D H2 F2 as2 (QaS g b (ds.drop (i+1)) ρ2 O2),fun σ2 H2 h2=>⟨ds.length - (i+1),by omega,rfl,hlt,h2⟩,fun x H3 y=>?_⟩;obtain ⟨F3,g3,r3,hx⟩:=yl x H3 y;have r3':=r3 O' r';unfold QaS at k'
   cases eg:g ds[i] ρ' with
   | none=>rw [eg] at k'; exact False.elim k'
   | some ρ1 =>
    rw [eg] at k';dsimp only at k';refine ⟨ρ',O',F3,as',ds[i],ρ1,r3',s'.step g3,hx,eg,fun σ4 s4=>?_⟩;refine ⟨ρ1,O',F3,as',r3',s4,?_⟩;have g4:GrS P H1 F1 as1 H3 F3 as':=g'.trans g3.toS
    have keep:=fun {f}=>QcQ (K:=K) (mg:=mg) (md:=md) (R:=R) (D:=D) (f:=f) (g3.toS (P:=P))
    cases eb:b ρ1 O' with
    | nx ρ2 O2 =>
     rw [eb] at k'
     exact fun σ2 H2 F2 as2 g2 r2 s2=>⟨ρ2,O2,F2,as2,g4.trans g2,r2,s2,QcQ g2 (keep k')⟩
    | ct ρ2 O2 =>
     rw [eb] at k'
     exact fun σ2 H2 F2 as2 g2 r2 s2=>⟨ρ2,O2,F2,as2,g4.trans g2,r2,s2,QcQ g2 (keep k')⟩
    | bk ρ2 O2 =>
     rw [eb] at k'
     exact fun σ2 H2 F2 as2 g2 r2 s2=>k' σ2 H2 F2 as2 (g3.toS.trans g2) r2 s2
    | rt d O2 =>
     rw [eb] at k'
     exact fun v H2 F2 as2 g2 r2 s2=>k' v H2 F2 as2 (g3.toS.trans g2) r2 s2
    | ex _ _=>rw [eb] at k'; exact False.elim k'
    | no=>rw [eb] at k'; exact False.elim k'
  ·have hi':i=ds.length:=by omega
   subst hi';refine .inl ⟨hJ.stop H' F' as' g' ⟨O',r'⟩,?_⟩;rw [List.drop_length] at k';exact k' σ' H' F' as' GrS.refl r' s'
theorem Qhb {tg iter:Expr}{body:List Stmt}{pos:Pos}{m:M (List D)}{g:MG}{b:MS} (hc:X.calm=true) (hi:VI X md P tg iter m) (hg:VG X md P tg g) (hb:VSs X md P R body b) (hp:PassesOwn (model X.prog X.w) X.A X.env X.xe:=by exact PassesOwn.never)
  (hs:∀x,foldedSetIterable iter X.env x=pure x:=by intro _; rfl):VS X md P R (.For tg iter body [] pos) (QbP m g b):=(QkS hp hc hi hg hb hs).imp fun _ _ _ q=>Quj q
def Qe3 (t:M Bool) (b:MS):Nat→MS
 | 0,_,_=>.no
 | n+1,ρ,O=>match t ρ O with
  | .ok true O1=>match b ρ O1 with
   | .nx ρ2 O2=>Qe3 t b n ρ2 O2
   | .ct ρ2 O2=>Qe3 t b n ρ2 O2
   | .bk ρ2 O2=>.nx ρ2 O2
   | r=>r
  | .ok false O1=>.nx ρ O1
  | .ex x O'=>.ex x O'
  | .no=>.no
def Qgj (n:Nat) (t:M Bool) (b:MS):MS:=Qe3 t b n
theorem Qqk {K:Frag}{mg:Str→Option Value}{n:Nat}{t:M Bool}{b:MS}{D:Ends}{σ:St}{H:Hp} (q:tMS K mg md P R (Qgj n t b) D σ H):Qoi (tMT K mg md P t) (tMS K mg md P R b) D σ H:=by
 refine ⟨fun n σ' H'=>tMS K mg md P R (Qe3 t b n) D σ' H',⟨n,q⟩,?_⟩;rintro m σ1 H1 ⟨ρ,O,F,as,r,s,k⟩
 cases m with
 | zero=>exact False.elim k
 | succ m =>
  unfold Qe3 at k
  cases e:t ρ O with
  | ex x O'=>rw [e] at k; exact False.elim k
  | no=>rw [e] at k; exact False.elim k
  | ok c O1 =>
   rw [e] at k;refine ⟨ρ,_,F,as,_,_,r,s,e,fun H2 F2 as2 g2 r2=>?_⟩
   cases c with
   | false =>
    rw [if_neg zf];exact k σ1 H2 F2 as2 g2.toS r2 (s.step g2)
   | true =>
    rw [if_pos rfl];refine ⟨fun σ' H'=>tMS K mg md P R (Qe3 t b m) D σ' H',fun σ' H' h'=>⟨m,jd m,h'⟩,ρ,O1,F2,as2,r2,s.step g2,?_⟩;dsimp only at k
    have keep:=fun {f}=>QcQ (K:=K) (mg:=mg) (md:=md) (R:=R) (D:=D) (f:=f) (g2.toS (P:=P))
    cases eb:b ρ O1 with
    | nx ρ2 O2 =>
     rw [eb] at k
     exact fun σ3 H3 F3 as3 g3 r3 s3=>⟨ρ2,O2,F3,as3,r3,s3,QcQ g3 (keep k)⟩
    | ct ρ2 O2 =>
     rw [eb] at k
     exact fun σ3 H3 F3 as3 g3 r3 s3=>⟨ρ2,O2,F3,as3,r3,s3,QcQ g3 (keep k)⟩
    | bk ρ2 O2 =>
     rw [eb] at k
     exact fun σ3 H3 F3 as3 g3 r3 s3=>k σ3 H3 F3 as3 (g2.toS.trans g3) r3 s3
    | rt d O2 =>
     rw [eb] at k
     exact fun σ3 H3 F3 as3 g3 r3 s3=>k σ3 H3 F3 as3 (g2.toS.trans g3) r3 s3
    | ex _ _=>rw [eb] at k; exact False.elim k
    | no=>rw [eb] at k; exact False.elim k
theorem QpO (n:Nat) {c:Expr}{body:List Stmt}{pos:Pos}{t:M Bool}{b:MS} (hc:TsE X md P c t) (hb:VSs X md P R body b) (hp:PassesOwn (model X.prog X.w) X.A X.env X.xe:=by exact PassesOwn.never):VS X md P R (.While c body [] pos) (Qgj n t b) :=
 (Qpp hp hc hb).imp fun _ _ _ q=>Qqk q
def Qc7 (g:MG) (t:M Bool) (m:M D):List D→Qak→Qac→List D→Res (List D)
 | [],ρ,O,acc=>.ok acc O
 | d::ds,ρ,O,acc=>match g d ρ with
  | none=>.no
  | some ρ1=>match t ρ1 O with
   | .ok true O1=>match m ρ1 O1 with
    | .ok y O2=>Qc7 g t m ds ρ1 O2 (acc ++ [y])
    | .ex x O'=>.ex x O'
    | .no=>.no
   | .ok false O1=>Qc7 g t m ds ρ1 O1 acc
   | .ex x O'=>.ex x O'
   | .no=>.no
def Qhg (own:Nat) (cap:List Nat) (ρ:Qak):Qak:=List.replicate own none++cap.map fun j=>(ρ[j]?).join
def QhK (m:M (List D)) (own:Nat) (cap:List Nat) (g:MG) (t:M Bool) (e:M D):M D:=fun ρ O=>(m ρ O).bind fun ds O1=>if ds.length≤1000000 then (Qc7 g t e ds (Qhg own cap ρ) O1 []).bind fun ys O2=>.ok (.lst ys) O2 else .no
def Qjj:M Bool:=fun _ O=>.ok true O
def cMd (own:Nat) (cap:List Nat) (md:List Md):List Md:=List.replicate own .v++cap.map fun j=>match md[j]? with
 | some .v=>.v
 | _=>.s
theorem Qnc {K:Frag}{ρ:Qak}{σ:St}{H F:Hp}{as:List Addr}{own:List Str}{cap:List Nat} (s:SlO K md P ρ σ H F as) (hcap:∀j∈cap,j < md.length):SlO K (cMd own.length cap md) (Pt.all H) (Qhg own.length cap ρ) (compSt own cap σ) H F as:=by
 refine ⟨by simp [compSt,cMd],by simp [Qhg,cMd],fun a h=>h,fun i m d e1 e2=>?_,fun i j a ds es h1=>?_,fun _ z=>nomatch z⟩
 ·unfold Qhg at e2;unfold cMd at e1;unfold compSt
  by_cases hi:i < own.length
  ·rw [zB (by simpa using hi),List.getElem?_replicate_of_lt hi] at e2;cases e2
  ·have hi':own.length≤i:=Nat.le_of_not_lt hi;rw [zD (by simpa using hi'),List.length_replicate,zG] at e2 e1;rw [zD (by simpa using hi'),zA,zG]
   cases q:cap[i - own.length]? with
   | none=>rw [q] at e2; cases e2
   | some j =>
    rw [q] at e1 e2;simp only [Option.map_some,Option.some.injEq] at e1 e2 ⊢
    cases q2:ρ[j]? with
    | none=>rw [q2] at e2; cases e2
    | some o =>
     rw [q2] at e2;have e2':o=some d:=e2;subst e2';obtain ⟨m0,v,h1,h2,h3⟩:=s.get q2;rw [h1] at e1;refine ⟨v,by rw [h2]; rfl,?_⟩
     cases m0 with
     | v=>dsimp only at e1; subst e1; exact h3
     | s =>
      dsimp only at e1; subst e1
      rcases h3 with h3 | ⟨a,xs,ds,e1,e2,e3,e4,e5,e6⟩
      ·exact .inl h3
      ·exact .inr ⟨a,xs,ds,e1,e2,e3,e4,(show H a≠none by rw [e3]; exact fun z=>nomatch z),e6⟩
     | o =>
      dsimp only at e1; subst e1
      rcases h3 with ⟨_,h3⟩ | ⟨a,xs,ds,e1,e2,e3,e0,e4,e5,e6⟩
      ·exact .inl h3
      ·exact .inr ⟨a,xs,ds,e1,e2,e3,e4,(show H a≠none by rw [e3]; exact fun z=>nomatch z),e6⟩
 ·exfalso
  unfold cMd at h1
  by_cases hi:i < own.length
  ·rw [zB (by simpa using hi),List.getElem?_replicate_of_lt hi] at h1;cases h1
  ·have hi':own.length≤i:=Nat.le_of_not_lt hi;rw [zD (by simpa using hi'),List.length_replicate,zG] at h1
   cases q:cap[i - own.length]? with
   | none=>rw [q] at h1; cases h1
   | some j =>
    rw [q] at h1;simp only [Option.map_some,Option.some.injEq] at h1
    split at h1 <;> cases h1
end
section
variable {X:Cx}{md:List Md}{P:Pt}{R:RR}
def xM (K:Frag) (mg:Str→Option Value) (md:List Md) (R:RR) (m:M D):TE:=fun σ H Q=>∃P,tM K mg md P R m σ H Q
def xMT (K:Frag) (mg:Str→Option Value) (md:List Md) (m:M Bool):TT:=fun σ H Q=>∃P,tMT K mg md P m σ H Q
def xMG (K:Frag) (mg:Str→Option Value) (md:List Md) (g:MG):TG:=fun v σ H Q=>∃P,tMG K mg md P g v σ H Q
theorem xm {e:Expr}{m:M D} (h:∀P,PE X e (tM X.K X.mg md P R m)):PE X e (xM X.K X.mg md R m):=fun pins s σ H Q I ⟨P,q⟩=>h P pins s σ H Q I q
theorem xmg {e:Expr}{g:MG} (h:∀P,VG X md P e g):PG X e (xMG X.K X.mg md g):=fun pins s σ H v u Q I r ⟨P,q⟩=>h P pins s σ H v u Q I r q
theorem xmt {e:List Expr}{m:M Bool} (h:∀P,Qju X e (tMT X.K X.mg md P m)):Qju X e (xMT X.K X.mg md m):=fun pins s σ H Q I ⟨P,q⟩=>h P pins s σ H Q I q
def VIf (X:Cx) (md:List Md) (P:Pt) (e:List Expr) (m:M Bool):Prop:=Qju X e (tMT X.K X.mg md P m)
theorem QlX:VIf X md P [] Qjj:=fun pins s σ H Q I q=>by
 obtain ⟨ρ,O,F,as,d,O',r,s,e,k⟩:=q;cases e;exact Qpq pins _ σ H Q I (k H F as Gr.refl r)
theorem QrP {K:Frag}{mg:Str→Option Value}{m:M (List D)}{own:List Str}{cap:List Nat}{g:MG}{t:M Bool}{e:M D} (hcap:∀j∈cap,j < md.length) {σ:St}{H:Hp}{Q:VK} (q:tM K mg md P (rO K) (QhK m own.length cap g t e) σ H Q) :
  Qq3 (Qtm K mg md P m) own cap (xMG K mg (cMd own.length cap md) g) (xMT K mg (cMd own.length cap md) t) (xM K mg (cMd own.length cap md) (rV K) e) σ H Q:=by
 obtain ⟨ρ,O,F,as,d,OZ,r,s,eq,k⟩:=q;obtain ⟨ds,O1,e1,eq⟩:=Res.bind_ok eq;split at eq
 ·rename_i hz;obtain ⟨yf,O2,e2,eq⟩:=Res.bind_ok eq;cases eq;refine ⟨ρ,_,F,as,_,_,r,s,e1,fun J H1 F1 as1 g1 r1 hJ=>?_⟩;have sb:=Qnc (own:=own) (s.step g1) hcap
  refine ⟨fun i n ys σ' H'=>n=ds.length - i∧i≤ds.length∧∃ρ' O' F' as' acc,Gr H1 F1 as1 H' F' as'∧RlO K mg O' H' F' as'∧SlO K (cMd own.length cap md) (Pt.all H1) ρ' σ' H' F' as'∧Rps K F' as' ys acc∧acc.length≤i ∧
   Qc7 g t e (ds.drop i) ρ' O' acc = .ok yf OZ,⟨ds.length,by simp,Nat.zero_le _,Qhg own.length cap ρ,O1,F1,as1,[],Gr.refl,r1,sb,Rps.nil,zc _,by rw [List.drop_zero]; exact e2⟩,?_⟩
  rintro i n ys σ' H' ⟨rfl,hi,ρ',O',F',as',acc,g',r',s',hy,hl,ec⟩
  by_cases hlt:i < ds.length
  ·obtain ⟨go,yl⟩:=hJ.turn i _ H' F' as' g' ⟨O',r'⟩ (zJ hlt)
   refine .inr ⟨go,?_,fun ys σ2 H2=>∃ρ2 O3 F2 as2 acc2,Gr H1 F1 as1 H2 F2 as2∧RlO K mg O3 H2 F2 as2∧SlO K (cMd own.length cap md) (Pt.all H1) ρ2 σ2 H2 F2 as2∧Rps K F2 as2 ys acc2∧acc2.length≤i+1 ∧
    Qc7 g t e (ds.drop (i+1)) ρ2 O3 acc2 = .ok yf OZ,fun ys2 σ2 H2 h2=>⟨ds.length - (i+1),by omega,rfl,hlt,h2⟩,fun x H3 y=>?_⟩
   ·rw [hy.length]
    have:=Qdu hz
    omega
   obtain ⟨F3,g3,r3,hx⟩:=yl x H3 y;have r3':=r3 O' r';have g13:=g'.trans g3;rw [List.drop_eq_getElem_cons hlt] at ec;unfold Qc7 at ec
   cases eg:g ds[i] ρ' with
   | none=>rw [eg] at ec; cases ec
   | some ρ1 =>
    rw [eg] at ec;dsimp only at ec;refine ⟨_,ρ',O',F3,as',ds[i],ρ1,r3',s'.step g3,hx,eg,fun σ4 s4=>?_⟩
    cases et:t ρ1 O' with
    | ex _ _=>rw [et] at ec; cases ec
    | no=>rw [et] at ec; cases ec
    | ok c O4 =>
     rw [et] at ec;refine ⟨_,ρ1,O',F3,as',c,O4,r3',s4,et,fun H5 F5 as5 g5 r5=>?_⟩
     cases c with
     | false =>
      rw [if_neg zf];exact ⟨ρ1,O4,F5,as5,acc,g13.trans g5,r5,s4.step g5,(hy.gr g3).gr g5,by omega,ec⟩
     | true =>
      rw [if_pos rfl];dsimp only at ec
      cases em:e ρ1 O4 with
      | ex _ _=>rw [em] at ec; cases ec
      | no=>rw [em] at ec; cases ec
      | ok yd O6 =>
       rw [em] at ec;refine ⟨_,ρ1,O4,F5,as5,yd,O6,r5,s4.step g5,em,fun vy H7 F7 as7 g7 r7 hvy=>?_⟩;exact ⟨ρ1,O6,F7,as7,acc ++ [yd],(g13.trans g5).trans g7,r7,(s4.step g5).step g7,(((hy.gr g3).gr g5).gr g7).snoc hvy,by rw [zr]; show acc.length+1≤i+1; omega,ec⟩
  ·have hi':i=ds.length:=by omega
   subst hi';rw [List.drop_length] at ec;cases ec;refine .inl ⟨hJ.stop H' F' as' g' ⟨_,r'⟩,?_,fun p hp=>?_⟩
   ·rw [hy.length];exact zu hl (Qdu hz)
   ·have hF:F' p=none:=by
     cases q:F' p with
     | none=>rfl
     | some o=>rw [r'.fh p o q] at hp; cases hp
    exact k _ _ F' as' ((g1.trans g').trans (Gr.lay hp)) (r'.lay hp) (.inr ⟨p,ys,yf,rfl,rfl,QaC,hF,fun z=>r'.all z hp,(g1.trans g').dm p hp,hy⟩)
 ·cases eq
variable {tg iter elt:Expr}{ifs:List Expr}{scope:Scope}{pos:Pos}{mi:M (List D)}{g:MG}{t:M Bool}{e:M D}
theorem Qmi (sc0:Scope) (N0 own:List Str) (cap:List Nat) (hc:X.calm=true) (hi:VIc X md P tg iter mi)
  (hg:∀C s H ex P,VG (Qbh X scope C (Qbk N0 own cap) s H ex) (cMd own.length cap md) P tg g) (ht:∀C s H ex P,VIf (Qbh X scope C (Qbk N0 own cap) s H ex) (cMd own.length cap md) P ifs t)
  (he:∀C s H ex P,VE (Qbh X scope C (Qbk N0 own cap) s H ex) (cMd own.length cap md) P elt e)
  (hcap:∀j∈cap,j < md.length:=by decide) (hsc:X.env.scope=sc0:=by rfl) (hN0:X.N=N0:=by rfl) (ok:QiI sc0 N0 scope own cap=true:=by decide +kernel) (hs:∀x,foldedSetIterable iter X.env x=pure x:=by intro _; rfl) :
  OE X md P (.ListComp elt [⟨tg,iter,ifs,0⟩] scope pos) (QhK mi own.length cap g t e) :=
 (Qsq sc0 N0 own cap hc hi (fun C s H ex=>xmg (hg C s H ex)) (fun C s H ex=>xmt (ht C s H ex)) (fun C s H ex=>xm (he C s H ex)) hsc hN0 ok hs).imp fun _ _ _ q=>QrP hcap q
end
def vSp (K:Frag) (mg:Str→Option Value) (pm:List Md) (R:RR) (c:List D→Qac→Res D):Sp:=fun vs H Q _ =>
 ∃ds O F as d O',RlO K mg O H F as∧Qby K H F as pm vs ds∧c ds O = .ok d O'∧∀v H' F' as',Gr H F as H' F' as'→RlO K mg O' H' F' as'→R (fun a=>H a=none) H' F' as' v d→Q v H'
def Qa9 (n:Nat) (b:MS):List D→Qac→Res D:=fun ds O=>match b (ds.map some++List.replicate (n - ds.length) none) O with
 | .rt d O'=>.ok d O'
 | .nx _ O'=>.ok .non O'
 | .ex x O'=>.ex x O'
 | _=>.no
theorem Qby.len {K:Frag}{H F:Hp}{as:List Addr}:∀{ms:List Md}{vs:List V}{ds:List D},Qby K H F as ms vs ds→vs.length=ms.length∧ds.length=ms.length
 | [],[],[],_=>⟨rfl,rfl⟩
 | m::ms,v::vs,d::ds,h=>by
  have:=Qby.len h.2
  simp [this.1,this.2]
 | [],[],_::_,h=>h.elim
 | [],_::_,[],h=>h.elim
 | [],_::_,_::_,h=>h.elim
 | _::_,[],[],h=>h.elim
 | _::_,[],_::_,h=>h.elim
 | _::_,_::_,[],h=>h.elim
theorem Qby.get {K:Frag}{H F:Hp}{as:List Addr}:∀{ms:List Md}{vs:List V}{ds:List D}{i:Nat}{m:Md}{d:D},Qby K H F as ms vs ds→ms[i]? = some m→ds[i]? = some d→∃v,vs[i]? = some v∧rA K m (fun _=>True) H F as v d
 | m::ms,v::vs,d::ds,0,m',d',h,e1,e2=>by
  simp at e1 e2
  subst e1 e2;exact ⟨v,rfl,h.1⟩
 | m::ms,v::vs,d::ds,i+1,m',d',h,e1,e2=>by
  obtain ⟨v',h1,h2⟩:=Qby.get (i:=i) (m:=m') (d:=d') h.2 (by simpa using e1) (by simpa using e2);exact ⟨v',by simpa using h1,h2⟩
 | [],[],[],_,_,_,_,e1,_=>by simp at e1
 | [],[],_::_,_,_,_,h,_,_=>h.elim
 | [],_::_,[],_,_,_,h,_,_=>h.elim
 | [],_::_,_::_,_,_,_,h,_,_=>h.elim
 | _::_,[],[],_,_,_,h,_,_=>h.elim
 | _::_,[],_::_,_,_,_,h,_,_=>h.elim
 | _::_,_::_,[],_,_,_,h,_,_=>h.elim
theorem Qeb {K:Frag}{H F:Hp}{as:List Addr}{N:List Str}{pm lm:List Md}{vs:List V}{ds:List D} (h:Qby K H F as pm vs ds) (hl:(pm++lm).length=N.length) (hp:∀m∈pm,m≠.o) :
  SlO K (pm++lm) (Pt.all H) (ds.map some++List.replicate (N.length - ds.length) none) (start N vs) H F as:=by
 obtain ⟨h1,h2⟩:=h.len;rw [zr] at hl
 have vsl:vs.length≤N.length:=by omega
 have no:∀i a,(ds.map some++List.replicate (N.length - ds.length) none)[i]? = some (some a)→i < ds.length:=fun i a e=>by
  by_cases hi:i < ds.length
  ·exact hi
  ·rw [zD (by simpa using hi),List.getElem?_replicate] at e
   split at e <;> cases e
 refine ⟨by unfold start; simp; omega,by simp; omega,fun a z=>z,fun i m d e1 e2=>?_,fun i j a es fs e1 e2 e3=>?_,fun _ z=>nomatch z⟩
 ·have hi:=no i d e2;rw [zB (by simpa using hi),zG] at e2;rw [zB (by omega)] at e1
  cases q:ds[i]? with
  | none=>rw [q] at e2; cases e2
  | some d' =>
   rw [q] at e2;cases e2;obtain ⟨v,h3,h4⟩:=h.get e1 q;refine ⟨v,?_,?_⟩
   ·unfold start;rw [zB (by simp; omega),zG,h3];rfl
   ·cases m with
    | v=>exact h4
    | s =>
     rcases h4 with h4 | ⟨a,xs,es,z1,z2,z3,z4,z5⟩
     ·exact .inl h4
     ·exact .inr ⟨a,xs,es,z1,z2,z3,z4,(show H a≠none by rw [z3]; exact fun z=>nomatch z),z5⟩
    | o=>exact absurd rfl (hp .o (zO e1))
 ·have hi:=no i _ e3;rw [zB (by omega)] at e1;exact absurd rfl (hp .o (zO e1))
section
variable {Pr:Program}{w:World}{K:Frag}{mg:Str→Option Value}{base:Heap}
theorem Qcv {x:Str}{st:Stmt}{N ps:List Str}{k:Nat} (Df:Def K mg x st) (S:QaI N ps (Qah st))
  (hb:∀(kV doc pm:Value) (an:Option Addr) (cdv ct:Value) (us:List Value),us.length=ps.length→bindArgs (PySem.W.fnOf x x (Qbv st) (QaW st) (Qah st) .none kV doc pm an cdv ct) ⟨us,[]⟩=pure (ps.zip us))
  (pm lm:List Md) {R:RR}{b:MS} (hR:Qb8 R) (hR0:∀N H F as,R N H F as .non .non) (hpl:pm.length=ps.length:=by rfl) (hl:(pm++lm).length=N.length:=by rfl) (hp:∀m∈pm,m≠.o:=by decide)
  (body:∀(f:Addr) (cdv:Value) (A:Around) (outer:List Env) (s:Shared) (H:Hp) (E:XK),QaK k (A.deeper (envOfC x (Qah st) s.heap.objs.size f cdv))→∀P,VSs ((Qb1 CX0 Pr w K mg base N x (Qah st) f cdv A outer s H E).nox) (pm++lm) P R (QaW st) b) :
  Can Pr w K mg base x ps (k+1) (vSp K mg pm R (Qa9 N.length b)):=by
 refine Df.can (k:=k) S hb (fun vs H Q E h=>?_) (fun f cdv A outer s H vs Q E hr h=>?_)
 ·obtain ⟨ds,O,F,as,d,O',r,a,_⟩:=h;rw [a.len.1,hpl]
 ·obtain ⟨ds,O,F,as,d,O',r,a,e,q⟩:=h;refine ⟨_,body f cdv A outer s H E hr (Pt.all H),?_⟩;refine ⟨_,O,F,as,r,Qeb a hl hp,?_⟩;unfold Qa9 at e
  cases eb:b (ds.map some++List.replicate (N.length - ds.length) none) O with
  | rt d' O2 =>
   rw [eb] at e;cases e
   exact fun v H' F' as' g r' hv=>q v H' F' as' g.gr r' (hR _ _ _ _ _ _ _ (fun c hc=>jk.mp hc) hv)
  | nx ρ O2 =>
   rw [eb] at e;cases e
   exact fun σ' H' F' as' g r' _=>q _ H' F' as' g.gr r' (hR0 _ _ _ _)
  | bk _ _=>rw [eb] at e; cases e
  | ct _ _=>rw [eb] at e; cases e
  | ex _ _=>rw [eb] at e; cases e
  | no=>rw [eb] at e; cases e
end
section
variable {X:Cx}{md:List Md}{P:Pt}{R:RR}{k:Nat}{x:Str}{ps:List Str}{p pos:Pos}{e:Expr}{es:List Expr}{pm:List Md}{c:List D→Qac→Res D}{ma:M (List D)}
def QaB (c:List D→Qac→Res D) (ma:M (List D)):M D:=fun ρ O=>(ma ρ O).bind fun ds O1=>c ds O1
theorem Ql1 {K:Frag}{mg:Str→Option Value} (hR:Qb8 R) {E:XK}{σ:St}{H:Hp}{Q:VK} (q:tM K mg md P R (QaB c ma) σ H Q):Qkq (vSp K mg pm R c) [] E (tMA K mg md P pm ma) σ H Q:=by
 obtain ⟨ρ,O,F,as,d,O',r,s,e,k⟩:=q;obtain ⟨ds,O1,e1,e⟩:=Res.bind_ok e;refine ⟨ρ,_,F,as,_,_,r,s,e1,fun vs H1 F1 as1 g1 r1 hv=>?_⟩;dsimp only;rw [zC];exact ⟨ds,O1,F1,as1,d,O',r1,hv,e,fun v H' F' as' g' r' hw=>k v H' F' as' (g1.trans g') r' (hR _ _ _ _ _ _ _ (fun a ha=>g1.dm a ha) hw)⟩
theorem Qmp (hR:Qb8 R) (C:Can X.prog X.w X.K X.mg X.base x ps k (vSp X.K X.mg pm R c)) (hr:QaK k X.A) (ha:AE X md P pm (e::es) ma) (hg:Gl X x:=by rfl) (hdb:(x == ("__debug__":Str))=false:=by decide)
  (he:starEach (e::es) X.env=(false,eval e X.env)::starEach es X.env:=by exact Qa3 rfl) (hpl:(backTo pos (starEach es X.env)).any (·.1)=false:=by exact Qa5 rfl):PE X (.Call (.Name x p) (e::es) [] pos) (tM X.K X.mg md P R (QaB c ma)) :=
 (QsS C hr ha hg hdb he hpl).imp fun _ _ _ q=>Ql1 hR q
end
section
variable {K:Frag}{mg:Str→Option Value}{H F:Hp}{as:List Addr}{O:Qac}{Q:VK}{d:D}{p:Addr}{xs:List V}{ds:List D}
theorem Qbg {v:V} (r:RlO K mg O H F as) (k:∀v' H' F',Gr H F as H' F' as→RlO K mg O H' F' as→Ow K (fun a=>H a=none) H' F' as v' d→Q v' H') (hn:Qd7 d=true) (hv:Rp K F as v d):Q v H:=k v H F Gr.refl r (.inl ⟨hn,hv⟩)
theorem RlO.frF (r:RlO K mg O H F as) (hp:H p=none):F p=none:=by
 cases q:F p with
 | none=>rfl
 | some o=>rw [r.fh p o q] at hp; cases hp
theorem QmP (r:RlO K mg O H F as) (k:∀v' H' F',Gr H F as H' F' as→RlO K mg O H' F' as→Ow K (fun a=>H a=none) H' F' as v' (.lst ds)→Q v' H') (hp:H p=none) (hs:Rps K F as xs ds):Q (.ref p) (upd H p (.lst xs)) :=
 k _ _ F (Gr.lay hp) (r.lay hp) (.inr ⟨p,xs,ds,rfl,rfl,QaC,r.frF hp,fun z=>r.all z hp,hp,hs⟩)
theorem QqZ (r:RlO K mg O H F as) (k:∀v' H' F',Gr H F as H' F' as→RlO K mg O H' F' as→Ow K (fun a=>H a=none) H' F' as v' (.tup ds)→Q v' H') (hp:H p=none) (hs:Rps K F as xs ds):Q (.ref p) (upd H p (.tup xs)):=by
 have hF:=r.frF hp
 have ff:Same F (upd F p (.tup xs)):=fun b u q=>by rw [Qaj (Qau q hF)]; exact q
 exact k _ _ (upd F p (.tup xs)) ((Gr.lay hp).frz hp hF) ((r.lay hp).frz QaC hF (fun z=>r.all z hp) rfl) (.inl ⟨rfl,Rp.mkT (.inl QaC) (Rps.mono ff (fun _ _ z=>z) _ hs)⟩)
end
section
variable {X:Cx}
def Qu8 (K:Frag):R2:=fun x y H Q=>∃l b xs zs,x = .ref l∧y = .ref b∧RdK K H l xs∧RdK K H b zs∧xs.length+zs.length≤sizeLine∧∀p,H p=none→Q (.ref p) (upd H p (.lst (xs++zs)))
theorem Qsi:OpR X (binaryOp .Add) (Qu8 X.K):=by
 intro pins s σ H x y v u Q I rx ry h;obtain ⟨l,b,xs,zs,rfl,rfl,hH,hB,hz,q⟩:=h;cases rx;cases ry;obtain ⟨z,its,n,r,e⟩:=hH.ok I;obtain ⟨z2,its2,n2,r2,e2⟩:=hB.ok I;have hl:=r.length;have hl2:=r2.length;refine PySem.P.add_list e e2 ?_ (by rw [zo,zo]; omega)
 have ea:its.toArray++its2.toArray=(its++its2).toArray:=by simp
 rw [ea];exact ⟨.ref _,_,I.lnew (t':=s.toks) (r.append r2) (by rw [zr]; omega),rfl,q _ I.fresh⟩
def Qvs (K:Frag):R2:=fun x y H Q=>∃l k xs,x = .ref l∧y = .int k∧RdK K H l xs∧-(2 ^ 63)≤k∧k < 2 ^ 63∧xs.length * k.toNat≤sizeLine ∧
 ∀p,H p=none→Q (.ref p) (upd H p (.lst (List.replicate k.toNat xs).flatten))
theorem Qsc:OpR X (binaryOp .Mult) (Qvs X.K):=by
 intro pins s σ H x y v u Q I rx ry h;obtain ⟨l,k,xs,rfl,rfl,hH,h1,h2,hz,q⟩:=h;cases rx;obtain ⟨t,rfl⟩:=ry;obtain ⟨z,its,n,r,e⟩:=hH.ok I;have hl:=r.length
 have hlen:its.toArray.size * k.toNat≤sizeLine:=by rw [zo,←hl]; exact hz
 have hcap:¬its.toArray.size * k.toNat > (2 ^ 63 - 1) / 8:=by
  have:(sizeLine:Nat)≤(2 ^ 63 - 1) / 8:=by decide
  omega
 have hfit:¬(!Builtin.List.listFitsIndex k)=true:=by
  rw [fitsIndex_both h1 h2];exact zf
 have hlong:¬Builtin.List.listTooLong (its.toArray.size * k.toNat)=true:=by
  rw [QgD hlen];exact zf
 have hnew:List.foldl (fun x1 x2=>x1++x2) #[] (List.replicate (if its.toArray.isEmpty=true then 0 else k.toNat) its.toArray)=(List.replicate k.toNat its).flatten.toArray:=by
  have f0:∀m:Nat,List.foldl (fun x1 x2=>x1++x2) #[] (List.replicate m its.toArray)=(List.replicate m its).flatten.toArray:=fun m=>by
   have:=foldl_rep its m []
   rw [zY] at this;exact this
  rw [f0]
  cases its with
  | nil=>simp
  | cons a r'=>rw [if_neg (by simp)]
 refine wpAny_binaryOp_repeat_ref (T:="list") (U:="int") (by decide) ⟨_,e,rfl⟩ (fun s'=>typeIs_int s' k t) noFill_list_mul F.fills_int_mul F.slot_int_rmul repeat_list F.slot_int_index.lookup
  (call_meets F.slot_int_rmul (typeIs_int s k t) F.entry_int_rmul (F.args_int_rmul_2 _ _) (int___rmul___int_list k t l its.toArray n)
   ⟨e,rfl,⟨_,e,rfl⟩,call_meets F.slot_list_mul ⟨_,e,rfl⟩ F.entry_list_mul (F.args_list_mul_2 _ _) (AutoListH.list___mul___list_int_3 l its.toArray n k t hfit hcap hlong) ⟨e,?_⟩⟩)
 rw [hnew];exact ⟨.ref _,_,I.lnew (t':=s.toks) (r.rep k.toNat) (by rw [len_rep,Nat.mul_comm]; exact hz),rfl,q _ I.fresh⟩
def Qas:D→D→Option D
 | .int i,.int j=>some (.int (i+j))
 | .int i,.bl k=>some (.int (i+b2i k))
 | .str a,.str b=>if a.length+b.length≤1000000 then some (.str (a++b)) else none
 | .lst a,.lst b=>if a.length+b.length≤1000000 then some (.lst (a++b)) else none
 | .tup a,.tup b=>if a.length+b.length≤1000000∧a≠[] then some (.tup (a++b)) else none
 | _,_=>none
instance (a:List D):Decidable (a≠[]):=match a with
 | []=>isFalse fun h=>h rfl
 | _::_=>isTrue fun h=>nomatch h
theorem QaR:OpD X (binaryOp .Add) Qas:=by
 intro pins s σ H x y v u Q I rx ry h;obtain ⟨O,F,as,dx,dy,d,r,hx,hy,e,k⟩:=h
 cases dx with
 | int i =>
  cases (hx.rp rfl).unI
  cases dy with
  | int j =>
   cases (hy.rp rfl).unI;cases e;exact Qt9 pins s σ H _ _ v u Q I rx ry ⟨i,j,rfl,rfl,Qbg r k rfl Rp.int⟩
  | bl j =>
   cases (hy.rp rfl).unB;cases e;exact QoW pins s σ H _ _ v u Q I rx ry ⟨i,j,rfl,rfl,Qbg r k rfl Rp.int⟩
  | _=>cases e
 | str a =>
  cases (hx.rp rfl).unS
  cases dy with
  | str b =>
   cases (hy.rp rfl).unS;simp only [Qas] at e;split at e
   ·rename_i hz;cases e;refine Qnb pins s σ H _ _ v u Q I rx ry ⟨S a,S b,rfl,rfl,by rw [Qbm,Qbm]; exact Qdu hz,?_⟩;rw [Qqa];exact Qbg r k rfl Rp.str
   ·cases e
  | _=>cases e
 | lst a =>
  obtain ⟨p,xs,rfl,h1,h2⟩:=hx.list r.fh
  cases dy with
  | lst b =>
   obtain ⟨p',ys,rfl,h3,h4⟩:=hy.list r.fh;simp only [Qas] at e;split at e
   ·rename_i hz;cases e;exact Qsi pins s σ H _ _ v u Q I rx ry ⟨p,p',xs,ys,rfl,rfl,h1,h3,by rw [h2.length,h4.length]; exact Qdu hz,fun q hq=>QmP r k hq (Rps.append h4 h2)⟩
   ·cases e
  | _=>cases e
 | tup a =>
  obtain ⟨p,xs,rfl,h1,h2⟩:=(hx.rp rfl).unT
  cases dy with
  | tup b =>
   obtain ⟨p',ys,rfl,h3,h4⟩:=(hy.rp rfl).unT;simp only [Qas] at e;split at e
   ·rename_i hz;cases e
    have hxs:xs≠[]:=fun z=>hz.2 (List.eq_nil_of_length_eq_zero (by rw [←h2.length,z]; rfl))
    refine Qr2 pins s σ H _ _ v u Q I rx ry ⟨p,p',xs,ys,rfl,rfl,Same.seqT r.fh h1,Same.seqT r.fh h3,hxs,by rw [h2.length,h4.length]; exact Qdu hz.1,fun z=>?_,fun _ q hq=>QqZ r k hq (Rps.append h4 h2)⟩;have hb:b = []:=List.eq_nil_of_length_eq_zero (by rw [←h4.length,z]; rfl);subst hb;rw [zC] at k;exact Qbg r k rfl (hx.rp rfl)
   ·cases e
  | _=>cases e
 | _=>cases e
def gI (C:Int→Int→Bool) (f:Int→Int→Int):D→D→Option D
 | .int i,.int j=>if C i j=true then some (.int (f i j)) else none
 | _,_=>none
theorem Qp7 {f:Value→Value→Sem Value}{Cp:Int→Int→Prop}{g:Int→Int→Int}{C:Int→Int→Bool} (h:OpR X f (rI Cp fun i j=>.int (g i j))) (hc:∀i j,C i j=true→Cp i j):OpD X f (gI C g):=by
 intro pins s σ H x y v u Q I rx ry h';obtain ⟨O,F,as,dx,dy,d,r,hx,hy,e,k⟩:=h'
 cases dx with
 | int i =>
  cases (hx.rp rfl).unI
  cases dy with
  | int j =>
   cases (hy.rp rfl).unI;simp only [gI] at e;split at e
   ·rename_i hC;cases e;exact h pins s σ H _ _ v u Q I rx ry ⟨i,j,rfl,rfl,hc i j hC,Qbg r k rfl Rp.int⟩
   ·cases e
  | _=>cases e
 | _=>cases e
def Qfk:D→D→Option D:=gI (fun _ _=>true) fun i j=>i - j
theorem Qk6:OpD X (binaryOp .Sub) Qfk:=by
 intro pins s σ H x y v u Q I rx ry h';obtain ⟨O,F,as,dx,dy,d,r,hx,hy,e,k⟩:=h'
 cases dx with
 | int i =>
  cases (hx.rp rfl).unI
  cases dy with
  | int j =>
   cases (hy.rp rfl).unI;cases e;exact Qux pins s σ H _ _ v u Q I rx ry ⟨i,j,rfl,rfl,Qbg r k rfl Rp.int⟩
  | _=>cases e
 | _=>cases e
def Qfe (i:Int):Bool:=decide (-(2 ^ 64) < i)&&decide (i < 2 ^ 64)
theorem QfR {i:Int} (h:Qfe i=true):-(2 ^ 64) < i∧i < 2 ^ 64:=by
 unfold Qfe at h;rw [zj,decide_eq_true_eq,decide_eq_true_eq] at h;exact h
def Qfs:D→D→Option D
 | .int i,.int j=>if (Qfe i || Qfe j)=true then some (.int (i * j)) else none
 | .str l,.int n=>if -1000000 < n∧n < 1000000∧l.length * n.toNat≤16777216 then some (.str (List.replicate n.toNat l).flatten) else none
 | .lst l,.int n=>if -1000000 < n∧n < 1000000∧l.length * n.toNat≤1000000 then some (.lst (List.replicate n.toNat l).flatten) else none
 | _,_=>none
theorem Qos:OpD X (binaryOp .Mult) Qfs:=by
 intro pins s σ H x y v u Q I rx ry h;obtain ⟨O,F,as,dx,dy,d,r,hx,hy,e,k⟩:=h
 cases dx with
 | int i =>
  cases (hx.rp rfl).unI
  cases dy with
  | int j =>
   cases (hy.rp rfl).unI;simp only [Qfs] at e;split at e
   ·rename_i hz;cases e;refine QsZ pins s σ H _ _ v u Q I rx ry ⟨i,j,rfl,rfl,?_,Qbg r k rfl Rp.int⟩;rw [Bool.or_eq_true] at hz
    rcases hz with z | z
    ·exact .inl (QfR z)
    ·exact .inr (QfR z)
   ·cases e
  | _=>cases e
 | str l =>
  cases (hx.rp rfl).unS
  cases dy with
  | int n =>
   cases (hy.rp rfl).unI;simp only [Qfs] at e;split at e
   ·rename_i hz;cases e;exact Qm4 pins s σ H _ _ v u Q I rx ry ⟨l,n,rfl,rfl,hz.1,hz.2.1,hz.2.2,Qbg r k rfl Rp.str⟩
   ·cases e
  | _=>cases e
 | lst l =>
  obtain ⟨p,xs,rfl,h1,h2⟩:=hx.list r.fh
  cases dy with
  | int n =>
   cases (hy.rp rfl).unI;simp only [Qfs] at e;split at e
   ·rename_i hz;cases e;exact Qsc pins s σ H _ _ v u Q I rx ry ⟨p,n,xs,rfl,rfl,h1,by omega,by omega,by rw [h2.length]; exact Qdu hz.2.2,fun q hq=>QmP r k hq (h2.rep _)⟩
   ·cases e
  | _=>cases e
 | _=>cases e
def QbE:D→D→Option D:=gI (fun _ j=>decide (0 < j)) fun i j=>i % j
theorem QcF:OpD X (binaryOp .Mod) QbE:=Qp7 QsU fun _ _ h=>jf h
def Qcy:D→D→Option D:=gI (fun _ j=>decide (0 < j)&&decide (j < 1073741824)) fun i j=>i / j
theorem QhI:OpD X (binaryOp .FloorDiv) Qcy:=Qp7 QrZ fun i j h=>by
 rw [zj,decide_eq_true_eq,decide_eq_true_eq] at h;exact h
def QfS:D→D→Option D:=gI (fun i j=>decide (0≤j)&&(decide (j≤1000000)&&Qfe i)) fun i j=>i ^ j.toNat
theorem Qlg:OpD X (binaryOp .Pow) QfS:=Qp7 Quz fun i j h=>by
 rw [zj,zj,decide_eq_true_eq,decide_eq_true_eq] at h
 have:=QfR h.2.2
 exact ⟨h.1,h.2.1,by omega⟩
def mUn (g:D→Option D) (m:M D):M D:=fun ρ O=>(m ρ O).bind fun d O1=>match g (QaX O1 d) with
 | some y=>.ok y O1
 | none=>.no
def Qnj:D→Option D
 | .int i=>some (.int (-i))
 | _=>none
theorem QtT {md:List Md}{P:Pt}{a:Expr}{pos:Pos}{m:M D} (h:SE X md P a m):OE X md P (.UnaryOp .USub a pos) (mUn Qnj m):=(QvD QtR h).imp fun σ H Q q=>by
 obtain ⟨ρ,O,F,as,d,O',r,s,e,k⟩:=q;obtain ⟨x,O1,e1,e⟩:=Res.bind_ok e;refine ⟨ρ,_,F,as,_,_,r,s,e1,fun v H1 F1 as1 g1 r1 hv=>?_⟩
 cases ed:QaX O1 x with
 | int i =>
  rw [ed] at e;cases e
  have:=Sv.lk hv r1
  rw [ed] at this;exact ⟨i,(this.rp rfl).unI,k _ H1 F1 as1 g1 r1 (.inl ⟨rfl,Rp.int⟩)⟩
 | _=>rw [ed] at e; cases e
def gCI (f:Int→Int→Bool):D→D→Option D
 | .int i,.int j=>some (.bl (f i j))
 | _,_=>none
theorem QqF {f:Value→Value→Sem Value}{g:Int→Int→Bool} (h:OpR X f (rI0 fun i j=>.bl (g i j))):OpD X f (gCI g):=by
 intro pins s σ H x y v u Q I rx ry h';obtain ⟨O,F,as,dx,dy,d,r,hx,hy,e,k⟩:=h'
 cases dx with
 | int i =>
  cases (hx.rp rfl).unI
  cases dy with
  | int j =>
   cases (hy.rp rfl).unI;cases e;exact h pins s σ H _ _ v u Q I rx ry ⟨i,j,rfl,rfl,Qbg r k rfl Rp.bl⟩
  | _=>cases e
 | _=>cases e
def gLt:D→D→Option D:=gCI fun i j=>decide (i < j)
def gGt:D→D→Option D:=gCI fun i j=>decide (j < i)
def gGe:D→D→Option D:=gCI fun i j=>decide (j≤i)
def gLe:D→D→Option D
 | .int i,.int j=>some (.bl (decide (i≤j)))
 | .str a,.str b=>some (.bl (!decide (b < a)))
 | _,_=>none
theorem QqN:OpD X (compareOp .LtE) gLe:=by
 intro pins s σ H x y v u Q I rx ry h';obtain ⟨O,F,as,dx,dy,d,r,hx,hy,e,k⟩:=h'
 cases dx with
 | int i =>
  cases (hx.rp rfl).unI
  cases dy with
  | int j =>
   cases (hy.rp rfl).unI;cases e;exact Qu7 pins s σ H _ _ v u Q I rx ry ⟨i,j,rfl,rfl,Qbg r k rfl Rp.bl⟩
  | _=>cases e
 | str a =>
  cases (hx.rp rfl).unS
  cases dy with
  | str b =>
   cases (hy.rp rfl).unS;cases e;refine Qow pins s σ H _ _ v u Q I rx ry ⟨S a,S b,rfl,rfl,?_⟩;rw [Qea,Qea];exact Qbg r k rfl Rp.bl
  | _=>cases e
 | _=>cases e
theorem QqQ:OpD X (compareOp .Lt) gLt:=QqF QuZ
theorem QqP:OpD X (compareOp .Gt) gGt:=QqF Qvp
mutual
def toP:D→PyData
 | .non=>.none
 | .bl b=>.bool b
 | .int i=>.int i
 | .str l=>.str (S l)
 | .lst ds=>.list (Qjs ds)
 | .tup ds=>.tuple (Qjs ds)
 | .dic _ _=>.none
 | .ob _=>.none
def Qjs:List D→List PyData
 | []=>[]
 | d::ds=>toP d::Qjs ds
end
mutual
def QdJ:D→Bool
 | .lst ds=>Qgo ds
 | .tup ds=>Qgo ds
 | .dic _ _=>false
 | .ob _=>false
 | _=>true
def Qgo:List D→Bool
 | []=>true
 | d::ds=>QdJ d&&Qgo ds
end
section
variable {K:Frag}{F:Hp}{as:List Addr}
mutual
theorem Rp.rep:∀(d:D) {v:V},QdJ d=true→Rp K F as v d→Rep K F v (toP d)
 | .non,v,_,h=>by rw [toP,Rep]; exact h.unN
 | .bl b,v,_,h=>by rw [toP,Rep]; exact h.unB
 | .int i,v,_,h=>by rw [toP,Rep]; exact h.unI
 | .str x,v,_,h=>by rw [toP,Rep]; exact h.unS
 | .lst ds,v,hp,h=>by
  obtain ⟨a,xs,h1,h2,h3⟩:=h.unL;rw [toP,Rep];rw [QdJ] at hp;exact ⟨a,xs,h1,h2.sq,Rps.rep' ds hp h3⟩
 | .tup ds,v,hp,h=>by
  obtain ⟨a,xs,h1,h2,h3⟩:=h.unT;rw [toP,Rep];rw [QdJ] at hp;exact ⟨a,xs,h1,h2,Rps.rep' ds hp h3⟩
 | .dic _ _,v,hp,h=>by rw [QdJ] at hp; cases hp
 | .ob _,v,hp,h=>by rw [QdJ] at hp; cases hp
theorem Rps.rep':∀(ds:List D) {xs:List V},Qgo ds=true→Rps K F as xs ds→QaE K F xs (Qjs ds)
 | [],xs,_,h=>by rw [h.un0,Qjs]; exact QaE.nil
 | d::ds,xs,hp,h=>by
  obtain ⟨x,r,rfl,h2,h3⟩:=h.un;rw [Qgo,zj] at hp;rw [Qjs];exact QaE.cons (Rp.rep d hp.1 h2) (Rps.rep' ds hp.2 h3)
end
theorem Lk.rep {H:Hp}{d:D}{v:V} (h:Lk K H F as v d) (fh:Same F H) (hp:QdJ d=true):Rep K H v (toP d):=by
 rcases h with h | ⟨a,xs,ds,rfl,rfl,h1,h2⟩
 ·exact Rep.mono fh _ (Rp.rep d hp h)
 ·rw [QdJ] at hp;rw [toP,Rep];exact ⟨a,xs,rfl,.inl (.inl h1),QaE.mono fh _ (Rps.rep' ds hp h2)⟩
end
def okE (d:D):Bool:=QdJ d&&okD (toP d)
def Qf9 (a b:D):Bool:=PyData.eqv (toP a) (toP b)
def gEq:D→D→Option D
 | .int i,.int j=>some (.bl (decide (i=j)))
 | .str a,.str b=>some (.bl (decide (a=b)))
 | .bl a,.bl b=>some (.bl (decide (a=b)))
 | a,b=>if (okE a&&okE b)=true then some (.bl (Qf9 a b)) else none
def gNe:D→D→Option D
 | .int i,.int j=>some (.bl (!decide (i=j)))
 | .str a,.str b=>some (.bl (!decide (a=b)))
 | .bl a,.bl b=>some (.bl (!decide (a=b)))
 | a,b=>if (okE a&&okE b)=true then some (.bl (!Qf9 a b)) else none
theorem Qm6 (a b:List Nat):decide (V.str (S a)=V.str (S b))=decide (a=b):=by
 by_cases h:a=b
 ·subst h; simp
 ·rw [zg h,zg];intro z;exact h (Qnp (V.str.inj z))
theorem Qmw (a b:Int):decide (V.int a=V.int b)=decide (a=b):=by
 by_cases h:a=b
 ·subst h; simp
 ·rw [zg h,zg];intro z;exact h (V.int.inj z)
theorem QmK (a b:Bool):decide (V.bl a=V.bl b)=decide (a=b):=by
 cases a <;> cases b <;> rfl
theorem Qrp {a b d:D} (h:gEq a b=some d):(∃i j,a = .int i∧b = .int j∧d = .bl (decide (i=j)))∨(∃i j,a = .str i∧b = .str j∧d = .bl (decide (i=j)))∨(∃i j,a = .bl i∧b = .bl j∧d = .bl (decide (i=j))) ∨
  (okE a=true∧okE b=true∧d = .bl (Qf9 a b)):=by
 unfold gEq at h;split at h
 ·cases h; exact .inl ⟨_,_,rfl,rfl,rfl⟩
 ·cases h; exact .inr (.inl ⟨_,_,rfl,rfl,rfl⟩)
 ·cases h; exact .inr (.inr (.inl ⟨_,_,rfl,rfl,rfl⟩))
 ·split at h
  ·rename_i hk;rw [zj] at hk;cases h;exact .inr (.inr (.inr ⟨hk.1,hk.2,rfl⟩))
  ·cases h
theorem Qr9 {a b d:D} (h:gNe a b=some d):(∃i j,a = .int i∧b = .int j∧d = .bl (!decide (i=j)))∨(∃i j,a = .str i∧b = .str j∧d = .bl (!decide (i=j)))∨(∃i j,a = .bl i∧b = .bl j∧d = .bl (!decide (i=j))) ∨
  (okE a=true∧okE b=true∧d = .bl (!Qf9 a b)):=by
 unfold gNe at h;split at h
 ·cases h; exact .inl ⟨_,_,rfl,rfl,rfl⟩
 ·cases h; exact .inr (.inl ⟨_,_,rfl,rfl,rfl⟩)
 ·cases h; exact .inr (.inr (.inl ⟨_,_,rfl,rfl,rfl⟩))
 ·split at h
  ·rename_i hk;rw [zj] at hk;cases h;exact .inr (.inr (.inr ⟨hk.1,hk.2,rfl⟩))
  ·cases h
theorem QaY {k:Nat} (hr:QaK k X.A):OpD X (compareOp .Eq) gEq:=by
 intro pins s σ H x y v u Q I rx ry h';obtain ⟨O,F,as,dx,dy,d,r,hx,hy,e,k⟩:=h'
 rcases Qrp e with ⟨i,j,rfl,rfl,rfl⟩ | ⟨i,j,rfl,rfl,rfl⟩ | ⟨i,j,rfl,rfl,rfl⟩ | ⟨h1,h2,rfl⟩
 ·cases (hx.rp rfl).unI;cases (hy.rp rfl).unI;refine QhG pins s σ H _ _ v u Q I rx ry ⟨rfl,?_⟩;rw [Qmw];exact Qbg r k rfl Rp.bl
 ·cases (hx.rp rfl).unS;cases (hy.rp rfl).unS;refine QhG pins s σ H _ _ v u Q I rx ry ⟨rfl,?_⟩;rw [Qm6];exact Qbg r k rfl Rp.bl
 ·cases (hx.rp rfl).unB;cases (hy.rp rfl).unB;refine QhG pins s σ H _ _ v u Q I rx ry ⟨rfl,?_⟩;rw [QmK];exact Qbg r k rfl Rp.bl
 ·unfold okE at h1 h2;rw [zj] at h1 h2;exact Qtj hr pins s σ H _ _ v u Q I rx ry ⟨toP dx,toP dy,hx.rep r.fh h1.1,hy.rep r.fh h2.1,h1.2,h2.2,Qbg r k rfl Rp.bl⟩
theorem Qiw {k:Nat} (hr:QaK k X.A):OpD X (compareOp .NotEq) gNe:=by
 intro pins s σ H x y v u Q I rx ry h';obtain ⟨O,F,as,dx,dy,d,r,hx,hy,e,k⟩:=h'
 rcases Qr9 e with ⟨i,j,rfl,rfl,rfl⟩ | ⟨i,j,rfl,rfl,rfl⟩ | ⟨i,j,rfl,rfl,rfl⟩ | ⟨h1,h2,rfl⟩
 ·cases (hx.rp rfl).unI;cases (hy.rp rfl).unI;refine QmL pins s σ H _ _ v u Q I rx ry ⟨rfl,?_⟩;rw [Qmw];exact Qbg r k rfl Rp.bl
 ·cases (hx.rp rfl).unS;cases (hy.rp rfl).unS;refine QmL pins s σ H _ _ v u Q I rx ry ⟨rfl,?_⟩;rw [Qm6];exact Qbg r k rfl Rp.bl
 ·cases (hx.rp rfl).unB;cases (hy.rp rfl).unB;refine QmL pins s σ H _ _ v u Q I rx ry ⟨rfl,?_⟩;rw [QmK];exact Qbg r k rfl Rp.bl
 ·unfold okE at h1 h2;rw [zj] at h1 h2;exact Qup hr pins s σ H _ _ v u Q I rx ry ⟨toP dx,toP dy,hx.rep r.fh h1.1,hy.rep r.fh h2.1,h1.2,h2.2,Qbg r k rfl Rp.bl⟩
def toV:D→V
 | .bl b=>.bl b
 | .int i=>.int i
 | .str l=>.str (S l)
 | _=>.non
def Qfa:D→Bool
 | .non=>true
 | .bl _=>true
 | .int _=>true
 | .str _=>true
 | _=>false
def eqF (x y:D):Bool:=eqV (toV x) (toV y)
theorem Rp.flat {K:Frag}{F:Hp}{as:List Addr}{v:V}{d:D} (h:Rp K F as v d) (hf:Qfa d=true):v=toV d∧Qeh v=true:=by
 cases d with
 | non=>rw [h.unN]; exact ⟨rfl,rfl⟩
 | bl b=>rw [h.unB]; exact ⟨rfl,rfl⟩
 | int b=>rw [h.unI]; exact ⟨rfl,rfl⟩
 | str b=>rw [h.unS]; exact ⟨rfl,rfl⟩
 | _=>cases hf
theorem Rps.flat {K:Frag}{F:Hp}{as:List Addr}:∀{ds:List D}{xs:List V},Rps K F as xs ds→ds.all Qfa=true→xs=ds.map toV∧xs.all Qeh=true
 | [],xs,h,_=>by rw [h.un0]; exact ⟨rfl,rfl⟩
 | d::ds,xs,h,hf=>by
  obtain ⟨x,r,rfl,h2,h3⟩:=h.un;rw [List.all_cons,zj] at hf;obtain ⟨e1,e2⟩:=h2.flat hf.1;obtain ⟨e3,e4⟩:=Rps.flat h3 hf.2;exact ⟨by rw [ze,←e1,←e3],by rw [List.all_cons,e2,e4]; rfl⟩
def gIn (neg:Bool):D→D→Option D
 | .str [c],.str l=>some (.bl (neg ^^ decide (c∈l)))
 | x,.lst ds=>if (Qfa x&&ds.all Qfa)=true then some (.bl (neg ^^ ds.any fun y=>eqF y x)) else none
 | x,.tup ds=>if (Qfa x&&ds.all Qfa)=true then some (.bl (neg ^^ ds.any fun y=>eqF y x)) else none
 | _,_=>none
theorem Qr1 {neg:Bool}{a b d:D} (h:gIn neg a b=some d):(∃c l,a = .str [c]∧b = .str l∧d = .bl (neg ^^ decide (c∈l)))∨(∃ds,(b = .lst ds∨b = .tup ds)∧Qfa a=true∧ds.all Qfa=true∧d = .bl (neg ^^ ds.any fun y=>eqF y a)):=by
 unfold gIn at h;split at h
 ·cases h; exact .inl ⟨_,_,rfl,rfl,rfl⟩
 ·split at h
  ·rename_i hk;rw [zj] at hk;cases h;exact .inr ⟨_,.inl rfl,hk.1,hk.2,rfl⟩
  ·cases h
 ·split at h
  ·rename_i hk;rw [zj] at hk;cases h;exact .inr ⟨_,.inr rfl,hk.1,hk.2,rfl⟩
  ·cases h
 ·cases h
theorem QrE {x:D}{ds:List D}:inV (toV x) (ds.map toV)=ds.any fun y=>eqF y x:=by
 unfold inV;rw [List.any_map];rfl
theorem Qpr {K:Frag}{mg:Str→Option Value}{H F:Hp}{as:List Addr}{O:Qac}{v:V}{b:D}{ds:List D} (r:RlO K mg O H F as) (hy:Lk K H F as v b) (hb:b = .lst ds∨b = .tup ds):∃p xs,v = .ref p∧(SqL K H p xs∨SqT K H p xs)∧Rps K F as xs ds:=by
 rcases hb with rfl | rfl
 ·obtain ⟨p,xs,e,h1,h2⟩:=hy.list r.fh;exact ⟨p,xs,e,.inl h1.sq,h2⟩
 ·obtain ⟨p,xs,e,h1,h2⟩:=(hy.rp rfl).unT;exact ⟨p,xs,e,.inr (Same.seqT r.fh h1),h2⟩
theorem Qn9 {d:D} (h:Qfa d=true):Qd7 d=true:=by cases d <;> first | rfl | cases h
theorem QqL:OpD X (compareOp .In) (gIn false):=by
 intro pins s σ H x y v u Q I rx ry h';obtain ⟨O,F,as,dx,dy,d,r,hx,hy,e,k⟩:=h'
 rcases Qr1 e with ⟨c,l,rfl,rfl,rfl⟩ | ⟨ds,hb,h1,h2,rfl⟩
 ·cases (hx.rp rfl).unS;cases (hy.rp rfl).unS;refine Qpd pins s σ H _ _ v u Q I rx ry ⟨c,l,rfl,rfl,?_⟩;rw [Bool.false_xor] at k;exact Qbg r k rfl Rp.bl
 ·obtain ⟨p,xs,rfl,h3,h4⟩:=Qpr r hy hb;obtain ⟨e1,e2⟩:=(hx.rp (Qn9 h1)).flat h1;obtain ⟨e3,e4⟩:=h4.flat h2;refine Qn0 pins s σ H _ _ v u Q I rx ry ⟨p,xs,rfl,h3,e2,e4,?_⟩;rw [if_neg zf,e1,e3,QrE];rw [Bool.false_xor] at k;exact Qbg r k rfl Rp.bl
def gIx:D→D→Option D
 | .lst ds,.int i=>atI ds i
 | .tup ds,.int i=>atI ds i
 | .str l,.int i=>if l.length≤1000000 then (atI l i).map fun c=>.str [c] else none
 | _,_=>none
theorem Rps.atI {K:Frag}{F:Hp}{as:List Addr}{xs:List V}{ds:List D}{i:Int}{d:D} (h:Rps K F as xs ds) (e:atI ds i=some d):∃v,L2.atI xs i=some v∧Rp K F as v d:=by
 unfold L2.atI at e ⊢;rw [h.length]
 cases q:ixN ds.length i with
 | none=>rw [q] at e; cases e
 | some j =>
  rw [q] at e;exact h.get' e
def rDv (K:Frag) (mg:Str→Option Value) (g:D→D→Option D):R2:=fun x y H Q=>∃O F as dx dy d,RlO K mg O H F as∧Lk K H F as x dx∧Lk K H F as y dy∧g dx dy=some d∧∀v',Rp K F as v' d→Q v' H
theorem Qv4:IxR X (rDv X.K X.mg gIx):=by
 intro value slice pins s σ H x y v u Q I rx ry h' hsb;obtain ⟨O,F,as,dx,dy,d,r,hx,hy,e,k⟩:=h'
 cases dx with
 | lst ds =>
  obtain ⟨p,xs,rfl,h1,h2⟩:=hx.list r.fh
  cases dy with
  | int i =>
   cases (hy.rp rfl).unI;obtain ⟨z,e1,e2⟩:=h2.atI e;exact Qsw value slice pins s σ H _ _ v u Q I rx ry ⟨p,xs,i,z,rfl,rfl,h1.sq,e1,k z e2⟩ hsb
  | _=>cases e
 | tup ds =>
  obtain ⟨p,xs,rfl,h1,h2⟩:=(hx.rp rfl).unT
  cases dy with
  | int i =>
   cases (hy.rp rfl).unI;obtain ⟨z,e1,e2⟩:=h2.atI e;exact Quo value slice pins s σ H _ _ v u Q I rx ry ⟨p,xs,i,z,rfl,rfl,Same.seqT r.fh h1,e1,k z e2⟩ hsb
  | _=>cases e
 | str l =>
  cases (hx.rp rfl).unS
  cases dy with
  | int i =>
   cases (hy.rp rfl).unI;simp only [gIx] at e;split at e
   ·rename_i hz
    cases q:L2.atI l i with
    | none=>rw [q] at e; cases e
    | some c =>
     rw [q] at e;cases e;exact QtC value slice pins s σ H _ _ v u Q I rx ry ⟨S l,i,c,rfl,rfl,by rw [Qbm]; exact Qdu hz,by rw [Qea]; exact q,k _ Rp.str⟩ hsb
   ·cases e
  | _=>cases e
 | _=>cases e
theorem Qba {md:List Md}{P:Pt}{a b:Expr}{pos:Pos}{ma mb:M D} (ha:SE X md P a ma) (hb:SE X md P b mb) (hs:Qmk b:=by intro _ _; rfl):VE X md P (.Subscript a b pos) (Qad gIx ma mb):=(QuN Qv4 ha hb hs).imp fun σ H Q h=>by
 obtain ⟨ρ,O,F,as,d,O',r,sl,e,k⟩:=h;obtain ⟨x,O1,e1,e⟩:=Res.bind_ok e;obtain ⟨y,O2,e2,e⟩:=Res.bind_ok e;split at e
 ·rename_i d' hg;cases e;refine ⟨ρ,_,F,as,_,_,r,sl,e1,fun v H1 F1 as1 g1 r1 hv=>?_⟩;refine ⟨ρ,_,F1,as1,_,_,r1,sl.step g1,e2,fun u H2 F2 as2 g2 r2 hu=>?_⟩;exact ⟨_,F2,as2,_,_,_,r2,Sv.lk (Sv.gr hv g2) r2,Sv.lk hu r2,hg,fun v' hw=>k v' H2 F2 as2 (g1.trans g2) r2 hw⟩
 ·cases e
def tMO (K:Frag) (mg:Str→Option Value) (md:List Md) (P:Pt) (m:M (Option Int)):TO:=fun σ H Q =>
 ∃ρ O F as b O',RlO K mg O H F as∧SlO K md P ρ σ H F as∧m ρ O = .ok b O'∧∀H' F' as',Gr H F as H' F' as'→RlO K mg O' H' F' as'→Q b H'
def VO (X:Cx) (md:List Md) (P:Pt) (e:Option Expr) (m:M (Option Int)):Prop:=PO X e (tMO X.K X.mg md P m)
theorem PO.imp {e:Option Expr}{t t':TO} (h:PO X e t) (k:∀σ H Q,t' σ H Q→t σ H Q):PO X e t':=fun pins s σ H Q I q=>h pins s σ H Q I (k σ H Q q)
def moN:M (Option Int):=fun _ O=>.ok none O
def moS (m:M D):M (Option Int):=fun ρ O=>(m ρ O).bind fun d O1=>match d with
 | .int i=>.ok (some i) O1
 | _=>.no
theorem Qfg {md:List Md}{P:Pt}:VO X md P none moN:=QsC.imp fun σ H Q q=>by
 obtain ⟨ρ,O,F,as,d,O',r,s,e,k⟩:=q;cases e;exact k H F as Gr.refl r
theorem Qbf {md:List Md}{P:Pt}{e:Expr}{m:M D} (h:VE X md P e m):VO X md P (some e) (moS m):=(Qr6 h).imp fun σ H Q q=>by
 obtain ⟨ρ,O,F,as,d,O',r,s,e,k⟩:=q;obtain ⟨x,O1,e1,e⟩:=Res.bind_ok e
 cases x with
 | int i =>
  cases e;exact ⟨ρ,_,F,as,_,_,r,s,e1,fun v H1 F1 as1 g1 r1 hv=>⟨i,Rp.unI hv,k H1 F1 as1 g1 r1⟩⟩
 | _=>cases e
def gSl (d:D) (lo hi:Option Int):Option D:=match d with
 | .lst ds=>some (.lst (Qb2 ds lo hi))
 | .tup ds=>some (.tup (Qb2 ds lo hi))
 | .str l=>if l.length≤16777216 then some (.str (Qb2 l lo hi)) else none
 | _=>none
def Qwu (K:Frag) (mg:Str→Option Value):V→Option Int→Option Int→Hp→VK→Prop:=fun x lo hi H Q=>∃O F as dx d,RlO K mg O H F as∧Lk K H F as x dx∧gSl dx lo hi=some d ∧
 ∀v' H' F',Gr H F as H' F' as→RlO K mg O H' F' as→Ow K (fun a=>H a=none) H' F' as v' d→Q v' H'
theorem Rps.cut {K:Frag}{F:Hp}{as:List Addr}{xs:List V}{ds:List D} (h:Rps K F as xs ds) (lo hi:Option Int):Rps K F as (Qgt xs lo hi) (Qb2 ds lo hi):=by
 unfold Qgt Qb2;rw [h.length];exact (h.drop _).take _
theorem Qwh:SlR X (Qwu X.K X.mg):=by
 intro pins s σ H x v vl vu lo hi sl Q I rx hs pl pu h;obtain ⟨O,F,as,dx,d,r,hx,e,k⟩:=h
 cases dx with
 | lst ds =>
  obtain ⟨p,xs,rfl,h1,h2⟩:=hx.list r.fh;cases e;exact Qsp pins s σ H _ v vl vu lo hi sl Q I rx hs pl pu ⟨p,xs,rfl,h1.sq,fun q hq=>QmP r k hq (h2.cut lo hi)⟩
 | tup ds =>
  obtain ⟨p,xs,rfl,h1,h2⟩:=(hx.rp rfl).unT;cases e;refine QrG X.K rfl pins s σ H _ v vl vu lo hi sl Q I rx hs pl pu ⟨p,xs,rfl,Same.seqT r.fh h1,fun z=>?_,fun _ q hq=>QqZ r k hq (h2.cut lo hi)⟩
  have:Qb2 ds lo hi=ds:=by
   unfold Qb2;rw [←h2.length,z.1,z.2,List.drop_zero,Nat.sub_zero,h2.length,List.take_length]
  rw [this] at k;exact Qbg r k rfl (hx.rp rfl)
 | str l =>
  cases (hx.rp rfl).unS;simp only [gSl] at e;split at e
  ·rename_i hz;cases e;exact QtG pins s σ H _ v vl vu lo hi sl Q I rx hs pl pu ⟨l,rfl,zu hz (Nat.le_of_eq sizeLine_eq.symm),Qbg r k rfl Rp.str⟩
  ·cases e
 | _=>cases e
def mSl (m:M D) (lo hi:M (Option Int)):M D:=fun ρ O=>(m ρ O).bind fun d O1=>(lo ρ O1).bind fun l O2=>(hi ρ O2).bind fun h O3=>match gSl (QaX O3 d) l h with
 | some y=>.ok y O3
 | none=>.no
end
section
variable {X:Cx}{md:List Md}{P:Pt}{R:RR}
theorem QbH {e:Expr}{lo hi:Option Expr}{p2 pos:Pos}{m:M D}{ml mh:M (Option Int)} (he:SE X md P e m) (hl:VO X md P lo ml) (hh:VO X md P hi mh):OE X md P (.Subscript e (.Slice lo hi none p2) pos) (mSl m ml mh):=(Qqd Qwh he hl hh).imp fun σ H Q q=>by
 obtain ⟨ρ,O,F,as,d,O',r,s,e,k⟩:=q;obtain ⟨x,O1,e1,e⟩:=Res.bind_ok e;obtain ⟨l,O2,e2,e⟩:=Res.bind_ok e;obtain ⟨h,O3,e3,e⟩:=Res.bind_ok e;split at e
 ·rename_i y hg;cases e;refine ⟨ρ,_,F,as,_,_,r,s,e1,fun v H1 F1 as1 g1 r1 hv=>?_⟩;refine ⟨ρ,_,F1,as1,_,_,r1,s.step g1,e2,fun H2 F2 as2 g2 r2=>?_⟩;have g12:=g1.trans g2;refine ⟨ρ,_,F2,as2,_,_,r2,s.step g12,e3,fun H3 F3 as3 g3 r3=>?_⟩;have g13:=g12.trans g3;exact ⟨_,F3,as3,_,_,r3,Sv.lk (Sv.gr (Sv.gr hv g2) g3) r3,hg,fun v' H' F' g' r' hw=>k v' H' F' as3 (g13.trans g') r' (Qc4 _ _ _ _ _ _ _ (fun a ha=>g13.dm a ha) hw)⟩
 ·cases e
def Lks (K:Frag) (H F:Hp) (as:List Addr):List V→List D→Prop
 | [],[]=>True
 | v::vs,d::ds=>Lk K H F as v d∧Lks K H F as vs ds
 | _,_=>False
theorem Qby.lks {K:Frag}{mg:Str→Option Value}{O:Qac}{H F:Hp}{as:List Addr} (r:RlO K mg O H F as):∀{ms:List Md}{vs:List V}{ds:List D},Qby K H F as ms vs ds→Lks K H F as vs (ds.map (QaX O))
 | [],[],[],_=>trivial
 | m::ms,v::vs,d::ds,h=>by
  refine ⟨?_,Qby.lks r h.2⟩
  have h1:Sv K H F as v d:=by
   cases m with
   | v=>exact .inl h.1
   | s=>exact h.1
   | o=>exact h.1
  exact h1.lk r
 | [],[],_::_,h=>h.elim
 | [],_::_,[],h=>h.elim
 | [],_::_,_::_,h=>h.elim
 | _::_,[],[],h=>h.elim
 | _::_,[],_::_,h=>h.elim
 | _::_,_::_,[],h=>h.elim
def rC (K:Frag) (mg:Str→Option Value) (g:List D→Option D):List V→Hp→VK→Prop:=fun vs H Q=>∃O F as ds d,RlO K mg O H F as∧Lks K H F as vs ds∧g ds=some d ∧
 ∀v' H' F',Gr H F as H' F' as→RlO K mg O H' F' as→Ow K (fun a=>H a=none) H' F' as v' d→Q v' H'
abbrev Qkv (X:Cx) (f:Value) (g:List D→Option D):Prop:=QgF X f (rC X.K X.mg g)
def QaV (g:List D→Option D) (ma:M (List D)):M D:=fun ρ O=>(ma ρ O).bind fun ds O1=>match g (ds.map (QaX O1)) with
 | some d=>.ok d O1
 | none=>.no
theorem Qln {K:Frag}{mg:Str→Option Value}{g:List D→Option D}{ms:List Md}{ma:M (List D)}{σ:St}{H:Hp}{Q:VK} (q:tM K mg md P (rO K) (QaV g ma) σ H Q):tCB (rC K mg g) (tMA K mg md P ms ma) σ H Q:=by
 obtain ⟨ρ,O,F,as,d,O',r,s,e,k⟩:=q;obtain ⟨ds,O1,e1,e⟩:=Res.bind_ok e;split at e
 ·rename_i y hg;cases e;refine ⟨ρ,_,F,as,_,_,r,s,e1,fun vs H1 F1 as1 g1 r1 hv=>?_⟩;exact ⟨_,F1,as1,_,_,r1,hv.lks r1,hg,fun v' H' F' g' r' hw=>k v' H' F' as1 (g1.trans g') r' (Qc4 _ _ _ _ _ _ _ (fun a ha=>g1.dm a ha) hw)⟩
 ·cases e
theorem Qbn {x:Str}{p pos:Pos}{e:Expr}{es:List Expr}{id:String}{g:List D→Option D}{ms:List Md}{ma:M (List D)} (hc:Qkv X (.builtin id) g) (hm:X.mg x=none) (ha:AE X md P ms (e::es) ma) (hv:bootBuiltins x=some (.builtin id):=by decide +kernel) (hg:Gl X x:=by rfl)
  (hn:x≠"__name__":=by decide) (hdb:(x == ("__debug__":Str))=false:=by decide) (he:starEach (e::es) X.env=(false,eval e X.env)::starEach es X.env:=by exact Qa3 rfl) (hpl:(backTo pos (starEach es X.env)).any (·.1)=false:=by exact Qa5 rfl) :
  OE X md P (.Call (.Name x p) (e::es) [] pos) (QaV g ma):=(QgS hc hg hm hv ha hn hdb he hpl).imp fun _ _ _ q=>Qln q
theorem Qqh {x:Str}{p pos:Pos}{e:Expr}{es:List Expr}{T:String}{g:List D→Option D}{ms:List Md}{ma:M (List D)} (hc:Qkv X (.type T) g) (hm:X.mg x=none) (ha:AE X md P ms (e::es) ma) (hv:bootBuiltins x=some (.type T):=by decide +kernel) (hg:Gl X x:=by rfl)
  (hn:x≠"__name__":=by decide) (hdb:(x == ("__debug__":Str))=false:=by decide) (he:starEach (e::es) X.env=(false,eval e X.env)::starEach es X.env:=by exact Qa3 rfl) (hpl:(backTo pos (starEach es X.env)).any (·.1)=false:=by exact Qa5 rfl) :
  OE X md P (.Call (.Name x p) (e::es) [] pos) (QaV g ma):=(Qop hc hg hm hv ha hn hdb he hpl).imp fun _ _ _ q=>Qln q
theorem Lks.one {K:Frag}{H F:Hp}{as:List Addr}{vs:List V}{d:D} (h:Lks K H F as vs [d]):∃v,vs = [v]∧Lk K H F as v d:=by
 cases vs with
 | nil=>exact h.elim
 | cons v vs =>
  cases vs with
  | nil=>exact ⟨v,rfl,h.1⟩
  | cons u us=>exact h.2.elim
def Qbq:List D→Option D
 | [.str l]=>if l.length≤1000000 then some (.int l.length) else none
 | [.lst ds]=>some (.int ds.length)
 | [.tup ds]=>some (.int ds.length)
 | _=>none
theorem QbZ:Qkv X (.builtin "len") Qbq:=by
 intro pins s σ H xs us Q I rs h;obtain ⟨O,F,as,ds,d,r,hvs,e,k⟩:=h;unfold Qbq at e;split at e
 ·rename_i l;obtain ⟨v,rfl,hv⟩:=hvs.one;split at e
  ·rename_i hz;cases e;cases (hv.rp rfl).unS;refine call_len pins s σ H _ us Q I rs ⟨_,_,rfl,⟨by rw [Qbm]; exact Qdu hz,rfl⟩,?_⟩;rw [Qbm];exact Qbg r k rfl Rp.int
  ·cases e
 ·rename_i l;obtain ⟨v,rfl,hv⟩:=hvs.one;cases e;obtain ⟨p,xs,rfl,h1,h2⟩:=hv.list r.fh;refine call_len pins s σ H _ us Q I rs ⟨_,_,rfl,.inl ⟨xs,h1.sq,rfl⟩,?_⟩;rw [h2.length];exact Qbg r k rfl Rp.int
 ·rename_i l;obtain ⟨v,rfl,hv⟩:=hvs.one;cases e;obtain ⟨p,xs,rfl,h1,h2⟩:=(hv.rp rfl).unT;refine call_len pins s σ H _ us Q I rs ⟨_,_,rfl,.inr ⟨xs,Same.seqT r.fh h1,rfl⟩,?_⟩;rw [h2.length];exact Qbg r k rfl Rp.int
 ·cases e
def Qww:List D→Option D
 | [.int i,.int j]=>some (.int (if j > i then j else i))
 | _=>none
def Qwf:List D→Option D
 | [.int i,.int j]=>some (.int (if j < i then j else i))
 | _=>none
def Qhz:List D→Option D
 | [.int i]=>some (.int i)
 | [.bl b]=>some (.int (if b then 1 else 0))
 | _=>none
theorem QsV:Qkv X (.type "int") Qhz:=by
 intro pins s σ H xs us Q I rs h;obtain ⟨O,F,as,ds,d,r,hvs,e,k⟩:=h;unfold Qhz at e;split at e
 ·obtain ⟨v,rfl,hv⟩:=hvs.one;cases e;cases (hv.rp rfl).unI;exact QjV pins s σ H _ us Q I rs (.inl ⟨_,rfl,Qbg r k rfl Rp.int⟩)
 ·obtain ⟨v,rfl,hv⟩:=hvs.one;cases e;cases (hv.rp rfl).unB;exact QjV pins s σ H _ us Q I rs (.inr ⟨_,rfl,Qbg r k rfl Rp.int⟩)
 ·cases e
def QuK:List D→Option D
 | [.lst ds]=>some (.lst ds)
 | [.tup ds]=>some (.lst ds)
 | _=>none
theorem QbW:bootBuiltins "len" = some (.builtin "len"):=by decide +kernel
theorem Qoy:bootBuiltins "int" = some (.type "int"):=by decide +kernel
theorem Qlz:bootBuiltins "str" = some (.type "str"):=by decide +kernel
theorem Qsm:bootBuiltins "bool" = some (.type "bool"):=by decide +kernel
theorem QrN:bootBuiltins "list" = some (.type "list"):=by decide +kernel
theorem QpN:bootBuiltins "tuple" = some (.type "tuple"):=by decide +kernel
def tyD:D→Option String
 | .non=>some "NoneType"
 | .bl _=>some "bool"
 | .int _=>some "int"
 | .str _=>some "str"
 | .lst _=>some "list"
 | .tup _=>some "tuple"
 | .dic _ _=>some "dict"
 | .ob _=>none
def QcU (t n:String):Bool:=t == n || (t == "bool" && n == "int")
def Qdf (n:String) (m:M D):M D:=fun ρ O=>(m ρ O).bind fun d O1=>match tyD (QaX O1 d) with
 | some t=>.ok (.bl (QcU t n)) O1
 | none=>.no
def Qqc:List String:=["str","int","bool","list","tuple","dict"]
theorem Qsl (K:Frag):∀d t,tyD d=some t→∀n∈Qqc,PySem.W.kitOne K (.type t) (.type n)=some (QcU t n):=by
 intro d t e n hn;simp only [Qqc,zk,List.not_mem_nil,or_false] at hn
 cases d <;> cases e <;> rcases hn with rfl | rfl | rfl | rfl | rfl | rfl <;> first | exact Qp5 K _ | kernel_rfl
theorem Lk.ty {K:Frag}{H F:Hp}{as:List Addr}{v:V}{d:D}{t:String} (h:Lk K H F as v d) (fh:Same F H) (e:tyD d=some t):TyQ K H v t:=by
 cases d with
 | non=>cases e; rw [(h.rp rfl).unN]; exact .non
 | bl b=>cases e; rw [(h.rp rfl).unB]; exact .bl _
 | int b=>cases e; rw [(h.rp rfl).unI]; exact .int _
 | str b=>cases e; rw [(h.rp rfl).unS]; exact .str _
 | lst ds=>cases e; obtain ⟨p,xs,rfl,h1,h2⟩:=h.list fh; exact .lst h1.sq
 | tup ds=>cases e; obtain ⟨p,xs,rfl,h1,h2⟩:=(h.rp rfl).unT; exact .tup (Same.seqT fh h1)
 | dic ks vs=>cases e; obtain ⟨p,xs,rfl,h1,h2⟩:=(h.rp rfl).unD; exact .dK (fh _ _ h1)
 | ob n=>cases e
theorem Qfm (n:String) {T:Str}{a:Expr}{p p' pos:Pos}{m:M D} (hm:X.mg "isinstance" = none) (hT:X.mg T=none) (h:SE X md P a m) (hb:bootBuiltins T=some (.type n):=by decide +kernel) (hn:n∈Qqc:=by decide) (hg:Gl X "isinstance":=by rfl) (hgT:Gl X T:=by rfl)
  (hTn:T≠"__name__":=by decide) (hTd:(T == ("__debug__":Str))=false:=by decide)
  (hs1:starEach [a,.Name T p'] X.env=(false,eval a X.env)::starEach [.Name T p'] X.env:=by exact Qa3 rfl) (hs2:starEach [.Name T p'] X.env=(false,eval (.Name T p') X.env)::starEach [] X.env:=by rfl) (hpl:(backTo pos (starEach [.Name T p'] X.env)).any (·.1)=false:=by exact Qa5 rfl) :
  OE X md P (.Call (.Name "isinstance" p) [a,.Name T p'] [] pos) (Qdf n m) :=
 (QgS (QnZ X.K) hg hm (by decide +kernel) (QbA h (QbA (Qme (v:=.ty n) hgT hT hb rfl hTn hTd) Qcp hs2) hs1) (by decide) (by decide) hs1 hpl).imp fun σ H Q q=>by
  obtain ⟨ρ,O,F,as,d,O',r,s,e,k⟩:=q;obtain ⟨x,O1,e1,e⟩:=Res.bind_ok e;split at e
  ·rename_i t ht;cases e;refine ⟨ρ,_,F,as,_,_,r,s,e1,fun v H1 F1 as1 g1 r1 hv=>?_⟩;exact ⟨v,n,t,_,rfl,Lk.ty (Sv.lk hv r1) r1.fh ht,Qsl _ _ t ht n hn,k _ H1 F1 as1 g1 r1 (.inl ⟨rfl,Rp.bl⟩)⟩
  ·cases e
def Qc1 (m:M D):M (List D):=fun ρ O=>(m ρ O).bind fun d O1=>match d with
 | .lst ds=>.ok ds O1
 | _=>.no
def Qnv (m:M D):M (List D):=fun ρ O=>(m ρ O).bind fun d O1=>match d with
 | .tup ds=>.ok ds O1
 | _=>.no
theorem QkU {K:Frag}{mg:Str→Option Value}{H F:Hp}{as:List Addr}{a:Addr}{xs:List V}{ds:List D} (hs:Rps K F as xs ds) (hp:∀(H2 F2:Hp) (as2:List Addr),GrS P H F as H2 F2 as2→(∃O,RlO K mg O H2 F2 as2)→RdK K H2 a xs):JOk K mg P (Itl K a) ds H F as:=by
 refine ⟨fun i d H2 F2 as2 g r e=>?_,fun H2 F2 as2 g r=>⟨xs,(hp H2 F2 as2 g r).sq,by rw [hs.length]; exact zc _⟩⟩;obtain ⟨x,h1,h2⟩:=hs.get' e;have q:=hp H2 F2 as2 g r;refine ⟨⟨xs,x,q.sq,h1⟩,fun y H3 hy=>?_⟩;obtain ⟨rfl,hy⟩:=hy
 have:=hy xs q.sq
 rw [h1] at this;cases this;exact ⟨F2,Gr.refl,fun _ r=>r,h2.grS g⟩
end
section
variable {X:Cx}{pins:List (Addr×Obj)}{σ:St}{H:Hp}{s:Shared}
theorem Inv.turnL {ch:List Addr}{h':Heap}{t':Nat} (I:Inv X pins σ H s) (hch:∀b∈ch,QdI X pins H b) (k:∀b o,b∉ch→s.heap.get? b=some o→h'.get? b=some o):Inv X pins σ H { s with heap:=h',toks:=t' }:=by
 have nit:∀b u,H b=some u→b∉ch:=fun b u e z=>by rw [(hch b z).1] at e; cases e
 refine I.step (g':=s.gens) (d':=s.drawn) (ch:=ch) (fun b hb=>?_) (fun b o _ _ hc e _=>k b o hc e) (fun b o _ _ hc e _=>⟨o.slots,k b o hc e⟩) (fun _ _ _ _ n=>n)
  (fun b o hc e=>⟨o,k b o hc e⟩) (fun _ _ e=>e) (fun _ _ _ e=>e) (fun b ps e=>⟨#[],by rw [e]; simp⟩) (fun m hm=>?_) (fun b u e=>?_) I.bare
 ·obtain ⟨f0,f1,f2,f3,f4,f5⟩:=hch b hb;exact ⟨f3,f1,f4,f5⟩
 ·obtain ⟨o,es,ep,ho,r⟩:=hm;exact ⟨o,es,ep,k _ o (fun z=>(hch _ z).2.1 rfl) ho,r⟩
 ·refine (I.hok b u e).stay (fun c v hc q=>k c v ?_ q) (fun _ q=>q) fun _ _ q=>q
  rcases hc with z | z
  ·rw [z]; exact nit b u e
  ·exact nit c _ z
theorem Inv.turnT {ch:List Addr}{h':Heap}{t':Nat}{T:Addr}{vs:List V}{us:List Value} (I:Inv X pins σ H s) (hch:∀b∈ch,QdI X pins H b) (k:∀b o,b∉ch→s.heap.get? b=some o→h'.get? b=some o)
  (hT:s.heap.objs.size≤T) (new:IsTup h' T us.toArray) (hv:QaA vs us) (hz:vs.length≤sizeLine):Inv X pins σ (upd H T (.tup vs)) { s with heap:=h',toks:=t' }:=by
 have hn:H T=none:=I.hok.fresh hT
 have nit:∀b u,H b=some u→b∉ch:=fun b u e z=>by rw [(hch b z).1] at e; cases e
 have ne:∀b o,s.heap.get? b=some o→b≠T:=fun b o e z=>by
  subst z;exact absurd (zd e) (Nat.not_lt_of_le hT)
 refine I.step (g':=s.gens) (d':=s.drawn) (ch:=ch) (fun b hb=>?_) (fun b o _ _ hc e _=>k b o hc e) (fun b o _ _ hc e _=>⟨o.slots,k b o hc e⟩) (fun b o _ e n=>by rw [Qaj (ne b o e)]; exact n)
  (fun b o hc e=>⟨o,k b o hc e⟩) (fun b _ e=>by rw [Qaj (Qau e hn)]; exact e) (fun b _ _ e=>by rw [Qaj (Qau e hn)]; exact e) (fun b ps e=>⟨#[],by rw [Qaj (Qau e hn),e]; simp⟩) (fun m hm=>?_) (fun b u e=>?_) I.bare
 ·obtain ⟨f0,f1,f2,f3,f4,f5⟩:=hch b hb;exact ⟨f3,f1,f4,f5⟩
 ·obtain ⟨o,es,ep,ho,r⟩:=hm;exact ⟨o,es,ep,k _ o (fun z=>(hch _ z).2.1 rfl) ho,r⟩
 ·by_cases hb:b=T
  ·subst hb;rw [QaC] at e;cases e;exact ⟨hz,us,hv,new⟩
  ·rw [Qaj hb] at e
   refine (I.hok b u e).stay (fun c v hc q=>k c v ?_ q) (fun c q=>by rw [Qaj (Qau q hn)]; exact q) fun c xs q=>by rw [Qaj (Qau q hn)]; exact q
   rcases hc with z | z
   ·rw [z]; exact nit b u e
   ·exact nit c _ z
end
def Ite (K:Frag) (l:Addr):It:=⟨fun i H=>∃xs x,SqL K H l xs∧xs[i]? = some x,fun i H v H'=>∃T x,v = .ref T∧H T=none∧H'=upd H T (.tup [.int i,x])∧∀xs,SqL K H l xs→xs[i]? = some x,fun i H=>∃xs,SqL K H l xs∧xs.length≤i⟩
def Qtz (l:List Nat):It:=⟨fun i _=>i < l.length,fun i H v H'=>∃T c,v = .ref T∧H T=none∧H'=upd H T (.tup [.int i,.str (S [c])])∧l[i]? = some c,fun i _=>l.length≤i⟩
theorem QcB {h:Heap}{b:Addr}{o:Obj}{vs:Array Value} (e:h.get? b=some o) (d:o.data = .fields vs):∃o,h.get? b=some o∧∀v,o.data≠.cell v:=⟨o,e,fun v z=>by rw [d] at z; cases z⟩
theorem Qnk {P:Program}{w:World}{K:Frag}{elts:List Expr}{x1}{pos:Pos} (e it l:Addr) (hne:e≠it):Turn P w K (.Tuple elts x1 pos) (Ite K l) [e,it] e (fun i h=>(∃old,IsEnum h e it i old)∧h.IsListIter it l i) where
 mem:=by simp
 obj:=fun i h st b hb=>by
  obtain ⟨⟨old,he⟩,o,ho,hc,hd⟩:=st
  rcases zk.mp hb with rfl | hb
  ·exact QcB he rfl
  ·rw [zz.mp hb];exact QcB ho hd
 keep:=fun i h h' st k=>by
  obtain ⟨⟨old,he⟩,o,ho,r⟩:=st;exact ⟨⟨old,k e (by simp) _ he⟩,o,k it (by simp) o ho,r⟩
 item:=by
  intro X hP hw hK hc i pins s σ H E I hf st hg;subst hP hw hK;obtain ⟨⟨old,he⟩,hit⟩:=st;obtain ⟨xs,x,hq,hx⟩:=hg;obtain ⟨its,rv,pl,hz⟩:=I.list hq;obtain ⟨u,hu,ru⟩:=rv.get hx;have hT:H s.heap.objs.size=none:=I.hok.fresh (zc _);have elt:e < s.heap.objs.size:=zd he
  refine wpAny_pyNext_enum_item he hit pl.isList (x:=u) (by simpa using hu) hne fun h' ho hit' hTup hsz hk=>⟨_,rfl,?_⟩
  refine wpAny_letOwnedTupleGo_enum ho fun h'' he'' hs''=>⟨.ref s.heap.objs.size,_,?_,rfl,⟨s.heap.objs.size,x,rfl,hT,rfl,fun ys hy=>by rw [I.list_inj hy hq]; exact hx⟩,⟨⟨_,by simpa using he''⟩,hit'.extBut hs''.extBut (Ne.symm hne)⟩,fun b hb=>?_⟩
  ·show Inv X pins σ _ { s with heap:=h'',toks:=s.toks+1 };refine I.turnT (ch:=[e,it]) (us:=[.int i s.toks,u]) hf (fun b o hb q=>?_) (zc _) ⟨_,hs''.extBut _ _ (Nat.ne_of_gt elt) hTup,rfl,_,rfl⟩ (.cons ⟨_,rfl⟩ (.cons ru .nil)) (by show 2≤sizeLine; decide)
   have h1:b≠e:=fun z=>hb (by simp [z])
   have h2:b≠it:=fun z=>hb (by simp [z])
   exact hs''.extBut _ _ h1 (hk b o h1 h2 q)
  ·have q:=hf b hb;rw [Qaj (fun z=>?_)]
   ·exact q.1
   ·obtain ⟨o,ho⟩:∃o,s.heap.get? b=some o:=by
     rcases zk.mp hb with rfl | hb
     ·exact ⟨_,he⟩
     ·rw [zz.mp hb];obtain ⟨o,ho,_⟩:=hit;exact ⟨o,ho⟩
    exact absurd (zd ho) (by rw [z]; exact zI _)
 done:=by
  intro X hP hw hK hc i pins s σ H E I hf st hg;subst hP hw hK;obtain ⟨⟨old,he⟩,hit⟩:=st;obtain ⟨xs,hq,hl⟩:=hg;obtain ⟨its,rv,pl,hz⟩:=I.list hq
  refine wpAny_pyNext_enum_end (I.ok.hd hc) he hit pl.isList (by have:=rv.length; simp; omega) fun h' hx=>⟨rfl,?_⟩
  exact I.turnL (t':=s.toks) (ch:=[e,it]) hf fun b o hb q=>hx b o (fun z=>hb (by simp [z])) q
 self:=fun A i s Q E st h=>by
  obtain ⟨⟨old,he⟩,_⟩:=st;exact wpAny_pyIter_enum he h
theorem QmT {P:Program}{w:World}{K:Frag}{elts:List Expr}{x1}{pos:Pos} (e it:Addr) (l:List Nat) (t:Tok) (hne:e≠it):Turn P w K (.Tuple elts x1 pos) (Qtz l) [e,it] e (fun i h=>(∃old,IsEnum h e it i old)∧h.IsStrIter it "str_ascii_iterator" (S l) t i) where
 mem:=by simp
 obj:=fun i h st b hb=>by
  obtain ⟨⟨old,he⟩,o,ho,hc,hd⟩:=st
  rcases zk.mp hb with rfl | hb
  ·exact QcB he rfl
  ·rw [zz.mp hb];exact QcB ho hd
 keep:=fun i h h' st k=>by
  obtain ⟨⟨old,he⟩,o,ho,r⟩:=st;exact ⟨⟨old,k e (by simp) _ he⟩,o,k it (by simp) o ho,r⟩
 item:=by
  intro X hP hw hK hc i pins s σ H E I hf st hg;subst hP hw hK;obtain ⟨⟨old,he⟩,hit⟩:=st;have hg':i < l.length:=hg;have hT:H s.heap.objs.size=none:=I.hok.fresh (zc _);have elt:e < s.heap.objs.size:=zd he;have hd:X.A.in1.handled=none:=I.ok.hd hc
  refine wpAny_pyNext_enum_itemD (Draws.strAscii hd it (S l) t) he hit (by simpa [S] using hg') hne (fun z=>hne (by simpa using z)) fun u h' tk hP ho hit' hTup hsz hk=>⟨_,rfl,?_⟩
  obtain ⟨c,tc,hcx,rfl⟩:=hP
  have hcl:l[i]? = some c:=by
   rw [←hcx];simp [S]
  refine wpAny_letOwnedTupleGo_enum ho fun h'' he'' hs''=>⟨.ref s.heap.objs.size,_,?_,rfl,⟨s.heap.objs.size,c,rfl,hT,rfl,hcl⟩,⟨⟨_,by simpa using he''⟩,?_⟩,fun b hb=>?_⟩
  ·show Inv X pins σ _ { s with heap:=h'',toks:=tk+1 };refine I.turnT (ch:=[e,it]) (us:=[.int i tk,.str ⟨#[c]⟩ tc]) hf (fun b o hb q=>?_) (zc _) ⟨_,hs''.extBut _ _ (Nat.ne_of_gt elt) hTup,rfl,_,rfl⟩ (.cons ⟨_,rfl⟩ (.cons ⟨_,rfl⟩ .nil)) (by show 2≤sizeLine; decide)
   have h1:b≠e:=fun z=>hb (by simp [z])
   have h2:b≠it:=fun z=>hb (by simp [z])
   exact hs''.extBut _ _ h1 (hk b o h1 h2 q)
  ·obtain ⟨o,ho',r⟩:=hit';exact ⟨o,hs''.extBut _ _ (Ne.symm hne) ho',r⟩
  ·have q:=hf b hb;rw [Qaj (fun z=>?_)]
   ·exact q.1
   ·obtain ⟨o,ho⟩:∃o,s.heap.get? b=some o:=by
     rcases zk.mp hb with rfl | hb
     ·exact ⟨_,he⟩
     ·rw [zz.mp hb];obtain ⟨o,ho,_⟩:=hit;exact ⟨o,ho⟩
    exact absurd (zd ho) (by rw [z]; exact zI _)
 done:=by
  intro X hP hw hK hc i pins s σ H E I hf st hg;subst hP hw hK;obtain ⟨⟨old,he⟩,hit⟩:=st;have hd:X.A.in1.handled=none:=I.ok.hd hc;have hg':l.length≤i:=hg;have hT:s.TypeIs (.ref e) "enumerate":=⟨_,he,rfl⟩;unfold pyNext
  refine za (wpAny_attempt (wpAny_callSpecial?_slot (name:=Str.ofString "__next__") hT F.slot_enumerate_next
   (wpAny_call_entry F.slot_enumerate_next hT F.entry_enumerate_next ?_ (F.args_enumerate_next_1 _))))
  show wpAny _ _ (field (.ref e) 2 >>= _) _ _ _;refine za (wpAny_field he rfl (x:=.ref it) rfl ?_);refine za (wpAny_nextOf_ascii_end hd hit (by simp [S]; exact hg') fun h' x he' hx'=>?_);obtain ⟨o,ho,hc⟩:=hx';refine za (wpAny_isInstance (T:="StopIteration") (b:=true) ⟨o,ho,hc⟩ isSubtype_stop ?_);exact zb ⟨rfl,I.turnL (t':=s.toks) (ch:=[e,it]) hf fun b o hb q=>he' b o (fun z=>hb (by simp [z])) q⟩
 self:=fun A i s Q E st h=>by
  obtain ⟨⟨old,he⟩,_⟩:=st;exact wpAny_pyIter_enum he h
section
variable {X:Cx}{elts:List Expr}{x1:Nat}{tpos:Pos}
def Quk (K:Frag) (ta:TA):TI:=fun σ H R=>ta σ H fun vs H1=>∃a,vs = [.ref a]∧(∃xs,SqL K H1 a xs)∧R (Ite K a) H1
def Qul (ta:TA):TI:=fun σ H R=>ta σ H fun vs H1=>∃l,vs = [.str (S l)]∧ascii l=true∧R (Qtz l) H1
theorem Qko {l:List Nat} (h:ascii l=true):strIterType (S l) = "str_ascii_iterator":=by
 unfold strIterType;rw [if_pos];unfold ascii at h;rw [jj] at h;simp [S];intro i hi;simpa using h i hi
theorem Qp8 {a:Expr}{ta:TA}{p pos:Pos} (hg:Gl X "enumerate") (hm:X.mg "enumerate" = none) (ha:PA X [a] ta) (hs:starEach [a] X.env = [(false,eval a X.env)]:=by exact QhN rfl):PI X (.Tuple elts x1 tpos) (.Call (.Name "enumerate" p) [a] [] pos) (Quk X.K ta):=by
 intro pins s σ H R I h;refine Call_ (Qfr I hg hm boot_enumerate (PyProof.Rows.callWith_type1 (thn (ha pos pins s σ H _ I h) fun us s1 ⟨vs,H1,I1,r1,q1⟩=>?_) hs rfl));obtain ⟨l,e,⟨xs,hq⟩,q⟩:=q1;subst e;obtain ⟨u,rfl,ru⟩:=vals1 r1;cases ru;obtain ⟨its,rv,pl,hz⟩:=I1.list hq
 refine call_enumerate_list pl.isList fun h' he hit hsz hk=>wpAny_pyIter_enum he ?_
 refine ⟨s1.heap.objs.size+1,[s1.heap.objs.size+1,s1.heap.objs.size],_,_,H1,rfl,I1.kept (t':=s1.toks) hk,Qnk (s1.heap.objs.size+1) s1.heap.objs.size l (Nat.succ_ne_self _),⟨⟨_,he⟩,hit⟩,fun b hb=>?_,q⟩
 have hb':s1.heap.objs.size≤b:=by
  rcases zk.mp hb with rfl | hb
  ·exact Nat.le_succ _
  ·rw [zz.mp hb]; exact zc _
 exact I1.fpOk hb' (I1.hok.fresh hb')
theorem QpG {a:Expr}{ta:TA}{p pos:Pos} (hg:Gl X "enumerate") (hm:X.mg "enumerate" = none) (ha:PA X [a] ta) (hs:starEach [a] X.env = [(false,eval a X.env)]:=by exact QhN rfl):PI X (.Tuple elts x1 tpos) (.Call (.Name "enumerate" p) [a] [] pos) (Qul ta):=by
 intro pins s σ H R I h;refine Call_ (Qfr I hg hm boot_enumerate (PyProof.Rows.callWith_type1 (thn (ha pos pins s σ H _ I h) fun us s1 ⟨vs,H1,I1,r1,q1⟩=>?_) hs rfl));obtain ⟨l,e,hl,q⟩:=q1;subst e;obtain ⟨u,rfl,t,rfl⟩:=vals1 r1
 refine call_enumerate_str fun h' he hit hsz hk=>wpAny_pyIter_enum he ?_
 rw [Qko hl] at hit;refine ⟨s1.heap.objs.size+1,[s1.heap.objs.size+1,s1.heap.objs.size],_,_,H1,rfl,I1.kept (t':=s1.toks) hk,QmT (s1.heap.objs.size+1) s1.heap.objs.size l t (Nat.succ_ne_self _),⟨⟨_,he⟩,hit⟩,fun b hb=>?_,q⟩
 have hb':s1.heap.objs.size≤b:=by
  rcases zk.mp hb with rfl | hb
  ·exact Nat.le_succ _
  ·rw [zz.mp hb]; exact zc _
 exact I1.fpOk hb' (I1.hok.fresh hb')
end
def rW (K:Frag) (P:Pt):RR:=fun _ H F as v d=>Rp K F as v d∨∃a xs ds,v = .ref a∧d = .lst ds∧H a=some (.lst xs)∧a∉as∧P a∧Rps K F as xs ds
def WE (X:Cx) (md:List Md) (P:Pt) (e:Expr) (m:M D):Prop:=PE X e (tM X.K X.mg md P (rW X.K P) m)
section
variable {X:Cx}{md:List Md}{P:Pt}{R:RR}
theorem QuL {e:Expr}{m:M D} (h:VE X md P e m):WE X md P e m:=h.imp fun σ H Q q=>by
 obtain ⟨ρ,O,F,as,d,O',r,s,e,k⟩:=q;exact ⟨ρ,O,F,as,d,O',r,s,e,fun v H' F' as' g r' hv=>k v H' F' as' g r' (.inl hv)⟩
theorem Qgq (i:Nat) {x:Str}{pos:Pos} (hm:md[i]? = some .s:=by rfl) (hN:X.N[i]? = some x:=by rfl) (hv:Vis X.env.scope x:=by first | exact Or.inl rfl | exact Or.inr (Or.inl rfl) | exact Or.inr (Or.inr rfl))
  (hd:(x == ("__debug__":Str))=false:=by decide) (hcd:(x == ("__classdict__":Str))=false:=by decide):WE X md P (.Name x pos) (Qaa i):=by
 refine (Qet (i:=i) hN hv hd hcd).imp fun σ H Q h=>?_
 obtain ⟨ρ,O,F,as,d,O',r,s,e,k⟩:=h;obtain ⟨e1,rfl⟩:=QhQ e;obtain ⟨v,h2,h3⟩:=s.sl i .s d hm e1;exact ⟨v,h2,k v H F as Gr.refl r h3⟩
theorem Qiy {K:Frag}{mg:Str→Option Value}{N:Addr→Prop}{H F:Hp}{as:List Addr}{v:V}{ds:List D} (hv:rW K P N H F as v (.lst ds)) :
  ∃a xs,v = .ref a∧Rps K F as xs ds∧∀(H2 F2:Hp) (as2:List Addr),GrS P H F as H2 F2 as2→(∃O,RlO K mg O H2 F2 as2)→RdK K H2 a xs:=by
 rcases hv with hv | ⟨a,xs,ds',rfl,e,e3,e4,e5,e6⟩
 ·obtain ⟨a,xs,rfl,h1,h2⟩:=hv.unL;exact ⟨a,xs,rfl,h2,fun H2 F2 as2 g ⟨O,r⟩=>(h1.mono g.ff).mono r.fh⟩
 ·cases e;exact ⟨a,xs,rfl,e6,fun H2 F2 as2 g _=>.inl (.inl (g.fr _ _ e5 e3 e4 rfl))⟩
theorem QsF {tg e:Expr}{m:M D} (h:WE X md P e m):VI X md P tg e (Qc1 m):=(Qjz h).imp fun σ H Q q=>by
 obtain ⟨ρ,O,F,as,ds,O',r,s,e,k⟩:=q;obtain ⟨d,O1,e1,e⟩:=Res.bind_ok e
 cases d with
 | lst es =>
  cases e;refine ⟨ρ,_,F,as,_,_,r,s,e1,fun v H1 F1 as1 g1 r1 hv=>?_⟩;obtain ⟨a,xs,rfl,h1,h2⟩:=Qiy (mg:=X.mg) hv;exact ⟨a,rfl,⟨xs,(h2 H1 F1 as1 GrS.refl ⟨_,r1⟩).sq⟩,k _ H1 F1 as1 g1 r1 (QkU h1 h2)⟩
 | _=>cases e
theorem QoA {tg e:Expr}{m:M D} (h:VE X md P e m):VI X md P tg e (Qnv m):=(Qtb h).imp fun σ H Q q=>by
 obtain ⟨ρ,O,F,as,ds,O',r,s,e,k⟩:=q;obtain ⟨d,O1,e1,e⟩:=Res.bind_ok e
 cases d with
 | tup es =>
  cases e;refine ⟨ρ,_,F,as,_,_,r,s,e1,fun v H1 F1 as1 g1 r1 hv=>?_⟩;obtain ⟨a,xs,rfl,h1,h2⟩:=Rp.unT hv
  have hp:∀(H2 F2:Hp) (as2:List Addr),GrS P H1 F1 as1 H2 F2 as2→(∃O,RlO X.K X.mg O H2 F2 as2)→SqT X.K H2 a xs:=fun H2 F2 as2 g ⟨O,r⟩=>Same.seqT r.fh (Same.seqT g.ff h1)
  refine ⟨a,rfl,⟨xs,hp H1 F1 as1 GrS.refl ⟨_,r1⟩⟩,k _ H1 F1 as1 g1 r1 ⟨fun i d H2 F2 as2 g r e=>?_,fun H2 F2 as2 g r=>⟨xs,hp H2 F2 as2 g r,by rw [h2.length]; exact zc _⟩⟩⟩;obtain ⟨x,h3,h4⟩:=h2.get' e;have q:=hp H2 F2 as2 g r;refine ⟨⟨xs,x,q,h3⟩,fun y H3 hy=>?_⟩;obtain ⟨rfl,hy⟩:=hy
  have:=hy xs q
  rw [h3] at this;cases this;exact ⟨F2,Gr.refl,fun _ r=>r,h4.grS g⟩
 | _=>cases e
def Qa1 (l:List Nat):List D:=l.map fun c=>.str [c]
def QmB (m:M D):M (List D):=fun ρ O=>(m ρ O).bind fun d O1=>match d with
 | .str l=>if ascii l=true then .ok (Qa1 l) O1 else .no
 | _=>.no
theorem Qlq {K:Frag}{mg:Str→Option Value}{J:It}{ds:List D}{H F:Hp}{as:List Addr} (h1:∀(i:Nat) (d:D) (H2:Hp),ds[i]? = some d→J.go i H2∧∀x H3,J.yld i H2 x H3→H3=H2∧∀K F as,Rp K F as x d) (h2:∀H2,J.stop ds.length H2):JOk K mg P J ds H F as :=
 ⟨fun i d H2 F2 as2 _ _ e=>⟨(h1 i d H2 e).1,fun x H3 y=>by
  obtain ⟨rfl,hx⟩:=(h1 i d H2 e).2 x H3 y
  exact ⟨F2,Gr.refl,fun _ r=>r,hx _ _ _⟩⟩,fun H2 _ _ _ _=>h2 H2⟩
theorem QoC {tg e:Expr}{m:M D} (h:SE X md P e m):VI X md P tg e (QmB m):=(QtY h).imp fun σ H Q q=>by
 obtain ⟨ρ,O,F,as,ds,O',r,s,e,k⟩:=q;obtain ⟨d,O1,e1,e⟩:=Res.bind_ok e
 cases d with
 | str l =>
  dsimp only at e;split at e
  ·rename_i hl;cases e;refine ⟨ρ,_,F,as,_,_,r,s,e1,fun v H1 F1 as1 g1 r1 hv=>?_⟩;refine ⟨l,(Sv.rp hv rfl).unS,hl,k _ H1 F1 as1 g1 r1 (Qlq (fun i d H2 e=>?_) fun H2=>by simp [Qa1,Its])⟩;unfold Qa1 at e;rw [zG] at e
   cases q:l[i]? with
   | none=>rw [q] at e; cases e
   | some c =>
    rw [q] at e;cases e;refine ⟨(zn.mp q).1,fun x H3 y=>?_⟩;obtain ⟨e1,c',e2,rfl⟩:=y;rw [q] at e2;cases e2;exact ⟨e1,fun _ _ _=>Rp.str⟩
  ·cases e
 | _=>cases e
def QdY (lo:Int) (n:Nat):List D:=(List.range n).map fun (k:Nat)=>.int (lo+(k:Int))
def QhR (m:M (List D)):M (List D):=fun ρ O=>(m ρ O).bind fun ds O1=>match ds with
 | [.int j]=>if j≤1000000000∧-1000000000≤j then .ok (QdY 0 j.toNat) O1 else .no
 | _=>.no
theorem Qoh {K:Frag}{mg:Str→Option Value}{lo:Int}{n:Nat}{H F:Hp}{as:List Addr}:JOk K mg P (Itr lo n) (QdY lo n) H F as:=Qlq (fun i d H2 e=>by
 unfold QdY at e;rw [zG] at e
 by_cases hi:i < n
 ·rw [List.getElem?_range hi] at e;cases e;refine ⟨hi,fun x H3 y=>?_⟩;obtain ⟨e1,rfl⟩:=y;exact ⟨e1,fun _ _ _=>Rp.int⟩
 ·rw [List.getElem?_eq_none (by simpa using hi)] at e
  cases e) fun H2=>by simp [QdY,Itr]
theorem Qby.one {K:Frag}{H F:Hp}{as:List Addr}{m:Md}{vs:List V}{d:D} (h:Qby K H F as [m] vs [d]):∃v,vs = [v]∧rA K m (fun _=>True) H F as v d:=by
 cases vs with
 | nil=>exact h.elim
 | cons v vs =>
  cases vs with
  | nil=>exact ⟨v,rfl,h.1⟩
  | cons u us=>exact h.2.elim
theorem Qj1 {tg a:Expr}{p pos:Pos}{m:M (List D)} (hm:X.mg "range" = none) (ha:AE X md P [.s] [a] m) (hg:Gl X "range":=by rfl) (hs:starEach [a] X.env = [(false,eval a X.env)]:=by exact QhN rfl):VI X md P tg (.Call (.Name "range" p) [a] [] pos) (QhR m):=(QnW hg hm ha hs).imp fun σ H Q q=>by
 obtain ⟨ρ,O,F,as,ds,O',r,s,e,k⟩:=q;obtain ⟨es,O1,e1,e⟩:=Res.bind_ok e;split at e
 ·rename_i j;split at e
  ·rename_i hj;cases e;refine ⟨ρ,_,F,as,_,_,r,s,e1,fun vs H1 F1 as1 g1 r1 hv=>?_⟩;obtain ⟨v,rfl,hv1⟩:=hv.one
   have:=(Sv.rp hv1 rfl).unI
   subst this;exact ⟨j,rfl,by omega,by omega,k _ H1 F1 as1 g1 r1 Qoh⟩
  ·cases e
 ·cases e
def Qbz:Nat→List D→List D
 | _,[]=>[]
 | k,d::ds=>.tup [.int k,d]::Qbz (k+1) ds
theorem QfA:∀(k:Nat) (ds:List D),(Qbz k ds).length=ds.length
 | _,[]=>rfl
 | k,d::ds=>by simp [Qbz,QfA (k+1) ds]
theorem QfG:∀(k:Nat) (ds:List D) (i:Nat),(Qbz k ds)[i]? = (ds[i]?).map fun d=>.tup [.int ((k+i:Nat):Int),d]
 | k,[],i=>by simp [Qbz]
 | k,d::ds,0=>by simp [Qbz]
 | k,d::ds,i+1=>by
  rw [Qbz,zV,zV,QfG (k+1) ds i];congr 1
  funext d
  congr 3;omega
theorem Qie {K:Frag}{mg:Str→Option Value}{H2 F2:Hp}{as2:List Addr}{T:Addr}{xs:List V}{ds:List D} (hr:∃O,RlO K mg O H2 F2 as2) (hT:H2 T=none) (hx:Rps K F2 as2 xs ds) :
  ∃F3,Gr H2 F2 as2 (upd H2 T (.tup xs)) F3 as2∧(∀O,RlO K mg O H2 F2 as2→RlO K mg O (upd H2 T (.tup xs)) F3 as2)∧Rp K F3 as2 (.ref T) (.tup ds):=by
 obtain ⟨O,r⟩:=hr;have hF:=r.frF hT
 have ff:Same F2 (upd F2 T (.tup xs)):=fun b u q=>by rw [Qaj (Qau q hF)]; exact q
 exact ⟨upd F2 T (.tup xs),(Gr.lay hT).frz hT hF,fun O' r'=>(r'.lay hT).frz QaC hF (fun z=>r'.all z hT) rfl,Rp.mkT (.inl QaC) (Rps.mono ff (fun _ _ z=>z) _ hx)⟩
def QoV (m:M D):M (List D):=fun ρ O=>(m ρ O).bind fun d O1=>match d with
 | .lst ds=>.ok (Qbz 0 ds) O1
 | _=>.no
def QnE (m:M D):M (List D):=fun ρ O=>(m ρ O).bind fun d O1=>match d with
 | .str l=>if ascii l=true then .ok (Qbz 0 (Qa1 l)) O1 else .no
 | _=>.no
variable {elts:List Expr}{x1:Nat}{tpos:Pos}
theorem Qpw {a:Expr}{p pos:Pos}{m:M D} (hm:X.mg "enumerate" = none) (h:WE X md P a m) (hg:Gl X "enumerate":=by rfl) (hs:starEach [a] X.env = [(false,eval a X.env)]:=by exact QhN rfl) (hs':starEach [a] X.env=(false,eval a X.env)::starEach [] X.env:=by exact Qa3 rfl) :
  VI X md P (.Tuple elts x1 tpos) (.Call (.Name "enumerate" p) [a] [] pos) (QoV m):=(Qp8 hg hm (QbA h Qcp hs') hs).imp fun σ H Q q=>by
 obtain ⟨ρ,O,F,as,ds,O',r,s,e,k⟩:=q;obtain ⟨d,O1,e1,e⟩:=Res.bind_ok e
 cases d with
 | lst es =>
  cases e;refine ⟨ρ,_,F,as,_,_,r,s,e1,fun v H1 F1 as1 g1 r1 hv=>?_⟩;obtain ⟨a,xs,rfl,h1,h2⟩:=Qiy (mg:=X.mg) hv;refine ⟨a,rfl,⟨xs,(h2 H1 F1 as1 GrS.refl ⟨_,r1⟩).sq⟩,k _ H1 F1 as1 g1 r1 ⟨fun i d H2 F2 as2 g r e=>?_,fun H2 F2 as2 g r=>⟨xs,(h2 H2 F2 as2 g r).sq,by rw [QfA,h1.length]; exact zc _⟩⟩⟩;rw [QfG] at e
  cases q:es[i]? with
  | none=>rw [q] at e; cases e
  | some y =>
   rw [q] at e;cases e;obtain ⟨x,h3,h4⟩:=h1.get' q;have hq:=h2 H2 F2 as2 g r;refine ⟨⟨xs,x,hq.sq,h3⟩,fun z H3 hz=>?_⟩;obtain ⟨T,x',rfl,hT,rfl,hx'⟩:=hz
   have:=hx' xs hq.sq
   rw [h3] at this;cases this;rw [Nat.zero_add];exact Qie r hT (Rps.cons Rp.int (Rps.cons (h4.grS g) Rps.nil))
 | _=>cases e
theorem Qpt {a:Expr}{p pos:Pos}{m:M D} (hm:X.mg "enumerate" = none) (h:SE X md P a m) (hg:Gl X "enumerate":=by rfl) (hs:starEach [a] X.env = [(false,eval a X.env)]:=by exact QhN rfl) (hs':starEach [a] X.env=(false,eval a X.env)::starEach [] X.env:=by exact Qa3 rfl) :
  VI X md P (.Tuple elts x1 tpos) (.Call (.Name "enumerate" p) [a] [] pos) (QnE m):=(QpG hg hm (QbA h Qcp hs') hs).imp fun σ H Q q=>by
 obtain ⟨ρ,O,F,as,ds,O',r,s,e,k⟩:=q;obtain ⟨d,O1,e1,e⟩:=Res.bind_ok e
 cases d with
 | str l =>
  dsimp only at e;split at e
  ·rename_i hl;cases e;refine ⟨ρ,_,F,as,_,_,r,s,e1,fun v H1 F1 as1 g1 r1 hv=>?_⟩;refine ⟨l,by rw [(Sv.rp hv rfl).unS],hl,k _ H1 F1 as1 g1 r1 ⟨fun i d H2 F2 as2 g r e=>?_,fun H2 F2 as2 g r=>?_⟩⟩
   ·rw [QfG] at e;unfold Qa1 at e;rw [zG] at e
    cases q:l[i]? with
    | none=>rw [q] at e; cases e
    | some c =>
     rw [q] at e;cases e;refine ⟨(zn.mp q).1,fun z H3 hz=>?_⟩;obtain ⟨T,c',rfl,hT,rfl,hc'⟩:=hz;rw [q] at hc';cases hc';rw [Nat.zero_add];exact Qie r hT (Rps.cons Rp.int (Rps.cons Rp.str Rps.nil))
   ·show l.length≤_;rw [QfA];simp [Qa1]
  ·cases e
 | _=>cases e
def Qed:List D→Option (List (List Nat))
 | []=>some []
 | .str l::ds=>(Qed ds).map (l :: ·)
 | _=>none
theorem Rps.strs {K:Frag}{F:Hp}{as:List Addr}:∀{ds:List D}{xs:List V}{ls:List (List Nat)},Rps K F as xs ds→Qed ds=some ls→xs=ls.map fun l=>V.str (S l)
 | [],xs,bs,h,e=>by cases e; rw [h.un0]; rfl
 | d::ds,xs,bs,h,e=>by
  obtain ⟨x,r,rfl,h2,h3⟩:=h.un
  cases d with
  | str b =>
   unfold Qed at e
   cases q:Qed ds with
   | none=>rw [q] at e; cases e
   | some cs =>
    rw [q] at e;cases e;rw [h2.unS,Rps.strs h3 q];rfl
  | _=>cases e
def Qks (m:M D):M D:=fun ρ O=>(m ρ O).bind fun d O1=>match QaX O1 d with
 | .lst ds=>match Qed ds with
  | some ls=>if (ls.map List.length).sum≤1000000 then .ok (.str ls.flatten) O1 else .no
  | none=>.no
 | _=>.no
theorem QsI {e:Expr}{j:Nat}{p apos cpos:Pos}{m:M D} (h:SE X md P e m) {x:Str} (hx:x=S []:=by decide +kernel)
  (hfew:((backTo cpos (starEach [e] X.env)).all (fun x=>!x.1)&&(backToKw cpos (keywordEach [] X.env)).all (fun x=>x.1.isSome)&&decide ([e].length+([]:List Keyword).length+(if ([]:List Keyword).isEmpty then 0 else 1) < 30))=true:=by rfl)
  (hline:(apos.endLine == cpos.line)=true:=by rfl) (hs:starEach [e] X.env=(false,eval e X.env)::starEach [] X.env:=by exact Qa3 rfl) (hbase:attributeBase (.Constant (.str x) j p) "join" X.env (eval (.Constant (.str x) j p) X.env)=eval (.Constant (.str x) j p) X.env:=by rfl) (hplain:(backTo cpos (starEach [] X.env)).any (·.1)=false:=by exact Qa5 rfl) :
  OE X md P (.Call (.Attribute (.Constant (.str x) j p) "join" apos) [e] [] cpos) (Qks m) :=
 (QkA PySem.F.plainAttrs_str PySem.F.slot_str_join PySem.F.type_str_join (Qpj X.K) (QnQ (x:=x)) (QbA h Qcp hs) hbase hfew hline hs hplain).imp fun σ H Q q=>by
  obtain ⟨ρ,O,F,as,d,O',r,s,e,k⟩:=q;obtain ⟨y,O1,e1,e⟩:=Res.bind_ok e
  cases ed:QaX O1 y with
  | lst ds =>
   rw [ed] at e;dsimp only at e
   cases es:Qed ds with
   | none=>rw [es] at e; cases e
   | some ls =>
    rw [es] at e;dsimp only at e;split at e
    ·rename_i hz;cases e;refine ⟨rfl,ρ,_,F,as,_,_,r,s,e1,fun v H1 F1 as1 g1 r1 hv=>?_⟩;have q:=Sv.lk hv r1;rw [ed] at q;obtain ⟨a,xs,rfl,h1,h2⟩:=q.list r1.fh;refine ⟨a,ls,by rw [hx],rfl,?_,hz,k _ H1 F1 as1 g1 r1 (.inl ⟨rfl,Rp.str⟩)⟩;rw [←h2.strs es];exact h1.sq
    ·cases e
  | _=>rw [ed] at e; cases e
def QhP (mo m:M D):M D:=fun ρ O=>(mo ρ O).bind fun a O1=>(m ρ O1).bind fun b O2=>match a,b with
 | .str l,.str n=>.ok (.bl (decide (l.take n.length=n))) O2
 | _,_=>.no
theorem Qkf {o e:Expr}{apos cpos:Pos}{mo m:M D} (ho:VE X md P o mo) (h:VE X md P e m)
  (hbase:attributeBase o "startswith" X.env (eval o X.env)=eval o X.env:=by rfl)
  (hfew:((backTo cpos (starEach [e] X.env)).all (fun x=>!x.1)&&(backToKw cpos (keywordEach [] X.env)).all (fun x=>x.1.isSome)&&decide ([e].length+([]:List Keyword).length+(if ([]:List Keyword).isEmpty then 0 else 1) < 30))=true:=by rfl)
  (hline:(apos.endLine == cpos.line)=true:=by rfl) (hs:starEach [e] X.env=(false,eval e X.env)::starEach [] X.env:=by exact Qa3 rfl) (hplain:(backTo cpos (starEach [] X.env)).any (·.1)=false:=by exact Qa5 rfl) :
  OE X md P (.Call (.Attribute o "startswith" apos) [e] [] cpos) (QhP mo m) :=
 (QkA PySem.F.plainAttrs_str PySem.F.slot_str_startswith PySem.F.type_str_startswith Qom ho (QbA h Qcp hs) hbase hfew hline hs hplain).imp fun σ H Q q=>by
  obtain ⟨ρ,O,F,as,d,O',r,s,e,k⟩:=q;obtain ⟨a,O1,e1,e⟩:=Res.bind_ok e;obtain ⟨b,O2,e2,e⟩:=Res.bind_ok e;split at e
  ·cases e;refine ⟨ρ,_,F,as,_,_,r,s,e1,fun v H1 F1 as1 g1 r1 hv=>?_⟩;cases Rp.unS hv;refine ⟨rfl,ρ,_,F1,as1,_,_,r1,s.step g1,e2,fun u H2 F2 as2 g2 r2 hu=>?_⟩;cases Rp.unS hu;exact ⟨_,_,rfl,rfl,k _ H2 F2 as2 (g1.trans g2) r2 (.inl ⟨rfl,Rp.bl⟩)⟩
  ·cases e
end
section
variable {K:Frag}{mg:Str→Option Value}{md:List Md}{P:Pt}{ρ:Qak}{σ:St}{H F:Hp}{as:List Addr}{O:Qac}{i:Nat}{a:Addr}{xs xs':List V}{ds ds':List D}
theorem SlO.own (s:SlO K md P ρ σ H F as) (hm:md[i]? = some .o) (hρ:ρ[i]? = some (some (.lst ds))):∃a xs,σ[i]? = some (some (.ref a))∧H a=some (.lst xs)∧F a=none∧a∉as∧¬P a∧Rps K F as xs ds:=by
 obtain ⟨v,h1,h2⟩:=s.sl i .o _ hm hρ
 rcases h2 with ⟨h2,_⟩ | ⟨a,xs,es,rfl,e2,e3,e0,e4,e5,e6⟩
 ·cases h2
 ·cases e2;exact ⟨a,xs,h1,e3,e0,e4,e5,e6⟩
theorem SlO.mut (s:SlO K md P ρ σ H F as) (hm:md[i]? = some .o) (hρ:ρ[i]? = some (some (.lst ds))) (hσ:σ[i]? = some (some (.ref a))) (hF:F a=none) (ha:a∉as) (hP:¬P a) (r:Rps K F as xs' ds'):SlO K md P (ρ.set i (some (.lst ds'))) σ (upd H a (.lst xs')) F as:=by
 have hi:i < md.length:=(zn.mp hm).1;refine ⟨s.len,by rw [zQ]; exact s.len',fun c p=>?_,fun j m d e1 e2=>?_,fun j k c es fs h1 h2 h3 h4 h5 h6=>?_,fun x hx=>?_⟩
 ·have:=s.pd c p
  unfold upd
  split
  ·exact fun z=>nomatch z
  ·exact this
 ·by_cases h:i=j
  ·subst h;rw [hm] at e1; cases e1;rw [zE (by rw [s.len']; exact hi)] at e2;cases e2;exact ⟨_,hσ,.inr ⟨a,xs',ds',rfl,rfl,QaC,hF,ha,hP,r⟩⟩
  ·rw [zq h] at e2;obtain ⟨v,q1,q2⟩:=s.sl j m d e1 e2;refine ⟨v,q1,?_⟩
   cases m with
   | v=>exact q2
   | s =>
    rcases q2 with q2 | ⟨c,ys,es,z1,z2,z3,z4,z5,z6⟩
    ·exact .inl q2
    ·exact .inr ⟨c,ys,es,z1,z2,by rw [Qaj (fun z=>hP (by rw [←z]; exact z5))]; exact z3,z4,z5,z6⟩
   | o =>
    rcases q2 with q2 | ⟨c,ys,es,z1,z2,z3,z0,z4,z5,z6⟩
    ·exact .inl q2
    ·refine .inr ⟨c,ys,es,z1,z2,?_,z0,z4,z5,z6⟩;rw [Qaj]
     ·exact z3
     ·intro z;subst z z1 z2;exact h (s.inj i j c ds es hm e1 hρ e2 hσ q1)
 ·have f:∀k es,(ρ.set i (some (.lst ds')))[k]? = some (some (D.lst es))→∃es',ρ[k]? = some (some (D.lst es')):=fun k es q=>by
   by_cases h:i=k
   ·subst h; exact ⟨ds,hρ⟩
   ·rw [zq h] at q; exact ⟨es,q⟩
  obtain ⟨es',q3⟩:=f j es h3;obtain ⟨fs',q4⟩:=f k fs h4;exact s.inj j k c es' fs' h1 h2 q3 q4 h5 h6
 ·obtain ⟨p1,p2,p3⟩:=s.pin x hx
  have hne:i≠x.1:=fun z=>by rw [←z,hm] at p1; cases p1
  exact ⟨p1,by rw [zq hne]; exact p2,p3⟩
theorem QoF {xs:List V} (hH:H a=some (.lst xs)) (hP:¬P a) {o:HO}:GrS P H F as (upd H a o) F as :=
 ⟨fun _ _ _ _ _ _=>rfl,Same.refl F,⟨[],by simp,fun _ h=>nomatch h⟩,fun c u p e _ _=>by rw [Qaj (fun z=>hP (by rw [←z]; exact p))]; exact e,fun c e=>by
  by_cases h:c=a
  ·subst h; rw [QaC] at e; cases e
  ·rwa [Qaj h] at e,fun c o' u e=>by rw [Qaj (fun z=>by rw [z,hH] at e; cases e)]; exact e⟩
theorem RlO.mut (r:RlO K mg O H F as) (hF:F a=none) (ha:a∉as) {o:HO}:RlO K mg O (upd H a o) F as:=by
 refine ⟨fun c u e=>?_,r.fd,r.nd,r.len,r.fa,fun n c u hc hu=>(r.ob n c u hc hu).keep (Qaj ?_) (Same.refl F) fun _ _ h=>h⟩
 ·rw [Qaj (Qau e hF)]; exact r.fh c u e
 ·intro z; subst z; exact ha (zO hc)
end
section
variable {X:Cx}{md:List Md}{P:Pt}{R:RR}
def QbC (i:Nat) (m:M D):MS:=fun ρ O=>match m ρ O with
 | .ok d O'=>match ρ[i]? with
  | some (some (.lst ds))=>if ds.length < 1000000 then .nx (ρ.set i (some (.lst (ds ++ [d])))) O' else .no
  | _=>.no
 | .ex x O'=>.ex x O'
 | .no=>.no
theorem QoP {i:Nat}{m:M D}{ρ:Qak}{O:Qac} (K:Frag) (mg:Str→Option Value) {D:Ends}{H F:Hp}{as:List Addr} (k:QeE K mg md P R D H F as (QbC i m ρ O)) :
  ∃d O' ds,m ρ O = .ok d O'∧ρ[i]? = some (some (.lst ds))∧ds.length < 1000000∧QeE K mg md P R D H F as (.nx (ρ.set i (some (.lst (ds ++ [d])))) O'):=by
 unfold QbC at k;split at k
 ·rename_i d O' e;split at k
  ·rename_i ds e2;split at k
   ·rename_i hz;exact ⟨d,O',ds,e,e2,hz,k⟩
   ·exact False.elim k
  ·exact False.elim k
 ·exact False.elim k
 ·exact False.elim k
theorem QcP (i:Nat) {x:Str}{p apos cpos pos:Pos}{e:Expr}{m:M D} (h:VE X md P e m) (hm:md[i]? = some .o:=by rfl) (hN:X.N[i]? = some x:=by rfl) (hv:Vis X.env.scope x:=by first | exact Or.inl rfl | exact Or.inr (Or.inl rfl) | exact Or.inr (Or.inr rfl))
  (hd:(x == ("__debug__":Str))=false:=by decide) (hcd:(x == ("__classdict__":Str))=false:=by decide)
  (hbase:attributeBase (.Name x p) "append" X.env (eval (.Name x p) X.env)=eval (.Name x p) X.env:=by rfl)
  (hfew:((backTo cpos (starEach [e] X.env)).all (fun x=>!x.1)&&(backToKw cpos (keywordEach [] X.env)).all (fun x=>x.1.isSome)&&decide ([e].length+([]:List Keyword).length+(if ([]:List Keyword).isEmpty then 0 else 1) < 30))=true:=by rfl)
  (hline:(apos.endLine == cpos.line)=true:=by rfl) (hs:starEach [e] X.env=(false,eval e X.env)::starEach [] X.env:=by exact Qa3 rfl) (hplain:(backTo cpos (starEach [] X.env)).any (·.1)=false:=by exact Qa5 rfl)
  (hsw:swapsWith (.Call (.Attribute (.Name x p) "append" apos) [e] [] cpos) none pos.line X.env=pure false:=by rfl) :
  VS X md P R (.Expr (.Call (.Attribute (.Name x p) "append" apos) [e] [] cpos) pos) (QbC i m) :=
 (Qjh (QkA PySem.F.plainAttrs_list PySem.F.slot_list_append PySem.F.type_list_append QnY (Qet (i:=i) hN hv hd hcd) (QbA h Qcp hs) hbase hfew hline hs hplain) hsw).imp fun D σ H q=>by
  obtain ⟨ρ,O,F,as,r,s,k⟩:=q;obtain ⟨d,O',ds,e,e2,hz,k⟩:=QoP X.K X.mg k;obtain ⟨a,xs,h1,h2,h3,h4,h5,h6⟩:=s.own hm e2;refine ⟨_,h1,.inl ⟨rfl,xs,.inl (.inl h2)⟩,ρ,O,F,as,d,O',r,s,e,fun y H1 F1 as1 g1 r1 hy=>?_⟩;have s1:=s.step g1
  have hn:H a≠none:=by rw [h2]; exact fun z=>nomatch z
  have q2:=g1.fr _ _ h2 h4 rfl
  have q3:F1 a=none:=by rw [g1.fz a _ h2 h4 rfl]; exact h3
  have q4:=g1.out h4 hn
  have hn1:H1 a≠none:=by rw [q2]; exact fun z=>nomatch z
  exact ⟨a,xs,y,rfl,rfl,q2,by rw [h6.length]; exact zv hz (by decide),k σ _ F1 as1 (g1.toS.trans (QoF q2 h5)) (r1.mut q3 q4) (s1.mut hm e2 h1 q3 q4 h5 ((h6.gr g1).snoc hy))⟩
def QvB (K:Frag):V→List V→Hp→VK→Prop:=fun x vs H Q=>∃l b xs zs,x = .ref l∧vs = [.ref b]∧H l=some (.lst xs)∧RdK K H b zs∧xs.length+zs.length≤sizeLine∧Q .non (upd H l (.lst (xs++zs)))
theorem QsG:MtM X "list.extend" (QvB X.K):=by
 intro pins s σ H x vs v us Q I rx rv h;obtain ⟨l,b,xs,zs,rfl,rfl,hH,hB,hz,q⟩:=h;cases rx;obtain ⟨u,rfl,ru⟩:=rv.one;cases ru;obtain ⟨z,its,n,r,hl,e⟩:=I.lstM hH;obtain ⟨z2,its2,n2,r2,e2⟩:=hB.ok I;have hl2:=r2.length
 have hsz:its.toArray.size+its2.toArray.size≤sizeLine:=by rw [zo,zo]; omega
 have hlong:¬(!its.toArray.isEmpty&&Builtin.List.listTooLong (its.toArray.size+its2.toArray.size))=true:=by
  rw [QgD hsz,Bool.and_false];exact zf
 refine call_meets F.slot_list_extend ⟨_,e,rfl⟩ F.entry_list_extend (F.args_list_extend_2 _ _)
  (AutoSeq1.list_extend_list_list_0 l its.toArray n b its2.toArray n2 hlong (by rw [zo]; omega) (by omega)) ⟨e,e2,?_⟩
 refine ⟨.non,_,I.lset (its':=its++its2) hH e (by simp) (r.append r2) ?_,rfl,q⟩;rw [zr];omega
def QhV (i:Nat) (m:M D):MS:=fun ρ O=>match m ρ O with
 | .ok d O'=>match ρ[i]?,QaX O' d with
  | some (some (.lst ds)),.lst es=>if ds.length+es.length≤1000000 then .nx (ρ.set i (some (.lst (ds++es)))) O' else .no
  | _,_=>.no
 | .ex x O'=>.ex x O'
 | .no=>.no
theorem QnJ {i:Nat}{m:M D}{ρ:Qak}{O:Qac} (K:Frag) (mg:Str→Option Value) {D:Ends}{H F:Hp}{as:List Addr} (k:QeE K mg md P R D H F as (QhV i m ρ O)) :
  ∃d O' ds es,m ρ O = .ok d O'∧ρ[i]? = some (some (.lst ds))∧QaX O' d = .lst es∧ds.length+es.length≤1000000∧QeE K mg md P R D H F as (.nx (ρ.set i (some (.lst (ds++es)))) O'):=by
 unfold QhV at k;split at k
 ·rename_i d O' e;split at k
  ·rename_i ds es e2 e3;split at k
   ·rename_i hz;exact ⟨d,O',ds,es,e,e2,e3,hz,k⟩
   ·exact False.elim k
  ·exact False.elim k
 ·exact False.elim k
 ·exact False.elim k
theorem Qo2 (i:Nat) {x:Str}{p apos cpos pos:Pos}{e:Expr}{m:M D} (h:SE X md P e m) (hm:md[i]? = some .o:=by rfl) (hN:X.N[i]? = some x:=by rfl) (hv:Vis X.env.scope x:=by first | exact Or.inl rfl | exact Or.inr (Or.inl rfl) | exact Or.inr (Or.inr rfl))
  (hd:(x == ("__debug__":Str))=false:=by decide) (hcd:(x == ("__classdict__":Str))=false:=by decide)
  (hbase:attributeBase (.Name x p) "extend" X.env (eval (.Name x p) X.env)=eval (.Name x p) X.env:=by rfl)
  (hfew:((backTo cpos (starEach [e] X.env)).all (fun x=>!x.1)&&(backToKw cpos (keywordEach [] X.env)).all (fun x=>x.1.isSome)&&decide ([e].length+([]:List Keyword).length+(if ([]:List Keyword).isEmpty then 0 else 1) < 30))=true:=by rfl)
  (hline:(apos.endLine == cpos.line)=true:=by rfl) (hs:starEach [e] X.env=(false,eval e X.env)::starEach [] X.env:=by exact Qa3 rfl) (hplain:(backTo cpos (starEach [] X.env)).any (·.1)=false:=by exact Qa5 rfl)
  (hsw:swapsWith (.Call (.Attribute (.Name x p) "extend" apos) [e] [] cpos) none pos.line X.env=pure false:=by rfl) :
  VS X md P R (.Expr (.Call (.Attribute (.Name x p) "extend" apos) [e] [] cpos) pos) (QhV i m) :=
 (Qjh (QkA PySem.F.plainAttrs_list PySem.F.slot_list_extend PySem.F.type_list_extend QsG (Qet (i:=i) hN hv hd hcd) (QbA h Qcp hs) hbase hfew hline hs hplain) hsw).imp fun D σ H q=>by
  obtain ⟨ρ,O,F,as,r,s,k⟩:=q;obtain ⟨d,O',ds,es,e,e2,e3,hz,k⟩:=QnJ X.K X.mg k;obtain ⟨a,xs,h1,h2,h3,h4,h5,h6⟩:=s.own hm e2;refine ⟨_,h1,.inl ⟨rfl,xs,.inl (.inl h2)⟩,ρ,O,F,as,d,O',r,s,e,fun y H1 F1 as1 g1 r1 hy=>?_⟩;have s1:=s.step g1
  have hn:H a≠none:=by rw [h2]; exact fun z=>nomatch z
  have q2:=g1.fr _ _ h2 h4 rfl
  have q3:F1 a=none:=by rw [g1.fz a _ h2 h4 rfl]; exact h3
  have q4:=g1.out h4 hn
  have hn1:H1 a≠none:=by rw [q2]; exact fun z=>nomatch z
  have ly:=Sv.lk hy r1;rw [e3] at ly;obtain ⟨b,zs,rfl,w1,w2⟩:=ly.list r1.fh;exact ⟨a,b,xs,zs,rfl,rfl,q2,w1,by rw [h6.length,w2.length]; exact Qdu hz,k σ _ F1 as1 (g1.toS.trans (QoF q2 h5)) (r1.mut q3 q4) (s1.mut hm e2 h1 q3 q4 h5 (Rps.append w2 (h6.gr g1)))⟩
end
def putD (f:Str) (v:D):List (Str×D)→List (Str×D)
 | []=>[(f,v)]
 | (g,x)::r=>if g=f then (g,v)::r else (g,x)::putD f v r
section
variable {K:Frag}{F:Hp}{as:List Addr}
theorem FsR.cons_inv {gs:List (Str×V)}{f:Str}{d:D}{fs:List (Str×D)} (h:FsR K F as gs ((f,d)::fs)):∃v gs',gs=(f,v)::gs'∧Rp K F as v d∧FsR K F as gs' fs:=by
 obtain ⟨h1,h2⟩:=h
 cases gs with
 | nil=>cases h1
 | cons g gs' =>
  obtain ⟨g1,g2⟩:=g;simp only [ze,List.cons.injEq] at h1;obtain ⟨x,r,e,h3,h4⟩:=h2.un;simp only [ze,List.cons.injEq] at e;obtain ⟨rfl,rfl⟩:=e;exact ⟨g2,gs',by rw [h1.1],h3,⟨h1.2,h4⟩⟩
theorem FsR.nil_inv {gs:List (Str×V)} (h:FsR K F as gs []):gs = []:=List.map_eq_nil_iff.mp h.nm
theorem FsR.get:∀{fs:List (Str×D)}{gs:List (Str×V)}{f:Str}{d:D},FsR K F as gs fs→fs.lookup f=some d→∃v,gs.lookup f=some v∧Rp K F as v d
 | [],_,_,_,_,e=>by cases e
 | (g,x)::fs,gs,f,d,h,e=>by
  obtain ⟨v,gs',rfl,h1,h2⟩:=h.cons_inv;rw [List.lookup_cons] at e ⊢
  cases q:f == g with
  | true =>
   rw [q] at e;cases e;exact ⟨v,rfl,h1⟩
  | false =>
   rw [q] at e;exact FsR.get h2 e
theorem FsR.no:∀{fs:List (Str×D)}{gs:List (Str×V)}{f:Str},FsR K F as gs fs→fs.lookup f=none→gs.lookup f=none
 | [],_,_,h,e=>by rw [h.nil_inv]; rfl
 | (g,x)::fs,gs,f,h,e=>by
  obtain ⟨v,gs',rfl,h1,h2⟩:=h.cons_inv;rw [List.lookup_cons] at e ⊢
  cases q:f == g with
  | true=>rw [q] at e; cases e
  | false =>
   rw [q] at e;exact FsR.no h2 e
theorem FsR.put {f:Str}{v:V}{d:D} (hv:Rp K F as v d):∀{fs:List (Str×D)}{gs:List (Str×V)},FsR K F as gs fs→FsR K F as (Qcx f v gs) (putD f d fs)
 | [],_,h=>by
  rw [h.nil_inv];exact ⟨rfl,Rps.cons hv Rps.nil⟩
 | (g,x)::fs,gs,h=>by
  obtain ⟨u,gs',rfl,h1,h2⟩:=h.cons_inv;rw [Qcx,putD]
  by_cases q:g=f
  ·rw [if_pos q,if_pos q];exact ⟨by simp [h2.nm],Rps.cons hv h2.vl⟩
  ·rw [if_neg q,if_neg q];have ih:=FsR.put (f:=f) hv h2;exact ⟨by simp [ih.nm],Rps.cons h1 ih.vl⟩
theorem FsR.length {fs:List (Str×D)}{gs:List (Str×V)} (h:FsR K F as gs fs):gs.length=fs.length:=by
 have:=congrArg List.length h.nm
 simpa using this
theorem RlO.set {mg:Str→Option Value}{O:Qac}{H:Hp}{n:Nat}{a:Addr}{o:Ob}{u:HO} (r:RlO K mg O H F as) (ha:as[n]? = some a) (ho:ObR K mg (upd H a u) F as a o):RlO K mg (O.set n o) (upd H a u) F as:=by
 have hF:=r.fa a (zO ha);refine ⟨fun c w e=>?_,r.fd,r.nd,by rw [zQ]; exact r.len,r.fa,fun k c w hc hw=>?_⟩
 ·rw [Qaj (Qau e hF)]; exact r.fh c w e
 ·by_cases h:n=k
  ·subst h;rw [ha] at hc; cases hc;rw [zE (by rw [←r.len]; exact (zn.mp ha).1)] at hw;cases hw;exact ho
  ·rw [zq h] at hw
   refine (r.ob k c w hc hw).keep (Qaj ?_) (Same.refl F) fun _ _ h=>h
   intro z;subst z;obtain ⟨l1,q1⟩:=zn.mp ha;obtain ⟨l2,q2⟩:=zn.mp hc;exact h ((List.getElem_inj r.nd).mp (q1.trans q2.symm))
end
def KC (K:Frag) (mg:Str→Option Value) (c f:Str):Prop:=∃C,mg c=some (.ref C)∧Cls K C∧Qfv K C f
section
variable {X:Cx}{md:List Md}{P:Pt}{R:RR}
def Qgb (cs:List Str) (f:Str) (m:M D):M D:=fun ρ O=>(m ρ O).bind fun d O1=>match d with
 | .ob n=>match O1[n]? with
  | some (.ins c fs)=>if c∈cs then match fs.lookup f with
   | some y=>.ok y O1
   | none=>.no else .no
  | _=>.no
 | _=>.no
theorem Qey {cs:List Str}{f:Str}{o:Expr}{pos:Pos}{m:M D} (hc:∀c∈cs,KC X.K X.mg c f) (h:VE X md P o m) (hb:attributeBase o f X.env (eval o X.env)=eval o X.env:=by rfl):VE X md P (.Attribute o f pos) (Qgb cs f m):=(QuA h hb).imp fun σ H Q q=>by
 obtain ⟨ρ,O,F,as,d,O',r,s,e,k⟩:=q;obtain ⟨x,O1,e1,e⟩:=Res.bind_ok e
 cases x with
 | ob n =>
  dsimp only at e;split at e
  ·rename_i c fs eo;split at e
   ·rename_i hcs;split at e
    ·rename_i y ey;cases e;refine ⟨ρ,_,F,as,_,_,r,s,e1,fun v H1 F1 as1 g1 r1 hv=>?_⟩;obtain ⟨a,rfl,ha⟩:=Rp.unO hv;obtain ⟨C,dx,gs,h1,h2,h3⟩:=r1.ob n a _ ha eo;obtain ⟨C',h4,h5,h6⟩:=hc c hcs;rw [h1] at h4; cases h4;obtain ⟨w,h7,h8⟩:=h3.get ey;exact ⟨a,C,dx,gs,w,rfl,h2,h5,h6,h7,k w H1 F1 as1 g1 r1 h8⟩
    ·cases e
   ·cases e
  ·cases e
 | _=>cases e
def Qdt (cs:List Str) (f:Str) (mo mv:M D):MS:=fun ρ O=>match mv ρ O with
 | .ok d O1=>match mo ρ O1 with
  | .ok (.ob n) O2=>match O2[n]? with
   | some (.ins c fs)=>if c∈cs∧fs.length < 900 then .nx ρ (O2.set n (.ins c (putD f d fs))) else .no
   | _=>.no
  | _=>.no
 | .ex x O'=>.ex x O'
 | .no=>.no
theorem Qep {cs:List Str}{f:Str}{o value:Expr}{pos pos':Pos}{mo mv:M D} (hc:∀c∈cs,KC X.K X.mg c f) (ho:VE X md P o mo) (hv:VE X md P value mv) (hs:swapsWith value (some (.Attribute o f pos')) pos.line X.env=pure false:=by rfl):VS X md P R (.Assign [.Attribute o f pos'] value pos) (Qdt cs f mo mv):=(Qti ho hv hs).imp fun D σ H q=>by
 obtain ⟨ρ,O,F,as,r,s,k⟩:=q;unfold Qdt at k;split at k
 ·rename_i d O1 e1;split at k
  ·rename_i n O2 e2;split at k
   ·rename_i c fs eo;split at k
    ·rename_i hcs;refine ⟨ρ,O,F,as,d,O1,r,s,e1,fun y H1 F1 as1 g1 r1 hy=>?_⟩;refine ⟨ρ,O1,F1,as1,.ob n,O2,r1,s.step g1,e2,fun z H2 F2 as2 g2 r2 hz=>?_⟩;have g:=g1.trans g2;obtain ⟨a,rfl,ha⟩:=Rp.unO hz;obtain ⟨C,dx,gs,h1,h2,h3⟩:=r2.ob n a _ ha eo;obtain ⟨C',h4,h5,h6⟩:=hc c hcs.1;rw [h1] at h4; cases h4;have hmem:=zO ha
     have hn:H2 a≠none:=by rw [h2]; exact fun z=>nomatch z
     have gg:Gr H2 F2 as2 (upd H2 a (.ins C dx (Qcx f y gs))) F2 as2:=⟨fun _ _ _ _ _=>rfl,Same.refl _,⟨[],by simp,fun _ h=>nomatch h⟩,fun b u e hb _=>by rw [Qaj (fun z=>hb (by rw [z]; exact hmem))]; exact e,fun b e=>by
      by_cases h:b=a
      ·subst h; rw [QaC] at e; cases e
      ·rwa [Qaj h] at e,fun b o' u e=>by rw [Qaj (fun z=>by rw [z,h2] at e; cases e)]; exact e⟩
     refine ⟨a,C,dx,gs,rfl,h2,h5,h6,by rw [h3.length]; omega,?_⟩;exact k σ _ F2 as2 (g.trans gg).toS (r2.set ha ⟨C,dx,_,h1,QaC,h3.put (Rp.gr hy g2)⟩) ((s.step g).step gg)
    ·exact False.elim k
   ·exact False.elim k
  ·exact False.elim k
 ·exact False.elim k
 ·exact False.elim k
end
section
variable {Pr:Program}{w:World}{K:Frag}{mg:Str→Option Value}{base:Heap}
theorem Qtk {x qual:Str}{st:Stmt}{f:Addr}{fd:FuncData}{N ps:List Str}{k:Nat} (Fn:Fun K x qual st f fd) (S:QaI N ps (Qah st))
  (pm lm:List Md) {R:RR}{b:MS} (hR:Qb8 R) (hR0:∀N H F as,R N H F as .non .non) (hpl:pm.length=ps.length) (hl:(pm++lm).length=N.length) (hp:∀m∈pm,m≠.o)
  (body:∀(cdv:Value) (A:Around) (outer:List Env) (s:Shared) (H:Hp) (E:XK),QaK k (A.deeper (envOfC qual (Qah st) s.heap.objs.size f cdv))→∀P,VSs ((Qb1 CX0 Pr w K mg base N qual (Qah st) f cdv A outer s H E).nox) (pm++lm) P R (QaW st) b) :
  Qbo Pr w K mg base CX0 (k+1) f fd ps (vSp K mg pm R (Qa9 N.length b)):=by
 refine Fn.ok S (fun vs H Q E h=>?_) (fun cdv A outer s H vs Q E hr h=>?_)
 ·obtain ⟨ds,O,F,as,d,O',r,a,_⟩:=h;rw [a.len.1,hpl]
 ·obtain ⟨ds,O,F,as,d,O',r,a,e,q⟩:=h;refine ⟨_,body cdv A outer s H E hr (Pt.all H),?_⟩;refine ⟨_,O,F,as,r,Qeb a hl hp,?_⟩;unfold Qa9 at e
  cases eb:b (ds.map some++List.replicate (N.length - ds.length) none) O with
  | rt d' O2 =>
   rw [eb] at e;cases e
   exact fun v H' F' as' g r' hv=>q v H' F' as' g.gr r' (hR _ _ _ _ _ _ _ (fun c hc=>jk.mp hc) hv)
  | nx ρ O2 =>
   rw [eb] at e;cases e
   exact fun σ' H' F' as' g r' _=>q _ H' F' as' g.gr r' (hR0 _ _ _ _)
  | bk _ _=>rw [eb] at e; cases e
  | ct _ _=>rw [eb] at e; cases e
  | ex _ _=>rw [eb] at e; cases e
  | no=>rw [eb] at e; cases e
def QjA (K:Frag) (mg:Str→Option Value) (c m qual:Str) (st:Stmt):Prop:=∃C f fd,mg c=some (.ref C)∧Cls K C∧Qic K C m f∧Fun K m qual st f fd
def QgY (P:Program) (w:World) (K:Frag) (mg:Str→Option Value) (base:Heap) (c m:Str) (ps:List Str) (k:Nat) (sp:Sp):Prop :=
 ∃C f fd,mg c=some (.ref C)∧Cls K C∧Qic K C m f∧Binds K fd ps []∧Qbo P w K mg base CX0 k f fd ps sp
def Qpn (P:Program) (w:World) (K:Frag) (mg:Str→Option Value) (base:Heap) (c:Str) (ps:List Str) (k:Nat) (sp:Sp):Prop :=
 ∃C f fd,mg c=some (.ref C)∧Mk K C f∧Binds K fd ps []∧Qbo P w K mg base CX0 k f fd ps sp
def Qqp (K:Frag) (mg:Str→Option Value) (c qual:Str) (st:Stmt):Prop:=∃C f fd,mg c=some (.ref C)∧Mk K C f∧Fun K "__init__" qual st f fd
theorem QqS {c x qual:Str}{st:Stmt}{N ps:List Str}{k:Nat} (Df:QjA K mg c x qual st) (S:QaI N ps (Qah st))
  (hb:∀(kV doc pm:Value) (an:Option Addr) (cdv ct:Value) (us:List Value),us.length=ps.length→bindArgs (PySem.W.fnOf x qual (Qbv st) (QaW st) (Qah st) .none kV doc pm an cdv ct) ⟨us,[]⟩=pure (ps.zip us))
  (pm lm:List Md) {R:RR}{b:MS} (hR:Qb8 R) (hR0:∀N H F as,R N H F as .non .non) (hpl:pm.length=ps.length:=by rfl) (hl:(pm++lm).length=N.length:=by rfl) (hp:∀m∈pm,m≠.o:=by decide)
  (body:∀(f:Addr) (cdv:Value) (A:Around) (outer:List Env) (s:Shared) (H:Hp) (E:XK),QaK k (A.deeper (envOfC qual (Qah st) s.heap.objs.size f cdv))→∀P,VSs ((Qb1 CX0 Pr w K mg base N qual (Qah st) f cdv A outer s H E).nox) (pm++lm) P R (QaW st) b) :
  QgY Pr w K mg base c x ps (k+1) (vSp K mg pm R (Qa9 N.length b)):=by
 obtain ⟨C,f,fd,h1,h2,h3,h4⟩:=Df;exact ⟨C,f,fd,h1,h2,h3,h4.binds hb,Qtk h4 S pm lm hR hR0 hpl hl hp (body f)⟩
theorem QuY {c qual:Str}{st:Stmt}{N ps:List Str}{k:Nat} (Df:Qqp K mg c qual st) (S:QaI N ps (Qah st))
  (hb:∀(kV doc pm:Value) (an:Option Addr) (cdv ct:Value) (us:List Value),us.length=ps.length→bindArgs (PySem.W.fnOf "__init__" qual (Qbv st) (QaW st) (Qah st) .none kV doc pm an cdv ct) ⟨us,[]⟩=pure (ps.zip us))
  (pm lm:List Md) {R:RR}{b:MS} (hR:Qb8 R) (hR0:∀N H F as,R N H F as .non .non) (hpl:pm.length=ps.length:=by rfl) (hl:(pm++lm).length=N.length:=by rfl) (hp:∀m∈pm,m≠.o:=by decide)
  (body:∀(f:Addr) (cdv:Value) (A:Around) (outer:List Env) (s:Shared) (H:Hp) (E:XK),QaK k (A.deeper (envOfC qual (Qah st) s.heap.objs.size f cdv))→∀P,VSs ((Qb1 CX0 Pr w K mg base N qual (Qah st) f cdv A outer s H E).nox) (pm++lm) P R (QaW st) b) :
  Qpn Pr w K mg base c ps (k+1) (vSp K mg pm R (Qa9 N.length b)):=by
 obtain ⟨C,f,fd,h1,h2,h4⟩:=Df;exact ⟨C,f,fd,h1,h2,h4.binds hb,Qtk h4 S pm lm hR hR0 hpl hl hp (body f)⟩
end
section
variable {X:Cx}{md:List Md}{P:Pt}{R:RR}{k:Nat}{c m:Str}{ps:List Str}{p pos apos:Pos}{o e:Expr}{es:List Expr}{pm:List Md}{cf:List D→Qac→Res D}{mo:M D}{ma:M (List D)}
def Qe6 (c m:Str) (cf:List D→Qac→Res D) (mo:M D) (ma:M (List D)):M D:=fun ρ O=>(mo ρ O).bind fun d O1=>match d with
 | .ob n=>match O1[n]? with
  | some (.ins c' fs)=>if c'=c∧(fs.lookup m).isNone=true then (ma ρ O1).bind fun ds O2=>cf (.ob n::ds) O2 else .no
  | _=>.no
 | _=>.no
theorem Ql9 {K:Frag}{mg:Str→Option Value}{C:Addr} (hR:Qb8 R) (hC:mg c=some (.ref C)) {E:XK}{σ:St}{H:Hp}{Q:VK} (q:tM K mg md P R (Qe6 c m cf mo ma) σ H Q) :
  Qkz C m (vSp K mg (.v::pm) R cf) [] E (tM K mg md P (rV K) mo) (tMA K mg md P pm ma) σ H Q:=by
 obtain ⟨ρ,O,F,as,d,O',r,s,e,k⟩:=q;obtain ⟨x,O1,e1,e⟩:=Res.bind_ok e
 cases x with
 | ob n =>
  dsimp only at e;split at e
  ·rename_i c' fs eo;split at e
   ·rename_i hc;obtain ⟨ds,O2,e2,e⟩:=Res.bind_ok e;refine ⟨ρ,O,F,as,.ob n,O1,r,s,e1,fun v H1 F1 as1 g1 r1 hv=>?_⟩;obtain ⟨a,rfl,ha⟩:=Rp.unO hv;obtain ⟨C',dx,gs,h1,h2,h3⟩:=r1.ob n a _ ha eo;rw [hc.1,hC] at h1; cases h1;refine ⟨a,dx,gs,rfl,h2,h3.no (Option.isNone_iff_eq_none.mp hc.2),?_⟩;refine ⟨ρ,O1,F1,as1,ds,O2,r1,s.step g1,e2,fun vs H2 F2 as2 g2 r2 hvs=>?_⟩;dsimp only;rw [zC];exact ⟨.ob n::ds,O2,F2,as2,d,O',r2,⟨Rp.gr hv g2,hvs⟩,e,fun v' H' F' as' g' r' hw=>k v' H' F' as' ((g1.trans g2).trans g') r' (hR _ _ _ _ _ _ _ (fun b hb=>(g1.trans g2).dm b hb) hw)⟩
   ·cases e
  ·cases e
 | _=>cases e
theorem Qsk {pl:Sem Bool} (hR:Qb8 R) (M:QgY X.prog X.w X.K X.mg X.base c m ps k (vSp X.K X.mg (.v::pm) R cf)) (hr:QaK k X.A) (ho:VE X md P o mo) (ha:AE X md P pm (e::es) ma)
  (hst:starEach (e::es) X.env=(false,eval e X.env)::starEach es X.env:=by exact Qa3 rfl) (hpl:(backTo pos (starEach es X.env)).any (·.1)=false:=by exact Qa5 rfl)
  (ht:eval (.Call (.Attribute o m apos) (e::es) [] pos) X.env=(do
   let ov ←eval o X.env
   standAt apos.atName
   let (f,first) ←holding [ov] (getMethod ov m pl)
   callWith pos f first (backTo pos (starEach (e::es) X.env)) (backToKw pos (keywordEach [] X.env))):=by rfl) :
  PE X (.Call (.Attribute o m apos) (e::es) [] pos) (tM X.K X.mg md P R (Qe6 c m cf mo ma)):=by
 obtain ⟨C,f,fd,h1,h2,h3,h4,h5⟩:=M
 exact (Qmm (pl:=pl) (E:=E0) (ds:=[]) (dvs:=[]) ho h2 h3 h5 hr h4 .nil Qkt ha hst hpl ht).imp fun _ _ _ q=>Ql9 hR h1 q
theorem QpR {pl:Sem Bool} (hR:Qb8 R) (M:QgY X.prog X.w X.K X.mg X.base c m ps k (vSp X.K X.mg [.v] R cf)) (hr:QaK k X.A) (ho:VE X md P o mo)
  (ht:eval (.Call (.Attribute o m apos) [] [] pos) X.env=(do
   let ov ←eval o X.env
   standAt apos.atName
   let (f,first) ←holding [ov] (getMethod ov m pl)
   callWith pos f first (backTo pos (starEach [] X.env)) (backToKw pos (keywordEach [] X.env))):=by rfl) :
  PE X (.Call (.Attribute o m apos) [] [] pos) (tM X.K X.mg md P R (Qe6 c m cf mo Qaf)):=by
 obtain ⟨C,f,fd,h1,h2,h3,h4,h5⟩:=M
 refine (QpW (pl:=pl) (E:=E0) (ds:=[]) (dvs:=[]) ho h2 h3 h5 hr h4 .nil Qkt ht).imp fun σ H Q q=>?_
 obtain ⟨ρ,O,F,as,d,O',r,s,e,k⟩:=Ql9 (pm:=[]) (E:=E0) hR h1 q;refine ⟨ρ,O,F,as,d,O',r,s,e,fun v H' F' as' g r' hv=>?_⟩;obtain ⟨a,dx,fs,e1,e2,e3,t⟩:=k v H' F' as' g r' hv;refine ⟨a,dx,fs,e1,e2,e3,?_⟩;obtain ⟨ρ1,O1,F1,as1,ds1,O2,r1,s1,e4,k4⟩:=t;cases e4;exact k4 [] H' F1 as1 Gr.refl r1 trivial
def QgQ (c:Str) (cf:List D→Qac→Res D) (ma:M (List D)):M D:=fun ρ O=>(ma ρ O).bind fun ds O1=>match cf (.ob O1.length::ds) (O1 ++ [.ins c []]) with
 | .ok .non O2=>.ok (.ob O1.length) O2
 | .ok _ _=>.no
 | .ex x O2=>.ex x O2
 | .no=>.no
theorem QrA {K:Frag}{mg:Str→Option Value}{C:Addr} (hC:mg c=some (.ref C)) {E:XK}{σ:St}{H:Hp}{Q:VK} (q:tM K mg md P (rV K) (QgQ c cf ma) σ H Q) :
  QqY C (vSp K mg (.v::pm) (rV K) cf) [] E (tMA K mg md P pm ma) σ H Q:=by
 obtain ⟨ρ,O,F,as,d,O',r,s,e,k⟩:=q;obtain ⟨ds,O1,e1,e⟩:=Res.bind_ok e;split at e
 ·rename_i O2 ec;cases e;refine ⟨ρ,O,F,as,ds,O1,r,s,e1,fun vs H1 F1 as1 g1 r1 hvs=>?_⟩;intro x dx hx hdx hne;rw [zC]
  have hx2:upd H1 dx (.own x) x=none:=by rw [Qaj hne.symm]; exact hx
  have gA:Gr H1 F1 as1 (upd H1 dx (.own x)) F1 as1:=Gr.lay hdx;have gB:Gr (upd H1 dx (.own x)) F1 as1 (upd (upd H1 dx (.own x)) x (.ins C dx [])) F1 as1:=Gr.lay hx2;have gC:Gr (upd (upd H1 dx (.own x)) x (.ins C dx [])) F1 as1 (upd (upd H1 dx (.own x)) x (.ins C dx [])) F1 as1:=Gr.refl;have gAB:=gA.trans gB;have g2:Gr H1 F1 as1 (upd (upd H1 dx (.own x)) x (.ins C dx [])) F1 (as1 ++ [x]):=⟨gAB.fz,gAB.ff,⟨[x],rfl,fun a ha=>by rw [zz.mp ha]; exact hx⟩,fun a o e ha hd=>gAB.fr a o e ha hd,gAB.dm,gAB.kz⟩
  have nx:x∉as1:=fun z=>r1.all z hx
  have rB:=(r1.lay (o:=.own x) hdx).lay (o:=.ins C dx []) hx2
  have at_:∀(n:Nat) (a:Addr),as1[n]? = some a→(as1 ++ [x])[n]? = some a:=fun n a h=>by
   rw [zB (zn.mp h).1]; exact h
  have r2:RlO K mg (O1 ++ [.ins c []]) (upd (upd H1 dx (.own x)) x (.ins C dx [])) F1 (as1 ++ [x]):=by
   refine ⟨rB.fh,rB.fd,?_,by simp [r1.len],fun a ha=>?_,fun n a o ha ho=>?_⟩
   ·rw [List.nodup_append];refine ⟨r1.nd,by simp,fun a ha b hb=>?_⟩;rw [zz.mp hb];intro z;subst z;exact nx ha
   ·rcases zy.mp ha with z | z
    ·exact r1.fa a z
    ·rw [zz.mp z];exact r1.frF hx
   ·by_cases hn:n < O1.length
    ·rw [zB (by rw [r1.len]; exact hn)] at ha;rw [zB hn] at ho;exact (rB.ob n a o ha ho).keep rfl (Same.refl _) at_
    ·have hn':n=O1.length:=by
      have:=(zn.mp ho).1
      simp at this
      omega
     subst hn';rw [zD (zc _),Nat.sub_self] at ho;rw [←r1.len,zD (zc _),Nat.sub_self] at ha;cases ho;cases ha;exact ⟨C,dx,[],hC,QaC,⟨rfl,Rps.nil⟩⟩
  have hox:Rp K F1 (as1 ++ [x]) (.ref x) (.ob O1.length):=Rp.mkO (by rw [←r1.len,zD (zc _),Nat.sub_self]; rfl);refine ⟨.ob O1.length::ds,_,F1,as1 ++ [x],.non,_,r2,⟨hox,hvs.gr g2⟩,ec,fun v H3 F3 as3 g3 r3 hv=>?_⟩;exact ⟨Rp.unN hv,k _ H3 F3 as3 ((g1.trans g2).trans g3) r3 (Rp.gr hox g3)⟩
 ·cases e
 ·cases e
 ·cases e
theorem Qp1 (M:Qpn X.prog X.w X.K X.mg X.base c ps k (vSp X.K X.mg [.v] (rV X.K) cf)) (hr:QaK (k+1) X.A) (hg:Gl X c:=by rfl) (hdb:(c == ("__debug__":Str))=false:=by decide):VE X md P (.Call (.Name c p) [] [] pos) (QgQ c cf Qaf):=by
 obtain ⟨C,f,fd,h1,h3,h4,h5⟩:=M
 refine (QpF (E:=E0) (ds:=[]) (dvs:=[]) h3 h5 hr hg h1 h4 .nil Qkt hdb).imp fun σ H Q q=>?_
 obtain ⟨ρ,O,F,as,ds,O1,r,s,e,k⟩:=QrA (pm:=[]) (E:=E0) h1 q;cases e;exact k [] H F as Gr.refl r trivial
end
section
variable {X:Cx}{md:List Md}{P:Pt}{R:RR}
def QfJ:D→Option (List D)
 | .lst ds=>some ds
 | .tup ds=>some ds
 | .str l=>if ascii l=true then some (Qa1 l) else none
 | _=>none
def Qco (m:M D):M (List D):=fun ρ O=>(m ρ O).bind fun d O1=>match QfJ d with
 | some ds=>.ok ds O1
 | none=>.no
theorem QmQ {e:Expr}{m:M D} (h:WE X md P e m):SE X md P e m:=h.imp fun σ H Q q=>by
 obtain ⟨ρ,O,F,as,d,O',r,s,e,k⟩:=q;refine ⟨ρ,O,F,as,d,O',r,s,e,fun v H' F' as' g r' hv=>k v H' F' as' g r' ?_⟩
 rcases hv with hv | ⟨a,xs,ds,e1,e2,e3,e4,e5,e6⟩
 ·exact .inl hv
 ·exact .inr ⟨a,xs,ds,e1,e2,e3,e4,e6⟩
theorem Qlk {tg e:Expr}{m:M D} (h:WE X md P e m):VI X md P tg e (Qco m):=fun pins s σ H Q I q=>by
 obtain ⟨ρ,O,F,as,ds,O',r,sl,e,k⟩:=q;obtain ⟨d,O1,e1,e⟩:=Res.bind_ok e
 cases d with
 | lst es =>
  cases e;exact QsF h pins s σ H Q I ⟨ρ,O,F,as,_,_,r,sl,by unfold Qc1; rw [e1]; rfl,k⟩
 | tup es =>
  cases e;exact QoA (QcK (QmQ h)) pins s σ H Q I ⟨ρ,O,F,as,_,_,r,sl,by unfold Qnv mG; rw [e1]; rfl,k⟩
 | str l =>
  simp only [QfJ] at e;split at e
  ·rename_i es hes;split at hes
   ·rename_i hl;cases hes;cases e;refine QoC (QmQ h) pins s σ H Q I ⟨ρ,O,F,as,Qa1 l,_,r,sl,?_,k⟩;unfold QmB;rw [e1];show (if ascii l=true then _ else _)=_;rw [if_pos hl]
   ·cases hes
  ·cases e
 | _=>cases e
theorem QpY {tg e:Expr}{m:M D} (h:SE X md P e m):VIc X md P tg e (Qc1 m):=(Qjz h).imp fun σ H Q q=>by
 obtain ⟨ρ,O,F,as,ds,O',r,s,e,k⟩:=q;obtain ⟨d,O1,e1,e⟩:=Res.bind_ok e
 cases d with
 | lst es =>
  cases e;refine ⟨ρ,_,F,as,_,_,r,s,e1,fun v H1 F1 as1 g1 r1 hv=>?_⟩
  obtain ⟨a,xs,rfl,h1,h2⟩:∃a xs,v = .ref a∧Rps X.K F1 as1 xs ds∧∀(H2 F2:Hp) (as2:List Addr),Gr H1 F1 as1 H2 F2 as2→(∃O,RlO X.K X.mg O H2 F2 as2)→RdK X.K H2 a xs:=by
   rcases hv with hv | ⟨a,xs,ds',rfl,e,e3,e4,e6⟩
   ·obtain ⟨a,xs,rfl,h1,h2⟩:=hv.unL;exact ⟨a,xs,rfl,h2,fun H2 F2 as2 g ⟨O,r⟩=>(h1.mono g.ff).mono r.fh⟩
   ·cases e;exact ⟨a,xs,rfl,e6,fun H2 F2 as2 g _=>.inl (.inl (g.fr _ _ e3 e4 rfl))⟩
  refine ⟨a,rfl,⟨xs,(h2 H1 F1 as1 Gr.refl ⟨_,r1⟩).sq⟩,k _ H1 F1 as1 g1 r1 ⟨fun i d H2 F2 as2 g r e=>?_,fun H2 F2 as2 g r=>⟨xs,(h2 H2 F2 as2 g r).sq,by rw [h1.length]; exact zc _⟩⟩⟩;obtain ⟨x,h3,h4⟩:=h1.get' e;have q:=h2 H2 F2 as2 g r;refine ⟨⟨xs,x,q.sq,h3⟩,fun y H3 hy=>?_⟩;obtain ⟨rfl,hy⟩:=hy
  have:=hy xs q.sq
  rw [h3] at this;cases this;exact ⟨F2,Gr.refl,fun _ r=>r,h4.gr g⟩
 | _=>cases e
theorem Qrw {tg e:Expr}{m:M D} (h:SE X md P e m):VIc X md P tg e (Qco m):=fun pins s σ H Q I q=>by
 obtain ⟨ρ,O,F,as,ds,O',r,sl,e,k⟩:=q;obtain ⟨d,O1,e1,e⟩:=Res.bind_ok e
 cases d with
 | lst es =>
  cases e;exact QpY h pins s σ H Q I ⟨ρ,O,F,as,_,_,r,sl,by unfold Qc1; rw [e1]; rfl,k⟩
 | tup es =>
  cases e;exact Qlv (QoA (QcK h)) pins s σ H Q I ⟨ρ,O,F,as,_,_,r,sl,by unfold Qnv mG; rw [e1]; rfl,k⟩
 | str l =>
  simp only [QfJ] at e;split at e
  ·rename_i es hes;split at hes
   ·rename_i hl;cases hes;cases e;refine Qlv (QoC h) pins s σ H Q I ⟨ρ,O,F,as,Qa1 l,_,r,sl,?_,k⟩;unfold QmB;rw [e1];show (if ascii l=true then _ else _)=_;rw [if_pos hl]
   ·cases hes
  ·cases e
 | _=>cases e
def QgW (m:M D):M (List D):=fun ρ O=>(m ρ O).bind fun d O1=>match d with
 | .lst ds=>.ok (Qbz 0 ds) O1
 | .str l=>if ascii l=true then .ok (Qbz 0 (Qa1 l)) O1 else .no
 | _=>.no
variable {elts:List Expr}{x1:Nat}{tpos:Pos}
theorem Qmb {a:Expr}{p pos:Pos}{m:M D} (hm:X.mg "enumerate" = none) (h:WE X md P a m) (hg:Gl X "enumerate":=by rfl) (hs:starEach [a] X.env = [(false,eval a X.env)]:=by exact QhN rfl) (hs':starEach [a] X.env=(false,eval a X.env)::starEach [] X.env:=by exact Qa3 rfl) :
  VI X md P (.Tuple elts x1 tpos) (.Call (.Name "enumerate" p) [a] [] pos) (QgW m):=fun pins s σ H Q I q=>by
 obtain ⟨ρ,O,F,as,ds,O',r,sl,e,k⟩:=q;obtain ⟨d,O1,e1,e⟩:=Res.bind_ok e
 cases d with
 | lst es =>
  cases e;exact Qpw hm h hg hs hs' pins s σ H Q I ⟨ρ,O,F,as,_,_,r,sl,by unfold QoV; rw [e1]; rfl,k⟩
 | str l=>exact Qpt hm (QmQ h) hg hs hs' pins s σ H Q I ⟨ρ,O,F,as,ds,O',r,sl,by unfold QnE; rw [e1]; exact e,k⟩
 | _=>cases e
def Pt.with (P:Pt) (a:Addr) (i:Nat) (d:D) (l:List (Nat×V×D)):Pt:=⟨fun c=>P c∨c=a,(i,.ref a,d)::(l++P.ss)⟩
end
theorem Qo9 {P:Program}{w:World}{K:PySem.W.Frag}{mg mb:Str→Option Value}{CX:CXT}{k:Nat}{fa a:Addr}{fd:FuncData}{x:Str}{sp:Sp}{s₁:Shared}{vs:List Value}{ns:List Int}
  (KX:K.In s₁.heap) (hns:s₁.heap.Ns mainGlobals mg) (hb:s₁.heap.Ns builtinsNs mb) (hbb:∀x:Str,x≠"__name__"→mb x=bootBuiltins x) (hlim:s₁.heap.NoLimit) (hg:s₁.gens = #[])
  (ha:s₁.heap.get? a=some { cls:=.type "list",data:=.seq vs.toArray }) (hi:IntsAre vs ns) (hl:ns.length≤sizeLine) (hr:QaK k callerA)
  (F:∀base:Heap,K.In base→base.Ns mainGlobals mg→Qbo P w K mg base CX k fa fd [x] sp) (hbind:∀(s:Shared) (u:Value),BindsTo s fd ⟨[u],[]⟩ [(x,u)])
  (hsp:∀H:Hp,Qig H→RdK K H a (ns.map V.int)→sp [.ref a] H (fun v _=>v = .bl true) fun _ _ _=>False)
  (hCX:∀H e s',CX [] H s₁ (fun _ _ _=>False) e s'→False) :
  codeAny (model P w) callerA (.call (.ref fa) ⟨[.ref a],[]⟩) (fun r s'=>r = .ok (.ret (.bool true))∧OldK s₁.heap s'.heap∧s'.os=s₁.os∧AllBare s'.gens) s₁:=by
 have rv:=Qg9 hi;have lenV:=hi.length;have core:∀H:Hp,Qig H→RdK K H a (ns.map V.int)→HOk P w H s₁.heap→(∀b,H b≠none→b=a)→(H a≠none→K.lookup a=none) →
   codeAny (model P w) callerA (.call (.ref fa) ⟨[.ref a],[]⟩) (fun r s'=>r = .ok (.ret (.bool true))∧OldK s₁.heap s'.heap∧s'.os=s₁.os∧AllBare s'.gens) s₁:=by
  intro H hO hS hok hA hK
  have base_of:∀{b:Addr}{o:Obj},s₁.heap.get? b=some o→H b=none→(QdK s₁.heap H).get? b=some o:=fun e n=>Qlp e n
  have noA:∀{b:Addr}{o:Obj}{es:Array DictEntry}{ep:Nat},s₁.heap.get? b=some o→o.data = .dict es ep→H b=none:=fun {b o es ep} e d=>by
   cases q:H b with
   | none=>rfl
   | some u =>
    have e':b=a:=hA b (by rw [q]; simp);subst e';rw [ha] at e; cases e;have d':Data.seq vs.toArray _=Data.dict es ep:=d;cases d'
  have nsK:∀{b:Addr}{m:Str→Option Value},s₁.heap.Ns b m→(QdK s₁.heap H).Ns b m:=fun {b m} ⟨o,es,ep,e,d,r⟩=>⟨o,es,ep,base_of e (noA e d),d,r⟩
  have hKb:K.In (QdK s₁.heap H):=fun b o e=>base_of (KX b o e) (by
   cases q:H b with
   | none=>rfl
   | some u =>
    have e':b=a:=hA b (by rw [q]; simp);subst e'
    rw [hK (by rw [q]; simp)] at e; cases e)
  have hM:Mod K mg (QdK s₁.heap H):=⟨hKb,nsK hns,⟨mb,nsK hb,hbb⟩,let ⟨mc,h1,h2⟩:=hlim; ⟨mc,nsK h1,h2⟩⟩;have e0:Qdy P w K mg (QdK s₁.heap H) callerA [] s₁ H:=⟨rfl,hM,fun b o e=>Ql4 e,Nat.le_of_eq (QjX _ _),trivial,fun b hb=>absurd (show b∈([]:List Addr) from hb) (by simp),hok,.of_eq hg⟩
  refine codeAny_mono ((F _ hKb (nsK hns)).run callerA [] s₁ H ⟨[.ref a],[]⟩ [.ref a] [.ref a] _ _ hr e0 (hbind s₁ (.ref a)) (.cons rfl .nil) (hsp H hO hS)) fun r s' h=>?_
  cases r with
  | error e=>exact (hCX H e s' h).elim
  | ok fl =>
   cases fl with
   | next=>exact False.elim h
   | brk=>exact False.elim h
   | cont=>exact False.elim h
   | ret u =>
    obtain ⟨v,H',os,bare,un,hok',r',q⟩:=h;have q':v = .bl true:=q;subst q';obtain rfl:u=Value.bool true:=r';refine ⟨rfl,OldK.of_keep fun b o e=>?_,os,bare⟩
    cases q:H b with
    | none=>exact un.keep b o e q (by intro z; exact absurd (show b∈([]:List Addr) from z) (by simp)) (by simp)
    | some u =>
     rcases hO b with z | ⟨ob,xs,z⟩
     ·rw [q] at z; cases z
     ·have z2:=un.frzs b ob _ z;obtain ⟨e1,_⟩:=hok b _ z;obtain ⟨e2,_⟩:=hok' b _ z2;rw [e] at e1; cases e1;exact e2
 cases hk:K.lookup a with
 | some o =>
  have e:=KX a o hk;rw [ha] at e;cases e
  refine core (fun _=>none) (fun _=>.inl rfl) (.inr ⟨vs,_,hk,by rw [lenV]; exact hl,rv⟩) (fun b u z=>by have z':(none:Option HO)=some u:=z; cases z') (fun b z=>absurd rfl z) fun z=>absurd rfl z
 | none =>
  refine core (fun b=>if b=a then some (.frz { cls:=.type "list",data:=.seq vs.toArray } (.lst (ns.map V.int))) else none) (fun b=>?_) (.inl (.inr ⟨{ cls:=.type "list",data:=.seq vs.toArray },if_pos rfl⟩)) (fun b u z=>?_) (fun b z=>?_) fun _=>hk
  ·by_cases hb:b=a
   ·exact .inr ⟨_,_,if_pos hb⟩
   ·exact .inl (if_neg hb)
  ·by_cases hb:b=a
   ·have z':=(if_pos hb).symm.trans z;cases z';subst hb;exact ⟨ha,by rw [zA]; exact hl,vs,_,rv,ha⟩
   ·have z':=(if_neg hb).symm.trans z;cases z'
  ·by_cases hb:b=a
   ·exact hb
   ·exact absurd (if_neg hb) z
theorem walk_ofR {l:PySem.W.OpenLaw}{n k:Nat}{q:Program}{loose:List Str}{XP:(Str→Option Value)→Heap→Prop}{YP:World→Heap→Prop}{d:DefRec}{K:Params→PySem.W.Frag}{CX:World→CXT}{sp:World→Sp}{x:Str}
  (hn:l.most=some n) (hn2:n≤sizeLine) (hdf:d.params.defaults = []) (hr:QaK k callerA)
  (hY:∀(w:World) (h:Heap),YP w h→(K w.params).In h)
  (F:∀(w:World) (mg:Str→Option Value) (fa:Addr) (h:Heap),(K w.params).In h→h.Ns mainGlobals mg→mg d.name=some (.ref fa) →
   ∃fd:FuncData,(∀(s:Shared) (u:Value),BindsTo s fd ⟨[u],[]⟩ [(x,u)]) ∧
    ∀base:Heap,(K w.params).In base→base.Ns mainGlobals mg→Qbo l.prog w (K w.params) mg base (CX w) k fa fd [x] (sp w))
  (hsp:∀(w:World) (H:Hp) (a:Addr) (ns:List Int),ns.length≤n→Qig H→RdK (K w.params) H a (ns.map V.int)→sp w [.ref a] H (fun v _=>v = .bl true) fun _ _ _=>False)
  (hCX:∀(w:World) (H:Hp) (s:Shared) (e:Value) (s':Shared),CX w [] H s (fun _ _ _=>False) e s'→False) :
  PySem.W.WalkO q loose XP YP l.row.toRowW d [] (fun f vs=>PySem.call f vs):=by
 refine Att.attach_call hn hdf fun w s₀ s₁ mg mb fa o pm cd doc a vs ns G Y ho hd hcd hmg hobj hints hlen hg=>?_
 have KX:=hY w _ Y;obtain ⟨fd,hb,hF⟩:=F w mg fa _ KX G.T.g hmg
 exact Qo9 KX G.T.g G.T.b G.T.builtins G.T.nolimit hg hobj hints (zu hlen hn2) hr hF hb (fun H hO hS=>hsp w H a ns hlen hO hS) fun H e s'=>hCX w H s₁ e s'
theorem Qb3 {K:Frag}{mg:Str→Option Value}{f:Str}:∀c∈([]:List Str),KC K mg c f:=fun _ h=>nomatch h
theorem QbK {K:Frag}{mg:Str→Option Value}{f c:Str}{cs:List Str} (h:KC K mg c f) (hr:∀c∈cs,KC K mg c f):∀c'∈c::cs,KC K mg c' f:=fun c' hc=>by
 rcases zk.mp hc with rfl | hc
 ·exact h
 ·exact hr c' hc
def sp_law (K:Frag):Sp:=fun vs H Q _=>∃(a:Addr) (ns:List Int),vs = [.ref a]∧RdK K H a (ns.map V.int)∧ns.length≤63∧Qig H∧∀H',Q (.bl true) H'
theorem Rps.ofInts {K:Frag}{F:Hp}{as:List Addr}:∀ns:List Int,Rps K F as (ns.map V.int) (ns.map D.int)
 | []=>Rps.nil
 | n::ns=>Rps.cons Rp.int (Rps.ofInts ns)
theorem Qsy {K:Frag}{mg:Str→Option Value}{c:List D→Qac→Res D} (h:∀ns:List Int,ns.length≤63→∃O',c [.lst (ns.map D.int)] [] = .ok (.bl true) O'):∀vs H Q E,sp_law K vs H Q E→vSp K mg [.s] (rV K) c vs H Q E:=by
 rintro vs H Q E ⟨a,ns,rfl,hS,hl,hO,q⟩;obtain ⟨O',e⟩:=h ns hl
 have r:RlO K mg [] H H []:=⟨Same.refl H,fun b o e=>by
  rcases hO b with z | ⟨o',xs,z⟩
  ·rw [e] at z; cases z
  ·rw [e] at z; cases z; rfl,List.nodup_nil,rfl,(fun _ z=>nomatch z),fun n b o z=>by cases z⟩
 refine ⟨[.lst (ns.map D.int)],[],H,[],.bl true,O',r,⟨.inl (Rp.mkL hS (Rps.ofInts ns)),trivial⟩,e,fun v H' F' as' g r' hv=>?_⟩;rw [Rp.unB hv];exact q H'
def keyOf:D→Option Key
 | .int i=>some (.inl i)
 | .str l=>some (.inr (S l))
 | _=>none
theorem QrX {d:D}{k:Key} (h:keyOf d=some k):Qia k=d:=by
 cases d with
 | int i=>cases h; rfl
 | str l=>cases h; show D.str (S l).cps.toList=_; rw [Qea]
 | _=>cases h
theorem Rp.key {K:Frag}{F:Hp}{as:List Addr}{v:V}{d:D}{k:Key} (h:Rp K F as v d) (e:keyOf d=some k):v=kV k:=by
 cases d with
 | int i=>cases e; exact h.unI
 | str l=>cases e; exact h.unS
 | _=>cases e
theorem Qr5 (k:Key):keyOf (Qia k)=some k:=by
 cases k with
 | inl i=>rfl
 | inr x=>show some (Sum.inr (S x.cps.toList))=_; rw [Qwg]
def QfH:List D→List D→Key→Option D
 | k::ks,v::vs,x=>if keyOf k=some x then some v else QfH ks vs x
 | _,_,_=>none
theorem Qka {K:Frag}{F:Hp}{as:List Addr}:∀{kvs:List (Key×V)}{vs:List D} (x:Key),Rps K F as (kvs.map (·.2)) vs →
  (QfH (kvs.map fun p=>Qia p.1) vs x=none∧QbY kvs x=none)∨∃d v,QfH (kvs.map fun p=>Qia p.1) vs x=some d∧QbY kvs x=some v∧Rp K F as v d
 | [],vs,x,h=>.inl ⟨by cases vs <;> rfl,rfl⟩
 | (k,v)::kvs,vs,x,h=>by
  cases vs with
  | nil=>have:=h.un0; cases this
  | cons d ds =>
   obtain ⟨y,r,e,h1,h2⟩:=h.un;simp only [ze,List.cons.injEq] at e;obtain ⟨rfl,rfl⟩:=e;rw [ze,QfH,Qr5]
   by_cases hk:k=x
   ·subst hk;exact .inr ⟨d,v,by rw [if_pos rfl],by simp [QbY],h1⟩
   ·rw [if_neg (fun z=>hk (zK z))]
    have e2:QbY ((k,v)::kvs) x=QbY kvs x:=by
     unfold QbY;rw [List.find?_cons_of_neg (by simpa using hk)]
    rw [e2];exact Qka x h2
section
variable {X:Cx}{md:List Md}{P:Pt}
theorem QrR {pos:Pos}:VE X md P (.Dict [] [] pos) (mC (.dic [] [])):=Qqe.imp fun σ H Q q=>by
 obtain ⟨ρ,O,F,as,d,O',r,s,e,k⟩:=q;cases e;intro p hp;have hF:=r.frF hp;refine k _ _ (upd F p (.dK [])) as ((Gr.lay hp).frz hp hF) ((r.lay hp).frz QaC hF (fun z=>r.all z hp) rfl) ?_;show Rp X.K _ _ _ _;rw [Rp];exact ⟨p,[],rfl,QaC,rfl,Rps.nil⟩
def Prs (K:Frag) (F:Hp) (as:List Addr):List (V×V)→List (D×D)→Prop
 | [],[]=>True
 | p::ps,d::ds=>Rp K F as p.1 d.1∧Rp K F as p.2 d.2∧Prs K F as ps ds
 | _,_=>False
def DPE (X:Cx) (md:List Md) (P:Pt) (pos:Pos) (keys:List (Option Expr)) (values:List Expr) (m:M (List (D×D))):Prop:=∃trs:List (TE×TE),
 PPs X pos keys values trs∧∀σ H Q,(∃ρ O F as kv O',RlO X.K X.mg O H F as∧SlO X.K md P ρ σ H F as∧m ρ O = .ok kv O'∧∀ps H' F' as',Gr H F as H' F' as'→RlO X.K X.mg O' H' F' as'→Prs X.K F' as' ps kv→Q ps H')→QiJ trs σ H Q
def Qi1:M (List (D×D)):=fun _ O=>.ok [] O
def Qew (mk mv:M D) (r:M (List (D×D))):M (List (D×D)):=fun ρ O=>(mk ρ O).bind fun a O1=>(mv ρ O1).bind fun b O2=>(r ρ O2).bind fun ps O3=>.ok ((a,b)::ps) O3
theorem QsH {pos:Pos}:DPE X md P pos [] [] Qi1:=⟨[],Qrz,fun σ H Q q=>by
 obtain ⟨ρ,O,F,as,kv,O',r,s,e,k⟩:=q;cases e
 exact k [] H F as Gr.refl r trivial⟩
theorem Qlf {pos:Pos}{ke v:Expr}{ks:List (Option Expr)}{vs:List Expr}{mk mv:M D}{m:M (List (D×D))} (hk:VE X md P ke mk) (hv:VE X md P v mv) (hr:DPE X md P pos ks vs m) :
  DPE X md P pos (some ke::ks) (v::vs) (Qew mk mv m):=by
 obtain ⟨trs,hr⟩:=hr
 exact ⟨(tM X.K X.mg md P (rV X.K) mk,tM X.K X.mg md P (rV X.K) mv)::trs,Qqy hk hv hr.1,fun σ H Q q=>by
 obtain ⟨ρ,O,F,as,kv,O',r,s,e,k⟩:=q;obtain ⟨a,O1,e1,e⟩:=Res.bind_ok e;obtain ⟨b,O2,e2,e⟩:=Res.bind_ok e;obtain ⟨ps,O3,e3,e⟩:=Res.bind_ok e;cases e;refine ⟨ρ,_,F,as,_,_,r,s,e1,fun x H1 F1 as1 g1 r1 hx=>?_⟩;refine ⟨ρ,_,F1,as1,_,_,r1,s.step g1,e2,fun y H2 F2 as2 g2 r2 hy=>?_⟩;have g12:=g1.trans g2;refine hr.2 σ H2 _ ⟨ρ,_,F2,as2,_,_,r2,s.step g12,e3,fun qs H3 F3 as3 g3 r3 hq=>?_⟩
 exact k _ H3 F3 as3 (g12.trans g3) r3 ⟨(Rp.gr hx g2).gr g3,Rp.gr hy g3,hq⟩⟩
def keysOf:List (D×D)→Option (List Key)
 | []=>some []
 | (a,_)::r=>(keyOf a).bind fun k=>(keysOf r).map (k :: ·)
theorem Prs.kvs {K:Frag}{F:Hp}{as:List Addr}:∀{kv:List (D×D)}{ps:List (V×V)}{ks:List Key},Prs K F as ps kv→keysOf kv=some ks →
  ∃kvs:List (Key×V),ps=kvs.map (fun p=>(kV p.1,p.2))∧kvs.map (·.1)=ks∧kv.map (·.1)=kvs.map (fun p=>Qia p.1)∧Rps K F as (kvs.map (·.2)) (kv.map (·.2))
 | [],ps,ks,h,e=>by
  cases ps with
  | nil=>cases e; exact ⟨[],rfl,rfl,rfl,Rps.nil⟩
  | cons _ _=>exact h.elim
 | (a,b)::kv,ps,ks,h,e=>by
  cases ps with
  | nil=>exact h.elim
  | cons p ps =>
   obtain ⟨p1,p2⟩:=p;unfold keysOf at e
   cases ea:keyOf a with
   | none=>rw [ea] at e; cases e
   | some k =>
    rw [ea] at e
    cases er:keysOf kv with
    | none=>rw [er] at e; cases e
    | some ks' =>
     rw [er] at e;cases e;obtain ⟨kvs,h1,h2,h3,h4⟩:=Prs.kvs h.2.2 er;refine ⟨(k,p2)::kvs,?_,?_,?_,Rps.cons h.2.1 h4⟩
     ·rw [ze,←h1]
      have:p1=kV k:=Rp.key h.1 ea
      rw [this]
     ·rw [ze,h2]
     ·rw [ze,ze,h3,QrX ea]
theorem Qkh:∀(more acc:List (Key×V)),((acc++more).map (·.1)).Nodup→Qeq acc more=acc++more
 | [],acc,_=>by simp [Qeq]
 | (k,v)::r,acc,h=>by
  have hk:QbY acc k=none:=by
   cases q:QbY acc k with
   | none=>rfl
   | some w =>
    exfalso
    unfold QbY at q
    cases f:acc.find? fun kv=>decide (kv.1=k) with
    | none=>rw [f] at q; cases q
    | some z =>
     have h1:=List.find?_some f;have h2:=List.mem_of_find?_eq_some f;rw [zN,List.nodup_append] at h;exact h.2.2 z.1 (List.mem_map_of_mem h2) k (by simp) (jf h1)
  show Qeq (putK acc k v) r=_;rw [Qqi _ hk,Qkh r _ (by rw [zP]; exact h),zP];rfl
def Qi4 (m:M (List (D×D))):M D:=fun ρ O=>(m ρ O).bind fun kv O1=>match keysOf kv with
 | some ks=>if ks.Nodup∧kv.length≤15 then .ok (.dic (kv.map (·.1)) (kv.map (·.2))) O1 else .no
 | none=>.no
theorem Prs.length {K:Frag}{F:Hp}{as:List Addr}:∀{kv:List (D×D)}{ps:List (V×V)},Prs K F as ps kv→ps.length=kv.length
 | [],[],_=>rfl
 | _::kv,_::ps,h=>by simp [Prs.length h.2.2]
 | [],_::_,h=>h.elim
 | _::_,[],h=>h.elim
theorem Qr4 {pos:Pos}{keys:List (Option Expr)}{values:List Expr}{m:M (List (D×D))} (h:DPE X md P pos keys values m) (hall:keys.all (·.isSome)=true:=by rfl) (hl:keys.length=values.length:=by rfl) (h0:keys≠[]:=by exact fun z=>nomatch z) (h15:keys.length≤15:=by decide) :
  VE X md P (.Dict keys values pos) (Qi4 m):=by
 obtain ⟨trs,h⟩:=h
 refine (Qrj h.1 hall hl h0 h15).imp fun σ H Q q=>?_
 obtain ⟨ρ,O,F,as,d,O',r,s,e,k⟩:=q;obtain ⟨kv,O1,e1,e⟩:=Res.bind_ok e;split at e
 ·rename_i ks ek;split at e
  ·rename_i hz;cases e;intro p hp;have g0:Gr H F as (upd H p (.dK [])) F as:=Gr.lay hp;refine h.2 σ _ _ ⟨ρ,_,F,as,kv,_,r.lay hp,s.step g0,e1,fun ps H2 F2 as2 g2 r2 hq=>?_⟩
   have hpa:p∉as:=fun z=>r.all z hp
   have h2:H2 p=some (.dK []):=g2.fr _ _ QaC hpa rfl;obtain ⟨kvs,q1,q2,q3,q4⟩:=hq.kvs ek
   have hlen:kvs.length≤15:=by
    have:=hq.length
    rw [q1,zA] at this;omega
   refine ⟨h2,kvs,q1,hlen,?_⟩;rw [Qkh kvs [] (by rw [zY,q2]; exact hz.1),zY]
   have hn:upd H p (.dK []) p≠none:=by rw [QaC]; exact fun z=>nomatch z
   have hF:F2 p=none:=by rw [g2.fz p _ QaC hpa rfl]; exact r.frF hp
   have hpa2:p∉as2:=g2.out hpa hn
   have ff:Same F2 (upd F2 p (.dK kvs)):=fun b u q=>by rw [Qaj (Qau q hF)]; exact q
   have g3:Gr H F as (upd H2 p (.dK kvs)) F2 as2:=by
    have g:=g0.trans g2
    exact ⟨g.fz,g.ff,g.nw,fun a o e ha hd=>by rw [Qaj (Qau e hp)]; exact g.fr a o e ha hd,fun a e=>by
     by_cases hh:a=p
     ·subst hh; exact hp
     ·rw [Qaj hh] at e; exact g.dm a e,fun a o u e=>by rw [Qaj (Qau e hp)]; exact g.kz a o u e⟩
   have r3:RlO X.K X.mg _ (upd H2 p (.dK kvs)) F2 as2:=r2.mut hF hpa2;refine k _ _ (upd F2 p (.dK kvs)) as2 (g3.frz hp hF) (r3.frz QaC hF hpa2 rfl) ?_;show Rp X.K _ _ _ _;rw [Rp];exact ⟨p,kvs,rfl,QaC,q3,Rps.mono ff (fun _ _ z=>z) _ q4⟩
  ·cases e
 ·cases e
def QkE (mo my mz:M D):M D:=fun ρ O=>(mo ρ O).bind fun x O1=>(my ρ O1).bind fun y O2=>(mz ρ O2).bind fun z O3=>match x,keyOf y with
 | .dic ks vs,some k=>.ok ((QfH ks vs k).getD z) O3
 | _,_=>.no
theorem QrD {k:Nat} (hr:QaK k X.A) {o e f:Expr}{apos cpos:Pos}{mo my mz:M D} (ho:VE X md P o mo) (he:VE X md P e my) (hf:VE X md P f mz) (m:M2 X o "get" apos e f cpos:=by exact ⟨rfl,rfl,rfl,rfl⟩):VE X md P (.Call (.Attribute o "get" apos) [e,f] [] cpos) (QkE mo my mz) :=
 (QpX (Qu3 hr) ho he hf m).imp fun σ H Q q=>by
  obtain ⟨ρ,O,F,as,d,O',r,s,e,k⟩:=q;obtain ⟨x,O1,e1,e⟩:=Res.bind_ok e;obtain ⟨y,O2,e2,e⟩:=Res.bind_ok e;obtain ⟨z,O3,e3,e⟩:=Res.bind_ok e;split at e
  ·rename_i _ kk ek _ _;cases e;refine ⟨ρ,_,F,as,_,_,r,s,e1,fun v H1 F1 as1 g1 r1 hv=>?_⟩;obtain ⟨a,kvs,rfl,h1,rfl,h2⟩:=Rp.unD hv;refine ⟨a,rfl,.inl ⟨kvs,.inl (r1.fh _ _ h1)⟩,ρ,_,F1,as1,_,_,r1,s.step g1,e2,fun u H2 F2 as2 g2 r2 hu=>?_⟩;have g12:=g1.trans g2;refine ⟨ρ,_,F2,as2,_,_,r2,s.step g12,e3,fun w H3 F3 as3 g3 r3 hw=>?_⟩;have g13:=g12.trans g3;have gx:=g2.trans g3;have h1':H3 a=some (.dK kvs):=r3.fh _ _ (gx.ff _ _ h1)
   rcases Qka kk h2 with ⟨z1,z2⟩ | ⟨d',v',z1,z2,z3⟩
   ·refine ⟨none,.inl ⟨kvs,kk,.inl h1',Rp.key hu ek,z2.symm⟩,?_⟩;rw [z1] at k;exact k _ H3 F3 as3 g13 r3 hw
   ·refine ⟨some v',.inl ⟨kvs,kk,.inl h1',Rp.key hu ek,z2.symm⟩,?_⟩;rw [z1] at k;exact k _ H3 F3 as3 g13 r3 (z3.gr gx)
  ·cases e
end
section
variable {X:Cx}{md:List Md}{P:Pt}{k:Nat}{c x m:Str}{ps:List Str}{p pos apos:Pos}{o e:Expr}{es:List Expr}{pm:List Md}{cf:List D→Qac→Res D}{mo:M D}{ma:M (List D)}
theorem Qa2 (C:Can X.prog X.w X.K X.mg X.base x ps k (vSp X.K X.mg pm (rV X.K) cf)) (hr:QaK k X.A) (ha:AE X md P pm (e::es) ma) (hg:Gl X x:=by rfl) (hdb:(x == ("__debug__":Str))=false:=by decide) (he:starEach (e::es) X.env=(false,eval e X.env)::starEach es X.env:=by exact Qa3 rfl) (hpl:(backTo pos (starEach es X.env)).any (·.1)=false:=by exact Qa5 rfl) :
  VE X md P (.Call (.Name x p) (e::es) [] pos) (QaB cf ma):=Qmp Qbj C hr ha hg hdb he hpl
theorem Qgi (C:Can X.prog X.w X.K X.mg X.base x ps k (vSp X.K X.mg pm (rO X.K) cf)) (hr:QaK k X.A) (ha:AE X md P pm (e::es) ma) (hg:Gl X x:=by rfl) (hdb:(x == ("__debug__":Str))=false:=by decide) (he:starEach (e::es) X.env=(false,eval e X.env)::starEach es X.env:=by exact Qa3 rfl) (hpl:(backTo pos (starEach es X.env)).any (·.1)=false:=by exact Qa5 rfl) :
  OE X md P (.Call (.Name x p) (e::es) [] pos) (QaB cf ma):=Qmp Qc4 C hr ha hg hdb he hpl
theorem QsB {pl:Sem Bool} (M:QgY X.prog X.w X.K X.mg X.base c m ps k (vSp X.K X.mg (.v::pm) (rO X.K) cf)) (hr:QaK k X.A) (ho:VE X md P o mo) (ha:AE X md P pm (e::es) ma) (hst:starEach (e::es) X.env=(false,eval e X.env)::starEach es X.env:=by exact Qa3 rfl) (hpl:(backTo pos (starEach es X.env)).any (·.1)=false:=by exact Qa5 rfl)
  (ht:eval (.Call (.Attribute o m apos) (e::es) [] pos) X.env=(do
   let ov ←eval o X.env
   standAt apos.atName
   let (f,first) ←holding [ov] (getMethod ov m pl)
   callWith pos f first (backTo pos (starEach (e::es) X.env)) (backToKw pos (keywordEach [] X.env))):=by rfl):OE X md P (.Call (.Attribute o m apos) (e::es) [] pos) (Qe6 c m cf mo ma):=Qsk Qc4 M hr ho ha hst hpl ht
theorem Qqv {pl:Sem Bool} (M:QgY X.prog X.w X.K X.mg X.base c m ps k (vSp X.K X.mg [.v] (rV X.K) cf)) (hr:QaK k X.A) (ho:VE X md P o mo)
  (ht:eval (.Call (.Attribute o m apos) [] [] pos) X.env=(do
   let ov ←eval o X.env
   standAt apos.atName
   let (f,first) ←holding [ov] (getMethod ov m pl)
   callWith pos f first (backTo pos (starEach [] X.env)) (backToKw pos (keywordEach [] X.env))):=by rfl):VE X md P (.Call (.Attribute o m apos) [] [] pos) (Qe6 c m cf mo Qaf):=QpR Qbj M hr ho ht
end
def Itz (K:Frag) (l1 l2:Addr):It:=⟨fun i H=>∃xs ys x y,SqL K H l1 xs∧SqL K H l2 ys∧xs[i]? = some x∧ys[i]? = some y,
 fun i H v H'=>∃T x y,v = .ref T∧H T=none∧H'=upd H T (.tup [x,y])∧(∀xs,SqL K H l1 xs→xs[i]? = some x)∧∀ys,SqL K H l2 ys→ys[i]? = some y,
 fun i H=>∃xs ys,SqL K H l1 xs∧SqL K H l2 ys∧(xs.length≤i∨ys.length≤i)⟩
theorem QpK {P:Program}{w:World}{K:Frag}{elts:List Expr}{x1}{pos:Pos} (z TI TO i1 i2 l1 l2:Addr) (D:ZipApart z TI TO i1 i2 l1 l2):Turn P w K (.Tuple elts x1 pos) (Itz K l1 l2) [z,TI,TO,i1,i2] z
  (fun i h=>IsZip h z TI TO .none∧IsPair h TI (.ref i1) (.ref i2)∧(∃a b,IsPair h TO a b)∧h.IsListIter i1 l1 i∧h.IsListIter i2 l2 i) where
 mem:=by simp
 obj:=fun i h st b hb=>by
  obtain ⟨hz,hTI,⟨a,b',hTO⟩,⟨o1,ho1,hc1,hd1⟩,⟨o2,ho2,hc2,hd2⟩⟩:=st;simp only [zk,List.not_mem_nil,or_false] at hb
  rcases hb with rfl | rfl | rfl | rfl | rfl
  ·exact QcB hz rfl
  ·exact ⟨_,hTI,fun v z=>nomatch z⟩
  ·exact ⟨_,hTO,fun v z=>nomatch z⟩
  ·exact QcB ho1 hd1
  ·exact QcB ho2 hd2
 keep:=fun i h h' st k=>by
  obtain ⟨hz,hTI,⟨a,b',hTO⟩,h1,h2⟩:=st;exact ⟨k z (by simp) _ hz,k TI (by simp) _ hTI,⟨a,b',k TO (by simp) _ hTO⟩,h1.at fun o e=>k i1 (by simp) o e,h2.at fun o e=>k i2 (by simp) o e⟩
 item:=by
  intro X hP hw hK hc i pins s σ H E I hf st hg;subst hP hw hK;obtain ⟨hz,hTI,⟨a,b',hTO⟩,h1,h2⟩:=st;obtain ⟨xs,ys,x,y,hq1,hq2,hx,hy⟩:=hg;obtain ⟨its1,rv1,pl1,hz1⟩:=I.list hq1;obtain ⟨its2,rv2,pl2,hz2⟩:=I.list hq2;obtain ⟨u1,hu1,ru1⟩:=rv1.get hx;obtain ⟨u2,hu2,ru2⟩:=rv2.get hy;have hT:H s.heap.objs.size=none:=I.hok.fresh (zc _);have elt:z < s.heap.objs.size:=zd hz
  refine wpAny_pyNext_zip_item D hz hTI hTO h1 h2 pl1.isList pl2.isList (x:=u1) (y:=u2) (by simpa using hu1) (by simpa using hu2) fun h' a1 a2 a3 a4 a5 a6 hk=>⟨_,rfl,?_⟩
  refine wpAny_letOwnedTupleGo_zip a1 fun h'' hz'' hs''=>⟨.ref s.heap.objs.size,_,?_,rfl,⟨s.heap.objs.size,x,y,rfl,hT,rfl,fun ys' hy'=>by rw [I.list_inj hy' hq1]; exact hx,fun ys' hy'=>by rw [I.list_inj hy' hq2]; exact hy⟩,⟨hz'',hs''.extBut _ _ D.TIz (hk _ _ D.TIz D.TITO D.TIi1 D.TIi2 hTI),⟨_,_,hs''.extBut _ _ D.TOz a2⟩,a3.extBut hs''.extBut D.i1z,a4.extBut hs''.extBut D.i2z⟩,fun b hb=>?_⟩
  ·show Inv X pins σ _ { s with heap:=h'',toks:=s.toks };refine I.turnT (ch:=[z,TI,TO,i1,i2]) (us:=[u1,u2]) hf (fun b o hb q=>?_) (zc _) ⟨_,hs''.extBut _ _ (Nat.ne_of_gt elt) a5,rfl,_,rfl⟩ (.cons ru1 (.cons ru2 .nil)) (by show 2≤sizeLine; decide)
   have n1:b≠z:=fun e=>hb (by simp [e])
   have n2:b≠TO:=fun e=>hb (by simp [e])
   have n3:b≠i1:=fun e=>hb (by simp [e])
   have n4:b≠i2:=fun e=>hb (by simp [e])
   exact hs''.extBut _ _ n1 (hk b o n1 n2 n3 n4 q)
  ·have q:=hf b hb;rw [Qaj (fun e=>?_)]
   ·exact q.1
   ·obtain ⟨o,ho⟩:∃o,s.heap.get? b=some o:=by
     obtain ⟨o1,ho1,_⟩:=h1;obtain ⟨o2,ho2,_⟩:=h2;simp only [zk,List.not_mem_nil,or_false] at hb
     rcases hb with rfl | rfl | rfl | rfl | rfl
     ·exact ⟨_,hz⟩
     ·exact ⟨_,hTI⟩
     ·exact ⟨_,hTO⟩
     ·exact ⟨_,ho1⟩
     ·exact ⟨_,ho2⟩
    exact absurd (zd ho) (by rw [e]; exact zI _)
 done:=by
  intro X hP hw hK hc i pins s σ H E I hf st hg;subst hP hw hK;obtain ⟨hz,hTI,⟨a,b',hTO⟩,h1,h2⟩:=st;obtain ⟨xs,ys,hq1,hq2,hl⟩:=hg;obtain ⟨its1,rv1,pl1,hz1⟩:=I.list hq1;obtain ⟨its2,rv2,pl2,hz2⟩:=I.list hq2;have l1:=rv1.length;have l2:=rv2.length
  refine wpAny_pyNext_zip_end (I.ok.hd hc) D hz hTI hTO h1 h2 pl1.isList pl2.isList (by
   rcases hl with hl | hl
   ·left; simp; omega
   ·right; simp; omega) fun h' hx=>⟨rfl,?_⟩
  exact I.turnL (t':=s.toks) (ch:=[z,TI,TO,i1,i2]) hf fun b o hb q=>hx b o (fun e=>hb (by simp [e])) (fun e=>hb (by simp [e])) (fun e=>hb (by simp [e])) (fun e=>hb (by simp [e])) q
 self:=fun A i s Q E st h=>wpAny_pyIter_zip st.1 h
section
variable {X:Cx}{md:List Md}{P:Pt}{R:RR}{elts:List Expr}{x1:Nat}{tpos:Pos}
def QvO (K:Frag) (ta:TA):TI:=fun σ H R=>ta σ H fun vs H1=>∃a b,vs = [.ref a,.ref b]∧(∃xs,SqL K H1 a xs)∧(∃ys,SqL K H1 b ys)∧R (Itz K a b) H1
theorem Quh {a b:Expr}{ta:TA}{p pos:Pos} (hg:Gl X "zip") (hm:X.mg "zip" = none) (ha:PA X [a,b] ta) (hs:starEach [a,b] X.env=(false,eval a X.env)::starEach [b] X.env:=by exact Qa3 rfl) (hpl:(backTo pos (starEach [b] X.env)).any (·.1)=false:=by exact Qa5 rfl) :
  PI X (.Tuple elts x1 tpos) (.Call (.Name "zip" p) [a,b] [] pos) (QvO X.K ta):=by
 intro pins s σ H R I h;refine Call_ (Qfr I hg hm boot_zip (PyProof.Rows.callWith_type1 (thn (ha pos pins s σ H _ I h) fun us s1 ⟨vs,H1,I1,r1,q1⟩=>?_) hs hpl));obtain ⟨l1,l2,e,⟨xs,hq1⟩,⟨ys,hq2⟩,q⟩:=q1;subst e;obtain ⟨u1,u2,rfl,ru1,ru2⟩:=vals2 r1;cases ru1;cases ru2;obtain ⟨its1,rv1,pl1,hz1⟩:=I1.list hq1;obtain ⟨its2,rv2,pl2,hz2⟩:=I1.list hq2
 have a1:l1 < s1.heap.objs.size:=by obtain ⟨_,e,_⟩:=pl1.isList; exact zd e
 have a2:l2 < s1.heap.objs.size:=by obtain ⟨_,e,_⟩:=pl2.isList; exact zd e
 refine call_zip_2 pl1.isList pl2.isList fun h' hz hTI hTO hit1 hit2 hsz hk=>wpAny_pyIter_zip hz ?_
 refine ⟨s1.heap.objs.size+4,[s1.heap.objs.size+4,s1.heap.objs.size+2,s1.heap.objs.size+3,s1.heap.objs.size,s1.heap.objs.size+1],_,_,H1,rfl,I1.kept (t':=s1.toks) hk,QpK _ _ _ _ _ l1 l2 (zipApart_new a1 a2),⟨hz,hTI,⟨_,_,hTO⟩,hit1,hit2⟩,fun b hb=>?_,q⟩
 have hb':s1.heap.objs.size≤b:=by
  simp only [zk,List.not_mem_nil,or_false] at hb
  rcases hb with rfl | rfl | rfl | rfl | rfl
  ·exact zW _ _
  ·exact zW _ _
  ·exact zW _ _
  ·exact zc _
  ·exact zW _ _
 exact I1.fpOk hb' (I1.hok.fresh hb')
def Qdj:List D→List D→List D
 | d::ds,e::es=>.tup [d,e]::Qdj ds es
 | _,_=>[]
theorem QlA:∀(ds es:List D) (i:Nat) (x:D),(Qdj ds es)[i]? = some x→∃d e,ds[i]? = some d∧es[i]? = some e∧x = .tup [d,e]
 | [],es,i,x,h=>by simp [Qdj] at h
 | d::ds,[],i,x,h=>by simp [Qdj] at h
 | d::ds,e::es,0,x,h=>by
  simp [Qdj] at h
  exact ⟨d,e,rfl,rfl,h.symm⟩
 | d::ds,e::es,i+1,x,h=>by
  obtain ⟨d',e',h1,h2,h3⟩:=QlA ds es i x (by simpa [Qdj] using h);exact ⟨d',e',by simpa using h1,by simpa using h2,h3⟩
theorem Qld:∀(ds es:List D),ds.length≤(Qdj ds es).length∨es.length≤(Qdj ds es).length
 | [],es=>.inl (Nat.zero_le _)
 | d::ds,[]=>.inr (Nat.zero_le _)
 | d::ds,e::es=>by
  rcases Qld ds es with h | h
  ·left; simp [Qdj]; exact h
  ·right; simp [Qdj]; exact h
def QkR (ma mb:M D):M (List D):=fun ρ O=>(ma ρ O).bind fun d O1=>(mb ρ O1).bind fun e O2=>match d,e with
 | .lst ds,.lst es=>.ok (Qdj ds es) O2
 | _,_=>.no
theorem Qs9 {a b:Expr}{p pos:Pos}{ma mb:M D} (hm:X.mg "zip" = none) (h:WE X md P a ma) (h':WE X md P b mb) (hg:Gl X "zip":=by rfl) (hs:starEach [a,b] X.env=(false,eval a X.env)::starEach [b] X.env:=by exact Qa3 rfl) (hs':starEach [b] X.env=(false,eval b X.env)::starEach [] X.env:=by exact Qa3 rfl) (hpl:(backTo pos (starEach [b] X.env)).any (·.1)=false:=by exact Qa5 rfl) :
  VI X md P (.Tuple elts x1 tpos) (.Call (.Name "zip" p) [a,b] [] pos) (QkR ma mb):=(Quh hg hm (QbA h (QbA h' Qcp hs') hs) hs hpl).imp fun σ H Q q=>by
 obtain ⟨ρ,O,F,as,ds,O',r,s,e,k⟩:=q;obtain ⟨d1,O1,e1,e⟩:=Res.bind_ok e;obtain ⟨d2,O2,e2,e⟩:=Res.bind_ok e
 cases d1 with
 | lst ds1 =>
  cases d2 with
  | lst ds2 =>
   cases e;refine ⟨ρ,_,F,as,_,_,r,s,e1,fun v H1 F1 as1 g1 r1 hv=>?_⟩;refine ⟨ρ,_,F1,as1,_,_,r1,s.step g1,e2,fun u H2 F2 as2 g2 r2 hu=>?_⟩;obtain ⟨a,xs,rfl,h1,h2⟩:=Qiy (mg:=X.mg) hv;obtain ⟨b,ys,rfl,h3,h4⟩:=Qiy (mg:=X.mg) hu
   have h2':∀(H3 F3:Hp) (as3:List Addr),GrS P H2 F2 as2 H3 F3 as3→(∃O,RlO X.K X.mg O H3 F3 as3)→RdK X.K H3 a xs:=fun H3 F3 as3 g r=>h2 H3 F3 as3 (g2.toS.trans g) r
   have h1':=h1.gr g2;refine ⟨a,b,rfl,⟨xs,(h2' H2 F2 as2 GrS.refl ⟨_,r2⟩).sq⟩,⟨ys,(h4 H2 F2 as2 GrS.refl ⟨_,r2⟩).sq⟩,k _ H2 F2 as2 (g1.trans g2) r2 ⟨fun i d H3 F3 as3 g r e=>?_,fun H3 F3 as3 g r=>⟨xs,ys,(h2' H3 F3 as3 g r).sq,(h4 H3 F3 as3 g r).sq,?_⟩⟩⟩
   ·obtain ⟨x',y',q1,q2,rfl⟩:=QlA _ _ _ _ e;obtain ⟨x,hx,rx⟩:=h1'.get' q1;obtain ⟨y,hy,ry⟩:=h3.get' q2;have sx:=(h2' H3 F3 as3 g r).sq;have sy:=(h4 H3 F3 as3 g r).sq;refine ⟨⟨xs,ys,x,y,sx,sy,hx,hy⟩,fun z H4 hz=>?_⟩;obtain ⟨T,x2,y2,rfl,hT,rfl,hx2,hy2⟩:=hz;have t1:=hx2 xs sx;have t2:=hy2 ys sy;rw [hx] at t1;rw [hy] at t2;cases t1;cases t2;exact Qie r hT (Rps.cons (rx.grS g) (Rps.cons (ry.grS g) Rps.nil))
   ·rw [h1'.length,h3.length];exact Qld ds1 ds2
  | _=>cases e
 | _=>cases e
def Qjf (m:MS):MS:=fun ρ O=>match m ρ O with
 | .rt d O'=>.rt d O'
 | _=>.no
theorem SlO.toV {K:Frag}{ρ:Qak}{σ:St}{H F F':Hp}{as:List Addr}{i:Nat} (s:SlO K md P ρ σ H F as) (hm:md[i]? = some .o) (ff:Same F F')
  (hown:∀(j:Nat) (ds:List D) (a:Addr),j≠i→md[j]? = some .o→ρ[j]? = some (some (.lst ds))→σ[j]? = some (some (.ref a))→F' a=F a)
  (hv:∀d,ρ[i]? = some (some d)→∃v,σ[i]? = some (some v)∧Rp K F' as v d):SlO K (md.set i .v) P ρ σ H F' as:=by
 have hi:i < md.length:=(zn.mp hm).1
 have back:∀(j:Nat),(md.set i Md.v)[j]? = some Md.o→j≠i∧md[j]? = some .o:=fun j e=>by
  by_cases hj:j=i
  ·subst hj;rw [zE hi] at e;cases e
  ·rw [zq (Ne.symm hj)] at e;exact ⟨hj,e⟩
 refine ⟨by rw [zQ]; exact s.len,by rw [zQ]; exact s.len',s.pd,fun j m d e1 e2=>?_,fun j k a ds es h1 h2 h3 h4 h5 h6=>s.inj j k a ds es (back j h1).2 (back k h2).2 h3 h4 h5 h6,fun x hx=>?_⟩
 ·by_cases hj:j=i
  ·subst hj;rw [zE hi] at e1;cases e1;exact hv d e2
  ·rw [zq (Ne.symm hj)] at e1;obtain ⟨v,q,t⟩:=s.sl j m d e1 e2;refine ⟨v,q,?_⟩
   cases m with
   | v=>exact Rp.mono ff (fun _ _ z=>z) _ t
   | s =>
    rcases t with t | ⟨a,xs,ds,t1,t2,t3,t4,t5,t6⟩
    ·exact .inl (Rp.mono ff (fun _ _ z=>z) _ t)
    ·exact .inr ⟨a,xs,ds,t1,t2,t3,t4,t5,Rps.mono ff (fun _ _ z=>z) _ t6⟩
   | o =>
    rcases t with ⟨t0,t⟩ | ⟨a,xs,ds,rfl,rfl,t3,t0,t4,t5,t6⟩
    ·exact .inl ⟨t0,Rp.mono ff (fun _ _ z=>z) _ t⟩
    ·exact .inr ⟨a,xs,ds,rfl,rfl,t3,by rw [hown j ds a hj e1 e2 q]; exact t0,t4,t5,Rps.mono ff (fun _ _ z=>z) _ t6⟩
 ·obtain ⟨p1,p2,p3⟩:=s.pin x hx
  have hne:i≠x.1:=fun z=>by rw [←z,hm] at p1; cases p1
  exact ⟨by rw [zq hne]; exact p1,p2,p3⟩
theorem QtL {K:Frag}{mg:Str→Option Value}{i:Nat}{m:MS} (hm:md[i]? = some .o) {D:Ends}{σ:St}{H:Hp} (q:tMS K mg md P R (Qjf m) D σ H):tMS K mg (md.set i .v) P R m D σ H:=by
 obtain ⟨ρ,O,F,as,r,s,k⟩:=q;unfold Qjf at k
 cases e:m ρ O with
 | rt d O' =>
  rw [e] at k
  by_cases hl:∃ds,ρ[i]? = some (some (.lst ds))
  ·obtain ⟨ds,hρ⟩:=hl;obtain ⟨a,xs,h1,h2,h3,h4,h5,h6⟩:=s.own hm hρ
   have ff:Same F (upd F a (.lst xs)):=fun b u q=>by rw [Qaj (Qau q h3)]; exact q
   have g0:GrS P H F as H (upd F a (.lst xs)) as:=⟨fun c _ p _ _ _=>Qaj (fun z=>h5 (by rw [←z]; exact p)),ff,⟨[],by simp,fun _ h=>nomatch h⟩,fun _ _ _ h _ _=>h,fun _ h=>h,fun _ _ _ h=>h⟩;refine ⟨ρ,O,upd F a (.lst xs),as,r.frz h2 h3 h4 rfl,s.toV hm ff (fun j es b hj m1 m2 m3=>?_) (fun d' hd'=>?_),?_⟩
   ·refine Qaj fun z=>hj ?_
    rw [z] at m3;exact s.inj j i a es ds m1 hm m2 hρ m3 h1
   ·rw [hρ] at hd';cases hd';exact ⟨_,h1,Rp.mkL (.inl (.inl QaC)) (Rps.mono ff (fun _ _ z=>z) _ h6)⟩
   ·rw [e]
    exact fun v H' F' as' g r' hv=>k v H' F' as' (g0.trans g) r' hv
  ·refine ⟨ρ,O,F,as,r,s.toV hm (Same.refl F) (fun _ _ _ _ _ _ _=>rfl) (fun d' hd'=>?_),by rw [e]; exact k⟩;obtain ⟨v,h1,h2⟩:=s.sl i .o d' hm hd'
   rcases h2 with ⟨_,h2⟩ | ⟨a,xs,ds,_,rfl,_⟩
   ·exact ⟨v,h1,h2⟩
   ·exact absurd ⟨ds,hd'⟩ hl
 | _=>rw [e] at k; exact False.elim k
theorem Qth (i:Nat) {st:Stmt}{m:MS} (hm:md[i]? = some .o) (h:VS X (md.set i .v) P R st m):VS X md P R st (Qjf m):=h.imp fun _ _ _=>QtL hm
end
section
variable {prog:Program}{w:World}{A:Around}{E:Value→Shared→Prop}
end
section
variable {X:Cx}{md:List Md}{P:Pt}{R:RR}
theorem RlO.ml {K:Frag}{mg:Str→Option Value}{O:Qac}{H F:Hp}{as:List Addr}{n:Nat}{a:Addr}{ds:List D} (r:RlO K mg O H F as) (hn:as[n]? = some a) (hO:O[n]? = some (.ml ds)):∃xs,H a=some (.lst xs)∧Rps K F as xs ds:=r.ob n a _ hn hO
end
def Qnf (K:Frag) (mg:Str→Option Value) (x:Str) (ls:List (List Nat)):Prop:=∃(a:Addr) (o:Obj) (its:Array Value) (n:Nat),mg x=some (.ref a)∧K.lookup a=some o∧o.cls = .type "tuple"∧o.data = .seq its n∧its.size≤sizeLine∧QaA (ls.map fun l=>V.str (S l)) its.toList
theorem Rps.texts {K:Frag}{F:Hp}{as:List Addr}:∀ls:List (List Nat),Rps K F as (ls.map fun l=>V.str (S l)) (ls.map D.str)
 | []=>Rps.nil
 | l::ls=>Rps.cons Rp.str (Rps.texts ls)
theorem Qjb {X:Cx}{md:List Md}{P:Pt}{x:Str}{ls:List (List Nat)}{pos:Pos} (h:Qnf X.K X.mg x ls) (hg:Gl X x:=by rfl) (hdb:(x == ("__debug__":Str))=false:=by decide):VE X md P (.Name x pos) (mC (.tup (ls.map D.str))):=by
 obtain ⟨a,o,its,n,hm,hk,h1,h2,h3,h4⟩:=h
 refine (Qlc (v:=.ref a) ⟨_,hm,rfl⟩ hg hdb).imp fun σ H Q q=>?_
 obtain ⟨ρ,O,F,as,d,O',r,s,e,k⟩:=q;cases e;exact k _ H F as Gr.refl r (Rp.mkT (.inr ⟨o,its,n,hk,h1,h2,h3,h4⟩) (Rps.texts ls))
theorem QbO {α:Type}{p:List α→Prop} (h:p []):∀us:List α,us.length=0→p us:=fun us e=>by
 cases us with
 | nil=>exact h
 | cons a as=>cases e
theorem Qbb {α:Type}{p:List α→Prop}{n:Nat} (h:∀a,∀us:List α,us.length=n→p (a::us)):∀us:List α,us.length=n+1→p us:=fun us e=>by
 cases us with
 | nil=>cases e
 | cons a as=>exact h a as (Nat.succ.inj e)
section
variable {prog:Program}{w:World}{κ:Type} [DecidableEq κ] {knd:HeapKind prog w κ}{A:Around}{E:Value→Shared→Prop}{s:Shared}
end
section
variable {X:Cx}{pins:List (Addr×Obj)}{σ:St}{H:Hp}{s:Shared}{a b:Addr}{v:V}{r:Value}{kvs:List (List Key×V)}{k:List Key}{A:Around}{E:Value→Shared→Prop}
end
def QmW:List D→Option (List Key)
 | []=>some []
 | .int i::ds=>(QmW ds).map (Sum.inl i :: ·)
 | _=>none
theorem Rps.keys {K:Frag}{F:Hp}{as:List Addr}:∀{ds:List D}{xs:List V}{ks:List Key},Rps K F as xs ds→QmW ds=some ks→xs=ks.map kV∧∃is:List Int,ks=is.map Sum.inl
 | [],xs,ks,h,e=>by cases e; exact ⟨h.un0,[],rfl⟩
 | .int i::ds,xs,ks,h,e=>by
  obtain ⟨x,r,rfl,h1,h2⟩:=h.un;obtain ⟨ks',e1,rfl⟩:=Option.map_eq_some_iff.mp (show (QmW ds).map (Sum.inl i :: ·)=some ks from e);obtain ⟨q1,is,rfl⟩:=Rps.keys h2 e1;exact ⟨by rw [h1.unI,q1]; rfl,i::is,rfl⟩
 | .non::ds,xs,ks,h,e=>by cases e
 | .bl _::ds,xs,ks,h,e=>by cases e
 | .str _::ds,xs,ks,h,e=>by cases e
 | .lst _::ds,xs,ks,h,e=>by cases e
 | .tup _::ds,xs,ks,h,e=>by cases e
 | .dic _ _::ds,xs,ks,h,e=>by cases e
 | .ob _::ds,xs,ks,h,e=>by cases e
def Qjl (kvs:List (List Key×D)) (k:List Key):Option D:=(kvs.find? fun p=>decide (p.1=k)).map (·.2)
def QtP (kvs:List (List Key×D)) (k:List Key) (d:D):List (List Key×D) :=
 if (kvs.any fun p=>decide (p.1=k))=true then kvs.map (fun p=>if p.1=k then (p.1,d) else p) else kvs ++ [(k,d)]
def DtR (K:Frag) (F:Hp) (as:List Addr) (xs:List (List Key×V)) (kvs:List (List Key×D)):Prop:=xs.map (·.1)=kvs.map (·.1)∧Rps K F as (xs.map (·.2)) (kvs.map (·.2))
section
variable {K:Frag}{mg:Str→Option Value}{O:Qac}{H F H' F':Hp}{as as':List Addr}
theorem DtR.len {xs:List (List Key×V)}{kvs:List (List Key×D)} (h:DtR K F as xs kvs):xs.length=kvs.length:=by
 have:=congrArg List.length h.1
 simpa using this
theorem DtR.un {xs:List (List Key×V)}{p:List Key×D}{kvs:List (List Key×D)} (h:DtR K F as xs (p::kvs)):∃v r,xs=(p.1,v)::r∧Rp K F as v p.2∧DtR K F as r kvs:=by
 obtain ⟨h1,h2⟩:=h
 cases xs with
 | nil=>cases h1
 | cons x r =>
  obtain ⟨v,r',e,q1,q2⟩:=h2.un;cases e;rw [ze,ze] at h1;have q3:=(List.cons.inj h1).1;refine ⟨x.2,r,?_,q1,(List.cons.inj h1).2,q2⟩;rw [←q3]
theorem DtR.val {k:List Key}:∀{kvs:List (List Key×D)}{xs:List (List Key×V)},DtR K F as xs kvs→(Qjl kvs k=none∧QbY xs k=none)∨∃d v,Qjl kvs k=some d∧QbY xs k=some v∧Rp K F as v d
 | [],xs,h=>by
  have:=h.len
  cases xs with
  | nil=>exact .inl ⟨rfl,rfl⟩
  | cons=>cases this
 | p::kvs,xs,h=>by
  obtain ⟨v,r,rfl,h1,h2⟩:=h.un
  by_cases e:p.1=k
  ·exact .inr ⟨p.2,v,by simp [Qjl,List.find?_cons,e],Qfi e,h1⟩
  ·rw [show Qjl (p::kvs) k=Qjl kvs k by simp [Qjl,List.find?_cons,e],Qft (p:=(p.1,v)) e];exact DtR.val h2
theorem DtR.any {k:List Key}:∀{kvs:List (List Key×D)}{xs:List (List Key×V)},DtR K F as xs kvs→(xs.any fun p=>decide (p.1=k))=kvs.any fun p=>decide (p.1=k)
 | [],xs,h=>by
  have:=h.len
  cases xs with
  | nil=>rfl
  | cons=>cases this
 | p::kvs,xs,h=>by
  obtain ⟨v,r,rfl,h1,h2⟩:=h.un;rw [List.any_cons,List.any_cons,DtR.any h2]
theorem DtR.repl {k:List Key}{v:V}{d:D} (hv:Rp K F as v d):∀{kvs:List (List Key×D)}{xs:List (List Key×V)},DtR K F as xs kvs →
  DtR K F as (xs.map fun p=>if p.1=k then (p.1,v) else p) (kvs.map fun p=>if p.1=k then (p.1,d) else p)
 | [],xs,h=>by
  have:=h.len
  cases xs with
  | nil=>exact ⟨rfl,Rps.nil⟩
  | cons=>cases this
 | p::kvs,xs,h=>by
  obtain ⟨u,r,rfl,h1,h2⟩:=h.un;obtain ⟨i1,i2⟩:=DtR.repl (k:=k) hv h2
  by_cases e:p.1=k
  ·rw [ze,ze,if_pos e,if_pos e];exact ⟨by rw [ze,ze,i1],Rps.cons hv i2⟩
  ·rw [ze,ze,if_neg e,if_neg e];exact ⟨by rw [ze,ze,i1],Rps.cons h1 i2⟩
theorem DtR.put {xs:List (List Key×V)}{kvs:List (List Key×D)} (h:DtR K F as xs kvs) (k:List Key) {v:V}{d:D} (hv:Rp K F as v d):DtR K F as (putK xs k v) (QtP kvs k d):=by
 unfold putK QtP;rw [h.any]
 split
 ·exact h.repl hv
 ·exact ⟨by rw [zN,zN,h.1]; rfl,by rw [zN,zN]; exact Rps.snoc h.2 hv⟩
theorem DtR.mono {xs:List (List Key×V)}{kvs:List (List Key×D)} (h:DtR K F as xs kvs) (e:Same F F') (ea:∀(n:Nat) (a:Addr),as[n]? = some a→as'[n]? = some a):DtR K F' as' xs kvs:=⟨h.1,Rps.mono e ea _ h.2⟩
theorem RlO.dt {n:Nat}{a:Addr}{kvs:List (List Key×D)} (r:RlO K mg O H F as) (hn:as[n]? = some a) (hO:O[n]? = some (.dt kvs)):∃xs,H a=some (.dT xs)∧DtR K F as xs kvs:=let ⟨xs,h1,h2,h3⟩:=r.ob n a _ hn hO; ⟨xs,h1,h2,h3⟩
theorem Gr.snoc {p:Addr}{o:HO} (hp:H p=none):Gr H F as (upd H p o) F (as ++ [p]) :=
 ⟨fun _ _ _ _ _=>rfl,Same.refl F,⟨[p],rfl,fun a h=>by rw [zz.mp h]; exact hp⟩,fun a u e _ _=>by rw [Qaj (Qau e hp)]; exact e,fun a e=>by
  by_cases h:a=p
  ·subst h; exact hp
  ·rwa [Qaj h] at e,fun a o' u e=>by rw [Qaj (Qau e hp)]; exact e⟩
end
section
variable {X:Cx}{md:List Md}{P:Pt}{R:RR}
end
section
variable {X:Cx}
open Classical in
noncomputable def eqR (s:Shared) (x:PyData) (u:Value):Bool:=decide (∃d as,Reads s.heap u d as∧d.canLay0=true∧PyData.eqv d x=true)
open Classical in
theorem Qxh {s:Shared}{x d:PyData}{u:Value}{as:List Addr} (h:Reads s.heap u d as) (hd:d.canLay0=true):eqR s x u=PyData.eqv d x:=by
 unfold eqR
 cases e:PyData.eqv d x with
 | true=>exact zt ⟨d,as,h,hd,e⟩
 | false =>
  refine zg fun ⟨d',as',h',hd',e'⟩=>?_
  rw [←SeqAt.Reads.unique d d' u as as' hd h h',e] at e';cases e'
end
section
variable {X:Cx}{md:List Md}{P:Pt}{R:RR}
end
section
variable {K:Frag}{mg:Str→Option Value}{O:Qac}{H F:Hp}{as:List Addr}
end
section
variable {X:Cx}{md:List Md}{P:Pt}{R:RR}
end
section
variable {X:Cx}{md:List Md}{P:Pt}{R:RR}
end
end L2
namespace L2
open PySem PySem.Spec PyProof.Rows PySem.W PySem.Calls
section
variable {prog:Program}{w:World}{A:Around}{E:Value→Shared→Prop}{s:Shared}{a:Addr}{vs out:List Value}{p:Array Nat}
end
def Qm8 {α:Type} (cmp:Nat→Nat→Bool→Prop):KasT α→α→Prop
 | .ret a,r=>r=a
 | .ask i j k,r=>∃b,cmp i j b∧Qm8 cmp (k b) r
theorem Qm8.wp {α:Type}{cmp:Nat→Nat→Bool→Prop}{ask:Nat→Nat→(Bool→Shared→Prop)→Shared→Prop}{s:Shared} (hc:∀i j b,cmp i j b→∀C:Bool→Shared→Prop,C b s→ask i j C s) {G:α→Shared→Prop}{r:α} (hg:G r s):∀t:KasT α,Qm8 cmp t r→t.kasWp ask G s
 | .ret a,h=>by
  cases (show r=a from h);exact hg
 | .ask i j k,h=>by
  obtain ⟨b,h1,h2⟩:=h;exact hc i j b h1 _ (Qm8.wp hc hg (k b) h2)
section
variable {X:Cx}
theorem Rps.getD {K:Frag}{F:Hp}{as:List Addr}{ds:List D}{xs:List V} (h:Rps K F as xs ds) (i:Nat):Rp K F as (xs.getD i V.non) (ds.getD i .non):=by
 rw [je,je]
 cases e:ds[i]? with
 | none =>
  have:xs[i]? = none:=by
   rw [List.getElem?_eq_none_iff] at e ⊢;rw [h.length];exact e
  rw [this];exact Rp.non
 | some d =>
  obtain ⟨v,hv,r⟩:=h.get' e;rw [hv];exact r
end
structure QtS (mg:Str→Option Value):Prop extends Blt mg where
 sorted_:mg "sorted" = none
end L2
namespace L2
open PySem PySem.Spec PyProof.Rows
abbrev Qt8 (h:Heap) (z TI TO T:Addr) (b:Bool):Prop :=
 h.get? z=some { cls:=.type "zip",dict:=none,data:=.fields #[rawInt T,.bool b,.bool false,.ref TI,.ref TO],slots:=#[] }
section
variable {prog:Program}{w:World}{A:Around}{E:Value→Shared→Prop}{s:Shared}
structure ZS (base:Nat) (h:Heap) (z TI TO i1 i2 l1 l2 S:Addr) (xs ys acc:Array Value) (c i:Nat):Prop where
 zi:(IsZip h z TI TO .none∧∃a b,IsPair h TO a b)∨∃T b o,Qt8 h z TI TO T b∧h.get? T=some o∧T∉[z,TO,i1,i2,S]
 ti:IsPair h TI (.ref i1) (.ref i2)
 it1:h.IsListIter i1 l1 i
 it2:h.IsListIter i2 l2 i
 a1:h.IsList l1 xs
 a2:h.IsList l2 ys
 ls:h.get? S=some { cls:=.type "list",dict:=none,data:=.seq acc c,slots:=#[] }
 sz:acc.size=i
 tl:TO < h.objs.size
 nd:acc.toList.Nodup
 ts:∀(j:Nat) (v:Value),acc[j]? = some v→∃(T:Addr) (x y:Value),v=Value.ref T∧xs[j]? = some x∧ys[j]? = some y∧IsPair h T x y∧T∉[z,TO,i1,i2,S]∧base≤T
variable {R:PySem.Result→Shared→Prop}
end
theorem Un.more {fs ex:List Addr}{H H1:Hp}{h h':Heap}{a:Addr}{o:HO} (u:Un fs ex H H1 h h') (hp:h.objs.size≤a) (hn:H1 a=none):Un fs ex H (upd H1 a o) h h' where
 keep:=u.keep
 slot:=u.slot
 free:=fun b ob q n hx=>by rw [Qaj (zl (zv (zd q) hp))]; exact u.free b ob q n hx
 there:=u.there
 tups:=fun b xs q=>by have z:=u.tups b xs q; rw [Qaj (Qau z hn)]; exact z
 frzs:=fun b ob v q=>by have z:=u.frzs b ob v q; rw [Qaj (Qau z hn)]; exact z
 tbls:=fun b ps q=>by obtain ⟨m,z⟩:=u.tbls b ps q; exact ⟨m,by rw [Qaj (Qau z hn)]; exact z⟩
theorem HOk.more {P:Program}{w:World}{H:Hp}{h:Heap}{a:Addr}{o:HO} (x:HOk P w H h) (hn:H a=none) (new:Qbi P w (upd H a o) h a o):HOk P w (upd H a o) h:=fun b u e=>by
 by_cases hb:b=a
 ·subst hb; rw [QaC] at e; cases e; exact new
 ·rw [Qaj hb] at e
  exact (x b u e).stay (fun c v _ q=>q) (fun c q=>by rw [Qaj (Qau q hn)]; exact q) fun c xs q=>by rw [Qaj (Qau q hn)]; exact q
section
variable {X:Cx}
end
section
variable {X:Cx}{md:List Md}{P:Pt}
end
section
end
end L2
namespace L2
open PySem PySem.Spec PyProof.Rows PySem.W
section
variable {X:Cx}{md:List Md}{P:Pt}
end
end L2
namespace L2
open PySem PySem.Spec PyProof.Rows
section
variable {X:Cx}{md:List Md}{P:Pt}{R:RR}
variable {elts:List Expr}{x1:Nat}{tpos:Pos}{a elt:Expr}{ifs:List Expr}{scope:Scope}{p pos pe:Pos}{m:M D}{g:MG}{t:M Bool}{e:M D}
end
section
variable {X:Cx}{md:List Md}{P:Pt}{R:RR}{tg:Expr}
end
structure Qyg (mg:Str→Option Value):Prop extends QtS mg where
 reversed_:mg "reversed" = none
end L2
namespace L2
open PySem PySem.Spec PyProof.Rows PySem.W
section
variable {prog:Program}{w:World}{A:Around}{E:Value→Shared→Prop}
end
section
variable {X:Cx}{md:List Md}{P:Pt}{R:RR}
end
section
variable {X:Cx}{tg:Expr}{md:List Md}{P:Pt}
end
section
variable {X:Cx}{pins:List (Addr×Obj)}{σ:List (Option V)}{H:Hp}{s:Shared}{a:Addr}{xs:List (List Key×V)}{o:Obj}
end
section
variable {prog:Program}{w:World}{A:Around}{E:Value→Shared→Prop}{s:Shared}
end
section
variable {K:Frag}{mg:Str→Option Value}{O:Qac}{H F:Hp}{as:List Addr}
theorem RlO.df {n:Nat}{a:Addr}{kvs:List (List Key×D)} (r:RlO K mg O H F as) (hn:as[n]? = some a) (hO:O[n]? = some (.df kvs)):∃o xs,H a=some (.frz o (.dT xs))∧DtR K F as xs kvs:=let ⟨o,xs,h1,h2,h3⟩:=r.ob n a _ hn hO; ⟨o,xs,h1,h2,h3⟩
end
section
variable {X:Cx}{md:List Md}{P:Pt}{R:RR}
end
section
variable {K:Frag}{mg:Str→Option Value}{md:List Md}{P:Pt}{ρ:Qak}{σ:St}{O:Qac}{H F H' F':Hp}{as as':List Addr}
end
section
variable {X:Cx}{md:List Md}{P:Pt}{R:RR}
end
section
variable {X:Cx}{md:List Md}{P:Pt}{R:RR}
end
section
variable {prog:Program}{w:World}
end
section
variable {X:Cx}{md:List Md}{P:Pt}{R:RR}
end
def QjF (kvs:List (Key×D)) (k:Key):Option D:=(kvs.find? fun p=>decide (p.1=k)).map (·.2)
def QuE (kvs:List (Key×D)) (k:Key) (d:D):List (Key×D) :=
 if (kvs.any fun p=>decide (p.1=k))=true then kvs.map (fun p=>if p.1=k then (p.1,d) else p) else kvs ++ [(k,d)]
def DkR (K:Frag) (F:Hp) (as:List Addr) (xs:List (Key×V)) (kvs:List (Key×D)):Prop:=xs.map (·.1)=kvs.map (·.1)∧Rps K F as (xs.map (·.2)) (kvs.map (·.2))
section
variable {K:Frag}{mg:Str→Option Value}{O:Qac}{H F H' F':Hp}{as as':List Addr}
theorem DkR.len {xs:List (Key×V)}{kvs:List (Key×D)} (h:DkR K F as xs kvs):xs.length=kvs.length:=by
 have:=congrArg List.length h.1
 simpa using this
theorem DkR.un {xs:List (Key×V)}{p:Key×D}{kvs:List (Key×D)} (h:DkR K F as xs (p::kvs)):∃v r,xs=(p.1,v)::r∧Rp K F as v p.2∧DkR K F as r kvs:=by
 obtain ⟨h1,h2⟩:=h
 cases xs with
 | nil=>cases h1
 | cons x r =>
  obtain ⟨v,r',e,q1,q2⟩:=h2.un;cases e;rw [ze,ze] at h1;have q3:=(List.cons.inj h1).1;refine ⟨x.2,r,?_,q1,(List.cons.inj h1).2,q2⟩;rw [←q3]
theorem DkR.val {k:Key}:∀{kvs:List (Key×D)}{xs:List (Key×V)},DkR K F as xs kvs→(QjF kvs k=none∧QbY xs k=none)∨∃d v,QjF kvs k=some d∧QbY xs k=some v∧Rp K F as v d
 | [],xs,h=>by
  have:=h.len
  cases xs with
  | nil=>exact .inl ⟨rfl,rfl⟩
  | cons=>cases this
 | p::kvs,xs,h=>by
  obtain ⟨v,r,rfl,h1,h2⟩:=h.un
  by_cases e:p.1=k
  ·exact .inr ⟨p.2,v,by simp [QjF,List.find?_cons,e],Qfi e,h1⟩
  ·rw [show QjF (p::kvs) k=QjF kvs k by simp [QjF,List.find?_cons,e],Qft (p:=(p.1,v)) e];exact DkR.val h2
theorem DkR.any {k:Key}:∀{kvs:List (Key×D)}{xs:List (Key×V)},DkR K F as xs kvs→(xs.any fun p=>decide (p.1=k))=kvs.any fun p=>decide (p.1=k)
 | [],xs,h=>by
  have:=h.len
  cases xs with
  | nil=>rfl
  | cons=>cases this
 | p::kvs,xs,h=>by
  obtain ⟨v,r,rfl,h1,h2⟩:=h.un;rw [List.any_cons,List.any_cons,DkR.any h2]
theorem DkR.repl {k:Key}{v:V}{d:D} (hv:Rp K F as v d):∀{kvs:List (Key×D)}{xs:List (Key×V)},DkR K F as xs kvs →
  DkR K F as (xs.map fun p=>if p.1=k then (p.1,v) else p) (kvs.map fun p=>if p.1=k then (p.1,d) else p)
 | [],xs,h=>by
  have:=h.len
  cases xs with
  | nil=>exact ⟨rfl,Rps.nil⟩
  | cons=>cases this
 | p::kvs,xs,h=>by
  obtain ⟨u,r,rfl,h1,h2⟩:=h.un;obtain ⟨i1,i2⟩:=DkR.repl (k:=k) hv h2
  by_cases e:p.1=k
  ·rw [ze,ze,if_pos e,if_pos e];exact ⟨by rw [ze,ze,i1],Rps.cons hv i2⟩
  ·rw [ze,ze,if_neg e,if_neg e];exact ⟨by rw [ze,ze,i1],Rps.cons h1 i2⟩
theorem DkR.put {xs:List (Key×V)}{kvs:List (Key×D)} (h:DkR K F as xs kvs) (k:Key) {v:V}{d:D} (hv:Rp K F as v d):DkR K F as (putK xs k v) (QuE kvs k d):=by
 unfold putK QuE;rw [h.any]
 split
 ·exact h.repl hv
 ·exact ⟨by rw [zN,zN,h.1]; rfl,by rw [zN,zN]; exact Rps.snoc h.2 hv⟩
theorem RlO.dk {n:Nat}{a:Addr}{kvs:List (Key×D)} (r:RlO K mg O H F as) (hn:as[n]? = some a) (hO:O[n]? = some (.dk kvs)):∃xs,H a=some (.dK xs)∧DkR K F as xs kvs:=let ⟨xs,h1,h2,h3⟩:=r.ob n a _ hn hO; ⟨xs,h1,h2,h3⟩
end
section
variable {X:Cx}{md:List Md}{P:Pt}{R:RR}
end
section
variable {X:Cx}{md:List Md}{P:Pt}{R:RR}
end
section
variable {X:Cx}{md:List Md}{P:Pt}{R:RR}
theorem Qef.int {K:Frag}{H F:Hp}{as:List Addr}{m:Md}{v:V}{a:Int} (h:Qef P K H F as m v (.int a)):v = .int a:=by
 cases m with
 | v=>exact (show Rp K F as v (.int a) from h).unI
 | s =>
  rcases h with h | ⟨_,_,_,_,h,_⟩
  ·exact h.unI
  ·cases h
 | o =>
  rcases h with ⟨_,h⟩ | ⟨_,_,_,_,h,_⟩
  ·exact h.unI
  ·cases h
end
end L2
namespace L2
open PySem PySem.Spec PyProof.Rows PySem.W PySem.Calls
def QeZ (ss:List Str) (x:Str):List Str:=if x∈ss then ss else ss ++ [x]
def QhF (es:Array (Int×Value)):List Str:=es.toList.map fun e=>strOf e.2
def QmZ (prog:Program) (w:World) (h:Heap) (a:Addr) (ss:List Str) (o:Obj) (es:Array (Int×Value)) (ep:Nat) (t:SetTable):Prop :=
 h.get? a=some o∧o.ExactSet∧o.data = .set es ep t∧ElemsOf (PySem.strKind prog w) es.toList∧(QhF es).Perm ss∧es.size < scanBound∧t.fits es.size=true∧(es.size=0∨t.plain=false)∧t.led = !w.params.followText "set-order"
def Qdg (prog:Program) (w:World) (h:Heap) (a:Addr) (ss:List Str):Prop:=∃o es ep t,QmZ prog w h a ss o es ep t
section
variable {prog:Program}{w:World}{A:Around}{E:Value→Shared→Prop}{s:Shared}{a:Addr}{ss:List Str}
theorem Qdg.at {h h':Heap} (x:Qdg prog w h a ss) (k:∀o,h.get? a=some o→h'.get? a=some o):Qdg prog w h' a ss :=
 let ⟨o,es,ep,t,h1,r⟩:=x; ⟨o,es,ep,t,k o h1,r⟩
theorem Qdg.len {h:Heap} (x:Qdg prog w h a ss):ss.length < scanBound:=by
 obtain ⟨o,es,ep,t,h1,h2,h3,h4,h5,h6,_⟩:=x;rw [←h5.length_eq];unfold QhF;rw [zA];exact h6
theorem QlO (t:SetTable) (es:Array (Int×Value)) (n:Nat) (h:t.plain=false):(relayAll t es n).2.1.plain=false:=by
 unfold relayAll
 split
 ·rename_i t' order e;dsimp only
  split
  ·unfold SetTable.relaid SetTable.laid at e
   cases q:SetTable.layClean (SetTable.sizeAbove n - 1) (Array.map (fun x=>x.fst) es) with
   | none=>rw [q] at e; cases e
   | some ow =>
    rw [q] at e;cases e;exact h
  ·rfl
 ·rfl
theorem Qo4 (t:SetTable) (es:Array (Int×Value)) (n:Nat):(relayAll t es n).2.1.led=t.led:=by
 unfold relayAll
 split
 ·rename_i t' order e;dsimp only
  split
  ·unfold SetTable.relaid SetTable.laid at e
   cases q:SetTable.layClean (SetTable.sizeAbove n - 1) (Array.map (fun x=>x.fst) es) with
   | none=>rw [q] at e; cases e
   | some ow =>
    rw [q] at e;cases e;rfl
  ·rfl
 ·rfl
theorem Qou (t:SetTable) (n:Nat):(t.orStandIn n).led=t.led:=by
 unfold SetTable.orStandIn
 split <;> rfl
theorem QrC (t:SetTable) (es:Array (Int×Value)) (h:Int) (x:Value):(layNew t es h x).2.1.led=t.led:=by
 unfold layNew
 split
 ·exact Qou _ _
 ·rfl
theorem QiX {h:Heap}{o:Obj}{es:Array (Int×Value)}{ep:Nat}{t:SetTable} (ho:h.get? a=some o) (hex:o.ExactSet) (hd:o.data = .set es ep t)
  {es':Array (Int×Value)}{t':SetTable} (hel:ElemsOf (PySem.strKind prog w) es'.toList) (hp:(QhF es').Perm ss) (hb:es'.size < scanBound) (hf:t'.fits es'.size=true) (hpl:t'.plain=false) (hled:t'.led = !w.params.followText "set-order") :
  (h.update a (Obj.putSet es' t')).get? a=some { o with data:=.set es' (ep+1) t' }∧Qdg prog w (h.update a (Obj.putSet es' t')) a ss:=by
 have hg:(h.update a (Obj.putSet es' t')).get? a=some { o with data:=.set es' (ep+1) t' }:=by
  have:=Heap.get?_update_self (Obj.putSet es' t') ho (by rw [putSet_of es' t' hd]; rfl)
  rw [putSet_of es' t' hd] at this; exact this
 exact ⟨hg,_,es',ep+1,t',hg,hex,rfl,hel,hp,hb,hf,.inr hpl,hled⟩
theorem Qj6 {g:Bool→Sem Unit} (hg:∀(b:Bool) (s₁:Shared) (Q':Unit→Shared→Prop),Q' () s₁→wpAny (model prog w) A (g b) Q' E s₁)
  {o:Obj}{es:Array (Int×Value)}{ep:Nat}{t:SetTable} (ho:s.heap.get? a=some o) (hex:o.ExactSet) (hd:o.data = .set es ep t)
  {es1:Array (Int×Value)}{t2:SetTable} (hel1:ElemsOf (PySem.strKind prog w) es1.toList) (hp1:(QhF es1).Perm ss) (hb1:es1.size < scanBound) (hf2:t2.fits es1.size=true) (hpl:t2.plain=false) (hled:t2.led = !w.params.followText "set-order") {wasDummy:Bool}{R:Option Bool→Shared→Prop}
  (h:∀h',Heap.SameBut a s.heap h'→Qdg prog w h' a ss→R (some true) { s with heap:=h' }) :
  wpAny (model prog w) A (do
    storeSet a es1 t2
    if (!wasDummy&&t2.tooFull)=true then do
      g (relayAll t2 es1 (SetTable.grown es1.size)).2.2
      storeSet a (relayAll t2 es1 (SetTable.grown es1.size)).1 (relayAll t2 es1 (SetTable.grown es1.size)).2.1
      pure (some true)
     else pure (some true)) R E s:=by
 refine za (wpAny_storeSet_of ho hd ?_ (fits_of_scanBound hb1));obtain ⟨ho1,hS1⟩:=QiX (prog:=prog) (w:=w) ho hex hd hel1 hp1 hb1 hf2 hpl hled;have hsb1:=Heap.SameBut.update s.heap a (Obj.putSet es1 t2)
 split
 ·have hp:=relayAll_perm t2 es1 (SetTable.grown es1.size);have hfr:=relayAll_fits t2 es1 (SetTable.grown es1.size);have hpr:=QlO t2 es1 (SetTable.grown es1.size) hpl;have hlr:=Qo4 t2 es1 (SetTable.grown es1.size)
  generalize hRl:relayAll t2 es1 (SetTable.grown es1.size)=Rl at hp hfr hpr hlr ⊢
  obtain ⟨es2,t3,gave2⟩:=Rl;dsimp only at hp hfr hpr hlr ⊢;have hel2:ElemsOf (PySem.strKind prog w) es2.toList:=hel1.perm hp
  have hsz:es2.size=es1.size:=by rw [←Array.length_toList,hp.length_eq,Array.length_toList]
  have hb2:es2.size < scanBound:=by rw [hsz]; exact hb1
  refine za (hg _ _ _ ?_);refine za (wpAny_storeSet_of ho1 rfl ?_ (fits_of_scanBound hb2));obtain ⟨_,hS2⟩:=QiX (prog:=prog) (w:=w) ho1 hex rfl hel2 ((hp.map _).trans hp1) hb2 hfr hpr (hlr.trans hled);exact zb (h _ (hsb1.trans (Heap.SameBut.update _ a _)) hS2)
 ·exact zb (h _ hsb1 hS1)
theorem Qpv {x:Str}{tk:Tok}{Q:Bool→Shared→Prop} (hS:Qdg prog w s.heap a ss) (hroom:ss.length+1 < scanBound)
  (h:∀h' b,Heap.SameBut a s.heap h'→Qdg prog w h' a (QeZ ss x)→Q b { s with heap:=h' }) :
  wpAny (model prog w) A (setAddHashed a (.str x tk) ((PySem.strKind prog w).hash x)) Q E s:=by
 obtain ⟨o,es,ep,t,ho,hex,hd,hel,hp,hb,hf,hpl,hled⟩:=hS
 have hkey:(PySem.strKind prog w).is x (.str x tk)=true:=by
  show Value.isStrOf x (.str x tk)=true;simp [Value.isStrOf]
 have hlen:es.size=ss.length:=by rw [←hp.length_eq]; unfold QhF; rw [zA,Array.length_toList]
 have hb1:es.size+1 < scanBound:=by rw [hlen]; exact hroom
 have hsc:(Value.str x tk).scannable=true:=rfl
 have key:∀e∈es.toList,∀y,(PySem.strKind prog w).is y e.2=true↔strOf e.2=y:=fun e he y=>by
  obtain ⟨⟨k,hk,_⟩,_⟩:=hel e he;obtain ⟨t',ht⟩:=Value.isStrOf_shape hk;rw [ht];show Value.isStrOf y (.str k t')=true↔k=y;simp [Value.isStrOf]
 unfold setAddHashed setAddHashedIn;refine zH (za (wpAny_setState_of ho hd hf ?_));dsimp only;rw [byScan_of hsc hb hel];simp only [↓reduceIte];unfold setAddByScan;refine za ?_;refine za (zU ?_);refine za (wpAny_setScan_of hkey ho hd hf hel ?_)
 cases hr:List.findIdx? (fun e=>(PySem.strKind prog w).is x e.2) es.toList with
 | some j =>
  dsimp only;obtain ⟨hj,hpj,_⟩:=List.findIdx?_eq_some_iff_getElem.mp hr;have hx:x∈ss:=hp.mem_iff.mp (zX.mpr ⟨es.toList[j],List.getElem_mem hj,(key _ (List.getElem_mem hj) x).mp hpj⟩);refine zb (zb ?_)
  have e:s = { s with heap:=s.heap }:=by cases s; rfl
  rw [e];exact h s.heap _ (Heap.SameBut.refl a s.heap) ⟨o,es,ep,t,ho,hex,hd,hel,by rw [QeZ,if_pos hx]; exact hp,hb,hf,hpl,hled⟩
 | none =>
  dsimp only
  have hx:x∉ss:=fun hx=>by
   obtain ⟨e,he,q⟩:=zX.mp (hp.mem_iff.mpr hx)
   have:=List.findIdx?_eq_none_iff.mp hr e he
   rw [(key e he x).mpr q] at this;exact Bool.noConfusion this
  have hgw:∀(b:Bool) {s₁:Shared}{Q':Unit→Shared→Prop},Q' () s₁→wpAny (model prog w) A (match b with | true=>rule "set.scan.the-table-gave-way" | false=>pure ()) Q' E s₁ :=
   fun b s₁ Q' hq=>by cases b <;> first | exact zb hq | exact zU hq
  have hperm:=layNew_perm t es ((PySem.strKind prog w).hash x) (.str x tk);have hfits:=layNew_fits t es ((PySem.strKind prog w).hash x) (.str x tk);have hll:=QrC t es ((PySem.strKind prog w).hash x) (.str x tk)
  generalize hL:layNew t es ((PySem.strKind prog w).hash x) (.str x tk)=L at hperm hfits hll ⊢
  obtain ⟨es1,t1,wasDummy,gave⟩:=L;dsimp only at hperm hfits hll ⊢;rw [Array.toList_push] at hperm;have hel1:ElemsOf (PySem.strKind prog w) es1.toList:=(hel.push hkey hsc).perm hperm
  have hp1:(QhF es1).Perm (QeZ ss x):=by
   rw [QeZ,if_neg hx];refine (hperm.map fun e=>strOf e.2).trans ?_;rw [zN];exact hp.append_right _
  have hb1':es1.size < scanBound:=by rw [←Array.length_toList,hperm.length_eq,zr,Array.length_toList]; simpa using hb1
  refine za (hgw _ ?_)
  split
  ·refine za ?_;refine za (m:=hashByValue 8 (.str x tk)) (zb ?_);refine zb ?_;simp only [Bool.false_eq_true,↓reduceIte];refine Qj6 (t2:={ t1 with plain:=false }) ?_ ho hex hd hel1 hp1 hb1' (SetTable.fits_plain_off hfits) rfl (hll.trans hled) ?_
   ·intro b s₁ Q' hq; cases b <;> first | exact zb hq | exact zU hq
   ·intro h' hsb hS'; dsimp only; exact zb (h h' _ hsb hS')
  ·rename_i hnp;refine za (zb ?_);simp only [↓reduceIte];refine Qj6 ?_ ho hex hd hel1 hp1 hb1' hfits (by simpa using hnp) (hll.trans hled) ?_
   ·intro b s₁ Q' hq; cases b <;> first | exact zb hq | exact zU hq
   ·intro h' hsb hS'; dsimp only; exact zb (h h' _ hsb hS')
theorem isS (x:Str) (t:Tok):(PySem.strKind prog w).is x (.str x t)=true:=by
 show Value.isStrOf x (.str x t)=true;simp [Value.isStrOf]
theorem map_getD (ns:List Str):(List.range' 0 ns.length).map (fun i=>ns.getD i ⟨#[]⟩)=ns:=by
 apply List.ext_getElem
 ·simp
 ·intro i h1 h2;simp [je,h2]
theorem Qob {R:Result→Shared→Prop}{I:Addr}{fp wr:List Addr}{G:Array GenState→Array GenState→Prop}{n:Nat}{P:Nat→Value→Prop}{St:Nat→Shared→Prop} (W:WalksS prog w A.in1 I fp wr G n P St) (S:Addr) (hSf:S∉fp)
  (val:Nat→Str) (hval:∀i v,P i v→∃t,v = .str (val i) t) (hb:n+1 < scanBound) :
  ∀(k i:Nat) (s:Shared) (ss:List Str),n - i=k→i≤n→St i s→ss.length≤i→Qdg prog w s.heap S ss →
   (∀s',Moved (S::wr) G s s'→Qdg prog w s'.heap S (((List.range' i (n - i)).map val).foldl QeZ ss)→R (.ok (.ret .none)) s') →
   codeAny (model prog w) A (.builtin "set.update.loop" ⟨[.ref S,.ref I],[]⟩) R s:=by
 have hSw:S∉wr:=fun h=>hSf (W.sub _ h)
 have hsub:∀b∈wr,b∈S::wr:=fun b hb=>zw _ hb
 intro k
 induction k with
 | zero =>
  intro i s ss hk hi hst hle hS hR
  have hin:i=n:=by omega
  subst hin;refine jg PyProof.Rows.F.entry_set_update_loop ?_;rw [Around.under_plainId PyProof.Rows.F.plain_set_update_loop _];show wpAny _ A.in1 (pyNext (.ref I) >>= _) _ _ s;refine za (W.done s _ _ hst fun s' hm=>?_);show wpAny _ A.in1 (ret Value.none) _ _ s';refine zb (hR s' (hm.mono hsub) ?_);rw [Nat.sub_self]
  exact hS.at fun o e=>hm.heap S _ hSw e
 | succ k ih =>
  intro i s ss hk hi hst hle hS hR
  have hlt:i < n:=by omega
  refine jg PyProof.Rows.F.entry_set_update_loop ?_;rw [Around.under_plainId PyProof.Rows.F.plain_set_update_loop _];show wpAny _ A.in1 (pyNext (.ref I) >>= _) _ _ s;refine za (W.item i s _ _ hlt hst fun v s' hP hst' hm=>?_);obtain ⟨t,rfl⟩:=hval i v hP
  have hS':Qdg prog w s'.heap S ss:=hS.at fun o e=>hm.heap S _ hSw e
  show wpAny _ A.in1 (holding [Value.str (val i) t] (setAdd S (.str (val i) t)) >>= _) _ _ s';refine za (zH ?_);unfold setAdd;refine zH ?_;refine za ((PySem.strKind prog w).pyHash (k:=val i) (isS _ _) ?_)
  refine Qpv (s:={ s' with toks:=s'.toks+1 }) hS' (by omega) fun h' b hsb hS2=>?_
  refine zb ⟨plainId_quiet PyProof.Rows.F.plain_set_update_loop _,ih (i+1) _ (QeZ ss (val i)) (by omega) hlt (W.frame _ s' _ _ hst' (Nat.le_succ _) fun b hb o e=>?_) ?_ hS2 fun s'' hm'' hS''=>?_⟩
  ·rw [hsb.2 b (fun h:b=S=>hSf (by rw [←h]; exact hb))]; exact e
  ·unfold QeZ
   split
   ·omega
   ·rw [zr,zS]; omega
  ·refine hR s'' (Moved.trans W.gtrans ((hm.mono hsub).then_heap (Nat.le_succ _) fun b o hb e=>?_) hm'') ?_
   ·rw [hsb.2 b (fun h:b=S=>hb (by rw [h]; exact zx))]; exact e
   ·rw [show n - i=(n - (i+1))+1 by omega,List.range'_succ,ze,List.foldl_cons];exact hS''
theorem Qpx (x:Value) {Q₁:Value→Shared→Prop}
  (h:Q₁ (.ref s.heap.objs.size) { s with heap:=s.heap.push { cls:=.type "set",dict:=none,data:=.set #[] 0 (.fresh 0 0 (!w.params.followText "set-order")) } }) :
  codeAny (model prog w) A (.call (.builtin "set.__new__") ⟨[.type "set",x],[]⟩) (wants Q₁ E) s:=by
 refine codeAny_of_tree ?_;show wpAny _ A.in1 (do checkBuiltinCall "set.__new__" ⟨[.type "set",x],[]⟩; again (.builtin "set.__new__" ⟨[.type "set",x],[]⟩)) _ _ s;refine za (zT (PySem.F.newCall_set_1 x) (zb ⟨plainId_quiet PySem.F.plain_set_new _,jg PySem.F.entry_set_new ?_⟩));rw [Around.under_plainId PySem.F.plain_set_new _];unfold Builtin.«set.__new__» Builtin.Frozenset.newClass;have hsub:=sub_set_self;obtain ⟨hp,g,d,tk,os⟩:=s;dsimp only
 wp_walk
 refine wpAny_askSetting (zb ?_);dsimp only;simp only [newObj];refine za (wpAny_alloc (zb ?_));exact zb h
theorem Qoq {h:Heap}:Qdg prog w (h.push { cls:=.type "set",dict:=none,data:=.set #[] 0 (.fresh 0 0 (!w.params.followText "set-order")) }) h.objs.size [] :=
 ⟨_,#[],0,_,zF _ rfl,⟨rfl,rfl,rfl⟩,rfl,fun e he=>by simp at he,.nil,by decide,by rfl,.inl rfl,rfl⟩
set_option maxHeartbeats 8000000 in
theorem Qrq {l:Addr}{items:Array Value}{ns:List Str}{Q:Value→Shared→Prop}
  (hh:A.handled=none) (hl:s.heap.IsList l items) (hi:StrsAre items.toList ns) (hb:items.size+1 < scanBound)
  (h:∀(h':Heap) (tk:Nat),Qdg prog w h' s.heap.objs.size (ns.foldl QeZ []) →
   (∀b o,s.heap.get? b=some o→h'.get? b=some o)→Q (.ref s.heap.objs.size) { s with heap:=h',toks:=tk }) :
  wpAny (model prog w) A (call (.type "set") [.ref l]) Q E s:=by
 obtain ⟨c,tl,hmro⟩:=PySem.F.called_set.mro;have hmade:=PySem.F.called_set.made;have hsub:=PySem.F.called_set.sub;refine zM (codeAny_of_tree ?_);show wpAny _ _ (callAny (.type "set") _) _ _ _;refine zb ⟨Code.quiet_builtin _ (by decide +kernel),jg PySem.F.entry_type_call ?_⟩;rw [Around.under_plain (weight_type_call_type "set" [.ref l] []) rfl];have h1:=PySem.F.called_set.notType;have h2:=PySem.F.called_set.canCreate;have hct:=PySem.F.typeCall_set_1 (.ref l)
 repeat (any_goals (first | assumption | wp_step))
 generalize hO:({ cls:=.type "set",dict:=none,data:=.set #[] 0 (.fresh 0 0 (!w.params.followText "set-order")) }:Obj)=O0
 refine codeAny_mono (Qpx (.ref l) (E:=E) (Q₁:=fun obj s₁=>obj = .ref s.heap.objs.size∧s₁ = { s with heap:=s.heap.push O0 }) (by rw [hO]; exact ⟨rfl,rfl⟩)) fun r s₁ hr=>?_
 cases r with
 | error e=>exact hr
 | ok fl =>
  cases fl with
  | ret obj =>
   obtain ⟨rfl,rfl⟩:=hr
   have hfr:Qdg prog w (s.heap.push O0) s.heap.objs.size []:=by rw [←hO]; exact Qoq
   have hS:(s.heap.push O0).get? s.heap.objs.size=some O0:=by rw [←hO]; exact zF _ rfl
   have hcls:O0.cls = .type "set":=by rw [←hO]
   have hdat:O0.data = .set #[] 0 (.fresh 0 0 (!w.params.followText "set-order")):=by rw [←hO]
   have hT:Shared.TypeIs { s with heap:=s.heap.push O0 } (.ref s.heap.objs.size) "set":=⟨_,hS,hcls⟩;have hli:=PySem.F.called_set.init.lookup;have hbi:=PySem.F.called_set.init.bind (.ref s.heap.objs.size)
   repeat (any_goals (first | assumption | wp_step))
   refine codeAny_mono (codeAny_call_builtin (R:=wants (fun r s₂=>r = .none∧∃h' tk,s₂ = { s with heap:=h',toks:=tk } ∧
     Qdg prog w h' s.heap.objs.size (ns.foldl QeZ []) ∧
     (∀b o,s.heap.get? b=some o→h'.get? b=some o)) E) PySem.F.called_set.init.plain PySem.F.entry_set_init (check_set_init_1 hT ?_)) fun r₂ s₂ hr₂=>?_
   ·subst hO;obtain ⟨ol,hol,hcl,nl,hdl⟩:=hl;obtain ⟨ocls,odict,odata,oslots⟩:=ol;simp only at hcl hdl;subst hcl; subst hdl;have hol':(s.heap.push { cls:=.type "set",dict:=none,data:=.set #[] 0 (.fresh 0 0 (!w.params.followText "set-order")) }).get? l=some { cls:=.type "list",dict:=odict,data:=.seq items nl,slots:=oslots }:=zh _ hol;have hsls:=PySem.F.sub_list_set;have hslf:=PySem.F.sub_list_frozenset
    have hne:(Value.type "list" == Value.type "dict")=false:=by decide
    have hl1:(s.heap.push { cls:=.type "set",dict:=none,data:=.set #[] 0 (.fresh 0 0 (!w.params.followText "set-order")) }).IsList l items:=⟨_,hol',rfl,nl,rfl⟩;unfold Builtin.«set.__init__» noKeywords Builtin.Frozenset.updateFrom
    generalize hPI:pyIter=PI
    wp_walk
    subst hPI;refine wpAny_pyIter_list hl1 ?_;refine za (wpAny_runValue ?_);have hlS:l < s.heap.objs.size:=zd hol
    have hh3:A.in1.in1.in1.handled=none:=by simp [hh]
    have hneI:l≠(s.heap.push { cls:=.type "set",dict:=none,data:=.set #[] 0 (.fresh 0 0 (!w.params.followText "set-order")) }).objs.size:=by
     rw [Heap.size_push]; exact zl (Nat.lt_succ_of_lt hlS)
    have hSf:s.heap.objs.size∉[(s.heap.push { cls:=.type "set",dict:=none,data:=.set #[] 0 (.fresh 0 0 (!w.params.followText "set-order")) }).objs.size,l]:=by
     rw [Heap.size_push]; simp only [zk,zz,List.not_mem_nil,or_false,not_or];exact ⟨zl (jd _),Nat.ne_of_gt hlS⟩
    have hnl:ns.length=items.size:=by rw [←hi.strs,zA,Array.length_toList]
    have hval:∀(i:Nat) (v:Value),items[i]? = some v→∃t,v = .str ((fun i=>ns.getD i ⟨#[]⟩) i) t:=fun i v hv=>by
     have hv':items.toList[i]? = some v:=by rw [Array.getElem?_toList]; exact hv
     obtain ⟨x,t,rfl⟩:=hi.all v (zO hv');refine ⟨t,?_⟩
     have hm:(items.toList.map strOf)[i]? = some x:=by rw [zG,hv']; rfl
     rw [hi.strs] at hm;show Value.str x t=Value.str (ns.getD i ⟨#[]⟩) t;rw [je,hm];rfl
    refine Qob ((Walks.list hh3 _ l hneI items).toS) s.heap.objs.size
     hSf (fun i=>ns.getD i ⟨#[]⟩) hval hb (items.size - 0) 0 _ [] (by omega) (Nat.zero_le _)
     ⟨⟨_,zF _ rfl,rfl,rfl⟩,(hl1.push _)⟩ (zc _) (Qoq.at fun o e=>zh _ e) ?hR
    intro s' hm hS';rw [Nat.sub_zero,←hnl] at hS';rw [map_getD] at hS';obtain ⟨h',g',d',tk',os'⟩:=s';have eg:g'=s.gens:=hm.gens;have ed:d'=s.drawn:=hm.drawn;have eo:os'=s.os:=hm.os;subst eg; subst ed; subst eo;show wpAny _ _ _ _ _ _;refine zb ?_;show wpAny _ _ (ret Value.none) _ _ _;refine zb ⟨rfl,h',tk',rfl,hS',fun b o e=>?_⟩;have hb':=zd e;have hb1:b≠s.heap.objs.size:=zl hb'
    have hb2:b≠(s.heap.push { cls:=.type "set",dict:=none,data:=.set #[] 0 (.fresh 0 0 (!w.params.followText "set-order")) }).objs.size:=by
     rw [Heap.size_push]; exact zl (Nat.lt_succ_of_lt hb')
    exact hm.heap b o (by simp only [zk,zz,List.not_mem_nil,or_false,not_or]; exact ⟨hb1,hb2⟩) (zh _ (zh _ e))
   ·cases r₂ with
    | error e=>exact hr₂
    | ok fl₂ =>
     cases fl₂ with
     | ret r =>
      obtain ⟨rfl,h',tk,rfl,hS',hk'⟩:=hr₂
      repeat (any_goals (first | assumption | wp_step))
      exact h _ _ hS' hk'
     | _=>exact hr₂.elim
  | _=>exact hr.elim
end
def ItS (h:Heap) (I a:Addr) (first:Value) (i n ep:Nat):Prop:=∃o,h.get? I=some o∧o.cls = .type "set_iterator"∧o.data = .fields #[first,.int i 0,.ref a,.int n 0,.int ep 0]
section
variable {prog:Program}{w:World}{A:Around}{E:Value→Shared→Prop}{s:Shared}{a:Addr}{ss:List Str}{o:Obj}{es:Array (Int×Value)}{ep:Nat}{t:SetTable}
theorem ItS.typeIs {I:Addr}{first:Value}{i n:Nat} (h:ItS s.heap I a first i n ep):s.TypeIs (.ref I) "set_iterator":=let ⟨o,h1,h2,_⟩:=h; ⟨o,h1,h2⟩
end
section
variable {prog:Program}{w:World}{A:Around}{E:Value→Shared→Prop}{s:Shared}{a:Addr}{ss:List Str}{o:Obj}{es:Array (Int×Value)}{ep:Nat}{t:SetTable}
theorem ItS.at {h h':Heap}{I:Addr}{first:Value}{i n:Nat} (x:ItS h I a first i n ep) (e:∀o,h.get? I=some o→h'.get? I=some o):ItS h' I a first i n ep:=let ⟨o,ho,r⟩:=x; ⟨o,e _ ho,r⟩
theorem QmZ.at {h h':Heap} (x:QmZ prog w h a ss o es ep t) (e:∀o,h.get? a=some o→h'.get? a=some o):QmZ prog w h' a ss o es ep t:=⟨e _ x.1,x.2⟩
end
section
variable {X:Cx}
variable {md:List Md}{P:Pt}
end
structure Qyk (mg:Str→Option Value):Prop extends QtS mg where
 set_:mg "set" = none
section
variable {prog:Program}{w:World}{A:Around}{E:Value→Shared→Prop}{s:Shared}{K:Frag}{H F:Hp}{as:List Addr}
end
section
variable {X:Cx}
end
end L2
namespace L2
open PySem PySem.Spec PyProof.Rows
section
variable {X:Cx}{md:List Md}{P:Pt}{R:RR}
end
section
variable {X:Cx}{md:List Md}{P:Pt}
variable {tg iter elt:Expr}{ifs:List Expr}{scope:Scope}{pos:Pos}{mi:M D}{g:MG}{t:M Bool}{e:M D}
end
end L2
namespace L2
open PySem PySem.Spec PyProof.Rows PySem.W
def CXE (Pr:Program) (w:World):CXT:=fun outer H s E e s'=>∃(ea C:Addr) (H':Hp) (B:Heap) (a0:Value),e = .ref ea∧s'.os=s.os∧AllBare s'.gens∧Un (frs outer) [] H H' s.heap s'.heap∧HOk Pr w H' s'.heap ∧
 Heap.FlyingW B outer ea (.ref C) a0 s'.heap∧(∀b u,H' b=some u→∃o,B.get? b=some o)∧(∀b o,s.heap.get? b=some o→b∉frs outer→∃o',B.get? b=some o')∧E (.ref C) none H'
section
variable {X:Cx}{md:List Md}{P:Pt}{R:RR}
def QmM (K:Frag) (mg:Str→Option Value) (md:List Md) (P:Pt) (R:RR) (W:Xc→Hp→Prop) (D:Ends) (H F:Hp) (as:List Addr):Fl→Prop
 | .ex x O'=>∀H' F' as',GrS P H F as H' F' as'→RlO K mg O' H' F' as'→W x H'
 | f=>QeE K mg md P R D H F as f
theorem QmM.gr {K:Frag}{mg:Str→Option Value}{W:Xc→Hp→Prop}{D:Ends}{H F H' F':Hp}{as as':List Addr}{f:Fl} (g:GrS P H F as H' F' as') (h:QmM K mg md P R W D H F as f):QmM K mg md P R W D H' F' as' f:=by
 cases f with
 | ex x O'=>exact fun H2 F2 as2 g2 r2=>h H2 F2 as2 (g.trans g2) r2
 | nx ρ' O'=>exact fun σ' H2 F2 as2 g2 r2 s2=>h σ' H2 F2 as2 (g.trans g2) r2 s2
 | bk ρ' O'=>exact fun σ' H2 F2 as2 g2 r2 s2=>h σ' H2 F2 as2 (g.trans g2) r2 s2
 | ct ρ' O'=>exact fun σ' H2 F2 as2 g2 r2 s2=>h σ' H2 F2 as2 (g.trans g2) r2 s2
 | rt d O'=>exact fun v H2 F2 as2 g2 r2 s2=>h v H2 F2 as2 (g.trans g2) r2 s2
 | no=>exact h
def msN (m:MS):MS:=fun ρ O=>match m ρ O with
 | .ex _ _=>.no
 | f=>f
def Qem (t:M Bool) (a b:MS):MS:=fun ρ O=>match t ρ O with
 | .ok v O'=>if v=true then a ρ O' else b ρ O'
 | _=>.no
end
def bmV:List Value:=[.type "ValueError",.type "Exception",.type "BaseException",.type "object"]
section
variable {X:Cx}{md:List Md}{P:Pt}{R:RR}
end
theorem Qbi.has {P:Program}{w:World}{H:Hp}{h:Heap}{a:Addr}{o:HO} (x:Qbi P w H h a o):∃u,h.get? a=some u:=by
 cases o with
 | lst xs=>exact let ⟨_,_,_,_,e⟩:=x; ⟨_,e⟩
 | tup xs=>exact let ⟨_,_,_,_,e,_⟩:=x; ⟨_,e⟩
 | dK kvs=>exact let ⟨_,_,_,_,_,_,_,e,_⟩:=x; ⟨_,e⟩
 | dT kvs=>exact let ⟨_,_,_,_,_,_,_,e,_⟩:=x; ⟨_,e⟩
 | set S n=>exact let ⟨_,_,_,_,e,_⟩:=x; ⟨_,e⟩
 | ins C dx fs=>exact let ⟨_,_,_,e,_⟩:=x; ⟨_,e⟩
 | own y=>exact let ⟨_,e⟩:=x; ⟨_,e⟩
 | xd fs=>exact let ⟨_,⟨_,_,_,e,_⟩,_⟩:=x; ⟨_,e⟩
 | rng lo hi=>exact let ⟨_,_,_,e⟩:=x; ⟨_,e⟩
 | frz ob u=>exact ⟨_,x.1⟩
 | tbl ps=>exact ⟨_,x⟩
 | met f y=>exact ⟨_,x⟩
 | ext φ=>exact x.2.1
theorem HOk.only {P:Program}{w:World}{H:Hp}{h h':Heap} (x:HOk P w H h) (k:∀b v u,H b=some v→h.get? b=some u→h'.get? b=some u):HOk P w H h':=fun a o e =>
 (x a o e).stay (fun b u hb q=>by
  rcases hb with rfl | hb
  ·exact k _ _ u e q
  ·exact k b _ u hb q) (fun _ q=>q) fun _ _ q=>q
theorem Un.then {fs:List Addr}{H0 H:Hp}{h0 h1 h2:Heap} (u:Un fs [] H0 H h0 h1) (st:∀b o,h1.get? b=some o→b∉fs→(∃o',h0.get? b=some o')→h2.get? b=some o)
  (fr:∀b o,h1.get? b=some o→b∈fs→∃sl,h2.get? b=some { o with slots:=sl }):Un fs [] H0 H h0 h2 where
 keep:=fun b o q n nf nx=>st b o (u.keep b o q n nf nx) nf ⟨o,q⟩
 slot:=fun b o q n hb nx=>by
  obtain ⟨sl,e⟩:=u.slot b o q n hb nx;obtain ⟨sl2,e2⟩:=fr b _ e hb;exact ⟨sl2,e2⟩
 free:=u.free
 there:=fun b o q nx=>by
  obtain ⟨o',e⟩:=u.there b o q nx
  by_cases hb:b∈fs
  ·obtain ⟨sl,e2⟩:=fr b o' e hb;exact ⟨_,e2⟩
  ·exact ⟨o',st b o' e hb ⟨o,q⟩⟩
 tups:=u.tups
 frzs:=u.frzs
 tbls:=u.tbls
theorem Qo3 {l:List Env}{H H':Hp}{h0 h1 h2 B:Heap} (un:Un (frs l) [] H H' h0 h1) (hB:B.StaysIn h1) (ff:h1.FunFrames B l) (old:∀b o,h0.get? b=some o→b∉frs l→∃o',B.get? b=some o') (hB2:B.StaysIn h2) (up:h1.UpToSlots h2):Un (frs l) [] H H' h0 h2 :=
 Un.then un (fun b o q n z=>by
  obtain ⟨o0,z⟩:=z;obtain ⟨o',e⟩:=old b o0 z n;have e1:=hB b o' e;rw [q] at e1;cases e1
  exact hB2 b _ e) fun b o q z=>by
  obtain ⟨_,o',q',nf⟩:=ff.mem z;rw [q] at q';cases q';exact up b o q nf
theorem QoT {P:Program}{w:World}{H:Hp}{h1 h2 B:Heap} (hok:HOk P w H h1) (trk:∀b u,H b=some u→∃o,B.get? b=some o) (hB:B.StaysIn h1) (hB2:B.StaysIn h2):HOk P w H h2:=hok.only fun b v u e q=>by
 obtain ⟨o,e1⟩:=trk b v e;have e2:=hB b o e1;rw [q] at e2;cases e2;exact hB2 b _ e1
def QtQ (P:Program) (w:World) (K:Frag) (mg:Str→Option Value) (base:Heap) (x:Str) (ps:List Str) (k:Nat) (sp:Sp):Prop :=
 ∃f fd,mg x=some (.ref f)∧keepIn K (.ref f)=true∧Binds K fd ps []∧Qbo P w K mg base (CXE P w) k f fd ps sp∧∃oc od osl,K.lookup f=some ⟨oc,od,.func fd,osl⟩
def Qvf (K:Frag) (mg:Str→Option Value) (R:RR) (H F:Hp) (as:List Addr) (Q:VK) (E:XK):Res D→Prop
 | .ok d O'=>∀v H' F' as',Gr H F as H' F' as'→RlO K mg O' H' F' as'→R (fun a=>H a=none) H' F' as' v d→Q v H'
 | .ex x O'=>∀C H' F' as',mg x.cls=some (.ref C)→Gr H F as H' F' as'→RlO K mg O' H' F' as'→E (.ref C) none H'
 | .no=>False
def QmD (K:Frag) (mg:Str→Option Value) (pm:List Md) (R:RR) (c:List D→Qac→Res D):Sp:=fun vs H Q E =>
 ∃ds O F as,RlO K mg O H F as∧Qby K H F as pm vs ds∧Qvf K mg R H F as Q E (c ds O)
section
variable {Pr:Program}{w:World}{K:Frag}{mg:Str→Option Value}{base:Heap}
theorem QtQ.can {x:Str}{ps:List Str}{k:Nat}{pm:List Md}{R:RR}{c:List D→Qac→Res D} (C:QtQ Pr w K mg base x ps k (QmD K mg pm R c)) (hl:pm.length=ps.length:=by rfl):Can Pr w K mg base x ps k (vSp K mg pm R c):=by
 obtain ⟨f,fd,hm,hk,hb,Fn,lk⟩:=C;refine ⟨f,fd,hm,hk,hb,⟨fun vs H Q E h=>?_,fun A outer s H args us vs Q E hr e0 hbi r h=>?_⟩,lk⟩
 ·obtain ⟨ds,O,F,as,d,O',r,a,_⟩:=h;rw [a.len.1,hl]
 ·obtain ⟨ds,O,F,as,d,O',ro,a,e,q⟩:=h
  have z:QmD K mg pm R c vs H Q fun _ _ _=>False:=⟨ds,O,F,as,ro,a,by rw [e]; exact q⟩
  refine codeAny_mono (Fn.run A outer s H args us vs Q _ hr e0 hbi r z) fun res s' hq=>?_
  cases res with
  | error ev =>
   obtain ⟨_,_,_,_,_,_,_,_,_,_,_,_,_,f0⟩:=hq;exact f0.elim
  | ok fl=>cases fl <;> exact hq
end
section
variable {X:Cx}{pins:List (Addr×Obj)}{σ:St}{H:Hp}{s:Shared}{ea:Addr}{oe:Obj}
theorem Inv.gone {h':Heap}{m':Str→Option Value}{t':Nat} (I:Inv X pins σ H s) (hn:h'.Ns X.env.locals m') (hs:Heap.SameBut X.env.locals s.heap h'):Inv X pins (List.replicate X.N.length none) H { s with heap:=h',toks:=t' }:=by
 have ne:∀b o,X.s₀.heap.get? b=some o→b≠X.env.locals:=fun b o e=>zl (zv (zd e) I.ok.above)
 refine ⟨I.ok,I.os,I.bare,⟨fun b o e n hb hx=>(hs.2 b (ne b o e)).trans (I.base.keep b o e n hb hx),fun b o e n hb hx=>?_,I.base.free,fun b o e hx=>?_,I.base.tups,I.base.frzs,I.base.tbls⟩,⟨m',hn,fun i x v _ e2 _=>?_⟩,fun y c e=>?_,I.free,I.freeC,fun p hp=>?_,I.hok.only fun b v u e q=>(hs.2 b fun z=>?_).trans q,List.length_replicate⟩
 ·obtain ⟨sl,e1⟩:=I.base.slot b o e n hb hx;exact ⟨sl,(hs.2 b (ne b o e)).trans e1⟩
 ·obtain ⟨o',e1⟩:=I.base.there b o e hx;exact ⟨o',(hs.2 b (ne b o e)).trans e1⟩
 ·rw [List.getElem?_replicate] at e2
  split at e2 <;> cases e2
 ·obtain ⟨v,z⟩:=I.cell y c e;exact ⟨v,z.sameBut hs (I.cne y c e)⟩
 ·obtain ⟨e,n,nl,nf,d⟩:=I.pin p hp;exact ⟨(hs.2 p.1 nl).trans e,n,nl,nf,d⟩
 ·rw [z,I.free] at e;cases e
end
end L2
namespace L2
open PySem PySem.Spec PyProof.Rows PySem.W PySem.Calls PySem.Builtin PySem.Builtin.ObjectAttr PySem.Builtin.Getset_descriptor
section
variable {prog:Program}{w:World}{A:Around}{E:Value→Shared→Prop}{K:Frag}{a C:Addr}{o:Obj}{h:Heap}{g:Array GenState}{d:Drawn}{t:Nat}{os:OsState}
theorem Qp9 {R:Result→Shared→Prop}{tp:Value} (X:K.In h) (hx:h.get? a=some o) (hc:o.cls = .ref C) (hm:mroIn K C (.type "object")=some true) (hq:R (.ok (.ret (.ref C))) ⟨h,g,d,t,os⟩) :
  codeAny (model prog w) A (.call (.builtin "getset_descriptor.__get__") ⟨[.builtin "object.__class__",.ref a,tp],[]⟩) R ⟨h,g,d,t,os⟩:=by
 have L0:Looks (model prog w) h (typeOf (.ref a)) (.ref C):=hc ▸ (Looks.ld hx).andThen .now;have L1:=looks_mroIn (M:=model prog w) X hm;refine codeAny_call_builtin KF.slot_gs.plain KF.entry_gs (KF.slot_gs.check _ _ _ _ _ _ _ _ KF.type_class (KF.args_gs _ _ _) ?_); unfold Builtin.«getset_descriptor.__get__» descrGet;rw [dga_obj]; refine za (zb ?_);unfold descrGetter descrCheckInstance descrNameAndClass isInstance; simp only [KF.owner_class]
 repeat lk
 refine ⟨Code.quiet_builtin _ (by decide +kernel),jg KF.entry_class ?_⟩; unfold Builtin.«object.__class__» shownTypeOf
 repeat lk
 exact hq
structure QeP (K:Frag) (C:Addr):Prop where
 ga:findIn K (.ref C) "__getattribute__" = some (some (.builtin "BaseException.__getattribute__"))
 na:findIn K (.ref C) "__getattr__" = some none
 ca:findIn K (.ref C) "__class__" = some (some (.builtin "object.__class__"))
 sp:specialIn K (.builtin "object.__class__") "__get__" = some (some (.builtin "getset_descriptor.__get__"))
 tk:takesIn K (.builtin "object.__class__")=some true
 ob:mroIn K C (.type "object")=some true
 be:mroIn K C (.type "BaseException")=some true
 cl:(clsIn K C).isSome=true
theorem Qpk {tk:Tok}{Q:Fin→Shared→Prop} (F0:QeP K C) (X:K.In h) (hx:h.get? a=some o) (hc:o.cls = .ref C) (hq:Q (.done (.ret (.ref C))) ⟨h,g,d,t,os⟩) :
  wpAny (model prog w) A (Builtin.«object.__getattribute__» ⟨[.ref a,.str "__class__" tk],[]⟩) Q E ⟨h,g,d,t,os⟩:=by
 have L0:Looks (model prog w) h (typeOf (.ref a)) (.ref C):=hc ▸ (Looks.ld hx).andThen .now;have L1:=looks_findIn (M:=model prog w) X F0.ca;have L2:=looks_specialIn (M:=model prog w) X F0.sp;have L3:=looks_takesIn (M:=model prog w) X F0.tk;unfold Builtin.«object.__getattribute__»;refine za (zT (a:=(Value.ref a,[Value.str "__class__" tk])) rfl ?_);dsimp only;refine za (zb ?_);refine za (L0.at ?_);unfold find getOf;refine za (za (L1.at (za (L2.at (za ?_)))));unfold dataDescriptor?;refine za (L3.at ?_);rw [if_pos rfl];refine zb ?_;dsimp only;refine za (zU (zb ?_));dsimp only;unfold bindTo;dsimp only
 refine za (zH (zM (Qp9 X hx hc F0.ob ?_)));exact zb hq
theorem Qj8 {nv:Value}{Q:Unit→Shared→Prop} (F0:QeP K C) (X:K.In h) (hx:h.get? a=some o) (hc:o.cls = .ref C) (hq:Q () ⟨h,g,d,t,os⟩):wpAny (model prog w) A (checkBuiltinCall "BaseException.__getattribute__" ⟨[.ref a,nv],[]⟩) Q E ⟨h,g,d,t,os⟩:=by
 have L4:Looks (model prog w) h (isInstance (.ref a) (.type "BaseException")) true:=(show Looks (model prog w) h (typeOf (.ref a)) (.ref C) from hc ▸ (Looks.ld hx).andThen .now).andThen (looks_mroIn X F0.be)
 have e1:builtinKind "BaseException.__getattribute__" = some .slot:=by decide +kernel
 have e2:splitId "BaseException.__getattribute__" = some ("BaseException","__getattribute__"):=by decide +kernel
 have e3:=PySem.F.args_bexc_ga (.ref a) nv;simp only [checkBuiltinCall,e1,e2];refine za (L4.at ?_);rw [if_neg (by decide)];exact zT (a:=()) e3 hq
theorem Qok {Q:Option Value→Shared→Prop} (F0:QeP K C) (X:K.In h) (hx:h.get? a=some o) (hc:o.cls = .ref C) (hq:Q (some (.ref C)) ⟨h,g,d,t+1,os⟩) :
  wpAny (model prog w) A (getAttr? (.ref a) "__class__") Q E ⟨h,g,d,t,os⟩:=by
 have L0:Looks (model prog w) h (typeOf (.ref a)) (.ref C):=hc ▸ (Looks.ld hx).andThen .now;have L1:=looks_findIn (M:=model prog w) X F0.ga;have L2:=looks_findIn (M:=model prog w) X F0.na;have L4:Looks (model prog w) h (isInstance (.ref a) (.type "BaseException")) true:=L0.andThen (looks_mroIn X F0.be);have bnd:=PySem.F.attrBase_ValueError.ga.bind (.ref a)
 have hne:(onTheHeap (Value.ref C)&&Value.builtin "BaseException.__getattribute__" == Value.builtin "object.__getattribute__")=false:=by rw [show (Value.builtin "BaseException.__getattribute__" == Value.builtin "object.__getattribute__")=false by decide +kernel,Bool.and_false]
 unfold getAttr? getAttrBy? getAttrBy;refine za (wpAny_mkText ?_);refine za (wpAny_attempt (zH ?_));refine za (L0.at ?_);refine za (L1.at ?_);dsimp only;rw [if_neg (by rw [hne]; exact zf)];unfold getAttrByItsOwn;refine za ?_;unfold hookBefore;rw [if_pos (show onTheHeap (Value.ref C)=true from rfl)];refine L2.at ?_;refine za (wpAny_attempt (zH ?_));unfold callGetattribute;rw [if_neg (by decide)];unfold boundAndCalled;refine za (zT bnd ?_);refine zM (codeAny_call_builtin PySem.F.attrBase_ValueError.ga.plain PySem.F.entry_bexc_ga (Qj8 F0 X hx hc (Qpk F0 X hx hc ?_)));show wpAny (model prog w) A (handedOut (.ref C)) _ _ _
 exact handed_on rfl (zb hq)
def HX (a C:Addr) (h:Heap):Prop:=∃o,h.get? a=some o∧o.cls = .ref C
theorem Qlt (F0:QeP K C):KitX K (.ref a) (.ref C) (HX a C) where
 ty:=fun _ _ _ p=>by
  obtain ⟨o,q1,q2⟩:=p;exact q2 ▸ (Looks.ld q1).andThen .now
 it:=fun _ _ X _=>by
  have z:=F0.cl;unfold clsIn at z;split at z
  case h_1 c1 d1 cd1 sl1 lk1=>exact fun A1 Q1 E1 s1 k1 q1=>by unfold isType loadHead; exact za (wpAny_loadPart (k1 _ _ (X _ _ lk1)) (zb q1))
  case h_2=>cases z
 ne:=fun h tp dd its n sl X p=>by
  cases e:(Value.ref C == Value.ref tp) with
  | false=>rfl
  | true =>
   have e':C=tp:=Value.ref.inj (beq_iff_eq.mp e);subst e';have z:=F0.cl;unfold clsIn at z;split at z
   case h_1 =>
    have y:=X _ _ ‹_›;rw [p] at y;cases y
   case h_2=>cases z
 ca:=fun {_ _ _ _ _ s} X p k=>by
  obtain ⟨o,q1,q2⟩:=p;obtain ⟨h,g,d,t,os⟩:=s;exact Qok F0 X q1 q2 k
end
end L2
namespace L2
open PySem PySem.Spec PyProof.Rows PySem.W
section
variable {X:Cx}{ea C:Addr}{oe:Obj}
def QmR:V→Option Value
 | .ref a=>some (.ref a)
 | .ty n=>some (.type n)
 | _=>none
theorem Qlm {v:V}{u c:Value} (h:RelV v u) (e:QmR v=some c):u=c:=by
 cases v <;> cases e <;> exact h
def QhS:List V→Option (List Value)
 | []=>some []
 | v::vs=>(QmR v).bind fun c=>(QhS vs).map (c :: ·)
theorem QjU:∀{vs:List V}{us cs:List Value},QaA vs us→QhS vs=some cs→us=cs
 | [],_,_,.nil,e=>by cases e; rfl
 | v::vs,_,_,.cons r t,e=>by
  obtain ⟨c,e1,e2⟩:=Option.bind_eq_some_iff.mp e;obtain ⟨l,e3,rfl⟩:=Option.map_eq_some_iff.mp e2;rw [Qlm r e1,QjU t e3]
end
section
variable {X:Cx}{md:List Md}{P:Pt}{R:RR}
end
section
variable {X:Cx}{ea C:Addr}{oe:Obj}{i:Nat}{b:Bool}{n:Str}{p p1 pos:Pos}
def Qgn (X:Cx):List Expr→List V→Prop
 | [],vs=>vs = []
 | e::es,vs=>∃v r,vs=v::r∧(∀Y:Cx,Y.env=X.env→Y.mg=X.mg→PE Y e (tC v))∧starEach (e::es) X.env=(false,eval e X.env)::starEach es X.env∧Qgn X es r
end
end L2
namespace L2
open PySem PySem.Spec PyProof.Rows
section
variable {X:Cx}
variable {md:List Md}{P:Pt}
end
end L2
namespace L2
open PySem PySem.Spec PyProof.Rows PySem.W
section
variable {prog:Program}{w:World}{A:Around}{E:Value→Shared→Prop}
end
section
variable {X:Cx}{md:List Md}{P:Pt}{R:RR}
end
def Qd6 (mg:Str→Option Value):List Str→List Addr→Prop
 | [],as=>as = []
 | n::ns,as=>∃a r,as=a::r∧mg n=some (.ref a)∧Qd6 mg ns r
theorem Qi7:∀as:List Addr,QhS (as.map V.ref)=some (as.map Value.ref)
 | []=>rfl
 | a::as=>by
  show QhS (V.ref a::as.map V.ref)=_;unfold QhS;rw [Qi7 as];rfl
theorem Qd6.len {mg:Str→Option Value}:∀{ns:List Str}{as:List Addr},Qd6 mg ns as→as.length=ns.length
 | [],as,h=>by
  have h':as = []:=h;rw [h'];rfl
 | n::ns,as,h=>by
  obtain ⟨a,r,rfl,_,h2⟩:=h;rw [zp,h2.len,zp]
section
variable {X:Cx}{md:List Md}{P:Pt}{R:RR}
theorem QrQ:∀as,Qd6 X.mg [] as→Qgn X [] (as.map V.ref):=fun as h=>by
 have h':as = []:=h;subst h';exact rfl
theorem QcE {n:Str}{ns:List Str}{es:List Expr}{p:Pos} (h:∀as,Qd6 X.mg ns as→Qgn X es (as.map V.ref)) (hg:Gl X n:=by rfl) (hd:(n == ("__debug__":Str))=false:=by decide) (hs:starEach (.Name n p::es) X.env=(false,eval (.Name n p) X.env)::starEach es X.env:=by rfl) :
  ∀as,Qd6 X.mg (n::ns) as→Qgn X (.Name n p::es) (as.map V.ref):=fun as z=>by
 obtain ⟨a,r,rfl,hm,z⟩:=z;exact ⟨.ref a,_,rfl,fun Y e1 e2=>Qjc (show Y.env.kindOf n=_ by rw [e1]; exact hg) (by rw [e2]; exact hm) rfl hd,hs,h r z⟩
end
section
variable {X:Cx}{pins:List (Addr×Obj)}{σ:St}{H:Hp}{s:Shared}{ea:Addr}{oe:Obj}
theorem Inv.goneI {h':Heap}{m:Str→Option Value}{v:Option Value}{t' i:Nat}{n:Str} (I:Inv X pins σ H s) (hN:X.N.Nodup) (hi:X.N[i]? = some n)
  (hl:∀(i:Nat) (x:Str) (v:V),X.N[i]? = some x→σ[i]? = some (some v)→Vis X.env.scope x→∃u,RelV v u∧Look X.env s.heap m x u)
  (hn:h'.Ns X.env.locals (fun x=>if x=n then v else m x)) (hs:Heap.SameBut X.env.locals s.heap h'):Inv X pins (σ.set i none) H { s with heap:=h',toks:=t' }:=by
 have ne:∀b o,X.s₀.heap.get? b=some o→b≠X.env.locals:=fun b o e=>zl (zv (zd e) I.ok.above)
 refine ⟨I.ok,I.os,I.bare,⟨fun b o e n hb hx=>(hs.2 b (ne b o e)).trans (I.base.keep b o e n hb hx),fun b o e n hb hx=>?_,I.base.free,fun b o e hx=>?_,I.base.tups,I.base.frzs,I.base.tbls⟩,⟨_,hn,fun j x v' e1 e2 e3=>?_⟩,fun y c e=>?_,I.free,I.freeC,fun p hp=>?_,I.hok.only fun b v u e q=>(hs.2 b fun z=>?_).trans q,by rw [zQ]; exact I.len⟩
 ·obtain ⟨sl,e1⟩:=I.base.slot b o e n hb hx;exact ⟨sl,(hs.2 b (ne b o e)).trans e1⟩
 ·obtain ⟨o',e1⟩:=I.base.there b o e hx;exact ⟨o',(hs.2 b (ne b o e)).trans e1⟩
 ·have hji:j≠i:=fun z=>by
   subst z;rw [zE (by rw [I.len]; exact (zn.mp hi).1)] at e2;cases e2
  rw [zq (Ne.symm hji)] at e2;obtain ⟨u,r,lk⟩:=hl j x v' e1 e2 e3;refine ⟨u,r,?_⟩
  have hxn:x≠n:=fun z=>by
   subst z;obtain ⟨q1,q2⟩:=zn.mp e1;obtain ⟨q3,q4⟩:=zn.mp hi
   rcases Nat.lt_trichotomy j i with q | q | q
   ·exact List.pairwise_iff_getElem.mp hN j i q1 q3 q (q2.trans q4.symm)
   ·exact hji q
   ·exact List.pairwise_iff_getElem.mp hN i j q3 q1 q (q4.trans q2.symm)
  rcases lk with ⟨k1,k2⟩ | ⟨k1,c,k2,k3⟩
  ·exact .inl ⟨k1,(if_neg hxn).trans k2⟩
  ·exact .inr ⟨k1,c,k2,k3.sameBut hs (I.cne x c k2)⟩
 ·obtain ⟨v,z⟩:=I.cell y c e;exact ⟨v,z.sameBut hs (I.cne y c e)⟩
 ·obtain ⟨e,n,nl,nf,d⟩:=I.pin p hp;exact ⟨(hs.2 p.1 nl).trans e,n,nl,nf,d⟩
 ·rw [z,I.free] at e;cases e
end
section
variable {X:Cx}{md:List Md}{P:Pt}{R:RR}
theorem SlO.drop {K:Frag}{ρ:Qak}{σ:St}{H F:Hp}{as:List Addr}{i:Nat}{x:Option V} (s:SlO K md P ρ σ H F as) (hm:md[i]? = some .v):SlO K md P (ρ.set i none) (σ.set i x) H F as:=by
 have hi:i < ρ.length:=by rw [s.len']; exact (zn.mp hm).1
 have ne:∀(j:Nat) (d:D),(ρ.set i none)[j]? = some (some d)→j≠i∧ρ[j]? = some (some d):=fun j d e=>by
  by_cases hj:j=i
  ·subst hj;rw [zE hi] at e;cases e
  ·rw [zq (Ne.symm hj)] at e;exact ⟨hj,e⟩
 refine ⟨by rw [zQ]; exact s.len,by rw [zQ]; exact s.len',s.pd,fun j m d e1 e2=>?_,fun j k a ds es h1 h2 h3 h4 h5 h6=>?_,fun y hy=>?_⟩
 ·obtain ⟨hj,e2⟩:=ne j d e2;rw [zq (Ne.symm hj)];exact s.sl j m d e1 e2
 ·obtain ⟨hj,h3⟩:=ne j _ h3;obtain ⟨hk,h4⟩:=ne k _ h4;rw [zq (Ne.symm hj)] at h5;rw [zq (Ne.symm hk)] at h6;exact s.inj j k a ds es h1 h2 h3 h4 h5 h6
 ·obtain ⟨p1,p2,p3⟩:=s.pin y hy
  have hne:i≠y.1:=fun z=>by rw [←z,hm] at p1; cases p1
  rw [zq hne,zq hne];exact ⟨p1,p2,p3⟩
end
section
variable {X:Cx}{ea C:Addr}{oe:Obj}{i ja jb:Nat}{b:Bool}{n na nb w1 w2:Str}{p p1 pos:Pos}
end
section
variable {X:Cx}{md:List Md}{P:Pt}{R:RR}
end
def DK (h h':Heap):Prop:=∀b o,h.get? b=some o→∃o',h'.get? b=some o'∧o'.dict=o.dict
theorem DK.refl (h:Heap):DK h h:=fun _ o e=>⟨o,e,rfl⟩
theorem DK.trans {h h' h2:Heap} (x:DK h h') (y:DK h' h2):DK h h2:=fun b o e=>by
 obtain ⟨o1,e1,q1⟩:=x b o e;obtain ⟨o2,e2,q2⟩:=y b o1 e1;exact ⟨o2,e2,q2.trans q1⟩
theorem DK.upd {h:Heap}{a:Addr}{f:Obj→Obj} (hf:∀o,o.isFreed=false→(f o).isFreed=false∧(f o).dict=o.dict):DK h (h.update a f):=fun b o e=>by
 by_cases z:a=b
 ·subst z;have hz:=(Heap.get?_some_iff.mp e).2;exact ⟨f o,Heap.get?_update_self f e (hf o hz).1,(hf o hz).2⟩
 ·exact ⟨o,(Heap.get?_update_other h f z).trans e,rfl⟩
def KD {α:Type}:Sem α→Prop
 | .pure _=>True
 | .raise _=>True
 | .unsupported _=>True
 | .finish _=>True
 | .rule _ k=>KD (k ())
 | .at _ k=>KD (k ())
 | .load _ _ k=>∀o,KD (k o)
 | .update _ _ f k=>(∀o,o.isFreed=false→(f o).isFreed=false∧(f o).dict=o.dict)∧KD (k ())
 | .alloc _ k=>∀a,KD (k a)
 | .loadIfAlive _ k=>∀o,KD (k o)
 | .point _ k=>KD (k ())
 | .fresh k=>∀t,KD (k t)
 | .ask k=>∀x,KD (k x)
 | .handled _ k=>∀v,KD (k v)
 | .stack k=>∀l,KD (k l)
 | .thread k=>∀n,KD (k n)
 | _=>False
theorem QaZ {α β:Type}{t:Sem α}{f:α→Sem β} (h:KD t) (hf:∀a,KD (f a)):KD (t.bind f):=by
 induction t with
 | pure a=>exact hf a
 | raise | unsupported | finish=>trivial
 | rule _ k ih=>exact ih () h
 | «at» _ k ih=>exact ih () h
 | point _ k ih=>exact ih () h
 | load _ _ k ih=>exact fun o=>ih o (h o)
 | update _ _ g k ih=>exact ⟨h.1,ih () h.2⟩
 | alloc _ k ih=>exact fun o=>ih o (h o)
 | loadIfAlive _ k ih=>exact fun o=>ih o (h o)
 | fresh k ih=>exact fun o=>ih o (h o)
 | ask k ih=>exact fun o=>ih o (h o)
 | handled _ k ih=>exact fun o=>ih o (h o)
 | stack k ih=>exact fun o=>ih o (h o)
 | thread k ih=>exact fun o=>ih o (h o)
 | _=>exact False.elim h
theorem QvA {α:Type}{M:Model}{Γ:PySem.Ctx}{t:Sem α} (h:KD t) {h0:Heap}{Q:α→Pos→Shared→Prop}{E:Value→Pos→Shared→Prop}{p:Pos}{s:Shared} (d:DK h0 s.heap) (w:Sem.wp M Γ t Q E p s) :
  Sem.wp M Γ t (fun a p' s'=>Q a p' s'∧DK h0 s'.heap) (fun e p' s'=>E e p' s'∧DK h0 s'.heap) p s:=by
 induction t generalizing p s with
 | pure a=>exact ⟨w,d⟩
 | raise e=>exact ⟨w,d⟩
 | unsupported=>exact w
 | finish=>exact w
 | rule _ k ih=>exact ih () h d w
 | «at» _ k ih=>exact ih () h d w
 | point _ k ih=>exact ih () h d w
 | load _ _ k ih=>obtain ⟨o,e,w⟩:=w; exact ⟨o,e,ih o (h o) d w⟩
 | update _ _ g k ih=>obtain ⟨e,w⟩:=w; exact ⟨e,ih () h.2 (d.trans (DK.upd h.1)) w⟩
 | alloc o k ih=>exact ih _ (h _) (d.trans fun b o' e=>⟨o',zh _ e,rfl⟩) w
 | loadIfAlive _ k ih=>exact ih _ (h _) d w
 | fresh k ih=>exact ih _ (h _) d w
 | ask k ih=>exact ih _ (h _) d w
 | handled _ k ih=>exact ih _ (h _) d w
 | stack k ih=>exact ih _ (h _) d w
 | thread k ih=>exact ih _ (h _) d w
 | _=>exact False.elim h
theorem Qfp {α:Type}{M:Model}{A:Around}{t:Sem α} (h:KD t) {Q:α→Shared→Prop}{E:Value→Shared→Prop}{s:Shared} (w:wpAny M A t Q E s):wpAny M A t (fun a s'=>Q a s'∧DK s.heap s'.heap) (fun e s'=>E e s'∧DK s.heap s'.heap) s:=fun Γ p hΓ=>QvA h (DK.refl _) (w Γ p hΓ)
theorem QjG (a:Addr):KD (load a):=fun _=>trivial
theorem Qij:KD stack:=fun _=>trivial
theorem QgH (v:Value) (i:Nat):KD (field v i):=by
 unfold field fieldsOf
 refine QaZ ?_ fun a=>?_
 ·split
  ·refine QaZ (QjG _) fun o=>?_
   split <;> trivial
  ·trivial
 ·split <;> trivial
theorem QoQ {a:Addr}{f:Obj→Obj} (hf:∀o,o.isFreed=false→(f o).isFreed=false∧(f o).dict=o.dict):KD (update a f):=⟨hf,trivial⟩
theorem Qec (v:Value) (i:Nat) (x:Value):KD (setField v i x):=by
 unfold setField
 split
 ·unfold updateField
  refine QaZ (QjG _) fun o=>?_
  split
  ·split
   ·refine QoQ fun o h=>?_
    unfold Obj.mapFields
    split
    ·exact ⟨rfl,rfl⟩
    ·exact ⟨h,rfl⟩
   ·trivial
  ·trivial
 ·trivial
theorem Qfu (e:Value) (f:Option Addr):KD (setFlight e f):=by
 unfold setFlight
 refine QaZ (QgH _ _) fun tb=>?_
 split
 ·exact Qec _ _ _
 ·trivial
theorem Qk1:KD frameEnvs:=by
 unfold frameEnvs
 exact QaZ Qij fun _=>trivial
theorem QnL (env:Env) (l:List Env):KD (behindIsImport env l):=by
 unfold behindIsImport
 split
 ·trivial
 ·split
  ·trivial
  ·exact QaZ (QgH _ _) fun _=>trivial
theorem QrL (env:Env) (b:Bool) (l:List Env):KD (keptBack env b l):=by
 unfold keptBack
 split
 ·split
  ·trivial
  ·refine QaZ ?_ fun _=>trivial
   unfold underTheClaimsCaller
   exact QaZ Qij fun _=>trivial
 ·trivial
theorem QkO:∀l:List Env,KD (readyFrames l)
 | []=>trivial
 | env::outer=>by
  unfold readyFrames
  split
  ·refine QaZ (QjG _) fun o=>?_
   split
   ·trivial
   ·exact QaZ (QnL _ _) fun b=>QaZ (QrL _ _ _) fun k=>QaZ (QoQ fun o h=>⟨(by revert h; unfold Obj.isFreed; cases o with | mk c d dt sl=>cases dt <;> exact id),rfl⟩) fun _=>QkO outer
  ·trivial
theorem QiH (env:Env):KD (PySem.frameOf env):=by
 unfold PySem.frameOf
 refine QaZ Qk1 fun l=>QaZ ?_ fun o=>?_
 ·unfold frameObject
  split
  ·trivial
  ·exact QaZ (QkO _) fun _=>trivial
 ·split <;> trivial
theorem kd_new (ty:String) (vs:List Value):KD (newFields ty vs):=by
 have k:KD (newObjAsIs (.type ty) (.fields vs.toArray)):=by
  unfold newObjAsIs
  exact QaZ (t:=alloc _) (fun _=>trivial) fun _=>trivial
 unfold newFields newObj;dsimp only
 split
 ·exact QaZ (t:=unsupported _) trivial fun _=>k
 ·exact k
theorem QkJ (a b c d e:Value) (l:List Value):KD (EntryCells.newEntry a b c d e l):=kd_new _ _
theorem Qli (f:Addr) (b:Bool):KD (entryPlaceOf f b):=by
 unfold entryPlaceOf
 refine QaZ Qij fun l=>?_
 split <;> trivial
theorem Qml (e:Value) (env:Env):KD (noteFrame e env):=by
 unfold noteFrame
 split
 ·refine QaZ (QgH _ _) fun h=>?_
  split
  ·refine QaZ (QgH _ _) fun x=>?_
   split
   ·trivial
   ·exact QaZ (Qec _ _ _) fun _=>QaZ (QiH _) fun _=>QaZ (Qli _ _) fun _=>QaZ (QkJ _ _ _ _ _ _) fun _=>Qec _ _ _
  ·exact QaZ (QiH _) fun _=>QaZ (Qli _ _) fun _=>QaZ (QkJ _ _ _ _ _ _) fun _=>Qec _ _ _
 ·trivial
theorem Qi2 (env:Env) (e:Value):KD (leaving env e):=QaZ (Qml _ _) fun _=>Qfu _ _
section
variable {X:Cx}{md:List Md}{P:Pt}{R:RR}
end
section
variable {X:Cx}{md:List Md}{P:Pt}{R:RR}
def Qdo (m:M (List D)) (g:MG) (b:MS):MS:=fun ρ O=>match m ρ O with
 | .ok ds O'=>QaS g b ds ρ O'
 | _=>.no
end
section
variable {Pr:Program}{w:World}{K:Frag}{mg:Str→Option Value}{base:Heap}
def QqK (P:Program) (w:World) (K:Frag) (mg:Str→Option Value) (base:Heap) (c m:Str) (ps:List Str) (k:Nat) (sp:Sp):Prop :=
 ∃C f fd,mg c=some (.ref C)∧Cls K C∧Qic K C m f∧Binds K fd ps []∧Qbo P w K mg base (CXE P w) k f fd ps sp
theorem QqK.can {c x:Str}{ps:List Str}{k:Nat}{pm:List Md}{R:RR}{cf:List D→Qac→Res D} (C:QqK Pr w K mg base c x ps k (QmD K mg pm R cf)) (hl:pm.length=ps.length:=by rfl):QgY Pr w K mg base c x ps k (vSp K mg pm R cf):=by
 obtain ⟨C,f,fd,h1,h2,h3,hb,Fn⟩:=C;refine ⟨C,f,fd,h1,h2,h3,hb,⟨fun vs H Q E h=>?_,fun A outer s H args us vs Q E hr e0 hbi r h=>?_⟩⟩
 ·obtain ⟨ds,O,F,as,d,O',r,a,_⟩:=h;rw [a.len.1,hl]
 ·obtain ⟨ds,O,F,as,d,O',ro,a,e,q⟩:=h
  have z:QmD K mg pm R cf vs H Q fun _ _ _=>False:=⟨ds,O,F,as,ro,a,by rw [e]; exact q⟩
  refine codeAny_mono (Fn.run A outer s H args us vs Q _ hr e0 hbi r z) fun res s' hq=>?_
  cases res with
  | error ev =>
   obtain ⟨_,_,_,_,_,_,_,_,_,_,_,_,_,f0⟩:=hq;exact f0.elim
  | ok fl=>cases fl <;> exact hq
end
section
variable {X:Cx}{md:List Md}{P:Pt}{R:RR}
def Qcs (c:List D→Qac→Res D) (ma:M (List D)):M D:=fun ρ O=>match ma ρ O with
 | .ok ds O1=>c ds O1
 | _=>.no
def Qd1 (m:M D):MS:=fun ρ O=>match m ρ O with
 | .ok _ O'=>.nx ρ O'
 | .ex x O'=>.ex x O'
 | .no=>.no
end
section
variable {X:Cx}{md:List Md}{P:Pt}{R:RR}{k:Nat}{c m:Str}{ps:List Str}{p pos apos:Pos}{o e:Expr}{es:List Expr}{pm:List Md}{cf:List D→Qac→Res D}{mo:M D}{ma:M (List D)}
def Qgl (c m:Str) (cf:List D→Qac→Res D) (mo:M D) (ma:M (List D)):M D:=fun ρ O=>match mo ρ O with
 | .ok (.ob n) O1=>match O1[n]? with
  | some (.ins c' fs)=>if c'=c∧(fs.lookup m).isNone=true then (match ma ρ O1 with
   | .ok ds O2=>cf (.ob n::ds) O2
   | _=>.no) else .no
  | _=>.no
 | _=>.no
end
def CXF (Pr:Program) (w:World):CXT:=fun outer H s E e s'=>∃(ea C:Addr) (H':Hp) (B:Heap) (a0:Value) (dxo:Option Addr),e = .ref ea∧s'.os=s.os∧AllBare s'.gens∧Un (frs outer) [] H H' s.heap s'.heap∧HOk Pr w H' s'.heap ∧
 Heap.FlyingW B outer ea (.ref C) a0 s'.heap∧(∀b u,H' b=some u→∃o,B.get? b=some o)∧(∀b o,s.heap.get? b=some o→b∉frs outer→∃o',B.get? b=some o')∧(∃oe,s'.heap.get? ea=some oe∧oe.dict=dxo)∧E (.ref C) dxo H'
def Raw (X:Cx) (H:Hp) (s:Shared) (ea C:Addr) (dxo:Option Addr):Prop:=∃(oe:Obj) (ws:Array Value) (a0:Value),s.heap.get? ea=some oe∧oe.cls = .ref C∧oe.dict=dxo∧oe.data = .fields ws∧ws[1]? = some .none∧ws[0]? = some a0∧H ea=none∧X.s₀.heap.get? ea=none
section
variable {X:Cx}{md:List Md}{P:Pt}{R:RR}
def exR (X:Cx) (x:Xc) (dxo:Option Addr) (H:Hp):Prop:=∀(pins:List (Addr×Obj)) (σ:St) (s:Shared) (ea C:Addr),X.mg x.cls=some (.ref C)→Inv X pins σ H s→Raw X H s ea C dxo→X.xe (.ref ea) s
def exL (X:Cx) (x:Xc) (dxo:Option Addr) (H:Hp):Prop:=∀(pins:List (Addr×Obj)) (σ:St) (H0:Hp) (s:Shared) (e:Value) (s':Shared),Inv X pins σ H0 s→CXF X.prog X.w X.stack H0 s (fun cv d H'=>∃C,cv = .ref C∧X.mg x.cls=some (.ref C)∧d=dxo∧H'=H) e s'→X.xe e s'
def exV (X:Cx) (x:Xc) (dxo:Option Addr) (H:Hp):Prop:=exR X x dxo H∧exL X x dxo H
abbrev WX:=Xc→Option Addr→Hp→Prop
def QbU (K:Frag) (mg:Str→Option Value) (md:List Md) (P:Pt) (R:RR) (W:WX) (D:Ends) (H F:Hp) (as:List Addr):Fl→Prop
 | .ex x O'=>∀dxo H' F' as',GrS P H F as H' F' as'→RlO K mg O' H' F' as'→XF K F' as' dxo x.fs→W x dxo H'
 | f=>QeE K mg md P R D H F as f
def Qjv (K:Frag) (mg:Str→Option Value) (md:List Md) (P:Pt) (R:RR) (W:WX) (m:MS):TS:=fun D σ H =>
 ∃ρ O F as,RlO K mg O H F as∧SlO K md P ρ σ H F as∧QbU K mg md P R W D H F as (m ρ O)
def VSF (X:Cx) (md:List Md) (P:Pt) (R:RR) (st:Stmt) (m:MS):Prop:=PS X st (Qjv X.K X.mg md P R (exV X) m)
def Qfx (X:Cx) (md:List Md) (P:Pt) (R:RR) (st:List Stmt) (m:MS):Prop:=PSs X st (Qjv X.K X.mg md P R (exV X) m)
theorem QbU.gr {K:Frag}{mg:Str→Option Value}{W:WX}{D:Ends}{H F H' F':Hp}{as as':List Addr}{f:Fl} (g:GrS P H F as H' F' as') (h:QbU K mg md P R W D H F as f):QbU K mg md P R W D H' F' as' f:=by
 cases f with
 | ex x O'=>exact fun d H2 F2 as2 g2 r2=>h d H2 F2 as2 (g.trans g2) r2
 | nx ρ' O'=>exact fun σ' H2 F2 as2 g2 r2 s2=>h σ' H2 F2 as2 (g.trans g2) r2 s2
 | bk ρ' O'=>exact fun σ' H2 F2 as2 g2 r2 s2=>h σ' H2 F2 as2 (g.trans g2) r2 s2
 | ct ρ' O'=>exact fun σ' H2 F2 as2 g2 r2 s2=>h σ' H2 F2 as2 (g.trans g2) r2 s2
 | rt d O'=>exact fun v H2 F2 as2 g2 r2 s2=>h v H2 F2 as2 (g.trans g2) r2 s2
 | no=>exact h
theorem QeV {st:Stmt}{m:MS} (h:VS X md P R st m):VSF X md P R st (msN m):=h.imp fun D σ H q=>by
 obtain ⟨ρ,O,F,as,r,s,k⟩:=q;refine ⟨ρ,O,F,as,r,s,?_⟩;unfold msN at k
 cases e:m ρ O with
 | ex x O'=>rw [e] at k; exact False.elim k
 | nx ρ' O'=>rw [e] at k; exact k
 | bk ρ' O'=>rw [e] at k; exact k
 | ct ρ' O'=>rw [e] at k; exact k
 | rt d O'=>rw [e] at k; exact k
 | no=>rw [e] at k; exact k
theorem Qcq:Qfx X md P R [] Qav:=Qmo.imp fun D σ H q=>by
 obtain ⟨ρ,O,F,as,r,s,k⟩:=q;exact k σ H F as GrS.refl r s
theorem Qa6 {st:Stmt}{rest:List Stmt}{a b:MS} (h1:VSF X md P R st a) (h2:Qfx X md P R rest b):Qfx X md P R (st::rest) (Qai a b):=(QkM h1 h2).imp fun D σ H q=>by
 obtain ⟨ρ,O,F,as,r,s,k⟩:=q;refine ⟨ρ,O,F,as,r,s,?_⟩;unfold Qai at k
 cases e:a ρ O with
 | nx ρ1 O1 =>
  rw [e] at k
  exact fun σ' H' F' as' g r' s'=>⟨ρ1,O1,F',as',r',s',QbU.gr g k⟩
 | ex x O'=>rw [e] at k; exact k
 | bk ρ' O'=>rw [e] at k; exact k
 | ct ρ' O'=>rw [e] at k; exact k
 | rt d O'=>rw [e] at k; exact k
 | no=>rw [e] at k; exact k
theorem Qq0 {c:Expr}{a b:List Stmt}{pos:Pos}{t:M Bool}{ma mb:MS} (hc:TsE X md P c t) (ha:Qfx X md P R a ma) (hb:Qfx X md P R b mb):VSF X md P R (.If c a b pos) (Qem t ma mb):=(QqG hc ha hb).imp fun D σ H q=>by
 obtain ⟨ρ,O,F,as,r,s,k⟩:=q;unfold Qem at k
 cases e:t ρ O with
 | ok v O' =>
  rw [e] at k;refine ⟨ρ,_,F,as,_,_,r,s,e,fun H1 F1 as1 g r1=>?_⟩;dsimp only at k
  cases v with
  | true =>
   rw [if_pos rfl] at k ⊢;exact ⟨ρ,O',F1,as1,r1,s.step g,QbU.gr g.toS k⟩
  | false =>
   rw [if_neg zf] at k ⊢;exact ⟨ρ,O',F1,as1,r1,s.step g,QbU.gr g.toS k⟩
 | ex x O'=>rw [e] at k; exact False.elim k
 | no=>rw [e] at k; exact False.elim k
end
section
variable {Pr:Program}{w:World}{K:Frag}{mg:Str→Option Value}{base:Heap}{N:List Str}{qual:Str}{scope:Scope}{f:Addr}{cd:Value}{A:Around}{outer:List Env}{s0:Shared}{H0:Hp}{E E':XK}{pins:List (Addr×Obj)}{σ:St}{H:Hp}{s s':Shared}
theorem Qrk {ea C:Addr}{dxo:Option Addr} (I:Inv (Qb1 (CXF Pr w) Pr w K mg base N qual scope f cd A outer s0 H0 E) pins σ H s) (hr:Raw (Qb1 (CXF Pr w) Pr w K mg base N qual scope f cd A outer s0 H0 E) H s ea C dxo) (hE:E (.ref C) dxo H) :
  (Qb1 (CXF Pr w) Pr w K mg base N qual scope f cd A outer s0 H0 E).xe (.ref ea) s:=by
 have stk:=I.stack;have sfr:=I.stkFree;have hfr:=I.ok.frames;have hb0:=I.base;obtain ⟨oe,ws,a0,he,hc,hdi,hd,h1,h0,hn,hold⟩:=hr;have hold:s0.heap.get? ea=none:=hold
 have nfr:ea∉frs (envOfC qual scope s0.heap.objs.size f cd::outer):=fun z=>by
  obtain ⟨_,o,ho,nf⟩:=stk.mem z;rw [he] at ho;cases ho;exact nf ws hd
 show wpAny (model Pr w) (A.deeper (envOfC qual scope s0.heap.objs.size f cd)) (leaving (envOfC qual scope s0.heap.objs.size f cd) (.ref ea)) (fun _ s''=>CXF Pr w outer H0 s0 E (.ref ea) s'') _ s
 have kd:=Qfp (Qi2 _ _) (wpAny_leaving_firstW (M:=model Pr w) (A:=A.deeper (envOfC qual scope s0.heap.objs.size f cd)) (E:=fun e' s''=>CXF Pr w outer H0 s0 E e' s'') (base:=hideAll s.heap (ea::frs (envOfC qual scope s0.heap.objs.size f cd::outer)))
  (Q:=fun _ s''=>∃h',s'' = { s with heap:=h' }∧Heap.LeftW (hideAll s.heap (ea::frs (envOfC qual scope s0.heap.objs.size f cd::outer))) (envOfC qual scope s0.heap.objs.size f cd::outer) ea oe.cls a0 s.heap h')
  hfr (funFrames_hide stk fun env he a ha=>zw _ (List.mem_filterMap.mpr ⟨env,he,ha⟩)) rfl he (fun b o q=>of_hideAll _ q) (hideAll_none _ zx) hd h1 h0 fun h' hL=>⟨h',rfl,hL⟩)
 refine zm kd (fun _ s2 z=>?_) fun _ _ z=>z.1
 obtain ⟨⟨h2,rfl,k1,⟨_,_,k2⟩,k3,up⟩,dk⟩:=z
 have keepB:∀b o,s.heap.get? b=some o→b≠ea→b∉frs (envOfC qual scope s0.heap.objs.size f cd::outer)→h2.get? b=some o:=fun b o q n n2=>k1 b o (hideAll_get _ q fun z=>by
  rcases zk.mp z with z | z
  ·exact n z
  ·exact n2 z)
 have notE:∀b o,s0.heap.get? b=some o→b≠ea:=fun b o q z=>by rw [z,hold] at q; cases q
 have Qd7:∀b o,s0.heap.get? b=some o→b∉frs outer→b∉frs (envOfC qual scope s0.heap.objs.size f cd::outer):=fun b o q n z=>by
  rcases zk.mp (show b∈s0.heap.objs.size::frs outer from z) with rfl | z
  ·exact absurd (zd q) (zI _)
  ·exact n z
 have sub:∀b,b∈frs outer→b∈frs (envOfC qual scope s0.heap.objs.size f cd::outer):=fun b z=>zw _ z
 have tr:∀b u,H b=some u→∃o,s.heap.get? b=some o∧b≠ea∧b∉frs (envOfC qual scope s0.heap.objs.size f cd::outer):=fun b u e=>by
  obtain ⟨o,q⟩:=(I.hok b u e).has;exact ⟨o,q,(fun z=>by rw [z,hn] at e; cases e),fun z=>by rw [sfr b z] at e; cases e⟩
 have frm:∀b o,s.heap.get? b=some o→b∈frs outer→∃sl,h2.get? b=some { o with slots:=sl }:=fun b o q z=>by
  obtain ⟨_,o',q',nf⟩:=stk.mem (sub b z);rw [q] at q';cases q';exact up b o q nf
 obtain ⟨oe2,he2,hd2⟩:=dk ea oe he;refine ⟨ea,C,H,_,a0,dxo,rfl,I.os,I.bare,Un.then hb0 (fun b o q n z=>by obtain ⟨o',z⟩:=z; exact keepB b o q (notE b o' z) (Qd7 b o' z n)) frm,I.hok.only fun b v u e q=>(by obtain ⟨_,_,n1,n2⟩:=tr b v e; exact keepB b u q n1 n2),⟨k1,hideAll_none _ zx,k2,hc ▸ k3⟩,fun b u e=>?_,fun b o q n=>?_,⟨oe2,he2,hd2.trans hdi⟩,hE⟩
 ·obtain ⟨o,q,n1,n2⟩:=tr b u e
  exact ⟨o,hideAll_get _ q fun z=>by
   rcases zk.mp z with z | z
   ·exact n1 z
   ·exact n2 z⟩
 ·obtain ⟨o',q'⟩:=hb0.there b o q (fun z=>nomatch z)
  exact ⟨o',hideAll_get _ q' fun z=>by
   rcases zk.mp z with z | z
   ·exact notE b o q z
   ·exact Qd7 b o q n z⟩
theorem QoE {e:Value} (I:Inv (Qb1 (CXF Pr w) Pr w K mg base N qual scope f cd A outer s0 H0 E) pins σ H s) (hx:CXF Pr w (Qb1 (CXF Pr w) Pr w K mg base N qual scope f cd A outer s0 H0 E).stack H s E' e s') (hE:∀C d H',E' (.ref C) d H'→E (.ref C) d H') :
  (Qb1 (CXF Pr w) Pr w K mg base N qual scope f cd A outer s0 H0 E).xe e s':=by
 obtain ⟨ea,C,H',B,a0,dxo,rfl,hos,hbare,un,hok,fl,trk,old,⟨oe,he,hd⟩,hE'⟩:=hx;have hfr:=I.ok.frames;show wpAny (model Pr w) (A.deeper (envOfC qual scope s0.heap.objs.size f cd)) (leaving (envOfC qual scope s0.heap.objs.size f cd) (.ref ea)) (fun _ s''=>CXF Pr w outer H0 s0 E (.ref ea) s'') _ s'
 have kd:=Qfp (Qi2 _ _) (wpAny_leaves_onW (M:=model Pr w) (A:=A.deeper (envOfC qual scope s0.heap.objs.size f cd)) (E:=fun e' s''=>CXF Pr w outer H0 s0 E e' s'')
  (Q:=fun _ s''=>∃h',s'' = { s' with heap:=h' }∧Heap.FlyingW B outer ea (.ref C) a0 h'∧s'.heap.UpToSlots h') hfr rfl fl fun h' fl' up=>⟨h',rfl,fl',up⟩)
 refine zm kd (fun _ s2 z=>?_) fun _ _ z=>z.1
 obtain ⟨⟨h',rfl,fl',up⟩,dk⟩:=z;have I':=I.call' (s':={ s' with heap:=h' }) (ch:=[]) hos (Qo3 un fl.1 fl.2.2.1 old fl'.1 up) (QoT hok trk fl.1 fl'.1) hbare (fun _ z=>nomatch z);obtain ⟨oe2,he2,hd2⟩:=dk ea oe he;refine ⟨ea,C,H',B,a0,dxo,rfl,I'.os,I'.bare,I'.base,I'.hok,fl',trk,fun b o q n=>?_,⟨oe2,he2,hd2.trans hd⟩,hE C dxo H' hE'⟩;obtain ⟨o',q'⟩:=I.base.there b o q (fun z=>nomatch z)
 refine old b o' q' fun z=>?_
 rcases zk.mp (show b∈s0.heap.objs.size::frs outer from z) with rfl | z
 ·exact absurd (zd q) (zI _)
 ·exact n z
end
def QgR (P:Program) (w:World) (K:Frag) (mg:Str→Option Value) (base:Heap) (x:Str) (ps:List Str) (k:Nat) (sp:Sp):Prop :=
 ∃f fd,mg x=some (.ref f)∧keepIn K (.ref f)=true∧Binds K fd ps []∧Qbo P w K mg base (CXF P w) k f fd ps sp∧∃oc od osl,K.lookup f=some ⟨oc,od,.func fd,osl⟩
def Qi3 (P:Program) (w:World) (K:Frag) (mg:Str→Option Value) (base:Heap) (c m:Str) (ps:List Str) (k:Nat) (sp:Sp):Prop :=
 ∃C f fd,mg c=some (.ref C)∧Cls K C∧Qic K C m f∧Binds K fd ps []∧Qbo P w K mg base (CXF P w) k f fd ps sp
def Qwl (K:Frag) (mg:Str→Option Value) (R:RR) (H F:Hp) (as:List Addr) (Q:VK) (E:XK):Res D→Prop
 | .ok d O'=>∀v H' F' as',Gr H F as H' F' as'→RlO K mg O' H' F' as'→R (fun a=>H a=none) H' F' as' v d→Q v H'
 | .ex x O'=>∀C dxo H' F' as',mg x.cls=some (.ref C)→Gr H F as H' F' as'→RlO K mg O' H' F' as'→XF K F' as' dxo x.fs→E (.ref C) dxo H'
 | .no=>False
def QcS (K:Frag) (mg:Str→Option Value) (pm:List Md) (R:RR) (c:List D→Qac→Res D):Sp:=fun vs H Q E =>
 ∃ds O F as,RlO K mg O H F as∧Qby K H F as pm vs ds∧Qwl K mg R H F as Q E (c ds O)
section
variable {Pr:Program}{w:World}{K:Frag}{mg:Str→Option Value}{base:Heap}
theorem QqU {x qual:Str}{st:Stmt}{f:Addr}{fd:FuncData}{N ps:List Str}{k:Nat} (Fn:Fun K x qual st f fd) (S:QaI N ps (Qah st))
  (pm lm:List Md) {R:RR}{b:MS} (hR:Qb8 R) (hR0:∀N H F as,R N H F as .non .non) (hpl:pm.length=ps.length) (hl:(pm++lm).length=N.length) (hp:∀m∈pm,m≠.o)
  (body:∀(cdv:Value) (A:Around) (outer:List Env) (s:Shared) (H:Hp) (E:XK),QaK k (A.deeper (envOfC qual (Qah st) s.heap.objs.size f cdv))→∀P,Qfx (Qb1 (CXF Pr w) Pr w K mg base N qual (Qah st) f cdv A outer s H E) (pm++lm) P R (QaW st) b) :
  Qbo Pr w K mg base (CXF Pr w) (k+1) f fd ps (QcS K mg pm R (Qa9 N.length b)):=by
 obtain ⟨oc,od,kV,doc,pmv,an,cdv,ct,osl,rfl,lk,hcd⟩:=Fn.ex
 refine QmX lk hcd S (fun vs H Q E h=>?_) fun A outer s H vs Q E hr h=>?_
 ·obtain ⟨ds,O,F,as,r,a,_⟩:=h;rw [a.len.1,hpl]
 ·obtain ⟨ds,O,F,as,r,a,q⟩:=h;refine ⟨_,body cdv A outer s H E hr (Pt.all H),?_⟩;refine ⟨_,O,F,as,r,Qeb a hl hp,?_⟩;unfold Qa9 at q
  cases eb:b (ds.map some++List.replicate (N.length - ds.length) none) O with
  | rt d' O2 =>
   rw [eb] at q
   exact fun v H' F' as' g r' hv=>q v H' F' as' g.gr r' (hR _ _ _ _ _ _ _ (fun c hc=>jk.mp hc) hv)
  | nx ρ O2 =>
   rw [eb] at q
   exact fun σ' H' F' as' g r' _=>q _ H' F' as' g.gr r' (hR0 _ _ _ _)
  | ex x' O2 =>
   rw [eb] at q
   exact fun dxo H' F' as' g r' hx=>⟨fun pins σ s1 ea C hC I hr=>Qrk I hr (q C dxo H' F' as' hC g.gr r' hx),fun pins σ H0 s1 e s2 I hz=>QoE I hz fun C d H2 ⟨C',z1,z2,z3,z4⟩=>by
    cases z1;subst z3 z4
    exact q C _ _ F' as' z2 g.gr r' hx⟩
  | bk _ _=>rw [eb] at q; exact False.elim q
  | ct _ _=>rw [eb] at q; exact False.elim q
  | no=>rw [eb] at q; exact False.elim q
theorem Qnr {x:Str}{st:Stmt}{N ps:List Str}{k:Nat} (Df:Def K mg x st) (S:QaI N ps (Qah st))
  (hb:∀(kV doc pm:Value) (an:Option Addr) (cdv ct:Value) (us:List Value),us.length=ps.length→bindArgs (PySem.W.fnOf x x (Qbv st) (QaW st) (Qah st) .none kV doc pm an cdv ct) ⟨us,[]⟩=pure (ps.zip us))
  (pm lm:List Md) {R:RR}{b:MS} (hR:Qb8 R) (hR0:∀N H F as,R N H F as .non .non) (hpl:pm.length=ps.length:=by rfl) (hl:(pm++lm).length=N.length:=by rfl) (hp:∀m∈pm,m≠.o:=by decide)
  (body:∀(f:Addr) (cdv:Value) (A:Around) (outer:List Env) (s:Shared) (H:Hp) (E:XK),QaK k (A.deeper (envOfC x (Qah st) s.heap.objs.size f cdv))→∀P,Qfx (Qb1 (CXF Pr w) Pr w K mg base N x (Qah st) f cdv A outer s H E) (pm++lm) P R (QaW st) b) :
  QgR Pr w K mg base x ps (k+1) (QcS K mg pm R (Qa9 N.length b)):=by
 obtain ⟨f,fd,hm,Fn⟩:=Df;have hbi:=Fn.binds hb;have hkp:=Fn.kp;have ok:=QqU Fn S pm lm hR hR0 hpl hl hp (body f);obtain ⟨oc,od,kV,doc,pmv,an,cdv,ct,osl,rfl,lk,hcd⟩:=Fn.ex;exact ⟨f,_,hm,hkp,hbi,ok,oc,od,osl,lk⟩
theorem Qto {c x qual:Str}{st:Stmt}{N ps:List Str}{k:Nat} (Df:QjA K mg c x qual st) (S:QaI N ps (Qah st))
  (hb:∀(kV doc pm:Value) (an:Option Addr) (cdv ct:Value) (us:List Value),us.length=ps.length→bindArgs (PySem.W.fnOf x qual (Qbv st) (QaW st) (Qah st) .none kV doc pm an cdv ct) ⟨us,[]⟩=pure (ps.zip us))
  (pm lm:List Md) {R:RR}{b:MS} (hR:Qb8 R) (hR0:∀N H F as,R N H F as .non .non) (hpl:pm.length=ps.length:=by rfl) (hl:(pm++lm).length=N.length:=by rfl) (hp:∀m∈pm,m≠.o:=by decide)
  (body:∀(f:Addr) (cdv:Value) (A:Around) (outer:List Env) (s:Shared) (H:Hp) (E:XK),QaK k (A.deeper (envOfC qual (Qah st) s.heap.objs.size f cdv))→∀P,Qfx (Qb1 (CXF Pr w) Pr w K mg base N qual (Qah st) f cdv A outer s H E) (pm++lm) P R (QaW st) b) :
  Qi3 Pr w K mg base c x ps (k+1) (QcS K mg pm R (Qa9 N.length b)):=by
 obtain ⟨C,f,fd,h1,h2,h3,h4⟩:=Df;exact ⟨C,f,fd,h1,h2,h3,h4.binds hb,QqU h4 S pm lm hR hR0 hpl hl hp (body f)⟩
theorem Qmj {f:Addr}{fd:FuncData}{ps:List Str}{k:Nat}{pm:List Md}{R:RR}{c:List D→Qac→Res D} (Fn:Qbo Pr w K mg base (CXF Pr w) k f fd ps (QcS K mg pm R c)) (hl:pm.length=ps.length) {CX:CXT}:Qbo Pr w K mg base CX k f fd ps (vSp K mg pm R c):=by
 refine ⟨fun vs H Q E h=>?_,fun A outer s H args us vs Q E hr e0 hbi r h=>?_⟩
 ·obtain ⟨ds,O,F,as,d,O',r,a,_⟩:=h;rw [a.len.1,hl]
 ·obtain ⟨ds,O,F,as,d,O',ro,a,e,q⟩:=h
  have z:QcS K mg pm R c vs H Q fun _ _ _=>False:=⟨ds,O,F,as,ro,a,by rw [e]; exact q⟩
  refine codeAny_mono (Fn.run A outer s H args us vs Q _ hr e0 hbi r z) fun res s' hq=>?_
  cases res with
  | error ev =>
   obtain ⟨_,_,_,_,_,_,_,_,_,_,_,_,_,_,_,f0⟩:=hq;exact f0.elim
  | ok fl=>cases fl <;> exact hq
theorem QgR.can {x:Str}{ps:List Str}{k:Nat}{pm:List Md}{R:RR}{c:List D→Qac→Res D} (C:QgR Pr w K mg base x ps k (QcS K mg pm R c)) (hl:pm.length=ps.length:=by rfl):Can Pr w K mg base x ps k (vSp K mg pm R c):=by
 obtain ⟨f,fd,hm,hk,hb,Fn,lk⟩:=C;exact ⟨f,fd,hm,hk,hb,Qmj Fn hl,lk⟩
theorem Qi3.can {c x:Str}{ps:List Str}{k:Nat}{pm:List Md}{R:RR}{cf:List D→Qac→Res D} (C:Qi3 Pr w K mg base c x ps k (QcS K mg pm R cf)) (hl:pm.length=ps.length:=by rfl):QgY Pr w K mg base c x ps k (vSp K mg pm R cf):=by
 obtain ⟨C,f,fd,h1,h2,h3,hb,Fn⟩:=C;exact ⟨C,f,fd,h1,h2,h3,hb,Qmj Fn hl⟩
end
section
variable {X:Cx}{md:List Md}{P:Pt}{R:RR}
def exG (X:Cx):XK:=fun cv d H'=>∃x C,cv = .ref C∧X.mg x.cls=some (.ref C)∧exL X x d H'
theorem QlC:Qeo (CXF X.prog X.w) X (exG X):=fun pins σ H s e s' I hx=>by
 obtain ⟨ea,C,H',B,a0,dxo,rfl,x1,x2,x3,x4,x5,x6,x7,x8,x,C',e1,hC,hw⟩:=hx;cases e1;exact hw pins σ H s (.ref ea) s' I ⟨ea,C,H',B,a0,dxo,rfl,x1,x2,x3,x4,x5,x6,x7,x8,C,rfl,hC,rfl,rfl⟩
def Qt3 (K:Frag) (mg:Str→Option Value) (R:RR) (W:WX) (H F:Hp) (as:List Addr) (Q:VK):Res D→Prop
 | .ok d O'=>∀v H' F' as',Gr H F as H' F' as'→RlO K mg O' H' F' as'→R (fun a=>H a=none) H' F' as' v d→Q v H'
 | .ex x O'=>∀dxo H' F' as',Gr H F as H' F' as'→RlO K mg O' H' F' as'→XF K F' as' dxo x.fs→W x dxo H'
 | .no=>False
def tMF (K:Frag) (mg:Str→Option Value) (md:List Md) (P:Pt) (R:RR) (W:WX) (m:M D):TE:=fun σ H Q=>∃ρ O F as,RlO K mg O H F as∧SlO K md P ρ σ H F as∧Qt3 K mg R W H F as Q (m ρ O)
def VEF (X:Cx) (md:List Md) (P:Pt) (R:RR) (e:Expr) (m:M D):Prop:=PE X e (tMF X.K X.mg md P R (exL X) m)
theorem QpQ {pm:List Md}{c:List D→Qac→Res D}{ma:M (List D)} (hR:Qb8 R) {σ:St}{H:Hp}{Q:VK} (q:tMF X.K X.mg md P R (exL X) (Qcs c ma) σ H Q):Qkq (QcS X.K X.mg pm R c) [] (exG X) (tMA X.K X.mg md P pm ma) σ H Q:=by
 obtain ⟨ρ,O,F,as,r,s,k⟩:=q;unfold Qcs at k
 cases em:ma ρ O with
 | ex x O'=>rw [em] at k; exact False.elim k
 | no=>rw [em] at k; exact False.elim k
 | ok ds O1 =>
  rw [em] at k;dsimp only at k;refine ⟨ρ,O,F,as,ds,O1,r,s,em,fun vs H1 F1 as1 g1 r1 h1=>?_⟩;dsimp only;rw [zC];refine ⟨ds,O1,F1,as1,r1,h1,?_⟩
  cases ec:c ds O1 with
  | ok d O2 =>
   rw [ec] at k
   exact fun v H2 F2 as2 g2 r2 h=>k v H2 F2 as2 (g1.trans g2) r2 (hR _ _ _ _ _ _ _ (fun a z=>g1.dm a z) h)
  | ex x O2 =>
   rw [ec] at k
   exact fun C dxo H2 F2 as2 hC g2 r2 hx=>⟨x,C,rfl,hC,k dxo H2 F2 as2 (g1.trans g2) r2 hx⟩
  | no=>rw [ec] at k; exact False.elim k
theorem Qqn {f:Str}{ps:List Str}{k:Nat}{a:Expr}{as:List Expr}{pm:List Md}{c:List D→Qac→Res D}{ma:M (List D)}{p1 p2:Pos} (hR:Qb8 R)
  (Cn:QgR X.prog X.w X.K X.mg X.base f ps k (QcS X.K X.mg pm R c)) (hr:QaK k X.A) (ha:AE X md P pm (a::as) ma) (hg:Gl X f:=by rfl) (hfd:(f == ("__debug__":Str))=false:=by decide)
  (hs:starEach (a::as) X.env=(false,eval a X.env)::starEach as X.env:=by exact Qa3 rfl) (hpl:(backTo p2 (starEach as X.env)).any (·.1)=false:=by exact Qa5 rfl):VEF X md P R (.Call (.Name f p1) (a::as) [] p2) (Qcs c ma):=by
 obtain ⟨fa,fd,hm,hk,hb,Fn,_⟩:=Cn
 exact (Qmf (dvs:=[]) (ds:=[]) Fn hr hg hm hk hb .nil QlC ha hfd hs hpl).imp fun σ H Q q=>QpQ hR q
theorem Qt2 {e:Expr}{m:M D} (h:VEF X md P (rO X.K) e m):VEF X md P (rV X.K) e m:=h.imp fun σ H Q q=>by
 obtain ⟨ρ,O,F,as,r,s,k⟩:=q;refine ⟨ρ,O,F,as,r,s,?_⟩
 cases e:m ρ O with
 | ok d O' =>
  rw [e] at k;intro v H' F' as' g r' hv
  rcases hv with ⟨_,hv⟩ | ⟨a,xs,ds,rfl,rfl,e3,e4,e5,e6,e7⟩
  ·exact k v H' F' as' g r' hv
  ·have ff:Same F' (upd F' a (.lst xs)):=fun b u q=>by rw [Qaj (Qau q e4)]; exact q
   exact k _ H' (upd F' a (.lst xs)) as' (g.frz e6 e4) (r'.frz e3 e4 e5 rfl) (Rp.mkL (.inl (.inl QaC)) (Rps.mono ff (fun _ _ z=>z) _ e7))
 | ex x O'=>rw [e] at k; exact k
 | no=>rw [e] at k; exact k
theorem QrJ {R':RR}{e:Expr}{pos:Pos}{m:M D} (h:VEF X md P R' e m) (hs:swapsWith e none pos.line X.env=pure false:=by rfl):VSF X md P R (.Expr e pos) (Qd1 m):=(Qjh h hs).imp fun D σ H q=>by
 obtain ⟨ρ,O,F,as,r,s,k⟩:=q;refine ⟨ρ,O,F,as,r,s,?_⟩;unfold Qd1 at k
 cases e:m ρ O with
 | ok d O'=>rw [e] at k; exact fun v H' F' as' g r' _=>k σ H' F' as' g.toS r' (s.step g)
 | ex x O'=>rw [e] at k; exact fun d H' F' as' g r' hx=>(k d H' F' as' g.toS r' hx).2
 | no=>rw [e] at k; exact False.elim k
def Qfq (i:Nat) (m:M D):MS:=fun ρ O=>match m ρ O with
 | .ok d O'=>.nx (ρ.set i (some d)) O'
 | .ex x O'=>.ex x O'
 | .no=>.no
theorem Qsn {e:Expr}{x:Str}{i:Nat}{p0 pos:Pos}{m:M D} (h:VEF X md P (rV X.K) e m) (hN:X.N.Nodup) (hi:X.N[i]? = some x:=by rfl) (hx:Loc X.env.scope x:=by exact .inl rfl) (hm:md[i]? = some .v:=by rfl)
  (hsw:swapsWith e (some (.Name x p0)) pos.line X.env=pure false:=by rfl) (hf:X.fn x=true∨X.env.scope.names.lookup x=some .local:=by first | exact .inl rfl | exact .inr rfl):VSF X md P R (.Assign [.Name x p0] e pos) (Qfq i m):=(Qlw hN hi hx h hsw hf).imp fun D σ H q=>by
 obtain ⟨ρ,O,F,as,r,s,k⟩:=q;refine ⟨ρ,O,F,as,r,s,?_⟩;unfold Qfq at k
 cases e:m ρ O with
 | ok d O'=>rw [e] at k; exact fun v H' F' as' g r' hv=>k _ H' F' as' g.toS r' ((s.step g).setV hm hv)
 | ex x O'=>rw [e] at k; exact fun d H' F' as' g r' hx=>(k d H' F' as' g.toS r' hx).2
 | no=>rw [e] at k; exact False.elim k
end
section
variable {X:Cx}{md:List Md}{P:Pt}{R:RR}{k:Nat}{c m:Str}{ps:List Str}{p pos apos:Pos}{o e:Expr}{es:List Expr}{pm:List Md}{cf:List D→Qac→Res D}{mo:M D}{ma:M (List D)}
theorem QpC {C:Addr} (hR:Qb8 R) (hC:X.mg c=some (.ref C)) {σ:St}{H:Hp}{Q:VK} (q:tMF X.K X.mg md P R (exL X) (Qgl c m cf mo ma) σ H Q) :
  Qkz C m (QcS X.K X.mg (.v::pm) R cf) [] (exG X) (tM X.K X.mg md P (rV X.K) mo) (tMA X.K X.mg md P pm ma) σ H Q:=by
 obtain ⟨ρ,O,F,as,r,s,k⟩:=q;unfold Qgl at k
 cases e1:mo ρ O with
 | ex x O'=>rw [e1] at k; exact False.elim k
 | no=>rw [e1] at k; exact False.elim k
 | ok x O1 =>
  rw [e1] at k
  cases x with
  | ob n =>
   dsimp only at k;split at k
   ·rename_i c' fs eo;split at k
    ·rename_i hc
     cases e2:ma ρ O1 with
     | ex x O'=>rw [e2] at k; exact False.elim k
     | no=>rw [e2] at k; exact False.elim k
     | ok ds O2 =>
      rw [e2] at k;dsimp only at k;refine ⟨ρ,O,F,as,.ob n,O1,r,s,e1,fun v H1 F1 as1 g1 r1 hv=>?_⟩;obtain ⟨a,rfl,ha⟩:=Rp.unO hv;obtain ⟨C',dx,gs,h1,h2,h3⟩:=r1.ob n a _ ha eo;rw [hc.1,hC] at h1; cases h1;refine ⟨a,dx,gs,rfl,h2,h3.no (Option.isNone_iff_eq_none.mp hc.2),?_⟩;refine ⟨ρ,O1,F1,as1,ds,O2,r1,s.step g1,e2,fun vs H2 F2 as2 g2 r2 hvs=>?_⟩;dsimp only;rw [zC];refine ⟨.ob n::ds,O2,F2,as2,r2,⟨Rp.gr hv g2,hvs⟩,?_⟩
      cases ec:cf (.ob n::ds) O2 with
      | ok d O3 =>
       rw [ec] at k
       exact fun v H3 F3 as3 g3 r3 h=>k v H3 F3 as3 ((g1.trans g2).trans g3) r3 (hR _ _ _ _ _ _ _ (fun b hb=>(g1.trans g2).dm b hb) h)
      | ex x O3 =>
       rw [ec] at k
       exact fun C dxo H3 F3 as3 hC g3 r3 hx=>⟨x,C,rfl,hC,k dxo H3 F3 as3 ((g1.trans g2).trans g3) r3 hx⟩
      | no=>rw [ec] at k; exact False.elim k
    ·exact False.elim k
   ·exact False.elim k
  | _=>exact False.elim k
theorem Qqb {pl:Sem Bool} (hR:Qb8 R) (M:Qi3 X.prog X.w X.K X.mg X.base c m ps k (QcS X.K X.mg (.v::pm) R cf)) (hr:QaK k X.A) (ho:VE X md P o mo) (ha:AE X md P pm (e::es) ma)
  (hst:starEach (e::es) X.env=(false,eval e X.env)::starEach es X.env:=by exact Qa3 rfl) (hpl:(backTo pos (starEach es X.env)).any (·.1)=false:=by exact Qa5 rfl)
  (ht:eval (.Call (.Attribute o m apos) (e::es) [] pos) X.env=(do
   let ov ←eval o X.env
   standAt apos.atName
   let (f,first) ←holding [ov] (getMethod ov m pl)
   callWith pos f first (backTo pos (starEach (e::es) X.env)) (backToKw pos (keywordEach [] X.env))):=by rfl) :
  VEF X md P R (.Call (.Attribute o m apos) (e::es) [] pos) (Qgl c m cf mo ma):=by
 obtain ⟨C,f,fd,h1,h2,h3,h4,h5⟩:=M
 exact (Qmm (pl:=pl) (ds:=[]) (dvs:=[]) ho h2 h3 h5 hr h4 .nil QlC ha hst hpl ht).imp fun _ _ _ q=>QpC hR h1 q
end
section
variable {X:Cx}{md:List Md}{P:Pt}{R:RR}
theorem QsD {K:Frag}{mg:Str→Option Value}{W:WX}{m:M (List D)}{g:MG}{b:MS}{D:Ends}{σ:St}{H:Hp} (q:Qjv K mg md P R W (Qdo m g b) D σ H):Qnt (tMI K mg md P m) (tMG K mg md P g) (Qjv K mg md P R W b) D σ H:=by
 obtain ⟨ρ,O,F,as,r,s,k⟩:=q;unfold Qdo at k
 cases e:m ρ O with
 | ex x O'=>rw [e] at k; exact False.elim k
 | no=>rw [e] at k; exact False.elim k
 | ok ds O1 =>
  rw [e] at k;dsimp only at k;refine ⟨ρ,_,F,as,_,_,r,s,e,fun J H1 F1 as1 g1 r1 hJ=>?_⟩;have k1:=QbU.gr (R:=R) (W:=W) g1.toS k;refine ⟨fun i m σ' H'=>m=ds.length - i∧i≤ds.length∧∃ρ' O' F' as',GrS P H1 F1 as1 H' F' as'∧RlO K mg O' H' F' as'∧SlO K md P ρ' σ' H' F' as'∧QbU K mg md P R W D H' F' as' (QaS g b (ds.drop i) ρ' O'),⟨ds.length,by simp,Nat.zero_le _,ρ,O1,F1,as1,GrS.refl,r1,s.step g1,by rw [List.drop_zero]; exact k1⟩,?_⟩;rintro i n σ' H' ⟨rfl,hi,ρ',O',F',as',g',r',s',k'⟩
  by_cases hlt:i < ds.length
  ·have hd:=zJ hlt;obtain ⟨go,yl⟩:=hJ.turn i _ H' F' as' g' ⟨O',r'⟩ hd;rw [List.drop_eq_getElem_cons hlt] at k';refine .inr ⟨go,fun σ2 H2=>∃ρ2 O2 F2 as2,GrS P H1 F1 as1 H2 F2 as2∧RlO K mg O2 H2 F2 as2∧SlO K md P ρ2 σ2 H2 F2 as2∧QbU K mg md P R W D H2 F2 as2 (QaS g b (ds.drop (i+1)) ρ2 O2),fun σ2 H2 h2=>⟨ds.length - (i+1),by omega,rfl,hlt,h2⟩,fun x H3 y=>?_⟩;obtain ⟨F3,g3,r3,hx⟩:=yl x H3 y;have r3':=r3 O' r';unfold QaS at k'
   cases eg:g ds[i] ρ' with
   | none=>rw [eg] at k'; exact False.elim k'
   | some ρ1 =>
    rw [eg] at k';dsimp only at k';refine ⟨ρ',O',F3,as',ds[i],ρ1,r3',s'.step g3,hx,eg,fun σ4 s4=>?_⟩;refine ⟨ρ1,O',F3,as',r3',s4,?_⟩;have g4:GrS P H1 F1 as1 H3 F3 as':=g'.trans g3.toS
    cases eb:b ρ1 O' with
    | nx ρ2 O2 =>
     rw [eb] at k'
     exact fun σ2 H2 F2 as2 g2 r2 s2=>⟨ρ2,O2,F2,as2,g4.trans g2,r2,s2,QbU.gr g2 (QbU.gr g3.toS k')⟩
    | ct ρ2 O2 =>
     rw [eb] at k'
     exact fun σ2 H2 F2 as2 g2 r2 s2=>⟨ρ2,O2,F2,as2,g4.trans g2,r2,s2,QbU.gr g2 (QbU.gr g3.toS k')⟩
    | bk ρ2 O2 =>
     rw [eb] at k'
     exact fun σ2 H2 F2 as2 g2 r2 s2=>k' σ2 H2 F2 as2 (g3.toS.trans g2) r2 s2
    | rt d O2 =>
     rw [eb] at k'
     exact fun v H2 F2 as2 g2 r2 s2=>k' v H2 F2 as2 (g3.toS.trans g2) r2 s2
    | ex x O2 =>
     rw [eb] at k'
     exact fun d H2 F2 as2 g2 r2 hx=>k' d H2 F2 as2 (g3.toS.trans g2) r2 hx
    | no=>rw [eb] at k'; exact False.elim k'
  ·have hi':i=ds.length:=by omega
   subst hi';refine .inl ⟨hJ.stop H' F' as' g' ⟨O',r'⟩,?_⟩;rw [List.drop_length] at k';exact k' σ' H' F' as' GrS.refl r' s'
theorem QnC {tg iter:Expr}{body:List Stmt}{pos:Pos}{m:M (List D)}{g:MG}{b:MS} (hc:X.calm=true) (hi:VI X md P tg iter m) (hg:VG X md P tg g) (hb:Qfx X md P R body b) (hp:PassesOwn (model X.prog X.w) X.A X.env X.xe:=by exact PassesOwn.leaving)
  (hs:∀x,foldedSetIterable iter X.env x=pure x:=by intro _; rfl):VSF X md P R (.For tg iter body [] pos) (Qdo m g b):=(QkS hp hc hi hg hb hs).imp fun _ _ _ q=>QsD q
def Qtd (K:Frag) (mg:Str→Option Value) (md:List Md) (P:Pt) (W:WX) (m:M (List D)):TI:=fun σ H Q=>∃ρ O F as,RlO K mg O H F as∧SlO K md P ρ σ H F as ∧
 match m ρ O with
 | .ok ds O'=>∀J H' F' as',Gr H F as H' F' as'→RlO K mg O' H' F' as'→JOk K mg P J ds H' F' as'→Q J H'
 | .ex x O'=>∀dxo H' F' as',Gr H F as H' F' as'→RlO K mg O' H' F' as'→XF K F' as' dxo x.fs→W x dxo H'
 | .no=>False
def VIF (X:Cx) (md:List Md) (P:Pt) (tg iter:Expr) (m:M (List D)):Prop:=PI X tg iter (Qtd X.K X.mg md P (exL X) m)
theorem QpS {tg e:Expr}{m:M D} (h:VEF X md P (rV X.K) e m):VIF X md P tg e (Qc1 m):=(Qjz h).imp fun σ H Q q=>by
 obtain ⟨ρ,O,F,as,r,s,k⟩:=q;refine ⟨ρ,O,F,as,r,s,?_⟩;unfold Qc1 at k
 cases e:m ρ O with
 | ok d O' =>
  rw [e] at k
  cases d with
  | lst es =>
   intro v H1 F1 as1 g1 r1 hv;obtain ⟨a,xs,rfl,h1,h2⟩:=Qiy (mg:=X.mg) (P:=P) (N:=fun _=>True) (.inl hv);exact ⟨a,rfl,⟨xs,(h2 H1 F1 as1 GrS.refl ⟨_,r1⟩).sq⟩,k _ H1 F1 as1 g1 r1 (QkU h1 h2)⟩
  | _=>exact False.elim k
 | ex x O'=>rw [e] at k; exact k
 | no=>rw [e] at k; exact False.elim k
theorem Qro {K:Frag}{mg:Str→Option Value}{W W':WX} (hW:∀x d H,W x d H→W' x d H) {m:M (List D)}{g:MG}{b:MS}{D:Ends}{σ:St}{H:Hp} (q:Qjv K mg md P R W (QbP m g b) D σ H):Qnt (Qtd K mg md P W' m) (tMG K mg md P g) (Qjv K mg md P R W b) D σ H:=by
 obtain ⟨ρ,O,F,as,r,s,k⟩:=q;refine ⟨ρ,O,F,as,r,s,?_⟩;unfold QbP at k
 cases e:m ρ O with
 | ex x O'=>rw [e] at k; exact fun d H' F' as' g r' hx=>hW _ _ _ (k d H' F' as' g.toS r' hx)
 | no=>rw [e] at k; exact False.elim k
 | ok ds O1 =>
  rw [e] at k;dsimp only at k;intro J H1 F1 as1 g1 r1 hJ;have k1:=QbU.gr (R:=R) (W:=W) g1.toS k;refine ⟨fun i m σ' H'=>m=ds.length - i∧i≤ds.length∧∃ρ' O' F' as',GrS P H1 F1 as1 H' F' as'∧RlO K mg O' H' F' as'∧SlO K md P ρ' σ' H' F' as'∧QbU K mg md P R W D H' F' as' (QaS g b (ds.drop i) ρ' O'),⟨ds.length,by simp,Nat.zero_le _,ρ,O1,F1,as1,GrS.refl,r1,s.step g1,by rw [List.drop_zero]; exact k1⟩,?_⟩;rintro i n σ' H' ⟨rfl,hi,ρ',O',F',as',g',r',s',k'⟩
  by_cases hlt:i < ds.length
  ·have hd:=zJ hlt;obtain ⟨go,yl⟩:=hJ.turn i _ H' F' as' g' ⟨O',r'⟩ hd;rw [List.drop_eq_getElem_cons hlt] at k';refine .inr ⟨go,fun σ2 H2=>∃ρ2 O2 F2 as2,GrS P H1 F1 as1 H2 F2 as2∧RlO K mg O2 H2 F2 as2∧SlO K md P ρ2 σ2 H2 F2 as2∧QbU K mg md P R W D H2 F2 as2 (QaS g b (ds.drop (i+1)) ρ2 O2),fun σ2 H2 h2=>⟨ds.length - (i+1),by omega,rfl,hlt,h2⟩,fun x H3 y=>?_⟩;obtain ⟨F3,g3,r3,hx⟩:=yl x H3 y;have r3':=r3 O' r';unfold QaS at k'
   cases eg:g ds[i] ρ' with
   | none=>rw [eg] at k'; exact False.elim k'
   | some ρ1 =>
    rw [eg] at k';dsimp only at k';refine ⟨ρ',O',F3,as',ds[i],ρ1,r3',s'.step g3,hx,eg,fun σ4 s4=>?_⟩;refine ⟨ρ1,O',F3,as',r3',s4,?_⟩;have g4:GrS P H1 F1 as1 H3 F3 as':=g'.trans g3.toS
    cases eb:b ρ1 O' with
    | nx ρ2 O2 =>
     rw [eb] at k'
     exact fun σ2 H2 F2 as2 g2 r2 s2=>⟨ρ2,O2,F2,as2,g4.trans g2,r2,s2,QbU.gr g2 (QbU.gr g3.toS k')⟩
    | ct ρ2 O2 =>
     rw [eb] at k'
     exact fun σ2 H2 F2 as2 g2 r2 s2=>⟨ρ2,O2,F2,as2,g4.trans g2,r2,s2,QbU.gr g2 (QbU.gr g3.toS k')⟩
    | bk ρ2 O2 =>
     rw [eb] at k'
     exact fun σ2 H2 F2 as2 g2 r2 s2=>k' σ2 H2 F2 as2 (g3.toS.trans g2) r2 s2
    | rt d O2 =>
     rw [eb] at k'
     exact fun v H2 F2 as2 g2 r2 s2=>k' v H2 F2 as2 (g3.toS.trans g2) r2 s2
    | ex x O2 =>
     rw [eb] at k'
     exact fun d H2 F2 as2 g2 r2 hx=>k' d H2 F2 as2 (g3.toS.trans g2) r2 hx
    | no=>rw [eb] at k'; exact False.elim k'
  ·have hi':i=ds.length:=by omega
   subst hi';refine .inl ⟨hJ.stop H' F' as' g' ⟨O',r'⟩,?_⟩;rw [List.drop_length] at k';exact k' σ' H' F' as' GrS.refl r' s'
theorem Qrs {tg iter:Expr}{body:List Stmt}{pos:Pos}{m:M (List D)}{g:MG}{b:MS} (hc:X.calm=true) (hi:VIF X md P tg iter m) (hg:VG X md P tg g) (hb:Qfx X md P R body b) (hp:PassesOwn (model X.prog X.w) X.A X.env X.xe:=by exact PassesOwn.leaving)
  (hs:∀x,foldedSetIterable iter X.env x=pure x:=by intro _; rfl):VSF X md P R (.For tg iter body [] pos) (QbP m g b):=(QkS hp hc hi hg hb hs).imp fun _ _ _ q=>Qro (fun _ _ _ z=>z.2) q
end
end L2
namespace L2
open PySem PySem.Spec PyProof.Rows PySem.W PySem.Builtin PySem.Builtin.ObjectAttr
theorem QmE {K:Frag}{h:Heap}{N:Addr}{m:Str→Option Value}{n:Str}{v:Value} (X:K.In h) (G:h.Ns N m) (e:nsIn K N n=some (some v)):m n=some v:=by
 obtain ⟨o,es,ep,ho,hd,_,hf⟩:=G;unfold nsIn at e;split at e
 ·rename_i q;have z:=X _ _ q;rw [ho] at z;cases z;cases hd;split at e
  ·rename_i en he;cases e;rw [←hf];unfold nsFind findBy;rw [←Array.find?_toList,he];rfl
  ·split at e <;> cases e
 ·cases e
def QiW (K:Frag) (C:Addr) (bmB:List Value) (newId:String) (fI:Addr):Bool:=match K.lookup C with
 | some ⟨.type "type",_,.cls cd,sl⟩=>(match cd.mro,sl.toList with
  | .ref C'::bm,[_,_,_,_,some (.builtin n),_]=>C' == C&&n == newId && !cd.hasDel&&tailIn K bmB bm&&nsOkIn K cd.ns&&nsIn K cd.ns "__init__" == some (some (.ref fI))&&cd.hasDict
  | _,_=>false)
 | _=>false
theorem QkY {K:Frag}{C fI:Addr}{id:String} (hq:QiW K C bmV id fI=true) :
  ∃bm N nm qn bs sn sub ab col dd k0 k1 k2 k3 k5,K.lookup C=some (excClassObj nm qn C N bs bm true sn sub ab col dd k0 k1 k2 k3 k5 id)∧tailIn K bmV bm=true∧nsOkIn K N=true∧nsIn K N "__init__" = some (some (.ref fI)):=by
 unfold QiW at hq;split at hq
 case h_2=>cases hq
 case h_1 dd cd sl lk =>
  split at hq
  case h_2=>cases hq
  case h_1 C1 bm k0 k1 k2 k3 nn k5 e1 e2 =>
   rw [zj,zj,zj,zj,zj,zj] at hq;obtain ⟨⟨⟨⟨⟨⟨p1,p2⟩,p3⟩,p4⟩,p5⟩,p6⟩,p7⟩:=hq;have q1:C1=C:=beq_iff_eq.mp p1;have q2:nn=id:=beq_iff_eq.mp p2;subst q1;subst q2
   rcases cd with ⟨nm,bs,mro,ns,qn,hd,sn,sub,ab,col,del⟩
   have e1':mro = .ref C1::bm:=e1
   have p3':del=false:=by
    have z:(!del)=true:=p3
    cases del with
    | false=>rfl
    | true=>cases z
   have p7':hd=true:=p7;subst e1';subst p3';subst p7'
   rcases sl with ⟨ls⟩
   have e2':ls = [k0,k1,k2,k3,some (.builtin nn),k5]:=e2;subst e2';exact ⟨bm,ns,nm,qn,bs,sn,sub,ab,col,dd,k0,k1,k2,k3,k5,lk,p4,p5,beq_iff_eq.mp p6⟩
theorem Qh3 {K:Frag} (self:Value):∀{l:List Value},tailIn K bmV l=true→refuseLoop self "__setattr__" l=pure ()
 | [],e=>by rw [show ([]:List Value)=bmV from (beq_iff_eq.mp e).symm]; exact PySem.F.store_ValueError.passes self
 | v::r,e=>by
  unfold tailIn at e
  rcases Bool.or_eq_true_iff.mp e with q | q
  ·rw [beq_iff_eq.mp q];exact PySem.F.store_ValueError.passes self
  ·split at q
   ·split at q
    ·rw [zj,zj] at q;rw [refuseLoop_ref];exact Qh3 self q.2
    ·cases q
   ·cases q
def Qgz (h:Heap) (C:Addr) (rest:List Value):Heap:=(h.push { cls:=.type "tuple",data:=.seq rest.toArray }).push { cls:=.ref C,data:=.fields #[.ref h.objs.size,.none,.none,.none,.bool false,.none] }
def QeA (C t:Addr) (dxo:Option Addr):Obj:={ cls:=.ref C,dict:=dxo,data:=.fields #[.ref t,.none,.none,.none,.bool false,.none] }
section
variable {prog:Program}{w:World}{A:Around}{E:Value→Shared→Prop}{h:Heap}{g:Array GenState}{d:Drawn}{t:Nat}{os:OsState}
variable {nm q:Str}{C N:Addr}{bs bm bmB:List Value}{hdct:Bool}{sn:List Str}{sub:List Value}{ab:Bool}{col:Option Bool}{dd:Option Addr}{k0 k1 k2 k3 k5:Option Value}{B newId initId:String}
theorem QiK (F:ExcBaseFacts B newId initId bmB) (T:OwnTail h bmB bm) {mN:Str→Option Value}{rest:List Value}{fI:Addr}{oI:Obj}{Q:Fin→Shared→Prop}
  (hC:h.get? C=some (excClassObj nm q C N bs bm hdct sn sub ab col dd k0 k1 k2 k3 k5 newId)) (hn:h.Ns N mN) (hi:mN "__init__" = some (.ref fI)) (hfI:h.get? fI=some oI) (hfc:oI.cls = .type "function")
  (hq:wpAny (model prog w) A (call (.ref fI) (.ref (h.objs.size+1)::rest)) (fun r s'=>r = .none∧Q (.done (.ret (.ref (h.objs.size+1)))) s') E ⟨Qgz h C rest,g,d,t,os⟩) (hrest:rest.length≤sizeLine) :
  wpAny (model prog w) A (Builtin.«type.__call__» ⟨.ref C::rest,[]⟩) Q E ⟨h,g,d,t,os⟩:=by
 repeat (first | with_reducible refine wpAny_loadPart_at hC ?_ | with_reducible refine wpAny_madeBy_exc hC ?_ | wp_step)
 refine codeAny_call_builtin_code (Code.quiet_builtin _ F.quiet) (wpAny_check_new_subT F T hC ?_);refine codeAny_exc_new_subT F T hC ?_ hrest;show wpAny _ _ _ _ _ _;have hC₁:=zh { cls:=.ref C,data:=.fields #[.ref h.objs.size,.none,.none,.none,.bool false,.none] }
  (zh { cls:=.type "tuple",data:=.seq rest.toArray } hC)
 have hfI₁:=zh { cls:=.ref C,data:=.fields #[.ref h.objs.size,.none,.none,.none,.bool false,.none] }
  (zh { cls:=.type "tuple",data:=.seq rest.toArray } hfI)
 have hn₁:((h.push { cls:=.type "tuple",data:=.seq rest.toArray }).push { cls:=.ref C,data:=.fields #[.ref h.objs.size,.none,.none,.none,.bool false,.none] }).Ns N mN :=
  let ⟨o,es,ep,e,r⟩:=hn; ⟨o,es,ep,zh _ (zh _ e),r⟩
 have hget:((h.push { cls:=.type "tuple",data:=.seq rest.toArray }).push
   { cls:=.ref C,data:=.fields #[.ref h.objs.size,.none,.none,.none,.bool false,.none] }).get? (h.objs.size+1)=some
   { cls:=.ref C,data:=.fields #[.ref h.objs.size,.none,.none,.none,.bool false,.none] }:=by heap_get
 have hcC:(Value.ref C::bm).contains (.ref C)=true:=by simp
 have T₁:=T.keeps (h':=(h.push { cls:=.type "tuple",data:=.seq rest.toArray }).push { cls:=.ref C,data:=.fields #[.ref h.objs.size,.none,.none,.none,.bool false,.none] })
  fun b o e=>zh _ (zh _ e)
 unfold isInstance
 repeat (first | with_reducible refine wpAny_loadPart_at hget ?_ | (with_reducible refine wpAny_isSubtype_exc hC₁ ?_; rw [hcC]) | wp_step)
 show wpAny _ _ (typeLookup (.ref C) _) _ _ _;refine wpAny_typeLookup_tail hC₁ hn₁ T₁ F.mroIs F.init.lookup ?_;rw [hi];refine zH (za ?_);unfold bindSpecial;refine za (wpAny_typeOf (T:="function") ⟨_,hfI₁,hfc⟩ ?_);rw [if_pos (by decide)];refine zb (za (zm hq (fun r s' hr=>?_) fun _ _ x=>x));obtain ⟨rfl,hQ⟩:=hr
 wp_walk
 exact hQ
theorem Qnq (F:ExcBaseFacts B newId initId bmB) (T:OwnTail h bmB bm) {mN:Str→Option Value}{rest:List Value}{fI:Addr}{oI:Obj}{Q:Value→Shared→Prop}
  (hC:h.get? C=some (excClassObj nm q C N bs bm hdct sn sub ab col dd k0 k1 k2 k3 k5 newId)) (hn:h.Ns N mN) (hi:mN "__init__" = some (.ref fI)) (hfI:h.get? fI=some oI) (hfc:oI.cls = .type "function")
  (hq:wpAny (model prog w) (A.under (.builtin "type.__call__" ⟨.ref C::rest,[]⟩)) (call (.ref fI) (.ref (h.objs.size+1)::rest)) (fun r s'=>r = .none∧Q (.ref (h.objs.size+1)) s') E ⟨Qgz h C rest,g,d,t,os⟩) (hrest:rest.length≤sizeLine) :
  wpAny (model prog w) A (call (.ref C) rest) Q E ⟨h,g,d,t,os⟩:=by
 have f1:=tc_lookup;have f2:=tc_bind (.ref C);have hT:(⟨h,g,d,t,os⟩:Shared).TypeIs (.ref C) "type":=⟨_,hC,rfl⟩;refine zM (codeAny_of_tree ?_);show wpAny _ _ (callAny (.ref C) _) _ _ _
 repeat (any_goals (first | assumption | with_reducible refine wpAny_loadPart_at hC ?_ | wp_step))
 refine ⟨rfl,?_⟩;exact codeAny_call_builtin_at (Code.quiet_builtin _ (by decide +kernel)) entry_typeCall (wpAny_check_type_call_sub hC (QiK F T hC hn hi hfI hfc hq hrest))
theorem Qj5 {M:Model}{env:Env}{s:Shared}{x:Sem Value}{Q:Flow→Shared→Prop} (hbase:bm.contains (.type "BaseException")=true) (hh:A.handled=none)
  (h:wpAny M A x (fun v s₁=>∃e t dxo,v = .ref e∧s₁.heap.get? C=some (excClassObj nm q C N bs bm hdct sn sub ab col dd k0 k1 k2 k3 k5 newId)∧s₁.heap.get? e=some (QeA C t dxo)∧E (.ref e) s₁) E s) :
  wpAny M A (raiseStmt env (some x) none) Q E s:=by
 have hcB:(Value.ref C::bm).contains (.type "BaseException")=true:=by rw [List.contains_cons,hbase,Bool.or_true]
 unfold raiseStmt;refine za (zm h (fun v s₁ h₁=>?_) fun _ _ x=>x);obtain ⟨e,t,dxo,rfl,hC,he,hE⟩:=h₁;unfold QeA at he;obtain ⟨hp,g,d,tk,os⟩:=s₁
 repeat (first | with_reducible refine wpAny_loadPart_at he ?_ | with_reducible refine wpAny_loadPart_at hC ?_ | (with_reducible refine wpAny_isSubtype_exc hC ?_; rw [hcB]) | wp_step)
 exact wpAny_raiseNew_none hh hE
theorem Qsx {K:Frag}{x:Addr}{ox:Obj}{name:Str}{tk:Tok}{v:Value}{cd:ClassData}{Q:Fin→Shared→Prop} (X:K.In h) (hx:h.get? x=some ox) (hc:ox.cls = .ref C) (hnd:ox.dict=none) (hda:∃ws,ox.data = .fields ws)
  (hcd:clsIn K C=some cd) (hhd:cd.hasDict=true) (hrf:refuseLoop (.ref x) "__setattr__" cd.mro=pure ()) (hna:findIn K (.ref C) name=some none)
  (hq:∀h' tk',h'.Ns1 h.objs.size (fun y=>if y=name then some v else none)→h'.get? x=some { ox with dict:=some h.objs.size }→(∀b o,b≠x→h.get? b=some o→h'.get? b=some o)→Q (.done (.ret .none)) ⟨h',g,d,tk',os⟩) :
  wpAny (model prog w) A (Builtin.«object.__setattr__» ⟨[.ref x,.str name tk,v],[]⟩) Q E ⟨h,g,d,t,os⟩:=by
 obtain ⟨ws,hda⟩:=hda;have L0:Looks (model prog w) h (typeOf (.ref x)) (.ref C):=hc ▸ (Looks.ld hx).andThen .now;have hm:Looks (model prog w) h (mroOf (.ref C)) cd.mro:=(looks_clsIn X hcd).andThen .now;have L2:=looks_findIn (M:=model prog w) X hna;rw [osa_eq,refuse_eq];refine za (za (L0.at (za (hm.at ?_))));rw [hrf];refine zb (za (L0.at (za (L2.at (za (zb ?_))))));show wpAny _ _ (storeInOwnDict _ _ _ _ _ _) _ _ _;unfold storeInOwnDict;refine za (zb (za ?_));unfold ownDictForStores instanceDict;dsimp only;refine za (wpAny_loadPart hx ?_);obtain ⟨oc,odi,oda,osl⟩:=ox;dsimp only at hc hnd hda
 subst hc hnd hda;refine za ((looks_clsIn X hcd).at ?_);rw [hhd];rw [if_neg (by decide),if_neg (by simp [typeHasDict])];have hx₁:=zh { cls:=.type "dict",data:=.dict #[] } hx;have hxs:x≠h.objs.size:=zl (zd hx);refine za (wpAny_alloc' ?_);refine za (wpAny_update' hx₁ ?_);refine zb ?_;have hgd:((h.push { cls:=.type "dict",data:=.dict #[] }).update x fun o=>{ cls:=o.cls,dict:=some h.objs.size,data:=o.data,slots:=o.slots }).get? h.objs.size=some { cls:=.type "dict",data:=.dict #[] } :=
  (Heap.get?_update_ne _ _ _ _ hxs.symm).trans (Heap.get?_push_at rfl rfl)
 have hnd:((h.push { cls:=.type "dict",data:=.dict #[] }).update x fun o=>{ cls:=o.cls,dict:=some h.objs.size,data:=o.data,slots:=o.slots }).Ns h.objs.size (fun _=>none) :=
  ⟨_,#[],_,hgd,rfl,fun e he=>absurd he (by simp),fun _=>rfl⟩
 show wpAny _ _ (storeInDict h.objs.size (.str name tk) name v) _ _ _;unfold storeInDict newKeyGuard;refine za (zb (za (wpAny_nsSet1 (Heap.Ns1.of_empty hnd) fun h' hn' hs=>?_)));obtain ⟨oD,esD,epD,hoD,hdD,hcD⟩:=hn'.count (Within.cons name v Within.nil);refine za (wpAny_lookBehind hoD (by rw [hdD]; exact pastItsLine_dict (zu hcD (by rw [zp,zR,sizeLine_eq]; omega))) ?_)
 wp_walk
 refine hq h' _ hn' ((hs.2 x hxs).trans (Heap.get?_update_self _ hx₁ rfl)) fun b ob hbx hb=>?_
 exact (hs.2 b (zl (zd hb))).trans ((Heap.get?_update_ne _ _ _ _ hbx).trans (zh _ hb))
end
def xoK (C t ea:Addr) (dxo:Option Addr):HO:=.ext fun h=>h.get? ea=some (QeA C t dxo)
theorem Qox {P:Program}{w:World}{H:Hp}{h:Heap}{C t ea:Addr}{dxo:Option Addr} (e:h.get? ea=some (QeA C t dxo)):Qbi P w H h ea (xoK C t ea dxo):=⟨e,⟨_,e⟩,fun _ _ z k=>k _ z⟩
theorem QnI {P:Program}{w:World}{H:Hp}{h:Heap}{C t ea:Addr}{dxo:Option Addr} (q:Qbi P w H h ea (xoK C t ea dxo)):h.get? ea=some (QeA C t dxo):=q.1
def spI (C:Addr) (name:Str):Sp:=fun vs H Q _=>∃ea t v,vs = [.ref ea,v]∧H ea=some (xoK C t ea none)∧∀dx od,H dx=none→dx≠ea→Q .non (upd (upd H dx (.frz od (.xd [(name,v)]))) ea (xoK C t ea (some dx)))
structure QkK (K:Frag) (C fI:Addr) (name:Str):Prop where
 cl:QiW K C bmV "ValueError.__new__" fI=true
 sa:findIn K (.ref C) "__setattr__" = some (some (.builtin "object.__setattr__"))
 na:findIn K (.ref C) name=some none
 ob:mroIn K C (.type "object")=some true
section
variable {X:Cx}{pins:List (Addr×Obj)}{σ:St}{H:Hp}{s:Shared}{ea C fI t:Addr}{name:Str}{v:V}{u:Value}
theorem Qsv {A:Around}{E:Value→Shared→Prop}{Q:Unit→Shared→Prop} (I:Inv X pins σ H s) (Z:QkK X.K C fI name) (e:H ea=some (xoK C t ea none)) (rv:RelV v u)
  (hq:∀dx od s',H dx=none→dx≠ea→Inv X pins σ (upd (upd H dx (.frz od (.xd [(name,v)]))) ea (xoK C t ea (some dx))) s'→Q () s'):wpAny (model X.prog X.w) A (setAttr (.ref ea) name u) Q E s:=by
 have hx:=QnI (I.hok ea _ e);obtain ⟨bm,N,nm,qn,bs,sn,sub,ab,col,dd,k0,k1,k2,k3,k5,lk,ht,_,_⟩:=QkY Z.cl;have SF:=PySem.F.store_object
 obtain ⟨cd,hcl,hm,hhd⟩:∃cd,clsIn X.K C=some cd∧cd.mro = .ref C::bm∧cd.hasDict=true:=by
  refine ⟨_,by unfold clsIn; rw [show X.K.lookup C=_ from lk],rfl,rfl⟩
 refine set_plain (od:=none) I.kIn ⟨hx,rfl,rfl,trivial⟩ Z.sa ?_;have L0:Looks (model X.prog X.w) s.heap (isInstance (.ref ea) (.type "object")) true:=(show Looks (model X.prog X.w) s.heap (typeOf (.ref ea)) (.ref C) from (Looks.ld hx).andThen .now).andThen (looks_mroIn I.kIn Z.ob);refine codeAny_call_builtin SF.slot.plain SF.entry (@check_slot (model X.prog X.w) _ _ { s with toks:=s.toks+1 } "object.__setattr__" "object" "__setattr__" (.ref ea) [.str name s.toks,u] [] _ SF.kind SF.split L0 (SF.args (.ref ea) (.str name s.toks) u) ?_)
 refine Qsx I.kIn hx rfl rfl ⟨_,rfl⟩ hcl hhd (by rw [hm,refuseLoop_ref]; exact Qh3 _ ht) Z.na fun h' tk' hns hex hk=>?_
 show Q () _;have hfr:H s.heap.objs.size=none:=I.hok.fresh (zc _);have hne:s.heap.objs.size≠ea:=(zl (zd hx)).symm;obtain ⟨od,es,ep,hod,hr⟩:=id hns;refine hq s.heap.objs.size od _ hfr hne (I.un ⟨fun b o q n _ _=>?_,fun b o q n _ _=>?_,fun b o q n _=>?_,fun b o q _=>?_,fun b xs q=>?_,fun b o u' q=>?_,fun b ps q=>?_⟩ fun b o q=>?_)
 ·exact hk b o (fun z=>by rw [z,e] at n; cases n) q
 ·exact ⟨o.slots,hk b o (fun z=>by rw [z,e] at n; cases n) q⟩
 ·rw [Qaj (fun z=>by rw [z,e] at n; cases n),Qaj (zl (zd q))];exact n
 ·by_cases z:b=ea
  ·exact ⟨_,z ▸ hex⟩
  ·exact ⟨o,hk b o z q⟩
 ·rw [Qaj (fun z=>by rw [z,e] at q; cases q),Qaj (fun z=>by rw [z,hfr] at q; cases q)];exact q
 ·rw [Qaj (fun z=>by rw [z,e] at q; cases q),Qaj (fun z=>by rw [z,hfr] at q; cases q)];exact q
 ·refine ⟨#[],?_⟩;rw [Qaj (fun z=>by rw [z,e] at q; cases q),Qaj (fun z=>by rw [z,hfr] at q; cases q),Array.append_empty];exact q
 ·by_cases z:b=ea
  ·subst z;rw [QaC] at q;cases q;exact Qox hex
  ·rw [Qaj z] at q
   by_cases y:b=s.heap.objs.size
   ·subst y;rw [QaC] at q;cases q;refine ⟨hod,_,hns,fun f=>?_⟩
    by_cases hf:f=name
    ·rw [if_pos hf,hf];show QcJ (List.lookup name [(name,v)]) _;rw [show List.lookup name [(name,v)]=some v by simp [List.lookup]];exact rv
    ·have hb:(f == name)=false:=beq_eq_false_iff_ne.mpr hf;rw [if_neg hf,show List.lookup f [(name,v)]=none by simp only [List.lookup,hb]];exact True.intro
   ·rw [Qaj y] at q
    refine (I.hok b o q).stay (fun b' u' hb' q'=>hk b' u' (fun x=>?_) q') (fun b' q'=>?_) fun b' xs q'=>?_
    ·rcases hb' with rfl | hb'
     ·exact z x
     ·rw [x,e] at hb';cases hb'
    ·rw [Qaj (fun x=>by rw [x,e] at q'; cases q'),Qaj (fun x=>by rw [x,hfr] at q'; cases q')];exact q'
    ·rw [Qaj (fun x=>by rw [x,e] at q'; cases q'),Qaj (fun x=>by rw [x,hfr] at q'; cases q')];exact q'
def QuP (C:Addr) (name:Str):TS:=fun D σ H=>∃ea t v,σ[0]? = some (some (.ref ea))∧σ[1]? = some (some v)∧H ea=some (xoK C t ea none)∧∀dx od,H dx=none→dx≠ea→D.nx σ (upd (upd H dx (.frz od (.xd [(name,v)]))) ea (xoK C t ea (some dx)))
theorem QrK {sf pn:Str}{p1 p2 p3 p4:Pos} (Z:QkK X.K C fI name) (h0:X.N[0]? = some sf) (h1:X.N[1]? = some pn) (v0:Vis X.env.scope sf) (v1:Vis X.env.scope pn) (d0:(sf == ("__debug__":Str))=false) (d1:(pn == ("__debug__":Str))=false) (c0:(sf == ("__classdict__":Str))=false) (c1:(pn == ("__classdict__":Str))=false)
  (hs:swapsWith (.Name pn p3) (some (.Attribute (.Name sf p1) name p2)) p4.line X.env=pure false):PS X (.Assign [.Attribute (.Name sf p1) name p2] (.Name pn p3) p4) (QuP C name):=by
 intro pins s σ H D I q;obtain ⟨ea,t,v,e0,e1,eh,k⟩:=q;refine plainObj_wpAny_Assign_Attribute (thn (Qet (i:=1) h1 v1 d1 c1 pins s σ H (fun v' H1=>v'=v∧H1=H) I ⟨v,e1,rfl,rfl⟩) fun u s1 z=>?_) hs;obtain ⟨_,_,I1,ru,rfl,rfl⟩:=z
 refine thn (Qet (i:=0) h0 v0 d0 c0 pins s1 σ _ (fun v' H1=>v' = .ref ea∧H1=_) I1 ⟨.ref ea,e0,rfl,rfl⟩) fun ov s2 z=>?_
 obtain ⟨_,_,I2,ro,rfl,rfl⟩:=z;obtain rfl:ov=Value.ref ea:=ro
 exact Qsv I2 Z eh ru fun dx od s3 n1 n2 I3=>⟨σ,_,I3,k dx od n1 n2⟩
theorem Inv.dropH {H':Hp}{φ:Heap→Prop} (I:Inv X pins σ H s) (he:H ea=some (.ext φ)) (h1:∀b,b≠ea→H' b=H b) (h2:H' ea=none):Inv X pins σ H' s:=by
 have nn:∀b,H b=none→H' b=none:=fun b n=>by
  by_cases z:b=ea
  ·rw [z]; exact h2
  ·rw [h1 b z]; exact n
 have ne:∀b o,H b=some o→(∀φ,o≠.ext φ)→H' b=some o:=fun b o q n=>by
  rw [h1 b fun z=>by rw [z,he] at q; cases q; exact n _ rfl];exact q
 refine ⟨I.ok,I.os,I.bare,⟨I.base.keep,I.base.slot,fun b o q n hx=>nn b (I.base.free b o q n hx),I.base.there,fun b xs q=>ne b _ (I.base.tups b xs q) (fun _ z=>nomatch z),fun b o u q=>ne b _ (I.base.frzs b o u q) (fun _ z=>nomatch z),fun b ps q=>?_⟩,I.loc,I.cell,nn _ I.free,fun x c q=>nn _ (I.freeC x c q),fun p hp=>?_,fun b o q=>?_,I.len⟩
 ·obtain ⟨more,q'⟩:=I.base.tbls b ps q;exact ⟨more,ne b _ q' fun _ z=>nomatch z⟩
 ·obtain ⟨e,n,nl,nf,d⟩:=I.pin p hp;exact ⟨e,nn _ n,nl,nf,d⟩
 ·have hb:b≠ea:=fun z=>by rw [z,h2] at q; cases q
  rw [h1 b hb] at q
  exact (I.hok b o q).stay (fun _ _ _ e=>e) (fun b' q'=>ne b' _ q' fun _ z=>nomatch z) fun b' xs q'=>ne b' _ q' fun _ z=>nomatch z
end
def Qlu (P:Program) (w:World) (K:Frag) (mg:Str→Option Value) (base:Heap) (c name:Str) (k:Nat):Prop :=
 ∃(C fI:Addr) (fd:FuncData) (ps:List Str),mg c=some (.ref C)∧QkK K C fI name∧isFn K (.ref fI)=true∧Binds K fd ps []∧Qbo P w K mg base CX0 k fI fd ps (spI C name)
section
variable {Pr:Program}{w:World}{K:Frag}{mg:Str→Option Value}{base:Heap}
theorem Qvn {c name qual sf pn:Str}{st:Stmt}{C fI:Addr}{fd:FuncData}{p1 p2 p3 p4:Pos} (hC:mg c=some (.ref C)) (Z:QkK K C fI name) (hf:isFn K (.ref fI)=true) (Fn:Fun K "__init__" qual st fI fd) (S:QaI [sf,pn] [sf,pn] (Qah st))
  (hb:∀(kV doc pm:Value) (an:Option Addr) (cdv ct:Value) (us:List Value),us.length = [sf,pn].length→bindArgs (PySem.W.fnOf "__init__" qual (Qbv st) (QaW st) (Qah st) .none kV doc pm an cdv ct) ⟨us,[]⟩=pure ([sf,pn].zip us))
  (hbo:QaW st = [.Assign [.Attribute (.Name sf p1) name p2] (.Name pn p3) p4]) (v0:Vis (Qah st) sf) (v1:Vis (Qah st) pn) (d0:(sf == ("__debug__":Str))=false) (d1:(pn == ("__debug__":Str))=false) (c0:(sf == ("__classdict__":Str))=false) (c1:(pn == ("__classdict__":Str))=false)
  (hs:∀L f cdv,swapsWith (.Name pn p3) (some (.Attribute (.Name sf p1) name p2)) p4.line (envOfC qual (Qah st) L f cdv)=pure false):Qlu Pr w K mg base c name 1:=by
 have hbi:=Fn.binds hb;obtain ⟨oc,od,kV,doc,pmv,an,cdv,ct,osl,rfl,lk,hcd⟩:=Fn.ex;refine ⟨C,fI,_,_,hC,Z,hf,hbi,QmX lk hcd S (fun vs H Q E h=>?_) fun A outer s H vs Q E hr h=>?_⟩
 ·obtain ⟨ea,t,v,rfl,_⟩:=h;rfl
 ·obtain ⟨ea,t,v,rfl,e,k⟩:=h;rw [hbo];exact ⟨_,Ql7 (QrK (X:=Qb1 CX0 Pr w K mg base [sf,pn] qual (Qah st) fI cdv A outer s H E) Z rfl rfl v0 v1 d0 d1 c0 c1 (hs _ _ _)),ea,t,v,rfl,rfl,e,k⟩
end
section
variable {prog:Program}{w:World}{A:Around}{E:Value→Shared→Prop}{s:Shared}{env:Env}
variable {nm q:Str}{C N:Addr}{bs bm:List Value}{hdct:Bool}{sn:List Str}{sub:List Value}{ab:Bool}{col:Option Bool}{dd:Option Addr}{k0 k1 k2 k3 k5:Option Value}{newId:String}
theorem QlN {x:Str}{np cpos pos:Pos}{args:List Expr}{Q:Flow→Shared→Prop} (hbase:bm.contains (.type "BaseException")=true) (hh:A.handled=none) (hplain:(backTo cpos (starEach args env)).any (·.1)=false)
  (h:wpAny (model prog w) A (eval (.Name x np) env) (fun f s₁=>f = .ref C∧wpAny (model prog w) A (evalArgs (.ref C) true (backTo cpos (starEach args env)) [])
   (fun a s₂=>a.kw = []∧s₂.heap.get? C=some (excClassObj nm q C N bs bm hdct sn sub ab col dd k0 k1 k2 k3 k5 newId)∧wpAny (model prog w) A (call (.ref C) a.pos) (fun v s₃=>∃e t dxo,v = .ref e∧s₃.heap.get? C=some (excClassObj nm q C N bs bm hdct sn sub ab col dd k0 k1 k2 k3 k5 newId)∧s₃.heap.get? e=some (QeA C t dxo)∧E (.ref e) s₃) E s₂) E s₁) E s) :
  wpAny (model prog w) A (exec (.Raise (some (.Call (.Name x np) args [] cpos)) none pos) env) Q E s:=by
 rw [arm_exec_Raise]
 first
  | refine za (wpAny_standAt (Qj5 (C:=C) (nm:=nm) (q:=q) (N:=N) (bs:=bs) (bm:=bm) (hdct:=hdct) (sn:=sn) (sub:=sub) (ab:=ab) (col:=col) (dd:=dd) (k0:=k0) (k1:=k1) (k2:=k2) (k3:=k3) (k5:=k5) (newId:=newId) hbase hh (za (zm (wpAny_Call_ofName (zm h (fun f s₁ h₁=>?_) fun _ _ x=>x)) (fun v s₃ h₃=>za (wpAny_standAt (zb h₃))) fun _ _ x=>x))))
  | (simp only [evalOpt,Option.map]; refine za (wpAny_standAt (Qj5 (C:=C) (nm:=nm) (q:=q) (N:=N) (bs:=bs) (bm:=bm) (hdct:=hdct) (sn:=sn) (sub:=sub) (ab:=ab) (col:=col) (dd:=dd) (k0:=k0) (k1:=k1) (k2:=k2) (k3:=k3) (k5:=k5) (newId:=newId) hbase hh (za (zm (wpAny_Call_ofName (zm h (fun f s₁ h₁=>?_) fun _ _ x=>x)) (fun v s₃ h₃=>za (wpAny_standAt (zb h₃))) fun _ _ x=>x)))))
 obtain ⟨rfl,h₁⟩:=h₁;unfold callWith;refine za (zH (zm h₁ (fun a s₂ h₂=>za (wpAny_standAt ?_)) fun _ _ x=>x));obtain ⟨apos,akw⟩:=a;obtain ⟨hkw,hC,h₂⟩:=h₂;obtain rfl:akw = []:=hkw;obtain ⟨hp,g,d,tk,os⟩:=s₂;simp only [hplain];refine za (wpAny_keeperOf_exc hC ?_);exact za (zm h₂ (fun v s₃ h₃=>za (zH (wpAny_point (zb h₃)))) fun _ _ z=>z)
end
section
variable {X:Cx}{md:List Md}{P:Pt}{R:RR}
def Qdx (c name:Str) (m:M D):MS:=fun ρ O=>match m ρ O with
 | .ok d O'=>.ex ⟨c,[(name,d)]⟩ O'
 | _=>.no
theorem QjT {c name:Str}{k:Nat}{p cpos pos:Pos}{a:Expr}{m:M D} (Cn:Qlu X.prog X.w X.K X.mg X.base c name k) (hr:QaK (k+1) X.A) (hc:X.calm=true) (ha:VE X md P a m) (hg:Gl X c:=by rfl) (hd:(c == ("__debug__":Str))=false:=by decide)
  (hs1:starEach [a] X.env=(false,eval a X.env)::starEach [] X.env:=by exact Qa3 rfl) (hpl:(backTo cpos (starEach [a] X.env)).any (·.1)=false:=by rfl) :
  VSF X md P R (.Raise (some (.Call (.Name c p) [a] [] cpos)) none pos) (Qdx c name m):=by
 intro pins s σ H D I q;obtain ⟨ρ,O,F,as,r,sl,k0⟩:=q;obtain ⟨C,fI,fd,ps,hC,Z,hf,hb,Fn⟩:=Cn;unfold Qdx at k0
 cases em:m ρ O with
 | ex x O'=>rw [em] at k0; exact False.elim k0
 | no=>rw [em] at k0; exact False.elim k0
 | ok d O' =>
  rw [em] at k0;dsimp only at k0;obtain ⟨bm,N,nm,qn,bs,sn,sub,ab,col,dd,kk0,kk1,kk2,kk3,kk5,lk,ht,hno,hin⟩:=QkY Z.cl;refine QlN (C:=C) (nm:=nm) (q:=qn) (N:=N) (bs:=bs) (bm:=bm) (hdct:=true) (sn:=sn) (sub:=sub) (ab:=ab) (col:=col) (dd:=dd) (k0:=kk0) (k1:=kk1) (k2:=kk2) (k3:=kk3) (k5:=kk5) (newId:="ValueError.__new__") ((tail_of_in I.kIn ht).hasType PySem.F.excBase_ValueError.hasBase) (I.ok.hd hc) hpl (Qd3 I hg hC ⟨rfl,?_⟩ hd);have hA:=QbA ha Qcp hs1 cpos pins s σ H (fun vs H1=>∃v F1 as1,vs = [v]∧Gr H F as H1 F1 as1∧RlO X.K X.mg O' H1 F1 as1∧Rp X.K F1 as1 v d) I ⟨ρ,O,F,as,d,O',r,sl,em,fun v H1 F1 as1 g1 r1 hv=>⟨v,F1,as1,rfl,g1,r1,hv⟩⟩
  rw [hs1] at hA ⊢;refine Calls.evalArgs_plain (thn hA fun us s1 z=>?_);obtain ⟨vs,H1,I1,rv,v,F1,as1,rfl,g1,r1,hv⟩:=z;obtain ⟨u,rfl,ru⟩:=vals1 rv;refine ⟨rfl,I1.kIn _ _ lk,?_⟩;have hfr:H1 (s1.heap.objs.size+1)=none:=I1.hok.fresh (Nat.le_succ _)
  have kp:∀b o,s1.heap.get? b=some o→(Qgz s1.heap C [u]).get? b=some o:=fun b o e=>zh _ (zh _ e)
  have hge:(Qgz s1.heap C [u]).get? (s1.heap.objs.size+1)=some (QeA C s1.heap.objs.size none):=by
   unfold Qgz QeA;exact Heap.get?_push_at (by rw [Heap.size_push]) rfl
  have I2:Inv X pins σ (upd H1 (s1.heap.objs.size+1) (xoK C s1.heap.objs.size (s1.heap.objs.size+1) none)) { s1 with heap:=Qgz s1.heap C [u] }:=I1.laid (t':=s1.toks) kp (Nat.le_succ _) (Qox hge);have hns:s1.heap.Ns N _:=.of_isNs (isNs_of_in I1.kIn hno);have hfo:typeIn X.K (.ref fI)=some (.type "function"):=beq_iff_eq.mp hf
  obtain ⟨oI,hoI,hoc⟩:∃oI,s1.heap.get? fI=some oI∧oI.cls = .type "function":=by
   obtain ⟨o,ho,hc'⟩:=Option.map_eq_some_iff.mp (show (X.K.lookup fI).map (·.cls)=some (.type "function") from hfo);exact ⟨o,I1.kIn _ _ ho,hc'⟩
  obtain ⟨hh,gg,dr,tk,os⟩:=s1;refine Qnq PySem.F.excBase_ValueError (tail_of_in I1.kIn ht) (I1.kIn _ _ lk) hns (QmE I1.kIn hns hin) hoI hoc ?_ (by rw [sizeLine_eq]; show (1:Nat)≤16777216; decide);have sp:spI C name [.ref (hh.objs.size+1),v] (upd H1 (hh.objs.size+1) (xoK C hh.objs.size (hh.objs.size+1) none)) (fun v' H2=>v' = .non∧∃dx od,upd H1 (hh.objs.size+1) (xoK C hh.objs.size (hh.objs.size+1) none) dx=none∧dx≠hh.objs.size+1∧H2=upd (upd (upd H1 (hh.objs.size+1) (xoK C hh.objs.size (hh.objs.size+1) none)) dx (.frz od (.xd [(name,v)]))) (hh.objs.size+1) (xoK C hh.objs.size (hh.objs.size+1) (some dx))) (fun _ _ _=>False) :=
   ⟨_,_,v,rfl,QaC,fun dx od n1 n2=>⟨rfl,dx,od,n1,n2,rfl⟩⟩
  have hl:=Fn.len _ _ _ _ sp;have bi:=hb { heap:=Qgz hh C [u],gens:=gg,drawn:=dr,toks:=tk,os:=os } [.ref (hh.objs.size+1),u] I2.kIn hl;rw [zC] at bi;refine zM (codeAny_mono (Fn.run _ X.stack _ _ ⟨[.ref (hh.objs.size+1),u],[]⟩ [.ref (hh.objs.size+1),u] [.ref (hh.objs.size+1),v] _ _ (hr.make C [u] []) (I2.env0.make C [u] []) bi (.cons rfl (.cons ru .nil)) sp) fun res s2 hq=>?_)
  cases res with
  | error e=>exact False.elim hq
  | ok fl =>
   cases fl with
   | ret u' =>
    obtain ⟨v',H2,I3,rv',rfl,dx,od,n1,n2,rfl⟩:=I2.after hq;refine ⟨rv',?_⟩;have hx:=QnI (I3.hok (hh.objs.size+1) _ QaC)
    have e1:H1 dx=none:=by rw [Qaj n2] at n1; exact n1
    have I4:Inv X pins σ (upd H1 dx (.frz od (.xd [(name,v)]))) s2:=I3.dropH (ea:=hh.objs.size+1) QaC (fun b hb=>by
     rw [Qaj hb];unfold upd
     rw [if_neg hb]) (by rw [Qaj n2.symm]; exact hfr)
    refine ⟨_,_,_,rfl,I3.kIn _ _ lk,hx,?_⟩;have fN:F1 dx=none:=r1.frF e1;have g2:Gr H1 F1 as1 (upd H1 dx (.frz od (.xd [(name,v)]))) (upd F1 dx (.frz od (.xd [(name,v)]))) as1:=(Gr.lay e1).frz e1 fN;have r2:RlO X.K X.mg O' (upd H1 dx (.frz od (.xd [(name,v)]))) (upd F1 dx (.frz od (.xd [(name,v)]))) as1:=(r1.lay e1).frz QaC fN (fun z=>r1.all z e1) rfl;have wx:=k0 (some dx) _ _ as1 (g1.trans g2).toS r2 (.inr ⟨dx,od,[(name,v)],rfl,QaC,rfl,Rps.cons (Rp.gr hv g2) Rps.nil⟩);refine wx.1 pins σ s2 (hh.objs.size+1) C hC I4 ⟨_,_,_,hx,rfl,rfl,rfl,rfl,rfl,by rw [Qaj n2.symm]; exact hfr,Heap.get?_none_of_le (zu I1.sz (Nat.le_succ _))⟩
   | next=>exact False.elim hq
   | brk=>exact False.elim hq
   | cont=>exact False.elim hq
end
end L2
namespace L2
open PySem PySem.Spec PyProof.Rows PySem.W
def Cx.inH (X:Cx) (ea:Addr):Cx:={ X with A:=X.A.mark (some (.ref ea)),calm:=false,xe:=fun _ _=>False }
def xcO (oe:Obj):HO:=.frz oe (.ext fun _=>True)
section
variable {X:Cx}{md:List Md}{P:Pt}{R:RR}{pins:List (Addr×Obj)}{σ:St}{H:Hp}{s:Shared}{ea:Addr}{oe:Obj}
theorem Inv.inH (I:Inv X pins σ H s) (ea:Addr):Inv (X.inH ea) pins σ H s:=by
 have ok:=I.ok;exact ⟨⟨ok.mod,ok.kind,ok.glob,ok.blt,ok.above,ok.inj,ok.has,ok.cab,(fun z=>(nomatch z)),ok.frames,ok.stk,ok.exf,ok.bs,ok.bsz,ok.noex,ok.exfs,ok.funs,ok.frf⟩,I.os,I.bare,I.base,I.loc,I.cell,I.free,I.freeC,I.pin,I.hok,I.len⟩
theorem Inv.outH (ok:X.Ok) (I:Inv (X.inH ea) pins σ H s):Inv X pins σ H s:=⟨ok,I.os,I.bare,I.base,I.loc,I.cell,I.free,I.freeC,I.pin,I.hok,I.len⟩
theorem Inv.trackX {ws:Array Value} (I:Inv X pins σ H s) (he:s.heap.get? ea=some oe) (hd:oe.data = .fields ws) (hn:H ea=none) (h0:X.s₀.heap.get? ea=none) (hl:ea≠X.env.locals) (hp:∀p∈X.pn++pins,p.1≠ea):Inv X pins σ (upd H ea (xcO oe)) s:=by
 have ne:∀b o,H b=some o→upd H ea (xcO oe) b=some o:=fun b o q=>by
  rw [Qaj (Qau q hn)];exact q
 refine ⟨I.ok,I.os,I.bare,⟨I.base.keep,I.base.slot,fun b o q n hx=>?_,I.base.there,fun b xs q=>ne b _ (I.base.tups b xs q),fun b o u q=>ne b _ (I.base.frzs b o u q),fun b ps q=>?_⟩,I.loc,I.cell,?_,fun x c q=>?_,fun p hp'=>?_,fun b o q=>?_,I.len⟩
 ·rw [Qaj (fun z=>by rw [z,h0] at q; cases q)];exact I.base.free b o q n hx
 ·obtain ⟨more,q'⟩:=I.base.tbls b ps q;exact ⟨more,ne b _ q'⟩
 ·rw [Qaj hl.symm];exact I.free
 ·rw [Qaj (fun z=>?_)]
  ·exact I.freeC x c q
  ·obtain ⟨v,o,ho,hc⟩:=I.cell x c q;rw [z,he] at ho;cases ho;rw [hd] at hc;cases hc
 ·obtain ⟨e,n,nl,nf,d⟩:=I.pin p hp';exact ⟨e,by rw [Qaj (hp p hp')]; exact n,nl,nf,d⟩
 ·by_cases z:b=ea
  ·subst z;rw [QaC] at q;cases q;exact ⟨he,True.intro,⟨_,he⟩,fun _ _ _ _=>True.intro⟩
  ·rw [Qaj z] at q
   exact (I.hok b o q).stay (fun _ _ _ e=>e) (fun b' q'=>ne b' _ q') fun b' xs q'=>ne b' _ q'
def D3F (D:Ends) (i:Nat):Ends:={ nx:=fun σ' H'=>D.nx (σ'.set i none) H',rt:=D.rt }
def HsF (X:Cx) (D:Ends) (σ:St) (H:Hp) (ea C:Addr) (dxo:Option Addr):List ExceptHandler→Prop
 | .ExceptHandler (some (.Name T p)) (some n) (b₀::suite) pos::rest=>∃A,X.mg T=some (.ref A)∧Gl X T∧(T == ("__debug__":Str))=false ∧
   ((exmOne X.K (.ref C) (.ref A)=some false∧HsF X D σ H ea C dxo rest)∨(exmOne X.K (.ref C) (.ref A)=some true∧∃i,X.N[i]? = some n∧X.env.kindOf n=some .local ∧
    ∀oe:Obj,oe.cls = .ref C→oe.dict=dxo→(∃ws,oe.data = .fields ws)→∃t,PSs (X.inH ea) (b₀::suite) t∧t (D3F D i) (σ.set i (some (.ref ea))) (upd H ea (xcO oe))))
 | _=>False
theorem QrV {D:Ends}{B:Heap}{C:Addr}{a0:Value}{dxo:Option Addr} (hst:X.stack=X.env::X.outer) (hfr:X.env.frame=some X.env.locals) (hN:X.N.Nodup) (hn:H ea=none) (h0:X.s₀.heap.get? ea=none) (hp:∀p∈X.pn++pins,p.1≠ea)
  (inv:∀h2:Heap,B.StaysIn h2→s.heap.UpToSlots h2→Inv X pins σ H { s with heap:=h2 }) (fl:Heap.FlyingW B (X.env::X.outer) ea (.ref C) a0 s.heap) (hdi:∃oe,s.heap.get? ea=some oe∧oe.dict=dxo) :
  ∀{hs:List ExceptHandler},HsF X D σ H ea C dxo hs→wpAny (model X.prog X.w) X.A (handleBy (.ref ea) X.env hs) (SP X pins D) X.xe s:=by
 have apart:∀(h2:Heap) (oe:Obj) (ws:Array Value),h2.FunFrames B (X.env::X.outer)→h2.get? ea=some oe→oe.data = .fields ws→ea≠X.env.locals:=fun h2 oe ws ff he hd z=>by
  have hb:X.env.locals∈(X.env::X.outer).filterMap (·.frame):=by
   rw [List.filterMap_cons,hfr];exact zx
  obtain ⟨_,o,ho,nf⟩:=ff.mem hb;rw [←z,he] at ho;cases ho;exact nf ws hd
 have I2:Inv X pins σ H s:=inv s.heap fl.1 (Heap.UpToSlots.refl _)
 obtain ⟨oe,ws,hoe,hoec,hoed,_⟩:=fl.first
 intro hs
 induction hs with
 | nil=>exact fun h=>False.elim h
 | cons hd rest ih =>
  intro h;unfold HsF at h;split at h
  ·rename_i T p n b₀ suite pos rest' eq;cases eq;obtain ⟨A,hT,hgT,hTd,h⟩:=h;refine wpAny_handleBy_cons (codeAny_handlers_test ?_) (by intro q; cases q);refine Qd3 (X:=X.inH ea) (I2.inH ea) hgT hT ?_ hTd
   rcases h with ⟨hex,h⟩ | ⟨hex,i,hi,hlo,k⟩
   ·refine (exm_one I2.kIn (hoec ▸ (Looks.ld hoe).andThen .now) hex).at ?_;exact ih h
   ·refine (exm_one I2.kIn (hoec ▸ (Looks.ld hoe).andThen .now) hex).at ?_;refine codeAny_handlers_suite_as ?_
    refine zm (Qfp (Qfu _ _) (lands_againW (Q:=fun _ s2=>∃h3,s2 = { s with heap:=h3 }∧Heap.FlyingW B (X.env::X.outer) ea (.ref C) a0 h3∧s.heap.UpToSlots h3) fl fun h3 fl3 up3=>⟨h3,rfl,fl3,up3⟩)) (fun _ s2 z=>?_) fun _ _ z=>z.1
    obtain ⟨⟨h3,rfl,fl3,up3⟩,dk⟩:=z;have I3:=inv h3 fl3.1 up3
    obtain ⟨oe3,ws3,hoe3,hoec3,hoed3,_⟩:=fl3.first
    obtain ⟨oeD,hoeD,hdi⟩:=hdi;obtain ⟨oe4,hoe4,hd4⟩:=dk ea oeD hoeD;have e4:oe4=oe3:=zK (hoe4.symm.trans hoe3);subst e4;have nl3:=apart h3 oe4 ws3 fl3.2.2.1 hoe3 hoed3;have I3x:=(I3.trackX hoe3 hoed3 hn h0 nl3 hp).inH ea;obtain ⟨t,hs,ht⟩:=k oe4 hoec3 (hd4.trans hdi) ⟨ws3,hoed3⟩;refine Qit (X:=X.inH ea) (v:=.ref ea) I3x hN hi (.inl hlo) rfl (fun s4 I4=>?_) (.inr hlo);refine zm (hs pins s4 _ _ (D3F D i) I4 ht) (fun f s5 sp=>?_) (fun _ _ z=>z.elim)
    cases f with
    | next =>
     obtain ⟨σ5,H5,I5,q5⟩:=sp;have J:=I5.outH I2.ok;obtain ⟨m,hm,hl⟩:=J.loc
     refine wpAny_nameGoes_keeps hlo hm (by rw [I2.ok.kind]; rfl) fun h6 v hm6 hs6=>?_
     exact ⟨_,H5,J.goneI hN hi hl hm6 hs6,q5⟩
    | ret u =>
     obtain ⟨v,σ5,H5,I5,r5,q5⟩:=sp;have J:=I5.outH I2.ok;obtain ⟨m,hm,_⟩:=J.loc
     refine wpAny_nameGoes hlo hm (by rw [I2.ok.kind]; rfl) fun h6 m6 hm6 hs6=>?_
     exact ⟨v,_,H5,J.gone hm6 hs6,r5,q5⟩
    | brk=>obtain ⟨_,_,_,q⟩:=sp; exact q.elim
    | cont=>obtain ⟨_,_,_,q⟩:=sp; exact q.elim
  ·exact False.elim h
theorem Qtq {E:XK}{e:Value}{s':Shared}{D:Ends}{hs:List ExceptHandler} (I:Inv X pins σ H s) (hx:CXF X.prog X.w X.stack H s E e s') (hst:X.stack=X.env::X.outer) (hfr:X.env.frame=some X.env.locals) (hN:X.N.Nodup) (hex:X.ex = [])
  (k:∀(ea C:Addr) (dxo:Option Addr) (H':Hp),E (.ref C) dxo H'→H' ea=none→HsF X D σ H' ea C dxo hs) :
  wpAny (model X.prog X.w) X.A (noteFrame e X.env) (fun _ s₂=>wpAny (model X.prog X.w) X.A (setFlight e none) (fun _ s₃=>wpAny (model X.prog X.w) X.A (handleBy e X.env hs) (SP X pins D) X.xe s₃) X.xe s₂) X.xe s':=by
 obtain ⟨ea,C,H',B,a0,dxo,rfl,hos,hbare,un,hok,fl,trk,old,⟨oe,hoe,hdi⟩,hE⟩:=hx;have fl':=fl;rw [hst] at fl';have frames:=I.ok.frames;rw [hst] at frames
 have hn:H' ea=none:=by
  cases q:H' ea with
  | none=>rfl
  | some u =>
   obtain ⟨o,z⟩:=trk ea u q;rw [fl.2.1] at z;cases z
 have nfr:ea∉frs X.stack:=fun z=>by
  obtain ⟨oe2,ws,he2,_,hd,_⟩:=fl.first
  obtain ⟨_,o,ho,nf⟩:=fl.2.2.1.mem z;rw [he2] at ho;cases ho;exact nf ws hd
 have hold:s.heap.get? ea=none:=by
  cases q:s.heap.get? ea with
  | none=>rfl
  | some o =>
   obtain ⟨o',z⟩:=old ea o q nfr;rw [fl.2.1] at z;cases z
 have h0:X.s₀.heap.get? ea=none:=by
  cases q:X.s₀.heap.get? ea with
  | none=>rfl
  | some o =>
   obtain ⟨o',z⟩:=I.base.there ea o q (by rw [hex]; exact fun z=>nomatch z);rw [hold] at z;cases z
 have hp:∀p∈X.pn++pins,p.1≠ea:=fun p hp z=>by
  have q:=(I.pin p hp).1;rw [z,hold] at q;cases q
 have inv:∀h2:Heap,B.StaysIn h2→s'.heap.UpToSlots h2→Inv X pins σ H' { s' with heap:=h2 }:=fun h2 hb up=>I.call' (s':={ s' with heap:=h2 }) (ch:=[]) hos (Qo3 un fl.1 fl.2.2.1 old hb up) (QoT hok trk fl.1 hb) hbare fun _ z=>nomatch z
 refine zm (Qfp (Qml _ _) (wpAny_looks_onW (Q:=fun _ s2=>∃h1,s2 = { s' with heap:=h1 }∧Heap.HeldW B (X.env::X.outer) ea (.ref C) a0 X.env.locals h1∧s'.heap.UpToSlots h1) frames hfr fl' fun h1 held up1=>⟨h1,rfl,held,up1⟩)) (fun _ s2 z=>?_) fun _ _ z=>z.1
 obtain ⟨⟨h1,rfl,held,up1⟩,dk1⟩:=z
 refine zm (Qfp (Qfu _ _) (wpAny_landsW (s:={ s' with heap:=h1 }) (Q:=fun _ s2=>∃h2,s2 = { s' with heap:=h2 }∧Heap.FlyingW B (X.env::X.outer) ea (.ref C) a0 h2∧h1.UpToSlots h2) held fun h2 fl2 up2=>⟨h2,rfl,fl2,up2⟩)) (fun _ s3 z=>?_) fun _ _ z=>z.1
 obtain ⟨⟨h2,rfl,fl2,up2⟩,dk2⟩:=z;obtain ⟨oe1,e1,d1⟩:=dk1 ea oe hoe;obtain ⟨oe2,e2,d2⟩:=dk2 ea oe1 e1;exact QrV (s:={ s' with heap:=h2 }) hst hfr hN hn h0 hp (fun h3 hb up=>inv h3 hb ((up1.trans up2).trans up)) fl2 ⟨oe2,e2,(d2.trans d1).trans hdi⟩ (k ea C dxo H' hE hn)
end
end L2
namespace L2
open PySem PySem.Spec PyProof.Rows PySem.W PySem.Calls PySem.Builtin PySem.Builtin.ObjectAttr
section
variable {X:Cx}{md:List Md}{P:Pt}{R:RR}
theorem QrH {k:Nat}{f:Addr}{fd:FuncData}{ps:List Str}{sp:Sp}{E:XK}{W:Value→Shared→Prop}{pins:List (Addr×Obj)}{σ:St}{H:Hp}{s:Shared}{Q:VK}{us:List Value}{vs:List V} (F:Qbo X.prog X.w X.K X.mg X.base (CXF X.prog X.w) k f fd ps sp) (hr:QaK k X.A) (hb:Binds X.K fd ps [])
  (I:Inv X pins σ H s) (r:QaA vs us) (h:sp vs H Q E) (hx:∀e s',CXF X.prog X.w X.stack H s E e s'→W e s'):wpAny (model X.prog X.w) X.A (call (.ref f) us) (EP X pins σ Q) W s:=by
 have hl:us.length=ps.length:=by rw [←r.length]; exact F.len _ _ _ _ h
 have bi:=hb s us I.kIn (by rw [zC]; exact hl);rw [zC] at bi;refine zM (codeAny_mono (F.run X.A X.stack s H ⟨us,[]⟩ us vs Q E hr I.env0 bi r h) fun res s' hq=>?_)
 cases res with
 | error e=>exact hx e s' hq
 | ok fl =>
  cases fl with
  | ret u=>exact I.after hq
  | next=>exact False.elim hq
  | brk=>exact False.elim hq
  | cont=>exact False.elim hq
def VEH (X:Cx) (md:List Md) (P:Pt) (R:RR) (e:Expr) (m:M D):Prop:=∀(pins:List (Addr×Obj)) (s:Shared) (σ:St) (H:Hp) (ρ:Qak) (O:Qac) (F:Hp) (as:List Addr) (Q:VK) (W:Value→Shared→Prop),Inv X pins σ H s→RlO X.K X.mg O H F as→SlO X.K md P ρ σ H F as →
 Qt3 X.K X.mg R (fun x dxo H'=>∀(H0:Hp) (s0:Shared) (e:Value) (s':Shared),Inv X pins σ H0 s0→CXF X.prog X.w X.stack H0 s0 (fun cv d H''=>∃C,cv = .ref C∧X.mg x.cls=some (.ref C)∧d=dxo∧H''=H') e s'→W e s') H F as Q (m ρ O)→wpAny (model X.prog X.w) X.A (eval e X.env) (EP X pins σ Q) W s
def exJ (X:Cx) (pins:List (Addr×Obj)) (σ:St) (W:Value→Shared→Prop):XK:=fun cv d H'=>∃(x:Xc) (C:Addr),cv = .ref C∧X.mg x.cls=some (.ref C)∧∀(H0:Hp) (s0:Shared) (e:Value) (s':Shared),Inv X pins σ H0 s0→CXF X.prog X.w X.stack H0 s0 (fun cv d' H''=>∃C,cv = .ref C∧X.mg x.cls=some (.ref C)∧d'=d∧H''=H') e s'→W e s'
theorem QtJ {pins:List (Addr×Obj)}{σ:St}{W:Value→Shared→Prop}{H:Hp}{s:Shared} (I:Inv X pins σ H s) (e:Value) (s':Shared) (hx:CXF X.prog X.w X.stack H s (exJ X pins σ W) e s'):W e s':=by
 obtain ⟨ea,C,H',B,a0,dxo,rfl,x1,x2,x3,x4,x5,x6,x7,x8,x,C',e1,hC,hw⟩:=hx;cases e1;exact hw H s (.ref ea) s' I ⟨ea,C,H',B,a0,dxo,rfl,x1,x2,x3,x4,x5,x6,x7,x8,C,rfl,hC,rfl,rfl⟩
theorem Qqu {f:Str}{ps:List Str}{k:Nat}{a:Expr}{as:List Expr}{pm:List Md}{c:List D→Qac→Res D}{ma:M (List D)}{p1 p2:Pos} (hR:Qb8 R)
  (Cn:QgR X.prog X.w X.K X.mg X.base f ps k (QcS X.K X.mg pm R c)) (hr:QaK k X.A) (ha:∀E,AE (X.wish E) md P pm (a::as) ma) (hg:Gl X f:=by rfl) (hfd:(f == ("__debug__":Str))=false:=by decide)
  (hs:starEach (a::as) X.env=(false,eval a X.env)::starEach as X.env:=by exact Qa3 rfl) (hpl:(backTo p2 (starEach as X.env)).any (·.1)=false:=by exact Qa5 rfl):VEH X md P R (.Call (.Name f p1) (a::as) [] p2) (Qcs c ma):=by
 intro pins s σ H ρ O F as' Q W I r sl kk;obtain ⟨fa,fd,hm,hk,hb,Fn,_⟩:=Cn;unfold Qcs at kk
 cases em:ma ρ O with
 | ex x O'=>rw [em] at kk; exact False.elim kk
 | no=>rw [em] at kk; exact False.elim kk
 | ok ds O1 =>
  rw [em] at kk;dsimp only at kk;refine wpAny_Call_Name_kw (Qd3 I hg hm ?_ hfd);refine PySem.W.callWith_K (h₀:=X.base) I.ok.mod.kin hk (thn (ha W p2 pins s σ H (fun vs H1=>∃F1 as1,Gr H F as' H1 F1 as1∧RlO X.K X.mg O1 H1 F1 as1∧Qby X.K H1 F1 as1 pm vs ds) (I.wish W) ⟨ρ,O,F,as',ds,O1,r,sl,em,fun vs H1 F1 as1 g1 r1 h1=>⟨F1,as1,g1,r1,h1⟩⟩) fun us s1 z=>?_) hs hpl;obtain ⟨vs,H1,J1,rv,F1,as1,g1,r1,h1⟩:=z;have J:=J1.unwish;refine ⟨J.kIn,QrH (E:=exJ X pins σ W) Fn hr hb J rv ⟨ds,O1,F1,as1,r1,h1,?_⟩ (QtJ J)⟩
  cases ec:c ds O1 with
  | ok d O2 =>
   rw [ec] at kk
   exact fun v H2 F2 as2 g2 r2 h=>kk v H2 F2 as2 (g1.trans g2) r2 (hR _ _ _ _ _ _ _ (fun a z=>g1.dm a z) h)
  | ex x O2 =>
   rw [ec] at kk
   exact fun C dxo H2 F2 as2 hC g2 r2 hx=>⟨x,C,rfl,hC,kk dxo H2 F2 as2 (g1.trans g2) r2 hx⟩
  | no=>rw [ec] at kk; exact False.elim kk
def EXM (K:Frag) (mg:Str→Option Value) (T c:Str) (b:Bool):Prop:=∃C A,mg c=some (.ref C)∧mg T=some (.ref A)∧exmOne K (.ref C) (.ref A)=some b
abbrev HM:=List Str×List Str×Nat×MS
def Qfn:List HM→Xc→MS
 | [],_=>fun _ _=>.no
 | (ys,ns,i,hb)::rest,x=>fun ρ O=>if ys.contains x.cls=true then (match hb (ρ.set i (some (.ob O.length))) (O ++ [.xc x.cls x.fs]) with
   | .nx ρ' O2=>.nx (ρ'.set i none) O2
   | .rt d O2=>.rt d O2
   | _=>.no) else if ns.contains x.cls=true then Qfn rest x ρ O else .no
def Qhj (m:M D) (hs:List HM):MS:=fun ρ O=>match m ρ O with
 | .ok _ O1=>.nx ρ O1
 | .ex x O1=>Qfn hs x ρ O1
 | .no=>.no
def VHs (X:Cx) (md:List Md) (P:Pt) (R:RR):List ExceptHandler→List HM→Prop
 | _,[]=>True
 | .ExceptHandler (some (.Name T p)) (some n) (b₀::suite) pos::rest,(ys,ns,i,hb)::rest'=>(∀c∈ys,EXM X.K X.mg T c true)∧(∀c∈ns,EXM X.K X.mg T c false)∧Gl X T∧(T == ("__debug__":Str))=false∧X.N[i]? = some n∧X.env.kindOf n=some .local∧md[i]? = some .v ∧
   (∀ea,VSs (X.inH ea) md P R (b₀::suite) hb)∧VHs X md P R rest rest'
 | _,_=>False
theorem Qum {hs:List ExceptHandler}:VHs X md P R hs []:=by
 cases hs <;> simp [VHs]
theorem Qrg {T n:Str}{p pos:Pos}{b₀:Stmt}{suite:List Stmt}{rest:List ExceptHandler}{ys ns:List Str}{i:Nat}{hb:MS}{rest':List HM} (h1:∀c∈ys,EXM X.K X.mg T c true) (h2:∀c∈ns,EXM X.K X.mg T c false)
  (hs:∀ea,VSs (X.inH ea) md P R (b₀::suite) hb) (hr:VHs X md P R rest rest') (hg:Gl X T:=by rfl) (hd:(T == ("__debug__":Str))=false:=by decide) (hi:X.N[i]? = some n:=by rfl) (hl:X.env.kindOf n=some .local:=by rfl) (hm:md[i]? = some .v:=by rfl) :
  VHs X md P R (.ExceptHandler (some (.Name T p)) (some n) (b₀::suite) pos::rest) ((ys,ns,i,hb)::rest'):=⟨h1,h2,hg,hd,hi,hl,hm,hs,hr⟩
theorem RlO.xc {K:Frag}{mg:Str→Option Value}{O:Qac}{H F:Hp}{as:List Addr}{ea C:Addr}{oe:Obj}{c:Str}{fs:List (Str×D)} (r:RlO K mg O H F as) (hn:H ea=none) (hC:mg c=some (.ref C)) (hc:oe.cls = .ref C) (hd:∃ws,oe.data = .fields ws) (hx:XF K F as oe.dict fs) :
  RlO K mg (O ++ [.xc c fs]) (upd H ea (xcO oe)) F (as ++ [ea])∧Gr H F as (upd H ea (xcO oe)) F (as ++ [ea]):=by
 have at_:∀(n:Nat) (a:Addr),as[n]? = some a→(as ++ [ea])[n]? = some a:=fun n a h=>by
  rw [zB (zn.mp h).1]; exact h
 have g0:Gr H F as (upd H ea (xcO oe)) F as:=Gr.lay hn;have rB:RlO K mg O (upd H ea (xcO oe)) F as:=r.lay hn;refine ⟨⟨rB.fh,rB.fd,?_,by simp [r.len],fun a ha=>?_,fun n a o ha ho=>?_⟩,⟨g0.fz,g0.ff,⟨[ea],rfl,fun a ha=>by rw [zz.mp ha]; exact hn⟩,fun a o e ha hd=>g0.fr a o e ha hd,g0.dm,g0.kz⟩⟩
 ·rw [List.nodup_append];refine ⟨r.nd,by simp,fun a ha b hb=>?_⟩;rw [zz.mp hb];intro z;subst z;exact r.all ha hn
 ·rcases zy.mp ha with z | z
  ·exact r.fa a z
  ·rw [zz.mp z];exact r.frF hn
 ·by_cases hn':n < O.length
  ·rw [zB (by rw [r.len]; exact hn')] at ha;rw [zB hn'] at ho;exact (rB.ob n a o ha ho).keep rfl (Same.refl _) at_
  ·have hn2:n=O.length:=by
    have:=(zn.mp ho).1
    simp at this
    omega
   subst hn2;rw [zD (zc _),Nat.sub_self] at ho;rw [←r.len,zD (zc _),Nat.sub_self] at ha;cases ho;cases ha;exact ⟨C,oe,_,hC,QaC,hc,hd,hx.mono (Same.refl _) at_⟩
theorem Qri {D:Ends}{pins:List (Addr×Obj)}{σ:St}{ρ:Qak}{O:Qac}{H F:Hp}{as:List Addr}{x:Xc}{ea C:Addr}{dxo:Option Addr} (r:RlO X.K X.mg O H F as) (sl:SlO X.K md P ρ σ H F as) (hC:X.mg x.cls=some (.ref C)) (hn:H ea=none) (hx:XF X.K F as dxo x.fs) :
  ∀{hs:List ExceptHandler}{hm:List HM},VHs X md P R hs hm→QeE X.K X.mg md P R D H F as (Qfn hm x ρ O)→HsF X D σ H ea C dxo hs:=by
 intro hs
 induction hs with
 | nil =>
  intro hm h k
  cases hm with
  | nil=>exact False.elim k
  | cons a b=>exact False.elim h
 | cons hd rest ih =>
  intro hm h k
  cases hm with
  | nil=>exact False.elim k
  | cons a b =>
   unfold VHs at h;split at h
   ·rename_i q; cases q
   ·rename_i T p n b₀ suite pos rest1 ys ns i hb rest' eq1 eq2;cases eq1;cases eq2;obtain ⟨h1,h2,hg,hdb,hi,hl,hmi,hsu,hre⟩:=h;unfold Qfn at k;split at k
    ·rename_i hy;obtain ⟨C',A,e1,e2,e3⟩:=h1 x.cls (List.contains_iff_mem.mp hy);rw [hC] at e1;cases e1;refine ⟨A,e2,hg,hdb,.inr ⟨e3,i,hi,hl,fun oe hoc hod hda=>⟨_,hsu ea,?_⟩⟩⟩;obtain ⟨r2,g2⟩:=r.xc (oe:=oe) hn hC hoc hda (hod ▸ hx);refine ⟨ρ.set i (some (.ob O.length)),_,F,as ++ [ea],r2,(sl.step g2).setV hmi (Rp.mkO (by rw [←r.len,zD (zc _),Nat.sub_self]; rfl)),?_⟩
     cases eb:hb (ρ.set i (some (.ob O.length))) (O ++ [.xc x.cls x.fs]) with
     | nx ρ' O2 =>
      rw [eb] at k
      exact fun σ' H' F' as' g' r' s'=>k _ H' F' as' (g2.toS.trans g') r' (s'.drop (x:=none) hmi)
     | rt d O2 =>
      rw [eb] at k
      exact fun v H' F' as' g' r' s'=>k v H' F' as' (g2.toS.trans g') r' s'
     | bk _ _=>rw [eb] at k; exact False.elim k
     | ct _ _=>rw [eb] at k; exact False.elim k
     | ex _ _=>rw [eb] at k; exact False.elim k
     | no=>rw [eb] at k; exact False.elim k
    ·split at k
     ·rename_i _ hy;obtain ⟨C',A,e1,e2,e3⟩:=h2 x.cls (List.contains_iff_mem.mp hy);rw [hC] at e1;cases e1;exact ⟨A,e2,hg,hdb,.inl ⟨e3,ih hre k⟩⟩
     ·exact False.elim k
   ·exact False.elim h
theorem Qsf {e:Expr}{m:M D}{R':RR}{h0:ExceptHandler}{hs:List ExceptHandler}{hm:List HM}{p3 p6:Pos} (he:VEH X md P R' e m) (hh:VHs X md P R (h0::hs) hm) (hN:X.N.Nodup) (hst:X.stack=X.env::X.outer:=by rfl) (hfr:X.env.frame=some X.env.locals:=by rfl) (hex:X.ex = []:=by rfl)
  (hsw:swapsWith e none p3.line X.env=pure false:=by rfl):VS X md P R (.Try [.Expr e p3] (h0::hs) [] [] p6) (Qhj m hm):=by
 intro pins s σ H D I q;obtain ⟨ρ,O,F,as,r,sl,kk⟩:=q;refine wpAny_Try_except ?_
 have ev:=he pins s σ H ρ O F as (fun _ H2=>D.nx σ H2) (fun e s1=>wpAny (model X.prog X.w) X.A (noteFrame e X.env) (fun _ s₂=>wpAny (model X.prog X.w) X.A (setFlight e none) (fun _ s₃=>wpAny (model X.prog X.w) X.A (handleBy e X.env (h0::hs)) (SP X pins D) X.xe s₃) X.xe s₂) X.xe s1) I r sl (by
  unfold Qhj at kk
  cases em:m ρ O with
  | ok d O1 =>
   rw [em] at kk
   exact fun v H' F' as' g r' _=>kk σ H' F' as' g.toS r' (sl.step g)
  | ex x O1 =>
   rw [em] at kk;intro dxo H' F' as' g r' hx H0 s0 e s' I0 hz
   refine Qtq I0 hz hst hfr hN hex fun ea C d H2 hE hn=>?_
   obtain ⟨C',z1,z2,rfl,rfl⟩:=hE;cases z1;exact Qri (pins:=pins) r' (sl.step g) z2 hn hx hh (QcQ (R:=R) g.toS kk)
  | no=>rw [em] at kk; exact False.elim kk)
 refine wpAny_execs_cons (thn (wpAny_Expr_any (Q:=fun fl s1=>fl = .next∧∃H2,Inv X pins σ H2 s1∧D.nx σ H2) (thn ev fun v s1 z=>?_) I.quiet hsw) fun fl s1 z=>?_)
 ·obtain ⟨_,H2,I2,_,q2⟩:=z;exact ⟨rfl,H2,I2,q2⟩
 ·obtain ⟨rfl,H2,I2,q2⟩:=z;exact wpAny_execs_nil (wpAny_execs_nil ⟨σ,H2,I2,q2⟩)
end
section
variable {prog:Program}{w:World}{A:Around}{E:Value→Shared→Prop}{K:Frag}{a C:Addr}{o od:Obj}{h:Heap}{g:Array GenState}{d:Drawn}{t:Nat}{os:OsState}{name:Str}{v:Value}
theorem Qsj {tk:Tok}{Q:Fin→Shared→Prop} (X:K.In h) (I:InstAt h a o C (some od)) (hf:findObj K C (some od) name=some (.value v)) (hq:Q (.done (.ret v)) ⟨h,g,d,t,os⟩) :
  wpAny (model prog w) A (Builtin.«object.__getattribute__» ⟨[.ref a,.str name tk],[]⟩) Q E ⟨h,g,d,t,os⟩:=by
 have L0:=I.type (M:=model prog w);have L1:=looks_find (M:=model prog w) X I hf;unfold Builtin.«object.__getattribute__»;refine za (zT (a:=(Value.ref a,[Value.str name tk])) rfl ?_);dsimp only;refine za (zb ?_);refine za (L0.at ?_);refine za (L1.at ?_);exact zb hq
theorem QsE {expr:Bool}{Q:Value→Shared→Prop} (F0:QeP K C) (X:K.In h) (I:InstAt h a o C (some od)) (hh:hasDictIn K C=true) (hn:findIn K (.ref C) name=some none) (hl:lookIn name od=some (some v)) (hv:handedIn v=true) (hq:Q v ⟨h,g,d,t+1,os⟩) :
  wpAny (model prog w) A (getAttr (.ref a) name expr) Q E ⟨h,g,d,t,os⟩:=by
 have L0:=I.type (M:=model prog w);have L1:=looks_findIn (M:=model prog w) X F0.ga;have L2:=looks_findIn (M:=model prog w) X F0.na;have bnd:=PySem.F.attrBase_ValueError.ga.bind (.ref a)
 have hne:(onTheHeap (Value.ref C)&&Value.builtin "BaseException.__getattribute__" == Value.builtin "object.__getattribute__")=false:=by rw [show (Value.builtin "BaseException.__getattribute__" == Value.builtin "object.__getattribute__")=false by decide +kernel,Bool.and_false]
 have hf:=findObj_own (od:=od) (v:=v) hh hn rfl hl;unfold getAttr getAttrBy;refine za (wpAny_mkText (zH ?_));refine za (L0.at ?_);refine za (L1.at ?_);dsimp only;rw [if_neg (by rw [hne]; exact zf)];unfold getAttrByItsOwn;refine za ?_;unfold hookBefore;rw [if_pos (show onTheHeap (Value.ref C)=true from rfl)];refine L2.at ?_;refine za (wpAny_attempt (zH ?_));unfold callGetattribute;rw [if_neg (by cases expr <;> decide)];unfold boundAndCalled;refine za (zT bnd ?_);refine zM (codeAny_call_builtin PySem.F.attrBase_ValueError.ga.plain PySem.F.entry_bexc_ga (Qj8 F0 X I.at_ I.cls (Qsj X I hf ?_)));show wpAny (model prog w) A (handedOut v) _ _ _
 exact handed_on hv hq
end
section
variable {X:Cx}{md:List Md}{P:Pt}{R:RR}
theorem QjR:QgF X (.builtin "isinstance") (fun xs H Q=>∃(a C:Addr) (oe:Obj) (u:HO) (b:Bool),H a=some (.frz oe u)∧oe.cls = .ref C∧QeP X.K C∧Q (.bl b) H ∧
  ((∃v c,xs = [.ref a,v]∧QmR v=some c∧kitOne X.K (.ref C) c=some b)∨∃tp ys cs,xs = [.ref a,.ref tp]∧H tp=some (.tup ys)∧QhS ys=some cs∧kitAny X.K (.ref C) cs=some b)):=by
 intro pins s σ H xs us Q I r h;obtain ⟨ea,C,oe,u,b,he0,hc,F0,q,h⟩:=h;have he:s.heap.get? ea=some oe:=(I.hok ea _ he0).1
 have nb:Value.ref ea≠.builtin "__main__.__loader__#opaque":=fun z=>nomatch z
 rcases h with ⟨v,c,rfl,ev,ek⟩ | ⟨tp,ys,cs,rfl,et,ev,ek⟩
 ·obtain ⟨u1,u2,rfl,r1,r2⟩:=vals2 r;cases r1;rw [Qlm r2 ev]
  exact kia_one (Qlt F0) I.kIn ⟨oe,he,hc⟩ ek nb fun tk=>⟨.bl b,H,I.tok tk,rfl,q⟩
 ·obtain ⟨u1,u2,rfl,r1,r2⟩:=vals2 r;cases r1;cases r2;obtain ⟨_,its,rv,ot,ho,hcl,n,hda⟩:=I.hok tp _ et;have ei:=QjU rv ev;subst ei;obtain ⟨c0,d0,da0,sl0⟩:=ot;dsimp only at hcl hda;subst hcl hda
  exact kia_tup (Qlt F0) I.kIn ⟨oe,he,hc⟩ ho ek nb fun tk=>⟨.bl b,H,I.tok tk,rfl,q⟩
def QfY (tb:List (Str×Bool)) (mo:M D):M D:=fun ρ O=>(mo ρ O).bind fun d O1=>match d with
 | .ob n=>match O1[n]? with
  | some (.xc c _)=>match tb.lookup c with
   | some b=>.ok (.bl b) O1
   | none=>.no
  | _=>.no
 | _=>.no
theorem Qn1 {tb:List (Str×Bool)}{mo:M D}{ρ:Qak}{O O':Qac}{d:D} (e:QfY tb mo ρ O = .ok d O'):∃n c fs b,mo ρ O = .ok (.ob n) O'∧O'[n]? = some (.xc c fs)∧tb.lookup c=some b∧d = .bl b:=by
 obtain ⟨x,O1,e1,e⟩:=Res.bind_ok e
 cases x with
 | ob n =>
  dsimp only at e;split at e
  ·rename_i c fs eo;split at e
   ·rename_i b eb;cases e;exact ⟨n,c,fs,b,e1,eo,eb,rfl⟩
   ·cases e
  ·cases e
 | _=>cases e
def ISN (K:Frag) (mg:Str→Option Value) (T c:Str) (b:Bool):Prop:=∃C A,mg c=some (.ref C)∧QeP K C∧mg T=some (.ref A)∧kitOne K (.ref C) (.ref A)=some b
def ISV (K:Frag) (mg:Str→Option Value) (c:Str):Prop:=∃C,mg c=some (.ref C)∧QeP K C∧kitOne K (.ref C) (.type "ValueError")=some true
def QkV (K:Frag) (mg:Str→Option Value) (ns:List Str) (c:Str) (b:Bool):Prop:=∃C as,mg c=some (.ref C)∧QeP K C∧Qd6 mg ns as∧kitAny K (.ref C) (as.map Value.ref)=some b
theorem Qd6.det {mg:Str→Option Value}:∀{ns:List Str}{as bs:List Addr},Qd6 mg ns as→Qd6 mg ns bs→as=bs
 | [],as,bs,h,h'=>by
  have e:as = []:=h;have e':bs = []:=h';rw [e,e']
 | n::ns,as,bs,h,h'=>by
  obtain ⟨a,r,rfl,h1,h2⟩:=h;obtain ⟨b,r',rfl,h3,h4⟩:=h';rw [h1] at h3;cases h3;rw [h2.det h4]
theorem Qkb:∀{es:List Expr}{vs:List V},Qgn X es vs→PA X es (fun _ H Q=>Q vs H)
 | [],vs,h=>by
  have h':vs = []:=h;subst h';exact Qcp
 | e::es,vs,h=>by
  obtain ⟨v,r,rfl,h1,h2,h3⟩:=h;exact QbA (h1 X rfl rfl) (Qkb h3) h2
theorem Qn3 {o eT:Expr}{p pos:Pos}{v:V}{cv:Value}{mo:M D}{tb:List (Str×Bool)} (hm:X.mg "isinstance" = none) (ho:VE X md P o mo) (hT:PE X eT (tC v)) (hv:QmR v=some cv)
  (hE:∀c b,tb.lookup c=some b→∃C,X.mg c=some (.ref C)∧QeP X.K C∧kitOne X.K (.ref C) cv=some b) (hg:Gl X "isinstance":=by rfl)
  (hs1:starEach [o,eT] X.env=(false,eval o X.env)::starEach [eT] X.env:=by exact Qa3 rfl) (hs2:starEach [eT] X.env=(false,eval eT X.env)::starEach [] X.env:=by exact Qa3 rfl) (hpl:(backTo pos (starEach [eT] X.env)).any (·.1)=false:=by exact Qa5 rfl) :
  VE X md P (.Call (.Name "isinstance" p) [o,eT] [] pos) (QfY tb mo) :=
 (QgS QjR hg hm (by decide +kernel) (QbA ho (QbA hT Qcp hs2) hs1) (by decide) (by decide) hs1 hpl).imp fun σ H Q q=>by
  obtain ⟨ρ,O,F,as,d,O',r,s,e,k⟩:=q;obtain ⟨n,c,fs,b,e1,e2,e3,rfl⟩:=Qn1 e;refine ⟨ρ,O,F,as,.ob n,O',r,s,e1,fun v1 H1 F1 as1 g1 r1 hv1=>?_⟩;obtain ⟨a,rfl,ha⟩:=Rp.unO hv1;obtain ⟨C,oe,u,hC,hH,hoc,_,_⟩:=r1.ob n a _ ha e2;obtain ⟨C',hC',F0,kk⟩:=hE c b e3;rw [hC] at hC';cases hC';exact ⟨a,C,oe,u,b,hH,hoc,F0,k _ H1 F1 as1 g1 r1 Rp.bl,.inl ⟨v,cv,rfl,hv,kk⟩⟩
theorem Qtt {o:Expr}{T:Str}{p p1 pos:Pos}{mo:M D}{tb:List (Str×Bool)} (hm:X.mg "isinstance" = none) (hT:∃A,X.mg T=some (.ref A)) (ho:VE X md P o mo)
  (hE:∀c b,tb.lookup c=some b→ISN X.K X.mg T c b) (hg:Gl X "isinstance":=by rfl) (hgT:Gl X T:=by rfl) (hd:(T == ("__debug__":Str))=false:=by decide)
  (hs1:starEach [o,.Name T p1] X.env=(false,eval o X.env)::starEach [.Name T p1] X.env:=by exact Qa3 rfl) (hs2:starEach [.Name T p1] X.env=(false,eval (.Name T p1) X.env)::starEach [] X.env:=by exact Qa3 rfl) (hpl:(backTo pos (starEach [.Name T p1] X.env)).any (·.1)=false:=by exact Qa5 rfl) :
  VE X md P (.Call (.Name "isinstance" p) [o,.Name T p1] [] pos) (QfY tb mo):=by
 obtain ⟨A,hA⟩:=hT;refine Qn3 (v:=.ref A) (cv:=.ref A) hm ho (Qjc hgT hA rfl hd) rfl (fun c b e=>?_) hg hs1 hs2 hpl;obtain ⟨C,A',h1,h2,h3,h4⟩:=hE c b e;rw [hA] at h3;cases h3;exact ⟨C,h1,h2,h4⟩
theorem Qs7 {o:Expr}{p p1 pos:Pos}{mo:M D}{tb:List (Str×Bool)} (hm:X.mg "isinstance" = none) (hT:X.mg "ValueError" = none) (ho:VE X md P o mo)
  (hE:∀c b,tb.lookup c=some b→b=true∧ISV X.K X.mg c) (hg:Gl X "isinstance":=by rfl) (hgT:Gl X "ValueError":=by rfl)
  (hs1:starEach [o,.Name "ValueError" p1] X.env=(false,eval o X.env)::starEach [.Name "ValueError" p1] X.env:=by exact Qa3 rfl) (hs2:starEach [.Name "ValueError" p1] X.env=(false,eval (.Name "ValueError" p1) X.env)::starEach [] X.env:=by exact Qa3 rfl) (hpl:(backTo pos (starEach [.Name "ValueError" p1] X.env)).any (·.1)=false:=by exact Qa5 rfl) :
  VE X md P (.Call (.Name "isinstance" p) [o,.Name "ValueError" p1] [] pos) (QfY tb mo):=by
 refine Qn3 (v:=.ty "ValueError") (cv:=.type "ValueError") hm ho (Qme hgT hT (by decide +kernel) rfl) rfl (fun c b e=>?_) hg hs1 hs2 hpl;obtain ⟨rfl,C,h1,h2,h3⟩:=hE c b e;exact ⟨C,h1,h2,h3⟩
theorem Qt6 {o:Expr}{ns:List Str}{es:List Expr}{x1:Nat}{p p1 pos:Pos}{mo:M D}{tb:List (Str×Bool)} (hm:X.mg "isinstance" = none) (hT:∃as,Qd6 X.mg ns as) (hNV:∀as,Qd6 X.mg ns as→Qgn X es (as.map V.ref)) (ho:VE X md P o mo)
  (hE:∀c b,tb.lookup c=some b→QkV X.K X.mg ns c b) (hns:ns.length≤1000:=by decide) (hg:Gl X "isinstance":=by rfl)
  (hs1:starEach [o,.Tuple es x1 p1] X.env=(false,eval o X.env)::starEach [.Tuple es x1 p1] X.env:=by exact Qa3 rfl) (hs2:starEach [.Tuple es x1 p1] X.env=(false,eval (.Tuple es x1 p1) X.env)::starEach [] X.env:=by exact Qa3 rfl) (hpl:(backTo pos (starEach [.Tuple es x1 p1] X.env)).any (·.1)=false:=by exact Qa5 rfl) :
  VE X md P (.Call (.Name "isinstance" p) [o,.Tuple es x1 p1] [] pos) (QfY tb mo):=by
 obtain ⟨la,hla⟩:=hT
 refine (QgS QjR hg hm (by decide +kernel) (QbA ho (QbA (QoY (Qkb (hNV la hla))) Qcp hs2) hs1) (by decide) (by decide) hs1 hpl).imp fun σ H Q q=>?_
 obtain ⟨ρ,O,F,as,d,O',r,s,e,k⟩:=q;obtain ⟨n,c,fs,b,e1,e2,e3,rfl⟩:=Qn1 e;refine ⟨ρ,O,F,as,.ob n,O',r,s,e1,fun v1 H1 F1 as1 g1 r1 hv1=>?_⟩;obtain ⟨a,rfl,ha⟩:=Rp.unO hv1;obtain ⟨C,oe,u,hC,hH,hoc,_,_⟩:=r1.ob n a _ ha e2;obtain ⟨C',la',hC',F0,hla',kk⟩:=hE c b e3;rw [hC] at hC';cases hC';rw [hla'.det hla] at kk;have hsz:sizeLine=16777216:=sizeLine_eq;refine ⟨by rw [zA,hla.len]; omega,fun tp htp=>?_⟩;refine ⟨a,C,oe,u,b,by rw [Qaj (Qau hH htp)]; exact hH,hoc,F0,k _ _ F1 as1 (g1.trans (Gr.lay htp)) (r1.lay htp) Rp.bl,.inr ⟨tp,la.map V.ref,la.map Value.ref,rfl,QaC,Qi7 la,kk⟩⟩
def QiO (f:Str) (L:List Str) (mo:M D):M D:=fun ρ O=>(mo ρ O).bind fun d O1=>match d with
 | .ob n=>match O1[n]? with
  | some (.xc c fs)=>if L.contains c=true then (match fs.lookup f with
   | some d=>.ok d O1
   | none=>.no) else .no
  | _=>.no
 | _=>.no
def XFC (K:Frag) (mg:Str→Option Value) (f c:Str):Prop:=∃C,mg c=some (.ref C)∧QeP K C∧findIn K (.ref C) f=some none∧hasDictIn K C=true
theorem FsR.at {K:Frag}{F:Hp}{as:List Addr}{f:Str}{d:D}:∀{fs:List (Str×D)}{gs:List (Str×V)},FsR K F as gs fs→fs.lookup f=some d→∃v,gs.lookup f=some v∧Rp K F as v d
 | [],gs,h,e=>by cases e
 | (g,y)::fs,gs,h,e=>by
  obtain ⟨h1,h2⟩:=h
  cases gs with
  | nil=>cases h1
  | cons p gs =>
   obtain ⟨g',x⟩:=p;have hg:g'=g:=(List.cons.inj h1).1;subst hg;obtain ⟨x',r,ex,hx,hr⟩:=Rps.un h2;cases ex
   by_cases hf:(f == g')=true
   ·have e':some y=some d:=by
     simp only [List.lookup,hf] at e;exact e
    cases e';exact ⟨x,by simp only [List.lookup,hf],hx⟩
   ·have hf':(f == g')=false:=by simpa using hf
    have e':fs.lookup f=some d:=by
     simp only [List.lookup,hf'] at e;exact e
    obtain ⟨v,q1,q2⟩:=FsR.at (fs:=fs) (gs:=gs) ⟨(List.cons.inj h1).2,hr⟩ e';exact ⟨v,by simp only [List.lookup,hf']; exact q1,q2⟩
theorem Qmn {o:Expr}{f:Str}{pos:Pos}{L:List Str}{mo:M D} (ho:VE X md P o mo) (hL:∀c∈L,XFC X.K X.mg f c) (hb:attributeBase o f X.env (eval o X.env)=eval o X.env:=by rfl):VE X md P (.Attribute o f pos) (QiO f L mo):=by
 intro pins s σ H Q I q;obtain ⟨ρ,O,F,as,d,O',r,sl,e,k⟩:=q;obtain ⟨x,O1,e1,e⟩:=Res.bind_ok e
 cases x with
 | ob n =>
  dsimp only at e;split at e
  ·rename_i c fs eo;split at e
   ·rename_i hc;split at e
    ·rename_i d' el;cases e;refine Qma hb (thn (ho pins s σ H (fun v H1=>∃F1 as1,Gr H F as H1 F1 as1∧RlO X.K X.mg O' H1 F1 as1∧Rp X.K F1 as1 v (.ob n)) I ⟨ρ,O,F,as,.ob n,O',r,sl,e1,fun v H1 F1 as1 g1 r1 hv=>⟨F1,as1,g1,r1,hv⟩⟩) fun u s1 z=>?_);obtain ⟨v,H1,I1,rv,F1,as1,g1,r1,hv⟩:=z;obtain ⟨a,rfl,ha⟩:=Rp.unO hv;obtain rfl:u=Value.ref a:=rv;obtain ⟨C,oe,uu,hC,hH,hoc,⟨ws,hda⟩,hx⟩:=r1.ob n a _ ha eo;obtain ⟨C',hC',F0,hn,hh⟩:=hL c (List.contains_iff_mem.mp hc);rw [hC] at hC';cases hC'
     rcases hx with hx | ⟨dx,od,gs,hdx,hF,hfs⟩
     ·rw [hx] at el; cases el
     ·obtain ⟨w1,hw,hrp⟩:=hfs.at el;have hHd:=r1.fh _ _ hF;have hoe:s1.heap.get? a=some oe:=(I1.hok a _ hH).1;obtain ⟨hod,mA,hns,hrel⟩:=I1.hok dx _ hHd;obtain ⟨u1,hu1,ru1⟩:=QcJ.some_of (v:=w1) (o:=mA f) (by rw [←hw]; exact hrel f);obtain ⟨od',ho',hl⟩:=Qj4 hns;have hia:InstAt s1.heap a oe C (some od'):=⟨hoe,hoc,by unfold notCls; rw [hda],by rw [hdx]; exact ho'⟩;obtain ⟨hh1,gg,dr,tk,os⟩:=s1;exact QsE F0 I1.kIn hia hh hn (by rw [hl,hu1]) (QjZ ru1) ⟨w1,H1,I1.tok (tk+1),ru1,k w1 H1 F1 as1 g1 r1 hrp⟩
    ·cases e
   ·cases e
  ·cases e
 | _=>cases e
end
end L2
namespace L2
open PySem PySem.Spec PyProof.Rows PySem.W
def QdV (A:Around):Around:={ A with handled:=none }
def Cx.loud (X:Cx):Cx:={ X with calm:=false,xe:=fun _ _=>False }
theorem RoomH.deeper {k:Nat}{A:Around} (r:QaK (k+1) (QdV A)) (env:Env):QaK k (QdV (A.deeper env)):=⟨rfl,(r.deeper env).dp,(r.deeper env).un⟩
theorem QaK.h {k:Nat}{A:Around} (r:QaK k A):QaK k (QdV A):=⟨rfl,r.dp,r.un⟩
theorem QaK.inH {k:Nat}{A:Around}{e:Option Value} (r:QaK k A):QaK k (QdV (A.mark e)):=⟨rfl,r.dp,r.un⟩
structure QkC (P:Program) (w:World) (K:Frag) (mg:Str→Option Value) (base:Heap) (k:Nat) (f:Addr) (fd:FuncData) (ps:List Str) (sp:Sp):Prop where
 len:∀vs H Q E,sp vs H Q E→vs.length=ps.length
 run:∀(A:Around) (outer:List Env) (s:Shared) (H:Hp) (args:Args) (us:List Value) (vs:List V) (Q:VK) (E:XK),QaK k (QdV A)→Qdy P w K mg base A outer s H→BindsTo s fd args (ps.zip us)→QaA vs us→sp vs H Q E →
  codeAny (model P w) A (.call (.ref f) args) (CR CX0 outer P w H s Q E) s
theorem QkC.fn {P:Program}{w:World}{K:Frag}{mg:Str→Option Value}{base:Heap}{k:Nat}{f:Addr}{fd:FuncData}{ps:List Str}{sp:Sp} (F:QkC P w K mg base k f fd ps sp):Qbo P w K mg base CX0 k f fd ps sp:=⟨F.len,fun A outer s H args us vs Q E hr=>F.run A outer s H args us vs Q E hr.h⟩
def Qji (P:Program) (w:World) (K:Frag) (mg:Str→Option Value) (base:Heap) (x:Str) (ps:List Str) (k:Nat) (sp:Sp):Prop :=
 ∃f fd,mg x=some (.ref f)∧keepIn K (.ref f)=true∧Binds K fd ps []∧QkC P w K mg base k f fd ps sp∧∃oc od osl,K.lookup f=some ⟨oc,od,.func fd,osl⟩
section
variable {Pr:Program}{w:World}{K:Frag}{mg:Str→Option Value}{base:Heap}
theorem Qji.can {x:Str}{ps:List Str}{k:Nat}{sp:Sp} (C:Qji Pr w K mg base x ps k sp):Can Pr w K mg base x ps k sp:=by
 obtain ⟨f,fd,h1,h2,h3,h4,h5⟩:=C;exact ⟨f,fd,h1,h2,h3,h4.fn,h5⟩
theorem Qqf {N:List Str}{qual:Str}{scope:Scope}{f:Addr}{cd:Value}{A:Around}{outer:List Env}{s s1:Shared}{H:Hp}{E:XK}{σ:St} (I:Inv (Qb1 CX0 Pr w K mg base N qual scope f cd (QdV A) outer s H E) [] σ H s1):Inv (Qb1 CX0 Pr w K mg base N qual scope f cd A outer s H E).loud [] σ H s1:=by
 have ok:=I.ok;exact ⟨⟨ok.mod,ok.kind,ok.glob,ok.blt,ok.above,ok.inj,ok.has,ok.cab,(fun z=>(nomatch z)),ok.frames,ok.stk,ok.exf,ok.bs,ok.bsz,ok.noex,ok.exfs,ok.funs,ok.frf⟩,I.os,I.bare,I.base,I.loc,I.cell,I.free,I.freeC,I.pin,I.hok,I.len⟩
theorem Qdy.mark0 {A:Around}{outer:List Env}{s:Shared}{H:Hp} (e:Qdy Pr w K mg base A outer s H):Qdy Pr w K mg base (QdV A) outer s H:=⟨e.frames,e.mod,e.bs,e.bsz,e.funs,e.frf,e.hok,e.bare⟩
theorem Qun {k:Nat}{x qual:Str}{st:Stmt}{f:Addr}{fd:FuncData}{N ps:List Str}{sp:Sp} (Fn:Fun K x qual st f fd) (S:QaI N ps (Qah st)) (len:∀vs H Q E,sp vs H Q E→vs.length=ps.length)
  (hbody:∀(cdv:Value) (A:Around) (outer:List Env) (s:Shared) (H:Hp) (vs:List V) (Q:VK) (E:XK),QaK k (QdV (A.deeper (envOfC qual (Qah st) s.heap.objs.size f cdv)))→sp vs H Q E →
   ∃t,PSs (Qb1 CX0 Pr w K mg base N qual (Qah st) f cdv A outer s H E).loud (QaW st) t∧t { nx:=fun _ H'=>Q .non H',rt:=Q } (start N vs) H):QkC Pr w K mg base (k+1) f fd ps sp:=by
 obtain ⟨oc,od,kV,doc,pmv,an,cdv,ct,osl,rfl,lk,hcd⟩:=Fn.ex;refine ⟨len,fun A outer s H args us vs Q E hr e0 hb r hsp=>?_⟩;have hl:=len _ _ _ _ hsp
 have KX:K.In s.heap:=e0.mod.kin.keeps fun b o e=>(e0.bs b o e).1
 have lim:s.heap.NoLimit:=e0.mod.nolimit.keeps fun b o e=>(e0.bs b o e).1
 have hkind:∀y∈ps.zip us,(Qah st).names.lookup y.1=some .local∨((Qah st).names.lookup y.1=some .cell∧((cellsFrom (s.heap.objs.size+1) (Qah st).names []).lookup y.1).isSome=true):=fun ⟨n,v⟩ hy=>(S.par n (List.of_mem_zip hy).1).imp id fun q=>⟨q,PySem.W.cellsFrom_some _ _ _ (.inl q)⟩
 refine codeAny_call_function (show A.depth < recursionLimit from hr.depth) (KX _ _ lk) rfl S.co S.gen rfl (PySem.W.codeRec_of KX hcd) (hb _ _ _ _ ?_)
 refine wpAny_newFunctionEnv_cells S.kind hkind fun env he s1 x=>?_
 subst he;refine ⟨lim.keeps x.toInCall.keep,codeAny_func ?_⟩;obtain ⟨t,ht,hq⟩:=hbody cdv A outer s H vs Q E (RoomH.deeper hr _) hsp;have I:=Qqf (Qj7 (CX:=CX0) (E:=E) S hr.hd e0.mark0 hl r x)
 refine zm (ht [] s1 (start N vs) H _ I hq) (fun fl s' hs=>?_) fun _ _ z=>False.elim z
 cases fl with
 | ret u =>
  obtain ⟨v,σ',H',J,rv,q⟩:=hs;exact ⟨v,H',J.os,J.bare,J.base,J.hok,rv,q⟩
 | next =>
  obtain ⟨σ',H',J,q⟩:=hs;exact ⟨V.non,H',J.os,J.bare,J.base,J.hok,rfl,q⟩
 | brk=>obtain ⟨_,_,_,q⟩:=hs; exact False.elim q
 | cont=>obtain ⟨_,_,_,q⟩:=hs; exact False.elim q
theorem Qva {x:Str}{st:Stmt}{N ps:List Str}{k:Nat} (Df:Def K mg x st) (S:QaI N ps (Qah st))
  (hb:∀(kV doc pm:Value) (an:Option Addr) (cdv ct:Value) (us:List Value),us.length=ps.length→bindArgs (PySem.W.fnOf x x (Qbv st) (QaW st) (Qah st) .none kV doc pm an cdv ct) ⟨us,[]⟩=pure (ps.zip us))
  (pm lm:List Md) {R:RR}{b:MS} (hR:Qb8 R) (hR0:∀N H F as,R N H F as .non .non) (hpl:pm.length=ps.length:=by rfl) (hl:(pm++lm).length=N.length:=by rfl) (hp:∀m∈pm,m≠.o:=by decide)
  (body:∀(f:Addr) (cdv:Value) (A:Around) (outer:List Env) (s:Shared) (H:Hp) (E:XK),QaK k (QdV (A.deeper (envOfC x (Qah st) s.heap.objs.size f cdv)))→∀P,VSs ((Qb1 CX0 Pr w K mg base N x (Qah st) f cdv A outer s H E).loud) (pm++lm) P R (QaW st) b) :
  Qji Pr w K mg base x ps (k+1) (vSp K mg pm R (Qa9 N.length b)):=by
 obtain ⟨f,fd,hm,Fn⟩:=Df;have hbi:=Fn.binds hb;have hkp:=Fn.kp
 have ok:=Qun (Pr:=Pr) (w:=w) (mg:=mg) (base:=base) (k:=k) (sp:=vSp K mg pm R (Qa9 N.length b)) Fn S (fun vs H Q E h=>by
  obtain ⟨ds,O,F,as,d,O',r,a,_⟩:=h
  rw [a.len.1,hpl]) (fun cdv A outer s H vs Q E hr h=>by
  obtain ⟨ds,O,F,as,d,O',r,a,e,q⟩:=h;refine ⟨_,body f cdv A outer s H E hr (Pt.all H),?_⟩;refine ⟨_,O,F,as,r,Qeb a hl hp,?_⟩;unfold Qa9 at e
  cases eb:b (ds.map some++List.replicate (N.length - ds.length) none) O with
  | rt d' O2 =>
   rw [eb] at e;cases e
   exact fun v H' F' as' g r' hv=>q v H' F' as' g.gr r' (hR _ _ _ _ _ _ _ (fun c hc=>jk.mp hc) hv)
  | nx ρ O2 =>
   rw [eb] at e;cases e
   exact fun σ' H' F' as' g r' _=>q _ H' F' as' g.gr r' (hR0 _ _ _ _)
  | _=>rw [eb] at e; cases e)
 obtain ⟨oc,od,kV,doc,pmv,an,cdv,ct,osl,rfl,lk,hcd⟩:=Fn.ex;exact ⟨f,_,hm,hkp,hbi,ok,oc,od,osl,lk⟩
end
section
variable {X:Cx}{md:List Md}{P:Pt}{R:RR}
theorem Qqj {x:Str}{ps:List Str}{k:Nat}{e:Expr}{es:List Expr}{pm:List Md}{c:List D→Qac→Res D}{ma:M (List D)}{p pos:Pos} (hR:Qb8 R) (C:Qji X.prog X.w X.K X.mg X.base x ps k (vSp X.K X.mg pm R c)) (hr:QaK k (QdV X.A)) (ha:AE X md P pm (e::es) ma) (hg:Gl X x:=by rfl) (hdb:(x == ("__debug__":Str))=false:=by decide)
  (he:starEach (e::es) X.env=(false,eval e X.env)::starEach es X.env:=by exact Qa3 rfl) (hpl:(backTo pos (starEach es X.env)).any (·.1)=false:=by exact Qa5 rfl):PE X (.Call (.Name x p) (e::es) [] pos) (tM X.K X.mg md P R (QaB c ma)):=by
 obtain ⟨fa,fd,hm,hk,hb,Fn,_⟩:=C;intro pins s σ H Q I q;refine wpAny_Call_Name_kw (Qd3 I hg hm ?_ hdb);refine PySem.W.callWith_K (h₀:=X.base) I.ok.mod.kin hk (thn (ha pos pins s σ H _ I (Ql1 (pm:=pm) (E:=E0) hR q)) fun us s1 z=>?_) he hpl;obtain ⟨vs,H1,J,rv,sp⟩:=z;rw [zC] at sp
 have hl:us.length=ps.length:=by rw [←rv.length]; exact Fn.len _ _ _ _ sp
 have bi:=hb s1 us J.kIn (by rw [zC]; exact hl);rw [zC] at bi;refine ⟨J.kIn,zM (codeAny_mono (Fn.run X.A X.stack s1 H1 ⟨us,[]⟩ us vs Q E0 hr J.env0 bi rv sp) fun res s' hq=>?_)⟩
 cases res with
 | error e=>exact False.elim hq
 | ok fl =>
  cases fl with
  | ret u=>exact J.after hq
  | next=>exact False.elim hq
  | brk=>exact False.elim hq
  | cont=>exact False.elim hq
end
section
variable {X:Cx}{md:List Md}{P:Pt}{R:RR}
def QmS:D→D→Option D
 | .int i,.int j=>some (.bl (decide (i=j)))
 | .str a,.str b=>some (.bl (decide (a=b)))
 | .bl a,.bl b=>some (.bl (decide (a=b)))
 | _,_=>none
theorem QtK:OpD X (compareOp .Eq) QmS:=by
 intro pins s σ H x y v u Q I rx ry h';obtain ⟨O,F,as,dx,dy,d,r,hx,hy,e,k⟩:=h';unfold QmS at e;split at e
 ·cases e;cases (hx.rp rfl).unI;cases (hy.rp rfl).unI;refine QhG pins s σ H _ _ v u Q I rx ry ⟨rfl,?_⟩;rw [Qmw];exact Qbg r k rfl Rp.bl
 ·cases e;cases (hx.rp rfl).unS;cases (hy.rp rfl).unS;refine QhG pins s σ H _ _ v u Q I rx ry ⟨rfl,?_⟩;rw [Qm6];exact Qbg r k rfl Rp.bl
 ·cases e;cases (hx.rp rfl).unB;cases (hy.rp rfl).unB;refine QhG pins s σ H _ _ v u Q I rx ry ⟨rfl,?_⟩;rw [QmK];exact Qbg r k rfl Rp.bl
 ·cases e
theorem QpI {x:Str}{ps:List Str}{k:Nat}{e:Expr}{es:List Expr}{pm:List Md}{c:List D→Qac→Res D}{ma:M (List D)}{p pos:Pos} (C:Qji X.prog X.w X.K X.mg X.base x ps k (vSp X.K X.mg pm (rV X.K) c)) (hr:QaK k (QdV X.A)) (ha:AE X md P pm (e::es) ma) (hg:Gl X x:=by rfl) (hdb:(x == ("__debug__":Str))=false:=by decide)
  (he:starEach (e::es) X.env=(false,eval e X.env)::starEach es X.env:=by exact Qa3 rfl) (hpl:(backTo pos (starEach es X.env)).any (·.1)=false:=by exact Qa5 rfl):VE X md P (.Call (.Name x p) (e::es) [] pos) (QaB c ma):=Qqj Qbj C hr ha hg hdb he hpl
theorem Qj9 {f:Str}{ps:List Str}{k:Nat}{a:Expr}{as:List Expr}{pm:List Md}{c:List D→Qac→Res D}{ma:M (List D)}{p1 p2:Pos} (Cn:QgR X.prog X.w X.K X.mg X.base f ps k (QcS X.K X.mg pm (rV X.K) c)) (hr:QaK k X.A) (ha:AE X md P pm (a::as) ma) (hg:Gl X f:=by rfl) (hfd:(f == ("__debug__":Str))=false:=by decide)
  (hs:starEach (a::as) X.env=(false,eval a X.env)::starEach as X.env:=by exact Qa3 rfl) (hpl:(backTo p2 (starEach as X.env)).any (·.1)=false:=by exact Qa5 rfl):VEF X md P (rV X.K) (.Call (.Name f p1) (a::as) [] p2) (Qcs c ma):=Qqn Qbj Cn hr ha hg hfd hs hpl
end
theorem QkZ {P:Str→Bool→Prop}:∀c b,([]:List (Str×Bool)).lookup c=some b→P c b:=fun _ _ e=>nomatch e
theorem QjE {P:Str→Bool→Prop}{c:Str}{b:Bool}{tb:List (Str×Bool)} (h:P c b) (t:∀c b,tb.lookup c=some b→P c b):∀c' b',((c,b)::tb).lookup c'=some b'→P c' b':=fun c' b' e=>by
 by_cases hc:(c' == c)=true
 ·have e':some b=some b':=by
   simp only [List.lookup,hc] at e;exact e
  cases e';rw [beq_iff_eq.mp hc];exact h
 ·have hf:(c' == c)=false:=by simpa using hc
  refine t c' b' ?_;simp only [List.lookup,hf] at e;exact e
theorem QiQ {P:Str→Prop}:∀c∈([]:List Str),P c:=fun _ e=>nomatch e
theorem Qjt {P:Str→Prop}{c:Str}{l:List Str} (h:P c) (t:∀c∈l,P c):∀c'∈c::l,P c':=fun c' e=>by
 rcases zk.mp e with rfl | e
 ·exact h
 ·exact t c' e
theorem ISN.nm {K:Frag}{mg:Str→Option Value}{T c:Str}{b:Bool} (h:ISN K mg T c b):∃A,mg T=some (.ref A):=let ⟨_,A,_,_,e,_⟩:=h; ⟨A,e⟩
theorem QkV.nm {K:Frag}{mg:Str→Option Value}{ns:List Str}{c:Str}{b:Bool} (h:QkV K mg ns c b):∃as,Qd6 mg ns as:=let ⟨_,as,_,_,e,_⟩:=h; ⟨as,e⟩
theorem ISV.tb {K:Frag}{mg:Str→Option Value}{c:Str} (h:ISV K mg c):true=true∧ISV K mg c:=⟨rfl,h⟩
def Qnl (K:Frag) (mg:Str→Option Value) (c name qual:Str) (st:Stmt):Prop:=∃C fI fd,mg c=some (.ref C)∧QkK K C fI name∧isFn K (.ref fI)=true∧Fun K "__init__" qual st fI fd
theorem Qnl.can {Pr:Program}{w:World}{K:Frag}{mg:Str→Option Value}{base:Heap}{c name qual sf pn:Str}{st:Stmt}{p1 p2 p3 p4:Pos} (h:Qnl K mg c name qual st) (S:QaI [sf,pn] [sf,pn] (Qah st))
  (hb:∀(kV doc pm:Value) (an:Option Addr) (cdv ct:Value) (us:List Value),us.length = [sf,pn].length→bindArgs (PySem.W.fnOf "__init__" qual (Qbv st) (QaW st) (Qah st) .none kV doc pm an cdv ct) ⟨us,[]⟩=pure ([sf,pn].zip us))
  (hbo:QaW st = [.Assign [.Attribute (.Name sf p1) name p2] (.Name pn p3) p4]) (v0:Vis (Qah st) sf) (v1:Vis (Qah st) pn) (hs:∀L f cdv,swapsWith (.Name pn p3) (some (.Attribute (.Name sf p1) name p2)) p4.line (envOfC qual (Qah st) L f cdv)=pure false)
  (d0:(sf == ("__debug__":Str))=false:=by decide) (d1:(pn == ("__debug__":Str))=false:=by decide) (c0:(sf == ("__classdict__":Str))=false:=by decide) (c1:(pn == ("__classdict__":Str))=false:=by decide):Qlu Pr w K mg base c name 1:=by
 obtain ⟨C,fI,fd,h1,h2,h3,h4⟩:=h;exact Qvn h1 h2 h3 h4 S hb hbo v0 v1 d0 d1 c0 c1 hs
section
variable {X:Cx}{md:List Md}{P:Pt}{R:RR}
end
section
variable {K:Frag}{h:Heap}{mg:Str→Option Value}
theorem mkD {x:Str}{st:Stmt}{f:Addr}{oc:Value}{od an:Option Addr}{sl:Array (Option Value)}{kV dc pm cd ct:Value} (X:K.In h) (G:h.Ns mainGlobals mg) (a:nsIn K mainGlobals x=some (some (.ref f))) (l:K.lookup f=some ⟨oc,od,.func (fnOf x x (Qbv st) (QaW st) (Qah st) .none kV dc pm an cd ct),sl⟩) (c:codeIn K cd x=true) (k:keepIn K (.ref f)=true):Def K mg x st:=⟨_,_,mg_of X G a,Qi0 l c k⟩
structure ClsAt (K:Frag) (c:Str) (A:Addr):Prop where
 ns:nsIn K mainGlobals c=some (some (.ref A))
 pg:plainGet K A Str.empty=true
 hd:hasDictIn K A=true
 po:plainOver K A=true
 sa:findIn K (.ref A) "__setattr__" = some (some (.builtin "object.__setattr__"))
 mks:makesIn K A=true
 kc:keepIn K (.ref A)=true
def MethAt (K:Frag) (A:Addr) (m qual:Str) (st:Stmt):Prop:=∃f fd,findIn K (.ref A) m=some (some (.ref f))∧isFn K (.ref f)=true∧keepIn K (.ref f)=true∧Fun K m qual st f fd
theorem mkM {A:Addr}{m qual:Str}{st:Stmt}{f:Addr}{oc:Value}{od an:Option Addr}{sl:Array (Option Value)}{kV dc pm cd ct:Value} (a:findIn K (.ref A) m=some (some (.ref f))) (i:isFn K (.ref f)=true) (l:K.lookup f=some ⟨oc,od,.func (fnOf m qual (Qbv st) (QaW st) (Qah st) .none kV dc pm an cd ct),sl⟩) (c:codeIn K cd qual=true) (k:keepIn K (.ref f)=true):MethAt K A m qual st:=⟨_,_,a,i,k,Qi0 l c k⟩
variable {A:Addr}{c:Str}
theorem ClsAt.cl (z:ClsAt K c A):Cls K A:=⟨z.pg,z.hd,z.po,z.sa⟩
theorem ClsAt.dm (z:ClsAt K c A) (X:K.In h) (G:h.Ns mainGlobals mg) {m qual:Str}{st:Stmt} (q:MethAt K A m qual st):QjA K mg c m qual st:=by
 obtain ⟨f,fd,a,i,k,fu⟩:=q;exact ⟨_,_,_,mg_of X G z.ns,z.cl,⟨a,i,k⟩,fu⟩
theorem ClsAt.dc (z:ClsAt K c A) (X:K.In h) (G:h.Ns mainGlobals mg) {qual:Str}{st:Stmt} (q:MethAt K A "__init__" qual st):Qqp K mg c qual st:=by
 obtain ⟨f,fd,a,i,k,fu⟩:=q;exact ⟨_,_,_,mg_of X G z.ns,⟨z.mks,a,i,z.kc⟩,fu⟩
theorem ClsAt.kf (z:ClsAt K c A) (X:K.In h) (G:h.Ns mainGlobals mg) {f:Str} (n:findIn K (.ref A) f=some none):KC K mg c f:=⟨_,mg_of X G z.ns,z.cl,n⟩
end
end L2
namespace L2
open PySem PySem.Spec PyProof.Rows
section
variable {X:Cx}
end
def ofO (o:Option D) (O:Qac):Res D:=match o with
 | some d=>.ok d O
 | none=>.no
@[simp] theorem QcR {d:D}{O:Qac}:ofO (some d) O = .ok d O:=rfl
@[simp] theorem Qaz {α β:Type}{a:α}{O:Qac}{f:α→Qac→Res β}:(Res.ok a O).bind f=f a O:=rfl
@[simp] theorem QvF {O:Qac}:QaX O .non = .non:=rfl
@[simp] theorem Qqr {O:Qac}{b:Bool}:QaX O (.bl b) = .bl b:=rfl
@[simp] theorem QeB {O:Qac}{b:Int}:QaX O (.int b) = .int b:=rfl
@[simp] theorem QdF {O:Qac}{b:List Nat}:QaX O (.str b) = .str b:=rfl
@[simp] theorem Qhe {O:Qac}{b:List D}:QaX O (.lst b) = .lst b:=rfl
@[simp] theorem QhC {O:Qac}{b:List D}:QaX O (.tup b) = .tup b:=rfl
@[simp] theorem QvG {O:Qac}{a b:List D}:QaX O (.dic a b) = .dic a b:=rfl
@[simp] theorem Qe0 {i:Nat}{ρ:Qak}{O:Qac}:Qaa i ρ O=(match ρ[i]? with | some (some d)=>.ok d O | _=>.no):=rfl
@[simp] theorem m_c {d:D}{ρ:Qak}{O:Qac}:mC d ρ O = .ok d O:=rfl
@[simp] theorem QhO {g:D→D→Option D}{a b:M D}{ρ:Qak}{O:Qac}:Qad g a b ρ O=(a ρ O).bind fun x O1=>(b ρ O1).bind fun y O2=>ofO (g (QaX O2 x) (QaX O2 y)) O2:=rfl
def gF (r:Res D):Res D:=match r with
 | .ok d O'=>if Qd7 d=true then .ok d O' else .no
 | r=>r
@[simp] theorem m_g {m:M D}{ρ:Qak}{O:Qac}:mG m ρ O=gF (m ρ O):=rfl
@[simp] theorem Qxt {i:Int}{O:Qac}:gF (.ok (.int i) O) = .ok (.int i) O:=rfl
@[simp] theorem Qxl {i:List Nat}{O:Qac}:gF (.ok (.str i) O) = .ok (.str i) O:=rfl
@[simp] theorem QxN {i:Bool}{O:Qac}:gF (.ok (.bl i) O) = .ok (.bl i) O:=rfl
@[simp] theorem Qxe {O:Qac}:gF (.ok .non O) = .ok .non O:=rfl
@[simp] theorem QxA {l:List D}{O:Qac}:gF (.ok (.tup l) O) = .ok (.tup l) O:=rfl
@[simp] theorem QxG {n:Nat}{O:Qac}:gF (.ok (.ob n) O) = .ok (.ob n) O:=rfl
def chF (o:Option D) (O:Qac) (f:Unit→Res D):Res D:=match o with
 | some (.bl true)=>f ()
 | some (.bl false)=>.ok (.bl false) O
 | _=>.no
@[simp] theorem QxS {b:Bool}{O:Qac}{f:Unit→Res D}:chF (some (.bl b)) O f=if b=true then f () else .ok (.bl false) O:=by cases b <;> rfl
@[simp] theorem QwN {g g':D→D→Option D}{a b c:M D}{ρ:Qak}{O:Qac}:Qhq g g' a b c ρ O=(a ρ O).bind fun x O1=>(b ρ O1).bind fun y O2=>chF (g (QaX O2 x) (QaX O2 y)) O2 fun _=>(c ρ O2).bind fun z O3=>ofO (g' (QaX O3 y) (QaX O3 z)) O3:=by
 unfold Qhq;congr 1
@[simp] theorem QxH {m:M D}{ρ:Qak}{O:Qac}:Qhh m ρ O=(m ρ O).bind fun d O1=>.ok (.bl (isNon d)) O1:=rfl
@[simp] theorem Qxw {m:M D}{ρ:Qak}{O:Qac}:QkG m ρ O=(m ρ O).bind fun d O1=>.ok (.bl (!isNon d)) O1:=rfl
@[simp] theorem QvJ:isNon .non=true:=rfl
@[simp] theorem QvN {l:List D}:isNon (.lst l)=false:=rfl
@[simp] theorem QvI {l:List D}:isNon (.tup l)=false:=rfl
@[simp] theorem QvH {l:List Nat}:isNon (.str l)=false:=rfl
@[simp] theorem QvL {l:Int}:isNon (.int l)=false:=rfl
@[simp] theorem Qwm {l:Nat}:isNon (.ob l)=false:=rfl
def teF (d:D) (O:Qac):Res Bool:=match d with
 | .bl b=>.ok b O
 | _=>.no
@[simp] theorem QkW {b:Bool}{O:Qac}:teF (.bl b) O = .ok b O:=rfl
@[simp] theorem Qk9 {m:M D}{ρ:Qak}{O:Qac}:Qam m ρ O=(m ρ O).bind teF:=rfl
def ofB (o:Option Bool) (O:Qac):Res Bool:=match o with
 | some d=>.ok d O
 | none=>.no
@[simp] theorem Qqg {d:Bool}{O:Qac}:ofB (some d) O = .ok d O:=rfl
@[simp] theorem Qkr {m:M D}{ρ:Qak}{O:Qac}:Qa7 m ρ O=(m ρ O).bind fun d O1=>ofB (Qjk (QaX O1 d)) O1:=rfl
@[simp] theorem Qsd {b:Bool}:Qjk (.bl b)=some b:=rfl
@[simp] theorem Qv1 {b:List D}:Qjk (.lst b)=some (!b.isEmpty):=rfl
@[simp] theorem QdQ {a b:M Bool}{ρ:Qak}{O:Qac}:Qbp a b ρ O=(a ρ O).bind fun c O1=>if c=true then b ρ O1 else .ok false O1:=rfl
@[simp] theorem QfI {a b:M Bool}{ρ:Qak}{O:Qac}:QbD a b ρ O=(a ρ O).bind fun c O1=>if c=true then .ok true O1 else b ρ O1:=rfl
@[simp] theorem Qhu {a:M Bool}{ρ:Qak}{O:Qac}:QbQ a ρ O=(a ρ O).bind fun c O1=>.ok (!c) O1:=rfl
def anF (d:D) (O:Qac) (f:Unit→Res D):Res D:=match d with
 | .bl true=>f ()
 | .bl false=>.ok (.bl false) O
 | _=>.no
def orF (d:D) (O:Qac) (f:Unit→Res D):Res D:=match d with
 | .bl true=>.ok (.bl true) O
 | .bl false=>f ()
 | _=>.no
@[simp] theorem Qu9 {b:Bool}{O:Qac}{f:Unit→Res D}:anF (.bl b) O f=if b=true then f () else .ok (.bl false) O:=by cases b <;> rfl
@[simp] theorem QxY {b:Bool}{O:Qac}{f:Unit→Res D}:orF (.bl b) O f=if b=true then .ok (.bl true) O else f ():=by cases b <;> rfl
@[simp] theorem Qtx {a b:M D}{ρ:Qak}{O:Qac}:QcY a b ρ O=(a ρ O).bind fun d O1=>anF d O1 fun _=>b ρ O1:=by
 unfold QcY;congr 1
@[simp] theorem QxP {a b:M D}{ρ:Qak}{O:Qac}:Qtu a b ρ O=(a ρ O).bind fun d O1=>orF d O1 fun _=>b ρ O1:=by
 unfold Qtu;congr 1
def noF (d:D) (O:Qac):Res D:=match d with
 | .bl b=>.ok (.bl (!b)) O
 | _=>.no
@[simp] theorem Qyc {b:Bool}{O:Qac}:noF (.bl b) O = .ok (.bl (!b)) O:=rfl
@[simp] theorem Qxp {a:M D}{ρ:Qak}{O:Qac}:Qm7 a ρ O=(a ρ O).bind noF:=rfl
@[simp] theorem Qud {t:M Bool}{a b:M D}{ρ:Qak}{O:Qac}:mIf t a b ρ O=(t ρ O).bind fun c O1=>if c=true then a ρ O1 else b ρ O1:=rfl
@[simp] theorem Qhr {ρ:Qak}{O:Qac}:Qaf ρ O = .ok [] O:=rfl
@[simp] theorem Qgs {m:M D}{r:M (List D)}{ρ:Qak}{O:Qac}:Qab m r ρ O=(m ρ O).bind fun d O1=>(r ρ O1).bind fun ds O2=>.ok (d::ds) O2:=rfl
@[simp] theorem Qu6 {r:M (List D)}{ρ:Qak}{O:Qac}:QbF r ρ O=(r ρ O).bind fun ds O1=>if ds.length≤1000000 then .ok (.lst ds) O1 else .no:=rfl
@[simp] theorem Qrc {r:M (List D)}{ρ:Qak}{O:Qac}:Qbt r ρ O=(r ρ O).bind fun ds O1=>if ds.length≤1000000 then .ok (.tup ds) O1 else .no:=rfl
@[simp] theorem QiE {c:List D→Qac→Res D}{ma:M (List D)}{ρ:Qak}{O:Qac}:QaB c ma ρ O=(ma ρ O).bind fun ds O1=>c ds O1:=rfl
@[simp] theorem QrF {g:List D→Option D}{ma:M (List D)}{ρ:Qak}{O:Qac}:QaV g ma ρ O=(ma ρ O).bind fun ds O1=>ofO (g (ds.map (QaX O1))) O1:=rfl
@[simp] theorem Qyh {g:D→Option D}{ma:M D}{ρ:Qak}{O:Qac}:mUn g ma ρ O=(ma ρ O).bind fun d O1=>ofO (g (QaX O1 d)) O1:=rfl
def isF (n:String) (o:Option String) (O:Qac):Res D:=match o with
 | some t=>.ok (.bl (QcU t n)) O
 | none=>.no
@[simp] theorem Qv9 {n t:String}{O:Qac}:isF n (some t) O = .ok (.bl (QcU t n)) O:=rfl
@[simp] theorem Qyf {n:String}{m:M D}{ρ:Qak}{O:Qac}:Qdf n m ρ O=(m ρ O).bind fun d O1=>isF n (tyD (QaX O1 d)) O1:=rfl
@[simp] theorem QwE:tyD .non=some "NoneType":=rfl
@[simp] theorem Qxo {b:Bool}:tyD (.bl b)=some "bool":=rfl
@[simp] theorem QwT {b:Int}:tyD (.int b)=some "int":=rfl
@[simp] theorem QwJ {b:List Nat}:tyD (.str b)=some "str":=rfl
@[simp] theorem QwF {b:List D}:tyD (.lst b)=some "list":=rfl
@[simp] theorem QwH {b:List D}:tyD (.tup b)=some "tuple":=rfl
@[simp] theorem QwZ {a b:List D}:tyD (.dic a b)=some "dict":=rfl
@[simp] theorem Qyi {ρ:Qak}{O:Qac}:moN ρ O = .ok none O:=rfl
def osF (d:D) (O:Qac):Res (Option Int):=match d with
 | .int i=>.ok (some i) O
 | _=>.no
@[simp] theorem QqX {i:Int}{O:Qac}:osF (.int i) O = .ok (some i) O:=rfl
@[simp] theorem Qs5 {m:M D}{ρ:Qak}{O:Qac}:moS m ρ O=(m ρ O).bind osF:=rfl
@[simp] theorem Qs2 {m:M D}{lo hi:M (Option Int)}{ρ:Qak}{O:Qac}:mSl m lo hi ρ O=(m ρ O).bind fun d O1=>(lo ρ O1).bind fun l O2=>(hi ρ O2).bind fun h O3=>ofO (gSl (QaX O3 d) l h) O3:=rfl
@[simp] theorem Qrf {l:List Nat}{lo hi:Option Int}:gSl (.str l) lo hi=if l.length≤16777216 then some (.str (Qb2 l lo hi)) else none:=rfl
@[simp] theorem Qrh {l:List D}{lo hi:Option Int}:gSl (.lst l) lo hi=some (.lst (Qb2 l lo hi)):=rfl
@[simp] theorem Qw0 {l:List D}{lo hi:Option Int}:gSl (.tup l) lo hi=some (.tup (Qb2 l lo hi)):=rfl
def QgI (f:Fl) (b:MS):Fl:=match f with
 | .nx ρ' O'=>b ρ' O'
 | r=>r
@[simp] theorem QiB {a b:MS}{ρ:Qak}{O:Qac}:Qai a b ρ O=QgI (a ρ O) b:=rfl
@[simp] theorem Qms {ρ:Qak}{O:Qac}{b:MS}:QgI (.nx ρ O) b=b ρ O:=rfl
@[simp] theorem Qsa {d:D}{O:Qac}{b:MS}:QgI (.rt d O) b = .rt d O:=rfl
@[simp] theorem QwK {ρ:Qak}{O:Qac}{b:MS}:QgI (.bk ρ O) b = .bk ρ O:=rfl
@[simp] theorem QwX {ρ:Qak}{O:Qac}{b:MS}:QgI (.ct ρ O) b = .ct ρ O:=rfl
@[simp] theorem QwO {b:MS}:QgI .no b = .no:=rfl
@[simp] theorem Qts {ρ:Qak}{O:Qac}:Qav ρ O = .nx ρ O:=rfl
def Qh5 (r:Res D):Fl:=match r with
 | .ok d O'=>.rt d O'
 | .ex x O'=>.ex x O'
 | .no=>.no
@[simp] theorem QnV {m:M D}{ρ:Qak}{O:Qac}:Qaw m ρ O=Qh5 (m ρ O):=rfl
@[simp] theorem Qsu {d:D}{O:Qac}:Qh5 (.ok d O) = .rt d O:=rfl
def Qq7 (r:Res D) (ρ:Qak):Fl:=match r with
 | .ok _ O'=>.nx ρ O'
 | .ex x O'=>.ex x O'
 | .no=>.no
@[simp] theorem QwL {m:M D}{ρ:Qak}{O:Qac}:QtI m ρ O=Qq7 (m ρ O) ρ:=rfl
@[simp] theorem QvV {d:D}{O:Qac}{ρ:Qak}:Qq7 (.ok d O) ρ = .nx ρ O:=rfl
def ifF (r:Res Bool) (a b:MS) (ρ:Qak):Fl:=match r with
 | .ok c O'=>if c=true then a ρ O' else b ρ O'
 | .ex x O'=>.ex x O'
 | .no=>.no
@[simp] theorem Qi9 {t:M Bool}{a b:MS}{ρ:Qak}{O:Qac}:QaL t a b ρ O=ifF (t ρ O) a b ρ:=rfl
@[simp] theorem Qg8 {c:Bool}{O:Qac}{a b:MS}{ρ:Qak}:ifF (.ok c O) a b ρ=if c=true then a ρ O else b ρ O:=rfl
def Qk5 (i:Nat) (r:Res D) (ρ:Qak):Fl:=match r with
 | .ok d O'=>.nx (ρ.set i (some d)) O'
 | .ex x O'=>.ex x O'
 | .no=>.no
@[simp] theorem Qi5 {i:Nat}{m:M D}{ρ:Qak}{O:Qac}:Qat i m ρ O=Qk5 i (m ρ O) ρ:=rfl
@[simp] theorem QhH {i:Nat}{d:D}{O:Qac}{ρ:Qak}:Qk5 i (.ok d O) ρ = .nx (ρ.set i (some d)) O:=rfl
def QsY (r:Res (List D)) (g:MG) (b:MS) (ρ:Qak):Fl:=match r with
 | .ok ds O'=>QaS g b ds ρ O'
 | .ex x O'=>.ex x O'
 | .no=>.no
@[simp] theorem QnU {m:M (List D)}{g:MG}{b:MS}{ρ:Qak}{O:Qac}:QbP m g b ρ O=QsY (m ρ O) g b ρ:=rfl
@[simp] theorem QrU {ds:List D}{O:Qac}{g:MG}{b:MS}{ρ:Qak}:QsY (.ok ds O) g b ρ=QaS g b ds ρ O:=rfl
@[simp] theorem mg_n {i:Nat}{d:D}{ρ:Qak}:mgN i d ρ=some (ρ.set i (some d)):=rfl
def Qbw (f:Fl):Res D:=match f with
 | .rt d O'=>.ok d O'
 | .nx _ O'=>.ok .non O'
 | .ex x O'=>.ex x O'
 | _=>.no
@[simp] theorem Qye {n:Nat}{b:MS}{ds:List D}{O:Qac}:Qa9 n b ds O=Qbw (b (ds.map some++List.replicate (n - ds.length) none) O):=rfl
@[simp] theorem QwP {d:D}{O:Qac}:Qbw (.rt d O) = .ok d O:=rfl
@[simp] theorem QwR {ρ:Qak}{O:Qac}:Qbw (.nx ρ O) = .ok .non O:=rfl
@[simp] theorem Qxi {m:M (List D)}{ρ:Qak}{O:Qac}:QhR m ρ O=(m ρ O).bind fun ds O1=>match ds with
 | [.int j]=>if j≤1000000000∧-1000000000≤j then .ok (QdY 0 j.toNat) O1 else .no
 | _=>.no:=rfl
def itF (o:Option (List D)) (O:Qac):Res (List D):=match o with
 | some ds=>.ok ds O
 | none=>.no
@[simp] theorem Qps {ds:List D}{O:Qac}:itF (some ds) O = .ok ds O:=rfl
@[simp] theorem QkP {m:M D}{ρ:Qak}{O:Qac}:Qco m ρ O=(m ρ O).bind fun d O1=>itF (QfJ d) O1:=rfl
@[simp] theorem QoU {ds:List D}:QfJ (.lst ds)=some ds:=rfl
@[simp] theorem QvK {ds:List D}:QfJ (.tup ds)=some ds:=rfl
theorem QoM {l:List Nat} (h:ascii l=true):QfJ (.str l)=some (Qa1 l):=by
 show (if ascii l=true then some (Qa1 l) else none)=_;rw [if_pos h]
@[simp] theorem QtH {m:M (List D)}{own:Nat}{cap:List Nat}{g:MG}{t:M Bool}{e:M D}{ρ:Qak}{O:Qac}:QhK m own cap g t e ρ O=(m ρ O).bind fun ds O1=>if ds.length≤1000000 then (Qc7 g t e ds (Qhg own cap ρ) O1 []).bind fun ys O2=>.ok (.lst ys) O2 else .no:=rfl
@[simp] theorem Qxs {i j:Int}:Qas (.int i) (.int j)=some (.int (i+j)):=rfl
@[simp] theorem QnO {a b:List Nat}:Qas (.str a) (.str b)=if a.length+b.length≤1000000 then some (.str (a++b)) else none:=rfl
@[simp] theorem QsO {a b:List D}:Qas (.lst a) (.lst b)=if a.length+b.length≤1000000 then some (.lst (a++b)) else none:=rfl
@[simp] theorem QvW {i j:Int}:Qfk (.int i) (.int j)=some (.int (i - j)):=rfl
@[simp] theorem QtU {i j:Int}:QbE (.int i) (.int j)=if 0 < j then some (.int (i % j)) else none:=by
 unfold QbE gI
 by_cases h:0 < j <;> simp [h]
@[simp] theorem QwI {i j:Int}:Qcy (.int i) (.int j)=if 0 < j∧j < 1073741824 then some (.int (i / j)) else none:=by
 unfold Qcy gI
 by_cases h:0 < j∧j < 1073741824 <;> simp [h]
theorem QnT {i j:Int} (h:(-(2 ^ 64) < i∧i < 2 ^ 64)∨(-(2 ^ 64) < j∧j < 2 ^ 64)):Qfs (.int i) (.int j)=some (.int (i * j)):=by
 unfold Qfs;dsimp only;rw [if_pos];rw [Bool.or_eq_true];unfold Qfe;rw [zj,zj,decide_eq_true_eq,decide_eq_true_eq,decide_eq_true_eq,decide_eq_true_eq];exact h
@[simp] theorem QxL {i j:Int}:gLt (.int i) (.int j)=some (.bl (decide (i < j))):=rfl
@[simp] theorem Qya {i j:Int}:gGt (.int i) (.int j)=some (.bl (decide (j < i))):=rfl
@[simp] theorem QxD {i j:Int}:gGe (.int i) (.int j)=some (.bl (decide (j≤i))):=rfl
@[simp] theorem QxF {i j:Int}:gLe (.int i) (.int j)=some (.bl (decide (i≤j))):=rfl
theorem QoH (a b:Nat):(([a]:List Nat) < [b])↔a < b:=by
 constructor
 ·intro h
  rcases List.cons_lt_cons_iff.mp h with h | ⟨_,h⟩
  ·exact h
  ·exact absurd h (List.not_lt_nil _)
 ·intro h;exact List.cons_lt_cons_iff.mpr (.inl h)
@[simp] theorem Qx5 {a b:Nat}:gLe (.str [a]) (.str [b])=some (.bl (decide (a≤b))):=by
 show some (D.bl (!decide (([b]:List Nat) < [a])))=_
 have:decide (([b]:List Nat) < [a])=decide (b < a):=by
  by_cases h:b < a
  ·rw [zt h,zt ((QoH _ _).mpr h)]
  ·rw [zg h,zg (fun z=>h ((QoH _ _).mp z))]
 rw [this]
 by_cases h:b < a
 ·rw [zt h,zg (by omega)]; rfl
 ·rw [zg h,zt (by omega)]; rfl
@[simp] theorem Qx1 {i j:Int}:gEq (.int i) (.int j)=some (.bl (decide (i=j))):=rfl
@[simp] theorem QuW {i j:List Nat}:gEq (.str i) (.str j)=some (.bl (decide (i=j))):=rfl
@[simp] theorem Qx0 {i j:Bool}:gEq (.bl i) (.bl j)=some (.bl (decide (i=j))):=rfl
@[simp] theorem Qyd {i j:List D}:gEq (.lst i) (.lst j)=if (okE (.lst i)&&okE (.lst j))=true then some (.bl (Qf9 (.lst i) (.lst j))) else none:=rfl
@[simp] theorem QxV {i j:Int}:gNe (.int i) (.int j)=some (.bl (!decide (i=j))):=rfl
@[simp] theorem Qx9 {i j:List Nat}:gNe (.str i) (.str j)=some (.bl (!decide (i=j))):=rfl
@[simp] theorem QxE {i j:Bool}:gNe (.bl i) (.bl j)=some (.bl (!decide (i=j))):=rfl
@[simp] theorem QxJ {i j:List D}:gNe (.lst i) (.lst j)=if (okE (.lst i)&&okE (.lst j))=true then some (.bl (!Qf9 (.lst i) (.lst j))) else none:=rfl
@[simp] theorem Qra {n:Bool}{c:Nat}{l:List Nat}:gIn n (.str [c]) (.str l)=some (.bl (n ^^ decide (c∈l))):=rfl
theorem QqA {ds:List D}{i:Int}:gIx (.lst ds) (.int i)=atI ds i:=rfl
theorem Qq8 {l:List Nat}{i:Int}:gIx (.str l) (.int i)=if l.length≤1000000 then (atI l i).map (fun c=>.str [c]) else none:=rfl
@[simp] theorem QsM {l:List Nat}:Qbq [.str l]=if l.length≤1000000 then some (.int l.length) else none:=rfl
@[simp] theorem QxC {l:List D}:Qbq [.lst l]=some (.int l.length):=rfl
@[simp] theorem Qxc {l:List D}:Qbq [.tup l]=some (.int l.length):=rfl
@[simp] theorem Qw9 {i j:Int}:Qww [.int i,.int j]=some (.int (if j > i then j else i)):=rfl
@[simp] theorem Qxb {i j:Int}:Qwf [.int i,.int j]=some (.int (if j < i then j else i)):=rfl
@[simp] theorem Qxf {i:Int}:Qhz [.int i]=some (.int i):=rfl
@[simp] theorem Qxr {b:Bool}:Qhz [.bl b]=some (.int (if b then 1 else 0)):=rfl
@[simp] theorem Qxu:QfS (.int 10) (.int 18)=some (.int 1000000000000000000):=by rfl
@[simp] theorem Qw4:QfS (.int 10) (.int 9)=some (.int 1000000000):=by rfl
@[simp] theorem QjY {α:Type}{xs:List α}{j:Nat}:atI xs (j:Int)=xs[j]?:=by
 unfold atI ixN;rw [if_pos (by omega)]
 by_cases h:j < xs.length
 ·rw [if_pos (by omega)];simp
 ·rw [if_neg (by omega),List.getElem?_eq_none (by omega)];rfl
theorem Qn2 {α:Type}{xs:List α}{i:Int} (h0:0≤i) (h1:i < xs.length):∃x,atI xs i=some x∧x∈xs:=by
 obtain ⟨j,rfl⟩:=Int.eq_ofNat_of_zero_le h0
 have hj:j < xs.length:=by omega
 exact ⟨xs[j],by show atI xs (j:Int)=_; rw [QjY,zJ hj],List.getElem_mem hj⟩
section
variable {c:Prop} [Decidable c]
@[simp] theorem Qwn {a b:Fl}:Qbw (if c then a else b)=if c then Qbw a else Qbw b:=by split <;> rfl
@[simp] theorem Qwb {a b:Res D}:Qh5 (if c then a else b)=if c then Qh5 a else Qh5 b:=by split <;> rfl
@[simp] theorem QvR {a b:Fl}{r:MS}:QgI (if c then a else b) r=if c then QgI a r else QgI b r:=by split <;> rfl
@[simp] theorem QvS {α β:Type}{a b:Res α}{f:α→Qac→Res β}:(if c then a else b).bind f=if c then a.bind f else b.bind f:=by split <;> rfl
@[simp] theorem Qw1 {a b:Res Bool}{x y:MS}{ρ:Qak}:ifF (if c then a else b) x y ρ=if c then ifF a x y ρ else ifF b x y ρ:=by split <;> rfl
@[simp] theorem Qwv {a b:Res D}{i:Nat}{ρ:Qak}:Qk5 i (if c then a else b) ρ=if c then Qk5 i a ρ else Qk5 i b ρ:=by split <;> rfl
@[simp] theorem QwM {a b:Option D}{O:Qac}:ofO (if c then a else b) O=if c then ofO a O else ofO b O:=by split <;> rfl
end
@[simp] theorem Qxd:QcU "str" "str" = true:=by decide
@[simp] theorem Qxg:QcU "int" "str" = false:=by decide
@[simp] theorem Qw5:QcU "bool" "str" = false:=by decide
@[simp] theorem Qw6:QcU "list" "str" = false:=by decide
@[simp] theorem Qw8:QcU "tuple" "str" = false:=by decide
@[simp] theorem Qw7:QcU "dict" "str" = false:=by decide
@[simp] theorem Qxx:QcU "NoneType" "str" = false:=by decide
@[simp] theorem Qxv:QcU "int" "int" = true:=by decide
@[simp] theorem Qxq:QcU "int" "bool" = false:=by decide
@[simp] theorem QwW:QcU "bool" "bool" = true:=by decide
@[simp] theorem QwS:QcU "list" "list" = true:=by decide
@[simp] theorem QwU:QcU "tuple" "tuple" = true:=by decide
@[simp] theorem QwG:QcU "NoneType" "list" = false:=by decide
theorem QfC {g:MG}{b:MS} (Pv:Nat→Qak→Qac→Prop):∀(ds:List D) (k:Nat) (ρ:Qak) (O:Qac),Pv k ρ O →
  (∀i d ρ O,ds[i]? = some d→Pv (k+i) ρ O→∃ρ1,g d ρ=some ρ1∧∃ρ2 O2,(b ρ1 O = .nx ρ2 O2∨b ρ1 O = .ct ρ2 O2)∧Pv (k+i+1) ρ2 O2)→∃ρ' O',QaS g b ds ρ O = .nx ρ' O'∧Pv (k+ds.length) ρ' O'
 | [],k,ρ,O,h,_=>⟨ρ,O,rfl,h⟩
 | d::ds,k,ρ,O,h,hs=>by
  obtain ⟨ρ1,e1,ρ2,O2,e2,h2⟩:=hs 0 d ρ O rfl h
  obtain ⟨ρ',O',e3,h3⟩:=QfC Pv ds (k+1) ρ2 O2 h2 fun i d' ρ' O' hi hp=>by
   have:=hs (i+1) d' ρ' O' (by simpa using hi) (by rw [show k+(i+1)=k+1+i by omega]; exact hp)
   rw [show k+(i+1)+1=k+1+i+1 by omega] at this;exact this
  refine ⟨ρ',O',?_,by rw [zp,show k+(ds.length+1)=k+1+ds.length by omega]; exact h3⟩;unfold QaS;rw [e1];dsimp only
  rcases e2 with e2 | e2 <;> rw [e2] <;> exact e3
theorem Qha {g:MG}{t:M Bool}{m:M D} (Pv:Qak→Prop) (f:D→D):∀(ds:List D) (ρ:Qak) (O:Qac) (acc:List D),Pv ρ→(∀d∈ds,∀ρ,Pv ρ→∃ρ1,g d ρ=some ρ1∧Pv ρ1∧t ρ1 O = .ok true O∧m ρ1 O = .ok (f d) O)→Qc7 g t m ds ρ O acc = .ok (acc++ds.map f) O
 | [],ρ,O,acc,_,_=>by simp [Qc7]
 | d::ds,ρ,O,acc,h,hs=>by
  obtain ⟨ρ1,e1,h1,e2,e3⟩:=hs d zx ρ h;unfold Qc7;rw [e1];dsimp only;rw [e2];dsimp only;rw [e3];dsimp only;rw [Qha Pv f ds ρ1 O _ h1 fun d' hd'=>hs d' (zw _ hd')];simp
@[simp] theorem Qxm {ρ:Qak}{O:Qac}:Qi1 ρ O = .ok [] O:=rfl
@[simp] theorem QwQ {a b:M D}{r:M (List (D×D))}{ρ:Qak}{O:Qac}:Qew a b r ρ O=(a ρ O).bind fun x O1=>(b ρ O1).bind fun y O2=>(r ρ O2).bind fun ps O3=>.ok ((x,y)::ps) O3:=rfl
def diF (o:Option (List Key)) (kv:List (D×D)) (O:Qac):Res D:=match o with
 | some ks=>if ks.Nodup∧kv.length≤15 then .ok (.dic (kv.map (·.1)) (kv.map (·.2))) O else .no
 | none=>.no
@[simp] theorem Qwo {ks:List Key}{kv:List (D×D)}{O:Qac}:diF (some ks) kv O=if ks.Nodup∧kv.length≤15 then .ok (.dic (kv.map (·.1)) (kv.map (·.2))) O else .no:=rfl
@[simp] theorem Qxk {m:M (List (D×D))}{ρ:Qak}{O:Qac}:Qi4 m ρ O=(m ρ O).bind fun kv O1=>diF (keysOf kv) kv O1:=rfl
@[simp] theorem QwV {i:Int}:keyOf (.int i)=some (.inl i):=rfl
@[simp] theorem Qw2 {i:List Nat}:keyOf (.str i)=some (.inr (S i)):=rfl
@[simp] theorem QvE:keysOf []=some []:=rfl
@[simp] theorem QuF {a b:D}{r:List (D×D)}:keysOf ((a,b)::r)=(keyOf a).bind fun k=>(keysOf r).map (k :: ·):=rfl
def joF (o:Option (List (List Nat))) (O:Qac):Res D:=match o with
 | some ls=>if (ls.map List.length).sum≤1000000 then .ok (.str ls.flatten) O else .no
 | none=>.no
@[simp] theorem Qp0 {ls:List (List Nat)}{O:Qac}:joF (some ls) O=if (ls.map List.length).sum≤1000000 then .ok (.str ls.flatten) O else .no:=rfl
def jdF (d:D) (O:Qac):Res D:=match d with
 | .lst ds=>joF (Qed ds) O
 | _=>.no
@[simp] theorem QuS {ds:List D}{O:Qac}:jdF (.lst ds) O=joF (Qed ds) O:=rfl
@[simp] theorem QtX {m:M D}{ρ:Qak}{O:Qac}:Qks m ρ O=(m ρ O).bind fun d O1=>jdF (QaX O1 d) O1:=rfl
theorem QjO {α:Type}{f:α→List Nat}:∀l:List α,Qed (l.map fun x=>.str (f x))=some (l.map f)
 | []=>rfl
 | x::l=>by
  show (Qed (l.map fun x=>D.str (f x))).map _=_;rw [QjO l];rfl
@[simp] theorem Qx2 {own:Nat}{cap:List Nat}{ρ:Qak}:Qhg own cap ρ=List.replicate own none++cap.map fun j=>(ρ[j]?).join:=rfl
@[simp] theorem QvM {g:MG}{t:M Bool}{m:M D}{ρ:Qak}{O:Qac}{acc:List D}:Qc7 g t m [] ρ O acc = .ok acc O:=rfl
theorem Qgf {l:List Nat} (h:∀c∈l,c < 1114112):(PyData.str (S l)).canLay0=true:=by
 show PyData.strOk (S l)=true;unfold PyData.strOk S;simp;exact h
theorem Qpf {d:D} (h:okE d=true):Qf9 d d=true:=by
 unfold okE at h;rw [zj] at h
 have:=h.2
 unfold okD at this;rw [zj] at this;exact SeqAt.eqv_refl _ this.1
def it (f:Int→Int):Nat→Int→Int
 | 0,x=>x
 | n+1,x=>f (it f n x)
def mix (n k:Int):Int:=if n > 1000000000000000000 then it (fun r=>r / 1000000000) k.toNat n % 1000000000
 else
  let m:=it (fun m=>(m * 48271+104729) % 2147483629) (k+2).toNat (n % 2147483647+7919)
  m * m % 998244353 / 11
theorem QqV (j:Nat) (x:Int) (h0:0≤x) (h1:x < 2147491566):0≤it (fun m=>(m * 48271+104729) % 2147483629) j x∧it (fun m=>(m * 48271+104729) % 2147483629) j x < 2147491566:=by
 induction j with
 | zero=>exact ⟨h0,h1⟩
 | succ j ih =>
  refine ⟨zZ _ (by decide),?_⟩
  have:=jc (it (fun m=>(m * 48271+104729) % 2147483629) j x * 48271+104729) (show (0:Int) < 2147483629 by decide)
  show (it (fun m=>(m * 48271+104729) % 2147483629) j x * 48271+104729) % 2147483629 < _;omega
def QmI:MS:=(Qai (QaL (Qam (Qad gGt (Qaa 0) (Qad QfS (mC (.int 10)) (mC (.int 18))))) (Qai (Qat 2 (mG (Qaa 0)))
  (Qai (QbP (QhR (Qab (Qaa 1) Qaf)) (mgN 3) (Qat 2 (Qad Qcy (Qaa 2) (Qad QfS (mC (.int 10)) (mC (.int 9))))))
  (Qaw (Qad QbE (Qaa 2) (Qad QfS (mC (.int 10)) (mC (.int 9))))))) Qav)
  (Qai (Qat 4 (Qad Qas (Qad QbE (Qaa 0) (mC (.int 2147483647))) (mC (.int 7919))))
  (Qai (QbP (QhR (Qab (Qad Qas (Qaa 1) (mC (.int 2))) Qaf)) (mgN 3) (Qat 4 (Qad QbE (Qad Qas (Qad Qfs (Qaa 4) (mC (.int 48271))) (mC (.int 104729))) (mC (.int 2147483629)))))
  (Qaw (Qad Qcy (Qad QbE (Qad Qfs (Qaa 4) (Qaa 4)) (mC (.int 998244353))) (mC (.int 11)))))))
theorem QiU (lo:Int) (n:Nat):(QdY lo n).length=n:=by simp [QdY]
theorem QsL (n k:Int) (h0:0≤k) (h1:k≤1000000) (O:Qac):Qa9 5 QmI [.int n,.int k] O = .ok (.int (mix n k)) O:=by
 unfold mix
 by_cases hn:n > 1000000000000000000
 ·obtain ⟨ρ',O',e,rfl,o3,rfl⟩:=QfC (g:=mgN 3) (b:=Qat 2 (Qad Qcy (Qaa 2) (Qad QfS (mC (.int 10)) (mC (.int 9)))))
   (fun i ρ O'=>O'=O∧∃o3,ρ = [some (.int n),some (.int k),some (.int (it (fun r=>r / 1000000000) i n)),o3,none]) (QdY 0 k.toNat) 0 [some (.int n),some (.int k),some (.int n),none,none] O ⟨rfl,none,rfl⟩ (by
    rintro i d ρ O' hi ⟨rfl,o3,rfl⟩;refine ⟨_,rfl,?_⟩;simp;rw [show it (fun r=>r / 1000000000) (i+1) n=it (fun r=>r / 1000000000) i n / 1000000000 from rfl]
    exact ⟨_,_,⟨rfl,rfl⟩,rfl,_,rfl⟩)
  rw [QiU,Nat.zero_add] at e
  have hk:k≤1000000000∧-1000000000≤k:=by omega
  simp [QmI,hn,hk,e]
 ·have hm0:0≤n % 2147483647+7919:=by have:=zZ n (show (2147483647:Int)≠0 by decide); omega
  have hm1:n % 2147483647+7919 < 2147491566:=by have:=jc n (show (0:Int) < 2147483647 by decide); omega
  obtain ⟨ρ',O',e,rfl,o3,rfl⟩:=QfC (g:=mgN 3) (b:=Qat 4 (Qad QbE (Qad Qas (Qad Qfs (Qaa 4) (mC (.int 48271))) (mC (.int 104729))) (mC (.int 2147483629))))
   (fun i ρ O'=>O'=O∧∃o3,ρ = [some (.int n),some (.int k),none,o3,some (.int (it (fun m=>(m * 48271+104729) % 2147483629) i (n % 2147483647+7919)))]) (QdY 0 (k+2).toNat) 0 [some (.int n),some (.int k),none,none,some (.int (n % 2147483647+7919))] O ⟨rfl,none,rfl⟩ (by
    rintro i d ρ O' hi ⟨rfl,o3,rfl⟩;refine ⟨_,rfl,?_⟩;obtain ⟨b0,b1⟩:=QqV i _ hm0 hm1
    have:=QnT (i:=it (fun m=>(m * 48271+104729) % 2147483629) i (n % 2147483647+7919)) (j:=48271) (.inr ⟨by decide,by decide⟩)
    simp [this]
    rw [show it (fun m=>(m * 48271+104729) % 2147483629) (i+1) (n % 2147483647+7919)=(it (fun m=>(m * 48271+104729) % 2147483629) i (n % 2147483647+7919) * 48271+104729) % 2147483629 from rfl]
    exact ⟨_,_,⟨rfl,rfl⟩,rfl,_,rfl⟩)
  rw [QiU,Nat.zero_add] at e
  have hk:k+2≤1000000000∧-1000000000≤k+2:=by omega
  obtain ⟨b0,b1⟩:=QqV (k+2).toNat _ hm0 hm1;have hq:=QnT (i:=it (fun m=>(m * 48271+104729) % 2147483629) (k+2).toNat (n % 2147483647+7919)) (j:=it (fun m=>(m * 48271+104729) % 2147483629) (k+2).toNat (n % 2147483647+7919)) (.inl ⟨by omega,by omega⟩);simp [QmI,hn,hk,e,hq]
def Qlb (cs:List Str) (f:Str) (d:D) (O:Qac):Res D:=match d with
 | .ob n=>match O[n]? with
  | some (.ins c fs)=>if c∈cs then match fs.lookup f with
   | some y=>.ok y O
   | none=>.no else .no
  | _=>.no
 | _=>.no
@[simp] theorem QxR {cs:List Str}{f:Str}{m:M D}{ρ:Qak}{O:Qac}:Qgb cs f m ρ O=(m ρ O).bind (Qlb cs f):=rfl
def puF (cs:List Str) (f:Str) (d:D) (ρ:Qak) (r:Res D):Fl:=match r with
 | .ok (.ob n) O2=>match O2[n]? with
  | some (.ins c fs)=>if c∈cs∧fs.length < 900 then .nx ρ (O2.set n (.ins c (putD f d fs))) else .no
  | _=>.no
 | _=>.no
def sfF (cs:List Str) (f:Str) (mo:M D) (r:Res D) (ρ:Qak):Fl:=match r with
 | .ok d O1=>puF cs f d ρ (mo ρ O1)
 | .ex x O'=>.ex x O'
 | .no=>.no
@[simp] theorem Qxa {cs:List Str}{f:Str}{mo mv:M D}{ρ:Qak}{O:Qac}:Qdt cs f mo mv ρ O=sfF cs f mo (mv ρ O) ρ:=by
 unfold Qdt sfF puF
 cases mv ρ O <;> rfl
@[simp] theorem Qw3 {cs:List Str}{f:Str}{mo:M D}{d:D}{O:Qac}{ρ:Qak}:sfF cs f mo (.ok d O) ρ=puF cs f d ρ (mo ρ O):=rfl
def meF (c m:Str) (cf:List D→Qac→Res D) (ma:Qac→Res (List D)) (d:D) (O1:Qac):Res D:=match d with
 | .ob n=>match O1[n]? with
  | some (.ins c' fs)=>if c'=c∧(fs.lookup m).isNone=true then (ma O1).bind fun ds O2=>cf (.ob n::ds) O2 else .no
  | _=>.no
 | _=>.no
@[simp] theorem Qoa {c m:Str}{cf:List D→Qac→Res D}{mo:M D}{ma:M (List D)}{ρ:Qak}{O:Qac}:Qe6 c m cf mo ma ρ O=(mo ρ O).bind (meF c m cf (ma ρ)):=rfl
def mkF (n:Nat) (r:Res D):Res D:=match r with
 | .ok .non O2=>.ok (.ob n) O2
 | .ok _ _=>.no
 | .ex x O2=>.ex x O2
 | .no=>.no
@[simp] theorem Qxz {c:Str}{cf:List D→Qac→Res D}{ma:M (List D)}{ρ:Qak}{O:Qac}:QgQ c cf ma ρ O=(ma ρ O).bind fun ds O1=>mkF O1.length (cf (.ob O1.length::ds) (O1 ++ [.ins c []])):=by
 unfold QgQ;congr 1
@[simp] theorem Qxj {n:Nat}{O:Qac}:mkF n (.ok .non O) = .ok (.ob n) O:=rfl
def apF (i:Nat) (r:Res D) (ρ:Qak):Fl:=match r with
 | .ok d O'=>match ρ[i]? with
  | some (some (.lst ds))=>if ds.length < 1000000 then .nx (ρ.set i (some (.lst (ds ++ [d])))) O' else .no
  | _=>.no
 | .ex x O'=>.ex x O'
 | .no=>.no
@[simp] theorem Qn5 {i:Nat}{m:M D}{ρ:Qak}{O:Qac}:QbC i m ρ O=apF i (m ρ O) ρ:=rfl
theorem QoI {i:Nat}{d:D}{ds:List D}{ρ:Qak}{O:Qac} (h:ρ[i]? = some (some (.lst ds))) (hl:ds.length < 1000000):apF i (.ok d O) ρ = .nx (ρ.set i (some (.lst (ds ++ [d])))) O:=by
 unfold apF; dsimp only; rw [h]; dsimp only; rw [if_pos hl]
def exF (i:Nat) (r:Res D) (ρ:Qak):Fl:=match r with
 | .ok d O'=>match ρ[i]?,QaX O' d with
  | some (some (.lst ds)),.lst es=>if ds.length+es.length≤1000000 then .nx (ρ.set i (some (.lst (ds++es)))) O' else .no
  | _,_=>.no
 | .ex x O'=>.ex x O'
 | .no=>.no
@[simp] theorem Qtw {i:Nat}{m:M D}{ρ:Qak}{O:Qac}:QhV i m ρ O=exF i (m ρ O) ρ:=rfl
theorem QtD {i:Nat}{es ds:List D}{ρ:Qak}{O:Qac} (h:ρ[i]? = some (some (.lst ds))) (hl:ds.length+es.length≤1000000):exF i (.ok (.lst es) O) ρ = .nx (ρ.set i (some (.lst (ds++es)))) O:=by
 unfold exF; dsimp only [QaX]; rw [h]; dsimp only; rw [if_pos hl]
def enF (d:D) (O1:Qac):Res (List D):=match d with
 | .lst ds=>.ok (Qbz 0 ds) O1
 | .str l=>if ascii l=true then .ok (Qbz 0 (Qa1 l)) O1 else .no
 | _=>.no
@[simp] theorem QtM {m:M D}{ρ:Qak}{O:Qac}:QgW m ρ O=(m ρ O).bind enF:=rfl
theorem QlZ {l:List Nat}{O:Qac} (h:ascii l=true):enF (.str l) O = .ok (Qbz 0 (Qa1 l)) O:=by
 show (if ascii l=true then _ else _)=_;rw [if_pos h]
def asF (r:Res D) (g:MG) (ρ:Qak):Fl:=match r with
 | .ok d O'=>match g d ρ with
  | some ρ'=>.nx ρ' O'
  | none=>.no
 | .ex x O'=>.ex x O'
 | .no=>.no
@[simp] theorem Qxy {m:M D}{g:MG}{ρ:Qak}{O:Qac}:QuI m g ρ O=asF (m ρ O) g ρ:=rfl
@[simp] theorem Qyj {i j:Nat}{a b:D}{ρ:Qak}:Qfl 2 (Qbe (mgN i) (Qbe (mgN j) Qdl)) (.tup [a,b]) ρ=some ((ρ.set i (some a)).set j (some b)):=rfl
def stF (a b:D) (O:Qac):Res D:=match a,b with
 | .str l,.str n=>.ok (.bl (decide (l.take n.length=n))) O
 | _,_=>.no
@[simp] theorem Qv3 {a b:M D}{ρ:Qak}{O:Qac}:QhP a b ρ O=(a ρ O).bind fun x O1=>(b ρ O1).bind fun y O2=>stF x y O2:=rfl
@[simp] theorem QxI {l n:List Nat}{O:Qac}:stF (.str l) (.str n) O = .ok (.bl (decide (l.take n.length=n))) O:=rfl
theorem Qkc {t:M Bool}{b:MS} (Pv:Nat→Qak→Qac→Prop):∀(n:Nat) (k:Nat) (ρ:Qak) (O:Qac),k < n→Pv k ρ O →
  (∀k ρ O,Pv (k+1) ρ O→t ρ O = .ok true O∧∃j ρ2 O2,j≤k∧b ρ O = .nx ρ2 O2∧Pv j ρ2 O2)→(∀ρ O,Pv 0 ρ O→t ρ O = .ok false O)→∃ρ' O',Qe3 t b n ρ O = .nx ρ' O'∧Pv 0 ρ' O'
 | 0,k,ρ,O,hk,_,_,_=>absurd hk (Nat.not_lt_zero _)
 | n+1,0,ρ,O,_,h,_,h0=>by
  refine ⟨ρ,O,?_,h⟩;unfold Qe3;rw [h0 ρ O h]
 | n+1,k+1,ρ,O,hk,h,hs,h0=>by
  obtain ⟨e1,j,ρ2,O2,hj,e2,h2⟩:=hs k ρ O h;obtain ⟨ρ',O',e3,h3⟩:=Qkc Pv n j ρ2 O2 (by omega) h2 hs h0;refine ⟨ρ',O',?_,h3⟩;unfold Qe3;rw [e1];dsimp only;rw [e2];exact e3
def Qcw:List Nat:=[101,110,100]
def Qb4:List Nat:=[97,110,101,119]
def QdG:List Nat:=[112,108,97,105,110]
def QaU:List Nat:=[115,105,103,110]
def Qdh:List Nat:=[105,110,107]
def Qb0:List Nat:=[103,114,111,117,110,100]
def item (p:Int) (k v:List Nat):D:=.tup [.int p,.str k,.str v]
def col (c:Nat):Bool:=decide (c∈[97,98,99,100,101,102,103,104,46])
theorem Qgk {c:Nat} (h:col c=true):c≠91∧c≠93∧c≠47∧c≠10∧c≠9:=by
 have:c∈[97,98,99,100,101,102,103,104,46]:=jf h
 have q:∀c∈[97,98,99,100,101,102,103,104,46],c≠91∧c≠93∧c≠47∧c≠10∧c≠9:=by decide
 exact q c this
def Qfh (x:Nat):List Nat→List Nat×List Nat×Nat
 | []=>(QaU,[91],0)
 | e::_=>if e=93 then (Qb0,[x],3) else (QaU,[91],0)
def Qdd:List Nat→List Nat×List Nat×Nat
 | []=>(QaU,[91],0)
 | x::t=>if col x=true then Qfh x t else (QaU,[91],0)
def Qd0 (x:Nat):List Nat→List Nat×List Nat×Nat
 | []=>(QaU,[91],0)
 | e::_=>if e=93 then (Qdh,[x],2) else (QaU,[91],0)
def Qbx:List Nat→List Nat×List Nat×Nat
 | []=>(QaU,[91],0)
 | d::t=>if d=93 then (QdG,[],1) else if d=91 then (QaU,[91],1) else if col d=true then Qd0 d t else if d=47 then Qdd t else (QaU,[91],0)
def one (c:Nat) (t:List Nat):List Nat×List Nat×Nat :=
 if c=10 then (Qcw,[],0) else if c=9 then (Qb4,[],0) else if c=91 then Qbx t else (QaU,[c],0)
def items (p:Int):List Nat→List D
 | []=>[]
 | c::t=>item p (one c t).1 (one c t).2.1::items (p+((one c t).2.2+1:Nat)) (t.drop (one c t).2.2)
termination_by l=>l.length
decreasing_by
 simp only [List.length_drop,zp];omega
theorem Qci (p:Int):items p [] = []:=by rw [items]
theorem QdP (p:Int) (c:Nat) (t:List Nat):items p (c::t)=item p (one c t).1 (one c t).2.1::items (p+((one c t).2.2+1:Nat)) (t.drop (one c t).2.2):=by rw [items]
def own (p:Int) (c:Nat):D:=if c=10 then item p Qcw [] else if c=9 then item p Qb4 [] else item p QaU [c]
def Qcl:Int→List Nat→List D
 | _,[]=>[]
 | p,c::l=>own p c::Qcl (p+1) l
theorem Qbd {p:Int}{c:Nat}{t:List Nat} (h:c≠91):items p (c::t)=own p c::items (p+1) t:=by
 rw [QdP];unfold one own
 by_cases h1:c=10
 ·simp [h1]
 ·by_cases h2:c=9
  ·simp [h1,h2]
  ·simp [h1,h2,h]
theorem Qb9 {p:Int}{t:List Nat} (h:Qbx t=(QaU,[91],0)):items p (91::t)=own p 91::items (p+1) t:=by
 rw [QdP]
 have:one 91 t=(QaU,[91],0):=h
 rw [this];rfl
theorem QfF {p:Int}{t:List Nat}{k v:List Nat}{n:Nat} (h:Qbx t=(k,v,n)):items p (91::t)=item p k v::items (p+(n+1:Nat)) (t.drop n):=by
 rw [QdP]
 have:one 91 t=(k,v,n):=h
 rw [this]
theorem Qkd:∀(n:Nat) (t:List Nat) (p:Int),t.length≤n→(items p t).length≤t.length
 | 0,t,p,h=>by
  cases t with
  | nil=>rw [Qci]; exact zc _
  | cons c t=>simp at h
 | n+1,t,p,h=>by
  cases t with
  | nil=>rw [Qci]; exact zc _
  | cons c t =>
   rw [QdP];simp only [zp] at h ⊢
   have:=Qkd n (t.drop (one c t).2.2) (p+((one c t).2.2+1:Nat)) (by rw [List.length_drop]; omega)
   rw [List.length_drop] at this;omega
def Qca:List Nat→Bool
 | [a]=>decide (a=91)
 | [a,b]=>decide (a=91)&&(decide (b=47) || col b)
 | [a,b,c]=>decide (a=91)&&(decide (b=47)&&col c)
 | _=>false
def markB:List Nat→Option (List Nat×List Nat)
 | [a,b]=>if a=91∧b=93 then some (QdG,[]) else if a=91∧b=91 then some (QaU,[91]) else none
 | [a,b,c]=>if a=91∧col b=true∧c=93 then some (Qdh,[b]) else none
 | [a,b,c,d]=>if a=91∧b=47∧col c=true∧d=93 then some (Qb0,[c]) else none
 | _=>none
def tk (h:List Nat) (c:Nat) (p:Int):List D×List Nat :=
 if Qca (h ++ [c])=true then ([],h ++ [c]) else match markB (h ++ [c]) with
 | some (k,v)=>([item p k v],[])
 | none=>if c=91 then (Qcl p h,[91]) else (Qcl p (h ++ [c]),[])
inductive Held:List Nat→Prop where
 | h0:Held []
 | h1:Held [91]
 | h2:Held [91,47]
 | h3 (x:Nat) (h:col x=true):Held [91,x]
 | h4 (x:Nat) (h:col x=true):Held [91,47,x]
theorem Held.len {h:List Nat} (H:Held h):h.length≤3:=by cases H <;> simp
theorem Qk2:col 91=false:=by decide
theorem QoS:col 93=false:=by decide
theorem QcT:col 47=false:=by decide
theorem Qgu {h:List Nat} (H:Held h) (c:Nat) (p:Int) (rest:List Nat) :
  Held (tk h c p).2∧items p (h++c::rest)=(tk h c p).1++items (p+h.length+1 - (tk h c p).2.length) ((tk h c p).2++rest):=by
 cases H with
 | h0 =>
  by_cases h1:c=91
  ·subst h1;refine ⟨Held.h1,?_⟩;simp [tk,Qca]
  ·have:tk [] c p=([own p c],[]):=by simp [tk,Qca,markB,h1,Qcl]
   rw [this];refine ⟨Held.h0,?_⟩;simp [Qbd h1]
 | h1 =>
  by_cases h2:c=93
  ·subst h2
   have:tk [91] 93 p=([item p QdG []],[]):=by simp [tk,Qca,markB,QoS]
   rw [this];refine ⟨Held.h0,?_⟩;show items p (91::93::rest)=_;rw [QfF (k:=QdG) (v:=[]) (n:=1) rfl];simp [Int.add_assoc]
  ·by_cases h1:c=91
   ·subst h1
    have:tk [91] 91 p=([item p QaU [91]],[]):=by simp [tk,Qca,markB,Qk2]
    rw [this];refine ⟨Held.h0,?_⟩;show items p (91::91::rest)=_;rw [QfF (k:=QaU) (v:=[91]) (n:=1) rfl];simp [Int.add_assoc]
   ·by_cases h3:c=47
    ·subst h3
     have:tk [91] 47 p=([],[91,47]):=by simp [tk,Qca]
     rw [this];exact ⟨Held.h2,by simp; congr 1; omega⟩
    ·by_cases h4:col c=true
     ·have:tk [91] c p=([],[91,c]):=by simp [tk,Qca,h4]
      rw [this];exact ⟨Held.h3 c h4,by simp; congr 1; omega⟩
     ·have:tk [91] c p=([own p 91,own (p+1) c],[]):=by simp [tk,Qca,markB,h1,h2,h3,h4,Qcl]
      rw [this];refine ⟨Held.h0,?_⟩;show items p (91::c::rest)=_;rw [Qb9 (by simp [Qbx,h1,h2,h3,h4]),Qbd h1];simp
 | h2 =>
  by_cases h4:col c=true
  ·have:tk [91,47] c p=([],[91,47,c]):=by simp [tk,Qca,h4]
   rw [this];exact ⟨Held.h4 c h4,by simp; congr 1; omega⟩
  ·by_cases h1:c=91
   ·subst h1
    have:tk [91,47] 91 p=([own p 91,own (p+1) 47],[91]):=by simp [tk,Qca,markB,QcT,Qk2,Qcl]
    rw [this];refine ⟨Held.h1,?_⟩;show items p (91::47::91::rest)=_;rw [Qb9 (by simp [Qbx,Qdd,QcT,Qk2]),Qbd (by decide)];simp;congr 1;omega
   ·have:tk [91,47] c p=([own p 91,own (p+1) 47,own (p+1+1) c],[]):=by simp [tk,Qca,markB,h1,h4,QcT,Qcl]
    rw [this];refine ⟨Held.h0,?_⟩;show items p (91::47::c::rest)=_;rw [Qb9 (by simp [Qbx,Qdd,QcT,h4]),Qbd (by decide),Qbd h1];simp;congr 1;omega
 | h3 x hx =>
  obtain ⟨n1,n2,n3,n4,n5⟩:=Qgk hx
  by_cases h2:c=93
  ·subst h2
   have:tk [91,x] 93 p=([item p Qdh [x]],[]):=by simp [tk,Qca,markB,QoS,hx]
   rw [this];refine ⟨Held.h0,?_⟩;show items p (91::x::93::rest)=_;rw [QfF (k:=Qdh) (v:=[x]) (n:=2) (by simp [Qbx,Qd0,n1,n2,hx])];simp;congr 1;omega
  ·by_cases h1:c=91
   ·subst h1
    have:tk [91,x] 91 p=([own p 91,own (p+1) x],[91]):=by simp [tk,Qca,markB,n3,Qcl]
    rw [this];refine ⟨Held.h1,?_⟩;show items p (91::x::91::rest)=_;rw [Qb9 (by simp [Qbx,Qd0,n1,n2,hx]),Qbd n1];simp;congr 1;omega
   ·have:tk [91,x] c p=([own p 91,own (p+1) x,own (p+1+1) c],[]):=by simp [tk,Qca,markB,h1,h2,n3,Qcl]
    rw [this];refine ⟨Held.h0,?_⟩;show items p (91::x::c::rest)=_;rw [Qb9 (by simp [Qbx,Qd0,n1,n2,hx,h2]),Qbd n1,Qbd h1];simp;congr 1;omega
 | h4 x hx =>
  obtain ⟨n1,n2,n3,n4,n5⟩:=Qgk hx
  by_cases h2:c=93
  ·subst h2
   have:tk [91,47,x] 93 p=([item p Qb0 [x]],[]):=by simp [tk,Qca,markB,hx]
   rw [this];refine ⟨Held.h0,?_⟩;show items p (91::47::x::93::rest)=_;rw [QfF (k:=Qb0) (v:=[x]) (n:=3) (by simp [Qbx,Qdd,Qfh,QcT,hx])];simp;congr 1;omega
  ·by_cases h1:c=91
   ·subst h1
    have:tk [91,47,x] 91 p=([own p 91,own (p+1) 47,own (p+1+1) x],[91]):=by simp [tk,Qca,markB,Qcl]
    rw [this];refine ⟨Held.h1,?_⟩;show items p (91::47::x::91::rest)=_;rw [Qb9 (by simp [Qbx,Qdd,Qfh,QcT,hx]),Qbd (by decide),Qbd n1];simp;congr 1;omega
   ·have:tk [91,47,x] c p=([own p 91,own (p+1) 47,own (p+1+1) x,own (p+1+1+1) c],[]):=by simp [tk,Qca,markB,h1,h2,Qcl]
    rw [this];refine ⟨Held.h0,?_⟩;show items p (91::47::x::c::rest)=_;rw [Qb9 (by simp [Qbx,Qdd,Qfh,QcT,hx,h2]),Qbd (by decide),Qbd n1,Qbd h1];simp;congr 1;omega
theorem QmV {h:List Nat} (H:Held h) (p:Int):items p h=Qcl p h:=by
 cases H with
 | h0=>rw [Qci]; rfl
 | h1=>rw [Qb9 rfl,Qci]; rfl
 | h2=>rw [Qb9 rfl,Qbd (by decide),Qci]; rfl
 | h3 x hx =>
  obtain ⟨n1,n2,n3,n4,n5⟩:=Qgk hx;rw [Qb9 (by simp [Qbx,Qd0,n1,n2,hx]),Qbd n1,Qci]; rfl
 | h4 x hx =>
  obtain ⟨n1,n2,n3,n4,n5⟩:=Qgk hx;rw [Qb9 (by simp [Qbx,Qdd,Qfh,QcT,hx]),Qbd (by decide),Qbd n1,Qci]; rfl
def Qbu:List Nat→Int→List Nat→List D×List Nat
 | h,_,[]=>([],h)
 | h,p,c::t=>((tk h c (p - h.length)).1++(Qbu (tk h c (p - h.length)).2 (p+1) t).1,(Qbu (tk h c (p - h.length)).2 (p+1) t).2)
theorem QjK:∀(t:List Nat) {h:List Nat} (_:Held h) (p:Int) (rest:List Nat),Held (Qbu h p t).2∧items (p - h.length) (h++(t++rest))=(Qbu h p t).1++items (p+t.length - (Qbu h p t).2.length) ((Qbu h p t).2++rest)
 | [],h,H,p,rest=>⟨H,by simp [Qbu]⟩
 | c::t,h,H,p,rest=>by
  obtain ⟨a,b⟩:=Qgu H c (p - h.length) (t++rest);obtain ⟨a2,b2⟩:=QjK t a (p+1) rest;refine ⟨a2,?_⟩;show items (p - h.length) (h++c::(t++rest))=_;rw [b]
  have e:p - (h.length:Int)+h.length+1 - ((tk h c (p - h.length)).2.length:Int)=p+1 - ((tk h c (p - h.length)).2.length:Int):=by omega
  rw [e,b2];show _=((tk h c (p - h.length)).1++(Qbu (tk h c (p - h.length)).2 (p+1) t).1)++items (p+((c::t).length:Nat) - ((Qbu (tk h c (p - h.length)).2 (p+1) t).2.length:Int)) ((Qbu (tk h c (p - h.length)).2 (p+1) t).2++rest);rw [zP]
  have e2:p+1+(t.length:Int)=p+((c::t).length:Nat):=by simp; omega
  rw [e2]
theorem Qr0 (t:List Nat):Held (Qbu [] 0 t).2∧items 0 t=(Qbu [] 0 t).1++Qcl (t.length - (Qbu [] 0 t).2.length) (Qbu [] 0 t).2:=by
 obtain ⟨a,b⟩:=QjK t Held.h0 0 [];refine ⟨a,?_⟩;simp at b;rw [b,QmV a]
@[simp] theorem QwY {l:List D}:QuK [.lst l]=some (.lst l):=rfl
def fzF (f:Fl):Fl:=match f with
 | .rt d O'=>.rt d O'
 | _=>.no
@[simp] theorem QxZ {m:MS}{ρ:Qak}{O:Qac}:Qjf m ρ O=fzF (m ρ O):=rfl
@[simp] theorem Qxn {d:D}{O:Qac}:fzF (.rt d O) = .rt d O:=rfl
def ziF (d e:D) (O:Qac):Res (List D):=match d,e with
 | .lst ds,.lst es=>.ok (Qdj ds es) O
 | _,_=>.no
@[simp] theorem Qyb {ma mb:M D}{ρ:Qak}{O:Qac}:QkR ma mb ρ O=(ma ρ O).bind fun d O1=>(mb ρ O1).bind fun e O2=>ziF d e O2:=by
 unfold QkR;congr 1
@[simp] theorem QxO {ds es:List D}{O:Qac}:ziF (.lst ds) (.lst es) O = .ok (Qdj ds es) O:=rfl
end L2
namespace L2
open PySem
section
variable {ρ ρ':Qak}{O O' O1 O2:Qac}{d:D}{x:Xc}{a b m:MS}{r:M D}{t:M Bool}{ma:M (List D)}{c:List D→Qac→Res D}{ds:List D}
theorem QaO (h:a ρ O = .nx ρ' O'):Qai a b ρ O=b ρ' O':=by rw [QiB,h,Qms]
theorem Qfb (h:a ρ O = .rt d O'):Qai a b ρ O = .rt d O':=by rw [QiB,h,Qsa]
theorem QfD (h:a ρ O = .ex x O'):Qai a b ρ O = .ex x O':=by rw [QiB,h]; rfl
theorem QnX (h:t ρ O = .ok true O'):Qem t a b ρ O=a ρ O':=by unfold Qem; rw [h]; rfl
theorem QqD (h:t ρ O = .ok false O'):Qem t a b ρ O=b ρ O':=by unfold Qem; rw [h]; rfl
theorem Qo6 (h:t ρ O = .ok false O'):Qem t a Qav ρ O = .nx ρ O':=QqD h
theorem Qc8 (h:m ρ O = .nx ρ' O'):msN m ρ O = .nx ρ' O':=by unfold msN; rw [h]
theorem QkF (h:m ρ O = .rt d O'):msN m ρ O = .rt d O':=by unfold msN; rw [h]
theorem QiY (h:ma ρ O = .ok ds O1):Qcs c ma ρ O=c ds O1:=by unfold Qcs; rw [h]
theorem Qu0 (h:r ρ O = .ok d O'):Qd1 r ρ O = .nx ρ O':=by unfold Qd1; rw [h]
theorem QpU (h:r ρ O = .ex x O'):Qd1 r ρ O = .ex x O':=by unfold Qd1; rw [h]
theorem QvZ {i:Nat} (h:r ρ O = .ok d O'):Qfq i r ρ O = .nx (ρ.set i (some d)) O':=by unfold Qfq; rw [h]
theorem QrM {i:Nat} (h:r ρ O = .ex x O'):Qfq i r ρ O = .ex x O':=by unfold Qfq; rw [h]
theorem Qo5 {cc nn:Str} (h:r ρ O = .ok d O'):Qdx cc nn r ρ O = .ex ⟨cc,[(nn,d)]⟩ O':=by unfold Qdx; rw [h]
theorem QqW {cl mm:Str}{cf:List D→Qac→Res D}{n:Nat}{fs:List (Str×D)} (h1:r ρ O = .ok (.ob n) O1) (h2:O1[n]? = some (.ins cl fs)) (h3:(fs.lookup mm).isNone=true) (h4:ma ρ O1 = .ok ds O2):Qgl cl mm cf r ma ρ O=cf (.ob n::ds) O2:=by
 unfold Qgl;rw [h1];dsimp only;rw [h2];dsimp only;rw [if_pos ⟨rfl,h3⟩,h4]
theorem Qpg {g:MG} (h:ma ρ O = .ok ds O'):Qdo ma g b ρ O=QaS g b ds ρ O':=by unfold Qdo; rw [h]
theorem QkB {g:MG} (h:ma ρ O = .ok ds O'):QbP ma g b ρ O=QaS g b ds ρ O':=by rw [QnU,h,QrU]
theorem Qsg {g:MG} (h:ma ρ O = .ex x O'):QbP ma g b ρ O = .ex x O':=by rw [QnU,h]; rfl
theorem Qvv (h:r ρ O = .ok (.lst ds) O'):Qc1 r ρ O = .ok ds O':=by unfold Qc1; rw [h]; rfl
theorem QpH (h:r ρ O = .ex x O'):Qc1 r ρ O = .ex x O':=by unfold Qc1; rw [h]; rfl
theorem QrW {hs:List HM} (h:r ρ O = .ex x O'):Qhj r hs ρ O=Qfn hs x ρ O':=by unfold Qhj; rw [h]
theorem Qql {ys ns:List Str}{i:Nat}{rest:List HM} (hy:ys.contains x.cls=true) (h:m (ρ.set i (some (.ob O.length))) (O ++ [.xc x.cls x.fs]) = .rt d O'):Qfn ((ys,ns,i,m)::rest) x ρ O = .rt d O':=by
 unfold Qfn;rw [if_pos hy,h]
theorem Quy {tb:List (Str×Bool)}{n:Nat}{cc:Str}{fs:List (Str×D)}{bb:Bool} (h:r ρ O = .ok (.ob n) O') (h2:O'[n]? = some (.xc cc fs)) (h3:tb.lookup cc=some bb):QfY tb r ρ O = .ok (.bl bb) O':=by
 unfold QfY;rw [h];show (match O'[n]? with | some (.xc c _)=>(match tb.lookup c with | some b=>Res.ok (D.bl b) O' | none=>.no) | _=>.no)=_;rw [h2];dsimp only;rw [h3]
theorem QvT {f:Str}{L:List Str}{n:Nat}{cc:Str}{fs:List (Str×D)} (h:r ρ O = .ok (.ob n) O') (h2:O'[n]? = some (.xc cc fs)) (h3:L.contains cc=true) (h4:fs.lookup f=some d):QiO f L r ρ O = .ok d O':=by
 unfold QiO;rw [h];show (match O'[n]? with | some (.xc c fs)=>(if L.contains c=true then (match fs.lookup f with | some d=>Res.ok d O' | none=>.no) else .no) | _=>.no)=_;rw [h2];dsimp only;rw [if_pos h3,h4]
end
end L2
namespace K36
open PySem L2
seal VE SE OE WE TsE TwE AE VS VSs VG VGs VI VIc VO VIf DPE VSF Qfx VEF VIF VEH VHs
def top (i:Nat):Stmt:=PySem.Challenge.pw_outweave_k36_texts_unshaded.main.body.getD i (.Pass ⟨0,0,0,0⟩)
local macro_rules | `(tactic| trivial) => `(tactic| exact ⟨rfl, rfl, rfl, by decide +kernel, rfl, by decide +kernel, by decide +kernel⟩)
section
variable {Pr:Program}{w:World}{K:Frag}{mg:Str→Option Value}{base:Heap}
abbrev Qce:Stmt:=inClass (top 3) 0
theorem Qo0 (Qqt:Qnl K mg "NoSign" "at" "NoSign.__init__" Qce):Qlu Pr w K mg base "NoSign" "at" 1:=Qqt.can (sf:="self") (pn:="at") (by trivial) (fun _ _ _ _ _ _=>Qbb fun _=>Qbb fun _=>QbO rfl) rfl (.inl rfl) (.inl rfl) (fun _ _ _=>rfl)
abbrev Qho:Stmt:=top 19
theorem Qmy:QaI ["thing"] ["thing"] (Qah Qho):=by trivial
def Qhl:MS :=
  (Qaw (QcY (Qdf "str" (Qaa 0)) (QcY (Qad gEq (QaV Qbq (Qab (Qaa 0) Qaf)) (mC (.int 1))) (Qhq gLe gLe (mC (.str [32])) (Qaa 0) (mC (.str [125]))))))
def QdC:List D→Qac→Res D:=Qa9 1 Qhl
abbrev Qj0 (Pr:Program) (w:World) (K:Frag) (mg:Str→Option Value) (base:Heap):Prop:=Can Pr w K mg base "is_sign" ["thing"] 1 (vSp K mg [.s] (rV K) QdC)
theorem QmF (QhE:Def K mg "is_sign" Qho)
  (B:Blt mg)
  (Qfw:∃u,mg "FIRST_SIGN" = some u∧RelV (.str (S [32])) u)
  (QfO:∃u,mg "LAST_SIGN" = some u∧RelV (.str (S [125])) u) :
  Qj0 Pr w K mg base:=by
 refine Qcv (k:=0) (b:=Qhl) QhE Qmy (fun _ _ _ _ _ _=>Qbb fun _=>QbO rfl) [.s] [] Qbj (fun _ _ _ _=>Rp.non) (body:=fun f cdv A outer s H E hr P=>?_);refine Qar ?_;refine QaG ?_;refine Qdq ?_ ?_;refine QaJ (Qfm "str" (hb:=Qlz) B.isinstance_ B.str_ (Qap 0));refine Qdq ?_ ?_;refine QaJ ?_;refine Qdm (QaY hr) ?_ (Qae Qaq) (QaF _);refine Qay ?_;refine Qbn (ms:=[.s]) (hv:=QbW) QbZ B.len_ ?_;refine QaH (Qap 0) Qao;refine Qfj ?_;refine QaJ ?_;refine QpA QqN QqN ?_ (Qap 0) ?_;refine Qae ?_;refine Qdz Qfw (fun _ _ _=>Rp.str);refine Qae ?_;refine Qdz QfO (fun _ _ _=>Rp.str)
abbrev Qf3:Stmt:=top 20
theorem Qlj:QaI ["thing"] ["thing"] (Qah Qf3):=by trivial
def QfV:MS :=
  (Qaw (QcY (Qdf "str" (Qaa 0)) (QcY (Qad gEq (QaV Qbq (Qab (Qaa 0) Qaf)) (mC (.int 1))) (Qad (gIn false) (Qaa 0) (mC (.str [97,98,99,100,101,102,103,104,46]))))))
def Qck:List D→Qac→Res D:=Qa9 1 QfV
abbrev Qf8 (Pr:Program) (w:World) (K:Frag) (mg:Str→Option Value) (base:Heap):Prop:=Can Pr w K mg base "is_colour" ["thing"] 1 (vSp K mg [.s] (rV K) Qck)
theorem Qle (QfN:Def K mg "is_colour" Qf3)
  (B:Blt mg)
  (Qhi:∃u,mg "COLOURS" = some u∧RelV (.str (S [97,98,99,100,101,102,103,104,46])) u) :
  Qf8 Pr w K mg base:=by
 refine Qcv (k:=0) (b:=QfV) QfN Qlj (fun _ _ _ _ _ _=>Qbb fun _=>QbO rfl) [.s] [] Qbj (fun _ _ _ _=>Rp.non) (body:=fun f cdv A outer s H E hr P=>?_);refine Qar ?_;refine QaG ?_;refine Qdq ?_ ?_;refine QaJ (Qfm "str" (hb:=Qlz) B.isinstance_ B.str_ (Qap 0));refine Qdq ?_ ?_;refine QaJ ?_;refine Qdm (QaY hr) ?_ (Qae Qaq) (QaF _);refine Qay ?_;refine Qbn (ms:=[.s]) (hv:=QbW) QbZ B.len_ ?_;refine QaH (Qap 0) Qao;refine Qfj ?_;refine QaJ ?_;refine Qdm QqL (Qap 0) ?_ (by with_unfolding_all rfl);refine Qae ?_;refine Qdz Qhi (fun _ _ _=>Rp.str)
abbrev Qhn:Stmt:=top 21
theorem QgO:QaI ["text","place","sign"] ["text"] (Qah Qhn):=by trivial
def Qcu:MS :=
  (Qai (Qem (QbQ (Qa7 (Qdf "str" (Qaa 0)))) (Qai (Qdx "NoSign" "at" (mC (.int 0)))
  Qav) Qav)
  (Qai (Qdo (QgW (Qaa 0)) (Qfl 2 (Qbe (mgN 1) (Qbe (mgN 2) Qdl))) (Qai (Qem (QbQ (QbD (Qa7 (QaB QdC (Qab (Qaa 2) Qaf))) (QbD (Qam (Qad gEq (Qaa 2) (mC (.str [10])))) (Qam (Qad gEq (Qaa 2) (mC (.str [9]))))))) (Qai (Qdx "NoSign" "at" (Qaa 1))
  Qav) Qav)
  Qav))
  Qav))
def Qb5:List D→Qac→Res D:=Qa9 3 Qcu
abbrev Qke (Pr:Program) (w:World) (K:Frag) (mg:Str→Option Value) (base:Heap):Prop:=QgR Pr w K mg base "checked" ["text"] 3 (QcS K mg [.s] (rV K) Qb5)
theorem QmN (Qhv:Def K mg "checked" Qhn)
  (B:Blt mg)
  (QcG:∃u,mg "ANEW_SIGN" = some u∧RelV (.str (S [9])) u)
  (QdE:∃u,mg "ROW_END" = some u∧RelV (.str (S [10])) u)
  (XI_NoSign:Qlu Pr w K mg base "NoSign" "at" 1)
  (Qg7:Qj0 Pr w K mg base) :
  Qke Pr w K mg base:=by
 refine Qnr (k:=2) (b:=Qcu) Qhv QgO (fun _ _ _ _ _ _=>Qbb fun _=>QbO rfl) [.s] [.v,.v] Qbj (fun _ _ _ _=>Rp.non) (body:=fun f cdv A outer s H E hr P=>?_)
 refine Qa6 (Qq0 (Qdn (QbS (Qay (Qfm "str" (hb:=Qlz) B.isinstance_ B.str_ (Qap 0))))) (Qa6 (QjT XI_NoSign (hr.mono (by decide)) rfl Qaq)
   Qcq) Qcq) (Qa6 (QnC rfl (Qmb B.enumerate_ (Qgq 0)) (QiA 2 rfl (Qcz (QbT (i:=1) QgO.nd rfl (.inl rfl)) (Qcz (QbT (i:=2) QgO.nd rfl (.inl rfl)) QhU))) (Qa6 (Qq0 (Qdn (QeI (Qel (QbS (Qae (Qa2 Qg7 (hr.mono (by decide)) (QaH (Qae (Qag 2)) Qao)))) (Qel (QaN (QaY hr) (Qae (Qag 2)) (Qae (Qdz QdE (fun _ _ _=>Rp.str))) (QaF _)) (Qex (QaN (QaY hr) (Qae (Qag 2)) (Qae (Qdz QcG (fun _ _ _=>Rp.str))) (QaF _))))))) (Qa6 (QjT XI_NoSign (hr.mono (by decide)) rfl (Qag 1))
   Qcq) Qcq)
   Qcq))
   Qcq)
abbrev Qf1:Stmt:=top 23
theorem Qla:QaI ["sign","ink"] ["sign","ink"] (Qah Qf1):=by trivial
def Qei:MS :=
  (Qaw (mIf (Qam (Qad gEq (Qaa 0) (mC (.str [32])))) (mC (.str [46])) (mG (Qaa 1))))
def Qcn:List D→Qac→Res D:=Qa9 2 Qei
abbrev Qh1 (Pr:Program) (w:World) (K:Frag) (mg:Str→Option Value) (base:Heap):Prop:=Can Pr w K mg base "shown_ink" ["sign","ink"] 1 (vSp K mg [.s,.s] (rV K) Qcn)
theorem Qk7 (Qf2:Def K mg "shown_ink" Qf1)
  (B:Blt mg) :
  Qh1 Pr w K mg base:=by
 refine Qcv (k:=0) (b:=Qei) Qf2 Qla (fun _ _ _ _ _ _=>Qbb fun _=>Qbb fun _=>QbO rfl) [.s,.s] [] Qbj (fun _ _ _ _=>Rp.non) (body:=fun f cdv A outer s H E hr P=>?_);refine Qar ?_;refine QaG ?_;refine QqT ?_ (Qal [46]) (QcK (Qap 1));refine QaN (QaY hr) (Qap 0) (Qae (Qal [32])) (QaF _)
abbrev Qg6:Stmt:=top 25
theorem QmY:QaI ["text"] ["text"] (Qah Qg6):=by trivial
def QdD:MS :=
  (Qai (QaL (Qam (Qad gEq (Qaa 0) (mC (.str [91,93])))) (Qaw (Qbt (Qab (mC (.str [112,108,97,105,110])) (Qab (mC (.str [])) Qaf)))) Qav)
  (Qai (QaL (Qam (Qad gEq (Qaa 0) (mC (.str [91,91])))) (Qaw (Qbt (Qab (mC (.str [115,105,103,110])) (Qab (mC (.str [91])) Qaf)))) Qav)
  (Qai (QaL (Qbp (Qam (Qad gEq (QaV Qbq (Qab (Qaa 0) Qaf)) (mC (.int 3)))) (Qbp (Qam (Qad gEq (Qad gIx (Qaa 0) (mC (.int 0))) (mC (.str [91])))) (Qbp (Qa7 (QaB Qck (Qab (Qad gIx (Qaa 0) (mC (.int 1))) Qaf))) (Qam (Qad gEq (Qad gIx (Qaa 0) (mC (.int 2))) (mC (.str [93]))))))) (Qaw (Qbt (Qab (mC (.str [105,110,107])) (Qab (Qad gIx (Qaa 0) (mC (.int 1))) Qaf)))) Qav)
  (Qai (QaL (Qbp (Qam (Qad gEq (QaV Qbq (Qab (Qaa 0) Qaf)) (mC (.int 4)))) (Qbp (Qa7 (QhP (mG (Qaa 0)) (mC (.str [91,47])))) (Qbp (Qa7 (QaB Qck (Qab (Qad gIx (Qaa 0) (mC (.int 2))) Qaf))) (Qam (Qad gEq (Qad gIx (Qaa 0) (mC (.int 3))) (mC (.str [93]))))))) (Qaw (Qbt (Qab (mC (.str [103,114,111,117,110,100])) (Qab (Qad gIx (Qaa 0) (mC (.int 2))) Qaf)))) Qav)
  (Qaw (mC .non))))))
def QcW:List D→Qac→Res D:=Qa9 1 QdD
abbrev QjN (Pr:Program) (w:World) (K:Frag) (mg:Str→Option Value) (base:Heap):Prop:=Can Pr w K mg base "mark_of" ["text"] 2 (vSp K mg [.s] (rV K) QcW)
theorem Qnh (Qht:Def K mg "mark_of" Qg6)
  (B:Blt mg)
  (Qb7:Qf8 Pr w K mg base) :
  QjN Pr w K mg base:=by
 refine Qcv (k:=1) (b:=QdD) Qht QmY (fun _ _ _ _ _ _=>Qbb fun _=>QbO rfl) [.s] [] Qbj (fun _ _ _ _=>Rp.non) (body:=fun f cdv A outer s H E hr P=>?_);refine Qan ?_ ?_;refine Qa0 ?_ ?_ QaQ;refine QaN (QaY hr) (Qap 0) (Qae (Qal [91,93])) (QaF _);refine Qar ?_;refine QaG ?_;refine QbR 2 ?_;refine QaD (Qal [112,108,97,105,110]) ?_;refine QaD (Qal []) Qao;refine Qan ?_ ?_;refine Qa0 ?_ ?_ QaQ;refine QaN (QaY hr) (Qap 0) (Qae (Qal [91,91])) (QaF _);refine Qar ?_;refine QaG ?_;refine QbR 2 ?_;refine QaD (Qal [115,105,103,110]) ?_;refine QaD (Qal [91]) Qao;refine Qan ?_ ?_;refine Qa0 ?_ ?_ QaQ;refine QeI ?_
 refine Qdp ?_ ?_;refine QaN (QaY hr) ?_ (Qae Qaq) (QaF _);refine Qay ?_;refine Qbn (ms:=[.s]) (hv:=QbW) QbZ B.len_ ?_;refine QaH (Qap 0) Qao;refine Qdp ?_ ?_;refine QaN (QaY hr) ?_ (Qae (Qal [91])) (QaF _);refine Qae ?_;refine Qba (Qap 0) (Qae Qaq);refine Qdp ?_ ?_;refine QbS ?_;refine Qae ?_;refine Qa2 Qb7 (hr.mono (by decide)) ?_;refine QaH ?_ Qao;refine Qae ?_;refine Qba (Qap 0) (Qae Qaq);refine QhJ ?_;refine QaN (QaY hr) ?_ (Qae (Qal [93])) (QaF _);refine Qae ?_;refine Qba (Qap 0) (Qae Qaq);refine Qar ?_;refine QaG ?_;refine QbR 2 ?_;refine QaD (Qal [105,110,107]) ?_;refine QaD ?_ Qao;refine Qba (Qap 0) (Qae Qaq)
 refine Qan ?_ ?_;refine Qa0 ?_ ?_ QaQ;refine QeI ?_;refine Qdp ?_ ?_;refine QaN (QaY hr) ?_ (Qae Qaq) (QaF _);refine Qay ?_;refine Qbn (ms:=[.s]) (hv:=QbW) QbZ B.len_ ?_;refine QaH (Qap 0) Qao;refine Qdp ?_ ?_;refine QbS ?_;refine Qay ?_;refine Qkf (QcK (Qap 0)) (Qal [91,47]);refine Qdp ?_ ?_;refine QbS ?_;refine Qae ?_;refine Qa2 Qb7 (hr.mono (by decide)) ?_;refine QaH ?_ Qao;refine Qae ?_;refine Qba (Qap 0) (Qae Qaq);refine QhJ ?_;refine QaN (QaY hr) ?_ (Qae (Qal [93])) (QaF _);refine Qae ?_;refine Qba (Qap 0) (Qae Qaq);refine Qar ?_;refine QaG ?_;refine QbR 2 ?_;refine QaD (Qal [103,114,111,117,110,100]) ?_
 refine QaD ?_ Qao;refine Qba (Qap 0) (Qae Qaq);refine Qar (QaG Qgr)
abbrev Qda:Stmt:=top 26
theorem Qhx:QaI ["text"] ["text"] (Qah Qda):=by trivial
def QbJ:MS :=
  (Qai (QaL (QbD (Qam (Qad gEq (Qaa 0) (mC (.str [91])))) (Qam (Qad gEq (Qaa 0) (mC (.str [91,47]))))) (Qaw (mC (.bl true))) Qav)
  (Qai (QaL (Qam (Qad gEq (QaV Qbq (Qab (Qaa 0) Qaf)) (mC (.int 2)))) (Qaw (QcY (Qad gEq (Qad gIx (Qaa 0) (mC (.int 0))) (mC (.str [91]))) (QaB Qck (Qab (Qad gIx (Qaa 0) (mC (.int 1))) Qaf)))) Qav)
  (Qaw (QcY (Qad gEq (QaV Qbq (Qab (Qaa 0) Qaf)) (mC (.int 3))) (QcY (QhP (mG (Qaa 0)) (mC (.str [91,47]))) (QaB Qck (Qab (Qad gIx (Qaa 0) (mC (.int 2))) Qaf)))))))
def Qbs:List D→Qac→Res D:=Qa9 1 QbJ
abbrev QeX (Pr:Program) (w:World) (K:Frag) (mg:Str→Option Value) (base:Heap):Prop:=Can Pr w K mg base "may_become_mark" ["text"] 2 (vSp K mg [.s] (rV K) Qbs)
theorem Qhf (Qdi:Def K mg "may_become_mark" Qda)
  (B:Blt mg)
  (Qb7:Qf8 Pr w K mg base) :
  QeX Pr w K mg base:=by
 refine Qcv (k:=1) (b:=QbJ) Qdi Qhx (fun _ _ _ _ _ _=>Qbb fun _=>QbO rfl) [.s] [] Qbj (fun _ _ _ _=>Rp.non) (body:=fun f cdv A outer s H E hr P=>?_);refine Qan ?_ ?_;refine Qa0 ?_ ?_ QaQ;refine QeI ?_;refine Qel ?_ ?_;refine QaN (QaY hr) (Qap 0) (Qae (Qal [91])) (QaF _);refine Qex ?_;refine QaN (QaY hr) (Qap 0) (Qae (Qal [91,47])) (QaF _);refine Qar (QaG Qc3);refine Qan ?_ ?_;refine Qa0 ?_ ?_ QaQ;refine QaN (QaY hr) ?_ (Qae Qaq) (QaF _);refine Qay ?_;refine Qbn (ms:=[.s]) (hv:=QbW) QbZ B.len_ ?_;refine QaH (Qap 0) Qao;refine Qar ?_;refine QaG ?_;refine Qdq ?_ ?_;refine QaJ ?_;refine Qdm (QaY hr) ?_ (Qae (Qal [91])) (QaF _)
 refine Qae ?_;refine Qba (Qap 0) (Qae Qaq);refine Qfj ?_;refine Qa2 Qb7 (hr.mono (by decide)) ?_;refine QaH ?_ Qao;refine Qae ?_;refine Qba (Qap 0) (Qae Qaq);refine Qar ?_;refine QaG ?_;refine Qdq ?_ ?_;refine QaJ ?_;refine Qdm (QaY hr) ?_ (Qae Qaq) (QaF _);refine Qay ?_;refine Qbn (ms:=[.s]) (hv:=QbW) QbZ B.len_ ?_;refine QaH (Qap 0) Qao;refine Qdq ?_ ?_;refine QaJ ?_;refine Qkf (QcK (Qap 0)) (Qal [91,47]);refine Qfj ?_;refine Qa2 Qb7 (hr.mono (by decide)) ?_;refine QaH ?_ Qao;refine Qae ?_;refine Qba (Qap 0) (Qae Qaq)
abbrev Qgx:Stmt:=top 27
theorem QlP:QaI ["place","sign"] ["place","sign"] (Qah Qgx):=by trivial
def QgB:MS :=
  (Qai (QaL (Qam (Qad gEq (Qaa 1) (mC (.str [10])))) (Qaw (Qbt (Qab (mG (Qaa 0)) (Qab (mC (.str [101,110,100])) (Qab (mC (.str [])) Qaf))))) Qav)
  (Qai (QaL (Qam (Qad gEq (Qaa 1) (mC (.str [9])))) (Qaw (Qbt (Qab (mG (Qaa 0)) (Qab (mC (.str [97,110,101,119])) (Qab (mC (.str [])) Qaf))))) Qav)
  (Qaw (Qbt (Qab (mG (Qaa 0)) (Qab (mC (.str [115,105,103,110])) (Qab (mG (Qaa 1)) Qaf)))))))
def QdM:List D→Qac→Res D:=Qa9 2 QgB
abbrev QiP (Pr:Program) (w:World) (K:Frag) (mg:Str→Option Value) (base:Heap):Prop:=Can Pr w K mg base "own_item" ["place","sign"] 1 (vSp K mg [.s,.s] (rV K) QdM)
theorem QlK (QgJ:Def K mg "own_item" Qgx)
  (B:Blt mg)
  (QcG:∃u,mg "ANEW_SIGN" = some u∧RelV (.str (S [9])) u)
  (QdE:∃u,mg "ROW_END" = some u∧RelV (.str (S [10])) u) :
  QiP Pr w K mg base:=by
 refine Qcv (k:=0) (b:=QgB) QgJ QlP (fun _ _ _ _ _ _=>Qbb fun _=>Qbb fun _=>QbO rfl) [.s,.s] [] Qbj (fun _ _ _ _=>Rp.non) (body:=fun f cdv A outer s H E hr P=>?_);refine Qan ?_ ?_;refine Qa0 ?_ ?_ QaQ;refine QaN (QaY hr) (Qap 1) ?_ (QaF _);refine Qae ?_;refine Qdz QdE (fun _ _ _=>Rp.str);refine Qar ?_;refine QaG ?_;refine QbR 3 ?_;refine QaD (QcK (Qap 0)) ?_;refine QaD (Qal [101,110,100]) ?_;refine QaD (Qal []) Qao;refine Qan ?_ ?_;refine Qa0 ?_ ?_ QaQ;refine QaN (QaY hr) (Qap 1) ?_ (QaF _);refine Qae ?_;refine Qdz QcG (fun _ _ _=>Rp.str);refine Qar ?_;refine QaG ?_;refine QbR 3 ?_;refine QaD (QcK (Qap 0)) ?_
 refine QaD (Qal [97,110,101,119]) ?_;refine QaD (Qal []) Qao;refine Qar ?_;refine QaG ?_;refine QbR 3 ?_;refine QaD (QcK (Qap 0)) ?_;refine QaD (Qal [115,105,103,110]) ?_;refine QaD (QcK (Qap 1)) Qao
abbrev Qd9:Stmt:=top 28
theorem Qk8:QaI ["place","signs"] ["place","signs"] (Qah Qd9):=by trivial
def Qgd:MS :=
  (Qaw (QhK (QgW (Qaa 1)) 2 [0] (Qfl 2 (Qbe (mgN 0) (Qbe (mgN 1) Qdl))) Qjj (QaB QdM (Qab (Qad Qas (Qaa 2) (Qaa 0)) (Qab (Qaa 1) Qaf)))))
def QcI:List D→Qac→Res D:=Qa9 2 Qgd
abbrev QfZ (Pr:Program) (w:World) (K:Frag) (mg:Str→Option Value) (base:Heap):Prop:=Can Pr w K mg base "own_items" ["place","signs"] 2 (vSp K mg [.s,.s] (rO K) QcI)
theorem QlI (Qf7:Def K mg "own_items" Qd9)
  (B:Blt mg)
  (QgG:QiP Pr w K mg base) :
  QfZ Pr w K mg base:=by
 refine Qcv (k:=1) (b:=Qgd) Qf7 Qk8 (fun _ _ _ _ _ _=>Qbb fun _=>Qbb fun _=>QbO rfl) [.s,.s] [] Qc4 (fun _ _ _ _=>.inl ⟨rfl,Rp.non⟩) (body:=fun f cdv A outer s H E hr P=>?_);refine Qar ?_;refine Qfd ?_;refine Qmi (Qah Qd9) ["place","signs"] ["k","sign"] [0] rfl ?_ (fun _ _ _ _ P=>?_) (fun _ _ _ _ P=>?_) (fun _ _ _ _ P=>?_);refine Qlv (Qmb B.enumerate_ (Qgq 1));refine QiA 2 rfl ?_;refine Qcz (QbT (i:=0) (show (Qbk ["place","signs"] ["k","sign"] [0]).Nodup by decide +kernel) rfl (.inl rfl)) ?_;refine Qcz (QbT (i:=1) (show (Qbk ["place","signs"] ["k","sign"] [0]).Nodup by decide +kernel) rfl (.inl rfl)) QhU
 exact QlX
 refine Qa2 QgG (hr.mono (by decide)) ?_;refine QaH ?_ ?_;refine Qay ?_;refine Qax QaR (Qap 2) (Qae (Qag 0));refine QaH (Qae (Qag 1)) Qao
abbrev Qdb:Stmt:=inClass (top 29) 0
theorem QhA:QaI ["self"] ["self"] (Qah Qdb):=by trivial
def Qdc:MS :=
  (Qai (Qdt ["Reader"] "held" (Qaa 0) (mC (.str [])))
  (Qdt ["Reader"] "place" (Qaa 0) (mC (.int 0))))
def QbI:List D→Qac→Res D:=Qa9 1 Qdc
abbrev QeY (Pr:Program) (w:World) (K:Frag) (mg:Str→Option Value) (base:Heap):Prop:=Qpn Pr w K mg base "Reader" ["self"] 1 (vSp K mg [.v] (rV K) QbI)
theorem Qhc (Qde:Qqp K mg "Reader" "Reader.__init__" Qdb)
  (B:Blt mg)
  (QaT:KC K mg "Reader" "held")
  (Qbc:KC K mg "Reader" "place") :
  QeY Pr w K mg base:=by
 refine QuY (k:=0) (b:=Qdc) Qde QhA (fun _ _ _ _ _ _=>Qbb fun _=>QbO rfl) [.v] [] Qbj (fun _ _ _ _=>Rp.non) (body:=fun f cdv A outer s H E hr P=>?_);refine Qan ?_ ?_;refine Qep (QbK QaT Qb3) (Qag 0) (Qal []);refine Qar ?_;refine Qep (QbK Qbc Qb3) (Qag 0) Qaq
abbrev QeR:Stmt:=inClass (top 29) 4
theorem Qcr:QaI ["self","sign","seen","first","mark","told"] ["self","sign"] (Qah QeR):=by trivial
def QeU:MS :=
  (Qai (Qat 2 (Qad Qas (Qgb ["Reader"] "held" (Qaa 0)) (Qaa 1)))
  (Qai (Qat 3 (Qad Qfk (Qgb ["Reader"] "place" (Qaa 0)) (QaV Qbq (Qab (Qgb ["Reader"] "held" (Qaa 0)) Qaf))))
  (Qai (Qdt ["Reader"] "place" (Qaa 0) (Qad Qas (Qgb ["Reader"] "place" (Qaa 0)) (mC (.int 1))))
  (Qai (QaL (Qa7 (QaB Qbs (Qab (Qaa 2) Qaf))) (Qai (Qdt ["Reader"] "held" (Qaa 0) (Qaa 2))
  (Qaw (QbF Qaf))) Qav)
  (Qai (Qat 4 (QaB QcW (Qab (Qaa 2) Qaf)))
  (Qai (QaL (Qam (QkG (Qaa 4))) (Qai (Qdt ["Reader"] "held" (Qaa 0) (mC (.str [])))
  (Qaw (QbF (Qab (Qbt (Qab (Qaa 3) (Qab (Qad gIx (Qaa 4) (mC (.int 0))) (Qab (Qad gIx (Qaa 4) (mC (.int 1))) Qaf)))) Qaf)))) Qav)
  (Qai (QaL (Qam (Qad gEq (Qaa 1) (mC (.str [91])))) (Qai (Qat 5 (QaB QcI (Qab (Qaa 3) (Qab (Qgb ["Reader"] "held" (Qaa 0)) Qaf))))
  (Qai (Qdt ["Reader"] "held" (Qaa 0) (mG (Qaa 1)))
  (Qaw (Qaa 5)))) Qav)
  (Qai (Qdt ["Reader"] "held" (Qaa 0) (mC (.str [])))
  (Qaw (QaB QcI (Qab (Qaa 3) (Qab (Qaa 2) Qaf))))))))))))
def QbM:List D→Qac→Res D:=Qa9 6 QeU
abbrev Qg4 (Pr:Program) (w:World) (K:Frag) (mg:Str→Option Value) (base:Heap):Prop:=QgY Pr w K mg base "Reader" "take" ["self","sign"] 3 (vSp K mg [.v,.s] (rO K) QbM)
theorem Qjd (QeK:QjA K mg "Reader" "take" "Reader.take" QeR)
  (B:Blt mg)
  (Qbc:KC K mg "Reader" "place")
  (QaT:KC K mg "Reader" "held")
  (Qdk:QeX Pr w K mg base)
  (Qhm:QjN Pr w K mg base)
  (Qcm:QfZ Pr w K mg base) :
  Qg4 Pr w K mg base:=by
 refine QqS (k:=2) (b:=QeU) QeK Qcr (fun _ _ _ _ _ _=>Qbb fun _=>Qbb fun _=>QbO rfl) [.v,.s] [.v,.v,.v,.o] Qc4 (fun _ _ _ _=>.inl ⟨rfl,Rp.non⟩) (body:=fun f cdv A outer s H E hr P=>?_);refine Qan ?_ ?_;refine QaP (i:=2) Qcr.nd rfl (.inl rfl) ?_;refine QaJ ?_;refine Qax QaR ?_ (Qap 1);refine Qae (Qey (QbK QaT Qb3) (Qag 0));refine Qan ?_ ?_;refine QaP (i:=3) Qcr.nd rfl (.inl rfl) ?_;refine QaJ ?_;refine Qax Qk6 ?_ ?_;refine Qae (Qey (QbK Qbc Qb3) (Qag 0));refine Qay ?_;refine Qbn (ms:=[.s]) (hv:=QbW) QbZ B.len_ ?_;refine QaH ?_ Qao;refine Qae (Qey (QbK QaT Qb3) (Qag 0));refine Qan ?_ ?_;refine Qep (QbK Qbc Qb3) (Qag 0) ?_
 refine QaJ ?_;refine Qax QaR ?_ (Qae Qaq);refine Qae (Qey (QbK Qbc Qb3) (Qag 0));refine Qan ?_ ?_;refine Qa0 ?_ ?_ QaQ;refine QbS ?_;refine Qae ?_;refine Qa2 Qdk (hr.mono (by decide)) ?_;refine QaH (Qae (Qag 2)) Qao;refine Qan ?_ ?_;refine Qep (QbK QaT Qb3) (Qag 0) (Qag 2);refine Qar ?_;refine Qfd (Qcb 0 Qao);refine Qan ?_ ?_;refine QaP (i:=4) Qcr.nd rfl (.inl rfl) ?_;refine Qa2 Qhm (hr.mono (by decide)) ?_;refine QaH (Qae (Qag 2)) Qao;refine Qan ?_ ?_;refine Qa0 ?_ ?_ QaQ;refine Qrt (Qae (Qag 4));refine Qan ?_ ?_;refine Qep (QbK QaT Qb3) (Qag 0) (Qal []);refine Qar ?_;refine Qfd ?_;refine Qcb 1 ?_
 refine QaD ?_ Qao;refine QbR 3 ?_;refine QaD (Qag 3) ?_;refine QaD ?_ ?_;refine Qba (Qae (Qag 4)) (Qae Qaq);refine QaD ?_ Qao;refine Qba (Qae (Qag 4)) (Qae Qaq);refine Qan ?_ ?_;refine Qa0 ?_ ?_ QaQ;refine QaN (QaY hr) (Qap 1) (Qae (Qal [91])) (QaF _);refine Qan ?_ ?_;refine Qgg (i:=5) Qcr.nd rfl (.inl rfl) ?_;refine Qgi Qcm (hr.mono (by decide)) ?_;refine QaH (Qae (Qag 3)) ?_;refine QaH ?_ Qao;refine Qae (Qey (QbK QaT Qb3) (Qag 0));refine Qan ?_ (Qar (QhM 5));refine Qep (QbK QaT Qb3) (Qag 0) (QcK (Qap 1));refine Qan ?_ ?_;refine Qep (QbK QaT Qb3) (Qag 0) (Qal []);refine Qar ?_;refine Qfd ?_;refine Qgi Qcm (hr.mono (by decide)) ?_
 refine QaH (Qae (Qag 3)) ?_;refine QaH (Qae (Qag 2)) Qao
abbrev QeG:Stmt:=inClass (top 29) 1
theorem Qd5:QaI ["self","piece","told","sign"] ["self","piece"] (Qah QeG):=by trivial
def Qcd:MS :=
  (Qai (Qd1 (Qcs Qb5 (Qab (Qaa 1) Qaf)))
  (Qai (msN (Qat 2 (QbF Qaf)))
  (Qai (Qdo (Qco (Qaa 1)) (mgN 3) (Qai (msN (QhV 2 (Qe6 "Reader" "take" QbM (Qaa 0) (Qab (Qaa 3) Qaf))))
  Qav))
  (Qai (msN (Qaw (Qaa 2)))
  Qav))))
def Qdw:List D→Qac→Res D:=Qa9 4 Qcd
abbrev Qg2 (Pr:Program) (w:World) (K:Frag) (mg:Str→Option Value) (base:Heap):Prop:=Qi3 Pr w K mg base "Reader" "feed" ["self","piece"] 4 (QcS K mg [.v,.s] (rO K) Qdw)
theorem QjJ (QeC:QjA K mg "Reader" "feed" "Reader.feed" QeG)
  (B:Blt mg)
  (Qhd:Qke Pr w K mg base)
  (QeJ:Qg4 Pr w K mg base) :
  Qg2 Pr w K mg base:=by
 refine Qto (k:=3) (b:=Qcd) QeC Qd5 (fun _ _ _ _ _ _=>Qbb fun _=>Qbb fun _=>QbO rfl) [.v,.s] [.o,.v] Qc4 (fun _ _ _ _=>.inl ⟨rfl,Rp.non⟩) (body:=fun f cdv A outer s H E hr P=>?_)
 refine Qa6 (QrJ (Qj9 Qhd (hr.mono (by decide)) (QaH (Qap 1) Qao))) (Qa6 (QeV (Qgg (i:=2) Qd5.nd rfl (.inl rfl) (Qcb 0 Qao)))
   (Qa6 (QnC rfl (Qlk (Qgq 1)) (QbT (i:=3) Qd5.nd rfl (.inl rfl)) (Qa6 (QeV (Qo2 2 (Qay (QsB QeJ (hr.mono (by decide)) (Qag 0) (QaH (Qae (Qag 3)) Qao)))))
   Qcq))
   (Qa6 (QeV (QhM 2))
   Qcq)))
abbrev QdN:Stmt:=inClass (top 29) 3
theorem Qfo:QaI ["self","told"] ["self"] (Qah QdN):=by trivial
def QdW:MS :=
  (Qai (Qat 1 (QaB QcI (Qab (Qad Qfk (Qgb ["Reader"] "place" (Qaa 0)) (QaV Qbq (Qab (Qgb ["Reader"] "held" (Qaa 0)) Qaf))) (Qab (Qgb ["Reader"] "held" (Qaa 0)) Qaf))))
  (Qai (Qdt ["Reader"] "held" (Qaa 0) (mC (.str [])))
  (Qaw (Qaa 1))))
def QcL:List D→Qac→Res D:=Qa9 2 QdW
abbrev Qfy (Pr:Program) (w:World) (K:Frag) (mg:Str→Option Value) (base:Heap):Prop:=QgY Pr w K mg base "Reader" "finish" ["self"] 3 (vSp K mg [.v] (rV K) QcL)
theorem Qir (QdR:QjA K mg "Reader" "finish" "Reader.finish" QdN)
  (B:Blt mg)
  (QaT:KC K mg "Reader" "held")
  (Qbc:KC K mg "Reader" "place")
  (Qcm:QfZ Pr w K mg base) :
  Qfy Pr w K mg base:=by
 refine QqS (k:=2) (b:=QdW) QdR Qfo (fun _ _ _ _ _ _=>Qbb fun _=>QbO rfl) [.v] [.v] Qbj (fun _ _ _ _=>Rp.non) (body:=fun f cdv A outer s H E hr P=>?_);refine Qan ?_ ?_;refine QaP (i:=1) Qfo.nd rfl (.inl rfl) ?_;refine QaJ ?_;refine Qgi Qcm (hr.mono (by decide)) ?_;refine QaH ?_ ?_;refine Qay ?_;refine Qax Qk6 ?_ ?_;refine Qae (Qey (QbK Qbc Qb3) (Qag 0));refine Qay ?_;refine Qbn (ms:=[.s]) (hv:=QbW) QbZ B.len_ ?_;refine QaH ?_ Qao;refine Qae (Qey (QbK QaT Qb3) (Qag 0));refine QaH ?_ Qao;refine Qae (Qey (QbK QaT Qb3) (Qag 0));refine Qan ?_ ?_;refine Qep (QbK QaT Qb3) (Qag 0) (Qal []);refine Qar (QaG (Qag 1))
abbrev QgT:Stmt:=top 30
theorem QfX:QaI ["text","reader","told"] ["text"] (Qah QgT):=by trivial
def Qc6:MS :=
  (Qai (msN (Qat 1 (QgQ "Reader" QbI Qaf)))
  (Qai (Qfq 2 (Qgl "Reader" "feed" Qdw (Qaa 1) (Qab (Qaa 0) Qaf)))
  (Qai (msN (Qaw (Qad Qas (Qaa 2) (Qe6 "Reader" "finish" QcL (Qaa 1) Qaf))))
  Qav)))
def QcZ:List D→Qac→Res D:=Qa9 3 Qc6
abbrev Qiz (Pr:Program) (w:World) (K:Frag) (mg:Str→Option Value) (base:Heap):Prop:=QgR Pr w K mg base "items_of" ["text"] 5 (QcS K mg [.s] (rV K) QcZ)
theorem QlW (QgK:Def K mg "items_of" QgT)
  (B:Blt mg)
  (Qc9:QeY Pr w K mg base)
  (QeQ:Qg2 Pr w K mg base)
  (QdH:Qfy Pr w K mg base) :
  Qiz Pr w K mg base:=by
 refine Qnr (k:=4) (b:=Qc6) QgK QfX (fun _ _ _ _ _ _=>Qbb fun _=>QbO rfl) [.s] [.v,.v] Qbj (fun _ _ _ _=>Rp.non) (body:=fun f cdv A outer s H E hr P=>?_)
 refine Qa6 (QeV (QaP (i:=1) QfX.nd rfl (.inl rfl) (Qp1 Qc9 (hr.mono (by decide))))) (Qa6 (Qsn (i:=2) (Qt2 (Qqb Qc4 QeQ (hr.mono (by decide)) (Qag 1) (QaH (Qap 0) Qao))) QfX.nd rfl (.inl rfl))
   (Qa6 (QeV (QaG (QaJ (Qax QaR (Qae (Qag 2)) (Qae (Qqv QdH (hr.mono (by decide)) (Qag 1)))))))
   Qcq))
abbrev QeH:Stmt:=top 33
theorem Qjq:QaI ["pair","kind","value"] ["pair","kind","value"] (Qah QeH):=by trivial
def Qcg:MS :=
  (Qai (QaL (Qam (Qad gEq (Qaa 1) (mC (.str [105,110,107])))) (Qaw (Qbt (Qab (mG (Qaa 2)) (Qab (Qad gIx (Qaa 0) (mC (.int 1))) Qaf)))) Qav)
  (Qai (QaL (Qam (Qad gEq (Qaa 1) (mC (.str [103,114,111,117,110,100])))) (Qaw (Qbt (Qab (Qad gIx (Qaa 0) (mC (.int 0))) (Qab (mG (Qaa 2)) Qaf)))) Qav)
  (Qai (QaL (Qam (Qad gEq (Qaa 1) (mC (.str [115,105,103,110])))) (Qaw (mG (Qaa 0))) Qav)
  (Qaw (mC (.tup [.str [46],.str [46]]))))))
def QbN:List D→Qac→Res D:=Qa9 3 Qcg
abbrev Qg3 (Pr:Program) (w:World) (K:Frag) (mg:Str→Option Value) (base:Heap):Prop:=Can Pr w K mg base "pair_behind" ["pair","kind","value"] 1 (vSp K mg [.s,.s,.s] (rV K) QbN)
theorem Qjp (QeT:Def K mg "pair_behind" QeH)
  (B:Blt mg)
  (Qd2:Qnf K mg "PLAIN" [[46],[46]]) :
  Qg3 Pr w K mg base:=by
 refine Qcv (k:=0) (b:=Qcg) QeT Qjq (fun _ _ _ _ _ _=>Qbb fun _=>Qbb fun _=>Qbb fun _=>QbO rfl) [.s,.s,.s] [] Qbj (fun _ _ _ _=>Rp.non) (body:=fun f cdv A outer s H E hr P=>?_);refine Qan ?_ ?_;refine Qa0 ?_ ?_ QaQ;refine QaN (QaY hr) (Qap 1) (Qae (Qal [105,110,107])) (QaF _);refine Qar ?_;refine QaG ?_;refine QbR 2 ?_;refine QaD (QcK (Qap 2)) ?_;refine QaD ?_ Qao;refine Qba (Qap 0) (Qae Qaq);refine Qan ?_ ?_;refine Qa0 ?_ ?_ QaQ;refine QaN (QaY hr) (Qap 1) (Qae (Qal [103,114,111,117,110,100])) (QaF _);refine Qar ?_;refine QaG ?_;refine QbR 2 ?_;refine QaD ?_ ?_;refine Qba (Qap 0) (Qae Qaq);refine QaD (QcK (Qap 2)) Qao
 refine Qan ?_ ?_;refine Qa0 ?_ ?_ QaQ;refine QaN (QaY hr) (Qap 1) (Qae (Qal [115,105,103,110])) (QaF _);refine Qar ?_;refine QaG (QcK (Qap 0));refine Qar (QaG (Qjb (ls:=[[46],[46]]) Qd2))
abbrev QgZ:Stmt:=top 35
theorem QcH:QaI ["text","pair","told","item","kind"] ["text"] (Qah QgZ):=by trivial
def Qc5:MS :=
  (Qai (msN (Qat 1 (mC (.tup [.str [46],.str [46]]))))
  (Qai (msN (Qat 2 (QbF Qaf)))
  (Qai (QbP (Qc1 (Qcs QcZ (Qab (Qaa 0) Qaf))) (mgN 3) (Qai (msN (Qat 4 (Qad gIx (Qaa 3) (mC (.int 1)))))
  (Qai (msN (QaL (QbD (Qam (Qad gEq (Qaa 4) (mC (.str [101,110,100])))) (Qam (Qad gEq (Qaa 4) (mC (.str [97,110,101,119]))))) (Qaw (mC .non)) Qav))
  (Qai (msN (QaL (Qam (Qad gEq (Qaa 4) (mC (.str [115,105,103,110])))) (QbC 2 (Qbt (Qab (Qad gIx (Qaa 3) (mC (.int 2))) (Qab (QaB Qcn (Qab (Qad gIx (Qaa 3) (mC (.int 2))) (Qab (Qad gIx (Qaa 1) (mC (.int 0))) Qaf))) (Qab (Qad gIx (Qaa 1) (mC (.int 1))) Qaf))))) Qav))
  (Qai (msN (Qat 1 (QaB QbN (Qab (Qaa 1) (Qab (Qaa 4) (Qab (Qad gIx (Qaa 3) (mC (.int 2))) Qaf))))))
  Qav)))))
  (Qai (msN (Qjf (Qaw (mIf (Qam (Qad gEq (Qaa 1) (mC (.tup [.str [46],.str [46]])))) (Qaa 2) (mC .non)))))
  Qav))))
def QcA:List D→Qac→Res D:=Qa9 5 Qc5
abbrev Qi8 (Pr:Program) (w:World) (K:Frag) (mg:Str→Option Value) (base:Heap):Prop:=QgR Pr w K mg base "unshaded" ["text"] 6 (QcS K mg [.s] (rV K) QcA)
theorem QlT (QgV:Def K mg "unshaded" QgZ)
  (B:Blt mg)
  (Qd2:Qnf K mg "PLAIN" [[46],[46]])
  (QgM:Qiz Pr w K mg base)
  (QfP:Qh1 Pr w K mg base)
  (QeL:Qg3 Pr w K mg base) :
  Qi8 Pr w K mg base:=by
 refine Qnr (k:=5) (b:=Qc5) QgV QcH (fun _ _ _ _ _ _=>Qbb fun _=>QbO rfl) [.s] [.v,.o,.v,.v] Qbj (fun _ _ _ _=>Rp.non) (body:=fun f cdv A outer s H E hr P=>?_)
 refine Qa6 (QeV (QaP (i:=1) QcH.nd rfl (.inl rfl) (Qjb (ls:=[[46],[46]]) Qd2))) (Qa6 (QeV (Qgg (i:=2) QcH.nd rfl (.inl rfl) (Qcb 0 Qao)))
   (Qa6 (Qrs rfl (QpS (Qj9 QgM (hr.mono (by decide)) (QaH (Qap 0) Qao))) (QbT (i:=3) QcH.nd rfl (.inl rfl)) (Qa6 (QeV (QaP (i:=4) QcH.nd rfl (.inl rfl) (Qba (Qae (Qag 3)) (Qae Qaq))))
   (Qa6 (QeV (Qa0 (QeI (Qel (QaN (QaY hr) (Qae (Qag 4)) (Qae (Qal [101,110,100])) (QaF _)) (Qex (QaN (QaY hr) (Qae (Qag 4)) (Qae (Qal [97,110,101,119])) (QaF _))))) (Qar (QaG Qgr)) QaQ))
   (Qa6 (QeV (Qa0 (QaN (QaY hr) (Qae (Qag 4)) (Qae (Qal [115,105,103,110])) (QaF _)) (Qar (QcP 2 (QbR 3 (QaD (Qba (Qae (Qag 3)) (Qae Qaq)) (QaD (Qa2 QfP (hr.mono (by decide)) (QaH (Qae (Qba (Qae (Qag 3)) (Qae Qaq))) (QaH (Qae (Qba (Qae (Qag 1)) (Qae Qaq))) Qao))) (QaD (Qba (Qae (Qag 1)) (Qae Qaq)) Qao)))))) QaQ))
   (Qa6 (QeV (QaP (i:=1) QcH.nd rfl (.inl rfl) (Qa2 QeL (hr.mono (by decide)) (QaH (Qae (Qag 1)) (QaH (Qae (Qag 4)) (QaH (Qae (Qba (Qae (Qag 3)) (Qae Qaq))) Qao))))))
   Qcq)))))
   (Qa6 (QeV (Qth 2 rfl (QaG (QqT (QaN (QaY hr) (Qae (Qag 1)) (Qae (Qjb (ls:=[[46],[46]]) Qd2)) (QaF _)) (Qag 2) Qgr))))
   Qcq)))
abbrev QeF:Stmt:=top 37
theorem QjD:QaI ["_law_script","_law_k"] ["_law_script","_law_k"] (Qah QeF):=by trivial
def QeN:MS :=
  (Qai (QaL (Qam (Qad gLt (Qaa 1) (QaV Qbq (Qab (Qaa 0) Qaf)))) (Qaw (Qad gIx (Qaa 0) (Qaa 1))) Qav)
  (Qaw (mC (.int 0))))
def Qcf:List D→Qac→Res D:=Qa9 2 QeN
abbrev QeD (Pr:Program) (w:World) (K:Frag) (mg:Str→Option Value) (base:Heap):Prop:=Can Pr w K mg base "_law_cell_at" ["_law_script","_law_k"] 1 (vSp K mg [.s,.s] (rV K) Qcf)
theorem Qjx (QeS:Def K mg "_law_cell_at" QeF)
  (B:Blt mg) :
  QeD Pr w K mg base:=by
 refine Qcv (k:=0) (b:=QeN) QeS QjD (fun _ _ _ _ _ _=>Qbb fun _=>Qbb fun _=>QbO rfl) [.s,.s] [] Qbj (fun _ _ _ _=>Rp.non) (body:=fun f cdv A outer s H E hr P=>?_);refine Qan ?_ ?_;refine Qa0 ?_ ?_ QaQ;refine QaN QqQ (Qap 1) ?_ (QaF _);refine Qay ?_;refine Qbn (ms:=[.s]) (hv:=QbW) QbZ B.len_ ?_;refine QaH (Qap 0) Qao;refine Qar ?_;refine QaG ?_;refine Qba (Qap 0) (Qap 1);refine Qar (QaG Qaq)
abbrev QhB:Stmt:=top 38
theorem QcD:QaI ["_law_cell","_law_k","_law_rest","_law_turn","_law_number"] ["_law_cell","_law_k"] (Qah QhB):=by trivial
def Qkg:MS :=
  (Qai (QaL (Qam (Qad gGt (Qaa 0) (Qad QfS (mC (.int 10)) (mC (.int 18))))) (Qai (Qat 2 (mG (Qaa 0)))
  (Qai (QbP (QhR (Qab (Qaa 1) Qaf)) (mgN 3) (Qat 2 (Qad Qcy (Qaa 2) (Qad QfS (mC (.int 10)) (mC (.int 9))))))
  (Qaw (Qad QbE (Qaa 2) (Qad QfS (mC (.int 10)) (mC (.int 9))))))) Qav)
  (Qai (Qat 4 (Qad Qas (Qad QbE (Qaa 0) (mC (.int 2147483647))) (mC (.int 7919))))
  (Qai (QbP (QhR (Qab (Qad Qas (Qaa 1) (mC (.int 2))) Qaf)) (mgN 3) (Qat 4 (Qad QbE (Qad Qas (Qad Qfs (Qaa 4) (mC (.int 48271))) (mC (.int 104729))) (mC (.int 2147483629)))))
  (Qaw (Qad Qcy (Qad QbE (Qad Qfs (Qaa 4) (Qaa 4)) (mC (.int 998244353))) (mC (.int 11)))))))
def Qch:List D→Qac→Res D:=Qa9 5 Qkg
abbrev QfK (Pr:Program) (w:World) (K:Frag) (mg:Str→Option Value) (base:Heap):Prop:=Can Pr w K mg base "_law_mix" ["_law_cell","_law_k"] 1 (vSp K mg [.s,.s] (rV K) Qch)
theorem Qm2 (Qhk:Def K mg "_law_mix" QhB)
  (B:Blt mg) :
  QfK Pr w K mg base:=by
 refine Qcv (k:=0) (b:=Qkg) Qhk QcD (fun _ _ _ _ _ _=>Qbb fun _=>Qbb fun _=>QbO rfl) [.s,.s] [.v,.v,.v] Qbj (fun _ _ _ _=>Rp.non) (body:=fun f cdv A outer s H E hr P=>?_);refine Qan ?_ ?_;refine Qa0 ?_ ?_ QaQ;refine QaN QqP (Qap 0) ?_ (QaF _);refine Qay ?_;refine Qax Qlg (Qae Qaq) (Qae Qaq);refine Qan ?_ ?_;refine QaP (i:=2) QcD.nd rfl (.inl rfl) (QcK (Qap 0));refine Qan ?_ ?_;refine Qhb rfl ?_ (QbT (i:=3) QcD.nd rfl (.inl rfl)) ?_;refine Qj1 B.range_ ?_;refine QaH (Qap 1) Qao;refine Qar ?_;refine QaP (i:=2) QcD.nd rfl (.inl rfl) ?_;refine QaJ ?_;refine Qax QhI (Qae (Qag 2)) ?_;refine Qay ?_;refine Qax Qlg (Qae Qaq) (Qae Qaq)
 refine Qar ?_;refine QaG ?_;refine QaJ ?_;refine Qax QcF (Qae (Qag 2)) ?_;refine Qay ?_;refine Qax Qlg (Qae Qaq) (Qae Qaq);refine Qan ?_ ?_;refine QaP (i:=4) QcD.nd rfl (.inl rfl) ?_;refine QaJ ?_;refine Qax QaR ?_ (Qae Qaq);refine Qay ?_;refine Qax QcF (Qap 0) (Qae Qaq);refine Qan ?_ ?_;refine Qhb rfl ?_ (QbT (i:=3) QcD.nd rfl (.inl rfl)) ?_;refine Qj1 B.range_ ?_;refine QaH ?_ Qao;refine Qay ?_;refine Qax QaR (Qap 1) (Qae Qaq);refine Qar ?_;refine QaP (i:=4) QcD.nd rfl (.inl rfl) ?_;refine QaJ ?_;refine Qax QcF ?_ (Qae Qaq);refine Qay ?_;refine Qax QaR ?_ (Qae Qaq);refine Qay ?_;refine Qax Qos (Qae (Qag 4)) (Qae Qaq)
 refine Qar ?_;refine QaG ?_;refine QaJ ?_;refine Qax QhI ?_ (Qae Qaq);refine Qay ?_;refine Qax QcF ?_ (Qae Qaq);refine Qay ?_;refine Qax Qos (Qae (Qag 4)) (Qae (Qag 4))
abbrev Qf5:Stmt:=top 39
theorem QkN:QaI ["_law_thing"] ["_law_thing"] (Qah Qf5):=by trivial
def QfM:MS :=
  (Qaw (QcY (Qdf "int" (Qaa 0)) (Qm7 (Qdf "bool" (Qaa 0)))))
def Qen:List D→Qac→Res D:=Qa9 1 QfM
abbrev QhZ (Pr:Program) (w:World) (K:Frag) (mg:Str→Option Value) (base:Heap):Prop:=Qji Pr w K mg base "_law_whole" ["_law_thing"] 1 (vSp K mg [.s] (rV K) Qen)
theorem QlG (QfT:Def K mg "_law_whole" Qf5)
  (B:Blt mg) :
  QhZ Pr w K mg base:=by
 refine Qva (k:=0) (b:=QfM) QfT QkN (fun _ _ _ _ _ _=>Qbb fun _=>QbO rfl) [.s] [] Qbj (fun _ _ _ _=>Rp.non) (body:=fun f cdv A outer s H E hr P=>?_);refine Qar ?_;refine QaG ?_;refine Qdq ?_ ?_;refine QaJ (Qfm "int" (hb:=Qoy) B.isinstance_ B.int_ (Qap 0));refine Qfj ?_;refine Quv ?_;refine QaJ (Qfm "bool" (hb:=Qsm) B.isinstance_ B.bool_ (Qap 0))
abbrev QdS:Stmt:=top 40
theorem Qiu:QaI ["_law_text_here"] ["_law_text_here"] (Qah QdS):=by trivial
def QdO:MS :=
  (Qaw (QcY (Qad gEq (QaV Qbq (Qab (Qaa 0) Qaf)) (mC (.int 1))) (Qad (gIn false) (Qaa 0) (mC (.str [97,98,99,100,101,102,103,104,46])))))
def QaM:List D→Qac→Res D:=Qa9 1 QdO
abbrev QfB (Pr:Program) (w:World) (K:Frag) (mg:Str→Option Value) (base:Heap):Prop:=Can Pr w K mg base "_law_is_colour" ["_law_text_here"] 1 (vSp K mg [.s] (rV K) QaM)
theorem Qiq (QdL:Def K mg "_law_is_colour" QdS)
  (B:Blt mg) :
  QfB Pr w K mg base:=by
 refine Qcv (k:=0) (b:=QdO) QdL Qiu (fun _ _ _ _ _ _=>Qbb fun _=>QbO rfl) [.s] [] Qbj (fun _ _ _ _=>Rp.non) (body:=fun f cdv A outer s H E hr P=>?_);refine Qar ?_;refine QaG ?_;refine Qdq ?_ ?_;refine QaJ ?_;refine Qdm (QaY hr) ?_ (Qae Qaq) (QaF _);refine Qay ?_;refine Qbn (ms:=[.s]) (hv:=QbW) QbZ B.len_ ?_;refine QaH (Qap 0) Qao;refine Qfj ?_;refine QaJ ?_;refine Qdm QqL (Qap 0) (Qae (Qal [97,98,99,100,101,102,103,104,46])) (by with_unfolding_all rfl)
abbrev QgA:Stmt:=top 41
theorem Qej:QaI ["_law_text_here","_law_found","_law_at"] ["_law_text_here"] (Qah QgA):=by trivial
def Qe2:MS :=
  (Qai (Qat 1 (QbF Qaf))
  (Qai (Qat 2 (mC (.int 0)))
  (Qai (Qgj 300 (Qam (Qad gLt (Qaa 2) (QaV Qbq (Qab (Qaa 0) Qaf)))) (Qai (QaL (Qam (Qad gEq (mSl (Qaa 0) (moS (Qaa 2)) (moS (Qad Qas (Qaa 2) (mC (.int 2))))) (mC (.str [91,91])))) (QbC 1 (Qbt (Qab (mC (.str [115,105,103,110])) (Qab (mC (.str [91])) (Qab (mC (.int 2)) Qaf))))) (QaL (Qam (Qad gEq (mSl (Qaa 0) (moS (Qaa 2)) (moS (Qad Qas (Qaa 2) (mC (.int 2))))) (mC (.str [91,93])))) (QbC 1 (Qbt (Qab (mC (.str [112,108,97,105,110])) (Qab (mC (.str [])) (Qab (mC (.int 2)) Qaf))))) (QaL (Qbp (Qam (Qad gEq (Qad gIx (Qaa 0) (Qaa 2)) (mC (.str [91])))) (Qbp (Qa7 (QaB QaM (Qab (mSl (Qaa 0) (moS (Qad Qas (Qaa 2) (mC (.int 1)))) (moS (Qad Qas (Qaa 2) (mC (.int 2))))) Qaf))) (Qam (Qad gEq (mSl (Qaa 0) (moS (Qad Qas (Qaa 2) (mC (.int 2)))) (moS (Qad Qas (Qaa 2) (mC (.int 3))))) (mC (.str [93])))))) (QbC 1 (Qbt (Qab (mC (.str [105,110,107])) (Qab (Qad gIx (Qaa 0) (Qad Qas (Qaa 2) (mC (.int 1)))) (Qab (mC (.int 3)) Qaf))))) (QaL (Qbp (Qam (Qad gEq (mSl (Qaa 0) (moS (Qaa 2)) (moS (Qad Qas (Qaa 2) (mC (.int 2))))) (mC (.str [91,47])))) (Qbp (Qa7 (QaB QaM (Qab (mSl (Qaa 0) (moS (Qad Qas (Qaa 2) (mC (.int 2)))) (moS (Qad Qas (Qaa 2) (mC (.int 3))))) Qaf))) (Qam (Qad gEq (mSl (Qaa 0) (moS (Qad Qas (Qaa 2) (mC (.int 3)))) (moS (Qad Qas (Qaa 2) (mC (.int 4))))) (mC (.str [93])))))) (QbC 1 (Qbt (Qab (mC (.str [103,114,111,117,110,100])) (Qab (Qad gIx (Qaa 0) (Qad Qas (Qaa 2) (mC (.int 2)))) (Qab (mC (.int 4)) Qaf))))) (QbC 1 (Qbt (Qab (QkE (Qi4 (Qew (mC (.str [10])) (mC (.str [101,110,100])) (Qew (mC (.str [9])) (mC (.str [97,110,101,119])) Qi1))) (Qad gIx (Qaa 0) (Qaa 2)) (mC (.str [115,105,103,110]))) (Qab (Qad gIx (Qaa 0) (Qaa 2)) (Qab (mC (.int 1)) Qaf)))))))))
  (Qat 2 (Qad Qas (Qaa 2) (Qad gIx (Qad gIx (Qaa 1) (mUn Qnj (mC (.int 1)))) (mC (.int 2)))))))
  (Qaw (Qaa 1)))))
def QgX:List D→Qac→Res D:=Qa9 3 Qe2
abbrev QiC (Pr:Program) (w:World) (K:Frag) (mg:Str→Option Value) (base:Heap):Prop:=Can Pr w K mg base "_law_read" ["_law_text_here"] 2 (vSp K mg [.s] (rO K) QgX)
theorem QlS (Qgy:Def K mg "_law_read" QgA)
  (B:Blt mg)
  (QcO:QfB Pr w K mg base) :
  QiC Pr w K mg base:=by
 refine Qcv (k:=1) (b:=Qe2) Qgy Qej (fun _ _ _ _ _ _=>Qbb fun _=>QbO rfl) [.s] [.o,.v] Qc4 (fun _ _ _ _=>.inl ⟨rfl,Rp.non⟩) (body:=fun f cdv A outer s H E hr P=>?_);refine Qan ?_ ?_;refine Qgg (i:=1) Qej.nd rfl (.inl rfl) (Qcb 0 Qao);refine Qan (QaP (i:=2) Qej.nd rfl (.inl rfl) Qaq) ?_;refine Qan ?_ (Qar (QhM 1));refine QpO 300 ?_ ?_;refine QaN QqQ (Qae (Qag 2)) ?_ (QaF _);refine Qay ?_;refine Qbn (ms:=[.s]) (hv:=QbW) QbZ B.len_ ?_;refine QaH (Qap 0) Qao;refine Qan ?_ ?_;refine Qa0 ?_ ?_ ?_;refine QaN (QaY hr) ?_ (Qae (Qal [91,91])) (QaF _);refine Qay ?_;refine QbH (Qap 0) (Qbf (Qag 2)) ?_
 refine Qbf ?_;refine QaJ ?_;refine Qax QaR (Qae (Qag 2)) (Qae Qaq);refine Qar ?_;refine QcP 1 ?_;refine QbR 3 ?_;refine QaD (Qal [115,105,103,110]) ?_;refine QaD (Qal [91]) ?_;refine QaD Qaq Qao;refine Qar ?_;refine Qa0 ?_ ?_ ?_;refine QaN (QaY hr) ?_ (Qae (Qal [91,93])) (QaF _);refine Qay ?_;refine QbH (Qap 0) (Qbf (Qag 2)) ?_;refine Qbf ?_;refine QaJ ?_;refine Qax QaR (Qae (Qag 2)) (Qae Qaq);refine Qar ?_;refine QcP 1 ?_;refine QbR 3 ?_;refine QaD (Qal [112,108,97,105,110]) ?_;refine QaD (Qal []) ?_;refine QaD Qaq Qao;refine Qar ?_;refine Qa0 ?_ ?_ ?_;refine QeI ?_;refine Qdp ?_ ?_;refine QaN (QaY hr) ?_ (Qae (Qal [91])) (QaF _)
 refine Qae ?_;refine Qba (Qap 0) (Qae (Qag 2));refine Qdp ?_ ?_;refine QbS ?_;refine Qae ?_;refine Qa2 QcO (hr.mono (by decide)) ?_;refine QaH ?_ Qao;refine Qay ?_;refine QbH (Qap 0) ?_ ?_;refine Qbf ?_;refine QaJ ?_;refine Qax QaR (Qae (Qag 2)) (Qae Qaq);refine Qbf ?_;refine QaJ ?_;refine Qax QaR (Qae (Qag 2)) (Qae Qaq);refine QhJ ?_;refine QaN (QaY hr) ?_ (Qae (Qal [93])) (QaF _);refine Qay ?_;refine QbH (Qap 0) ?_ ?_;refine Qbf ?_;refine QaJ ?_;refine Qax QaR (Qae (Qag 2)) (Qae Qaq);refine Qbf ?_;refine QaJ ?_;refine Qax QaR (Qae (Qag 2)) (Qae Qaq);refine Qar ?_;refine QcP 1 ?_;refine QbR 3 ?_
 refine QaD (Qal [105,110,107]) ?_;refine QaD ?_ ?_;refine Qba (Qap 0) ?_;refine Qay ?_;refine Qax QaR (Qae (Qag 2)) (Qae Qaq);refine QaD Qaq Qao;refine Qar ?_;refine Qa0 ?_ ?_ ?_;refine QeI ?_;refine Qdp ?_ ?_;refine QaN (QaY hr) ?_ (Qae (Qal [91,47])) (QaF _);refine Qay ?_;refine QbH (Qap 0) (Qbf (Qag 2)) ?_;refine Qbf ?_;refine QaJ ?_;refine Qax QaR (Qae (Qag 2)) (Qae Qaq);refine Qdp ?_ ?_;refine QbS ?_;refine Qae ?_;refine Qa2 QcO (hr.mono (by decide)) ?_;refine QaH ?_ Qao;refine Qay ?_;refine QbH (Qap 0) ?_ ?_;refine Qbf ?_;refine QaJ ?_;refine Qax QaR (Qae (Qag 2)) (Qae Qaq);refine Qbf ?_
 refine QaJ ?_;refine Qax QaR (Qae (Qag 2)) (Qae Qaq);refine QhJ ?_;refine QaN (QaY hr) ?_ (Qae (Qal [93])) (QaF _);refine Qay ?_;refine QbH (Qap 0) ?_ ?_;refine Qbf ?_;refine QaJ ?_;refine Qax QaR (Qae (Qag 2)) (Qae Qaq);refine Qbf ?_;refine QaJ ?_;refine Qax QaR (Qae (Qag 2)) (Qae Qaq);refine Qar ?_;refine QcP 1 ?_;refine QbR 3 ?_;refine QaD (Qal [103,114,111,117,110,100]) ?_;refine QaD ?_ ?_;refine Qba (Qap 0) ?_;refine Qay ?_;refine Qax QaR (Qae (Qag 2)) (Qae Qaq);refine QaD Qaq Qao;refine Qar ?_;refine QcP 1 ?_;refine QbR 3 ?_;refine QaD ?_ ?_;refine QrD hr ?_ ?_ (Qal [115,105,103,110]);refine Qr4 ?_
 refine Qlf (Qal [10]) (Qal [101,110,100]) ?_;refine Qlf (Qal [9]) (Qal [97,110,101,119]) QsH;refine Qba (Qap 0) (Qae (Qag 2));refine QaD ?_ ?_;refine Qba (Qap 0) (Qae (Qag 2));refine QaD Qaq Qao;refine Qar ?_;refine QaP (i:=2) Qej.nd rfl (.inl rfl) ?_;refine QaJ ?_;refine Qax QaR (Qae (Qag 2)) ?_;refine Qae ?_;refine Qba ?_ (Qae Qaq);refine Qae ?_;refine Qba (Qap 1) ?_;refine Qay ?_;refine QtT (Qae Qaq)
abbrev Qge:Stmt:=top 42
theorem Qbl:QaI ["_law_items","_law_shown_here","_law_ink","_law_ground","_law_kind","_law_value","_law_size"] ["_law_items"] (Qah Qge):=by trivial
def Qee:MS :=
  (Qai (Qat 1 (QbF Qaf))
  (Qai (Qat 2 (mC (.str [46])))
  (Qai (Qat 3 (mC (.str [46])))
  (Qai (QbP (Qco (Qaa 0)) (Qfl 3 (Qbe (mgN 4) (Qbe (mgN 5) (Qbe (mgN 6) Qdl)))) (Qai (QaL (QbD (Qam (Qad gEq (Qaa 4) (mC (.str [101,110,100])))) (Qam (Qad gEq (Qaa 4) (mC (.str [97,110,101,119]))))) (Qaw (mG (mC .non))) Qav)
  (Qai (QaL (Qam (Qad gEq (Qaa 4) (mC (.str [115,105,103,110])))) (QbC 1 (Qbt (Qab (Qaa 5) (Qab (Qad gIx (QbF (Qab (Qaa 2) (Qab (mC (.str [46])) Qaf))) (QaV Qhz (Qab (Qad gEq (Qaa 5) (mC (.str [32]))) Qaf))) (Qab (Qaa 3) Qaf))))) Qav)
  (Qai (QaL (Qam (Qad gEq (Qaa 4) (mC (.str [105,110,107])))) (Qat 2 (Qaa 5)) Qav)
  (Qai (QaL (Qam (Qad gEq (Qaa 4) (mC (.str [103,114,111,117,110,100])))) (Qat 3 (Qaa 5)) Qav)
  (QaL (Qam (Qad gEq (Qaa 4) (mC (.str [112,108,97,105,110])))) (Qai (Qat 2 (mC (.str [46])))
  (Qat 3 (mC (.str [46])))) Qav))))))
  (Qai (QaL (QbD (Qam (Qad gNe (Qaa 2) (mC (.str [46])))) (Qam (Qad gNe (Qaa 3) (mC (.str [46]))))) (Qaw (mG (mC .non))) Qav)
  (Qaw (Qaa 1)))))))
def Qf0:List D→Qac→Res D:=Qa9 7 Qee
abbrev QhX (Pr:Program) (w:World) (K:Frag) (mg:Str→Option Value) (base:Heap):Prop:=Can Pr w K mg base "_law_shown" ["_law_items"] 1 (vSp K mg [.s] (rO K) Qf0)
theorem QlD (Qga:Def K mg "_law_shown" Qge)
  (B:Blt mg) :
  QhX Pr w K mg base:=by
 refine Qcv (k:=0) (b:=Qee) Qga Qbl (fun _ _ _ _ _ _=>Qbb fun _=>QbO rfl) [.s] [.o,.v,.v,.v,.v,.v] Qc4 (fun _ _ _ _=>.inl ⟨rfl,Rp.non⟩) (body:=fun f cdv A outer s H E hr P=>?_);refine Qan ?_ ?_;refine Qgg (i:=1) Qbl.nd rfl (.inl rfl) (Qcb 0 Qao);refine Qan (QaP (i:=2) Qbl.nd rfl (.inl rfl) (Qal [46])) ?_;refine Qan (QaP (i:=3) Qbl.nd rfl (.inl rfl) (Qal [46])) ?_;refine Qan ?_ ?_;refine Qhb rfl (Qlk (Qgq 0)) ?_ ?_;refine QiA 3 rfl ?_;refine Qcz (QbT (i:=4) Qbl.nd rfl (.inl rfl)) ?_;refine Qcz (QbT (i:=5) Qbl.nd rfl (.inl rfl)) ?_;refine Qcz (QbT (i:=6) Qbl.nd rfl (.inl rfl)) QhU;refine Qan ?_ ?_
 refine Qa0 ?_ ?_ QaQ;refine QeI ?_;refine Qel ?_ ?_;refine QaN (QaY hr) (Qae (Qag 4)) (Qae (Qal [101,110,100])) (QaF _);refine Qex ?_;refine QaN (QaY hr) (Qae (Qag 4)) (Qae (Qal [97,110,101,119])) (QaF _);refine Qar ?_;refine Qfd (QqE Qgr);refine Qan ?_ ?_;refine Qa0 ?_ ?_ QaQ;refine QaN (QaY hr) (Qae (Qag 4)) (Qae (Qal [115,105,103,110])) (QaF _);refine Qar ?_;refine QcP 1 ?_;refine QbR 3 ?_;refine QaD (Qag 5) ?_;refine QaD ?_ ?_;refine Qba ?_ ?_;refine Qay ?_;refine Qcb 2 ?_;refine QaD (Qag 2) ?_;refine QaD (Qal [46]) Qao;refine Qay ?_;refine Qqh (ms:=[.s]) (hv:=Qoy) QsV B.int_ ?_;refine QaH ?_ Qao
 refine Qay ?_;refine Qdm (QaY hr) (Qae (Qag 5)) (Qae (Qal [32])) (QaF _);refine QaD (Qag 3) Qao;refine Qan ?_ ?_;refine Qa0 ?_ ?_ QaQ;refine QaN (QaY hr) (Qae (Qag 4)) (Qae (Qal [105,110,107])) (QaF _);refine Qar (QaP (i:=2) Qbl.nd rfl (.inl rfl) (Qag 5));refine Qan ?_ ?_;refine Qa0 ?_ ?_ QaQ;refine QaN (QaY hr) (Qae (Qag 4)) (Qae (Qal [103,114,111,117,110,100])) (QaF _);refine Qar (QaP (i:=3) Qbl.nd rfl (.inl rfl) (Qag 5));refine Qar ?_;refine Qa0 ?_ ?_ QaQ;refine QaN (QaY hr) (Qae (Qag 4)) (Qae (Qal [112,108,97,105,110])) (QaF _);refine Qan (QaP (i:=2) Qbl.nd rfl (.inl rfl) (Qal [46])) ?_;refine Qar (QaP (i:=3) Qbl.nd rfl (.inl rfl) (Qal [46]))
 refine Qan ?_ (Qar (QhM 1));refine Qa0 ?_ ?_ QaQ;refine QeI ?_;refine Qel ?_ ?_;refine QaN (Qiw hr) (Qae (Qag 2)) (Qae (Qal [46])) (QaF _);refine Qex ?_;refine QaN (Qiw hr) (Qae (Qag 3)) (Qae (Qal [46])) (QaF _);refine Qar ?_;refine Qfd (QqE Qgr)
abbrev QdT:Stmt:=top 44
theorem QdB:QaI ["_law_found","_law_due","_law_one","_law_other"] ["_law_found","_law_due"] (Qah QdT):=by trivial
def QcM:MS :=
  (Qai (QaL (QbD (QbQ (Qa7 (Qdf "list" (Qaa 0)))) (Qam (Qad gNe (QaV Qbq (Qab (Qaa 0) Qaf)) (QaV Qbq (Qab (Qaa 1) Qaf))))) (Qaw (mC (.bl false))) Qav)
  (Qai (QbP (QkR (Qaa 0) (Qaa 1)) (Qfl 2 (Qbe (mgN 2) (Qbe (mgN 3) Qdl))) (QaL (QbD (QbQ (Qa7 (Qdf "tuple" (Qaa 2)))) (QbD (Qam (Qad gNe (QaV Qbq (Qab (Qaa 2) Qaf)) (mC (.int 3)))) (Qam (Qad gNe (Qaa 2) (Qaa 3))))) (Qaw (mC (.bl false))) Qav))
  (Qaw (mC (.bl true)))))
def QcN:List D→Qac→Res D:=Qa9 4 QcM
abbrev QfE (Pr:Program) (w:World) (K:Frag) (mg:Str→Option Value) (base:Heap):Prop:=Can Pr w K mg base "_law_same_look" ["_law_found","_law_due"] 1 (vSp K mg [.s,.s] (rV K) QcN)
theorem Qh9 (QdU:Def K mg "_law_same_look" QdT)
  (B:Blt mg) :
  QfE Pr w K mg base:=by
 refine Qcv (k:=0) (b:=QcM) QdU QdB (fun _ _ _ _ _ _=>Qbb fun _=>Qbb fun _=>QbO rfl) [.s,.s] [.v,.v] Qbj (fun _ _ _ _=>Rp.non) (body:=fun f cdv A outer s H E hr P=>?_);refine Qan ?_ ?_;refine Qa0 ?_ ?_ QaQ;refine QeI ?_;refine Qel ?_ ?_;refine Qdn ?_;refine QbS ?_;refine Qay (Qfm "list" (hb:=QrN) B.isinstance_ B.list_ (Qap 0));refine Qex ?_;refine QaN (Qiw hr) ?_ ?_ (QaF _);refine Qay ?_;refine Qbn (ms:=[.s]) (hv:=QbW) QbZ B.len_ ?_;refine QaH (Qap 0) Qao;refine Qay ?_;refine Qbn (ms:=[.s]) (hv:=QbW) QbZ B.len_ ?_;refine QaH (Qap 1) Qao;refine Qar (QaG Qc3);refine Qan ?_ ?_;refine Qhb rfl ?_ ?_ ?_
 refine Qs9 B.zip_ (Qgq 0) (Qgq 1);refine QiA 2 rfl ?_;refine Qcz (QbT (i:=2) QdB.nd rfl (.inl rfl)) ?_;refine Qcz (QbT (i:=3) QdB.nd rfl (.inl rfl)) QhU;refine Qar ?_;refine Qa0 ?_ ?_ QaQ;refine QeI ?_;refine Qel ?_ ?_;refine Qdn ?_;refine QbS ?_;refine Qay ?_;refine Qfm "tuple" (hb:=QpN) B.isinstance_ B.tuple_ (Qae (Qag 2));refine Qel ?_ ?_;refine QaN (Qiw hr) ?_ (Qae Qaq) (QaF _);refine Qay ?_;refine Qbn (ms:=[.s]) (hv:=QbW) QbZ B.len_ ?_;refine QaH (Qae (Qag 2)) Qao;refine Qex ?_;refine QaN (Qiw hr) (Qae (Qag 2)) (Qae (Qag 3)) (QaF _);refine Qar (QaG Qc3);refine Qar (QaG Qc3)
abbrev Qf6:Stmt:=top 45
theorem Qct:QaI ["_law_cell","_law_wild","_law_colour","_law_some"] ["_law_cell","_law_wild"] (Qah Qf6):=by trivial
def Qek:MS :=
  (Qai (Qat 2 (Qad gIx (mC (.str [97,98,99,100,101,102,103,104,46,105,120])) (Qad QbE (QaB Qch (Qab (Qaa 0) (Qab (mC (.int 1)) Qaf))) (mC (.int 11)))))
  (Qai (Qat 3 (QbF (Qab (mC (.str [97])) (Qab (mC (.str [120])) (Qab (mC (.str [32])) (Qab (mC (.str [65])) (Qab (mC (.str [91])) (Qab (mC (.str [91,91])) (Qab (mC (.str [93])) (Qab (mC (.str [47])) (Qab (mC (.str [91,93])) (Qab (Qad Qas (Qad Qas (mC (.str [91])) (Qaa 2)) (mC (.str [93]))) (Qab (Qad Qas (Qad Qas (mC (.str [91,47])) (Qaa 2)) (mC (.str [93]))) Qaf)))))))))))))
  (Qai (Qat 3 (Qad Qas (Qaa 3) (QbF (Qab (Qad Qas (mC (.str [91])) (Qaa 2)) (Qab (Qad Qas (mC (.str [91,47])) (Qaa 2)) (Qab (mC (.str [91,47])) (Qab (mC (.str [46])) (Qab (mC (.str [98])) (Qab (Qad Qas (Qad Qas (mC (.str [91])) (Qaa 2)) (mC (.str [93]))) Qaf)))))))))
  (Qai (Qat 3 (Qad Qas (Qaa 3) (QbF (Qab (Qad Qas (Qad Qas (mC (.str [91,47])) (Qaa 2)) (mC (.str [93]))) (Qab (mC (.str [91,46,93])) (Qab (mC (.str [91,47,46,93])) (Qab (mC (.str [91,93])) Qaf)))))))
  (Qai (QaL (Qa7 (Qaa 1)) (Qat 3 (Qad Qas (Qaa 3) (QbF (Qab (mC (.str [10])) (Qab (mC (.str [9])) Qaf))))) Qav)
  (Qaw (Qad gIx (Qaa 3) (Qad QbE (QaB Qch (Qab (Qaa 0) (Qab (mC (.int 2)) Qaf))) (QaV Qbq (Qab (Qaa 3) Qaf))))))))))
def QbG:List D→Qac→Res D:=Qa9 4 Qek
abbrev QhW (Pr:Program) (w:World) (K:Frag) (mg:Str→Option Value) (base:Heap):Prop:=Can Pr w K mg base "_law_piece" ["_law_cell","_law_wild"] 2 (vSp K mg [.s,.s] (rV K) QbG)
theorem Qlh (QfQ:Def K mg "_law_piece" Qf6)
  (B:Blt mg)
  (QbX:QfK Pr w K mg base) :
  QhW Pr w K mg base:=by
 refine Qcv (k:=1) (b:=Qek) QfQ Qct (fun _ _ _ _ _ _=>Qbb fun _=>Qbb fun _=>QbO rfl) [.s,.s] [.v,.v] Qbj (fun _ _ _ _=>Rp.non) (body:=fun f cdv A outer s H E hr P=>?_);refine Qan ?_ ?_;refine QaP (i:=2) Qct.nd rfl (.inl rfl) ?_;refine Qba (Qae (Qal [97,98,99,100,101,102,103,104,46,105,120])) ?_;refine Qay ?_;refine Qax QcF ?_ (Qae Qaq);refine Qae ?_;refine Qa2 QbX (hr.mono (by decide)) ?_;refine QaH (Qap 0) ?_;refine QaH (Qae Qaq) Qao;refine Qan ?_ ?_;refine QaP (i:=3) Qct.nd rfl (.inl rfl) ?_;refine QaJ ?_;refine Qcb 11 ?_;refine QaD (Qal [97]) ?_;refine QaD (Qal [120]) ?_;refine QaD (Qal [32]) ?_
 refine QaD (Qal [65]) ?_;refine QaD (Qal [91]) ?_;refine QaD (Qal [91,91]) ?_;refine QaD (Qal [93]) ?_;refine QaD (Qal [47]) ?_;refine QaD (Qal [91,93]) ?_;refine QaD ?_ ?_;refine QaJ ?_;refine Qax QaR ?_ (Qae (Qal [93]));refine Qay ?_;refine Qax QaR (Qae (Qal [91])) (Qae (Qag 2));refine QaD ?_ Qao;refine QaJ ?_;refine Qax QaR ?_ (Qae (Qal [93]));refine Qay ?_;refine Qax QaR (Qae (Qal [91,47])) (Qae (Qag 2));refine Qan ?_ ?_;refine QaP (i:=3) Qct.nd rfl (.inl rfl) ?_;refine QaJ ?_;refine Qax QaR (Qae (Qag 3)) ?_;refine Qay ?_;refine Qcb 6 ?_;refine QaD ?_ ?_;refine QaJ ?_;refine Qax QaR (Qae (Qal [91])) (Qae (Qag 2))
 refine QaD ?_ ?_;refine QaJ ?_;refine Qax QaR (Qae (Qal [91,47])) (Qae (Qag 2));refine QaD (Qal [91,47]) ?_;refine QaD (Qal [46]) ?_;refine QaD (Qal [98]) ?_;refine QaD ?_ Qao;refine QaJ ?_;refine Qax QaR ?_ (Qae (Qal [93]));refine Qay ?_;refine Qax QaR (Qae (Qal [91])) (Qae (Qag 2));refine Qan ?_ ?_;refine QaP (i:=3) Qct.nd rfl (.inl rfl) ?_;refine QaJ ?_;refine Qax QaR (Qae (Qag 3)) ?_;refine Qay ?_;refine Qcb 4 ?_;refine QaD ?_ ?_;refine QaJ ?_;refine Qax QaR ?_ (Qae (Qal [93]));refine Qay ?_;refine Qax QaR (Qae (Qal [91,47])) (Qae (Qag 2));refine QaD (Qal [91,46,93]) ?_;refine QaD (Qal [91,47,46,93]) ?_
 refine QaD (Qal [91,93]) Qao;refine Qan ?_ ?_;refine Qa0 (QbS (Qap 1)) ?_ QaQ;refine Qar ?_;refine QaP (i:=3) Qct.nd rfl (.inl rfl) ?_;refine QaJ ?_;refine Qax QaR (Qae (Qag 3)) ?_;refine Qay ?_;refine Qcb 2 ?_;refine QaD (Qal [10]) ?_;refine QaD (Qal [9]) Qao;refine Qar ?_;refine QaG ?_;refine Qba (Qae (Qag 3)) ?_;refine Qay ?_;refine Qax QcF ?_ ?_;refine Qae ?_;refine Qa2 QbX (hr.mono (by decide)) ?_;refine QaH (Qap 0) ?_;refine QaH (Qae Qaq) Qao;refine Qay ?_;refine Qbn (ms:=[.s]) (hv:=QbW) QbZ B.len_ ?_;refine QaH (Qae (Qag 3)) Qao
abbrev Qe5:Stmt:=top 46
theorem Qd8:QaI ["_law_script","_law_head","_law_text_here"] ["_law_script"] (Qah Qe5):=by trivial
def Qe8:MS :=
  (Qai (Qat 1 (QaB Qch (Qab (QaB Qcf (Qab (Qaa 0) (Qab (mC (.int 0)) Qaf))) (Qab (mC (.int 8)) Qaf))))
  (Qai (Qat 2 (Qks (QhK (Qco (mSl (Qaa 0) (moS (mC (.int 2))) (moS (mC (.int 42))))) 1 [1] (mgN 0) Qjj (QaB QbG (Qab (Qaa 0) (Qab (Qad gEq (Qad QbE (Qaa 1) (mC (.int 5))) (mC (.int 0))) Qaf))))))
  (Qai (QaL (Qam (Qad gGt (Qad QbE (Qad Qcy (Qaa 1) (mC (.int 5))) (mC (.int 3))) (mC (.int 0)))) (Qat 2 (Qad Qas (Qaa 2) (Qad gIx (QbF (Qab (mC (.str [91,93])) (Qab (mC (.str [91,46,93,91,47,46,93])) Qaf))) (Qad QbE (Qad Qcy (Qaa 1) (mC (.int 15))) (mC (.int 2)))))) Qav)
  (Qaw (Qaa 2)))))
def Qc0:List D→Qac→Res D:=Qa9 3 Qe8
abbrev QiF (Pr:Program) (w:World) (K:Frag) (mg:Str→Option Value) (base:Heap):Prop:=Can Pr w K mg base "_law_text" ["_law_script"] 3 (vSp K mg [.s] (rV K) Qc0)
theorem QlM (QgC:Def K mg "_law_text" Qe5)
  (B:Blt mg)
  (QbX:QfK Pr w K mg base)
  (Qcc:QeD Pr w K mg base)
  (Qgc:QhW Pr w K mg base) :
  QiF Pr w K mg base:=by
 refine Qcv (k:=2) (b:=Qe8) QgC Qd8 (fun _ _ _ _ _ _=>Qbb fun _=>QbO rfl) [.s] [.v,.v] Qbj (fun _ _ _ _=>Rp.non) (body:=fun f cdv A outer s H E hr P=>?_);refine Qan ?_ ?_;refine QaP (i:=1) Qd8.nd rfl (.inr rfl) ?_;refine Qa2 QbX (hr.mono (by decide)) ?_;refine QaH ?_ ?_;refine Qae ?_;refine Qa2 Qcc (hr.mono (by decide)) ?_;refine QaH (Qap 0) ?_;refine QaH (Qae Qaq) Qao;refine QaH (Qae Qaq) Qao;refine Qan ?_ ?_;refine QaP (i:=2) Qd8.nd rfl (.inl rfl) ?_;refine QaJ ?_;refine QsI ?_;refine Qay ?_;refine Qmi (Qah Qe5) ["_law_script","_law_head","_law_text_here"] ["_law_cell"] [1] rfl ?_ (fun _ _ _ _ P=>?_) (fun _ _ _ _ P=>?_) (fun _ _ _ _ P=>?_)
 refine Qrw ?_;refine Qay ?_;refine QbH (Qap 0) (Qbf Qaq) (Qbf Qaq);exact QbT (i:=0) (show (Qbk ["_law_script","_law_head","_law_text_here"] ["_law_cell"] [1]).Nodup by decide +kernel) rfl (.inl rfl);exact QlX;refine Qa2 Qgc (hr.mono (by decide)) ?_;refine QaH (Qae (Qag 0)) ?_;refine QaH ?_ Qao;refine Qay ?_;refine Qdm (QaY hr) ?_ (Qae Qaq) (QaF _);refine Qay ?_;refine Qax QcF (Qae (Qag 1)) (Qae Qaq);refine Qan ?_ ?_;refine Qa0 ?_ ?_ QaQ;refine QaN QqP ?_ (Qae Qaq) (QaF _);refine Qay ?_;refine Qax QcF ?_ (Qae Qaq);refine Qay ?_;refine Qax QhI (Qae (Qag 1)) (Qae Qaq);refine Qar ?_;refine QaP (i:=2) Qd8.nd rfl (.inl rfl) ?_
 refine QaJ ?_;refine Qax QaR (Qae (Qag 2)) ?_;refine Qae ?_;refine Qba ?_ ?_;refine Qay ?_;refine Qcb 2 ?_;refine QaD (Qal [91,93]) ?_;refine QaD (Qal [91,46,93,91,47,46,93]) Qao;refine Qay ?_;refine Qax QcF ?_ (Qae Qaq);refine Qay ?_;refine Qax QhI (Qae (Qag 1)) (Qae Qaq);refine Qar (QaG (Qag 2))
abbrev QeW:Stmt:=top 47
theorem Qgp:QaI ["_law_thing","_law_at","e"] ["_law_thing","_law_at"] (Qah QeW):=by trivial
def Qds:MS :=
  (Qai (Qhj (Qcs QcA (Qab (Qaa 0) Qaf)) ((["NoSign"],[],2,(Qai (QaL (Qa7 (QfY [("NoSign",false)] (Qaa 2))) (Qaw (mC (.bl false))) Qav)
  (Qai (QaL (QbD (QbQ (Qa7 (QfY [("NoSign",true)] (Qaa 2)))) (QbQ (Qa7 (QfY [("NoSign",true)] (Qaa 2))))) (Qaw (mC (.bl false))) Qav)
  (Qaw (QcY (QaB Qen (Qab (QiO "at" ["NoSign"] (Qaa 2)) Qaf)) (Qad QmS (QiO "at" ["NoSign"] (Qaa 2)) (Qaa 1))))))) :: []))
  (Qaw (mC (.bl false))))
def Qdr:List D→Qac→Res D:=Qa9 3 Qds
abbrev Qg0 (Pr:Program) (w:World) (K:Frag) (mg:Str→Option Value) (base:Heap):Prop:=Can Pr w K mg base "_law_refused" ["_law_thing","_law_at"] 7 (vSp K mg [.s,.s] (rV K) Qdr)
theorem Qje (QeM:Def K mg "_law_refused" QeW)
  (B:Blt mg)
  (EX_OutError_NoSign:EXM K mg "OutError" "NoSign" true)
  (IT_NoNameNoHandTwiceClosedNoSizeNoRoomNoRollNoCellNoRow_NoSign:QkV K mg ["NoName","NoHand","Twice","Closed","NoSize","NoRoom","NoRoll","NoCell","NoRow"] "NoSign" false)
  (VN:mg "ValueError" = none)
  (IV_NoSign:ISV K mg "NoSign")
  (IS_NoSign_NoSign:ISN K mg "NoSign" "NoSign" true)
  (XA_at_NoSign:XFC K mg "at" "NoSign")
  (Qc2:Qi8 Pr w K mg base)
  (QfL:QhZ Pr w K mg base) :
  Qg0 Pr w K mg base:=by
 refine Qcv (k:=6) (b:=Qds) QeM Qgp (fun _ _ _ _ _ _=>Qbb fun _=>Qbb fun _=>QbO rfl) [.s,.s] [.v] Qbj (fun _ _ _ _=>Rp.non) (body:=fun f cdv A outer s H E hr P=>?_);refine Qan ?_ ?_
 refine Qsf (Qqu Qbj Qc2 (hr.mono (by decide)) (fun E=>(QaH (Qap 0) Qao))) (Qrg (ys:=["NoSign"]) (ns:=[]) (i:=2) (Qjt EX_OutError_NoSign QiQ) QiQ (fun ea=>(Qan (Qa0 (QbS (Qae (Qt6 (ns:=["NoName","NoHand","Twice","Closed","NoSize","NoRoom","NoRoll","NoCell","NoRow"]) (tb:=[("NoSign",false)]) B.isinstance_ IT_NoNameNoHandTwiceClosedNoSizeNoRoomNoRollNoCellNoRow_NoSign.nm (QcE (QcE (QcE (QcE (QcE (QcE (QcE (QcE (QcE QrQ))))))))) (Qag 2) (QjE IT_NoNameNoHandTwiceClosedNoSizeNoRoomNoRollNoCellNoRow_NoSign QkZ)))) (Qar (QaG Qc3)) QaQ)
   (Qan (Qa0 (QeI (Qel (Qdn (QbS (Qae (Qs7 (tb:=[("NoSign",true)]) B.isinstance_ VN (Qag 2) (QjE (ISV.tb IV_NoSign) QkZ))))) (Qex (Qdn (QbS (Qae (Qtt (tb:=[("NoSign",true)]) B.isinstance_ IS_NoSign_NoSign.nm (Qag 2) (QjE IS_NoSign_NoSign QkZ)))))))) (Qar (QaG Qc3)) QaQ)
   (Qar (QaG (Qdq (QpI QfL (QaK.inH (hr.mono (by decide))) (QaH (Qae (Qmn (L:=["NoSign"]) (Qag 2) (Qjt XA_at_NoSign QiQ))) Qao)) (Qfj (QaJ (Qdm QtK (Qae (Qmn (L:=["NoSign"]) (Qag 2) (Qjt XA_at_NoSign QiQ))) (Qap 1) (QaF _)))))))))) Qum) Qgp.nd
 refine Qar (QaG Qc3)
abbrev QgL:Stmt:=top 48
theorem Qf4:QaI ["_law_text_here","_law_due","_law_found"] ["_law_text_here"] (Qah QgL):=by trivial
def Qe4:MS :=
  (Qai (Qat 1 (QaB Qf0 (Qab (QaB QgX (Qab (Qaa 0) Qaf)) Qaf)))
  (Qai (Qat 2 (QaB QcA (Qab (Qaa 0) Qaf)))
  (Qai (QaL (Qam (Qhh (Qaa 1))) (Qaw (Qhh (Qaa 2))) Qav)
  (Qaw (QaB QcN (Qab (Qaa 2) (Qab (Qaa 1) Qaf)))))))
def QcC:List D→Qac→Res D:=Qa9 3 Qe4
abbrev Qi6 (Pr:Program) (w:World) (K:Frag) (mg:Str→Option Value) (base:Heap):Prop:=Can Pr w K mg base "_law_told" ["_law_text_here"] 7 (vSp K mg [.s] (rV K) QcC)
theorem QlU (Qgv:Def K mg "_law_told" QgL)
  (B:Blt mg)
  (QfW:QhX Pr w K mg base)
  (Qgw:QiC Pr w K mg base)
  (Qc2:Can Pr w K mg base "unshaded" ["text"] 6 (vSp K mg [.s] (rV K) QcA))
  (QdZ:QfE Pr w K mg base) :
  Qi6 Pr w K mg base:=by
 refine Qcv (k:=6) (b:=Qe4) Qgv Qf4 (fun _ _ _ _ _ _=>Qbb fun _=>QbO rfl) [.s] [.v,.v] Qbj (fun _ _ _ _=>Rp.non) (body:=fun f cdv A outer s H E hr P=>?_);refine Qan ?_ ?_;refine QaP (i:=1) Qf4.nd rfl (.inl rfl) ?_;refine QaJ ?_;refine Qgi QfW (hr.mono (by decide)) ?_;refine QaH ?_ Qao;refine Qay ?_;refine Qgi Qgw (hr.mono (by decide)) ?_;refine QaH (Qap 0) Qao;refine Qan ?_ ?_;refine QaP (i:=2) Qf4.nd rfl (.inl rfl) ?_;refine Qa2 Qc2 (hr.mono (by decide)) ?_;refine QaH (Qap 0) Qao;refine Qan ?_ ?_;refine Qa0 ?_ ?_ QaQ;refine QsQ (Qae (Qag 1));refine Qar ?_;refine QaG ?_;refine QaJ ?_;refine QtZ (Qae (Qag 2))
 refine Qar ?_;refine QaG ?_;refine Qa2 QdZ (hr.mono (by decide)) ?_;refine QaH (Qae (Qag 2)) ?_;refine QaH (Qae (Qag 1)) Qao
abbrev Qeg:Stmt:=top 49
theorem Qeu:QaI ["_law_script","_law_text_here","_law_cell","_law_at","_law_more","_law_behind","_law_spoilt","_law_one"] ["_law_script"] (Qah Qeg):=by trivial
def Qky:MS :=
  (Qai (Qat 1 (QaB Qc0 (Qab (Qaa 0) Qaf)))
  (Qai (QaL (QbQ (Qa7 (QaB QcC (Qab (Qaa 1) Qaf)))) (Qaw (mC (.bl false))) Qav)
  (Qai (Qat 2 (QaB Qcf (Qab (Qaa 0) (Qab (mC (.int 1)) Qaf))))
  (Qai (Qat 3 (Qad QbE (QaB Qch (Qab (Qaa 2) (Qab (mC (.int 1)) Qaf))) (Qad Qas (QaV Qbq (Qab (Qaa 1) Qaf)) (mC (.int 1)))))
  (Qai (Qat 4 (Qad QbE (QaB Qch (Qab (Qaa 2) (Qab (mC (.int 2)) Qaf))) (Qad Qas (Qad Qfk (QaV Qbq (Qab (Qaa 1) Qaf)) (Qaa 3)) (mC (.int 1)))))
  (Qai (Qat 5 (mSl (Qaa 1) (moS (Qaa 3)) moN))
  (Qai (Qat 6 (Qad Qas (Qad Qas (Qad Qas (Qad Qas (mSl (Qaa 1) moN (moS (Qaa 3))) (mC (.str [126]))) (mSl (Qaa 5) moN (moS (Qaa 4)))) (mC (.str [126]))) (mSl (Qaa 5) (moS (Qaa 4)) moN)))
  (Qai (QaL (QbQ (Qa7 (QaB Qdr (Qab (Qaa 6) (Qab (Qaa 3) Qaf))))) (Qaw (mC (.bl false))) Qav)
  (Qai (QaL (QbQ (Qa7 (QaB Qdr (Qab (Qad gIx (QbF (Qab (mC .non) (Qab (mC (.int 5)) (Qab (QbF (Qab (mC (.str [97])) Qaf)) (Qab (Qbt (Qab (mC (.str [97])) Qaf)) (Qab (mC (.bl true)) (Qab (mC (.dic [] [])) Qaf))))))) (Qad QbE (Qaa 2) (mC (.int 6)))) (Qab (mC (.int 0)) Qaf))))) (Qaw (mC (.bl false))) Qav)
  (Qai (QbP (Qco (QbF (Qab (Qaa 1) (Qab (mSl (Qaa 1) moN (moS (Qaa 3))) (Qab (mSl (Qaa 1) (moS (Qaa 3)) moN) Qaf))))) (mgN 7) (QaL (QbQ (Qa7 (QaB QcC (Qab (Qaa 7) Qaf)))) (Qaw (mC (.bl false))) Qav))
  (Qaw (mC (.bl true)))))))))))))
def Qq1:List D→Qac→Res D:=Qa9 8 Qky
abbrev Qvk (Pr:Program) (w:World) (K:Frag) (mg:Str→Option Value) (base:Heap):Prop:=Can Pr w K mg base "law" ["_law_script"] 8 (vSp K mg [.s] (rV K) Qq1)
theorem QtF (Qm5:Def K mg "law" Qeg)
  (B:Blt mg)
  (QgU:QiF Pr w K mg base)
  (Qfc:Qi6 Pr w K mg base)
  (Qcc:QeD Pr w K mg base)
  (QbX:QfK Pr w K mg base)
  (Qdv:Qg0 Pr w K mg base) :
  Qvk Pr w K mg base:=by
 refine Qcv (k:=7) (b:=Qky) Qm5 Qeu (fun _ _ _ _ _ _=>Qbb fun _=>QbO rfl) [.s] [.v,.v,.v,.v,.v,.v,.v] Qbj (fun _ _ _ _=>Rp.non) (body:=fun f cdv A outer s H E hr P=>?_);refine Qan ?_ ?_;refine QaP (i:=1) Qeu.nd rfl (.inl rfl) ?_;refine Qa2 QgU (hr.mono (by decide)) ?_;refine QaH (Qap 0) Qao;refine Qan ?_ ?_;refine Qa0 ?_ ?_ QaQ;refine Qdn ?_;refine QbS ?_;refine Qae ?_;refine Qa2 Qfc (hr.mono (by decide)) ?_;refine QaH (Qae (Qag 1)) Qao;refine Qar (QaG Qc3);refine Qan ?_ ?_;refine QaP (i:=2) Qeu.nd rfl (.inl rfl) ?_;refine Qa2 Qcc (hr.mono (by decide)) ?_;refine QaH (Qap 0) ?_;refine QaH (Qae Qaq) Qao
 refine Qan ?_ ?_;refine QaP (i:=3) Qeu.nd rfl (.inl rfl) ?_;refine QaJ ?_;refine Qax QcF ?_ ?_;refine Qae ?_;refine Qa2 QbX (hr.mono (by decide)) ?_;refine QaH (Qae (Qag 2)) ?_;refine QaH (Qae Qaq) Qao;refine Qay ?_;refine Qax QaR ?_ (Qae Qaq);refine Qay ?_;refine Qbn (ms:=[.s]) (hv:=QbW) QbZ B.len_ ?_;refine QaH (Qae (Qag 1)) Qao;refine Qan ?_ ?_;refine QaP (i:=4) Qeu.nd rfl (.inl rfl) ?_;refine QaJ ?_;refine Qax QcF ?_ ?_;refine Qae ?_;refine Qa2 QbX (hr.mono (by decide)) ?_;refine QaH (Qae (Qag 2)) ?_;refine QaH (Qae Qaq) Qao;refine Qay ?_;refine Qax QaR ?_ (Qae Qaq);refine Qay ?_;refine Qax Qk6 ?_ (Qae (Qag 3))
 refine Qay ?_;refine Qbn (ms:=[.s]) (hv:=QbW) QbZ B.len_ ?_;refine QaH (Qae (Qag 1)) Qao;refine Qan ?_ ?_;refine QaP (i:=5) Qeu.nd rfl (.inl rfl) ?_;refine QaJ ?_;refine QbH (Qae (Qag 1)) (Qbf (Qag 3)) Qfg;refine Qan ?_ ?_;refine QaP (i:=6) Qeu.nd rfl (.inl rfl) ?_;refine QaJ ?_;refine Qax QaR ?_ ?_;refine Qay ?_;refine Qax QaR ?_ (Qae (Qal [126]));refine Qay ?_;refine Qax QaR ?_ ?_;refine Qay ?_;refine Qax QaR ?_ (Qae (Qal [126]));refine Qay ?_;refine QbH (Qae (Qag 1)) Qfg (Qbf (Qag 3));refine Qay ?_;refine QbH (Qae (Qag 5)) Qfg (Qbf (Qag 4));refine Qay ?_;refine QbH (Qae (Qag 5)) (Qbf (Qag 4)) Qfg
 refine Qan ?_ ?_;refine Qa0 ?_ ?_ QaQ;refine Qdn ?_;refine QbS ?_;refine Qae ?_;refine Qa2 Qdv (hr.mono (by decide)) ?_;refine QaH (Qae (Qag 6)) ?_;refine QaH (Qae (Qag 3)) Qao;refine Qar (QaG Qc3);refine Qan ?_ ?_;refine Qa0 ?_ ?_ QaQ;refine Qdn ?_;refine QbS ?_;refine Qae ?_;refine Qa2 Qdv (hr.mono (by decide)) ?_;refine QaH ?_ ?_;refine Qae ?_;refine Qba ?_ ?_;refine Qay ?_;refine Qcb 6 ?_;refine QaD Qgr ?_;refine QaD Qaq ?_;refine QaD ?_ ?_;refine QaJ ?_;refine Qcb 1 ?_;refine QaD (Qal [97]) Qao;refine QaD ?_ ?_;refine QbR 1 ?_;refine QaD (Qal [97]) Qao;refine QaD Qc3 ?_;refine QaD QrR Qao
 refine Qay ?_;refine Qax QcF (Qae (Qag 2)) (Qae Qaq);refine QaH (Qae Qaq) Qao;refine Qar (QaG Qc3);refine Qan ?_ ?_;refine Qhb rfl ?_ (QbT (i:=7) Qeu.nd rfl (.inl rfl)) ?_;refine Qlk ?_;refine QuL ?_;refine QaJ ?_;refine Qcb 3 ?_;refine QaD (Qag 1) ?_;refine QaD ?_ ?_;refine QaJ ?_;refine QbH (Qae (Qag 1)) Qfg (Qbf (Qag 3));refine QaD ?_ Qao;refine QaJ ?_;refine QbH (Qae (Qag 1)) (Qbf (Qag 3)) Qfg;refine Qar ?_;refine Qa0 ?_ ?_ QaQ;refine Qdn ?_;refine QbS ?_;refine Qae ?_;refine Qa2 Qfc (hr.mono (by decide)) ?_;refine QaH (Qae (Qag 7)) Qao;refine Qar (QaG Qc3);refine Qar (QaG Qc3)
end
structure Okt (t:List Nat):Prop where
 len:t.length≤5000
 ok:∀c∈t,(32≤c∧c≤125)∨c=10∨c=9
theorem Okt.lt {t:List Nat} (h:Okt t):∀c∈t,c < 128:=fun c hc=>by
 have:=h.ok c hc
 omega
theorem Okt.asc {t:List Nat} (h:Okt t):ascii t=true:=by
 unfold ascii;rw [jj];intro c hc;exact zt (h.lt c hc)
@[simp] theorem Qx8 {a:Nat}:gIx (.str [a]) (.int 0)=some (.str [a]):=rfl
@[simp] theorem QxK {a b:Nat}:gIx (.str [a,b]) (.int 0)=some (.str [a]):=rfl
@[simp] theorem QxT {a b:Nat}:gIx (.str [a,b]) (.int 1)=some (.str [b]):=rfl
@[simp] theorem QxU {a b c:Nat}:gIx (.str [a,b,c]) (.int 0)=some (.str [a]):=rfl
@[simp] theorem QxM {a b c:Nat}:gIx (.str [a,b,c]) (.int 1)=some (.str [b]):=rfl
@[simp] theorem QxW {a b c:Nat}:gIx (.str [a,b,c]) (.int 2)=some (.str [c]):=rfl
@[simp] theorem Qx3 {a b c d:Nat}:gIx (.str [a,b,c,d]) (.int 0)=some (.str [a]):=rfl
@[simp] theorem QxX {a b c d:Nat}:gIx (.str [a,b,c,d]) (.int 1)=some (.str [b]):=rfl
@[simp] theorem Qx7 {a b c d:Nat}:gIx (.str [a,b,c,d]) (.int 2)=some (.str [c]):=rfl
@[simp] theorem Qx4 {a b c d:Nat}:gIx (.str [a,b,c,d]) (.int 3)=some (.str [d]):=rfl
@[simp] theorem Qvr {a b:D}:gIx (.tup [a,b]) (.int 0)=some a:=rfl
@[simp] theorem Qvy {a b:D}:gIx (.tup [a,b]) (.int 1)=some b:=rfl
@[simp] theorem QxQ {a b c:D}:gIx (.tup [a,b,c]) (.int 0)=some a:=rfl
@[simp] theorem Qx6 {a b c:D}:gIx (.tup [a,b,c]) (.int 1)=some b:=rfl
@[simp] theorem Qq9 {a b c:D}:gIx (.tup [a,b,c]) (.int 2)=some c:=rfl
theorem QgP (c:Nat) (O:Qac):Qck [.str [c]] O = .ok (.bl (col c)) O:=by
 simp [Qck,QfV,col]
theorem Qe9 (c:Nat) (O:Qac):QdC [.str [c]] O = .ok (.bl (decide (32≤c∧c≤125))) O:=by
 simp [QdC,Qhl]
 by_cases h:32≤c <;> simp [h]
theorem Qpe {t:List Nat}{d:D}{i:Nat} (h:(Qbz 0 (Qa1 t))[i]? = some d):∃c,c∈t∧d = .tup [.int i,.str [c]]:=by
 rw [QfG] at h;unfold Qa1 at h;rw [zG] at h
 cases q:t[i]? with
 | none=>rw [q] at h; cases h
 | some c =>
  rw [q] at h;simp at h;exact ⟨c,zO q,h.symm⟩
def mkD:Option (List Nat×List Nat)→D
 | some (k,v)=>.tup [.str k,.str v]
 | none=>.non
theorem Quq (s:List Nat) (h0:1≤s.length) (h4:s.length≤4) (O:Qac):QcW [.str s] O = .ok (mkD (markB s)) O:=by
 match s,h0,h4 with
 | [a],_,_=>simp [QcW,QdD,markB,mkD]
 | [a,b],_,_ =>
  simp [QcW,QdD,markB]
  by_cases h1:a=91∧b=93
  ·simp [h1,mkD,QdG]
  ·by_cases h2:a=91∧b=91
   ·simp [h2,mkD,QaU]
   ·simp [h1,h2,mkD]
 | [a,b,c],_,_ =>
  simp [QcW,QdD,markB,QgP]
  by_cases h1:a=91
  ·by_cases h2:col b=true
   ·by_cases h3:c=93
    ·simp [h1,h2,h3,mkD,Qdh]
    ·simp [h1,h2,h3,mkD]
   ·simp [h1,h2,mkD]
  ·simp [h1,mkD]
 | [a,b,c,d],_,_ =>
  simp [QcW,QdD,markB,QgP]
  by_cases h1:a=91
  ·by_cases h5:b=47
   ·by_cases h2:col c=true
    ·by_cases h3:d=93
     ·simp [h1,h2,h3,h5,mkD,Qb0]
     ·simp [h1,h2,h3,h5,mkD]
    ·simp [h1,h2,h5,mkD]
   ·simp [h1,h5,mkD]
  ·simp [h1,mkD]
theorem Qvt (s:List Nat) (h0:1≤s.length) (h4:s.length≤4) (O:Qac):Qbs [.str s] O = .ok (.bl (Qca s)) O:=by
 match s,h0,h4 with
 | [a],_,_ =>
  simp [Qbs,QbJ,Qca]
  by_cases h1:a=91 <;> simp [h1]
 | [a,b],_,_ =>
  simp [Qbs,QbJ,Qca,QgP]
  by_cases h1:a=91
  ·by_cases h2:b=47 <;> simp [h1,h2]
  ·simp [h1]
 | [a,b,c],_,_ =>
  simp [Qbs,QbJ,Qca,QgP]
  by_cases h1:a=91
  ·by_cases h2:b=47 <;> simp [h1,h2]
  ·simp [h1]
 | [a,b,c,d],_,_ =>
  simp [Qbs,QbJ,Qca]
theorem Qu2 (p:Int) (c:Nat) (O:Qac):QdM [.int p,.str [c]] O = .ok (own p c) O:=by
 simp [QdM,QgB,own,item]
 by_cases h1:c=10
 ·simp [h1,Qcw]
 ·by_cases h2:c=9
  ·simp [h1,h2,Qb4]
  ·simp [h1,h2,QaU]
theorem QjQ (p:Int):∀(l:List Nat) (k:Nat),(Qbz k (Qa1 l)).map (fun d=>match d with | .tup [.int i,.str [c]]=>own (p+i) c | _=>.non)=Qcl (p+k) l
 | [],k=>rfl
 | c::l,k=>by
  show own (p+(k:Int)) c::(Qbz (k+1) (Qa1 l)).map _=own (p+k) c::Qcl (p+k+1) l;rw [QjQ p l (k+1)];congr 2;omega
theorem Qlx (p:Int) (l:List Nat) (ha:ascii l=true) (hl:l.length≤100000) (O:Qac):QcI [.int p,.str l] O = .ok (.lst (Qcl p l)) O:=by
 have hl':(Qbz 0 (Qa1 l)).length≤1000000:=by rw [QfA]; unfold Qa1; rw [zA]; omega
 have ec:Qc7 (Qfl 2 (Qbe (mgN 0) (Qbe (mgN 1) Qdl))) Qjj (QaB QdM (Qab (Qad Qas (Qaa 2) (Qaa 0)) (Qab (Qaa 1) Qaf))) (Qbz 0 (Qa1 l)) [none,none,some (.int p)] O [] = .ok (Qcl p l) O:=by
  rw [Qha (fun ρ=>∃a b,ρ = [a,b,some (.int p)]) (fun d=>match d with | .tup [.int i,.str [c]]=>own (p+i) c | _=>.non) _ _ _ _ ⟨none,none,rfl⟩ (by
   rintro d hd ρ ⟨a,b,rfl⟩;obtain ⟨i,hi⟩:=List.mem_iff_getElem?.mp hd;obtain ⟨c,hc,rfl⟩:=Qpe hi;refine ⟨_,rfl,⟨_,_,rfl⟩,rfl,?_⟩
   simp [Qu2])]
  rw [QjQ p l 0];simp
 simp [QcI,Qgd,QlZ ha,hl',ec]
def RO (h:List Nat) (p:Int):Ob:=.ins "Reader" [("held",.str h),("place",.int p)]
theorem fh {O:Qac}{n:Nat}{h:List Nat}{p:Int} (e:O[n]? = some (RO h p)):Qlb ["Reader"] "held" (.ob n) O = .ok (.str h) O:=by
 unfold Qlb; dsimp only; rw [e]; rfl
theorem fp {O:Qac}{n:Nat}{h:List Nat}{p:Int} (e:O[n]? = some (RO h p)):Qlb ["Reader"] "place" (.ob n) O = .ok (.int p) O:=by
 unfold Qlb; dsimp only; rw [e]; rfl
theorem ph {O:Qac}{n:Nat}{h h':List Nat}{p:Int}{ρ:Qak} (e:O[n]? = some (RO h p)):puF ["Reader"] "held" (.str h') ρ (.ok (.ob n) O) = .nx ρ (O.set n (RO h' p)):=by
 unfold puF; dsimp only; rw [e]; rfl
theorem pp {O:Qac}{n:Nat}{h:List Nat}{p p':Int}{ρ:Qak} (e:O[n]? = some (RO h p)):puF ["Reader"] "place" (.int p') ρ (.ok (.ob n) O) = .nx ρ (O.set n (RO h p')):=by
 unfold puF; dsimp only; rw [e]; rfl
theorem gs {O:Qac}{n:Nat}{x y:Ob} (e:O[n]? = some x):(O.set n y)[n]? = some y:=by
 obtain ⟨h,_⟩:=zn.mp e;simp [h]
theorem Qin {h:List Nat} (H:Held h):ascii h=true:=by
 cases H with
 | h0=>rfl
 | h1=>rfl
 | h2=>rfl
 | h3 x hx =>
  have:x∈[97,98,99,100,101,102,103,104,46]:=jf hx
  have q:∀c∈[97,98,99,100,101,102,103,104,46],c < 128:=by decide
  simp [ascii,q x this]
 | h4 x hx =>
  have:x∈[97,98,99,100,101,102,103,104,46]:=jf hx
  have q:∀c∈[97,98,99,100,101,102,103,104,46],c < 128:=by decide
  simp [ascii,q x this]
theorem Qso {a:List Nat}{c:Nat} (h:ascii a=true) (hc:c < 128):ascii (a ++ [c])=true:=by
 unfold ascii at *;rw [List.all_append,h];simp [hc]
theorem Qui {O:Qac}{n:Nat}{h:List Nat}{p:Int} (e:O[n]? = some (RO h p)) (H:Held h) (c:Nat) (hc:c < 128):QbM [.ob n,.str [c]] O = .ok (.lst (tk h c (p - h.length)).1) (O.set n (RO (tk h c (p - h.length)).2 (p+1))):=by
 have hl:=H.len;have e1:(O.set n (RO h (p+1)))[n]? = some (RO h (p+1)):=gs e
 have z1:h.length+1≤1000000:=by omega
 have z2:h.length≤1000000:=by omega
 have s0:1≤(h ++ [c]).length:=by simp
 have s4:(h ++ [c]).length≤4:=by simp; omega
 have f1:=Qvt (h ++ [c]) s0 s4;have f2:=Quq (h ++ [c]) s0 s4
 have f3:=fun O=>Qlx (p - h.length) h (Qin H) (by omega) O
 have f4:=fun O=>Qlx (p - h.length) (h ++ [c]) (Qso (Qin H) hc) (by omega) O
 unfold tk;simp [QbM,QeU,fh e,fp e,pp e,z1,z2,f1]
 by_cases q1:Qca (h ++ [c])=true
 ·simp [q1,ph e1]
 ·simp [q1,f2]
  cases q2:markB (h ++ [c]) with
  | some kv =>
   obtain ⟨k,v⟩:=kv;simp [mkD,ph e1,item]
  | none =>
   simp [mkD]
   by_cases q3:c=91
   ·subst q3;simp [fh e1,f3,ph e1]
   ·simp [q3,ph e1,f4]
def bC:MS:=(Qai (Qem (QbQ (QbD (Qa7 (QaB QdC (Qab (Qaa 2) Qaf))) (QbD (Qam (Qad gEq (Qaa 2) (mC (.str [10])))) (Qam (Qad gEq (Qaa 2) (mC (.str [9]))))))) (Qai (Qdx "NoSign" "at" (Qaa 1))
  Qav) Qav)
  Qav)
def gC:MG:=Qfl 2 (Qbe (mgN 1) (Qbe (mgN 2) Qdl))
def okc (c:Nat):Prop:=(32≤c∧c≤125)∨c=10∨c=9
theorem QlB (c:Nat) (o0 o1:Option D) (O:Qac):∃b,(b=true↔okc c)∧(QbD (Qa7 (QaB QdC (Qab (Qaa 2) Qaf))) (QbD (Qam (Qad gEq (Qaa 2) (mC (.str [10])))) (Qam (Qad gEq (Qaa 2) (mC (.str [9])))))) [o0,o1,some (.str [c])] O = .ok b O:=by
 unfold okc
 by_cases h:32≤c∧c≤125
 ·exact ⟨true,by simp [h],by simp [Qe9,h]⟩
 ·by_cases h1:c=10
  ·exact ⟨true,by simp [h1],by simp [Qe9,h1]⟩
  ·by_cases h2:c=9
   ·exact ⟨true,by simp [h2],by simp [Qe9,h2]⟩
   ·have h':32≤c→125 < c:=by omega
    exact ⟨false,by simp [h,h1,h2],by simp [Qe9,h,h1,h2]; try exact h'⟩
theorem Qmu {c:Nat} (h:okc c) (o0 o1:Option D) (O:Qac):bC [o0,o1,some (.str [c])] O = .nx [o0,o1,some (.str [c])] O:=by
 obtain ⟨b,hb,e⟩:=QlB c o0 o1 O;have hb':b=true:=hb.mpr h;subst hb';unfold bC;exact QaO (QqD (by rw [Qhu,e,Qaz]; rfl))
theorem Qsz {c:Nat} (h:¬okc c) {d:D} (o0:Option D) (O:Qac):bC [o0,some d,some (.str [c])] O = .ex ⟨"NoSign",[("at",d)]⟩ O:=by
 obtain ⟨b,hb,e⟩:=QlB c o0 (some d) O
 have hb':b=false:=by
  cases b with
  | true=>exact absurd (hb.mp rfl) h
  | false=>rfl
 subst hb';unfold bC;exact QfD ((QnX (by rw [Qhu,e,Qaz]; rfl)).trans (QfD (Qo5 rfl)))
theorem Qnd (o0 o1 o2:Option D) (d e:D):gC (.tup [d,e]) [o0,o1,o2]=some [o0,some d,some e]:=rfl
theorem Qk3:∀(t:List Nat) (k:Nat) (o0 o1 o2:Option D) (O:Qac),(∀c∈t,okc c)→∃o1' o2',QaS gC bC (Qbz k (Qa1 t)) [o0,o1,o2] O = .nx [o0,o1',o2'] O
 | [],k,o0,o1,o2,O,_=>⟨o1,o2,rfl⟩
 | c::t,k,o0,o1,o2,O,h=>by
  obtain ⟨o1',o2',e⟩:=Qk3 t (k+1) o0 (some (.int k)) (some (.str [c])) O fun x hx=>h x (zw _ hx)
  refine ⟨o1',o2',?_⟩;show QaS gC bC (.tup [.int k,.str [c]]::Qbz (k+1) (Qa1 t)) [o0,o1,o2] O=_;unfold QaS;rw [Qnd];dsimp only;rw [Qmu (h c zx)];exact e
theorem Qhy {x:Nat} (hx:¬okc x) (b:List Nat):∀(a:List Nat) (k:Nat) (o0 o1 o2:Option D) (O:Qac),(∀c∈a,okc c)→QaS gC bC (Qbz k (Qa1 (a++x::b))) [o0,o1,o2] O = .ex ⟨"NoSign",[("at",.int ((k+a.length:Nat):Int))]⟩ O
 | [],k,o0,o1,o2,O,_=>by
  show QaS gC bC (.tup [.int k,.str [x]]::Qbz (k+1) (Qa1 b)) [o0,o1,o2] O=_;unfold QaS;rw [Qnd];dsimp only;rw [Qsz hx];rfl
 | c::a,k,o0,o1,o2,O,h=>by
  have e:=Qhy hx b a (k+1) o0 (some (.int k)) (some (.str [c])) O fun y hy=>h y (zw _ hy)
  show QaS gC bC (.tup [.int k,.str [c]]::Qbz (k+1) (Qa1 (a++x::b))) [o0,o1,o2] O=_;unfold QaS;rw [Qnd];dsimp only;rw [Qmu (h c zx)];dsimp only;rw [e,show k+1+a.length=k+(c::a).length by rw [zp]; omega]
theorem Ql2 (t:List Nat) (o1 o2:Option D) (O:Qac):QbQ (Qa7 (Qdf "str" (Qaa 0))) [some (.str t),o1,o2] O = .ok false O:=rfl
theorem Ql0 {t:List Nat} (ha:ascii t=true) (o1 o2:Option D) (O:Qac):QgW (Qaa 0) [some (.str t),o1,o2] O = .ok (Qbz 0 (Qa1 t)) O:=by
 rw [QtM,Qe0];exact QlZ ha
theorem Qov (t:List Nat) (h:Okt t) (O:Qac):Qb5 [.str t] O = .ok .non O:=by
 obtain ⟨o1,o2,e⟩:=Qk3 t 0 (some (.str t)) none none O h.ok;show Qbw (Qcu [some (.str t),none,none] O)=_;unfold Qcu;rw [QaO (Qo6 (Ql2 t none none O))];show Qbw (Qai (Qdo (QgW (Qaa 0)) gC bC) Qav [some (.str t),none,none] O)=_;rw [QaO ((Qpg (Ql0 h.asc none none O)).trans e)];rfl
theorem Qkn {a b:List Nat}{x:Nat} (hx:¬okc x) (ha:∀c∈a,okc c) (hs:ascii (a++x::b)=true) (O:Qac):Qb5 [.str (a++x::b)] O = .ex ⟨"NoSign",[("at",.int (a.length:Int))]⟩ O:=by
 have e:=Qhy hx b a 0 (some (.str (a++x::b))) none none O ha;rw [Nat.zero_add] at e;show Qbw (Qcu [some (.str (a++x::b)),none,none] O)=_;unfold Qcu;rw [QaO (Qo6 (Ql2 _ none none O))];show Qbw (Qai (Qdo (QgW (Qaa 0)) gC bC) Qav [some (.str (a++x::b)),none,none] O)=_;rw [QfD ((Qpg (Ql0 hs none none O)).trans e)];rfl
theorem QkH {d:D}{O:Qac} (h:Qdf "str" (Qaa 0) [some d,none,none] O = .ok (.bl false) O):Qb5 [d] O = .ex ⟨"NoSign",[("at",.int 0)]⟩ O:=by
 show Qbw (Qcu [some d,none,none] O)=_;unfold Qcu;rw [QfD ((QnX (O':=O) (by rw [Qhu,Qkr,h]; rfl)).trans (QfD (Qo5 rfl)))];rfl
theorem Qh6:∀(l:List Nat) (p:Int),(Qcl p l).length=l.length
 | [],_=>rfl
 | c::l,p=>by show (Qcl (p+1) l).length+1=l.length+1; rw [Qh6 l]
theorem QoX {h:List Nat} (H:Held h) (c:Nat) (p:Int):(tk h c p).1.length≤4:=by
 have:=H.len
 unfold tk
 split
 ·simp
 ·split
  ·simp
  ·split <;> simp [Qh6] <;> omega
theorem QlE:∀(t:List Nat) {h:List Nat} (_:Held h) (p:Int),(Qbu h p t).1.length≤4 * t.length
 | [],h,H,p=>by simp [Qbu]
 | c::t,h,H,p=>by
  have a:=QoX H c (p - h.length);have b:=QlE t (Qgu H c (p - h.length) []).1 (p+1);simp only [Qbu,zr,zp];omega
theorem Qpz {O:Qac}{n:Nat}{x y:Ob}:(O.set n x).set n y=O.set n y:=by simp
def bT:MS:=(Qai (msN (QhV 2 (Qe6 "Reader" "take" QbM (Qaa 0) (Qab (Qaa 3) Qaf))))
  Qav)
theorem Qki {n:Nat}{t0:List Nat}:∀(t:List Nat) (h:List Nat) (_:Held h) (p:Int) (acc:List D) (O:Qac) (o3:Option D),O[n]? = some (RO h p)→(∀c∈t,c < 128)→acc.length+4 * t.length≤1000000 →
  ∃o3',QaS (mgN 3) bT (Qa1 t) [some (.ob n),some (.str t0),some (.lst acc),o3] O = .nx [some (.ob n),some (.str t0),some (.lst (acc++(Qbu h p t).1)),o3'] (O.set n (RO (Qbu h p t).2 (p+t.length)))
 | [],h,H,p,acc,O,o3,e,_,_=>by
  refine ⟨o3,?_⟩;obtain ⟨hn,e'⟩:=zn.mp e;show Fl.nx _ O=_;simp only [Qbu,zC,zR]
  have:O.set n (RO h p)=O:=by rw [←e']; exact List.set_getElem_self _
  simp [this]
 | c::t,h,H,p,acc,O,o3,e,hc,hl=>by
  have et:=Qui e H c (hc c zx)
  have hm:meF "Reader" "take" QbM (Qab (Qaa 3) Qaf [some (.ob n),some (.str t0),some (.lst acc),some (.str [c])]) (.ob n) O=QbM [.ob n,.str [c]] O:=by
   unfold meF;dsimp only;rw [e];rfl
  have tl:=QoX H c (p - h.length);simp only [zp] at hl;obtain ⟨o3',q⟩:=Qki t (tk h c (p - h.length)).2 (Qgu H c (p - h.length) []).1 (p+1) (acc++(tk h c (p - h.length)).1) (O.set n (RO (tk h c (p - h.length)).2 (p+1))) (some (.str [c])) (gs e) (fun d hd=>hc d (zw _ hd)) (by rw [zr]; omega);refine ⟨o3',?_⟩
  have eb:bT [some (.ob n),some (.str t0),some (.lst acc),some (.str [c])] O = .nx [some (.ob n),some (.str t0),some (.lst (acc++(tk h c (p - h.length)).1)),some (.str [c])] (O.set n (RO (tk h c (p - h.length)).2 (p+1))):=by
   unfold bT;refine QaO (Qc8 ?_);rw [Qtw,Qoa,Qe0];show exF 2 (meF "Reader" "take" QbM _ (.ob n) O) _=_;rw [hm,et,QtD (ds:=acc) rfl (by omega)];rfl
  show QaS _ _ (D.str [c]::Qa1 t) _ O=_;unfold QaS;rw [mg_n];dsimp only
  show (match bT [some (.ob n),some (.str t0),some (.lst acc),some (.str [c])] O with
   | .nx ρ' O'=>QaS _ _ (Qa1 t) ρ' O' | .ct ρ' O'=>QaS _ _ (Qa1 t) ρ' O' | .bk ρ' O'=>Fl.nx ρ' O' | r=>r)=_
  rw [eb];dsimp only;rw [q,Qpz];simp only [Qbu,zP,zp];congr 3
  push_cast
  omega
theorem QtW {O:Qac}{n:Nat}{h:List Nat}{p:Int} (e:O[n]? = some (RO h p)) (H:Held h) (t:List Nat) (ht:Okt t):Qdw [.ob n,.str t] O = .ok (.lst (Qbu h p t).1) (O.set n (RO (Qbu h p t).2 (p+t.length))):=by
 have hl:=ht.len;obtain ⟨o3,q⟩:=Qki (t0:=t) t h H p [] O none e ht.lt (by simp; omega);rw [zY] at q;show Qbw (Qcd [some (.ob n),some (.str t),none,none] O)=_;unfold Qcd
 rw [QaO (Qu0 ((QiY (show Qab (Qaa 1) Qaf [some (.ob n),some (.str t),none,none] O = .ok [.str t] O from rfl)).trans (Qov t ht O))),
  QaO (Qc8 (show Qat 2 (QbF Qaf) [some (.ob n),some (.str t),none,none] O = .nx [some (.ob n),some (.str t),some (.lst []),none] O from rfl))]
 show Qbw (Qai (Qdo (Qco (Qaa 1)) (mgN 3) bT) (Qai (msN (Qaw (Qaa 2))) Qav) [some (.ob n),some (.str t),some (.lst []),none] O)=_
 rw [QaO ((Qpg (show Qco (Qaa 1) [some (.ob n),some (.str t),some (.lst []),none] O = .ok (Qa1 t) O by rw [QkP,Qe0]; show itF (QfJ (.str t)) O=_; rw [QoM ht.asc]; rfl)).trans q),
  Qfb (QkF (show Qaw (Qaa 2) [some (.ob n),some (.str t),some (.lst (Qbu h p t).1),o3] (O.set n (RO (Qbu h p t).2 (p+t.length))) = .rt (.lst (Qbu h p t).1) (O.set n (RO (Qbu h p t).2 (p+t.length))) from rfl))]
 rfl
theorem QnM {O:Qac}{n:Nat}{d:D}{x:Xc} (e:Qb5 [d] O = .ex x O):Qdw [.ob n,d] O = .ex x O:=by
 show Qbw (Qcd [some (.ob n),some d,none,none] O)=_;unfold Qcd;rw [QfD (QpU ((QiY (show Qab (Qaa 1) Qaf [some (.ob n),some d,none,none] O = .ok [d] O from rfl)).trans e))];rfl
theorem QpJ {O:Qac}{n:Nat}{h:List Nat}{p:Int} (e:O[n]? = some (RO h p)) (H:Held h):QcL [.ob n] O = .ok (.lst (Qcl (p - h.length) h)) (O.set n (RO [] p)):=by
 have hl:=H.len
 have z2:h.length≤1000000:=by omega
 have f3:=fun O=>Qlx (p - h.length) h (Qin H) (by omega) O
 simp [QcL,QdW,fh e,fp e,z2,f3,ph e]
theorem Qs3 (O:Qac):QbI [.ob O.length] (O ++ [.ins "Reader" []]) = .ok .non (O ++ [RO [] 0]):=by
 have a:(O ++ [Ob.ins "Reader" []])[O.length]? = some (.ins "Reader" []):=by simp
 have s1:∀ρ,puF ["Reader"] "held" (.str []) ρ (.ok (.ob O.length) (O ++ [.ins "Reader" []])) = .nx ρ (O ++ [.ins "Reader" [("held",.str [])]]):=fun ρ=>by
  unfold puF;dsimp only;rw [a];dsimp only;rw [if_pos (by decide)];simp [putD]
 have b:(O ++ [Ob.ins "Reader" [("held",.str [])]])[O.length]? = some (.ins "Reader" [("held",.str [])]):=by simp
 have s2:∀ρ,puF ["Reader"] "place" (.int 0) ρ (.ok (.ob O.length) (O ++ [.ins "Reader" [("held",.str [])]])) = .nx ρ (O ++ [RO [] 0]):=fun ρ=>by
  unfold puF;dsimp only;rw [b];dsimp only;rw [if_pos (by constructor <;> decide)]
  have:putD "place" (.int 0) [("held",.str [])] = [(("held":Str),D.str []),("place",.int 0)]:=by rfl
  rw [this];simp [RO]
 simp [QbI,Qdc,s1,s2]
theorem Qvd (ρ:Qak) (O:Qac):QgQ "Reader" QbI Qaf ρ O = .ok (.ob O.length) (O ++ [RO [] 0]):=by
 simp [Qs3]
theorem QiM (O:Qac):(O ++ [RO [] 0])[O.length]? = some (RO [] 0):=by simp
theorem Qub {cf:List D→Qac→Res D}{m:Str}{ma:Qac→Res (List D)}{n:Nat}{O:Qac}{h:List Nat}{p:Int} (hm:m≠"held") (hm':m≠"place") (e:O[n]? = some (RO h p)):meF "Reader" m cf ma (.ob n) O=(ma O).bind fun ds O2=>cf (.ob n::ds) O2:=by
 unfold meF;dsimp only;rw [e];dsimp only [RO];rw [if_pos];refine ⟨rfl,?_⟩
 have a:(m == ("held":Str))=false:=by simpa using hm
 have b:(m == ("place":Str))=false:=by simpa using hm'
 simp [List.lookup,a,b]
theorem Qmt {m:Str} (hm:m≠"held") (hm':m≠"place") (h:List Nat) (p:Int):(List.lookup m [(("held":Str),D.str h),("place",.int p)]).isNone=true:=by
 have a:(m == ("held":Str))=false:=by simpa using hm
 have b:(m == ("place":Str))=false:=by simpa using hm'
 simp [List.lookup,a,b]
theorem QnG (d:D) (O:Qac):Qat 1 (QgQ "Reader" QbI Qaf) [some d,none,none] O = .nx [some d,some (.ob O.length),none] (O ++ [RO [] 0]):=by
 rw [Qi5,Qvd,QhH];rfl
theorem Qns (t:List Nat) (ht:Okt t) (O:Qac):∃O',QcZ [.str t] O = .ok (.lst (items 0 t)) O':=by
 obtain ⟨H,q⟩:=Qr0 t;have f1:=QtW (QiM O) Held.h0 t ht;have e2:((O ++ [RO [] 0]).set O.length (RO (Qbu [] 0 t).2 (0+t.length)))[O.length]? = some (RO (Qbu [] 0 t).2 (0+t.length)):=gs (QiM O);have f2:=QpJ e2 H;have hl:=ht.len;have l1:=QlE t Held.h0 0;have l2:=H.len
 have z:(Qbu [] 0 t).1.length+(Qcl (0+(t.length:Int) - ((Qbu [] 0 t).2.length:Int)) (Qbu [] 0 t).2).length≤1000000:=by
  rw [Qh6]; omega
 rw [q];have z':=Int.zero_add (t.length:Int);rw [z'] at f1 f2 e2 z;refine ⟨((O ++ [RO [] 0]).set O.length (RO (Qbu [] 0 t).2 t.length)).set O.length (RO [] t.length),?_⟩;show Qbw (Qc6 [some (.str t),none,none] O)=_;unfold Qc6;rw [QaO (Qc8 (QnG _ O)),QaO (QvZ ((QqW (ds:=[.str t]) (n:=O.length) (O1:=O ++ [RO [] 0]) (O2:=O ++ [RO [] 0]) rfl (QiM O) (Qmt (by decide) (by decide) _ _) rfl).trans f1))];refine congrArg Qbw (Qfb (QkF ?_));simp only [QnV,QhO,Qe0,Qoa,List.set_cons_succ,List.set_cons_zero,jh,zV,Qaz,Qub (show ("finish":Str)≠"held" by decide) (by decide) e2,Qhr,f2,Qhe,QsO,if_pos z,QcR,Qsu]
theorem Qnx {d:D}{x:Xc}{O:Qac} (e:Qb5 [d] (O ++ [RO [] 0]) = .ex x (O ++ [RO [] 0])):QcZ [d] O = .ex x (O ++ [RO [] 0]):=by
 show Qbw (Qc6 [some d,none,none] O)=_;unfold Qc6;rw [QaO (Qc8 (QnG _ O)),QfD (QrM ((QqW (ds:=[d]) (n:=O.length) (O1:=O ++ [RO [] 0]) (O2:=O ++ [RO [] 0]) rfl (QiM O) (Qmt (by decide) (by decide) _ _) rfl).trans (QnM e)))];rfl
def asc (l:List Nat):Prop:=∀c∈l,c < 128
theorem Qq2 {i g:List Nat} (hi:asc i) (hg:asc g):okE (.tup [.str i,.str g])=true:=by
 unfold okE;show (true&&okD (.tuple [.str (S i),.str (S g)]))=true;unfold okD
 rw [show (PyData.tuple [.str (S i),.str (S g)]).canLay0=true by
  show ((PyData.str (S i)).canLay0&&((PyData.str (S g)).canLay0&&true))=true;rw [Qgf fun c hc=>Nat.lt_trans (hi c hc) (by decide),Qgf fun c hc=>Nat.lt_trans (hg c hc) (by decide)]
  rfl]
 rfl
theorem Qqz (a b:List Nat):(S a == S b)=decide (a=b):=by
 by_cases h:a=b
 ·subst h;rw [zt rfl];exact beq_self_eq_true _
 ·rw [zg h]
  refine beq_eq_false_iff_ne.mpr fun z=>h ?_
  have:=congrArg (fun x:Str=>x.cps.toList) z
  simpa [Qea] using this
theorem QtA (i g a b:List Nat):Qf9 (.tup [.str i,.str g]) (.tup [.str a,.str b])=(decide (i=a)&&decide (g=b)):=by
 rw [←Qqz,←Qqz];show ((S i == S a)&&((S g == S b)&&true))=_;rw [Bool.and_true]
theorem QuU {i j:List D}:gEq (.tup i) (.tup j)=if (okE (.tup i)&&okE (.tup j))=true then some (.bl (Qf9 (.tup i) (.tup j))) else none:=rfl
theorem Qu4 {i g:List Nat} (hi:asc i) (hg:asc g):gEq (.tup [.str i,.str g]) (.tup [.str [46],.str [46]])=some (.bl (decide (i = [46])&&decide (g = [46]))):=by
 have a46:asc [46]:=by intro c hc; revert c; decide
 rw [QuU,Qq2 hi hg,Qq2 a46 a46,QtA];rfl
def kvf:Nat→List Nat→List (List Nat×List Nat)
 | 0,_=>[]
 | _+1,[]=>[]
 | n+1,c::r=>((one c r).1,(one c r).2.1)::kvf n (r.drop (one c r).2.2)
theorem QjL:∀(n:Nat) (t:List Nat) (p:Int),t.length≤n→∃L:List (Int×List Nat×List Nat),items p t=L.map (fun x=>item x.1 x.2.1 x.2.2)∧L.map (·.2)=kvf n t
 | 0,t,p,h=>by
  cases t with
  | nil=>exact ⟨[],Qci p,rfl⟩
  | cons c t=>simp at h
 | n+1,[],p,h=>⟨[],Qci p,rfl⟩
 | n+1,c::t,p,h=>by
  simp only [zp] at h;obtain ⟨L,e1,e2⟩:=QjL n (t.drop (one c t).2.2) (p+((one c t).2.2+1:Nat)) (by rw [List.length_drop]; omega);refine ⟨(p,(one c t).1,(one c t).2.1)::L,?_,?_⟩
  ·rw [QdP,e1];rfl
  ·show ((one c t).1,(one c t).2.1)::L.map (·.2)=_;rw [e2];rfl
def shI (v i:List Nat):List Nat:=if v = [32] then [46] else i
def shF:List (List Nat×List Nat)→List Nat→List Nat→List D→Option (List D)
 | [],i,g,acc=>if i = [46]∧g = [46] then some acc else none
 | (k,v)::r,i,g,acc=>if k=Qcw∨k=Qb4 then none else if k=QaU then shF r i g (acc ++ [.tup [.str v,.str (shI v i),.str g]]) else if k=Qdh then shF r v g acc else if k=Qb0 then shF r i v acc else shF r [46] [46] acc
def Qd4:Option (List D)→D
 | some l=>.lst l
 | none=>.non
theorem QvC (v i:List Nat) (O:Qac):Qcn [.str v,.str i] O = .ok (.str (shI v i)) O:=by
 unfold shI
 by_cases h:v = [32]
 ·simp [Qcn,Qei,h]
 ·simp [Qcn,Qei,h]
def pbh (i g k v:List Nat):List Nat×List Nat:=if k=Qdh then (v,g) else if k=Qb0 then (i,v) else if k=QaU then (i,g) else ([46],[46])
theorem Qta (i g k v:List Nat) (O:Qac):QbN [.tup [.str i,.str g],.str k,.str v] O = .ok (.tup [.str (pbh i g k v).1,.str (pbh i g k v).2]) O:=by
 unfold pbh
 by_cases h1:k=Qdh
 ·simp [QbN,Qcg,h1,Qdh]
 ·have h1':¬k = [105,110,107]:=h1
  by_cases h2:k=Qb0
  ·subst h2;simp [QbN,Qcg,Qdh,Qb0]
  ·have h2':¬k = [103,114,111,117,110,100]:=h2
   by_cases h3:k=QaU
   ·subst h3;simp [QbN,Qcg,Qdh,Qb0,QaU]
   ·have h3':¬k = [115,105,103,110]:=h3;simp [QbN,Qcg,h1,h2,h3,h1',h2',h3']
def bU:MS:=(Qai (msN (Qat 4 (Qad gIx (Qaa 3) (mC (.int 1)))))
  (Qai (msN (QaL (QbD (Qam (Qad gEq (Qaa 4) (mC (.str [101,110,100])))) (Qam (Qad gEq (Qaa 4) (mC (.str [97,110,101,119]))))) (Qaw (mC .non)) Qav))
  (Qai (msN (QaL (Qam (Qad gEq (Qaa 4) (mC (.str [115,105,103,110])))) (QbC 2 (Qbt (Qab (Qad gIx (Qaa 3) (mC (.int 2))) (Qab (QaB Qcn (Qab (Qad gIx (Qaa 3) (mC (.int 2))) (Qab (Qad gIx (Qaa 1) (mC (.int 0))) Qaf))) (Qab (Qad gIx (Qaa 1) (mC (.int 1))) Qaf))))) Qav))
  (Qai (msN (Qat 1 (QaB QbN (Qab (Qaa 1) (Qab (Qaa 4) (Qab (Qad gIx (Qaa 3) (mC (.int 2))) Qaf))))))
  Qav))))
def QgN (k v i g:List Nat) (acc:List D):List D:=if k=QaU then acc ++ [.tup [.str v,.str (shI v i),.str g]] else acc
theorem QsX {p:Int}{k v:List Nat} (hk:k=Qcw∨k=Qb4) (d0 d1 d2:D) (o4:Option D) (O:Qac):bU [some d0,some d1,some d2,some (item p k v),o4] O = .rt .non O:=by
 unfold bU;rw [QaO (Qc8 (show Qat 4 (Qad gIx (Qaa 3) (mC (.int 1))) [some d0,some d1,some d2,some (item p k v),o4] O = .nx [some d0,some d1,some d2,some (item p k v),some (.str k)] O from rfl))];refine Qfb (QkF ?_)
 rcases hk with rfl | rfl
 ·rfl
 ·rfl
theorem QuJ {p:Int}{k v:List Nat} (hk:¬(k=Qcw∨k=Qb4)) (i g:List Nat) (acc:List D) (ha:acc.length < 1000000) (d0:D) (o4:Option D) (O:Qac):bU [some d0,some (.tup [.str i,.str g]),some (.lst acc),some (item p k v),o4] O =
  .nx [some d0,some (.tup [.str (pbh i g k v).1,.str (pbh i g k v).2]),some (.lst (QgN k v i g acc)),some (item p k v),some (.str k)] O:=by
 have n1:¬k = [101,110,100]:=fun z=>hk (.inl z)
 have n2:¬k = [97,110,101,119]:=fun z=>hk (.inr z)
 unfold bU;rw [QaO (Qc8 (show Qat 4 (Qad gIx (Qaa 3) (mC (.int 1))) [some d0,some (.tup [.str i,.str g]),some (.lst acc),some (item p k v),o4] O = .nx [some d0,some (.tup [.str i,.str g]),some (.lst acc),some (item p k v),some (.str k)] O from rfl))];rw [QaO (Qc8 (show QaL (QbD (Qam (Qad gEq (Qaa 4) (mC (.str [101,110,100])))) (Qam (Qad gEq (Qaa 4) (mC (.str [97,110,101,119]))))) (Qaw (mC .non)) Qav [some d0,some (.tup [.str i,.str g]),some (.lst acc),some (item p k v),some (.str k)] O = .nx [some d0,some (.tup [.str i,.str g]),some (.lst acc),some (item p k v),some (.str k)] O by simp [n1,n2]))]
 have e3:QaL (Qam (Qad gEq (Qaa 4) (mC (.str [115,105,103,110])))) (QbC 2 (Qbt (Qab (Qad gIx (Qaa 3) (mC (.int 2))) (Qab (QaB Qcn (Qab (Qad gIx (Qaa 3) (mC (.int 2))) (Qab (Qad gIx (Qaa 1) (mC (.int 0))) Qaf))) (Qab (Qad gIx (Qaa 1) (mC (.int 1))) Qaf))))) Qav [some d0,some (.tup [.str i,.str g]),some (.lst acc),some (item p k v),some (.str k)] O = .nx [some d0,some (.tup [.str i,.str g]),some (.lst (QgN k v i g acc)),some (item p k v),some (.str k)] O:=by
  unfold QgN
  by_cases h:k=QaU
  ·subst h;simp only [Qi9,Qk9,QhO,Qe0,m_c,jh,zV,Qaz,QdF,QuW,QcR,QkW,QaU,decide_true,Qg8,if_true,Qn5,Qrc,Qgs,Qhr,item,QhC,QeB,Qq9,Qvr,Qvy,QiE,QvC,zp,zR,Nat.reduceAdd,Nat.reduceLeDiff];rw [QoI (ds:=acc) rfl ha];rfl
  ·have h':¬k = [115,105,103,110]:=h;simp [h,h']
 rw [QaO (Qc8 e3)];refine QaO (Qc8 ?_);rw [Qi5];simp only [QiE,Qgs,Qhr,Qe0,QhO,m_c,jh,zV,Qaz,item,QhC,QeB,Qq9,QcR,Qta,QhH,List.set_cons_succ,List.set_cons_zero]
theorem Qjm {k v:List Nat} (hk:¬(k=Qcw∨k=Qb4)) (r:List (List Nat×List Nat)) (i g:List Nat) (acc:List D):shF ((k,v)::r) i g acc=shF r (pbh i g k v).1 (pbh i g k v).2 (QgN k v i g acc):=by
 show (if k=Qcw∨k=Qb4 then none else if k=QaU then shF r i g (acc ++ [.tup [.str v,.str (shI v i),.str g]]) else if k=Qdh then shF r v g acc else if k=Qb0 then shF r i v acc else shF r [46] [46] acc)=_;rw [if_neg hk];unfold pbh QgN
 by_cases h1:k=QaU
 ·subst h1;rfl
 ·rw [if_neg h1,if_neg h1]
  by_cases h2:k=Qdh
  ·rw [if_pos h2,if_pos h2,if_neg h1]
  ·rw [if_neg h2,if_neg h2]
   by_cases h3:k=Qb0
   ·rw [if_pos h3,if_pos h3,if_neg h1]
   ·rw [if_neg h3,if_neg h3,if_neg h1]
theorem Qmd {i g k v:List Nat} (hi:asc i) (hg:asc g) (hv:asc v):asc (pbh i g k v).1∧asc (pbh i g k v).2:=by
 have a46:asc [46]:=by intro c hc; revert c; decide
 unfold pbh
 split
 ·exact ⟨hv,hg⟩
 ·split
  ·exact ⟨hi,hv⟩
  ·split
   ·exact ⟨hi,hg⟩
   ·exact ⟨a46,a46⟩
theorem Qio (k v i g:List Nat) (acc:List D):(QgN k v i g acc).length≤acc.length+1:=by
 unfold QgN
 split
 ·rw [zr]; exact zc _
 ·exact Nat.le_succ _
theorem Qmq (d0:D) (O:Qac):∀(L:List (Int×List Nat×List Nat)) (i g:List Nat) (acc:List D) (o3 o4:Option D),(∀x∈L,asc x.2.2)→asc i→asc g→acc.length+L.length≤100000 →
  (QaS (mgN 3) bU (L.map fun x=>item x.1 x.2.1 x.2.2) [some d0,some (.tup [.str i,.str g]),some (.lst acc),o3,o4] O = .rt .non O∧shF (L.map (·.2)) i g acc=none) ∨
  ∃i' g' acc' o3' o4',QaS (mgN 3) bU (L.map fun x=>item x.1 x.2.1 x.2.2) [some d0,some (.tup [.str i,.str g]),some (.lst acc),o3,o4] O = .nx [some d0,some (.tup [.str i',.str g']),some (.lst acc'),o3',o4'] O∧asc i'∧asc g'∧shF (L.map (·.2)) i g acc=shF [] i' g' acc'
 | [],i,g,acc,o3,o4,_,hi,hg,_=>.inr ⟨i,g,acc,o3,o4,rfl,hi,hg,rfl⟩
 | (p,k,v)::L,i,g,acc,o3,o4,hL,hi,hg,hl=>by
  rw [zp] at hl
  have st:∀r,bU [some d0,some (.tup [.str i,.str g]),some (.lst acc),some (item p k v),o4] O=r→QaS (mgN 3) bU (((p,k,v)::L).map fun x=>item x.1 x.2.1 x.2.2) [some d0,some (.tup [.str i,.str g]),some (.lst acc),o3,o4] O=(match r with
    | .nx ρ2 O2=>QaS (mgN 3) bU (L.map fun x=>item x.1 x.2.1 x.2.2) ρ2 O2
    | .ct ρ2 O2=>QaS (mgN 3) bU (L.map fun x=>item x.1 x.2.1 x.2.2) ρ2 O2
    | .bk ρ2 O2=>.nx ρ2 O2
    | r=>r):=fun r e=>by
   subst e;rfl
  by_cases hk:k=Qcw∨k=Qb4
  ·refine .inl ⟨st _ (QsX hk _ _ _ _ O),?_⟩;show (if k=Qcw∨k=Qb4 then none else _)=_;rw [if_pos hk]
  ·have hv:=hL (p,k,v) zx;obtain ⟨a1,a2⟩:=Qmd (k:=k) hi hg hv;have ll:=Qio k v i g acc;have e:=st _ (QuJ hk i g acc (by omega) d0 o4 O);have e2:=Qjm hk (L.map (·.2)) (v:=v) i g acc;rw [e,ze,e2];exact Qmq d0 O L _ _ _ (some (item p k v)) (some (.str k)) (fun x hx=>hL x (zw _ hx)) a1 a2 (by omega)
theorem Qrv {c:Nat}{r:List Nat} (h:∀x∈c::r,x < 128):asc (one c r).2.1:=by
 have hc:=h c zx
 have a91:asc ([91]:List Nat):=by intro c hc; revert c; decide
 have a0:asc ([]:List Nat):=fun _ z=>nomatch z
 have a1:∀x,x < 128→asc [x]:=fun x hx c hc=>by rw [zz.mp hc]; exact hx
 unfold one
 split
 ·exact a0
 split
 ·exact a0
 split
 ·unfold Qbx
  cases r with
  | nil=>exact a91
  | cons d r =>
   have hd:=h d (by simp);dsimp only
   split
   ·exact a0
   split
   ·exact a91
   split
   ·unfold Qd0
    cases r with
    | nil=>exact a91
    | cons e r =>
     dsimp only
     split
     ·exact a1 _ hd
     ·exact a91
   split
   ·unfold Qdd
    cases r with
    | nil=>exact a91
    | cons e r =>
     have he:=h e (by simp);dsimp only
     split
     ·unfold Qfh
      cases r with
      | nil=>exact a91
      | cons f r =>
       dsimp only
       split
       ·exact a1 _ he
       ·exact a91
     ·exact a91
   ·exact a91
 ·exact a1 _ hc
theorem Qjn:∀(n:Nat) (t:List Nat),(∀x∈t,x < 128)→∀x∈kvf n t,asc x.2
 | 0,t,_=>fun x hx=>nomatch hx
 | n+1,[],_=>fun x hx=>nomatch hx
 | n+1,c::r,h=>fun x hx=>by
  rcases zk.mp (show x∈((one c r).1,(one c r).2.1)::kvf n (r.drop (one c r).2.2) from hx) with rfl | hx
  ·exact Qrv h
  ·exact Qjn n _ (fun y hy=>h y (zw _ (ji hy))) x hx
theorem QmC (t:List Nat) (ht:Okt t) (O:Qac):∃O',QcA [.str t] O = .ok (Qd4 (shF (kvf t.length t) [46] [46] [])) O':=by
 obtain ⟨O',ei⟩:=Qns t ht O;obtain ⟨L,l1,l2⟩:=QjL t.length t 0 (zc _);have hlen:=ht.len
 have ll:L.length≤t.length:=by
  have:=Qkd t.length t 0 (zc _)
  rw [l1,zA] at this;exact this
 have hL:∀x∈L,asc x.2.2:=fun x hx=>Qjn t.length t ht.lt x.2 (by rw [←l2]; exact zX.mpr ⟨x,hx,rfl⟩)
 have a46:asc [46]:=by intro c hc; revert c; decide
 refine ⟨O',?_⟩;rw [←l2];show Qbw (Qc5 [some (.str t),none,none,none,none] O)=_;unfold Qc5
 rw [QaO (Qc8 (show Qat 1 (mC (.tup [.str [46],.str [46]])) [some (.str t),none,none,none,none] O = .nx [some (.str t),some (.tup [.str [46],.str [46]]),none,none,none] O from rfl)),
  QaO (Qc8 (show Qat 2 (QbF Qaf) [some (.str t),some (.tup [.str [46],.str [46]]),none,none,none] O = .nx [some (.str t),some (.tup [.str [46],.str [46]]),some (.lst []),none,none] O from rfl))]
 have ef:∀r,QaS (mgN 3) bU (L.map fun x=>item x.1 x.2.1 x.2.2) [some (.str t),some (.tup [.str [46],.str [46]]),some (.lst []),none,none] O'=r→QbP (Qc1 (Qcs QcZ (Qab (Qaa 0) Qaf))) (mgN 3) bU [some (.str t),some (.tup [.str [46],.str [46]]),some (.lst []),none,none] O=r:=fun r e =>
  (QkB (Qvv ((QiY (show Qab (Qaa 0) Qaf [some (.str t),some (.tup [.str [46],.str [46]]),some (.lst []),none,none] O = .ok [.str t] O from rfl)).trans ei))).trans (by rw [l1]; exact e)
 show Qbw (Qai (QbP (Qc1 (Qcs QcZ (Qab (Qaa 0) Qaf))) (mgN 3) bU) (Qai (msN (Qjf (Qaw (mIf (Qam (Qad gEq (Qaa 1) (mC (.tup [.str [46],.str [46]])))) (Qaa 2) (mC .non))))) Qav) [some (.str t),some (.tup [.str [46],.str [46]]),some (.lst []),none,none] O)=_
 rcases Qmq (.str t) O' L [46] [46] [] none none hL a46 a46 (by rw [zR]; omega) with ⟨e1,e2⟩ | ⟨i',g',acc',o3,o4,e1,a1,a2,e2⟩
 ·rw [Qfb (ef _ e1),e2];rfl
 ·rw [QaO (ef _ e1),e2];refine congrArg Qbw (a₂:=.rt (Qd4 (shF [] i' g' acc')) O') (Qfb (QkF ?_))
  have tst:Qam (Qad gEq (Qaa 1) (mC (.tup [.str [46],.str [46]]))) [some (.str t),some (.tup [.str i',.str g']),some (.lst acc'),o3,o4] O' = .ok (decide (i' = [46])&&decide (g' = [46])) O':=by
   simp only [Qk9,QhO,Qe0,m_c,jh,zV,Qaz,QhC,Qu4 a1 a2,QcR,QkW]
  show fzF (Qh5 (mIf _ _ _ _ _))=_;have hif:shF [] i' g' acc'=if i' = [46]∧g' = [46] then some acc' else none:=rfl;rw [hif]
  by_cases hi:i' = [46]∧g' = [46]
  ·rw [if_pos hi];rw [hi.1,hi.2] at tst ⊢
   rw [show (mIf (Qam (Qad gEq (Qaa 1) (mC (.tup [.str [46],.str [46]])))) (Qaa 2) (mC .non)) [some (.str t),some (.tup [.str [46],.str [46]]),some (.lst acc'),o3,o4] O' = .ok (.lst acc') O' by
    rw [Qud,tst]
    rfl]
   rfl
  ·rw [if_neg hi]
   have hb:(decide (i' = [46])&&decide (g' = [46]))=false:=by
    rw [←Bool.decide_and];exact zg hi
   rw [show (mIf (Qam (Qad gEq (Qaa 1) (mC (.tup [.str [46],.str [46]])))) (Qaa 2) (mC .non)) [some (.str t),some (.tup [.str i',.str g']),some (.lst acc'),o3,o4] O' = .ok .non O' by
    rw [Qud,tst,hb]
    rfl]
   rfl
theorem Qkk {d:D}{x:Xc}{O:Qac} (e:Qb5 [d] (O ++ [RO [] 0]) = .ex x (O ++ [RO [] 0])):QcA [d] O = .ex x (O ++ [RO [] 0]):=by
 show Qbw (Qc5 [some d,none,none,none,none] O)=_;unfold Qc5
 rw [QaO (Qc8 (show Qat 1 (mC (.tup [.str [46],.str [46]])) [some d,none,none,none,none] O = .nx [some d,some (.tup [.str [46],.str [46]]),none,none,none] O from rfl)),
  QaO (Qc8 (show Qat 2 (QbF Qaf) [some d,some (.tup [.str [46],.str [46]]),none,none,none] O = .nx [some d,some (.tup [.str [46],.str [46]]),some (.lst []),none,none] O from rfl)),
  QfD (Qsg (QpH ((QiY (show Qab (Qaa 0) Qaf [some d,some (.tup [.str [46],.str [46]]),some (.lst []),none,none] O = .ok [d] O from rfl)).trans (Qnx e))))]
 rfl
theorem Qse (p:Int) (O:Qac):Qen [.int p] O = .ok (.bl true) O:=by
 simp [Qen,QfM]
theorem Qkj {d:D}{p:Int}{O:Qac} (e:Qb5 [d] (O ++ [RO [] 0]) = .ex ⟨"NoSign",[("at",.int p)]⟩ (O ++ [RO [] 0])):∃O',Qdr [d,.int p] O = .ok (.bl true) O':=by
 have eu:=Qkk e;refine ⟨(O ++ [RO [] 0]) ++ [.xc "NoSign" [("at",.int p)]],?_⟩;show Qbw (Qds [some d,some (.int p),none] O)=_;unfold Qds;rw [Qfb ((QrW ((QiY (show Qab (Qaa 0) Qaf [some d,some (.int p),none] O = .ok [d] O from rfl)).trans eu)).trans (Qql (show List.contains [("NoSign":Str)] "NoSign" = true by decide) ?_))]
 ·rfl
 ·have hx:((O ++ [RO [] 0]) ++ [Ob.xc "NoSign" [("at",.int p)]])[(O ++ [RO [] 0]).length]? = some (.xc "NoSign" [("at",.int p)]):=by
   rw [zD (zc _),Nat.sub_self];rfl
  generalize (O ++ [RO [] 0]).length=n at hx ⊢
  generalize (O ++ [RO [] 0]) ++ [Ob.xc "NoSign" [("at",.int p)]]=O2 at hx ⊢
  have hv:Qaa 2 ([some d,some (.int p),none].set 2 (some (.ob n))) O2 = .ok (.ob n) O2:=rfl;have f1:=Quy (tb:=[("NoSign",false)]) (bb:=false) hv hx rfl;have f2:=Quy (tb:=[("NoSign",true)]) (bb:=true) hv hx rfl;have f3:=QvT (f:="at") (L:=["NoSign"]) (d:=.int p) hv hx (by decide) rfl;simp only [QiB,Qi9,Qkr,f1,Qaz,Qqr,Qsd,Qqg,Qg8,Bool.false_eq_true,if_false,Qts,Qms,QfI,Qhu,f2,Bool.not_true,QnV,Qtx,QiE,Qgs,Qhr,f3,Qse,Qu9,if_true,QhO,QeB];simp [QmS]
theorem Qbr {g:D→D→Option D}{a b:L2.M D}{ρ:Qak}{O:Qac}{x y z:D} (ha:a ρ O = .ok x O) (hb:b ρ O = .ok y O) (h:g (QaX O x) (QaX O y)=some z):Qad g a b ρ O = .ok z O:=by
 rw [QhO,ha,Qaz,hb,Qaz,h,QcR]
theorem ma1 {a:L2.M D}{ρ:Qak}{O:Qac}{x:D} (h:a ρ O = .ok x O):Qab a Qaf ρ O = .ok [x] O:=by
 rw [Qgs,h,Qaz,Qhr,Qaz]
theorem maS {a:L2.M D}{r:L2.M (List D)}{ρ:Qak}{O:Qac}{x:D}{xs:List D} (h:a ρ O = .ok x O) (h2:r ρ O = .ok xs O):Qab a r ρ O = .ok (x::xs) O:=by
 rw [Qgs,h,Qaz,h2,Qaz]
theorem QtB {m:L2.M (List D)}{ρ:Qak}{O:Qac}{xs:List D} (h:m ρ O = .ok xs O) (hl:xs.length≤1000000):Qbt m ρ O = .ok (.tup xs) O:=by
 rw [Qrc,h,Qaz,if_pos hl]
theorem Qwe {m:L2.M (List D)}{ρ:Qak}{O:Qac}{xs:List D} (h:m ρ O = .ok xs O) (hl:xs.length≤1000000):QbF m ρ O = .ok (.lst xs) O:=by
 rw [Qu6,h,Qaz,if_pos hl]
theorem Qh7 {g:List D→Option D}{m:L2.M (List D)}{ρ:Qak}{O:Qac}{xs:List D}{z:D} (h:m ρ O = .ok xs O) (hg:g (xs.map (QaX O))=some z):QaV g m ρ O = .ok z O:=by
 rw [QrF,h,Qaz,hg,QcR]
theorem QnA {i:Nat}{m:L2.M D}{ρ:Qak}{O:Qac}{d:D}{ds:List D} (hm:m ρ O = .ok d O) (h:ρ[i]? = some (some (.lst ds))) (hl:ds.length < 1000000):QbC i m ρ O = .nx (ρ.set i (some (.lst (ds ++ [d])))) O:=by
 rw [Qn5,hm,QoI h hl]
theorem QcV {i:Nat}{m:L2.M D}{ρ:Qak}{O:Qac}{d:D} (h:m ρ O = .ok d O):Qat i m ρ O = .nx (ρ.set i (some d)) O:=by
 rw [Qi5,h,QhH]
theorem QbL {c:List D→Qac→Res D}{ma:L2.M (List D)}{ρ:Qak}{O:Qac}{ds:List D} (h:ma ρ O = .ok ds O):QaB c ma ρ O=c ds O:=by
 rw [QiE,h,Qaz]
theorem Qff {m:L2.M D}{ρ:Qak}{O:Qac}{b:Bool} (h:m ρ O = .ok (.bl b) O):Qam m ρ O = .ok b O:=by
 rw [Qk9,h,Qaz,QkW]
theorem Qez {t:L2.M Bool}{a b:MS}{ρ:Qak}{O:Qac} (h:t ρ O = .ok true O):QaL t a b ρ O=a ρ O:=by
 rw [Qi9,h,Qg8,if_pos rfl]
theorem if_no {t:L2.M Bool}{a b:MS}{ρ:Qak}{O:Qac} (h:t ρ O = .ok false O):QaL t a b ρ O=b ρ O:=by
 rw [Qi9,h,Qg8,if_neg zf]
theorem Qog {m:L2.M D}{ρ:Qak}{O:Qac}{l:List D} (h:m ρ O = .ok (.lst l) O):QaV Qbq (Qab m Qaf) ρ O = .ok (.int (l.length:Int)) O:=Qh7 (ma1 h) rfl
theorem Qgh {a b:L2.M D}{ρ:Qak}{O:Qac}{i j:Int} (ha:a ρ O = .ok (.int i) O) (hb:b ρ O = .ok (.int j) O) (hj:0 < j):Qad QbE a b ρ O = .ok (.int (i % j)) O:=Qbr ha hb (by rw [QeB,QeB,QtU,if_pos hj])
theorem Qkx {a b:L2.M D}{ρ:Qak}{O:Qac}{i j:Int} (ha:a ρ O = .ok (.int i) O) (hb:b ρ O = .ok (.int j) O):Qad Qas a b ρ O = .ok (.int (i+j)) O:=Qbr ha hb rfl
theorem QuO {a b:L2.M D}{ρ:Qak}{O:Qac}{i j:Int} (ha:a ρ O = .ok (.int i) O) (hb:b ρ O = .ok (.int j) O):Qad Qfk a b ρ O = .ok (.int (i - j)) O:=Qbr ha hb rfl
theorem Qo8 {α:Type} (l:List α) (a b:Nat):Qb2 l (some (a:Int)) (some (b:Int))=(l.drop a).take (b - a):=by
 unfold Qb2;rw [HT.sIx_nat,HT.sIx_nat]
 by_cases h:a≤l.length
 ·rw [Nat.min_eq_left h]
  by_cases hb:b≤l.length
  ·rw [Nat.min_eq_left hb]
  ·rw [Nat.min_eq_right (by omega),List.take_of_length_le (by rw [List.length_drop]; omega),List.take_of_length_le (by rw [List.length_drop]; omega)]
 ·rw [Nat.min_eq_right (show l.length≤a by omega),List.drop_eq_nil_of_le (show l.length≤l.length by omega),List.drop_eq_nil_of_le (show l.length≤a by omega)];simp
theorem Qly {α:Type} (l:List α) (b:Nat):Qb2 l none (some (b:Int))=l.take b:=by
 unfold Qb2;rw [HT.sIx_nat,HT.sIx_none,List.drop_zero,Nat.sub_zero]
 by_cases hb:b≤l.length
 ·rw [Nat.min_eq_left hb]
 ·rw [Nat.min_eq_right (by omega),List.take_of_length_le (by omega),List.take_of_length_le (by omega)]
theorem QkQ {α:Type} (l:List α) (a:Nat):Qb2 l (some (a:Int)) none=l.drop a:=by
 unfold Qb2;rw [HT.sIx_nat,HT.sIx_none]
 by_cases h:a≤l.length
 ·rw [Nat.min_eq_left h,List.take_of_length_le (by rw [List.length_drop]; omega)]
 ·rw [Nat.min_eq_right (by omega),List.drop_eq_nil_of_le (by omega),List.drop_eq_nil_of_le (by omega)];simp
theorem Quf {c:Nat}:gIn false (.str [c]) (.str [97,98,99,100,101,102,103,104,46])=some (.bl (col c)):=by
 rw [Qra]; simp [col]
theorem one_le (c:Nat) (r:List Nat):(one c r).2.2≤r.length:=by
 unfold one
 split
 ·simp
 split
 ·simp
 split
 ·unfold Qbx
  cases r with
  | nil=>simp
  | cons d r =>
   dsimp only
   split
   ·simp
   split
   ·simp
   split
   ·unfold Qd0
    cases r with
    | nil=>simp
    | cons e r=>dsimp only; split <;> simp
   split
   ·unfold Qdd
    cases r with
    | nil=>simp
    | cons e r =>
     dsimp only
     split
     ·unfold Qfh
      cases r with
      | nil=>simp
      | cons f r=>dsimp only; split <;> simp
     ·simp
   ·simp
 ·simp
theorem ixS {l:List Nat}{v n:Int} (hl:l.length≤1000000) (h:(l.length:Int)=n) (hn:0 < n):∃c,c∈l∧gIx (.str l) (.int (v % n))=some (.str [c]):=by
 obtain ⟨c,h1,h2⟩:=Qn2 (xs:=l) (i:=v % n) (zZ _ (by omega)) (by rw [h]; exact jc _ hn);exact ⟨c,h2,by rw [Qq8,if_pos hl,h1]; rfl⟩
theorem ixL {l:List D}{v n:Int} (h:(l.length:Int)=n) (hn:0 < n):∃c,c∈l∧gIx (.lst l) (.int (v % n))=some c:=by
 obtain ⟨c,h1,h2⟩:=Qn2 (xs:=l) (i:=v % n) (zZ _ (by omega)) (by rw [h]; exact jc _ hn);exact ⟨c,h2,h1⟩
theorem QrI (O:Qac):QaM [.str []] O = .ok (.bl false) O:=rfl
theorem Qr3 (c:Nat) (O:Qac):QaM [.str [c]] O = .ok (.bl (col c)) O:=by
 simp [-Qra,QaM,QdO,Quf]
def knd (c:Nat):List Nat:=if c=10 then Qcw else if c=9 then Qb4 else QaU
def Qku:L2.M D:=(QkE (Qi4 (Qew (mC (.str [10])) (mC (.str [101,110,100])) (Qew (mC (.str [9])) (mC (.str [97,110,101,119])) Qi1))) (Qad gIx (Qaa 0) (Qaa 2)) (mC (.str [115,105,103,110])))
theorem QtE {ρ:Qak}{O:Qac}{c:Nat} (h:Qad gIx (Qaa 0) (Qaa 2) ρ O = .ok (.str [c]) O):Qku ρ O = .ok (.str (knd c)) O:=by
 have e0:Qi4 (Qew (mC (.str [10])) (mC (.str [101,110,100])) (Qew (mC (.str [9])) (mC (.str [97,110,101,119])) Qi1)) ρ O = .ok (.dic [.str [10],.str [9]] [.str [101,110,100],.str [97,110,101,119]]) O:=rfl;unfold Qku QkE;rw [e0,Qaz,h,Qaz,m_c,Qaz];show Res.ok ((QfH [.str [10],.str [9]] [.str [101,110,100],.str [97,110,101,119]] (.inr (S [c]))).getD (.str [115,105,103,110])) O=_;unfold knd
 by_cases h1:c=10
 ·subst h1;rfl
 ·by_cases h2:c=9
  ·subst h2;rfl
  ·rw [if_neg h1,if_neg h2]
   have n1:S [10]≠S [c]:=fun z=>h1 (List.cons.inj (Qnp z)).1.symm
   have n2:S [9]≠S [c]:=fun z=>h2 (List.cons.inj (Qnp z)).1.symm
   have:QfH [.str [10],.str [9]] [.str [101,110,100],.str [97,110,101,119]] (.inr (S [c]))=none:=by
    simp [QfH,n1,n2]
   rw [this];rfl
def rv (c:Nat) (r:List Nat):List Nat:=if c=10∨c=9 then [c] else (one c r).2.1
def rd (c:Nat) (r:List Nat):D:=.tup [.str (one c r).1,.str (rv c r),.int ((one c r).2.2+1:Nat)]
def bR:MS:=(QaL (Qam (Qad gEq (mSl (Qaa 0) (moS (Qaa 2)) (moS (Qad Qas (Qaa 2) (mC (.int 2))))) (mC (.str [91,91])))) (QbC 1 (Qbt (Qab (mC (.str [115,105,103,110])) (Qab (mC (.str [91])) (Qab (mC (.int 2)) Qaf))))) (QaL (Qam (Qad gEq (mSl (Qaa 0) (moS (Qaa 2)) (moS (Qad Qas (Qaa 2) (mC (.int 2))))) (mC (.str [91,93])))) (QbC 1 (Qbt (Qab (mC (.str [112,108,97,105,110])) (Qab (mC (.str [])) (Qab (mC (.int 2)) Qaf))))) (QaL (Qbp (Qam (Qad gEq (Qad gIx (Qaa 0) (Qaa 2)) (mC (.str [91])))) (Qbp (Qa7 (QaB QaM (Qab (mSl (Qaa 0) (moS (Qad Qas (Qaa 2) (mC (.int 1)))) (moS (Qad Qas (Qaa 2) (mC (.int 2))))) Qaf))) (Qam (Qad gEq (mSl (Qaa 0) (moS (Qad Qas (Qaa 2) (mC (.int 2)))) (moS (Qad Qas (Qaa 2) (mC (.int 3))))) (mC (.str [93])))))) (QbC 1 (Qbt (Qab (mC (.str [105,110,107])) (Qab (Qad gIx (Qaa 0) (Qad Qas (Qaa 2) (mC (.int 1)))) (Qab (mC (.int 3)) Qaf))))) (QaL (Qbp (Qam (Qad gEq (mSl (Qaa 0) (moS (Qaa 2)) (moS (Qad Qas (Qaa 2) (mC (.int 2))))) (mC (.str [91,47])))) (Qbp (Qa7 (QaB QaM (Qab (mSl (Qaa 0) (moS (Qad Qas (Qaa 2) (mC (.int 2)))) (moS (Qad Qas (Qaa 2) (mC (.int 3))))) Qaf))) (Qam (Qad gEq (mSl (Qaa 0) (moS (Qad Qas (Qaa 2) (mC (.int 3)))) (moS (Qad Qas (Qaa 2) (mC (.int 4))))) (mC (.str [93])))))) (QbC 1 (Qbt (Qab (mC (.str [103,114,111,117,110,100])) (Qab (Qad gIx (Qaa 0) (Qad Qas (Qaa 2) (mC (.int 2)))) (Qab (mC (.int 4)) Qaf))))) (QbC 1 (Qbt (Qab Qku (Qab (Qad gIx (Qaa 0) (Qaa 2)) (Qab (mC (.int 1)) Qaf)))))))))
theorem Qmh {t:List Nat}{n c:Nat}{r:List Nat} (h:t.drop n=c::r) (j:Nat):t.drop (n+j)=(c::r).drop j:=by rw [←List.drop_drop,h]
theorem Qn6 {t:List Nat} (hz:t.length≤1000000) {n j:Nat}{x:Nat}{s:List Nat} (h:t.drop (n+j)=x::s):gIx (.str t) (.int ((n:Int)+(j:Int)))=some (.str [x]):=by
 rw [Qq8,if_pos hz,show (n:Int)+(j:Int)=((n+j:Nat):Int) by push_cast; rfl,QjY]
 have:t[n+j]? = some x:=by
  have:=congrArg (fun l=>l[0]?) h
  simpa using this
 rw [this];rfl
def rd4 (c:Nat) (r:List Nat):D :=
 if (c::r).take 2 = [91,91] then .tup [.str [115,105,103,110],.str [91],.int 2]
 else if (c::r).take 2 = [91,93] then .tup [.str [112,108,97,105,110],.str [],.int 2]
 else match r with
  | []=>.tup [.str (knd c),.str [c],.int 1]
  | d::s=>if c=91∧col d=true∧s.take 1 = [93] then .tup [.str [105,110,107],.str [d],.int 3]
   else match s with
    | []=>.tup [.str (knd c),.str [c],.int 1]
    | e::u=>if c=91∧d=47∧col e=true∧u.take 1 = [93] then .tup [.str [103,114,111,117,110,100],.str [e],.int 4] else .tup [.str (knd c),.str [c],.int 1]
theorem Qs1 (c:Nat) (r:List Nat):rd4 c r=rd c r:=by
 by_cases h10:c=10
 ·subst h10
  match r with
  | []=>rfl
  | [d]=>simp [rd4,rd,rv,one,knd]
  | d::e::u=>simp [rd4,rd,rv,one,knd]
 by_cases h9:c=9
 ·subst h9
  match r with
  | []=>rfl
  | [d]=>simp [rd4,rd,rv,one,knd]
  | d::e::u=>simp [rd4,rd,rv,one,knd]
 by_cases h91:c=91
 ·subst h91
  match r with
  | []=>simp [rd4,rd,rv,one,Qbx,knd,QaU]
  | [d] =>
   by_cases d1:d=93
   ·simp [rd4,rd,rv,one,Qbx,knd,d1,QdG]
   by_cases d2:d=91
   ·simp [rd4,rd,rv,one,Qbx,knd,d1,d2,QaU]
   by_cases d3:col d=true <;> by_cases d4:d=47 <;> simp [rd4,rd,rv,one,Qbx,Qd0,Qdd,knd,d1,d2,d3,d4,QaU]
  | [d,e] =>
   by_cases d1:d=93
   ·simp [rd4,rd,rv,one,Qbx,knd,d1,QdG]
   by_cases d2:d=91
   ·simp [rd4,rd,rv,one,Qbx,knd,d1,d2,QaU]
   by_cases d3:col d=true
   ·have d5:=(Qgk d3).2.2.1
    by_cases e1:e=93 <;> simp [rd4,rd,rv,one,Qbx,Qd0,knd,d1,d2,d3,d5,e1,QaU,Qdh]
   by_cases d4:d=47
   ·by_cases e2:col e=true <;> simp [rd4,rd,rv,one,Qbx,Qdd,Qfh,knd,d1,d2,d3,d4,e2,QaU,QcT]
   ·simp [rd4,rd,rv,one,Qbx,Qd0,Qdd,knd,d1,d2,d3,d4,QaU]
  | d::e::f::g =>
   by_cases d1:d=93
   ·simp [rd4,rd,rv,one,Qbx,knd,d1,QdG]
   by_cases d2:d=91
   ·simp [rd4,rd,rv,one,Qbx,knd,d1,d2,QaU]
   by_cases d3:col d=true
   ·have d5:=(Qgk d3).2.2.1
    by_cases e1:e=93 <;> simp [rd4,rd,rv,one,Qbx,Qd0,knd,d1,d2,d3,d5,e1,QaU,Qdh]
   by_cases d4:d=47
   ·by_cases e2:col e=true
    ·by_cases f1:f=93 <;> simp [rd4,rd,rv,one,Qbx,Qdd,Qfh,knd,d1,d2,d3,d4,e2,f1,QaU,Qb0,QcT]
    ·simp [rd4,rd,rv,one,Qbx,Qdd,Qfh,knd,d1,d2,d3,d4,e2,QaU,QcT]
   ·simp [rd4,rd,rv,one,Qbx,Qd0,Qdd,knd,d1,d2,d3,d4,QaU]
 ·match r with
  | []=>simp [rd4,rd,rv,one,knd,QaU,h10,h9,h91]
  | [d]=>simp [rd4,rd,rv,one,knd,QaU,h10,h9,h91]
  | d::e::u=>simp [rd4,rd,rv,one,knd,QaU,h10,h9,h91]
theorem QgE {a b:L2.M (Option Int)}{m:L2.M D}{ρ:Qak}{O:Qac}{t:List Nat}{x y:Option Int} (hm:m ρ O = .ok (.str t) O) (ha:a ρ O = .ok x O) (hb:b ρ O = .ok y O) (hz:t.length≤1000000):mSl m a b ρ O = .ok (.str (Qb2 t x y)) O:=by
 rw [Qs2,hm,Qaz,ha,Qaz,hb,Qaz,QdF,Qrf,if_pos (by omega),QcR]
theorem Qfz {m:L2.M D}{ρ:Qak}{O:Qac}{i:Int} (h:m ρ O = .ok (.int i) O):moS m ρ O = .ok (some i) O:=by rw [Qs5,h,Qaz,QqX]
theorem QiZ {a b:L2.M D}{ρ:Qak}{O:Qac}{i j:List Nat} (ha:a ρ O = .ok (.str i) O) (hb:b ρ O = .ok (.str j) O):Qam (Qad gEq a b) ρ O = .ok (decide (i=j)) O:=Qff (Qbr ha hb rfl)
section
variable {t r:List Nat}{n c:Nat}{pre:List D}{O:Qac}
theorem Qq4 (j:Nat):Qad Qas (Qaa 2) (mC (.int (j:Int))) [some (D.str t),some (D.lst pre),some (D.int (n:Int))] O = .ok (.int (((n+j:Nat)):Int)) O:=by
 rw [Qkx (i:=(n:Int)) (j:=(j:Int)) rfl rfl];congr 2
theorem Qnn (hz:t.length≤1000000) (hd:t.drop n=c::r) (i j:Nat) {a b:L2.M (Option Int)} (ha:a [some (D.str t),some (D.lst pre),some (D.int (n:Int))] O = .ok (some ((n+i:Nat):Int)) O) (hb:b [some (D.str t),some (D.lst pre),some (D.int (n:Int))] O = .ok (some ((n+j:Nat):Int)) O):mSl (Qaa 0) a b [some (D.str t),some (D.lst pre),some (D.int (n:Int))] O = .ok (.str (((c::r).drop i).take (j - i))) O:=by
 rw [QgE (t:=t) rfl ha hb hz,Qo8,Qmh hd,show n+j - (n+i)=j - i by omega]
theorem Qwj:moS (Qaa 2) [some (D.str t),some (D.lst pre),some (D.int (n:Int))] O = .ok (some ((n+0:Nat):Int)) O:=Qfz rfl
theorem Qja (j:Nat):moS (Qad Qas (Qaa 2) (mC (.int (j:Int)))) [some (D.str t),some (D.lst pre),some (D.int (n:Int))] O = .ok (some ((n+j:Nat):Int)) O:=Qfz (Qq4 j)
theorem Qp6 (hz:t.length≤1000000) (hd:t.drop n=c::r):Qad gIx (Qaa 0) (Qaa 2) [some (D.str t),some (D.lst pre),some (D.int (n:Int))] O = .ok (.str [c]) O:=Qbr (x:=.str t) (y:=.int (n:Int)) rfl rfl (by
 have:=Qn6 (n:=n) (j:=0) hz (x:=c) (s:=r) hd
 rw [show ((n:Int)+((0:Nat):Int))=(n:Int) by simp] at this
 exact this)
theorem QqC (hz:t.length≤1000000) (hd:t.drop n=c::r) (j:Nat) {x:Nat}{s:List Nat} (hj:(c::r).drop j=x::s):Qad gIx (Qaa 0) (Qad Qas (Qaa 2) (mC (.int (j:Int)))) [some (D.str t),some (D.lst pre),some (D.int (n:Int))] O = .ok (.str [x]) O:=Qbr (x:=.str t) (y:=.int ((n+j:Nat):Int)) rfl (Qq4 j) (by
 have:=Qn6 (n:=n) (j:=j) hz (x:=x) (s:=s) (by rw [Qmh hd]; exact hj)
 rw [show ((n:Int)+(j:Int))=((n+j:Nat):Int) by push_cast; rfl] at this
 exact this)
theorem QiN {a b z:L2.M D}{x y w:D} (ha:a [some (D.str t),some (D.lst pre),some (D.int (n:Int))] O = .ok x O) (hb:b [some (D.str t),some (D.lst pre),some (D.int (n:Int))] O = .ok y O) (hc:z [some (D.str t),some (D.lst pre),some (D.int (n:Int))] O = .ok w O) (hp:pre.length < 1000000):QbC 1 (Qbt (Qab a (Qab b (Qab z Qaf)))) [some (D.str t),some (D.lst pre),some (D.int (n:Int))] O = .nx [some (D.str t),some (D.lst (pre ++ [.tup [x,y,w]])),some (D.int (n:Int))] O :=
 QnA (QtB (maS ha (maS hb (ma1 hc))) (show (3:Nat)≤1000000 by decide)) rfl hp
theorem QoJ (hz:t.length≤1000000) (hp:pre.length < 1000000) (hd:t.drop n=c::r):bR [some (D.str t),some (D.lst pre),some (D.int (n:Int))] O = .nx [some (D.str t),some (D.lst (pre ++ [rd4 c r])),some (D.int (n:Int))] O:=by
 have e2:∀q,Qam (Qad gEq (mSl (Qaa 0) (moS (Qaa 2)) (moS (Qad Qas (Qaa 2) (mC (.int 2))))) (mC (.str q))) [some (D.str t),some (D.lst pre),some (D.int (n:Int))] O = .ok (decide ((c::r).take 2=q)) O:=fun q=>QiZ (Qnn hz hd 0 2 Qwj (Qja 2)) rfl
 have e0:Qam (Qad gEq (Qad gIx (Qaa 0) (Qaa 2)) (mC (.str [91]))) [some (D.str t),some (D.lst pre),some (D.int (n:Int))] O = .ok (decide ([c] = [91])) O:=QiZ (Qp6 hz hd) rfl
 have ecol:∀i:Nat,∀l,((c::r).drop i).take 1=l→Qa7 (QaB QaM (Qab (mSl (Qaa 0) (moS (Qad Qas (Qaa 2) (mC (.int (i:Int))))) (moS (Qad Qas (Qaa 2) (mC (.int ((i+1:Nat):Int)))))) Qaf)) [some (D.str t),some (D.lst pre),some (D.int (n:Int))] O = .ok (match l with | [x]=>col x | _=>false) O:=fun i l hl=>by
  have q:=Qnn (O:=O) (pre:=pre) hz hd i (i+1) (Qja i) (Qja (i+1));rw [show i+1 - i=1 by omega,hl] at q;rw [Qkr,QbL (ma1 q)]
  match l,hl with
  | [],_=>rw [QrI]; rfl
  | [x],_=>rw [Qr3]; rfl
  | x::y::l,hl =>
   have:=congrArg List.length hl
   rw [List.length_take] at this;simp only [zp] at this;omega
 have e1:∀i:Nat,Qam (Qad gEq (mSl (Qaa 0) (moS (Qad Qas (Qaa 2) (mC (.int (i:Int))))) (moS (Qad Qas (Qaa 2) (mC (.int ((i+1:Nat):Int)))))) (mC (.str [93]))) [some (D.str t),some (D.lst pre),some (D.int (n:Int))] O = .ok (decide (((c::r).drop i).take 1 = [93])) O:=fun i=>by
  have q:=Qnn (O:=O) (pre:=pre) hz hd i (i+1) (Qja i) (Qja (i+1));rw [show i+1 - i=1 by omega] at q;exact QiZ q rfl
 have last:QbC 1 (Qbt (Qab Qku (Qab (Qad gIx (Qaa 0) (Qaa 2)) (Qab (mC (.int 1)) Qaf)))) [some (D.str t),some (D.lst pre),some (D.int (n:Int))] O = .nx [some (D.str t),some (D.lst (pre ++ [.tup [.str (knd c),.str [c],.int 1]])),some (D.int (n:Int))] O:=QiN (QtE (Qp6 hz hd)) (Qp6 hz hd) rfl hp;unfold bR rd4
 by_cases h1:(c::r).take 2 = [91,91]
 ·rw [Qez (by rw [e2,zt h1]),if_pos h1];exact QiN rfl rfl rfl hp
 rw [if_no (by rw [e2,zg h1]),if_neg h1]
 by_cases h2:(c::r).take 2 = [91,93]
 ·rw [Qez (by rw [e2,zt h2]),if_pos h2];exact QiN rfl rfl rfl hp
 rw [if_no (by rw [e2,zg h2]),if_neg h2];have a1:=ecol 1;have a2:=ecol 2;have b2:=e1 2;have b3:=e1 3;have g1:=e2 [91,47]
 match r,hd,h1,h2,a1,a2,b2,b3,last,g1 with
 | [],hd,h1,h2,a1,a2,b2,b3,last,g1 =>
  have t3:Qbp (Qam (Qad gEq (Qad gIx (Qaa 0) (Qaa 2)) (mC (.str [91])))) (Qbp (Qa7 (QaB QaM (Qab (mSl (Qaa 0) (moS (Qad Qas (Qaa 2) (mC (.int 1)))) (moS (Qad Qas (Qaa 2) (mC (.int 2))))) Qaf))) (Qam (Qad gEq (mSl (Qaa 0) (moS (Qad Qas (Qaa 2) (mC (.int 2)))) (moS (Qad Qas (Qaa 2) (mC (.int 3))))) (mC (.str [93]))))) [some (D.str t),some (D.lst pre),some (D.int (n:Int))] O = .ok false O:=by
   have a:=a1 [] rfl;rw [QdQ,e0,Qaz]
   by_cases hc:[c] = [91]
   ·rw [zt hc,if_pos rfl,QdQ];rw [show Qa7 (QaB QaM (Qab (mSl (Qaa 0) (moS (Qad Qas (Qaa 2) (mC (.int 1)))) (moS (Qad Qas (Qaa 2) (mC (.int 2))))) Qaf)) [some (D.str t),some (D.lst pre),some (D.int (n:Int))] O = .ok false O from a,Qaz];rfl
   ·rw [zg hc];rfl
  have t4:Qbp (Qam (Qad gEq (mSl (Qaa 0) (moS (Qaa 2)) (moS (Qad Qas (Qaa 2) (mC (.int 2))))) (mC (.str [91,47])))) (Qbp (Qa7 (QaB QaM (Qab (mSl (Qaa 0) (moS (Qad Qas (Qaa 2) (mC (.int 2)))) (moS (Qad Qas (Qaa 2) (mC (.int 3))))) Qaf))) (Qam (Qad gEq (mSl (Qaa 0) (moS (Qad Qas (Qaa 2) (mC (.int 3)))) (moS (Qad Qas (Qaa 2) (mC (.int 4))))) (mC (.str [93]))))) [some (D.str t),some (D.lst pre),some (D.int (n:Int))] O = .ok false O:=by
   rw [QdQ,g1,Qaz,zg (show ¬List.take 2 [c] = [91,47] from fun z=>by cases z)];rfl
  rw [if_no t3,if_no t4];exact last
 | d::s,hd,h1,h2,a1,a2,b2,b3,last,g1 =>
  have t3:Qbp (Qam (Qad gEq (Qad gIx (Qaa 0) (Qaa 2)) (mC (.str [91])))) (Qbp (Qa7 (QaB QaM (Qab (mSl (Qaa 0) (moS (Qad Qas (Qaa 2) (mC (.int 1)))) (moS (Qad Qas (Qaa 2) (mC (.int 2))))) Qaf))) (Qam (Qad gEq (mSl (Qaa 0) (moS (Qad Qas (Qaa 2) (mC (.int 2)))) (moS (Qad Qas (Qaa 2) (mC (.int 3))))) (mC (.str [93]))))) [some (D.str t),some (D.lst pre),some (D.int (n:Int))] O = .ok (decide (c=91∧col d=true∧s.take 1 = [93])) O:=by
   have a:Qa7 (QaB QaM (Qab (mSl (Qaa 0) (moS (Qad Qas (Qaa 2) (mC (.int 1)))) (moS (Qad Qas (Qaa 2) (mC (.int 2))))) Qaf)) [some (D.str t),some (D.lst pre),some (D.int (n:Int))] O = .ok (col d) O:=a1 [d] rfl;have b:Qam (Qad gEq (mSl (Qaa 0) (moS (Qad Qas (Qaa 2) (mC (.int 2)))) (moS (Qad Qas (Qaa 2) (mC (.int 3))))) (mC (.str [93]))) [some (D.str t),some (D.lst pre),some (D.int (n:Int))] O = .ok (decide (s.take 1 = [93])) O:=b2;rw [QdQ,e0,Qaz]
   by_cases hc:c=91
   ·subst hc;rw [zt rfl,if_pos rfl,QdQ,a,Qaz]
    cases hcd:col d with
    | true =>
     rw [if_pos rfl,b];simp
    | false=>simp
   ·rw [zg (fun z=>hc (List.cons.inj z).1)];simp [hc]
  by_cases h3:c=91∧col d=true∧s.take 1 = [93]
  ·rw [Qez (by rw [t3,zt h3])];dsimp only;rw [if_pos h3];exact QiN rfl (QqC hz hd 1 (x:=d) (s:=s) rfl) rfl hp
  ·rw [if_no (by rw [t3,zg h3])];dsimp only;rw [if_neg h3]
   match s,hd,a2,b3,g1,last with
   | [],hd,a2,b3,g1,last =>
    have t4:Qbp (Qam (Qad gEq (mSl (Qaa 0) (moS (Qaa 2)) (moS (Qad Qas (Qaa 2) (mC (.int 2))))) (mC (.str [91,47])))) (Qbp (Qa7 (QaB QaM (Qab (mSl (Qaa 0) (moS (Qad Qas (Qaa 2) (mC (.int 2)))) (moS (Qad Qas (Qaa 2) (mC (.int 3))))) Qaf))) (Qam (Qad gEq (mSl (Qaa 0) (moS (Qad Qas (Qaa 2) (mC (.int 3)))) (moS (Qad Qas (Qaa 2) (mC (.int 4))))) (mC (.str [93]))))) [some (D.str t),some (D.lst pre),some (D.int (n:Int))] O = .ok false O:=by
     have a:Qa7 (QaB QaM (Qab (mSl (Qaa 0) (moS (Qad Qas (Qaa 2) (mC (.int 2)))) (moS (Qad Qas (Qaa 2) (mC (.int 3))))) Qaf)) [some (D.str t),some (D.lst pre),some (D.int (n:Int))] O = .ok false O:=a2 [] rfl;rw [QdQ,g1,Qaz]
     by_cases hc:List.take 2 [c,d] = [91,47]
     ·rw [zt hc,if_pos rfl,QdQ,a,Qaz];rfl
     ·rw [zg hc];rfl
    rw [if_no t4];exact last
   | e::u,hd,a2,b3,g1,last =>
    have t4:Qbp (Qam (Qad gEq (mSl (Qaa 0) (moS (Qaa 2)) (moS (Qad Qas (Qaa 2) (mC (.int 2))))) (mC (.str [91,47])))) (Qbp (Qa7 (QaB QaM (Qab (mSl (Qaa 0) (moS (Qad Qas (Qaa 2) (mC (.int 2)))) (moS (Qad Qas (Qaa 2) (mC (.int 3))))) Qaf))) (Qam (Qad gEq (mSl (Qaa 0) (moS (Qad Qas (Qaa 2) (mC (.int 3)))) (moS (Qad Qas (Qaa 2) (mC (.int 4))))) (mC (.str [93]))))) [some (D.str t),some (D.lst pre),some (D.int (n:Int))] O = .ok (decide (c=91∧d=47∧col e=true∧u.take 1 = [93])) O:=by
     have a:Qa7 (QaB QaM (Qab (mSl (Qaa 0) (moS (Qad Qas (Qaa 2) (mC (.int 2)))) (moS (Qad Qas (Qaa 2) (mC (.int 3))))) Qaf)) [some (D.str t),some (D.lst pre),some (D.int (n:Int))] O = .ok (col e) O:=a2 [e] rfl;have b:Qam (Qad gEq (mSl (Qaa 0) (moS (Qad Qas (Qaa 2) (mC (.int 3)))) (moS (Qad Qas (Qaa 2) (mC (.int 4))))) (mC (.str [93]))) [some (D.str t),some (D.lst pre),some (D.int (n:Int))] O = .ok (decide (u.take 1 = [93])) O:=b3;rw [QdQ,g1,Qaz]
     by_cases hc:c=91∧d=47
     ·obtain ⟨rfl,rfl⟩:=hc;rw [zt (show List.take 2 (91::47::e::u) = [91,47] from rfl),if_pos rfl,QdQ,a,Qaz]
      cases hcd:col e with
      | true =>
       rw [if_pos rfl,b];simp
      | false=>simp
     ·rw [zg (show ¬List.take 2 (c::d::e::u) = [91,47] from fun z=>hc ⟨(List.cons.inj z).1,(List.cons.inj (List.cons.inj z).2).1⟩)]
      have:¬(c=91∧d=47∧col e=true∧u.take 1 = [93]):=fun z=>hc ⟨z.1,z.2.1⟩
      rw [zg this];rfl
    by_cases h4:c=91∧d=47∧col e=true∧u.take 1 = [93]
    ·rw [Qez (by rw [t4,zt h4])];dsimp only;rw [if_pos h4];exact QiN rfl (QqC hz hd 2 (x:=e) (s:=u) rfl) rfl hp
    ·rw [if_no (by rw [t4,zg h4])];dsimp only;rw [if_neg h4];exact last
end
def lrf:Nat→List Nat→List D
 | 0,_=>[]
 | _+1,[]=>[]
 | n+1,c::r=>rd c r::lrf n (r.drop (one c r).2.2)
theorem QkI:∀(n m:Nat) (t:List Nat),t.length≤n→t.length≤m→lrf n t=lrf m t
 | 0,m,t,h,_=>by
  cases t with
  | nil=>cases m <;> rfl
  | cons c t=>simp at h
 | n+1,0,t,_,h=>by
  cases t with
  | nil=>rfl
  | cons c t=>simp at h
 | n+1,m+1,[],_,_=>rfl
 | n+1,m+1,c::r,h,h'=>by
  simp only [zp] at h h';show rd c r::_=rd c r::_;rw [QkI n m _ (by rw [List.length_drop]; omega) (by rw [List.length_drop]; omega)]
theorem Qsb {pre:List D}{x:D}:gIx (.lst (pre ++ [x])) (.int (-1))=some x:=by
 rw [QqA]
 have q:atI (pre ++ [x]) (-1)=(pre ++ [x])[pre.length]?:=by
  have z:ixN (pre ++ [x]).length (-1)=some pre.length:=by
   unfold ixN;rw [zr,zS,if_neg (by omega),if_pos (by omega)];congr 1;omega
  unfold atI;rw [z];rfl
 rw [q,zD (zc _),Nat.sub_self];rfl
theorem Qno (t:List Nat) (ht:t.length≤290) (O:Qac):QgX [.str t] O = .ok (.lst (lrf t.length t)) O:=by
 obtain ⟨ρ',O',e,rfl,pre,at',rfl,h1,h2,h3,h4⟩:=Qkc (t:=Qam (Qad gLt (Qaa 2) (QaV Qbq (Qab (Qaa 0) Qaf))))
  (b:=Qai bR (Qat 2 (Qad Qas (Qaa 2) (Qad gIx (Qad gIx (Qaa 1) (mUn Qnj (mC (.int 1)))) (mC (.int 2))))))
  (fun k ρ O'=>O'=O∧∃(pre:List D) (at':Nat),ρ = [some (.str t),some (.lst pre),some (.int at')]∧at'≤t.length∧k=t.length - at'∧pre++lrf (t.length - at') (t.drop at')=lrf t.length t∧pre.length≤at')
  300 t.length [some (.str t),some (.lst []),some (.int 0)] O (by omega) ⟨rfl,[],0,rfl,Nat.zero_le _,by omega,by simp,by simp⟩ (by
   rintro k ρ O' ⟨rfl,pre,at',rfl,h1,h2,h3,h4⟩
   have hz:t.length≤1000000:=by omega
   have hlt:at' < t.length:=by omega
   refine ⟨by simp [hz,hlt],?_⟩
   cases hd:t.drop at' with
   | nil =>
    have:=congrArg List.length hd
    simp at this
    omega
   | cons c r =>
    have hl:=congrArg List.length hd;simp at hl;have ho:=one_le c r;have ei:=QoJ (O:=O') (n:=at') hz (show pre.length < 1000000 by omega) hd;rw [Qs1] at ei;refine ⟨t.length - (at'+((one c r).2.2+1)),[some (.str t),some (.lst (pre ++ [rd c r])),some (.int ((at'+((one c r).2.2+1):Nat):Int))],O',by omega,?_,rfl,_,_,rfl,by omega,rfl,?_,?_⟩
    ·rw [QaO ei];refine QcV ?_;refine (Qkx (i:=(at':Int)) (j:=(((one c r).2.2+1:Nat):Int)) rfl ?_).trans ?_
     ·refine Qbr (x:=rd c r) (y:=.int 2) (Qbr (x:=.lst (pre ++ [rd c r])) (y:=.int (-1)) rfl rfl Qsb) rfl ?_;rfl
     ·congr 2
    ·have q:t.drop (at'+((one c r).2.2+1))=r.drop (one c r).2.2:=by
      rw [←List.drop_drop,hd,Nat.add_comm,←List.drop_drop];rfl
     rw [q,←h3,hd,zP];congr 1;obtain ⟨m,hm⟩:∃m,t.length - at'=m+1:=⟨t.length - at' - 1,by omega⟩;rw [hm];show [rd c r]++_=rd c r::lrf m (r.drop (one c r).2.2);rw [QkI (t.length - (at'+((one c r).2.2+1))) m _ (by rw [List.length_drop]; omega) (by rw [List.length_drop]; omega)];rfl
    ·simp
     omega) (by
   rintro ρ O' ⟨rfl,pre,at',rfl,h1,h2,h3,h4⟩
   have hz:t.length≤1000000:=by omega
   have hlt:t.length≤at':=by omega
   simp [hz,hlt])
 have hd:t.drop at' = []:=List.drop_eq_nil_of_le (by omega)
 have hn:lrf (t.length - at') (t.drop at') = []:=by
  rw [hd]
  cases t.length - at' <;> rfl
 rw [hn,zC] at h3;subst h3;show Qbw (Qe2 [some (.str t),none,none] O')=_;unfold Qe2;rw [QaO (show Qat 1 (QbF Qaf) [some (.str t),none,none] O' = .nx [some (.str t),some (.lst []),none] O' from rfl),QaO (show Qat 2 (mC (.int 0)) [some (.str t),some (.lst []),none] O' = .nx [some (.str t),some (.lst []),some (.int 0)] O' from rfl)];show Qbw (Qai (Qgj 300 (Qam (Qad gLt (Qaa 2) (QaV Qbq (Qab (Qaa 0) Qaf)))) (Qai bR (Qat 2 (Qad Qas (Qaa 2) (Qad gIx (Qad gIx (Qaa 1) (mUn Qnj (mC (.int 1)))) (mC (.int 2))))))) (Qaw (Qaa 1)) [some (.str t),some (.lst []),some (.int 0)] O')=_;rw [QaO (show Qgj 300 _ _ [some (.str t),some (.lst []),some (.int 0)] O'=_ from e)]
 rfl
def bS:MS:=(Qai (QaL (QbD (Qam (Qad gEq (Qaa 4) (mC (.str [101,110,100])))) (Qam (Qad gEq (Qaa 4) (mC (.str [97,110,101,119]))))) (Qaw (mG (mC .non))) Qav)
  (Qai (QaL (Qam (Qad gEq (Qaa 4) (mC (.str [115,105,103,110])))) (QbC 1 (Qbt (Qab (Qaa 5) (Qab (Qad gIx (QbF (Qab (Qaa 2) (Qab (mC (.str [46])) Qaf))) (QaV Qhz (Qab (Qad gEq (Qaa 5) (mC (.str [32]))) Qaf))) (Qab (Qaa 3) Qaf))))) Qav)
  (Qai (QaL (Qam (Qad gEq (Qaa 4) (mC (.str [105,110,107])))) (Qat 2 (Qaa 5)) Qav)
  (Qai (QaL (Qam (Qad gEq (Qaa 4) (mC (.str [103,114,111,117,110,100])))) (Qat 3 (Qaa 5)) Qav)
  (QaL (Qam (Qad gEq (Qaa 4) (mC (.str [112,108,97,105,110])))) (Qai (Qat 2 (mC (.str [46])))
  (Qat 3 (mC (.str [46])))) Qav)))))
def gS:MG:=Qfl 3 (Qbe (mgN 4) (Qbe (mgN 5) (Qbe (mgN 6) Qdl)))
theorem Qm3 {k q:List Nat}{o0 o1 o2 o3 o5 o6:Option D}{O:Qac}:Qam (Qad gEq (Qaa 4) (mC (.str q))) [o0,o1,o2,o3,some (.str k),o5,o6] O = .ok (decide (k=q)) O:=QiZ rfl rfl
theorem Qtv {k:List Nat} (hk:k=Qcw∨k=Qb4) (o0 o1 o2 o3 o5 o6:Option D) (O:Qac):bS [o0,o1,o2,o3,some (.str k),o5,o6] O = .rt .non O:=by
 unfold bS
 rcases hk with rfl | rfl
 ·rfl
 ·rfl
def isK (k:List Nat):Prop:=k=Qcw∨k=Qb4∨k=QaU∨k=Qdh∨k=Qb0∨k=QdG
theorem QuX {k:List Nat} (hk:¬(k=Qcw∨k=Qb4)) (hK:isK k) (v i g:List Nat) (acc:List D) (ha:acc.length < 1000000) (o0 o6:Option D) (O:Qac):bS [o0,some (.lst acc),some (.str i),some (.str g),some (.str k),some (.str v),o6] O =
  .nx [o0,some (.lst (QgN k v i g acc)),some (.str (pbh i g k v).1),some (.str (pbh i g k v).2),some (.str k),some (.str v),o6] O:=by
 have app:QbC 1 (Qbt (Qab (Qaa 5) (Qab (Qad gIx (QbF (Qab (Qaa 2) (Qab (mC (.str [46])) Qaf))) (QaV Qhz (Qab (Qad gEq (Qaa 5) (mC (.str [32]))) Qaf))) (Qab (Qaa 3) Qaf)))) [o0,some (.lst acc),some (.str i),some (.str g),some (.str k),some (.str v),o6] O =
   .nx [o0,some (.lst (acc ++ [.tup [.str v,.str (shI v i),.str g]])),some (.str i),some (.str g),some (.str k),some (.str v),o6] O:=by
  refine QnA (d:=.tup [.str v,.str (shI v i),.str g]) (QtB (maS (x:=.str v) rfl (maS (x:=.str (shI v i)) ?_ (ma1 (x:=.str g) rfl))) (show (3:Nat)≤1000000 by decide)) rfl ha;unfold shI
  by_cases h:v = [32]
  ·subst h;rw [if_pos rfl];rfl
  ·rw [if_neg h];refine Qbr (x:=.lst [.str i,.str [46]]) (y:=.int 0) rfl (Qh7 (xs:=[.bl false]) (ma1 (Qbr (x:=.str v) (y:=.str [32]) rfl rfl ?_)) rfl) rfl;show some (D.bl (decide (v = [32])))=_;rw [zg h]
 have n1:¬k = [101,110,100]:=fun z=>hk (.inl z)
 have n2:¬k = [97,110,101,119]:=fun z=>hk (.inr z)
 unfold bS;rw [QaO (show QaL (QbD (Qam (Qad gEq (Qaa 4) (mC (.str [101,110,100])))) (Qam (Qad gEq (Qaa 4) (mC (.str [97,110,101,119]))))) (Qaw (mG (mC .non))) Qav [o0,some (.lst acc),some (.str i),some (.str g),some (.str k),some (.str v),o6] O = .nx [o0,some (.lst acc),some (.str i),some (.str g),some (.str k),some (.str v),o6] O from if_no (by rw [QfI,Qm3,Qaz,zg n1,Qm3,zg n2]; rfl))]
 rcases hK with rfl | rfl | rfl | rfl | rfl | rfl
 ·exact absurd (.inl rfl) hk
 ·exact absurd (.inr rfl) hk
 ·rw [QaO (show QaL (Qam (Qad gEq (Qaa 4) (mC (.str [115,105,103,110])))) (QbC 1 (Qbt (Qab (Qaa 5) (Qab (Qad gIx (QbF (Qab (Qaa 2) (Qab (mC (.str [46])) Qaf))) (QaV Qhz (Qab (Qad gEq (Qaa 5) (mC (.str [32]))) Qaf))) (Qab (Qaa 3) Qaf))))) Qav [o0,some (.lst acc),some (.str i),some (.str g),some (.str QaU),some (.str v),o6] O=_ from (Qez Qm3).trans app)];rfl
 ·rfl
 ·rfl
 ·rfl
theorem Qrr (c:Nat) (r:List Nat):isK (one c r).1:=by
 unfold isK one
 split
 ·exact .inl rfl
 split
 ·exact .inr (.inl rfl)
 split
 ·unfold Qbx
  cases r with
  | nil=>exact .inr (.inr (.inl rfl))
  | cons d r =>
   dsimp only
   split
   ·exact .inr (.inr (.inr (.inr (.inr rfl))))
   split
   ·exact .inr (.inr (.inl rfl))
   split
   ·unfold Qd0
    cases r with
    | nil=>exact .inr (.inr (.inl rfl))
    | cons e r =>
     dsimp only
     split
     ·exact .inr (.inr (.inr (.inl rfl)))
     ·exact .inr (.inr (.inl rfl))
   split
   ·unfold Qdd
    cases r with
    | nil=>exact .inr (.inr (.inl rfl))
    | cons e r =>
     dsimp only
     split
     ·unfold Qfh
      cases r with
      | nil=>exact .inr (.inr (.inl rfl))
      | cons f r =>
       dsimp only
       split
       ·exact .inr (.inr (.inr (.inr (.inl rfl))))
       ·exact .inr (.inr (.inl rfl))
     ·exact .inr (.inr (.inl rfl))
   ·exact .inr (.inr (.inl rfl))
 ·exact .inr (.inr (.inl rfl))
theorem QuQ (c:Nat) (r:List Nat) (h:¬((one c r).1=Qcw∨(one c r).1=Qb4)):rv c r=(one c r).2.1:=by
 unfold rv;rw [if_neg];rintro (rfl | rfl)
 ·exact h (.inl rfl)
 ·exact h (.inr rfl)
theorem Ql5 (o0:Option D) (O:Qac):∀(n:Nat) (t:List Nat) (i g:List Nat) (acc:List D) (o4 o5 o6:Option D),acc.length+n≤100000 →
  (QaS gS bS (lrf n t) [o0,some (.lst acc),some (.str i),some (.str g),o4,o5,o6] O = .rt .non O∧shF (kvf n t) i g acc=none) ∨
  ∃i' g' acc' o4' o5' o6',QaS gS bS (lrf n t) [o0,some (.lst acc),some (.str i),some (.str g),o4,o5,o6] O = .nx [o0,some (.lst acc'),some (.str i'),some (.str g'),o4',o5',o6'] O∧shF (kvf n t) i g acc=shF [] i' g' acc'
 | 0,t,i,g,acc,o4,o5,o6,_=>.inr ⟨i,g,acc,o4,o5,o6,rfl,rfl⟩
 | n+1,[],i,g,acc,o4,o5,o6,_=>.inr ⟨i,g,acc,o4,o5,o6,rfl,rfl⟩
 | n+1,c::r,i,g,acc,o4,o5,o6,hl=>by
  have st:∀f,bS [o0,some (.lst acc),some (.str i),some (.str g),some (.str (one c r).1),some (.str (rv c r)),some (.int ((one c r).2.2+1:Nat))] O=f→QaS gS bS (lrf (n+1) (c::r)) [o0,some (.lst acc),some (.str i),some (.str g),o4,o5,o6] O=(match f with
    | .nx ρ2 O2=>QaS gS bS (lrf n (r.drop (one c r).2.2)) ρ2 O2
    | .ct ρ2 O2=>QaS gS bS (lrf n (r.drop (one c r).2.2)) ρ2 O2
    | .bk ρ2 O2=>.nx ρ2 O2
    | f=>f):=fun f e=>by
   subst e;rfl
  by_cases hk:(one c r).1=Qcw∨(one c r).1=Qb4
  ·refine .inl ⟨st _ (Qtv hk _ _ _ _ _ _ O),?_⟩;show (if (one c r).1=Qcw∨(one c r).1=Qb4 then none else _)=_;rw [if_pos hk]
  ·have ll:=Qio (one c r).1 (rv c r) i g acc;have e:=st _ (QuX hk (Qrr c r) (rv c r) i g acc (by omega) o0 _ O);have e2:=Qjm hk (kvf n (r.drop (one c r).2.2)) (v:=(one c r).2.1) i g acc;rw [e];show _∨∃i' g' acc' o4' o5' o6',_∧shF (((one c r).1,(one c r).2.1)::kvf n (r.drop (one c r).2.2)) i g acc=_;rw [show shF (kvf (n+1) (c::r)) i g acc=shF (((one c r).1,(one c r).2.1)::kvf n (r.drop (one c r).2.2)) i g acc from rfl,e2,←QuQ c r hk];exact Ql5 o0 O n _ _ _ _ _ _ _ (by omega)
theorem QlQ (n:Nat) (t:List Nat) (hn:n≤5000) (O:Qac):Qf0 [.lst (lrf n t)] O = .ok (Qd4 (shF (kvf n t) [46] [46] [])) O:=by
 show Qbw (Qee [some (.lst (lrf n t)),none,none,none,none,none,none] O)=_;unfold Qee
 rw [QaO (show Qat 1 (QbF Qaf) [some (.lst (lrf n t)),none,none,none,none,none,none] O = .nx [some (.lst (lrf n t)),some (.lst []),none,none,none,none,none] O from rfl),
  QaO (show Qat 2 (mC (.str [46])) [some (.lst (lrf n t)),some (.lst []),none,none,none,none,none] O = .nx [some (.lst (lrf n t)),some (.lst []),some (.str [46]),none,none,none,none] O from rfl),
  QaO (show Qat 3 (mC (.str [46])) [some (.lst (lrf n t)),some (.lst []),some (.str [46]),none,none,none,none] O = .nx [some (.lst (lrf n t)),some (.lst []),some (.str [46]),some (.str [46]),none,none,none] O from rfl)]
 have ef:∀f,QaS gS bS (lrf n t) [some (.lst (lrf n t)),some (.lst []),some (.str [46]),some (.str [46]),none,none,none] O=f→QbP (Qco (Qaa 0)) gS bS [some (.lst (lrf n t)),some (.lst []),some (.str [46]),some (.str [46]),none,none,none] O=f:=fun f e=>(QkB (show Qco (Qaa 0) _ O = .ok (lrf n t) O from rfl)).trans e
 show Qbw (Qai (QbP (Qco (Qaa 0)) gS bS) (Qai (QaL (QbD (Qam (Qad gNe (Qaa 2) (mC (.str [46])))) (Qam (Qad gNe (Qaa 3) (mC (.str [46]))))) (Qaw (mG (mC .non))) Qav) (Qaw (Qaa 1))) [some (.lst (lrf n t)),some (.lst []),some (.str [46]),some (.str [46]),none,none,none] O)=_
 rcases Ql5 (some (.lst (lrf n t))) O n t [46] [46] [] none none none (by rw [zR]; omega) with ⟨e1,e2⟩ | ⟨i',g',acc',o4,o5,o6,e1,e2⟩
 ·rw [Qfb (ef _ e1),e2];rfl
 ·rw [QaO (ef _ e1),e2];have t1:Qam (Qad gNe (Qaa 2) (mC (.str [46]))) [some (.lst (lrf n t)),some (.lst acc'),some (.str i'),some (.str g'),o4,o5,o6] O = .ok (!decide (i' = [46])) O:=Qff (Qbr (x:=.str i') (y:=.str [46]) rfl rfl rfl);have t2:Qam (Qad gNe (Qaa 3) (mC (.str [46]))) [some (.lst (lrf n t)),some (.lst acc'),some (.str i'),some (.str g'),o4,o5,o6] O = .ok (!decide (g' = [46])) O:=Qff (Qbr (x:=.str g') (y:=.str [46]) rfl rfl rfl);have hif:shF [] i' g' acc'=if i' = [46]∧g' = [46] then some acc' else none:=rfl;rw [hif]
  by_cases h1:i' = [46]
  ·by_cases h2:g' = [46]
   ·rw [if_pos ⟨h1,h2⟩,QaO (show QaL (QbD (Qam (Qad gNe (Qaa 2) (mC (.str [46])))) (Qam (Qad gNe (Qaa 3) (mC (.str [46]))))) (Qaw (mG (mC .non))) Qav [some (.lst (lrf n t)),some (.lst acc'),some (.str i'),some (.str g'),o4,o5,o6] O = .nx [some (.lst (lrf n t)),some (.lst acc'),some (.str i'),some (.str g'),o4,o5,o6] O from if_no (by rw [QfI,t1,Qaz,zt h1,t2,zt h2]; rfl))];rfl
   ·rw [if_neg (fun z=>h2 z.2),Qfb (show QaL (QbD (Qam (Qad gNe (Qaa 2) (mC (.str [46])))) (Qam (Qad gNe (Qaa 3) (mC (.str [46]))))) (Qaw (mG (mC .non))) Qav [some (.lst (lrf n t)),some (.lst acc'),some (.str i'),some (.str g'),o4,o5,o6] O = .rt .non O from (Qez (by rw [QfI,t1,Qaz,zt h1,t2,zg h2]; rfl)).trans rfl)];rfl
  ·rw [if_neg (fun z=>h1 z.1),Qfb (show QaL (QbD (Qam (Qad gNe (Qaa 2) (mC (.str [46])))) (Qam (Qad gNe (Qaa 3) (mC (.str [46]))))) (Qaw (mG (mC .non))) Qav [some (.lst (lrf n t)),some (.lst acc'),some (.str i'),some (.str g'),o4,o5,o6] O = .rt .non O from (Qez (by rw [QfI,t1,Qaz,zg h1]; rfl)).trans rfl)];rfl
def Qne (d:D):Prop:=∃a b c,d = .tup [.str a,.str b,.str c]∧asc a∧asc b∧asc c
theorem Qsr {v i:List Nat} (hi:asc i):asc (shI v i):=by
 unfold shI
 split
 ·intro c hc; revert c; decide
 ·exact hi
theorem Ql3:∀(L:List (List Nat×List Nat)) (i g:List Nat) (acc l:List D),(∀x∈L,asc x.2)→asc i→asc g→(∀d∈acc,Qne d)→shF L i g acc=some l→(∀d∈l,Qne d)∧l.length≤acc.length+L.length
 | [],i,g,acc,l,_,_,_,ha,e=>by
  have e':(if i = [46]∧g = [46] then some acc else none)=some l:=e;split at e'
  ·cases e';exact ⟨ha,zW _ _⟩
  ·cases e'
 | (k,v)::L,i,g,acc,l,hL,hi,hg,ha,e=>by
  by_cases hk:k=Qcw∨k=Qb4
  ·have e':(if k=Qcw∨k=Qb4 then none else _)=some l:=e;rw [if_pos hk] at e';cases e'
  ·rw [Qjm hk] at e;have hv:=hL (k,v) zx;obtain ⟨a1,a2⟩:=Qmd (k:=k) hi hg hv
   have q:=Ql3 L _ _ _ l (fun x hx=>hL x (zw _ hx)) a1 a2 (fun d hd=>by
    unfold QgN at hd;split at hd
    ·rcases zy.mp hd with hd | hd
     ·exact ha d hd
     ·rw [zz.mp hd];exact ⟨v,shI v i,g,rfl,hv,Qsr hi,hg⟩
    ·exact ha d hd) e
   have ll:=Qio k v i g acc;refine ⟨q.1,?_⟩;rw [zp];omega
theorem Qs0 {a b c:List Nat} (ha:asc a) (hb:asc b) (hc:asc c):okE (.tup [.str a,.str b,.str c])=true:=by
 unfold okE;show (true&&okD (.tuple [.str (S a),.str (S b),.str (S c)]))=true;unfold okD
 rw [show (PyData.tuple [.str (S a),.str (S b),.str (S c)]).canLay0=true by
  show ((PyData.str (S a)).canLay0&&((PyData.str (S b)).canLay0&&((PyData.str (S c)).canLay0&&true)))=true;rw [Qgf fun x hx=>Nat.lt_trans (ha x hx) (by decide),Qgf fun x hx=>Nat.lt_trans (hb x hx) (by decide),Qgf fun x hx=>Nat.lt_trans (hc x hx) (by decide)]
  rfl]
 rfl
theorem QuG {i j:List D}:gNe (.tup i) (.tup j)=if (okE (.tup i)&&okE (.tup j))=true then some (.bl (!Qf9 (.tup i) (.tup j))) else none:=rfl
theorem zip_get {xs:List D}{i:Nat}{d:D} (h:(Qdj xs xs)[i]? = some d):∃x,x∈xs∧d = .tup [x,x]:=by
 induction xs generalizing i with
 | nil=>cases h
 | cons x xs ih =>
  cases i with
  | zero =>
   have h':some (D.tup [x,x])=some d:=h;cases h';exact ⟨x,zx,rfl⟩
  | succ i =>
   obtain ⟨y,hy,e⟩:=ih (i:=i) h;exact ⟨y,zw _ hy,e⟩
theorem Qut (xs:List D) (hx:∀d∈xs,Qne d) (O:Qac):QcN [.lst xs,.lst xs] O = .ok (.bl true) O:=by
 obtain ⟨ρ1,O1,e1,rfl,o2,o3,rfl⟩:=QfC (g:=Qfl 2 (Qbe (mgN 2) (Qbe (mgN 3) Qdl))) (b:=QaL (QbD (QbQ (Qa7 (Qdf "tuple" (Qaa 2)))) (QbD (Qam (Qad gNe (QaV Qbq (Qab (Qaa 2) Qaf)) (mC (.int 3)))) (Qam (Qad gNe (Qaa 2) (Qaa 3))))) (Qaw (mC (.bl false))) Qav)
  (fun i ρ O'=>O'=O∧∃o2 o3,ρ = [some (.lst xs),some (.lst xs),o2,o3]) (Qdj xs xs) 0 [some (.lst xs),some (.lst xs),none,none] O ⟨rfl,none,none,rfl⟩ (by
   rintro i d ρ O' hi ⟨rfl,o2,o3,rfl⟩;obtain ⟨x,hxm,rfl⟩:=zip_get hi;obtain ⟨a,b,c,rfl,ha,hb,hc⟩:=hx x hxm;refine ⟨_,rfl,_,_,.inl ?_,rfl,some (.tup [.str a,.str b,.str c]),some (.tup [.str a,.str b,.str c]),rfl⟩;have ok:=Qs0 ha hb hc
   have ne:gNe (.tup [.str a,.str b,.str c]) (.tup [.str a,.str b,.str c])=some (.bl false):=by
    rw [QuG,ok,Bool.and_self,if_pos rfl,Qpf ok];rfl
   refine (if_no ?_).trans rfl;show QbD (QbQ (Qa7 (Qdf "tuple" (Qaa 2)))) (QbD (Qam (Qad gNe (QaV Qbq (Qab (Qaa 2) Qaf)) (mC (.int 3)))) (Qam (Qad gNe (Qaa 2) (Qaa 3)))) [some (.lst xs),some (.lst xs),some (.tup [.str a,.str b,.str c]),some (.tup [.str a,.str b,.str c])] O' = .ok false O';rw [QfI,show QbQ (Qa7 (Qdf "tuple" (Qaa 2))) [some (.lst xs),some (.lst xs),some (.tup [.str a,.str b,.str c]),some (.tup [.str a,.str b,.str c])] O' = .ok false O' from rfl,Qaz,if_neg zf];rw [QfI,show Qam (Qad gNe (QaV Qbq (Qab (Qaa 2) Qaf)) (mC (.int 3))) [some (.lst xs),some (.lst xs),some (.tup [.str a,.str b,.str c]),some (.tup [.str a,.str b,.str c])] O' = .ok false O' from rfl,Qaz,if_neg zf]
   exact Qff (Qbr (x:=.tup [.str a,.str b,.str c]) (y:=.tup [.str a,.str b,.str c]) rfl rfl ne))
 show Qbw (QcM [some (.lst xs),some (.lst xs),none,none] O1)=_;unfold QcM
 rw [QaO (show QaL (QbD (QbQ (Qa7 (Qdf "list" (Qaa 0)))) (Qam (Qad gNe (QaV Qbq (Qab (Qaa 0) Qaf)) (QaV Qbq (Qab (Qaa 1) Qaf))))) (Qaw (mC (.bl false))) Qav [some (.lst xs),some (.lst xs),none,none] O1 = .nx [some (.lst xs),some (.lst xs),none,none] O1 from if_no (by
  rw [QfI,show QbQ (Qa7 (Qdf "list" (Qaa 0))) [some (.lst xs),some (.lst xs),none,none] O1 = .ok false O1 from rfl,Qaz,if_neg zf];refine Qff (Qbr (Qog (l:=xs) rfl) (Qog (l:=xs) rfl) ?_);show some (D.bl (!decide ((xs.length:Int)=(xs.length:Int))))=_;rw [zt rfl]
  rfl)),QaO ((QkB (show QkR (Qaa 0) (Qaa 1) [some (.lst xs),some (.lst xs),none,none] O1 = .ok (Qdj xs xs) O1 from rfl)).trans e1)]
 rfl
theorem Qix (t:List Nat) (ht:Okt t) (hl:t.length≤290) (O:Qac):∃O',QcC [.str t] O = .ok (.bl true) O':=by
 obtain ⟨O',eu⟩:=QmC t ht O;refine ⟨O',?_⟩;have er:=Qno t hl O;have es:=QlQ t.length t (by omega) O;show Qbw (Qe4 [some (.str t),none,none] O)=_;unfold Qe4;rw [QaO (QcV ((QbL (ma1 ((QbL (show Qab (Qaa 0) Qaf [some (.str t),none,none] O = .ok [.str t] O from rfl)).trans er))).trans es))]
 have eS:Qat 2 (QaB QcA (Qab (Qaa 0) Qaf)) [some (.str t),some (Qd4 (shF (kvf t.length t) [46] [46] [])),none] O = .nx [some (.str t),some (Qd4 (shF (kvf t.length t) [46] [46] [])),some (Qd4 (shF (kvf t.length t) [46] [46] []))] O':=by
  rw [Qi5,QbL (show Qab (Qaa 0) Qaf [some (.str t),some (Qd4 (shF (kvf t.length t) [46] [46] [])),none] O = .ok [.str t] O from rfl),eu,QhH];rfl
 rw [show ([some (D.str t),none,none]:Qak).set 1 (some (Qd4 (shF (kvf t.length t) [46] [46] []))) = [some (.str t),some (Qd4 (shF (kvf t.length t) [46] [46] [])),none] from rfl,QaO eS]
 have a46:asc [46]:=by intro c hc; revert c; decide
 cases q:shF (kvf t.length t) [46] [46] [] with
 | none=>rfl
 | some l =>
  have hx:=(Ql3 (kvf t.length t) [46] [46] [] l (Qjn t.length t ht.lt) a46 a46 (fun d hd=>nomatch hd) q).1;rw [QaO (show QaL (Qam (Qhh (Qaa 1))) (Qaw (Qhh (Qaa 2))) Qav [some (.str t),some (Qd4 (some l)),some (Qd4 (some l))] O' = .nx [some (.str t),some (Qd4 (some l)),some (Qd4 (some l))] O' from rfl)];show Qbw (Qh5 (QaB QcN (Qab (Qaa 2) (Qab (Qaa 1) Qaf)) [some (.str t),some (.lst l),some (.lst l)] O'))=_;rw [QbL (show Qab (Qaa 2) (Qab (Qaa 1) Qaf) [some (.str t),some (.lst l),some (.lst l)] O' = .ok [.lst l,.lst l] O' from rfl),Qut l hx];rfl
theorem QiS (n k:Int) (h0:0≤k) (h1:k≤1000000) (O:Qac):Qch [.int n,.int k] O = .ok (.int (mix n k)) O:=QsL n k h0 h1 O
theorem Qoe (ns:List Int) (k:Nat) (O:Qac):Qcf [.lst (ns.map D.int),.int k] O = .ok (.int (ns.getD k 0)) O:=by
 simp [Qcf,QeN,QqA]
 by_cases h:k < ns.length
 ·simp [h]
 ·simp [h]
structure Pc (l:List Nat):Prop where
 len:l.length≤4
 ok:∀c∈l,okc c
def Qod:List Nat:=[97,98,99,100,101,102,103,104,46,105,120]
theorem Qon:∀c∈Qod,32≤c∧c≤125:=by decide
theorem QjC (n:Int) (w:Bool):∃p,Pc p∧∀O,QbG [.int n,.bl w] O = .ok (.str p) O:=by
 obtain ⟨c,hc,ec⟩:=ixS (l:=Qod) (v:=mix n 1) (n:=11) (by decide) rfl (by decide);have oc:=Qon c hc;have o1:okc c:=.inl oc
 have k1:∀x:Nat,32≤x→x≤125→okc x:=fun x a b=>.inl ⟨a,b⟩
 have m1:=fun O=>QiS n 1 (by decide) (by decide) O
 have m2:=fun O=>QiS n 2 (by decide) (by decide) O
 have ec':gIx (.str [97,98,99,100,101,102,103,104,46,105,120]) (.int (mix n 1 % 11))=some (.str [c]):=ec
 cases w with
 | false =>
  obtain ⟨x,hx,ex⟩:=ixL (l:=[.str [97],.str [120],.str [32],.str [65],.str [91],.str [91,91],.str [93],.str [47],.str [91,93],.str [91,c,93],.str [91,47,c,93],.str [91,c],.str [91,47,c],.str [91,47],.str [46],.str [98],.str [91,c,93],.str [91,47,c,93],.str [91,46,93],.str [91,47,46,93],.str [91,93]]) (v:=mix n 2) (n:=21) rfl (by decide)
  have r:∀O,QbG [.int n,.bl false] O = .ok x O:=fun O=>by simp [QbG,Qek,m1,m2,ec',ex]
  simp at hx
  rcases hx with rfl | rfl | rfl | rfl | rfl | rfl | rfl | rfl | rfl | rfl | rfl | rfl | rfl | rfl | rfl | rfl | rfl | rfl | rfl | rfl | rfl
  all_goals exact ⟨_,⟨by simp,by simp [o1,k1]⟩,r⟩
 | true =>
  obtain ⟨x,hx,ex⟩:=ixL (l:=[.str [97],.str [120],.str [32],.str [65],.str [91],.str [91,91],.str [93],.str [47],.str [91,93],.str [91,c,93],.str [91,47,c,93],.str [91,c],.str [91,47,c],.str [91,47],.str [46],.str [98],.str [91,c,93],.str [91,47,c,93],.str [91,46,93],.str [91,47,46,93],.str [91,93],.str [10],.str [9]]) (v:=mix n 2) (n:=23) rfl (by decide)
  have r:∀O,QbG [.int n,.bl true] O = .ok x O:=fun O=>by simp [QbG,Qek,m1,m2,ec',ex]
  have o10:okc 10:=.inr (.inl rfl);have o9:okc 9:=.inr (.inr rfl);simp at hx
  rcases hx with rfl | rfl | rfl | rfl | rfl | rfl | rfl | rfl | rfl | rfl | rfl | rfl | rfl | rfl | rfl | rfl | rfl | rfl | rfl | rfl | rfl | rfl | rfl
  all_goals exact ⟨_,⟨by simp,by simp [o1,k1,o10,o9]⟩,r⟩
noncomputable def pc (w:Bool) (n:Int):List Nat:=(QjC n w).choose
theorem QqO (w:Bool) (n:Int):Pc (pc w n):=(QjC n w).choose_spec.1
theorem Qvq (w:Bool) (n:Int) (O:Qac):QbG [.int n,.bl w] O = .ok (.str (pc w n)) O:=(QjC n w).choose_spec.2 O
noncomputable def pcs (w:Bool) (ns:List Int):List Nat:=(ns.map (pc w)).flatten
theorem Qjr (w:Bool):∀ns:List Int,(pcs w ns).length≤4 * ns.length∧((ns.map (pc w)).map List.length).sum≤4 * ns.length
 | []=>⟨zc _,zc _⟩
 | n::ns=>by
  obtain ⟨a,b⟩:=Qjr w ns
  have:=(QqO w n).len
  unfold pcs at *;simp only [ze,List.flatten_cons,zr,List.sum_cons,zp] at *;omega
theorem Qur (w:Bool) (ns:List Int):∀c∈pcs w ns,okc c:=by
 intro c hc;unfold pcs at hc;obtain ⟨l,hl,hcl⟩:=List.mem_flatten.mp hc;obtain ⟨n,_,rfl⟩:=zX.mp hl;exact (QqO w n).ok c hcl
theorem Qvl (ns:List Int) (h:Int) (o2:Option D) (O:Qac):Qks (QhK (Qco (mSl (Qaa 0) (moS (mC (.int 2))) (moS (mC (.int 42))))) 1 [1] (mgN 0) Qjj (QaB QbG (Qab (Qaa 0) (Qab (Qad gEq (Qad QbE (Qaa 1) (mC (.int 5))) (mC (.int 0))) Qaf)))) [some (.lst (ns.map D.int)),some (.int h),o2] O = .ok (.str (pcs (decide (h % 5=0)) ((ns.drop 2).take 40))) O:=by
 have ecut:Qb2 (ns.map D.int) (some ((2:Nat):Int)) (some ((42:Nat):Int))=((ns.drop 2).take 40).map D.int:=by rw [Qo8,←List.map_drop,←List.map_take]
 have ec:Qc7 (mgN 0) Qjj (QaB QbG (Qab (Qaa 0) (Qab (Qad gEq (Qad QbE (Qaa 1) (mC (.int 5))) (mC (.int 0))) Qaf))) (((ns.drop 2).take 40).map D.int) [none,some (.int h)] O [] = .ok (((ns.drop 2).take 40).map fun n=>.str (pc (decide (h % 5=0)) n)) O:=by
  rw [Qha (fun ρ=>∃a,ρ = [a,some (.int h)]) (fun d=>match d with | .int n=>.str (pc (decide (h % 5=0)) n) | _=>.non) _ _ _ _ ⟨none,rfl⟩ (by
   rintro d hd ρ ⟨a,rfl⟩;obtain ⟨n,hn,rfl⟩:=zX.mp hd;refine ⟨_,rfl,⟨_,rfl⟩,rfl,?_⟩;refine (QbL (ds:=[.int n,.bl (decide (h % 5=0))]) (maS rfl (ma1 (Qbr (x:=.int (h % 5)) (y:=.int 0) (Qgh rfl rfl (by decide)) rfl rfl)))).trans ?_
   exact Qvq _ _ _)]
  rw [List.map_map,zY];congr 1
 have e2:=QjO (f:=pc (decide (h % 5=0))) ((ns.drop 2).take 40)
 have hl:((ns.drop 2).take 40).length≤40:=by rw [List.length_take]; omega
 have z1:(((ns.drop 2).take 40).map D.int).length≤1000000:=by rw [zA]; omega
 have z2:=(Qjr (decide (h % 5=0)) ((ns.drop 2).take 40)).2
 have z3:((((ns.drop 2).take 40).map (pc (decide (h % 5=0)))).map List.length).sum≤1000000:=by omega
 have ecut':Qb2 (ns.map D.int) (some 2) (some 42)=((ns.drop 2).take 40).map D.int:=ecut
 have ei:Qco (mSl (Qaa 0) (moS (mC (.int 2))) (moS (mC (.int 42)))) [some (.lst (ns.map D.int)),some (.int h),o2] O = .ok (((ns.drop 2).take 40).map D.int) O:=by
  simp only [QkP,Qs2,Qs5,m_c,Qe0,jh,zV,Qaz,Qhe,QqX,Qrh,ecut',QcR,QoU,Qps]
 rw [QtX,QtH,ei,Qaz,if_pos z1,show Qhg 1 [1] [some (D.lst (ns.map D.int)),some (.int h),o2] = [none,some (.int h)] from rfl,ec,Qaz,Qaz,Qhe,QuS,e2,Qp0,if_pos z3];rfl
theorem Qtp (ns:List Int) (O:Qac):∃t,Okt t∧t.length≤200∧Qc0 [.lst (ns.map D.int)] O = .ok (.str t) O:=by
 have e0:=Qoe ns 0 O;have em:=QiS (ns.getD 0 0) 8 (by decide) (by decide) O
 generalize hh:mix (ns.getD 0 0) 8=h at em
 have ep:=Qvl ns h none O;obtain ⟨l1,_⟩:=Qjr (decide (h % 5=0)) ((ns.drop 2).take 40)
 have l2:((ns.drop 2).take 40).length≤40:=by rw [List.length_take]; omega
 have ok:=Qur (decide (h % 5=0)) ((ns.drop 2).take 40)
 generalize pcs (decide (h % 5=0)) ((ns.drop 2).take 40)=q at ep l1 ok
 have st:∀t f,Qai (QaL (Qam (Qad gGt (Qad QbE (Qad Qcy (Qaa 1) (mC (.int 5))) (mC (.int 3))) (mC (.int 0)))) (Qat 2 (Qad Qas (Qaa 2) (Qad gIx (QbF (Qab (mC (.str [91,93])) (Qab (mC (.str [91,46,93,91,47,46,93])) Qaf))) (Qad QbE (Qad Qcy (Qaa 1) (mC (.int 15))) (mC (.int 2)))))) Qav) (Qaw (Qaa 2)) [some (.lst (ns.map D.int)),some (.int h),some (.str q)] O=f→Qbw f = .ok (.str t) O→Qc0 [.lst (ns.map D.int)] O = .ok (.str t) O:=fun t f e1 e2=>by
  show Qbw (Qe8 [some (.lst (ns.map D.int)),none,none] O)=_;unfold Qe8;rw [QaO (QcV (d:=.int h) ((QbL (maS ((QbL (show Qab (Qaa 0) (Qab (mC (.int 0)) Qaf) [some (.lst (ns.map D.int)),none,none] O = .ok [.lst (ns.map D.int),.int 0] O from rfl)).trans e0) (ma1 (x:=.int 8) rfl))).trans em))];rw [show ([some (D.lst (ns.map D.int)),none,none]:Qak).set 1 (some (.int h)) = [some (.lst (ns.map D.int)),some (.int h),none] from rfl,QaO (QcV ep)];rw [show ([some (D.lst (ns.map D.int)),some (D.int h),none]:Qak).set 2 (some (.str q)) = [some (.lst (ns.map D.int)),some (.int h),some (.str q)] from rfl,e1,e2]
 have tst:Qam (Qad gGt (Qad QbE (Qad Qcy (Qaa 1) (mC (.int 5))) (mC (.int 3))) (mC (.int 0))) [some (.lst (ns.map D.int)),some (.int h),some (.str q)] O = .ok (decide (h / 5 % 3 > 0)) O:=by
  refine Qff (Qbr (x:=.int (h / 5 % 3)) (y:=.int 0) (Qgh (i:=h / 5) ?_ rfl (by decide)) rfl rfl);exact Qbr (x:=.int h) (y:=.int 5) rfl rfl rfl
 by_cases hc:h / 5 % 3 > 0
 ·obtain ⟨x,hx,ex⟩:=ixL (l:=[.str [91,93],.str [91,46,93,91,47,46,93]]) (v:=h / 15) (n:=2) rfl (by decide);have e15:Qad QbE (Qad Qcy (Qaa 1) (mC (.int 15))) (mC (.int 2)) [some (.lst (ns.map D.int)),some (.int h),some (.str q)] O = .ok (.int (h / 15 % 2)) O:=Qgh (i:=h / 15) (Qbr (x:=.int h) (y:=.int 15) rfl rfl rfl) rfl (by decide)
  have eg:∀s,x = .str s→s.length≤7→Qad Qas (Qaa 2) (Qad gIx (QbF (Qab (mC (.str [91,93])) (Qab (mC (.str [91,46,93,91,47,46,93])) Qaf))) (Qad QbE (Qad Qcy (Qaa 1) (mC (.int 15))) (mC (.int 2)))) [some (.lst (ns.map D.int)),some (.int h),some (.str q)] O = .ok (.str (q++s)) O:=fun s hs hl=>by
   subst hs;refine Qbr (x:=.str q) (y:=.str s) rfl (Qbr (x:=.lst [.str [91,93],.str [91,46,93,91,47,46,93]]) (y:=.int (h / 15 % 2)) rfl e15 ex) ?_;rw [QdF,QdF,QnO,if_pos (by omega)]
  have fin:∀s,x = .str s→s.length≤7→(∀c∈s,okc c)→∃t,Okt t∧t.length≤200∧Qc0 [.lst (ns.map D.int)] O = .ok (.str t) O:=fun s hs hl hk=>by
   refine ⟨q++s,⟨by rw [zr]; omega,fun c hc=>?_⟩,by rw [zr]; omega,st _ _ (QaO ((Qez (by rw [tst,zt hc])).trans (QcV (eg s hs hl)))) rfl⟩
   rcases zy.mp hc with z | z
   ·exact ok c z
   ·exact hk c z
  simp at hx
  rcases hx with rfl | rfl
  ·exact fin _ rfl (by decide) (by unfold okc; decide)
  ·exact fin _ rfl (by decide) (by unfold okc; decide)
 ·exact ⟨q,⟨by omega,ok⟩,by omega,st q _ (QaO (if_no (by rw [tst,zg hc]))) rfl⟩
theorem Qmc {t s:List Nat} (h:Okt t) (hl:s.length≤t.length) (hs:∀c∈s,c∈t):Okt s:=⟨zu hl h.len,fun c hc=>h.ok c (hs c hc)⟩
theorem QnH (v:Int) (O:Qac):∃d,gIx (.lst [.non,.int 5,.lst [.str [97]],.tup [.str [97]],.bl true,.dic [] []]) (.int (v % 6))=some d∧Qb5 [d] O = .ex ⟨"NoSign",[("at",.int 0)]⟩ O:=by
 obtain ⟨d,hd,e⟩:=ixL (l:=[.non,.int 5,.lst [.str [97]],.tup [.str [97]],.bl true,.dic [] []]) (v:=v) (n:=6) rfl (by decide);refine ⟨d,e,?_⟩;simp at hd
 rcases hd with rfl | rfl | rfl | rfl | rfl | rfl
 all_goals exact QkH rfl
theorem Qgm {m:L2.M D}{ρ:Qak}{O O':Qac} (h:m ρ O = .ok (.bl true) O'):QbQ (Qa7 m) ρ O = .ok false O':=by
 rw [Qhu,Qkr,h];rfl
theorem ifN {t:L2.M Bool}{a:MS}{ρ:Qak}{O O':Qac} (h:t ρ O = .ok false O'):QaL t a Qav ρ O = .nx ρ O':=by
 rw [Qi9,h,Qg8];rfl
theorem Qip {g:MG}{b:MS}{d:D}{ds:List D}{ρ ρ1 ρ2:Qak}{O O2:Qac} (hg:g d ρ=some ρ1) (hb:b ρ1 O = .nx ρ2 O2):QaS g b (d::ds) ρ O=QaS g b ds ρ2 O2:=by
 rw [QaS,hg];dsimp only;rw [hb]
theorem Qqw (ns:List Int) (hn:ns.length≤63):∃O',Qq1 [.lst (ns.map D.int)] [] = .ok (.bl true) O':=by
 obtain ⟨t,ht,hl,et⟩:=Qtp ns [];obtain ⟨O1,e1⟩:=Qix t ht (by omega) [];have ec:=Qoe ns 1 O1
 generalize ns.getD 1 0=cl at ec
 have m1:=QiS cl 1 (by decide) (by decide) O1;have m2:=QiS cl 2 (by decide) (by decide) O1
 have hz:t.length≤1000000:=by omega
 obtain ⟨n,hn1,hn2⟩:∃n:Nat,mix cl 1 % ((t.length:Int)+1)=(n:Int)∧n≤t.length:=by
  obtain ⟨n,h⟩:=Int.eq_ofNat_of_zero_le (zZ (mix cl 1) (show (t.length:Int)+1≠0 by omega))
  have:=jc (mix cl 1) (show (0:Int) < (t.length:Int)+1 by omega)
  exact ⟨n,h,by omega⟩
 obtain ⟨k,hk1,hk2⟩:∃k:Nat,mix cl 2 % ((t.length:Int) - (n:Int)+1)=(k:Int)∧k≤t.length - n:=by
  obtain ⟨k,h⟩:=Int.eq_ofNat_of_zero_le (zZ (mix cl 2) (show (t.length:Int) - (n:Int)+1≠0 by omega))
  have:=jc (mix cl 2) (show (0:Int) < (t.length:Int) - (n:Int)+1 by omega)
  exact ⟨k,h,by omega⟩
 have a126:¬okc 126:=by unfold okc; omega
 have la:(t.take n).length=n:=by rw [List.length_take]; omega
 have hs:ascii (t.take n++126::((t.drop n).take k++126::(t.drop n).drop k))=true:=by
  unfold ascii;rw [jj];intro c hc;refine zt ?_
  rcases zy.mp hc with z | z
  ·exact ht.lt c (List.mem_of_mem_take z)
  ·rcases zk.mp z with rfl | z
   ·decide
   ·rcases zy.mp z with z | z
    ·exact ht.lt c (ji (List.mem_of_mem_take z))
    ·rcases zk.mp z with rfl | z
     ·decide
     ·exact ht.lt c (ji (ji z))
 obtain ⟨O2,e2⟩:=Qkj (O:=O1) (Qkn (a:=t.take n) (b:=(t.drop n).take k++126::(t.drop n).drop k) a126 (fun c hc=>ht.ok c (List.mem_of_mem_take hc)) hs (O1 ++ [RO [] 0]));rw [la] at e2;obtain ⟨d,ed,ech⟩:=QnH cl (O2 ++ [RO [] 0]);obtain ⟨O3,e3⟩:=Qkj (O:=O2) ech;obtain ⟨O4,e4⟩:=Qix t ht (by omega) O3;obtain ⟨O5,e5⟩:=Qix (t.take n) (Qmc ht (by rw [List.length_take]; omega) fun c hc=>List.mem_of_mem_take hc) (by rw [List.length_take]; omega) O4;obtain ⟨O6,e6⟩:=Qix (t.drop n) (Qmc ht (by rw [List.length_drop]; omega) fun c hc=>ji hc) (by rw [List.length_drop]; omega) O5;refine ⟨O6,?_⟩
 have len1:∀(ρ:Qak) (O:Qac),ρ[1]? = some (some (.str t))→QaV Qbq (Qab (Qaa 1) Qaf) ρ O = .ok (.int (t.length:Int)) O:=fun ρ O h=>Qh7 (xs:=[.str t]) (ma1 (by rw [Qe0,h])) (by
  show Qbq [D.str t]=_
  rw [QsM,if_pos hz])
 have cutA:∀(O:Qac),Qb2 t none (some (n:Int))=t.take n:=fun _=>Qly t n
 have cutB:Qb2 t (some (n:Int)) none=t.drop n:=QkQ t n;show Qbw (Qky [some (.lst (ns.map D.int)),none,none,none,none,none,none,none] [])=_;unfold Qky
 rw [QaO (show Qat 1 (QaB Qc0 (Qab (Qaa 0) Qaf)) [some (.lst (ns.map D.int)),none,none,none,none,none,none,none] [] = .nx [some (.lst (ns.map D.int)),some (.str t),none,none,none,none,none,none] [] from QcV ((QbL (ds:=[.lst (ns.map D.int)]) rfl).trans et)),
  QaO (ifN (Qgm ((QbL (ds:=[.str t]) rfl).trans e1))),
  QaO (show Qat 2 (QaB Qcf (Qab (Qaa 0) (Qab (mC (.int 1)) Qaf))) [some (.lst (ns.map D.int)),some (.str t),none,none,none,none,none,none] O1 = .nx [some (.lst (ns.map D.int)),some (.str t),some (.int cl),none,none,none,none,none] O1 from QcV ((QbL (ds:=[.lst (ns.map D.int),.int 1]) rfl).trans ec)),
  QaO (show Qat 3 (Qad QbE (QaB Qch (Qab (Qaa 2) (Qab (mC (.int 1)) Qaf))) (Qad Qas (QaV Qbq (Qab (Qaa 1) Qaf)) (mC (.int 1)))) [some (.lst (ns.map D.int)),some (.str t),some (.int cl),none,none,none,none,none] O1 = .nx [some (.lst (ns.map D.int)),some (.str t),some (.int cl),some (.int n),none,none,none,none] O1 from QcV (by
   rw [Qgh (i:=mix cl 1) (j:=(t.length:Int)+1) ((QbL (ds:=[.int cl,.int 1]) rfl).trans m1) (Qkx (len1 _ _ rfl) rfl) (by omega),hn1])),
  QaO (show Qat 4 (Qad QbE (QaB Qch (Qab (Qaa 2) (Qab (mC (.int 2)) Qaf))) (Qad Qas (Qad Qfk (QaV Qbq (Qab (Qaa 1) Qaf)) (Qaa 3)) (mC (.int 1)))) [some (.lst (ns.map D.int)),some (.str t),some (.int cl),some (.int n),none,none,none,none] O1 = .nx [some (.lst (ns.map D.int)),some (.str t),some (.int cl),some (.int n),some (.int k),none,none,none] O1 from QcV (by
   rw [Qgh (i:=mix cl 2) (j:=(t.length:Int) - (n:Int)+1) ((QbL (ds:=[.int cl,.int 2]) rfl).trans m2) (Qkx (QuO (len1 _ _ rfl) rfl) rfl) (by omega),hk1])),
  QaO (show Qat 5 (mSl (Qaa 1) (moS (Qaa 3)) moN) [some (.lst (ns.map D.int)),some (.str t),some (.int cl),some (.int n),some (.int k),none,none,none] O1 = .nx [some (.lst (ns.map D.int)),some (.str t),some (.int cl),some (.int n),some (.int k),some (.str (t.drop n)),none,none] O1 from QcV (by
   rw [QgE (t:=t) (x:=some (n:Int)) (y:=none) rfl (Qfz rfl) rfl hz,cutB]))]
 have sp:Qad Qas (Qad Qas (Qad Qas (Qad Qas (mSl (Qaa 1) moN (moS (Qaa 3))) (mC (.str [126]))) (mSl (Qaa 5) moN (moS (Qaa 4)))) (mC (.str [126]))) (mSl (Qaa 5) (moS (Qaa 4)) moN) [some (.lst (ns.map D.int)),some (.str t),some (.int cl),some (.int n),some (.int k),some (.str (t.drop n)),none,none] O1 = .ok (.str (t.take n++126::((t.drop n).take k++126::(t.drop n).drop k))) O1:=by
  have hd:(t.drop n).length≤1000000:=by rw [List.length_drop]; omega
  have s1:=QgE (O:=O1) (m:=Qaa 1) (a:=moN) (b:=moS (Qaa 3)) (ρ:=[some (.lst (ns.map D.int)),some (.str t),some (.int cl),some (.int n),some (.int k),some (.str (t.drop n)),none,none]) (t:=t) (x:=none) (y:=some (n:Int)) rfl rfl (Qfz rfl) hz;have s2:=QgE (O:=O1) (m:=Qaa 5) (a:=moN) (b:=moS (Qaa 4)) (ρ:=[some (.lst (ns.map D.int)),some (.str t),some (.int cl),some (.int n),some (.int k),some (.str (t.drop n)),none,none]) (t:=t.drop n) (x:=none) (y:=some (k:Int)) rfl rfl (Qfz rfl) hd;have s3:=QgE (O:=O1) (m:=Qaa 5) (a:=moS (Qaa 4)) (b:=moN) (ρ:=[some (.lst (ns.map D.int)),some (.str t),some (.int cl),some (.int n),some (.int k),some (.str (t.drop n)),none,none]) (t:=t.drop n) (x:=some (k:Int)) (y:=none) rfl (Qfz rfl) rfl hd
  rw [Qly] at s1 s2;rw [QkQ] at s3
  have l1:(t.take n).length≤300:=by rw [List.length_take]; omega
  have l2:((t.drop n).take k).length≤300:=by rw [List.length_take,List.length_drop]; omega
  have l3:((t.drop n).drop k).length≤300:=by rw [List.length_drop,List.length_drop]; omega
  have ad:∀{a b:L2.M D}{ρ:Qak}{x y:List Nat},a ρ O1 = .ok (.str x) O1→b ρ O1 = .ok (.str y) O1→x.length+y.length≤1000000→Qad Qas a b ρ O1 = .ok (.str (x++y)) O1:=fun {a b ρ x y} ha hb hl=>Qbr ha hb (by rw [QdF,QdF,QnO,if_pos hl])
  have q1:=ad s1 (show mC (.str [126]) _ O1 = .ok (.str [126]) O1 from rfl) (by rw [zS]; omega);have q2:=ad q1 s2 (by rw [zr,zS]; omega);have q3:=ad q2 (show mC (.str [126]) _ O1 = .ok (.str [126]) O1 from rfl) (by rw [zr,zr,zS]; omega);have q4:=ad q3 s3 (by rw [zr,zr,zr,zS]; omega);rw [q4];simp only [zP,List.cons_append,zY]
 rw [QaO (show Qat 6 _ [some (.lst (ns.map D.int)),some (.str t),some (.int cl),some (.int n),some (.int k),some (.str (t.drop n)),none,none] O1 = .nx [some (.lst (ns.map D.int)),some (.str t),some (.int cl),some (.int n),some (.int k),some (.str (t.drop n)),some (.str (t.take n++126::((t.drop n).take k++126::(t.drop n).drop k))),none] O1 from QcV sp),
  QaO (ifN (Qgm ((QbL (ds:=[.str (t.take n++126::((t.drop n).take k++126::(t.drop n).drop k)),.int n]) rfl).trans e2))),
  QaO (ifN (Qgm ((QbL (ds:=[d,.int 0]) (maS (Qbr (x:=.lst [.non,.int 5,.lst [.str [97]],.tup [.str [97]],.bl true,.dic [] []]) (y:=.int (cl % 6)) rfl (Qgh (i:=cl) rfl rfl (by decide)) ed) (ma1 (x:=.int 0) rfl))).trans e3)))]
 have lp:∀(s:List Nat) (o7:Option D) (O O':Qac),QcC [.str s] O = .ok (.bl true) O'→(QaL (QbQ (Qa7 (QaB QcC (Qab (Qaa 7) Qaf)))) (Qaw (mC (.bl false))) Qav) [some (.lst (ns.map D.int)),some (.str t),some (.int cl),some (.int n),some (.int k),some (.str (t.drop n)),some (.str (t.take n++126::((t.drop n).take k++126::(t.drop n).drop k))),some (.str s)] O = .nx [some (.lst (ns.map D.int)),some (.str t),some (.int cl),some (.int n),some (.int k),some (.str (t.drop n)),some (.str (t.take n++126::((t.drop n).take k++126::(t.drop n).drop k))),some (.str s)] O':=fun s o7 O O' e=>ifN (Qgm ((QbL (ds:=[.str s]) rfl).trans e))
 rw [QaO (show QbP (Qco (QbF (Qab (Qaa 1) (Qab (mSl (Qaa 1) moN (moS (Qaa 3))) (Qab (mSl (Qaa 1) (moS (Qaa 3)) moN) Qaf))))) (mgN 7) (QaL (QbQ (Qa7 (QaB QcC (Qab (Qaa 7) Qaf)))) (Qaw (mC (.bl false))) Qav) [some (.lst (ns.map D.int)),some (.str t),some (.int cl),some (.int n),some (.int k),some (.str (t.drop n)),some (.str (t.take n++126::((t.drop n).take k++126::(t.drop n).drop k))),none] O3 = .nx [some (.lst (ns.map D.int)),some (.str t),some (.int cl),some (.int n),some (.int k),some (.str (t.drop n)),some (.str (t.take n++126::((t.drop n).take k++126::(t.drop n).drop k))),some (.str (t.drop n))] O6 from by
  have s1:=QgE (O:=O3) (m:=Qaa 1) (a:=moN) (b:=moS (Qaa 3)) (ρ:=[some (.lst (ns.map D.int)),some (.str t),some (.int cl),some (.int n),some (.int k),some (.str (t.drop n)),some (.str (t.take n++126::((t.drop n).take k++126::(t.drop n).drop k))),none]) (t:=t) (x:=none) (y:=some (n:Int)) rfl rfl (Qfz rfl) hz;have s2:=QgE (O:=O3) (m:=Qaa 1) (a:=moS (Qaa 3)) (b:=moN) (ρ:=[some (.lst (ns.map D.int)),some (.str t),some (.int cl),some (.int n),some (.int k),some (.str (t.drop n)),some (.str (t.take n++126::((t.drop n).take k++126::(t.drop n).drop k))),none]) (t:=t) (x:=some (n:Int)) (y:=none) rfl (Qfz rfl) rfl hz
  rw [Qly] at s1;rw [QkQ] at s2
  have ei:Qco (QbF (Qab (Qaa 1) (Qab (mSl (Qaa 1) moN (moS (Qaa 3))) (Qab (mSl (Qaa 1) (moS (Qaa 3)) moN) Qaf)))) [some (.lst (ns.map D.int)),some (.str t),some (.int cl),some (.int n),some (.int k),some (.str (t.drop n)),some (.str (t.take n++126::((t.drop n).take k++126::(t.drop n).drop k))),none] O3 = .ok [.str t,.str (t.take n),.str (t.drop n)] O3:=by
   rw [QkP,Qwe (xs:=[.str t,.str (t.take n),.str (t.drop n)]) (maS rfl (maS s1 (ma1 s2))) (show (3:Nat)≤1000000 by decide)];rfl
  refine (QkB ei).trans ?_;refine (Qip (ρ1:=[some (.lst (ns.map D.int)),some (.str t),some (.int cl),some (.int n),some (.int k),some (.str (t.drop n)),some (.str (t.take n++126::((t.drop n).take k++126::(t.drop n).drop k))),some (.str t)]) rfl (lp t none O3 O4 e4)).trans ?_;refine (Qip (ρ1:=[some (.lst (ns.map D.int)),some (.str t),some (.int cl),some (.int n),some (.int k),some (.str (t.drop n)),some (.str (t.take n++126::((t.drop n).take k++126::(t.drop n).drop k))),some (.str (t.take n))]) rfl (lp (t.take n) none O4 O5 e5)).trans ?_;refine (Qip (ρ1:=[some (.lst (ns.map D.int)),some (.str t),some (.int cl),some (.int n),some (.int k),some (.str (t.drop n)),some (.str (t.take n++126::((t.drop n).take k++126::(t.drop n).drop k))),some (.str (t.drop n))]) rfl (lp (t.drop n) none O5 O6 e6)).trans ?_
  rfl)]
 rfl
theorem all_mk {l:PySem.W.OpenLaw}{w:World}{K:PySem.W.Frag}{h:Heap}{mg:Str→Option Value}{fa:Addr} (X:K.In h) (G:h.Ns mainGlobals mg) (hfa:mg "law" = some (.ref fa))
  {QdA:Addr}
  {Qnu:Addr}{Quc Qny:Option Addr}{Qus:Array (Option Value)}{QsW Qoc QoD Qor Qk4 Qoz:Value}
  {ad_PLAIN:Addr}{Qll:Value}{Qp4:Option Addr}{it_PLAIN:Array Value}{nn_PLAIN:Nat}{Qpo:Array (Option Value)}
  {Qa8:Addr}
  {QiG:Addr}
  {Qid:Addr}
  {Qim:Addr}
  {Qjw:Addr}
  {Qih:Addr}
  {Qil:Addr}
  {Qh8:Addr}
  {Qib:Addr}
  {Qik:Addr}
  {QjB:Addr}
  {Qo1:ClassData}
  {fI_NoSign:Addr}{odI_NoSign anI_NoSign:Option Addr}{slI_NoSign:Array (Option Value)}{ocI_NoSign kVI_NoSign dcI_NoSign pmI_NoSign cdI_NoSign ctI_NoSign:Value}
  (Z_Reader:ClsAt K "Reader" QdA)
  (Qkm:PySem.W.findIn K (.ref QdA) "held" = some none)
  (Qjo:PySem.W.findIn K (.ref QdA) "place" = some none)
  (QhE:Def K mg "is_sign" Qho)
  (QfN:Def K mg "is_colour" Qf3)
  (Qhv:Def K mg "checked" Qhn)
  (Qf2:Def K mg "shown_ink" Qf1)
  (Qht:Def K mg "mark_of" Qg6)
  (Qdi:Def K mg "may_become_mark" Qda)
  (QgJ:Def K mg "own_item" Qgx)
  (Qf7:Def K mg "own_items" Qd9)
  (M_Reader___init__:MethAt K QdA "__init__" "Reader.__init__" Qdb)
  (M_Reader_take:MethAt K QdA "take" "Reader.take" QeR)
  (M_Reader_feed:MethAt K QdA "feed" "Reader.feed" QeG)
  (M_Reader_finish:MethAt K QdA "finish" "Reader.finish" QdN)
  (QgK:Def K mg "items_of" QgT)
  (QeT:Def K mg "pair_behind" QeH)
  (QgV:Def K mg "unshaded" QgZ)
  (QeS:Def K mg "_law_cell_at" QeF)
  (Qhk:Def K mg "_law_mix" QhB)
  (QfT:Def K mg "_law_whole" Qf5)
  (QdL:Def K mg "_law_is_colour" QdS)
  (Qgy:Def K mg "_law_read" QgA)
  (Qga:Def K mg "_law_shown" Qge)
  (QdU:Def K mg "_law_same_look" QdT)
  (QfQ:Def K mg "_law_piece" Qf6)
  (QgC:Def K mg "_law_text" Qe5)
  (QeM:Def K mg "_law_refused" QeW)
  (Qgv:Def K mg "_law_told" QgL)
  (Qni:PySem.W.nsIn K mainGlobals "law" = some (some (.ref Qnu))) (QqH:K.lookup Qnu=some ⟨QsW,Quc,.func (PySem.W.fnOf "law" "law" (Qbv Qeg) (QaW Qeg) (Qah Qeg) .none Qoc QoD Qor Qny Qk4 Qoz),Qus⟩) (QtO:PySem.W.codeIn K Qk4 "law" = true) (Qvc:PySem.W.keepIn K (.ref Qnu)=true)
  (B:Blt mg)
  (QcG:∃u,mg "ANEW_SIGN" = some u∧RelV (.str (S [9])) u)
  (Qhi:∃u,mg "COLOURS" = some u∧RelV (.str (S [97,98,99,100,101,102,103,104,46])) u)
  (Qfw:∃u,mg "FIRST_SIGN" = some u∧RelV (.str (S [32])) u)
  (QfO:∃u,mg "LAST_SIGN" = some u∧RelV (.str (S [125])) u)
  (Qpc:PySem.W.nsIn K mainGlobals "PLAIN" = some (some (.ref ad_PLAIN))) (QnP:K.lookup ad_PLAIN=some ⟨Qll,Qp4,.seq it_PLAIN nn_PLAIN,Qpo⟩) (t_c_PLAIN:Qll = .type "tuple") (Qo7:it_PLAIN.size≤sizeLine) (v_c_PLAIN:QaA (List.map (fun l=>V.str (S l)) [[46],[46]]) it_PLAIN.toList)
  (QdE:∃u,mg "ROW_END" = some u∧RelV (.str (S [10])) u)
  (QcX:PySem.W.nsIn K mainGlobals "NoSign" = some (some (.ref Qa8)))
  (QlJ:PySem.W.nsIn K mainGlobals "OutError" = some (some (.ref QiG)))
  (QoN:PySem.W.nsIn K mainGlobals "NoName" = some (some (.ref Qid)))
  (QoK:PySem.W.nsIn K mainGlobals "NoHand" = some (some (.ref Qim)))
  (QpZ:PySem.W.nsIn K mainGlobals "Twice" = some (some (.ref Qjw)))
  (QnR:PySem.W.nsIn K mainGlobals "Closed" = some (some (.ref Qih)))
  (Qpb:PySem.W.nsIn K mainGlobals "NoSize" = some (some (.ref Qil)))
  (Qoo:PySem.W.nsIn K mainGlobals "NoRoom" = some (some (.ref Qh8)))
  (Qnz:PySem.W.nsIn K mainGlobals "NoRoll" = some (some (.ref Qib)))
  (QnN:PySem.W.nsIn K mainGlobals "NoCell" = some (some (.ref Qik)))
  (Qpl:PySem.W.nsIn K mainGlobals "NoRow" = some (some (.ref QjB)))
  (xsp:PySem.W.specialIn K (.builtin "object.__class__") "__get__" = some (some (.builtin "getset_descriptor.__get__")))
  (xtk:PySem.W.takesIn K (.builtin "object.__class__")=some true)
  (xga_NoSign:PySem.W.findIn K (.ref Qa8) "__getattribute__" = some (some (.builtin "BaseException.__getattribute__")))
  (xna_NoSign:PySem.W.findIn K (.ref Qa8) "__getattr__" = some none)
  (xca_NoSign:PySem.W.findIn K (.ref Qa8) "__class__" = some (some (.builtin "object.__class__")))
  (xob_NoSign:PySem.W.mroIn K Qa8 (.type "object")=some true)
  (xbe_NoSign:PySem.W.mroIn K Qa8 (.type "BaseException")=some true)
  (xcl_NoSign:PySem.W.clsIn K Qa8=some Qo1)
  (xif_NoSign:PySem.W.findIn K (.ref Qa8) "__init__" = some (some (.ref fI_NoSign)))
  (xii_NoSign:PySem.W.isFn K (.ref fI_NoSign)=true)
  (xil_NoSign:K.lookup fI_NoSign=some ⟨ocI_NoSign,odI_NoSign,.func (PySem.W.fnOf "__init__" "NoSign.__init__" (Qbv Qce) (QaW Qce) (Qah Qce) .none kVI_NoSign dcI_NoSign pmI_NoSign anI_NoSign cdI_NoSign ctI_NoSign),slI_NoSign⟩)
  (xic_NoSign:PySem.W.codeIn K cdI_NoSign "NoSign.__init__" = true)
  (xik_NoSign:PySem.W.keepIn K (.ref fI_NoSign)=true)
  (xis_NoSign:PySem.W.findIn K (.ref Qa8) "__setattr__" = some (some (.builtin "object.__setattr__")))
  (xin_NoSign:PySem.W.findIn K (.ref Qa8) "at" = some none)
  (xio_NoSign:PySem.W.mroIn K Qa8 (.type "object")=some true)
  (xix_NoSign:QiW K Qa8 bmV "ValueError.__new__" fI_NoSign=true)
  (fEX_OutError_NoSign:PySem.W.exmOne K (.ref Qa8) (.ref QiG)=some true)
  (fIT_NoNameNoHandTwiceClosedNoSizeNoRoomNoRollNoCellNoRow_NoSign:PySem.W.kitAny K (.ref Qa8) [.ref Qid,.ref Qim,.ref Qjw,.ref Qih,.ref Qil,.ref Qh8,.ref Qib,.ref Qik,.ref QjB]=some false)
  (xve:PySem.W.nsIn K mainGlobals "ValueError" = some none)
  (fIV_NoSign:PySem.W.kitOne K (.ref Qa8) (.type "ValueError")=some true)
  (fIS_NoSign_NoSign:PySem.W.kitOne K (.ref Qa8) (.ref Qa8)=some true)
  (fXA_at_NoSign:PySem.W.findIn K (.ref Qa8) "at" = some none) (hXA_at_NoSign:PySem.W.hasDictIn K Qa8=true) :
  ∃fd:FuncData,(∀(s:Shared) (v:Value),BindsTo s fd ⟨[v],[]⟩ [("_law_script",v)])∧∀base:Heap,K.In base→base.Ns mainGlobals mg→Qbo l.prog w K mg base CX0 8 fa fd ["_law_script"] (sp_law K):=by
 have e:=hfa.symm.trans (PySem.W.mg_of X G Qni);cases e;have QaT:=Z_Reader.kf X G Qkm;have Qbc:=Z_Reader.kf X G Qjo;have Qde:=Z_Reader.dc X G M_Reader___init__;have QeK:=Z_Reader.dm X G M_Reader_take;have QeC:=Z_Reader.dm X G M_Reader_feed;have QdR:=Z_Reader.dm X G M_Reader_finish;have Qm5:Def K mg "law" Qeg:=⟨_,_,PySem.W.mg_of X G Qni,Qi0 (st:=Qeg) QqH QtO Qvc⟩;have Qd2:Qnf K mg "PLAIN" [[46],[46]]:=⟨ad_PLAIN,_,it_PLAIN,nn_PLAIN,PySem.W.mg_of X G Qpc,QnP,t_c_PLAIN,rfl,Qo7,v_c_PLAIN⟩;have XF_NoSign:QeP K Qa8:=⟨xga_NoSign,xna_NoSign,xca_NoSign,xsp,xtk,xob_NoSign,xbe_NoSign,by rw [xcl_NoSign]; rfl⟩
 have DI_NoSign:Qnl K mg "NoSign" "at" "NoSign.__init__" Qce:=⟨_,_,_,PySem.W.mg_of X G QcX,⟨xix_NoSign,xis_NoSign,xin_NoSign,xio_NoSign⟩,xii_NoSign,Qi0 (st:=Qce) xil_NoSign xic_NoSign xik_NoSign⟩;have EX_OutError_NoSign:EXM K mg "OutError" "NoSign" true:=⟨_,_,PySem.W.mg_of X G QcX,PySem.W.mg_of X G QlJ,fEX_OutError_NoSign⟩;have IT_NoNameNoHandTwiceClosedNoSizeNoRoomNoRollNoCellNoRow_NoSign:QkV K mg ["NoName","NoHand","Twice","Closed","NoSize","NoRoom","NoRoll","NoCell","NoRow"] "NoSign" false:=⟨Qa8,[Qid,Qim,Qjw,Qih,Qil,Qh8,Qib,Qik,QjB],PySem.W.mg_of X G QcX,XF_NoSign,⟨_,_,rfl,PySem.W.mg_of X G QoN,⟨_,_,rfl,PySem.W.mg_of X G QoK,⟨_,_,rfl,PySem.W.mg_of X G QpZ,⟨_,_,rfl,PySem.W.mg_of X G QnR,⟨_,_,rfl,PySem.W.mg_of X G Qpb,⟨_,_,rfl,PySem.W.mg_of X G Qoo,⟨_,_,rfl,PySem.W.mg_of X G Qnz,⟨_,_,rfl,PySem.W.mg_of X G QnN,⟨_,_,rfl,PySem.W.mg_of X G Qpl,rfl⟩⟩⟩⟩⟩⟩⟩⟩⟩,fIT_NoNameNoHandTwiceClosedNoSizeNoRoomNoRollNoCellNoRow_NoSign⟩
 have VN:=PySem.W.mg_none_of X G xve;have IV_NoSign:ISV K mg "NoSign":=⟨_,PySem.W.mg_of X G QcX,XF_NoSign,fIV_NoSign⟩;have IS_NoSign_NoSign:ISN K mg "NoSign" "NoSign" true:=⟨_,_,PySem.W.mg_of X G QcX,XF_NoSign,PySem.W.mg_of X G QcX,fIS_NoSign_NoSign⟩;have XA_at_NoSign:XFC K mg "at" "NoSign":=⟨_,PySem.W.mg_of X G QcX,XF_NoSign,fXA_at_NoSign,hXA_at_NoSign⟩;refine ⟨PySem.W.fnOf "law" "law" (Qbv Qeg) (QaW Qeg) (Qah Qeg) .none Qoc QoD Qor Qny Qk4 Qoz,fun s v=>.of_eq rfl,fun base _ _=>?_⟩;have XI_NoSign:=@Qo0 l.prog w K mg base DI_NoSign;have Qg7:=@QmF l.prog w K mg base QhE B Qfw QfO
 have Qb7:=@Qle l.prog w K mg base QfN B Qhi;have Qhd:=@QmN l.prog w K mg base Qhv B QcG QdE XI_NoSign Qg7;have QfP:=@Qk7 l.prog w K mg base Qf2 B;have Qhm:=@Qnh l.prog w K mg base Qht B Qb7;have Qdk:=@Qhf l.prog w K mg base Qdi B Qb7;have QgG:=@QlK l.prog w K mg base QgJ B QcG QdE;have Qcm:=@QlI l.prog w K mg base Qf7 B QgG;have Qc9:=@Qhc l.prog w K mg base Qde B QaT Qbc;have QeJ:=@Qjd l.prog w K mg base QeK B Qbc QaT Qdk Qhm Qcm;have QeQ:=@QjJ l.prog w K mg base QeC B Qhd QeJ;have QdH:=@Qir l.prog w K mg base QdR B QaT Qbc Qcm;have QgM:=@QlW l.prog w K mg base QgK B Qc9 QeQ QdH;have QeL:=@Qjp l.prog w K mg base QeT B Qd2
 have Qc2:=@QlT l.prog w K mg base QgV B Qd2 QgM QfP QeL;have Qcc:=@Qjx l.prog w K mg base QeS B;have QbX:=@Qm2 l.prog w K mg base Qhk B;have QfL:=@QlG l.prog w K mg base QfT B;have QcO:=@Qiq l.prog w K mg base QdL B;have Qgw:=@QlS l.prog w K mg base Qgy B QcO;have QfW:=@QlD l.prog w K mg base Qga B;have QdZ:=@Qh9 l.prog w K mg base QdU B;have Qgc:=@Qlh l.prog w K mg base QfQ B QbX;have QgU:=@QlM l.prog w K mg base QgC B QbX Qcc Qgc;have Qdv:=@Qje l.prog w K mg base QeM B EX_OutError_NoSign IT_NoNameNoHandTwiceClosedNoSizeNoRoomNoRollNoCellNoRow_NoSign VN IV_NoSign IS_NoSign_NoSign XA_at_NoSign Qc2 QfL
 have Qfc:=@QlU l.prog w K mg base Qgv B QfW Qgw Qc2.can QdZ;have QuV:=@QtF l.prog w K mg base Qm5 B QgU Qfc Qcc QbX Qdv;obtain ⟨f',fd',hm',hk',hb',F',oc',od',osl',lk'⟩:=QuV;have e2:=(PySem.W.mg_of X G Qni).symm.trans hm';cases e2;have e3:=QqH.symm.trans lk';cases e3;exact F'.imp (Qsy Qqw)
theorem walk {l:PySem.W.OpenLaw}{q:Program}{loose:List Str}{XP:(Str→Option Value)→Heap→Prop}{YP:World→Heap→Prop}{d:DefRec}{K:Params→PySem.W.Frag} (hn:l.most=some 63) (hdf:d.params.defaults = [])
  (hY:∀(w:World) (h:Heap),YP w h→(K w.params).In h)
  (F:∀(w:World) (mg:Str→Option Value) (fa:Addr) (h:Heap),(K w.params).In h→h.Ns mainGlobals mg→mg d.name=some (.ref fa) →
   ∃fd:FuncData,(∀(s:Shared) (u:Value),BindsTo s fd ⟨[u],[]⟩ [("_law_script",u)])∧∀base:Heap,(K w.params).In base→base.Ns mainGlobals mg→Qbo l.prog w (K w.params) mg base CX0 8 fa fd ["_law_script"] (sp_law (K w.params))) :
  PySem.W.WalkO q loose XP YP l.row.toRowW d [] (fun f vs=>PySem.call f vs) :=
 L2.walk_ofR (n:=63) (k:=8) (x:="_law_script") (CX:=fun _=>CX0) (sp:=fun w=>sp_law (K w.params)) hn (by decide) hdf ⟨rfl,by decide,by decide⟩ hY F (fun _ _ a ns hl ho hS=>⟨a,ns,rfl,hS,hl,ho,fun _=>rfl⟩) fun _ _ _ _ _ z=>z
end K36
open PySem PySem.W PyProof.Rows L2
set_option maxRecDepth 100000 in
set_option maxHeartbeats 0 in
theorem PySem.Challenge.cw_outweave_k36_texts_unshaded_holds : PySem.Challenge.rw_outweave_k36_texts_unshaded.Holds := by
 w_on; o_law; k_head; (case hw=>w_witness2)
 k_fill
 refine K36.walk (l:=PySem.Challenge.rw_outweave_k36_texts_unshaded) rfl rfl (fun w h Y=>PySem.W.kIn_of Y) ?F
 case F =>
  intro w mg fa h KX G hmg
  refine' K36.all_mk KX G hmg ⟨?x1,?x2,?x3,?x4,?x5,?x6,?x7⟩ ?x8 ?x9 (mkD KX G ?x10 ?x11 ?x12 ?x13) (mkD KX G ?x14 ?x15 ?x16 ?x17) (mkD KX G ?x18 ?x19 ?x20 ?x21) (mkD KX G ?x22 ?x23 ?x24 ?x25) (mkD KX G ?x26 ?x27 ?x28 ?x29) (mkD KX G ?x30 ?x31 ?x32 ?x33) (mkD KX G ?x34 ?x35 ?x36 ?x37) (mkD KX G ?x38 ?x39 ?x40 ?x41) (mkM ?x42 ?x43 ?x44 ?x45 ?x46) (mkM ?x47 ?x48 ?x49 ?x50 ?x51) (mkM ?x52 ?x53 ?x54 ?x55 ?x56) (mkM ?x57 ?x58 ?x59 ?x60 ?x61) (mkD KX G ?x62 ?x63 ?x64 ?x65) (mkD KX G ?x66 ?x67 ?x68 ?x69) (mkD KX G ?x70 ?x71 ?x72 ?x73) (mkD KX G ?x74 ?x75 ?x76 ?x77) (mkD KX G ?x78 ?x79 ?x80 ?x81) (mkD KX G ?x82 ?x83 ?x84 ?x85) (mkD KX G ?x86 ?x87 ?x88 ?x89) (mkD KX G ?x90 ?x91 ?x92 ?x93) (mkD KX G ?x94 ?x95 ?x96 ?x97) (mkD KX G ?x98 ?x99 ?x100 ?x101) (mkD KX G ?x102 ?x103 ?x104 ?x105) (mkD KX G ?x106 ?x107 ?x108 ?x109) (mkD KX G ?x110 ?x111 ?x112 ?x113) (mkD KX G ?x114 ?x115 ?x116 ?x117) ?x118 ?x119 ?x120 ?x121 ⟨PySem.W.mg_none_of KX G ?x122,PySem.W.mg_none_of KX G ?x123,PySem.W.mg_none_of KX G ?x124,PySem.W.mg_none_of KX G ?x125,PySem.W.mg_none_of KX G ?x126,PySem.W.mg_none_of KX G ?x127,PySem.W.mg_none_of KX G ?x128,PySem.W.mg_none_of KX G ?x129,PySem.W.mg_none_of KX G ?x130,PySem.W.mg_none_of KX G ?x131,PySem.W.mg_none_of KX G ?x132,PySem.W.mg_none_of KX G ?x133,PySem.W.mg_none_of KX G ?x134,PySem.W.mg_none_of KX G ?x135,PySem.W.mg_none_of KX G ?x136⟩ ⟨_,PySem.W.mg_of KX G ?x137,?x138⟩ ⟨_,PySem.W.mg_of KX G ?x139,?x140⟩ ⟨_,PySem.W.mg_of KX G ?x141,?x142⟩ ⟨_,PySem.W.mg_of KX G ?x143,?x144⟩ ?x145 ?x146 ?x147 ?x148 ?x149 ⟨_,PySem.W.mg_of KX G ?x150,?x151⟩ ?x152 ?x153 ?x154 ?x155 ?x156 ?x157 ?x158 ?x159 ?x160 ?x161 ?x162 ?x163 ?x164 ?x165 ?x166 ?x167 ?x168 ?x169 ?x170 ?x171 ?x172 ?x173 ?x174 ?x175 ?x176 ?x177 ?x178 ?x179 ?x180 ?x181 ?x182 ?x183 ?x184 ?x185 ?x186
  (case x1 | x2 | x3 | x4 | x5 | x6 | x7 | x8 | x9 | x10 | x11 | x12 | x13 | x14 | x15 | x16 | x17 | x18 | x19 | x20 | x21 | x22 | x23 | x24 | x25 | x26 | x27 | x28 | x29 | x30 | x31 | x32 | x33 | x34 | x35 | x36 | x37 | x38 | x39 | x40 | x41 | x42 | x43 | x44 | x45 | x46 | x47 | x48 | x49 | x50 | x51 | x52 | x53 | x54 | x55 | x56 | x57 | x58 | x59 | x60 | x61 | x62 | x63 | x64 | x65 | x66 | x67 | x68 | x69 | x70 | x71 | x72 | x73 | x74 | x75 | x76 | x77 | x78 | x79 | x80 | x81 | x82 | x83 | x84 | x85 | x86 | x87 | x88 | x89 | x90 | x91 | x92 | x93 | x94 | x95 | x96 | x97 | x98 | x99 | x100 | x101 | x102 | x103 | x104 | x105 | x106 | x107 | x108 | x109 | x110 | x111 | x112 | x113 | x114 | x115 | x116 | x117 | x118 | x119 | x120 | x121 | x122 | x123 | x124 | x125 | x126 | x127 | x128 | x129 | x130 | x131 | x132 | x133 | x134 | x135 | x136 | x137 | x139 | x141 | x143 | x145 | x146 | x150 | x152 | x153 | x154 | x155 | x156 | x157 | x158 | x159 | x160 | x161 | x162 | x163 | x164 | x165 | x166 | x167 | x168 | x169 | x170 | x171 | x172 | x173 | x174 | x175 | x176 | x177 | x178 | x182 | x185 | x186=>k_is)
  (case x138 | x140 | x142 | x144 | x151=>exact ⟨_,rfl⟩)
  (case x147=>rfl)
  (case x148=>decide +kernel)
  (case x149=>repeat (first | exact .nil | refine .cons ⟨_,rfl⟩ ?_))
  (case x179=>first | kernel_rfl | decide +kernel)
  (case x180=>kts_exm)
  (case x181 | x183 | x184=>kit_is)
