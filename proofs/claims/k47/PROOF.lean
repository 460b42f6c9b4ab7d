import PyProof.Rows.All
import Wide.All
import OpenK.AllK
import Wide.FinOn
import Lean
import PyProof.EqAt
import PyProof.EqKinds
import PyProof.TupleCall
import PySem.Challenge.RW_outweave_k47_folds_refused
set_option Elab.async false
set_option linter.all false
set_option maxRecDepth 100000
set_option maxHeartbeats 4000000
section
open PySem PyProof.Rows
abbrev za:=@wpAny_bind
abbrev zb:=@wpAny_pure
abbrev zc:=@List.map_cons
abbrev zd:=@List.mem_cons
abbrev ze:=@Nat.le_refl
abbrev zf:=@Heap.lt_size
abbrev zg:=@Bool.false_ne_true
abbrev zh:=@List.length_map
abbrev zj:=@decide_eq_false
abbrev zk:=@List.getElem?_eq_some_iff
abbrev zl:=@List.getElem?_set_ne
abbrev zm:=@Bool.and_eq_true
abbrev zn:=@Heap.get?_push_of_some
abbrev zo:=@decide_eq_true
abbrev zp:=@List.size_toArray
abbrev zq:=@List.getElem?_eq_getElem
abbrev zr:=@List.mem_singleton
abbrev zt:=@Nat.ne_of_lt
abbrev zu:=@List.mem_cons_self
abbrev zv:=@List.mem_cons_of_mem
abbrev zw:=@Heap.get?_push_size
abbrev zx:=@List.getElem?_map
abbrev zy:=@List.length_cons
abbrev zz:=@List.getElem?_append_left
abbrev zA:=@List.length_append
abbrev zB:=@Nat.lt_of_lt_of_le
abbrev zC:=@Nat.le_trans
abbrev zD:=@List.mem_append
abbrev zE:=@Option.some.inj
abbrev zF:=@List.getElem?_set_self
abbrev zG:=@wpAny_mono
abbrev zH:=@wpAny_holding
abbrev zI:=@List.getElem?_cons_zero
abbrev zJ:=@List.mem_append_right
abbrev zK:=@List.getElem?_append_right
abbrev zL:=@List.map_append
abbrev zM:=@List.getElem?_cons_succ
abbrev zN:=@Nat.lt_irrefl
abbrev zO:=@List.mem_of_getElem?
abbrev zP:=@List.mem_map
abbrev zQ:=@List.map_nil
abbrev zR:=@List.map_map
abbrev zS:=@List.nil_append
abbrev zT:=@List.append_nil
abbrev zU:=@List.length_set
abbrev zV:=@List.length_nil
abbrev zW:=@Int.emod_nonneg
abbrev zX:=@List.length_singleton
abbrev zY:=@wpAny_rule
abbrev zZ:=@codeAny_builtin
abbrev jc:=@Int.emod_lt_of_pos
abbrev jd:=@List.set_cons_zero
abbrev je:=@wpAny_updateSeq
abbrev jf:=@List.getD_eq_getElem?_getD
abbrev jg:=@Nat.lt_succ_of_lt
abbrev jh:=@List.set_cons_succ
abbrev ji:=@Nat.lt_succ_self
abbrev jj:=@wpAny_call
abbrev jk:=@List.append_assoc
abbrev jl:=@Heap.get?_update_other
abbrev jm:=@wpAny_of_eq
abbrev jn:=@List.map_congr_left
abbrev jo:=@wpAny_letGo
abbrev jp:=@of_decide_eq_true
abbrev jq:=@List.mem_append_left
abbrev jr:=@List.getElem_mem
abbrev js:=@List.nodup_append
abbrev jt:=@Nat.le_add_right
abbrev ju:=@List.all_eq_true
end
namespace PySem.W.Fast
abbrev tw12411466123919739408:=()
abbrev tw5788224285091458754:=()
abbrev tw6576583749571267341:=()
abbrev tw924069246991973601:=()
abbrev tw6306895346601812326:=()
abbrev tw6587083081498384743:=()
abbrev tw4862456566992859702:=()
abbrev tw12356523436148937605:=()
abbrev tw152807053812365294:=()
abbrev tw4792534031799107055:=()
abbrev tw4547825878491249866:=()
abbrev tw18426865131416414679:=()
abbrev tw9728731487416952555:=()
abbrev tw6161726999403153158:=()
abbrev tw7853413865136502485:=()
abbrev tw16656616911647250923:=()
abbrev tw9512822199332716693:=()
abbrev tw6459822256402810928:=()
abbrev tw316971828425794697:=()
abbrev tw12925940370457847517:=()
abbrev tw16641899090808422689:=()
abbrev tw4765415516434172444:=()
abbrev tw5440462421749356287:=()
abbrev tw12350388663532571669:=()
abbrev tw14638491972420298987:=()
abbrev tw5360742455086806253:=()
abbrev tw11779939022742998274:=()
abbrev tw5710173474310319078:=()
abbrev tw4016039305005166994:=()
abbrev tw3317932183643230932:=()
abbrev tw11976346984389350959:=()
abbrev tw6504875864492363386:=()
abbrev tw10795839084672318891:=()
abbrev tw15897658779070257162:=()
abbrev tw16486621726405566064:=()
abbrev tw4617666821597764889:=()
abbrev tw11032155244494284280:=()
abbrev tw17694788026113823928:=()
end PySem.W.Fast
namespace L2
open PySem PySem.Spec PyProof.Rows
abbrev Key:=Sum Int Str
def Qiz:Key→Value→Bool
 | .inl k,v=>Value.isInt k v
 | .inr x,v=>Value.isStrOf x v
def Qym (w:World):Key→Int
 | .inl k=>hashInt k
 | .inr x=>hashStr w x
theorem QbV:∀{k:Key}{v:Value},Qiz k v=true→(∃i t,k=Sum.inl i∧v=Value.int i t)∨(∃x t,k=Sum.inr x∧v=Value.str x t)
 | .inl i,v,h=>by
  obtain ⟨t,e⟩:=Value.isInt_shape (k:=i) (v:=v) h;exact .inl ⟨i,t,rfl,e⟩
 | .inr x,v,h=>by
  obtain ⟨t,e⟩:=Value.isStrOf_shape (x:=x) (v:=v) h;exact .inr ⟨x,t,rfl,e⟩
theorem QqA (i:Int) (t:Tok):Qiz (.inl i) (.int i t)=true:=by simp [Qiz,Value.isInt]
theorem QqV (x:Str) (t:Tok):Qiz (.inr x) (.str x t)=true:=by simp [Qiz,Value.isStrOf]
theorem QwG (a b:Int):decide ((Sum.inl a:Key)=Sum.inl b)=(a == b):=by
 by_cases e:a=b
 ·subst e; simp
 ·have h:¬(Sum.inl a:Key)=Sum.inl b:=fun q=>e (Sum.inl.inj q)
  rw [zj h];exact (beq_eq_false_iff_ne.mpr e).symm
theorem Qwq (a b:Str):decide ((Sum.inr a:Key)=Sum.inr b)=decide (a=b):=by
 by_cases e:a=b
 ·subst e; simp
 ·have h:¬(Sum.inr a:Key)=Sum.inr b:=fun q=>e (Sum.inr.inj q)
  rw [zj h,zj e]
theorem QuV (a:Int) (b:Str):decide ((Sum.inl a:Key)=Sum.inr b)=false:=zj (fun q=>nomatch q)
theorem Qwk (a:Str) (b:Int):decide ((Sum.inr a:Key)=Sum.inl b)=false:=zj (fun q=>nomatch q)
def QbS (prog:Program) (w:World):PySem.KeyKind prog w Key where
 is:=Qiz
 hash:=Qym w
 inj:=fun v a b ha hb=>by
  rcases QbV ha with ⟨i,t,rfl,rfl⟩ | ⟨x,t,rfl,rfl⟩
  ·rcases QbV hb with ⟨j,u,rfl,e⟩ | ⟨y,u,rfl,e⟩
   ·injection e with e1 _; rw [e1]
   ·exact nomatch e
  ·rcases QbV hb with ⟨j,u,rfl,e⟩ | ⟨y,u,rfl,e⟩
   ·exact nomatch e
   ·injection e with e1 _; rw [e1]
 byValue:=fun k v h=>by
  rcases QbV h with ⟨i,t,rfl,rfl⟩ | ⟨x,t,rfl,rfl⟩ <;> rfl
 pyHash:=fun hv h=>by
  rcases QbV hv with ⟨i,t,rfl,rfl⟩ | ⟨x,t,rfl,rfl⟩
  ·exact wpAny_pyHash_int h
  ·exact wpAny_pyHash_str h
 eqBool:=fun hu hv h=>by
  rcases QbV hu with ⟨i,t,rfl,rfl⟩ | ⟨x,t,rfl,rfl⟩
  ·rcases QbV hv with ⟨j,u,rfl,rfl⟩ | ⟨y,u,rfl,rfl⟩
   ·rw [QwG] at h; exact wpAny_eqBool_int h
   ·rw [QuV] at h; exact SeqAt.EqAt.int_str i t y u _ _ _ _ h
  ·rcases QbV hv with ⟨j,u,rfl,rfl⟩ | ⟨y,u,rfl,rfl⟩
   ·rw [Qwk] at h; exact SeqAt.EqAt.str_int x t j u _ _ _ _ h
   ·rw [Qwq] at h; exact wpAny_eqBool_str h
 «strs»:=fun k x t v h=>by
  rcases QbV h with ⟨i,u,rfl,e⟩ | ⟨y,u,rfl,e⟩
  ·exact nomatch e
  ·injection e with e1 _
   subst e1
   cases v <;> rfl
theorem Qnk (prog:Program) (w:World) (i:Int) (t:Tok):(QbS prog w).is (.inl i) (.int i t)=true:=QqA i t
theorem Qnl (prog:Program) (w:World) (x:Str) (t:Tok):(QbS prog w).is (.inr x) (.str x t)=true:=QqV x t
inductive V where
 | non | bl (b:Bool) | int (i:Int) | str (x:Str) | byt (b:Array UInt8) | flt (b:UInt64) | ref (a:Addr) | ty (n:String)
 deriving DecidableEq
def RelV:V→Value→Prop
 | .non,u=>u=Value.none
 | .bl b,u=>u=Value.bool b
 | .int i,u=>∃t,u=Value.int i t
 | .str x,u=>∃t,u=Value.str x t
 | .byt b,u=>∃t,u=Value.bytes b t
 | .flt b,u=>∃t,u=Value.float b t
 | .ref a,u=>u=Value.ref a
 | .ty n,u=>u=Value.type n
abbrev Qay:List V→List Value→Prop:=Paired RelV
theorem Qay.length {xs:List V}{us:List Value} (r:Qay xs us):xs.length=us.length:=Paired.length r
theorem Qay.get:∀{xs:List V}{us:List Value}{i:Nat}{x:V},Qay xs us→xs[i]? = some x→∃u,us[i]? = some u∧RelV x u
 | _,_,_,_,.nil,e=>by simp at e
 | _,_,0,_,.cons r _,e=>by simp at e; subst e; exact ⟨_,rfl,r⟩
 | _,_,i+1,x,.cons _ t,e=>by
  obtain ⟨u,h1,h2⟩:=Qay.get (i:=i) (x:=x) t (by simpa using e);exact ⟨u,by simpa using h1,h2⟩
theorem Qay.set {x:V}{u:Value} (r:RelV x u):∀{xs:List V}{us:List Value} (i:Nat),Qay xs us→Qay (xs.set i x) (us.set i u)
 | _,_,_,.nil=>.nil
 | _,_,0,.cons _ t=>.cons r t
 | _,_,i+1,.cons q t=>.cons q (Qay.set r i t)
theorem Qay.append:∀{xs ys:List V}{us ws:List Value},Qay xs us→Qay ys ws→Qay (xs++ys) (us++ws)
 | _,_,_,_,.nil,s=>s
 | _,_,_,_,.cons r t,s=>.cons r (Qay.append t s)
theorem Qay.take:∀{xs:List V}{us:List Value} (n:Nat),Qay xs us→Qay (xs.take n) (us.take n)
 | _,_,0,_=>.nil
 | _,_,_+1,.nil=>.nil
 | _,_,n+1,.cons r t=>.cons r (Qay.take n t)
theorem Qay.drop:∀{xs:List V}{us:List Value} (n:Nat),Qay xs us→Qay (xs.drop n) (us.drop n)
 | _,_,0,r=>r
 | _,_,_+1,.nil=>.nil
 | _,_,n+1,.cons _ t=>Qay.drop n t
theorem Qay.none_of:∀{xs:List V}{us:List Value}{i:Nat},Qay xs us→xs[i]? = none→us[i]? = none:=fun {xs us i} r e=>by
 have h1:=r.length;have h2:xs.length≤i:=List.getElem?_eq_none_iff.mp e;exact List.getElem?_eq_none_iff.mpr (by omega)
def Qc2:Option V→Option Value→Prop
 | some v,some u=>RelV v u
 | none,none=>True
 | _,_=>False
def KV {κ:Type}:List (κ×V)→List (κ×Value)→Prop:=Paired fun (p:κ×V) (q:κ×Value)=>p.1=q.1∧RelV p.2 q.2
def kV:Key→V
 | .inl i=>.int i
 | .inr x=>.str x
inductive HO where
  | lst (xs:List V)
  | tup (xs:List V)
  | dK (kvs:List (Key×V)) | dT (kvs:List (List Key×V))
  | set (S:Int→Bool) (n:Nat)
  | ins (C dx:Addr) (fs:List (Str×V))
  | own (x:Addr)
  | xd (fs:List (Str×V))
  | met (f x:Addr)
  | rng (lo hi:Int)
  | frz (o:Obj) (u:HO)
  | tbl (ps:Array Value)
  | ext (φ:Heap→Prop)
abbrev Hp:=Addr→Option HO
def upd (H:Hp) (a:Addr) (o:HO):Hp:=fun b=>if b=a then some o else H b
theorem QaE {H:Hp}{a:Addr}{o:HO}:upd H a o a=some o:=by unfold upd; rw [if_pos rfl]
theorem Qaq {H:Hp}{a b:Addr}{o:HO} (h:b≠a):upd H a o b=H b:=by unfold upd; rw [if_neg h]
theorem ne_of {H:Hp}{a b:Addr}{o u:HO} (h:H a=some o) (h':H b=some u) (d:o≠u):a≠b:=by
 intro e; subst e; rw [h] at h'; exact d (zE h')
theorem QaC {H:Hp}{a b:Addr}{o:HO} (h:H a=some o) (h':H b=none):a≠b:=by
 intro e; subst e; rw [h] at h'; cases h'
section
variable (P:Program) (w:World)
def Qbc (H:Hp) (h:Heap) (a:Addr):HO→Prop
 | .lst xs=>xs.length≤sizeLine∧∃(its:List Value) (n:Nat),Qay xs its∧h.get? a=some { cls:=.type "list",data:=.seq its.toArray n }
 | .tup xs=>xs.length≤sizeLine∧∃its:List Value,Qay xs its∧IsTup h a its.toArray
 | .dK kvs=>kvs.length≤sizeLine∧(a == sysModules)=false∧∃vs,KV kvs vs∧h.DictOf (QbS P w) a vs
 | .dT kvs=>kvs.length≤sizeLine∧(a == sysModules)=false∧∃xs:List (List Key×Addr×Value),
   Paired (fun (p:List Key×V) (q:List Key×Addr×Value)=>p.1=q.1∧H q.2.1=some (.tup (p.1.map kV))∧RelV p.2 q.2.2) kvs xs ∧
   ∃o es ep,h.get? a=some o∧o.ExactDict∧o.data = .dict es ep∧es.toList=xs.map (entryOfKey (tupleKind (QbS P w)))∧(xs.map (·.1)).Nodup
 | .set S n=>h.SetOf (intKind P w) a S n
 | .ins C dx fs=>H dx=some (.own a)∧fs.length≤1000∧dx≠a∧h.get? a=some (PySem.W.instObj C dx) ∧
   ∃mA,h.Ns1 dx mA∧(∀f,Qc2 (fs.lookup f) (mA f))∧PySem.Within mA (fs.map (·.1))
 | .own _=>∃o,h.get? a=some o
 | .xd fs=>∃mA,h.Ns1 a mA∧∀f,Qc2 (fs.lookup f) (mA f)
 | .rng lo hi=>∃t u v,h.get? a=some { cls:=.type "range",data:=.fields #[.int lo t,.int hi u,.int 1 v] }
 | .frz o u=>h.get? a=some o∧Qbc H h a u
 | .tbl ps=>h.get? a=some { cls:=.none,data:=.fields ps }
 | .met f x=>h.get? a=some (PySem.W.methodObj (.ref f) (.ref x))
 | .ext φ=>φ h∧(∃o,h.get? a=some o)∧∀h1 h2:Heap,φ h1→(∀o,h1.get? a=some o→h2.get? a=some o)→φ h2
def HOk (H:Hp) (h:Heap):Prop:=∀a o,H a=some o→Qbc P w H h a o
end
section
variable {P:Program}{w:World}{H H':Hp}{h h':Heap}{a:Addr}{o:HO}
theorem Qbc.lt (x:Qbc P w H h a o):a < h.objs.size:=by
 cases o with
 | lst xs=>obtain ⟨_,_,_,_,e⟩:=x; exact zf e
 | tup xs=>obtain ⟨_,_,_,p⟩:=x; exact p.lt
 | dK kvs=>obtain ⟨_,_,_,_,o,_,_,e,_⟩:=x; exact zf e
 | dT kvs=>obtain ⟨_,_,_,_,o,_,_,e,_⟩:=x; exact zf e
 | set S n=>obtain ⟨o,_,_,_,e,_⟩:=x; exact zf e
 | ins C dx fs=>obtain ⟨_,_,_,e,_⟩:=x; exact zf e
 | own y=>obtain ⟨_,e⟩:=x; exact zf e
 | xd fs=>obtain ⟨_,⟨_,_,_,e,_⟩,_⟩:=x; exact zf e
 | rng lo hi=>obtain ⟨_,_,_,e⟩:=x; exact zf e
 | frz ob u=>obtain ⟨e,_⟩:=x; exact zf e
 | tbl ps=>exact zf (show h.get? a=some _ from x)
 | met f y=>exact zf (show h.get? a=some _ from x)
 | ext φ=>obtain ⟨_,⟨_,e⟩,_⟩:=x; exact zf e
theorem Paired.mapP {α β:Type}{F G:α→β→Prop}:∀{l₁:List α}{l₂:List β},Paired F l₁ l₂→(∀a b,F a b→G a b)→Paired G l₁ l₂
 | _,_,.nil,_=>.nil
 | _,_,.cons r t,f=>.cons (f _ _ r) (Paired.mapP t f)
theorem Qbc.stay (x:Qbc P w H h a o) (k:∀b u,(b=a∨H b=some (.own a))→h.get? b=some u→h'.get? b=some u)
  (ho:∀b,H b=some (.own a)→H' b=some (.own a)) (ht:∀b xs,H b=some (.tup xs)→H' b=some (.tup xs)):Qbc P w H' h' a o:=by
 induction o with
 | lst xs=>obtain ⟨z,its,n,r,e⟩:=x; exact ⟨z,its,n,r,k _ _ (.inl rfl) e⟩
 | tup xs=>obtain ⟨z,its,r,ob,e,c⟩:=x; exact ⟨z,its,r,ob,k _ _ (.inl rfl) e,c⟩
 | dK kvs=>obtain ⟨z,y,vs,r,ob,es,ep,e,c⟩:=x; exact ⟨z,y,vs,r,ob,es,ep,k _ _ (.inl rfl) e,c⟩
 | dT kvs =>
  obtain ⟨z,y,xs,r,ob,es,ep,e,c⟩:=x;exact ⟨z,y,xs,Paired.mapP r fun p q z=>⟨z.1,ht _ _ z.2.1,z.2.2⟩,ob,es,ep,k _ _ (.inl rfl) e,c⟩
 | set S n=>obtain ⟨ob,es,ep,t,e,c⟩:=x; exact ⟨ob,es,ep,t,k _ _ (.inl rfl) e,c⟩
 | ins C dx fs =>
  obtain ⟨d,z,ne,e,mA,⟨od,es,ep,e2,c⟩,r⟩:=x;exact ⟨ho _ d,z,ne,k _ _ (.inl rfl) e,mA,⟨od,es,ep,k _ _ (.inr d) e2,c⟩,r⟩
 | own y=>obtain ⟨ob,e⟩:=x; exact ⟨ob,k _ _ (.inl rfl) e⟩
 | xd fs=>obtain ⟨mA,⟨od,es,ep,e,c⟩,r⟩:=x; exact ⟨mA,⟨od,es,ep,k _ _ (.inl rfl) e,c⟩,r⟩
 | rng lo hi=>obtain ⟨t,u,v,e⟩:=x; exact ⟨t,u,v,k _ _ (.inl rfl) e⟩
 | frz ob u ih=>obtain ⟨e,q⟩:=x; exact ⟨k _ _ (.inl rfl) e,ih q⟩
 | tbl ps =>
  have e:h.get? a=some { cls:=.none,data:=.fields ps }:=x;show h'.get? a=some { cls:=.none,data:=.fields ps };exact k a _ (.inl rfl) e
 | met f y =>
  have e:h.get? a=some (PySem.W.methodObj (.ref f) (.ref y)):=x;show h'.get? a=some (PySem.W.methodObj (.ref f) (.ref y));exact k a _ (.inl rfl) e
 | ext φ=>obtain ⟨p,⟨o,e⟩,st⟩:=x; exact ⟨st _ _ p fun o q=>k _ _ (.inl rfl) q,⟨o,k _ _ (.inl rfl) e⟩,st⟩
theorem HOk.lt (x:HOk P w H h) (e:H a=some o):a < h.objs.size:=(x a o e).lt
theorem HOk.fresh (x:HOk P w H h) (e:h.objs.size≤a):H a=none:=by
 cases q:H a with
 | none=>rfl
 | some u=>exact absurd (zB (x.lt q) e) (zN _)
theorem HOk.kept (x:HOk P w H h) (k:∀b u,h.get? b=some u→h'.get? b=some u):HOk P w H h':=fun a o e =>
 (x a o e).stay (fun b u _ q=>k b u q) (fun _ q=>q) fun _ _ q=>q
theorem HOk.laid (x:HOk P w H h) (k:∀b u,h.get? b=some u→h'.get? b=some u) (hp:h.objs.size≤a) (new:Qbc P w (upd H a o) h' a o):HOk P w (upd H a o) h':=fun b u e=>by
 have hn:=x.fresh hp
 by_cases hb:b=a
 ·subst hb; rw [QaE] at e; cases e; exact new
 ·rw [Qaq hb] at e
  exact (x b u e).stay (fun c v _ q=>k c v q) (fun c q=>by rw [Qaq (QaC q hn)]; exact q) fun c xs q=>by rw [Qaq (QaC q hn)]; exact q
end
def Rd (H:Hp) (a:Addr) (u:HO):Prop:=H a=some u∨∃o,H a=some (.frz o u)
theorem Rd.of {H:Hp}{a:Addr}{u:HO} (h:H a=some u):Rd H a u:=.inl h
theorem Rd.ok {P:Program}{w:World}{H:Hp}{h:Heap}{a:Addr}{u:HO} (r:Rd H a u) (x:HOk P w H h):Qbc P w H h a u:=by
 rcases r with r | ⟨o,r⟩
 ·exact x a u r
 ·obtain ⟨_,q⟩:=x a _ r;exact q
def Mut:Option HO→Prop
 | some (.lst _)=>True
 | some (.dK _)=>True
 | some (.dT _)=>True
 | some (.set _ _)=>True
 | some (.ins _ _ _)=>True
 | some (.ext _)=>True
 | _=>False
section
variable {P:Program}{w:World}{H:Hp}{h h':Heap}{x e:Addr}{o':HO}
theorem HOk.write (ok:HOk P w H h) (mu:Mut (H x)) (he:e=x∨H e=some (.own x)) (k:∀b u,b≠e→h.get? b=some u→h'.get? b=some u) (heo:∃u,h'.get? e=some u)
  (new:Qbc P w (upd H x o') h' x o'):HOk P w (upd H x o') h':=fun b u q=>by
 have nown:∀c y,H c=some (.own y)→c≠x:=fun c y r z=>by subst z; rw [r] at mu; exact mu
 have ntup:∀c xs,H c=some (.tup xs)→c≠x:=fun c xs r z=>by subst z; rw [r] at mu; exact mu
 by_cases hb:b=x
 ·subst hb; rw [QaE] at q; cases q; exact new
 ·rw [Qaq hb] at q
  by_cases hbe:b=e
  ·have q':H b=some (.own x):=by
    rcases he with z | z
    ·exact absurd (hbe.trans z) hb
    ·rw [hbe]; exact z
   rw [q] at q'; cases q';obtain ⟨v,hv⟩:=heo;exact ⟨v,by rw [hbe]; exact hv⟩
  ·refine (ok b u q).stay (fun c v hc r=>k c v ?_ r) (fun c r=>by rw [Qaq (nown c b r)]; exact r) fun c xs r=>by rw [Qaq (ntup c xs r)]; exact r
   rcases hc with rfl | hc
   ·exact hbe
   ·rintro rfl
    rcases he with z | z
    ·exact nown c b hc z
    ·rw [hc] at z; cases z; exact hb rfl
end
structure Un (fs ex:List Addr) (H H':Hp) (h h':Heap):Prop where
 keep:∀b o,h.get? b=some o→H b=none→b∉fs→b∉ex→h'.get? b=some o
 slot:∀b o,h.get? b=some o→H b=none→b∈fs→b∉ex→∃sl,h'.get? b=some { o with slots:=sl }
 free:∀b o,h.get? b=some o→H b=none→b∉ex→H' b=none
 there:∀b o,h.get? b=some o→b∉ex→∃o',h'.get? b=some o'
 tups:∀b xs,H b=some (.tup xs)→H' b=some (.tup xs)
 frzs:∀b o u,H b=some (.frz o u)→H' b=some (.frz o u)
 tbls:∀b ps,H b=some (.tbl ps)→∃more,H' b=some (.tbl (ps++more))
section
variable {fs fs' ex ex':List Addr}{H H1 H2:Hp}{h h1 h2 h':Heap}{a x e:Addr}{o:HO}
theorem Un.any (u:Un fs ex H H1 h h1) {b:Addr}{ob:Obj} (q:h.get? b=some ob) (n:H b=none) (hx:b∉ex):∃sl,h1.get? b=some { ob with slots:=sl }:=by
 by_cases hb:b∈fs
 ·exact u.slot b ob q n hb hx
 ·exact ⟨ob.slots,u.keep b ob q n hb hx⟩
theorem Un.trans (a:Un fs ex H H1 h h1) (b:Un fs ex H1 H2 h1 h2):Un fs ex H H2 h h2 where
 keep:=fun c ob q n hc hx=>b.keep c ob (a.keep c ob q n hc hx) (a.free c ob q n hx) hc hx
 slot:=fun c ob q n hc hx=>by
  obtain ⟨sl,e1⟩:=a.slot c ob q n hc hx;obtain ⟨sl',e2⟩:=b.slot c _ e1 (a.free c ob q n hx) hc hx;exact ⟨sl',e2⟩
 free:=fun c ob q n hx=>by
  obtain ⟨o',e1⟩:=a.there c ob q hx;exact b.free c o' e1 (a.free c ob q n hx) hx
 there:=fun c ob q hx=>by
  obtain ⟨o',e1⟩:=a.there c ob q hx;exact b.there c o' e1 hx
 tups:=fun c xs q=>b.tups c xs (a.tups c xs q)
 frzs:=fun c ob xs q=>b.frzs c ob xs (a.frzs c ob xs q)
 tbls:=fun c ps q=>by
  obtain ⟨m1,e1⟩:=a.tbls c ps q;obtain ⟨m2,e2⟩:=b.tbls c _ e1;exact ⟨m1++m2,by rw [e2,Array.append_assoc]⟩
theorem Un.kept (k:∀b u,h.get? b=some u→h'.get? b=some u):Un fs ex H H h h' :=
 ⟨fun b ob q _ _ _=>k b ob q,fun b ob q _ _ _=>⟨ob.slots,k b ob q⟩,fun _ _ _ n _=>n,fun b ob q _=>⟨ob,k b ob q⟩,fun _ _ q=>q,fun _ _ _ q=>q,fun _ ps q=>⟨#[],by rw [q]; simp⟩⟩
theorem Un.refl:Un fs ex H H h h:=Un.kept fun _ _ q=>q
theorem Un.laid (k:∀b u,h.get? b=some u→h'.get? b=some u) (hp:h.objs.size≤a) (hn:H a=none):Un fs ex H (upd H a o) h h' where
 keep:=fun b u q _ _ _=>k b u q
 slot:=fun b u q _ _ _=>⟨u.slots,k b u q⟩
 free:=fun b u q n _=>by rw [Qaq (zt (zB (zf q) hp))]; exact n
 there:=fun b u q _=>⟨u,k b u q⟩
 tups:=fun b xs q=>by rw [Qaq (QaC q hn)]; exact q
 frzs:=fun b u xs q=>by rw [Qaq (QaC q hn)]; exact q
 tbls:=fun b ps q=>⟨#[],by rw [Qaq (QaC q hn),q]; simp⟩
theorem Un.write (mu:Mut (H x)) (he:e=x∨H e=some (.own x)) (k:∀b u,b≠e→h.get? b=some u→h'.get? b=some u) (heo:∃u,h'.get? e=some u):Un fs ex H (upd H x o) h h':=by
 have hx:∀b,H b=none→b≠x:=fun b n z=>by subst z; rw [n] at mu; exact mu
 have hb:∀b,H b=none→b≠e:=fun b n z=>by
  subst z
  rcases he with r | r
  ·exact hx b n r
  ·rw [n] at r; cases r
 have hm:∀b u,H b=some u→¬Mut (some u)→b≠x:=fun b u q nm z=>by subst z; rw [q] at mu; exact nm mu
 refine ⟨fun b u q n _ _=>k b u (hb b n) q,fun b u q n _ _=>⟨u.slots,k b u (hb b n) q⟩,fun b u q n _=>by rw [Qaq (hx b n)]; exact n,fun b u q _=>?_,
  fun b xs q=>by rw [Qaq (hm b _ q fun z=>z)]; exact q,fun b u xs q=>by rw [Qaq (hm b _ q fun z=>z)]; exact q,fun b ps q=>⟨#[],by rw [Qaq (hm b _ q fun z=>z),q]; simp⟩⟩
 by_cases hbe:b=e
 ·subst hbe; exact heo
 ·exact ⟨u,k b u hbe q⟩
theorem Un.mono (u:Un fs ex H H1 h h1) (hs:∀b∈fs,b∈fs') (hx:∀b∈ex,b∈ex'):Un fs' ex' H H1 h h1 :=
 ⟨fun b ob q n hb he=>u.keep b ob q n (fun z=>hb (hs b z)) fun z=>he (hx b z),fun _ _ q n _ he=>u.any q n fun z=>he (hx _ z),fun b ob q n he=>u.free b ob q n fun z=>he (hx b z),fun b ob q he=>u.there b ob q fun z=>he (hx b z),u.tups,u.frzs,u.tbls⟩
end
def trk (h:Heap) (H:Hp):List Addr:=(List.range h.objs.size).filter fun a=>(H a).isSome
def Qec (h:Heap) (H:Hp):Heap:=PySem.W.hideAll h (trk h H)
theorem Qlb (h:Heap) (H:Hp):(Qec h H).objs.size=h.objs.size:=PySem.W.hideAll_size _ _
theorem QlC {h:Heap}{H:Hp}{b:Addr}{o:Obj} (e:h.get? b=some o) (n:H b=none):(Qec h H).get? b=some o :=
 PySem.W.hideAll_get _ e fun hm=>by
  have q:(H b).isSome=true:=(List.mem_filter.mp hm).2;rw [n] at q; simp at q
theorem Qn1 {h:Heap}{H:Hp}{b:Addr}{o:Obj} (e:(Qec h H).get? b=some o):h.get? b=some o∧H b=none:=by
 have e':h.get? b=some o:=PySem.W.of_hideAll (trk h H) e;refine ⟨e',?_⟩
 cases q:H b with
 | none=>rfl
 | some x =>
  have hm:b∈trk h H:=List.mem_filter.mpr ⟨List.mem_range.mpr (zf e'),by simp [q]⟩;have z:(Qec h H).get? b=none:=PySem.W.hideAll_none (trk h H) hm;rw [z] at e; cases e
def QuF (g h:Heap) (L:Addr):List (Addr×Obj):=(List.range h.objs.size).filterMap fun a=>if a=L∨(g.get? a).isSome=true then none else (h.get? a).map fun o=>(a,o)
def rest (g h:Heap) (L d:Addr):List (Addr×Obj):=(QuF g h L).filter fun p=>decide (p.1≠d)
structure Mod (K:PySem.W.Frag) (mg:Str→Option Value) (base:Heap):Prop where
 kin:K.In base
 glob:base.Ns mainGlobals mg
 blt:∃mb,base.Ns builtinsNs mb∧∀x:Str,x≠"__name__"→mb x=bootBuiltins x
 nolimit:base.NoLimit
structure Cx where
 prog:Program
 w:World
 K:PySem.W.Frag
 mg:Str→Option Value
 base:Heap
 A:Around
 N:List Str
 s₀:Shared
 H₀:Hp
 env:Env
 outer:List Env
 stack:List Env
 ex:List Addr
 fn:Str→Bool
 calm:Bool
 pn:List (Addr×Obj)
 xe:Value→Shared→Prop
def frs (l:List Env):List Addr:=l.filterMap (·.frame)
abbrev Cx.fs (X:Cx):List Addr:=frs X.outer
def Vis (sc:Scope) (x:Str):Prop:=sc.names.lookup x=some .local∨sc.names.lookup x=some .cell∨sc.names.lookup x=some .free
def Loc (sc:Scope) (x:Str):Prop:=sc.names.lookup x=some .local∨sc.names.lookup x=some .cell
def Look (env:Env) (h:Heap) (m:Str→Option Value) (x:Str) (u:Value):Prop :=
 (env.kindOf x=some .local∧m x=some u)∨((env.kindOf x=some .cell∨env.kindOf x=some .free)∧∃c,env.cells.lookup x=some c∧h.IsCell c (some u))
structure Cx.Ok (X:Cx):Prop where
 mod:Mod X.K X.mg X.base
 kind:X.env.scope.kind = .function
 glob:X.env.globals=mainGlobals
 blt:X.env.builtins=builtinsNs
 above:X.s₀.heap.objs.size≤X.env.locals
 inj:∀x y c,X.env.cells.lookup x=some c→X.env.cells.lookup y=some c→x=y
 has:∀x,(X.env.kindOf x=some .cell∨X.env.kindOf x=some .free)→∃c,X.env.cells.lookup x=some c
 cab:∀x c,X.fn x=true→X.env.cells.lookup x=some c→X.s₀.heap.objs.size≤c
 hd:X.calm=true→X.A.handled=none
 frames:X.A.frames=some X.stack
 stk:X.stack=X.outer∨(X.stack=X.env::X.outer∧X.env.frame=some X.env.locals)
 exf:∀b∈X.ex,b≠X.env.locals∧∀x c,X.env.cells.lookup x=some c→c≠b
 bs:∀b o,X.base.get? b=some o→X.s₀.heap.get? b=some o∧X.H₀ b=none
 bsz:X.base.objs.size≤X.s₀.heap.objs.size
 noex:∀b o,X.base.get? b=some o→b∉X.ex
 exfs:∀b∈X.ex,b∉X.fs
 funs:X.s₀.heap.FunFrames X.base X.outer
 frf:∀b∈X.fs,X.H₀ b=none
structure Inv (X:Cx) (pins:List (Addr×Obj)) (σ:List (Option V)) (H:Hp) (s:Shared):Prop where
 ok:X.Ok
 os:s.os=X.s₀.os
 bare:AllBare s.gens
 base:Un X.fs X.ex X.H₀ H X.s₀.heap s.heap
 loc:∃m,s.heap.Ns X.env.locals m∧∀(i:Nat) (x:Str) (v:V),X.N[i]? = some x→σ[i]? = some (some v)→Vis X.env.scope x→∃u,RelV v u∧Look X.env s.heap m x u
 cell:∀x c,X.env.cells.lookup x=some c→∃v,s.heap.IsCell c v
 free:H X.env.locals=none
 freeC:∀x c,X.env.cells.lookup x=some c→H c=none
 pin:∀p∈X.pn++pins,s.heap.get? p.1=some p.2∧H p.1=none∧p.1≠X.env.locals∧p.1∉X.fs∧∀v,p.2.data≠.cell v
 hok:HOk X.prog X.w H s.heap
 len:σ.length=X.N.length
section
variable {X:Cx}{pins:List (Addr×Obj)}{σ:List (Option V)}{H H':Hp}{s:Shared}{h':Heap}
theorem Cx.Ok.nofr (ok:X.Ok) {b:Addr}{o:Obj} (e:X.base.get? b=some o):b∉X.fs:=fun hb=>by
 have:=(ok.funs.mem hb).1
 rw [e] at this; cases this
theorem Inv.bs (I:Inv X pins σ H s):∀b o,X.base.get? b=some o→s.heap.get? b=some o∧H b=none:=fun b o e =>
 ⟨I.base.keep b o (I.ok.bs b o e).1 (I.ok.bs b o e).2 (I.ok.nofr e) (I.ok.noex b o e),I.base.free b o (I.ok.bs b o e).1 (I.ok.bs b o e).2 (I.ok.noex b o e)⟩
theorem Inv.bk (I:Inv X pins σ H s):∀b o,X.base.get? b=some o→s.heap.get? b=some o:=fun b o e=>(I.bs b o e).1
theorem Inv.mod (I:Inv X pins σ H s):Mod X.K X.mg X.base:=I.ok.mod
theorem Inv.kIn (I:Inv X pins σ H s):X.K.In s.heap:=I.ok.mod.kin.keeps I.bk
theorem Inv.nolimit (I:Inv X pins σ H s):s.heap.NoLimit:=I.ok.mod.nolimit.keeps I.bk
theorem Inv.fr (I:Inv X pins σ H s):∃m,Fr X.base X.env.locals s.heap m :=
 let ⟨m,hn,_⟩:=I.loc
 ⟨m,hn,I.bk,zC I.ok.bsz I.ok.above⟩
theorem Inv.lt (I:Inv X pins σ H s):X.env.locals < s.heap.objs.size:=let ⟨_,hn,_⟩:=I.loc; hn.lt
theorem Inv.sz (I:Inv X pins σ H s):X.s₀.heap.objs.size≤s.heap.objs.size:=zC I.ok.above (Nat.le_of_lt I.lt)
theorem Inv.nofs (I:Inv X pins σ H s) {a:Addr} (h:s.heap.objs.size≤a):a∉X.fs:=fun hb=>by
 obtain ⟨_,o,ho,_⟩:=I.ok.funs.mem hb;exact absurd (zB (zf ho) (zC I.sz h)) (zN _)
theorem Inv.cne (I:Inv X pins σ H s):∀x c,X.env.cells.lookup x=some c→c≠X.env.locals:=fun x c e z=>by
 obtain ⟨v,o,ho,hd⟩:=I.cell x c e;obtain ⟨m,⟨o',es,ep,ho',hd',_⟩,_⟩:=I.loc;rw [z,ho'] at ho; cases ho; rw [hd'] at hd; cases hd
theorem Inv.funs (I:Inv X pins σ H s):s.heap.FunFrames X.base X.outer:=by
 have all:∀(l:List Env),(∀b∈frs l,b∈X.fs)→X.s₀.heap.FunFrames X.base l→s.heap.FunFrames X.base l:=by
  intro l
  induction l with
  | nil=>intro _ _; trivial
  | cons env r ih =>
   intro hs hl;obtain ⟨hk,⟨L,o,hf,hn,ho,hd⟩,hr⟩:=hl;have hL:L∈X.fs:=hs L (by unfold frs; rw [List.filterMap_cons,hf]; exact zu)
   obtain ⟨sl,e⟩:=I.base.slot L o ho (I.ok.frf L hL) hL fun z=>I.ok.exfs L z hL
   exact ⟨hk,⟨L,_,hf,hn,e,hd⟩,ih (fun b hb=>hs b (by unfold frs; rw [List.filterMap_cons,hf]; exact zv _ hb)) hr⟩
 exact all X.outer (fun _ hb=>hb) I.ok.funs
theorem Inv.stack (I:Inv X pins σ H s):s.heap.FunFrames X.base X.stack:=by
 rcases I.ok.stk with e | ⟨e,hf⟩
 ·rw [e]; exact I.funs
 ·rw [e];obtain ⟨m,hn,_⟩:=I.loc;refine .cons (by rw [I.ok.kind]; decide) hf hn ?_ I.funs;exact Heap.get?_none_of_le (zC I.ok.bsz I.ok.above)
theorem Inv.stkSub (I:Inv X pins σ H s):∀b∈frs X.stack,b∈X.env.locals::X.fs:=fun b hb=>by
 rcases I.ok.stk with e | ⟨e,hf⟩
 ·rw [e] at hb; exact zv _ hb
 ·rw [e] at hb;unfold frs at hb;rw [List.filterMap_cons,hf] at hb;exact hb
theorem Inv.stkFree (I:Inv X pins σ H s):∀b∈frs X.stack,H b=none:=fun b hb=>by
 rcases zd.mp (I.stkSub b hb) with e | hb
 ·rw [e]; exact I.free
 ·obtain ⟨_,o,ho,_⟩:=I.ok.funs.mem hb
  exact I.base.free b o ho (I.ok.frf b hb) fun z=>I.ok.exfs b z hb
theorem Inv.step {g':Array GenState}{t':Nat}{d':Drawn}{ch:List Addr} (I:Inv X pins σ H s)
  (hch:∀b∈ch,(b∈X.ex∨X.s₀.heap.objs.size≤b)∧b≠X.env.locals∧(∀x c,X.env.cells.lookup x=some c→c≠b)∧∀p∈X.pn++pins,p.1≠b)
  (keep:∀b o,b≠X.env.locals→b∉X.fs→b∉ch→s.heap.get? b=some o→H b=none→h'.get? b=some o)
  (slot:∀b o,b≠X.env.locals→b∈X.fs→b∉ch→s.heap.get? b=some o→H b=none→∃sl,h'.get? b=some { o with slots:=sl }) (free:∀b o,b∉ch→s.heap.get? b=some o→H b=none→H' b=none)
  (there:∀b o,b∉ch→s.heap.get? b=some o→∃o',h'.get? b=some o')
  (tups:∀b xs,H b=some (.tup xs)→H' b=some (.tup xs)) (frzs:∀b o u,H b=some (.frz o u)→H' b=some (.frz o u)) (tbls:∀b ps,H b=some (.tbl ps)→∃more,H' b=some (.tbl (ps++more)))
  (ns:∀m,s.heap.Ns X.env.locals m→h'.Ns X.env.locals m) (hok:HOk X.prog X.w H' h') (hg:AllBare g') :
  Inv X pins σ H' { s with heap:=h',gens:=g',drawn:=d',toks:=t' }:=by
 have neL:∀b o,X.s₀.heap.get? b=some o→b≠X.env.locals:=fun b o e=>zt (zB (zf e) I.ok.above)
 have neC:∀b o,X.s₀.heap.get? b=some o→b∉X.ex→b∉ch:=fun b o e hx hb=>by
  rcases (hch b hb).1 with z | z
  ·exact hx z
  ·exact absurd (zB (zf e) z) (zN _)
 have cellK:∀x c,X.env.cells.lookup x=some c→∀v,s.heap.IsCell c v→h'.IsCell c v:=fun x c e v ⟨o,ho,hd⟩=>by
  have nch:c∉ch:=fun z=>(hch c z).2.2.1 x c e rfl
  by_cases hc:c∈X.fs
  ·obtain ⟨sl,q⟩:=slot c o (I.cne x c e) hc nch ho (I.freeC x c e);exact ⟨_,q,hd⟩
  ·exact ⟨o,keep c o (I.cne x c e) hc nch ho (I.freeC x c e),hd⟩
 refine ⟨I.ok,I.os,hg,⟨fun b o e n hb hx=>?_,fun b o e n hb hx=>?_,fun b o e n hx=>?_,fun b o e hx=>?_,fun b xs e=>tups b xs (I.base.tups b xs e),fun b o xs e=>frzs b o xs (I.base.frzs b o xs e),fun b ps e=>?_⟩,?_,fun x c e=>?_,?_,fun x c e=>?_,fun p hp=>?_,hok,I.len⟩
 ·exact keep b o (neL b o e) hb (neC b o e hx) (I.base.keep b o e n hb hx) (I.base.free b o e n hx)
 ·obtain ⟨sl,e1⟩:=I.base.slot b o e n hb hx;obtain ⟨sl',e2⟩:=slot b _ (neL b o e) hb (neC b o e hx) e1 (I.base.free b o e n hx);exact ⟨sl',e2⟩
 ·obtain ⟨o',e1⟩:=I.base.there b o e hx;exact free b o' (neC b o e hx) e1 (I.base.free b o e n hx)
 ·obtain ⟨o',e1⟩:=I.base.there b o e hx;exact there b o' (neC b o e hx) e1
 ·obtain ⟨m1,e1⟩:=I.base.tbls b ps e;obtain ⟨m2,e2⟩:=tbls b _ e1;exact ⟨m1++m2,by rw [e2,Array.append_assoc]⟩
 ·obtain ⟨m,hn,hl⟩:=I.loc;refine ⟨m,ns m hn,fun i x v e1 e2 e3=>?_⟩;obtain ⟨u,r,l⟩:=hl i x v e1 e2 e3;refine ⟨u,r,?_⟩
  rcases l with l | ⟨k,c,e,z⟩
  ·exact .inl l
  ·exact .inr ⟨k,c,e,cellK x c e _ z⟩
 ·obtain ⟨v,z⟩:=I.cell x c e;exact ⟨v,cellK x c e v z⟩
 ·obtain ⟨m,⟨o,_,_,ho,_⟩,_⟩:=I.loc;exact free _ o (fun z=>(hch _ z).2.1 rfl) ho I.free
 ·obtain ⟨v,o,ho,hd⟩:=I.cell x c e;exact free c o (fun z=>(hch c z).2.2.1 x c e rfl) ho (I.freeC x c e)
 ·obtain ⟨e,n,ne,nf,d⟩:=I.pin p hp
  have nch:p.1∉ch:=fun z=>(hch p.1 z).2.2.2 p hp rfl
  exact ⟨keep p.1 p.2 ne nf nch e n,free p.1 p.2 nch e n,ne,nf,d⟩
theorem Inv.un {t':Nat} (I:Inv X pins σ H s) (u:Un X.fs [] H H' s.heap h') (hok:HOk X.prog X.w H' h'):Inv X pins σ H' { s with heap:=h',toks:=t' }:=by
 obtain ⟨m,⟨o,es,ep,ho,r⟩,_⟩:=id I.loc;obtain ⟨sl,hL⟩:=u.any ho I.free (by simp)
 exact I.step (g':=s.gens) (d':=s.drawn) (ch:=[]) (fun _ z=>nomatch z) (fun b o _ hb _ e n=>u.keep b o e n hb (by simp)) (fun b o _ hb _ e n=>u.slot b o e n hb (by simp)) (fun b o _ e n=>u.free b o e n (by simp)) (fun b o _ e=>u.there b o e (by simp)) u.tups u.frzs u.tbls (fun m' hm=>by
  obtain ⟨o',es',ep',ho',r'⟩:=hm;rw [ho] at ho'; cases ho'
  exact ⟨_,es',ep',hL,r'⟩) hok I.bare
theorem Inv.call {g':Array GenState}{t':Nat}{d':Drawn}{ch:List Addr} (I:Inv X pins σ H s) (u:Un (frs X.stack) ch H H' s.heap h') (hok:HOk X.prog X.w H' h') (hg:AllBare g')
  (hch:∀b∈ch,(b∈X.ex∨X.s₀.heap.objs.size≤b)∧b≠X.env.locals∧(∀x c,X.env.cells.lookup x=some c→c≠b)∧∀p∈X.pn++pins,p.1≠b) :
  Inv X pins σ H' { s with heap:=h',gens:=g',drawn:=d',toks:=t' }:=by
 obtain ⟨m,⟨o,es,ep,ho,r⟩,_⟩:=id I.loc
 obtain ⟨sl,hL⟩:=u.any ho I.free fun z=>(hch _ z).2.1 rfl
 exact I.step (ch:=ch) hch (fun b o hL hb hc e n=>u.keep b o e n (fun z=>(zd.mp (I.stkSub b z)).elim hL hb) hc) (fun b o _ _ hc e n=>u.any e n hc) (fun b o hc e n=>u.free b o e n hc) (fun b o hc e=>u.there b o e hc) u.tups u.frzs u.tbls (fun m' hm=>by
  obtain ⟨o',es',ep',ho',r'⟩:=hm;rw [ho] at ho'; cases ho'
  exact ⟨_,es',ep',hL,r'⟩) hok hg
theorem Inv.turned {t':Nat}{it:Addr} (I:Inv X pins σ H s) (k:∀b o,b≠it→s.heap.get? b=some o→h'.get? b=some o) (hn:H it=none) (hL:it≠X.env.locals)
  (h1:it∈X.ex∨X.s₀.heap.objs.size≤it) (h2:∀x c,X.env.cells.lookup x=some c→c≠it) (h3:∀p∈X.pn++pins,p.1≠it):Inv X pins σ H { s with heap:=h',toks:=t' }:=by
 have nit:∀b u,H b=some u→b≠it:=fun b u e z=>by rw [z,hn] at e; cases e
 refine I.step (g':=s.gens) (d':=s.drawn) (ch:=[it]) (fun b hb=>?_) (fun b o _ _ hc e _=>k b o (fun z=>hc (by simp [z])) e) (fun b o _ _ hc e _=>⟨o.slots,k b o (fun z=>hc (by simp [z])) e⟩) (fun _ _ _ _ n=>n)
  (fun b o hc e=>⟨o,k b o (fun z=>hc (by simp [z])) e⟩) (fun _ _ e=>e) (fun _ _ _ e=>e) (fun b ps e=>⟨#[],by rw [e]; simp⟩) (fun m hm=>?_) (fun b u e=>?_) I.bare
 ·have e:b=it:=by simpa using hb
  subst e;exact ⟨h1,hL,h2,h3⟩
 ·obtain ⟨o,es,ep,ho,r⟩:=hm;exact ⟨o,es,ep,k _ o (Ne.symm hL) ho,r⟩
 ·refine (I.hok b u e).stay (fun c v hc q=>k c v ?_ q) (fun _ q=>q) fun _ _ q=>q
  rcases hc with z | z
  ·rw [z]; exact nit b u e
  ·exact nit c _ z
theorem Inv.tok (I:Inv X pins σ H s) (t:Nat):Inv X pins σ H { s with toks:=t }:=I.un (h':=s.heap) (t':=t) Un.refl I.hok
theorem Inv.kept {t':Nat} (I:Inv X pins σ H s) (k:∀b u,s.heap.get? b=some u→h'.get? b=some u):Inv X pins σ H { s with heap:=h',toks:=t' }:=I.un (Un.kept k) (I.hok.kept k)
theorem Inv.laid {a:Addr}{o:HO}{t':Nat} (I:Inv X pins σ H s) (k:∀b u,s.heap.get? b=some u→h'.get? b=some u) (hp:s.heap.objs.size≤a) (new:Qbc X.prog X.w (upd H a o) h' a o) :
  Inv X pins σ (upd H a o) { s with heap:=h',toks:=t' }:=I.un (Un.laid k hp (I.hok.fresh hp)) (I.hok.laid k hp new)
theorem Inv.write {x e:Addr}{o:HO}{t':Nat} (I:Inv X pins σ H s) (mu:Mut (H x)) (he:e=x∨H e=some (.own x)) (k:∀b u,b≠e→s.heap.get? b=some u→h'.get? b=some u) (heo:∃u,h'.get? e=some u)
  (new:Qbc X.prog X.w (upd H x o) h' x o):Inv X pins σ (upd H x o) { s with heap:=h',toks:=t' }:=I.un (Un.write mu he k heo) (I.hok.write mu he k heo new)
theorem Inv.pins_of {pins':List (Addr×Obj)} (I:Inv X pins σ H s) (h:∀p∈pins',s.heap.get? p.1=some p.2∧H p.1=none∧p.1≠X.env.locals∧p.1∉X.fs∧∀v,p.2.data≠.cell v):Inv X pins' σ H s :=
 ⟨I.ok,I.os,I.bare,I.base,I.loc,I.cell,I.free,I.freeC,fun p hp=>(zD.mp hp).elim (fun z=>I.pin p (jq _ z)) (h p),I.hok,I.len⟩
theorem QlQ {N:List Str} (hN:N.Nodup) {i j:Nat}{x:Str} (a:N[i]? = some x) (b:N[j]? = some x):i=j:=by
 obtain ⟨h1,e1⟩:=zk.mp a;obtain ⟨h2,e2⟩:=zk.mp b;exact (List.getElem_inj hN).mp (e1.trans e2.symm)
theorem QpB {M:Model}{A:Around}{E:Value→Shared→Prop}{i:Nat}{x:Str}{v:V}{u:Value}{Q:Unit→Shared→Prop} (I:Inv X pins σ H s) (hN:X.N.Nodup) (hi:X.N[i]? = some x) (hx:Loc X.env.scope x) (r:RelV v u)
  (h:∀s',Inv X pins (σ.set i (some v)) H s'→(∃a,Heap.SameBut a s.heap s'.heap∧(a=X.env.locals∨X.env.cells.lookup x=some a))→Q () s') (hf:X.fn x=true∨X.env.scope.names.lookup x=some .local:=by first | exact .inl rfl | exact .inr rfl | assumption):wpAny M A (storeName X.env x u) Q E s:=by
 obtain ⟨m,hn,hl⟩:=id I.loc
 have hcls:(X.env.scope.kind == .class || (X.env.scope.kind == .module&&X.env.locals != X.env.globals))=false:=by rw [I.ok.kind]; rfl
 have hiσ:i < σ.length:=by rw [I.len]; exact (zk.mp hi).1
 have cne:=I.cne
 have tracked:∀{a:Addr}{h':Heap},(∃o,s.heap.get? a=some o∧H a=none)→Heap.SameBut a s.heap h'→HOk X.prog X.w H h':=fun {a h'} ha hs b ob e=>by
  obtain ⟨_,_,hfree⟩:=ha
  refine (I.hok b ob e).stay (fun c w' hc q=>(hs.2 c ?_).trans q) (fun _ q=>q) fun _ _ q=>q
  rintro rfl
  rcases hc with rfl | hc
  ·rw [hfree] at e; cases e
  ·rw [hfree] at hc; cases hc
 rcases hx with hk | hk
 ·refine wpAny_storeName_local hk hn (fun h' hn' hs=>?_) hcls;obtain ⟨oL,_,_,hoL,_⟩:=id hn;refine h _ ⟨I.ok,I.os,I.bare,⟨fun b o e n hb hx=>?_,fun b o e n hb hx=>?_,I.base.free,fun b o e hx=>?_,I.base.tups,I.base.frzs,I.base.tbls⟩,⟨_,hn',fun j y v' e1 e2 e3=>?_⟩,fun y c e=>?_,I.free,I.freeC,fun p hp=>?_,tracked ⟨oL,hoL,I.free⟩ hs,by simpa using I.len⟩ ⟨_,hs,.inl rfl⟩
  ·exact (hs.2 b (zt (zB (zf e) I.ok.above))).trans (I.base.keep b o e n hb hx)
  ·obtain ⟨sl,e1⟩:=I.base.slot b o e n hb hx;exact ⟨sl,(hs.2 b (zt (zB (zf e) I.ok.above))).trans e1⟩
  ·obtain ⟨o',e1⟩:=I.base.there b o e hx;exact ⟨o',(hs.2 b (zt (zB (zf e) I.ok.above))).trans e1⟩
  ·by_cases hj:j=i
   ·subst hj;rw [hi] at e1; cases e1;rw [zF hiσ] at e2;cases e2;exact ⟨u,r,.inl ⟨hk,by simp⟩⟩
   ·rw [zl (Ne.symm hj)] at e2;obtain ⟨u',r',q⟩:=hl j y v' e1 e2 e3;refine ⟨u',r',?_⟩
    rcases q with ⟨k,e⟩ | ⟨k,c,e,z⟩
    ·refine .inl ⟨k,?_⟩
     have:y≠x:=fun e=>hj (QlQ hN e1 (e ▸ hi))
     simp [this,e]
    ·exact .inr ⟨k,c,e,z.sameBut hs (cne y c e)⟩
  ·obtain ⟨w',z⟩:=I.cell y c e;exact ⟨w',z.sameBut hs (cne y c e)⟩
  ·obtain ⟨e,n,ne,nf,d⟩:=I.pin p hp;exact ⟨(hs.2 p.1 ne).trans e,n,ne,nf,d⟩
 ·have hfn:X.fn x=true:=by
   rcases hf with z | z
   ·exact z
   ·rw [z] at hk; cases hk
  obtain ⟨c,hc⟩:=I.ok.has x (.inl hk);obtain ⟨w',z⟩:=I.cell x c hc;refine wpAny_storeName_cell I.ok.kind hk hc z (fun h' hc' hs=>?_);obtain ⟨oc,hoc,hocd⟩:=id z;refine h { s with heap:=h' } ⟨I.ok,I.os,I.bare,⟨fun b o e n hb hx=>?_,fun b o e n hb hx=>?_,I.base.free,fun b o e hx=>?_,I.base.tups,I.base.frzs,I.base.tbls⟩,⟨m,hn.sameBut hs (Ne.symm (cne x c hc)),fun j y v' e1 e2 e3=>?_⟩,fun y c' e=>?_,I.free,I.freeC,fun p hp=>?_,tracked ⟨oc,hoc,I.freeC x c hc⟩ hs,by simpa using I.len⟩ ⟨c,hs,.inr hc⟩
  ·exact (hs.2 b (zt (zB (zf e) (I.ok.cab x c hfn hc)))).trans (I.base.keep b o e n hb hx)
  ·obtain ⟨sl,e1⟩:=I.base.slot b o e n hb hx;exact ⟨sl,(hs.2 b (zt (zB (zf e) (I.ok.cab x c hfn hc)))).trans e1⟩
  ·obtain ⟨o',e1⟩:=I.base.there b o e hx;exact ⟨o',(hs.2 b (zt (zB (zf e) (I.ok.cab x c hfn hc)))).trans e1⟩
  ·by_cases hj:j=i
   ·subst hj;rw [hi] at e1; cases e1;rw [zF hiσ] at e2;cases e2;exact ⟨u,r,.inr ⟨.inl hk,c,hc,hc'⟩⟩
   ·rw [zl (Ne.symm hj)] at e2;obtain ⟨u',r',q⟩:=hl j y v' e1 e2 e3;refine ⟨u',r',?_⟩
    rcases q with q | ⟨k,c',e,z'⟩
    ·exact .inl q
    ·refine .inr ⟨k,c',e,z'.sameBut hs ?_⟩;rintro rfl;exact hj (QlQ hN e1 (I.ok.inj _ _ _ e hc ▸ hi))
  ·by_cases hcc:c'=c
   ·subst hcc; exact ⟨_,hc'⟩
   ·obtain ⟨w2,z2⟩:=I.cell y c' e;exact ⟨w2,z2.sameBut hs hcc⟩
  ·obtain ⟨e,n,ne,nf,d⟩:=I.pin p hp;refine ⟨(hs.2 p.1 ?_).trans e,n,ne,nf,d⟩;intro q;rw [q,hoc] at e;have q':oc=p.2:=zE e;exact d w' (by rw [←q']; exact hocd)
theorem Qhm {M:Model}{A:Around}{E:Value→Shared→Prop}{i:Nat}{x:Str}{v:V}{u:Value}{Q:Unit→Shared→Prop} (I:Inv X pins σ H s) (hN:X.N.Nodup) (hi:X.N[i]? = some x) (hx:Loc X.env.scope x) (r:RelV v u)
  (h:∀s',Inv X pins (σ.set i (some v)) H s'→Q () s') (hf:X.fn x=true∨X.env.scope.names.lookup x=some .local:=by first | exact .inl rfl | exact .inr rfl | assumption):wpAny M A (storeName X.env x u) Q E s :=
 QpB I hN hi hx r (fun s' I' _=>h s' I') hf
theorem Inv.call' {s':Shared}{ch:List Addr} (I:Inv X pins σ H s) (ho:s'.os=s.os) (u:Un (frs X.stack) ch H H' s.heap s'.heap) (hok:HOk X.prog X.w H' s'.heap) (hg:AllBare s'.gens)
  (hch:∀b∈ch,(b∈X.ex∨X.s₀.heap.objs.size≤b)∧b≠X.env.locals∧(∀x c,X.env.cells.lookup x=some c→c≠b)∧∀p∈X.pn++pins,p.1≠b):Inv X pins σ H' s':=by
 obtain ⟨h',g',d',t',o'⟩:=s';have e:o'=s.os:=ho;subst e;exact I.call (g':=g') (t':=t') (d':=d') u hok hg hch
end
abbrev XK:=Value→Option Addr→Hp→Prop
abbrev St:=List (Option V)
abbrev VK:=V→Hp→Prop
abbrev TE:=St→Hp→VK→Prop
abbrev TT:=St→Hp→(Bool→Hp→Prop)→Prop
abbrev TA:=St→Hp→(List V→Hp→Prop)→Prop
structure Ends where
 nx:St→Hp→Prop
 rt:VK
 bk:St→Hp→Prop:=fun _ _=>False
 ct:St→Hp→Prop:=fun _ _=>False
abbrev TS:=Ends→St→Hp→Prop
def EP (X:Cx) (pins:List (Addr×Obj)) (σ:St) (Q:VK) (u:Value) (s':Shared):Prop:=∃v H',Inv X pins σ H' s'∧RelV v u∧Q v H'
def TP (X:Cx) (pins:List (Addr×Obj)) (σ:St) (Q:Bool→Hp→Prop) (b:Bool) (s':Shared):Prop:=∃H',Inv X pins σ H' s'∧Q b H'
def AP (X:Cx) (pins:List (Addr×Obj)) (σ:St) (Q:List V→Hp→Prop) (us:List Value) (s':Shared):Prop:=∃vs H',Inv X pins σ H' s'∧Qay vs us∧Q vs H'
def SP (X:Cx) (pins:List (Addr×Obj)) (D:Ends) (f:Flow) (s':Shared):Prop :=
 match f with
 | .next=>∃σ' H',Inv X pins σ' H' s'∧D.nx σ' H'
 | .brk=>∃σ' H',Inv X pins σ' H' s'∧D.bk σ' H'
 | .cont=>∃σ' H',Inv X pins σ' H' s'∧D.ct σ' H'
 | .ret u=>∃v σ' H',Inv X pins σ' H' s'∧RelV v u∧D.rt v H'
def PE (X:Cx) (e:Expr) (t:TE):Prop :=
 ∀(pins:List (Addr×Obj)) (s:Shared) (σ:St) (H:Hp) (Q:VK),Inv X pins σ H s→t σ H Q→wpAny (model X.prog X.w) X.A (eval e X.env) (EP X pins σ Q) X.xe s
def PT (X:Cx) (e:Expr) (t:TT):Prop :=
 ∀(pins:List (Addr×Obj)) (s:Shared) (σ:St) (H:Hp) (Q:Bool→Hp→Prop),Inv X pins σ H s→t σ H Q→wpAny (model X.prog X.w) X.A (isTrue e X.env (eval e X.env)) (TP X pins σ Q) X.xe s
def PW (X:Cx) (e:Expr) (t:TT):Prop :=
 ∀(whole:Sem Value) (pins:List (Addr×Obj)) (s:Shared) (σ:St) (H:Hp) (Q:Bool→Hp→Prop),Inv X pins σ H s→t σ H Q→wpAny (model X.prog X.w) X.A (isTrue e X.env whole) (TP X pins σ Q) X.xe s
theorem PW.pt {X:Cx}{e:Expr}{t:TT} (h:PW X e t):PT X e t:=h _
def PA (X:Cx) (es:List Expr) (t:TA):Prop :=
 ∀(pos:Pos) (pins:List (Addr×Obj)) (s:Shared) (σ:St) (H:Hp) (Q:List V→Hp→Prop),Inv X pins σ H s→t σ H Q→wpAny (model X.prog X.w) X.A (spliced (backTo pos (starEach es X.env))) (AP X pins σ Q) X.xe s
def PS (X:Cx) (st:Stmt) (t:TS):Prop :=
 ∀(pins:List (Addr×Obj)) (s:Shared) (σ:St) (H:Hp) (D:Ends),Inv X pins σ H s→t D σ H→wpAny (model X.prog X.w) X.A (exec st X.env) (SP X pins D) X.xe s
def PSs (X:Cx) (st:List Stmt) (t:TS):Prop :=
 ∀(pins:List (Addr×Obj)) (s:Shared) (σ:St) (H:Hp) (D:Ends),Inv X pins σ H s→t D σ H→wpAny (model X.prog X.w) X.A (execs st X.env) (SP X pins D) X.xe s
theorem thn {α:Type}{t:Sem α}{Q Q':α→Shared→Prop}{M:Model}{A:Around}{E:Value→Shared→Prop}{s:Shared} (h:wpAny M A t Q E s) (hQ:∀a s,Q a s→Q' a s):wpAny M A t Q' E s:=zG h hQ fun _ _ x=>x
section
variable {X:Cx}
def QwB (i:Nat):TE:=fun σ H Q=>∃v,σ[i]? = some (some v)∧Q v H
def tC (v:V):TE:=fun _ H Q=>Q v H
theorem Qe0 {i:Nat}{x:Str}{pos:Pos} (hN:X.N[i]? = some x) (hv:Vis X.env.scope x) (hd:(x == ("__debug__":Str))=false:=by decide) (hcd:(x == ("__classdict__":Str))=false:=by decide):PE X (.Name x pos) (QwB i):=by
 intro pins s σ H Q I h;obtain ⟨v,e,h⟩:=h;obtain ⟨m,hn,hl⟩:=I.loc;obtain ⟨u,r,l⟩:=hl i x v hN e hv;have fin:EP X pins σ Q u s:=⟨v,H,I,r,h⟩
 rcases l with ⟨hk,hm⟩ | ⟨hk,c,hc,hcell⟩
 ·exact wpAny_Name (wpAny_loadName_local I.ok.kind hk hn hm fin) hd
 ·rcases hk with hk | hk
  ·exact wpAny_Name (wpAny_loadName_cell I.ok.kind hk hc hcell fin) hd
  ·exact wpAny_Name (wpAny_loadName_free I.ok.kind hk hc hcell fin hcd) hd
theorem Qv4 {i j pos}:PE X (.Constant (.int i) j pos) (tC (.int i)):=fun _ _ _ H _ I h=>wpAny_Constant_int ⟨.int i,H,I.tok _,⟨_,rfl⟩,h⟩
theorem Qxu {b j pos}:PE X (.Constant (.bool b) j pos) (tC (.bl b)):=fun _ _ _ H _ I h=>Constant_bool ⟨.bl b,H,I,rfl,h⟩
theorem Qwd {j pos}:PE X (.Constant .none j pos) (tC .non):=fun _ _ _ H _ I h=>Constant_none ⟨.non,H,I,rfl,h⟩
theorem QgW {x j pos}:PE X (.Constant (.str x) j pos) (tC (.str x)):=fun _ _ _ H _ I h=>Calls.Constant_str ⟨.str x,H,I.tok _,⟨_,rfl⟩,h⟩
def Gl (X:Cx) (x:Str):Prop:=X.env.kindOf x=some .globalImplicit
theorem QfF {E:Value→Shared→Prop}{pins:List (Addr×Obj)}{s:Shared}{σ:St}{H:Hp}{x:Str}{u:Value}{pos:Pos}{Q:Value→Shared→Prop} (I:Inv X pins σ H s) (hg:Gl X x) (hm:X.mg x=some u) (h:Q u s)
  (hd:(x == ("__debug__":Str))=false:=by decide):wpAny (model X.prog X.w) X.A (eval (.Name x pos) X.env) Q E s :=
 Calls.Name_function_global I.ok.kind hg (Calls.loadGlobal_global (by rw [I.ok.glob]; exact I.mod.glob.keeps I.bk) hm h) hd
theorem QdE {E:Value→Shared→Prop}{pins:List (Addr×Obj)}{s:Shared}{σ:St}{H:Hp}{x:Str}{u:Value}{pos:Pos}{Q:Value→Shared→Prop} (I:Inv X pins σ H s) (hg:Gl X x) (hm:X.mg x=none) (hv:bootBuiltins x=some u) (h:Q u s)
  (hn:x≠"__name__":=by decide) (hd:(x == ("__debug__":Str))=false:=by decide):wpAny (model X.prog X.w) X.A (eval (.Name x pos) X.env) Q E s:=by
 obtain ⟨mb,h1,h2⟩:=I.mod.blt;exact Calls.Name_function_global I.ok.kind hg (Calls.loadGlobal_builtin (by rw [I.ok.glob]; exact I.mod.glob.keeps I.bk) hm (by rw [I.ok.blt]; exact h1.keeps I.bk) ((h2 x hn).trans hv) h) hd
theorem QkA {x:Str}{v:V}{u:Value}{pos:Pos} (hg:Gl X x) (hm:X.mg x=some u) (r:RelV v u) (hd:(x == ("__debug__":Str))=false:=by decide):PE X (.Name x pos) (tC v) :=
 fun _ _ _ H _ I h=>QfF I hg hm ⟨v,H,I,r,h⟩ hd
theorem Qny {x:Str}{v:V}{u:Value}{pos:Pos} (hg:Gl X x) (hm:X.mg x=none) (hv:bootBuiltins x=some u) (r:RelV v u) (hn:x≠"__name__":=by decide) (hd:(x == ("__debug__":Str))=false:=by decide):PE X (.Name x pos) (tC v) :=
 fun _ _ _ H _ I h=>QdE I hg hm hv ⟨v,H,I,r,h⟩ hn hd
variable {a b:Expr}{ta tb:TE}{pos:Pos}
def PC (X:Cx) (op:CmpOp) (a b:Expr) (t:TE):Prop :=
 ∀(pins:List (Addr×Obj)) (s:Shared) (σ:St) (H:Hp) (Q:VK),Inv X pins σ H s→t σ H Q →
  wpAny (model X.prog X.w) X.A (eval a X.env) (fun v s₁=>wpAny (model X.prog X.w) X.A (eval b X.env) (fun u s₂=>wpAny (model X.prog X.w) X.A (compareOp op v u) (EP X pins σ Q) X.xe s₂) X.xe s₁) X.xe s
theorem Qr7 (b:Expr) {op:CmpOp} (h:op≠.In) (h2:op≠.NotIn):behindInMarks op b=false:=by
 have e1:(op == CmpOp.In)=false:=by cases op <;> first | rfl | exact absurd rfl h
 have e2:(op == CmpOp.NotIn)=false:=by cases op <;> first | rfl | exact absurd rfl h2
 cases b <;> simp [behindInMarks,e1,e2]
def QvV (ta:TE):TE:=fun σ H Q=>ta σ H fun x H1=>Q (.bl (decide (x = .non))) H1
def QsT (ta:TE):TE:=fun σ H Q=>ta σ H fun x H1=>Q (.bl (!decide (x = .non))) H1
theorem RelV.none_iff {x:V}{v:Value} (r:RelV x v):(v == Value.none)=decide (x = .non):=by
 cases x with
 | non=>cases r; rfl
 | bl _=>cases r; rfl
 | int _=>obtain ⟨t,rfl⟩:=r; rfl
 | str _=>obtain ⟨t,rfl⟩:=r; rfl
 | byt _=>obtain ⟨t,rfl⟩:=r; rfl
 | flt _=>obtain ⟨t,rfl⟩:=r; rfl
 | ref _=>cases r; rfl
 | ty _=>cases r; rfl
theorem QvE {j pos'} (ha:PE X a ta):PC X .Is a (.Constant .none j pos') (QvV ta):=by
 intro pins s σ H Q I h
 refine thn (ha pins s σ H _ I h) fun v s1 ⟨x,H1,I1,r1,q1⟩=>?_
 exact Constant_none (is_none_gen ⟨.bl _,H1,I1,by rw [r1.none_iff]; rfl,q1⟩)
theorem Qtf {j pos'} (ha:PE X a ta):PC X .IsNot a (.Constant .none j pos') (QsT ta):=by
 intro pins s σ H Q I h
 refine thn (ha pins s σ H _ I h) fun v s1 ⟨x,H1,I1,r1,q1⟩=>?_
 exact Constant_none (isnot_none_gen ⟨.bl _,H1,I1,by rw [r1.none_iff]; rfl,q1⟩)
def tB (t:TE):TT:=fun σ H Q=>t σ H fun x H1=>∃c,x = .bl c∧Q c H1
theorem Qpn {op:CmpOp}{t:TE} (h:PC X op a b t) (h1:behindInMarks op b=false:=by first | exact Qr7 _ (by decide) (by decide) | rfl):PT X (.Compare a [op] [b] pos) (tB t):=by
 intro pins s σ H Q I hw;refine wpAny_isTrue_Compare1 (thn (h pins s σ H _ I hw) fun v s1 h1=>thn h1 fun u s2 h2=>thn h2 fun c s3 ⟨x,H1,I1,r1,q1⟩=>?_) h1;obtain ⟨d,rfl,q⟩:=q1;cases r1;exact wpAny_truthy_bool ⟨H1,I1,q⟩
theorem QmS {e:Expr}{t:TE} (h:PE X e t) (he:∀whole,isTrue e X.env whole=(do let v ←whole; standAt e.pos; holding [v] (truthy v)):=by intro _; rfl):PT X e (tB t):=by
 intro pins s σ H Q I hw;refine isTrue_plain (thn (h pins s σ H _ I hw) fun v s1 ⟨x,H1,I1,r1,q1⟩=>?_) (he _);obtain ⟨d,rfl,q⟩:=q1;cases r1;exact wpAny_truthy_bool ⟨H1,I1,q⟩
variable {tA tB':TT}{rest:List Expr}
def Qve (t u:TT):TT:=fun σ H Q=>t σ H fun c H1=>if c=true then u σ H1 Q else Q false H1
def tOr (t u:TT):TT:=fun σ H Q=>t σ H fun c H1=>if c=true then Q true H1 else u σ H1 Q
def QyU (t:TT):TT:=fun σ H Q=>t σ H fun c H1=>Q (!c) H1
theorem QnP (ha:PT X a tA):PW X (.BoolOp .And [a] pos) tA:=by
 intro wh pins s σ H Q I h;refine isTrue_and (thn (ha pins s σ H Q I h) fun c s1 e=>?_)
 cases c with
 | true=>exact isTrue_and_nil e
 | false=>exact e
theorem Qvi (ha:PT X a tA):PW X (.BoolOp .Or [a] pos) tA:=by
 intro wh pins s σ H Q I h;refine isTrue_or (thn (ha pins s σ H Q I h) fun c s1 e=>?_)
 cases c with
 | false=>exact isTrue_or_nil e
 | true=>exact e
theorem Ql3 (ha:PT X a tA) (hb:PW X (.BoolOp .And (b::rest) pos) tB'):PW X (.BoolOp .And (a::b::rest) pos) (Qve tA tB'):=by
 intro wh pins s σ H Q I h;refine isTrue_and (thn (ha pins s σ H _ I h) fun c s1 ⟨H1,I1,q1⟩=>?_)
 cases c with
 | true=>exact hb wh pins s1 σ H1 Q I1 q1
 | false=>exact ⟨H1,I1,q1⟩
theorem Qxk (ha:PT X a tA) (hb:PW X (.BoolOp .Or (b::rest) pos) tB'):PW X (.BoolOp .Or (a::b::rest) pos) (tOr tA tB'):=by
 intro wh pins s σ H Q I h;refine isTrue_or (thn (ha pins s σ H _ I h) fun c s1 ⟨H1,I1,q1⟩=>?_)
 cases c with
 | true=>exact ⟨H1,I1,q1⟩
 | false=>exact hb wh pins s1 σ H1 Q I1 q1
theorem QqT (ha:PT X a tA):PT X (.UnaryOp .Not a pos) (QyU tA):=by
 intro pins s σ H Q I h;exact isTrue_not (ha pins s σ H (fun c H1=>Q (!c) H1) I h)
def QxP (ta tb:TE):TE:=fun σ H Q=>ta σ H fun x H1=>∃c,x = .bl c∧if c=true then tb σ H1 Q else Q (.bl false) H1
def QwU (ta:TE):TE:=fun σ H Q=>ta σ H fun x H1=>∃c,x = .bl c∧Q (.bl (!c)) H1
theorem QwN {op}{t:TE} (h:PE X a t):PE X (.BoolOp op [a] pos) t:=fun pins s σ H Q I hw=>BoolOp_one (h pins s σ H Q I hw)
theorem Qwy (ha:PE X a ta) (hb:PE X (.BoolOp .And (b::rest) pos) tb):PE X (.BoolOp .And (a::b::rest) pos) (QxP ta tb):=by
 intro pins s σ H Q I h;refine BoolOp_and (thn (ha pins s σ H _ I h) fun v s1 ⟨x,H1,I1,r1,q1⟩=>?_);obtain ⟨c,rfl,q1⟩:=q1;cases r1;refine wpAny_truthy_bool ?_
 cases c with
 | true=>exact hb pins s1 σ H1 Q I1 q1
 | false=>exact ⟨.bl false,H1,I1,rfl,q1⟩
theorem QvJ (ha:PE X a ta):PE X (.UnaryOp .Not a pos) (QwU ta):=by
 intro pins s σ H Q I h;refine UnaryOp_ (thn (ha pins s σ H _ I h) fun v s1 ⟨x,H1,I1,r1,q1⟩=>?_);obtain ⟨c,rfl,q1⟩:=q1;cases r1;exact not_of (wpAny_truthy_bool ⟨.bl (!c),H1,I1,rfl,q1⟩)
def tIf (t:TT) (ta tb:TE):TE:=fun σ H Q=>t σ H fun c H1=>if c=true then ta σ H1 Q else tb σ H1 Q
theorem Qrr {c:Expr} (hc:PT X c tA) (ha:PE X a ta) (hb:PE X b tb):PE X (.IfExp c a b pos) (tIf tA ta tb):=by
 intro pins s σ H Q I h;refine wpAny_IfExp (thn (hc pins s σ H _ I h) fun d s1 ⟨H1,I1,q1⟩=>?_)
 cases d with
 | true=>exact ha pins s1 σ H1 Q I1 q1
 | false=>exact hb pins s1 σ H1 Q I1 q1
end
def SqL (K:PySem.W.Frag) (H:Hp) (a:Addr) (xs:List V):Prop :=
 Rd H a (.lst xs) ∨
  ∃(o:Obj) (its:Array Value) (n:Nat),K.lookup a=some o∧o.cls = .type "list"∧o.dict=none∧o.data = .seq its n∧its.size≤sizeLine∧Qay xs its.toList
def SqT (K:PySem.W.Frag) (H:Hp) (a:Addr) (xs:List V):Prop :=
 Rd H a (.tup xs) ∨
  ∃(o:Obj) (its:Array Value) (n:Nat),K.lookup a=some o∧o.cls = .type "tuple"∧o.data = .seq its n∧its.size≤sizeLine∧Qay xs its.toList
def QyM:Value→Option V
 | .none=>some .non
 | .bool b=>some (.bl b)
 | .int i _=>some (.int i)
 | .str x _=>some (.str x)
 | .bytes b _=>some (.byt b)
 | .float b _=>some (.flt b)
 | .ref a=>some (.ref a)
 | .type n=>some (.ty n)
 | _=>none
theorem RelV.abs {x:V}{u:Value} (r:RelV x u):QyM u=some x:=by
 cases x with
 | non=>cases r; rfl
 | bl _=>cases r; rfl
 | int _=>obtain ⟨t,rfl⟩:=r; rfl
 | str _=>obtain ⟨t,rfl⟩:=r; rfl
 | byt _=>obtain ⟨t,rfl⟩:=r; rfl
 | flt _=>obtain ⟨t,rfl⟩:=r; rfl
 | ref _=>cases r; rfl
 | ty _=>cases r; rfl
theorem RelV.inj {x y:V}{u:Value} (r:RelV x u) (q:RelV y u):x=y:=zE (r.abs.symm.trans q.abs)
theorem Qay.inj:∀{xs ys:List V}{us:List Value},Qay xs us→Qay ys us→xs=ys
 | _,_,_,.nil,.nil=>rfl
 | _,_,_,.cons r t,.cons r' t'=>by rw [r.inj r',Qay.inj t t']
section
variable {X:Cx}{pins:List (Addr×Obj)}{σ:St}{H:Hp}{s:Shared}{a:Addr}{xs ys:List V}
theorem SqL.of {K:PySem.W.Frag} (h:H a=some (.lst xs)):SqL K H a xs:=.inl (.inl h)
theorem SqT.of {K:PySem.W.Frag} (h:H a=some (.tup xs)):SqT K H a xs:=.inl (.inl h)
theorem Inv.list (I:Inv X pins σ H s) (h:SqL X.K H a xs):∃its:List Value,Qay xs its∧PlainL s.heap a its.toArray∧xs.length≤sizeLine:=by
 rcases h with h | ⟨o,its,n,hk,hc,hd,hs,hz,r⟩
 ·obtain ⟨z,its,n,r,e⟩:=h.ok I.hok;exact ⟨its,r,⟨_,n,e,rfl,rfl,rfl⟩,z⟩
 ·refine ⟨its.toList,r,⟨o,n,I.kIn a o hk,hc,hd,by simpa using hs⟩,?_⟩;have e:=r.length;simp only [Array.length_toList] at e;omega
theorem Inv.tuple (I:Inv X pins σ H s) (h:SqT X.K H a xs):∃its:List Value,Qay xs its∧IsTup s.heap a its.toArray∧xs.length≤sizeLine:=by
 rcases h with h | ⟨o,its,n,hk,hc,hs,hz,r⟩
 ·obtain ⟨z,its,r,p⟩:=h.ok I.hok;exact ⟨its,r,p,z⟩
 ·refine ⟨its.toList,r,⟨o,I.kIn a o hk,hc,n,by simpa using hs⟩,?_⟩;have e:=r.length;simp only [Array.length_toList] at e;omega
theorem Inv.list_inj (I:Inv X pins σ H s) (h:SqL X.K H a xs) (h':SqL X.K H a ys):xs=ys:=by
 obtain ⟨its,r,⟨o,n,e,_,_,d⟩,_⟩:=I.list h;obtain ⟨its',r',⟨o',n',e',_,_,d'⟩,_⟩:=I.list h';rw [e] at e'; cases e';rw [d] at d'
 injection d' with d1 _
 have:its=its':=by simpa using congrArg Array.toList d1
 subst this;exact r.inj r'
theorem Inv.tuple_inj (I:Inv X pins σ H s) (h:SqT X.K H a xs) (h':SqT X.K H a ys):xs=ys:=by
 obtain ⟨its,r,⟨o,e,_,n,d⟩,_⟩:=I.tuple h;obtain ⟨its',r',⟨o',e',_,n',d'⟩,_⟩:=I.tuple h';rw [e] at e'; cases e';rw [d] at d'
 injection d' with d1 _
 have:its=its':=by simpa using congrArg Array.toList d1
 subst this;exact r.inj r'
end
abbrev Cx.wish (X:Cx) (E:Value→Shared→Prop):Cx:={ X with xe:=E }
abbrev Cx.nox (X:Cx):Cx:=X.wish fun _ _=>False
theorem Cx.Ok.wish {X:Cx} (ok:X.Ok) (E:Value→Shared→Prop):(X.wish E).Ok :=
 ⟨ok.mod,ok.kind,ok.glob,ok.blt,ok.above,ok.inj,ok.has,ok.cab,ok.hd,ok.frames,ok.stk,ok.exf,ok.bs,ok.bsz,ok.noex,ok.exfs,ok.funs,ok.frf⟩
theorem Cx.Ok.unwish {X:Cx}{E:Value→Shared→Prop} (ok:(X.wish E).Ok):X.Ok :=
 ⟨ok.mod,ok.kind,ok.glob,ok.blt,ok.above,ok.inj,ok.has,ok.cab,ok.hd,ok.frames,ok.stk,ok.exf,ok.bs,ok.bsz,ok.noex,ok.exfs,ok.funs,ok.frf⟩
section
variable {X:Cx}{pins:List (Addr×Obj)}{σ:St}{H:Hp}{s:Shared}{E:Value→Shared→Prop}
theorem Inv.wish (I:Inv X pins σ H s) (E:Value→Shared→Prop):Inv (X.wish E) pins σ H s:=⟨I.ok.wish E,I.os,I.bare,I.base,I.loc,I.cell,I.free,I.freeC,I.pin,I.hok,I.len⟩
theorem Inv.unwish (I:Inv (X.wish E) pins σ H s):Inv X pins σ H s:=⟨I.ok.unwish,I.os,I.bare,I.base,I.loc,I.cell,I.free,I.freeC,I.pin,I.hok,I.len⟩
theorem SP.unwish {D:Ends}{f:Flow}{s':Shared} (h:SP (X.wish E) pins D f s'):SP X pins D f s':=by
 cases f with
 | next=>obtain ⟨σ',H',I,q⟩:=h; exact ⟨σ',H',I.unwish,q⟩
 | brk=>obtain ⟨σ',H',I,q⟩:=h; exact ⟨σ',H',I.unwish,q⟩
 | cont=>obtain ⟨σ',H',I,q⟩:=h; exact ⟨σ',H',I.unwish,q⟩
 | ret u=>obtain ⟨v,σ',H',I,r,q⟩:=h; exact ⟨v,σ',H',I.unwish,r,q⟩
theorem PE.nox {e:Expr}{t:TE} (h:PE X.nox e t):PE X e t:=fun pins s σ H Q I hw =>
 zG (h pins s σ H Q (I.wish _) hw) (fun _ _ ⟨v,H',I',r,q⟩=>⟨v,H',I'.unwish,r,q⟩) fun _ _ z=>False.elim z
theorem PT.nox {e:Expr}{t:TT} (h:PT X.nox e t):PT X e t:=fun pins s σ H Q I hw =>
 zG (h pins s σ H Q (I.wish _) hw) (fun _ _ ⟨H',I',q⟩=>⟨H',I'.unwish,q⟩) fun _ _ z=>False.elim z
theorem PSs.nox {st:List Stmt}{t:TS} (h:PSs X.nox st t):PSs X st t:=fun pins s σ H D I hw =>
 zG (h pins s σ H D (I.wish _) hw) (fun _ _ q=>q.unwish) fun _ _ z=>False.elim z
end
section
variable {X:Cx}{st:Stmt}{rest:List Stmt}{t u:TS}{e:Expr}{te:TE}{pos:Pos}
def Qxz:TS:=fun D σ H=>D.nx σ H
def Qyp (t u:TS):TS:=fun D σ H=>t { D with nx:=u D } σ H
theorem QkH:PSs X [] Qxz:=fun _ _ σ H _ I h=>wpAny_execs_nil ⟨σ,H,I,h⟩
theorem QhJ (h1:PS X st t) (h2:PSs X rest u):PSs X (st::rest) (Qyp t u):=by
 intro pins s σ H D I h;refine wpAny_execs_cons (thn (h1 pins s σ H { D with nx:=u D } I h) fun f s1 q=>?_)
 cases f with
 | next =>
  obtain ⟨σ',H',I',q⟩:=q;exact h2 pins s1 σ' H' D I' q
 | ret v=>exact q
 | brk=>exact q
 | cont=>exact q
theorem QkP (h1:PS X st t):PSs X [st] t:=by
 intro pins s σ H D I h;refine wpAny_execs_cons (thn (h1 pins s σ H D I h) fun f s1 q=>?_)
 cases f with
 | next=>exact wpAny_execs_nil q
 | ret v=>exact q
 | brk=>exact q
 | cont=>exact q
def QwR:TS:=fun D σ H=>D.bk σ H
theorem Qrv:PS X (.Break pos) QwR:=fun _ _ σ H _ I h=>wpAny_Break ⟨σ,H,I,h⟩
theorem Inv.quiet {pins:List (Addr×Obj)}{σ:St}{H:Hp}{s:Shared} (I:Inv X pins σ H s):interactive X.env=false:=by simp [interactive,I.ok.kind]
def Qw6 (te:TE):TS:=fun D σ H=>te σ H fun _ H1=>D.nx σ H1
theorem Qnt (he:PE X e te) (hs:swapsWith e none pos.line X.env=pure false:=by rfl):PS X (.Expr e pos) (Qw6 te):=by
 intro pins s σ H D I h;exact wpAny_Expr_any (thn (he pins s σ H _ I h) fun v s1 ⟨x,H1,I1,r1,q1⟩=>⟨σ,H1,I1,q1⟩) I.quiet hs
def Qyb (te:TE):TS:=fun D σ H=>te σ H D.rt
theorem Qpo (he:PE X e te):PS X (.Return (some e) pos) (Qyb te):=by
 intro pins s σ H D I h;exact wpAny_Return_some (thn (he pins s σ H _ I h) fun v s1 ⟨x,H1,I1,r1,q1⟩=>⟨x,σ,H1,I1,r1,q1⟩)
def Qyu (c:TT) (t u:TS):TS:=fun D σ H=>c σ H fun b H1=>if b=true then t D σ H1 else u D σ H1
theorem Qoy {c:Expr}{a b:List Stmt}{tc:TT} (hc:PT X c tc) (ha:PSs X a t) (hb:PSs X b u):PS X (.If c a b pos) (Qyu tc t u):=by
 intro pins s σ H D I h;refine wpAny_If (thn (hc pins s σ H _ I h) fun d s1 ⟨H1,I1,q1⟩=>?_)
 cases d with
 | true=>exact ha pins s1 σ H1 D I1 q1
 | false=>exact hb pins s1 σ H1 D I1 q1
end
abbrev TG:=V→St→Hp→(St→Hp→Prop)→Prop
abbrev TGs:=List V→St→Hp→(St→Hp→Prop)→Prop
def PG (X:Cx) (target:Expr) (t:TG):Prop :=
 ∀(pins:List (Addr×Obj)) (s:Shared) (σ:St) (H:Hp) (v:V) (u:Value) (Q:St→Hp→Prop),Inv X pins σ H s→RelV v u→t v σ H Q →
  wpAny (model X.prog X.w) X.A (assign target X.env u) (fun _ s'=>∃σ' H',Inv X pins σ' H' s'∧Q σ' H') X.xe s
def PGs (X:Cx) (ts:List Expr) (t:TGs):Prop :=
 ∀(pins:List (Addr×Obj)) (s:Shared) (σ:St) (H:Hp) (vs:List V) (us:List Value) (Q:St→Hp→Prop),Inv X pins σ H s→Qay vs us→t vs σ H Q →
  wpAny (model X.prog X.w) X.A (assignInOrder ((assignEach ts X.env).map (·.2)) us) (fun _ s'=>∃σ' H',Inv X pins σ' H' s'∧Q σ' H') X.xe s
section
variable {X:Cx}{pos:Pos}
def QjJ (i:Nat):TG:=fun v σ H Q=>Q (σ.set i (some v)) H
theorem QtL {i:Nat}{x:Str} (hN:X.N.Nodup) (hi:X.N[i]? = some x) (hx:Loc X.env.scope x) (hf:X.fn x=true∨X.env.scope.names.lookup x=some .local:=by first | exact .inl rfl | exact .inr rfl | assumption):PG X (.Name x pos) (QjJ i):=by
 intro pins s σ H v u Q I r h;exact wpAny_assign_Name (Qhm I hN hi hx r (fun s' I'=>⟨_,H,I',h⟩) hf)
def Qye:TGs:=fun vs σ H Q=>vs = []∧Q σ H
def Qxt (t:TG) (u:TGs):TGs:=fun vs σ H Q=>∃v r,vs=v::r∧t v σ H fun σ' H'=>u r σ' H' Q
theorem Qt9:PGs X [] Qye:=by
 intro pins s σ H vs us Q I r h;obtain ⟨e,h⟩:=h;subst e;cases r;exact assignInOrder_nil ⟨σ,H,I,h⟩
theorem QrI {e:Expr}{es:List Expr}{t:TG}{u:TGs} (h1:PG X e t) (h2:PGs X es u)
  (hs:(assignEach (e::es) X.env).map (·.2)=assign e X.env::(assignEach es X.env).map (·.2):=by rfl):PGs X (e::es) (Qxt t u):=by
 intro pins s σ H vs us Q I r h;obtain ⟨v,vr,e1,h⟩:=h;subst e1
 cases r with
 | cons r rr =>
  rw [hs];refine assignInOrder_cons (thn (h1 pins s σ H _ _ _ I r h) fun _ s1 ⟨σ1,H1,I1,q1⟩=>?_);exact h2 pins s1 σ1 H1 _ _ Q I1 rr q1
def QyA (K:PySem.W.Frag) (n:Nat) (t:TGs):TG:=fun v σ H Q=>∃a xs,v = .ref a∧SqT K H a xs∧xs.length=n∧t xs σ H Q
theorem Qv6 {es:List Expr}{k:Nat}{t:TGs}{n:Nat} (hc:X.calm=true) (h:PGs X es t)
  (hn:(assignEach es X.env).length=n:=by rfl) (hst:(assignEach es X.env).findIdx? (·.1)=none:=by rfl):PG X (.Tuple es k pos) (QyA X.K n t):=by
 intro pins s σ H v u Q I r hw;obtain ⟨a,xs,e1,hq,hl,hw⟩:=hw;subst e1;cases r;obtain ⟨its,rv,ht,hz⟩:=I.tuple hq
 refine assign_Tuple_tuple (I.ok.hd hc) ht (by simp [hn,←hl,rv.length]) hst fun h' hx=>?_
 have I1:Inv X pins σ H { s with heap:=h' }:=I.kept (t':=s.toks) fun b o e=>hx b o (zt (zf e)) e
 exact h pins _ σ H xs _ Q I1 (by simpa using rv) hw
def Qpa (te:TE) (g:TG):TS:=fun D σ H=>te σ H fun x H1=>g x σ H1 D.nx
theorem Qh6 {i:Nat}{x:Str}{e:Expr}{te:TE}{pos':Pos} (hN:X.N.Nodup) (hi:X.N[i]? = some x) (hx:Loc X.env.scope x) (he:PE X e te) (hs:swapsWith e (some (.Name x pos')) pos.line X.env=pure false:=by rfl) (hf:X.fn x=true∨X.env.scope.names.lookup x=some .local:=by first | exact .inl rfl | exact .inr rfl | assumption) :
  PS X (.Assign [.Name x pos'] e pos) (Qpa te (QjJ i)):=by
 intro pins s σ H D I h;refine wpAny_Assign_Name (thn (he pins s σ H _ I h) fun v s1 ⟨y,H1,I1,r1,q1⟩=>?_) hs;exact Qhm I1 hN hi hx r1 (fun s2 I2=>⟨_,H1,I2,q1⟩) hf
end
section
variable {X:Cx}{pos:Pos}
def Qqi (c:TT) (tb:TS):TS:=fun D σ H=>∃W:Nat→St→Hp→Prop,(∃m,W m σ H)∧∀m σ H,W m σ H →
 c σ H fun b H1=>if b=true then ∃N:St→Hp→Prop,(∀σ' H',N σ' H'→∃m',m' < m∧W m' σ' H')∧tb { D with nx:=N,ct:=N,bk:=D.nx } σ H1 else D.nx σ H1
theorem Qrh {c:Expr}{body:List Stmt}{tc:TT}{tb:TS} (hp:PassesOwn (model X.prog X.w) X.A X.env X.xe) (hc:PT X c tc) (hb:PSs X body tb):PS X (.While c body [] pos) (Qqi tc tb):=by
 intro pins s σ H D I h;obtain ⟨W,⟨m0,w0⟩,turn⟩:=h;refine wpAny_While (codeAny_whileLoop (fun n s'=>∃σ' H',Inv X pins σ' H' s'∧W n σ' H') ?_ m0 ⟨σ,H,I,w0⟩);rintro n s1 ⟨σ1,H1,I1,w1⟩;refine wpAny_passesOwn hp (thn (hc pins s1 σ1 H1 _ I1 (turn n σ1 H1 w1)) fun b s2 ⟨H2,I2,q2⟩=>?_)
 cases b with
 | true =>
  obtain ⟨N,hN,q2⟩:=q2;rw [if_pos rfl];refine wpAny_passesOwn hp (thn (hb pins s2 σ1 H2 _ I2 q2) fun f s3 q3=>?_)
  cases f with
  | next =>
   obtain ⟨σ3,H3,I3,n3⟩:=q3;obtain ⟨m',hm,w3⟩:=hN σ3 H3 n3;exact ⟨m',hm,σ3,H3,I3,w3⟩
  | cont =>
   obtain ⟨σ3,H3,I3,n3⟩:=q3;obtain ⟨m',hm,w3⟩:=hN σ3 H3 n3;exact ⟨m',hm,σ3,H3,I3,w3⟩
  | brk=>exact q3
  | ret v=>exact q3
 | false =>
  rw [if_neg zg];exact wpAny_execs_nil ⟨σ1,H2,I2,q2⟩
end
structure It where
 go:Nat→Hp→Prop
 yld:Nat→Hp→V→Hp→Prop
 stop:Nat→Hp→Prop
def Qfm (X:Cx) (pins:List (Addr×Obj)) (H:Hp) (b:Addr):Prop :=
 H b=none∧b≠X.env.locals∧b∉X.fs∧(b∈X.ex∨X.s₀.heap.objs.size≤b)∧(∀x c,X.env.cells.lookup x=some c→c≠b)∧∀p∈X.pn++pins,p.1≠b
theorem Inv.fpOk {X:Cx}{pins:List (Addr×Obj)}{σ:St}{H H':Hp}{s:Shared}{b:Addr} (I:Inv X pins σ H s) (hb:s.heap.objs.size≤b) (hn:H' b=none):Qfm X pins H' b:=by
 refine ⟨hn,Nat.ne_of_gt (zB I.lt hb),I.nofs hb,.inr (zC I.sz hb),fun x c e z=>?_,fun p hp z=>?_⟩
 ·obtain ⟨v,q⟩:=I.cell x c e;exact absurd (zB q.lt (by rw [z]; exact hb)) (zN _)
 ·exact absurd (zB (zf (I.pin p hp).1) (by rw [z]; exact hb)) (zN _)
structure Turn (P:Program) (w:World) (K:PySem.W.Frag) (tg:Expr) (J:It) (fp:List Addr) (it:Addr) (tn:Nat→Heap→Prop):Prop where
 mem:it∈fp
 obj:∀i h,tn i h→∀b∈fp,∃o,h.get? b=some o∧∀v,o.data≠.cell v
 keep:∀i h h',tn i h→(∀b∈fp,∀o,h.get? b=some o→h'.get? b=some o)→tn i h'
 item:∀(X:Cx),X.prog=P→X.w=w→X.K=K→X.calm=true→∀(i:Nat) (pins:List (Addr×Obj)) (s:Shared) (σ:St) (H:Hp) (E:Value→Shared→Prop),Inv X pins σ H s→(∀b∈fp,Qfm X pins H b)→tn i s.heap→J.go i H →
  wpAny (model P w) X.A (pyNext (.ref it)) (fun r s1=>∃u,r=some u ∧
   wpAny (model P w) X.A (letOwnedTupleGo tg (.ref it) u) (fun _ s2=>∃x H',Inv X pins σ H' s2∧RelV x u∧J.yld i H x H'∧tn (i+1) s2.heap∧∀b∈fp,H' b=none) E s1) E s
 done:∀(X:Cx),X.prog=P→X.w=w→X.K=K→X.calm=true→∀(i:Nat) (pins:List (Addr×Obj)) (s:Shared) (σ:St) (H:Hp) (E:Value→Shared→Prop),Inv X pins σ H s→(∀b∈fp,Qfm X pins H b)→tn i s.heap→J.stop i H →
  wpAny (model P w) X.A (pyNext (.ref it)) (fun r s1=>r=none∧Inv X pins σ H s1) E s
 self:∀(A:Around) (i:Nat) (s:Shared) (Q:Value→Shared→Prop) (E:Value→Shared→Prop),tn i s.heap→Q (.ref it) s→wpAny (model P w) A (pyIter (.ref it)) Q E s
abbrev TI:=St→Hp→(It→Hp→Prop)→Prop
def PIE (X:Cx) (pins:List (Addr×Obj)) (σ:St) (tg:Expr) (R:It→Hp→Prop) (itv:Value) (s2:Shared):Prop :=
 ∃(it:Addr) (fp:List Addr) (tn:Nat→Heap→Prop) (J:It) (H':Hp),itv = .ref it∧Inv X pins σ H' s2∧Turn X.prog X.w X.K tg J fp it tn∧tn 0 s2.heap∧(∀b∈fp,Qfm X pins H' b)∧R J H'
def PI (X:Cx) (tg iter:Expr) (wi:TI):Prop :=
 ∀(pins:List (Addr×Obj)) (s:Shared) (σ:St) (H:Hp) (R:It→Hp→Prop),Inv X pins σ H s→wi σ H R →
  wpAny (model X.prog X.w) X.A (eval iter X.env) (fun v s1=>wpAny (model X.prog X.w) X.A (pyIter v) (PIE X pins σ tg R) X.xe s1) X.xe s
theorem Qhq {M:Model}{A:Around}{E:Value→Shared→Prop}{s:Shared}{tg:Expr}{it:Addr}{u:Value}{o:Obj}{n:String}{vs:Array Value}{Q:Unit→Shared→Prop} (ho:s.heap.get? it=some o) (hc:o.cls = .type n) (hd:o.data = .fields vs)
  (hn:["enumerate","zip","dict_itemiterator","dict_reverseitemiterator","odict_iterator","itertools.zip_longest","itertools.pairwise"].contains n=false) (hQ:Q () s):wpAny M A (letOwnedTupleGo tg (.ref it) u) Q E s:=by
 unfold letOwnedTupleGo
 cases tg <;> first
  | exact zb hQ
  | (cases u <;> first
    | exact zb hQ
    | (refine za (wpAny_load ho ?_)
       rw [hc,hd];show wpAny M A (if (["enumerate","zip","dict_itemiterator","dict_reverseitemiterator","odict_iterator","itertools.zip_longest","itertools.pairwise"].contains n&&vs[0]? == some (rawInt _))=true then _ else _) Q E s;rw [if_neg (by intro h; rw [hn,Bool.false_and] at h; cases h)]
       exact zb hQ))
def Itl (K:PySem.W.Frag) (a:Addr):It :=
 ⟨fun i H=>∃xs x,SqL K H a xs∧xs[i]? = some x,fun i H x H'=>H'=H∧∀xs,SqL K H a xs→xs[i]? = some x,fun i H=>∃xs,SqL K H a xs∧xs.length≤i⟩
def Itt (K:PySem.W.Frag) (a:Addr):It :=
 ⟨fun i H=>∃xs x,SqT K H a xs∧xs[i]? = some x,fun i H x H'=>H'=H∧∀xs,SqT K H a xs→xs[i]? = some x,fun i H=>∃xs,SqT K H a xs∧xs.length≤i⟩
def Itr (lo:Int) (n:Nat):It:=⟨fun i _=>i < n,fun i H x H'=>H'=H∧x = .int (lo+i),fun i _=>n≤i⟩
theorem QqW {P:Program}{w:World}{K:PySem.W.Frag}{tg:Expr} (a it:Addr):Turn P w K tg (Itl K a) [it] it (fun i h=>h.IsListIter it a i) where
 mem:=by simp
 obj:=fun i h st b hb=>by
  have e:b=it:=by simpa using hb
  subst e;obtain ⟨o,e,c,d⟩:=st;exact ⟨o,e,fun v z=>by rw [d] at z; cases z⟩
 keep:=fun i h h' st k=>st.at fun o e=>k it (by simp) o e
 item:=by
  intro X hP hw hK hc i pins s σ H E I hf st hg;subst hP hw hK;obtain ⟨xs,x,hq,hx⟩:=hg;obtain ⟨its,rv,p,hz⟩:=I.list hq;obtain ⟨u,hu,ru⟩:=rv.get hx;obtain ⟨f0,f1,f2,f3,f4,f5⟩:=hf it (by simp)
  refine wpAny_pyNext_list_item st p.isList (x:=u) (by simpa using hu) fun h' st' sb=>?_
  have I1:Inv X pins σ H { s with heap:=h' }:=I.turned (t':=s.toks) (fun b o hb e=>(sb.2 b hb).trans e) f0 f1 f3 f4 f5;obtain ⟨o,e,c,d⟩:=id st';exact ⟨u,rfl,Qhq (s:={ s with heap:=h' }) e c d (by decide) ⟨x,H,I1,ru,⟨rfl,fun ys hy=>by rw [I.list_inj hy hq]; exact hx⟩,st',fun b hb=>(hf b hb).1⟩⟩
 done:=by
  intro X hP hw hK hc i pins s σ H E I hf st hg;subst hP hw hK;obtain ⟨xs,hq,hx⟩:=hg;obtain ⟨its,rv,p,hz⟩:=I.list hq;obtain ⟨f0,f1,f2,f3,f4,f5⟩:=hf it (by simp);have hl:=rv.length
  exact wpAny_pyNext_list_end (I.ok.hd hc) st p.isList (by simp; omega) fun h' eb=>⟨rfl,I.turned (t':=s.toks) (fun b o hb e=>eb b o hb e) f0 f1 f3 f4 f5⟩
 self:=fun _ _ _ _ _ st h=>wpAny_pyIter_listiter st h
theorem QoQ {P:Program}{w:World}{K:PySem.W.Frag}{tg:Expr} (a it:Addr):Turn P w K tg (Itt K a) [it] it (fun i h=>h.IsTupleIter it a i) where
 mem:=by simp
 obj:=fun i h st b hb=>by
  have e:b=it:=by simpa using hb
  subst e;obtain ⟨o,e,c,d⟩:=st;exact ⟨o,e,fun v z=>by rw [d] at z; cases z⟩
 keep:=fun i h h' st k=>st.at fun o e=>k it (by simp) o e
 item:=by
  intro X hP hw hK hc i pins s σ H E I hf st hg;subst hP hw hK;obtain ⟨xs,x,hq,hx⟩:=hg;obtain ⟨its,rv,p,hz⟩:=I.tuple hq;obtain ⟨u,hu,ru⟩:=rv.get hx;obtain ⟨f0,f1,f2,f3,f4,f5⟩:=hf it (by simp)
  refine wpAny_pyNext_tuple_item st (show s.heap.IsTuple a its.toArray from p) (x:=u) (by simpa using hu) fun h' st' sb=>?_
  have I1:Inv X pins σ H { s with heap:=h' }:=I.turned (t':=s.toks) (fun b o hb e=>(sb.2 b hb).trans e) f0 f1 f3 f4 f5;obtain ⟨o,e,c,d⟩:=id st';exact ⟨u,rfl,Qhq (s:={ s with heap:=h' }) e c d (by decide) ⟨x,H,I1,ru,⟨rfl,fun ys hy=>by rw [I.tuple_inj hy hq]; exact hx⟩,st',fun b hb=>(hf b hb).1⟩⟩
 done:=by
  intro X hP hw hK hc i pins s σ H E I hf st hg;subst hP hw hK;obtain ⟨xs,hq,hx⟩:=hg;obtain ⟨its,rv,p,hz⟩:=I.tuple hq;obtain ⟨f0,f1,f2,f3,f4,f5⟩:=hf it (by simp);have hl:=rv.length
  exact wpAny_pyNext_tuple_end (I.ok.hd hc) st (show s.heap.IsTuple a its.toArray from p) (by simp; omega) fun h' eb=>⟨rfl,I.turned (t':=s.toks) (fun b o hb e=>eb b o hb e) f0 f1 f3 f4 f5⟩
 self:=fun _ _ _ _ _ st h=>wpAny_pyIter_tupleiter st h
theorem QoF {P:Program}{w:World}{K:PySem.W.Frag}{tg:Expr} (it:Addr) (lo:Int) (n:Nat):Turn P w K tg (Itr lo n) [it] it (fun i h=>IsRangeIter h it (lo+(i:Nat) * 1) ((n:Int) - (i:Nat)) 1) where
 mem:=by simp
 obj:=fun i h st b hb=>by
  have e:b=it:=by simpa using hb
  subst e
  exact ⟨_,st,fun v z=>by
   have z':Data.fields _=Data.cell v:=z
   cases z'⟩
 keep:=fun i h h' st k=>k it (by simp) _ st
 item:=by
  intro X hP hw hK hc i pins s σ H E I hf st hg;subst hP hw hK;obtain ⟨f0,f1,f2,f3,f4,f5⟩:=hf it (by simp);have W:=Walks.range (prog:=X.prog) (w:=X.w) (I.ok.hd hc) it lo 1 n
  refine W.item i s _ _ hg st fun v h' tk hv st' kk=>?_
  obtain ⟨t,rfl⟩:=hv;have I1:Inv X pins σ H { s with heap:=h',toks:=tk }:=I.turned (fun b o hb e=>kk b o (by simpa using hb) e) f0 f1 f3 f4 f5;refine ⟨_,rfl,Qhq (s:={ s with heap:=h',toks:=tk }) (n:="range_iterator") st' rfl rfl (by decide) ⟨.int (lo+i),H,I1,⟨t,?_⟩,⟨rfl,rfl⟩,st',fun b hb=>(hf b hb).1⟩⟩;rw [Int.mul_one]
 done:=by
  intro X hP hw hK hc i pins s σ H E I hf st hg;subst hP hw hK;obtain ⟨f0,f1,f2,f3,f4,f5⟩:=hf it (by simp)
  exact wpAny_pyNext_range_end (I.ok.hd hc) st (by have:n≤i:=hg; omega) fun h' eb=>⟨rfl,I.turned (t':=s.toks) (fun b o hb e=>eb b o hb e) f0 f1 f3 f4 f5⟩
 self:=fun _ _ _ _ _ st h=>wpAny_pyIter_rangeiter st h
section
variable {X:Cx}{tg:Expr}
def Qw3 (K:PySem.W.Frag) (tl:TE):TI:=fun σ H R=>tl σ H fun x H1=>∃a,x = .ref a∧(∃xs,SqL K H1 a xs)∧R (Itl K a) H1
def Qyc (K:PySem.W.Frag) (tl:TE):TI:=fun σ H R=>tl σ H fun x H1=>∃a,x = .ref a∧(∃xs,SqT K H1 a xs)∧R (Itt K a) H1
theorem QnR {l:Expr}{tl:TE} (hl:PE X l tl):PI X tg l (Qw3 X.K tl):=by
 intro pins s σ H R I h
 refine thn (hl pins s σ H _ I h) fun v s1 ⟨x,H1,I1,r1,q1⟩=>?_
 obtain ⟨a,e,⟨xs,hq⟩,q⟩:=q1;subst e;cases r1;obtain ⟨its,rv,p,hz⟩:=I1.list hq;refine wpAny_pyIter_list p.isList ?_;refine ⟨s1.heap.objs.size,[s1.heap.objs.size],_,_,H1,rfl,I1.kept (t':=s1.toks) fun b o e=>zn _ e,QqW a _,⟨_,zw _ rfl,rfl,rfl⟩,fun b hb=>?_,q⟩
 have e:b=s1.heap.objs.size:=by simpa using hb
 subst e;exact I1.fpOk (ze _) (I1.hok.fresh (ze _))
theorem Qwo {l:Expr}{tl:TE} (hl:PE X l tl):PI X tg l (Qyc X.K tl):=by
 intro pins s σ H R I h
 refine thn (hl pins s σ H _ I h) fun v s1 ⟨x,H1,I1,r1,q1⟩=>?_
 obtain ⟨a,e,⟨xs,hq⟩,q⟩:=q1;subst e;cases r1;obtain ⟨its,rv,p,hz⟩:=I1.tuple hq;refine wpAny_pyIter_tuple (show s1.heap.IsTuple a its.toArray from p) ?_;refine ⟨s1.heap.objs.size,[s1.heap.objs.size],_,_,H1,rfl,I1.kept (t':=s1.toks) fun b o e=>zn _ e,QoQ a _,⟨_,zw _ rfl,rfl,rfl⟩,fun b hb=>?_,q⟩
 have e:b=s1.heap.objs.size:=by simpa using hb
 subst e;exact I1.fpOk (ze _) (I1.hok.fresh (ze _))
theorem QmF {pins:List (Addr×Obj)}{σ:St}{H:Hp}{s:Shared}{R:It→Hp→Prop}{E:Value→Shared→Prop}{lo hi:Int}{t u v:Tok}{tk:Nat} (I:Inv X pins σ H s) (h1:-(2 ^ 62)≤lo) (h2:lo < 2 ^ 62) (h3:-(2 ^ 62)≤hi) (h4:hi < 2 ^ 62)
  (q:R (Itr lo (hi - lo).toNat) H):wpAny (model X.prog X.w) X.A (pyIter (.ref s.heap.objs.size)) (PIE X pins σ tg R) E { s with heap:=s.heap.push { cls:=.type "range",data:=.fields #[.int lo t,.int hi u,.int 1 v] },toks:=tk }:=by
 refine wpAny_pyIter_range (IsRange.new ..) (small_one h1 h2 h3 h4) ?_
 have I1:Inv X pins σ H { s with heap:=s.heap.push { cls:=.type "range",data:=.fields #[.int lo t,.int hi u,.int 1 v] },toks:=tk }:=I.kept fun b o e=>zn _ e
 refine ⟨(s.heap.push { cls:=.type "range",data:=.fields #[.int lo t,.int hi u,.int 1 v] }).objs.size,[(s.heap.push { cls:=.type "range",data:=.fields #[.int lo t,.int hi u,.int 1 v] }).objs.size],_,_,H,rfl,
  I1.kept (t':=tk) fun b o e=>zn _ e,QoF _ lo (hi - lo).toNat,?_,fun b hb=>?_,q⟩
 ·have e1:lo+((0:Nat):Int) * 1=lo:=by simp
  have e2:(((hi - lo).toNat:Nat):Int) - ((0:Nat):Int)=Builtin.Range.rangeSize lo hi 1:=by rw [rangeSize_one]; split <;> omega
  show IsRangeIter _ _ (lo+((0:Nat):Int) * 1) ((((hi - lo).toNat:Nat):Int) - ((0:Nat):Int)) 1;rw [e1,e2];exact zw _ rfl
 ·have e:b=(s.heap.push { cls:=.type "range",data:=.fields #[.int lo t,.int hi u,.int 1 v] }).objs.size:=by simpa using hb
  subst e;exact I1.fpOk (ze _) (I1.hok.fresh (ze _))
def Qxo (ta:TA):TI:=fun σ H R=>ta σ H fun vs H1=>∃j:Int,vs = [.int j]∧-(2 ^ 62)≤j∧j < 2 ^ 62∧R (Itr 0 j.toNat) H1
def Qxd (ta:TA):TI:=fun σ H R=>ta σ H fun vs H1=>∃i j:Int,vs = [.int i,.int j]∧(-(2 ^ 62)≤i∧i < 2 ^ 62∧-(2 ^ 62)≤j∧j < 2 ^ 62)∧R (Itr i (j - i).toNat) H1
theorem QqN {a:Expr}{ta:TA}{p pos:Pos} (hg:Gl X "range") (hm:X.mg "range" = none) (ha:PA X [a] ta) (hs:starEach [a] X.env = [(false,eval a X.env)]:=by rfl):PI X tg (.Call (.Name "range" p) [a] [] pos) (Qxo ta):=by
 intro pins s σ H R I h;refine Call_ (QdE I hg hm boot_range (PyProof.Rows.callWith_type1 (thn (ha pos pins s σ H _ I h) fun us s1 ⟨vs,H1,I1,r1,q1⟩=>?_) hs rfl));obtain ⟨j,e,q1,q2,q⟩:=q1;subst e
 cases r1 with
 | cons r rr =>
  cases rr;obtain ⟨t,rfl⟩:=r;exact call_range_1 (QmF I1 (by omega) (by omega) q1 q2 (by simpa using q))
theorem Qqa {a b:Expr}{ta:TA}{p pos:Pos} (hg:Gl X "range") (hm:X.mg "range" = none) (ha:PA X [a,b] ta) (hs:starEach [a,b] X.env = [(false,eval a X.env),(false,eval b X.env)]:=by rfl) (hs2:starEach [b] X.env = [(false,eval b X.env)]:=by rfl) :
  PI X tg (.Call (.Name "range" p) [a,b] [] pos) (Qxd ta):=by
 intro pins s σ H R I h;refine Call_ (QdE I hg hm boot_range (PyProof.Rows.callWith_type1 (thn (ha pos pins s σ H _ I h) fun us s1 ⟨vs,H1,I1,r1,q1⟩=>?_) (by rw [hs,hs2]) (by rw [hs2]; rfl)));obtain ⟨i,j,e,⟨q1,q2,q3,q4⟩,q⟩:=q1;subst e
 cases r1 with
 | cons r rr =>
  cases rr with
  | cons r' rr =>
   cases rr;obtain ⟨t,rfl⟩:=r;obtain ⟨t',rfl⟩:=r';exact call_range_2 (QmF I1 q1 q2 q3 q4 q)
def Qwz (wi:TI) (g:TG) (tb:TS):TS:=fun D σ H=>wi σ H fun J H1=>∃W:Nat→Nat→St→Hp→Prop,(∃m,W 0 m σ H1)∧∀i m σ H,W i m σ H →
 (J.stop i H∧D.nx σ H)∨(J.go i H∧∃N:St→Hp→Prop,(∀σ' H',N σ' H'→∃m',m' < m∧W (i+1) m' σ' H')∧∀x H',J.yld i H x H'→g x σ H' fun σ2 H2=>tb { D with nx:=N,ct:=N,bk:=D.nx } σ2 H2)
def Qir (fp:List Addr) (h:Heap):List (Addr×Obj):=fp.filterMap fun b=>(h.get? b).map fun o=>(b,o)
theorem Qfs {fp:List Addr}{h:Heap}{b:Addr}{o:Obj} (hb:b∈fp) (e:h.get? b=some o):(b,o)∈Qir fp h:=List.mem_filterMap.mpr ⟨b,hb,by rw [e]; rfl⟩
theorem Qp5 {fp:List Addr}{h:Heap}{p:Addr×Obj} (hp:p∈Qir fp h):p.1∈fp∧h.get? p.1=some p.2:=by
 obtain ⟨b,hb,e⟩:=List.mem_filterMap.mp hp
 cases q:h.get? b with
 | none=>rw [q] at e; cases e
 | some o =>
  rw [q] at e;have e':(b,o)=p:=zE e;subst e';exact ⟨hb,q⟩
theorem Inv.pinned {pins:List (Addr×Obj)}{σ:St}{H:Hp}{s:Shared}{fp:List Addr} (I:Inv X pins σ H s) (hf:∀b∈fp,Qfm X pins H b) (ho:∀b∈fp,∃o,s.heap.get? b=some o∧∀v,o.data≠.cell v):Inv X (pins++Qir fp s.heap) σ H s :=
 I.pins_of fun p hp=>(zD.mp hp).elim (fun z=>I.pin p (zJ _ z)) fun z=>by
  obtain ⟨hb,e⟩:=Qp5 z;obtain ⟨f0,f1,f2,_⟩:=hf p.1 hb;obtain ⟨o,e',d⟩:=ho p.1 hb;rw [e] at e'; cases e';exact ⟨e,f0,f1,f2,d⟩
theorem Inv.unpinned {pins pl:List (Addr×Obj)}{σ:St}{H:Hp}{s:Shared} (I:Inv X (pins++pl) σ H s):Inv X pins σ H s:=I.pins_of fun p hp=>I.pin p (zJ _ (jq _ hp))
theorem QuU {iter:Expr}{body:List Stmt}{wi:TI}{g:TG}{tb:TS}{pos:Pos} (hp:PassesOwn (model X.prog X.w) X.A X.env X.xe) (hc:X.calm=true) (hi:PI X tg iter wi) (hg:PG X tg g) (hb:PSs X body tb)
  (hs:∀x,foldedSetIterable iter X.env x=pure x:=by intro _; rfl):PS X (.For tg iter body [] pos) (Qwz wi g tb):=by
 intro pins s σ H D I h;refine wpAny_For (thn (hi pins s σ H _ I h) fun v s1 h1=>thn h1 fun itv s2 h2=>?_) hs;obtain ⟨it,fp,tn,J,H2,e,I2,T,st2,f2,W,⟨m0,w0⟩,turn⟩:=h2;subst e
 have stat:∀{H':Hp},(∀b∈fp,H' b=none)→∀b∈fp,Qfm X pins H' b:=fun hn b hb=>⟨hn b hb,(f2 b hb).2⟩
 refine codeAny_forLoop_any (fun n s'=>∃i σ' H',Inv X pins σ' H' s'∧tn i s'.heap∧(∀b∈fp,H' b=none)∧W i n σ' H') ?_ m0 ⟨0,σ,H2,I2,st2,fun b hb=>(f2 b hb).1,w0⟩;rintro n s3 ⟨i,σ3,H3,I3,st3,fr3,w3⟩
 rcases turn i n σ3 H3 w3 with ⟨stop,qn⟩ | ⟨go,N,hN,step⟩
 ·refine wpAny_passesOwn hp (thn (T.done X rfl rfl rfl hc i pins s3 σ3 H3 X.xe I3 (stat fr3) st3 stop) fun r s4 ⟨hr,I4⟩=>?_);subst hr;exact wpAny_execs_nil ⟨σ3,H3,I4,qn⟩
 ·refine wpAny_passesOwn hp (thn (T.item X rfl rfl rfl hc i pins s3 σ3 H3 X.xe I3 (stat fr3) st3 go) fun r s4 ⟨u,hr,h4⟩=>?_);subst hr;refine wpAny_passesOwn hp (thn h4 fun _ s5 ⟨x,H5,I5,r5,y5,st5,fr5⟩=>?_);have I5':=I5.pinned (stat fr5) (T.obj _ _ st5);refine wpAny_passesOwn hp (thn (hg _ s5 σ3 H5 x u _ I5' r5 (step x H5 y5)) fun _ s6 ⟨σ6,H6,I6,q6⟩=>?_);refine wpAny_passesOwn hp (thn (hb _ s6 σ6 H6 _ I6 q6) fun f s7 q7=>?_)
  have again:∀{σ7:St}{H7:Hp},Inv X (pins++Qir fp s5.heap) σ7 H7 s7→N σ7 H7→∃m,m < n∧∃i σ' H',Inv X pins σ' H' s7∧tn i s7.heap∧(∀b∈fp,H' b=none)∧W i m σ' H':=fun {σ7 H7} I7 n7=>by
   obtain ⟨m',hm,w7⟩:=hN σ7 H7 n7;refine ⟨m',hm,i+1,σ7,H7,I7.unpinned,T.keep _ _ _ st5 fun b hb o e=>(I7.pin (b,o) (zJ _ (zJ _ (Qfs hb e)))).1,fun b hb=>?_,w7⟩;obtain ⟨o,e,d⟩:=T.obj _ _ st5 b hb;exact (I7.pin (b,o) (zJ _ (zJ _ (Qfs hb e)))).2.1
  cases f with
  | next=>obtain ⟨σ7,H7,I7,n7⟩:=q7; exact again I7 n7
  | cont=>obtain ⟨σ7,H7,I7,n7⟩:=q7; exact again I7 n7
  | brk=>obtain ⟨σ7,H7,I7,q7⟩:=q7; exact ⟨σ7,H7,I7.unpinned,q7⟩
  | ret v=>obtain ⟨x7,σ7,H7,I7,r7,q7⟩:=q7; exact ⟨x7,σ7,H7,I7.unpinned,r7,q7⟩
end
abbrev R2:=V→V→Hp→VK→Prop
def OpR (X:Cx) (f:Value→Value→Sem Value) (r:R2):Prop :=
 ∀(pins:List (Addr×Obj)) (s:Shared) (σ:St) (H:Hp) (x y:V) (v u:Value) (Q:VK),Inv X pins σ H s→RelV x v→RelV y u→r x y H Q →
  wpAny (model X.prog X.w) X.A (f v u) (EP X pins σ Q) X.xe s
def UnR (X:Cx) (f:Value→Sem Value) (r:V→Hp→VK→Prop):Prop :=
 ∀(pins:List (Addr×Obj)) (s:Shared) (σ:St) (H:Hp) (x:V) (v:Value) (Q:VK),Inv X pins σ H s→RelV x v→r x H Q →
  wpAny (model X.prog X.w) X.A (f v) (EP X pins σ Q) X.xe s
def Qeq (X:Cx) (f:Value) (r:List V→Hp→VK→Prop):Prop :=
 ∀(pins:List (Addr×Obj)) (s:Shared) (σ:St) (H:Hp) (xs:List V) (us:List Value) (Q:VK),Inv X pins σ H s→Qay xs us→r xs H Q →
  wpAny (model X.prog X.w) X.A (call f us) (EP X pins σ Q) X.xe s
def Qyh (X:Cx) (r:V→Hp→(Bool→Hp→Prop)→Prop):Prop :=
 ∀(pins:List (Addr×Obj)) (s:Shared) (σ:St) (H:Hp) (x:V) (v:Value) (Q:Bool→Hp→Prop),Inv X pins σ H s→RelV x v→r x H Q →
  wpAny (model X.prog X.w) X.A (truthy v) (TP X pins σ Q) X.xe s
def tOp (r:R2) (ta tb:TE):TE:=fun σ H Q=>ta σ H fun x H1=>tb σ H1 fun y H2=>r x y H2 Q
def tUn (r:V→Hp→VK→Prop) (ta:TE):TE:=fun σ H Q=>ta σ H fun x H1=>r x H1 Q
def rI (C:Int→Int→Prop) (g:Int→Int→V):R2:=fun x y H Q=>∃i j,x = .int i∧y = .int j∧C i j∧Q (g i j) H
def rI0 (g:Int→Int→V):R2:=fun x y H Q=>∃i j,x = .int i∧y = .int j∧Q (g i j) H
def rU (g:Int→V):V→Hp→VK→Prop:=fun x H Q=>∃i,x = .int i∧Q (g i) H
section
variable {X:Cx}{a b c:Expr}{ta tb tc:TE}{pos:Pos}
theorem Qst (ha:PE X a ta) (hb:PE X b tb) {pins:List (Addr×Obj)}{s:Shared}{σ:St}{H:Hp}{R:V→V→Hp→Prop} (I:Inv X pins σ H s)
  (h:ta σ H fun x H1=>tb σ H1 fun y H2=>R x y H2) {Q:Value→Shared→Prop}{f:Value→Value→Sem Value}
  (hf:∀v u s2 x y H2,Inv X pins σ H2 s2→RelV x v→RelV y u→R x y H2→wpAny (model X.prog X.w) X.A (f v u) Q X.xe s2) :
  wpAny (model X.prog X.w) X.A (eval a X.env) (fun v s₁=>wpAny (model X.prog X.w) X.A (eval b X.env) (fun u s₂=>wpAny (model X.prog X.w) X.A (f v u) Q X.xe s₂) X.xe s₁) X.xe s:=by
 refine thn (ha pins s σ H _ I h) fun v s1 ⟨x,H1,I1,r1,q1⟩=>?_
 refine thn (hb pins s1 σ H1 _ I1 q1) fun u s2 ⟨y,H2,I2,r2,q2⟩=>?_
 exact hf v u s2 x y H2 I2 r1 r2 q2
theorem QxS {op:Operator}{r:R2} (ho:OpR X (binaryOp op) r) (ha:PE X a ta) (hb:PE X b tb):PE X (.BinOp a op b pos) (tOp r ta tb):=by
 intro pins s σ H Q I h;exact wpAny_BinOp (Qst ha hb I h fun v u s2 x y H2 I2 rx ry q=>ho pins s2 σ H2 x y v u Q I2 rx ry q)
theorem Qxv {op:UnaryOp}{r:V→Hp→VK→Prop} (ho:UnR X (unaryOp op) r) (ha:PE X a ta):PE X (.UnaryOp op a pos) (tUn r ta):=by
 intro pins s σ H Q I h;exact UnaryOp_ (thn (ha pins s σ H _ I h) fun v s1 ⟨x,H1,I1,r1,q1⟩=>ho pins s1 σ H1 x v Q I1 r1 q1)
theorem opI {f:Value→Value→Sem Value}{C:Int→Int→Prop}{g:Int→Int→Int}
  (rule:∀(i j:Int) (t u:Tok) (s:Shared) (Q:Value→Shared→Prop) (E:Value→Shared→Prop),C i j→Q (.int (g i j) s.toks) { s with toks:=s.toks+1 }→wpAny (model X.prog X.w) X.A (f (.int i t) (.int j u)) Q E s) :
  OpR X f (rI C fun i j=>.int (g i j)):=by
 intro pins s σ H x y v u Q I rx ry h;obtain ⟨i,j,rfl,rfl,hc,q⟩:=h;obtain ⟨t,rfl⟩:=rx;obtain ⟨t',rfl⟩:=ry;exact rule i j t t' s _ _ hc ⟨.int (g i j),H,I.tok _,⟨_,rfl⟩,q⟩
theorem QwP {f:Value→Value→Sem Value}{g:Int→Int→Int}
  (rule:∀(i j:Int) (t u:Tok) (s:Shared) (Q:Value→Shared→Prop) (E:Value→Shared→Prop),Q (.int (g i j) s.toks) { s with toks:=s.toks+1 }→wpAny (model X.prog X.w) X.A (f (.int i t) (.int j u)) Q E s) :
  OpR X f (rI0 fun i j=>.int (g i j)):=by
 intro pins s σ H x y v u Q I rx ry h;obtain ⟨i,j,rfl,rfl,q⟩:=h;obtain ⟨t,rfl⟩:=rx;obtain ⟨t',rfl⟩:=ry;exact rule i j t t' s _ _ ⟨.int (g i j),H,I.tok _,⟨_,rfl⟩,q⟩
theorem QrX {f:Value→Value→Sem Value}{g:Int→Int→Bool}
  (rule:∀(i j:Int) (t u:Tok) (s:Shared) (Q:Value→Shared→Prop) (E:Value→Shared→Prop),Q (.bool (g i j)) s→wpAny (model X.prog X.w) X.A (f (.int i t) (.int j u)) Q E s) :
  OpR X f (rI0 fun i j=>.bl (g i j)):=by
 intro pins s σ H x y v u Q I rx ry h;obtain ⟨i,j,rfl,rfl,q⟩:=h;obtain ⟨t,rfl⟩:=rx;obtain ⟨t',rfl⟩:=ry;exact rule i j t t' s _ _ ⟨.bl (g i j),H,I,rfl,q⟩
def QyL (i j:Int):Prop:=0 < j∧j < 1073741824
def QyG (i j:Int):Prop:=0≤j∧j≤1000000∧i.natAbs < 2 ^ 64
def Qsj (i j:Int):Prop:=(-(2 ^ 64) < i∧i < 2 ^ 64)∨(-(2 ^ 64) < j∧j < 2 ^ 64)
theorem Qsj.ok {i j:Int} (h:Qsj i j):IntMulOk i j:=by
 rcases h with ⟨h1,h2⟩ | ⟨h1,h2⟩
 ·exact .of_left (intBits_le_64 h1 h2)
 ·exact .of_right (intBits_le_64 h1 h2)
theorem QvB:OpR X (binaryOp .Add) (rI0 fun i j=>.int (i+j)):=QwP fun _ _ _ _ _ _ _ q=>add_int q
theorem Qvg:OpR X (binaryOp .Sub) (rI0 fun i j=>.int (i - j)):=QwP fun _ _ _ _ _ _ _ q=>sub_int q
theorem Qvn:OpR X (binaryOp .Mult) (rI Qsj fun i j=>.int (i * j)):=opI fun _ _ _ _ _ _ _ hc q=>mul_int q hc.ok
theorem QtU:OpR X (binaryOp .FloorDiv) (rI QyL fun i j=>.int (i / j)):=opI fun i j _ _ _ _ _ hc q=>by
 have h1:(0:Int) < j:=hc.1;have h2:j < 1073741824:=hc.2;exact floordiv_int (by omega) (by rw [Int.fdiv_eq_ediv_of_nonneg i (by omega)]; exact q) (.inl (PyProof.noPylong_small (by omega)))
theorem QvY:OpR X (binaryOp .Mod) (rI (fun _ j=>0 < j) fun i j=>.int (i % j)):=opI fun i j _ _ _ _ _ hc q=>by
 have h1:(0:Int) < j:=hc;exact mod_int' (by omega) (by rw [Int.fmod_eq_emod_of_nonneg i (by omega)]; exact q)
theorem Qv3:OpR X (binaryOp .Pow) (rI QyG fun i j=>.int (i ^ j.toNat)):=opI fun _ _ _ _ _ _ _ hc q=>pow_int_small hc.1 hc.2.1 hc.2.2 q
theorem unI {f:Value→Sem Value}{g:Int→Int}
  (rule:∀(i:Int) (t:Tok) (s:Shared) (Q:Value→Shared→Prop) (E:Value→Shared→Prop),Q (.int (g i) s.toks) { s with toks:=s.toks+1 }→wpAny (model X.prog X.w) X.A (f (.int i t)) Q E s) :
  UnR X f (rU fun i=>.int (g i)):=by
 intro pins s σ H x v Q I rx h;obtain ⟨i,rfl,q⟩:=h;obtain ⟨t,rfl⟩:=rx;exact rule i t s _ _ ⟨.int (g i),H,I.tok _,⟨_,rfl⟩,q⟩
theorem QuQ:UnR X (unaryOp .USub) (rU fun i=>.int (-i)):=unI fun _ _ _ _ _ q=>neg_int q
theorem QpY:OpR X (binaryOp .Add) (fun x y H Q=>∃i k,x = .int i∧y = .bl k∧Q (.int (i+b2i k)) H):=by
 intro pins s σ H x y v u Q I rx ry h;obtain ⟨i,k,rfl,rfl,q⟩:=h;obtain ⟨t,rfl⟩:=rx;cases ry;exact add_int_bool ⟨.int (i+b2i k),H,I.tok _,⟨_,rfl⟩,q⟩
end
def QuS:V→V→Bool
 | .non,.non=>true | .non,.int _=>true | .int _,.non=>true | .non,.bl _=>true | .bl _,.non=>true | .non,.str _=>true | .str _,.non=>true
 | .int _,.int _=>true | .bl _,.bl _=>true | .str _,.str _=>true | .byt _,.byt _=>true
 | .int _,.str _=>true | .str _,.int _=>true | .bl _,.str _=>true | .str _,.bl _=>true
 | _,_=>false
def rEq:R2:=fun x y H Q=>QuS x y=true∧Q (.bl (decide (x=y))) H
def rNe:R2:=fun x y H Q=>QuS x y=true∧Q (.bl (!decide (x=y))) H
theorem QnM {i j:Int}:decide (V.int i=V.int j)=(i == j):=by
 rw [Bool.eq_iff_iff];simp
theorem QpK {i j:Bool}:decide (V.bl i=V.bl j)=(i == j):=by
 rw [Bool.eq_iff_iff];simp
theorem QnQ {i j:Str}:decide (V.str i=V.str j)=(i == j):=by
 rw [Bool.eq_iff_iff];simp
theorem Qn2 {i j:Array UInt8}:decide (V.byt i=V.byt j)=(i.toList == j.toList):=by
 rw [Bool.eq_iff_iff];cases i;cases j;simp
section
variable {X:Cx}{a b c:Expr}{ta tb tc:TE}{pos:Pos}
theorem Qa5 {pins:List (Addr×Obj)}{σ:St}{H:Hp}{s:Shared}{Q:VK}{k k':Bool} (I:Inv X pins σ H s) (q:Q (.bl k) H) (e:k=k'):EP X pins σ Q (.bool k') s:=by
 subst e;exact ⟨.bl k,H,I,rfl,q⟩
theorem QoJ:OpR X (compareOp .Eq) rEq:=by
 intro pins s σ H x y v u Q I rx ry h;obtain ⟨hs,q⟩:=h
 cases x with
 | non =>
  cases rx
  cases y with
  | non=>cases ry; exact PySem.EqNone.eq_none_none (Qa5 I q (by simp))
  | bl j=>cases ry; exact PySem.EqNone.eq_none_bool (Qa5 I q (by simp))
  | int j=>obtain ⟨t',rfl⟩:=ry; exact PySem.EqNone.eq_none_int (Qa5 I q (by simp))
  | str j=>obtain ⟨t',rfl⟩:=ry; exact PySem.EqNone.eq_none_str (Qa5 I q (by simp))
  | _=>exact absurd (show false=true from hs) zg
 | bl i =>
  cases rx
  cases y with
  | non=>cases ry; exact PySem.EqNone.eq_bool_none (Qa5 I q (by simp))
  | bl j=>cases ry; exact eq_bool (Qa5 I q QpK)
  | str j=>obtain ⟨t',rfl⟩:=ry; exact PySem.EqMixed.eq_bool_str (Qa5 I q (by simp))
  | _=>exact absurd (show false=true from hs) zg
 | int i =>
  obtain ⟨t,rfl⟩:=rx
  cases y with
  | non=>cases ry; exact PySem.EqNone.eq_int_none (Qa5 I q (by simp))
  | int j=>obtain ⟨t',rfl⟩:=ry; exact eq_int (Qa5 I q QnM)
  | str j=>obtain ⟨t',rfl⟩:=ry; exact PySem.EqMixed.eq_int_str (Qa5 I q (by simp))
  | _=>exact absurd (show false=true from hs) zg
 | str i =>
  obtain ⟨t,rfl⟩:=rx
  cases y with
  | non=>cases ry; exact PySem.EqNone.eq_str_none (Qa5 I q (by simp))
  | bl j=>cases ry; exact PySem.EqMixed.eq_str_bool (Qa5 I q (by simp))
  | int j=>obtain ⟨t',rfl⟩:=ry; exact PySem.EqMixed.eq_str_int (Qa5 I q (by simp))
  | str j=>obtain ⟨t',rfl⟩:=ry; exact eq_str (Qa5 I q QnQ)
  | _=>exact absurd (show false=true from hs) zg
 | byt i =>
  obtain ⟨t,rfl⟩:=rx
  cases y with
  | byt j=>obtain ⟨t',rfl⟩:=ry; exact PySem.W.eq_bytes (Qa5 I q Qn2)
  | _=>exact absurd (show false=true from hs) zg
 | _=>cases y <;> exact absurd (show false=true from hs) zg
theorem QoZ:OpR X (compareOp .NotEq) rNe:=by
 intro pins s σ H x y v u Q I rx ry h;obtain ⟨hs,q⟩:=h
 cases x with
 | non =>
  cases rx
  cases y with
  | non=>cases ry; exact PySem.EqNone.ne_none_none (Qa5 I q (by simp))
  | bl j=>cases ry; exact PySem.EqNone.ne_none_bool (Qa5 I q (by simp))
  | int j=>obtain ⟨t',rfl⟩:=ry; exact PySem.EqNone.ne_none_int (Qa5 I q (by simp))
  | str j=>obtain ⟨t',rfl⟩:=ry; exact PySem.EqNone.ne_none_str (Qa5 I q (by simp))
  | _=>exact absurd (show false=true from hs) zg
 | bl i =>
  cases rx
  cases y with
  | non=>cases ry; exact PySem.EqNone.ne_bool_none (Qa5 I q (by simp))
  | bl j=>cases ry; exact ne_bool (Qa5 I q (congrArg not QpK))
  | str j=>obtain ⟨t',rfl⟩:=ry; exact PySem.EqMixed.ne_bool_str (Qa5 I q (by simp))
  | _=>exact absurd (show false=true from hs) zg
 | int i =>
  obtain ⟨t,rfl⟩:=rx
  cases y with
  | non=>cases ry; exact PySem.EqNone.ne_int_none (Qa5 I q (by simp))
  | int j=>obtain ⟨t',rfl⟩:=ry; exact ne_int (Qa5 I q (congrArg not QnM))
  | str j=>obtain ⟨t',rfl⟩:=ry; exact PySem.EqMixed.ne_int_str (Qa5 I q (by simp))
  | _=>exact absurd (show false=true from hs) zg
 | str i =>
  obtain ⟨t,rfl⟩:=rx
  cases y with
  | non=>cases ry; exact PySem.EqNone.ne_str_none (Qa5 I q (by simp))
  | bl j=>cases ry; exact PySem.EqMixed.ne_str_bool (Qa5 I q (by simp))
  | int j=>obtain ⟨t',rfl⟩:=ry; exact PySem.EqMixed.ne_str_int (Qa5 I q (by simp))
  | str j=>obtain ⟨t',rfl⟩:=ry; exact ne_str (Qa5 I q (congrArg not QnQ))
  | _=>exact absurd (show false=true from hs) zg
 | byt i =>
  obtain ⟨t,rfl⟩:=rx
  cases y with
  | byt j=>obtain ⟨t',rfl⟩:=ry; exact PySem.W.ne_bytes (Qa5 I q (congrArg not Qn2))
  | _=>exact absurd (show false=true from hs) zg
 | _=>cases y <;> exact absurd (show false=true from hs) zg
theorem Qxb:OpR X (compareOp .Lt) (rI0 fun i j=>.bl (decide (i < j))):=QrX fun _ _ _ _ _ _ _ q=>lt_int q
theorem Qxr:OpR X (compareOp .LtE) (rI0 fun i j=>.bl (decide (i≤j))):=QrX fun _ _ _ _ _ _ _ q=>le_int q
theorem Qw7:OpR X (compareOp .Gt) (rI0 fun i j=>.bl (decide (j < i))):=QrX fun _ _ _ _ _ _ _ q=>gt_int q
theorem QpO:OpR X (compareOp .In) (fun x y H Q=>∃i j,x = .str i∧y = .str j∧Q (.bl (!(Builtin.Str.occurrences j i 0 j.length 1).isEmpty)) H):=by
 intro pins s σ H x y v u Q I rx ry h;obtain ⟨i,j,rfl,rfl,q⟩:=h;obtain ⟨t,rfl⟩:=rx;obtain ⟨t',rfl⟩:=ry;exact in_str (Qa5 I q rfl)
theorem Qa6 (b:Expr) {op:CmpOp} (h:op≠.In:=by decide) (h2:op≠.NotIn:=by decide):behindInMarks op b=false:=by
 have e1:(op == CmpOp.In)=false:=by cases op <;> first | rfl | exact absurd rfl h
 have e2:(op == CmpOp.NotIn)=false:=by cases op <;> first | rfl | exact absurd rfl h2
 cases b <;> simp [behindInMarks,e1,e2]
theorem QtK {op:CmpOp}{r:R2} (ho:OpR X (compareOp op) r) (ha:PE X a ta) (hb:PE X b tb) (hm:behindInMarks op b=false):PE X (.Compare a [op] [b] pos) (tOp r ta tb):=by
 intro pins s σ H Q I h;exact wpAny_Compare1 (Qst ha hb I h fun v u s2 x y H2 I2 rx ry q=>ho pins s2 σ H2 x y v u Q I2 rx ry q) hm
def QlA (t:TE):TT:=fun σ H Q=>t σ H fun x H'=>∃k,x = .bl k∧Q k H'
theorem Qt7 {op:CmpOp}{r:R2} (ho:OpR X (compareOp op) r) (ha:PE X a ta) (hb:PE X b tb) (hm:behindInMarks op b=false):PT X (.Compare a [op] [b] pos) (QlA (tOp r ta tb)):=by
 intro pins s σ H Q I h
 refine wpAny_isTrue_Compare1 (thn (ha pins s σ H _ I h) fun v s1 ⟨x,H1,I1,r1,q1⟩=>thn (hb pins s1 σ H1 _ I1 q1) fun u s2 ⟨y,H2,I2,r2,q2⟩ =>
  thn (ho pins s2 σ H2 x y v u _ I2 r1 r2 q2) fun c s3 ⟨z,H3,I3,r3,k,e,q3⟩=>?_) hm
 subst e;cases r3;exact wpAny_truthy_bool ⟨H3,I3,q3⟩
def QlP (r r':R2) (ta tb tc:TE):TE:=fun σ H Q=>ta σ H fun x H1=>tb σ H1 fun y H2=>r x y H2 fun z H3=>∃k,z = .bl k ∧
 (if k=true then tc σ H3 fun w' H4=>r' y w' H4 Q else Q (.bl false) H3)
theorem Qr6 {op op':CmpOp}{r r':R2} (ho:OpR X (compareOp op) r) (ho':OpR X (compareOp op') r') (ha:PE X a ta) (hb:PE X b tb) (hc:PE X c tc)
  (hm:lastMarks [op,op'] [b,c]=false:=by with_unfolding_all rfl):PE X (.Compare a [op,op'] [b,c] pos) (QlP r r' ta tb tc):=by
 intro pins s σ H Q I h
 refine Compare_chain (thn (ha pins s σ H _ I h) fun v s1 ⟨x,H1,I1,r1,q1⟩=>chain_link (thn (hb pins s1 σ H1 _ I1 q1) fun u s2 ⟨y,H2,I2,r2,q2⟩ =>
  thn (ho pins s2 σ H2 x y v u _ I2 r1 r2 q2) fun d s3 ⟨z,H3,I3,r3,k,e,q3⟩=>?_)) hm
 subst e;cases r3;refine wpAny_truthy_bool ?_
 cases k with
 | false=>exact ite_ff ⟨.bl false,H3,I3,rfl,q3⟩
 | true=>exact ite_tt (chain_last (thn (hc pins s3 σ H3 _ I3 q3) fun w' s4 ⟨z',H4,I4,r4,q4⟩=>ho' pins s4 σ H4 y z' u w' Q I4 r2 r4 q4))
theorem Qr8 {op op':CmpOp}{r r':R2} (ho:OpR X (compareOp op) r) (ho':OpR X (compareOp op') r') (ha:PE X a ta) (hb:PE X b tb) (hc:PE X c tc)
  (hm:lastMarks [op,op'] [b,c]=false:=by with_unfolding_all rfl):PT X (.Compare a [op,op'] [b,c] pos) (QlA (QlP r r' ta tb tc)):=by
 intro pins s σ H Q I h
 refine isTrue_chain (thn (ha pins s σ H _ I h) fun v s1 ⟨x,H1,I1,r1,q1⟩=>test_link (thn (hb pins s1 σ H1 _ I1 q1) fun u s2 ⟨y,H2,I2,r2,q2⟩ =>
  thn (ho pins s2 σ H2 x y v u _ I2 r1 r2 q2) fun d s3 ⟨z,H3,I3,r3,k,e,q3⟩=>?_)) hm
 subst e;cases r3;refine wpAny_truthy_bool ?_
 cases k with
 | false =>
  obtain ⟨k',e',q'⟩:=q3;cases e';exact ite_ff ⟨H3,I3,q'⟩
 | true =>
  refine ite_tt (test_last (thn (hc pins s3 σ H3 _ I3 q3) fun w' s4 ⟨z',H4,I4,r4,q4⟩=>thn (ho' pins s4 σ H4 y z' u w' _ I4 r2 r4 q4) fun d' s5 ⟨z2,H5,I5,r5,k2,e2,q5⟩=>?_));subst e2;cases r5;exact wpAny_truthy_bool ⟨H5,I5,q5⟩
def Qrt (K:PySem.W.Frag) (x:V) (H:Hp) (k:Bool):Prop :=
 match x with
 | .non=>k=false
 | .bl b=>k=b
 | .int i=>k=(i != 0)
 | .str y=>y.length≤sizeLine∧k=((y.length:Int) != 0)
 | .byt y=>y.size≤sizeLine∧k=((y.size:Int) != 0)
 | .ref p=>(∃xs,SqL K H p xs∧k = !xs.isEmpty)∨(∃xs,SqT K H p xs∧k = !xs.isEmpty)∨∃kvs,H p=some (.dK kvs)∧k = !kvs.isEmpty
 | _=>False
theorem Qow {κ:Type}{kvs:List (κ×V)}{vs:List (κ×Value)} (r:KV kvs vs):(!vs.isEmpty) = !kvs.isEmpty:=by
 cases r <;> rfl
theorem QjF {xs:List V}{its:List Value} (r:Qay xs its):(!its.toArray.isEmpty) = !xs.isEmpty:=by
 cases r <;> simp
theorem Qin:(sizeLine:Nat) < 2 ^ 63:=by rw [sizeLine_eq]; decide
theorem Qwg:Qyh X (fun x H Q=>∃k,Qrt X.K x H k∧Q k H):=by
 intro pins s σ H x v Q I rx h;obtain ⟨k,e,q⟩:=h;have hl:=Qin;have hs:sizeLine=16777216:=sizeLine_eq
 cases x with
 | non =>
  cases rx;have e':k=false:=e;subst e';exact truthy_none ⟨H,I,q⟩
 | bl b =>
  cases rx;have e':k=b:=e;subst e';exact wpAny_truthy_bool ⟨H,I,q⟩
 | int i =>
  obtain ⟨t,rfl⟩:=rx;have e':k=(i != 0):=e;subst e';exact PySem.P.truthy_int ⟨H,I,q⟩
 | str y =>
  obtain ⟨t,rfl⟩:=rx;obtain ⟨hy,e'⟩:y.length≤sizeLine∧k=((y.length:Int) != 0):=e;subst e';exact PySem.P.truthy_str (by omega) ⟨H,I.tok _,q⟩
 | byt y =>
  obtain ⟨t,rfl⟩:=rx;obtain ⟨hy,e'⟩:y.size≤sizeLine∧k=((y.size:Int) != 0):=e;subst e';exact PySem.W.truthy_bytes (by omega) ⟨H,I.tok _,q⟩
 | ref p =>
  cases rx;have e':(∃xs,SqL X.K H p xs∧k = !xs.isEmpty)∨(∃xs,SqT X.K H p xs∧k = !xs.isEmpty)∨∃kvs,H p=some (.dK kvs)∧k = !kvs.isEmpty:=e
  rcases e' with ⟨xs,hx,e'⟩ | ⟨xs,hx,e'⟩ | ⟨kvs,hx,e'⟩
  ·subst e';obtain ⟨its,r,pl,hz⟩:=I.list hx;have hlen:=r.length;exact wpAny_truthy_list pl.isList (by simp only [zp]; omega) ⟨H,I.tok _,by rw [QjF r]; exact q⟩
  ·subst e';obtain ⟨its,r,pl,hz⟩:=I.tuple hx;have hlen:=r.length;exact truthy_tuple pl (by simp only [zp]; omega) ⟨H,I.tok _,by rw [QjF r]; exact q⟩
  ·subst e';obtain ⟨hz,hS,vs,r,m⟩:kvs.length≤sizeLine∧(p == sysModules)=false∧∃vs,KV kvs vs∧s.heap.DictOf (QbS X.prog X.w) p vs:=I.hok p _ hx;have hlen:kvs.length=vs.length:=Paired.length r;exact wpAny_truthy_dict hS m (by omega) ⟨H,I.tok _,by rw [Qow r]; exact q⟩
 | _=>exact (show False from e).elim
theorem QrE (ha:PE X a ta) (he:∀whole,isTrue a X.env whole=(do let v ←whole; standAt a.pos; holding [v] (truthy v))) :
  PT X a (fun σ H Q=>ta σ H fun x H'=>∃k,Qrt X.K x H' k∧Q k H'):=by
 intro pins s σ H Q I h;exact isTrue_plain (thn (ha pins s σ H _ I h) fun v s1 ⟨x,H1,I1,r1,q1⟩=>Qwg pins s1 σ H1 x v Q I1 r1 q1) (he _)
theorem QoM:OpR X (binaryOp .Add) (fun x y H Q=>∃i j,x = .str i∧y = .str j∧i.length+j.length≤sizeLine∧Q (.str (i++j)) H):=by
 intro pins s σ H x y v u Q I rx ry h;obtain ⟨i,j,rfl,rfl,hz,q⟩:=h;obtain ⟨t,rfl⟩:=rx;obtain ⟨t',rfl⟩:=ry;exact add_str (fun t' tk=>⟨.str (i++j),H,I.tok _,⟨_,rfl⟩,q⟩) hz
theorem vals1 {x:V}{us:List Value} (r:Qay [x] us):∃u,us = [u]∧RelV x u:=by
 cases r with
 | cons r1 r2=>cases r2; exact ⟨_,rfl,r1⟩
theorem vals2 {x y:V}{us:List Value} (r:Qay [x,y] us):∃u w',us = [u,w']∧RelV x u∧RelV y w':=by
 cases r with
 | cons r1 r2 =>
  cases r2 with
  | cons r3 r4=>cases r4; exact ⟨_,_,rfl,r1,r3⟩
theorem Qph (hc:X.calm=true):Qeq X (.builtin "max") (fun xs H Q=>∃i j,xs = [.int i,.int j]∧Q (.int (if j > i then j else i)) H):=by
 intro pins s σ H xs us Q I r h;obtain ⟨i,j,rfl,q⟩:=h;obtain ⟨u,w',rfl,⟨t,rfl⟩,⟨t',rfl⟩⟩:=vals2 r
 refine max_two_ints (I.ok.hd hc) fun h' tk k=>⟨_,H,I.kept k,?_,q⟩
 by_cases hj:j > i
 ·rw [if_pos hj,if_pos hj]; exact ⟨_,rfl⟩
 ·rw [if_neg hj,if_neg hj]; exact ⟨_,rfl⟩
theorem QpC (hc:X.calm=true):Qeq X (.builtin "min") (fun xs H Q=>∃i j,xs = [.int i,.int j]∧Q (.int (if j < i then j else i)) H):=by
 intro pins s σ H xs us Q I r h;obtain ⟨i,j,rfl,q⟩:=h;obtain ⟨u,w',rfl,⟨t,rfl⟩,⟨t',rfl⟩⟩:=vals2 r
 refine min_two_ints (I.ok.hd hc) fun h' tk k=>⟨_,H,I.kept k,?_,q⟩
 by_cases hj:j < i
 ·rw [if_pos hj,if_pos hj]; exact ⟨_,rfl⟩
 ·rw [if_neg hj,if_neg hj]; exact ⟨_,rfl⟩
theorem QlB:Qeq X (.type "str") (fun xs H Q=>∃i,xs = [.int i]∧i.natAbs.log2 < 1920∧Q (.str (toString i)) H):=by
 intro pins s σ H xs us Q I r h;obtain ⟨i,rfl,hz,q⟩:=h;obtain ⟨u,rfl,t,rfl⟩:=vals1 r;exact PySem.P.str_of_int hz ⟨.str _,H,I.tok _,⟨_,rfl⟩,q⟩
def Qx9 (K:PySem.W.Frag) (x:V) (H:Hp) (n:Nat):Prop :=
 match x with
 | .str y=>y.length≤sizeLine∧n=y.length
 | .byt y=>y.size≤sizeLine∧n=y.size
 | .ref p=>(∃xs,SqL K H p xs∧n=xs.length)∨∃xs,SqT K H p xs∧n=xs.length
 | _=>False
theorem call_len:Qeq X (.builtin "len") (fun xs H Q=>∃x n,xs = [x]∧Qx9 X.K x H n∧Q (.int n) H):=by
 intro pins s σ H xs us Q I r h;obtain ⟨x,n,rfl,e,q⟩:=h;obtain ⟨u,rfl,rx⟩:=vals1 r;have hl:=Qin;have hs:sizeLine=16777216:=sizeLine_eq
 cases x with
 | str y =>
  obtain ⟨t,rfl⟩:=rx;obtain ⟨hy,e'⟩:y.length≤sizeLine∧n=y.length:=e;subst e';exact len_str (by omega) ⟨.int _,H,I.tok _,⟨_,rfl⟩,q⟩
 | byt y =>
  obtain ⟨t,rfl⟩:=rx;obtain ⟨hy,e'⟩:y.size≤sizeLine∧n=y.size:=e;subst e';exact PySem.W.len_bytes (by omega) ⟨.int _,H,I.tok _,⟨_,rfl⟩,q⟩
 | ref p =>
  cases rx;have e':(∃xs,SqL X.K H p xs∧n=xs.length)∨∃xs,SqT X.K H p xs∧n=xs.length:=e
  rcases e' with ⟨xs,hx,e'⟩ | ⟨xs,hx,e'⟩
  ·subst e';obtain ⟨its,r',pl,hz⟩:=I.list hx;have hlen:=r'.length;exact Calls.call_len_list pl.isList (by simp only [zp]; omega) ⟨.int xs.length,H,I.tok _,⟨_,by simp only [zp]; rw [hlen]⟩,q⟩
  ·subst e';obtain ⟨its,r',pl,hz⟩:=I.tuple hx;have hlen:=r'.length;exact len_tuple pl (by simp only [zp]; omega) ⟨.int xs.length,H,I.tok _,⟨_,by simp only [zp]; rw [hlen]⟩,q⟩
 | _=>exact (show False from e).elim
end
structure Qi0 (h:Heap) (x dx C:Addr) (mA:Str→Option Value):Prop where
 obj:h.get? x=some (PySem.W.instObj C dx)
 ns:h.Ns1 dx mA
 ne:dx≠x
theorem Qp3 {h:Heap}{dx:Addr}{mA:Str→Option Value} (n:h.Ns1 dx mA):∃od,h.get? dx=some od∧∀name,PySem.W.lookIn name od=some (mA name):=by
 obtain ⟨o,es,ep,ho,hd,hk,_,hm⟩:=n;refine ⟨o,ho,fun name=>?_⟩;have e:=hm name;unfold nsFind findBy at e;rw [←Array.find?_toList] at e;unfold PySem.W.lookIn;rw [hd];dsimp only
 split
 ·rename_i y q;rw [q] at e;exact congrArg some e
 ·rename_i q;rw [q] at e
  have a:es.toList.any (·.refKey)=false:=by
   rw [List.any_eq_false];intro y hy;obtain ⟨z,t,hkey⟩:=hk y (Array.mem_toList_iff.mp hy);simp [DictEntry.refKey,hkey]
  have a':¬es.toList.any (·.refKey)=true:=by rw [a]; exact zg
  rw [if_neg a'];exact congrArg some e
theorem Qi0.look {h:Heap}{x dx C:Addr}{mA:Str→Option Value} (I:Qi0 h x dx C mA):∃od,PySem.W.InstAt h x (PySem.W.instObj C dx) C (some od)∧∀name,PySem.W.lookIn name od=some (mA name) :=
 let ⟨od,ho,hl⟩:=Qp3 I.ns
 ⟨od,⟨I.obj,rfl,rfl,ho⟩,hl⟩
section
variable {prog:Program}{w:World}{A:Around}{E:Value→Shared→Prop}{s:Shared}{K:PySem.W.Frag}{x dx C f:Addr}{mA:Str→Option Value}{name:Str}{v:Value}
theorem Qte {expr:Bool}{Q:Value→Shared→Prop} (X:K.In s.heap) (I:Qi0 s.heap x dx C mA) (hg:PySem.W.plainGet K C name=true) (hh:PySem.W.hasDictIn K C=true)
  (ha:PySem.W.findIn K (.ref C) name=some none) (hv:mA name=some v) (hv':PySem.W.handedIn v=true) (h:Q v { s with toks:=s.toks+1 }) :
  wpAny (model prog w) A (getAttr (.ref x) name expr) Q E s:=by
 obtain ⟨od,J,hl⟩:=I.look;exact PySem.W.get_value X J (PySem.W.plainGet_of hg).1 (PySem.W.findObj_own hh ha rfl (by rw [hl,hv])) hv' h
theorem Qsw {pl:Sem Bool}{Q:Value×List Value→Shared→Prop} (X:K.In s.heap) (I:Qi0 s.heap x dx C mA) (hg:PySem.W.plainGet K C name=true)
  (hf:PySem.W.findIn K (.ref C) name=some (some (.ref f))) (ht:PySem.W.isFn K (.ref f)=true) (hv:mA name=none) (h:Q (.ref f,[.ref x]) s) :
  wpAny (model prog w) A (getMethod (.ref x) name pl) Q E s:=by
 obtain ⟨od,J,hl⟩:=I.look;exact PySem.W.method_fn X J (PySem.W.plainGet_of hg).1 (PySem.W.plainGet_of hg).2 hf (beq_iff_eq.mp ht) (by show (PySem.W.lookIn name od).map (·.isSome)=some false; rw [hl,hv]; rfl) h
theorem Qtr {ns:List Str}{Q:Unit→Shared→Prop} (X:K.In s.heap) (I:Qi0 s.heap x dx C mA)
  (hs:PySem.W.findIn K (.ref C) "__setattr__" = some (some (.builtin "object.__setattr__"))) (hp:PySem.W.plainOver K C=true) (ht:PySem.W.takerIn K C name=some none) (hh:PySem.W.hasDictIn K C=true)
  (hw:PySem.Within mA ns) (hsz:ns.length≤sizeLine)
  (h:∀h',Qi0 h' x dx C (fun y=>if y=name then some v else mA y)→Heap.SameBut dx s.heap h'→Q () { s with heap:=h',toks:=s.toks+2 }) :
  wpAny (model prog w) A (setAttr (.ref x) name v) Q E s:=by
 obtain ⟨od,J,hl⟩:=I.look;refine PySem.W.set_plain X J hs (PySem.W.osa_open (s:={ s with toks:=s.toks+1 }) (r:=none) X J hp ht fun b=>?_);obtain ⟨cd,hc,hd'⟩:=PySem.W.any_some hh;have hx:s.heap.get? x=some ⟨.ref C,some dx,.plain,#[]⟩:=I.obj;refine za (zb (za (za (wpAny_loadPart hx (za (PySem.W.Looks.here (s:={ s with toks:=s.toks+1 }) (PySem.W.looks_clsIn X hc) ?_))))));rw [hd'];refine zb (a:=some dx) (za (zb (za ?_)))
 refine wpAny_nsSet1 (s:={ s with toks:=s.toks+1 }) I.ns fun h' hn2 hs2=>?_
 obtain ⟨oD,esD,epD,hoD,hdD,hcD⟩:=hn2.count (PySem.Within.cons name v hw);refine za (wpAny_lookBehind hoD (by rw [hdD]; exact pastItsLine_dict (zC hcD (by rw [zy]; omega))) ?_);exact zb (h _ ⟨(hs2.2 _ (Ne.symm I.ne)).trans I.obj,hn2,I.ne⟩ hs2)
theorem Qrk {R:Result→Shared→Prop}{vs:List Value}{kw:List (Str×Value)} (X:K.In s.heap) (hm:PySem.W.makesIn K C=true)
  (hi:PySem.W.findIn K (.ref C) "__init__" = some (some (.ref f))) (hf:PySem.W.typeIn K (.ref f)=some (.type "function"))
  (h:codeAny (model prog w) (A.under (.builtin "type.__call__" ⟨.ref C::vs,kw⟩)) (.call (.ref f) ⟨.ref (s.heap.objs.size+1)::vs,kw⟩) (PySem.W.InitBack (s.heap.objs.size+1) R)
   { s with heap:=(s.heap.push PySem.W.emptyDict).push (PySem.W.instObj C s.heap.objs.size) }) :
  codeAny (model prog w) A (.call (.ref C) ⟨vs,kw⟩) R s:=by
 obtain ⟨hh,g,d,t,os⟩:=s;exact PySem.W.make_core (PySem.W.makes_of X hm) (PySem.W.looks_findIn X hi) (fun self=>PySem.W.bind_fn X self hf) (.inl rfl) h
end
def QcR (f:Str) (v:V):List (Str×V)→List (Str×V)
 | []=>[(f,v)]
 | (g,x)::r=>if g=f then (g,v)::r else (g,x)::QcR f v r
theorem QiW (f g:Str) (v:V):∀fs:List (Str×V),(QcR f v fs).lookup g=if g=f then some v else fs.lookup g
 | []=>by
  show List.lookup g [(f,v)]=_
  by_cases h:g=f
  ·have hb:(g == f)=true:=beq_iff_eq.mpr h;simp only [List.lookup,hb,if_pos h]
  ·have hb:(g == f)=false:=beq_eq_false_iff_ne.mpr h;simp only [List.lookup,hb,if_neg h]
 | (k,x)::r=>by
  have ih:=QiW f g v r;rw [show QcR f v ((k,x)::r)=(if k=f then (k,v)::r else (k,x)::QcR f v r) from rfl]
  by_cases hk:k=f
  ·rw [if_pos hk]
   by_cases h:g=k
   ·have hb:(g == k)=true:=beq_iff_eq.mpr h;simp only [List.lookup,hb,if_pos (h.trans hk)]
   ·have hb:(g == k)=false:=beq_eq_false_iff_ne.mpr h;simp only [List.lookup,hb,if_neg (fun e:g=f=>h (e.trans hk.symm))]
  ·rw [if_neg hk]
   by_cases h:g=k
   ·have hb:(g == k)=true:=beq_iff_eq.mpr h;simp only [List.lookup,hb,if_neg (fun e:g=f=>hk (h.symm.trans e))]
   ·have hb:(g == k)=false:=beq_eq_false_iff_ne.mpr h;simp only [List.lookup,hb];exact ih
theorem Qh4 (f:Str) (v:V):∀fs:List (Str×V),f∈(QcR f v fs).map (·.1)∧∀g,g∈fs.map (·.1)→g∈(QcR f v fs).map (·.1)
 | []=>⟨by simp [QcR],fun g h=>by simp at h⟩
 | (k,x)::r=>by
  obtain ⟨i1,i2⟩:=Qh4 f v r;rw [show QcR f v ((k,x)::r)=(if k=f then (k,v)::r else (k,x)::QcR f v r) from rfl]
  by_cases hk:k=f
  ·rw [if_pos hk];subst hk;exact ⟨by simp,fun g h=>by simpa using h⟩
  ·rw [if_neg hk];refine ⟨?_,fun g h=>?_⟩
   ·rw [zc];exact zv _ i1
   ·rw [zc] at h ⊢
    rcases zd.mp h with e | e
    ·exact zd.mpr (.inl e)
    ·exact zv _ (i2 g e)
theorem QiT (f:Str) (v:V):∀fs:List (Str×V),(QcR f v fs).length≤fs.length+1
 | []=>by simp [QcR]
 | (k,x)::r=>by
  have ih:=QiT f v r;rw [show QcR f v ((k,x)::r)=(if k=f then (k,v)::r else (k,x)::QcR f v r) from rfl]
  by_cases hk:k=f
  ·rw [if_pos hk,zy,zy]; omega
  ·rw [if_neg hk,zy,zy]; omega
theorem Qc2.some_of {v:V}{o:Option Value} (r:Qc2 (some v) o):∃u,o=some u∧RelV v u:=by
 cases o with
 | none=>exact (show False from r).elim
 | some u=>exact ⟨u,rfl,r⟩
theorem Qc2.none_of {o:Option Value} (r:Qc2 none o):o=none:=by
 cases o with
 | none=>rfl
 | some u=>exact (show False from r).elim
theorem Qpp {v:V}{u:Value} (r:RelV v u):PySem.W.handedIn u=true:=by
 cases v with
 | non=>cases (show u=Value.none from r); rfl
 | bl b=>cases (show u=Value.bool b from r); rfl
 | int i=>obtain ⟨t,e⟩:=(show ∃t,u=Value.int i t from r); cases e; rfl
 | str x=>obtain ⟨t,e⟩:=(show ∃t,u=Value.str x t from r); cases e; rfl
 | byt b=>obtain ⟨t,e⟩:=(show ∃t,u=Value.bytes b t from r); cases e; rfl
 | flt b=>obtain ⟨t,e⟩:=(show ∃t,u=Value.float b t from r); cases e; rfl
 | ref a=>cases (show u=Value.ref a from r); rfl
 | ty n=>cases (show u=Value.type n from r); rfl
section
variable {P:Program}{w:World}{H H':Hp}{h h':Heap}{a C dx:Addr}{fs fs':List (Str×V)}
theorem QiO (hok:HOk P w H h) (e:H a=some (.ins C dx fs)):∃mA,Qi0 h a dx C mA∧(∀f,Qc2 (fs.lookup f) (mA f))∧PySem.Within mA (fs.map (·.1))∧fs.length≤1000∧H dx=some (.own a):=by
 obtain ⟨d,z,ne,ob,mA,n,r,q⟩:=(show Qbc P w H h a (.ins C dx fs) from hok a _ e);exact ⟨mA,⟨ob,n,ne⟩,r,q,z,d⟩
end
structure Cls (K:PySem.W.Frag) (C:Addr):Prop where
 pg:PySem.W.plainGet K C Str.empty=true
 hd:PySem.W.hasDictIn K C=true
 po:PySem.W.plainOver K C=true
 sa:PySem.W.findIn K (.ref C) "__setattr__" = some (some (.builtin "object.__setattr__"))
theorem Cls.get {K:PySem.W.Frag}{C:Addr} (c:Cls K C) (f:Str):PySem.W.plainGet K C f=true:=c.pg
def Qf8 (K:PySem.W.Frag) (C:Addr) (f:Str):Prop:=PySem.W.findIn K (.ref C) f=some none
theorem Qf8.taker {K:PySem.W.Frag}{C:Addr}{f:Str} (n:Qf8 K C f):PySem.W.takerIn K C f=some none:=by
 unfold PySem.W.takerIn;rw [show PySem.W.findIn K (.ref C) f=some none from n];rfl
structure Con (K:PySem.W.Frag) (C:Addr) (f:Str) (v:V) (u:Value):Prop where
 at_:PySem.W.findIn K (.ref C) f=some (some u)
 rel:RelV v u
 get:PySem.W.specialIn K u "__get__" = some none
 cp:PySem.W.copiedNames.contains f=false
structure Qm0 (K:PySem.W.Frag) (C:Addr) (m:Str) (f:Addr):Prop where
 at_:PySem.W.findIn K (.ref C) m=some (some (.ref f))
 fn:PySem.W.isFn K (.ref f)=true
 kp:PySem.W.keepIn K (.ref f)=true
section
variable {X:Cx}{pins:List (Addr×Obj)}{σ:St}{H:Hp}{s:Shared}{a C dx:Addr}{fs:List (Str×V)}{f:Str}{v:V}{A:Around}{E:Value→Shared→Prop}
theorem Qon {b:Bool}{Q:Value→Shared→Prop} (I:Inv X pins σ H s) (e:H a=some (.ins C dx fs)) (c:Cls X.K C) (n:Qf8 X.K C f) (l:fs.lookup f=some v)
  (h:∀u s',Inv X pins σ H s'→RelV v u→Q u s'):wpAny (model X.prog X.w) A (getAttr (.ref a) f b) Q E s:=by
 obtain ⟨mA,O,r,_,_,_⟩:=QiO I.hok e;obtain ⟨u,hu,ru⟩:=Qc2.some_of (v:=v) (o:=mA f) (by rw [←l]; exact r f);exact Qte I.kIn O (c.get f) c.hd n hu (Qpp ru) (h u _ (I.tok _) ru)
theorem QjM {m:Str}{g:Addr}{pl:Sem Bool}{Q:Value×List Value→Shared→Prop} (I:Inv X pins σ H s) (e:H a=some (.ins C dx fs)) (c:Cls X.K C) (k:Qm0 X.K C m g) (l:fs.lookup m=none)
  (h:Q (.ref g,[.ref a]) s):wpAny (model X.prog X.w) A (getMethod (.ref a) m pl) Q E s:=by
 obtain ⟨mA,O,r,_,_,_⟩:=QiO I.hok e;have hn:mA m=none:=Qc2.none_of (by rw [←l]; exact r m);exact Qsw I.kIn O (c.get m) k.at_ k.fn hn h
theorem QoN {y:V}{u:Value}{Q:Unit→Shared→Prop} (I:Inv X pins σ H s) (e:H a=some (.ins C dx fs)) (c:Cls X.K C) (n:Qf8 X.K C f) (hl:fs.length < 1000) (ry:RelV y u)
  (h:∀s',Inv X pins σ (upd H a (.ins C dx (QcR f y fs))) s'→Q () s'):wpAny (model X.prog X.w) A (setAttr (.ref a) f u) Q E s:=by
 obtain ⟨mA,O,r,wi,_,ho⟩:=QiO I.hok e
 have hz:(fs.map (·.1)).length≤sizeLine:=by rw [zh,sizeLine_eq]; omega
 refine Qtr I.kIn O c.sa c.po n.taker c.hd wi hz fun h' O' sb=>h _ ?_
 have hd:∃o,h'.get? dx=some o:=let ⟨o,_,_,e',_⟩:=O'.ns; ⟨o,e'⟩;refine I.write (x:=a) (e:=dx) (by rw [e]; exact True.intro) (.inr ho) (fun b q hb z=>(sb.2 b hb).trans z) hd ?_;refine ⟨by rw [Qaq O.ne]; exact ho,?_,O.ne,O'.obj,_,O'.ns,fun g=>?_,fun g hg=>?_⟩
 ·have:=QiT f y fs; omega
 ·show Qc2 ((QcR f y fs).lookup g) (if g=f then some u else mA g);rw [QiW]
  by_cases q:g=f
  ·rw [if_pos q,if_pos q]; exact ry
  ·rw [if_neg q,if_neg q]; exact r g
 ·by_cases q:g=f
  ·rw [q]; exact (Qh4 f y fs).1
  ·refine (Qh4 f y fs).2 g (wi g fun z=>hg ?_);show (if g=f then some u else mA g)=none;rw [if_neg q]; exact z
theorem Inv.made (I:Inv X pins σ H s):Inv X pins σ (upd (upd H s.heap.objs.size (.own (s.heap.objs.size+1))) (s.heap.objs.size+1) (.ins C s.heap.objs.size []))
  { s with heap:=(s.heap.push PySem.W.emptyDict).push (PySem.W.instObj C s.heap.objs.size) }:=by
 have e1:(s.heap.push PySem.W.emptyDict).get? s.heap.objs.size=some PySem.W.emptyDict:=zw s.heap rfl
 have e2:((s.heap.push PySem.W.emptyDict).push (PySem.W.instObj C s.heap.objs.size)).get? (s.heap.objs.size+1)=some (PySem.W.instObj C s.heap.objs.size):=by
  have:=zw (s.heap.push PySem.W.emptyDict) (o:=PySem.W.instObj C s.heap.objs.size) rfl
  rwa [Heap.size_push] at this
 have e3:(s.heap.push PySem.W.emptyDict).Ns s.heap.objs.size (fun _=>none):=⟨PySem.W.emptyDict,#[],_,e1,rfl,(fun e he=>absurd he (by simp)),fun _=>rfl⟩;have I1:=I.laid (a:=s.heap.objs.size) (o:=.own (s.heap.objs.size+1)) (h':=s.heap.push PySem.W.emptyDict) (t':=s.toks) (fun b u q=>zn _ q) (ze _) ⟨_,e1⟩;refine I1.laid (a:=s.heap.objs.size+1) (o:=.ins C s.heap.objs.size []) (t':=s.toks) (fun b u q=>zn _ q) (Nat.le_of_eq (Heap.size_push _ _)) ?_;have ne:s.heap.objs.size≠s.heap.objs.size+1:=zt (ji _);refine ⟨by rw [Qaq ne,QaE],Nat.zero_le _,ne,e2,fun _=>none,(Heap.Ns1.of_empty e3).at fun o q=>zn _ q,fun _=>True.intro,fun y hy=>absurd rfl hy⟩
theorem QtI {prog:Program}{w:World}{env:Env}{e:Expr}{f:Str}{pos:Pos}{s:Shared}{Q:Value→Shared→Prop} (hb:attributeBase e f env (eval e env)=eval e env)
  (h:wpAny (model prog w) A (eval e env) (fun o s₁=>wpAny (model prog w) A (getAttr o f true) Q E s₁) E s):wpAny (model prog w) A (eval (.Attribute e f pos) env) Q E s :=
 Attribute_any_ h (by rw [arm_eval_Attribute,hb])
end
def QyE (K:PySem.W.Frag) (ta:TE) (f:Str):TE:=fun σ H Q=>ta σ H fun x H1=>∃a C dx fs v,x = .ref a∧H1 a=some (.ins C dx fs)∧Cls K C∧Qf8 K C f∧fs.lookup f=some v∧Q v H1
def QyH (K:PySem.W.Frag) (ta tv:TE) (f:Str):TS:=fun D σ H=>tv σ H fun y H1=>ta σ H1 fun x H2=>∃a C dx fs,x = .ref a∧H2 a=some (.ins C dx fs)∧Cls K C∧Qf8 K C f∧fs.length < 1000 ∧
 D.nx σ (upd H2 a (.ins C dx (QcR f y fs)))
section
variable {X:Cx}{o e value:Expr}{f:Str}{pos pos' tpos:Pos}{ta tv:TE}
theorem Qva (he:PE X e ta) (hb:attributeBase e f X.env (eval e X.env)=eval e X.env):PE X (.Attribute e f pos) (QyE X.K ta f):=by
 intro pins s σ H Q I h;refine QtI hb (thn (he pins s σ H _ I h) fun u s1 ⟨x,H1,I1,rx,a,C,dx,fs,v,ex,ea,c,n,l,q⟩=>?_);subst ex;obtain rfl:u=Value.ref a:=rx
 exact Qon I1 ea c n l fun u' s2 I2 ru=>⟨v,H1,I2,ru,q⟩
theorem Qvh (ha:PE X o ta) (hv:PE X value tv) (hs:swapsWith value (some (.Attribute o f pos')) pos.line X.env=pure false):PS X (.Assign [.Attribute o f pos'] value pos) (QyH X.K ta tv f):=by
 intro pins s σ H D I h;refine plainObj_wpAny_Assign_Attribute (thn (hv pins s σ H _ I h) fun u s1 ⟨y,H1,I1,ry,q⟩=>thn (ha pins s1 σ H1 _ I1 q) fun ov s2 ⟨x,H2,I2,rx,a,C,dx,fs,ex,ea,c,n,l,q2⟩=>?_) hs;subst ex;obtain rfl:ov=Value.ref a:=rx
 exact QoN I2 ea c n l ry fun s3 I3=>⟨σ,_,I3,q2⟩
end
section
variable {X:Cx}{pins:List (Addr×Obj)}{σ:St}{H:Hp}{s:Shared}{A:Around}{E:Value→Shared→Prop}{Q:Value→Shared→Prop}{c:Value}{b:Bool}
inductive Qfi (K:PySem.W.Frag) (H:Hp):V→Value→Prop where
 | non:Qfi K H .non (.type "NoneType")
 | bl (x:Bool):Qfi K H (.bl x) (.type "bool")
 | int (i:Int):Qfi K H (.int i) (.type "int")
 | str (x:Str):Qfi K H (.str x) (.type "str")
 | flt (x:UInt64):Qfi K H (.flt x) (.type "float")
 | lst {a:Addr}{xs:List V} (e:H a=some (.lst xs)):Qfi K H (.ref a) (.type "list")
 | frz {a:Addr}{o:Obj}{xs:List V} (e:H a=some (.frz o (.lst xs))):Qfi K H (.ref a) (.type "list")
 | tup {a:Addr}{xs:List V} (e:H a=some (.tup xs)):Qfi K H (.ref a) (.type "tuple")
 | dK {a:Addr}{kvs:List (Key×V)} (e:H a=some (.dK kvs)):Qfi K H (.ref a) (.type "dict")
 | dT {a:Addr}{kvs:List (List Key×V)} (e:H a=some (.dT kvs)):Qfi K H (.ref a) (.type "dict")
 | ins {a C dx:Addr}{fs:List (Str×V)} (e:H a=some (.ins C dx fs)) (cl:Cls K C) (ha:PySem.W.findIn K (.ref C) "__class__" = some (some (.builtin "object.__class__")))
   (hn:PySem.W.specialIn K (.builtin "object.__class__") "__get__" = some (some (.builtin "getset_descriptor.__get__"))) (htk:PySem.W.takesIn K (.builtin "object.__class__")=some true)
   (hm:PySem.W.mroIn K C (.type "object")=some true):Qfi K H (.ref a) (.ref C)
theorem QeU {x:V}{u t:Value} (I:Inv X pins σ H s) (rx:RelV x u) (ty:Qfi X.K H x t) (e:PySem.W.kitOne X.K t c=some b) (h:∀tk,Q (.bool b) { s with toks:=tk }) :
  wpAny (model X.prog X.w) A (call (.builtin "isinstance") [u,c]) Q E s:=by
 cases ty with
 | non=>cases (show u=Value.none from rx); exact PySem.W.kia_one PySem.W.kitx_none I.kIn True.intro e (fun z=>nomatch z) h
 | bl y=>cases (show u=Value.bool y from rx); exact PySem.W.kia_one PySem.W.kitx_bool I.kIn True.intro e (fun z=>nomatch z) h
 | int i=>obtain ⟨t,q⟩:=(show ∃t,u=Value.int i t from rx); cases q; exact PySem.W.kia_one PySem.W.kitx_int I.kIn True.intro e (fun z=>nomatch z) h
 | str y=>obtain ⟨t,q⟩:=(show ∃t,u=Value.str y t from rx); cases q; exact PySem.W.kia_one PySem.W.kitx_str I.kIn True.intro e (fun z=>nomatch z) h
 | flt y=>obtain ⟨t,q⟩:=(show ∃t,u=Value.float y t from rx); cases q; exact PySem.W.kia_one PySem.W.kitx_float I.kIn True.intro e (fun z=>nomatch z) h
 | @lst a xs ea =>
  cases (show u=Value.ref a from rx);obtain ⟨_,_,n,_,h1⟩:=(show Qbc X.prog X.w H s.heap a (.lst xs) from I.hok a _ ea);exact PySem.W.kia_one PySem.W.kitx_list I.kIn ⟨_,h1,rfl⟩ e (fun z=>nomatch z) h
 | @frz a ob xs ea =>
  cases (show u=Value.ref a from rx);obtain ⟨_,_,_,n,_,h1⟩:=(show Qbc X.prog X.w H s.heap a (.frz ob (.lst xs)) from I.hok a _ ea);exact PySem.W.kia_one PySem.W.kitx_list I.kIn ⟨_,h1,rfl⟩ e (fun z=>nomatch z) h
 | @tup a xs ea =>
  cases (show u=Value.ref a from rx);obtain ⟨_,_,_,p⟩:=(show Qbc X.prog X.w H s.heap a (.tup xs) from I.hok a _ ea);obtain ⟨o,h1,h2,_⟩:=p;exact PySem.W.kia_one PySem.W.kitx_tuple I.kIn ⟨o,h1,h2⟩ e (fun z=>nomatch z) h
 | @dK a kvs ea =>
  cases (show u=Value.ref a from rx);obtain ⟨_,_,vs,_,p⟩:=(show Qbc X.prog X.w H s.heap a (.dK kvs) from I.hok a _ ea);obtain ⟨o,es,ep,h1,h2,_⟩:=p;exact PySem.W.kia_one PySem.W.kitx_dict I.kIn ⟨o,h1,h2.1⟩ e (fun z=>nomatch z) h
 | @dT a kvs ea =>
  cases (show u=Value.ref a from rx);obtain ⟨_,_,xs,_,o,es,ep,h1,h2,_⟩:=(show Qbc X.prog X.w H s.heap a (.dT kvs) from I.hok a _ ea);exact PySem.W.kia_one PySem.W.kitx_dict I.kIn ⟨o,h1,h2.1⟩ e (fun z=>nomatch z) h
 | @ins a C dx fs ea cl ha hn htk hm =>
  cases (show u=Value.ref a from rx);obtain ⟨mA,O,_⟩:=QiO I.hok ea;obtain ⟨od,J,_⟩:=O.look;exact PySem.W.kia_one (PySem.W.kitx_own (cl.get _) cl.hd ha hn htk hm) I.kIn J e (fun z=>nomatch z) h
end
structure QaS (k:Nat) (A:Around):Prop where
 hd:A.handled=none
 dp:A.depth+3 * k+5 < recursionLimit
 un:A.units+16 * k+200 < cLine
theorem QaS.mono {j k:Nat}{A:Around} (r:QaS k A) (h:j≤k):QaS j A:=⟨r.hd,by have:=r.dp; omega,by have:=r.un; omega⟩
theorem QaS.deeper {k:Nat}{A:Around} (r:QaS (k+1) A) (env:Env):QaS k (A.deeper env) :=
 ⟨r.hd,by have:=r.dp; show A.depth+1+3 * k+5 < _; omega,by have:=r.un; show A.units+3+16 * k+200 < _; omega⟩
theorem QaS.in1 {k:Nat}{A:Around} (r:QaS (k+1) A):QaS k A.in1 :=
 ⟨r.hd,by have:=r.dp; show A.depth+3 * k+5 < _; omega,by have:=r.un; show A.units+1+16 * k+200 < _; omega⟩
theorem Qos {A:Around}{C:Addr}{us:List Value}{kw:List (Str×Value)}:(A.under (.builtin "type.__call__" ⟨.ref C::us,kw⟩)).depth=A.depth+1:=by
 first | rfl | simp [Around.under,Code.weight,Code.isCreation,Code.isGuard,Code.isCaller,Code.frames,Code.isFrame,guardIds]
theorem Qop {A:Around}{C:Addr}{us:List Value}{kw:List (Str×Value)}:(A.under (.builtin "type.__call__" ⟨.ref C::us,kw⟩)).units=A.units+1:=by
 first | rfl | simp [Around.under,Code.cUnits,Code.frames,Code.isFrame]
theorem QaS.make {k:Nat}{A:Around} (r:QaS (k+1) A) (C:Addr) (us:List Value) (kw:List (Str×Value)):QaS k (A.under (.builtin "type.__call__" ⟨.ref C::us,kw⟩)) :=
 ⟨r.hd,by have:=r.dp; rw [Qos]; omega,by have:=r.un; rw [Qop]; omega⟩
theorem QaS.depth {k:Nat}{A:Around} (r:QaS k A):A.depth < recursionLimit:=by have:=r.dp; omega
theorem QaS.units {k:Nat}{A:Around} (r:QaS k A):A.units+64 < cLine:=by have:=r.un; omega
def QvZ:TA:=fun _ H Q=>Q [] H
def QxM (ta:TE) (tr:TA):TA:=fun σ H Q=>ta σ H fun x H1=>tr σ H1 fun xs H2=>Q (x::xs) H2
section
variable {X:Cx}{e:Expr}{es:List Expr}{te:TE}{t:TA}{pos:Pos}
theorem Qd2:PA X [] QvZ:=fun _ _ _ _ H Q I h=>Calls.spliced_nil ⟨[],H,I,.nil,h⟩
theorem Qcm (ha:PE X e te) (hr:PA X es t) (hs:starEach (e::es) X.env=(false,eval e X.env)::starEach es X.env:=by rfl):PA X (e::es) (QxM te t):=by
 intro pos pins s σ H Q I h;rw [hs];show wpAny _ _ (spliced ((false,eval e X.env)::backTo pos (starEach es X.env))) _ _ s;refine Calls.spliced_cons (thn (ha pins s σ H _ I h) fun u s1 ⟨x,H1,I1,r1,q1⟩=>?_)
 exact thn (hr pos pins s1 σ H1 _ I1 q1) fun us s2 ⟨xs,H2,I2,r2,q2⟩=>⟨x::xs,H2,I2,.cons r1 r2,q2⟩
def QyN (t:TA):TE:=fun σ H Q=>t σ H fun xs H1=>xs.length≤sizeLine∧∀p,H1 p=none→Q (.ref p) (upd H1 p (.tup xs))
def QyW (t:TA):TE:=fun σ H Q=>t σ H fun xs H1=>xs.length≤sizeLine∧∀p,H1 p=none→Q (.ref p) (upd H1 p (.lst xs))
theorem QpG {x1} (h:PA X es t):PE X (.Tuple es x1 pos) (QyN t):=by
 intro pins s σ H Q I hq;refine wpAny_Tuple_spliced (thn (h pos pins s σ H _ I hq) fun us s1 ⟨xs,H1,I1,r,z,q⟩=>⟨by rw [←r.length]; exact z,?_⟩);have hf:H1 s1.heap.objs.size=none:=I1.hok.fresh (ze _);refine ⟨.ref s1.heap.objs.size,upd H1 s1.heap.objs.size (.tup xs),I1.laid (t':=s1.toks) (fun b u e=>zn _ e) (ze _) ?_,rfl,q _ hf⟩;exact ⟨z,us,r,⟨_,zw _ rfl,rfl,_,rfl⟩⟩
theorem Qq2 (h:PA X es t):PE X (.List es pos) (QyW t):=by
 intro pins s σ H Q I hq;refine wpAny_List_spliced (thn (h pos pins s σ H _ I hq) fun us s1 ⟨xs,H1,I1,r,z,q⟩=>⟨by rw [←r.length]; exact z,?_⟩);have hf:H1 s1.heap.objs.size=none:=I1.hok.fresh (ze _);refine ⟨.ref s1.heap.objs.size,upd H1 s1.heap.objs.size (.lst xs),I1.laid (t':=s1.toks) (fun b u e=>zn _ e) (ze _) ?_,rfl,q _ hf⟩;exact ⟨z,us,0,r,zw _ rfl⟩
end
abbrev Sp:=List V→Hp→VK→XK→Prop
abbrev CXT:=List Env→Hp→Shared→XK→Value→Shared→Prop
structure Qf9 (P:Program) (w:World) (K:PySem.W.Frag) (mg:Str→Option Value) (base:Heap) (A:Around) (outer:List Env) (s:Shared) (H:Hp):Prop where
 frames:A.frames=some outer
 mod:Mod K mg base
 bs:∀b o,base.get? b=some o→s.heap.get? b=some o∧H b=none
 bsz:base.objs.size≤s.heap.objs.size
 funs:s.heap.FunFrames base outer
 frf:∀b∈frs outer,H b=none
 hok:HOk P w H s.heap
 bare:AllBare s.gens
def CE (outer:List Env) (P:Program) (w:World) (H:Hp) (s:Shared) (Q:VK) (u:Value) (s':Shared):Prop :=
 ∃v H',s'.os=s.os∧AllBare s'.gens∧Un (frs outer) [] H H' s.heap s'.heap∧HOk P w H' s'.heap∧RelV v u∧Q v H'
def CR (CX:CXT) (outer:List Env) (P:Program) (w:World) (H:Hp) (s:Shared) (Q:VK) (E:XK) (r:Result) (s':Shared):Prop :=
 match r with
 | .ok (.ret u)=>CE outer P w H s Q u s'
 | .ok _=>False
 | .error e=>CX outer H s E e s'
structure Qb7 (P:Program) (w:World) (K:PySem.W.Frag) (mg:Str→Option Value) (base:Heap) (CX:CXT) (k:Nat) (f:Addr) (fd:FuncData) (ps:List Str) (sp:Sp):Prop where
 len:∀vs H Q E,sp vs H Q E→vs.length=ps.length
 run:∀(A:Around) (outer:List Env) (s:Shared) (H:Hp) (args:Args) (us:List Value) (vs:List V) (Q:VK) (E:XK),QaS k A→Qf9 P w K mg base A outer s H→BindsTo s fd args (ps.zip us)→Qay vs us→sp vs H Q E →
  codeAny (model P w) A (.call (.ref f) args) (CR CX outer P w H s Q E) s
theorem Qb7.mono {P:Program}{w:World}{K:PySem.W.Frag}{mg:Str→Option Value}{base:Heap}{CX:CXT}{j k:Nat}{f:Addr}{fd:FuncData}{ps:List Str}{sp:Sp} (F:Qb7 P w K mg base CX j f fd ps sp) (h:j≤k) :
  Qb7 P w K mg base CX k f fd ps sp:=⟨F.len,fun A outer s H args us vs Q E hr=>F.run A outer s H args us vs Q E (hr.mono h)⟩
theorem Qb7.imp {P:Program}{w:World}{K:PySem.W.Frag}{mg:Str→Option Value}{base:Heap}{CX:CXT}{k:Nat}{f:Addr}{fd:FuncData}{ps:List Str}{sp sp':Sp} (F:Qb7 P w K mg base CX k f fd ps sp)
  (h:∀vs H Q E,sp' vs H Q E→sp vs H Q E):Qb7 P w K mg base CX k f fd ps sp' :=
 ⟨fun vs H Q E q=>F.len vs H Q E (h _ _ _ _ q),fun A outer s H args us vs Q E hr he hb hv hs=>F.run A outer s H args us vs Q E hr he hb hv (h _ _ _ _ hs)⟩
theorem Qf9.make {P:Program}{w:World}{K:PySem.W.Frag}{mg:Str→Option Value}{base:Heap}{A:Around}{outer:List Env}{s:Shared}{H:Hp} (e:Qf9 P w K mg base A outer s H) (C:Addr) (us:List Value) (kw:List (Str×Value)) :
  Qf9 P w K mg base (A.under (.builtin "type.__call__" ⟨.ref C::us,kw⟩)) outer s H:=⟨by first | exact e.frames | (simpa [Around.under,Code.envs,Code.isFrame,pushEnvs] using e.frames),e.mod,e.bs,e.bsz,e.funs,e.frf,e.hok,e.bare⟩
theorem Qf9.in1 {P:Program}{w:World}{K:PySem.W.Frag}{mg:Str→Option Value}{base:Heap}{A:Around}{outer:List Env}{s:Shared}{H:Hp} (e:Qf9 P w K mg base A outer s H) :
  Qf9 P w K mg base A.in1 outer s H:=⟨e.frames,e.mod,e.bs,e.bsz,e.funs,e.frf,e.hok,e.bare⟩
section
variable {X:Cx}{pins:List (Addr×Obj)}{σ:St}{H:Hp}{s s':Shared}
theorem Inv.env0 (I:Inv X pins σ H s):Qf9 X.prog X.w X.K X.mg X.base X.A X.stack s H :=
 ⟨I.ok.frames,I.ok.mod,I.bs,zC I.ok.bsz I.sz,I.stack,I.stkFree,I.hok,I.bare⟩
theorem Inv.after {Q:VK}{u:Value} (I:Inv X pins σ H s) (h:CE X.stack X.prog X.w H s Q u s'):EP X pins σ Q u s':=by
 obtain ⟨v,H',os,bare,un,hok,r,q⟩:=h;obtain ⟨hh,g,d,t,os'⟩:=s';obtain rfl:os'=s.os:=os;exact ⟨v,H',I.call (h':=hh) (g':=g) (d':=d) (t':=t) (ch:=[]) un hok bare (fun b z=>absurd z (by simp)),r,q⟩
end
def QoP (sp:Sp) (dvs:List V) (E:XK) (t:TA):TE:=fun σ H Q=>t σ H fun vs H1=>sp (vs++dvs) H1 Q E
def Qor (C:Addr) (m:Str) (sp:Sp) (dvs:List V) (E:XK) (ta:TE) (t:TA):TE:=fun σ H Q=>ta σ H fun x H1=>∃a dx fs,x = .ref a∧H1 a=some (.ins C dx fs)∧fs.lookup m=none ∧
 t σ H1 fun vs H2=>sp (x::(vs++dvs)) H2 Q E
def QsE (C:Addr) (sp:Sp) (dvs:List V) (E:XK) (t:TA):TE:=fun σ H Q=>t σ H fun vs H1=>∀x dx,H1 x=none→H1 dx=none→dx≠x →
 sp (.ref x::(vs++dvs)) (upd (upd H1 dx (.own x)) x (.ins C dx [])) (fun v H2=>v = .non∧Q (.ref x) H2) E
def Binds (K:PySem.W.Frag) (fd:FuncData) (ps:List Str) (ds:List Value):Prop :=
 ∀(s:Shared) (us:List Value),K.In s.heap→(us++ds).length=ps.length→BindsTo s fd ⟨us,[]⟩ (ps.zip (us++ds))
theorem Binds.all {K:PySem.W.Frag}{fd:FuncData}{ps:List Str} (h:∀us:List Value,us.length=ps.length→bindArgs fd ⟨us,[]⟩=pure (ps.zip us)):Binds K fd ps []:=fun s us _ hl=>by
 rw [zT] at hl ⊢;exact .of_eq (h us hl)
def QfU (CX:CXT) (X:Cx) (E:XK):Prop:=∀(pins:List (Addr×Obj)) (σ:St) (H:Hp) (s:Shared) (e:Value) (s':Shared),Inv X pins σ H s→CX X.stack H s E e s'→X.xe e s'
section
variable {X:Cx}{CX:CXT}{k:Nat}{f C:Addr}{fd:FuncData}{ps:List Str}{sp:Sp}{dvs:List V}{ds:List Value}{E:XK}{x m:Str}{p pos apos:Pos}{e o:Expr}{es:List Expr}{ta:TE}{t:TA}
theorem Qmh {pins:List (Addr×Obj)}{σ:St}{H:Hp}{s:Shared}{Q:VK}{us:List Value}{vs:List V} (F:Qb7 X.prog X.w X.K X.mg X.base CX k f fd ps sp) (hr:QaS k X.A) (hb:Binds X.K fd ps ds) (hd:Qay dvs ds) (hx:QfU CX X E)
  (I:Inv X pins σ H s) (r:Qay vs us) (h:sp (vs++dvs) H Q E):wpAny (model X.prog X.w) X.A (call (.ref f) us) (EP X pins σ Q) X.xe s:=by
 have r2:Qay (vs++dvs) (us++ds):=r.append hd
 have hl:(us++ds).length=ps.length:=by rw [←r2.length]; exact F.len _ _ _ _ h
 refine jj (codeAny_mono (F.run X.A X.stack s H ⟨us,[]⟩ (us++ds) (vs++dvs) Q E hr I.env0 (hb s us I.kIn hl) r2 h) fun r s' hq=>?_)
 cases r with
 | error e=>exact hx pins σ H s e s' I hq
 | ok fl =>
  cases fl with
  | ret u=>exact I.after hq
  | next=>exact False.elim hq
  | brk=>exact False.elim hq
  | cont=>exact False.elim hq
theorem Qtp (F:Qb7 X.prog X.w X.K X.mg X.base CX k f fd ps sp) (hr:QaS k X.A) (hg:Gl X x) (hm:X.mg x=some (.ref f)) (hk:PySem.W.keepIn X.K (.ref f)=true) (hb:Binds X.K fd ps ds) (hd:Qay dvs ds) (hx:QfU CX X E)
  (ha:PA X (e::es) t) (hdb:(x == ("__debug__":Str))=false:=by decide) (he:starEach (e::es) X.env=(false,eval e X.env)::starEach es X.env:=by rfl) (hpl:(backTo pos (starEach es X.env)).any (·.1)=false:=by rfl) :
  PE X (.Call (.Name x p) (e::es) [] pos) (QoP sp dvs E t):=by
 intro pins s σ H Q I h;refine wpAny_Call_Name_kw (QfF I hg hm ?_ hdb);refine PySem.W.callWith_K (h₀:=X.base) I.ok.mod.kin hk (thn (ha pos pins s σ H _ I h) fun us s1 ⟨vs,H1,I1,r,q⟩=>⟨I1.kIn,?_⟩) he hpl;exact Qmh F hr hb hd hx I1 r q
theorem QtD {pl:Sem Bool} (he:PE X o ta) (c:Cls X.K C) (hm:Qm0 X.K C m f) (F:Qb7 X.prog X.w X.K X.mg X.base CX k f fd ps sp) (hr:QaS k X.A) (hb:Binds X.K fd ps ds) (hd:Qay dvs ds) (hx:QfU CX X E) (ha:PA X (e::es) t)
  (hst:starEach (e::es) X.env=(false,eval e X.env)::starEach es X.env:=by rfl) (hpl:(backTo pos (starEach es X.env)).any (·.1)=false:=by rfl)
  (ht:eval (.Call (.Attribute o m apos) (e::es) [] pos) X.env=(do
   let ov ←eval o X.env
   standAt apos.atName
   let (f,first) ←holding [ov] (getMethod ov m pl)
   callWith pos f first (backTo pos (starEach (e::es) X.env)) (backToKw pos (keywordEach [] X.env))):=by rfl) :
  PE X (.Call (.Attribute o m apos) (e::es) [] pos) (Qor C m sp dvs E ta t):=by
 intro pins s σ H Q I h;refine PySem.W.methodCall_KW (pl:=pl) (thn (he pins s σ H _ I h) fun u s1 ⟨x,H1,I1,rx,a,dx,fs,ex,ea,l,q⟩=>?_) ht;subst ex;obtain rfl:u=Value.ref a:=rx;refine QjM I1 ea c hm l ?_;refine PySem.W.callWith_K (first:=[.ref a]) (h₀:=X.base) I.ok.mod.kin hm.kp (thn (ha pos pins s1 σ H1 _ I1 q) fun us s2 ⟨vs,H2,I2,r,q2⟩=>⟨I2.kIn,?_⟩) hst hpl;exact Qmh (us:=.ref a::us) (vs:=.ref a::vs) F hr hb hd hx I2 (.cons rfl r) q2
theorem QrN {pl:Sem Bool} (he:PE X o ta) (c:Cls X.K C) (hm:Qm0 X.K C m f) (F:Qb7 X.prog X.w X.K X.mg X.base CX k f fd ps sp) (hr:QaS k X.A) (hb:Binds X.K fd ps ds) (hd:Qay dvs ds) (hx:QfU CX X E)
  (ht:eval (.Call (.Attribute o m apos) [] [] pos) X.env=(do
   let ov ←eval o X.env
   standAt apos.atName
   let (f,first) ←holding [ov] (getMethod ov m pl)
   callWith pos f first (backTo pos (starEach [] X.env)) (backToKw pos (keywordEach [] X.env))):=by rfl) :
  PE X (.Call (.Attribute o m apos) [] [] pos) (Qor C m sp dvs E ta QvZ):=by
 intro pins s σ H Q I h;refine PySem.W.methodCall_KW (pl:=pl) (thn (he pins s σ H _ I h) fun u s1 ⟨x,H1,I1,rx,a,dx,fs,ex,ea,l,q⟩=>?_) ht;subst ex;obtain rfl:u=Value.ref a:=rx;refine QjM I1 ea c hm l ?_;exact PySem.W.callWith_K0 (first:=[.ref a]) I1.kIn hm.kp (Qmh (us:=[.ref a]) (vs:=[.ref a]) F hr hb hd hx I1 (.cons rfl .nil) q)
structure Mk (K:PySem.W.Frag) (C f:Addr):Prop where
 makes:PySem.W.makesIn K C=true
 init:PySem.W.findIn K (.ref C) "__init__" = some (some (.ref f))
 fn:PySem.W.isFn K (.ref f)=true
 kp:PySem.W.keepIn K (.ref C)=true
theorem Qrq {pins:List (Addr×Obj)}{σ:St}{H:Hp}{s:Shared}{Q:VK}{us:List Value}{vs:List V} (M:Mk X.K C f) (F:Qb7 X.prog X.w X.K X.mg X.base CX k f fd ps sp) (hr:QaS (k+1) X.A) (hb:Binds X.K fd ps ds) (hd:Qay dvs ds)
  (hx:QfU CX X E) (I:Inv X pins σ H s) (r:Qay vs us)
  (h:∀x dx,H x=none→H dx=none→dx≠x→sp (.ref x::(vs++dvs)) (upd (upd H dx (.own x)) x (.ins C dx [])) (fun v H2=>v = .non∧Q (.ref x) H2) E) :
  wpAny (model X.prog X.w) X.A (call (.ref C) us) (EP X pins σ Q) X.xe s:=by
 have hq:=h (s.heap.objs.size+1) s.heap.objs.size (I.hok.fresh (Nat.le_succ _)) (I.hok.fresh (ze _)) (zt (ji _));have I2:=Inv.made (C:=C) I;have r2:Qay (V.ref (s.heap.objs.size+1)::(vs++dvs)) (Value.ref (s.heap.objs.size+1)::(us++ds)):=.cons rfl (r.append hd)
 have hl:(Value.ref (s.heap.objs.size+1)::us++ds).length=ps.length:=by
  have e:=r2.length;rw [F.len _ _ _ _ hq] at e;exact e.symm
 refine jj (Qrk (f:=f) I.kIn M.makes M.init (beq_iff_eq.mp M.fn) (codeAny_mono (F.run _ X.stack _ _ ⟨Value.ref (s.heap.objs.size+1)::us,[]⟩ (Value.ref (s.heap.objs.size+1)::(us++ds)) _ _ E (hr.make C us [])
  (I2.env0.make C us []) (hb _ (Value.ref (s.heap.objs.size+1)::us) I2.kIn hl) r2 hq) fun r s' hq'=>?_))
 cases r with
 | error e=>exact hx pins σ _ _ e s' I2 hq'
 | ok fl =>
  cases fl with
  | ret u =>
   obtain ⟨v,H',I3,rv,ev,q3⟩:=I2.after hq';subst ev;exact ⟨rv,⟨V.ref (s.heap.objs.size+1),H',I3,rfl,q3⟩⟩
  | next=>exact False.elim hq'
  | brk=>exact False.elim hq'
  | cont=>exact False.elim hq'
theorem QtF (M:Mk X.K C f) (F:Qb7 X.prog X.w X.K X.mg X.base CX k f fd ps sp) (hr:QaS (k+1) X.A) (hg:Gl X x) (hm:X.mg x=some (.ref C)) (hb:Binds X.K fd ps ds) (hd:Qay dvs ds) (hx:QfU CX X E)
  (ha:PA X (e::es) t) (hdb:(x == ("__debug__":Str))=false:=by decide) (he:starEach (e::es) X.env=(false,eval e X.env)::starEach es X.env:=by rfl) (hpl:(backTo pos (starEach es X.env)).any (·.1)=false:=by rfl) :
  PE X (.Call (.Name x p) (e::es) [] pos) (QsE C sp dvs E t):=by
 intro pins s σ H Q I h;refine wpAny_Call_Name_kw (QfF I hg hm ?_ hdb);refine PySem.W.callWith_K (h₀:=X.base) I.ok.mod.kin M.kp (thn (ha pos pins s σ H _ I h) fun us s1 ⟨vs,H1,I1,r,q⟩=>⟨I1.kIn,?_⟩) he hpl;exact Qrq M F hr hb hd hx I1 r q
end
section
variable {X:Cx}{CX:CXT}{k:Nat}{f C:Addr}{fd:FuncData}{ps ks:List Str}{sp:Sp}{E:XK}{x m:Str}{p pos apos kpos:Pos}{e o:Expr}{es:List Expr}{kws:List Keyword}{te ta:TE}{t tk:TA}{nm:Option Str}
structure QzG (K:PySem.W.Frag) (fd:FuncData) (ps ks:List Str) (g:List Value→List Value→List Value) (gV:List V→List V→List V):Prop where
 to:∀(s:Shared) (us ws:List Value),K.In s.heap→(g us ws).length=ps.length→BindsTo s fd ⟨us,ks.zip ws⟩ (ps.zip (g us ws))
 rel:∀{vs:List V}{us:List Value}{zs:List V}{ws:List Value},Qay vs us→Qay zs ws→Qay (gV vs zs) (g us ws)
variable {g:List Value→List Value→List Value}{gV:List V→List V→List V}
end
structure QaF (N P:List Str) (sc:Scope):Prop where
 kind:sc.kind = .function
 co:sc.isCoroutine=false
 gen:sc.isGenerator=false
 nd:N.Nodup
 pre:N.take P.length=P
 par:∀x∈P,sc.names.lookup x=some .local∨sc.names.lookup x=some .cell
 nofree:∀y∈sc.names,y.2≠.free
theorem Qld {kindOf:Str→Option NameKind}{x:Str}:∀{binds:List (Str×Value)}{m:Str→Option Value},(∀v,(x,v)∉binds)→bindL kindOf binds m x=m x
 | [],_,_=>rfl
 | (n,v)::r,m,h=>by
  unfold bindL;rw [Qld fun w hw=>h w (zv _ hw)]
  split
  ·have:x≠n:=by rintro rfl; exact h v zu
   simp [this]
  ·rfl
theorem Qk6 {kindOf:Str→Option NameKind}{x:Str}:∀{binds:List (Str×Value)}{m:Str→Option Value},(∀v,(x,v)∉binds)→bindC kindOf binds m x=m x
 | [],_,_=>rfl
 | (n,v)::r,m,h=>by
  unfold bindC;rw [Qk6 fun w hw=>h w (zv _ hw)]
  split
  ·rfl
  ·have:x≠n:=by rintro rfl; exact h v zu
   simp [this]
theorem QkY {kindOf:Str→Option NameKind}{x:Str}{v:Value}:∀{P:List Str}{vs:List Value}{i:Nat}{m:Str→Option Value},P.Nodup→P[i]? = some x→vs[i]? = some v→kindOf x=some .local →
  bindL kindOf (P.zip vs) m x=some v
 | [],_,_,_,_,h,_,_=>by simp at h
 | _::_,[],_,_,_,_,h,_=>by simp at h
 | p::P,w::vs,0,m,nd,h1,h2,hk=>by
  simp at h1 h2; subst h1; subst h2
  show bindL kindOf ((p,w)::P.zip vs) m p=_;unfold bindL;rw [Qld fun v hv=>(List.nodup_cons.mp nd).1 (List.of_mem_zip hv).1,if_pos hk];simp
 | p::P,w::vs,i+1,m,nd,h1,h2,hk=>by
  show bindL kindOf ((p,w)::P.zip vs) m x=_;unfold bindL;exact QkY (i:=i) (List.nodup_cons.mp nd).2 (by simpa using h1) (by simpa using h2) hk
theorem Qk8 {kindOf:Str→Option NameKind}{x:Str}{v:Value}:∀{P:List Str}{vs:List Value}{i:Nat}{m:Str→Option Value},P.Nodup→P[i]? = some x→vs[i]? = some v→kindOf x≠some .local →
  bindC kindOf (P.zip vs) m x=some v
 | [],_,_,_,_,h,_,_=>by simp at h
 | _::_,[],_,_,_,_,h,_=>by simp at h
 | p::P,w::vs,0,m,nd,h1,h2,hk=>by
  simp at h1 h2; subst h1; subst h2
  show bindC kindOf ((p,w)::P.zip vs) m p=_;unfold bindC;rw [Qk6 fun v hv=>(List.nodup_cons.mp nd).1 (List.of_mem_zip hv).1,if_neg hk];simp
 | p::P,w::vs,i+1,m,nd,h1,h2,hk=>by
  show bindC kindOf ((p,w)::P.zip vs) m x=_;unfold bindC;exact Qk8 (i:=i) (List.nodup_cons.mp nd).2 (by simpa using h1) (by simpa using h2) hk
def start (N:List Str) (vs:List V):St:=vs.map some++List.replicate (N.length - vs.length) none
def Qeo (CX:CXT) (P:Program) (w:World) (K:PySem.W.Frag) (mg:Str→Option Value) (base:Heap) (N:List Str) (qual:Str) (scope:Scope) (f:Addr) (cd:Value) (A:Around) (outer:List Env) (s:Shared) (H:Hp) (E:XK):Cx where
 prog:=P
 w:=w
 K:=K
 mg:=mg
 base:=base
 A:=A.deeper (envOfC qual scope s.heap.objs.size f cd)
 N:=N
 s₀:=s
 H₀:=H
 env:=envOfC qual scope s.heap.objs.size f cd
 outer:=outer
 stack:=envOfC qual scope s.heap.objs.size f cd::outer
 ex:=[]
 calm:=true
 fn:=fun _=>true
 pn:=[]
 xe:=fun e s'=>wpAny (model P w) (A.deeper (envOfC qual scope s.heap.objs.size f cd)) (leaving (envOfC qual scope s.heap.objs.size f cd) e) (fun _ s''=>CX outer H s E e s'') (fun e' s''=>CX outer H s E e' s'') s'
theorem Qmq {sc:Scope}{n:Nat}{x:Str} (h:sc.names.lookup x=some .cell):∃c,(cellsFrom n sc.names []).lookup x=some c:=by
 have q:=PySem.W.cellsFrom_some sc.names n [] (.inl h);exact Option.isSome_iff_exists.mp q
theorem Qpr {CX:CXT}{P:Program}{w:World}{K:PySem.W.Frag}{mg:Str→Option Value}{base:Heap}{N ps:List Str}{qual:Str}{scope:Scope}{f:Addr}{cd:Value}{A:Around}{outer:List Env}{s s1:Shared}{H:Hp}{E:XK}{us:List Value}{vs:List V}
  (S:QaF N ps scope) (hd:A.handled=none) (e0:Qf9 P w K mg base A outer s H) (hl:vs.length=ps.length) (r:Qay vs us)
  (x:InCallC s s.heap.objs.size (bindL (envOfC qual scope s.heap.objs.size f cd).kindOf (ps.zip us) fun _=>none) (cellsFrom (s.heap.objs.size+1) scope.names []) (bindC (envOfC qual scope s.heap.objs.size f cd).kindOf (ps.zip us) fun _=>none) s1) :
  Inv (Qeo CX P w K mg base N qual scope f cd A outer s H E) [] (start N vs) H s1:=by
 have hpl:ps.length≤N.length:=by have:=congrArg List.length S.pre; rw [List.length_take] at this; omega
 obtain ⟨h1,tk,rfl,hk⟩:=x.done
 have noA:∀b:Addr,b∉(Qeo CX P w K mg base N qual scope f cd A outer s H E).ex:=fun b z=>absurd (show b∈([]:List Addr) from z) (by simp)
 refine ⟨⟨e0.mod,S.kind,rfl,rfl,ze _,fun y z c h1 h2=>?_,fun y hy=>?_,fun y c _ h=>?_,fun _=>hd,Around.frames_deeper e0.frames,.inr ⟨rfl,rfl⟩,fun b z=>absurd z (noA b),e0.bs,e0.bsz,fun b _ _=>noA b,fun b z=>absurd z (noA b),e0.funs,e0.frf⟩,
  rfl,e0.bare,Un.kept hk,⟨_,x.toInCall.ns,fun i y v h1 h2 h3=>?_⟩,fun y c h=>⟨_,x.cell y c h⟩,e0.hok.fresh (ze _),fun y c h=>?_,fun p hp=>absurd (show p∈([]:List (Addr×Obj)) from hp) (by simp),e0.hok.kept hk,?_⟩
 ·exact name_of_addr x.apart (PySem.mem_of_lookup h1) (PySem.mem_of_lookup h2)
 ·have hy:scope.names.lookup y=some .cell∨scope.names.lookup y=some .free:=hy
  rcases hy with hy | hy
  ·exact Qmq hy
  ·exact absurd rfl (S.nofree _ (PySem.mem_of_lookup hy))
 ·exact Nat.le_of_lt (x.above y c (PySem.mem_of_lookup h))
 ·have hi:i < vs.length:=by
   unfold start at h2
   by_cases hi:i < vs.length
   ·exact hi
   ·rw [zK (by simpa using hi)] at h2;rw [List.getElem?_replicate] at h2
    split at h2 <;> cases h2
  have ha:vs[i]? = some v:=by
   unfold start at h2;rw [zz (by simpa using hi),zx] at h2
   cases e:vs[i]? with
   | none=>rw [e] at h2; cases h2
   | some a=>rw [e] at h2; cases h2; rfl
  obtain ⟨u,hu,rv⟩:=r.get ha
  have hp:ps[i]? = some y:=by
   rw [←S.pre,List.getElem?_take_of_lt (by omega)]; exact h1
  have ndP:ps.Nodup:=by rw [←S.pre]; exact S.nd.sublist (List.take_sublist _ _)
  refine ⟨u,rv,?_⟩
  rcases S.par y (zO hp) with k | k
  ·exact .inl ⟨k,QkY ndP hp hu k⟩
  ·obtain ⟨c,e⟩:=Qmq (n:=s.heap.objs.size+1) k;refine .inr ⟨.inl k,c,e,?_⟩;have q:=x.cell y c e;rw [Qk8 ndP hp hu (by show scope.names.lookup y≠_; rw [k]; decide)] at q;exact q
 ·exact e0.hok.fresh (Nat.le_of_lt (x.above y c (PySem.mem_of_lookup h)))
 ·unfold start;show _=N.length;rw [zA,zh,List.length_replicate];omega
theorem Qtb {CX:CXT}{P:Program}{w:World}{K:PySem.W.Frag}{mg:Str→Option Value}{base:Heap}{k:Nat}{f:Addr}{name qual:Str}{params:Arguments}{body:List Stmt}{scope:Scope}{dV kV doc pm cdv ct oc:Value}{an od:Option Addr}
  {osl:Array (Option Value)}{N ps:List Str}{sp:Sp} (lk:K.lookup f=some ⟨oc,od,.func (PySem.W.fnOf name qual params body scope dV kV doc pm an cdv ct),osl⟩) (hcd:PySem.W.codeIn K cdv qual=true) (S:QaF N ps scope)
  (len:∀vs H Q E,sp vs H Q E→vs.length=ps.length)
  (hbody:∀(A:Around) (outer:List Env) (s:Shared) (H:Hp) (vs:List V) (Q:VK) (E:XK),QaS k (A.deeper (envOfC qual scope s.heap.objs.size f cdv))→sp vs H Q E →
   ∃t,PSs (Qeo CX P w K mg base N qual scope f cdv A outer s H E) body t∧t { nx:=fun _ H'=>Q .non H',rt:=Q } (start N vs) H) :
  Qb7 P w K mg base CX (k+1) f (PySem.W.fnOf name qual params body scope dV kV doc pm an cdv ct) ps sp:=by
 refine ⟨len,fun A outer s H args us vs Q E hr e0 hb r hsp=>?_⟩;have hl:=len _ _ _ _ hsp
 have KX:K.In s.heap:=e0.mod.kin.keeps fun b o e=>(e0.bs b o e).1
 have lim:s.heap.NoLimit:=e0.mod.nolimit.keeps fun b o e=>(e0.bs b o e).1
 have hkind:∀y∈ps.zip us,scope.names.lookup y.1=some .local∨(scope.names.lookup y.1=some .cell∧((cellsFrom (s.heap.objs.size+1) scope.names []).lookup y.1).isSome=true):=fun ⟨n,v⟩ hy=>by
  rcases S.par n (List.of_mem_zip hy).1 with q | q
  ·exact .inl q
  ·exact .inr ⟨q,PySem.W.cellsFrom_some _ _ _ (.inl q)⟩
 refine codeAny_call_function hr.depth (KX _ _ lk) rfl S.co S.gen rfl (PySem.W.codeRec_of KX hcd) (hb _ _ _ _ ?_)
 refine wpAny_newFunctionEnv_cells S.kind hkind fun env he s1 x=>?_
 subst he;refine ⟨lim.keeps x.toInCall.keep,codeAny_func ?_⟩;obtain ⟨t,ht,hq⟩:=hbody A outer s H vs Q E (hr.deeper _) hsp;have I:Inv (Qeo CX P w K mg base N qual scope f cdv A outer s H E) [] (start N vs) H s1:=Qpr S hr.hd e0 hl r x
 refine zG (ht [] s1 (start N vs) H _ I hq) (fun fl s' hs=>?_) fun e s' hs=>hs
 have fin:∀{σ':St}{H':Hp}{v:V}{u:Value},Inv (Qeo CX P w K mg base N qual scope f cdv A outer s H E) [] σ' H' s'→RelV v u→Q v H'→CE outer P w H s Q u s' :=
  fun {σ' H' v u} J rv q=>⟨v,H',J.os,J.bare,J.base,J.hok,rv,q⟩
 cases fl with
 | ret u =>
  obtain ⟨v,σ',H',J,rv,q⟩:=hs;exact fin J rv q
 | next =>
  obtain ⟨σ',H',J,q⟩:=hs;exact fin (v:=V.non) (u:=Value.none) J rfl q
 | brk =>
  obtain ⟨_,_,_,q⟩:=hs;exact False.elim q
 | cont =>
  obtain ⟨_,_,_,q⟩:=hs;exact False.elim q
section
variable {X:Cx}{x:Str}{p pos:Pos}{e:Expr}{es:List Expr}{t:TA}{id T:String}{r:List V→Hp→VK→Prop}
def tCB (r:List V→Hp→VK→Prop) (t:TA):TE:=fun σ H Q=>t σ H fun vs H1=>r vs H1 Q
theorem Qhd (hc:Qeq X (.builtin id) r) (hg:Gl X x) (hm:X.mg x=none) (hv:bootBuiltins x=some (.builtin id)) (ha:PA X (e::es) t) (hn:x≠"__name__":=by decide) (hdb:(x == ("__debug__":Str))=false:=by decide)
  (he:starEach (e::es) X.env=(false,eval e X.env)::starEach es X.env:=by rfl) (hpl:(backTo pos (starEach es X.env)).any (·.1)=false:=by rfl):PE X (.Call (.Name x p) (e::es) [] pos) (tCB r t):=by
 intro pins s σ H Q I h;refine wpAny_Call_Name_kw (QdE I hg hm hv ?_ hn hdb);exact PyProof.Rows.callWith_builtin1 (thn (ha pos pins s σ H _ I h) fun us s1 ⟨vs,H1,I1,r1,q1⟩=>hc pins s1 σ H1 vs us Q I1 r1 q1) he hpl
theorem Qqd (hc:Qeq X (.type T) r) (hg:Gl X x) (hm:X.mg x=none) (hv:bootBuiltins x=some (.type T)) (ha:PA X (e::es) t) (hn:x≠"__name__":=by decide) (hdb:(x == ("__debug__":Str))=false:=by decide)
  (he:starEach (e::es) X.env=(false,eval e X.env)::starEach es X.env:=by rfl) (hpl:(backTo pos (starEach es X.env)).any (·.1)=false:=by rfl):PE X (.Call (.Name x p) (e::es) [] pos) (tCB r t):=by
 intro pins s σ H Q I h;refine wpAny_Call_Name_kw (QdE I hg hm hv ?_ hn hdb);exact PyProof.Rows.callWith_type1 (thn (ha pos pins s σ H _ I h) fun us s1 ⟨vs,H1,I1,r1,q1⟩=>hc pins s1 σ H1 vs us Q I1 r1 q1) he hpl
end
end L2
namespace HT
open PySem PyProof.Rows
section
open PySem.SeqAt
open PySem.AutoSeq1 (wpAny_loadPart')
open PySem.MeetsSeq PySem.MeetsSeq2 PySem.MeetsSeq3
end
section
variable {prog:Program}{w:World}{A:Around}{E:Value→Shared→Prop}{s:Shared}
theorem cat_tup {t b:Addr}{vs ws:List Value}{Q:Value→Shared→Prop} (ht:IsTup s.heap t vs.toArray) (hb:IsTup s.heap b ws.toArray) (hv:vs≠[])
  (h1:ws = []→Q (.ref t) s) (h2:ws≠[]→Q (.ref s.heap.objs.size) { s with heap:=s.heap.push { cls:=.type "tuple",data:=.seq (vs++ws).toArray } })
  (hsz:vs.length+ws.length≤sizeLine):wpAny (model prog w) A (binaryOp .Add (.ref t) (.ref b)) Q E s:=by
 obtain ⟨⟨cls,dd,data,sl⟩,ho,hc,n,hd⟩:=id ht;obtain ⟨⟨cls2,dd2,data2,sl2⟩,ho2,hc2,n2,hd2⟩:=id hb;simp only at hc hd hc2 hd2;subst hc hd hc2 hd2
 have e:vs.toArray++ws.toArray=(vs++ws).toArray:=by simp
 by_cases hw:ws = []
 ·exact concat_meets ⟨_,ho,rfl⟩ ⟨_,ho2,rfl⟩ noFill_tuple_add seq_tuple_add PySem.F.slot_tuple_add PySem.F.entry_tuple_add (PySem.F.args_tuple_add_2 _ _)
   (tuple_addW1 t b vs.toArray ws.toArray n n2 dd dd2 sl sl2 (by simpa using hv) (by simp [hw])) ⟨ho,ho2,h1 hw⟩
 ·refine concat_meets ⟨_,ho,rfl⟩ ⟨_,ho2,rfl⟩ noFill_tuple_add seq_tuple_add PySem.F.slot_tuple_add PySem.F.entry_tuple_add (PySem.F.args_tuple_add_2 _ _)
   (tuple_addW2 t b vs.toArray ws.toArray n n2 dd dd2 sl sl2 (by simpa using hv) (by simpa using hw) (by rw [zp,zp]; exact hsz)) ⟨ho,ho2,?_⟩
  rw [e];exact h2 hw
def sIx (n d:Nat):Option Int→Nat
 | none=>d
 | some v=>if v < 0 then (v+(n:Int)).toNat else min v.toNat n
theorem sIx_nat (n d k:Nat):sIx n d (some (k:Int))=min k n:=by
 show (if (k:Int) < 0 then ((k:Int)+(n:Int)).toNat else min (k:Int).toNat n)=min k n;rw [if_neg (by omega),Int.toNat_natCast]
theorem sIx_le (n d:Nat) (hd:d≤n) (o:Option Int):sIx n d o≤n:=by
 cases o with
 | none=>exact hd
 | some v =>
  show (if v < 0 then (v+(n:Int)).toNat else min v.toNat n)≤n
  by_cases hv:v < 0
  ·rw [if_pos hv]; omega
  ·rw [if_neg hv]; exact Nat.min_le_right _ _
theorem QnN (v:Int) (n d:Nat):(if v < 0 then max (v+(n:Int)) 0 else min v (n:Int))=((sIx n d (some v):Nat):Int):=by
 show (if v < 0 then max (v+(n:Int)) 0 else min v (n:Int))=(((if v < 0 then (v+(n:Int)).toNat else min v.toNat n):Nat):Int)
 by_cases hv:v < 0
 ·simp only [if_pos hv]; omega
 ·simp only [if_neg hv]; omega
theorem Qoo (lo hi:Option Int) (n:Nat):Builtin.Slice.sliceAdjust lo hi 1 (n:Int)=(((sIx n 0 lo:Nat):Int),((sIx n n hi:Nat):Int)):=by
 have h1:¬((1:Int) < 0):=by omega
 unfold Builtin.Slice.sliceAdjust;simp only [h1,if_false];refine Prod.ext ?_ ?_
 ·cases lo with
  | none=>rfl
  | some v=>exact QnN v n 0
 ·cases hi with
  | none=>rfl
  | some v=>exact QnN v n n
theorem Qou (i j:Nat):Builtin.Slice.slicePlaces (i:Int) (j:Int) 1=j - i:=by
 unfold Builtin.Slice.slicePlaces
 have h1:(1:Int) > 0:=by omega
 simp only [h1,if_true,Int.ediv_one]
 split <;> omega
theorem QjO {v:Value}{o:Option Int}{Q:Option Int→Shared→Prop} (p:IsPart v o) (h:Q o s):wpAny (model prog w) A (Builtin.Slice.slicePartIndex v) Q E s:=by
 cases p with
 | none=>exact slicePart_none h
 | int i t=>exact slicePart_int h
theorem sliceApplied_gen {sl:Addr}{vl vu:Value}{lo hi:Option Int}{n:Nat}{Q:Int×Int×Nat→Shared→Prop} (hs:s.heap.IsSliceOf sl vl vu .none) (pl:IsPart vl lo) (pu:IsPart vu hi)
  (h:Q (((sIx n 0 lo:Nat):Int),1,sIx n n hi - sIx n 0 lo) s):wpAny (model prog w) A (Builtin.Slice.sliceApplied (.ref sl) (pure (n:Int))) Q E s:=by
 obtain ⟨os,hos,hcs,hds⟩:=id hs;unfold Builtin.Slice.sliceApplied Builtin.Slice.sliceFields;refine za (za (wpAny_field hos hds (x:=vl) rfl (za (wpAny_field hos hds (x:=vu) rfl (za (wpAny_field hos hds (x:=.none) rfl (zb ?_)))))));refine za (slicePart_none ?_);show wpAny _ _ (if ((1:Int) == 0)=true then _ else _) _ _ s;rw [if_neg (by decide)];refine za (QjO pl (za (QjO pu (za (zb ?_)))));show wpAny _ _ (match Builtin.Slice.sliceAdjust lo hi 1 (n:Int) with | (lo,hi)=>pure (lo,(1:Int),Builtin.Slice.slicePlaces lo hi 1)) _ _ s;rw [Qoo lo hi n];show wpAny _ _ (pure (((sIx n 0 lo:Nat):Int),(1:Int),Builtin.Slice.slicePlaces ((sIx n 0 lo:Nat):Int) ((sIx n n hi:Nat):Int) 1)) _ _ s
 rw [Qou];exact zb h
theorem Qsf (xs:Array Value) (i k:Nat):((List.range k).filterMap fun (m:Nat)=>xs[((i:Int)+(m:Int) * 1).toNat]?).toArray=((xs.toList.drop i).take k).toArray:=by
 have e:(fun (m:Nat)=>xs[((i:Int)+(m:Int) * 1).toNat]?)=fun m=>xs[i+m]?:=by
  funext m
  have:((i:Int)+(m:Int) * 1).toNat=i+m:=by omega
  rw [this]
 rw [e]
 have:=pick_run xs i k
 rw [List.filterMap_map] at this
 have e2:((fun x=>xs[x]?) ∘ fun x=>i+x)=fun m=>xs[i+m]?:=rfl
 rw [e2] at this;rw [this]
theorem getItem_tuple_cut {t sl:Addr}{items:Array Value}{vl vu:Value}{lo hi:Option Int}{Q:Value→Shared→Prop} (ht:IsTup s.heap t items) (hs:s.heap.IsSliceOf sl vl vu .none) (pl:IsPart vl lo) (pu:IsPart vu hi)
  (hw:¬(sIx items.size 0 lo=0∧sIx items.size items.size hi=items.size))
  (h:Q (.ref s.heap.objs.size) { s with heap:=s.heap.push { cls:=.type "tuple",data:=.seq ((items.toList.drop (sIx items.size 0 lo)).take (sIx items.size items.size hi - sIx items.size 0 lo)).toArray } })
  (hsz:items.size≤sizeLine):wpAny (model prog w) A (getItem (.ref t) (.ref sl)) Q E s:=by
 have htake:sizeOk (.seq ((items.toList.drop (sIx items.size 0 lo)).take (sIx items.size items.size hi - sIx items.size 0 lo)).toArray):=by
  show ((items.toList.drop (sIx items.size 0 lo)).take (sIx items.size items.size hi - sIx items.size 0 lo)).toArray.size≤sizeLine;rw [zp,List.length_take,List.length_drop,Array.length_toList];omega
 have hj:sIx items.size items.size hi≤items.size:=sIx_le _ _ (ze _) hi;obtain ⟨os,hos,hcs,hds⟩:=id hs;have hTs:s.TypeIs (.ref sl) "slice":=⟨os,hos,hcs⟩;unfold getItem
 try with_reducible refine zH ?_
 first | refine za (zb ?_) | skip
 refine za (wpAny_sequenceKey ht.typeIs (by decide) ?_)
 refine za (wpAny_callSpecial?_slot (name:=Str.ofString "__getitem__") ht.typeIs PyProof.Rows.slot_tuple_getitem
  (wpAny_call_entry PyProof.Rows.slot_tuple_getitem ht.typeIs entry_tuple_getitem ?_ (args_tuple_getitem _ _)))
 show wpAny _ _ (Builtin.Tuple.tupleItemsOf (.ref t) >>= _) _ _ s;refine za (tupleItemsOf_ ht ?_);refine za (wpAny_typeOf hTs ?_);rw [if_pos (by decide)];refine za (sliceApplied_gen hs pl pu ?_)
 have hno:¬((((sIx items.size 0 lo:Nat):Int) == 0&&(1:Int) == 1&&(sIx items.size items.size hi - sIx items.size 0 lo) == items.size)=true):=by
  intro q;rw [zm,zm] at q;have q1:((sIx items.size 0 lo:Nat):Int)=0:=eq_of_beq q.1.1;have q2:sIx items.size items.size hi - sIx items.size 0 lo=items.size:=eq_of_beq q.2;exact hw ⟨by omega,by omega⟩
 show wpAny _ _ (if (((sIx items.size 0 lo:Nat):Int) == 0&&(1:Int) == 1&&(sIx items.size items.size hi - sIx items.size 0 lo) == items.size)=true then _ else _) _ _ s;rw [if_neg hno,Qsf]
 first
  | exact za (m:=Builtin.Tuple.tupleExact _) (wpAny_newObj_type (zb ⟨_,rfl,zb h⟩) htake)
  | exact za (m:=Builtin.Tuple.tupleExact _) (wpAny_newObj_type (za (zb (zb ⟨_,rfl,zb h⟩))) htake)
  | exact za (za (m:=Builtin.Tuple.tupleExact _) (wpAny_newObj_type (zb (zb ⟨_,rfl,zb h⟩)) htake))
  | exact za (za (m:=Builtin.Tuple.tupleExact _) (wpAny_newObj_type (zb ⟨_,rfl,zb h⟩) htake))
end
end HT
namespace L2
open PySem PySem.Spec PyProof.Rows
abbrev TO:=St→Hp→(Option Int→Hp→Prop)→Prop
def PO (X:Cx) (e:Option Expr) (t:TO):Prop :=
 ∀(pins:List (Addr×Obj)) (s:Shared) (σ:St) (H:Hp) (Q:Option Int→Hp→Prop),Inv X pins σ H s→t σ H Q →
  wpAny (model X.prog X.w) X.A (evalPart e X.env) (fun u s'=>∃o H',Inv X pins σ H' s'∧IsPart u o∧Q o H') X.xe s
def QxT (t:TE):TO:=fun σ H Q=>t σ H fun x H1=>∃i,x = .int i∧Q (some i) H1
section
variable {X:Cx}{e:Expr}{te:TE}{lo hi:Option Expr}{tl th:TO}{pos p2:Pos}
theorem QtY (h:PE X e te):PO X (some e) (QxT te):=by
 intro pins s σ H Q I hw;rw [evalPart_some]
 refine thn (h pins s σ H _ I hw) fun u s1 ⟨x,H1,I1,r1,q1⟩=>?_
 obtain ⟨i,rfl,q⟩:=q1;obtain ⟨t,rfl⟩:=r1;exact ⟨some i,H1,I1,.int i t,q⟩
def SlR (X:Cx) (r:V→Option Int→Option Int→Hp→VK→Prop):Prop :=
 ∀(pins:List (Addr×Obj)) (s:Shared) (σ:St) (H:Hp) (x:V) (v vl vu:Value) (lo hi:Option Int) (sl:Addr) (Q:VK),Inv X pins σ H s→RelV x v→s.heap.IsSliceOf sl vl vu .none→IsPart vl lo→IsPart vu hi→r x lo hi H Q →
  ∃T id,typeLookup (.type T) "__getitem__" = pure (some (.builtin id))∧s.TypeIs v T∧wpAny (model X.prog X.w) X.A (getItem v (.ref sl)) (EP X pins σ Q) X.xe s
def tSl (r:V→Option Int→Option Int→Hp→VK→Prop) (te:TE) (tl th:TO):TE:=fun σ H Q=>te σ H fun x H1=>tl σ H1 fun l H2=>th σ H2 fun u H3=>r x l u H3 Q
theorem Qr0 {r:V→Option Int→Option Int→Hp→VK→Prop} (hr:SlR X r) (he:PE X e te) (hl:PO X lo tl) (hu:PO X hi th):PE X (.Subscript e (.Slice lo hi none p2) pos) (tSl r te tl th):=by
 intro pins s σ H Q I h;refine Subscript_ (thn (he pins s σ H _ I h) fun v s1 ⟨x,H1,I1,r1,q1⟩=>?_);refine wpAny_Slice (thn (hl pins s1 σ H1 _ I1 q1) fun vl s2 ⟨l,H2,I2,pl,q2⟩=>thn (hu pins s2 σ H2 _ I2 q2) fun vu s3 ⟨u,H3,I3,pu,q3⟩=>?_);rw [evalPart_none];refine zb ?_
 have I4:Inv X pins σ H3 { s3 with heap:=s3.heap.push { cls:=.type "slice",data:=.fields #[vl,vu,.none] } }:=I3.kept (t':=s3.toks) fun b ob q=>zn _ q
 obtain ⟨T,id,hT,ht,hg⟩:=hr pins { s3 with heap:=s3.heap.push { cls:=.type "slice",data:=.fields #[vl,vu,.none] } } σ H3 x v vl vu l u s3.heap.objs.size Q I4 r1 (Heap.IsSliceOf.new ..) pl pu q3;show wpAny (model X.prog X.w) X.A (subscriptTail e (.Slice lo hi none p2) v (.ref s3.heap.objs.size)) (EP X pins σ Q) X.xe { s3 with heap:=s3.heap.push { cls:=.type "slice",data:=.fields #[vl,vu,.none] } };exact tail_any (ops:=[.ref s3.heap.objs.size,v]) ht hT hg (by with_unfolding_all rfl)
def Qhr (xs:List V) (lo hi:Option Int):List V:=(xs.drop (HT.sIx xs.length 0 lo)).take (HT.sIx xs.length xs.length hi - HT.sIx xs.length 0 lo)
theorem QiQ (xs:List V) (lo hi:Option Int):(Qhr xs lo hi).length≤xs.length:=by
 unfold Qhr;rw [List.length_take,List.length_drop];omega
def Qyx (K:PySem.W.Frag):V→Option Int→Option Int→Hp→VK→Prop:=fun x lo hi H Q=>∃a xs,x = .ref a∧SqT K H a xs ∧
 ¬(HT.sIx xs.length 0 lo=0∧HT.sIx xs.length xs.length hi=xs.length)∧∀p,H p=none→Q (.ref p) (upd H p (.tup (Qhr xs lo hi)))
theorem QwD:SlR X (Qyx X.K):=by
 intro pins s σ H x v vl vu lo hi sl Q I rx hs pl pu h;obtain ⟨a,xs,rfl,hx,hw,q⟩:=h;cases rx;obtain ⟨its,r,ht,hz⟩:=I.tuple hx
 have hlen:its.toArray.size=xs.length:=by rw [zp]; exact r.length.symm
 refine ⟨"tuple",_,PyProof.Rows.slot_tuple_getitem.lookup,ht.typeIs,?_⟩;refine HT.getItem_tuple_cut ht hs pl pu (by rw [hlen]; exact hw) ?_ (by rw [hlen]; exact hz);rw [hlen];refine ⟨.ref s.heap.objs.size,_,I.laid (t':=s.toks) (o:=.tup (Qhr xs lo hi)) (fun b ob q=>zn _ q) (ze _) ?_,rfl,q _ (I.hok.fresh (ze _))⟩;exact ⟨zC (QiQ xs lo hi) hz,_,(r.drop (HT.sIx xs.length 0 lo)).take (HT.sIx xs.length xs.length hi - HT.sIx xs.length 0 lo),IsTup.new _ _⟩
def Qw5 (K:PySem.W.Frag):R2:=fun x y H Q=>∃a b xs ys,x = .ref a∧y = .ref b∧SqT K H a xs∧SqT K H b ys∧xs≠[]∧xs.length+ys.length≤sizeLine ∧
 (ys = []→Q (.ref a) H)∧(ys≠[]→∀p,H p=none→Q (.ref p) (upd H p (.tup (xs++ys))))
theorem Qay.nil_iff {xs:List V}{us:List Value} (r:Qay xs us):us = []↔xs = []:=by
 cases r with
 | nil=>simp
 | cons _ _=>simp
theorem Quk:OpR X (binaryOp .Add) (Qw5 X.K):=by
 intro pins s σ H x y v u Q I rx ry h;obtain ⟨a,b,xs,ys,rfl,rfl,ha,hb,hx,hz,q1,q2⟩:=h;cases rx;cases ry;obtain ⟨its,r1,p1,_⟩:=I.tuple ha;obtain ⟨its2,r2,p2,_⟩:=I.tuple hb;refine HT.cat_tup p1 p2 (fun z=>hx (r1.nil_iff.mp z)) (fun z=>⟨.ref a,H,I,rfl,q1 (r2.nil_iff.mp z)⟩) (fun z=>?_) (by rw [←r1.length,←r2.length]; exact hz);refine ⟨.ref s.heap.objs.size,_,I.laid (t':=s.toks) (o:=.tup (xs++ys)) (fun b ob q=>zn _ q) (ze _) ?_,rfl,q2 (fun w=>z (r2.nil_iff.mpr w)) _ (I.hok.fresh (ze _))⟩;exact ⟨by rw [zA]; exact hz,_,r1.append r2,IsTup.new _ _⟩
end
def ixN (n:Nat) (i:Int):Option Nat:=if 0≤i then (if i < n then some i.toNat else none) else if -(n:Int)≤i then some (i+n).toNat else none
def atI {α:Type} (xs:List α) (i:Int):Option α:=(ixN xs.length i).bind fun j=>xs[j]?
theorem Qt5 {n:Nat}{i:Int}{j:Nat} (h:ixN n i=some j):seqIndex? i n=some j∧j < n∧-(n:Int)≤i∧i < n:=by
 unfold ixN at h
 by_cases h0:0≤i
 ·rw [if_pos h0] at h
  by_cases h1:i < n
  ·rw [if_pos h1] at h;have e:i.toNat=j:=zE h;exact ⟨by rw [seqIndex_of h0 h1,e],by omega,by omega,h1⟩
  ·rw [if_neg h1] at h; cases h
 ·rw [if_neg h0] at h
  by_cases h1:-(n:Int)≤i
  ·rw [if_pos h1] at h;have e:(i+n).toNat=j:=zE h;exact ⟨by rw [seqIndex_neg (by omega) h1,e],by omega,h1,by omega⟩
  ·rw [if_neg h1] at h; cases h
theorem QkM {α:Type}{xs:List α}{i:Int}{v:α} (h:atI xs i=some v):∃j,seqIndex? i xs.length=some j∧xs[j]? = some v∧j < xs.length∧-(xs.length:Int)≤i∧i < xs.length:=by
 unfold atI at h
 cases e:ixN xs.length i with
 | none=>rw [e] at h; cases h
 | some j =>
  rw [e] at h;obtain ⟨h1,h2,h3,h4⟩:=Qt5 e;exact ⟨j,h1,h,h2,h3,h4⟩
def QiD (b:Expr):Prop:=∀o i,subscripted b false o i=operate [o,i] (getItem o i)
def IxR (X:Cx) (r:R2):Prop :=
 ∀(value slice:Expr) (pins:List (Addr×Obj)) (s:Shared) (σ:St) (H:Hp) (x y:V) (v u:Value) (Q:VK),Inv X pins σ H s→RelV x v→RelV y u→r x y H Q →
  subscripted slice false v u=operate [v,u] (getItem v u)→wpAny (model X.prog X.w) X.A (subscriptTail value slice v u) (EP X pins σ Q) X.xe s
def MtR (X:Cx) (id:String) (r:V→List V→Hp→VK→Prop):Prop :=
 ∀(pins:List (Addr×Obj)) (s:Shared) (σ:St) (H:Hp) (x:V) (xs:List V) (v:Value) (us:List Value) (Q:VK),Inv X pins σ H s→RelV x v→Qay xs us→r x xs H Q →
  wpAny (model X.prog X.w) X.A (call (.builtin id) (v::us)) (EP X pins σ Q) X.xe s
section
variable {X:Cx}{a b:Expr}{ta tb:TE}{pos:Pos}
theorem Qw2 {r:R2} (hr:IxR X r) (ha:PE X a ta) (hb:PE X b tb) (hs:QiD b):PE X (.Subscript a b pos) (tOp r ta tb):=by
 intro pins s σ H Q I h;exact Subscript_ (Qst ha hb I h fun v u s2 x y H2 I2 rx ry q=>hr a b pins s2 σ H2 x y v u Q I2 rx ry q (hs _ _))
def QyF (K:PySem.W.Frag):R2:=fun x y H Q=>∃p xs i v,x = .ref p∧y = .int i∧SqL K H p xs∧atI xs i=some v∧Q v H
def QyJ (K:PySem.W.Frag):R2:=fun x y H Q=>∃p xs i v,x = .ref p∧y = .int i∧SqT K H p xs∧atI xs i=some v∧Q v H
def Qyn:R2:=fun x y H Q=>∃z i c,x = .str z∧y = .int i∧z.length≤sizeLine∧atI z.cps.toList i=some c∧Q (.str ⟨#[c]⟩) H
theorem Quz:IxR X (QyF X.K):=by
 intro value slice pins s σ H x y v u Q I rx ry h hs;obtain ⟨p,xs,i,z,rfl,rfl,hq,he,q⟩:=h;cases rx;obtain ⟨t,rfl⟩:=ry;obtain ⟨its,r,pl,hz⟩:=I.list hq;obtain ⟨j,h1,h2,h3,h4,h5⟩:=QkM he;obtain ⟨w,ew,rw'⟩:=r.get h2;have hl:=r.length;have hn:=Qin;have fin:EP X pins σ Q w s:=⟨z,H,I,rw',q⟩
 by_cases h0:0≤i
 ·have hj:i.toNat=j:=by
   rw [seqIndex_of h0 h5] at h1;exact zE h1
  exact item_listR pl.isList h0 (by omega) (by rw [hj]; simpa using ew) fin hs
 ·have hj:(i+(its.toArray.size:Int)).toNat=j:=by
   rw [seqIndex_neg (by omega) h4] at h1;rw [zp,←hl];exact zE h1
  exact subscriptTail_builtinR (x:=w) pl.isList.typeIs slot_list_getitem.lookup
   (wpAny_getItem_list_neg (Q:=fun r s'=>r=w∧EP X pins σ Q r s') pl.isList (by omega) (by rw [zp] <;> omega) (by omega) (by rw [hj]; simpa using ew) ⟨rfl,fin⟩) hs
theorem Qvs:IxR X (QyJ X.K):=by
 intro value slice pins s σ H x y v u Q I rx ry h hs;obtain ⟨p,xs,i,z,rfl,rfl,hq,he,q⟩:=h;cases rx;obtain ⟨t,rfl⟩:=ry;obtain ⟨its,r,pl,hz⟩:=I.tuple hq;obtain ⟨j,h1,h2,h3,h4,h5⟩:=QkM he;obtain ⟨w,ew,rw'⟩:=r.get h2;have hl:=r.length;have hn:=Qin;have fin:EP X pins σ Q w s:=⟨z,H,I,rw',q⟩;exact subscriptTail_builtinR (x:=w) pl.typeIs slot_tuple_getitem.lookup
  (getItem_tuple (j:=j) (Q:=fun r s'=>r=w∧EP X pins σ Q r s') pl (by omega) (by omega) (by rw [zp,←hl]; exact h1) (by simpa using ew) ⟨rfl,fin⟩) hs
theorem Qwb:IxR X Qyn:=by
 intro value slice pins s σ H x y v u Q I rx ry h hs;obtain ⟨z,i,c,rfl,rfl,hz,he,q⟩:=h;obtain ⟨t,rfl⟩:=rx;obtain ⟨t',rfl⟩:=ry;obtain ⟨j,h1,h2,h3,h4,h5⟩:=QkM he
 have hl:z.cps.toList.length=z.length:=by simp [Str.length]
 rw [hl] at h1 h4 h5;have hn:=Qin
 exact tail_any (typeIs_str s z t) slot_str_getitem.lookup (getItem_str (c:=c) (by
  have e1:decide (i < -(2 ^ 63:Int))=false:=zj (by omega);have e2:decide (i≥2 ^ 63)=false:=zj (by omega)
  rw [e1,e2,Bool.or_false]) (by rw [h1]; simpa using h2) ⟨.str ⟨#[c]⟩,H,I.tok _,⟨_,rfl⟩,q⟩) hs
theorem Inv.lst {pins:List (Addr×Obj)}{σ:St}{H:Hp}{s:Shared}{p:Addr}{xs:List V} (I:Inv X pins σ H s) (h:H p=some (.lst xs)) :
  ∃(its:List Value) (n:Nat),Qay xs its∧s.heap.get? p=some { cls:=.type "list",data:=.seq its.toArray n }∧xs.length≤sizeLine:=by
 obtain ⟨z,its,n,r,e⟩:=I.hok p _ h;exact ⟨its,n,r,e,z⟩
theorem Qif (lo hi:Option Int) (n:Nat):(sliceBounds lo hi none n).1=((HT.sIx n 0 lo:Nat):Int)∧(sliceBounds lo hi none n).2.1=((HT.sIx n n hi:Nat):Int)∧(sliceBounds lo hi none n).2.2=1:=by
 refine ⟨?_,?_,rfl⟩
 ·cases lo with
  | none=>simp [sliceBounds,HT.sIx]
  | some i =>
   simp only [sliceBounds,HT.sIx,Option.getD_none,show (1:Int) > 0 by decide,if_true]
   by_cases h:i < 0
   ·simp only [h,if_true] <;> omega
   ·simp only [h,if_false] <;> omega
 ·cases hi with
  | none=>simp [sliceBounds,HT.sIx]
  | some i =>
   simp only [sliceBounds,HT.sIx,Option.getD_none,show (1:Int) > 0 by decide,if_true]
   by_cases h:i < 0
   ·simp only [h,if_true] <;> omega
   ·simp only [h,if_false] <;> omega
theorem Qlg (its:List Value) (lo hi:Option Int):slicePick its.toArray lo hi none=((its.drop (HT.sIx its.length 0 lo)).take (HT.sIx its.length its.length hi - HT.sIx its.length 0 lo)).toArray:=by
 obtain ⟨h1,h2,h3⟩:=Qif lo hi its.toArray.size;unfold slicePick;rw [h1,h2,h3]
 simp only [sliceRange_one,pick_run,zp] <;> rfl
def Qx5 (K:PySem.W.Frag):V→Option Int→Option Int→Hp→VK→Prop:=fun x lo hi H Q=>∃a xs,x = .ref a∧SqL K H a xs∧∀p,H p=none→Q (.ref p) (upd H p (.lst (Qhr xs lo hi)))
theorem QtJ:SlR X (Qx5 X.K):=by
 intro pins s σ H x v vl vu lo hi sl Q I rx hs pl pu h;obtain ⟨a,xs,rfl,hx,q⟩:=h;cases rx;obtain ⟨its,r,ht,hz⟩:=I.list hx;have hlen:=r.length;refine ⟨"list",_,slot_list_getitem.lookup,ht.isList.typeIs,?_⟩;refine wpAny_getItem_list_slice ht.isList hs pl pu .none (by simp) ?_ (by rw [zp] <;> omega);rw [Qlg,←hlen];refine ⟨.ref s.heap.objs.size,_,I.laid (t':=s.toks) (o:=.lst (Qhr xs lo hi)) (fun b ob q=>zn _ q) (ze _) ?_,rfl,q _ (I.hok.fresh (ze _))⟩;exact ⟨zC (QiQ xs lo hi) hz,_,0,(r.drop (HT.sIx xs.length 0 lo)).take (HT.sIx xs.length xs.length hi - HT.sIx xs.length 0 lo),zw _ rfl⟩
def QeQ:V→Bool
 | .non=>true
 | .bl _=>true
 | .int _=>true
 | .str _=>true
 | _=>false
def eqV:V→V→Bool
 | .non,.non=>true
 | .bl a,.bl b=>a == b
 | .bl a,.int b=>(if a then 1 else 0) == b
 | .int a,.bl b=>a == (if b then 1 else 0)
 | .int a,.int b=>a == b
 | .str a,.str b=>a == b
 | _,_=>false
theorem QwI {A:Around}{s:Shared}{y x:V}{u v:Value} (ry:RelV y u) (rx:RelV x v) (fy:QeQ y=true) (fx:QeQ x=true):SeqAt.EqAt A s u v (eqV y x):=by
 cases y with
 | non =>
  cases ry
  cases x with
  | non=>cases rx; exact SeqAt.EqAt.same _
  | bl b=>cases rx; exact SeqAt.EqAt.none_bool b
  | int b=>obtain ⟨t,rfl⟩:=rx; exact SeqAt.EqAt.none_int b t
  | str b=>obtain ⟨t,rfl⟩:=rx; exact SeqAt.EqAt.none_str b t
  | _=>exact absurd (show false=true from fx) zg
 | bl a =>
  cases ry
  cases x with
  | non=>cases rx; exact SeqAt.EqAt.bool_none a
  | bl b=>cases rx; exact SeqAt.EqAt.bool_bool a b
  | int b=>obtain ⟨t,rfl⟩:=rx; exact SeqAt.EqAt.bool_int a b t
  | str b=>obtain ⟨t,rfl⟩:=rx; exact SeqAt.EqAt.bool_str a b t
  | _=>exact absurd (show false=true from fx) zg
 | int a =>
  obtain ⟨t',rfl⟩:=ry
  cases x with
  | non=>cases rx; exact SeqAt.EqAt.int_none a t'
  | bl b=>cases rx; exact SeqAt.EqAt.int_bool a t' b
  | int b=>obtain ⟨t,rfl⟩:=rx; exact SeqAt.EqAt.int_int a t' b t
  | str b=>obtain ⟨t,rfl⟩:=rx; exact SeqAt.EqAt.int_str a t' b t
  | _=>exact absurd (show false=true from fx) zg
 | str a =>
  obtain ⟨t',rfl⟩:=ry
  cases x with
  | non=>cases rx; exact SeqAt.EqAt.str_none a t'
  | bl b=>cases rx; exact SeqAt.EqAt.str_bool a t' b
  | int b=>obtain ⟨t,rfl⟩:=rx; exact SeqAt.EqAt.str_int a t' b t
  | str b=>obtain ⟨t,rfl⟩:=rx; exact SeqAt.EqAt.str_str a t' b t
  | _=>exact absurd (show false=true from fx) zg
 | _=>exact absurd (show false=true from fy) zg
def eqU (x:V) (u:Value):Bool:=match u with
 | .none=>eqV .non x
 | .bool b=>eqV (.bl b) x
 | .int i _=>eqV (.int i) x
 | .str z _=>eqV (.str z) x
 | _=>false
theorem QpZ {x y:V}{u:Value} (r:RelV y u) (f:QeQ y=true):eqU x u=eqV y x:=by
 cases y with
 | non=>cases r; rfl
 | bl b=>cases r; rfl
 | int i=>obtain ⟨t,rfl⟩:=r; rfl
 | str z=>obtain ⟨t,rfl⟩:=r; rfl
 | _=>exact absurd (show false=true from f) zg
theorem Qkm {x:V}:∀{xs:List V}{us:List Value},Qay xs us→xs.all QeQ=true→us.any (eqU x)=xs.any fun y=>eqV y x
 | _,_,.nil,_=>rfl
 | y::xs,u::us,.cons r t,f=>by
  rw [List.all_cons,zm] at f;rw [List.any_cons,List.any_cons,QpZ r f.1,Qkm t f.2]
theorem Qi2 {A:Around}{s:Shared}{x:V}{v:Value} (rx:RelV x v) (fx:QeQ x=true):∀{xs:List V}{us:List Value},Qay xs us→xs.all QeQ=true→∀u∈us,SeqAt.EqAt A s u v (eqU x u)
 | _,_,.nil,_=>fun u hu=>by cases hu
 | y::xs,u::us,.cons r t,f=>fun u' hu=>by
  rw [List.all_cons,zm] at f
  rcases zd.mp hu with rfl | hu
  ·rw [QpZ r f.1]; exact QwI r rx f.1 fx
  ·exact Qi2 rx fx t f.2 u' hu
def inV (x:V) (xs:List V):Bool:=xs.any fun y=>eqV y x
def rIn (K:PySem.W.Frag) (neg:Bool):R2:=fun x y H Q=>∃p xs,y = .ref p∧(SqL K H p xs∨SqT K H p xs)∧QeQ x=true∧xs.all QeQ=true∧Q (.bl (if neg then !inV x xs else inV x xs)) H
theorem QqI:OpR X (compareOp .In) (rIn X.K false):=by
 intro pins s σ H x y v u Q I rx ry h;obtain ⟨p,xs,rfl,hq,fx,fs,q⟩:=h;cases ry
 rcases hq with hq | hq
 ·obtain ⟨its,r,pl,hz⟩:=I.list hq;refine SeqAt.in_listAt (eqU x) pl.isList (fun w hw=>Qi2 rx fx r fs w (by simpa using hw)) ⟨.bl _,H,I,rfl,?_⟩;rw [show its.toArray.any (eqU x)=its.any (eqU x) by simp,Qkm r fs];exact q
 ·obtain ⟨its,r,pl,hz⟩:=I.tuple hq;refine SeqAt.in_tupleAt (eqU x) pl (fun w hw=>Qi2 rx fx r fs w (by simpa using hw)) ⟨.bl _,H,I,rfl,?_⟩;rw [show its.toArray.any (eqU x)=its.any (eqU x) by simp,Qkm r fs];exact q
theorem Qh9:Qeq X (.type "list") (fun xs H Q=>∃p ys,xs = [.ref p]∧(SqL X.K H p ys∨SqT X.K H p ys)∧∀l,H l=none→Q (.ref l) (upd H l (.lst ys))):=by
 intro pins s σ H xs us Q I r h;obtain ⟨p,ys,rfl,hq,q⟩:=h;obtain ⟨u,rfl,rx⟩:=vals1 r;cases rx;have fin:∀(its:List Value),Qay ys its→ys.length≤sizeLine→∀(h':Heap) (c':Nat),(∀b o',s.heap.get? b=some o'→h'.get? b=some o') →
   h'.get? s.heap.objs.size=some { cls:=.type "list",dict:=none,data:=.seq its.toArray c',slots:=#[] }→EP X pins σ Q (.ref s.heap.objs.size) { s with heap:=h' }:=fun its r' hz h' c' kp e =>
  ⟨.ref s.heap.objs.size,_,I.laid (t':=s.toks) kp (ze _) (show Qbc X.prog X.w _ h' _ (.lst ys) from ⟨hz,its,c',r',e⟩),rfl,q _ (I.hok.fresh (ze _))⟩
 rcases hq with hq | hq
 ·obtain ⟨its,r',pl,hz⟩:=I.list hq;have hlen:=r'.length;obtain ⟨o,ho,hc,n,hd⟩:=pl.isList;exact call_list_seq p (.inl rfl) ho hc hd (fun h' c' kp e=>fin its r' hz h' c' kp e) (by simp only [zp] <;> omega)
 ·obtain ⟨its,r',pl,hz⟩:=I.tuple hq;have hlen:=r'.length;obtain ⟨o,ho,hc,n,hd⟩:=pl;exact call_list_seq p (.inr rfl) ho hc hd (fun h' c' kp e=>fin its r' hz h' c' kp e) (by simp only [zp] <;> omega)
def tyV (K:PySem.W.Frag) (T:String) (x:V) (H:Hp):Prop:=match x with
 | .str _=>T = "str"
 | .int _=>T = "int"
 | .ref p=>(T = "list"∧∃xs,SqL K H p xs)∨(T = "tuple"∧∃o,K.lookup p=some o∧o.cls = .type "tuple"∧o.dict=none) ∨
   (T = "dict"∧((∃kvs,H p=some (.dK kvs))∨∃kvs,H p=some (.dT kvs)))∨(T = "set"∧∃S n,H p=some (.set S n))
 | _=>False
theorem Qwr {pins:List (Addr×Obj)}{σ:St}{H:Hp}{s:Shared}{T:String}{x:V}{v:Value} (I:Inv X pins σ H s) (r:RelV x v) (ty:tyV X.K T x H) :
  s.TypeIs v T∧∀a,v = .ref a→∃ob,s.heap.get? a=some ob∧ob.dict=none:=by
 cases x with
 | str z =>
  obtain ⟨t,rfl⟩:=r;cases (show T = "str" from ty);exact ⟨typeIs_str s z t,fun _ e=>nomatch e⟩
 | int i =>
  obtain ⟨t,rfl⟩:=r;cases (show T = "int" from ty);exact ⟨typeIs_int s i t,fun _ e=>nomatch e⟩
 | ref p =>
  cases r
  rcases ty with ⟨rfl,xs,hq⟩ | ⟨rfl,o,hk,hc,hd⟩ | ⟨rfl,hk⟩ | ⟨rfl,S,n,hk⟩
  ·obtain ⟨its,_,pl,_⟩:=I.list hq;refine ⟨pl.isList.typeIs,fun a e=>?_⟩;cases e;obtain ⟨o,n,e,c,hd,_⟩:=pl;exact ⟨o,e,hd⟩
  ·refine ⟨⟨o,I.kIn p o hk,hc⟩,fun a e=>?_⟩;cases e;exact ⟨o,I.kIn _ o hk,hd⟩
  ·have z:∃o,s.heap.get? p=some o∧o.ExactDict:=by
    rcases hk with ⟨kvs,hk⟩ | ⟨kvs,hk⟩
    ·obtain ⟨_,_,_,_,o,_,_,e,ex,_⟩:=I.hok p _ hk;exact ⟨o,e,ex⟩
    ·obtain ⟨_,_,_,_,o,_,_,e,ex,_⟩:=I.hok p _ hk;exact ⟨o,e,ex⟩
   obtain ⟨o,e,ex⟩:=z;refine ⟨⟨o,e,ex.1⟩,fun a e2=>?_⟩;cases e2;exact ⟨o,e,ex.2.1⟩
  ·obtain ⟨o,_,_,_,e,ex,_⟩:=I.hok p _ hk;refine ⟨⟨o,e,ex.1⟩,fun a e2=>?_⟩;cases e2;exact ⟨o,e,ex.2.1⟩
 | _=>exact False.elim ty
def tBM (K:PySem.W.Frag) (T:String) (r:V→List V→Hp→VK→Prop) (to:TE) (t:TA):TE:=fun σ H Q=>to σ H fun x H1=>tyV K T x H1∧t σ H1 fun xs H2=>r x xs H2 Q
variable {o e:Expr}{es:List Expr}{to:TE}{t:TA}{name:Str}{apos cpos:Pos}{T id:String}{r:V→List V→Hp→VK→Prop}
theorem QsU (pa:PlainAttrs T) (slot:Slot T name id) (hty:typeOf (.builtin id)=pure (.type "method_descriptor")) (hm:MtR X id r) (ho:PE X o to) (ha:PA X (e::es) t)
  (hbase:attributeBase o name X.env (eval o X.env)=eval o X.env:=by rfl)
  (hfew:((backTo cpos (starEach (e::es) X.env)).all (fun x=>!x.1)&&(backToKw cpos (keywordEach [] X.env)).all (fun x=>x.1.isSome)
   && decide ((e::es).length+([]:List Keyword).length+(if ([]:List Keyword).isEmpty then 0 else 1) < 30))=true:=by rfl)
  (hline:(apos.endLine == cpos.line)=true:=by rfl) (hs:starEach (e::es) X.env=(false,eval e X.env)::starEach es X.env:=by rfl) (hplain:(backTo cpos (starEach es X.env)).any (·.1)=false:=by rfl) :
  PE X (.Call (.Attribute o name apos) (e::es) [] cpos) (tBM X.K T r to t):=by
 intro pins s σ H Q I h;refine wpAny_Call_method_late hbase hfew hline rfl (thn (ho pins s σ H _ I h) fun v s1 ⟨x,H1,I1,r1,ty,q1⟩=>?_);obtain ⟨h1,h2⟩:=Qwr I1 r1 ty;refine ⟨T,id,pa,slot,hty,h1,h2,?_⟩;have hA:=ha cpos pins s1 σ H1 _ I1 q1;rw [hs] at hA ⊢;refine Calls.callWith_builtin (by show (false || (backTo cpos (starEach es X.env)).any (·.1))=false; rw [hplain] <;> rfl) (Calls.evalArgs_plain ?_)
 exact thn hA fun us s2 ⟨vs,H2,I2,r2,q2⟩=>hm pins s2 σ H2 x vs v us Q I2 r1 r2 q2
/- xs.append(e),list.index on a module's tuple .. are MtR facts of 06m -/
end
def MtM (X:Cx) (id:String) (r:V→List V→Hp→VK→Prop):Prop :=
 ∀(pins:List (Addr×Obj)) (s:Shared) (σ:St) (H:Hp) (x:V) (xs:List V) (v:Value) (us:List Value) (Q:VK),Inv X pins σ H s→RelV x v→Qay xs us→r x xs H Q →
  wpAny (model X.prog X.w) X.A (call (.builtin id) (v::us)) (EP X pins σ Q) X.xe s
theorem Qay.one:∀{x:V}{us:List Value},Qay [x] us→∃u,us = [u]∧RelV x u
 | _,_,.cons r .nil=>⟨_,rfl,r⟩
theorem Qay.two:∀{x y:V}{us:List Value},Qay [x,y] us→∃u v,us = [u,v]∧RelV x u∧RelV y v
 | _,_,_,.cons r (.cons q .nil)=>⟨_,_,rfl,r,q⟩
theorem Qay.zero:∀{us:List Value},Qay [] us→us = []
 | _,.nil=>rfl
theorem Qay.dropLast {xs:List V}{us:List Value} (h:Qay xs us):Qay xs.dropLast us.dropLast:=by
 induction h with
 | nil=>exact .nil
 | cons r t ih =>
  cases t with
  | nil=>exact .nil
  | cons q t'=>exact .cons r ih
theorem Qay.reverse {xs:List V}{us:List Value} (h:Qay xs us):Qay xs.reverse us.reverse:=by
 induction h with
 | nil=>exact .nil
 | cons r t ih=>rw [List.reverse_cons,List.reverse_cons]; exact Qay.append ih (.cons r .nil)
theorem Qay.rep {xs:List V}{us:List Value} (h:Qay xs us):∀k:Nat,Qay (List.replicate k xs).flatten (List.replicate k us).flatten
 | 0=>.nil
 | k+1=>by
  rw [List.replicate_succ,List.replicate_succ,List.flatten_cons,List.flatten_cons];exact Qay.append h (Qay.rep h k)
theorem foldl_rep (its:List Value):∀(k:Nat) (acc:List Value),
  List.foldl (fun x1 x2=>x1++x2) acc.toArray (List.replicate k its.toArray)=(acc++(List.replicate k its).flatten).toArray
 | 0,acc=>by simp
 | k+1,acc=>by
  have e:acc.toArray++its.toArray=(acc++its).toArray:=by simp
  have e2:(acc++its)++(List.replicate k its).flatten=acc++(List.replicate (k+1) its).flatten:=by
   rw [List.replicate_succ,List.flatten_cons,jk]
  rw [←e2,←foldl_rep its k (acc++its),←e,List.replicate_succ,List.foldl_cons]
section
variable {X:Cx}{pins:List (Addr×Obj)}{σ:St}{H:Hp}{s:Shared}{l b:Addr}{xs ys zs:List V}
theorem Inv.lset {its its':List Value}{n:Nat}{f:Array Value→Array Value}{t':Nat} (I:Inv X pins σ H s) (hH:H l=some (.lst xs))
  (e:s.heap.get? l=some { cls:=.type "list",data:=.seq its.toArray n }) (hf:f its.toArray=its'.toArray) (hv:Qay ys its') (hz:ys.length≤sizeLine) :
  Inv X pins σ (upd H l (.lst ys)) { s with heap:=s.heap.update l (Obj.mapSeq f),toks:=t' }:=by
 have q:=PySem.IsL.update e f;rw [hf] at q;refine I.write (x:=l) (e:=l) (by rw [hH]; exact trivial) (.inl rfl) (fun b' u hb hu=>(jl s.heap (Obj.mapSeq f) (Ne.symm hb)).trans hu) ⟨_,q⟩ ?_;exact ⟨hz,its',_,hv,q⟩
theorem Inv.lnew {its:List Value}{t':Nat} (I:Inv X pins σ H s) (hv:Qay ys its) (hz:ys.length≤sizeLine) :
  Inv X pins σ (upd H s.heap.objs.size (.lst ys)) { s with heap:=s.heap.push { cls:=.type "list",data:=.seq its.toArray },toks:=t' } :=
 I.laid (fun _ _ q=>zn _ q) (ze _) ⟨hz,its,0,hv,zw _ rfl⟩
theorem Inv.fresh (I:Inv X pins σ H s):H s.heap.objs.size=none:=I.hok.fresh (ze _)
theorem Inv.lstM (I:Inv X pins σ H s) (hH:H l=some (.lst xs)):xs.length≤sizeLine∧∃(its:List Value) (n:Nat),Qay xs its∧xs.length=its.length∧s.heap.get? l=some { cls:=.type "list",data:=.seq its.toArray n }:=by
 obtain ⟨z,its,n,r,e⟩:=I.hok l _ hH;exact ⟨z,its,n,r,r.length,e⟩
theorem Qjb {n:Nat} (h:n≤sizeLine):Builtin.List.listTooLong n=false:=by
 unfold Builtin.List.listTooLong;exact zj (by omega)
end
section
variable {X:Cx}
def Qtw:V→List V→Hp→VK→Prop:=fun x vs H Q=>∃l xs y,x = .ref l∧vs = [y]∧H l=some (.lst xs)∧xs.length < sizeLine∧Q .non (upd H l (.lst (xs ++ [y])))
theorem QpI:MtM X "list.append" Qtw:=by
 intro pins s σ H x vs v us Q I rx rv h;obtain ⟨l,xs,y,rfl,rfl,hH,hz,q⟩:=h;cases rx;obtain ⟨u,rfl,ru⟩:=rv.one;obtain ⟨z,its,n,r,hl,e⟩:=I.lstM hH;refine call_meets F.slot_list_append ⟨_,e,rfl⟩ F.entry_list_append (F.args_list_append_2 _ _) (PySem.list_append l its.toArray n u (by rw [zp]; omega)) ⟨e,?_⟩;refine ⟨.non,_,I.lset (its':=its ++ [u]) hH e (by simp) (r.append (.cons ru .nil)) ?_,rfl,q⟩;rw [zA,zX];omega
theorem len_rep {α:Type} (xs:List α) (k:Nat):(List.replicate k xs).flatten.length=k * xs.length:=by
 induction k with
 | zero=>simp
 | succ k ih=>rw [List.replicate_succ,List.flatten_cons,zA,ih,Nat.succ_mul,Nat.add_comm]
end
section
variable {prog:Program}{w:World}{A:Around}{E:Value→Shared→Prop}{s:Shared}
theorem Qoj {a c n:Nat} (hac:a≤c) (hc:c≤n):sliceBounds (some (a:Int)) (some (c:Int)) none n=((a:Int),(c:Int),1):=by
 simp only [sliceBounds,Option.getD_none]
 have h1:¬((a:Int) < 0):=by omega
 have h2:¬((c:Int) < 0):=by omega
 simp only [h1,h2,if_false,show (1:Int) > 0 by decide,if_true];congr 1
 ·omega
 ·congr 1; omega
set_option maxRecDepth 100000 in
theorem QuO {l b sl:Addr}{items new:Array Value}{n n2:Nat}{vl vu:Value}{a c:Nat}{Q:Unit→Shared→Prop}
  (e:s.heap.get? l=some { cls:=.type "list",data:=.seq items n }) (e2:s.heap.get? b=some { cls:=.type "list",data:=.seq new n2 }) (hne:l≠b)
  (hs:s.heap.IsSliceOf sl vl vu .none) (pl:IsPart vl (some (a:Int))) (pu:IsPart vu (some (c:Int))) (hac:a≤c) (hc:c≤items.size)
  (hsz:items.size+new.size≤sizeLine) (h:Q () { s with heap:=s.heap.update l (Obj.mapSeq fun xs=>xs.extract 0 a++new++xs.extract c xs.size) }) :
  wpAny (model prog w) A (setItem (.ref l) (.ref sl) (.ref b)) Q E s:=by
 have hl:s.heap.IsList l items:=PySem.IsL.isList e;have hb:s.heap.IsList b new:=PySem.IsL.isList e2;obtain ⟨os,hos,hcs,hds⟩:=id hs;have hTs:s.TypeIs (.ref sl) "slice":=⟨os,hos,hcs⟩;have hstep:¬((rawPart none == rawInt 0)=true):=zg
 have hsame:Builtin.List.listSameRef (.ref l) (.ref b)=false:=by
  unfold Builtin.List.listSameRef;exact beq_eq_false_iff_ne.mpr hne
 have hmax:(max (a:Int) (c:Int)).toNat=c:=by omega
 have hz':((fun xs:Array Value=>xs.extract 0 a++new++xs.extract c xs.size) items).size≤sizeLine+1:=by
  simp only [Array.size_append,Array.size_extract];omega
 unfold setItem
 try with_reducible refine zH ?_
 first | refine za (zb ?_) | skip
 refine za (wpAny_sequenceKey hl.typeIs (by decide) ?_)
 refine za (wpAny_callSpecial?_slot (name:=Str.ofString "__setitem__") hl.typeIs slot_list_setitem
  (wpAny_call_entry slot_list_setitem hl.typeIs entry_list_setitem ?_ (args_list_setitem _ _ _)))
 show wpAny _ _ (Builtin.List.listSubscript? (.ref sl) >>= _) _ _ s;refine za ?_;unfold Builtin.List.listSubscript?;refine za (wpAny_specialOf hTs slice_no_index ?_);simp only [Option.isNone_none,if_true];refine zb ?_;show wpAny _ _ (typeOf (.ref sl) >>= _) _ _ s;refine za (wpAny_typeOf hTs ?_)
 first
  | rw [if_neg (by decide)]
  | refine PySem.W.KFB.if_not (by decide) ?_
 rw [listSliceParts_eq];refine za (za (wpAny_field hos hds (x:=.none) rfl (za (wpAny_listPart .none ?_))));rw [if_neg hstep];refine za (wpAny_field hos hds (x:=vl) rfl (za (wpAny_listPart pl ?_)));refine za (wpAny_field hos hds (x:=vu) rfl (za (wpAny_listPart pu (zb ?_))))
 first
  | simp only [hsame,Bool.false_eq_true,if_false]
  | refine PySem.W.KFB.if_not hsame ?_
  | (dsimp only
     rw [if_neg (by rw [hsame]; exact zg)])
 refine za (m:=Builtin.List.listAllItems (.ref b) "must assign iterable to extended slice") ?_;unfold Builtin.List.listAllItems;refine za (wpAny_typeOf hb.typeIs ?_)
 first
  | refine PySem.W.KFB.if_so (by decide) ?_
  | rw [if_pos (by decide)]
  | simp only [beq_self_eq_true,Bool.true_or,if_true]
 unfold Builtin.List.listItems;refine za (wpAny_seqItems e2 rfl (zb ?_));refine za (za (wpAny_seqItems e rfl (zb ?_)));refine za (jm ((sliceIndices_raw (some (a:Int)) (some (c:Int)) none items.size (by simp)).trans (congrArg (pure:Int×Int×Int→Sem (Int×Int×Int)) (Qoj hac hc))) ?_);show wpAny _ _ (if ((1:Int) == 1)=true then _ else _) _ _ s;rw [if_pos (by decide)];refine za (zY ?_)
 first
  | simp only [Qjb hsz,Bool.false_eq_true,if_false]
  | refine PySem.W.KFB.if_not (Qjb hsz) ?_
 first | refine za (zb ?_) | skip
 show wpAny _ _ (updateSeq l (fun xs=>xs.extract 0 ((a:Int)).toNat++new++xs.extract (max (a:Int) (c:Int)).toNat xs.size) >>= _) _ _ s;rw [hmax,Int.toNat_natCast];refine za (je (hz:=zC (jt _ _) hsz) (_hz':=hz') e rfl ?_);refine za (jo ?_)
 first
  | exact za (zb (zb ⟨.none,rfl,zb h⟩))
  | exact zb ⟨.none,rfl,zb h⟩
end
section
variable {X:Cx}
end
end L2
namespace Att
open PySem PySem.W PySem.Calls PyProof.Rows
theorem Qke {P:Params}{h:Heap}:∀(ns:List Int) (vs:List Value),WellAll P h vs (ns.map WData.int)→IntsAre vs ns:=by
 intro ns
 induction ns with
 | nil =>
  intro vs w;rw [zQ] at w;cases w;exact .nil
 | cons n ns ih =>
  intro vs w;rw [zc] at w
  cases w with
  | cons a b =>
   cases a;exact .cons _ _ (ih _ b)
theorem Qpk {l:OpenLaw}{n:Nat} (hn:l.most=some n) {P:Params}{h:Heap}{args:List WData}{vals:List Value}
  (hpre:l.row.toRowW.claim.pre args=true) (hwl:WellAll P h vals args) :
  ∃a vs ns,vals = [Value.ref a]∧args = [WData.list (ns.map WData.int)]∧h.get? a=some { cls:=.type "list",data:=.seq vs.toArray }∧IntsAre vs ns∧ns.length≤n:=by
 have hsh:WShape.hasAll [] args [.list .int]=true:=(pre_splitW hpre).1;have hc:l.pre.holds [] { args:=args }=true:=(pre_splitW hpre).2;obtain ⟨d,r,rfl,h1,h2⟩:=hasAllW_cons hsh;obtain rfl:=hasAllW_nil h2;obtain ⟨xs,rfl,h3⟩:=hasW_list h1;obtain ⟨ns,rfl⟩:=items_int h3
 have hlen:ns.length≤n:=by
  unfold OpenLaw.pre at hc
  have h4:(WTm.not (.lt (.lit (.int (n:Int))) (.len (.arg 0)))).holds [] { args:=[.list (ns.map .int)] }=true:=by
   have h4:=(holds_andW hc).1;rw [hn] at h4;exact h4
  have h5:=condW_of h4 (w_not (w_lt w_lit (w_len_list (w_arg rfl))));rw [zh] at h5
  refine Nat.le_of_not_lt fun q=>?_
  have q':(n:Int) < ((ns.length:Nat):Int):=by omega
  first
   | (rw [zo q'] at h5; exact absurd h5 (by decide))
   | (simp at h5; omega)
 cases hwl with
 | cons w1 w2 =>
  cases w2
  cases w1 with
  | list ho hall=>exact ⟨_,_,ns,rfl,rfl,ho,Qke ns _ hall,hlen⟩
theorem Qq4 (l:OpenLaw) (args:List WData):l.row.toRowW.claim.post args (.bool true) args=true :=
 postW_of (r:=l.row.toRowW) (X:=(true == true))
  (show WShape.has [] (.bool true) .bool=true by first | rfl | decide | simp [WShape.has,WShape.arms,WShape.armsAll])
  (show (WTm.eq .res (.lit (.bool true))).value [] { args:=args,res:=some (.bool true),after:=args }=some (.bool (true == true)) from w_eq_bool (w_res rfl) w_lit) rfl
theorem attach_call {l:OpenLaw}{n:Nat}{q:Program}{loose:List Str}{XP:(Str→Option Value)→Heap→Prop}{YP:World→Heap→Prop}{d:DefRec}
  (hn:l.most=some n) (hdf:d.params.defaults = [])
  (call:∀(w:World) (s₀ s₁:Shared) (mg mb:Str→Option Value) (fa:Addr) (o:Obj) (pm cd doc:Value) (a:Addr) (vs:List Value) (ns:List Int),
   Ground q loose [] XP w s₀ mg mb s₁.heap→YP w s₁.heap →
   s₁.heap.get? fa=some o→o.data = .func (docDef d.name d.params d.body d.scope pm cd doc)→s₁.heap.CodeRec cd d.name→mg d.name=some (.ref fa) →
   s₁.heap.get? a=some { cls:=.type "list",data:=.seq vs.toArray }→IntsAre vs ns→ns.length≤n→s₁.gens = #[] →
   codeAny (model l.prog w) callerA (.call (.ref fa) ⟨[.ref a],[]⟩) (fun r s'=>r = .ok (.ret (.bool true))∧OldK s₁.heap s'.heap∧s'.os=s₁.os∧AllBare s'.gens) s₁) :
  WalkO q loose XP YP l.row.toRowW d [] (fun f vs=>PySem.call f vs):=by
 intro w s₀ s₁ mg mb G Y fa o pm cd doc dV kV ho hd hcd hD hmg hg args vals as hpre hlay hrd hwl hlo;obtain rfl:dV = .none:=Dflts.none hD hdf;obtain rfl:kV = .none:=Dflts.noKw hD;obtain ⟨a,vs,ns,rfl,rfl,hobj,hints,hlen⟩:=Qpk hn hpre hwl;refine enter_call (codeAny_mono (call w s₀ s₁ mg mb fa o pm cd doc a vs ns G Y ho (fd_plain hd) hcd hmg hobj hints hlen hg) fun r s' hq=>?_);obtain ⟨rfl,h2,h3,h4⟩:=hq;exact ⟨.inl ⟨.bool true,.bool true,[],rfl,fun _=>rfl,.bool true,Qq4 l _,fun _=>⟨List.Pairwise.nil,fun _ hm=>(nomatch hm)⟩⟩,h2,h3,h4⟩
section
variable {prog:Program}{w:World}{A:Around}{E:Value→Shared→Prop}{s:Shared}{K:Frag}
end
end Att
namespace L2
open PySem PySem.Spec PyProof.Rows
theorem Qid:∀{vs:List Value}{ns:List Int},IntsAre vs ns→Qay (ns.map V.int) vs
 | _,_,.nil=>.nil
 | _,_,.cons n t h=>.cons ⟨t,rfl⟩ (Qid h)
def Qje (H:Hp):Prop:=∀b,H b=none∨∃o xs,H b=some (.frz o (.lst xs))
theorem Qsa {P:Program}{w:World}{K:PySem.W.Frag}{mg mb:Str→Option Value}{CX:CXT}{k:Nat}{fa a:Addr}{fd:FuncData}{x:Str}{sp:Sp}{s₁:Shared}{vs:List Value}{ns:List Int}
  (KX:K.In s₁.heap) (hns:s₁.heap.Ns mainGlobals mg) (hb:s₁.heap.Ns builtinsNs mb) (hbb:∀x:Str,x≠"__name__"→mb x=bootBuiltins x) (hlim:s₁.heap.NoLimit) (hg:s₁.gens = #[])
  (ha:s₁.heap.get? a=some { cls:=.type "list",data:=.seq vs.toArray }) (hi:IntsAre vs ns) (hl:ns.length≤sizeLine) (hr:QaS k callerA)
  (F:∀base:Heap,K.In base→base.Ns mainGlobals mg→Qb7 P w K mg base CX k fa fd [x] sp) (hbind:∀(s:Shared) (u:Value),BindsTo s fd ⟨[u],[]⟩ [(x,u)])
  (hsp:∀H:Hp,Qje H→SqL K H a (ns.map V.int)→sp [.ref a] H (fun v _=>v = .bl true) fun _ _ _=>False)
  (hCX:∀H e s',CX [] H s₁ (fun _ _ _=>False) e s'→False) :
  codeAny (model P w) callerA (.call (.ref fa) ⟨[.ref a],[]⟩) (fun r s'=>r = .ok (.ret (.bool true))∧OldK s₁.heap s'.heap∧s'.os=s₁.os∧AllBare s'.gens) s₁:=by
 have rv:=Qid hi;have lenV:=hi.length;have core:∀H:Hp,Qje H→SqL K H a (ns.map V.int)→HOk P w H s₁.heap→(∀b,H b≠none→b=a)→(H a≠none→K.lookup a=none) →
   codeAny (model P w) callerA (.call (.ref fa) ⟨[.ref a],[]⟩) (fun r s'=>r = .ok (.ret (.bool true))∧OldK s₁.heap s'.heap∧s'.os=s₁.os∧AllBare s'.gens) s₁:=by
  intro H hO hS hok hA hK
  have base_of:∀{b:Addr}{o:Obj},s₁.heap.get? b=some o→H b=none→(Qec s₁.heap H).get? b=some o:=fun e n=>QlC e n
  have noA:∀{b:Addr}{o:Obj}{es:Array DictEntry}{ep:Nat},s₁.heap.get? b=some o→o.data = .dict es ep→H b=none:=fun {b o es ep} e d=>by
   cases q:H b with
   | none=>rfl
   | some u =>
    have e':b=a:=hA b (by rw [q]; simp);subst e';rw [ha] at e; cases e;have d':Data.seq vs.toArray _=Data.dict es ep:=d;cases d'
  have nsK:∀{b:Addr}{m:Str→Option Value},s₁.heap.Ns b m→(Qec s₁.heap H).Ns b m:=fun {b m} ⟨o,es,ep,e,d,r⟩=>⟨o,es,ep,base_of e (noA e d),d,r⟩
  have hKb:K.In (Qec s₁.heap H):=fun b o e=>base_of (KX b o e) (by
   cases q:H b with
   | none=>rfl
   | some u =>
    have e':b=a:=hA b (by rw [q]; simp);subst e'
    rw [hK (by rw [q]; simp)] at e; cases e)
  have hM:Mod K mg (Qec s₁.heap H):=⟨hKb,nsK hns,⟨mb,nsK hb,hbb⟩,let ⟨mc,h1,h2⟩:=hlim; ⟨mc,nsK h1,h2⟩⟩;have e0:Qf9 P w K mg (Qec s₁.heap H) callerA [] s₁ H:=⟨rfl,hM,fun b o e=>Qn1 e,Nat.le_of_eq (Qlb _ _),trivial,fun b hb=>absurd (show b∈([]:List Addr) from hb) (by simp),hok,.of_eq hg⟩
  refine codeAny_mono ((F _ hKb (nsK hns)).run callerA [] s₁ H ⟨[.ref a],[]⟩ [.ref a] [.ref a] _ _ hr e0 (hbind s₁ (.ref a)) (.cons rfl .nil) (hsp H hO hS)) fun r s' h=>?_
  cases r with
  | error e=>exact (hCX H e s' h).elim
  | ok fl =>
   cases fl with
   | next=>exact False.elim h
   | brk=>exact False.elim h
   | cont=>exact False.elim h
   | ret u =>
    obtain ⟨v,H',os,bare,un,hok',r',q⟩:=h;have q':v = .bl true:=q;subst q';obtain rfl:u=Value.bool true:=r';refine ⟨rfl,OldK.of_keep fun b o e=>?_,os,bare⟩
    cases q:H b with
    | none=>exact un.keep b o e q (by intro z; exact absurd (show b∈([]:List Addr) from z) (by simp)) (by simp)
    | some u =>
     rcases hO b with z | ⟨ob,xs,z⟩
     ·rw [q] at z; cases z
     ·have z2:=un.frzs b ob _ z;obtain ⟨e1,_⟩:=hok b _ z;obtain ⟨e2,_⟩:=hok' b _ z2;rw [e] at e1; cases e1;exact e2
 cases hk:K.lookup a with
 | some o =>
  have e:=KX a o hk;rw [ha] at e;cases e
  refine core (fun _=>none) (fun _=>.inl rfl) (.inr ⟨_,vs.toArray,_,hk,rfl,rfl,rfl,by rw [zp,lenV]; exact hl,by simpa using rv⟩) (fun b u z=>by have z':(none:Option HO)=some u:=z; cases z') (fun b z=>absurd rfl z) fun z=>absurd rfl z
 | none =>
  refine core (fun b=>if b=a then some (.frz { cls:=.type "list",data:=.seq vs.toArray } (.lst (ns.map V.int))) else none) (fun b=>?_) (.inl (.inr ⟨{ cls:=.type "list",data:=.seq vs.toArray },if_pos rfl⟩)) (fun b u z=>?_) (fun b z=>?_) fun _=>hk
  ·by_cases hb:b=a
   ·exact .inr ⟨_,_,if_pos hb⟩
   ·exact .inl (if_neg hb)
  ·by_cases hb:b=a
   ·have z':=(if_pos hb).symm.trans z;cases z';subst hb;exact ⟨ha,by rw [zh]; exact hl,vs,_,rv,ha⟩
   ·have z':=(if_neg hb).symm.trans z;cases z'
  ·by_cases hb:b=a
   ·exact hb
   ·exact absurd (if_neg hb) z
abbrev KOf {K:PySem.W.Frag}{h:Heap} (_:K.In h):PySem.W.Frag:=K
theorem walk_of {l:PySem.W.OpenLaw}{n k:Nat}{q:Program}{loose:List Str}{XP:(Str→Option Value)→Heap→Prop}{YP:World→Heap→Prop}{d:DefRec}{K:Params→PySem.W.Frag}{CX:World→CXT}{sp:World→Sp}{x:Str}
  (hn:l.most=some n) (hn2:n≤sizeLine) (hdf:d.params.defaults = []) (hr:QaS k callerA)
  (hY:∀(w:World) (h:Heap),YP w h→(K w.params).In h)
  (F:∀(w:World) (mg:Str→Option Value) (fa:Addr) (h:Heap),(K w.params).In h→h.Ns mainGlobals mg→mg d.name=some (.ref fa) →
   ∃fd:FuncData,(∀(s:Shared) (u:Value),BindsTo s fd ⟨[u],[]⟩ [(x,u)]) ∧
    ∀base:Heap,(K w.params).In base→base.Ns mainGlobals mg→Qb7 l.prog w (K w.params) mg base (CX w) k fa fd [x] (sp w))
  (hsp:∀(w:World) (H:Hp) (a:Addr) (ns:List Int),ns.length≤n→Qje H→SqL (K w.params) H a (ns.map V.int)→sp w [.ref a] H (fun v _=>v = .bl true) fun _ _ _=>False)
  (hCX:∀(w:World) (H:Hp) (s:Shared) (e:Value) (s':Shared),CX w [] H s (fun _ _ _=>False) e s'→False) :
  PySem.W.WalkO q loose XP YP l.row.toRowW d [] (fun f vs=>PySem.call f vs):=by
 refine Att.attach_call hn hdf fun w s₀ s₁ mg mb fa o pm cd doc a vs ns G Y ho hd hcd hmg hobj hints hlen hg=>?_
 have KX:=hY w _ Y;obtain ⟨fd,hb,hF⟩:=F w mg fa _ KX G.T.g hmg
 exact Qsa KX G.T.g G.T.b G.T.builtins G.T.nolimit hg hobj hints (zC hlen hn2) hr hF hb (fun H hO hS=>hsp w H a ns hlen hO hS) fun H e s'=>hCX w H s₁ e s'
end L2
/- THE LAST THEOREM (shape; LID,My.* are yours):
   My.Adr: a structure of the addresses that your layer names (classes,functions); My.Txt K t: a structure (Prop) of the equations over K;
   My.txt_mk:{K}{implicit addresses ..} (e1:nsIn K mainGlobals "law" = some (some (.ref f))) (e2:K.lookup f=some ⟨oc,od,.func (fnOf "law" "law" params body scope dV kV doc pm an cdv ct),sl⟩) (e3:codeIn K cdv "law" = true) ..:∃t,My.Txt K t
set_option maxRecDepth 100000 in
set_option maxHeartbeats 0 in
theorem PySem.Challenge.cw_LID_holds : PySem.Challenge.rw_LID.Holds := by
 w_on; o_law; k_head; (case hw=>w_witness2)
 k_fill
 refine L2.walk_of (l:=PySem.Challenge.rw_LID) (n:=63) (k:=40) (x:="script") (CX:=fun w=>..) (sp:=fun _=>My.sp_law) rfl (by decide) rfl ⟨rfl,by decide,by decide⟩ (fun w h Y=>PySem.W.kIn_of Y) ?F ?S ?C
 case F =>
  intro w mg fa h KX G hmg
  have T:∃t,My.Txt (L2.KOf KX) t:=by
   dsimp only [L2.KOf]                          -- K must stand as «<heap const> w.params» for k_is
   refine' My.txt_mk ?e1 ?e2 ?e3 ..
   (case e1=>PySem.W.k_is)                    -- in the order: a name -> its address -> its object -> its parts
   (case e2=>PySem.W.k_is)
   ..
  obtain ⟨t,T⟩:=T;have e0:=hmg.symm.trans (PySem.W.mg_of KX G T.law);cases e0                                       -- fa is the law's own address
  exact ⟨_,fun s u=>.of_eq rfl,fun base kb nb=>My.law_fn T kb nb⟩     -- if «.of_eq rfl» comes too early: refine' ⟨_,?b,fun base kb nb=>My.law_fn T kb nb⟩; exact fun s u=>.of_eq rfl
 case S=>exact fun w H a ns hl hO hS=>..
 case C=>exact ..
(the tactic k_is has no namespace: write k_is) -/
namespace L2
open PySem PySem.Spec PyProof.Rows
def inClass (s:Stmt) (j:Nat):Stmt:=match s with
 | .ClassDef _ _ _ body _ _ _ _ _ _ _=>body.getD j (.Pass ⟨0,0,0,0⟩)
 | _=>.Pass ⟨0,0,0,0⟩
def Qce (s:Stmt):Arguments:=match s with
 | .FunctionDef _ a _ _ _ _ _ _ _ _=>a
 | _=>{ posonlyargs:=[],args:=[],vararg:=none,kwonlyargs:=[],kw_defaults:=[],kwarg:=none,defaults:=[] }
def Qbs (s:Stmt):List Stmt:=match s with
 | .FunctionDef _ _ b _ _ _ _ _ _ _=>b
 | _=>[]
def Qao (s:Stmt):Scope:=match s with
 | .FunctionDef _ _ _ _ _ _ sc _ _ _=>sc
 | _=>{ kind:=.function,names:=[],isGenerator:=false,isCoroutine:=false }
abbrev CX0:CXT:=fun _ _ _ _ _ _=>False
abbrev E0:XK:=fun _ _ _=>False
theorem Qlu {X:Cx}:QfU CX0 X E0:=fun _ _ _ _ _ _ _ h=>h.elim
structure Fun (K:PySem.W.Frag) (x qual:Str) (st:Stmt) (f:Addr) (fd:FuncData):Prop where
 ex:∃(oc:Value) (od:Option Addr) (kV doc pm:Value) (an:Option Addr) (cdv ct:Value) (osl:Array (Option Value)),
  fd=PySem.W.fnOf x qual (Qce st) (Qbs st) (Qao st) .none kV doc pm an cdv ct∧K.lookup f=some ⟨oc,od,.func fd,osl⟩∧PySem.W.codeIn K cdv qual=true
 kp:PySem.W.keepIn K (.ref f)=true
section
variable {P:Program}{w:World}{K:PySem.W.Frag}{mg:Str→Option Value}{base:Heap}
theorem Fun.ok {x qual:Str}{st:Stmt}{f:Addr}{fd:FuncData}{N ps:List Str}{k:Nat}{sp:Sp} (F:Fun K x qual st f fd) (S:QaF N ps (Qao st)) (len:∀vs H Q E,sp vs H Q E→vs.length=ps.length)
  (hbody:∀(cdv:Value) (A:Around) (outer:List Env) (s:Shared) (H:Hp) (vs:List V) (Q:VK) (E:XK),QaS k (A.deeper (envOfC qual (Qao st) s.heap.objs.size f cdv))→sp vs H Q E →
   ∃t,PSs (Qeo CX0 P w K mg base N qual (Qao st) f cdv A outer s H E).nox (Qbs st) t∧t { nx:=fun _ H'=>Q .non H',rt:=Q } (start N vs) H):Qb7 P w K mg base CX0 (k+1) f fd ps sp:=by
 obtain ⟨oc,od,kV,doc,pm,an,cdv,ct,osl,rfl,lk,hcd⟩:=F.ex
 refine Qtb lk hcd S len fun A outer s H vs Q E hr hsp=>?_
 obtain ⟨t,h,q⟩:=hbody cdv A outer s H vs Q E hr hsp;exact ⟨t,h.nox,q⟩
theorem Fun.binds {x qual:Str}{st:Stmt}{f:Addr}{fd:FuncData}{ps:List Str} (F:Fun K x qual st f fd)
  (h:∀(kV doc pm:Value) (an:Option Addr) (cdv ct:Value) (us:List Value),us.length=ps.length→bindArgs (PySem.W.fnOf x qual (Qce st) (Qbs st) (Qao st) .none kV doc pm an cdv ct) ⟨us,[]⟩=pure (ps.zip us)):Binds K fd ps []:=by
 obtain ⟨oc,od,kV,doc,pm,an,cdv,ct,osl,rfl,lk,hcd⟩:=F.ex;exact .all (h kV doc pm an cdv ct)
theorem QmY {x qual:Str}{st:Stmt}{f:Addr}{oc:Value}{od an:Option Addr}{osl:Array (Option Value)}{kV doc pm cdv ct:Value} (l:K.lookup f=some ⟨oc,od,.func (PySem.W.fnOf x qual (Qce st) (Qbs st) (Qao st) .none kV doc pm an cdv ct),osl⟩)
  (c:PySem.W.codeIn K cdv qual=true) (k:PySem.W.keepIn K (.ref f)=true):Fun K x qual st f (PySem.W.fnOf x qual (Qce st) (Qbs st) (Qao st) .none kV doc pm an cdv ct):=⟨⟨oc,od,kV,doc,pm,an,cdv,ct,osl,rfl,l,c⟩,k⟩
end
theorem Qoq {A:Around}{k:Nat} (hr:QaS k A):A.units+1 < cLine:=Nat.lt_of_le_of_lt (Nat.add_le_add_left (by decide:1≤64) _) hr.units
section
variable {X:Cx}
theorem pv (i:Nat) {x:Str}{pos:Pos} (hN:X.N[i]? = some x:=by rfl) (hv:Vis X.env.scope x:=by first | exact Or.inl rfl | exact Or.inr (Or.inl rfl) | exact Or.inr (Or.inr rfl)) (hd:(x == ("__debug__":Str))=false:=by decide)
  (hcd:(x == ("__classdict__":Str))=false:=by decide):PE X (.Name x pos) (QwB i):=Qe0 hN hv hd hcd
end
def Same (H H':Hp):Prop:=∀b o,H b=some o→H' b=some o
theorem Same.refl (H:Hp):Same H H:=fun _ _ h=>h
theorem Same.trans {H H1 H2:Hp} (a:Same H H1) (b:Same H1 H2):Same H H2:=fun c o h=>b c o (a c o h)
theorem Same.free {H H':Hp} (e:Same H H') {l:Addr} (h:H' l=Option.none):H l=Option.none:=by
 cases q:H l with
 | none=>rfl
 | some o =>
  rw [e l o q] at h;cases h
theorem Same.seq {K:PySem.W.Frag}{H H':Hp}{a:Addr}{xs:List V} (e:Same H H') (h:SqL K H a xs):SqL K H' a xs:=by
 rcases h with (h | ⟨o,h⟩) | h
 ·exact .inl (.inl (e _ _ h))
 ·exact .inl (.inr ⟨o,e _ _ h⟩)
 ·exact .inr h
section
variable {κ:Type} [DecidableEq κ]
def Qdx (kvs:List (κ×V)) (k:κ):Option V:=(kvs.find? fun kv=>decide (kv.1=k)).map (·.2)
def putK (kvs:List (κ×V)) (k:κ) (v:V):List (κ×V) :=
 if (kvs.any fun kv=>decide (kv.1=k))=true then kvs.map (fun kv=>if kv.1=k then (kv.1,v) else kv) else kvs ++ [(k,v)]
def Qs9 (kvs:List (κ×V)) (k:κ):List (κ×V):=kvs.filter fun kv=>decide (kv.1≠k)
theorem QfI {p:κ×V}{r:List (κ×V)}{k:κ} (e:p.1=k):Qdx (p::r) k=some p.2:=by simp [Qdx,List.find?_cons,e]
theorem QfM {p:κ×V}{r:List (κ×V)}{k:κ} (e:¬p.1=k):Qdx (p::r) k=Qdx r k:=by simp [Qdx,List.find?_cons,e]
theorem QmL (k:κ):∀kvs:List (κ×V),(kvs.any fun kv=>decide (kv.1=k))=(Qdx kvs k).isSome
 | []=>rfl
 | p::r=>by
  rw [List.any_cons]
  by_cases e:p.1=k
  ·simp only [QfI e,zo e,Bool.true_or,Option.isSome_some]
  ·rw [QfM e,zj e,Bool.false_or]; exact QmL k r
theorem QiV (kvs:List (κ×V)) (k:κ) (v:V):(putK kvs k v).length≤kvs.length+1:=by
 unfold putK
 split
 ·rw [zh]; omega
 ·rw [zA,zy,zV]; omega
theorem Qc2.isSome_eq {o:Option V}{u:Option Value} (r:Qc2 o u):o.isSome=u.isSome:=by
 cases o with
 | none=>cases u with
  | none=>rfl
  | some _=>exact (show False from r).elim
 | some _=>cases u with
  | none=>exact (show False from r).elim
  | some _=>rfl
theorem Qc2.getD {o:Option V}{u:Option Value}{d:V}{d':Value} (r:Qc2 o u) (rd:RelV d d'):RelV (o.getD d) (u.getD d'):=by
 cases o with
 | none=>cases u with
  | none=>exact rd
  | some _=>exact (show False from r).elim
 | some _=>cases u with
  | none=>exact (show False from r).elim
  | some _=>exact r
theorem KV.val {kvs:List (κ×V)}{vs:List (κ×Value)} (r:KV kvs vs) (k:κ):Qc2 (Qdx kvs k) (valueAt vs k):=by
 unfold KV at r
 induction r with
 | nil=>exact True.intro
 | @cons p q ps qs h t ih =>
  obtain ⟨h1,h2⟩:=h
  by_cases e:p.1=k
  ·have e':q.1=k:=h1.symm.trans e
   have b:valueAt (q::qs) k=some q.2:=by simp [valueAt,List.find?_cons,e']
   rw [QfI e,b]; exact h2
  ·have e':¬q.1=k:=fun z=>e (h1.trans z)
   have b:valueAt (q::qs) k=valueAt qs k:=by simp [valueAt,List.find?_cons,e']
   rw [QfM e,b]; exact ih
theorem KV.any {kvs:List (κ×V)}{vs:List (κ×Value)} (r:KV kvs vs) (k:κ):(kvs.any fun kv=>decide (kv.1=k))=vs.any fun kv=>decide (kv.1=k):=by
 unfold KV at r
 induction r with
 | nil=>rfl
 | cons h t ih=>rw [List.any_cons,List.any_cons,ih,h.1]
theorem KV.repl {kvs:List (κ×V)}{vs:List (κ×Value)} (r:KV kvs vs) (k:κ) {y:V}{u:Value} (ry:RelV y u) :
  KV (kvs.map fun kv=>if kv.1=k then (kv.1,y) else kv) (vs.map fun kv=>if kv.1=k then (kv.1,u) else kv):=by
 unfold KV at r ⊢
 induction r with
 | nil=>exact .nil
 | @cons p q ps qs h t ih =>
  rw [zc,zc];refine .cons ?_ ih;obtain ⟨h1,h2⟩:=h
  by_cases e:p.1=k
  ·rw [if_pos e,if_pos (h1.symm.trans e)]; exact ⟨h1,ry⟩
  ·rw [if_neg e,if_neg (fun z=>e (h1.trans z))]; exact ⟨h1,h2⟩
theorem KV.put {kvs:List (κ×V)}{vs:List (κ×Value)} (r:KV kvs vs) (k:κ) {y:V}{u:Value} (ry:RelV y u):KV (putK kvs k y) (stored vs k u):=by
 unfold putK stored;rw [r.any k]
 by_cases e:(vs.any fun kv=>decide (kv.1=k))=true
 ·rw [if_pos e,if_pos e]; exact r.repl k ry
 ·rw [if_neg e,if_neg e]; exact Paired.snoc r ⟨rfl,ry⟩
theorem KV.drop {kvs:List (κ×V)}{vs:List (κ×Value)} (r:KV kvs vs) (k:κ):KV (Qs9 kvs k) (without vs k):=by
 unfold KV at r ⊢;unfold Qs9 without
 induction r with
 | nil=>exact .nil
 | @cons p q ps qs h t ih =>
  obtain ⟨h1,h2⟩:=h;rw [List.filter_cons,List.filter_cons]
  by_cases e:p.1=k
  ·have a:¬decide (p.1≠k)=true:=by simp [e]
   have b:¬decide (q.1≠k)=true:=by simp [h1.symm.trans e]
   rw [if_neg a,if_neg b]; exact ih
  ·have e':¬q.1=k:=fun z=>e (h1.trans z)
   have a:decide (p.1≠k)=true:=by simp [e]
   have b:decide (q.1≠k)=true:=by simp [e']
   rw [if_pos a,if_pos b]; exact .cons ⟨h1,h2⟩ ih
theorem KV.keys {kvs:List (κ×V)}{vs:List (κ×Value)} (r:KV kvs vs):kvs.map (·.1)=vs.map (·.1):=by
 unfold KV at r
 induction r with
 | nil=>rfl
 | cons h t ih=>rw [zc,zc,ih,h.1]
theorem KV.length {kvs:List (κ×V)}{vs:List (κ×Value)} (r:KV kvs vs):kvs.length=vs.length:=Paired.length r
end
theorem QoO {P:Program}{w:World}{k:Key}{u:Value} (r:RelV (kV k) u):(QbS P w).is k u=true:=by
 cases k with
 | inl i=>obtain ⟨t,e⟩:=(show ∃t,u=Value.int i t from r); subst e; exact Qnk P w i t
 | inr x=>obtain ⟨t,e⟩:=(show ∃t,u=Value.str x t from r); subst e; exact Qnl P w x t
theorem Qlc {P:Program}{w:World}:∀{ks:List Key}{us:List Value},Qay (ks.map kV) us→ItemsAre (QbS P w) ks us
 | [],_,r=>by rw [zQ] at r; cases r; exact .nil
 | k::ks,_,r=>by
  rw [zc] at r
  cases r with
  | cons h t=>exact .cons (QoO h) (Qlc t)
abbrev KT (H:Hp):List (List Key×V)→List (List Key×Addr×Value)→Prop:=Paired fun p q=>p.1=q.1∧H q.2.1=some (.tup (p.1.map kV))∧RelV p.2 q.2.2
theorem KT.val {H:Hp}{kvs:List (List Key×V)}{xs:List (List Key×Addr×Value)} (r:KT H kvs xs) (k:List Key):Qc2 (Qdx kvs k) ((atKey xs k).map (·.2)):=by
 induction r with
 | nil=>exact True.intro
 | @cons p q ps qs h t ih =>
  obtain ⟨h1,_,h2⟩:=h
  by_cases e:p.1=k
  ·have e':q.1=k:=h1.symm.trans e
   have b:atKey (q::qs) k=some q.2:=by simp [atKey,List.find?_cons,e']
   rw [QfI e,b]; exact h2
  ·have e':¬q.1=k:=fun z=>e (h1.trans z)
   have b:atKey (q::qs) k=atKey qs k:=by simp [atKey,List.find?_cons,e']
   rw [QfM e,b]; exact ih
theorem KT.repl {H:Hp}{kvs:List (List Key×V)}{xs:List (List Key×Addr×Value)} (r:KT H kvs xs) (k:List Key) {y:V}{u:Value} (ry:RelV y u) :
  KT H (kvs.map fun kv=>if kv.1=k then (kv.1,y) else kv) (xs.map (putAt k u)):=by
 induction r with
 | nil=>exact .nil
 | @cons p q ps qs h t ih =>
  rw [zc,zc];refine .cons ?_ ih;obtain ⟨h1,h2,h3⟩:=h;unfold putAt
  by_cases e:p.1=k
  ·rw [if_pos e,if_pos (h1.symm.trans e)]; exact ⟨h1,h2,ry⟩
  ·rw [if_neg e,if_neg (fun z=>e (h1.trans z))]; exact ⟨h1,h2,h3⟩
theorem KT.put {H:Hp}{kvs:List (List Key×V)}{xs:List (List Key×Addr×Value)} (r:KT H kvs xs) (k:List Key) {b:Addr}{y:V}{u:Value} (hb:H b=some (.tup (k.map kV))) (ry:RelV y u) :
  KT H (putK kvs k y) (storedH xs k b u):=by
 have e:(kvs.any fun kv=>decide (kv.1=k))=(atKey xs k).isSome:=by
  rw [QmL,(r.val k).isSome_eq,Option.isSome_map]
 unfold putK storedH;rw [e]
 by_cases q:(atKey xs k).isSome=true
 ·rw [if_pos q,if_pos q]; exact r.repl k ry
 ·rw [if_neg q,if_neg q]; exact Paired.snoc r ⟨rfl,hb,ry⟩
theorem KT.keeps {H H':Hp}{kvs:List (List Key×V)}{xs:List (List Key×Addr×Value)} (r:KT H kvs xs) (ht:∀b ys,H b=some (.tup ys)→H' b=some (.tup ys)):KT H' kvs xs :=
 Paired.mapP r fun _ _ z=>⟨z.1,ht _ _ z.2.1,z.2.2⟩
section
variable {P:Program}{w:World}{H:Hp}{h:Heap}{a:Addr}
theorem QsS {u:HO} (ok:HOk P w H h) (e:Rd H a u):Qbc P w H h a u:=e.ok ok
theorem Qo4 {kvs:List (Key×V)} (ok:HOk P w H h) (e:Rd H a (.dK kvs)):kvs.length≤sizeLine∧(a == sysModules)=false∧∃vs,KV kvs vs∧h.DictOf (QbS P w) a vs :=
 show Qbc P w H h a (.dK kvs) from QsS ok e
theorem QwX {kvs:List (Key×V)} (ok:HOk P w H h) (e:H a=some (.dK kvs)):kvs.length≤sizeLine∧(a == sysModules)=false∧∃vs,KV kvs vs∧h.DictOf (QbS P w) a vs:=Qo4 ok (.inl e)
theorem QmH {ks:List Key} (ok:HOk P w H h) (e:H a=some (.tup (ks.map kV))):(tupleKind (QbS P w)).is h ks a:=by
 obtain ⟨_,its,r,o,h1,h2,n,h3⟩:=(show Qbc P w H h a (.tup (ks.map kV)) from ok a _ e);exact ⟨o,its.toArray,n,h1,h2,h3,by simpa using Qlc r⟩
theorem Qol {kvs:List (List Key×V)} (ok:HOk P w H h) (e:Rd H a (.dT kvs)):kvs.length≤sizeLine∧(a == sysModules)=false ∧
  ∃xs,KT H kvs xs∧h.DictOfH (tupleKind (QbS P w)) a xs:=by
 obtain ⟨z,y,xs,r,o,es,ep,h1,h2,h3,h4,h5⟩:=(show Qbc P w H h a (.dT kvs) from QsS ok e);refine ⟨z,y,xs,r,o,es,ep,h1,h2,h3,h4,fun x hx=>?_,h5⟩
 have all:∀{l:List (List Key×V)}{m:List (List Key×Addr×Value)},KT H l m→∀x∈m,(tupleKind (QbS P w)).is h x.1 x.2.1:=by
  intro l m q
  induction q with
  | nil=>intro x hx; exact nomatch hx
  | @cons p q ps qs hq t ih =>
   intro x hx
   rcases zd.mp hx with e | hx
   ·subst e;exact QmH ok (by rw [←hq.1]; exact hq.2.1)
   ·exact ih x hx
 exact all r x hx
theorem Qxm {kvs:List (List Key×V)} (ok:HOk P w H h) (e:H a=some (.dT kvs)):kvs.length≤sizeLine∧(a == sysModules)=false ∧
  ∃xs,KT H kvs xs∧h.DictOfH (tupleKind (QbS P w)) a xs:=Qol ok (.inl e)
end
def QhV (H:Hp) (a:Addr) (y:V) (r:Option V):Prop :=
 (∃kvs k,Rd H a (.dK kvs)∧y=kV k∧r=Qdx kvs k)∨∃kvs k b,Rd H a (.dT kvs)∧y = .ref b∧H b=some (.tup (k.map kV))∧r=Qdx kvs k
def Qjo (H:Hp) (a:Addr) (y v:V) (H':Hp):Prop :=
 (∃kvs k,H a=some (.dK kvs)∧y=kV k∧kvs.length < sizeLine∧H'=upd H a (.dK (putK kvs k v))) ∨
 ∃kvs k b,H a=some (.dT kvs)∧y = .ref b∧H b=some (.tup (k.map kV))∧kvs.length < sizeLine∧H'=upd H a (.dT (putK kvs k v))
theorem QhV.k {H:Hp}{a:Addr}{kvs:List (Key×V)}{k:Key} (e:H a=some (.dK kvs)):QhV H a (kV k) (Qdx kvs k):=.inl ⟨kvs,k,.inl e,rfl,rfl⟩
theorem QhV.t {H:Hp}{a b:Addr}{kvs:List (List Key×V)}{k:List Key} (e:H a=some (.dT kvs)) (eb:H b=some (.tup (k.map kV))):QhV H a (.ref b) (Qdx kvs k):=.inr ⟨kvs,k,b,.inl e,rfl,eb,rfl⟩
theorem Qjo.k {H:Hp}{a:Addr}{kvs:List (Key×V)}{k:Key}{v:V} (e:H a=some (.dK kvs)) (hl:kvs.length < sizeLine):Qjo H a (kV k) v (upd H a (.dK (putK kvs k v))):=.inl ⟨kvs,k,e,rfl,hl,rfl⟩
theorem Qjo.t {H:Hp}{a b:Addr}{kvs:List (List Key×V)}{k:List Key}{v:V} (e:H a=some (.dT kvs)) (eb:H b=some (.tup (k.map kV))) (hl:kvs.length < sizeLine) :
  Qjo H a (.ref b) v (upd H a (.dT (putK kvs k v))):=.inr ⟨kvs,k,b,e,rfl,eb,hl,rfl⟩
section
variable {X:Cx}{pins:List (Addr×Obj)}{σ:St}{H:Hp}{s:Shared}{a:Addr}{y v:V}{u r:Value}{o:Option V}{A:Around}{E:Value→Shared→Prop}
theorem Inv.big (I:Inv X pins σ H s):sysModules < s.heap.objs.size:=by
 have h:mainGlobals < s.heap.objs.size:=(I.mod.glob.keeps I.bk).lt;exact Nat.lt_trans (by decide) h
theorem Qra {Q:Value→Shared→Prop} (hu:A.units+1 < cLine) (I:Inv X pins σ H s) (g:QhV H a y (some v)) (ry:RelV y u) (h:∀w' s',Inv X pins σ H s'→RelV v w'→Q w' s') :
  wpAny (model X.prog X.w) A (getItem (.ref a) u) Q E s:=by
 rcases g with ⟨kvs,k,e,ey,l⟩ | ⟨kvs,k,b,e,ey,eb,l⟩
 ·subst ey;obtain ⟨z,hd,vs,rel,dd⟩:=Qo4 I.hok e;obtain ⟨w',hw,rw'⟩:=Qc2.some_of (v:=v) (o:=valueAt vs k) (by rw [l]; exact rel.val k);exact wpAny_getItem_of (QoO ry) dd.mapOf hw (h w' _ (I.tok _) rw')
 ·subst ey;cases (show u=Value.ref b from ry);obtain ⟨z,hd,xs,rel,dd⟩:=Qol I.hok e;obtain ⟨w',hw,rw'⟩:=Qc2.some_of (v:=v) (o:=(atKey xs k).map (·.2)) (by rw [l]; exact rel.val k);obtain ⟨p,hp,hp2⟩:=Option.map_eq_some_iff.mp hw;refine wpAny_getItem_heap (tupleKind_room_in1 hu) (QmH I.hok eb) dd hp ?_;rw [hp2];exact h w' _ (I.tok _) rw'
theorem Qn6 {h':Heap}{t':Nat}{ob:HO} (I:Inv X pins σ H s) (mu:Mut (H a)) (hs:Heap.SameBut a s.heap h') (he:∃q,h'.get? a=some q) (new:Qbc X.prog X.w (upd H a ob) h' a ob) :
  Inv X pins σ (upd H a ob) { s with heap:=h',toks:=t' } :=
 I.write (x:=a) (e:=a) mu (.inl rfl) (fun b q hb z=>(hs.2 b hb).trans z) he new
theorem QvR {P:Program}{w:World}{H':Hp}{h':Heap}{kvs:List (Key×V)}{vs:List (Key×Value)} (z:kvs.length≤sizeLine) (hd:(a == sysModules)=false) (rel:KV kvs vs) (dd:h'.DictOf (QbS P w) a vs) :
  Qbc P w H' h' a (.dK kvs):=⟨z,hd,vs,rel,dd⟩
theorem Qqr {H':Hp}{Q:Unit→Shared→Prop} (hu:A.units+1 < cLine) (I:Inv X pins σ H s) (g:Qjo H a y v H') (ry:RelV y u) (rv:RelV v r) (h:∀s',Inv X pins σ H' s'→Q () s') :
  wpAny (model X.prog X.w) A (setItem (.ref a) u r) Q E s:=by
 rcases g with ⟨kvs,k,e,ey,l,eH⟩ | ⟨kvs,k,b,e,ey,eb,l,eH⟩
 ·subst ey eH;obtain ⟨z,hd,vs,rel,dd⟩:=QwX I.hok e
  have hz:vs.length≤sizeLine:=by rw [←rel.length]; exact z
  have hl:(putK kvs k v).length≤sizeLine:=by have:=QiV kvs k v; omega
  refine wpAny_setItem_pairs (hsz:=hz) (QoO ry) dd fun h' dd' hs=>h _ ?_
  have he:∃q,h'.get? a=some q:=let ⟨q,_,_,hq,_⟩:=dd'; ⟨q,hq⟩;exact Qn6 I (by rw [e]; exact True.intro) hs he (QvR hl hd (rel.put k rv) dd')
 ·subst ey eH;cases (show u=Value.ref b from ry);obtain ⟨z,hd,xs,rel,dd⟩:=Qxm I.hok e
  have hz:xs.length≤sizeLine:=by rw [←Paired.length rel]; exact z
  have hl:(putK kvs k v).length≤sizeLine:=by have:=QiV kvs k v; omega
  refine wpAny_setItem_heap (hsz:=hz) (tupleKind_room_in1 hu) (QmH I.hok eb) dd fun h' dd' hs=>h _ ?_
  obtain ⟨q,es,ep,hq,h2,h3,h4,_,h5⟩:=dd';refine Qn6 I (by rw [e]; exact True.intro) hs ⟨q,hq⟩ ⟨hl,hd,_,(rel.put k eb rv).keeps fun c ys ec=>?_,q,es,ep,hq,h2,h3,h4,h5⟩;rw [Qaq (ne_of ec e (fun z=>nomatch z))];exact ec
end
section
variable {X:Cx}{pins:List (Addr×Obj)}{σ:St}{H:Hp}{s:Shared}{a:Addr}{kvs:List (Key×V)}{k:Key}{u:Value}{A:Around}{E:Value→Shared→Prop}
end
def Qvz (i:Expr):Prop:=∀ov iv,subscripted i false ov iv=operate [ov,iv] (getItem ov iv)
theorem Quj {prog:Program}{w:World}{A:Around}{E:Value→Shared→Prop}{s:Shared}{env:Env}{value slice:Expr}{pos:Pos}{T id:String}{Q:Value→Shared→Prop}
  (hl:typeLookup (.type T) "__getitem__" = pure (some (.builtin id))) (hs:Qvz slice)
  (h:wpAny (model prog w) A (eval value env) (fun o s₁=>wpAny (model prog w) A (eval slice env) (fun i s₂=>s₂.TypeIs o T∧wpAny (model prog w) A (getItem o i) Q E s₂) E s₁) E s) :
  wpAny (model prog w) A (eval (.Subscript value slice pos) env) Q E s:=by
 refine Subscript_ (zG h (fun o s₁ h₁=>zG h₁ (fun i s₂ h₂=>?_) fun _ _ x=>x) fun _ _ x=>x);obtain ⟨hT,h₂⟩:=h₂;unfold subscriptTail;refine za ?_;rw [getitemInPython_of_ne hT.not_modules];refine za (wpAny_specialOf hT hl ?_)
 have fin:wpAny (model prog w) A (subscripted slice false o i) (fun r s₃=>wpAny (model prog w) A (letTemporaryGo value o r >>= fun _=>pure r) Q E s₃) E s₂:=by
  rw [hs o i];exact wpAny_operating (zG h₂ (fun r s₃ h₃=>za (wpAny_letTemporaryGo (zb h₃))) fun _ _ x=>x)
 first
  | exact zb (za fin)
  | exact za (zb (za fin))
  | exact za fin
theorem Qni {X:Cx}{pins:List (Addr×Obj)}{σ:St}{H:Hp}{s:Shared}{a:Addr}{y:V}{o:Option V} (I:Inv X pins σ H s) (g:QhV H a y o):s.TypeIs (.ref a) "dict":=by
 rcases g with ⟨kvs,k,e,_,_⟩ | ⟨kvs,k,b,e,_,_,_⟩
 ·obtain ⟨_,_,vs,_,dd⟩:=Qo4 I.hok e;exact dd.typeIs
 ·obtain ⟨_,_,xs,_,dd⟩:=Qol I.hok e;exact dd.typeIs
def QxF (td ty:TE):TE:=fun σ H Q=>td σ H fun x H1=>ty σ H1 fun y H2=>∃a v,x = .ref a∧QhV H2 a y (some v)∧Q v H2
def QxH (td ty tv:TE):TS:=fun D σ H=>tv σ H fun v H1=>td σ H1 fun x H2=>ty σ H2 fun y H3=>∃a H4,x = .ref a∧Qjo H3 a y v H4∧D.nx σ H4
section
variable {X:Cx}{o i e value:Expr}{pos pos' tpos:Pos}{td ty tv:TE}
theorem Qnx (hu:X.A.units+1 < cLine) (ho:PE X o td) (hi:PE X i ty) (hs:Qvz i):PE X (.Subscript o i pos) (QxF td ty):=by
 intro pins s σ H Q I h;refine Quj PySem.F.slot_dict_getitem.lookup hs (thn (ho pins s σ H _ I h) fun u s1 ⟨x,H1,I1,rx,q1⟩=>thn (hi pins s1 σ H1 _ I1 q1) fun iv s2 ⟨y,H2,I2,ry,a,v,ex,g,q2⟩=>?_);subst ex;obtain rfl:u=Value.ref a:=rx;exact ⟨Qni I2 g,Qra hu I2 g ry fun w' s3 I3 rw'=>⟨v,H2,I3,rw',q2⟩⟩
theorem Quo (hu:X.A.units+1 < cLine) (ho:PE X o td) (hi:PE X i ty) (hv:PE X value tv) (hs:swapsWith value (some (.Subscript o i pos')) pos.line X.env=pure false) :
  PS X (.Assign [.Subscript o i pos'] value pos) (QxH td ty tv):=by
 intro pins s σ H D I h;refine wpAny_Assign_Subscript (thn (hv pins s σ H _ I h) fun r s1 ⟨v,H1,I1,rv,q1⟩=>thn (ho pins s1 σ H1 _ I1 q1) fun u s2 ⟨x,H2,I2,rx,q2⟩=>thn (hi pins s2 σ H2 _ I2 q2) fun iv s3 ⟨y,H3,I3,ry,a,H4,ex,g,q3⟩=>?_) hs;subst ex;obtain rfl:u=Value.ref a:=rx
 exact Qqr hu I3 g ry rv fun s4 I4=>⟨σ,H4,I4,q3⟩
end
theorem Qsi {P:Program}{w:World}{H:Hp} (h:Heap) (hb:sysModules < h.objs.size):Qbc P w H (h.push { cls:=.type "dict",data:=.dict #[] }) h.objs.size (.dT []) :=
 ⟨Nat.zero_le _,beq_eq_false_iff_ne.mpr (Ne.symm (zt hb)),[],.nil,_,#[],0,zw _ rfl,⟨rfl,rfl,rfl⟩,rfl,rfl,List.nodup_nil⟩
def Qvo:TE:=fun _ H Q=>∀p,H p=none→Q (.ref p) (upd H p (.dT []))
section
variable {X:Cx}{pos:Pos}
theorem Qrb:PE X (.Dict [] [] pos) Qvo:=fun pins s σ H Q I h =>
 wpAny_Dict_empty ⟨.ref s.heap.objs.size,_,I.laid (a:=s.heap.objs.size) (o:=.dT []) (t':=s.toks) (fun _ _ q=>zn _ q) (ze _) (Qsi s.heap I.big),rfl,h _ (I.hok.fresh (ze _))⟩
end
def QmK:List (TE×TE)→St→Hp→(List (V×V)→Hp→Prop)→Prop
 | [],_,H,Q=>Q [] H
 | (tk,tv)::r,σ,H,Q=>tk σ H fun x H1=>tv σ H1 fun y H2=>QmK r σ H2 fun ps H3=>Q ((x,y)::ps) H3
abbrev VV:List (V×V)→List (Value×Value)→Prop:=Paired fun p q=>RelV p.1 q.1∧RelV p.2 q.2
def PPs (X:Cx) (pos:Pos) (keys:List (Option Expr)) (values:List Expr) (trs:List (TE×TE)):Prop :=
 ∀(pins:List (Addr×Obj)) (s:Shared) (σ:St) (H:Hp) (Q:List (V×V)→Hp→Prop),Inv X pins σ H s→QmK trs σ H Q →
  wpAny (model X.prog X.w) X.A (evalPairs (pairTrees keys values X.env pos)) (fun vs s'=>∃ps H',Inv X pins σ H' s'∧VV ps vs∧Q ps H') X.xe s
structure M1 (X:Cx) (o:Expr) (m:Str) (apos:Pos) (e:Expr) (cpos:Pos):Prop where
 base:attributeBase o m X.env (eval o X.env)=eval o X.env
 few:((backTo cpos (starEach [e] X.env)).all (fun x=>!x.1)&&(backToKw cpos (keywordEach [] X.env)).all (fun x=>x.1.isSome)
  && decide (([e]:List Expr).length+([]:List Keyword).length+(if ([]:List Keyword).isEmpty then 0 else 1) < 30))=true
 line:(apos.endLine == cpos.line)=true
 trees:backTo cpos (starEach [e] X.env) = [(false,eval e X.env)]
structure M2 (X:Cx) (o:Expr) (m:Str) (apos:Pos) (e f:Expr) (cpos:Pos):Prop where
 base:attributeBase o m X.env (eval o X.env)=eval o X.env
 few:((backTo cpos (starEach [e,f] X.env)).all (fun x=>!x.1)&&(backToKw cpos (keywordEach [] X.env)).all (fun x=>x.1.isSome)
  && decide (([e,f]:List Expr).length+([]:List Keyword).length+(if ([]:List Keyword).isEmpty then 0 else 1) < 30))=true
 line:(apos.endLine == cpos.line)=true
 trees:backTo cpos (starEach [e,f] X.env) = [(false,eval e X.env),(false,eval f X.env)]
section
variable {X:Cx}{pins:List (Addr×Obj)}{σ:St}{H:Hp}{s:Shared}{a:Addr}{y d:V}{u r:Value}{o:Option V}{A:Around}{E:Value→Shared→Prop}
end
section
variable {X:Cx}{o e f:Expr}{apos cpos:Pos}{td ty tx:TE}
end
section
variable {X:Cx}{pins:List (Addr×Obj)}{σ:St}{H:Hp}{s:Shared}{a:Addr}{kvs:List (Key×V)}{A:Around}{E:Value→Shared→Prop}
end
section
variable {X:Cx}{pins:List (Addr×Obj)}{σ:St}{H:Hp}{s:Shared}{a:Addr}{y:V}{u:Value}{A:Around}{E:Value→Shared→Prop}
end
section
variable {X:Cx}
end
section
variable {κ:Type} [DecidableEq κ]
end
def Qee (cells:List (Str×Addr)):List (Str×NameKind)→List (Str×Addr)→List (Str×Addr)
 | [],acc=>acc
 | (n,k)::r,acc=>if k == .free then Qee cells r ((n,(cells.lookup n).getD 0)::acc) else Qee cells r acc
def Qe3 (scope:Scope) (env:Env):List (Str×Addr):=Qee env.cells scope.names []
theorem QhP {scope:Scope}{env:Env} (hf:∀y∈scope.names,y.2 = .free→∃c,env.cells.lookup y.1=some c):closureFor scope env=pure (Qe3 scope env):=by
 simp only [closureFor,Qe3]
 generalize ([]:List (Str×Addr))=acc
 generalize scope.names=names at hf
 induction names generalizing acc with
 | nil=>rfl
 | cons y r ih =>
  obtain ⟨n,k⟩:=y
  have hr:=fun a=>ih a fun z hz=>hf z (zv _ hz)
  by_cases hk:k = .free
  ·obtain ⟨c,hc⟩:=hf (n,k) zu hk;have hc':env.cells.lookup n=some c:=hc;subst hk;simp only [List.forIn_cons,beq_self_eq_true,if_true,cellOf,hc',pure_bind,bind_assoc,Qee,Option.getD_some];exact hr _
  ·have hb:(k == NameKind.free)=false:=by simpa using hk
   simp only [List.forIn_cons,hb,Bool.false_eq_true,if_false,pure_bind,bind_assoc,Qee];exact hr _
theorem Qgv {cells:List (Str×Addr)}{x:Str}{c:Addr}:∀{names:List (Str×NameKind)}{acc:List (Str×Addr)},(Qee cells names acc).lookup x=some c→acc.lookup x=some c∨(∃k,(x,k)∈names∧k = .free∧(cells.lookup x).getD 0=c)
 | [],acc,h=>.inl h
 | (n,k)::r,acc,h=>by
  unfold Qee at h
  by_cases hk:k = .free
  ·subst hk;simp only [beq_self_eq_true,if_true] at h
   rcases Qgv h with z | ⟨k,hm,q⟩
   ·rw [List.lookup_cons] at z
    by_cases hx:x=n
    ·subst hx;simp at z;exact .inr ⟨.free,zu,rfl,z⟩
    ·have hb:(x == n)=false:=by simpa using hx
     rw [hb] at z;exact .inl z
   ·exact .inr ⟨k,zv _ hm,q⟩
  ·have hb:(k == NameKind.free)=false:=by simpa using hk
   simp only [hb,Bool.false_eq_true,if_false] at h
   rcases Qgv h with z | ⟨k,hm,q⟩
   ·exact .inl z
   ·exact .inr ⟨k,zv _ hm,q⟩
theorem Qfy {cells:List (Str×Addr)}{x:Str}:∀{names:List (Str×NameKind)}{acc:List (Str×Addr)},((∃c,acc.lookup x=some c)∨(x,NameKind.free)∈names)→∃c,(Qee cells names acc).lookup x=some c
 | [],acc,h=>by
  rcases h with h | h
  ·exact h
  ·cases h
 | (n,k)::r,acc,h=>by
  unfold Qee
  by_cases hk:k = .free
  ·subst hk;simp only [beq_self_eq_true,if_true];refine Qfy ?_
   by_cases hx:x=n
   ·subst hx;exact .inl ⟨(cells.lookup x).getD 0,by simp [List.lookup_cons]⟩
   ·have hb:(x == n)=false:=by simpa using hx
    rcases h with ⟨c,h⟩ | h
    ·exact .inl ⟨c,by rw [List.lookup_cons,hb]; exact h⟩
    ·rcases zd.mp h with e | h
     ·cases e; exact absurd rfl hx
     ·exact .inr h
  ·have hb:(k == NameKind.free)=false:=by simpa using hk
   simp only [hb,Bool.false_eq_true,if_false];refine Qfy ?_
   rcases h with h | h
   ·exact .inl h
   ·rcases zd.mp h with e | h
    ·cases e; exact absurd rfl hk
    ·exact .inr h
def Qcv (scope sc0:Scope):List (Str×NameKind) :=
 scope.names.map fun (n,k)=>if (k == .free&&sc0.kind == .function&&sc0.names.lookup n == some .cell) then (n,.cell) else (n,k)
theorem QiU {scope sc0:Scope} (hc:∀y∈scope.names,y.2≠.cell) {x:Str}{k:NameKind} (h:(Qcv scope sc0).lookup x=some k) (hk:k = .cell∨k = .free):(x,NameKind.free)∈scope.names:=by
 have hm:=PySem.mem_of_lookup h;unfold Qcv at hm;obtain ⟨⟨n,k0⟩,h1,h2⟩:=zP.mp hm;dsimp only at h2
 by_cases hb:(k0 == NameKind.free&&sc0.kind == .function&&sc0.names.lookup n == some .cell)=true
 ·rw [if_pos hb] at h2
  have e:k0 = .free:=by
   simp only [zm,beq_iff_eq] at hb;exact hb.1.1
  cases h2;rw [←e]; exact h1
 ·rw [if_neg hb] at h2;cases h2
  rcases hk with e | e
  ·exact absurd e (hc _ h1)
  ·rw [←e]; exact h1
def Qa2 (N0 own:List Str) (cap:List Nat):List Str:=own++cap.map fun j=>N0.getD j (Str.ofString "")
def compSt (own:List Str) (cap:List Nat) (σ:St):St:=own.map (fun _=>none)++cap.map fun j=>(σ[j]?).join
def QgG (sc0:Scope) (N0:List Str) (scope:Scope) (own:List Str) (cap:List Nat):Bool :=
 (scope.kind == .function)&&scope.names.all (fun y=>y.2 != .cell)&&scope.names.all (fun y=>y.2 != .local || scope.names.lookup y.1 == some .local) &&
 scope.names.all (fun y=>y.2 != .free || sc0.names.lookup y.1 == some .cell || sc0.names.lookup y.1 == some .free) &&
 cap.all fun j=>decide (j < N0.length)&&scope.names.contains (N0.getD j (Str.ofString ""),NameKind.free)&&((Qcv scope sc0).lookup (N0.getD j (Str.ofString "")) == some .cell || (Qcv scope sc0).lookup (N0.getD j (Str.ofString "")) == some .free)
structure Qem (sc0:Scope) (N0:List Str) (scope:Scope) (own:List Str) (cap:List Nat):Prop where
 kind:scope.kind = .function
 nocell:∀y∈scope.names,y.2≠.cell
 names:∀y∈scope.names,y.2 = .local→scope.names.lookup y.1=some .local
 free:∀y∈scope.names,y.2 = .free→sc0.names.lookup y.1=some .cell∨sc0.names.lookup y.1=some .free
 cap:∀j∈cap,j < N0.length∧(N0.getD j (Str.ofString ""),NameKind.free)∈scope.names∧((Qcv scope sc0).lookup (N0.getD j (Str.ofString ""))=some .cell∨(Qcv scope sc0).lookup (N0.getD j (Str.ofString ""))=some .free)
theorem Qem.of {sc0:Scope}{N0:List Str}{scope:Scope}{own:List Str}{cap:List Nat} (h:QgG sc0 N0 scope own cap=true):Qem sc0 N0 scope own cap:=by
 unfold QgG at h;simp only [zm,ju,beq_iff_eq,bne_iff_ne,ne_eq,Bool.or_eq_true,decide_eq_true_eq,List.contains_iff_mem] at h;obtain ⟨⟨⟨⟨h1,h2⟩,h3⟩,h4⟩,h5⟩:=h;refine ⟨h1,h2,fun y hy e=>?_,fun y hy e=>?_,fun j hj=>?_⟩
 ·rcases h3 y hy with z | z
  ·exact absurd e z
  ·exact z
 ·rcases h4 y hy with (z | z) | z
  ·exact absurd e z
  ·exact .inl z
  ·exact .inr z
 ·obtain ⟨⟨a,b⟩,c⟩:=h5 j hj;exact ⟨a,b,c⟩
def Qa4 (X:Cx) (scope:Scope) (C:Addr) (N':List Str) (s:Shared) (H:Hp) (ex:List Addr):Cx where
 prog:=X.prog
 w:=X.w
 K:=X.K
 mg:=X.mg
 base:=X.base
 A:=X.A
 N:=N'
 s₀:=s
 H₀:=H
 env:=compEnvC scope (Qe3 scope X.env) C X.env
 outer:=X.stack
 stack:=X.stack
 ex:=ex
 fn:=fun _=>false
 calm:=X.calm
 pn:=[]
 xe:=fun _ _=>False
section
variable {X:Cx}
def Qit (X:Cx) (ifs:List Expr) (t:TT):Prop :=
 ∀(pins:List (Addr×Obj)) (s:Shared) (σ:St) (H:Hp) (Q:Bool→Hp→Prop),Inv X pins σ H s→t σ H Q →
  wpAny (model X.prog X.w) X.A (forIn ifs true fun c r=>if r=true then do let ok ←isTrue c X.env (eval c X.env); pure (ForInStep.yield ok) else pure (ForInStep.yield r)) (TP X pins σ Q) X.xe s
def Qyw:TT:=fun _ H Q=>Q true H
theorem QrG:Qit X [] Qyw:=fun _ _ _ H _ I h=>wpAny_tests_nil ⟨H,I,h⟩
theorem Qso {c:Expr}{t:TT} (h:PT X c t):Qit X [c] t:=fun pins s σ H Q I q=>wpAny_tests_one (h pins s σ H Q I q)
end
def Qs3 (J:It) (g:TG) (tt:TT) (te:TE) (Q:List V→Hp→Prop) (σ0:St) (H1:Hp):Prop :=
 ∃W:Nat→Nat→List V→St→Hp→Prop,(∃m,W 0 m [] σ0 H1)∧∀i m ys σ H,W i m ys σ H →
  (J.stop i H∧Q ys H)∨(J.go i H∧ys.length < sizeLine∧∃N:List V→St→Hp→Prop,(∀ys σ' H',N ys σ' H'→∃m',m' < m∧W (i+1) m' ys σ' H')∧∀x H',J.yld i H x H'→g x σ H' fun σ2 H2=>tt σ2 H2 fun b H3 =>
   if b=true then te σ2 H3 fun y H4=>N (ys ++ [y]) σ2 H4 else N ys σ2 H3)
def Qok (wi:TI) (own:List Str) (cap:List Nat) (g:TG) (tt:TT) (te:TE):TE:=fun σ H Q =>
 wi σ H fun J H1=>Qs3 J g tt te (fun ys H'=>ys.length≤sizeLine∧∀p,H' p=none→Q (.ref p) (upd H' p (.lst ys))) (compSt own cap σ) H1
section
variable {prog:Program}{w:World}{A:Around}{R:Result→Shared→Prop}{s:Shared}
theorem QhT {elt target iter:Expr}{ifs:List Expr}{scope:Scope}{pos:Pos}{it acc:Value}{env:Env} (I:Nat→Shared→Prop)
  (turn:∀n s,I n s→wpAny (model prog w) A (pyNext it) (fun r s₁=>match r with
   | none=>R (.ok .next) s₁
   | some v=>wpAny (model prog w) A (letOwnedTupleGo target it v) (fun _ s₁'=>wpAny (model prog w) A (assign target env v) (fun _ s₂ =>
     wpAny (model prog w) A (forIn ifs true fun c r=>if r=true then do let ok ←isTrue c env (eval c env); pure (ForInStep.yield ok) else pure (ForInStep.yield r)) (fun ok s₃ =>
      if ok=true then wpAny (model prog w) A (eval elt env) (fun x s₄ =>
       wpAny (model prog w) A (call (.builtin "list.append") [acc,x]) (fun _ s₅=>∃m,m < n∧I m s₅) (fun _ _=>False) s₄) (fun _ _=>False) s₃
      else ∃m,m < n∧I m s₃) (fun _ _=>False) s₂) (fun _ _=>False) s₁') (fun _ _=>False) s₁) (fun _ _=>False) s)
  (n:Nat) (h:I n s) :
  codeAny (model prog w) A (.compLoop (.ListComp elt [⟨target,iter,ifs,0⟩] scope pos) 0 it acc env) R s:=by
 refine codeAny_loop rfl I (fun n s hI=>?_) n h;show wpAny _ A ((compTurn (.ListComp elt [⟨target,iter,ifs,0⟩] scope pos) 0 it acc env).onRaise (fun x=>do noteFrame x env; theTreesLotGoes x)) _ _ s;refine wpAny_noted ?_;rw [compTurn_list];refine za (wpAny_standAt (za (zG (turn n s hI) (fun r s₁ h₁=>?_) fun _ _ h'=>h'.elim)))
 cases r with
 | none=>exact zb h₁
 | some v =>
  refine za (zG h₁ (fun _ s₁' h₁'=>?_) fun _ _ h'=>h'.elim);refine za (zG h₁' (fun _ s₂ h₂=>za (zG h₂ (fun ok s₃ h₃=>?_) fun _ _ h'=>h'.elim)) fun _ _ h'=>h'.elim)
  cases ok with
  | false=>exact zb ⟨rfl,h₃⟩
  | true =>
   exact za (za (zG h₃ (fun x s₄ h₄=>za (zG h₄ (fun _ s₅ h₅=>zb (zb ⟨rfl,h₅⟩)) fun _ _ h'=>h'.elim)) fun _ _ h'=>h'.elim))
end
section
variable {X:Cx}{pins:List (Addr×Obj)}{σ:St}{s2:Shared}{H2:Hp}{elt tg iter:Expr}{ifs:List Expr}{scope:Scope}{pos:Pos}{g:TG}{tt:TT}{te:TE}{sc0:Scope}{N0 own:List Str}{cap:List Nat}
 {it:Addr}{fp:List Addr}{tn:Nat→Heap→Prop}{J:It}
theorem Qjg (I2:Inv X pins σ H2 s2) (hsc:X.env.scope=sc0) (ok:Qem sc0 N0 scope own cap):∀y∈scope.names,y.2 = .free→∃c,X.env.cells.lookup y.1=some c:=fun y hy e=>by
 refine I2.ok.has y.1 ?_;have q:=ok.free y hy e;rw [←hsc] at q;exact q
theorem Qcd (I2:Inv X pins σ H2 s2) (hsc:X.env.scope=sc0) (ok:Qem sc0 N0 scope own cap) {x:Str}{c:Addr} (h:(Qe3 scope X.env).lookup x=some c):X.env.cells.lookup x=some c:=by
 rcases Qgv h with z | ⟨k,hm,hk,q⟩
 ·simp at z
 ·obtain ⟨c',e⟩:=Qjg I2 hsc ok (x,k) hm hk;have e':X.env.cells.lookup x=some c':=e;rw [e'] at q;rw [e',←q]; rfl
theorem Qqe (I2:Inv X pins σ H2 s2) (hsc:X.env.scope=sc0) (ok:Qem sc0 N0 scope own cap) (T:Turn X.prog X.w X.K tg J fp it tn) (st2:tn 0 s2.heap) (f2:∀b∈fp,Qfm X pins H2 b)
  (C:Addr) (hC:s2.heap.objs.size≤C):(Qa4 X scope C (Qa2 N0 own cap) s2 H2 fp).Ok:=by
 have lt:∀b∈fp,b < s2.heap.objs.size:=fun b hb=>by
  obtain ⟨o,e,_⟩:=T.obj 0 _ st2 b hb;exact zf e
 have rel:(relabel scope X.env).names=Qcv scope sc0:=by rw [←hsc]; rfl
 refine ⟨I2.ok.mod,ok.kind,I2.ok.glob,I2.ok.blt,hC,fun x y c h1 h2=>?_,fun x hx=>?_,fun x c hf _=>absurd hf (by simp [Qa4]),I2.ok.hd,I2.ok.frames,.inl rfl,fun b hb=>⟨?_,fun x c h=>?_⟩,I2.bs,zC I2.ok.bsz I2.sz,
  fun b o e hb=>?_,fun b hb hz=>?_,I2.stack,I2.stkFree⟩
 ·exact I2.ok.inj x y c (Qcd I2 hsc ok h1) (Qcd I2 hsc ok h2)
 ·have hx':(Qcv scope sc0).lookup x=some .cell∨(Qcv scope sc0).lookup x=some .free:=by rw [←rel]; exact hx
  have hm:(x,NameKind.free)∈scope.names:=by
   rcases hx' with q | q
   ·exact QiU ok.nocell q (.inl rfl)
   ·exact QiU ok.nocell q (.inr rfl)
  exact Qfy (.inr hm)
 ·exact zt (zB (lt b hb) hC)
 ·exact (f2 b hb).2.2.2.2.1 x c (Qcd I2 hsc ok h)
 ·rcases (f2 b hb).2.2.2.1 with z | z
  ·exact I2.ok.noex b o e z
  ·exact absurd (zB (zf e) (zC I2.ok.bsz z)) (zN _)
 ·rcases zd.mp (I2.stkSub b hz) with z | z
  ·exact (f2 b hb).2.1 z
  ·exact (f2 b hb).2.2.1 z
theorem Qsu (I2:Inv X pins σ H2 s2) (hsc:X.env.scope=sc0) (hN0:X.N=N0) (ok:Qem sc0 N0 scope own cap) (T:Turn X.prog X.w X.K tg J fp it tn) (st2:tn 0 s2.heap) (f2:∀b∈fp,Qfm X pins H2 b)
  (C:Addr) (hC:s2.heap.objs.size≤C) {h₁:Heap}{tk:Nat}{m:Str→Option Value} (old:∀b o,s2.heap.get? b=some o→h₁.get? b=some o) (hns:h₁.Ns C m) :
  Inv (Qa4 X scope C (Qa2 N0 own cap) s2 H2 fp) [] (compSt own cap σ) H2 { s2 with heap:=h₁,toks:=tk }:=by
 have rel:(relabel scope X.env).names=Qcv scope sc0:=by rw [←hsc]; rfl
 refine ⟨Qqe I2 hsc ok T st2 f2 C hC,rfl,I2.bare,Un.kept old,⟨m,hns,fun i x v e1 e2 _=>?_⟩,fun x c h=>?_,I2.hok.fresh hC,fun x c h=>?_,fun p hp=>absurd (show p∈([]:List (Addr×Obj)) from hp) (by simp),I2.hok.kept old,?_⟩
 ·have e1':(Qa2 N0 own cap)[i]? = some x:=e1;unfold Qa2 at e1';unfold compSt at e2
  by_cases hi:i < own.length
  ·rw [zz (by simpa using hi),zx] at e2
   cases q:own[i]? with
   | none=>rw [q] at e2; cases e2
   | some z=>rw [q] at e2; cases e2
  ·rw [zK (by simpa using hi),zx] at e2;rw [zK (by simpa using hi),zx] at e1';rw [zh] at e2
   cases q:cap[i - own.length]? with
   | none=>rw [q] at e2; cases e2
   | some j =>
    rw [q] at e1' e2;have ex:N0.getD j (Str.ofString "")=x:=zE e1';have ev:(σ[j]?).join=some v:=zE e2;obtain ⟨hj,hm,hk⟩:=ok.cap j (zO q);rw [ex] at hm hk
    have eN:X.N[j]? = some x:=by
     rw [hN0,zq hj];rw [jf,zq hj] at ex;exact congrArg some ex
    have eσ:σ[j]? = some (some v):=by
     cases z:σ[j]? with
     | none=>rw [z] at ev; cases ev
     | some o=>rw [z] at ev; cases o with
      | none=>cases ev
      | some y=>exact congrArg some ev
    have kf:X.env.kindOf x=some .cell∨X.env.kindOf x=some .free:=by
     have z:=ok.free _ hm rfl;rw [←hsc] at z;exact z
    obtain ⟨m0,hn0,hl⟩:=I2.loc;obtain ⟨u,r,l⟩:=hl j x v eN eσ (kf.elim (fun z=>.inr (.inl z)) fun z=>.inr (.inr z));refine ⟨u,r,.inr ⟨?_,?_⟩⟩
    ·show (relabel scope X.env).names.lookup x=_∨(relabel scope X.env).names.lookup x=_;rw [rel]; exact hk
    ·rcases l with ⟨l,_⟩ | ⟨_,c,hc,⟨o,ho,hd⟩⟩
     ·rcases kf with z | z <;> (rw [z] at l; cases l)
     ·obtain ⟨c',hc'⟩:=Qfy (cells:=X.env.cells) (names:=scope.names) (acc:=[]) (.inr hm);have z:=Qcd I2 hsc ok hc';rw [hc] at z;cases z;exact ⟨c,hc',o,old _ _ ho,hd⟩
 ·obtain ⟨v,o,ho,hd⟩:=I2.cell x c (Qcd I2 hsc ok h);exact ⟨v,o,old _ _ ho,hd⟩
 ·exact I2.freeC x c (Qcd I2 hsc ok h)
 ·show (compSt own cap σ).length=(Qa2 N0 own cap).length;unfold compSt Qa2;simp
theorem Qj7 {Q:List V→Hp→Prop}{RR:Value→Addr→Result→Shared→Prop}{E:Value→Shared→Prop} (hc:X.calm=true) (I2:Inv X pins σ H2 s2) (hsc:X.env.scope=sc0) (hN0:X.N=N0) (ok:Qem sc0 N0 scope own cap)
  (hg:∀C s H ex,PG (Qa4 X scope C (Qa2 N0 own cap) s H ex) tg g) (ht:∀C s H ex,Qit (Qa4 X scope C (Qa2 N0 own cap) s H ex) ifs tt) (he:∀C s H ex,PE (Qa4 X scope C (Qa2 N0 own cap) s H ex) elt te)
  (T:Turn X.prog X.w X.K tg J fp it tn) (st2:tn 0 s2.heap) (f2:∀b∈fp,Qfm X pins H2 b) (hW:Qs3 J g tt te Q (compSt own cap σ) H2)
  (hRR:∀D C oC ys H' s',Inv X (pins ++ [(C,oC)]) σ (upd H' D (.lst ys)) s'→(∀h:Heap,h.get? C=some oC→∃m,h.Ns C m)→Qfm X pins (upd H' D (.lst ys)) C→H' D=none→Q ys H'→RR (.ref D) C (.ok .next) s')
  (hQsz:∀ys H',Q ys H'→ys.length≤sizeLine) :
  wpAny (model X.prog X.w) X.A (newList []) (fun acc s₃=>wpAny (model X.prog X.w) X.A (newFunctionEnv scope X.env.globals (Qe3 scope X.env) [] X.env.qual none .none (some X.env)) (fun cenv s₄ =>
   codeAny (model X.prog X.w) X.A (.compStart (.ListComp elt [⟨tg,iter,ifs,0⟩] scope pos) 0 (.ref it) acc { cenv with scope:=relabel scope X.env }) (RR acc cenv.locals) s₄) E s₃) E s2:=by
 refine wpAny_newObj_type (wpAny_newFunctionEnv ok.nocell (by intro y hy; simp at hy) (fun h₁ hns₁ hsb₁=>?_) ok.kind);dsimp only at hns₁ hsb₁ ⊢
 generalize hP2:s2.heap.push { cls:=.type "list",dict:=none,data:=.seq ([]:List Value).toArray }=P2 at hns₁ hsb₁ ⊢
 have hC:P2.objs.size=s2.heap.objs.size+1:=by rw [←hP2,Heap.size_push]
 have hDC:s2.heap.objs.size≠P2.objs.size:=by rw [hC]; exact zt (ji _)
 have hCle:s2.heap.objs.size≤P2.objs.size:=by rw [hC]; exact Nat.le_succ _
 have below:∀b,b < s2.heap.objs.size→b≠P2.objs.size∧b≠s2.heap.objs.size:=fun b hb=>⟨by rw [hC]; exact zt (jg hb),zt hb⟩
 have ltf:∀b∈fp,b < s2.heap.objs.size:=fun b hb=>by
  obtain ⟨o,e,_⟩:=T.obj 0 _ st2 b hb;exact zf e
 have old:∀b o,s2.heap.get? b=some o→h₁.get? b=some o:=fun b o e=>hsb₁.extBut b o (below b (zf e)).1 (zn _ (hP2 ▸ zn _ e))
 have hacc:h₁.PlainList s2.heap.objs.size #[]:=⟨_,hsb₁.extBut _ _ hDC (zn _ (hP2 ▸ zw _ rfl))⟩
 have st₁:tn 0 h₁:=T.keep _ _ _ st2 fun b _ o e=>old b o e
 have hDno:∀b∈fp,s2.heap.objs.size≠b:=fun b hb=>(below b (ltf b hb)).2.symm
 generalize hXe:Qa4 X scope P2.objs.size (Qa2 N0 own cap) s2 H2 fp=X'
 have loop:∀s₃:Shared,s₃ = { s2 with heap:=h₁,toks:=s2.toks+([]:List (Str×Value)).length } →
   codeAny (model X.prog X.w) X.A (.compLoop (.ListComp elt [⟨tg,iter,ifs,0⟩] scope pos) 0 (.ref it) (.ref s2.heap.objs.size) (compEnvC scope (Qe3 scope X.env) P2.objs.size X.env))
    (RR (.ref s2.heap.objs.size) P2.objs.size) s₃:=by
  rintro s₃ rfl;obtain ⟨W,⟨m0,w0⟩,turn⟩:=hW;subst hXe
  have stat:∀{H':Hp}{oD:Obj},(∀b∈fp,H' b=none)→∀b∈fp,Qfm (Qa4 X scope P2.objs.size (Qa2 N0 own cap) s2 H2 fp) [(s2.heap.objs.size,oD)] H' b:=fun {H' oD} hn b hb =>
   ⟨hn b hb,(below b (ltf b hb)).1,fun z=>by
    rcases zd.mp (I2.stkSub b z) with z | z
    ·exact (f2 b hb).2.1 z
    ·exact (f2 b hb).2.2.1 z,.inl hb,fun x c h=>(f2 b hb).2.2.2.2.1 x c (Qcd I2 hsc ok h),fun p hp=>by
    have e:p=(s2.heap.objs.size,oD):=by simpa [Qa4] using hp
    rw [e]; exact hDno b hb⟩
  have notcell:∀x c,(Qe3 scope X.env).lookup x=some c→c≠s2.heap.objs.size:=fun x c h z=>by
   obtain ⟨v,o,ho,hd⟩:=I2.cell x c (Qcd I2 hsc ok h);exact absurd (zf ho) (by rw [z]; exact zN _)
  have nofs:s2.heap.objs.size∉frs X.stack:=fun z=>by
   rcases zd.mp (I2.stkSub _ z) with z | z
   ·exact absurd I2.lt (by rw [z]; exact zN _)
   ·exact I2.nofs (ze _) z
  have pinD:∀{σ':St}{H':Hp}{s':Shared}{its:Array Value}{k:Nat},Inv (Qa4 X scope P2.objs.size (Qa2 N0 own cap) s2 H2 fp) [] σ' H' s'→H' s2.heap.objs.size=none →
    s'.heap.get? s2.heap.objs.size=some { cls:=.type "list",data:=.seq its k }→Inv (Qa4 X scope P2.objs.size (Qa2 N0 own cap) s2 H2 fp) [(s2.heap.objs.size,{ cls:=.type "list",data:=.seq its k })] σ' H' s' :=
   fun {σ' H' s' its k} I hn hd=>I.pins_of fun p hp=>by
    have e:p=(s2.heap.objs.size,{ cls:=.type "list",data:=.seq its k }):=by simpa using hp
    subst e;exact ⟨hd,hn,hDC,nofs,fun v z=>by cases z⟩
  obtain ⟨k0,hk0⟩:=hacc;refine QhT (env:=compEnvC scope (Qe3 scope X.env) P2.objs.size X.env)
   (fun n s'=>∃i ys its k σ' H',Inv (Qa4 X scope P2.objs.size (Qa2 N0 own cap) s2 H2 fp) [(s2.heap.objs.size,{ cls:=.type "list",data:=.seq its k })] σ' H' s'∧tn i s'.heap∧(∀b∈fp,H' b=none)∧Qay ys its.toList∧W i n ys σ' H') ?_ m0
   ⟨0,[],#[],k0,_,H2,pinD (Qsu I2 hsc hN0 ok T st2 f2 _ hCle old hns₁) (I2.hok.fresh (ze _)) hk0,st₁,fun b hb=>(f2 b hb).1,.nil,w0⟩
  rintro n s3 ⟨i,ys,its,k,σ3,H3,I3,st3,fr3,hv,w3⟩
  rcases turn i n ys σ3 H3 w3 with ⟨stop,qn⟩ | ⟨go,hsz,N,hN,step⟩
  ·refine thn (T.done (Qa4 X scope P2.objs.size (Qa2 N0 own cap) s2 H2 fp) rfl rfl rfl hc i _ s3 σ3 H3 _ I3 (stat fr3) st3 stop) fun r s4 ⟨hr,I4⟩=>?_
   subst hr;show RR _ _ (.ok .next) s4;obtain ⟨hd4,hn4,_⟩:=I4.pin (s2.heap.objs.size,{ cls:=.type "list",data:=.seq its k }) (by simp [Qa4]);dsimp only at hd4 hn4;obtain ⟨m4,hns4,_⟩:=id I4.loc;have hns4':s4.heap.Ns P2.objs.size m4:=hns4;obtain ⟨oC,es,ep,hoC,rC⟩:=id hns4';have cne:P2.objs.size≠s2.heap.objs.size:=hDC.symm;have freeC:H3 P2.objs.size=none:=I4.free;have hchC:Qfm X pins (upd H3 s2.heap.objs.size (.lst ys)) P2.objs.size:=I2.fpOk hCle (by rw [Qaq cne]; exact freeC)
   have hlen:ys.length=its.size:=by have e:=hv.length; simpa using e
   have I5:Inv X pins σ (upd H3 s2.heap.objs.size (.lst ys)) s4:=by
    refine I2.call' (ch:=fp) I4.os ⟨I4.base.keep,I4.base.slot,fun b o e n hx=>?_,I4.base.there,fun b xs e=>?_,fun b o u e=>?_,fun b ps e=>?_⟩ (fun b u e=>?_) I4.bare fun b hb=>?_
    ·rw [Qaq (zt (zf e))]; exact I4.base.free b o e n hx
    ·have q:=I4.base.tups b xs e;rw [Qaq (QaC q hn4)]; exact q
    ·have q:=I4.base.frzs b o u e;rw [Qaq (QaC q hn4)]; exact q
    ·obtain ⟨more,q⟩:=I4.base.tbls b ps e;exact ⟨more,by rw [Qaq (QaC q hn4)]; exact q⟩
    ·by_cases hb:b=s2.heap.objs.size
     ·subst hb;rw [QaE] at e;cases e;exact ⟨hQsz ys H3 qn,its.toList,k,hv,by simpa using hd4⟩
     ·rw [Qaq hb] at e
      exact (I4.hok b u e).stay (fun _ _ _ q=>q) (fun c q=>by rw [Qaq (QaC q hn4)]; exact q) fun c xs q=>by rw [Qaq (QaC q hn4)]; exact q
    ·obtain ⟨_,a2,_,a4,a5,a6⟩:=f2 b hb;exact ⟨a4,a2,a5,a6⟩
   refine hRR s2.heap.objs.size P2.objs.size oC ys H3 s4 (I5.pins_of fun p hp=>?_) (fun h e=>⟨m4,oC,es,ep,e,rC⟩) hchC hn4 qn
   rcases zD.mp hp with z | z
   ·exact I5.pin p (zJ _ z)
   ·have e:p=(P2.objs.size,oC):=by simpa using z
    subst e
    exact ⟨hoC,hchC.1,hchC.2.1,hchC.2.2.1,fun v z=>by
     have:=rC.1
     rw [this] at z; cases z⟩
  ·refine thn (T.item (Qa4 X scope P2.objs.size (Qa2 N0 own cap) s2 H2 fp) rfl rfl rfl hc i _ s3 σ3 H3 _ I3 (stat fr3) st3 go) fun r s4 ⟨u,hr,h4⟩=>?_
   subst hr
   refine thn h4 fun _ s5 ⟨x,H5,I5,r5,y5,st5,fr5⟩=>?_
   have I5':=I5.pinned (stat fr5) (T.obj _ _ st5)
   refine thn (hg _ _ _ _ _ s5 σ3 H5 x u _ I5' r5 (step x H5 y5)) fun _ s6 ⟨σ6,H6,I6,q6⟩=>?_
   refine thn (ht _ _ _ _ _ s6 σ6 H6 _ I6 q6) fun b s7 ⟨H7,I7,q7⟩=>?_
   have keepT:∀{σ':St}{H':Hp}{s':Shared},Inv (Qa4 X scope P2.objs.size (Qa2 N0 own cap) s2 H2 fp) ([(s2.heap.objs.size,{ cls:=.type "list",data:=.seq its k })]++Qir fp s5.heap) σ' H' s'→tn (i+1) s'.heap∧∀b∈fp,H' b=none:=fun {σ' H' s'} I'=>by
    refine ⟨T.keep _ _ _ st5 fun b hb o e=>(I'.pin (b,o) (zJ _ (zJ _ (Qfs hb e)))).1,fun b hb=>?_⟩;obtain ⟨o,e,d⟩:=T.obj _ _ st5 b hb;exact (I'.pin (b,o) (zJ _ (zJ _ (Qfs hb e)))).2.1
   cases b with
   | false =>
    rw [if_neg zg] at q7 ⊢;obtain ⟨m',hm,w7⟩:=hN _ _ _ q7;obtain ⟨a,b⟩:=keepT I7;exact ⟨m',hm,i+1,ys,its,k,σ6,H7,I7.unpinned,a,b,hv,w7⟩
   | true =>
    rw [if_pos rfl] at q7 ⊢
    refine thn (he _ _ _ _ _ s7 σ6 H7 _ I7 q7) fun v s8 ⟨y,H8,I8,r8,q8⟩=>?_
    obtain ⟨m',hm,w8⟩:=hN _ _ _ q8;obtain ⟨a,b⟩:=keepT I8;obtain ⟨hd8,hn8,_⟩:=I8.pin (s2.heap.objs.size,{ cls:=.type "list",data:=.seq its k }) (by simp [Qa4]);dsimp only at hd8 hn8
    have hl:its.size≤sizeLine:=by
     have e:=hv.length;simp at e;omega
    refine wpAny_list_append_plain (hsz:=hl) ⟨k,hd8⟩ fun h9 hl9 hs9=>?_
    obtain ⟨k9,hd9⟩:=hl9
    have I8':Inv (Qa4 X scope P2.objs.size (Qa2 N0 own cap) s2 H2 fp) [] σ6 H8 s8:=I8.pins_of fun p hp=>absurd hp (by simp)
    have I9:Inv (Qa4 X scope P2.objs.size (Qa2 N0 own cap) s2 H2 fp) [] σ6 H8 { s8 with heap:=h9 } :=
     I8'.turned (t':=s8.toks) (it:=s2.heap.objs.size) (fun b o hb e=>hs9.extBut b o hb e) hn8 hDC (.inr (ze _)) notcell (fun p hp=>absurd (show p∈([]:List (Addr×Obj)) from hp) (by simp))
    refine ⟨m',hm,i+1,ys ++ [y],its.push v,k9,σ6,H8,pinD I9 hn8 hd9,T.keep _ _ _ a fun b hb o e=>hs9.extBut b o (hDno b hb).symm e,b,?_,w8⟩;rw [Array.toList_push];exact hv.append (.cons r8 .nil)
 exact codeAny_compStart_list (loop _ rfl) (T.self _ 0 _ _ _ st₁ (loop _ rfl))
theorem Qti {wi:TI} (sc0:Scope) (N0 own:List Str) (cap:List Nat) (hc:X.calm=true) (hi:PI X tg iter wi)
  (hg:∀C s H ex,PG (Qa4 X scope C (Qa2 N0 own cap) s H ex) tg g) (ht:∀C s H ex,Qit (Qa4 X scope C (Qa2 N0 own cap) s H ex) ifs tt) (he:∀C s H ex,PE (Qa4 X scope C (Qa2 N0 own cap) s H ex) elt te)
  (hsc:X.env.scope=sc0:=by rfl) (hN0:X.N=N0:=by rfl) (ok:QgG sc0 N0 scope own cap=true:=by decide +kernel) (hs:∀x,foldedSetIterable iter X.env x=pure x:=by intro _; rfl) :
  PE X (.ListComp elt [⟨tg,iter,ifs,0⟩] scope pos) (Qok wi own cap g tt te):=by
 intro pins s σ H Q I h;have ok:=Qem.of ok;rw [eval_ListComp];refine wpAny_comprehension_free (use:=none) rfl hs (QhP (Qjg I hsc ok)) ok.kind ok.names (thn (hi pins s σ H _ I h) fun xv s1 h1=>thn h1 fun itv s2 h2=>?_);obtain ⟨it,fp,tn,J,H2,e,I2,T,st2,f2,hW⟩:=h2;subst e
 refine Qj7 (RR:=fun acc C=>compPost (model X.prog X.w) X.A X.xe none (EP X pins σ Q) acc C) hc I2 hsc hN0 ok hg ht he T st2 f2 hW (fun D C oC ys H' s' I' hns fpC hD q=>?_) fun ys H' q=>q.1
 obtain ⟨hC,hCn,_⟩:=I'.pin (C,oC) (by simp);obtain ⟨m,hm⟩:=hns _ hC;refine ⟨m,hm,fun h' hs'=>⟨.ref D,upd H' D (.lst ys),?_,rfl,q.2 D hD⟩⟩;obtain ⟨f0,f1,f2',f3,f4,f5⟩:=fpC;exact I'.unpinned.turned (t':=s'.toks) (it:=C) (fun b o hb e=>hs'.extBut b o hb e) f0 f1 f3 f4 f5
theorem QuC {wi:TI}{i:Nat}{x:Str}{pos' spos:Pos} (sc0:Scope) (N0 own:List Str) (cap:List Nat) (hN:X.N.Nodup) (hx:X.N[i]? = some x) (hl:Loc X.env.scope x) (hc:X.calm=true) (hi:PI X tg iter wi)
  (hg:∀C s H ex,PG (Qa4 X scope C (Qa2 N0 own cap) s H ex) tg g) (ht:∀C s H ex,Qit (Qa4 X scope C (Qa2 N0 own cap) s H ex) ifs tt) (he:∀C s H ex,PE (Qa4 X scope C (Qa2 N0 own cap) s H ex) elt te)
  (hsw:swapsWith (.ListComp elt [⟨tg,iter,ifs,0⟩] scope pos) (some (.Name x pos')) spos.line X.env=pure true:=by rfl)
  (hf:X.fn x=true∨X.env.scope.names.lookup x=some .local:=by first | exact .inl rfl | exact .inr rfl | assumption)
  (hsc:X.env.scope=sc0:=by rfl) (hN0:X.N=N0:=by rfl) (ok:QgG sc0 N0 scope own cap=true:=by decide +kernel) (hs:∀x,foldedSetIterable iter X.env x=pure x:=by intro _; rfl) :
  PS X (.Assign [.Name x pos'] (.ListComp elt [⟨tg,iter,ifs,0⟩] scope pos) spos) (Qpa (Qok wi own cap g tt te) (QjJ i)):=by
 intro pins s σ H D I h;have ok:=Qem.of ok;rw [exec_Assign_Name_used _ _ _ _ hsw];refine za (wpAny_standAt (za ?_));show wpAny _ X.A (do let _ ←comprehension (.ListComp elt [⟨tg,iter,ifs,0⟩] scope pos) scope X.env _ (newList []) false (eval iter X.env) (some (assign (.Name x pos') X.env))) _ _ s
 refine za (zG (wpAny_comprehension_free (use:=some (assign (.Name x pos') X.env)) (Q:=fun _ s'=>SP X pins D .next s') rfl hs (QhP (Qjg I hsc ok)) ok.kind ok.names
  (thn (hi pins s σ H _ I h) fun xv s1 h1=>thn h1 fun itv s2 h2=>?_)) (fun _ s' hq=>zb (zb hq)) fun _ _ e=>e)
 obtain ⟨it,fp,tn,J,H2,e,I2,T,st2,f2,hW⟩:=h2;subst e
 refine Qj7 (RR:=fun acc C=>compPost (model X.prog X.w) X.A X.xe (some (assign (.Name x pos') X.env)) (fun _ s'=>SP X pins D .next s') acc C) hc I2 hsc hN0 ok hg ht he T st2 f2 hW (fun Da C oC ys H' s' I' hns fpC hD q=>?_) fun ys H' q=>q.1
 show wpAny _ X.A (assign (.Name x pos') X.env (.ref Da)) _ _ _;refine wpAny_assign_Name (Qhm (v:=.ref Da) I' hN hx hl rfl (fun s'' I''=>?_) hf);obtain ⟨hC,hCn,_⟩:=I''.pin (C,oC) (by simp);obtain ⟨m,hm⟩:=hns _ hC;refine ⟨m,hm,fun h' hs'=>⟨σ.set i (some (.ref Da)),upd H' Da (.lst ys),?_,q.2 Da hD⟩⟩;obtain ⟨f0,f1,f2',f3,f4,f5⟩:=fpC;exact I''.unpinned.turned (t':=s''.toks) (it:=C) (fun b o hb e=>hs'.extBut b o hb e) f0 f1 f3 f4 f5
end
def Can (P:Program) (w:World) (K:PySem.W.Frag) (mg:Str→Option Value) (base:Heap) (x:Str) (ps:List Str) (k:Nat) (sp:Sp):Prop :=
 ∃f fd,mg x=some (.ref f)∧PySem.W.keepIn K (.ref f)=true∧Binds K fd ps []∧Qb7 P w K mg base CX0 k f fd ps sp∧∃oc od osl,K.lookup f=some ⟨oc,od,.func fd,osl⟩
def Def (K:PySem.W.Frag) (mg:Str→Option Value) (x:Str) (st:Stmt):Prop:=∃f fd,mg x=some (.ref f)∧Fun K x x st f fd
section
variable {P:Program}{w:World}{K:PySem.W.Frag}{mg:Str→Option Value}{base:Heap}
theorem Can.mono {x:Str}{ps:List Str}{j k:Nat}{sp:Sp} (c:Can P w K mg base x ps j sp) (h:j≤k):Can P w K mg base x ps k sp :=
 let ⟨f,fd,a,b,d,e,g⟩:=c; ⟨f,fd,a,b,d,e.mono h,g⟩
theorem Def.can {x:Str}{st:Stmt}{N ps:List Str}{k:Nat}{sp:Sp} (D:Def K mg x st) (S:QaF N ps (Qao st))
  (hb:∀(kV doc pm:Value) (an:Option Addr) (cdv ct:Value) (us:List Value),us.length=ps.length→bindArgs (PySem.W.fnOf x x (Qce st) (Qbs st) (Qao st) .none kV doc pm an cdv ct) ⟨us,[]⟩=pure (ps.zip us))
  (len:∀vs H Q E,sp vs H Q E→vs.length=ps.length)
  (hbody:∀(f:Addr) (cdv:Value) (A:Around) (outer:List Env) (s:Shared) (H:Hp) (vs:List V) (Q:VK) (E:XK),QaS k (A.deeper (envOfC x (Qao st) s.heap.objs.size f cdv))→sp vs H Q E →
   ∃t,PSs (Qeo CX0 P w K mg base N x (Qao st) f cdv A outer s H E).nox (Qbs st) t∧t { nx:=fun _ H'=>Q .non H',rt:=Q } (start N vs) H):Can P w K mg base x ps (k+1) sp:=by
 obtain ⟨f,fd,hm,F⟩:=D;obtain ⟨oc,od,_,_,_,_,_,_,osl,_,lk,_⟩:=F.ex;exact ⟨f,fd,hm,F.kp,F.binds hb,F.ok S len fun cdv A outer s H vs Q E hr h=>hbody f cdv A outer s H vs Q E hr h,oc,od,osl,lk⟩
end
section
variable {X:Cx}{k:Nat}{x:Str}{ps:List Str}{sp:Sp}{p pos:Pos}{e:Expr}{es:List Expr}{t:TA}
theorem Qu0 (C:Can X.prog X.w X.K X.mg X.base x ps k sp) (hr:QaS k X.A) (ha:PA X (e::es) t) (hg:Gl X x:=by rfl) (hdb:(x == ("__debug__":Str))=false:=by decide)
  (he:starEach (e::es) X.env=(false,eval e X.env)::starEach es X.env:=by rfl) (hpl:(backTo pos (starEach es X.env)).any (·.1)=false:=by rfl) :
  PE X (.Call (.Name x p) (e::es) [] pos) (QoP sp [] E0 t):=by
 obtain ⟨f,fd,hm,hk,hb,F,_⟩:=C;exact Qtp F hr hg hm hk hb .nil Qlu ha hdb he hpl
end
theorem Same.seqT {K:PySem.W.Frag}{H H':Hp}{a:Addr}{xs:List V} (e:Same H H') (h:SqT K H a xs):SqT K H' a xs:=by
 rcases h with (h | ⟨o,h⟩) | h
 ·exact .inl (.inl (e _ _ h))
 ·exact .inl (.inr ⟨o,e _ _ h⟩)
 ·exact .inr h
theorem Same.upd {H:Hp}{a:Addr}{o:HO} (h:H a=none):Same H (upd H a o):=fun b u e=>by rw [Qaq (QaC e h)]; exact e
mutual
def Rep (K:PySem.W.Frag) (H:Hp):V→PyData→Prop
 | v,.none=>v = .non
 | v,.bool b=>v = .bl b
 | v,.int i=>v = .int i
 | v,.str x=>v = .str x
 | v,.list ds=>∃a xs,v = .ref a∧SqL K H a xs∧QaD K H xs ds
 | v,.tuple ds=>∃a xs,v = .ref a∧SqT K H a xs∧QaD K H xs ds
 | _,.dict _=>False
def QaD (K:PySem.W.Frag) (H:Hp):List V→List PyData→Prop
 | xs,[]=>xs = []
 | xs,d::ds=>∃x r,xs=x::r∧Rep K H x d∧QaD K H r ds
end
mutual
theorem Rep.mono {K:PySem.W.Frag}{H H':Hp} (e:Same H H'):∀(d:PyData) {v:V},Rep K H v d→Rep K H' v d
 | .none,v,h=>by rw [Rep] at h ⊢; exact h
 | .bool b,v,h=>by rw [Rep] at h ⊢; exact h
 | .int i,v,h=>by rw [Rep] at h ⊢; exact h
 | .str x,v,h=>by rw [Rep] at h ⊢; exact h
 | .list ds,v,h=>by
  rw [Rep] at h ⊢;obtain ⟨a,xs,h1,h2,h3⟩:=h;exact ⟨a,xs,h1,e.seq h2,QaD.mono e ds h3⟩
 | .tuple ds,v,h=>by
  rw [Rep] at h ⊢;obtain ⟨a,xs,h1,h2,h3⟩:=h;exact ⟨a,xs,h1,e.seqT h2,QaD.mono e ds h3⟩
 | .dict _,v,h=>by rw [Rep] at h; exact h.elim
theorem QaD.mono {K:PySem.W.Frag}{H H':Hp} (e:Same H H'):∀(ds:List PyData) {xs:List V},QaD K H xs ds→QaD K H' xs ds
 | [],xs,h=>by rw [QaD] at h ⊢; exact h
 | d::ds,xs,h=>by
  rw [QaD] at h ⊢;obtain ⟨x,r,h1,h2,h3⟩:=h;exact ⟨x,r,h1,Rep.mono e d h2,QaD.mono e ds h3⟩
end
theorem QaD.nil {K:PySem.W.Frag}{H:Hp}:QaD K H [] []:=by rw [QaD]
theorem QaD.cons {K:PySem.W.Frag}{H:Hp}{x:V}{xs:List V}{d:PyData}{ds:List PyData} (h:Rep K H x d) (hs:QaD K H xs ds):QaD K H (x::xs) (d::ds):=by
 rw [QaD]; exact ⟨x,xs,rfl,h,hs⟩
theorem QaD.un {K:PySem.W.Frag}{H:Hp}{xs:List V}{d:PyData}{ds:List PyData} (h:QaD K H xs (d::ds)):∃x r,xs=x::r∧Rep K H x d∧QaD K H r ds:=by rw [QaD] at h; exact h
theorem QaD.un0 {K:PySem.W.Frag}{H:Hp}{xs:List V} (h:QaD K H xs []):xs = []:=by rw [QaD] at h; exact h
theorem Rep.unL {K:PySem.W.Frag}{H:Hp}{v:V}{ds:List PyData} (h:Rep K H v (.list ds)):∃a xs,v = .ref a∧SqL K H a xs∧QaD K H xs ds:=by rw [Rep] at h; exact h
theorem Rep.unT {K:PySem.W.Frag}{H:Hp}{v:V}{ds:List PyData} (h:Rep K H v (.tuple ds)):∃a xs,v = .ref a∧SqT K H a xs∧QaD K H xs ds:=by rw [Rep] at h; exact h
theorem Rep.unS {K:PySem.W.Frag}{H:Hp}{v:V}{x:Str} (h:Rep K H v (.str x)):v = .str x:=by rw [Rep] at h; exact h
theorem Rep.unI {K:PySem.W.Frag}{H:Hp}{v:V}{x:Int} (h:Rep K H v (.int x)):v = .int x:=by rw [Rep] at h; exact h
theorem Rep.s {K:PySem.W.Frag}{H:Hp}{x:Str}:Rep K H (.str x) (.str x):=by rw [Rep]
theorem Rep.i {K:PySem.W.Frag}{H:Hp}{x:Int}:Rep K H (.int x) (.int x):=by rw [Rep]
theorem Rep.b {K:PySem.W.Frag}{H:Hp}{x:Bool}:Rep K H (.bl x) (.bool x):=by rw [Rep]
theorem QaD.length {K:PySem.W.Frag}{H:Hp}:∀{ds:List PyData}{xs:List V},QaD K H xs ds→xs.length=ds.length
 | [],xs,h=>by rw [QaD] at h; rw [h]; rfl
 | d::ds,xs,h=>by
  rw [QaD] at h;obtain ⟨x,r,rfl,_,h3⟩:=h;simp [QaD.length h3]
theorem QaD.get {K:PySem.W.Frag}{H:Hp}:∀{ds:List PyData}{xs:List V}{i:Nat}{x:V},QaD K H xs ds→xs[i]? = some x→∃d,ds[i]? = some d∧Rep K H x d
 | [],xs,i,x,h,e=>by rw [QaD] at h; rw [h] at e; simp at e
 | d::ds,xs,i,x,h,e=>by
  rw [QaD] at h;obtain ⟨y,r,rfl,h2,h3⟩:=h
  cases i with
  | zero=>simp at e; subst e; exact ⟨d,rfl,h2⟩
  | succ i =>
   obtain ⟨d',e',q⟩:=QaD.get (i:=i) (x:=x) h3 (by simpa using e);exact ⟨d',by simpa using e',q⟩
theorem QaD.snoc {K:PySem.W.Frag}{H:Hp}{x:V}{d:PyData} (hx:Rep K H x d):∀{ds:List PyData}{xs:List V},QaD K H xs ds→QaD K H (xs ++ [x]) (ds ++ [d])
 | [],xs,h=>by rw [QaD] at h; rw [h]; exact QaD.cons hx QaD.nil
 | e::ds,xs,h=>by
  rw [QaD] at h;obtain ⟨y,r,rfl,h2,h3⟩:=h;exact QaD.cons h2 (QaD.snoc hx h3)
theorem QaD.append {K:PySem.W.Frag}{H:Hp}{ys:List V}{es:List PyData} (hy:QaD K H ys es):∀{ds:List PyData}{xs:List V},QaD K H xs ds→QaD K H (xs++ys) (ds++es)
 | [],xs,h=>by rw [QaD] at h; rw [h]; exact hy
 | e::ds,xs,h=>by
  rw [QaD] at h;obtain ⟨y,r,rfl,h2,h3⟩:=h;exact QaD.cons h2 (QaD.append hy h3)
theorem QaD.take {K:PySem.W.Frag}{H:Hp}:∀{ds:List PyData}{xs:List V} (n:Nat),QaD K H xs ds→QaD K H (xs.take n) (ds.take n)
 | _,_,0,_=>by simpa using QaD.nil
 | [],xs,n+1,h=>by rw [QaD] at h; rw [h]; simpa using QaD.nil
 | d::ds,xs,n+1,h=>by
  rw [QaD] at h;obtain ⟨y,r,rfl,h2,h3⟩:=h;exact QaD.cons h2 (QaD.take n h3)
theorem QaD.drop {K:PySem.W.Frag}{H:Hp}:∀{ds:List PyData}{xs:List V} (n:Nat),QaD K H xs ds→QaD K H (xs.drop n) (ds.drop n)
 | _,_,0,h=>by simpa using h
 | [],xs,n+1,h=>by rw [QaD] at h; rw [h]; simpa using QaD.nil
 | d::ds,xs,n+1,h=>by
  rw [QaD] at h;obtain ⟨y,r,rfl,h2,h3⟩:=h;exact QaD.drop n h3
section
variable {X:Cx}{pins:List (Addr×Obj)}{σ:St}{H:Hp}{s:Shared}
mutual
theorem Rep.reads (I:Inv X pins σ H s):∀(d:PyData) {v:V}{u:Value},Rep X.K H v d→RelV v u→∃as,Reads s.heap u d as
 | .none,v,u,h,r=>by rw [Rep] at h; subst h; cases (show u = .none from r); exact ⟨_,.none⟩
 | .bool b,v,u,h,r=>by rw [Rep] at h; subst h; cases (show u = .bool b from r); exact ⟨_,.bool b⟩
 | .int i,v,u,h,r=>by rw [Rep] at h; subst h; obtain ⟨t,rfl⟩:=(show ∃t,u = .int i t from r); exact ⟨_,.int i t⟩
 | .str x,v,u,h,r=>by rw [Rep] at h; subst h; obtain ⟨t,rfl⟩:=(show ∃t,u = .str x t from r); exact ⟨_,.str x t⟩
 | .list ds,v,u,h,r=>by
  rw [Rep] at h;obtain ⟨a,xs,rfl,h2,h3⟩:=h;cases (show u = .ref a from r);obtain ⟨its,rv,pl,_⟩:=I.list h2;obtain ⟨as,q⟩:=QaD.reads I ds h3 rv;obtain ⟨o,ho,hc,n,hd⟩:=pl.isList;exact ⟨_,.list ho hc hd (by simpa using q)⟩
 | .tuple ds,v,u,h,r=>by
  rw [Rep] at h;obtain ⟨a,xs,rfl,h2,h3⟩:=h;cases (show u = .ref a from r);obtain ⟨its,rv,pl,_⟩:=I.tuple h2;obtain ⟨as,q⟩:=QaD.reads I ds h3 rv;obtain ⟨o,ho,hc,n,hd⟩:=pl;exact ⟨_,.tuple ho hc hd (by simpa using q)⟩
 | .dict _,v,u,h,r=>by rw [Rep] at h; exact h.elim
theorem QaD.reads (I:Inv X pins σ H s):∀(ds:List PyData) {xs:List V}{us:List Value},QaD X.K H xs ds→Qay xs us→∃as,ReadsAll s.heap us ds as
 | [],xs,us,h,r=>by rw [QaD] at h; subst h; cases r; exact ⟨_,.nil⟩
 | d::ds,xs,us,h,r=>by
  rw [QaD] at h;obtain ⟨x,rest,rfl,h2,h3⟩:=h
  cases r with
  | cons r1 r2 =>
   obtain ⟨as,q⟩:=Rep.reads I d h2 r1;obtain ⟨bs,q'⟩:=QaD.reads I ds h3 r2;exact ⟨_,.cons q q'⟩
end
end
def okD (d:PyData):Bool:=d.canLay0&&decide (d.depth≤60)
def Qwf (K:PySem.W.Frag) (neg:Bool):R2:=fun x y H Q=>∃d e,Rep K H x d∧Rep K H y e∧okD d=true∧okD e=true∧Q (.bl (if neg then !PyData.eqv d e else PyData.eqv d e)) H
section
variable {X:Cx}
theorem Qvp {k:Nat} (hr:QaS k X.A):OpR X (compareOp .Eq) (Qwf X.K false):=by
 intro pins s σ H x y v u Q I rx ry h;obtain ⟨d,e,h1,h2,k1,k2,q⟩:=h;obtain ⟨as,r1⟩:=Rep.reads I d h1 rx;obtain ⟨bs,r2⟩:=Rep.reads I e h2 ry;unfold okD at k1 k2;simp only [zm,decide_eq_true_eq] at k1 k2;exact SeqAt.compareEq_reads r1 r2 k1.1 k2.1 (by have:=hr.units; omega) ⟨.bl _,H,I,rfl,q⟩
theorem Qvb {k:Nat} (hr:QaS k X.A):OpR X (compareOp .NotEq) (Qwf X.K true):=by
 intro pins s σ H x y v u Q I rx ry h;obtain ⟨d,e,h1,h2,k1,k2,q⟩:=h;obtain ⟨as,r1⟩:=Rep.reads I d h1 rx;obtain ⟨bs,r2⟩:=Rep.reads I e h2 ry;unfold okD at k1 k2;simp only [zm,decide_eq_true_eq] at k1 k2;exact SeqAt.compareNe_reads r1 r2 k1.1 k2.1 (by have:=hr.units; omega) ⟨.bl _,H,I,rfl,q⟩
end
def S (l:List Nat):Str:=⟨l.toArray⟩
theorem Qhz (l:List Nat):(S l).cps.toList=l:=by simp [S]
theorem Qbt (l:List Nat):(S l).length=l.length:=by simp [S,Str.length]
theorem Qx7 (x:Str):S x.cps.toList=x:=by cases x; simp [S]
theorem QrU (a b:List Nat):S a++S b=S (a++b):=by
 show Str.mk _=Str.mk _;simp [S]
theorem QxG {a b:List Nat} (h:S a=S b):a=b:=by have:=congrArg (fun x:Str=>x.cps.toList) h; simpa [Qhz] using this
section
variable {X:Cx}
theorem Qqx:OpR X (compareOp .LtE) (fun x y H Q=>∃i j,x = .str i∧y = .str j∧Q (.bl (!decide (j.cps.toList < i.cps.toList))) H):=by
 intro pins s σ H x y v u Q I rx ry h;obtain ⟨i,j,rfl,rfl,q⟩:=h;obtain ⟨t,rfl⟩:=rx;obtain ⟨t',rfl⟩:=ry;exact P.le_str ⟨.bl _,H,I,rfl,q⟩
theorem Qp7:OpR X (compareOp .In) (fun x y H Q=>∃c l,x = .str (S [c])∧y = .str (S l)∧Q (.bl (decide (c∈l))) H):=by
 intro pins s σ H x y v u Q I rx ry h;obtain ⟨c,l,rfl,rfl,q⟩:=h;refine QpO pins s σ H _ _ v u Q I rx ry ⟨S [c],S l,rfl,rfl,?_⟩;have e:=PySem.StrLaws.found_one (S l) c;rw [Qhz] at e;show Q (.bl (!(Builtin.Str.occurrences (S l) (S [c]) 0 (S l).length 1).isEmpty)) H;rw [show S [c]=⟨#[c]⟩ from rfl,e];exact q
def Its (l:List Nat):It:=⟨fun i _=>i < l.length,fun i H x H'=>H'=H∧∃c,l[i]? = some c∧x = .str (S [c]),fun i _=>l.length≤i⟩
theorem QrF {P:Program}{w:World}{K:PySem.W.Frag}{tg:Expr} (l:List Nat) (it:Addr) (t:Tok):Turn P w K tg (Its l) [it] it (fun i h=>h.IsStrIter it "str_ascii_iterator" (S l) t i) where
 mem:=by simp
 obj:=fun i h st b hb=>by
  have e:b=it:=by simpa using hb
  subst e;obtain ⟨o,e,c,d⟩:=st;exact ⟨o,e,fun v z=>by rw [d] at z; cases z⟩
 keep:=fun i h h' st k=>let ⟨o,ho,r⟩:=st; ⟨o,k it (by simp) o ho,r⟩
 item:=by
  intro X hP hw hK hc i pins s σ H E I hf st hg;subst hP hw hK;obtain ⟨f0,f1,f2,f3,f4,f5⟩:=hf it (by simp);have hg':i < l.length:=hg
  refine wpAny_pyNext_ascii_item st (c:=l[i]) (by simp [S,hg']) fun h' st' sb=>?_
  have I1:Inv X pins σ H { s with heap:=h',toks:=s.toks+1 }:=I.turned (fun b o hb e=>(sb.2 b hb).trans e) f0 f1 f3 f4 f5;obtain ⟨o,e,c,d⟩:=id st';exact ⟨_,rfl,Qhq (s:={ s with heap:=h',toks:=s.toks+1 }) e c d (by decide) ⟨.str (S [l[i]]),H,I1,⟨_,rfl⟩,⟨rfl,l[i],by simp [hg'],rfl⟩,st',fun b hb=>(hf b hb).1⟩⟩
 done:=by
  intro X hP hw hK hc i pins s σ H E I hf st hg;subst hP hw hK;obtain ⟨f0,f1,f2,f3,f4,f5⟩:=hf it (by simp);have hg':l.length≤i:=hg
  exact wpAny_pyNext_ascii_end (I.ok.hd hc) st (by simp [S,hg']) fun h' eb=>⟨rfl,I.turned (t':=s.toks) (fun b o hb e=>eb b o hb e) f0 f1 f3 f4 f5⟩
 self:=fun _ _ _ _ _ st h=>wpAny_pyIter_striter_ascii st h
def ascii (l:List Nat):Bool:=l.all (· < 128)
def Qx8 (tl:TE):TI:=fun σ H R=>tl σ H fun x H1=>∃l,x = .str (S l)∧ascii l=true∧R (Its l) H1
theorem Qwm {tg e:Expr}{tl:TE} (hl:PE X e tl):PI X tg e (Qx8 tl):=by
 intro pins s σ H R I h
 refine thn (hl pins s σ H _ I h) fun v s1 ⟨x,H1,I1,r1,q1⟩=>?_
 obtain ⟨l,e,ha,q⟩:=q1;subst e;obtain ⟨t,rfl⟩:=r1;refine wpAny_pyIter_ascii (by simpa [S,ascii] using ha) ?_;refine ⟨s1.heap.objs.size,[s1.heap.objs.size],_,_,H1,rfl,I1.kept (t':=s1.toks) fun b o e=>zn _ e,QrF l _ t,⟨_,zw _ rfl,rfl,rfl⟩,fun b hb=>?_,q⟩
 have e:b=s1.heap.objs.size:=by simpa using hb
 subst e;exact I1.fpOk (ze _) (I1.hok.fresh (ze _))
theorem QqH (hc:X.calm=true):Qeq X (.builtin "sum") (fun xs H Q=>∃(a:Addr) (ns:List Int),xs = [.ref a]∧SqL X.K H a (ns.map V.int)∧(∀n∈ns,0≤n∧n≤1000000)∧ns.length≤1000000∧Q (.int ns.sum) H):=by
 intro pins s σ H xs us Q I r h;obtain ⟨a,ns,rfl,ha,hb,hl0,q⟩:=h;obtain ⟨u,rfl,ru⟩:=vals1 r;cases ru;obtain ⟨its,rv,p,hz⟩:=I.list ha;have hne:a≠s.heap.objs.size:=zt (zf p.isList.choose_spec.1)
 have hl:its.length=ns.length:=by have:=rv.length; rw [zh] at this; exact this.symm
 have pre:∀j,j≤ns.length→preSum (fun i=>ns.getD i 0) j=(ns.take j).sum∧0≤preSum (fun i=>ns.getD i 0) j∧preSum (fun i=>ns.getD i 0) j≤(j:Int) * 1000000:=by
  intro j
  induction j with
  | zero=>intro _; simp [preSum]
  | succ j ih =>
   intro hj;obtain ⟨e,l1,l2⟩:=ih (by omega)
   have hj':j < ns.length:=by omega
   have hm:=hb ns[j] (jr hj')
   have ed:ns.getD j 0=ns[j]:=by rw [jf,zq hj']; rfl
   have es:preSum (fun i=>ns.getD i 0) (j+1)=preSum (fun i=>ns.getD i 0) j+ns[j]:=by
    rw [←ed]; rfl
   refine ⟨?_,by omega,by omega⟩;rw [es,e,List.take_succ_eq_append_getElem hj',List.sum_append];simp
 refine call_sum_walk (wpAny_pyIter_list p.isList ?_)
 refine ⟨s.heap.objs.size,_,_,its.toArray.size,_,_,fun i=>ns.getD i 0,rfl,Walks.list (A:=X.A.in1) (I.ok.hd hc) s.heap.objs.size a hne its.toArray,
  ⟨⟨_,zw _ rfl,rfl,rfl⟩,p.isList.at fun o e=>zn _ e⟩,fun b hb'=>?_,fun i v hv=>?_,fun j hj=>?_,fun h' tk t' hk=>?_⟩
 ·have hsz:({ s with heap:=s.heap.push { cls:=.type "list_iterator",data:=.fields #[.ref a,.int 0 0] } }:Shared).heap.objs.size=s.heap.objs.size+1:=Heap.size_push ..;rw [hsz]
  have z:b=s.heap.objs.size∨b=a:=by simpa using hb'
  have ha':a < s.heap.objs.size:=zf p.isList.choose_spec.1
  rcases z with z | z
  ·rw [z]; exact ji _
  ·rw [z]; exact jg ha'
 ·have hi:i < its.length:=by
   have z:=Array.getElem?_eq_some_iff.mp hv;simpa using z.1
  have hb':(ns.map V.int)[i]? = some (V.int (ns.getD i 0)):=by
   rw [zx,zq (by omega),jf,zq (by omega)];rfl
  obtain ⟨u,hu,ru⟩:=rv.get hb'
  have hv':its[i]? = some v:=by simpa using hv
  rw [hv'] at hu;cases hu;exact ru
 ·rw [zp] at hj
  have hj':j < ns.length:=by omega
  have hm:=hb ns[j] (jr hj')
  have ed:ns.getD j 0=ns[j]:=by rw [jf,zq hj']; rfl
  obtain ⟨_,l1,l2⟩:=pre (j+1) (by omega);unfold InLong;dsimp only;rw [ed]
  constructor <;> constructor <;> omega
 ·obtain ⟨e,_,_⟩:=pre ns.length (ze _);rw [List.take_length] at e;refine ⟨.int ns.sum,H,I.kept fun b o e=>hk b o (fun z=>?_) (zn _ e),⟨t',?_⟩,q⟩
  ·have z':b=s.heap.objs.size:=by simpa using z
   exact absurd (zf e) (by rw [z']; exact zN _)
  ·rw [zp,hl,e]
end
structure Blt (mg:Str→Option Value):Prop where
 len_:mg "len" = none
 isinstance_:mg "isinstance" = none
 all_:mg "all" = none
 sum_:mg "sum" = none
 max_:mg "max" = none
 min_:mg "min" = none
 int_:mg "int" = none
 str_:mg "str" = none
 bool_:mg "bool" = none
 list_:mg "list" = none
 tuple_:mg "tuple" = none
 dict_:mg "dict" = none
 range_:mg "range" = none
 enumerate_:mg "enumerate" = none
 zip_:mg "zip" = none
section
variable {X:Cx}
theorem QmX {x:Str}{v:V}{pos:Pos} (h:∃u,X.mg x=some u∧RelV v u) (hg:Gl X x:=by rfl) (hd:(x == ("__debug__":Str))=false:=by decide):PE X (.Name x pos) (tC v):=by
 obtain ⟨u,hm,r⟩:=h;exact QkA hg hm r hd
end
def Qc3 {α:Type} (l:List α) (lo hi:Option Int):List α:=(l.drop (HT.sIx l.length 0 lo)).take (HT.sIx l.length l.length hi - HT.sIx l.length 0 lo)
theorem QnV (l:List Nat) (lo hi:Option Int):Txt.slice (S l) lo hi=S (Qc3 l lo hi):=by
 obtain ⟨h1,h2,h3⟩:=Qif lo hi l.length
 have e:Builtin.Str.strSliceIndices lo hi 1 (S l).length=(List.range (HT.sIx l.length l.length hi - HT.sIx l.length 0 lo)).map (HT.sIx l.length 0 lo + ·):=by
  rw [Qbt];show sliceRange (sliceBounds lo hi none l.length).1 (sliceBounds lo hi none l.length).2.1 (sliceBounds lo hi none l.length).2.2=_;rw [h1,h2,h3,sliceRange_one]
 unfold Txt.slice;rw [e,pick_run,Qhz]
 split
 ·rename_i h
  have hl:HT.sIx l.length l.length hi - HT.sIx l.length 0 lo=l.length:=by simpa [Qbt] using h
  have hle:HT.sIx l.length l.length hi≤l.length:=HT.sIx_le _ _ (ze _) hi;have hlo:HT.sIx l.length 0 lo≤l.length:=HT.sIx_le _ _ (Nat.zero_le _) lo
  have h0:HT.sIx l.length 0 lo=0:=by omega
  have h1:HT.sIx l.length l.length hi=l.length:=by omega
  unfold Qc3;rw [h0,h1];simp
 ·rfl
section
variable {X:Cx}
def Qyd:V→Option Int→Option Int→Hp→VK→Prop:=fun x lo hi H Q=>∃l,x = .str (S l)∧l.length≤sizeLine∧Q (.str (S (Qc3 l lo hi))) H
theorem part_of {v:Value}{o:Option Int} (p:IsPart v o):∃q:Option (Int×Tok),v=partValue q∧q.map (·.1)=o:=by
 cases p with
 | none=>exact ⟨none,rfl,rfl⟩
 | int i t=>exact ⟨some (i,t),rfl,rfl⟩
theorem QwK:SlR X Qyd:=by
 intro pins s σ H x v vl vu lo hi sl Q I rx hs pl pu h;obtain ⟨l,rfl,hz,q⟩:=h;obtain ⟨t,rfl⟩:=rx;obtain ⟨ql,rfl,e1⟩:=part_of pl;obtain ⟨qu,rfl,e2⟩:=part_of pu;refine ⟨"str",_,F.slot_str_getitem.lookup,typeIs_str _ _ _,?_⟩;refine wpAny_getItem_str_slice (l:=ql) (u:=qu) (st:=none) hs rfl ?_;have key:(if ((1:Int) == 1&&(Builtin.Str.strSliceIndices lo hi 1 (S l).length).length == (S l).length)=true then S l else ⟨((Builtin.Str.strSliceIndices lo hi 1 (S l).length).filterMap ((S l).cps[·]?)).toArray⟩)=S (Qc3 l lo hi):=QnV l lo hi;unfold sliceMade slicePicked;rw [e1,e2];refine post_val_or_str ⟨?_,fun t' k=>?_⟩
 ·show (Txt.slice (S l) lo hi).length≤_;exact zC (Txt.slice_le _ _ _) (by rw [Qbt]; exact hz)
 ·have e3:=QnV l lo hi;unfold Txt.slice at e3;show EP X pins σ Q (.str (if ((1:Int) == 1&&(Builtin.Str.strSliceIndices lo hi 1 (S l).length).length == (S l).length)=true then S l else ⟨((Builtin.Str.strSliceIndices lo hi 1 (S l).length).filterMap ((S l).cps[·]?)).toArray⟩) t') { s with toks:=k };rw [e3];exact ⟨.str _,H,I.tok k,⟨t',rfl⟩,q⟩
end
namespace HT2
theorem getItem_tuple_whole {prog:Program}{w:World}{A:Around}{E:Value→Shared→Prop}{s:Shared}{t sl:Addr}{items:Array Value}{vl vu:Value}{lo hi:Option Int}{Q:Value→Shared→Prop} (ht:IsTup s.heap t items) (hs:s.heap.IsSliceOf sl vl vu .none) (pl:IsPart vl lo) (pu:IsPart vu hi)
  (hw:HT.sIx items.size 0 lo=0∧HT.sIx items.size items.size hi=items.size) (h:Q (.ref t) s):wpAny (model prog w) A (getItem (.ref t) (.ref sl)) Q E s:=by
 obtain ⟨os,hos,hcs,hds⟩:=id hs;have hTs:s.TypeIs (.ref sl) "slice":=⟨os,hos,hcs⟩;unfold getItem
 try with_reducible refine zH ?_
 first | refine za (zb ?_) | skip
 refine za (wpAny_sequenceKey ht.typeIs (by decide) ?_)
 refine za (wpAny_callSpecial?_slot (name:=Str.ofString "__getitem__") ht.typeIs PyProof.Rows.slot_tuple_getitem
  (wpAny_call_entry PyProof.Rows.slot_tuple_getitem ht.typeIs entry_tuple_getitem ?_ (args_tuple_getitem _ _)))
 show wpAny _ _ (Builtin.Tuple.tupleItemsOf (.ref t) >>= _) _ _ s;refine za (tupleItemsOf_ ht ?_);refine za (wpAny_typeOf hTs ?_);rw [if_pos (by decide)];refine za (HT.sliceApplied_gen hs pl pu ?_)
 have hyes:(((HT.sIx items.size 0 lo:Nat):Int) == 0&&(1:Int) == 1&&(HT.sIx items.size items.size hi - HT.sIx items.size 0 lo) == items.size)=true:=by
  rw [hw.1,hw.2];simp
 show wpAny _ _ (if (((HT.sIx items.size 0 lo:Nat):Int) == 0&&(1:Int) == 1&&(HT.sIx items.size items.size hi - HT.sIx items.size 0 lo) == items.size)=true then _ else _) _ _ s;rw [if_pos hyes]
 have hex:∀{A':Around}{E':Value→Shared→Prop}{Q':Bool→Shared→Prop},Q' true s→wpAny (model prog w) A' (Builtin.Tuple.tupleIsExact (.ref t)) Q' E' s:=fun {A' E' Q'} hq=>by
  unfold Builtin.Tuple.tupleIsExact;exact za (wpAny_typeOf ht.typeIs (zb hq))
 refine za (hex ?_);rw [if_pos rfl];exact za (zY (zb ⟨_,rfl,zb h⟩))
end HT2
section
variable {X:Cx}
def Qxj (K:PySem.W.Frag):V→Option Int→Option Int→Hp→VK→Prop:=fun x lo hi H Q=>∃a xs,x = .ref a∧SqT K H a xs ∧
 ((HT.sIx xs.length 0 lo=0∧HT.sIx xs.length xs.length hi=xs.length)→Q (.ref a) H)∧(¬(HT.sIx xs.length 0 lo=0∧HT.sIx xs.length xs.length hi=xs.length)→∀p,H p=none→Q (.ref p) (upd H p (.tup (Qhr xs lo hi))))
theorem QtE (K:PySem.W.Frag) (hK:X.K=K:=by rfl):SlR X (Qxj K):=by
 subst hK;intro pins s σ H x v vl vu lo hi sl Q I rx hs pl pu h;obtain ⟨a,xs,rfl,hx,q1,q2⟩:=h
 by_cases hw:HT.sIx xs.length 0 lo=0∧HT.sIx xs.length xs.length hi=xs.length
 ·cases rx;obtain ⟨its,r,ht,hz⟩:=I.tuple hx
  have hlen:its.toArray.size=xs.length:=by rw [zp]; exact r.length.symm
  exact ⟨"tuple",_,PyProof.Rows.slot_tuple_getitem.lookup,ht.typeIs,HT2.getItem_tuple_whole ht hs pl pu (by rw [hlen]; exact hw) ⟨.ref a,H,I,rfl,q1 hw⟩⟩
 ·exact QwD pins s σ H _ v vl vu lo hi sl Q I rx hs pl pu ⟨a,xs,rfl,hx,hw,q2 hw⟩
inductive TyQ (K:PySem.W.Frag) (H:Hp):V→String→Prop where
 | non:TyQ K H .non "NoneType"
 | bl (x:Bool):TyQ K H (.bl x) "bool"
 | int (i:Int):TyQ K H (.int i) "int"
 | str (x:Str):TyQ K H (.str x) "str"
 | lst {a:Addr}{xs:List V} (e:SqL K H a xs):TyQ K H (.ref a) "list"
 | tup {a:Addr}{xs:List V} (e:SqT K H a xs):TyQ K H (.ref a) "tuple"
 | dK {a:Addr}{kvs:List (Key×V)} (e:H a=some (.dK kvs)):TyQ K H (.ref a) "dict"
def QyS (K:PySem.W.Frag):List V→Hp→VK→Prop:=fun xs H Q=>∃x n t b,xs = [x,.ty n]∧TyQ K H x t∧PySem.W.kitOne K (.type t) (.type n)=some b∧Q (.bl b) H
theorem Qqy (K:PySem.W.Frag) (hK:X.K=K:=by rfl):Qeq X (.builtin "isinstance") (QyS K):=by
 subst hK;intro pins s σ H xs us Q I r h;obtain ⟨x,n,t,b,rfl,ty,e,q⟩:=h;obtain ⟨u,c,rfl,r1,r2⟩:=vals2 r;cases (show c = .type n from r2)
 have fin:∀tk,EP X pins σ Q (.bool b) { s with toks:=tk }:=fun tk=>⟨.bl b,H,I.tok tk,rfl,q⟩
 cases ty with
 | non=>exact QeU I r1 .non e fin
 | bl y=>exact QeU I r1 (.bl y) e fin
 | int i=>exact QeU I r1 (.int i) e fin
 | str y=>exact QeU I r1 (.str y) e fin
 | @lst a xs ea =>
  cases (show u=Value.ref a from r1);obtain ⟨its,_,p,_⟩:=I.list ea;obtain ⟨o,ho,hc,_⟩:=p.isList;exact PySem.W.kia_one PySem.W.kitx_list I.kIn ⟨o,ho,hc⟩ e (fun z=>nomatch z) fin
 | @tup a xs ea =>
  cases (show u=Value.ref a from r1);obtain ⟨its,_,p,_⟩:=I.tuple ea;obtain ⟨o,ho,hc,_⟩:=p;exact PySem.W.kia_one PySem.W.kitx_tuple I.kIn ⟨o,ho,hc⟩ e (fun z=>nomatch z) fin
 | @dK a kvs ea=>exact QeU I r1 (.dK ea) e fin
theorem QrO (K:PySem.W.Frag) (n:String):PySem.W.kitOne K (.type n) (.type n)=some true:=by
 unfold PySem.W.kitOne;rw [if_pos (beq_self_eq_true _)]
end
theorem Qnv:∀{ds:List PyData},(∀d∈ds,d.canLay0=true)→PyData.canLayAll0 ds=true
 | [],_=>rfl
 | d::ds,h=>by rw [PyData.canLayAll0,h d zu,Qnv fun x hx=>h x (zv _ hx)]; rfl
theorem QmZ {n:Nat}:∀{ds:List PyData},(∀d∈ds,d.depth≤n)→PyData.depthAll ds≤n
 | [],_=>by rw [PyData.depthAll]; exact Nat.zero_le _
 | d::ds,h=>by
  rw [PyData.depthAll];exact Nat.max_le.mpr ⟨h d zu,QmZ fun x hx=>h x (zv _ hx)⟩
theorem Qt4 {n:Nat} (hn:n < 60) {ds:List PyData} (h:∀d∈ds,d.canLay0=true∧d.depth≤n):okD (.list ds)=true:=by
 unfold okD;rw [zm];refine ⟨?_,zo ?_⟩
 ·show PyData.canLayAll0 ds=true
  exact Qnv fun d hd=>(h d hd).1
 ·show PyData.depthAll ds+1≤60
  have:=QmZ fun d hd=>(h d hd).2
  omega
section
variable {X:Cx}
theorem QjK:∀{ls:List (List Nat)}{us:List Value},Qay (ls.map fun l=>V.str (S l)) us→StrsAre us (ls.map S)
 | [],us,r=>by rw [zQ] at r; cases r; exact .nil
 | l::ls,us,r=>by
  rw [zc] at r
  cases r with
  | cons r1 r2 =>
   obtain ⟨t,e⟩:=r1;subst e;exact .cons _ t (QjK r2)
theorem QpW:∀(ls:List (List Nat)) (a:Array Nat),(ls.map S).foldl (fun acc p=>acc++(S []).cps++p.cps) a=a++ls.flatten.toArray
 | [],a=>by simp
 | l::ls,a=>by
  rw [zc,List.foldl_cons,QpW ls];simp [S]
theorem Qwe (ls:List (List Nat)):Txt.join (S []) (ls.map S)=S ls.flatten:=by
 show Builtin.Str.glued (S []) (ls.map S)=_;unfold Builtin.Str.glued
 cases ls with
 | nil=>rfl
 | cons l ls =>
  show Str.mk ((ls.map S).foldl (fun acc p=>acc++(S []).cps++p.cps) (S l).cps)=_;rw [QpW];simp [S]
def rJoin (K:PySem.W.Frag):V→List V→Hp→VK→Prop:=fun x vs H Q=>∃(p:Addr) (ls:List (List Nat)),x = .str (S [])∧vs = [.ref p]∧SqL K H p (ls.map fun l=>V.str (S l))∧(ls.map List.length).sum≤1000000∧Q (.str (S ls.flatten)) H
theorem QrW (K:PySem.W.Frag) (hK:X.K=K:=by rfl):MtR X "str.join" (rJoin K):=by
 subst hK;intro pins s σ H x xs v us Q I rx rs h;obtain ⟨p,ls,rfl,rfl,hq,hz,q⟩:=h;obtain ⟨t,rfl⟩:=rx;obtain ⟨u,rfl,ru⟩:=vals1 rs;cases ru;obtain ⟨its,rv,pl,_⟩:=I.list hq
 refine join_list pl.isList (ys:=ls.map S) (by simpa using QjK rv) ?_ fun t' k=>⟨.str (S ls.flatten),H,I.tok k,⟨t',?_⟩,q⟩
 ·have e:((ls.map S).map (·.length)).sum=(ls.map List.length).sum:=by
   rw [zR];exact congrArg List.sum (jn fun l _=>Qbt l)
  rw [e,Qbt];simp only [zV,Nat.mul_zero];omega
 ·rw [Qwe]
def Qxy:R2:=fun x y H Q=>∃(l:List Nat) (n:Int),x = .str (S l)∧y = .int n∧-1000000 < n∧n < 1000000∧l.length * n.toNat≤16777216∧Q (.str (S (List.replicate n.toNat l).flatten)) H
theorem QsN (l:List Nat):∀(n:Nat) (a:Array Nat),(List.replicate n (S l).cps).foldl (· ++ ·) a=a++(List.replicate n l).flatten.toArray
 | 0,a=>by simp
 | n+1,a=>by
  rw [List.replicate_succ,List.foldl_cons,QsN l n,List.replicate_succ,List.flatten_cons];simp [S]
theorem Qoz:OpR X (binaryOp .Mult) Qxy:=by
 intro pins s σ H x y v u Q I rx ry h;obtain ⟨l,n,rfl,rfl,h1,h2,h3,q⟩:=h;obtain ⟨t,rfl⟩:=rx;obtain ⟨t',rfl⟩:=ry;have hs:sizeLine=16777216:=sizeLine_eq
 by_cases hn:n < 1
 ·have e0:n.toNat=0:=by omega
  rw [e0] at q;exact P.mul_str_none hn (by omega) ⟨.str (S []),H,I.tok _,⟨s.toks,rfl⟩,q⟩
 refine P.mul_str ?_ (fun _ _=>?_) (fun _ _=>?_) ?_
 ·rw [zj (by omega),zj (by omega)];rfl
 ·rw [Qbt];intro hz
  have h4:(l.length:Int) * n≤16777216:=by
   have:((l.length * n.toNat:Nat):Int)≤16777216:=by omega
   rw [Int.natCast_mul,Int.toNat_of_nonneg (by omega)] at this;exact this
  have h5:(2 ^ 63 - 1) / n < (l.length:Int):=hz;have h6:=(Int.ediv_lt_iff_lt_mul (show 0 < n by omega)).mp h5;omega
 ·rw [Qbt];unfold Builtin.Str.tooLong;exact zj (by omega)
 ·rw [if_neg (by omega)]
  by_cases hl:(n == 1 || (S l).length == 0)=true
  ·rw [if_pos hl]
   have e:(List.replicate n.toNat l).flatten=l:=by
    rw [Bool.or_eq_true,beq_iff_eq,beq_iff_eq,Qbt] at hl
    rcases hl with z | z
    ·rw [z];show (List.replicate 1 l).flatten=l;simp
    ·have z':=List.eq_nil_of_length_eq_zero z;subst z';rw [List.flatten_eq_nil_iff];intro x hx;exact (List.mem_replicate.mp hx).2
   rw [e] at q;exact ⟨.str (S l),H,I,⟨t,rfl⟩,q⟩
  ·rw [if_neg hl,QsN];refine ⟨?_,.str (S (List.replicate n.toNat l).flatten),H,I.tok _,⟨s.toks,?_⟩,q⟩
   ·show (#[]++(List.replicate n.toNat l).flatten.toArray).size≤sizeLine;simp only [Array.size_append,zp,List.length_flatten,List.map_replicate,List.sum_replicate_nat];simp;rw [Nat.mul_comm];omega
   ·congr 1;simp [S]
end
inductive D where
 | non | bl (b:Bool) | int (i:Int) | str (l:List Nat) | lst (ds:List D) | tup (ds:List D) | dic (ks vs:List D) | ob (n:Nat)
inductive Ob where
 | ins (c:Str) (fs:List (Str×D))
 | ml (ds:List D)
 | dt (kvs:List (List Key×D))
 | df (kvs:List (List Key×D))
 | dk (kvs:List (Key×D))
abbrev Qac:=List Ob
abbrev Qak:=List (Option D)
structure Xc where
 cls:Str
 fs:List (Str×D)
inductive Res (α:Type) where
 | ok (a:α) (O:Qac) | ex (x:Xc) (O:Qac) | no
inductive Fl where
 | nx (ρ:Qak) (O:Qac) | rt (d:D) (O:Qac) | bk (ρ:Qak) (O:Qac) | ct (ρ:Qak) (O:Qac) | ex (x:Xc) (O:Qac) | no
abbrev M (α:Type):=Qak→Qac→Res α
abbrev MS:=Qak→Qac→Fl
def Res.bind {α β:Type} (r:Res α) (f:α→Qac→Res β):Res β:=match r with
 | .ok a O=>f a O
 | .ex x O=>.ex x O
 | .no=>.no
theorem Res.bind_ok {α β:Type}{r:Res α}{f:α→Qac→Res β}{b:β}{O':Qac} (h:r.bind f = .ok b O'):∃a O,r = .ok a O∧f a O = .ok b O':=by
 cases r with
 | ok a O=>exact ⟨a,O,rfl,h⟩
 | ex x O=>cases h
 | no=>cases h
def Qix:Expr→Bool
 | .Starred _ _=>false
 | _=>true
theorem Qa0 {e:Expr}{es:List Expr}{env:Env} (h:Qix e=true):starEach (e::es) env=(false,eval e env)::starEach es env:=by
 cases e <;> first | rfl | cases h
theorem Qbd {pos:Pos}{env:Env}:∀{es:List Expr},es.all Qix=true→(backTo pos (starEach es env)).any (·.1)=false
 | [],_=>by simp [starEach,backTo]
 | e::es,h=>by
  rw [List.all_cons,zm] at h;rw [Qa0 h.1];show (false || (backTo pos (starEach es env)).any (·.1))=false;rw [Qbd h.2];rfl
theorem Qj4 {e:Expr}{env:Env} (h:Qix e=true):starEach [e] env = [(false,eval e env)]:=by rw [Qa0 h]; simp [starEach]
theorem QxB {e f:Expr}{env:Env} (h:Qix e=true) (h':Qix f=true):starEach [e,f] env = [(false,eval e env),(false,eval f env)]:=by rw [Qa0 h,Qj4 h']
abbrev Frag:=PySem.W.Frag
def QkC:Key→D
 | .inl i=>.int i
 | .inr x=>.str x.cps.toList
def RdK (K:Frag) (H:Hp) (a:Addr) (xs:List V):Prop:=Rd H a (.lst xs)∨∃(its:List Value) (n:Nat),K.lookup a=some { cls:=.type "list",data:=.seq its.toArray n }∧its.length≤sizeLine∧Qay xs its
theorem RdK.sq {K:Frag}{H:Hp}{a:Addr}{xs:List V} (h:RdK K H a xs):SqL K H a xs:=by
 rcases h with h | ⟨its,n,h1,h2,h3⟩
 ·exact .inl h
 ·exact .inr ⟨_,its.toArray,n,h1,rfl,rfl,rfl,by simpa using h2,by simpa using h3⟩
theorem RdK.ok {X:Cx}{pins:List (Addr×Obj)}{σ:St}{H:Hp}{s:Shared}{a:Addr}{xs:List V} (h:RdK X.K H a xs) (I:Inv X pins σ H s):xs.length≤sizeLine∧∃(its:List Value) (n:Nat),Qay xs its∧s.heap.get? a=some { cls:=.type "list",data:=.seq its.toArray n }:=by
 rcases h with h | ⟨its,n,h1,h2,h3⟩
 ·exact h.ok I.hok
 ·exact ⟨by rw [h3.length]; exact h2,its,n,h3,I.kIn a _ h1⟩
def TqT (K:Frag) (F:Hp) (a:Addr) (xs:List V):Prop :=
 F a=some (.tup xs)∨∃(o:Obj) (its:Array Value) (n:Nat),K.lookup a=some o∧o.cls = .type "tuple"∧o.data = .seq its n∧its.size≤sizeLine∧Qay xs its.toList
theorem TqT.sq {K:Frag}{F:Hp}{a:Addr}{xs:List V} (h:TqT K F a xs):SqT K F a xs:=h.imp .inl id
mutual
def Rp (K:Frag) (F:Hp) (as:List Addr):V→D→Prop
 | v,.non=>v = .non
 | v,.bl b=>v = .bl b
 | v,.int i=>v = .int i
 | v,.str l=>v = .str (S l)
 | v,.lst ds=>∃a xs,v = .ref a∧RdK K F a xs∧Rps K F as xs ds
 | v,.tup ds=>∃a xs,v = .ref a∧TqT K F a xs∧Rps K F as xs ds
 | v,.dic ks vs=>∃(a:Addr) (kvs:List (Key×V)),v = .ref a∧F a=some (.dK kvs)∧ks=kvs.map (fun p=>QkC p.1)∧Rps K F as (kvs.map (·.2)) vs
 | v,.ob n=>∃a,v = .ref a∧as[n]? = some a
def Rps (K:Frag) (F:Hp) (as:List Addr):List V→List D→Prop
 | xs,[]=>xs = []
 | xs,d::ds=>∃x r,xs=x::r∧Rp K F as x d∧Rps K F as r ds
end
section
variable {K:Frag}{F F':Hp}{as as':List Addr}
theorem Rd.mono {H H':Hp}{a:Addr}{u:HO} (e:Same H H') (h:Rd H a u):Rd H' a u:=by
 rcases h with h | ⟨o,h⟩
 ·exact .inl (e _ _ h)
 ·exact .inr ⟨o,e _ _ h⟩
theorem RdK.mono {H H':Hp}{a:Addr}{xs:List V} (e:Same H H') (h:RdK K H a xs):RdK K H' a xs:=h.imp (fun z=>z.mono e) id
mutual
theorem Rp.mono (e:Same F F') (ea:∀(n:Nat) (a:Addr),as[n]? = some a→as'[n]? = some a):∀(d:D) {v:V},Rp K F as v d→Rp K F' as' v d
 | .non,v,h=>by rw [Rp] at h ⊢; exact h
 | .bl b,v,h=>by rw [Rp] at h ⊢; exact h
 | .int i,v,h=>by rw [Rp] at h ⊢; exact h
 | .str x,v,h=>by rw [Rp] at h ⊢; exact h
 | .lst ds,v,h=>by
  rw [Rp] at h ⊢;obtain ⟨a,xs,h1,h2,h3⟩:=h;exact ⟨a,xs,h1,h2.mono e,Rps.mono e ea ds h3⟩
 | .tup ds,v,h=>by
  rw [Rp] at h ⊢;obtain ⟨a,xs,h1,h2,h3⟩:=h;exact ⟨a,xs,h1,h2.imp (e _ _) id,Rps.mono e ea ds h3⟩
 | .dic ks vs,v,h=>by
  rw [Rp] at h ⊢;obtain ⟨a,kvs,h1,h2,h3,h4⟩:=h;exact ⟨a,kvs,h1,e _ _ h2,h3,Rps.mono e ea vs h4⟩
 | .ob n,v,h=>by
  rw [Rp] at h ⊢;obtain ⟨a,h1,h2⟩:=h;exact ⟨a,h1,ea _ _ h2⟩
theorem Rps.mono (e:Same F F') (ea:∀(n:Nat) (a:Addr),as[n]? = some a→as'[n]? = some a):∀(ds:List D) {xs:List V},Rps K F as xs ds→Rps K F' as' xs ds
 | [],xs,h=>by rw [Rps] at h ⊢; exact h
 | d::ds,xs,h=>by
  rw [Rps] at h ⊢;obtain ⟨x,r,h1,h2,h3⟩:=h;exact ⟨x,r,h1,Rp.mono e ea d h2,Rps.mono e ea ds h3⟩
end
theorem Rp.non:Rp K F as .non .non:=by rw [Rp]
theorem Rp.bl {b:Bool}:Rp K F as (.bl b) (.bl b):=by rw [Rp]
theorem Rp.int {i:Int}:Rp K F as (.int i) (.int i):=by rw [Rp]
theorem Rp.str {l:List Nat}:Rp K F as (.str (S l)) (.str l):=by rw [Rp]
theorem Rp.unN {v:V} (h:Rp K F as v .non):v = .non:=by rw [Rp] at h; exact h
theorem Rp.unB {v:V}{b:Bool} (h:Rp K F as v (.bl b)):v = .bl b:=by rw [Rp] at h; exact h
theorem Rp.unI {v:V}{i:Int} (h:Rp K F as v (.int i)):v = .int i:=by rw [Rp] at h; exact h
theorem Rp.unS {v:V}{l:List Nat} (h:Rp K F as v (.str l)):v = .str (S l):=by rw [Rp] at h; exact h
theorem Rp.unL {v:V}{ds:List D} (h:Rp K F as v (.lst ds)):∃a xs,v = .ref a∧RdK K F a xs∧Rps K F as xs ds:=by rw [Rp] at h; exact h
theorem Rp.unT' {v:V}{ds:List D} (h:Rp K F as v (.tup ds)):∃a xs,v = .ref a∧TqT K F a xs∧Rps K F as xs ds:=by rw [Rp] at h; exact h
theorem Rp.unT {v:V}{ds:List D} (h:Rp K F as v (.tup ds)):∃a xs,v = .ref a∧SqT K F a xs∧Rps K F as xs ds:=let ⟨a,xs,e,h1,h2⟩:=h.unT'; ⟨a,xs,e,h1.sq,h2⟩
theorem Rp.unO {v:V}{n:Nat} (h:Rp K F as v (.ob n)):∃a,v = .ref a∧as[n]? = some a:=by rw [Rp] at h; exact h
theorem Rp.unD {v:V}{ks vs:List D} (h:Rp K F as v (.dic ks vs)):∃(a:Addr) (kvs:List (Key×V)),v = .ref a∧F a=some (.dK kvs)∧ks=kvs.map (fun p=>QkC p.1)∧Rps K F as (kvs.map (·.2)) vs:=by rw [Rp] at h; exact h
theorem Rp.mkL {a:Addr}{xs:List V}{ds:List D} (h:RdK K F a xs) (hs:Rps K F as xs ds):Rp K F as (.ref a) (.lst ds):=by rw [Rp]; exact ⟨a,xs,rfl,h,hs⟩
theorem Rp.mkT {a:Addr}{xs:List V}{ds:List D} (h:TqT K F a xs) (hs:Rps K F as xs ds):Rp K F as (.ref a) (.tup ds):=by rw [Rp]; exact ⟨a,xs,rfl,h,hs⟩
theorem Rp.mkO {a:Addr}{n:Nat} (h:as[n]? = some a):Rp K F as (.ref a) (.ob n):=by rw [Rp]; exact ⟨a,rfl,h⟩
theorem Rps.nil:Rps K F as [] []:=by rw [Rps]
theorem Rps.cons {x:V}{xs:List V}{d:D}{ds:List D} (h:Rp K F as x d) (hs:Rps K F as xs ds):Rps K F as (x::xs) (d::ds):=by
 rw [Rps]; exact ⟨x,xs,rfl,h,hs⟩
theorem Rps.un {xs:List V}{d:D}{ds:List D} (h:Rps K F as xs (d::ds)):∃x r,xs=x::r∧Rp K F as x d∧Rps K F as r ds:=by rw [Rps] at h; exact h
theorem Rps.un0 {xs:List V} (h:Rps K F as xs []):xs = []:=by rw [Rps] at h; exact h
theorem Rps.length:∀{ds:List D}{xs:List V},Rps K F as xs ds→xs.length=ds.length
 | [],xs,h=>by rw [h.un0]; rfl
 | d::ds,xs,h=>by
  obtain ⟨x,r,rfl,_,h3⟩:=h.un;simp [Rps.length h3]
theorem Rps.get:∀{ds:List D}{xs:List V}{i:Nat}{x:V},Rps K F as xs ds→xs[i]? = some x→∃d,ds[i]? = some d∧Rp K F as x d
 | [],xs,i,x,h,e=>by rw [h.un0] at e; simp at e
 | d::ds,xs,i,x,h,e=>by
  obtain ⟨y,r,rfl,h2,h3⟩:=h.un
  cases i with
  | zero=>simp at e; subst e; exact ⟨d,rfl,h2⟩
  | succ i =>
   obtain ⟨d',e',q⟩:=Rps.get (i:=i) (x:=x) h3 (by simpa using e);exact ⟨d',by simpa using e',q⟩
theorem Rps.get':∀{ds:List D}{xs:List V}{i:Nat}{d:D},Rps K F as xs ds→ds[i]? = some d→∃x,xs[i]? = some x∧Rp K F as x d:=by
 intro ds xs i d h e;have hl:=h.length
 have hi:i < xs.length:=by rw [hl]; exact (zk.mp e).1
 obtain ⟨d',e',q⟩:=h.get (zq hi);rw [e] at e'; cases e';exact ⟨_,zq hi,q⟩
theorem Rps.append {ys:List V}{es:List D} (hy:Rps K F as ys es):∀{ds:List D}{xs:List V},Rps K F as xs ds→Rps K F as (xs++ys) (ds++es)
 | [],xs,h=>by rw [h.un0]; exact hy
 | e::ds,xs,h=>by
  obtain ⟨y,r,rfl,h2,h3⟩:=h.un;exact Rps.cons h2 (Rps.append hy h3)
theorem Rps.snoc {x:V}{d:D}{ds:List D}{xs:List V} (h:Rps K F as xs ds) (hx:Rp K F as x d):Rps K F as (xs ++ [x]) (ds ++ [d]):=Rps.append (Rps.cons hx Rps.nil) h
theorem Rps.take:∀{ds:List D}{xs:List V} (n:Nat),Rps K F as xs ds→Rps K F as (xs.take n) (ds.take n)
 | _,_,0,_=>by simpa using Rps.nil
 | [],xs,n+1,h=>by rw [h.un0]; simpa using Rps.nil
 | d::ds,xs,n+1,h=>by
  obtain ⟨y,r,rfl,h2,h3⟩:=h.un;exact Rps.cons h2 (Rps.take n h3)
theorem Rps.drop:∀{ds:List D}{xs:List V} (n:Nat),Rps K F as xs ds→Rps K F as (xs.drop n) (ds.drop n)
 | _,_,0,h=>by simpa using h
 | [],xs,n+1,h=>by rw [h.un0]; simpa using Rps.nil
 | d::ds,xs,n+1,h=>by
  obtain ⟨y,r,rfl,h2,h3⟩:=h.un;exact Rps.drop n h3
theorem Rps.set:∀{ds:List D}{xs:List V}{x:V}{d:D} (n:Nat),Rps K F as xs ds→Rp K F as x d→Rps K F as (xs.set n x) (ds.set n d)
 | [],xs,x,d,n,h,_=>by rw [h.un0]; simpa using Rps.nil
 | e::ds,xs,x,d,0,h,hx=>by
  obtain ⟨y,r,rfl,h2,h3⟩:=h.un;exact Rps.cons hx h3
 | e::ds,xs,x,d,n+1,h,hx=>by
  obtain ⟨y,r,rfl,h2,h3⟩:=h.un;exact Rps.cons h2 (Rps.set n h3 hx)
theorem Rps.rep {ds:List D}{xs:List V} (h:Rps K F as xs ds):∀n:Nat,Rps K F as (List.replicate n xs).flatten (List.replicate n ds).flatten
 | 0=>by simpa using Rps.nil
 | n+1=>by
  rw [List.replicate_succ,List.replicate_succ,List.flatten_cons,List.flatten_cons];exact Rps.append (Rps.rep h n) h
theorem Rps.dropLast {ds:List D}{xs:List V} (h:Rps K F as xs ds):Rps K F as xs.dropLast ds.dropLast:=by
 rw [List.dropLast_eq_take,List.dropLast_eq_take,h.length];exact h.take _
end
def isD:HO→Bool
 | .ins _ _ _=>false
 | .own _=>false
 | .xd _=>false
 | _=>true
def isL:HO→Bool
 | .lst _=>true
 | .dK _=>true
 | _=>false
theorem Qs6 {o:HO} (h:isL o=true):isD o=true:=by
 cases o <;> first | rfl | cases h
structure Gr (H F:Hp) (as:List Addr) (H' F':Hp) (as':List Addr):Prop where
 fz:∀a o,H a=some o→a∉as→isL o=true→F' a=F a
 ff:Same F F'
 nw:∃new,as'=as++new∧∀a∈new,H a=none
 fr:∀a o,H a=some o→a∉as→isD o=true→H' a=some o
 dm:∀a,H' a=none→H a=none
 kz:∀a o u,H a=some (.frz o u)→H' a=some (.frz o u)
structure Pt where
 p:Addr→Prop
 ss:List (Nat×V×D)
instance:CoeFun Pt (fun _=>Addr→Prop):=⟨Pt.p⟩
def Pt.all (H:Hp):Pt:=⟨fun a=>H a≠none,[]⟩
structure GrS (P:Pt) (H F:Hp) (as:List Addr) (H' F':Hp) (as':List Addr):Prop where
 fz:∀a o,P a→H a=some o→a∉as→isL o=true→F' a=F a
 ff:Same F F'
 nw:∃new,as'=as++new∧∀a∈new,H a=none
 fr:∀a o,P a→H a=some o→a∉as→isD o=true→H' a=some o
 dm:∀a,H' a=none→H a=none
 kz:∀a o u,H a=some (.frz o u)→H' a=some (.frz o u)
section
variable {H F H' F' H2 F2:Hp}{as as' as2:List Addr}{P:Pt}
theorem Gr.refl:Gr H F as H F as:=⟨fun _ _ _ _ _=>rfl,Same.refl F,⟨[],by simp,fun _ h=>nomatch h⟩,fun _ _ h _ _=>h,fun _ h=>h,fun _ _ _ h=>h⟩
theorem Gr.trans (a:Gr H F as H' F' as') (b:Gr H' F' as' H2 F2 as2):Gr H F as H2 F2 as2:=by
 obtain ⟨n1,e1,h1⟩:=a.nw;obtain ⟨n2,e2,h2⟩:=b.nw;refine ⟨fun c o hc hn hd=>?_,a.ff.trans b.ff,⟨n1++n2,by rw [e2,e1,jk],fun c hc=>?_⟩,fun c o e hn hd=>?_,fun c h=>a.dm c (b.dm c h),fun c o u h=>b.kz c o u (a.kz c o u h)⟩
 ·have q:=a.fr c o hc hn (Qs6 hd);refine (b.fz c o q ?_ hd).trans (a.fz c o hc hn hd);rw [e1];intro z
  rcases zD.mp z with z | z
  ·exact hn z
  ·rw [h1 c z] at hc; cases hc
 ·rcases zD.mp hc with z | z
  ·exact h1 c z
  ·exact a.dm c (h2 c z)
 ·have q:=a.fr c o e hn hd;refine b.fr c o q ?_ hd;rw [e1];intro z
  rcases zD.mp z with z | z
  ·exact hn z
  ·rw [h1 c z] at e; cases e
theorem Gr.toS (a:Gr H F as H' F' as'):GrS P H F as H' F' as':=⟨fun c o _=>a.fz c o,a.ff,a.nw,fun c o _ e hn hd=>a.fr c o e hn hd,a.dm,a.kz⟩
theorem GrS.refl:GrS P H F as H F as:=Gr.refl.toS
theorem GrS.trans (a:GrS P H F as H' F' as') (b:GrS P H' F' as' H2 F2 as2):GrS P H F as H2 F2 as2:=by
 obtain ⟨n1,e1,h1⟩:=a.nw;obtain ⟨n2,e2,h2⟩:=b.nw;refine ⟨fun c o p hc hn hd=>?_,a.ff.trans b.ff,⟨n1++n2,by rw [e2,e1,jk],fun c hc=>?_⟩,fun c o p e hn hd=>?_,fun c h=>a.dm c (b.dm c h),fun c o u h=>b.kz c o u (a.kz c o u h)⟩
 ·have q:=a.fr c o p hc hn (Qs6 hd);refine (b.fz c o p q ?_ hd).trans (a.fz c o p hc hn hd);rw [e1];intro z
  rcases zD.mp z with z | z
  ·exact hn z
  ·rw [h1 c z] at hc; cases hc
 ·rcases zD.mp hc with z | z
  ·exact h1 c z
  ·exact a.dm c (h2 c z)
 ·have q:=a.fr c o p e hn hd;refine b.fr c o p q ?_ hd;rw [e1];intro z
  rcases zD.mp z with z | z
  ·exact hn z
  ·rw [h1 c z] at e; cases e
theorem GrS.mono {P':Pt} (a:GrS P H F as H' F' as') (h:∀c,P' c→P c):GrS P' H F as H' F' as':=⟨fun c o p=>a.fz c o (h c p),a.ff,a.nw,fun c o p=>a.fr c o (h c p),a.dm,a.kz⟩
theorem GrS.gr (a:GrS (Pt.all H) H F as H' F' as'):Gr H F as H' F' as':=⟨fun c o e=>a.fz c o (show H c≠none by rw [e]; exact fun z=>nomatch z) e,a.ff,a.nw,fun c o e=>a.fr c o (show H c≠none by rw [e]; exact fun z=>nomatch z) e,a.dm,a.kz⟩
theorem Gr.at_ (a:Gr H F as H' F' as'):∀(n:Nat) (c:Addr),as[n]? = some c→as'[n]? = some c:=fun n c h=>by
 obtain ⟨new,e,_⟩:=a.nw;rw [e,zz (zk.mp h).1];exact h
theorem GrS.at_ (a:GrS P H F as H' F' as'):∀(n:Nat) (c:Addr),as[n]? = some c→as'[n]? = some c:=fun n c h=>by
 obtain ⟨new,e,_⟩:=a.nw;rw [e,zz (zk.mp h).1];exact h
theorem Gr.out (a:Gr H F as H' F' as') {c:Addr} (h:c∉as) (e:H c≠none):c∉as':=by
 obtain ⟨new,e1,h1⟩:=a.nw;rw [e1];intro z
 rcases zD.mp z with z | z
 ·exact h z
 ·exact e (h1 c z)
theorem GrS.out (a:GrS P H F as H' F' as') {c:Addr} (h:c∉as) (e:H c≠none):c∉as':=by
 obtain ⟨new,e1,h1⟩:=a.nw;rw [e1];intro z
 rcases zD.mp z with z | z
 ·exact h z
 ·exact e (h1 c z)
theorem Rp.gr {K:Frag}{v:V}{d:D} (h:Rp K F as v d) (a:Gr H F as H' F' as'):Rp K F' as' v d:=Rp.mono a.ff a.at_ d h
theorem Rps.gr {K:Frag}{v:List V}{d:List D} (h:Rps K F as v d) (a:Gr H F as H' F' as'):Rps K F' as' v d:=Rps.mono a.ff a.at_ d h
theorem Rp.grS {K:Frag}{v:V}{d:D} (h:Rp K F as v d) (a:GrS P H F as H' F' as'):Rp K F' as' v d:=Rp.mono a.ff a.at_ d h
theorem Rps.grS {K:Frag}{v:List V}{d:List D} (h:Rps K F as v d) (a:GrS P H F as H' F' as'):Rps K F' as' v d:=Rps.mono a.ff a.at_ d h
end
structure FsR (K:Frag) (F:Hp) (as:List Addr) (gs:List (Str×V)) (fs:List (Str×D)):Prop where
 nm:gs.map (·.1)=fs.map (·.1)
 vl:Rps K F as (gs.map (·.2)) (fs.map (·.2))
def ObR (K:Frag) (mg:Str→Option Value) (H F:Hp) (as:List Addr) (a:Addr):Ob→Prop
 | .ins c fs=>∃C dx gs,mg c=some (.ref C)∧H a=some (.ins C dx gs)∧FsR K F as gs fs
 | .ml ds=>∃xs,H a=some (.lst xs)∧Rps K F as xs ds
 | .dt kvs=>∃xs:List (List Key×V),H a=some (.dT xs)∧xs.map (·.1)=kvs.map (·.1)∧Rps K F as (xs.map (·.2)) (kvs.map (·.2))
 | .df kvs=>∃(o:Obj) (xs:List (List Key×V)),H a=some (.frz o (.dT xs))∧xs.map (·.1)=kvs.map (·.1)∧Rps K F as (xs.map (·.2)) (kvs.map (·.2))
 | .dk kvs=>∃xs:List (Key×V),H a=some (.dK xs)∧xs.map (·.1)=kvs.map (·.1)∧Rps K F as (xs.map (·.2)) (kvs.map (·.2))
structure RlO (K:Frag) (mg:Str→Option Value) (O:Qac) (H F:Hp) (as:List Addr):Prop where
 fh:Same F H
 fd:∀a o,F a=some o→isD o=true
 nd:as.Nodup
 len:as.length=O.length
 fa:∀a∈as,F a=none
 ob:∀(n:Nat) (a:Addr) (o:Ob),as[n]? = some a→O[n]? = some o→ObR K mg H F as a o
inductive Md where
 | v | s | o
 deriving DecidableEq
def QeC:D→Bool
 | .lst _=>false
 | _=>true
def Qea (P:Pt) (K:Frag) (H F:Hp) (as:List Addr):Md→V→D→Prop
 | .v,v,d=>Rp K F as v d
 | .s,v,d=>Rp K F as v d∨∃a xs ds,v = .ref a∧d = .lst ds∧H a=some (.lst xs)∧a∉as∧P a∧Rps K F as xs ds
 | .o,v,d=>(QeC d=true∧Rp K F as v d)∨∃a xs ds,v = .ref a∧d = .lst ds∧H a=some (.lst xs)∧F a=none∧a∉as∧¬P a∧Rps K F as xs ds
structure SlO (K:Frag) (md:List Md) (P:Pt) (ρ:Qak) (σ:St) (H F:Hp) (as:List Addr):Prop where
 len:σ.length=md.length
 len':ρ.length=md.length
 pd:∀a,P a→H a≠none
 sl:∀(i:Nat) (m:Md) (d:D),md[i]? = some m→ρ[i]? = some (some d)→∃v,σ[i]? = some (some v)∧Qea P K H F as m v d
 inj:∀(i j:Nat) (a:Addr) (ds es:List D),md[i]? = some .o→md[j]? = some .o→ρ[i]? = some (some (.lst ds))→ρ[j]? = some (some (.lst es))→σ[i]? = some (some (.ref a))→σ[j]? = some (some (.ref a))→i=j
 pin:∀x∈P.ss,md[x.1]? = some .s∧ρ[x.1]? = some (some x.2.2)∧σ[x.1]? = some (some x.2.1)
section
variable {K:Frag}{mg:Str→Option Value}{md:List Md}{P:Pt}{ρ:Qak}{σ:St}{H F H' F':Hp}{as as':List Addr}{O O':Qac}
theorem Qea.step {m:Md}{v:V}{d:D} (h:Qea P K H F as m v d) (g:Gr H F as H' F' as'):Qea P K H' F' as' m v d:=by
 cases m with
 | v=>exact Rp.gr (show Rp K F as v d from h) g
 | s =>
  rcases h with h | ⟨a,xs,ds,e1,e2,e3,e4,e5,e6⟩
  ·exact .inl (h.gr g)
  ·exact .inr ⟨a,xs,ds,e1,e2,g.fr _ _ e3 e4 rfl,g.out e4 (by rw [e3]; exact fun z=>nomatch z),e5,e6.gr g⟩
 | o =>
  rcases h with ⟨h1,h⟩ | ⟨a,xs,ds,e1,e2,e3,e0,e4,e5,e6⟩
  ·exact .inl ⟨h1,h.gr g⟩
  ·have hn:H a≠none:=by rw [e3]; exact fun z=>nomatch z
   exact .inr ⟨a,xs,ds,e1,e2,g.fr _ _ e3 e4 rfl,by rw [g.fz a _ e3 e4 rfl]; exact e0,g.out e4 hn,e5,e6.gr g⟩
theorem SlO.step (h:SlO K md P ρ σ H F as) (g:Gr H F as H' F' as'):SlO K md P ρ σ H' F' as' :=
 ⟨h.len,h.len',fun a p z=>h.pd a p (g.dm a z),fun i m d e1 e2=>let ⟨v,q,r⟩:=h.sl i m d e1 e2; ⟨v,q,r.step g⟩,h.inj,h.pin⟩
end
def Sv (K:Frag) (H F:Hp) (as:List Addr) (v:V) (d:D):Prop :=
 Rp K F as v d∨∃a xs ds,v = .ref a∧d = .lst ds∧H a=some (.lst xs)∧a∉as∧Rps K F as xs ds
def Lk (K:Frag) (H F:Hp) (as:List Addr) (v:V) (d:D):Prop :=
 Rp K F as v d∨∃a xs ds,v = .ref a∧d = .lst ds∧H a=some (.lst xs)∧Rps K F as xs ds
def Ow (K:Frag) (N:Addr→Prop) (H F:Hp) (as:List Addr) (v:V) (d:D):Prop :=
 (QeC d=true∧Rp K F as v d)∨∃a xs ds,v = .ref a∧d = .lst ds∧H a=some (.lst xs)∧F a=none∧a∉as∧N a∧Rps K F as xs ds
def QaI (O:Qac) (d:D):D:=match d with
 | .ob n=>match O[n]? with
  | some (.ml ds)=>.lst ds
  | _=>.ob n
 | d=>d
section
variable {K:Frag}{mg:Str→Option Value}{H0 H F H' F':Hp}{as as':List Addr}{O:Qac}{v:V}{d:D}
theorem Sv.gr (h:Sv K H F as v d) (g:Gr H F as H' F' as'):Sv K H' F' as' v d:=by
 rcases h with h | ⟨a,xs,ds,e1,e2,e3,e4,e5⟩
 ·exact .inl (h.gr g)
 ·exact .inr ⟨a,xs,ds,e1,e2,g.fr _ _ e3 e4 rfl,g.out e4 (by rw [e3]; exact fun z=>nomatch z),e5.gr g⟩
theorem Sv.lk (h:Sv K H F as v d) (r:RlO K mg O H F as):Lk K H F as v (QaI O d):=by
 rcases h with h | ⟨a,xs,ds,rfl,rfl,e3,e4,e5⟩
 ·cases d with
  | ob n =>
   obtain ⟨a,rfl,ha⟩:=h.unO;unfold QaI;dsimp only
   split
   ·rename_i ds e;obtain ⟨xs,e1,e2⟩:=r.ob n a _ ha e;exact .inr ⟨a,xs,ds,rfl,rfl,e1,e2⟩
   ·exact .inl (Rp.mkO ha)
  | _=>exact .inl h
 ·exact .inr ⟨a,xs,ds,rfl,rfl,e3,e5⟩
theorem Lk.list {ds:List D} (h:Lk K H F as v (.lst ds)) (fh:Same F H):∃a xs,v = .ref a∧RdK K H a xs∧Rps K F as xs ds:=by
 rcases h with h | ⟨a,xs,ds',e1,e2,e3,e4⟩
 ·obtain ⟨a,xs,e,h1,h2⟩:=h.unL;exact ⟨a,xs,e,h1.mono fh,h2⟩
 ·cases e2;exact ⟨a,xs,e1,.inl (.inl e3),e4⟩
theorem Lk.rp (h:Lk K H F as v d) (hn:QeC d=true):Rp K F as v d:=by
 rcases h with h | ⟨a,xs,ds',e1,rfl,e3,e4⟩
 ·exact h
 ·cases hn
theorem Sv.rp (h:Sv K H F as v d) (hn:QeC d=true):Rp K F as v d:=by
 rcases h with h | ⟨a,xs,ds',e1,rfl,e3,e4⟩
 ·exact h
 ·cases hn
theorem Ow.sv {N:Addr→Prop} (h:Ow K N H F as v d):Sv K H F as v d:=by
 rcases h with ⟨_,h⟩ | ⟨a,xs,ds,e1,e2,e3,e4,e5,e6,e7⟩
 ·exact .inl h
 ·exact .inr ⟨a,xs,ds,e1,e2,e3,e5,e7⟩
theorem Gr.lay {p:Addr}{o:HO} (hp:H p=none):Gr H F as (upd H p o) F as :=
 ⟨fun _ _ _ _ _=>rfl,Same.refl F,⟨[],by simp,fun _ h=>nomatch h⟩,fun a o' e _ _=>by rw [Qaq (QaC e hp)]; exact e,fun a e=>by
  by_cases h:a=p
  ·subst h; exact hp
  ·rwa [Qaq h] at e,fun a o' u e=>by rw [Qaq (QaC e hp)]; exact e⟩
theorem ObR.keep {a:Addr}{o:Ob} (h:ObR K mg H F as a o) (hH:H' a=H a) (e:Same F F') (ea:∀(n:Nat) (a:Addr),as[n]? = some a→as'[n]? = some a):ObR K mg H' F' as' a o:=by
 cases o with
 | ins c fs =>
  obtain ⟨C,dx,gs,h1,h2,h3,h4⟩:=h;exact ⟨C,dx,gs,h1,by rw [hH]; exact h2,h3,Rps.mono e ea _ h4⟩
 | ml ds =>
  obtain ⟨xs,h1,h2⟩:=h;exact ⟨xs,by rw [hH]; exact h1,Rps.mono e ea _ h2⟩
 | dt kvs =>
  obtain ⟨xs,h1,h2,h3⟩:=h;exact ⟨xs,by rw [hH]; exact h1,h2,Rps.mono e ea _ h3⟩
 | df kvs =>
  obtain ⟨o,xs,h1,h2,h3⟩:=h;exact ⟨o,xs,by rw [hH]; exact h1,h2,Rps.mono e ea _ h3⟩
 | dk kvs =>
  obtain ⟨xs,h1,h2,h3⟩:=h;exact ⟨xs,by rw [hH]; exact h1,h2,Rps.mono e ea _ h3⟩
theorem RlO.at {n:Nat}{a:Addr}{o:Ob} (r:RlO K mg O H F as) (ha:as[n]? = some a) (ho:O[n]? = some o):H a≠none:=by
 have q:=r.ob n a o ha ho
 cases o with
 | ins c fs=>obtain ⟨C,dx,gs,h1,h2,_⟩:=q; rw [h2]; exact fun z=>nomatch z
 | ml ds=>obtain ⟨xs,h1,_⟩:=q; rw [h1]; exact fun z=>nomatch z
 | dt kvs=>obtain ⟨xs,h1,_⟩:=q; rw [h1]; exact fun z=>nomatch z
 | df kvs=>obtain ⟨o,xs,h1,_⟩:=q; rw [h1]; exact fun z=>nomatch z
 | dk kvs=>obtain ⟨xs,h1,_⟩:=q; rw [h1]; exact fun z=>nomatch z
theorem RlO.all {a:Addr} (r:RlO K mg O H F as) (ha:a∈as):H a≠none:=by
 obtain ⟨n,hn,e⟩:=List.mem_iff_getElem.mp ha
 have hO:n < O.length:=by rw [←r.len]; exact hn
 exact r.at (n:=n) (by rw [zq hn,e]) (zq hO)
theorem RlO.lay {p:Addr}{o:HO} (r:RlO K mg O H F as) (hp:H p=none):RlO K mg O (upd H p o) F as:=by
 refine ⟨fun a u e=>?_,r.fd,r.nd,r.len,r.fa,fun n a u ha hu=>(r.ob n a u ha hu).keep (Qaq ?_) (Same.refl F) fun _ _ h=>h⟩
 ·have q:=r.fh a u e;rw [Qaq (QaC q hp)]; exact q
 ·intro z; subst z; exact r.at ha hu hp
theorem Gr.frz {p:Addr}{o:HO} (hp:H p=none) (g:Gr H F as H' F' as') (hf:F' p=none):Gr H F as H' (upd F' p o) as' :=
 ⟨fun a o' ha hn hd=>by rw [Qaq (fun z=>by subst z; rw [hp] at ha; cases ha)]; exact g.fz a o' ha hn hd,fun a u e=>by
  have q:=g.ff a u e
  rw [Qaq (QaC q hf)]; exact q,g.nw,g.fr,g.dm,g.kz⟩
theorem RlO.frz {p:Addr}{o:HO} (r:RlO K mg O H F as) (hp:H p=some o) (hf:F p=none) (ha:p∉as) (hd:isD o=true):RlO K mg O H (upd F p o) as:=by
 have ff:Same F (upd F p o):=fun a u e=>by rw [Qaq (QaC e hf)]; exact e
 refine ⟨fun a u e=>?_,fun a u e=>?_,r.nd,r.len,fun a h=>?_,fun n a u h1 h2=>(r.ob n a u h1 h2).keep rfl ff fun _ _ h=>h⟩
 ·by_cases h:a=p
  ·subst h; rw [QaE] at e; cases e; exact hp
  ·rw [Qaq h] at e; exact r.fh a u e
 ·by_cases h:a=p
  ·subst h; rw [QaE] at e; cases e; exact hd
  ·rw [Qaq h] at e; exact r.fd a u e
 ·rw [Qaq (fun z=>by subst z; exact ha h)]; exact r.fa a h
end
abbrev RR:=(Addr→Prop)→Hp→Hp→List Addr→V→D→Prop
def rV (K:Frag):RR:=fun _ _ F as v d=>Rp K F as v d
def rS (K:Frag):RR:=fun _ H F as v d=>Sv K H F as v d
def rO (K:Frag):RR:=fun N H F as v d=>Ow K N H F as v d
def rA (K:Frag):Md→RR
 | .v=>rV K
 | _=>rS K
def Qeb (R:RR):Prop:=∀(N N':Addr→Prop) (H F:Hp) (as:List Addr) (v:V) (d:D),(∀a,N a→N' a)→R N H F as v d→R N' H F as v d
theorem Qbl {K:Frag}:Qeb (rV K):=fun _ _ _ _ _ _ _ _ h=>h
theorem QcB {K:Frag}:Qeb (rO K):=fun N N' H F as v d hn h=>by
 rcases h with h | ⟨a,xs,ds,e1,e2,e3,e4,e5,e6,e7⟩
 ·exact .inl h
 ·exact .inr ⟨a,xs,ds,e1,e2,e3,e4,e5,hn a e6,e7⟩
def tM (K:Frag) (mg:Str→Option Value) (md:List Md) (P:Pt) (R:RR) (m:M D):TE:=fun σ H Q =>
 ∃ρ O F as d O',RlO K mg O H F as∧SlO K md P ρ σ H F as∧m ρ O = .ok d O' ∧
  ∀v H' F' as',Gr H F as H' F' as'→RlO K mg O' H' F' as'→R (fun a=>H a=none) H' F' as' v d→Q v H'
def tMT (K:Frag) (mg:Str→Option Value) (md:List Md) (P:Pt) (m:M Bool):TT:=fun σ H Q =>
 ∃ρ O F as b O',RlO K mg O H F as∧SlO K md P ρ σ H F as∧m ρ O = .ok b O' ∧
  ∀H' F' as',Gr H F as H' F' as'→RlO K mg O' H' F' as'→Q b H'
def Qbp (K:Frag) (H F:Hp) (as:List Addr):List Md→List V→List D→Prop
 | [],[],[]=>True
 | m::ms,v::vs,d::ds=>rA K m (fun _=>True) H F as v d∧Qbp K H F as ms vs ds
 | _,_,_=>False
def tMA (K:Frag) (mg:Str→Option Value) (md:List Md) (P:Pt) (ms:List Md) (m:M (List D)):TA:=fun σ H Q =>
 ∃ρ O F as ds O',RlO K mg O H F as∧SlO K md P ρ σ H F as∧m ρ O = .ok ds O' ∧
  ∀vs H' F' as',Gr H F as H' F' as'→RlO K mg O' H' F' as'→Qbp K H' F' as' ms vs ds→Q vs H'
def XE (X:Cx) (md:List Md) (P:Pt) (R:RR) (e:Expr) (m:M D):Prop:=PE X e (tM X.K X.mg md P R m)
def VE (X:Cx) (md:List Md) (P:Pt) (e:Expr) (m:M D):Prop:=PE X e (tM X.K X.mg md P (rV X.K) m)
def SE (X:Cx) (md:List Md) (P:Pt) (e:Expr) (m:M D):Prop:=PE X e (tM X.K X.mg md P (rS X.K) m)
def OE (X:Cx) (md:List Md) (P:Pt) (e:Expr) (m:M D):Prop:=PE X e (tM X.K X.mg md P (rO X.K) m)
def TsE (X:Cx) (md:List Md) (P:Pt) (e:Expr) (m:M Bool):Prop:=PT X e (tMT X.K X.mg md P m)
def TwE (X:Cx) (md:List Md) (P:Pt) (e:Expr) (m:M Bool):Prop:=PW X e (tMT X.K X.mg md P m)
def AE (X:Cx) (md:List Md) (P:Pt) (ms:List Md) (es:List Expr) (m:M (List D)):Prop:=PA X es (tMA X.K X.mg md P ms m)
def Qic (K:Frag) (mg:Str→Option Value) (md:List Md) (P:Pt) (R:RR) (D:Ends) (H F:Hp) (as:List Addr):Fl→Prop
 | .nx ρ' O'=>∀σ' H' F' as',GrS P H F as H' F' as'→RlO K mg O' H' F' as'→SlO K md P ρ' σ' H' F' as'→D.nx σ' H'
 | .bk ρ' O'=>∀σ' H' F' as',GrS P H F as H' F' as'→RlO K mg O' H' F' as'→SlO K md P ρ' σ' H' F' as'→D.bk σ' H'
 | .ct ρ' O'=>∀σ' H' F' as',GrS P H F as H' F' as'→RlO K mg O' H' F' as'→SlO K md P ρ' σ' H' F' as'→D.ct σ' H'
 | .rt d O'=>∀v H' F' as',GrS P H F as H' F' as'→RlO K mg O' H' F' as'→R (fun a=>¬P a) H' F' as' v d→D.rt v H'
 | .ex _ _=>False
 | .no=>False
def tMS (K:Frag) (mg:Str→Option Value) (md:List Md) (P:Pt) (R:RR) (m:MS):TS:=fun D σ H =>
 ∃ρ O F as,RlO K mg O H F as∧SlO K md P ρ σ H F as∧Qic K mg md P R D H F as (m ρ O)
def VS (X:Cx) (md:List Md) (P:Pt) (R:RR) (st:Stmt) (m:MS):Prop:=PS X st (tMS X.K X.mg md P R m)
def VSs (X:Cx) (md:List Md) (P:Pt) (R:RR) (st:List Stmt) (m:MS):Prop:=PSs X st (tMS X.K X.mg md P R m)
section
variable {X:Cx}{md:List Md}{P:Pt}{R:RR}
theorem PE.imp {e:Expr}{t t':TE} (h:PE X e t) (k:∀σ H Q,t' σ H Q→t σ H Q):PE X e t':=fun pins s σ H Q I q=>h pins s σ H Q I (k σ H Q q)
theorem PT.imp {e:Expr}{t t':TT} (h:PT X e t) (k:∀σ H Q,t' σ H Q→t σ H Q):PT X e t':=fun pins s σ H Q I q=>h pins s σ H Q I (k σ H Q q)
theorem PW.imp {e:Expr}{t t':TT} (h:PW X e t) (k:∀σ H Q,t' σ H Q→t σ H Q):PW X e t':=fun w pins s σ H Q I q=>h w pins s σ H Q I (k σ H Q q)
theorem PA.imp {e:List Expr}{t t':TA} (h:PA X e t) (k:∀σ H Q,t' σ H Q→t σ H Q):PA X e t':=fun pos pins s σ H Q I q=>h pos pins s σ H Q I (k σ H Q q)
theorem PS.imp {e:Stmt}{t t':TS} (h:PS X e t) (k:∀D σ H,t' D σ H→t D σ H):PS X e t':=fun pins s σ H D I q=>h pins s σ H D I (k D σ H q)
theorem PSs.imp {e:List Stmt}{t t':TS} (h:PSs X e t) (k:∀D σ H,t' D σ H→t D σ H):PSs X e t':=fun pins s σ H D I q=>h pins s σ H D I (k D σ H q)
def Qab (i:Nat):M D:=fun ρ O=>match ρ[i]? with
 | some (some d)=>.ok d O
 | _=>.no
def mC (d:D):M D:=fun _ O=>.ok d O
def mG (m:M D):M D:=fun ρ O=>match m ρ O with
 | .ok d O'=>if QeC d=true then .ok d O' else .no
 | r=>r
theorem Qky {i:Nat}{ρ:Qak}{O O':Qac}{d:D} (h:Qab i ρ O = .ok d O'):ρ[i]? = some (some d)∧O'=O:=by
 unfold Qab at h;split at h
 ·rename_i d' e;cases h;exact ⟨e,rfl⟩
 ·cases h
theorem QxN {m:M D}{ρ:Qak}{O O':Qac}{d:D} (h:mG m ρ O = .ok d O'):m ρ O = .ok d O'∧QeC d=true:=by
 unfold mG at h;split at h
 ·rename_i d' O1 e;split at h
  ·rename_i hn;cases h;exact ⟨e,hn⟩
  ·cases h
 ·rename_i hne;exact absurd h (hne _ _)
theorem SlO.get {K:Frag}{ρ:Qak}{σ:St}{H F:Hp}{as:List Addr}{i:Nat}{d:D} (s:SlO K md P ρ σ H F as) (h:ρ[i]? = some (some d)):∃m v,md[i]? = some m∧σ[i]? = some (some v)∧Qea P K H F as m v d:=by
 have hi:i < md.length:=by rw [←s.len']; exact (zk.mp h).1
 obtain ⟨v,h1,h2⟩:=s.sl i md[i] d (zq hi) h;exact ⟨_,v,zq hi,h1,h2⟩
theorem Qea.sv {K:Frag}{H F:Hp}{as:List Addr}{m:Md}{v:V}{d:D} (h:Qea P K H F as m v d):Sv K H F as v d:=by
 cases m with
 | v=>exact .inl h
 | s =>
  rcases h with h | ⟨a,xs,ds,e1,e2,e3,e4,e5,e6⟩
  ·exact .inl h
  ·exact .inr ⟨a,xs,ds,e1,e2,e3,e4,e6⟩
 | o =>
  rcases h with ⟨_,h⟩ | ⟨a,xs,ds,e1,e2,e3,e0,e4,e5,e6⟩
  ·exact .inl h
  ·exact .inr ⟨a,xs,ds,e1,e2,e3,e4,e6⟩
theorem Qaj (i:Nat) {x:Str}{pos:Pos} (hN:X.N[i]? = some x:=by rfl) (hv:Vis X.env.scope x:=by first | exact Or.inl rfl | exact Or.inr (Or.inl rfl) | exact Or.inr (Or.inr rfl))
  (hd:(x == ("__debug__":Str))=false:=by decide) (hcd:(x == ("__classdict__":Str))=false:=by decide):SE X md P (.Name x pos) (Qab i):=by
 refine (Qe0 (i:=i) hN hv hd hcd).imp fun σ H Q h=>?_
 obtain ⟨ρ,O,F,as,d,O',r,s,e,k⟩:=h;obtain ⟨e1,rfl⟩:=Qky e;obtain ⟨m,v,h1,h2,h3⟩:=s.get e1;exact ⟨v,h2,k v H F as Gr.refl r h3.sv⟩
theorem Qai (i:Nat) {x:Str}{pos:Pos} (hm:md[i]? = some .v:=by rfl) (hN:X.N[i]? = some x:=by rfl) (hv:Vis X.env.scope x:=by first | exact Or.inl rfl | exact Or.inr (Or.inl rfl) | exact Or.inr (Or.inr rfl))
  (hd:(x == ("__debug__":Str))=false:=by decide) (hcd:(x == ("__classdict__":Str))=false:=by decide):VE X md P (.Name x pos) (Qab i):=by
 refine (Qe0 (i:=i) hN hv hd hcd).imp fun σ H Q h=>?_
 obtain ⟨ρ,O,F,as,d,O',r,s,e,k⟩:=h;obtain ⟨e1,rfl⟩:=Qky e;obtain ⟨v,h2,h3⟩:=s.sl i .v d hm e1;exact ⟨v,h2,k v H F as Gr.refl r h3⟩
theorem Qad {e:Expr}{m:M D} (h:VE X md P e m):SE X md P e m:=h.imp fun σ H Q q=>by
 obtain ⟨ρ,O,F,as,d,O',r,s,e,k⟩:=q;exact ⟨ρ,_,F,as,_,_,r,s,e,fun v H' F' as' g r' hv=>k v H' F' as' g r' (.inl hv)⟩
theorem Qaw {e:Expr}{m:M D} (h:OE X md P e m):SE X md P e m:=h.imp fun σ H Q q=>by
 obtain ⟨ρ,O,F,as,d,O',r,s,e,k⟩:=q;exact ⟨ρ,_,F,as,_,_,r,s,e,fun v H' F' as' g r' hv=>k v H' F' as' g r' (Ow.sv hv)⟩
theorem Qb5 {e:Expr}{m:M D} (h:SE X md P e m):VE X md P e (mG m):=h.imp fun σ H Q q=>by
 obtain ⟨ρ,O,F,as,d,O',r,s,e,k⟩:=q;obtain ⟨e,hn⟩:=QxN e;exact ⟨ρ,_,F,as,_,_,r,s,e,fun v H' F' as' g r' hv=>k v H' F' as' g r' (Sv.rp hv hn)⟩
theorem QaJ {e:Expr}{m:M D} (h:OE X md P e m):VE X md P e m:=h.imp fun σ H Q q=>by
 obtain ⟨ρ,O,F,as,d,O',r,s,e,k⟩:=q;refine ⟨ρ,_,F,as,_,_,r,s,e,fun v H' F' as' g r' hv=>?_⟩
 rcases hv with ⟨_,hv⟩ | ⟨a,xs,ds,rfl,rfl,e3,e4,e5,e6,e7⟩
 ·exact k v H' F' as' g r' hv
 ·have ff:Same F' (upd F' a (.lst xs)):=fun b u q=>by rw [Qaq (QaC q e4)]; exact q
  refine k _ H' (upd F' a (.lst xs)) as' (g.frz e6 e4) (r'.frz e3 e4 e5 rfl) (Rp.mkL (.inl (.inl QaE)) (Rps.mono ff (fun _ _ z=>z) _ e7))
theorem Qms {e:Expr}{v:V}{d:D} (h:PE X e (tC v)) (hd:∀K F as,Rp K F as v d):VE X md P e (mC d):=h.imp fun σ H Q q=>by
 obtain ⟨ρ,O,F,as,d,O',r,s,e,k⟩:=q;cases e;exact k v H F as Gr.refl r (hd _ _ _)
theorem Qag {i:Int}{j pos}:VE X md P (.Constant (.int i) j pos) (mC (.int i)):=Qms Qv4 fun _ _ _=>Rp.int
theorem Qfq {b:Bool}{j pos}:VE X md P (.Constant (.bool b) j pos) (mC (.bl b)):=Qms Qxu fun _ _ _=>Rp.bl
theorem Qiw {j pos}:VE X md P (.Constant .none j pos) (mC .non):=Qms Qwd fun _ _ _=>Rp.non
theorem QaV {x:Str}{j pos} (l:List Nat) (hx:x=S l:=by decide +kernel):VE X md P (.Constant (.str x) j pos) (mC (.str l)):=Qms QgW fun _ _ _=>by rw [hx]; exact Rp.str
theorem Qmc {x:Str}{v:V}{d:D}{pos:Pos} (h:∃u,X.mg x=some u∧RelV v u) (hd:∀K F as,Rp K F as v d) (hg:Gl X x:=by rfl) (hdb:(x == ("__debug__":Str))=false:=by decide):VE X md P (.Name x pos) (mC d):=Qms (QmX h hg hdb) hd
def Qae:M (List D):=fun _ O=>.ok [] O
def Qaa (m:M D) (r:M (List D)):M (List D):=fun ρ O=>(m ρ O).bind fun d O1=>(r ρ O1).bind fun ds O2=>.ok (d::ds) O2
theorem Qal:AE X md P [] [] Qae:=Qd2.imp fun σ H Q q=>by
 obtain ⟨ρ,O,F,as,d,O',r,s,e,k⟩:=q;cases e;exact k [] H F as Gr.refl r trivial
theorem rA.gr {K:Frag}{m:Md}{N:Addr→Prop}{H F H' F':Hp}{as as':List Addr}{v:V}{d:D} (h:rA K m N H F as v d) (g:Gr H F as H' F' as'):rA K m (fun _=>True) H' F' as' v d:=by
 cases m with
 | v=>exact Rp.gr (show Rp K F as v d from h) g
 | s=>exact Sv.gr (show Sv K H F as v d from h) g
 | o=>exact Sv.gr (show Sv K H F as v d from h) g
theorem Qbp.gr {K:Frag}{H F H' F':Hp}{as as':List Addr} (g:Gr H F as H' F' as'):∀{ms:List Md}{vs:List V}{ds:List D},Qbp K H F as ms vs ds→Qbp K H' F' as' ms vs ds
 | [],[],[],_=>trivial
 | m::ms,v::vs,d::ds,h=>⟨rA.gr h.1 g,Qbp.gr g h.2⟩
 | [],[],_::_,h=>h.elim
 | [],_::_,[],h=>h.elim
 | [],_::_,_::_,h=>h.elim
 | _::_,[],[],h=>h.elim
 | _::_,[],_::_,h=>h.elim
 | _::_,_::_,[],h=>h.elim
theorem Qn7 (md0:Md) {e:Expr}{es:List Expr}{m:M D}{ms:List Md}{r:M (List D)} (h:XE X md P (rA X.K md0) e m) (hr:AE X md P ms es r)
  (hs:starEach (e::es) X.env=(false,eval e X.env)::starEach es X.env:=by exact Qa0 rfl):AE X md P (md0::ms) (e::es) (Qaa m r):=(Qcm h hr hs).imp fun σ H Q q=>by
 obtain ⟨ρ,O,F,as,d,O',r0,s,e,k⟩:=q;obtain ⟨d,O1,e1,e⟩:=Res.bind_ok e;obtain ⟨ds',O2,e2,e⟩:=Res.bind_ok e;cases e;refine ⟨ρ,_,F,as,_,_,r0,s,e1,fun v H1 F1 as1 g1 r1 hv=>?_⟩;refine ⟨ρ,_,F1,as1,_,_,r1,s.step g1,e2,fun vs H2 F2 as2 g2 r2 hvs=>?_⟩;exact k (v::vs) H2 F2 as2 (g1.trans g2) r2 ⟨rA.gr hv g2,hvs⟩
theorem QaA {e:Expr}{es:List Expr}{m:M D}{ms:List Md}{r:M (List D)} (h:VE X md P e m) (hr:AE X md P ms es r)
  (hs:starEach (e::es) X.env=(false,eval e X.env)::starEach es X.env:=by exact Qa0 rfl):AE X md P (.v::ms) (e::es) (Qaa m r):=Qn7 .v h hr hs
theorem Qap {e:Expr}{es:List Expr}{m:M D}{ms:List Md}{r:M (List D)} (h:SE X md P e m) (hr:AE X md P ms es r)
  (hs:starEach (e::es) X.env=(false,eval e X.env)::starEach es X.env:=by exact Qa0 rfl):AE X md P (.s::ms) (e::es) (Qaa m r):=Qn7 .s h hr hs
theorem Qbp.rps {K:Frag}{H F:Hp}{as:List Addr}:∀{n:Nat}{vs:List V}{ds:List D},Qbp K H F as (List.replicate n .v) vs ds→Rps K F as vs ds
 | 0,[],[],_=>Rps.nil
 | n+1,v::vs,d::ds,h=>by
  rw [List.replicate_succ] at h;exact Rps.cons h.1 (Qbp.rps h.2)
 | 0,[],_::_,h=>h.elim
 | 0,_::_,[],h=>h.elim
 | 0,_::_,_::_,h=>h.elim
 | n+1,[],[],h=>h.elim
 | n+1,[],_::_,h=>h.elim
 | n+1,_::_,[],h=>h.elim
def Qbq (r:M (List D)):M D:=fun ρ O=>(r ρ O).bind fun ds O1=>if ds.length≤1000000 then .ok (.lst ds) O1 else .no
def QbQ (r:M (List D)):M D:=fun ρ O=>(r ρ O).bind fun ds O1=>if ds.length≤1000000 then .ok (.tup ds) O1 else .no
theorem QdI {n:Nat} (h:n≤1000000):n≤sizeLine:=zC h (by decide)
theorem QbR {es:List Expr}{pos:Pos}{r:M (List D)} (n:Nat) (h:AE X md P (List.replicate n .v) es r):OE X md P (.List es pos) (Qbq r):=(Qq2 h).imp fun σ H Q q=>by
 obtain ⟨ρ,O,F,as,d,O',r0,s,e,k⟩:=q;obtain ⟨ds,O1,e1,e⟩:=Res.bind_ok e;split at e
 ·rename_i hz;cases e;refine ⟨ρ,_,F,as,_,_,r0,s,e1,fun vs H1 F1 as1 g1 r1 hv=>?_⟩;have hr:=hv.rps;refine ⟨by rw [hr.length]; exact QdI hz,fun p hp=>?_⟩
  have hF:F1 p=none:=by
   cases q:F1 p with
   | none=>rfl
   | some o=>rw [r1.fh p o q] at hp; cases hp
  refine k _ _ F1 as1 (g1.trans (Gr.lay hp)) (r1.lay hp) (.inr ⟨p,vs,ds,rfl,rfl,QaE,hF,fun z=>r1.all z hp,g1.dm p hp,hr⟩)
 ·cases e
theorem Qci {es:List Expr}{pos:Pos}{x1}{r:M (List D)} (n:Nat) (h:AE X md P (List.replicate n .v) es r):VE X md P (.Tuple es x1 pos) (QbQ r):=(QpG h).imp fun σ H Q q=>by
 obtain ⟨ρ,O,F,as,d,O',r0,s,e,k⟩:=q;obtain ⟨ds,O1,e1,e⟩:=Res.bind_ok e;split at e
 ·rename_i hz;cases e;refine ⟨ρ,_,F,as,_,_,r0,s,e1,fun vs H1 F1 as1 g1 r1 hv=>?_⟩;have hr:=hv.rps;refine ⟨by rw [hr.length]; exact QdI hz,fun p hp=>?_⟩
  have hF:F1 p=none:=by
   cases q:F1 p with
   | none=>rfl
   | some o=>rw [r1.fh p o q] at hp; cases hp
  have ff:Same F1 (upd F1 p (.tup vs)):=fun b u q=>by rw [Qaq (QaC q hF)]; exact q
  refine k _ _ (upd F1 p (.tup vs)) as1 ((g1.trans (Gr.lay hp)).frz (g1.dm p hp) hF) ((r1.lay hp).frz QaE hF (fun z=>r1.all z hp) rfl) (Rp.mkT (.inl QaE) (Rps.mono ff (fun _ _ z=>z) _ hr))
 ·cases e
def rD (K:Frag) (mg:Str→Option Value) (g:D→D→Option D):R2:=fun x y H Q=>∃O F as dx dy d,RlO K mg O H F as∧Lk K H F as x dx∧Lk K H F as y dy∧g dx dy=some d ∧
 ∀v' H' F',Gr H F as H' F' as→RlO K mg O H' F' as→Ow K (fun a=>H a=none) H' F' as v' d→Q v' H'
abbrev OpD (X:Cx) (f:Value→Value→Sem Value) (g:D→D→Option D):Prop:=OpR X f (rD X.K X.mg g)
def Qaf (g:D→D→Option D) (ma mb:M D):M D:=fun ρ O=>(ma ρ O).bind fun x O1=>(mb ρ O1).bind fun y O2=>match g (QaI O2 x) (QaI O2 y) with
 | some d=>.ok d O2
 | none=>.no
theorem Ql6 {K:Frag}{mg:Str→Option Value}{g:D→D→Option D}{ma mb:M D}{σ:St}{H:Hp}{Q:VK} (h:tM K mg md P (rO K) (Qaf g ma mb) σ H Q):tOp (rD K mg g) (tM K mg md P (rS K) ma) (tM K mg md P (rS K) mb) σ H Q:=by
 obtain ⟨ρ,O,F,as,d,O',r,sl,e,k⟩:=h;obtain ⟨x,O1,e1,e⟩:=Res.bind_ok e;obtain ⟨y,O2,e2,e⟩:=Res.bind_ok e;split at e
 ·rename_i d' hg;cases e;refine ⟨ρ,_,F,as,_,_,r,sl,e1,fun v H1 F1 as1 g1 r1 hv=>?_⟩;refine ⟨ρ,_,F1,as1,_,_,r1,sl.step g1,e2,fun u H2 F2 as2 g2 r2 hu=>?_⟩;refine ⟨_,F2,as2,_,_,_,r2,Sv.lk (Sv.gr hv g2) r2,Sv.lk hu r2,hg,fun v' H' F' g' r' hw=>?_⟩;exact k v' H' F' as2 ((g1.trans g2).trans g') r' (QcB _ _ _ _ _ _ _ (fun a ha=>(g1.trans g2).dm a ha) hw)
 ·cases e
theorem Qau {e1 e2:Expr}{pos:Pos}{op:Operator}{g:D→D→Option D}{ma mb:M D} (ho:OpD X (binaryOp op) g) (ha:SE X md P e1 ma) (hb:SE X md P e2 mb):OE X md P (.BinOp e1 op e2 pos) (Qaf g ma mb) :=
 (QxS ho ha hb).imp fun _ _ _=>Ql6
theorem Qil {e1 e2:Expr}{pos:Pos}{op:CmpOp}{g:D→D→Option D}{ma mb:M D} (ho:OpD X (compareOp op) g) (ha:SE X md P e1 ma) (hb:SE X md P e2 mb) (hm:behindInMarks op e2=false):OE X md P (.Compare e1 [op] [e2] pos) (Qaf g ma mb) :=
 (QtK ho ha hb hm).imp fun _ _ _=>Ql6
def Qav (m:M D):M Bool:=fun ρ O=>(m ρ O).bind fun d O1=>match d with
 | .bl b=>.ok b O1
 | _=>.no
theorem QiH {K:Frag}{mg:Str→Option Value}{m:M D}{σ:St}{H:Hp}{Q:Bool→Hp→Prop} (h:tMT K mg md P (Qav m) σ H Q):QlA (tM K mg md P (rO K) m) σ H Q:=by
 obtain ⟨ρ,O,F,as,d,O',r,sl,e,k⟩:=h;obtain ⟨d,O1,e1,e⟩:=Res.bind_ok e
 cases d with
 | bl c =>
  cases e;refine ⟨ρ,_,F,as,_,_,r,sl,e1,fun v H1 F1 as1 g1 r1 hv=>?_⟩
  rcases hv with ⟨_,hv⟩ | ⟨a,xs,ds,_,e2,_⟩
  ·exact ⟨_,hv.unB,k H1 F1 as1 g1 r1⟩
  ·cases e2
 | _=>cases e
theorem Qbi {e1 e2:Expr}{pos:Pos}{op:CmpOp}{g:D→D→Option D}{ma mb:M D} (ho:OpD X (compareOp op) g) (ha:SE X md P e1 ma) (hb:SE X md P e2 mb) (hm:behindInMarks op e2=false):TsE X md P (.Compare e1 [op] [e2] pos) (Qav (Qaf g ma mb)) :=
 (Qt7 ho ha hb hm).imp fun σ H Q h=>by
  have q:=QiH h;exact Ql6 q
def Qf5 (g g':D→D→Option D) (ma mb mc:M D):M D:=fun ρ O=>(ma ρ O).bind fun x O1=>(mb ρ O1).bind fun y O2=>match g (QaI O2 x) (QaI O2 y) with
 | some (.bl true)=>(mc ρ O2).bind fun z O3=>match g' (QaI O3 y) (QaI O3 z) with
  | some d=>.ok d O3
  | none=>.no
 | some (.bl false)=>.ok (.bl false) O2
 | _=>.no
theorem Qmo {K:Frag}{mg:Str→Option Value}{g g':D→D→Option D}{ma mb mc:M D}{σ:St}{H:Hp}{Q:VK} (h:tM K mg md P (rO K) (Qf5 g g' ma mb mc) σ H Q) :
  QlP (rD K mg g) (rD K mg g') (tM K mg md P (rS K) ma) (tM K mg md P (rS K) mb) (tM K mg md P (rS K) mc) σ H Q:=by
 obtain ⟨ρ,O,F,as,d,O',r,sl,e,k⟩:=h;obtain ⟨x,O1,e1,e⟩:=Res.bind_ok e;obtain ⟨y,O2,e2,e⟩:=Res.bind_ok e;refine ⟨ρ,_,F,as,_,_,r,sl,e1,fun v H1 F1 as1 g1 r1 hv=>?_⟩;refine ⟨ρ,_,F1,as1,_,_,r1,sl.step g1,e2,fun u H2 F2 as2 g2 r2 hu=>?_⟩;split at e
 ·rename_i hg;obtain ⟨z,O3,e3,e⟩:=Res.bind_ok e;refine ⟨_,F2,as2,_,_,_,r2,Sv.lk (Sv.gr hv g2) r2,Sv.lk hu r2,hg,fun v' H' F' g' r' hw=>?_⟩
  rcases hw with ⟨_,hw⟩ | ⟨a,xs,ds,_,z,_⟩
  ·refine ⟨true,hw.unB,?_⟩;rw [if_pos rfl];split at e
   ·rename_i d' hg';cases e;have g3:=(g1.trans g2).trans g';refine ⟨ρ,_,F',as2,_,_,r',sl.step g3,e3,fun w H4 F4 as4 g4 r4 hz=>?_⟩;refine ⟨_,F4,as4,_,_,_,r4,Sv.lk (Sv.gr (Sv.gr hu g') g4) r4,Sv.lk hz r4,hg',fun v5 H5 F5 g5 r5 hw5=>?_⟩;exact k v5 H5 F5 as4 ((g3.trans g4).trans g5) r5 (QcB _ _ _ _ _ _ _ (fun a ha=>(g3.trans g4).dm a ha) hw5)
   ·cases e
  ·cases z
 ·rename_i hg;cases e;refine ⟨_,F2,as2,_,_,_,r2,Sv.lk (Sv.gr hv g2) r2,Sv.lk hu r2,hg,fun v' H' F' g' r' hw=>?_⟩
  rcases hw with ⟨_,hw⟩ | ⟨a,xs,ds,_,z,_⟩
  ·refine ⟨false,hw.unB,?_⟩;rw [if_neg zg];exact k _ H' F' as2 ((g1.trans g2).trans g') r' (.inl ⟨rfl,Rp.bl⟩)
  ·cases z
 ·cases e
theorem Qr4 {a b c:Expr}{pos:Pos}{op op':CmpOp}{g g':D→D→Option D}{ma mb mc:M D} (ho:OpD X (compareOp op) g) (ho':OpD X (compareOp op') g') (ha:SE X md P a ma) (hb:SE X md P b mb) (hc:SE X md P c mc)
  (hm:lastMarks [op,op'] [b,c]=false:=by with_unfolding_all rfl):OE X md P (.Compare a [op,op'] [b,c] pos) (Qf5 g g' ma mb mc):=(Qr6 ho ho' ha hb hc hm).imp fun _ _ _=>Qmo
theorem Qrs {a b c:Expr}{pos:Pos}{op op':CmpOp}{g g':D→D→Option D}{ma mb mc:M D} (ho:OpD X (compareOp op) g) (ho':OpD X (compareOp op') g') (ha:SE X md P a ma) (hb:SE X md P b mb) (hc:SE X md P c mc)
  (hm:lastMarks [op,op'] [b,c]=false:=by with_unfolding_all rfl):TsE X md P (.Compare a [op,op'] [b,c] pos) (Qav (Qf5 g g' ma mb mc)):=(Qr8 ho ho' ha hb hc hm).imp fun _ _ _ h=>Qmo (QiH h)
def isNon:D→Bool
 | .non=>true
 | _=>false
def Qgu (m:M D):M D:=fun ρ O=>(m ρ O).bind fun d O1=>.ok (.bl (isNon d)) O1
def Qek (m:M D):M D:=fun ρ O=>(m ρ O).bind fun d O1=>.ok (.bl (!isNon d)) O1
theorem Sv.isN {K:Frag}{H F:Hp}{as:List Addr}{v:V}{d:D} (h:Sv K H F as v d):decide (v = .non)=isNon d:=by
 rcases h with h | ⟨a,xs,ds,rfl,rfl,_⟩
 ·cases d with
  | non=>rw [h.unN]; rfl
  | bl b=>rw [h.unB]; rfl
  | int b=>rw [h.unI]; rfl
  | str b=>rw [h.unS]; rfl
  | lst b=>obtain ⟨a,xs,rfl,_⟩:=h.unL; rfl
  | tup b=>obtain ⟨a,xs,rfl,_⟩:=h.unT; rfl
  | dic k b=>obtain ⟨a,xs,rfl,_⟩:=h.unD; rfl
  | ob b=>obtain ⟨a,rfl,_⟩:=h.unO; rfl
 ·rfl
theorem QuT {K:Frag}{mg:Str→Option Value}{m:M D}{σ:St}{H:Hp}{Q:VK} (h:tM K mg md P (rO K) (Qgu m) σ H Q):QvV (tM K mg md P (rS K) m) σ H Q:=by
 obtain ⟨ρ,O,F,as,d,O',r,sl,e,k⟩:=h;obtain ⟨x,O1,e1,e⟩:=Res.bind_ok e;cases e;refine ⟨ρ,_,F,as,_,_,r,sl,e1,fun v H1 F1 as1 g1 r1 hv=>?_⟩;dsimp only;rw [Sv.isN hv];exact k _ H1 F1 as1 g1 r1 (.inl ⟨rfl,Rp.bl⟩)
theorem QtA {K:Frag}{mg:Str→Option Value}{m:M D}{σ:St}{H:Hp}{Q:VK} (h:tM K mg md P (rO K) (Qek m) σ H Q):QsT (tM K mg md P (rS K) m) σ H Q:=by
 obtain ⟨ρ,O,F,as,d,O',r,sl,e,k⟩:=h;obtain ⟨x,O1,e1,e⟩:=Res.bind_ok e;cases e;refine ⟨ρ,_,F,as,_,_,r,sl,e1,fun v H1 F1 as1 g1 r1 hv=>?_⟩;dsimp only;rw [Sv.isN hv];exact k _ H1 F1 as1 g1 r1 (.inl ⟨rfl,Rp.bl⟩)
theorem QsP {t t':TE}{σ:St}{H:Hp}{Q:Bool→Hp→Prop} (h:∀Q',t σ H Q'→t' σ H Q') (q:QlA t σ H Q):tB t' σ H Q:=h _ q
theorem QlY {a:Expr}{pos pos':Pos}{j}{m:M D} (h:SE X md P a m):TsE X md P (.Compare a [.Is] [.Constant .none j pos'] pos) (Qav (Qgu m)):=(Qpn (QvE h)).imp fun _ _ _ q=>QsP (fun _=>QuT) (QiH q)
theorem QnB {a:Expr}{pos pos':Pos}{j}{m:M D} (h:SE X md P a m):TsE X md P (.Compare a [.IsNot] [.Constant .none j pos'] pos) (Qav (Qek m)):=(Qpn (Qtf h)).imp fun _ _ _ q=>QsP (fun _=>QtA) (QiH q)
def Qku:D→Option Bool
 | .non=>some false
 | .bl b=>some b
 | .int i=>some (i != 0)
 | .str l=>if l.length≤1000000 then some (!l.isEmpty) else none
 | .lst ds=>some (!ds.isEmpty)
 | .tup ds=>some (!ds.isEmpty)
 | .dic ks _=>some (!ks.isEmpty)
 | .ob _=>none
def Qb4 (m:M D):M Bool:=fun ρ O=>(m ρ O).bind fun d O1=>match Qku (QaI O1 d) with
 | some b=>.ok b O1
 | none=>.no
theorem Qk2 {α β:Type}{xs:List α}{ys:List β} (h:xs.length=ys.length):(!xs.isEmpty) = !ys.isEmpty:=by
 cases xs <;> cases ys <;> simp_all
theorem Lk.tru {K:Frag}{H F:Hp}{as:List Addr}{v:V}{d:D}{b:Bool} (h:Lk K H F as v d) (fh:Same F H) (e:Qku d=some b):Qrt K v H b:=by
 cases d with
 | non=>rw [(h.rp rfl).unN]; cases e; rfl
 | bl b=>rw [(h.rp rfl).unB]; cases e; rfl
 | int b=>rw [(h.rp rfl).unI]; cases e; rfl
 | str l =>
  rw [(h.rp rfl).unS];simp only [Qku] at e;split at e
  ·rename_i hl;cases e;refine ⟨by rw [Qbt]; exact QdI hl,?_⟩;rw [Qbt]
   cases l with
   | nil=>rfl
   | cons c l =>
    have:((((c::l).length:Nat):Int) != 0)=true:=by
     rw [bne_iff_ne,zy];omega
    rw [this];rfl
  ·cases e
 | lst ds =>
  obtain ⟨a,xs,rfl,h1,h2⟩:=h.list fh;cases e;exact .inl ⟨xs,h1.sq,(Qk2 h2.length).symm⟩
 | tup ds =>
  obtain ⟨a,xs,rfl,h1,h2⟩:=(h.rp rfl).unT;cases e;exact .inr (.inl ⟨xs,Same.seqT fh h1,(Qk2 h2.length).symm⟩)
 | dic ks vs =>
  obtain ⟨a,kvs,rfl,h1,rfl,h2⟩:=(h.rp rfl).unD;cases e;exact .inr (.inr ⟨kvs,fh _ _ h1,by cases kvs <;> rfl⟩)
 | ob n=>cases e
theorem Qe1 {a:Expr}{m:M D} (h:SE X md P a m) (he:∀whole,isTrue a X.env whole=(do let v ←whole; standAt a.pos; holding [v] (truthy v)):=by intro _; rfl):TsE X md P a (Qb4 m):=(QrE h he).imp fun σ H Q q=>by
 obtain ⟨ρ,O,F,as,d,O',r,sl,e,k⟩:=q;obtain ⟨d,O1,e1,e⟩:=Res.bind_ok e;split at e
 ·rename_i c hc;cases e;exact ⟨ρ,_,F,as,_,_,r,sl,e1,fun v H1 F1 as1 g1 r1 hv=>⟨_,Lk.tru (Sv.lk hv r1) r1.fh hc,k H1 F1 as1 g1 r1⟩⟩
 ·cases e
def QdJ (a b:M Bool):M Bool:=fun ρ O=>(a ρ O).bind fun c O1=>if c=true then b ρ O1 else .ok false O1
def Qg6 (a b:M Bool):M Bool:=fun ρ O=>(a ρ O).bind fun c O1=>if c=true then .ok true O1 else b ρ O1
def QcA (a:M Bool):M Bool:=fun ρ O=>(a ρ O).bind fun c O1=>.ok (!c) O1
theorem QtQ {K:Frag}{mg:Str→Option Value}{ma mb:M Bool}{σ:St}{H:Hp}{Q:Bool→Hp→Prop} (h:tMT K mg md P (QdJ ma mb) σ H Q):Qve (tMT K mg md P ma) (tMT K mg md P mb) σ H Q:=by
 obtain ⟨ρ,O,F,as,d,O',r,sl,e,k⟩:=h;obtain ⟨c,O1,e1,e⟩:=Res.bind_ok e;refine ⟨ρ,_,F,as,_,_,r,sl,e1,fun H1 F1 as1 g1 r1=>?_⟩
 cases c with
 | true =>
  rw [if_pos rfl] at e ⊢;exact ⟨ρ,_,F1,as1,_,_,r1,sl.step g1,e,fun H2 F2 as2 g2 r2=>k H2 F2 as2 (g1.trans g2) r2⟩
 | false =>
  rw [if_neg zg] at e ⊢;cases e;exact k H1 F1 as1 g1 r1
theorem Qws {K:Frag}{mg:Str→Option Value}{ma mb:M Bool}{σ:St}{H:Hp}{Q:Bool→Hp→Prop} (h:tMT K mg md P (Qg6 ma mb) σ H Q):tOr (tMT K mg md P ma) (tMT K mg md P mb) σ H Q:=by
 obtain ⟨ρ,O,F,as,d,O',r,sl,e,k⟩:=h;obtain ⟨c,O1,e1,e⟩:=Res.bind_ok e;refine ⟨ρ,_,F,as,_,_,r,sl,e1,fun H1 F1 as1 g1 r1=>?_⟩
 cases c with
 | true =>
  rw [if_pos rfl] at e ⊢;cases e;exact k H1 F1 as1 g1 r1
 | false =>
  rw [if_neg zg] at e ⊢;exact ⟨ρ,_,F1,as1,_,_,r1,sl.step g1,e,fun H2 F2 as2 g2 r2=>k H2 F2 as2 (g1.trans g2) r2⟩
theorem QkN {a:Expr}{pos:Pos}{m:M Bool} (h:TsE X md P a m):TwE X md P (.BoolOp .And [a] pos) m:=QnP h
theorem QpE {a:Expr}{pos:Pos}{m:M Bool} (h:TsE X md P a m):TwE X md P (.BoolOp .Or [a] pos) m:=Qvi h
theorem QlW {a b:Expr}{rest:List Expr}{pos:Pos}{ma mb:M Bool} (ha:TsE X md P a ma) (hb:TwE X md P (.BoolOp .And (b::rest) pos) mb):TwE X md P (.BoolOp .And (a::b::rest) pos) (QdJ ma mb):=(Ql3 ha hb).imp fun _ _ _=>QtQ
theorem QsF {a b:Expr}{rest:List Expr}{pos:Pos}{ma mb:M Bool} (ha:TsE X md P a ma) (hb:TwE X md P (.BoolOp .Or (b::rest) pos) mb):TwE X md P (.BoolOp .Or (a::b::rest) pos) (Qg6 ma mb):=(Qxk ha hb).imp fun _ _ _=>Qws
theorem QlZ {e:Expr}{m:M Bool} (h:TwE X md P e m):TsE X md P e m:=PW.pt h
theorem Qjy {a:Expr}{pos:Pos}{m:M Bool} (h:TsE X md P a m):TsE X md P (.UnaryOp .Not a pos) (QcA m):=(QqT h).imp fun σ H Q q=>by
 obtain ⟨ρ,O,F,as,d,O',r,sl,e,k⟩:=q;obtain ⟨c,O1,e1,e⟩:=Res.bind_ok e;cases e;exact ⟨ρ,_,F,as,_,_,r,sl,e1,k⟩
def Qhu (ma mb:M D):M D:=fun ρ O=>(ma ρ O).bind fun d O1=>match d with
 | .bl true=>mb ρ O1
 | .bl false=>.ok (.bl false) O1
 | _=>.no
def Qwi (ma mb:M D):M D:=fun ρ O=>(ma ρ O).bind fun d O1=>match d with
 | .bl true=>.ok (.bl true) O1
 | .bl false=>mb ρ O1
 | _=>.no
def QoI (ma:M D):M D:=fun ρ O=>(ma ρ O).bind fun d O1=>match d with
 | .bl b=>.ok (.bl (!b)) O1
 | _=>.no
theorem Qkb {a:Expr}{pos:Pos}{op}{m:M D} (h:VE X md P a m):VE X md P (.BoolOp op [a] pos) m:=QwN h
theorem QjR {a b:Expr}{rest:List Expr}{pos:Pos}{ma mb:M D} (ha:VE X md P a ma) (hb:VE X md P (.BoolOp .And (b::rest) pos) mb):VE X md P (.BoolOp .And (a::b::rest) pos) (Qhu ma mb):=(Qwy ha hb).imp fun σ H Q q=>by
 obtain ⟨ρ,O,F,as,d,O',r,sl,e,k⟩:=q;obtain ⟨x,O1,e1,e⟩:=Res.bind_ok e;refine ⟨ρ,_,F,as,_,_,r,sl,e1,fun v H1 F1 as1 g1 r1 hv=>?_⟩
 cases x with
 | bl c =>
  refine ⟨c,Rp.unB hv,?_⟩
  cases c with
  | true =>
   rw [if_pos rfl];exact ⟨ρ,_,F1,as1,_,_,r1,sl.step g1,e,fun v2 H2 F2 as2 g2 r2 hv2=>k v2 H2 F2 as2 (g1.trans g2) r2 hv2⟩
  | false =>
   rw [if_neg zg];cases e;exact k _ H1 F1 as1 g1 r1 Rp.bl
 | _=>cases e
theorem Qww {a:Expr}{pos:Pos}{m:M D} (h:VE X md P a m):VE X md P (.UnaryOp .Not a pos) (QoI m):=(QvJ h).imp fun σ H Q q=>by
 obtain ⟨ρ,O,F,as,d,O',r,sl,e,k⟩:=q;obtain ⟨x,O1,e1,e⟩:=Res.bind_ok e;refine ⟨ρ,_,F,as,_,_,r,sl,e1,fun v H1 F1 as1 g1 r1 hv=>?_⟩
 cases x with
 | bl c =>
  cases e;exact ⟨c,Rp.unB hv,k _ H1 F1 as1 g1 r1 Rp.bl⟩
 | _=>cases e
def mIf (t:M Bool) (a b:M D):M D:=fun ρ O=>(t ρ O).bind fun c O1=>if c=true then a ρ O1 else b ρ O1
theorem Qxl (hR:Qeb R) {c a b:Expr}{pos:Pos}{mc:M Bool}{ma mb:M D} (hc:TsE X md P c mc) (ha:PE X a (tM X.K X.mg md P R ma)) (hb:PE X b (tM X.K X.mg md P R mb)):PE X (.IfExp c a b pos) (tM X.K X.mg md P R (mIf mc ma mb)):=(Qrr hc ha hb).imp fun σ H Q q=>by
 obtain ⟨ρ,O,F,as,d,O',r,sl,e,k⟩:=q;obtain ⟨x,O1,e1,e⟩:=Res.bind_ok e;refine ⟨ρ,_,F,as,_,_,r,sl,e1,fun H1 F1 as1 g1 r1=>?_⟩
 cases x with
 | true =>
  rw [if_pos rfl] at e ⊢;exact ⟨ρ,_,F1,as1,_,_,r1,sl.step g1,e,fun v2 H2 F2 as2 g2 r2 hv2=>k v2 H2 F2 as2 (g1.trans g2) r2 (hR _ _ _ _ _ _ _ (fun a ha=>g1.dm a ha) hv2)⟩
 | false =>
  rw [if_neg zg] at e ⊢;exact ⟨ρ,_,F1,as1,_,_,r1,sl.step g1,e,fun v2 H2 F2 as2 g2 r2 hv2=>k v2 H2 F2 as2 (g1.trans g2) r2 (hR _ _ _ _ _ _ _ (fun a ha=>g1.dm a ha) hv2)⟩
theorem Qly {c a b:Expr}{pos:Pos}{mc:M Bool}{ma mb:M D} (hc:TsE X md P c mc) (ha:VE X md P a ma) (hb:VE X md P b mb):VE X md P (.IfExp c a b pos) (mIf mc ma mb):=Qxl Qbl hc ha hb
end
section
variable {K:Frag}{mg:Str→Option Value}{md:List Md}{P:Pt}{R:RR}{ρ:Qak}{σ:St}{H F H' F':Hp}{as as':List Addr}{O O':Qac}
theorem SlO.set {i:Nat}{m:Md}{v:V}{d:D} (s:SlO K md P ρ σ H F as) (hm:md[i]? = some m) (hns:m≠.s) (hv:Qea P K H F as m v d)
  (hj:∀(a:Addr) (ds:List D) (j:Nat) (es:List D),m = .o→v = .ref a→d = .lst ds→i≠j→md[j]? = some .o→ρ[j]? = some (some (.lst es))→σ[j]?≠some (some (.ref a))):SlO K md P (ρ.set i (some d)) (σ.set i (some v)) H F as:=by
 have hi:i < md.length:=(zk.mp hm).1;refine ⟨by rw [zU]; exact s.len,by rw [zU]; exact s.len',s.pd,fun j m' d' e1 e2=>?_,fun j k a ds es h1 h2 h3 h4 h5 h6=>?_,fun x hx=>?_⟩
 ·by_cases h:i=j
  ·subst h;rw [hm] at e1; cases e1;rw [zF (by rw [s.len']; exact hi)] at e2;cases e2;exact ⟨v,zF (by rw [s.len]; exact hi),hv⟩
  ·rw [zl h] at e2;rw [zl h];exact s.sl j m' d' e1 e2
 ·by_cases hij:i=j
  ·by_cases hik:i=k
   ·rw [←hij,←hik]
   ·exfalso
    subst hij;rw [hm] at h1; cases h1;rw [zF (by rw [s.len']; exact hi)] at h3;rw [zF (by rw [s.len]; exact hi)] at h5;rw [zl hik] at h4 h6;cases h3; cases h5;exact hj a ds k es rfl rfl rfl hik h2 h4 h6
  ·by_cases hik:i=k
   ·exfalso
    subst hik;rw [hm] at h2; cases h2;rw [zF (by rw [s.len']; exact hi)] at h4;rw [zF (by rw [s.len]; exact hi)] at h6;rw [zl hij] at h3 h5;cases h4; cases h6;exact hj a es j ds rfl rfl rfl hij h1 h3 h5
   ·rw [zl hij] at h3 h5;rw [zl hik] at h4 h6;exact s.inj j k a ds es h1 h2 h3 h4 h5 h6
 ·obtain ⟨p1,p2,p3⟩:=s.pin x hx
  have hne:i≠x.1:=fun z=>by
   rw [←z,hm] at p1;exact hns (zE p1)
  exact ⟨p1,by rw [zl hne]; exact p2,by rw [zl hne]; exact p3⟩
theorem SlO.setV {i:Nat}{v:V}{d:D} (s:SlO K md P ρ σ H F as) (hm:md[i]? = some .v) (hv:Rp K F as v d):SlO K md P (ρ.set i (some d)) (σ.set i (some v)) H F as :=
 s.set hm (by decide) hv fun _ _ _ _ z=>nomatch z
theorem SlO.setN {i:Nat}{v:V}{d:D} (s:SlO K md P ρ σ H F as) (hm:md[i]? = some .o) (hn:QeC d=true) (hv:Rp K F as v d):SlO K md P (ρ.set i (some d)) (σ.set i (some v)) H F as :=
 s.set hm (by decide) (.inl ⟨hn,hv⟩) fun _ _ _ _ _ _ z=>by subst z; cases hn
theorem SlO.setO {i:Nat}{v:V}{d:D}{H0:Hp} (s:SlO K md P ρ σ H0 F as) (g:Gr H0 F as H' F' as') (hm:md[i]? = some .o) (hv:Ow K (fun a=>H0 a=none) H' F' as' v d):SlO K md P (ρ.set i (some d)) (σ.set i (some v)) H' F' as':=by
 have s':=s.step g
 rcases hv with ⟨hn,hv⟩ | ⟨a,xs,ds,rfl,rfl,e3,e4,e5,e6,e7⟩
 ·exact s'.setN hm hn hv
 ·refine s'.set hm (by decide) (.inr ⟨a,xs,ds,rfl,rfl,e3,e4,e5,fun p=>s.pd a p e6,e7⟩) fun b ds' j es _ hb hd hij hj he hs=>?_
  cases hb;obtain ⟨v,h1,h2⟩:=s.sl j .o _ hj he;rw [hs] at h1; cases h1
  rcases h2 with ⟨h2,_⟩ | ⟨a',xs',_,z1,_,z3,_⟩
  ·cases h2
  ·cases z1;rw [e6] at z3; cases z3
end
section
variable {X:Cx}{md:List Md}{P:Pt}{R:RR}
def QaH:MS:=fun ρ O=>.nx ρ O
def Qah (a b:MS):MS:=fun ρ O=>match a ρ O with
 | .nx ρ' O'=>b ρ' O'
 | r=>r
theorem Qbh:VSs X md P R [] QaH:=QkH.imp fun D σ H q=>by
 obtain ⟨ρ,O,F,as,r,s,k⟩:=q;exact k σ H F as GrS.refl r s
theorem QdC {K:Frag}{mg:Str→Option Value}{D:Ends}{H F H1 F1:Hp}{as as1:List Addr} (g:GrS P H F as H1 F1 as1) {f:Fl} (k:Qic K mg md P R D H F as f):Qic K mg md P R D H1 F1 as1 f:=by
 cases f with
 | nx ρ' O'=>exact fun σ' H' F' as' g'=>k σ' H' F' as' (g.trans g')
 | bk ρ' O'=>exact fun σ' H' F' as' g'=>k σ' H' F' as' (g.trans g')
 | ct ρ' O'=>exact fun σ' H' F' as' g'=>k σ' H' F' as' (g.trans g')
 | rt d O'=>exact fun σ' H' F' as' g'=>k σ' H' F' as' (g.trans g')
 | ex _ _=>exact k
 | no=>exact k
theorem Qam {st:Stmt}{rest:List Stmt}{a b:MS} (h1:VS X md P R st a) (h2:VSs X md P R rest b):VSs X md P R (st::rest) (Qah a b):=(QhJ h1 h2).imp fun D σ H q=>by
 obtain ⟨ρ,O,F,as,r,s,k⟩:=q;refine ⟨ρ,O,F,as,r,s,?_⟩;unfold Qah at k
 cases e:a ρ O with
 | nx ρ' O' =>
  rw [e] at k;dsimp only at k
  exact fun σ' H' F' as' g r' s'=>⟨ρ',O',F',as',r',s',QdC g k⟩
 | bk ρ' O'=>rw [e] at k; exact k
 | ct ρ' O'=>rw [e] at k; exact k
 | rt d O'=>rw [e] at k; exact k
 | ex x O'=>rw [e] at k; exact k
 | no=>rw [e] at k; exact k
theorem Qat {st:Stmt}{a:MS} (h1:VS X md P R st a):VSs X md P R [st] a:=QkP h1
def Qlq:MS:=fun ρ O=>.bk ρ O
theorem Qsl {pos:Pos}:VS X md P R (.Break pos) Qlq:=Qrv.imp fun D σ H q=>by
 obtain ⟨ρ,O,F,as,r,s,k⟩:=q;exact k σ H F as GrS.refl r s
def QhZ (m:M D):MS:=fun ρ O=>match m ρ O with
 | .ok _ O'=>.nx ρ O'
 | .ex x O'=>.ex x O'
 | .no=>.no
theorem Qua {e:Expr}{pos:Pos}{m:M D} (h:SE X md P e m) (hs:swapsWith e none pos.line X.env=pure false:=by rfl):VS X md P R (.Expr e pos) (QhZ m):=(Qnt h hs).imp fun D σ H q=>by
 obtain ⟨ρ,O,F,as,r,s,k⟩:=q;unfold QhZ at k
 cases e:m ρ O with
 | ok d O' =>
  rw [e] at k;exact ⟨ρ,_,F,as,_,_,r,s,e,fun v H' F' as' g r' _=>k σ H' F' as' g.toS r' (s.step g)⟩
 | ex x O'=>rw [e] at k; exact False.elim k
 | no=>rw [e] at k; exact False.elim k
def QaB (m:M D):MS:=fun ρ O=>match m ρ O with
 | .ok d O'=>.rt d O'
 | .ex x O'=>.ex x O'
 | .no=>.no
theorem Qpz (hR:Qeb R) {e:Expr}{pos:Pos}{m:M D} (h:PE X e (tM X.K X.mg md P R m)):VS X md P R (.Return (some e) pos) (QaB m):=(Qpo h).imp fun D σ H q=>by
 obtain ⟨ρ,O,F,as,r,s,k⟩:=q;unfold QaB at k
 cases e:m ρ O with
 | ok d O' =>
  rw [e] at k;exact ⟨ρ,_,F,as,_,_,r,s,e,fun v H' F' as' g r' hv=>k v H' F' as' g.toS r' (hR _ _ _ _ _ _ _ (fun a ha p=>s.pd a p ha) hv)⟩
 | ex x O'=>rw [e] at k; exact False.elim k
 | no=>rw [e] at k; exact False.elim k
theorem QaQ {e:Expr}{pos:Pos}{m:M D} (h:VE X md P e m):VS X md P (rV X.K) (.Return (some e) pos) (QaB m):=Qpz Qbl h
theorem Qc0 {e:Expr}{pos:Pos}{m:M D} (h:OE X md P e m):VS X md P (rO X.K) (.Return (some e) pos) (QaB m):=Qpz QcB h
theorem QgF (i:Nat) {x:Str}{p pos:Pos} (hm:md[i]? = some .o:=by rfl) (hN:X.N[i]? = some x:=by rfl) (hv:Vis X.env.scope x:=by first | exact Or.inl rfl | exact Or.inr (Or.inl rfl) | exact Or.inr (Or.inr rfl))
  (hd:(x == ("__debug__":Str))=false:=by decide) (hcd:(x == ("__classdict__":Str))=false:=by decide):VS X md P (rO X.K) (.Return (some (.Name x p)) pos) (QaB (Qab i)):=(Qpo (Qe0 (i:=i) hN hv hd hcd)).imp fun D σ H q=>by
 obtain ⟨ρ,O,F,as,r,s,k⟩:=q;unfold QaB at k
 cases e:Qab i ρ O with
 | ok d O' =>
  rw [e] at k;obtain ⟨e1,rfl⟩:=Qky e;obtain ⟨v,h1,h2⟩:=s.sl i .o d hm e1;refine ⟨v,h1,k v H F as GrS.refl r ?_⟩
  rcases h2 with h2 | ⟨a,xs,ds,e1,e2,e3,e0,e4,e5,e6⟩
  ·exact .inl h2
  ·exact .inr ⟨a,xs,ds,e1,e2,e3,e0,e4,e5,e6⟩
 | ex x O'=>rw [e] at k; exact False.elim k
 | no=>rw [e] at k; exact False.elim k
def QaX (t:M Bool) (a b:MS):MS:=fun ρ O=>match t ρ O with
 | .ok c O'=>if c=true then a ρ O' else b ρ O'
 | .ex x O'=>.ex x O'
 | .no=>.no
theorem QbH {c:Expr}{a b:List Stmt}{pos:Pos}{t:M Bool}{ma mb:MS} (hc:TsE X md P c t) (ha:VSs X md P R a ma) (hb:VSs X md P R b mb):VS X md P R (.If c a b pos) (QaX t ma mb):=(Qoy hc ha hb).imp fun D σ H q=>by
 obtain ⟨ρ,O,F,as,r,s,k⟩:=q;unfold QaX at k
 cases e:t ρ O with
 | ok c O' =>
  rw [e] at k;refine ⟨ρ,_,F,as,_,_,r,s,e,fun H1 F1 as1 g r1=>?_⟩;dsimp only at k
  cases c with
  | true =>
   rw [if_pos rfl] at k ⊢;exact ⟨ρ,O',F1,as1,r1,s.step g,QdC g.toS k⟩
  | false =>
   rw [if_neg zg] at k ⊢;exact ⟨ρ,O',F1,as1,r1,s.step g,QdC g.toS k⟩
 | ex x O'=>rw [e] at k; exact False.elim k
 | no=>rw [e] at k; exact False.elim k
def Qan (i:Nat) (m:M D):MS:=fun ρ O=>match m ρ O with
 | .ok d O'=>.nx (ρ.set i (some d)) O'
 | .ex x O'=>.ex x O'
 | .no=>.no
theorem Qn9 {K:Frag}{mg:Str→Option Value}{i:Nat}{m:M D}{t:TE} (hm:md[i]? = some .v) (ht:∀σ H Q,tM K mg md P (rV K) m σ H Q→t σ H Q) {D:Ends}{σ:St}{H:Hp} (q:tMS K mg md P R (Qan i m) D σ H):Qpa t (QjJ i) D σ H:=by
 obtain ⟨ρ,O,F,as,r,s,k⟩:=q;unfold Qan at k
 cases e:m ρ O with
 | ok d O' =>
  rw [e] at k;exact ht _ _ _ ⟨ρ,_,F,as,_,_,r,s,e,fun v H' F' as' g r' hv=>k _ H' F' as' g.toS r' ((s.step g).setV hm hv)⟩
 | ex x O'=>rw [e] at k; exact False.elim k
 | no=>rw [e] at k; exact False.elim k
theorem QtW {K:Frag}{mg:Str→Option Value}{i:Nat}{m:M D}{t:TE} (hm:md[i]? = some .o) (ht:∀σ H Q,tM K mg md P (rO K) m σ H Q→t σ H Q) {D:Ends}{σ:St}{H:Hp} (q:tMS K mg md P R (Qan i m) D σ H):Qpa t (QjJ i) D σ H:=by
 obtain ⟨ρ,O,F,as,r,s,k⟩:=q;unfold Qan at k
 cases e:m ρ O with
 | ok d O' =>
  rw [e] at k;exact ht _ _ _ ⟨ρ,_,F,as,_,_,r,s,e,fun v H' F' as' g r' hv=>k _ H' F' as' g.toS r' (s.setO g hm hv)⟩
 | ex x O'=>rw [e] at k; exact False.elim k
 | no=>rw [e] at k; exact False.elim k
theorem Qax {i:Nat}{x:Str}{e:Expr}{pos pos':Pos}{m:M D} (hN:X.N.Nodup) (hi:X.N[i]? = some x) (hx:Loc X.env.scope x) (h:VE X md P e m) (hm:md[i]? = some .v:=by rfl) (hs:swapsWith e (some (.Name x pos')) pos.line X.env=pure false:=by rfl)
  (hf:X.fn x=true∨X.env.scope.names.lookup x=some .local:=by first | exact .inl rfl | exact .inr rfl | assumption):VS X md P R (.Assign [.Name x pos'] e pos) (Qan i m):=(Qh6 (i:=i) hN hi hx h hs hf).imp fun D σ H q=>Qn9 hm (fun _ _ _ z=>z) q
theorem Qd0 {i:Nat}{x:Str}{e:Expr}{pos pos':Pos}{m:M D} (hN:X.N.Nodup) (hi:X.N[i]? = some x) (hx:Loc X.env.scope x) (h:OE X md P e m) (hm:md[i]? = some .o:=by rfl) (hs:swapsWith e (some (.Name x pos')) pos.line X.env=pure false:=by rfl)
  (hf:X.fn x=true∨X.env.scope.names.lookup x=some .local:=by first | exact .inl rfl | exact .inr rfl | assumption):VS X md P R (.Assign [.Name x pos'] e pos) (Qan i m):=(Qh6 (i:=i) hN hi hx h hs hf).imp fun D σ H q=>QtW hm (fun _ _ _ z=>z) q
abbrev MG:=D→Qak→Option Qak
def tMG (K:Frag) (mg:Str→Option Value) (md:List Md) (P:Pt) (g:MG):TG:=fun v σ H Q=>∃ρ O F as d ρ',RlO K mg O H F as∧SlO K md P ρ σ H F as∧Rp K F as v d∧g d ρ=some ρ'∧∀σ',SlO K md P ρ' σ' H F as→Q σ' H
def Qyj (K:Frag) (mg:Str→Option Value) (md:List Md) (P:Pt) (g:List D→Qak→Option Qak):TGs:=fun vs σ H Q=>∃ρ O F as ds ρ',RlO K mg O H F as∧SlO K md P ρ σ H F as∧Rps K F as vs ds∧g ds ρ=some ρ'∧∀σ',SlO K md P ρ' σ' H F as→Q σ' H
def VG (X:Cx) (md:List Md) (P:Pt) (tg:Expr) (g:MG):Prop:=PG X tg (tMG X.K X.mg md P g)
def VGs (X:Cx) (md:List Md) (P:Pt) (tg:List Expr) (g:List D→Qak→Option Qak):Prop:=PGs X tg (Qyj X.K X.mg md P g)
theorem PG.imp {e:Expr}{t t':TG} (h:PG X e t) (k:∀v σ H Q,t' v σ H Q→t v σ H Q):PG X e t':=fun pins s σ H v u Q I r q=>h pins s σ H v u Q I r (k v σ H Q q)
theorem PGs.imp {e:List Expr}{t t':TGs} (h:PGs X e t) (k:∀v σ H Q,t' v σ H Q→t v σ H Q):PGs X e t':=fun pins s σ H v u Q I r q=>h pins s σ H v u Q I r (k v σ H Q q)
def mgN (i:Nat):MG:=fun d ρ=>some (ρ.set i (some d))
theorem QbA {i:Nat}{x:Str}{pos:Pos} (hN:X.N.Nodup) (hi:X.N[i]? = some x) (hx:Loc X.env.scope x) (hm:md[i]? = some .v:=by rfl) (hf:X.fn x=true∨X.env.scope.names.lookup x=some .local:=by first | exact .inl rfl | exact .inr rfl | assumption):VG X md P (.Name x pos) (mgN i) :=
 (QtL (i:=i) hN hi hx hf).imp fun v σ H Q q=>by
  obtain ⟨ρ,O,F,as,d,ρ',r,s,hv,e,k⟩:=q;cases e;exact k _ (s.setV hm hv)
def QjD:List D→Qak→Option Qak:=fun ds ρ=>match ds with
 | []=>some ρ
 | _=>none
def QdZ (g:MG) (r:List D→Qak→Option Qak):List D→Qak→Option Qak:=fun ds ρ=>match ds with
 | d::ds=>(g d ρ).bind fun ρ1=>r ds ρ1
 | []=>none
theorem QtM:VGs X md P [] QjD:=Qt9.imp fun v σ H Q q=>by
 obtain ⟨ρ,O,F,as,ds,ρ',r,s,hv,e,k⟩:=q
 cases ds with
 | nil=>cases e; exact ⟨hv.un0,k _ s⟩
 | cons _ _=>cases e
theorem Ql8 {e:Expr}{es:List Expr}{g:MG}{r:List D→Qak→Option Qak} (h1:VG X md P e g) (h2:VGs X md P es r) (hs:(assignEach (e::es) X.env).map (·.2)=assign e X.env::(assignEach es X.env).map (·.2):=by rfl):VGs X md P (e::es) (QdZ g r) :=
 (QrI h1 h2 hs).imp fun v σ H Q q=>by
  obtain ⟨ρ,O,F,as,ds,ρ',r0,s,hv,e,k⟩:=q
  cases ds with
  | nil=>cases e
  | cons d ds =>
   obtain ⟨x,rs,rfl,hx,hr⟩:=hv.un;unfold QdZ at e;dsimp only at e
   cases e1:g d ρ with
   | none=>rw [e1] at e; cases e
   | some ρ1 =>
    rw [e1] at e;exact ⟨x,rs,rfl,ρ,O,F,as,d,ρ1,r0,s,hx,e1,fun σ' s'=>⟨ρ1,O,F,as,ds,ρ',r0,s',hr,e,k⟩⟩
def QlJ (n:Nat) (r:List D→Qak→Option Qak):MG:=fun d ρ=>match d with
 | .tup ds=>if ds.length=n then r ds ρ else none
 | _=>none
theorem QuX {es:List Expr}{pos:Pos}{k:Nat}{r:List D→Qak→Option Qak} (n:Nat) (hc:X.calm=true) (h:VGs X md P es r) (hn:(assignEach es X.env).length=n:=by rfl) (hst:(assignEach es X.env).findIdx? (·.1)=none:=by rfl):VG X md P (.Tuple es k pos) (QlJ n r) :=
 (Qv6 hc h hn hst).imp fun v σ H Q q=>by
  obtain ⟨ρ,O,F,as,d,ρ',r0,s,hv,e,k⟩:=q
  cases d with
  | tup ds =>
   obtain ⟨a,xs,rfl,h1,h2⟩:=hv.unT;unfold QlJ at e;dsimp only at e;split at e
   ·rename_i hl;exact ⟨a,xs,rfl,Same.seqT r0.fh h1,by rw [h2.length]; exact hl,ρ,O,F,as,ds,ρ',r0,s,h2,e,k⟩
   ·cases e
  | _=>cases e
def QxA (m:M D) (g:MG):MS:=fun ρ O=>match m ρ O with
 | .ok d O'=>match g d ρ with
  | some ρ'=>.nx ρ' O'
  | none=>.no
 | .ex x O'=>.ex x O'
 | .no=>.no
end
structure JOk (K:Frag) (mg:Str→Option Value) (P:Pt) (J:It) (ds:List D) (H F:Hp) (as:List Addr):Prop where
 turn:∀(i:Nat) (d:D) (H2 F2:Hp) (as2:List Addr),GrS P H F as H2 F2 as2→(∃O,RlO K mg O H2 F2 as2)→ds[i]? = some d→J.go i H2∧∀x H3,J.yld i H2 x H3→∃F3,Gr H2 F2 as2 H3 F3 as2∧(∀O,RlO K mg O H2 F2 as2→RlO K mg O H3 F3 as2)∧Rp K F3 as2 x d
 stop:∀(H2 F2:Hp) (as2:List Addr),GrS P H F as H2 F2 as2→(∃O,RlO K mg O H2 F2 as2)→J.stop ds.length H2
structure QvW (K:Frag) (mg:Str→Option Value) (J:It) (ds:List D) (H F:Hp) (as:List Addr):Prop where
 turn:∀(i:Nat) (d:D) (H2 F2:Hp) (as2:List Addr),Gr H F as H2 F2 as2→(∃O,RlO K mg O H2 F2 as2)→ds[i]? = some d→J.go i H2∧∀x H3,J.yld i H2 x H3→∃F3,Gr H2 F2 as2 H3 F3 as2∧(∀O,RlO K mg O H2 F2 as2→RlO K mg O H3 F3 as2)∧Rp K F3 as2 x d
 stop:∀(H2 F2:Hp) (as2:List Addr),Gr H F as H2 F2 as2→(∃O,RlO K mg O H2 F2 as2)→J.stop ds.length H2
theorem JOk.e {K:Frag}{mg:Str→Option Value}{P:Pt}{J:It}{ds:List D}{H F:Hp}{as:List Addr} (h:JOk K mg P J ds H F as):QvW K mg J ds H F as:=⟨fun i d H2 F2 as2 g=>h.turn i d H2 F2 as2 g.toS,fun H2 F2 as2 g=>h.stop H2 F2 as2 g.toS⟩
def Qv5 (K:Frag) (mg:Str→Option Value) (md:List Md) (P:Pt) (m:M (List D)):TI:=fun σ H Q=>∃ρ O F as ds O',RlO K mg O H F as∧SlO K md P ρ σ H F as∧m ρ O = .ok ds O' ∧
 ∀J H' F' as',Gr H F as H' F' as'→RlO K mg O' H' F' as'→QvW K mg J ds H' F' as'→Q J H'
def VIc (X:Cx) (md:List Md) (P:Pt) (tg iter:Expr) (m:M (List D)):Prop:=PI X tg iter (Qv5 X.K X.mg md P m)
def tMI (K:Frag) (mg:Str→Option Value) (md:List Md) (P:Pt) (m:M (List D)):TI:=fun σ H Q=>∃ρ O F as ds O',RlO K mg O H F as∧SlO K md P ρ σ H F as∧m ρ O = .ok ds O' ∧
 ∀J H' F' as',Gr H F as H' F' as'→RlO K mg O' H' F' as'→JOk K mg P J ds H' F' as'→Q J H'
def VI (X:Cx) (md:List Md) (P:Pt) (tg iter:Expr) (m:M (List D)):Prop:=PI X tg iter (tMI X.K X.mg md P m)
section
variable {X:Cx}{md:List Md}{P:Pt}{R:RR}
theorem PI.imp {tg e:Expr}{t t':TI} (h:PI X tg e t) (k:∀σ H Q,t' σ H Q→t σ H Q):PI X tg e t':=fun pins s σ H Q I q=>h pins s σ H Q I (k σ H Q q)
theorem Qjz {tg e:Expr}{m:M (List D)} (h:VI X md P tg e m):VIc X md P tg e m:=h.imp fun σ H Q q=>by
 obtain ⟨ρ,O,F,as,ds,O',r,s,e,k⟩:=q;exact ⟨ρ,O,F,as,ds,O',r,s,e,fun J H' F' as' g r' hJ=>k J H' F' as' g r' hJ.e⟩
def Qbw (g:MG) (b:MS):List D→MS
 | [],ρ,O=>.nx ρ O
 | d::ds,ρ,O=>match g d ρ with
  | none=>.no
  | some ρ1=>match b ρ1 O with
   | .nx ρ2 O2=>Qbw g b ds ρ2 O2
   | .ct ρ2 O2=>Qbw g b ds ρ2 O2
   | .bk ρ2 O2=>.nx ρ2 O2
   | r=>r
def QbI (m:M (List D)) (g:MG) (b:MS):MS:=fun ρ O=>match m ρ O with
 | .ok ds O'=>Qbw g b ds ρ O'
 | .ex x O'=>.ex x O'
 | .no=>.no
theorem Qwn {K:Frag}{mg:Str→Option Value}{m:M (List D)}{g:MG}{b:MS}{D:Ends}{σ:St}{H:Hp} (q:tMS K mg md P R (QbI m g b) D σ H):Qwz (tMI K mg md P m) (tMG K mg md P g) (tMS K mg md P R b) D σ H:=by
 obtain ⟨ρ,O,F,as,r,s,k⟩:=q;unfold QbI at k
 cases e:m ρ O with
 | ex x O'=>rw [e] at k; exact False.elim k
 | no=>rw [e] at k; exact False.elim k
 | ok ds O1 =>
  rw [e] at k;dsimp only at k;refine ⟨ρ,_,F,as,_,_,r,s,e,fun J H1 F1 as1 g1 r1 hJ=>?_⟩;have k1:=QdC (R:=R) g1.toS k;refine ⟨fun i m σ' H'=>m=ds.length - i∧i≤ds.length∧∃ρ' O' F' as',GrS P H1 F1 as1 H' F' as'∧RlO K mg O' H' F' as'∧SlO K md P ρ' σ' H' F' as'∧Qic K mg md P R D H' F' as' (Qbw g b (ds.drop i) ρ' O'),⟨ds.length,by simp,Nat.zero_le _,ρ,O1,F1,as1,GrS.refl,r1,s.step g1,by rw [List.drop_zero]; exact k1⟩,?_⟩;rintro i n σ' H' ⟨rfl,hi,ρ',O',F',as',g',r',s',k'⟩
  by_cases hlt:i < ds.length
  ·have hd:=zq hlt;obtain ⟨go,yl⟩:=hJ.turn i _ H' F' as' g' ⟨O',r'⟩ hd;rw [List.drop_eq_getElem_cons hlt] at k';refine .inr ⟨go,fun σ2 H2=>∃ρ2 O2 F2 as2,GrS P H1 F1 as1 H2 F2 as2∧RlO K mg O2 H2 F2 as2∧SlO K md P ρ2 σ2 H2 F2 as2∧Qic K mg md P R D H2 F2 as2 (Qbw g b (ds.drop (i+1)) ρ2 O2),fun σ2 H2 h2=>⟨ds.length - (i+1),by omega,rfl,hlt,h2⟩,fun x H3 y=>?_⟩;obtain ⟨F3,g3,r3,hx⟩:=yl x H3 y;have r3':=r3 O' r';unfold Qbw at k'
   cases eg:g ds[i] ρ' with
   | none=>rw [eg] at k'; exact False.elim k'
   | some ρ1 =>
    rw [eg] at k';dsimp only at k';refine ⟨ρ',O',F3,as',ds[i],ρ1,r3',s'.step g3,hx,eg,fun σ4 s4=>?_⟩;refine ⟨ρ1,O',F3,as',r3',s4,?_⟩;have g4:GrS P H1 F1 as1 H3 F3 as':=g'.trans g3.toS
    have keep:=fun {f}=>QdC (K:=K) (mg:=mg) (md:=md) (R:=R) (D:=D) (f:=f) (g3.toS (P:=P))
    cases eb:b ρ1 O' with
    | nx ρ2 O2 =>
     rw [eb] at k'
     exact fun σ2 H2 F2 as2 g2 r2 s2=>⟨ρ2,O2,F2,as2,g4.trans g2,r2,s2,QdC g2 (keep k')⟩
    | ct ρ2 O2 =>
     rw [eb] at k'
     exact fun σ2 H2 F2 as2 g2 r2 s2=>⟨ρ2,O2,F2,as2,g4.trans g2,r2,s2,QdC g2 (keep k')⟩
    | bk ρ2 O2 =>
     rw [eb] at k'
     exact fun σ2 H2 F2 as2 g2 r2 s2=>k' σ2 H2 F2 as2 (g3.toS.trans g2) r2 s2
    | rt d O2 =>
     rw [eb] at k'
     exact fun v H2 F2 as2 g2 r2 s2=>k' v H2 F2 as2 (g3.toS.trans g2) r2 s2
    | ex _ _=>rw [eb] at k'; exact False.elim k'
    | no=>rw [eb] at k'; exact False.elim k'
  ·have hi':i=ds.length:=by omega
   subst hi';refine .inl ⟨hJ.stop H' F' as' g' ⟨O',r'⟩,?_⟩;rw [List.drop_length] at k';exact k' σ' H' F' as' GrS.refl r' s'
theorem QdH {tg iter:Expr}{body:List Stmt}{pos:Pos}{m:M (List D)}{g:MG}{b:MS} (hc:X.calm=true) (hi:VI X md P tg iter m) (hg:VG X md P tg g) (hb:VSs X md P R body b) (hp:PassesOwn (model X.prog X.w) X.A X.env X.xe:=by exact PassesOwn.never)
  (hs:∀x,foldedSetIterable iter X.env x=pure x:=by intro _; rfl):VS X md P R (.For tg iter body [] pos) (QbI m g b):=(QuU hp hc hi hg hb hs).imp fun _ _ _ q=>Qwn q
def QbW (t:M Bool) (b:MS):Nat→MS
 | 0,_,_=>.no
 | n+1,ρ,O=>match t ρ O with
  | .ok true O1=>match b ρ O1 with
   | .nx ρ2 O2=>QbW t b n ρ2 O2
   | .ct ρ2 O2=>QbW t b n ρ2 O2
   | .bk ρ2 O2=>.nx ρ2 O2
   | r=>r
  | .ok false O1=>.nx ρ O1
  | .ex x O'=>.ex x O'
  | .no=>.no
def QcJ (n:Nat) (t:M Bool) (b:MS):MS:=QbW t b n
theorem Qsh {K:Frag}{mg:Str→Option Value}{n:Nat}{t:M Bool}{b:MS}{D:Ends}{σ:St}{H:Hp} (q:tMS K mg md P R (QcJ n t b) D σ H):Qqi (tMT K mg md P t) (tMS K mg md P R b) D σ H:=by
 refine ⟨fun n σ' H'=>tMS K mg md P R (QbW t b n) D σ' H',⟨n,q⟩,?_⟩;rintro m σ1 H1 ⟨ρ,O,F,as,r,s,k⟩
 cases m with
 | zero=>exact False.elim k
 | succ m =>
  unfold QbW at k
  cases e:t ρ O with
  | ex x O'=>rw [e] at k; exact False.elim k
  | no=>rw [e] at k; exact False.elim k
  | ok c O1 =>
   rw [e] at k;refine ⟨ρ,_,F,as,_,_,r,s,e,fun H2 F2 as2 g2 r2=>?_⟩
   cases c with
   | false =>
    rw [if_neg zg];exact k σ1 H2 F2 as2 g2.toS r2 (s.step g2)
   | true =>
    rw [if_pos rfl];refine ⟨fun σ' H'=>tMS K mg md P R (QbW t b m) D σ' H',fun σ' H' h'=>⟨m,ji m,h'⟩,ρ,O1,F2,as2,r2,s.step g2,?_⟩;dsimp only at k
    have keep:=fun {f}=>QdC (K:=K) (mg:=mg) (md:=md) (R:=R) (D:=D) (f:=f) (g2.toS (P:=P))
    cases eb:b ρ O1 with
    | nx ρ2 O2 =>
     rw [eb] at k
     exact fun σ3 H3 F3 as3 g3 r3 s3=>⟨ρ2,O2,F3,as3,r3,s3,QdC g3 (keep k)⟩
    | ct ρ2 O2 =>
     rw [eb] at k
     exact fun σ3 H3 F3 as3 g3 r3 s3=>⟨ρ2,O2,F3,as3,r3,s3,QdC g3 (keep k)⟩
    | bk ρ2 O2 =>
     rw [eb] at k
     exact fun σ3 H3 F3 as3 g3 r3 s3=>k σ3 H3 F3 as3 (g2.toS.trans g3) r3 s3
    | rt d O2 =>
     rw [eb] at k
     exact fun σ3 H3 F3 as3 g3 r3 s3=>k σ3 H3 F3 as3 (g2.toS.trans g3) r3 s3
    | ex _ _=>rw [eb] at k; exact False.elim k
    | no=>rw [eb] at k; exact False.elim k
theorem Qg2 (n:Nat) {c:Expr}{body:List Stmt}{pos:Pos}{t:M Bool}{b:MS} (hc:TsE X md P c t) (hb:VSs X md P R body b) (hp:PassesOwn (model X.prog X.w) X.A X.env X.xe:=by exact PassesOwn.never):VS X md P R (.While c body [] pos) (QcJ n t b) :=
 (Qrh hp hc hb).imp fun _ _ _ q=>Qsh q
def QbK (g:MG) (t:M Bool) (m:M D):List D→Qak→Qac→List D→Res (List D)
 | [],ρ,O,acc=>.ok acc O
 | d::ds,ρ,O,acc=>match g d ρ with
  | none=>.no
  | some ρ1=>match t ρ1 O with
   | .ok true O1=>match m ρ1 O1 with
    | .ok y O2=>QbK g t m ds ρ1 O2 (acc ++ [y])
    | .ex x O'=>.ex x O'
    | .no=>.no
   | .ok false O1=>QbK g t m ds ρ1 O1 acc
   | .ex x O'=>.ex x O'
   | .no=>.no
def QgY (own:Nat) (cap:List Nat) (ρ:Qak):Qak:=List.replicate own none++cap.map fun j=>(ρ[j]?).join
def Qcb (m:M (List D)) (own:Nat) (cap:List Nat) (g:MG) (t:M Bool) (e:M D):M D:=fun ρ O=>(m ρ O).bind fun ds O1=>if ds.length≤1000000 then (QbK g t e ds (QgY own cap ρ) O1 []).bind fun ys O2=>.ok (.lst ys) O2 else .no
def QdQ:M Bool:=fun _ O=>.ok true O
def cMd (own:Nat) (cap:List Nat) (md:List Md):List Md:=List.replicate own .v++cap.map fun j=>match md[j]? with
 | some .v=>.v
 | _=>.s
theorem Qpc {K:Frag}{ρ:Qak}{σ:St}{H F:Hp}{as:List Addr}{own:List Str}{cap:List Nat} (s:SlO K md P ρ σ H F as) (hcap:∀j∈cap,j < md.length):SlO K (cMd own.length cap md) (Pt.all H) (QgY own.length cap ρ) (compSt own cap σ) H F as:=by
 refine ⟨by simp [compSt,cMd],by simp [QgY,cMd],fun a h=>h,fun i m d e1 e2=>?_,fun i j a ds es h1=>?_,fun _ z=>nomatch z⟩
 ·unfold QgY at e2;unfold cMd at e1;unfold compSt
  by_cases hi:i < own.length
  ·rw [zz (by simpa using hi),List.getElem?_replicate_of_lt hi] at e2;cases e2
  ·have hi':own.length≤i:=Nat.le_of_not_lt hi;rw [zK (by simpa using hi'),List.length_replicate,zx] at e2 e1;rw [zK (by simpa using hi'),zh,zx]
   cases q:cap[i - own.length]? with
   | none=>rw [q] at e2; cases e2
   | some j =>
    rw [q] at e1 e2;simp only [Option.map_some,Option.some.injEq] at e1 e2 ⊢
    cases q2:ρ[j]? with
    | none=>rw [q2] at e2; cases e2
    | some o =>
     rw [q2] at e2;have e2':o=some d:=e2;subst e2';obtain ⟨m0,v,h1,h2,h3⟩:=s.get q2;rw [h1] at e1;refine ⟨v,by rw [h2]; rfl,?_⟩
     cases m0 with
     | v=>dsimp only at e1; subst e1; exact h3
     | s =>
      dsimp only at e1; subst e1
      rcases h3 with h3 | ⟨a,xs,ds,e1,e2,e3,e4,e5,e6⟩
      ·exact .inl h3
      ·exact .inr ⟨a,xs,ds,e1,e2,e3,e4,(show H a≠none by rw [e3]; exact fun z=>nomatch z),e6⟩
     | o =>
      dsimp only at e1; subst e1
      rcases h3 with ⟨_,h3⟩ | ⟨a,xs,ds,e1,e2,e3,e0,e4,e5,e6⟩
      ·exact .inl h3
      ·exact .inr ⟨a,xs,ds,e1,e2,e3,e4,(show H a≠none by rw [e3]; exact fun z=>nomatch z),e6⟩
 ·exfalso
  unfold cMd at h1
  by_cases hi:i < own.length
  ·rw [zz (by simpa using hi),List.getElem?_replicate_of_lt hi] at h1;cases h1
  ·have hi':own.length≤i:=Nat.le_of_not_lt hi;rw [zK (by simpa using hi'),List.length_replicate,zx] at h1
   cases q:cap[i - own.length]? with
   | none=>rw [q] at h1; cases h1
   | some j =>
    rw [q] at h1;simp only [Option.map_some,Option.some.injEq] at h1
    split at h1 <;> cases h1
end
section
variable {X:Cx}{md:List Md}{P:Pt}{R:RR}
def xM (K:Frag) (mg:Str→Option Value) (md:List Md) (R:RR) (m:M D):TE:=fun σ H Q=>∃P,tM K mg md P R m σ H Q
def xMT (K:Frag) (mg:Str→Option Value) (md:List Md) (m:M Bool):TT:=fun σ H Q=>∃P,tMT K mg md P m σ H Q
def xMG (K:Frag) (mg:Str→Option Value) (md:List Md) (g:MG):TG:=fun v σ H Q=>∃P,tMG K mg md P g v σ H Q
theorem xm {e:Expr}{m:M D} (h:∀P,PE X e (tM X.K X.mg md P R m)):PE X e (xM X.K X.mg md R m):=fun pins s σ H Q I ⟨P,q⟩=>h P pins s σ H Q I q
theorem xmg {e:Expr}{g:MG} (h:∀P,VG X md P e g):PG X e (xMG X.K X.mg md g):=fun pins s σ H v u Q I r ⟨P,q⟩=>h P pins s σ H v u Q I r q
theorem xmt {e:List Expr}{m:M Bool} (h:∀P,Qit X e (tMT X.K X.mg md P m)):Qit X e (xMT X.K X.mg md m):=fun pins s σ H Q I ⟨P,q⟩=>h P pins s σ H Q I q
def VIf (X:Cx) (md:List Md) (P:Pt) (e:List Expr) (m:M Bool):Prop:=Qit X e (tMT X.K X.mg md P m)
theorem QgP:VIf X md P [] QdQ:=fun pins s σ H Q I q=>by
 obtain ⟨ρ,O,F,as,d,O',r,s,e,k⟩:=q;cases e;exact QrG pins _ σ H Q I (k H F as Gr.refl r)
theorem QnZ {c:Expr}{m:M Bool} (h:TsE X md P c m):VIf X md P [c] m:=Qso h
theorem Qnr {K:Frag}{mg:Str→Option Value}{m:M (List D)}{own:List Str}{cap:List Nat}{g:MG}{t:M Bool}{e:M D} (hcap:∀j∈cap,j < md.length) {σ:St}{H:Hp}{Q:VK} (q:tM K mg md P (rO K) (Qcb m own.length cap g t e) σ H Q) :
  Qok (Qv5 K mg md P m) own cap (xMG K mg (cMd own.length cap md) g) (xMT K mg (cMd own.length cap md) t) (xM K mg (cMd own.length cap md) (rV K) e) σ H Q:=by
 obtain ⟨ρ,O,F,as,d,OZ,r,s,eq,k⟩:=q;obtain ⟨ds,O1,e1,eq⟩:=Res.bind_ok eq;split at eq
 ·rename_i hz;obtain ⟨yf,O2,e2,eq⟩:=Res.bind_ok eq;cases eq;refine ⟨ρ,_,F,as,_,_,r,s,e1,fun J H1 F1 as1 g1 r1 hJ=>?_⟩;have sb:=Qpc (own:=own) (s.step g1) hcap
  refine ⟨fun i n ys σ' H'=>n=ds.length - i∧i≤ds.length∧∃ρ' O' F' as' acc,Gr H1 F1 as1 H' F' as'∧RlO K mg O' H' F' as'∧SlO K (cMd own.length cap md) (Pt.all H1) ρ' σ' H' F' as'∧Rps K F' as' ys acc∧acc.length≤i ∧
   QbK g t e (ds.drop i) ρ' O' acc = .ok yf OZ,⟨ds.length,by simp,Nat.zero_le _,QgY own.length cap ρ,O1,F1,as1,[],Gr.refl,r1,sb,Rps.nil,ze _,by rw [List.drop_zero]; exact e2⟩,?_⟩
  rintro i n ys σ' H' ⟨rfl,hi,ρ',O',F',as',acc,g',r',s',hy,hl,ec⟩
  by_cases hlt:i < ds.length
  ·obtain ⟨go,yl⟩:=hJ.turn i _ H' F' as' g' ⟨O',r'⟩ (zq hlt)
   refine .inr ⟨go,?_,fun ys σ2 H2=>∃ρ2 O3 F2 as2 acc2,Gr H1 F1 as1 H2 F2 as2∧RlO K mg O3 H2 F2 as2∧SlO K (cMd own.length cap md) (Pt.all H1) ρ2 σ2 H2 F2 as2∧Rps K F2 as2 ys acc2∧acc2.length≤i+1 ∧
    QbK g t e (ds.drop (i+1)) ρ2 O3 acc2 = .ok yf OZ,fun ys2 σ2 H2 h2=>⟨ds.length - (i+1),by omega,rfl,hlt,h2⟩,fun x H3 y=>?_⟩
   ·rw [hy.length]
    have:=QdI hz
    omega
   obtain ⟨F3,g3,r3,hx⟩:=yl x H3 y;have r3':=r3 O' r';have g13:=g'.trans g3;rw [List.drop_eq_getElem_cons hlt] at ec;unfold QbK at ec
   cases eg:g ds[i] ρ' with
   | none=>rw [eg] at ec; cases ec
   | some ρ1 =>
    rw [eg] at ec;dsimp only at ec;refine ⟨_,ρ',O',F3,as',ds[i],ρ1,r3',s'.step g3,hx,eg,fun σ4 s4=>?_⟩
    cases et:t ρ1 O' with
    | ex _ _=>rw [et] at ec; cases ec
    | no=>rw [et] at ec; cases ec
    | ok c O4 =>
     rw [et] at ec;refine ⟨_,ρ1,O',F3,as',c,O4,r3',s4,et,fun H5 F5 as5 g5 r5=>?_⟩
     cases c with
     | false =>
      rw [if_neg zg];exact ⟨ρ1,O4,F5,as5,acc,g13.trans g5,r5,s4.step g5,(hy.gr g3).gr g5,by omega,ec⟩
     | true =>
      rw [if_pos rfl];dsimp only at ec
      cases em:e ρ1 O4 with
      | ex _ _=>rw [em] at ec; cases ec
      | no=>rw [em] at ec; cases ec
      | ok yd O6 =>
       rw [em] at ec;refine ⟨_,ρ1,O4,F5,as5,yd,O6,r5,s4.step g5,em,fun vy H7 F7 as7 g7 r7 hvy=>?_⟩;exact ⟨ρ1,O6,F7,as7,acc ++ [yd],(g13.trans g5).trans g7,r7,(s4.step g5).step g7,(((hy.gr g3).gr g5).gr g7).snoc hvy,by rw [zA]; show acc.length+1≤i+1; omega,ec⟩
  ·have hi':i=ds.length:=by omega
   subst hi';rw [List.drop_length] at ec;cases ec;refine .inl ⟨hJ.stop H' F' as' g' ⟨_,r'⟩,?_,fun p hp=>?_⟩
   ·rw [hy.length];exact zC hl (QdI hz)
   ·have hF:F' p=none:=by
     cases q:F' p with
     | none=>rfl
     | some o=>rw [r'.fh p o q] at hp; cases hp
    exact k _ _ F' as' ((g1.trans g').trans (Gr.lay hp)) (r'.lay hp) (.inr ⟨p,ys,yf,rfl,rfl,QaE,hF,fun z=>r'.all z hp,(g1.trans g').dm p hp,hy⟩)
 ·cases eq
variable {tg iter elt:Expr}{ifs:List Expr}{scope:Scope}{pos:Pos}{mi:M (List D)}{g:MG}{t:M Bool}{e:M D}
theorem QgD (sc0:Scope) (N0 own:List Str) (cap:List Nat) (hc:X.calm=true) (hi:VIc X md P tg iter mi)
  (hg:∀C s H ex P,VG (Qa4 X scope C (Qa2 N0 own cap) s H ex) (cMd own.length cap md) P tg g) (ht:∀C s H ex P,VIf (Qa4 X scope C (Qa2 N0 own cap) s H ex) (cMd own.length cap md) P ifs t)
  (he:∀C s H ex P,VE (Qa4 X scope C (Qa2 N0 own cap) s H ex) (cMd own.length cap md) P elt e)
  (hcap:∀j∈cap,j < md.length:=by decide) (hsc:X.env.scope=sc0:=by rfl) (hN0:X.N=N0:=by rfl) (ok:QgG sc0 N0 scope own cap=true:=by decide +kernel) (hs:∀x,foldedSetIterable iter X.env x=pure x:=by intro _; rfl) :
  OE X md P (.ListComp elt [⟨tg,iter,ifs,0⟩] scope pos) (Qcb mi own.length cap g t e) :=
 (Qti sc0 N0 own cap hc hi (fun C s H ex=>xmg (hg C s H ex)) (fun C s H ex=>xmt (ht C s H ex)) (fun C s H ex=>xm (he C s H ex)) hsc hN0 ok hs).imp fun _ _ _ q=>Qnr hcap q
theorem QlX {i:Nat}{x:Str}{pos' spos:Pos} (sc0:Scope) (N0 own:List Str) (cap:List Nat) (hN:X.N.Nodup) (hx:X.N[i]? = some x) (hl:Loc X.env.scope x) (hc:X.calm=true) (hi:VIc X md P tg iter mi)
  (hg:∀C s H ex P,VG (Qa4 X scope C (Qa2 N0 own cap) s H ex) (cMd own.length cap md) P tg g) (ht:∀C s H ex P,VIf (Qa4 X scope C (Qa2 N0 own cap) s H ex) (cMd own.length cap md) P ifs t)
  (he:∀C s H ex P,VE (Qa4 X scope C (Qa2 N0 own cap) s H ex) (cMd own.length cap md) P elt e)
  (hm:md[i]? = some .v:=by rfl) (hcap:∀j∈cap,j < md.length:=by decide) (hsw:swapsWith (.ListComp elt [⟨tg,iter,ifs,0⟩] scope pos) (some (.Name x pos')) spos.line X.env=pure true:=by rfl)
  (hf:X.fn x=true∨X.env.scope.names.lookup x=some .local:=by first | exact .inl rfl | exact .inr rfl | assumption)
  (hsc:X.env.scope=sc0:=by rfl) (hN0:X.N=N0:=by rfl) (ok:QgG sc0 N0 scope own cap=true:=by decide +kernel) (hs:∀x,foldedSetIterable iter X.env x=pure x:=by intro _; rfl) :
  VS X md P R (.Assign [.Name x pos'] (.ListComp elt [⟨tg,iter,ifs,0⟩] scope pos) spos) (Qan i (Qcb mi own.length cap g t e)) :=
 (QuC (i:=i) sc0 N0 own cap hN hx hl hc hi (fun C s H ex=>xmg (hg C s H ex)) (fun C s H ex=>xmt (ht C s H ex)) (fun C s H ex=>xm (he C s H ex)) hsw hf hsc hN0 ok hs).imp fun D σ H q =>
  Qn9 hm (fun σ H Q z=>Qnr hcap (by
   obtain ⟨ρ,O,F,as,d,O',r,s,e,k⟩:=z;refine ⟨ρ,_,F,as,_,_,r,s,e,fun v H' F' as' g r' hv=>?_⟩
   rcases hv with ⟨_,hv⟩ | ⟨a,xs,ds,rfl,rfl,e3,e4,e5,e6,e7⟩
   ·exact k v H' F' as' g r' hv
   ·have ff:Same F' (upd F' a (.lst xs)):=fun b u q=>by rw [Qaq (QaC q e4)]; exact q
    exact k _ H' (upd F' a (.lst xs)) as' (g.frz e6 e4) (r'.frz e3 e4 e5 rfl) (Rp.mkL (.inl (.inl QaE)) (Rps.mono ff (fun _ _ z=>z) _ e7)))) q
end
def vSp (K:Frag) (mg:Str→Option Value) (pm:List Md) (R:RR) (c:List D→Qac→Res D):Sp:=fun vs H Q _ =>
 ∃ds O F as d O',RlO K mg O H F as∧Qbp K H F as pm vs ds∧c ds O = .ok d O'∧∀v H' F' as',Gr H F as H' F' as'→RlO K mg O' H' F' as'→R (fun a=>H a=none) H' F' as' v d→Q v H'
def Qba (n:Nat) (b:MS):List D→Qac→Res D:=fun ds O=>match b (ds.map some++List.replicate (n - ds.length) none) O with
 | .rt d O'=>.ok d O'
 | .nx _ O'=>.ok .non O'
 | .ex x O'=>.ex x O'
 | _=>.no
theorem Qbp.len {K:Frag}{H F:Hp}{as:List Addr}:∀{ms:List Md}{vs:List V}{ds:List D},Qbp K H F as ms vs ds→vs.length=ms.length∧ds.length=ms.length
 | [],[],[],_=>⟨rfl,rfl⟩
 | m::ms,v::vs,d::ds,h=>by
  have:=Qbp.len h.2
  simp [this.1,this.2]
 | [],[],_::_,h=>h.elim
 | [],_::_,[],h=>h.elim
 | [],_::_,_::_,h=>h.elim
 | _::_,[],[],h=>h.elim
 | _::_,[],_::_,h=>h.elim
 | _::_,_::_,[],h=>h.elim
theorem Qbp.get {K:Frag}{H F:Hp}{as:List Addr}:∀{ms:List Md}{vs:List V}{ds:List D}{i:Nat}{m:Md}{d:D},Qbp K H F as ms vs ds→ms[i]? = some m→ds[i]? = some d→∃v,vs[i]? = some v∧rA K m (fun _=>True) H F as v d
 | m::ms,v::vs,d::ds,0,m',d',h,e1,e2=>by
  simp at e1 e2
  subst e1 e2;exact ⟨v,rfl,h.1⟩
 | m::ms,v::vs,d::ds,i+1,m',d',h,e1,e2=>by
  obtain ⟨v',h1,h2⟩:=Qbp.get (i:=i) (m:=m') (d:=d') h.2 (by simpa using e1) (by simpa using e2);exact ⟨v',by simpa using h1,h2⟩
 | [],[],[],_,_,_,_,e1,_=>by simp at e1
 | [],[],_::_,_,_,_,h,_,_=>h.elim
 | [],_::_,[],_,_,_,h,_,_=>h.elim
 | [],_::_,_::_,_,_,_,h,_,_=>h.elim
 | _::_,[],[],_,_,_,h,_,_=>h.elim
 | _::_,[],_::_,_,_,_,h,_,_=>h.elim
 | _::_,_::_,[],_,_,_,h,_,_=>h.elim
theorem Qgj {K:Frag}{H F:Hp}{as:List Addr}{N:List Str}{pm lm:List Md}{vs:List V}{ds:List D} (h:Qbp K H F as pm vs ds) (hl:(pm++lm).length=N.length) (hp:∀m∈pm,m≠.o) :
  SlO K (pm++lm) (Pt.all H) (ds.map some++List.replicate (N.length - ds.length) none) (start N vs) H F as:=by
 obtain ⟨h1,h2⟩:=h.len;rw [zA] at hl
 have vsl:vs.length≤N.length:=by omega
 have no:∀i a,(ds.map some++List.replicate (N.length - ds.length) none)[i]? = some (some a)→i < ds.length:=fun i a e=>by
  by_cases hi:i < ds.length
  ·exact hi
  ·rw [zK (by simpa using hi),List.getElem?_replicate] at e
   split at e <;> cases e
 refine ⟨by unfold start; simp; omega,by simp; omega,fun a z=>z,fun i m d e1 e2=>?_,fun i j a es fs e1 e2 e3=>?_,fun _ z=>nomatch z⟩
 ·have hi:=no i d e2;rw [zz (by simpa using hi),zx] at e2;rw [zz (by omega)] at e1
  cases q:ds[i]? with
  | none=>rw [q] at e2; cases e2
  | some d' =>
   rw [q] at e2;cases e2;obtain ⟨v,h3,h4⟩:=h.get e1 q;refine ⟨v,?_,?_⟩
   ·unfold start;rw [zz (by simp; omega),zx,h3];rfl
   ·cases m with
    | v=>exact h4
    | s =>
     rcases h4 with h4 | ⟨a,xs,es,z1,z2,z3,z4,z5⟩
     ·exact .inl h4
     ·exact .inr ⟨a,xs,es,z1,z2,z3,z4,(show H a≠none by rw [z3]; exact fun z=>nomatch z),z5⟩
    | o=>exact absurd rfl (hp .o (zO e1))
 ·have hi:=no i _ e3;rw [zz (by omega)] at e1;exact absurd rfl (hp .o (zO e1))
section
variable {Pr:Program}{w:World}{K:Frag}{mg:Str→Option Value}{base:Heap}
theorem QbT {x:Str}{st:Stmt}{N ps:List Str}{k:Nat} (Df:Def K mg x st) (S:QaF N ps (Qao st))
  (hb:∀(kV doc pm:Value) (an:Option Addr) (cdv ct:Value) (us:List Value),us.length=ps.length→bindArgs (PySem.W.fnOf x x (Qce st) (Qbs st) (Qao st) .none kV doc pm an cdv ct) ⟨us,[]⟩=pure (ps.zip us))
  (pm lm:List Md) {R:RR}{b:MS} (hR:Qeb R) (hR0:∀N H F as,R N H F as .non .non) (hpl:pm.length=ps.length:=by rfl) (hl:(pm++lm).length=N.length:=by rfl) (hp:∀m∈pm,m≠.o:=by decide)
  (body:∀(f:Addr) (cdv:Value) (A:Around) (outer:List Env) (s:Shared) (H:Hp) (E:XK),QaS k (A.deeper (envOfC x (Qao st) s.heap.objs.size f cdv))→∀P,VSs ((Qeo CX0 Pr w K mg base N x (Qao st) f cdv A outer s H E).nox) (pm++lm) P R (Qbs st) b) :
  Can Pr w K mg base x ps (k+1) (vSp K mg pm R (Qba N.length b)):=by
 refine Df.can (k:=k) S hb (fun vs H Q E h=>?_) (fun f cdv A outer s H vs Q E hr h=>?_)
 ·obtain ⟨ds,O,F,as,d,O',r,a,_⟩:=h;rw [a.len.1,hpl]
 ·obtain ⟨ds,O,F,as,d,O',r,a,e,q⟩:=h;refine ⟨_,body f cdv A outer s H E hr (Pt.all H),?_⟩;refine ⟨_,O,F,as,r,Qgj a hl hp,?_⟩;unfold Qba at e
  cases eb:b (ds.map some++List.replicate (N.length - ds.length) none) O with
  | rt d' O2 =>
   rw [eb] at e;cases e
   exact fun v H' F' as' g r' hv=>q v H' F' as' g.gr r' (hR _ _ _ _ _ _ _ (fun c hc=>Classical.not_not.mp hc) hv)
  | nx ρ O2 =>
   rw [eb] at e;cases e
   exact fun σ' H' F' as' g r' _=>q _ H' F' as' g.gr r' (hR0 _ _ _ _)
  | bk _ _=>rw [eb] at e; cases e
  | ct _ _=>rw [eb] at e; cases e
  | ex _ _=>rw [eb] at e; cases e
  | no=>rw [eb] at e; cases e
end
section
variable {X:Cx}{md:List Md}{P:Pt}{R:RR}{k:Nat}{x:Str}{ps:List Str}{p pos:Pos}{e:Expr}{es:List Expr}{pm:List Md}{c:List D→Qac→Res D}{ma:M (List D)}
def Qas (c:List D→Qac→Res D) (ma:M (List D)):M D:=fun ρ O=>(ma ρ O).bind fun ds O1=>c ds O1
theorem Quu {K:Frag}{mg:Str→Option Value} (hR:Qeb R) {E:XK}{σ:St}{H:Hp}{Q:VK} (q:tM K mg md P R (Qas c ma) σ H Q):QoP (vSp K mg pm R c) [] E (tMA K mg md P pm ma) σ H Q:=by
 obtain ⟨ρ,O,F,as,d,O',r,s,e,k⟩:=q;obtain ⟨ds,O1,e1,e⟩:=Res.bind_ok e;refine ⟨ρ,_,F,as,_,_,r,s,e1,fun vs H1 F1 as1 g1 r1 hv=>?_⟩;dsimp only;rw [zT];exact ⟨ds,O1,F1,as1,d,O',r1,hv,e,fun v H' F' as' g' r' hw=>k v H' F' as' (g1.trans g') r' (hR _ _ _ _ _ _ _ (fun a ha=>g1.dm a ha) hw)⟩
theorem Qod (hR:Qeb R) (C:Can X.prog X.w X.K X.mg X.base x ps k (vSp X.K X.mg pm R c)) (hr:QaS k X.A) (ha:AE X md P pm (e::es) ma) (hg:Gl X x:=by rfl) (hdb:(x == ("__debug__":Str))=false:=by decide)
  (he:starEach (e::es) X.env=(false,eval e X.env)::starEach es X.env:=by exact Qa0 rfl) (hpl:(backTo pos (starEach es X.env)).any (·.1)=false:=by exact Qbd rfl):PE X (.Call (.Name x p) (e::es) [] pos) (tM X.K X.mg md P R (Qas c ma)) :=
 (Qu0 C hr ha hg hdb he hpl).imp fun _ _ _ q=>Quu hR q
end
section
variable {K:Frag}{mg:Str→Option Value}{H F:Hp}{as:List Addr}{O:Qac}{Q:VK}{d:D}{p:Addr}{xs:List V}{ds:List D}
theorem Qbf {v:V} (r:RlO K mg O H F as) (k:∀v' H' F',Gr H F as H' F' as→RlO K mg O H' F' as→Ow K (fun a=>H a=none) H' F' as v' d→Q v' H') (hn:QeC d=true) (hv:Rp K F as v d):Q v H:=k v H F Gr.refl r (.inl ⟨hn,hv⟩)
theorem RlO.frF (r:RlO K mg O H F as) (hp:H p=none):F p=none:=by
 cases q:F p with
 | none=>rfl
 | some o=>rw [r.fh p o q] at hp; cases hp
theorem QjP (r:RlO K mg O H F as) (k:∀v' H' F',Gr H F as H' F' as→RlO K mg O H' F' as→Ow K (fun a=>H a=none) H' F' as v' (.lst ds)→Q v' H') (hp:H p=none) (hs:Rps K F as xs ds):Q (.ref p) (upd H p (.lst xs)) :=
 k _ _ F (Gr.lay hp) (r.lay hp) (.inr ⟨p,xs,ds,rfl,rfl,QaE,r.frF hp,fun z=>r.all z hp,hp,hs⟩)
theorem QsW (r:RlO K mg O H F as) (k:∀v' H' F',Gr H F as H' F' as→RlO K mg O H' F' as→Ow K (fun a=>H a=none) H' F' as v' (.tup ds)→Q v' H') (hp:H p=none) (hs:Rps K F as xs ds):Q (.ref p) (upd H p (.tup xs)):=by
 have hF:=r.frF hp
 have ff:Same F (upd F p (.tup xs)):=fun b u q=>by rw [Qaq (QaC q hF)]; exact q
 exact k _ _ (upd F p (.tup xs)) ((Gr.lay hp).frz hp hF) ((r.lay hp).frz QaE hF (fun z=>r.all z hp) rfl) (.inl ⟨rfl,Rp.mkT (.inl QaE) (Rps.mono ff (fun _ _ z=>z) _ hs)⟩)
end
section
variable {X:Cx}
def Qxi (K:Frag):R2:=fun x y H Q=>∃l b xs zs,x = .ref l∧y = .ref b∧RdK K H l xs∧RdK K H b zs∧xs.length+zs.length≤sizeLine∧∀p,H p=none→Q (.ref p) (upd H p (.lst (xs++zs)))
theorem Qto:OpR X (binaryOp .Add) (Qxi X.K):=by
 intro pins s σ H x y v u Q I rx ry h;obtain ⟨l,b,xs,zs,rfl,rfl,hH,hB,hz,q⟩:=h;cases rx;cases ry;obtain ⟨z,its,n,r,e⟩:=hH.ok I;obtain ⟨z2,its2,n2,r2,e2⟩:=hB.ok I;have hl:=r.length;have hl2:=r2.length;refine PySem.P.add_list e e2 ?_ (by rw [zp,zp]; omega)
 have ea:its.toArray++its2.toArray=(its++its2).toArray:=by simp
 rw [ea];exact ⟨.ref _,_,I.lnew (t':=s.toks) (r.append r2) (by rw [zA]; omega),rfl,q _ I.fresh⟩
def QxD (K:Frag):R2:=fun x y H Q=>∃l k xs,x = .ref l∧y = .int k∧RdK K H l xs∧-(2 ^ 63)≤k∧k < 2 ^ 63∧xs.length * k.toNat≤sizeLine ∧
 ∀p,H p=none→Q (.ref p) (upd H p (.lst (List.replicate k.toNat xs).flatten))
theorem QuE:OpR X (binaryOp .Mult) (QxD X.K):=by
 intro pins s σ H x y v u Q I rx ry h;obtain ⟨l,k,xs,rfl,rfl,hH,h1,h2,hz,q⟩:=h;cases rx;obtain ⟨t,rfl⟩:=ry;obtain ⟨z,its,n,r,e⟩:=hH.ok I;have hl:=r.length
 have hlen:its.toArray.size * k.toNat≤sizeLine:=by rw [zp,←hl]; exact hz
 have hcap:¬its.toArray.size * k.toNat > (2 ^ 63 - 1) / 8:=by
  have:(sizeLine:Nat)≤(2 ^ 63 - 1) / 8:=by decide
  omega
 have hfit:¬(!Builtin.List.listFitsIndex k)=true:=by
  rw [fitsIndex_both h1 h2];exact zg
 have hlong:¬Builtin.List.listTooLong (its.toArray.size * k.toNat)=true:=by
  rw [Qjb hlen];exact zg
 have hnew:List.foldl (fun x1 x2=>x1++x2) #[] (List.replicate (if its.toArray.isEmpty=true then 0 else k.toNat) its.toArray)=(List.replicate k.toNat its).flatten.toArray:=by
  have f0:∀m:Nat,List.foldl (fun x1 x2=>x1++x2) #[] (List.replicate m its.toArray)=(List.replicate m its).flatten.toArray:=fun m=>by
   have:=foldl_rep its m []
   rw [zS] at this;exact this
  rw [f0]
  cases its with
  | nil=>simp
  | cons a r'=>rw [if_neg (by simp)]
 refine wpAny_binaryOp_repeat_ref (T:="list") (U:="int") (by decide) ⟨_,e,rfl⟩ (fun s'=>typeIs_int s' k t) noFill_list_mul F.fills_int_mul F.slot_int_rmul repeat_list F.slot_int_index.lookup
  (call_meets F.slot_int_rmul (typeIs_int s k t) F.entry_int_rmul (F.args_int_rmul_2 _ _) (int___rmul___int_list k t l its.toArray n)
   ⟨e,rfl,⟨_,e,rfl⟩,call_meets F.slot_list_mul ⟨_,e,rfl⟩ F.entry_list_mul (F.args_list_mul_2 _ _) (AutoListH.list___mul___list_int_3 l its.toArray n k t hfit hcap hlong) ⟨e,?_⟩⟩)
 rw [hnew];exact ⟨.ref _,_,I.lnew (t':=s.toks) (r.rep k.toNat) (by rw [len_rep,Nat.mul_comm]; exact hz),rfl,q _ I.fresh⟩
def QaP:D→D→Option D
 | .int i,.int j=>some (.int (i+j))
 | .int i,.bl k=>some (.int (i+b2i k))
 | .str a,.str b=>if a.length+b.length≤1000000 then some (.str (a++b)) else none
 | .lst a,.lst b=>if a.length+b.length≤1000000 then some (.lst (a++b)) else none
 | .tup a,.tup b=>if a.length+b.length≤1000000∧a≠[] then some (.tup (a++b)) else none
 | _,_=>none
instance (a:List D):Decidable (a≠[]):=match a with
 | []=>isFalse fun h=>h rfl
 | _::_=>isTrue fun h=>nomatch h
theorem Qbo:OpD X (binaryOp .Add) QaP:=by
 intro pins s σ H x y v u Q I rx ry h;obtain ⟨O,F,as,dx,dy,d,r,hx,hy,e,k⟩:=h
 cases dx with
 | int i =>
  cases (hx.rp rfl).unI
  cases dy with
  | int j =>
   cases (hy.rp rfl).unI;cases e;exact QvB pins s σ H _ _ v u Q I rx ry ⟨i,j,rfl,rfl,Qbf r k rfl Rp.int⟩
  | bl j =>
   cases (hy.rp rfl).unB;cases e;exact QpY pins s σ H _ _ v u Q I rx ry ⟨i,j,rfl,rfl,Qbf r k rfl Rp.int⟩
  | _=>cases e
 | str a =>
  cases (hx.rp rfl).unS
  cases dy with
  | str b =>
   cases (hy.rp rfl).unS;simp only [QaP] at e;split at e
   ·rename_i hz;cases e;refine QoM pins s σ H _ _ v u Q I rx ry ⟨S a,S b,rfl,rfl,by rw [Qbt,Qbt]; exact QdI hz,?_⟩;rw [QrU];exact Qbf r k rfl Rp.str
   ·cases e
  | _=>cases e
 | lst a =>
  obtain ⟨p,xs,rfl,h1,h2⟩:=hx.list r.fh
  cases dy with
  | lst b =>
   obtain ⟨p',ys,rfl,h3,h4⟩:=hy.list r.fh;simp only [QaP] at e;split at e
   ·rename_i hz;cases e;exact Qto pins s σ H _ _ v u Q I rx ry ⟨p,p',xs,ys,rfl,rfl,h1,h3,by rw [h2.length,h4.length]; exact QdI hz,fun q hq=>QjP r k hq (Rps.append h4 h2)⟩
   ·cases e
  | _=>cases e
 | tup a =>
  obtain ⟨p,xs,rfl,h1,h2⟩:=(hx.rp rfl).unT
  cases dy with
  | tup b =>
   obtain ⟨p',ys,rfl,h3,h4⟩:=(hy.rp rfl).unT;simp only [QaP] at e;split at e
   ·rename_i hz;cases e
    have hxs:xs≠[]:=fun z=>hz.2 (List.eq_nil_of_length_eq_zero (by rw [←h2.length,z]; rfl))
    refine Quk pins s σ H _ _ v u Q I rx ry ⟨p,p',xs,ys,rfl,rfl,Same.seqT r.fh h1,Same.seqT r.fh h3,hxs,by rw [h2.length,h4.length]; exact QdI hz.1,fun z=>?_,fun _ q hq=>QsW r k hq (Rps.append h4 h2)⟩;have hb:b = []:=List.eq_nil_of_length_eq_zero (by rw [←h4.length,z]; rfl);subst hb;rw [zT] at k;exact Qbf r k rfl (hx.rp rfl)
   ·cases e
  | _=>cases e
 | _=>cases e
def gI (C:Int→Int→Bool) (f:Int→Int→Int):D→D→Option D
 | .int i,.int j=>if C i j=true then some (.int (f i j)) else none
 | _,_=>none
theorem QrK {f:Value→Value→Sem Value}{Cp:Int→Int→Prop}{g:Int→Int→Int}{C:Int→Int→Bool} (h:OpR X f (rI Cp fun i j=>.int (g i j))) (hc:∀i j,C i j=true→Cp i j):OpD X f (gI C g):=by
 intro pins s σ H x y v u Q I rx ry h';obtain ⟨O,F,as,dx,dy,d,r,hx,hy,e,k⟩:=h'
 cases dx with
 | int i =>
  cases (hx.rp rfl).unI
  cases dy with
  | int j =>
   cases (hy.rp rfl).unI;simp only [gI] at e;split at e
   ·rename_i hC;cases e;exact h pins s σ H _ _ v u Q I rx ry ⟨i,j,rfl,rfl,hc i j hC,Qbf r k rfl Rp.int⟩
   ·cases e
  | _=>cases e
 | _=>cases e
def QgC:D→D→Option D:=gI (fun _ _=>true) fun i j=>i - j
theorem QmJ:OpD X (binaryOp .Sub) QgC:=by
 intro pins s σ H x y v u Q I rx ry h';obtain ⟨O,F,as,dx,dy,d,r,hx,hy,e,k⟩:=h'
 cases dx with
 | int i =>
  cases (hx.rp rfl).unI
  cases dy with
  | int j =>
   cases (hy.rp rfl).unI;cases e;exact Qvg pins s σ H _ _ v u Q I rx ry ⟨i,j,rfl,rfl,Qbf r k rfl Rp.int⟩
  | _=>cases e
 | _=>cases e
def QdY (i:Int):Bool:=decide (-(2 ^ 64) < i)&&decide (i < 2 ^ 64)
theorem Qgo {i:Int} (h:QdY i=true):-(2 ^ 64) < i∧i < 2 ^ 64:=by
 unfold QdY at h;rw [zm,decide_eq_true_eq,decide_eq_true_eq] at h;exact h
def QbE:D→D→Option D
 | .int i,.int j=>if (QdY i || QdY j)=true then some (.int (i * j)) else none
 | .str l,.int n=>if -1000000 < n∧n < 1000000∧l.length * n.toNat≤16777216 then some (.str (List.replicate n.toNat l).flatten) else none
 | .lst l,.int n=>if -1000000 < n∧n < 1000000∧l.length * n.toNat≤1000000 then some (.lst (List.replicate n.toNat l).flatten) else none
 | _,_=>none
theorem Qde:OpD X (binaryOp .Mult) QbE:=by
 intro pins s σ H x y v u Q I rx ry h;obtain ⟨O,F,as,dx,dy,d,r,hx,hy,e,k⟩:=h
 cases dx with
 | int i =>
  cases (hx.rp rfl).unI
  cases dy with
  | int j =>
   cases (hy.rp rfl).unI;simp only [QbE] at e;split at e
   ·rename_i hz;cases e;refine Qvn pins s σ H _ _ v u Q I rx ry ⟨i,j,rfl,rfl,?_,Qbf r k rfl Rp.int⟩;rw [Bool.or_eq_true] at hz
    rcases hz with z | z
    ·exact .inl (Qgo z)
    ·exact .inr (Qgo z)
   ·cases e
  | _=>cases e
 | str l =>
  cases (hx.rp rfl).unS
  cases dy with
  | int n =>
   cases (hy.rp rfl).unI;simp only [QbE] at e;split at e
   ·rename_i hz;cases e;exact Qoz pins s σ H _ _ v u Q I rx ry ⟨l,n,rfl,rfl,hz.1,hz.2.1,hz.2.2,Qbf r k rfl Rp.str⟩
   ·cases e
  | _=>cases e
 | lst l =>
  obtain ⟨p,xs,rfl,h1,h2⟩:=hx.list r.fh
  cases dy with
  | int n =>
   cases (hy.rp rfl).unI;simp only [QbE] at e;split at e
   ·rename_i hz;cases e;exact QuE pins s σ H _ _ v u Q I rx ry ⟨p,n,xs,rfl,rfl,h1,by omega,by omega,by rw [h2.length]; exact QdI hz.2.2,fun q hq=>QjP r k hq (h2.rep _)⟩
   ·cases e
  | _=>cases e
 | _=>cases e
def QaU:D→D→Option D:=gI (fun _ j=>decide (0 < j)) fun i j=>i % j
theorem Qbj:OpD X (binaryOp .Mod) QaU:=QrK QvY fun _ _ h=>jp h
def Qc4:D→D→Option D:=gI (fun _ j=>decide (0 < j)&&decide (j < 1073741824)) fun i j=>i / j
theorem Qgz:OpD X (binaryOp .FloorDiv) Qc4:=QrK QtU fun i j h=>by
 rw [zm,decide_eq_true_eq,decide_eq_true_eq] at h;exact h
def Qb2:D→D→Option D:=gI (fun i j=>decide (0≤j)&&(decide (j≤1000000)&&QdY i)) fun i j=>i ^ j.toNat
theorem Qer:OpD X (binaryOp .Pow) Qb2:=QrK Qv3 fun i j h=>by
 rw [zm,zm,decide_eq_true_eq,decide_eq_true_eq] at h
 have:=Qgo h.2.2
 exact ⟨h.1,h.2.1,by omega⟩
def mUn (g:D→Option D) (m:M D):M D:=fun ρ O=>(m ρ O).bind fun d O1=>match g (QaI O1 d) with
 | some y=>.ok y O1
 | none=>.no
def Qev:D→Option D
 | .int i=>some (.int (-i))
 | _=>none
theorem QgA {md:List Md}{P:Pt}{a:Expr}{pos:Pos}{m:M D} (h:SE X md P a m):OE X md P (.UnaryOp .USub a pos) (mUn Qev m):=(Qxv QuQ h).imp fun σ H Q q=>by
 obtain ⟨ρ,O,F,as,d,O',r,s,e,k⟩:=q;obtain ⟨x,O1,e1,e⟩:=Res.bind_ok e;refine ⟨ρ,_,F,as,_,_,r,s,e1,fun v H1 F1 as1 g1 r1 hv=>?_⟩
 cases ed:QaI O1 x with
 | int i =>
  rw [ed] at e;cases e
  have:=Sv.lk hv r1
  rw [ed] at this;exact ⟨i,(this.rp rfl).unI,k _ H1 F1 as1 g1 r1 (.inl ⟨rfl,Rp.int⟩)⟩
 | _=>rw [ed] at e; cases e
def gCI (f:Int→Int→Bool):D→D→Option D
 | .int i,.int j=>some (.bl (f i j))
 | _,_=>none
theorem Qs5 {f:Value→Value→Sem Value}{g:Int→Int→Bool} (h:OpR X f (rI0 fun i j=>.bl (g i j))):OpD X f (gCI g):=by
 intro pins s σ H x y v u Q I rx ry h';obtain ⟨O,F,as,dx,dy,d,r,hx,hy,e,k⟩:=h'
 cases dx with
 | int i =>
  cases (hx.rp rfl).unI
  cases dy with
  | int j =>
   cases (hy.rp rfl).unI;cases e;exact h pins s σ H _ _ v u Q I rx ry ⟨i,j,rfl,rfl,Qbf r k rfl Rp.bl⟩
  | _=>cases e
 | _=>cases e
def gLt:D→D→Option D:=gCI fun i j=>decide (i < j)
def gGt:D→D→Option D:=gCI fun i j=>decide (j < i)
def gGe:D→D→Option D:=gCI fun i j=>decide (j≤i)
def gLe:D→D→Option D
 | .int i,.int j=>some (.bl (decide (i≤j)))
 | .str a,.str b=>some (.bl (!decide (b < a)))
 | _,_=>none
theorem Qj8:OpD X (compareOp .LtE) gLe:=by
 intro pins s σ H x y v u Q I rx ry h';obtain ⟨O,F,as,dx,dy,d,r,hx,hy,e,k⟩:=h'
 cases dx with
 | int i =>
  cases (hx.rp rfl).unI
  cases dy with
  | int j =>
   cases (hy.rp rfl).unI;cases e;exact Qxr pins s σ H _ _ v u Q I rx ry ⟨i,j,rfl,rfl,Qbf r k rfl Rp.bl⟩
  | _=>cases e
 | str a =>
  cases (hx.rp rfl).unS
  cases dy with
  | str b =>
   cases (hy.rp rfl).unS;cases e;refine Qqx pins s σ H _ _ v u Q I rx ry ⟨S a,S b,rfl,rfl,?_⟩;rw [Qhz,Qhz];exact Qbf r k rfl Rp.bl
  | _=>cases e
 | _=>cases e
theorem QjW:OpD X (compareOp .Lt) gLt:=Qs5 Qxb
theorem QjZ:OpD X (compareOp .Gt) gGt:=Qs5 Qw7
mutual
def toP:D→PyData
 | .non=>.none
 | .bl b=>.bool b
 | .int i=>.int i
 | .str l=>.str (S l)
 | .lst ds=>.list (Qhf ds)
 | .tup ds=>.tuple (Qhf ds)
 | .dic _ _=>.none
 | .ob _=>.none
def Qhf:List D→List PyData
 | []=>[]
 | d::ds=>toP d::Qhf ds
end
mutual
def QcE:D→Bool
 | .lst ds=>Qet ds
 | .tup ds=>Qet ds
 | .dic _ _=>false
 | .ob _=>false
 | _=>true
def Qet:List D→Bool
 | []=>true
 | d::ds=>QcE d&&Qet ds
end
section
variable {K:Frag}{F:Hp}{as:List Addr}
mutual
theorem Rp.rep:∀(d:D) {v:V},QcE d=true→Rp K F as v d→Rep K F v (toP d)
 | .non,v,_,h=>by rw [toP,Rep]; exact h.unN
 | .bl b,v,_,h=>by rw [toP,Rep]; exact h.unB
 | .int i,v,_,h=>by rw [toP,Rep]; exact h.unI
 | .str x,v,_,h=>by rw [toP,Rep]; exact h.unS
 | .lst ds,v,hp,h=>by
  obtain ⟨a,xs,h1,h2,h3⟩:=h.unL;rw [toP,Rep];rw [QcE] at hp;exact ⟨a,xs,h1,h2.sq,Rps.rep' ds hp h3⟩
 | .tup ds,v,hp,h=>by
  obtain ⟨a,xs,h1,h2,h3⟩:=h.unT;rw [toP,Rep];rw [QcE] at hp;exact ⟨a,xs,h1,h2,Rps.rep' ds hp h3⟩
 | .dic _ _,v,hp,h=>by rw [QcE] at hp; cases hp
 | .ob _,v,hp,h=>by rw [QcE] at hp; cases hp
theorem Rps.rep':∀(ds:List D) {xs:List V},Qet ds=true→Rps K F as xs ds→QaD K F xs (Qhf ds)
 | [],xs,_,h=>by rw [h.un0,Qhf]; exact QaD.nil
 | d::ds,xs,hp,h=>by
  obtain ⟨x,r,rfl,h2,h3⟩:=h.un;rw [Qet,zm] at hp;rw [Qhf];exact QaD.cons (Rp.rep d hp.1 h2) (Rps.rep' ds hp.2 h3)
end
theorem Lk.rep {H:Hp}{d:D}{v:V} (h:Lk K H F as v d) (fh:Same F H) (hp:QcE d=true):Rep K H v (toP d):=by
 rcases h with h | ⟨a,xs,ds,rfl,rfl,h1,h2⟩
 ·exact Rep.mono fh _ (Rp.rep d hp h)
 ·rw [QcE] at hp;rw [toP,Rep];exact ⟨a,xs,rfl,.inl (.inl h1),QaD.mono fh _ (Rps.rep' ds hp h2)⟩
end
def okE (d:D):Bool:=QcE d&&okD (toP d)
def QeK (a b:D):Bool:=PyData.eqv (toP a) (toP b)
def gEq:D→D→Option D
 | .int i,.int j=>some (.bl (decide (i=j)))
 | .str a,.str b=>some (.bl (decide (a=b)))
 | .bl a,.bl b=>some (.bl (decide (a=b)))
 | a,b=>if (okE a&&okE b)=true then some (.bl (QeK a b)) else none
def gNe:D→D→Option D
 | .int i,.int j=>some (.bl (!decide (i=j)))
 | .str a,.str b=>some (.bl (!decide (a=b)))
 | .bl a,.bl b=>some (.bl (!decide (a=b)))
 | a,b=>if (okE a&&okE b)=true then some (.bl (!QeK a b)) else none
theorem QsH (a b:List Nat):decide (V.str (S a)=V.str (S b))=decide (a=b):=by
 by_cases h:a=b
 ·subst h; simp
 ·rw [zj h,zj];intro z;exact h (QxG (V.str.inj z))
theorem QsK (a b:Int):decide (V.int a=V.int b)=decide (a=b):=by
 by_cases h:a=b
 ·subst h; simp
 ·rw [zj h,zj];intro z;exact h (V.int.inj z)
theorem QsJ (a b:Bool):decide (V.bl a=V.bl b)=decide (a=b):=by
 cases a <;> cases b <;> rfl
theorem QtT {a b d:D} (h:gEq a b=some d):(∃i j,a = .int i∧b = .int j∧d = .bl (decide (i=j)))∨(∃i j,a = .str i∧b = .str j∧d = .bl (decide (i=j)))∨(∃i j,a = .bl i∧b = .bl j∧d = .bl (decide (i=j))) ∨
  (okE a=true∧okE b=true∧d = .bl (QeK a b)):=by
 unfold gEq at h;split at h
 ·cases h; exact .inl ⟨_,_,rfl,rfl,rfl⟩
 ·cases h; exact .inr (.inl ⟨_,_,rfl,rfl,rfl⟩)
 ·cases h; exact .inr (.inr (.inl ⟨_,_,rfl,rfl,rfl⟩))
 ·split at h
  ·rename_i hk;rw [zm] at hk;cases h;exact .inr (.inr (.inr ⟨hk.1,hk.2,rfl⟩))
  ·cases h
theorem Qup {a b d:D} (h:gNe a b=some d):(∃i j,a = .int i∧b = .int j∧d = .bl (!decide (i=j)))∨(∃i j,a = .str i∧b = .str j∧d = .bl (!decide (i=j)))∨(∃i j,a = .bl i∧b = .bl j∧d = .bl (!decide (i=j))) ∨
  (okE a=true∧okE b=true∧d = .bl (!QeK a b)):=by
 unfold gNe at h;split at h
 ·cases h; exact .inl ⟨_,_,rfl,rfl,rfl⟩
 ·cases h; exact .inr (.inl ⟨_,_,rfl,rfl,rfl⟩)
 ·cases h; exact .inr (.inr (.inl ⟨_,_,rfl,rfl,rfl⟩))
 ·split at h
  ·rename_i hk;rw [zm] at hk;cases h;exact .inr (.inr (.inr ⟨hk.1,hk.2,rfl⟩))
  ·cases h
theorem Qcy {k:Nat} (hr:QaS k X.A):OpD X (compareOp .Eq) gEq:=by
 intro pins s σ H x y v u Q I rx ry h';obtain ⟨O,F,as,dx,dy,d,r,hx,hy,e,k⟩:=h'
 rcases QtT e with ⟨i,j,rfl,rfl,rfl⟩ | ⟨i,j,rfl,rfl,rfl⟩ | ⟨i,j,rfl,rfl,rfl⟩ | ⟨h1,h2,rfl⟩
 ·cases (hx.rp rfl).unI;cases (hy.rp rfl).unI;refine QoJ pins s σ H _ _ v u Q I rx ry ⟨rfl,?_⟩;rw [QsK];exact Qbf r k rfl Rp.bl
 ·cases (hx.rp rfl).unS;cases (hy.rp rfl).unS;refine QoJ pins s σ H _ _ v u Q I rx ry ⟨rfl,?_⟩;rw [QsH];exact Qbf r k rfl Rp.bl
 ·cases (hx.rp rfl).unB;cases (hy.rp rfl).unB;refine QoJ pins s σ H _ _ v u Q I rx ry ⟨rfl,?_⟩;rw [QsJ];exact Qbf r k rfl Rp.bl
 ·unfold okE at h1 h2;rw [zm] at h1 h2;exact Qvp hr pins s σ H _ _ v u Q I rx ry ⟨toP dx,toP dy,hx.rep r.fh h1.1,hy.rep r.fh h2.1,h1.2,h2.2,Qbf r k rfl Rp.bl⟩
theorem Qlt {k:Nat} (hr:QaS k X.A):OpD X (compareOp .NotEq) gNe:=by
 intro pins s σ H x y v u Q I rx ry h';obtain ⟨O,F,as,dx,dy,d,r,hx,hy,e,k⟩:=h'
 rcases Qup e with ⟨i,j,rfl,rfl,rfl⟩ | ⟨i,j,rfl,rfl,rfl⟩ | ⟨i,j,rfl,rfl,rfl⟩ | ⟨h1,h2,rfl⟩
 ·cases (hx.rp rfl).unI;cases (hy.rp rfl).unI;refine QoZ pins s σ H _ _ v u Q I rx ry ⟨rfl,?_⟩;rw [QsK];exact Qbf r k rfl Rp.bl
 ·cases (hx.rp rfl).unS;cases (hy.rp rfl).unS;refine QoZ pins s σ H _ _ v u Q I rx ry ⟨rfl,?_⟩;rw [QsH];exact Qbf r k rfl Rp.bl
 ·cases (hx.rp rfl).unB;cases (hy.rp rfl).unB;refine QoZ pins s σ H _ _ v u Q I rx ry ⟨rfl,?_⟩;rw [QsJ];exact Qbf r k rfl Rp.bl
 ·unfold okE at h1 h2;rw [zm] at h1 h2;exact Qvb hr pins s σ H _ _ v u Q I rx ry ⟨toP dx,toP dy,hx.rep r.fh h1.1,hy.rep r.fh h2.1,h1.2,h2.2,Qbf r k rfl Rp.bl⟩
def toV:D→V
 | .bl b=>.bl b
 | .int i=>.int i
 | .str l=>.str (S l)
 | _=>.non
def Qfu:D→Bool
 | .non=>true
 | .bl _=>true
 | .int _=>true
 | .str _=>true
 | _=>false
def eqF (x y:D):Bool:=eqV (toV x) (toV y)
theorem Rp.flat {K:Frag}{F:Hp}{as:List Addr}{v:V}{d:D} (h:Rp K F as v d) (hf:Qfu d=true):v=toV d∧QeQ v=true:=by
 cases d with
 | non=>rw [h.unN]; exact ⟨rfl,rfl⟩
 | bl b=>rw [h.unB]; exact ⟨rfl,rfl⟩
 | int b=>rw [h.unI]; exact ⟨rfl,rfl⟩
 | str b=>rw [h.unS]; exact ⟨rfl,rfl⟩
 | _=>cases hf
theorem Rps.flat {K:Frag}{F:Hp}{as:List Addr}:∀{ds:List D}{xs:List V},Rps K F as xs ds→ds.all Qfu=true→xs=ds.map toV∧xs.all QeQ=true
 | [],xs,h,_=>by rw [h.un0]; exact ⟨rfl,rfl⟩
 | d::ds,xs,h,hf=>by
  obtain ⟨x,r,rfl,h2,h3⟩:=h.un;rw [List.all_cons,zm] at hf;obtain ⟨e1,e2⟩:=h2.flat hf.1;obtain ⟨e3,e4⟩:=Rps.flat h3 hf.2;exact ⟨by rw [zc,←e1,←e3],by rw [List.all_cons,e2,e4]; rfl⟩
def gIn (neg:Bool):D→D→Option D
 | .str [c],.str l=>some (.bl (neg ^^ decide (c∈l)))
 | x,.lst ds=>if (Qfu x&&ds.all Qfu)=true then some (.bl (neg ^^ ds.any fun y=>eqF y x)) else none
 | x,.tup ds=>if (Qfu x&&ds.all Qfu)=true then some (.bl (neg ^^ ds.any fun y=>eqF y x)) else none
 | _,_=>none
theorem QuJ {neg:Bool}{a b d:D} (h:gIn neg a b=some d):(∃c l,a = .str [c]∧b = .str l∧d = .bl (neg ^^ decide (c∈l)))∨(∃ds,(b = .lst ds∨b = .tup ds)∧Qfu a=true∧ds.all Qfu=true∧d = .bl (neg ^^ ds.any fun y=>eqF y a)):=by
 unfold gIn at h;split at h
 ·cases h; exact .inl ⟨_,_,rfl,rfl,rfl⟩
 ·split at h
  ·rename_i hk;rw [zm] at hk;cases h;exact .inr ⟨_,.inl rfl,hk.1,hk.2,rfl⟩
  ·cases h
 ·split at h
  ·rename_i hk;rw [zm] at hk;cases h;exact .inr ⟨_,.inr rfl,hk.1,hk.2,rfl⟩
  ·cases h
 ·cases h
theorem Qur {x:D}{ds:List D}:inV (toV x) (ds.map toV)=ds.any fun y=>eqF y x:=by
 unfold inV;rw [List.any_map];rfl
theorem QrZ {K:Frag}{mg:Str→Option Value}{H F:Hp}{as:List Addr}{O:Qac}{v:V}{b:D}{ds:List D} (r:RlO K mg O H F as) (hy:Lk K H F as v b) (hb:b = .lst ds∨b = .tup ds):∃p xs,v = .ref p∧(SqL K H p xs∨SqT K H p xs)∧Rps K F as xs ds:=by
 rcases hb with rfl | rfl
 ·obtain ⟨p,xs,e,h1,h2⟩:=hy.list r.fh;exact ⟨p,xs,e,.inl h1.sq,h2⟩
 ·obtain ⟨p,xs,e,h1,h2⟩:=(hy.rp rfl).unT;exact ⟨p,xs,e,.inr (Same.seqT r.fh h1),h2⟩
theorem Qpd {d:D} (h:Qfu d=true):QeC d=true:=by cases d <;> first | rfl | cases h
theorem QxE:OpD X (compareOp .In) (gIn false):=by
 intro pins s σ H x y v u Q I rx ry h';obtain ⟨O,F,as,dx,dy,d,r,hx,hy,e,k⟩:=h'
 rcases QuJ e with ⟨c,l,rfl,rfl,rfl⟩ | ⟨ds,hb,h1,h2,rfl⟩
 ·cases (hx.rp rfl).unS;cases (hy.rp rfl).unS;refine Qp7 pins s σ H _ _ v u Q I rx ry ⟨c,l,rfl,rfl,?_⟩;rw [Bool.false_xor] at k;exact Qbf r k rfl Rp.bl
 ·obtain ⟨p,xs,rfl,h3,h4⟩:=QrZ r hy hb;obtain ⟨e1,e2⟩:=(hx.rp (Qpd h1)).flat h1;obtain ⟨e3,e4⟩:=h4.flat h2;refine QqI pins s σ H _ _ v u Q I rx ry ⟨p,xs,rfl,h3,e2,e4,?_⟩;rw [if_neg zg,e1,e3,Qur];rw [Bool.false_xor] at k;exact Qbf r k rfl Rp.bl
def gIx:D→D→Option D
 | .lst ds,.int i=>atI ds i
 | .tup ds,.int i=>atI ds i
 | .str l,.int i=>if l.length≤1000000 then (atI l i).map fun c=>.str [c] else none
 | _,_=>none
theorem Rps.atI {K:Frag}{F:Hp}{as:List Addr}{xs:List V}{ds:List D}{i:Int}{d:D} (h:Rps K F as xs ds) (e:atI ds i=some d):∃v,L2.atI xs i=some v∧Rp K F as v d:=by
 unfold L2.atI at e ⊢;rw [h.length]
 cases q:ixN ds.length i with
 | none=>rw [q] at e; cases e
 | some j =>
  rw [q] at e;exact h.get' e
def rDv (K:Frag) (mg:Str→Option Value) (g:D→D→Option D):R2:=fun x y H Q=>∃O F as dx dy d,RlO K mg O H F as∧Lk K H F as x dx∧Lk K H F as y dy∧g dx dy=some d∧∀v',Rp K F as v' d→Q v' H
theorem Qys:IxR X (rDv X.K X.mg gIx):=by
 intro value slice pins s σ H x y v u Q I rx ry h' hsb;obtain ⟨O,F,as,dx,dy,d,r,hx,hy,e,k⟩:=h'
 cases dx with
 | lst ds =>
  obtain ⟨p,xs,rfl,h1,h2⟩:=hx.list r.fh
  cases dy with
  | int i =>
   cases (hy.rp rfl).unI;obtain ⟨z,e1,e2⟩:=h2.atI e;exact Quz value slice pins s σ H _ _ v u Q I rx ry ⟨p,xs,i,z,rfl,rfl,h1.sq,e1,k z e2⟩ hsb
  | _=>cases e
 | tup ds =>
  obtain ⟨p,xs,rfl,h1,h2⟩:=(hx.rp rfl).unT
  cases dy with
  | int i =>
   cases (hy.rp rfl).unI;obtain ⟨z,e1,e2⟩:=h2.atI e;exact Qvs value slice pins s σ H _ _ v u Q I rx ry ⟨p,xs,i,z,rfl,rfl,Same.seqT r.fh h1,e1,k z e2⟩ hsb
  | _=>cases e
 | str l =>
  cases (hx.rp rfl).unS
  cases dy with
  | int i =>
   cases (hy.rp rfl).unI;simp only [gIx] at e;split at e
   ·rename_i hz
    cases q:L2.atI l i with
    | none=>rw [q] at e; cases e
    | some c =>
     rw [q] at e;cases e;exact Qwb value slice pins s σ H _ _ v u Q I rx ry ⟨S l,i,c,rfl,rfl,by rw [Qbt]; exact QdI hz,by rw [Qhz]; exact q,k _ Rp.str⟩ hsb
   ·cases e
  | _=>cases e
 | _=>cases e
theorem Qa1 {md:List Md}{P:Pt}{a b:Expr}{pos:Pos}{ma mb:M D} (ha:SE X md P a ma) (hb:SE X md P b mb) (hs:QiD b:=by intro _ _; rfl):VE X md P (.Subscript a b pos) (Qaf gIx ma mb):=(Qw2 Qys ha hb hs).imp fun σ H Q h=>by
 obtain ⟨ρ,O,F,as,d,O',r,sl,e,k⟩:=h;obtain ⟨x,O1,e1,e⟩:=Res.bind_ok e;obtain ⟨y,O2,e2,e⟩:=Res.bind_ok e;split at e
 ·rename_i d' hg;cases e;refine ⟨ρ,_,F,as,_,_,r,sl,e1,fun v H1 F1 as1 g1 r1 hv=>?_⟩;refine ⟨ρ,_,F1,as1,_,_,r1,sl.step g1,e2,fun u H2 F2 as2 g2 r2 hu=>?_⟩;exact ⟨_,F2,as2,_,_,_,r2,Sv.lk (Sv.gr hv g2) r2,Sv.lk hu r2,hg,fun v' hw=>k v' H2 F2 as2 (g1.trans g2) r2 hw⟩
 ·cases e
def tMO (K:Frag) (mg:Str→Option Value) (md:List Md) (P:Pt) (m:M (Option Int)):TO:=fun σ H Q =>
 ∃ρ O F as b O',RlO K mg O H F as∧SlO K md P ρ σ H F as∧m ρ O = .ok b O'∧∀H' F' as',Gr H F as H' F' as'→RlO K mg O' H' F' as'→Q b H'
def VO (X:Cx) (md:List Md) (P:Pt) (e:Option Expr) (m:M (Option Int)):Prop:=PO X e (tMO X.K X.mg md P m)
theorem PO.imp {e:Option Expr}{t t':TO} (h:PO X e t) (k:∀σ H Q,t' σ H Q→t σ H Q):PO X e t':=fun pins s σ H Q I q=>h pins s σ H Q I (k σ H Q q)
def moN:M (Option Int):=fun _ O=>.ok none O
def moS (m:M D):M (Option Int):=fun ρ O=>(m ρ O).bind fun d O1=>match d with
 | .int i=>.ok (some i) O1
 | _=>.no
theorem QnI {md:List Md}{P:Pt}{e:Expr}{m:M D} (h:VE X md P e m):VO X md P (some e) (moS m):=(QtY h).imp fun σ H Q q=>by
 obtain ⟨ρ,O,F,as,d,O',r,s,e,k⟩:=q;obtain ⟨x,O1,e1,e⟩:=Res.bind_ok e
 cases x with
 | int i =>
  cases e;exact ⟨ρ,_,F,as,_,_,r,s,e1,fun v H1 F1 as1 g1 r1 hv=>⟨i,Rp.unI hv,k H1 F1 as1 g1 r1⟩⟩
 | _=>cases e
def gSl (d:D) (lo hi:Option Int):Option D:=match d with
 | .lst ds=>some (.lst (Qc3 ds lo hi))
 | .tup ds=>some (.tup (Qc3 ds lo hi))
 | .str l=>if l.length≤16777216 then some (.str (Qc3 l lo hi)) else none
 | _=>none
def Qyt (K:Frag) (mg:Str→Option Value):V→Option Int→Option Int→Hp→VK→Prop:=fun x lo hi H Q=>∃O F as dx d,RlO K mg O H F as∧Lk K H F as x dx∧gSl dx lo hi=some d ∧
 ∀v' H' F',Gr H F as H' F' as→RlO K mg O H' F' as→Ow K (fun a=>H a=none) H' F' as v' d→Q v' H'
theorem Rps.cut {K:Frag}{F:Hp}{as:List Addr}{xs:List V}{ds:List D} (h:Rps K F as xs ds) (lo hi:Option Int):Rps K F as (Qhr xs lo hi) (Qc3 ds lo hi):=by
 unfold Qhr Qc3;rw [h.length];exact (h.drop _).take _
theorem QyX:SlR X (Qyt X.K X.mg):=by
 intro pins s σ H x v vl vu lo hi sl Q I rx hs pl pu h;obtain ⟨O,F,as,dx,d,r,hx,e,k⟩:=h
 cases dx with
 | lst ds =>
  obtain ⟨p,xs,rfl,h1,h2⟩:=hx.list r.fh;cases e;exact QtJ pins s σ H _ v vl vu lo hi sl Q I rx hs pl pu ⟨p,xs,rfl,h1.sq,fun q hq=>QjP r k hq (h2.cut lo hi)⟩
 | tup ds =>
  obtain ⟨p,xs,rfl,h1,h2⟩:=(hx.rp rfl).unT;cases e;refine QtE X.K rfl pins s σ H _ v vl vu lo hi sl Q I rx hs pl pu ⟨p,xs,rfl,Same.seqT r.fh h1,fun z=>?_,fun _ q hq=>QsW r k hq (h2.cut lo hi)⟩
  have:Qc3 ds lo hi=ds:=by
   unfold Qc3;rw [←h2.length,z.1,z.2,List.drop_zero,Nat.sub_zero,h2.length,List.take_length]
  rw [this] at k;exact Qbf r k rfl (hx.rp rfl)
 | str l =>
  cases (hx.rp rfl).unS;simp only [gSl] at e;split at e
  ·rename_i hz;cases e;exact QwK pins s σ H _ v vl vu lo hi sl Q I rx hs pl pu ⟨l,rfl,zC hz (Nat.le_of_eq sizeLine_eq.symm),Qbf r k rfl Rp.str⟩
  ·cases e
 | _=>cases e
def mSl (m:M D) (lo hi:M (Option Int)):M D:=fun ρ O=>(m ρ O).bind fun d O1=>(lo ρ O1).bind fun l O2=>(hi ρ O2).bind fun h O3=>match gSl (QaI O3 d) l h with
 | some y=>.ok y O3
 | none=>.no
end
section
variable {X:Cx}{md:List Md}{P:Pt}{R:RR}
theorem Qsn {e:Expr}{lo hi:Option Expr}{p2 pos:Pos}{m:M D}{ml mh:M (Option Int)} (he:SE X md P e m) (hl:VO X md P lo ml) (hh:VO X md P hi mh):OE X md P (.Subscript e (.Slice lo hi none p2) pos) (mSl m ml mh):=(Qr0 QyX he hl hh).imp fun σ H Q q=>by
 obtain ⟨ρ,O,F,as,d,O',r,s,e,k⟩:=q;obtain ⟨x,O1,e1,e⟩:=Res.bind_ok e;obtain ⟨l,O2,e2,e⟩:=Res.bind_ok e;obtain ⟨h,O3,e3,e⟩:=Res.bind_ok e;split at e
 ·rename_i y hg;cases e;refine ⟨ρ,_,F,as,_,_,r,s,e1,fun v H1 F1 as1 g1 r1 hv=>?_⟩;refine ⟨ρ,_,F1,as1,_,_,r1,s.step g1,e2,fun H2 F2 as2 g2 r2=>?_⟩;have g12:=g1.trans g2;refine ⟨ρ,_,F2,as2,_,_,r2,s.step g12,e3,fun H3 F3 as3 g3 r3=>?_⟩;have g13:=g12.trans g3;exact ⟨_,F3,as3,_,_,r3,Sv.lk (Sv.gr (Sv.gr hv g2) g3) r3,hg,fun v' H' F' g' r' hw=>k v' H' F' as3 (g13.trans g') r' (QcB _ _ _ _ _ _ _ (fun a ha=>g13.dm a ha) hw)⟩
 ·cases e
def Lks (K:Frag) (H F:Hp) (as:List Addr):List V→List D→Prop
 | [],[]=>True
 | v::vs,d::ds=>Lk K H F as v d∧Lks K H F as vs ds
 | _,_=>False
theorem Qbp.lks {K:Frag}{mg:Str→Option Value}{O:Qac}{H F:Hp}{as:List Addr} (r:RlO K mg O H F as):∀{ms:List Md}{vs:List V}{ds:List D},Qbp K H F as ms vs ds→Lks K H F as vs (ds.map (QaI O))
 | [],[],[],_=>trivial
 | m::ms,v::vs,d::ds,h=>by
  refine ⟨?_,Qbp.lks r h.2⟩
  have h1:Sv K H F as v d:=by
   cases m with
   | v=>exact .inl h.1
   | s=>exact h.1
   | o=>exact h.1
  exact h1.lk r
 | [],[],_::_,h=>h.elim
 | [],_::_,[],h=>h.elim
 | [],_::_,_::_,h=>h.elim
 | _::_,[],[],h=>h.elim
 | _::_,[],_::_,h=>h.elim
 | _::_,_::_,[],h=>h.elim
def rC (K:Frag) (mg:Str→Option Value) (g:List D→Option D):List V→Hp→VK→Prop:=fun vs H Q=>∃O F as ds d,RlO K mg O H F as∧Lks K H F as vs ds∧g ds=some d ∧
 ∀v' H' F',Gr H F as H' F' as→RlO K mg O H' F' as→Ow K (fun a=>H a=none) H' F' as v' d→Q v' H'
abbrev QfC (X:Cx) (f:Value) (g:List D→Option D):Prop:=Qeq X f (rC X.K X.mg g)
def Qaz (g:List D→Option D) (ma:M (List D)):M D:=fun ρ O=>(ma ρ O).bind fun ds O1=>match g (ds.map (QaI O1)) with
 | some d=>.ok d O1
 | none=>.no
theorem Qhv {K:Frag}{mg:Str→Option Value}{g:List D→Option D}{ms:List Md}{ma:M (List D)}{σ:St}{H:Hp}{Q:VK} (q:tM K mg md P (rO K) (Qaz g ma) σ H Q):tCB (rC K mg g) (tMA K mg md P ms ma) σ H Q:=by
 obtain ⟨ρ,O,F,as,d,O',r,s,e,k⟩:=q;obtain ⟨ds,O1,e1,e⟩:=Res.bind_ok e;split at e
 ·rename_i y hg;cases e;refine ⟨ρ,_,F,as,_,_,r,s,e1,fun vs H1 F1 as1 g1 r1 hv=>?_⟩;exact ⟨_,F1,as1,_,_,r1,hv.lks r1,hg,fun v' H' F' g' r' hw=>k v' H' F' as1 (g1.trans g') r' (QcB _ _ _ _ _ _ _ (fun a ha=>g1.dm a ha) hw)⟩
 ·cases e
theorem Qa9 {x:Str}{p pos:Pos}{e:Expr}{es:List Expr}{id:String}{g:List D→Option D}{ms:List Md}{ma:M (List D)} (hc:QfC X (.builtin id) g) (hm:X.mg x=none) (ha:AE X md P ms (e::es) ma) (hv:bootBuiltins x=some (.builtin id):=by decide +kernel) (hg:Gl X x:=by rfl)
  (hn:x≠"__name__":=by decide) (hdb:(x == ("__debug__":Str))=false:=by decide) (he:starEach (e::es) X.env=(false,eval e X.env)::starEach es X.env:=by exact Qa0 rfl) (hpl:(backTo pos (starEach es X.env)).any (·.1)=false:=by exact Qbd rfl) :
  OE X md P (.Call (.Name x p) (e::es) [] pos) (Qaz g ma):=(Qhd hc hg hm hv ha hn hdb he hpl).imp fun _ _ _ q=>Qhv q
theorem Qhb {x:Str}{p pos:Pos}{e:Expr}{es:List Expr}{T:String}{g:List D→Option D}{ms:List Md}{ma:M (List D)} (hc:QfC X (.type T) g) (hm:X.mg x=none) (ha:AE X md P ms (e::es) ma) (hv:bootBuiltins x=some (.type T):=by decide +kernel) (hg:Gl X x:=by rfl)
  (hn:x≠"__name__":=by decide) (hdb:(x == ("__debug__":Str))=false:=by decide) (he:starEach (e::es) X.env=(false,eval e X.env)::starEach es X.env:=by exact Qa0 rfl) (hpl:(backTo pos (starEach es X.env)).any (·.1)=false:=by exact Qbd rfl) :
  OE X md P (.Call (.Name x p) (e::es) [] pos) (Qaz g ma):=(Qqd hc hg hm hv ha hn hdb he hpl).imp fun _ _ _ q=>Qhv q
theorem Lks.one {K:Frag}{H F:Hp}{as:List Addr}{vs:List V}{d:D} (h:Lks K H F as vs [d]):∃v,vs = [v]∧Lk K H F as v d:=by
 cases vs with
 | nil=>exact h.elim
 | cons v vs =>
  cases vs with
  | nil=>exact ⟨v,rfl,h.1⟩
  | cons u us=>exact h.2.elim
theorem Lks.two {K:Frag}{H F:Hp}{as:List Addr}{vs:List V}{d e:D} (h:Lks K H F as vs [d,e]):∃v u,vs = [v,u]∧Lk K H F as v d∧Lk K H F as u e:=by
 cases vs with
 | nil=>exact h.elim
 | cons v vs =>
  cases vs with
  | nil=>exact h.2.elim
  | cons u us =>
   cases us with
   | nil=>exact ⟨v,u,rfl,h.1,h.2.1⟩
   | cons w ws=>exact h.2.2.elim
def Qbn:List D→Option D
 | [.str l]=>if l.length≤1000000 then some (.int l.length) else none
 | [.lst ds]=>some (.int ds.length)
 | [.tup ds]=>some (.int ds.length)
 | _=>none
theorem Qb1:QfC X (.builtin "len") Qbn:=by
 intro pins s σ H xs us Q I rs h;obtain ⟨O,F,as,ds,d,r,hvs,e,k⟩:=h;unfold Qbn at e;split at e
 ·rename_i l;obtain ⟨v,rfl,hv⟩:=hvs.one;split at e
  ·rename_i hz;cases e;cases (hv.rp rfl).unS;refine call_len pins s σ H _ us Q I rs ⟨_,_,rfl,⟨by rw [Qbt]; exact QdI hz,rfl⟩,?_⟩;rw [Qbt];exact Qbf r k rfl Rp.int
  ·cases e
 ·rename_i l;obtain ⟨v,rfl,hv⟩:=hvs.one;cases e;obtain ⟨p,xs,rfl,h1,h2⟩:=hv.list r.fh;refine call_len pins s σ H _ us Q I rs ⟨_,_,rfl,.inl ⟨xs,h1.sq,rfl⟩,?_⟩;rw [h2.length];exact Qbf r k rfl Rp.int
 ·rename_i l;obtain ⟨v,rfl,hv⟩:=hvs.one;cases e;obtain ⟨p,xs,rfl,h1,h2⟩:=(hv.rp rfl).unT;refine call_len pins s σ H _ us Q I rs ⟨_,_,rfl,.inr ⟨xs,Same.seqT r.fh h1,rfl⟩,?_⟩;rw [h2.length];exact Qbf r k rfl Rp.int
 ·cases e
def QhC:List D→Option D
 | [.int i,.int j]=>some (.int (if j > i then j else i))
 | _=>none
def QhF:List D→Option D
 | [.int i,.int j]=>some (.int (if j < i then j else i))
 | _=>none
theorem Qqp (hc:X.calm=true):QfC X (.builtin "max") QhC:=by
 intro pins s σ H xs us Q I rs h;obtain ⟨O,F,as,ds,d,r,hvs,e,k⟩:=h;unfold QhC at e;split at e
 ·obtain ⟨v,u,rfl,hv,hu⟩:=hvs.two;cases e;cases (hv.rp rfl).unI;cases (hu.rp rfl).unI;exact Qph hc pins s σ H _ us Q I rs ⟨_,_,rfl,Qbf r k rfl Rp.int⟩
 ·cases e
theorem Qq7 (hc:X.calm=true):QfC X (.builtin "min") QhF:=by
 intro pins s σ H xs us Q I rs h;obtain ⟨O,F,as,ds,d,r,hvs,e,k⟩:=h;unfold QhF at e;split at e
 ·obtain ⟨v,u,rfl,hv,hu⟩:=hvs.two;cases e;cases (hv.rp rfl).unI;cases (hu.rp rfl).unI;exact QpC hc pins s σ H _ us Q I rs ⟨_,_,rfl,Qbf r k rfl Rp.int⟩
 ·cases e
def QvH:List D→Option D
 | [.int i]=>some (.int i)
 | [.bl b]=>some (.int (if b then 1 else 0))
 | _=>none
def Qfz:List D→Option D
 | [.lst ds]=>some (.lst ds)
 | [.tup ds]=>some (.lst ds)
 | _=>none
theorem QnO:QfC X (.type "list") Qfz:=by
 intro pins s σ H xs us Q I rs h;obtain ⟨O,F,as,ds,d,r,hvs,e,k⟩:=h;unfold Qfz at e;split at e
 ·obtain ⟨v,rfl,hv⟩:=hvs.one;cases e;obtain ⟨p,xs,rfl,h1,h2⟩:=hv.list r.fh;exact Qh9 pins s σ H _ us Q I rs ⟨p,xs,rfl,.inl h1.sq,fun l hl=>QjP r k hl h2⟩
 ·obtain ⟨v,rfl,hv⟩:=hvs.one;cases e;obtain ⟨p,xs,rfl,h1,h2⟩:=(hv.rp rfl).unT;exact Qh9 pins s σ H _ us Q I rs ⟨p,xs,rfl,.inr (Same.seqT r.fh h1),fun l hl=>QjP r k hl h2⟩
 ·cases e
def Qdp:List D→Option (List Int)
 | []=>some []
 | .int b::ds=>(Qdp ds).map (b :: ·)
 | _=>none
theorem Rps.ints {K:Frag}{F:Hp}{as:List Addr}:∀{ds:List D}{xs:List V}{bs:List Int},Rps K F as xs ds→Qdp ds=some bs→xs=bs.map V.int
 | [],xs,bs,h,e=>by cases e; rw [h.un0]; rfl
 | d::ds,xs,bs,h,e=>by
  obtain ⟨x,r,rfl,h2,h3⟩:=h.un
  cases d with
  | int b =>
   unfold Qdp at e
   cases q:Qdp ds with
   | none=>rw [q] at e; cases e
   | some cs =>
    rw [q] at e;cases e;rw [h2.unI,Rps.ints h3 q];rfl
  | _=>cases e
def QlG:List D→Option D
 | [.lst ds]=>(Qdp ds).bind fun ns=>if (ns.all (fun n=>decide (0≤n)&&decide (n≤1000000))&&decide (ns.length≤1000000))=true then some (.int ns.sum) else none
 | _=>none
theorem Qv9 (hc:X.calm=true):QfC X (.builtin "sum") QlG:=by
 intro pins s σ H xs us Q I rs h;obtain ⟨O,F,as,ds,d,r,hvs,e,k⟩:=h;unfold QlG at e;split at e
 ·rename_i es;obtain ⟨v,rfl,hv⟩:=hvs.one;obtain ⟨p,xs,rfl,h1,h2⟩:=hv.list r.fh
  cases q:Qdp es with
  | none=>rw [q] at e; cases e
  | some ns =>
   rw [q] at e;dsimp only [Option.bind_some] at e;split at e
   ·rename_i hz;rw [zm,decide_eq_true_eq,ju] at hz;cases e;refine QqH hc pins s σ H _ us Q I rs ⟨p,ns,rfl,?_,fun n hn=>?_,hz.2,Qbf r k rfl Rp.int⟩
    ·rw [←h2.ints q];exact h1.sq
    ·have:=hz.1 n hn
     rw [zm,decide_eq_true_eq,decide_eq_true_eq] at this;exact this
   ·cases e
 ·cases e
theorem Qb0:bootBuiltins "len" = some (.builtin "len"):=by decide +kernel
theorem QpF:bootBuiltins "max" = some (.builtin "max"):=by decide +kernel
theorem Qp6:bootBuiltins "min" = some (.builtin "min"):=by decide +kernel
theorem QvX:bootBuiltins "sum" = some (.builtin "sum"):=by decide +kernel
theorem QpT:bootBuiltins "int" = some (.type "int"):=by decide +kernel
theorem Qp0:bootBuiltins "str" = some (.type "str"):=by decide +kernel
theorem Que:bootBuiltins "bool" = some (.type "bool"):=by decide +kernel
theorem QiC:bootBuiltins "list" = some (.type "list"):=by decide +kernel
def tyD:D→Option String
 | .non=>some "NoneType"
 | .bl _=>some "bool"
 | .int _=>some "int"
 | .str _=>some "str"
 | .lst _=>some "list"
 | .tup _=>some "tuple"
 | .dic _ _=>some "dict"
 | .ob _=>none
def QcM (t n:String):Bool:=t == n || (t == "bool" && n == "int")
def Qgr (n:String) (m:M D):M D:=fun ρ O=>(m ρ O).bind fun d O1=>match tyD (QaI O1 d) with
 | some t=>.ok (.bl (QcM t n)) O1
 | none=>.no
def Qsk:List String:=["str","int","bool","list","tuple","dict"]
theorem QtG (K:Frag):∀d t,tyD d=some t→∀n∈Qsk,PySem.W.kitOne K (.type t) (.type n)=some (QcM t n):=by
 intro d t e n hn;simp only [Qsk,zd,List.not_mem_nil,or_false] at hn
 cases d <;> cases e <;> rcases hn with rfl | rfl | rfl | rfl | rfl | rfl <;> first | exact QrO K _ | kernel_rfl
theorem Lk.ty {K:Frag}{H F:Hp}{as:List Addr}{v:V}{d:D}{t:String} (h:Lk K H F as v d) (fh:Same F H) (e:tyD d=some t):TyQ K H v t:=by
 cases d with
 | non=>cases e; rw [(h.rp rfl).unN]; exact .non
 | bl b=>cases e; rw [(h.rp rfl).unB]; exact .bl _
 | int b=>cases e; rw [(h.rp rfl).unI]; exact .int _
 | str b=>cases e; rw [(h.rp rfl).unS]; exact .str _
 | lst ds=>cases e; obtain ⟨p,xs,rfl,h1,h2⟩:=h.list fh; exact .lst h1.sq
 | tup ds=>cases e; obtain ⟨p,xs,rfl,h1,h2⟩:=(h.rp rfl).unT; exact .tup (Same.seqT fh h1)
 | dic ks vs=>cases e; obtain ⟨p,xs,rfl,h1,h2⟩:=(h.rp rfl).unD; exact .dK (fh _ _ h1)
 | ob n=>cases e
theorem QjB (n:String) {T:Str}{a:Expr}{p p' pos:Pos}{m:M D} (hm:X.mg "isinstance" = none) (hT:X.mg T=none) (h:SE X md P a m) (hb:bootBuiltins T=some (.type n):=by decide +kernel) (hn:n∈Qsk:=by decide) (hg:Gl X "isinstance":=by rfl) (hgT:Gl X T:=by rfl)
  (hTn:T≠"__name__":=by decide) (hTd:(T == ("__debug__":Str))=false:=by decide)
  (hs1:starEach [a,.Name T p'] X.env=(false,eval a X.env)::starEach [.Name T p'] X.env:=by exact Qa0 rfl) (hs2:starEach [.Name T p'] X.env=(false,eval (.Name T p') X.env)::starEach [] X.env:=by rfl) (hpl:(backTo pos (starEach [.Name T p'] X.env)).any (·.1)=false:=by exact Qbd rfl) :
  OE X md P (.Call (.Name "isinstance" p) [a,.Name T p'] [] pos) (Qgr n m) :=
 (Qhd (Qqy X.K) hg hm (by decide +kernel) (Qcm h (Qcm (Qny (v:=.ty n) hgT hT hb rfl hTn hTd) Qd2 hs2) hs1) (by decide) (by decide) hs1 hpl).imp fun σ H Q q=>by
  obtain ⟨ρ,O,F,as,d,O',r,s,e,k⟩:=q;obtain ⟨x,O1,e1,e⟩:=Res.bind_ok e;split at e
  ·rename_i t ht;cases e;refine ⟨ρ,_,F,as,_,_,r,s,e1,fun v H1 F1 as1 g1 r1 hv=>?_⟩;exact ⟨v,n,t,_,rfl,Lk.ty (Sv.lk hv r1) r1.fh ht,QtG _ _ t ht n hn,k _ H1 F1 as1 g1 r1 (.inl ⟨rfl,Rp.bl⟩)⟩
  ·cases e
def Qlx (m:M D):M (List D):=fun ρ O=>(m ρ O).bind fun d O1=>match d with
 | .lst ds=>.ok ds O1
 | _=>.no
def QoR (m:M D):M (List D):=fun ρ O=>(m ρ O).bind fun d O1=>match d with
 | .tup ds=>.ok ds O1
 | _=>.no
theorem Qr2 {K:Frag}{mg:Str→Option Value}{H F:Hp}{as:List Addr}{a:Addr}{xs:List V}{ds:List D} (hs:Rps K F as xs ds) (hp:∀(H2 F2:Hp) (as2:List Addr),GrS P H F as H2 F2 as2→(∃O,RlO K mg O H2 F2 as2)→RdK K H2 a xs):JOk K mg P (Itl K a) ds H F as:=by
 refine ⟨fun i d H2 F2 as2 g r e=>?_,fun H2 F2 as2 g r=>⟨xs,(hp H2 F2 as2 g r).sq,by rw [hs.length]; exact ze _⟩⟩;obtain ⟨x,h1,h2⟩:=hs.get' e;have q:=hp H2 F2 as2 g r;refine ⟨⟨xs,x,q.sq,h1⟩,fun y H3 hy=>?_⟩;obtain ⟨rfl,hy⟩:=hy
 have:=hy xs q.sq
 rw [h1] at this;cases this;exact ⟨F2,Gr.refl,fun _ r=>r,h2.grS g⟩
end
section
variable {X:Cx}{pins:List (Addr×Obj)}{σ:St}{H:Hp}{s:Shared}
end
section
variable {X:Cx}{elts:List Expr}{x1:Nat}{tpos:Pos}
end
def rW (K:Frag) (P:Pt):RR:=fun _ H F as v d=>Rp K F as v d∨∃a xs ds,v = .ref a∧d = .lst ds∧H a=some (.lst xs)∧a∉as∧P a∧Rps K F as xs ds
def WE (X:Cx) (md:List Md) (P:Pt) (e:Expr) (m:M D):Prop:=PE X e (tM X.K X.mg md P (rW X.K P) m)
section
variable {X:Cx}{md:List Md}{P:Pt}{R:RR}
theorem QoY {e:Expr}{m:M D} (h:VE X md P e m):WE X md P e m:=h.imp fun σ H Q q=>by
 obtain ⟨ρ,O,F,as,d,O',r,s,e,k⟩:=q;exact ⟨ρ,O,F,as,d,O',r,s,e,fun v H' F' as' g r' hv=>k v H' F' as' g r' (.inl hv)⟩
theorem QsM {K:Frag}{mg:Str→Option Value}{N:Addr→Prop}{H F:Hp}{as:List Addr}{v:V}{ds:List D} (hv:rW K P N H F as v (.lst ds)) :
  ∃a xs,v = .ref a∧Rps K F as xs ds∧∀(H2 F2:Hp) (as2:List Addr),GrS P H F as H2 F2 as2→(∃O,RlO K mg O H2 F2 as2)→RdK K H2 a xs:=by
 rcases hv with hv | ⟨a,xs,ds',rfl,e,e3,e4,e5,e6⟩
 ·obtain ⟨a,xs,rfl,h1,h2⟩:=hv.unL;exact ⟨a,xs,rfl,h2,fun H2 F2 as2 g ⟨O,r⟩=>(h1.mono g.ff).mono r.fh⟩
 ·cases e;exact ⟨a,xs,rfl,e6,fun H2 F2 as2 g _=>.inl (.inl (g.fr _ _ e5 e3 e4 rfl))⟩
theorem Qus {tg e:Expr}{m:M D} (h:WE X md P e m):VI X md P tg e (Qlx m):=(QnR h).imp fun σ H Q q=>by
 obtain ⟨ρ,O,F,as,ds,O',r,s,e,k⟩:=q;obtain ⟨d,O1,e1,e⟩:=Res.bind_ok e
 cases d with
 | lst es =>
  cases e;refine ⟨ρ,_,F,as,_,_,r,s,e1,fun v H1 F1 as1 g1 r1 hv=>?_⟩;obtain ⟨a,xs,rfl,h1,h2⟩:=QsM (mg:=X.mg) hv;exact ⟨a,rfl,⟨xs,(h2 H1 F1 as1 GrS.refl ⟨_,r1⟩).sq⟩,k _ H1 F1 as1 g1 r1 (Qr2 h1 h2)⟩
 | _=>cases e
theorem QqZ {tg e:Expr}{m:M D} (h:VE X md P e m):VI X md P tg e (QoR m):=(Qwo h).imp fun σ H Q q=>by
 obtain ⟨ρ,O,F,as,ds,O',r,s,e,k⟩:=q;obtain ⟨d,O1,e1,e⟩:=Res.bind_ok e
 cases d with
 | tup es =>
  cases e;refine ⟨ρ,_,F,as,_,_,r,s,e1,fun v H1 F1 as1 g1 r1 hv=>?_⟩;obtain ⟨a,xs,rfl,h1,h2⟩:=Rp.unT hv
  have hp:∀(H2 F2:Hp) (as2:List Addr),GrS P H1 F1 as1 H2 F2 as2→(∃O,RlO X.K X.mg O H2 F2 as2)→SqT X.K H2 a xs:=fun H2 F2 as2 g ⟨O,r⟩=>Same.seqT r.fh (Same.seqT g.ff h1)
  refine ⟨a,rfl,⟨xs,hp H1 F1 as1 GrS.refl ⟨_,r1⟩⟩,k _ H1 F1 as1 g1 r1 ⟨fun i d H2 F2 as2 g r e=>?_,fun H2 F2 as2 g r=>⟨xs,hp H2 F2 as2 g r,by rw [h2.length]; exact ze _⟩⟩⟩;obtain ⟨x,h3,h4⟩:=h2.get' e;have q:=hp H2 F2 as2 g r;refine ⟨⟨xs,x,q,h3⟩,fun y H3 hy=>?_⟩;obtain ⟨rfl,hy⟩:=hy
  have:=hy xs q
  rw [h3] at this;cases this;exact ⟨F2,Gr.refl,fun _ r=>r,h4.grS g⟩
 | _=>cases e
def Qcs (l:List Nat):List D:=l.map fun c=>.str [c]
def Qox (m:M D):M (List D):=fun ρ O=>(m ρ O).bind fun d O1=>match d with
 | .str l=>if ascii l=true then .ok (Qcs l) O1 else .no
 | _=>.no
theorem Qi6 {K:Frag}{mg:Str→Option Value}{J:It}{ds:List D}{H F:Hp}{as:List Addr} (h1:∀(i:Nat) (d:D) (H2:Hp),ds[i]? = some d→J.go i H2∧∀x H3,J.yld i H2 x H3→H3=H2∧∀K F as,Rp K F as x d) (h2:∀H2,J.stop ds.length H2):JOk K mg P J ds H F as :=
 ⟨fun i d H2 F2 as2 _ _ e=>⟨(h1 i d H2 e).1,fun x H3 y=>by
  obtain ⟨rfl,hx⟩:=(h1 i d H2 e).2 x H3 y
  exact ⟨F2,Gr.refl,fun _ r=>r,hx _ _ _⟩⟩,fun H2 _ _ _ _=>h2 H2⟩
theorem Qqk {tg e:Expr}{m:M D} (h:SE X md P e m):VI X md P tg e (Qox m):=(Qwm h).imp fun σ H Q q=>by
 obtain ⟨ρ,O,F,as,ds,O',r,s,e,k⟩:=q;obtain ⟨d,O1,e1,e⟩:=Res.bind_ok e
 cases d with
 | str l =>
  dsimp only at e;split at e
  ·rename_i hl;cases e;refine ⟨ρ,_,F,as,_,_,r,s,e1,fun v H1 F1 as1 g1 r1 hv=>?_⟩;refine ⟨l,(Sv.rp hv rfl).unS,hl,k _ H1 F1 as1 g1 r1 (Qi6 (fun i d H2 e=>?_) fun H2=>by simp [Qcs,Its])⟩;unfold Qcs at e;rw [zx] at e
   cases q:l[i]? with
   | none=>rw [q] at e; cases e
   | some c =>
    rw [q] at e;cases e;refine ⟨(zk.mp q).1,fun x H3 y=>?_⟩;obtain ⟨e1,c',e2,rfl⟩:=y;rw [q] at e2;cases e2;exact ⟨e1,fun _ _ _=>Rp.str⟩
  ·cases e
 | _=>cases e
def QaY (lo:Int) (n:Nat):List D:=(List.range n).map fun (k:Nat)=>.int (lo+(k:Int))
def Qck (m:M (List D)):M (List D):=fun ρ O=>(m ρ O).bind fun ds O1=>match ds with
 | [.int j]=>if j≤1000000000∧-1000000000≤j then .ok (QaY 0 j.toNat) O1 else .no
 | _=>.no
def QjA (m:M (List D)):M (List D):=fun ρ O=>(m ρ O).bind fun ds O1=>match ds with
 | [.int i,.int j]=>if (i≤1000000000∧-1000000000≤i)∧j≤1000000000∧-1000000000≤j then .ok (QaY i (j - i).toNat) O1 else .no
 | _=>.no
theorem QkZ {K:Frag}{mg:Str→Option Value}{lo:Int}{n:Nat}{H F:Hp}{as:List Addr}:JOk K mg P (Itr lo n) (QaY lo n) H F as:=Qi6 (fun i d H2 e=>by
 unfold QaY at e;rw [zx] at e
 by_cases hi:i < n
 ·rw [List.getElem?_range hi] at e;cases e;refine ⟨hi,fun x H3 y=>?_⟩;obtain ⟨e1,rfl⟩:=y;exact ⟨e1,fun _ _ _=>Rp.int⟩
 ·rw [List.getElem?_eq_none (by simpa using hi)] at e
  cases e) fun H2=>by simp [QaY,Itr]
theorem Qbp.one {K:Frag}{H F:Hp}{as:List Addr}{m:Md}{vs:List V}{d:D} (h:Qbp K H F as [m] vs [d]):∃v,vs = [v]∧rA K m (fun _=>True) H F as v d:=by
 cases vs with
 | nil=>exact h.elim
 | cons v vs =>
  cases vs with
  | nil=>exact ⟨v,rfl,h.1⟩
  | cons u us=>exact h.2.elim
theorem Qbp.two {K:Frag}{H F:Hp}{as:List Addr}{m n:Md}{vs:List V}{d e:D} (h:Qbp K H F as [m,n] vs [d,e]):∃v u,vs = [v,u]∧rA K m (fun _=>True) H F as v d∧rA K n (fun _=>True) H F as u e:=by
 cases vs with
 | nil=>exact h.elim
 | cons v vs =>
  cases vs with
  | nil=>exact h.2.elim
  | cons u us =>
   cases us with
   | nil=>exact ⟨v,u,rfl,h.1,h.2.1⟩
   | cons w ws=>exact h.2.2.elim
theorem QdU {tg a:Expr}{p pos:Pos}{m:M (List D)} (hm:X.mg "range" = none) (ha:AE X md P [.s] [a] m) (hg:Gl X "range":=by rfl) (hs:starEach [a] X.env = [(false,eval a X.env)]:=by exact Qj4 rfl):VI X md P tg (.Call (.Name "range" p) [a] [] pos) (Qck m):=(QqN hg hm ha hs).imp fun σ H Q q=>by
 obtain ⟨ρ,O,F,as,ds,O',r,s,e,k⟩:=q;obtain ⟨es,O1,e1,e⟩:=Res.bind_ok e;split at e
 ·rename_i j;split at e
  ·rename_i hj;cases e;refine ⟨ρ,_,F,as,_,_,r,s,e1,fun vs H1 F1 as1 g1 r1 hv=>?_⟩;obtain ⟨v,rfl,hv1⟩:=hv.one
   have:=(Sv.rp hv1 rfl).unI
   subst this;exact ⟨j,rfl,by omega,by omega,k _ H1 F1 as1 g1 r1 QkZ⟩
  ·cases e
 ·cases e
theorem Qpi {tg a b:Expr}{p pos:Pos}{m:M (List D)} (hm:X.mg "range" = none) (ha:AE X md P [.s,.s] [a,b] m) (hg:Gl X "range":=by rfl) (hs:starEach [a,b] X.env = [(false,eval a X.env),(false,eval b X.env)]:=by exact QxB rfl rfl) (hs2:starEach [b] X.env = [(false,eval b X.env)]:=by exact Qj4 rfl) :
  VI X md P tg (.Call (.Name "range" p) [a,b] [] pos) (QjA m):=(Qqa hg hm ha hs hs2).imp fun σ H Q q=>by
 obtain ⟨ρ,O,F,as,ds,O',r,s,e,k⟩:=q;obtain ⟨es,O1,e1,e⟩:=Res.bind_ok e;split at e
 ·rename_i i j;split at e
  ·rename_i hj;cases e;refine ⟨ρ,_,F,as,_,_,r,s,e1,fun vs H1 F1 as1 g1 r1 hv=>?_⟩;obtain ⟨v,u,rfl,hv1,hu⟩:=hv.two;have e3:=(Sv.rp hv1 rfl).unI;have e4:=(Sv.rp hu rfl).unI;subst e3 e4;exact ⟨i,j,rfl,⟨by omega,by omega,by omega,by omega⟩,k _ H1 F1 as1 g1 r1 QkZ⟩
  ·cases e
 ·cases e
def QjC:Nat→List D→List D
 | _,[]=>[]
 | k,d::ds=>.tup [.int k,d]::QjC (k+1) ds
variable {elts:List Expr}{x1:Nat}{tpos:Pos}
def QeP:List D→Option (List (List Nat))
 | []=>some []
 | .str l::ds=>(QeP ds).map (l :: ·)
 | _=>none
theorem Rps.strs {K:Frag}{F:Hp}{as:List Addr}:∀{ds:List D}{xs:List V}{ls:List (List Nat)},Rps K F as xs ds→QeP ds=some ls→xs=ls.map fun l=>V.str (S l)
 | [],xs,bs,h,e=>by cases e; rw [h.un0]; rfl
 | d::ds,xs,bs,h,e=>by
  obtain ⟨x,r,rfl,h2,h3⟩:=h.un
  cases d with
  | str b =>
   unfold QeP at e
   cases q:QeP ds with
   | none=>rw [q] at e; cases e
   | some cs =>
    rw [q] at e;cases e;rw [h2.unS,Rps.strs h3 q];rfl
  | _=>cases e
def Qlr (m:M D):M D:=fun ρ O=>(m ρ O).bind fun d O1=>match QaI O1 d with
 | .lst ds=>match QeP ds with
  | some ls=>if (ls.map List.length).sum≤1000000 then .ok (.str ls.flatten) O1 else .no
  | none=>.no
 | _=>.no
theorem Qtj {e:Expr}{j:Nat}{p apos cpos:Pos}{m:M D} (h:SE X md P e m) {x:Str} (hx:x=S []:=by decide +kernel)
  (hfew:((backTo cpos (starEach [e] X.env)).all (fun x=>!x.1)&&(backToKw cpos (keywordEach [] X.env)).all (fun x=>x.1.isSome)&&decide ([e].length+([]:List Keyword).length+(if ([]:List Keyword).isEmpty then 0 else 1) < 30))=true:=by rfl)
  (hline:(apos.endLine == cpos.line)=true:=by rfl) (hs:starEach [e] X.env=(false,eval e X.env)::starEach [] X.env:=by exact Qa0 rfl) (hbase:attributeBase (.Constant (.str x) j p) "join" X.env (eval (.Constant (.str x) j p) X.env)=eval (.Constant (.str x) j p) X.env:=by rfl) (hplain:(backTo cpos (starEach [] X.env)).any (·.1)=false:=by exact Qbd rfl) :
  OE X md P (.Call (.Attribute (.Constant (.str x) j p) "join" apos) [e] [] cpos) (Qlr m) :=
 (QsU PySem.F.plainAttrs_str PySem.F.slot_str_join PySem.F.type_str_join (QrW X.K) (QgW (x:=x)) (Qcm h Qd2 hs) hbase hfew hline hs hplain).imp fun σ H Q q=>by
  obtain ⟨ρ,O,F,as,d,O',r,s,e,k⟩:=q;obtain ⟨y,O1,e1,e⟩:=Res.bind_ok e
  cases ed:QaI O1 y with
  | lst ds =>
   rw [ed] at e;dsimp only at e
   cases es:QeP ds with
   | none=>rw [es] at e; cases e
   | some ls =>
    rw [es] at e;dsimp only at e;split at e
    ·rename_i hz;cases e;refine ⟨rfl,ρ,_,F,as,_,_,r,s,e1,fun v H1 F1 as1 g1 r1 hv=>?_⟩;have q:=Sv.lk hv r1;rw [ed] at q;obtain ⟨a,xs,rfl,h1,h2⟩:=q.list r1.fh;refine ⟨a,ls,by rw [hx],rfl,?_,hz,k _ H1 F1 as1 g1 r1 (.inl ⟨rfl,Rp.str⟩)⟩;rw [←h2.strs es];exact h1.sq
    ·cases e
  | _=>rw [ed] at e; cases e
def QtC (mo m:M D):M D:=fun ρ O=>(mo ρ O).bind fun a O1=>(m ρ O1).bind fun b O2=>match a,b with
 | .str l,.str n=>.ok (.bl (decide (l.take n.length=n))) O2
 | _,_=>.no
end
section
variable {K:Frag}{mg:Str→Option Value}{md:List Md}{P:Pt}{ρ:Qak}{σ:St}{H F:Hp}{as:List Addr}{O:Qac}{i:Nat}{a:Addr}{xs xs':List V}{ds ds':List D}
theorem SlO.own (s:SlO K md P ρ σ H F as) (hm:md[i]? = some .o) (hρ:ρ[i]? = some (some (.lst ds))):∃a xs,σ[i]? = some (some (.ref a))∧H a=some (.lst xs)∧F a=none∧a∉as∧¬P a∧Rps K F as xs ds:=by
 obtain ⟨v,h1,h2⟩:=s.sl i .o _ hm hρ
 rcases h2 with ⟨h2,_⟩ | ⟨a,xs,es,rfl,e2,e3,e0,e4,e5,e6⟩
 ·cases h2
 ·cases e2;exact ⟨a,xs,h1,e3,e0,e4,e5,e6⟩
theorem SlO.mut (s:SlO K md P ρ σ H F as) (hm:md[i]? = some .o) (hρ:ρ[i]? = some (some (.lst ds))) (hσ:σ[i]? = some (some (.ref a))) (hF:F a=none) (ha:a∉as) (hP:¬P a) (r:Rps K F as xs' ds'):SlO K md P (ρ.set i (some (.lst ds'))) σ (upd H a (.lst xs')) F as:=by
 have hi:i < md.length:=(zk.mp hm).1;refine ⟨s.len,by rw [zU]; exact s.len',fun c p=>?_,fun j m d e1 e2=>?_,fun j k c es fs h1 h2 h3 h4 h5 h6=>?_,fun x hx=>?_⟩
 ·have:=s.pd c p
  unfold upd
  split
  ·exact fun z=>nomatch z
  ·exact this
 ·by_cases h:i=j
  ·subst h;rw [hm] at e1; cases e1;rw [zF (by rw [s.len']; exact hi)] at e2;cases e2;exact ⟨_,hσ,.inr ⟨a,xs',ds',rfl,rfl,QaE,hF,ha,hP,r⟩⟩
  ·rw [zl h] at e2;obtain ⟨v,q1,q2⟩:=s.sl j m d e1 e2;refine ⟨v,q1,?_⟩
   cases m with
   | v=>exact q2
   | s =>
    rcases q2 with q2 | ⟨c,ys,es,z1,z2,z3,z4,z5,z6⟩
    ·exact .inl q2
    ·exact .inr ⟨c,ys,es,z1,z2,by rw [Qaq (fun z=>hP (by rw [←z]; exact z5))]; exact z3,z4,z5,z6⟩
   | o =>
    rcases q2 with q2 | ⟨c,ys,es,z1,z2,z3,z0,z4,z5,z6⟩
    ·exact .inl q2
    ·refine .inr ⟨c,ys,es,z1,z2,?_,z0,z4,z5,z6⟩;rw [Qaq]
     ·exact z3
     ·intro z;subst z z1 z2;exact h (s.inj i j c ds es hm e1 hρ e2 hσ q1)
 ·have f:∀k es,(ρ.set i (some (.lst ds')))[k]? = some (some (D.lst es))→∃es',ρ[k]? = some (some (D.lst es')):=fun k es q=>by
   by_cases h:i=k
   ·subst h; exact ⟨ds,hρ⟩
   ·rw [zl h] at q; exact ⟨es,q⟩
  obtain ⟨es',q3⟩:=f j es h3;obtain ⟨fs',q4⟩:=f k fs h4;exact s.inj j k c es' fs' h1 h2 q3 q4 h5 h6
 ·obtain ⟨p1,p2,p3⟩:=s.pin x hx
  have hne:i≠x.1:=fun z=>by rw [←z,hm] at p1; cases p1
  exact ⟨p1,by rw [zl hne]; exact p2,p3⟩
theorem Qvt {xs:List V} (hH:H a=some (.lst xs)) (hP:¬P a) {o:HO}:GrS P H F as (upd H a o) F as :=
 ⟨fun _ _ _ _ _ _=>rfl,Same.refl F,⟨[],by simp,fun _ h=>nomatch h⟩,fun c u p e _ _=>by rw [Qaq (fun z=>hP (by rw [←z]; exact p))]; exact e,fun c e=>by
  by_cases h:c=a
  ·subst h; rw [QaE] at e; cases e
  ·rwa [Qaq h] at e,fun c o' u e=>by rw [Qaq (fun z=>by rw [z,hH] at e; cases e)]; exact e⟩
theorem RlO.mut (r:RlO K mg O H F as) (hF:F a=none) (ha:a∉as) {o:HO}:RlO K mg O (upd H a o) F as:=by
 refine ⟨fun c u e=>?_,r.fd,r.nd,r.len,r.fa,fun n c u hc hu=>(r.ob n c u hc hu).keep (Qaq ?_) (Same.refl F) fun _ _ h=>h⟩
 ·rw [Qaq (QaC e hF)]; exact r.fh c u e
 ·intro z; subst z; exact ha (zO hc)
end
section
variable {X:Cx}{md:List Md}{P:Pt}{R:RR}
def Qcj (i:Nat) (m:M D):MS:=fun ρ O=>match m ρ O with
 | .ok d O'=>match ρ[i]? with
  | some (some (.lst ds))=>if ds.length < 1000000 then .nx (ρ.set i (some (.lst (ds ++ [d])))) O' else .no
  | _=>.no
 | .ex x O'=>.ex x O'
 | .no=>.no
theorem Qq6 {i:Nat}{m:M D}{ρ:Qak}{O:Qac} (K:Frag) (mg:Str→Option Value) {D:Ends}{H F:Hp}{as:List Addr} (k:Qic K mg md P R D H F as (Qcj i m ρ O)) :
  ∃d O' ds,m ρ O = .ok d O'∧ρ[i]? = some (some (.lst ds))∧ds.length < 1000000∧Qic K mg md P R D H F as (.nx (ρ.set i (some (.lst (ds ++ [d])))) O'):=by
 unfold Qcj at k;split at k
 ·rename_i d O' e;split at k
  ·rename_i ds e2;split at k
   ·rename_i hz;exact ⟨d,O',ds,e,e2,hz,k⟩
   ·exact False.elim k
  ·exact False.elim k
 ·exact False.elim k
 ·exact False.elim k
theorem QdT (i:Nat) {x:Str}{p apos cpos pos:Pos}{e:Expr}{m:M D} (h:VE X md P e m) (hm:md[i]? = some .o:=by rfl) (hN:X.N[i]? = some x:=by rfl) (hv:Vis X.env.scope x:=by first | exact Or.inl rfl | exact Or.inr (Or.inl rfl) | exact Or.inr (Or.inr rfl))
  (hd:(x == ("__debug__":Str))=false:=by decide) (hcd:(x == ("__classdict__":Str))=false:=by decide)
  (hbase:attributeBase (.Name x p) "append" X.env (eval (.Name x p) X.env)=eval (.Name x p) X.env:=by rfl)
  (hfew:((backTo cpos (starEach [e] X.env)).all (fun x=>!x.1)&&(backToKw cpos (keywordEach [] X.env)).all (fun x=>x.1.isSome)&&decide ([e].length+([]:List Keyword).length+(if ([]:List Keyword).isEmpty then 0 else 1) < 30))=true:=by rfl)
  (hline:(apos.endLine == cpos.line)=true:=by rfl) (hs:starEach [e] X.env=(false,eval e X.env)::starEach [] X.env:=by exact Qa0 rfl) (hplain:(backTo cpos (starEach [] X.env)).any (·.1)=false:=by exact Qbd rfl)
  (hsw:swapsWith (.Call (.Attribute (.Name x p) "append" apos) [e] [] cpos) none pos.line X.env=pure false:=by rfl) :
  VS X md P R (.Expr (.Call (.Attribute (.Name x p) "append" apos) [e] [] cpos) pos) (Qcj i m) :=
 (Qnt (QsU PySem.F.plainAttrs_list PySem.F.slot_list_append PySem.F.type_list_append QpI (Qe0 (i:=i) hN hv hd hcd) (Qcm h Qd2 hs) hbase hfew hline hs hplain) hsw).imp fun D σ H q=>by
  obtain ⟨ρ,O,F,as,r,s,k⟩:=q;obtain ⟨d,O',ds,e,e2,hz,k⟩:=Qq6 X.K X.mg k;obtain ⟨a,xs,h1,h2,h3,h4,h5,h6⟩:=s.own hm e2;refine ⟨_,h1,.inl ⟨rfl,xs,.inl (.inl h2)⟩,ρ,O,F,as,d,O',r,s,e,fun y H1 F1 as1 g1 r1 hy=>?_⟩;have s1:=s.step g1
  have hn:H a≠none:=by rw [h2]; exact fun z=>nomatch z
  have q2:=g1.fr _ _ h2 h4 rfl
  have q3:F1 a=none:=by rw [g1.fz a _ h2 h4 rfl]; exact h3
  have q4:=g1.out h4 hn
  have hn1:H1 a≠none:=by rw [q2]; exact fun z=>nomatch z
  exact ⟨a,xs,y,rfl,rfl,q2,by rw [h6.length]; exact zB hz (by decide),k σ _ F1 as1 (g1.toS.trans (Qvt q2 h5)) (r1.mut q3 q4) (s1.mut hm e2 h1 q3 q4 h5 ((h6.gr g1).snoc hy))⟩
def Qw9 (i:Nat) (m:M D):MS:=fun ρ O=>match m ρ O with
 | .ok d O'=>match ρ[i]?,QaI O' d with
  | some (some (.lst ds)),.lst es=>if ds.length+es.length≤1000000 then .nx (ρ.set i (some (.lst (ds++es)))) O' else .no
  | _,_=>.no
 | .ex x O'=>.ex x O'
 | .no=>.no
end
def putD (f:Str) (v:D):List (Str×D)→List (Str×D)
 | []=>[(f,v)]
 | (g,x)::r=>if g=f then (g,v)::r else (g,x)::putD f v r
section
variable {K:Frag}{F:Hp}{as:List Addr}
theorem FsR.cons_inv {gs:List (Str×V)}{f:Str}{d:D}{fs:List (Str×D)} (h:FsR K F as gs ((f,d)::fs)):∃v gs',gs=(f,v)::gs'∧Rp K F as v d∧FsR K F as gs' fs:=by
 obtain ⟨h1,h2⟩:=h
 cases gs with
 | nil=>cases h1
 | cons g gs' =>
  obtain ⟨g1,g2⟩:=g;simp only [zc,List.cons.injEq] at h1;obtain ⟨x,r,e,h3,h4⟩:=h2.un;simp only [zc,List.cons.injEq] at e;obtain ⟨rfl,rfl⟩:=e;exact ⟨g2,gs',by rw [h1.1],h3,⟨h1.2,h4⟩⟩
theorem FsR.nil_inv {gs:List (Str×V)} (h:FsR K F as gs []):gs = []:=List.map_eq_nil_iff.mp h.nm
theorem FsR.get:∀{fs:List (Str×D)}{gs:List (Str×V)}{f:Str}{d:D},FsR K F as gs fs→fs.lookup f=some d→∃v,gs.lookup f=some v∧Rp K F as v d
 | [],_,_,_,_,e=>by cases e
 | (g,x)::fs,gs,f,d,h,e=>by
  obtain ⟨v,gs',rfl,h1,h2⟩:=h.cons_inv;rw [List.lookup_cons] at e ⊢
  cases q:f == g with
  | true =>
   rw [q] at e;cases e;exact ⟨v,rfl,h1⟩
  | false =>
   rw [q] at e;exact FsR.get h2 e
theorem FsR.no:∀{fs:List (Str×D)}{gs:List (Str×V)}{f:Str},FsR K F as gs fs→fs.lookup f=none→gs.lookup f=none
 | [],_,_,h,e=>by rw [h.nil_inv]; rfl
 | (g,x)::fs,gs,f,h,e=>by
  obtain ⟨v,gs',rfl,h1,h2⟩:=h.cons_inv;rw [List.lookup_cons] at e ⊢
  cases q:f == g with
  | true=>rw [q] at e; cases e
  | false =>
   rw [q] at e;exact FsR.no h2 e
theorem FsR.put {f:Str}{v:V}{d:D} (hv:Rp K F as v d):∀{fs:List (Str×D)}{gs:List (Str×V)},FsR K F as gs fs→FsR K F as (QcR f v gs) (putD f d fs)
 | [],_,h=>by
  rw [h.nil_inv];exact ⟨rfl,Rps.cons hv Rps.nil⟩
 | (g,x)::fs,gs,h=>by
  obtain ⟨u,gs',rfl,h1,h2⟩:=h.cons_inv;rw [QcR,putD]
  by_cases q:g=f
  ·rw [if_pos q,if_pos q];exact ⟨by simp [h2.nm],Rps.cons hv h2.vl⟩
  ·rw [if_neg q,if_neg q];have ih:=FsR.put (f:=f) hv h2;exact ⟨by simp [ih.nm],Rps.cons h1 ih.vl⟩
theorem FsR.length {fs:List (Str×D)}{gs:List (Str×V)} (h:FsR K F as gs fs):gs.length=fs.length:=by
 have:=congrArg List.length h.nm
 simpa using this
theorem RlO.set {mg:Str→Option Value}{O:Qac}{H:Hp}{n:Nat}{a:Addr}{o:Ob}{u:HO} (r:RlO K mg O H F as) (ha:as[n]? = some a) (ho:ObR K mg (upd H a u) F as a o):RlO K mg (O.set n o) (upd H a u) F as:=by
 have hF:=r.fa a (zO ha);refine ⟨fun c w e=>?_,r.fd,r.nd,by rw [zU]; exact r.len,r.fa,fun k c w hc hw=>?_⟩
 ·rw [Qaq (QaC e hF)]; exact r.fh c w e
 ·by_cases h:n=k
  ·subst h;rw [ha] at hc; cases hc;rw [zF (by rw [←r.len]; exact (zk.mp ha).1)] at hw;cases hw;exact ho
  ·rw [zl h] at hw
   refine (r.ob k c w hc hw).keep (Qaq ?_) (Same.refl F) fun _ _ h=>h
   intro z;subst z;obtain ⟨l1,q1⟩:=zk.mp ha;obtain ⟨l2,q2⟩:=zk.mp hc;exact h ((List.getElem_inj r.nd).mp (q1.trans q2.symm))
end
def KC (K:Frag) (mg:Str→Option Value) (c f:Str):Prop:=∃C,mg c=some (.ref C)∧Cls K C∧Qf8 K C f
section
variable {X:Cx}{md:List Md}{P:Pt}{R:RR}
def QdP (cs:List Str) (f:Str) (m:M D):M D:=fun ρ O=>(m ρ O).bind fun d O1=>match d with
 | .ob n=>match O1[n]? with
  | some (.ins c fs)=>if c∈cs then match fs.lookup f with
   | some y=>.ok y O1
   | none=>.no else .no
  | _=>.no
 | _=>.no
theorem QgK {cs:List Str}{f:Str}{o:Expr}{pos:Pos}{m:M D} (hc:∀c∈cs,KC X.K X.mg c f) (h:VE X md P o m) (hb:attributeBase o f X.env (eval o X.env)=eval o X.env:=by rfl):VE X md P (.Attribute o f pos) (QdP cs f m):=(Qva h hb).imp fun σ H Q q=>by
 obtain ⟨ρ,O,F,as,d,O',r,s,e,k⟩:=q;obtain ⟨x,O1,e1,e⟩:=Res.bind_ok e
 cases x with
 | ob n =>
  dsimp only at e;split at e
  ·rename_i c fs eo;split at e
   ·rename_i hcs;split at e
    ·rename_i y ey;cases e;refine ⟨ρ,_,F,as,_,_,r,s,e1,fun v H1 F1 as1 g1 r1 hv=>?_⟩;obtain ⟨a,rfl,ha⟩:=Rp.unO hv;obtain ⟨C,dx,gs,h1,h2,h3⟩:=r1.ob n a _ ha eo;obtain ⟨C',h4,h5,h6⟩:=hc c hcs;rw [h1] at h4; cases h4;obtain ⟨w,h7,h8⟩:=h3.get ey;exact ⟨a,C,dx,gs,w,rfl,h2,h5,h6,h7,k w H1 F1 as1 g1 r1 h8⟩
    ·cases e
   ·cases e
  ·cases e
 | _=>cases e
def Qfx (cs:List Str) (f:Str) (mo mv:M D):MS:=fun ρ O=>match mv ρ O with
 | .ok d O1=>match mo ρ O1 with
  | .ok (.ob n) O2=>match O2[n]? with
   | some (.ins c fs)=>if c∈cs∧fs.length < 900 then .nx ρ (O2.set n (.ins c (putD f d fs))) else .no
   | _=>.no
  | _=>.no
 | .ex x O'=>.ex x O'
 | .no=>.no
theorem QpD {cs:List Str}{f:Str}{o value:Expr}{pos pos':Pos}{mo mv:M D} (hc:∀c∈cs,KC X.K X.mg c f) (ho:VE X md P o mo) (hv:VE X md P value mv) (hs:swapsWith value (some (.Attribute o f pos')) pos.line X.env=pure false:=by rfl):VS X md P R (.Assign [.Attribute o f pos'] value pos) (Qfx cs f mo mv):=(Qvh ho hv hs).imp fun D σ H q=>by
 obtain ⟨ρ,O,F,as,r,s,k⟩:=q;unfold Qfx at k;split at k
 ·rename_i d O1 e1;split at k
  ·rename_i n O2 e2;split at k
   ·rename_i c fs eo;split at k
    ·rename_i hcs;refine ⟨ρ,O,F,as,d,O1,r,s,e1,fun y H1 F1 as1 g1 r1 hy=>?_⟩;refine ⟨ρ,O1,F1,as1,.ob n,O2,r1,s.step g1,e2,fun z H2 F2 as2 g2 r2 hz=>?_⟩;have g:=g1.trans g2;obtain ⟨a,rfl,ha⟩:=Rp.unO hz;obtain ⟨C,dx,gs,h1,h2,h3⟩:=r2.ob n a _ ha eo;obtain ⟨C',h4,h5,h6⟩:=hc c hcs.1;rw [h1] at h4; cases h4;have hmem:=zO ha
     have hn:H2 a≠none:=by rw [h2]; exact fun z=>nomatch z
     have gg:Gr H2 F2 as2 (upd H2 a (.ins C dx (QcR f y gs))) F2 as2:=⟨fun _ _ _ _ _=>rfl,Same.refl _,⟨[],by simp,fun _ h=>nomatch h⟩,fun b u e hb _=>by rw [Qaq (fun z=>hb (by rw [z]; exact hmem))]; exact e,fun b e=>by
      by_cases h:b=a
      ·subst h; rw [QaE] at e; cases e
      ·rwa [Qaq h] at e,fun b o' u e=>by rw [Qaq (fun z=>by rw [z,h2] at e; cases e)]; exact e⟩
     refine ⟨a,C,dx,gs,rfl,h2,h5,h6,by rw [h3.length]; omega,?_⟩;exact k σ _ F2 as2 (g.trans gg).toS (r2.set ha ⟨C,dx,_,h1,QaE,h3.put (Rp.gr hy g2)⟩) ((s.step g).step gg)
    ·exact False.elim k
   ·exact False.elim k
  ·exact False.elim k
 ·exact False.elim k
 ·exact False.elim k
end
section
variable {Pr:Program}{w:World}{K:Frag}{mg:Str→Option Value}{base:Heap}
theorem Qwh {x qual:Str}{st:Stmt}{f:Addr}{fd:FuncData}{N ps:List Str}{k:Nat} (Fn:Fun K x qual st f fd) (S:QaF N ps (Qao st))
  (pm lm:List Md) {R:RR}{b:MS} (hR:Qeb R) (hR0:∀N H F as,R N H F as .non .non) (hpl:pm.length=ps.length) (hl:(pm++lm).length=N.length) (hp:∀m∈pm,m≠.o)
  (body:∀(cdv:Value) (A:Around) (outer:List Env) (s:Shared) (H:Hp) (E:XK),QaS k (A.deeper (envOfC qual (Qao st) s.heap.objs.size f cdv))→∀P,VSs ((Qeo CX0 Pr w K mg base N qual (Qao st) f cdv A outer s H E).nox) (pm++lm) P R (Qbs st) b) :
  Qb7 Pr w K mg base CX0 (k+1) f fd ps (vSp K mg pm R (Qba N.length b)):=by
 refine Fn.ok S (fun vs H Q E h=>?_) (fun cdv A outer s H vs Q E hr h=>?_)
 ·obtain ⟨ds,O,F,as,d,O',r,a,_⟩:=h;rw [a.len.1,hpl]
 ·obtain ⟨ds,O,F,as,d,O',r,a,e,q⟩:=h;refine ⟨_,body cdv A outer s H E hr (Pt.all H),?_⟩;refine ⟨_,O,F,as,r,Qgj a hl hp,?_⟩;unfold Qba at e
  cases eb:b (ds.map some++List.replicate (N.length - ds.length) none) O with
  | rt d' O2 =>
   rw [eb] at e;cases e
   exact fun v H' F' as' g r' hv=>q v H' F' as' g.gr r' (hR _ _ _ _ _ _ _ (fun c hc=>Classical.not_not.mp hc) hv)
  | nx ρ O2 =>
   rw [eb] at e;cases e
   exact fun σ' H' F' as' g r' _=>q _ H' F' as' g.gr r' (hR0 _ _ _ _)
  | bk _ _=>rw [eb] at e; cases e
  | ct _ _=>rw [eb] at e; cases e
  | ex _ _=>rw [eb] at e; cases e
  | no=>rw [eb] at e; cases e
def Qh8 (K:Frag) (mg:Str→Option Value) (c m qual:Str) (st:Stmt):Prop:=∃C f fd,mg c=some (.ref C)∧Cls K C∧Qm0 K C m f∧Fun K m qual st f fd
def Qfh (P:Program) (w:World) (K:Frag) (mg:Str→Option Value) (base:Heap) (c m:Str) (ps:List Str) (k:Nat) (sp:Sp):Prop :=
 ∃C f fd,mg c=some (.ref C)∧Cls K C∧Qm0 K C m f∧Binds K fd ps []∧Qb7 P w K mg base CX0 k f fd ps sp
def QrY (P:Program) (w:World) (K:Frag) (mg:Str→Option Value) (base:Heap) (c:Str) (ps:List Str) (k:Nat) (sp:Sp):Prop :=
 ∃C f fd,mg c=some (.ref C)∧Mk K C f∧Binds K fd ps []∧Qb7 P w K mg base CX0 k f fd ps sp
def Qsb (K:Frag) (mg:Str→Option Value) (c qual:Str) (st:Stmt):Prop:=∃C f fd,mg c=some (.ref C)∧Mk K C f∧Fun K "__init__" qual st f fd
theorem QiA {c x qual:Str}{st:Stmt}{N ps:List Str}{k:Nat} (Df:Qh8 K mg c x qual st) (S:QaF N ps (Qao st))
  (hb:∀(kV doc pm:Value) (an:Option Addr) (cdv ct:Value) (us:List Value),us.length=ps.length→bindArgs (PySem.W.fnOf x qual (Qce st) (Qbs st) (Qao st) .none kV doc pm an cdv ct) ⟨us,[]⟩=pure (ps.zip us))
  (pm lm:List Md) {R:RR}{b:MS} (hR:Qeb R) (hR0:∀N H F as,R N H F as .non .non) (hpl:pm.length=ps.length:=by rfl) (hl:(pm++lm).length=N.length:=by rfl) (hp:∀m∈pm,m≠.o:=by decide)
  (body:∀(f:Addr) (cdv:Value) (A:Around) (outer:List Env) (s:Shared) (H:Hp) (E:XK),QaS k (A.deeper (envOfC qual (Qao st) s.heap.objs.size f cdv))→∀P,VSs ((Qeo CX0 Pr w K mg base N qual (Qao st) f cdv A outer s H E).nox) (pm++lm) P R (Qbs st) b) :
  Qfh Pr w K mg base c x ps (k+1) (vSp K mg pm R (Qba N.length b)):=by
 obtain ⟨C,f,fd,h1,h2,h3,h4⟩:=Df;exact ⟨C,f,fd,h1,h2,h3,h4.binds hb,Qwh h4 S pm lm hR hR0 hpl hl hp (body f)⟩
theorem Qxg {c qual:Str}{st:Stmt}{N ps:List Str}{k:Nat} (Df:Qsb K mg c qual st) (S:QaF N ps (Qao st))
  (hb:∀(kV doc pm:Value) (an:Option Addr) (cdv ct:Value) (us:List Value),us.length=ps.length→bindArgs (PySem.W.fnOf "__init__" qual (Qce st) (Qbs st) (Qao st) .none kV doc pm an cdv ct) ⟨us,[]⟩=pure (ps.zip us))
  (pm lm:List Md) {R:RR}{b:MS} (hR:Qeb R) (hR0:∀N H F as,R N H F as .non .non) (hpl:pm.length=ps.length:=by rfl) (hl:(pm++lm).length=N.length:=by rfl) (hp:∀m∈pm,m≠.o:=by decide)
  (body:∀(f:Addr) (cdv:Value) (A:Around) (outer:List Env) (s:Shared) (H:Hp) (E:XK),QaS k (A.deeper (envOfC qual (Qao st) s.heap.objs.size f cdv))→∀P,VSs ((Qeo CX0 Pr w K mg base N qual (Qao st) f cdv A outer s H E).nox) (pm++lm) P R (Qbs st) b) :
  QrY Pr w K mg base c ps (k+1) (vSp K mg pm R (Qba N.length b)):=by
 obtain ⟨C,f,fd,h1,h2,h4⟩:=Df;exact ⟨C,f,fd,h1,h2,h4.binds hb,Qwh h4 S pm lm hR hR0 hpl hl hp (body f)⟩
end
section
variable {X:Cx}{md:List Md}{P:Pt}{R:RR}{k:Nat}{c m:Str}{ps:List Str}{p pos apos:Pos}{o e:Expr}{es:List Expr}{pm:List Md}{cf:List D→Qac→Res D}{mo:M D}{ma:M (List D)}
def Qbe (c m:Str) (cf:List D→Qac→Res D) (mo:M D) (ma:M (List D)):M D:=fun ρ O=>(mo ρ O).bind fun d O1=>match d with
 | .ob n=>match O1[n]? with
  | some (.ins c' fs)=>if c'=c∧(fs.lookup m).isNone=true then (ma ρ O1).bind fun ds O2=>cf (.ob n::ds) O2 else .no
  | _=>.no
 | _=>.no
theorem Qog {K:Frag}{mg:Str→Option Value}{C:Addr} (hR:Qeb R) (hC:mg c=some (.ref C)) {E:XK}{σ:St}{H:Hp}{Q:VK} (q:tM K mg md P R (Qbe c m cf mo ma) σ H Q) :
  Qor C m (vSp K mg (.v::pm) R cf) [] E (tM K mg md P (rV K) mo) (tMA K mg md P pm ma) σ H Q:=by
 obtain ⟨ρ,O,F,as,d,O',r,s,e,k⟩:=q;obtain ⟨x,O1,e1,e⟩:=Res.bind_ok e
 cases x with
 | ob n =>
  dsimp only at e;split at e
  ·rename_i c' fs eo;split at e
   ·rename_i hc;obtain ⟨ds,O2,e2,e⟩:=Res.bind_ok e;refine ⟨ρ,O,F,as,.ob n,O1,r,s,e1,fun v H1 F1 as1 g1 r1 hv=>?_⟩;obtain ⟨a,rfl,ha⟩:=Rp.unO hv;obtain ⟨C',dx,gs,h1,h2,h3⟩:=r1.ob n a _ ha eo;rw [hc.1,hC] at h1; cases h1;refine ⟨a,dx,gs,rfl,h2,h3.no (Option.isNone_iff_eq_none.mp hc.2),?_⟩;refine ⟨ρ,O1,F1,as1,ds,O2,r1,s.step g1,e2,fun vs H2 F2 as2 g2 r2 hvs=>?_⟩;dsimp only;rw [zT];exact ⟨.ob n::ds,O2,F2,as2,d,O',r2,⟨Rp.gr hv g2,hvs⟩,e,fun v' H' F' as' g' r' hw=>k v' H' F' as' ((g1.trans g2).trans g') r' (hR _ _ _ _ _ _ _ (fun b hb=>(g1.trans g2).dm b hb) hw)⟩
   ·cases e
  ·cases e
 | _=>cases e
theorem Qnu {pl:Sem Bool} (hR:Qeb R) (M:Qfh X.prog X.w X.K X.mg X.base c m ps k (vSp X.K X.mg (.v::pm) R cf)) (hr:QaS k X.A) (ho:VE X md P o mo) (ha:AE X md P pm (e::es) ma)
  (hst:starEach (e::es) X.env=(false,eval e X.env)::starEach es X.env:=by exact Qa0 rfl) (hpl:(backTo pos (starEach es X.env)).any (·.1)=false:=by exact Qbd rfl)
  (ht:eval (.Call (.Attribute o m apos) (e::es) [] pos) X.env=(do
   let ov ←eval o X.env
   standAt apos.atName
   let (f,first) ←holding [ov] (getMethod ov m pl)
   callWith pos f first (backTo pos (starEach (e::es) X.env)) (backToKw pos (keywordEach [] X.env))):=by rfl) :
  PE X (.Call (.Attribute o m apos) (e::es) [] pos) (tM X.K X.mg md P R (Qbe c m cf mo ma)):=by
 obtain ⟨C,f,fd,h1,h2,h3,h4,h5⟩:=M
 exact (QtD (pl:=pl) (E:=E0) (ds:=[]) (dvs:=[]) ho h2 h3 h5 hr h4 .nil Qlu ha hst hpl ht).imp fun _ _ _ q=>Qog hR h1 q
theorem Qrw {pl:Sem Bool} (hR:Qeb R) (M:Qfh X.prog X.w X.K X.mg X.base c m ps k (vSp X.K X.mg [.v] R cf)) (hr:QaS k X.A) (ho:VE X md P o mo)
  (ht:eval (.Call (.Attribute o m apos) [] [] pos) X.env=(do
   let ov ←eval o X.env
   standAt apos.atName
   let (f,first) ←holding [ov] (getMethod ov m pl)
   callWith pos f first (backTo pos (starEach [] X.env)) (backToKw pos (keywordEach [] X.env))):=by rfl) :
  PE X (.Call (.Attribute o m apos) [] [] pos) (tM X.K X.mg md P R (Qbe c m cf mo Qae)):=by
 obtain ⟨C,f,fd,h1,h2,h3,h4,h5⟩:=M
 refine (QrN (pl:=pl) (E:=E0) (ds:=[]) (dvs:=[]) ho h2 h3 h5 hr h4 .nil Qlu ht).imp fun σ H Q q=>?_
 obtain ⟨ρ,O,F,as,d,O',r,s,e,k⟩:=Qog (pm:=[]) (E:=E0) hR h1 q;refine ⟨ρ,O,F,as,d,O',r,s,e,fun v H' F' as' g r' hv=>?_⟩;obtain ⟨a,dx,fs,e1,e2,e3,t⟩:=k v H' F' as' g r' hv;refine ⟨a,dx,fs,e1,e2,e3,?_⟩;obtain ⟨ρ1,O1,F1,as1,ds1,O2,r1,s1,e4,k4⟩:=t;cases e4;exact k4 [] H' F1 as1 Gr.refl r1 trivial
def Qg9 (c:Str) (cf:List D→Qac→Res D) (ma:M (List D)):M D:=fun ρ O=>(ma ρ O).bind fun ds O1=>match cf (.ob O1.length::ds) (O1 ++ [.ins c []]) with
 | .ok .non O2=>.ok (.ob O1.length) O2
 | .ok _ _=>.no
 | .ex x O2=>.ex x O2
 | .no=>.no
theorem Qth {K:Frag}{mg:Str→Option Value}{C:Addr} (hC:mg c=some (.ref C)) {E:XK}{σ:St}{H:Hp}{Q:VK} (q:tM K mg md P (rV K) (Qg9 c cf ma) σ H Q) :
  QsE C (vSp K mg (.v::pm) (rV K) cf) [] E (tMA K mg md P pm ma) σ H Q:=by
 obtain ⟨ρ,O,F,as,d,O',r,s,e,k⟩:=q;obtain ⟨ds,O1,e1,e⟩:=Res.bind_ok e;split at e
 ·rename_i O2 ec;cases e;refine ⟨ρ,O,F,as,ds,O1,r,s,e1,fun vs H1 F1 as1 g1 r1 hvs=>?_⟩;intro x dx hx hdx hne;rw [zT]
  have hx2:upd H1 dx (.own x) x=none:=by rw [Qaq hne.symm]; exact hx
  have gA:Gr H1 F1 as1 (upd H1 dx (.own x)) F1 as1:=Gr.lay hdx;have gB:Gr (upd H1 dx (.own x)) F1 as1 (upd (upd H1 dx (.own x)) x (.ins C dx [])) F1 as1:=Gr.lay hx2;have gC:Gr (upd (upd H1 dx (.own x)) x (.ins C dx [])) F1 as1 (upd (upd H1 dx (.own x)) x (.ins C dx [])) F1 as1:=Gr.refl;have gAB:=gA.trans gB;have g2:Gr H1 F1 as1 (upd (upd H1 dx (.own x)) x (.ins C dx [])) F1 (as1 ++ [x]):=⟨gAB.fz,gAB.ff,⟨[x],rfl,fun a ha=>by rw [zr.mp ha]; exact hx⟩,fun a o e ha hd=>gAB.fr a o e ha hd,gAB.dm,gAB.kz⟩
  have nx:x∉as1:=fun z=>r1.all z hx
  have rB:=(r1.lay (o:=.own x) hdx).lay (o:=.ins C dx []) hx2
  have at_:∀(n:Nat) (a:Addr),as1[n]? = some a→(as1 ++ [x])[n]? = some a:=fun n a h=>by
   rw [zz (zk.mp h).1]; exact h
  have r2:RlO K mg (O1 ++ [.ins c []]) (upd (upd H1 dx (.own x)) x (.ins C dx [])) F1 (as1 ++ [x]):=by
   refine ⟨rB.fh,rB.fd,?_,by simp [r1.len],fun a ha=>?_,fun n a o ha ho=>?_⟩
   ·rw [js];refine ⟨r1.nd,by simp,fun a ha b hb=>?_⟩;rw [zr.mp hb];intro z;subst z;exact nx ha
   ·rcases zD.mp ha with z | z
    ·exact r1.fa a z
    ·rw [zr.mp z];exact r1.frF hx
   ·by_cases hn:n < O1.length
    ·rw [zz (by rw [r1.len]; exact hn)] at ha;rw [zz hn] at ho;exact (rB.ob n a o ha ho).keep rfl (Same.refl _) at_
    ·have hn':n=O1.length:=by
      have:=(zk.mp ho).1
      simp at this
      omega
     subst hn';rw [zK (ze _),Nat.sub_self] at ho;rw [←r1.len,zK (ze _),Nat.sub_self] at ha;cases ho;cases ha;exact ⟨C,dx,[],hC,QaE,⟨rfl,Rps.nil⟩⟩
  have hox:Rp K F1 (as1 ++ [x]) (.ref x) (.ob O1.length):=Rp.mkO (by rw [←r1.len,zK (ze _),Nat.sub_self]; rfl);refine ⟨.ob O1.length::ds,_,F1,as1 ++ [x],.non,_,r2,⟨hox,hvs.gr g2⟩,ec,fun v H3 F3 as3 g3 r3 hv=>?_⟩;exact ⟨Rp.unN hv,k _ H3 F3 as3 ((g1.trans g2).trans g3) r3 (Rp.gr hox g3)⟩
 ·cases e
 ·cases e
 ·cases e
theorem QuN (M:QrY X.prog X.w X.K X.mg X.base c ps k (vSp X.K X.mg (.v::pm) (rV X.K) cf)) (hr:QaS (k+1) X.A) (ha:AE X md P pm (e::es) ma) (hg:Gl X c:=by rfl) (hdb:(c == ("__debug__":Str))=false:=by decide)
  (he:starEach (e::es) X.env=(false,eval e X.env)::starEach es X.env:=by exact Qa0 rfl) (hpl:(backTo pos (starEach es X.env)).any (·.1)=false:=by exact Qbd rfl):VE X md P (.Call (.Name c p) (e::es) [] pos) (Qg9 c cf ma):=by
 obtain ⟨C,f,fd,h1,h3,h4,h5⟩:=M
 exact (QtF (E:=E0) (ds:=[]) (dvs:=[]) h3 h5 hr hg h1 h4 .nil Qlu ha hdb he hpl).imp fun _ _ _ q=>Qth h1 q
end
section
variable {X:Cx}{md:List Md}{P:Pt}{R:RR}
def Qhy:D→Option (List D)
 | .lst ds=>some ds
 | .tup ds=>some ds
 | .str l=>if ascii l=true then some (Qcs l) else none
 | _=>none
def QbZ (m:M D):M (List D):=fun ρ O=>(m ρ O).bind fun d O1=>match Qhy d with
 | some ds=>.ok ds O1
 | none=>.no
theorem QsI {e:Expr}{m:M D} (h:WE X md P e m):SE X md P e m:=h.imp fun σ H Q q=>by
 obtain ⟨ρ,O,F,as,d,O',r,s,e,k⟩:=q;refine ⟨ρ,O,F,as,d,O',r,s,e,fun v H' F' as' g r' hv=>k v H' F' as' g r' ?_⟩
 rcases hv with hv | ⟨a,xs,ds,e1,e2,e3,e4,e5,e6⟩
 ·exact .inl hv
 ·exact .inr ⟨a,xs,ds,e1,e2,e3,e4,e6⟩
theorem Qpf {tg e:Expr}{m:M D} (h:WE X md P e m):VI X md P tg e (QbZ m):=fun pins s σ H Q I q=>by
 obtain ⟨ρ,O,F,as,ds,O',r,sl,e,k⟩:=q;obtain ⟨d,O1,e1,e⟩:=Res.bind_ok e
 cases d with
 | lst es =>
  cases e;exact Qus h pins s σ H Q I ⟨ρ,O,F,as,_,_,r,sl,by unfold Qlx; rw [e1]; rfl,k⟩
 | tup es =>
  cases e;exact QqZ (Qb5 (QsI h)) pins s σ H Q I ⟨ρ,O,F,as,_,_,r,sl,by unfold QoR mG; rw [e1]; rfl,k⟩
 | str l =>
  simp only [Qhy] at e;split at e
  ·rename_i es hes;split at hes
   ·rename_i hl;cases hes;cases e;refine Qqk (QsI h) pins s σ H Q I ⟨ρ,O,F,as,Qcs l,_,r,sl,?_,k⟩;unfold Qox;rw [e1];show (if ascii l=true then _ else _)=_;rw [if_pos hl]
   ·cases hes
  ·cases e
 | _=>cases e
theorem Qsp {tg e:Expr}{m:M D} (h:SE X md P e m):VIc X md P tg e (Qlx m):=(QnR h).imp fun σ H Q q=>by
 obtain ⟨ρ,O,F,as,ds,O',r,s,e,k⟩:=q;obtain ⟨d,O1,e1,e⟩:=Res.bind_ok e
 cases d with
 | lst es =>
  cases e;refine ⟨ρ,_,F,as,_,_,r,s,e1,fun v H1 F1 as1 g1 r1 hv=>?_⟩
  obtain ⟨a,xs,rfl,h1,h2⟩:∃a xs,v = .ref a∧Rps X.K F1 as1 xs ds∧∀(H2 F2:Hp) (as2:List Addr),Gr H1 F1 as1 H2 F2 as2→(∃O,RlO X.K X.mg O H2 F2 as2)→RdK X.K H2 a xs:=by
   rcases hv with hv | ⟨a,xs,ds',rfl,e,e3,e4,e6⟩
   ·obtain ⟨a,xs,rfl,h1,h2⟩:=hv.unL;exact ⟨a,xs,rfl,h2,fun H2 F2 as2 g ⟨O,r⟩=>(h1.mono g.ff).mono r.fh⟩
   ·cases e;exact ⟨a,xs,rfl,e6,fun H2 F2 as2 g _=>.inl (.inl (g.fr _ _ e3 e4 rfl))⟩
  refine ⟨a,rfl,⟨xs,(h2 H1 F1 as1 Gr.refl ⟨_,r1⟩).sq⟩,k _ H1 F1 as1 g1 r1 ⟨fun i d H2 F2 as2 g r e=>?_,fun H2 F2 as2 g r=>⟨xs,(h2 H2 F2 as2 g r).sq,by rw [h1.length]; exact ze _⟩⟩⟩;obtain ⟨x,h3,h4⟩:=h1.get' e;have q:=h2 H2 F2 as2 g r;refine ⟨⟨xs,x,q.sq,h3⟩,fun y H3 hy=>?_⟩;obtain ⟨rfl,hy⟩:=hy
  have:=hy xs q.sq
  rw [h3] at this;cases this;exact ⟨F2,Gr.refl,fun _ r=>r,h4.gr g⟩
 | _=>cases e
theorem QgT {tg e:Expr}{m:M D} (h:SE X md P e m):VIc X md P tg e (QbZ m):=fun pins s σ H Q I q=>by
 obtain ⟨ρ,O,F,as,ds,O',r,sl,e,k⟩:=q;obtain ⟨d,O1,e1,e⟩:=Res.bind_ok e
 cases d with
 | lst es =>
  cases e;exact Qsp h pins s σ H Q I ⟨ρ,O,F,as,_,_,r,sl,by unfold Qlx; rw [e1]; rfl,k⟩
 | tup es =>
  cases e;exact Qjz (QqZ (Qb5 h)) pins s σ H Q I ⟨ρ,O,F,as,_,_,r,sl,by unfold QoR mG; rw [e1]; rfl,k⟩
 | str l =>
  simp only [Qhy] at e;split at e
  ·rename_i es hes;split at hes
   ·rename_i hl;cases hes;cases e;refine Qjz (Qqk h) pins s σ H Q I ⟨ρ,O,F,as,Qcs l,_,r,sl,?_,k⟩;unfold Qox;rw [e1];show (if ascii l=true then _ else _)=_;rw [if_pos hl]
   ·cases hes
  ·cases e
 | _=>cases e
def QwW (m:M D):M (List D):=fun ρ O=>(m ρ O).bind fun d O1=>match d with
 | .lst ds=>.ok (QjC 0 ds) O1
 | .str l=>if ascii l=true then .ok (QjC 0 (Qcs l)) O1 else .no
 | _=>.no
variable {elts:List Expr}{x1:Nat}{tpos:Pos}
def Pt.with (P:Pt) (a:Addr) (i:Nat) (d:D) (l:List (Nat×V×D)):Pt:=⟨fun c=>P c∨c=a,(i,.ref a,d)::(l++P.ss)⟩
end
theorem Qqw {P:Program}{w:World}{K:PySem.W.Frag}{mg mb:Str→Option Value}{CX:CXT}{k:Nat}{fa a:Addr}{fd:FuncData}{x:Str}{sp:Sp}{s₁:Shared}{vs:List Value}{ns:List Int}
  (KX:K.In s₁.heap) (hns:s₁.heap.Ns mainGlobals mg) (hb:s₁.heap.Ns builtinsNs mb) (hbb:∀x:Str,x≠"__name__"→mb x=bootBuiltins x) (hlim:s₁.heap.NoLimit) (hg:s₁.gens = #[])
  (ha:s₁.heap.get? a=some { cls:=.type "list",data:=.seq vs.toArray }) (hi:IntsAre vs ns) (hl:ns.length≤sizeLine) (hr:QaS k callerA)
  (F:∀base:Heap,K.In base→base.Ns mainGlobals mg→Qb7 P w K mg base CX k fa fd [x] sp) (hbind:∀(s:Shared) (u:Value),BindsTo s fd ⟨[u],[]⟩ [(x,u)])
  (hsp:∀H:Hp,Qje H→RdK K H a (ns.map V.int)→sp [.ref a] H (fun v _=>v = .bl true) fun _ _ _=>False)
  (hCX:∀H e s',CX [] H s₁ (fun _ _ _=>False) e s'→False) :
  codeAny (model P w) callerA (.call (.ref fa) ⟨[.ref a],[]⟩) (fun r s'=>r = .ok (.ret (.bool true))∧OldK s₁.heap s'.heap∧s'.os=s₁.os∧AllBare s'.gens) s₁:=by
 have rv:=Qid hi;have lenV:=hi.length;have core:∀H:Hp,Qje H→RdK K H a (ns.map V.int)→HOk P w H s₁.heap→(∀b,H b≠none→b=a)→(H a≠none→K.lookup a=none) →
   codeAny (model P w) callerA (.call (.ref fa) ⟨[.ref a],[]⟩) (fun r s'=>r = .ok (.ret (.bool true))∧OldK s₁.heap s'.heap∧s'.os=s₁.os∧AllBare s'.gens) s₁:=by
  intro H hO hS hok hA hK
  have base_of:∀{b:Addr}{o:Obj},s₁.heap.get? b=some o→H b=none→(Qec s₁.heap H).get? b=some o:=fun e n=>QlC e n
  have noA:∀{b:Addr}{o:Obj}{es:Array DictEntry}{ep:Nat},s₁.heap.get? b=some o→o.data = .dict es ep→H b=none:=fun {b o es ep} e d=>by
   cases q:H b with
   | none=>rfl
   | some u =>
    have e':b=a:=hA b (by rw [q]; simp);subst e';rw [ha] at e; cases e;have d':Data.seq vs.toArray _=Data.dict es ep:=d;cases d'
  have nsK:∀{b:Addr}{m:Str→Option Value},s₁.heap.Ns b m→(Qec s₁.heap H).Ns b m:=fun {b m} ⟨o,es,ep,e,d,r⟩=>⟨o,es,ep,base_of e (noA e d),d,r⟩
  have hKb:K.In (Qec s₁.heap H):=fun b o e=>base_of (KX b o e) (by
   cases q:H b with
   | none=>rfl
   | some u =>
    have e':b=a:=hA b (by rw [q]; simp);subst e'
    rw [hK (by rw [q]; simp)] at e; cases e)
  have hM:Mod K mg (Qec s₁.heap H):=⟨hKb,nsK hns,⟨mb,nsK hb,hbb⟩,let ⟨mc,h1,h2⟩:=hlim; ⟨mc,nsK h1,h2⟩⟩;have e0:Qf9 P w K mg (Qec s₁.heap H) callerA [] s₁ H:=⟨rfl,hM,fun b o e=>Qn1 e,Nat.le_of_eq (Qlb _ _),trivial,fun b hb=>absurd (show b∈([]:List Addr) from hb) (by simp),hok,.of_eq hg⟩
  refine codeAny_mono ((F _ hKb (nsK hns)).run callerA [] s₁ H ⟨[.ref a],[]⟩ [.ref a] [.ref a] _ _ hr e0 (hbind s₁ (.ref a)) (.cons rfl .nil) (hsp H hO hS)) fun r s' h=>?_
  cases r with
  | error e=>exact (hCX H e s' h).elim
  | ok fl =>
   cases fl with
   | next=>exact False.elim h
   | brk=>exact False.elim h
   | cont=>exact False.elim h
   | ret u =>
    obtain ⟨v,H',os,bare,un,hok',r',q⟩:=h;have q':v = .bl true:=q;subst q';obtain rfl:u=Value.bool true:=r';refine ⟨rfl,OldK.of_keep fun b o e=>?_,os,bare⟩
    cases q:H b with
    | none=>exact un.keep b o e q (by intro z; exact absurd (show b∈([]:List Addr) from z) (by simp)) (by simp)
    | some u =>
     rcases hO b with z | ⟨ob,xs,z⟩
     ·rw [q] at z; cases z
     ·have z2:=un.frzs b ob _ z;obtain ⟨e1,_⟩:=hok b _ z;obtain ⟨e2,_⟩:=hok' b _ z2;rw [e] at e1; cases e1;exact e2
 cases hk:K.lookup a with
 | some o =>
  have e:=KX a o hk;rw [ha] at e;cases e
  refine core (fun _=>none) (fun _=>.inl rfl) (.inr ⟨vs,_,hk,by rw [lenV]; exact hl,rv⟩) (fun b u z=>by have z':(none:Option HO)=some u:=z; cases z') (fun b z=>absurd rfl z) fun z=>absurd rfl z
 | none =>
  refine core (fun b=>if b=a then some (.frz { cls:=.type "list",data:=.seq vs.toArray } (.lst (ns.map V.int))) else none) (fun b=>?_) (.inl (.inr ⟨{ cls:=.type "list",data:=.seq vs.toArray },if_pos rfl⟩)) (fun b u z=>?_) (fun b z=>?_) fun _=>hk
  ·by_cases hb:b=a
   ·exact .inr ⟨_,_,if_pos hb⟩
   ·exact .inl (if_neg hb)
  ·by_cases hb:b=a
   ·have z':=(if_pos hb).symm.trans z;cases z';subst hb;exact ⟨ha,by rw [zh]; exact hl,vs,_,rv,ha⟩
   ·have z':=(if_neg hb).symm.trans z;cases z'
  ·by_cases hb:b=a
   ·exact hb
   ·exact absurd (if_neg hb) z
theorem walk_ofR {l:PySem.W.OpenLaw}{n k:Nat}{q:Program}{loose:List Str}{XP:(Str→Option Value)→Heap→Prop}{YP:World→Heap→Prop}{d:DefRec}{K:Params→PySem.W.Frag}{CX:World→CXT}{sp:World→Sp}{x:Str}
  (hn:l.most=some n) (hn2:n≤sizeLine) (hdf:d.params.defaults = []) (hr:QaS k callerA)
  (hY:∀(w:World) (h:Heap),YP w h→(K w.params).In h)
  (F:∀(w:World) (mg:Str→Option Value) (fa:Addr) (h:Heap),(K w.params).In h→h.Ns mainGlobals mg→mg d.name=some (.ref fa) →
   ∃fd:FuncData,(∀(s:Shared) (u:Value),BindsTo s fd ⟨[u],[]⟩ [(x,u)]) ∧
    ∀base:Heap,(K w.params).In base→base.Ns mainGlobals mg→Qb7 l.prog w (K w.params) mg base (CX w) k fa fd [x] (sp w))
  (hsp:∀(w:World) (H:Hp) (a:Addr) (ns:List Int),ns.length≤n→Qje H→RdK (K w.params) H a (ns.map V.int)→sp w [.ref a] H (fun v _=>v = .bl true) fun _ _ _=>False)
  (hCX:∀(w:World) (H:Hp) (s:Shared) (e:Value) (s':Shared),CX w [] H s (fun _ _ _=>False) e s'→False) :
  PySem.W.WalkO q loose XP YP l.row.toRowW d [] (fun f vs=>PySem.call f vs):=by
 refine Att.attach_call hn hdf fun w s₀ s₁ mg mb fa o pm cd doc a vs ns G Y ho hd hcd hmg hobj hints hlen hg=>?_
 have KX:=hY w _ Y;obtain ⟨fd,hb,hF⟩:=F w mg fa _ KX G.T.g hmg
 exact Qqw KX G.T.g G.T.b G.T.builtins G.T.nolimit hg hobj hints (zC hlen hn2) hr hF hb (fun H hO hS=>hsp w H a ns hlen hO hS) fun H e s'=>hCX w H s₁ e s'
theorem QeY {K:Frag}{mg:Str→Option Value}{f:Str}:∀c∈([]:List Str),KC K mg c f:=fun _ h=>nomatch h
theorem QdX {K:Frag}{mg:Str→Option Value}{f c:Str}{cs:List Str} (h:KC K mg c f) (hr:∀c∈cs,KC K mg c f):∀c'∈c::cs,KC K mg c' f:=fun c' hc=>by
 rcases zd.mp hc with rfl | hc
 ·exact h
 ·exact hr c' hc
def wF:Nat:=1000000
def sp_law (K:Frag):Sp:=fun vs H Q _=>∃(a:Addr) (ns:List Int),vs = [.ref a]∧RdK K H a (ns.map V.int)∧ns.length≤63∧Qje H∧∀H',Q (.bl true) H'
theorem Rps.ofInts {K:Frag}{F:Hp}{as:List Addr}:∀ns:List Int,Rps K F as (ns.map V.int) (ns.map D.int)
 | []=>Rps.nil
 | n::ns=>Rps.cons Rp.int (Rps.ofInts ns)
theorem Quf {K:Frag}{mg:Str→Option Value}{c:List D→Qac→Res D} (h:∀ns:List Int,ns.length≤63→∃O',c [.lst (ns.map D.int)] [] = .ok (.bl true) O'):∀vs H Q E,sp_law K vs H Q E→vSp K mg [.s] (rV K) c vs H Q E:=by
 rintro vs H Q E ⟨a,ns,rfl,hS,hl,hO,q⟩;obtain ⟨O',e⟩:=h ns hl
 have r:RlO K mg [] H H []:=⟨Same.refl H,fun b o e=>by
  rcases hO b with z | ⟨o',xs,z⟩
  ·rw [e] at z; cases z
  ·rw [e] at z; cases z; rfl,List.nodup_nil,rfl,(fun _ z=>nomatch z),fun n b o z=>by cases z⟩
 refine ⟨[.lst (ns.map D.int)],[],H,[],.bl true,O',r,⟨.inl (Rp.mkL hS (Rps.ofInts ns)),trivial⟩,e,fun v H' F' as' g r' hv=>?_⟩;rw [Rp.unB hv];exact q H'
def keyOf:D→Option Key
 | .int i=>some (.inl i)
 | .str l=>some (.inr (S l))
 | _=>none
theorem Qub {d:D}{k:Key} (h:keyOf d=some k):QkC k=d:=by
 cases d with
 | int i=>cases h; rfl
 | str l=>cases h; show D.str (S l).cps.toList=_; rw [Qhz]
 | _=>cases h
theorem Rp.key {K:Frag}{F:Hp}{as:List Addr}{v:V}{d:D}{k:Key} (h:Rp K F as v d) (e:keyOf d=some k):v=kV k:=by
 cases d with
 | int i=>cases e; exact h.unI
 | str l=>cases e; exact h.unS
 | _=>cases e
section
variable {X:Cx}{md:List Md}{P:Pt}
def Prs (K:Frag) (F:Hp) (as:List Addr):List (V×V)→List (D×D)→Prop
 | [],[]=>True
 | p::ps,d::ds=>Rp K F as p.1 d.1∧Rp K F as p.2 d.2∧Prs K F as ps ds
 | _,_=>False
def DPE (X:Cx) (md:List Md) (P:Pt) (pos:Pos) (keys:List (Option Expr)) (values:List Expr) (m:M (List (D×D))):Prop:=∃trs:List (TE×TE),
 PPs X pos keys values trs∧∀σ H Q,(∃ρ O F as kv O',RlO X.K X.mg O H F as∧SlO X.K md P ρ σ H F as∧m ρ O = .ok kv O'∧∀ps H' F' as',Gr H F as H' F' as'→RlO X.K X.mg O' H' F' as'→Prs X.K F' as' ps kv→Q ps H')→QmK trs σ H Q
def QwV:M (List (D×D)):=fun _ O=>.ok [] O
def QwF (mk mv:M D) (r:M (List (D×D))):M (List (D×D)):=fun ρ O=>(mk ρ O).bind fun a O1=>(mv ρ O1).bind fun b O2=>(r ρ O2).bind fun ps O3=>.ok ((a,b)::ps) O3
def keysOf:List (D×D)→Option (List Key)
 | []=>some []
 | (a,_)::r=>(keyOf a).bind fun k=>(keysOf r).map (k :: ·)
theorem Prs.kvs {K:Frag}{F:Hp}{as:List Addr}:∀{kv:List (D×D)}{ps:List (V×V)}{ks:List Key},Prs K F as ps kv→keysOf kv=some ks →
  ∃kvs:List (Key×V),ps=kvs.map (fun p=>(kV p.1,p.2))∧kvs.map (·.1)=ks∧kv.map (·.1)=kvs.map (fun p=>QkC p.1)∧Rps K F as (kvs.map (·.2)) (kv.map (·.2))
 | [],ps,ks,h,e=>by
  cases ps with
  | nil=>cases e; exact ⟨[],rfl,rfl,rfl,Rps.nil⟩
  | cons _ _=>exact h.elim
 | (a,b)::kv,ps,ks,h,e=>by
  cases ps with
  | nil=>exact h.elim
  | cons p ps =>
   obtain ⟨p1,p2⟩:=p;unfold keysOf at e
   cases ea:keyOf a with
   | none=>rw [ea] at e; cases e
   | some k =>
    rw [ea] at e
    cases er:keysOf kv with
    | none=>rw [er] at e; cases e
    | some ks' =>
     rw [er] at e;cases e;obtain ⟨kvs,h1,h2,h3,h4⟩:=Prs.kvs h.2.2 er;refine ⟨(k,p2)::kvs,?_,?_,?_,Rps.cons h.2.1 h4⟩
     ·rw [zc,←h1]
      have:p1=kV k:=Rp.key h.1 ea
      rw [this]
     ·rw [zc,h2]
     ·rw [zc,zc,h3,Qub ea]
def Qxx (m:M (List (D×D))):M D:=fun ρ O=>(m ρ O).bind fun kv O1=>match keysOf kv with
 | some ks=>if ks.Nodup∧kv.length≤15 then .ok (.dic (kv.map (·.1)) (kv.map (·.2))) O1 else .no
 | none=>.no
theorem Prs.length {K:Frag}{F:Hp}{as:List Addr}:∀{kv:List (D×D)}{ps:List (V×V)},Prs K F as ps kv→ps.length=kv.length
 | [],[],_=>rfl
 | _::kv,_::ps,h=>by simp [Prs.length h.2.2]
 | [],_::_,h=>h.elim
 | _::_,[],h=>h.elim
end
section
variable {X:Cx}{md:List Md}{P:Pt}{k:Nat}{c x m:Str}{ps:List Str}{p pos apos:Pos}{o e:Expr}{es:List Expr}{pm:List Md}{cf:List D→Qac→Res D}{mo:M D}{ma:M (List D)}
theorem QaK (C:Can X.prog X.w X.K X.mg X.base x ps k (vSp X.K X.mg pm (rV X.K) cf)) (hr:QaS k X.A) (ha:AE X md P pm (e::es) ma) (hg:Gl X x:=by rfl) (hdb:(x == ("__debug__":Str))=false:=by decide) (he:starEach (e::es) X.env=(false,eval e X.env)::starEach es X.env:=by exact Qa0 rfl) (hpl:(backTo pos (starEach es X.env)).any (·.1)=false:=by exact Qbd rfl) :
  VE X md P (.Call (.Name x p) (e::es) [] pos) (Qas cf ma):=Qod Qbl C hr ha hg hdb he hpl
theorem Qdt (C:Can X.prog X.w X.K X.mg X.base x ps k (vSp X.K X.mg pm (rO X.K) cf)) (hr:QaS k X.A) (ha:AE X md P pm (e::es) ma) (hg:Gl X x:=by rfl) (hdb:(x == ("__debug__":Str))=false:=by decide) (he:starEach (e::es) X.env=(false,eval e X.env)::starEach es X.env:=by exact Qa0 rfl) (hpl:(backTo pos (starEach es X.env)).any (·.1)=false:=by exact Qbd rfl) :
  OE X md P (.Call (.Name x p) (e::es) [] pos) (Qas cf ma):=Qod QcB C hr ha hg hdb he hpl
theorem QiI {pl:Sem Bool} (M:Qfh X.prog X.w X.K X.mg X.base c m ps k (vSp X.K X.mg (.v::pm) (rV X.K) cf)) (hr:QaS k X.A) (ho:VE X md P o mo) (ha:AE X md P pm (e::es) ma) (hst:starEach (e::es) X.env=(false,eval e X.env)::starEach es X.env:=by exact Qa0 rfl) (hpl:(backTo pos (starEach es X.env)).any (·.1)=false:=by exact Qbd rfl)
  (ht:eval (.Call (.Attribute o m apos) (e::es) [] pos) X.env=(do
   let ov ←eval o X.env
   standAt apos.atName
   let (f,first) ←holding [ov] (getMethod ov m pl)
   callWith pos f first (backTo pos (starEach (e::es) X.env)) (backToKw pos (keywordEach [] X.env))):=by rfl):VE X md P (.Call (.Attribute o m apos) (e::es) [] pos) (Qbe c m cf mo ma):=Qnu Qbl M hr ho ha hst hpl ht
theorem Qkt {pl:Sem Bool} (M:Qfh X.prog X.w X.K X.mg X.base c m ps k (vSp X.K X.mg (.v::pm) (rO X.K) cf)) (hr:QaS k X.A) (ho:VE X md P o mo) (ha:AE X md P pm (e::es) ma) (hst:starEach (e::es) X.env=(false,eval e X.env)::starEach es X.env:=by exact Qa0 rfl) (hpl:(backTo pos (starEach es X.env)).any (·.1)=false:=by exact Qbd rfl)
  (ht:eval (.Call (.Attribute o m apos) (e::es) [] pos) X.env=(do
   let ov ←eval o X.env
   standAt apos.atName
   let (f,first) ←holding [ov] (getMethod ov m pl)
   callWith pos f first (backTo pos (starEach (e::es) X.env)) (backToKw pos (keywordEach [] X.env))):=by rfl):OE X md P (.Call (.Attribute o m apos) (e::es) [] pos) (Qbe c m cf mo ma):=Qnu QcB M hr ho ha hst hpl ht
theorem Qmy {pl:Sem Bool} (M:Qfh X.prog X.w X.K X.mg X.base c m ps k (vSp X.K X.mg [.v] (rV X.K) cf)) (hr:QaS k X.A) (ho:VE X md P o mo)
  (ht:eval (.Call (.Attribute o m apos) [] [] pos) X.env=(do
   let ov ←eval o X.env
   standAt apos.atName
   let (f,first) ←holding [ov] (getMethod ov m pl)
   callWith pos f first (backTo pos (starEach [] X.env)) (backToKw pos (keywordEach [] X.env))):=by rfl):VE X md P (.Call (.Attribute o m apos) [] [] pos) (Qbe c m cf mo Qae):=Qrw Qbl M hr ho ht
end
section
variable {X:Cx}{md:List Md}{P:Pt}{R:RR}{elts:List Expr}{x1:Nat}{tpos:Pos}
def QhK:List D→List D→List D
 | d::ds,e::es=>.tup [d,e]::QhK ds es
 | _,_=>[]
def QvL (ma mb:M D):M (List D):=fun ρ O=>(ma ρ O).bind fun d O1=>(mb ρ O1).bind fun e O2=>match d,e with
 | .lst ds,.lst es=>.ok (QhK ds es) O2
 | _,_=>.no
def Qmn (m:MS):MS:=fun ρ O=>match m ρ O with
 | .rt d O'=>.rt d O'
 | _=>.no
theorem SlO.toV {K:Frag}{ρ:Qak}{σ:St}{H F F':Hp}{as:List Addr}{i:Nat} (s:SlO K md P ρ σ H F as) (hm:md[i]? = some .o) (ff:Same F F')
  (hown:∀(j:Nat) (ds:List D) (a:Addr),j≠i→md[j]? = some .o→ρ[j]? = some (some (.lst ds))→σ[j]? = some (some (.ref a))→F' a=F a)
  (hv:∀d,ρ[i]? = some (some d)→∃v,σ[i]? = some (some v)∧Rp K F' as v d):SlO K (md.set i .v) P ρ σ H F' as:=by
 have hi:i < md.length:=(zk.mp hm).1
 have back:∀(j:Nat),(md.set i Md.v)[j]? = some Md.o→j≠i∧md[j]? = some .o:=fun j e=>by
  by_cases hj:j=i
  ·subst hj;rw [zF hi] at e;cases e
  ·rw [zl (Ne.symm hj)] at e;exact ⟨hj,e⟩
 refine ⟨by rw [zU]; exact s.len,by rw [zU]; exact s.len',s.pd,fun j m d e1 e2=>?_,fun j k a ds es h1 h2 h3 h4 h5 h6=>s.inj j k a ds es (back j h1).2 (back k h2).2 h3 h4 h5 h6,fun x hx=>?_⟩
 ·by_cases hj:j=i
  ·subst hj;rw [zF hi] at e1;cases e1;exact hv d e2
  ·rw [zl (Ne.symm hj)] at e1;obtain ⟨v,q,t⟩:=s.sl j m d e1 e2;refine ⟨v,q,?_⟩
   cases m with
   | v=>exact Rp.mono ff (fun _ _ z=>z) _ t
   | s =>
    rcases t with t | ⟨a,xs,ds,t1,t2,t3,t4,t5,t6⟩
    ·exact .inl (Rp.mono ff (fun _ _ z=>z) _ t)
    ·exact .inr ⟨a,xs,ds,t1,t2,t3,t4,t5,Rps.mono ff (fun _ _ z=>z) _ t6⟩
   | o =>
    rcases t with ⟨t0,t⟩ | ⟨a,xs,ds,rfl,rfl,t3,t0,t4,t5,t6⟩
    ·exact .inl ⟨t0,Rp.mono ff (fun _ _ z=>z) _ t⟩
    ·exact .inr ⟨a,xs,ds,rfl,rfl,t3,by rw [hown j ds a hj e1 e2 q]; exact t0,t4,t5,Rps.mono ff (fun _ _ z=>z) _ t6⟩
 ·obtain ⟨p1,p2,p3⟩:=s.pin x hx
  have hne:i≠x.1:=fun z=>by rw [←z,hm] at p1; cases p1
  exact ⟨by rw [zl hne]; exact p1,p2,p3⟩
theorem Qwc {K:Frag}{mg:Str→Option Value}{i:Nat}{m:MS} (hm:md[i]? = some .o) {D:Ends}{σ:St}{H:Hp} (q:tMS K mg md P R (Qmn m) D σ H):tMS K mg (md.set i .v) P R m D σ H:=by
 obtain ⟨ρ,O,F,as,r,s,k⟩:=q;unfold Qmn at k
 cases e:m ρ O with
 | rt d O' =>
  rw [e] at k
  by_cases hl:∃ds,ρ[i]? = some (some (.lst ds))
  ·obtain ⟨ds,hρ⟩:=hl;obtain ⟨a,xs,h1,h2,h3,h4,h5,h6⟩:=s.own hm hρ
   have ff:Same F (upd F a (.lst xs)):=fun b u q=>by rw [Qaq (QaC q h3)]; exact q
   have g0:GrS P H F as H (upd F a (.lst xs)) as:=⟨fun c _ p _ _ _=>Qaq (fun z=>h5 (by rw [←z]; exact p)),ff,⟨[],by simp,fun _ h=>nomatch h⟩,fun _ _ _ h _ _=>h,fun _ h=>h,fun _ _ _ h=>h⟩;refine ⟨ρ,O,upd F a (.lst xs),as,r.frz h2 h3 h4 rfl,s.toV hm ff (fun j es b hj m1 m2 m3=>?_) (fun d' hd'=>?_),?_⟩
   ·refine Qaq fun z=>hj ?_
    rw [z] at m3;exact s.inj j i a es ds m1 hm m2 hρ m3 h1
   ·rw [hρ] at hd';cases hd';exact ⟨_,h1,Rp.mkL (.inl (.inl QaE)) (Rps.mono ff (fun _ _ z=>z) _ h6)⟩
   ·rw [e]
    exact fun v H' F' as' g r' hv=>k v H' F' as' (g0.trans g) r' hv
  ·refine ⟨ρ,O,F,as,r,s.toV hm (Same.refl F) (fun _ _ _ _ _ _ _=>rfl) (fun d' hd'=>?_),by rw [e]; exact k⟩;obtain ⟨v,h1,h2⟩:=s.sl i .o d' hm hd'
   rcases h2 with ⟨_,h2⟩ | ⟨a,xs,ds,_,rfl,_⟩
   ·exact ⟨v,h1,h2⟩
   ·exact absurd ⟨ds,hd'⟩ hl
 | _=>rw [e] at k; exact False.elim k
theorem QvT (i:Nat) {st:Stmt}{m:MS} (hm:md[i]? = some .o) (h:VS X (md.set i .v) P R st m):VS X md P R st (Qmn m):=h.imp fun _ _ _=>Qwc hm
end
section
variable {prog:Program}{w:World}{A:Around}{E:Value→Shared→Prop}
end
section
variable {X:Cx}{md:List Md}{P:Pt}{R:RR}
theorem Qtl {as:List Addr}{a:Addr}:∀(n:Nat) (c:Addr),as[n]? = some c→(as ++ [a])[n]? = some c:=fun n c h=>by
 rw [zz (zk.mp h).1]; exact h
theorem QnA {H F:Hp}{as:List Addr}{a:Addr}{h:HO} (ha:a∈as) (hh:H a=some h) {o:HO} (hf:∀o u,h≠.frz o u:=by intro _ _ z; cases z):Gr H F as (upd H a o) F as :=
 ⟨fun _ _ _ _ _=>rfl,Same.refl F,⟨[],by simp,fun _ h=>nomatch h⟩,fun c u e hn _=>by rw [Qaq (fun z=>hn (by rw [z]; exact ha))]; exact e,fun c e=>by
  by_cases h:c=a
  ·subst h; rw [QaE] at e; cases e
  ·rwa [Qaq h] at e,fun c o' u e=>by rw [Qaq (fun z=>by rw [z,hh] at e; cases e; exact hf _ _ rfl)]; exact e⟩
theorem RlO.ml {K:Frag}{mg:Str→Option Value}{O:Qac}{H F:Hp}{as:List Addr}{n:Nat}{a:Addr}{ds:List D} (r:RlO K mg O H F as) (hn:as[n]? = some a) (hO:O[n]? = some (.ml ds)):∃xs,H a=some (.lst xs)∧Rps K F as xs ds:=r.ob n a _ hn hO
end
def QrL (K:Frag) (mg:Str→Option Value) (x:Str) (ls:List (List Nat)):Prop:=∃(a:Addr) (o:Obj) (its:Array Value) (n:Nat),mg x=some (.ref a)∧K.lookup a=some o∧o.cls = .type "tuple"∧o.data = .seq its n∧its.size≤sizeLine∧Qay (ls.map fun l=>V.str (S l)) its.toList
theorem Rps.texts {K:Frag}{F:Hp}{as:List Addr}:∀ls:List (List Nat),Rps K F as (ls.map fun l=>V.str (S l)) (ls.map D.str)
 | []=>Rps.nil
 | l::ls=>Rps.cons Rp.str (Rps.texts ls)
theorem Qtk {X:Cx}{md:List Md}{P:Pt}{x:Str}{ls:List (List Nat)}{pos:Pos} (h:QrL X.K X.mg x ls) (hg:Gl X x:=by rfl) (hdb:(x == ("__debug__":Str))=false:=by decide):VE X md P (.Name x pos) (mC (.tup (ls.map D.str))):=by
 obtain ⟨a,o,its,n,hm,hk,h1,h2,h3,h4⟩:=h
 refine (QmX (v:=.ref a) ⟨_,hm,rfl⟩ hg hdb).imp fun σ H Q q=>?_
 obtain ⟨ρ,O,F,as,d,O',r,s,e,k⟩:=q;cases e;exact k _ H F as Gr.refl r (Rp.mkT (.inr ⟨o,its,n,hk,h1,h2,h3,h4⟩) (Rps.texts ls))
theorem Qbu {α:Type}{p:List α→Prop} (h:p []):∀us:List α,us.length=0→p us:=fun us e=>by
 cases us with
 | nil=>exact h
 | cons a as=>cases e
theorem QaG {α:Type}{p:List α→Prop}{n:Nat} (h:∀a,∀us:List α,us.length=n→p (a::us)):∀us:List α,us.length=n+1→p us:=fun us e=>by
 cases us with
 | nil=>cases e
 | cons a as=>exact h a as (Nat.succ.inj e)
section
variable {prog:Program}{w:World}{κ:Type} [DecidableEq κ] {knd:HeapKind prog w κ}{A:Around}{E:Value→Shared→Prop}{s:Shared}
end
section
variable {X:Cx}{pins:List (Addr×Obj)}{σ:St}{H:Hp}{s:Shared}{a b:Addr}{v:V}{r:Value}{kvs:List (List Key×V)}{k:List Key}{A:Around}{E:Value→Shared→Prop}
end
def Qlm:List D→Option (List Key)
 | []=>some []
 | .int i::ds=>(Qlm ds).map (Sum.inl i :: ·)
 | _=>none
def QlO:D→Option (List Key)
 | .tup (d::ds)=>Qlm (d::ds)
 | _=>none
theorem Rps.keys {K:Frag}{F:Hp}{as:List Addr}:∀{ds:List D}{xs:List V}{ks:List Key},Rps K F as xs ds→Qlm ds=some ks→xs=ks.map kV∧∃is:List Int,ks=is.map Sum.inl
 | [],xs,ks,h,e=>by cases e; exact ⟨h.un0,[],rfl⟩
 | .int i::ds,xs,ks,h,e=>by
  obtain ⟨x,r,rfl,h1,h2⟩:=h.un;obtain ⟨ks',e1,rfl⟩:=Option.map_eq_some_iff.mp (show (Qlm ds).map (Sum.inl i :: ·)=some ks from e);obtain ⟨q1,is,rfl⟩:=Rps.keys h2 e1;exact ⟨by rw [h1.unI,q1]; rfl,i::is,rfl⟩
 | .non::ds,xs,ks,h,e=>by cases e
 | .bl _::ds,xs,ks,h,e=>by cases e
 | .str _::ds,xs,ks,h,e=>by cases e
 | .lst _::ds,xs,ks,h,e=>by cases e
 | .tup _::ds,xs,ks,h,e=>by cases e
 | .dic _ _::ds,xs,ks,h,e=>by cases e
 | .ob _::ds,xs,ks,h,e=>by cases e
def QlE:List Value→Bool
 | []=>true
 | .int _ _::r=>QlE r
 | _=>false
def Qbb:Frag→Bool
 | []=>true
 | p::r=>(match p.2.data with
  | .seq its _=>its.toList.isEmpty || !QlE its.toList
  | _=>true)&&Qbb r
theorem Qoc {a:Addr}{o:Obj}{its:Array Value}{n:Nat}:∀{K:Frag},Qbb K=true→List.lookup a K=some o→o.data = .seq its n→(its.toList.isEmpty || !QlE its.toList)=true
 | [],_,h,_=>by cases h
 | p::r,hk,h,hd=>by
  unfold Qbb at hk;rw [zm] at hk;rw [List.lookup_cons] at h;split at h
  ·cases h
   have:=hk.1
   rw [hd] at this;exact this
  ·exact Qoc hk.2 h hd
theorem Qoe:∀{is:List Int}{us:List Value},Qay ((is.map (Sum.inl (β:=Str))).map kV) us→QlE us=true
 | [],us,h=>by cases h; rfl
 | i::is,us,h=>by
  cases h with
  | @cons _ u _ us' r1 r2 =>
   obtain ⟨t,rfl⟩:∃t,u = .int i t:=r1;show QlE us'=true;exact Qoe (is:=is) r2
theorem Rp.tkey {K:Frag}{F:Hp}{as:List Addr}{v:V}{d:D}{ks:List Key} (hk:Qbb K=true) (h:Rp K F as v d) (e:QlO d=some ks):∃b,v = .ref b∧F b=some (.tup (ks.map kV)):=by
 cases d with
 | tup ds =>
  cases ds with
  | nil=>cases e
  | cons d ds =>
   obtain ⟨b,xs,rfl,h1,h2⟩:=h.unT';obtain ⟨ex,is,rfl⟩:=h2.keys e
   rcases h1 with h1 | ⟨o,its,n,l1,_,l3,_,l5⟩
   ·exact ⟨b,rfl,by rw [h1,ex]⟩
   ·exfalso
    have q:=Qoc hk l1 l3;rw [ex] at l5;rw [Qoe l5,Bool.not_true,Bool.or_false,List.isEmpty_iff] at q;rw [q,←ex] at l5;obtain ⟨x,r,rfl,_,_⟩:=h2.un;cases l5
 | _=>cases e
def QeJ (kvs:List (List Key×D)) (k:List Key):Option D:=(kvs.find? fun p=>decide (p.1=k)).map (·.2)
def Qjf (kvs:List (List Key×D)) (k:List Key) (d:D):List (List Key×D) :=
 if (kvs.any fun p=>decide (p.1=k))=true then kvs.map (fun p=>if p.1=k then (p.1,d) else p) else kvs ++ [(k,d)]
def DtR (K:Frag) (F:Hp) (as:List Addr) (xs:List (List Key×V)) (kvs:List (List Key×D)):Prop:=xs.map (·.1)=kvs.map (·.1)∧Rps K F as (xs.map (·.2)) (kvs.map (·.2))
section
variable {K:Frag}{mg:Str→Option Value}{O:Qac}{H F H' F':Hp}{as as':List Addr}
theorem DtR.len {xs:List (List Key×V)}{kvs:List (List Key×D)} (h:DtR K F as xs kvs):xs.length=kvs.length:=by
 have:=congrArg List.length h.1
 simpa using this
theorem DtR.un {xs:List (List Key×V)}{p:List Key×D}{kvs:List (List Key×D)} (h:DtR K F as xs (p::kvs)):∃v r,xs=(p.1,v)::r∧Rp K F as v p.2∧DtR K F as r kvs:=by
 obtain ⟨h1,h2⟩:=h
 cases xs with
 | nil=>cases h1
 | cons x r =>
  obtain ⟨v,r',e,q1,q2⟩:=h2.un;cases e;rw [zc,zc] at h1;have q3:=(List.cons.inj h1).1;refine ⟨x.2,r,?_,q1,(List.cons.inj h1).2,q2⟩;rw [←q3]
theorem DtR.val {k:List Key}:∀{kvs:List (List Key×D)}{xs:List (List Key×V)},DtR K F as xs kvs→(QeJ kvs k=none∧Qdx xs k=none)∨∃d v,QeJ kvs k=some d∧Qdx xs k=some v∧Rp K F as v d
 | [],xs,h=>by
  have:=h.len
  cases xs with
  | nil=>exact .inl ⟨rfl,rfl⟩
  | cons=>cases this
 | p::kvs,xs,h=>by
  obtain ⟨v,r,rfl,h1,h2⟩:=h.un
  by_cases e:p.1=k
  ·exact .inr ⟨p.2,v,by simp [QeJ,List.find?_cons,e],QfI e,h1⟩
  ·rw [show QeJ (p::kvs) k=QeJ kvs k by simp [QeJ,List.find?_cons,e],QfM (p:=(p.1,v)) e];exact DtR.val h2
theorem DtR.any {k:List Key}:∀{kvs:List (List Key×D)}{xs:List (List Key×V)},DtR K F as xs kvs→(xs.any fun p=>decide (p.1=k))=kvs.any fun p=>decide (p.1=k)
 | [],xs,h=>by
  have:=h.len
  cases xs with
  | nil=>rfl
  | cons=>cases this
 | p::kvs,xs,h=>by
  obtain ⟨v,r,rfl,h1,h2⟩:=h.un;rw [List.any_cons,List.any_cons,DtR.any h2]
theorem DtR.repl {k:List Key}{v:V}{d:D} (hv:Rp K F as v d):∀{kvs:List (List Key×D)}{xs:List (List Key×V)},DtR K F as xs kvs →
  DtR K F as (xs.map fun p=>if p.1=k then (p.1,v) else p) (kvs.map fun p=>if p.1=k then (p.1,d) else p)
 | [],xs,h=>by
  have:=h.len
  cases xs with
  | nil=>exact ⟨rfl,Rps.nil⟩
  | cons=>cases this
 | p::kvs,xs,h=>by
  obtain ⟨u,r,rfl,h1,h2⟩:=h.un;obtain ⟨i1,i2⟩:=DtR.repl (k:=k) hv h2
  by_cases e:p.1=k
  ·rw [zc,zc,if_pos e,if_pos e];exact ⟨by rw [zc,zc,i1],Rps.cons hv i2⟩
  ·rw [zc,zc,if_neg e,if_neg e];exact ⟨by rw [zc,zc,i1],Rps.cons h1 i2⟩
theorem DtR.put {xs:List (List Key×V)}{kvs:List (List Key×D)} (h:DtR K F as xs kvs) (k:List Key) {v:V}{d:D} (hv:Rp K F as v d):DtR K F as (putK xs k v) (Qjf kvs k d):=by
 unfold putK Qjf;rw [h.any]
 split
 ·exact h.repl hv
 ·exact ⟨by rw [zL,zL,h.1]; rfl,by rw [zL,zL]; exact Rps.snoc h.2 hv⟩
theorem DtR.mono {xs:List (List Key×V)}{kvs:List (List Key×D)} (h:DtR K F as xs kvs) (e:Same F F') (ea:∀(n:Nat) (a:Addr),as[n]? = some a→as'[n]? = some a):DtR K F' as' xs kvs:=⟨h.1,Rps.mono e ea _ h.2⟩
theorem RlO.dt {n:Nat}{a:Addr}{kvs:List (List Key×D)} (r:RlO K mg O H F as) (hn:as[n]? = some a) (hO:O[n]? = some (.dt kvs)):∃xs,H a=some (.dT xs)∧DtR K F as xs kvs:=let ⟨xs,h1,h2,h3⟩:=r.ob n a _ hn hO; ⟨xs,h1,h2,h3⟩
theorem RlO.snocO {a:Addr}{o:Ob} (r:RlO K mg O H F as) (hF:F a=none) (ha:a∉as) (ho:ObR K mg H F (as ++ [a]) a o):RlO K mg (O ++ [o]) H F (as ++ [a]):=by
 refine ⟨r.fh,r.fd,js.mpr ⟨r.nd,by simp,fun c hc d hd=>by rw [zr.mp hd]; exact fun z=>ha (z ▸ hc)⟩,by rw [zA,zA,r.len]; rfl,fun c hc=>?_,fun n c u hc hu=>?_⟩
 ·rcases zD.mp hc with hc | hc
  ·exact r.fa c hc
  ·rw [zr.mp hc]; exact hF
 ·by_cases hn:n < as.length
  ·rw [zz hn] at hc;rw [zz (by rw [←r.len]; exact hn)] at hu;exact (r.ob n c u hc hu).keep rfl (Same.refl F) Qtl
  ·have hn':n=as.length:=by
    have:=(zk.mp hc).1
    rw [zA,zX] at this;omega
   subst hn';rw [zK (ze _),Nat.sub_self] at hc;rw [r.len,zK (ze _),Nat.sub_self] at hu;cases hc;cases hu;exact ho
theorem RlO.mutG {n:Nat}{a:Addr}{o:Ob}{h:HO} (r:RlO K mg O H F as) (hn:as[n]? = some a) (hx:ObR K mg (upd H a h) F as a o):RlO K mg (O.set n o) (upd H a h) F as:=by
 have ha:=zO hn;refine ⟨fun c u e=>?_,r.fd,r.nd,by rw [zU]; exact r.len,r.fa,fun m c u hc hu=>?_⟩
 ·rw [Qaq (fun z=>by rw [z,r.fa a ha] at e; cases e)]; exact r.fh c u e
 ·by_cases hm:m=n
  ·subst hm;rw [hn] at hc;cases hc
   have hlt:m < O.length:=by rw [←r.len]; exact (zk.mp hn).1
   rw [zF hlt] at hu;cases hu;exact hx
  ·rw [zl (Ne.symm hm)] at hu
   refine (r.ob m c u hc hu).keep (Qaq fun z=>hm ?_) (Same.refl F) fun _ _ h=>h
   obtain ⟨q0,q1⟩:=zk.mp hc;obtain ⟨p0,p1⟩:=zk.mp hn;exact (List.getElem_inj r.nd).mp (q1.trans (z.trans p1.symm))
theorem RlO.unF {p:Addr} (r:RlO K mg O H F as) (hp:H p=none):F p=none:=by
 cases e:F p with
 | none=>rfl
 | some o=>rw [r.fh p o e] at hp; cases hp
theorem Gr.snoc {p:Addr}{o:HO} (hp:H p=none):Gr H F as (upd H p o) F (as ++ [p]) :=
 ⟨fun _ _ _ _ _=>rfl,Same.refl F,⟨[p],rfl,fun a h=>by rw [zr.mp h]; exact hp⟩,fun a u e _ _=>by rw [Qaq (QaC e hp)]; exact e,fun a e=>by
  by_cases h:a=p
  ·subst h; exact hp
  ·rwa [Qaq h] at e,fun a o' u e=>by rw [Qaq (QaC e hp)]; exact e⟩
end
section
variable {X:Cx}{md:List Md}{P:Pt}{R:RR}
def Qiq:M D:=fun _ O=>.ok (.ob O.length) (O ++ [.dt []])
theorem QlS {pos:Pos}:VE X md P (.Dict [] [] pos) Qiq:=Qrb.imp fun σ H Q q p hp=>by
 obtain ⟨ρ,O,F,as,d,O',r,s,e,k⟩:=q;cases e;refine k _ _ F (as ++ [p]) (Gr.snoc hp) ((r.lay hp).snocO (r.unF hp) (fun z=>r.all z hp) ⟨[],QaE,rfl,Rps.nil⟩) (Rp.mkO ?_);rw [←r.len,zK (ze _),Nat.sub_self];rfl
def QcC (mo my mv:M D):MS:=fun ρ O=>match mv ρ O with
 | .ok d O1=>match mo ρ O1 with
  | .ok (.ob n) O2=>match my ρ O2 with
   | .ok y O3=>match QlO y,O3[n]? with
    | some k,some (.dt kvs)=>if kvs.length < 1000000 then .nx ρ (O3.set n (.dt (Qjf kvs k d))) else .no
    | _,_=>.no
   | _=>.no
  | _=>.no
 | _=>.no
theorem QkD {kk:Nat} (hk:Qbb X.K=true) (hr:QaS kk X.A) {o i value:Expr}{pos pos':Pos}{mo my mv:M D} (ho:VE X md P o mo) (hi:VE X md P i my) (hv:VE X md P value mv)
  (hs:swapsWith value (some (.Subscript o i pos')) pos.line X.env=pure false:=by rfl):VS X md P R (.Assign [.Subscript o i pos'] value pos) (QcC mo my mv) :=
 (Quo (Qoq hr) ho hi hv hs).imp fun D σ H q=>by
  obtain ⟨ρ,O,F,as,r,s,k⟩:=q;unfold QcC at k;split at k
  ·rename_i d O1 e1;split at k
   ·rename_i n O2 e2;split at k
    ·rename_i y O3 e3;split at k
     ·rename_i ks kvs e4 e5;split at k
      ·rename_i hz;refine ⟨ρ,O,F,as,_,_,r,s,e1,fun v H1 F1 as1 g1 r1 hv=>⟨ρ,O1,F1,as1,_,_,r1,s.step g1,e2,fun x H2 F2 as2 g2 r2 hx=>⟨ρ,O2,F2,as2,_,_,r2,s.step (g1.trans g2),e3,fun u H3 F3 as3 g3 r3 hu=>?_⟩⟩⟩;obtain ⟨a,rfl,ha⟩:=Rp.unO hx;have ha3:=g3.at_ n a ha;obtain ⟨xs,x1,x2⟩:=r3.dt ha3 e5;obtain ⟨b,rfl,hb⟩:=Rp.tkey hk hu e4;have hv3:=(show Rp X.K F1 as1 v d from hv).gr (g2.trans g3)
       have hl:xs.length < sizeLine:=by rw [x2.len]; exact zB hz (by decide)
       have g4:Gr H3 F3 as3 (upd H3 a (.dT (putK xs ks v))) F3 as3:=QnA (zO ha3) x1;have gg:=((g1.trans g2).trans g3).trans g4;obtain ⟨z1,z2⟩:=x2.put ks hv3;exact ⟨a,_,rfl,Qjo.t x1 (r3.fh _ _ hb) hl,k σ _ F3 as3 gg.toS (r3.mutG ha3 ⟨_,QaE,z1,z2⟩) (s.step gg)⟩
      ·exact False.elim k
     ·exact False.elim k
    ·exact False.elim k
   ·exact False.elim k
  ·exact False.elim k
end
section
variable {X:Cx}
open Classical in
noncomputable def eqR (s:Shared) (x:PyData) (u:Value):Bool:=decide (∃d as,Reads s.heap u d as∧d.canLay0=true∧PyData.eqv d x=true)
open Classical in
theorem Qzq {s:Shared}{x d:PyData}{u:Value}{as:List Addr} (h:Reads s.heap u d as) (hd:d.canLay0=true):eqR s x u=PyData.eqv d x:=by
 unfold eqR
 cases e:PyData.eqv d x with
 | true=>exact zo ⟨d,as,h,hd,e⟩
 | false =>
  refine zj fun ⟨d',as',h',hd',e'⟩=>?_
  rw [←SeqAt.Reads.unique d d' u as as' hd h h',e] at e';cases e'
end
section
variable {X:Cx}{md:List Md}{P:Pt}{R:RR}
end
section
variable {K:Frag}{mg:Str→Option Value}{O:Qac}{H F:Hp}{as:List Addr}
end
section
variable {X:Cx}{md:List Md}{P:Pt}{R:RR}
end
section
variable {X:Cx}{md:List Md}{P:Pt}{R:RR}
end
end L2
namespace L2
open PySem PySem.Spec PyProof.Rows PySem.W PySem.Calls
section
variable {prog:Program}{w:World}{A:Around}{E:Value→Shared→Prop}{s:Shared}{a:Addr}{vs out:List Value}{p:Array Nat}
end
section
variable {X:Cx}
theorem Rps.getD {K:Frag}{F:Hp}{as:List Addr}{ds:List D}{xs:List V} (h:Rps K F as xs ds) (i:Nat):Rp K F as (xs.getD i V.non) (ds.getD i .non):=by
 rw [jf,jf]
 cases e:ds[i]? with
 | none =>
  have:xs[i]? = none:=by
   rw [List.getElem?_eq_none_iff] at e ⊢;rw [h.length];exact e
  rw [this];exact Rp.non
 | some d =>
  obtain ⟨v,hv,r⟩:=h.get' e;rw [hv];exact r
end
structure Qvq (mg:Str→Option Value):Prop extends Blt mg where
 sorted_:mg "sorted" = none
end L2
namespace L2
open PySem PySem.Spec PyProof.Rows
abbrev Qdc (h:Heap) (z TI TO T:Addr) (b:Bool):Prop :=
 h.get? z=some { cls:=.type "zip",dict:=none,data:=.fields #[rawInt T,.bool b,.bool false,.ref TI,.ref TO],slots:=#[] }
section
variable {prog:Program}{w:World}{A:Around}{E:Value→Shared→Prop}{s:Shared}
theorem Qnb {a:Addr}{o:Obj}{Q:Option Obj→Shared→Prop} (h:s.heap.get? a=some o) (hQ:Q (some o) s):wpAny (model prog w) A (loadIfAlive a) Q E s:=by
 have:wpAny (model prog w) A (loadIfAlive a) Q E s↔wpAny (model prog w) A (pure (s.heap.get? a)) Q E s:=by
  unfold loadIfAlive wpAny;simp [Sem.wp_loadIfAlive]
 rw [this,h];exact zb hQ
theorem QkX {z TI TO T:Addr}{b:Bool}{o:Obj}{Q:Bool→Shared→Prop} (hz:Qdc s.heap z TI TO T b) (hT:s.heap.get? T=some o)
  (hQ:∀h',Qdc h' z TI TO T true→Heap.SameBut z s.heap h'→Q false { s with heap:=h' }):wpAny (model prog w) A (Builtin.SmallTypes.ownedTupleIsFree (.ref z)) Q E s:=by
 unfold Builtin.SmallTypes.ownedTupleIsFree;refine za (wpAny_field hz rfl (x:=rawInt T) rfl ?_);show wpAny _ _ (loadIfAlive ((T:Int).toNat) >>= _) _ _ _;rw [Int.toNat_natCast];refine za (Qnb hT ?_);show wpAny _ _ (field (.ref z) 1 >>= _) _ _ _;refine za (wpAny_field hz rfl (x:=.bool b) rfl ?_)
 cases b with
 | true =>
  exact zb (hQ s.heap hz (Heap.SameBut.refl _ _))
 | false =>
  exact za (wpAny_setField_rec hz (by simp) fun h1 hz1 hs1=>zb (hQ h1 hz1 hs1))
theorem Qp8 {z TI TO T i1 i2 l1 l2:Addr}{o:Obj}{b:Bool}{k1 k2:Nat}{xs ys:Array Value}{x y:Value}{Q:Value→Shared→Prop} (D:ZipApart z TI TO i1 i2 l1 l2)
  (hz:Qdc s.heap z TI TO T b) (hT:s.heap.get? T=some o) (hTI:IsPair s.heap TI (.ref i1) (.ref i2))
  (h1:s.heap.IsListIter i1 l1 k1) (h2:s.heap.IsListIter i2 l2 k2) (hl1:s.heap.IsList l1 xs) (hl2:s.heap.IsList l2 ys) (hx:xs[k1]? = some x) (hy:ys[k2]? = some y)
  (hQ:∀h',Qdc h' z TI TO T true→h'.IsListIter i1 l1 (k1+1)→h'.IsListIter i2 l2 (k2+1)→IsPair h' s.heap.objs.size x y→h'.objs.size=s.heap.objs.size+1 →
   (∀c o,c≠z→c≠i1→c≠i2→s.heap.get? c=some o→h'.get? c=some o)→Q (.ref s.heap.objs.size) { s with heap:=h' }) :
  wpAny (model prog w) A (Builtin.«zip.__next__» ⟨[.ref z],[]⟩) (fun fin s'=>∃v,fin = .done (.ret v)∧Q v s') E s:=by
 show wpAny _ _ (field (.ref z) 2 >>= _) _ _ _;refine za (wpAny_field hz rfl (x:=.bool false) rfl ?_);show wpAny _ _ (field (.ref z) 3 >>= _) _ _ _;refine za (wpAny_field hz rfl (x:=.ref TI) rfl ?_);refine za (wpAny_seqItems hTI rfl ?_);show wpAny _ _ (Builtin.SmallTypes.ownedTupleIsFree (.ref z) >>= _) _ _ _;refine za (QkX hz hT fun h₁ hz₁ hs₁=>?_);simp only [Bool.false_eq_true,if_false];refine za ?_;simp only [←Array.forIn_toList,List.forIn_cons,List.forIn_nil];refine za (za (zH ?_));show wpAny _ _ (Builtin.SmallTypes.nextOf (.ref i1) >>= _) _ _ _;refine za (wpAny_nextOf_list_item (h1.extBut hs₁.extBut D.i1z) (hl1.extBut hs₁.extBut D.l1z) hx fun h₂ h1₂ hs₂=>zb (zb ?_))
 dsimp only;refine za (za (zH ?_));show wpAny _ _ (Builtin.SmallTypes.nextOf (.ref i2) >>= _) _ _ _;refine za (wpAny_nextOf_list_item ((h2.extBut hs₁.extBut D.i2z).extBut hs₂.extBut D.i12.symm) ((hl2.extBut hs₁.extBut D.l2z).extBut hs₂.extBut D.l2i1) hy fun h₃ h2₃ hs₃=>zb (zb ?_));dsimp only;refine zb ?_;refine za (wpAny_newTuple ?_ (by show 2≤sizeLine; decide))
 have hsz:h₃.objs.size=s.heap.objs.size:=by rw [hs₃.1,hs₂.1,hs₁.1]
 have hz₃:Qdc h₃ z TI TO T true:=hs₃.extBut _ _ D.i2z.symm (hs₂.extBut _ _ D.i1z.symm hz₁);refine zb ⟨_,rfl,?_⟩;show Q (.ref h₃.objs.size) _;rw [hsz];have fin:=hQ (h₃.push { cls:=.type "tuple",data:=.seq #[x,y] }) (zn _ hz₃) ((h1₂.extBut hs₃.extBut D.i12).at fun o e=>zn _ e) (h2₃.at fun o e=>zn _ e)
  (by rw [←hsz]; exact zw _ rfl) (by rw [Heap.size_push,hsz]) fun c o c1 c2 c3 e=>zn _ (hs₃.extBut _ _ c3 (hs₂.extBut _ _ c2 (hs₁.extBut _ _ c1 e)))
 exact fin
theorem Qrg {z TI TO T i1 i2 l1 l2:Addr}{o:Obj}{b:Bool}{k1 k2:Nat}{xs ys:Array Value}{Q:PySem.Fin→Shared→Prop} (hh:A.handled=none) (D:ZipApart z TI TO i1 i2 l1 l2)
  (hz:Qdc s.heap z TI TO T b) (hT:s.heap.get? T=some o) (hTI:IsPair s.heap TI (.ref i1) (.ref i2))
  (h1:s.heap.IsListIter i1 l1 k1) (h2:s.heap.IsListIter i2 l2 k2) (hl1:s.heap.IsList l1 xs) (hl2:s.heap.IsList l2 ys) (hend:xs[k1]? = none∨ys[k2]? = none)
  (hE:∀h' e,(∀c o,c≠z→c≠i1→c≠i2→s.heap.get? c=some o→h'.get? c=some o)→(∃o,h'.get? e=some o∧o.cls = .type "StopIteration")→E (.ref e) { s with heap:=h' }) :
  wpAny (model prog w) A (Builtin.«zip.__next__» ⟨[.ref z],[]⟩) Q E s:=by
 show wpAny _ _ (field (.ref z) 2 >>= _) _ _ _;refine za (wpAny_field hz rfl (x:=.bool false) rfl ?_);show wpAny _ _ (field (.ref z) 3 >>= _) _ _ _;refine za (wpAny_field hz rfl (x:=.ref TI) rfl ?_);refine za (wpAny_seqItems hTI rfl ?_);show wpAny _ _ (Builtin.SmallTypes.ownedTupleIsFree (.ref z) >>= _) _ _ _;refine za (QkX hz hT fun h₁ hz₁ hs₁=>?_);simp only [Bool.false_eq_true,if_false];refine za ?_;simp only [←Array.forIn_toList,List.forIn_cons,List.forIn_nil];refine za (za (zH ?_));show wpAny _ _ (Builtin.SmallTypes.nextOf (.ref i1) >>= _) _ _ _
 cases hx:xs[k1]? with
 | none =>
  refine za (wpAny_nextOf_list_end hh (h1.extBut hs₁.extBut D.i1z) (hl1.extBut hs₁.extBut D.l1z) hx fun h₂ e hs₂ he=>?_);exact hE h₂ e (fun c o c1 c2 c3 x=>hs₂ _ _ c2 (hs₁.extBut _ _ c1 x)) he
 | some x =>
  have hy:ys[k2]? = none:=by rcases hend with h | h; rw [hx] at h; cases h; exact h
  refine za (wpAny_nextOf_list_item (h1.extBut hs₁.extBut D.i1z) (hl1.extBut hs₁.extBut D.l1z) hx fun h₂ h1₂ hs₂=>zb (zb ?_));dsimp only;refine za (za (zH ?_));show wpAny _ _ (Builtin.SmallTypes.nextOf (.ref i2) >>= _) _ _ _;refine za (wpAny_nextOf_list_end hh ((h2.extBut hs₁.extBut D.i2z).extBut hs₂.extBut D.i12.symm) ((hl2.extBut hs₁.extBut D.l2z).extBut hs₂.extBut D.l2i1) hy fun h₃ e hs₃ he=>?_);exact hE h₃ e (fun c o c1 c2 c3 x=>hs₃ _ _ c3 (hs₂.extBut _ _ c2 (hs₁.extBut _ _ c1 x))) he
theorem QoG {z TI TO T i1 i2 l1 l2:Addr}{o:Obj}{b:Bool}{k1 k2:Nat}{xs ys:Array Value}{x y:Value}{Q:Option Value→Shared→Prop} (D:ZipApart z TI TO i1 i2 l1 l2)
  (hz:Qdc s.heap z TI TO T b) (hT:s.heap.get? T=some o) (hTI:IsPair s.heap TI (.ref i1) (.ref i2))
  (h1:s.heap.IsListIter i1 l1 k1) (h2:s.heap.IsListIter i2 l2 k2) (hl1:s.heap.IsList l1 xs) (hl2:s.heap.IsList l2 ys) (hx:xs[k1]? = some x) (hy:ys[k2]? = some y)
  (hQ:∀h',Qdc h' z TI TO T true→h'.IsListIter i1 l1 (k1+1)→h'.IsListIter i2 l2 (k2+1)→IsPair h' s.heap.objs.size x y→h'.objs.size=s.heap.objs.size+1 →
   (∀c o,c≠z→c≠i1→c≠i2→s.heap.get? c=some o→h'.get? c=some o)→Q (some (.ref s.heap.objs.size)) { s with heap:=h' }) :
  wpAny (model prog w) A (pyNext (.ref z)) Q E s:=by
 have hTy:s.TypeIs (.ref z) "zip":=⟨_,hz,rfl⟩;unfold pyNext
 exact za (wpAny_attempt (wpAny_callSpecial?_slot (name:=Str.ofString "__next__") hTy F.slot_zip_next
  (wpAny_call_entry F.slot_zip_next hTy F.entry_zip_next
   (Qp8 D hz hT hTI h1 h2 hl1 hl2 hx hy fun h' a1 a3 a4 a5 a6 a7=>zb (hQ h' a1 a3 a4 a5 a6 a7)) (F.args_zip_next_1 _))))
theorem QpH {z TI TO T i1 i2 l1 l2:Addr}{o:Obj}{b:Bool}{k1 k2:Nat}{xs ys:Array Value}{Q:Option Value→Shared→Prop} (hh:A.handled=none) (D:ZipApart z TI TO i1 i2 l1 l2)
  (hz:Qdc s.heap z TI TO T b) (hT:s.heap.get? T=some o) (hTI:IsPair s.heap TI (.ref i1) (.ref i2))
  (h1:s.heap.IsListIter i1 l1 k1) (h2:s.heap.IsListIter i2 l2 k2) (hl1:s.heap.IsList l1 xs) (hl2:s.heap.IsList l2 ys) (hend:xs[k1]? = none∨ys[k2]? = none)
  (hQ:∀h',(∀c o,c≠z→c≠i1→c≠i2→s.heap.get? c=some o→h'.get? c=some o)→Q none { s with heap:=h' }):wpAny (model prog w) A (pyNext (.ref z)) Q E s:=by
 have hTy:s.TypeIs (.ref z) "zip":=⟨_,hz,rfl⟩;unfold pyNext
 refine za (wpAny_attempt (wpAny_callSpecial?_slot (name:=Str.ofString "__next__") hTy F.slot_zip_next
  (wpAny_call_entry F.slot_zip_next hTy F.entry_zip_next (Qrg hh D hz hT hTI h1 h2 hl1 hl2 hend fun h' e hk he=>?_) (F.args_zip_next_1 _))))
 obtain ⟨o',ho',hc⟩:=he;refine za (wpAny_isInstance (T:="StopIteration") (b:=true) ⟨o',ho',hc⟩ isSubtype_stop ?_);exact zb (hQ _ hk)
structure ZS (base:Nat) (h:Heap) (z TI TO i1 i2 l1 l2 S:Addr) (xs ys acc:Array Value) (c i:Nat):Prop where
 zi:(IsZip h z TI TO .none∧∃a b,IsPair h TO a b)∨∃T b o,Qdc h z TI TO T b∧h.get? T=some o∧T∉[z,TO,i1,i2,S]
 ti:IsPair h TI (.ref i1) (.ref i2)
 it1:h.IsListIter i1 l1 i
 it2:h.IsListIter i2 l2 i
 a1:h.IsList l1 xs
 a2:h.IsList l2 ys
 ls:h.get? S=some { cls:=.type "list",dict:=none,data:=.seq acc c,slots:=#[] }
 sz:acc.size=i
 tl:TO < h.objs.size
 nd:acc.toList.Nodup
 ts:∀(j:Nat) (v:Value),acc[j]? = some v→∃(T:Addr) (x y:Value),v=Value.ref T∧xs[j]? = some x∧ys[j]? = some y∧IsPair h T x y∧T∉[z,TO,i1,i2,S]∧base≤T
variable {R:PySem.Result→Shared→Prop}
theorem Qsv {z TI TO i1 i2 l1 l2 S:Addr}{xs ys:Array Value}{n base:Nat} (hh:A.handled=none) (D:ZipApart z TI TO i1 i2 l1 l2) (hS:S∉[z,TI,TO,i1,i2,l1,l2]) (res:Value) (hn:n≤sizeLine) (hn1:n≤xs.size) (hn2:n≤ys.size) (hne:n=xs.size∨n=ys.size) :
  ∀(k i:Nat) (s:Shared) (acc:Array Value) (c:Nat),n - i=k→i≤n→ZS base s.heap z TI TO i1 i2 l1 l2 S xs ys acc c i→base≤s.heap.objs.size →
  (∀(h':Heap) (acc':Array Value) (c':Nat),(∀b o,b∉[z,TO,i1,i2,S]→s.heap.get? b=some o→h'.get? b=some o)→h'.get? S=some { cls:=.type "list",dict:=none,data:=.seq acc' c',slots:=#[] }→acc'.size=n→acc'.toList.Nodup →
   (∀(j:Nat) (v:Value),acc'[j]? = some v→∃(T:Addr) (x y:Value),v=Value.ref T∧xs[j]? = some x∧ys[j]? = some y∧IsPair h' T x y∧T∉[z,TO,i1,i2,S]∧base≤T)→R (.ok (.ret res)) { s with heap:=h' }) →
  codeAny (model prog w) A (.builtin "list.extend.loop" ⟨[.ref S,.ref z,res],[]⟩) R s:=by
 simp only [zd,List.not_mem_nil,or_false,not_or] at hS;obtain ⟨S1,S2,S3,S4,S5,S6,S7⟩:=hS
 have nin:∀b:Addr,b∉[z,TO,i1,i2,S]↔b≠z∧b≠TO∧b≠i1∧b≠i2∧b≠S:=fun b=>by simp only [zd,List.not_mem_nil,or_false,not_or]
 intro k
 induction k with
 | zero =>
  intro i s acc c hk hi st hb hR
  have hin:i=n:=by omega
  subst hin;refine zZ F.entry_extend_loop ?_;rw [Around.under_plainId F.plain_extend_loop _];show wpAny _ A.in1 (pyNext (.ref z) >>= _) _ _ s
  have hend:xs[i]? = none∨ys[i]? = none:=by
   rcases hne with e | e
   ·left; rw [Array.getElem?_eq_none_iff]; omega
   ·right; rw [Array.getElem?_eq_none_iff]; omega
  have fin:∀h',(∀b o,b≠z→b≠TO→b≠i1→b≠i2→s.heap.get? b=some o→h'.get? b=some o)→R (.ok (.ret res)) { s with heap:=h' }:=fun h' kp =>
   hR h' acc c (fun b o hb e=>by obtain ⟨b1,b2,b3,b4,b5⟩:=(nin b).mp hb; exact kp b o b1 b2 b3 b4 e) (kp S _ S1 S3 S4 S5 st.ls) st.sz st.nd fun j v hv=>by
    obtain ⟨T,x,y,e1,e2,e3,e4,e5,e6⟩:=st.ts j v hv;obtain ⟨b1,b2,b3,b4,b5⟩:=(nin T).mp e5;exact ⟨T,x,y,e1,e2,e3,kp T _ b1 b2 b3 b4 e4,e5,e6⟩
  rcases st.zi with ⟨hz,a,b,hTO⟩ | ⟨T,b,o,hz,hT,_⟩
  ·exact za (wpAny_pyNext_zip_end hh D hz st.ti hTO st.it1 st.it2 st.a1 st.a2 hend fun h' kp=>zb (fin h' kp))
  ·exact za (QpH hh D hz hT st.ti st.it1 st.it2 st.a1 st.a2 hend fun h' kp=>zb (fin h' fun b o b1 b2 b3 b4 e=>kp b o b1 b3 b4 e))
 | succ k ih =>
  intro i s acc c hk hi st hb hR
  have hlt:i < n:=by omega
  have hx:xs[i]? = some (xs[i]'(by omega)):=Array.getElem?_eq_getElem _;have hy:ys[i]? = some (ys[i]'(by omega)):=Array.getElem?_eq_getElem _
  generalize xs[i]'(by omega)=x at hx
  generalize ys[i]'(by omega)=y at hy
  refine zZ F.entry_extend_loop ?_;rw [Around.under_plainId F.plain_extend_loop _];show wpAny _ A.in1 (pyNext (.ref z) >>= _) _ _ s
  have ltz:z < s.heap.objs.size:=by rcases st.zi with ⟨hz,_⟩ | ⟨T,b,o,hz,_⟩ <;> exact zf hz
  have ltS:S < s.heap.objs.size:=zf st.ls
  have lt1:i1 < s.heap.objs.size:=by obtain ⟨_,e,_⟩:=st.it1; exact zf e
  have lt2:i2 < s.heap.objs.size:=by obtain ⟨_,e,_⟩:=st.it2; exact zf e
  have nxt:wpAny (model prog w) A.in1 (pyNext (.ref z)) (fun r s1=>∃h',r=some (.ref s.heap.objs.size)∧s1 = { s with heap:=h' }∧(∃T b o,Qdc h' z TI TO T b∧h'.get? T=some o∧(T=s.heap.objs.size∨T∉[z,TO,i1,i2,S]))∧h'.IsListIter i1 l1 (i+1)∧h'.IsListIter i2 l2 (i+1)∧IsPair h' s.heap.objs.size x y∧h'.objs.size=s.heap.objs.size+1 ∧
    ∀c o,c≠z→c≠TO→c≠i1→c≠i2→s.heap.get? c=some o→h'.get? c=some o) (fun _ _=>False) s:=by
   rcases st.zi with ⟨hz,a,b,hTO⟩ | ⟨T,b,o,hz,hT,hTn⟩
   ·exact wpAny_pyNext_zip_item D hz st.ti hTO st.it1 st.it2 st.a1 st.a2 hx hy fun h' q1 q2 q3 q4 q5 q6 q7=>⟨h',rfl,rfl,⟨_,false,_,q1,q5,.inl rfl⟩,q3,q4,q5,q6,q7⟩
   ·obtain ⟨n1,n2,n3,n4,n5⟩:=(nin T).mp hTn
    exact QoG D hz hT st.ti st.it1 st.it2 st.a1 st.a2 hx hy fun h' q1 q3 q4 q5 q6 q7=>⟨h',rfl,rfl,⟨T,true,o,q1,q7 T o n1 n3 n4 hT,.inr hTn⟩,q3,q4,q5,q6,fun c o c1 c2 c3 c4 e=>q7 c o c1 c3 c4 e⟩
  have ltO:TO≠s.heap.objs.size:=zt st.tl;have hnew:s.heap.objs.size∉[z,TO,i1,i2,S]:=(nin _).mpr ⟨Nat.ne_of_gt ltz,ltO.symm,Nat.ne_of_gt lt1,Nat.ne_of_gt lt2,Nat.ne_of_gt ltS⟩;refine za (zG nxt ?_ fun _ _ x=>x.elim);rintro r s1 ⟨h',rfl,rfl,⟨T,b,o,hz',hT',hTn'⟩,j1,j2,hp,hsz,kp⟩;have hS':=kp S _ S1 S3 S4 S5 st.ls
  have oth:∀c o,c≠S→h'.get? c=some o→(h'.update S (Obj.mapSeq (·.push (Value.ref s.heap.objs.size)))).get? c=some o:=fun c o hc e=>(jl _ _ (Ne.symm hc)).trans e
  have hTn2:T∉[z,TO,i1,i2,S]:=by
   rcases hTn' with e | e
   ·rw [e]; exact hnew
   ·exact e
  have hnd:(acc.push (Value.ref s.heap.objs.size)).toList.Nodup:=by
   rw [Array.toList_push,js];refine ⟨st.nd,by simp,fun v hv w hw=>?_⟩;rw [zr.mp hw];rintro rfl;obtain ⟨j,hj⟩:=List.mem_iff_getElem?.mp hv;obtain ⟨T2,x2,y2,f1,_,_,f4,_⟩:=st.ts j _ (by simpa using hj);cases f1;exact zN _ (zf f4)
  show wpAny _ A.in1 (updateSeq S (·.push (.ref s.heap.objs.size)) >>= _) _ _ _;refine za ?_
  refine je hS' rfl (zb ⟨plainId_quiet F.plain_extend_loop _,ih (i+1) _ (acc.push (.ref s.heap.objs.size)) _ (by omega) hlt ⟨.inr ⟨T,b,o,oth z _ (Ne.symm S1) hz',oth T _ ((nin T).mp hTn2).2.2.2.2 hT',hTn2⟩,
   oth TI _ (Ne.symm S2) (kp TI _ D.TIz D.TITO D.TIi1 D.TIi2 st.ti),j1.at fun o e=>oth i1 o (Ne.symm S4) e,j2.at fun o e=>oth i2 o (Ne.symm S5) e,
   st.a1.at fun o e=>oth l1 o (Ne.symm S6) (kp l1 o D.l1z D.l1TO D.l1i1 D.l1i2 e),st.a2.at fun o e=>oth l2 o (Ne.symm S7) (kp l2 o D.l2z D.l2TO D.l2i1 D.l2i2 e),Heap.get?_update_self _ hS' rfl,by rw [Array.size_push,st.sz],by rw [Heap.size_update,hsz]; exact jg st.tl,hnd,fun j v hv=>?_⟩ ?_ fun h2 acc' c' kp2 e1 e2 en e3=>?_⟩)
   (by rw [st.sz]; omega) (by show (acc.push _).size≤sizeLine+1; rw [Array.size_push,st.sz]; omega)
  ·rw [Array.getElem?_push] at hv;split at hv
   ·rename_i e;rw [st.sz] at e;cases hv;subst e;exact ⟨_,x,y,rfl,hx,hy,oth _ _ (Nat.ne_of_gt ltS) hp,hnew,hb⟩
   ·obtain ⟨T2,x2,y2,f1,f2,f3,f4,f5,f6⟩:=st.ts j v hv;obtain ⟨n1,n2,n3,n4,n5⟩:=(nin T2).mp f5;exact ⟨T2,x2,y2,f1,f2,f3,oth T2 _ n5 (kp T2 _ n1 n2 n3 n4 f4),f5,f6⟩
  ·rw [Heap.size_update,hsz]; omega
  ·refine hR h2 acc' c' (fun b o hb' e=>kp2 b o hb' ?_) e1 e2 en e3;obtain ⟨n1,n2,n3,n4,n5⟩:=(nin b).mp hb';exact oth b o n5 (kp b o n1 n2 n3 n4 e)
theorem QoK:typeLookup (.type "zip") "__len__" = pure none:=by rw [typeLookup_type,builtinLookup_eq_fast]; kernel_rfl
theorem Qm7:typeLookup (.type "zip") "__length_hint__" = pure none:=by rw [typeLookup_type,builtinLookup_eq_fast]; kernel_rfl
theorem Qtm {z TI TO i1 i2 l1 l2 S:Addr}{xs ys:Array Value}{n base:Nat} (hh:A.handled=none) (D:ZipApart z TI TO i1 i2 l1 l2) (hSn:S∉[z,TI,TO,i1,i2,l1,l2]) (res:Value) (hn:n≤sizeLine) (hn1:n≤xs.size) (hn2:n≤ys.size) (hne:n=xs.size∨n=ys.size) (c₀:Nat) (hb:base≤s.heap.objs.size)
  (hz:IsZip s.heap z TI TO .none) (st:ZS base s.heap z TI TO i1 i2 l1 l2 S xs ys #[] c₀ 0)
  (hR:∀(h':Heap) (acc':Array Value) (c':Nat),(∀b o,b∉[z,TO,i1,i2,S]→s.heap.get? b=some o→h'.get? b=some o)→h'.get? S=some { cls:=.type "list",dict:=none,data:=.seq acc' c',slots:=#[] }→acc'.size=n→acc'.toList.Nodup →
   (∀(j:Nat) (v:Value),acc'[j]? = some v→∃(T:Addr) (x y:Value),v=Value.ref T∧xs[j]? = some x∧ys[j]? = some y∧IsPair h' T x y∧T∉[z,TO,i1,i2,S]∧base≤T)→R (.ok (.ret res)) { s with heap:=h' }) :
  wpAny (model prog w) A.in1 (Builtin.List.listExtendWith (.ref S) (.ref z) res)
   (fun fin s'=>match fin with | .done f=>R (.ok f) s' | .again c'=>c'.quiet=true∧codeAny (model prog w) A c' R s') (fun e s'=>R (.error e) s') s:=by
 have hSn':=hSn;simp only [zd,List.not_mem_nil,or_false,not_or] at hSn';obtain ⟨S1,S2,S3,S4,S5,S6,S7⟩:=hSn';have hTy:s.TypeIs (.ref z) "zip":=⟨_,hz,rfl⟩;unfold Builtin.List.listExtendWith;refine za (wpAny_typeOf hTy ?_)
 have h1:Builtin.List.listSameRef (.ref S) (.ref z)=false:=by simp [Builtin.List.listSameRef,S1]
 have h2:(Value.type "zip" == Value.type "list")=false:=by decide
 have h3:(Value.type "zip" == Value.type "tuple")=false:=by decide
 simp only [h1,h2,h3,Bool.or_false,Bool.false_eq_true,if_false];refine za (wpAny_pyIter_zip hz ?_);refine za (zH ?_);unfold Builtin.List.listLengthHint;refine za (wpAny_specialOf hTy QoK ?_);show wpAny _ A.in1 (specialOf (Value.ref z) (Str.ofString "__length_hint__") >>= _) _ _ _;refine za (wpAny_specialOf hTy Qm7 ?_);refine zb ?_
 show wpAny _ A.in1 (rule "list.extend.makes-room" >>= fun _=>Builtin.List.listTouch (.ref S) >>= fun _ =>
  again (.builtin "list.extend.loop" ⟨[.ref S,.ref z,res],[]⟩)) _ _ _
 refine za (zY ?_);refine za ?_;show wpAny _ A.in1 (updateSeq S (·.push .none) >>= fun _=>updateSeq S (·.pop)) _ _ _;have hS:=st.ls;refine za (je hS rfl ?_);have hS₂:=Heap.get?_update_self (Obj.mapSeq (·.push Value.none)) hS rfl;refine je (hz:=by seq_fits) hS₂ rfl ?_;have hS₃:=Heap.get?_update_self (Obj.mapSeq (·.pop)) hS₂ rfl;have oth:∀b o,b≠S→s.heap.get? b=some o→((s.heap.update S (Obj.mapSeq (·.push Value.none))).update S (Obj.mapSeq (·.pop))).get? b=some o :=
  fun b o hb e=>(jl _ _ (Ne.symm hb)).trans ((jl _ _ (Ne.symm hb)).trans e)
 obtain ⟨a,b',hTO⟩:∃a b,IsPair s.heap TO a b:=by
  rcases st.zi with ⟨_,x⟩ | ⟨T,b,o,hz',_⟩
  ·exact x
  ·have q:=Eq.trans (Eq.symm hz) hz';simp [rawInt] at q
 refine zb ⟨plainId_quiet F.plain_extend_loop _,Qsv (base:=base) hh D hSn res hn hn1 hn2 hne n 0 _ _ _ rfl (Nat.zero_le _) ⟨.inl ⟨oth z _ (Ne.symm S1) hz,a,b',oth TO _ (Ne.symm S3) hTO⟩,oth TI _ (Ne.symm S2) st.ti,st.it1.at fun o e=>oth i1 o (Ne.symm S4) e,st.it2.at fun o e=>oth i2 o (Ne.symm S5) e,
  st.a1.at fun o e=>oth l1 o (Ne.symm S6) e,st.a2.at fun o e=>oth l2 o (Ne.symm S7) e,hS₃,rfl,by rw [Heap.size_update,Heap.size_update]; exact st.tl,List.nodup_nil,fun j v hv=>by simp at hv⟩ (by rw [Heap.size_update,Heap.size_update]; exact hb) fun h' acc' c' kp e1 e2 en e3=>?_⟩
 exact hR h' acc' c' (fun b o hb' e=>kp b o hb' (oth b o (fun z=>hb' (by simp [z])) e)) e1 e2 en e3
theorem Qlk {z TI TO i1 i2 l1 l2:Addr}{xs ys:Array Value}{n:Nat}{Q:Value→Shared→Prop} (hh:A.handled=none) (D:ZipApart z TI TO i1 i2 l1 l2) (hn:n≤sizeLine) (hn1:n≤xs.size) (hn2:n≤ys.size) (hne:n=xs.size∨n=ys.size)
  (hz:IsZip s.heap z TI TO .none) (hTI:IsPair s.heap TI (.ref i1) (.ref i2)) {a b:Value} (hTO:IsPair s.heap TO a b) (h1:s.heap.IsListIter i1 l1 0) (h2:s.heap.IsListIter i2 l2 0) (hl1:s.heap.IsList l1 xs) (hl2:s.heap.IsList l2 ys)
  (hQ:∀(h':Heap) (acc':Array Value) (c':Nat),(∀b o,b∉[z,TO,i1,i2]→s.heap.get? b=some o→h'.get? b=some o)→h'.get? s.heap.objs.size=some { cls:=.type "list",dict:=none,data:=.seq acc' c',slots:=#[] }→acc'.size=n→acc'.toList.Nodup →
   (∀(j:Nat) (v:Value),acc'[j]? = some v→∃(T:Addr) (x y:Value),v=Value.ref T∧xs[j]? = some x∧ys[j]? = some y∧IsPair h' T x y∧T≠s.heap.objs.size∧s.heap.objs.size≤T)→Q (.ref s.heap.objs.size) { s with heap:=h' }) :
  wpAny (model prog w) A (call (.type "list") [.ref z]) Q E s:=by
 have ltz:z < s.heap.objs.size:=zf hz;have ltI:TI < s.heap.objs.size:=zf hTI;have ltO:TO < s.heap.objs.size:=zf hTO
 have lt1:i1 < s.heap.objs.size:=by obtain ⟨_,e,_⟩:=h1; exact zf e
 have lt2:i2 < s.heap.objs.size:=by obtain ⟨_,e,_⟩:=h2; exact zf e
 have la1:l1 < s.heap.objs.size:=by obtain ⟨_,e,_⟩:=hl1; exact zf e
 have la2:l2 < s.heap.objs.size:=by obtain ⟨_,e,_⟩:=hl2; exact zf e
 refine callType_codes (Q₁:=fun obj s₁=>obj = .ref s.heap.objs.size∧s₁ = { s with heap:=s.heap.push { cls:=.type "list",data:=.seq #[] } }) F.called_list (F.typeCall_list_1 _) F.entry_list_init
  (code_list_new _ ⟨rfl,rfl⟩) fun obj s₁ h₁=>?_
 obtain ⟨rfl,rfl⟩:=h₁;have hS:(s.heap.push { cls:=.type "list",data:=.seq #[] }).get? s.heap.objs.size=some { cls:=.type "list",data:=.seq #[] }:=zw _ rfl;refine ⟨⟨_,hS,rfl⟩,F.args_list_init_2 _ _,?_⟩;show wpAny _ _ (do let old ←Builtin.List.listItems (.ref s.heap.objs.size); Builtin.List.listUpdate (.ref s.heap.objs.size) (fun _=>#[]); letGo old.toList.reverse; Builtin.List.listExtendWith (.ref s.heap.objs.size) (.ref z) .none) _ _ _;refine za ?_;unfold Builtin.List.listItems;refine za (wpAny_seqItems hS rfl (zb ?_));show wpAny _ _ (updateSeq s.heap.objs.size (fun _=>#[]) >>= fun _=>letGo (#[]:Array Value).toList.reverse >>= fun _=>Builtin.List.listExtendWith (.ref s.heap.objs.size) (.ref z) .none) _ _ _
 refine za (je hS rfl ?_);have hS₂:=Heap.get?_update_self (Obj.mapSeq (fun _=>(#[]:Array Value))) hS rfl;refine za (jo ?_);have oth:∀b o,s.heap.get? b=some o→((s.heap.push { cls:=.type "list",data:=.seq #[] }).update s.heap.objs.size (Obj.mapSeq (fun _=>(#[]:Array Value)))).get? b=some o :=
  fun b o e=>(jl _ _ (Nat.ne_of_gt (zf e))).trans (zn _ e)
 have hsz:((s.heap.push { cls:=.type "list",data:=.seq #[] }).update s.heap.objs.size (Obj.mapSeq (fun _=>(#[]:Array Value)))).objs.size=s.heap.objs.size+1:=by rw [Heap.size_update,Heap.size_push]
 refine Qtm (base:=s.heap.objs.size) (by exact hh) D (by simp only [zd,List.not_mem_nil,or_false,not_or]; exact ⟨Nat.ne_of_gt ltz,Nat.ne_of_gt ltI,Nat.ne_of_gt ltO,Nat.ne_of_gt lt1,Nat.ne_of_gt lt2,Nat.ne_of_gt la1,Nat.ne_of_gt la2⟩) .none hn hn1 hn2 hne _ (by show _≤((s.heap.push _).update _ _).objs.size; rw [hsz]; exact Nat.le_succ _) (oth _ _ hz)
  ⟨.inl ⟨oth _ _ hz,a,b,oth _ _ hTO⟩,oth _ _ hTI,h1.at fun o e=>oth _ o e,h2.at fun o e=>oth _ o e,hl1.at fun o e=>oth _ o e,hl2.at fun o e=>oth _ o e,hS₂,rfl,by show _ < ((s.heap.push _).update _ _).objs.size; rw [hsz]; exact jg ltO,List.nodup_nil,fun j v hv=>by simp at hv⟩ fun h' acc' c' kp e1 e2 en e3=>?_
 refine ⟨rfl,hQ h' acc' c' (fun b o hb e=>kp b o (fun hm=>?_) (oth b o e)) e1 e2 en fun j v hv=>?_⟩
 ·simp only [zd,List.not_mem_nil,or_false,not_or] at hb hm
  have:=zf e
  rcases hm with hm | hm | hm | hm | hm
  ·exact hb.1 hm
  ·exact hb.2.1 hm
  ·exact hb.2.2.1 hm
  ·exact hb.2.2.2 hm
  ·exact absurd this (by rw [hm]; exact zN _)
 ·obtain ⟨T,x,y,f1,f2,f3,f4,f5,f6⟩:=e3 j v hv;exact ⟨T,x,y,f1,f2,f3,f4,fun e=>f5 (by simp [e]),f6⟩
end
theorem Un.more {fs ex:List Addr}{H H1:Hp}{h h':Heap}{a:Addr}{o:HO} (u:Un fs ex H H1 h h') (hp:h.objs.size≤a) (hn:H1 a=none):Un fs ex H (upd H1 a o) h h' where
 keep:=u.keep
 slot:=u.slot
 free:=fun b ob q n hx=>by rw [Qaq (zt (zB (zf q) hp))]; exact u.free b ob q n hx
 there:=u.there
 tups:=fun b xs q=>by have z:=u.tups b xs q; rw [Qaq (QaC z hn)]; exact z
 frzs:=fun b ob v q=>by have z:=u.frzs b ob v q; rw [Qaq (QaC z hn)]; exact z
 tbls:=fun b ps q=>by obtain ⟨m,z⟩:=u.tbls b ps q; exact ⟨m,by rw [Qaq (QaC z hn)]; exact z⟩
theorem HOk.more {P:Program}{w:World}{H:Hp}{h:Heap}{a:Addr}{o:HO} (x:HOk P w H h) (hn:H a=none) (new:Qbc P w (upd H a o) h a o):HOk P w (upd H a o) h:=fun b u e=>by
 by_cases hb:b=a
 ·subst hb; rw [QaE] at e; cases e; exact new
 ·rw [Qaq hb] at e
  exact (x b u e).stay (fun c v _ q=>q) (fun c q=>by rw [Qaq (QaC q hn)]; exact q) fun c xs q=>by rw [Qaq (QaC q hn)]; exact q
def Qpb:Hp→List (V×V)→List V→Hp→Prop
 | H,[],ts,H2=>ts = []∧H2=H
 | H,p::r,ts,H2=>∃T ts',ts = .ref T::ts'∧H T=none∧Qpb (upd H T (.tup [p.1,p.2])) r ts' H2
theorem Qn3 {P:Program}{w:World}{fs:List Addr}{H0:Hp}{h h':Heap}:∀(ps:List (V×V)) (vs:List Value) (Hk:Hp),Un fs [] H0 Hk h h'→HOk P w Hk h'→vs.Nodup →
  Paired (fun (p:V×V) (v:Value)=>∃T x y,v=Value.ref T∧RelV p.1 x∧RelV p.2 y∧IsPair h' T x y∧h.objs.size≤T∧Hk T=none) ps vs →
  ∃ts H2,Qpb Hk ps ts H2∧Qay ts vs∧Un fs [] H0 H2 h h'∧HOk P w H2 h'∧∀b,Value.ref b∉vs→H2 b=Hk b
 | [],vs,Hk,u,x,_,hp=>by
  cases hp;exact ⟨[],Hk,⟨rfl,rfl⟩,.nil,u,x,fun _ _=>rfl⟩
 | p::ps,vs,Hk,u,x,hnd,hp=>by
  cases hp with
  | cons h1 h2 =>
   obtain ⟨T,u1,u2,rfl,r1,r2,hT,hle,hn⟩:=h1;rw [List.nodup_cons] at hnd;have u':Un fs [] H0 (upd Hk T (.tup [p.1,p.2])) h h':=u.more hle hn;have x':HOk P w (upd Hk T (.tup [p.1,p.2])) h':=x.more hn ⟨by show 2≤sizeLine; decide,[u1,u2],.cons r1 (.cons r2 .nil),⟨_,hT,rfl,_,rfl⟩⟩;have go:∀(ps:List (V×V)) (ws:List Value),Value.ref T∉ws→Paired (fun (p:V×V) (v:Value)=>∃T x y,v=Value.ref T∧RelV p.1 x∧RelV p.2 y∧IsPair h' T x y∧h.objs.size≤T∧Hk T=none) ps ws →
     Paired (fun (q:V×V) (v:Value)=>∃T' x y,v=Value.ref T'∧RelV q.1 x∧RelV q.2 y∧IsPair h' T' x y∧h.objs.size≤T'∧upd Hk T (.tup [p.1,p.2]) T'=none) ps ws:=fun ps ws hw hq=>by
    induction hq with
    | nil=>exact .nil
    | cons a b ih =>
     rw [zd,not_or] at hw;obtain ⟨T',x,y,e1,e2,e3,e4,e5,e6⟩:=a;refine .cons ⟨T',x,y,e1,e2,e3,e4,e5,?_⟩ (ih hw.2);rw [Qaq (fun z=>hw.1 (by rw [e1,z]))];exact e6
   obtain ⟨ts,H2,g1,g2,g3,g4,g5⟩:=Qn3 ps _ _ u' x' hnd.2 (go _ _ hnd.1 h2);refine ⟨.ref T::ts,H2,⟨T,ts,rfl,hn,g1⟩,.cons rfl g2,g3,g4,fun b hb=>?_⟩;rw [zd,not_or] at hb;rw [g5 b hb.2,Qaq (fun z=>hb.1 (by rw [z]))]
theorem Qk0 {α β:Type}{R:α→β→Prop}:∀(ps:List α) (vs:List β),ps.length=vs.length→(∀(j:Nat) p v,ps[j]? = some p→vs[j]? = some v→R p v)→Paired R ps vs
 | [],[],_,_=>.nil
 | [],_::_,h,_=>by cases h
 | _::_,[],h,_=>by cases h
 | p::ps,v::vs,h,f=>.cons (f 0 p v rfl rfl) (Qk0 ps vs (Nat.succ.inj h) fun j p v a b=>f (j+1) p v a b)
section
variable {X:Cx}
def tLZ (K:Frag) (ta:TA):TE:=fun σ H Q=>ta σ H fun vs H1=>∃a b xs ys,vs = [.ref a,.ref b]∧SqL K H1 a xs∧SqL K H1 b ys∧∀ts H2,Qpb H1 (xs.zip ys) ts H2→∀l,H2 l=none→Q (.ref l) (upd H2 l (.lst ts))
theorem Qo1 {a b:Expr}{ta:TA}{p p' pos pos':Pos} (hc:X.calm=true) (hgl:Gl X "list") (hml:X.mg "list" = none) (hgz:Gl X "zip") (hmz:X.mg "zip" = none) (ha:PA X [a,b] ta)
  (hs:starEach [a,b] X.env=(false,eval a X.env)::starEach [b] X.env:=by exact Qa0 rfl) (hpl:(backTo pos' (starEach [b] X.env)).any (·.1)=false:=by exact Qbd rfl)
  (he:starEach [.Call (.Name "zip" p') [a,b] [] pos'] X.env=(false,eval (.Call (.Name "zip" p') [a,b] [] pos') X.env)::starEach [] X.env:=by exact Qa0 rfl) :
  PE X (.Call (.Name "list" p) [.Call (.Name "zip" p') [a,b] [] pos'] [] pos) (tLZ X.K ta):=by
 intro pins s σ H Q I h;refine Call_ (QdE I hgl hml QiC (PyProof.Rows.callWith_type1 ?_ he rfl));rw [he];show wpAny _ _ (spliced ((false,eval (.Call (.Name "zip" p') [a,b] [] pos') X.env)::backTo pos (starEach [] X.env))) _ _ s;refine Calls.spliced_cons ?_;refine Call_ (QdE I hgz hmz boot_zip (PyProof.Rows.callWith_type1 (thn (ha pos' pins s σ H _ I h) fun us s1 ⟨vs,H1,I1,r1,q1⟩=>?_) hs hpl));obtain ⟨l1,l2,xs,ys,e,hq1,hq2,q⟩:=q1;subst e;obtain ⟨u1,u2,rfl,ru1,ru2⟩:=vals2 r1;cases ru1;cases ru2;obtain ⟨its1,rv1,pl1,hz1⟩:=I1.list hq1;obtain ⟨its2,rv2,pl2,hz2⟩:=I1.list hq2
 have a1:l1 < s1.heap.objs.size:=by obtain ⟨_,e,_⟩:=pl1.isList; exact zf e
 have a2:l2 < s1.heap.objs.size:=by obtain ⟨_,e,_⟩:=pl2.isList; exact zf e
 have len1:=rv1.length;have len2:=rv2.length
 refine call_zip_2 pl1.isList pl2.isList fun h' hz hTI hTO hit1 hit2 hsz hk=>?_
 refine Calls.spliced_nil ?_;refine Qlk (s:={ s1 with heap:=h' }) (n:=min its1.length its2.length) (I.ok.hd hc) (zipApart_new a1 a2) (by omega) (by rw [zp]; omega) (by rw [zp]; omega) (by rw [zp,zp]; omega) hz hTI hTO hit1 hit2
  (pl1.isList.at fun o e=>hk l1 o e) (pl2.isList.at fun o e=>hk l2 o e) fun h2 acc c kp e1 e2 en e3=>?_
 have k:∀b o,s1.heap.get? b=some o→h2.get? b=some o:=fun b o e=>kp b o (fun hm=>by
  have:=zf e
  simp only [zd,List.not_mem_nil,or_false] at hm
  rcases hm with rfl | rfl | rfl | rfl
  ·exact Nat.not_lt.mpr (jt _ _) this
  ·exact Nat.not_lt.mpr (jt _ _) this
  ·exact zN _ this
  ·exact Nat.not_lt.mpr (jt _ _) this) (hk b o e)
 have hlen:acc.toList.length=(xs.zip ys).length:=by rw [Array.length_toList,e2,List.length_zip]; omega
 have hsz':({ s1 with heap:=h' }:Shared).heap.objs.size=s1.heap.objs.size+5:=hsz
 have hp:Paired (fun (p:V×V) (v:Value)=>∃T x y,v=Value.ref T∧RelV p.1 x∧RelV p.2 y∧IsPair h2 T x y∧s1.heap.objs.size≤T∧H1 T=none) (xs.zip ys) acc.toList:=Qk0 _ _ hlen.symm fun j p v hpj hvj=>by
  obtain ⟨T,x,y,f1,f2,f3,f4,f5,f6⟩:=e3 j v (by simpa using hvj);rw [List.getElem?_zip_eq_some] at hpj;obtain ⟨w1,w1',w2⟩:=rv1.get hpj.1;obtain ⟨w3,w3',w4⟩:=rv2.get hpj.2
  have f2':its1[j]? = some x:=by simpa using f2
  have f3':its2[j]? = some y:=by simpa using f3
  rw [f2'] at w1';rw [f3'] at w3';cases w1';cases w3'
  have hle:s1.heap.objs.size≤T:=by omega
  exact ⟨T,x,y,f1,w2,w4,f4,hle,I1.hok.fresh hle⟩
 obtain ⟨ts,H2,g1,g2,g3,g4,g5⟩:=Qn3 (P:=X.prog) (w:=X.w) (fs:=X.fs) (h:=s1.heap) (xs.zip ys) acc.toList H1 (Un.kept k) (I1.hok.kept k) en hp
 have hSn:H2 ({ s1 with heap:=h' }:Shared).heap.objs.size=none:=by
  rw [g5 _ fun hm=>?_]
  ·exact I1.hok.fresh (by omega)
  ·obtain ⟨j,hj⟩:=List.mem_iff_getElem?.mp hm;obtain ⟨T,x,y,f1,_,_,_,f5,_⟩:=e3 j _ (by simpa using hj);cases f1;exact f5 rfl
 have hts:ts.length≤sizeLine:=by
  have q1:=g2.length;have q2:acc.toList.length=acc.size:=Array.length_toList;omega
 have hok:=g4.more (o:=.lst ts) hSn ⟨hts,acc.toList,c,g2,by rw [Array.toArray_toList]; exact e1⟩;exact ⟨.ref _,upd H2 _ (.lst ts),I1.un (t':=s1.toks) (g3.more (o:=.lst ts) (by omega) hSn) hok,rfl,q ts H2 g1 _ hSn⟩
end
theorem Ql2 {K:Frag}{mg:Str→Option Value}{O:Qac}{as:List Addr}:∀(ds es:List D) (xs ys:List V) (H F:Hp) (ts:List V) (H2:Hp),RlO K mg O H F as→Rps K F as xs ds→Rps K F as ys es→Qpb H (xs.zip ys) ts H2→∃F2,Gr H F as H2 F2 as∧RlO K mg O H2 F2 as∧Rps K F2 as ts (QhK ds es)
 | [],es,xs,ys,H,F,ts,H2,r,h1,h2,g=>by
  rw [h1.un0] at g;obtain ⟨rfl,rfl⟩:=g;exact ⟨F,Gr.refl,r,Rps.nil⟩
 | d::ds,[],xs,ys,H,F,ts,H2,r,h1,h2,g=>by
  rw [h2.un0,List.zip_nil_right] at g;obtain ⟨rfl,rfl⟩:=g;exact ⟨F,Gr.refl,r,Rps.nil⟩
 | d::ds,e::es,xs,ys,H,F,ts,H2,r,h1,h2,g=>by
  obtain ⟨x,xr,rfl,h3,h4⟩:=h1.un;obtain ⟨y,yr,rfl,h5,h6⟩:=h2.un;rw [List.zip_cons_cons] at g;obtain ⟨T,ts',rfl,hp,g⟩:=g;have hF:=r.frF hp
  have ff:Same F (upd F T (.tup [x,y])):=fun b u q=>by rw [Qaq (QaC q hF)]; exact q
  have hs:Rps K F as [x,y] [d,e]:=Rps.cons h3 (Rps.cons h5 Rps.nil);have G1:Gr H F as (upd H T (.tup [x,y])) (upd F T (.tup [x,y])) as:=(Gr.lay hp).frz hp hF;have r1:RlO K mg O (upd H T (.tup [x,y])) (upd F T (.tup [x,y])) as:=(r.lay hp).frz QaE hF (fun z=>r.all z hp) rfl;have rT:Rp K (upd F T (.tup [x,y])) as (.ref T) (.tup [d,e]):=Rp.mkT (.inl QaE) (Rps.mono ff (fun _ _ z=>z) _ hs);obtain ⟨F2,G2,r2,q2⟩:=Ql2 ds es xr yr _ _ ts' H2 r1 (h4.gr G1) (h6.gr G1) g;exact ⟨F2,G1.trans G2,r2,Rps.cons (rT.gr G2) q2⟩
def gLZ:List D→Option D
 | [.lst ds,.lst es]=>some (.lst (QhK ds es))
 | _=>none
section
variable {X:Cx}{md:List Md}{P:Pt}
theorem Qov {a b:Expr}{ms:List Md}{ma:M (List D)}{p p' pos pos':Pos} (hc:X.calm=true) (hml:X.mg "list" = none) (hmz:X.mg "zip" = none) (ha:AE X md P ms [a,b] ma) (hgl:Gl X "list":=by rfl) (hgz:Gl X "zip":=by rfl)
  (hs:starEach [a,b] X.env=(false,eval a X.env)::starEach [b] X.env:=by exact Qa0 rfl) (hpl:(backTo pos' (starEach [b] X.env)).any (·.1)=false:=by exact Qbd rfl)
  (he:starEach [.Call (.Name "zip" p') [a,b] [] pos'] X.env=(false,eval (.Call (.Name "zip" p') [a,b] [] pos') X.env)::starEach [] X.env:=by exact Qa0 rfl) :
  OE X md P (.Call (.Name "list" p) [.Call (.Name "zip" p') [a,b] [] pos'] [] pos) (Qaz gLZ ma):=(Qo1 hc hgl hml hgz hmz ha hs hpl he).imp fun σ H Q q=>by
 have q':tCB (rC X.K X.mg gLZ) (tMA X.K X.mg md P ms ma) σ H Q:=Qhv q;obtain ⟨ρ,O,F,as,ds,O',r,s,e1,k⟩:=q';refine ⟨ρ,O,F,as,ds,O',r,s,e1,fun vs H1 F1 as1 g1 r1 hv=>?_⟩;obtain ⟨O2,F2,as2,es,d,r2,hvs,e,k2⟩:=k vs H1 F1 as1 g1 r1 hv;unfold gLZ at e;split at e
 ·rename_i xs ys;cases e;obtain ⟨v,u,rfl,hv1,hv2⟩:=hvs.two;obtain ⟨a1,x1,rfl,q1,q2⟩:=hv1.list r2.fh;obtain ⟨a2,x2,rfl,q3,q4⟩:=hv2.list r2.fh;refine ⟨a1,a2,x1,x2,rfl,q1.sq,q3.sq,fun ts H2 gr l hl=>?_⟩;obtain ⟨F3,G3,r3,p3⟩:=Ql2 xs ys x1 x2 H1 F2 ts H2 r2 q2 q4 gr;exact k2 _ _ F3 (G3.trans (Gr.lay hl)) (r3.lay hl) (.inr ⟨l,ts,_,rfl,rfl,QaE,r3.frF hl,fun z=>r3.all z hl,G3.dm l hl,p3⟩)
 ·cases e
end
section
end
end L2
namespace L2
open PySem PySem.Spec PyProof.Rows PySem.W
section
variable {X:Cx}{md:List Md}{P:Pt}
end
end L2
namespace L2
open PySem PySem.Spec PyProof.Rows
section
variable {X:Cx}{md:List Md}{P:Pt}{R:RR}
variable {elts:List Expr}{x1:Nat}{tpos:Pos}{a elt:Expr}{ifs:List Expr}{scope:Scope}{p pos pe:Pos}{m:M D}{g:MG}{t:M Bool}{e:M D}
end
def Itv (K:Frag) (a:Addr) (n:Nat):It :=
 ⟨fun i H=>i < n∧∃xs x,SqL K H a xs∧xs[n - 1 - i]? = some x,fun i H x H'=>H'=H∧∀xs,SqL K H a xs→xs[n - 1 - i]? = some x,fun i _=>n≤i⟩
theorem Qsm {P:Program}{w:World}{K:Frag}{tg:Expr} (a it:Addr) (n:Nat):Turn P w K tg (Itv K a n) [it] it (fun i h=>i≤n∧h.IsRevIter it a ((n:Int) - 1 - (i:Int))) where
 mem:=by simp
 obj:=fun i h st b hb=>by
  have e:b=it:=by simpa using hb
  subst e;obtain ⟨_,o,e,c,d⟩:=st;exact ⟨o,e,fun v z=>by rw [d] at z; cases z⟩
 keep:=fun i h h' st k=>⟨st.1,st.2.at fun o e=>k it (by simp) o e⟩
 item:=by
  intro X hP hw hK hc i pins s σ H E I hf st hg;subst hP hw hK;obtain ⟨hi,xs,x,hq,hx⟩:=hg;obtain ⟨its,rv,p,hz⟩:=I.list hq;obtain ⟨u,hu,ru⟩:=rv.get hx;obtain ⟨f0,f1,f2,f3,f4,f5⟩:=hf it (by simp);have hst:=st.2;rw [show (n:Int) - 1 - (i:Int)=((n - 1 - i:Nat):Int) by omega] at hst
  refine wpAny_pyNext_rev_item hst p.isList (x:=u) (by simpa using hu) fun h' st' sb=>?_
  rw [show ((n - 1 - i:Nat):Int) - 1=(n:Int) - 1 - ((i+1:Nat):Int) by omega] at st';have I1:Inv X pins σ H { s with heap:=h' }:=I.turned (t':=s.toks) (fun b o hb e=>(sb.2 b hb).trans e) f0 f1 f3 f4 f5;obtain ⟨o,e,c,d⟩:=id st';exact ⟨u,rfl,Qhq (s:={ s with heap:=h' }) e c d (by decide) ⟨x,H,I1,ru,⟨rfl,fun ys hy=>by rw [I.list_inj hy hq]; exact hx⟩,⟨hi,st'⟩,fun b hb=>(hf b hb).1⟩⟩
 done:=by
  intro X hP hw hK hc i pins s σ H E I hf st hg;subst hP hw hK;have hg':n≤i:=hg;obtain ⟨f0,f1,f2,f3,f4,f5⟩:=hf it (by simp);have hst:=st.2;have h1:=st.1;rw [show (n:Int) - 1 - (i:Int) = -1 by omega] at hst
  exact wpAny_pyNext_rev_end (I.ok.hd hc) hst fun h' eb=>⟨rfl,I.turned (t':=s.toks) (fun b o hb e=>eb b o hb e) f0 f1 f3 f4 f5⟩
 self:=fun _ _ _ _ _ st h=>wpAny_pyIter_revIter st.2 h
section
variable {X:Cx}{md:List Md}{P:Pt}{R:RR}{tg:Expr}
theorem boot_reversed:bootBuiltins "reversed" = some (.type "reversed"):=by decide +kernel
def Qyo (K:Frag) (ta:TA):TI:=fun σ H R=>ta σ H fun vs H1=>∃a xs,vs = [.ref a]∧SqL K H1 a xs∧R (Itv K a xs.length) H1
theorem Qv1 {a:Expr}{ta:TA}{p pos:Pos} (hg:Gl X "reversed") (hm:X.mg "reversed" = none) (ha:PA X [a] ta) (hs:starEach [a] X.env = [(false,eval a X.env)]:=by exact Qj4 rfl) :
  PI X tg (.Call (.Name "reversed" p) [a] [] pos) (Qyo X.K ta):=by
 intro pins s σ H R I h;refine Call_ (QdE I hg hm boot_reversed (PyProof.Rows.callWith_type1 (thn (ha pos pins s σ H _ I h) fun us s1 ⟨vs,H1,I1,r1,q1⟩=>?_) hs rfl));obtain ⟨l,xs,e,hq,q⟩:=q1;subst e;obtain ⟨u,rfl,ru⟩:=vals1 r1;cases ru;obtain ⟨its,rv,pl,hz⟩:=I1.list hq
 have hl:its.toArray.size=xs.length:=by rw [zp]; exact rv.length.symm
 refine call_reversed_list pl.isList ?_;rw [hl]
 have hit:(s1.heap.push (revObj l ((xs.length:Int) - 1))).IsRevIter s1.heap.objs.size l ((xs.length:Int) - 1 - ((0:Nat):Int)):=by
  rw [show (xs.length:Int) - 1 - ((0:Nat):Int)=(xs.length:Int) - 1 by omega];exact ⟨_,zw _ rfl,rfl,rfl⟩
 refine wpAny_pyIter_revIter (s:={ s1 with heap:=s1.heap.push (revObj l ((xs.length:Int) - 1)) }) hit ?_;refine ⟨s1.heap.objs.size,[s1.heap.objs.size],_,_,H1,rfl,I1.kept (t':=s1.toks) (fun b o e=>zn _ e),Qsm l s1.heap.objs.size xs.length,⟨Nat.zero_le _,hit⟩,fun b hb=>?_,q⟩
 have hb':s1.heap.objs.size≤b:=by rw [zr.mp hb]; exact ze _
 exact I1.fpOk hb' (I1.hok.fresh hb')
def QoB (m:M D):M (List D):=fun ρ O=>(m ρ O).bind fun d O1=>match d with
 | .lst ds=>.ok ds.reverse O1
 | _=>.no
theorem Qvc {a:Expr}{p pos:Pos}{m:M D} (hm:X.mg "reversed" = none) (h:WE X md P a m) (hg:Gl X "reversed":=by rfl) (hs:starEach [a] X.env = [(false,eval a X.env)]:=by exact Qj4 rfl) (hs':starEach [a] X.env=(false,eval a X.env)::starEach [] X.env:=by exact Qa0 rfl) :
  VI X md P tg (.Call (.Name "reversed" p) [a] [] pos) (QoB m):=(Qv1 hg hm (Qcm h Qd2 hs') hs).imp fun σ H Q q=>by
 obtain ⟨ρ,O,F,as,ds,O',r,s,e,k⟩:=q;obtain ⟨d,O1,e1,e⟩:=Res.bind_ok e
 cases d with
 | lst es =>
  cases e;refine ⟨ρ,_,F,as,_,_,r,s,e1,fun v H1 F1 as1 g1 r1 hv=>?_⟩;obtain ⟨a,xs,rfl,h1,h2⟩:=QsM (mg:=X.mg) hv;have hl:xs.length=es.length:=h1.length;refine ⟨a,xs,rfl,(h2 H1 F1 as1 GrS.refl ⟨_,r1⟩).sq,k _ H1 F1 as1 g1 r1 ⟨fun i d H2 F2 as2 g r e=>?_,fun H2 F2 as2 g r=>by show xs.length≤_; rw [List.length_reverse,hl]; exact ze _⟩⟩
  have hi:i < es.length:=by
   have:=(zk.mp e).1
   rwa [List.length_reverse] at this
  rw [List.getElem?_reverse hi,←hl] at e;obtain ⟨x,h3,h4⟩:=h1.get' e;have hq:=h2 H2 F2 as2 g r;refine ⟨⟨by omega,xs,x,hq.sq,h3⟩,fun y H3 hy=>?_⟩;obtain ⟨rfl,hy⟩:=hy
  have:=hy xs hq.sq
  rw [h3] at this;cases this;exact ⟨F2,Gr.refl,fun _ r=>r,h4.grS g⟩
 | _=>cases e
theorem QnF (i:Int) (h:0≤i):Str.ofString (toString i)=S ((Nat.toDigits 10 i.toNat).map Char.toNat):=by
 obtain ⟨m,rfl⟩:∃m:Nat,i=(m:Int):=⟨i.toNat,(Int.toNat_of_nonneg h).symm⟩;rw [Int.toNat_natCast,←PySem.W.KIN.signs_num m,Qx7]
def Qkr:List D→Option D
 | [.int i]=>if 0≤i∧i < 1000000000 then some (.str ((Nat.toDigits 10 i.toNat).map Char.toNat)) else none
 | _=>none
theorem Qu5:QfC X (.type "str") Qkr:=by
 intro pins s σ H xs us Q I rs h;obtain ⟨O,F,as,ds,d,r,hvs,e,k⟩:=h;unfold Qkr at e;split at e
 ·rename_i i;split at e
  ·rename_i hi;obtain ⟨v,rfl,hv⟩:=hvs.one;cases e;cases (hv.rp rfl).unI;refine QlB pins s σ H _ us Q I rs ⟨i,rfl,shown (N:=2 ^ 1920) (by omega) (by omega) (Int.le_refl _),?_⟩;have z:=QnF i hi.1;refine Qbf (v:=.str (Str.ofString (toString i))) r k rfl ?_;rw [z];exact Rp.str
  ·cases e
 ·cases e
end
structure Qbr (mg:Str→Option Value):Prop extends Qvq mg where
 reversed_:mg "reversed" = none
end L2
namespace L2
open PySem PySem.Spec PyProof.Rows PySem.W
def mdI:Option Int→List Int→Option Int
 | b,[]=>b
 | none,n::r=>mdI (some n) r
 | some m,n::r=>mdI (some (if n < m then n else m)) r
def MdV (d v:Value):Option Int→Prop
 | none=>v=d
 | some m=>∃t,v = .int m t
def MdB (bs:Array Value):Option Int→Prop
 | none=>bs = #[]
 | some m=>∃t,bs = #[.int m t,.int m t]
section
variable {prog:Program}{w:World}{A:Around}{E:Value→Shared→Prop}
theorem QxO {id:String}{b:Builtin}{as:List Value}{kw:List (Str×Value)}{s:Shared}{Q:Value→Shared→Prop} (k0:builtinKind id=none) (p0:plainId id=true) (b0:entryFor table id=some b) (a0:argsOk id ⟨as,kw⟩)
  (c0:wpAny (model prog w) A.in1 (b ⟨as,kw⟩) (fun fin s'=>match fin with
   | .done f=>(match (Except.ok f:Result) with | .ok (.ret v)=>Q v s' | .ok _=>False | .error e=>E e s')
   | .again c=>c.quiet=true∧codeAny (model prog w) A c (fun r s'=>match r with | .ok (.ret v)=>Q v s' | .ok _=>False | .error e=>E e s') s') E s) :
  wpAny (model prog w) A (call (.builtin id) as kw) Q E s:=by
 refine jj (codeAny_call_builtin p0 b0 ?_);simp only [checkBuiltinCall,k0]
 cases g0:Manifest.signature? id with
 | none=>exact zb c0
 | some sg =>
  simp only [argsOk,g0] at a0;have z:Bind.checkArgs id sg ⟨as,kw⟩=pure ():=a0;show wpAny _ A.in1 (Bind.checkArgs id sg ⟨as,kw⟩) _ _ s;rw [z];exact zb c0
theorem QuR {n m:Int}{t u:Tok}{s:Shared}{Q:Value→Shared→Prop} (q:Q (.bool (decide (n < m))) s):wpAny (model prog w) A (richCompare .Lt (.int n t) (.int m u)) Q E s :=
 CmpOf.ints_lt (A:=A) (P:=fun i v=>∃t,v = .int (if i=0 then n else m) t) (fun i=>if i=0 then n else m) (fun _ _ z=>z) 0 1 _ _ s Q E ⟨t,rfl⟩ ⟨u,rfl⟩ q
theorem Qt0 {R:Result→Shared→Prop}{l i0 S:Addr}{its:List Value}{d:Value} (hh:A.in1.handled=none) (n1:l≠i0) (n2:S≠i0) (n3:S≠l) :
  ∀(us:List Value) (ns:List Int) (pre:List Value) (b:Option Int) (bs:Array Value) (s:Shared) (c:Nat),its=pre++us→Qay (ns.map V.int) us→s.heap.IsListIter i0 l pre.length→s.heap.IsList l its.toArray→MdB bs b →
   s.heap.get? S=some { cls:=.type "list",dict:=none,data:=.seq bs c,slots:=#[] } →
   (∀v h' tk,MdV d v (mdI b ns)→(∀x o,x≠i0→x≠S→s.heap.get? x=some o→h'.get? x=some o)→R (.ok (.ret v)) { s with heap:=h',toks:=tk }) →
   codeAny (model prog w) A (.builtin "min.loop" ⟨[.ref i0,.none,.ref S],[("default",d)]⟩) R s:=by
 have W:=Walks.list (prog:=prog) (w:=w) hh i0 l n1 its.toArray
 have nm:(toString "min" ++ toString ".loop":String) = "min.loop":=by decide
 have nS:S∉[i0]:=fun z=>n2 (zr.mp z)
 have ni:∀x:Addr,x≠i0→x∉[i0]:=fun x z y=>z (zr.mp y)
 intro us
 induction us with
 | nil =>
  intro ns pre b bs s c e rv it hl hb hS hR
  have ens:ns = []:=by
   cases ns with
   | nil=>rfl
   | cons=>cases rv
  subst ens
  have el:pre.length=its.toArray.size:=by rw [e]; simp
  rw [el] at it;refine zZ PySem.F.entry_min_loop ?_;rw [Around.under_plainId PySem.F.plain_min_loop _];show wpAny _ A.in1 (seqItems? (.ref S) >>= _) _ _ s;refine za (wpAny_seqItems hS rfl ?_);show wpAny _ A.in1 (tryCatch (pyNext (.ref i0)) _ >>= _) _ _ s;refine za (wpAny_tryCatch (W.done s _ _ ⟨it,hl⟩ fun h1 tk kp=>?_));have hS1:=kp S _ nS hS
  cases b with
  | none =>
   have hb':bs = #[]:=hb;subst hb';show wpAny _ A.in1 (rule _ >>= _) _ _ _;refine za (zY ?_);exact zb (hR d h1 tk rfl fun x o z1 z2 q=>kp x o (ni x z1) q)
  | some m =>
   obtain ⟨t,hb'⟩:=hb;subst hb';show wpAny _ A.in1 (updateSeq S (fun _=>#[]) >>= _) _ _ _;refine za ?_;refine je hS1 rfl (za (jo (zb ?_)))
   exact hR (.int m t) _ tk ⟨t,rfl⟩ fun x o z1 z2 q=>(jl _ _ (Ne.symm z2)).trans (kp x o (ni x z1) q)
 | cons u us ih =>
  intro ns pre b bs s c e rv it hl hb hS hR
  cases ns with
  | nil=>cases rv
  | cons n ns =>
   have rv':Qay (V.int n::ns.map V.int) (u::us):=rv
   obtain ⟨ru,rus⟩:RelV (.int n) u∧Qay (ns.map V.int) us:=by
    cases rv' with
    | cons a b=>exact ⟨a,b⟩
   obtain ⟨tu,rfl⟩:=ru
   have el:pre.length < its.toArray.size:=by rw [e]; simp
   have e':its=(pre ++ [Value.int n tu])++us:=by rw [e]; simp
   have eg:its.toArray[pre.length]? = some (Value.int n tu):=by rw [e]; simp
   refine zZ PySem.F.entry_min_loop ?_;rw [Around.under_plainId PySem.F.plain_min_loop _];show wpAny _ A.in1 (seqItems? (.ref S) >>= _) _ _ s;refine za (wpAny_seqItems hS rfl ?_);show wpAny _ A.in1 (tryCatch (pyNext (.ref i0)) _ >>= _) _ _ s;refine za (wpAny_tryCatch (W.item pre.length s _ _ el ⟨it,hl⟩ fun v h1 tk hv st kp=>?_));rw [eg] at hv;cases hv;have hS1:=kp S _ nS hS
   have upd1:∀(h2:Heap) (y:Addr) (o:Obj),y≠S→h2.get? y=some o→∀f,(h2.update S f).get? y=some o:=fun h2 y o z q f=>(jl _ _ (Ne.symm z)).trans q
   have go:∀(b2:Option Int) (bs2:Array Value) (h2:Heap) (tk2:Nat) (c2:Nat),MdB bs2 b2→mdI b2 ns=mdI b (n::ns)→h2.get? S=some { cls:=.type "list",dict:=none,data:=.seq bs2 c2,slots:=#[] } →
     (∀x o,x≠S→h1.get? x=some o→h2.get? x=some o)→codeAny (model prog w) A (.builtin "min.loop" ⟨[.ref i0,.none,.ref S],[("default",d)]⟩) R { s with heap:=h2,toks:=tk2 }:=fun b2 bs2 h2 tk2 c2 q1 q2 q3 q4=>by
    have st2:=W.frame _ h1 h2 st fun x hx o q=>q4 x o (fun z=>by
     rcases zd.mp hx with rfl | hx
     ·exact n2 z.symm
     ·rcases zd.mp hx with rfl | hx
      ·exact n3 z.symm
      ·cases hx) q
    refine ih ns (pre ++ [Value.int n tu]) b2 bs2 _ c2 e' rus (by rw [zA]; exact st2.1) st2.2 q1 q3 fun v h3 tk3 z1 z2=>?_
    exact hR v h3 tk3 (q2 ▸ z1) fun x o y1 y2 q=>z2 x o y1 y2 (q4 x o y2 (kp x o (ni x y1) q))
   cases b with
   | none =>
    have hb':bs = #[]:=hb;subst hb';show wpAny _ A.in1 (updateSeq S (fun _=>#[Value.int n tu,Value.int n tu]) >>= _) _ _ _;refine za ?_;refine je hS1 rfl ?_;rw [nm];exact zb ⟨plainId_quiet PySem.F.plain_min_loop _,go (some n) _ _ _ _ ⟨tu,rfl⟩ rfl (Heap.get?_update_self _ hS1 rfl) fun x o z q=>upd1 _ x o z q _⟩
   | some m =>
    obtain ⟨t,hb'⟩:=hb;subst hb';show wpAny _ A.in1 (tryCatch (holding [Value.int n tu,Value.int n tu] (richCompare .Lt (.int n tu) (.int m t) >>= _)) _ >>= _) _ _ _;refine za (wpAny_tryCatch (zH (za (QuR ?_))));refine za (zH (wpAny_truthy_bool ?_));refine za (jo (zb ?_))
    by_cases hlt:n < m
    ·rw [zo hlt];simp only [if_true];refine za ?_;refine je hS1 rfl (za (jo ?_));rw [nm];exact zb ⟨plainId_quiet PySem.F.plain_min_loop _,go (some n) _ _ _ _ ⟨tu,rfl⟩ (by show _=mdI (some (if n < m then n else m)) ns; rw [if_pos hlt]) (Heap.get?_update_self _ hS1 rfl) fun x o z q=>upd1 _ x o z q _⟩
    ·rw [zj hlt];simp only [Bool.false_eq_true,if_false];refine za (jo ?_);rw [nm];exact zb ⟨plainId_quiet PySem.F.plain_min_loop _,go (some m) _ _ _ _ ⟨t,rfl⟩ (by show _=mdI (some (if n < m then n else m)) ns; rw [if_neg hlt]) hS1 fun x o z q=>q⟩
end
section
variable {X:Cx}{md:List Md}{P:Pt}{R:RR}
def tsF (n:Nat) (y:D) (O:Qac):Res D:=match QlO y,O[n]? with
 | some k,some (.dt kvs)=>match QeJ kvs k with
  | some d=>.ok d O
  | none=>.no
 | _,_=>.no
def QsO (mo my:M D):M D:=fun ρ O=>(mo ρ O).bind fun x O1=>match x with
 | .ob n=>(my ρ O1).bind fun y O2=>tsF n y O2
 | _=>.no
theorem QtO {kk:Nat} (hk:Qbb X.K=true) (hr:QaS kk X.A) {o i:Expr}{pos:Pos}{mo my:M D} (ho:VE X md P o mo) (hi:VE X md P i my) (hs:QiD i:=by intro _ _; rfl):VE X md P (.Subscript o i pos) (QsO mo my) :=
 (Qnx (Qoq hr) ho hi hs).imp fun σ H Q q=>by
  obtain ⟨ρ,O,F,as,d,O',r,s,e,k⟩:=q;obtain ⟨x,O1,e1,e⟩:=Res.bind_ok e
  cases x with
  | ob n =>
   obtain ⟨y,O2,e2,e⟩:=Res.bind_ok e;unfold tsF at e;split at e
   ·rename_i ks kvs e3 e4;split at e
    ·rename_i d' e5;cases e;refine ⟨ρ,_,F,as,_,_,r,s,e1,fun x H1 F1 as1 g1 r1 hx=>⟨ρ,_,F1,as1,_,_,r1,s.step g1,e2,fun u H2 F2 as2 g2 r2 hu=>?_⟩⟩;obtain ⟨a,rfl,ha⟩:=Rp.unO hx;obtain ⟨xs,x1,x2⟩:=r2.dt (g2.at_ n a ha) e4;obtain ⟨b,rfl,hb⟩:=Rp.tkey hk hu e3
     rcases x2.val (k:=ks) with ⟨z1,z2⟩ | ⟨d2,v',z1,z2,z3⟩
     ·rw [z1] at e5; cases e5
     ·rw [z1] at e5;cases e5;refine ⟨a,v',rfl,?_,k _ H2 F2 as2 (g1.trans g2) r2 z3⟩;rw [←z2];exact QhV.t x1 (r2.fh _ _ hb)
    ·cases e
   ·cases e
  | _=>cases e
def Qll:List D→Option D
 | [.lst ds]=>(Qdp ds).map fun ns=>match mdI none ns with
  | some m=>.int m
  | none=>.non
 | _=>none
theorem Qpq (a d:Value):argsOk "min" ⟨[a],[("default",d)]⟩:=by unfold argsOk; kernel_rfl
theorem QpP (hc:X.calm=true) {pins:List (Addr×Obj)}{s:Shared}{σ:St}{H:Hp}{a:Addr}{ns:List Int}{Q:VK} (I:Inv X pins σ H s) (hq:SqL X.K H a (ns.map V.int)) (q:Q (match mdI none ns with | some m=>.int m | none=>.non) H) :
  wpAny (model X.prog X.w) X.A (call (.builtin "min") [.ref a] [("default",.none)]) (EP X pins σ Q) X.xe s:=by
 obtain ⟨its,rv,pl,_⟩:=I.list hq;have hl:=pl.isList
 have la:a < s.heap.objs.size:=by obtain ⟨_,z,_⟩:=hl; exact zf z
 refine QxO PySem.F.kind_min PySem.F.plain_min PySem.F.entry_min (Qpq _ _) ?_;show wpAny _ X.A.in1 (Builtin.Builtins.bindParams "min" ["key","default"] 0 ⟨[],[("default",.none)]⟩ >>= _) _ _ s;refine za (jm (show _=pure [none,some Value.none] from rfl) ?_);refine za (zb ?_);refine za (wpAny_pyIter_list hl ?_);refine za (wpAny_newObj_type ?_);rw [show (toString "min" ++ toString ".loop":String) = "min.loop" by decide];have sz:(s.heap.push { cls:=.type "list_iterator",data:=.fields #[.ref a,.int 0 0] }).objs.size=s.heap.objs.size+1:=Heap.size_push ..
 refine zb ⟨plainId_quiet PySem.F.plain_min_loop _,Qt0 (its:=its) (l:=a) (i0:=s.heap.objs.size) (d:=.none) (I.ok.hd hc) (zt la) (Nat.ne_of_gt (by rw [sz]; exact ji _)) (Nat.ne_of_gt (by rw [sz]; exact jg la)) its ns [] none #[] _ 0 rfl rv
  ⟨_,zn _ (zw _ rfl),rfl,rfl⟩ ((hl.push _).push _) rfl (zw _ rfl) fun v h1 tk hv kp=>?_⟩
 have kk:∀b o,s.heap.get? b=some o→h1.get? b=some o:=fun b o z=>kp b o (zt (zf z)) (zt (by rw [sz]; exact jg (zf z))) (zn _ (zn _ z))
 refine ⟨_,H,I.kept (t':=tk) kk,?_,q⟩
 cases e:mdI none ns with
 | none =>
  rw [e] at hv;exact hv
 | some m =>
  rw [e] at hv;exact hv
theorem Qtu {p pos p2 p3:Pos}{j:Nat}{e:Expr}{m:M D} (hc:X.calm=true) (hm:X.mg "min" = none) (ha:SE X md P e m) (hg:Gl X "min":=by rfl) (hs:starEach [e] X.env=(false,eval e X.env)::starEach [] X.env:=by exact Qa0 rfl) (hpl:(backTo pos (starEach [e] X.env)).any (·.1)=false:=by exact Qbd rfl)
  (he:backTo pos (starEach [e] X.env)=(false,eval e X.env)::backTo pos (starEach [] X.env):=by rfl) :
  OE X md P (.Call (.Name "min" p) [e] [⟨some "default",.Constant .none j p2,p3⟩] pos) (Qaz Qll (Qaa m Qae)):=by
 intro pins s σ H Q I q;refine wpAny_Call_Name_kw (QdE I hg hm boot_min ?_ (by decide) (by decide));have q':=Qhv (ms:=[.s]) q;refine callWith_kw (thn ((Qap ha Qal hs) pos pins s σ H _ I q') fun us s1 ⟨vs,H1,I1,r1,q1⟩=>?_) he hpl;refine kws_cons (Constant_none (kws_nil ?_));obtain ⟨O,F,as,ds,d,r,hvs,e,k⟩:=q1;unfold Qll at e;split at e
 ·rename_i es;obtain ⟨v,rfl,hv⟩:=hvs.one;obtain ⟨a,xs,rfl,h1,h2⟩:=hv.list r.fh;obtain ⟨u,rfl,ru⟩:=vals1 r1;cases ru
  cases hi:Qdp es with
  | none=>rw [hi] at e; cases e
  | some ns =>
   rw [hi] at e;cases e;have hx:=h2.ints hi;refine QpP hc I1 (ns:=ns) (by rw [←hx]; exact h1.sq) ?_
   cases em:mdI none ns with
   | none =>
    dsimp only at k;rw [em] at k;exact Qbf r k rfl Rp.non
   | some m =>
    dsimp only at k;rw [em] at k;exact Qbf r k rfl Rp.int
 ·cases e
end
def Itd (lo:Int) (n:Nat):It:=⟨fun i _=>i < n,fun i H x H'=>H'=H∧x = .int (lo - i),fun i _=>n≤i⟩
def QcF (lo:Int) (n:Nat):List D:=(List.range n).map fun i:Nat=>.int (lo - i)
theorem Qqz {P:Program}{w:World}{K:PySem.W.Frag}{tg:Expr} (it:Addr) (lo:Int) (n:Nat):Turn P w K tg (Itd lo n) [it] it (fun i h=>IsRangeIter h it (lo+(i:Nat) * (-1)) ((n:Int) - (i:Nat)) (-1)) where
 mem:=by simp
 obj:=fun i h st b hb=>by
  have e:b=it:=by simpa using hb
  subst e
  exact ⟨_,st,fun v z=>by
   have z':Data.fields _=Data.cell v:=z
   cases z'⟩
 keep:=fun i h h' st k=>k it (by simp) _ st
 item:=by
  intro X hP hw hK hc i pins s σ H E I hf st hg;subst hP hw hK;obtain ⟨f0,f1,f2,f3,f4,f5⟩:=hf it (by simp);have W:=Walks.range (prog:=X.prog) (w:=X.w) (I.ok.hd hc) it lo (-1) n
  refine W.item i s _ _ hg st fun v h' tk hv st' kk=>?_
  obtain ⟨t,rfl⟩:=hv;have I1:Inv X pins σ H { s with heap:=h',toks:=tk }:=I.turned (fun b o hb e=>kk b o (by simpa using hb) e) f0 f1 f3 f4 f5;refine ⟨_,rfl,Qhq (s:={ s with heap:=h',toks:=tk }) (n:="range_iterator") st' rfl rfl (by decide) ⟨.int (lo - i),H,I1,⟨t,?_⟩,⟨rfl,rfl⟩,st',fun b hb=>(hf b hb).1⟩⟩;rw [show lo+(i:Int) * (-1)=lo - i by omega]
 done:=by
  intro X hP hw hK hc i pins s σ H E I hf st hg;subst hP hw hK;obtain ⟨f0,f1,f2,f3,f4,f5⟩:=hf it (by simp)
  exact wpAny_pyNext_range_end (I.ok.hd hc) st (by have:n≤i:=hg; omega) fun h' eb=>⟨rfl,I.turned (t':=s.toks) (fun b o hb e=>eb b o hb e) f0 f1 f3 f4 f5⟩
 self:=fun _ _ _ _ _ st h=>wpAny_pyIter_rangeiter st h
section
variable {X:Cx}{tg:Expr}{md:List Md}{P:Pt}
theorem QkS (a b:Int):Builtin.Range.rangeSize a b (-1)=if a > b then a - b else 0:=by
 unfold Builtin.Range.rangeSize;rw [if_neg (by decide)]
 split
 ·rw [show (-(-1:Int))=1 by decide,Int.ediv_one];omega
 ·rfl
theorem small_down {a b:Int} (ha:-(2 ^ 62)≤a) (ha':a < 2 ^ 62) (hb:-(2 ^ 62)≤b) (hb':b < 2 ^ 62):Builtin.Range.small a b (-1)=true:=by
 unfold Builtin.Range.small;rw [QkS];simp only [Builtin.Range.rangeFitsLong,zm,Bool.or_eq_true,decide_eq_true_eq,beq_iff_eq,show ¬((-1:Int) > 0) by decide,if_false]
 split <;> omega
def Qxq (ta:TA):TI:=fun σ H R=>ta σ H fun vs H1=>∃i j:Int,vs = [.int i,.int j,.int (-1)]∧(-(2 ^ 62)≤i∧i < 2 ^ 62∧-(2 ^ 62)≤j∧j < 2 ^ 62)∧R (Itd i (i - j).toNat) H1
theorem Qtn {a b c:Expr}{ta:TA}{p pos:Pos} (hg:Gl X "range") (hm:X.mg "range" = none) (ha:PA X [a,b,c] ta) (hs:starEach [a,b,c] X.env = [(false,eval a X.env),(false,eval b X.env),(false,eval c X.env)]:=by rfl) (hs2:starEach [b,c] X.env = [(false,eval b X.env),(false,eval c X.env)]:=by rfl) :
  PI X tg (.Call (.Name "range" p) [a,b,c] [] pos) (Qxq ta):=by
 intro pins s σ H R I h;refine Call_ (QdE I hg hm boot_range (PyProof.Rows.callWith_type1 (thn (ha pos pins s σ H _ I h) fun us s1 ⟨vs,H1,I1,r1,q1⟩=>?_) (by rw [hs,hs2]) (by rw [hs2]; rfl)));obtain ⟨lo,hi,e,⟨h1,h2,h3,h4⟩,q⟩:=q1;subst e
 cases r1 with
 | cons r rr =>
  cases rr with
  | cons r' rr =>
   cases rr with
   | cons r'' rr =>
    cases rr;obtain ⟨t,rfl⟩:=r;obtain ⟨u,rfl⟩:=r';obtain ⟨v,rfl⟩:=r'';refine call_range_3 (by decide) ?_ (Or.inl (PyProof.noPylong_small (by omega)));refine wpAny_pyIter_range (IsRange.new ..) (small_down h1 h2 h3 h4) ?_
    have J:Inv X pins σ H1 { s1 with heap:=s1.heap.push { cls:=.type "range",data:=.fields #[.int lo t,.int hi u,.int (-1) v] },toks:=s1.toks }:=I1.kept fun b o e=>zn _ e
    refine ⟨(s1.heap.push { cls:=.type "range",data:=.fields #[.int lo t,.int hi u,.int (-1) v] }).objs.size,[(s1.heap.push { cls:=.type "range",data:=.fields #[.int lo t,.int hi u,.int (-1) v] }).objs.size],_,_,H1,rfl,
     J.kept (t':=s1.toks) fun b o e=>zn _ e,Qqz _ lo (lo - hi).toNat,?_,fun b hb=>?_,q⟩
    ·have e1:lo+((0:Nat):Int) * (-1)=lo:=by simp
     have e2:(((lo - hi).toNat:Nat):Int) - ((0:Nat):Int)=Builtin.Range.rangeSize lo hi (-1):=by rw [QkS]; split <;> omega
     show IsRangeIter _ _ (lo+((0:Nat):Int) * (-1)) ((((lo - hi).toNat:Nat):Int) - ((0:Nat):Int)) (-1);rw [e1,e2];exact zw _ rfl
    ·have e:b=(s1.heap.push { cls:=.type "range",data:=.fields #[.int lo t,.int hi u,.int (-1) v] }).objs.size:=by simpa using hb
     subst e;exact J.fpOk (ze _) (J.hok.fresh (ze _))
theorem Qre {K:Frag}{mg:Str→Option Value}{lo:Int}{n:Nat}{H F:Hp}{as:List Addr}:JOk K mg P (Itd lo n) (QcF lo n) H F as:=Qi6 (fun i d H2 e=>by
 unfold QcF at e;rw [zx] at e
 by_cases hi:i < n
 ·rw [List.getElem?_range hi] at e;cases e;refine ⟨hi,fun x H3 y=>?_⟩;obtain ⟨e1,rfl⟩:=y;exact ⟨e1,fun _ _ _=>Rp.int⟩
 ·rw [List.getElem?_eq_none (by simpa using hi)] at e
  cases e) fun H2=>by simp [QcF,Itd]
def Qlw (m:M (List D)):M (List D):=fun ρ O=>(m ρ O).bind fun ds O1=>match ds with
 | [.int i,.int j,.int c]=>if c = -1∧i≤1000000000∧-1000000000≤i∧j≤1000000000∧-1000000000≤j then .ok (QcF i (i - j).toNat) O1 else .no
 | _=>.no
theorem Qbp.three {K:Frag}{H F:Hp}{as:List Addr}{m1 m2 m3:Md}{vs:List V}{d e f:D} (h:Qbp K H F as [m1,m2,m3] vs [d,e,f]):∃v u z,vs = [v,u,z]∧rA K m1 (fun _=>True) H F as v d∧rA K m2 (fun _=>True) H F as u e∧rA K m3 (fun _=>True) H F as z f:=by
 cases vs with
 | nil=>exact h.elim
 | cons v vs =>
  obtain ⟨h1,h2⟩:=h;obtain ⟨u,z,rfl,h3,h4⟩:=Qbp.two h2;exact ⟨v,u,z,rfl,h1,h3,h4⟩
theorem Qtq {a b c:Expr}{p pos:Pos}{m:M (List D)} (hm:X.mg "range" = none) (ha:AE X md P [.s,.s,.s] [a,b,c] m) (hg:Gl X "range":=by rfl) (hs:starEach [a,b,c] X.env = [(false,eval a X.env),(false,eval b X.env),(false,eval c X.env)]:=by rfl) (hs2:starEach [b,c] X.env = [(false,eval b X.env),(false,eval c X.env)]:=by rfl) :
  VI X md P tg (.Call (.Name "range" p) [a,b,c] [] pos) (Qlw m):=(Qtn hg hm ha hs hs2).imp fun σ H Q q=>by
 obtain ⟨ρ,O,F,as,ds,O',r,s,e,k⟩:=q;obtain ⟨es,O1,e1,e⟩:=Res.bind_ok e;split at e
 ·rename_i i j c;split at e
  ·rename_i hj;cases e;obtain ⟨rfl,hj⟩:=hj;refine ⟨ρ,_,F,as,_,_,r,s,e1,fun vs H1 F1 as1 g1 r1 hv=>?_⟩;obtain ⟨v,u,z,rfl,hv1,hu,hz⟩:=hv.three;have e3:=(Sv.rp hv1 rfl).unI;have e4:=(Sv.rp hu rfl).unI;have e5:=(Sv.rp hz rfl).unI;subst e3 e4 e5;exact ⟨i,j,rfl,⟨by omega,by omega,by omega,by omega⟩,k _ H1 F1 as1 g1 r1 Qre⟩
  ·cases e
 ·cases e
end
section
variable {X:Cx}{pins:List (Addr×Obj)}{σ:List (Option V)}{H:Hp}{s:Shared}{a:Addr}{xs:List (List Key×V)}{o:Obj}
theorem Inv.reword {u:HO} (I:Inv X pins σ H s) (ha:H a≠none) (hn:∀ys,H a≠some (.tup ys)) (ho:∀y,H a≠some (.own y)) (hb:∀ps,H a≠some (.tbl ps)) (hf:∀o u,X.H₀ a≠some (.frz o u)) (new:Qbc X.prog X.w (upd H a u) s.heap a u):Inv X pins σ (upd H a u) s where
 ok:=I.ok
 os:=I.os
 bare:=I.bare
 base:={
  keep:=I.base.keep
  slot:=I.base.slot
  free:=fun b o' q n hx=>by
   have z:=I.base.free b o' q n hx;rw [Qaq (by intro e; have w:=z; rw [e] at w; exact ha w)];exact z
  there:=I.base.there
  tups:=fun b ys q=>by
   have z:=I.base.tups b ys q;rw [Qaq (by intro e; have w:=z; rw [e] at w; exact hn ys w)];exact z
  frzs:=fun b o' u' q=>by
   have z:=I.base.frzs b o' u' q;rw [Qaq (by intro e; have w:=q; rw [e] at w; exact hf o' u' w)];exact z
  tbls:=fun b ps q=>by
   obtain ⟨m,z⟩:=I.base.tbls b ps q
   exact ⟨m,by rw [Qaq (by intro e; have w:=z; rw [e] at w; exact hb _ w)]; exact z⟩ }
 loc:=I.loc
 cell:=I.cell
 free:=by rw [Qaq (by intro e; have w:=I.free; rw [e] at w; exact ha w)]; exact I.free
 freeC:=fun x c q=>by rw [Qaq (by intro e; have w:=I.freeC x c q; rw [e] at w; exact ha w)]; exact I.freeC x c q
 pin:=fun p hp=>by
  obtain ⟨h1,h2,h3,h4,h5⟩:=I.pin p hp;exact ⟨h1,by rw [Qaq (by intro e; have w:=h2; rw [e] at w; exact ha w)]; exact h2,h3,h4,h5⟩
 hok:=fun b u' q=>by
  by_cases e:b=a
  ·subst e;rw [QaE] at q;cases q;exact new
  ·rw [Qaq e] at q
   exact (I.hok b u' q).stay (fun _ _ _ z=>z) (fun c z=>by rw [Qaq (by intro e; have w:=z; rw [e] at w; exact ho b w)]; exact z) fun c ys z=>by rw [Qaq (by intro e; have w:=z; rw [e] at w; exact hn ys w)]; exact z
 len:=I.len
theorem Inv.base0 (I:Inv X pins σ H s) (e:H a=some (.dT xs)):∀o u,X.H₀ a≠some (.frz o u):=fun o u z=>by
 have:=I.base.frzs a o u z
 rw [e] at this;cases this
theorem Inv.freeze (I:Inv X pins σ H s) (e:H a=some (.dT xs)):∃o,s.heap.get? a=some o∧Inv X pins σ (upd H a (.frz o (.dT xs))) s:=by
 have hx:=I.hok a _ e
 obtain ⟨o,ho⟩:∃u,s.heap.get? a=some u:=by
  obtain ⟨_,_,_,_,_,_,_,z,_⟩:=hx;exact ⟨_,z⟩
 refine ⟨o,ho,I.reword (by rw [e]; exact fun z=>nomatch z) (by rw [e]; exact fun _ z=>nomatch z) (by rw [e]; exact fun _ z=>nomatch z) (by rw [e]; exact fun _ z=>nomatch z) (I.base0 e) ⟨ho,?_⟩⟩
 exact Qbc.stay hx (fun _ _ _ z=>z) (fun c z=>by rw [Qaq (fun q=>by rw [q,e] at z; cases z)]; exact z) fun c ys z=>by rw [Qaq (fun q=>by rw [q,e] at z; cases z)]; exact z
theorem Inv.thaw (I:Inv X pins σ H s) (e:H a=some (.frz o (.dT xs))) (hf:∀o u,X.H₀ a≠some (.frz o u)):Inv X pins σ (upd H a (.dT xs)) s:=by
 obtain ⟨ho,hx⟩:=(show Qbc X.prog X.w H s.heap a (.frz o (.dT xs)) from I.hok a _ e);refine I.reword (by rw [e]; exact fun z=>nomatch z) (by rw [e]; exact fun _ z=>nomatch z) (by rw [e]; exact fun _ z=>nomatch z) (by rw [e]; exact fun _ z=>nomatch z) hf ?_
 exact Qbc.stay hx (fun _ _ _ z=>z) (fun c z=>by rw [Qaq (fun q=>by rw [q,e] at z; cases z)]; exact z) fun c ys z=>by rw [Qaq (fun q=>by rw [q,e] at z; cases z)]; exact z
end
section
variable {prog:Program}{w:World}{A:Around}{E:Value→Shared→Prop}{s:Shared}
theorem Qrd {d:Addr}{o:Obj}{es:Array DictEntry}{ep:Nat}{Q:Value→Shared→Prop} (hd:(d == sysModules)=false) (ho:s.heap.get? d=some o) (hx:o.ExactDict) (hdat:o.data = .dict es ep)
  (hQ:Q (.ref s.heap.objs.size) { s with heap:=s.heap.push { cls:=.type "dict_keyiterator",data:=.fields #[.ref d,.int 0 0,.int es.size 0,.int ep 0] } }) :
  wpAny (model prog w) A (pyIter (.ref d)) Q E s:=by
 have hT:s.TypeIs (.ref d) "dict":=⟨o,ho,hx.1⟩;refine wpAny_pyIter_slot hT PySem.F.slot_dict_iter (wpAny_call_entry PySem.F.slot_dict_iter hT PySem.F.entry_dict_iter ?_ (PySem.F.args_dict_iter_1 _));unfold Builtin.«dict.__iter__»;refine za ?_;unfold Builtin.Dict.dictSlotNone;refine za (wpAny_notOrdered_dict hT ?_);show wpAny _ _ (pure (Value.ref d)) _ _ s;refine zb ?_;show wpAny _ _ (Builtin.Dict.showsAll d >>= _) _ _ s;unfold Builtin.Dict.showsAll;rw [if_neg (by rw [hd]; exact zg)];refine za (zb ?_);refine za (wpAny_dictEntries ho hdat ?_);refine za (wpAny_dictEpoch ho hdat ?_);refine za (wpAny_newObj_type (zb ⟨_,rfl,"dict_keyiterator",_,⟨_,zw _ rfl,rfl⟩,PySem.F.slot_dict_keyiterator_next.lookup,?_⟩))
 simpa [rawInt] using hQ
theorem Qrx {it d:Addr}{i n ep:Nat}{od:Obj}{es:Array DictEntry}{Q:Option Value→Shared→Prop} (hit:s.heap.IsKeyIter it d i n ep) (hod:s.heap.get? d=some od) (hdd:od.data = .dict es ep) (hsz:es.size=n) (hlt:i < n)
  (hQ:∀h',h'.IsKeyIter it d (i+1) n ep→Heap.SameBut it s.heap h'→Q (some (es[i]'(by omega)).key) { s with heap:=h' }) :
  wpAny (model prog w) A (pyNext (.ref it)) Q E s:=by
 obtain ⟨o,ho,hc,hd⟩:=id hit;unfold pyNext
 refine za (wpAny_attempt (wpAny_callSpecial?_slot (name:=Str.ofString "__next__") hit.typeIs PySem.F.slot_dict_keyiterator_next
  (wpAny_call_entry PySem.F.slot_dict_keyiterator_next hit.typeIs PySem.F.entry_dict_keyiterator_next ?_ (PySem.F.args_dict_keyiterator_next_1 _))))
 refine za (zb ?_);refine za ?_;refine za ?_
 first | refine za (wpAny_typeNameOfWhole_keyiter hit.typeIs (zb ?_)) | refine za (wpAny_typeNameOf_keyiter hit.typeIs (zb ?_))
 refine za (wpAny_fieldsOf ho hd ?_)
 have hown:Builtin.Dict_items.ownsTuple "dict_keyiterator" = false:=by decide
 simp only [hown,Bool.false_eq_true,if_false];show wpAny _ _ (if (Value.ref d == Value.none)=true then _ else _) _ _ s;rw [if_neg (show ¬((Value.ref d == Value.none)=true) from zg)];refine za (zb ?_);refine za (wpAny_dictEntries hod hdd ?_);rw [if_neg (by rw [hsz]; simp)];refine za (zb ?_);refine za (wpAny_dictEpoch hod hdd ?_);rw [if_neg (by simp)];refine zb ?_
 have hlt':i < es.size:=by rw [hsz]; exact hlt
 simp only [show ¬((i:Int) < 0) from by omega,if_false,Int.toNat_natCast,Array.getElem?_eq_getElem hlt'];refine za ?_
 first | refine za (wpAny_typeNameOfWhole_keyiter hit.typeIs (zb ?_)) | refine za (wpAny_typeNameOf_keyiter hit.typeIs (zb ?_))
 refine za (wpAny_isOneOf_keyiter hit.typeIs ?_);show wpAny _ _ (setField (.ref it) 1 (rawInt ((i:Int)+1)) >>= _) _ _ s;refine za (wpAny_setField ho hd (by simp) ?_);have hit':(s.heap.update it (Obj.mapFields (·.setIfInBounds 1 (rawInt ((i:Int)+1))))).IsKeyIter it d (i+1) n ep :=
  ⟨_,Heap.get?_update_self _ ho (Obj.isFreed_of_fields (Obj.data_mapFields hd _)),(Obj.cls_mapFields ..).trans hc,by rw [Obj.data_mapFields hd]; simp [rawInt]⟩
 refine za (zH ?_);refine za (wpAny_isOneOf_keyiter (s:={ s with heap:=s.heap.update it (Obj.mapFields (·.setIfInBounds 1 (rawInt ((i:Int)+1)))) }) hit'.typeIs ?_);show wpAny _ _ (pure es[i].key) _ _ _;exact zb (zb ⟨_,rfl,zb (hQ _ hit' (Heap.SameBut.update ..))⟩)
theorem Qug {it d:Addr}{i n ep:Nat}{od:Obj}{es:Array DictEntry}{Q:Option Value→Shared→Prop} (hh:A.handled=none) (hit:s.heap.IsKeyIter it d i n ep) (hod:s.heap.get? d=some od) (hdd:od.data = .dict es ep) (hsz:es.size=n) (hge:n≤i)
  (hQ:∀h',Heap.ExtBut it s.heap h'→Q none { s with heap:=h' }):wpAny (model prog w) A (pyNext (.ref it)) Q E s:=by
 obtain ⟨o,ho,hc,hd⟩:=id hit;unfold pyNext
 refine za (wpAny_attempt (wpAny_callSpecial?_slot (name:=Str.ofString "__next__") hit.typeIs PySem.F.slot_dict_keyiterator_next
  (wpAny_call_entry PySem.F.slot_dict_keyiterator_next hit.typeIs PySem.F.entry_dict_keyiterator_next ?_ (PySem.F.args_dict_keyiterator_next_1 _))))
 refine za (zb ?_);refine za ?_;refine za ?_
 first | refine za (wpAny_typeNameOfWhole_keyiter hit.typeIs (zb ?_)) | refine za (wpAny_typeNameOf_keyiter hit.typeIs (zb ?_))
 refine za (wpAny_fieldsOf ho hd ?_)
 have hown:Builtin.Dict_items.ownsTuple "dict_keyiterator" = false:=by decide
 simp only [hown,Bool.false_eq_true,if_false];show wpAny _ _ (if (Value.ref d == Value.none)=true then _ else _) _ _ s;rw [if_neg (show ¬((Value.ref d == Value.none)=true) from zg)];refine za (zb ?_);refine za (wpAny_dictEntries hod hdd ?_);rw [if_neg (by rw [hsz]; simp)];refine za (zb ?_);refine za (wpAny_dictEpoch hod hdd ?_);rw [if_neg (by simp)];refine zb ?_
 have hge':es.size≤i:=by rw [hsz]; exact hge
 simp only [show ¬((i:Int) < 0) from by omega,if_false,Int.toNat_natCast,Array.getElem?_eq_none hge'];refine za ?_
 first | refine za (wpAny_typeNameOfWhole_keyiter hit.typeIs (zb ?_)) | refine za (wpAny_typeNameOf_keyiter hit.typeIs (zb ?_))
 show wpAny _ _ (setField (.ref it) 0 .none >>= _) _ _ s;refine za (wpAny_setField ho hd (by simp) ?_);show wpAny _ _ (newExc (.type "StopIteration") [] >>= _) _ _ _;refine za ?_;simp only [newExc,newTuple];refine za (wpAny_newObj_type ?_ (by size_fits));refine za (m:=firstArgMember _ _) (jm (a:=Value.none) (by first | rfl | (simp only [firstArgMember]; rfl)) ?_);refine wpAny_newObj_type ?_ (by size_fits);simp only [raiseNew];refine za (wpAny_handled ?_);rw [show A.in1.handled=none from hh];refine za (zb (wpAny_throw ?_));refine za (wpAny_isInstance (T:="StopIteration") (b:=true) ⟨_,zw _ rfl,rfl⟩ isSubtype_stop ?_)
 exact zb (hQ _ (((Heap.SameBut.update ..).extBut.push _).push _))
end
def Itq (a:Addr) (o:Obj):It :=
 ⟨fun i H=>∃ys:List (List Key×V),H a=some (.frz o (.dT ys))∧i < ys.length,
  fun i H x H'=>H'=H∧∀ys:List (List Key×V),H a=some (.frz o (.dT ys))→∃b p,x = .ref b∧ys[i]? = some p∧H b=some (.tup (p.1.map kV)),
  fun i H=>∃ys:List (List Key×V),H a=some (.frz o (.dT ys))∧ys.length≤i⟩
theorem Qps {α β:Type}{R:α→β→Prop}{l:List α}{m:List β} (h:Paired R l m):∀{i:Nat}{x:α}{y:β},l[i]? = some x→m[i]? = some y→R x y:=by
 induction h with
 | nil=>intro i x y h; cases h
 | cons a b ih =>
  intro i x y h1 h2
  cases i with
  | zero=>cases h1; cases h2; exact a
  | succ i=>exact ih h1 h2
theorem QlH {X:Cx}{pins:List (Addr×Obj)}{σ:St}{H:Hp}{s:Shared}{a:Addr}{o:Obj}{ys:List (List Key×V)} (I:Inv X pins σ H s) (e:H a=some (.frz o (.dT ys))) :
  s.heap.get? a=some o∧(a == sysModules)=false∧o.ExactDict∧∃es ep,o.data = .dict es ep∧es.size=ys.length∧∀(i:Nat) (h:i < es.size),∃b p,es[i].key = .ref b∧ys[i]? = some p∧H b=some (.tup (p.1.map kV)):=by
 obtain ⟨h1,z,y,xs,r,o',es,ep,h2,h3,h4,h5,h6⟩:=(show Qbc X.prog X.w H s.heap a (.frz o (.dT ys)) from I.hok a _ e);rw [h1] at h2;cases h2
 have hl:es.size=xs.length:=by rw [←Array.length_toList,h5,zh]
 have hr:ys.length=xs.length:=r.length;refine ⟨h1,y,h3,es,ep,h4,by omega,fun i hi=>?_⟩
 have hx:i < xs.length:=by omega
 have hy:i < ys.length:=by omega
 have ek:es.toList[i]? = some (entryOfKey (tupleKind (QbS X.prog X.w)) xs[i]):=by rw [h5,zx,zq hx]; rfl
 rw [Array.getElem?_toList,Array.getElem?_eq_getElem hi] at ek;have hh:=Qps r (zq hy) (zq hx);refine ⟨xs[i].2.1,ys[i],?_,zq hy,hh.2.1⟩
 injection ek with ek
 rw [ek];rfl
theorem Qro {P:Program}{w:World}{K:Frag}{tg:Expr} (a it:Addr) (o:Obj) (es:Array DictEntry) (ep:Nat) (hd:o.data = .dict es ep):Turn P w K tg (Itq a o) [it] it (fun i h=>h.IsKeyIter it a i es.size ep) where
 mem:=by simp
 obj:=fun i h st b hb=>by
  have e:b=it:=by simpa using hb
  subst e;obtain ⟨o,e,c,d⟩:=st;exact ⟨o,e,fun v z=>by rw [d] at z; cases z⟩
 keep:=fun i h h' st k=>st.at fun o e=>k it (by simp) o e
 item:=by
  intro X hP hw hK hc i pins s σ H E I hf st hg;subst hP hw hK;obtain ⟨ys,hq,hlt⟩:=hg;obtain ⟨q1,q2,q3,es',ep',q4,q5,q6⟩:=QlH I hq;rw [hd] at q4;cases q4;obtain ⟨f0,f1,f2,f3,f4,f5⟩:=hf it (by simp)
  have hi:i < es.size:=by omega
  refine Qrx st q1 hd rfl hi fun h' st' sb=>?_
  have I1:Inv X pins σ H { s with heap:=h' }:=I.turned (t':=s.toks) (fun b o hb e=>(sb.2 b hb).trans e) f0 f1 f3 f4 f5;obtain ⟨b,p,k1,k2,k3⟩:=q6 i hi;rw [k1];obtain ⟨o2,e,c,d⟩:=id st';refine ⟨_,rfl,Qhq (s:={ s with heap:=h' }) e c d (by decide) ⟨.ref b,H,I1,rfl,⟨rfl,fun zs hz=>?_⟩,st',fun b hb=>(hf b hb).1⟩⟩;rw [hq] at hz;cases hz;exact ⟨b,p,rfl,k2,k3⟩
 done:=by
  intro X hP hw hK hc i pins s σ H E I hf st hg;subst hP hw hK;obtain ⟨ys,hq,hge⟩:=hg;obtain ⟨q1,q2,q3,es',ep',q4,q5,q6⟩:=QlH I hq;rw [hd] at q4;cases q4;obtain ⟨f0,f1,f2,f3,f4,f5⟩:=hf it (by simp)
  exact Qug (I.ok.hd hc) st q1 hd rfl (by omega) fun h' eb=>⟨rfl,I.turned (t':=s.toks) (fun b o hb e=>eb b o hb e) f0 f1 f3 f4 f5⟩
 self:=fun _ _ _ _ _ st h=>wpAny_pyIter_keyiter st h
def QyC (tl:TE):TI:=fun σ H R=>tl σ H fun x H1=>∃a xs,x = .ref a∧H1 a=some (.dT xs)∧∀o,R (Itq a o) (upd H1 a (.frz o (.dT xs)))
theorem Qwx {X:Cx}{tg l:Expr}{tl:TE} (hl:PE X l tl):PI X tg l (QyC tl):=by
 intro pins s σ H R I h
 refine thn (hl pins s σ H _ I h) fun v s1 ⟨x,H1,I1,r1,q1⟩=>?_
 obtain ⟨a,xs,e,hq,q⟩:=q1;subst e;cases r1;obtain ⟨o,ho,I2⟩:=I1.freeze hq;obtain ⟨q1,q2,q3,es,ep,q4,q5,q6⟩:=QlH I2 QaE;refine Qrd q2 q1 q3 q4 ?_;refine ⟨s1.heap.objs.size,[s1.heap.objs.size],_,_,upd H1 a (.frz o (.dT xs)),rfl,I2.kept (t':=s1.toks) fun b o e=>zn _ e,Qro a _ o es ep q4,⟨_,zw _ rfl,rfl,rfl⟩,fun b hb=>?_,q o⟩
 have e:b=s1.heap.objs.size:=by simpa using hb
 subst e;exact I2.fpOk (ze _) (I2.hok.fresh (ze _))
section
variable {K:Frag}{mg:Str→Option Value}{O:Qac}{H F:Hp}{as:List Addr}
theorem Gr.tupF {b:Addr}{xs:List V} (hb:H b=some (.tup xs)) (hf:F b=none):Gr H F as H (upd F b (.tup xs)) as :=
 ⟨fun a o e _ hd=>Qaq (fun z=>by rw [z,hb] at e; cases e; cases hd),fun a u e=>by rw [Qaq (QaC e hf)]; exact e,⟨[],by simp,fun _ h=>nomatch h⟩,fun _ _ h _ _=>h,fun _ h=>h,fun _ _ _ h=>h⟩
theorem RlO.noT {b:Addr}{xs:List V} (r:RlO K mg O H F as) (hb:H b=some (.tup xs)):b∉as:=fun hm=>by
 obtain ⟨n,hn,e⟩:=List.mem_iff_getElem.mp hm
 have hO:n < O.length:=by rw [←r.len]; exact hn
 have q:=r.ob n b O[n] (by rw [zq hn,e]) (zq hO)
 revert q
 cases O[n] with
 | ins c fs=>rintro ⟨C,dx,gs,_,h2,_⟩; rw [hb] at h2; cases h2
 | ml ds=>rintro ⟨xs,h1,_⟩; rw [hb] at h1; cases h1
 | dt kvs=>rintro ⟨xs,h1,_⟩; rw [hb] at h1; cases h1
 | df kvs=>rintro ⟨o,xs,h1,_⟩; rw [hb] at h1; cases h1
 | dk kvs=>rintro ⟨xs,h1,_⟩; rw [hb] at h1; cases h1
theorem Qkv:∀ks:List Key,Rps K F as (ks.map kV) (ks.map QkC)
 | []=>Rps.nil
 | .inl i::ks=>Rps.cons (show Rp K F as (.int i) (.int i) from rfl) (Qkv ks)
 | .inr x::ks=>Rps.cons (show Rp K F as (.str x) (.str x.cps.toList) from by
   show V.str x=V.str (S x.cps.toList)
   rw [show S x.cps.toList=x by cases x; simp [S]]) (Qkv ks)
theorem RlO.df {n:Nat}{a:Addr}{kvs:List (List Key×D)} (r:RlO K mg O H F as) (hn:as[n]? = some a) (hO:O[n]? = some (.df kvs)):∃o xs,H a=some (.frz o (.dT xs))∧DtR K F as xs kvs:=let ⟨o,xs,h1,h2,h3⟩:=r.ob n a _ hn hO; ⟨o,xs,h1,h2,h3⟩
end
section
variable {X:Cx}{md:List Md}{P:Pt}{R:RR}
def Qr1 (p:List Key×D):D:=.tup (p.1.map QkC)
def QgX (m:M D):M (List D):=fun ρ O=>(m ρ O).bind fun d O1=>match d with
 | .ob n=>match O1[n]? with
  | some (.dt kvs)=>.ok (kvs.map Qr1) (O1.set n (.df kvs))
  | _=>.no
 | _=>.no
theorem QwJ {tg e:Expr}{m:M D} (h:VE X md P e m):VI X md P tg e (QgX m):=(Qwx h).imp fun σ H Q q=>by
 obtain ⟨ρ,O,F,as,ds,O',r,s,e,k⟩:=q;obtain ⟨d,O1,e1,e⟩:=Res.bind_ok e;split at e
 ·rename_i n;split at e
  ·rename_i kvs e2;cases e;refine ⟨ρ,_,F,as,_,_,r,s,e1,fun v H1 F1 as1 g1 r1 hv=>?_⟩;obtain ⟨a,rfl,ha⟩:=Rp.unO hv;obtain ⟨xs,x1,x2⟩:=r1.dt ha e2;refine ⟨a,xs,rfl,x1,fun o=>k (Itq a o) (upd H1 a (.frz o (.dT xs))) F1 as1 (g1.trans (QnA (zO ha) x1)) (r1.mutG ha ⟨o,xs,QaE,x2.1,x2.2⟩) ⟨fun i d H2 F2 as2 g2 r2 hd=>?_,fun H2 F2 as2 g2 r2=>?_⟩⟩
   ·have hz:=g2.kz a o _ QaE
    have hi:i < kvs.length:=by have:=(zk.mp hd).1; rwa [zh] at this
    have hi':i < xs.length:=by rw [x2.len]; exact hi
    refine ⟨⟨xs,hz,hi'⟩,fun x H3 y=>?_⟩;obtain ⟨rfl,hy⟩:=y;obtain ⟨b,p,rfl,hp,hb⟩:=hy xs hz
    have hk:p.1=kvs[i].1:=by
     have h1:(xs.map (·.1))[i]? = some p.1:=by rw [zx,hp]; rfl
     rw [x2.1,zx,zq hi] at h1
     injection h1 with h1
     exact h1.symm
    rw [zx,zq hi] at hd
    injection hd with hd
    subst hd
    have fin:∀F3:Hp,F3 b=some (.tup (p.1.map kV))→Rp X.K F3 as2 (.ref b) (Qr1 kvs[i]):=fun F3 h3=>⟨b,_,rfl,.inl h3,by rw [←hk]; exact Qkv p.1⟩
    cases hF:F2 b with
    | some u =>
     obtain ⟨O2,r2'⟩:=r2
     have:=r2'.fh b u hF
     rw [hb] at this;cases this;exact ⟨F2,Gr.refl,fun _ r=>r,fin F2 hF⟩
    | none=>exact ⟨upd F2 b (.tup (p.1.map kV)),Gr.tupF hb hF,fun _ r=>r.frz hb hF (r.noT hb) rfl,fin _ QaE⟩
   ·exact ⟨xs,g2.kz a o _ QaE,by rw [zh,x2.len]; exact ze _⟩
  ·cases e
 ·cases e
end
def QgR (i:Nat) (ms:MS):MS:=fun ρ O=>match ρ[i]? with
 | some (some (.ob n))=>match O[n]? with
  | some (.dt _)=>match ms ρ O with
   | .nx ρ2 O2=>match O2[n]? with
    | some (.df kvs)=>.nx ρ2 (O2.set n (.dt kvs))
    | _=>.no
   | _=>.no
  | _=>.no
 | _=>.no
section
variable {K:Frag}{mg:Str→Option Value}{md:List Md}{P:Pt}{ρ:Qak}{σ:St}{O:Qac}{H F H' F':Hp}{as as':List Addr}
theorem Qea.reH {m:Md}{v:V}{d:D}{a:Addr}{h:HO} (q:Qea P K H F as m v d) (ha:a∈as):Qea P K (upd H a h) F as m v d:=by
 cases m with
 | v=>exact q
 | s =>
  rcases q with q | ⟨c,xs,ds,e1,e2,e3,e4,e5,e6⟩
  ·exact .inl q
  ·exact .inr ⟨c,xs,ds,e1,e2,by rw [Qaq (fun z=>e4 (by rw [z]; exact ha))]; exact e3,e4,e5,e6⟩
 | o =>
  rcases q with ⟨h1,q⟩ | ⟨c,xs,ds,e1,e2,e3,e0,e4,e5,e6⟩
  ·exact .inl ⟨h1,q⟩
  ·exact .inr ⟨c,xs,ds,e1,e2,by rw [Qaq (fun z=>e4 (by rw [z]; exact ha))]; exact e3,e0,e4,e5,e6⟩
theorem SlO.reH {a:Addr}{h:HO} (s:SlO K md P ρ σ H F as) (ha:a∈as):SlO K md P ρ σ (upd H a h) F as :=
 ⟨s.len,s.len',fun c p z=>s.pd c p (by
  by_cases e:c=a
  ·rw [e,QaE] at z; cases z
  ·rwa [Qaq e] at z),fun i m d e1 e2=>let ⟨v,q,r⟩:=s.sl i m d e1 e2; ⟨v,q,r.reH ha⟩,s.inj,s.pin⟩
theorem SlO.obAt {i n:Nat} (s:SlO K md P ρ σ H F as) (e:ρ[i]? = some (some (.ob n))):∃a,as[n]? = some a:=by
 have hi:i < md.length:=by rw [←s.len']; exact (zk.mp e).1
 obtain ⟨v,_,q⟩:=s.sl i _ _ (zq hi) e
 have hr:Rp K F as v (.ob n):=by
  revert q
  cases md[i] with
  | v=>exact fun q=>q
  | s =>
   rintro (q | ⟨a,xs,ds,_,z,_⟩)
   ·exact q
   ·cases z
  | o =>
   rintro (⟨_,q⟩ | ⟨a,xs,ds,_,z,_⟩)
   ·exact q
   ·cases z
 obtain ⟨a,_,ha⟩:=Rp.unO hr;exact ⟨a,ha⟩
theorem GrS.reH {a:Addr}{h:HO}{xs:List (List Key×V)} (g:GrS P H F as H' F' as') (ha:a∈as) (hx:H a=some (.dT xs)):GrS P H F as (upd H' a h) F' as' :=
 ⟨g.fz,g.ff,g.nw,fun c o p e hn hd=>by rw [Qaq (fun z=>hn (by rw [z]; exact ha))]; exact g.fr c o p e hn hd,fun c e=>by
  by_cases z:c=a
  ·rw [z,QaE] at e; cases e
  ·rw [Qaq z] at e; exact g.dm c e,fun c o u e=>by rw [Qaq (fun z=>by rw [z,hx] at e; cases e)]; exact g.kz c o u e⟩
end
section
variable {X:Cx}{md:List Md}{P:Pt}{R:RR}
theorem QuH (i:Nat) {st:Stmt}{ms:MS} (h:VS X md P R st ms):VS X md P R st (QgR i ms):=fun pins s σ H D I q=>by
 obtain ⟨ρ,O,F,as,r,sl,k⟩:=q;unfold QgR at k;split at k
 ·rename_i n e1;split at k
  ·rename_i kv0 e2;split at k
   ·rename_i ρ2 O2 e3;split at k
    ·rename_i kvs e4;obtain ⟨a,ha⟩:=sl.obAt e1;obtain ⟨xs0,x1,_⟩:=r.dt ha e2;have hf:=I.base0 x1
     refine thn (h pins s σ H { nx:=fun σ' H'=>∃F' as',GrS P H F as H' F' as'∧RlO X.K X.mg O2 H' F' as'∧SlO X.K md P ρ2 σ' H' F' as',rt:=fun _ _=>False } I ⟨ρ,O,F,as,r,sl,by rw [e3]; exact fun σ' H' F' as' g r s=>⟨F',as',g,r,s⟩⟩) fun f s' z=>?_
     cases f with
     | next =>
      obtain ⟨σ',H',I',F',as',g,r',s2⟩:=z;have ha':=g.at_ n a ha;have hm':=zO ha';obtain ⟨o,xs,y1,y2⟩:=r'.df ha' e4;exact ⟨σ',_,I'.thaw y1 hf,k σ' _ F' as' (g.reH (zO ha) x1) (r'.mutG ha' ⟨xs,QaE,y2.1,y2.2⟩) (s2.reH hm')⟩
     | brk=>obtain ⟨σ',H',_,z⟩:=z; exact z.elim
     | cont=>obtain ⟨σ',H',_,z⟩:=z; exact z.elim
     | ret u=>obtain ⟨v,σ',H',_,_,z⟩:=z; exact z.elim
    ·exact False.elim k
   ·exact False.elim k
  ·exact False.elim k
 ·exact False.elim k
def tsG (n:Nat) (y:D) (O:Qac):Res D:=match QlO y,O[n]? with
 | some k,some (.df kvs)=>match QeJ kvs k with
  | some d=>.ok d O
  | none=>.no
 | _,_=>tsF n y O
def Qbx (mo my:M D):M D:=fun ρ O=>(mo ρ O).bind fun x O1=>match x with
 | .ob n=>(my ρ O1).bind fun y O2=>tsG n y O2
 | _=>.no
theorem QfQ {kk:Nat} (hk:Qbb X.K=true) (hr:QaS kk X.A) {o i:Expr}{pos:Pos}{mo my:M D} (ho:VE X md P o mo) (hi:VE X md P i my) (hs:QiD i:=by intro _ _; rfl):VE X md P (.Subscript o i pos) (Qbx mo my):=fun pins s σ H Q I q=>by
 obtain ⟨ρ,O,F,as,d,O',r,sl,e,k⟩:=q;obtain ⟨x,O1,e1,e⟩:=Res.bind_ok e
 cases x with
 | ob n =>
  obtain ⟨y,O2,e2,e⟩:=Res.bind_ok e;unfold tsG at e;split at e
  ·rename_i ks kvs e3 e4;split at e
   ·rename_i d' e5;cases e;refine Qnx (Qoq hr) ho hi hs pins s σ H Q I ⟨ρ,_,F,as,_,_,r,sl,e1,fun x H1 F1 as1 g1 r1 hx=>⟨ρ,_,F1,as1,_,_,r1,sl.step g1,e2,fun u H2 F2 as2 g2 r2 hu=>?_⟩⟩;obtain ⟨a,rfl,ha⟩:=Rp.unO hx;obtain ⟨o,xs,x1,x2⟩:=r2.df (g2.at_ n a ha) e4;obtain ⟨b,rfl,hb⟩:=Rp.tkey hk hu e3
    rcases x2.val (k:=ks) with ⟨z1,z2⟩ | ⟨d2,v',z1,z2,z3⟩
    ·rw [z1] at e5; cases e5
    ·rw [z1] at e5;cases e5;refine ⟨a,v',rfl,?_,k _ H2 F2 as2 (g1.trans g2) r2 z3⟩;rw [←z2];exact .inr ⟨xs,ks,b,.inr ⟨o,x1⟩,rfl,r2.fh _ _ hb,rfl⟩
   ·cases e
  ·refine QtO hk hr ho hi hs pins s σ H Q I ⟨ρ,O,F,as,d,O',r,sl,?_,k⟩;unfold QsO;rw [e1];show Res.bind (my ρ O1) _=_;rw [e2];exact e
 | _=>cases e
end
section
variable {X:Cx}{md:List Md}{P:Pt}{R:RR}
end
section
variable {prog:Program}{w:World}
end
section
variable {X:Cx}{md:List Md}{P:Pt}{R:RR}
end
def Qkx (kvs:List (Key×D)) (k:Key):Option D:=(kvs.find? fun p=>decide (p.1=k)).map (·.2)
def Qu3 (kvs:List (Key×D)) (k:Key) (d:D):List (Key×D) :=
 if (kvs.any fun p=>decide (p.1=k))=true then kvs.map (fun p=>if p.1=k then (p.1,d) else p) else kvs ++ [(k,d)]
def DkR (K:Frag) (F:Hp) (as:List Addr) (xs:List (Key×V)) (kvs:List (Key×D)):Prop:=xs.map (·.1)=kvs.map (·.1)∧Rps K F as (xs.map (·.2)) (kvs.map (·.2))
section
variable {K:Frag}{mg:Str→Option Value}{O:Qac}{H F H' F':Hp}{as as':List Addr}
theorem DkR.len {xs:List (Key×V)}{kvs:List (Key×D)} (h:DkR K F as xs kvs):xs.length=kvs.length:=by
 have:=congrArg List.length h.1
 simpa using this
theorem DkR.un {xs:List (Key×V)}{p:Key×D}{kvs:List (Key×D)} (h:DkR K F as xs (p::kvs)):∃v r,xs=(p.1,v)::r∧Rp K F as v p.2∧DkR K F as r kvs:=by
 obtain ⟨h1,h2⟩:=h
 cases xs with
 | nil=>cases h1
 | cons x r =>
  obtain ⟨v,r',e,q1,q2⟩:=h2.un;cases e;rw [zc,zc] at h1;have q3:=(List.cons.inj h1).1;refine ⟨x.2,r,?_,q1,(List.cons.inj h1).2,q2⟩;rw [←q3]
theorem DkR.val {k:Key}:∀{kvs:List (Key×D)}{xs:List (Key×V)},DkR K F as xs kvs→(Qkx kvs k=none∧Qdx xs k=none)∨∃d v,Qkx kvs k=some d∧Qdx xs k=some v∧Rp K F as v d
 | [],xs,h=>by
  have:=h.len
  cases xs with
  | nil=>exact .inl ⟨rfl,rfl⟩
  | cons=>cases this
 | p::kvs,xs,h=>by
  obtain ⟨v,r,rfl,h1,h2⟩:=h.un
  by_cases e:p.1=k
  ·exact .inr ⟨p.2,v,by simp [Qkx,List.find?_cons,e],QfI e,h1⟩
  ·rw [show Qkx (p::kvs) k=Qkx kvs k by simp [Qkx,List.find?_cons,e],QfM (p:=(p.1,v)) e];exact DkR.val h2
theorem DkR.any {k:Key}:∀{kvs:List (Key×D)}{xs:List (Key×V)},DkR K F as xs kvs→(xs.any fun p=>decide (p.1=k))=kvs.any fun p=>decide (p.1=k)
 | [],xs,h=>by
  have:=h.len
  cases xs with
  | nil=>rfl
  | cons=>cases this
 | p::kvs,xs,h=>by
  obtain ⟨v,r,rfl,h1,h2⟩:=h.un;rw [List.any_cons,List.any_cons,DkR.any h2]
theorem DkR.repl {k:Key}{v:V}{d:D} (hv:Rp K F as v d):∀{kvs:List (Key×D)}{xs:List (Key×V)},DkR K F as xs kvs →
  DkR K F as (xs.map fun p=>if p.1=k then (p.1,v) else p) (kvs.map fun p=>if p.1=k then (p.1,d) else p)
 | [],xs,h=>by
  have:=h.len
  cases xs with
  | nil=>exact ⟨rfl,Rps.nil⟩
  | cons=>cases this
 | p::kvs,xs,h=>by
  obtain ⟨u,r,rfl,h1,h2⟩:=h.un;obtain ⟨i1,i2⟩:=DkR.repl (k:=k) hv h2
  by_cases e:p.1=k
  ·rw [zc,zc,if_pos e,if_pos e];exact ⟨by rw [zc,zc,i1],Rps.cons hv i2⟩
  ·rw [zc,zc,if_neg e,if_neg e];exact ⟨by rw [zc,zc,i1],Rps.cons h1 i2⟩
theorem DkR.put {xs:List (Key×V)}{kvs:List (Key×D)} (h:DkR K F as xs kvs) (k:Key) {v:V}{d:D} (hv:Rp K F as v d):DkR K F as (putK xs k v) (Qu3 kvs k d):=by
 unfold putK Qu3;rw [h.any]
 split
 ·exact h.repl hv
 ·exact ⟨by rw [zL,zL,h.1]; rfl,by rw [zL,zL]; exact Rps.snoc h.2 hv⟩
theorem RlO.dk {n:Nat}{a:Addr}{kvs:List (Key×D)} (r:RlO K mg O H F as) (hn:as[n]? = some a) (hO:O[n]? = some (.dk kvs)):∃xs,H a=some (.dK xs)∧DkR K F as xs kvs:=let ⟨xs,h1,h2,h3⟩:=r.ob n a _ hn hO; ⟨xs,h1,h2,h3⟩
end
section
variable {X:Cx}{md:List Md}{P:Pt}{R:RR}
end
theorem Rps.reverse {K:Frag}{F:Hp}{as:List Addr}:∀{ds:List D}{xs:List V},Rps K F as xs ds→Rps K F as xs.reverse ds.reverse
 | [],xs,h=>by rw [h.un0]; exact Rps.nil
 | d::ds,xs,h=>by
  obtain ⟨x,r,rfl,h1,h2⟩:=h.un;rw [List.reverse_cons,List.reverse_cons];exact Rps.snoc (Rps.reverse h2) h1
section
variable {X:Cx}{md:List Md}{P:Pt}{R:RR}
end
end L2
namespace L2
open PySem PySem.Spec PyProof.Rows PySem.W PySem.Calls
def Qft (ss:List Str) (x:Str):List Str:=if x∈ss then ss else ss ++ [x]
def QiJ (es:Array (Int×Value)):List Str:=es.toList.map fun e=>strOf e.2
def Qo3 (prog:Program) (w:World) (h:Heap) (a:Addr) (ss:List Str) (o:Obj) (es:Array (Int×Value)) (ep:Nat) (t:SetTable):Prop :=
 h.get? a=some o∧o.ExactSet∧o.data = .set es ep t∧ElemsOf (PySem.strKind prog w) es.toList∧(QiJ es).Perm ss∧es.size < scanBound∧t.fits es.size=true∧(es.size=0∨t.plain=false)∧t.led = !w.params.followText "set-order"
def Qdz (prog:Program) (w:World) (h:Heap) (a:Addr) (ss:List Str):Prop:=∃o es ep t,Qo3 prog w h a ss o es ep t
section
variable {prog:Program}{w:World}{A:Around}{E:Value→Shared→Prop}{s:Shared}{a:Addr}{ss:List Str}
theorem Qdz.at {h h':Heap} (x:Qdz prog w h a ss) (k:∀o,h.get? a=some o→h'.get? a=some o):Qdz prog w h' a ss :=
 let ⟨o,es,ep,t,h1,r⟩:=x; ⟨o,es,ep,t,k o h1,r⟩
theorem Qdz.len {h:Heap} (x:Qdz prog w h a ss):ss.length < scanBound:=by
 obtain ⟨o,es,ep,t,h1,h2,h3,h4,h5,h6,_⟩:=x;rw [←h5.length_eq];unfold QiJ;rw [zh];exact h6
theorem Qnf (t:SetTable) (es:Array (Int×Value)) (n:Nat) (h:t.plain=false):(relayAll t es n).2.1.plain=false:=by
 unfold relayAll
 split
 ·rename_i t' order e;dsimp only
  split
  ·unfold SetTable.relaid SetTable.laid at e
   cases q:SetTable.layClean (SetTable.sizeAbove n - 1) (Array.map (fun x=>x.fst) es) with
   | none=>rw [q] at e; cases e
   | some ow =>
    rw [q] at e;cases e;exact h
  ·rfl
 ·rfl
theorem QqY (t:SetTable) (es:Array (Int×Value)) (n:Nat):(relayAll t es n).2.1.led=t.led:=by
 unfold relayAll
 split
 ·rename_i t' order e;dsimp only
  split
  ·unfold SetTable.relaid SetTable.laid at e
   cases q:SetTable.layClean (SetTable.sizeAbove n - 1) (Array.map (fun x=>x.fst) es) with
   | none=>rw [q] at e; cases e
   | some ow =>
    rw [q] at e;cases e;rfl
  ·rfl
 ·rfl
theorem Qqb (t:SetTable) (n:Nat):(t.orStandIn n).led=t.led:=by
 unfold SetTable.orStandIn
 split <;> rfl
theorem QtS (t:SetTable) (es:Array (Int×Value)) (h:Int) (x:Value):(layNew t es h x).2.1.led=t.led:=by
 unfold layNew
 split
 ·exact Qqb _ _
 ·rfl
theorem Qj6 {h:Heap}{o:Obj}{es:Array (Int×Value)}{ep:Nat}{t:SetTable} (ho:h.get? a=some o) (hex:o.ExactSet) (hd:o.data = .set es ep t)
  {es':Array (Int×Value)}{t':SetTable} (hel:ElemsOf (PySem.strKind prog w) es'.toList) (hp:(QiJ es').Perm ss) (hb:es'.size < scanBound) (hf:t'.fits es'.size=true) (hpl:t'.plain=false) (hled:t'.led = !w.params.followText "set-order") :
  (h.update a (Obj.putSet es' t')).get? a=some { o with data:=.set es' (ep+1) t' }∧Qdz prog w (h.update a (Obj.putSet es' t')) a ss:=by
 have hg:(h.update a (Obj.putSet es' t')).get? a=some { o with data:=.set es' (ep+1) t' }:=by
  have:=Heap.get?_update_self (Obj.putSet es' t') ho (by rw [putSet_of es' t' hd]; rfl)
  rw [putSet_of es' t' hd] at this; exact this
 exact ⟨hg,_,es',ep+1,t',hg,hex,rfl,hel,hp,hb,hf,.inr hpl,hled⟩
theorem Qla {g:Bool→Sem Unit} (hg:∀(b:Bool) (s₁:Shared) (Q':Unit→Shared→Prop),Q' () s₁→wpAny (model prog w) A (g b) Q' E s₁)
  {o:Obj}{es:Array (Int×Value)}{ep:Nat}{t:SetTable} (ho:s.heap.get? a=some o) (hex:o.ExactSet) (hd:o.data = .set es ep t)
  {es1:Array (Int×Value)}{t2:SetTable} (hel1:ElemsOf (PySem.strKind prog w) es1.toList) (hp1:(QiJ es1).Perm ss) (hb1:es1.size < scanBound) (hf2:t2.fits es1.size=true) (hpl:t2.plain=false) (hled:t2.led = !w.params.followText "set-order") {wasDummy:Bool}{R:Option Bool→Shared→Prop}
  (h:∀h',Heap.SameBut a s.heap h'→Qdz prog w h' a ss→R (some true) { s with heap:=h' }) :
  wpAny (model prog w) A (do
    storeSet a es1 t2
    if (!wasDummy&&t2.tooFull)=true then do
      g (relayAll t2 es1 (SetTable.grown es1.size)).2.2
      storeSet a (relayAll t2 es1 (SetTable.grown es1.size)).1 (relayAll t2 es1 (SetTable.grown es1.size)).2.1
      pure (some true)
     else pure (some true)) R E s:=by
 refine za (wpAny_storeSet_of ho hd ?_ (fits_of_scanBound hb1));obtain ⟨ho1,hS1⟩:=Qj6 (prog:=prog) (w:=w) ho hex hd hel1 hp1 hb1 hf2 hpl hled;have hsb1:=Heap.SameBut.update s.heap a (Obj.putSet es1 t2)
 split
 ·have hp:=relayAll_perm t2 es1 (SetTable.grown es1.size);have hfr:=relayAll_fits t2 es1 (SetTable.grown es1.size);have hpr:=Qnf t2 es1 (SetTable.grown es1.size) hpl;have hlr:=QqY t2 es1 (SetTable.grown es1.size)
  generalize hRl:relayAll t2 es1 (SetTable.grown es1.size)=Rl at hp hfr hpr hlr ⊢
  obtain ⟨es2,t3,gave2⟩:=Rl;dsimp only at hp hfr hpr hlr ⊢;have hel2:ElemsOf (PySem.strKind prog w) es2.toList:=hel1.perm hp
  have hsz:es2.size=es1.size:=by rw [←Array.length_toList,hp.length_eq,Array.length_toList]
  have hb2:es2.size < scanBound:=by rw [hsz]; exact hb1
  refine za (hg _ _ _ ?_);refine za (wpAny_storeSet_of ho1 rfl ?_ (fits_of_scanBound hb2));obtain ⟨_,hS2⟩:=Qj6 (prog:=prog) (w:=w) ho1 hex rfl hel2 ((hp.map _).trans hp1) hb2 hfr hpr (hlr.trans hled);exact zb (h _ (hsb1.trans (Heap.SameBut.update _ a _)) hS2)
 ·exact zb (h _ hsb1 hS1)
theorem Qsd {x:Str}{tk:Tok}{Q:Bool→Shared→Prop} (hS:Qdz prog w s.heap a ss) (hroom:ss.length+1 < scanBound)
  (h:∀h' b,Heap.SameBut a s.heap h'→Qdz prog w h' a (Qft ss x)→Q b { s with heap:=h' }) :
  wpAny (model prog w) A (setAddHashed a (.str x tk) ((PySem.strKind prog w).hash x)) Q E s:=by
 obtain ⟨o,es,ep,t,ho,hex,hd,hel,hp,hb,hf,hpl,hled⟩:=hS
 have hkey:(PySem.strKind prog w).is x (.str x tk)=true:=by
  show Value.isStrOf x (.str x tk)=true;simp [Value.isStrOf]
 have hlen:es.size=ss.length:=by rw [←hp.length_eq]; unfold QiJ; rw [zh,Array.length_toList]
 have hb1:es.size+1 < scanBound:=by rw [hlen]; exact hroom
 have hsc:(Value.str x tk).scannable=true:=rfl
 have key:∀e∈es.toList,∀y,(PySem.strKind prog w).is y e.2=true↔strOf e.2=y:=fun e he y=>by
  obtain ⟨⟨k,hk,_⟩,_⟩:=hel e he;obtain ⟨t',ht⟩:=Value.isStrOf_shape hk;rw [ht];show Value.isStrOf y (.str k t')=true↔k=y;simp [Value.isStrOf]
 unfold setAddHashed setAddHashedIn;refine zH (za (wpAny_setState_of ho hd hf ?_));dsimp only;rw [byScan_of hsc hb hel];simp only [↓reduceIte];unfold setAddByScan;refine za ?_;refine za (zY ?_);refine za (wpAny_setScan_of hkey ho hd hf hel ?_)
 cases hr:List.findIdx? (fun e=>(PySem.strKind prog w).is x e.2) es.toList with
 | some j =>
  dsimp only;obtain ⟨hj,hpj,_⟩:=List.findIdx?_eq_some_iff_getElem.mp hr;have hx:x∈ss:=hp.mem_iff.mp (zP.mpr ⟨es.toList[j],jr hj,(key _ (jr hj) x).mp hpj⟩);refine zb (zb ?_)
  have e:s = { s with heap:=s.heap }:=by cases s; rfl
  rw [e];exact h s.heap _ (Heap.SameBut.refl a s.heap) ⟨o,es,ep,t,ho,hex,hd,hel,by rw [Qft,if_pos hx]; exact hp,hb,hf,hpl,hled⟩
 | none =>
  dsimp only
  have hx:x∉ss:=fun hx=>by
   obtain ⟨e,he,q⟩:=zP.mp (hp.mem_iff.mpr hx)
   have:=List.findIdx?_eq_none_iff.mp hr e he
   rw [(key e he x).mpr q] at this;exact Bool.noConfusion this
  have hgw:∀(b:Bool) {s₁:Shared}{Q':Unit→Shared→Prop},Q' () s₁→wpAny (model prog w) A (match b with | true=>rule "set.scan.the-table-gave-way" | false=>pure ()) Q' E s₁ :=
   fun b s₁ Q' hq=>by cases b <;> first | exact zb hq | exact zY hq
  have hperm:=layNew_perm t es ((PySem.strKind prog w).hash x) (.str x tk);have hfits:=layNew_fits t es ((PySem.strKind prog w).hash x) (.str x tk);have hll:=QtS t es ((PySem.strKind prog w).hash x) (.str x tk)
  generalize hL:layNew t es ((PySem.strKind prog w).hash x) (.str x tk)=L at hperm hfits hll ⊢
  obtain ⟨es1,t1,wasDummy,gave⟩:=L;dsimp only at hperm hfits hll ⊢;rw [Array.toList_push] at hperm;have hel1:ElemsOf (PySem.strKind prog w) es1.toList:=(hel.push hkey hsc).perm hperm
  have hp1:(QiJ es1).Perm (Qft ss x):=by
   rw [Qft,if_neg hx];refine (hperm.map fun e=>strOf e.2).trans ?_;rw [zL];exact hp.append_right _
  have hb1':es1.size < scanBound:=by rw [←Array.length_toList,hperm.length_eq,zA,Array.length_toList]; simpa using hb1
  refine za (hgw _ ?_)
  split
  ·refine za ?_;refine za (m:=hashByValue 8 (.str x tk)) (zb ?_);refine zb ?_;simp only [Bool.false_eq_true,↓reduceIte];refine Qla (t2:={ t1 with plain:=false }) ?_ ho hex hd hel1 hp1 hb1' (SetTable.fits_plain_off hfits) rfl (hll.trans hled) ?_
   ·intro b s₁ Q' hq; cases b <;> first | exact zb hq | exact zY hq
   ·intro h' hsb hS'; dsimp only; exact zb (h h' _ hsb hS')
  ·rename_i hnp;refine za (zb ?_);simp only [↓reduceIte];refine Qla ?_ ho hex hd hel1 hp1 hb1' hfits (by simpa using hnp) (hll.trans hled) ?_
   ·intro b s₁ Q' hq; cases b <;> first | exact zb hq | exact zY hq
   ·intro h' hsb hS'; dsimp only; exact zb (h h' _ hsb hS')
theorem isS (x:Str) (t:Tok):(PySem.strKind prog w).is x (.str x t)=true:=by
 show Value.isStrOf x (.str x t)=true;simp [Value.isStrOf]
theorem map_getD (ns:List Str):(List.range' 0 ns.length).map (fun i=>ns.getD i ⟨#[]⟩)=ns:=by
 apply List.ext_getElem
 ·simp
 ·intro i h1 h2;simp [jf,h2]
theorem Qql {R:Result→Shared→Prop}{I:Addr}{fp wr:List Addr}{G:Array GenState→Array GenState→Prop}{n:Nat}{P:Nat→Value→Prop}{St:Nat→Shared→Prop} (W:WalksS prog w A.in1 I fp wr G n P St) (S:Addr) (hSf:S∉fp)
  (val:Nat→Str) (hval:∀i v,P i v→∃t,v = .str (val i) t) (hb:n+1 < scanBound) :
  ∀(k i:Nat) (s:Shared) (ss:List Str),n - i=k→i≤n→St i s→ss.length≤i→Qdz prog w s.heap S ss →
   (∀s',Moved (S::wr) G s s'→Qdz prog w s'.heap S (((List.range' i (n - i)).map val).foldl Qft ss)→R (.ok (.ret .none)) s') →
   codeAny (model prog w) A (.builtin "set.update.loop" ⟨[.ref S,.ref I],[]⟩) R s:=by
 have hSw:S∉wr:=fun h=>hSf (W.sub _ h)
 have hsub:∀b∈wr,b∈S::wr:=fun b hb=>zv _ hb
 intro k
 induction k with
 | zero =>
  intro i s ss hk hi hst hle hS hR
  have hin:i=n:=by omega
  subst hin;refine zZ PyProof.Rows.F.entry_set_update_loop ?_;rw [Around.under_plainId PyProof.Rows.F.plain_set_update_loop _];show wpAny _ A.in1 (pyNext (.ref I) >>= _) _ _ s;refine za (W.done s _ _ hst fun s' hm=>?_);show wpAny _ A.in1 (ret Value.none) _ _ s';refine zb (hR s' (hm.mono hsub) ?_);rw [Nat.sub_self]
  exact hS.at fun o e=>hm.heap S _ hSw e
 | succ k ih =>
  intro i s ss hk hi hst hle hS hR
  have hlt:i < n:=by omega
  refine zZ PyProof.Rows.F.entry_set_update_loop ?_;rw [Around.under_plainId PyProof.Rows.F.plain_set_update_loop _];show wpAny _ A.in1 (pyNext (.ref I) >>= _) _ _ s;refine za (W.item i s _ _ hlt hst fun v s' hP hst' hm=>?_);obtain ⟨t,rfl⟩:=hval i v hP
  have hS':Qdz prog w s'.heap S ss:=hS.at fun o e=>hm.heap S _ hSw e
  show wpAny _ A.in1 (holding [Value.str (val i) t] (setAdd S (.str (val i) t)) >>= _) _ _ s';refine za (zH ?_);unfold setAdd;refine zH ?_;refine za ((PySem.strKind prog w).pyHash (k:=val i) (isS _ _) ?_)
  refine Qsd (s:={ s' with toks:=s'.toks+1 }) hS' (by omega) fun h' b hsb hS2=>?_
  refine zb ⟨plainId_quiet PyProof.Rows.F.plain_set_update_loop _,ih (i+1) _ (Qft ss (val i)) (by omega) hlt (W.frame _ s' _ _ hst' (Nat.le_succ _) fun b hb o e=>?_) ?_ hS2 fun s'' hm'' hS''=>?_⟩
  ·rw [hsb.2 b (fun h:b=S=>hSf (by rw [←h]; exact hb))]; exact e
  ·unfold Qft
   split
   ·omega
   ·rw [zA,zX]; omega
  ·refine hR s'' (Moved.trans W.gtrans ((hm.mono hsub).then_heap (Nat.le_succ _) fun b o hb e=>?_) hm'') ?_
   ·rw [hsb.2 b (fun h:b=S=>hb (by rw [h]; exact zu))]; exact e
   ·rw [show n - i=(n - (i+1))+1 by omega,List.range'_succ,zc,List.foldl_cons];exact hS''
theorem Qse (x:Value) {Q₁:Value→Shared→Prop}
  (h:Q₁ (.ref s.heap.objs.size) { s with heap:=s.heap.push { cls:=.type "set",dict:=none,data:=.set #[] 0 (.fresh 0 0 (!w.params.followText "set-order")) } }) :
  codeAny (model prog w) A (.call (.builtin "set.__new__") ⟨[.type "set",x],[]⟩) (wants Q₁ E) s:=by
 refine codeAny_of_tree ?_;show wpAny _ A.in1 (do checkBuiltinCall "set.__new__" ⟨[.type "set",x],[]⟩; again (.builtin "set.__new__" ⟨[.type "set",x],[]⟩)) _ _ s;refine za (jm (PySem.F.newCall_set_1 x) (zb ⟨plainId_quiet PySem.F.plain_set_new _,zZ PySem.F.entry_set_new ?_⟩));rw [Around.under_plainId PySem.F.plain_set_new _];unfold Builtin.«set.__new__» Builtin.Frozenset.newClass;have hsub:=sub_set_self;obtain ⟨hp,g,d,tk,os⟩:=s;dsimp only
 wp_walk
 refine wpAny_askSetting (zb ?_);dsimp only;simp only [newObj];refine za (wpAny_alloc (zb ?_));exact zb h
theorem Qpw {h:Heap}:Qdz prog w (h.push { cls:=.type "set",dict:=none,data:=.set #[] 0 (.fresh 0 0 (!w.params.followText "set-order")) }) h.objs.size [] :=
 ⟨_,#[],0,_,zw _ rfl,⟨rfl,rfl,rfl⟩,rfl,fun e he=>by simp at he,.nil,by decide,by rfl,.inl rfl,rfl⟩
set_option maxHeartbeats 8000000 in
theorem Qui {l:Addr}{items:Array Value}{ns:List Str}{Q:Value→Shared→Prop}
  (hh:A.handled=none) (hl:s.heap.IsList l items) (hi:StrsAre items.toList ns) (hb:items.size+1 < scanBound)
  (h:∀(h':Heap) (tk:Nat),Qdz prog w h' s.heap.objs.size (ns.foldl Qft []) →
   (∀b o,s.heap.get? b=some o→h'.get? b=some o)→Q (.ref s.heap.objs.size) { s with heap:=h',toks:=tk }) :
  wpAny (model prog w) A (call (.type "set") [.ref l]) Q E s:=by
 obtain ⟨c,tl,hmro⟩:=PySem.F.called_set.mro;have hmade:=PySem.F.called_set.made;have hsub:=PySem.F.called_set.sub;refine jj (codeAny_of_tree ?_);show wpAny _ _ (callAny (.type "set") _) _ _ _;refine zb ⟨Code.quiet_builtin _ (by decide +kernel),zZ PySem.F.entry_type_call ?_⟩;rw [Around.under_plain (weight_type_call_type "set" [.ref l] []) rfl];have h1:=PySem.F.called_set.notType;have h2:=PySem.F.called_set.canCreate;have hct:=PySem.F.typeCall_set_1 (.ref l)
 repeat (any_goals (first | assumption | wp_step))
 generalize hO:({ cls:=.type "set",dict:=none,data:=.set #[] 0 (.fresh 0 0 (!w.params.followText "set-order")) }:Obj)=O0
 refine codeAny_mono (Qse (.ref l) (E:=E) (Q₁:=fun obj s₁=>obj = .ref s.heap.objs.size∧s₁ = { s with heap:=s.heap.push O0 }) (by rw [hO]; exact ⟨rfl,rfl⟩)) fun r s₁ hr=>?_
 cases r with
 | error e=>exact hr
 | ok fl =>
  cases fl with
  | ret obj =>
   obtain ⟨rfl,rfl⟩:=hr
   have hfr:Qdz prog w (s.heap.push O0) s.heap.objs.size []:=by rw [←hO]; exact Qpw
   have hS:(s.heap.push O0).get? s.heap.objs.size=some O0:=by rw [←hO]; exact zw _ rfl
   have hcls:O0.cls = .type "set":=by rw [←hO]
   have hdat:O0.data = .set #[] 0 (.fresh 0 0 (!w.params.followText "set-order")):=by rw [←hO]
   have hT:Shared.TypeIs { s with heap:=s.heap.push O0 } (.ref s.heap.objs.size) "set":=⟨_,hS,hcls⟩;have hli:=PySem.F.called_set.init.lookup;have hbi:=PySem.F.called_set.init.bind (.ref s.heap.objs.size)
   repeat (any_goals (first | assumption | wp_step))
   refine codeAny_mono (codeAny_call_builtin (R:=wants (fun r s₂=>r = .none∧∃h' tk,s₂ = { s with heap:=h',toks:=tk } ∧
     Qdz prog w h' s.heap.objs.size (ns.foldl Qft []) ∧
     (∀b o,s.heap.get? b=some o→h'.get? b=some o)) E) PySem.F.called_set.init.plain PySem.F.entry_set_init (check_set_init_1 hT ?_)) fun r₂ s₂ hr₂=>?_
   ·subst hO;obtain ⟨ol,hol,hcl,nl,hdl⟩:=hl;obtain ⟨ocls,odict,odata,oslots⟩:=ol;simp only at hcl hdl;subst hcl; subst hdl;have hol':(s.heap.push { cls:=.type "set",dict:=none,data:=.set #[] 0 (.fresh 0 0 (!w.params.followText "set-order")) }).get? l=some { cls:=.type "list",dict:=odict,data:=.seq items nl,slots:=oslots }:=zn _ hol;have hsls:=PySem.F.sub_list_set;have hslf:=PySem.F.sub_list_frozenset
    have hne:(Value.type "list" == Value.type "dict")=false:=by decide
    have hl1:(s.heap.push { cls:=.type "set",dict:=none,data:=.set #[] 0 (.fresh 0 0 (!w.params.followText "set-order")) }).IsList l items:=⟨_,hol',rfl,nl,rfl⟩;unfold Builtin.«set.__init__» noKeywords Builtin.Frozenset.updateFrom
    generalize hPI:pyIter=PI
    wp_walk
    subst hPI;refine wpAny_pyIter_list hl1 ?_;refine za (wpAny_runValue ?_);have hlS:l < s.heap.objs.size:=zf hol
    have hh3:A.in1.in1.in1.handled=none:=by simp [hh]
    have hneI:l≠(s.heap.push { cls:=.type "set",dict:=none,data:=.set #[] 0 (.fresh 0 0 (!w.params.followText "set-order")) }).objs.size:=by
     rw [Heap.size_push]; exact zt (jg hlS)
    have hSf:s.heap.objs.size∉[(s.heap.push { cls:=.type "set",dict:=none,data:=.set #[] 0 (.fresh 0 0 (!w.params.followText "set-order")) }).objs.size,l]:=by
     rw [Heap.size_push]; simp only [zd,zr,List.not_mem_nil,or_false,not_or];exact ⟨zt (ji _),Nat.ne_of_gt hlS⟩
    have hnl:ns.length=items.size:=by rw [←hi.strs,zh,Array.length_toList]
    have hval:∀(i:Nat) (v:Value),items[i]? = some v→∃t,v = .str ((fun i=>ns.getD i ⟨#[]⟩) i) t:=fun i v hv=>by
     have hv':items.toList[i]? = some v:=by rw [Array.getElem?_toList]; exact hv
     obtain ⟨x,t,rfl⟩:=hi.all v (zO hv');refine ⟨t,?_⟩
     have hm:(items.toList.map strOf)[i]? = some x:=by rw [zx,hv']; rfl
     rw [hi.strs] at hm;show Value.str x t=Value.str (ns.getD i ⟨#[]⟩) t;rw [jf,hm];rfl
    refine Qql ((Walks.list hh3 _ l hneI items).toS) s.heap.objs.size
     hSf (fun i=>ns.getD i ⟨#[]⟩) hval hb (items.size - 0) 0 _ [] (by omega) (Nat.zero_le _)
     ⟨⟨_,zw _ rfl,rfl,rfl⟩,(hl1.push _)⟩ (ze _) (Qpw.at fun o e=>zn _ e) ?hR
    intro s' hm hS';rw [Nat.sub_zero,←hnl] at hS';rw [map_getD] at hS';obtain ⟨h',g',d',tk',os'⟩:=s';have eg:g'=s.gens:=hm.gens;have ed:d'=s.drawn:=hm.drawn;have eo:os'=s.os:=hm.os;subst eg; subst ed; subst eo;show wpAny _ _ _ _ _ _;refine zb ?_;show wpAny _ _ (ret Value.none) _ _ _;refine zb ⟨rfl,h',tk',rfl,hS',fun b o e=>?_⟩;have hb':=zf e;have hb1:b≠s.heap.objs.size:=zt hb'
    have hb2:b≠(s.heap.push { cls:=.type "set",dict:=none,data:=.set #[] 0 (.fresh 0 0 (!w.params.followText "set-order")) }).objs.size:=by
     rw [Heap.size_push]; exact zt (jg hb')
    exact hm.heap b o (by simp only [zd,zr,List.not_mem_nil,or_false,not_or]; exact ⟨hb1,hb2⟩) (zn _ (zn _ e))
   ·cases r₂ with
    | error e=>exact hr₂
    | ok fl₂ =>
     cases fl₂ with
     | ret r =>
      obtain ⟨rfl,h',tk,rfl,hS',hk'⟩:=hr₂
      repeat (any_goals (first | assumption | wp_step))
      exact h _ _ hS' hk'
     | _=>exact hr₂.elim
  | _=>exact hr.elim
end
def ItS (h:Heap) (I a:Addr) (first:Value) (i n ep:Nat):Prop:=∃o,h.get? I=some o∧o.cls = .type "set_iterator"∧o.data = .fields #[first,.int i 0,.ref a,.int n 0,.int ep 0]
section
variable {prog:Program}{w:World}{A:Around}{E:Value→Shared→Prop}{s:Shared}{a:Addr}{ss:List Str}{o:Obj}{es:Array (Int×Value)}{ep:Nat}{t:SetTable}
theorem ItS.typeIs {I:Addr}{first:Value}{i n:Nat} (h:ItS s.heap I a first i n ep):s.TypeIs (.ref I) "set_iterator":=let ⟨o,h1,h2,_⟩:=h; ⟨o,h1,h2⟩
end
section
variable {prog:Program}{w:World}{A:Around}{E:Value→Shared→Prop}{s:Shared}{a:Addr}{ss:List Str}{o:Obj}{es:Array (Int×Value)}{ep:Nat}{t:SetTable}
theorem ItS.at {h h':Heap}{I:Addr}{first:Value}{i n:Nat} (x:ItS h I a first i n ep) (e:∀o,h.get? I=some o→h'.get? I=some o):ItS h' I a first i n ep:=let ⟨o,ho,r⟩:=x; ⟨o,e _ ho,r⟩
theorem Qo3.at {h h':Heap} (x:Qo3 prog w h a ss o es ep t) (e:∀o,h.get? a=some o→h'.get? a=some o):Qo3 prog w h' a ss o es ep t:=⟨e _ x.1,x.2⟩
end
section
variable {X:Cx}
variable {md:List Md}{P:Pt}
end
structure Qz9 (mg:Str→Option Value):Prop extends Qvq mg where
 set_:mg "set" = none
def lt2 (a1 a2 b1 b2:Str):Bool:=if a1=b1 then decide (a2.cps.toList < b2.cps.toList) else decide (a1.cps.toList < b1.cps.toList)
section
variable {prog:Program}{w:World}{A:Around}{E:Value→Shared→Prop}{s:Shared}{K:Frag}{H F:Hp}{as:List Addr}
end
section
variable {X:Cx}
end
end L2
namespace L2
open PySem PySem.Spec PyProof.Rows
section
variable {X:Cx}{md:List Md}{P:Pt}{R:RR}
end
section
variable {X:Cx}{md:List Md}{P:Pt}
variable {tg iter elt:Expr}{ifs:List Expr}{scope:Scope}{pos:Pos}{mi:M D}{g:MG}{t:M Bool}{e:M D}
end
end L2
namespace L2
open PySem PySem.Spec PyProof.Rows PySem.W
section
variable {X:Cx}{md:List Md}{P:Pt}{R:RR}
def exW (X:Cx) (x:Xc) (H:Hp):Prop:=∀(pins:List (Addr×Obj)) (σ:St) (s:Shared) (h':Heap) (ea C:Addr) (vs:List Value),X.mg x.cls=some (.ref C)→Inv X pins σ H s→Heap.MadeExcOf s.heap h' ea (.ref C) vs→X.xe (.ref ea) { s with heap:=h' }
def Qhs (K:Frag) (mg:Str→Option Value) (md:List Md) (P:Pt) (R:RR) (W:Xc→Hp→Prop) (D:Ends) (H F:Hp) (as:List Addr):Fl→Prop
 | .ex x O'=>∀H' F' as',GrS P H F as H' F' as'→RlO K mg O' H' F' as'→W x H'
 | f=>Qic K mg md P R D H F as f
def Qvw (K:Frag) (mg:Str→Option Value) (md:List Md) (P:Pt) (R:RR) (W:Xc→Hp→Prop) (m:MS):TS:=fun D σ H =>
 ∃ρ O F as,RlO K mg O H F as∧SlO K md P ρ σ H F as∧Qhs K mg md P R W D H F as (m ρ O)
def VSX (X:Cx) (md:List Md) (P:Pt) (R:RR) (st:Stmt) (m:MS):Prop:=PS X st (Qvw X.K X.mg md P R (exW X) m)
def Qjk (X:Cx) (md:List Md) (P:Pt) (R:RR) (st:List Stmt) (m:MS):Prop:=PSs X st (Qvw X.K X.mg md P R (exW X) m)
theorem Qhs.gr {K:Frag}{mg:Str→Option Value}{W:Xc→Hp→Prop}{D:Ends}{H F H' F':Hp}{as as':List Addr}{f:Fl} (g:GrS P H F as H' F' as') (h:Qhs K mg md P R W D H F as f):Qhs K mg md P R W D H' F' as' f:=by
 cases f with
 | ex x O'=>exact fun H2 F2 as2 g2 r2=>h H2 F2 as2 (g.trans g2) r2
 | nx ρ' O'=>exact fun σ' H2 F2 as2 g2 r2 s2=>h σ' H2 F2 as2 (g.trans g2) r2 s2
 | bk ρ' O'=>exact fun σ' H2 F2 as2 g2 r2 s2=>h σ' H2 F2 as2 (g.trans g2) r2 s2
 | ct ρ' O'=>exact fun σ' H2 F2 as2 g2 r2 s2=>h σ' H2 F2 as2 (g.trans g2) r2 s2
 | rt d O'=>exact fun v H2 F2 as2 g2 r2 s2=>h v H2 F2 as2 (g.trans g2) r2 s2
 | no=>exact h
def msN (m:MS):MS:=fun ρ O=>match m ρ O with
 | .ex _ _=>.no
 | f=>f
theorem Qo5 {st:Stmt}{m:MS} (h:VS X md P R st m):VSX X md P R st (msN m):=h.imp fun D σ H q=>by
 obtain ⟨ρ,O,F,as,r,s,k⟩:=q;refine ⟨ρ,O,F,as,r,s,?_⟩;unfold msN at k
 cases e:m ρ O with
 | ex x O'=>rw [e] at k; exact False.elim k
 | nx ρ' O'=>rw [e] at k; exact k
 | bk ρ' O'=>rw [e] at k; exact k
 | ct ρ' O'=>rw [e] at k; exact k
 | rt d O'=>rw [e] at k; exact k
 | no=>rw [e] at k; exact k
theorem QgM:Qjk X md P R [] QaH:=QkH.imp fun D σ H q=>by
 obtain ⟨ρ,O,F,as,r,s,k⟩:=q;exact k σ H F as GrS.refl r s
theorem Qdd {st:Stmt}{rest:List Stmt}{a b:MS} (h1:VSX X md P R st a) (h2:Qjk X md P R rest b):Qjk X md P R (st::rest) (Qah a b):=(QhJ h1 h2).imp fun D σ H q=>by
 obtain ⟨ρ,O,F,as,r,s,k⟩:=q;refine ⟨ρ,O,F,as,r,s,?_⟩;unfold Qah at k
 cases e:a ρ O with
 | nx ρ1 O1 =>
  rw [e] at k
  exact fun σ' H' F' as' g r' s'=>⟨ρ1,O1,F',as',r',s',Qhs.gr g k⟩
 | ex x O'=>rw [e] at k; exact k
 | bk ρ' O'=>rw [e] at k; exact k
 | ct ρ' O'=>rw [e] at k; exact k
 | rt d O'=>rw [e] at k; exact k
 | no=>rw [e] at k; exact k
def QeR (t:M Bool) (a b:MS):MS:=fun ρ O=>match t ρ O with
 | .ok v O'=>if v=true then a ρ O' else b ρ O'
 | _=>.no
theorem QsD {c:Expr}{a b:List Stmt}{pos:Pos}{t:M Bool}{ma mb:MS} (hc:TsE X md P c t) (ha:Qjk X md P R a ma) (hb:Qjk X md P R b mb):VSX X md P R (.If c a b pos) (QeR t ma mb):=(Qoy hc ha hb).imp fun D σ H q=>by
 obtain ⟨ρ,O,F,as,r,s,k⟩:=q;unfold QeR at k
 cases e:t ρ O with
 | ok v O' =>
  rw [e] at k;refine ⟨ρ,_,F,as,_,_,r,s,e,fun H1 F1 as1 g r1=>?_⟩;dsimp only at k
  cases v with
  | true =>
   rw [if_pos rfl] at k ⊢;exact ⟨ρ,O',F1,as1,r1,s.step g,Qhs.gr g.toS k⟩
  | false =>
   rw [if_neg zg] at k ⊢;exact ⟨ρ,O',F1,as1,r1,s.step g,Qhs.gr g.toS k⟩
 | ex x O'=>rw [e] at k; exact False.elim k
 | no=>rw [e] at k; exact False.elim k
end
def bmV:List Value:=[.type "ValueError",.type "Exception",.type "BaseException",.type "object"]
def Qr3 (K:Frag) (mg:Str→Option Value) (c:Str):Prop:=∃C,mg c=some (.ref C)∧excIn K C bmV "ValueError.__new__" = true
theorem Qtx {K:Frag}{h:Heap}{C:Addr}{id:String} (hK:K.In h) (hq:excIn K C bmV id=true) :
  ∃bm N nm qn bs hd sn sub ab col dd k0 k1 k2 k3 k5 mN,h.get? C=some (excClassObj nm qn C N bs bm hd sn sub ab col dd k0 k1 k2 k3 k5 id)∧h.Ns N mN∧mN "__init__" = none∧OwnTail h bmV bm:=by
 unfold excIn at hq;split at hq
 case h_2=>cases hq
 case h_1 dd cd sl lk =>
  split at hq
  case h_2=>cases hq
  case h_1 C1 bm k0 k1 k2 k3 nn k5 e1 e2 =>
   rw [zm,zm,zm,zm,zm] at hq;obtain ⟨⟨⟨⟨⟨p1,p2⟩,p3⟩,p4⟩,p5⟩,p6⟩:=hq;have q1:C1=C:=beq_iff_eq.mp p1;have q2:nn=id:=beq_iff_eq.mp p2;subst q1;subst q2
   rcases cd with ⟨nm,bs,mro,ns,qn,hd,sn,sub,ab,col,del⟩
   have e1':mro = .ref C1::bm:=e1
   have p3':del=false:=by
    have z:(!del)=true:=p3
    cases del with
    | false=>rfl
    | true=>cases z
   subst e1';subst p3'
   rcases sl with ⟨ls⟩
   have e2':ls = [k0,k1,k2,k3,some (.builtin nn),k5]:=e2;subst e2';exact ⟨bm,ns,nm,qn,bs,hd,sn,sub,ab,col,dd,k0,k1,k2,k3,k5,_,hK _ _ lk,.of_isNs (isNs_of_in hK p5),nsMap_none_of_in hK p5 (beq_iff_eq.mp p6),tail_of_in hK p4⟩
section
variable {X:Cx}{md:List Md}{P:Pt}{R:RR}
def QgU (c:Str):MS:=fun _ O=>.ex ⟨c,[]⟩ O
theorem Qmu {c:Str}{v:V}{p cpos pos:Pos}{a:Expr} (hE:Qr3 X.K X.mg c) (hc:X.calm=true) (ha:PE X a (tC v)) (hg:Gl X c:=by rfl) (hd:(c == ("__debug__":Str))=false:=by decide)
  (hs1:starEach [a] X.env=(false,eval a X.env)::starEach [] X.env:=by rfl) (hpl:(backTo cpos (starEach [a] X.env)).any (·.1)=false:=by rfl) :
  VSX X md P R (.Raise (some (.Call (.Name c p) [a] [] cpos)) none pos) (QgU c):=by
 intro pins s σ H D I q;obtain ⟨ρ,O,F,as,r,sl,k⟩:=q;obtain ⟨C,hC,hx⟩:=hE;obtain ⟨bm,N,nm,qn,bs,hdd,sn,sub,ab,col,dd,k0,k1,k2,k3,k5,mN,oC,hN,hni,T⟩:=Qtx I.ok.mod.kin hx;refine wpAny_Raise_call_subT (C:=C) (nm:=nm) (q:=qn) (N:=N) (bs:=bs) (bm:=bm) (hdct:=hdd) (sn:=sn) (sub:=sub) (ab:=ab) (col:=col) (dd:=dd) (k0:=k0) (k1:=k1) (k2:=k2) (k3:=k3) (k5:=k5) PySem.F.excBase_ValueError (mN:=mN) (T.hasType PySem.F.excBase_ValueError.hasBase) (I.ok.hd hc) hpl hni (QfF I hg hC ⟨rfl,?_⟩ hd);have hA:=Qcm ha Qd2 hs1 cpos pins s σ H (fun vs H1=>vs.length=1∧H1=H) I ⟨rfl,rfl⟩;rw [hs1] at hA ⊢
 refine Calls.evalArgs_plain (thn hA fun us s1 z=>?_);obtain ⟨vs,H1,I1,r1,e1,e2⟩:=z;subst e2;refine ⟨rfl,?_,I1.bk _ _ oC,hN.keeps I1.bk,T.keeps I1.bk,fun h' ea hm=>?_⟩
 ·show us.length≤sizeLine;rw [←r1.length,e1];decide
 ·exact k H1 F as GrS.refl r pins σ s1 h' ea C _ hC I1 hm
end
theorem Qbc.has {P:Program}{w:World}{H:Hp}{h:Heap}{a:Addr}{o:HO} (x:Qbc P w H h a o):∃u,h.get? a=some u:=by
 cases o with
 | lst xs=>exact let ⟨_,_,_,_,e⟩:=x; ⟨_,e⟩
 | tup xs=>exact let ⟨_,_,_,_,e,_⟩:=x; ⟨_,e⟩
 | dK kvs=>exact let ⟨_,_,_,_,_,_,_,e,_⟩:=x; ⟨_,e⟩
 | dT kvs=>exact let ⟨_,_,_,_,_,_,_,e,_⟩:=x; ⟨_,e⟩
 | set S n=>exact let ⟨_,_,_,_,e,_⟩:=x; ⟨_,e⟩
 | ins C dx fs=>exact let ⟨_,_,_,e,_⟩:=x; ⟨_,e⟩
 | own y=>exact let ⟨_,e⟩:=x; ⟨_,e⟩
 | xd fs=>exact let ⟨_,⟨_,_,_,e,_⟩,_⟩:=x; ⟨_,e⟩
 | rng lo hi=>exact let ⟨_,_,_,e⟩:=x; ⟨_,e⟩
 | frz ob u=>exact ⟨_,x.1⟩
 | tbl ps=>exact ⟨_,x⟩
 | met f y=>exact ⟨_,x⟩
 | ext φ=>exact x.2.1
theorem HOk.only {P:Program}{w:World}{H:Hp}{h h':Heap} (x:HOk P w H h) (k:∀b v u,H b=some v→h.get? b=some u→h'.get? b=some u):HOk P w H h':=fun a o e =>
 (x a o e).stay (fun b u hb q=>by
  rcases hb with rfl | hb
  ·exact k _ _ u e q
  ·exact k b _ u hb q) (fun _ q=>q) fun _ _ q=>q
theorem Un.then {fs:List Addr}{H0 H:Hp}{h0 h1 h2:Heap} (u:Un fs [] H0 H h0 h1) (st:∀b o,h1.get? b=some o→b∉fs→(∃o',h0.get? b=some o')→h2.get? b=some o)
  (fr:∀b o,h1.get? b=some o→b∈fs→∃sl,h2.get? b=some { o with slots:=sl }):Un fs [] H0 H h0 h2 where
 keep:=fun b o q n nf nx=>st b o (u.keep b o q n nf nx) nf ⟨o,q⟩
 slot:=fun b o q n hb nx=>by
  obtain ⟨sl,e⟩:=u.slot b o q n hb nx;obtain ⟨sl2,e2⟩:=fr b _ e hb;exact ⟨sl2,e2⟩
 free:=u.free
 there:=fun b o q nx=>by
  obtain ⟨o',e⟩:=u.there b o q nx
  by_cases hb:b∈fs
  ·obtain ⟨sl,e2⟩:=fr b o' e hb;exact ⟨_,e2⟩
  ·exact ⟨o',st b o' e hb ⟨o,q⟩⟩
 tups:=u.tups
 frzs:=u.frzs
 tbls:=u.tbls
def CXE (Pr:Program) (w:World):CXT:=fun outer H s E e s'=>∃(ea C:Addr) (H':Hp) (B:Heap) (a0:Value),e = .ref ea∧s'.os=s.os∧AllBare s'.gens∧Un (frs outer) [] H H' s.heap s'.heap∧HOk Pr w H' s'.heap ∧
 Heap.FlyingW B outer ea (.ref C) a0 s'.heap∧(∀b u,H' b=some u→∃o,B.get? b=some o)∧(∀b o,s.heap.get? b=some o→b∉frs outer→∃o',B.get? b=some o')∧E (.ref C) none H'
theorem Qt3 {Pr:Program}{w:World}{K:Frag}{mg:Str→Option Value}{base:Heap}{N:List Str}{qual:Str}{scope:Scope}{f:Addr}{cd:Value}{A:Around}{outer:List Env}{s0:Shared}{H0:Hp}{E:XK}
  {pins:List (Addr×Obj)}{σ:St}{H:Hp}{s:Shared}{h':Heap}{ea C:Addr}{vs:List Value} (I:Inv (Qeo (CXE Pr w) Pr w K mg base N qual scope f cd A outer s0 H0 E) pins σ H s) (hm:Heap.MadeExcOf s.heap h' ea (.ref C) vs) (hE:E (.ref C) none H) :
  (Qeo (CXE Pr w) Pr w K mg base N qual scope f cd A outer s0 H0 E).xe (.ref ea) { s with heap:=h' }:=by
 have stk:=I.stack;have sfr:=I.stkFree;have hfr:=I.ok.frames;have hb0:=I.base;show wpAny (model Pr w) (A.deeper (envOfC qual scope s0.heap.objs.size f cd)) (leaving (envOfC qual scope s0.heap.objs.size f cd) (.ref ea)) (fun _ s''=>CXE Pr w outer H0 s0 E (.ref ea) s'') _ { s with heap:=h' };refine wpAny_leaves_madeW (base:=hideAll s.heap (frs (envOfC qual scope s0.heap.objs.size f cd::outer))) (h:=s.heap) hfr rfl (fun b o q=>of_hideAll _ q) (funFrames_hide stk fun env he a ha=>List.mem_filterMap.mpr ⟨env,he,ha⟩) hm ?_;intro h2 t fl tup tn up
 have keepB:∀b o,s.heap.get? b=some o→b∉frs (envOfC qual scope s0.heap.objs.size f cd::outer)→h2.get? b=some o:=fun b o q n=>fl.1 b o (hideAll_get _ q n)
 have QeC:∀b o,s0.heap.get? b=some o→b∉frs outer→b∉frs (envOfC qual scope s0.heap.objs.size f cd::outer):=fun b o q n z=>by
  rcases zd.mp (show b∈s0.heap.objs.size::frs outer from z) with rfl | z
  ·exact absurd (zf q) (zN _)
  ·exact n z
 have sub:∀b,b∈frs outer→b∈frs (envOfC qual scope s0.heap.objs.size f cd::outer):=fun b z=>zv _ z
 have tr:∀b u,H b=some u→∃o,s.heap.get? b=some o∧b∉frs (envOfC qual scope s0.heap.objs.size f cd::outer):=fun b u e=>by
  obtain ⟨o,q⟩:=(I.hok b u e).has;exact ⟨o,q,fun z=>by rw [sfr b z] at e; cases e⟩
 have frm:∀b o,s.heap.get? b=some o→b∈frs outer→∃sl,h2.get? b=some { o with slots:=sl }:=fun b o q z=>by
  obtain ⟨_,o',q',nf⟩:=stk.mem (sub b z);rw [q] at q';cases q';exact up b o (hm.keeps b o q) nf
 refine ⟨ea,C,H,_,_,rfl,I.os,I.bare,Un.then hb0 (fun b o q n z=>keepB b o q (by obtain ⟨o',z⟩:=z; exact QeC b o' z n)) frm,I.hok.only fun b v u e q=>keepB b u q (by obtain ⟨_,_,n⟩:=tr b v e; exact n),fl,fun b u e=>?_,fun b o q n=>?_,hE⟩
 ·obtain ⟨o,q,n⟩:=tr b u e;exact ⟨o,hideAll_get _ q n⟩
 ·obtain ⟨o',q'⟩:=hb0.there b o q (fun z=>nomatch z);exact ⟨o',hideAll_get _ q' (QeC b o q n)⟩
def QkI (P:Program) (w:World) (K:Frag) (mg:Str→Option Value) (base:Heap) (x:Str) (ps:List Str) (k:Nat) (sp:Sp):Prop :=
 ∃f fd,mg x=some (.ref f)∧keepIn K (.ref f)=true∧Binds K fd ps []∧Qb7 P w K mg base (CXE P w) k f fd ps sp∧∃oc od osl,K.lookup f=some ⟨oc,od,.func fd,osl⟩
def QxC (K:Frag) (mg:Str→Option Value) (R:RR) (H F:Hp) (as:List Addr) (Q:VK) (E:XK):Res D→Prop
 | .ok d O'=>∀v H' F' as',Gr H F as H' F' as'→RlO K mg O' H' F' as'→R (fun a=>H a=none) H' F' as' v d→Q v H'
 | .ex x O'=>∀C H' F' as',mg x.cls=some (.ref C)→Gr H F as H' F' as'→RlO K mg O' H' F' as'→E (.ref C) none H'
 | .no=>False
def QiZ (K:Frag) (mg:Str→Option Value) (pm:List Md) (R:RR) (c:List D→Qac→Res D):Sp:=fun vs H Q E =>
 ∃ds O F as,RlO K mg O H F as∧Qbp K H F as pm vs ds∧QxC K mg R H F as Q E (c ds O)
section
variable {Pr:Program}{w:World}{K:Frag}{mg:Str→Option Value}{base:Heap}
theorem QxQ {x:Str}{st:Stmt}{N ps:List Str}{k:Nat} (Df:Def K mg x st) (S:QaF N ps (Qao st))
  (hb:∀(kV doc pm:Value) (an:Option Addr) (cdv ct:Value) (us:List Value),us.length=ps.length→bindArgs (PySem.W.fnOf x x (Qce st) (Qbs st) (Qao st) .none kV doc pm an cdv ct) ⟨us,[]⟩=pure (ps.zip us))
  (pm lm:List Md) {R:RR}{b:MS} (hR:Qeb R) (hR0:∀N H F as,R N H F as .non .non) (hpl:pm.length=ps.length:=by rfl) (hl:(pm++lm).length=N.length:=by rfl) (hp:∀m∈pm,m≠.o:=by decide)
  (body:∀(f:Addr) (cdv:Value) (A:Around) (outer:List Env) (s:Shared) (H:Hp) (E:XK),QaS k (A.deeper (envOfC x (Qao st) s.heap.objs.size f cdv))→∀P,Qjk (Qeo (CXE Pr w) Pr w K mg base N x (Qao st) f cdv A outer s H E) (pm++lm) P R (Qbs st) b) :
  QkI Pr w K mg base x ps (k+1) (QiZ K mg pm R (Qba N.length b)):=by
 obtain ⟨f,fd,hm,Fn⟩:=Df;have hbi:=Fn.binds hb;have hkp:=Fn.kp;obtain ⟨oc,od,kV,doc,pmv,an,cdv,ct,osl,rfl,lk,hcd⟩:=Fn.ex;refine ⟨f,_,hm,hkp,hbi,Qtb lk hcd S (fun vs H Q E h=>?_) fun A outer s H vs Q E hr h=>?_,oc,od,osl,lk⟩
 ·obtain ⟨ds,O,F,as,r,a,_⟩:=h;rw [a.len.1,hpl]
 ·obtain ⟨ds,O,F,as,r,a,q⟩:=h;refine ⟨_,body f cdv A outer s H E hr (Pt.all H),?_⟩;refine ⟨_,O,F,as,r,Qgj a hl hp,?_⟩;unfold Qba at q
  cases eb:b (ds.map some++List.replicate (N.length - ds.length) none) O with
  | rt d' O2 =>
   rw [eb] at q
   exact fun v H' F' as' g r' hv=>q v H' F' as' g.gr r' (hR _ _ _ _ _ _ _ (fun c hc=>Classical.not_not.mp hc) hv)
  | nx ρ O2 =>
   rw [eb] at q
   exact fun σ' H' F' as' g r' _=>q _ H' F' as' g.gr r' (hR0 _ _ _ _)
  | ex x' O2 =>
   rw [eb] at q
   exact fun H' F' as' g r' pins σ s1 h1 ea C vs1 hC I hme=>Qt3 I hme (q C H' F' as' hC g.gr r')
  | bk _ _=>rw [eb] at q; exact False.elim q
  | ct _ _=>rw [eb] at q; exact False.elim q
  | no=>rw [eb] at q; exact False.elim q
theorem QkI.can {x:Str}{ps:List Str}{k:Nat}{pm:List Md}{R:RR}{c:List D→Qac→Res D} (C:QkI Pr w K mg base x ps k (QiZ K mg pm R c)) (hl:pm.length=ps.length:=by rfl):Can Pr w K mg base x ps k (vSp K mg pm R c):=by
 obtain ⟨f,fd,hm,hk,hb,Fn,lk⟩:=C;refine ⟨f,fd,hm,hk,hb,⟨fun vs H Q E h=>?_,fun A outer s H args us vs Q E hr e0 hbi r h=>?_⟩,lk⟩
 ·obtain ⟨ds,O,F,as,d,O',r,a,_⟩:=h;rw [a.len.1,hl]
 ·obtain ⟨ds,O,F,as,d,O',ro,a,e,q⟩:=h
  have z:QiZ K mg pm R c vs H Q fun _ _ _=>False:=⟨ds,O,F,as,ro,a,by rw [e]; exact q⟩
  refine codeAny_mono (Fn.run A outer s H args us vs Q _ hr e0 hbi r z) fun res s' hq=>?_
  cases res with
  | error ev =>
   obtain ⟨_,_,_,_,_,_,_,_,_,_,_,_,_,f0⟩:=hq;exact f0.elim
  | ok fl=>cases fl <;> exact hq
end
theorem Qvj {l:List Env}{H H':Hp}{h0 h1 h2 B:Heap} (un:Un (frs l) [] H H' h0 h1) (hB:B.StaysIn h1) (ff:h1.FunFrames B l) (old:∀b o,h0.get? b=some o→b∉frs l→∃o',B.get? b=some o') (hB2:B.StaysIn h2) (up:h1.UpToSlots h2):Un (frs l) [] H H' h0 h2 :=
 Un.then un (fun b o q n z=>by
  obtain ⟨o0,z⟩:=z;obtain ⟨o',e⟩:=old b o0 z n;have e1:=hB b o' e;rw [q] at e1;cases e1
  exact hB2 b _ e) fun b o q z=>by
  obtain ⟨_,o',q',nf⟩:=ff.mem z;rw [q] at q';cases q';exact up b o q nf
theorem Qvv {P:Program}{w:World}{H:Hp}{h1 h2 B:Heap} (hok:HOk P w H h1) (trk:∀b u,H b=some u→∃o,B.get? b=some o) (hB:B.StaysIn h1) (hB2:B.StaysIn h2):HOk P w H h2:=hok.only fun b v u e q=>by
 obtain ⟨o,e1⟩:=trk b v e;have e2:=hB b o e1;rw [q] at e2;cases e2;exact hB2 b _ e1
def Cx.inX (X:Cx) (ea:Addr) (oe:Obj):Cx:={ X with A:=X.A.mark (some (.ref ea)),calm:=false,pn:=(ea,oe)::X.pn,xe:=fun _ _=>False }
section
variable {X:Cx}{pins:List (Addr×Obj)}{σ:St}{H:Hp}{s:Shared}{ea:Addr}{oe:Obj}
theorem Inv.inX (I:Inv X pins σ H s) (he:s.heap.get? ea=some oe) (hn:H ea=none) (hL:ea≠X.env.locals) (hf:ea∉X.fs) (hd:∀v,oe.data≠.cell v):Inv (X.inX ea oe) pins σ H s:=by
 have ok:=I.ok;refine ⟨⟨ok.mod,ok.kind,ok.glob,ok.blt,ok.above,ok.inj,ok.has,ok.cab,(fun z=>(nomatch z)),ok.frames,ok.stk,ok.exf,ok.bs,ok.bsz,ok.noex,ok.exfs,ok.funs,ok.frf⟩,I.os,I.bare,I.base,I.loc,I.cell,I.free,I.freeC,fun p hp=>?_,I.hok,I.len⟩
 rcases zD.mp hp with hp | hp
 ·rcases zd.mp hp with rfl | hp
  ·exact ⟨he,hn,hL,hf,hd⟩
  ·exact I.pin p (jq _ hp)
 ·exact I.pin p (zJ _ hp)
theorem Inv.outX (ok:X.Ok) (I:Inv (X.inX ea oe) pins σ H s):Inv X pins σ H s :=
 ⟨ok,I.os,I.bare,I.base,I.loc,I.cell,I.free,I.freeC,fun p hp=>I.pin p (by
  rcases zD.mp hp with hp | hp
  ·exact jq _ (zv _ hp)
  ·exact zJ _ hp),I.hok,I.len⟩
end
end L2
namespace L2
open PySem PySem.Spec PyProof.Rows PySem.W PySem.Calls PySem.Builtin PySem.Builtin.ObjectAttr PySem.Builtin.Getset_descriptor
section
variable {prog:Program}{w:World}{A:Around}{E:Value→Shared→Prop}{K:Frag}{a C:Addr}{o:Obj}{h:Heap}{g:Array GenState}{d:Drawn}{t:Nat}{os:OsState}
theorem QrC {R:Result→Shared→Prop}{tp:Value} (X:K.In h) (hx:h.get? a=some o) (hc:o.cls = .ref C) (hm:mroIn K C (.type "object")=some true) (hq:R (.ok (.ret (.ref C))) ⟨h,g,d,t,os⟩) :
  codeAny (model prog w) A (.call (.builtin "getset_descriptor.__get__") ⟨[.builtin "object.__class__",.ref a,tp],[]⟩) R ⟨h,g,d,t,os⟩:=by
 have L0:Looks (model prog w) h (typeOf (.ref a)) (.ref C):=hc ▸ (Looks.ld hx).andThen .now;have L1:=looks_mroIn (M:=model prog w) X hm;refine codeAny_call_builtin KF.slot_gs.plain KF.entry_gs (KF.slot_gs.check _ _ _ _ _ _ _ _ KF.type_class (KF.args_gs _ _ _) ?_); unfold Builtin.«getset_descriptor.__get__» descrGet;rw [dga_obj]; refine za (zb ?_);unfold descrGetter descrCheckInstance descrNameAndClass isInstance; simp only [KF.owner_class]
 repeat lk
 refine ⟨Code.quiet_builtin _ (by decide +kernel),zZ KF.entry_class ?_⟩; unfold Builtin.«object.__class__» shownTypeOf
 repeat lk
 exact hq
structure Qg5 (K:Frag) (C:Addr):Prop where
 ga:findIn K (.ref C) "__getattribute__" = some (some (.builtin "BaseException.__getattribute__"))
 na:findIn K (.ref C) "__getattr__" = some none
 ca:findIn K (.ref C) "__class__" = some (some (.builtin "object.__class__"))
 sp:specialIn K (.builtin "object.__class__") "__get__" = some (some (.builtin "getset_descriptor.__get__"))
 tk:takesIn K (.builtin "object.__class__")=some true
 ob:mroIn K C (.type "object")=some true
 be:mroIn K C (.type "BaseException")=some true
 cl:(clsIn K C).isSome=true
theorem Qrf {tk:Tok}{Q:Fin→Shared→Prop} (F0:Qg5 K C) (X:K.In h) (hx:h.get? a=some o) (hc:o.cls = .ref C) (hq:Q (.done (.ret (.ref C))) ⟨h,g,d,t,os⟩) :
  wpAny (model prog w) A (Builtin.«object.__getattribute__» ⟨[.ref a,.str "__class__" tk],[]⟩) Q E ⟨h,g,d,t,os⟩:=by
 have L0:Looks (model prog w) h (typeOf (.ref a)) (.ref C):=hc ▸ (Looks.ld hx).andThen .now;have L1:=looks_findIn (M:=model prog w) X F0.ca;have L2:=looks_specialIn (M:=model prog w) X F0.sp;have L3:=looks_takesIn (M:=model prog w) X F0.tk;unfold Builtin.«object.__getattribute__»;refine za (jm (a:=(Value.ref a,[Value.str "__class__" tk])) rfl ?_);dsimp only;refine za (zb ?_);refine za (L0.at ?_);unfold find getOf;refine za (za (L1.at (za (L2.at (za ?_)))));unfold dataDescriptor?;refine za (L3.at ?_);rw [if_pos rfl];refine zb ?_;dsimp only;refine za (zY (zb ?_));dsimp only;unfold bindTo;dsimp only
 refine za (zH (jj (QrC X hx hc F0.ob ?_)));exact zb hq
theorem Qpy {nv:Value}{Q:Unit→Shared→Prop} (F0:Qg5 K C) (X:K.In h) (hx:h.get? a=some o) (hc:o.cls = .ref C) (hq:Q () ⟨h,g,d,t,os⟩):wpAny (model prog w) A (checkBuiltinCall "BaseException.__getattribute__" ⟨[.ref a,nv],[]⟩) Q E ⟨h,g,d,t,os⟩:=by
 have L4:Looks (model prog w) h (isInstance (.ref a) (.type "BaseException")) true:=(show Looks (model prog w) h (typeOf (.ref a)) (.ref C) from hc ▸ (Looks.ld hx).andThen .now).andThen (looks_mroIn X F0.be)
 have e1:builtinKind "BaseException.__getattribute__" = some .slot:=by decide +kernel
 have e2:splitId "BaseException.__getattribute__" = some ("BaseException","__getattribute__"):=by decide +kernel
 have e3:=PySem.F.args_bexc_ga (.ref a) nv;simp only [checkBuiltinCall,e1,e2];refine za (L4.at ?_);rw [if_neg (by decide)];exact jm (a:=()) e3 hq
theorem QpR {Q:Option Value→Shared→Prop} (F0:Qg5 K C) (X:K.In h) (hx:h.get? a=some o) (hc:o.cls = .ref C) (hq:Q (some (.ref C)) ⟨h,g,d,t+1,os⟩) :
  wpAny (model prog w) A (getAttr? (.ref a) "__class__") Q E ⟨h,g,d,t,os⟩:=by
 have L0:Looks (model prog w) h (typeOf (.ref a)) (.ref C):=hc ▸ (Looks.ld hx).andThen .now;have L1:=looks_findIn (M:=model prog w) X F0.ga;have L2:=looks_findIn (M:=model prog w) X F0.na;have L4:Looks (model prog w) h (isInstance (.ref a) (.type "BaseException")) true:=L0.andThen (looks_mroIn X F0.be);have bnd:=PySem.F.attrBase_ValueError.ga.bind (.ref a)
 have hne:(onTheHeap (Value.ref C)&&Value.builtin "BaseException.__getattribute__" == Value.builtin "object.__getattribute__")=false:=by rw [show (Value.builtin "BaseException.__getattribute__" == Value.builtin "object.__getattribute__")=false by decide +kernel,Bool.and_false]
 unfold getAttr? getAttrBy? getAttrBy;refine za (wpAny_mkText ?_);refine za (wpAny_attempt (zH ?_));refine za (L0.at ?_);refine za (L1.at ?_);dsimp only;rw [if_neg (by rw [hne]; exact zg)];unfold getAttrByItsOwn;refine za ?_;unfold hookBefore;rw [if_pos (show onTheHeap (Value.ref C)=true from rfl)];refine L2.at ?_;refine za (wpAny_attempt (zH ?_));unfold callGetattribute;rw [if_neg (by decide)];unfold boundAndCalled;refine za (jm bnd ?_);refine jj (codeAny_call_builtin PySem.F.attrBase_ValueError.ga.plain PySem.F.entry_bexc_ga (Qpy F0 X hx hc (Qrf F0 X hx hc ?_)));show wpAny (model prog w) A (handedOut (.ref C)) _ _ _
 exact handed_on rfl (zb hq)
def HX (a C:Addr) (h:Heap):Prop:=∃o,h.get? a=some o∧o.cls = .ref C
theorem Ql9 (F0:Qg5 K C):KitX K (.ref a) (.ref C) (HX a C) where
 ty:=fun _ _ _ p=>by
  obtain ⟨o,q1,q2⟩:=p;exact q2 ▸ (Looks.ld q1).andThen .now
 it:=fun _ _ X _=>by
  have z:=F0.cl;unfold clsIn at z;split at z
  case h_1 c1 d1 cd1 sl1 lk1=>exact fun A1 Q1 E1 s1 k1 q1=>by unfold isType loadHead; exact za (wpAny_loadPart (k1 _ _ (X _ _ lk1)) (zb q1))
  case h_2=>cases z
 ne:=fun h tp dd its n sl X p=>by
  cases e:(Value.ref C == Value.ref tp) with
  | false=>rfl
  | true =>
   have e':C=tp:=Value.ref.inj (beq_iff_eq.mp e);subst e';have z:=F0.cl;unfold clsIn at z;split at z
   case h_1 =>
    have y:=X _ _ ‹_›;rw [p] at y;cases y
   case h_2=>cases z
 ca:=fun {_ _ _ _ _ s} X p k=>by
  obtain ⟨o,q1,q2⟩:=p;obtain ⟨h,g,d,t,os⟩:=s;exact QpR F0 X q1 q2 k
end
end L2
namespace L2
open PySem PySem.Spec PyProof.Rows PySem.W
section
variable {X:Cx}{ea C:Addr}{oe:Obj}
def Qkg:V→Option Value
 | .ref a=>some (.ref a)
 | .ty n=>some (.type n)
 | _=>none
theorem Qmr {v:V}{u c:Value} (h:RelV v u) (e:Qkg v=some c):u=c:=by
 cases v <;> cases e <;> exact h
def Qgd:List V→Option (List Value)
 | []=>some []
 | v::vs=>(Qkg v).bind fun c=>(Qgd vs).map (c :: ·)
theorem Qle:∀{vs:List V}{us cs:List Value},Qay vs us→Qgd vs=some cs→us=cs
 | [],_,_,.nil,e=>by cases e; rfl
 | v::vs,_,_,.cons r t,e=>by
  obtain ⟨c,e1,e2⟩:=Option.bind_eq_some_iff.mp e;obtain ⟨l,e3,rfl⟩:=Option.map_eq_some_iff.mp e2;rw [Qmr r e1,Qle t e3]
theorem call_exc (hc:oe.cls = .ref C) (F0:Qg5 X.K C):Qeq (X.inX ea oe) (.builtin "isinstance") (fun xs H Q=>∃b,Q (.bl b) H ∧
  ((∃v c,xs = [.ref ea,v]∧Qkg v=some c∧kitOne X.K (.ref C) c=some b)∨∃tp ys cs,xs = [.ref ea,.ref tp]∧H tp=some (.tup ys)∧Qgd ys=some cs∧kitAny X.K (.ref C) cs=some b)):=by
 intro pins s σ H xs us Q I r h;obtain ⟨b,q,h⟩:=h;have he:s.heap.get? ea=some oe:=(I.pin (ea,oe) zu).1
 have nb:Value.ref ea≠.builtin "__main__.__loader__#opaque":=fun z=>nomatch z
 rcases h with ⟨v,c,rfl,ev,ek⟩ | ⟨tp,ys,cs,rfl,et,ev,ek⟩
 ·obtain ⟨u1,u2,rfl,r1,r2⟩:=vals2 r;cases r1;rw [Qmr r2 ev]
  exact kia_one (Ql9 F0) I.kIn ⟨oe,he,hc⟩ ek nb fun tk=>⟨.bl b,H,I.tok tk,rfl,q⟩
 ·obtain ⟨u1,u2,rfl,r1,r2⟩:=vals2 r;cases r1;cases r2;obtain ⟨_,its,rv,ot,ho,hcl,n,hda⟩:=I.hok tp _ et;have ei:=Qle rv ev;subst ei;obtain ⟨c0,d0,da0,sl0⟩:=ot;dsimp only at hcl hda;subst hcl hda
  exact kia_tup (Ql9 F0) I.kIn ⟨oe,he,hc⟩ ho ek nb fun tk=>⟨.bl b,H,I.tok tk,rfl,q⟩
end
section
variable {X:Cx}{md:List Md}{P:Pt}{R:RR}
end
section
variable {X:Cx}{ea C:Addr}{oe:Obj}{i:Nat}{b:Bool}{n:Str}{p p1 pos:Pos}
def tIs (i:Nat) (ea:Addr) (b:Bool):TE:=fun σ H Q=>σ[i]? = some (some (.ref ea))∧Q (.bl b) H
def QyP (i:Nat) (ea:Addr) (b:Bool):TE:=fun σ H Q=>σ[i]? = some (some (.ref ea))∧∀tp xs,H tp=none→Q (.bl b) (upd H tp (.tup xs))
theorem Qq0 {eT:Expr}{v:V}{c:Value} (hc:oe.cls = .ref C) (F0:Qg5 X.K C) (hm:X.mg "isinstance" = none) (hT:PE (X.inX ea oe) eT (tC v)) (hv:Qkg v=some c) (hk:kitOne X.K (.ref C) c=some b) (hN:X.N[i]? = some n) (hvi:Vis X.env.scope n)
  (hg:Gl X "isinstance":=by rfl) (hd:(n == ("__debug__":Str))=false:=by decide) (hcd:(n == ("__classdict__":Str))=false:=by decide)
  (hs1:starEach [.Name n p1,eT] X.env=(false,eval (.Name n p1) X.env)::starEach [eT] X.env:=by exact Qa0 rfl) (hs2:starEach [eT] X.env=(false,eval eT X.env)::starEach [] X.env:=by exact Qa0 rfl) (hpl:(backTo pos (starEach [eT] X.env)).any (·.1)=false:=by exact Qbd rfl) :
  PE (X.inX ea oe) (.Call (.Name "isinstance" p) [.Name n p1,eT] [] pos) (tIs i ea b) :=
 (Qhd (X:=X.inX ea oe) (call_exc hc F0) hg hm (by decide +kernel) (Qcm (Qe0 (i:=i) hN hvi hd hcd) (Qcm hT Qd2 hs2) hs1) (by decide) (by decide) hs1 hpl).imp fun σ H Q q=>⟨.ref ea,q.1,b,q.2,.inl ⟨v,c,rfl,hv,hk⟩⟩
theorem QuP {es:List Expr}{x1:Nat}{tpos:Pos}{vs:List V}{cs:List Value} (hc:oe.cls = .ref C) (F0:Qg5 X.K C) (hm:X.mg "isinstance" = none) (hT:PA (X.inX ea oe) es (fun _ H Q=>Q vs H)) (hl:vs.length≤sizeLine) (hv:Qgd vs=some cs) (hk:kitAny X.K (.ref C) cs=some b) (hN:X.N[i]? = some n) (hvi:Vis X.env.scope n)
  (hg:Gl X "isinstance":=by rfl) (hd:(n == ("__debug__":Str))=false:=by decide) (hcd:(n == ("__classdict__":Str))=false:=by decide)
  (hs1:starEach [.Name n p1,.Tuple es x1 tpos] X.env=(false,eval (.Name n p1) X.env)::starEach [.Tuple es x1 tpos] X.env:=by exact Qa0 rfl) (hs2:starEach [.Tuple es x1 tpos] X.env=(false,eval (.Tuple es x1 tpos) X.env)::starEach [] X.env:=by exact Qa0 rfl) (hpl:(backTo pos (starEach [.Tuple es x1 tpos] X.env)).any (·.1)=false:=by exact Qbd rfl) :
  PE (X.inX ea oe) (.Call (.Name "isinstance" p) [.Name n p1,.Tuple es x1 tpos] [] pos) (QyP i ea b) :=
 (Qhd (X:=X.inX ea oe) (call_exc hc F0) hg hm (by decide +kernel) (Qcm (Qe0 (i:=i) hN hvi hd hcd) (Qcm (QpG hT) Qd2 hs2) hs1) (by decide) (by decide) hs1 hpl).imp fun σ H Q q=>⟨.ref ea,q.1,hl,fun tp ht=>⟨b,q.2 tp vs ht,.inr ⟨tp,vs,cs,rfl,QaE,hv,hk⟩⟩⟩
def Qf2 (X:Cx):List Expr→List V→Prop
 | [],vs=>vs = []
 | e::es,vs=>∃v r,vs=v::r∧(∀Y:Cx,Y.env=X.env→Y.mg=X.mg→PE Y e (tC v))∧starEach (e::es) X.env=(false,eval e X.env)::starEach es X.env∧Qf2 X es r
theorem QmC:∀{es:List Expr}{vs:List V},Qf2 X es vs→PA (X.inX ea oe) es (fun _ H Q=>Q vs H)
 | [],vs,h=>by
  have h':vs = []:=h;subst h';exact Qd2
 | e::es,vs,h=>by
  obtain ⟨v,r,rfl,h1,h2,h3⟩:=h;exact Qcm (X:=X.inX ea oe) (h1 (X.inX ea oe) rfl rfl) (QmC h3) h2
end
end L2
namespace L2
open PySem PySem.Spec PyProof.Rows
section
variable {X:Cx}
variable {md:List Md}{P:Pt}
end
end L2
namespace L2
open PySem PySem.Spec PyProof.Rows PySem.W
section
variable {prog:Program}{w:World}{A:Around}{E:Value→Shared→Prop}
end
section
variable {X:Cx}{md:List Md}{P:Pt}{R:RR}
end
def Qis (mg:Str→Option Value):List Str→List Addr→Prop
 | [],as=>as = []
 | n::ns,as=>∃a r,as=a::r∧mg n=some (.ref a)∧Qis mg ns r
def QoX (K:Frag) (mg:Str→Option Value) (T c:Str) (ns:List Str):Prop:=∃(A C:Addr) (as:List Addr),mg T=some (.ref A)∧mg c=some (.ref C)∧exmOne K (.ref C) (.ref A)=some true∧Qg5 K C∧Qis mg ns as ∧
 kitAny K (.ref C) (as.map Value.ref)=some false∧kitOne K (.ref C) (.ref C)=some true∧kitOne K (.ref C) (.type "ValueError")=some true∧mg "ValueError" = none
theorem QjT:∀as:List Addr,Qgd (as.map V.ref)=some (as.map Value.ref)
 | []=>rfl
 | a::as=>by
  show Qgd (V.ref a::as.map V.ref)=_;unfold Qgd;rw [QjT as];rfl
theorem Qis.len {mg:Str→Option Value}:∀{ns:List Str}{as:List Addr},Qis mg ns as→as.length=ns.length
 | [],as,h=>by
  have h':as = []:=h;rw [h'];rfl
 | n::ns,as,h=>by
  obtain ⟨a,r,rfl,_,h2⟩:=h;rw [zy,h2.len,zy]
section
variable {X:Cx}{md:List Md}{P:Pt}{R:RR}
theorem QtZ:∀as,Qis X.mg [] as→Qf2 X [] (as.map V.ref):=fun as h=>by
 have h':as = []:=h;subst h';exact rfl
theorem QcN {n:Str}{ns:List Str}{es:List Expr}{p:Pos} (h:∀as,Qis X.mg ns as→Qf2 X es (as.map V.ref)) (hg:Gl X n:=by rfl) (hd:(n == ("__debug__":Str))=false:=by decide) (hs:starEach (.Name n p::es) X.env=(false,eval (.Name n p) X.env)::starEach es X.env:=by rfl) :
  ∀as,Qis X.mg (n::ns) as→Qf2 X (.Name n p::es) (as.map V.ref):=fun as z=>by
 obtain ⟨a,r,rfl,hm,z⟩:=z;exact ⟨.ref a,_,rfl,fun Y e1 e2=>QkA (show Y.env.kindOf n=_ by rw [e1]; exact hg) (by rw [e2]; exact hm) rfl hd,hs,h r z⟩
end
section
variable {X:Cx}{pins:List (Addr×Obj)}{σ:St}{H:Hp}{s:Shared}{ea:Addr}{oe:Obj}
theorem Inv.goneI {h':Heap}{m:Str→Option Value}{v:Option Value}{t' i:Nat}{n:Str} (I:Inv X pins σ H s) (hN:X.N.Nodup) (hi:X.N[i]? = some n)
  (hl:∀(i:Nat) (x:Str) (v:V),X.N[i]? = some x→σ[i]? = some (some v)→Vis X.env.scope x→∃u,RelV v u∧Look X.env s.heap m x u)
  (hn:h'.Ns X.env.locals (fun x=>if x=n then v else m x)) (hs:Heap.SameBut X.env.locals s.heap h'):Inv X pins (σ.set i none) H { s with heap:=h',toks:=t' }:=by
 have ne:∀b o,X.s₀.heap.get? b=some o→b≠X.env.locals:=fun b o e=>zt (zB (zf e) I.ok.above)
 refine ⟨I.ok,I.os,I.bare,⟨fun b o e n hb hx=>(hs.2 b (ne b o e)).trans (I.base.keep b o e n hb hx),fun b o e n hb hx=>?_,I.base.free,fun b o e hx=>?_,I.base.tups,I.base.frzs,I.base.tbls⟩,⟨_,hn,fun j x v' e1 e2 e3=>?_⟩,fun y c e=>?_,I.free,I.freeC,fun p hp=>?_,I.hok.only fun b v u e q=>(hs.2 b fun z=>?_).trans q,by rw [zU]; exact I.len⟩
 ·obtain ⟨sl,e1⟩:=I.base.slot b o e n hb hx;exact ⟨sl,(hs.2 b (ne b o e)).trans e1⟩
 ·obtain ⟨o',e1⟩:=I.base.there b o e hx;exact ⟨o',(hs.2 b (ne b o e)).trans e1⟩
 ·have hji:j≠i:=fun z=>by
   subst z;rw [zF (by rw [I.len]; exact (zk.mp hi).1)] at e2;cases e2
  rw [zl (Ne.symm hji)] at e2;obtain ⟨u,r,lk⟩:=hl j x v' e1 e2 e3;refine ⟨u,r,?_⟩
  have hxn:x≠n:=fun z=>by
   subst z;obtain ⟨q1,q2⟩:=zk.mp e1;obtain ⟨q3,q4⟩:=zk.mp hi
   rcases Nat.lt_trichotomy j i with q | q | q
   ·exact List.pairwise_iff_getElem.mp hN j i q1 q3 q (q2.trans q4.symm)
   ·exact hji q
   ·exact List.pairwise_iff_getElem.mp hN i j q3 q1 q (q4.trans q2.symm)
  rcases lk with ⟨k1,k2⟩ | ⟨k1,c,k2,k3⟩
  ·exact .inl ⟨k1,(if_neg hxn).trans k2⟩
  ·exact .inr ⟨k1,c,k2,k3.sameBut hs (I.cne x c k2)⟩
 ·obtain ⟨v,z⟩:=I.cell y c e;exact ⟨v,z.sameBut hs (I.cne y c e)⟩
 ·obtain ⟨e,n,nl,nf,d⟩:=I.pin p hp;exact ⟨(hs.2 p.1 nl).trans e,n,nl,nf,d⟩
 ·rw [z,I.free] at e;cases e
def D3 (D:Ends) (i:Nat):Ends:={ nx:=fun σ' H'=>D.nx (σ'.set i none) H',rt:=fun _ _=>False }
theorem QqU {E:XK}{e:Value}{s':Shared}{D:Ends}{T n:Str}{A:Addr}{i:Nat}{b₀:Stmt}{suite:List Stmt}{p pos:Pos} (I:Inv X pins σ H s) (hx:CXE X.prog X.w X.stack H s E e s') (hst:X.stack=X.env::X.outer) (hfr:X.env.frame=some X.env.locals)
  (hT:X.mg T=some (.ref A)) (hgT:Gl X T) (hTd:(T == ("__debug__":Str))=false) (hN:X.N.Nodup) (hi:X.N[i]? = some n) (hlo:X.env.kindOf n=some .local)
  (k:∀(ea C:Addr) (oe:Obj) (H':Hp),E (.ref C) none H'→oe.cls = .ref C→(∃ws,oe.data = .fields ws)→exmOne X.K (.ref C) (.ref A)=some true∧∃t,PSs (X.inX ea oe) (b₀::suite) t∧t (D3 D i) (σ.set i (some (.ref ea))) H') :
  wpAny (model X.prog X.w) X.A (noteFrame e X.env) (fun _ s₂=>wpAny (model X.prog X.w) X.A (setFlight e none) (fun _ s₃=>wpAny (model X.prog X.w) X.A (handleBy e X.env [.ExceptHandler (some (.Name T p)) (some n) (b₀::suite) pos]) (SP X pins D) X.xe s₃) X.xe s₂) X.xe s':=by
 obtain ⟨ea,C,H',B,a0,rfl,hos,hbare,un,hok,fl,trk,old,hE⟩:=hx;have fl':=fl;rw [hst] at fl';have frames:=I.ok.frames;rw [hst] at frames
 have hn:H' ea=none:=by
  cases q:H' ea with
  | none=>rfl
  | some u =>
   obtain ⟨o,z⟩:=trk ea u q;rw [fl.2.1] at z;cases z
 have inv:∀h2:Heap,B.StaysIn h2→s'.heap.UpToSlots h2→Inv X pins σ H' { s' with heap:=h2 }:=fun h2 hb up=>I.call' (s':={ s' with heap:=h2 }) (ch:=[]) hos (Qvj un fl.1 fl.2.2.1 old hb up) (Qvv hok trk fl.1 hb) hbare fun _ z=>nomatch z
 have apart:∀(h2:Heap) (oe:Obj) (ws:Array Value),h2.FunFrames B (X.env::X.outer)→h2.get? ea=some oe→oe.data = .fields ws→ea≠X.env.locals∧ea∉X.fs:=fun h2 oe ws ff he hd=>by
  have go:∀b,b∈(X.env::X.outer).filterMap (·.frame)→ea≠b:=fun b hb z=>by
   obtain ⟨_,o,ho,nf⟩:=ff.mem hb;rw [←z,he] at ho;cases ho;exact nf ws hd
  refine ⟨go _ ?_,fun z=>go ea ?_ rfl⟩
  ·rw [List.filterMap_cons,hfr];exact zu
  ·rw [List.filterMap_cons,hfr];exact zv _ z
 refine wpAny_looks_onW frames hfr fl' fun h1 held up1=>?_
 refine wpAny_landsW held fun h2 fl2 up2=>?_
 have I2:=inv h2 fl2.1 (up1.trans up2)
 obtain ⟨oe,ws,hoe,hoec,hoed,_⟩:=fl2.first
 obtain ⟨nl,nf⟩:=apart h2 oe ws fl2.2.2.1 hoe hoed;have I2x:=I2.inX hoe hn nl nf (fun v z=>by rw [hoed] at z; cases z);obtain ⟨hex,_⟩:=k ea C oe H' hE hoec ⟨ws,hoed⟩;refine wpAny_handleBy_cons (codeAny_handlers_test ?_) (by intro q; cases q);refine QfF (X:=X.inX ea oe) I2x hgT hT ?_ hTd;refine (exm_one I2.kIn (hoec ▸ (Looks.ld hoe).andThen .now) hex).at ?_;refine codeAny_handlers_suite_as ?_
 refine lands_againW fl2 fun h3 fl3 up3=>?_
 have I3:=inv h3 fl3.1 ((up1.trans up2).trans up3)
 obtain ⟨oe3,ws3,hoe3,hoec3,hoed3,_⟩:=fl3.first
 obtain ⟨nl3,nf3⟩:=apart h3 oe3 ws3 fl3.2.2.1 hoe3 hoed3;have I3x:=I3.inX hoe3 hn nl3 nf3 (fun v z=>by rw [hoed3] at z; cases z);obtain ⟨_,t,hs,ht⟩:=k ea C oe3 H' hE hoec3 ⟨ws3,hoed3⟩;refine Qhm (X:=X.inX ea oe3) (v:=.ref ea) I3x hN hi (.inl hlo) rfl (fun s4 I4=>?_) (.inr hlo);refine zG (hs pins s4 _ H' (D3 D i) I4 ht) (fun f s5 sp=>?_) (fun _ _ z=>z.elim)
 cases f with
 | next =>
  obtain ⟨σ5,H5,I5,q5⟩:=sp;have J:=I5.outX I.ok;obtain ⟨m,hm,hl⟩:=J.loc
  refine wpAny_nameGoes_keeps hlo hm (by rw [I.ok.kind]; rfl) fun h6 v hm6 hs6=>?_
  exact ⟨_,H5,J.goneI hN hi hl hm6 hs6,q5⟩
 | ret u=>obtain ⟨_,_,_,_,_,q⟩:=sp; exact q.elim
 | brk=>obtain ⟨_,_,_,q⟩:=sp; exact q.elim
 | cont=>obtain ⟨_,_,_,q⟩:=sp; exact q.elim
end
section
variable {X:Cx}{md:List Md}{P:Pt}{R:RR}
def Qe2 (c:List D→Qac→Res D) (ma:M (List D)) (h:Xc→Qak→Option Qak):MS:=fun ρ O=>match ma ρ O with
 | .ok ds O1=>match c ds O1 with
  | .ok _ O2=>.nx ρ O2
  | .ex x O2=>match h x ρ with
   | some ρ'=>.nx ρ' O2
   | none=>.no
  | .no=>.no
 | _=>.no
def Qpl (Y:Cx) (i:Nat) (ea:Addr) (f:St→St) (sts:List Stmt):Prop:=∃t,PSs Y sts t∧∀(D:Ends) (σ:St) (H:Hp),σ.length=Y.N.length→σ[i]? = some (some (.ref ea))→(∀H',(∀K mg O F as,RlO K mg O H F as→RlO K mg O H' F as∧Gr H F as H' F as)→D.nx (f σ) H')→t D σ H
def QvA (X:Cx) (c:List D→Qac→Res D) (ds:List D) (O1:Qac) (ρ:Qak) (hd:Xc→Qak→Option Qak) (H F:Hp) (as:List Addr):XK:=fun cv _ H2=>∃C F2 as2 x ρ' O2,cv = .ref C∧X.mg x.cls=some (.ref C)∧c ds O1 = .ex x O2∧hd x ρ=some ρ'∧Gr H F as H2 F2 as2∧RlO X.K X.mg O2 H2 F2 as2
theorem Qt1 {f T n:Str}{ps:List Str}{k i:Nat}{a:Expr}{as:List Expr}{A:Addr}{pm:List Md}{R':RR}{c:List D→Qac→Res D}{ma:M (List D)}{hd:Xc→Qak→Option Qak}{b₀:Stmt}{suite:List Stmt}{p1 p2 p3 p4 p5 p6:Pos}
  (Cn:QkI X.prog X.w X.K X.mg X.base f ps k (QiZ X.K X.mg pm R' c)) (hr:QaS k X.A) (ha:∀E,AE (X.wish E) md P pm (a::as) ma) (hT:X.mg T=some (.ref A)) (hN:X.N.Nodup) (hi:X.N[i]? = some n)
  (su:∀x ρ ρ',hd x ρ=some ρ'→∃g:St→St,(∀σ H F as,SlO X.K md P ρ σ H F as→∀ea,SlO X.K md P ρ' ((g (σ.set i (some (.ref ea)))).set i none) H F as)∧∀C,X.mg x.cls=some (.ref C)→exmOne X.K (.ref C) (.ref A)=some true∧∀ea oe,oe.cls = .ref C→Qpl (X.inX ea oe) i ea g (b₀::suite))
  (hst:X.stack=X.env::X.outer:=by rfl) (hfr:X.env.frame=some X.env.locals:=by rfl) (hg:Gl X f:=by rfl) (hgT:Gl X T:=by rfl) (hfd:(f == ("__debug__":Str))=false:=by decide) (hTd:(T == ("__debug__":Str))=false:=by decide) (hlo:X.env.kindOf n=some .local:=by rfl)
  (hs:starEach (a::as) X.env=(false,eval a X.env)::starEach as X.env:=by rfl) (hpl:(backTo p2 (starEach as X.env)).any (·.1)=false:=by rfl) (hsw:swapsWith (.Call (.Name f p1) (a::as) [] p2) none p3.line X.env=pure false:=by rfl) :
  VS X md P R (.Try [.Expr (.Call (.Name f p1) (a::as) [] p2) p3] [.ExceptHandler (some (.Name T p4)) (some n) (b₀::suite) p5] [] [] p6) (Qe2 c ma hd):=by
 intro pins s σ H D I q;obtain ⟨ρ,O,F,as',r,sl,kk⟩:=q;obtain ⟨fa,fd,hm,hk,hb,Fn,_⟩:=Cn;refine wpAny_Try_except ?_
 let W:Value→Shared→Prop:=fun e s1=>wpAny (model X.prog X.w) X.A (noteFrame e X.env) (fun _ s₂=>wpAny (model X.prog X.w) X.A (setFlight e none) (fun _ s₃=>wpAny (model X.prog X.w) X.A (handleBy e X.env [.ExceptHandler (some (.Name T p4)) (some n) (b₀::suite) p5]) (SP X pins D) X.xe s₃) X.xe s₂) X.xe s1
 have I1:Inv (X.wish W) pins σ H s:=I.wish W;unfold Qe2 at kk
 cases em:ma ρ O with
 | ex x O'=>rw [em] at kk; exact False.elim kk
 | no=>rw [em] at kk; exact False.elim kk
 | ok ds O1 =>
  rw [em] at kk;dsimp only at kk
  have ev:wpAny (model X.prog X.w) X.A (eval (.Call (.Name f p1) (a::as) [] p2) X.env) (fun v s2=>∃H2,Inv X pins σ H2 s2∧D.nx σ H2) W s:=by
   refine wpAny_Call_Name_kw (QfF I hg hm ?_ hfd);refine PySem.W.callWith_K (h₀:=X.base) I.ok.mod.kin hk (thn (ha W p2 pins s σ H (fun vs H1=>∃F1 as1,Gr H F as' H1 F1 as1∧RlO X.K X.mg O1 H1 F1 as1∧Qbp X.K H1 F1 as1 pm vs ds) I1 ⟨ρ,O,F,as',ds,O1,r,sl,em,fun vs H1 F1 as1 g1 r1 h1=>⟨F1,as1,g1,r1,h1⟩⟩) fun us s1 z=>?_) hs hpl;obtain ⟨vs,H1,J1,rv,F1,as1,g1,r1,h1⟩:=z;have J:=J1.unwish;refine ⟨J.kIn,?_⟩
   have sp:QiZ X.K X.mg pm R' c vs H1 (fun _ H2=>D.nx σ H2) (QvA X c ds O1 ρ hd H F as'):=by
    refine ⟨ds,O1,F1,as1,r1,h1,?_⟩
    cases ec:c ds O1 with
    | ok d O2 =>
     rw [ec] at kk
     exact fun v H2 F2 as2 g2 r2 _=>kk σ H2 F2 as2 (g1.trans g2).toS r2 (sl.step (g1.trans g2))
    | ex x O2 =>
     rw [ec] at kk;dsimp only at kk
     cases eh:hd x ρ with
     | none=>rw [eh] at kk; exact False.elim kk
     | some ρ'=>exact fun C H2 F2 as2 hC g2 r2=>⟨C,F2,as2,x,ρ',O2,rfl,hC,ec,eh,g1.trans g2,r2⟩
    | no=>rw [ec] at kk; exact False.elim kk
   have hl:=Fn.len _ _ _ _ sp;have bi:=hb s1 us J.kIn (by rw [zT,←rv.length]; exact hl);rw [zT] at bi;refine jj (codeAny_mono (Fn.run X.A X.stack s1 H1 ⟨us,[]⟩ us vs _ _ hr J.env0 bi rv sp) fun res s2 hq=>?_)
   cases res with
   | error e =>
    have hq':CXE X.prog X.w X.stack H1 s1 (QvA X c ds O1 ρ hd H F as') e s2:=hq
    refine QqU (D:=D) J hq' hst hfr hT hgT hTd hN hi hlo fun ea C oe H2 hE hc _=>?_
    obtain ⟨C',F2,as2,x,ρ',O2,e1,hC,ec,eh,g2,r2⟩:=hE;cases e1;obtain ⟨g,hv,hx⟩:=su x ρ ρ' eh;obtain ⟨h1,h2⟩:=hx C hC;obtain ⟨t,t1,t2⟩:=h2 ea oe hc;refine ⟨h1,t,t1,t2 _ _ H2 (by rw [zU]; exact J.len) ?_ fun H3 gr=>?_⟩
    ·rw [zF (by rw [J.len]; exact (zk.mp hi).1)]
    ·rw [ec] at kk;dsimp only at kk;rw [eh] at kk;obtain ⟨r3,g3⟩:=gr _ _ _ _ _ r2;exact kk _ H3 F2 as2 (g2.trans g3).toS r3 (hv _ _ _ _ (sl.step (g2.trans g3)) ea)
   | ok fl =>
    cases fl with
    | ret u =>
     obtain ⟨v,H2,I2,_,q2⟩:=J.after hq;exact ⟨H2,I2,q2⟩
    | next=>exact False.elim hq
    | brk=>exact False.elim hq
    | cont=>exact False.elim hq
  refine wpAny_execs_cons (thn (wpAny_Expr_any (Q:=fun fl s1=>fl = .next∧∃H2,Inv X pins σ H2 s1∧D.nx σ H2) (thn ev fun v s1 z=>⟨rfl,z⟩) I.quiet hsw) fun fl s1 z=>?_);obtain ⟨rfl,H2,I2,q2⟩:=z;exact wpAny_execs_nil (wpAny_execs_nil ⟨σ,H2,I2,q2⟩)
theorem SlO.drop {K:Frag}{ρ:Qak}{σ:St}{H F:Hp}{as:List Addr}{i:Nat}{x:Option V} (s:SlO K md P ρ σ H F as) (hm:md[i]? = some .v):SlO K md P (ρ.set i none) (σ.set i x) H F as:=by
 have hi:i < ρ.length:=by rw [s.len']; exact (zk.mp hm).1
 have ne:∀(j:Nat) (d:D),(ρ.set i none)[j]? = some (some d)→j≠i∧ρ[j]? = some (some d):=fun j d e=>by
  by_cases hj:j=i
  ·subst hj;rw [zF hi] at e;cases e
  ·rw [zl (Ne.symm hj)] at e;exact ⟨hj,e⟩
 refine ⟨by rw [zU]; exact s.len,by rw [zU]; exact s.len',s.pd,fun j m d e1 e2=>?_,fun j k a ds es h1 h2 h3 h4 h5 h6=>?_,fun y hy=>?_⟩
 ·obtain ⟨hj,e2⟩:=ne j d e2;rw [zl (Ne.symm hj)];exact s.sl j m d e1 e2
 ·obtain ⟨hj,h3⟩:=ne j _ h3;obtain ⟨hk,h4⟩:=ne k _ h4;rw [zl (Ne.symm hj)] at h5;rw [zl (Ne.symm hk)] at h6;exact s.inj j k a ds es h1 h2 h3 h4 h5 h6
 ·obtain ⟨p1,p2,p3⟩:=s.pin y hy
  have hne:i≠y.1:=fun z=>by rw [←z,hm] at p1; cases p1
  rw [zl hne,zl hne];exact ⟨p1,p2,p3⟩
end
section
variable {X:Cx}{ea C:Addr}{oe:Obj}{i ja jb:Nat}{b:Bool}{n na nb w1 w2:Str}{p p1 pos:Pos}
def QoT (ja jb:Nat) (w1 w2:Str) (σ:St):St:=((σ.set ja (some (.bl false))).set jb (some (.str w1))).set jb (some (.str w2))
theorem QtB {es:List Expr}{x1:Nat}{e1 e2:Expr}{vs:List V}{v1 v2:V}{cs:List Value}{c1 c2:Value}{q1 q2 q3 q4 q5 q6 q7 q8 q9 qa qb qc qd qe qf qg qh qi qj qk ql:Pos}{j1 j2} (hc:oe.cls = .ref C) (F0:Qg5 X.K C) (hm:X.mg "isinstance" = none)
  (hT:Qf2 X es vs) (hl:vs.length≤sizeLine) (hv:Qgd vs=some cs) (hk:kitAny X.K (.ref C) cs=some false)
  (h1:PE (X.inX ea oe) e1 (tC v1)) (u1:Qkg v1=some c1) (k1:kitOne X.K (.ref C) c1=some true) (h2:PE (X.inX ea oe) e2 (tC v2)) (u2:Qkg v2=some c2) (k2:kitOne X.K (.ref C) c2=some true)
  (hND:X.N.Nodup) (hN:X.N[i]? = some n) (hvi:Vis X.env.scope n) (hNa:X.N[ja]? = some na) (hNb:X.N[jb]? = some nb) (hia:i≠ja) (hib:i≠jb) (hab:ja≠jb) (la:X.env.kindOf na=some .local) (lb:X.env.kindOf nb=some .local)
  (hg:Gl X "isinstance":=by rfl) (hd:(n == ("__debug__":Str))=false:=by decide) (hcd:(n == ("__classdict__":Str))=false:=by decide) (had:(na == ("__debug__":Str))=false:=by decide) (hacd:(na == ("__classdict__":Str))=false:=by decide)
  (sw1:swapsWith (.Call (.Name "isinstance" q1) [.Name n q2,.Tuple es x1 q3] [] q4) (some (.Name na q5)) q6.line X.env=pure false:=by rfl)
  (sw2:swapsWith (.Constant (.str w1) j1 qf) (some (.Name nb qg)) qh.line X.env=pure false:=by rfl) (sw3:swapsWith (.Constant (.str w2) j2 qi) (some (.Name nb qj)) qk.line X.env=pure false:=by rfl)
  (st1:starEach [.Name n q2,.Tuple es x1 q3] X.env=(false,eval (.Name n q2) X.env)::starEach [.Tuple es x1 q3] X.env:=by exact Qa0 rfl) (st2:starEach [.Tuple es x1 q3] X.env=(false,eval (.Tuple es x1 q3) X.env)::starEach [] X.env:=by exact Qa0 rfl) (st3:(backTo q4 (starEach [.Tuple es x1 q3] X.env)).any (·.1)=false:=by exact Qbd rfl)
  (su1:starEach [.Name n q8,e1] X.env=(false,eval (.Name n q8) X.env)::starEach [e1] X.env:=by exact Qa0 rfl) (su2:starEach [e1] X.env=(false,eval e1 X.env)::starEach [] X.env:=by exact Qa0 rfl) (su3:(backTo q9 (starEach [e1] X.env)).any (·.1)=false:=by exact Qbd rfl)
  (sv1:starEach [.Name n qb,e2] X.env=(false,eval (.Name n qb) X.env)::starEach [e2] X.env:=by exact Qa0 rfl) (sv2:starEach [e2] X.env=(false,eval e2 X.env)::starEach [] X.env:=by exact Qa0 rfl) (sv3:(backTo qc (starEach [e2] X.env)).any (·.1)=false:=by exact Qbd rfl) :
  Qpl (X.inX ea oe) i ea (QoT ja jb w1 w2) [.Assign [.Name na q5] (.Call (.Name "isinstance" q1) [.Name n q2,.Tuple es x1 q3] [] q4) q6,.Assign [.Name nb qg] (.Constant (.str w1) j1 qf) qh,
   .If (.BoolOp .And [.Call (.Name "isinstance" q7) [.Name n q8,e1] [] q9,.Call (.Name "isinstance" qa) [.Name n qb,e2] [] qc,.UnaryOp .Not (.Name na qd) qe] ql) [.Assign [.Name nb qj] (.Constant (.str w2) j2 qi) qk] [] p]:=by
 refine ⟨_,QhJ (Qh6 (X:=X.inX ea oe) (i:=ja) hND hNa (.inl la) (QuP hc F0 hm (QmC hT) hl hv hk hN hvi hg hd hcd st1 st2 st3) sw1 (.inr la))
  (QhJ (Qh6 (X:=X.inX ea oe) (i:=jb) hND hNb (.inl lb) QgW sw2 (.inr lb))
  (QkP (Qoy (PW.pt (Ql3 (QmS (Qq0 hc F0 hm h1 u1 k1 hN hvi hg hd hcd su1 su2 su3)) (Ql3 (QmS (Qq0 hc F0 hm h2 u2 k2 hN hvi hg hd hcd sv1 sv2 sv3)) (QnP (QqT (QmS (Qe0 (X:=X.inX ea oe) (i:=ja) hNa (.inl la) had hacd))))))) (QkP (Qh6 (X:=X.inX ea oe) (i:=jb) hND hNb (.inl lb) QgW sw3 (.inr lb))) QkH))),fun D σ H hlen hσ k=>?_⟩
 have hja:ja < σ.length:=by rw [hlen]; exact (zk.mp hNa).1
 refine ⟨hσ,fun tp xs ht=>?_⟩
 have hσ2:((σ.set ja (some (.bl false))).set jb (some (.str w1)))[i]? = some (some (.ref ea)):=by
  rw [zl (Ne.symm hib),zl (Ne.symm hia)];exact hσ
 have hσ3:((σ.set ja (some (.bl false))).set jb (some (.str w1)))[ja]? = some (some (.bl false)):=by
  rw [zl (Ne.symm hab),zF hja]
 refine ⟨hσ2,true,rfl,?_⟩;dsimp only;rw [if_pos rfl];refine ⟨hσ2,true,rfl,?_⟩;dsimp only;rw [if_pos rfl];refine ⟨.bl false,hσ3,false,rfl,?_⟩;dsimp only;rw [Bool.not_false,if_pos rfl]
 exact k _ fun K mg O F as r=>⟨r.lay ht,Gr.lay ht⟩
end
section
variable {X:Cx}{md:List Md}{P:Pt}{R:RR}
def hdN (c:Str) (i ja jb:Nat) (l:List Nat) (x:Xc) (ρ:Qak):Option Qak:=if x.cls=c then some (((((ρ.set i none).set ja (some (.bl false))).set jb (some (.str l))).set i none)) else none
theorem Qp2 {f T n c na nb w1 w2:Str}{ns ps:List Str}{k i ja jb:Nat}{l1 l2:List Nat}{a:Expr}{as es:List Expr}{pm:List Md}{R':RR}{cc:List D→Qac→Res D}{ma:M (List D)}{x1:Nat}{j1 j2}{p1 p2 p3 p4 p5 p6 pv pc:Pos}{q1 q2 q3 q4 q5 q6 q7 q8 q9 qa qb qc qd qe qf qg qh qi qj qk ql:Pos}{p:Pos}
  (RF:QoX X.K X.mg T c ns) (Cn:QkI X.prog X.w X.K X.mg X.base f ps k (QiZ X.K X.mg pm R' cc)) (hr:QaS k X.A) (hN:X.N.Nodup) (hm:X.mg "isinstance" = none) (ha:∀E,AE (X.wish E) md P pm (a::as) ma)
  (hNV:∀as,Qis X.mg ns as→Qf2 X es (as.map V.ref)) (hw1:w1=S l1) (hw2:w2=S l2) (hmi:md[i]? = some .v:=by rfl) (hma:md[ja]? = some .v:=by rfl) (hmb:md[jb]? = some .v:=by rfl) (hi:X.N[i]? = some n:=by rfl) (hvi:Vis X.env.scope n:=by first | exact Or.inl rfl | exact Or.inr (Or.inl rfl))
  (hNa:X.N[ja]? = some na:=by rfl) (hNb:X.N[jb]? = some nb:=by rfl) (hia:i≠ja:=by decide) (hib:i≠jb:=by decide) (hab:ja≠jb:=by decide) (la:X.env.kindOf na=some .local:=by rfl) (lb:X.env.kindOf nb=some .local:=by rfl)
  (hst:X.stack=X.env::X.outer:=by rfl) (hfr:X.env.frame=some X.env.locals:=by rfl) (hg:Gl X f:=by rfl) (hgT:Gl X T:=by rfl) (hgc:Gl X c:=by rfl) (hgv:Gl X "ValueError":=by rfl) (hgi:Gl X "isinstance":=by rfl) (hfd:(f == ("__debug__":Str))=false:=by decide) (hTd:(T == ("__debug__":Str))=false:=by decide) (hcd:(c == ("__debug__":Str))=false:=by decide) (hnd:(n == ("__debug__":Str))=false:=by decide) (hncd:(n == ("__classdict__":Str))=false:=by decide) (had:(na == ("__debug__":Str))=false:=by decide) (hacd:(na == ("__classdict__":Str))=false:=by decide) (hlo:X.env.kindOf n=some .local:=by rfl) (hns:ns.length≤1000:=by decide)
  (hs:starEach (a::as) X.env=(false,eval a X.env)::starEach as X.env:=by rfl) (hpl:(backTo p2 (starEach as X.env)).any (·.1)=false:=by rfl) (hsw:swapsWith (.Call (.Name f p1) (a::as) [] p2) none p3.line X.env=pure false:=by rfl)
  (sw1:swapsWith (.Call (.Name "isinstance" q1) [.Name n q2,.Tuple es x1 q3] [] q4) (some (.Name na q5)) q6.line X.env=pure false:=by rfl)
  (sw2:swapsWith (.Constant (.str w1) j1 qf) (some (.Name nb qg)) qh.line X.env=pure false:=by rfl) (sw3:swapsWith (.Constant (.str w2) j2 qi) (some (.Name nb qj)) qk.line X.env=pure false:=by rfl)
  (st3:(backTo q4 (starEach [.Tuple es x1 q3] X.env)).any (·.1)=false:=by exact Qbd rfl) (su3:(backTo q9 (starEach [.Name c pc] X.env)).any (·.1)=false:=by exact Qbd rfl) (sv3:(backTo qc (starEach [.Name "ValueError" pv] X.env)).any (·.1)=false:=by exact Qbd rfl)
  (st1:starEach [.Name n q2,.Tuple es x1 q3] X.env=(false,eval (.Name n q2) X.env)::starEach [.Tuple es x1 q3] X.env:=by exact Qa0 rfl) (st2:starEach [.Tuple es x1 q3] X.env=(false,eval (.Tuple es x1 q3) X.env)::starEach [] X.env:=by exact Qa0 rfl)
  (su1:starEach [.Name n q8,.Name c pc] X.env=(false,eval (.Name n q8) X.env)::starEach [.Name c pc] X.env:=by exact Qa0 rfl) (su2:starEach [.Name c pc] X.env=(false,eval (.Name c pc) X.env)::starEach [] X.env:=by exact Qa0 rfl)
  (sv1:starEach [.Name n qb,.Name "ValueError" pv] X.env=(false,eval (.Name n qb) X.env)::starEach [.Name "ValueError" pv] X.env:=by exact Qa0 rfl) (sv2:starEach [.Name "ValueError" pv] X.env=(false,eval (.Name "ValueError" pv) X.env)::starEach [] X.env:=by exact Qa0 rfl) :
  VS X md P R (.Try [.Expr (.Call (.Name f p1) (a::as) [] p2) p3] [.ExceptHandler (some (.Name T p4)) (some n) [.Assign [.Name na q5] (.Call (.Name "isinstance" q1) [.Name n q2,.Tuple es x1 q3] [] q4) q6,.Assign [.Name nb qg] (.Constant (.str w1) j1 qf) qh,
   .If (.BoolOp .And [.Call (.Name "isinstance" q7) [.Name n q8,.Name c pc] [] q9,.Call (.Name "isinstance" qa) [.Name n qb,.Name "ValueError" pv] [] qc,.UnaryOp .Not (.Name na qd) qe] ql) [.Assign [.Name nb qj] (.Constant (.str w2) j2 qi) qk] [] p] p5] [] [] p6) (Qe2 cc ma (hdN c i ja jb l2)):=by
 obtain ⟨A,C,la',hT,hC,hx,F0,hn,ka,k1,k2,hv⟩:=RF;refine Qt1 Cn hr ha hT hN hi (fun x ρ ρ' e=>?_) hst hfr hg hgT hfd hTd hlo hs hpl hsw;unfold hdN at e;split at e
 ·rename_i ex;cases e;refine ⟨QoT ja jb w1 w2,fun σ H F as s ea=>?_,fun C' hC'=>?_⟩
  ·have s1:=s.drop (x:=some (.ref ea)) hmi;have s2:=s1.setV hma (Rp.bl (b:=false));have s3:=s2.setV hmb (Rp.str (l:=l2));rw [←hw2] at s3;have s4:=s3.drop (x:=none) hmi;unfold QoT;rw [List.set_set];exact s4
  ·rw [ex,hC] at hC';cases hC';refine ⟨hx,fun ea oe hc=>?_⟩;have hsz:sizeLine=16777216:=sizeLine_eq;refine QtB hc F0 hm (hNV la' hn) (by rw [zh,hn.len]; omega) (QjT la') ka (v1:=.ref C) (c1:=.ref C) (v2:=.ty "ValueError") (c2:=.type "ValueError") ?_ rfl k1 ?_ rfl k2 hN hi hvi hNa hNb hia hib hab la lb hgi hnd hncd had hacd sw1 sw2 sw3 st1 st2 st3 su1 su2 su3 sv1 sv2 sv3
   ·exact QkA (X:=X.inX ea oe) hgc hC rfl hcd
   ·exact Qny (X:=X.inX ea oe) hgv hv (by decide +kernel) rfl
 ·cases e
theorem QnU {es:List Expr}{pos:Pos}{r:M (List D)} (n:Nat) (h:AE X md P (List.replicate n .v) es r):VE X md P (.List es pos) (Qbq r):=(Qq2 h).imp fun σ H Q q=>by
 obtain ⟨ρ,O,F,as,d,O',r0,s,e,k⟩:=q;obtain ⟨ds,O1,e1,e⟩:=Res.bind_ok e;split at e
 ·rename_i hz;cases e;refine ⟨ρ,_,F,as,_,_,r0,s,e1,fun vs H1 F1 as1 g1 r1 hv=>?_⟩;have hr:=hv.rps;refine ⟨by rw [hr.length]; exact QdI hz,fun p hp=>?_⟩
  have hF:F1 p=none:=by
   cases q:F1 p with
   | none=>rfl
   | some o=>rw [r1.fh p o q] at hp; cases hp
  have ff:Same F1 (upd F1 p (.lst vs)):=fun b u q=>by rw [Qaq (QaC q hF)]; exact q
  refine k _ _ (upd F1 p (.lst vs)) as1 ((g1.trans (Gr.lay hp)).frz (g1.dm p hp) hF) ((r1.lay hp).frz QaE hF (fun z=>r1.all z hp) rfl) (Rp.mkL (.inl (.inl QaE)) (Rps.mono ff (fun _ _ z=>z) _ hr))
 ·cases e
end
section
variable {K:Frag}{h:Heap}{mg:Str→Option Value}
theorem mkD {x:Str}{st:Stmt}{f:Addr}{oc:Value}{od an:Option Addr}{sl:Array (Option Value)}{kV dc pm cd ct:Value} (X:K.In h) (G:h.Ns mainGlobals mg) (a:nsIn K mainGlobals x=some (some (.ref f))) (l:K.lookup f=some ⟨oc,od,.func (fnOf x x (Qce st) (Qbs st) (Qao st) .none kV dc pm an cd ct),sl⟩) (c:codeIn K cd x=true) (k:keepIn K (.ref f)=true):Def K mg x st:=⟨_,_,mg_of X G a,QmY l c k⟩
structure ClsAt (K:Frag) (c:Str) (A:Addr):Prop where
 ns:nsIn K mainGlobals c=some (some (.ref A))
 pg:plainGet K A Str.empty=true
 hd:hasDictIn K A=true
 po:plainOver K A=true
 sa:findIn K (.ref A) "__setattr__" = some (some (.builtin "object.__setattr__"))
 mks:makesIn K A=true
 kc:keepIn K (.ref A)=true
def MethAt (K:Frag) (A:Addr) (m qual:Str) (st:Stmt):Prop:=∃f fd,findIn K (.ref A) m=some (some (.ref f))∧isFn K (.ref f)=true∧keepIn K (.ref f)=true∧Fun K m qual st f fd
theorem mkM {A:Addr}{m qual:Str}{st:Stmt}{f:Addr}{oc:Value}{od an:Option Addr}{sl:Array (Option Value)}{kV dc pm cd ct:Value} (a:findIn K (.ref A) m=some (some (.ref f))) (i:isFn K (.ref f)=true) (l:K.lookup f=some ⟨oc,od,.func (fnOf m qual (Qce st) (Qbs st) (Qao st) .none kV dc pm an cd ct),sl⟩) (c:codeIn K cd qual=true) (k:keepIn K (.ref f)=true):MethAt K A m qual st:=⟨_,_,a,i,k,QmY l c k⟩
variable {A:Addr}{c:Str}
theorem ClsAt.cl (z:ClsAt K c A):Cls K A:=⟨z.pg,z.hd,z.po,z.sa⟩
theorem ClsAt.dm (z:ClsAt K c A) (X:K.In h) (G:h.Ns mainGlobals mg) {m qual:Str}{st:Stmt} (q:MethAt K A m qual st):Qh8 K mg c m qual st:=by
 obtain ⟨f,fd,a,i,k,fu⟩:=q;exact ⟨_,_,_,mg_of X G z.ns,z.cl,⟨a,i,k⟩,fu⟩
theorem ClsAt.dc (z:ClsAt K c A) (X:K.In h) (G:h.Ns mainGlobals mg) {qual:Str}{st:Stmt} (q:MethAt K A "__init__" qual st):Qsb K mg c qual st:=by
 obtain ⟨f,fd,a,i,k,fu⟩:=q;exact ⟨_,_,_,mg_of X G z.ns,⟨z.mks,a,i,z.kc⟩,fu⟩
theorem ClsAt.kf (z:ClsAt K c A) (X:K.In h) (G:h.Ns mainGlobals mg) {f:Str} (n:findIn K (.ref A) f=some none):KC K mg c f:=⟨_,mg_of X G z.ns,z.cl,n⟩
end
end L2
namespace L2
open PySem PySem.Spec PyProof.Rows
section
variable {X:Cx}
def QiF:List D→Option D
 | [.str l]=>if l.length≤640 then (PySem.intText? (S l)).map D.int else none
 | _=>none
theorem Qtt:QfC X (.type "int") QiF:=by
 intro pins s σ H xs us Q I rs h;obtain ⟨O,F,as,ds,d,r,hvs,e,k⟩:=h;unfold QiF at e;split at e
 ·rename_i l;split at e
  ·rename_i hz;obtain ⟨v,rfl,hv⟩:=hvs.one
   cases hn:PySem.intText? (S l) with
   | none=>rw [hn] at e; cases e
   | some n =>
    rw [hn] at e;cases e;cases (hv.rp rfl).unS;obtain ⟨u,rfl,ru⟩:=vals1 rs;obtain ⟨t,rfl⟩:=ru;exact PySem.W.KIN.call_text hn (by rw [Qbt]; exact hz) ⟨.int n,H,I.tok _,⟨_,rfl⟩,Qbf r k rfl Rp.int⟩
  ·cases e
 ·cases e
theorem Qnc {i:Int} (h0:0≤i) (h1:i < 1000000000):QiF [.str ((Nat.toDigits 10 i.toNat).map Char.toNat)]=some (.int i):=by
 have z:=QnF i h0;have r:=PySem.W.KIN.num_reads h0 (Int.lt_trans h1 (by decide));rw [z] at r
 have hl:((Nat.toDigits 10 i.toNat).map Char.toNat).length≤640:=by
  have:=PySem.W.KT.len_num h0 (Int.lt_trans h1 (by decide))
  rw [z,Qbt] at this;exact zC this (by decide)
 show (if ((Nat.toDigits 10 i.toNat).map Char.toNat).length≤640 then (PySem.intText? (S ((Nat.toDigits 10 i.toNat).map Char.toNat))).map D.int else none)=_;rw [if_pos hl,r];rfl
end
def ofO (o:Option D) (O:Qac):Res D:=match o with
 | some d=>.ok d O
 | none=>.no
@[simp] theorem Qbm {d:D}{O:Qac}:ofO (some d) O = .ok d O:=rfl
@[simp] theorem Qar {α β:Type}{a:α}{O:Qac}{f:α→Qac→Res β}:(Res.ok a O).bind f=f a O:=rfl
@[simp] theorem Qx0 {O:Qac}:QaI O .non = .non:=rfl
@[simp] theorem QfY {O:Qac}{b:Bool}:QaI O (.bl b) = .bl b:=rfl
@[simp] theorem QaO {O:Qac}{b:Int}:QaI O (.int b) = .int b:=rfl
@[simp] theorem Qcq {O:Qac}{b:List Nat}:QaI O (.str b) = .str b:=rfl
@[simp] theorem Qbz {O:Qac}{b:List D}:QaI O (.lst b) = .lst b:=rfl
@[simp] theorem Qpx {O:Qac}{b:List D}:QaI O (.tup b) = .tup b:=rfl
@[simp] theorem QxZ {O:Qac}{a b:List D}:QaI O (.dic a b) = .dic a b:=rfl
@[simp] theorem Qcc {i:Nat}{ρ:Qak}{O:Qac}:Qab i ρ O=(match ρ[i]? with | some (some d)=>.ok d O | _=>.no):=rfl
@[simp] theorem m_c {d:D}{ρ:Qak}{O:Qac}:mC d ρ O = .ok d O:=rfl
@[simp] theorem Qcz {g:D→D→Option D}{a b:M D}{ρ:Qak}{O:Qac}:Qaf g a b ρ O=(a ρ O).bind fun x O1=>(b ρ O1).bind fun y O2=>ofO (g (QaI O2 x) (QaI O2 y)) O2:=rfl
def gF (r:Res D):Res D:=match r with
 | .ok d O'=>if QeC d=true then .ok d O' else .no
 | r=>r
@[simp] theorem m_g {m:M D}{ρ:Qak}{O:Qac}:mG m ρ O=gF (m ρ O):=rfl
@[simp] theorem Qp4 {i:Int}{O:Qac}:gF (.ok (.int i) O) = .ok (.int i) O:=rfl
@[simp] theorem Qzm {i:List Nat}{O:Qac}:gF (.ok (.str i) O) = .ok (.str i) O:=rfl
@[simp] theorem QzO {i:Bool}{O:Qac}:gF (.ok (.bl i) O) = .ok (.bl i) O:=rfl
@[simp] theorem QzH {O:Qac}:gF (.ok .non O) = .ok .non O:=rfl
@[simp] theorem Qzp {l:List D}{O:Qac}:gF (.ok (.tup l) O) = .ok (.tup l) O:=rfl
@[simp] theorem QzP {n:Nat}{O:Qac}:gF (.ok (.ob n) O) = .ok (.ob n) O:=rfl
def chF (o:Option D) (O:Qac) (f:Unit→Res D):Res D:=match o with
 | some (.bl true)=>f ()
 | some (.bl false)=>.ok (.bl false) O
 | _=>.no
@[simp] theorem QzR {b:Bool}{O:Qac}{f:Unit→Res D}:chF (some (.bl b)) O f=if b=true then f () else .ok (.bl false) O:=by cases b <;> rfl
@[simp] theorem QyY {g g':D→D→Option D}{a b c:M D}{ρ:Qak}{O:Qac}:Qf5 g g' a b c ρ O=(a ρ O).bind fun x O1=>(b ρ O1).bind fun y O2=>chF (g (QaI O2 x) (QaI O2 y)) O2 fun _=>(c ρ O2).bind fun z O3=>ofO (g' (QaI O3 y) (QaI O3 z)) O3:=by
 unfold Qf5;congr 1
@[simp] theorem Qxh {m:M D}{ρ:Qak}{O:Qac}:Qgu m ρ O=(m ρ O).bind fun d O1=>.ok (.bl (isNon d)) O1:=rfl
@[simp] theorem Qzl {m:M D}{ρ:Qak}{O:Qac}:Qek m ρ O=(m ρ O).bind fun d O1=>.ok (.bl (!isNon d)) O1:=rfl
@[simp] theorem Qx4:isNon .non=true:=rfl
@[simp] theorem QxW {l:List D}:isNon (.lst l)=false:=rfl
@[simp] theorem QxX {l:List D}:isNon (.tup l)=false:=rfl
@[simp] theorem QxY {l:List Nat}:isNon (.str l)=false:=rfl
@[simp] theorem Qx3 {l:Int}:isNon (.int l)=false:=rfl
@[simp] theorem QyR {l:Nat}:isNon (.ob l)=false:=rfl
def teF (d:D) (O:Qac):Res Bool:=match d with
 | .bl b=>.ok b O
 | _=>.no
@[simp] theorem Qc6 {b:Bool}{O:Qac}:teF (.bl b) O = .ok b O:=rfl
@[simp] theorem QcV {m:M D}{ρ:Qak}{O:Qac}:Qav m ρ O=(m ρ O).bind teF:=rfl
def ofB (o:Option Bool) (O:Qac):Res Bool:=match o with
 | some d=>.ok d O
 | none=>.no
@[simp] theorem QfP {d:Bool}{O:Qac}:ofB (some d) O = .ok d O:=rfl
@[simp] theorem Qj5 {m:M D}{ρ:Qak}{O:Qac}:Qb4 m ρ O=(m ρ O).bind fun d O1=>ofB (Qku (QaI O1 d)) O1:=rfl
@[simp] theorem QgH {b:Bool}:Qku (.bl b)=some b:=rfl
@[simp] theorem QyB {b:List D}:Qku (.lst b)=some (!b.isEmpty):=rfl
@[simp] theorem QeX {a b:M Bool}{ρ:Qak}{O:Qac}:QdJ a b ρ O=(a ρ O).bind fun c O1=>if c=true then b ρ O1 else .ok false O1:=rfl
@[simp] theorem QoD {a b:M Bool}{ρ:Qak}{O:Qac}:Qg6 a b ρ O=(a ρ O).bind fun c O1=>if c=true then .ok true O1 else b ρ O1:=rfl
@[simp] theorem QqX {a:M Bool}{ρ:Qak}{O:Qac}:QcA a ρ O=(a ρ O).bind fun c O1=>.ok (!c) O1:=rfl
def anF (d:D) (O:Qac) (f:Unit→Res D):Res D:=match d with
 | .bl true=>f ()
 | .bl false=>.ok (.bl false) O
 | _=>.no
def orF (d:D) (O:Qac) (f:Unit→Res D):Res D:=match d with
 | .bl true=>.ok (.bl true) O
 | .bl false=>f ()
 | _=>.no
@[simp] theorem Qxn {b:Bool}{O:Qac}{f:Unit→Res D}:anF (.bl b) O f=if b=true then f () else .ok (.bl false) O:=by cases b <;> rfl
@[simp] theorem QzN {b:Bool}{O:Qac}{f:Unit→Res D}:orF (.bl b) O f=if b=true then .ok (.bl true) O else f ():=by cases b <;> rfl
@[simp] theorem QvO {a b:M D}{ρ:Qak}{O:Qac}:Qhu a b ρ O=(a ρ O).bind fun d O1=>anF d O1 fun _=>b ρ O1:=by
 unfold Qhu;congr 1
@[simp] theorem Qz0 {a b:M D}{ρ:Qak}{O:Qac}:Qwi a b ρ O=(a ρ O).bind fun d O1=>orF d O1 fun _=>b ρ O1:=by
 unfold Qwi;congr 1
def noF (d:D) (O:Qac):Res D:=match d with
 | .bl b=>.ok (.bl (!b)) O
 | _=>.no
@[simp] theorem QzV {b:Bool}{O:Qac}:noF (.bl b) O = .ok (.bl (!b)) O:=rfl
@[simp] theorem Qzx {a:M D}{ρ:Qak}{O:Qac}:QoI a ρ O=(a ρ O).bind noF:=rfl
@[simp] theorem Qsr {t:M Bool}{a b:M D}{ρ:Qak}{O:Qac}:mIf t a b ρ O=(t ρ O).bind fun c O1=>if c=true then a ρ O1 else b ρ O1:=rfl
@[simp] theorem Qca {ρ:Qak}{O:Qac}:Qae ρ O = .ok [] O:=rfl
@[simp] theorem QbN {m:M D}{r:M (List D)}{ρ:Qak}{O:Qac}:Qaa m r ρ O=(m ρ O).bind fun d O1=>(r ρ O1).bind fun ds O2=>.ok (d::ds) O2:=rfl
@[simp] theorem Qo2 {r:M (List D)}{ρ:Qak}{O:Qac}:Qbq r ρ O=(r ρ O).bind fun ds O1=>if ds.length≤1000000 then .ok (.lst ds) O1 else .no:=rfl
@[simp] theorem QoL {r:M (List D)}{ρ:Qak}{O:Qac}:QbQ r ρ O=(r ρ O).bind fun ds O1=>if ds.length≤1000000 then .ok (.tup ds) O1 else .no:=rfl
@[simp] theorem QdB {c:List D→Qac→Res D}{ma:M (List D)}{ρ:Qak}{O:Qac}:Qas c ma ρ O=(ma ρ O).bind fun ds O1=>c ds O1:=rfl
@[simp] theorem Qdo {g:List D→Option D}{ma:M (List D)}{ρ:Qak}{O:Qac}:Qaz g ma ρ O=(ma ρ O).bind fun ds O1=>ofO (g (ds.map (QaI O1))) O1:=rfl
@[simp] theorem Qz7 {g:D→Option D}{ma:M D}{ρ:Qak}{O:Qac}:mUn g ma ρ O=(ma ρ O).bind fun d O1=>ofO (g (QaI O1 d)) O1:=rfl
def isF (n:String) (o:Option String) (O:Qac):Res D:=match o with
 | some t=>.ok (.bl (QcM t n)) O
 | none=>.no
@[simp] theorem Qmb {n t:String}{O:Qac}:isF n (some t) O = .ok (.bl (QcM t n)) O:=rfl
@[simp] theorem QsL {n:String}{m:M D}{ρ:Qak}{O:Qac}:Qgr n m ρ O=(m ρ O).bind fun d O1=>isF n (tyD (QaI O1 d)) O1:=rfl
@[simp] theorem Qzc:tyD .non=some "NoneType":=rfl
@[simp] theorem Qzw {b:Bool}:tyD (.bl b)=some "bool":=rfl
@[simp] theorem Qy4 {b:Int}:tyD (.int b)=some "int":=rfl
@[simp] theorem Quw {b:List Nat}:tyD (.str b)=some "str":=rfl
@[simp] theorem Qzj {b:List D}:tyD (.lst b)=some "list":=rfl
@[simp] theorem Qy7 {b:List D}:tyD (.tup b)=some "tuple":=rfl
@[simp] theorem Qzg {a b:List D}:tyD (.dic a b)=some "dict":=rfl
@[simp] theorem Qz6 {ρ:Qak}{O:Qac}:moN ρ O = .ok none O:=rfl
def osF (d:D) (O:Qac):Res (Option Int):=match d with
 | .int i=>.ok (some i) O
 | _=>.no
@[simp] theorem QxU {i:Int}{O:Qac}:osF (.int i) O = .ok (some i) O:=rfl
@[simp] theorem QyD {m:M D}{ρ:Qak}{O:Qac}:moS m ρ O=(m ρ O).bind osF:=rfl
@[simp] theorem Qyr {m:M D}{lo hi:M (Option Int)}{ρ:Qak}{O:Qac}:mSl m lo hi ρ O=(m ρ O).bind fun d O1=>(lo ρ O1).bind fun l O2=>(hi ρ O2).bind fun h O3=>ofO (gSl (QaI O3 d) l h) O3:=rfl
@[simp] theorem Qy8 {l:List Nat}{lo hi:Option Int}:gSl (.str l) lo hi=if l.length≤16777216 then some (.str (Qc3 l lo hi)) else none:=rfl
@[simp] theorem Qum {l:List D}{lo hi:Option Int}:gSl (.lst l) lo hi=some (.lst (Qc3 l lo hi)):=rfl
@[simp] theorem Qza {l:List D}{lo hi:Option Int}:gSl (.tup l) lo hi=some (.tup (Qc3 l lo hi)):=rfl
def Qe8 (f:Fl) (b:MS):Fl:=match f with
 | .nx ρ' O'=>b ρ' O'
 | r=>r
@[simp] theorem QaN {a b:MS}{ρ:Qak}{O:Qac}:Qah a b ρ O=Qe8 (a ρ O) b:=rfl
@[simp] theorem QaR {ρ:Qak}{O:Qac}{b:MS}:Qe8 (.nx ρ O) b=b ρ O:=rfl
@[simp] theorem Qul {d:D}{O:Qac}{b:MS}:Qe8 (.rt d O) b = .rt d O:=rfl
@[simp] theorem Qy6 {ρ:Qak}{O:Qac}{b:MS}:Qe8 (.bk ρ O) b = .bk ρ O:=rfl
@[simp] theorem Qzi {ρ:Qak}{O:Qac}{b:MS}:Qe8 (.ct ρ O) b = .ct ρ O:=rfl
@[simp] theorem Qy2 {b:MS}:Qe8 .no b = .no:=rfl
@[simp] theorem QeT {ρ:Qak}{O:Qac}:QaH ρ O = .nx ρ O:=rfl
def Qjj (r:Res D):Fl:=match r with
 | .ok d O'=>.rt d O'
 | .ex x O'=>.ex x O'
 | .no=>.no
@[simp] theorem QcU {m:M D}{ρ:Qak}{O:Qac}:QaB m ρ O=Qjj (m ρ O):=rfl
@[simp] theorem QiM {d:D}{O:Qac}:Qjj (.ok d O) = .rt d O:=rfl
def Qs0 (r:Res D) (ρ:Qak):Fl:=match r with
 | .ok _ O'=>.nx ρ O'
 | .ex x O'=>.ex x O'
 | .no=>.no
@[simp] theorem Qts {m:M D}{ρ:Qak}{O:Qac}:QhZ m ρ O=Qs0 (m ρ O) ρ:=rfl
@[simp] theorem Qrj {d:D}{O:Qac}{ρ:Qak}:Qs0 (.ok d O) ρ = .nx ρ O:=rfl
def ifF (r:Res Bool) (a b:MS) (ρ:Qak):Fl:=match r with
 | .ok c O'=>if c=true then a ρ O' else b ρ O'
 | .ex x O'=>.ex x O'
 | .no=>.no
@[simp] theorem Qfr {t:M Bool}{a b:MS}{ρ:Qak}{O:Qac}:QaX t a b ρ O=ifF (t ρ O) a b ρ:=rfl
@[simp] theorem Qd7 {c:Bool}{O:Qac}{a b:MS}{ρ:Qak}:ifF (.ok c O) a b ρ=if c=true then a ρ O else b ρ O:=rfl
def QmO (i:Nat) (r:Res D) (ρ:Qak):Fl:=match r with
 | .ok d O'=>.nx (ρ.set i (some d)) O'
 | .ex x O'=>.ex x O'
 | .no=>.no
@[simp] theorem Qdf {i:Nat}{m:M D}{ρ:Qak}{O:Qac}:Qan i m ρ O=QmO i (m ρ O) ρ:=rfl
@[simp] theorem QcK {i:Nat}{d:D}{O:Qac}{ρ:Qak}:QmO i (.ok d O) ρ = .nx (ρ.set i (some d)) O:=rfl
def QrP (r:Res (List D)) (g:MG) (b:MS) (ρ:Qak):Fl:=match r with
 | .ok ds O'=>Qbw g b ds ρ O'
 | .ex x O'=>.ex x O'
 | .no=>.no
@[simp] theorem Qf7 {m:M (List D)}{g:MG}{b:MS}{ρ:Qak}{O:Qac}:QbI m g b ρ O=QrP (m ρ O) g b ρ:=rfl
@[simp] theorem QeN {ds:List D}{O:Qac}{g:MG}{b:MS}{ρ:Qak}:QrP (.ok ds O) g b ρ=Qbw g b ds ρ O:=rfl
@[simp] theorem mg_n {i:Nat}{d:D}{ρ:Qak}:mgN i d ρ=some (ρ.set i (some d)):=rfl
def QaZ (f:Fl):Res D:=match f with
 | .rt d O'=>.ok d O'
 | .nx _ O'=>.ok .non O'
 | .ex x O'=>.ex x O'
 | _=>.no
@[simp] theorem Qg3 {n:Nat}{b:MS}{ds:List D}{O:Qac}:Qba n b ds O=QaZ (b (ds.map some++List.replicate (n - ds.length) none) O):=rfl
@[simp] theorem QiG {d:D}{O:Qac}:QaZ (.rt d O) = .ok d O:=rfl
@[simp] theorem Qze {ρ:Qak}{O:Qac}:QaZ (.nx ρ O) = .ok .non O:=rfl
@[simp] theorem QqR {m:M (List D)}{ρ:Qak}{O:Qac}:Qck m ρ O=(m ρ O).bind fun ds O1=>match ds with
 | [.int j]=>if j≤1000000000∧-1000000000≤j then .ok (QaY 0 j.toNat) O1 else .no
 | _=>.no:=rfl
def itF (o:Option (List D)) (O:Qac):Res (List D):=match o with
 | some ds=>.ok ds O
 | none=>.no
@[simp] theorem QiY {ds:List D}{O:Qac}:itF (some ds) O = .ok ds O:=rfl
@[simp] theorem QlV {m:M D}{ρ:Qak}{O:Qac}:QbZ m ρ O=(m ρ O).bind fun d O1=>itF (Qhy d) O1:=rfl
@[simp] theorem Qk9 {ds:List D}:Qhy (.lst ds)=some ds:=rfl
@[simp] theorem Qx1 {ds:List D}:Qhy (.tup ds)=some ds:=rfl
theorem Qq5 {l:List Nat} (h:ascii l=true):Qhy (.str l)=some (Qcs l):=by
 show (if ascii l=true then some (Qcs l) else none)=_;rw [if_pos h]
@[simp] theorem Qmz {m:M (List D)}{own:Nat}{cap:List Nat}{g:MG}{t:M Bool}{e:M D}{ρ:Qak}{O:Qac}:Qcb m own cap g t e ρ O=(m ρ O).bind fun ds O1=>if ds.length≤1000000 then (QbK g t e ds (QgY own cap ρ) O1 []).bind fun ys O2=>.ok (.lst ys) O2 else .no:=rfl
@[simp] theorem Qel {i j:Int}:QaP (.int i) (.int j)=some (.int (i+j)):=rfl
@[simp] theorem Qqt {a b:List Nat}:QaP (.str a) (.str b)=if a.length+b.length≤1000000 then some (.str (a++b)) else none:=rfl
@[simp] theorem Qu1 {a b:List D}:QaP (.lst a) (.lst b)=if a.length+b.length≤1000000 then some (.lst (a++b)) else none:=rfl
@[simp] theorem QyQ {i j:Int}:QgC (.int i) (.int j)=some (.int (i - j)):=rfl
@[simp] theorem QgI {i j:Int}:QaU (.int i) (.int j)=if 0 < j then some (.int (i % j)) else none:=by
 unfold QaU gI
 by_cases h:0 < j <;> simp [h]
@[simp] theorem Qof {i j:Int}:Qc4 (.int i) (.int j)=if 0 < j∧j < 1073741824 then some (.int (i / j)) else none:=by
 unfold Qc4 gI
 by_cases h:0 < j∧j < 1073741824 <;> simp [h]
theorem Qf4 {i j:Int} (h:(-(2 ^ 64) < i∧i < 2 ^ 64)∨(-(2 ^ 64) < j∧j < 2 ^ 64)):QbE (.int i) (.int j)=some (.int (i * j)):=by
 unfold QbE;dsimp only;rw [if_pos];rw [Bool.or_eq_true];unfold QdY;rw [zm,zm,decide_eq_true_eq,decide_eq_true_eq,decide_eq_true_eq,decide_eq_true_eq];exact h
@[simp] theorem Qo6 {i j:Int}:gLt (.int i) (.int j)=some (.bl (decide (i < j))):=rfl
@[simp] theorem Qlo {i j:Int}:gGt (.int i) (.int j)=some (.bl (decide (j < i))):=rfl
@[simp] theorem QzS {i j:Int}:gGe (.int i) (.int j)=some (.bl (decide (j≤i))):=rfl
@[simp] theorem Qs8 {i j:Int}:gLe (.int i) (.int j)=some (.bl (decide (i≤j))):=rfl
theorem Qqq (a b:Nat):(([a]:List Nat) < [b])↔a < b:=by
 constructor
 ·intro h
  rcases List.cons_lt_cons_iff.mp h with h | ⟨_,h⟩
  ·exact h
  ·exact absurd h (List.not_lt_nil _)
 ·intro h;exact List.cons_lt_cons_iff.mpr (.inl h)
@[simp] theorem QzT {a b:Nat}:gLe (.str [a]) (.str [b])=some (.bl (decide (a≤b))):=by
 show some (D.bl (!decide (([b]:List Nat) < [a])))=_
 have:decide (([b]:List Nat) < [a])=decide (b < a):=by
  by_cases h:b < a
  ·rw [zo h,zo ((Qqq _ _).mpr h)]
  ·rw [zj h,zj (fun z=>h ((Qqq _ _).mp z))]
 rw [this]
 by_cases h:b < a
 ·rw [zo h,zj (by omega)]; rfl
 ·rw [zj h,zo (by omega)]; rfl
@[simp] theorem QzM {i j:Int}:gEq (.int i) (.int j)=some (.bl (decide (i=j))):=rfl
@[simp] theorem QzX {i j:List Nat}:gEq (.str i) (.str j)=some (.bl (decide (i=j))):=rfl
@[simp] theorem Qz1 {i j:Bool}:gEq (.bl i) (.bl j)=some (.bl (decide (i=j))):=rfl
@[simp] theorem Qw8 {i j:List D}:gEq (.lst i) (.lst j)=if (okE (.lst i)&&okE (.lst j))=true then some (.bl (QeK (.lst i) (.lst j))) else none:=rfl
@[simp] theorem Qz4 {i j:Int}:gNe (.int i) (.int j)=some (.bl (!decide (i=j))):=rfl
@[simp] theorem Qz2 {i j:List Nat}:gNe (.str i) (.str j)=some (.bl (!decide (i=j))):=rfl
@[simp] theorem QzW {i j:Bool}:gNe (.bl i) (.bl j)=some (.bl (!decide (i=j))):=rfl
@[simp] theorem Qxw {i j:List D}:gNe (.lst i) (.lst j)=if (okE (.lst i)&&okE (.lst j))=true then some (.bl (!QeK (.lst i) (.lst j))) else none:=rfl
@[simp] theorem QzU {n:Bool}{c:Nat}{l:List Nat}:gIn n (.str [c]) (.str l)=some (.bl (n ^^ decide (c∈l))):=rfl
theorem QiK {ds:List D}{i:Int}:gIx (.lst ds) (.int i)=atI ds i:=rfl
theorem Qo7 {l:List Nat}{i:Int}:gIx (.str l) (.int i)=if l.length≤1000000 then (atI l i).map (fun c=>.str [c]) else none:=rfl
@[simp] theorem Qvd {l:List Nat}:Qbn [.str l]=if l.length≤1000000 then some (.int l.length) else none:=rfl
@[simp] theorem Qkc {l:List D}:Qbn [.lst l]=some (.int l.length):=rfl
@[simp] theorem Qzr {l:List D}:Qbn [.tup l]=some (.int l.length):=rfl
@[simp] theorem QqQ {i j:Int}:QhC [.int i,.int j]=some (.int (if j > i then j else i)):=rfl
@[simp] theorem QwO {i j:Int}:QhF [.int i,.int j]=some (.int (if j < i then j else i)):=rfl
@[simp] theorem Qzs {i:Int}:QvH [.int i]=some (.int i):=rfl
@[simp] theorem QzL {b:Bool}:QvH [.bl b]=some (.int (if b then 1 else 0)):=rfl
@[simp] theorem QzI:Qb2 (.int 10) (.int 18)=some (.int 1000000000000000000):=by rfl
@[simp] theorem QzD:Qb2 (.int 10) (.int 9)=some (.int 1000000000):=by rfl
@[simp] theorem QeW {α:Type}{xs:List α}{j:Nat}:atI xs (j:Int)=xs[j]?:=by
 unfold atI ixN;rw [if_pos (by omega)]
 by_cases h:j < xs.length
 ·rw [if_pos (by omega)];simp
 ·rw [if_neg (by omega),List.getElem?_eq_none (by omega)];rfl
theorem Qio {α:Type}{xs:List α}{i:Int} (h0:0≤i) (h1:i < xs.length):∃x,atI xs i=some x∧x∈xs:=by
 obtain ⟨j,rfl⟩:=Int.eq_ofNat_of_zero_le h0
 have hj:j < xs.length:=by omega
 exact ⟨xs[j],by show atI xs (j:Int)=_; rw [QeW,zq hj],jr hj⟩
section
variable {c:Prop} [Decidable c]
@[simp] theorem QyK {a b:Fl}:QaZ (if c then a else b)=if c then QaZ a else QaZ b:=by split <;> rfl
@[simp] theorem Qyv {a b:Res D}:Qjj (if c then a else b)=if c then Qjj a else Qjj b:=by split <;> rfl
@[simp] theorem Qx6 {a b:Fl}{r:MS}:Qe8 (if c then a else b) r=if c then Qe8 a r else Qe8 b r:=by split <;> rfl
@[simp] theorem Qyi {α β:Type}{a b:Res α}{f:α→Qac→Res β}:(if c then a else b).bind f=if c then a.bind f else b.bind f:=by split <;> rfl
@[simp] theorem Qzb {a b:Res Bool}{x y:MS}{ρ:Qak}:ifF (if c then a else b) x y ρ=if c then ifF a x y ρ else ifF b x y ρ:=by split <;> rfl
@[simp] theorem Qya {a b:Res D}{i:Nat}{ρ:Qak}:QmO i (if c then a else b) ρ=if c then QmO i a ρ else QmO i b ρ:=by split <;> rfl
@[simp] theorem QyZ {a b:Option D}{O:Qac}:ofO (if c then a else b) O=if c then ofO a O else ofO b O:=by split <;> rfl
end
@[simp] theorem QvI:QcM "str" "str" = true:=by decide
@[simp] theorem Qzv:QcM "int" "str" = false:=by decide
@[simp] theorem QzK:QcM "bool" "str" = false:=by decide
@[simp] theorem QzC:QcM "list" "str" = false:=by decide
@[simp] theorem Qzz:QcM "tuple" "str" = false:=by decide
@[simp] theorem QzJ:QcM "dict" "str" = false:=by decide
@[simp] theorem QzB:QcM "NoneType" "str" = false:=by decide
@[simp] theorem Qzn:QcM "int" "int" = true:=by decide
@[simp] theorem Qzu:QcM "int" "bool" = false:=by decide
@[simp] theorem Qzh:QcM "bool" "bool" = true:=by decide
@[simp] theorem Qy3:QcM "list" "list" = true:=by decide
@[simp] theorem Qy1:QcM "tuple" "tuple" = true:=by decide
@[simp] theorem Qzk:QcM "NoneType" "list" = false:=by decide
theorem Qda {g:MG}{b:MS} (Pv:Nat→Qak→Qac→Prop):∀(ds:List D) (k:Nat) (ρ:Qak) (O:Qac),Pv k ρ O →
  (∀i d ρ O,ds[i]? = some d→Pv (k+i) ρ O→∃ρ1,g d ρ=some ρ1∧∃ρ2 O2,(b ρ1 O = .nx ρ2 O2∨b ρ1 O = .ct ρ2 O2)∧Pv (k+i+1) ρ2 O2)→∃ρ' O',Qbw g b ds ρ O = .nx ρ' O'∧Pv (k+ds.length) ρ' O'
 | [],k,ρ,O,h,_=>⟨ρ,O,rfl,h⟩
 | d::ds,k,ρ,O,h,hs=>by
  obtain ⟨ρ1,e1,ρ2,O2,e2,h2⟩:=hs 0 d ρ O rfl h
  obtain ⟨ρ',O',e3,h3⟩:=Qda Pv ds (k+1) ρ2 O2 h2 fun i d' ρ' O' hi hp=>by
   have:=hs (i+1) d' ρ' O' (by simpa using hi) (by rw [show k+(i+1)=k+1+i by omega]; exact hp)
   rw [show k+(i+1)+1=k+1+i+1 by omega] at this;exact this
  refine ⟨ρ',O',?_,by rw [zy,show k+(ds.length+1)=k+1+ds.length by omega]; exact h3⟩;unfold Qbw;rw [e1];dsimp only
  rcases e2 with e2 | e2 <;> rw [e2] <;> exact e3
theorem Qii {g:MG}{t:M Bool}{m:M D} (Pv:Qak→Prop) (p:D→Bool):∀(ds:List D) (ρ:Qak) (O:Qac) (acc:List D),Pv ρ→(∀d∈ds,∀ρ,Pv ρ→∃ρ1,g d ρ=some ρ1∧Pv ρ1∧t ρ1 O = .ok (p d) O∧m ρ1 O = .ok d O)→QbK g t m ds ρ O acc = .ok (acc++ds.filter p) O
 | [],ρ,O,acc,_,_=>by simp [QbK]
 | d::ds,ρ,O,acc,h,hs=>by
  obtain ⟨ρ1,e1,h1,e2,e3⟩:=hs d zu ρ h
  have ih:=fun acc=>Qii Pv p ds ρ1 O acc h1 fun d' hd'=>hs d' (zv _ hd')
  unfold QbK;rw [e1];dsimp only;rw [e2]
  cases q:p d with
  | true =>
   dsimp only;rw [e3];dsimp only;rw [ih,List.filter_cons,q];simp
  | false =>
   dsimp only;rw [ih,List.filter_cons,q];simp
@[simp] theorem Qzt {ρ:Qak}{O:Qac}:QwV ρ O = .ok [] O:=rfl
@[simp] theorem Qzd {a b:M D}{r:M (List (D×D))}{ρ:Qak}{O:Qac}:QwF a b r ρ O=(a ρ O).bind fun x O1=>(b ρ O1).bind fun y O2=>(r ρ O2).bind fun ps O3=>.ok ((x,y)::ps) O3:=rfl
def diF (o:Option (List Key)) (kv:List (D×D)) (O:Qac):Res D:=match o with
 | some ks=>if ks.Nodup∧kv.length≤15 then .ok (.dic (kv.map (·.1)) (kv.map (·.2))) O else .no
 | none=>.no
@[simp] theorem QyI {ks:List Key}{kv:List (D×D)}{O:Qac}:diF (some ks) kv O=if ks.Nodup∧kv.length≤15 then .ok (.dic (kv.map (·.1)) (kv.map (·.2))) O else .no:=rfl
@[simp] theorem Qzo {m:M (List (D×D))}{ρ:Qak}{O:Qac}:Qxx m ρ O=(m ρ O).bind fun kv O1=>diF (keysOf kv) kv O1:=rfl
@[simp] theorem Qy0 {i:Int}:keyOf (.int i)=some (.inl i):=rfl
@[simp] theorem Qy5 {i:List Nat}:keyOf (.str i)=some (.inr (S i)):=rfl
@[simp] theorem Qxe:keysOf []=some []:=rfl
@[simp] theorem QwT {a b:D}{r:List (D×D)}:keysOf ((a,b)::r)=(keyOf a).bind fun k=>(keysOf r).map (k :: ·):=rfl
def joF (o:Option (List (List Nat))) (O:Qac):Res D:=match o with
 | some ls=>if (ls.map List.length).sum≤1000000 then .ok (.str ls.flatten) O else .no
 | none=>.no
@[simp] theorem QrJ {ls:List (List Nat)}{O:Qac}:joF (some ls) O=if (ls.map List.length).sum≤1000000 then .ok (.str ls.flatten) O else .no:=rfl
def jdF (d:D) (O:Qac):Res D:=match d with
 | .lst ds=>joF (QeP ds) O
 | _=>.no
@[simp] theorem Qxp {ds:List D}{O:Qac}:jdF (.lst ds) O=joF (QeP ds) O:=rfl
@[simp] theorem QvP {m:M D}{ρ:Qak}{O:Qac}:Qlr m ρ O=(m ρ O).bind fun d O1=>jdF (QaI O1 d) O1:=rfl
theorem QkR {α:Type}{f:α→List Nat}:∀l:List α,QeP (l.map fun x=>.str (f x))=some (l.map f)
 | []=>rfl
 | x::l=>by
  show (QeP (l.map fun x=>D.str (f x))).map _=_;rw [QkR l];rfl
@[simp] theorem Qxc {own:Nat}{cap:List Nat}{ρ:Qak}:QgY own cap ρ=List.replicate own none++cap.map fun j=>(ρ[j]?).join:=rfl
@[simp] theorem Qx2 {g:MG}{t:M Bool}{m:M D}{ρ:Qak}{O:Qac}{acc:List D}:QbK g t m [] ρ O acc = .ok acc O:=rfl
theorem Qml:∀ds:List D,Qhf ds=ds.map toP
 | []=>rfl
 | d::ds=>by rw [Qhf,Qml ds]; rfl
theorem QiR:∀{ds:List D},(∀d∈ds,QcE d=true)→Qet ds=true
 | [],_=>rfl
 | d::ds,h=>by rw [Qet,h d zu,QiR fun x hx=>h x (zv _ hx)]; rfl
theorem Qno {n:Nat} (hn:n < 60) {ds:List D} (h:∀d∈ds,QcE d=true∧(toP d).canLay0=true∧(toP d).depth≤n):okE (.lst ds)=true:=by
 unfold okE;rw [zm];refine ⟨?_,?_⟩
 ·rw [QcE]; exact QiR fun d hd=>(h d hd).1
 ·rw [toP,Qml]
  refine Qt4 hn fun d hd=>?_
  obtain ⟨x,hx,rfl⟩:=zP.mp hd;exact (h x hx).2
theorem QfG {l:List Nat} (h:∀c∈l,c < 1114112):(PyData.str (S l)).canLay0=true:=by
 show PyData.strOk (S l)=true;unfold PyData.strOk S;simp;exact h
theorem QkW {d:D} (h:okE d=true):QeK d d=true:=by
 unfold okE at h;rw [zm] at h
 have:=h.2
 unfold okD at this;rw [zm] at this;exact SeqAt.eqv_refl _ this.1
def it (f:Int→Int):Nat→Int→Int
 | 0,x=>x
 | n+1,x=>f (it f n x)
def mix (n k:Int):Int:=if n > 1000000000000000000 then it (fun r=>r / 1000000000) k.toNat n % 1000000000
 else
  let m:=it (fun m=>(m * 48271+104729) % 2147483629) (k+2).toNat (n % 2147483647+7919)
  m * m % 998244353 / 11
theorem QsC (j:Nat) (x:Int) (h0:0≤x) (h1:x < 2147491566):0≤it (fun m=>(m * 48271+104729) % 2147483629) j x∧it (fun m=>(m * 48271+104729) % 2147483629) j x < 2147491566:=by
 induction j with
 | zero=>exact ⟨h0,h1⟩
 | succ j ih =>
  refine ⟨zW _ (by decide),?_⟩
  have:=jc (it (fun m=>(m * 48271+104729) % 2147483629) j x * 48271+104729) (show (0:Int) < 2147483629 by decide)
  show (it (fun m=>(m * 48271+104729) % 2147483629) j x * 48271+104729) % 2147483629 < _;omega
def QoU:MS:=(Qah (QaX (Qav (Qaf gGt (Qab 0) (Qaf Qb2 (mC (.int 10)) (mC (.int 18))))) (Qah (Qan 2 (mG (Qab 0)))
  (Qah (QbI (Qck (Qaa (Qab 1) Qae)) (mgN 3) (Qan 2 (Qaf Qc4 (Qab 2) (Qaf Qb2 (mC (.int 10)) (mC (.int 9))))))
  (QaB (Qaf QaU (Qab 2) (Qaf Qb2 (mC (.int 10)) (mC (.int 9))))))) QaH)
  (Qah (Qan 4 (Qaf QaP (Qaf QaU (Qab 0) (mC (.int 2147483647))) (mC (.int 7919))))
  (Qah (QbI (Qck (Qaa (Qaf QaP (Qab 1) (mC (.int 2))) Qae)) (mgN 3) (Qan 4 (Qaf QaU (Qaf QaP (Qaf QbE (Qab 4) (mC (.int 48271))) (mC (.int 104729))) (mC (.int 2147483629)))))
  (QaB (Qaf Qc4 (Qaf QaU (Qaf QbE (Qab 4) (Qab 4)) (mC (.int 998244353))) (mC (.int 11)))))))
theorem QfB (lo:Int) (n:Nat):(QaY lo n).length=n:=by simp [QaY]
theorem Qv7 (n k:Int) (h0:0≤k) (h1:k≤1000000) (O:Qac):Qba 5 QoU [.int n,.int k] O = .ok (.int (mix n k)) O:=by
 unfold mix
 by_cases hn:n > 1000000000000000000
 ·obtain ⟨ρ',O',e,rfl,o3,rfl⟩:=Qda (g:=mgN 3) (b:=Qan 2 (Qaf Qc4 (Qab 2) (Qaf Qb2 (mC (.int 10)) (mC (.int 9)))))
   (fun i ρ O'=>O'=O∧∃o3,ρ = [some (.int n),some (.int k),some (.int (it (fun r=>r / 1000000000) i n)),o3,none]) (QaY 0 k.toNat) 0 [some (.int n),some (.int k),some (.int n),none,none] O ⟨rfl,none,rfl⟩ (by
    rintro i d ρ O' hi ⟨rfl,o3,rfl⟩;refine ⟨_,rfl,?_⟩;simp;rw [show it (fun r=>r / 1000000000) (i+1) n=it (fun r=>r / 1000000000) i n / 1000000000 from rfl]
    exact ⟨_,_,⟨rfl,rfl⟩,rfl,_,rfl⟩)
  rw [QfB,Nat.zero_add] at e
  have hk:k≤1000000000∧-1000000000≤k:=by omega
  simp [QoU,hn,hk,e]
 ·have hm0:0≤n % 2147483647+7919:=by have:=zW n (show (2147483647:Int)≠0 by decide); omega
  have hm1:n % 2147483647+7919 < 2147491566:=by have:=jc n (show (0:Int) < 2147483647 by decide); omega
  obtain ⟨ρ',O',e,rfl,o3,rfl⟩:=Qda (g:=mgN 3) (b:=Qan 4 (Qaf QaU (Qaf QaP (Qaf QbE (Qab 4) (mC (.int 48271))) (mC (.int 104729))) (mC (.int 2147483629))))
   (fun i ρ O'=>O'=O∧∃o3,ρ = [some (.int n),some (.int k),none,o3,some (.int (it (fun m=>(m * 48271+104729) % 2147483629) i (n % 2147483647+7919)))]) (QaY 0 (k+2).toNat) 0 [some (.int n),some (.int k),none,none,some (.int (n % 2147483647+7919))] O ⟨rfl,none,rfl⟩ (by
    rintro i d ρ O' hi ⟨rfl,o3,rfl⟩;refine ⟨_,rfl,?_⟩;obtain ⟨b0,b1⟩:=QsC i _ hm0 hm1
    have:=Qf4 (i:=it (fun m=>(m * 48271+104729) % 2147483629) i (n % 2147483647+7919)) (j:=48271) (.inr ⟨by decide,by decide⟩)
    simp [this]
    rw [show it (fun m=>(m * 48271+104729) % 2147483629) (i+1) (n % 2147483647+7919)=(it (fun m=>(m * 48271+104729) % 2147483629) i (n % 2147483647+7919) * 48271+104729) % 2147483629 from rfl]
    exact ⟨_,_,⟨rfl,rfl⟩,rfl,_,rfl⟩)
  rw [QfB,Nat.zero_add] at e
  have hk:k+2≤1000000000∧-1000000000≤k+2:=by omega
  obtain ⟨b0,b1⟩:=QsC (k+2).toNat _ hm0 hm1;have hq:=Qf4 (i:=it (fun m=>(m * 48271+104729) % 2147483629) (k+2).toNat (n % 2147483647+7919)) (j:=it (fun m=>(m * 48271+104729) % 2147483629) (k+2).toNat (n % 2147483647+7919)) (.inl ⟨by omega,by omega⟩);simp [QoU,hn,hk,e,hq]
def QuZ (cs:List Str) (f:Str) (d:D) (O:Qac):Res D:=match d with
 | .ob n=>match O[n]? with
  | some (.ins c fs)=>if c∈cs then match fs.lookup f with
   | some y=>.ok y O
   | none=>.no else .no
  | _=>.no
 | _=>.no
@[simp] theorem Qxf {cs:List Str}{f:Str}{m:M D}{ρ:Qak}{O:Qac}:QdP cs f m ρ O=(m ρ O).bind (QuZ cs f):=rfl
def puF (cs:List Str) (f:Str) (d:D) (ρ:Qak) (r:Res D):Fl:=match r with
 | .ok (.ob n) O2=>match O2[n]? with
  | some (.ins c fs)=>if c∈cs∧fs.length < 900 then .nx ρ (O2.set n (.ins c (putD f d fs))) else .no
  | _=>.no
 | _=>.no
def sfF (cs:List Str) (f:Str) (mo:M D) (r:Res D) (ρ:Qak):Fl:=match r with
 | .ok d O1=>puF cs f d ρ (mo ρ O1)
 | .ex x O'=>.ex x O'
 | .no=>.no
@[simp] theorem Qvx {cs:List Str}{f:Str}{mo mv:M D}{ρ:Qak}{O:Qac}:Qfx cs f mo mv ρ O=sfF cs f mo (mv ρ O) ρ:=by
 unfold Qfx sfF puF
 cases mv ρ O <;> rfl
@[simp] theorem Qv0 {cs:List Str}{f:Str}{mo:M D}{d:D}{O:Qac}{ρ:Qak}:sfF cs f mo (.ok d O) ρ=puF cs f d ρ (mo ρ O):=rfl
def meF (c m:Str) (cf:List D→Qac→Res D) (ma:Qac→Res (List D)) (d:D) (O1:Qac):Res D:=match d with
 | .ob n=>match O1[n]? with
  | some (.ins c' fs)=>if c'=c∧(fs.lookup m).isNone=true then (ma O1).bind fun ds O2=>cf (.ob n::ds) O2 else .no
  | _=>.no
 | _=>.no
@[simp] theorem Qvr {c m:Str}{cf:List D→Qac→Res D}{mo:M D}{ma:M (List D)}{ρ:Qak}{O:Qac}:Qbe c m cf mo ma ρ O=(mo ρ O).bind (meF c m cf (ma ρ)):=rfl
def mkF (n:Nat) (r:Res D):Res D:=match r with
 | .ok .non O2=>.ok (.ob n) O2
 | .ok _ _=>.no
 | .ex x O2=>.ex x O2
 | .no=>.no
@[simp] theorem QvQ {c:Str}{cf:List D→Qac→Res D}{ma:M (List D)}{ρ:Qak}{O:Qac}:Qg9 c cf ma ρ O=(ma ρ O).bind fun ds O1=>mkF O1.length (cf (.ob O1.length::ds) (O1 ++ [.ins c []])):=by
 unfold Qg9;congr 1
@[simp] theorem QvK {n:Nat}{O:Qac}:mkF n (.ok .non O) = .ok (.ob n) O:=rfl
def apF (i:Nat) (r:Res D) (ρ:Qak):Fl:=match r with
 | .ok d O'=>match ρ[i]? with
  | some (some (.lst ds))=>if ds.length < 1000000 then .nx (ρ.set i (some (.lst (ds ++ [d])))) O' else .no
  | _=>.no
 | .ex x O'=>.ex x O'
 | .no=>.no
@[simp] theorem QqO {i:Nat}{m:M D}{ρ:Qak}{O:Qac}:Qcj i m ρ O=apF i (m ρ O) ρ:=rfl
theorem QjL {i:Nat}{d:D}{ds:List D}{ρ:Qak}{O:Qac} (h:ρ[i]? = some (some (.lst ds))) (hl:ds.length < 1000000):apF i (.ok d O) ρ = .nx (ρ.set i (some (.lst (ds ++ [d])))) O:=by
 unfold apF; dsimp only; rw [h]; dsimp only; rw [if_pos hl]
def exF (i:Nat) (r:Res D) (ρ:Qak):Fl:=match r with
 | .ok d O'=>match ρ[i]?,QaI O' d with
  | some (some (.lst ds)),.lst es=>if ds.length+es.length≤1000000 then .nx (ρ.set i (some (.lst (ds++es)))) O' else .no
  | _,_=>.no
 | .ex x O'=>.ex x O'
 | .no=>.no
@[simp] theorem QzA {i:Nat}{m:M D}{ρ:Qak}{O:Qac}:Qw9 i m ρ O=exF i (m ρ O) ρ:=rfl
def enF (d:D) (O1:Qac):Res (List D):=match d with
 | .lst ds=>.ok (QjC 0 ds) O1
 | .str l=>if ascii l=true then .ok (QjC 0 (Qcs l)) O1 else .no
 | _=>.no
@[simp] theorem QzE {m:M D}{ρ:Qak}{O:Qac}:QwW m ρ O=(m ρ O).bind enF:=rfl
def asF (r:Res D) (g:MG) (ρ:Qak):Fl:=match r with
 | .ok d O'=>match g d ρ with
  | some ρ'=>.nx ρ' O'
  | none=>.no
 | .ex x O'=>.ex x O'
 | .no=>.no
@[simp] theorem Qzy {m:M D}{g:MG}{ρ:Qak}{O:Qac}:QxA m g ρ O=asF (m ρ O) g ρ:=rfl
@[simp] theorem QAa {i j:Nat}{a b:D}{ρ:Qak}:QlJ 2 (QdZ (mgN i) (QdZ (mgN j) QjD)) (.tup [a,b]) ρ=some ((ρ.set i (some a)).set j (some b)):=rfl
def stF (a b:D) (O:Qac):Res D:=match a,b with
 | .str l,.str n=>.ok (.bl (decide (l.take n.length=n))) O
 | _,_=>.no
@[simp] theorem Qyk {a b:M D}{ρ:Qak}{O:Qac}:QtC a b ρ O=(a ρ O).bind fun x O1=>(b ρ O1).bind fun y O2=>stF x y O2:=rfl
@[simp] theorem QzQ {l n:List Nat}{O:Qac}:stF (.str l) (.str n) O = .ok (.bl (decide (l.take n.length=n))) O:=rfl
theorem QkT {t:M Bool}{b:MS} (Pv:Nat→Qak→Qac→Prop):∀(n:Nat) (k:Nat) (ρ:Qak) (O:Qac),k < n→Pv k ρ O →
  (∀k ρ O,Pv (k+1) ρ O→t ρ O = .ok true O∧∃j ρ2 O2,j≤k∧b ρ O = .nx ρ2 O2∧Pv j ρ2 O2)→(∀ρ O,Pv 0 ρ O→t ρ O = .ok false O)→∃ρ' O',QbW t b n ρ O = .nx ρ' O'∧Pv 0 ρ' O'
 | 0,k,ρ,O,hk,_,_,_=>absurd hk (Nat.not_lt_zero _)
 | n+1,0,ρ,O,_,h,_,h0=>by
  refine ⟨ρ,O,?_,h⟩;unfold QbW;rw [h0 ρ O h]
 | n+1,k+1,ρ,O,hk,h,hs,h0=>by
  obtain ⟨e1,j,ρ2,O2,hj,e2,h2⟩:=hs k ρ O h;obtain ⟨ρ',O',e3,h3⟩:=QkT Pv n j ρ2 O2 (by omega) h2 hs h0;refine ⟨ρ',O',?_,h3⟩;unfold QbW;rw [e1];dsimp only;rw [e2];exact e3
theorem Qdm {α:Type}{g:MG}{t:M Bool}{m:M D} (Pv:Qak→Prop) (f h:α→D):∀(xs:List α) (ρ:Qak) (O:Qac) (acc:List D),Pv ρ→(∀x∈xs,∀ρ,Pv ρ→∃ρ1,g (f x) ρ=some ρ1∧Pv ρ1∧t ρ1 O = .ok true O∧m ρ1 O = .ok (h x) O)→QbK g t m (xs.map f) ρ O acc = .ok (acc++xs.map h) O
 | [],ρ,O,acc,_,_=>by simp [QbK]
 | x::xs,ρ,O,acc,hp,hs=>by
  obtain ⟨ρ1,e1,h1,e2,e3⟩:=hs x zu ρ hp;rw [zc];unfold QbK;rw [e1];dsimp only;rw [e2];dsimp only;rw [e3];dsimp only;rw [Qdm Pv f h xs ρ1 O _ h1 fun d' hd'=>hs d' (zv _ hd')];simp
def Qvl:List Nat:=[101,110,100]
def QsZ:List Nat:=[97,110,101,119]
def QqJ:List Nat:=[112,108,97,105,110]
def QdM:List Nat:=[115,105,103,110]
def Qu4:List Nat:=[105,110,107]
def Qns:List Nat:=[103,114,111,117,110,100]
def item (p:Int) (k v:List Nat):D:=.tup [.int p,.str k,.str v]
def col (c:Nat):Bool:=decide (c∈[97,98,99,100,101,102,103,104,46])
def Qyz (x:Nat):List Nat→List Nat×List Nat×Nat
 | []=>(QdM,[91],0)
 | e::_=>if e=93 then (Qns,[x],3) else (QdM,[91],0)
def Qyy:List Nat→List Nat×List Nat×Nat
 | []=>(QdM,[91],0)
 | x::t=>if col x=true then Qyz x t else (QdM,[91],0)
def QyV (x:Nat):List Nat→List Nat×List Nat×Nat
 | []=>(QdM,[91],0)
 | e::_=>if e=93 then (Qu4,[x],2) else (QdM,[91],0)
def Qyf:List Nat→List Nat×List Nat×Nat
 | []=>(QdM,[91],0)
 | d::t=>if d=93 then (QqJ,[],1) else if d=91 then (QdM,[91],1) else if col d=true then QyV d t else if d=47 then Qyy t else (QdM,[91],0)
def one (c:Nat) (t:List Nat):List Nat×List Nat×Nat :=
 if c=10 then (Qvl,[],0) else if c=9 then (QsZ,[],0) else if c=91 then Qyf t else (QdM,[c],0)
def items (p:Int):List Nat→List D
 | []=>[]
 | c::t=>item p (one c t).1 (one c t).2.1::items (p+((one c t).2.2+1:Nat)) (t.drop (one c t).2.2)
termination_by l=>l.length
decreasing_by
 simp only [List.length_drop,zy];omega
def own (p:Int) (c:Nat):D:=if c=10 then item p Qvl [] else if c=9 then item p QsZ [] else item p QdM [c]
def owns:Int→List Nat→List D
 | _,[]=>[]
 | p,c::l=>own p c::owns (p+1) l
def Qyg:List Nat→Bool
 | [a]=>decide (a=91)
 | [a,b]=>decide (a=91)&&(decide (b=47) || col b)
 | [a,b,c]=>decide (a=91)&&(decide (b=47)&&col c)
 | _=>false
def markB:List Nat→Option (List Nat×List Nat)
 | [a,b]=>if a=91∧b=93 then some (QqJ,[]) else if a=91∧b=91 then some (QdM,[91]) else none
 | [a,b,c]=>if a=91∧col b=true∧c=93 then some (Qu4,[b]) else none
 | [a,b,c,d]=>if a=91∧b=47∧col c=true∧d=93 then some (Qns,[c]) else none
 | _=>none
def tk (h:List Nat) (c:Nat) (p:Int):List D×List Nat :=
 if Qyg (h ++ [c])=true then ([],h ++ [c]) else match markB (h ++ [c]) with
 | some (k,v)=>([item p k v],[])
 | none=>if c=91 then (owns p h,[91]) else (owns p (h ++ [c]),[])
inductive Qjp:List Nat→Prop where
 | h0:Qjp []
 | h1:Qjp [91]
 | h2:Qjp [91,47]
 | h3 (x:Nat) (h:col x=true):Qjp [91,x]
 | h4 (x:Nat) (h:col x=true):Qjp [91,47,x]
theorem Qjp.len {h:List Nat} (H:Qjp h):h.length≤3:=by cases H <;> simp
theorem Ql0 {n:Nat}{t:M Bool}{b:MS}{ρ:Qak}{O:Qac}:QcJ n t b ρ O=QbW t b n ρ O:=rfl
@[simp] theorem QuB {l:List D}:Qfz [.lst l]=some (.lst l):=rfl
def fzF (f:Fl):Fl:=match f with
 | .rt d O'=>.rt d O'
 | _=>.no
@[simp] theorem QzZ {m:MS}{ρ:Qak}{O:Qac}:Qmn m ρ O=fzF (m ρ O):=rfl
@[simp] theorem QzF {d:D}{O:Qac}:fzF (.rt d O) = .rt d O:=rfl
def ziF (d e:D) (O:Qac):Res (List D):=match d,e with
 | .lst ds,.lst es=>.ok (QhK ds es) O
 | _,_=>.no
@[simp] theorem QzY {ma mb:M D}{ρ:Qak}{O:Qac}:QvL ma mb ρ O=(ma ρ O).bind fun d O1=>(mb ρ O1).bind fun e O2=>ziF d e O2:=by
 unfold QvL;congr 1
@[simp] theorem Qz3 {ds es:List D}{O:Qac}:ziF (.lst ds) (.lst es) O = .ok (QhK ds es) O:=rfl
end L2
namespace K47
open PySem L2
seal VE SE OE WE TsE TwE AE VS VSs VG VGs VI VIc VO VIf DPE VSX Qjk
def top (i:Nat):Stmt:=PySem.Challenge.pw_outweave_k47_folds_refused.main.body.getD i (.Pass ⟨0,0,0,0⟩)
local macro_rules | `(tactic| trivial) => `(tactic| exact ⟨rfl, rfl, rfl, by decide +kernel, rfl, by decide +kernel, by decide +kernel⟩)
section
variable {Pr:Program}{w:World}{K:Frag}{mg:Str→Option Value}{base:Heap}
abbrev QhI:Stmt:=top 13
theorem Qm2:QaF ["sign"] ["sign"] (Qao QhI):=by trivial
def Qhn:MS :=
  (QaB (mIf (Qav (Qf5 gLe gLe (mC (.str [65])) (Qab 0) (mC (.str [90])))) (mC (.int 2)) (mC (.int 1))))
def QbM:List D→Qac→Res D:=Qba 1 Qhn
abbrev Qfw (Pr:Program) (w:World) (K:Frag) (mg:Str→Option Value) (base:Heap):Prop:=Can Pr w K mg base "width_of" ["sign"] 1 (vSp K mg [.s] (rV K) QbM)
theorem Qnj (Qg1:Def K mg "width_of" QhI)
  (B:Qbr mg)
  (NK:Qbb K=true) :
  Qfw Pr w K mg base:=by
 refine QbT (k:=0) (b:=Qhn) Qg1 Qm2 (fun _ _ _ _ _ _=>QaG fun _=>Qbu rfl) [.s] [] Qbl (fun _ _ _ _=>Rp.non) (body:=fun f cdv A outer s H E hr P=>?_);refine Qat ?_;refine QaQ ?_;refine Qly ?_ Qag Qag;refine Qrs Qj8 Qj8 (Qad (QaV [65])) (Qaj 0) (Qad (QaV [90]))
abbrev QfA:Stmt:=top 15
theorem Qm3:QaF ["letters"] ["letters"] (Qao QfA):=by trivial
def Qg4:MS :=
  (QaB (Qaz QlG (Qaa (Qcb (QbZ (Qab 0)) 1 [] (mgN 0) QdQ (Qas QbM (Qaa (Qaf gIx (Qab 0) (mC (.int 0))) Qae))) Qae)))
def Qfv:List D→Qac→Res D:=Qba 1 Qg4
abbrev Qj9 (Pr:Program) (w:World) (K:Frag) (mg:Str→Option Value) (base:Heap):Prop:=Can Pr w K mg base "cells_of" ["letters"] 2 (vSp K mg [.s] (rV K) Qfv)
theorem Qnm (Qho:Def K mg "cells_of" QfA)
  (B:Qbr mg)
  (NK:Qbb K=true)
  (QbX:Qfw Pr w K mg base) :
  Qj9 Pr w K mg base:=by
 refine QbT (k:=1) (b:=Qg4) Qho Qm3 (fun _ _ _ _ _ _=>QaG fun _=>Qbu rfl) [.s] [] Qbl (fun _ _ _ _=>Rp.non) (body:=fun f cdv A outer s H E hr P=>?_);refine Qat ?_;refine QaQ ?_;refine QaJ ?_;refine Qa9 (ms:=[.s]) (hv:=QvX) (Qv9 rfl) B.sum_ ?_;refine Qap ?_ Qal;refine Qaw ?_;refine QgD (Qao QfA) ["letters"] ["letter"] [] rfl (QgT (Qaj 0)) (fun _ _ _ _ P=>?_) (fun _ _ _ _ P=>?_) (fun _ _ _ _ P=>?_);exact QbA (i:=0) (show (Qa2 ["letters"] ["letter"] []).Nodup by decide +kernel) rfl (.inl rfl);exact QgP;refine QaK QbX (hr.mono (by decide)) ?_;refine Qap ?_ Qal;refine Qad ?_;refine Qa1 (Qad (Qai 0)) (Qad Qag)
abbrev QhB:Stmt:=top 17
theorem Qnh:QaF ["letters","place"] ["letters","place"] (Qao QhB):=by trivial
def Qen:MS :=
  (Qah (QaX (Qav (Qaf gEq (Qab 1) (Qaz Qbn (Qaa (Qab 0) Qae)))) (QaB (mC (.bl true))) QaH)
  (QaB (Qhu (Qaf gEq (Qaf gIx (Qaf gIx (Qab 0) (Qaf QgC (Qab 1) (mC (.int 1)))) (mC (.int 0))) (mC (.str [32]))) (Qaf gNe (Qaf gIx (Qaf gIx (Qab 0) (Qab 1)) (mC (.int 0))) (mC (.str [32]))))))
def Qcu:List D→Qac→Res D:=Qba 2 Qen
abbrev Qkd (Pr:Program) (w:World) (K:Frag) (mg:Str→Option Value) (base:Heap):Prop:=Can Pr w K mg base "is_break" ["letters","place"] 1 (vSp K mg [.s,.s] (rV K) Qcu)
theorem Qm1 (Qhl:Def K mg "is_break" QhB)
  (B:Qbr mg)
  (NK:Qbb K=true) :
  Qkd Pr w K mg base:=by
 refine QbT (k:=0) (b:=Qen) Qhl Qnh (fun _ _ _ _ _ _=>QaG fun _=>QaG fun _=>Qbu rfl) [.s,.s] [] Qbl (fun _ _ _ _=>Rp.non) (body:=fun f cdv A outer s H E hr P=>?_);refine Qam ?_ ?_;refine QbH ?_ ?_ Qbh;refine Qbi (Qcy hr) (Qaj 1) ?_ (Qa6 _);refine Qaw ?_;refine Qa9 (ms:=[.s]) (hv:=Qb0) Qb1 B.len_ ?_;refine Qap (Qaj 0) Qal;refine Qat (QaQ Qfq);refine Qat ?_;refine QaQ ?_;refine QjR ?_ ?_;refine QaJ ?_;refine Qil (Qcy hr) ?_ (Qad (QaV [32])) (Qa6 _);refine Qad ?_;refine Qa1 ?_ (Qad Qag);refine Qad ?_;refine Qa1 (Qaj 0) ?_;refine Qaw ?_;refine Qau QmJ (Qaj 1) (Qad Qag);refine Qkb ?_;refine QaJ ?_;refine Qil (Qlt hr) ?_ (Qad (QaV [32])) (Qa6 _)
 refine Qad ?_;refine Qa1 ?_ (Qad Qag);refine Qad ?_;refine Qa1 (Qaj 0) (Qaj 1)
abbrev Qkp:Stmt:=top 18
theorem Qf6:QaF ["letters","lo","wide","end","cells"] ["letters","lo","wide"] (Qao Qkp):=by trivial
def QiN:MS :=
  (Qah (Qan 3 (mG (Qab 1)))
  (Qah (Qan 4 (mC (.int 0)))
  (Qah (QcJ wF (QdJ (Qav (Qaf gLt (Qab 3) (Qaz Qbn (Qaa (Qab 0) Qae)))) (Qav (Qaf gLe (Qaf QaP (Qab 4) (Qas QbM (Qaa (Qaf gIx (Qaf gIx (Qab 0) (Qab 3)) (mC (.int 0))) Qae))) (Qab 2)))) (Qah (Qan 4 (Qaf QaP (Qab 4) (Qas QbM (Qaa (Qaf gIx (Qaf gIx (Qab 0) (Qab 3)) (mC (.int 0))) Qae))))
  (Qan 3 (Qaf QaP (Qab 3) (mC (.int 1))))))
  (QaB (Qab 3)))))
def QfD:List D→Qac→Res D:=Qba 5 QiN
abbrev QiL (Pr:Program) (w:World) (K:Frag) (mg:Str→Option Value) (base:Heap):Prop:=Can Pr w K mg base "reach" ["letters","lo","wide"] 2 (vSp K mg [.s,.s,.s] (rV K) QfD)
theorem Qry (QkK:Def K mg "reach" Qkp)
  (B:Qbr mg)
  (NK:Qbb K=true)
  (QbX:Qfw Pr w K mg base) :
  QiL Pr w K mg base:=by
 refine QbT (k:=1) (b:=QiN) QkK Qf6 (fun _ _ _ _ _ _=>QaG fun _=>QaG fun _=>QaG fun _=>Qbu rfl) [.s,.s,.s] [.v,.v] Qbl (fun _ _ _ _=>Rp.non) (body:=fun f cdv A outer s H E hr P=>?_);refine Qam ?_ ?_;refine Qax (i:=3) Qf6.nd rfl (.inl rfl) (Qb5 (Qaj 1));refine Qam (Qax (i:=4) Qf6.nd rfl (.inl rfl) Qag) ?_;refine Qam ?_ ?_;refine Qg2 wF ?_ ?_;refine QlZ ?_;refine QlW ?_ ?_;refine Qbi QjW (Qad (Qai 3)) ?_ (Qa6 _);refine Qaw ?_;refine Qa9 (ms:=[.s]) (hv:=Qb0) Qb1 B.len_ ?_;refine Qap (Qaj 0) Qal;refine QkN ?_;refine Qbi Qj8 ?_ (Qaj 2) (Qa6 _);refine Qaw ?_;refine Qau Qbo (Qad (Qai 4)) ?_;refine Qad ?_
 refine QaK QbX (hr.mono (by decide)) ?_;refine Qap ?_ Qal;refine Qad ?_;refine Qa1 ?_ (Qad Qag);refine Qad ?_;refine Qa1 (Qaj 0) (Qad (Qai 3));refine Qam ?_ ?_;refine Qax (i:=4) Qf6.nd rfl (.inl rfl) ?_;refine QaJ ?_;refine Qau Qbo (Qad (Qai 4)) ?_;refine Qad ?_;refine QaK QbX (hr.mono (by decide)) ?_;refine Qap ?_ Qal;refine Qad ?_;refine Qa1 ?_ (Qad Qag);refine Qad ?_;refine Qa1 (Qaj 0) (Qad (Qai 3));refine Qat ?_;refine Qax (i:=3) Qf6.nd rfl (.inl rfl) ?_;refine QaJ ?_;refine Qau Qbo (Qad (Qai 3)) (Qad Qag);refine Qat (QaQ (Qai 3))
abbrev QeI:Stmt:=top 19
theorem QbL:QaF ["letters","lo","wide","ends","cells","filled","place"] ["letters","lo","wide"] (Qao QeI):=by trivial
def QgV:MS :=
  (Qah (Qan 3 (Qbq Qae))
  (Qah (Qan 4 (mC (.int 0)))
  (Qah (Qan 5 (mC (.int 0)))
  (Qah (QbI (QjA (Qaa (Qab 1) (Qaa (Qaz Qbn (Qaa (Qab 0) Qae)) Qae))) (mgN 6) (Qah (Qan 4 (Qaf QaP (Qab 4) (Qas QbM (Qaa (Qaf gIx (Qaf gIx (Qab 0) (Qab 6)) (mC (.int 0))) Qae))))
  (Qah (QaX (Qav (Qaf gNe (Qaf gIx (Qaf gIx (Qab 0) (Qab 6)) (mC (.int 0))) (mC (.str [32])))) (Qan 5 (Qab 4)) QaH)
  (Qah (QaX (Qav (Qaf gGt (Qab 5) (Qab 2))) Qlq QaH)
  (QaX (Qb4 (Qas Qcu (Qaa (Qab 0) (Qaa (Qaf QaP (Qab 6) (mC (.int 1))) Qae)))) (Qcj 3 (QbQ (Qaa (Qaf QaP (Qab 6) (mC (.int 1))) (Qaa (Qab 5) Qae)))) QaH)))))
  (QaB (Qab 3))))))
def Qes:List D→Qac→Res D:=Qba 7 QgV
abbrev QgN (Pr:Program) (w:World) (K:Frag) (mg:Str→Option Value) (base:Heap):Prop:=Can Pr w K mg base "fitting_ends" ["letters","lo","wide"] 2 (vSp K mg [.s,.s,.s] (rO K) Qes)
theorem QjI (Qeu:Def K mg "fitting_ends" QeI)
  (B:Qbr mg)
  (NK:Qbb K=true)
  (QbX:Qfw Pr w K mg base)
  (QhH:Qkd Pr w K mg base) :
  QgN Pr w K mg base:=by
 refine QbT (k:=1) (b:=QgV) Qeu QbL (fun _ _ _ _ _ _=>QaG fun _=>QaG fun _=>QaG fun _=>Qbu rfl) [.s,.s,.s] [.o,.v,.v,.v] QcB (fun _ _ _ _=>.inl ⟨rfl,Rp.non⟩) (body:=fun f cdv A outer s H E hr P=>?_);refine Qam ?_ ?_;refine Qd0 (i:=3) QbL.nd rfl (.inl rfl) (QbR 0 Qal);refine Qam (Qax (i:=4) QbL.nd rfl (.inl rfl) Qag) ?_;refine Qam (Qax (i:=5) QbL.nd rfl (.inl rfl) Qag) ?_;refine Qam ?_ (Qat (QgF 3));refine QdH rfl ?_ (QbA (i:=6) QbL.nd rfl (.inl rfl)) ?_;refine Qpi B.range_ ?_;refine Qap (Qaj 1) ?_;refine Qap ?_ Qal;refine Qaw ?_;refine Qa9 (ms:=[.s]) (hv:=Qb0) Qb1 B.len_ ?_;refine Qap (Qaj 0) Qal
 refine Qam ?_ ?_;refine Qax (i:=4) QbL.nd rfl (.inl rfl) ?_;refine QaJ ?_;refine Qau Qbo (Qad (Qai 4)) ?_;refine Qad ?_;refine QaK QbX (hr.mono (by decide)) ?_;refine Qap ?_ Qal;refine Qad ?_;refine Qa1 ?_ (Qad Qag);refine Qad ?_;refine Qa1 (Qaj 0) (Qad (Qai 6));refine Qam ?_ ?_;refine QbH ?_ ?_ Qbh;refine Qbi (Qlt hr) ?_ (Qad (QaV [32])) (Qa6 _);refine Qad ?_;refine Qa1 ?_ (Qad Qag);refine Qad ?_;refine Qa1 (Qaj 0) (Qad (Qai 6));refine Qat (Qax (i:=5) QbL.nd rfl (.inl rfl) (Qai 4));refine Qam ?_ ?_;refine QbH ?_ (Qat Qsl) Qbh;refine Qbi QjZ (Qad (Qai 5)) (Qaj 2) (Qa6 _);refine Qat ?_;refine QbH ?_ ?_ Qbh
 refine Qe1 ?_;refine Qad ?_;refine QaK QhH (hr.mono (by decide)) ?_;refine Qap (Qaj 0) ?_;refine Qap ?_ Qal;refine Qaw ?_;refine Qau Qbo (Qad (Qai 6)) (Qad Qag);refine Qat ?_;refine QdT 3 ?_;refine Qci 2 ?_;refine QaA ?_ ?_;refine QaJ ?_;refine Qau Qbo (Qad (Qai 6)) (Qad Qag);refine QaA (Qai 5) Qal
abbrev Qgt:Stmt:=top 20
theorem Qf3:QaF ["letters","lo","wide","ends","end"] ["letters","lo","wide"] (Qao Qgt):=by trivial
def QcY:MS :=
  (Qah (Qan 3 (Qas Qes (Qaa (Qab 0) (Qaa (Qab 1) (Qaa (Qab 2) Qae)))))
  (Qah (QaX (Qav (Qaf gGt (Qaz Qbn (Qaa (Qab 3) Qae)) (mC (.int 0)))) (QaB (Qab 3)) QaH)
  (Qah (Qan 4 (Qas QfD (Qaa (Qab 0) (Qaa (Qab 1) (Qaa (Qab 2) Qae)))))
  (QaB (Qbq (Qaa (QbQ (Qaa (Qab 4) (Qaa (Qas Qfv (Qaa (mSl (Qab 0) (moS (mG (Qab 1))) (moS (Qab 4))) Qae)) Qae))) Qae))))))
def QdD:List D→Qac→Res D:=Qba 5 QcY
abbrev Qgm (Pr:Program) (w:World) (K:Frag) (mg:Str→Option Value) (base:Heap):Prop:=Can Pr w K mg base "line_ends" ["letters","lo","wide"] 3 (vSp K mg [.s,.s,.s] (rO K) QdD)
theorem Qmx (Qgq:Def K mg "line_ends" Qgt)
  (B:Qbr mg)
  (NK:Qbb K=true)
  (Qey:QgN Pr w K mg base)
  (Qds:QiL Pr w K mg base)
  (Qhg:Qj9 Pr w K mg base) :
  Qgm Pr w K mg base:=by
 refine QbT (k:=2) (b:=QcY) Qgq Qf3 (fun _ _ _ _ _ _=>QaG fun _=>QaG fun _=>QaG fun _=>Qbu rfl) [.s,.s,.s] [.o,.v] QcB (fun _ _ _ _=>.inl ⟨rfl,Rp.non⟩) (body:=fun f cdv A outer s H E hr P=>?_);refine Qam ?_ ?_;refine Qd0 (i:=3) Qf3.nd rfl (.inl rfl) ?_;refine Qdt Qey (hr.mono (by decide)) ?_;refine Qap (Qaj 0) ?_;refine Qap (Qaj 1) ?_;refine Qap (Qaj 2) Qal;refine Qam ?_ ?_;refine QbH ?_ (Qat (QgF 3)) Qbh;refine Qbi QjZ ?_ (Qad Qag) (Qa6 _);refine Qaw ?_;refine Qa9 (ms:=[.s]) (hv:=Qb0) Qb1 B.len_ ?_;refine Qap (Qaj 3) Qal;refine Qam ?_ ?_;refine Qax (i:=4) Qf3.nd rfl (.inl rfl) ?_;refine QaK Qds (hr.mono (by decide)) ?_
 refine Qap (Qaj 0) ?_;refine Qap (Qaj 1) ?_;refine Qap (Qaj 2) Qal;refine Qat ?_;refine Qc0 ?_;refine QbR 1 ?_;refine QaA ?_ Qal;refine Qci 2 ?_;refine QaA (Qai 4) ?_;refine QaA ?_ Qal;refine QaK Qhg (hr.mono (by decide)) ?_;refine Qap ?_ Qal;refine Qaw ?_;refine Qsn (Qaj 0) ?_ (QnI (Qai 4));refine QnI (Qb5 (Qaj 1))
abbrev QhG:Stmt:=top 22
theorem Qm4:QaF ["thing"] ["thing"] (Qao QhG):=by trivial
def Qei:MS :=
  (QaB (Qhu (Qgr "int" (Qab 0)) (QoI (Qgr "bool" (Qab 0)))))
def Qeg:List D→Qac→Res D:=Qba 1 Qei
abbrev QjH (Pr:Program) (w:World) (K:Frag) (mg:Str→Option Value) (base:Heap):Prop:=Can Pr w K mg base "is_whole" ["thing"] 1 (vSp K mg [.s] (rV K) Qeg)
theorem Qm9 (Qhx:Def K mg "is_whole" QhG)
  (B:Qbr mg)
  (NK:Qbb K=true) :
  QjH Pr w K mg base:=by
 refine QbT (k:=0) (b:=Qei) Qhx Qm4 (fun _ _ _ _ _ _=>QaG fun _=>Qbu rfl) [.s] [] Qbl (fun _ _ _ _=>Rp.non) (body:=fun f cdv A outer s H E hr P=>?_);refine Qat ?_;refine QaQ ?_;refine QjR ?_ ?_;refine QaJ (QjB "int" (hb:=QpT) B.isinstance_ B.int_ (Qaj 0));refine Qkb ?_;refine Qww ?_;refine QaJ (QjB "bool" (hb:=Que) B.isinstance_ B.bool_ (Qaj 0))
abbrev Qgx:Stmt:=top 23
theorem QlM:QaF ["thing","least","greatest"] ["thing","least","greatest"] (Qao Qgx):=by trivial
def QdF:MS :=
  (QaB (Qhu (Qas Qeg (Qaa (Qab 0) Qae)) (Qf5 gLe gLe (Qab 1) (Qab 0) (Qab 2))))
def QbB:List D→Qac→Res D:=Qba 3 QdF
abbrev QiS (Pr:Program) (w:World) (K:Frag) (mg:Str→Option Value) (base:Heap):Prop:=Can Pr w K mg base "is_within" ["thing","least","greatest"] 2 (vSp K mg [.s,.s,.s] (rV K) QbB)
theorem QmI (Qgk:Def K mg "is_within" Qgx)
  (B:Qbr mg)
  (NK:Qbb K=true)
  (Qhp:QjH Pr w K mg base) :
  QiS Pr w K mg base:=by
 refine QbT (k:=1) (b:=QdF) Qgk QlM (fun _ _ _ _ _ _=>QaG fun _=>QaG fun _=>QaG fun _=>Qbu rfl) [.s,.s,.s] [] Qbl (fun _ _ _ _=>Rp.non) (body:=fun f cdv A outer s H E hr P=>?_);refine Qat ?_;refine QaQ ?_;refine QjR ?_ ?_;refine QaK Qhp (hr.mono (by decide)) ?_;refine Qap (Qaj 0) Qal;refine Qkb ?_;refine QaJ ?_;refine Qr4 Qj8 Qj8 (Qaj 1) (Qaj 0) (Qaj 2)
abbrev Qgs:Stmt:=top 26
theorem QhY:QaF ["move","prices","beyond"] ["move","prices"] (Qao Qgs):=by trivial
def QeO:MS :=
  (Qah (Qan 2 (Qbx (mG (Qab 1)) (Qaf gIx (Qab 0) (mC (.int 2)))))
  (QaB (mIf (Qav (Qgu (Qab 2))) (mC .non) (Qaf QaP (Qaf gIx (Qab 0) (mC (.int 0))) (Qab 2)))))
def QbU:List D→Qac→Res D:=Qba 3 QeO
abbrev Qgp (Pr:Program) (w:World) (K:Frag) (mg:Str→Option Value) (base:Heap):Prop:=Can Pr w K mg base "cost_over" ["move","prices"] 1 (vSp K mg [.s,.s] (rV K) QbU)
theorem Qmg (Qgn:Def K mg "cost_over" Qgs)
  (B:Qbr mg)
  (NK:Qbb K=true) :
  Qgp Pr w K mg base:=by
 refine QbT (k:=0) (b:=QeO) Qgn QhY (fun _ _ _ _ _ _=>QaG fun _=>QaG fun _=>Qbu rfl) [.s,.s] [.v] Qbl (fun _ _ _ _=>Rp.non) (body:=fun f cdv A outer s H E hr P=>?_);refine Qam ?_ ?_;refine Qax (i:=2) QhY.nd rfl (.inl rfl) ?_;refine QfQ NK hr (Qb5 (Qaj 1)) ?_;refine Qa1 (Qaj 0) (Qad Qag);refine Qat ?_;refine QaQ ?_;refine Qly ?_ Qiw ?_;refine QlY (Qad (Qai 2));refine QaJ ?_;refine Qau Qbo ?_ (Qad (Qai 2));refine Qad ?_;refine Qa1 (Qaj 0) (Qad Qag)
abbrev Qdg:Stmt:=top 27
theorem QhO:QaF ["moves","prices","costs"] ["moves","prices"] (Qao Qdg):=by trivial
def Qd1:MS :=
  (Qah (Qan 2 (Qcb (QbZ (Qab 0)) 1 [1] (mgN 0) QdQ (Qas QbU (Qaa (Qab 0) (Qaa (Qab 1) Qae)))))
  (QaB (Qaz Qll (Qaa (Qcb (QbZ (Qab 2)) 1 [] (mgN 0) (Qav (Qek (Qab 0))) (Qab 0)) Qae))))
def Qcg:List D→Qac→Res D:=Qba 3 Qd1
abbrev QfX (Pr:Program) (w:World) (K:Frag) (mg:Str→Option Value) (base:Heap):Prop:=Can Pr w K mg base "least_cost" ["moves","prices"] 2 (vSp K mg [.s,.s] (rV K) Qcg)
theorem Qlh (QfS:Def K mg "least_cost" Qdg)
  (B:Qbr mg)
  (NK:Qbb K=true)
  (Qc1:Qgp Pr w K mg base) :
  QfX Pr w K mg base:=by
 refine QbT (k:=1) (b:=Qd1) QfS QhO (fun _ _ _ _ _ _=>QaG fun _=>QaG fun _=>Qbu rfl) [.s,.s] [.v] Qbl (fun _ _ _ _=>Rp.non) (body:=fun f cdv A outer s H E hr P=>?_);refine Qam ?_ ?_;refine QlX (i:=2) (Qao Qdg) ["moves","prices","costs"] ["move"] [1] QhO.nd rfl (.inl rfl) rfl (QgT (Qaj 0)) (fun _ _ _ _ P=>?_) (fun _ _ _ _ P=>?_) (fun _ _ _ _ P=>?_);exact QbA (i:=0) (show (Qa2 ["moves","prices","costs"] ["move"] [1]).Nodup by decide +kernel) rfl (.inl rfl);exact QgP;refine QaK Qc1 (hr.mono (by decide)) ?_;refine Qap (Qad (Qai 0)) ?_;refine Qap (Qaj 1) Qal;refine Qat ?_;refine QaQ ?_;refine QaJ ?_
 refine Qtu rfl B.min_ ?_;refine Qaw ?_;refine QgD (Qao Qdg) ["moves","prices","costs"] ["cost"] [] rfl ?_ (fun _ _ _ _ P=>?_) (fun _ _ _ _ P=>?_) (fun _ _ _ _ P=>?_);refine QgT (Qad (Qai 2));exact QbA (i:=0) (show (Qa2 ["moves","prices","costs"] ["cost"] []).Nodup by decide +kernel) rfl (.inl rfl);refine QnZ ?_;refine QnB (Qad (Qai 0));exact Qai 0
abbrev Qd8:Stmt:=inClass (top 33) 3
theorem QiX:QaF ["self","at"] ["self","at"] (Qao Qd8):=by trivial
def Qgb:MS :=
  (QaB (Qbq (Qaa (QbQ (Qaa (mG (Qab 1)) (Qaa (mC (.int 0)) Qae))) Qae)))
def Qb6:List D→Qac→Res D:=Qba 2 Qgb
abbrev Qgi (Pr:Program) (w:World) (K:Frag) (mg:Str→Option Value) (base:Heap):Prop:=Qfh Pr w K mg base "Even" "nodes_at" ["self","at"] 1 (vSp K mg [.v,.s] (rO K) Qb6)
theorem Qjw (Qd6:Qh8 K mg "Even" "nodes_at" "Even.nodes_at" Qd8)
  (B:Qbr mg)
  (NK:Qbb K=true) :
  Qgi Pr w K mg base:=by
 refine QiA (k:=0) (b:=Qgb) Qd6 QiX (fun _ _ _ _ _ _=>QaG fun _=>QaG fun _=>Qbu rfl) [.v,.s] [] QcB (fun _ _ _ _=>.inl ⟨rfl,Rp.non⟩) (body:=fun f cdv A outer s H E hr P=>?_);refine Qat ?_;refine Qc0 ?_;refine QbR 1 ?_;refine QaA ?_ Qal;refine Qci 2 ?_;refine QaA (Qb5 (Qaj 1)) ?_;refine QaA Qag Qal
abbrev Qfd:Stmt:=inClass (top 33) 5
theorem QkG:QaF ["self","node"] ["self","node"] (Qao Qfd):=by trivial
def QdK:MS :=
  (QaB (Qaf gEq (Qab 1) (QbQ (Qaa (Qaz Qbn (Qaa (QdP ["Even"] "letters" (Qab 0)) Qae)) (Qaa (mC (.int 0)) Qae)))))
def Qbg:List D→Qac→Res D:=Qba 2 QdK
abbrev QdN (Pr:Program) (w:World) (K:Frag) (mg:Str→Option Value) (base:Heap):Prop:=Qfh Pr w K mg base "Even" "is_end" ["self","node"] 1 (vSp K mg [.v,.s] (rV K) Qbg)
theorem QkF (Qe6:Qh8 K mg "Even" "is_end" "Even.is_end" Qfd)
  (B:Qbr mg)
  (NK:Qbb K=true)
  (QaT:KC K mg "Even" "letters") :
  QdN Pr w K mg base:=by
 refine QiA (k:=0) (b:=QdK) Qe6 QkG (fun _ _ _ _ _ _=>QaG fun _=>QaG fun _=>Qbu rfl) [.v,.s] [] Qbl (fun _ _ _ _=>Rp.non) (body:=fun f cdv A outer s H E hr P=>?_);refine Qat ?_;refine QaQ ?_;refine QaJ ?_;refine Qil (Qcy hr) (Qaj 1) ?_ (Qa6 _);refine Qad ?_;refine Qci 2 ?_;refine QaA ?_ ?_;refine QaJ ?_;refine Qa9 (ms:=[.s]) (hv:=Qb0) Qb1 B.len_ ?_;refine Qap ?_ Qal;refine Qad (QgK (QdX QaT QeY) (Qai 0));refine QaA Qag Qal
abbrev Qew:Stmt:=inClass (top 33) 6
theorem QjU:QaF ["self","end","cells"] ["self","end","cells"] (Qao Qew):=by trivial
def Qdn:MS :=
  (QaB (mIf (Qav (Qaf gEq (Qab 1) (Qaz Qbn (Qaa (QdP ["Even"] "letters" (Qab 0)) Qae)))) (mC (.int 0)) (Qaf Qb2 (Qaf QgC (QdP ["Even"] "wide" (Qab 0)) (Qab 2)) (mC (.int 2)))))
def Qdk:List D→Qac→Res D:=Qba 3 Qdn
abbrev QgS (Pr:Program) (w:World) (K:Frag) (mg:Str→Option Value) (base:Heap):Prop:=Qfh Pr w K mg base "Even" "cost_to" ["self","end","cells"] 1 (vSp K mg [.v,.s,.s] (rV K) Qdk)
theorem QjV (QeF:Qh8 K mg "Even" "cost_to" "Even.cost_to" Qew)
  (B:Qbr mg)
  (NK:Qbb K=true)
  (QaT:KC K mg "Even" "letters")
  (QbY:KC K mg "Even" "wide") :
  QgS Pr w K mg base:=by
 refine QiA (k:=0) (b:=Qdn) QeF QjU (fun _ _ _ _ _ _=>QaG fun _=>QaG fun _=>QaG fun _=>Qbu rfl) [.v,.s,.s] [] Qbl (fun _ _ _ _=>Rp.non) (body:=fun f cdv A outer s H E hr P=>?_);refine Qat ?_;refine QaQ ?_;refine Qly ?_ Qag ?_;refine Qbi (Qcy hr) (Qaj 1) ?_ (Qa6 _);refine Qaw ?_;refine Qa9 (ms:=[.s]) (hv:=Qb0) Qb1 B.len_ ?_;refine Qap ?_ Qal;refine Qad (QgK (QdX QaT QeY) (Qai 0));refine QaJ ?_;refine Qau Qer ?_ (Qad Qag);refine Qaw ?_;refine Qau QmJ ?_ (Qaj 2);refine Qad (QgK (QdX QbY QeY) (Qai 0))
abbrev Qcw:Stmt:=inClass (top 33) 4
theorem QeV:QaF ["self","node","ends"] ["self","node"] (Qao Qcw):=by trivial
def Qcx:MS :=
  (Qah (QaX (Qb4 (Qbe "Even" "is_end" Qbg (Qab 0) (Qaa (Qab 1) Qae))) (QaB (Qbq Qae)) QaH)
  (Qah (Qan 2 (Qas QdD (Qaa (QdP ["Even"] "letters" (Qab 0)) (Qaa (Qaf gIx (Qab 1) (mC (.int 0))) (Qaa (QdP ["Even"] "wide" (Qab 0)) Qae)))))
  (QaB (Qcb (QoB (Qab 2)) 2 [0] (QlJ 2 (QdZ (mgN 0) (QdZ (mgN 1) QjD))) QdQ (QbQ (Qaa (Qbe "Even" "cost_to" Qdk (Qab 2) (Qaa (Qab 0) (Qaa (Qab 1) Qae))) (Qaa (Qaz Qkr (Qaa (Qab 0) Qae)) (Qaa (QbQ (Qaa (Qab 0) (Qaa (mC (.int 0)) Qae))) Qae))))))))
def Qa7:List D→Qac→Res D:=Qba 3 Qcx
abbrev Qdw (Pr:Program) (w:World) (K:Frag) (mg:Str→Option Value) (base:Heap):Prop:=Qfh Pr w K mg base "Even" "moves_from" ["self","node"] 4 (vSp K mg [.v,.s] (rO K) Qa7)
theorem Qh5 (Qdu:Qh8 K mg "Even" "moves_from" "Even.moves_from" Qcw)
  (B:Qbr mg)
  (NK:Qbb K=true)
  (QaT:KC K mg "Even" "letters")
  (QbY:KC K mg "Even" "wide")
  (QbD:QdN Pr w K mg base)
  (QcZ:Qgm Pr w K mg base)
  (QeH:QgS Pr w K mg base) :
  Qdw Pr w K mg base:=by
 refine QiA (k:=3) (b:=Qcx) Qdu QeV (fun _ _ _ _ _ _=>QaG fun _=>QaG fun _=>Qbu rfl) [.v,.s] [.v] QcB (fun _ _ _ _=>.inl ⟨rfl,Rp.non⟩) (body:=fun f cdv A outer s H E hr P=>?_);refine Qam ?_ ?_;refine QbH ?_ ?_ Qbh;refine Qe1 ?_;refine Qad ?_;refine QiI QbD (hr.mono (by decide)) (Qai 0) ?_;refine Qap (Qaj 1) Qal;refine Qat ?_;refine Qc0 (QbR 0 Qal);refine Qam ?_ ?_;refine Qax (i:=2) QeV.nd rfl (.inl rfl) ?_;refine QaJ ?_;refine Qdt QcZ (hr.mono (by decide)) ?_;refine Qap ?_ ?_;refine Qad (QgK (QdX QaT QeY) (Qai 0));refine Qap ?_ ?_;refine Qad ?_;refine Qa1 (Qaj 1) (Qad Qag);refine Qap ?_ Qal
 refine Qad (QgK (QdX QbY QeY) (Qai 0));refine Qat ?_;refine Qc0 ?_;refine QgD (Qao Qcw) ["self","node","ends"] ["end","cells"] [0] rfl ?_ (fun _ _ _ _ P=>?_) (fun _ _ _ _ P=>?_) (fun _ _ _ _ P=>?_);refine Qjz ?_;refine Qvc B.reversed_ (QoY (Qai 2));refine QuX 2 rfl ?_;refine Ql8 (QbA (i:=0) (show (Qa2 ["self","node","ends"] ["end","cells"] [0]).Nodup by decide +kernel) rfl (.inl rfl)) ?_;refine Ql8 (QbA (i:=1) (show (Qa2 ["self","node","ends"] ["end","cells"] [0]).Nodup by decide +kernel) rfl (.inl rfl)) QtM;exact QgP;refine Qci 3 ?_;refine QaA ?_ ?_;refine QiI QeH (hr.mono (by decide)) (Qai 2) ?_
 refine Qap (Qad (Qai 0)) ?_;refine Qap (Qad (Qai 1)) Qal;refine QaA ?_ ?_;refine QaJ ?_;refine Qhb (ms:=[.s]) (hv:=Qp0) Qu5 B.str_ ?_;refine Qap (Qad (Qai 0)) Qal;refine QaA ?_ Qal;refine Qci 2 ?_;refine QaA (Qai 0) ?_;refine QaA Qag Qal
abbrev Qff:Stmt:=top 28
theorem QbF:QaF ["trail","at","prices","moves","node","changed","cost"] ["trail","at","prices"] (Qao Qff):=by trivial
def QdL:MS :=
  (Qah (Qan 3 Qiq)
  (Qah (QbI (QbZ (Qbe "Even" "nodes_at" Qb6 (mG (Qab 0)) (Qaa (Qab 1) Qae))) (mgN 4) (Qah (QcC (Qab 3) (Qab 4) (Qbe "Even" "moves_from" Qa7 (mG (Qab 0)) (Qaa (Qab 4) Qae)))
  (QcC (mG (Qab 2)) (Qab 4) (mIf (Qb4 (Qbe "Even" "is_end" Qbg (mG (Qab 0)) (Qaa (Qab 4) Qae))) (mC (.int 0)) (mC .non)))))
  (Qah (Qan 5 (mC (.bl true)))
  (QcJ 10 (Qb4 (Qab 5)) (Qah (Qan 5 (mC (.bl false)))
  (QgR 3 (QbI (QgX (Qab 3)) (mgN 4) (Qah (Qan 6 (Qas Qcg (Qaa (Qbx (Qab 3) (Qab 4)) (Qaa (Qab 2) Qae))))
  (QaX (QdJ (Qav (Qek (Qab 6))) (Qg6 (Qav (Qgu (Qbx (mG (Qab 2)) (Qab 4)))) (Qav (Qaf gLt (Qab 6) (Qbx (mG (Qab 2)) (Qab 4)))))) (Qah (QcC (mG (Qab 2)) (Qab 4) (Qab 6))
  (Qan 5 (mC (.bl true)))) QaH)))))))))
def QcT:List D→Qac→Res D:=Qba 7 QdL
abbrev QhS (Pr:Program) (w:World) (K:Frag) (mg:Str→Option Value) (base:Heap):Prop:=Can Pr w K mg base "price_nodes" ["trail","at","prices"] 5 (vSp K mg [.s,.s,.s] (rV K) QcT)
theorem Qkl (Qe9:Def K mg "price_nodes" Qff)
  (B:Qbr mg)
  (NK:Qbb K=true)
  (Qd9:Qgi Pr w K mg base)
  (QbO:Qdw Pr w K mg base)
  (QbD:QdN Pr w K mg base)
  (QcG:QfX Pr w K mg base) :
  QhS Pr w K mg base:=by
 refine QbT (k:=4) (b:=QdL) Qe9 QbF (fun _ _ _ _ _ _=>QaG fun _=>QaG fun _=>QaG fun _=>Qbu rfl) [.s,.s,.s] [.v,.v,.v,.v] Qbl (fun _ _ _ _=>Rp.non) (body:=fun f cdv A outer s H E hr P=>?_);refine Qam (Qax (i:=3) QbF.nd rfl (.inl rfl) QlS) ?_;refine Qam ?_ ?_;refine QdH rfl ?_ (QbA (i:=4) QbF.nd rfl (.inl rfl)) ?_;refine Qpf ?_;refine QoY ?_;refine QaJ ?_;refine Qkt Qd9 (hr.mono (by decide)) (Qb5 (Qaj 0)) ?_;refine Qap (Qaj 1) Qal;refine Qam ?_ ?_;refine QkD NK hr (Qai 3) (Qai 4) ?_;refine QaJ ?_;refine Qkt QbO (hr.mono (by decide)) (Qb5 (Qaj 0)) ?_;refine Qap (Qad (Qai 4)) Qal;refine Qat ?_;refine QkD NK hr (Qb5 (Qaj 2)) (Qai 4) ?_
 refine Qly ?_ Qag Qiw;refine Qe1 ?_;refine Qad ?_;refine QiI QbD (hr.mono (by decide)) (Qb5 (Qaj 0)) ?_;refine Qap (Qad (Qai 4)) Qal;refine Qam (Qax (i:=5) QbF.nd rfl (.inl rfl) Qfq) ?_;refine Qat ?_;refine Qg2 10 ?_ ?_;refine Qe1 (Qad (Qai 5));refine Qam (Qax (i:=5) QbF.nd rfl (.inl rfl) Qfq) ?_;refine Qat ?_;refine QuH 3 ?_;refine QdH rfl (QwJ (Qai 3)) (QbA (i:=4) QbF.nd rfl (.inl rfl)) ?_;refine Qam ?_ ?_;refine Qax (i:=6) QbF.nd rfl (.inl rfl) ?_;refine QaK QcG (hr.mono (by decide)) ?_;refine Qap ?_ ?_;refine Qad ?_;refine QfQ NK hr (Qai 3) (Qai 4);refine Qap (Qaj 2) Qal;refine Qat ?_;refine QbH ?_ ?_ Qbh
 refine QlZ ?_;refine QlW ?_ ?_;refine QnB (Qad (Qai 6));refine QkN ?_;refine QlZ ?_;refine QsF ?_ ?_;refine QlY ?_;refine Qad ?_;refine QfQ NK hr (Qb5 (Qaj 2)) (Qai 4);refine QpE ?_;refine Qbi QjW (Qad (Qai 6)) ?_ (Qa6 _);refine Qad ?_;refine QfQ NK hr (Qb5 (Qaj 2)) (Qai 4);refine Qam ?_ ?_;refine QkD NK hr (Qb5 (Qaj 2)) (Qai 4) (Qai 6);refine Qat (Qax (i:=5) QbF.nd rfl (.inl rfl) Qfq)
abbrev QeA:Stmt:=inClass (top 33) 2
theorem Qj1:QaF ["self"] ["self"] (Qao QeA):=by trivial
def Qdj:MS :=
  (QaB (Qaz Qbn (Qaa (QdP ["Even"] "letters" (Qab 0)) Qae)))
def QcL:List D→Qac→Res D:=Qba 1 Qdj
abbrev QgQ (Pr:Program) (w:World) (K:Frag) (mg:Str→Option Value) (base:Heap):Prop:=Qfh Pr w K mg base "Even" "last_at" ["self"] 1 (vSp K mg [.v] (rV K) QcL)
theorem Qkf (QeG:Qh8 K mg "Even" "last_at" "Even.last_at" QeA)
  (B:Qbr mg)
  (NK:Qbb K=true)
  (QaT:KC K mg "Even" "letters") :
  QgQ Pr w K mg base:=by
 refine QiA (k:=0) (b:=Qdj) QeG Qj1 (fun _ _ _ _ _ _=>QaG fun _=>Qbu rfl) [.v] [] Qbl (fun _ _ _ _=>Rp.non) (body:=fun f cdv A outer s H E hr P=>?_);refine Qat ?_;refine QaQ ?_;refine QaJ ?_;refine Qa9 (ms:=[.s]) (hv:=Qb0) Qb1 B.len_ ?_;refine Qap ?_ Qal;refine Qad (QgK (QdX QaT QeY) (Qai 0))
abbrev Qi7:Stmt:=top 29
theorem QhU:QaF ["trail","prices","at"] ["trail"] (Qao Qi7):=by trivial
def Qht:MS :=
  (Qah (Qan 1 Qiq)
  (Qah (QbI (Qlw (Qaa (Qbe "Even" "last_at" QcL (mG (Qab 0)) Qae) (Qaa (mUn Qev (mC (.int 1))) (Qaa (mUn Qev (mC (.int 1))) Qae)))) (mgN 2) (QhZ (Qas QcT (Qaa (Qab 0) (Qaa (Qab 2) (Qaa (Qab 1) Qae))))))
  (QaB (Qab 1))))
def Qhc:List D→Qac→Res D:=Qba 3 Qht
abbrev QmN (Pr:Program) (w:World) (K:Frag) (mg:Str→Option Value) (base:Heap):Prop:=Can Pr w K mg base "priced" ["trail"] 6 (vSp K mg [.s] (rV K) Qhc)
theorem Qqg (Qjh:Def K mg "priced" Qi7)
  (B:Qbr mg)
  (NK:Qbb K=true)
  (QeL:QgQ Pr w K mg base)
  (Qfg:QhS Pr w K mg base) :
  QmN Pr w K mg base:=by
 refine QbT (k:=5) (b:=Qht) Qjh QhU (fun _ _ _ _ _ _=>QaG fun _=>Qbu rfl) [.s] [.v,.v] Qbl (fun _ _ _ _=>Rp.non) (body:=fun f cdv A outer s H E hr P=>?_);refine Qam (Qax (i:=1) QhU.nd rfl (.inl rfl) QlS) ?_;refine Qam ?_ ?_;refine QdH rfl ?_ (QbA (i:=2) QhU.nd rfl (.inl rfl)) ?_;refine Qtq B.range_ ?_;refine Qap ?_ ?_;refine Qad ?_;refine Qmy QeL (hr.mono (by decide)) (Qb5 (Qaj 0));refine Qap ?_ ?_;refine Qaw ?_;refine QgA (Qad Qag);refine Qap ?_ Qal;refine Qaw ?_;refine QgA (Qad Qag);refine Qat ?_;refine Qua ?_;refine Qad ?_;refine QaK Qfg (hr.mono (by decide)) ?_;refine Qap (Qaj 0) ?_;refine Qap (Qad (Qai 2)) ?_
 refine Qap (Qad (Qai 1)) Qal;refine Qat (QaQ (Qai 1))
abbrev QcQ:Stmt:=top 30
theorem Qfp:QaF ["moves","prices","least"] ["moves","prices"] (Qao QcQ):=by trivial
def QcO:MS :=
  (Qah (Qan 2 (Qas Qcg (Qaa (Qab 0) (Qaa (Qab 1) Qae))))
  (QaB (Qaf gIx (Qcb (QbZ (Qab 0)) 1 [1,2] (mgN 0) (Qav (Qaf gEq (Qas QbU (Qaa (Qab 0) (Qaa (Qab 1) Qae))) (Qab 2))) (Qab 0)) (mC (.int 0)))))
def Qch:List D→Qac→Res D:=Qba 3 QcO
abbrev QfV (Pr:Program) (w:World) (K:Frag) (mg:Str→Option Value) (base:Heap):Prop:=Can Pr w K mg base "first_cheapest" ["moves","prices"] 3 (vSp K mg [.s,.s] (rV K) Qch)
theorem QiP (QdS:Def K mg "first_cheapest" QcQ)
  (B:Qbr mg)
  (NK:Qbb K=true)
  (QcG:QfX Pr w K mg base)
  (Qc1:Qgp Pr w K mg base) :
  QfV Pr w K mg base:=by
 refine QbT (k:=2) (b:=QcO) QdS Qfp (fun _ _ _ _ _ _=>QaG fun _=>QaG fun _=>Qbu rfl) [.s,.s] [.v] Qbl (fun _ _ _ _=>Rp.non) (body:=fun f cdv A outer s H E hr P=>?_);refine Qam ?_ ?_;refine Qax (i:=2) Qfp.nd rfl (.inr rfl) ?_;refine QaK QcG (hr.mono (by decide)) ?_;refine Qap (Qaj 0) ?_;refine Qap (Qaj 1) Qal;refine Qat ?_;refine QaQ ?_;refine Qa1 ?_ (Qad Qag);refine Qaw ?_;refine QgD (Qao QcQ) ["moves","prices","least"] ["move"] [1,2] rfl (QgT (Qaj 0)) (fun _ _ _ _ P=>?_) (fun _ _ _ _ P=>?_) (fun _ _ _ _ P=>?_);exact QbA (i:=0) (show (Qa2 ["moves","prices","least"] ["move"] [1,2]).Nodup by decide +kernel) rfl (.inl rfl)
 refine QnZ ?_;refine Qbi (Qcy hr) ?_ (Qad (Qai 2)) (Qa6 _);refine Qad ?_;refine QaK Qc1 (hr.mono (by decide)) ?_;refine Qap (Qad (Qai 0)) ?_;refine Qap (Qaj 1) Qal;exact Qai 0
abbrev QdA:Stmt:=inClass (top 33) 1
theorem Qh2:QaF ["self"] ["self"] (Qao QdA):=by trivial
def Qfo:MS :=
  (QaB (QbQ (Qaa (mC (.int 0)) (Qaa (mC (.int 0)) Qae))))
def Qb9:List D→Qac→Res D:=Qba 1 Qfo
abbrev Qfn (Pr:Program) (w:World) (K:Frag) (mg:Str→Option Value) (base:Heap):Prop:=Qfh Pr w K mg base "Even" "first_node" ["self"] 1 (vSp K mg [.v] (rV K) Qb9)
theorem Qh1 (Qdv:Qh8 K mg "Even" "first_node" "Even.first_node" QdA)
  (B:Qbr mg)
  (NK:Qbb K=true) :
  Qfn Pr w K mg base:=by
 refine QiA (k:=0) (b:=Qfo) Qdv Qh2 (fun _ _ _ _ _ _=>QaG fun _=>Qbu rfl) [.v] [] Qbl (fun _ _ _ _=>Rp.non) (body:=fun f cdv A outer s H E hr P=>?_);refine Qat ?_;refine QaQ ?_;refine Qci 2 ?_;refine QaA Qag ?_;refine QaA Qag Qal
abbrev Qjm:Stmt:=top 31
theorem Qc7:QaF ["trail","prices","node","cost","names","move"] ["trail"] (Qao Qjm):=by trivial
def Qg7:MS :=
  (Qah (Qan 1 (Qas Qhc (Qaa (Qab 0) Qae)))
  (Qah (Qan 2 (Qbe "Even" "first_node" Qb9 (mG (Qab 0)) Qae))
  (Qah (Qan 3 (Qbx (Qab 1) (Qab 2)))
  (Qah (QaX (Qav (Qgu (Qab 3))) (QaB (mC .non)) QaH)
  (Qah (Qan 4 (Qbq Qae))
  (Qah (QcJ 250 (QcA (Qb4 (Qbe "Even" "is_end" Qbg (mG (Qab 0)) (Qaa (Qab 2) Qae)))) (Qah (Qan 5 (Qas Qch (Qaa (Qbe "Even" "moves_from" Qa7 (mG (Qab 0)) (Qaa (Qab 2) Qae)) (Qaa (Qab 1) Qae))))
  (Qah (Qcj 4 (Qaf gIx (Qab 5) (mC (.int 1))))
  (Qan 2 (Qaf gIx (Qab 5) (mC (.int 2)))))))
  (Qmn (QaB (QbQ (Qaa (Qab 3) (Qaa (Qab 4) Qae)))))))))))
def QfN:List D→Qac→Res D:=Qba 6 Qg7
abbrev QmD (Pr:Program) (w:World) (K:Frag) (mg:Str→Option Value) (base:Heap):Prop:=Can Pr w K mg base "way_of" ["trail"] 7 (vSp K mg [.s] (rV K) QfN)
theorem QpS (Qjc:Def K mg "way_of" Qjm)
  (B:Qbr mg)
  (NK:Qbb K=true)
  (Qi9:QmN Pr w K mg base)
  (Qdy:Qfn Pr w K mg base)
  (QbD:QdN Pr w K mg base)
  (QdR:QfV Pr w K mg base)
  (QbO:Qdw Pr w K mg base) :
  QmD Pr w K mg base:=by
 refine QbT (k:=6) (b:=Qg7) Qjc Qc7 (fun _ _ _ _ _ _=>QaG fun _=>Qbu rfl) [.s] [.v,.v,.v,.o,.v] Qbl (fun _ _ _ _=>Rp.non) (body:=fun f cdv A outer s H E hr P=>?_);refine Qam ?_ ?_;refine Qax (i:=1) Qc7.nd rfl (.inl rfl) ?_;refine QaK Qi9 (hr.mono (by decide)) ?_;refine Qap (Qaj 0) Qal;refine Qam ?_ ?_;refine Qax (i:=2) Qc7.nd rfl (.inl rfl) ?_;refine Qmy Qdy (hr.mono (by decide)) (Qb5 (Qaj 0));refine Qam ?_ ?_;refine Qax (i:=3) Qc7.nd rfl (.inl rfl) ?_;refine QfQ NK hr (Qai 1) (Qai 2);refine Qam ?_ ?_;refine QbH ?_ ?_ Qbh;refine QlY (Qad (Qai 3));refine Qat (QaQ Qiw);refine Qam ?_ ?_;refine Qd0 (i:=4) Qc7.nd rfl (.inl rfl) (QbR 0 Qal)
 refine Qam ?_ ?_;refine Qg2 250 ?_ ?_;refine Qjy ?_;refine Qe1 ?_;refine Qad ?_;refine QiI QbD (hr.mono (by decide)) (Qb5 (Qaj 0)) ?_;refine Qap (Qad (Qai 2)) Qal;refine Qam ?_ ?_;refine Qax (i:=5) Qc7.nd rfl (.inl rfl) ?_;refine QaK QdR (hr.mono (by decide)) ?_;refine Qap ?_ ?_;refine Qaw ?_;refine Qkt QbO (hr.mono (by decide)) (Qb5 (Qaj 0)) ?_;refine Qap (Qad (Qai 2)) Qal;refine Qap (Qad (Qai 1)) Qal;refine Qam ?_ ?_;refine QdT 4 ?_;refine Qa1 (Qad (Qai 5)) (Qad Qag);refine Qat ?_;refine Qax (i:=2) Qc7.nd rfl (.inl rfl) ?_;refine Qa1 (Qad (Qai 5)) (Qad Qag);refine Qat ?_;refine QvT 4 rfl ?_
 refine QaQ ?_;refine Qci 2 ?_;refine QaA (Qai 3) ?_;refine QaA (Qai 4) Qal
abbrev Qeh:Stmt:=inClass (top 33) 0
theorem Qja:QaF ["self","letters","wide"] ["self","letters","wide"] (Qao Qeh):=by trivial
def Qc5:MS :=
  (Qah (Qfx ["Even"] "letters" (Qab 0) (Qaz Qfz (Qaa (Qab 1) Qae)))
  (Qfx ["Even"] "wide" (Qab 0) (mG (Qab 2))))
def Qcr:List D→Qac→Res D:=Qba 3 Qc5
abbrev Qge (Pr:Program) (w:World) (K:Frag) (mg:Str→Option Value) (base:Heap):Prop:=QrY Pr w K mg base "Even" ["self","letters","wide"] 1 (vSp K mg [.v,.s,.s] (rV K) Qcr)
theorem Qi8 (Qef:Qsb K mg "Even" "Even.__init__" Qeh)
  (B:Qbr mg)
  (NK:Qbb K=true)
  (QaT:KC K mg "Even" "letters")
  (QbY:KC K mg "Even" "wide") :
  Qge Pr w K mg base:=by
 refine Qxg (k:=0) (b:=Qc5) Qef Qja (fun _ _ _ _ _ _=>QaG fun _=>QaG fun _=>QaG fun _=>Qbu rfl) [.v,.s,.s] [] Qbl (fun _ _ _ _=>Rp.non) (body:=fun f cdv A outer s H E hr P=>?_);refine Qam ?_ ?_;refine QpD (QdX QaT QeY) (Qai 0) ?_;refine QaJ ?_;refine Qhb (ms:=[.s]) (hv:=QiC) QnO B.list_ ?_;refine Qap (Qaj 1) Qal;refine Qat ?_;refine QpD (QdX QbY QeY) (Qai 0) (Qb5 (Qaj 2))
abbrev Qj0:Stmt:=top 34
theorem Qkh:QaF ["letters","wide","way","ends"] ["letters","wide"] (Qao Qj0):=by trivial
def Qj3:MS :=
  (Qah (Qan 2 (Qas QfN (Qaa (Qg9 "Even" Qcr (Qaa (Qab 0) (Qaa (Qab 1) Qae))) Qae)))
  (Qah (Qan 3 (Qcb (QbZ (Qaf gIx (Qab 2) (mC (.int 1)))) 1 [] (mgN 0) QdQ (Qaz QiF (Qaa (Qab 0) Qae))))
  (Qah (QaX (Qav (Qaf gEq (Qaz Qbn (Qaa (Qab 3) Qae)) (mC (.int 0)))) (QaB (Qbq (Qaa (QbQ (Qaa (mC (.int 0)) (Qaa (mC (.int 0)) Qae))) Qae))) QaH)
  (QaB (Qaz gLZ (Qaa (Qaf QaP (Qbq (Qaa (mC (.int 0)) Qae)) (Qab 3)) (Qaa (Qab 3) Qae)))))))
def QgO:List D→Qac→Res D:=Qba 4 Qj3
abbrev QpQ (Pr:Program) (w:World) (K:Frag) (mg:Str→Option Value) (base:Heap):Prop:=Can Pr w K mg base "even" ["letters","wide"] 8 (vSp K mg [.s,.s] (rO K) QgO)
theorem Qt8 (QmR:Def K mg "even" Qj0)
  (B:Qbr mg)
  (NK:Qbb K=true)
  (Qji:QmD Pr w K mg base)
  (Qep:Qge Pr w K mg base) :
  QpQ Pr w K mg base:=by
 refine QbT (k:=7) (b:=Qj3) QmR Qkh (fun _ _ _ _ _ _=>QaG fun _=>QaG fun _=>Qbu rfl) [.s,.s] [.v,.v] QcB (fun _ _ _ _=>.inl ⟨rfl,Rp.non⟩) (body:=fun f cdv A outer s H E hr P=>?_);refine Qam ?_ ?_;refine Qax (i:=2) Qkh.nd rfl (.inl rfl) ?_;refine QaK Qji (hr.mono (by decide)) ?_;refine Qap ?_ Qal;refine Qad ?_;refine QuN Qep (hr.mono (by decide)) ?_;refine Qap (Qaj 0) ?_;refine Qap (Qaj 1) Qal;refine Qam ?_ ?_;refine QlX (i:=3) (Qao Qj0) ["letters","wide","way","ends"] ["name"] [] Qkh.nd rfl (.inl rfl) rfl ?_ (fun _ _ _ _ P=>?_) (fun _ _ _ _ P=>?_) (fun _ _ _ _ P=>?_);refine QgT ?_;refine Qad ?_
 refine Qa1 (Qad (Qai 2)) (Qad Qag);exact QbA (i:=0) (show (Qa2 ["letters","wide","way","ends"] ["name"] []).Nodup by decide +kernel) rfl (.inl rfl);exact QgP;refine QaJ ?_;refine Qhb (ms:=[.s]) (hv:=QpT) Qtt B.int_ ?_;refine Qap (Qad (Qai 0)) Qal;refine Qam ?_ ?_;refine QbH ?_ ?_ Qbh;refine Qbi (Qcy hr) ?_ (Qad Qag) (Qa6 _);refine Qaw ?_;refine Qa9 (ms:=[.s]) (hv:=Qb0) Qb1 B.len_ ?_;refine Qap (Qad (Qai 3)) Qal;refine Qat ?_;refine Qc0 ?_;refine QbR 1 ?_;refine QaA ?_ Qal;refine Qci 2 ?_;refine QaA Qag ?_;refine QaA Qag Qal;refine Qat ?_;refine Qc0 ?_;refine Qov (ms:=[.s,.s]) rfl B.list_ B.zip_ ?_
 refine Qap ?_ ?_;refine Qaw ?_;refine Qau Qbo ?_ (Qad (Qai 3));refine Qaw ?_;refine QbR 1 ?_;refine QaA Qag Qal;refine Qap (Qad (Qai 3)) Qal
abbrev Qi3:Stmt:=top 39
theorem Qpm:QaF ["thing"] ["thing"] (Qao Qi3):=by trivial
def Qjt:MS :=
  (QaB (Qhu (Qgr "str" (Qab 0)) (Qaf (gIn false) (Qab 0) (mC (.tup [.str [99,117,116],.str [99,101,108,108,115],.str [119,111,114,100,115],.str [101,118,101,110]])))))
def Qdb:List D→Qac→Res D:=Qba 1 Qjt
abbrev QmE (Pr:Program) (w:World) (K:Frag) (mg:Str→Option Value) (base:Heap):Prop:=Can Pr w K mg base "is_way" ["thing"] 1 (vSp K mg [.s] (rV K) Qdb)
theorem QpJ (Qjx:Def K mg "is_way" Qi3)
  (B:Qbr mg)
  (NK:Qbb K=true)
  (Qme:QrL K mg "WAYS" [[99,117,116],[99,101,108,108,115],[119,111,114,100,115],[101,118,101,110]]) :
  QmE Pr w K mg base:=by
 refine QbT (k:=0) (b:=Qjt) Qjx Qpm (fun _ _ _ _ _ _=>QaG fun _=>Qbu rfl) [.s] [] Qbl (fun _ _ _ _=>Rp.non) (body:=fun f cdv A outer s H E hr P=>?_);refine Qat ?_;refine QaQ ?_;refine QjR ?_ ?_;refine QaJ (QjB "str" (hb:=Qp0) B.isinstance_ B.str_ (Qaj 0));refine Qkb ?_;refine QaJ ?_;refine Qil QxE (Qaj 0) (Qad (Qtk (ls:=[[99,117,116],[99,101,108,108,115],[119,111,114,100,115],[101,118,101,110]]) Qme)) (by with_unfolding_all rfl)
abbrev Qhe:Stmt:=top 40
theorem Qng:QaF ["letters","lo","wide","way"] ["letters","lo","wide","way"] (Qao Qhe):=by trivial
def Qdr:MS :=
  (Qah (QaX (Qav (Qaf gEq (Qab 3) (mC (.str [119,111,114,100,115])))) (QaB (Qaf gIx (Qaf gIx (Qas QdD (Qaa (Qab 0) (Qaa (Qab 1) (Qaa (Qab 2) Qae)))) (mUn Qev (mC (.int 1)))) (mC (.int 0)))) QaH)
  (QaB (Qas QfD (Qaa (Qab 0) (Qaa (Qab 1) (Qaa (Qab 2) Qae))))))
def Qej:List D→Qac→Res D:=Qba 4 Qdr
abbrev QjG (Pr:Program) (w:World) (K:Frag) (mg:Str→Option Value) (base:Heap):Prop:=Can Pr w K mg base "next_end" ["letters","lo","wide","way"] 4 (vSp K mg [.s,.s,.s,.s] (rV K) Qej)
theorem Qnd (QhD:Def K mg "next_end" Qhe)
  (B:Qbr mg)
  (NK:Qbb K=true)
  (QcZ:Qgm Pr w K mg base)
  (Qds:QiL Pr w K mg base) :
  QjG Pr w K mg base:=by
 refine QbT (k:=3) (b:=Qdr) QhD Qng (fun _ _ _ _ _ _=>QaG fun _=>QaG fun _=>QaG fun _=>QaG fun _=>Qbu rfl) [.s,.s,.s,.s] [] Qbl (fun _ _ _ _=>Rp.non) (body:=fun f cdv A outer s H E hr P=>?_);refine Qam ?_ ?_;refine QbH ?_ ?_ Qbh;refine Qbi (Qcy hr) (Qaj 3) (Qad (QaV [119,111,114,100,115])) (Qa6 _);refine Qat ?_;refine QaQ ?_;refine Qa1 ?_ (Qad Qag);refine Qad ?_;refine Qa1 ?_ ?_;refine Qaw ?_;refine Qdt QcZ (hr.mono (by decide)) ?_;refine Qap (Qaj 0) ?_;refine Qap (Qaj 1) ?_;refine Qap (Qaj 2) Qal;refine Qaw ?_;refine QgA (Qad Qag);refine Qat ?_;refine QaQ ?_;refine QaK Qds (hr.mono (by decide)) ?_
 refine Qap (Qaj 0) ?_;refine Qap (Qaj 1) ?_;refine Qap (Qaj 2) Qal
abbrev QfO:Stmt:=top 41
theorem QcW:QaF ["letters","wide","way","stretches","lo","hi"] ["letters","wide","way"] (Qao QfO):=by trivial
def Qed:MS :=
  (Qah (Qan 3 (Qbq Qae))
  (Qah (Qan 4 (mC (.int 0)))
  (Qah (QcJ wF (Qav (Qaf gLt (Qab 4) (Qaz Qbn (Qaa (Qab 0) Qae)))) (Qah (Qan 5 (Qas Qej (Qaa (Qab 0) (Qaa (Qab 4) (Qaa (Qab 1) (Qaa (Qab 2) Qae))))))
  (Qah (Qcj 3 (QbQ (Qaa (Qab 4) (Qaa (Qab 5) Qae))))
  (Qan 4 (Qab 5)))))
  (QaB (Qab 3)))))
def Qc8:List D→Qac→Res D:=Qba 6 Qed
abbrev Qib (Pr:Program) (w:World) (K:Frag) (mg:Str→Option Value) (base:Heap):Prop:=Can Pr w K mg base "end_to_end" ["letters","wide","way"] 5 (vSp K mg [.s,.s,.s] (rO K) Qc8)
theorem Qli (QfZ:Def K mg "end_to_end" QfO)
  (B:Qbr mg)
  (NK:Qbb K=true)
  (Qhw:QjG Pr w K mg base) :
  Qib Pr w K mg base:=by
 refine QbT (k:=4) (b:=Qed) QfZ QcW (fun _ _ _ _ _ _=>QaG fun _=>QaG fun _=>QaG fun _=>Qbu rfl) [.s,.s,.s] [.o,.v,.v] QcB (fun _ _ _ _=>.inl ⟨rfl,Rp.non⟩) (body:=fun f cdv A outer s H E hr P=>?_);refine Qam ?_ ?_;refine Qd0 (i:=3) QcW.nd rfl (.inl rfl) (QbR 0 Qal);refine Qam (Qax (i:=4) QcW.nd rfl (.inl rfl) Qag) ?_;refine Qam ?_ (Qat (QgF 3));refine Qg2 wF ?_ ?_;refine Qbi QjW (Qad (Qai 4)) ?_ (Qa6 _);refine Qaw ?_;refine Qa9 (ms:=[.s]) (hv:=Qb0) Qb1 B.len_ ?_;refine Qap (Qaj 0) Qal;refine Qam ?_ ?_;refine Qax (i:=5) QcW.nd rfl (.inl rfl) ?_;refine QaK Qhw (hr.mono (by decide)) ?_;refine Qap (Qaj 0) ?_
 refine Qap (Qad (Qai 4)) ?_;refine Qap (Qaj 1) ?_;refine Qap (Qaj 2) Qal;refine Qam ?_ ?_;refine QdT 3 ?_;refine Qci 2 ?_;refine QaA (Qai 4) ?_;refine QaA (Qai 5) Qal;refine Qat (Qax (i:=4) QcW.nd rfl (.inl rfl) (Qai 5))
abbrev QmW:Stmt:=top 42
theorem Qt6:QaF ["letters","wide","way"] ["letters","wide","way"] (Qao QmW):=by trivial
def Qmv:MS :=
  (Qah (QeR (QcA (Qb4 (Qas QbB (Qaa (Qab 1) (Qaa (mC (.int 2)) (Qaa (mC (.int 40)) Qae)))))) (Qah (QgU "NoSize")
  QaH) QaH)
  (Qah (QeR (QcA (Qb4 (Qas Qdb (Qaa (Qab 2) Qae)))) (Qah (QgU "NoSize")
  QaH) QaH)
  (Qah (msN (QaX (Qav (Qaf gEq (Qaz Qbn (Qaa (Qab 0) Qae)) (mC (.int 0)))) (QaB (Qbq (Qaa (QbQ (Qaa (mC (.int 0)) (Qaa (mC (.int 0)) Qae))) Qae))) QaH))
  (Qah (msN (QaX (Qav (Qaf gEq (Qab 2) (mC (.str [99,117,116])))) (QaB (Qbq (Qaa (QbQ (Qaa (mC (.int 0)) (Qaa (Qas QfD (Qaa (Qab 0) (Qaa (mC (.int 0)) (Qaa (Qab 1) Qae)))) Qae))) Qae))) QaH))
  (Qah (msN (QaX (Qav (Qaf gEq (Qab 2) (mC (.str [101,118,101,110])))) (QaB (Qas QgO (Qaa (Qab 0) (Qaa (Qab 1) Qae)))) QaH))
  (Qah (msN (QaB (Qas Qc8 (Qaa (Qab 0) (Qaa (Qab 1) (Qaa (Qab 2) Qae))))))
  QaH))))))
def Qb3:List D→Qac→Res D:=Qba 3 Qmv
abbrev QpV (Pr:Program) (w:World) (K:Frag) (mg:Str→Option Value) (base:Heap):Prop:=QkI Pr w K mg base "fold" ["letters","wide","way"] 9 (QiZ K mg [.s,.s,.s] (rO K) Qb3)
theorem QuA (Ql4:Def K mg "fold" QmW)
  (B:Qbr mg)
  (NK:Qbb K=true)
  (Qdi:∃u,mg "GREATEST_BREADTH" = some u∧RelV (.int 40) u)
  (Qd4:∃u,mg "LEAST_BREADTH" = some u∧RelV (.int 2) u)
  (X_NoSize:Qr3 K mg "NoSize")
  (Qgl:QiS Pr w K mg base)
  (Qju:QmE Pr w K mg base)
  (Qds:QiL Pr w K mg base)
  (Ql5:QpQ Pr w K mg base)
  (Qf0:Qib Pr w K mg base) :
  QpV Pr w K mg base:=by
 refine QxQ (k:=8) (b:=Qmv) Ql4 Qt6 (fun _ _ _ _ _ _=>QaG fun _=>QaG fun _=>QaG fun _=>Qbu rfl) [.s,.s,.s] [] QcB (fun _ _ _ _=>.inl ⟨rfl,Rp.non⟩) (body:=fun f cdv A outer s H E hr P=>?_);refine Qdd ?_ ?_;refine QsD ?_ ?_ QgM;refine Qjy ?_;refine Qe1 ?_;refine Qad ?_;refine QaK Qgl (hr.mono (by decide)) ?_;refine Qap (Qaj 1) ?_;refine Qap ?_ ?_;refine Qad ?_;refine Qmc Qd4 (fun _ _ _=>Rp.int);refine Qap ?_ Qal;refine Qad ?_;refine Qmc Qdi (fun _ _ _=>Rp.int);refine Qdd (Qmu X_NoSize rfl QgW) QgM;refine Qdd ?_ ?_;refine QsD ?_ ?_ QgM;refine Qjy ?_;refine Qe1 ?_;refine Qad ?_;refine QaK Qju (hr.mono (by decide)) ?_
 refine Qap (Qaj 2) Qal;refine Qdd (Qmu X_NoSize rfl QgW) QgM;refine Qdd ?_ ?_;refine Qo5 ?_;refine QbH ?_ ?_ Qbh;refine Qbi (Qcy hr) ?_ (Qad Qag) (Qa6 _);refine Qaw ?_;refine Qa9 (ms:=[.s]) (hv:=Qb0) Qb1 B.len_ ?_;refine Qap (Qaj 0) Qal;refine Qat ?_;refine Qc0 ?_;refine QbR 1 ?_;refine QaA ?_ Qal;refine Qci 2 ?_;refine QaA Qag ?_;refine QaA Qag Qal;refine Qdd ?_ ?_;refine Qo5 ?_;refine QbH ?_ ?_ Qbh;refine Qbi (Qcy hr) (Qaj 2) (Qad (QaV [99,117,116])) (Qa6 _);refine Qat ?_;refine Qc0 ?_;refine QbR 1 ?_;refine QaA ?_ Qal;refine Qci 2 ?_;refine QaA Qag ?_;refine QaA ?_ Qal;refine QaK Qds (hr.mono (by decide)) ?_
 refine Qap (Qaj 0) ?_;refine Qap (Qad Qag) ?_;refine Qap (Qaj 1) Qal;refine Qdd ?_ ?_;refine Qo5 ?_;refine QbH ?_ ?_ Qbh;refine Qbi (Qcy hr) (Qaj 2) (Qad (QaV [101,118,101,110])) (Qa6 _);refine Qat ?_;refine Qc0 ?_;refine Qdt Ql5 (hr.mono (by decide)) ?_;refine Qap (Qaj 0) ?_;refine Qap (Qaj 1) Qal;refine Qdd ?_ QgM;refine Qo5 ?_;refine Qc0 ?_;refine Qdt Qf0 (hr.mono (by decide)) ?_;refine Qap (Qaj 0) ?_;refine Qap (Qaj 1) ?_;refine Qap (Qaj 2) Qal
abbrev QhE:Stmt:=top 44
theorem Qgw:QaF ["_law_script","_law_k","_law_number"] ["_law_script","_law_k"] (Qao QhE):=by trivial
def Qd3:MS :=
  (Qah (QaX (Qav (Qaf gLt (Qab 1) (Qaz Qbn (Qaa (Qab 0) Qae)))) (QaB (Qaf gIx (Qab 0) (Qab 1))) QaH)
  (Qah (Qan 2 (Qaf QaP (Qaf QbE (Qaf QbE (Qab 1) (Qab 1)) (mC (.int 7919))) (mC (.int 104729))))
  (Qah (QaX (Qav (Qaf gGt (Qaz Qbn (Qaa (Qab 0) Qae)) (mC (.int 0)))) (Qan 2 (Qaf QaP (Qab 2) (Qaf QbE (Qaf QaU (Qaf gIx (Qab 0) (Qaf QaU (Qab 1) (Qaz Qbn (Qaa (Qab 0) Qae)))) (mC (.int 1000003))) (mC (.int 48271))))) QaH)
  (QaB (Qaf QaU (Qaf QbE (Qab 2) (mC (.int 48271))) (mC (.int 2147483647)))))))
def Qbk:List D→Qac→Res D:=Qba 3 Qd3
abbrev Qha (Pr:Program) (w:World) (K:Frag) (mg:Str→Option Value) (base:Heap):Prop:=Can Pr w K mg base "_law_cell" ["_law_script","_law_k"] 1 (vSp K mg [.s,.s] (rV K) Qbk)
theorem Qm8 (Qg8:Def K mg "_law_cell" QhE)
  (B:Qbr mg)
  (NK:Qbb K=true) :
  Qha Pr w K mg base:=by
 refine QbT (k:=0) (b:=Qd3) Qg8 Qgw (fun _ _ _ _ _ _=>QaG fun _=>QaG fun _=>Qbu rfl) [.s,.s] [.v] Qbl (fun _ _ _ _=>Rp.non) (body:=fun f cdv A outer s H E hr P=>?_);refine Qam ?_ ?_;refine QbH ?_ ?_ Qbh;refine Qbi QjW (Qaj 1) ?_ (Qa6 _);refine Qaw ?_;refine Qa9 (ms:=[.s]) (hv:=Qb0) Qb1 B.len_ ?_;refine Qap (Qaj 0) Qal;refine Qat ?_;refine QaQ ?_;refine Qa1 (Qaj 0) (Qaj 1);refine Qam ?_ ?_;refine Qax (i:=2) Qgw.nd rfl (.inl rfl) ?_;refine QaJ ?_;refine Qau Qbo ?_ (Qad Qag);refine Qaw ?_;refine Qau Qde ?_ (Qad Qag);refine Qaw ?_;refine Qau Qde (Qaj 1) (Qaj 1);refine Qam ?_ ?_;refine QbH ?_ ?_ Qbh
 refine Qbi QjZ ?_ (Qad Qag) (Qa6 _);refine Qaw ?_;refine Qa9 (ms:=[.s]) (hv:=Qb0) Qb1 B.len_ ?_;refine Qap (Qaj 0) Qal;refine Qat ?_;refine Qax (i:=2) Qgw.nd rfl (.inl rfl) ?_;refine QaJ ?_;refine Qau Qbo (Qad (Qai 2)) ?_;refine Qaw ?_;refine Qau Qde ?_ (Qad Qag);refine Qaw ?_;refine Qau Qbj ?_ (Qad Qag);refine Qad ?_;refine Qa1 (Qaj 0) ?_;refine Qaw ?_;refine Qau Qbj (Qaj 1) ?_;refine Qaw ?_;refine Qa9 (ms:=[.s]) (hv:=Qb0) Qb1 B.len_ ?_;refine Qap (Qaj 0) Qal;refine Qat ?_;refine QaQ ?_;refine QaJ ?_;refine Qau Qbj ?_ (Qad Qag);refine Qaw ?_;refine Qau Qde (Qad (Qai 2)) (Qad Qag)
abbrev Qh7:Stmt:=top 45
theorem QcP:QaF ["_law_cell_here","_law_k","_law_rest","_law_turn","_law_number"] ["_law_cell_here","_law_k"] (Qao Qh7):=by trivial
def Qk7:MS :=
  (Qah (QaX (Qav (Qaf gGt (Qab 0) (Qaf Qb2 (mC (.int 10)) (mC (.int 18))))) (Qah (Qan 2 (mG (Qab 0)))
  (Qah (QbI (Qck (Qaa (Qab 1) Qae)) (mgN 3) (Qan 2 (Qaf Qc4 (Qab 2) (Qaf Qb2 (mC (.int 10)) (mC (.int 9))))))
  (QaB (Qaf QaU (Qab 2) (Qaf Qb2 (mC (.int 10)) (mC (.int 9))))))) QaH)
  (Qah (Qan 4 (Qaf QaP (Qaf QaU (Qab 0) (mC (.int 2147483647))) (mC (.int 7919))))
  (Qah (QbI (Qck (Qaa (Qaf QaP (Qab 1) (mC (.int 2))) Qae)) (mgN 3) (Qan 4 (Qaf QaU (Qaf QaP (Qaf QbE (Qab 4) (mC (.int 48271))) (mC (.int 104729))) (mC (.int 2147483629)))))
  (QaB (Qaf Qc4 (Qaf QaU (Qaf QbE (Qab 4) (Qab 4)) (mC (.int 998244353))) (mC (.int 11)))))))
def Qa3:List D→Qac→Res D:=Qba 5 Qk7
abbrev Qig (Pr:Program) (w:World) (K:Frag) (mg:Str→Option Value) (base:Heap):Prop:=Can Pr w K mg base "_law_mix" ["_law_cell_here","_law_k"] 1 (vSp K mg [.s,.s] (rV K) Qa3)
theorem Qot (Qip:Def K mg "_law_mix" Qh7)
  (B:Qbr mg)
  (NK:Qbb K=true) :
  Qig Pr w K mg base:=by
 refine QbT (k:=0) (b:=Qk7) Qip QcP (fun _ _ _ _ _ _=>QaG fun _=>QaG fun _=>Qbu rfl) [.s,.s] [.v,.v,.v] Qbl (fun _ _ _ _=>Rp.non) (body:=fun f cdv A outer s H E hr P=>?_);refine Qam ?_ ?_;refine QbH ?_ ?_ Qbh;refine Qbi QjZ (Qaj 0) ?_ (Qa6 _);refine Qaw ?_;refine Qau Qer (Qad Qag) (Qad Qag);refine Qam ?_ ?_;refine Qax (i:=2) QcP.nd rfl (.inl rfl) (Qb5 (Qaj 0));refine Qam ?_ ?_;refine QdH rfl ?_ (QbA (i:=3) QcP.nd rfl (.inl rfl)) ?_;refine QdU B.range_ ?_;refine Qap (Qaj 1) Qal;refine Qat ?_;refine Qax (i:=2) QcP.nd rfl (.inl rfl) ?_;refine QaJ ?_;refine Qau Qgz (Qad (Qai 2)) ?_;refine Qaw ?_;refine Qau Qer (Qad Qag) (Qad Qag)
 refine Qat ?_;refine QaQ ?_;refine QaJ ?_;refine Qau Qbj (Qad (Qai 2)) ?_;refine Qaw ?_;refine Qau Qer (Qad Qag) (Qad Qag);refine Qam ?_ ?_;refine Qax (i:=4) QcP.nd rfl (.inl rfl) ?_;refine QaJ ?_;refine Qau Qbo ?_ (Qad Qag);refine Qaw ?_;refine Qau Qbj (Qaj 0) (Qad Qag);refine Qam ?_ ?_;refine QdH rfl ?_ (QbA (i:=3) QcP.nd rfl (.inl rfl)) ?_;refine QdU B.range_ ?_;refine Qap ?_ Qal;refine Qaw ?_;refine Qau Qbo (Qaj 1) (Qad Qag);refine Qat ?_;refine Qax (i:=4) QcP.nd rfl (.inl rfl) ?_;refine QaJ ?_;refine Qau Qbj ?_ (Qad Qag);refine Qaw ?_;refine Qau Qbo ?_ (Qad Qag);refine Qaw ?_;refine Qau Qde (Qad (Qai 4)) (Qad Qag)
 refine Qat ?_;refine QaQ ?_;refine QaJ ?_;refine Qau Qgz ?_ (Qad Qag);refine Qaw ?_;refine Qau Qbj ?_ (Qad Qag);refine Qaw ?_;refine Qau Qde (Qad (Qai 4)) (Qad (Qai 4))
abbrev QfR:Stmt:=top 46
theorem Qb8:QaF ["_law_cell_here","_law_many","_law_number","_law_rest","_law_found","_law_k"] ["_law_cell_here","_law_many"] (Qao QfR):=by trivial
def Qf1:MS :=
  (Qah (Qan 2 (Qaf QaP (Qaf QbE (Qaf QaP (Qaf QaU (Qab 0) (mC (.int 2147483647))) (mC (.int 7919))) (mC (.int 48271))) (mC (.int 104729))))
  (Qah (Qan 3 (mG (Qab 0)))
  (Qah (Qan 4 (Qbq Qae))
  (Qah (QbI (Qck (Qaa (Qab 1) Qae)) (mgN 5) (QaX (Qav (Qaf gGt (Qab 0) (Qaf Qb2 (mC (.int 10)) (mC (.int 18))))) (Qah (Qcj 4 (Qaf QaU (Qab 3) (Qaf Qb2 (mC (.int 10)) (mC (.int 9)))))
  (Qan 3 (Qaf Qc4 (Qab 3) (Qaf Qb2 (mC (.int 10)) (mC (.int 9)))))) (Qah (Qan 2 (Qaf QaU (Qaf QaP (Qaf QbE (Qab 2) (mC (.int 48271))) (mC (.int 104729))) (mC (.int 2147483629))))
  (Qcj 4 (Qaf Qc4 (Qaf QaU (Qaf QbE (Qab 2) (Qab 2)) (mC (.int 998244353))) (mC (.int 11)))))))
  (QaB (Qab 4))))))
def QcD:List D→Qac→Res D:=Qba 6 Qf1
abbrev QhW (Pr:Program) (w:World) (K:Frag) (mg:Str→Option Value) (base:Heap):Prop:=Can Pr w K mg base "_law_stream" ["_law_cell_here","_law_many"] 1 (vSp K mg [.s,.s] (rO K) QcD)
theorem Qlj (Qga:Def K mg "_law_stream" QfR)
  (B:Qbr mg)
  (NK:Qbb K=true) :
  QhW Pr w K mg base:=by
 refine QbT (k:=0) (b:=Qf1) Qga Qb8 (fun _ _ _ _ _ _=>QaG fun _=>QaG fun _=>Qbu rfl) [.s,.s] [.v,.v,.o,.v] QcB (fun _ _ _ _=>.inl ⟨rfl,Rp.non⟩) (body:=fun f cdv A outer s H E hr P=>?_);refine Qam ?_ ?_;refine Qax (i:=2) Qb8.nd rfl (.inl rfl) ?_;refine QaJ ?_;refine Qau Qbo ?_ (Qad Qag);refine Qaw ?_;refine Qau Qde ?_ (Qad Qag);refine Qaw ?_;refine Qau Qbo ?_ (Qad Qag);refine Qaw ?_;refine Qau Qbj (Qaj 0) (Qad Qag);refine Qam ?_ ?_;refine Qax (i:=3) Qb8.nd rfl (.inl rfl) (Qb5 (Qaj 0));refine Qam ?_ ?_;refine Qd0 (i:=4) Qb8.nd rfl (.inl rfl) (QbR 0 Qal);refine Qam ?_ (Qat (QgF 4));refine QdH rfl ?_ (QbA (i:=5) Qb8.nd rfl (.inl rfl)) ?_
 refine QdU B.range_ ?_;refine Qap (Qaj 1) Qal;refine Qat ?_;refine QbH ?_ ?_ ?_;refine Qbi QjZ (Qaj 0) ?_ (Qa6 _);refine Qaw ?_;refine Qau Qer (Qad Qag) (Qad Qag);refine Qam ?_ ?_;refine QdT 4 ?_;refine QaJ ?_;refine Qau Qbj (Qad (Qai 3)) ?_;refine Qaw ?_;refine Qau Qer (Qad Qag) (Qad Qag);refine Qat ?_;refine Qax (i:=3) Qb8.nd rfl (.inl rfl) ?_;refine QaJ ?_;refine Qau Qgz (Qad (Qai 3)) ?_;refine Qaw ?_;refine Qau Qer (Qad Qag) (Qad Qag);refine Qam ?_ ?_;refine Qax (i:=2) Qb8.nd rfl (.inl rfl) ?_;refine QaJ ?_;refine Qau Qbj ?_ (Qad Qag);refine Qaw ?_;refine Qau Qbo ?_ (Qad Qag);refine Qaw ?_
 refine Qau Qde (Qad (Qai 2)) (Qad Qag);refine Qat ?_;refine QdT 4 ?_;refine QaJ ?_;refine Qau Qgz ?_ (Qad Qag);refine Qaw ?_;refine Qau Qbj ?_ (Qad Qag);refine Qaw ?_;refine Qau Qde (Qad (Qai 2)) (Qad (Qai 2))
abbrev Qgf:Stmt:=top 47
theorem Qco:QaF ["_law_xs","_law_small","_law_great","_law_other","_law_way","_law_many","_law_signs","_law_text"] ["_law_xs"] (Qao Qgf):=by trivial
def Qk3:MS :=
  (Qah (Qan 1 (mC (.str [97,98,99,100,101,102,103,104,105,106,107,108,109,110,111,112,113,114,115,116,117,118,119,120,121,122])))
  (Qah (Qan 2 (mC (.str [65,66,67,68,69,70,71,72,73,74,75,76,77,78,79,80,81,82,83,84,85,86,87,88,89,90])))
  (Qah (Qan 3 (mC (.str [33,34,35,36,38,39,40,41,42,43,44,45,46,47,48,49,50,51,52,53,54,55,56,57,58,59,60,61,62,63,64,91,92,93,94,95,96,123,124,125])))
  (Qah (Qan 4 (Qaf QaU (Qaf gIx (Qab 0) (mC (.int 0))) (mC (.int 8))))
  (Qah (Qan 5 (Qaf QaP (mC (.int 1)) (Qaf QaU (Qaf gIx (Qab 0) (mC (.int 1))) (Qaf gIx (Qbq (Qaa (mC (.int 4)) (Qaa (mC (.int 6)) (Qaa (mC (.int 9)) (Qaa (mC (.int 40)) (Qaa (mC (.int 4)) (Qaa (mC (.int 3)) (Qaa (mC (.int 1)) (Qaa (mC (.int 2)) Qae))))))))) (Qab 4)))))
  (Qah (Qan 6 (Qaf gIx (Qbq (Qaa (Qab 1) (Qaa (Qab 1) (Qaa (Qaf QaP (Qab 1) (Qab 2)) (Qaa (Qab 1) (Qaa (Qab 2) (Qaa (mC (.str [32])) (Qaa (mC (.str [32])) (Qaa (Qab 3) Qae))))))))) (Qab 4)))
  (Qah (Qan 7 (Qlr (Qcb (Qck (Qaa (Qab 5) Qae)) 1 [0,6] (mgN 0) QdQ (Qaf gIx (Qab 2) (Qaf QaU (Qaf QaP (Qaf gIx (Qab 1) (mC (.int 2))) (Qaf QbE (mC (.int 7)) (Qab 0))) (Qaz Qbn (Qaa (Qab 2) Qae)))))))
  (QaB (Qaf QaP (Qab 7) (Qaf QbE (mC (.str [32])) (Qaf Qc4 (Qaf QaU (Qaf gIx (Qab 0) (mC (.int 3))) (mC (.int 5))) (mC (.int 2)))))))))))))
def QdW:List D→Qac→Res D:=Qba 8 Qk3
abbrev Qlf (Pr:Program) (w:World) (K:Frag) (mg:Str→Option Value) (base:Heap):Prop:=Can Pr w K mg base "_law_run" ["_law_xs"] 1 (vSp K mg [.s] (rV K) QdW)
theorem Qo0 (Qh0:Def K mg "_law_run" Qgf)
  (B:Qbr mg)
  (NK:Qbb K=true) :
  Qlf Pr w K mg base:=by
 refine QbT (k:=0) (b:=Qk3) Qh0 Qco (fun _ _ _ _ _ _=>QaG fun _=>Qbu rfl) [.s] [.v,.v,.v,.v,.v,.v,.v] Qbl (fun _ _ _ _=>Rp.non) (body:=fun f cdv A outer s H E hr P=>?_);refine Qam (Qax (i:=1) Qco.nd rfl (.inl rfl) (QaV [97,98,99,100,101,102,103,104,105,106,107,108,109,110,111,112,113,114,115,116,117,118,119,120,121,122])) ?_;refine Qam (Qax (i:=2) Qco.nd rfl (.inl rfl) (QaV [65,66,67,68,69,70,71,72,73,74,75,76,77,78,79,80,81,82,83,84,85,86,87,88,89,90])) ?_;refine Qam (Qax (i:=3) Qco.nd rfl (.inl rfl) (QaV [33,34,35,36,38,39,40,41,42,43,44,45,46,47,48,49,50,51,52,53,54,55,56,57,58,59,60,61,62,63,64,91,92,93,94,95,96,123,124,125])) ?_
 refine Qam ?_ ?_;refine Qax (i:=4) Qco.nd rfl (.inl rfl) ?_;refine QaJ ?_;refine Qau Qbj ?_ (Qad Qag);refine Qad ?_;refine Qa1 (Qaj 0) (Qad Qag);refine Qam ?_ ?_;refine Qax (i:=5) Qco.nd rfl (.inl rfl) ?_;refine QaJ ?_;refine Qau Qbo (Qad Qag) ?_;refine Qaw ?_;refine Qau Qbj ?_ ?_;refine Qad ?_;refine Qa1 (Qaj 0) (Qad Qag);refine Qad ?_;refine Qa1 ?_ (Qad (Qai 4));refine Qaw ?_;refine QbR 8 ?_;refine QaA Qag ?_;refine QaA Qag ?_;refine QaA Qag ?_;refine QaA Qag ?_;refine QaA Qag ?_;refine QaA Qag ?_;refine QaA Qag ?_;refine QaA Qag Qal;refine Qam ?_ ?_;refine Qax (i:=6) Qco.nd rfl (.inr rfl) ?_
 refine Qa1 ?_ (Qad (Qai 4));refine Qaw ?_;refine QbR 8 ?_;refine QaA (Qai 1) ?_;refine QaA (Qai 1) ?_;refine QaA ?_ ?_;refine QaJ ?_;refine Qau Qbo (Qad (Qai 1)) (Qad (Qai 2));refine QaA (Qai 1) ?_;refine QaA (Qai 2) ?_;refine QaA (QaV [32]) ?_;refine QaA (QaV [32]) ?_;refine QaA (Qai 3) Qal;refine Qam ?_ ?_;refine Qax (i:=7) Qco.nd rfl (.inl rfl) ?_;refine QaJ ?_;refine Qtj ?_;refine Qaw ?_;refine QgD (Qao Qgf) ["_law_xs","_law_small","_law_great","_law_other","_law_way","_law_many","_law_signs","_law_text"] ["_law_k"] [0,6] rfl ?_ (fun _ _ _ _ P=>?_) (fun _ _ _ _ P=>?_) (fun _ _ _ _ P=>?_);refine Qjz ?_
 refine QdU B.range_ ?_;refine Qap (Qad (Qai 5)) Qal;exact QbA (i:=0) (show (Qa2 ["_law_xs","_law_small","_law_great","_law_other","_law_way","_law_many","_law_signs","_law_text"] ["_law_k"] [0,6]).Nodup by decide +kernel) rfl (.inl rfl);exact QgP;refine Qa1 (Qad (Qai 2)) ?_;refine Qaw ?_;refine Qau Qbj ?_ ?_;refine Qaw ?_;refine Qau Qbo ?_ ?_;refine Qad ?_;refine Qa1 (Qaj 1) (Qad Qag);refine Qaw ?_;refine Qau Qde (Qad Qag) (Qad (Qai 0));refine Qaw ?_;refine Qa9 (ms:=[.s]) (hv:=Qb0) Qb1 B.len_ ?_;refine Qap (Qad (Qai 2)) Qal;refine Qat ?_;refine QaQ ?_;refine QaJ ?_;refine Qau Qbo (Qad (Qai 7)) ?_
 refine Qaw ?_;refine Qau Qde (Qad (QaV [32])) ?_;refine Qaw ?_;refine Qau Qgz ?_ (Qad Qag);refine Qaw ?_;refine Qau Qbj ?_ (Qad Qag);refine Qad ?_;refine Qa1 (Qaj 0) (Qad Qag)
abbrev Qfl:Stmt:=top 48
theorem QbG:QaF ["_law_script","_law_at","_law_most","_law_letters_here","_law_place","_law_k","_law_xs","_law_sign"] ["_law_script","_law_at","_law_most"] (Qao Qfl):=by trivial
def QhQ:MS :=
  (Qah (Qan 3 (Qbq Qae))
  (Qah (Qan 4 (Qaf QaU (Qas Qa3 (Qaa (Qas Qbk (Qaa (Qab 0) (Qaa (Qab 1) Qae))) (Qaa (mC (.int 0)) Qae))) (mC (.int 1000))))
  (Qah (QbI (Qck (Qaa (Qaz QhC (Qaa (mC (.int 1)) (Qaa (Qaz QhF (Qaa (mC (.int 40)) (Qaa (Qaf QgC (Qaz Qbn (Qaa (Qab 0) Qae)) (Qab 1)) Qae))) Qae))) Qae)) (mgN 5) (Qah (Qan 6 (Qas QcD (Qaa (Qas Qbk (Qaa (Qab 0) (Qaa (Qaf QaP (Qab 1) (Qab 5)) Qae))) (Qaa (mC (.int 7)) Qae))))
  (QbI (QbZ (Qas QdW (Qaa (Qab 6) Qae))) (mgN 7) (Qah (QaX (Qav (Qaf gLt (Qaz Qbn (Qaa (Qab 3) Qae)) (Qab 2))) (Qcj 3 (QbQ (Qaa (Qab 7) (Qaa (Qaf gIx (mC (.str [97,98,99,100,101,102,103,104,46])) (Qaf QaU (Qaf gIx (Qab 6) (mC (.int 4))) (mC (.int 9)))) (Qaa (Qaf gIx (mC (.str [97,98,99,100,101,102,103,104,46])) (Qaf QaU (Qaf gIx (Qab 6) (mC (.int 5))) (mC (.int 9)))) (Qaa (Qab 4) Qae)))))) QaH)
  (Qan 4 (Qaf QaP (Qaf QaP (Qab 4) (mC (.int 1))) (Qaf QaU (Qaf gIx (Qab 6) (mC (.int 6))) (mC (.int 3)))))))))
  (Qah (QaX (Qav (Qaf gEq (Qaf QaU (Qas Qa3 (Qaa (Qas Qbk (Qaa (Qab 0) (Qaa (mC (.int 0)) Qae))) (Qaa (mC (.int 9)) Qae))) (mC (.int 9))) (mC (.int 4)))) (Qan 3 (Qbq Qae)) QaH)
  (QaB (Qab 3))))))
def Qcn:List D→Qac→Res D:=Qba 8 QhQ
abbrev QhR (Pr:Program) (w:World) (K:Frag) (mg:Str→Option Value) (base:Heap):Prop:=Can Pr w K mg base "_law_letters" ["_law_script","_law_at","_law_most"] 2 (vSp K mg [.s,.s,.s] (rO K) Qcn)
theorem QkL (Qfb:Def K mg "_law_letters" Qfl)
  (B:Qbr mg)
  (NK:Qbb K=true)
  (QbP:Qig Pr w K mg base)
  (Qcp:Qha Pr w K mg base)
  (QfT:QhW Pr w K mg base)
  (Qia:Qlf Pr w K mg base) :
  QhR Pr w K mg base:=by
 refine QbT (k:=1) (b:=QhQ) Qfb QbG (fun _ _ _ _ _ _=>QaG fun _=>QaG fun _=>QaG fun _=>Qbu rfl) [.s,.s,.s] [.o,.v,.v,.v,.v] QcB (fun _ _ _ _=>.inl ⟨rfl,Rp.non⟩) (body:=fun f cdv A outer s H E hr P=>?_);refine Qam ?_ ?_;refine Qd0 (i:=3) QbG.nd rfl (.inl rfl) (QbR 0 Qal);refine Qam ?_ ?_;refine Qax (i:=4) QbG.nd rfl (.inl rfl) ?_;refine QaJ ?_;refine Qau Qbj ?_ (Qad Qag);refine Qad ?_;refine QaK QbP (hr.mono (by decide)) ?_;refine Qap ?_ ?_;refine Qad ?_;refine QaK Qcp (hr.mono (by decide)) ?_;refine Qap (Qaj 0) ?_;refine Qap (Qaj 1) Qal;refine Qap (Qad Qag) Qal;refine Qam ?_ ?_;refine QdH rfl ?_ (QbA (i:=5) QbG.nd rfl (.inl rfl)) ?_
 refine QdU B.range_ ?_;refine Qap ?_ Qal;refine Qaw ?_;refine Qa9 (ms:=[.s,.s]) (hv:=QpF) (Qqp rfl) B.max_ ?_;refine Qap (Qad Qag) ?_;refine Qap ?_ Qal;refine Qaw ?_;refine Qa9 (ms:=[.s,.s]) (hv:=Qp6) (Qq7 rfl) B.min_ ?_;refine Qap (Qad Qag) ?_;refine Qap ?_ Qal;refine Qaw ?_;refine Qau QmJ ?_ (Qaj 1);refine Qaw ?_;refine Qa9 (ms:=[.s]) (hv:=Qb0) Qb1 B.len_ ?_;refine Qap (Qaj 0) Qal;refine Qam ?_ ?_;refine Qax (i:=6) QbG.nd rfl (.inl rfl) ?_;refine QaJ ?_;refine Qdt QfT (hr.mono (by decide)) ?_;refine Qap ?_ ?_;refine Qad ?_;refine QaK Qcp (hr.mono (by decide)) ?_;refine Qap (Qaj 0) ?_;refine Qap ?_ Qal
 refine Qaw ?_;refine Qau Qbo (Qaj 1) (Qad (Qai 5));refine Qap (Qad Qag) Qal;refine Qat ?_;refine QdH rfl ?_ (QbA (i:=7) QbG.nd rfl (.inl rfl)) ?_;refine Qpf ?_;refine QoY ?_;refine QaK Qia (hr.mono (by decide)) ?_;refine Qap (Qad (Qai 6)) Qal;refine Qam ?_ ?_;refine QbH ?_ ?_ Qbh;refine Qbi QjW ?_ (Qaj 2) (Qa6 _);refine Qaw ?_;refine Qa9 (ms:=[.s]) (hv:=Qb0) Qb1 B.len_ ?_;refine Qap (Qaj 3) Qal;refine Qat ?_;refine QdT 3 ?_;refine Qci 4 ?_;refine QaA (Qai 7) ?_;refine QaA ?_ ?_;refine Qa1 (Qad (QaV [97,98,99,100,101,102,103,104,46])) ?_;refine Qaw ?_;refine Qau Qbj ?_ (Qad Qag);refine Qad ?_;refine Qa1 (Qad (Qai 6)) (Qad Qag)
 refine QaA ?_ ?_;refine Qa1 (Qad (QaV [97,98,99,100,101,102,103,104,46])) ?_;refine Qaw ?_;refine Qau Qbj ?_ (Qad Qag);refine Qad ?_;refine Qa1 (Qad (Qai 6)) (Qad Qag);refine QaA (Qai 4) Qal;refine Qat ?_;refine Qax (i:=4) QbG.nd rfl (.inl rfl) ?_;refine QaJ ?_;refine Qau Qbo ?_ ?_;refine Qaw ?_;refine Qau Qbo (Qad (Qai 4)) (Qad Qag);refine Qaw ?_;refine Qau Qbj ?_ (Qad Qag);refine Qad ?_;refine Qa1 (Qad (Qai 6)) (Qad Qag);refine Qam ?_ (Qat (QgF 3));refine QbH ?_ ?_ Qbh;refine Qbi (Qcy hr) ?_ (Qad Qag) (Qa6 _);refine Qaw ?_;refine Qau Qbj ?_ (Qad Qag);refine Qad ?_;refine QaK QbP (hr.mono (by decide)) ?_
 refine Qap ?_ ?_;refine Qad ?_;refine QaK Qcp (hr.mono (by decide)) ?_;refine Qap (Qaj 0) ?_;refine Qap (Qad Qag) Qal;refine Qap (Qad Qag) Qal;refine Qat ?_;refine Qd0 (i:=3) QbG.nd rfl (.inl rfl) (QbR 0 Qal)
abbrev Qfk:Stmt:=top 49
theorem QeD:QaF ["_law_letters_here","_law_wide","_law_way","_law_word","e","_law_others"] ["_law_letters_here","_law_wide","_law_way"] (Qao Qfk):=by trivial
def QcX:MS :=
  (Qah (Qan 3 (mC (.str [116,111,108,100])))
  (Qah (Qe2 Qb3 (Qaa (Qab 0) (Qaa (Qab 1) (Qaa (Qab 2) Qae))) (hdN "NoSize" 4 5 3 [115,105,122,101]))
  (QaB (Qab 3))))
def QbC:List D→Qac→Res D:=Qba 6 QcX
abbrev QhN (Pr:Program) (w:World) (K:Frag) (mg:Str→Option Value) (base:Heap):Prop:=Can Pr w K mg base "_law_refused" ["_law_letters_here","_law_wide","_law_way"] 10 (vSp K mg [.s,.s,.s] (rV K) QbC)
theorem Qko (Qe5:Def K mg "_law_refused" Qfk)
  (B:Qbr mg)
  (NK:Qbb K=true)
  (RF:QoX K mg "OutError" "NoSize" ["Closed","NoCell","NoHand","NoName","NoRoll","NoRoom","NoRow","NoSign","Twice"])
  (QfW:QpV Pr w K mg base) :
  QhN Pr w K mg base:=by
 refine QbT (k:=9) (b:=QcX) Qe5 QeD (fun _ _ _ _ _ _=>QaG fun _=>QaG fun _=>QaG fun _=>Qbu rfl) [.s,.s,.s] [.v,.v,.v] Qbl (fun _ _ _ _=>Rp.non) (body:=fun f cdv A outer s H E hr P=>?_);refine Qam (Qax (i:=3) QeD.nd rfl (.inl rfl) (QaV [116,111,108,100])) ?_;refine Qam ?_ ?_;refine Qp2 (i:=4) (ja:=5) (jb:=3) (ns:=["Closed","NoCell","NoHand","NoName","NoRoll","NoRoom","NoRow","NoSign","Twice"]) (l1:=[111,116,104,101,114]) (l2:=[115,105,122,101]) RF QfW (hr.mono (by decide)) QeD.nd B.isinstance_ (fun E=>?_) (QcN (QcN (QcN (QcN (QcN (QcN (QcN (QcN (QcN QtZ))))))))) (by decide +kernel) (by decide +kernel)
 refine Qap (Qaj 0) ?_;refine Qap (Qaj 1) ?_;refine Qap (Qaj 2) Qal;refine Qat (QaQ (Qai 3))
abbrev QeM:Stmt:=top 50
theorem Qgh:QaF ["_law_number","_law_some"] ["_law_number"] (Qao QeM):=by trivial
def Qdl:MS :=
  (Qah (Qan 1 (Qbq (Qaa (mC (.int 1)) (Qaa (mC (.int 0)) (Qaa (mUn Qev (mC (.int 1))) (Qaa (mC (.int 41)) (Qaa (mC (.int 42)) (Qaa (mUn Qev (mC (.int 40))) (Qaa (Qaf Qb2 (mC (.int 10)) (mC (.int 9))) (Qaa (mC .non) (Qaa (mC (.bl true)) (Qaa (mC (.bl false)) (Qaa (mC (.str [56])) (Qaa (mC (.str [])) (Qaa (Qbq (Qaa (mC (.int 8)) Qae)) (Qaa (QbQ (Qaa (mC (.int 8)) Qae)) (Qaa (mUn Qev (Qaf Qb2 (mC (.int 10)) (mC (.int 30)))) Qae)))))))))))))))))
  (QaB (Qaf gIx (Qab 1) (Qaf QaU (Qab 0) (mC (.int 15))))))
def Qcf:List D→Qac→Res D:=Qba 2 Qdl
abbrev Qgy (Pr:Program) (w:World) (K:Frag) (mg:Str→Option Value) (base:Heap):Prop:=Can Pr w K mg base "_law_odd_wide" ["_law_number"] 1 (vSp K mg [.s] (rV K) Qcf)
theorem QjX (Qez:Def K mg "_law_odd_wide" QeM)
  (B:Qbr mg)
  (NK:Qbb K=true) :
  Qgy Pr w K mg base:=by
 refine QbT (k:=0) (b:=Qdl) Qez Qgh (fun _ _ _ _ _ _=>QaG fun _=>Qbu rfl) [.s] [.v] Qbl (fun _ _ _ _=>Rp.non) (body:=fun f cdv A outer s H E hr P=>?_);refine Qam ?_ ?_;refine Qax (i:=1) Qgh.nd rfl (.inl rfl) ?_;refine QaJ ?_;refine QbR 15 ?_;refine QaA Qag ?_;refine QaA Qag ?_;refine QaA ?_ ?_;refine QaJ ?_;refine QgA (Qad Qag);refine QaA Qag ?_;refine QaA Qag ?_;refine QaA ?_ ?_;refine QaJ ?_;refine QgA (Qad Qag);refine QaA ?_ ?_;refine QaJ ?_;refine Qau Qer (Qad Qag) (Qad Qag);refine QaA Qiw ?_;refine QaA Qfq ?_;refine QaA Qfq ?_;refine QaA (QaV [56]) ?_;refine QaA (QaV []) ?_;refine QaA ?_ ?_
 refine QnU 1 ?_;refine QaA Qag Qal;refine QaA ?_ ?_;refine Qci 1 ?_;refine QaA Qag Qal;refine QaA ?_ Qal;refine QaJ ?_;refine QgA ?_;refine Qaw ?_;refine Qau Qer (Qad Qag) (Qad Qag);refine Qat ?_;refine QaQ ?_;refine Qa1 (Qad (Qai 1)) ?_;refine Qaw ?_;refine Qau Qbj (Qaj 0) (Qad Qag)
abbrev Qfe:Stmt:=top 51
theorem QgB:QaF ["_law_number","_law_some"] ["_law_number"] (Qao Qfe):=by trivial
def QdO:MS :=
  (Qah (Qan 1 (Qbq (Qaa (mC (.str [])) (Qaa (mC (.str [67,117,116])) (Qaa (mC (.str [119,111,114,100])) (Qaa (mC (.str [99,101,108,108,115,32])) (Qaa (mC (.str [32,101,118,101,110])) (Qaa (mC (.str [101,118,101,110,115])) (Qaa (mC .non) (Qaa (mC (.int 0)) (Qaa (mC (.int 3)) (Qaa (mC (.bl true)) (Qaa (Qbq (Qaa (mC (.str [99,117,116])) Qae)) (Qaa (QbQ (Qaa (mC (.str [101,118,101,110])) Qae)) (Qaa (mC (.str [99,117,116,44,99,101,108,108,115])) (Qaa (mC (.str [110,111,110,101])) Qae))))))))))))))))
  (QaB (Qaf gIx (Qab 1) (Qaf QaU (Qab 0) (mC (.int 14))))))
def Qcl:List D→Qac→Res D:=Qba 2 QdO
abbrev QhM (Pr:Program) (w:World) (K:Frag) (mg:Str→Option Value) (base:Heap):Prop:=Can Pr w K mg base "_law_odd_way" ["_law_number"] 1 (vSp K mg [.s] (rV K) Qcl)
theorem QkQ (Qe4:Def K mg "_law_odd_way" Qfe)
  (B:Qbr mg)
  (NK:Qbb K=true) :
  QhM Pr w K mg base:=by
 refine QbT (k:=0) (b:=QdO) Qe4 QgB (fun _ _ _ _ _ _=>QaG fun _=>Qbu rfl) [.s] [.v] Qbl (fun _ _ _ _=>Rp.non) (body:=fun f cdv A outer s H E hr P=>?_);refine Qam ?_ ?_;refine Qax (i:=1) QgB.nd rfl (.inl rfl) ?_;refine QaJ ?_;refine QbR 14 ?_;refine QaA (QaV []) ?_;refine QaA (QaV [67,117,116]) ?_;refine QaA (QaV [119,111,114,100]) ?_;refine QaA (QaV [99,101,108,108,115,32]) ?_;refine QaA (QaV [32,101,118,101,110]) ?_;refine QaA (QaV [101,118,101,110,115]) ?_;refine QaA Qiw ?_;refine QaA Qag ?_;refine QaA Qag ?_;refine QaA Qfq ?_;refine QaA ?_ ?_;refine QnU 1 ?_;refine QaA (QaV [99,117,116]) Qal
 refine QaA ?_ ?_;refine Qci 1 ?_;refine QaA (QaV [101,118,101,110]) Qal;refine QaA (QaV [99,117,116,44,99,101,108,108,115]) ?_;refine QaA (QaV [110,111,110,101]) Qal;refine Qat ?_;refine QaQ ?_;refine Qa1 (Qad (Qai 1)) ?_;refine Qaw ?_;refine Qau Qbj (Qaj 0) (Qad Qag)
abbrev QeS:Stmt:=top 52
theorem Qct:QaF ["_law_script","_law_letters_here","_law_handed","_law_k","_law_cell_here","_law_good","_law_way","_law_wide","_law_odd","_law_due","_law_told"] ["_law_script"] (Qao QeS):=by trivial
def Qlp:MS :=
  (Qah (Qan 1 (Qas Qcn (Qaa (Qab 0) (Qaa (mC (.int 2)) (Qaa (mC (.int 40)) Qae)))))
  (Qah (Qan 2 (Qaz Qfz (Qaa (Qab 1) Qae)))
  (Qah (QbI (Qck (Qaa (Qaz QhC (Qaa (mC (.int 1)) (Qaa (Qaz QhF (Qaa (mC (.int 12)) (Qaa (Qaz Qbn (Qaa (Qab 0) Qae)) Qae))) Qae))) Qae)) (mgN 3) (Qah (Qan 4 (Qas Qbk (Qaa (Qab 0) (Qaa (Qab 3) Qae))))
  (Qah (Qan 5 (Qaf QaP (mC (.int 2)) (Qaf QaU (Qas Qa3 (Qaa (Qab 4) (Qaa (mC (.int 1)) Qae))) (mC (.int 39)))))
  (Qah (Qan 6 (Qaf gIx (Qbq (Qaa (mC (.str [99,117,116])) (Qaa (mC (.str [99,101,108,108,115])) (Qaa (mC (.str [119,111,114,100,115])) (Qaa (mC (.str [101,118,101,110])) Qae))))) (Qaf QaU (Qas Qa3 (Qaa (Qab 4) (Qaa (mC (.int 2)) Qae))) (mC (.int 4)))))
  (Qah (Qan 7 (Qab 5))
  (Qah (Qan 8 (Qab 6))
  (Qah (QaX (Qav (Qaf gEq (Qaf QaU (Qas Qa3 (Qaa (Qab 4) (Qaa (mC (.int 3)) Qae))) (mC (.int 2))) (mC (.int 0)))) (Qan 7 (Qas Qcf (Qaa (Qas Qa3 (Qaa (Qab 4) (Qaa (mC (.int 4)) Qae))) Qae))) QaH)
  (Qah (QaX (Qav (Qaf gEq (Qaf QaU (Qas Qa3 (Qaa (Qab 4) (Qaa (mC (.int 5)) Qae))) (mC (.int 2))) (mC (.int 0)))) (Qan 8 (Qas Qcl (Qaa (Qas Qa3 (Qaa (Qab 4) (Qaa (mC (.int 6)) Qae))) Qae))) QaH)
  (Qah (Qan 9 (mC (.str [115,105,122,101])))
  (Qah (QaX (QdJ (Qav (Qaf gEq (Qab 7) (Qab 5))) (Qav (Qaf gEq (Qab 8) (Qab 6)))) (Qan 9 (mC (.str [116,111,108,100]))) QaH)
  (Qah (Qan 10 (Qas Qb3 (Qaa (Qab 2) (Qaa (Qab 5) (Qaa (Qab 6) Qae)))))
  (Qah (QaX (Qav (Qaf gNe (Qas QbC (Qaa (Qab 2) (Qaa (Qab 7) (Qaa (Qab 8) Qae)))) (Qab 9))) (QaB (mC (.bl false))) QaH)
  (QaX (Qg6 (QcA (Qb4 (Qgr "list" (Qab 10)))) (Qav (Qaf gNe (Qas Qb3 (Qaa (Qab 2) (Qaa (Qab 5) (Qaa (Qab 6) Qae)))) (Qab 10)))) (QaB (mC (.bl false))) QaH)))))))))))))
  (QaB (Qaf gEq (Qab 2) (Qab 1))))))
def Qls:List D→Qac→Res D:=Qba 11 Qlp
abbrev QxI (Pr:Program) (w:World) (K:Frag) (mg:Str→Option Value) (base:Heap):Prop:=Can Pr w K mg base "law" ["_law_script"] 11 (vSp K mg [.s] (rV K) Qls)
theorem QvS (QoH:Def K mg "law" QeS)
  (B:Qbr mg)
  (NK:Qbb K=true)
  (Qfa:QhR Pr w K mg base)
  (Qcp:Qha Pr w K mg base)
  (QbP:Qig Pr w K mg base)
  (QeE:Qgy Pr w K mg base)
  (Qfj:QhM Pr w K mg base)
  (QfW:Can Pr w K mg base "fold" ["letters","wide","way"] 9 (vSp K mg [.s,.s,.s] (rO K) Qb3))
  (Qfc:QhN Pr w K mg base) :
  QxI Pr w K mg base:=by
 refine QbT (k:=10) (b:=Qlp) QoH Qct (fun _ _ _ _ _ _=>QaG fun _=>Qbu rfl) [.s] [.v,.o,.v,.v,.v,.v,.v,.v,.v,.v] Qbl (fun _ _ _ _=>Rp.non) (body:=fun f cdv A outer s H E hr P=>?_);refine Qam ?_ ?_;refine Qax (i:=1) Qct.nd rfl (.inl rfl) ?_;refine QaJ ?_;refine Qdt Qfa (hr.mono (by decide)) ?_;refine Qap (Qaj 0) ?_;refine Qap (Qad Qag) ?_;refine Qap (Qad Qag) Qal;refine Qam ?_ ?_;refine Qd0 (i:=2) Qct.nd rfl (.inl rfl) ?_;refine Qhb (ms:=[.s]) (hv:=QiC) QnO B.list_ ?_;refine Qap (Qad (Qai 1)) Qal;refine Qam ?_ ?_;refine QdH rfl ?_ (QbA (i:=3) Qct.nd rfl (.inl rfl)) ?_;refine QdU B.range_ ?_;refine Qap ?_ Qal
 refine Qaw ?_;refine Qa9 (ms:=[.s,.s]) (hv:=QpF) (Qqp rfl) B.max_ ?_;refine Qap (Qad Qag) ?_;refine Qap ?_ Qal;refine Qaw ?_;refine Qa9 (ms:=[.s,.s]) (hv:=Qp6) (Qq7 rfl) B.min_ ?_;refine Qap (Qad Qag) ?_;refine Qap ?_ Qal;refine Qaw ?_;refine Qa9 (ms:=[.s]) (hv:=Qb0) Qb1 B.len_ ?_;refine Qap (Qaj 0) Qal;refine Qam ?_ ?_;refine Qax (i:=4) Qct.nd rfl (.inl rfl) ?_;refine QaK Qcp (hr.mono (by decide)) ?_;refine Qap (Qaj 0) ?_;refine Qap (Qad (Qai 3)) Qal;refine Qam ?_ ?_;refine Qax (i:=5) Qct.nd rfl (.inl rfl) ?_;refine QaJ ?_;refine Qau Qbo (Qad Qag) ?_;refine Qaw ?_;refine Qau Qbj ?_ (Qad Qag)
 refine Qad ?_;refine QaK QbP (hr.mono (by decide)) ?_;refine Qap (Qad (Qai 4)) ?_;refine Qap (Qad Qag) Qal;refine Qam ?_ ?_;refine Qax (i:=6) Qct.nd rfl (.inl rfl) ?_;refine Qa1 ?_ ?_;refine Qaw ?_;refine QbR 4 ?_;refine QaA (QaV [99,117,116]) ?_;refine QaA (QaV [99,101,108,108,115]) ?_;refine QaA (QaV [119,111,114,100,115]) ?_;refine QaA (QaV [101,118,101,110]) Qal;refine Qaw ?_;refine Qau Qbj ?_ (Qad Qag);refine Qad ?_;refine QaK QbP (hr.mono (by decide)) ?_;refine Qap (Qad (Qai 4)) ?_;refine Qap (Qad Qag) Qal;refine Qam (Qax (i:=7) Qct.nd rfl (.inl rfl) (Qai 5)) ?_;refine Qam (Qax (i:=8) Qct.nd rfl (.inl rfl) (Qai 6)) ?_
 refine Qam ?_ ?_;refine QbH ?_ ?_ Qbh;refine Qbi (Qcy hr) ?_ (Qad Qag) (Qa6 _);refine Qaw ?_;refine Qau Qbj ?_ (Qad Qag);refine Qad ?_;refine QaK QbP (hr.mono (by decide)) ?_;refine Qap (Qad (Qai 4)) ?_;refine Qap (Qad Qag) Qal;refine Qat ?_;refine Qax (i:=7) Qct.nd rfl (.inl rfl) ?_;refine QaK QeE (hr.mono (by decide)) ?_;refine Qap ?_ Qal;refine Qad ?_;refine QaK QbP (hr.mono (by decide)) ?_;refine Qap (Qad (Qai 4)) ?_;refine Qap (Qad Qag) Qal;refine Qam ?_ ?_;refine QbH ?_ ?_ Qbh;refine Qbi (Qcy hr) ?_ (Qad Qag) (Qa6 _);refine Qaw ?_;refine Qau Qbj ?_ (Qad Qag);refine Qad ?_;refine QaK QbP (hr.mono (by decide)) ?_
 refine Qap (Qad (Qai 4)) ?_;refine Qap (Qad Qag) Qal;refine Qat ?_;refine Qax (i:=8) Qct.nd rfl (.inl rfl) ?_;refine QaK Qfj (hr.mono (by decide)) ?_;refine Qap ?_ Qal;refine Qad ?_;refine QaK QbP (hr.mono (by decide)) ?_;refine Qap (Qad (Qai 4)) ?_;refine Qap (Qad Qag) Qal;refine Qam (Qax (i:=9) Qct.nd rfl (.inl rfl) (QaV [115,105,122,101])) ?_;refine Qam ?_ ?_;refine QbH ?_ ?_ Qbh;refine QlZ ?_;refine QlW ?_ ?_;refine Qbi (Qcy hr) (Qad (Qai 7)) (Qad (Qai 5)) (Qa6 _);refine QkN ?_;refine Qbi (Qcy hr) (Qad (Qai 8)) (Qad (Qai 6)) (Qa6 _);refine Qat (Qax (i:=9) Qct.nd rfl (.inl rfl) (QaV [116,111,108,100]))
 refine Qam ?_ ?_;refine Qax (i:=10) Qct.nd rfl (.inl rfl) ?_;refine QaJ ?_;refine Qdt QfW (hr.mono (by decide)) ?_;refine Qap (Qaj 2) ?_;refine Qap (Qad (Qai 5)) ?_;refine Qap (Qad (Qai 6)) Qal;refine Qam ?_ ?_;refine QbH ?_ ?_ Qbh;refine Qbi (Qlt hr) ?_ (Qad (Qai 9)) (Qa6 _);refine Qad ?_;refine QaK Qfc (hr.mono (by decide)) ?_;refine Qap (Qaj 2) ?_;refine Qap (Qad (Qai 7)) ?_;refine Qap (Qad (Qai 8)) Qal;refine Qat (QaQ Qfq);refine Qat ?_;refine QbH ?_ ?_ Qbh;refine QlZ ?_;refine QsF ?_ ?_;refine Qjy ?_;refine Qe1 ?_;refine Qaw ?_;refine QjB "list" (hb:=QiC) B.isinstance_ B.list_ (Qad (Qai 10))
 refine QpE ?_;refine Qbi (Qlt hr) ?_ (Qad (Qai 10)) (Qa6 _);refine Qaw ?_;refine Qdt QfW (hr.mono (by decide)) ?_;refine Qap (Qaj 2) ?_;refine Qap (Qad (Qai 5)) ?_;refine Qap (Qad (Qai 6)) Qal;refine Qat (QaQ Qfq);refine Qat ?_;refine QaQ ?_;refine QaJ ?_;refine Qil (Qcy hr) (Qaj 2) (Qad (Qai 1)) (Qa6 _)
end
theorem QaM {g:D→D→Option D}{a b:L2.M D}{ρ:Qak}{O:Qac}{x y z:D} (ha:a ρ O = .ok x O) (hb:b ρ O = .ok y O) (h:g (QaI O x) (QaI O y)=some z):Qaf g a b ρ O = .ok z O:=by
 rw [Qcz,ha,Qar,hb,Qar,h,Qbm]
theorem ma1 {a:L2.M D}{ρ:Qak}{O:Qac}{x:D} (h:a ρ O = .ok x O):Qaa a Qae ρ O = .ok [x] O:=by
 rw [QbN,h,Qar,Qca,Qar]
theorem maS {a:L2.M D}{r:L2.M (List D)}{ρ:Qak}{O:Qac}{x:D}{xs:List D} (h:a ρ O = .ok x O) (h2:r ρ O = .ok xs O):Qaa a r ρ O = .ok (x::xs) O:=by
 rw [QbN,h,Qar,h2,Qar]
theorem Qmm {m:L2.M (List D)}{ρ:Qak}{O:Qac}{xs:List D} (h:m ρ O = .ok xs O) (hl:xs.length≤1000000):QbQ m ρ O = .ok (.tup xs) O:=by
 rw [QoL,h,Qar,if_pos hl]
theorem Qjn {m:L2.M (List D)}{ρ:Qak}{O:Qac}{xs:List D} (h:m ρ O = .ok xs O) (hl:xs.length≤1000000):Qbq m ρ O = .ok (.lst xs) O:=by
 rw [Qo2,h,Qar,if_pos hl]
theorem QcS {g:List D→Option D}{m:L2.M (List D)}{ρ:Qak}{O:Qac}{xs:List D}{z:D} (h:m ρ O = .ok xs O) (hg:g (xs.map (QaI O))=some z):Qaz g m ρ O = .ok z O:=by
 rw [Qdo,h,Qar,hg,Qbm]
theorem Qmd {i:Nat}{m:L2.M D}{ρ:Qak}{O:Qac}{d:D}{ds:List D} (hm:m ρ O = .ok d O) (h:ρ[i]? = some (some (.lst ds))) (hl:ds.length < 1000000):Qcj i m ρ O = .nx (ρ.set i (some (.lst (ds ++ [d])))) O:=by
 rw [QqO,hm,QjL h hl]
theorem QaW {i:Nat}{m:L2.M D}{ρ:Qak}{O:Qac}{d:D} (h:m ρ O = .ok d O):Qan i m ρ O = .nx (ρ.set i (some d)) O:=by
 rw [Qdf,h,QcK]
theorem QaL {c:List D→Qac→Res D}{ma:L2.M (List D)}{ρ:Qak}{O:Qac}{ds:List D} (h:ma ρ O = .ok ds O):Qas c ma ρ O=c ds O:=by
 rw [QdB,h,Qar]
theorem QeB {m:L2.M D}{ρ:Qak}{O:Qac}{b:Bool} (h:m ρ O = .ok (.bl b) O):Qav m ρ O = .ok b O:=by
 rw [QcV,h,Qar,Qc6]
theorem Qc9 {t:L2.M Bool}{a b:MS}{ρ:Qak}{O:Qac} (h:t ρ O = .ok true O):QaX t a b ρ O=a ρ O:=by
 rw [Qfr,h,Qd7,if_pos rfl]
theorem if_no {t:L2.M Bool}{a b:MS}{ρ:Qak}{O:Qac} (h:t ρ O = .ok false O):QaX t a b ρ O=b ρ O:=by
 rw [Qfr,h,Qd7,if_neg zg]
theorem QfK {m:L2.M D}{ρ:Qak}{O:Qac}{l:List D} (h:m ρ O = .ok (.lst l) O):Qaz Qbn (Qaa m Qae) ρ O = .ok (.int (l.length:Int)) O:=QcS (ma1 h) rfl
theorem Qwl {m:L2.M D}{ρ:Qak}{O:Qac}{n:Nat} (h:m ρ O = .ok (.int (n:Int)) O) (hn:n≤1000000):Qck (Qaa m Qae) ρ O = .ok (QaY 0 n) O:=by
 rw [QqR,ma1 h,Qar];show (if (n:Int)≤1000000000∧-1000000000≤(n:Int) then Res.ok (QaY 0 (n:Int).toNat) O else .no)=_;rw [if_pos ⟨by omega,by omega⟩,Int.toNat_natCast]
theorem QfL {a b:L2.M D}{ρ:Qak}{O:Qac}{i j:Int} (ha:a ρ O = .ok (.int i) O) (hb:b ρ O = .ok (.int j) O) (hj:0 < j):Qaf QaU a b ρ O = .ok (.int (i % j)) O:=QaM ha hb (by rw [QaO,QaO,QgI,if_pos hj])
theorem Qlv {a b:L2.M D}{ρ:Qak}{O:Qac}{i j:Int} (ha:a ρ O = .ok (.int i) O) (hb:b ρ O = .ok (.int j) O):Qaf QaP a b ρ O = .ok (.int (i+j)) O:=QaM ha hb rfl
theorem Qtc {a b:L2.M D}{ρ:Qak}{O:Qac}{i j:Int} (ha:a ρ O = .ok (.int i) O) (hb:b ρ O = .ok (.int j) O):Qaf QgC a b ρ O = .ok (.int (i - j)) O:=QaM ha hb rfl
theorem QsQ {a b:L2.M D}{ρ:Qak}{O:Qac}{i j:Int} (ha:a ρ O = .ok (.int i) O) (hb:b ρ O = .ok (.int j) O):Qav (Qaf gLt a b) ρ O = .ok (decide (i < j)) O:=QeB (QaM ha hb rfl)
theorem Qhh {a b:L2.M D}{ρ:Qak}{O:Qac}{i j:Int} (ha:a ρ O = .ok (.int i) O) (hb:b ρ O = .ok (.int j) O):Qav (Qaf gEq a b) ρ O = .ok (decide (i=j)) O:=QeB (QaM ha hb rfl)
theorem QwS {α:Type} (l:List α) (a b:Nat):Qc3 l (some (a:Int)) (some (b:Int))=(l.drop a).take (b - a):=by
 unfold Qc3;rw [HT.sIx_nat,HT.sIx_nat]
 by_cases h:a≤l.length
 ·rw [Nat.min_eq_left h]
  by_cases hb:b≤l.length
  ·rw [Nat.min_eq_left hb]
  ·rw [Nat.min_eq_right (by omega),List.take_of_length_le (by rw [List.length_drop]; omega),List.take_of_length_le (by rw [List.length_drop]; omega)]
 ·rw [Nat.min_eq_right (show l.length≤a by omega),List.drop_eq_nil_of_le (show l.length≤l.length by omega),List.drop_eq_nil_of_le (show l.length≤a by omega)];simp
@[simp] theorem Qz8 {a:Nat}:Qc3 [a] none (some 2) = [a]:=rfl
@[simp] theorem Qy9 {i:Int}:QbE (.int i) (.int 48271)=some (.int (i * 48271)):=Qf4 (.inr ⟨by decide,by decide⟩)
@[simp] theorem Qzf {i:Int}:QbE (.int i) (.int 7919)=some (.int (i * 7919)):=Qf4 (.inr ⟨by decide,by decide⟩)
@[simp] theorem Qux {i:Int}:QbE (.int 7) (.int i)=some (.int (7 * i)):=Qf4 (.inl ⟨by decide,by decide⟩)
theorem Qtz {l:List Nat}{n:Int} (h:-1000000 < n∧n < 1000000∧l.length * n.toNat≤16777216):QbE (.str l) (.int n)=some (.str (List.replicate n.toNat l).flatten):=by
 show (if -1000000 < n∧n < 1000000∧l.length * n.toNat≤16777216 then _ else _)=_;rw [if_pos h]
@[simp] theorem Qz5 {a b c d:D}:gIx (.tup [a,b,c,d]) (.int 0)=some a:=rfl
theorem Qlz (n k:Int) (h0:0≤k) (h1:k≤1000000) (O:Qac):Qa3 [.int n,.int k] O = .ok (.int (mix n k)) O:=Qv7 n k h0 h1 O
theorem QjN (ns:List Int) (k:Int) (h0:0≤k) (h1:k≤1000) (O:Qac):∃v,Qbk [.lst (ns.map D.int),.int k] O = .ok (.int v) O:=by
 by_cases hk:k < ns.length
 ·obtain ⟨x,hx,ex⟩:=Qio (xs:=ns.map D.int) h0 (by simpa using hk);obtain ⟨n,_,rfl⟩:=zP.mp ex;exact ⟨n,by simp [Qbk,Qd3,hk,QiK,hx]⟩
 ·have hkk:=Qf4 (i:=k) (j:=k) (.inl ⟨by omega,by omega⟩)
  by_cases hn:0 < ns.length
  ·have hn':(0:Int) < ns.length:=by omega
   obtain ⟨x,hx,ex⟩:=Qio (xs:=ns.map D.int) (i:=k % (ns.length:Int)) (zW _ (by omega)) (by simpa using jc k hn');obtain ⟨n,_,rfl⟩:=zP.mp ex;exact ⟨(k * k * 7919+104729+n % 1000003 * 48271) * 48271 % 2147483647,by simp [Qbk,Qd3,hk,hkk,QiK,hx,hn]⟩
  ·have:ns = []:=List.eq_nil_of_length_eq_zero (by omega)
   subst this;exact ⟨(k * k * 7919+104729) * 48271 % 2147483647,by simp [Qbk,Qd3,hkk]; omega⟩
theorem Qnn {lo:Int}{n i:Nat}{d:D} (h:(QaY lo n)[i]? = some d):i < n∧d = .int (lo+i):=by
 unfold QaY at h;rw [zx] at h
 cases q:(List.range n)[i]? with
 | none=>rw [q] at h; cases h
 | some c =>
  rw [q] at h;obtain ⟨a,b⟩:=zk.mp q;simp at a b;simp at h;exact ⟨a,by rw [←h,b]⟩
theorem Qrn {m:Int} (h0:0≤m) (h1:m < 2147483629):QbE (.int m) (.int m)=some (.int (m * m)):=Qf4 (.inl ⟨by omega,by omega⟩)
theorem Qrm (n:Int) (O:Qac):∃xs:List Int,xs.length=7∧QcD [.int n,.int 7] O = .ok (.lst (xs.map D.int)) O:=by
 obtain ⟨ρ',O',e,rfl,m,r,ys,o5,rfl,hl⟩:=Qda (g:=mgN 5)
  (b:=QaX (Qav (Qaf gGt (Qab 0) (Qaf Qb2 (mC (.int 10)) (mC (.int 18))))) (Qah (Qcj 4 (Qaf QaU (Qab 3) (Qaf Qb2 (mC (.int 10)) (mC (.int 9)))))
  (Qan 3 (Qaf Qc4 (Qab 3) (Qaf Qb2 (mC (.int 10)) (mC (.int 9)))))) (Qah (Qan 2 (Qaf QaU (Qaf QaP (Qaf QbE (Qab 2) (mC (.int 48271))) (mC (.int 104729))) (mC (.int 2147483629))))
  (Qcj 4 (Qaf Qc4 (Qaf QaU (Qaf QbE (Qab 2) (Qab 2)) (mC (.int 998244353))) (mC (.int 11))))))
  (fun i ρ O'=>O'=O∧∃m r ys o5,ρ = [some (.int n),some (.int 7),some (.int m),some (.int r),some (.lst (ys.map D.int)),o5]∧ys.length=i) (QaY 0 7) 0
  [some (.int n),some (.int 7),some (.int ((n % 2147483647+7919) * 48271+104729)),some (.int n),some (.lst []),none] O ⟨rfl,_,_,[],_,rfl,rfl⟩ (by
   rintro i d ρ O' hi ⟨rfl,m,r,ys,o5,rfl,hl⟩;have hi':=(Qnn hi).1;refine ⟨_,rfl,?_⟩
   have hz:(ys.map D.int).length < 1000000:=by rw [zh]; omega
   by_cases hn:n > 1000000000000000000
   ·refine ⟨_,_,.inl ?_,rfl,m,r / 1000000000,ys ++ [r % 1000000000],some d,rfl,by simp [hl]⟩;simp [hn];rw [QjL (ds:=ys.map D.int) rfl hz];simp
   ·have h0:0≤(m * 48271+104729) % 2147483629:=zW _ (by decide);have h1:=jc (m * 48271+104729) (show (0:Int) < 2147483629 by decide);refine ⟨_,_,.inl ?_,rfl,(m * 48271+104729) % 2147483629,r,ys ++ [(m * 48271+104729) % 2147483629 * ((m * 48271+104729) % 2147483629) % 998244353 / 11],some d,rfl,by simp [hl]⟩;simp [hn,Qrn h0 h1];rw [QjL (ds:=ys.map D.int) rfl hz]
    simp)
 refine ⟨ys,by simpa [QaY] using hl,?_⟩;simp [QcD,Qf1,e]
theorem Qyq {l:List Nat}{v:Int} (hl:l.length≤1000000) (hn:0 < l.length):∃c,c∈l∧gIx (.str l) (.int (v % (l.length:Int)))=some (.str [c]):=by
 obtain ⟨c,h1,h2⟩:=Qio (xs:=l) (i:=v % (l.length:Int)) (zW _ (by omega)) (jc _ (by omega));exact ⟨c,h2,by rw [Qo7,if_pos hl,h1]; rfl⟩
theorem ixS {l:List Nat}{v n:Int} (hl:l.length≤1000000) (h:(l.length:Int)=n) (hn:0 < n):∃c,c∈l∧gIx (.str l) (.int (v % n))=some (.str [c]):=by
 obtain ⟨c,h1,h2⟩:=Qio (xs:=l) (i:=v % n) (zW _ (by omega)) (by rw [h]; exact jc _ hn);exact ⟨c,h2,by rw [Qo7,if_pos hl,h1]; rfl⟩
theorem ixL {l:List D}{v n:Int} (h:(l.length:Int)=n) (hn:0 < n):∃c,c∈l∧gIx (.lst l) (.int (v % n))=some c:=by
 obtain ⟨c,h1,h2⟩:=Qio (xs:=l) (i:=v % n) (zW _ (by omega)) (by rw [h]; exact jc _ hn);exact ⟨c,h2,h1⟩
def Qa8:List Nat:=[97,98,99,100,101,102,103,104,105,106,107,108,109,110,111,112,113,114,115,116,117,118,119,120,121,122]
def Qby:List Nat:=[65,66,67,68,69,70,71,72,73,74,75,76,77,78,79,80,81,82,83,84,85,86,87,88,89,90]
def others:List Nat:=[33,34,35,36,38,39,40,41,42,43,44,45,46,47,48,49,50,51,52,53,54,55,56,57,58,59,60,61,62,63,64,91,92,93,94,95,96,123,124,125]
structure Sgn (s:List Nat):Prop where
 pos:0 < s.length
 le:s.length≤100
 ok:∀c∈s,32≤c∧c≤125
theorem QhX:Sgn Qa8:=⟨by decide,by decide,by decide⟩
theorem QpA:Sgn Qby:=⟨by decide,by decide,by decide⟩
theorem QqE:Sgn others:=⟨by decide,by decide,by decide⟩
theorem Qsy:Sgn (Qa8++Qby):=⟨by decide,by decide,by decide⟩
theorem Qk1:Sgn [32]:=⟨by decide,by decide,by decide⟩
def Qd5 (s:List Nat) (v:Int):Nat:=(s[(v % (s.length:Int)).toNat]?).getD 0
theorem Qmj {s:List Nat} (h:Sgn s) (v:Int):Qd5 s v∈s∧gIx (.str s) (.int (v % (s.length:Int)))=some (.str [Qd5 s v]):=by
 obtain ⟨c,h1,h2⟩:=Qyq (l:=s) (v:=v) (by have:=h.le; omega) h.pos;have h0:0≤v % (s.length:Int):=zW _ (by have:=h.pos; omega);obtain ⟨j,hj⟩:=Int.eq_ofNat_of_zero_le h0
 have e:gIx (.str s) (.int (v % (s.length:Int)))=(s[j]?).map (fun c=>D.str [c]):=by
  rw [Qo7,if_pos (by have:=h.le; omega),hj,QeW]
 rw [h2] at e;unfold Qd5;rw [hj,Int.toNat_natCast]
 cases q:s[j]? with
 | none=>rw [q] at e; cases e
 | some x =>
  rw [q] at e;cases e;rw [←hj];exact ⟨h1,h2⟩
theorem QlF (w:Nat):((List.range w).map fun _=>1).sum=w:=by rw [List.map_const',List.sum_replicate_nat,List.length_range,Nat.mul_one]
def Qom:MS:=(Qah (Qan 7 (Qlr (Qcb (Qck (Qaa (Qab 5) Qae)) 1 [0,6] (mgN 0) QdQ (Qaf gIx (Qab 2) (Qaf QaU (Qaf QaP (Qaf gIx (Qab 1) (mC (.int 2))) (Qaf QbE (mC (.int 7)) (Qab 0))) (Qaz Qbn (Qaa (Qab 2) Qae)))))))
  (QaB (Qaf QaP (Qab 7) (Qaf QbE (mC (.str [32])) (Qaf Qc4 (Qaf QaU (Qaf gIx (Qab 0) (mC (.int 3))) (mC (.int 5))) (mC (.int 2)))))))
theorem QwY (X:D) (hX:∀O,QaI O X=X) {x0 x1 x2 x3:Int} (i0:gIx X (.int 0)=some (.int x0)) (i1:gIx X (.int 1)=some (.int x1)) (i2:gIx X (.int 2)=some (.int x2)) (i3:gIx X (.int 3)=some (.int x3)) (O:Qac):∃t:List Nat,t.length≤60∧(∀c∈t,32≤c∧c≤125)∧QdW [X] O = .ok (.str t) O:=by
 obtain ⟨m,hm,em⟩:∃m:Int,(1≤m∧m≤40)∧gIx (.lst [.int 4,.int 6,.int 9,.int 40,.int 4,.int 3,.int 1,.int 2]) (.int (x0 % 8))=some (.int m):=by
  obtain ⟨c,hc,ec⟩:=ixL (l:=[.int 4,.int 6,.int 9,.int 40,.int 4,.int 3,.int 1,.int 2]) (v:=x0) (n:=8) rfl (by decide);simp only [zd,List.not_mem_nil,or_false] at hc
  rcases hc with rfl | rfl | rfl | rfl | rfl | rfl | rfl | rfl
  all_goals exact ⟨_,by decide,ec⟩
 obtain ⟨s,hs,es⟩:∃s:List Nat,Sgn s∧gIx (.lst [.str Qa8,.str Qa8,.str (Qa8++Qby),.str Qa8,.str Qby,.str [32],.str [32],.str others]) (.int (x0 % 8))=some (.str s):=by
  obtain ⟨c,hc,ec⟩:=ixL (l:=[.str Qa8,.str Qa8,.str (Qa8++Qby),.str Qa8,.str Qby,.str [32],.str [32],.str others]) (v:=x0) (n:=8) rfl (by decide);simp only [zd,List.not_mem_nil,or_false] at hc
  rcases hc with rfl | rfl | rfl | rfl | rfl | rfl | rfl | rfl
  ·exact ⟨_,QhX,ec⟩
  ·exact ⟨_,QhX,ec⟩
  ·exact ⟨_,Qsy,ec⟩
  ·exact ⟨_,QhX,ec⟩
  ·exact ⟨_,QpA,ec⟩
  ·exact ⟨_,Qk1,ec⟩
  ·exact ⟨_,Qk1,ec⟩
  ·exact ⟨_,QqE,ec⟩
 have hm0:(0:Int) < m:=by omega
 have w0:=zW x1 (show m≠0 by omega);have w1:=jc x1 hm0;obtain ⟨w,hw⟩:=Int.eq_ofNat_of_zero_le (show 0≤1+x1 % m by omega)
 have hw40:w≤40:=by omega
 have z1:Qa8.length+Qby.length≤1000000:=by decide
 have pre:QdW [X] O=QaZ (Qom [some X,some (.str Qa8),some (.str Qby),some (.str others),some (.int (x0 % 8)),some (.int (w:Int)),some (.str s),none] O):=by
  have s4:=QaW (i:=4) (QfL (b:=mC (.int 8)) (QaM (a:=Qab 0) (b:=mC (.int 0)) (ρ:=[some X,some (.str Qa8),some (.str Qby),some (.str others),none,none,none,none]) (O:=O) (x:=X) rfl rfl (by rw [hX]; exact i0)) rfl (by decide));have s5:=QaW (i:=5) (Qlv (a:=mC (.int 1)) rfl (QfL (QaM (a:=Qab 0) (b:=mC (.int 1)) (ρ:=[some X,some (.str Qa8),some (.str Qby),some (.str others),some (.int (x0 % 8)),none,none,none]) (O:=O) (x:=X) rfl rfl (by rw [hX]; exact i1)) (QaM (a:=Qbq (Qaa (mC (.int 4)) (Qaa (mC (.int 6)) (Qaa (mC (.int 9)) (Qaa (mC (.int 40)) (Qaa (mC (.int 4)) (Qaa (mC (.int 3)) (Qaa (mC (.int 1)) (Qaa (mC (.int 2)) Qae))))))))) (b:=Qab 4) (y:=.int (x0 % 8)) (Qjn rfl (by decide)) rfl em) hm0))
  rw [hw] at s5;have s6:=QaW (i:=6) (QaM (g:=gIx) (a:=Qbq (Qaa (Qab 1) (Qaa (Qab 1) (Qaa (Qaf QaP (Qab 1) (Qab 2)) (Qaa (Qab 1) (Qaa (Qab 2) (Qaa (mC (.str [32])) (Qaa (mC (.str [32])) (Qaa (Qab 3) Qae))))))))) (b:=Qab 4) (ρ:=[some X,some (.str Qa8),some (.str Qby),some (.str others),some (.int (x0 % 8)),some (.int (w:Int)),none,none]) (O:=O) (y:=.int (x0 % 8)) (Qjn (xs:=[.str Qa8,.str Qa8,.str (Qa8++Qby),.str Qa8,.str Qby,.str [32],.str [32],.str others]) (maS rfl (maS rfl (maS (QaM (x:=.str Qa8) (y:=.str Qby) rfl rfl (by rw [Qcq,Qcq,Qqt,if_pos z1])) (maS rfl (maS rfl (maS rfl (maS rfl (ma1 rfl)))))))) (show (8:Nat)≤1000000 by decide)) rfl es)
  show QaZ (Qah (Qan 1 (mC (.str Qa8))) (Qah (Qan 2 (mC (.str Qby))) (Qah (Qan 3 (mC (.str others))) (Qah _ (Qah _ (Qah _ Qom))))) [some X,none,none,none,none,none,none,none] O)=_;rw [QaN,show Qan 1 (mC (.str Qa8)) [some X,none,none,none,none,none,none,none] O = .nx [some X,some (.str Qa8),none,none,none,none,none,none] O from rfl,QaR,QaN,show Qan 2 (mC (.str Qby)) [some X,some (.str Qa8),none,none,none,none,none,none] O = .nx [some X,some (.str Qa8),some (.str Qby),none,none,none,none,none] O from rfl,QaR,QaN,show Qan 3 (mC (.str others)) [some X,some (.str Qa8),some (.str Qby),none,none,none,none,none] O = .nx [some X,some (.str Qa8),some (.str Qby),some (.str others),none,none,none,none] O from rfl,QaR,QaN,s4,QaR,QaN]
  show QaZ (Qe8 (Qan 5 _ [some X,some (.str Qa8),some (.str Qby),some (.str others),some (.int (x0 % 8)),none,none,none] O) _)=_;rw [s5,QaR,QaN];show QaZ (Qe8 (Qan 6 _ [some X,some (.str Qa8),some (.str Qby),some (.str others),some (.int (x0 % 8)),some (.int (w:Int)),none,none] O) _)=_;rw [s6,QaR];rfl
 have ec:QbK (mgN 0) QdQ (Qaf gIx (Qab 2) (Qaf QaU (Qaf QaP (Qaf gIx (Qab 1) (mC (.int 2))) (Qaf QbE (mC (.int 7)) (Qab 0))) (Qaz Qbn (Qaa (Qab 2) Qae)))) (QaY 0 w) [none,some X,some (.str s)] O [] = .ok ((List.range w).map fun (k:Nat)=>.str [Qd5 s (x2+7 * (0+(k:Int)))]) O:=by
  unfold QaY
  rw [Qdm (fun ρ=>∃a,ρ = [a,some X,some (.str s)]) (fun (k:Nat)=>D.int (0+(k:Int))) (fun (k:Nat)=>D.str [Qd5 s (x2+7 * (0+(k:Int)))]) (List.range w) _ O [] ⟨_,rfl⟩ (by
   rintro k hk ρ ⟨a,rfl⟩;refine ⟨_,rfl,⟨_,rfl⟩,rfl,?_⟩;have hp:=(Qmj hs (x2+7 * (0+(k:Int)))).2
   have hl:s.length≤1000000:=by have:=hs.le; omega
   have hl':(0:Int) < s.length:=by have:=hs.pos; omega
   simp only [Qcz,Qcc,jd,zI,zM,m_c,Qar,hX,QaO,Qcq,i2,Qbm,Qux,Qel,Qdo,QbN,Qca,zc,zQ,Qvd,if_pos hl,QgI,if_pos hl',hp])]
  simp
 have e2:=QkR (f:=fun k:Nat=>[Qd5 s (x2+7 * (0+(k:Int)))]) (List.range w)
 have z0:(QaY 0 w).length≤1000000:=by rw [QfB]; omega
 have z3:((((List.range w).map fun k:Nat=>[Qd5 s (x2+7 * (0+(k:Int)))]).map List.length).sum)≤1000000:=by
  rw [zR]
  have:(List.length ∘ fun k:Nat=>[Qd5 s (x2+7 * (0+(k:Int)))])=fun _=>1:=rfl
  rw [this,QlF];omega
 have y0:=zW x3 (show (5:Int)≠0 by decide);have y1:=jc x3 (show (0:Int) < 5 by decide)
 have y2:0≤x3 % 5 / 2:=by omega
 have y3:x3 % 5 / 2≤2:=by omega
 have gm:=Qtz (l:=[32]) (n:=x3 % 5 / 2) ⟨by omega,by omega,by simp; omega⟩
 have tl:(((List.range w).map fun k:Nat=>[Qd5 s (x2+7 * (0+(k:Int)))]).flatten).length=w:=by
  rw [List.length_flatten,zR]
  have:(List.length ∘ fun k:Nat=>[Qd5 s (x2+7 * (0+(k:Int)))])=fun _=>1:=rfl
  rw [this,QlF]
 have rl:((List.replicate (x3 % 5 / 2).toNat [32]).flatten).length≤2:=by
  simp
  omega
 refine ⟨((List.range w).map fun k:Nat=>[Qd5 s (x2+7 * (0+(k:Int)))]).flatten++(List.replicate (x3 % 5 / 2).toNat [32]).flatten,by rw [zA,tl]; omega,fun c hc=>?_,?_⟩
 ·rcases zD.mp hc with hc | hc
  ·obtain ⟨l,hl,hcl⟩:=List.mem_flatten.mp hc;obtain ⟨k,_,rfl⟩:=zP.mp hl;rw [zr.mp hcl];exact hs.ok _ (Qmj hs _).1
  ·obtain ⟨l,hl,hcl⟩:=List.mem_flatten.mp hc;rw [(List.mem_replicate.mp hl).2] at hcl;rw [zr.mp hcl];decide
 ·rw [pre]
  have hr:(w:Int)≤1000000000∧-1000000000≤(w:Int):=by omega
  have ec':QbK (mgN 0) QdQ (Qaf gIx (Qab 2) (Qaf QaU (Qaf QaP (Qaf gIx (Qab 1) (mC (.int 2))) (Qaf QbE (mC (.int 7)) (Qab 0))) (Qaz Qbn (Qaa (Qab 2) Qae)))) (QaY 0 w) (QgY 1 [0,6] [some X,some (.str Qa8),some (.str Qby),some (.str others),some (.int (x0 % 8)),some (.int (w:Int)),some (.str s),none]) O []=_:=ec;unfold Qom;simp only [QaN,Qdf,QvP,Qmz,QqR,QbN,Qca,Qcc,zI,zM,Qar,if_pos hr,Int.toNat_natCast,if_pos z0,ec',hX,Qbz,Qxp,e2,QrJ,if_pos z3,QcK,QaR,jd,jh,QcU,Qcz,m_c,Qcq,QaO,i3,Qbm,QgI,Qof];simp only [show (0:Int) < 5 from by decide,if_true,Qbm,Qar,QaO,Qof,show (0:Int) < 2 from by decide,show (2:Int) < 1073741824 from by decide,and_self,gm,Qcq,Qqt]
  rw [if_pos (by rw [tl]; omega)];rfl
abbrev LT:=Nat×Nat×Nat×Int
def dL (x:LT):D:=.tup [.str [x.1],.str [x.2.1],.str [x.2.2.1],.int x.2.2.2]
def OkL (x:LT):Prop:=(32≤x.1∧x.1≤125)∧x.2.1≤125∧x.2.2.1≤125
theorem signs_get {t:List Nat}{d:D}{i:Nat} (h:(Qcs t)[i]? = some d):∃c,c∈t∧d = .str [c]:=by
 unfold Qcs at h;rw [zx] at h
 cases q:t[i]? with
 | none=>rw [q] at h; cases h
 | some c =>
  rw [q] at h;simp at h;exact ⟨c,zO q,h.symm⟩
def Qg0:List Nat:=[97,98,99,100,101,102,103,104,46]
def Qmi:MS:=Qah (QaX (Qav (Qaf gLt (Qaz Qbn (Qaa (Qab 3) Qae)) (Qab 2))) (Qcj 3 (QbQ (Qaa (Qab 7) (Qaa (Qaf gIx (mC (.str Qg0)) (Qaf QaU (Qaf gIx (Qab 6) (mC (.int 4))) (mC (.int 9)))) (Qaa (Qaf gIx (mC (.str Qg0)) (Qaf QaU (Qaf gIx (Qab 6) (mC (.int 5))) (mC (.int 9)))) (Qaa (Qab 4) Qae)))))) QaH)
  (Qan 4 (Qaf QaP (Qaf QaP (Qab 4) (mC (.int 1))) (Qaf QaU (Qaf gIx (Qab 6) (mC (.int 6))) (mC (.int 3)))))
def QoS:MS:=Qah (Qan 6 (Qas QcD (Qaa (Qas Qbk (Qaa (Qab 0) (Qaa (Qaf QaP (Qab 1) (Qab 5)) Qae))) (Qaa (mC (.int 7)) Qae))))
  (QbI (QbZ (Qas QdW (Qaa (Qab 6) Qae))) (mgN 7) Qmi)
theorem Qtg (A X T:D) (a5:Option D) (hX:∀O,QaI O X=X) {x4 x5 x6:Int} (i4:gIx X (.int 4)=some (.int x4)) (i5:gIx X (.int 5)=some (.int x5)) (i6:gIx X (.int 6)=some (.int x6)) {c4 c5:Nat} (e4:gIx (.str Qg0) (.int (x4 % 9))=some (.str [c4])) (e5:gIx (.str Qg0) (.int (x5 % 9))=some (.str [c5])) (h4:c4≤125) (h5:c5≤125)
  (most:Nat) (h2:most≤1000) (ls:List LT) (hl:ls.length≤most) (hok:∀x∈ls,OkL x) (p:Int) (c:Nat) (oc:32≤c∧c≤125) (O:Qac) :
  ∃ls2:List LT,ls2.length≤most∧(∀x∈ls2,OkL x)∧Qmi [some A,some T,some (.int (most:Int)),some (.lst (ls.map dL)),some (.int p),a5,some X,some (.str [c])] O = .nx [some A,some T,some (.int (most:Int)),some (.lst (ls2.map dL)),some (.int (p+1+x6 % 3)),a5,some X,some (.str [c])] O:=by
 have hlen:=QfK (m:=Qab 3) (ρ:=[some A,some T,some (.int (most:Int)),some (.lst (ls.map dL)),some (.int p),a5,some X,some (.str [c])]) (O:=O) (l:=ls.map dL) rfl;rw [zh] at hlen;have t:=QsQ (b:=Qab 2) (j:=(most:Int)) hlen rfl
 have s4:∀L:D,Qan 4 (Qaf QaP (Qaf QaP (Qab 4) (mC (.int 1))) (Qaf QaU (Qaf gIx (Qab 6) (mC (.int 6))) (mC (.int 3)))) [some A,some T,some (.int (most:Int)),some L,some (.int p),a5,some X,some (.str [c])] O = .nx [some A,some T,some (.int (most:Int)),some L,some (.int (p+1+x6 % 3)),a5,some X,some (.str [c])] O:=fun L =>
  QaW (Qlv (Qlv (i:=p) rfl rfl) (QfL (QaM (x:=X) rfl rfl (by rw [hX]; exact i6)) rfl (by decide)))
 by_cases hm:ls.length < most
 ·have m4:=QaM (g:=gIx) (a:=mC (.str Qg0)) rfl (QfL (b:=mC (.int 9)) (QaM (a:=Qab 6) (b:=mC (.int 4)) (ρ:=[some A,some T,some (.int (most:Int)),some (.lst (ls.map dL)),some (.int p),a5,some X,some (.str [c])]) (O:=O) (x:=X) rfl rfl (by rw [hX]; exact i4)) rfl (by decide)) e4;have m5:=QaM (g:=gIx) (a:=mC (.str Qg0)) rfl (QfL (b:=mC (.int 9)) (QaM (a:=Qab 6) (b:=mC (.int 5)) (ρ:=[some A,some T,some (.int (most:Int)),some (.lst (ls.map dL)),some (.int p),a5,some X,some (.str [c])]) (O:=O) (x:=X) rfl rfl (by rw [hX]; exact i5)) rfl (by decide)) e5;have s3:=Qmd (i:=3) (ds:=ls.map dL) (Qmm (maS (a:=Qab 7) (x:=.str [c]) rfl (maS m4 (maS m5 (ma1 (a:=Qab 4) (x:=.int p) rfl)))) (show (4:Nat)≤1000000 by decide)) rfl (by rw [zh]; omega)
  refine ⟨ls ++ [(c,c4,c5,p)],by rw [zA]; exact hm,fun x hx=>?_,?_⟩
  ·rcases zD.mp hx with hx | hx
   ·exact hok x hx
   ·rw [zr.mp hx];exact ⟨oc,h4,h5⟩
  ·unfold Qmi;rw [QaN,Qc9 (by rw [t,zo (by omega)]),s3,QaR,zL];exact s4 _
 ·refine ⟨ls,hl,hok,?_⟩;unfold Qmi;rw [QaN,if_no (by rw [t,zj (by omega)]),QeT,QaR];exact s4 _
theorem ix7 {xs:List Int} (h:xs.length=7) (k:Nat) (hk:k < 7):∃x:Int,gIx (.lst (xs.map D.int)) (.int (k:Int))=some (.int x):=by
 refine ⟨xs[k],?_⟩;rw [QiK,QeW,zx,zq (by omega)];rfl
theorem Qn0:∀c∈Qg0,c≤125:=by decide
theorem Qun (ns:List Int) (at_:Nat) (h1:at_≤100) (most:Nat) (h2:most≤1000) (i:Nat) (hi:i < 40) (ls:List LT) (hl:ls.length≤most) (hok:∀x∈ls,OkL x) (p:Int) (a6 a7:Option D) (O:Qac) :
  ∃(ls2:List LT) (p2:Int) (b6 b7:Option D),ls2.length≤most∧(∀x∈ls2,OkL x)∧QoS [some (.lst (ns.map D.int)),some (.int (at_:Int)),some (.int (most:Int)),some (.lst (ls.map dL)),some (.int p),some (.int (0+(i:Int))),a6,a7] O = .nx [some (.lst (ns.map D.int)),some (.int (at_:Int)),some (.int (most:Int)),some (.lst (ls2.map dL)),some (.int p2),some (.int (0+(i:Int))),b6,b7] O:=by
 obtain ⟨v,ev⟩:=QjN ns ((at_:Int)+(0+(i:Int))) (by omega) (by omega) O;obtain ⟨xs,hx,ex⟩:=Qrm v O;obtain ⟨x0,i0⟩:=ix7 hx 0 (by decide);obtain ⟨x1,i1⟩:=ix7 hx 1 (by decide);obtain ⟨x2,i2⟩:=ix7 hx 2 (by decide);obtain ⟨x3,i3⟩:=ix7 hx 3 (by decide);obtain ⟨x4,i4⟩:=ix7 hx 4 (by decide);obtain ⟨x5,i5⟩:=ix7 hx 5 (by decide);obtain ⟨x6,i6⟩:=ix7 hx 6 (by decide)
 have hX:∀O,QaI O (.lst (xs.map D.int)) = .lst (xs.map D.int):=fun _=>rfl
 generalize (D.lst (xs.map D.int))=X at ex i0 i1 i2 i3 i4 i5 i6 hX
 obtain ⟨t,ht,htok,et⟩:=QwY X hX i0 i1 i2 i3 O;obtain ⟨c4,hc4,e4⟩:=ixS (l:=Qg0) (v:=x4) (n:=9) (by decide) rfl (by decide);obtain ⟨c5,hc5,e5⟩:=ixS (l:=Qg0) (v:=x5) (n:=9) (by decide) rfl (by decide)
 have asc:ascii t=true:=by
  unfold ascii;rw [ju];intro c hc
  have:=htok c hc
  exact zo (by omega)
 obtain ⟨ρ2,O2,e2,hO2,ls2,p2,o7,rfl,hl2,hok2⟩:=Qda (g:=mgN 7) (b:=Qmi)
  (fun _ ρ O2=>O2=O∧∃(ls:List LT) (p:Int) (o7:Option D),ρ = [some (.lst (ns.map D.int)),some (.int (at_:Int)),some (.int (most:Int)),some (.lst (ls.map dL)),some (.int p),some (.int (0+(i:Int))),some X,o7]∧ls.length≤most∧∀x∈ls,OkL x) (Qcs t) 0
  [some (.lst (ns.map D.int)),some (.int (at_:Int)),some (.int (most:Int)),some (.lst (ls.map dL)),some (.int p),some (.int (0+(i:Int))),some X,a7] O ⟨rfl,ls,p,a7,rfl,hl,hok⟩ (by
   rintro j d ρ O3 hj ⟨hO3,ls,p,o7,rfl,hl,hok⟩;obtain ⟨c,hc,rfl⟩:=signs_get hj;obtain ⟨ls2,g1,g2,g3⟩:=Qtg (.lst (ns.map D.int)) X (.int (at_:Int)) (some (.int (0+(i:Int)))) hX i4 i5 i6 e4 e5 (Qn0 _ hc4) (Qn0 _ hc5) most h2 ls hl hok p c (htok c hc) O3
   exact ⟨_,rfl,_,_,.inl g3,hO3,ls2,p+1+x6 % 3,some (.str [c]),rfl,g1,g2⟩)
 rw [hO2] at e2;refine ⟨ls2,p2,some X,o7,hl2,hok2,?_⟩
 have c1:Qas QcD (Qaa (Qas Qbk (Qaa (Qab 0) (Qaa (Qaf QaP (Qab 1) (Qab 5)) Qae))) (Qaa (mC (.int 7)) Qae)) [some (.lst (ns.map D.int)),some (.int (at_:Int)),some (.int (most:Int)),some (.lst (ls.map dL)),some (.int p),some (.int (0+(i:Int))),a6,a7] O = .ok X O:=by
  rw [QaL (maS (x:=.int v) (by rw [QaL (maS (x:=.lst (ns.map D.int)) rfl (ma1 (Qlv (i:=(at_:Int)) rfl rfl))),ev]) (ma1 (x:=.int 7) rfl)),ex]
 have c2:QbZ (Qas QdW (Qaa (Qab 6) Qae)) [some (.lst (ns.map D.int)),some (.int (at_:Int)),some (.int (most:Int)),some (.lst (ls.map dL)),some (.int p),some (.int (0+(i:Int))),some X,a7] O = .ok (Qcs t) O:=by
  rw [QlV,QaL (ma1 (x:=X) rfl),et,Qar,Qq5 asc,QiY]
 unfold QoS;rw [QaN,QaW c1,QaR];show QbI _ _ _ [some (.lst (ns.map D.int)),some (.int (at_:Int)),some (.int (most:Int)),some (.lst (ls.map dL)),some (.int p),some (.int (0+(i:Int))),some X,a7] O=_;rw [Qf7,c2,QeN,e2]
theorem few (a b:Int):∃n:Nat,(if (if a - b < 40 then a - b else 40) > 1 then (if a - b < 40 then a - b else 40) else 1)=(n:Int)∧n≤40:=by
 refine ⟨(if (if a - b < 40 then a - b else 40) > 1 then (if a - b < 40 then a - b else 40) else 1).toNat,?_,?_⟩ <;> (split <;> split <;> omega)
theorem Qqc (ns:List Int) (at_ most:Nat) (h1:at_≤100) (h2:most≤1000) (hns:ns.length≤63) (O:Qac):∃ls:List LT,ls.length≤most∧(∀x∈ls,OkL x)∧Qcn [.lst (ns.map D.int),.int (at_:Int),.int (most:Int)] O = .ok (.lst (ls.map dL)) O:=by
 obtain ⟨v0,e0⟩:=QjN ns (at_:Int) (by omega) (by omega) O;have m0:=Qlz v0 0 (by decide) (by decide) O;obtain ⟨n,hn,hn40⟩:=few (ns.length:Int) (at_:Int);obtain ⟨ρ',O',e,hO,ls,p,o5,o6,o7,rfl,hl,hok⟩:=Qda (g:=mgN 5) (b:=QoS)
  (fun i ρ O'=>O'=O∧∃(ls:List LT) (p:Int) (o5 o6 o7:Option D),ρ = [some (.lst (ns.map D.int)),some (.int (at_:Int)),some (.int (most:Int)),some (.lst (ls.map dL)),some (.int p),o5,o6,o7]∧ls.length≤most∧∀x∈ls,OkL x) (QaY 0 n) 0
  [some (.lst (ns.map D.int)),some (.int (at_:Int)),some (.int (most:Int)),some (.lst []),some (.int (mix v0 0 % 1000)),none,none,none] O ⟨rfl,[],_,_,_,_,rfl,Nat.zero_le _,fun x hx=>(nomatch hx)⟩ (by
   rintro i d ρ O' hi ⟨hO',ls,p,o5,o6,o7,rfl,hl,hok⟩;obtain ⟨hi',rfl⟩:=Qnn hi;obtain ⟨ls2,p2,b6,b7,g1,g2,g3⟩:=Qun ns at_ h1 most h2 i (by omega) ls hl hok p o6 o7 O'
   exact ⟨_,rfl,_,_,.inl g3,hO',ls2,p2,_,b6,b7,rfl,g1,g2⟩)
 rw [hO] at e;obtain ⟨v9,e9⟩:=QjN ns 0 (by decide) (by decide) O;have m9:=Qlz v9 9 (by decide) (by decide) O
 have s4:=QaW (i:=4) (QfL (b:=mC (.int 1000)) (i:=mix v0 0) (j:=1000) (a:=Qas Qa3 (Qaa (Qas Qbk (Qaa (Qab 0) (Qaa (Qab 1) Qae))) (Qaa (mC (.int 0)) Qae))) (ρ:=[some (.lst (ns.map D.int)),some (.int (at_:Int)),some (.int (most:Int)),some (.lst []),none,none,none,none]) (O:=O) (by
  rw [QaL (maS (x:=.int v0) (by rw [QaL (maS (x:=.lst (ns.map D.int)) rfl (ma1 (x:=.int (at_:Int)) rfl)),e0]) (ma1 (x:=.int 0) rfl)),m0]) rfl (by decide))
 have hlen:=QfK (m:=Qab 0) (ρ:=[some (.lst (ns.map D.int)),some (.int (at_:Int)),some (.int (most:Int)),some (.lst []),some (.int (mix v0 0 % 1000)),none,none,none]) (O:=O) (l:=ns.map D.int) rfl;rw [zh] at hlen
 have cM:=QcS (g:=QhC) (z:=.int (n:Int)) (maS (a:=mC (.int 1)) (x:=.int 1) rfl (ma1 (QcS (g:=QhF) (z:=.int (if (ns.length:Int) - (at_:Int) < 40 then (ns.length:Int) - (at_:Int) else 40)) (maS (a:=mC (.int 40)) (x:=.int 40) rfl (ma1 (Qtc (b:=Qab 1) (j:=(at_:Int)) hlen rfl))) rfl))) (by
  rw [zc,zc,zQ,QaO,QaO,QqQ,hn])
 have c9:Qas Qa3 (Qaa (Qas Qbk (Qaa (Qab 0) (Qaa (mC (.int 0)) Qae))) (Qaa (mC (.int 9)) Qae)) [some (.lst (ns.map D.int)),some (.int (at_:Int)),some (.int (most:Int)),some (.lst (ls.map dL)),some (.int p),o5,o6,o7] O = .ok (.int (mix v9 9)) O:=by
  rw [QaL (maS (x:=.int v9) (by rw [QaL (maS (x:=.lst (ns.map D.int)) rfl (ma1 (x:=.int 0) rfl)),e9]) (ma1 (x:=.int 9) rfl)),m9]
 have t9:=Qhh (b:=mC (.int 4)) (j:=4) (QfL (b:=mC (.int 9)) (j:=9) c9 rfl (by decide)) rfl
 have pre:Qcn [.lst (ns.map D.int),.int (at_:Int),.int (most:Int)] O=QaZ (Qah (QaX (Qav (Qaf gEq (Qaf QaU (Qas Qa3 (Qaa (Qas Qbk (Qaa (Qab 0) (Qaa (mC (.int 0)) Qae))) (Qaa (mC (.int 9)) Qae))) (mC (.int 9))) (mC (.int 4)))) (Qan 3 (Qbq Qae)) QaH) (QaB (Qab 3)) [some (.lst (ns.map D.int)),some (.int (at_:Int)),some (.int (most:Int)),some (.lst (ls.map dL)),some (.int p),o5,o6,o7] O):=by
  show QaZ (Qah (Qan 3 (Qbq Qae)) (Qah _ (Qah (QbI (Qck (Qaa _ Qae)) (mgN 5) QoS) _)) [some (.lst (ns.map D.int)),some (.int (at_:Int)),some (.int (most:Int)),none,none,none,none,none] O)=_;rw [QaN,show Qan 3 (Qbq Qae) [some (.lst (ns.map D.int)),some (.int (at_:Int)),some (.int (most:Int)),none,none,none,none,none] O = .nx [some (.lst (ns.map D.int)),some (.int (at_:Int)),some (.int (most:Int)),some (.lst []),none,none,none,none] O from rfl,QaR,QaN,s4,QaR,QaN,Qf7];show QaZ (Qe8 (QrP (Qck (Qaa _ Qae) [some (.lst (ns.map D.int)),some (.int (at_:Int)),some (.int (most:Int)),some (.lst []),some (.int (mix v0 0 % 1000)),none,none,none] O) _ _ [some (.lst (ns.map D.int)),some (.int (at_:Int)),some (.int (most:Int)),some (.lst []),some (.int (mix v0 0 % 1000)),none,none,none]) _)=_
  rw [Qwl cM (by omega),QeN,e,QaR]
 by_cases h4:mix v9 9 % 9=4
 ·refine ⟨[],Nat.zero_le _,fun x hx=>(nomatch hx),?_⟩;rw [pre,QaN,Qc9 (by rw [t9,zo h4])];rfl
 ·refine ⟨ls,hl,hok,?_⟩;rw [pre,QaN,if_no (by rw [t9,zj h4]),QeT,QaR];rfl
def wid (c:Nat):Int:=if 65≤c∧c≤90 then 2 else 1
def trn (l:List LT):Nat→Nat
 | 0=>0
 | n+1=>if (l[n]?).map (fun x=>x.1)=some 32 then trn l n else n+1
theorem QmA (l:List LT):∀n,trn l n≤n
 | 0=>ze _
 | n+1=>by
  unfold trn
  split
  ·exact Nat.le_succ_of_le (QmA l n)
  ·exact ze _
def wsum (l:List LT):Int:=(l.map fun x=>wid x.1).sum
theorem QkV {α:Type} (f:α→Int):∀l:List α,Qdp (l.map fun x=>.int (f x))=some (l.map f)
 | []=>rfl
 | x::l=>by
  show (Qdp (l.map fun x=>D.int (f x))).map _=_;rw [QkV f l];rfl
theorem Qsq {α:Type} (f:α→Int) (l:List α) (h:∀x∈l,0≤f x∧f x≤1000000) (hl:l.length≤1000000):QlG [.lst (l.map fun x=>.int (f x))]=some (.int (l.map f).sum):=by
 unfold QlG;dsimp only;rw [QkV];show (if _ then _ else _)=_;rw [if_pos];rw [zm,ju];refine ⟨fun n hn=>?_,zo (by rw [zh]; exact hl)⟩;obtain ⟨x,hx,rfl⟩:=zP.mp hn
 have:=h x hx
 simp [this]
theorem QxL (c:Nat):0≤wid c∧wid c≤1000000:=by
 unfold wid
 split <;> decide
theorem QqS {x:LT} (h:OkL x):QcE (dL x)=true∧(toP (dL x)).canLay0=true∧(toP (dL x)).depth≤5:=by
 obtain ⟨⟨_,h1⟩,h2,h3⟩:=h;refine ⟨rfl,?_,?_⟩
 ·have a:=QfG (l:=[x.1]) (by simp; omega);have b:=QfG (l:=[x.2.1]) (by simp; omega);have c:=QfG (l:=[x.2.2.1]) (by simp; omega);show PyData.canLay0 (.tuple [.str (S [x.1]),.str (S [x.2.1]),.str (S [x.2.2.1]),.int x.2.2.2])=true;simp [PyData.canLay0,PyData.canLayAll0] at *
  try exact ⟨a,b,c⟩
 ·show PyData.depth (.tuple [.str (S [x.1]),.str (S [x.2.1]),.str (S [x.2.2.1]),.int x.2.2.2])≤5;simp [PyData.depth,PyData.depthAll]
theorem Qne (l:List LT) (h:∀x∈l,OkL x):okE (.lst (l.map dL))=true:=Qno (n:=5) (by decide) fun d hd=>by
 obtain ⟨x,hx,rfl⟩:=zP.mp hd;exact QqS (h x hx)
theorem QfE (c:Nat) (O:Qac):QbM [.str [c]] O = .ok (.int (wid c)) O:=by
 simp [QbM,Qhn,wid]
 by_cases h1:65≤c <;> by_cases h2:c≤90 <;> simp [h1,h2]
theorem ixs {l:List LT}{i:Nat}{x:LT} (e:l[i]? = some x):gIx (.lst (l.map dL)) (.int (i:Int))=some (dL x):=by
 rw [QiK,QeW,zx,e]; rfl
def QcH:List LT→Int→Nat
 | [],_=>0
 | x::xs,w=>if wid x.1≤w then QcH xs (w - wid x.1)+1 else 0
theorem Qkq:∀(l:List LT) (w:Int),QcH l w≤l.length
 | [],_=>ze _
 | x::xs,w=>by
  unfold QcH
  split
  ·have:=Qkq xs (w - wid x.1)
   simp only [zy];omega
  ·exact Nat.zero_le _
theorem QqD (c:Nat):1≤wid c∧wid c≤2:=by
 unfold wid
 split <;> decide
theorem Qsx {l:List LT}{w:Int} (h:l≠[]) (hw:2≤w):1≤QcH l w:=by
 cases l with
 | nil=>exact absurd rfl h
 | cons x xs =>
  have:=QqD x.1
  unfold QcH;rw [if_pos (by omega)];omega
def rch (l:List LT) (lo:Nat) (w:Int):Nat:=lo+QcH (l.drop lo) w
theorem Ql1 (l:List LT) (lo:Nat) (w:Int) (h:lo≤l.length):rch l lo w≤l.length:=by
 have:=Qkq (l.drop lo) w
 rw [List.length_drop] at this;unfold rch;omega
theorem Qq1 (l:List LT) (lo:Nat) (w:Int) (h:lo < l.length) (hw:2≤w):lo < rch l lo w:=by
 have hd:l.drop lo≠[]:=fun z=>by
  have:=congrArg List.length z
  simp at this
  omega
 have:=Qsx hd hw
 unfold rch;omega
theorem QrB {l:List LT}{i k:Nat}{w:Int} (h:QcH (l.drop i) w=k+1):∃x,l[i]? = some x∧i < l.length∧wid x.1≤w∧QcH (l.drop (i+1)) (w - wid x.1)=k:=by
 by_cases hi:i < l.length
 ·rw [List.drop_eq_getElem_cons hi] at h;unfold QcH at h;split at h
  ·rename_i hw;exact ⟨l[i],zq hi,hi,hw,by omega⟩
  ·omega
 ·rw [List.drop_eq_nil_of_le (by omega)] at h;cases h
theorem QtP {l:List LT}{i:Nat}{w:Int} (h:QcH (l.drop i) w=0):¬i < l.length∨∃x,l[i]? = some x∧i < l.length∧¬wid x.1≤w:=by
 by_cases hi:i < l.length
 ·rw [List.drop_eq_getElem_cons hi] at h;unfold QcH at h;split at h
  ·omega
  ·rename_i hw;exact .inr ⟨l[i],zq hi,hi,hw⟩
 ·exact .inl hi
theorem Qkk (l:List LT) (lo:Nat) (w:Int) (hl:l.length≤1000) (hlo:lo≤l.length) (O:Qac):QfD [.lst (l.map dL),.int (lo:Int),.int w] O = .ok (.int (rch l lo w:Nat)) O:=by
 have fl:=Qkq (l.drop lo) w;rw [List.length_drop] at fl;obtain ⟨ρ',O',e,rfl,j,c,rfl,h1,h2,h3⟩:=QkT (t:=QdJ (Qav (Qaf gLt (Qab 3) (Qaz Qbn (Qaa (Qab 0) Qae)))) (Qav (Qaf gLe (Qaf QaP (Qab 4) (Qas QbM (Qaa (Qaf gIx (Qaf gIx (Qab 0) (Qab 3)) (mC (.int 0))) Qae))) (Qab 2))))
  (b:=Qah (Qan 4 (Qaf QaP (Qab 4) (Qas QbM (Qaa (Qaf gIx (Qaf gIx (Qab 0) (Qab 3)) (mC (.int 0))) Qae)))) (Qan 3 (Qaf QaP (Qab 3) (mC (.int 1)))))
  (fun k ρ O'=>O'=O∧∃(j:Nat) (c:Int),ρ = [some (.lst (l.map dL)),some (.int (lo:Int)),some (.int w),some (.int ((lo+j:Nat):Int)),some (.int c)]∧lo+j≤l.length∧j+k=QcH (l.drop lo) w∧k=QcH (l.drop (lo+j)) (w - c)) wF (QcH (l.drop lo) w) [some (.lst (l.map dL)),some (.int (lo:Int)),some (.int w),some (.int ((lo+0:Nat):Int)),some (.int 0)] O (by unfold wF; omega) ⟨rfl,0,0,rfl,hlo,by omega,by simp⟩
  (by
   rintro k ρ O' ⟨rfl,j,c,rfl,h1,h2,h3⟩;obtain ⟨x,hx,hi,hw,hk⟩:=QrB h3.symm;have ix:=ixs hx
   have hlt:((lo+j:Nat):Int) < (l.length:Int):=by omega
   have hle:c+wid x.1≤w:=by omega
   have i0:gIx (dL x) (.int 0)=some (.str [x.1]):=rfl;have dd:QaI O' (dL x)=dL x:=rfl;refine ⟨?_,k,_,_,ze _,?_,rfl,j+1,c+wid x.1,rfl,by omega,by omega,?_⟩
   ·simp only [QeX,QcV,Qcz,Qdo,QdB,QbN,Qca,Qcc,m_c,zI,zM,Qar,Qbz,QaO,zc,zQ,Qkc,zh,Qbm,Qo6,zo hlt,Qc6,if_true,ix,dd,i0,QfE,Qel,Qs8,zo hle]
   ·simp only [QaN,Qdf,Qcz,QdB,QbN,Qca,Qcc,m_c,zI,zM,Qar,Qbz,QaO,ix,dd,i0,Qbm,QfE,Qel,QcK,QaR,jh,jd];rfl
   ·rw [←hk,show lo+(j+1)=lo+j+1 by omega,show w - (c+wid x.1)=w - c - wid x.1 by omega])
  (by
   rintro ρ O' ⟨rfl,j,c,rfl,h1,h2,h3⟩
   rcases QtP h3.symm with hi | ⟨x,hx,hi,hw⟩
   ·have hlt:¬((lo+j:Nat):Int) < (l.length:Int):=by omega
    simp only [QeX,QcV,Qcz,Qdo,QbN,Qca,Qcc,zI,zM,Qar,Qbz,QaO,zc,zQ,Qkc,zh,Qbm,Qo6,zj hlt,Qc6,Bool.false_eq_true,if_false]
   ·have ix:=ixs hx
    have hlt:((lo+j:Nat):Int) < (l.length:Int):=by omega
    have hle:¬c+wid x.1≤w:=by omega
    have i0:gIx (dL x) (.int 0)=some (.str [x.1]):=rfl;have dd:QaI O' (dL x)=dL x:=rfl
    simp only [QeX,QcV,Qcz,Qdo,QdB,QbN,Qca,Qcc,m_c,zI,zM,Qar,Qbz,QaO,zc,zQ,Qkc,zh,Qbm,Qo6,zo hlt,Qc6,if_true,ix,dd,i0,QfE,Qel,Qs8,zj hle])
 have hj:lo+j=rch l lo w:=by unfold rch; omega
 rw [hj] at e;show QaZ (QiN [some (.lst (l.map dL)),some (.int (lo:Int)),some (.int w),none,none] O')=_;unfold QiN;simp only [QaN,Qdf,m_g,Qcc,m_c,zI,zM,Qp4,QcK,QaR,jh,jd,Ql0];have e':QbW _ _ wF [some (.lst (l.map dL)),some (.int (lo:Int)),some (.int w),some (.int (lo:Int)),some (.int 0)] O'=_:=e;rw [e'];rfl
theorem Qt2 (l:List LT) (hl:l.length≤1000) (O:Qac):Qfv [.lst (l.map dL)] O = .ok (.int (wsum l)) O:=by
 have ec:=Qdm (g:=mgN 0) (t:=QdQ) (m:=Qas QbM (Qaa (Qaf gIx (Qab 0) (mC (.int 0))) Qae)) (fun ρ=>∃a,ρ = [a]) dL (fun x=>D.int (wid x.1)) l [none] O [] ⟨_,rfl⟩ (by
  rintro x hx ρ ⟨a,rfl⟩;refine ⟨_,rfl,⟨_,rfl⟩,rfl,?_⟩
  simp [dL,QfE])
 have z:(l.map dL).length≤1000000:=by rw [zh]; omega
 have gs:=Qsq (fun x:LT=>wid x.1) l (fun x _=>QxL _) (by omega);simp only [Qfv,Qg4,Qg3,zc,zQ,zy,zV,List.replicate,List.cons_append,zS,QcU,Qdo,QbN,Qca,Qmz,QlV,Qcc,zI,Qar,Qk9,QiY,if_pos z,Qxc,ec,Qbz,zT];rw [show (fun x:LT=>D.int (wid x.1))=(fun x:LT=>D.int ((fun x:LT=>wid x.1) x)) from rfl,gs];rfl
theorem QfJ (l:List LT) (m:Nat):trn l (m+1)=if (l[m]?).map (fun x=>x.1)=some 32 then trn l m else m+1:=rfl
theorem Quq {m:M (List D)}{ρ:Qak}{O O1:Qac}{i j:Int} (e:m ρ O = .ok [.int i,.int j] O1) (h:(i≤1000000000∧-1000000000≤i)∧j≤1000000000∧-1000000000≤j):QjA m ρ O = .ok (QaY i (j - i).toNat) O1:=by
 unfold QjA;rw [e];show (if _ then _ else _)=_;rw [if_pos h]
def isB (l:List LT) (d:D):Bool:=match d with
 | .int i=>decide (i=(l.length:Int)) || (decide ((l[(i - 1).toNat]?).map (fun x=>x.1)=some 32) && !decide ((l[i.toNat]?).map (fun x=>x.1)=some 32))
 | _=>false
theorem Qn5 {l:List LT}{i:Nat} (h:i+1 < l.length):∃x y,l[i]? = some x∧l[i+1]? = some y∧isB l (.int (1+(i:Int)))=(decide (x.1=32) && !decide (y.1=32)):=by
 have e1:=zq (show i < l.length by omega);have e2:=zq h;obtain ⟨x,hx⟩:∃x,l[i]=x:=⟨_,rfl⟩;obtain ⟨y,hy⟩:∃y,l[i+1]=y:=⟨_,rfl⟩;rw [hx] at e1;rw [hy] at e2;refine ⟨x,y,e1,e2,?_⟩
 have n1:((1:Int)+(i:Int) - 1).toNat=i:=by omega
 have n2:((1:Int)+(i:Int)).toNat=i+1:=by omega
 have n3:¬(1:Int)+(i:Int)=(l.length:Int):=by omega
 unfold isB;dsimp only;rw [n1,n2,e1,e2];simp [n3]
theorem QnC {l:List LT}{i:Nat} (h:i+1=l.length):isB l (.int (1+(i:Int)))=true:=by
 have n3:(1:Int)+(i:Int)=(l.length:Int):=by omega
 unfold isB;simp [n3]
theorem Qo9 (l:List LT) (i:Nat) (hi:i < l.length) (O:Qac):Qcu [.lst (l.map dL),.int (1+(i:Int))] O = .ok (.bl (isB l (.int (1+(i:Int))))) O:=by
 by_cases h:i+1=l.length
 ·have n3:(1:Int)+(i:Int)=(l.length:Int):=by omega
  rw [QnC h];simp [Qcu,Qen,n3]
 ·obtain ⟨x,y,e1,e2,e3⟩:=Qn5 (show i+1 < l.length by omega)
  have n3:¬(1:Int)+(i:Int)=(l.length:Int):=by omega
  have n1:(1:Int)+(i:Int) - 1=(i:Int):=by omega
  have n2:(1:Int)+(i:Int)=((i+1:Nat):Int):=by omega
  have i1:=ixs e1;have i2:=ixs e2;rw [e3];rw [←n2] at i2
  by_cases hx:x.1=32
  ·simp [Qcu,Qen,n3,n1,i1,i2,dL,hx]
  ·simp [Qcu,Qen,n3,n1,i1,dL,hx]
theorem Qgc (x:LT) (l:List LT):wsum (x::l)=wid x.1+wsum l:=by
 simp [wsum]
theorem Qiy:∀l:List LT,0≤wsum l
 | []=>by simp [wsum]
 | x::l=>by
  have:=Qiy l
  have:=QqD x.1
  rw [Qgc];omega
theorem Qiv (l:List LT):∀(a b:Nat),a≤b→wsum (l.take a)≤wsum (l.take b):=by
 induction l with
 | nil=>intro a b _; simp
 | cons x l ih =>
  intro a b h
  cases a with
  | zero=>exact Qiy _
  | succ a =>
   cases b with
   | zero=>omega
   | succ b =>
    rw [List.take_succ_cons,List.take_succ_cons,Qgc,Qgc]
    have:=ih a b (by omega)
    omega
theorem Qki {l:List LT}{k:Nat}{x:LT} (h:l[k]? = some x):wsum (l.take (k+1))=wsum (l.take k)+wid x.1:=by
 rw [List.take_succ,h];simp [wsum]
theorem QkB:∀(l:List LT) (w:Int) (k:Nat),0≤w→k≤QcH l w→wsum (l.take k)≤w
 | [],w,k,hw,_=>by simpa [wsum] using hw
 | x::l,w,0,hw,_=>by simpa [wsum] using hw
 | x::l,w,k+1,hw,h=>by
  unfold QcH at h;split at h
  ·rename_i hx
   have:=QkB l (w - wid x.1) k (by omega) (by omega)
   rw [List.take_succ_cons,Qgc];omega
  ·omega
def tw (l:List LT) (lo k:Nat):Int:=wsum ((l.drop lo).take (trn (l.drop lo) k))
theorem Qmw {l:List LT}{lo k:Nat}{x:LT} (h:l[lo+k]? = some x) (hx:x.1=32):tw l lo (k+1)=tw l lo k:=by
 unfold tw;rw [QfJ,if_pos (by rw [List.getElem?_drop,h]; simp [hx])]
theorem QnD {l:List LT}{lo k:Nat}{x:LT} (h:l[lo+k]? = some x) (hx:x.1≠32):tw l lo (k+1)=wsum ((l.drop lo).take (k+1)):=by
 unfold tw;rw [QfJ,if_neg (by rw [List.getElem?_drop,h]; simp [hx])]
theorem QsR (l:List LT) (lo k:Nat):tw l lo k≤wsum ((l.drop lo).take k):=Qiv _ _ _ (QmA _ _)
theorem QuD (l:List LT) (lo k:Nat):tw l lo k≤tw l lo (k+1):=by
 unfold tw;refine Qiv _ _ _ ?_;rw [QfJ]
 split
 ·exact ze _
 ·have:=QmA (l.drop lo) k
  omega
theorem Qut (l:List LT) (lo:Nat) {a b:Nat} (h:a≤b):tw l lo a≤tw l lo b:=by
 obtain ⟨c,rfl⟩:∃c,b=a+c:=⟨b - a,by omega⟩
 induction c with
 | zero=>exact Int.le_refl _
 | succ c ih=>exact Int.le_trans (ih (by omega)) (QuD l lo (a+c))
def gd (l:List LT) (lo:Nat) (w:Int) (k:Nat):Bool:=isB l (.int (1+((lo+k:Nat):Int)))&&decide (tw l lo (k+1)≤w)
def fes (l:List LT) (lo:Nat) (w:Int) (i:Nat):List Nat:=(List.range i).filter (gd l lo w)
def fD (l:List LT) (lo:Nat) (k:Nat):D:=.tup [.int (1+((lo+k:Nat):Int)),.int (tw l lo (k+1))]
theorem QlL (l:List LT) (lo:Nat) (w:Int) (i:Nat):fes l lo w (i+1)=fes l lo w i++(if gd l lo w i=true then [i] else []):=by
 unfold fes;rw [List.range_succ,List.filter_append];congr 1
 by_cases h:gd l lo w i=true <;> simp [h]
theorem QrD {l:List LT}{lo:Nat}{w:Int}{i:Nat} (h:w < tw l lo (i+1)):∀n,i≤n→fes l lo w n=fes l lo w i:=by
 intro n hn;obtain ⟨c,rfl⟩:∃c,n=i+c:=⟨n - i,by omega⟩
 induction c with
 | zero=>rfl
 | succ c ih =>
  have m:=Qut l lo (show i+1≤i+c+1 by omega)
  have hg:gd l lo w (i+c)=false:=by
   unfold gd;rw [zj (by omega),Bool.and_false]
  rw [show i+(c+1)=i+c+1 by omega,QlL,hg,ih (by omega)];simp
def QiB:MS:=(Qah (Qan 4 (Qaf QaP (Qab 4) (Qas QbM (Qaa (Qaf gIx (Qaf gIx (Qab 0) (Qab 6)) (mC (.int 0))) Qae))))
  (Qah (QaX (Qav (Qaf gNe (Qaf gIx (Qaf gIx (Qab 0) (Qab 6)) (mC (.int 0))) (mC (.str [32])))) (Qan 5 (Qab 4)) QaH)
  (Qah (QaX (Qav (Qaf gGt (Qab 5) (Qab 2))) Qlq QaH)
  (QaX (Qb4 (Qas Qcu (Qaa (Qab 0) (Qaa (Qaf QaP (Qab 6) (mC (.int 1))) Qae)))) (Qcj 3 (QbQ (Qaa (Qaf QaP (Qab 6) (mC (.int 1))) (Qaa (Qab 5) Qae)))) QaH))))
theorem Qrz (l:List LT) (lo k:Nat) (w:Int) (x:LT) (hx:l[lo+k]? = some x) (acc:List D) (ha:acc.length≤100000) (O:Qac) (o6:Option D) :
  QiB [some (.lst (l.map dL)),some (.int (lo:Int)),some (.int w),some (.lst acc),some (.int (wsum ((l.drop lo).take k))),some (.int (tw l lo k)),some (.int ((lo+k:Nat):Int))] O =
   if w < tw l lo (k+1) then .bk [some (.lst (l.map dL)),some (.int (lo:Int)),some (.int w),some (.lst acc),some (.int (wsum ((l.drop lo).take (k+1)))),some (.int (tw l lo (k+1))),some (.int ((lo+k:Nat):Int))] O
   else .nx [some (.lst (l.map dL)),some (.int (lo:Int)),some (.int w),some (.lst (acc++if gd l lo w k=true then [fD l lo k] else [])),some (.int (wsum ((l.drop lo).take (k+1)))),some (.int (tw l lo (k+1))),some (.int ((lo+k:Nat):Int))] O:=by
 have hi:lo+k < l.length:=(zk.mp hx).1;have ix:=ixs hx;have i0:gIx (dL x) (.int 0)=some (.str [x.1]):=rfl;have dd:QaI O (dL x)=dL x:=rfl;have hs:wsum ((l.drop lo).take k)+wid x.1=wsum ((l.drop lo).take (k+1)):=(Qki (by rw [List.getElem?_drop]; exact hx)).symm;have eb:=Qo9 l (lo+k) hi O
 have hp:((lo+k:Nat):Int)+1=1+((lo+k:Nat):Int):=by omega
 obtain ⟨R,hR⟩:∃R:MS,R=(Qah (QaX (Qav (Qaf gGt (Qab 5) (Qab 2))) Qlq QaH)
  (QaX (Qb4 (Qas Qcu (Qaa (Qab 0) (Qaa (Qaf QaP (Qab 6) (mC (.int 1))) Qae)))) (Qcj 3 (QbQ (Qaa (Qaf QaP (Qab 6) (mC (.int 1))) (Qaa (Qab 5) Qae)))) QaH)):=⟨_,rfl⟩
 have pre:QiB [some (.lst (l.map dL)),some (.int (lo:Int)),some (.int w),some (.lst acc),some (.int (wsum ((l.drop lo).take k))),some (.int (tw l lo k)),some (.int ((lo+k:Nat):Int))] O=R [some (.lst (l.map dL)),some (.int (lo:Int)),some (.int w),some (.lst acc),some (.int (wsum ((l.drop lo).take (k+1)))),some (.int (tw l lo (k+1))),some (.int ((lo+k:Nat):Int))] O:=by
  unfold QiB;rw [←hR]
  by_cases hb:x.1=32
  ·have q:gNe (.str [x.1]) (.str [32])=some (.bl false):=by rw [hb]; rfl
   rw [Qmw hx hb];simp only [QaN,Qdf,Qcz,QdB,QbN,Qca,Qcc,m_c,zI,zM,Qar,Qbz,QaO,Qcq,ix,dd,i0,Qbm,QfE,Qel,hs,QcK,QaR,jh,jd,Qfr,QcV,q,Qc6,Qd7,Bool.false_eq_true,if_false,QeT]
  ·have q:gNe (.str [x.1]) (.str [32])=some (.bl true):=by simp [hb]
   rw [QnD hx hb];simp only [QaN,Qdf,Qcz,QdB,QbN,Qca,Qcc,m_c,zI,zM,Qar,Qbz,QaO,Qcq,ix,dd,i0,Qbm,QfE,Qel,hs,QcK,QaR,jh,jd,Qfr,QcV,q,Qc6,Qd7,if_true]
 rw [pre,hR]
 by_cases hlt:w < tw l lo (k+1)
 ·rw [if_pos hlt];have hg:tw l lo (k+1) > w:=hlt;simp only [QaN,Qfr,QcV,Qcz,Qcc,zI,zM,Qar,QaO,Qlo,zo hg,Qbm,Qc6,Qd7,if_true];rfl
 ·rw [if_neg hlt];have hg:¬tw l lo (k+1) > w:=hlt
  have hd:gd l lo w k=isB l (.int (1+((lo+k:Nat):Int))):=by
   unfold gd;rw [zo (by omega),Bool.and_true]
  rw [hd];simp only [QaN,Qfr,QcV,Qcz,Qcc,m_c,zI,zM,Qar,QaO,Qlo,zj hg,Qbm,Qc6,Qd7,Bool.false_eq_true,if_false,QeT,QaR,Qj5,QdB,QbN,Qca,Qel,hp,eb,QfY,QgH,QfP]
  cases hb:isB l (.int (1+((lo+k:Nat):Int))) with
  | false=>simp
  | true =>
   simp only [if_true,QqO,QoL,QbN,Qca,Qcz,Qcc,m_c,zI,zM,Qar,QaO,Qel,hp,Qbm,zy,zV,Nat.reduceAdd,Nat.reduceLeDiff];rw [QjL (ds:=acc) rfl (by omega)];rfl
theorem QlN (l:List LT) (lo:Nat) (w:Int) (hl:l.length≤1000) (O:Qac):∀(m k:Nat) (o6:Option D),lo+k+m=l.length →
  ∃o4 o5 o6',Qbw (mgN 6) QiB (QaY ((lo+k:Nat):Int) m) [some (.lst (l.map dL)),some (.int (lo:Int)),some (.int w),some (.lst ((fes l lo w k).map (fD l lo))),some (.int (wsum ((l.drop lo).take k))),some (.int (tw l lo k)),o6] O = .nx [some (.lst (l.map dL)),some (.int (lo:Int)),some (.int w),some (.lst ((fes l lo w (l.length - lo)).map (fD l lo))),o4,o5,o6'] O
 | 0,k,o6,h=>by
  rw [show l.length - lo=k by omega];exact ⟨_,_,_,rfl⟩
 | m+1,k,o6,h=>by
  have hx:=zq (show lo+k < l.length by omega)
  have fl:(fes l lo w k).length≤k:=by
   have:=List.length_filter_le (gd l lo w) (List.range k)
   rw [List.length_range] at this;exact this
  have t:=Qrz l lo k w _ hx ((fes l lo w k).map (fD l lo)) (by rw [zh]; omega) O o6
  have er:QaY ((lo+k:Nat):Int) (m+1) = .int ((lo+k:Nat):Int)::QaY ((lo+(k+1):Nat):Int) m:=by
   unfold QaY;rw [List.range_succ_eq_map,zc,zR,List.cons.injEq];refine ⟨by simp,jn fun i _=>?_⟩;show D.int (((lo+k:Nat):Int)+((i+1:Nat):Int))=D.int (((lo+(k+1):Nat):Int)+(i:Int));congr 1;omega
  rw [er];unfold Qbw;rw [mg_n];dsimp only;rw [show ([some (.lst (l.map dL)),some (.int (lo:Int)),some (.int w),some (.lst ((fes l lo w k).map (fD l lo))),some (.int (wsum ((l.drop lo).take k))),some (.int (tw l lo k)),o6]:Qak).set 6 (some (.int ((lo+k:Nat):Int))) = [some (.lst (l.map dL)),some (.int (lo:Int)),some (.int w),some (.lst ((fes l lo w k).map (fD l lo))),some (.int (wsum ((l.drop lo).take k))),some (.int (tw l lo k)),some (.int ((lo+k:Nat):Int))] from rfl,t]
  by_cases hlt:w < tw l lo (k+1)
  ·rw [if_pos hlt,QrD hlt (l.length - lo) (by omega)];exact ⟨_,_,_,rfl⟩
  ·rw [if_neg hlt];obtain ⟨o4,o5,o6',q⟩:=QlN l lo w hl O m (k+1) (some (.int ((lo+k:Nat):Int))) (by omega);refine ⟨o4,o5,o6',?_⟩;dsimp only;rw [QlL,zL] at q;rw [←q]
   by_cases hg:gd l lo w k=true <;> simp [hg]
theorem QpN (l:List LT) (lo:Nat) (w:Int) (hl:l.length≤1000) (hlo:lo≤l.length) (O:Qac):Qes [.lst (l.map dL),.int (lo:Int),.int w] O = .ok (.lst ((fes l lo w (l.length - lo)).map (fD l lo))) O:=by
 obtain ⟨o4,o5,o6,e⟩:=QlN l lo w hl O (l.length - lo) 0 none (by omega)
 have r:QjA (Qaa (Qab 1) (Qaa (Qaz Qbn (Qaa (Qab 0) Qae)) Qae)) [some (.lst (l.map dL)),some (.int (lo:Int)),some (.int w),some (.lst []),some (.int 0),some (.int 0),none] O = .ok (QaY (lo:Int) (l.length - lo)) O:=by
  have e:(Qaa (Qab 1) (Qaa (Qaz Qbn (Qaa (Qab 0) Qae)) Qae)) [some (.lst (l.map dL)),some (.int (lo:Int)),some (.int w),some (.lst []),some (.int 0),some (.int 0),none] O = .ok [.int (lo:Int),.int (l.length:Int)] O:=by
   simp
  rw [Quq e (by omega),show ((l.length:Int) - (lo:Int)).toNat=l.length - lo by omega]
 have e':Qbw (mgN 6) QiB (QaY (lo:Int) (l.length - lo)) [some (.lst (l.map dL)),some (.int (lo:Int)),some (.int w),some (.lst []),some (.int 0),some (.int 0),none] O=_:=e;show QaZ (Qah _ (Qah _ (Qah _ (Qah (QbI _ (mgN 6) QiB) _))) [some (.lst (l.map dL)),some (.int (lo:Int)),some (.int w),none,none,none,none] O)=_;simp only [QaN,Qdf,Qo2,Qca,m_c,Qar,zV,Nat.zero_le,if_true,QcK,QaR,jh,jd,Qf7,r,QeN,e',QcU,Qcc,zM,zI,QiM,QiG]
theorem QcI {m:L2.M D}{ρ:Qak}{O O1:Qac}{d:D} (h:m ρ O = .ok d O1):QaB m ρ O = .rt d O1:=by rw [QcU,h]; rfl
def ends (l:List LT) (lo:Nat) (w:Int):List (Nat×Int):=match fes l lo w (l.length - lo) with
 | []=>[(rch l lo w,wsum ((l.drop lo).take (rch l lo w - lo)))]
 | k::ks=>(k::ks).map fun k=>(lo+k+1,tw l lo (k+1))
def dE (p:Nat×Int):D:=.tup [.int (p.1:Int),.int p.2]
theorem QxV (l:List LT) (lo:Nat) (ks:List Nat):ks.map (fD l lo)=(ks.map fun k=>(lo+k+1,tw l lo (k+1))).map dE:=by
 rw [zR]
 refine jn fun k _=>?_
 show D.tup [.int (1+((lo+k:Nat):Int)),.int (tw l lo (k+1))]=D.tup [.int ((lo+k+1:Nat):Int),.int (tw l lo (k+1))];rw [show 1+((lo+k:Nat):Int)=((lo+k+1:Nat):Int) by omega]
theorem Qh3 (l:List LT) (lo:Nat) (w:Int) (hl:l.length≤1000) (hlo:lo≤l.length) (O:Qac):QdD [.lst (l.map dL),.int (lo:Int),.int w] O = .ok (.lst ((ends l lo w).map dE)) O:=by
 have ef:=QpN l lo w hl hlo O;unfold ends
 cases hf:fes l lo w (l.length - lo) with
 | nil =>
  rw [hf] at ef;have er:=Qkk l lo w hl hlo O;have rl:=Ql1 l lo w hlo
  have ecut:Qc3 (l.map dL) (some (lo:Int)) (some (rch l lo w:Nat))=((l.drop lo).take (rch l lo w - lo)).map dL:=by
   rw [QwS,List.map_take,List.map_drop]
  have ec:=Qt2 ((l.drop lo).take (rch l lo w - lo)) (by rw [List.length_take,List.length_drop]; omega) O;show QaZ (QcY [some (.lst (l.map dL)),some (.int (lo:Int)),some (.int w),none,none] O)=_;unfold QcY
  have gz:¬(0:Int) > 0:=by decide
  have l0:Qbn [.lst []]=some (.int 0):=rfl;simp only [QaN,Qdf,QdB,QbN,Qca,Qcc,zI,zM,Qar,ef,zQ,QcK,QaR,jh,jd,Qfr,QcV,Qcz,Qdo,m_c,zc,Qbz,l0,Qbm,QaO,Qlo,zj gz,Qc6,Qd7,Bool.false_eq_true,if_false,QeT,er,QcU,Qo2,QoL,Qyr,QyD,m_g,Qp4,QxU,Qum,ecut,ec,zy,zV,Nat.reduceAdd,Nat.reduceLeDiff,if_true,QiM,QiG,zS];rfl
 | cons k ks =>
  rw [hf,QxV] at ef
  generalize hds:List.map dE ((k::ks).map fun k=>(lo+k+1,tw l lo (k+1)))=ds at ef
  have hn:0 < ds.length:=by rw [←hds,zh,zh,zy]; omega
  have gz:(ds.length:Int) > 0:=by omega
  show QaZ (QcY [some (.lst (l.map dL)),some (.int (lo:Int)),some (.int w),none,none] O)=_;unfold QcY;simp only [QaN,Qdf,QdB,QbN,Qca,Qcc,zI,zM,Qar,ef,zQ,QcK,QaR,jh,jd,Qfr,QcV,Qcz,Qdo,m_c,zc,Qbz,Qkc,Qbm,QaO,Qlo,zo gz,Qc6,Qd7,if_true,QcU,QiM,Qul,QiG]
def cst (l:List LT) (w:Int) (p:Nat×Int):Int:=if p.1=l.length then 0 else (w - p.2) * (w - p.2)
def strN (n:Nat):List Nat:=(Nat.toDigits 10 n).map Char.toNat
def mvE (l:List LT) (w:Int) (p:Nat×Int):D:=.tup [.int (cst l w p),.str (strN p.1),.tup [.int (p.1:Int),.int 0]]
theorem Qu7 (n:Nat) (h:n < 1000000000):Qkr [.int (n:Int)]=some (.str (strN n)):=by
 unfold Qkr;dsimp only;rw [if_pos ⟨by omega,by omega⟩,Int.toNat_natCast];rfl
theorem QkU {l:List LT}{lo:Nat}{w:Int} (hn:∀j,lo+j+1≤l.length→gd l lo w j=false):∀(n m:Nat),lo+m+1+n=l.length→(∃x,l[lo+m]? = some x∧x.1=32)→tw l lo (m+1)≤w→False
 | 0,m,h,_,ht=>by
  have g:=hn m (by omega);unfold gd at g;rw [QnC (l:=l) (i:=lo+m) (by omega),zo ht] at g;cases g
 | n+1,m,h,⟨x,hx,hx2⟩,ht=>by
  obtain ⟨x',y,e1,e2,e3⟩:=Qn5 (l:=l) (i:=lo+m) (by omega);rw [hx] at e1;cases e1
  by_cases hy:y.1=32
  ·refine QkU hn n (m+1) (by omega) ⟨y,by rw [←Nat.add_assoc]; exact e2,hy⟩ ?_;rw [Qmw (l:=l) (lo:=lo) (k:=m+1) (x:=y) (by rw [←Nat.add_assoc]; exact e2) hy];exact ht
  ·have g:=hn m (by omega);unfold gd at g;rw [e3,zo hx2,zj hy,zo ht] at g;cases g
theorem QnT {l:List LT}{lo:Nat}{w:Int}{n k:Nat}:k∈fes l lo w n↔k < n∧gd l lo w k=true:=by
 unfold fes;rw [List.mem_filter,List.mem_range]
theorem Qex {l:List LT}{lo:Nat}{w:Int} (hlo:lo < l.length) (hw:2≤w):∀p∈ends l lo w,lo < p.1∧p.1≤l.length∧0≤p.2∧p.2≤w∧p.2=tw l lo (p.1 - lo):=by
 intro p hp;unfold ends at hp
 cases hf:fes l lo w (l.length - lo) with
 | nil =>
  rw [hf] at hp;rw [zr.mp hp]
  have hn:∀j,lo+j+1≤l.length→gd l lo w j=false:=fun j hj=>by
   cases hg:gd l lo w j with
   | false=>rfl
   | true =>
    have:j∈fes l lo w (l.length - lo):=QnT.mpr ⟨by omega,hg⟩
    rw [hf] at this;exact nomatch this
  have r1:=Qq1 l lo w hlo hw;have r2:=Ql1 l lo w (by omega)
  have hfit:rch l lo w - lo=QcH (l.drop lo) w:=by unfold rch; omega
  have s1:=QkB (l.drop lo) w (rch l lo w - lo) (by omega) (by omega);refine ⟨r1,r2,Qiy _,s1,?_⟩;obtain ⟨m,hm⟩:∃m,rch l lo w - lo=m+1:=⟨rch l lo w - lo - 1,by omega⟩
  have hlt:lo+m < l.length:=by omega
  have ex:=zq hlt;show wsum ((l.drop lo).take (rch l lo w - lo))=tw l lo (rch l lo w - lo);rw [hm] at s1 ⊢
  generalize l[lo+m]=x at ex
  by_cases hx:x.1=32
  ·exfalso
   exact QkU hn (l.length - (lo+m+1)) m (by omega) ⟨x,ex,hx⟩ (Int.le_trans (QsR l lo (m+1)) s1)
  ·exact (QnD ex hx).symm
 | cons k ks =>
  rw [hf] at hp;obtain ⟨j,hj,rfl⟩:=zP.mp hp;rw [←hf] at hj;obtain ⟨h1,h2⟩:=QnT.mp hj;unfold gd at h2;rw [zm] at h2;have h3:=jp h2.2;refine ⟨by show lo < lo+j+1; omega,by show lo+j+1≤_; omega,Qiy _,h3,?_⟩;show tw l lo (j+1)=tw l lo (lo+j+1 - lo);rw [show lo+j+1 - lo=j+1 by omega]
theorem QlI (l:List LT) (lo:Nat) (w:Int):(ends l lo w).length≤l.length+1:=by
 unfold ends
 have h:(fes l lo w (l.length - lo)).length≤l.length - lo:=by
  unfold fes
  have:=List.length_filter_le (gd l lo w) (List.range (l.length - lo))
  rwa [List.length_range] at this
 cases hf:fes l lo w (l.length - lo) with
 | nil=>exact Nat.le_add_left _ _
 | cons k ks =>
  rw [hf] at h;dsimp only;rw [zh];omega
theorem Qn8 {cs:List Str}{f c:Str}{m:L2.M D}{ρ:Qak}{O:Qac}{n:Nat}{y:D}{fs:List (Str×D)} (ho:m ρ O = .ok (.ob n) O) (hO:O[n]? = some (.ins c fs)) (hc:c∈cs) (hy:fs.lookup f=some y) :
  QdP cs f m ρ O = .ok y O:=by
 rw [Qxf,ho,Qar];unfold QuZ;dsimp only;rw [hO];dsimp only;rw [if_pos hc,hy]
theorem Qdq {c m:Str}{cf:List D→Qac→Res D}{mo:L2.M D}{ma:L2.M (List D)}{ρ:Qak}{O:Qac}{n:Nat}{ds:List D}{fs:List (Str×D)} (ho:mo ρ O = .ok (.ob n) O) (hO:O[n]? = some (.ins c fs)) (hm:(fs.lookup m).isNone=true) (ha:ma ρ O = .ok ds O) :
  Qbe c m cf mo ma ρ O=cf (.ob n::ds) O:=by
 rw [Qvr,ho,Qar];unfold meF;dsimp only;rw [hO];dsimp only;rw [if_pos ⟨rfl,hm⟩,ha,Qar]
theorem QgL {m:L2.M (List D)}{own:Nat}{cap:List Nat}{g:MG}{t:L2.M Bool}{e:L2.M D}{ρ ρ0:Qak}{O:Qac}{ds ys:List D} (h:m ρ O = .ok ds O) (hl:ds.length≤1000000) (h0:QgY own cap ρ=ρ0) (hc:QbK g t e ds ρ0 O [] = .ok ys O):Qcb m own cap g t e ρ O = .ok (.lst ys) O:=by
 rw [Qmz,h,Qar,if_pos hl,h0,hc,Qar]
theorem QjY {m:L2.M D}{ρ:Qak}{O:Qac}{l:List D} (h:m ρ O = .ok (.lst l) O):QbZ m ρ O = .ok l O:=by
 rw [QlV,h,Qar,Qk9,QiY]
theorem sq {a b:MS}{ρ ρ':Qak}{O O':Qac} (h:a ρ O = .nx ρ' O'):Qah a b ρ O=b ρ' O':=by
 rw [QaN,h,QaR]
theorem QjS {i:Nat}{m:L2.M D}{ρ:Qak}{O O':Qac}{d:D} (h:m ρ O = .ok d O'):Qan i m ρ O = .nx (ρ.set i (some d)) O':=by
 rw [Qdf,h,QcK]
abbrev Nd:=Int×Int
def nN (n:Nd):D:=.tup [.int n.1,.int n.2]
def key (n:Nd):List Key:=[.inl n.1,.inl n.2]
structure M3 where
 cost:Int
 name:List Nat
 other:Nd
def d3 (m:M3):D:=.tup [.int m.cost,.str m.name,nN m.other]
def oD:Option Int→D
 | none=>.non
 | some i=>.int i
abbrev Tb:=List (Nd×Option Int)
def tab (ps:Tb):List (List Key×D):=ps.map fun x=>(key x.1,oD x.2)
def lk (ps:Tb) (n:Nd):Option (Option Int):=(ps.find? fun x=>decide (x.1=n)).map (·.2)
def pu (ps:Tb) (n:Nd) (v:Option Int):Tb:=if (ps.any fun x=>decide (x.1=n))=true then ps.map (fun x=>if x.1=n then (x.1,v) else x) else ps ++ [(n,v)]
theorem QmP (n:Nd):QlO (nN n)=some (key n):=rfl
theorem QgJ {a b:Nd}:key a=key b↔a=b:=by
 obtain ⟨a1,a2⟩:=a;obtain ⟨b1,b2⟩:=b;unfold key;simp
theorem Qoa (n:Nd):∀ps:Tb,QeJ (tab ps) (key n)=(lk ps n).map oD
 | []=>rfl
 | x::ps=>by
  have ih:=Qoa n ps;unfold QeJ lk tab at *;rw [zc,List.find?_cons,List.find?_cons]
  by_cases h:x.1=n
  ·simp [h]
  ·have h':¬key x.1=key n:=fun z=>h (QgJ.mp z)
   simp only [h,h',decide_false];exact ih
theorem QnS (n:Nd):∀ps:Tb,((tab ps).any fun p=>decide (p.1=key n))=ps.any fun x=>decide (x.1=n)
 | []=>rfl
 | x::ps=>by
  have ih:=QnS n ps;unfold tab at *;rw [zc,List.any_cons,List.any_cons,ih];congr 1;exact decide_eq_decide.mpr QgJ
theorem QuI (ps:Tb) (n:Nd) (v:Option Int):Qjf (tab ps) (key n) (oD v)=tab (pu ps n v):=by
 unfold Qjf pu;rw [QnS]
 split
 ·unfold tab;rw [zR,zR]
  refine jn fun x _=>?_
  by_cases h:x.1=n
  ·simp [h]
  ·have h':¬key x.1=key n:=fun z=>h (QgJ.mp z)
   simp [h,h']
 ·unfold tab;rw [zL];rfl
theorem QkO {n:Nd}:∀{ps:Tb},(ps.any fun x=>decide (x.1=n))=false→lk ps n=none
 | [],_=>rfl
 | x::ps,h=>by
  rw [List.any_cons,Bool.or_eq_false_iff] at h
  have:=QkO h.2
  unfold lk at *;rw [List.find?_cons,h.1];exact this
theorem QfH (x:Nd×Option Int) (ps:Tb) (n:Nd):lk (x::ps) n=if x.1=n then some x.2 else lk ps n:=by
 unfold lk;rw [List.find?_cons]
 by_cases h:x.1=n
 ·simp [h]
 ·simp [h]
theorem Qqm (n:Nd) (y:Nd×Option Int):∀ps:Tb,lk (ps ++ [y]) n=if (lk ps n).isSome=true then lk ps n else if y.1=n then some y.2 else none
 | []=>by
  rw [zS,QfH];rfl
 | x::ps=>by
  rw [List.cons_append,QfH,QfH,Qqm n y ps]
  by_cases h:x.1=n
  ·simp [h]
  ·simp [h]
theorem QqB (n m:Nd) (v:Option Int):∀ps:Tb,lk (ps.map fun x=>if x.1=n then (x.1,v) else x) m=if m=n then (lk ps m).map fun _=>v else lk ps m
 | []=>by simp [lk]
 | x::ps=>by
  rw [zc,QfH,QfH,QqB n m v ps]
  by_cases h:x.1=n
  ·by_cases hm:m=n
   ·subst hm;simp [h]
   ·have:¬n=m:=fun z=>hm z.symm
    simp [h,hm,this]
  ·by_cases hx:x.1=m
   ·have:¬m=n:=fun z=>h (hx.trans z)
    simp [h,hx,this]
   ·simp [h,hx]
theorem Qq8 {n:Nd}:∀{ps:Tb},(ps.any fun x=>decide (x.1=n))=true→(lk ps n).isSome=true
 | x::ps,h=>by
  rw [QfH]
  by_cases hx:x.1=n
  ·simp [hx]
  ·rw [if_neg hx];rw [List.any_cons,zj hx,Bool.false_or] at h;exact Qq8 h
theorem Qp9 (ps:Tb) (n m:Nd) (v:Option Int):lk (pu ps n v) m=if m=n then some v else lk ps m:=by
 unfold pu
 split
 ·rename_i h;rw [QqB]
  split
  ·rename_i hm;subst hm
   have:=Qq8 h
   cases e:lk ps m with
   | none=>rw [e] at this; cases this
   | some w=>rfl
  ·rfl
 ·rename_i h;have h0:=QkO (Bool.eq_false_iff.mpr h);rw [Qqm]
  by_cases hm:m=n
  ·subst hm;simp [h0]
  ·have:¬n=m:=fun z=>hm z.symm
   simp [hm,this]
   cases lk ps m <;> simp
theorem QuL (ps:Tb) (n:Nd) (v:Option Int):(pu ps n v).length≤ps.length+1:=by
 unfold pu
 split
 ·rw [zh]; omega
 ·rw [zA]; exact ze _
theorem QtV {ps:Tb}{n:Nd}{v:Option Int} (h:(lk ps n).isSome=true):(pu ps n v).length=ps.length:=by
 unfold pu
 split
 ·rw [zh]
 ·rename_i h';rw [QkO (Bool.eq_false_iff.mpr h')] at h;cases h
theorem Qkw {mo my:L2.M D}{ρ:Qak}{O:Qac}{p:Nat}{ps:Tb}{n:Nd}{v:Option Int} (h1:mo ρ O = .ok (.ob p) O) (h2:O[p]? = some (.dt (tab ps))) (h3:my ρ O = .ok (nN n) O) (h4:lk ps n=some v):Qbx mo my ρ O = .ok (oD v) O:=by
 unfold Qbx;rw [h1];dsimp only [Qar];rw [h3];dsimp only [Qar];unfold tsG;rw [QmP,h2];dsimp only;unfold tsF;rw [QmP,h2];dsimp only;rw [Qoa,h4];rfl
theorem QnG {mo my mv:L2.M D}{ρ:Qak}{O:Qac}{p:Nat}{ps:Tb}{n:Nd}{v:Option Int} (h0:mv ρ O = .ok (oD v) O) (h1:mo ρ O = .ok (.ob p) O) (h2:O[p]? = some (.dt (tab ps))) (h3:my ρ O = .ok (nN n) O) (hl:ps.length < 1000000):QcC mo my mv ρ O = .nx ρ (O.set p (.dt (tab (pu ps n v)))):=by
 unfold QcC;rw [h0];dsimp only;rw [h1];dsimp only;rw [h3];dsimp only;rw [QmP,h2];dsimp only;rw [if_pos (by unfold tab; rw [zh]; exact hl),QuI]
def co (ps:Tb) (m:M3):Option Int:=match lk ps m.other with
 | some (some b)=>some (m.cost+b)
 | _=>none
def lc (ps:Tb) (ms:List M3):Option Int:=mdI none (ms.filterMap (co ps))
theorem Qtd {O:Qac}{p:Nat}{ps:Tb}{m:M3} (hp:O[p]? = some (.dt (tab ps))) (hm:(lk ps m.other).isSome=true):QbU [d3 m,.ob p] O = .ok (oD (co ps m)) O:=by
 obtain ⟨v,hv⟩:=Option.isSome_iff_exists.mp hm;have s1:Qbx (mG (Qab 1)) (Qaf gIx (Qab 0) (mC (.int 2))) [some (d3 m),some (.ob p),none] O = .ok (oD v) O:=Qkw rfl hp (QaM rfl rfl rfl) hv;show QaZ (QeO [some (d3 m),some (.ob p),none] O)=_;unfold QeO;rw [sq (QaW s1),QcU];unfold co;rw [hv]
 cases v with
 | none=>rfl
 | some b=>rfl
theorem ints_map:∀is:List Int,Qdp (is.map D.int)=some is
 | []=>rfl
 | i::is=>by
  show (Qdp (is.map D.int)).map (i :: ·)=_;rw [ints_map is];rfl
theorem QnX (ps:Tb):∀ms:List M3,(ms.map fun m=>oD (co ps m)).filter (fun d=>!isNon d)=(ms.filterMap (co ps)).map D.int
 | []=>rfl
 | m::ms=>by
  rw [zc,List.filter_cons,List.filterMap_cons,QnX ps ms]
  cases co ps m <;> rfl
theorem QnJ {O:Qac}{p:Nat}{ps:Tb}{ms:List M3} (hp:O[p]? = some (.dt (tab ps))) (hm:∀m∈ms,(lk ps m.other).isSome=true) (hl:ms.length≤1000):Qcg [.lst (ms.map d3),.ob p] O = .ok (oD (lc ps ms)) O:=by
 have c1:QbK (mgN 0) QdQ (Qas QbU (Qaa (Qab 0) (Qaa (Qab 1) Qae))) (ms.map d3) [none,some (.ob p)] O [] = .ok (ms.map fun m=>oD (co ps m)) O:=by
  rw [Qdm (fun ρ=>∃a,ρ = [a,some (.ob p)]) d3 (fun m=>oD (co ps m)) ms _ _ _ ⟨none,rfl⟩ (by
   rintro m hm' ρ ⟨a,rfl⟩
   exact ⟨_,rfl,⟨_,rfl⟩,rfl,(QaL (maS rfl (ma1 rfl))).trans (Qtd hp (hm m hm'))⟩)]
  rw [zS]
 have s1:Qcb (QbZ (Qab 0)) 1 [1] (mgN 0) QdQ (Qas QbU (Qaa (Qab 0) (Qaa (Qab 1) Qae))) [some (.lst (ms.map d3)),some (.ob p),none] O = .ok (.lst (ms.map fun m=>oD (co ps m))) O:=QgL (QjY rfl) (by rw [zh]; omega) rfl c1
 have c2:QbK (mgN 0) (Qav (Qek (Qab 0))) (Qab 0) (ms.map fun m=>oD (co ps m)) [none] O [] = .ok ((ms.filterMap (co ps)).map D.int) O:=by
  rw [Qii (fun ρ=>∃a,ρ = [a]) (fun d=>!isNon d) _ _ _ _ ⟨none,rfl⟩ (by
   rintro d hd ρ ⟨a,rfl⟩
   exact ⟨_,rfl,⟨_,rfl⟩,rfl,rfl⟩)]
  rw [zS,QnX]
 have s2:Qcb (QbZ (Qab 2)) 1 [] (mgN 0) (Qav (Qek (Qab 0))) (Qab 0) [some (.lst (ms.map d3)),some (.ob p),some (.lst (ms.map fun m=>oD (co ps m)))] O = .ok (.lst ((ms.filterMap (co ps)).map D.int)) O:=QgL (QjY rfl) (by rw [zh]; omega) rfl c2
 have s3:Qaz Qll (Qaa (Qcb (QbZ (Qab 2)) 1 [] (mgN 0) (Qav (Qek (Qab 0))) (Qab 0)) Qae) [some (.lst (ms.map d3)),some (.ob p),some (.lst (ms.map fun m=>oD (co ps m)))] O = .ok (oD (lc ps ms)) O:=QcS (ma1 s2) (by
  show (Qdp ((ms.filterMap (co ps)).map D.int)).map _=_;rw [ints_map];show some (match mdI none (ms.filterMap (co ps)) with | some m=>D.int m | none=>D.non)=some (oD (mdI none (ms.filterMap (co ps))))
  cases mdI none (ms.filterMap (co ps)) <;> rfl)
 show QaZ (Qd1 [some (.lst (ms.map d3)),some (.ob p),none] O)=_;unfold Qd1;rw [sq (QaW s1),QcU];exact congrArg (fun r=>QaZ (Qjj r)) s3
theorem QmQ {ps ps':Tb}:∀{ms:List M3},(∀m∈ms,lk ps' m.other=lk ps m.other)→ms.filterMap (co ps')=ms.filterMap (co ps)
 | [],_=>rfl
 | m::ms,h=>by
  have e:co ps' m=co ps m:=by
   unfold co;rw [h m zu]
  rw [List.filterMap_cons,List.filterMap_cons,e,QmQ fun x hx=>h x (zv _ hx)]
theorem Qhi {ps ps':Tb}{ms:List M3} (h:∀m∈ms,lk ps' m.other=lk ps m.other):lc ps' ms=lc ps ms:=by
 unfold lc;rw [QmQ h]
structure Trl (t:Nat) (fs:List (Str×D)) (N:Nat) (nodes:Nat→List Nd) (mv:Nd→List M3) (fin:Nd→Bool):Prop where
 na:∀(O:Qac) (a:Nat),O[t]? = some (.ins "Even" fs)→a≤N→Qb6 [.ob t,.int a] O = .ok (.lst ((nodes a).map nN)) O
 mf:∀(O:Qac) (a:Nat) (n:Nd),O[t]? = some (.ins "Even" fs)→a≤N→n∈nodes a→Qa7 [.ob t,nN n] O = .ok (.lst ((mv n).map d3)) O
 ie:∀(O:Qac) (a:Nat) (n:Nd),O[t]? = some (.ins "Even" fs)→a≤N→n∈nodes a→Qbg [.ob t,nN n] O = .ok (.bl (fin n)) O
 la:∀O:Qac,O[t]? = some (.ins "Even" fs)→QcL [.ob t] O = .ok (.int N) O
 fi:∀O:Qac,O[t]? = some (.ins "Even" fs)→Qb9 [.ob t] O = .ok (nN (0,0)) O
 f0:((0,0):Nd)∈nodes 0
 nd:∀a,(nodes a).Nodup
 ln:∀a,(nodes a).length≤1
 fw:∀(a:Nat) (n:Nd),a≤N→n∈nodes a→∀m∈mv n,∃b,a < b∧b≤N∧m.other∈nodes b
 sp:∀(a b:Nat) (n:Nd),n∈nodes a→n∈nodes b→a=b
 ml:∀n,(mv n).length≤1000
 fe:∀n,fin n=true→mv n = []
 u1:(fs.lookup ("nodes_at":Str)).isNone=true
 u2:(fs.lookup ("moves_from":Str)).isNone=true
 u3:(fs.lookup ("is_end":Str)).isNone=true
 u4:(fs.lookup ("last_at":Str)).isNone=true
 u5:(fs.lookup ("first_node":Str)).isNone=true
 hN:N≤1000
def Qbv (mv:Nd→List M3) (ns:List Nd):List (List Key×D):=ns.map fun n=>(key n,D.lst ((mv n).map d3))
theorem Ql7 (mv:Nd→List M3) (n:Nd):∀ns:List Nd,((Qbv mv ns).any fun p=>decide (p.1=key n))=decide (n∈ns)
 | []=>rfl
 | x::ns=>by
  have ih:=Ql7 mv n ns;unfold Qbv at *;rw [zc,List.any_cons,ih]
  by_cases h:x=n
  ·subst h;simp
  ·have h1:¬key x=key n:=fun z=>h (QgJ.mp z)
   have h2:¬n=x:=fun z=>h z.symm
   simp [h1,h2]
theorem Qru {mv:Nd→List M3}{ns:List Nd}{n:Nd} (h:n∉ns):Qjf (Qbv mv ns) (key n) (.lst ((mv n).map d3))=Qbv mv (ns ++ [n]):=by
 unfold Qjf;rw [Ql7,zj h,if_neg zg];unfold Qbv;rw [zL];rfl
theorem Qmt (mv:Nd→List M3) (n:Nd):∀ns:List Nd,n∈ns→QeJ (Qbv mv ns) (key n)=some (.lst ((mv n).map d3))
 | x::ns,h=>by
  unfold QeJ Qbv;rw [zc,List.find?_cons]
  by_cases hx:x=n
  ·subst hx;simp
  ·have h1:¬key x=key n:=fun z=>hx (QgJ.mp z)
   simp only [h1,decide_false]
   rcases zd.mp h with rfl | h
   ·exact absurd rfl hx
   ·exact Qmt mv n ns h
theorem QqC (mv:Nd→List M3) (ns:List Nd):(Qbv mv ns).map Qr1=ns.map nN:=by
 unfold Qbv;rw [zR];rfl
def B_1:MS:=(Qah (QcC (Qab 3) (Qab 4) (Qbe "Even" "moves_from" Qa7 (mG (Qab 0)) (Qaa (Qab 4) Qae)))
  (QcC (mG (Qab 2)) (Qab 4) (mIf (Qb4 (Qbe "Even" "is_end" Qbg (mG (Qab 0)) (Qaa (Qab 4) Qae))) (mC (.int 0)) (mC .non))))
def ini (fin:Nd→Bool) (n:Nd):Option Int:=if fin n=true then some 0 else none
theorem Qiu {O:Qac}{i j:Nat}{x y:Ob} (h1:O[i]? = some x) (h2:O[j]? = some y) (h:x≠y):i≠j:=fun z=>by
 rw [z,h2] at h1;exact h (zE h1).symm
theorem Qmp {O:Qac}{i:Nat}{x y:Ob} (e:O[i]? = some x):(O.set i y)[i]? = some y:=by
 obtain ⟨h,_⟩:=zk.mp e;simp [h]
section
variable {t:Nat}{fs:List (Str×D)}{N:Nat}{nodes:Nat→List Nd}{mv:Nd→List M3}{fin:Nd→Bool}{p q:Nat}
theorem Qr5 (T:Trl t fs N nodes mv fin) {a:Nat} (ha:a≤N) {n:Nd} (hn:n∈nodes a) {pre:List Nd} (hp':n∉pre) {O:Qac}{cur:Tb} (ht:O[t]? = some (.ins "Even" fs)) (hp:O[p]? = some (.dt (tab cur))) (hq:O[q]? = some (.dt (Qbv mv pre))) (hpq:p≠q) (hl:cur.length < 1000000) (hl2:pre.length < 1000000) (o5 o6:Option D) :
  B_1 [some (.ob t),some (.int a),some (.ob p),some (.ob q),some (nN n),o5,o6] O = .nx [some (.ob t),some (.int a),some (.ob p),some (.ob q),some (nN n),o5,o6] ((O.set q (.dt (Qbv mv (pre ++ [n])))).set p (.dt (tab (pu cur n (ini fin n))))):=by
 have tq:t≠q:=Qiu ht hq (fun z=>nomatch z);have tp:t≠p:=Qiu ht hp (fun z=>nomatch z);have e1:Qbe "Even" "moves_from" Qa7 (mG (Qab 0)) (Qaa (Qab 4) Qae) [some (.ob t),some (.int a),some (.ob p),some (.ob q),some (nN n),o5,o6] O = .ok (.lst ((mv n).map d3)) O:=(Qdq rfl ht T.u2 (ma1 rfl)).trans (T.mf O a n ht ha hn)
 have s1:QcC (Qab 3) (Qab 4) (Qbe "Even" "moves_from" Qa7 (mG (Qab 0)) (Qaa (Qab 4) Qae)) [some (.ob t),some (.int a),some (.ob p),some (.ob q),some (nN n),o5,o6] O = .nx [some (.ob t),some (.int a),some (.ob p),some (.ob q),some (nN n),o5,o6] (O.set q (.dt (Qbv mv (pre ++ [n])))):=by
  unfold QcC;rw [e1];dsimp only;rw [show (Qab 3) [some (.ob t),some (.int a),some (.ob p),some (.ob q),some (nN n),o5,o6] O = .ok (.ob q) O from rfl];dsimp only;rw [show (Qab 4) [some (.ob t),some (.int a),some (.ob p),some (.ob q),some (nN n),o5,o6] O = .ok (nN n) O from rfl];dsimp only;rw [QmP,hq];dsimp only;rw [if_pos (by unfold Qbv; rw [zh]; exact hl2),Qru hp']
 have ht':(O.set q (.dt (Qbv mv (pre ++ [n]))))[t]? = some (.ins "Even" fs):=by rw [zl (Ne.symm tq)]; exact ht
 have hp2:(O.set q (.dt (Qbv mv (pre ++ [n]))))[p]? = some (.dt (tab cur)):=by rw [zl (Ne.symm hpq)]; exact hp
 have e2:Qbe "Even" "is_end" Qbg (mG (Qab 0)) (Qaa (Qab 4) Qae) [some (.ob t),some (.int a),some (.ob p),some (.ob q),some (nN n),o5,o6] (O.set q (.dt (Qbv mv (pre ++ [n])))) = .ok (.bl (fin n)) (O.set q (.dt (Qbv mv (pre ++ [n])))):=(Qdq rfl ht' T.u3 (ma1 rfl)).trans (T.ie _ a n ht' ha hn)
 have e3:mIf (Qb4 (Qbe "Even" "is_end" Qbg (mG (Qab 0)) (Qaa (Qab 4) Qae))) (mC (.int 0)) (mC .non) [some (.ob t),some (.int a),some (.ob p),some (.ob q),some (nN n),o5,o6] (O.set q (.dt (Qbv mv (pre ++ [n])))) = .ok (oD (ini fin n)) (O.set q (.dt (Qbv mv (pre ++ [n])))):=by
  rw [Qsr,Qj5,e2,Qar,QfY,QgH,QfP,Qar];unfold ini
  cases fin n <;> rfl
 unfold B_1;rw [sq s1];exact QnG e3 rfl hp2 rfl hl
theorem QmG (T:Trl t fs N nodes mv fin) {a:Nat} (ha:a≤N) (hpq:p≠q) (o5 o6:Option D):∀(rest pre:List Nd) (O:Qac) (cur:Tb) (o4:Option D),(∀n∈rest,n∈nodes a)→(pre++rest).Nodup→O[t]? = some (.ins "Even" fs)→O[p]? = some (.dt (tab cur))→O[q]? = some (.dt (Qbv mv pre))→cur.length+rest.length < 1000000→pre.length+rest.length < 1000000 →
  ∃O' cur' o4',Qbw (mgN 4) B_1 (rest.map nN) [some (.ob t),some (.int a),some (.ob p),some (.ob q),o4,o5,o6] O = .nx [some (.ob t),some (.int a),some (.ob p),some (.ob q),o4',o5,o6] O'∧O'[p]? = some (.dt (tab cur'))∧O'[q]? = some (.dt (Qbv mv (pre++rest)))∧(∀j,j≠p→j≠q→O'[j]? = O[j]?)∧(∀n,lk cur' n=if n∈rest then some (ini fin n) else lk cur n)∧cur'.length≤cur.length+rest.length
 | [],pre,O,cur,o4,_,_,_,hp,hq,_,_=>⟨O,cur,o4,rfl,hp,by rw [zT]; exact hq,fun _ _ _=>rfl,fun n=>by simp,ze _⟩
 | n::rest,pre,O,cur,o4,hr,hd,ht,hp,hq,hl,hl2=>by
  rw [zy] at hl hl2;have hn:=hr n zu
  have hnp:n∉pre:=fun z=>(js.mp hd).2.2 n z n zu rfl
  have hnr:n∉rest:=fun z=>(List.nodup_cons.mp (js.mp hd).2.1).1 z
  have eb:=Qr5 T ha hn hnp ht hp hq hpq (by omega) (by omega) o5 o6;have tq:t≠q:=Qiu ht hq (fun z=>nomatch z);have tp:t≠p:=Qiu ht hp (fun z=>nomatch z);have hpl:=QuL cur n (ini fin n);obtain ⟨O',cur',o4',e,h1,h2,h3,h4,h5⟩:=QmG T ha hpq o5 o6 rest (pre ++ [n]) ((O.set q (.dt (Qbv mv (pre ++ [n])))).set p (.dt (tab (pu cur n (ini fin n))))) (pu cur n (ini fin n)) (some (nN n)) (fun m hm=>hr m (zv _ hm)) (by rw [jk]; exact hd)
   (by rw [zl (Ne.symm tp),zl (Ne.symm tq)]; exact ht) (Qmp (by rw [zl (Ne.symm hpq)]; exact hp)) (by rw [zl hpq]; exact Qmp hq) (by omega) (by rw [zA,zX]; omega)
  refine ⟨O',cur',o4',?_,h1,by rw [jk] at h2; exact h2,fun j j1 j2=>?_,fun m=>?_,by rw [zy]; omega⟩
  ·rw [zc];unfold Qbw;rw [mg_n];dsimp only
   show (match B_1 [some (.ob t),some (.int a),some (.ob p),some (.ob q),some (nN n),o5,o6] O with
    | .nx ρ' O'=>Qbw _ _ (rest.map nN) ρ' O' | .ct ρ' O'=>Qbw _ _ (rest.map nN) ρ' O' | .bk ρ' O'=>Fl.nx ρ' O' | r=>r)=_
   rw [eb];exact e
  ·rw [h3 j j1 j2,zl (Ne.symm j1),zl (Ne.symm j2)]
  ·rw [h4 m,Qp9]
   by_cases hm:m=n
   ·subst hm;simp [hnr]
   ·simp [hm]
end
theorem Qvm {mo my:L2.M D}{ρ:Qak}{O:Qac}{q:Nat}{kvs:List (List Key×D)}{n:Nd}{d:D} (h1:mo ρ O = .ok (.ob q) O) (h2:O[q]? = some (.df kvs)) (h3:my ρ O = .ok (nN n) O) (h4:QeJ kvs (key n)=some d):Qbx mo my ρ O = .ok d O:=by
 unfold Qbx;rw [h1];dsimp only [Qar];rw [h3];dsimp only [Qar];unfold tsG;rw [QmP,h2];dsimp only;rw [h4]
def B_r:MS:=(Qah (Qan 6 (Qas Qcg (Qaa (Qbx (Qab 3) (Qab 4)) (Qaa (Qab 2) Qae))))
  (QaX (QdJ (Qav (Qek (Qab 6))) (Qg6 (Qav (Qgu (Qbx (mG (Qab 2)) (Qab 4)))) (Qav (Qaf gLt (Qab 6) (Qbx (mG (Qab 2)) (Qab 4)))))) (Qah (QcC (mG (Qab 2)) (Qab 4) (Qab 6))
  (Qan 5 (mC (.bl true)))) QaH))
def better (v L:Option Int):Bool:=match L with
 | none=>false
 | some c=>match v with
  | none=>true
  | some w=>decide (c < w)
section
variable {t:Nat}{fs:List (Str×D)}{N:Nat}{nodes:Nat→List Nd}{mv:Nd→List M3}{fin:Nd→Bool}{p q:Nat}
theorem Qu2 {ns:List Nd}{n:Nd} (hn:n∈ns) {O:Qac}{cur:Tb}{v:Option Int} (hp:O[p]? = some (.dt (tab cur))) (hq:O[q]? = some (.df (Qbv mv ns))) (hv:lk cur n=some v) (hm:∀m∈mv n,(lk cur m.other).isSome=true) (hml:(mv n).length≤1000) (hl:cur.length < 1000000) (b:Bool) (a0 a1 o6:Option D) :
  B_r [a0,a1,some (.ob p),some (.ob q),some (nN n),some (.bl b),o6] O = .nx [a0,a1,some (.ob p),some (.ob q),some (nN n),some (.bl (b || better v (lc cur (mv n)))),some (oD (lc cur (mv n)))] (if better v (lc cur (mv n))=true then O.set p (.dt (tab (pu cur n (lc cur (mv n))))) else O):=by
 have s1:Qbx (Qab 3) (Qab 4) [a0,a1,some (.ob p),some (.ob q),some (nN n),some (.bl b),o6] O = .ok (.lst ((mv n).map d3)) O:=Qvm rfl hq rfl (Qmt mv n ns hn);have s2:Qas Qcg (Qaa (Qbx (Qab 3) (Qab 4)) (Qaa (Qab 2) Qae)) [a0,a1,some (.ob p),some (.ob q),some (nN n),some (.bl b),o6] O = .ok (oD (lc cur (mv n))) O:=(QaL (maS s1 (ma1 rfl))).trans (QnJ hp hm hml)
 have e2:∀o6':Option D,Qbx (mG (Qab 2)) (Qab 4) [a0,a1,some (.ob p),some (.ob q),some (nN n),some (.bl b),o6'] O = .ok (oD v) O:=fun o6'=>Qkw rfl hp rfl hv
 unfold B_r;rw [sq (QaW s2)];show QaX _ _ _ [a0,a1,some (.ob p),some (.ob q),some (nN n),some (.bl b),some (oD (lc cur (mv n)))] O=_
 cases hL:lc cur (mv n) with
 | none =>
  refine (if_no ?_).trans ?_
  ·rw [QeX];rfl
  ·show Fl.nx _ O=_;simp [better]
 | some c =>
  have hput:(Qah (QcC (mG (Qab 2)) (Qab 4) (Qab 6)) (Qan 5 (mC (.bl true)))) [a0,a1,some (.ob p),some (.ob q),some (nN n),some (.bl b),some (oD (some c))] O = .nx [a0,a1,some (.ob p),some (.ob q),some (nN n),some (.bl true),some (oD (some c))] (O.set p (.dt (tab (pu cur n (some c))))):=by
   rw [sq (QnG (v:=some c) rfl rfl hp rfl hl)];rfl
  have tA:Qav (Qek (Qab 6)) [a0,a1,some (.ob p),some (.ob q),some (nN n),some (.bl b),some (oD (some c))] O = .ok true O:=rfl
  have tB:Qav (Qgu (Qbx (mG (Qab 2)) (Qab 4))) [a0,a1,some (.ob p),some (.ob q),some (nN n),some (.bl b),some (oD (some c))] O = .ok (isNon (oD v)) O:=by
   rw [QcV,Qxh,e2,Qar,Qar,Qc6]
  cases v with
  | none =>
   refine (Qc9 ?_).trans ?_
   ·rw [QeX,tA,Qar,if_pos rfl,QoD,tB,Qar];rfl
   ·rw [hput];simp [better]
  | some w =>
   have tC:Qav (Qaf gLt (Qab 6) (Qbx (mG (Qab 2)) (Qab 4))) [a0,a1,some (.ob p),some (.ob q),some (nN n),some (.bl b),some (oD (some c))] O = .ok (decide (c < w)) O:=QeB (QaM (x:=.int c) rfl (e2 _) rfl)
   have tD:QdJ (Qav (Qek (Qab 6))) (Qg6 (Qav (Qgu (Qbx (mG (Qab 2)) (Qab 4)))) (Qav (Qaf gLt (Qab 6) (Qbx (mG (Qab 2)) (Qab 4))))) [a0,a1,some (.ob p),some (.ob q),some (nN n),some (.bl b),some (oD (some c))] O = .ok (decide (c < w)) O:=by
    rw [QeX,tA,Qar,if_pos rfl,QoD,tB,Qar];exact tC
   by_cases hw:c < w
   ·rw [zo hw] at tD;rw [Qc9 tD,hput];simp [better,hw]
   ·rw [zj hw] at tD;rw [if_no tD];show Fl.nx _ O=_;simp [better,hw]
def fnl (fin:Nd→Bool) (L:Nd→Option Int) (n:Nd):Option Int:=if fin n=true then some 0 else L n
theorem QoE {fin:Nd→Bool}{L:Nd→Option Int}{n:Nd}{v:Option Int} (hf:fin n=true→L n=none) (hv:v=ini fin n∨v=fnl fin L n):(if better v (L n)=true then L n else v)=fnl fin L n:=by
 unfold fnl ini at *
 cases h:fin n with
 | true =>
  have:=hf h
  rw [this];rw [h] at hv
  rcases hv with rfl | rfl <;> rfl
 | false =>
  rw [h] at hv
  rcases hv with rfl | rfl
  ·cases L n <;> rfl
  ·simp only [Bool.false_eq_true,if_false]
   split <;> rfl
theorem Qna {fin:Nd→Bool}{L:Nd→Option Int}{n:Nd} (hf:fin n=true→L n=none):better (fnl fin L n) (L n)=false:=by
 unfold fnl
 cases h:fin n with
 | true =>
  rw [hf h];rfl
 | false =>
  simp only [Bool.false_eq_true,if_false]
  cases L n with
  | none=>rfl
  | some c=>simp [better]
theorem Qpj (T:Trl t fs N nodes mv fin) {a:Nat} (ha:a≤N) {base:Tb} (hb:∀n∈nodes a,∀m∈mv n,(lk base m.other).isSome=true) (st:Nd→Option Int) (hst:∀n∈nodes a,st n=ini fin n∨st n=fnl fin (fun n=>lc base (mv n)) n) (a0 a1:Option D) :
  ∀(rest:List Nd) (O:Qac) (cur:Tb) (b:Bool) (o4 o6:Option D),(∀n∈rest,n∈nodes a)→rest.Nodup→O[p]? = some (.dt (tab cur))→O[q]? = some (.df (Qbv mv (nodes a)))→p≠q→(∀m,m∉nodes a→lk cur m=lk base m)→(∀n∈rest,lk cur n=some (st n))→cur.length < 1000000 →
  ∃O' cur' o4' o6',Qbw (mgN 4) B_r (rest.map nN) [a0,a1,some (.ob p),some (.ob q),o4,some (.bl b),o6] O = .nx [a0,a1,some (.ob p),some (.ob q),o4',some (.bl (b || rest.any fun n=>better (st n) (lc base (mv n)))),o6'] O'∧O'[p]? = some (.dt (tab cur'))∧(∀j,j≠p→O'[j]? = O[j]?)∧(∀m,lk cur' m=if m∈rest then some (fnl fin (fun n=>lc base (mv n)) m) else lk cur m)∧cur'.length≤cur.length
 | [],O,cur,b,o4,o6,_,_,hp,_,_,_,_,_=>⟨O,cur,o4,o6,by simp [Qbw],hp,fun _ _=>rfl,fun m=>by simp,ze _⟩
 | n::rest,O,cur,b,o4,o6,hr,hd,hp,hq,hpq,hc,hs,hl=>by
  have hn:=hr n zu;have hd':=List.nodup_cons.mp hd
  have far:∀m∈mv n,m.other∉nodes a:=fun m hm z=>by
   obtain ⟨b,b1,b2,b3⟩:=T.fw a n ha hn m hm
   have:=T.sp a b _ z b3
   omega
  have eL:lc cur (mv n)=lc base (mv n):=Qhi fun m hm=>hc _ (far m hm)
  have hm:∀m∈mv n,(lk cur m.other).isSome=true:=fun m hm=>by rw [hc _ (far m hm)]; exact hb n hn m hm
  have eb:=Qu2 hn hp hq (hs n zu) hm (T.ml n) hl b a0 a1 o6;rw [eL] at eb;have fx:=QoE (L:=fun n=>lc base (mv n)) (fun h=>by show lc base (mv n)=none; rw [T.fe n h]; rfl) (hst n hn)
  have hsome:(lk cur n).isSome=true:=by rw [hs n zu]; rfl
  have go:∀(O1:Qac) (cur1:Tb),O1[p]? = some (.dt (tab cur1))→(∀j,j≠p→O1[j]? = O[j]?)→(∀m,lk cur1 m=if m=n then some (fnl fin (fun n=>lc base (mv n)) n) else lk cur m)→cur1.length≤cur.length→(if better (st n) (lc base (mv n))=true then O.set p (.dt (tab (pu cur n (lc base (mv n))))) else O)=O1 →
    ∃O' cur' o4' o6',Qbw (mgN 4) B_r ((n::rest).map nN) [a0,a1,some (.ob p),some (.ob q),o4,some (.bl b),o6] O = .nx [a0,a1,some (.ob p),some (.ob q),o4',some (.bl (b || (n::rest).any fun n=>better (st n) (lc base (mv n)))),o6'] O'∧O'[p]? = some (.dt (tab cur'))∧(∀j,j≠p→O'[j]? = O[j]?)∧(∀m,lk cur' m=if m∈n::rest then some (fnl fin (fun n=>lc base (mv n)) m) else lk cur m)∧cur'.length≤cur.length:=fun O1 cur1 k1 k2 k3 k4 k5=>by
   obtain ⟨O',cur',o4',o6',e,g1,g2,g3,g4⟩:=Qpj T ha hb st hst a0 a1 rest O1 cur1 (b || better (st n) (lc base (mv n))) (some (nN n)) (some (oD (lc base (mv n)))) (fun m hm=>hr m (zv _ hm)) hd'.2 k1 ((k2 q (Ne.symm hpq)).trans hq) hpq (fun m hm=>by
     rw [k3 m,if_neg (fun z:m=n=>hm (by rw [z]; exact hn))]
     exact hc m hm) (fun m hm=>by
     rw [k3 m,if_neg (fun z:m=n=>hd'.1 (by rw [←z]; exact hm))]
     exact hs m (zv _ hm)) (by omega)
   refine ⟨O',cur',o4',o6',?_,g1,fun j hj=>(g2 j hj).trans (k2 j hj),fun m=>?_,by omega⟩
   ·rw [zc];unfold Qbw;rw [mg_n];dsimp only
    show (match B_r [a0,a1,some (.ob p),some (.ob q),some (nN n),some (.bl b),o6] O with
     | .nx ρ' O'=>Qbw _ _ (rest.map nN) ρ' O' | .ct ρ' O'=>Qbw _ _ (rest.map nN) ρ' O' | .bk ρ' O'=>Fl.nx ρ' O' | r=>r)=_
    rw [eb,k5];rw [List.any_cons,←Bool.or_assoc];exact e
   ·rw [g3 m,k3 m]
    by_cases hmn:m=n
    ·subst hmn;simp [hd'.1]
    ·simp [hmn]
  cases hbt:better (st n) (lc base (mv n)) with
  | true =>
   rw [hbt] at fx;refine go (O.set p (.dt (tab (pu cur n (lc base (mv n)))))) (pu cur n (lc base (mv n))) (Qmp hp) (fun j hj=>by rw [zl (Ne.symm hj)]) (fun m=>?_) (Nat.le_of_eq (QtV hsome)) (by rw [hbt]; rfl);rw [Qp9,←fx];rfl
  | false =>
   rw [hbt] at fx;refine go O cur hp (fun _ _=>rfl) (fun m=>?_) (ze _) (by rw [hbt]; rfl)
   split
   ·rename_i hmn;rw [hmn,←fx];exact hs n zu
   ·rfl
end
def B_n:MS:=(Qah (Qan 5 (mC (.bl false)))
  (QgR 3 (QbI (QgX (Qab 3)) (mgN 4) B_r)))
section
variable {t:Nat}{fs:List (Str×D)}{N:Nat}{nodes:Nat→List Nd}{mv:Nd→List M3}{fin:Nd→Bool}{p q:Nat}
theorem Qq3 (T:Trl t fs N nodes mv fin) {a:Nat} (ha:a≤N) {base:Tb} (hb:∀n∈nodes a,∀m∈mv n,(lk base m.other).isSome=true) (st:Nd→Option Int) (hst:∀n∈nodes a,st n=ini fin n∨st n=fnl fin (fun n=>lc base (mv n)) n) (a0 a1 o4 o5 o6:Option D) {O:Qac}{cur:Tb}
  (hp:O[p]? = some (.dt (tab cur))) (hq:O[q]? = some (.dt (Qbv mv (nodes a)))) (hpq:p≠q) (hc:∀m,m∉nodes a→lk cur m=lk base m) (hs:∀n∈nodes a,lk cur n=some (st n)) (hl:cur.length < 1000000) :
  ∃O' cur' o4' o6',B_n [a0,a1,some (.ob p),some (.ob q),o4,o5,o6] O = .nx [a0,a1,some (.ob p),some (.ob q),o4',some (.bl ((nodes a).any fun n=>better (st n) (lc base (mv n)))),o6'] O'∧O'[p]? = some (.dt (tab cur'))∧O'[q]? = some (.dt (Qbv mv (nodes a)))∧(∀j,j≠p→j≠q→O'[j]? = O[j]?)∧(∀m,m∉nodes a→lk cur' m=lk base m)∧(∀n∈nodes a,lk cur' n=some (fnl fin (fun n=>lc base (mv n)) n))∧cur'.length≤cur.length:=by
 have hq1:(O.set q (.df (Qbv mv (nodes a))))[q]? = some (.df (Qbv mv (nodes a))):=Qmp hq
 have hp1:(O.set q (.df (Qbv mv (nodes a))))[p]? = some (.dt (tab cur)):=by rw [zl (Ne.symm hpq)]; exact hp
 obtain ⟨O',cur',o4',o6',e,g1,g2,g3,g4⟩:=Qpj T ha hb st hst a0 a1 (nodes a) (O.set q (.df (Qbv mv (nodes a)))) cur false o4 o6 (fun n h=>h) (T.nd a) hp1 hq1 hpq hc hs hl;rw [Bool.false_or] at e;have hq2:O'[q]? = some (.df (Qbv mv (nodes a))):=(g2 q (Ne.symm hpq)).trans hq1;refine ⟨O'.set q (.dt (Qbv mv (nodes a))),cur',o4',o6',?_,?_,Qmp hq2,fun j j1 j2=>?_,fun m hm=>?_,fun n hn=>?_,g4⟩
 ·have ek:QgX (Qab 3) [a0,a1,some (.ob p),some (.ob q),o4,some (.bl false),o6] O = .ok ((nodes a).map nN) (O.set q (.df (Qbv mv (nodes a)))):=by
   unfold QgX;rw [show (Qab 3) [a0,a1,some (.ob p),some (.ob q),o4,some (.bl false),o6] O = .ok (.ob q) O from rfl];dsimp only [Qar];rw [hq];dsimp only;rw [QqC]
  have ef:QbI (QgX (Qab 3)) (mgN 4) B_r [a0,a1,some (.ob p),some (.ob q),o4,some (.bl false),o6] O = .nx [a0,a1,some (.ob p),some (.ob q),o4',some (.bl ((nodes a).any fun n=>better (st n) (lc base (mv n)))),o6'] O':=by
   rw [Qf7,ek,QeN,e]
  unfold B_n;rw [sq (QaW (m_c (d:=.bl false)))];show QgR 3 _ [a0,a1,some (.ob p),some (.ob q),o4,some (.bl false),o6] O=_;unfold QgR;show (match O[q]? with | some (.dt _)=>_ | _=>Fl.no)=_;rw [hq];dsimp only;rw [ef];dsimp only;rw [hq2]
 ·rw [zl (Ne.symm hpq)];exact g1
 ·rw [zl (Ne.symm j2),g2 j j1,zl (Ne.symm j2)]
 ·rw [g3 m,if_neg hm];exact hc m hm
 ·rw [g3 n,if_pos hn]
theorem Qim {t:L2.M Bool}{b:MS}{k:Nat}{ρ ρ2:Qak}{O O2:Qac} (h:t ρ O = .ok true O) (hb:b ρ O = .nx ρ2 O2):QbW t b (k+1) ρ O=QbW t b k ρ2 O2:=by
 show (match t ρ O with | .ok true O1=>(match b ρ O1 with | .nx ρ2 O2=>QbW t b k ρ2 O2 | .ct ρ2 O2=>QbW t b k ρ2 O2 | .bk ρ2 O2=>Fl.nx ρ2 O2 | r=>r) | .ok false O1=>.nx ρ O1 | .ex x O'=>.ex x O' | .no=>.no)=_;rw [h];dsimp only;rw [hb]
theorem Qln {t:L2.M Bool}{b:MS}{k:Nat}{ρ:Qak}{O:Qac} (h:t ρ O = .ok false O):QbW t b (k+1) ρ O = .nx ρ O:=by
 show (match t ρ O with | .ok true O1=>(match b ρ O1 with | .nx ρ2 O2=>QbW t b k ρ2 O2 | .ct ρ2 O2=>QbW t b k ρ2 O2 | .bk ρ2 O2=>Fl.nx ρ2 O2 | r=>r) | .ok false O1=>.nx ρ O1 | .ex x O'=>.ex x O' | .no=>.no)=_;rw [h]
theorem QtR (T:Trl t fs N nodes mv fin) {a:Nat} (ha:a≤N) {O:Qac}{cur:Tb} (ht:O[t]? = some (.ins "Even" fs)) (hp:O[p]? = some (.dt (tab cur))) (hb:∀n∈nodes a,∀m∈mv n,(lk cur m.other).isSome=true) (hl:cur.length < 900000) :
  ∃O' cur',QcT [.ob t,.int a,.ob p] O = .ok .non O'∧O'[p]? = some (.dt (tab cur'))∧(∀(j:Nat) (x:Ob),j≠p→O[j]? = some x→O'[j]? = some x)∧(∀m,m∉nodes a→lk cur' m=lk cur m)∧(∀n∈nodes a,lk cur' n=some (fnl fin (fun n=>lc cur (mv n)) n))∧cur'.length≤cur.length+1:=by
 have hln:=T.ln a;have hpl:=(zk.mp hp).1;have htl:=(zk.mp ht).1;have hpq:p≠O.length:=zt hpl
 have ht1:(O ++ [Ob.dt []])[t]? = some (.ins "Even" fs):=by rw [zz htl]; exact ht
 have hp1:(O ++ [Ob.dt []])[p]? = some (.dt (tab cur)):=by rw [zz hpl]; exact hp
 have hq1:(O ++ [Ob.dt []])[O.length]? = some (.dt (Qbv mv [])):=by simp [Qbv]
 obtain ⟨O1,cur1,o4,e1,f1,f2,f3,f4,f5⟩:=QmG T ha hpq none none (nodes a) [] (O ++ [Ob.dt []]) cur none (fun n h=>h) (T.nd a) ht1 hp1 hq1 (by omega) (by simp; omega);rw [zS] at f2
 have far:∀n∈nodes a,∀m∈mv n,m.other∉nodes a:=fun n hn m hm z=>by
  obtain ⟨b,b1,b2,b3⟩:=T.fw a n ha hn m hm
  have:=T.sp a b _ z b3
  omega
 have hf:∀n,fin n=true→lc cur (mv n)=none:=fun n h=>by rw [T.fe n h]; rfl
 obtain ⟨O2,cur2,o4',o6',e2,g1,g2,g3,g4,g5,g6⟩:=Qq3 (base:=cur) T ha hb (ini fin) (fun n _=>.inl rfl) (some (.ob t)) (some (.int a)) o4 (some (.bl true)) none f1 f2 hpq (fun m hm=>by rw [f4 m,if_neg hm]) (fun n hn=>by rw [f4 n,if_pos hn]) (by omega);obtain ⟨O3,cur3,o4'',o6'',e3,k1,k2,k3,k4,k5,k6⟩:=Qq3 (base:=cur) T ha hb (fnl fin fun n=>lc cur (mv n)) (fun n _=>.inr rfl) (some (.ob t)) (some (.int a)) o4' (some (.bl true)) o6' g1 g2 hpq g4 g5 (by omega)
 have z3:((nodes a).any fun n=>better (fnl fin (fun n=>lc cur (mv n)) n) (lc cur (mv n)))=false:=by
  rw [List.any_eq_false];intro n _;rw [Qna (L:=fun n=>lc cur (mv n)) (hf n)];exact zg
 rw [z3] at e3;have hnew:Qiq [some (.ob t),some (.int a),some (.ob p),none,none,none,none] O = .ok (.ob O.length) (O ++ [Ob.dt []]):=rfl;have s2:(QbZ (Qbe "Even" "nodes_at" Qb6 (mG (Qab 0)) (Qaa (Qab 1) Qae))) [some (.ob t),some (.int a),some (.ob p),some (.ob O.length),none,none,none] (O ++ [Ob.dt []]) = .ok ((nodes a).map nN) (O ++ [Ob.dt []]):=QjY ((Qdq rfl ht1 T.u1 (ma1 rfl)).trans (T.na _ a ht1 ha))
 have s3:QbI (QbZ (Qbe "Even" "nodes_at" Qb6 (mG (Qab 0)) (Qaa (Qab 1) Qae))) (mgN 4) B_1 [some (.ob t),some (.int a),some (.ob p),some (.ob O.length),none,none,none] (O ++ [Ob.dt []]) = .nx [some (.ob t),some (.int a),some (.ob p),some (.ob O.length),o4,none,none] O1:=by
  rw [Qf7,s2,QeN,e1]
 have old:∀(j:Nat) (x:Ob),j≠p→O[j]? = some x→O1[j]? = some x:=fun j x hj hx=>by
  have:=(zk.mp hx).1
  rw [f3 j hj (by omega),zz this];exact hx
 have nq:∀(j:Nat) (x:Ob),O[j]? = some x→j≠O.length:=fun j x hx=>zt (zk.mp hx).1
 have fin':∀(O':Qac) (cur':Tb) (x4 x6:Option D),QbW (Qb4 (Qab 5)) B_n 10 [some (.ob t),some (.int a),some (.ob p),some (.ob O.length),o4,some (.bl true),none] O1 = .nx [some (.ob t),some (.int a),some (.ob p),some (.ob O.length),x4,some (.bl false),x6] O'→O'[p]? = some (.dt (tab cur'))→(∀(j:Nat) (x:Ob),j≠p→O[j]? = some x→O'[j]? = some x)→(∀m,m∉nodes a→lk cur' m=lk cur m)→(∀n∈nodes a,lk cur' n=some (fnl fin (fun n=>lc cur (mv n)) n))→cur'.length≤cur.length+1 →
   ∃O' cur',QcT [.ob t,.int a,.ob p] O = .ok .non O'∧O'[p]? = some (.dt (tab cur'))∧(∀(j:Nat) (x:Ob),j≠p→O[j]? = some x→O'[j]? = some x)∧(∀m,m∉nodes a→lk cur' m=lk cur m)∧(∀n∈nodes a,lk cur' n=some (fnl fin (fun n=>lc cur (mv n)) n))∧cur'.length≤cur.length+1:=fun O' cur' x4 x6 hw h1 h2 h3 h4 h5=>by
  refine ⟨O',cur',?_,h1,h2,h3,h4,h5⟩;unfold B_1 at s3;unfold B_n B_r at hw;show QaZ (QdL [some (.ob t),some (.int a),some (.ob p),none,none,none,none] O)=_;unfold QdL;rw [sq (QjS hnew)];show QaZ (Qah _ _ [some (.ob t),some (.int a),some (.ob p),some (.ob O.length),none,none,none] (O ++ [Ob.dt []]))=_;rw [sq s3,sq (QaW (m_c (d:=.bl true)))];show QaZ (QcJ 10 _ _ [some (.ob t),some (.int a),some (.ob p),some (.ob O.length),o4,some (.bl true),none] O1)=_;unfold QcJ;rw [hw];rfl
 cases hb1:(nodes a).any fun n=>better (ini fin n) (lc cur (mv n)) with
 | true =>
  rw [hb1] at e2;refine fin' O3 cur3 o4'' o6'' ?_ k1 (fun j x hj hx=>by rw [k3 j hj (nq j x hx),g3 j hj (nq j x hx)]; exact old j x hj hx) k4 k5 (by omega);rw [Qim rfl e2,Qim rfl e3,Qln rfl]
 | false =>
  rw [hb1] at e2;refine fin' O2 cur2 o4' o6' ?_ g1 (fun j x hj hx=>by rw [g3 j hj (nq j x hx)]; exact old j x hj hx) g4 g5 (by omega);rw [Qim rfl e2,Qln rfl]
end
theorem QhL {α:Type}{g:MG}{t:L2.M Bool}{m:L2.M D} (Pv:Qak→Prop) (p:α→Bool) (f:α→D):∀(xs:List α) (ρ:Qak) (O:Qac) (acc:List D),Pv ρ→(∀x∈xs,∀ρ,Pv ρ→∃ρ1,g (f x) ρ=some ρ1∧Pv ρ1∧t ρ1 O = .ok (p x) O∧m ρ1 O = .ok (f x) O)→QbK g t m (xs.map f) ρ O acc = .ok (acc++(xs.filter p).map f) O
 | [],ρ,O,acc,_,_=>by simp [QbK]
 | x::xs,ρ,O,acc,h,hs=>by
  obtain ⟨ρ1,e1,h1,e2,e3⟩:=hs x zu ρ h
  have ih:=fun acc=>QhL (g:=g) (t:=t) (m:=m) Pv p f xs ρ1 O acc h1 fun d' hd'=>hs d' (zv _ hd')
  rw [zc];unfold QbK;rw [e1];dsimp only;rw [e2]
  cases q:p x with
  | true =>
   dsimp only;rw [e3];dsimp only;rw [ih,List.filter_cons,q];simp
  | false =>
   dsimp only;rw [ih,List.filter_cons,q];simp
theorem Qr9 (b:Nat):QcF (((b+1:Nat):Int) - 1) (b+1) = .int (b:Int)::QcF ((b:Int) - 1) b:=by
 unfold QcF;rw [List.range_succ_eq_map,zc,zR];congr 1
 ·show D.int _=_;congr 1;omega
 ·refine jn fun i _=>?_
  show D.int _=D.int _;congr 1;omega
def Pri (N:Nat) (nodes:Nat→List Nd) (mv:Nd→List M3) (fin:Nd→Bool) (b:Nat) (cur:Tb):Prop:=∀c,b≤c→c≤N→∀n∈nodes c,lk cur n=some (fnl fin (fun n=>lc cur (mv n)) n)
def B_p:MS:=(QhZ (Qas QcT (Qaa (Qab 0) (Qaa (Qab 2) (Qaa (Qab 1) Qae)))))
section
variable {t:Nat}{fs:List (Str×D)}{N:Nat}{nodes:Nat→List Nd}{mv:Nd→List M3}{fin:Nd→Bool}{p q:Nat}
theorem Qqj (T:Trl t fs N nodes mv fin):∀(b:Nat) (O:Qac) (cur:Tb) (o2:Option D),b≤N+1→O[t]? = some (.ins "Even" fs)→O[p]? = some (.dt (tab cur))→Pri N nodes mv fin b cur→cur.length+10 * b≤800000 →
  ∃O' cur' o2',Qbw (mgN 2) B_p (QcF ((b:Int) - 1) b) [some (.ob t),some (.ob p),o2] O = .nx [some (.ob t),some (.ob p),o2'] O'∧O'[p]? = some (.dt (tab cur'))∧(∀(j:Nat) (x:Ob),j≠p→O[j]? = some x→O'[j]? = some x)∧Pri N nodes mv fin 0 cur'∧cur'.length≤cur.length+b
 | 0,O,cur,o2,_,_,hp,hP,_=>⟨O,cur,o2,rfl,hp,fun _ _ _ h=>h,hP,by omega⟩
 | a+1,O,cur,o2,hb,ht,hp,hP,hl=>by
  have ha:a≤N:=by omega
  have hbs:∀n∈nodes a,∀m∈mv n,(lk cur m.other).isSome=true:=fun n hn m hm=>by
   obtain ⟨c,c1,c2,c3⟩:=T.fw a n ha hn m hm;rw [hP c (by omega) c2 _ c3];rfl
  obtain ⟨O1,cur1,e,g1,g2,g3,g4,g5⟩:=QtR T ha ht hp hbs (by omega);have tp:t≠p:=Qiu ht hp (fun z=>nomatch z)
  have hP1:Pri N nodes mv fin a cur1:=fun c c1 c2 n hn=>by
   have far:∀m∈mv n,lk cur1 m.other=lk cur m.other:=fun m hm=>g3 _ fun z=>by
    obtain ⟨d,d1,d2,d3⟩:=T.fw c n c2 hn m hm
    have:=T.sp a d _ z d3
    omega
   have eL:lc cur1 (mv n)=lc cur (mv n):=Qhi far
   have eF:fnl fin (fun n=>lc cur1 (mv n)) n=fnl fin (fun n=>lc cur (mv n)) n:=by
    show (if fin n=true then some 0 else lc cur1 (mv n))=_;rw [eL];rfl
   rw [eF]
   by_cases hc:c=a
   ·subst hc;exact g4 n hn
   ·rw [g3 n fun z=>hc (T.sp c a n hn z)];exact hP c (by omega) c2 n hn
  obtain ⟨O',cur',o2',e2,k1,k2,k3,k4⟩:=Qqj T a O1 cur1 (some (.int (a:Int))) (by omega) (g2 t _ tp ht) g1 hP1 (by omega);refine ⟨O',cur',o2',?_,k1,fun j x hj hx=>k2 j x hj (g2 j x hj hx),k3,by omega⟩;rw [Qr9];unfold Qbw;rw [mg_n];dsimp only
  have eb:B_p [some (.ob t),some (.ob p),some (.int (a:Int))] O = .nx [some (.ob t),some (.ob p),some (.int (a:Int))] O1:=by
   unfold B_p;rw [Qts,QaL (maS rfl (maS rfl (ma1 rfl))),e,Qrj]
  show (match B_p [some (.ob t),some (.ob p),some (.int (a:Int))] O with
   | .nx ρ' O'=>Qbw _ _ (QcF ((a:Int) - 1) a) ρ' O' | .ct ρ' O'=>Qbw _ _ (QcF ((a:Int) - 1) a) ρ' O' | .bk ρ' O'=>Fl.nx ρ' O' | r=>r)=_
  rw [eb];exact e2
theorem QrM (T:Trl t fs N nodes mv fin) {O:Qac} (ht:O[t]? = some (.ins "Even" fs)):∃O' cur,Qhc [.ob t] O = .ok (.ob O.length) O'∧O'[O.length]? = some (.dt (tab cur))∧(∀(j:Nat) (x:Ob),O[j]? = some x→O'[j]? = some x)∧Pri N nodes mv fin 0 cur∧cur.length≤N+1:=by
 have hN:=T.hN;have htl:=(zk.mp ht).1
 have ht1:(O ++ [Ob.dt []])[t]? = some (.ins "Even" fs):=by rw [zz htl]; exact ht
 obtain ⟨O',cur,o2,e,g1,g2,g3,g4⟩:=Qqj (p:=O.length) T (N+1) (O ++ [Ob.dt []]) [] none (ze _) ht1 (by simp [tab]) (fun c c1 c2=>absurd c1 (by omega)) (by simp; omega);refine ⟨O',cur,?_,g1,fun j x hx=>?_,g3,by rw [zV] at g4; omega⟩
 ·have er:Qlw (Qaa (Qbe "Even" "last_at" QcL (mG (Qab 0)) Qae) (Qaa (mUn Qev (mC (.int 1))) (Qaa (mUn Qev (mC (.int 1))) Qae))) [some (.ob t),some (.ob O.length),none] (O ++ [Ob.dt []]) = .ok (QcF (((N+1:Nat):Int) - 1) (N+1)) (O ++ [Ob.dt []]):=by
   unfold Qlw;rw [maS ((Qdq rfl ht1 T.u4 rfl).trans (T.la _ ht1)) (maS (x:=.int (-1)) rfl (ma1 (x:=.int (-1)) rfl))];dsimp only [Qar];rw [if_pos ⟨rfl,by omega,by omega,by decide,by decide⟩];congr 1;rw [show ((N:Int) - -1).toNat=N+1 by omega,show (((N+1:Nat):Int) - 1)=(N:Int) by omega]
  unfold B_p at e;show QaZ (Qht [some (.ob t),none,none] O)=_;unfold Qht;rw [sq (QjS (show Qiq [some (.ob t),none,none] O = .ok (.ob O.length) (O ++ [Ob.dt []]) from rfl))];show QaZ (Qah _ _ [some (.ob t),some (.ob O.length),none] (O ++ [Ob.dt []]))=_;rw [QaN,Qf7,er,QeN,e,QaR];rfl
 ·have:=(zk.mp hx).1
  exact g2 j x (by omega) (by rw [zz this]; exact hx)
theorem Qkz:∀(l:List Int) (b:Option Int) (c:Int),mdI b l=some c→b=some c∨c∈l
 | [],b,c,h=>.inl (by cases b <;> exact h)
 | n::r,none,c,h=>by
  rcases Qkz r (some n) c h with h | h
  ·exact .inr (by rw [zE h]; exact zu)
  ·exact .inr (zv _ h)
 | n::r,some m,c,h=>by
  rcases Qkz r (some (if n < m then n else m)) c h with h | h
  ·split at h
   ·exact .inr (by rw [zE h]; exact zu)
   ·exact .inl h
  ·exact .inr (zv _ h)
theorem QlT:∀(l:List Int) (b:Int),∃c,mdI (some b) l=some c
 | [],b=>⟨b,rfl⟩
 | n::r,b=>QlT r (if n < b then n else b)
theorem Qvu {l:List Int} (h:l≠[]):∃c,mdI none l=some c:=by
 cases l with
 | nil=>exact absurd rfl h
 | cons n r=>exact QlT r n
theorem QvN (x y:Option Int):gEq (oD x) (oD y)=some (.bl (decide (x=y))):=by
 cases x with
 | none=>cases y <;> rfl
 | some i =>
  cases y with
  | none=>rfl
  | some j =>
   show some (D.bl (decide (i=j)))=_;congr 2;exact decide_eq_decide.mpr ⟨fun h=>by rw [h],fun h=>zE h⟩
theorem Qk5 {α:Type} (f:α→Bool) (g:α→D) (h:α→Bool):∀(ms:List α) (m:α),ms.find? f=some m→((ms.filter f).map g)[0]? = some (g m)
 | x::ms,m,e=>by
  rw [List.find?_cons] at e
  cases hx:f x with
  | true =>
   rw [hx] at e;cases e;simp [hx]
  | false =>
   rw [hx] at e;rw [List.filter_cons,hx];exact Qk5 f g h ms m e
theorem QxR {O:Qac}{ps:Tb}{ms:List M3}{c:Int} (hp:O[p]? = some (.dt (tab ps))) (hm:∀m∈ms,(lk ps m.other).isSome=true) (hl:ms.length≤1000) (hc:lc ps ms=some c) :
  ∃m,ms.find? (fun m=>decide (co ps m=lc ps ms))=some m∧m∈ms∧co ps m=some c∧Qch [.lst (ms.map d3),.ob p] O = .ok (d3 m) O:=by
 obtain ⟨x,hx,hxc⟩:∃x∈ms,co ps x=some c:=by
  rcases Qkz _ _ _ hc with h | h
  ·cases h
  ·exact List.mem_filterMap.mp h
 obtain ⟨m,em⟩:∃m,ms.find? (fun m=>decide (co ps m=lc ps ms))=some m:=by
  cases e:ms.find? (fun m=>decide (co ps m=lc ps ms)) with
  | some m=>exact ⟨m,rfl⟩
  | none =>
   have:=List.find?_eq_none.mp e x hx
   rw [hxc,hc] at this;simp at this
 have hmm:=List.mem_of_find?_eq_some em
 have hmc:co ps m=some c:=by
  have:=List.find?_some em
  rw [←hc];exact jp this
 refine ⟨m,em,hmm,hmc,?_⟩;have s1:Qas Qcg (Qaa (Qab 0) (Qaa (Qab 1) Qae)) [some (.lst (ms.map d3)),some (.ob p),none] O = .ok (oD (lc ps ms)) O:=(QaL (maS rfl (ma1 rfl))).trans (QnJ hp hm hl)
 have c1:QbK (mgN 0) (Qav (Qaf gEq (Qas QbU (Qaa (Qab 0) (Qaa (Qab 1) Qae))) (Qab 2))) (Qab 0) (ms.map d3) [none,some (.ob p),some (oD (lc ps ms))] O [] = .ok ((ms.filter fun m=>decide (co ps m=lc ps ms)).map d3) O:=by
  rw [QhL (fun ρ=>∃a,ρ = [a,some (.ob p),some (oD (lc ps ms))]) (fun m=>decide (co ps m=lc ps ms)) d3 ms _ _ _ ⟨none,rfl⟩ (by
   rintro m' hm' ρ ⟨a,rfl⟩
   exact ⟨_,rfl,⟨_,rfl⟩,QeB (QaM ((QaL (maS rfl (ma1 rfl))).trans (Qtd hp (hm m' hm'))) (y:=oD (lc ps ms)) rfl (by
    rw [show QaI O (oD (co ps m'))=oD (co ps m') by cases co ps m' <;> rfl,show QaI O (oD (lc ps ms))=oD (lc ps ms) by cases lc ps ms <;> rfl,QvN])),rfl⟩)]
  rw [zS]
 have s2:Qcb (QbZ (Qab 0)) 1 [1,2] (mgN 0) (Qav (Qaf gEq (Qas QbU (Qaa (Qab 0) (Qaa (Qab 1) Qae))) (Qab 2))) (Qab 0) [some (.lst (ms.map d3)),some (.ob p),some (oD (lc ps ms))] O = .ok (.lst ((ms.filter fun m=>decide (co ps m=lc ps ms)).map d3)) O:=QgL (QjY rfl) (by rw [zh]; omega) rfl c1
 have s3:Qaf gIx (Qcb (QbZ (Qab 0)) 1 [1,2] (mgN 0) (Qav (Qaf gEq (Qas QbU (Qaa (Qab 0) (Qaa (Qab 1) Qae))) (Qab 2))) (Qab 0)) (mC (.int 0)) [some (.lst (ms.map d3)),some (.ob p),some (oD (lc ps ms))] O = .ok (d3 m) O:=QaM s2 m_c (by
  rw [Qbz,QaO,QiK]
  exact (QeW (j:=0)).trans (Qk5 _ d3 (fun _=>true) ms m em))
 show QaZ (QcO [some (.lst (ms.map d3)),some (.ob p),none] O)=_;unfold QcO;rw [sq (QaW s1),QcU];exact congrArg (fun r=>QaZ (Qjj r)) s3
end
def Wy (ps:Tb) (mv:Nd→List M3) (fin:Nd→Bool):Nd→List M3→Prop
 | n,[]=>fin n=true
 | n,m::ms=>fin n=false∧(mv n).find? (fun m=>decide (co ps m=lc ps (mv n)))=some m∧Wy ps mv fin m.other ms
def B_y:MS:=(Qah (Qan 5 (Qas Qch (Qaa (Qbe "Even" "moves_from" Qa7 (mG (Qab 0)) (Qaa (Qab 2) Qae)) (Qaa (Qab 1) Qae))))
  (Qah (Qcj 4 (Qaf gIx (Qab 5) (mC (.int 1))))
  (Qan 2 (Qaf gIx (Qab 5) (mC (.int 2))))))
section
variable {t:Nat}{fs:List (Str×D)}{N:Nat}{nodes:Nat→List Nd}{mv:Nd→List M3}{fin:Nd→Bool}{p q:Nat}
theorem Qv2 (T:Trl t fs N nodes mv fin) {ps:Tb} (hP:Pri N nodes mv fin 0 ps) {O:Qac} (ht:O[t]? = some (.ins "Even" fs)) (hp:O[p]? = some (.dt (tab ps))) (a3:Option D):∀(k a:Nat) (n:Nd) (c:Int) (nm:List D) (f:Nat) (o5:Option D),a+k=N→n∈nodes a→lk ps n=some (some c)→k < f→nm.length+k < 1000000 →
  ∃ms n' o5',QbW (QcA (Qb4 (Qbe "Even" "is_end" Qbg (mG (Qab 0)) (Qaa (Qab 2) Qae)))) B_y f [some (.ob t),some (.ob p),some (nN n),a3,some (.lst nm),o5] O = .nx [some (.ob t),some (.ob p),some (nN n'),a3,some (.lst (nm++ms.map fun m=>.str m.name)),o5'] O∧Wy ps mv fin n ms∧ms.length≤k:=by
 intro k
 induction k using Nat.strongRecOn with
 | _ k ih =>
  intro a n c nm f o5 hak hn hc hf hl;obtain ⟨f',rfl⟩:∃f',f=f'+1:=⟨f - 1,by omega⟩
  have te:QcA (Qb4 (Qbe "Even" "is_end" Qbg (mG (Qab 0)) (Qaa (Qab 2) Qae))) [some (.ob t),some (.ob p),some (nN n),a3,some (.lst nm),o5] O = .ok (!fin n) O:=by
   rw [QqX,Qj5,(Qdq rfl ht T.u3 (ma1 rfl)).trans (T.ie O a n ht (by omega) hn),Qar,QfY,QgH,QfP,Qar]
  cases hfin:fin n with
  | true =>
   rw [hfin] at te;exact ⟨[],n,o5,by rw [Qln te]; simp,hfin,Nat.zero_le _⟩
  | false =>
   rw [hfin] at te
   have hL:lc ps (mv n)=some c:=by
    have:=hP a (Nat.zero_le _) (by omega) n hn
    rw [hc] at this;have h2:some c=fnl fin (fun n=>lc ps (mv n)) n:=zE this;unfold fnl at h2;rw [hfin,if_neg zg] at h2;exact h2.symm
   have hm:∀m∈mv n,(lk ps m.other).isSome=true:=fun m hm=>by
    obtain ⟨b,b1,b2,b3⟩:=T.fw a n (by omega) hn m hm;rw [hP b (Nat.zero_le _) b2 _ b3];rfl
   obtain ⟨m,e1,hmm,hmc,e2⟩:=QxR hp hm (T.ml n) hL;obtain ⟨b,b1,b2,b3⟩:=T.fw a n (by omega) hn m hmm
   obtain ⟨c',hc'⟩:∃c',lk ps m.other=some (some c'):=by
    unfold co at hmc;split at hmc
    ·rename_i c' e;exact ⟨c',e⟩
    ·cases hmc
   have s1:Qas Qch (Qaa (Qbe "Even" "moves_from" Qa7 (mG (Qab 0)) (Qaa (Qab 2) Qae)) (Qaa (Qab 1) Qae)) [some (.ob t),some (.ob p),some (nN n),a3,some (.lst nm),o5] O = .ok (d3 m) O:=(QaL (maS ((Qdq rfl ht T.u2 (ma1 rfl)).trans (T.mf O a n ht (by omega) hn)) (ma1 rfl))).trans e2
   have eb:B_y [some (.ob t),some (.ob p),some (nN n),a3,some (.lst nm),o5] O = .nx [some (.ob t),some (.ob p),some (nN m.other),a3,some (.lst (nm ++ [.str m.name])),some (d3 m)] O:=by
    unfold B_y;rw [sq (QaW s1)];show Qah _ _ [some (.ob t),some (.ob p),some (nN n),a3,some (.lst nm),some (d3 m)] O=_;rw [sq (Qmd (d:=.str m.name) (ds:=nm) (QaM rfl rfl rfl) rfl (by omega))];rfl
   obtain ⟨ms,n',o5',e3,w3,l3⟩:=ih (N - b) (by omega) b m.other c' (nm ++ [.str m.name]) f' (some (d3 m)) (by omega) b3 hc' (by omega) (by rw [zA,zX]; omega);refine ⟨m::ms,n',o5',?_,⟨hfin,e1,w3⟩,by rw [zy]; omega⟩;rw [Qim te eb,e3,jk];rfl
theorem Qma (T:Trl t fs N nodes mv fin) (hne:∀(a:Nat) (n:Nd),a≤N→n∈nodes a→fin n=false→mv n≠[]) {ps:Tb} (hP:Pri N nodes mv fin 0 ps):∀(k a:Nat) (n:Nd),a+k=N→n∈nodes a→∃c,lk ps n=some (some c):=by
 intro k
 induction k using Nat.strongRecOn with
 | _ k ih =>
  intro a n hak hn;have h1:=hP a (Nat.zero_le _) (by omega) n hn
  cases hfin:fin n with
  | true =>
   refine ⟨0,?_⟩;rw [h1];unfold fnl;rw [hfin,if_pos rfl]
  | false =>
   have h2:lk ps n=some (lc ps (mv n)):=by
    rw [h1];unfold fnl;rw [hfin,if_neg zg]
   obtain ⟨m,hm⟩:=List.exists_mem_of_ne_nil _ (hne a n (by omega) hn hfin);obtain ⟨b,b1,b2,b3⟩:=T.fw a n (by omega) hn m hm;obtain ⟨c,hc⟩:=ih (N - b) (by omega) b m.other (by omega) b3
   have hco:co ps m=some (m.cost+c):=by
    unfold co;rw [hc]
   obtain ⟨c',hc'⟩:=Qvu (l:=(mv n).filterMap (co ps)) (fun z=>by
    have:=List.mem_filterMap.mpr ⟨m,hm,hco⟩
    rw [z] at this
    cases this)
   exact ⟨c',by rw [h2]; exact congrArg some hc'⟩
theorem QsV (T:Trl t fs N nodes mv fin) (hne:∀(a:Nat) (n:Nd),a≤N→n∈nodes a→fin n=false→mv n≠[]) (hF:N < 250) {O:Qac} (ht:O[t]? = some (.ins "Even" fs)) :
  ∃O' ps c ms,QfN [.ob t] O = .ok (.tup [.int c,.lst (ms.map fun m=>.str m.name)]) O'∧(∀(j:Nat) (x:Ob),O[j]? = some x→O'[j]? = some x)∧Pri N nodes mv fin 0 ps∧lk ps (0,0)=some (some c)∧Wy ps mv fin (0,0) ms:=by
 obtain ⟨O',ps,e1,g1,g2,hP,_⟩:=QrM T ht;obtain ⟨c,hc⟩:=Qma T hne hP N 0 (0,0) (Nat.zero_add _) T.f0;have ht':=g2 t _ ht;obtain ⟨ms,n',o5,e2,w2,l2⟩:=Qv2 T hP ht' g1 (some (.int c)) N 0 (0,0) c [] 250 none (Nat.zero_add _) T.f0 hc (by omega) (by simp; omega);refine ⟨O',ps,c,ms,?_,g2,hP,hc,w2⟩;have s1:Qas Qhc (Qaa (Qab 0) Qae) [some (.ob t),none,none,none,none,none] O = .ok (.ob O.length) O':=(QaL (ma1 rfl)).trans e1;have s2:Qbe "Even" "first_node" Qb9 (mG (Qab 0)) Qae [some (.ob t),some (.ob O.length),none,none,none,none] O' = .ok (nN (0,0)) O':=(Qdq rfl ht' T.u5 rfl).trans (T.fi O' ht')
 have s3:Qbx (Qab 1) (Qab 2) [some (.ob t),some (.ob O.length),some (nN (0,0)),none,none,none] O' = .ok (.int c) O':=Qkw rfl g1 rfl hc;unfold B_y at e2;rw [zS] at e2;show QaZ (Qg7 [some (.ob t),none,none,none,none,none] O)=_;unfold Qg7;rw [sq (QjS s1)];show QaZ (Qah _ _ [some (.ob t),some (.ob O.length),none,none,none,none] O')=_;rw [sq (QaW s2)];show QaZ (Qah _ _ [some (.ob t),some (.ob O.length),some (nN (0,0)),none,none,none] O')=_;rw [sq (QaW s3)];show QaZ (Qah _ _ [some (.ob t),some (.ob O.length),some (nN (0,0)),some (.int c),none,none] O')=_;rw [sq (show QaX (Qav (Qgu (Qab 3))) (QaB (mC .non)) QaH [some (.ob t),some (.ob O.length),some (nN (0,0)),some (.int c),none,none] O' = .nx [some (.ob t),some (.ob O.length),some (nN (0,0)),some (.int c),none,none] O' from rfl)]
 rw [sq (QaW (d:=.lst []) (Qjn rfl (Nat.zero_le _)))];show QaZ (Qah (QcJ 250 _ _) _ [some (.ob t),some (.ob O.length),some (nN (0,0)),some (.int c),some (.lst []),none] O')=_;unfold QcJ;rw [sq e2];rfl
end
theorem Qnq {cs:List Str}{f c:Str}{mo mv:L2.M D}{ρ:Qak}{O O1:Qac}{n:Nat}{d:D}{fs:List (Str×D)} (hv:mv ρ O = .ok d O1) (ho:mo ρ O1 = .ok (.ob n) O1) (hO:O1[n]? = some (.ins c fs)) (hc:c∈cs) (hl:fs.length < 900) :
  Qfx cs f mo mv ρ O = .nx ρ (O1.set n (.ins c (putD f d fs))):=by
 rw [Qvx,hv,Qv0,ho];unfold puF;dsimp only;rw [hO];dsimp only;rw [if_pos ⟨hc,hl⟩]
theorem Qks {O:Qac}{o:Ob}:(O ++ [o])[O.length]? = some o:=by
 rw [zK (ze _),Nat.sub_self]; rfl
theorem QlU {O:Qac}{o o':Ob}:(O ++ [o]).set O.length o'=O ++ [o']:=by
 rw [List.set_append_right _ _ (ze _),Nat.sub_self]; rfl
theorem Qob {m:L2.M D}{ρ:Qak}{O:Qac}{d:D}{l:List D} (h:m ρ O = .ok d O) (hd:QaI O d = .lst l):Qaz Qfz (Qaa m Qae) ρ O = .ok (.lst l) O:=by
 rw [Qdo,ma1 h,Qar,zc,zQ,hd,QuB,Qbm]
theorem QsX {m:L2.M D}{ρ:Qak}{O:Qac} (h:m ρ O = .ok (.bl true) O):QcA (Qb4 m) ρ O = .ok false O:=by
 rw [QqX,Qj5,h,Qar,QfY,QgH,QfP,Qar];rfl
theorem QuK {i:Nat}{m:L2.M D}{ρ:Qak}{O O1:Qac}{d:D} (h:m ρ O = .ok d O1):Qan i m ρ O = .nx (ρ.set i (some d)) O1:=by
 rw [Qdf,h,QcK]
theorem QyT {n i:Nat}{d:D} (h:(QaY 0 n)[i]? = some d):i < n∧d = .int (i:Int):=by
 have hi:i < n:=by
  have:=(zk.mp h).1
  rwa [QfB] at this
 have e:QaY 0 n=(List.range n).map fun i:Nat=>D.int ((i:Nat):Int):=by unfold QaY; simp
 rw [e,zx,List.getElem?_range hi] at h;cases h;exact ⟨hi,rfl⟩
theorem QsG {m:L2.M D}{ρ:Qak}{O:Qac}{b:Bool} (h:m ρ O = .ok (.bl b) O):Qb4 m ρ O = .ok b O:=by
 rw [Qj5,h,Qar,QfY,QgH,QfP]
theorem QvM {m:L2.M D}{ρ:Qak}{O:Qac}{d:D}{n t:String} (h:m ρ O = .ok d O) (ht:tyD (QaI O d)=some t):Qgr n m ρ O = .ok (.bl (QcM t n)) O:=by
 rw [QsL,h,Qar,ht,Qmb]
def dK (k:Nat):D:=.tup [.int (k:Int),.int 0]
theorem QxJ (a b:Nat):gEq (dK a) (dK b)=some (.bl (decide ((a:Int)=(b:Int)))):=by
 show (if (okE (dK a)&&okE (dK b))=true then some (D.bl (QeK (dK a) (dK b))) else none)=_
 have e:QeK (dK a) (dK b)=decide ((a:Int)=(b:Int)):=by
  show ((a:Int) == (b:Int)&&((0:Int) == 0&&true))=_
  by_cases h:(a:Int)=(b:Int)
  ·rw [zo h,beq_iff_eq.mpr h]; rfl
  ·rw [zj h,beq_eq_false_iff_ne.mpr h]; rfl
 rw [show okE (dK a)=true from rfl,show okE (dK b)=true from rfl,Bool.and_self,if_pos rfl,e]
def fsE (l:List LT) (w:Int):List (Str×D):=[("letters",.lst (l.map dL)),("wide",.int w)]
def fs1 (l:List LT):List (Str×D):=[("letters",.lst (l.map dL))]
theorem pf1 (l:List LT):putD "letters" (.lst (l.map dL)) []=fs1 l:=rfl
theorem pf2 (l:List LT) (w:Int):putD "wide" (.int w) (fs1 l)=fsE l w:=rfl
theorem lkL (l:List LT) (w:Int):(fsE l w).lookup ("letters":Str)=some (.lst (l.map dL)):=rfl
theorem lkW (l:List LT) (w:Int):(fsE l w).lookup ("wide":Str)=some (.int w):=rfl
theorem QvF (O:Qac) (l:List LT) (w:Int):Qcr [.ob O.length,.lst (l.map dL),.int w] (O ++ [.ins "Even" []]) = .ok .non (O ++ [.ins "Even" (fsE l w)]):=by
 have s1:Qfx ["Even"] "letters" (Qab 0) (Qaz Qfz (Qaa (Qab 1) Qae)) [some (.ob O.length),some (.lst (l.map dL)),some (.int w)] (O ++ [.ins "Even" []]) = .nx [some (.ob O.length),some (.lst (l.map dL)),some (.int w)] (O ++ [.ins "Even" (fs1 l)]):=by
  rw [Qnq (d:=.lst (l.map dL)) (n:=O.length) (c:="Even") (fs:=[]) (Qob (d:=.lst (l.map dL)) rfl rfl) rfl Qks zu (by decide),QlU,pf1]
 have s2:Qfx ["Even"] "wide" (Qab 0) (mG (Qab 2)) [some (.ob O.length),some (.lst (l.map dL)),some (.int w)] (O ++ [.ins "Even" (fs1 l)]) = .nx [some (.ob O.length),some (.lst (l.map dL)),some (.int w)] (O ++ [.ins "Even" (fsE l w)]):=by
  rw [Qnq (d:=.int w) (n:=O.length) (c:="Even") (fs:=fs1 l) rfl rfl Qks zu (show (1:Nat) < 900 by decide),QlU,pf2]
 show QaZ (Qc5 [some (.ob O.length),some (.lst (l.map dL)),some (.int w)] (O ++ [.ins "Even" []]))=_;unfold Qc5;rw [QaN,s1,QaR];exact congrArg QaZ s2
structure Tr (O:Qac) (n:Nat) (l:List LT) (w:Int):Prop where
 ob:O[n]? = some (.ins "Even" (fsE l w))
 le:l.length≤200
 w2:2≤w
 w40:w≤40
theorem QwL {x:Int} (h0:-100000≤x) (h1:x≤100000):Qb2 (.int x) (.int 2)=some (.int (x * x)):=by
 unfold Qb2 gI;dsimp only
 have s:QdY x=true:=by
  unfold QdY;rw [zo (by omega),zo (by omega)];rfl
 rw [if_pos (by rw [s]; rfl)];show some (D.int (x ^ 2))=_;rw [Int.pow_succ,Int.pow_succ,Int.pow_zero,Int.one_mul]
section
variable {O:Qac}{n:Nat}{l:List LT}{w:Int}
theorem f_l (T:Tr O n l w) {i:Nat}{ρ:Qak} (h:Qab i ρ O = .ok (.ob n) O):QdP ["Even"] "letters" (Qab i) ρ O = .ok (.lst (l.map dL)) O:=Qn8 (n:=n) h T.ob zu (lkL _ _)
theorem f_w (T:Tr O n l w) {i:Nat}{ρ:Qak} (h:Qab i ρ O = .ok (.ob n) O):QdP ["Even"] "wide" (Qab i) ρ O = .ok (.int w) O:=Qn8 (n:=n) h T.ob zu (lkW _ _)
theorem l_l (T:Tr O n l w) {i:Nat}{ρ:Qak} (h:Qab i ρ O = .ok (.ob n) O):Qaz Qbn (Qaa (QdP ["Even"] "letters" (Qab i)) Qae) ρ O = .ok (.int (l.length:Int)) O:=by
 have:=QfK (f_l T h)
 rwa [zh] at this
theorem Qrc:Qb9 [.ob n] O = .ok (dK 0) O:=rfl
theorem QrT (k:Nat):Qb6 [.ob n,.int (k:Int)] O = .ok (.lst [dK k]) O:=rfl
theorem Quh (T:Tr O n l w):QcL [.ob n] O = .ok (.int (l.length:Int)) O:=by
 show QaZ (Qdj [some (.ob n)] O)=_;unfold Qdj;rw [QcI (l_l T rfl)];rfl
theorem Qq9 (T:Tr O n l w) (k:Nat):Qbg [.ob n,dK k] O = .ok (.bl (decide ((k:Int)=(l.length:Int)))) O:=by
 show QaZ (QdK [some (.ob n),some (dK k)] O)=_;unfold QdK;rw [QcI (QaM (x:=dK k) (y:=dK l.length) rfl (Qmm (maS (l_l T rfl) (ma1 (x:=.int 0) rfl)) (show (2:Nat)≤1000000 by decide)) (QxJ k l.length))];rfl
theorem Qp1 (T:Tr O n l w) (p:Nat×Int) (h0:0≤p.2) (h1:p.2≤w):Qdk [.ob n,.int (p.1:Int),.int p.2] O = .ok (.int (cst l w p)) O:=by
 have t:Qav (Qaf gEq (Qab 1) (Qaz Qbn (Qaa (QdP ["Even"] "letters" (Qab 0)) Qae))) [some (.ob n),some (.int (p.1:Int)),some (.int p.2)] O = .ok (decide ((p.1:Int)=(l.length:Int))) O:=Qhh rfl (l_l T rfl);have w40:=T.w40;show QaZ (Qdn [some (.ob n),some (.int (p.1:Int)),some (.int p.2)] O)=_;unfold Qdn cst
 by_cases h:p.1=l.length
 ·rw [QcU,Qsr,t,zo (by omega),Qar,if_pos rfl,if_pos h];rfl
 ·rw [QcU,Qsr,t,zj (by omega),Qar,if_neg zg,if_neg h,QaM (x:=.int (w - p.2)) (y:=.int 2) (Qtc (f_w T rfl) rfl) rfl (QwL (by omega) (by omega))];rfl
theorem Qwu {m:L2.M D}{ρ:Qak}{O:Qac}{l:List D} (h:m ρ O = .ok (.lst l) O):QoB m ρ O = .ok l.reverse O:=by
 unfold QoB;rw [h,Qar]
def mvs (l:List LT) (lo:Nat) (w:Int):List D:=if lo=l.length then [] else ((ends l lo w).map (mvE l w)).reverse
theorem QyO (T:Tr O n l w) (lo:Nat) (hlo:lo≤l.length):Qa7 [.ob n,dK lo] O = .ok (.lst (mvs l lo w)) O:=by
 have w2:=T.w2;have le:=T.le
 have t:Qb4 (Qbe "Even" "is_end" Qbg (Qab 0) (Qaa (Qab 1) Qae)) [some (.ob n),some (dK lo),none] O = .ok (decide ((lo:Int)=(l.length:Int))) O:=QsG (by
  rw [Qdq (n:=n) (ds:=[dK lo]) rfl T.ob rfl (ma1 rfl)]
  exact Qq9 T lo)
 show QaZ (Qcx [some (.ob n),some (dK lo),none] O)=_;unfold Qcx mvs;rw [QaN]
 by_cases h:lo=l.length
 ·rw [Qc9 (by rw [t,zo (by omega)]),if_pos h];rfl
 ·have ok:=Qex (l:=l) (lo:=lo) (w:=w) (by omega) w2;rw [if_no (by rw [t,zj (by omega)]),QeT,QaR,if_neg h,QaN]
  have s2:Qan 2 (Qas QdD (Qaa (QdP ["Even"] "letters" (Qab 0)) (Qaa (Qaf gIx (Qab 1) (mC (.int 0))) (Qaa (QdP ["Even"] "wide" (Qab 0)) Qae)))) [some (.ob n),some (dK lo),none] O = .nx [some (.ob n),some (dK lo),some (.lst ((ends l lo w).map dE))] O:=by
   refine QaW ?_;rw [QaL (maS (f_l T rfl) (maS (x:=.int (lo:Int)) (QaM (x:=dK lo) (y:=.int 0) rfl rfl rfl) (ma1 (f_w T rfl))))];exact Qh3 l lo w (by omega) hlo O
  rw [s2,QaR]
  have ec:=Qdm (g:=QlJ 2 (QdZ (mgN 0) (QdZ (mgN 1) QjD))) (t:=QdQ) (m:=QbQ (Qaa (Qbe "Even" "cost_to" Qdk (Qab 2) (Qaa (Qab 0) (Qaa (Qab 1) Qae))) (Qaa (Qaz Qkr (Qaa (Qab 0) Qae)) (Qaa (QbQ (Qaa (Qab 0) (Qaa (mC (.int 0)) Qae))) Qae)))) (fun ρ=>∃a b,ρ = [a,b,some (.ob n)]) dE (mvE l w) (ends l lo w).reverse [none,none,some (.ob n)] O [] ⟨_,_,rfl⟩ (by
   rintro p hp ρ ⟨a,b,rfl⟩;obtain ⟨h1,h2,h3,h4,_⟩:=ok p (List.mem_reverse.mp hp);refine ⟨[some (.int (p.1:Int)),some (.int p.2),some (.ob n)],rfl,⟨_,_,rfl⟩,rfl,Qmm (maS ?_ (maS (QcS (xs:=[.int (p.1:Int)]) (ma1 rfl) (Qu7 p.1 (by omega))) (ma1 (x:=.tup [.int (p.1:Int),.int 0]) rfl))) (show (3:Nat)≤1000000 by decide)⟩;rw [Qdq (n:=n) (ds:=[.int (p.1:Int),.int p.2]) rfl T.ob rfl (maS (x:=.int (p.1:Int)) rfl (ma1 (x:=.int p.2) rfl))]
   exact Qp1 T p h3 h4)
  rw [zS,List.map_reverse,List.map_reverse] at ec
  have hlen:((ends l lo w).map dE).reverse.length≤1000000:=by
   rw [List.length_reverse,zh]
   have:=QlI l lo w
   omega
  rw [QcI (QgL (own:=2) (cap:=[0]) (Qwu (m:=Qab 2) (ρ:=[some (.ob n),some (dK lo),some (.lst ((ends l lo w).map dE))]) (O:=O) (l:=(ends l lo w).map dE) rfl) hlen (ρ0:=[none,none,some (.ob n)]) rfl ec)];rfl
end
theorem Qw4 {ps:Tb}{m:M3}{b:Int} (h:lk ps m.other=some (some b)):co ps m=some (m.cost+b):=by
 unfold co;rw [h]
section
variable {N:Nat}{nodes:Nat→List Nd}{mv:Nd→List M3}{fin:Nd→Bool}
theorem Pri.at {ps:Tb} (h:Pri N nodes mv fin 0 ps) {a:Nat}{n:Nd}{c:Int} (ha:a≤N) (hn:n∈nodes a) (hl:lk ps n=some (some c)):some c=if fin n=true then some 0 else lc ps (mv n):=by
 have e:=h a (Nat.zero_le _) ha n hn;rw [hl] at e;exact zE e
end
section
variable {N:Nat}{nodes:Nat→List Nd}{mv:Nd→List M3}{fin:Nd→Bool}
theorem QuW (fw:∀(a:Nat) (n:Nd),a≤N→n∈nodes a→∀m∈mv n,∃b,a < b∧b≤N∧m.other∈nodes b) {ps ps':Tb} (h:Pri N nodes mv fin 0 ps) (h':Pri N nodes mv fin 0 ps'):∀(k a:Nat) (n:Nd),a+k=N→n∈nodes a→lk ps' n=lk ps n:=by
 intro k
 induction k using Nat.strongRecOn with
 | _ k ih =>
  intro a n hak hn;rw [h a (Nat.zero_le _) (by omega) n hn,h' a (Nat.zero_le _) (by omega) n hn];show some (if fin n=true then some 0 else lc ps' (mv n))=some (if fin n=true then some 0 else lc ps (mv n))
  rw [Qhi fun m hm=>by
   obtain ⟨b,b1,b2,b3⟩:=fw a n (by omega) hn m hm
   exact ih (N - b) (by omega) b m.other (by omega) b3]
theorem QjE {α:Type}{f g:α→Bool}:∀{l:List α},(∀x∈l,f x=g x)→l.find? f=l.find? g
 | [],_=>rfl
 | x::l,h=>by
  rw [List.find?_cons,List.find?_cons,h x zu,QjE fun y hy=>h y (zv _ hy)]
theorem Qs1 (fw:∀(a:Nat) (n:Nd),a≤N→n∈nodes a→∀m∈mv n,∃b,a < b∧b≤N∧m.other∈nodes b) {ps ps':Tb} (h:Pri N nodes mv fin 0 ps) (h':Pri N nodes mv fin 0 ps'):∀(ms ms':List M3) (a:Nat) (n:Nd),a≤N→n∈nodes a→Wy ps mv fin n ms→Wy ps' mv fin n ms'→ms'=ms
 | [],[],_,_,_,_,_,_=>rfl
 | [],m::ms,_,n,_,_,w,w'=>by
  have w1:fin n=true:=w;have z:=w'.1;rw [w1] at z;cases z
 | m::ms,[],_,n,_,_,w,w'=>by
  have w1:fin n=true:=w';have z:=w.1;rw [w1] at z;cases z
 | m::ms,m'::ms',a,n,ha,hn,w,w'=>by
  have el:∀x∈mv n,lk ps' x.other=lk ps x.other:=fun x hx=>by
   obtain ⟨b,b1,b2,b3⟩:=fw a n ha hn x hx;exact QuW fw h h' (N - b) b x.other (by omega) b3
  have e:=w'.2.1
  rw [QjE (g:=fun m=>decide (co ps m=lc ps (mv n))) fun x hx=>by
   rw [Qhi el];unfold co
   rw [el x hx],w.2.1] at e
  cases e;obtain ⟨b,b1,b2,b3⟩:=fw a n ha hn m (List.mem_of_find?_eq_some w.2.1);rw [Qs1 fw h h' ms ms' b m.other b2 b3 w.2.2 w'.2.2]
end
def mvN (l:List LT) (w:Int) (n:Nd):List M3:=if n=((l.length:Int),0) then [] else ((ends l n.1.toNat w).map fun p=>(⟨cst l w p,strN p.1,((p.1:Int),0)⟩:M3)).reverse
def Qe7 (l:List LT) (n:Nd):Bool:=decide (n=((l.length:Int),0))
def ndN (a:Nat):List Nd:=[((a:Int),0)]
theorem Qih (l:List LT) (a:Nat):Qe7 l ((a:Int),0)=decide ((a:Int)=(l.length:Int)):=by
 unfold Qe7
 by_cases h:(a:Int)=(l.length:Int)
 ·rw [zo h,zo (by rw [h])]
 ·rw [zj h,zj (fun z=>h (congrArg Prod.fst z))]
theorem Qu8 (l:List LT) (w:Int) (lo:Nat):(mvN l w ((lo:Int),0)).map d3=mvs l lo w:=by
 unfold mvN mvs
 by_cases h:lo=l.length
 ·rw [if_pos (by rw [h]),if_pos h]; rfl
 ·rw [if_neg (fun z=>h (by have:=congrArg Prod.fst z; dsimp only at this; omega)),if_neg h,List.map_reverse,zR];rfl
theorem Qxs {l:List LT}{w:Int}{lo:Nat}{m:M3} (hlo:lo≤l.length) (hw:2≤w) (h:m∈mvN l w ((lo:Int),0)):∃p:Nat×Int,m=⟨cst l w p,strN p.1,((p.1:Int),0)⟩∧lo < p.1∧p.1≤l.length∧tw l lo (p.1 - lo)≤w:=by
 unfold mvN at h;split at h
 ·exact nomatch h
 ·rename_i hn
  have hlt:lo < l.length:=by
   refine Nat.lt_of_le_of_ne hlo fun z=>hn (by rw [z])
  obtain ⟨p,hp,rfl⟩:=zP.mp (List.mem_reverse.mp h);have hp':p∈ends l lo w:=hp;obtain ⟨h1,h2,_,h4,h5⟩:=Qex hlt hw p hp';exact ⟨p,rfl,h1,h2,by omega⟩
theorem QhA (l:List LT) (w:Int) (hl:l.length≤200) (hw:2≤w) (hw':w≤40) (t:Nat):Trl t (fsE l w) l.length ndN (mvN l w) (Qe7 l) where
 na O a _ _:=QrT (n:=t) (O:=O) a
 mf O a n h ha hn:=by
  obtain rfl:=zr.mp hn;rw [Qu8];exact QyO ⟨h,by omega,hw,hw'⟩ a ha
 ie O a n h ha hn:=by
  obtain rfl:=zr.mp hn;rw [Qih];exact Qq9 ⟨h,by omega,hw,hw'⟩ a
 la O h:=Quh ⟨h,by omega,hw,hw'⟩
 fi O _:=Qrc
 f0:=zr.mpr rfl
 nd a:=List.nodup_cons.mpr ⟨List.not_mem_nil,List.nodup_nil⟩
 ln a:=show (1:Nat)≤1 by decide
 fw a n ha hn m hm:=by
  obtain rfl:=zr.mp hn;obtain ⟨p,rfl,h1,h2,_⟩:=Qxs ha hw hm;exact ⟨p.1,h1,h2,zr.mpr rfl⟩
 sp a b n h1 h2:=by
  have:=(zr.mp h1).symm.trans (zr.mp h2)
  have:=congrArg Prod.fst this
  dsimp only at this;omega
 ml n:=by
  unfold mvN
  split
  ·exact Nat.zero_le _
  ·rw [List.length_reverse,zh]
   have:=QlI l n.1.toNat w
   omega
 fe n h:=by
  unfold mvN;rw [if_pos (jp h)]
 u1:=rfl
 u2:=rfl
 u3:=rfl
 u4:=rfl
 u5:=rfl
 hN:=by omega
def pr:Nat→List Nat→List (Nat×Nat)
 | _,[]=>[]
 | lo,e::es=>(lo,e)::pr e es
def dS (p:Nat×Nat):D:=.tup [.int (p.1:Int),.int (p.2:Int)]
theorem QqM:∀(es:List Nat) (lo:Nat),QhK (.int (lo:Int)::es.map fun e:Nat=>D.int (e:Int)) (es.map fun e:Nat=>D.int (e:Int))=(pr lo es).map dS
 | [],lo=>rfl
 | e::es,lo=>by
  rw [zc];show D.tup [.int (lo:Int),.int (e:Int)]::QhK (.int (e:Int)::es.map fun e:Nat=>D.int (e:Int)) (es.map fun e:Nat=>D.int (e:Int))=_;rw [QqM es e];rfl
def Qij:List Nat:=[119,111,114,100,115]
def Qik:List Nat:=[99,101,108,108,115]
def Qj2:List Nat:=[101,118,101,110]
theorem Qjq (w:Int) (h:2≤w∧w≤40) (O:Qac):QbB [.int w,.int 2,.int 40] O = .ok (.bl true) O:=by
 simp [QbB,QdF,Qeg,Qei,h]
inductive Wy3:List Nat→Prop
 | cells:Wy3 Qik
 | words:Wy3 Qij
 | even:Wy3 Qj2
theorem Qn4 (l:List LT) (a:Nat) (w:Int):ends l a w≠[]:=by
 unfold ends
 cases fes l a w (l.length - a) with
 | nil=>exact List.cons_ne_nil _ _
 | cons k ks=>exact List.cons_ne_nil _ _
theorem Qqf {l:List LT}{w:Int}{a:Nat} (h:a≠l.length):mvN l w ((a:Int),0)=((ends l a w).map fun p=>(⟨cst l w p,strN p.1,((p.1:Int),0)⟩:M3)).reverse:=by
 unfold mvN;rw [if_neg (fun z=>h (by have:=congrArg Prod.fst z; dsimp only at this; omega))];rfl
theorem neN (l:List LT) (w:Int):∀(a:Nat) (n:Nd),a≤l.length→n∈ndN a→Qe7 l n=false→mvN l w n≠[]:=fun a n ha hn hf=>by
 obtain rfl:=zr.mp hn;rw [Qih] at hf
 have hne:¬a=l.length:=fun z=>of_decide_eq_false hf (by omega)
 rw [Qqf hne];intro z;rw [List.reverse_eq_nil_iff,List.map_eq_nil_iff] at z;exact Qn4 l a w z
theorem Quv (l:List LT) (lo:Nat) (w:Int):(ends l lo w).Pairwise fun p q=>p.1 < q.1:=by
 have h:(fes l lo w (l.length - lo)).Pairwise (· < ·):=List.Pairwise.filter _ List.pairwise_lt_range;unfold ends
 revert h
 cases fes l lo w (l.length - lo) with
 | nil=>exact fun _=>List.pairwise_singleton _ _
 | cons k ks =>
  intro h;refine List.pairwise_map.mpr (h.imp fun {a b} hab=>?_);show lo+a+1 < lo+b+1;omega
theorem QsB {α β:Type}{L:List α}{f:α→β}{P:β→Bool}{R:α→α→Prop} (hR:L.Pairwise R) {m:β} (h:(L.map f).reverse.find? P=some m):∃p,p∈L∧f p=m∧P m=true∧∀p'∈L,R p' p∨p'=p∨P (f p')=false:=by
 obtain ⟨h1,as,bs,h2,h3⟩:=List.find?_eq_some_iff_append.mp h;have h4:=List.reverse_eq_append_iff.mp h2;obtain ⟨l1,l2,rfl,e1,e2⟩:=List.map_eq_append_iff.mp h4;rw [List.reverse_cons] at e1;obtain ⟨l3,l4,rfl,e3,e4⟩:=List.map_eq_append_iff.mp e1;obtain ⟨p,l5,rfl,e5,e6⟩:=List.map_eq_cons_iff.mp e4;have e7:=List.map_eq_nil_iff.mp e6;subst e7;refine ⟨p,jq _ (zJ _ (zr.mpr rfl)),e5,h1,fun p' hp'=>?_⟩;obtain ⟨q1,_,_⟩:=List.pairwise_append.mp hR;obtain ⟨_,_,q2⟩:=List.pairwise_append.mp q1
 rcases zD.mp hp' with hp' | hp'
 ·rcases zD.mp hp' with hp' | hp'
  ·exact .inl (q2 p' hp' p (zr.mpr rfl))
  ·exact .inr (.inl (zr.mp hp'))
 ·refine .inr (.inr ?_)
  have:f p'∈l2.map f:=zP.mpr ⟨p',hp',rfl⟩
  rw [e2] at this
  have:=h3 _ (List.mem_reverse.mp this)
  cases hq:P (f p') with
  | false=>rfl
  | true=>rw [hq] at this; cases this
def px (ps:Tb) (a:Nat):Int:=match lk ps ((a:Int),0) with
 | some (some c)=>c
 | _=>0
section
variable {l:List LT}{w:Int}{ps:Tb}
theorem Qs7 (hl:l.length≤200) (hw:2≤w) (hw':w≤40) (hP:Pri l.length ndN (mvN l w) (Qe7 l) 0 ps) {a:Nat} (ha:a≤l.length):lk ps ((a:Int),0)=some (some (px ps a)):=by
 obtain ⟨c,hc⟩:=Qma (QhA l w hl hw hw' 0) (neN l w) hP (l.length - a) a ((a:Int),0) (by omega) (zr.mpr rfl);unfold px;rw [hc]
def mE (l:List LT) (w:Int) (p:Nat×Int):M3:=⟨cst l w p,strN p.1,((p.1:Int),0)⟩
theorem QxK (hl:l.length≤200) (hw:2≤w) (hw':w≤40) (hP:Pri l.length ndN (mvN l w) (Qe7 l) 0 ps) {a:Nat} (ha:a < l.length):lc ps (mvN l w ((a:Int),0))=some (px ps a):=by
 have e:=hP.at (a:=a) (n:=((a:Int),0)) (by omega) (zr.mpr rfl) (Qs7 hl hw hw' hP (by omega));rw [if_neg (by rw [Qih,zj (by omega)]; exact zg)] at e;exact e.symm
def Wk (l:List LT) (w:Int) (ps:Tb):Nat→List (Nat×Int)→Prop
 | lo,[]=>lo=l.length
 | lo,p::qs=>lo < l.length∧p∈ends l lo w∧cst l w p+px ps p.1=px ps lo∧(∀p'∈ends l lo w,p.1 < p'.1→cst l w p'+px ps p'.1≠px ps lo)∧Wk l w ps p.1 qs
theorem Qta (hl:l.length≤200) (hw:2≤w) (hw':w≤40) (hP:Pri l.length ndN (mvN l w) (Qe7 l) 0 ps):∀(ms:List M3) (lo:Nat),lo≤l.length→Wy ps (mvN l w) (Qe7 l) ((lo:Int),0) ms→∃qs:List (Nat×Int),(ms.map fun m=>D.str m.name)=qs.map (fun p=>D.str (strN p.1))∧Wk l w ps lo qs
 | [],lo,_,h=>⟨[],rfl,by
  have h':Qe7 l ((lo:Int),0)=true:=h;rw [Qih] at h'
  have:=jp h'
  show lo=l.length
  omega⟩
 | m::ms,lo,hlo,h=>by
  obtain ⟨w1,w2,w3⟩:=h;rw [Qih] at w1
  have hlt:lo < l.length:=Nat.lt_of_le_of_ne hlo fun z=>of_decide_eq_false w1 (by omega)
  rw [QxK hl hw hw' hP hlt,Qqf (by omega)] at w2;obtain ⟨p,hp,rfl,hc,hf⟩:=QsB (Quv l lo w) w2;have hb:=(Qex hlt hw p hp).2.1
  have co_p:∀p',p'.1≤l.length→co ps (mE l w p')=some (cst l w p'+px ps p'.1):=fun p' hp'=>Qw4 (Qs7 hl hw hw' hP hp')
  have hc':co ps (mE l w p)=some (px ps lo):=jp hc;rw [co_p p hb] at hc';obtain ⟨qs,e1,e2⟩:=Qta hl hw hw' hP ms p.1 hb w3;refine ⟨p::qs,by rw [zc,zc,e1],hlt,hp,zE hc',fun p' hp' hlt' z=>?_,e2⟩;have hb':=(Qex hlt hw p' hp').2.1
  rcases hf p' hp' with q | q | q
  ·exact Nat.lt_asymm q hlt'
  ·rw [q] at hlt';exact zN _ hlt'
  ·have q':¬co ps (mE l w p')=some (px ps lo):=of_decide_eq_false q;exact q' (by rw [co_p p' hb',z])
theorem Wk.len:∀{qs:List (Nat×Int)}{lo:Nat},2≤w→Wk l w ps lo qs→qs.length+lo≤l.length
 | [],lo,_,h=>by have:lo=l.length:=h; rw [zV]; omega
 | p::qs,lo,hw,h=>by
  have:=Wk.len hw h.2.2.2.2
  have:=(Qex h.1 hw p h.2.1).1
  rw [zy];omega
theorem Wk.le:∀{qs:List (Nat×Int)}{lo:Nat},2≤w→Wk l w ps lo qs→∀p∈qs,p.1≤l.length
 | [],_,_,_,p,h=>(nomatch h)
 | p::qs,lo,hw,h,x,hx=>by
  rcases zd.mp hx with rfl | hx
  ·exact (Qex h.1 hw _ h.2.1).2.1
  ·exact Wk.le hw h.2.2.2.2 x hx
end
def stE (es:List Nat):List (Nat×Nat):=if es = [] then [(0,0)] else pr 0 es
theorem Qqs (l:List LT) (w:Int) {O O':Qac}{c:Int}{es:List Nat} (hlen:es.length≤1000) (hle:∀e∈es,e≤1000) (e1:QfN [.ob O.length] (O ++ [.ins "Even" (fsE l w)]) = .ok (.tup [.int c,.lst (es.map fun e=>D.str (strN e))]) O'):QgO [.lst (l.map dL),.int w] O = .ok (.lst ((stE es).map dS)) O':=by
 have mk:Qg9 "Even" Qcr (Qaa (Qab 0) (Qaa (Qab 1) Qae)) [some (.lst (l.map dL)),some (.int w),none,none] O = .ok (.ob O.length) (O ++ [.ins "Even" (fsE l w)]):=by
  rw [QvQ,maS (x:=.lst (l.map dL)) rfl (ma1 (x:=.int w) rfl),Qar,QvF,QvK]
 have s1:Qas QfN (Qaa (Qg9 "Even" Qcr (Qaa (Qab 0) (Qaa (Qab 1) Qae))) Qae) [some (.lst (l.map dL)),some (.int w),none,none] O = .ok (.tup [.int c,.lst (es.map fun e=>D.str (strN e))]) O':=by
  rw [QdB,QbN,mk,Qar,Qca,Qar,Qar,e1]
 have ec:=Qdm (g:=mgN 0) (t:=QdQ) (m:=Qaz QiF (Qaa (Qab 0) Qae)) (fun ρ=>∃a,ρ = [a]) (fun e=>D.str (strN e)) (fun e:Nat=>D.int (e:Int)) es [none] O' [] ⟨_,rfl⟩ (by
  rintro e he ρ ⟨a,rfl⟩;refine ⟨_,rfl,⟨_,rfl⟩,rfl,QcS (ma1 rfl) ?_⟩
  have:=hle e he
  exact Qnc (i:=(e:Int)) (by omega) (by omega))
 rw [zS] at ec;have s2:Qcb (QbZ (Qaf gIx (Qab 2) (mC (.int 1)))) 1 [] (mgN 0) QdQ (Qaz QiF (Qaa (Qab 0) Qae)) [some (.lst (l.map dL)),some (.int w),some (.tup [.int c,.lst (es.map fun e=>D.str (strN e))]),none] O' = .ok (.lst (es.map fun e:Nat=>D.int (e:Int))) O' :=
  QgL (QjY (l:=es.map fun e=>D.str (strN e)) (QaM (x:=.tup [.int c,.lst (es.map fun e=>D.str (strN e))]) (y:=.int 1) rfl rfl rfl)) (by rw [zh]; omega) rfl ec
 have t3:=Qhh (b:=mC (.int 0)) (j:=0) (QfK (m:=Qab 3) (ρ:=[some (.lst (l.map dL)),some (.int w),some (.tup [.int c,.lst (es.map fun e=>D.str (strN e))]),some (.lst (es.map fun e:Nat=>D.int (e:Int)))]) (O:=O') (l:=es.map fun e:Nat=>D.int (e:Int)) rfl) rfl;rw [zh] at t3;show QaZ (Qj3 [some (.lst (l.map dL)),some (.int w),none,none] O)=_;unfold Qj3;rw [sq (QjS s1)];show QaZ (Qah _ _ [some (.lst (l.map dL)),some (.int w),some (.tup [.int c,.lst (es.map fun e=>D.str (strN e))]),none] O')=_;rw [sq (QaW s2)];show QaZ (Qah _ _ [some (.lst (l.map dL)),some (.int w),some (.tup [.int c,.lst (es.map fun e=>D.str (strN e))]),some (.lst (es.map fun e:Nat=>D.int (e:Int)))] O')=_
 unfold stE
 by_cases hn:es = []
 ·rw [QaN,Qc9 (by rw [t3,zo (by rw [hn]; rfl)]),if_pos hn];rfl
 ·have hp:es.length≠0:=fun z=>hn (List.eq_nil_of_length_eq_zero z)
  rw [QaN,if_no (by rw [t3,zj (by omega)]),QeT,QaR,if_neg hn]
  rw [QcI (QcS (g:=gLZ) (z:=.lst ((pr 0 es).map dS)) (maS (x:=.lst (.int ((0:Nat):Int)::es.map fun e:Nat=>D.int (e:Int))) (QaM (x:=.lst [.int 0]) (y:=.lst (es.map fun e:Nat=>D.int (e:Int))) (Qjn (ma1 rfl) (by decide)) rfl (by
   rw [Qbz,Qbz,Qu1,if_pos (by rw [zh,zX]; omega)]
   rfl)) (ma1 (x:=.lst (es.map fun e:Nat=>D.int (e:Int))) rfl)) (by
   show some (D.lst (QhK _ _))=_
   rw [QqM]))]
  rfl
def ChE (l:List LT) (w:Int):Nat→List Nat→Prop
 | lo,[]=>lo=l.length
 | lo,e::es=>lo < e∧e≤l.length∧tw l lo (e - lo)≤w∧ChE l w e es
theorem ChE.len {l:List LT}{w:Int}:∀{es:List Nat}{lo:Nat},ChE l w lo es→es.length+lo≤l.length
 | [],lo,h=>by have:lo=l.length:=h; rw [zV]; omega
 | e::es,lo,h=>by
  have:=ChE.len h.2.2.2
  have:=h.1
  rw [zy];omega
theorem ChE.le {l:List LT}{w:Int}:∀{es:List Nat}{lo:Nat},ChE l w lo es→∀e∈es,e≤l.length
 | [],_,_,e,h=>(nomatch h)
 | e::es,lo,h,x,hx=>by
  rcases zd.mp hx with rfl | hx
  ·exact h.2.1
  ·exact ChE.le h.2.2.2 x hx
def sg (l:List LT):List Nat:=l.map (·.1)
section
variable {l l':List LT}
theorem Qdh (h:sg l'=sg l):l'.length=l.length:=by
 have:=congrArg List.length h
 unfold sg at this
 rwa [zh,zh] at this
theorem QmB (h:sg l'=sg l) (i:Nat):(l'[i]?).map (fun x=>x.1)=(l[i]?).map (fun x=>x.1):=by
 have:=congrArg (fun x:List Nat=>x[i]?) h
 unfold sg at this
 rwa [zx,zx] at this
theorem QiE (h:sg l'=sg l) (k:Nat):sg (l'.drop k)=sg (l.drop k):=by
 unfold sg at *;rw [List.map_drop,List.map_drop,h]
theorem Qnp (h:sg l'=sg l) (k:Nat):sg (l'.take k)=sg (l.take k):=by
 unfold sg at *;rw [List.map_take,List.map_take,h]
theorem QnL (l:List LT):wsum l=((sg l).map wid).sum:=by
 unfold wsum sg;rw [zR];rfl
theorem Qoh (h:sg l'=sg l):wsum l'=wsum l:=by rw [QnL,QnL,h]
def QrQ:List Nat→Int→Nat
 | [],_=>0
 | x::xs,w=>if wid x≤w then QrQ xs (w - wid x)+1 else 0
theorem Qkj:∀(l:List LT) (w:Int),QcH l w=QrQ (sg l) w
 | [],_=>rfl
 | x::xs,w=>by
  show (if wid x.1≤w then QcH xs (w - wid x.1)+1 else 0)=if wid x.1≤w then QrQ (sg xs) (w - wid x.1)+1 else 0;rw [Qkj xs]
theorem QmU (h:sg l'=sg l) (lo:Nat) (w:Int):rch l' lo w=rch l lo w:=by
 unfold rch;rw [Qkj,Qkj,QiE h]
theorem QpL (h:sg l'=sg l):∀n,trn l' n=trn l n
 | 0=>rfl
 | n+1=>by rw [QfJ,QfJ,QmB h,QpL h n]
theorem QwA (h:sg l'=sg l) (d:D):isB l' d=isB l d:=by
 cases d with
 | int i =>
  unfold isB;dsimp only;rw [Qdh h,QmB h,QmB h]
 | _=>rfl
theorem QsY (h:sg l'=sg l) (lo k:Nat):tw l' lo k=tw l lo k:=by
 unfold tw;rw [QpL (QiE h lo)];exact Qoh (Qnp (QiE h lo) _)
theorem QwZ (h:sg l'=sg l) (lo:Nat) (w:Int):gd l' lo w=gd l lo w:=by
 funext k
 unfold gd;rw [QwA h,QsY h]
theorem QwH (h:sg l'=sg l) (lo:Nat) (w:Int) (n:Nat):fes l' lo w n=fes l lo w n:=by
 unfold fes;rw [QwZ h]
theorem QnE (h:sg l'=sg l) (lo:Nat) (w:Int):ends l' lo w=ends l lo w:=by
 unfold ends;rw [QwH h,Qdh h,QmU h,Qoh (Qnp (QiE h lo) _)]
 cases fes l lo w (l.length - lo) with
 | nil=>rfl
 | cons k ks =>
  dsimp only
  refine jn fun j _=>?_
  rw [QsY h]
theorem QvD (h:sg l'=sg l) (w:Int) (p:Nat×Int):cst l' w p=cst l w p:=by
 unfold cst;rw [Qdh h]
theorem QwQ (h:sg l'=sg l) (w:Int):mvN l' w=mvN l w:=by
 funext n
 unfold mvN;rw [Qdh h,QnE h]
 split
 ·rfl
 ·congr 1
  refine jn fun p _=>?_
  rw [QvD h]
theorem Quc (h:sg l'=sg l):Qe7 l'=Qe7 l:=by
 funext n
 unfold Qe7;rw [Qdh h]
end
theorem QuM (l:List LT) (w:Int) (hl:l.length≤200) (hw:2≤w) (hw':w≤40):∃ps qs,Wk l w ps 0 qs∧∀l':List LT,sg l'=sg l→∀O:Qac,∃O',QgO [.lst (l'.map dL),.int w] O = .ok (.lst ((stE (qs.map (·.1))).map dS)) O'∧∀(j:Nat) (x:Ob),O[j]? = some x→O'[j]? = some x:=by
 obtain ⟨_,ps0,c0,ms0,_,_,hP0,_,w0⟩:=QsV (QhA l w hl hw hw' 0) (neN l w) (by omega) (O:=[.ins "Even" (fsE l w)]) rfl;obtain ⟨qs,e2,hk⟩:=Qta hl hw hw' hP0 ms0 0 (Nat.zero_le _) w0;refine ⟨ps0,qs,hk,fun l' hs O=>?_⟩;have hl':=Qdh hs;obtain ⟨O',ps,c,ms,e1,keep,hP,_,hy⟩:=QsV (QhA l' w (by omega) hw hw' O.length) (neN l' w) (by omega) (O:=O ++ [.ins "Even" (fsE l' w)]) Qks;rw [QwQ hs,Quc hs] at hP hy;rw [hl'] at hP;have em:=Qs1 (QhA l w hl hw hw' 0).fw hP0 hP ms0 ms 0 (0,0) (Nat.zero_le _) (zr.mpr rfl) w0 hy;subst em;rw [e2] at e1;have hlen:=hk.len hw;have hle:=hk.le hw;refine ⟨O',Qqs l' w (c:=c) (es:=qs.map (·.1)) (by rw [zh]; omega) (fun e he=>?_) (by rw [zR]; exact e1),fun j x hx=>keep j x (by rw [zz (zk.mp hx).1]; exact hx)⟩
 obtain ⟨p,hp,rfl⟩:=zP.mp he
 have:=hle p hp
 omega
def QrH:List Nat:=[99,117,116]
def Kp (O O':Qac):Prop:=∀(j:Nat) (x:Ob),O[j]? = some x→O'[j]? = some x
theorem Kp.rfl' {O:Qac}:Kp O O:=fun _ _ h=>h
theorem Kp.tr {O O' O2:Qac} (h:Kp O O') (h2:Kp O' O2):Kp O O2:=fun j x q=>h2 j x (h j x q)
def Ans (l:List LT) (w:Int) (y:List Nat) (st:List (Nat×Nat)):Prop:=∀l':List LT,sg l'=sg l→∀O:Qac,∃O',Qb3 [.lst (l'.map dL),.int w,.str y] O = .ok (.lst (st.map dS)) O'∧Kp O O'
inductive Wy4:List Nat→Prop
 | cut:Wy4 QrH
 | cells:Wy4 Qik
 | words:Wy4 Qij
 | even:Wy4 Qj2
theorem QmV {y:List Nat} (h:Wy4 y) (O:Qac):Qdb [.str y] O = .ok (.bl true) O:=by
 have q:gIn false (.str y) (.tup [.str [99,117,116],.str [99,101,108,108,115],.str [119,111,114,100,115],.str [101,118,101,110]])=some (.bl true):=by
  cases h <;> rfl
 simp only [Qdb,Qjt,Qg3,zc,zQ,zy,zV,Nat.sub_self,List.replicate_zero,zT,QcU,QvO,QsL,Qcc,zI,Qar,Qcq,Quw,Qmb,QvI,Qxn,if_true,Qcz,m_c,Qpx,q,Qbm,QiM,QiG]
def nfF (f:Fl):Fl:=match f with
 | .ex _ _=>.no
 | f=>f
theorem QsA {m:MS}{ρ:Qak}{O:Qac}:msN m ρ O=nfF (m ρ O):=rfl
theorem QnW {t:L2.M Bool}{a b:MS}{ρ:Qak}{O:Qac} (h:t ρ O = .ok true O):QeR t a b ρ O=a ρ O:=by
 unfold QeR;rw [h];dsimp only;rw [if_pos rfl]
theorem QmT {t:L2.M Bool}{a b:MS}{ρ:Qak}{O:Qac} (h:t ρ O = .ok false O):QeR t a b ρ O=b ρ O:=by
 unfold QeR;rw [h];dsimp only;rw [if_neg zg]
theorem Qka {t:L2.M Bool}{a:MS}{ρ:Qak}{O:Qac} (h:t ρ O = .ok false O):msN (QaX t a QaH) ρ O = .nx ρ O:=by
 rw [QsA,if_no h];rfl
theorem Qyl {m:L2.M D}{ρ:Qak}{O O1:Qac}{d:D} (h:m ρ O = .ok d O1):msN (QaB m) ρ O = .rt d O1:=by
 rw [QsA,QcI h];rfl
theorem QnK {t:L2.M Bool}{m:L2.M D}{ρ:Qak}{O O1:Qac}{d:D} (h:t ρ O = .ok true O) (h2:m ρ O = .ok d O1):msN (QaX t (QaB m) QaH) ρ O = .rt d O1:=by
 rw [QsA,Qc9 h,QcI h2];rfl
def QlR:MS:=(Qah (msN (QaX (Qav (Qaf gEq (Qab 2) (mC (.str [99,117,116])))) (QaB (Qbq (Qaa (QbQ (Qaa (mC (.int 0)) (Qaa (Qas QfD (Qaa (Qab 0) (Qaa (mC (.int 0)) (Qaa (Qab 1) Qae)))) Qae))) Qae))) QaH))
  (Qah (msN (QaX (Qav (Qaf gEq (Qab 2) (mC (.str [101,118,101,110])))) (QaB (Qas QgO (Qaa (Qab 0) (Qaa (Qab 1) Qae)))) QaH))
  (Qah (msN (QaB (Qas Qc8 (Qaa (Qab 0) (Qaa (Qab 1) (Qaa (Qab 2) Qae))))))
  QaH)))
def Qsz:MS:=(Qah (msN (QaX (Qav (Qaf gEq (Qaz Qbn (Qaa (Qab 0) Qae)) (mC (.int 0)))) (QaB (Qbq (Qaa (QbQ (Qaa (mC (.int 0)) (Qaa (mC (.int 0)) Qae))) Qae))) QaH)) QlR)
def Qie (s:MS):MS:=(Qah (QeR (QcA (Qb4 (Qas QbB (Qaa (Qab 1) (Qaa (mC (.int 2)) (Qaa (mC (.int 40)) Qae)))))) (Qah (QgU "NoSize")
  QaH) QaH)
  (Qah (QeR (QcA (Qb4 (Qas Qdb (Qaa (Qab 2) Qae)))) (Qah (QgU "NoSize")
  QaH) QaH) s))
theorem QrA:Qmv=Qie Qsz:=rfl
theorem QlK {m:L2.M D}{ρ:Qak}{O:Qac}{b:Bool} (h:m ρ O = .ok (.bl b) O):QcA (Qb4 m) ρ O = .ok (!b) O:=by
 cases b with
 | true=>exact QsX h
 | false =>
  unfold QcA;rw [QsG h];rfl
theorem QnY {L dw dy:D}{s:MS}{O:Qac} (h1:QbB [dw,.int 2,.int 40] O = .ok (.bl true) O) (h2:Qdb [dy] O = .ok (.bl true) O):Qie s [some L,some dw,some dy] O=s [some L,some dw,some dy] O:=by
 unfold Qie;rw [sq (ρ':=[some L,some dw,some dy]) (O':=O) (by rw [QmT (QlK ((QaL (maS (x:=dw) rfl (maS (x:=.int 2) rfl (ma1 (x:=.int 40) rfl)))).trans h1))]; rfl),sq (ρ':=[some L,some dw,some dy]) (O':=O) (by rw [QmT (QlK ((QaL (ma1 (x:=dy) rfl)).trans h2))]; rfl)]
theorem Qwa {L dw dy:D}{s:MS}{O:Qac} (h1:QbB [dw,.int 2,.int 40] O = .ok (.bl false) O):Qie s [some L,some dw,some dy] O = .ex ⟨"NoSize",[]⟩ O:=by
 unfold Qie;rw [QaN,QnW (QlK ((QaL (maS (x:=dw) rfl (maS (x:=.int 2) rfl (ma1 (x:=.int 40) rfl)))).trans h1))];rfl
theorem QwM {L dw dy:D}{s:MS}{O:Qac} (h1:QbB [dw,.int 2,.int 40] O = .ok (.bl true) O) (h2:Qdb [dy] O = .ok (.bl false) O):Qie s [some L,some dw,some dy] O = .ex ⟨"NoSize",[]⟩ O:=by
 unfold Qie;rw [sq (ρ':=[some L,some dw,some dy]) (O':=O) (by rw [QmT (QlK ((QaL (maS (x:=dw) rfl (maS (x:=.int 2) rfl (ma1 (x:=.int 40) rfl)))).trans h1))]; rfl),QaN,QnW (QlK ((QaL (ma1 (x:=dy) rfl)).trans h2))];rfl
theorem QjQ (a b c:D) (O:Qac):Qb3 [a,b,c] O=QaZ (Qie Qsz [some a,some b,some c] O):=by
 unfold Qb3;rw [Qg3,QrA];rfl
theorem QrV (w:Int) (hw:2≤w∧w≤40) {y:List Nat} (hy:Wy4 y) (O:Qac):Qb3 [.lst (([]:List LT).map dL),.int w,.str y] O = .ok (.lst ([((0:Nat),(0:Nat))].map dS)) O:=by
 rw [QjQ,QnY (Qjq w hw O) (QmV hy O)];rfl
theorem Qi5 (l:List LT) (h0:l≠[]) (w:Int) (hw:2≤w∧w≤40) {y:List Nat} (hy:Wy4 y) (O:Qac):Qb3 [.lst (l.map dL),.int w,.str y] O=QaZ (QlR [some (.lst (l.map dL)),some (.int w),some (.str y)] O):=by
 have hpos:0 < l.length:=List.length_pos_iff.mpr h0;have t0:=Qhh (b:=mC (.int 0)) (j:=0) (QfK (m:=Qab 0) (ρ:=[some (.lst (l.map dL)),some (.int w),some (.str y)]) (O:=O) (l:=l.map dL) rfl) rfl;rw [zh] at t0;rw [QjQ,QnY (Qjq w hw O) (QmV hy O)];unfold Qsz;rw [sq (Qka (by rw [t0,zj (by omega)]))]
theorem Qwt {l':List LT} (h:sg l'=sg []):l' = []:=List.eq_nil_of_length_eq_zero (Qdh h)
theorem QoA {l l':List LT} (h:sg l'=sg l) (h0:l≠[]):l'≠[]:=fun z=>h0 (List.eq_nil_of_length_eq_zero (by rw [←Qdh h,z]; rfl))
theorem QtH (w:Int) (hw:2≤w∧w≤40) {y:List Nat} (hy:Wy4 y):Ans [] w y [(0,0)]:=fun l' h O=>by
 rw [Qwt h];exact ⟨O,QrV w hw hy O,Kp.rfl'⟩
theorem QuG (l:List LT) (h0:l≠[]) (hl:l.length≤200) (w:Int) (hw:2≤w∧w≤40):Ans l w QrH [(0,rch l 0 w)]:=fun l' h O=>by
 have hl':=Qdh h;refine ⟨O,?_,Kp.rfl'⟩;have er:=Qkk l' 0 w (by omega) (Nat.zero_le _) O;rw [Qi5 l' (QoA h h0) w hw Wy4.cut O];unfold QlR
 rw [QaN,QnK (show Qav (Qaf gEq (Qab 2) (mC (.str [99,117,116]))) [some (.lst (l'.map dL)),some (.int w),some (.str QrH)] O = .ok true O from rfl) (d:=.lst [dS (0,rch l 0 w)]) (Qjn (ma1 (Qmm (maS (x:=.int 0) rfl (ma1 (x:=.int (rch l 0 w:Nat)) (by
  rw [QaL (maS (x:=.lst (l'.map dL)) rfl (maS (x:=.int 0) rfl (ma1 (x:=.int w) rfl))),←QmU h]
  exact er))) (show (2:Nat)≤1000000 by decide))) (show (1:Nat)≤1000000 by decide))]
 rfl
theorem QrR (l:List LT) (h0:l≠[]) (w:Int) (hw:2≤w∧w≤40) {st:List (Nat×Nat)} (he:∀l':List LT,sg l'=sg l→∀O:Qac,∃O',QgO [.lst (l'.map dL),.int w] O = .ok (.lst (st.map dS)) O'∧∀(j:Nat) (x:Ob),O[j]? = some x→O'[j]? = some x):Ans l w Qj2 st:=fun l' h O=>by
 obtain ⟨O',e,k⟩:=he l' h O;refine ⟨O',?_,k⟩;rw [Qi5 l' (QoA h h0) w hw Wy4.even O];unfold QlR;rw [sq (Qka (show Qav (Qaf gEq (Qab 2) (mC (.str [99,117,116]))) [some (.lst (l'.map dL)),some (.int w),some (.str Qj2)] O = .ok false O from rfl)),QaN,QnK (show Qav (Qaf gEq (Qab 2) (mC (.str [101,118,101,110]))) [some (.lst (l'.map dL)),some (.int w),some (.str Qj2)] O = .ok true O from rfl) ((QaL (maS (x:=.lst (l'.map dL)) rfl (ma1 (x:=.int w) rfl))).trans e)];rfl
def ky:Bool→List Nat
 | true=>Qij
 | false=>Qik
def nxt (wd:Bool) (l:List LT) (lo:Nat) (w:Int):Nat:=if wd=true then ((ends l lo w).getLast?.getD (0,0)).1 else rch l lo w
theorem QvG {l l':List LT} (h:sg l'=sg l) (wd:Bool) (lo:Nat) (w:Int):nxt wd l' lo w=nxt wd l lo w:=by
 unfold nxt;rw [QnE h,QmU h]
theorem QtX (X:List D) (d:D):gIx (.lst (X ++ [d])) (.int (-1))=some d:=by
 rw [QiK];unfold atI ixN;rw [if_neg (by decide),if_pos (by rw [zA,zX]; omega),Option.bind_some,zA,zX,show ((-1:Int)+((X.length+1:Nat):Int)).toNat=X.length by omega,zK (ze _),Nat.sub_self];rfl
theorem Qmf (l:List LT) (lo:Nat) (w:Int):∃p X,ends l lo w=X ++ [p]∧nxt true l lo w=p.1:=by
 have hne:=Qn4 l lo w;refine ⟨(ends l lo w).getLast hne,(ends l lo w).dropLast,(List.dropLast_concat_getLast hne).symm,?_⟩;unfold nxt;rw [if_pos rfl,List.getLast?_eq_some_getLast hne];rfl
theorem QpX (wd:Bool) {l:List LT}{lo:Nat}{w:Int} (hlo:lo < l.length) (hw:2≤w):lo < nxt wd l lo w∧nxt wd l lo w≤l.length∧tw l lo (nxt wd l lo w - lo)≤w:=by
 cases wd with
 | true =>
  obtain ⟨p,X,h1,h2⟩:=Qmf l lo w;obtain ⟨a,b,_,c,d⟩:=Qex hlo hw p (by rw [h1]; exact zJ _ (zr.mpr rfl));rw [h2];exact ⟨a,b,by omega⟩
 | false =>
  have e:nxt false l lo w=rch l lo w:=rfl;have r1:=Qq1 l lo w hlo hw;have r2:=Ql1 l lo w (by omega)
  have hfit:rch l lo w - lo=QcH (l.drop lo) w:=by unfold rch; omega
  have s1:=QkB (l.drop lo) w (rch l lo w - lo) (by omega) (by omega);rw [e];exact ⟨r1,r2,Int.le_trans (QsR _ _ _) s1⟩
theorem Qud (wd:Bool) (l:List LT) (lo:Nat) (w:Int) (hl:l.length≤1000) (hlo:lo < l.length) (O:Qac):Qej [.lst (l.map dL),.int (lo:Int),.int w,.str (ky wd)] O = .ok (.int (nxt wd l lo w:Nat)) O:=by
 cases wd with
 | false =>
  have er:=Qkk l lo w hl (by omega) O;show QaZ (Qdr [some (.lst (l.map dL)),some (.int (lo:Int)),some (.int w),some (.str Qik)] O)=_;unfold Qdr;rw [QaN,if_no (show Qav (Qaf gEq (Qab 3) (mC (.str [119,111,114,100,115]))) [some (.lst (l.map dL)),some (.int (lo:Int)),some (.int w),some (.str Qik)] O = .ok false O from rfl),QeT,QaR,QcI ((QaL (maS (x:=.lst (l.map dL)) rfl (maS (x:=.int (lo:Int)) rfl (ma1 (x:=.int w) rfl)))).trans er)];rfl
 | true =>
  have ee:=Qh3 l lo w hl (by omega) O;obtain ⟨p,X,h1,h2⟩:=Qmf l lo w;rw [h1,zL] at ee;show QaZ (Qdr [some (.lst (l.map dL)),some (.int (lo:Int)),some (.int w),some (.str Qij)] O)=_;unfold Qdr;rw [QaN,Qc9 (show Qav (Qaf gEq (Qab 3) (mC (.str [119,111,114,100,115]))) [some (.lst (l.map dL)),some (.int (lo:Int)),some (.int w),some (.str Qij)] O = .ok true O from rfl),h2,QcI (d:=.int (p.1:Int)) (QaM (x:=dE p) (y:=.int 0) (QaM (x:=.lst (X.map dE ++ [dE p])) (y:=.int (-1)) ((QaL (maS (x:=.lst (l.map dL)) rfl (maS (x:=.int (lo:Int)) rfl (ma1 (x:=.int w) rfl)))).trans ee) rfl (QtX _ _)) rfl rfl)];rfl
def esF (wd:Bool) (l:List LT) (w:Int):Nat→Nat→List Nat
 | 0,_=>[]
 | f+1,lo=>if lo < l.length then nxt wd l lo w::esF wd l w f (nxt wd l lo w) else []
theorem Qqn {l l':List LT} (h:sg l'=sg l) (wd:Bool) (w:Int):∀f lo,esF wd l' w f lo=esF wd l w f lo
 | 0,_=>rfl
 | f+1,lo=>by
  unfold esF;rw [Qdh h,QvG h,Qqn h wd w f]
def QoW:MS:=(Qah (Qan 5 (Qas Qej (Qaa (Qab 0) (Qaa (Qab 4) (Qaa (Qab 1) (Qaa (Qab 2) Qae))))))
  (Qah (Qcj 3 (QbQ (Qaa (Qab 4) (Qaa (Qab 5) Qae))))
  (Qan 4 (Qab 5))))
def nE (l:List LT) (w:Int) (y:List Nat) (acc:List (Nat×Nat)) (lo:Nat) (o5:Option D):Qak:=[some (.lst (l.map dL)),some (.int w),some (.str y),some (.lst (acc.map dS)),some (.int (lo:Int)),o5]
theorem QnH (wd:Bool) (l:List LT) (w:Int) (hl:l.length≤1000) (hw:2≤w) (O:Qac):∀(f lo:Nat) (acc:List (Nat×Nat)) (o5:Option D),lo≤l.length→l.length - lo < f→acc.length≤lo →
  ∃o5',QbW (Qav (Qaf gLt (Qab 4) (Qaz Qbn (Qaa (Qab 0) Qae)))) QoW f (nE l w (ky wd) acc lo o5) O = .nx (nE l w (ky wd) (acc++pr lo (esF wd l w f lo)) l.length o5') O
 | 0,lo,acc,o5,_,h,_=>absurd h (Nat.not_lt_zero _)
 | f+1,lo,acc,o5,hlo,hf,ha=>by
  have hlen:=QfK (m:=Qab 0) (ρ:=nE l w (ky wd) acc lo o5) (O:=O) (l:=l.map dL) rfl;rw [zh] at hlen;have t:=QsQ (a:=Qab 4) (i:=(lo:Int)) rfl hlen;unfold esF
  by_cases h:lo=l.length
  ·refine ⟨o5,?_⟩;rw [Qln (by rw [t,zj (by omega)]),if_neg (by omega),show pr lo [] = [] from rfl,zT,h]
  ·have e1:=Qud wd l lo w hl (by omega) O;obtain ⟨h1,h2,h3⟩:=QpX wd (show lo < l.length by omega) hw;rw [if_pos (by omega)]
   generalize nxt wd l lo w=e at *
   have s1:Qas Qej (Qaa (Qab 0) (Qaa (Qab 4) (Qaa (Qab 1) (Qaa (Qab 2) Qae)))) (nE l w (ky wd) acc lo o5) O = .ok (.int (e:Int)) O:=(QaL (maS rfl (maS rfl (maS rfl (ma1 rfl))))).trans e1
   have eb:QoW (nE l w (ky wd) acc lo o5) O = .nx (nE l w (ky wd) (acc ++ [(lo,e)]) e (some (.int (e:Int)))) O:=by
    unfold QoW;rw [sq (QaW s1)];show Qah _ _ (nE l w (ky wd) acc lo (some (.int (e:Int)))) O=_;rw [sq (Qmd (ds:=acc.map dS) (d:=dS (lo,e)) (Qmm (maS rfl (ma1 rfl)) (show (2:Nat)≤1000000 by decide)) rfl (by rw [zh]; omega))];show Qan 4 (Qab 5) [some (.lst (l.map dL)),some (.int w),some (.str (ky wd)),some (.lst (acc.map dS ++ [dS (lo,e)])),some (.int (lo:Int)),some (.int (e:Int))] O=_;rw [QaW (d:=.int (e:Int)) rfl];unfold nE;rw [zL];rfl
   obtain ⟨o5',e2⟩:=QnH wd l w hl hw O f e (acc ++ [(lo,e)]) (some (.int (e:Int))) h2 (by omega) (by rw [zA,zX]; omega);refine ⟨o5',?_⟩;rw [Qim (by rw [t,zo (by omega)]) eb,e2,jk];rfl
theorem Qwj (wd:Bool) (l:List LT) (w:Int) (hl:l.length≤1000) (hw:2≤w) (O:Qac):Qc8 [.lst (l.map dL),.int w,.str (ky wd)] O = .ok (.lst ((pr 0 (esF wd l w wF 0)).map dS)) O:=by
 obtain ⟨o5,e⟩:=QnH wd l w hl hw O wF 0 [] none (Nat.zero_le _) (by unfold wF; omega) (Nat.zero_le _)
 generalize esF wd l w wF 0=es at e
 rw [zS] at e;unfold QoW at e;show QaZ (Qed [some (.lst (l.map dL)),some (.int w),some (.str (ky wd)),none,none,none] O)=_;unfold Qed;rw [sq (QaW (d:=.lst []) (Qjn rfl (Nat.zero_le _)))];rw [sq (QaW (d:=.int 0) rfl)];show QaZ (Qah _ _ (nE l w (ky wd) [] 0 none) O)=_;rw [QaN,Ql0,e,QaR];rfl
def Nx (wd:Bool) (l:List LT) (w:Int):Nat→List Nat→Prop
 | lo,[]=>lo=l.length
 | lo,e::es=>lo < l.length∧e=nxt wd l lo w∧Nx wd l w e es
theorem Qqu (wd:Bool) {l:List LT}{w:Int} (hw:2≤w):∀f lo,lo≤l.length→l.length - lo < f→Nx wd l w lo (esF wd l w f lo)
 | 0,lo,_,h=>absurd h (Nat.not_lt_zero _)
 | f+1,lo,hlo,hf=>by
  unfold esF
  by_cases h:lo < l.length
  ·rw [if_pos h];obtain ⟨h1,h2,_⟩:=QpX wd h hw;exact ⟨h,rfl,Qqu wd hw f _ h2 (by omega)⟩
  ·rw [if_neg h];show lo=l.length;omega
theorem Qu9 (wd:Bool) (l:List LT) (w:Int) (hl:l.length≤200) (hw:2≤w):∃es,Nx wd l w 0 es∧∀l':List LT,sg l'=sg l→∀O:Qac,Qc8 [.lst (l'.map dL),.int w,.str (ky wd)] O = .ok (.lst ((pr 0 es).map dS)) O:=by
 refine ⟨esF wd l w wF 0,Qqu wd hw wF 0 (Nat.zero_le _) (by unfold wF; omega),fun l' h O=>?_⟩;have hl':=Qdh h;rw [←Qqn h];exact Qwj wd l' w (by omega) hw O
theorem ky4 (wd:Bool):Wy4 (ky wd):=by
 cases wd
 ·exact Wy4.cells
 ·exact Wy4.words
theorem Qoi (wd:Bool) (l:List LT) (h0:l≠[]) (hl:l.length≤200) (w:Int) (hw:2≤w∧w≤40):∃es,Nx wd l w 0 es∧Ans l w (ky wd) (pr 0 es):=by
 obtain ⟨es,h1,h2⟩:=Qu9 wd l w hl hw.1;refine ⟨es,h1,fun l' h O=>⟨O,?_,Kp.rfl'⟩⟩;have e:=h2 l' h O;rw [Qi5 l' (QoA h h0) w hw (ky4 wd) O];unfold QlR
 have q1:Qav (Qaf gEq (Qab 2) (mC (.str [99,117,116]))) [some (.lst (l'.map dL)),some (.int w),some (.str (ky wd))] O = .ok false O:=by cases wd <;> rfl
 have q2:Qav (Qaf gEq (Qab 2) (mC (.str [101,118,101,110]))) [some (.lst (l'.map dL)),some (.int w),some (.str (ky wd))] O = .ok false O:=by cases wd <;> rfl
 rw [sq (Qka q1),sq (Qka q2),QaN,Qyl ((QaL (maS (x:=.lst (l'.map dL)) rfl (maS (x:=.int w) rfl (ma1 (x:=.str (ky wd)) rfl)))).trans e)];rfl
theorem QqK {t:L2.M Bool}{a b:MS}{ρ:Qak}{O O':Qac} (h:t ρ O = .ok false O'):QaX t a b ρ O=b ρ O':=by
 rw [Qfr,h,Qd7,if_neg zg]
theorem Qxa:QcM "list" "list" = true:=by decide
theorem and_f {t1 t2:L2.M Bool}{ρ:Qak}{O:Qac} (h1:t1 ρ O = .ok false O):QdJ t1 t2 ρ O = .ok false O:=by
 rw [QeX,h1,Qar,if_neg zg]
theorem and_t {t1 t2:L2.M Bool}{ρ:Qak}{O:Qac} (h1:t1 ρ O = .ok true O):QdJ t1 t2 ρ O=t2 ρ O:=by
 rw [QeX,h1,Qar,if_pos rfl]
theorem Qnz {g:D→D→Option D}{a b:L2.M D}{ρ:Qak}{O O1 O2:Qac}{x y z:D} (ha:a ρ O = .ok x O1) (hb:b ρ O1 = .ok y O2) (h:g (QaI O2 x) (QaI O2 y)=some z):Qaf g a b ρ O = .ok z O2:=by
 rw [Qcz,ha,Qar,hb,Qar,h];rfl
theorem Qmk {m:L2.M D}{ρ:Qak}{O O1:Qac}{b:Bool} (h:m ρ O = .ok (.bl b) O1):Qav m ρ O = .ok b O1:=by
 rw [QcV,h];rfl
theorem QqP (st:List (Nat×Nat)):okE (.lst (st.map dS))=true:=Qno (n:=5) (by decide) fun d hd=>by
 obtain ⟨x,_,rfl⟩:=zP.mp hd;exact ⟨rfl,rfl,by simp [toP,Qhf,PyData.depth,PyData.depthAll,dS]⟩
theorem ne_st (st:List (Nat×Nat)):gNe (.lst (st.map dS)) (.lst (st.map dS))=some (.bl false):=by
 rw [Qxw,QqP,Bool.and_self,if_pos rfl,QkW (QqP st)];rfl
def asc (l:List Nat):Prop:=∀c∈l,c < 128
theorem Qgg {l:List Nat} (h:asc l):okE (.str l)=true:=by
 unfold okE;show (true&&okD (.str (S l)))=true;unfold okD;rw [QfG fun c hc=>Nat.lt_trans (h c hc) (by decide)];rfl
theorem QwE {l:List Nat} (h:asc l):okE (.tup [.str l])=true:=by
 unfold okE;show (true&&okD (.tuple [.str (S l)]))=true;unfold okD
 rw [show (PyData.tuple [.str (S l)]).canLay0=true by
  show ((PyData.str (S l)).canLay0&&true)=true;rw [QfG fun c hc=>Nat.lt_trans (h c hc) (by decide)]
  rfl]
 rfl
theorem Qvk {l:List Nat} (h:asc l):okE (.lst [.str l])=true:=by
 unfold okE;show (true&&okD (.list [.str (S l)]))=true;unfold okD
 rw [show (PyData.list [.str (S l)]).canLay0=true by
  show ((PyData.str (S l)).canLay0&&true)=true;rw [QfG fun c hc=>Nat.lt_trans (h c hc) (by decide)]
  rfl]
 rfl
theorem QeZ {a b:D} (ha:okE a=true) (hb:okE b=true) (he:QeK a b=false) (hg:gEq a b=if (okE a&&okE b)=true then some (.bl (QeK a b)) else none):gEq a b=some (.bl false):=by
 rw [hg,ha,hb,he];rfl
theorem QgE {q:List Nat} (h:Wy4 q):asc q:=by
 cases h <;> (intro c hc; revert c; decide)
def OW:List D:=[.int 1,.int 0,.int (-1),.int 41,.int 42,.int (-40),.int (10 ^ 9),.non,.bl true,.bl false,.str [56],.str [],.lst [.int 8],.tup [.int 8],.int (-(10 ^ 30))]
def YW:List D:=[.str [],.str [67,117,116],.str [119,111,114,100],.str [99,101,108,108,115,32],.str [32,101,118,101,110],.str [101,118,101,110,115],.non,.int 0,.int 3,.bl true,.lst [.str [99,117,116]],.tup [.str [101,118,101,110]],.str [99,117,116,44,99,101,108,108,115],.str [110,111,110,101]]
structure QoV (d:D):Prop where
 de:∀O,QaI O d=d
 no:∀O,QbB [d,.int 2,.int 40] O = .ok (.bl false) O
 ne:∀g:Int,2≤g→g≤40→gEq d (.int g)=some (.bl false)
structure Qwp (d:D):Prop where
 de:∀O,QaI O d=d
 no:∀O,Qdb [d] O = .ok (.bl false) O
 ne:∀q,Wy4 q→gEq d (.str q)=some (.bl false)
theorem QdV {i:Int} (h:i < 2∨40 < i):QoV (.int i) where
 de:=fun _=>rfl
 no:=fun O=>by
  have:¬(2≤i∧i≤40):=by omega
  by_cases h2:(2:Int)≤i
  ·have h3:¬i≤40:=by omega
   simp [QbB,QdF,Qeg,Qei,h2,h3]
  ·simp [QbB,QdF,Qeg,Qei,h2]
 ne:=fun g h1 h2=>by
  show some (D.bl (decide (i=g)))=_;rw [zj (by omega)]
theorem QqG (b:Bool):QoV (.bl b) where
 de:=fun _=>rfl
 no:=fun O=>by cases b <;> rfl
 ne:=fun g h1 h2=>by
  have e:gEq (.bl b) (.int g)=some (.bl (QeK (.bl b) (.int g))):=rfl;rw [e]
  have:QeK (.bl b) (.int g)=false:=by
   cases b
   ·show decide ((0:Int)=g)=false;exact zj (by omega)
   ·show decide ((1:Int)=g)=false;exact zj (by omega)
  rw [this]
theorem Qwv:∀d∈OW,QoV d:=by
 intro d hd;unfold OW at hd
 rcases zd.mp hd with rfl | hd
 ·exact QdV (by omega)
 rcases zd.mp hd with rfl | hd
 ·exact QdV (by omega)
 rcases zd.mp hd with rfl | hd
 ·exact QdV (by omega)
 rcases zd.mp hd with rfl | hd
 ·exact QdV (by omega)
 rcases zd.mp hd with rfl | hd
 ·exact QdV (by omega)
 rcases zd.mp hd with rfl | hd
 ·exact QdV (by omega)
 rcases zd.mp hd with rfl | hd
 ·exact QdV (by omega)
 rcases zd.mp hd with rfl | hd
 ·exact ⟨fun _=>rfl,fun _=>rfl,fun _ _ _=>rfl⟩
 rcases zd.mp hd with rfl | hd
 ·exact QqG _
 rcases zd.mp hd with rfl | hd
 ·exact QqG _
 rcases zd.mp hd with rfl | hd
 ·exact ⟨fun _=>rfl,fun _=>rfl,fun _ _ _=>QeZ (Qgg (by unfold asc; decide)) rfl rfl rfl⟩
 rcases zd.mp hd with rfl | hd
 ·exact ⟨fun _=>rfl,fun _=>rfl,fun _ _ _=>QeZ (Qgg (by unfold asc; decide)) rfl rfl rfl⟩
 rcases zd.mp hd with rfl | hd
 ·exact ⟨fun _=>rfl,fun _=>rfl,fun _ _ _=>rfl⟩
 rcases zd.mp hd with rfl | hd
 ·exact ⟨fun _=>rfl,fun _=>rfl,fun _ _ _=>rfl⟩
 rcases zd.mp hd with rfl | hd
 ·exact QdV (by omega)
 ·exact nomatch hd
theorem Qv8:∀d∈YW,Qwp d:=by
 intro d hd;unfold YW at hd
 rcases zd.mp hd with rfl | hd
 ·exact ⟨fun _=>rfl,fun _=>rfl,fun q hq=>by cases hq <;> rfl⟩
 rcases zd.mp hd with rfl | hd
 ·exact ⟨fun _=>rfl,fun _=>rfl,fun q hq=>by cases hq <;> rfl⟩
 rcases zd.mp hd with rfl | hd
 ·exact ⟨fun _=>rfl,fun _=>rfl,fun q hq=>by cases hq <;> rfl⟩
 rcases zd.mp hd with rfl | hd
 ·exact ⟨fun _=>rfl,fun _=>rfl,fun q hq=>by cases hq <;> rfl⟩
 rcases zd.mp hd with rfl | hd
 ·exact ⟨fun _=>rfl,fun _=>rfl,fun q hq=>by cases hq <;> rfl⟩
 rcases zd.mp hd with rfl | hd
 ·exact ⟨fun _=>rfl,fun _=>rfl,fun q hq=>by cases hq <;> rfl⟩
 rcases zd.mp hd with rfl | hd
 ·exact ⟨fun _=>rfl,fun _=>rfl,fun q hq=>QeZ (rfl) (Qgg (QgE hq)) rfl rfl⟩
 rcases zd.mp hd with rfl | hd
 ·exact ⟨fun _=>rfl,fun _=>rfl,fun q hq=>QeZ (rfl) (Qgg (QgE hq)) rfl rfl⟩
 rcases zd.mp hd with rfl | hd
 ·exact ⟨fun _=>rfl,fun _=>rfl,fun q hq=>QeZ (rfl) (Qgg (QgE hq)) rfl rfl⟩
 rcases zd.mp hd with rfl | hd
 ·exact ⟨fun _=>rfl,fun _=>rfl,fun q hq=>QeZ (rfl) (Qgg (QgE hq)) rfl rfl⟩
 rcases zd.mp hd with rfl | hd
 ·exact ⟨fun _=>rfl,fun _=>rfl,fun q hq=>QeZ (Qvk (by unfold asc; decide)) (Qgg (QgE hq)) rfl rfl⟩
 rcases zd.mp hd with rfl | hd
 ·exact ⟨fun _=>rfl,fun _=>rfl,fun q hq=>QeZ (QwE (by unfold asc; decide)) (Qgg (QgE hq)) rfl rfl⟩
 rcases zd.mp hd with rfl | hd
 ·exact ⟨fun _=>rfl,fun _=>rfl,fun q hq=>by cases hq <;> rfl⟩
 rcases zd.mp hd with rfl | hd
 ·exact ⟨fun _=>rfl,fun _=>rfl,fun q hq=>by cases hq <;> rfl⟩
 exact nomatch hd
theorem QwC (n:Int) (O:Qac):∃d∈OW,Qcf [.int n] O = .ok d O:=by
 obtain ⟨c,hc,e⟩:=ixL (l:=OW) (v:=n) (n:=15) rfl (by decide);refine ⟨c,hc,?_⟩;have p9:Qaf Qb2 (mC (.int 10)) (mC (.int 9)) [some (.int n),none] O = .ok (.int (10 ^ 9)) O:=QaM (x:=.int 10) (y:=.int 9) rfl rfl rfl
 have p30:mUn Qev (Qaf Qb2 (mC (.int 10)) (mC (.int 30))) [some (.int n),none] O = .ok (.int (-(10 ^ 30))) O:=by
  have q:Qaf Qb2 (mC (.int 10)) (mC (.int 30)) [some (.int n),none] O = .ok (.int (10 ^ 30)) O:=QaM (x:=.int 10) (y:=.int 30) rfl rfl rfl;unfold mUn;rw [q];rfl
 have s1:Qan 1 (Qbq (Qaa (mC (.int 1)) (Qaa (mC (.int 0)) (Qaa (mUn Qev (mC (.int 1))) (Qaa (mC (.int 41)) (Qaa (mC (.int 42)) (Qaa (mUn Qev (mC (.int 40))) (Qaa (Qaf Qb2 (mC (.int 10)) (mC (.int 9))) (Qaa (mC .non) (Qaa (mC (.bl true)) (Qaa (mC (.bl false)) (Qaa (mC (.str [56])) (Qaa (mC (.str [])) (Qaa (Qbq (Qaa (mC (.int 8)) Qae)) (Qaa (QbQ (Qaa (mC (.int 8)) Qae)) (Qaa (mUn Qev (Qaf Qb2 (mC (.int 10)) (mC (.int 30)))) Qae)))))))))))))))) [some (.int n),none] O = .nx [some (.int n),some (.lst OW)] O :=
  QaW (Qjn (maS (x:=.int 1) rfl (maS (x:=.int 0) rfl (maS (x:=.int (-1)) rfl (maS (x:=.int 41) rfl (maS (x:=.int 42) rfl (maS (x:=.int (-40)) rfl (maS p9 (maS (x:=.non) rfl (maS (x:=.bl true) rfl (maS (x:=.bl false) rfl (maS (x:=.str [56]) rfl (maS (x:=.str []) rfl (maS (x:=.lst [.int 8]) rfl (maS (x:=.tup [.int 8]) rfl (ma1 p30))))))))))))))) (show (15:Nat)≤1000000 by decide))
 have s2:Qaf gIx (Qab 1) (Qaf QaU (Qab 0) (mC (.int 15))) [some (.int n),some (.lst OW)] O = .ok c O:=QaM (x:=.lst OW) rfl (QaM (x:=.int n) (y:=.int 15) (z:=.int (n % 15)) rfl rfl (by rw [QaO,QaO,QgI,if_pos (by decide)])) e
 have c0:Qcf [.int n] O=QaZ (Qdl [some (.int n),none] O):=by
  unfold Qcf;rw [Qg3];rfl
 rw [c0];unfold Qdl;rw [sq s1,QcI s2];rfl
theorem QvC (n:Int) (O:Qac):∃d∈YW,Qcl [.int n] O = .ok d O:=by
 obtain ⟨c,hc,e⟩:=ixL (l:=YW) (v:=n) (n:=14) rfl (by decide);refine ⟨c,hc,?_⟩;have s1:Qan 1 (Qbq (Qaa (mC (.str [])) (Qaa (mC (.str [67,117,116])) (Qaa (mC (.str [119,111,114,100])) (Qaa (mC (.str [99,101,108,108,115,32])) (Qaa (mC (.str [32,101,118,101,110])) (Qaa (mC (.str [101,118,101,110,115])) (Qaa (mC .non) (Qaa (mC (.int 0)) (Qaa (mC (.int 3)) (Qaa (mC (.bl true)) (Qaa (Qbq (Qaa (mC (.str [99,117,116])) Qae)) (Qaa (QbQ (Qaa (mC (.str [101,118,101,110])) Qae)) (Qaa (mC (.str [99,117,116,44,99,101,108,108,115])) (Qaa (mC (.str [110,111,110,101])) Qae))))))))))))))) [some (.int n),none] O = .nx [some (.int n),some (.lst YW)] O:=QaW rfl
 have s2:Qaf gIx (Qab 1) (Qaf QaU (Qab 0) (mC (.int 14))) [some (.int n),some (.lst YW)] O = .ok c O:=QaM (x:=.lst YW) rfl (QaM (x:=.int n) (y:=.int 14) (z:=.int (n % 14)) rfl rfl (by rw [QaO,QaO,QgI,if_pos (by decide)])) e
 have c0:Qcl [.int n] O=QaZ (QdO [some (.int n),none] O):=by
  unfold Qcl;rw [Qg3];rfl
 rw [c0];unfold QdO;rw [sq s1,QcI s2];rfl
def QgZ:List Nat:=[116,111,108,100]
def Qhj:List Nat:=[115,105,122,101]
theorem Qs2 (L dw dy:D) (O:Qac):QbC [L,dw,dy] O=QaZ (QcX [some L,some dw,some dy,none,none,none] O):=by
 unfold QbC;rw [Qg3];rfl
theorem Qrp {L dw dy r:D}{O O':Qac} (h:Qb3 [L,dw,dy] O = .ok r O'):QbC [L,dw,dy] O = .ok (.str QgZ) O':=by
 have s1:Qan 3 (mC (.str [116,111,108,100])) [some L,some dw,some dy,none,none,none] O = .nx [some L,some dw,some dy,some (.str QgZ),none,none] O:=rfl
 have s2:Qe2 Qb3 (Qaa (Qab 0) (Qaa (Qab 1) (Qaa (Qab 2) Qae))) (hdN "NoSize" 4 5 3 [115,105,122,101]) [some L,some dw,some dy,some (.str QgZ),none,none] O = .nx [some L,some dw,some dy,some (.str QgZ),none,none] O':=by
  unfold Qe2;rw [maS (x:=L) rfl (maS (x:=dw) rfl (ma1 (x:=dy) rfl))];dsimp only;rw [h]
 rw [Qs2];unfold QcX;rw [sq s1,sq s2];rfl
theorem QlD {L dw dy:D}{O:Qac} (h:Qb3 [L,dw,dy] O = .ex ⟨"NoSize",[]⟩ O):QbC [L,dw,dy] O = .ok (.str Qhj) O:=by
 have s1:Qan 3 (mC (.str [116,111,108,100])) [some L,some dw,some dy,none,none,none] O = .nx [some L,some dw,some dy,some (.str QgZ),none,none] O:=rfl
 have s2:Qe2 Qb3 (Qaa (Qab 0) (Qaa (Qab 1) (Qaa (Qab 2) Qae))) (hdN "NoSize" 4 5 3 [115,105,122,101]) [some L,some dw,some dy,some (.str QgZ),none,none] O = .nx [some L,some dw,some dy,some (.str Qhj),none,some (.bl false)] O:=by
  unfold Qe2;rw [maS (x:=L) rfl (maS (x:=dw) rfl (ma1 (x:=dy) rfl))];dsimp only;rw [h];dsimp only;unfold hdN;rw [if_pos rfl];rfl
 rw [Qs2];unfold QcX;rw [sq s1,sq s2];rfl
theorem Gd.ex (l:List LT) (hl:l.length≤200) (w:Int) (hw:2≤w∧w≤40) {y:List Nat} (hy:Wy4 y):∃st,Ans l w y st:=by
 by_cases h0:l = []
 ·subst h0;exact ⟨_,QtH w hw hy⟩
 cases hy with
 | cut=>exact ⟨_,QuG l h0 hl w hw⟩
 | cells =>
  obtain ⟨es,_,h⟩:=Qoi false l h0 hl w hw;exact ⟨_,h⟩
 | words =>
  obtain ⟨es,_,h⟩:=Qoi true l h0 hl w hw;exact ⟨_,h⟩
 | even =>
  obtain ⟨ps,qs,_,hu⟩:=QuM l w hl hw.1 hw.2;exact ⟨_,QrR l h0 w hw hu⟩
def G1:MS:=Qan 4 (Qas Qbk (Qaa (Qab 0) (Qaa (Qab 3) Qae)))
def G2:MS:=Qan 5 (Qaf QaP (mC (.int 2)) (Qaf QaU (Qas Qa3 (Qaa (Qab 4) (Qaa (mC (.int 1)) Qae))) (mC (.int 39))))
def G3:MS:=Qan 6 (Qaf gIx (Qbq (Qaa (mC (.str [99,117,116])) (Qaa (mC (.str [99,101,108,108,115])) (Qaa (mC (.str [119,111,114,100,115])) (Qaa (mC (.str [101,118,101,110])) Qae))))) (Qaf QaU (Qas Qa3 (Qaa (Qab 4) (Qaa (mC (.int 2)) Qae))) (mC (.int 4))))
def G4:MS:=Qan 7 (Qab 5)
def G5:MS:=Qan 8 (Qab 6)
def G6:MS:=QaX (Qav (Qaf gEq (Qaf QaU (Qas Qa3 (Qaa (Qab 4) (Qaa (mC (.int 3)) Qae))) (mC (.int 2))) (mC (.int 0)))) (Qan 7 (Qas Qcf (Qaa (Qas Qa3 (Qaa (Qab 4) (Qaa (mC (.int 4)) Qae))) Qae))) QaH
def G7:MS:=QaX (Qav (Qaf gEq (Qaf QaU (Qas Qa3 (Qaa (Qab 4) (Qaa (mC (.int 5)) Qae))) (mC (.int 2))) (mC (.int 0)))) (Qan 8 (Qas Qcl (Qaa (Qas Qa3 (Qaa (Qab 4) (Qaa (mC (.int 6)) Qae))) Qae))) QaH
def G8:MS:=Qan 9 (mC (.str [115,105,122,101]))
def G9:MS:=QaX (QdJ (Qav (Qaf gEq (Qab 7) (Qab 5))) (Qav (Qaf gEq (Qab 8) (Qab 6)))) (Qan 9 (mC (.str [116,111,108,100]))) QaH
def G10:MS:=Qan 10 (Qas Qb3 (Qaa (Qab 2) (Qaa (Qab 5) (Qaa (Qab 6) Qae))))
def G11:MS:=QaX (Qav (Qaf gNe (Qas QbC (Qaa (Qab 2) (Qaa (Qab 7) (Qaa (Qab 8) Qae)))) (Qab 9))) (QaB (mC (.bl false))) QaH
def G12:MS:=QaX (Qg6 (QcA (Qb4 (Qgr "list" (Qab 10)))) (Qav (Qaf gNe (Qas Qb3 (Qaa (Qab 2) (Qaa (Qab 5) (Qaa (Qab 6) Qae)))) (Qab 10)))) (QaB (mC (.bl false))) QaH
def B_l:MS:=Qah G1 (Qah G2 (Qah G3 (Qah G4 (Qah G5 (Qah G6 (Qah G7 (Qah G8 (Qah G9 (Qah G10 (Qah G11 G12))))))))))
def lE (X:D) (l:List LT) (o3 o4 o5 o6 o7 o8 o9 o10:Option D):Qak:=[some X,some (.lst (l.map dL)),some (.lst (l.map dL)),o3,o4,o5,o6,o7,o8,o9,o10]
theorem QtN:Qlp=Qah (Qan 1 (Qas Qcn (Qaa (Qab 0) (Qaa (mC (.int 2)) (Qaa (mC (.int 40)) Qae)))))
  (Qah (Qan 2 (Qaz Qfz (Qaa (Qab 1) Qae)))
  (Qah (QbI (Qck (Qaa (Qaz QhC (Qaa (mC (.int 1)) (Qaa (Qaz QhF (Qaa (mC (.int 12)) (Qaa (Qaz Qbn (Qaa (Qab 0) Qae)) Qae))) Qae))) Qae)) (mgN 3) B_l)
  (QaB (Qaf gEq (Qab 2) (Qab 1))))):=rfl
theorem Qvf (xs:List Int) {l:List LT} (hl:l.length≤200) (k:Nat) (hk:k≤100) (O:Qac) (o4 o5 o6 o7 o8 o9 o10:Option D):∃p4 p5 p6 p7 p8 p9 p10 O',B_l (lE (.lst (xs.map D.int)) l (some (.int (k:Int))) o4 o5 o6 o7 o8 o9 o10) O = .nx (lE (.lst (xs.map D.int)) l (some (.int (k:Int))) p4 p5 p6 p7 p8 p9 p10) O':=by
 obtain ⟨v,ev⟩:=QjN xs (k:Int) (by omega) (by omega) O;obtain ⟨X,hX⟩:∃X,X=D.lst (xs.map D.int):=⟨_,rfl⟩;rw [←hX] at ev ⊢;obtain ⟨K,hK⟩:∃K,K=some (D.int (k:Int)):=⟨_,rfl⟩;have s1:G1 (lE X l (some (.int (k:Int))) o4 o5 o6 o7 o8 o9 o10) O = .nx (lE X l (some (.int (k:Int))) (some (.int v)) o5 o6 o7 o8 o9 o10) O:=QaW ((QaL (maS (x:=X) rfl (ma1 (x:=.int (k:Int)) rfl))).trans ev)
 have mx:∀(ρ:Qak) (O:Qac) (j n:Int),0≤j→j≤1000000→0 < n→ρ[4]? = some (some (.int v))→Qaf QaU (Qas Qa3 (Qaa (Qab 4) (Qaa (mC (.int j)) Qae))) (mC (.int n)) ρ O = .ok (.int (mix v j % n)) O:=fun ρ O j n h0 h1 h2 h3 =>
  QaM ((QaL (maS (x:=.int v) (by rw [Qcc,h3]) (ma1 (x:=.int j) rfl))).trans (Qlz v j h0 h1 O)) (y:=.int n) rfl (by rw [QaO,QaO,QgI,if_pos h2])
 have md:∀(ρ:Qak) (O:Qac) (j:Int),0≤j→j≤1000000→ρ[4]? = some (some (.int v))→Qas Qa3 (Qaa (Qab 4) (Qaa (mC (.int j)) Qae)) ρ O = .ok (.int (mix v j)) O:=fun ρ O j h0 h1 h3=>(QaL (maS (x:=.int v) (by rw [Qcc,h3]) (ma1 (x:=.int j) rfl))).trans (Qlz v j h0 h1 O)
 obtain ⟨g,hg⟩:∃g,g=2+mix v 1 % 39:=⟨_,rfl⟩
 have g0:2≤g∧g≤40:=by omega
 have s2:G2 (lE X l (some (.int (k:Int))) (some (.int v)) o5 o6 o7 o8 o9 o10) O = .nx (lE X l (some (.int (k:Int))) (some (.int v)) (some (.int g)) o6 o7 o8 o9 o10) O:=by
  rw [hg];exact QaW (QaM (x:=.int 2) rfl (mx _ O 1 39 (by decide) (by decide) (by decide) rfl) Qel)
 obtain ⟨q,hq,eq⟩:∃q,Wy4 q∧gIx (.lst [.str [99,117,116],.str [99,101,108,108,115],.str [119,111,114,100,115],.str [101,118,101,110]]) (.int (mix v 2 % 4))=some (.str q):=by
  obtain ⟨c,hc,e⟩:=ixL (l:=[.str [99,117,116],.str [99,101,108,108,115],.str [119,111,114,100,115],.str [101,118,101,110]]) (v:=mix v 2) (n:=4) rfl (by decide)
  rcases zd.mp hc with rfl | hc
  ·exact ⟨_,.cut,e⟩
  rcases zd.mp hc with rfl | hc
  ·exact ⟨_,.cells,e⟩
  rcases zd.mp hc with rfl | hc
  ·exact ⟨_,.words,e⟩
  rcases zd.mp hc with rfl | hc
  ·exact ⟨_,.even,e⟩
  ·exact nomatch hc
 have s3:G3 (lE X l (some (.int (k:Int))) (some (.int v)) (some (.int g)) o6 o7 o8 o9 o10) O = .nx (lE X l (some (.int (k:Int))) (some (.int v)) (some (.int g)) (some (.str q)) o7 o8 o9 o10) O :=
  QaW (QaM (x:=.lst [.str [99,117,116],.str [99,101,108,108,115],.str [119,111,114,100,115],.str [101,118,101,110]]) rfl (mx _ O 2 4 (by decide) (by decide) (by decide) rfl) eq)
 have s4:G4 (lE X l (some (.int (k:Int))) (some (.int v)) (some (.int g)) (some (.str q)) o7 o8 o9 o10) O = .nx (lE X l (some (.int (k:Int))) (some (.int v)) (some (.int g)) (some (.str q)) (some (.int g)) o8 o9 o10) O:=QaW rfl;have s5:G5 (lE X l (some (.int (k:Int))) (some (.int v)) (some (.int g)) (some (.str q)) (some (.int g)) o8 o9 o10) O = .nx (lE X l (some (.int (k:Int))) (some (.int v)) (some (.int g)) (some (.str q)) (some (.int g)) (some (.str q)) o9 o10) O:=QaW rfl
 obtain ⟨dw,hw,s6⟩:∃dw,(dw = .int g∨QoV dw)∧G6 (lE X l (some (.int (k:Int))) (some (.int v)) (some (.int g)) (some (.str q)) (some (.int g)) (some (.str q)) o9 o10) O = .nx (lE X l (some (.int (k:Int))) (some (.int v)) (some (.int g)) (some (.str q)) (some dw) (some (.str q)) o9 o10) O:=by
  have t:=Qhh (b:=mC (.int 0)) (j:=0) (mx (lE X l (some (.int (k:Int))) (some (.int v)) (some (.int g)) (some (.str q)) (some (.int g)) (some (.str q)) o9 o10) O 3 2 (by decide) (by decide) (by decide) rfl) rfl
  by_cases h:mix v 3 % 2=0
  ·rw [zo h] at t;obtain ⟨d,hd,ed⟩:=QwC (mix v 4) O;refine ⟨d,.inr (Qwv d hd),?_⟩;unfold G6;rw [Qc9 t];exact QaW ((QaL (ma1 (md _ O 4 (by decide) (by decide) rfl))).trans ed)
  ·rw [zj h] at t;refine ⟨.int g,.inl rfl,?_⟩;unfold G6;rw [if_no t];rfl
 obtain ⟨dy,hy,s7⟩:∃dy,(dy = .str q∨Qwp dy)∧G7 (lE X l (some (.int (k:Int))) (some (.int v)) (some (.int g)) (some (.str q)) (some dw) (some (.str q)) o9 o10) O = .nx (lE X l (some (.int (k:Int))) (some (.int v)) (some (.int g)) (some (.str q)) (some dw) (some dy) o9 o10) O:=by
  have t:=Qhh (b:=mC (.int 0)) (j:=0) (mx (lE X l (some (.int (k:Int))) (some (.int v)) (some (.int g)) (some (.str q)) (some dw) (some (.str q)) o9 o10) O 5 2 (by decide) (by decide) (by decide) rfl) rfl
  by_cases h:mix v 5 % 2=0
  ·rw [zo h] at t;obtain ⟨d,hd,ed⟩:=QvC (mix v 6) O;refine ⟨d,.inr (Qv8 d hd),?_⟩;unfold G7;rw [Qc9 t];exact QaW ((QaL (ma1 (md _ O 6 (by decide) (by decide) rfl))).trans ed)
  ·rw [zj h] at t;refine ⟨.str q,.inl rfl,?_⟩;unfold G7;rw [if_no t];rfl
 have s8:G8 (lE X l (some (.int (k:Int))) (some (.int v)) (some (.int g)) (some (.str q)) (some dw) (some dy) o9 o10) O = .nx (lE X l (some (.int (k:Int))) (some (.int v)) (some (.int g)) (some (.str q)) (some dw) (some dy) (some (.str Qhj)) o10) O:=QaW rfl;obtain ⟨st,ans⟩:=Gd.ex l hl g g0 hq;obtain ⟨O1,f1,_⟩:=ans l rfl O
 obtain ⟨due,O2,s9,f2⟩:∃due O2,G9 (lE X l (some (.int (k:Int))) (some (.int v)) (some (.int g)) (some (.str q)) (some dw) (some dy) (some (.str Qhj)) o10) O = .nx (lE X l (some (.int (k:Int))) (some (.int v)) (some (.int g)) (some (.str q)) (some dw) (some dy) (some (.str due)) o10) O∧QbC [.lst (l.map dL),dw,dy] O1 = .ok (.str due) O2:=by
  obtain ⟨ρ,hρ⟩:∃ρ,ρ=lE X l (some (.int (k:Int))) (some (.int v)) (some (.int g)) (some (.str q)) (some dw) (some dy) (some (.str Qhj)) o10:=⟨_,rfl⟩
  have v5:Qab 5 ρ O = .ok (.int g) O:=by rw [hρ]; rfl
  have v6:Qab 6 ρ O = .ok (.str q) O:=by rw [hρ]; rfl
  have v7:Qab 7 ρ O = .ok dw O:=by rw [hρ]; rfl
  have v8:Qab 8 ρ O = .ok dy O:=by rw [hρ]; rfl
  rcases hw with ew | hw
  ·have t1:Qav (Qaf gEq (Qab 7) (Qab 5)) ρ O = .ok true O:=by
    rw [ew] at v7
    have:=Qhh v7 v5
    rwa [zo rfl] at this
   rcases hy with ey | hy
   ·have t2:Qav (Qaf gEq (Qab 8) (Qab 6)) ρ O = .ok true O:=by
     rw [ey] at v8;refine QeB (QaM v8 v6 ?_);show some (D.bl (decide (q=q)))=_;rw [zo rfl]
    obtain ⟨O2,f2,_⟩:=ans l rfl O1;refine ⟨QgZ,O2,?_,?_⟩
    ·rw [←hρ];unfold G9;rw [Qc9 ((and_t t1).trans t2),hρ];exact QaW rfl
    ·rw [ew,ey];exact Qrp f2
   ·have t2:Qav (Qaf gEq (Qab 8) (Qab 6)) ρ O = .ok false O:=QeB (QaM v8 v6 (by rw [hy.de,Qcq]; exact hy.ne q hq));refine ⟨Qhj,O1,?_,?_⟩
    ·rw [←hρ];unfold G9;rw [if_no ((and_t t1).trans t2)];rfl
    ·refine QlD ?_;rw [ew,QjQ,QwM (Qjq g g0 O1) (hy.no O1)];rfl
  ·have t1:Qav (Qaf gEq (Qab 7) (Qab 5)) ρ O = .ok false O:=QeB (QaM v7 v5 (by rw [hw.de,QaO]; exact hw.ne g g0.1 g0.2));refine ⟨Qhj,O1,?_,?_⟩
   ·rw [←hρ];unfold G9;rw [if_no (and_f t1)];rfl
   ·refine QlD ?_;rw [QjQ,Qwa (hw.no O1)];rfl
 have s10:G10 (lE X l (some (.int (k:Int))) (some (.int v)) (some (.int g)) (some (.str q)) (some dw) (some dy) (some (.str due)) o10) O = .nx (lE X l (some (.int (k:Int))) (some (.int v)) (some (.int g)) (some (.str q)) (some dw) (some dy) (some (.str due)) (some (.lst (st.map dS)))) O1:=QuK ((QaL (maS (x:=.lst (l.map dL)) rfl (maS (x:=.int g) rfl (ma1 (x:=.str q) rfl)))).trans f1);obtain ⟨O3,f3,_⟩:=ans l rfl O2;refine ⟨some (.int v),some (.int g),some (.str q),some dw,some dy,some (.str due),some (.lst (st.map dS)),O3,?_⟩;obtain ⟨ρ,hρ⟩:∃ρ,ρ=lE X l (some (.int (k:Int))) (some (.int v)) (some (.int g)) (some (.str q)) (some dw) (some dy) (some (.str due)) (some (.lst (st.map dS))):=⟨_,rfl⟩
 rw [←hρ] at s10 ⊢
 have v2:∀O,Qab 2 ρ O = .ok (.lst (l.map dL)) O:=fun O=>by rw [hρ]; rfl
 have v5:∀O,Qab 5 ρ O = .ok (.int g) O:=fun O=>by rw [hρ]; rfl
 have v6:∀O,Qab 6 ρ O = .ok (.str q) O:=fun O=>by rw [hρ]; rfl
 have v7:∀O,Qab 7 ρ O = .ok dw O:=fun O=>by rw [hρ]; rfl
 have v8:∀O,Qab 8 ρ O = .ok dy O:=fun O=>by rw [hρ]; rfl
 have v9:∀O,Qab 9 ρ O = .ok (.str due) O:=fun O=>by rw [hρ]; rfl
 have v10:∀O,Qab 10 ρ O = .ok (.lst (st.map dS)) O:=fun O=>by rw [hρ]; rfl
 have t11:Qav (Qaf gNe (Qas QbC (Qaa (Qab 2) (Qaa (Qab 7) (Qaa (Qab 8) Qae)))) (Qab 9)) ρ O1 = .ok false O2:=by
  refine Qmk (Qnz ((QaL (maS (v2 O1) (maS (v7 O1) (ma1 (v8 O1))))).trans f2) (v9 O2) ?_);show some (D.bl (!decide (due=due)))=_;rw [zo rfl];rfl
 have t12:Qg6 (QcA (Qb4 (Qgr "list" (Qab 10)))) (Qav (Qaf gNe (Qas Qb3 (Qaa (Qab 2) (Qaa (Qab 5) (Qaa (Qab 6) Qae)))) (Qab 10))) ρ O2 = .ok false O3:=by
  have a1:QcA (Qb4 (Qgr "list" (Qab 10))) ρ O2 = .ok false O2:=QsX (by
   have:=QvM (n:="list") (t:="list") (v10 O2) rfl
   rwa [Qxa] at this)
  rw [QoD,a1,Qar,if_neg zg];exact Qmk (Qnz ((QaL (maS (v2 O2) (maS (v5 O2) (ma1 (v6 O2))))).trans f3) (v10 O3) (ne_st _))
 unfold B_l;rw [sq s1,sq s2,sq s3,sq s4,sq s5,sq s6,sq s7,sq s8,sq s9,sq s10];unfold G11 G12;rw [sq (ρ':=ρ) (O':=O2) (by rw [QqK t11]; rfl),QqK t12];rfl
theorem Qty {m:L2.M (List D)}{ρ:Qak}{O O1:Qac}{j:Int} (e:m ρ O = .ok [.int j] O1) (h:j≤1000000000∧-1000000000≤j):Qck m ρ O = .ok (QaY 0 j.toNat) O1:=by
 unfold Qck;rw [e];show (if _ then _ else _)=_;rw [if_pos h]
theorem Qss (xs:List Int) (hx:xs.length≤63):∃O',Qls [.lst (xs.map D.int)] [] = .ok (.bl true) O':=by
 obtain ⟨l,hl,hok,eL⟩:=Qqc xs 2 40 (by decide) (by decide) hx [];have s1:Qan 1 (Qas Qcn (Qaa (Qab 0) (Qaa (mC (.int 2)) (Qaa (mC (.int 40)) Qae)))) [some (.lst (xs.map D.int)),none,none,none,none,none,none,none,none,none,none] [] = .nx [some (.lst (xs.map D.int)),some (.lst (l.map dL)),none,none,none,none,none,none,none,none,none] []:=QaW ((QaL (maS (x:=.lst (xs.map D.int)) rfl (maS (x:=.int 2) rfl (ma1 (x:=.int 40) rfl)))).trans eL);have s2:Qan 2 (Qaz Qfz (Qaa (Qab 1) Qae)) [some (.lst (xs.map D.int)),some (.lst (l.map dL)),none,none,none,none,none,none,none,none,none] [] = .nx (lE (.lst (xs.map D.int)) l none none none none none none none none) []:=QaW (Qob (m:=Qab 1) (d:=.lst (l.map dL)) rfl rfl)
 obtain ⟨n,hn,rn⟩:∃n:Nat,n≤12∧Qck (Qaa (Qaz QhC (Qaa (mC (.int 1)) (Qaa (Qaz QhF (Qaa (mC (.int 12)) (Qaa (Qaz Qbn (Qaa (Qab 0) Qae)) Qae))) Qae))) Qae) (lE (.lst (xs.map D.int)) l none none none none none none none none) [] = .ok (QaY 0 n) []:=by
  have ln:=QfK (m:=Qab 0) (ρ:=lE (.lst (xs.map D.int)) l none none none none none none none none) (O:=[]) (l:=xs.map D.int) rfl;rw [zh] at ln;have mn:=QcS (g:=QhF) (maS (a:=mC (.int 12)) (x:=.int 12) rfl (ma1 ln)) QwO;have mm:=QcS (g:=QhC) (maS (a:=mC (.int 1)) (x:=.int 1) rfl (ma1 mn)) QqQ;obtain ⟨j,hj,hj1,hj2⟩:∃j:Int,(if (if (xs.length:Int) < 12 then (xs.length:Int) else 12) > 1 then (if (xs.length:Int) < 12 then (xs.length:Int) else 12) else 1)=j∧0≤j∧j≤12:=⟨_,rfl,by split <;> split <;> omega,by split <;> split <;> omega⟩;rw [hj] at mm;exact ⟨j.toNat,by omega,Qty (ma1 mm) (by omega)⟩
 obtain ⟨ρ',O',e,o3,o4,o5,o6,o7,o8,o9,o10,rfl⟩:=Qda (g:=mgN 3) (b:=B_l)
  (fun _ ρ _=>∃o3 o4 o5 o6 o7 o8 o9 o10,ρ=lE (.lst (xs.map D.int)) l o3 o4 o5 o6 o7 o8 o9 o10) (QaY 0 n) 0 (lE (.lst (xs.map D.int)) l none none none none none none none none) [] ⟨_,_,_,_,_,_,_,_,rfl⟩ (by
   rintro i d ρ O' hi ⟨o3,o4,o5,o6,o7,o8,o9,o10,rfl⟩;obtain ⟨hi',rfl⟩:=QyT hi;obtain ⟨p4,p5,p6,p7,p8,p9,p10,O2,h⟩:=Qvf xs (l:=l) (by omega) i (by omega) O' o4 o5 o6 o7 o8 o9 o10
   exact ⟨_,rfl,_,_,.inl h,_,_,_,_,_,_,_,_,rfl⟩)
 have okl:=Qne l hok;refine ⟨O',?_⟩
 have c0:Qls [.lst (xs.map D.int)] []=QaZ (Qlp [some (.lst (xs.map D.int)),none,none,none,none,none,none,none,none,none,none] []):=by
  unfold Qls;rw [Qg3];rfl
 have r3:Qaf gEq (Qab 2) (Qab 1) (lE (.lst (xs.map D.int)) l o3 o4 o5 o6 o7 o8 o9 o10) O' = .ok (.bl true) O':=QaM (x:=.lst (l.map dL)) (y:=.lst (l.map dL)) rfl rfl (by rw [Qbz,Qw8,okl,Bool.and_self,if_pos rfl,QkW okl]);rw [c0,QtN,sq s1,sq s2,QaN,Qf7,rn,QeN,e,QaR,QcI r3];rfl
theorem all_mk {l:PySem.W.OpenLaw}{w:World}{K:PySem.W.Frag}{h:Heap}{mg:Str→Option Value}{fa:Addr} (X:K.In h) (G:h.Ns mainGlobals mg) (hfa:mg "law" = some (.ref fa))
  {QdG:Addr}
  {Qo8:Addr}{Qvy Qqo:Option Addr}{Qu6:Array (Option Value)}{QvU Qpv Qqh Qpg QmM Qqv:Value}
  {ad_WAYS:Addr}{Qnw:Value}{Quy:Option Addr}{it_WAYS:Array Value}{nn_WAYS:Nat}{Qtv:Array (Option Value)}
  {Qhk:Addr}
  {QbJ:Addr}
  {Qi4:Addr}
  {Qjr:Addr}
  {Qjl:Addr}
  {Qjd:Addr}
  {Qjv:Addr}
  {Qi1:Addr}
  {QkE:Addr}
  {Qjs:Addr}
  {QkJ:Addr}
  {cdX:ClassData}
  (Z_Even:ClsAt K "Even" QdG)
  (Qkn:PySem.W.findIn K (.ref QdG) "letters" = some none)
  (Qm6:PySem.W.findIn K (.ref QdG) "wide" = some none)
  (Qg1:Def K mg "width_of" QhI)
  (Qho:Def K mg "cells_of" QfA)
  (Qhl:Def K mg "is_break" QhB)
  (QkK:Def K mg "reach" Qkp)
  (Qeu:Def K mg "fitting_ends" QeI)
  (Qgq:Def K mg "line_ends" Qgt)
  (Qhx:Def K mg "is_whole" QhG)
  (Qgk:Def K mg "is_within" Qgx)
  (Qgn:Def K mg "cost_over" Qgs)
  (QfS:Def K mg "least_cost" Qdg)
  (M_Even_nodes_at:MethAt K QdG "nodes_at" "Even.nodes_at" Qd8)
  (M_Even_is_end:MethAt K QdG "is_end" "Even.is_end" Qfd)
  (M_Even_cost_to:MethAt K QdG "cost_to" "Even.cost_to" Qew)
  (M_Even_moves_from:MethAt K QdG "moves_from" "Even.moves_from" Qcw)
  (Qe9:Def K mg "price_nodes" Qff)
  (M_Even_last_at:MethAt K QdG "last_at" "Even.last_at" QeA)
  (Qjh:Def K mg "priced" Qi7)
  (QdS:Def K mg "first_cheapest" QcQ)
  (M_Even_first_node:MethAt K QdG "first_node" "Even.first_node" QdA)
  (Qjc:Def K mg "way_of" Qjm)
  (M_Even___init__:MethAt K QdG "__init__" "Even.__init__" Qeh)
  (QmR:Def K mg "even" Qj0)
  (Qjx:Def K mg "is_way" Qi3)
  (QhD:Def K mg "next_end" Qhe)
  (QfZ:Def K mg "end_to_end" QfO)
  (Ql4:Def K mg "fold" QmW)
  (Qg8:Def K mg "_law_cell" QhE)
  (Qip:Def K mg "_law_mix" Qh7)
  (Qga:Def K mg "_law_stream" QfR)
  (Qh0:Def K mg "_law_run" Qgf)
  (Qfb:Def K mg "_law_letters" Qfl)
  (Qe5:Def K mg "_law_refused" Qfk)
  (Qez:Def K mg "_law_odd_wide" QeM)
  (Qe4:Def K mg "_law_odd_way" Qfe)
  (QoC:PySem.W.nsIn K mainGlobals "law" = some (some (.ref Qo8))) (Qs4:K.lookup Qo8=some ⟨QvU,Qvy,.func (PySem.W.fnOf "law" "law" (Qce QeS) (Qbs QeS) (Qao QeS) .none Qpv Qqh Qpg Qqo QmM Qqv),Qu6⟩) (QuY:PySem.W.codeIn K QmM "law" = true) (Qw0:PySem.W.keepIn K (.ref Qo8)=true)
  (B:Qbr mg)
  (NK:Qbb K=true)
  (Qdi:∃u,mg "GREATEST_BREADTH" = some u∧RelV (.int 40) u)
  (Qd4:∃u,mg "LEAST_BREADTH" = some u∧RelV (.int 2) u)
  (Qsg:PySem.W.nsIn K mainGlobals "WAYS" = some (some (.ref ad_WAYS))) (Qsc:K.lookup ad_WAYS=some ⟨Qnw,Quy,.seq it_WAYS nn_WAYS,Qtv⟩) (t_c_WAYS:Qnw = .type "tuple") (Qrl:it_WAYS.size≤sizeLine) (v_c_WAYS:Qay (List.map (fun l=>V.str (S l)) [[99,117,116],[99,101,108,108,115],[119,111,114,100,115],[101,118,101,110]]) it_WAYS.toList)
  (Qm5:PySem.W.nsIn K mainGlobals "OutError" = some (some (.ref Qhk)))
  (Qk4:PySem.W.nsIn K mainGlobals "NoSize" = some (some (.ref QbJ)))
  (QqF:PySem.W.nsIn K mainGlobals "Closed" = some (some (.ref Qi4)))
  (Qpu:PySem.W.nsIn K mainGlobals "NoCell" = some (some (.ref Qjr)))
  (QpU:PySem.W.nsIn K mainGlobals "NoHand" = some (some (.ref Qjl)))
  (Qpe:PySem.W.nsIn K mainGlobals "NoName" = some (some (.ref Qjd)))
  (Qpt:PySem.W.nsIn K mainGlobals "NoRoll" = some (some (.ref Qjv)))
  (QqL:PySem.W.nsIn K mainGlobals "NoRoom" = some (some (.ref Qi1)))
  (Qri:PySem.W.nsIn K mainGlobals "NoRow" = some (some (.ref QkE)))
  (QpM:PySem.W.nsIn K mainGlobals "NoSign" = some (some (.ref Qjs)))
  (QrS:PySem.W.nsIn K mainGlobals "Twice" = some (some (.ref QkJ)))
  (xN:PySem.W.excIn K QbJ bmV "ValueError.__new__" = true)
  (xT:PySem.W.exmOne K (.ref QbJ) (.ref Qhk)=some true)
  (xga:PySem.W.findIn K (.ref QbJ) "__getattribute__" = some (some (.builtin "BaseException.__getattribute__")))
  (xna:PySem.W.findIn K (.ref QbJ) "__getattr__" = some none)
  (xca:PySem.W.findIn K (.ref QbJ) "__class__" = some (some (.builtin "object.__class__")))
  (xsp:PySem.W.specialIn K (.builtin "object.__class__") "__get__" = some (some (.builtin "getset_descriptor.__get__")))
  (xtk:PySem.W.takesIn K (.builtin "object.__class__")=some true)
  (xob:PySem.W.mroIn K QbJ (.type "object")=some true)
  (xbe:PySem.W.mroIn K QbJ (.type "BaseException")=some true)
  (xcl:PySem.W.clsIn K QbJ=some cdX)
  (xka:PySem.W.kitAny K (.ref QbJ) [.ref Qi4,.ref Qjr,.ref Qjl,.ref Qjd,.ref Qjv,.ref Qi1,.ref QkE,.ref Qjs,.ref QkJ]=some false)
  (xk1:PySem.W.kitOne K (.ref QbJ) (.ref QbJ)=some true)
  (xk2:PySem.W.kitOne K (.ref QbJ) (.type "ValueError")=some true)
  (xve:PySem.W.nsIn K mainGlobals "ValueError" = some none) :
  ∃fd:FuncData,(∀(s:Shared) (v:Value),BindsTo s fd ⟨[v],[]⟩ [("_law_script",v)])∧∀base:Heap,K.In base→base.Ns mainGlobals mg→Qb7 l.prog w K mg base CX0 11 fa fd ["_law_script"] (sp_law K):=by
 have e:=hfa.symm.trans (PySem.W.mg_of X G QoC);cases e;have QaT:=Z_Even.kf X G Qkn;have QbY:=Z_Even.kf X G Qm6;have Qd6:=Z_Even.dm X G M_Even_nodes_at;have Qe6:=Z_Even.dm X G M_Even_is_end;have QeF:=Z_Even.dm X G M_Even_cost_to;have Qdu:=Z_Even.dm X G M_Even_moves_from;have QeG:=Z_Even.dm X G M_Even_last_at;have Qdv:=Z_Even.dm X G M_Even_first_node;have Qef:=Z_Even.dc X G M_Even___init__;have QoH:Def K mg "law" QeS:=⟨_,_,PySem.W.mg_of X G QoC,QmY (st:=QeS) Qs4 QuY Qw0⟩;have Qme:QrL K mg "WAYS" [[99,117,116],[99,101,108,108,115],[119,111,114,100,115],[101,118,101,110]]:=⟨ad_WAYS,_,it_WAYS,nn_WAYS,PySem.W.mg_of X G Qsg,Qsc,t_c_WAYS,rfl,Qrl,v_c_WAYS⟩
 have X_NoSize:Qr3 K mg "NoSize":=⟨_,PySem.W.mg_of X G Qk4,xN⟩;have RF:QoX K mg "OutError" "NoSize" ["Closed","NoCell","NoHand","NoName","NoRoll","NoRoom","NoRow","NoSign","Twice"]:=⟨Qhk,QbJ,[Qi4,Qjr,Qjl,Qjd,Qjv,Qi1,QkE,Qjs,QkJ],PySem.W.mg_of X G Qm5,PySem.W.mg_of X G Qk4,xT,⟨xga,xna,xca,xsp,xtk,xob,xbe,by rw [xcl]; rfl⟩,⟨_,_,rfl,PySem.W.mg_of X G QqF,⟨_,_,rfl,PySem.W.mg_of X G Qpu,⟨_,_,rfl,PySem.W.mg_of X G QpU,⟨_,_,rfl,PySem.W.mg_of X G Qpe,⟨_,_,rfl,PySem.W.mg_of X G Qpt,⟨_,_,rfl,PySem.W.mg_of X G QqL,⟨_,_,rfl,PySem.W.mg_of X G Qri,⟨_,_,rfl,PySem.W.mg_of X G QpM,⟨_,_,rfl,PySem.W.mg_of X G QrS,rfl⟩⟩⟩⟩⟩⟩⟩⟩⟩,xka,xk1,xk2,PySem.W.mg_none_of X G xve⟩
 refine ⟨PySem.W.fnOf "law" "law" (Qce QeS) (Qbs QeS) (Qao QeS) .none Qpv Qqh Qpg Qqo QmM Qqv,fun s v=>.of_eq rfl,fun base _ _=>?_⟩;have QbX:=@Qnj l.prog w K mg base Qg1 B NK;have Qhg:=@Qnm l.prog w K mg base Qho B NK QbX;have QhH:=@Qm1 l.prog w K mg base Qhl B NK;have Qds:=@Qry l.prog w K mg base QkK B NK QbX;have Qey:=@QjI l.prog w K mg base Qeu B NK QbX QhH;have QcZ:=@Qmx l.prog w K mg base Qgq B NK Qey Qds Qhg;have Qhp:=@Qm9 l.prog w K mg base Qhx B NK;have Qgl:=@QmI l.prog w K mg base Qgk B NK Qhp;have Qc1:=@Qmg l.prog w K mg base Qgn B NK;have QcG:=@Qlh l.prog w K mg base QfS B NK Qc1
 have Qd9:=@Qjw l.prog w K mg base Qd6 B NK;have QbD:=@QkF l.prog w K mg base Qe6 B NK QaT;have QeH:=@QjV l.prog w K mg base QeF B NK QaT QbY;have QbO:=@Qh5 l.prog w K mg base Qdu B NK QaT QbY QbD QcZ QeH;have Qfg:=@Qkl l.prog w K mg base Qe9 B NK Qd9 QbO QbD QcG;have QeL:=@Qkf l.prog w K mg base QeG B NK QaT;have Qi9:=@Qqg l.prog w K mg base Qjh B NK QeL Qfg;have QdR:=@QiP l.prog w K mg base QdS B NK QcG Qc1;have Qdy:=@Qh1 l.prog w K mg base Qdv B NK;have Qji:=@QpS l.prog w K mg base Qjc B NK Qi9 Qdy QbD QdR QbO;have Qep:=@Qi8 l.prog w K mg base Qef B NK QaT QbY;have Ql5:=@Qt8 l.prog w K mg base QmR B NK Qji Qep
 have Qju:=@QpJ l.prog w K mg base Qjx B NK Qme;have Qhw:=@Qnd l.prog w K mg base QhD B NK QcZ Qds;have Qf0:=@Qli l.prog w K mg base QfZ B NK Qhw;have QfW:=@QuA l.prog w K mg base Ql4 B NK Qdi Qd4 X_NoSize Qgl Qju Qds Ql5 Qf0;have Qcp:=@Qm8 l.prog w K mg base Qg8 B NK;have QbP:=@Qot l.prog w K mg base Qip B NK;have QfT:=@Qlj l.prog w K mg base Qga B NK;have Qia:=@Qo0 l.prog w K mg base Qh0 B NK;have Qfa:=@QkL l.prog w K mg base Qfb B NK QbP Qcp QfT Qia;have Qfc:=@Qko l.prog w K mg base Qe5 B NK RF QfW;have QeE:=@QjX l.prog w K mg base Qez B NK;have Qfj:=@QkQ l.prog w K mg base Qe4 B NK;have Qw1:=@QvS l.prog w K mg base QoH B NK Qfa Qcp QbP QeE Qfj QfW.can Qfc
 obtain ⟨f',fd',hm',hk',hb',F',oc',od',osl',lk'⟩:=Qw1;have e2:=(PySem.W.mg_of X G QoC).symm.trans hm';cases e2;have e3:=Qs4.symm.trans lk';cases e3;exact F'.imp (Quf Qss)
theorem walk {l:PySem.W.OpenLaw}{q:Program}{loose:List Str}{XP:(Str→Option Value)→Heap→Prop}{YP:World→Heap→Prop}{d:DefRec}{K:Params→PySem.W.Frag} (hn:l.most=some 63) (hdf:d.params.defaults = [])
  (hY:∀(w:World) (h:Heap),YP w h→(K w.params).In h)
  (F:∀(w:World) (mg:Str→Option Value) (fa:Addr) (h:Heap),(K w.params).In h→h.Ns mainGlobals mg→mg d.name=some (.ref fa) →
   ∃fd:FuncData,(∀(s:Shared) (u:Value),BindsTo s fd ⟨[u],[]⟩ [("_law_script",u)])∧∀base:Heap,(K w.params).In base→base.Ns mainGlobals mg→Qb7 l.prog w (K w.params) mg base CX0 11 fa fd ["_law_script"] (sp_law (K w.params))) :
  PySem.W.WalkO q loose XP YP l.row.toRowW d [] (fun f vs=>PySem.call f vs) :=
 L2.walk_ofR (n:=63) (k:=11) (x:="_law_script") (CX:=fun _=>CX0) (sp:=fun w=>sp_law (K w.params)) hn (by decide) hdf ⟨rfl,by decide,by decide⟩ hY F (fun _ _ a ns hl ho hS=>⟨a,ns,rfl,hS,hl,ho,fun _=>rfl⟩) fun _ _ _ _ _ z=>z
end K47
open PySem PySem.W PyProof.Rows L2
set_option maxRecDepth 100000 in
set_option maxHeartbeats 0 in
theorem PySem.Challenge.cw_outweave_k47_folds_refused_holds : PySem.Challenge.rw_outweave_k47_folds_refused.Holds := by
 w_on; o_law; k_head; (case hw=>w_witness2)
 k_fill
 refine K47.walk (l:=PySem.Challenge.rw_outweave_k47_folds_refused) rfl rfl (fun w h Y=>PySem.W.kIn_of Y) ?F
 case F =>
  intro w mg fa h KX G hmg
  refine' K47.all_mk KX G hmg ⟨?x1,?x2,?x3,?x4,?x5,?x6,?x7⟩ ?x8 ?x9 (mkD KX G ?x10 ?x11 ?x12 ?x13) (mkD KX G ?x14 ?x15 ?x16 ?x17) (mkD KX G ?x18 ?x19 ?x20 ?x21) (mkD KX G ?x22 ?x23 ?x24 ?x25) (mkD KX G ?x26 ?x27 ?x28 ?x29) (mkD KX G ?x30 ?x31 ?x32 ?x33) (mkD KX G ?x34 ?x35 ?x36 ?x37) (mkD KX G ?x38 ?x39 ?x40 ?x41) (mkD KX G ?x42 ?x43 ?x44 ?x45) (mkD KX G ?x46 ?x47 ?x48 ?x49) (mkM ?x50 ?x51 ?x52 ?x53 ?x54) (mkM ?x55 ?x56 ?x57 ?x58 ?x59) (mkM ?x60 ?x61 ?x62 ?x63 ?x64) (mkM ?x65 ?x66 ?x67 ?x68 ?x69) (mkD KX G ?x70 ?x71 ?x72 ?x73) (mkM ?x74 ?x75 ?x76 ?x77 ?x78) (mkD KX G ?x79 ?x80 ?x81 ?x82) (mkD KX G ?x83 ?x84 ?x85 ?x86) (mkM ?x87 ?x88 ?x89 ?x90 ?x91) (mkD KX G ?x92 ?x93 ?x94 ?x95) (mkM ?x96 ?x97 ?x98 ?x99 ?x100) (mkD KX G ?x101 ?x102 ?x103 ?x104) (mkD KX G ?x105 ?x106 ?x107 ?x108) (mkD KX G ?x109 ?x110 ?x111 ?x112) (mkD KX G ?x113 ?x114 ?x115 ?x116) (mkD KX G ?x117 ?x118 ?x119 ?x120) (mkD KX G ?x121 ?x122 ?x123 ?x124) (mkD KX G ?x125 ?x126 ?x127 ?x128) (mkD KX G ?x129 ?x130 ?x131 ?x132) (mkD KX G ?x133 ?x134 ?x135 ?x136) (mkD KX G ?x137 ?x138 ?x139 ?x140) (mkD KX G ?x141 ?x142 ?x143 ?x144) (mkD KX G ?x145 ?x146 ?x147 ?x148) (mkD KX G ?x149 ?x150 ?x151 ?x152) ?x153 ?x154 ?x155 ?x156 ⟨⟨⟨PySem.W.mg_none_of KX G ?x157,PySem.W.mg_none_of KX G ?x158,PySem.W.mg_none_of KX G ?x159,PySem.W.mg_none_of KX G ?x160,PySem.W.mg_none_of KX G ?x161,PySem.W.mg_none_of KX G ?x162,PySem.W.mg_none_of KX G ?x163,PySem.W.mg_none_of KX G ?x164,PySem.W.mg_none_of KX G ?x165,PySem.W.mg_none_of KX G ?x166,PySem.W.mg_none_of KX G ?x167,PySem.W.mg_none_of KX G ?x168,PySem.W.mg_none_of KX G ?x169,PySem.W.mg_none_of KX G ?x170,PySem.W.mg_none_of KX G ?x171⟩,PySem.W.mg_none_of KX G ?x172⟩,PySem.W.mg_none_of KX G ?x173⟩ ?x174 ⟨_,PySem.W.mg_of KX G ?x175,?x176⟩ ⟨_,PySem.W.mg_of KX G ?x177,?x178⟩ ?x179 ?x180 ?x181 ?x182 ?x183 ?x184 ?x185 ?x186 ?x187 ?x188 ?x189 ?x190 ?x191 ?x192 ?x193 ?x194 ?x195 ?x196 ?x197 ?x198 ?x199 ?x200 ?x201 ?x202 ?x203 ?x204 ?x205 ?x206 ?x207 ?x208
  (case x1 | x2 | x3 | x4 | x5 | x6 | x7 | x8 | x9 | x10 | x11 | x12 | x13 | x14 | x15 | x16 | x17 | x18 | x19 | x20 | x21 | x22 | x23 | x24 | x25 | x26 | x27 | x28 | x29 | x30 | x31 | x32 | x33 | x34 | x35 | x36 | x37 | x38 | x39 | x40 | x41 | x42 | x43 | x44 | x45 | x46 | x47 | x48 | x49 | x50 | x51 | x52 | x53 | x54 | x55 | x56 | x57 | x58 | x59 | x60 | x61 | x62 | x63 | x64 | x65 | x66 | x67 | x68 | x69 | x70 | x71 | x72 | x73 | x74 | x75 | x76 | x77 | x78 | x79 | x80 | x81 | x82 | x83 | x84 | x85 | x86 | x87 | x88 | x89 | x90 | x91 | x92 | x93 | x94 | x95 | x96 | x97 | x98 | x99 | x100 | x101 | x102 | x103 | x104 | x105 | x106 | x107 | x108 | x109 | x110 | x111 | x112 | x113 | x114 | x115 | x116 | x117 | x118 | x119 | x120 | x121 | x122 | x123 | x124 | x125 | x126 | x127 | x128 | x129 | x130 | x131 | x132 | x133 | x134 | x135 | x136 | x137 | x138 | x139 | x140 | x141 | x142 | x143 | x144 | x145 | x146 | x147 | x148 | x149 | x150 | x151 | x152 | x153 | x154 | x155 | x156 | x157 | x158 | x159 | x160 | x161 | x162 | x163 | x164 | x165 | x166 | x167 | x168 | x169 | x170 | x171 | x172 | x173 | x175 | x177 | x179 | x180 | x184 | x185 | x186 | x187 | x188 | x189 | x190 | x191 | x192 | x193 | x194 | x197 | x198 | x199 | x200 | x201 | x202 | x203 | x204 | x208=>k_is)
  (case x174=>first | kernel_rfl | decide +kernel)
  (case x176 | x178=>exact ⟨_,rfl⟩)
  (case x181=>rfl)
  (case x182=>decide +kernel)
  (case x183=>repeat (first | exact .nil | refine .cons ⟨_,rfl⟩ ?_))
  (case x195=>k_exc)
  (case x196=>kts_exm)
  (case x205 | x206 | x207=>kit_is)
