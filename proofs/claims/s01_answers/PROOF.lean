import PyProof.Rows.All
import Wide.All
import OpenK.AllK
import Wide.FinOn
import PyProof.EqAt
import PyProof.EqKinds
import PyProof.TupleCall
import KE.BitLaws
import PySem.Challenge.RW_benchturns_s01_answers
import Open.SpecLaws
import KE.OsHead
import KE.OsGo
import TuSpec
import PyWrperm
set_option Elab.async false
set_option linter.all false
set_option maxRecDepth 100000
open List (all_cons all_eq_true all_map any_cons any_eq_false any_eq_true any_map append_assoc append_nil cons_append contains_cons contains_iff_mem countP_cons countP_eq_length_filter countP_le_length countP_mono_left countP_pos_iff countP_set count_cons_of_ne count_cons_self count_eq_zero count_erase count_pos_iff dropLast_concat_getLast dropLast_subset drop_append_of_le_length drop_drop drop_eq_getElem_cons drop_of_length_le drop_zero eq_nil_of_length_eq_zero eq_of_mem_replicate eq_replicate_iff eraseIdxIfInBounds_toArray eraseIdx_cons_succ ext_getElem ext_getElem? filterMap_append filterMap_cons filter_append filter_congr filter_cons filter_eq_nil_iff filter_map filter_nil find?_cons find?_eq_none find?_some findIdx?_cons findIdx_eq findIdx_eq_length_of_false flatMap_append flatMap_cons flatMap_nil flatten_append flatten_cons foldl_append foldl_cons foldr_cons forIn_cons forIn_nil getD_eq_getElem?_getD getElem?_append getElem?_append_left getElem?_append_right getElem?_drop getElem?_dropLast getElem?_eq_getElem getElem?_eq_none getElem?_map getElem?_of_mem getElem?_range getElem?_replicate getElem?_reverse getElem?_set getElem?_set_ne getElem?_set_self getElem?_take getElem?_take_of_lt getElem?_zipIdx getElem_idxOf getElem_inj getElem_map getElem_mem getElem_range getElem_set getElem_take getLast_eq_getElem getLast_mem idxOf_cons idxOf_lt_length_of_mem isEmpty_iff length_append length_cons length_drop length_dropLast length_erase length_erase_of_mem length_filterMap_le length_filter_le length_flatMap length_map length_nil length_pos_iff length_pos_of_mem length_range length_replicate length_reverse length_set length_singleton length_take length_zip length_zipIdx lookup_cons map_append map_congr_left map_cons map_drop map_dropLast map_id map_map map_nil map_set map_singleton map_take mem_append mem_append_left mem_append_right mem_cons mem_cons_of_mem mem_cons_self mem_drop_iff_getElem mem_erase_of_ne mem_filter mem_filterMap mem_flatMap mem_flatten mem_iff_getElem mem_map mem_of_find?_eq_some mem_of_getElem? mem_of_mem_drop mem_of_mem_take mem_or_eq_of_mem_set mem_range mem_reverse mem_singleton mem_zipIdx_iff_getElem? mk_mem_zipIdx_iff_getElem? ne_nil_of_length_pos nil_append nil_perm nodup_append nodup_cons nodup_nil nodup_range of_mem_zip pairwise_cons pairwise_flatten pairwise_iff_getElem pairwise_lt_range pairwise_map perm_cons perm_cons_erase perm_ext_iff_of_nodup prefix_append prefix_iff_getElem? prefix_refl range_eq_range' range_succ range_succ_eq_map replicate_succ' reverse_cons set_cons_succ set_cons_zero size_toArray sum_cons sum_replicate_nat take_add_one take_append_drop take_append_of_le_length take_length take_of_length_le take_sublist take_zero zipIdx_append zipIdx_cons zipIdx_nil zip_append)
theorem Gq{α:Type _}{l:List α}{i:Nat}{a:α}(h:l[i]?=some a):∃h:i<l.length,l[i]=a:=List.getElem?_eq_some_iff.mp h
theorem Ms{α:Type _}{a b:α}(h:a∈[b]):a=b:=List.mem_singleton.mp h
theorem Mc{α:Type _}{a b:α}{l:List α}(h:a∈b::l):a=b∨a∈l:=List.mem_cons.mp h
theorem Ma{α:Type _}{a:α}{s t:List α}(h:a∈s++t):a∈s∨a∈t:=List.mem_append.mp h
theorem Oi{α:Type _}{a b:α}(h:some a=some b):a=b:=Option.some.inj h
theorem Oq{α β:Type _}{f:α→β}{o:Option α}{b:β}(h:o.map f=some b):∃a,o=some a∧f a=b:=Option.map_eq_some_iff.mp h
open PySem.W (Frag nsIn findIn isFn codeIn keepIn fnOf makesIn mg_of mg_none_of plainGet hasDictIn plainOver instObj emptyDict methodObj takerIn)
namespace L2
open PySem PySem.Spec PyProof.Rows
abbrev Key:=Sum Int Str
def tF:Key→Value→Bool
 | .inl k,v=>Value.isInt k v
 | .inr x,v=>Value.isStrOf x v
def keyH (w:World):Key→Int
 | .inl k=>hashInt k
 | .inr x=>hashStr w x
theorem bV:∀ {k:Key} {v:Value},tF k v=true→(∃ i t,k=Sum.inl i∧v=Value.int i t)∨(∃ x t,k=Sum.inr x∧v=Value.str x t)
 | .inl i,v,h=>by
  obtain ⟨t,e⟩:=Value.isInt_shape (k:=i) (v:=v) h
  exact .inl ⟨i,t,rfl,e⟩
 | .inr x,v,h=>by
  obtain ⟨t,e⟩:=Value.isStrOf_shape (x:=x) (v:=v) h
  exact .inr ⟨x,t,rfl,e⟩
theorem wo (i:Int)(t:Tok):tF (.inl i) (.int i t)=true:=by simp[tF,Value.isInt]
theorem wn (x:Str)(t:Tok):tF (.inr x) (.str x t)=true:=by simp[tF,Value.isStrOf]
theorem BB (a b:Int):decide ((Sum.inl a:Key)=Sum.inl b)=(a==b):=by
 by_cases e:a=b
 ·subst e;simp
 ·have h:¬(Sum.inl a:Key)=Sum.inl b:=fun q=>e (Sum.inl.inj q)
  rw[decide_eq_false h]
  exact (beq_eq_false_iff_ne.mpr e).symm
theorem Bx (a b:Str):decide ((Sum.inr a:Key)=Sum.inr b)=decide (a=b):=by
 by_cases e:a=b
 ·subst e;simp
 ·have h:¬(Sum.inr a:Key)=Sum.inr b:=fun q=>e (Sum.inr.inj q)
  rw[decide_eq_false h,decide_eq_false e]
theorem BA (a:Int)(b:Str):decide ((Sum.inl a:Key)=Sum.inr b)=false:=decide_eq_false (fun q=>nomatch q)
theorem By (a:Str)(b:Int):decide ((Sum.inr a:Key)=Sum.inl b)=false:=decide_eq_false (fun q=>nomatch q)
def cG (prog:Program)(w:World):PySem.KeyKind prog w Key where
 is:=tF
 hash:=keyH w
 inj:=fun v a b ha hb=>by
  rcases bV ha with ⟨i,t,rfl,rfl⟩|⟨x,t,rfl,rfl⟩
  ·rcases bV hb with ⟨j,u,rfl,e⟩|⟨y,u,rfl,e⟩
   ·injection e with e1 _;rw[e1]
   ·exact nomatch e
  ·rcases bV hb with ⟨j,u,rfl,e⟩|⟨y,u,rfl,e⟩
   ·exact nomatch e
   ·injection e with e1 _;rw[e1]
 byValue:=fun k v h=>by
  rcases bV h with ⟨i,t,rfl,rfl⟩|⟨x,t,rfl,rfl⟩ <;> rfl
 pyHash:=fun hv h=>by
  rcases bV hv with ⟨i,t,rfl,rfl⟩|⟨x,t,rfl,rfl⟩
  ·exact wpAny_pyHash_int h
  ·exact wpAny_pyHash_str h
 eqBool:=fun hu hv h=>by
  rcases bV hu with ⟨i,t,rfl,rfl⟩|⟨x,t,rfl,rfl⟩
  ·rcases bV hv with ⟨j,u,rfl,rfl⟩|⟨y,u,rfl,rfl⟩
   ·rw[BB] at h;exact wpAny_eqBool_int h
   ·rw[BA] at h;exact SeqAt.EqAt.int_str i t y u _ _ _ _ h
  ·rcases bV hv with ⟨j,u,rfl,rfl⟩|⟨y,u,rfl,rfl⟩
   ·rw[By] at h;exact SeqAt.EqAt.str_int x t j u _ _ _ _ h
   ·rw[Bx] at h;exact wpAny_eqBool_str h
 «strs»:=fun k x t v h=>by
  rcases bV h with ⟨i,u,rfl,e⟩|⟨y,u,rfl,e⟩
  ·exact nomatch e
  ·injection e with e1 _
   subst e1
   cases v <;> rfl
theorem qC (prog:Program)(w:World)(i:Int)(t:Tok):(cG prog w).is (.inl i) (.int i t)=true:=wo i t
theorem qB (prog:Program)(w:World)(x:Str)(t:Tok):(cG prog w).is (.inr x) (.str x t)=true:=wn x t
end L2
namespace L2
open PySem PySem.Spec PyProof.Rows
inductive V where
 | non|bl (b:Bool)|int (i:Int)|str (x:Str)|byt (b:Array UInt8)|flt (b:UInt64)|ref (a:Addr)|ty (n:String)
 deriving DecidableEq
def cD:V→Value→Prop
 | .non,u=>u=Value.none
 | .bl b,u=>u=Value.bool b
 | .int i,u=>∃ t,u=Value.int i t
 | .str x,u=>∃ t,u=Value.str x t
 | .byt b,u=>∃ t,u=Value.bytes b t
 | .flt b,u=>∃ t,u=Value.float b t
 | .ref a,u=>u=Value.ref a
 | .ty n,u=>u=Value.type n
abbrev bF:List V→List Value→Prop:=Paired cD
theorem bF.length {xs:List V}{us:List Value}(r:bF xs us):xs.length=us.length:=Paired.length r
theorem bF.get:∀ {xs:List V} {us:List Value} {i:Nat} {x:V},bF xs us→xs[i]?=some x→∃ u,us[i]?=some u∧cD x u
 | _,_,_,_,.nil,e=>by simp at e
 | _,_,0,_,.cons r _,e=>by simp at e;subst e;exact ⟨_,rfl,r⟩
 | _,_,i+1,x,.cons _ t,e=>by
  obtain ⟨u,h1,h2⟩:=bF.get (i:=i) (x:=x) t (by simpa using e)
  exact ⟨u,by simpa using h1,h2⟩
theorem bF.set {x:V}{u:Value}(r:cD x u):∀ {xs:List V} {us:List Value} (i:Nat),bF xs us→bF (xs.set i x) (us.set i u)
 | _,_,_,.nil=>.nil
 | _,_,0,.cons _ t=>.cons r t
 | _,_,i+1,.cons q t=>.cons q (bF.set r i t)
theorem bF.append:∀ {xs ys:List V} {us ws:List Value},bF xs us→bF ys ws→bF (xs++ys) (us++ws)
 | _,_,_,_,.nil,s=>s
 | _,_,_,_,.cons r t,s=>.cons r (bF.append t s)
theorem bF.take:∀ {xs:List V} {us:List Value} (n:Nat),bF xs us→bF (xs.take n) (us.take n)
 | _,_,0,_=>.nil
 | _,_,_+1,.nil=>.nil
 | _,_,n+1,.cons r t=>.cons r (bF.take n t)
theorem bF.drop:∀ {xs:List V} {us:List Value} (n:Nat),bF xs us→bF (xs.drop n) (us.drop n)
 | _,_,0,r=>r
 | _,_,_+1,.nil=>.nil
 | _,_,n+1,.cons _ t=>bF.drop n t
def o0:Option V→Option Value→Prop
 | some v,some u=>cD v u
 | none,none=>True
 | _,_=>False
def KV {κ:Type}:List (κ×V)→List (κ×Value)→Prop:=Paired fun (p:κ×V) (q:κ×Value)=>p.1=q.1∧cD p.2 q.2
def kV:Key→V
 | .inl i=>.int i
 | .inr x=>.str x
inductive HO where
 | lst (xs:List V)
 | tup (xs:List V)
 | dK (kvs:List (Key×V))|dT (kvs:List (List Key×V))
 | set (S:Int→Bool) (n:Nat)
 | ins (C dx:Addr) (fs:List (Str×V))
 | own (x:Addr)
 | xd (fs:List (Str×V))
 | met (f x:Addr)
 | rng (lo hi:Int)
 | frz (o:Obj) (u:HO)
 | tbl (ps:Array Value)
 | ext (φ:Heap→Prop)
abbrev Hp:=Addr→Option HO
def upd (H:Hp)(a:Addr)(o:HO):Hp:=fun b=>if b=a then some o else H b
theorem ae {H:Hp}{a:Addr}{o:HO}:upd H a o a=some o:=by unfold upd;rw[if_pos rfl]
theorem ai {H:Hp}{a b:Addr}{o:HO}(h:b≠a):upd H a o b=H b:=by unfold upd;rw[if_neg h]
theorem o7 {H:Hp}{a:Addr}{o u:HO}:upd (upd H a o) a u=upd H a u:=by
 funext b;unfold upd;split <;> rfl
theorem yq {H:Hp}{a b:Addr}{o u:HO}(h:H a=some o)(h':H b=some u)(d:o≠u):a≠b:=by
 intro e;subst e;rw[h] at h';exact d (Oi h')
theorem am {H:Hp}{a b:Addr}{o:HO}(h:H a=some o)(h':H b=none):a≠b:=by
 intro e;subst e;rw[h] at h';cases h'
section
variable (P:Program) (w:World)
def df (H:Hp)(h:Heap)(a:Addr):HO→Prop
 | .lst xs=>xs.length≤sizeLine∧∃ (its:List Value) (n:Nat),bF xs its∧h.get? a=some {cls:=.type "list",data:=.seq its.toArray n}
 | .tup xs=>xs.length≤sizeLine∧∃ its:List Value,bF xs its∧IsTup h a its.toArray
 | .dK kvs=>kvs.length≤sizeLine∧(a==sysModules)=false∧∃ vs,KV kvs vs∧h.DictOf (cG P w) a vs
 | .dT kvs=>kvs.length≤sizeLine∧(a==sysModules)=false∧∃ xs:List (List Key×Addr×Value),
   Paired (fun (p:List Key×V) (q:List Key×Addr×Value)=>p.1=q.1∧H q.2.1=some (.tup (p.1.map kV))∧cD p.2 q.2.2) kvs xs∧
   ∃ o es ep,h.get? a=some o∧o.ExactDict∧o.data=.dict es ep∧es.toList=xs.map (entryOfKey (tupleKind (cG P w)))∧(xs.map (·.1)).Nodup
 | .set S n=>h.SetOf (intKind P w) a S n
 | .ins C dx fs=>H dx=some (.own a)∧fs.length≤1000∧dx≠a∧h.get? a=some (instObj C dx)∧
   ∃ mA,h.Ns1 dx mA∧(∀ f,o0 (fs.lookup f) (mA f))∧PySem.Within mA (fs.map (·.1))
 | .own _=>∃ o,h.get? a=some o
 | .xd fs=>∃ mA,h.Ns1 a mA∧∀ f,o0 (fs.lookup f) (mA f)
 | .rng lo hi=>∃ t u v,h.get? a=some {cls:=.type "range",data:=.fields #[.int lo t,.int hi u,.int 1 v]}
 | .frz o u=>h.get? a=some o∧df H h a u
 | .tbl ps=>h.get? a=some {cls:=.none,data:=.fields ps}
 | .met f x=>h.get? a=some (methodObj (.ref f) (.ref x))
 | .ext φ=>φ h∧(∃ o,h.get? a=some o)∧∀ h1 h2:Heap,φ h1→(∀ o,h1.get? a=some o→h2.get? a=some o)→φ h2
def HOk (H:Hp)(h:Heap):Prop:=∀ a o,H a=some o→df P w H h a o
end
section
variable {P:Program} {w:World} {H H':Hp} {h h':Heap} {a:Addr} {o:HO}
theorem df.lt (x:df P w H h a o):a<h.objs.size:=by
 cases o with
 | lst xs=>obtain ⟨_,_,_,_,e⟩:=x;exact Heap.lt_size e
 | tup xs=>obtain ⟨_,_,_,p⟩:=x;exact p.lt
 | dK kvs=>obtain ⟨_,_,_,_,o,_,_,e,_⟩:=x;exact Heap.lt_size e
 | dT kvs=>obtain ⟨_,_,_,_,o,_,_,e,_⟩:=x;exact Heap.lt_size e
 | set S n=>obtain ⟨o,_,_,_,e,_⟩:=x;exact Heap.lt_size e
 | ins C dx fs=>obtain ⟨_,_,_,e,_⟩:=x;exact Heap.lt_size e
 | own y=>obtain ⟨_,e⟩:=x;exact Heap.lt_size e
 | xd fs=>obtain ⟨_,⟨_,_,_,e,_⟩,_⟩:=x;exact Heap.lt_size e
 | rng lo hi=>obtain ⟨_,_,_,e⟩:=x;exact Heap.lt_size e
 | frz ob u=>obtain ⟨e,_⟩:=x;exact Heap.lt_size e
 | tbl ps=>exact Heap.lt_size (show h.get? a=some _ from x)
 | met f y=>exact Heap.lt_size (show h.get? a=some _ from x)
 | ext φ=>obtain ⟨_,⟨_,e⟩,_⟩:=x;exact Heap.lt_size e
theorem Paired.mapP {α β:Type}{F G:α→β→Prop}:∀ {l₁:List α} {l₂:List β},Paired F l₁ l₂→(∀ a b,F a b→G a b)→Paired G l₁ l₂
 | _,_,.nil,_=>.nil
 | _,_,.cons r t,f=>.cons (f _ _ r) (Paired.mapP t f)
theorem df.stay (x:df P w H h a o)(k:∀ b u,(b=a∨H b=some (.own a))→h.get? b=some u→h'.get? b=some u)
  (ho:∀ b,H b=some (.own a)→H' b=some (.own a))(ht:∀ b xs,H b=some (.tup xs)→H' b=some (.tup xs)):df P w H' h' a o:=by
 induction o with
 | lst xs=>obtain ⟨z,its,n,r,e⟩:=x;exact ⟨z,its,n,r,k _ _ (.inl rfl) e⟩
 | tup xs=>obtain ⟨z,its,r,ob,e,c⟩:=x;exact ⟨z,its,r,ob,k _ _ (.inl rfl) e,c⟩
 | dK kvs=>obtain ⟨z,y,vs,r,ob,es,ep,e,c⟩:=x;exact ⟨z,y,vs,r,ob,es,ep,k _ _ (.inl rfl) e,c⟩
 | dT kvs=>
  obtain ⟨z,y,xs,r,ob,es,ep,e,c⟩:=x
  exact ⟨z,y,xs,Paired.mapP r fun p q z=>⟨z.1,ht _ _ z.2.1,z.2.2⟩,ob,es,ep,k _ _ (.inl rfl) e,c⟩
 | set S n=>obtain ⟨ob,es,ep,t,e,c⟩:=x;exact ⟨ob,es,ep,t,k _ _ (.inl rfl) e,c⟩
 | ins C dx fs=>
  obtain ⟨d,z,ne,e,mA,⟨od,es,ep,e2,c⟩,r⟩:=x
  exact ⟨ho _ d,z,ne,k _ _ (.inl rfl) e,mA,⟨od,es,ep,k _ _ (.inr d) e2,c⟩,r⟩
 | own y=>obtain ⟨ob,e⟩:=x;exact ⟨ob,k _ _ (.inl rfl) e⟩
 | xd fs=>obtain ⟨mA,⟨od,es,ep,e,c⟩,r⟩:=x;exact ⟨mA,⟨od,es,ep,k _ _ (.inl rfl) e,c⟩,r⟩
 | rng lo hi=>obtain ⟨t,u,v,e⟩:=x;exact ⟨t,u,v,k _ _ (.inl rfl) e⟩
 | frz ob u ih=>obtain ⟨e,q⟩:=x;exact ⟨k _ _ (.inl rfl) e,ih q⟩
 | tbl ps=>
  have e:h.get? a=some {cls:=.none,data:=.fields ps}:=x
  show h'.get? a=some {cls:=.none,data:=.fields ps}
  exact k a _ (.inl rfl) e
 | met f y=>
  have e:h.get? a=some (methodObj (.ref f) (.ref y)):=x
  show h'.get? a=some (methodObj (.ref f) (.ref y))
  exact k a _ (.inl rfl) e
 | ext φ=>obtain ⟨p,⟨o,e⟩,st⟩:=x;exact ⟨st _ _ p fun o q=>k _ _ (.inl rfl) q,⟨o,k _ _ (.inl rfl) e⟩,st⟩
theorem HOk.lt (x:HOk P w H h)(e:H a=some o):a<h.objs.size:=(x a o e).lt
theorem HOk.fresh (x:HOk P w H h)(e:h.objs.size≤a):H a=none:=by
 cases q:H a with
 | none=>rfl
 | some u=>exact absurd (Nat.lt_of_lt_of_le (x.lt q) e) (Nat.lt_irrefl _)
theorem HOk.kept (x:HOk P w H h)(k:∀ b u,h.get? b=some u→h'.get? b=some u):HOk P w H h':=fun a o e=>
 (x a o e).stay (fun b u _ q=>k b u q) (fun _ q=>q) fun _ _ q=>q
theorem HOk.laid (x:HOk P w H h)(k:∀ b u,h.get? b=some u→h'.get? b=some u)(hp:h.objs.size≤a)(new:df P w (upd H a o) h' a o):HOk P w (upd H a o) h':=fun b u e=>by
 have hn:=x.fresh hp
 by_cases hb:b=a
 ·subst hb;rw[ae] at e;cases e;exact new
 ·rw[ai hb] at e
  exact (x b u e).stay (fun c v _ q=>k c v q) (fun c q=>by rw[ai (am q hn)];exact q) fun c xs q=>by rw[ai (am q hn)];exact q
end
def Rd (H:Hp)(a:Addr)(u:HO):Prop:=H a=some u∨∃ o,H a=some (.frz o u)
theorem Rd.ok {P:Program}{w:World}{H:Hp}{h:Heap}{a:Addr}{u:HO}(r:Rd H a u)(x:HOk P w H h):df P w H h a u:=by
 rcases r with r|⟨o,r⟩
 ·exact x a u r
 ·obtain ⟨_,q⟩:=x a _ r
  exact q
def Mut:Option HO→Prop
 | some (.lst _)=>True
 | some (.dK _)=>True
 | some (.dT _)=>True
 | some (.set _ _)=>True
 | some (.ins _ _ _)=>True
 | some (.ext _)=>True
 | _=>False
section
variable {P:Program} {w:World} {H:Hp} {h h':Heap} {x e:Addr} {o':HO}
theorem HOk.write (ok:HOk P w H h)(mu:Mut (H x))(he:e=x∨H e=some (.own x))(k:∀ b u,b≠e→h.get? b=some u→h'.get? b=some u)(heo:∃ u,h'.get? e=some u)
  (new:df P w (upd H x o') h' x o'):HOk P w (upd H x o') h':=fun b u q=>by
 have nown:∀ c y,H c=some (.own y)→c≠x:=fun c y r z=>by subst z;rw[r] at mu;exact mu
 have ntup:∀ c xs,H c=some (.tup xs)→c≠x:=fun c xs r z=>by subst z;rw[r] at mu;exact mu
 by_cases hb:b=x
 ·subst hb;rw[ae] at q;cases q;exact new
 ·rw[ai hb] at q
  by_cases hbe:b=e
  ·have q':H b=some (.own x):=by
    rcases he with z|z
    ·exact absurd (hbe.trans z) hb
    ·rw[hbe];exact z
   rw[q] at q';cases q'
   obtain ⟨v,hv⟩:=heo
   exact ⟨v,by rw[hbe];exact hv⟩
  ·refine (ok b u q).stay (fun c v hc r=>k c v ?_ r) (fun c r=>by rw[ai (nown c b r)];exact r) fun c xs r=>by rw[ai (ntup c xs r)];exact r
   rcases hc with rfl|hc
   ·exact hbe
   ·rintro rfl
    rcases he with z|z
    ·exact nown c b hc z
    ·rw[hc] at z;cases z;exact hb rfl
end
structure Un (fs ex:List Addr)(H H':Hp)(h h':Heap):Prop where
 keep:∀ b o,h.get? b=some o→H b=none→b∉fs→b∉ex→h'.get? b=some o
 slot:∀ b o,h.get? b=some o→H b=none→b∈fs→b∉ex→∃ sl,h'.get? b=some {o with slots:=sl}
 free:∀ b o,h.get? b=some o→H b=none→b∉ex→H' b=none
 there:∀ b o,h.get? b=some o→b∉ex→∃ o',h'.get? b=some o'
 tups:∀ b xs,H b=some (.tup xs)→H' b=some (.tup xs)
 frzs:∀ b o u,H b=some (.frz o u)→H' b=some (.frz o u)
 tbls:∀ b ps,H b=some (.tbl ps)→∃ more,H' b=some (.tbl (ps++more))
section
variable {fs fs' ex ex':List Addr} {H H1 H2:Hp} {h h1 h2 h':Heap} {a x e:Addr} {o:HO}
theorem Un.any (u:Un fs ex H H1 h h1){b:Addr}{ob:Obj}(q:h.get? b=some ob)(n:H b=none)(hx:b∉ex):∃ sl,h1.get? b=some {ob with slots:=sl}:=by
 by_cases hb:b∈fs
 ·exact u.slot b ob q n hb hx
 ·exact ⟨ob.slots,u.keep b ob q n hb hx⟩
theorem Un.kept (k:∀ b u,h.get? b=some u→h'.get? b=some u):Un fs ex H H h h':=
 ⟨fun b ob q _ _ _=>k b ob q,fun b ob q _ _ _=>⟨ob.slots,k b ob q⟩,fun _ _ _ n _=>n,fun b ob q _=>⟨ob,k b ob q⟩,fun _ _ q=>q,fun _ _ _ q=>q,fun _ ps q=>⟨#[],by rw[q];simp⟩⟩
theorem Un.refl:Un fs ex H H h h:=Un.kept fun _ _ q=>q
theorem Un.laid (k:∀ b u,h.get? b=some u→h'.get? b=some u)(hp:h.objs.size≤a)(hn:H a=none):Un fs ex H (upd H a o) h h' where
 keep:=fun b u q _ _ _=>k b u q
 slot:=fun b u q _ _ _=>⟨u.slots,k b u q⟩
 free:=fun b u q n _=>by rw[ai (Nat.ne_of_lt (Nat.lt_of_lt_of_le (Heap.lt_size q) hp))];exact n
 there:=fun b u q _=>⟨u,k b u q⟩
 tups:=fun b xs q=>by rw[ai (am q hn)];exact q
 frzs:=fun b u xs q=>by rw[ai (am q hn)];exact q
 tbls:=fun b ps q=>⟨#[],by rw[ai (am q hn),q];simp⟩
theorem Un.write (mu:Mut (H x))(he:e=x∨H e=some (.own x))(k:∀ b u,b≠e→h.get? b=some u→h'.get? b=some u)(heo:∃ u,h'.get? e=some u):Un fs ex H (upd H x o) h h':=by
 have hx:∀ b,H b=none→b≠x:=fun b n z=>by subst z;rw[n] at mu;exact mu
 have hb:∀ b,H b=none→b≠e:=fun b n z=>by
  subst z
  rcases he with r|r
  ·exact hx b n r
  ·rw[n] at r;cases r
 have hm:∀ b u,H b=some u→¬Mut (some u)→b≠x:=fun b u q nm z=>by subst z;rw[q] at mu;exact nm mu
 refine ⟨fun b u q n _ _=>k b u (hb b n) q,fun b u q n _ _=>⟨u.slots,k b u (hb b n) q⟩,fun b u q n _=>by rw[ai (hx b n)];exact n,fun b u q _=>?_,
  fun b xs q=>by rw[ai (hm b _ q fun z=>z)];exact q,fun b u xs q=>by rw[ai (hm b _ q fun z=>z)];exact q,fun b ps q=>⟨#[],by rw[ai (hm b _ q fun z=>z),q];simp⟩⟩
 by_cases hbe:b=e
 ·subst hbe;exact heo
 ·exact ⟨u,k b u hbe q⟩
end
def trk (h:Heap)(H:Hp):List Addr:=(List.range h.objs.size).filter fun a=>(H a).isSome
def yz (h:Heap)(H:Hp):Heap:=PySem.W.hideAll h (trk h H)
theorem wy (h:Heap)(H:Hp):(yz h H).objs.size=h.objs.size:=PySem.W.hideAll_size _ _
theorem yy {h:Heap}{H:Hp}{b:Addr}{o:Obj}(e:h.get? b=some o)(n:H b=none):(yz h H).get? b=some o:=
 PySem.W.hideAll_get _ e fun hm=>by
  have q:(H b).isSome=true:=(mem_filter.mp hm).2
  rw[n] at q;simp at q
theorem Am {h:Heap}{H:Hp}{b:Addr}{o:Obj}(e:(yz h H).get? b=some o):h.get? b=some o∧H b=none:=by
 have e':h.get? b=some o:=PySem.W.of_hideAll (trk h H) e
 refine ⟨e',?_⟩
 cases q:H b with
 | none=>rfl
 | some x=>
  have hm:b∈trk h H:=mem_filter.mpr ⟨mem_range.mpr (Heap.lt_size e'),by simp[q]⟩
  have z:(yz h H).get? b=none:=PySem.W.hideAll_none (trk h H) hm
  rw[z] at e;cases e
def AK (g h:Heap)(L:Addr):List (Addr×Obj):=(List.range h.objs.size).filterMap fun a=>if a=L∨(g.get? a).isSome=true then none else (h.get? a).map fun o=>(a,o)
def nA (g h:Heap)(L d:Addr):List (Addr×Obj):=(AK g h L).filter fun p=>decide (p.1≠d)
end L2
namespace L2
open PySem PySem.Spec PyProof.Rows
structure Mod (K:Frag)(mg:Str→Option Value)(base:Heap):Prop where
 kin:K.In base
 glob:base.Ns mainGlobals mg
 blt:∃ mb,base.Ns builtinsNs mb∧∀ x:Str,x≠"__name__"→mb x=bootBuiltins x
 nolimit:base.NoLimit
structure Cx where
 prog:Program
 w:World
 K:Frag
 mg:Str→Option Value
 base:Heap
 A:Around
 N:List Str
 s_0:Shared
 H_0:Hp
 env:Env
 outer:List Env
 stack:List Env
 ex:List Addr
 fn:Str→Bool
 calm:Bool
 pn:List (Addr×Obj)
 xe:Value→Shared→Prop
def frs (l:List Env):List Addr:=l.filterMap (·.frame)
abbrev Cx.fs (X:Cx):List Addr:=frs X.outer
def Vis (sc:Scope)(x:Str):Prop:=sc.names.lookup x=some .local∨sc.names.lookup x=some .cell∨sc.names.lookup x=some .free
def Loc (sc:Scope)(x:Str):Prop:=sc.names.lookup x=some .local∨sc.names.lookup x=some .cell
def Look (env:Env)(h:Heap)(m:Str→Option Value)(x:Str)(u:Value):Prop:=
 (env.kindOf x=some .local∧m x=some u)∨((env.kindOf x=some .cell∨env.kindOf x=some .free)∧∃ c,env.cells.lookup x=some c∧h.IsCell c (some u))
structure Cx.Ok (X:Cx):Prop where
 mod:Mod X.K X.mg X.base
 kind:X.env.scope.kind=.function
 glob:X.env.globals=mainGlobals
 blt:X.env.builtins=builtinsNs
 above:X.s_0.heap.objs.size≤X.env.locals
 inj:∀ x y c,X.env.cells.lookup x=some c→X.env.cells.lookup y=some c→x=y
 has:∀ x,(X.env.kindOf x=some .cell∨X.env.kindOf x=some .free)→∃ c,X.env.cells.lookup x=some c
 cab:∀ x c,X.fn x=true→X.env.cells.lookup x=some c→X.s_0.heap.objs.size≤c
 hd:X.calm=true→X.A.handled=none
 frames:X.A.frames=some X.stack
 stk:X.stack=X.outer∨(X.stack=X.env::X.outer∧X.env.frame=some X.env.locals)
 exf:∀ b∈X.ex,b≠X.env.locals∧∀ x c,X.env.cells.lookup x=some c→c≠b
 bs:∀ b o,X.base.get? b=some o→X.s_0.heap.get? b=some o∧X.H_0 b=none
 bsz:X.base.objs.size≤X.s_0.heap.objs.size
 noex:∀ b o,X.base.get? b=some o→b∉X.ex
 exfs:∀ b∈X.ex,b∉X.fs
 funs:X.s_0.heap.FunFrames X.base X.outer
 frf:∀ b∈X.fs,X.H_0 b=none
structure Inv (X:Cx)(pins:List (Addr×Obj))(σ:List (Option V))(H:Hp)(s:Shared):Prop where
 ok:X.Ok
 os:s.os=X.s_0.os
 bare:AllBare s.gens
 base:Un X.fs X.ex X.H_0 H X.s_0.heap s.heap
 loc:∃ m,s.heap.Ns X.env.locals m∧∀ (i:Nat) (x:Str) (v:V),X.N[i]?=some x→σ[i]?=some (some v)→Vis X.env.scope x→∃ u,cD v u∧Look X.env s.heap m x u
 cell:∀ x c,X.env.cells.lookup x=some c→∃ v,s.heap.IsCell c v
 free:H X.env.locals=none
 freeC:∀ x c,X.env.cells.lookup x=some c→H c=none
 pin:∀ p∈X.pn++pins,s.heap.get? p.1=some p.2∧H p.1=none∧p.1≠X.env.locals∧p.1∉X.fs∧∀ v,p.2.data≠.cell v
 hok:HOk X.prog X.w H s.heap
 len:σ.length=X.N.length
section
variable {X:Cx} {pins:List (Addr×Obj)} {σ:List (Option V)} {H H':Hp} {s:Shared} {h':Heap}
theorem Cx.Ok.nofr (ok:X.Ok){b:Addr}{o:Obj}(e:X.base.get? b=some o):b∉X.fs:=fun hb=>by
 have:=(ok.funs.mem hb).1
 rw[e] at this;cases this
theorem Inv.bs (I:Inv X pins σ H s):∀ b o,X.base.get? b=some o→s.heap.get? b=some o∧H b=none:=fun b o e=>
 ⟨I.base.keep b o (I.ok.bs b o e).1 (I.ok.bs b o e).2 (I.ok.nofr e) (I.ok.noex b o e),I.base.free b o (I.ok.bs b o e).1 (I.ok.bs b o e).2 (I.ok.noex b o e)⟩
theorem Inv.bk (I:Inv X pins σ H s):∀ b o,X.base.get? b=some o→s.heap.get? b=some o:=fun b o e=>(I.bs b o e).1
theorem Inv.mod (I:Inv X pins σ H s):Mod X.K X.mg X.base:=I.ok.mod
theorem Inv.kIn (I:Inv X pins σ H s):X.K.In s.heap:=I.ok.mod.kin.keeps I.bk
theorem Inv.fr (I:Inv X pins σ H s):∃ m,Fr X.base X.env.locals s.heap m:=
 let ⟨m,hn,_⟩:=I.loc
 ⟨m,hn,I.bk,Nat.le_trans I.ok.bsz I.ok.above⟩
theorem Inv.lt (I:Inv X pins σ H s):X.env.locals<s.heap.objs.size:=let ⟨_,hn,_⟩:=I.loc;hn.lt
theorem Inv.sz (I:Inv X pins σ H s):X.s_0.heap.objs.size≤s.heap.objs.size:=Nat.le_trans I.ok.above (Nat.le_of_lt I.lt)
theorem Inv.nofs (I:Inv X pins σ H s){a:Addr}(h:s.heap.objs.size≤a):a∉X.fs:=fun hb=>by
 obtain ⟨_,o,ho,_⟩:=I.ok.funs.mem hb
 exact absurd (Nat.lt_of_lt_of_le (Heap.lt_size ho) (Nat.le_trans I.sz h)) (Nat.lt_irrefl _)
theorem Inv.cne (I:Inv X pins σ H s):∀ x c,X.env.cells.lookup x=some c→c≠X.env.locals:=fun x c e z=>by
 obtain ⟨v,o,ho,hd⟩:=I.cell x c e
 obtain ⟨m,⟨o',es,ep,ho',hd',_⟩,_⟩:=I.loc
 rw[z,ho'] at ho;cases ho;rw[hd'] at hd;cases hd
theorem Inv.funs (I:Inv X pins σ H s):s.heap.FunFrames X.base X.outer:=by
 have all:∀ (l:List Env),(∀ b∈frs l,b∈X.fs)→X.s_0.heap.FunFrames X.base l→s.heap.FunFrames X.base l:=by
  intro l
  induction l with
  | nil=>intro _ _;trivial
  | cons env r ih=>
   intro hs hl
   obtain ⟨hk,⟨L,o,hf,hn,ho,hd⟩,hr⟩:=hl
   have hL:L∈X.fs:=hs L (by unfold frs;rw[filterMap_cons,hf];exact mem_cons_self)
   obtain ⟨sl,e⟩:=I.base.slot L o ho (I.ok.frf L hL) hL fun z=>I.ok.exfs L z hL
   exact ⟨hk,⟨L,_,hf,hn,e,hd⟩,ih (fun b hb=>hs b (by unfold frs;rw[filterMap_cons,hf];exact mem_cons_of_mem _ hb)) hr⟩
 exact all X.outer (fun _ hb=>hb) I.ok.funs
theorem Inv.stack (I:Inv X pins σ H s):s.heap.FunFrames X.base X.stack:=by
 rcases I.ok.stk with e|⟨e,hf⟩
 ·rw[e];exact I.funs
 ·rw[e]
  obtain ⟨m,hn,_⟩:=I.loc
  refine .cons (by rw[I.ok.kind];decide) hf hn ?_ I.funs
  exact Heap.get?_none_of_le (Nat.le_trans I.ok.bsz I.ok.above)
theorem Inv.stkSub (I:Inv X pins σ H s):∀ b∈frs X.stack,b∈X.env.locals::X.fs:=fun b hb=>by
 rcases I.ok.stk with e|⟨e,hf⟩
 ·rw[e] at hb;exact mem_cons_of_mem _ hb
 ·rw[e] at hb
  unfold frs at hb
  rw[filterMap_cons,hf] at hb
  exact hb
theorem Inv.stkFree (I:Inv X pins σ H s):∀ b∈frs X.stack,H b=none:=fun b hb=>by
 rcases Mc (I.stkSub b hb) with e|hb
 ·rw[e];exact I.free
 ·obtain ⟨_,o,ho,_⟩:=I.ok.funs.mem hb
  exact I.base.free b o ho (I.ok.frf b hb) fun z=>I.ok.exfs b z hb
theorem Inv.step {g':Array GenState}{t':Nat}{d':Drawn}{ch:List Addr}(I:Inv X pins σ H s)
  (hch:∀ b∈ch,(b∈X.ex∨X.s_0.heap.objs.size≤b)∧b≠X.env.locals∧(∀ x c,X.env.cells.lookup x=some c→c≠b)∧∀ p∈X.pn++pins,p.1≠b)
  (keep:∀ b o,b≠X.env.locals→b∉X.fs→b∉ch→s.heap.get? b=some o→H b=none→h'.get? b=some o)
  (slot:∀ b o,b≠X.env.locals→b∈X.fs→b∉ch→s.heap.get? b=some o→H b=none→∃ sl,h'.get? b=some {o with slots:=sl})(free:∀ b o,b∉ch→s.heap.get? b=some o→H b=none→H' b=none)
  (there:∀ b o,b∉ch→s.heap.get? b=some o→∃ o',h'.get? b=some o')
  (tups:∀ b xs,H b=some (.tup xs)→H' b=some (.tup xs))(frzs:∀ b o u,H b=some (.frz o u)→H' b=some (.frz o u))(tbls:∀ b ps,H b=some (.tbl ps)→∃ more,H' b=some (.tbl (ps++more)))
  (ns:∀ m,s.heap.Ns X.env.locals m→h'.Ns X.env.locals m)(hok:HOk X.prog X.w H' h')(hg:AllBare g'):
  Inv X pins σ H' {s with heap:=h',gens:=g',drawn:=d',toks:=t'}:=by
 have neL:∀ b o,X.s_0.heap.get? b=some o→b≠X.env.locals:=fun b o e=>Nat.ne_of_lt (Nat.lt_of_lt_of_le (Heap.lt_size e) I.ok.above)
 have neC:∀ b o,X.s_0.heap.get? b=some o→b∉X.ex→b∉ch:=fun b o e hx hb=>by
  rcases (hch b hb).1 with z|z
  ·exact hx z
  ·exact absurd (Nat.lt_of_lt_of_le (Heap.lt_size e) z) (Nat.lt_irrefl _)
 have cellK:∀ x c,X.env.cells.lookup x=some c→∀ v,s.heap.IsCell c v→h'.IsCell c v:=fun x c e v ⟨o,ho,hd⟩=>by
  have nch:c∉ch:=fun z=>(hch c z).2.2.1 x c e rfl
  by_cases hc:c∈X.fs
  ·obtain ⟨sl,q⟩:=slot c o (I.cne x c e) hc nch ho (I.freeC x c e)
   exact ⟨_,q,hd⟩
  ·exact ⟨o,keep c o (I.cne x c e) hc nch ho (I.freeC x c e),hd⟩
 refine ⟨I.ok,I.os,hg,⟨fun b o e n hb hx=>?_,fun b o e n hb hx=>?_,fun b o e n hx=>?_,fun b o e hx=>?_,fun b xs e=>tups b xs (I.base.tups b xs e),fun b o xs e=>frzs b o xs (I.base.frzs b o xs e),fun b ps e=>?_⟩,?_,fun x c e=>?_,?_,fun x c e=>?_,fun p hp=>?_,hok,I.len⟩
 ·exact keep b o (neL b o e) hb (neC b o e hx) (I.base.keep b o e n hb hx) (I.base.free b o e n hx)
 ·obtain ⟨sl,e1⟩:=I.base.slot b o e n hb hx
  obtain ⟨sl',e2⟩:=slot b _ (neL b o e) hb (neC b o e hx) e1 (I.base.free b o e n hx)
  exact ⟨sl',e2⟩
 ·obtain ⟨o',e1⟩:=I.base.there b o e hx
  exact free b o' (neC b o e hx) e1 (I.base.free b o e n hx)
 ·obtain ⟨o',e1⟩:=I.base.there b o e hx
  exact there b o' (neC b o e hx) e1
 ·obtain ⟨m1,e1⟩:=I.base.tbls b ps e
  obtain ⟨m2,e2⟩:=tbls b _ e1
  exact ⟨m1++m2,by rw[e2,Array.append_assoc]⟩
 ·obtain ⟨m,hn,hl⟩:=I.loc
  refine ⟨m,ns m hn,fun i x v e1 e2 e3=>?_⟩
  obtain ⟨u,r,l⟩:=hl i x v e1 e2 e3
  refine ⟨u,r,?_⟩
  rcases l with l|⟨k,c,e,z⟩
  ·exact .inl l
  ·exact .inr ⟨k,c,e,cellK x c e _ z⟩
 ·obtain ⟨v,z⟩:=I.cell x c e
  exact ⟨v,cellK x c e v z⟩
 ·obtain ⟨m,⟨o,_,_,ho,_⟩,_⟩:=I.loc
  exact free _ o (fun z=>(hch _ z).2.1 rfl) ho I.free
 ·obtain ⟨v,o,ho,hd⟩:=I.cell x c e
  exact free c o (fun z=>(hch c z).2.2.1 x c e rfl) ho (I.freeC x c e)
 ·obtain ⟨e,n,ne,nf,d⟩:=I.pin p hp
  have nch:p.1∉ch:=fun z=>(hch p.1 z).2.2.2 p hp rfl
  exact ⟨keep p.1 p.2 ne nf nch e n,free p.1 p.2 nch e n,ne,nf,d⟩
theorem Inv.un {t':Nat}(I:Inv X pins σ H s)(u:Un X.fs [] H H' s.heap h')(hok:HOk X.prog X.w H' h'):Inv X pins σ H' {s with heap:=h',toks:=t'}:=by
 obtain ⟨m,⟨o,es,ep,ho,r⟩,_⟩:=id I.loc
 obtain ⟨sl,hL⟩:=u.any ho I.free (by simp)
 exact I.step (g':=s.gens) (d':=s.drawn) (ch:=[]) (fun _ z=>nomatch z) (fun b o _ hb _ e n=>u.keep b o e n hb (by simp)) (fun b o _ hb _ e n=>u.slot b o e n hb (by simp)) (fun b o _ e n=>u.free b o e n (by simp)) (fun b o _ e=>u.there b o e (by simp)) u.tups u.frzs u.tbls (fun m' hm=>by
  obtain ⟨o',es',ep',ho',r'⟩:=hm
  rw[ho] at ho';cases ho'
  exact ⟨_,es',ep',hL,r'⟩) hok I.bare
theorem Inv.call {g':Array GenState}{t':Nat}{d':Drawn}{ch:List Addr}(I:Inv X pins σ H s)(u:Un (frs X.stack) ch H H' s.heap h')(hok:HOk X.prog X.w H' h')(hg:AllBare g')
  (hch:∀ b∈ch,(b∈X.ex∨X.s_0.heap.objs.size≤b)∧b≠X.env.locals∧(∀ x c,X.env.cells.lookup x=some c→c≠b)∧∀ p∈X.pn++pins,p.1≠b):
  Inv X pins σ H' {s with heap:=h',gens:=g',drawn:=d',toks:=t'}:=by
 obtain ⟨m,⟨o,es,ep,ho,r⟩,_⟩:=id I.loc
 obtain ⟨sl,hL⟩:=u.any ho I.free fun z=>(hch _ z).2.1 rfl
 exact I.step (ch:=ch) hch (fun b o hL hb hc e n=>u.keep b o e n (fun z=>(Mc (I.stkSub b z)).elim hL hb) hc) (fun b o _ _ hc e n=>u.any e n hc) (fun b o hc e n=>u.free b o e n hc) (fun b o hc e=>u.there b o e hc) u.tups u.frzs u.tbls (fun m' hm=>by
  obtain ⟨o',es',ep',ho',r'⟩:=hm
  rw[ho] at ho';cases ho'
  exact ⟨_,es',ep',hL,r'⟩) hok hg
theorem Inv.turned {t':Nat}{it:Addr}(I:Inv X pins σ H s)(k:∀ b o,b≠it→s.heap.get? b=some o→h'.get? b=some o)(hn:H it=none)(hL:it≠X.env.locals)
  (h1:it∈X.ex∨X.s_0.heap.objs.size≤it)(h2:∀ x c,X.env.cells.lookup x=some c→c≠it)(h3:∀ p∈X.pn++pins,p.1≠it):Inv X pins σ H {s with heap:=h',toks:=t'}:=by
 have nit:∀ b u,H b=some u→b≠it:=fun b u e z=>by rw[z,hn] at e;cases e
 refine I.step (g':=s.gens) (d':=s.drawn) (ch:=[it]) (fun b hb=>?_) (fun b o _ _ hc e _=>k b o (fun z=>hc (by simp[z])) e) (fun b o _ _ hc e _=>⟨o.slots,k b o (fun z=>hc (by simp[z])) e⟩) (fun _ _ _ _ n=>n)
  (fun b o hc e=>⟨o,k b o (fun z=>hc (by simp[z])) e⟩) (fun _ _ e=>e) (fun _ _ _ e=>e) (fun b ps e=>⟨#[],by rw[e];simp⟩) (fun m hm=>?_) (fun b u e=>?_) I.bare
 ·have e:b=it:=by simpa using hb
  subst e
  exact ⟨h1,hL,h2,h3⟩
 ·obtain ⟨o,es,ep,ho,r⟩:=hm
  exact ⟨o,es,ep,k _ o (Ne.symm hL) ho,r⟩
 ·refine (I.hok b u e).stay (fun c v hc q=>k c v ?_ q) (fun _ q=>q) fun _ _ q=>q
  rcases hc with z|z
  ·rw[z];exact nit b u e
  ·exact nit c _ z
theorem Inv.tok (I:Inv X pins σ H s)(t:Nat):Inv X pins σ H {s with toks:=t}:=I.un (h':=s.heap) (t':=t) Un.refl I.hok
theorem Inv.kept {t':Nat}(I:Inv X pins σ H s)(k:∀ b u,s.heap.get? b=some u→h'.get? b=some u):Inv X pins σ H {s with heap:=h',toks:=t'}:=I.un (Un.kept k) (I.hok.kept k)
theorem Inv.laid {a:Addr}{o:HO}{t':Nat}(I:Inv X pins σ H s)(k:∀ b u,s.heap.get? b=some u→h'.get? b=some u)(hp:s.heap.objs.size≤a)(new:df X.prog X.w (upd H a o) h' a o):
  Inv X pins σ (upd H a o) {s with heap:=h',toks:=t'}:=I.un (Un.laid k hp (I.hok.fresh hp)) (I.hok.laid k hp new)
theorem Inv.write {x e:Addr}{o:HO}{t':Nat}(I:Inv X pins σ H s)(mu:Mut (H x))(he:e=x∨H e=some (.own x))(k:∀ b u,b≠e→s.heap.get? b=some u→h'.get? b=some u)(heo:∃ u,h'.get? e=some u)
  (new:df X.prog X.w (upd H x o) h' x o):Inv X pins σ (upd H x o) {s with heap:=h',toks:=t'}:=I.un (Un.write mu he k heo) (I.hok.write mu he k heo new)
theorem Inv.weak {σ':List (Option V)}(I:Inv X pins σ H s)(hl:σ'.length=σ.length)(w:∀ (i:Nat) v,σ'[i]?=some (some v)→σ[i]?=some (some v)):Inv X pins σ' H s:=
 ⟨I.ok,I.os,I.bare,I.base,let ⟨m,hn,hl'⟩:=I.loc;⟨m,hn,fun i x v e1 e2 e3=>hl' i x v e1 (w i v e2) e3⟩,I.cell,I.free,I.freeC,I.pin,I.hok,hl.trans I.len⟩
theorem Inv.pins_of {pins':List (Addr×Obj)}(I:Inv X pins σ H s)(h:∀ p∈pins',s.heap.get? p.1=some p.2∧H p.1=none∧p.1≠X.env.locals∧p.1∉X.fs∧∀ v,p.2.data≠.cell v):Inv X pins' σ H s:=
 ⟨I.ok,I.os,I.bare,I.base,I.loc,I.cell,I.free,I.freeC,fun p hp=>(Ma hp).elim (fun z=>I.pin p (mem_append_left _ z)) (h p),I.hok,I.len⟩
theorem mT {N:List Str}(hN:N.Nodup){i j:Nat}{x:Str}(a:N[i]?=some x)(b:N[j]?=some x):i=j:=by
 obtain ⟨h1,e1⟩:=Gq a
 obtain ⟨h2,e2⟩:=Gq b
 exact (getElem_inj hN).mp (e1.trans e2.symm)
theorem nJ {M:Model}{A:Around}{E:Value→Shared→Prop}{i:Nat}{x:Str}{v:V}{u:Value}{Q:Unit→Shared→Prop}(I:Inv X pins σ H s)(hN:X.N.Nodup)(hi:X.N[i]?=some x)(hx:Loc X.env.scope x)(r:cD v u)
  (h:∀ s',Inv X pins (σ.set i (some v)) H s'→(∃ a,Heap.SameBut a s.heap s'.heap∧(a=X.env.locals∨X.env.cells.lookup x=some a))→Q () s')(hf:X.fn x=true∨X.env.scope.names.lookup x=some .local:=by first|exact .inl rfl|exact .inr rfl|assumption):wpAny M A (storeName X.env x u) Q E s:=by
 obtain ⟨m,hn,hl⟩:=id I.loc
 have hcls:(X.env.scope.kind==.class || (X.env.scope.kind==.module&&X.env.locals != X.env.globals))=false:=by rw[I.ok.kind];rfl
 have hiσ:i < σ.length:=by rw[I.len];exact (Gq hi).1
 have cne:=I.cne
 have tracked:∀ {a:Addr} {h':Heap},(∃ o,s.heap.get? a=some o∧H a=none)→Heap.SameBut a s.heap h'→HOk X.prog X.w H h':=fun {a h'} ha hs b ob e=>by
  obtain ⟨_,_,hfree⟩:=ha
  refine (I.hok b ob e).stay (fun c w' hc q=>(hs.2 c ?_).trans q) (fun _ q=>q) fun _ _ q=>q
  rintro rfl
  rcases hc with rfl|hc
  ·rw[hfree] at e;cases e
  ·rw[hfree] at hc;cases hc
 rcases hx with hk|hk
 ·refine wpAny_storeName_local hk hn (fun h' hn' hs=>?_) hcls
  obtain ⟨oL,_,_,hoL,_⟩:=id hn
  refine h _ ⟨I.ok,I.os,I.bare,⟨fun b o e n hb hx=>?_,fun b o e n hb hx=>?_,I.base.free,fun b o e hx=>?_,I.base.tups,I.base.frzs,I.base.tbls⟩,⟨_,hn',fun j y v' e1 e2 e3=>?_⟩,fun y c e=>?_,I.free,I.freeC,fun p hp=>?_,tracked ⟨oL,hoL,I.free⟩ hs,by simpa using I.len⟩ ⟨_,hs,.inl rfl⟩
  ·exact (hs.2 b (Nat.ne_of_lt (Nat.lt_of_lt_of_le (Heap.lt_size e) I.ok.above))).trans (I.base.keep b o e n hb hx)
  ·obtain ⟨sl,e1⟩:=I.base.slot b o e n hb hx
   exact ⟨sl,(hs.2 b (Nat.ne_of_lt (Nat.lt_of_lt_of_le (Heap.lt_size e) I.ok.above))).trans e1⟩
  ·obtain ⟨o',e1⟩:=I.base.there b o e hx
   exact ⟨o',(hs.2 b (Nat.ne_of_lt (Nat.lt_of_lt_of_le (Heap.lt_size e) I.ok.above))).trans e1⟩
  ·by_cases hj:j=i
   ·subst hj
    rw[hi] at e1;cases e1
    rw[getElem?_set_self hiσ] at e2
    cases e2
    exact ⟨u,r,.inl ⟨hk,by simp⟩⟩
   ·rw[getElem?_set_ne (Ne.symm hj)] at e2
    obtain ⟨u',r',q⟩:=hl j y v' e1 e2 e3
    refine ⟨u',r',?_⟩
    rcases q with ⟨k,e⟩|⟨k,c,e,z⟩
    ·refine .inl ⟨k,?_⟩
     have:y≠x:=fun e=>hj (mT hN e1 (e▸hi))
     simp[this,e]
    ·exact .inr ⟨k,c,e,z.sameBut hs (cne y c e)⟩
  ·obtain ⟨w',z⟩:=I.cell y c e
   exact ⟨w',z.sameBut hs (cne y c e)⟩
  ·obtain ⟨e,n,ne,nf,d⟩:=I.pin p hp
   exact ⟨(hs.2 p.1 ne).trans e,n,ne,nf,d⟩
 ·have hfn:X.fn x=true:=by
   rcases hf with z|z
   ·exact z
   ·rw[z] at hk;cases hk
  obtain ⟨c,hc⟩:=I.ok.has x (.inl hk)
  obtain ⟨w',z⟩:=I.cell x c hc
  refine wpAny_storeName_cell I.ok.kind hk hc z (fun h' hc' hs=>?_)
  obtain ⟨oc,hoc,hocd⟩:=id z
  refine h {s with heap:=h'} ⟨I.ok,I.os,I.bare,⟨fun b o e n hb hx=>?_,fun b o e n hb hx=>?_,I.base.free,fun b o e hx=>?_,I.base.tups,I.base.frzs,I.base.tbls⟩,⟨m,hn.sameBut hs (Ne.symm (cne x c hc)),fun j y v' e1 e2 e3=>?_⟩,fun y c' e=>?_,I.free,I.freeC,fun p hp=>?_,tracked ⟨oc,hoc,I.freeC x c hc⟩ hs,by simpa using I.len⟩ ⟨c,hs,.inr hc⟩
  ·exact (hs.2 b (Nat.ne_of_lt (Nat.lt_of_lt_of_le (Heap.lt_size e) (I.ok.cab x c hfn hc)))).trans (I.base.keep b o e n hb hx)
  ·obtain ⟨sl,e1⟩:=I.base.slot b o e n hb hx
   exact ⟨sl,(hs.2 b (Nat.ne_of_lt (Nat.lt_of_lt_of_le (Heap.lt_size e) (I.ok.cab x c hfn hc)))).trans e1⟩
  ·obtain ⟨o',e1⟩:=I.base.there b o e hx
   exact ⟨o',(hs.2 b (Nat.ne_of_lt (Nat.lt_of_lt_of_le (Heap.lt_size e) (I.ok.cab x c hfn hc)))).trans e1⟩
  ·by_cases hj:j=i
   ·subst hj
    rw[hi] at e1;cases e1
    rw[getElem?_set_self hiσ] at e2
    cases e2
    exact ⟨u,r,.inr ⟨.inl hk,c,hc,hc'⟩⟩
   ·rw[getElem?_set_ne (Ne.symm hj)] at e2
    obtain ⟨u',r',q⟩:=hl j y v' e1 e2 e3
    refine ⟨u',r',?_⟩
    rcases q with q|⟨k,c',e,z'⟩
    ·exact .inl q
    ·refine .inr ⟨k,c',e,z'.sameBut hs ?_⟩
     rintro rfl
     exact hj (mT hN e1 (I.ok.inj _ _ _ e hc▸hi))
  ·by_cases hcc:c'=c
   ·subst hcc;exact ⟨_,hc'⟩
   ·obtain ⟨w2,z2⟩:=I.cell y c' e
    exact ⟨w2,z2.sameBut hs hcc⟩
  ·obtain ⟨e,n,ne,nf,d⟩:=I.pin p hp
   refine ⟨(hs.2 p.1 ?_).trans e,n,ne,nf,d⟩
   intro q
   rw[q,hoc] at e
   have q':oc=p.2:=Oi e
   exact d w' (by rw[←q'];exact hocd)
theorem qW {M:Model}{A:Around}{E:Value→Shared→Prop}{i:Nat}{x:Str}{v:V}{u:Value}{Q:Unit→Shared→Prop}(I:Inv X pins σ H s)(hN:X.N.Nodup)(hi:X.N[i]?=some x)(hx:Loc X.env.scope x)(r:cD v u)
  (h:∀ s',Inv X pins (σ.set i (some v)) H s'→Q () s')(hf:X.fn x=true∨X.env.scope.names.lookup x=some .local:=by first|exact .inl rfl|exact .inr rfl|assumption):wpAny M A (storeName X.env x u) Q E s:=
 nJ I hN hi hx r (fun s' I' _=>h s' I') hf
theorem Inv.call' {s':Shared}{ch:List Addr}(I:Inv X pins σ H s)(ho:s'.os=s.os)(u:Un (frs X.stack) ch H H' s.heap s'.heap)(hok:HOk X.prog X.w H' s'.heap)(hg:AllBare s'.gens)
  (hch:∀ b∈ch,(b∈X.ex∨X.s_0.heap.objs.size≤b)∧b≠X.env.locals∧(∀ x c,X.env.cells.lookup x=some c→c≠b)∧∀ p∈X.pn++pins,p.1≠b):Inv X pins σ H' s':=by
 obtain ⟨h',g',d',t',o'⟩:=s'
 have e:o'=s.os:=ho
 subst e
 exact I.call (g':=g') (t':=t') (d':=d') u hok hg hch
end
abbrev XK:=Value→Option Addr→Hp→Prop
abbrev St:=List (Option V)
abbrev VK:=V→Hp→Prop
abbrev TE:=St→Hp→VK→Prop
abbrev TT:=St→Hp→(Bool→Hp→Prop)→Prop
abbrev TA:=St→Hp→(List V→Hp→Prop)→Prop
structure xj where
 nx:St→Hp→Prop
 rt:VK
 bk:St→Hp→Prop:=fun _ _=>False
 ct:St→Hp→Prop:=fun _ _=>False
abbrev TS:=xj→St→Hp→Prop
def EP (X:Cx)(pins:List (Addr×Obj))(σ:St)(Q:VK)(u:Value)(s':Shared):Prop:=∃ v H',Inv X pins σ H' s'∧cD v u∧Q v H'
def TP (X:Cx)(pins:List (Addr×Obj))(σ:St)(Q:Bool→Hp→Prop)(b:Bool)(s':Shared):Prop:=∃ H',Inv X pins σ H' s'∧Q b H'
def AP (X:Cx)(pins:List (Addr×Obj))(σ:St)(Q:List V→Hp→Prop)(us:List Value)(s':Shared):Prop:=∃ vs H',Inv X pins σ H' s'∧bF vs us∧Q vs H'
def SP (X:Cx)(pins:List (Addr×Obj))(D:xj)(f:Flow)(s':Shared):Prop:=
 match f with
 | .next=>∃ σ' H',Inv X pins σ' H' s'∧D.nx σ' H'
 | .brk=>∃ σ' H',Inv X pins σ' H' s'∧D.bk σ' H'
 | .cont=>∃ σ' H',Inv X pins σ' H' s'∧D.ct σ' H'
 | .ret u=>∃ v σ' H',Inv X pins σ' H' s'∧cD v u∧D.rt v H'
def PE (X:Cx)(e:Expr)(t:TE):Prop:=
 ∀ (pins:List (Addr×Obj)) (s:Shared) (σ:St) (H:Hp) (Q:VK),Inv X pins σ H s→t σ H Q→wpAny (model X.prog X.w) X.A (eval e X.env) (EP X pins σ Q) X.xe s
def PT (X:Cx)(e:Expr)(t:TT):Prop:=
 ∀ (pins:List (Addr×Obj)) (s:Shared) (σ:St) (H:Hp) (Q:Bool→Hp→Prop),Inv X pins σ H s→t σ H Q→wpAny (model X.prog X.w) X.A (isTrue e X.env (eval e X.env)) (TP X pins σ Q) X.xe s
def PW (X:Cx)(e:Expr)(t:TT):Prop:=
 ∀ (whole:Sem Value) (pins:List (Addr×Obj)) (s:Shared) (σ:St) (H:Hp) (Q:Bool→Hp→Prop),Inv X pins σ H s→t σ H Q→wpAny (model X.prog X.w) X.A (isTrue e X.env whole) (TP X pins σ Q) X.xe s
theorem PW.pt {X:Cx}{e:Expr}{t:TT}(h:PW X e t):PT X e t:=h _
def PA (X:Cx)(es:List Expr)(t:TA):Prop:=
 ∀ (pos:Pos) (pins:List (Addr×Obj)) (s:Shared) (σ:St) (H:Hp) (Q:List V→Hp→Prop),Inv X pins σ H s→t σ H Q→wpAny (model X.prog X.w) X.A (spliced (backTo pos (starEach es X.env))) (AP X pins σ Q) X.xe s
def PS (X:Cx)(st:Stmt)(t:TS):Prop:=
 ∀ (pins:List (Addr×Obj)) (s:Shared) (σ:St) (H:Hp) (D:xj),Inv X pins σ H s→t D σ H→wpAny (model X.prog X.w) X.A (exec st X.env) (SP X pins D) X.xe s
def PSs (X:Cx)(st:List Stmt)(t:TS):Prop:=
 ∀ (pins:List (Addr×Obj)) (s:Shared) (σ:St) (H:Hp) (D:xj),Inv X pins σ H s→t D σ H→wpAny (model X.prog X.w) X.A (execs st X.env) (SP X pins D) X.xe s
theorem thn {α:Type}{t:Sem α}{Q Q':α→Shared→Prop}{M:Model}{A:Around}{E:Value→Shared→Prop}{s:Shared}(h:wpAny M A t Q E s)(hQ:∀ a s,Q a s→Q' a s):wpAny M A t Q' E s:=wpAny_mono h hQ fun _ _ x=>x
end L2
namespace L2
open PySem PySem.Spec PyProof.Rows
section
variable {X:Cx}
theorem bin {a b:Expr}{ta tb:TE}(ha:PE X a ta)(hb:PE X b tb){pins:List (Addr×Obj)}{s:Shared}{σ:St}{H:Hp}{R:V→V→Hp→Prop}(I:Inv X pins σ H s)(h:ta σ H fun x H1=>tb σ H1 fun y H2=>R x y H2)
  {α:Type}{Q:α→Shared→Prop}{f:Value→Value→Sem α}
  (hf:∀ v u s2 x y H2,Inv X pins σ H2 s2→cD x v→cD y u→R x y H2→wpAny (model X.prog X.w) X.A (f v u) Q X.xe s2):
  wpAny (model X.prog X.w) X.A (eval a X.env) (fun v s₁=>wpAny (model X.prog X.w) X.A (eval b X.env) (fun u s₂=>wpAny (model X.prog X.w) X.A (f v u) Q X.xe s₂) X.xe s₁) X.xe s:=by
 refine thn (ha pins s σ H _ I h) fun v s1 ⟨x,H1,I1,r1,q1⟩=>?_
 refine thn (hb pins s1 σ H1 _ I1 q1) fun u s2 ⟨y,H2,I2,r2,q2⟩=>?_
 exact hf v u s2 x y H2 I2 r1 r2 q2
inductive su (i:Nat) (σ:St) (H:Hp) (Q:VK):Prop|mk (v:_):σ[i]?=some (some v)→Q v H→su i σ H Q
def tC (v:V):TE:=fun _ H Q=>Q v H
theorem Bi {i:Nat}{x:Str}{pos:Pos}(hN:X.N[i]?=some x)(hv:Vis X.env.scope x)(hd:(x==("__debug__":Str))=false:=by decide)(hcd:(x==("__classdict__":Str))=false:=by decide):PE X (.Name x pos) (su i):=by
 intro pins s σ H Q I h
 obtain ⟨v,e,h⟩:=h
 obtain ⟨m,hn,hl⟩:=I.loc
 obtain ⟨u,r,l⟩:=hl i x v hN e hv
 have fin:EP X pins σ Q u s:=⟨v,H,I,r,h⟩
 rcases l with ⟨hk,hm⟩|⟨hk,c,hc,hcell⟩
 ·exact wpAny_Name (wpAny_loadName_local I.ok.kind hk hn hm fin) hd
 ·rcases hk with hk|hk
  ·exact wpAny_Name (wpAny_loadName_cell I.ok.kind hk hc hcell fin) hd
  ·exact wpAny_Name (wpAny_loadName_free I.ok.kind hk hc hcell fin hcd) hd
theorem aB {i j pos}:PE X (.Constant (.int i) j pos) (tC (.int i)):=fun _ _ _ H _ I h=>wpAny_Constant_int ⟨.int i,H,I.tok _,⟨_,rfl⟩,h⟩
theorem n8 {b j pos}:PE X (.Constant (.bool b) j pos) (tC (.bl b)):=fun _ _ _ H _ I h=>Constant_bool ⟨.bl b,H,I,rfl,h⟩
theorem rn {j pos}:PE X (.Constant .none j pos) (tC .non):=fun _ _ _ H _ I h=>Constant_none ⟨.non,H,I,rfl,h⟩
theorem vt {x j pos}:PE X (.Constant (.str x) j pos) (tC (.str x)):=fun _ _ _ H _ I h=>Calls.Constant_str ⟨.str x,H,I.tok _,⟨_,rfl⟩,h⟩
def Gl (X:Cx)(x:Str):Prop:=X.env.kindOf x=some .globalImplicit
theorem mW {E:Value→Shared→Prop}{pins:List (Addr×Obj)}{s:Shared}{σ:St}{H:Hp}{x:Str}{u:Value}{pos:Pos}{Q:Value→Shared→Prop}(I:Inv X pins σ H s)(hg:Gl X x)(hm:X.mg x=some u)(h:Q u s)
  (hd:(x==("__debug__":Str))=false:=by decide):wpAny (model X.prog X.w) X.A (eval (.Name x pos) X.env) Q E s:=
 Calls.Name_function_global I.ok.kind hg (Calls.loadGlobal_global (by rw[I.ok.glob];exact I.mod.glob.keeps I.bk) hm h) hd
theorem iK {E:Value→Shared→Prop}{pins:List (Addr×Obj)}{s:Shared}{σ:St}{H:Hp}{x:Str}{u:Value}{pos:Pos}{Q:Value→Shared→Prop}(I:Inv X pins σ H s)(hg:Gl X x)(hm:X.mg x=none)(hv:bootBuiltins x=some u)(h:Q u s)
  (hn:x≠"__name__":=by decide)(hd:(x==("__debug__":Str))=false:=by decide):wpAny (model X.prog X.w) X.A (eval (.Name x pos) X.env) Q E s:=by
 obtain ⟨mb,h1,h2⟩:=I.mod.blt
 exact Calls.Name_function_global I.ok.kind hg (Calls.loadGlobal_builtin (by rw[I.ok.glob];exact I.mod.glob.keeps I.bk) hm (by rw[I.ok.blt];exact h1.keeps I.bk) ((h2 x hn).trans hv) h) hd
theorem bQ {x:Str}{v:V}{u:Value}{pos:Pos}(hg:Gl X x)(hm:X.mg x=some u)(r:cD v u)(hd:(x==("__debug__":Str))=false:=by decide):PE X (.Name x pos) (tC v):=
 fun _ _ _ H _ I h=>mW I hg hm ⟨v,H,I,r,h⟩ hd
variable {a b:Expr} {ta tb:TE} {pos:Pos}
def PC (X:Cx)(op:CmpOp)(a b:Expr)(t:TE):Prop:=
 ∀ (pins:List (Addr×Obj)) (s:Shared) (σ:St) (H:Hp) (Q:VK),Inv X pins σ H s→t σ H Q→
  wpAny (model X.prog X.w) X.A (eval a X.env) (fun v s₁=>wpAny (model X.prog X.w) X.A (eval b X.env) (fun u s₂=>wpAny (model X.prog X.w) X.A (compareOp op v u) (EP X pins σ Q) X.xe s₂) X.xe s₁) X.xe s
def tB (t:TE):TT:=fun σ H Q=>t σ H fun x H1=>∃ c,x=.bl c∧Q c H1
theorem vh {op:CmpOp}{t:TE}(h:PC X op a b t)(h1:behindInMarks op b=false:=by first|exact nobehind _ (by decide) (by decide)|rfl):PT X (.Compare a [op] [b] pos) (tB t):=by
 intro pins s σ H Q I hw
 refine wpAny_isTrue_Compare1 (thn (h pins s σ H _ I hw) fun v s1 h1=>thn h1 fun u s2 h2=>thn h2 fun c s3 ⟨x,H1,I1,r1,q1⟩=>?_) h1
 obtain ⟨d,rfl,q⟩:=q1
 cases r1
 exact wpAny_truthy_bool ⟨H1,I1,q⟩
theorem fO {e:Expr}{t:TE}(h:PE X e t)(he:∀ whole,isTrue e X.env whole=(do let v ← whole;standAt e.pos;holding [v] (truthy v)):=by intro _;rfl):PT X e (tB t):=by
 intro pins s σ H Q I hw
 refine isTrue_plain (thn (h pins s σ H _ I hw) fun v s1 ⟨x,H1,I1,r1,q1⟩=>?_) (he _)
 obtain ⟨d,rfl,q⟩:=q1
 cases r1
 exact wpAny_truthy_bool ⟨H1,I1,q⟩
variable {tA tB':TT} {nA:List Expr}
def tAnd (t u:TT):TT:=fun σ H Q=>t σ H fun c H1=>if c=true then u σ H1 Q else Q false H1
def tNot (t:TT):TT:=fun σ H Q=>t σ H fun c H1=>Q (!c) H1
theorem vg (ha:PT X a tA):PW X (.BoolOp .And [a] pos) tA:=by
 intro wh pins s σ H Q I h
 refine isTrue_and (thn (ha pins s σ H Q I h) fun c s1 e=>?_)
 cases c with
 | true=>exact isTrue_and_nil e
 | false=>exact e
theorem yU (ha:PT X a tA)(hb:PW X (.BoolOp .And (b::nA) pos) tB'):PW X (.BoolOp .And (a::b::nA) pos) (tAnd tA tB'):=by
 intro wh pins s σ H Q I h
 refine isTrue_and (thn (ha pins s σ H _ I h) fun c s1 ⟨H1,I1,q1⟩=>?_)
 cases c with
 | true=>exact hb wh pins s1 σ H1 Q I1 q1
 | false=>exact ⟨H1,I1,q1⟩
theorem iF (ha:PT X a tA):PT X (.UnaryOp .Not a pos) (tNot tA):=by
 intro pins s σ H Q I h
 exact isTrue_not (ha pins s σ H (fun c H1=>Q (!c) H1) I h)
def tIf (t:TT)(ta tb:TE):TE:=fun σ H Q=>t σ H fun c H1=>if c=true then ta σ H1 Q else tb σ H1 Q
theorem mL {c:Expr}(hc:PT X c tA)(ha:PE X a ta)(hb:PE X b tb):PE X (.IfExp c a b pos) (tIf tA ta tb):=by
 intro pins s σ H Q I h
 refine wpAny_IfExp (thn (hc pins s σ H _ I h) fun d s1 ⟨H1,I1,q1⟩=>?_)
 cases d with
 | true=>exact ha pins s1 σ H1 Q I1 q1
 | false=>exact hb pins s1 σ H1 Q I1 q1
end
end L2
namespace L2
open PySem PySem.Spec PyProof.Rows
def SqL (K:Frag)(H:Hp)(a:Addr)(xs:List V):Prop:=
 Rd H a (.lst xs)∨
  ∃ (o:Obj) (its:Array Value) (n:Nat),K.lookup a=some o∧o.cls=.type "list"∧o.dict=none∧o.data=.seq its n∧its.size≤sizeLine∧bF xs its.toList
def SqT (K:Frag)(H:Hp)(a:Addr)(xs:List V):Prop:=
 Rd H a (.tup xs)∨
  ∃ (o:Obj) (its:Array Value) (n:Nat),K.lookup a=some o∧o.cls=.type "tuple"∧o.data=.seq its n∧its.size≤sizeLine∧bF xs its.toList
def absV:Value→Option V
 | .none=>some .non
 | .bool b=>some (.bl b)
 | .int i _=>some (.int i)
 | .str x _=>some (.str x)
 | .bytes b _=>some (.byt b)
 | .float b _=>some (.flt b)
 | .ref a=>some (.ref a)
 | .type n=>some (.ty n)
 | _=>none
theorem cD.abs {x:V}{u:Value}(r:cD x u):absV u=some x:=by
 cases x with
 | non=>cases r;rfl
 | bl _=>cases r;rfl
 | int _=>obtain ⟨t,rfl⟩:=r;rfl
 | str _=>obtain ⟨t,rfl⟩:=r;rfl
 | byt _=>obtain ⟨t,rfl⟩:=r;rfl
 | flt _=>obtain ⟨t,rfl⟩:=r;rfl
 | ref _=>cases r;rfl
 | ty _=>cases r;rfl
theorem cD.inj {x y:V}{u:Value}(r:cD x u)(q:cD y u):x=y:=Oi (r.abs.symm.trans q.abs)
theorem bF.inj:∀ {xs ys:List V} {us:List Value},bF xs us→bF ys us→xs=ys
 | _,_,_,.nil,.nil=>rfl
 | _,_,_,.cons r t,.cons r' t'=>by rw[r.inj r',bF.inj t t']
section
variable {X:Cx} {pins:List (Addr×Obj)} {σ:St} {H:Hp} {s:Shared} {a:Addr} {xs ys:List V}
theorem SqL.of {K:Frag}(h:H a=some (.lst xs)):SqL K H a xs:=.inl (.inl h)
theorem SqT.of {K:Frag}(h:H a=some (.tup xs)):SqT K H a xs:=.inl (.inl h)
theorem Inv.list (I:Inv X pins σ H s)(h:SqL X.K H a xs):∃ its:List Value,bF xs its∧PlainL s.heap a its.toArray∧xs.length≤sizeLine:=by
 rcases h with h|⟨o,its,n,hk,hc,hd,hs,hz,r⟩
 ·obtain ⟨z,its,n,r,e⟩:=h.ok I.hok
  exact ⟨its,r,⟨_,n,e,rfl,rfl,rfl⟩,z⟩
 ·refine ⟨its.toList,r,⟨o,n,I.kIn a o hk,hc,hd,by simpa using hs⟩,?_⟩
  have e:=r.length
  simp only[Array.length_toList] at e
  omega
theorem Inv.tuple (I:Inv X pins σ H s)(h:SqT X.K H a xs):∃ its:List Value,bF xs its∧IsTup s.heap a its.toArray∧xs.length≤sizeLine:=by
 rcases h with h|⟨o,its,n,hk,hc,hs,hz,r⟩
 ·obtain ⟨z,its,r,p⟩:=h.ok I.hok
  exact ⟨its,r,p,z⟩
 ·refine ⟨its.toList,r,⟨o,I.kIn a o hk,hc,n,by simpa using hs⟩,?_⟩
  have e:=r.length
  simp only[Array.length_toList] at e
  omega
theorem Inv.list_inj (I:Inv X pins σ H s)(h:SqL X.K H a xs)(h':SqL X.K H a ys):xs=ys:=by
 obtain ⟨its,r,⟨o,n,e,_,_,d⟩,_⟩:=I.list h
 obtain ⟨its',r',⟨o',n',e',_,_,d'⟩,_⟩:=I.list h'
 rw[e] at e';cases e'
 rw[d] at d'
 injection d' with d1 _
 have:its=its':=by simpa using congrArg Array.toList d1
 subst this
 exact r.inj r'
theorem Inv.tuple_inj (I:Inv X pins σ H s)(h:SqT X.K H a xs)(h':SqT X.K H a ys):xs=ys:=by
 obtain ⟨its,r,⟨o,e,_,n,d⟩,_⟩:=I.tuple h
 obtain ⟨its',r',⟨o',e',_,n',d'⟩,_⟩:=I.tuple h'
 rw[e] at e';cases e'
 rw[d] at d'
 injection d' with d1 _
 have:its=its':=by simpa using congrArg Array.toList d1
 subst this
 exact r.inj r'
end
abbrev Cx.wish (X:Cx)(E:Value→Shared→Prop):Cx:={X with xe:=E}
abbrev Cx.nox (X:Cx):Cx:=X.wish fun _ _=>False
theorem Cx.Ok.wish {X:Cx}(ok:X.Ok)(E:Value→Shared→Prop):(X.wish E).Ok:=
 ⟨ok.mod,ok.kind,ok.glob,ok.blt,ok.above,ok.inj,ok.has,ok.cab,ok.hd,ok.frames,ok.stk,ok.exf,ok.bs,ok.bsz,ok.noex,ok.exfs,ok.funs,ok.frf⟩
theorem Cx.Ok.unwish {X:Cx}{E:Value→Shared→Prop}(ok:(X.wish E).Ok):X.Ok:=
 ⟨ok.mod,ok.kind,ok.glob,ok.blt,ok.above,ok.inj,ok.has,ok.cab,ok.hd,ok.frames,ok.stk,ok.exf,ok.bs,ok.bsz,ok.noex,ok.exfs,ok.funs,ok.frf⟩
section
variable {X:Cx} {pins:List (Addr×Obj)} {σ:St} {H:Hp} {s:Shared} {E:Value→Shared→Prop}
theorem Inv.wish (I:Inv X pins σ H s)(E:Value→Shared→Prop):Inv (X.wish E) pins σ H s:=⟨I.ok.wish E,I.os,I.bare,I.base,I.loc,I.cell,I.free,I.freeC,I.pin,I.hok,I.len⟩
theorem Inv.unwish (I:Inv (X.wish E) pins σ H s):Inv X pins σ H s:=⟨I.ok.unwish,I.os,I.bare,I.base,I.loc,I.cell,I.free,I.freeC,I.pin,I.hok,I.len⟩
theorem SP.unwish {D:xj}{f:Flow}{s':Shared}(h:SP (X.wish E) pins D f s'):SP X pins D f s':=by
 cases f with
 | next=>obtain ⟨σ',H',I,q⟩:=h;exact ⟨σ',H',I.unwish,q⟩
 | brk=>obtain ⟨σ',H',I,q⟩:=h;exact ⟨σ',H',I.unwish,q⟩
 | cont=>obtain ⟨σ',H',I,q⟩:=h;exact ⟨σ',H',I.unwish,q⟩
 | ret u=>obtain ⟨v,σ',H',I,r,q⟩:=h;exact ⟨v,σ',H',I.unwish,r,q⟩
theorem PSs.nox {st:List Stmt}{t:TS}(h:PSs X.nox st t):PSs X st t:=fun pins s σ H D I hw=>
 wpAny_mono (h pins s σ H D (I.wish _) hw) (fun _ _ q=>q.unwish) fun _ _ z=>False.elim z
end
section
variable {X:Cx} {st:Stmt} {nA:List Stmt} {t u:TS} {e:Expr} {te:TE} {pos:Pos}
def tNext:TS:=fun D σ H=>D.nx σ H
def tSeq (t u:TS):TS:=fun D σ H=>t {D with nx:=u D} σ H
theorem bi:PSs X [] tNext:=fun _ _ σ H _ I h=>wpAny_execs_nil ⟨σ,H,I,h⟩
theorem ag (h1:PS X st t)(h2:PSs X nA u):PSs X (st::nA) (tSeq t u):=by
 intro pins s σ H D I h
 refine wpAny_execs_cons (thn (h1 pins s σ H {D with nx:=u D} I h) fun f s1 q=>?_)
 cases f with
 | next=>
  obtain ⟨σ',H',I',q⟩:=q
  exact h2 pins s1 σ' H' D I' q
 | ret v=>exact q
 | brk=>exact q
 | cont=>exact q
theorem ah (h1:PS X st t):PSs X [st] t:=by
 intro pins s σ H D I h
 refine wpAny_execs_cons (thn (h1 pins s σ H D I h) fun f s1 q=>?_)
 cases f with
 | next=>exact wpAny_execs_nil q
 | ret v=>exact q
 | brk=>exact q
 | cont=>exact q
theorem Inv.quiet {pins:List (Addr×Obj)}{σ:St}{H:Hp}{s:Shared}(I:Inv X pins σ H s):interactive X.env=false:=by simp[interactive,I.ok.kind]
def tDrop (te:TE):TS:=fun D σ H=>te σ H fun _ H1=>D.nx σ H1
theorem aX (he:PE X e te)(hs:swapsWith e none pos.line X.env=pure false:=by rfl):PS X (.Expr e pos) (tDrop te):=by
 intro pins s σ H D I h
 exact wpAny_Expr_any (thn (he pins s σ H _ I h) fun v s1 ⟨x,H1,I1,r1,q1⟩=>⟨σ,H1,I1,q1⟩) I.quiet hs
def tRet (te:TE):TS:=fun D σ H=>te σ H D.rt
theorem ax (he:PE X e te):PS X (.Return (some e) pos) (tRet te):=by
 intro pins s σ H D I h
 exact wpAny_Return_some (thn (he pins s σ H _ I h) fun v s1 ⟨x,H1,I1,r1,q1⟩=>⟨x,σ,H1,I1,r1,q1⟩)
def tIfS (c:TT)(t u:TS):TS:=fun D σ H=>c σ H fun b H1=>if b=true then t D σ H1 else u D σ H1
theorem dz {c:Expr}{a b:List Stmt}{tc:TT}(hc:PT X c tc)(ha:PSs X a t)(hb:PSs X b u):PS X (.If c a b pos) (tIfS tc t u):=by
 intro pins s σ H D I h
 refine wpAny_If (thn (hc pins s σ H _ I h) fun d s1 ⟨H1,I1,q1⟩=>?_)
 cases d with
 | true=>exact ha pins s1 σ H1 D I1 q1
 | false=>exact hb pins s1 σ H1 D I1 q1
end
abbrev TG:=V→St→Hp→(St→Hp→Prop)→Prop
abbrev TGs:=List V→St→Hp→(St→Hp→Prop)→Prop
def PG (X:Cx)(target:Expr)(t:TG):Prop:=
 ∀ (pins:List (Addr×Obj)) (s:Shared) (σ:St) (H:Hp) (v:V) (u:Value) (Q:St→Hp→Prop),Inv X pins σ H s→cD v u→t v σ H Q→
  wpAny (model X.prog X.w) X.A (assign target X.env u) (fun _ s'=>∃ σ' H',Inv X pins σ' H' s'∧Q σ' H') X.xe s
def PGs (X:Cx)(ts:List Expr)(t:TGs):Prop:=
 ∀ (pins:List (Addr×Obj)) (s:Shared) (σ:St) (H:Hp) (vs:List V) (us:List Value) (Q:St→Hp→Prop),Inv X pins σ H s→bF vs us→t vs σ H Q→
  wpAny (model X.prog X.w) X.A (assignInOrder ((assignEach ts X.env).map (·.2)) us) (fun _ s'=>∃ σ' H',Inv X pins σ' H' s'∧Q σ' H') X.xe s
abbrev TSet:=V→V→V→Hp→(Hp→Prop)→Prop
def PSet (X:Cx)(t:TSet):Prop:=
 ∀ (pins:List (Addr×Obj)) (s:Shared) (σ:St) (H:Hp) (o i v:V) (ov iv u:Value) (Q:Hp→Prop),Inv X pins σ H s→cD o ov→cD i iv→cD v u→t o i v H Q→
  wpAny (model X.prog X.w) X.A (setItem ov iv u) (fun _ s'=>∃ H',Inv X pins σ H' s'∧Q H') X.xe s
section
variable {X:Cx} {pos:Pos}
def oB (i:Nat):TG:=fun v σ H Q=>Q (σ.set i (some v)) H
theorem aG {i:Nat}{x:Str}(hN:X.N.Nodup)(hi:X.N[i]?=some x)(hx:Loc X.env.scope x)(hf:X.fn x=true∨X.env.scope.names.lookup x=some .local:=by first|exact .inl rfl|exact .inr rfl|assumption):PG X (.Name x pos) (oB i):=by
 intro pins s σ H v u Q I r h
 exact wpAny_assign_Name (qW I hN hi hx r (fun s' I'=>⟨_,H,I',h⟩) hf)
def gNil:TGs:=fun vs σ H Q=>vs=[]∧Q σ H
def wE (t:TG)(u:TGs):TGs:=fun vs σ H Q=>∃ v r,vs=v::r∧t v σ H fun σ' H'=>u r σ' H' Q
theorem vp:PGs X [] gNil:=by
 intro pins s σ H vs us Q I r h
 obtain ⟨e,h⟩:=h
 subst e
 cases r
 exact assignInOrder_nil ⟨σ,H,I,h⟩
theorem jJ {e:Expr}{es:List Expr}{t:TG}{u:TGs}(h1:PG X e t)(h2:PGs X es u)
  (hs:(assignEach (e::es) X.env).map (·.2)=assign e X.env::(assignEach es X.env).map (·.2):=by rfl):PGs X (e::es) (wE t u):=by
 intro pins s σ H vs us Q I r h
 obtain ⟨v,vr,e1,h⟩:=h
 subst e1
 cases r with
 | cons r rr=>
  rw[hs]
  refine assignInOrder_cons (thn (h1 pins s σ H _ _ _ I r h) fun _ s1 ⟨σ1,H1,I1,q1⟩=>?_)
  exact h2 pins s1 σ1 H1 _ _ Q I1 rr q1
def gTup (K:Frag)(n:Nat)(t:TGs):TG:=fun v σ H Q=>∃ a xs,v=.ref a∧SqT K H a xs∧xs.length=n∧t xs σ H Q
theorem yV {es:List Expr}{k:Nat}{t:TGs}{n:Nat}(hc:X.calm=true)(h:PGs X es t)
  (hn:(assignEach es X.env).length=n:=by rfl)(hst:(assignEach es X.env).findIdx? (·.1)=none:=by rfl):PG X (.Tuple es k pos) (gTup X.K n t):=by
 intro pins s σ H v u Q I r hw
 obtain ⟨a,xs,e1,hq,hl,hw⟩:=hw
 subst e1
 cases r
 obtain ⟨its,rv,ht,hz⟩:=I.tuple hq
 refine assign_Tuple_tuple (I.ok.hd hc) ht (by simp[hn,←hl,rv.length]) hst fun h' hx=>?_
 have I1:Inv X pins σ H {s with heap:=h'}:=I.kept (t':=s.toks) fun b o e=>hx b o (Nat.ne_of_lt (Heap.lt_size e)) e
 exact h pins _ σ H xs _ Q I1 (by simpa using rv) hw
def gSub (to ti:TE)(t:TSet):TG:=fun v σ H Q=>to σ H fun o H1=>ti σ H1 fun i H2=>t o i v H2 fun H3=>Q σ H3
theorem n4 {o i:Expr}{to ti:TE}{t:TSet}(ho:PE X o to)(hi:PE X i ti)(hs:PSet X t)
  (ha:∀ v,assign (.Subscript o i pos) X.env v=(do
   let ov ← holding [v] (eval o X.env)
   let iv ← holding [v,ov] (eval i X.env)
   standAt pos
   holding [v,ov,iv] (setItem ov iv v)
   release [v,ov,iv] []):=by intro _;rfl):PG X (.Subscript o i pos) (gSub to ti t):=by
 intro pins s σ H v u Q I r h
 rw[ha]
 refine wpAny_bind (wpAny_holding (thn (ho pins s σ H _ I h) fun ov s1 ⟨x,H1,I1,r1,q1⟩=>?_))
 refine wpAny_bind (wpAny_holding (thn (hi pins s1 σ H1 _ I1 q1) fun iv s2 ⟨y,H2,I2,r2,q2⟩=>?_))
 refine wpAny_bind (wpAny_standAt (wpAny_bind (wpAny_holding (thn (hs pins s2 σ H2 x y v ov iv u _ I2 r1 r2 r q2) fun _ s3 ⟨H3,I3,q3⟩=>?_))))
 exact wpAny_release ⟨σ,H3,I3,q3⟩
def tAsg (te:TE)(g:TG):TS:=fun D σ H=>te σ H fun x H1=>g x σ H1 D.nx
theorem nW {tg e:Expr}{te:TE}{g:TG}(he:PE X e te)(hg:PG X tg g)(hs:swapsWithSole [tg] e pos.line X.env=pure false:=by rfl)(hw:swappedStores [tg] e X.env=pure none:=by rfl)
  (h1:(assignEach [tg] X.env).map (·.2)=[assign tg X.env]:=by rfl):PS X (.Assign [tg] e pos) (tAsg te g):=by
 intro pins s σ H D I h
 refine wpAny_Assign_stores (thn (he pins s σ H _ I h) fun v s1 ⟨x,H1,I1,r1,q1⟩=>?_) hs hw
 rw[h1]
 exact thn (hg pins s1 σ H1 x v _ I1 r1 q1) fun _ s2 q=>q
theorem aq {i:Nat}{x:Str}{e:Expr}{te:TE}{pos':Pos}(hN:X.N.Nodup)(hi:X.N[i]?=some x)(hx:Loc X.env.scope x)(he:PE X e te)(hs:swapsWith e (some (.Name x pos')) pos.line X.env=pure false:=by rfl)(hf:X.fn x=true∨X.env.scope.names.lookup x=some .local:=by first|exact .inl rfl|exact .inr rfl|assumption):
  PS X (.Assign [.Name x pos'] e pos) (tAsg te (oB i)):=by
 intro pins s σ H D I h
 refine wpAny_Assign_Name (thn (he pins s σ H _ I h) fun v s1 ⟨y,H1,I1,r1,q1⟩=>?_) hs
 exact qW I1 hN hi hx r1 (fun s2 I2=>⟨_,H1,I2,q1⟩) hf
end
section
variable {X:Cx} {pos:Pos}
def AS (c:TT)(tb:TS):TS:=fun D σ H=>∃ W:Nat→St→Hp→Prop,(∃ m,W m σ H)∧∀ m σ H,W m σ H→
 c σ H fun b H1=>if b=true then ∃ N:St→Hp→Prop,(∀ σ' H',N σ' H'→∃ m',m'<m∧W m' σ' H')∧tb {D with nx:=N,ct:=N,bk:=D.nx} σ H1 else D.nx σ H1
theorem dj {c:Expr}{body:List Stmt}{tc:TT}{tb:TS}(hp:PassesOwn (model X.prog X.w) X.A X.env X.xe)(hc:PT X c tc)(hb:PSs X body tb):PS X (.While c body [] pos) (AS tc tb):=by
 intro pins s σ H D I h
 obtain ⟨W,⟨m0,w0⟩,turn⟩:=h
 refine wpAny_While (codeAny_whileLoop (fun n s'=>∃ σ' H',Inv X pins σ' H' s'∧W n σ' H') ?_ m0 ⟨σ,H,I,w0⟩)
 rintro n s1 ⟨σ1,H1,I1,w1⟩
 refine wpAny_passesOwn hp (thn (hc pins s1 σ1 H1 _ I1 (turn n σ1 H1 w1)) fun b s2 ⟨H2,I2,q2⟩=>?_)
 cases b with
 | true=>
  obtain ⟨N,hN,q2⟩:=q2
  rw[if_pos rfl]
  refine wpAny_passesOwn hp (thn (hb pins s2 σ1 H2 _ I2 q2) fun f s3 q3=>?_)
  cases f with
  | next=>
   obtain ⟨σ3,H3,I3,n3⟩:=q3
   obtain ⟨m',hm,w3⟩:=hN σ3 H3 n3
   exact ⟨m',hm,σ3,H3,I3,w3⟩
  | cont=>
   obtain ⟨σ3,H3,I3,n3⟩:=q3
   obtain ⟨m',hm,w3⟩:=hN σ3 H3 n3
   exact ⟨m',hm,σ3,H3,I3,w3⟩
  | brk=>exact q3
  | ret v=>exact q3
 | false=>
  rw[if_neg Bool.false_ne_true]
  exact wpAny_execs_nil ⟨σ1,H2,I2,q2⟩
end
structure It where
 go:Nat→Hp→Prop
 yld:Nat→Hp→V→Hp→Prop
 stop:Nat→Hp→Prop
def t9 (X:Cx)(pins:List (Addr×Obj))(H:Hp)(b:Addr):Prop:=
 H b=none∧b≠X.env.locals∧b∉X.fs∧(b∈X.ex∨X.s_0.heap.objs.size≤b)∧(∀ x c,X.env.cells.lookup x=some c→c≠b)∧∀ p∈X.pn++pins,p.1≠b
theorem Inv.fpOk {X:Cx}{pins:List (Addr×Obj)}{σ:St}{H H':Hp}{s:Shared}{b:Addr}(I:Inv X pins σ H s)(hb:s.heap.objs.size≤b)(hn:H' b=none):t9 X pins H' b:=by
 refine ⟨hn,Nat.ne_of_gt (Nat.lt_of_lt_of_le I.lt hb),I.nofs hb,.inr (Nat.le_trans I.sz hb),fun x c e z=>?_,fun p hp z=>?_⟩
 ·obtain ⟨v,q⟩:=I.cell x c e
  exact absurd (Nat.lt_of_lt_of_le q.lt (by rw[z];exact hb)) (Nat.lt_irrefl _)
 ·exact absurd (Nat.lt_of_lt_of_le (Heap.lt_size (I.pin p hp).1) (by rw[z];exact hb)) (Nat.lt_irrefl _)
structure Turn (P:Program)(w:World)(K:Frag)(tg:Expr)(J:It)(fp:List Addr)(it:Addr)(tn:Nat→Heap→Prop):Prop where
 mem:it∈fp
 obj:∀ i h,tn i h→∀ b∈fp,∃ o,h.get? b=some o∧∀ v,o.data≠.cell v
 keep:∀ i h h',tn i h→(∀ b∈fp,∀ o,h.get? b=some o→h'.get? b=some o)→tn i h'
 item:∀ (X:Cx),X.prog=P→X.w=w→X.K=K→X.calm=true→∀ (i:Nat) (pins:List (Addr×Obj)) (s:Shared) (σ:St) (H:Hp) (E:Value→Shared→Prop),Inv X pins σ H s→(∀ b∈fp,t9 X pins H b)→tn i s.heap→J.go i H→
  wpAny (model P w) X.A (pyNext (.ref it)) (fun r s1=>∃ u,r=some u∧
   wpAny (model P w) X.A (letOwnedTupleGo tg (.ref it) u) (fun _ s2=>∃ x H',Inv X pins σ H' s2∧cD x u∧J.yld i H x H'∧tn (i+1) s2.heap∧∀ b∈fp,H' b=none) E s1) E s
 done:∀ (X:Cx),X.prog=P→X.w=w→X.K=K→X.calm=true→∀ (i:Nat) (pins:List (Addr×Obj)) (s:Shared) (σ:St) (H:Hp) (E:Value→Shared→Prop),Inv X pins σ H s→(∀ b∈fp,t9 X pins H b)→tn i s.heap→J.stop i H→
  wpAny (model P w) X.A (pyNext (.ref it)) (fun r s1=>r=none∧Inv X pins σ H s1) E s
 self:∀ (A:Around) (i:Nat) (s:Shared) (Q:Value→Shared→Prop) (E:Value→Shared→Prop),tn i s.heap→Q (.ref it) s→wpAny (model P w) A (pyIter (.ref it)) Q E s
abbrev TI:=St→Hp→(It→Hp→Prop)→Prop
def PIE (X:Cx)(pins:List (Addr×Obj))(σ:St)(tg:Expr)(R:It→Hp→Prop)(itv:Value)(s2:Shared):Prop:=
 ∃ (it:Addr) (fp:List Addr) (tn:Nat→Heap→Prop) (J:It) (H':Hp),itv=.ref it∧Inv X pins σ H' s2∧Turn X.prog X.w X.K tg J fp it tn∧tn 0 s2.heap∧(∀ b∈fp,t9 X pins H' b)∧R J H'
def PI (X:Cx)(tg iter:Expr)(wi:TI):Prop:=
 ∀ (pins:List (Addr×Obj)) (s:Shared) (σ:St) (H:Hp) (R:It→Hp→Prop),Inv X pins σ H s→wi σ H R→
  wpAny (model X.prog X.w) X.A (eval iter X.env) (fun v s1=>wpAny (model X.prog X.w) X.A (pyIter v) (PIE X pins σ tg R) X.xe s1) X.xe s
theorem Ax {M:Model}{A:Around}{E:Value→Shared→Prop}{s:Shared}{tg:Expr}{it:Addr}{u:Value}{o:Obj}{n:String}{vs:Array Value}{Q:Unit→Shared→Prop}(ho:s.heap.get? it=some o)(hc:o.cls=.type n)(hd:o.data=.fields vs)
    (hn:["enumerate","zip","dict_itemiterator","dict_reverseitemiterator","odict_iterator","itertools.zip_longest","itertools.pairwise"].contains n=false)(hQ:Q () s):wpAny M A (letOwnedTupleGo tg (.ref it) u) Q E s:=by
  unfold letOwnedTupleGo
  cases tg <;> first
    | exact wpAny_pure hQ
    | (cases u <;> first
        | exact wpAny_pure hQ
        | (refine wpAny_bind (wpAny_load ho ?_)
           rw[hc,hd]
           show wpAny M A (if (["enumerate","zip","dict_itemiterator","dict_reverseitemiterator","odict_iterator","itertools.zip_longest","itertools.pairwise"].contains n&&vs[0]?==some (rawInt _))=true then _ else _) Q E s
           rw[if_neg (by intro h;rw[hn,Bool.false_and] at h;cases h)]
           exact wpAny_pure hQ))
def Itl (K:Frag)(a:Addr):It:=
 ⟨fun i H=>∃ xs x,SqL K H a xs∧xs[i]?=some x,fun i H x H'=>H'=H∧∀ xs,SqL K H a xs→xs[i]?=some x,fun i H=>∃ xs,SqL K H a xs∧xs.length≤i⟩
def Itr (lo:Int)(n:Nat):It:=⟨fun i _=>i<n,fun i H x H'=>H'=H∧x=.int (lo+i),fun i _=>n≤i⟩
theorem uh {P:Program}{w:World}{K:Frag}{tg:Expr}(a it:Addr):Turn P w K tg (Itl K a) [it] it (fun i h=>h.IsListIter it a i) where
 mem:=by simp
 obj:=fun i h st b hb=>by
  have e:b=it:=by simpa using hb
  subst e
  obtain ⟨o,e,c,d⟩:=st
  exact ⟨o,e,fun v z=>by rw[d] at z;cases z⟩
 keep:=fun i h h' st k=>st.at fun o e=>k it (by simp) o e
 item:=by
  intro X hP hw hK hc i pins s σ H E I hf st hg
  subst hP hw hK
  obtain ⟨xs,x,hq,hx⟩:=hg
  obtain ⟨its,rv,p,hz⟩:=I.list hq
  obtain ⟨u,hu,ru⟩:=rv.get hx
  obtain ⟨f0,f1,f2,f3,f4,f5⟩:=hf it (by simp)
  refine wpAny_pyNext_list_item st p.isList (x:=u) (by simpa using hu) fun h' st' sb=>?_
  have I1:Inv X pins σ H {s with heap:=h'}:=I.turned (t':=s.toks) (fun b o hb e=>(sb.2 b hb).trans e) f0 f1 f3 f4 f5
  obtain ⟨o,e,c,d⟩:=id st'
  exact ⟨u,rfl,Ax (s:={s with heap:=h'}) e c d (by decide) ⟨x,H,I1,ru,⟨rfl,fun ys hy=>by rw[I.list_inj hy hq];exact hx⟩,st',fun b hb=>(hf b hb).1⟩⟩
 done:=by
  intro X hP hw hK hc i pins s σ H E I hf st hg
  subst hP hw hK
  obtain ⟨xs,hq,hx⟩:=hg
  obtain ⟨its,rv,p,hz⟩:=I.list hq
  obtain ⟨f0,f1,f2,f3,f4,f5⟩:=hf it (by simp)
  have hl:=rv.length
  exact wpAny_pyNext_list_end (I.ok.hd hc) st p.isList (by simp;omega) fun h' eb=>⟨rfl,I.turned (t':=s.toks) (fun b o hb e=>eb b o hb e) f0 f1 f3 f4 f5⟩
 self:=fun _ _ _ _ _ st h=>wpAny_pyIter_listiter st h
theorem ss {P:Program}{w:World}{K:Frag}{tg:Expr}(it:Addr)(lo:Int)(n:Nat):Turn P w K tg (Itr lo n) [it] it (fun i h=>IsRangeIter h it (lo+(i:Nat)*1) ((n:Int)-(i:Nat)) 1) where
 mem:=by simp
 obj:=fun i h st b hb=>by
  have e:b=it:=by simpa using hb
  subst e
  exact ⟨_,st,fun v z=>by
   have z':Data.fields _=Data.cell v:=z
   cases z'⟩
 keep:=fun i h h' st k=>k it (by simp) _ st
 item:=by
  intro X hP hw hK hc i pins s σ H E I hf st hg
  subst hP hw hK
  obtain ⟨f0,f1,f2,f3,f4,f5⟩:=hf it (by simp)
  have W:=Walks.range (prog:=X.prog) (w:=X.w) (I.ok.hd hc) it lo 1 n
  refine W.item i s _ _ hg st fun v h' tk hv st' kk=>?_
  obtain ⟨t,rfl⟩:=hv
  have I1:Inv X pins σ H {s with heap:=h',toks:=tk}:=I.turned (fun b o hb e=>kk b o (by simpa using hb) e) f0 f1 f3 f4 f5
  refine ⟨_,rfl,Ax (s:={s with heap:=h',toks:=tk}) (n:="range_iterator") st' rfl rfl (by decide) ⟨.int (lo+i),H,I1,⟨t,?_⟩,⟨rfl,rfl⟩,st',fun b hb=>(hf b hb).1⟩⟩
  rw[Int.mul_one]
 done:=by
  intro X hP hw hK hc i pins s σ H E I hf st hg
  subst hP hw hK
  obtain ⟨f0,f1,f2,f3,f4,f5⟩:=hf it (by simp)
  exact wpAny_pyNext_range_end (I.ok.hd hc) st (by have:n≤i:=hg;omega) fun h' eb=>⟨rfl,I.turned (t':=s.toks) (fun b o hb e=>eb b o hb e) f0 f1 f3 f4 f5⟩
 self:=fun _ _ _ _ _ st h=>wpAny_pyIter_rangeiter st h
end L2
namespace L2
open PySem PySem.Spec PyProof.Rows
section
variable {X:Cx} {tg:Expr}
def iList (K:Frag)(tl:TE):TI:=fun σ H R=>tl σ H fun x H1=>∃ a,x=.ref a∧(∃ xs,SqL K H1 a xs)∧R (Itl K a) H1
theorem aP {l:Expr}{tl:TE}(hl:PE X l tl):PI X tg l (iList X.K tl):=by
 intro pins s σ H R I h
 refine thn (hl pins s σ H _ I h) fun v s1 ⟨x,H1,I1,r1,q1⟩=>?_
 obtain ⟨a,e,⟨xs,hq⟩,q⟩:=q1
 subst e
 cases r1
 obtain ⟨its,rv,p,hz⟩:=I1.list hq
 refine wpAny_pyIter_list p.isList ?_
 refine ⟨s1.heap.objs.size,[s1.heap.objs.size],_,_,H1,rfl,I1.kept (t':=s1.toks) fun b o e=>Heap.get?_push_of_some _ e,uh a _,⟨_,Heap.get?_push_size _ rfl,rfl,rfl⟩,fun b hb=>?_,q⟩
 have e:b=s1.heap.objs.size:=by simpa using hb
 subst e
 exact I1.fpOk (Nat.le_refl _) (I1.hok.fresh (Nat.le_refl _))
theorem rd {pins:List (Addr×Obj)}{σ:St}{H:Hp}{s:Shared}{R:It→Hp→Prop}{E:Value→Shared→Prop}{lo hi:Int}{t u v:Tok}{tk:Nat}(I:Inv X pins σ H s)(h1:-(2 ^ 62)≤lo)(h2:lo<2 ^ 62)(h3:-(2 ^ 62)≤hi)(h4:hi<2 ^ 62)
  (q:R (Itr lo (hi-lo).toNat) H):wpAny (model X.prog X.w) X.A (pyIter (.ref s.heap.objs.size)) (PIE X pins σ tg R) E {s with heap:=s.heap.push {cls:=.type "range",data:=.fields #[.int lo t,.int hi u,.int 1 v]},toks:=tk}:=by
 refine wpAny_pyIter_range (IsRange.new ..) (small_one h1 h2 h3 h4) ?_
 have I1:Inv X pins σ H {s with heap:=s.heap.push {cls:=.type "range",data:=.fields #[.int lo t,.int hi u,.int 1 v]},toks:=tk}:=I.kept fun b o e=>Heap.get?_push_of_some _ e
 refine ⟨(s.heap.push {cls:=.type "range",data:=.fields #[.int lo t,.int hi u,.int 1 v]}).objs.size,[(s.heap.push {cls:=.type "range",data:=.fields #[.int lo t,.int hi u,.int 1 v]}).objs.size],_,_,H,rfl,
  I1.kept (t':=tk) fun b o e=>Heap.get?_push_of_some _ e,ss _ lo (hi-lo).toNat,?_,fun b hb=>?_,q⟩
 ·have e1:lo+((0:Nat):Int)*1=lo:=by simp
  have e2:(((hi-lo).toNat:Nat):Int)-((0:Nat):Int)=Builtin.Range.rangeSize lo hi 1:=by rw[rangeSize_one];split <;> omega
  show IsRangeIter _ _ (lo+((0:Nat):Int)*1) ((((hi-lo).toNat:Nat):Int)-((0:Nat):Int)) 1
  rw[e1,e2]
  exact Heap.get?_push_size _ rfl
 ·have e:b=(s.heap.push {cls:=.type "range",data:=.fields #[.int lo t,.int hi u,.int 1 v]}).objs.size:=by simpa using hb
  subst e
  exact I1.fpOk (Nat.le_refl _) (I1.hok.fresh (Nat.le_refl _))
def iRng1 (ta:TA):TI:=fun σ H R=>ta σ H fun vs H1=>∃ j:Int,vs=[.int j]∧-(2 ^ 62)≤j∧j<2 ^ 62∧R (Itr 0 j.toNat) H1
def iRng2 (ta:TA):TI:=fun σ H R=>ta σ H fun vs H1=>∃ i j:Int,vs=[.int i,.int j]∧(-(2 ^ 62)≤i∧i<2 ^ 62∧-(2 ^ 62)≤j∧j<2 ^ 62)∧R (Itr i (j-i).toNat) H1
theorem iG {a:Expr}{ta:TA}{p pos:Pos}(hg:Gl X "range")(hm:X.mg "range"=none)(ha:PA X [a] ta)(hs:starEach [a] X.env=[(false,eval a X.env)]:=by rfl):PI X tg (.Call (.Name "range" p) [a] [] pos) (iRng1 ta):=by
 intro pins s σ H R I h
 refine Call_ (iK I hg hm boot_range (PyProof.Rows.callWith_type1 (thn (ha pos pins s σ H _ I h) fun us s1 ⟨vs,H1,I1,r1,q1⟩=>?_) hs rfl))
 obtain ⟨j,e,q1,q2,q⟩:=q1
 subst e
 cases r1 with
 | cons r rr=>
  cases rr
  obtain ⟨t,rfl⟩:=r
  exact call_range_1 (rd I1 (by omega) (by omega) q1 q2 (by simpa using q))
theorem vo {a b:Expr}{ta:TA}{p pos:Pos}(hg:Gl X "range")(hm:X.mg "range"=none)(ha:PA X [a,b] ta)(hs:starEach [a,b] X.env=[(false,eval a X.env),(false,eval b X.env)]:=by rfl)(hs2:starEach [b] X.env=[(false,eval b X.env)]:=by rfl):
  PI X tg (.Call (.Name "range" p) [a,b] [] pos) (iRng2 ta):=by
 intro pins s σ H R I h
 refine Call_ (iK I hg hm boot_range (PyProof.Rows.callWith_type1 (thn (ha pos pins s σ H _ I h) fun us s1 ⟨vs,H1,I1,r1,q1⟩=>?_) (by rw[hs,hs2]) (by rw[hs2];rfl)))
 obtain ⟨i,j,e,⟨q1,q2,q3,q4⟩,q⟩:=q1
 subst e
 cases r1 with
 | cons r rr=>
  cases rr with
  | cons r' rr=>
   cases rr
   obtain ⟨t,rfl⟩:=r
   obtain ⟨t',rfl⟩:=r'
   exact call_range_2 (rd I1 q1 q2 q3 q4 q)
def tFor (wi:TI)(g:TG)(tb:TS):TS:=fun D σ H=>wi σ H fun J H1=>∃ W:Nat→Nat→St→Hp→Prop,(∃ m,W 0 m σ H1)∧∀ i m σ H,W i m σ H→
 (J.stop i H∧D.nx σ H)∨(J.go i H∧∃ N:St→Hp→Prop,(∀ σ' H',N σ' H'→∃ m',m'<m∧W (i+1) m' σ' H')∧∀ x H',J.yld i H x H'→g x σ H' fun σ2 H2=>tb {D with nx:=N,ct:=N,bk:=D.nx} σ2 H2)
def nZ (fp:List Addr)(h:Heap):List (Addr×Obj):=fp.filterMap fun b=>(h.get? b).map fun o=>(b,o)
theorem i9 {fp:List Addr}{h:Heap}{b:Addr}{o:Obj}(hb:b∈fp)(e:h.get? b=some o):(b,o)∈nZ fp h:=mem_filterMap.mpr ⟨b,hb,by rw[e];rfl⟩
theorem vS {fp:List Addr}{h:Heap}{p:Addr×Obj}(hp:p∈nZ fp h):p.1∈fp∧h.get? p.1=some p.2:=by
 obtain ⟨b,hb,e⟩:=mem_filterMap.mp hp
 cases q:h.get? b with
 | none=>rw[q] at e;cases e
 | some o=>
  rw[q] at e
  have e':(b,o)=p:=Oi e
  subst e'
  exact ⟨hb,q⟩
theorem Inv.pinned {pins:List (Addr×Obj)}{σ:St}{H:Hp}{s:Shared}{fp:List Addr}(I:Inv X pins σ H s)(hf:∀ b∈fp,t9 X pins H b)(ho:∀ b∈fp,∃ o,s.heap.get? b=some o∧∀ v,o.data≠.cell v):Inv X (pins++nZ fp s.heap) σ H s:=
 I.pins_of fun p hp=>(Ma hp).elim (fun z=>I.pin p (mem_append_right _ z)) fun z=>by
  obtain ⟨hb,e⟩:=vS z
  obtain ⟨f0,f1,f2,_⟩:=hf p.1 hb
  obtain ⟨o,e',d⟩:=ho p.1 hb
  rw[e] at e';cases e'
  exact ⟨e,f0,f1,f2,d⟩
theorem Inv.unpinned {pins pl:List (Addr×Obj)}{σ:St}{H:Hp}{s:Shared}(I:Inv X (pins++pl) σ H s):Inv X pins σ H s:=I.pins_of fun p hp=>I.pin p (mem_append_right _ (mem_append_left _ hp))
theorem bw {iter:Expr}{body:List Stmt}{wi:TI}{g:TG}{tb:TS}{pos:Pos}(hp:PassesOwn (model X.prog X.w) X.A X.env X.xe)(hc:X.calm=true)(hi:PI X tg iter wi)(hg:PG X tg g)(hb:PSs X body tb)
  (hs:∀ x,foldedSetIterable iter X.env x=pure x:=by intro _;rfl):PS X (.For tg iter body [] pos) (tFor wi g tb):=by
 intro pins s σ H D I h
 refine wpAny_For (thn (hi pins s σ H _ I h) fun v s1 h1=>thn h1 fun itv s2 h2=>?_) hs
 obtain ⟨it,fp,tn,J,H2,e,I2,T,st2,f2,W,⟨m0,w0⟩,turn⟩:=h2
 subst e
 have stat:∀ {H':Hp},(∀ b∈fp,H' b=none)→∀ b∈fp,t9 X pins H' b:=fun hn b hb=>⟨hn b hb,(f2 b hb).2⟩
 refine codeAny_forLoop_any (fun n s'=>∃ i σ' H',Inv X pins σ' H' s'∧tn i s'.heap∧(∀ b∈fp,H' b=none)∧W i n σ' H') ?_ m0 ⟨0,σ,H2,I2,st2,fun b hb=>(f2 b hb).1,w0⟩
 rintro n s3 ⟨i,σ3,H3,I3,st3,fr3,w3⟩
 rcases turn i n σ3 H3 w3 with ⟨stop,qn⟩|⟨go,N,hN,step⟩
 ·refine wpAny_passesOwn hp (thn (T.done X rfl rfl rfl hc i pins s3 σ3 H3 X.xe I3 (stat fr3) st3 stop) fun r s4 ⟨hr,I4⟩=>?_)
  subst hr
  exact wpAny_execs_nil ⟨σ3,H3,I4,qn⟩
 ·refine wpAny_passesOwn hp (thn (T.item X rfl rfl rfl hc i pins s3 σ3 H3 X.xe I3 (stat fr3) st3 go) fun r s4 ⟨u,hr,h4⟩=>?_)
  subst hr
  refine wpAny_passesOwn hp (thn h4 fun _ s5 ⟨x,H5,I5,r5,y5,st5,fr5⟩=>?_)
  have I5':=I5.pinned (stat fr5) (T.obj _ _ st5)
  refine wpAny_passesOwn hp (thn (hg _ s5 σ3 H5 x u _ I5' r5 (step x H5 y5)) fun _ s6 ⟨σ6,H6,I6,q6⟩=>?_)
  refine wpAny_passesOwn hp (thn (hb _ s6 σ6 H6 _ I6 q6) fun f s7 q7=>?_)
  have again:∀ {σ7:St} {H7:Hp},Inv X (pins++nZ fp s5.heap) σ7 H7 s7→N σ7 H7→∃ m,m<n∧∃ i σ' H',Inv X pins σ' H' s7∧tn i s7.heap∧(∀ b∈fp,H' b=none)∧W i m σ' H':=fun {σ7 H7} I7 n7=>by
   obtain ⟨m',hm,w7⟩:=hN σ7 H7 n7
   refine ⟨m',hm,i+1,σ7,H7,I7.unpinned,T.keep _ _ _ st5 fun b hb o e=>(I7.pin (b,o) (mem_append_right _ (mem_append_right _ (i9 hb e)))).1,fun b hb=>?_,w7⟩
   obtain ⟨o,e,d⟩:=T.obj _ _ st5 b hb
   exact (I7.pin (b,o) (mem_append_right _ (mem_append_right _ (i9 hb e)))).2.1
  cases f with
  | next=>obtain ⟨σ7,H7,I7,n7⟩:=q7;exact again I7 n7
  | cont=>obtain ⟨σ7,H7,I7,n7⟩:=q7;exact again I7 n7
  | brk=>obtain ⟨σ7,H7,I7,q7⟩:=q7;exact ⟨σ7,H7,I7.unpinned,q7⟩
  | ret v=>obtain ⟨x7,σ7,H7,I7,r7,q7⟩:=q7;exact ⟨x7,σ7,H7,I7.unpinned,r7,q7⟩
end
theorem bj {K:Frag}{a:Addr}{xs:List V}{g:TG}{tb:TS}{D:xj}{σ:St}{H:Hp}(Pv:Nat→St→Hp→Prop)(h0:Pv 0 σ H)(hl:∀ i σ H,i≤xs.length→Pv i σ H→SqL K H a xs)
  (hs:∀ i x σ H,xs[i]?=some x→Pv i σ H→g x σ H fun σ2 H2=>tb {D with nx:=Pv (i+1),ct:=Pv (i+1),bk:=D.nx} σ2 H2)(hd:∀ σ H,Pv xs.length σ H→D.nx σ H):
  ∃ W:Nat→Nat→St→Hp→Prop,(∃ m,W 0 m σ H)∧∀ i m σ H,W i m σ H→
   ((Itl K a).stop i H∧D.nx σ H)∨((Itl K a).go i H∧∃ N:St→Hp→Prop,(∀ σ' H',N σ' H'→∃ m',m'<m∧W (i+1) m' σ' H')∧∀ x H',(Itl K a).yld i H x H'→g x σ H' fun σ2 H2=>tb {D with nx:=N,ct:=N,bk:=D.nx} σ2 H2):=by
 refine ⟨fun i m σ H=>m=xs.length-i∧i≤xs.length∧Pv i σ H,⟨xs.length,by simp,Nat.zero_le _,h0⟩,?_⟩
 rintro i m σ H ⟨rfl,hi,p⟩
 have q:=hl i σ H hi p
 by_cases hlt:i<xs.length
 ·refine .inr ⟨⟨xs,xs[i],q,by simp[hlt]⟩,Pv (i+1),fun σ' H' p'=>⟨xs.length-(i+1),by omega,rfl,hlt,p'⟩,fun x H' y=>?_⟩
  obtain ⟨e,y⟩:=y
  subst e
  exact hs i x σ _ (y xs q) p
 ·have e:i=xs.length:=by omega
  subst e
  exact .inl ⟨⟨xs,q,Nat.le_refl _⟩,hd σ H p⟩
theorem wG {lo:Int}{n:Nat}{g:TG}{tb:TS}{D:xj}{σ:St}{H:Hp}(Pv:Nat→St→Hp→Prop)(h0:Pv 0 σ H)
  (hs:∀ i σ H,i<n→Pv i σ H→g (.int (lo+i)) σ H fun σ2 H2=>tb {D with nx:=Pv (i+1),ct:=Pv (i+1),bk:=D.nx} σ2 H2)(hd:∀ σ H,Pv n σ H→D.nx σ H):
  ∃ W:Nat→Nat→St→Hp→Prop,(∃ m,W 0 m σ H)∧∀ i m σ H,W i m σ H→
   ((Itr lo n).stop i H∧D.nx σ H)∨((Itr lo n).go i H∧∃ N:St→Hp→Prop,(∀ σ' H',N σ' H'→∃ m',m'<m∧W (i+1) m' σ' H')∧∀ x H',(Itr lo n).yld i H x H'→g x σ H' fun σ2 H2=>tb {D with nx:=N,ct:=N,bk:=D.nx} σ2 H2):=by
 refine ⟨fun i m σ H=>m=n-i∧i≤n∧Pv i σ H,⟨n,by simp,Nat.zero_le _,h0⟩,?_⟩
 rintro i m σ H ⟨rfl,hi,p⟩
 by_cases hlt:i<n
 ·refine .inr ⟨hlt,Pv (i+1),fun σ' H' p'=>⟨n-(i+1),by omega,rfl,hlt,p'⟩,fun x H' y=>?_⟩
  obtain ⟨e,y⟩:=y
  subst e y
  exact hs i σ _ hlt p
 ·have e:i=n:=by omega
  subst e
  exact .inl ⟨Nat.le_refl _,hd σ H p⟩
end L2
namespace L2
open PySem PySem.Spec PyProof.Rows
abbrev R2:=V→V→Hp→VK→Prop
def OpR (X:Cx)(f:Value→Value→Sem Value)(r:R2):Prop:=
 ∀ (pins:List (Addr×Obj)) (s:Shared) (σ:St) (H:Hp) (x y:V) (v u:Value) (Q:VK),Inv X pins σ H s→cD x v→cD y u→r x y H Q→
  wpAny (model X.prog X.w) X.A (f v u) (EP X pins σ Q) X.xe s
def UnR (X:Cx)(f:Value→Sem Value)(r:V→Hp→VK→Prop):Prop:=
 ∀ (pins:List (Addr×Obj)) (s:Shared) (σ:St) (H:Hp) (x:V) (v:Value) (Q:VK),Inv X pins σ H s→cD x v→r x H Q→
  wpAny (model X.prog X.w) X.A (f v) (EP X pins σ Q) X.xe s
def jk (X:Cx)(f:Value)(r:List V→Hp→VK→Prop):Prop:=
 ∀ (pins:List (Addr×Obj)) (s:Shared) (σ:St) (H:Hp) (xs:List V) (us:List Value) (Q:VK),Inv X pins σ H s→bF xs us→r xs H Q→
  wpAny (model X.prog X.w) X.A (call f us) (EP X pins σ Q) X.xe s
def tOp (r:R2)(ta tb:TE):TE:=fun σ H Q=>ta σ H fun x H1=>tb σ H1 fun y H2=>r x y H2 Q
def tUn (r:V→Hp→VK→Prop)(ta:TE):TE:=fun σ H Q=>ta σ H fun x H1=>r x H1 Q
inductive rI (C:Int→Int→Prop) (g:Int→Int→V) (x:V) (y:V) (H:Hp) (Q:VK):Prop|mk (i j:_):x=.int i→y=.int j→C i j→Q (g i j) H→rI C g x y H Q
inductive rI0 (g:Int→Int→V) (x:V) (y:V) (H:Hp) (Q:VK):Prop|mk (i j:_):x=.int i→y=.int j→Q (g i j) H→rI0 g x y H Q
inductive rU (g:Int→V) (x:V) (H:Hp) (Q:VK):Prop|mk (i:_):x=.int i→Q (g i) H→rU g x H Q
section
variable {X:Cx} {a b c:Expr} {ta tb tc:TE} {pos:Pos}
theorem binT (ha:PE X a ta)(hb:PE X b tb){pins:List (Addr×Obj)}{s:Shared}{σ:St}{H:Hp}{R:V→V→Hp→Prop}(I:Inv X pins σ H s)
  (h:ta σ H fun x H1=>tb σ H1 fun y H2=>R x y H2){Q:Value→Shared→Prop}{f:Value→Value→Sem Value}
  (hf:∀ v u s2 x y H2,Inv X pins σ H2 s2→cD x v→cD y u→R x y H2→wpAny (model X.prog X.w) X.A (f v u) Q X.xe s2):
  wpAny (model X.prog X.w) X.A (eval a X.env) (fun v s₁=>wpAny (model X.prog X.w) X.A (eval b X.env) (fun u s₂=>wpAny (model X.prog X.w) X.A (f v u) Q X.xe s₂) X.xe s₁) X.xe s:=by
 refine thn (ha pins s σ H _ I h) fun v s1 ⟨x,H1,I1,r1,q1⟩=>?_
 refine thn (hb pins s1 σ H1 _ I1 q1) fun u s2 ⟨y,H2,I2,r2,q2⟩=>?_
 exact hf v u s2 x y H2 I2 r1 r2 q2
theorem dq {op:Operator}{r:R2}(ho:OpR X (binaryOp op) r)(ha:PE X a ta)(hb:PE X b tb):PE X (.BinOp a op b pos) (tOp r ta tb):=by
 intro pins s σ H Q I h
 exact wpAny_BinOp (binT ha hb I h fun v u s2 x y H2 I2 rx ry q=>ho pins s2 σ H2 x y v u Q I2 rx ry q)
theorem xK {op:UnaryOp}{r:V→Hp→VK→Prop}(ho:UnR X (unaryOp op) r)(ha:PE X a ta):PE X (.UnaryOp op a pos) (tUn r ta):=by
 intro pins s σ H Q I h
 exact UnaryOp_ (thn (ha pins s σ H _ I h) fun v s1 ⟨x,H1,I1,r1,q1⟩=>ho pins s1 σ H1 x v Q I1 r1 q1)
theorem opI {f:Value→Value→Sem Value}{C:Int→Int→Prop}{g:Int→Int→Int}
  (rule:∀ (i j:Int) (t u:Tok) (s:Shared) (Q:Value→Shared→Prop) (E:Value→Shared→Prop),C i j→Q (.int (g i j) s.toks) {s with toks:=s.toks+1}→wpAny (model X.prog X.w) X.A (f (.int i t) (.int j u)) Q E s):
  OpR X f (rI C fun i j=>.int (g i j)):=by
 intro pins s σ H x y v u Q I rx ry h
 obtain ⟨i,j,rfl,rfl,hc,q⟩:=h
 obtain ⟨t,rfl⟩:=rx
 obtain ⟨t',rfl⟩:=ry
 exact rule i j t t' s _ _ hc ⟨.int (g i j),H,I.tok _,⟨_,rfl⟩,q⟩
theorem opI0 {f:Value→Value→Sem Value}{g:Int→Int→Int}
  (rule:∀ (i j:Int) (t u:Tok) (s:Shared) (Q:Value→Shared→Prop) (E:Value→Shared→Prop),Q (.int (g i j) s.toks) {s with toks:=s.toks+1}→wpAny (model X.prog X.w) X.A (f (.int i t) (.int j u)) Q E s):
  OpR X f (rI0 fun i j=>.int (g i j)):=by
 intro pins s σ H x y v u Q I rx ry h
 obtain ⟨i,j,rfl,rfl,q⟩:=h
 obtain ⟨t,rfl⟩:=rx
 obtain ⟨t',rfl⟩:=ry
 exact rule i j t t' s _ _ ⟨.int (g i j),H,I.tok _,⟨_,rfl⟩,q⟩
theorem BT {f:Value→Value→Sem Value}{g:Int→Int→Bool}
  (rule:∀ (i j:Int) (t u:Tok) (s:Shared) (Q:Value→Shared→Prop) (E:Value→Shared→Prop),Q (.bool (g i j)) s→wpAny (model X.prog X.w) X.A (f (.int i t) (.int j u)) Q E s):
  OpR X f (rI0 fun i j=>.bl (g i j)):=by
 intro pins s σ H x y v u Q I rx ry h
 obtain ⟨i,j,rfl,rfl,q⟩:=h
 obtain ⟨t,rfl⟩:=rx
 obtain ⟨t',rfl⟩:=ry
 exact rule i j t t' s _ _ ⟨.bl (g i j),H,I,rfl,q⟩
def CDiv (i j:Int):Prop:=0<j∧j<1073741824
def CMul (i j:Int):Prop:=(-(2 ^ 64)<i∧i<2 ^ 64)∨(-(2 ^ 64)<j∧j<2 ^ 64)
theorem CMul.ok {i j:Int}(h:CMul i j):IntMulOk i j:=by
 rcases h with ⟨h1,h2⟩|⟨h1,h2⟩
 ·exact .of_left (intBits_le_64 h1 h2)
 ·exact .of_right (intBits_le_64 h1 h2)
theorem d9:OpR X (binaryOp .Add) (rI0 fun i j=>.int (i+j)):=opI0 fun _ _ _ _ _ _ _ q=>add_int q
theorem yW:OpR X (binaryOp .Sub) (rI0 fun i j=>.int (i-j)):=opI0 fun _ _ _ _ _ _ _ q=>sub_int q
theorem yY:OpR X (binaryOp .Mult) (rI CMul fun i j=>.int (i*j)):=opI fun _ _ _ _ _ _ _ hc q=>mul_int q hc.ok
theorem ql:OpR X (binaryOp .FloorDiv) (rI CDiv fun i j=>.int (i / j)):=opI fun i j _ _ _ _ _ hc q=>by
 have h1:(0:Int)<j:=hc.1
 have h2:j<1073741824:=hc.2
 exact floordiv_int (by omega) (by rw[Int.fdiv_eq_ediv_of_nonneg i (by omega)];exact q) (.inl (PyProof.noPylong_small (by omega)))
theorem vB:OpR X (binaryOp .Mod) (rI (fun _ j=>0<j) fun i j=>.int (i % j)):=opI fun i j _ _ _ _ _ hc q=>by
 have h1:(0:Int)<j:=hc
 exact mod_int' (by omega) (by rw[Int.fmod_eq_emod_of_nonneg i (by omega)];exact q)
theorem unI {f:Value→Sem Value}{g:Int→Int}
  (rule:∀ (i:Int) (t:Tok) (s:Shared) (Q:Value→Shared→Prop) (E:Value→Shared→Prop),Q (.int (g i) s.toks) {s with toks:=s.toks+1}→wpAny (model X.prog X.w) X.A (f (.int i t)) Q E s):
  UnR X f (rU fun i=>.int (g i)):=by
 intro pins s σ H x v Q I rx h
 obtain ⟨i,rfl,q⟩:=h
 obtain ⟨t,rfl⟩:=rx
 exact rule i t s _ _ ⟨.int (g i),H,I.tok _,⟨_,rfl⟩,q⟩
theorem qV:UnR X (unaryOp .USub) (rU fun i=>.int (-i)):=unI fun _ _ _ _ _ q=>neg_int q
end
def scal:V→V→Bool
 | .non,.non=>true|.non,.int _=>true|.int _,.non=>true|.non,.bl _=>true|.bl _,.non=>true|.non,.str _=>true|.str _,.non=>true
 | .int _,.int _=>true|.bl _,.bl _=>true|.str _,.str _=>true|.byt _,.byt _=>true
 | .int _,.str _=>true|.str _,.int _=>true|.bl _,.str _=>true|.str _,.bl _=>true
 | _,_=>false
def rEq:R2:=fun x y H Q=>scal x y=true∧Q (.bl (decide (x=y))) H
def rNe:R2:=fun x y H Q=>scal x y=true∧Q (.bl (!decide (x=y))) H
theorem wO {i j:Int}:decide (V.int i=V.int j)=(i==j):=by
 rw[Bool.eq_iff_iff]
 simp
theorem zc {i j:Bool}:decide (V.bl i=V.bl j)=(i==j):=by
 rw[Bool.eq_iff_iff]
 simp
theorem wN {i j:Str}:decide (V.str i=V.str j)=(i==j):=by
 rw[Bool.eq_iff_iff]
 simp
theorem wP {i j:Array UInt8}:decide (V.byt i=V.byt j)=(i.toList==j.toList):=by
 rw[Bool.eq_iff_iff]
 cases i
 cases j
 simp
section
variable {X:Cx} {a b c:Expr} {ta tb tc:TE} {pos:Pos}
theorem bq {pins:List (Addr×Obj)}{σ:St}{H:Hp}{s:Shared}{Q:VK}{k k':Bool}(I:Inv X pins σ H s)(q:Q (.bl k) H)(e:k=k'):EP X pins σ Q (.bool k') s:=by
 subst e
 exact ⟨.bl k,H,I,rfl,q⟩
theorem mO:OpR X (compareOp .Eq) rEq:=by
 intro pins s σ H x y v u Q I rx ry h
 obtain ⟨hs,q⟩:=h
 cases x with
 | non=>
  cases rx
  cases y with
  | non=>cases ry;exact PySem.EqNone.eq_none_none (bq I q (by simp))
  | bl j=>cases ry;exact PySem.EqNone.eq_none_bool (bq I q (by simp))
  | int j=>obtain ⟨t',rfl⟩:=ry;exact PySem.EqNone.eq_none_int (bq I q (by simp))
  | str j=>obtain ⟨t',rfl⟩:=ry;exact PySem.EqNone.eq_none_str (bq I q (by simp))
  | _=>exact absurd (show false=true from hs) Bool.false_ne_true
 | bl i=>
  cases rx
  cases y with
  | non=>cases ry;exact PySem.EqNone.eq_bool_none (bq I q (by simp))
  | bl j=>cases ry;exact eq_bool (bq I q zc)
  | str j=>obtain ⟨t',rfl⟩:=ry;exact PySem.EqMixed.eq_bool_str (bq I q (by simp))
  | _=>exact absurd (show false=true from hs) Bool.false_ne_true
 | int i=>
  obtain ⟨t,rfl⟩:=rx
  cases y with
  | non=>cases ry;exact PySem.EqNone.eq_int_none (bq I q (by simp))
  | int j=>obtain ⟨t',rfl⟩:=ry;exact eq_int (bq I q wO)
  | str j=>obtain ⟨t',rfl⟩:=ry;exact PySem.EqMixed.eq_int_str (bq I q (by simp))
  | _=>exact absurd (show false=true from hs) Bool.false_ne_true
 | str i=>
  obtain ⟨t,rfl⟩:=rx
  cases y with
  | non=>cases ry;exact PySem.EqNone.eq_str_none (bq I q (by simp))
  | bl j=>cases ry;exact PySem.EqMixed.eq_str_bool (bq I q (by simp))
  | int j=>obtain ⟨t',rfl⟩:=ry;exact PySem.EqMixed.eq_str_int (bq I q (by simp))
  | str j=>obtain ⟨t',rfl⟩:=ry;exact eq_str (bq I q wN)
  | _=>exact absurd (show false=true from hs) Bool.false_ne_true
 | byt i=>
  obtain ⟨t,rfl⟩:=rx
  cases y with
  | byt j=>obtain ⟨t',rfl⟩:=ry;exact PySem.W.eq_bytes (bq I q wP)
  | _=>exact absurd (show false=true from hs) Bool.false_ne_true
 | _=>cases y <;> exact absurd (show false=true from hs) Bool.false_ne_true
theorem xO:OpR X (compareOp .NotEq) rNe:=by
 intro pins s σ H x y v u Q I rx ry h
 obtain ⟨hs,q⟩:=h
 cases x with
 | non=>
  cases rx
  cases y with
  | non=>cases ry;exact PySem.EqNone.ne_none_none (bq I q (by simp))
  | bl j=>cases ry;exact PySem.EqNone.ne_none_bool (bq I q (by simp))
  | int j=>obtain ⟨t',rfl⟩:=ry;exact PySem.EqNone.ne_none_int (bq I q (by simp))
  | str j=>obtain ⟨t',rfl⟩:=ry;exact PySem.EqNone.ne_none_str (bq I q (by simp))
  | _=>exact absurd (show false=true from hs) Bool.false_ne_true
 | bl i=>
  cases rx
  cases y with
  | non=>cases ry;exact PySem.EqNone.ne_bool_none (bq I q (by simp))
  | bl j=>cases ry;exact ne_bool (bq I q (congrArg not zc))
  | str j=>obtain ⟨t',rfl⟩:=ry;exact PySem.EqMixed.ne_bool_str (bq I q (by simp))
  | _=>exact absurd (show false=true from hs) Bool.false_ne_true
 | int i=>
  obtain ⟨t,rfl⟩:=rx
  cases y with
  | non=>cases ry;exact PySem.EqNone.ne_int_none (bq I q (by simp))
  | int j=>obtain ⟨t',rfl⟩:=ry;exact ne_int (bq I q (congrArg not wO))
  | str j=>obtain ⟨t',rfl⟩:=ry;exact PySem.EqMixed.ne_int_str (bq I q (by simp))
  | _=>exact absurd (show false=true from hs) Bool.false_ne_true
 | str i=>
  obtain ⟨t,rfl⟩:=rx
  cases y with
  | non=>cases ry;exact PySem.EqNone.ne_str_none (bq I q (by simp))
  | bl j=>cases ry;exact PySem.EqMixed.ne_str_bool (bq I q (by simp))
  | int j=>obtain ⟨t',rfl⟩:=ry;exact PySem.EqMixed.ne_str_int (bq I q (by simp))
  | str j=>obtain ⟨t',rfl⟩:=ry;exact ne_str (bq I q (congrArg not wN))
  | _=>exact absurd (show false=true from hs) Bool.false_ne_true
 | byt i=>
  obtain ⟨t,rfl⟩:=rx
  cases y with
  | byt j=>obtain ⟨t',rfl⟩:=ry;exact PySem.W.ne_bytes (bq I q (congrArg not wP))
  | _=>exact absurd (show false=true from hs) Bool.false_ne_true
 | _=>cases y <;> exact absurd (show false=true from hs) Bool.false_ne_true
theorem vC:OpR X (compareOp .Lt) (rI0 fun i j=>.bl (decide (i<j))):=BT fun _ _ _ _ _ _ _ q=>lt_int q
theorem Af:OpR X (compareOp .LtE) (rI0 fun i j=>.bl (decide (i≤j))):=BT fun _ _ _ _ _ _ _ q=>le_int q
theorem qk:OpR X (compareOp .Gt) (rI0 fun i j=>.bl (decide (j<i))):=BT fun _ _ _ _ _ _ _ q=>gt_int q
theorem Bm:OpR X (compareOp .GtE) (rI0 fun i j=>.bl (decide (j≤i))):=BT fun _ _ _ _ _ _ _ q=>ge_int q
theorem Bl:OpR X (compareOp .Is) (fun x y H Q=>y=.non∧Q (.bl (decide (x=.non))) H):=by
 intro pins s σ H x y v u Q I rx ry h
 obtain ⟨rfl,q⟩:=h
 cases ry
 refine is_none_gen (bq I q ?_)
 cases x <;> first
  | (cases rx;rfl)
  | (obtain ⟨t,rfl⟩:=rx;rfl)
theorem vA:OpR X (compareOp .IsNot) (fun x y H Q=>y=.non∧Q (.bl (!decide (x=.non))) H):=by
 intro pins s σ H x y v u Q I rx ry h
 obtain ⟨rfl,q⟩:=h
 cases ry
 refine isnot_none_gen (bq I q ?_)
 cases x <;> first
  | (cases rx;rfl)
  | (obtain ⟨t,rfl⟩:=rx;rfl)
theorem be (b:Expr){op:CmpOp}(h:op≠.In:=by decide)(h2:op≠.NotIn:=by decide):behindInMarks op b=false:=by
 have e1:(op==CmpOp.In)=false:=by cases op <;> first|rfl|exact absurd rfl h
 have e2:(op==CmpOp.NotIn)=false:=by cases op <;> first|rfl|exact absurd rfl h2
 cases b <;> simp[behindInMarks,e1,e2]
theorem i5 {op:CmpOp}{r:R2}(ho:OpR X (compareOp op) r)(ha:PE X a ta)(hb:PE X b tb)(hm:behindInMarks op b=false):PE X (.Compare a [op] [b] pos) (tOp r ta tb):=by
 intro pins s σ H Q I h
 exact wpAny_Compare1 (binT ha hb I h fun v u s2 x y H2 I2 rx ry q=>ho pins s2 σ H2 x y v u Q I2 rx ry q) hm
def tTest (t:TE):TT:=fun σ H Q=>t σ H fun x H'=>∃ k,x=.bl k∧Q k H'
theorem aU {op:CmpOp}{r:R2}(ho:OpR X (compareOp op) r)(ha:PE X a ta)(hb:PE X b tb)(hm:behindInMarks op b=false):PT X (.Compare a [op] [b] pos) (tTest (tOp r ta tb)):=by
 intro pins s σ H Q I h
 refine wpAny_isTrue_Compare1 (thn (ha pins s σ H _ I h) fun v s1 ⟨x,H1,I1,r1,q1⟩=>thn (hb pins s1 σ H1 _ I1 q1) fun u s2 ⟨y,H2,I2,r2,q2⟩=>
  thn (ho pins s2 σ H2 x y v u _ I2 r1 r2 q2) fun c s3 ⟨z,H3,I3,r3,k,e,q3⟩=>?_) hm
 subst e
 cases r3
 exact wpAny_truthy_bool ⟨H3,I3,q3⟩
def AX (r r':R2)(ta tb tc:TE):TE:=fun σ H Q=>ta σ H fun x H1=>tb σ H1 fun y H2=>r x y H2 fun z H3=>∃ k,z=.bl k∧
 (if k=true then tc σ H3 fun w' H4=>r' y w' H4 Q else Q (.bl false) H3)
theorem xM {op op':CmpOp}{r r':R2}(ho:OpR X (compareOp op) r)(ho':OpR X (compareOp op') r')(ha:PE X a ta)(hb:PE X b tb)(hc:PE X c tc)
  (hm:lastMarks [op,op'] [b,c]=false:=by with_unfolding_all rfl):PE X (.Compare a [op,op'] [b,c] pos) (AX r r' ta tb tc):=by
 intro pins s σ H Q I h
 refine Compare_chain (thn (ha pins s σ H _ I h) fun v s1 ⟨x,H1,I1,r1,q1⟩=>chain_link (thn (hb pins s1 σ H1 _ I1 q1) fun u s2 ⟨y,H2,I2,r2,q2⟩=>
  thn (ho pins s2 σ H2 x y v u _ I2 r1 r2 q2) fun d s3 ⟨z,H3,I3,r3,k,e,q3⟩=>?_)) hm
 subst e
 cases r3
 refine wpAny_truthy_bool ?_
 cases k with
 | false=>exact ite_ff ⟨.bl false,H3,I3,rfl,q3⟩
 | true=>exact ite_tt (chain_last (thn (hc pins s3 σ H3 _ I3 q3) fun w' s4 ⟨z',H4,I4,r4,q4⟩=>ho' pins s4 σ H4 y z' u w' Q I4 r2 r4 q4))
theorem oq:(sizeLine:Nat)<2 ^ 63:=by rw[sizeLine_eq];decide
theorem uf {x:V}{us:List Value}(r:bF [x] us):∃ u,us=[u]∧cD x u:=by
 cases r with
 | cons r1 r2=>cases r2;exact ⟨_,rfl,r1⟩
theorem zl {x y:V}{us:List Value}(r:bF [x,y] us):∃ u w',us=[u,w']∧cD x u∧cD y w':=by
 cases r with
 | cons r1 r2=>
  cases r2 with
  | cons r3 r4=>cases r4;exact ⟨_,_,rfl,r1,r3⟩
theorem wX (hc:X.calm=true):jk X (.builtin "max") (fun xs H Q=>∃ i j,xs=[.int i,.int j]∧Q (.int (if j > i then j else i)) H):=by
 intro pins s σ H xs us Q I r h
 obtain ⟨i,j,rfl,q⟩:=h
 obtain ⟨u,w',rfl,⟨t,rfl⟩,⟨t',rfl⟩⟩:=zl r
 refine max_two_ints (I.ok.hd hc) fun h' tk k=>⟨_,H,I.kept k,?_,q⟩
 by_cases hj:j > i
 ·rw[if_pos hj,if_pos hj];exact ⟨_,rfl⟩
 ·rw[if_neg hj,if_neg hj];exact ⟨_,rfl⟩
theorem wW (hc:X.calm=true):jk X (.builtin "min") (fun xs H Q=>∃ i j,xs=[.int i,.int j]∧Q (.int (if j<i then j else i)) H):=by
 intro pins s σ H xs us Q I r h
 obtain ⟨i,j,rfl,q⟩:=h
 obtain ⟨u,w',rfl,⟨t,rfl⟩,⟨t',rfl⟩⟩:=zl r
 refine min_two_ints (I.ok.hd hc) fun h' tk k=>⟨_,H,I.kept k,?_,q⟩
 by_cases hj:j<i
 ·rw[if_pos hj,if_pos hj];exact ⟨_,rfl⟩
 ·rw[if_neg hj,if_neg hj];exact ⟨_,rfl⟩
end
end L2
namespace L2
open PySem PySem.Spec PyProof.Rows
structure AM (h:Heap)(x dx C:Addr)(mA:Str→Option Value):Prop where
 obj:h.get? x=some (instObj C dx)
 ns:h.Ns1 dx mA
 ne:dx≠x
theorem wf {h:Heap}{dx:Addr}{mA:Str→Option Value}(n:h.Ns1 dx mA):∃ od,h.get? dx=some od∧∀ name,PySem.W.lookIn name od=some (mA name):=by
 obtain ⟨o,es,ep,ho,hd,hk,_,hm⟩:=n
 refine ⟨o,ho,fun name=>?_⟩
 have e:=hm name
 unfold nsFind findBy at e
 rw[←Array.find?_toList] at e
 unfold PySem.W.lookIn
 rw[hd]
 dsimp only
 split
 ·rename_i y q
  rw[q] at e
  exact congrArg some e
 ·rename_i q
  rw[q] at e
  have a:es.toList.any (·.refKey)=false:=by
   rw[any_eq_false]
   intro y hy
   obtain ⟨z,t,hkey⟩:=hk y (Array.mem_toList_iff.mp hy)
   simp[DictEntry.refKey,hkey]
  have a':¬es.toList.any (·.refKey)=true:=by rw[a];exact Bool.false_ne_true
  rw[if_neg a']
  exact congrArg some e
theorem AM.look {h:Heap}{x dx C:Addr}{mA:Str→Option Value}(I:AM h x dx C mA):∃ od,PySem.W.InstAt h x (instObj C dx) C (some od)∧∀ name,PySem.W.lookIn name od=some (mA name):=
 let ⟨od,ho,hl⟩:=wf I.ns
 ⟨od,⟨I.obj,rfl,rfl,ho⟩,hl⟩
section
variable {prog:Program} {w:World} {A:Around} {E:Value→Shared→Prop} {s:Shared} {K:Frag} {x dx C f:Addr} {mA:Str→Option Value} {name:Str} {v:Value}
theorem Az {expr:Bool}{Q:Value→Shared→Prop}(X:K.In s.heap)(I:AM s.heap x dx C mA)(hg:plainGet K C name=true)(hh:hasDictIn K C=true)
  (ha:findIn K (.ref C) name=some none)(hv:mA name=some v)(hv':PySem.W.handedIn v=true)(h:Q v {s with toks:=s.toks+1}):
  wpAny (model prog w) A (getAttr (.ref x) name expr) Q E s:=by
 obtain ⟨od,J,hl⟩:=I.look
 exact PySem.W.get_value X J (PySem.W.plainGet_of hg).1 (PySem.W.findObj_own hh ha rfl (by rw[hl,hv])) hv' h
theorem yC {pl:Sem Bool}{Q:Value×List Value→Shared→Prop}(X:K.In s.heap)(I:AM s.heap x dx C mA)(hg:plainGet K C name=true)
  (hf:findIn K (.ref C) name=some (some (.ref f)))(ht:isFn K (.ref f)=true)(hv:mA name=none)(h:Q (.ref f,[.ref x]) s):
  wpAny (model prog w) A (getMethod (.ref x) name pl) Q E s:=by
 obtain ⟨od,J,hl⟩:=I.look
 exact PySem.W.method_fn X J (PySem.W.plainGet_of hg).1 (PySem.W.plainGet_of hg).2 hf (beq_iff_eq.mp ht) (by show (PySem.W.lookIn name od).map (·.isSome)=some false;rw[hl,hv];rfl) h
theorem zA {ns:List Str}{Q:Unit→Shared→Prop}(X:K.In s.heap)(I:AM s.heap x dx C mA)
  (hs:findIn K (.ref C) "__setattr__"=some (some (.builtin "object.__setattr__")))(hp:plainOver K C=true)(ht:takerIn K C name=some none)(hh:hasDictIn K C=true)
  (hw:PySem.Within mA ns)(hsz:ns.length≤sizeLine)
  (h:∀ h',AM h' x dx C (fun y=>if y=name then some v else mA y)→Heap.SameBut dx s.heap h'→Q () {s with heap:=h',toks:=s.toks+2}):
  wpAny (model prog w) A (setAttr (.ref x) name v) Q E s:=by
 obtain ⟨od,J,hl⟩:=I.look
 refine PySem.W.set_plain X J hs (PySem.W.osa_open (s:={s with toks:=s.toks+1}) (r:=none) X J hp ht fun b=>?_)
 obtain ⟨cd,hc,hd'⟩:=PySem.W.any_some hh
 have hx:s.heap.get? x=some ⟨.ref C,some dx,.plain,#[]⟩:=I.obj
 refine wpAny_bind (wpAny_pure (wpAny_bind (wpAny_bind (wpAny_loadPart hx (wpAny_bind (PySem.W.Looks.here (s:={s with toks:=s.toks+1}) (PySem.W.looks_clsIn X hc) ?_))))))
 rw[hd']
 refine wpAny_pure (a:=some dx) (wpAny_bind (wpAny_pure (wpAny_bind ?_)))
 refine wpAny_nsSet1 (s:={s with toks:=s.toks+1}) I.ns fun h' hn2 hs2=>?_
 obtain ⟨oD,esD,epD,hoD,hdD,hcD⟩:=hn2.count (PySem.Within.cons name v hw)
 refine wpAny_bind (wpAny_lookBehind hoD (by rw[hdD];exact pastItsLine_dict (Nat.le_trans hcD (by rw[length_cons];omega))) ?_)
 exact wpAny_pure (h _ ⟨(hs2.2 _ (Ne.symm I.ne)).trans I.obj,hn2,I.ne⟩ hs2)
theorem yu {R:Result→Shared→Prop}{vs:List Value}{kw:List (Str×Value)}(X:K.In s.heap)(hm:makesIn K C=true)
  (hi:findIn K (.ref C) "__init__"=some (some (.ref f)))(hf:PySem.W.typeIn K (.ref f)=some (.type "function"))
  (h:codeAny (model prog w) (A.under (.builtin "type.__call__" ⟨.ref C::vs,kw⟩)) (.call (.ref f) ⟨.ref (s.heap.objs.size+1)::vs,kw⟩) (PySem.W.InitBack (s.heap.objs.size+1) R)
   {s with heap:=(s.heap.push emptyDict).push (instObj C s.heap.objs.size)}):
  codeAny (model prog w) A (.call (.ref C) ⟨vs,kw⟩) R s:=by
 obtain ⟨hh,g,d,t,os⟩:=s
 exact PySem.W.make_core (PySem.W.makes_of X hm) (PySem.W.looks_findIn X hi) (fun self=>PySem.W.bind_fn X self hf) (.inl rfl) h
end
def gm (f:Str)(v:V):List (Str×V)→List (Str×V)
 | []=>[(f,v)]
 | (g,x)::r=>if g=f then (g,v)::r else (g,x)::gm f v r
theorem bh (f g:Str)(v:V):∀ fs:List (Str×V),(gm f v fs).lookup g=if g=f then some v else fs.lookup g
 | []=>by
  show List.lookup g [(f,v)]=_
  by_cases h:g=f
  ·have hb:(g==f)=true:=beq_iff_eq.mpr h
   simp only[List.lookup,hb,if_pos h]
  ·have hb:(g==f)=false:=beq_eq_false_iff_ne.mpr h
   simp only[List.lookup,hb,if_neg h]
 | (k,x)::r=>by
  have ih:=bh f g v r
  rw[show gm f v ((k,x)::r)=(if k=f then (k,v)::r else (k,x)::gm f v r) from rfl]
  by_cases hk:k=f
  ·rw[if_pos hk]
   by_cases h:g=k
   ·have hb:(g==k)=true:=beq_iff_eq.mpr h
    simp only[List.lookup,hb,if_pos (h.trans hk)]
   ·have hb:(g==k)=false:=beq_eq_false_iff_ne.mpr h
    simp only[List.lookup,hb,if_neg (fun e:g=f=>h (e.trans hk.symm))]
  ·rw[if_neg hk]
   by_cases h:g=k
   ·have hb:(g==k)=true:=beq_iff_eq.mpr h
    simp only[List.lookup,hb,if_neg (fun e:g=f=>hk (h.symm.trans e))]
   ·have hb:(g==k)=false:=beq_eq_false_iff_ne.mpr h
    simp only[List.lookup,hb]
    exact ih
theorem kL (f:Str)(v:V):∀ fs:List (Str×V),f∈(gm f v fs).map (·.1)∧∀ g,g∈fs.map (·.1)→g∈(gm f v fs).map (·.1)
 | []=>⟨by simp[gm],fun g h=>by simp at h⟩
 | (k,x)::r=>by
  obtain ⟨i1,i2⟩:=kL f v r
  rw[show gm f v ((k,x)::r)=(if k=f then (k,v)::r else (k,x)::gm f v r) from rfl]
  by_cases hk:k=f
  ·rw[if_pos hk]
   subst hk
   exact ⟨by simp,fun g h=>by simpa using h⟩
  ·rw[if_neg hk]
   refine ⟨?_,fun g h=>?_⟩
   ·rw[map_cons]
    exact mem_cons_of_mem _ i1
   ·rw[map_cons] at h ⊢
    rcases Mc h with e|e
    ·exact mem_cons.mpr (.inl e)
    ·exact mem_cons_of_mem _ (i2 g e)
theorem kH (f:Str)(v:V):∀ fs:List (Str×V),(gm f v fs).length≤fs.length+1
 | []=>by simp[gm]
 | (k,x)::r=>by
  have ih:=kH f v r
  rw[show gm f v ((k,x)::r)=(if k=f then (k,v)::r else (k,x)::gm f v r) from rfl]
  by_cases hk:k=f
  ·rw[if_pos hk,length_cons,length_cons];omega
  ·rw[if_neg hk,length_cons,length_cons];omega
theorem o0.some_of {v:V}{o:Option Value}(r:o0 (some v) o):∃ u,o=some u∧cD v u:=by
 cases o with
 | none=>exact (show False from r).elim
 | some u=>exact ⟨u,rfl,r⟩
theorem o0.none_of {o:Option Value}(r:o0 none o):o=none:=by
 cases o with
 | none=>rfl
 | some u=>exact (show False from r).elim
theorem wz {v:V}{u:Value}(r:cD v u):PySem.W.handedIn u=true:=by
 cases v with
 | non=>cases (show u=Value.none from r);rfl
 | bl b=>cases (show u=Value.bool b from r);rfl
 | int i=>obtain ⟨t,e⟩:=(show ∃ t,u=Value.int i t from r);cases e;rfl
 | str x=>obtain ⟨t,e⟩:=(show ∃ t,u=Value.str x t from r);cases e;rfl
 | byt b=>obtain ⟨t,e⟩:=(show ∃ t,u=Value.bytes b t from r);cases e;rfl
 | flt b=>obtain ⟨t,e⟩:=(show ∃ t,u=Value.float b t from r);cases e;rfl
 | ref a=>cases (show u=Value.ref a from r);rfl
 | ty n=>cases (show u=Value.type n from r);rfl
section
variable {P:Program} {w:World} {H H':Hp} {h h':Heap} {a C dx:Addr} {fs fs':List (Str×V)}
theorem qI (hok:HOk P w H h)(e:H a=some (.ins C dx fs)):∃ mA,AM h a dx C mA∧(∀ f,o0 (fs.lookup f) (mA f))∧PySem.Within mA (fs.map (·.1))∧fs.length≤1000∧H dx=some (.own a):=by
 obtain ⟨d,z,ne,ob,mA,n,r,q⟩:=(show df P w H h a (.ins C dx fs) from hok a _ e)
 exact ⟨mA,⟨ob,n,ne⟩,r,q,z,d⟩
end
structure Cls (K:Frag)(C:Addr):Prop where
 pg:plainGet K C Str.empty=true
 hd:hasDictIn K C=true
 po:plainOver K C=true
 sa:findIn K (.ref C) "__setattr__"=some (some (.builtin "object.__setattr__"))
theorem Cls.get {K:Frag}{C:Addr}(c:Cls K C)(f:Str):plainGet K C f=true:=c.pg
def cE (K:Frag)(C:Addr)(f:Str):Prop:=findIn K (.ref C) f=some none
theorem cE.taker {K:Frag}{C:Addr}{f:Str}(n:cE K C f):takerIn K C f=some none:=by
 unfold takerIn
 rw[show findIn K (.ref C) f=some none from n]
 rfl
structure Con (K:Frag)(C:Addr)(f:Str)(v:V)(u:Value):Prop where
 at_:findIn K (.ref C) f=some (some u)
 rel:cD v u
 get:PySem.W.specialIn K u "__get__"=some none
 cp:PySem.W.copiedNames.contains f=false
structure t7 (K:Frag)(C:Addr)(m:Str)(f:Addr):Prop where
 at_:findIn K (.ref C) m=some (some (.ref f))
 fn:isFn K (.ref f)=true
 kp:keepIn K (.ref f)=true
section
variable {X:Cx} {pins:List (Addr×Obj)} {σ:St} {H:Hp} {s:Shared} {a C dx:Addr} {fs:List (Str×V)} {f:Str} {v:V} {A:Around} {E:Value→Shared→Prop}
theorem tG {b:Bool}{Q:Value→Shared→Prop}(I:Inv X pins σ H s)(e:H a=some (.ins C dx fs))(c:Cls X.K C)(n:cE X.K C f)(l:fs.lookup f=some v)
  (h:∀ u s',Inv X pins σ H s'→cD v u→Q u s'):wpAny (model X.prog X.w) A (getAttr (.ref a) f b) Q E s:=by
 obtain ⟨mA,O,r,_,_,_⟩:=qI I.hok e
 obtain ⟨u,hu,ru⟩:=o0.some_of (v:=v) (o:=mA f) (by rw[←l];exact r f)
 exact Az I.kIn O (c.get f) c.hd n hu (wz ru) (h u _ (I.tok _) ru)
theorem lB {m:Str}{g:Addr}{pl:Sem Bool}{Q:Value×List Value→Shared→Prop}(I:Inv X pins σ H s)(e:H a=some (.ins C dx fs))(c:Cls X.K C)(k:t7 X.K C m g)(l:fs.lookup m=none)
  (h:Q (.ref g,[.ref a]) s):wpAny (model X.prog X.w) A (getMethod (.ref a) m pl) Q E s:=by
 obtain ⟨mA,O,r,_,_,_⟩:=qI I.hok e
 have hn:mA m=none:=o0.none_of (by rw[←l];exact r m)
 exact yC I.kIn O (c.get m) k.at_ k.fn hn h
theorem sA {y:V}{u:Value}{Q:Unit→Shared→Prop}(I:Inv X pins σ H s)(e:H a=some (.ins C dx fs))(c:Cls X.K C)(n:cE X.K C f)(hl:fs.length<1000)(ry:cD y u)
  (h:∀ s',Inv X pins σ (upd H a (.ins C dx (gm f y fs))) s'→Q () s'):wpAny (model X.prog X.w) A (setAttr (.ref a) f u) Q E s:=by
 obtain ⟨mA,O,r,wi,_,ho⟩:=qI I.hok e
 have hz:(fs.map (·.1)).length≤sizeLine:=by rw[length_map,sizeLine_eq];omega
 refine zA I.kIn O c.sa c.po n.taker c.hd wi hz fun h' O' sb=>h _ ?_
 have hd:∃ o,h'.get? dx=some o:=let ⟨o,_,_,e',_⟩:=O'.ns;⟨o,e'⟩
 refine I.write (x:=a) (e:=dx) (by rw[e];exact True.intro) (.inr ho) (fun b q hb z=>(sb.2 b hb).trans z) hd ?_
 refine ⟨by rw[ai O.ne];exact ho,?_,O.ne,O'.obj,_,O'.ns,fun g=>?_,fun g hg=>?_⟩
 ·have:=kH f y fs;omega
 ·show o0 ((gm f y fs).lookup g) (if g=f then some u else mA g)
  rw[bh]
  by_cases q:g=f
  ·rw[if_pos q,if_pos q];exact ry
  ·rw[if_neg q,if_neg q];exact r g
 ·by_cases q:g=f
  ·rw[q];exact (kL f y fs).1
  ·refine (kL f y fs).2 g (wi g fun z=>hg ?_)
   show (if g=f then some u else mA g)=none
   rw[if_neg q];exact z
theorem Inv.made (I:Inv X pins σ H s):Inv X pins σ (upd (upd H s.heap.objs.size (.own (s.heap.objs.size+1))) (s.heap.objs.size+1) (.ins C s.heap.objs.size []))
  {s with heap:=(s.heap.push emptyDict).push (instObj C s.heap.objs.size)}:=by
 have e1:(s.heap.push emptyDict).get? s.heap.objs.size=some emptyDict:=Heap.get?_push_size s.heap rfl
 have e2:((s.heap.push emptyDict).push (instObj C s.heap.objs.size)).get? (s.heap.objs.size+1)=some (instObj C s.heap.objs.size):=by
  have:=Heap.get?_push_size (s.heap.push emptyDict) (o:=instObj C s.heap.objs.size) rfl
  rwa [Heap.size_push] at this
 have e3:(s.heap.push emptyDict).Ns s.heap.objs.size (fun _=>none):=⟨emptyDict,#[],_,e1,rfl,(fun e he=>absurd he (by simp)),fun _=>rfl⟩
 have I1:=I.laid (a:=s.heap.objs.size) (o:=.own (s.heap.objs.size+1)) (h':=s.heap.push emptyDict) (t':=s.toks) (fun b u q=>Heap.get?_push_of_some _ q) (Nat.le_refl _) ⟨_,e1⟩
 refine I1.laid (a:=s.heap.objs.size+1) (o:=.ins C s.heap.objs.size []) (t':=s.toks) (fun b u q=>Heap.get?_push_of_some _ q) (Nat.le_of_eq (Heap.size_push _ _)) ?_
 have ne:s.heap.objs.size≠s.heap.objs.size+1:=Nat.ne_of_lt (Nat.lt_succ_self _)
 refine ⟨by rw[ai ne,ae],Nat.zero_le _,ne,e2,fun _=>none,(Heap.Ns1.of_empty e3).at fun o q=>Heap.get?_push_of_some _ q,fun _=>True.intro,fun y hy=>absurd rfl hy⟩
theorem AI {prog:Program}{w:World}{env:Env}{e:Expr}{f:Str}{pos:Pos}{s:Shared}{Q:Value→Shared→Prop}(hb:attributeBase e f env (eval e env)=eval e env)
  (h:wpAny (model prog w) A (eval e env) (fun o s₁=>wpAny (model prog w) A (getAttr o f true) Q E s₁) E s):wpAny (model prog w) A (eval (.Attribute e f pos) env) Q E s:=
 Attribute_any_ h (by rw[arm_eval_Attribute,hb])
end
def tFld (K:Frag)(ta:TE)(f:Str):TE:=fun σ H Q=>ta σ H fun x H1=>∃ a C dx fs v,x=.ref a∧H1 a=some (.ins C dx fs)∧Cls K C∧cE K C f∧fs.lookup f=some v∧Q v H1
def sFld (K:Frag)(ta tv:TE)(f:Str):TS:=fun D σ H=>tv σ H fun y H1=>ta σ H1 fun x H2=>∃ a C dx fs,x=.ref a∧H2 a=some (.ins C dx fs)∧Cls K C∧cE K C f∧fs.length<1000∧
 D.nx σ (upd H2 a (.ins C dx (gm f y fs)))
section
variable {X:Cx} {o e value:Expr} {f:Str} {pos pos' tpos:Pos} {ta tv:TE}
theorem bp (he:PE X e ta)(hb:attributeBase e f X.env (eval e X.env)=eval e X.env):PE X (.Attribute e f pos) (tFld X.K ta f):=by
 intro pins s σ H Q I h
 refine AI hb (thn (he pins s σ H _ I h) fun u s1 ⟨x,H1,I1,rx,a,C,dx,fs,v,ex,ea,c,n,l,q⟩=>?_)
 subst ex
 obtain rfl:u=Value.ref a:=rx
 exact tG I1 ea c n l fun u' s2 I2 ru=>⟨v,H1,I2,ru,q⟩
theorem jq (ha:PE X o ta)(hv:PE X value tv)(hs:swapsWith value (some (.Attribute o f pos')) pos.line X.env=pure false):PS X (.Assign [.Attribute o f pos'] value pos) (sFld X.K ta tv f):=by
 intro pins s σ H D I h
 refine plainObj_wpAny_Assign_Attribute (thn (hv pins s σ H _ I h) fun u s1 ⟨y,H1,I1,ry,q⟩=>thn (ha pins s1 σ H1 _ I1 q) fun ov s2 ⟨x,H2,I2,rx,a,C,dx,fs,ex,ea,c,n,l,q2⟩=>?_) hs
 subst ex
 obtain rfl:ov=Value.ref a:=rx
 exact sA I2 ea c n l ry fun s3 I3=>⟨σ,_,I3,q2⟩
theorem Ar {pl:Sem Bool}{m:Str}{apos:Pos}{args:List Expr}{pins:List (Addr×Obj)}{s:Shared}{σ:St}{H:Hp}{Q:Value→Shared→Prop}{te:TE}(he:PE X e te)(I:Inv X pins σ H s)
  (h:te σ H fun x H1=>∃ a C dx fs g,x=.ref a∧H1 a=some (.ins C dx fs)∧Cls X.K C∧t7 X.K C m g∧fs.lookup m=none∧
   ∀ s1,Inv X pins σ H1 s1→wpAny (model X.prog X.w) X.A (callWith pos (.ref g) [.ref a] (backTo pos (starEach args X.env)) (backToKw pos (keywordEach [] X.env))) Q X.xe s1)
  (ht:eval (.Call (.Attribute e m apos) args [] pos) X.env=(do
   let ov ← eval e X.env
   standAt apos.atName
   let (f,first) ← holding [ov] (getMethod ov m pl)
   callWith pos f first (backTo pos (starEach args X.env)) (backToKw pos (keywordEach [] X.env)))):
  wpAny (model X.prog X.w) X.A (eval (.Call (.Attribute e m apos) args [] pos) X.env) Q X.xe s:=by
 refine PySem.W.methodCall_KW (pl:=pl) (thn (he pins s σ H _ I h) fun u s1 ⟨x,H1,I1,rx,a,C,dx,fs,g,ex,ea,c,k,l,q⟩=>?_) ht
 subst ex
 obtain rfl:u=Value.ref a:=rx
 exact lB I1 ea c k l (q s1 I1)
end
section
variable {X:Cx} {pins:List (Addr×Obj)} {σ:St} {H:Hp} {s:Shared} {A:Around} {E:Value→Shared→Prop} {Q:Value→Shared→Prop} {c:Value} {b:Bool}
inductive xf (K:Frag) (H:Hp):V→Value→Prop where
 | non:xf K H .non (.type "NoneType")
 | bl (x:Bool):xf K H (.bl x) (.type "bool")
 | int (i:Int):xf K H (.int i) (.type "int")
 | str (x:Str):xf K H (.str x) (.type "str")
 | flt (x:UInt64):xf K H (.flt x) (.type "float")
 | lst {a:Addr} {xs:List V} (e:H a=some (.lst xs)):xf K H (.ref a) (.type "list")
 | frz {a:Addr} {o:Obj} {xs:List V} (e:H a=some (.frz o (.lst xs))):xf K H (.ref a) (.type "list")
 | tup {a:Addr} {xs:List V} (e:H a=some (.tup xs)):xf K H (.ref a) (.type "tuple")
 | dK {a:Addr} {kvs:List (Key×V)} (e:H a=some (.dK kvs)):xf K H (.ref a) (.type "dict")
 | dT {a:Addr} {kvs:List (List Key×V)} (e:H a=some (.dT kvs)):xf K H (.ref a) (.type "dict")
 | ins {a C dx:Addr} {fs:List (Str×V)} (e:H a=some (.ins C dx fs)) (cl:Cls K C) (ha:findIn K (.ref C) "__class__"=some (some (.builtin "object.__class__")))
   (hn:PySem.W.specialIn K (.builtin "object.__class__") "__get__"=some (some (.builtin "getset_descriptor.__get__"))) (htk:PySem.W.takesIn K (.builtin "object.__class__")=some true)
   (hm:PySem.W.mroIn K C (.type "object")=some true):xf K H (.ref a) (.ref C)
end
end L2
namespace L2
open PySem PySem.Spec PyProof.Rows
structure bO (k:Nat)(A:Around):Prop where
 hd:A.handled=none
 dp:A.depth+3*k+5<recursionLimit
 un:A.units+16*k+200<cLine
theorem bO.mono {j k:Nat}{A:Around}(r:bO k A)(h:j≤k):bO j A:=⟨r.hd,by have:=r.dp;omega,by have:=r.un;omega⟩
theorem bO.deeper {k:Nat}{A:Around}(r:bO (k+1) A)(env:Env):bO k (A.deeper env):=
 ⟨r.hd,by have:=r.dp;show A.depth+1+3*k+5<_;omega,by have:=r.un;show A.units+3+16*k+200<_;omega⟩
theorem tD {A:Around}{C:Addr}{us:List Value}{kw:List (Str×Value)}:(A.under (.builtin "type.__call__" ⟨.ref C::us,kw⟩)).depth=A.depth+1:=by
 first|rfl|simp[Around.under,Code.weight,Code.isCreation,Code.isGuard,Code.isCaller,Code.frames,Code.isFrame,guardIds]
theorem tz {A:Around}{C:Addr}{us:List Value}{kw:List (Str×Value)}:(A.under (.builtin "type.__call__" ⟨.ref C::us,kw⟩)).units=A.units+1:=by
 first|rfl|simp[Around.under,Code.cUnits,Code.frames,Code.isFrame]
theorem bO.make {k:Nat}{A:Around}(r:bO (k+1) A)(C:Addr)(us:List Value)(kw:List (Str×Value)):bO k (A.under (.builtin "type.__call__" ⟨.ref C::us,kw⟩)):=
 ⟨r.hd,by have:=r.dp;rw[tD];omega,by have:=r.un;rw[tz];omega⟩
theorem bO.depth {k:Nat}{A:Around}(r:bO k A):A.depth<recursionLimit:=by have:=r.dp;omega
theorem bO.units {k:Nat}{A:Around}(r:bO k A):A.units+64<cLine:=by have:=r.un;omega
def tNil:TA:=fun _ H Q=>Q [] H
def tCons (ta:TE)(tr:TA):TA:=fun σ H Q=>ta σ H fun x H1=>tr σ H1 fun xs H2=>Q (x::xs) H2
section
variable {X:Cx} {e:Expr} {es:List Expr} {te:TE} {t:TA} {pos:Pos}
theorem af:PA X [] tNil:=fun _ _ _ _ H Q I h=>Calls.spliced_nil ⟨[],H,I,.nil,h⟩
theorem aa (ha:PE X e te)(hr:PA X es t)(hs:starEach (e::es) X.env=(false,eval e X.env)::starEach es X.env:=by rfl):PA X (e::es) (tCons te t):=by
 intro pos pins s σ H Q I h
 rw[hs]
 show wpAny _ _ (spliced ((false,eval e X.env)::backTo pos (starEach es X.env))) _ _ s
 refine Calls.spliced_cons (thn (ha pins s σ H _ I h) fun u s1 ⟨x,H1,I1,r1,q1⟩=>?_)
 exact thn (hr pos pins s1 σ H1 _ I1 q1) fun us s2 ⟨xs,H2,I2,r2,q2⟩=>⟨x::xs,H2,I2,.cons r1 r2,q2⟩
def tLst (t:TA):TE:=fun σ H Q=>t σ H fun xs H1=>xs.length≤sizeLine∧∀ p,H1 p=none→Q (.ref p) (upd H1 p (.lst xs))
theorem aV (h:PA X es t):PE X (.List es pos) (tLst t):=by
 intro pins s σ H Q I hq
 refine wpAny_List_spliced (thn (h pos pins s σ H _ I hq) fun us s1 ⟨xs,H1,I1,r,z,q⟩=>⟨by rw[←r.length];exact z,?_⟩)
 have hf:H1 s1.heap.objs.size=none:=I1.hok.fresh (Nat.le_refl _)
 refine ⟨.ref s1.heap.objs.size,upd H1 s1.heap.objs.size (.lst xs),I1.laid (t':=s1.toks) (fun b u e=>Heap.get?_push_of_some _ e) (Nat.le_refl _) ?_,rfl,q _ hf⟩
 exact ⟨z,us,0,r,Heap.get?_push_size _ rfl⟩
end
abbrev Sp:=List V→Hp→VK→XK→Prop
abbrev CXT:=List Env→Hp→Shared→XK→Value→Shared→Prop
structure AN (P:Program)(w:World)(K:Frag)(mg:Str→Option Value)(base:Heap)(A:Around)(outer:List Env)(s:Shared)(H:Hp):Prop where
 frames:A.frames=some outer
 mod:Mod K mg base
 bs:∀ b o,base.get? b=some o→s.heap.get? b=some o∧H b=none
 bsz:base.objs.size≤s.heap.objs.size
 funs:s.heap.FunFrames base outer
 frf:∀ b∈frs outer,H b=none
 hok:HOk P w H s.heap
 bare:AllBare s.gens
def CE (outer:List Env)(P:Program)(w:World)(H:Hp)(s:Shared)(Q:VK)(u:Value)(s':Shared):Prop:=
 ∃ v H',s'.os=s.os∧AllBare s'.gens∧Un (frs outer) [] H H' s.heap s'.heap∧HOk P w H' s'.heap∧cD v u∧Q v H'
def CR (CX:CXT)(outer:List Env)(P:Program)(w:World)(H:Hp)(s:Shared)(Q:VK)(E:XK)(r:Result)(s':Shared):Prop:=
 match r with
 | .ok (.ret u)=>CE outer P w H s Q u s'
 | .ok _=>False
 | .error e=>CX outer H s E e s'
structure aZ (P:Program)(w:World)(K:Frag)(mg:Str→Option Value)(base:Heap)(CX:CXT)(k:Nat)(f:Addr)(fd:FuncData)(ps:List Str)(sp:Sp):Prop where
 len:∀ vs H Q E,sp vs H Q E→vs.length=ps.length
 run:∀ (A:Around) (outer:List Env) (s:Shared) (H:Hp) (args:Args) (us:List Value) (vs:List V) (Q:VK) (E:XK),bO k A→AN P w K mg base A outer s H→BindsTo s fd args (ps.zip us)→bF vs us→sp vs H Q E→
  codeAny (model P w) A (.call (.ref f) args) (CR CX outer P w H s Q E) s
theorem aZ.mono {P:Program}{w:World}{K:Frag}{mg:Str→Option Value}{base:Heap}{CX:CXT}{j k:Nat}{f:Addr}{fd:FuncData}{ps:List Str}{sp:Sp}(F:aZ P w K mg base CX j f fd ps sp)(h:j≤k):
  aZ P w K mg base CX k f fd ps sp:=⟨F.len,fun A outer s H args us vs Q E hr=>F.run A outer s H args us vs Q E (hr.mono h)⟩
theorem AN.make {P:Program}{w:World}{K:Frag}{mg:Str→Option Value}{base:Heap}{A:Around}{outer:List Env}{s:Shared}{H:Hp}(e:AN P w K mg base A outer s H)(C:Addr)(us:List Value)(kw:List (Str×Value)):
  AN P w K mg base (A.under (.builtin "type.__call__" ⟨.ref C::us,kw⟩)) outer s H:=⟨by first|exact e.frames|(simpa [Around.under,Code.envs,Code.isFrame,pushEnvs] using e.frames),e.mod,e.bs,e.bsz,e.funs,e.frf,e.hok,e.bare⟩
section
variable {X:Cx} {pins:List (Addr×Obj)} {σ:St} {H:Hp} {s s':Shared}
theorem Inv.env0 (I:Inv X pins σ H s):AN X.prog X.w X.K X.mg X.base X.A X.stack s H:=
 ⟨I.ok.frames,I.ok.mod,I.bs,Nat.le_trans I.ok.bsz I.sz,I.stack,I.stkFree,I.hok,I.bare⟩
theorem Inv.after {Q:VK}{u:Value}(I:Inv X pins σ H s)(h:CE X.stack X.prog X.w H s Q u s'):EP X pins σ Q u s':=by
 obtain ⟨v,H',os,bare,un,hok,r,q⟩:=h
 obtain ⟨hh,g,d,t,os'⟩:=s'
 obtain rfl:os'=s.os:=os
 exact ⟨v,H',I.call (h':=hh) (g':=g) (d':=d) (t':=t) (ch:=[]) un hok bare (fun b z=>absurd z (by simp)),r,q⟩
end
def AY (sp:Sp)(dvs:List V)(E:XK)(t:TA):TE:=fun σ H Q=>t σ H fun vs H1=>sp (vs++dvs) H1 Q E
def tMeth (C:Addr)(m:Str)(sp:Sp)(dvs:List V)(E:XK)(ta:TE)(t:TA):TE:=fun σ H Q=>ta σ H fun x H1=>∃ a dx fs,x=.ref a∧H1 a=some (.ins C dx fs)∧fs.lookup m=none∧
 t σ H1 fun vs H2=>sp (x::(vs++dvs)) H2 Q E
def AU (C:Addr)(sp:Sp)(dvs:List V)(E:XK)(t:TA):TE:=fun σ H Q=>t σ H fun vs H1=>∀ x dx,H1 x=none→H1 dx=none→dx≠x→
 sp (.ref x::(vs++dvs)) (upd (upd H1 dx (.own x)) x (.ins C dx [])) (fun v H2=>v=.non∧Q (.ref x) H2) E
def d4 (K:Frag)(fd:FuncData)(ps:List Str)(ds:List Value):Prop:=
 ∀ (s:Shared) (us:List Value),K.In s.heap→(us++ds).length=ps.length→BindsTo s fd ⟨us,[]⟩ (ps.zip (us++ds))
theorem d4.all {K:Frag}{fd:FuncData}{ps:List Str}(h:∀ us:List Value,us.length=ps.length→bindArgs fd ⟨us,[]⟩=pure (ps.zip us)):d4 K fd ps []:=fun s us _ hl=>by
 rw[append_nil] at hl ⊢
 exact .of_eq (h us hl)
def lP (CX:CXT)(X:Cx)(E:XK):Prop:=∀ (pins:List (Addr×Obj)) (σ:St) (H:Hp) (s:Shared) (e:Value) (s':Shared),Inv X pins σ H s→CX X.stack H s E e s'→X.xe e s'
section
variable {X:Cx} {CX:CXT} {k:Nat} {f C:Addr} {fd:FuncData} {ps:List Str} {sp:Sp} {dvs:List V} {ds:List Value} {E:XK} {x m:Str} {p pos apos:Pos} {e o:Expr} {es:List Expr} {ta:TE} {t:TA}
theorem uX {pins:List (Addr×Obj)}{σ:St}{H:Hp}{s:Shared}{Q:VK}{us:List Value}{vs:List V}(F:aZ X.prog X.w X.K X.mg X.base CX k f fd ps sp)(hr:bO k X.A)(hb:d4 X.K fd ps ds)(hd:bF dvs ds)(hx:lP CX X E)
  (I:Inv X pins σ H s)(r:bF vs us)(h:sp (vs++dvs) H Q E):wpAny (model X.prog X.w) X.A (call (.ref f) us) (EP X pins σ Q) X.xe s:=by
 have r2:bF (vs++dvs) (us++ds):=r.append hd
 have hl:(us++ds).length=ps.length:=by rw[←r2.length];exact F.len _ _ _ _ h
 refine wpAny_call (codeAny_mono (F.run X.A X.stack s H ⟨us,[]⟩ (us++ds) (vs++dvs) Q E hr I.env0 (hb s us I.kIn hl) r2 h) fun r s' hq=>?_)
 cases r with
 | error e=>exact hx pins σ H s e s' I hq
 | ok fl=>
  cases fl with
  | ret u=>exact I.after hq
  | next=>exact False.elim hq
  | brk=>exact False.elim hq
  | cont=>exact False.elim hq
theorem kq {pl:Sem Bool}(he:PE X o ta)(c:Cls X.K C)(hm:t7 X.K C m f)(F:aZ X.prog X.w X.K X.mg X.base CX k f fd ps sp)(hr:bO k X.A)(hb:d4 X.K fd ps ds)(hd:bF dvs ds)(hx:lP CX X E)(ha:PA X (e::es) t)
  (hst:starEach (e::es) X.env=(false,eval e X.env)::starEach es X.env:=by rfl)(hpl:(backTo pos (starEach es X.env)).any (·.1)=false:=by rfl)
  (ht:eval (.Call (.Attribute o m apos) (e::es) [] pos) X.env=(do
   let ov ← eval o X.env
   standAt apos.atName
   let (f,first) ← holding [ov] (getMethod ov m pl)
   callWith pos f first (backTo pos (starEach (e::es) X.env)) (backToKw pos (keywordEach [] X.env))):=by rfl):
  PE X (.Call (.Attribute o m apos) (e::es) [] pos) (tMeth C m sp dvs E ta t):=by
 intro pins s σ H Q I h
 refine PySem.W.methodCall_KW (pl:=pl) (thn (he pins s σ H _ I h) fun u s1 ⟨x,H1,I1,rx,a,dx,fs,ex,ea,l,q⟩=>?_) ht
 subst ex
 obtain rfl:u=Value.ref a:=rx
 refine lB I1 ea c hm l ?_
 refine PySem.W.callWith_K (first:=[.ref a]) (h₀:=X.base) I.ok.mod.kin hm.kp (thn (ha pos pins s1 σ H1 _ I1 q) fun us s2 ⟨vs,H2,I2,r,q2⟩=>⟨I2.kIn,?_⟩) hst hpl
 exact uX (us:=.ref a::us) (vs:=.ref a::vs) F hr hb hd hx I2 (.cons rfl r) q2
structure Mk (K:Frag)(C f:Addr):Prop where
 makes:makesIn K C=true
 init:findIn K (.ref C) "__init__"=some (some (.ref f))
 fn:isFn K (.ref f)=true
 kp:keepIn K (.ref C)=true
theorem rc {pins:List (Addr×Obj)}{σ:St}{H:Hp}{s:Shared}{Q:VK}{us:List Value}{vs:List V}(M:Mk X.K C f)(F:aZ X.prog X.w X.K X.mg X.base CX k f fd ps sp)(hr:bO (k+1) X.A)(hb:d4 X.K fd ps ds)(hd:bF dvs ds)
  (hx:lP CX X E)(I:Inv X pins σ H s)(r:bF vs us)
  (h:∀ x dx,H x=none→H dx=none→dx≠x→sp (.ref x::(vs++dvs)) (upd (upd H dx (.own x)) x (.ins C dx [])) (fun v H2=>v=.non∧Q (.ref x) H2) E):
  wpAny (model X.prog X.w) X.A (call (.ref C) us) (EP X pins σ Q) X.xe s:=by
 have hq:=h (s.heap.objs.size+1) s.heap.objs.size (I.hok.fresh (Nat.le_succ _)) (I.hok.fresh (Nat.le_refl _)) (Nat.ne_of_lt (Nat.lt_succ_self _))
 have I2:=Inv.made (C:=C) I
 have r2:bF (V.ref (s.heap.objs.size+1)::(vs++dvs)) (Value.ref (s.heap.objs.size+1)::(us++ds)):=.cons rfl (r.append hd)
 have hl:(Value.ref (s.heap.objs.size+1)::us++ds).length=ps.length:=by
  have e:=r2.length
  rw[F.len _ _ _ _ hq] at e
  exact e.symm
 refine wpAny_call (yu (f:=f) I.kIn M.makes M.init (beq_iff_eq.mp M.fn) (codeAny_mono (F.run _ X.stack _ _ ⟨Value.ref (s.heap.objs.size+1)::us,[]⟩ (Value.ref (s.heap.objs.size+1)::(us++ds)) _ _ E (hr.make C us [])
  (I2.env0.make C us []) (hb _ (Value.ref (s.heap.objs.size+1)::us) I2.kIn hl) r2 hq) fun r s' hq'=>?_))
 cases r with
 | error e=>exact hx pins σ _ _ e s' I2 hq'
 | ok fl=>
  cases fl with
  | ret u=>
   obtain ⟨v,H',I3,rv,ev,q3⟩:=I2.after hq'
   subst ev
   exact ⟨rv,⟨V.ref (s.heap.objs.size+1),H',I3,rfl,q3⟩⟩
  | next=>exact False.elim hq'
  | brk=>exact False.elim hq'
  | cont=>exact False.elim hq'
theorem qh (M:Mk X.K C f)(F:aZ X.prog X.w X.K X.mg X.base CX k f fd ps sp)(hr:bO (k+1) X.A)(hg:Gl X x)(hm:X.mg x=some (.ref C))(hb:d4 X.K fd ps ds)(hd:bF dvs ds)(hx:lP CX X E)
  (ha:PA X (e::es) t)(hdb:(x==("__debug__":Str))=false:=by decide)(he:starEach (e::es) X.env=(false,eval e X.env)::starEach es X.env:=by rfl)(hpl:(backTo pos (starEach es X.env)).any (·.1)=false:=by rfl):
  PE X (.Call (.Name x p) (e::es) [] pos) (AU C sp dvs E t):=by
 intro pins s σ H Q I h
 refine wpAny_Call_Name_kw (mW I hg hm ?_ hdb)
 refine PySem.W.callWith_K (h₀:=X.base) I.ok.mod.kin M.kp (thn (ha pos pins s σ H _ I h) fun us s1 ⟨vs,H1,I1,r,q⟩=>⟨I1.kIn,?_⟩) he hpl
 exact rc M F hr hb hd hx I1 r q
theorem xL (M:Mk X.K C f)(F:aZ X.prog X.w X.K X.mg X.base CX k f fd ps sp)(hr:bO (k+1) X.A)(hg:Gl X x)(hm:X.mg x=some (.ref C))(hb:d4 X.K fd ps ds)(hd:bF dvs ds)(hx:lP CX X E)
  (hdb:(x==("__debug__":Str))=false:=by decide):PE X (.Call (.Name x p) [] [] pos) (AU C sp dvs E tNil):=by
 intro pins s σ H Q I h
 refine wpAny_Call_Name_kw (mW I hg hm ?_ hdb)
 exact PySem.W.callWith_K0 I.kIn M.kp (rc (us:=[]) M F hr hb hd hx I .nil h)
end
section
variable {X:Cx} {CX:CXT} {k:Nat} {f C:Addr} {fd:FuncData} {ps ks:List Str} {sp:Sp} {E:XK} {x m:Str} {p pos apos kpos:Pos} {e o:Expr} {es:List Expr} {kws:List Keyword} {te ta:TE} {t tk:TA} {nm:Option Str}
structure KBinds (K:Frag)(fd:FuncData)(ps ks:List Str)(g:List Value→List Value→List Value)(gV:List V→List V→List V):Prop where
 to:∀ (s:Shared) (us ws:List Value),K.In s.heap→(g us ws).length=ps.length→BindsTo s fd ⟨us,ks.zip ws⟩ (ps.zip (g us ws))
 rel:∀ {vs:List V} {us:List Value} {zs:List V} {ws:List Value},bF vs us→bF zs ws→bF (gV vs zs) (g us ws)
variable {g:List Value→List Value→List Value} {gV:List V→List V→List V}
end
structure ao (N P:List Str)(sc:Scope):Prop where
 kind:sc.kind=.function
 co:sc.isCoroutine=false
 gen:sc.isGenerator=false
 nd:N.Nodup
 pre:N.take P.length=P
 par:∀ x∈P,sc.names.lookup x=some .local∨sc.names.lookup x=some .cell
 nofree:∀ y∈sc.names,y.2≠.free
theorem oQ {kindOf:Str→Option NameKind}{x:Str}:∀ {binds:List (Str×Value)} {m:Str→Option Value},(∀ v,(x,v)∉binds)→bindL kindOf binds m x=m x
 | [],_,_=>rfl
 | (n,v)::r,m,h=>by
  unfold bindL
  rw[oQ fun w hw=>h w (mem_cons_of_mem _ hw)]
  split
  ·have:x≠n:=by rintro rfl;exact h v mem_cons_self
   simp[this]
  ·rfl
theorem oS {kindOf:Str→Option NameKind}{x:Str}:∀ {binds:List (Str×Value)} {m:Str→Option Value},(∀ v,(x,v)∉binds)→bindC kindOf binds m x=m x
 | [],_,_=>rfl
 | (n,v)::r,m,h=>by
  unfold bindC
  rw[oS fun w hw=>h w (mem_cons_of_mem _ hw)]
  split
  ·rfl
  ·have:x≠n:=by rintro rfl;exact h v mem_cons_self
   simp[this]
theorem oR {kindOf:Str→Option NameKind}{x:Str}{v:Value}:∀ {P:List Str} {vs:List Value} {i:Nat} {m:Str→Option Value},P.Nodup→P[i]?=some x→vs[i]?=some v→kindOf x=some .local→
  bindL kindOf (P.zip vs) m x=some v
 | [],_,_,_,_,h,_,_=>by simp at h
 | _::_,[],_,_,_,_,h,_=>by simp at h
 | p::P,w::vs,0,m,nd,h1,h2,hk=>by
  simp at h1 h2;subst h1;subst h2
  show bindL kindOf ((p,w)::P.zip vs) m p=_
  unfold bindL
  rw[oQ fun v hv=>(nodup_cons.mp nd).1 (of_mem_zip hv).1,if_pos hk]
  simp
 | p::P,w::vs,i+1,m,nd,h1,h2,hk=>by
  show bindL kindOf ((p,w)::P.zip vs) m x=_
  unfold bindL
  exact oR (i:=i) (nodup_cons.mp nd).2 (by simpa using h1) (by simpa using h2) hk
theorem oT {kindOf:Str→Option NameKind}{x:Str}{v:Value}:∀ {P:List Str} {vs:List Value} {i:Nat} {m:Str→Option Value},P.Nodup→P[i]?=some x→vs[i]?=some v→kindOf x≠some .local→
  bindC kindOf (P.zip vs) m x=some v
 | [],_,_,_,_,h,_,_=>by simp at h
 | _::_,[],_,_,_,_,h,_=>by simp at h
 | p::P,w::vs,0,m,nd,h1,h2,hk=>by
  simp at h1 h2;subst h1;subst h2
  show bindC kindOf ((p,w)::P.zip vs) m p=_
  unfold bindC
  rw[oS fun v hv=>(nodup_cons.mp nd).1 (of_mem_zip hv).1,if_neg hk]
  simp
 | p::P,w::vs,i+1,m,nd,h1,h2,hk=>by
  show bindC kindOf ((p,w)::P.zip vs) m x=_
  unfold bindC
  exact oT (i:=i) (nodup_cons.mp nd).2 (by simpa using h1) (by simpa using h2) hk
def start (N:List Str)(vs:List V):St:=vs.map some++List.replicate (N.length-vs.length) none
def AF (CX:CXT)(P:Program)(w:World)(K:Frag)(mg:Str→Option Value)(base:Heap)(N:List Str)(qual:Str)(scope:Scope)(f:Addr)(cd:Value)(A:Around)(outer:List Env)(s:Shared)(H:Hp)(E:XK):Cx where
 prog:=P
 w:=w
 K:=K
 mg:=mg
 base:=base
 A:=A.deeper (envOfC qual scope s.heap.objs.size f cd)
 N:=N
 s_0:=s
 H_0:=H
 env:=envOfC qual scope s.heap.objs.size f cd
 outer:=outer
 stack:=envOfC qual scope s.heap.objs.size f cd::outer
 ex:=[]
 calm:=true
 fn:=fun _=>true
 pn:=[]
 xe:=fun e s'=>wpAny (model P w) (A.deeper (envOfC qual scope s.heap.objs.size f cd)) (leaving (envOfC qual scope s.heap.objs.size f cd) e) (fun _ s''=>CX outer H s E e s'') (fun e' s''=>CX outer H s E e' s'') s'
theorem rX {sc:Scope}{n:Nat}{x:Str}(h:sc.names.lookup x=some .cell):∃ c,(cellsFrom n sc.names []).lookup x=some c:=by
 have q:=PySem.W.cellsFrom_some sc.names n [] (.inl h)
 exact Option.isSome_iff_exists.mp q
theorem ww {CX:CXT}{P:Program}{w:World}{K:Frag}{mg:Str→Option Value}{base:Heap}{N ps:List Str}{qual:Str}{scope:Scope}{f:Addr}{cd:Value}{A:Around}{outer:List Env}{s s1:Shared}{H:Hp}{E:XK}{us:List Value}{vs:List V}
  (S:ao N ps scope)(hd:A.handled=none)(e0:AN P w K mg base A outer s H)(hl:vs.length=ps.length)(r:bF vs us)
  (x:InCallC s s.heap.objs.size (bindL (envOfC qual scope s.heap.objs.size f cd).kindOf (ps.zip us) fun _=>none) (cellsFrom (s.heap.objs.size+1) scope.names []) (bindC (envOfC qual scope s.heap.objs.size f cd).kindOf (ps.zip us) fun _=>none) s1):
  Inv (AF CX P w K mg base N qual scope f cd A outer s H E) [] (start N vs) H s1:=by
 have hpl:ps.length≤N.length:=by have:=congrArg List.length S.pre;rw[length_take] at this;omega
 obtain ⟨h1,tk,rfl,hk⟩:=x.done
 have noA:∀ b:Addr,b∉(AF CX P w K mg base N qual scope f cd A outer s H E).ex:=fun b z=>absurd (show b∈([]:List Addr) from z) (by simp)
 refine ⟨⟨e0.mod,S.kind,rfl,rfl,Nat.le_refl _,fun y z c h1 h2=>?_,fun y hy=>?_,fun y c _ h=>?_,fun _=>hd,Around.frames_deeper e0.frames,.inr ⟨rfl,rfl⟩,fun b z=>absurd z (noA b),e0.bs,e0.bsz,fun b _ _=>noA b,fun b z=>absurd z (noA b),e0.funs,e0.frf⟩,
  rfl,e0.bare,Un.kept hk,⟨_,x.toInCall.ns,fun i y v h1 h2 h3=>?_⟩,fun y c h=>⟨_,x.cell y c h⟩,e0.hok.fresh (Nat.le_refl _),fun y c h=>?_,fun p hp=>absurd (show p∈([]:List (Addr×Obj)) from hp) (by simp),e0.hok.kept hk,?_⟩
 ·exact name_of_addr x.apart (PySem.mem_of_lookup h1) (PySem.mem_of_lookup h2)
 ·have hy:scope.names.lookup y=some .cell∨scope.names.lookup y=some .free:=hy
  rcases hy with hy|hy
  ·exact rX hy
  ·exact absurd rfl (S.nofree _ (PySem.mem_of_lookup hy))
 ·exact Nat.le_of_lt (x.above y c (PySem.mem_of_lookup h))
 ·have hi:i<vs.length:=by
   unfold start at h2
   by_cases hi:i<vs.length
   ·exact hi
   ·rw[getElem?_append_right (by simpa using hi)] at h2
    rw[getElem?_replicate] at h2
    split at h2 <;> cases h2
  have ha:vs[i]?=some v:=by
   unfold start at h2
   rw[getElem?_append_left (by simpa using hi),getElem?_map] at h2
   cases e:vs[i]? with
   | none=>rw[e] at h2;cases h2
   | some a=>rw[e] at h2;cases h2;rfl
  obtain ⟨u,hu,rv⟩:=r.get ha
  have hp:ps[i]?=some y:=by
   rw[←S.pre,getElem?_take_of_lt (by omega)];exact h1
  have ndP:ps.Nodup:=by rw[←S.pre];exact S.nd.sublist (take_sublist _ _)
  refine ⟨u,rv,?_⟩
  rcases S.par y (mem_of_getElem? hp) with k|k
  ·exact .inl ⟨k,oR ndP hp hu k⟩
  ·obtain ⟨c,e⟩:=rX (n:=s.heap.objs.size+1) k
   refine .inr ⟨.inl k,c,e,?_⟩
   have q:=x.cell y c e
   rw[oT ndP hp hu (by show scope.names.lookup y≠_;rw[k];decide)] at q
   exact q
 ·exact e0.hok.fresh (Nat.le_of_lt (x.above y c (PySem.mem_of_lookup h)))
 ·unfold start
  show _=N.length
  rw[length_append,length_map,length_replicate]
  omega
theorem fn_of {CX:CXT}{P:Program}{w:World}{K:Frag}{mg:Str→Option Value}{base:Heap}{k:Nat}{f:Addr}{name qual:Str}{params:Arguments}{body:List Stmt}{scope:Scope}{dV kV doc pm cdv ct oc:Value}{an od:Option Addr}
  {osl:Array (Option Value)}{N ps:List Str}{sp:Sp}(lk:K.lookup f=some ⟨oc,od,.func (fnOf name qual params body scope dV kV doc pm an cdv ct),osl⟩)(hcd:codeIn K cdv qual=true)(S:ao N ps scope)
  (len:∀ vs H Q E,sp vs H Q E→vs.length=ps.length)
  (hbody:∀ (A:Around) (outer:List Env) (s:Shared) (H:Hp) (vs:List V) (Q:VK) (E:XK),bO k (A.deeper (envOfC qual scope s.heap.objs.size f cdv))→sp vs H Q E→
   ∃ t,PSs (AF CX P w K mg base N qual scope f cdv A outer s H E) body t∧t {nx:=fun _ H'=>Q .non H',rt:=Q} (start N vs) H):
  aZ P w K mg base CX (k+1) f (fnOf name qual params body scope dV kV doc pm an cdv ct) ps sp:=by
 refine ⟨len,fun A outer s H args us vs Q E hr e0 hb r hsp=>?_⟩
 have hl:=len _ _ _ _ hsp
 have KX:K.In s.heap:=e0.mod.kin.keeps fun b o e=>(e0.bs b o e).1
 have lim:s.heap.NoLimit:=e0.mod.nolimit.keeps fun b o e=>(e0.bs b o e).1
 have hkind:∀ y∈ps.zip us,scope.names.lookup y.1=some .local∨(scope.names.lookup y.1=some .cell∧((cellsFrom (s.heap.objs.size+1) scope.names []).lookup y.1).isSome=true):=fun ⟨n,v⟩ hy=>by
  rcases S.par n (of_mem_zip hy).1 with q|q
  ·exact .inl q
  ·exact .inr ⟨q,PySem.W.cellsFrom_some _ _ _ (.inl q)⟩
 refine codeAny_call_function hr.depth (KX _ _ lk) rfl S.co S.gen rfl (PySem.W.codeRec_of KX hcd) (hb _ _ _ _ ?_)
 refine wpAny_newFunctionEnv_cells S.kind hkind fun env he s1 x=>?_
 subst he
 refine ⟨lim.keeps x.toInCall.keep,codeAny_func ?_⟩
 obtain ⟨t,ht,hq⟩:=hbody A outer s H vs Q E (hr.deeper _) hsp
 have I:Inv (AF CX P w K mg base N qual scope f cdv A outer s H E) [] (start N vs) H s1:=ww S hr.hd e0 hl r x
 refine wpAny_mono (ht [] s1 (start N vs) H _ I hq) (fun fl s' hs=>?_) fun e s' hs=>hs
 have fin:∀ {σ':St} {H':Hp} {v:V} {u:Value},Inv (AF CX P w K mg base N qual scope f cdv A outer s H E) [] σ' H' s'→cD v u→Q v H'→CE outer P w H s Q u s':=
  fun {σ' H' v u} J rv q=>⟨v,H',J.os,J.bare,J.base,J.hok,rv,q⟩
 cases fl with
 | ret u=>
  obtain ⟨v,σ',H',J,rv,q⟩:=hs
  exact fin J rv q
 | next=>
  obtain ⟨σ',H',J,q⟩:=hs
  exact fin (v:=V.non) (u:=Value.none) J rfl q
 | brk=>
  obtain ⟨_,_,_,q⟩:=hs
  exact False.elim q
 | cont=>
  obtain ⟨_,_,_,q⟩:=hs
  exact False.elim q
end L2
namespace L2
open PySem PySem.Spec PyProof.Rows
section
variable {X:Cx} {x:Str} {p pos:Pos} {e:Expr} {es:List Expr} {t:TA} {id T:String} {r:List V→Hp→VK→Prop}
def tCB (r:List V→Hp→VK→Prop)(t:TA):TE:=fun σ H Q=>t σ H fun vs H1=>r vs H1 Q
theorem aA (hc:jk X (.builtin id) r)(hg:Gl X x)(hm:X.mg x=none)(hv:bootBuiltins x=some (.builtin id))(ha:PA X (e::es) t)(hn:x≠"__name__":=by decide)(hdb:(x==("__debug__":Str))=false:=by decide)
  (he:starEach (e::es) X.env=(false,eval e X.env)::starEach es X.env:=by rfl)(hpl:(backTo pos (starEach es X.env)).any (·.1)=false:=by rfl):PE X (.Call (.Name x p) (e::es) [] pos) (tCB r t):=by
 intro pins s σ H Q I h
 refine wpAny_Call_Name_kw (iK I hg hm hv ?_ hn hdb)
 exact PyProof.Rows.callWith_builtin1 (thn (ha pos pins s σ H _ I h) fun us s1 ⟨vs,H1,I1,r1,q1⟩=>hc pins s1 σ H1 vs us Q I1 r1 q1) he hpl
theorem cu (hc:jk X (.type T) r)(hg:Gl X x)(hm:X.mg x=none)(hv:bootBuiltins x=some (.type T))(ha:PA X (e::es) t)(hn:x≠"__name__":=by decide)(hdb:(x==("__debug__":Str))=false:=by decide)
  (he:starEach (e::es) X.env=(false,eval e X.env)::starEach es X.env:=by rfl)(hpl:(backTo pos (starEach es X.env)).any (·.1)=false:=by rfl):PE X (.Call (.Name x p) (e::es) [] pos) (tCB r t):=by
 intro pins s σ H Q I h
 refine wpAny_Call_Name_kw (iK I hg hm hv ?_ hn hdb)
 exact PyProof.Rows.callWith_type1 (thn (ha pos pins s σ H _ I h) fun us s1 ⟨vs,H1,I1,r1,q1⟩=>hc pins s1 σ H1 vs us Q I1 r1 q1) he hpl
end
end L2
namespace HT
open PySem PyProof.Rows
section
open PySem.SeqAt
open PySem.AutoSeq1 (wpAny_loadPart')
open PySem.MeetsSeq PySem.MeetsSeq2 PySem.MeetsSeq3
end
section
variable {prog:Program} {w:World} {A:Around} {E:Value→Shared→Prop} {s:Shared}
def sIx (n d:Nat):Option Int→Nat
 | none=>d
 | some v=>if v<0 then (v+(n:Int)).toNat else min v.toNat n
theorem sIx_nat (n d k:Nat):sIx n d (some (k:Int))=min k n:=by
 show (if (k:Int)<0 then ((k:Int)+(n:Int)).toNat else min (k:Int).toNat n)=min k n
 rw[if_neg (by omega),Int.toNat_natCast]
end
end HT
namespace L2
open PySem PySem.Spec PyProof.Rows
abbrev TO:=St→Hp→(Option Int→Hp→Prop)→Prop
def PO (X:Cx)(e:Option Expr)(t:TO):Prop:=
 ∀ (pins:List (Addr×Obj)) (s:Shared) (σ:St) (H:Hp) (Q:Option Int→Hp→Prop),Inv X pins σ H s→t σ H Q→
  wpAny (model X.prog X.w) X.A (evalPart e X.env) (fun u s'=>∃ o H',Inv X pins σ H' s'∧IsPart u o∧Q o H') X.xe s
def zr:TO:=fun _ H Q=>Q none H
def tPart (t:TE):TO:=fun σ H Q=>t σ H fun x H1=>∃ i,x=.int i∧Q (some i) H1
section
variable {X:Cx} {e:Expr} {te:TE} {lo hi:Option Expr} {tl th:TO} {pos p2:Pos}
theorem z9:PO X none zr:=by
 intro pins s σ H Q I h
 rw[evalPart_none]
 exact wpAny_pure ⟨none,H,I,.none,h⟩
theorem ko (h:PE X e te):PO X (some e) (tPart te):=by
 intro pins s σ H Q I hw
 rw[evalPart_some]
 refine thn (h pins s σ H _ I hw) fun u s1 ⟨x,H1,I1,r1,q1⟩=>?_
 obtain ⟨i,rfl,q⟩:=q1
 obtain ⟨t,rfl⟩:=r1
 exact ⟨some i,H1,I1,.int i t,q⟩
def SlR (X:Cx)(r:V→Option Int→Option Int→Hp→VK→Prop):Prop:=
 ∀ (pins:List (Addr×Obj)) (s:Shared) (σ:St) (H:Hp) (x:V) (v vl vu:Value) (lo hi:Option Int) (sl:Addr) (Q:VK),Inv X pins σ H s→cD x v→s.heap.IsSliceOf sl vl vu .none→IsPart vl lo→IsPart vu hi→r x lo hi H Q→
  ∃ T id,typeLookup (.type T) "__getitem__"=pure (some (.builtin id))∧s.TypeIs v T∧wpAny (model X.prog X.w) X.A (getItem v (.ref sl)) (EP X pins σ Q) X.xe s
def tSl (r:V→Option Int→Option Int→Hp→VK→Prop)(te:TE)(tl th:TO):TE:=fun σ H Q=>te σ H fun x H1=>tl σ H1 fun l H2=>th σ H2 fun u H3=>r x l u H3 Q
theorem mK {r:V→Option Int→Option Int→Hp→VK→Prop}(hr:SlR X r)(he:PE X e te)(hl:PO X lo tl)(hu:PO X hi th):PE X (.Subscript e (.Slice lo hi none p2) pos) (tSl r te tl th):=by
 intro pins s σ H Q I h
 refine Subscript_ (thn (he pins s σ H _ I h) fun v s1 ⟨x,H1,I1,r1,q1⟩=>?_)
 refine wpAny_Slice (thn (hl pins s1 σ H1 _ I1 q1) fun vl s2 ⟨l,H2,I2,pl,q2⟩=>thn (hu pins s2 σ H2 _ I2 q2) fun vu s3 ⟨u,H3,I3,pu,q3⟩=>?_)
 rw[evalPart_none]
 refine wpAny_pure ?_
 have I4:Inv X pins σ H3 {s3 with heap:=s3.heap.push {cls:=.type "slice",data:=.fields #[vl,vu,.none]}}:=I3.kept (t':=s3.toks) fun b ob q=>Heap.get?_push_of_some _ q
 obtain ⟨T,id,hT,ht,hg⟩:=hr pins {s3 with heap:=s3.heap.push {cls:=.type "slice",data:=.fields #[vl,vu,.none]}} σ H3 x v vl vu l u s3.heap.objs.size Q I4 r1 (Heap.IsSliceOf.new ..) pl pu q3
 show wpAny (model X.prog X.w) X.A (subscriptTail e (.Slice lo hi none p2) v (.ref s3.heap.objs.size)) (EP X pins σ Q) X.xe {s3 with heap:=s3.heap.push {cls:=.type "slice",data:=.fields #[vl,vu,.none]}}
 exact tail_any (ops:=[.ref s3.heap.objs.size,v]) ht hT hg (by with_unfolding_all rfl)
def rS (xs:List V)(lo hi:Option Int):List V:=(xs.drop (HT.sIx xs.length 0 lo)).take (HT.sIx xs.length xs.length hi-HT.sIx xs.length 0 lo)
theorem qN (xs:List V)(lo hi:Option Int):(rS xs lo hi).length≤xs.length:=by
 unfold rS
 rw[length_take,length_drop]
 omega
end
end L2
namespace L2
open PySem PySem.Spec PyProof.Rows
def ixN (n:Nat)(i:Int):Option Nat:=if 0≤i then (if i<n then some i.toNat else none) else if -(n:Int)≤i then some (i+n).toNat else none
def atI {α:Type}(xs:List α)(i:Int):Option α:=(ixN xs.length i).bind fun j=>xs[j]?
theorem wq {n:Nat}{i:Int}{j:Nat}(h:ixN n i=some j):seqIndex? i n=some j∧j<n∧-(n:Int)≤i∧i<n:=by
 unfold ixN at h
 by_cases h0:0≤i
 ·rw[if_pos h0] at h
  by_cases h1:i<n
  ·rw[if_pos h1] at h
   have e:i.toNat=j:=Oi h
   exact ⟨by rw[seqIndex_of h0 h1,e],by omega,by omega,h1⟩
  ·rw[if_neg h1] at h;cases h
 ·rw[if_neg h0] at h
  by_cases h1:-(n:Int)≤i
  ·rw[if_pos h1] at h
   have e:(i+n).toNat=j:=Oi h
   exact ⟨by rw[seqIndex_neg (by omega) h1,e],by omega,h1,by omega⟩
  ·rw[if_neg h1] at h;cases h
theorem w9 {α:Type}{xs:List α}{i:Int}{v:α}(h:atI xs i=some v):∃ j,seqIndex? i xs.length=some j∧xs[j]?=some v∧j<xs.length∧-(xs.length:Int)≤i∧i<xs.length:=by
 unfold atI at h
 cases e:ixN xs.length i with
 | none=>rw[e] at h;cases h
 | some j=>
  rw[e] at h
  obtain ⟨h1,h2,h3,h4⟩:=wq e
  exact ⟨j,h1,h,h2,h3,h4⟩
theorem aw {α:Type}{xs:List α}{j:Nat}{v:α}(h:xs[j]?=some v):atI xs (j:Int)=some v:=by
 have hj:j<xs.length:=(Gq h).1
 have e:ixN xs.length (j:Int)=some j:=by
  unfold ixN
  rw[if_pos (by omega),if_pos (by omega)];simp
 unfold atI;rw[e];exact h
theorem r8 {α:Type}(xs:List α)(v:α):atI (xs++[v]) (-1)=some v:=by
 have hl:(xs++[v]).length=xs.length+1:=by simp
 have e:ixN (xs++[v]).length (-1)=some xs.length:=by
  unfold ixN
  rw[hl,if_neg (by decide),if_pos (by omega)]
  congr 1
  omega
 unfold atI
 rw[e]
 show (xs++[v])[xs.length]?=some v
 simp
def dZ (b:Expr):Prop:=∀ o i,subscripted b false o i=operate [o,i] (getItem o i)
def IxR (X:Cx)(r:R2):Prop:=
 ∀ (value slice:Expr) (pins:List (Addr×Obj)) (s:Shared) (σ:St) (H:Hp) (x y:V) (v u:Value) (Q:VK),Inv X pins σ H s→cD x v→cD y u→r x y H Q→
  subscripted slice false v u=operate [v,u] (getItem v u)→wpAny (model X.prog X.w) X.A (subscriptTail value slice v u) (EP X pins σ Q) X.xe s
def MtR (X:Cx)(id:String)(r:V→List V→Hp→VK→Prop):Prop:=
 ∀ (pins:List (Addr×Obj)) (s:Shared) (σ:St) (H:Hp) (x:V) (xs:List V) (v:Value) (us:List Value) (Q:VK),Inv X pins σ H s→cD x v→bF xs us→r x xs H Q→
  wpAny (model X.prog X.w) X.A (call (.builtin id) (v::us)) (EP X pins σ Q) X.xe s
section
variable {X:Cx} {a b:Expr} {ta tb:TE} {pos:Pos}
theorem aL {r:R2}(hr:IxR X r)(ha:PE X a ta)(hb:PE X b tb)(hs:dZ b):PE X (.Subscript a b pos) (tOp r ta tb):=by
 intro pins s σ H Q I h
 exact Subscript_ (binT ha hb I h fun v u s2 x y H2 I2 rx ry q=>hr a b pins s2 σ H2 x y v u Q I2 rx ry q (hs _ _))
inductive xE (K:Frag) (x:V) (y:V) (H:Hp) (Q:VK):Prop|mk (p xs i v:_):x=.ref p→y=.int i→SqL K H p xs→atI xs i=some v→Q v H→xE K x y H Q
inductive rIxT (K:Frag) (x:V) (y:V) (H:Hp) (Q:VK):Prop|mk (p xs i v:_):x=.ref p→y=.int i→SqT K H p xs→atI xs i=some v→Q v H→rIxT K x y H Q
theorem ay:IxR X (xE X.K):=by
 intro value slice pins s σ H x y v u Q I rx ry h hs
 obtain ⟨p,xs,i,z,rfl,rfl,hq,he,q⟩:=h
 cases rx
 obtain ⟨t,rfl⟩:=ry
 obtain ⟨its,r,pl,hz⟩:=I.list hq
 obtain ⟨j,h1,h2,h3,h4,h5⟩:=w9 he
 obtain ⟨w,ew,rw'⟩:=r.get h2
 have hl:=r.length
 have hn:=oq
 have fin:EP X pins σ Q w s:=⟨z,H,I,rw',q⟩
 by_cases h0:0≤i
 ·have hj:i.toNat=j:=by
   rw[seqIndex_of h0 h5] at h1
   exact Oi h1
  exact item_listR pl.isList h0 (by omega) (by rw[hj];simpa using ew) fin hs
 ·have hj:(i+(its.toArray.size:Int)).toNat=j:=by
   rw[seqIndex_neg (by omega) h4] at h1
   rw[size_toArray,←hl]
   exact Oi h1
  exact subscriptTail_builtinR (x:=w) pl.isList.typeIs slot_list_getitem.lookup
   (wpAny_getItem_list_neg (Q:=fun r s'=>r=w∧EP X pins σ Q r s') pl.isList (by omega) (by rw[size_toArray] <;> omega) (by omega) (by rw[hj];simpa using ew) ⟨rfl,fin⟩) hs
theorem lv:IxR X (rIxT X.K):=by
 intro value slice pins s σ H x y v u Q I rx ry h hs
 obtain ⟨p,xs,i,z,rfl,rfl,hq,he,q⟩:=h
 cases rx
 obtain ⟨t,rfl⟩:=ry
 obtain ⟨its,r,pl,hz⟩:=I.tuple hq
 obtain ⟨j,h1,h2,h3,h4,h5⟩:=w9 he
 obtain ⟨w,ew,rw'⟩:=r.get h2
 have hl:=r.length
 have hn:=oq
 have fin:EP X pins σ Q w s:=⟨z,H,I,rw',q⟩
 exact subscriptTail_builtinR (x:=w) pl.typeIs slot_tuple_getitem.lookup
  (getItem_tuple (j:=j) (Q:=fun r s'=>r=w∧EP X pins σ Q r s') pl (by omega) (by omega) (by rw[size_toArray,←hl];exact h1) (by simpa using ew) ⟨rfl,fin⟩) hs
theorem tw (its:List Value)(n j:Nat)(u:Value):Obj.mapSeq (·.setIfInBounds j u) {cls:=.type "list",data:=.seq its.toArray n}={cls:=.type "list",data:=.seq (its.set j u).toArray n}:=by
 simp[Obj.mapSeq]
theorem Inv.lst {pins:List (Addr×Obj)}{σ:St}{H:Hp}{s:Shared}{p:Addr}{xs:List V}(I:Inv X pins σ H s)(h:H p=some (.lst xs)):
  ∃ (its:List Value) (n:Nat),bF xs its∧s.heap.get? p=some {cls:=.type "list",data:=.seq its.toArray n}∧xs.length≤sizeLine:=by
 obtain ⟨z,its,n,r,e⟩:=I.hok p _ h
 exact ⟨its,n,r,e,z⟩
theorem Inv.lstUpd {pins:List (Addr×Obj)}{σ:St}{H:Hp}{s:Shared}{p:Addr}{xs ys:List V}{its its':List Value}{n n':Nat}{f:Obj→Obj}(I:Inv X pins σ H s)(h:H p=some (.lst xs))
  (ho:s.heap.get? p=some {cls:=.type "list",data:=.seq its.toArray n})(hf:f {cls:=.type "list",data:=.seq its.toArray n}={cls:=.type "list",data:=.seq its'.toArray n'})(r:bF ys its')(hz:ys.length≤sizeLine)(t:Nat):
  Inv X pins σ (upd H p (.lst ys)) {s with heap:=s.heap.update p f,toks:=t}:=by
 have e:(s.heap.update p f).get? p=some {cls:=.type "list",data:=.seq its'.toArray n'}:=by
  rw[Heap.get?_update_self f ho (by rw[hf] <;> rfl),hf]
 refine I.write (x:=p) (e:=p) (by rw[h];trivial) (.inl rfl) (fun b u hb q=>(Heap.get?_update_other _ _ (Ne.symm hb)).trans q) ⟨_,e⟩ ?_
 exact ⟨hz,its',n',r,e⟩
inductive Be (o:V) (i:V) (v:V) (H:Hp) (Q:Hp→Prop):Prop|mk (p xs k j:_):o=.ref p→i=.int k→H p=some (.lst xs)→ixN xs.length k=some j→Q (upd H p (.lst (xs.set j v)))→Be o i v H Q
theorem iu:PSet X Be:=by
 intro pins s σ H o i v ov iv u Q I ro ri rv h
 obtain ⟨p,xs,k,j,rfl,rfl,hp,hj,q⟩:=h
 cases ro
 obtain ⟨t,rfl⟩:=ri
 obtain ⟨its,n,r,ho,hz⟩:=I.lst hp
 obtain ⟨h1,h2,h3,h4⟩:=wq hj
 have hl:=r.length
 have hn:=oq
 have I':Inv X pins σ (upd H p (.lst (xs.set j v))) {s with heap:=s.heap.update p (Obj.mapSeq (·.setIfInBounds j u))}:=
  I.lstUpd hp ho (tw its n j u) (r.set rv j) (by rw[length_set];exact hz) s.toks
 by_cases h0:0≤k
 ·have hk:k.toNat=j:=by
   rw[seqIndex_of h0 h4] at h1
   exact Oi h1
  exact PySem.W.ki_setAt ho h0 (by omega) (by rw[size_toArray,←hl];exact h4) (by rw[hk];exact ⟨_,I',q⟩)
 ·have hk:(k+(its.toArray.size:Int)).toNat=j:=by
   rw[seqIndex_neg (by omega) h3] at h1
   rw[size_toArray,←hl]
   exact Oi h1
  exact PySem.W.ki_setBack ho (by omega) (by rw[size_toArray,←hl];exact h3) (by omega) (by rw[hk];exact ⟨_,I',q⟩)
theorem nN (lo hi:Option Int)(n:Nat):(sliceBounds lo hi none n).1=((HT.sIx n 0 lo:Nat):Int)∧(sliceBounds lo hi none n).2.1=((HT.sIx n n hi:Nat):Int)∧(sliceBounds lo hi none n).2.2=1:=by
 refine ⟨?_,?_,rfl⟩
 ·cases lo with
  | none=>simp[sliceBounds,HT.sIx]
  | some i=>
   simp only[sliceBounds,HT.sIx,Option.getD_none,show (1:Int) > 0 by decide,if_true]
   by_cases h:i<0
   ·simp only[h,if_true] <;> omega
   ·simp only[h,if_false] <;> omega
 ·cases hi with
  | none=>simp[sliceBounds,HT.sIx]
  | some i=>
   simp only[sliceBounds,HT.sIx,Option.getD_none,show (1:Int) > 0 by decide,if_true]
   by_cases h:i<0
   ·simp only[h,if_true] <;> omega
   ·simp only[h,if_false] <;> omega
theorem l9 (its:List Value)(lo hi:Option Int):slicePick its.toArray lo hi none=((its.drop (HT.sIx its.length 0 lo)).take (HT.sIx its.length its.length hi-HT.sIx its.length 0 lo)).toArray:=by
 obtain ⟨h1,h2,h3⟩:=nN lo hi its.toArray.size
 unfold slicePick
 rw[h1,h2,h3]
 simp only[sliceRange_one,pick_run,size_toArray] <;> rfl
inductive rSlL (K:Frag) (x:V) (lo:Option Int) (hi:Option Int) (H:Hp) (Q:VK):Prop|mk (a xs:_):x=.ref a→SqL K H a xs→(∀ p,H p=none→Q (.ref p) (upd H p (.lst (rS xs lo hi))))→rSlL K x lo hi H Q
theorem pE:SlR X (rSlL X.K):=by
 intro pins s σ H x v vl vu lo hi sl Q I rx hs pl pu h
 obtain ⟨a,xs,rfl,hx,q⟩:=h
 cases rx
 obtain ⟨its,r,ht,hz⟩:=I.list hx
 have hlen:=r.length
 refine ⟨"list",_,slot_list_getitem.lookup,ht.isList.typeIs,?_⟩
 refine wpAny_getItem_list_slice ht.isList hs pl pu .none (by simp) ?_ (by rw[size_toArray] <;> omega)
 rw[l9,←hlen]
 refine ⟨.ref s.heap.objs.size,_,I.laid (t':=s.toks) (o:=.lst (rS xs lo hi)) (fun b ob q=>Heap.get?_push_of_some _ q) (Nat.le_refl _) ?_,rfl,q _ (I.hok.fresh (Nat.le_refl _))⟩
 exact ⟨Nat.le_trans (qN xs lo hi) hz,_,0,(r.drop (HT.sIx xs.length 0 lo)).take (HT.sIx xs.length xs.length hi-HT.sIx xs.length 0 lo),Heap.get?_push_size _ rfl⟩
def lc:V→Bool
 | .non=>true
 | .bl _=>true
 | .int _=>true
 | .str _=>true
 | _=>false
def eqV:V→V→Bool
 | .non,.non=>true
 | .bl a,.bl b=>a==b
 | .bl a,.int b=>(if a then 1 else 0)==b
 | .int a,.bl b=>a==(if b then 1 else 0)
 | .int a,.int b=>a==b
 | .str a,.str b=>a==b
 | _,_=>false
theorem BH {A:Around}{s:Shared}{y x:V}{u v:Value}(ry:cD y u)(rx:cD x v)(fy:lc y=true)(fx:lc x=true):SeqAt.EqAt A s u v (eqV y x):=by
 cases y with
 | non=>
  cases ry
  cases x with
  | non=>cases rx;exact SeqAt.EqAt.same _
  | bl b=>cases rx;exact SeqAt.EqAt.none_bool b
  | int b=>obtain ⟨t,rfl⟩:=rx;exact SeqAt.EqAt.none_int b t
  | str b=>obtain ⟨t,rfl⟩:=rx;exact SeqAt.EqAt.none_str b t
  | _=>exact absurd (show false=true from fx) Bool.false_ne_true
 | bl a=>
  cases ry
  cases x with
  | non=>cases rx;exact SeqAt.EqAt.bool_none a
  | bl b=>cases rx;exact SeqAt.EqAt.bool_bool a b
  | int b=>obtain ⟨t,rfl⟩:=rx;exact SeqAt.EqAt.bool_int a b t
  | str b=>obtain ⟨t,rfl⟩:=rx;exact SeqAt.EqAt.bool_str a b t
  | _=>exact absurd (show false=true from fx) Bool.false_ne_true
 | int a=>
  obtain ⟨t',rfl⟩:=ry
  cases x with
  | non=>cases rx;exact SeqAt.EqAt.int_none a t'
  | bl b=>cases rx;exact SeqAt.EqAt.int_bool a t' b
  | int b=>obtain ⟨t,rfl⟩:=rx;exact SeqAt.EqAt.int_int a t' b t
  | str b=>obtain ⟨t,rfl⟩:=rx;exact SeqAt.EqAt.int_str a t' b t
  | _=>exact absurd (show false=true from fx) Bool.false_ne_true
 | str a=>
  obtain ⟨t',rfl⟩:=ry
  cases x with
  | non=>cases rx;exact SeqAt.EqAt.str_none a t'
  | bl b=>cases rx;exact SeqAt.EqAt.str_bool a t' b
  | int b=>obtain ⟨t,rfl⟩:=rx;exact SeqAt.EqAt.str_int a t' b t
  | str b=>obtain ⟨t,rfl⟩:=rx;exact SeqAt.EqAt.str_str a t' b t
  | _=>exact absurd (show false=true from fx) Bool.false_ne_true
 | _=>exact absurd (show false=true from fy) Bool.false_ne_true
def eqU (x:V)(u:Value):Bool:=match u with
 | .none=>eqV .non x
 | .bool b=>eqV (.bl b) x
 | .int i _=>eqV (.int i) x
 | .str z _=>eqV (.str z) x
 | _=>false
theorem wJ {x y:V}{u:Value}(r:cD y u)(f:lc y=true):eqU x u=eqV y x:=by
 cases y with
 | non=>cases r;rfl
 | bl b=>cases r;rfl
 | int i=>obtain ⟨t,rfl⟩:=r;rfl
 | str z=>obtain ⟨t,rfl⟩:=r;rfl
 | _=>exact absurd (show false=true from f) Bool.false_ne_true
theorem rJ {A:Around}{s:Shared}{x:V}{v:Value}(rx:cD x v)(fx:lc x=true):∀ {xs:List V} {us:List Value},bF xs us→xs.all lc=true→∀ u∈us,SeqAt.EqAt A s u v (eqU x u)
 | _,_,.nil,_=>fun u hu=>by cases hu
 | y::xs,u::us,.cons r t,f=>fun u' hu=>by
  rw[all_cons,Bool.and_eq_true] at f
  rcases Mc hu with rfl|hu
  ·rw[wJ r f.1];exact BH r rx f.1 fx
  ·exact rJ rx fx t f.2 u' hu
theorem au:jk X (.builtin "len") (fun xs H Q=>∃ p ys,xs=[.ref p]∧(SqL X.K H p ys∨SqT X.K H p ys)∧Q (.int ys.length) H):=by
 intro pins s σ H xs us Q I r h
 obtain ⟨p,ys,rfl,hq,q⟩:=h
 obtain ⟨u,rfl,rx⟩:=uf r
 cases rx
 have hn:=oq
 rcases hq with hq|hq
 ·obtain ⟨its,r',pl,hz⟩:=I.list hq
  have hlen:=r'.length
  exact Calls.call_len_list pl.isList (by simp only[size_toArray] <;> omega) ⟨.int ys.length,H,I.tok _,⟨s.toks+1,by rw[size_toArray,hlen]⟩,q⟩
 ·obtain ⟨its,r',pl,hz⟩:=I.tuple hq
  have hlen:=r'.length
  exact len_tuple pl (by simp only[size_toArray] <;> omega) ⟨.int ys.length,H,I.tok _,⟨s.toks+1,by rw[size_toArray,hlen]⟩,q⟩
theorem jz:jk X (.type "list") (fun xs H Q=>∃ p ys,xs=[.ref p]∧(SqL X.K H p ys∨SqT X.K H p ys)∧∀ l,H l=none→Q (.ref l) (upd H l (.lst ys))):=by
 intro pins s σ H xs us Q I r h
 obtain ⟨p,ys,rfl,hq,q⟩:=h
 obtain ⟨u,rfl,rx⟩:=uf r
 cases rx
 have fin:∀ (its:List Value),bF ys its→ys.length≤sizeLine→∀ (h':Heap) (c':Nat),(∀ b o',s.heap.get? b=some o'→h'.get? b=some o')→
   h'.get? s.heap.objs.size=some {cls:=.type "list",dict:=none,data:=.seq its.toArray c',slots:=#[]}→EP X pins σ Q (.ref s.heap.objs.size) {s with heap:=h'}:=fun its r' hz h' c' kp e=>
  ⟨.ref s.heap.objs.size,_,I.laid (t':=s.toks) kp (Nat.le_refl _) (show df X.prog X.w _ h' _ (.lst ys) from ⟨hz,its,c',r',e⟩),rfl,q _ (I.hok.fresh (Nat.le_refl _))⟩
 rcases hq with hq|hq
 ·obtain ⟨its,r',pl,hz⟩:=I.list hq
  have hlen:=r'.length
  obtain ⟨o,ho,hc,n,hd⟩:=pl.isList
  exact call_list_seq p (.inl rfl) ho hc hd (fun h' c' kp e=>fin its r' hz h' c' kp e) (by simp only[size_toArray] <;> omega)
 ·obtain ⟨its,r',pl,hz⟩:=I.tuple hq
  have hlen:=r'.length
  obtain ⟨o,ho,hc,n,hd⟩:=pl
  exact call_list_seq p (.inr rfl) ho hc hd (fun h' c' kp e=>fin its r' hz h' c' kp e) (by simp only[size_toArray] <;> omega)
theorem bm:jk X (.type "tuple") (fun xs H Q=>∃ p ys,xs=[.ref p]∧((SqL X.K H p ys∧∀ l,H l=none→Q (.ref l) (upd H l (.tup ys)))∨(SqT X.K H p ys∧Q (.ref p) H))):=by
 intro pins s σ H xs us Q I r h
 obtain ⟨p,ys,rfl,h⟩:=h
 obtain ⟨u,rfl,rx⟩:=uf r
 cases rx
 rcases h with ⟨hq,q⟩|⟨hq,q⟩
 ·obtain ⟨its,r',pl,hz⟩:=I.list hq
  have hlen:=r'.length
  refine call_tuple_list pl.isList (fun h' kp=>?_) (by simp only[size_toArray] <;> omega)
  have I1:Inv X pins σ H {s with heap:=h'}:=I.kept (t':=s.toks) kp
  have I2:Inv X pins σ (upd H h'.objs.size (.tup ys)) {s with heap:=h'.push {cls:=.type "tuple",data:=.seq its.toArray}}:=
   I1.laid (t':=s.toks) (fun b o e=>Heap.get?_push_of_some _ e) (Nat.le_refl _) (show df X.prog X.w _ _ _ (.tup ys) from ⟨hz,its,r',IsTup.new _ _⟩)
  exact ⟨.ref h'.objs.size,_,I2,rfl,q _ (I1.hok.fresh (Nat.le_refl _))⟩
 ·obtain ⟨its,r',pl,hz⟩:=I.tuple hq
  exact call_tuple_same pl ⟨.ref p,H,I,rfl,q⟩
def tyV (K:Frag)(T:String)(x:V)(H:Hp):Prop:=match x with
 | .str _=>T="str"
 | .int _=>T="int"
 | .ref p=>(T="list"∧∃ xs,SqL K H p xs)∨(T="tuple"∧∃ o,K.lookup p=some o∧o.cls=.type "tuple"∧o.dict=none)∨
   (T="dict"∧((∃ kvs,H p=some (.dK kvs))∨∃ kvs,H p=some (.dT kvs)))∨(T="set"∧∃ S n,H p=some (.set S n))
 | _=>False
theorem yQ {pins:List (Addr×Obj)}{σ:St}{H:Hp}{s:Shared}{T:String}{x:V}{v:Value}(I:Inv X pins σ H s)(r:cD x v)(ty:tyV X.K T x H):
  s.TypeIs v T∧∀ a,v=.ref a→∃ ob,s.heap.get? a=some ob∧ob.dict=none:=by
 cases x with
 | str z=>
  obtain ⟨t,rfl⟩:=r
  cases (show T="str" from ty)
  exact ⟨typeIs_str s z t,fun _ e=>nomatch e⟩
 | int i=>
  obtain ⟨t,rfl⟩:=r
  cases (show T="int" from ty)
  exact ⟨typeIs_int s i t,fun _ e=>nomatch e⟩
 | ref p=>
  cases r
  rcases ty with ⟨rfl,xs,hq⟩|⟨rfl,o,hk,hc,hd⟩|⟨rfl,hk⟩|⟨rfl,S,n,hk⟩
  ·obtain ⟨its,_,pl,_⟩:=I.list hq
   refine ⟨pl.isList.typeIs,fun a e=>?_⟩
   cases e
   obtain ⟨o,n,e,c,hd,_⟩:=pl
   exact ⟨o,e,hd⟩
  ·refine ⟨⟨o,I.kIn p o hk,hc⟩,fun a e=>?_⟩
   cases e
   exact ⟨o,I.kIn _ o hk,hd⟩
  ·have z:∃ o,s.heap.get? p=some o∧o.ExactDict:=by
    rcases hk with ⟨kvs,hk⟩|⟨kvs,hk⟩
    ·obtain ⟨_,_,_,_,o,_,_,e,ex,_⟩:=I.hok p _ hk
     exact ⟨o,e,ex⟩
    ·obtain ⟨_,_,_,_,o,_,_,e,ex,_⟩:=I.hok p _ hk
     exact ⟨o,e,ex⟩
   obtain ⟨o,e,ex⟩:=z
   refine ⟨⟨o,e,ex.1⟩,fun a e2=>?_⟩
   cases e2
   exact ⟨o,e,ex.2.1⟩
  ·obtain ⟨o,_,_,_,e,ex,_⟩:=I.hok p _ hk
   refine ⟨⟨o,e,ex.1⟩,fun a e2=>?_⟩
   cases e2
   exact ⟨o,e,ex.2.1⟩
 | _=>exact False.elim ty
def tBM0 (K:Frag)(T:String)(r:V→List V→Hp→VK→Prop)(to:TE):TE:=fun σ H Q=>to σ H fun x H1=>tyV K T x H1∧r x [] H1 Q
def tBM (K:Frag)(T:String)(r:V→List V→Hp→VK→Prop)(to:TE)(t:TA):TE:=fun σ H Q=>to σ H fun x H1=>tyV K T x H1∧t σ H1 fun xs H2=>r x xs H2 Q
variable {o e:Expr} {es:List Expr} {to:TE} {t:TA} {name:Str} {apos cpos:Pos} {T id:String} {r:V→List V→Hp→VK→Prop}
theorem vw (pa:PlainAttrs T)(slot:Slot T name id)(hty:typeOf (.builtin id)=pure (.type "method_descriptor"))(hm:MtR X id r)(ho:PE X o to)
  (hbase:attributeBase o name X.env (eval o X.env)=eval o X.env:=by rfl)(hline:(apos.endLine==cpos.line)=true:=by rfl):PE X (.Call (.Attribute o name apos) [] [] cpos) (tBM0 X.K T r to):=by
 intro pins s σ H Q I h
 refine wpAny_Call_method0_late hbase hline (thn (ho pins s σ H _ I h) fun v s1 ⟨x,H1,I1,r1,ty,q1⟩=>?_)
 obtain ⟨h1,h2⟩:=yQ I1 r1 ty
 exact ⟨T,id,pa,slot,hty,h1,h2,Calls.callWith_builtin rfl (PySem.evalArgs_none (hm pins s1 σ H1 x [] v [] Q I1 r1 .nil q1))⟩
theorem eD (pa:PlainAttrs T)(slot:Slot T name id)(hty:typeOf (.builtin id)=pure (.type "method_descriptor"))(hm:MtR X id r)(ho:PE X o to)(ha:PA X (e::es) t)
  (hbase:attributeBase o name X.env (eval o X.env)=eval o X.env:=by rfl)
  (hfew:((backTo cpos (starEach (e::es) X.env)).all (fun x=>!x.1)&&(backToKw cpos (keywordEach [] X.env)).all (fun x=>x.1.isSome)
   && decide ((e::es).length+([]:List Keyword).length+(if ([]:List Keyword).isEmpty then 0 else 1)<30))=true:=by rfl)
  (hline:(apos.endLine==cpos.line)=true:=by rfl)(hs:starEach (e::es) X.env=(false,eval e X.env)::starEach es X.env:=by rfl)(hplain:(backTo cpos (starEach es X.env)).any (·.1)=false:=by rfl):
  PE X (.Call (.Attribute o name apos) (e::es) [] cpos) (tBM X.K T r to t):=by
 intro pins s σ H Q I h
 refine wpAny_Call_method_late hbase hfew hline rfl (thn (ho pins s σ H _ I h) fun v s1 ⟨x,H1,I1,r1,ty,q1⟩=>?_)
 obtain ⟨h1,h2⟩:=yQ I1 r1 ty
 refine ⟨T,id,pa,slot,hty,h1,h2,?_⟩
 have hA:=ha cpos pins s1 σ H1 _ I1 q1
 rw[hs] at hA ⊢
 refine Calls.callWith_builtin (by show (false || (backTo cpos (starEach es X.env)).any (·.1))=false;rw[hplain] <;> rfl) (Calls.evalArgs_plain ?_)
 exact thn hA fun us s2 ⟨vs,H2,I2,r2,q2⟩=>hm pins s2 σ H2 x vs v us Q I2 r1 r2 q2
end
end L2
namespace L2
open PySem PySem.Spec PyProof.Rows
def MtM (X:Cx)(id:String)(r:V→List V→Hp→VK→Prop):Prop:=
 ∀ (pins:List (Addr×Obj)) (s:Shared) (σ:St) (H:Hp) (x:V) (xs:List V) (v:Value) (us:List Value) (Q:VK),Inv X pins σ H s→cD x v→bF xs us→r x xs H Q→
  wpAny (model X.prog X.w) X.A (call (.builtin id) (v::us)) (EP X pins σ Q) X.xe s
theorem bF.one:∀ {x:V} {us:List Value},bF [x] us→∃ u,us=[u]∧cD x u
 | _,_,.cons r .nil=>⟨_,rfl,r⟩
theorem bF.zero:∀ {us:List Value},bF [] us→us=[]
 | _,.nil=>rfl
theorem bF.dropLast {xs:List V}{us:List Value}(h:bF xs us):bF xs.dropLast us.dropLast:=by
 induction h with
 | nil=>exact .nil
 | cons r t ih=>
  cases t with
  | nil=>exact .nil
  | cons q t'=>exact .cons r ih
theorem tI {α:Type}(l:List α):l.eraseIdx (l.length-1)=l.dropLast:=by
 induction l with
 | nil=>rfl
 | cons a r ih=>
  cases r with
  | nil=>rfl
  | cons b r=>
   have e:(a::b::r).length-1=((b::r).length-1)+1:=by
    have h1:(a::b::r).length=r.length+2:=rfl
    have h2:(b::r).length=r.length+1:=rfl
    omega
   rw[e,eraseIdx_cons_succ,ih]
   all_goals rfl
section
variable {X:Cx} {pins:List (Addr×Obj)} {σ:St} {H:Hp} {s:Shared} {l b:Addr} {xs ys zs:List V}
theorem Inv.lset {its its':List Value}{n:Nat}{f:Array Value→Array Value}{t':Nat}(I:Inv X pins σ H s)(hH:H l=some (.lst xs))
  (e:s.heap.get? l=some {cls:=.type "list",data:=.seq its.toArray n})(hf:f its.toArray=its'.toArray)(hv:bF ys its')(hz:ys.length≤sizeLine):
  Inv X pins σ (upd H l (.lst ys)) {s with heap:=s.heap.update l (Obj.mapSeq f),toks:=t'}:=by
 have q:=PySem.IsL.update e f
 rw[hf] at q
 refine I.write (x:=l) (e:=l) (by rw[hH];exact trivial) (.inl rfl) (fun b' u hb hu=>(Heap.get?_update_other s.heap (Obj.mapSeq f) (Ne.symm hb)).trans hu) ⟨_,q⟩ ?_
 exact ⟨hz,its',_,hv,q⟩
theorem Inv.lnew {its:List Value}{t':Nat}(I:Inv X pins σ H s)(hv:bF ys its)(hz:ys.length≤sizeLine):
  Inv X pins σ (upd H s.heap.objs.size (.lst ys)) {s with heap:=s.heap.push {cls:=.type "list",data:=.seq its.toArray},toks:=t'}:=
 I.laid (fun _ _ q=>Heap.get?_push_of_some _ q) (Nat.le_refl _) ⟨hz,its,0,hv,Heap.get?_push_size _ rfl⟩
theorem Inv.fresh (I:Inv X pins σ H s):H s.heap.objs.size=none:=I.hok.fresh (Nat.le_refl _)
theorem Inv.lstM (I:Inv X pins σ H s)(hH:H l=some (.lst xs)):xs.length≤sizeLine∧∃ (its:List Value) (n:Nat),bF xs its∧xs.length=its.length∧s.heap.get? l=some {cls:=.type "list",data:=.seq its.toArray n}:=by
 obtain ⟨z,its,n,r,e⟩:=I.hok l _ hH
 exact ⟨z,its,n,r,r.length,e⟩
theorem rE {n:Nat}(h:n≤sizeLine):Builtin.List.listTooLong n=false:=by
 unfold Builtin.List.listTooLong
 exact decide_eq_false (by omega)
end
section
variable {X:Cx}
inductive ve (x:V) (vs:List V) (H:Hp) (Q:VK):Prop|mk (l xs y:_):x=.ref l→vs=[y]→H l=some (.lst xs)→xs.length<sizeLine→Q .non (upd H l (.lst (xs++[y])))→ve x vs H Q
theorem bZ:MtM X "list.append" ve:=by
 intro pins s σ H x vs v us Q I rx rv h
 obtain ⟨l,xs,y,rfl,rfl,hH,hz,q⟩:=h
 cases rx
 obtain ⟨u,rfl,ru⟩:=rv.one
 obtain ⟨z,its,n,r,hl,e⟩:=I.lstM hH
 refine call_meets F.slot_list_append ⟨_,e,rfl⟩ F.entry_list_append (F.args_list_append_2 _ _) (PySem.list_append l its.toArray n u (by rw[size_toArray];omega)) ⟨e,?_⟩
 refine ⟨.non,_,I.lset (its':=its++[u]) hH e (by simp) (r.append (.cons ru .nil)) ?_,rfl,q⟩
 rw[length_append,length_singleton]
 omega
inductive vd (x:V) (vs:List V) (H:Hp) (Q:VK):Prop|mk (l b xs zs:_):x=.ref l→vs=[.ref b]→H l=some (.lst xs)→H b=some (.lst zs)→xs.length+zs.length≤sizeLine→Q .non (upd H l (.lst (xs++zs)))→vd x vs H Q
theorem fR:MtM X "list.extend" vd:=by
 intro pins s σ H x vs v us Q I rx rv h
 obtain ⟨l,b,xs,zs,rfl,rfl,hH,hB,hz,q⟩:=h
 cases rx
 obtain ⟨u,rfl,ru⟩:=rv.one
 cases ru
 obtain ⟨z,its,n,r,hl,e⟩:=I.lstM hH
 obtain ⟨z2,its2,n2,r2,hl2,e2⟩:=I.lstM hB
 have hsz:its.toArray.size+its2.toArray.size≤sizeLine:=by rw[size_toArray,size_toArray];omega
 have hlong:¬(!its.toArray.isEmpty&&Builtin.List.listTooLong (its.toArray.size+its2.toArray.size))=true:=by
  rw[rE hsz,Bool.and_false]
  exact Bool.false_ne_true
 refine call_meets F.slot_list_extend ⟨_,e,rfl⟩ F.entry_list_extend (F.args_list_extend_2 _ _)
  (AutoSeq1.list_extend_list_list_0 l its.toArray n b its2.toArray n2 hlong (by rw[size_toArray];omega) (by omega)) ⟨e,e2,?_⟩
 refine ⟨.non,_,I.lset (its':=its++its2) hH e (by simp) (r.append r2) ?_,rfl,q⟩
 rw[length_append]
 omega
inductive rPop (x:V) (vs:List V) (H:Hp) (Q:VK):Prop|mk (l xs y:_):x=.ref l→vs=[]→H l=some (.lst xs)→xs[xs.length-1]?=some y→Q y (upd H l (.lst xs.dropLast))→rPop x vs H Q
theorem vY:MtM X "list.pop" rPop:=by
 intro pins s σ H x vs v us Q I rx rv h
 obtain ⟨l,xs,y,rfl,rfl,hH,hy,q⟩:=h
 cases rx
 have hus:=rv.zero
 subst hus
 obtain ⟨z,its,n,r,hl,e⟩:=I.lstM hH
 obtain ⟨u,hu,ru⟩:=r.get hy
 have hy':its.toArray[its.toArray.size-1]?=some u:=by
  show its.toArray[its.length-1]?=some u
  rw[←Array.getElem?_toList,←hl]
  exact hu
 refine call_meets F.slot_list_pop ⟨_,e,rfl⟩ F.entry_list_pop (F.args_list_pop_1 _) (MeetsSeq.list_pop_last l its.toArray n u hy' (by rw[size_toArray];omega)) ⟨e,?_⟩
 refine ⟨y,_,I.lset (its':=its.dropLast) hH e ?_ r.dropLast ?_,ru,q⟩
 ·show its.toArray.eraseIdxIfInBounds (its.toArray.size-1)=its.dropLast.toArray
  rw[size_toArray,eraseIdxIfInBounds_toArray,tI]
 ·rw[length_dropLast]
  omega
def rCat:R2:=fun x y H Q=>∃ l b xs zs,x=.ref l∧y=.ref b∧H l=some (.lst xs)∧H b=some (.lst zs)∧xs.length+zs.length≤sizeLine∧∀ p,H p=none→Q (.ref p) (upd H p (.lst (xs++zs)))
theorem yZ:OpR X (binaryOp .Add) rCat:=by
 intro pins s σ H x y v u Q I rx ry h
 obtain ⟨l,b,xs,zs,rfl,rfl,hH,hB,hz,q⟩:=h
 cases rx
 cases ry
 obtain ⟨z,its,n,r,hl,e⟩:=I.lstM hH
 obtain ⟨z2,its2,n2,r2,hl2,e2⟩:=I.lstM hB
 refine PySem.P.add_list e e2 ?_ (by rw[size_toArray,size_toArray];omega)
 have ea:its.toArray++its2.toArray=(its++its2).toArray:=by simp
 rw[ea]
 exact ⟨.ref _,_,I.lnew (t':=s.toks) (r.append r2) (by rw[length_append];omega),rfl,q _ I.fresh⟩
end
section
variable {prog:Program} {w:World} {A:Around} {E:Value→Shared→Prop} {s:Shared}
end
section
variable {X:Cx}
end
end L2
namespace L2
open PySem PySem.Spec PyProof.Rows
theorem bF.ints:∀ {ns:List Int} {us:List Value},bF (ns.map V.int) us→IntsAre us ns
 | [],us,h=>by
  rw[map_nil] at h
  cases h
  exact IntsAre.nil
 | n::ns,us,h=>by
  rw[map_cons] at h
  cases h with
  | cons r t=>
   obtain ⟨k,rfl⟩:=r
   exact IntsAre.cons n k (bF.ints t)
theorem jl:∀ {us:List Value} {ns:List Int},IntsAre us ns→bF (ns.map V.int) us
 | _,_,.nil=>by rw[map_nil];exact Paired.nil
 | _,_,.cons n t h=>by rw[map_cons];exact Paired.cons (show cD (V.int n) (Value.int n t) from ⟨t,rfl⟩) (jl h)
theorem bF.bls:∀ {bs:List Bool} {us:List Value},bF (bs.map V.bl) us→us=bs.map Value.bool
 | [],us,h=>by
  rw[map_nil] at h
  cases h
  rfl
 | b::bs,us,h=>by
  rw[map_cons] at h
  cases h with
  | cons r t=>
   cases r
   rw[bF.bls t,map_cons]
theorem bF.ref1 {a:Addr}{us:List Value}(r:bF [V.ref a] us):us=[Value.ref a]:=by
 cases r with
 | cons r t=>
  cases t
  cases r
  rfl
section
variable {prog:Program} {w:World} {A:Around} {E:Value→Shared→Prop} {s:Shared} {l:Addr} {its:List Value} {ns:List Int} {Q:Value→Shared→Prop}
theorem Au (hh:A.handled=none)(hl:s.heap.IsList l its.toArray)(hi:IntsAre its ns)(hne:0<ns.length)
  (h:∀ h' tk M t',(∀ b o,s.heap.get? b=some o→h'.get? b=some o)→M∈ns→(∀ a,a∈ns→a≤M)→Q (.int M t') {s with heap:=h',toks:=tk}):wpAny (model prog w) A (call (.builtin "max") [.ref l]) Q E s:=by
 obtain ⟨xs,e⟩:=hi.allInts.items
 have hn:numsOf (intItems xs).toList=ns:=by rw[←e];exact hi.numsOf
 rw[nums_intItems] at hn
 subst hn
 rw[e] at hl
 have hsz:0<xs.size:=by simpa using hne
 refine PySem.max_intList hh hl hsz fun v h' tk hv hk=>?_
 obtain ⟨t,rfl⟩:=intItems_at hv
 obtain ⟨h1,h2⟩:=argBest_gt (numAt xs) (xs.size-1)
 refine h h' tk _ t hk ?_ fun a ha=>?_
 ·rw[numAt_eq];exact PySem.getD_mem (by rw[length_map,Array.length_toList];omega)
 ·obtain ⟨j,hj,rfl⟩:=mem_getD ha
  rw[length_map,Array.length_toList] at hj
  rw[←numAt_eq];exact h2 j (by omega)
theorem Aq (hh:A.handled=none)(hl:s.heap.IsList l its.toArray)(hi:IntsAre its ns)(hne:0<ns.length)
  (h:∀ h' tk M t',(∀ b o,s.heap.get? b=some o→h'.get? b=some o)→M∈ns→(∀ a,a∈ns→M≤a)→Q (.int M t') {s with heap:=h',toks:=tk}):wpAny (model prog w) A (call (.builtin "min") [.ref l]) Q E s:=by
 obtain ⟨xs,e⟩:=hi.allInts.items
 have hn:numsOf (intItems xs).toList=ns:=by rw[←e];exact hi.numsOf
 rw[nums_intItems] at hn
 subst hn
 rw[e] at hl
 have hsz:0<xs.size:=by simpa using hne
 refine PySem.min_intList hh hl hsz fun v h' tk hv hk=>?_
 obtain ⟨t,rfl⟩:=intItems_at hv
 obtain ⟨h1,h2⟩:=argBest_lt (numAt xs) (xs.size-1)
 refine h h' tk _ t hk ?_ fun a ha=>?_
 ·rw[numAt_eq];exact PySem.getD_mem (by rw[length_map,Array.length_toList];omega)
 ·obtain ⟨j,hj,rfl⟩:=mem_getD ha
  rw[length_map,Array.length_toList] at hj
  rw[←numAt_eq];exact h2 j (by omega)
end
section
variable {X:Cx}
def rMax (K:Frag):List V→Hp→VK→Prop:=fun vs H Q=>∃ (a:Addr) (ns:List Int),vs=[V.ref a]∧SqL K H a (ns.map V.int)∧0<ns.length∧∀ m,m∈ns→(∀ y,y∈ns→y≤m)→Q (.int m) H
def rMin (K:Frag):List V→Hp→VK→Prop:=fun vs H Q=>∃ (a:Addr) (ns:List Int),vs=[V.ref a]∧SqL K H a (ns.map V.int)∧0<ns.length∧∀ m,m∈ns→(∀ y,y∈ns→m≤y)→Q (.int m) H
theorem BL (hc:X.calm=true):jk X (.builtin "max") (rMax X.K):=by
 intro pins s σ H vs us Q I r h
 obtain ⟨a,ns,rfl,hs,hne,q⟩:=h
 obtain ⟨its,rv,hl,_⟩:=I.list hs
 rw[bF.ref1 r]
 exact Au (I.ok.hd hc) hl.isList rv.ints hne fun h' tk m t' hk h1 h2=>⟨.int _,H,I.kept hk,⟨_,rfl⟩,q m h1 h2⟩
theorem zd (hc:X.calm=true):jk X (.builtin "min") (rMin X.K):=by
 intro pins s σ H vs us Q I r h
 obtain ⟨a,ns,rfl,hs,hne,q⟩:=h
 obtain ⟨its,rv,hl,_⟩:=I.list hs
 rw[bF.ref1 r]
 exact Aq (I.ok.hd hc) hl.isList rv.ints hne fun h' tk m t' hk h1 h2=>⟨.int _,H,I.kept hk,⟨_,rfl⟩,q m h1 h2⟩
def zY (K:Frag):List V→Hp→VK→Prop:=fun vs H Q=>∃ (a:Addr) (ns:List Int),vs=[V.ref a]∧SqL K H a (ns.map V.int)∧ns.length<64∧
 ∀ (ns':List Int) (p:Addr),ns'.Perm ns→ns'.Pairwise (·≤·)→H p=none→Q (.ref p) (upd H p (.lst (ns'.map V.int)))
theorem zy {n:Nat}(h:n<64):n≤sizeLine:=by rw[sizeLine_eq];omega
theorem oH:jk X (.builtin "sorted") (zY X.K):=by
 intro pins s σ H vs us Q I r h
 obtain ⟨a,ns,rfl,hs,h64,q⟩:=h
 obtain ⟨its,rv,hl,_⟩:=I.list hs
 rw[bF.ref1 r]
 have hi:=rv.ints
 refine PyProof.Rows.sorted_ints hl.isList hi (by rw[hi.length];exact h64) fun out ns' h1 h2 h3=>?_
 obtain ⟨ep,he'⟩:=PyProof.Rows.sortedAll_at s.heap its out
 have hlen:(ns'.map V.int).length≤sizeLine:=by rw[length_map,h2.length_eq];exact zy h64
 exact ⟨.ref _,upd H (s.heap.objs.size+1) (.lst (ns'.map V.int)),I.laid (t':=s.toks) (fun _ _=>PyProof.Rows.sortedAll_old) (Nat.le_succ _) ⟨hlen,out.toList,ep,jl h1,he'⟩,rfl,q ns' _ h2 h3 (I.hok.fresh (Nat.le_succ _))⟩
end
section
variable {X:Cx}
def Bf (K:Frag):V→List V→Hp→VK→Prop:=fun x xs H Q=>∃ (a:Addr) (ys:List V) (y:V) (j:Nat) (z:V),x=V.ref a∧xs=[y]∧SqL K H a ys∧lc y=true∧ys.all lc=true∧ys[j]?=some z∧eqV z y=true∧
 (∀ (m:Nat) (z':V),m<j→ys[m]?=some z'→eqV z' y=false)∧Q (.int (j:Nat)) H
theorem wH {ys:List V}(f:ys.all lc=true){j:Nat}{z:V}(h:ys[j]?=some z):lc z=true:=all_eq_true.mp f z (mem_of_getElem? h)
theorem mU:MtR X "list.index" (Bf X.K):=by
 intro pins s σ H x xs v us Q I rx rxs h
 obtain ⟨a,ys,y,j,z,rfl,rfl,hs,fy,fys,hz,hzj,hno,q⟩:=h
 cases rx
 cases rxs with
 | cons ry rt=>
  rename_i uy ut
  cases rt
  obtain ⟨its,rv,⟨⟨cls,dd,data,sl⟩,n,ho,hc,hdn,hd⟩,hlen⟩:=I.list hs
  simp only at hc hd
  subst hc hd
  obtain ⟨u,hu,ru⟩:=rv.get hz
  obtain ⟨hjl,hje⟩:=Gq hu
  have hvl:=rv.length
  have hj:j<its.toArray.size:=by simpa using hjl
  have hsl:=sizeLine_eq
  refine call_meets PySem.F.slot_list_index ⟨_,ho,rfl⟩ PySem.F.entry_list_index (PySem.F.args_list_index_2 _ _)
   (SeqAt.list_indexAt a its.toArray n dd sl uy (eqU y) j hj (by omega) ?_ ?_) ⟨ho,fun u' hu'=>rJ ry fy rv fys u' (by simpa using hu'),?_⟩
  ·have e1:its.toArray[j]=u:=by simpa using hje
   rw[e1,wJ ru (wH fys hz)]
   exact hzj
  ·intro m hm hmj
   have hml:m<its.length:=by simpa using hm
   have hmy:m<ys.length:=by omega
   have hy':ys[m]?=some ys[m]:=getElem?_eq_getElem hmy
   obtain ⟨u2,hu2,ru2⟩:=rv.get hy'
   obtain ⟨_,hme⟩:=Gq hu2
   have e1:its.toArray[m]=u2:=by simpa using hme
   rw[e1,wJ ru2 (wH fys hy')]
   exact hno m _ hmj hy'
  ·exact ⟨.int (j:Nat),H,I.tok _,⟨_,rfl⟩,q⟩
end
section
variable {X:Cx}
end
theorem rM {prog:Program}{w:World}{A:Around}{E:Value→Shared→Prop}{s:Shared}{l:Addr}{items:Array Value}{Q:Value→Shared→Prop}(hl:s.heap.IsList l items)
  (h:∀ s₂:Shared,s₂={s with heap:=s.heap.push {cls:=.type "list_iterator",data:=.fields #[.ref l,.int 0 0]}}→
   (s₂.heap.IsListIter s.heap.objs.size l 0∧s₂.heap.IsList l items)→l≠s.heap.objs.size→Q (.ref s.heap.objs.size) s₂):wpAny (model prog w) A (pyIter (.ref l)) Q E s:=by
 have hlt:l<s.heap.objs.size:=by obtain ⟨_,e,_⟩:=hl;exact Heap.lt_size e
 exact wpAny_pyIter_list hl (h _ rfl ⟨⟨_,Heap.get?_push_size _ rfl,rfl,rfl⟩,hl.push _⟩ (Nat.ne_of_lt hlt))
theorem jV {prog:Program}{w:World}{A:Around}{bs:List Bool}{its:List Value}(e:its=bs.map Value.bool):
  TruthOf prog w A (fun i v=>its.toArray[i]?=some v) (fun i=>bs.getD i false):=fun i v s Q E hv hq=>by
 have hv':its[i]?=some v:=by simpa using hv
 rw[e,getElem?_map] at hv'
 obtain ⟨b,hb,rfl⟩:=Oq hv'
 have hg:bs.getD i false=b:=by rw[getD_eq_getElem?_getD,hb] <;> rfl
 have hq':Q (bs.getD i false) s:=hq
 rw[hg] at hq'
 exact wpAny_truthy_bool hq'
theorem oW:∀ bs:List Bool,(List.range bs.length).any (fun i=>bs.getD i false)=bs.any id
 | []=>rfl
 | b::bs=>by
  rw[length_cons,range_succ_eq_map,any_cons,any_map,any_cons,←oW bs]
  all_goals rfl
theorem oX:∀ bs:List Bool,(List.range bs.length).all (fun i=>bs.getD i false)=bs.all id
 | []=>rfl
 | b::bs=>by
  rw[length_cons,range_succ_eq_map,all_cons,all_map,all_cons,←oX bs]
  all_goals rfl
section
variable {X:Cx}
def rAny (K:Frag):List V→Hp→VK→Prop:=fun vs H Q=>∃ (a:Addr) (bs:List Bool),vs=[V.ref a]∧SqL K H a (bs.map V.bl)∧Q (.bl (bs.any id)) H
def rAll (K:Frag):List V→Hp→VK→Prop:=fun vs H Q=>∃ (a:Addr) (bs:List Bool),vs=[V.ref a]∧SqL K H a (bs.map V.bl)∧Q (.bl (bs.all id)) H
theorem BM (hc:X.calm=true):jk X (.builtin "any") (rAny X.K):=by
 intro pins s σ H vs us Q I r h
 obtain ⟨a,bs,rfl,hs,q⟩:=h
 obtain ⟨its,rv,hl,_⟩:=I.list hs
 rw[bF.ref1 r]
 have hb:=rv.bls
 refine call_any_walk (rM hl.isList fun s₂ e2 st hne=>?_)
 subst e2
 refine ⟨_,_,_,_,_,_,_,rfl,Walks.list (A:=X.A.in1) (I.ok.hd hc) _ a hne its.toArray,st,jV hb,fun h' tk hk=>?_⟩
 refine ⟨.bl _,H,I.kept fun b o eo=>hk b o (fun hmem=>?_) (Heap.get?_push_of_some _ eo),?_,q⟩
 ·rcases Mc hmem with e1|hmem
  ·exact absurd (e1▸Heap.lt_size eo) (Nat.lt_irrefl _)
  ·cases hmem
 ·show Value.bool _=Value.bool _
  rw[←oW,hb,size_toArray,length_map]
theorem wU (hc:X.calm=true):jk X (.builtin "all") (rAll X.K):=by
 intro pins s σ H vs us Q I r h
 obtain ⟨a,bs,rfl,hs,q⟩:=h
 obtain ⟨its,rv,hl,_⟩:=I.list hs
 rw[bF.ref1 r]
 have hb:=rv.bls
 refine call_all_walk (rM hl.isList fun s₂ e2 st hne=>?_)
 subst e2
 refine ⟨_,_,_,_,_,_,_,rfl,Walks.list (A:=X.A.in1) (I.ok.hd hc) _ a hne its.toArray,st,jV hb,fun h' tk hk=>?_⟩
 refine ⟨.bl _,H,I.kept fun b o eo=>hk b o (fun hmem=>?_) (Heap.get?_push_of_some _ eo),?_,q⟩
 ·rcases Mc hmem with e1|hmem
  ·exact absurd (e1▸Heap.lt_size eo) (Nat.lt_irrefl _)
  ·cases hmem
 ·show Value.bool _=Value.bool _
  rw[←oX,hb,size_toArray,length_map]
end
mutual
inductive Dp (K:Frag) (H:Hp):V→PyData→Prop
 | non:Dp K H .non .none
 | bl (b:Bool):Dp K H (.bl b) (.bool b)
 | int (i:Int):Dp K H (.int i) (.int i)
 | str (x:Str):Dp K H (.str x) (.str x)
 | lst {a:Addr} {xs:List V} {ds:List PyData}:SqL K H a xs→qQ K H xs ds→Dp K H (.ref a) (.list ds)
 | tup {a:Addr} {xs:List V} {ds:List PyData}:SqT K H a xs→qQ K H xs ds→Dp K H (.ref a) (.tuple ds)
inductive qQ (K:Frag) (H:Hp):List V→List PyData→Prop
 | nil:qQ K H [] []
 | cons {v:V} {vs:List V} {d:PyData} {ds:List PyData}:Dp K H v d→qQ K H vs ds→qQ K H (v::vs) (d::ds)
end
section
variable {X:Cx} {pins:List (Addr×Obj)} {σ:St} {H:Hp} {s:Shared}
mutual
theorem Dp.reads (I:Inv X pins σ H s):∀ (d:PyData) (v:V) (u:Value),Dp X.K H v d→cD v u→∃ as,Reads s.heap u d as
 | .none,_,_,h,r=>by
  cases h
  cases r
  exact ⟨_,Reads.none⟩
 | .bool b,_,_,h,r=>by
  cases h
  cases r
  exact ⟨_,Reads.bool b⟩
 | .int i,_,_,h,r=>by
  cases h
  obtain ⟨t,rfl⟩:=r
  exact ⟨_,Reads.int i t⟩
 | .str x,_,_,h,r=>by
  cases h
  obtain ⟨t,rfl⟩:=r
  exact ⟨_,Reads.str x t⟩
 | .list ds,_,_,h,r=>by
  cases h with
  | lst hs ha=>
   cases r
   obtain ⟨its,rv,⟨o,n,ho,hc,_,hd⟩,_⟩:=I.list hs
   obtain ⟨as,hr⟩:=Dp.readsAll I ds _ its ha rv
   exact ⟨_,Reads.list ho hc hd hr⟩
 | .tuple ds,_,_,h,r=>by
  cases h with
  | tup hs ha=>
   cases r
   obtain ⟨its,rv,⟨o,ho,hc,n,hd⟩,_⟩:=I.tuple hs
   obtain ⟨as,hr⟩:=Dp.readsAll I ds _ its ha rv
   exact ⟨_,Reads.tuple ho hc hd hr⟩
 | .dict _,_,_,h,_=>by cases h
theorem Dp.readsAll (I:Inv X pins σ H s):∀ (ds:List PyData) (vs:List V) (us:List Value),qQ X.K H vs ds→bF vs us→∃ as,ReadsAll s.heap us ds as
 | [],_,_,h,r=>by
  cases h
  cases r
  exact ⟨_,ReadsAll.nil⟩
 | d::ds,_,_,h,r=>by
  cases h with
  | cons h1 h2=>
   cases r with
   | cons r1 r2=>
    obtain ⟨as,q1⟩:=Dp.reads I d _ _ h1 r1
    obtain ⟨bs,q2⟩:=Dp.readsAll I ds _ _ h2 r2
    exact ⟨_,ReadsAll.cons q1 q2⟩
end
end
section
variable {X:Cx}
def rEqD (K:Frag):R2:=fun x y H Q=>∃ d e,Dp K H x d∧Dp K H y e∧SeqAt.shaped d=true∧SeqAt.shaped e=true∧Q (.bl (PyData.eqv d e)) H
def rNeD (K:Frag):R2:=fun x y H Q=>∃ d e,Dp K H x d∧Dp K H y e∧SeqAt.shaped d=true∧SeqAt.shaped e=true∧Q (.bl (!PyData.eqv d e)) H
theorem Bo (hu:X.A.units+64<cLine):OpR X (compareOp .Eq) (rEqD X.K):=by
 intro pins s σ H x y v u Q I rx ry h
 obtain ⟨d,e,hd,he,sd,se,q⟩:=h
 obtain ⟨as,r1⟩:=Dp.reads I d x v hd rx
 obtain ⟨bs,r2⟩:=Dp.reads I e y u he ry
 exact SeqAt.compareEq_shaped r1 r2 sd se hu ⟨.bl _,H,I,rfl,q⟩
theorem Bk (hu:X.A.units+64<cLine):OpR X (compareOp .NotEq) (rNeD X.K):=by
 intro pins s σ H x y v u Q I rx ry h
 obtain ⟨d,e,hd,he,sd,se,q⟩:=h
 obtain ⟨as,r1⟩:=Dp.reads I d x v hd rx
 obtain ⟨bs,r2⟩:=Dp.reads I e y u he ry
 exact SeqAt.compareNe_shaped r1 r2 sd se hu ⟨.bl _,H,I,rfl,q⟩
end
end L2
namespace L2
open PySem PySem.Spec PyProof.Rows
abbrev dv (h:Heap)(c:Addr)(v:Option Value):Prop:=h.IsCell c v
def relS (scope sc:Scope):Scope:=
 {scope with names:=scope.names.map fun (n,k)=>if (k==.free&&sc.kind==.function&&sc.names.lookup n==some .cell) then (n,.cell) else (n,k)}
def bJ (cells:List (Str×Addr)):List (Str×NameKind)→List (Str×Addr)→List (Str×Addr)
 | [],acc=>acc
 | (n,k)::r,acc=>if k==.free then bJ cells r ((n,(cells.lookup n).getD 0)::acc) else bJ cells r acc
theorem jy (env:Env)(f:Str×NameKind→List (Str×Addr)→Sem (ForInStep (List (Str×Addr))))
  (hf:∀ n k c,f (n,k) c=if k==.free then (do let a ← cellOf env n;pure (.yield ((n,a)::c))) else pure (.yield c)):
  ∀ (names:List (Str×NameKind)) (acc:List (Str×Addr)),(∀ y∈names,y.2=.free→∃ c,env.cells.lookup y.1=some c)→forIn names acc f=pure (bJ env.cells names acc)
 | [],acc,_=>by rw[forIn_nil];rfl
 | (n,k)::r,acc,h=>by
  rw[forIn_cons,hf]
  have ih:=fun acc=>jy env f hf r acc fun y hy=>h y (mem_cons_of_mem _ hy)
  unfold bJ
  by_cases hk:(k==NameKind.free)=true
  ·rw[if_pos hk,if_pos hk]
   obtain ⟨c,hc⟩:=h (n,k) mem_cons_self (by simpa using hk)
   have e:cellOf env n=pure c:=by unfold cellOf;rw[hc]
   rw[e]
   have e2:(env.cells.lookup n).getD 0=c:=by rw[hc];rfl
   rw[e2]
   exact ih _
  ·rw[if_neg hk,if_neg hk]
   exact ih _
theorem gu {scope:Scope}{env:Env}(h:∀ y∈scope.names,y.2=.free→∃ c,env.cells.lookup y.1=some c):closureFor scope env=pure (bJ env.cells scope.names []):=by
 simp only[closureFor]
 rw[jy env _ (fun n k c=>rfl) scope.names [] h]
 rfl
theorem ja {α:Type}:∀ {l:List (Str×α)} {n:Str} {c:α},(n,c)∈l→∃ c',l.lookup n=some c'
 | (k,v)::r,n,c,h=>by
  rw[lookup_cons]
  cases hb:n==k with
  | true=>exact ⟨_,rfl⟩
  | false=>
   rcases Mc h with e|h
   ·cases e;simp at hb
   ·exact ja h
theorem fv {cells:List (Str×Addr)}:∀ {names:List (Str×NameKind)} {acc:List (Str×Addr)} {n:Str} {c:Addr},(n,c)∈bJ cells names acc→(n,c)∈acc∨((n,.free)∈names∧c=(cells.lookup n).getD 0)
 | [],_,_,_,h=>.inl h
 | (m,k)::r,acc,n,c,h=>by
  unfold bJ at h
  split at h
  ·rename_i hk
   have hk:k=.free:=by simpa using hk
   rcases fv h with h|⟨h1,h2⟩
   ·rcases Mc h with e|h
    ·cases e;exact .inr ⟨hk▸mem_cons_self,rfl⟩
    ·exact .inl h
   ·exact .inr ⟨mem_cons_of_mem _ h1,h2⟩
  ·rcases fv h with h|⟨h1,h2⟩
   ·exact .inl h
   ·exact .inr ⟨mem_cons_of_mem _ h1,h2⟩
theorem hX {cells:List (Str×Addr)}:∀ {names:List (Str×NameKind)} {acc:List (Str×Addr)} {p:Str×Addr},p∈acc→p∈bJ cells names acc
 | [],_,_,h=>h
 | (m,k)::r,acc,p,h=>by
  unfold bJ
  split
  ·exact hX (mem_cons_of_mem _ h)
  ·exact hX h
theorem hJ {cells:List (Str×Addr)}:∀ {names:List (Str×NameKind)} {acc:List (Str×Addr)} {n:Str},(n,.free)∈names→(n,(cells.lookup n).getD 0)∈bJ cells names acc
 | (m,k)::r,acc,n,h=>by
  unfold bJ
  rcases Mc h with e|h
  ·cases e
   exact hX mem_cons_self
  ·split
   ·exact hJ h
   ·exact hJ h
theorem fW:∀ {names:List (Str×NameKind)} {h:Heap} {acc:List (Str×Addr)} {x:Str} {c:Addr},(x,c)∈cellsFrom h.objs.size names acc→
  (x,c)∈acc∨((x,.cell)∈names∧h.objs.size≤c∧dv (pushCells h names) c none)
 | [],_,_,_,_,h=>.inl h
 | (n,k)::r,h,acc,x,c,hm=>by
  unfold cellsFrom at hm
  unfold pushCells
  split at hm
  ·rename_i hk
   rw[if_pos hk]
   have hk:k=.cell:=by simpa using hk
   rw[←Heap.size_push h {cls:=.type "cell",data:=.cell none}] at hm
   rcases fW hm with hm|⟨h1,h2,h3⟩
   ·rcases Mc hm with e|hm
    ·cases e
     exact .inr ⟨hk▸mem_cons_self,Nat.le_refl _,_,pushCells_keeps r _ _ _ (Heap.get?_push_size _ rfl),rfl⟩
    ·exact .inl hm
   ·rw[Heap.size_push] at h2
    exact .inr ⟨mem_cons_of_mem _ h1,Nat.le_of_succ_le h2,h3⟩
  ·rename_i hk
   rw[if_neg hk]
   rcases fW hm with hm|⟨h1,h2,h3⟩
   ·exact .inl hm
   ·exact .inr ⟨mem_cons_of_mem _ h1,h2,h3⟩
theorem iO:∀ {names:List (Str×NameKind)} {n:Nat} {acc:List (Str×Addr)} {p:Str×Addr},p∈acc→p∈cellsFrom n names acc
 | [],_,_,_,h=>h
 | (m,k)::r,n,acc,p,h=>by
  unfold cellsFrom
  split
  ·exact iO (mem_cons_of_mem _ h)
  ·exact iO h
theorem kY:∀ {names:List (Str×NameKind)} {n:Nat} {acc:List (Str×Addr)} {x:Str},(x,.cell)∈names→∃ c,(x,c)∈cellsFrom n names acc
 | (m,k)::r,n,acc,x,h=>by
  unfold cellsFrom
  rcases Mc h with e|h
  ·cases e
   exact ⟨n,iO mem_cons_self⟩
  ·split
   ·exact kY h
   ·exact kY h
theorem kX:∀ {names:List (Str×NameKind)} {h:Heap} {acc:List (Str×Addr)} {x y:Str} {c:Addr},(∀ p∈acc,p.2<h.objs.size)→(∀ x y c,(x,c)∈acc→(y,c)∈acc→x=y)→
  (x,c)∈cellsFrom h.objs.size names acc→(y,c)∈cellsFrom h.objs.size names acc→x=y
 | [],_,_,_,_,_,_,hi,h1,h2=>hi _ _ _ h1 h2
 | (n,k)::r,h,acc,x,y,c,hl,hi,h1,h2=>by
  unfold cellsFrom at h1 h2
  split at h1
  ·rename_i hk
   rw[if_pos hk] at h2
   rw[←Heap.size_push h {cls:=.type "cell",data:=.cell none}] at h1 h2
   refine kX (h:=h.push _) (fun p hp=>?_) (fun x y c a b=>?_) h1 h2
   ·rw[Heap.size_push]
    rcases Mc hp with rfl|hp
    ·exact Nat.lt_succ_self _
    ·exact Nat.lt_succ_of_lt (hl p hp)
   ·rcases Mc a with e|a <;> rcases Mc b with e'|b
    ·cases e;cases e';rfl
    ·cases e;exact absurd (hl _ b) (Nat.lt_irrefl _)
    ·cases e';exact absurd (hl _ a) (Nat.lt_irrefl _)
    ·exact hi _ _ _ a b
  ·rename_i hk
   rw[if_neg hk] at h2
   exact kX hl hi h1 h2
theorem qA {M:Model}{A:Around}{E:Value→Shared→Prop}{s:Shared}{scope:Scope}{globals:Addr}{closure:List (Str×Addr)}{qual:Str}{func:Option Addr}{code:Value}{around:Env}{builtins:Addr}{Q:Env→Shared→Prop}
  (h:Q (newEnv scope s.heap.objs.size globals (cellsFrom (s.heap.objs.size+1) scope.names closure) qual func code (some around) builtins)
   {s with heap:=pushCells (s.heap.push {cls:=.type "dict",data:=.dict #[]}) scope.names}):
  wpAny M A (newFunctionEnv scope globals closure [] qual func code (some around) builtins) Q E s:=by
 simp only[newFunctionEnv,Option.isSome_some,if_true]
 refine wpAny_bind (wpAny_alloc ?_)
 refine wpAny_bind (wpAny_layCells _ (fun n k c=>rfl) scope.names closure _ _ ?_)
 rw[show ({s with heap:=s.heap.push {cls:=.type "dict",data:=.dict #[]}}:Shared).heap.objs.size=s.heap.objs.size+1 from Heap.size_push ..]
 rw[forIn_nil]
 exact wpAny_bind (wpAny_pure (wpAny_pure h))
theorem gU {sc:Scope}:∀ {names:List (Str×NameKind)} {x:Str} {k:NameKind},
  (names.map fun (n,k)=>if (k==NameKind.free&&sc.kind==.function&&sc.names.lookup n==some .cell) then (n,NameKind.cell) else (n,k)).lookup x=some k→
  ∃ k',names.lookup x=some k'∧(k=k'∨(k'=.free∧k=.cell))
 | [],_,_,h=>by simp at h
 | (n,k₀)::r,x,k,h=>by
  have ih:=@gU sc r x k
  have h':List.lookup x ((if (k₀==NameKind.free&&sc.kind==.function&&sc.names.lookup n==some .cell)=true then (n,NameKind.cell) else (n,k₀))::(r.map _))=some k:=h
  cases hx:x==n with
  | true=>
   simp only[lookup_cons,hx]
   by_cases hc:(k₀==NameKind.free&&sc.kind==.function&&sc.names.lookup n==some .cell)=true
   ·rw[if_pos hc] at h'
    simp only[lookup_cons,hx] at h'
    cases h'
    simp only[Bool.and_eq_true,beq_iff_eq] at hc
    exact ⟨k₀,rfl,.inr ⟨hc.1.1,rfl⟩⟩
   ·rw[if_neg hc] at h'
    simp only[lookup_cons,hx] at h'
    cases h'
    exact ⟨_,rfl,.inl rfl⟩
  | false=>
   simp only[lookup_cons,hx]
   by_cases hc:(k₀==NameKind.free&&sc.kind==.function&&sc.names.lookup n==some .cell)=true
   ·rw[if_pos hc] at h'
    simp only[lookup_cons,hx] at h'
    exact ih h'
   ·rw[if_neg hc] at h'
    simp only[lookup_cons,hx] at h'
    exact ih h'
structure xh (N:List Str)(sc scope:Scope)(own:List (Str×Nat)):Prop where
 kind:scope.kind=.function
 uniq:∀ y∈scope.names,scope.names.lookup y.1=some y.2
 ix:∀ p∈own,N[p.2]?=some p.1
 free:∀ y∈scope.names,y.2=.free→sc.names.lookup y.1=some .cell∨sc.names.lookup y.1=some .free
 own:∀ y∈scope.names,y.2=.local∨y.2=.cell→y.1∈own.map (·.1)∨y.1∉N
def gw (σ:St):List Nat→St
 | []=>σ
 | v::vs=>(gw σ vs).set v none
theorem gE (σ:St):∀ vs:List Nat,(gw σ vs).length=σ.length
 | []=>rfl
 | v::vs=>by unfold gw;rw[length_set,gE σ vs]
theorem jT {σ:St}{i:Nat}{x:V}:∀ {vs:List Nat},(gw σ vs)[i]?=some (some x)→σ[i]?=some (some x)∧i∉vs
 | [],h=>⟨h,by simp⟩
 | v::vs,h=>by
  unfold gw at h
  by_cases hi:v=i
  ·subst hi
   by_cases hv:v<(gw σ vs).length
   ·rw[getElem?_set_self hv] at h;cases h
   ·rw[getElem?_eq_none (by simpa using hv)] at h;cases h
  ·rw[getElem?_set_ne hi] at h
   obtain ⟨h1,h2⟩:=jT h
   exact ⟨h1,by simp only[mem_cons,not_or];exact ⟨fun e=>hi e.symm,h2⟩⟩
abbrev Cx.blk (X:Cx)(s:Shared)(H:Hp)(scope:Scope)(cenv:Env)(fp:List Addr):Cx:={X with s_0:=s,H_0:=H,env:=cenv,outer:=X.stack,ex:=fp,fn:=fun x=>scope.names.lookup x==some .cell,pn:=[],xe:=fun _ _=>False}
section
variable {X:Cx} {pins:List (Addr×Obj)} {σ:St} {H:Hp} {s:Shared}
theorem qO {scope:Scope}{own:List (Str×Nat)}{fp:List Addr}(I:Inv X pins σ H s)(ok:xh X.N X.env.scope scope own)(hN:X.N.Nodup)(hfp:∀ b∈fp,t9 X pins H b∧b<s.heap.objs.size):
  Inv (X.blk s H scope (compEnvC scope (cellsFrom (s.heap.objs.size+1) scope.names (bJ X.env.cells scope.names [])) s.heap.objs.size X.env) fp) [] (gw σ (own.map (·.2))) H {s with heap:=pushCells (s.heap.push {cls:=.type "dict",data:=.dict #[]}) scope.names}:=by
 have hfree:∀ y∈scope.names,y.2=.free→∃ c,X.env.cells.lookup y.1=some c:=fun y hy e=>by
  rcases ok.free y hy e with k|k
  ·exact I.ok.has _ (.inl k)
  ·exact I.ok.has _ (.inr k)
 generalize hcenv:compEnvC scope (cellsFrom (s.heap.objs.size+1) scope.names (bJ X.env.cells scope.names [])) s.heap.objs.size X.env=cenv
 have kp:∀ b o,s.heap.get? b=some o→(pushCells (s.heap.push {cls:=.type "dict",data:=.dict #[]}) scope.names).get? b=some o:=fun b o e=>pushCells_keeps _ _ _ _ (Heap.get?_push_of_some _ e)
 have hL:cenv.locals=s.heap.objs.size:=by rw[←hcenv];rfl
 have hcl:cenv.cells=cellsFrom (s.heap.objs.size+1) scope.names (bJ X.env.cells scope.names []):=by rw[←hcenv];rfl
 have hsc:cenv.scope=relS scope X.env.scope:=by rw[←hcenv];rfl
 rw[←Heap.size_push s.heap {cls:=.type "dict",data:=.dict #[]}] at hcl
 have cm:∀ {y c},(y,c)∈bJ X.env.cells scope.names []→X.env.cells.lookup y=some c∧c<s.heap.objs.size:=fun {y c} hm=>by
  rcases fv hm with hm|⟨h1,rfl⟩
  ·cases hm
  ·obtain ⟨c,hc⟩:=hfree _ h1 rfl
   rw[hc]
   obtain ⟨w,z⟩:=I.cell _ _ hc
   exact ⟨rfl,z.lt⟩
 have mem:∀ {y c},cenv.cells.lookup y=some c→(X.env.cells.lookup y=some c∧c<s.heap.objs.size)∨(s.heap.objs.size+1≤c∧dv (pushCells (s.heap.push {cls:=.type "dict",data:=.dict #[]}) scope.names) c none):=fun {y c} e=>by
  rw[hcl] at e
  rcases fW (PySem.mem_of_lookup e) with hm|⟨_,h2,h3⟩
  ·exact .inl (cm hm)
  ·rw[Heap.size_push] at h2;exact .inr ⟨h2,h3⟩
 have look:∀ {y},scope.names.lookup y=some .free→∃ c,cenv.cells.lookup y=some c∧X.env.cells.lookup y=some c:=fun {y} hl=>by
  have hy:(y,NameKind.free)∈scope.names:=PySem.mem_of_lookup hl
  obtain ⟨c',e'⟩:=ja (iO (names:=scope.names) (n:=(s.heap.push {cls:=.type "dict",data:=.dict #[]}).objs.size) (hJ (cells:=X.env.cells) (acc:=[]) hy))
  rw[←hcl] at e'
  refine ⟨c',e',?_⟩
  rw[hcl] at e'
  rcases fW (PySem.mem_of_lookup e') with hm|⟨h1,_,_⟩
  ·exact (cm hm).1
  ·have:=ok.uniq _ h1
   rw[hl] at this;cases this
 have okB:(X.blk s H scope cenv fp).Ok:=by
  refine ⟨I.ok.mod,by show cenv.scope.kind=_;rw[hsc];exact ok.kind,by show cenv.globals=_;rw[←hcenv];exact I.ok.glob,by show cenv.builtins=_;rw[←hcenv];exact I.ok.blt,by show s.heap.objs.size≤cenv.locals;rw[hL];exact Nat.le_refl _,
   fun y z c e1 e2=>?_,fun y hy=>?_,fun y c z e=>?_,I.ok.hd,I.ok.frames,.inl rfl,fun b hb=>⟨?_,fun y c e z=>?_⟩,I.bs,Nat.le_trans I.ok.bsz I.sz,fun b o e hb=>?_,fun b hb z=>?_,I.stack,I.stkFree⟩
  ·have e1:cenv.cells.lookup y=some c:=e1
   have e2:cenv.cells.lookup z=some c:=e2
   rw[hcl] at e1 e2
   refine kX (fun p hp=>?_) (fun y z c a b=>I.ok.inj y z c (cm a).1 (cm b).1) (PySem.mem_of_lookup e1) (PySem.mem_of_lookup e2)
   rw[Heap.size_push]
   exact Nat.lt_succ_of_lt (cm (y:=p.1) (c:=p.2) hp).2
  ·show ∃ c,cenv.cells.lookup y=some c
   have key:∀ k,cenv.kindOf y=some k→(k=.cell∨k=.free)→∃ c,cenv.cells.lookup y=some c:=fun k hk hk'=>by
    unfold Env.kindOf at hk
    rw[hsc] at hk
    obtain ⟨k',e,r⟩:=gU hk
    have:k'=.cell∨k'=.free:=by
     rcases r with rfl|⟨rfl,_⟩
     ·exact hk'
     ·exact .inr rfl
    rcases this with rfl|rfl
    ·obtain ⟨c,hm⟩:=kY (n:=(s.heap.push {cls:=.type "dict",data:=.dict #[]}).objs.size) (acc:=bJ X.env.cells scope.names []) (PySem.mem_of_lookup e)
     obtain ⟨c',e'⟩:=ja hm
     exact ⟨c',by rw[hcl];exact e'⟩
    ·obtain ⟨c,h1,_⟩:=look e
     exact ⟨c,h1⟩
   rcases hy with hy|hy
   ·exact key _ hy (.inl rfl)
   ·exact key _ hy (.inr rfl)
  ·have z:(scope.names.lookup y==some NameKind.cell)=true:=z
   have z:scope.names.lookup y=some .cell:=by simpa using z
   have e:cenv.cells.lookup y=some c:=e
   rw[hcl] at e
   rcases fW (PySem.mem_of_lookup e) with hm|⟨_,h2,_⟩
   ·rcases fv hm with hm|⟨h1,_⟩
    ·cases hm
    ·have q:=ok.uniq _ h1
     rw[z] at q;cases q
   ·rw[Heap.size_push] at h2
    exact Nat.le_of_succ_le h2
  ·show b≠cenv.locals
   rw[hL];exact Nat.ne_of_lt (hfp b hb).2
  ·have e:cenv.cells.lookup y=some c:=e
   rcases mem e with ⟨h1,_⟩|⟨h1,_⟩
   ·exact (hfp b hb).1.2.2.2.2.1 y c h1 z
   ·have h2:s.heap.objs.size+1≤b:=by rw[←z];exact h1
    exact absurd (Nat.lt_of_lt_of_le (hfp b hb).2 (Nat.le_of_succ_le h2)) (Nat.lt_irrefl _)
  ·rcases (hfp b hb).1.2.2.2.1 with z|z
   ·exact I.ok.noex b o e z
   ·exact absurd (Nat.lt_of_lt_of_le (Heap.lt_size e) (Nat.le_trans I.ok.bsz z)) (Nat.lt_irrefl _)
  ·rcases Mc (I.stkSub b z) with z|z
   ·exact (hfp b hb).1.2.1 z
   ·exact (hfp b hb).1.2.2.1 z
 refine ⟨okB,rfl,I.bare,Un.kept kp,⟨fun _=>none,?_,fun i y av e1 e2 e3=>?_⟩,fun y c e=>?_,?_,fun y c e=>?_,fun p hp=>?_,I.hok.kept kp,by rw[gE];exact I.len⟩
 ·show Heap.Ns _ cenv.locals _
  rw[hL]
  exact Heap.Ns.keeps (Heap.Ns.new ..) fun b o e=>pushCells_keeps _ _ _ _ e
 ·obtain ⟨e2,hne⟩:=jT e2
  have hfr:scope.names.lookup y=some .free∧(cenv.kindOf y=some .cell∨cenv.kindOf y=some .free):=by
   have key:∀ k,cenv.scope.names.lookup y=some k→k=.local∨k=.cell∨k=.free→scope.names.lookup y=some .free∧(cenv.kindOf y=some .cell∨cenv.kindOf y=some .free):=fun k hk hk'=>by
    have hk0:=hk
    rw[hsc] at hk
    obtain ⟨k',e,r⟩:=gU hk
    have no:¬(k'=.local∨k'=.cell):=fun hh=>by
     rcases ok.own _ (PySem.mem_of_lookup e) hh with e'|e'
     ·obtain ⟨p,hp,hpy⟩:=mem_map.mp e'
      have e3:=ok.ix p hp
      have:p.1=y:=hpy
      rw[this] at e3
      exact hne (mem_map.mpr ⟨p,hp,mT hN e3 e1⟩)
     ·exact e' (mem_of_getElem? e1)
    rcases r with rfl|⟨rfl,rfl⟩
    ·rcases hk' with rfl|rfl|rfl
     ·exact absurd (.inl rfl) no
     ·exact absurd (.inr rfl) no
     ·exact ⟨e,.inr hk0⟩
    ·exact ⟨e,.inl hk0⟩
   have e3:Vis cenv.scope y:=e3
   rcases e3 with e3|e3|e3
   ·exact key _ e3 (.inl rfl)
   ·exact key _ e3 (.inr (.inl rfl))
   ·exact key _ e3 (.inr (.inr rfl))
  obtain ⟨m,hn,hl⟩:=I.loc
  have hvis:Vis X.env.scope y:=(ok.free _ (PySem.mem_of_lookup hfr.1) rfl).elim (fun k=>.inr (.inl k)) (fun k=>.inr (.inr k))
  obtain ⟨w,r,q⟩:=hl i y av e1 e2 hvis
  refine ⟨w,r,.inr ⟨hfr.2,?_⟩⟩
  obtain ⟨c,h1,h2⟩:=look hfr.1
  rcases q with ⟨k,_⟩|⟨_,c',e',z⟩
  ·have k:X.env.scope.names.lookup y=some .local:=k
   rcases ok.free _ (PySem.mem_of_lookup hfr.1) rfl with k'|k' <;> rw[show X.env.scope.names.lookup y=_ from k'] at k <;> cases k
  ·rw[h2] at e';cases e'
   exact ⟨c,h1,z.keeps kp⟩
 ·have e:cenv.cells.lookup y=some c:=e
  rcases mem e with ⟨h1,_⟩|⟨_,z⟩
  ·obtain ⟨w,z⟩:=I.cell y c h1
   exact ⟨w,z.keeps kp⟩
  ·exact ⟨_,z⟩
 ·show H cenv.locals=none
  rw[hL];exact I.hok.fresh (Nat.le_refl _)
 ·have e:cenv.cells.lookup y=some c:=e
  rcases mem e with ⟨h1,_⟩|⟨h1,_⟩
  ·exact I.freeC y c h1
  ·exact I.hok.fresh (Nat.le_of_succ_le h1)
 ·exact absurd (show p∈([]:List (Addr×Obj))++[] from hp) (by simp)
theorem BP {E:Value→Shared→Prop}{D:Addr}{xs:List V}{y:V}{v:Value}{Q:Value→Shared→Prop}(I:Inv X pins σ H s)(hD:H D=some (.lst xs))(hz:xs.length<sizeLine)(r:cD y v)
  (h:∀ s',Inv X pins σ (upd H D (.lst (xs++[y]))) s'→Q .none s'):wpAny (model X.prog X.w) X.A (call (.builtin "list.append") [.ref D,v]) Q E s:=by
 obtain ⟨hz',its,n,ri,e⟩:=I.hok D _ hD
 have hl:=ri.length
 refine append_at (hsz:=by rw[size_toArray];omega) e fun h' sb ho'=>?_
 refine h {s with heap:=h'} (I.write (t':=s.toks) (by rw[hD];trivial) (.inl rfl) (fun b u hb q=>(sb.2 b hb).trans q) ⟨_,ho'⟩ ⟨by rw[length_append];exact hz,its++[v],n+1,ri.append (.cons r .nil),?_⟩)
 rw[ho']
 simp
def PTs (X:Cx)(ifs:List Expr)(t:TT):Prop:=
 ∀ (pins:List (Addr×Obj)) (s:Shared) (σ:St) (H:Hp) (Q:Bool→Hp→Prop),Inv X pins σ H s→t σ H Q→
  wpAny (model X.prog X.w) X.A (forIn ifs true fun c r=>if r=true then do let ok ← isTrue c X.env (eval c X.env);pure (ForInStep.yield ok) else pure (ForInStep.yield r)) (TP X pins σ Q) X.xe s
def tYes:TT:=fun _ H Q=>Q true H
theorem cF:PTs X [] tYes:=fun _ _ _ H _ I h=>wpAny_tests_nil ⟨H,I,h⟩
theorem qe {c:Expr}{t:TT}(h:PT X c t):PTs X [c] t:=fun pins s σ H Q I hw=>wpAny_tests_one (h pins s σ H Q I hw)
end
theorem AO {α:Type}{t:Sem α}{Q Q':α→Shared→Prop}{M:Model}{A:Around}{E:Value→Shared→Prop}{s:Shared}(h:wpAny M A t Q (fun _ _=>False) s)(hQ:∀ a s,Q a s→Q' a s):wpAny M A t Q' E s:=wpAny_mono h hQ fun _ _ z=>False.elim z
theorem oI {prog:Program}{w:World}{A:Around}{R:Result→Shared→Prop}{s:Shared}{elt target iter:Expr}{ifs:List Expr}{scope:Scope}{pos:Pos}{it acc:Value}{env:Env}(I:Nat→Shared→Prop)
  (turn:∀ n s,I n s→wpAny (model prog w) A (pyNext it) (fun r s₁=>match r with
   | none=>R (.ok .next) s₁
   | some v=>wpAny (model prog w) A (letOwnedTupleGo target it v) (fun _ s₁'=>wpAny (model prog w) A (assign target env v) (fun _ s₂=>
     wpAny (model prog w) A (forIn ifs true fun c r=>if r=true then do let ok ← isTrue c env (eval c env);pure (ForInStep.yield ok) else pure (ForInStep.yield r)) (fun ok s₃=>
      if ok=true then wpAny (model prog w) A (eval elt env) (fun x s₄=>
       wpAny (model prog w) A (call (.builtin "list.append") [acc,x]) (fun _ s₅=>∃ m,m<n∧I m s₅) (notedBy (model prog w) A env fun e s'=>R (.error e) s') s₄) (notedBy (model prog w) A env fun e s'=>R (.error e) s') s₃
      else ∃ m,m<n∧I m s₃) (notedBy (model prog w) A env fun e s'=>R (.error e) s') s₂) (notedBy (model prog w) A env fun e s'=>R (.error e) s') s₁') (notedBy (model prog w) A env fun e s'=>R (.error e) s') s₁) (notedBy (model prog w) A env fun e s'=>R (.error e) s') s)
  (n:Nat)(h:I n s):
  codeAny (model prog w) A (.compLoop (.ListComp elt [⟨target,iter,ifs,0⟩] scope pos) 0 it acc env) R s:=by
 refine codeAny_loop rfl I (fun n s hI=>?_) n h
 show wpAny _ A ((compTurn (.ListComp elt [⟨target,iter,ifs,0⟩] scope pos) 0 it acc env).onRaise (fun x=>do noteFrame x env;theTreesLotGoes x)) _ _ s
 refine wpAny_noted ?_
 rw[compTurn_list]
 refine wpAny_bind (wpAny_standAt (wpAny_bind (wpAny_mono (turn n s hI) (fun r s₁ h₁=>?_) fun _ _ h'=>h')))
 cases r with
 | none=>exact wpAny_pure h₁
 | some v=>
  refine wpAny_bind (wpAny_mono h₁ (fun _ s₁' h₁'=>?_) fun _ _ h'=>h')
  refine wpAny_bind (wpAny_mono h₁' (fun _ s₂ h₂=>wpAny_bind (wpAny_mono h₂ (fun ok s₃ h₃=>?_) fun _ _ h'=>h')) fun _ _ h'=>h')
  cases ok with
  | false=>exact wpAny_pure ⟨rfl,h₃⟩
  | true=>
   exact wpAny_bind (wpAny_bind (wpAny_mono h₃ (fun x s₄ h₄=>wpAny_bind (wpAny_mono h₄ (fun _ s₅ h₅=>wpAny_pure (wpAny_pure ⟨rfl,h₅⟩)) fun _ _ h'=>h')) fun _ _ h'=>h'))
section
variable {X:Cx}
def tLc (wi:TI)(g:TG)(tt:TT)(te:TE)(vs:List Nat):TE:=fun σ H Q=>wi σ H fun J H1=>∀ D,H1 D=none→∃ W:Nat→Nat→Hp→Prop,(∃ m,W 0 m (upd H1 D (.lst [])))∧∀ i m H,W i m H→
 (J.stop i H∧Q (.ref D) H)∨(J.go i H∧∃ Nx:Hp→Prop,(∀ H',Nx H'→∃ m',m'<m∧W (i+1) m' H')∧∀ x H',J.yld i H x H'→g x (gw σ vs) H' fun σ2 H2=>gw σ2 vs=gw σ vs∧tt σ2 H2 fun b H3=>
  if b=true then te σ2 H3 fun y H4=>∃ acc,H4 D=some (.lst acc)∧acc.length<sizeLine∧Nx (upd H4 D (.lst (acc++[y]))) else Nx H3)
theorem wl {pins:List (Addr×Obj)}{s:Shared}{σ:St}{H:Hp}{Q:VK}{elt tg iter:Expr}{ifs:List Expr}{scope:Scope}{own:List (Str×Nat)}{pos pos':Pos}{wi:TI}{g:TG}{tt:TT}{te:TE}{use:Option (Value→Sem Unit)}{Qf:Value→Shared→Prop}
  (hc:X.calm=true)(hN:X.N.Nodup)(I:Inv X pins σ H s)(hi:PI X tg iter wi)(ok:xh X.N X.env.scope scope own)
  (hg:∀ (s:Shared) (H:Hp) (C:Addr) (cl:List (Str×Addr)) (fp:List Addr),PG (X.blk s H scope (compEnvC scope cl C X.env) fp) tg g)(ht:∀ (s:Shared) (H:Hp) (C:Addr) (cl:List (Str×Addr)) (fp:List Addr),PTs (X.blk s H scope (compEnvC scope cl C X.env) fp) ifs tt)
  (he:∀ (s:Shared) (H:Hp) (C:Addr) (cl:List (Str×Addr)) (fp:List Addr),PE (X.blk s H scope (compEnvC scope cl C X.env) fp) elt te)(hs:∀ x,foldedSetIterable iter X.env x=pure x)
  (h:tLc wi g tt te (own.map (·.2)) σ H Q)
  (hRR:∀ D C s' m H',Inv X pins σ H' s'→Q (.ref D) H'→s'.heap.Ns C m→t9 X pins H' C→compPost (model X.prog X.w) X.A X.xe use Qf (.ref D) C (.ok .next) s'):
  wpAny (model X.prog X.w) X.A (comprehension (.ListComp elt [⟨tg,iter,ifs,0⟩] scope pos) scope X.env pos' (newList []) false (eval iter X.env) use) Qf X.xe s:=by
 have hfree:∀ y∈scope.names,y.2=.free→∃ c,X.env.cells.lookup y.1=some c:=fun y hy e=>by
  rcases ok.free y hy e with k|k
  ·exact I.ok.has _ (.inl k)
  ·exact I.ok.has _ (.inr k)
 refine wpAny_comprehension_free (use:=use) rfl hs (gu hfree) ok.kind (fun y hy e=>by rw[ok.uniq y hy,e])
  (thn (hi pins s σ H _ I h) fun xv s1 hx=>thn hx fun itv s2 h2=>?_)
 obtain ⟨it,fp,tn,J,H2,e,I2,T,st2,f2,q⟩:=h2
 subst e
 refine wpAny_newObj_type (qA ?_) (by show 0≤sizeLine;decide)
 generalize hD:s2.heap.objs.size=D
 have hDn:H2 D=none:=I2.hok.fresh (Nat.le_of_eq hD)
 obtain ⟨W,⟨m0,w0⟩,turn⟩:=q D hDn
 generalize hs3:({s2 with heap:=s2.heap.push {cls:=.type "list",data:=.seq ([]:List Value).toArray}}:Shared)=s3
 have I3:Inv X pins σ (upd H2 D (.lst [])) s3:=by
  rw[←hs3]
  refine I2.laid (t':=s2.toks) (fun b o e=>Heap.get?_push_of_some _ e) (Nat.le_of_eq hD) ⟨Nat.zero_le _,[],0,.nil,?_⟩
  rw[←hD]
  exact Heap.get?_push_size _ rfl
 have h3:s3.heap=s2.heap.push {cls:=.type "list",data:=.seq ([]:List Value).toArray}:=by rw[←hs3]
 have sz:∀ b∈fp,b<s2.heap.objs.size:=fun b hb=>by
  obtain ⟨o,e,_⟩:=T.obj _ _ st2 b hb
  exact Heap.lt_size e
 have f3:∀ b∈fp,t9 X pins (upd H2 D (.lst [])) b∧b<s3.heap.objs.size:=fun b hb=>by
  have hlt:=sz b hb
  refine ⟨⟨?_,(f2 b hb).2⟩,by rw[h3,Heap.size_push];exact Nat.lt_succ_of_lt hlt⟩
  rw[ai (by rw[←hD];exact Nat.ne_of_lt hlt)]
  exact (f2 b hb).1
 have st3:tn 0 s3.heap:=T.keep _ _ _ st2 fun b _ o e=>by rw[h3];exact Heap.get?_push_of_some _ e
 have I4:=qO I3 ok hN f3
 have pg:=hg s3 (upd H2 D (.lst [])) s3.heap.objs.size (cellsFrom (s3.heap.objs.size+1) scope.names (bJ X.env.cells scope.names [])) fp
 have pt:=ht s3 (upd H2 D (.lst [])) s3.heap.objs.size (cellsFrom (s3.heap.objs.size+1) scope.names (bJ X.env.cells scope.names [])) fp
 have pe:=he s3 (upd H2 D (.lst [])) s3.heap.objs.size (cellsFrom (s3.heap.objs.size+1) scope.names (bJ X.env.cells scope.names [])) fp
 show codeAny _ _ (.compStart (.ListComp elt [⟨tg,iter,ifs,0⟩] scope pos) 0 (.ref it) (.ref D) (compEnvC scope (cellsFrom (s3.heap.objs.size+1) scope.names (bJ X.env.cells scope.names [])) s3.heap.objs.size X.env)) (compPost (model X.prog X.w) X.A X.xe use Qf (.ref D) s3.heap.objs.size) {s3 with heap:=pushCells (s3.heap.push {cls:=.type "dict",data:=.dict #[]}) scope.names}
 have nfp:∀ b∈fp,(upd H2 D (.lst [])) b=none:=fun b hb=>(f3 b hb).1.1
 generalize hce:compEnvC scope (cellsFrom (s3.heap.objs.size+1) scope.names (bJ X.env.cells scope.names [])) s3.heap.objs.size X.env=ce at I4 pg pt pe ⊢
 have cL:ce.locals=s3.heap.objs.size:=by subst hce;rfl
 generalize hH3:upd H2 D (.lst [])=H3 at I3 I4 pg pt pe w0 nfp f3
 generalize hs4:({s3 with heap:=pushCells (s3.heap.push {cls:=.type "dict",data:=.dict #[]}) scope.names}:Shared)=s4 at I4 ⊢
 have st4:tn 0 s4.heap:=T.keep _ _ _ st3 fun b _ o e=>by rw[←hs4];exact pushCells_keeps _ _ _ _ (Heap.get?_push_of_some _ e)
 have stat:∀ {σ':St} {H':Hp} {s':Shared},Inv (X.blk s3 H3 scope ce fp) [] σ' H' s'→(∀ b∈fp,H' b=none)→∀ b∈fp,t9 (X.blk s3 H3 scope ce fp) [] H' b:=fun {σ' H' s'} I' hn b hb=>
  ⟨hn b hb,(I'.ok.exf b hb).1,I'.ok.exfs b hb,.inl hb,fun x c e=>(I'.ok.exf b hb).2 x c e,fun p hp=>absurd (show p∈([]:List (Addr×Obj))++[] from hp) (by simp)⟩
 have loop:codeAny (model X.prog X.w) X.A (.compLoop (.ListComp elt [⟨tg,iter,ifs,0⟩] scope pos) 0 (.ref it) (.ref D) ce) (compPost (model X.prog X.w) X.A X.xe use Qf (.ref D) s3.heap.objs.size) s4:=by
  refine oI (fun n s'=>∃ i H',Inv (X.blk s3 H3 scope ce fp) [] (gw σ (own.map (·.2))) H' s'∧tn i s'.heap∧(∀ b∈fp,H' b=none)∧W i n H') ?_ m0 ⟨0,H3,I4,st4,nfp,w0⟩
  rintro n s5 ⟨i,H5,I5,st5,n5,w5⟩
  rcases turn i n H5 w5 with ⟨stop,qq⟩|⟨go,Nx,hNx,step⟩
  ·have td:=T.done (X.blk s3 H3 scope ce fp) rfl rfl rfl hc i [] s5 _ H5 (fun _ _=>False) I5 (stat I5 n5) st5 stop
   refine AO td fun r s6 ⟨hr,I6⟩=>?_
   subst hr
   have I7:Inv X pins σ H5 s6:=I3.call' (ch:=fp) I6.os I6.base I6.hok I6.bare fun b hb=>⟨(f3 b hb).1.2.2.2.1,(f3 b hb).1.2.1,(f3 b hb).1.2.2.2.2.1,(f3 b hb).1.2.2.2.2.2⟩
   have nC:H5 s3.heap.objs.size=none:=by
    have z:H5 ce.locals=none:=I6.free
    rw[cL] at z
    exact z
   obtain ⟨m,hn,_⟩:=I6.loc
   have hn:s6.heap.Ns ce.locals m:=hn
   rw[cL] at hn
   exact hRR D s3.heap.objs.size s6 m H5 I7 qq hn (I3.fpOk (Nat.le_refl _) nC)
  ·have ti:=T.item (X.blk s3 H3 scope ce fp) rfl rfl rfl hc i [] s5 _ H5 (fun _ _=>False) I5 (stat I5 n5) st5 go
   refine AO ti fun r s6 ⟨u,hr,h6⟩=>?_
   subst hr
   refine AO h6 fun _ s7 ⟨x,H7,I7,r7,y7,st7,n7⟩=>?_
   have I7':=I7.pinned (stat I7 n7) (T.obj _ _ st7)
   refine AO (pg _ s7 _ H7 x u _ I7' r7 (step x H7 y7)) fun _ s8 ⟨σ8,H8,I8,hw8,q8⟩=>?_
   refine AO (pt _ s8 σ8 H8 _ I8 q8) fun b s9 ⟨H9,I9,q9⟩=>?_
   have fin:∀ {s':Shared} {H':Hp},Inv (X.blk s3 H3 scope ce fp) ([]++nZ fp s7.heap) σ8 H' s'→Nx H'→∃ m,m<n∧∃ i H',Inv (X.blk s3 H3 scope ce fp) [] (gw σ (own.map (·.2))) H' s'∧tn i s'.heap∧(∀ b∈fp,H' b=none)∧W i m H':=fun {s' H'} I' nx=>by
    obtain ⟨m',hm,w'⟩:=hNx H' nx
    have pin':∀ b∈fp,∀ o,s7.heap.get? b=some o→s'.heap.get? b=some o∧H' b=none:=fun b hb o e=>
     let z:=I'.pin (b,o) (mem_append_right _ (mem_append_right _ (i9 hb e)))
     ⟨z.1,z.2.1⟩
    have hl:(gw σ (own.map (·.2))).length=σ8.length:=by rw[←hw8,gE]
    refine ⟨m',hm,i+1,H',(I'.unpinned (pins:=[])).weak hl (fun j v e=>?_),T.keep _ _ _ st7 fun b hb o e=>(pin' b hb o e).1,fun b hb=>?_,w'⟩
    ·rw[←hw8] at e
     exact (jT e).1
    ·obtain ⟨o,e,_⟩:=T.obj _ _ st7 b hb
     exact (pin' b hb o e).2
   cases b with
   | false=>
    simp only[Bool.false_eq_true,if_false] at q9 ⊢
    exact fin I9 q9
   | true=>
    simp only[if_true] at q9 ⊢
    refine AO (pe _ s9 σ8 H9 _ I9 q9) fun z s10 ⟨yv,H10,I10,r10,acc,hD10,hz10,nx⟩=>?_
    exact BP (X:=X.blk s3 H3 scope ce fp) I10 hD10 hz10 r10 fun s11 I11=>fin I11 nx
 exact codeAny_compStart_list loop (T.self X.A 0 _ _ _ st4 loop)
theorem gQ {elt tg iter:Expr}{ifs:List Expr}{scope:Scope}{own:List (Str×Nat)}{pos:Pos}{wi:TI}{g:TG}{tt:TT}{te:TE}(hc:X.calm=true)(hN:X.N.Nodup)(hi:PI X tg iter wi)(ok:xh X.N X.env.scope scope own)
  (hg:∀ (s:Shared) (H:Hp) (C:Addr) (cl:List (Str×Addr)) (fp:List Addr),PG (X.blk s H scope (compEnvC scope cl C X.env) fp) tg g)(ht:∀ (s:Shared) (H:Hp) (C:Addr) (cl:List (Str×Addr)) (fp:List Addr),PTs (X.blk s H scope (compEnvC scope cl C X.env) fp) ifs tt)
  (he:∀ (s:Shared) (H:Hp) (C:Addr) (cl:List (Str×Addr)) (fp:List Addr),PE (X.blk s H scope (compEnvC scope cl C X.env) fp) elt te)(hs:∀ x,foldedSetIterable iter X.env x=pure x:=by intro _;rfl):
  PE X (.ListComp elt [⟨tg,iter,ifs,0⟩] scope pos) (tLc wi g tt te (own.map (·.2))):=by
 intro pins s σ H Q I h
 rw[eval_ListComp]
 refine wl hc hN I hi ok hg ht he hs h fun D C s' m H' I' q hn f=>⟨m,hn,fun h'' sb=>?_⟩
 obtain ⟨f0,f1,f2,f3,f4,f5⟩:=f
 exact ⟨.ref D,H',I'.turned (t':=s'.toks) (fun b o hb e=>(sb.2 b hb).trans e) f0 f1 f3 f4 f5,rfl,q⟩
theorem jI {i:Nat}{y:Str}{py:Pos}{elt tg iter:Expr}{ifs:List Expr}{scope:Scope}{own:List (Str×Nat)}{pos spos:Pos}{wi:TI}{g:TG}{tt:TT}{te:TE}(hc:X.calm=true)(hN:X.N.Nodup)(hy:X.N[i]?=some y)(hyl:X.env.scope.names.lookup y=some .local)
  (hsw:swapsWith (.ListComp elt [⟨tg,iter,ifs,0⟩] scope pos) (some (.Name y py)) spos.line X.env=pure true)(hi:PI X tg iter wi)(ok:xh X.N X.env.scope scope own)
  (hg:∀ (s:Shared) (H:Hp) (C:Addr) (cl:List (Str×Addr)) (fp:List Addr),PG (X.blk s H scope (compEnvC scope cl C X.env) fp) tg g)(ht:∀ (s:Shared) (H:Hp) (C:Addr) (cl:List (Str×Addr)) (fp:List Addr),PTs (X.blk s H scope (compEnvC scope cl C X.env) fp) ifs tt)
  (he:∀ (s:Shared) (H:Hp) (C:Addr) (cl:List (Str×Addr)) (fp:List Addr),PE (X.blk s H scope (compEnvC scope cl C X.env) fp) elt te)(hs:∀ x,foldedSetIterable iter X.env x=pure x:=by intro _;rfl):
  PS X (.Assign [.Name y py] (.ListComp elt [⟨tg,iter,ifs,0⟩] scope pos) spos) (tAsg (tLc wi g tt te (own.map (·.2))) (oB i)):=by
 intro pins s σ H D I h
 rw[exec_Assign_Name_used _ _ _ _ hsw]
 refine wpAny_bind (wpAny_standAt (wpAny_bind ?_))
 show wpAny _ X.A (do let _ ← comprehension (.ListComp elt [⟨tg,iter,ifs,0⟩] scope pos) scope X.env (firstIterPos [⟨tg,iter,ifs,0⟩] pos) (newList []) false (eval iter X.env) (some (assign (.Name y py) X.env))) _ _ s
 have h:tLc wi g tt te (own.map (·.2)) σ H (fun x H1=>oB i x σ H1 D.nx):=h
 refine wpAny_bind (thn (wl (Qf:=fun _ s'=>SP X pins D .next s') hc hN I hi ok hg ht he hs h fun L C s' m H' I' q hn f=>?_) fun _ s' hq=>wpAny_pure (wpAny_pure hq))
 show wpAny _ _ (assign (.Name y py) X.env (.ref L)) _ _ _
 refine wpAny_assign_Name (nJ (v:=V.ref L) I' hN hy (.inl hyl) rfl (fun s2 I2 ⟨a,sb,ha⟩=>?_) (.inr hyl))
 obtain ⟨f0,f1,f2,f3,f4,f5⟩:=f
 have haC:C≠a:=by
  rcases ha with z|z
  ·rw[z];exact f1
  ·exact fun e=>f4 y a z e.symm
 refine ⟨m,hn.sameBut sb haC,fun h3 sb3=>?_⟩
 exact ⟨_,H',I2.turned (t':=s2.toks) (fun b o hb e=>(sb3.2 b hb).trans e) f0 f1 f3 f4 f5,q⟩
theorem lV {elt:Expr}{gs:List Comprehension}{scope:Scope}{pos py:Pos}{y:Str}{l:Nat}{env:Env}(hk:env.scope.kind=.function)(hy:env.scope.names.lookup y=some .local)(hl:(py.line==pos.line)=true)
  (ha:(scope.names.any fun (n,k)=>n==y&&(k==.local || k==.cell))=false):swapsWith (.ListComp elt gs scope pos) (some (.Name y py)) l env=pure true:=by
 have ky:env.kindOf y=some .local:=hy
 have hb:env.blockKind=.function:=by unfold Env.blockKind;rw[hk];rfl
 unfold swapsWith
 simp only[hb,ky,ha,Expr.pos,hl]
 rfl
end
theorem jN {lo:Int}{n:Nat}{g:TG}{tt:TT}{te:TE}{vs:List Nat}{σ:St}{H1:Hp}{D:Addr}{Qd:Hp→Prop}(Pv:Nat→Hp→Prop)(h0:Pv 0 (upd H1 D (.lst [])))
  (hs:∀ i H,i<n→Pv i H→g (.int (lo+i)) (gw σ vs) H fun σ2 H2=>gw σ2 vs=gw σ vs∧tt σ2 H2 fun b H3=>
   if b=true then te σ2 H3 fun y H4=>∃ acc,H4 D=some (.lst acc)∧acc.length<sizeLine∧Pv (i+1) (upd H4 D (.lst (acc++[y]))) else Pv (i+1) H3)(hd:∀ H,Pv n H→Qd H):
  ∃ W:Nat→Nat→Hp→Prop,(∃ m,W 0 m (upd H1 D (.lst [])))∧∀ i m H,W i m H→
   ((Itr lo n).stop i H∧Qd H)∨((Itr lo n).go i H∧∃ Nx:Hp→Prop,(∀ H',Nx H'→∃ m',m'<m∧W (i+1) m' H')∧∀ x H',(Itr lo n).yld i H x H'→g x (gw σ vs) H' fun σ2 H2=>gw σ2 vs=gw σ vs∧tt σ2 H2 fun b H3=>
    if b=true then te σ2 H3 fun y H4=>∃ acc,H4 D=some (.lst acc)∧acc.length<sizeLine∧Nx (upd H4 D (.lst (acc++[y]))) else Nx H3):=by
 refine ⟨fun i m H=>m=n-i∧i≤n∧Pv i H,⟨n,by simp,Nat.zero_le _,h0⟩,?_⟩
 rintro i m H ⟨rfl,hi,p⟩
 by_cases hlt:i<n
 ·refine .inr ⟨hlt,Pv (i+1),fun H' p'=>⟨n-(i+1),by omega,rfl,hlt,p'⟩,fun x H' y=>?_⟩
  obtain ⟨e,y⟩:=y
  subst e y
  exact hs i _ hlt p
 ·have e:i=n:=by omega
  subst e
  exact .inl ⟨Nat.le_refl _,hd H p⟩
theorem de {K:Frag}{a:Addr}{xs:List V}{g:TG}{tt:TT}{te:TE}{vs:List Nat}{σ:St}{H1:Hp}{D:Addr}{Qd:Hp→Prop}(Pv:Nat→Hp→Prop)(h0:Pv 0 (upd H1 D (.lst [])))(hl:∀ i H,i≤xs.length→Pv i H→SqL K H a xs)
  (hs:∀ i x H,xs[i]?=some x→Pv i H→g x (gw σ vs) H fun σ2 H2=>gw σ2 vs=gw σ vs∧tt σ2 H2 fun b H3=>
   if b=true then te σ2 H3 fun y H4=>∃ acc,H4 D=some (.lst acc)∧acc.length<sizeLine∧Pv (i+1) (upd H4 D (.lst (acc++[y]))) else Pv (i+1) H3)(hd:∀ H,Pv xs.length H→Qd H):
  ∃ W:Nat→Nat→Hp→Prop,(∃ m,W 0 m (upd H1 D (.lst [])))∧∀ i m H,W i m H→
   ((Itl K a).stop i H∧Qd H)∨((Itl K a).go i H∧∃ Nx:Hp→Prop,(∀ H',Nx H'→∃ m',m'<m∧W (i+1) m' H')∧∀ x H',(Itl K a).yld i H x H'→g x (gw σ vs) H' fun σ2 H2=>gw σ2 vs=gw σ vs∧tt σ2 H2 fun b H3=>
    if b=true then te σ2 H3 fun y H4=>∃ acc,H4 D=some (.lst acc)∧acc.length<sizeLine∧Nx (upd H4 D (.lst (acc++[y]))) else Nx H3):=by
 refine ⟨fun i m H=>m=xs.length-i∧i≤xs.length∧Pv i H,⟨xs.length,by simp,Nat.zero_le _,h0⟩,?_⟩
 rintro i m H ⟨rfl,hi,p⟩
 have q:=hl i H hi p
 by_cases hlt:i<xs.length
 ·refine .inr ⟨⟨xs,xs[i],q,by simp[hlt]⟩,Pv (i+1),fun H' p'=>⟨xs.length-(i+1),by omega,rfl,hlt,p'⟩,fun x H' y=>?_⟩
  obtain ⟨e,y⟩:=y
  subst e
  exact hs i x _ (y xs q) p
 ·have e:i=xs.length:=by omega
  subst e
  exact .inl ⟨⟨xs,q,Nat.le_refl _⟩,hd H p⟩
def blkC (N:List Str)(sc scope:Scope)(own:List (Str×Nat)):Bool:=
 (match scope.kind with|.function=>true|_=>false)&&(scope.names.all fun y=>decide (scope.names.lookup y.1=some y.2))&&(own.all fun p=>decide (N[p.2]?=some p.1)) &&
  (scope.names.all fun y=>match y.2 with
   | .free=>(match sc.names.lookup y.1 with|some .cell=>true|some .free=>true|_=>false)
   | .local=>decide (y.1∈own.map (·.1)) || decide (y.1∉N)
   | .cell=>decide (y.1∈own.map (·.1)) || decide (y.1∉N)
   | _=>true)
theorem bn {N:List Str}{sc scope:Scope}{own:List (Str×Nat)}(h:blkC N sc scope own=true):xh N sc scope own:=by
 unfold blkC at h
 simp only[Bool.and_eq_true,all_eq_true,decide_eq_true_eq] at h
 obtain ⟨⟨⟨h1,h2⟩,h3⟩,h4⟩:=h
 refine ⟨?_,h2,h3,fun y hy e=>?_,fun y hy e=>?_⟩
 ·split at h1
  ·assumption
  ·cases h1
 ·have q:=h4 y hy
  simp only[e] at q
  split at q <;> first|exact .inl (by assumption)|exact .inr (by assumption)|cases q
 ·have q:=h4 y hy
  rcases e with e|e <;> (simp only[e,Bool.or_eq_true,decide_eq_true_eq] at q;exact q)
end L2
namespace L2
open PySem PySem.Spec PyProof.Rows
section
variable {prog:Program} {w:World} {A:Around} {R:Result→Shared→Prop} {s:Shared} {elt t0 i0 t1 i1:Expr} {ifs0 ifs1:List Expr} {scope:Scope} {pos:Pos} {it acc:Value} {env:Env}
end
section
variable {X:Cx}
end
end L2
namespace L2
open PySem PySem.Spec PyProof.Rows
section
variable {κ:Type} [DecidableEq κ]
def qU (kvs:List (κ×V))(k:κ):Option V:=(kvs.find? fun kv=>decide (kv.1=k)).map (·.2)
def sK (kvs:List (κ×V))(k:κ)(v:V):List (κ×V):=
 if (kvs.any fun kv=>decide (kv.1=k))=true then kvs.map (fun kv=>if kv.1=k then (kv.1,v) else kv) else kvs++[(k,v)]
theorem jD {p:κ×V}{r:List (κ×V)}{k:κ}(e:p.1=k):qU (p::r) k=some p.2:=by simp[qU,find?_cons,e]
theorem ii {p:κ×V}{r:List (κ×V)}{k:κ}(e:¬p.1=k):qU (p::r) k=qU r k:=by simp[qU,find?_cons,e]
theorem qT (k:κ):∀ kvs:List (κ×V),(kvs.any fun kv=>decide (kv.1=k))=(qU kvs k).isSome
 | []=>rfl
 | p::r=>by
  rw[any_cons]
  by_cases e:p.1=k
  ·simp only[jD e,decide_eq_true e,Bool.true_or,Option.isSome_some]
  ·rw[ii e,decide_eq_false e,Bool.false_or];exact qT k r
theorem kG (kvs:List (κ×V))(k:κ)(v:V):(sK kvs k v).length≤kvs.length+1:=by
 unfold sK
 split
 ·rw[length_map];omega
 ·rw[length_append,length_cons,length_nil];omega
theorem o0.isSome_eq {o:Option V}{u:Option Value}(r:o0 o u):o.isSome=u.isSome:=by
 cases o with
 | none=>cases u with
  | none=>rfl
  | some _=>exact (show False from r).elim
 | some _=>cases u with
  | none=>exact (show False from r).elim
  | some _=>rfl
theorem KV.val {kvs:List (κ×V)}{vs:List (κ×Value)}(r:KV kvs vs)(k:κ):o0 (qU kvs k) (valueAt vs k):=by
 unfold KV at r
 induction r with
 | nil=>exact True.intro
 | @cons p q ps qs h t ih=>
  obtain ⟨h1,h2⟩:=h
  by_cases e:p.1=k
  ·have e':q.1=k:=h1.symm.trans e
   have b:valueAt (q::qs) k=some q.2:=by simp[valueAt,find?_cons,e']
   rw[jD e,b];exact h2
  ·have e':¬q.1=k:=fun z=>e (h1.trans z)
   have b:valueAt (q::qs) k=valueAt qs k:=by simp[valueAt,find?_cons,e']
   rw[ii e,b];exact ih
theorem KV.any {kvs:List (κ×V)}{vs:List (κ×Value)}(r:KV kvs vs)(k:κ):(kvs.any fun kv=>decide (kv.1=k))=vs.any fun kv=>decide (kv.1=k):=by
 unfold KV at r
 induction r with
 | nil=>rfl
 | cons h t ih=>rw[any_cons,any_cons,ih,h.1]
theorem KV.repl {kvs:List (κ×V)}{vs:List (κ×Value)}(r:KV kvs vs)(k:κ){y:V}{u:Value}(ry:cD y u):
  KV (kvs.map fun kv=>if kv.1=k then (kv.1,y) else kv) (vs.map fun kv=>if kv.1=k then (kv.1,u) else kv):=by
 unfold KV at r ⊢
 induction r with
 | nil=>exact .nil
 | @cons p q ps qs h t ih=>
  rw[map_cons,map_cons]
  refine .cons ?_ ih
  obtain ⟨h1,h2⟩:=h
  by_cases e:p.1=k
  ·rw[if_pos e,if_pos (h1.symm.trans e)];exact ⟨h1,ry⟩
  ·rw[if_neg e,if_neg (fun z=>e (h1.trans z))];exact ⟨h1,h2⟩
theorem KV.put {kvs:List (κ×V)}{vs:List (κ×Value)}(r:KV kvs vs)(k:κ){y:V}{u:Value}(ry:cD y u):KV (sK kvs k y) (stored vs k u):=by
 unfold sK stored
 rw[r.any k]
 by_cases e:(vs.any fun kv=>decide (kv.1=k))=true
 ·rw[if_pos e,if_pos e];exact r.repl k ry
 ·rw[if_neg e,if_neg e];exact Paired.snoc r ⟨rfl,ry⟩
theorem KV.length {kvs:List (κ×V)}{vs:List (κ×Value)}(r:KV kvs vs):kvs.length=vs.length:=Paired.length r
end
theorem yw {P:Program}{w:World}{k:Key}{u:Value}(r:cD (kV k) u):(cG P w).is k u=true:=by
 cases k with
 | inl i=>obtain ⟨t,e⟩:=(show ∃ t,u=Value.int i t from r);subst e;exact qC P w i t
 | inr x=>obtain ⟨t,e⟩:=(show ∃ t,u=Value.str x t from r);subst e;exact qB P w x t
theorem ox {P:Program}{w:World}:∀ {ks:List Key} {us:List Value},bF (ks.map kV) us→ItemsAre (cG P w) ks us
 | [],_,r=>by rw[map_nil] at r;cases r;exact .nil
 | k::ks,_,r=>by
  rw[map_cons] at r
  cases r with
  | cons h t=>exact .cons (yw h) (ox t)
abbrev KT (H:Hp):List (List Key×V)→List (List Key×Addr×Value)→Prop:=Paired fun p q=>p.1=q.1∧H q.2.1=some (.tup (p.1.map kV))∧cD p.2 q.2.2
theorem KT.val {H:Hp}{kvs:List (List Key×V)}{xs:List (List Key×Addr×Value)}(r:KT H kvs xs)(k:List Key):o0 (qU kvs k) ((atKey xs k).map (·.2)):=by
 induction r with
 | nil=>exact True.intro
 | @cons p q ps qs h t ih=>
  obtain ⟨h1,_,h2⟩:=h
  by_cases e:p.1=k
  ·have e':q.1=k:=h1.symm.trans e
   have b:atKey (q::qs) k=some q.2:=by simp[atKey,find?_cons,e']
   rw[jD e,b];exact h2
  ·have e':¬q.1=k:=fun z=>e (h1.trans z)
   have b:atKey (q::qs) k=atKey qs k:=by simp[atKey,find?_cons,e']
   rw[ii e,b];exact ih
theorem KT.repl {H:Hp}{kvs:List (List Key×V)}{xs:List (List Key×Addr×Value)}(r:KT H kvs xs)(k:List Key){y:V}{u:Value}(ry:cD y u):
  KT H (kvs.map fun kv=>if kv.1=k then (kv.1,y) else kv) (xs.map (putAt k u)):=by
 induction r with
 | nil=>exact .nil
 | @cons p q ps qs h t ih=>
  rw[map_cons,map_cons]
  refine .cons ?_ ih
  obtain ⟨h1,h2,h3⟩:=h
  unfold putAt
  by_cases e:p.1=k
  ·rw[if_pos e,if_pos (h1.symm.trans e)];exact ⟨h1,h2,ry⟩
  ·rw[if_neg e,if_neg (fun z=>e (h1.trans z))];exact ⟨h1,h2,h3⟩
theorem KT.put {H:Hp}{kvs:List (List Key×V)}{xs:List (List Key×Addr×Value)}(r:KT H kvs xs)(k:List Key){b:Addr}{y:V}{u:Value}(hb:H b=some (.tup (k.map kV)))(ry:cD y u):
  KT H (sK kvs k y) (storedH xs k b u):=by
 have e:(kvs.any fun kv=>decide (kv.1=k))=(atKey xs k).isSome:=by
  rw[qT,(r.val k).isSome_eq,Option.isSome_map]
 unfold sK storedH
 rw[e]
 by_cases q:(atKey xs k).isSome=true
 ·rw[if_pos q,if_pos q];exact r.repl k ry
 ·rw[if_neg q,if_neg q];exact Paired.snoc r ⟨rfl,hb,ry⟩
theorem KT.keeps {H H':Hp}{kvs:List (List Key×V)}{xs:List (List Key×Addr×Value)}(r:KT H kvs xs)(ht:∀ b ys,H b=some (.tup ys)→H' b=some (.tup ys)):KT H' kvs xs:=
 Paired.mapP r fun _ _ z=>⟨z.1,ht _ _ z.2.1,z.2.2⟩
section
variable {P:Program} {w:World} {H:Hp} {h:Heap} {a:Addr}
theorem Bd {u:HO}(ok:HOk P w H h)(e:Rd H a u):df P w H h a u:=e.ok ok
theorem yH {kvs:List (Key×V)}(ok:HOk P w H h)(e:Rd H a (.dK kvs)):kvs.length≤sizeLine∧(a==sysModules)=false∧∃ vs,KV kvs vs∧h.DictOf (cG P w) a vs:=
 show df P w H h a (.dK kvs) from Bd ok e
theorem dk_of {kvs:List (Key×V)}(ok:HOk P w H h)(e:H a=some (.dK kvs)):kvs.length≤sizeLine∧(a==sysModules)=false∧∃ vs,KV kvs vs∧h.DictOf (cG P w) a vs:=yH ok (.inl e)
theorem ow {ks:List Key}(ok:HOk P w H h)(e:H a=some (.tup (ks.map kV))):(tupleKind (cG P w)).is h ks a:=by
 obtain ⟨_,its,r,o,h1,h2,n,h3⟩:=(show df P w H h a (.tup (ks.map kV)) from ok a _ e)
 exact ⟨o,its.toArray,n,h1,h2,h3,by simpa using ox r⟩
theorem yE {kvs:List (List Key×V)}(ok:HOk P w H h)(e:Rd H a (.dT kvs)):kvs.length≤sizeLine∧(a==sysModules)=false∧
  ∃ xs,KT H kvs xs∧h.DictOfH (tupleKind (cG P w)) a xs:=by
 obtain ⟨z,y,xs,r,o,es,ep,h1,h2,h3,h4,h5⟩:=(show df P w H h a (.dT kvs) from Bd ok e)
 refine ⟨z,y,xs,r,o,es,ep,h1,h2,h3,h4,fun x hx=>?_,h5⟩
 have all:∀ {l:List (List Key×V)} {m:List (List Key×Addr×Value)},KT H l m→∀ x∈m,(tupleKind (cG P w)).is h x.1 x.2.1:=by
  intro l m q
  induction q with
  | nil=>intro x hx;exact nomatch hx
  | @cons p q ps qs hq t ih=>
   intro x hx
   rcases Mc hx with e|hx
   ·subst e
    exact ow ok (by rw[←hq.1];exact hq.2.1)
   ·exact ih x hx
 exact all r x hx
theorem AB {kvs:List (List Key×V)}(ok:HOk P w H h)(e:H a=some (.dT kvs)):kvs.length≤sizeLine∧(a==sysModules)=false∧
  ∃ xs,KT H kvs xs∧h.DictOfH (tupleKind (cG P w)) a xs:=yE ok (.inl e)
end
def ub (H:Hp)(a:Addr)(y:V)(r:Option V):Prop:=
 (∃ kvs k,Rd H a (.dK kvs)∧y=kV k∧r=qU kvs k)∨∃ kvs k b,Rd H a (.dT kvs)∧y=.ref b∧H b=some (.tup (k.map kV))∧r=qU kvs k
def AQ (H:Hp)(a:Addr)(y v:V)(H':Hp):Prop:=
 (∃ kvs k,H a=some (.dK kvs)∧y=kV k∧kvs.length<sizeLine∧H'=upd H a (.dK (sK kvs k v)))∨
 ∃ kvs k b,H a=some (.dT kvs)∧y=.ref b∧H b=some (.tup (k.map kV))∧kvs.length<sizeLine∧H'=upd H a (.dT (sK kvs k v))
theorem ub.t {H:Hp}{a b:Addr}{kvs:List (List Key×V)}{k:List Key}(e:H a=some (.dT kvs))(eb:H b=some (.tup (k.map kV))):ub H a (.ref b) (qU kvs k):=.inr ⟨kvs,k,b,.inl e,rfl,eb,rfl⟩
theorem AQ.t {H:Hp}{a b:Addr}{kvs:List (List Key×V)}{k:List Key}{v:V}(e:H a=some (.dT kvs))(eb:H b=some (.tup (k.map kV)))(hl:kvs.length<sizeLine):
  AQ H a (.ref b) v (upd H a (.dT (sK kvs k v))):=.inr ⟨kvs,k,b,e,rfl,eb,hl,rfl⟩
section
variable {X:Cx} {pins:List (Addr×Obj)} {σ:St} {H:Hp} {s:Shared} {a:Addr} {y v:V} {u r:Value} {o:Option V} {A:Around} {E:Value→Shared→Prop}
theorem Inv.big (I:Inv X pins σ H s):sysModules<s.heap.objs.size:=by
 have h:mainGlobals<s.heap.objs.size:=(I.mod.glob.keeps I.bk).lt
 exact Nat.lt_trans (by decide) h
theorem wR {Q:Value→Shared→Prop}(hu:A.units+1<cLine)(I:Inv X pins σ H s)(g:ub H a y (some v))(ry:cD y u)(h:∀ w' s',Inv X pins σ H s'→cD v w'→Q w' s'):
  wpAny (model X.prog X.w) A (getItem (.ref a) u) Q E s:=by
 rcases g with ⟨kvs,k,e,ey,l⟩|⟨kvs,k,b,e,ey,eb,l⟩
 ·subst ey
  obtain ⟨z,hd,vs,rel,dd⟩:=yH I.hok e
  obtain ⟨w',hw,rw'⟩:=o0.some_of (v:=v) (o:=valueAt vs k) (by rw[l];exact rel.val k)
  exact wpAny_getItem_of (yw ry) dd.mapOf hw (h w' _ (I.tok _) rw')
 ·subst ey
  cases (show u=Value.ref b from ry)
  obtain ⟨z,hd,xs,rel,dd⟩:=yE I.hok e
  obtain ⟨w',hw,rw'⟩:=o0.some_of (v:=v) (o:=(atKey xs k).map (·.2)) (by rw[l];exact rel.val k)
  obtain ⟨p,hp,hp2⟩:=Oq hw
  refine wpAny_getItem_heap (tupleKind_room_in1 hu) (ow I.hok eb) dd hp ?_
  rw[hp2]
  exact h w' _ (I.tok _) rw'
theorem AE {Q:Value→Shared→Prop}(hu:A.units+1<cLine)(I:Inv X pins σ H s)(g:ub H a y o)(ry:cD y u)(h:∀ s',Inv X pins σ H s'→Q (.bool (!o.isSome)) s'):
  wpAny (model X.prog X.w) A (compareOp .NotIn u (.ref a)) Q E s:=by
 rcases g with ⟨kvs,k,e,ey,l⟩|⟨kvs,k,b,e,ey,eb,l⟩
 ·subst ey
  obtain ⟨z,hd,vs,rel,dd⟩:=yH I.hok e
  refine wpAny_notIn_of (yw ry) hd dd.mapOf ?_
  rw[←(rel.val k).isSome_eq,←l]
  exact h _ (I.tok _)
 ·subst ey
  cases (show u=Value.ref b from ry)
  obtain ⟨z,hd,xs,rel,dd⟩:=yE I.hok e
  refine wpAny_notIn_heap (tupleKind_room_in1 hu) (ow I.hok eb) hd dd ?_
  have q:=(rel.val k).isSome_eq
  rw[Option.isSome_map] at q
  rw[←q,←l]
  exact h _ (I.tok _)
theorem qM {h':Heap}{t':Nat}{ob:HO}(I:Inv X pins σ H s)(mu:Mut (H a))(hs:Heap.SameBut a s.heap h')(he:∃ q,h'.get? a=some q)(new:df X.prog X.w (upd H a ob) h' a ob):
  Inv X pins σ (upd H a ob) {s with heap:=h',toks:=t'}:=
 I.write (x:=a) (e:=a) mu (.inl rfl) (fun b q hb z=>(hs.2 b hb).trans z) he new
theorem BJ {P:Program}{w:World}{H':Hp}{h':Heap}{kvs:List (Key×V)}{vs:List (Key×Value)}(z:kvs.length≤sizeLine)(hd:(a==sysModules)=false)(rel:KV kvs vs)(dd:h'.DictOf (cG P w) a vs):
  df P w H' h' a (.dK kvs):=⟨z,hd,vs,rel,dd⟩
theorem wQ {H':Hp}{Q:Unit→Shared→Prop}(hu:A.units+1<cLine)(I:Inv X pins σ H s)(g:AQ H a y v H')(ry:cD y u)(rv:cD v r)(h:∀ s',Inv X pins σ H' s'→Q () s'):
  wpAny (model X.prog X.w) A (setItem (.ref a) u r) Q E s:=by
 rcases g with ⟨kvs,k,e,ey,l,eH⟩|⟨kvs,k,b,e,ey,eb,l,eH⟩
 ·subst ey eH
  obtain ⟨z,hd,vs,rel,dd⟩:=dk_of I.hok e
  have hz:vs.length≤sizeLine:=by rw[←rel.length];exact z
  have hl:(sK kvs k v).length≤sizeLine:=by have:=kG kvs k v;omega
  refine wpAny_setItem_pairs (hsz:=hz) (yw ry) dd fun h' dd' hs=>h _ ?_
  have he:∃ q,h'.get? a=some q:=let ⟨q,_,_,hq,_⟩:=dd';⟨q,hq⟩
  exact qM I (by rw[e];exact True.intro) hs he (BJ hl hd (rel.put k rv) dd')
 ·subst ey eH
  cases (show u=Value.ref b from ry)
  obtain ⟨z,hd,xs,rel,dd⟩:=AB I.hok e
  have hz:xs.length≤sizeLine:=by rw[←Paired.length rel];exact z
  have hl:(sK kvs k v).length≤sizeLine:=by have:=kG kvs k v;omega
  refine wpAny_setItem_heap (hsz:=hz) (tupleKind_room_in1 hu) (ow I.hok eb) dd fun h' dd' hs=>h _ ?_
  obtain ⟨q,es,ep,hq,h2,h3,h4,_,h5⟩:=dd'
  refine qM I (by rw[e];exact True.intro) hs ⟨q,hq⟩ ⟨hl,hd,_,(rel.put k eb rv).keeps fun c ys ec=>?_,q,es,ep,hq,h2,h3,h4,h5⟩
  rw[ai (yq ec e (fun z=>nomatch z))]
  exact ec
end
section
variable {X:Cx} {pins:List (Addr×Obj)} {σ:St} {H:Hp} {s:Shared} {a:Addr} {kvs:List (Key×V)} {k:Key} {u:Value} {A:Around} {E:Value→Shared→Prop}
end
def NoSl (i:Expr):Prop:=∀ ov iv,subscripted i false ov iv=operate [ov,iv] (getItem ov iv)
theorem zv {prog:Program}{w:World}{A:Around}{E:Value→Shared→Prop}{s:Shared}{env:Env}{value slice:Expr}{pos:Pos}{T id:String}{Q:Value→Shared→Prop}
  (hl:typeLookup (.type T) "__getitem__"=pure (some (.builtin id)))(hs:NoSl slice)
  (h:wpAny (model prog w) A (eval value env) (fun o s₁=>wpAny (model prog w) A (eval slice env) (fun i s₂=>s₂.TypeIs o T∧wpAny (model prog w) A (getItem o i) Q E s₂) E s₁) E s):
  wpAny (model prog w) A (eval (.Subscript value slice pos) env) Q E s:=by
 refine Subscript_ (wpAny_mono h (fun o s₁ h₁=>wpAny_mono h₁ (fun i s₂ h₂=>?_) fun _ _ x=>x) fun _ _ x=>x)
 obtain ⟨hT,h₂⟩:=h₂
 unfold subscriptTail
 refine wpAny_bind ?_
 rw[getitemInPython_of_ne hT.not_modules]
 refine wpAny_bind (wpAny_specialOf hT hl ?_)
 have fin:wpAny (model prog w) A (subscripted slice false o i) (fun r s₃=>wpAny (model prog w) A (letTemporaryGo value o r >>= fun _=>pure r) Q E s₃) E s₂:=by
  rw[hs o i]
  exact wpAny_operating (wpAny_mono h₂ (fun r s₃ h₃=>wpAny_bind (wpAny_letTemporaryGo (wpAny_pure h₃))) fun _ _ x=>x)
 first
  | exact wpAny_pure (wpAny_bind fin)
  | exact wpAny_bind (wpAny_pure (wpAny_bind fin))
  | exact wpAny_bind fin
theorem qL {X:Cx}{pins:List (Addr×Obj)}{σ:St}{H:Hp}{s:Shared}{a:Addr}{y:V}{o:Option V}(I:Inv X pins σ H s)(g:ub H a y o):s.TypeIs (.ref a) "dict":=by
 rcases g with ⟨kvs,k,e,_,_⟩|⟨kvs,k,b,e,_,_,_⟩
 ·obtain ⟨_,_,vs,_,dd⟩:=yH I.hok e
  exact dd.typeIs
 ·obtain ⟨_,_,xs,_,dd⟩:=yE I.hok e
  exact dd.typeIs
def tDGet (td ty:TE):TE:=fun σ H Q=>td σ H fun x H1=>ty σ H1 fun y H2=>∃ a v,x=.ref a∧ub H2 a y (some v)∧Q v H2
def zu (ty td:TE):TE:=fun σ H Q=>ty σ H fun y H1=>td σ H1 fun x H2=>∃ a o,x=.ref a∧ub H2 a y o∧Q (.bl (!o.isSome)) H2
def sDPut (td ty tv:TE):TS:=fun D σ H=>tv σ H fun v H1=>td σ H1 fun x H2=>ty σ H2 fun y H3=>∃ a H4,x=.ref a∧AQ H3 a y v H4∧D.nx σ H4
section
variable {X:Cx} {o i e value:Expr} {pos pos' tpos:Pos} {td ty tv:TE}
theorem vv (hu:X.A.units+1<cLine)(ho:PE X o td)(hi:PE X i ty)(hs:NoSl i):PE X (.Subscript o i pos) (tDGet td ty):=by
 intro pins s σ H Q I h
 refine zv PySem.F.slot_dict_getitem.lookup hs (thn (ho pins s σ H _ I h) fun u s1 ⟨x,H1,I1,rx,q1⟩=>thn (hi pins s1 σ H1 _ I1 q1) fun iv s2 ⟨y,H2,I2,ry,a,v,ex,g,q2⟩=>?_)
 subst ex
 obtain rfl:u=Value.ref a:=rx
 exact ⟨qL I2 g,wR hu I2 g ry fun w' s3 I3 rw'=>⟨v,H2,I3,rw',q2⟩⟩
theorem ku (hu:X.A.units+1<cLine)(hi:PE X i ty)(ho:PE X o td):PC X .NotIn i o (zu ty td):=by
 intro pins s σ H Q I h
 refine thn (hi pins s σ H _ I h) fun iv s1 ⟨y,H1,I1,ry,q1⟩=>thn (ho pins s1 σ H1 _ I1 q1) fun u s2 ⟨x,H2,I2,rx,a,ov,ex,g,q2⟩=>?_
 subst ex
 obtain rfl:u=Value.ref a:=rx
 exact AE hu I2 g ry fun s3 I3=>⟨.bl (!ov.isSome),H2,I3,rfl,q2⟩
theorem vi (hu:X.A.units+1<cLine)(ho:PE X o td)(hi:PE X i ty)(hv:PE X value tv)(hs:swapsWith value (some (.Subscript o i pos')) pos.line X.env=pure false):
  PS X (.Assign [.Subscript o i pos'] value pos) (sDPut td ty tv):=by
 intro pins s σ H D I h
 refine wpAny_Assign_Subscript (thn (hv pins s σ H _ I h) fun r s1 ⟨v,H1,I1,rv,q1⟩=>thn (ho pins s1 σ H1 _ I1 q1) fun u s2 ⟨x,H2,I2,rx,q2⟩=>thn (hi pins s2 σ H2 _ I2 q2) fun iv s3 ⟨y,H3,I3,ry,a,H4,ex,g,q3⟩=>?_) hs
 subst ex
 obtain rfl:u=Value.ref a:=rx
 exact wQ hu I3 g ry rv fun s4 I4=>⟨σ,H4,I4,q3⟩
end
theorem yF {P:Program}{w:World}{H:Hp}(h:Heap)(hb:sysModules<h.objs.size):df P w H (h.push {cls:=.type "dict",data:=.dict #[]}) h.objs.size (.dT []):=
 ⟨Nat.zero_le _,beq_eq_false_iff_ne.mpr (Ne.symm (Nat.ne_of_lt hb)),[],.nil,_,#[],0,Heap.get?_push_size _ rfl,⟨rfl,rfl,rfl⟩,rfl,rfl,nodup_nil⟩
section
variable {X:Cx} {pos:Pos}
end
def uk:List (TE×TE)→St→Hp→(List (V×V)→Hp→Prop)→Prop
 | [],_,H,Q=>Q [] H
 | (tk,tv)::r,σ,H,Q=>tk σ H fun x H1=>tv σ H1 fun y H2=>uk r σ H2 fun ps H3=>Q ((x,y)::ps) H3
abbrev VV:List (V×V)→List (Value×Value)→Prop:=Paired fun p q=>cD p.1 q.1∧cD p.2 q.2
def PPs (X:Cx)(pos:Pos)(keys:List (Option Expr))(values:List Expr)(trs:List (TE×TE)):Prop:=
 ∀ (pins:List (Addr×Obj)) (s:Shared) (σ:St) (H:Hp) (Q:List (V×V)→Hp→Prop),Inv X pins σ H s→uk trs σ H Q→
  wpAny (model X.prog X.w) X.A (evalPairs (pairTrees keys values X.env pos)) (fun vs s'=>∃ ps H',Inv X pins σ H' s'∧VV ps vs∧Q ps H') X.xe s
theorem z0 {X:Cx}{pos:Pos}:PPs X pos [] [] []:=fun pins s σ H Q I h=>pairTrees_nil_walk ⟨[],H,I,.nil,h⟩
theorem xG {X:Cx}{pos:Pos}{k v:Expr}{ks:List (Option Expr)}{vs:List Expr}{tk tv:TE}{trs:List (TE×TE)}(hk:PE X k tk)(hv:PE X v tv)(hr:PPs X pos ks vs trs):
  PPs X pos (some k::ks) (v::vs) ((tk,tv)::trs):=fun pins s σ H Q I h=>
 pairTrees_cons_walk (thn (hk pins s σ H _ I h) fun u s1 ⟨x,H1,I1,rx,q1⟩=>thn (hv pins s1 σ H1 _ I1 q1) fun w2 s2 ⟨y,H2,I2,ry,q2⟩=>
  thn (hr pins s2 σ H2 _ I2 q2) fun ws s3 ⟨ps,H3,I3,rel,q3⟩=>⟨(x,y)::ps,H3,I3,.cons ⟨rx,ry⟩ rel,q3⟩)
structure M1 (X:Cx)(o:Expr)(m:Str)(apos:Pos)(e:Expr)(cpos:Pos):Prop where
 base:attributeBase o m X.env (eval o X.env)=eval o X.env
 few:((backTo cpos (starEach [e] X.env)).all (fun x=>!x.1)&&(backToKw cpos (keywordEach [] X.env)).all (fun x=>x.1.isSome)
  && decide (([e]:List Expr).length+([]:List Keyword).length+(if ([]:List Keyword).isEmpty then 0 else 1)<30))=true
 line:(apos.endLine==cpos.line)=true
 trees:backTo cpos (starEach [e] X.env)=[(false,eval e X.env)]
structure M2 (X:Cx)(o:Expr)(m:Str)(apos:Pos)(e f:Expr)(cpos:Pos):Prop where
 base:attributeBase o m X.env (eval o X.env)=eval o X.env
 few:((backTo cpos (starEach [e,f] X.env)).all (fun x=>!x.1)&&(backToKw cpos (keywordEach [] X.env)).all (fun x=>x.1.isSome)
  && decide (([e,f]:List Expr).length+([]:List Keyword).length+(if ([]:List Keyword).isEmpty then 0 else 1)<30))=true
 line:(apos.endLine==cpos.line)=true
 trees:backTo cpos (starEach [e,f] X.env)=[(false,eval e X.env),(false,eval f X.env)]
section
variable {X:Cx} {pins:List (Addr×Obj)} {σ:St} {H:Hp} {s:Shared} {a:Addr} {y d:V} {u r:Value} {o:Option V} {A:Around} {E:Value→Shared→Prop}
end
section
variable {X:Cx} {o e f:Expr} {apos cpos:Pos} {td ty tx:TE}
end
section
variable {X:Cx} {pins:List (Addr×Obj)} {σ:St} {H:Hp} {s:Shared} {a:Addr} {kvs:List (Key×V)} {A:Around} {E:Value→Shared→Prop}
end
section
variable {X:Cx} {pins:List (Addr×Obj)} {σ:St} {H:Hp} {s:Shared} {a:Addr} {y:V} {u:Value} {A:Around} {E:Value→Shared→Prop}
end
end L2
namespace L2
open PySem PySem.Spec PyProof.Rows
section
variable {prog:Program} {w:World} {A:Around} {E:Value→Shared→Prop}
end
section
variable {X:Cx}
end
end L2
namespace L2
open PySem PySem.Spec PyProof.Rows
section
variable {X:Cx} {pins:List (Addr×Obj)} {σ:St} {H:Hp} {s:Shared} {h':Heap}
theorem Inv.turnedL {t':Nat}{ch:List Addr}(I:Inv X pins σ H s)(k:∀ b o,b∉ch→s.heap.get? b=some o→h'.get? b=some o)(hf:∀ b∈ch,t9 X pins H b):Inv X pins σ H {s with heap:=h',toks:=t'}:=by
 have nit:∀ b u,H b=some u→b∉ch:=fun b u e z=>by
  have q:=(hf b z).1
  rw[q] at e;cases e
 refine I.step (g':=s.gens) (d':=s.drawn) (ch:=ch) (fun b hb=>⟨(hf b hb).2.2.2.1,(hf b hb).2.1,(hf b hb).2.2.2.2.1,(hf b hb).2.2.2.2.2⟩) (fun b o _ _ hc e _=>k b o hc e) (fun b o _ _ hc e _=>⟨o.slots,k b o hc e⟩)
  (fun _ _ _ _ n=>n) (fun b o hc e=>⟨o,k b o hc e⟩) (fun _ _ e=>e) (fun _ _ _ e=>e) (fun b ps e=>⟨#[],by rw[e];simp⟩) (fun m hm=>?_) (fun b u e=>?_) I.bare
 ·obtain ⟨o,es,ep,ho,r⟩:=hm
  exact ⟨o,es,ep,k _ o (fun z=>(hf _ z).2.1 rfl) ho,r⟩
 ·refine (I.hok b u e).stay (fun c v hc q=>k c v ?_ q) (fun _ q=>q) fun _ _ q=>q
  rcases hc with z|z
  ·rw[z];exact nit b u e
  ·exact nit c _ z
theorem Inv.turnedNew {t':Nat}{ch:List Addr}{T:Addr}{ob:HO}(I:Inv X pins σ H s)(k:∀ b o,b∉ch→s.heap.get? b=some o→h'.get? b=some o)(hf:∀ b∈ch,t9 X pins H b)(hT:s.heap.objs.size≤T)
  (new:df X.prog X.w (upd H T ob) h' T ob):Inv X pins σ (upd H T ob) {s with heap:=h',toks:=t'}:=by
 have hn:H T=none:=I.hok.fresh hT
 have nit:∀ b u,H b=some u→b∉ch:=fun b u e z=>by
  have q:=(hf b z).1
  rw[q] at e;cases e
 refine I.step (g':=s.gens) (d':=s.drawn) (ch:=ch) (fun b hb=>⟨(hf b hb).2.2.2.1,(hf b hb).2.1,(hf b hb).2.2.2.2.1,(hf b hb).2.2.2.2.2⟩) (fun b o _ _ hc e _=>k b o hc e) (fun b o _ _ hc e _=>⟨o.slots,k b o hc e⟩)
  (fun b o _ e n=>?_) (fun b o hc e=>⟨o,k b o hc e⟩) (fun b xs e=>?_) (fun b o u e=>?_) (fun b ps e=>⟨#[],?_⟩) (fun m hm=>?_) (fun b u e=>?_) I.bare
 ·rw[ai (Nat.ne_of_lt (Nat.lt_of_lt_of_le (Heap.lt_size e) hT))];exact n
 ·rw[ai (am e hn)];exact e
 ·rw[ai (am e hn)];exact e
 ·rw[ai (am e hn),e];simp
 ·obtain ⟨o,es,ep,ho,r⟩:=hm
  exact ⟨o,es,ep,k _ o (fun z=>(hf _ z).2.1 rfl) ho,r⟩
 ·by_cases hb:b=T
  ·subst hb
   rw[ae] at e
   cases e
   exact new
  ·rw[ai hb] at e
   refine (I.hok b u e).stay (fun c v hc q=>k c v ?_ q) (fun c q=>by rw[ai (am q hn)];exact q) fun c xs q=>by rw[ai (am q hn)];exact q
   rcases hc with z|z
   ·rw[z];exact nit b u e
   ·exact nit c _ z
end
section
variable {X:Cx}
theorem Bh {tg:Expr}{pins:List (Addr×Obj)}{σ:St}{H:Hp}{s:Shared}{R:It→Hp→Prop}{J:It}{tn:Nat→Heap→Prop}{tk:Nat}(I:Inv X pins σ H s)(o:Obj)
  (T:Turn X.prog X.w X.K tg J [s.heap.objs.size] s.heap.objs.size tn)(st:tn 0 (s.heap.push o))(q:R J H):PIE X pins σ tg R (.ref s.heap.objs.size) {s with heap:=s.heap.push o,toks:=tk}:=by
 refine ⟨s.heap.objs.size,[s.heap.objs.size],tn,J,H,rfl,I.kept fun b ob e=>Heap.get?_push_of_some _ e,T,st,fun b hb=>?_,q⟩
 have e:b=s.heap.objs.size:=by simpa using hb
 subst e
 exact I.fpOk (Nat.le_refl _) (I.hok.fresh (Nat.le_refl _))
end
def Itc (lo c:Int)(n:Nat):It:=⟨fun i _=>i<n,fun i H x H'=>H'=H∧x=.int (lo+(i:Nat)*c),fun i _=>n≤i⟩
theorem o8 {P:Program}{w:World}{K:Frag}{tg:Expr}(it:Addr)(lo c:Int)(n:Nat):Turn P w K tg (Itc lo c n) [it] it (fun i h=>IsRangeIter h it (lo+(i:Nat)*c) ((n:Int)-(i:Nat)) c) where
 mem:=by simp
 obj:=fun i h st b hb=>by
  have e:b=it:=by simpa using hb
  subst e
  exact ⟨_,st,fun v z=>nomatch z⟩
 keep:=fun i h h' st k=>k it (by simp) _ st
 item:=by
  intro X hP hw hK hc i pins s σ H E I hf st hg
  subst hP hw hK
  obtain ⟨f0,f1,f2,f3,f4,f5⟩:=hf it (by simp)
  have W:=Walks.range (prog:=X.prog) (w:=X.w) (I.ok.hd hc) it lo c n
  refine W.item i s _ _ hg st fun v h' tk hv st' kk=>?_
  obtain ⟨t,rfl⟩:=hv
  have I1:Inv X pins σ H {s with heap:=h',toks:=tk}:=I.turned (fun b o hb e=>kk b o (by simpa using hb) e) f0 f1 f3 f4 f5
  exact ⟨_,rfl,Ax (s:={s with heap:=h',toks:=tk}) (n:="range_iterator") st' rfl rfl (by decide) ⟨.int (lo+(i:Nat)*c),H,I1,⟨t,rfl⟩,⟨rfl,rfl⟩,st',fun b hb=>(hf b hb).1⟩⟩
 done:=by
  intro X hP hw hK hc i pins s σ H E I hf st hg
  subst hP hw hK
  obtain ⟨f0,f1,f2,f3,f4,f5⟩:=hf it (by simp)
  exact wpAny_pyNext_range_end (I.ok.hd hc) st (by have:n≤i:=hg;omega) fun h' eb=>⟨rfl,I.turned (t':=s.toks) (fun b o hb e=>eb b o hb e) f0 f1 f3 f4 f5⟩
 self:=fun A i s Q E st h=>wpAny_pyIter_rangeiter st h
def RgC (i j c:Int)(n:Nat):Prop:=c≠0∧c.natAbs<1073741824∧Builtin.Range.small i j c=true∧Builtin.Range.rangeSize i j c=n
theorem RgC.neg {i j:Int}(ha:-(2 ^ 62)≤i)(ha':i<2 ^ 62)(hb:-(2 ^ 62)≤j)(hb':j<2 ^ 62):RgC i j (-1) (i-j).toNat:=
 ⟨by decide,by decide,PySem.W.small_down ha ha' hb hb',PySem.W.rangeSize_downNat i j⟩
def iRng3 (ta:TA):TI:=fun σ H R=>ta σ H fun vs H1=>∃ (i j c:Int) (n:Nat),vs=[.int i,.int j,.int c]∧RgC i j c n∧R (Itc i c n) H1
section
variable {X:Cx} {tg:Expr}
theorem vn {a b c:Expr}{ta:TA}{p pos:Pos}(hg:Gl X "range")(hm:X.mg "range"=none)(ha:PA X [a,b,c] ta)
  (hs:starEach [a,b,c] X.env=(false,eval a X.env)::starEach [b,c] X.env:=by rfl)(hpl:(backTo pos (starEach [b,c] X.env)).any (·.1)=false:=by rfl):
  PI X tg (.Call (.Name "range" p) [a,b,c] [] pos) (iRng3 ta):=by
 intro pins s σ H R I h
 refine Call_ (iK I hg hm boot_range (PyProof.Rows.callWith_type1 (thn (ha pos pins s σ H _ I h) fun us s1 ⟨vs,H1,I1,r1,q1⟩=>?_) hs hpl))
 obtain ⟨i,j,k,n,e,⟨c0,c1,c2,c3⟩,q⟩:=q1
 subst e
 cases r1 with
 | cons r rr=>
  cases rr with
  | cons r' rr=>
   cases rr with
   | cons r'' rr=>
    cases rr
    obtain ⟨t,rfl⟩:=r
    obtain ⟨t',rfl⟩:=r'
    obtain ⟨t'',rfl⟩:=r''
    refine call_range_3 c0 ?_ (.inl (PyProof.noPylong_small c1))
    refine wpAny_pyIter_range (IsRange.new ..) c2 ?_
    have I2:Inv X pins σ H1 {s1 with heap:=s1.heap.push {cls:=.type "range",data:=.fields #[.int i t,.int j t',.int k t'']}}:=I1.kept (t':=s1.toks) fun b o e=>Heap.get?_push_of_some _ e
    refine Bh (tk:=s1.toks) I2 _ (o8 _ i k n) ?_ q
    have e1:i+((0:Nat):Int)*k=i:=by simp
    have e2:(n:Int)-((0:Nat):Int)=Builtin.Range.rangeSize i j k:=by rw[c3];simp
    show IsRangeIter _ _ (i+((0:Nat):Int)*k) ((n:Int)-((0:Nat):Int)) k
    rw[e1,e2]
    exact Heap.get?_push_size _ rfl
end
theorem tH {lo c:Int}{n:Nat}{g:TG}{tb:TS}{D:xj}{σ:St}{H:Hp}(Pv:Nat→St→Hp→Prop)(h0:Pv 0 σ H)
  (hs:∀ i σ H,i<n→Pv i σ H→g (.int (lo+(i:Nat)*c)) σ H fun σ2 H2=>tb {D with nx:=Pv (i+1),ct:=Pv (i+1),bk:=D.nx} σ2 H2)(hd:∀ σ H,Pv n σ H→D.nx σ H):
  ∃ W:Nat→Nat→St→Hp→Prop,(∃ m,W 0 m σ H)∧∀ i m σ H,W i m σ H→
   ((Itc lo c n).stop i H∧D.nx σ H)∨((Itc lo c n).go i H∧∃ N:St→Hp→Prop,(∀ σ' H',N σ' H'→∃ m',m'<m∧W (i+1) m' σ' H')∧∀ x H',(Itc lo c n).yld i H x H'→g x σ H' fun σ2 H2=>tb {D with nx:=N,ct:=N,bk:=D.nx} σ2 H2):=by
 refine ⟨fun i m σ H=>m=n-i∧i≤n∧Pv i σ H,⟨n,by simp,Nat.zero_le _,h0⟩,?_⟩
 rintro i m σ H ⟨rfl,hi,p⟩
 by_cases hlt:i<n
 ·refine .inr ⟨hlt,Pv (i+1),fun σ' H' p'=>⟨n-(i+1),by omega,rfl,hlt,p'⟩,fun x H' y=>?_⟩
  obtain ⟨e,y⟩:=y
  subst e y
  exact hs i σ _ hlt p
 ·have e:i=n:=by omega
  subst e
  exact .inl ⟨Nat.le_refl _,hd σ H p⟩
section
variable {X:Cx} {tg:Expr}
end
section
variable {prog:Program} {w:World} {A:Around} {E:Value→Shared→Prop} {s:Shared}
end
section
variable {X:Cx} {pins:List (Addr×Obj)} {σ:St} {H:Hp} {s:Shared} {d:Addr} {o:Obj}
end
section
variable {P:Program} {w:World} {K:Frag} {tg:Expr} {d:Addr} {o:Obj} {es:Array DictEntry} {ep:Nat}
end
section
variable {X:Cx} {tg e:Expr} {td:TE} {apos cpos:Pos}
end
def Ite (K:Frag)(a:Addr):It:=
 ⟨fun i H=>∃ (xs:List V) (x:V),SqL K H a xs∧xs[i]?=some x,fun i H v H'=>∃ T x,v=.ref T∧H T=none∧H'=upd H T (.tup [.int (i:Nat),x])∧∀ xs,SqL K H a xs→xs[i]?=some x,fun i H=>∃ xs:List V,SqL K H a xs∧xs.length≤i⟩
theorem ui {P:Program}{w:World}{K:Frag}{elts:List Expr}{kk:Nat}{tpos:Pos}(a e it:Addr):
  Turn P w K (.Tuple elts kk tpos) (Ite K a) [e,it] e (fun i h=>(∃ old,IsEnum h e it ((i:Nat):Int) old)∧h.IsListIter it a i∧e≠it) where
 mem:=by simp
 obj:=fun i h st b hb=>by
  obtain ⟨⟨old,he⟩,⟨o,ho,hc,hd⟩,_⟩:=st
  have e':b=e∨b=it:=by simpa using hb
  rcases e' with z|z
  ·rw[z];exact ⟨_,he,fun v q=>nomatch q⟩
  ·rw[z];exact ⟨o,ho,fun v q=>by rw[hd] at q;cases q⟩
 keep:=fun i h h' st k=>let ⟨⟨old,he⟩,hi,hne⟩:=st;⟨⟨old,k e (by simp) _ he⟩,hi.at fun o q=>k it (by simp) o q,hne⟩
 item:=by
  intro X hP hw hK hc i pins s σ H E I hf st hg
  subst hP hw hK
  obtain ⟨⟨old,he⟩,hit,hne⟩:=st
  obtain ⟨xs,x,hq,hx⟩:=hg
  obtain ⟨its,rv,p,hz⟩:=I.list hq
  obtain ⟨u,hu,ru⟩:=rv.get hx
  have hel:e<s.heap.objs.size:=Heap.lt_size he
  have hil:it<s.heap.objs.size:=by obtain ⟨_,q,_⟩:=hit;exact Heap.lt_size q
  refine wpAny_pyNext_enum_item he hit p.isList (x:=u) (by simpa using hu) hne fun h' ho hit' hT hsz hk=>?_
  refine ⟨_,rfl,wpAny_letOwnedTupleGo_enum (s:={s with heap:=h',toks:=s.toks+1}) ho fun h'' he' sb=>?_⟩
  have hT2:h''.get? s.heap.objs.size=some {cls:=.type "tuple",data:=.seq #[.int i s.toks,u]}:=(sb.2 _ (Nat.ne_of_gt hel)).trans hT
  have new:df X.prog X.w (upd H s.heap.objs.size (.tup [.int (i:Nat),x])) h'' s.heap.objs.size (.tup [.int (i:Nat),x]):=
   ⟨by show 2≤sizeLine;decide,[.int i s.toks,u],.cons ⟨_,rfl⟩ (.cons ru .nil),⟨_,hT2,rfl,_,rfl⟩⟩
  have I1:Inv X pins σ (upd H s.heap.objs.size (.tup [.int (i:Nat),x])) {s with heap:=h'',toks:=s.toks+1}:=
   I.turnedNew (ch:=[e,it]) (fun b ob hb q=>(sb.2 b (fun z=>hb (by simp[z]))).trans (hk b ob (fun z=>hb (by simp[z])) (fun z=>hb (by simp[z])) q)) hf (Nat.le_refl _) new
  refine ⟨.ref s.heap.objs.size,_,I1,rfl,⟨_,x,rfl,I.hok.fresh (Nat.le_refl _),rfl,fun ys hy=>by rw[I.list_inj hy hq];exact hx⟩,⟨⟨u,?_⟩,hit'.at fun o q=>(sb.2 it (Ne.symm hne)).trans q,hne⟩,fun b hb=>?_⟩
  ·have e1:((i+1:Nat):Int)=(i:Int)+1:=by omega
   rw[e1];exact he'
  ·have hb':b<s.heap.objs.size:=by
    have e':b=e∨b=it:=by simpa using hb
    rcases e' with z|z
    ·rw[z];exact hel
    ·rw[z];exact hil
   rw[ai (Nat.ne_of_lt hb')]
   exact (hf b hb).1
 done:=by
  intro X hP hw hK hc i pins s σ H E I hf st hg
  subst hP hw hK
  obtain ⟨⟨old,he⟩,hit,hne⟩:=st
  obtain ⟨xs,hq,hx⟩:=hg
  obtain ⟨its,rv,p,hz⟩:=I.list hq
  obtain ⟨f0,f1,f2,f3,f4,f5⟩:=hf it (by simp)
  have hl:=rv.length
  exact wpAny_pyNext_enum_end (I.ok.hd hc) he hit p.isList (by simp;omega) fun h' eb=>⟨rfl,I.turned (t':=s.toks) (fun b o hb q=>eb b o hb q) f0 f1 f3 f4 f5⟩
 self:=fun A i s Q E st h=>let ⟨⟨_,he⟩,_⟩:=st;wpAny_pyIter_enum he h
def iEnum (K:Frag)(ta:TA):TI:=fun σ H R=>ta σ H fun vs H1=>∃ a xs,vs=[.ref a]∧SqL K H1 a xs∧R (Ite K a) H1
theorem eu {X:Cx}{e:Expr}{ta:TA}{p pos tpos:Pos}{elts:List Expr}{kk:Nat}(hg:Gl X "enumerate")(hm:X.mg "enumerate"=none)(ha:PA X [e] ta)(hs:starEach [e] X.env=[(false,eval e X.env)]:=by rfl):
  PI X (.Tuple elts kk tpos) (.Call (.Name "enumerate" p) [e] [] pos) (iEnum X.K ta):=by
 intro pins s σ H R I h
 refine Call_ (iK I hg hm boot_enumerate (PyProof.Rows.callWith_type1 (thn (ha pos pins s σ H _ I h) fun us s1 ⟨vs,H1,I1,r1,q1⟩=>?_) hs rfl))
 obtain ⟨a,xs,ex,hq,q⟩:=q1
 subst ex
 cases r1 with
 | cons r rr=>
  cases rr
  cases r
  obtain ⟨its,rv,p',hz⟩:=I1.list hq
  refine call_enumerate_list p'.isList fun h' he hit hsz hk=>wpAny_pyIter_enum he ?_
  have I2:Inv X pins σ H1 {s1 with heap:=h'}:=I1.kept (t':=s1.toks) hk
  refine ⟨s1.heap.objs.size+1,[s1.heap.objs.size+1,s1.heap.objs.size],_,_,H1,rfl,I2,ui a (s1.heap.objs.size+1) s1.heap.objs.size,⟨⟨.none,he⟩,hit,Nat.succ_ne_self _⟩,fun b hb=>?_,q⟩
  have e':b=s1.heap.objs.size+1∨b=s1.heap.objs.size:=by simpa using hb
  have hle:s1.heap.objs.size≤b:=by
   rcases e' with z|z
   ·rw[z];exact Nat.le_add_right _ _
   ·rw[z];exact Nat.le_refl _
  exact I1.fpOk hle (I1.hok.fresh hle)
end L2
section
namespace Bits
open PySem PyProof.Rows
end Bits
end
section
namespace TL
open PySem PySem.Builtin PySem.Builtin.Str PySem.StrLaws
abbrev tl (x:Str):List Nat:=x.cps.toList
def pre (S l:List Nat):Bool:=l.take S.length==S
def par (S:List Nat):List Nat→List Nat→Option (List Nat×List Nat)
 | _,[]=>none
 | acc,c::r=>if pre S (c::r)=true then some (acc,(c::r).drop S.length) else par S (acc++[c]) r
end TL
end
namespace L2
open PySem PySem.Spec PyProof.Rows
section
variable {X:Cx} {pins:List (Addr×Obj)} {σ:St} {H:Hp} {s:Shared} {Q:VK}
end
section
variable {X:Cx}
end
section
variable {X:Cx} {o e:Expr} {to te:TE}
end
end L2
namespace L2
open PySem PySem.Spec PyProof.Rows
section
variable {X:Cx}
end
end L2
namespace Att
open PySem PySem.W PySem.Calls PyProof.Rows
section
variable {prog:Program} {w:World} {A:Around} {E:Value→Shared→Prop} {s:Shared} {K:Frag}
end
end Att
namespace L2
open PySem PySem.Spec PyProof.Rows
end L2
namespace L2
open PySem PySem.Spec PyProof.Rows
end L2
namespace L2
open PySem PySem.Spec PyProof.Rows
def jd (s:Stmt)(j:Nat):Stmt:=match s with
 | .ClassDef _ _ _ body _ _ _ _ _ _ _=>body.getD j (.Pass ⟨0,0,0,0⟩)
 | _=>.Pass ⟨0,0,0,0⟩
def eI (s:Stmt):Arguments:=match s with
 | .FunctionDef _ a _ _ _ _ _ _ _ _=>a
 | _=>{posonlyargs:=[],args:=[],vararg:=none,kwonlyargs:=[],kw_defaults:=[],kwarg:=none,defaults:=[]}
def du (s:Stmt):List Stmt:=match s with
 | .FunctionDef _ _ b _ _ _ _ _ _ _=>b
 | _=>[]
def aj (s:Stmt):Scope:=match s with
 | .FunctionDef _ _ _ _ _ _ sc _ _ _=>sc
 | _=>{kind:=.function,names:=[],isGenerator:=false,isCoroutine:=false}
abbrev CX0:CXT:=fun _ _ _ _ _ _=>False
abbrev E0:XK:=fun _ _ _=>False
theorem mM {X:Cx}:lP CX0 X E0:=fun _ _ _ _ _ _ _ h=>h.elim
structure Fun (K:Frag)(x qual:Str)(st:Stmt)(f:Addr)(fd:FuncData):Prop where
 ex:∃ (oc:Value) (od:Option Addr) (kV doc pm:Value) (an:Option Addr) (cdv ct:Value) (osl:Array (Option Value)),
  fd=fnOf x qual (eI st) (du st) (aj st) .none kV doc pm an cdv ct∧K.lookup f=some ⟨oc,od,.func fd,osl⟩∧codeIn K cdv qual=true
 kp:keepIn K (.ref f)=true
section
variable {P:Program} {w:World} {K:Frag} {mg:Str→Option Value} {base:Heap}
theorem Fun.ok {x qual:Str}{st:Stmt}{f:Addr}{fd:FuncData}{N ps:List Str}{k:Nat}{sp:Sp}(F:Fun K x qual st f fd)(S:ao N ps (aj st))(len:∀ vs H Q E,sp vs H Q E→vs.length=ps.length)
  (hbody:∀ (cdv:Value) (A:Around) (outer:List Env) (s:Shared) (H:Hp) (vs:List V) (Q:VK) (E:XK),bO k (A.deeper (envOfC qual (aj st) s.heap.objs.size f cdv))→sp vs H Q E→
   ∃ t,PSs (AF CX0 P w K mg base N qual (aj st) f cdv A outer s H E).nox (du st) t∧t {nx:=fun _ H'=>Q .non H',rt:=Q} (start N vs) H):aZ P w K mg base CX0 (k+1) f fd ps sp:=by
 obtain ⟨oc,od,kV,doc,pm,an,cdv,ct,osl,rfl,lk,hcd⟩:=F.ex
 refine fn_of lk hcd S len fun A outer s H vs Q E hr hsp=>?_
 obtain ⟨t,h,q⟩:=hbody cdv A outer s H vs Q E hr hsp
 exact ⟨t,h.nox,q⟩
theorem Fun.binds {x qual:Str}{st:Stmt}{f:Addr}{fd:FuncData}{ps:List Str}(F:Fun K x qual st f fd)
  (h:∀ (kV doc pm:Value) (an:Option Addr) (cdv ct:Value) (us:List Value),us.length=ps.length→bindArgs (fnOf x qual (eI st) (du st) (aj st) .none kV doc pm an cdv ct) ⟨us,[]⟩=pure (ps.zip us)):d4 K fd ps []:=by
 obtain ⟨oc,od,kV,doc,pm,an,cdv,ct,osl,rfl,lk,hcd⟩:=F.ex
 exact .all (h kV doc pm an cdv ct)
theorem kO {x qual:Str}{st:Stmt}{f:Addr}{oc:Value}{od an:Option Addr}{osl:Array (Option Value)}{kV doc pm cdv ct:Value}(l:K.lookup f=some ⟨oc,od,.func (fnOf x qual (eI st) (du st) (aj st) .none kV doc pm an cdv ct),osl⟩)
  (c:codeIn K cdv qual=true)(k:keepIn K (.ref f)=true):Fun K x qual st f (fnOf x qual (eI st) (du st) (aj st) .none kV doc pm an cdv ct):=⟨⟨oc,od,kV,doc,pm,an,cdv,ct,osl,rfl,l,c⟩,k⟩
end
theorem BF {A:Around}{k:Nat}(hr:bO k A):A.units+1<cLine:=Nat.lt_of_le_of_lt (Nat.add_le_add_left (by decide:1≤64) _) hr.units
section
variable {X:Cx}
theorem pv (i:Nat){x:Str}{pos:Pos}(hN:X.N[i]?=some x:=by rfl)(hv:Vis X.env.scope x:=by first|exact Or.inl rfl|exact Or.inr (Or.inl rfl)|exact Or.inr (Or.inr rfl))(hd:(x==("__debug__":Str))=false:=by decide)
  (hcd:(x==("__classdict__":Str))=false:=by decide):PE X (.Name x pos) (su i):=Bi hN hv hd hcd
end
theorem nD {A B:Prop}(h:B):if false=true then A else B:=by
 rw[if_neg Bool.false_ne_true]
 exact h
theorem oy {A B:Prop}(h:A):if true=true then A else B:=by
 rw[if_pos rfl]
 exact h
theorem ite2 {c A B:Prop} [Decidable c](h1:c→A)(h2:¬c→B):if c then A else B:=by
 by_cases h:c
 ·rw[if_pos h]
  exact h1 h
 ·rw[if_neg h]
  exact h2 h
def az (H H':Hp):Prop:=∀ b o,H b=some o→H' b=some o
theorem az.refl (H:Hp):az H H:=fun _ _ h=>h
theorem az.trans {H H1 H2:Hp}(a:az H H1)(b:az H1 H2):az H H2:=fun c o h=>b c o (a c o h)
theorem az.free {H H':Hp}(e:az H H'){l:Addr}(h:H' l=Option.none):H l=Option.none:=by
 cases q:H l with
 | none=>rfl
 | some o=>
  rw[e l o q] at h
  cases h
theorem az.seq {K:Frag}{H H':Hp}{a:Addr}{xs:List V}(e:az H H')(h:SqL K H a xs):SqL K H' a xs:=by
 rcases h with (h|⟨o,h⟩)|h
 ·exact .inl (.inl (e _ _ h))
 ·exact .inl (.inr ⟨o,e _ _ h⟩)
 ·exact .inr h
section
variable {κ:Type} [DecidableEq κ]
end
theorem nd_ix {α:Type}{l:List α}(hN:l.Nodup){i j:Nat}{x:α}(a:l[i]?=some x)(b:l[j]?=some x):i=j:=by
 obtain ⟨h1,e1⟩:=Gq a
 obtain ⟨h2,e2⟩:=Gq b
 exact (getElem_inj hN).mp (e1.trans e2.symm)
theorem az.made {H H1:Hp}{x dx C:Addr}(nx:H x=Option.none)(nd:H dx=Option.none)(k:∀ b o,(upd (upd H dx (.own x)) x (.ins C dx [])) b=some o→b≠x→H1 b=some o):az H H1:=fun b o e=>
 k b o (by rw[ai (am e nx),ai (am e nd)];exact e) (am e nx)
end L2
section
namespace L2
open PySem PySem.Spec PyProof.Rows
open PySem.W (WData Codec OpenSpec Well WellAll ReadsW ReadsAllW)
mutual
inductive Dw (K:Frag) (H:Hp):V→WData→Prop
 | non:Dw K H .non .none
 | bl (b:Bool):Dw K H (.bl b) (.bool b)
 | int (i:Int):Dw K H (.int i) (.int i)
 | str (x:Str):Dw K H (.str x) (.str x)
 | byt (b:Array UInt8):Dw K H (.byt b) (.bytes b.toList)
 | lst {a:Addr} {xs:List V} {ds:List WData}:SqL K H a xs→jB K H xs ds→Dw K H (.ref a) (.list ds)
 | tup {a:Addr} {xs:List V} {ds:List WData}:SqT K H a xs→jB K H xs ds→Dw K H (.ref a) (.tuple ds)
inductive jB (K:Frag) (H:Hp):List V→List WData→Prop
 | nil:jB K H [] []
 | cons {v:V} {vs:List V} {d:WData} {ds:List WData}:Dw K H v d→jB K H vs ds→jB K H (v::vs) (d::ds)
end
theorem wL {K:Frag}{H:Hp}:∀ ns:List Int,jB K H (ns.map V.int) (ns.map WData.int)
 | []=>.nil
 | n::r=>.cons (.int n) (wL r)
theorem wx {K:Frag}{H:Hp}:∀ (ns:List Int) (xs:List V),jB K H xs (ns.map WData.int)→xs=ns.map V.int
 | [],xs,h=>by
  cases h
  rfl
 | n::r,xs,h=>by
  cases h with
  | cons h1 h2=>
   cases h1
   rw[wx r _ h2] <;> rfl
section
variable {P:Program} {w:World} {K:Frag} {H:Hp} {h:Heap} {R:PySem.W.WRecords} {cl:Str→Option Addr}
theorem A1 {a:Addr}{xs:List V}(hok:HOk P w H h)(KX:K.In h)(q:SqL K H a xs):∃ (its:List Value) (o:Obj) (n:Nat),bF xs its∧h.get? a=some o∧o.cls=.type "list"∧o.data=.seq its.toArray n:=by
 rcases q with q|⟨o,its,n,e,hc,_,hd,_,hv⟩
 ·obtain ⟨_,its,n,hv,e⟩:=(show df P w H h a (.lst xs) from q.ok hok)
  exact ⟨its,_,n,hv,e,rfl,rfl⟩
 ·exact ⟨its.toList,o,n,hv,KX _ _ e,hc,by simp[hd]⟩
theorem AZ {a:Addr}{xs:List V}(hok:HOk P w H h)(KX:K.In h)(q:SqT K H a xs):∃ (its:List Value) (o:Obj) (n:Nat),bF xs its∧h.get? a=some o∧o.cls=.type "tuple"∧o.data=.seq its.toArray n:=by
 rcases q with q|⟨o,its,n,e,hc,hd,_,hv⟩
 ·obtain ⟨_,its,hv,o,e,hc,n,hd⟩:=(show df P w H h a (.tup xs) from q.ok hok)
  exact ⟨its,o,n,hv,e,hc,hd⟩
 ·exact ⟨its.toList,o,n,hv,KX _ _ e,hc,by simp[hd]⟩
mutual
theorem Dw.reads (hok:HOk P w H h)(KX:K.In h):∀ (d:WData) (v:V) (u:Value),Dw K H v d→cD v u→∃ as,ReadsW R cl h u d as
 | .none,_,_,x,r=>by
  cases x
  cases r
  exact ⟨_,ReadsW.none⟩
 | .bool b,_,_,x,r=>by
  cases x
  cases r
  exact ⟨_,ReadsW.bool b⟩
 | .int i,_,_,x,r=>by
  cases x
  obtain ⟨t,rfl⟩:=r
  exact ⟨_,ReadsW.int i t⟩
 | .str s,_,_,x,r=>by
  cases x
  obtain ⟨t,rfl⟩:=r
  exact ⟨_,ReadsW.str s t⟩
 | .bytes b,_,_,x,r=>by
  cases x
  obtain ⟨t,rfl⟩:=r
  exact ⟨_,ReadsW.bytes _ t⟩
 | .list ds,_,_,x,r=>by
  cases x with
  | lst hs ha=>
   cases r
   obtain ⟨its,o,n,rv,ho,hc,hd⟩:=A1 hok KX hs
   obtain ⟨as,hr⟩:=Dw.readsAll hok KX ds _ its ha rv
   exact ⟨_,ReadsW.list ho hc hd hr⟩
 | .tuple ds,_,_,x,r=>by
  cases x with
  | tup hs ha=>
   cases r
   obtain ⟨its,o,n,rv,ho,hc,hd⟩:=AZ hok KX hs
   obtain ⟨as,hr⟩:=Dw.readsAll hok KX ds _ its ha rv
   exact ⟨_,ReadsW.tuple ho hc hd hr⟩
 | .float _,_,_,x,_=>by cases x
 | .dict _,_,_,x,_=>by cases x
 | .bytearray _,_,_,x,_=>by cases x
 | .set _,_,_,x,_=>by cases x
 | .frozenset _,_,_,x,_=>by cases x
 | .obj _ _,_,_,x,_=>by cases x
theorem Dw.readsAll (hok:HOk P w H h)(KX:K.In h):∀ (ds:List WData) (vs:List V) (us:List Value),jB K H vs ds→bF vs us→∃ as,ReadsAllW R cl h us ds as
 | [],_,_,x,r=>by
  cases x
  cases r
  exact ⟨_,ReadsAllW.nil⟩
 | d::ds,_,_,x,r=>by
  cases x with
  | cons h1 h2=>
   cases r with
   | cons r1 r2=>
    obtain ⟨as,q1⟩:=Dw.reads hok KX d _ _ h1 r1
    obtain ⟨bs,q2⟩:=Dw.readsAll hok KX ds _ _ h2 r2
    exact ⟨_,ReadsAllW.cons q1 q2⟩
end
end
mutual
def plW:WData→Bool
 | .none=>true
 | .bool _=>true
 | .int _=>true
 | .str _=>true
 | .bytes _=>true
 | .list xs=>tY xs
 | .tuple xs=>tY xs
 | _=>false
def tY:List WData→Bool
 | []=>true
 | x::r=>plW x&&tY r
end
theorem rm {α:Type}{f:α→WData}(h:∀ a,plW (f a)=true):∀ l:List α,tY (l.map f)=true
 | []=>rfl
 | x::r=>by
  show (plW (f x)&&tY (r.map f))=true
  rw[h x,rm h r] <;> rfl
theorem jt:∀ (c:Codec) (a:c.denote),plW (c.enc a)=true
 | .unit,_=>rfl
 | .bool,_=>rfl
 | .int _ _,_=>rfl
 | .nat _ _,_=>rfl
 | .u8,_=>rfl
 | .bytes _ _,_=>rfl
 | .text _ _ _ _,_=>rfl
 | .list _ _ c,a=>rm (fun x=>jt c x) a
 | .pair c d,a=>by
  show (plW (c.enc a.1)&&(plW (d.enc a.2)&&true))=true
  rw[jt c a.1,jt d a.2] <;> rfl
 | .triple c d e,a=>by
  show (plW (c.enc a.1)&&(plW (d.enc a.2.1)&&(plW (e.enc a.2.2)&&true)))=true
  rw[jt c a.1,jt d a.2.1,jt e a.2.2] <;> rfl
 | .option c,none=>rfl
 | .option c,some x=>jt c x
theorem nY:∀ (cs:List Codec) (a:Codec.denoteAll cs),tY (Codec.encAll cs a)=true
 | [],_=>rfl
 | c::cs,a=>by
  show (plW (c.enc a.1)&&tY (Codec.encAll cs a.2))=true
  rw[jt c a.1,nY cs a.2] <;> rfl
theorem iR:∀ {xs:List WData} {d:WData},d∈xs→d.weight≤WData.weightAll xs
 | [],d,h=>absurd h (by simp)
 | x::r,d,h=>by
  show d.weight≤x.weight+1+WData.weightAll r
  rcases Mc h with e|m
  ·rw[e]
   omega
  ·have z:=iR m
   omega
def toV:Value→V
 | .none=>.non
 | .bool b=>.bl b
 | .int i _=>.int i
 | .str x _=>.str x
 | .bytes b _=>.byt b
 | .ref a=>.ref a
 | _=>.non
def OkU (A:List Addr):Value→Prop
 | .none=>True
 | .bool _=>True
 | .int _ _=>True
 | .str _ _=>True
 | .bytes _ _=>True
 | .ref a=>a∈A
 | _=>False
theorem OkU.mono {A B:List Addr}(h:∀ a∈A,a∈B):∀ {u:Value},OkU A u→OkU B u:=fun {u} x=>by
 cases u with
 | ref a=>exact h a x
 | none=>trivial
 | bool b=>trivial
 | int i t=>trivial
 | str s t=>trivial
 | bytes b t=>trivial
 | _=>exact False.elim x
theorem xD {A:List Addr}{u:Value}(x:OkU A u):cD (toV u) u:=by
 cases u with
 | ref a=>rfl
 | none=>rfl
 | bool b=>rfl
 | int i t=>exact ⟨t,rfl⟩
 | str s t=>exact ⟨t,rfl⟩
 | bytes b t=>exact ⟨t,rfl⟩
 | _=>exact False.elim x
theorem fZ {A:List Addr}:∀ {vs:List Value},(∀ u∈vs,OkU A u)→bF (vs.map toV) vs
 | [],_=>.nil
 | u::r,h=>.cons (xD (h u (mem_cons_self ..))) (fZ fun x hx=>h x (mem_cons_of_mem _ hx))
def jC (h:Heap)(A:List Addr)(a:Addr):Prop:=∃ vs:List Value,vs.length≤sizeLine∧(∀ u∈vs,OkU A u)∧
 (h.get? a=some {cls:=.type "list",data:=.seq vs.toArray}∨h.get? a=some {cls:=.type "tuple",data:=.seq vs.toArray})
theorem jC.mono {h:Heap}{A B:List Addr}{a:Addr}(k:∀ a∈A,a∈B)(x:jC h A a):jC h B a:=by
 obtain ⟨vs,h1,h2,h3⟩:=x
 exact ⟨vs,h1,fun u hu=>(h2 u hu).mono k,h3⟩
theorem fb {P:Params}{h:Heap}:∀ {vs:List Value} {ds:List WData},WellAll P h vs ds→vs.length=ds.length
 | _,_,.nil=>rfl
 | _,_,.cons _ b=>by
  show _+1=_+1
  rw[fb b]
theorem nE {P:Params}{h:Heap}{v:Value}{ds:List WData}(x:Well P h v (.list ds)):∃ (a:Addr) (vs:List Value),v=.ref a∧h.get? a=some {cls:=.type "list",data:=.seq vs.toArray}∧WellAll P h vs ds:=by
 cases x with
 | list ho hall=>exact ⟨_,_,rfl,ho,hall⟩
theorem lf {P:Params}{h:Heap}{v:Value}{ds:List WData}(x:Well P h v (.tuple ds)):∃ (a:Addr) (vs:List Value),v=.ref a∧h.get? a=some {cls:=.type "tuple",data:=.seq vs.toArray}∧WellAll P h vs ds:=by
 cases x with
 | tuple ho hall=>exact ⟨_,_,rfl,ho,hall⟩
theorem nF {P:Params}{h:Heap}{us:List Value}{d:WData}{ds:List WData}(x:WellAll P h us (d::ds)):∃ (v:Value) (vs:List Value),us=v::vs∧Well P h v d∧WellAll P h vs ds:=by
 cases x with
 | cons a b=>exact ⟨_,_,rfl,a,b⟩
theorem wg {n:Nat}(h:n≤1048576):n≤sizeLine:=Nat.le_trans h (by decide)
section
variable {P:Params} {h:Heap}
mutual
theorem yO:∀ (d:WData) (v:Value),Well P h v d→plW d=true→d.weight≤1048576→∃ A:List Addr,OkU A v∧∀ a∈A,jC h A a
 | .none,_,x,_,_=>by
  cases x
  exact ⟨[],trivial,fun a m=>absurd m (by simp)⟩
 | .bool b,_,x,_,_=>by
  cases x
  exact ⟨[],trivial,fun a m=>absurd m (by simp)⟩
 | .int i,_,x,_,_=>by
  cases x
  exact ⟨[],trivial,fun a m=>absurd m (by simp)⟩
 | .str s,_,x,_,_=>by
  cases x
  exact ⟨[],trivial,fun a m=>absurd m (by simp)⟩
 | .bytes b,_,x,_,_=>by
  cases x
  exact ⟨[],trivial,fun a m=>absurd m (by simp)⟩
 | .list ds,_,x,p,z=>by
  obtain ⟨a,vs,rfl,ho,hall⟩:=nE x
  have z2:WData.weightAll ds≤1048576:=z
  obtain ⟨A,h1,h2⟩:=jP ds _ hall p fun d hd=>Nat.le_trans (iR hd) z2
  have k:∀ b∈A,b∈a::A:=fun b hb=>mem_cons_of_mem _ hb
  refine ⟨a::A,mem_cons_self ..,fun b hb=>?_⟩
  rcases Mc hb with e|m
  ·rw[e]
   exact ⟨vs,wg (by rw[fb hall];exact Nat.le_trans (PySem.W.length_le_weightAllW ds) z2),fun u hu=>(h1 u hu).mono k,.inl ho⟩
  ·exact (h2 b m).mono k
 | .tuple ds,_,x,p,z=>by
  obtain ⟨a,vs,rfl,ho,hall⟩:=lf x
  have z2:WData.weightAll ds≤1048576:=z
  obtain ⟨A,h1,h2⟩:=jP ds _ hall p fun d hd=>Nat.le_trans (iR hd) z2
  have k:∀ b∈A,b∈a::A:=fun b hb=>mem_cons_of_mem _ hb
  refine ⟨a::A,mem_cons_self ..,fun b hb=>?_⟩
  rcases Mc hb with e|m
  ·rw[e]
   exact ⟨vs,wg (by rw[fb hall];exact Nat.le_trans (PySem.W.length_le_weightAllW ds) z2),fun u hu=>(h1 u hu).mono k,.inr ho⟩
  ·exact (h2 b m).mono k
 | .float _,_,_,p,_=>Bool.noConfusion (show false=true from p)
 | .dict _,_,_,p,_=>Bool.noConfusion (show false=true from p)
 | .bytearray _,_,_,p,_=>Bool.noConfusion (show false=true from p)
 | .set _,_,_,p,_=>Bool.noConfusion (show false=true from p)
 | .frozenset _,_,_,p,_=>Bool.noConfusion (show false=true from p)
 | .obj _ _,_,_,p,_=>Bool.noConfusion (show false=true from p)
theorem jP:∀ (ds:List WData) (vs:List Value),WellAll P h vs ds→tY ds=true→(∀ d∈ds,d.weight≤1048576)→∃ A:List Addr,(∀ u∈vs,OkU A u)∧∀ a∈A,jC h A a
 | [],_,x,_,_=>by
  cases x
  exact ⟨[],fun u m=>absurd m (by simp),fun a m=>absurd m (by simp)⟩
 | d::ds,_,x,p,z=>by
  obtain ⟨v,vs,rfl,x1,x2⟩:=nF x
  have q:plW d=true∧tY ds=true:=Bool.and_eq_true_iff.mp p
  obtain ⟨A,a1,a2⟩:=yO d v x1 q.1 (z d (mem_cons_self ..))
  obtain ⟨B,b1,b2⟩:=jP ds vs x2 q.2 fun e he=>z e (mem_cons_of_mem _ he)
  have kA:∀ b∈A,b∈A++B:=fun b hb=>mem_append.mpr (.inl hb)
  have kB:∀ b∈B,b∈A++B:=fun b hb=>mem_append.mpr (.inr hb)
  refine ⟨A++B,fun u hu=>?_,fun b hb=>?_⟩
  ·rcases Mc hu with e|m
   ·rw[e]
    exact a1.mono kA
   ·exact (b1 u m).mono kB
  ·rcases Ma hb with m|m
   ·exact (a2 b m).mono kA
   ·exact (b2 b m).mono kB
end
end
def BU (o:Obj):Option HO:=match o.data with
 | .seq vs _=>if (o.cls==Value.type "list")=true then some (.frz o (.lst (vs.toList.map toV))) else some (.frz o (.tup (vs.toList.map toV)))
 | _=>none
def ny (K:Frag)(h:Heap)(A:List Addr):Hp:=fun b=>if b∈A then (if (K.lookup b).isNone=true then (h.get? b).bind BU else none) else none
def xg (H:Hp):Prop:=∀ b,H b=none∨∃ o u,H b=some (.frz o u)
theorem rP (vs:List Value):BU {cls:=.type "list",data:=.seq vs.toArray}=some (.frz {cls:=.type "list",data:=.seq vs.toArray} (.lst (vs.map toV))):=by
 show (if (Value.type "list" == Value.type "list")=true then some (HO.frz {cls:=.type "list",data:=.seq vs.toArray} (.lst (vs.toArray.toList.map toV))) else some (HO.frz {cls:=.type "list",data:=.seq vs.toArray} (.tup (vs.toArray.toList.map toV))))=_
 rw[if_pos (beq_self_eq_true _)]
theorem rO (vs:List Value):BU {cls:=.type "tuple",data:=.seq vs.toArray}=some (.frz {cls:=.type "tuple",data:=.seq vs.toArray} (.tup (vs.map toV))):=by
 show (if (Value.type "tuple" == Value.type "list")=true then some (HO.frz {cls:=.type "tuple",data:=.seq vs.toArray} (.lst (vs.toArray.toList.map toV))) else some (HO.frz {cls:=.type "tuple",data:=.seq vs.toArray} (.tup (vs.toArray.toList.map toV))))=_
 rw[if_neg (by decide)]
section
variable {P:Program} {w:World} {K:Frag} {h:Heap} {A:List Addr}
theorem nv {b:Addr}{o:Obj}(hb:b∈A)(hk:K.lookup b=none)(e:h.get? b=some o):ny K h A b=BU o:=by
 unfold ny
 rw[if_pos hb,hk,if_pos (show (none:Option Obj).isNone=true from rfl),e] <;> rfl
theorem An {b:Addr}{u:HO}(q:ny K h A b=some u):b∈A∧K.lookup b=none:=by
 unfold ny at q
 by_cases hb:b∈A
 ·rw[if_pos hb] at q
  cases hk:K.lookup b with
  | none=>exact ⟨hb,rfl⟩
  | some o=>
   rw[hk,if_neg (by simp)] at q
   cases q
 ·rw[if_neg hb] at q
  cases q
theorem nu (ar:∀ a∈A,jC h A a){b:Addr}{u:HO}(q:ny K h A b=some u):K.lookup b=none∧∃ vs:List Value,vs.length≤sizeLine∧(∀ u∈vs,OkU A u)∧
    ((h.get? b=some {cls:=.type "list",data:=.seq vs.toArray}∧u=.frz {cls:=.type "list",data:=.seq vs.toArray} (.lst (vs.map toV)))∨
     (h.get? b=some {cls:=.type "tuple",data:=.seq vs.toArray}∧u=.frz {cls:=.type "tuple",data:=.seq vs.toArray} (.tup (vs.map toV)))):=by
  obtain ⟨hb,hk⟩:=An q
  obtain ⟨vs,h1,h2,h3⟩:=ar b hb
  refine ⟨hk,vs,h1,h2,?_⟩
  rcases h3 with e|e
  · rw[nv hb hk e,rP] at q
    exact .inl ⟨e,(Oi q).symm⟩
  · rw[nv hb hk e,rO] at q
    exact .inr ⟨e,(Oi q).symm⟩
theorem xb (ar:∀ a∈A,jC h A a):xg (ny K h A):=fun b=>by
 cases q:ny K h A b with
 | none=>exact .inl rfl
 | some u=>
  obtain ⟨_,vs,_,_,⟨_,e⟩|⟨_,e⟩⟩:=nu ar q
  ·exact .inr ⟨_,_,by rw[e]⟩
  ·exact .inr ⟨_,_,by rw[e]⟩
theorem AJ (ar:∀ a∈A,jC h A a):HOk P w (ny K h A) h:=fun b u q=>by
 obtain ⟨_,vs,h1,h2,⟨e,rfl⟩|⟨e,rfl⟩⟩:=nu ar q
 ·exact ⟨e,by rw[length_map];exact h1,vs,_,fZ h2,e⟩
 ·exact ⟨e,by rw[length_map];exact h1,vs,fZ h2,_,e,rfl,_,rfl⟩
theorem me {c c':Value}{vs us:List Value}(e:(some {cls:=c,data:=.seq vs.toArray}:Option Obj)=some {cls:=c',data:=.seq us.toArray}):c=c'∧vs=us:=by
 have e1:=Oi e
 have e2:c=c':=congrArg Obj.cls e1
 have e3:Data.seq vs.toArray=Data.seq us.toArray:=congrArg Obj.data e1
 injection e3 with e4
 refine ⟨e2,?_⟩
 have e5:=congrArg Array.toList e4
 simpa using e5
theorem argL (KX:K.In h)(ar:∀ a∈A,jC h A a){a:Addr}{vs:List Value}(ha:a∈A)(e:h.get? a=some {cls:=.type "list",data:=.seq vs.toArray}):(∀ u∈vs,OkU A u)∧SqL K (ny K h A) a (vs.map toV):=by
 obtain ⟨us,h1,h2,h3⟩:=ar a ha
 have hu:us=vs:=by
  rcases h3 with q|q
  ·rw[e] at q
   exact (me q).2.symm
  ·rw[e] at q
   exact absurd (Value.type.inj (me q).1) (by decide)
 subst hu
 refine ⟨h2,?_⟩
 cases hk:K.lookup a with
 | none=>exact .inl (.inr ⟨_,by rw[nv ha hk e,rP]⟩)
 | some o=>
  have e2:=KX a o hk
  rw[e] at e2
  obtain rfl:=Oi e2
  exact .inr ⟨_,us.toArray,_,hk,rfl,rfl,rfl,by rw[size_toArray];exact h1,by simpa using fZ h2⟩
theorem argT (KX:K.In h)(ar:∀ a∈A,jC h A a){a:Addr}{vs:List Value}(ha:a∈A)(e:h.get? a=some {cls:=.type "tuple",data:=.seq vs.toArray}):(∀ u∈vs,OkU A u)∧SqT K (ny K h A) a (vs.map toV):=by
 obtain ⟨us,h1,h2,h3⟩:=ar a ha
 have hu:us=vs:=by
  rcases h3 with q|q
  ·rw[e] at q
   exact absurd (Value.type.inj (me q).1) (by decide)
  ·rw[e] at q
   exact (me q).2.symm
 subst hu
 refine ⟨h2,?_⟩
 cases hk:K.lookup a with
 | none=>exact .inl (.inr ⟨_,by rw[nv ha hk e,rO]⟩)
 | some o=>
  have e2:=KX a o hk
  rw[e] at e2
  obtain rfl:=Oi e2
  exact .inr ⟨_,us.toArray,_,hk,rfl,rfl,by rw[size_toArray];exact h1,by simpa using fZ h2⟩
mutual
theorem BI {Pm:Params}(KX:K.In h)(ar:∀ a∈A,jC h A a):∀ (d:WData) (v:Value),Well Pm h v d→plW d=true→OkU A v→Dw K (ny K h A) (toV v) d
 | .none,_,x,_,_=>by
  cases x
  exact .non
 | .bool b,_,x,_,_=>by
  cases x
  exact .bl b
 | .int i,_,x,_,_=>by
  cases x
  exact .int i
 | .str s,_,x,_,_=>by
  cases x
  exact .str s
 | .bytes b,_,x,_,_=>by
  cases x
  have z:=Dw.byt (K:=K) (H:=ny K h A) b.toArray
  exact z
 | .list ds,_,x,p,hu=>by
  obtain ⟨a,vs,rfl,ho,hall⟩:=nE x
  obtain ⟨h2,hs⟩:=argL KX ar hu ho
  exact .lst hs (rR KX ar ds _ hall p h2)
 | .tuple ds,_,x,p,hu=>by
  obtain ⟨a,vs,rfl,ho,hall⟩:=lf x
  obtain ⟨h2,hs⟩:=argT KX ar hu ho
  exact .tup hs (rR KX ar ds _ hall p h2)
 | .float _,_,_,p,_=>Bool.noConfusion (show false=true from p)
 | .dict _,_,_,p,_=>Bool.noConfusion (show false=true from p)
 | .bytearray _,_,_,p,_=>Bool.noConfusion (show false=true from p)
 | .set _,_,_,p,_=>Bool.noConfusion (show false=true from p)
 | .frozenset _,_,_,p,_=>Bool.noConfusion (show false=true from p)
 | .obj _ _,_,_,p,_=>Bool.noConfusion (show false=true from p)
theorem rR {Pm:Params}(KX:K.In h)(ar:∀ a∈A,jC h A a):∀ (ds:List WData) (vs:List Value),WellAll Pm h vs ds→tY ds=true→(∀ u∈vs,OkU A u)→jB K (ny K h A) (vs.map toV) ds
 | [],_,x,_,_=>by
  cases x
  exact .nil
 | d::ds,_,x,p,hu=>by
  obtain ⟨v,vs,rfl,x1,x2⟩:=nF x
  have q:plW d=true∧tY ds=true:=Bool.and_eq_true_iff.mp p
  exact .cons (BI KX ar d v x1 q.1 (hu _ (mem_cons_self ..))) (rR KX ar ds vs x2 q.2 fun u m=>hu u (mem_cons_of_mem _ m))
end
end
theorem ul {P:Program}{w:World}{K:Frag}{mg mb:Str→Option Value}{CX:CXT}{k:Nat}{fa:Addr}{fd:FuncData}{ps:List Str}{sp:Sp}{s₁:Shared}{cz:List Value}{ds:List WData}{R:PySem.W.WRecords}{cl:Str→Option Addr}{d0:WData}
  (KX:K.In s₁.heap)(hns:s₁.heap.Ns mainGlobals mg)(hb:s₁.heap.Ns builtinsNs mb)(hbb:∀ x:Str,x≠"__name__"→mb x=bootBuiltins x)(hlim:s₁.heap.NoLimit)(hg:s₁.gens=#[])
  (hwl:WellAll w.params s₁.heap cz ds)(hpl:tY ds=true)(hwt:∀ d∈ds,d.weight≤1048576)(hr:bO k callerA)
  (F:∀ base:Heap,K.In base→base.Ns mainGlobals mg→aZ P w K mg base CX k fa fd ps sp)(hbind:∀ (s:Shared) (us:List Value),us.length=ps.length→BindsTo s fd ⟨us,[]⟩ (ps.zip us))(hlen:ds.length=ps.length)
  (hsp:∀ (H:Hp) (xs:List V),xg H→jB K H xs ds→sp xs H (fun v H'=>Dw K H' v d0) fun _ _ _=>False)
  (hCX:∀ H e s',CX [] H s₁ (fun _ _ _=>False) e s'→False):
  codeAny (model P w) callerA (.call (.ref fa) ⟨cz,[]⟩) (fun r s'=>∃ u as,r=.ok (.ret u)∧ReadsW R cl s'.heap u d0 as∧OldK s₁.heap s'.heap∧s'.os=s₁.os∧AllBare s'.gens) s₁:=by
 obtain ⟨A,ho,ar⟩:=jP ds cz hwl hpl hwt
 have hO:xg (ny K s₁.heap A):=xb ar
 have hok:HOk P w (ny K s₁.heap A) s₁.heap:=AJ ar
 have hS:=rR KX ar ds cz hwl hpl ho
 have hV:=fZ ho
 have hK:∀ b u,ny K s₁.heap A b=some u→K.lookup b=none:=fun b u q=>(nu ar q).1
 have noA:∀ {b:Addr} {o:Obj} {es:Array DictEntry} {ep:Nat},s₁.heap.get? b=some o→o.data=.dict es ep→ny K s₁.heap A b=none:=fun {b o es ep} e d=>by
  cases q:ny K s₁.heap A b with
  | none=>rfl
  | some u=>
   obtain ⟨_,vs,_,_,⟨e2,_⟩|⟨e2,_⟩⟩:=nu ar q
   ·rw[e2] at e
    cases e
    have d':Data.seq vs.toArray _=Data.dict es ep:=d
    cases d'
   ·rw[e2] at e
    cases e
    have d':Data.seq vs.toArray _=Data.dict es ep:=d
    cases d'
 generalize ny K s₁.heap A=H at hO hok hS hK noA
 have base_of:∀ {b:Addr} {o:Obj},s₁.heap.get? b=some o→H b=none→(yz s₁.heap H).get? b=some o:=fun e n=>yy e n
 have nsK:∀ {b:Addr} {m:Str→Option Value},s₁.heap.Ns b m→(yz s₁.heap H).Ns b m:=fun {b m} ⟨o,es,ep,e,d,r⟩=>⟨o,es,ep,base_of e (noA e d),d,r⟩
 have nK:∀ b o,K.lookup b=some o→H b=none:=fun b o e=>by
  cases q:H b with
  | none=>rfl
  | some u=>
   rw[hK b u q] at e
   cases e
 have hKb:K.In (yz s₁.heap H):=fun b o e=>base_of (KX b o e) (nK b o e)
 have hM:Mod K mg (yz s₁.heap H):=⟨hKb,nsK hns,⟨mb,nsK hb,hbb⟩,let ⟨mc,h1,h2⟩:=hlim;⟨mc,nsK h1,h2⟩⟩
 have e0:AN P w K mg (yz s₁.heap H) callerA [] s₁ H:=⟨rfl,hM,fun b o e=>Am e,Nat.le_of_eq (wy _ _),trivial,fun b hb=>absurd (show b∈([]:List Addr) from hb) (by simp),hok,.of_eq hg⟩
 have hl:cz.length=ps.length:=by rw[fb hwl];exact hlen
 refine codeAny_mono ((F _ hKb (nsK hns)).run callerA [] s₁ H ⟨cz,[]⟩ cz (cz.map toV) _ _ hr e0 (hbind s₁ cz hl) hV (hsp H _ hO hS)) fun r s' x=>?_
 cases r with
 | error e=>exact (hCX H e s' x).elim
 | ok fl=>
  cases fl with
  | next=>exact False.elim x
  | brk=>exact False.elim x
  | cont=>exact False.elim x
  | ret u=>
   obtain ⟨v,H',os,bare,un,hok',r',q⟩:=x
   have kept:∀ b o,s₁.heap.get? b=some o→s'.heap.get? b=some o:=fun b o e=>by
    cases q2:H b with
    | none=>exact un.keep b o e q2 (by intro z;exact absurd (show b∈([]:List Addr) from z) (by simp)) (by simp)
    | some u2=>
     rcases hO b with z|⟨ob,u3,z⟩
     ·rw[q2] at z
      cases z
     ·have z2:=un.frzs b ob _ z
      obtain ⟨e1,_⟩:=hok b _ z
      obtain ⟨e2,_⟩:=hok' b _ z2
      rw[e] at e1
      cases e1
      exact e2
   have KX':K.In s'.heap:=fun b o e=>kept b o (KX b o e)
   obtain ⟨as,hrd⟩:=Dw.reads (R:=R) (cl:=cl) hok' KX' d0 v u q r'
   exact ⟨u,as,rfl,hrd,OldK.of_keep kept,os,bare⟩
theorem k9 {ds:List WData}(h:WData.layableAll ds=true):∀ d∈ds,d.weight≤1048576:=fun d hd=>
 (PySem.W.layableW_iff.mp (all_eq_true.mp h d hd)).2.2
theorem lF:∀ (cs:List Codec) (a:Codec.denoteAll cs),(Codec.encAll cs a).length=cs.length
 | [],_=>rfl
 | c::cs,a=>by
  show (Codec.encAll cs a.2).length+1=cs.length+1
  rw[lF cs a.2]
theorem ue {r:OpenSpec}{k:Nat}{q:Program}{loose:List Str}{XP:(Str→Option Value)→Heap→Prop}{YP:World→Heap→Prop}{d:DefRec}{K:Params→Frag}{CX:World→CXT}{ps:List Str}{sp:World→Sp}
  (hwell:r.wellSaid=true)(hdf:d.params.defaults=[])(hlen:r.args.length=ps.length)(hr:bO k callerA)
  (hY:∀ (w:World) (h:Heap),YP w h→(K w.params).In h)
  (F:∀ (w:World) (mg:Str→Option Value) (fa:Addr) (h:Heap),YP w h→(K w.params).In h→h.Ns mainGlobals mg→mg d.name=some (.ref fa)→
   ∃ fd:FuncData,(∀ (s:Shared) (us:List Value),us.length=ps.length→BindsTo s fd ⟨us,[]⟩ (ps.zip us))∧
    ∀ base:Heap,(K w.params).In base→base.Ns mainGlobals mg→aZ r.prog w (K w.params) mg base (CX w) k fa fd ps (sp w))
  (hsp:∀ (w:World) (H:Hp) (xs:List V) (a:Codec.denoteAll r.args),xg H→Codec.withinAll r.args a=true→Codec.app r.args r.asked a=true→jB (K w.params) H xs (Codec.encAll r.args a)→
   sp w xs H (fun v H'=>Dw (K w.params) H' v (r.ret.enc (Codec.app r.args r.f a))) fun _ _ _=>False)
  (hCX:∀ (w:World) (H:Hp) (s:Shared) (e:Value) (s':Shared),CX w [] H s (fun _ _ _=>False) e s'→False):
  PySem.W.WalkOS q loose XP YP r d [] (fun f vs=>PySem.call f vs):=by
 intro w s_0 s₁ mg mb G Y fa o pm cd doc dV kV ho hd hcd hD hmg hg args cz as hpre hlay hrd hwl hlo
 obtain ⟨a,e1,e2⟩:=PySem.W.os_pre_some hpre
 obtain ⟨e3,hwi⟩:=Codec.encAll_of_decAll r.args args a e1
 subst e3
 have KX:=hY w _ Y
 obtain ⟨fd,hb,hF⟩:=F w mg fa _ Y KX G.T.g hmg
 refine PySem.W.enter_call (codeAny_mono (ul (R:=[]) (cl:=classAt s_0.heap) (d0:=r.ret.enc (Codec.app r.args r.f a)) KX G.T.g G.T.b G.T.builtins G.T.nolimit hg hwl (nY _ _) (k9 hlay) hr hF hb (by rw[lF];exact hlen)
  (fun H xs hO hS=>hsp w H xs a hO hwi e2 hS) fun H e s'=>hCX w H s₁ e s') fun r' s' hq=>?_)
 obtain ⟨u,as',rfl,h1,h2,h3,h4⟩:=hq
 exact ⟨.inl ⟨u,_,as',rfl,fun _=>rfl,h1,(OpenSpec.post_iff hwell hwi _ _).mpr rfl,fun z=>Bool.noConfusion (show false=true from z)⟩,h2,h3,h4⟩
theorem so {r:OpenSpec}{k:Nat}{q:Program}{loose:List Str}{XP:(Str→Option Value)→Heap→Prop}{YP:World→Heap→Prop}{d:DefRec}{K:Params→Frag}{CX:CXT}{ps:List Str}{sp:Frag→Sp}
  (hwell:r.wellSaid=true)(hdf:d.params.defaults=[])(hlen:r.args.length=ps.length)(hr:bO k callerA)
  (hY:∀ (w:World) (h:Heap),YP w h→(K w.params).In h)
  (F:∀ (w:World) (mg:Str→Option Value) (fa:Addr) (h:Heap),YP w h→(K w.params).In h→h.Ns mainGlobals mg→mg d.name=some (.ref fa)→
   ∃ fd:FuncData,(∀ (s:Shared) (us:List Value),us.length=ps.length→BindsTo s fd ⟨us,[]⟩ (ps.zip us))∧
    ∀ base:Heap,(K w.params).In base→base.Ns mainGlobals mg→aZ r.prog w (K w.params) mg base CX k fa fd ps (sp (K w.params)))
  (hsp:∀ (K:Frag) (H:Hp) (xs:List V) (a:Codec.denoteAll r.args),xg H→Codec.withinAll r.args a=true→Codec.app r.args r.asked a=true→jB K H xs (Codec.encAll r.args a)→
   sp K xs H (fun v H'=>Dw K H' v (r.ret.enc (Codec.app r.args r.f a))) fun _ _ _=>False)
  (hCX:∀ (H:Hp) (s:Shared) (e:Value) (s':Shared),CX [] H s (fun _ _ _=>False) e s'→False):
  PySem.W.WalkOS q loose XP YP r d [] (fun f vs=>PySem.call f vs):=
 ue (K:=K) (CX:=fun _=>CX) (sp:=fun w=>sp (K w.params)) hwell hdf hlen hr hY F (fun w H xs a h1 h2 h3 h4=>hsp (K w.params) H xs a h1 h2 h3 h4) fun _ H s e s'=>hCX H s e s'
end L2
end
set_option autoImplicit false
namespace Tt
open Turn (Row at_ mul inverse still isTurn)
structure IsT (n:Nat)(x:Row):Prop where
 len:x.length=n
 lt:∀ i,i<n→at_ x i<n
 inj:∀ i j,i<n→j<n→at_ x i=at_ x j→i=j
theorem cU {x:Row}{i:Nat}(h:i<x.length):at_ x i=x[i]:=by
 unfold at_
 rw[getD_eq_getElem?_getD,getElem?_eq_getElem h,Option.getD_some]
theorem ext {x y:Row}(hl:x.length=y.length)(h:∀ i,i<x.length→at_ x i=at_ y i):x=y:=by
 apply ext_getElem hl
 intro i h1 h2
 rw[←cU h1,←cU h2]
 exact h i h1
theorem IsT.ext {n:Nat}{x y:Row}(hx:x.length=n)(hy:y.length=n)(h:∀ i,i<n→at_ x i=at_ y i):x=y:=
 Tt.ext (hx.trans hy.symm) fun i hi=>h i (hx▸hi)
theorem wc {x:Row}{v:Nat}(h:v∈x):∃ i,i<x.length∧at_ x i=v:=by
 obtain ⟨i,hi,e⟩:=mem_iff_getElem.mp h
 exact ⟨i,hi,by rw[cU hi];exact e⟩
theorem ze {x:Row}{i:Nat}(h:i<x.length):at_ x i∈x:=by
 rw[cU h];exact getElem_mem h
theorem IsT.nodup {n:Nat}{x:Row}(h:IsT n x):x.Nodup:=by
 rw[List.Nodup,pairwise_iff_getElem]
 intro i j hi hj hij e
 rw[←cU hi,←cU hj] at e
 have:=h.inj i j (h.len▸hi) (h.len▸hj) e
 omega
theorem IsT.surj {n:Nat}{x:Row}(h:IsT n x){j:Nat}(hj:j<n):∃ i,i<n∧at_ x i=j:=by
 by_cases hm:j∈x
 ·obtain ⟨i,hi,e⟩:=wc hm
  exact ⟨i,h.len▸hi,e⟩
 ·exfalso
  have nd:(j::x).Nodup:=nodup_cons.mpr ⟨hm,h.nodup⟩
  have sub:(j::x) ⊆ List.range n:=by
   intro a ha
   rcases Mc ha with rfl|ha
   ·exact mem_range.mpr hj
   ·obtain ⟨i,hi,rfl⟩:=wc ha
    exact mem_range.mpr (h.lt i (h.len▸hi))
  have:=nd.length_le_of_subset sub
  rw[length_cons,length_range,h.len] at this
  omega
theorem IsT.mem {n:Nat}{x:Row}(h:IsT n x){j:Nat}:j∈x↔j<n:=by
 constructor
 ·intro hm
  obtain ⟨i,hi,rfl⟩:=wc hm
  exact h.lt i (h.len▸hi)
 ·intro hj
  obtain ⟨i,hi,rfl⟩:=h.surj hj
  exact ze (h.len.symm▸hi)
theorem IsT.perm {n:Nat}{x:Row}(h:IsT n x):x.Perm (List.range n):=
 (perm_ext_iff_of_nodup h.nodup nodup_range).mpr fun a=>by rw[h.mem,mem_range]
theorem IsT.of_nodup {n:Nat}{x:Row}(hl:x.length=n)(hn:x.Nodup)(hb:∀ a∈x,a<n):IsT n x:=by
 refine ⟨hl,fun i hi=>hb _ (ze (hl.symm▸hi)),fun i j hi hj e=>?_⟩
 have hi':i<x.length:=hl.symm▸hi
 have hj':j<x.length:=hl.symm▸hj
 rw[cU hi',cU hj'] at e
 exact (getElem_inj hn).mp e
theorem IsT.of_perm {n:Nat}{x:Row}(h:x.Perm (List.range n)):IsT n x:=
 IsT.of_nodup (by rw[h.length_eq,length_range]) (h.symm.nodup nodup_range) fun a ha=>mem_range.mp (h.mem_iff.mp ha)
theorem bC {n:Nat}{x:Row}:isTurn n x=true↔IsT n x:=by
 unfold isTurn
 rw[Bool.and_eq_true,beq_iff_eq,all_eq_true]
 constructor
 ·rintro ⟨hl,h⟩
  have hs:∀ j,j<n→j∈x:=fun j hj=>contains_iff_mem.mp (h j (mem_range.mpr hj))
  have hc:∀ a,(List.range n).count a≤x.count a:=by
   intro a
   by_cases ha:a∈List.range n
   ·rw[nodup_range.count,if_pos ha]
    exact count_pos_iff.mpr (hs a (mem_range.mp ha))
   ·rw[count_eq_zero.mpr ha];exact Nat.zero_le _
  have sp:(List.range n).Perm x:=by
   have:∀ (l m:List Nat),(∀ a,l.count a≤m.count a)→m.length=l.length→l.Perm m:=by
    intro l
    induction l with
    | nil=>intro m _ e;rw[length_nil] at e;rw[eq_nil_of_length_eq_zero e]
    | cons b l ih=>
     intro m hc e
     have hb:b∈m:=count_pos_iff.mp (Nat.lt_of_lt_of_le (by rw[count_cons_self];omega) (hc b))
     have p:=perm_cons_erase hb
     refine List.Perm.trans (List.Perm.cons b (ih (m.erase b) ?_ ?_)) p.symm
     ·intro a
      have:=hc a
      rw[count_erase]
      by_cases hab:b=a
      ·subst hab
       rw[count_cons_self] at this
       simp only[beq_self_eq_true,if_true]
       omega
      ·rw[count_cons_of_ne (fun q=>hab q)] at this
       have:(a==b)=false:=by simp;exact fun q=>hab q.symm
       have h3:(b==a)=false:=by simp;exact hab
       simp only[h3] 
       simpa using hc a |> fun z=>by rw[count_cons_of_ne (fun q=>hab q)] at z;exact z
     ·rw[length_erase]
      have:(m.length)=l.length+1:=e
      simp[hb,this]
   exact this _ _ hc (by rw[hl,length_range])
  exact IsT.of_perm sp.symm
 ·intro h
  exact ⟨h.len,fun i hi=>contains_iff_mem.mpr (h.mem.mpr (mem_range.mp hi))⟩
theorem aJ {n i:Nat}(h:i<n):at_ (still n) i=i:=by
 unfold still
 rw[cU (by rw[length_range];exact h),getElem_range]
theorem bE (n:Nat):(still n).length=n:=length_range
theorem bu (n:Nat):IsT n (still n):=
 ⟨bE n,fun i hi=>by rw[aJ hi];exact hi,fun i j hi hj e=>by rw[aJ hi,aJ hj] at e;exact e⟩
theorem cR (x y:Row):(mul x y).length=x.length:=length_map ..
theorem at_mul {x y:Row}{i:Nat}(h:i<x.length):at_ (mul x y) i=at_ y (at_ x i):=by
 rw[cU (by rw[cR];exact h)]
 unfold mul
 rw[getElem_map,cU h]
theorem IsT.at_mul {n:Nat}{x y:Row}(hx:IsT n x){i:Nat}(h:i<n):at_ (mul x y) i=at_ y (at_ x i):=
 Tt.at_mul (hx.len.symm▸h)
theorem IsT.mul {n:Nat}{x y:Row}(hx:IsT n x)(hy:IsT n y):IsT n (mul x y):=by
 refine ⟨by rw[cR,hx.len],fun i hi=>?_,fun i j hi hj e=>?_⟩
 ·rw[hx.at_mul hi];exact hy.lt _ (hx.lt i hi)
 ·rw[hx.at_mul hi,hx.at_mul hj] at e
  exact hx.inj i j hi hj (hy.inj _ _ (hx.lt i hi) (hx.lt j hj) e)
theorem dP (x:Row):(inverse x).length=x.length:=by
 unfold inverse;rw[length_map,length_range]
theorem tQ {x:Row}{j:Nat}(h:j<x.length):at_ (inverse x) j=x.idxOf j:=by
 rw[cU (by rw[dP];exact h)]
 unfold inverse
 rw[getElem_map,getElem_range]
theorem IsT.inv_spec {n:Nat}{x:Row}(hx:IsT n x){j:Nat}(h:j<n):at_ (inverse x) j<n∧at_ x (at_ (inverse x) j)=j:=by
 rw[tQ (hx.len.symm▸h)]
 have hm:j∈x:=hx.mem.mpr h
 have hl:x.idxOf j<x.length:=idxOf_lt_length_of_mem hm
 refine ⟨hx.len▸hl,?_⟩
 rw[cU hl]
 exact getElem_idxOf hl
theorem IsT.inv_at {n:Nat}{x:Row}(hx:IsT n x){i:Nat}(h:i<n):at_ (inverse x) (at_ x i)=i:=by
 have s:=hx.inv_spec (hx.lt i h)
 exact hx.inj _ _ s.1 h s.2
theorem IsT.inverse {n:Nat}{x:Row}(hx:IsT n x):IsT n (inverse x):=by
 refine ⟨by rw[dP,hx.len],fun i hi=>(hx.inv_spec hi).1,fun i j hi hj e=>?_⟩
 have a:=(hx.inv_spec hi).2
 have b:=(hx.inv_spec hj).2
 rw[←a,←b,e]
theorem mul_assoc {n:Nat}{x y z:Row}(hx:IsT n x)(hy:IsT n y):mul (mul x y) z=mul x (mul y z):=by
 apply IsT.ext (n:=n)
 ·rw[cR,cR,hx.len]
 ·rw[cR,hx.len]
 ·intro i hi
  rw[Tt.at_mul (by rw[cR,hx.len];exact hi),hx.at_mul hi,hx.at_mul hi,hy.at_mul (hx.lt i hi)]
theorem aW {n:Nat}{x:Row}(hx:IsT n x):mul x (still n)=x:=by
 apply IsT.ext (n:=n) (by rw[cR,hx.len]) hx.len
 intro i hi
 rw[hx.at_mul hi,aJ (hx.lt i hi)]
theorem bc {n:Nat}{x:Row}(hx:IsT n x):mul (still n) x=x:=by
 apply IsT.ext (n:=n) (by rw[cR,bE]) hx.len
 intro i hi
 rw[(bu n).at_mul hi,aJ hi]
theorem i8 {n:Nat}{x:Row}(hx:IsT n x):mul x (Turn.inverse x)=still n:=by
 apply IsT.ext (n:=n) (by rw[cR,hx.len]) (bE n)
 intro i hi
 rw[hx.at_mul hi,hx.inv_at hi,aJ hi]
theorem mY {n:Nat}{x:Row}(hx:IsT n x):mul (Turn.inverse x) x=still n:=by
 apply IsT.ext (n:=n) (by rw[cR,dP,hx.len]) (bE n)
 intro i hi
 rw[hx.inverse.at_mul hi,(hx.inv_spec hi).2,aJ hi]
theorem jc {n:Nat}{x y:Row}(hx:IsT n x)(hy:IsT n y)(h:mul x y=still n):y=Turn.inverse x:=by
 have e:mul (Turn.inverse x) (mul x y)=mul (Turn.inverse x) (still n):=by rw[h]
 rw[←mul_assoc hx.inverse hx,mY hx,bc hy,aW hx.inverse] at e
 exact e
theorem kM (n:Nat):Turn.inverse (still n)=still n:=
 (jc (bu n) (bu n) (aW (bu n))).symm
theorem qH {n:Nat}{x y:Row}(hx:IsT n x)(hy:IsT n y):Turn.inverse (mul x y)=mul (Turn.inverse y) (Turn.inverse x):=by
 symm
 apply jc (hx.mul hy) (hy.inverse.mul hx.inverse)
 rw[mul_assoc hx hy,←mul_assoc hy hy.inverse,i8 hy,bc hx.inverse,i8 hx]
theorem kD {n:Nat}{a x y:Row}(ha:IsT n a)(hx:IsT n x)(hy:IsT n y)(h:mul a x=mul a y):x=y:=by
 have e:mul (Turn.inverse a) (mul a x)=mul (Turn.inverse a) (mul a y):=by rw[h]
 rw[←mul_assoc ha.inverse ha,←mul_assoc ha.inverse ha,mY ha,bc hx,bc hy] at e
 exact e
theorem aQ {n:Nat}{x y:Row}(hx:IsT n x)(hy:IsT n y):mul (mul x (Turn.inverse y)) y=x:=by
 rw[mul_assoc hx hy.inverse,mY hy,aW hx]
theorem k7 {n:Nat}{x y:Row}(hx:IsT n x)(hy:IsT n y):mul (mul x y) (Turn.inverse y)=x:=by
 rw[mul_assoc hx hy,i8 hy,aW hx]
end Tt
namespace Tt
open Turn (Row at_ mul inverse still isTurn)
structure Grp (n:Nat)(G:Row→Prop):Prop where
 isT:∀ x,G x→IsT n x
 still:G (still n)
 mul:∀ x y,G x→G y→G (mul x y)
 inv:∀ x,G x→G (inverse x)
inductive aE (n:Nat) (gens:List Row):Row→Prop
 | still:aE n gens (still n)
 | step {x g:Row}:aE n gens x→g∈gens→aE n gens (mul x g)
def pw (n:Nat)(x:Row):Nat→Row
 | 0=>still n
 | k+1=>mul (pw n x k) x
theorem cg {n:Nat}{x:Row}(hx:IsT n x):∀ k,IsT n (pw n x k)
 | 0=>bu n
 | k+1=>(cg hx k).mul hx
theorem jo {n:Nat}{x:Row}(hx:IsT n x)(i:Nat):∀ j,pw n x (i+j)=mul (pw n x i) (pw n x j)
 | 0=>(aW (cg hx i)).symm
 | j+1=>by
  show mul (pw n x (i+j)) x=mul (pw n x i) (mul (pw n x j) x)
  rw[jo hx i j,mul_assoc (cg hx i) (cg hx j)]
def vb (n:Nat):Nat→List Row
 | 0=>[[]]
 | k+1=>(vb n k).flatMap fun r=>(List.range n).map fun a=>a::r
theorem lu {n:Nat}:∀ (k:Nat) (x:Row),x.length=k→(∀ a∈x,a<n)→x∈vb n k
 | 0,x,h,_=>by
  rw[eq_nil_of_length_eq_zero h];exact mem_cons_self ..
 | k+1,[],h,_=>by simp at h
 | k+1,a::r,h,hb=>by
  refine mem_flatMap.mpr ⟨r,lu k r (by simpa using h) (fun b hb'=>hb b (mem_cons_of_mem _ hb')),?_⟩
  exact mem_map.mpr ⟨a,mem_range.mpr (hb a (mem_cons_self ..)),rfl⟩
theorem twice {α:Type}(f:Nat→α)(l:List α)(h:∀ k,f k∈l):∃ i j,i<j∧f i=f j:=by
 apply Classical.byContradiction
 intro hn
 have nd:((List.range (l.length+1)).map f).Nodup:=by
  rw[List.Nodup,pairwise_map]
  refine List.Pairwise.imp_of_mem ?_ (pairwise_lt_range (n:=l.length+1))
  intro a b _ _ hab e
  exact hn ⟨a,b,hab,e⟩
 have:=nd.length_le_of_subset (l₂:=l) (fun x hx=>by
  obtain ⟨k,_,rfl⟩:=mem_map.mp hx
  exact h k)
 rw[length_map,length_range] at this
 omega
theorem zZ {n:Nat}{x:Row}(hx:IsT n x):∃ k,inverse x=pw n x k:=by
 obtain ⟨i,j,hij,e⟩:=twice (pw n x) (vb n n) fun k=>lu n _ (cg hx k).len fun a ha=>(cg hx k).mem.mp ha
 obtain ⟨d,rfl⟩:∃ d,j=i+(d+1):=⟨j-i-1,by omega⟩
 rw[jo hx] at e
 have h0:mul (pw n x i) (still n)=mul (pw n x i) (pw n x (d+1)):=by rw[aW (cg hx i)];exact e
 have h1:=kD (cg hx i) (bu n) (cg hx (d+1)) h0
 refine ⟨d,?_⟩
 have h2:pw n x (1+d)=still n:=by rw[Nat.add_comm];exact h1.symm
 rw[jo hx] at h2
 have h3:pw n x 1=x:=bc hx
 rw[h3] at h2
 exact (jc hx (cg hx d) h2).symm
theorem Grp.of_closed {n:Nat}{G:Row→Prop}(h1:∀ x,G x→IsT n x)(h2:G (Turn.still n))(h3:∀ x y,G x→G y→G (Turn.mul x y)):Grp n G:=by
 refine ⟨h1,h2,h3,fun x hx=>?_⟩
 obtain ⟨k,e⟩:=zZ (h1 x hx)
 rw[e]
 clear e
 induction k with
 | zero=>exact h2
 | succ k ih=>exact h3 _ _ ih hx
theorem aE.isT {n:Nat}{gens:List Row}(hg:∀ g∈gens,IsT n g){x:Row}(h:aE n gens x):IsT n x:=by
 induction h with
 | still=>exact bu n
 | step _ hm ih=>exact ih.mul (hg _ hm)
theorem aE.mul {n:Nat}{gens:List Row}(hg:∀ g∈gens,IsT n g){x y:Row}(hx:aE n gens x)(hy:aE n gens y):aE n gens (Turn.mul x y):=by
 induction hy with
 | still=>rw[aW (hx.isT hg)];exact hx
 | step hy hm ih=>rw[←mul_assoc (hx.isT hg) (hy.isT hg)];exact .step ih hm
theorem ci {n:Nat}{gens:List Row}(hg:∀ g∈gens,IsT n g):Grp n (aE n gens):=
 .of_closed (fun _ h=>h.isT hg) .still fun _ _ hx hy=>hx.mul hg hy
theorem aE.gen {n:Nat}{gens:List Row}(hg:∀ g∈gens,IsT n g){g:Row}(h:g∈gens):aE n gens g:=by
 have:=aE.step (aE.still (n:=n) (gens:=gens)) h
 rw[bc (hg g h)] at this
 exact this
theorem aE.least {n:Nat}{gens:List Row}{G:Row→Prop}(hG:Grp n G)(h:∀ g∈gens,G g){x:Row}(hx:aE n gens x):G x:=by
 induction hx with
 | still=>exact hG.still
 | step _ hm ih=>exact hG.mul _ _ ih (h _ hm)
theorem aE.mono {n:Nat}{gens gens':List Row}(h:∀ g∈gens,g∈gens'){x:Row}(hx:aE n gens x):aE n gens' x:=by
 induction hx with
 | still=>exact .still
 | step _ hm ih=>exact .step ih (h _ hm)
def Fix (x:Row)(i:Nat):Prop:=∀ a,a<i→at_ x a=a
theorem Fix.still {n i:Nat}(h:i≤n):Fix (still n) i:=fun a ha=>aJ (by omega)
theorem Fix.mono {x:Row}{i j:Nat}(h:Fix x j)(hij:i≤j):Fix x i:=fun a ha=>h a (by omega)
theorem Fix.mul {n i:Nat}{x y:Row}(hx:IsT n x)(hin:i≤n)(h1:Fix x i)(h2:Fix y i):Fix (Turn.mul x y) i:=fun a ha=>by
 rw[hx.at_mul (by omega),h1 a ha,h2 a ha]
theorem Fix.inv {n i:Nat}{x:Row}(hx:IsT n x)(hin:i≤n)(h:Fix x i):Fix (inverse x) i:=fun a ha=>by
 have e:=h a ha
 have:=hx.inv_at (i:=a) (by omega)
 rw[e] at this
 exact this
theorem Fix.all {n:Nat}{x:Row}(hx:IsT n x)(h:Fix x n):x=Turn.still n:=
 IsT.ext hx.len (bE n) fun i hi=>by rw[h i hi,aJ hi]
theorem Fix.ge {n i:Nat}{x:Row}(hx:IsT n x)(hin:i≤n)(h:Fix x i){a:Nat}(h1:i≤a)(h2:a<n):i≤at_ x a:=by
 apply Classical.byContradiction
 intro hn
 have e:at_ x (at_ x a)=at_ x a:=h _ (by omega)
 have:=hx.inj _ _ (by omega) h2 e
 omega
theorem Grp.fix {n:Nat}{G:Row→Prop}(hG:Grp n G){i:Nat}(hin:i≤n):Grp n fun x=>G x∧Fix x i:=
 ⟨fun x h=>hG.isT x h.1,⟨hG.still,Fix.still hin⟩,fun x y h1 h2=>⟨hG.mul x y h1.1 h2.1,Fix.mul (hG.isT x h1.1) hin h1.2 h2.2⟩,
  fun x h=>⟨hG.inv x h.1,Fix.inv (hG.isT x h.1) hin h.2⟩⟩
def Orb (G:Row→Prop)(i j:Nat):Prop:=∃ x,G x∧Fix x i∧at_ x i=j
end Tt
namespace Tt
open Turn (Row at_ mul inverse still isTurn)
abbrev Tb:=Nat→Nat→Option Row
def bU (U:Tb):Nat→Nat→Row→Option (Nat×Row)
 | 0,_,_=>none
 | f+1,i,x=>match U i (at_ x i) with
  | none=>some (i,x)
  | some e=>bU U f (i+1) (mul x (inverse e))
structure dY (n:Nat)(G:Row→Prop)(U:Tb):Prop where
 ok:∀ i j e,U i j=some e→i<n∧G e∧Fix e i∧at_ e i=j
 diag:∀ i,i<n→U i i=some (still n)
structure Hs (U:Tb)(n i:Nat)(x:Row):Prop where
 isT:IsT n x
 fix:Fix x i
 nn:bU U (n-i) i x=none
variable {n:Nat} {G:Row→Prop} {U:Tb}
theorem gi {i:Nat}{x:Row}(hi:i<n):bU U (n-i) i x=match U i (at_ x i) with
  | none=>some (i,x)
  | some e=>bU U (n-(i+1)) (i+1) (mul x (inverse e)):=by
 have:n-i=(n-(i+1))+1:=by omega
 rw[this];rfl
theorem dY.isT (S:dY n G U)(hG:Grp n G){i j:Nat}{e:Row}(h:U i j=some e):IsT n e:=hG.isT e (S.ok i j e h).2.1
theorem dm {i:Nat}{x e:Row}(hx:IsT n x)(he:IsT n e)(hi:i<n)(fx:Fix x i)(fe:Fix e i)(h:at_ e i=at_ x i):Fix (mul x (inverse e)) (i+1):=fun a ha=>by
 rw[hx.at_mul (by omega)]
 by_cases hai:a=i
 ·subst hai
  rw[←h];exact he.inv_at hi
 ·rw[fx a (by omega)]
  exact Fix.inv he (by omega) fe a (by omega)
theorem Hs.last {x:Row}(h:Hs U n n x):x=still n:=Fix.all h.isT h.fix
theorem gJ (S:dY n G U):∀ (f i:Nat),f=n-i→bU U f i (still n)=none
 | 0,_,_=>rfl
 | f+1,i,h=>by
  have hi:i<n:=by omega
  unfold bU
  rw[aJ hi,S.diag i hi]
  show bU U f (i+1) (mul (still n) (inverse (still n)))=none
  rw[i8 (bu n)]
  exact gJ S f (i+1) (by omega)
theorem Hs.still (S:dY n G U){i:Nat}(hi:i≤n):Hs U n i (Turn.still n):=
 ⟨bu n,Fix.still hi,gJ S _ _ rfl⟩
theorem Hs.cut (S:dY n G U)(hG:Grp n G){i:Nat}{x:Row}(hi:i<n)(h:Hs U n i x):∃ y e,Hs U n (i+1) y∧U i (at_ x i)=some e∧x=mul y e:=by
 have q:=h.nn
 rw[gi hi] at q
 cases e:U i (at_ x i) with
 | none=>rw[e] at q;cases q
 | some u=>
  rw[e] at q
  have ok:=S.ok _ _ _ e
  have hu:=S.isT hG e
  exact ⟨mul x (inverse u),u,⟨h.isT.mul hu.inverse,dm h.isT hu hi h.fix ok.2.2.1 ok.2.2.2,q⟩,rfl,(aQ h.isT hu).symm⟩
theorem Hs.glue (S:dY n G U)(hG:Grp n G){i j:Nat}{y e:Row}(hy:Hs U n (i+1) y)(he:U i j=some e):Hs U n i (mul y e):=by
 have ok:=S.ok _ _ _ he
 have hi:=ok.1
 have hu:=S.isT hG he
 refine ⟨hy.isT.mul hu,Fix.mul hy.isT (by omega) (hy.fix.mono (by omega)) ok.2.2.1,?_⟩
 rw[gi hi,hy.isT.at_mul hi,hy.fix i (by omega),ok.2.2.2,he]
 show bU U (n-(i+1)) (i+1) (mul (mul y e) (inverse e))=none
 rw[k7 hy.isT hu]
 exact hy.nn
theorem Hs.up (S:dY n G U){x:Row}(h:Hs U n 0 x):∀ i,i≤n→Fix x i→Hs U n i x
 | 0,_,_=>h
 | i+1,hi,hf=>by
  have q:=(Hs.up S h i (by omega) (hf.mono (by omega))).nn
  refine ⟨h.isT,hf,?_⟩
  rw[gi (by omega),hf i (by omega),S.diag i (by omega)] at q
  change bU U (n-(i+1)) (i+1) (mul x (inverse (Turn.still n)))=none at q
  rw[kM,aW h.isT] at q
  exact q
theorem Hs.down (S:dY n G U){x:Row}:∀ i,i≤n→Hs U n i x→Hs U n 0 x
 | 0,_,h=>h
 | i+1,hi,h=>by
  refine Hs.down S i (by omega) ⟨h.isT,h.fix.mono (by omega),?_⟩
  rw[gi (by omega),h.fix i (by omega),S.diag i (by omega)]
  show bU U (n-(i+1)) (i+1) (mul x (inverse (Turn.still n)))=none
  rw[kM,aW h.isT]
  exact h.nn
theorem Hs.entry (S:dY n G U)(hG:Grp n G){i j:Nat}{e:Row}(he:U i j=some e):Hs U n i e:=by
 have hi:=(S.ok _ _ _ he).1
 have:=Hs.glue S hG (Hs.still S (i:=i+1) (by omega)) he
 rw[bc (S.isT hG he)] at this
 exact this
theorem Hs.inG (S:dY n G U)(hG:Grp n G):∀ (k i:Nat),k=n-i→i≤n→∀ {x:Row},Hs U n i x→G x
 | 0,i,hk,hi,x,h=>by
  have:i=n:=by omega
  subst this
  rw[h.last];exact hG.still
 | k+1,i,hk,hi,x,h=>by
  obtain ⟨y,e,hy,he,rfl⟩:=Hs.cut S hG (by omega) h
  exact hG.mul _ _ (Hs.inG S hG k (i+1) (by omega) (by omega) hy) (S.ok _ _ _ he).2.1
theorem iN (S:dY n G U)(hG:Grp n G)(hp:∀ i j i' j' e e',U i j=some e→U i' j'=some e'→Hs U n 0 (mul e e')):
  ∀ (k i:Nat),k=n-i→i≤n→∀ x y,Hs U n i x→Hs U n i y→Hs U n i (mul x y)
 | 0,i,hk,hi,x,y,hx,hy=>by
  have:i=n:=by omega
  subst this
  rw[hx.last,hy.last,aW (bu i)]
  exact Hs.still S (Nat.le_refl _)
 | k+1,i,hk,hi,x,y,hx,hy=>by
  have hin:i<n:=by omega
  have ih:=iN S hG hp k (i+1) (by omega) (by omega)
  have one:∀ (i' j':Nat) (e' x:Row),i≤i'→U i' j'=some e'→Hs U n i x→Hs U n i (mul x e'):=by
   intro i' j' e' x hii he' hx
   obtain ⟨y,u,hy,hu,rfl⟩:=Hs.cut S hG hin hx
   have ok':=S.ok _ _ _ he'
   have ok:=S.ok _ _ _ hu
   have h1:Hs U n 0 (mul u e'):=hp _ _ _ _ _ _ hu he'
   have h2:Hs U n i (mul u e'):=Hs.up S h1 i (by omega) (Fix.mul (S.isT hG hu) (by omega) ok.2.2.1 (ok'.2.2.1.mono hii))
   obtain ⟨y',u',hy',hu',e⟩:=Hs.cut S hG hin h2
   rw[mul_assoc hy.isT (S.isT hG hu),e,←mul_assoc hy.isT hy'.isT]
   exact Hs.glue S hG (ih _ _ hy hy') hu'
  have all:∀ (d m:Nat),d=n-m→i≤m→m≤n→∀ z,Hs U n m z→∀ x,Hs U n i x→Hs U n i (mul x z):=by
   intro d
   induction d with
   | zero=>
    intro m hd him hmn z hz x hx
    have:m=n:=by omega
    subst this
    rw[hz.last,aW hx.isT];exact hx
   | succ d ihd=>
    intro m hd him hmn z hz x hx
    obtain ⟨z',e',hz',he',rfl⟩:=Hs.cut S hG (by omega) hz
    rw[←mul_assoc hx.isT hz'.isT]
    exact one m _ e' _ him he' (ihd (m+1) (by omega) (by omega) (by omega) z' hz' x hx)
  exact all (n-i) i rfl (Nat.le_refl _) hi y hy x hx
theorem tK (S:dY n G U)(hG:Grp n G)(hp:∀ i j i' j' e e',U i j=some e→U i' j'=some e'→Hs U n 0 (mul e e')):Grp n (Hs U n 0):=
 .of_closed (fun _ h=>h.isT) (Hs.still S (Nat.zero_le _)) (iN S hG hp n 0 rfl (Nat.zero_le _))
structure bS (n:Nat)(G:Row→Prop)(U:Tb):Prop where
 grp:Grp n G
 snd:dY n G U
 all:∀ x,G x→Hs U n 0 x
theorem bS.iff (F:bS n G U){x:Row}(hx:IsT n x):bU U n 0 x=none↔G x:=
 ⟨fun h=>Hs.inG F.snd F.grp n 0 rfl (Nat.zero_le _) ⟨hx,fun a ha=>absurd ha (Nat.not_lt_zero a),h⟩,fun h=>(F.all x h).nn⟩
theorem bS.orb (F:bS n G U){i j:Nat}(hi:i<n):(U i j).isSome=true↔Orb G i j:=by
 constructor
 ·intro h
  obtain ⟨e,he⟩:=Option.isSome_iff_exists.mp h
  have ok:=F.snd.ok _ _ _ he
  exact ⟨e,ok.2.1,ok.2.2.1,ok.2.2.2⟩
 ·rintro ⟨x,hx,hf,rfl⟩
  obtain ⟨_,e,_,he,_⟩:=Hs.cut F.snd F.grp hi (Hs.up F.snd (F.all x hx) i (by omega) hf)
  rw[he];rfl
def oZ (U:Tb)(k j:Nat)(r:Row):Tb:=fun a b=>if a=k∧b=j then some r else U a b
theorem eO (S:dY n G U)(hG:Grp n G):∀ (f i:Nat) (x:Row) (k:Nat) (r:Row),f=n-i→IsT n x→Fix x i→bU U f i x=some (k,r)→
  i≤k∧k<n∧IsT n r∧Fix r k∧U k (at_ r k)=none∧(G x→G r)∧∀ U':Tb,(∀ a b e,U a b=some e→U' a b=some e)→dY n G U'→U' k (at_ r k)=some r→bU U' f i x=none
 | 0,i,x,k,r,_,_,_,h=>by simp[bU] at h
 | f+1,i,x,k,r,hf,hx,fx,h=>by
  have hi:i<n:=by omega
  unfold bU at h
  cases e:U i (at_ x i) with
  | none=>
   rw[e] at h
   have h':(i,x)=(k,r):=Oi h
   cases h'
   refine ⟨Nat.le_refl _,hi,hx,fx,e,id,fun U' hU S' hr=>?_⟩
   unfold bU
   rw[hr]
   show bU U' f (i+1) (mul x (inverse x))=none
   rw[i8 hx]
   exact gJ S' f (i+1) (by omega)
  | some u=>
   rw[e] at h
   have ok:=S.ok _ _ _ e
   have hu:=S.isT hG e
   have q:=eO S hG f (i+1) (mul x (inverse u)) k r (by omega) (hx.mul hu.inverse) (dm hx hu hi fx ok.2.2.1 ok.2.2.2) h
   refine ⟨by omega,q.2.1,q.2.2.1,q.2.2.2.1,q.2.2.2.2.1,fun g=>q.2.2.2.2.2.1 (hG.mul _ _ g (hG.inv _ ok.2.1)),fun U' hU S' hr=>?_⟩
   unfold bU
   rw[hU _ _ _ e]
   exact q.2.2.2.2.2.2 U' hU S' hr
theorem ln {U U':Tb}(hU:∀ a b e,U a b=some e→U' a b=some e):∀ (f i:Nat) (x:Row),bU U f i x=none→bU U' f i x=none
 | 0,_,_,_=>rfl
 | f+1,i,x,h=>by
  unfold bU at h ⊢
  cases e:U i (at_ x i) with
  | none=>rw[e] at h;cases h
  | some u=>
   rw[e] at h
   rw[hU _ _ _ e]
   exact ln hU f (i+1) _ h
theorem Hs.mono {U U':Tb}(hU:∀ a b e,U a b=some e→U' a b=some e){i:Nat}{x:Row}(h:Hs U n i x):Hs U' n i x:=
 ⟨h.isT,h.fix,ln hU _ _ _ h.nn⟩
theorem mJ {k j:Nat}{r:Row}(h:U k j=none):∀ a b e,U a b=some e→oZ U k j r a b=some e:=fun a b e he=>by
 unfold oZ
 rw[if_neg]
 ·exact he
 ·rintro ⟨rfl,rfl⟩
  rw[h] at he;cases he
theorem sJ (S:dY n G U){k:Nat}{r:Row}(hk:k<n)(hr:G r)(hf:Fix r k)(h:U k (at_ r k)=none):dY n G (oZ U k (at_ r k) r):=by
 refine ⟨fun i j e he=>?_,fun i hi=>mJ h _ _ _ (S.diag i hi)⟩
 unfold oZ at he
 split at he
 ·rename_i c
  obtain ⟨rfl,rfl⟩:=c
  cases he
  exact ⟨hk,hr,hf,rfl⟩
 ·exact S.ok i j e he
structure Way (n:Nat)(G:Row→Prop)(gens:List Row)(U:Tb)(pend:List Row):Prop where
 snd:dY n G U
 pg:∀ p∈pend,G p
 pr:∀ i j i' j' e e',j≠i→j'≠i'→U i j=some e→U i' j'=some e'→Hs U n 0 (mul e e')∨mul e e'∈pend
 gs:∀ g∈gens,Hs U n 0 g∨g∈pend
theorem Way.drop {gens pend pend':List Row}{x:Row}(W:Way n G gens U pend)(hG:Grp n G)(hx:x∈pend)(hp:∀ p∈pend,p=x∨p∈pend')(hp':∀ p∈pend',p∈pend)(h:bU U n 0 x=none):Way n G gens U pend':=by
 have hh:Hs U n 0 x:=⟨hG.isT x (W.pg x hx),fun a ha=>absurd ha (Nat.not_lt_zero a),h⟩
 refine ⟨W.snd,fun p hp1=>W.pg p (hp' p hp1),fun i j i' j' e e' n1 n2 h1 h2=>?_,fun g hg=>?_⟩
 ·rcases W.pr i j i' j' e e' n1 n2 h1 h2 with h3|h3
  ·exact .inl h3
  ·rcases hp _ h3 with h4|h4
   ·rw[h4];exact .inl hh
   ·exact .inr h4
 ·rcases W.gs g hg with h3|h3
  ·exact .inl h3
  ·rcases hp _ h3 with h4|h4
   ·rw[h4];exact .inl hh
   ·exact .inr h4
theorem Way.put {gens pend pend':List Row}{x r:Row}{k:Nat}(W:Way n G gens U pend)(hG:Grp n G)(hx:x∈pend)(hp:∀ p∈pend,p=x∨p∈pend')
  (hs:bU U n 0 x=some (k,r))(hg:∀ p∈pend',G p)(h1:mul r r∈pend')(h2:∀ i j d,j≠i→U i j=some d→mul d r∈pend'∧mul r d∈pend'):
  Way n G gens (oZ U k (at_ r k) r) pend':=by
 have q:=eO W.snd hG n 0 x k r rfl (hG.isT x (W.pg x hx)) (fun a ha=>absurd ha (Nat.not_lt_zero a)) hs
 obtain ⟨_,hk,hrT,hrf,hnone,hGr,hsift⟩:=q
 have ext:=mJ (r:=r) hnone
 have S':=sJ W.snd hk (hGr (W.pg x hx)) hrf hnone
 have hh:Hs (oZ U k (at_ r k) r) n 0 x:=⟨hG.isT x (W.pg x hx),fun a ha=>absurd ha (Nat.not_lt_zero a),hsift _ ext S' (by unfold oZ;rw[if_pos ⟨rfl,rfl⟩])⟩
 have old:∀ p,Hs U n 0 p∨p∈pend→Hs (oZ U k (at_ r k) r) n 0 p∨p∈pend':=by
  intro p h
  rcases h with h3|h3
  ·exact .inl (h3.mono ext)
  ·rcases hp _ h3 with h4|h4
   ·rw[h4];exact .inl hh
   ·exact .inr h4
 refine ⟨S',hg,fun i j i' j' e e' n1 n2 he he'=>?_,fun g hg=>old g (W.gs g hg)⟩
 unfold oZ at he he'
 split at he <;> split at he'
 ·cases he;cases he';exact .inr h1
 ·cases he;exact .inr (h2 i' j' e' n2 he').2
 ·cases he';exact .inr (h2 i j e n1 he).1
 ·exact old _ (W.pr i j i' j' e e' n1 n2 he he')
theorem Way.done {gens:List Row}(W:Way n G gens U [])(hG:Grp n G)(hm:∀ x,G x→aE n gens x)(hg:∀ g∈gens,IsT n g):bS n (aE n gens) U:=by
 have hp:∀ i j i' j' e e',U i j=some e→U i' j'=some e'→Hs U n 0 (mul e e'):=by
  intro i j i' j' e e' h1 h2
  have t1:=W.snd.isT hG h1
  have t2:=W.snd.isT hG h2
  have ok1:=W.snd.ok _ _ _ h1
  have ok2:=W.snd.ok _ _ _ h2
  by_cases n1:j=i
  ·subst n1
   have:e=still n:=Oi (h1.symm.trans (W.snd.diag j ok1.1))
   rw[this,bc t2]
   exact Hs.down W.snd i' (by omega) (Hs.entry W.snd hG h2)
  by_cases n2:j'=i'
  ·subst n2
   have:e'=still n:=Oi (h2.symm.trans (W.snd.diag j' ok2.1))
   rw[this,aW t1]
   exact Hs.down W.snd i (by omega) (Hs.entry W.snd hG h1)
  rcases W.pr i j i' j' e e' n1 n2 h1 h2 with h|h
  ·exact h
  ·cases h
 have C:=tK W.snd hG hp
 have S':dY n (aE n gens) U:=⟨fun i j e he=>let ok:=W.snd.ok i j e he;⟨ok.1,hm e ok.2.1,ok.2.2⟩,W.snd.diag⟩
 refine ⟨ci hg,S',fun x hx=>aE.least C (fun g hgm=>?_) hx⟩
 rcases W.gs g hgm with h|h
 ·exact h
 ·cases h
end Tt
namespace Tt
open Turn (Row at_ mul inverse still isTurn entry sift fill tableOf)
def br (n:Nat)(t:Turn.Table):Tb:=fun i j=>if j=i then (if i<n then some (still n) else none) else entry t i j
structure dX (n:Nat)(t:Turn.Table):Prop where
 ok:∀ i e,(i,e)∈t→i<n∧IsT n e∧Fix e i∧at_ e i≠i
 nd:(t.map fun d=>(d.1,at_ d.2 d.1)).Nodup
theorem tJ (k:Nat)(r:Row)(t:Turn.Table)(i j:Nat):entry ((k,r)::t) i j=if k=i∧at_ r i=j then some r else entry t i j:=by
 unfold entry
 rw[find?_cons]
 by_cases h:k=i∧at_ r i=j
 ·obtain ⟨rfl,rfl⟩:=h
  simp
 ·rw[if_neg h]
  have:(k==i&&at_ r i==j)=false:=by
   rw[Bool.eq_false_iff]
   intro q
   rw[Bool.and_eq_true,beq_iff_eq,beq_iff_eq] at q
   exact h q
  simp only[this]
theorem je {t:Turn.Table}{i j:Nat}{e:Row}(h:entry t i j=some e):(i,e)∈t∧at_ e i=j:=by
 unfold entry at h
 rw[Option.map_eq_some_iff] at h
 obtain ⟨⟨a,b⟩,h1,rfl⟩:=h
 have hm:=mem_of_find?_eq_some h1
 have hp:=find?_some h1
 rw[Bool.and_eq_true,beq_iff_eq,beq_iff_eq] at hp
 obtain ⟨rfl,rfl⟩:=hp
 exact ⟨hm,rfl⟩
theorem lE {t:Turn.Table}{i j:Nat}(h:entry t i j=none):∀ e,(i,e)∈t→at_ e i≠j:=by
 intro e he q
 unfold entry at h
 rw[Option.map_eq_none_iff,find?_eq_none] at h
 have:=h (i,e) he
 simp[q] at this
theorem sy {n k:Nat}{r:Row}{t:Turn.Table}(h:at_ r k≠k):br n ((k,r)::t)=oZ (br n t) k (at_ r k) r:=by
 funext i j
 unfold br oZ
 rw[tJ]
 by_cases hk:i=k∧j=at_ r k
 ·obtain ⟨rfl,rfl⟩:=hk
  rw[if_neg h,if_pos ⟨rfl,rfl⟩,if_pos ⟨rfl,rfl⟩]
 ·have hk':¬(k=i∧at_ r i=j):=fun q=>hk ⟨q.1.symm,by rw[q.1];exact q.2.symm⟩
  rw[if_neg hk,if_neg hk']
theorem ma {n:Nat}{t:Turn.Table}(T:dX n t):∀ (f i:Nat) (x:Row),f=n-i→IsT n x→sift t f i x=bU (br n t) f i x
 | 0,_,_,_,_=>rfl
 | f+1,i,x,hf,hx=>by
  have hi:i<n:=by omega
  unfold sift bU
  by_cases h:at_ x i=i
  ·rw[if_pos h,h]
   have:br n t i i=some (still n):=by unfold br;rw[if_pos rfl,if_pos hi]
   rw[this]
   show sift t f (i+1) x=bU (br n t) f (i+1) (mul x (inverse (still n)))
   rw[kM,aW hx]
   exact ma T f (i+1) x (by omega) hx
  ·rw[if_neg h]
   have:br n t i (at_ x i)=entry t i (at_ x i):=by unfold br;rw[if_neg h]
   rw[this]
   cases e:entry t i (at_ x i) with
   | none=>rfl
   | some u=>
    show sift t f (i+1) (mul x (inverse u))=bU (br n t) f (i+1) (mul x (inverse u))
    exact ma T f (i+1) _ (by omega) (hx.mul (T.ok i u (je e).1).2.1.inverse)
theorem wm {n:Nat}{t:Turn.Table}(T:dX n t):t.length≤n*n:=by
 have h:=T.nd.length_le_of_subset (l₂:=(List.range n).flatMap fun a=>(List.range n).map fun b=>(a,b)) (by
  intro p hp
  obtain ⟨⟨i,e⟩,he,rfl⟩:=mem_map.mp hp
  have ok:=T.ok i e he
  exact mem_flatMap.mpr ⟨i,mem_range.mpr ok.1,mem_map.mpr ⟨_,mem_range.mpr (ok.2.1.lt i ok.1),rfl⟩⟩)
 rw[length_map] at h
 refine Nat.le_trans h (Nat.le_of_eq ?_)
 rw[length_flatMap]
 have:(List.map (fun a=>((List.range n).map fun b=>(a,b)).length) (List.range n))=List.replicate n n:=by
  rw[eq_replicate_iff]
  refine ⟨by rw[length_map,length_range],fun b hb=>?_⟩
  obtain ⟨a,_,rfl⟩:=mem_map.mp hb
  rw[length_map,length_range]
 rw[this,sum_replicate_nat]
theorem n9 (e:Row):∀ t:Turn.Table,(t.flatMap fun (d:Nat×Row)=>[mul d.2 e,mul e d.2]).length=2*t.length
 | []=>rfl
 | d::t=>by
  rw[flatMap_cons,length_append,n9 e t,length_cons,length_cons,length_cons,length_nil]
  omega
theorem gH {n:Nat}{t:Turn.Table}{i j:Nat}{e:Row}(hj:j≠i)(h:br n t i j=some e):(i,e)∈t∧at_ e i=j:=by
 unfold br at h
 rw[if_neg hj] at h
 exact je h
theorem kR {n:Nat}{gens:List Row}(hg:∀ g∈gens,IsT n g):∀ (f:Nat) (t:Turn.Table) (pend:List Row),dX n t→Way n (aE n gens) gens (br n t) pend→
  pend.length+(n*n)*(n*n)≤f+t.length*t.length→dX n (fill n f t pend)∧bS n (aE n gens) (br n (fill n f t pend))
 | 0,t,pend,T,W,hf=>by
  have hk:=Nat.mul_le_mul (wm T) (wm T)
  have:pend=[]:=eq_nil_of_length_eq_zero (by omega)
  subst this
  exact ⟨T,W.done (ci hg) (fun _ h=>h) hg⟩
 | f+1,t,[],T,W,hf=>⟨T,W.done (ci hg) (fun _ h=>h) hg⟩
 | f+1,t,x::r,T,W,hf=>by
  have hG:=ci hg
  have hx:=hG.isT x (W.pg x (mem_cons_self ..))
  unfold fill
  rw[ma T n 0 x rfl hx]
  cases e:bU (br n t) n 0 x with
  | none=>
   show dX n (fill n f t r)∧bS n (aE n gens) (br n (fill n f t r))
   refine kR hg f t r T (W.drop hG (mem_cons_self ..) (fun p hp=>Mc hp) (fun p hp=>mem_cons_of_mem _ hp) e) ?_
   rw[length_cons] at hf
   omega
  | some d=>
   obtain ⟨k,y⟩:=d
   have q:=eO W.snd hG n 0 x k y rfl hx (fun a ha=>absurd ha (Nat.not_lt_zero a)) e
   obtain ⟨_,hk,hyT,hyf,hnone,hGy,_⟩:=q
   have hy:=hGy (W.pg x (mem_cons_self ..))
   have hmv:at_ y k≠k:=by
    intro h
    unfold br at hnone
    rw[if_pos h,if_pos hk] at hnone
    cases hnone
   have hent:entry t k (at_ y k)=none:=by
    unfold br at hnone
    rw[if_neg hmv] at hnone
    exact hnone
   have T':dX n ((k,y)::t):=by
    refine ⟨fun i e he=>?_,?_⟩
    ·rcases Mc he with h|h
     ·cases h;exact ⟨hk,hyT,hyf,hmv⟩
     ·exact T.ok i e h
    ·rw[map_cons,nodup_cons]
     refine ⟨fun hm=>?_,T.nd⟩
     obtain ⟨⟨a,b⟩,hab,h2⟩:=mem_map.mp hm
     have h3:a=k∧at_ b a=at_ y k:=by simpa using h2
     obtain ⟨rfl,h4⟩:=h3
     exact lE hent b hab h4
   show dX n (fill n f ((k,y)::t) _)∧bS n (aE n gens) (br n (fill n f ((k,y)::t) _))
   refine kR hg f ((k,y)::t) _ T' ?_ ?_
   ·rw[sy hmv]
    refine W.put hG (mem_cons_self ..) (fun p hp=>?_) e (fun p hp=>?_) (mem_cons_self ..) (fun i j d hj hd=>?_)
    ·rcases Mc hp with h|h
     ·exact .inl h
     ·exact .inr (mem_cons_of_mem _ (mem_append_right _ h))
    ·rcases Mc hp with h|h
     ·rw[h];exact hG.mul _ _ hy hy
     ·rcases Ma h with h|h
      ·obtain ⟨⟨a,b⟩,hab,h2⟩:=mem_flatMap.mp h
       have hb:aE n gens b:=by
        have ok:=T.ok a b hab
        have:br n t a (at_ b a)≠none:=by
         unfold br
         rw[if_neg ok.2.2.2]
         intro q
         exact lE q b hab rfl
        obtain ⟨c,hc⟩:=Option.ne_none_iff_exists'.mp this
        have hc2:=gH ok.2.2.2 hc
        have:c=b:=by
         have nd:=T.nd
         have h5:∀ (l:Turn.Table),(l.map fun d=>(d.1,at_ d.2 d.1)).Nodup→(a,c)∈l→(a,b)∈l→at_ c a=at_ b a→c=b:=by
          intro l
          induction l with
          | nil=>intro _ h;cases h
          | cons z l ih=>
           intro nd h1 h2 h3
           rw[map_cons,nodup_cons] at nd
           rcases Mc h1 with k1|k1 <;> rcases Mc h2 with k2|k2
           ·rw[←k1] at k2;cases k2;rfl
           ·subst k1
            exact (nd.1 (mem_map.mpr ⟨(a,b),k2,by show (a,at_ b a)=(a,at_ c a);rw[h3]⟩)).elim
           ·subst k2
            exact (nd.1 (mem_map.mpr ⟨(a,c),k1,by show (a,at_ c a)=(a,at_ b a);rw[h3]⟩)).elim
           ·exact ih nd.2 k1 k2 h3
         exact h5 t nd hc2.1 hab hc2.2
        rw[←this]
        exact (W.snd.ok _ _ _ hc).2.1
       rcases Mc h2 with h2|h2
       ·rw[h2];exact hG.mul _ _ hb hy
       ·rw[Ms h2];exact hG.mul _ _ hy hb
      ·exact W.pg p (mem_cons_of_mem _ h)
    ·have hm:=(gH hj hd).1
     refine ⟨mem_cons_of_mem _ (mem_append_left _ (mem_flatMap.mpr ⟨(i,d),hm,mem_cons_self ..⟩)),mem_cons_of_mem _ (mem_append_left _ (mem_flatMap.mpr ⟨(i,d),hm,mem_cons_of_mem _ (mem_cons_self ..)⟩))⟩
   ·rw[length_cons,length_append,n9,length_cons]
    rw[length_cons] at hf
    have:(t.length+1)*(t.length+1)=t.length*t.length+2*t.length+1:=by
     rw[Nat.add_mul,Nat.mul_add];omega
    omega
theorem jY {n:Nat}{G:Row→Prop}(hG:Grp n G):dY n G (br n []):=by
 refine ⟨fun i j e h=>?_,fun i hi=>by unfold br;rw[if_pos rfl,if_pos hi]⟩
 unfold br at h
 by_cases hj:j=i
 ·rw[if_pos hj] at h
  by_cases hi:i<n
  ·rw[if_pos hi] at h
   cases h
   exact ⟨hi,hG.still,Fix.still (by omega),by rw[hj,aJ hi]⟩
  ·rw[if_neg hi] at h;cases h
 ·rw[if_neg hj] at h;cases h
theorem nH {n:Nat}(hn:n≤9){gens:List Row}(hg:∀ g∈gens,IsT n g)(hl:gens.length≤10000):dX n (tableOf n gens)∧bS n (aE n gens) (br n (tableOf n gens)):=by
 unfold tableOf
 have h9:(n*n)*(n*n)≤6561:=by
  have a:n*n≤9*9:=Nat.mul_le_mul hn hn
  have b:=Nat.mul_le_mul a a
  omega
 refine kR hg Turn.FUEL [] gens ⟨fun i e h=>(by cases h),nodup_nil⟩ ⟨jY (ci hg),fun p hp=>aE.gen hg hp,fun i j i' j' e e' n1 n2 h1 h2=>?_,fun g h=>.inr h⟩ ?_
 ·have:=(gH n1 h1).1
  cases this
 ·show gens.length+(n*n)*(n*n)≤20000+_
  omega
end Tt
namespace Tt
open Turn (Row at_ mul inverse still isTurn entry sift fill tableOf reach below choices entryOr nthFrom placeFrom putIn)
open Classical in
noncomputable def bR (n:Nat)(G:Row→Prop)(i:Nat):List Nat:=(List.range n).filter fun j=>decide (Orb G i j)
theorem aS {n:Nat}{G:Row→Prop}{i j:Nat}:j∈bR n G i↔j<n∧Orb G i j:=by
 unfold bR
 rw[mem_filter,mem_range]
 simp only[decide_eq_true_eq]
theorem dF (n:Nat)(G:Row→Prop)(i:Nat):(bR n G i).Nodup:=nodup_range.filter _
theorem rB {n:Nat}{G:Row→Prop}(hG:Grp n G){i:Nat}(hi:i<n):Orb G i i:=⟨still n,hG.still,Fix.still (by omega),aJ hi⟩
theorem Orb.lt {n:Nat}{G:Row→Prop}(hG:Grp n G){i j:Nat}(hi:i<n)(h:Orb G i j):j<n:=by
 obtain ⟨x,hx,_,rfl⟩:=h
 exact (hG.isT x hx).lt i hi
theorem Orb.ge {n:Nat}{G:Row→Prop}(hG:Grp n G){i j:Nat}(hi:i<n)(h:Orb G i j):i≤j:=by
 obtain ⟨x,hx,hf,rfl⟩:=h
 exact Fix.ge (hG.isT x hx) (by omega) hf (Nat.le_refl _) hi
theorem bx {n:Nat}{G:Row→Prop}(hG:Grp n G){i j:Nat}(hi:i<n):j∈bR n G i↔Orb G i j:=by
 rw[aS]
 exact ⟨fun h=>h.2,fun h=>⟨h.lt hG hi,h⟩⟩
theorem Orb.move {n:Nat}{G:Row→Prop}(hG:Grp n G){i j:Nat}{g:Row}(hi:i<n)(hg:G g)(fg:Fix g i)(h:Orb G i j):Orb G i (at_ g j):=by
 obtain ⟨x,hx,hf,rfl⟩:=h
 refine ⟨mul x g,hG.mul _ _ hx hg,Fix.mul (hG.isT x hx) (by omega) hf fg,?_⟩
 rw[(hG.isT x hx).at_mul hi]
noncomputable def wt (n:Nat)(G:Row→Prop)(i:Nat):Nat:=((List.range n).drop i).foldl (fun m k=>m*(bR n G k).length) 1
theorem dR {α:Type}(f:α→Nat):∀ (l:List α) (a:Nat),l.foldl (fun m k=>m*f k) a=a*l.foldl (fun m k=>m*f k) 1
 | [],a=>by simp
 | x::l,a=>by
  rw[foldl_cons,foldl_cons,dR f l (a*f x),dR f l (1*f x),Nat.one_mul,Nat.mul_assoc]
theorem gD {n:Nat}{G:Row→Prop}{i:Nat}(hi:i<n):wt n G i=(bR n G i).length*wt n G (i+1):=by
 unfold wt
 rw[drop_eq_getElem_cons (by rw[length_range];exact hi),foldl_cons,dR,getElem_range,Nat.one_mul]
theorem lR {n:Nat}{G:Row→Prop}{i:Nat}(hi:n≤i):wt n G i=1:=by
 unfold wt
 rw[drop_of_length_le (by rw[length_range];exact hi)]
 rfl
theorem gq {n:Nat}{G:Row→Prop}(hG:Grp n G){i:Nat}(hi:i<n):0<(bR n G i).length:=
 length_pos_of_mem ((bx hG hi).mpr (rB hG hi))
theorem ig {n:Nat}{G:Row→Prop}(hG:Grp n G):∀ (k i:Nat),k=n-i→0<wt n G i
 | 0,i,h=>by rw[lR (by omega)];omega
 | k+1,i,h=>by
  rw[gD (by omega)]
  exact Nat.mul_pos (gq hG (by omega)) (ig hG k (i+1) (by omega))
variable {n:Nat} {G:Row→Prop} {t:Turn.Table}
theorem jw (F:bS n G (br n t)){i j:Nat}(hi:i<n):(j==i || (entry t i j).isSome)=true↔Orb G i j:=by
 rw[←F.orb hi]
 unfold br
 by_cases h:j=i
 ·subst h;simp[hi]
 ·simp[h]
theorem iE (F:bS n G (br n t)){i:Nat}(hi:i<n):reach n t i=bR n G i:=by
 unfold reach bR
 refine filter_congr fun j _=>?_
 rw[Bool.eq_iff_iff]
 simp only[decide_eq_true_eq]
 exact jw F hi
theorem dS {α β:Type}{f g:β→α→β}:∀ (l:List α) (a:β),(∀ b x,x∈l→f b x=g b x)→l.foldl f a=l.foldl g a
 | [],_,_=>rfl
 | x::l,a,h=>by
  rw[foldl_cons,foldl_cons,h a x (mem_cons_self ..)]
  exact dS l _ fun b y hy=>h b y (mem_cons_of_mem _ hy)
theorem r6 (F:bS n G (br n t))(i:Nat):below n t i=wt n G i:=by
 unfold below wt
 refine dS _ _ fun m k hk=>?_
 rw[iE F (mem_range.mp (mem_of_mem_drop hk))]
theorem cN (F:bS n G (br n t)):Turn.order n t=wt n G 0:=by
 unfold Turn.order wt
 rw[drop_zero]
 refine dS _ _ fun m k hk=>?_
 rw[iE F (mem_range.mp hk)]
theorem eG (T:dX n t)(F:bS n G (br n t)){x:Row}(hx:IsT n x):Turn.has n t x=true↔G x:=by
 unfold Turn.has
 rw[ma T n 0 x rfl hx,Option.isNone_iff_eq_none]
 exact F.iff hx
theorem jf (T:dX n t)(F:bS n G (br n t)){i j:Nat}(hi:i<n)(h:Orb G i j):G (entryOr n t i j)∧Fix (entryOr n t i j) i∧at_ (entryOr n t i j) i=j:=by
 unfold entryOr
 cases e:entry t i j with
 | none=>
  have:j=i:=by
   have:=(jw F hi).mpr h
   rw[e] at this
   simpa using this
  subst this
  exact ⟨F.grp.still,Fix.still (by omega),aJ hi⟩
 | some u=>
  have hs:=je e
  have hj:j≠i:=fun q=>(T.ok i u hs.1).2.2.2 (hs.2.trans q)
  have:br n t i j=some u:=by unfold br;rw[if_neg hj];exact e
  have ok:=F.snd.ok _ _ _ this
  exact ⟨ok.2.1,ok.2.2.1,ok.2.2.2⟩
def Img (G:Row→Prop)(y:Row)(a v:Nat):Prop:=∃ j,Orb G a j∧at_ y j=v
open Classical in
noncomputable def cz (n:Nat)(G:Row→Prop)(y:Row)(a:Nat):List Nat:=(List.range n).filter fun v=>decide (Img G y a v)
theorem jK {y:Row}{a v:Nat}:v∈cz n G y a↔v<n∧Img G y a v:=by
 unfold cz
 rw[mem_filter,mem_range]
 simp only[decide_eq_true_eq]
theorem eV (hG:Grp n G){y:Row}(hy:IsT n y){a v:Nat}(ha:a<n):v∈cz n G y a↔Img G y a v:=by
 rw[jK]
 refine ⟨fun h=>h.2,fun h=>⟨?_,h⟩⟩
 obtain ⟨j,hj,rfl⟩:=h
 exact hy.lt j (hj.lt hG ha)
theorem ck (y:Row)(a:Nat):(cz n G y a).Pairwise (· < ·):=pairwise_lt_range.filter _
theorem iX:∀ {l m:List Nat},l.Pairwise (· < ·)→m.Pairwise (· < ·)→(∀ v,v∈l↔v∈m)→l=m
 | [],[],_,_,_=>rfl
 | [],b::m,_,_,h=>by have:=(h b).mpr (mem_cons_self ..);cases this
 | a::l,[],_,_,h=>by have:=(h a).mp (mem_cons_self ..);cases this
 | a::l,b::m,hl,hm,h=>by
  rw[pairwise_cons] at hl hm
  have hab:a=b:=by
   rcases Mc ((h a).mp (mem_cons_self ..)) with e|e
   ·exact e
   ·rcases Mc ((h b).mpr (mem_cons_self ..)) with e'|e'
    ·exact e'.symm
    ·have h1:=hm.1 a e
     have h2:=hl.1 b e'
     omega
  subst hab
  refine congrArg (a::·) (iX hl.2 hm.2 fun v=>?_)
  constructor
  ·intro hv
   rcases Mc ((h v).mp (mem_cons_of_mem _ hv)) with e|e
   ·subst e;exact absurd (hl.1 v hv) (Nat.lt_irrefl _)
   ·exact e
  ·intro hv
   rcases Mc ((h v).mpr (mem_cons_of_mem _ hv)) with e|e
   ·subst e;exact absurd (hm.1 v hv) (Nat.lt_irrefl _)
   ·exact e
theorem yx (hG:Grp n G){y g:Row}(hy:IsT n y){a:Nat}(ha:a<n)(hg:G g)(fg:Fix g a){v:Nat}:Img G (mul g y) a v↔Img G y a v:=by
 have gT:=hG.isT g hg
 constructor
 ·rintro ⟨j,hj,rfl⟩
  exact ⟨at_ g j,hj.move hG ha hg fg,(gT.at_mul (hj.lt hG ha)).symm⟩
 ·rintro ⟨j,hj,rfl⟩
  have hji:=hj.move hG ha (hG.inv g hg) (Fix.inv gT (by omega) fg)
  refine ⟨at_ (inverse g) j,hji,?_⟩
  rw[gT.at_mul (hji.lt hG ha),(gT.inv_spec (hj.lt hG ha)).2]
theorem eJ (hG:Grp n G){y g:Row}(hy:IsT n y){a:Nat}(ha:a<n)(hg:G g)(fg:Fix g a):cz n G (mul g y) a=cz n G y a:=
 iX (ck _ _) (ck _ _) fun v=>by rw[jK,jK,yx hG hy ha hg fg]
theorem lS (hG:Grp n G){y:Row}(hy:IsT n y){a:Nat}(ha:a<n):(cz n G y a).length=(bR n G a).length:=by
 have p:(cz n G y a).Perm ((bR n G a).map (at_ y)):=by
  refine (perm_ext_iff_of_nodup ?_ ?_).mpr fun v=>?_
  ·exact (ck y a).imp fun h=>Nat.ne_of_lt h
  ·rw[List.Nodup,pairwise_map]
   refine List.Pairwise.imp_of_mem ?_ (dF n G a)
   intro u v hu hv huv e
   exact huv (hy.inj _ _ (aS.mp hu).1 (aS.mp hv).1 e)
  ·rw[eV hG hy ha,mem_map]
   constructor
   ·rintro ⟨j,hj,e⟩;exact ⟨j,(bx hG ha).mpr hj,e⟩
   ·rintro ⟨j,hj,e⟩;exact ⟨j,(bx hG ha).mp hj,e⟩
 rw[p.length_eq,length_map]
theorem dy (hG:Grp n G){y:Row}(hy:IsT n y){a:Nat}(ha:a<n):at_ y a∈cz n G y a:=
 (eV hG hy ha).mpr ⟨a,rB hG ha,rfl⟩
theorem fk (hG:Grp n G){y g:Row}(hy:IsT n y)(hg:G g){b:Nat}(hb:Fix g b)(dig:Nat→Nat)
  (h1:∀ a,b≤a→a<n→(cz n G y a)[dig a]?=some (at_ y a))(h2:∀ a,b≤a→a<n→(cz n G (mul g y) a)[dig a]?=some (at_ (mul g y) a)):mul g y=y:=by
 have gT:=hG.isT g hg
 have key:∀ a,a≤n→Fix g a:=by
  intro a
  induction a with
  | zero=>intro _ c hc;omega
  | succ a ih=>
   intro ha c hc
   by_cases hca:c=a
   ·subst hca
    by_cases hcb:c<b
    ·exact hb c hcb
    ·have e1:=h1 c (by omega) (by omega)
     have e2:=h2 c (by omega) (by omega)
     rw[eJ hG hy (by omega) hg (ih (by omega)),e1,Option.some.injEq,gT.at_mul (by omega)] at e2
     exact (hy.inj _ _ (by omega) (gT.lt c (by omega)) e2).symm
   ·exact ih (by omega) c (by omega)
 have:g=still n:=Fix.all gT (key n (Nat.le_refl _))
 rw[this,bc hy]
theorem kn (p:Nat×Nat):∀ (l:List (Nat×Nat)) (q:Nat×Nat),q∈putIn p l↔q=p∨q∈l
 | [],q=>by simp[putIn]
 | r::l,q=>by
  unfold putIn
  by_cases h:p.1<r.1
  ·rw[if_pos h];simp
  ·rw[if_neg h,mem_cons,kn p l q,mem_cons]
   constructor
   ·rintro (a|a|a)
    ·exact .inr (.inl a)
    ·exact .inl a
    ·exact .inr (.inr a)
   ·rintro (a|a|a)
    ·exact .inr (.inl a)
    ·exact .inl a
    ·exact .inr (.inr a)
theorem jp (p:Nat×Nat):∀ (l:List (Nat×Nat)),l.Pairwise (fun a b=>a.1<b.1)→(∀ q∈l,q.1≠p.1)→(putIn p l).Pairwise fun a b=>a.1<b.1
 | [],_,_=>by simp[putIn]
 | r::l,h,hn=>by
  unfold putIn
  rw[pairwise_cons] at h
  by_cases hp:p.1<r.1
  ·rw[if_pos hp,pairwise_cons]
   refine ⟨fun q hq=>?_,pairwise_cons.mpr h⟩
   rcases Mc hq with rfl|hq
   ·exact hp
   ·exact Nat.lt_trans hp (h.1 q hq)
  ·rw[if_neg hp,pairwise_cons]
   refine ⟨fun q hq=>?_,jp p l h.2 fun q hq=>hn q (mem_cons_of_mem _ hq)⟩
   rcases (kn p l q).mp hq with rfl|hq
   ·have:=hn r (mem_cons_self ..)
    omega
   ·exact h.1 q hq
theorem kP:∀ (l:List (Nat×Nat)),(l.map (·.1)).Nodup→(l.foldr putIn []).Pairwise (fun a b=>a.1<b.1)∧∀ q,q∈l.foldr putIn []↔q∈l
 | [],_=>⟨List.Pairwise.nil,fun q=>Iff.rfl⟩
 | p::l,h=>by
  rw[map_cons,nodup_cons] at h
  have ih:=kP l h.2
  rw[foldr_cons]
  refine ⟨jp p _ ih.1 fun q hq e=>h.1 (mem_map.mpr ⟨q,(ih.2 q).mp hq,e⟩),fun q=>?_⟩
  rw[kn,ih.2,mem_cons]
theorem lJ (F:bS n G (br n t)){i:Nat}(hi:i<n){x:Row}(hx:IsT n x):
  (choices n t i x).map (·.1)=cz n G x i∧∀ c∈choices n t i x,Orb G i c.2∧c.1=at_ x c.2:=by
 have hG:=F.grp
 unfold choices
 rw[iE F hi]
 have nd:(((bR n G i).map fun j=>(at_ x j,j)).map (·.1)).Nodup:=by
  rw[map_map,List.Nodup,pairwise_map]
  refine List.Pairwise.imp_of_mem ?_ (dF n G i)
  intro u v hu hv huv e
  exact huv (hx.inj _ _ (aS.mp hu).1 (aS.mp hv).1 e)
 have f:=kP _ nd
 have mem:∀ c,c∈((bR n G i).map fun j=>(at_ x j,j)).foldr putIn []↔Orb G i c.2∧c.1=at_ x c.2:=by
  intro c
  rw[f.2,mem_map]
  constructor
  ·rintro ⟨j,hj,rfl⟩;exact ⟨(bx hG hi).mp hj,rfl⟩
  ·rintro ⟨h1,h2⟩;exact ⟨c.2,(bx hG hi).mpr h1,by rw[←h2]⟩
 refine ⟨iX ?_ (ck x i) fun v=>?_,fun c hc=>(mem c).mp hc⟩
 ·rw[pairwise_map];exact f.1
 ·rw[mem_map,eV hG hx hi]
  constructor
  ·rintro ⟨c,hc,rfl⟩
   have:=(mem c).mp hc
   exact ⟨c.2,this.1,this.2.symm⟩
  ·rintro ⟨j,hj,rfl⟩
   exact ⟨(at_ x j,j),(mem _).mpr ⟨hj,rfl⟩,rfl⟩
noncomputable def rs (n:Nat)(G:Row→Prop):Nat→Nat→Nat→Nat
 | 0,_,k=>k
 | d+1,i,k=>rs n G d (i+1) (k % wt n G (i+1))
theorem qb:∀ (d i:Nat),rs n G d i 0=0
 | 0,_=>rfl
 | d+1,i=>by
  show rs n G d (i+1) (0 % _)=0
  rw[Nat.zero_mod];exact qb d (i+1)
theorem i7 (T:dX n t)(F:bS n G (br n t)):∀ (f i k:Nat) (x:Row),f=n-i→i≤n→IsT n x→k<wt n G i→
  ∃ g,G g∧Fix g i∧nthFrom n t f i k x=mul g x∧∀ a,i≤a→a<n→(cz n G (mul g x) a)[rs n G (a-i) i k / wt n G (a+1)]?=some (at_ (mul g x) a)
 | 0,i,k,x,hf,hin,hx,hk=>by
  refine ⟨still n,F.grp.still,Fix.still hin,(bc hx).symm,fun a h1 h2=>by omega⟩
 | f+1,i,k,x,hf,hin,hx,hk=>by
  have hG:=F.grp
  have hi:i<n:=by omega
  have wp:=ig hG (n-(i+1)) (i+1) rfl
  have hd:k / wt n G (i+1)<(cz n G x i).length:=by
   rw[lS hG hx hi,Nat.div_lt_iff_lt_mul wp,←gD hi];exact hk
  have ch:=lJ F hi hx
  have hlen:(choices n t i x).length=(cz n G x i).length:=by rw[←ch.1,length_map]
  have hd':k / wt n G (i+1)<(choices n t i x).length:=by rw[hlen];exact hd
  unfold nthFrom
  rw[r6 F]
  have hc:(choices n t i x).getD (k / wt n G (i+1)) (0,i)=(choices n t i x)[k / wt n G (i+1)]:=by
   rw[getD_eq_getElem?_getD,getElem?_eq_getElem hd',Option.getD_some]
  simp only[hc]
  have co:=ch.2 _ (getElem_mem hd')
  generalize hce:(choices n t i x)[k / wt n G (i+1)]=c at co
  have eo:=jf T F hi co.1
  generalize hee:entryOr n t i c.2=e at eo
  have eT:=hG.isT e eo.1
  have hval:(cz n G x i)[k / wt n G (i+1)]?=some c.1:=by
   rw[←ch.1,getElem?_map,getElem?_eq_getElem hd',hce];rfl
  obtain ⟨g,hg,fg,he,hp⟩:=i7 T F f (i+1) (k % wt n G (i+1)) (mul e x) (by omega) (by omega) (eT.mul hx) (Nat.mod_lt _ wp)
  have gT:=hG.isT g hg
  have as:mul g (mul e x)=mul (mul g e) x:=(mul_assoc gT eT).symm
  rw[as] at he hp
  refine ⟨mul g e,hG.mul _ _ hg eo.1,Fix.mul gT (by omega) (fg.mono (by omega)) eo.2.1,he,fun a h1 h2=>?_⟩
  by_cases hai:a=i
  ·subst hai
   rw[Nat.sub_self]
   show (cz n G (mul (mul g e) x) a)[k / wt n G (a+1)]?=_
   rw[eJ hG hx hi (hG.mul _ _ hg eo.1) (Fix.mul gT (by omega) (fg.mono (by omega)) eo.2.1),hval,←as,gT.at_mul hi,fg a (by omega),eT.at_mul hi,eo.2.2,co.2]
  ·have:=hp a (by omega) h2
   have e2:a-i=(a-(i+1))+1:=by omega
   rw[e2]
   exact this
noncomputable def pl (n:Nat)(G:Row→Prop)(y:Row):Nat→Nat→Nat
 | 0,_=>0
 | f+1,i=>(cz n G y i).idxOf (at_ y i)*wt n G (i+1)+pl n G y f (i+1)
theorem kQ {v:Nat}:∀ (l:List (Nat×Nat)),v∈l.map (·.1)→l.findIdx? (fun c=>c.1==v)=some ((l.map (·.1)).idxOf v)
 | [],h=>by cases h
 | c::l,h=>by
  rw[findIdx?_cons,map_cons,idxOf_cons]
  by_cases hc:c.1=v
  ·simp[hc]
  ·have h1:(c.1==v)=false:=by simp[hc]
   rw[map_cons] at h
   have h2:v∈l.map (·.1):=by
    rcases Mc h with e|e
    ·exact absurd e.symm hc
    ·exact e
   simp only[h1,kQ l h2]
   simp
theorem jr (T:dX n t)(F:bS n G (br n t)):∀ (f i:Nat) (x g:Row),f=n-i→i≤n→IsT n x→G g→Fix g i→
  placeFrom n t (mul g x) f i x=pl n G (mul g x) f i
 | 0,i,x,g,_,_,_,_,_=>rfl
 | f+1,i,x,g,hf,hin,hx,hg,fg=>by
  have hG:=F.grp
  have hi:i<n:=by omega
  have gT:=hG.isT g hg
  have yT:=gT.mul hx
  have ch:=lJ F hi hx
  have vm:=eJ hG hx hi hg fg
  have hm:at_ (mul g x) i∈(choices n t i x).map (·.1):=by
   rw[ch.1,←vm];exact dy hG yT hi
  unfold placeFrom pl
  simp only[]
  rw[kQ _ hm,r6 F,ch.1,vm]
  simp only[Option.getD_some]
  have hlt:(cz n G x i).idxOf (at_ (mul g x) i)<(choices n t i x).length:=by
   have e1:(choices n t i x).length=(cz n G x i).length:=by rw[←ch.1,length_map]
   rw[e1]
   rw[ch.1] at hm
   exact idxOf_lt_length_of_mem hm
  have hc:(choices n t i x).getD ((cz n G x i).idxOf (at_ (mul g x) i)) (0,i)=(choices n t i x)[(cz n G x i).idxOf (at_ (mul g x) i)]:=by
   rw[getD_eq_getElem?_getD,getElem?_eq_getElem hlt,Option.getD_some]
  rw[hc]
  have co:=ch.2 _ (getElem_mem hlt)
  have cv:((choices n t i x)[(cz n G x i).idxOf (at_ (mul g x) i)]).1=at_ (mul g x) i:=by
   have h1:((choices n t i x).map (·.1))[(cz n G x i).idxOf (at_ (mul g x) i)]?=some ((choices n t i x)[(cz n G x i).idxOf (at_ (mul g x) i)]).1:=by
    rw[getElem?_map,getElem?_eq_getElem hlt];rfl
   rw[ch.1] at h1
   have hm':=hm
   rw[ch.1] at hm'
   have hl2:=idxOf_lt_length_of_mem hm'
   rw[getElem?_eq_getElem hl2,getElem_idxOf hl2] at h1
   exact (Oi h1).symm
  generalize (choices n t i x)[(cz n G x i).idxOf (at_ (mul g x) i)]=c at co cv
  have eo:=jf T F hi co.1
  generalize entryOr n t i c.2=e at eo
  have eT:=hG.isT e eo.1
  have hgi:at_ g i=c.2:=by
   rw[co.2,gT.at_mul hi] at cv
   exact (hx.inj _ _ (co.1.lt hG hi) (gT.lt i hi) cv).symm
  have fn:=dm gT eT hi fg eo.2.1 (eo.2.2.trans hgi.symm)
  have re:mul g x=mul (mul g (inverse e)) (mul e x):=by
   rw[←mul_assoc (gT.mul eT.inverse) eT,aQ gT eT]
  have ih:=jr T F f (i+1) (mul e x) (mul g (inverse e)) (by omega) (by omega) (eT.mul hx) (hG.mul _ _ hg (hG.inv _ eo.1)) fn
  rw[←re] at ih
  rw[ih]
theorem xH (T:dX n t)(F:bS n G (br n t)){y:Row}(hy:G y):Turn.place n t y=pl n G y n 0:=by
 unfold Turn.place
 have h:=jr T F n 0 (still n) y rfl (Nat.zero_le _) (bu n) hy (fun a ha=>absurd ha (Nat.not_lt_zero a))
 rw[aW (F.grp.isT y hy)] at h
 exact h
theorem rD (T:dX n t)(F:bS n G (br n t)){k:Nat}{x:Row}(hx:IsT n x)(hk:k<wt n G 0):
  ∃ g,G g∧Turn.nth n t k x=mul g x∧∀ a,a<n→(cz n G (mul g x) a)[rs n G a 0 k / wt n G (a+1)]?=some (at_ (mul g x) a):=by
 obtain ⟨g,h1,_,h3,h4⟩:=i7 T F n 0 k x rfl (Nat.zero_le _) hx hk
 exact ⟨g,h1,h3,fun a ha=>h4 a (Nat.zero_le _) ha⟩
theorem qg (hG:Grp n G){y:Row}(hy:IsT n y):∀ (f i:Nat),f=n-i→pl n G y f i<wt n G i
 | 0,i,h=>by rw[lR (by omega)];exact Nat.zero_lt_one
 | f+1,i,h=>by
  have hi:i<n:=by omega
  have ih:=qg hG hy f (i+1) (by omega)
  unfold pl
  rw[gD hi,←lS hG hy hi]
  have:=idxOf_lt_length_of_mem (dy hG hy hi)
  calc _<(cz n G y i).idxOf (at_ y i)*wt n G (i+1)+wt n G (i+1):=by omega
   _=((cz n G y i).idxOf (at_ y i)+1)*wt n G (i+1):=by rw[Nat.add_mul,Nat.one_mul]
   _≤_:=Nat.mul_le_mul_right _ this
theorem Ba (hG:Grp n G){y:Row}(hy:IsT n y):∀ (d f i:Nat),f=n-i→i+d<n→rs n G d i (pl n G y f i)=pl n G y (f-d) (i+d)
 | 0,f,i,_,_=>rfl
 | d+1,0,i,h,hd=>by omega
 | d+1,f+1,i,h,hd=>by
  show rs n G d (i+1) (((cz n G y i).idxOf (at_ y i)*wt n G (i+1)+pl n G y f (i+1)) % wt n G (i+1))=_
  rw[Nat.add_comm (_*_),Nat.add_mul_mod_self_right,Nat.mod_eq_of_lt (qg hG hy f (i+1) (by omega)),Ba hG hy d f (i+1) (by omega) (by omega)]
  congr 1 <;> omega
theorem Aa (hG:Grp n G){y:Row}(hy:IsT n y){a:Nat}(ha:a<n):(cz n G y a)[rs n G a 0 (pl n G y n 0) / wt n G (a+1)]?=some (at_ y a):=by
 rw[Ba hG hy a n 0 rfl (by omega),Nat.zero_add]
 have e:n-a=(n-(a+1))+1:=by omega
 rw[e]
 show (cz n G y a)[((cz n G y a).idxOf (at_ y a)*wt n G (a+1)+pl n G y (n-(a+1)) (a+1)) / wt n G (a+1)]?=_
 have wp:=ig hG (n-(a+1)) (a+1) rfl
 have hl:=idxOf_lt_length_of_mem (dy hG hy ha)
 rw[Nat.add_comm (_*_),Nat.add_mul_div_right _ _ wp,Nat.div_eq_of_lt (qg hG hy _ _ rfl),Nat.zero_add,getElem?_eq_getElem hl,getElem_idxOf hl]
theorem kC (T:dX n t)(F:bS n G (br n t)){y:Row}(hy:G y):Turn.nth n t (pl n G y n 0) (still n)=y:=by
 have hG:=F.grp
 have yT:=hG.isT y hy
 obtain ⟨g,h1,h2,h3⟩:=rD T F (bu n) (qg hG yT n 0 rfl)
 have gT:=hG.isT g h1
 rw[aW gT] at h2 h3
 rw[h2]
 have e:mul (mul g (inverse y)) y=g:=aQ gT yT
 have:=fk hG (y:=y) (g:=mul g (inverse y)) yT (hG.mul _ _ h1 (hG.inv _ hy)) (b:=0) (fun a ha=>absurd ha (Nat.not_lt_zero a)) (fun a=>rs n G a 0 (pl n G y n 0) / wt n G (a+1))
  (fun a _ ha=>Aa hG yT ha) (fun a _ ha=>by rw[e];exact h3 a ha)
 rw[e] at this
 exact this
end Tt
namespace Tt
open Turn (Row at_ mul inverse still isTurn entry sift fill tableOf reach below choices entryOr nthFrom placeFrom putIn conjugate commutator lean closure outside own leastAt)
noncomputable def y8 (n:Nat)(G:Row→Prop):Nat:=((List.range n).map fun i=>(bR n G i).length).sum
theorem iS {f g:Nat→Nat}:∀ (l:List Nat),(∀ i∈l,f i≤g i)→(l.map f).sum≤(l.map g).sum
 | [],_=>Nat.le_refl _
 | a::l,h=>by
  rw[map_cons,map_cons,sum_cons,sum_cons]
  have h1:=h a (mem_cons_self ..)
  have h2:=iS l fun i hi=>h i (mem_cons_of_mem _ hi)
  omega
theorem lj {f g:Nat→Nat}:∀ (l:List Nat),(∀ i∈l,f i≤g i)→(l.map g).sum≤(l.map f).sum→∀ i∈l,f i=g i
 | [],_,_=>fun i hi=>by cases hi
 | a::l,h,hs=>by
  rw[map_cons,map_cons,sum_cons,sum_cons] at hs
  have h1:=h a (mem_cons_self ..)
  have h2:=iS l fun i hi=>h i (mem_cons_of_mem _ hi)
  intro i hi
  rcases Mc hi with rfl|hi
  ·omega
  ·exact lj l (fun i hi=>h i (mem_cons_of_mem _ hi)) (by omega) i hi
theorem rC {n:Nat}{G G':Row→Prop}(h:∀ x,G x→G' x)(i:Nat):bR n G i ⊆ bR n G' i:=fun j hj=>by
 rw[aS] at hj ⊢
 obtain ⟨hj,x,hx,hf,e⟩:=hj
 exact ⟨hj,x,h x hx,hf,e⟩
theorem sv {l m:List Nat}(hl:l.Nodup)(h:l ⊆ m)(hlen:m.length≤l.length):m ⊆ l:=by
 intro a ha
 apply Classical.byContradiction
 intro hn
 have:=(nodup_cons.mpr ⟨hn,hl⟩).length_le_of_subset (l₂:=m) (by
  intro b hb
  rcases Mc hb with rfl|hb
  ·exact ha
  ·exact h hb)
 rw[length_cons] at this
 omega
theorem vZ {n:Nat}{G G':Row→Prop}{U:Tb}(F:bS n G U)(hG':Grp n G')(h:∀ x,G x→G' x){x:Row}(hx:G' x)(hn:¬G x):y8 n G<y8 n G':=by
 apply Classical.byContradiction
 intro hlt
 have hle:y8 n G'≤y8 n G:=by omega
 have heq:=lj (f:=fun i=>(bR n G i).length) (g:=fun i=>(bR n G' i).length) (List.range n) (fun i _=>(dF n G i).length_le_of_subset (rC h i)) hle
 have key:∀ (f i:Nat),f=n-i→∀ y,G' y→Fix y i→bU U f i y=none:=by
  intro f
  induction f with
  | zero=>intro i _ y _ _;rfl
  | succ f ih=>
   intro i hf y hy fy
   have hi:i<n:=by omega
   have o':at_ y i∈bR n G' i:=(bx hG' hi).mpr ⟨y,hy,fy,rfl⟩
   have o:at_ y i∈bR n G i:=sv (dF n G i) (rC h i) (Nat.le_of_eq (heq i (mem_range.mpr hi)).symm) o'
   have os:=(F.orb hi).mpr ((bx F.grp hi).mp o)
   obtain ⟨e,he⟩:=Option.isSome_iff_exists.mp os
   have ok:=F.snd.ok _ _ _ he
   unfold bU
   rw[he]
   exact ih (i+1) (by omega) _ (hG'.mul _ _ hy (hG'.inv _ (h e ok.2.1))) (dm (hG'.isT y hy) (F.grp.isT e ok.2.1) hi fy ok.2.2.1 ok.2.2.2)
 exact hn ((F.iff (hG'.isT x hx)).mp (key n 0 rfl x hx (fun a ha=>absurd ha (Nat.not_lt_zero a))))
theorem di {n:Nat}{G:Row→Prop}(hG:Grp n G){i:Nat}(hi:i<n):(bR n G i).length≤n-i:=by
 have:=(dF n G i).length_le_of_subset (l₂:=(List.range n).drop i) (by
  intro j hj
  have h1:=aS.mp hj
  have h2:=h1.2.ge hG hi
  rw[mem_drop_iff_getElem]
  exact ⟨j-i,by rw[length_range];omega,by rw[getElem_range];omega⟩)
 rwa [length_drop,length_range] at this
theorem Ap {n:Nat}(hn:n≤9){G:Row→Prop}(hG:Grp n G):y8 n G≤45:=by
 have h:=iS (f:=fun i=>(bR n G i).length) (g:=fun i=>n-i) (List.range n) fun i hi=>di hG (mem_range.mp hi)
 refine Nat.le_trans h ?_
 have:∀ m,m≤9→((List.range m).map fun i=>m-i).sum≤45:=by decide
 exact this n hn
structure gz (n:Nat)(l:List Row):Prop where
 isT:∀ g∈l,IsT n g
 len:l.length≤1000
theorem gz.table {n:Nat}(hn:n≤9){l:List Row}(h:gz n l):dX n (tableOf n l)∧bS n (aE n l) (br n (tableOf n l)):=
 nH hn h.isT (by have:=h.len;omega)
theorem gz.has {n:Nat}(hn:n≤9){l:List Row}(h:gz n l){x:Row}(hx:IsT n x):Turn.has n (tableOf n l) x=true↔aE n l x:=
 eG (h.table hn).1 (h.table hn).2 hx
theorem kF {n:Nat}{s r:List Row}{x:Row}(hs:∀ g∈s++x::r,IsT n g)(h:aE n s x)(z:Row):aE n (s++x::r) z↔aE n (s++r) z:=by
 constructor
 ·intro hz
  have hs':∀ g∈s++r,IsT n g:=fun g hg=>hs g (by
   rcases Ma hg with h|h
   ·exact mem_append_left _ h
   ·exact mem_append_right _ (mem_cons_of_mem _ h))
  refine aE.least (ci hs') (fun g hg=>?_) hz
  rcases Ma hg with h1|h1
  ·exact aE.gen hs' (mem_append_left _ h1)
  ·rcases Mc h1 with rfl|h1
   ·exact h.mono fun g hg=>mem_append_left _ hg
   ·exact aE.gen hs' (mem_append_right _ h1)
 ·exact aE.mono fun g hg=>by
   rcases Ma hg with h|h
   ·exact mem_append_left _ h
   ·exact mem_append_right _ (mem_cons_of_mem _ h)
theorem k8 {n:Nat}(hn:n≤9){s:List Row}{x:Row}(hs:gz n s)(hx:IsT n x)(h:¬aE n s x):y8 n (aE n s)<y8 n (aE n (s++[x])):=by
 have hs':∀ g∈s++[x],IsT n g:=fun g hg=>by
  rcases Ma hg with h|h
  ·exact hs.isT g h
  ·rw[Ms h];exact hx
 exact vZ (hs.table hn).2 (ci hs') (fun z hz=>hz.mono fun g hg=>mem_append_left _ hg) (aE.gen hs' (mem_append_right _ (mem_singleton.mpr rfl))) h
structure k0 (n:Nat)(s:List Row):Prop where
 isT:∀ g∈s,IsT n g
 len:s.length≤y8 n (aE n s)
theorem k0.good {n:Nat}(hn:n≤9){s:List Row}(h:k0 n s):s.length≤45:=Nat.le_trans h.len (Ap hn (ci h.isT))
theorem k0.toGood {n:Nat}(hn:n≤9){s:List Row}(h:k0 n s):gz n s:=⟨h.isT,by have:=h.good hn;omega⟩
theorem k0.nil (n:Nat):k0 n []:=⟨fun g hg=>(by cases hg),Nat.zero_le _⟩
theorem k0.snoc {n:Nat}(hn:n≤9){s:List Row}{x:Row}(h:k0 n s)(hx:IsT n x)(hm:¬aE n s x):k0 n (s++[x]):=by
 refine ⟨fun g hg=>?_,?_⟩
 ·rcases Ma hg with h1|h1
  ·exact h.isT g h1
  ·rw[Ms h1];exact hx
 ·have:=k8 hn (h.toGood hn) hx hm
  have:=h.len
  rw[length_append,length_singleton]
  omega
theorem kK {n:Nat}(hn:n≤9):∀ (c s:List Row),k0 n s→(∀ g∈c,IsT n g)→k0 n (lean n c s)∧(∀ z,aE n (lean n c s) z↔aE n (s++c) z)∧∀ z∈lean n c s,z∈s∨z∈c
 | [],s,hs,_=>⟨hs,fun z=>by unfold lean;rw[append_nil],fun z hz=>.inl hz⟩
 | x::r,s,hs,hc=>by
  have hx:=hc x (mem_cons_self ..)
  have hr:∀ g∈r,IsT n g:=fun g hg=>hc g (mem_cons_of_mem _ hg)
  have hall:∀ g∈s++x::r,IsT n g:=fun g hg=>by
   rcases Ma hg with h|h
   ·exact hs.isT g h
   ·exact hc g h
  unfold lean
  by_cases h:Turn.has n (tableOf n s) x=true
  ·rw[if_pos h]
   have hm:=((hs.toGood hn).has hn hx).mp h
   obtain ⟨h1,h2,h3⟩:=kK hn r s hs hr
   refine ⟨h1,fun z=>by rw[h2,kF hall hm],fun z hz=>?_⟩
   rcases h3 z hz with h|h
   ·exact .inl h
   ·exact .inr (mem_cons_of_mem _ h)
  ·rw[if_neg h]
   have hm:¬aE n s x:=fun q=>h (((hs.toGood hn).has hn hx).mpr q)
   obtain ⟨h1,h2,h3⟩:=kK hn r (s++[x]) (hs.snoc hn hx hm) hr
   refine ⟨h1,fun z=>by rw[h2,append_assoc];rfl,fun z hz=>?_⟩
   rcases h3 z hz with h|h
   ·rcases Ma h with h|h
    ·exact .inl h
    ·rw[Ms h];exact .inr (mem_cons_self ..)
   ·exact .inr (mem_cons_of_mem _ h)
structure fF (n:Nat)(G:Row→Prop)(i j:Nat)(y:Row):Prop where
 mem:G y
 fix:Fix y i
 at_:at_ y i=j
 low:∀ a,i<a→a<n→(cz n G y a)[0]?=some (Turn.at_ y a)
theorem fF.unique {n:Nat}{G:Row→Prop}(hG:Grp n G){i j:Nat}(hi:i<n){y z:Row}(hy:fF n G i j y)(hz:fF n G i j z):z=y:=by
 have yT:=hG.isT y hy.mem
 have zT:=hG.isT z hz.mem
 have e:mul (mul z (inverse y)) y=z:=aQ zT yT
 have:=fk hG (y:=y) (g:=mul z (inverse y)) yT (hG.mul _ _ hz.mem (hG.inv _ hy.mem)) (b:=i+1) (dm zT yT hi hz.fix hy.fix (hy.at_.trans hz.at_.symm)) (fun _=>0)
  (fun a h1 h2=>hy.low a (by omega) h2) (fun a h1 h2=>by rw[e];exact hz.low a (by omega) h2)
 rw[e] at this
 exact this
theorem gt {n:Nat}{G:Row→Prop}{t:Turn.Table}(T:dX n t)(F:bS n G (br n t)){i j:Nat}(hi:i<n)(h:Orb G i j):fF n G i j (leastAt n t i j):=by
 have hG:=F.grp
 have eo:=jf T F hi h
 unfold leastAt
 generalize entryOr n t i j=e at eo
 have eT:=hG.isT e eo.1
 obtain ⟨g,h1,h2,h3,h4⟩:=i7 T F (n-i-1) (i+1) 0 e (by omega) (by omega) eT (ig hG _ _ rfl)
 have gT:=hG.isT g h1
 rw[h3]
 refine ⟨hG.mul _ _ h1 eo.1,Fix.mul gT (by omega) (h2.mono (by omega)) eo.2.1,by rw[gT.at_mul hi,h2 i (by omega),eo.2.2],fun a h5 h6=>?_⟩
 have:=h4 a (by omega) h6
 rw[qb,Nat.zero_div] at this
 exact this
noncomputable def ld (n:Nat)(G:Row→Prop)(m:Nat→Nat→Row):List Row:=(List.range n).reverse.flatMap fun i=>((bR n G i).filter fun j=>j != i).map (m i)
theorem eY {α β:Type}{f g:α→List β}:∀ (l:List α),(∀ a∈l,f a=g a)→l.flatMap f=l.flatMap g
 | [],_=>rfl
 | a::l,h=>by
  rw[flatMap_cons,flatMap_cons,h a (mem_cons_self ..),eY l fun b hb=>h b (mem_cons_of_mem _ hb)]
theorem rz {n:Nat}(hn:n≤9){l:List Row}(hl:gz n l){m:Nat→Nat→Row}(hm:∀ i j,i<n→j≠i→Orb (aE n l) i j→fF n (aE n l) i j (m i j)):
  own n l=lean n (ld n (aE n l) m) []:=by
 obtain ⟨T,F⟩:=hl.table hn
 unfold own ld
 simp only[]
 congr 1
 refine eY _ fun i hi=>?_
 have hi':i<n:=mem_range.mp (mem_reverse.mp hi)
 rw[iE F hi']
 refine map_congr_left fun j hj=>?_
 have hj1:=(mem_filter.mp hj).1
 have hj2:j≠i:=by simpa using (mem_filter.mp hj).2
 have ho:=(bx F.grp hi').mp hj1
 exact fF.unique F.grp hi' (hm i j hi' hj2 ho) (gt T F hi' ho)
theorem oK {n:Nat}{G:Row→Prop}(hG:Grp n G){m:Nat→Nat→Row}{x:Row}:x∈ld n G m↔∃ i j,i<n∧Orb G i j∧j≠i∧m i j=x:=by
 unfold ld
 rw[mem_flatMap]
 constructor
 ·rintro ⟨i,hi,h⟩
  obtain ⟨j,hj,e⟩:=mem_map.mp h
  have hi':i<n:=mem_range.mp (mem_reverse.mp hi)
  exact ⟨i,j,hi',(bx hG hi').mp (mem_filter.mp hj).1,by simpa using (mem_filter.mp hj).2,e⟩
 ·rintro ⟨i,j,hi,ho,hj,e⟩
  exact ⟨i,mem_reverse.mpr (mem_range.mpr hi),mem_map.mpr ⟨j,mem_filter.mpr ⟨(bx hG hi).mpr ho,by simpa using hj⟩,e⟩⟩
theorem tM {n:Nat}{G:Row→Prop}(hG:Grp n G){m:Nat→Nat→Row}(hm:∀ i j,i<n→j≠i→Orb G i j→fF n G i j (m i j)):
  (∀ x∈ld n G m,G x)∧∀ x,G x→aE n (ld n G m) x:=by
 have h1:∀ x∈ld n G m,G x:=fun x hx=>by
  obtain ⟨i,j,hi,ho,hj,rfl⟩:=(oK hG).mp hx
  exact (hm i j hi hj ho).mem
 refine ⟨h1,?_⟩
 have h2:∀ g∈ld n G m,IsT n g:=fun g hg=>hG.isT g (h1 g hg)
 have key:∀ (f i:Nat),f=n-i→i≤n→∀ x,G x→Fix x i→aE n (ld n G m) x:=by
  intro f
  induction f with
  | zero=>
   intro i hf hi x hx fx
   have:i=n:=by omega
   subst this
   rw[Fix.all (hG.isT x hx) fx]
   exact .still
  | succ f ih=>
   intro i hf hi x hx fx
   have hin:i<n:=by omega
   have xT:=hG.isT x hx
   by_cases hj:Turn.at_ x i=i
   ·refine ih (i+1) (by omega) (by omega) x hx fun a ha=>?_
    by_cases hai:a=i
    ·rw[hai];exact hj
    ·exact fx a (by omega)
   ·have ho:Orb G i (Turn.at_ x i):=⟨x,hx,fx,rfl⟩
    have L:=hm i _ hin hj ho
    have lT:=hG.isT _ L.mem
    have:=ih (i+1) (by omega) (by omega) (mul x (inverse (m i (Turn.at_ x i)))) (hG.mul _ _ hx (hG.inv _ L.mem)) (dm xT lT hin fx L.fix L.at_)
    have h3:=this.step (g:=m i (Turn.at_ x i)) ((oK hG).mpr ⟨i,_,hin,ho,hj,rfl⟩)
    rw[aQ xT lT] at h3
    exact h3
 exact fun x hx=>key n 0 rfl (Nat.zero_le _) x hx fun a ha=>absurd ha (Nat.not_lt_zero a)
theorem Bj {n:Nat}(hn:n≤9){l:List Row}(hl:gz n l):k0 n (own n l)∧∀ z,aE n (own n l) z↔aE n l z:=by
 obtain ⟨T,F⟩:=hl.table hn
 have hm:∀ i j,i<n→j≠i→Orb (aE n l) i j→fF n (aE n l) i j (leastAt n (tableOf n l) i j):=fun i j hi _ ho=>gt T F hi ho
 have cm:=tM F.grp hm
 rw[rz hn hl hm]
 have hc:∀ g∈ld n (aE n l) (leastAt n (tableOf n l)),IsT n g:=fun g hg=>F.grp.isT g (cm.1 g hg)
 obtain ⟨h1,h2,_⟩:=kK hn _ [] (k0.nil n) hc
 refine ⟨h1,fun z=>?_⟩
 rw[h2,nil_append]
 exact ⟨fun h=>aE.least F.grp cm.1 h,cm.2 z⟩
theorem vx {n:Nat}(hn:n≤9){l l':List Row}(hl:gz n l)(hl':gz n l')(h:∀ z,aE n l z↔aE n l' z):own n l=own n l':=by
 obtain ⟨T,F⟩:=hl.table hn
 have e:aE n l=aE n l':=funext fun z=>propext (h z)
 have hm:∀ i j,i<n→j≠i→Orb (aE n l) i j→fF n (aE n l) i j (leastAt n (tableOf n l) i j):=fun i j hi _ ho=>gt T F hi ho
 rw[rz hn hl hm,rz hn hl' (m:=leastAt n (tableOf n l)) (by rw[←e];exact hm),e]
theorem rV {n:Nat}{x y g:Row}(hx:IsT n x)(hy:IsT n y)(hg:IsT n g):conjugate (mul x y) g=mul (conjugate x g) (conjugate y g):=by
 unfold conjugate
 rw[mul_assoc hg.inverse (hx.mul hg),mul_assoc hx hg,←mul_assoc hg hg.inverse,i8 hg,bc (hy.mul hg),mul_assoc hx hy]
theorem lI {n:Nat}{g:Row}(hg:IsT n g):conjugate (still n) g=still n:=by
 unfold conjugate
 rw[bc hg,mY hg]
theorem cO {n:Nat}{x g:Row}(hx:IsT n x)(hg:IsT n g):IsT n (conjugate x g):=hg.inverse.mul (hx.mul hg)
def Nrm (n:Nat)(sub by_:List Row)(x:Row):Prop:=∀ K:Row→Prop,Grp n K→(∀ s∈sub,K s)→(∀ z,K z→∀ y∈by_,K (conjugate z y))→K x
theorem og {n:Nat}{t:Turn.Table}{s b:List Row}(h:outside n t s b=none):∀ x∈s,∀ y∈b,Turn.has n t (conjugate x y)=true:=by
 intro x hx y hy
 unfold outside at h
 have:=find?_eq_none.mp h (conjugate x y) (mem_flatMap.mpr ⟨x,hx,mem_map.mpr ⟨y,hy,rfl⟩⟩)
 simpa using this
theorem oa {n:Nat}{t:Turn.Table}{s b:List Row}{z:Row}(h:outside n t s b=some z):(∃ x∈s,∃ y∈b,z=conjugate x y)∧Turn.has n t z=false:=by
 unfold outside at h
 have h1:=mem_of_find?_eq_some h
 have h2:=find?_some h
 obtain ⟨x,hx,h3⟩:=mem_flatMap.mp h1
 obtain ⟨y,hy,rfl⟩:=mem_map.mp h3
 exact ⟨⟨x,hx,y,hy,rfl⟩,by simpa using h2⟩
theorem gu {n:Nat}(hn:n≤9){b:List Row}(hb:∀ g∈b,IsT n g):∀ (f:Nat) (s:List Row),k0 n s→46≤f+s.length→
  k0 n (closure n b f s)∧(∀ z∈s,z∈closure n b f s)∧(∀ x∈closure n b f s,∀ y∈b,aE n (closure n b f s) (conjugate x y))∧
  ∀ K:Row→Prop,(∀ z∈s,K z)→(∀ z,K z→∀ y∈b,K (conjugate z y))→∀ z∈closure n b f s,K z
 | 0,s,hs,hf=>by have:=hs.good hn;omega
 | f+1,s,hs,hf=>by
  unfold closure
  cases e:outside n (tableOf n s) s b with
  | none=>
   refine ⟨hs,fun z hz=>hz,fun x hx y hy=>?_,fun K hK _=>hK⟩
   exact ((hs.toGood hn).has hn (cO (hs.isT x hx) (hb y hy))).mp (og e x hx y hy)
  | some z=>
   obtain ⟨⟨x,hx,y,hy,rfl⟩,h2⟩:=oa e
   have zT:=cO (hs.isT x hx) (hb y hy)
   have hm:¬aE n s (conjugate x y):=fun q=>by
    rw[((hs.toGood hn).has hn zT).mpr q] at h2
    cases h2
   obtain ⟨h3,h4,h5,h6⟩:=gu hn hb f (s++[conjugate x y]) (hs.snoc hn zT hm) (by rw[length_append,length_singleton];omega)
   refine ⟨h3,fun z hz=>h4 z (mem_append_left _ hz),h5,fun K hK hc=>h6 K (fun z hz=>?_) hc⟩
   rcases Ma hz with h|h
   ·exact hK z h
   ·rw[Ms h];exact hc x (hK x hx) y hy
theorem vU {n:Nat}(hn:n≤9){sub b:List Row}(hs:∀ g∈sub,IsT n g)(hb:∀ g∈b,IsT n g):
  k0 n (Turn.normal n sub b)∧∀ x,aE n (Turn.normal n sub b) x↔Nrm n sub b x:=by
 unfold Turn.normal
 obtain ⟨l1,l2,l3⟩:=kK hn sub [] (k0.nil n) hs
 obtain ⟨c1,c2,c3,c4⟩:=gu hn hb Turn.CHAIN (lean n sub []) l1 (by show 46≤60+_;omega)
 refine ⟨c1,fun x=>⟨fun hx K hK h1 h2=>?_,fun hx=>?_⟩⟩
 ·refine aE.least hK (c4 K (fun z hz=>?_) h2) hx
  rcases l3 z hz with h|h
  ·cases h
  ·exact h1 z h
 ·have g:=ci c1.isT
  refine hx _ g (fun s hs'=>?_) fun z hz y hy=>?_
  ·have h3:aE n (lean n sub []) s:=(l2 s).mpr (by rw[nil_append];exact aE.gen hs hs')
   exact h3.mono c2
  ·
   induction hz with
   | still=>rw[lI (hb y hy)];exact .still
   | step hz hm ih=>
    rw[rV (hz.isT c1.isT) (c1.isT _ hm) (hb y hy)]
    exact g.mul _ _ ih (c3 _ hm y hy)
theorem At {n:Nat}{A B:Row→Prop}{a b:Turn.Table}(Ta:dX n a)(Fa:bS n A (br n a))(Tb':dX n b)(Fb:bS n B (br n b)):
  (∀ x,x∈Turn.meet n a b↔A x∧B x)∧∀ x,aE n (Turn.meet n a b) x↔A x∧B x:=by
 have hA:=Fa.grp
 have mem:∀ x,x∈Turn.meet n a b↔A x∧B x:=by
  intro x
  unfold Turn.meet
  rw[mem_filter,mem_map]
  constructor
  ·rintro ⟨⟨k,hk,rfl⟩,h⟩
   rw[mem_range,cN Fa] at hk
   obtain ⟨g,h1,h2,_⟩:=rD Ta Fa (bu n) hk
   have gT:=hA.isT g h1
   rw[h2,aW gT] at h ⊢
   exact ⟨h1,(eG Tb' Fb gT).mp h⟩
  ·rintro ⟨h1,h2⟩
   have xT:=hA.isT x h1
   refine ⟨⟨pl n A x n 0,?_,kC Ta Fa h1⟩,(eG Tb' Fb xT).mpr h2⟩
   rw[mem_range,cN Fa]
   exact qg hA xT n 0 rfl
 refine ⟨mem,fun x=>⟨fun hx=>?_,fun hx=>?_⟩⟩
 ·have hAB:Grp n fun x=>A x∧B x:=⟨fun x h=>hA.isT x h.1,⟨hA.still,Fb.grp.still⟩,fun x y h1 h2=>⟨hA.mul _ _ h1.1 h2.1,Fb.grp.mul _ _ h1.2 h2.2⟩,fun x h=>⟨hA.inv _ h.1,Fb.grp.inv _ h.2⟩⟩
  exact aE.least hAB (fun g hg=>(mem g).mp hg) hx
 ·exact aE.gen (fun g hg=>hA.isT g ((mem g).mp hg).1) ((mem x).mpr hx)
end Tt
namespace Tt
open Turn (Row at_ mul inverse still isTurn spread joined together)
section
variable {α:Type} [BEq α] [LawfulBEq α]
theorem vX (met:List α):∀ (ys l:List α),l.Nodup→(∀ y∈l,y∉met)→
  let r:=ys.foldl (fun (l:List α) (y:α)=>if (met.contains y || l.contains y)=true then l else l++[y]) l
  r.Nodup∧(∀ y∈r,y∉met)∧(∀ y∈r,y∈l∨y∈ys)∧(∀ y∈l,y∈r)∧∀ y∈ys,y∈met∨y∈r
 | [],l,h1,h2=>⟨h1,h2,fun y hy=>.inl hy,fun y hy=>hy,fun y hy=>by cases hy⟩
 | z::ys,l,h1,h2=>by
  simp only[foldl_cons]
  by_cases h:(met.contains z || l.contains z)=true
  ·rw[if_pos h]
   obtain ⟨a,b,c,d,e⟩:=vX met ys l h1 h2
   refine ⟨a,b,fun y hy=>?_,d,fun y hy=>?_⟩
   ·rcases c y hy with q|q
    ·exact .inl q
    ·exact .inr (mem_cons_of_mem _ q)
   ·rcases Mc hy with rfl|q
    ·rw[Bool.or_eq_true,contains_iff_mem,contains_iff_mem] at h
     rcases h with h|h
     ·exact .inl h
     ·exact .inr (d y h)
    ·exact e y q
  ·rw[if_neg h]
   rw[Bool.or_eq_true,contains_iff_mem,contains_iff_mem,not_or] at h
   have n1:(l++[z]).Nodup:=by
    rw[nodup_append]
    exact ⟨h1,by simp,fun a ha b hb q=>by rw[Ms hb] at q;rw[q] at ha;exact h.2 ha⟩
   have n2:∀ y∈l++[z],y∉met:=fun y hy=>by
    rcases Ma hy with q|q
    ·exact h2 y q
    ·rw[Ms q];exact h.1
   obtain ⟨a,b,c,d,e⟩:=vX met ys (l++[z]) n1 n2
   refine ⟨a,b,fun y hy=>?_,fun y hy=>d y (mem_append_left _ hy),fun y hy=>?_⟩
   ·rcases c y hy with q|q
    ·rcases Ma q with q|q
     ·exact .inl q
     ·rw[Ms q];exact .inr (mem_cons_self ..)
    ·exact .inr (mem_cons_of_mem _ q)
   ·rcases Mc hy with rfl|q
    ·exact .inr (d y (mem_append_right _ (mem_singleton.mpr rfl)))
    ·exact e y q
theorem jX (next:α→List α):∀ (f:Nat) (q met:List α) (d:Nat),met.Nodup→(∀ x∈q,x∈met)→met.length=d+q.length→(∀ x∈met,x∈q∨∀ y∈next x,y∈met)→
  (spread next f q met).Nodup∧(∀ x∈met,x∈spread next f q met)∧(∀ P:α→Prop,(∀ x∈met,P x)→(∀ x,P x→∀ y∈next x,P y)→∀ x∈spread next f q met,P x)∧
  ((∀ x∈spread next f q met,∀ y∈next x,y∈spread next f q met)∨d+f≤(spread next f q met).length)
 | 0,q,met,d,h1,h2,h3,h4=>⟨h1,fun x hx=>hx,fun P hP _=>hP,.inr (by show d+0≤met.length;omega)⟩
 | f+1,[],met,d,h1,h2,h3,h4=>by
  refine ⟨h1,fun x hx=>hx,fun P hP _=>hP,.inl fun x hx=>?_⟩
  rcases h4 x hx with h|h
  ·cases h
  ·exact h
 | f+1,z::r,met,d,h1,h2,h3,h4=>by
  obtain ⟨a,b,c,_,e⟩:=vX met (next z) [] nodup_nil (fun y hy=>by cases hy)
  unfold spread
  simp only[]
  generalize (next z).foldl (fun (l:List α) (y:α)=>if (met.contains y || l.contains y)=true then l else l++[y]) []=new at a b c e
  have n1:(met++new).Nodup:=by
   rw[nodup_append]
   exact ⟨h1,a,fun x hx y hy q=>by rw[q] at hx;exact b y hy hx⟩
  obtain ⟨s1,s2,s3,s4⟩:=jX next f (r++new) (met++new) (d+1) n1
   (fun x hx=>by
    rcases Ma hx with q|q
    ·exact mem_append_left _ (h2 x (mem_cons_of_mem _ q))
    ·exact mem_append_right _ q)
   (by rw[length_append,length_append,h3,length_cons];omega)
   (fun x hx=>by
    rcases Ma hx with q|q
    ·rcases h4 x q with h|h
     ·rcases Mc h with rfl|h
      ·refine .inr fun y hy=>?_
       rcases e y hy with k|k
       ·exact mem_append_left _ k
       ·exact mem_append_right _ k
      ·exact .inl (mem_append_left _ h)
     ·exact .inr fun y hy=>mem_append_left _ (h y hy)
    ·exact .inl (mem_append_right _ q))
  refine ⟨s1,fun x hx=>s2 x (mem_append_left _ hx),fun P hP hc=>s3 P (fun x hx=>?_) hc,?_⟩
  ·rcases Ma hx with q|q
   ·exact hP x q
   ·rcases c x q with k|k
    ·cases k
    ·exact hc z (hP z (h2 z (mem_cons_self ..))) x k
  ·rcases s4 with s4|s4
   ·exact .inl s4
   ·exact .inr (by omega)
end
structure jA (n:Nat)(p:List Nat):Prop where
 len:p.length=n
 le:∀ i,i<n→at_ p i≤i
 idem:∀ i,i<n→at_ p (at_ p i)=at_ p i
theorem jA.lt {n:Nat}{p:List Nat}(h:jA n p){i:Nat}(hi:i<n):at_ p i<n:=Nat.lt_of_le_of_lt (h.le i hi) hi
theorem gR {n:Nat}{p q:List Nat}(hp:jA n p)(hq:jA n q)(h:∀ i j,i<n→j<n→(at_ p i=at_ p j↔at_ q i=at_ q j)):p=q:=by
 refine IsT.ext hp.len hq.len fun i hi=>?_
 have a:at_ q i≤at_ p i:=by
  have:=(h i (at_ p i) hi (hp.lt hi)).mp (hp.idem i hi).symm
  rw[this];exact hq.le _ (hp.lt hi)
 have b:at_ p i≤at_ q i:=by
  have:=(h i (at_ q i) hi (hq.lt hi)).mpr (hq.idem i hi).symm
  rw[this];exact hp.le _ (hq.lt hi)
 omega
theorem i6 (n:Nat):jA n (List.range n):=
 ⟨length_range,fun i hi=>Nat.le_of_eq (aJ hi),fun i hi=>by have:=aJ hi;unfold still at this;rw[this,this]⟩
theorem dt {n:Nat}{p:List Nat}(hp:p.length=n){a b i:Nat}(hi:i<n):
  at_ (joined p a b) i=if at_ p i=max (at_ p a) (at_ p b) then min (at_ p a) (at_ p b) else at_ p i:=by
 unfold joined
 rw[cU (by rw[length_map,hp];exact hi),getElem_map,←cU (hp.symm▸hi)]
 rfl
theorem gY {n:Nat}{p:List Nat}(hp:jA n p){a b:Nat}(ha:a<n)(hb:b<n):jA n (joined p a b):=by
 have ia:=hp.idem a ha
 have ib:=hp.idem b hb
 have la:=hp.lt ha
 have lb:=hp.lt hb
 have im:at_ p (min (at_ p a) (at_ p b))=min (at_ p a) (at_ p b):=by
  rcases Nat.le_total (at_ p a) (at_ p b) with h|h
  ·rw[Nat.min_eq_left h];exact ia
  ·rw[Nat.min_eq_right h];exact ib
 refine ⟨by unfold joined;rw[length_map,hp.len],fun i hi=>?_,fun i hi=>?_⟩
 ·rw[dt hp.len hi]
  have:=hp.le i hi
  split <;> omega
 ·rw[dt hp.len hi]
  by_cases h:at_ p i=max (at_ p a) (at_ p b)
  ·rw[if_pos h,dt hp.len (by omega),im]
   split <;> rfl
  ·rw[if_neg h,dt hp.len (hp.lt hi),hp.idem i hi,if_neg h]
theorem cf {n:Nat}{p:List Nat}(hp:jA n p){a b i j:Nat}(hi:i<n)(hj:j<n):
  at_ (joined p a b) i=at_ (joined p a b) j↔at_ p i=at_ p j∨(at_ p i=at_ p a∧at_ p j=at_ p b)∨(at_ p i=at_ p b∧at_ p j=at_ p a):=by
 rw[dt hp.len hi,dt hp.len hj]
 rcases Nat.le_total (at_ p a) (at_ p b) with h|h
 ·rw[Nat.max_eq_right h,Nat.min_eq_left h]
  split <;> split <;> omega
 ·rw[Nat.max_eq_left h,Nat.min_eq_right h]
  split <;> split <;> omega
theorem kW {α:Type}{p q:α→Bool}:∀ (l:List α),(∀ x∈l,q x=true→p x=true)→(∃ x∈l,p x=true∧q x=false)→l.countP q<l.countP p
 | [],_,h=>by obtain ⟨x,hx,_⟩:=h;cases hx
 | a::l,h,hx=>by
  have mono:l.countP q≤l.countP p:=countP_mono_left fun x hx hq=>h x (mem_cons_of_mem _ hx) hq
  rw[countP_cons,countP_cons]
  obtain ⟨x,hx,hp,hq⟩:=hx
  rcases Mc hx with rfl|hx
  ·rw[if_pos hp,hq]
   simp only[Bool.false_eq_true,if_false]
   omega
  ·have ih:=kW l (fun x hx=>h x (mem_cons_of_mem _ hx)) ⟨x,hx,hp,hq⟩
   have:=h a (mem_cons_self ..)
   by_cases hqa:q a=true
   ·rw[if_pos hqa,if_pos (this hqa)];omega
   ·rw[if_neg hqa];split <;> omega
def tX (n:Nat)(p:List Nat):Nat:=(List.range n).countP fun i=>decide (at_ p i=i)
theorem qd {n:Nat}{p:List Nat}(hp:jA n p){a b:Nat}(ha:a<n)(hb:b<n)(h:at_ p a≠at_ p b):tX n (joined p a b)<tX n p:=by
 have ia:=hp.idem a ha
 have ib:=hp.idem b hb
 have la:=hp.lt ha
 have lb:=hp.lt hb
 refine kW _ (fun i hi hq=>?_) ⟨max (at_ p a) (at_ p b),mem_range.mpr (by omega),?_,?_⟩
 ·have hi':=mem_range.mp hi
  have q:=of_decide_eq_true hq
  rw[dt hp.len hi'] at q
  refine decide_eq_true ?_
  have:=hp.le i hi'
  split at q
  ·omega
  ·exact q
 ·refine decide_eq_true ?_
  rcases Nat.le_total (at_ p a) (at_ p b) with h|h
  ·rw[Nat.max_eq_right h];exact ib
  ·rw[Nat.max_eq_left h];exact ia
 ·refine decide_eq_false ?_
  rw[dt hp.len (by omega)]
  have im:at_ p (max (at_ p a) (at_ p b))=max (at_ p a) (at_ p b):=by
   rcases Nat.le_total (at_ p a) (at_ p b) with h|h
   ·rw[Nat.max_eq_right h];exact ib
   ·rw[Nat.max_eq_left h];exact ia
  rw[if_pos im]
  omega
theorem qc (n:Nat)(p:List Nat):tX n p≤n:=by
 unfold tX
 have:=countP_le_length (p:=fun i=>decide (at_ p i=i)) (l:=List.range n)
 rwa [length_range] at this
def Ker (p:List Nat)(i j:Nat):Prop:=at_ p i=at_ p j
theorem gX (p:List Nat):Equivalence (Ker p):=⟨fun _=>rfl,fun h=>h.symm,fun h k=>h.trans k⟩
def Cg (n:Nat)(gens:List Row)(a b i j:Nat):Prop:=
 ∀ F:Nat→Nat→Prop,Equivalence F→F a b→(∀ i j,i<n→j<n→F i j→∀ g∈gens,F (at_ g i) (at_ g j))→F i j
theorem gF {n:Nat}{gens:List Row}(hg:∀ g∈gens,IsT n g){a b:Nat}:∀ (f:Nat) (ps:List (Nat×Nat)) (p:List Nat),jA n p→
  (∀ i j,i<n→j<n→Ker p i j→Cg n gens a b i j)→(∀ u v,(u,v)∈ps→u<n∧v<n∧Cg n gens a b u v)→
  (∀ F:Nat→Nat→Prop,Equivalence F→(∀ i j,i<n→j<n→Ker p i j→F i j)→(∀ u v,(u,v)∈ps→F u v)→F a b∧∀ i j,i<n→j<n→Ker p i j→∀ g∈gens,F (at_ g i) (at_ g j))→
  ps.length+gens.length*tX n p≤f→
  jA n (together gens f ps p)∧(∀ i j,i<n→j<n→Ker (together gens f ps p) i j→Cg n gens a b i j)∧
   (a<n→b<n→Ker (together gens f ps p) a b)∧∀ i j,i<n→j<n→Ker (together gens f ps p) i j→∀ g∈gens,Ker (together gens f ps p) (at_ g i) (at_ g j)
 | 0,ps,p,hp,h1,h2,h3,hf=>by
  have:ps=[]:=eq_nil_of_length_eq_zero (by omega)
  subst this
  have q:=h3 (Ker p) (gX p) (fun _ _ _ _ h=>h) (fun u v h=>by cases h)
  exact ⟨hp,h1,fun _ _=>q.1,q.2⟩
 | f+1,[],p,hp,h1,h2,h3,hf=>by
  have q:=h3 (Ker p) (gX p) (fun _ _ _ _ h=>h) (fun u v h=>by cases h)
  exact ⟨hp,h1,fun _ _=>q.1,q.2⟩
 | f+1,(u,v)::r,p,hp,h1,h2,h3,hf=>by
  obtain ⟨hu,hv,huv⟩:=h2 u v (mem_cons_self ..)
  rw[length_cons] at hf
  unfold together
  by_cases h:p.getD u 0=p.getD v 0
  ·rw[if_pos h]
   refine gF hg f r p hp h1 (fun x y hxy=>h2 x y (mem_cons_of_mem _ hxy)) (fun F hF k1 k2=>h3 F hF k1 fun x y hxy=>?_) (by omega)
   rcases Mc hxy with e|e
   ·cases e;exact k1 u v hu hv h
   ·exact k2 x y e
  ·rw[if_neg h]
   have hne:at_ p u≠at_ p v:=h
   have rj:=qd hp hu hv hne
   refine gF hg f _ (joined p u v) (gY hp hu hv) (fun i j hi hj hk=>?_) (fun x y hxy=>?_) (fun F hF k1 k2=>?_) ?_
   ·
    intro F hF hab hc
    have e1:∀ i j,i<n→j<n→Ker p i j→F i j:=fun i j hi hj hk=>h1 i j hi hj hk F hF hab hc
    have e2:=huv F hF hab hc
    rcases (cf hp hi hj).mp hk with q|⟨q1,q2⟩|⟨q1,q2⟩
    ·exact e1 i j hi hj q
    ·exact hF.trans (e1 i u hi hu q1) (hF.trans e2 (e1 v j hv hj q2.symm))
    ·exact hF.trans (e1 i v hi hv q1) (hF.trans (hF.symm e2) (e1 u j hu hj q2.symm))
   ·rcases Ma hxy with e|e
    ·exact h2 x y (mem_cons_of_mem _ e)
    ·obtain ⟨g,hgm,e⟩:=mem_map.mp e
     cases e
     exact ⟨(hg g hgm).lt u hu,(hg g hgm).lt v hv,fun F hF hab hc=>hc u v hu hv (huv F hF hab hc) g hgm⟩
   ·have up:∀ i j,i<n→j<n→Ker p i j→F i j:=fun i j hi hj hk=>k1 i j hi hj ((cf hp hi hj).mpr (.inl hk))
    have fuv:F u v:=k1 u v hu hv ((cf hp hu hv).mpr (.inr (.inl ⟨rfl,rfl⟩)))
    have q:=h3 F hF up (fun x y hxy=>by
     rcases Mc hxy with e|e
     ·cases e;exact fuv
     ·exact k2 x y (mem_append_left _ e))
    refine ⟨q.1,fun i j hi hj hk g hgm=>?_⟩
    have guv:F (at_ g u) (at_ g v):=k2 _ _ (mem_append_right _ (mem_map.mpr ⟨g,hgm,rfl⟩))
    rcases (cf hp hi hj).mp hk with e|⟨e1,e2⟩|⟨e1,e2⟩
    ·exact q.2 i j hi hj e g hgm
    ·exact hF.trans (q.2 i u hi hu e1 g hgm) (hF.trans guv (q.2 v j hv hj e2.symm g hgm))
    ·exact hF.trans (q.2 i v hi hv e1 g hgm) (hF.trans (hF.symm guv) (q.2 u j hu hj e2.symm g hgm))
   ·rw[length_append,length_map]
    have:gens.length*tX n (joined p u v)+gens.length≤gens.length*tX n p:=by
     rw[←Nat.mul_succ]
     exact Nat.mul_le_mul_left _ rj
    omega
theorem oP {n:Nat}{gens:List Row}(hg:∀ g∈gens,IsT n g){a b:Nat}(ha:a<n)(hb:b<n):
  jA n (Turn.blocks n gens a b)∧∀ i j,i<n→j<n→(at_ (Turn.blocks n gens a b) i=at_ (Turn.blocks n gens a b) j↔Cg n gens a b i j):=by
 unfold Turn.blocks
 have pr:=i6 n
 have kr:∀ i j,i<n→j<n→Ker (List.range n) i j→i=j:=fun i j hi hj h=>by
  have h:at_ (still n) i=at_ (still n) j:=h
  rw[aJ hi,aJ hj] at h
  exact h
 obtain ⟨h1,h2,h3,h4⟩:=gF hg (a:=a) (b:=b) (n*(gens.length+1)+1) [(a,b)] (List.range n) pr
  (fun i j hi hj hk=>by rw[kr i j hi hj hk];exact fun F hF _ _=>hF.refl j)
  (fun u v h=>by rw[mem_singleton] at h;cases h;exact ⟨ha,hb,fun F _ hab _=>hab⟩)
  (fun F hF _ k2=>⟨k2 a b (mem_singleton.mpr rfl),fun i j hi hj hk g _=>by rw[kr i j hi hj hk];exact hF.refl _⟩)
  (by
   have:=Nat.mul_le_mul_left gens.length (qc n (List.range n))
   rw[length_singleton,Nat.mul_add,Nat.mul_comm n gens.length]
   omega)
 refine ⟨h1,fun i j hi hj=>⟨h2 i j hi hj,fun hc=>?_⟩⟩
 exact hc _ (gX _) (h3 ha hb) h4
def To (n:Nat)(gens:List Row)(i j:Nat):Prop:=∃ x,aE n gens x∧at_ x i=j
theorem lU {n:Nat}{gens:List Row}{i:Nat}(hi:i<n):To n gens i i:=⟨still n,.still,aJ hi⟩
theorem o9 {n:Nat}{gens:List Row}(hg:∀ g∈gens,IsT n g){i j:Nat}(hi:i<n)(h:To n gens i j):To n gens j i:=by
 obtain ⟨x,hx,rfl⟩:=h
 exact ⟨inverse x,(ci hg).inv x hx,(hx.isT hg).inv_at hi⟩
theorem ij {n:Nat}{gens:List Row}(hg:∀ g∈gens,IsT n g){i j k:Nat}(hi:i<n)(h:To n gens i j)(h':To n gens j k):To n gens i k:=by
 obtain ⟨x,hx,rfl⟩:=h
 obtain ⟨y,hy,rfl⟩:=h'
 exact ⟨mul x y,hx.mul hg hy,(hx.isT hg).at_mul hi⟩
theorem xu {n:Nat}{gens:List Row}(hg:∀ g∈gens,IsT n g){i j:Nat}(hi:i<n)(h:To n gens i j):j<n:=by
 obtain ⟨x,hx,rfl⟩:=h
 exact (hx.isT hg).lt i hi
theorem yR {n:Nat}{gens:List Row}(hg:∀ g∈gens,IsT n g){g:Row}(h:g∈gens)(i:Nat):To n gens i (at_ g i):=⟨g,aE.gen hg h,rfl⟩
theorem kz {n:Nat}{gens:List Row}(hg:∀ g∈gens,IsT n g){i j:Nat}(hi:i<n):j∈Turn.orbit n gens i↔To n gens i j:=by
 unfold Turn.orbit
 simp only[]
 obtain ⟨s1,s2,s3,s4⟩:=jX (fun (j:Nat)=>gens.map fun (g:Row)=>at_ g j) (n+1) [i] [i] 0 (by simp) (fun x hx=>hx) rfl (fun x hx=>.inl hx)
 have hto:=s3 (To n gens i) (fun x hx=>by rw[Ms hx];exact lU hi) (fun x hx y hy=>by
  obtain ⟨g,hgm,rfl⟩:=mem_map.mp hy
  exact ij hg hi hx (yR hg hgm x))
 have hcl:∀ x∈spread (fun (j:Nat)=>gens.map fun (g:Row)=>at_ g j) (n+1) [i] [i],∀ y∈gens.map (fun (g:Row)=>at_ g x),y∈spread (fun (j:Nat)=>gens.map fun (g:Row)=>at_ g j) (n+1) [i] [i]:=by
  rcases s4 with s4|s4
  ·exact s4
  ·have:=s1.length_le_of_subset (l₂:=List.range n) fun x hx=>mem_range.mpr (xu hg hi (hto x hx))
   rw[length_range] at this
   omega
 rw[mem_filter,contains_iff_mem,mem_range]
 constructor
 ·exact fun h=>hto j h.2
 ·intro h
  refine ⟨xu hg hi h,?_⟩
  obtain ⟨x,hx,rfl⟩:=h
  induction hx with
  | still=>rw[aJ hi];exact s2 i (mem_singleton.mpr rfl)
  | step hx hm ih=>
   rw[(hx.isT hg).at_mul hi]
   exact hcl _ ih _ (mem_map.mpr ⟨_,hm,rfl⟩)
theorem lz {l:List Nat}(hs:l.Pairwise (· < ·)){d j:Nat}(hj:j∈l):l.headD d∈l∧l.headD d≤j:=by
 cases l with
 | nil=>cases hj
 | cons a l=>
  refine ⟨mem_cons_self ..,?_⟩
  show a≤j
  rcases Mc hj with rfl|h
  ·exact Nat.le_refl _
  ·exact Nat.le_of_lt ((pairwise_cons.mp hs).1 j h)
theorem dN {n:Nat}{gens:List Row}(hg:∀ g∈gens,IsT n g):
  jA n (Turn.leasts n gens)∧∀ i j,i<n→j<n→(at_ (Turn.leasts n gens) i=at_ (Turn.leasts n gens) j↔To n gens i j):=by
 have sorted:∀ i,(Turn.orbit n gens i).Pairwise (· < ·):=fun i=>pairwise_lt_range.filter _
 have at':∀ i,i<n→at_ (Turn.leasts n gens) i=(Turn.orbit n gens i).headD i:=fun i hi=>by
  unfold Turn.leasts
  rw[cU (by rw[length_map,length_range];exact hi),getElem_map,getElem_range]
 have hto:∀ i,i<n→To n gens i (at_ (Turn.leasts n gens) i):=fun i hi=>by
  rw[at' i hi]
  exact (kz hg hi).mp (lz (sorted i) ((kz hg hi).mpr (lU hi))).1
 have hle:∀ i j,i<n→To n gens i j→at_ (Turn.leasts n gens) i≤j:=fun i j hi h=>by
  rw[at' i hi]
  exact (lz (sorted i) ((kz hg hi).mpr h)).2
 have same:∀ i j,i<n→To n gens i j→at_ (Turn.leasts n gens) i=at_ (Turn.leasts n gens) j:=fun i j hi h=>by
  have hj:=xu hg hi h
  have a:=hle i _ hi (ij hg hi h (hto j hj))
  have b:=hle j _ hj (ij hg hj (o9 hg hi h) (hto i hi))
  omega
 refine ⟨⟨by unfold Turn.leasts;rw[length_map,length_range],fun i hi=>hle i i hi (lU hi),fun i hi=>(same i _ hi (hto i hi)).symm⟩,fun i j hi hj=>⟨fun h=>?_,same i j hi⟩⟩
 have a:=hto i hi
 rw[h] at a
 exact ij hg hi a (o9 hg hj (hto j hj))
end Tt
namespace Tt
open Turn (Row at_ mul inverse still isTurn spread conjugate powerOf)
theorem vf {n:Nat}{x:Row}(hx:IsT n x)(k:Nat):pw n x (k+1)=mul x (pw n x k):=by
 rw[Nat.add_comm,jo hx]
 show mul (mul (still n) x) _=_
 rw[bc hx]
theorem xF {n:Nat}{x:Row}(hx:IsT n x):∀ j,pw n (mul x x) j=pw n x (2*j)
 | 0=>rfl
 | j+1=>by
  show mul (pw n (mul x x) j) (mul x x)=pw n x (2*(j+1))
  rw[xF hx j,←mul_assoc (cg hx _) hx]
  rfl
theorem lr {n:Nat}:∀ (f:Nat) (x:Row) (k:Nat),IsT n x→k<2 ^ f→powerOf f x k=pw n x k
 | 0,x,k,hx,h=>by
  have:k=0:=by simp at h;omega
  subst this
  show still x.length=still n
  rw[hx.len]
 | f+1,x,k,hx,h=>by
  unfold powerOf
  by_cases h0:k=0
  ·rw[if_pos h0,h0,hx.len];rfl
  ·rw[if_neg h0]
   have ih:=lr f (mul x x) (k / 2) (hx.mul hx) (by rw[Nat.pow_succ] at h;omega)
   simp only[ih,xF hx]
   by_cases h1:k % 2=1
   ·rw[if_pos h1,←vf hx]
    congr 1;omega
   ·rw[if_neg h1]
    congr 1;omega
theorem rh {n:Nat}{x:Row}{k:Nat}(hx:IsT n x)(h:k<2 ^ 64):Turn.power x k=pw n x k:=lr 64 x k hx h
def Cls (gens:List Row)(x y:Row):Prop:=∀ P:Row→Prop,P x→(∀ z,P z→∀ g∈gens,P (conjugate z g))→P y
theorem oJ {n:Nat}(hn:0<n){gens:List Row}(hg:∀ g∈gens,IsT n g){x:Row}(hx:IsT n x):
  (∃ l:List Row,l.Nodup∧(∀ y,y∈l↔Cls gens x y)∧l.length≤1000∧Turn.classSize gens x=some l.length)∨
  (∃ l:List Row,l.Nodup∧(∀ y∈l,Cls gens x y)∧1000<l.length∧Turn.classSize gens x=none):=by
 unfold Turn.classSize
 simp only[]
 obtain ⟨s1,s2,s3,s4⟩:=jX (fun (y:Row)=>if y.isEmpty=true then [] else gens.map (conjugate y)) (Turn.FEW+1) [x] [x] 0 (by simp) (fun x hx=>hx) rfl (fun x hx=>.inl hx)
 generalize spread (fun (y:Row)=>if y.isEmpty=true then [] else gens.map (conjugate y)) (Turn.FEW+1) [x] [x]=l at s1 s2 s3 s4
 have hne:∀ y,IsT n y→¬(y.isEmpty=true):=fun y hy h=>by
  have:=hy.len
  rw[isEmpty_iff] at h
  rw[h] at this
  simp at this
  omega
 have hT:∀ y∈l,IsT n y:=s3 (IsT n) (fun y hy=>by rw[Ms hy];exact hx) (fun y hy z hz=>by
  rw[if_neg (hne y hy)] at hz
  obtain ⟨g,hgm,rfl⟩:=mem_map.mp hz
  exact cO hy (hg g hgm))
 have hC:∀ y∈l,Cls gens x y:=fun y hy P h1 h2=>s3 (fun y=>P y) (fun y hy=>by rw[Ms hy];exact h1) (fun z hz w hw=>by
  by_cases he:z.isEmpty=true
  ·rw[if_pos he] at hw;cases hw
  ·rw[if_neg he] at hw
   obtain ⟨g,hgm,rfl⟩:=mem_map.mp hw
   exact h2 z hz g hgm) y hy
 by_cases h:Turn.FEW<l.length
 ·rw[if_pos h]
  exact .inr ⟨l,s1,hC,h,rfl⟩
 ·rw[if_neg h]
  refine .inl ⟨l,s1,fun y=>⟨hC y,fun hy=>?_⟩,Nat.le_of_not_lt h,rfl⟩
  rcases s4 with s4|s4
  ·refine hy (·∈l) (s2 x (mem_singleton.mpr rfl)) fun z hz g hgm=>s4 z hz _ ?_
   rw[if_neg (hne z (hT z hz))]
   exact mem_map.mpr ⟨g,hgm,rfl⟩
  ·omega
end Tt
namespace Tt
open Turn (Row at_ mul inverse still isTurn)
theorem bW {α:Type}{l:List α}{i:Nat}{d r:α}(h:l[i]?=some r):l.getD i d=r:=by
 rw[getD_eq_getElem?_getD,h];rfl
theorem qK {α:Type}{l:List α}{i:Nat}{d:α}(h:l[i]?=none):l.getD i d=d:=by
 rw[getD_eq_getElem?_getD,h];rfl
abbrev Tab:=List (List (Option Row))
def tU (T:Tab):Tb:=fun i j=>(T.getD i []).getD j none
structure TOk (n:Nat)(T:Tab):Prop where
 len:T.length=n
 row:∀ (i:Nat) (r:List (Option Row)),T[i]?=some r→r.length=n
theorem ik {T:Tab}{i j:Nat}{r:List (Option Row)}(h:T[i]?=some r):tU T i j=r.getD j none:=by
 unfold tU;rw[bW h]
theorem zp {T:Tab}{i j:Nat}{e:Row}(h:tU T i j=some e):∃ r,T[i]?=some r∧r[j]?=some (some e):=by
 unfold tU at h
 cases hr:T[i]? with
 | none=>rw[qK hr] at h;cases h
 | some r=>
  rw[bW hr] at h
  refine ⟨r,rfl,?_⟩
  cases hc:r[j]? with
  | none=>rw[qK hc] at h;cases h
  | some c=>rw[bW hc] at h;rw[h]
theorem TOk.get {n:Nat}{T:Tab}(h:TOk n T){i:Nat}(hi:i<n):∃ r,T[i]?=some r∧r.length=n:=by
 refine ⟨_,getElem?_eq_getElem (h.len.symm▸hi),h.row i _ (getElem?_eq_getElem (h.len.symm▸hi))⟩
def md (T:Tab)(i j:Nat)(x:Row):Tab:=T.set i ((T.getD i []).set j (some x))
theorem zB {n:Nat}{T:Tab}(h:TOk n T)(i j:Nat)(x:Row):TOk n (md T i j x):=by
 refine ⟨by unfold md;rw[length_set,h.len],fun a r ha=>?_⟩
 unfold md at ha
 rw[getElem?_set] at ha
 split at ha
 ·split at ha
  ·rename_i h1 h2
   cases ha
   rw[length_set,getD_eq_getElem?_getD,getElem?_eq_getElem h2,Option.getD_some]
   exact h.row i _ (getElem?_eq_getElem h2)
  ·cases ha
 ·exact h.row a r ha
theorem A3 {n:Nat}{T:Tab}(h:TOk n T){i j:Nat}(hi:i<n)(hj:j<n)(x:Row):tU (md T i j x)=oZ (tU T) i j x:=by
 funext a b
 unfold tU md oZ
 obtain ⟨r,hr,hl⟩:=h.get hi
 have hi':i<T.length:=h.len.symm▸hi
 have hd:T.getD i []=r:=by rw[getD_eq_getElem?_getD,hr];rfl
 rw[hd]
 by_cases ha:a=i
 ·subst ha
  rw[bW (getElem?_set_self hi')]
  by_cases hb:b=j
  ·subst hb
   rw[if_pos ⟨rfl,rfl⟩,bW (getElem?_set_self (by omega))]
  ·rw[if_neg (fun q=>hb q.2)]
   show _=(T.getD a []).getD b none
   rw[getD_eq_getElem?_getD,getElem?_set_ne (fun q=>hb q.symm),hd,getD_eq_getElem?_getD]
 ·rw[if_neg (fun q=>ha q.1)]
  have:(T.set i (r.set j (some x))).getD a []=T.getD a []:=by
   rw[getD_eq_getElem?_getD,getElem?_set_ne (fun q=>ha q.symm),←getD_eq_getElem?_getD]
  rw[this]
def fE (U:Tb):Nat→Nat→Row→Row
 | 0,_,x=>x
 | f+1,i,x=>match U i (at_ x i) with
  | none=>x
  | some e=>fE U f (i+1) (mul x (inverse e))
theorem kI {U:Tb}:∀ (f i:Nat) (x:Row) (k:Nat) (r:Row),bU U f i x=some (k,r)→fE U f i x=r
 | 0,i,x,k,r,h=>by simp[bU] at h
 | f+1,i,x,k,r,h=>by
  unfold bU at h
  unfold fE
  cases e:U i (at_ x i) with
  | none=>rw[e] at h;cases h;rfl
  | some u=>rw[e] at h;exact kI f (i+1) _ k r h
theorem kJ {n:Nat}{G:Row→Prop}{U:Tb}(S:dY n G U)(hG:Grp n G):∀ (f i:Nat) (x:Row),f=n-i→i≤n→IsT n x→Fix x i→bU U f i x=none→fE U f i x=still n
 | 0,i,x,hf,hi,hx,fx,_=>by
  have:i=n:=by omega
  subst this
  exact Fix.all hx fx
 | f+1,i,x,hf,hi,hx,fx,h=>by
  have hin:i<n:=by omega
  unfold bU at h
  unfold fE
  cases e:U i (at_ x i) with
  | none=>rw[e] at h;cases h
  | some u=>
   rw[e] at h
   have ok:=S.ok _ _ _ e
   have hu:=S.isT hG e
   exact kJ S hG f (i+1) _ (by omega) (by omega) (hx.mul hu.inverse) (dm hx hu hin fx ok.2.2.1 ok.2.2.2) h
theorem mV {n:Nat}{G:Row→Prop}{U:Tb}(S:dY n G U)(hG:Grp n G):∀ (f i:Nat) (x:Row),IsT n x→IsT n (fE U f i x)
 | 0,i,x,hx=>hx
 | f+1,i,x,hx=>by
  unfold fE
  cases e:U i (at_ x i) with
  | none=>exact hx
  | some u=>exact mV S hG f (i+1) _ (hx.mul (S.isT hG e).inverse)
def nB (i:Nat)(r:List (Option Row)):List Row:=r.zipIdx.filterMap fun c=>if c.2=i then none else c.1
def gx (T:Tab):List Row:=T.zipIdx.flatMap fun c=>nB c.2 c.1
theorem jR {α:Type}(l:List α)(a:α):(l++[a]).zipIdx=l.zipIdx++[(a,l.length)]:=by
 rw[zipIdx_append];simp
theorem wa (i:Nat)(r:List (Option Row))(c:Option Row):nB i (r++[c])=nB i r++(if r.length=i then [] else c.toList):=by
 unfold nB
 rw[jR,filterMap_append]
 congr 1
 by_cases h:r.length=i
 ·simp[h]
 ·cases c <;> simp[h]
theorem wb (T:Tab)(r:List (Option Row)):gx (T++[r])=gx T++nB T.length r:=by
 unfold gx
 rw[jR,flatMap_append]
 simp
theorem rH {i:Nat}{r:List (Option Row)}{e:Row}:e∈nB i r↔∃ j,j≠i∧r[j]?=some (some e):=by
 unfold nB
 rw[mem_filterMap]
 constructor
 ·rintro ⟨⟨c,j⟩,hm,h⟩
  have hj:=mem_zipIdx_iff_getElem?.mp hm
  by_cases q:j=i
  ·simp[q] at h
  ·simp only[q,if_false] at h
   exact ⟨j,q,by rw[←h];exact hj⟩
 ·rintro ⟨j,q,h⟩
  exact ⟨(some e,j),mem_zipIdx_iff_getElem?.mpr h,by simp[q]⟩
theorem jL {T:Tab}{e:Row}:e∈gx T↔∃ i j,j≠i∧tU T i j=some e:=by
 unfold gx
 rw[mem_flatMap]
 constructor
 ·rintro ⟨⟨r,i⟩,hm,h⟩
  obtain ⟨j,q,hj⟩:=rH.mp h
  have hi:=mem_zipIdx_iff_getElem?.mp hm
  refine ⟨i,j,q,?_⟩
  rw[ik hi,bW hj]
 ·rintro ⟨i,j,q,h⟩
  obtain ⟨r,hr,hc⟩:=zp h
  exact ⟨(r,i),mem_zipIdx_iff_getElem?.mpr hr,rH.mpr ⟨j,q,hc⟩⟩
theorem rF {i:Nat}(r:List (Option Row)):(nB i r).length≤r.length:=by
 unfold nB
 have:=length_filterMap_le (fun (c:Option Row×Nat)=>if c.2=i then none else c.1) r.zipIdx
 rwa [length_zipIdx] at this
theorem rG {n:Nat}{T:Tab}(h:TOk n T):(gx T).length≤n*n:=by
 unfold gx
 rw[length_flatMap]
 have key:∀ (l:List (List (Option Row)×Nat)),(∀ c∈l,c.1.length=n)→(l.map fun c=>(nB c.2 c.1).length).sum≤l.length*n:=by
  intro l
  induction l with
  | nil=>intro _;simp
  | cons c l ih=>
   intro hc
   rw[map_cons,sum_cons,length_cons,Nat.succ_mul]
   have h1:=rF (i:=c.2) c.1
   have h2:=hc c (mem_cons_self ..)
   have h3:=ih fun d hd=>hc d (mem_cons_of_mem _ hd)
   omega
 have:=key T.zipIdx fun c hc=>h.row c.2 c.1 (mem_zipIdx_iff_getElem?.mp hc)
 rwa [length_zipIdx,h.len] at this
def empty (T:Tab):Nat:=(T.map fun r=>r.countP fun c=>c.isNone).sum
theorem jW {α:Type}(f:α→Nat):∀ (l:List α) (i:Nat) (a b:α),l[i]?=some a→((l.set i b).map f).sum+f a=(l.map f).sum+f b
 | [],i,a,b,h=>by simp at h
 | x::l,0,a,b,h=>by
  have:x=a:=by simpa using h
  subst this
  simp only[set_cons_zero,map_cons,sum_cons]
  omega
 | x::l,i+1,a,b,h=>by
  have ih:=jW f l i a b (by simpa using h)
  simp only[set_cons_succ,map_cons,sum_cons]
  omega
theorem wK {n:Nat}{T:Tab}(h:TOk n T){i j:Nat}(hi:i<n)(hj:j<n)(hc:tU T i j=none)(x:Row):empty (md T i j x)+1=empty T:=by
 obtain ⟨r,hr,hl⟩:=h.get hi
 have hd:T.getD i []=r:=by rw[getD_eq_getElem?_getD,hr];rfl
 have hj':j<r.length:=by omega
 have hn:r[j]=none:=by
  rw[ik hr,bW (getElem?_eq_getElem hj')] at hc
  exact hc
 unfold empty md
 rw[hd]
 have s:=jW (fun r:List (Option Row)=>r.countP fun c=>c.isNone) T i r (r.set j (some x)) hr
 have c:(r.set j (some x)).countP (fun c=>c.isNone)+1=r.countP (fun c=>c.isNone):=by
  rw[countP_set hj',hn]
  have:0<r.countP (fun c=>c.isNone):=countP_pos_iff.mpr ⟨r[j],getElem_mem hj',by rw[hn];rfl⟩
  simp
  omega
 omega
theorem yD {n:Nat}{T:Tab}(h:TOk n T):empty T≤n*n:=by
 unfold empty
 have key:∀ (l:List (List (Option Row))),(∀ r∈l,r.length=n)→(l.map fun r=>r.countP fun c=>c.isNone).sum≤l.length*n:=by
  intro l
  induction l with
  | nil=>intro _;simp
  | cons r l ih=>
   intro hr
   rw[map_cons,sum_cons,length_cons,Nat.succ_mul]
   have h1:=countP_le_length (p:=fun (c:Option Row)=>c.isNone) (l:=r)
   have h2:=hr r (mem_cons_self ..)
   have h3:=ih fun d hd=>hr d (mem_cons_of_mem _ hd)
   omega
 have:=key T fun r hr=>by
  obtain ⟨i,hi⟩:=getElem?_of_mem hr
  exact h.row i r hi
 rwa [h.len] at this
def aR (n:Nat):Tab:=(List.range n).map fun i=>(List.replicate n none).set i (some (still n))
theorem cq (n:Nat):TOk n (aR n):=by
 refine ⟨by unfold aR;rw[length_map,length_range],fun i r h=>?_⟩
 unfold aR at h
 rw[getElem?_map] at h
 obtain ⟨a,_,rfl⟩:=Oq h
 rw[length_set,length_replicate]
theorem lm {n i j:Nat}:tU (aR n) i j=if i=j∧i<n then some (still n) else none:=by
 unfold tU
 by_cases hi:i<n
 ·have e:(aR n)[i]?=some ((List.replicate n none).set i (some (still n))):=by
   unfold aR
   rw[getElem?_map,getElem?_range hi];rfl
  rw[bW e]
  by_cases hj:i=j
  ·subst hj
   rw[bW (getElem?_set_self (by rw[length_replicate];exact hi)),if_pos ⟨rfl,hi⟩]
  ·rw[if_neg (fun q=>hj q.1),getD_eq_getElem?_getD,getElem?_set_ne hj,getElem?_replicate]
   split <;> rfl
 ·have e:(aR n)[i]?=none:=getElem?_eq_none (by rw[(cq n).len];omega)
  rw[qK e,if_neg (fun q=>hi q.2)];rfl
theorem dw (n:Nat):bS n (aE n []) (tU (aR n)):=by
 have hG:Grp n (aE n []):=ci fun g hg=>by cases hg
 have S:dY n (aE n []) (tU (aR n)):=by
  refine ⟨fun i j e h=>?_,fun i hi=>by rw[lm,if_pos ⟨rfl,hi⟩]⟩
  rw[lm] at h
  split at h
  ·rename_i c
   cases h
   exact ⟨c.2,hG.still,Fix.still (by omega),by rw[aJ c.2];exact c.1⟩
  ·cases h
 refine ⟨hG,S,fun x hx=>?_⟩
 have:x=still n:=by
  cases hx with
  | still=>rfl
  | step _ h=>cases h
 rw[this]
 exact Hs.still S (Nat.zero_le _)
def g9 (r:List (Option Row)):List Nat:=(List.range r.length).filter fun j=>(r.getD j none).isSome
theorem dI {n:Nat}{G:Row→Prop}{T:Tab}(h:TOk n T)(F:bS n G (tU T)){i:Nat}{r:List (Option Row)}(hr:T[i]?=some r):g9 r=bR n G i:=by
 have hi:i<n:=by rw[←h.len];exact (Gq hr).1
 unfold g9 bR
 rw[h.row i r hr]
 refine filter_congr fun j _=>?_
 rw[Bool.eq_iff_iff]
 simp only[decide_eq_true_eq]
 rw[←F.orb hi,ik hr]
end Tt
namespace Tt
open Turn (Row at_ mul inverse still isTurn)
variable {n:Nat} {G:Row→Prop}
theorem nG (hG:Grp n G){y:Row}(hy:IsT n y){a:Nat}(ha:a<n):((bR n G a).map (at_ y)).Perm (cz n G y a):=by
 refine ((perm_ext_iff_of_nodup ?_ ?_).mpr fun v=>?_).symm
 ·exact (ck y a).imp fun h=>Nat.ne_of_lt h
 ·rw[List.Nodup,pairwise_map]
  refine List.Pairwise.imp_of_mem ?_ (dF n G a)
  intro u v hu hv huv e
  exact huv (hy.inj _ _ (aS.mp hu).1 (aS.mp hv).1 e)
 ·rw[eV hG hy ha,mem_map]
  constructor
  ·rintro ⟨j,hj,e⟩;exact ⟨j,(bx hG ha).mpr hj,e⟩
  ·rintro ⟨j,hj,e⟩;exact ⟨j,(bx hG ha).mp hj,e⟩
theorem jv:∀ {l:List Nat} {v:Nat},l.Pairwise (· < ·)→v∈l→l.idxOf v=(l.filter fun u=>decide (u<v)).length
 | [],v,_,h=>by cases h
 | a::l,v,hs,h=>by
  rw[pairwise_cons] at hs
  rw[idxOf_cons,filter_cons]
  by_cases e:a=v
  ·subst e
   have h1:(a==a)=true:=by simp
   have h2:l.filter (fun u=>decide (u<a))=[]:=by
    rw[filter_eq_nil_iff]
    intro u hu
    have:=hs.1 u hu
    simp;omega
   simp[h2]
  ·have h1:(a==v)=false:=by simp[e]
   have hv:v∈l:=by
    rcases Mc h with q|q
    ·exact absurd q.symm e
    ·exact q
   have h2:a<v:=hs.1 v hv
   have ih:=jv hs.2 hv
   simp[h1,h2,ih]
theorem we (hG:Grp n G){y:Row}(hy:IsT n y){a v:Nat}(ha:a<n)(hv:v∈cz n G y a):((bR n G a).filter fun j=>decide (at_ y j<v)).length=(cz n G y a).idxOf v:=by
 rw[jv (ck y a) hv]
 have p:=(nG hG hy ha).filter fun u=>decide (u<v)
 rw[←p.length_eq,filter_map,length_map]
 rfl
theorem AR (hG:Grp n G):∀ (k i:Nat),k=n-i→wt n G i≤n ^ k
 | 0,i,h=>by rw[lR (by omega)];exact Nat.le_refl _
 | k+1,i,h=>by
  have hi:i<n:=by omega
  rw[gD hi,Nat.pow_succ,Nat.mul_comm]
  refine Nat.mul_le_mul (AR hG k (i+1) (by omega)) ?_
  have:=di hG hi
  omega
theorem qS (hn:n≤9)(hG:Grp n G)(i:Nat):wt n G i<1073741824:=by
 have h:=AR hG (n-i) i rfl
 have h1:n ^ (n-i)≤9 ^ (n-i):=Nat.pow_le_pow_left hn _
 have h2:9 ^ (n-i)≤9 ^ 9:=Nat.pow_le_pow_right (by decide) (by omega)
 have h3:(9:Nat) ^ 9=387420489:=by decide
 omega
theorem Bb (hG:Grp n G):∀ (d i k:Nat),k<wt n G i→rs n G d i k<wt n G (i+d)
 | 0,i,k,h=>h
 | d+1,i,k,h=>by
  have:=Bb hG d (i+1) (k % wt n G (i+1)) (Nat.mod_lt _ (ig hG _ _ rfl))
  have e:i+(d+1)=i+1+d:=by omega
  rw[e]
  exact this
theorem uY:∀ (d i k:Nat),rs n G (d+1) i k=rs n G d i k % wt n G (i+d+1)
 | 0,i,k=>rfl
 | d+1,i,k=>by
  show rs n G (d+1) (i+1) (k % wt n G (i+1))=rs n G d (i+1) (k % wt n G (i+1)) % wt n G (i+(d+1)+1)
  rw[uY d (i+1)]
  congr 2
  omega
theorem vk (hG:Grp n G){y e:Row}(hy:IsT n y){i j d:Nat}(hi:i<n)(he:G e)(fe:Fix e i)(ej:at_ e i=j)(hd:(cz n G y i)[d]?=some (at_ y j))(dig:Nat→Nat)(hdi:dig i=d)
  (h:∀ a,a<i→(cz n G y a)[dig a]?=some (at_ y a)):∀ a,a<i+1→(cz n G (mul e y) a)[dig a]?=some (at_ (mul e y) a):=by
 intro a ha
 have eT:=hG.isT e he
 rw[eJ hG hy (by omega) he (fe.mono (by omega)),eT.at_mul (by omega)]
 by_cases hai:a=i
 ·subst hai
  rw[hdi,ej];exact hd
 ·rw[fe a (by omega)]
  exact h a (by omega)
theorem xc (hG:Grp n G){x y:Row}(hx:G x)(hy:G y){i:Nat}(hi:i≤n)(h:∀ a,a<i→at_ y a=at_ x a):Fix (mul x (inverse y)) i:=fun a ha=>by
 rw[(hG.isT x hx).at_mul (by omega),←h a ha,(hG.isT y hy).inv_at (by omega)]
theorem tT (hG:Grp n G){x y:Row}(hx:G x)(hy:G y){i:Nat}(hi:i<n)(h:∀ a,a<i→at_ y a=at_ x a):cz n G x i=cz n G y i∧∃ j,Orb G i j∧at_ y j=at_ x i:=by
 have xT:=hG.isT x hx
 have yT:=hG.isT y hy
 have e:mul (mul x (inverse y)) y=x:=aQ xT yT
 have g:=hG.mul _ _ hx (hG.inv _ hy)
 have fg:=xc hG hx hy (by omega) h
 have v:=eJ hG yT hi g fg
 rw[e] at v
 refine ⟨v,at_ (mul x (inverse y)) i,⟨_,g,fg,rfl⟩,?_⟩
 have gT:=hG.isT _ g
 rw[←gT.at_mul hi,e]
end Tt
namespace Tt
open Turn (Row at_ mul inverse still isTurn joined)
variable {n:Nat}
def aM (p:List Nat)(l:List (Nat×Nat)):List Nat:=l.foldl (fun p c=>joined p c.1 c.2) p
theorem ju (p:List Nat)(l:List (Nat×Nat))(c:Nat×Nat):aM p (l++[c])=joined (aM p l) c.1 c.2:=by
 unfold aM;rw[foldl_append];rfl
theorem jb:∀ (l:List (Nat×Nat)) (p:List Nat),jA n p→(∀ c∈l,c.1<n∧c.2<n)→
  jA n (aM p l)∧(∀ i j,i<n→j<n→Ker p i j→Ker (aM p l) i j)∧(∀ c∈l,Ker (aM p l) c.1 c.2)∧
  ∀ F:Nat→Nat→Prop,Equivalence F→(∀ i j,i<n→j<n→Ker p i j→F i j)→(∀ c∈l,F c.1 c.2)→∀ i j,i<n→j<n→Ker (aM p l) i j→F i j
 | [],p,hp,_=>⟨hp,fun i j _ _ h=>h,fun c hc=>(by cases hc),fun F _ h _=>h⟩
 | c::l,p,hp,hl=>by
  have hc:=hl c (mem_cons_self ..)
  have hj:=gY hp hc.1 hc.2
  obtain ⟨h1,h2,h3,h4⟩:=jb l (joined p c.1 c.2) hj fun d hd=>hl d (mem_cons_of_mem _ hd)
  have e:aM p (c::l)=aM (joined p c.1 c.2) l:=rfl
  rw[e]
  refine ⟨h1,fun i j hi hj' h=>h2 i j hi hj' ((cf hp hi hj').mpr (.inl h)),fun d hd=>?_,fun F hF k1 k2=>h4 F hF (fun i j hi hj' h=>?_) fun d hd=>k2 d (mem_cons_of_mem _ hd)⟩
  ·rcases Mc hd with rfl|hd
   ·exact h2 _ _ hc.1 hc.2 ((cf hp hc.1 hc.2).mpr (.inr (.inl ⟨rfl,rfl⟩)))
   ·exact h3 d hd
  ·have kc:=k2 c (mem_cons_self ..)
   rcases (cf hp hi hj').mp h with q|⟨q1,q2⟩|⟨q1,q2⟩
   ·exact k1 i j hi hj' q
   ·exact hF.trans (k1 i c.1 hi hc.1 q1) (hF.trans kc (k1 c.2 j hc.2 hj' q2.symm))
   ·exact hF.trans (k1 i c.2 hi hc.2 q1) (hF.trans (hF.symm kc) (k1 c.1 j hc.1 hj' q2.symm))
def iJ (n:Nat)(g:Row):List (Nat×Nat):=(List.range n).map fun i=>(i,at_ g i)
def bK (n:Nat)(p:List Nat)(g:Row):List (Nat×Nat):=(List.range n).map fun i=>(at_ g i,at_ g (at_ p i))
theorem dO {i j:Nat}(hi:i<n)(hj:j<n)(h:Ker (List.range n) i j):i=j:=by
 have h:at_ (still n) i=at_ (still n) j:=h
 rw[aJ hi,aJ hj] at h
 exact h
theorem vz {gens:List Row}(hg:∀ g∈gens,IsT n g):aM (List.range n) (gens.flatMap (iJ n))=Turn.leasts n gens:=by
 obtain ⟨q1,q2⟩:=dN hg
 have hl:∀ c∈gens.flatMap (iJ n),c.1<n∧c.2<n:=fun c hc=>by
  obtain ⟨g,hgm,h⟩:=mem_flatMap.mp hc
  obtain ⟨i,hi,rfl⟩:=mem_map.mp h
  exact ⟨mem_range.mp hi,(hg g hgm).lt i (mem_range.mp hi)⟩
 obtain ⟨h1,h2,h3,h4⟩:=jb (gens.flatMap (iJ n)) (List.range n) (i6 n) hl
 refine gR h1 q1 fun i j hi hj=>?_
 rw[q2 i j hi hj]
 constructor
 ·intro h
  let F:Nat→Nat→Prop:=fun a b=>a=b∨(a<n∧b<n∧To n gens a b)
  have hF:Equivalence F:=by
   refine ⟨fun a=>.inl rfl,fun {a b} h=>?_,fun {a b c} h k=>?_⟩
   ·rcases h with h|⟨h1,h2,h3⟩
    ·exact .inl h.symm
    ·exact .inr ⟨h2,h1,o9 hg h1 h3⟩
   ·rcases h with h|⟨h1,h2,h3⟩
    ·rw[h];exact k
    ·rcases k with k|⟨k1,k2,k3⟩
     ·rw[←k];exact .inr ⟨h1,h2,h3⟩
     ·exact .inr ⟨h1,k2,ij hg h1 h3 k3⟩
  have:=h4 F hF (fun i j hi hj h=>.inl (dO hi hj h)) (fun c hc=>by
   obtain ⟨g,hgm,h⟩:=mem_flatMap.mp hc
   obtain ⟨i,hi,rfl⟩:=mem_map.mp h
   have hi:=mem_range.mp hi
   exact .inr ⟨hi,(hg g hgm).lt i hi,yR hg hgm i⟩) i j hi hj h
  rcases this with e|⟨_,_,h⟩
  ·rw[e];exact lU hj
  ·exact h
 ·rintro ⟨x,hx,rfl⟩
  induction hx with
  | still=>rw[aJ hi]
  | step hx hm ih=>
   rename_i x g
   have xT:=hx.isT hg
   rw[xT.at_mul hi]
   have hxi:=xT.lt i hi
   have a:=ih hxi
   have b:Ker _ (at_ x i) (at_ g (at_ x i)):=h3 (at_ x i,at_ g (at_ x i)) (mem_flatMap.mpr ⟨g,hm,mem_map.mpr ⟨at_ x i,mem_range.mpr hxi,rfl⟩⟩)
   exact a.trans b
structure gB (n:Nat)(gens:List Row)(a b:Nat)(before p:List Nat):Prop where
 pb:jA n before
 pp:jA n p
 up:∀ i j,i<n→j<n→Ker before i j→Ker p i j
 cl:∀ i j,i<n→j<n→Ker before i j→∀ g∈gens,Ker p (at_ g i) (at_ g j)
 le:∀ i j,i<n→j<n→Ker p i j→Cg n gens a b i j
 ab:Ker p a b
theorem gB.start {gens:List Row}(hg:∀ g∈gens,IsT n g){a b:Nat}(ha:a<n)(hb:b<n):gB n gens a b (List.range n) (joined (List.range n) a b):=by
 have pr:=i6 n
 refine ⟨pr,gY pr ha hb,fun i j hi hj h=>(cf pr hi hj).mpr (.inl h),fun i j hi hj h g hgm=>?_,fun i j hi hj h=>?_,(cf pr ha hb).mpr (.inr (.inl ⟨rfl,rfl⟩))⟩
 ·rw[dO hi hj h];exact (gX _).refl _
 ·intro F hF hab hc
  rcases (cf pr hi hj).mp h with q|⟨q1,q2⟩|⟨q1,q2⟩
  ·rw[dO hi hj q];exact hF.refl _
  ·rw[dO hi ha q1,dO hj hb q2];exact hab
  ·rw[dO hi hb q1,dO hj ha q2];exact hF.symm hab
theorem gB.done {gens:List Row}(hg:∀ g∈gens,IsT n g){a b:Nat}(ha:a<n)(hb:b<n){p:List Nat}(I:gB n gens a b p p):p=Turn.blocks n gens a b:=by
 obtain ⟨q1,q2⟩:=oP hg ha hb
 refine gR I.pp q1 fun i j hi hj=>?_
 rw[q2 i j hi hj]
 exact ⟨I.le i j hi hj,fun h=>h _ (gX p) I.ab fun i j hi hj h g hgm=>I.cl i j hi hj h g hgm⟩
theorem zV {p q:List Nat}(hp:jA n p)(hq:jA n q)(h:∀ i j,i<n→j<n→Ker p i j→Ker q i j)(hne:q≠p):tX n q<tX n p:=by
 have sub:∀ i,i<n→at_ q i=i→at_ p i=i:=fun i hi hqi=>by
  have h1:=h i (at_ p i) hi (hp.lt hi) (hp.idem i hi).symm
  have h2:=hq.le (at_ p i) (hp.lt hi)
  have h3:=hp.le i hi
  have h1:at_ q i=at_ q (at_ p i):=h1
  omega
 refine kW _ (fun i hi hqi=>?_) ?_
 ·exact decide_eq_true (sub i (mem_range.mp hi) (of_decide_eq_true hqi))
 ·apply Classical.byContradiction
  intro hn
  apply hne
  refine gR hq hp fun i j hi hj=>⟨fun hk=>?_,h i j hi hj⟩
  have all:∀ i,i<n→at_ p i=i→at_ q i=i:=fun i hi hpi=>by
   apply Classical.byContradiction
   intro hqi
   exact hn ⟨i,mem_range.mpr hi,decide_eq_true hpi,decide_eq_false hqi⟩
  have key:∀ i,i<n→at_ q i=at_ p i:=fun i hi=>by
   have h1:at_ q i=at_ q (at_ p i):=h i (at_ p i) hi (hp.lt hi) (hp.idem i hi).symm
   rw[h1]
   exact all (at_ p i) (hp.lt hi) (hp.idem i hi)
  rw[←key i hi,←key j hj];exact hk
def cC (n:Nat)(p:List Nat)(gens:List Row):List Nat:=gens.foldl (fun p g=>aM p (bK n p g)) p
theorem nq (p:List Nat)(gens:List Row)(g:Row):cC n p (gens++[g])=aM (cC n p gens) (bK n (cC n p gens) g):=by
 unfold cC;rw[foldl_append];rfl
theorem yK {p:List Nat}(hp:jA n p){g:Row}(hg:IsT n g):jA n (aM p (bK n p g))∧(∀ i j,i<n→j<n→Ker p i j→Ker (aM p (bK n p g)) i j)∧
  (∀ i j,i<n→j<n→Ker p i j→Ker (aM p (bK n p g)) (at_ g i) (at_ g j))∧
  ∀ F:Nat→Nat→Prop,Equivalence F→(∀ i j,i<n→j<n→Ker p i j→F i j)→(∀ i j,i<n→j<n→F i j→F (at_ g i) (at_ g j))→∀ i j,i<n→j<n→Ker (aM p (bK n p g)) i j→F i j:=by
 have hl:∀ c∈bK n p g,c.1<n∧c.2<n:=fun c hc=>by
  obtain ⟨i,hi,rfl⟩:=mem_map.mp hc
  have hi:=mem_range.mp hi
  exact ⟨hg.lt i hi,hg.lt _ (hp.lt hi)⟩
 obtain ⟨h1,h2,h3,h4⟩:=jb (bK n p g) p hp hl
 refine ⟨h1,h2,fun i j hi hj h=>?_,fun F hF k1 k2=>h4 F hF k1 fun c hc=>?_⟩
 ·have a:=h3 (at_ g i,at_ g (at_ p i)) (mem_map.mpr ⟨i,mem_range.mpr hi,rfl⟩)
  have b:=h3 (at_ g j,at_ g (at_ p j)) (mem_map.mpr ⟨j,mem_range.mpr hj,rfl⟩)
  have h:at_ p i=at_ p j:=h
  rw[h] at a
  exact (gX _).trans a ((gX _).symm b)
 ·obtain ⟨i,hi,rfl⟩:=mem_map.mp hc
  have hi:=mem_range.mp hi
  exact k2 _ _ hi (hp.lt hi) (k1 _ _ hi (hp.lt hi) (hp.idem i hi).symm)
theorem hZ:∀ (gens:List Row) {p:List Nat},jA n p→(∀ g∈gens,IsT n g)→jA n (cC n p gens)∧(∀ i j,i<n→j<n→Ker p i j→Ker (cC n p gens) i j)∧
  (∀ i j,i<n→j<n→Ker p i j→∀ g∈gens,Ker (cC n p gens) (at_ g i) (at_ g j))∧
  ∀ F:Nat→Nat→Prop,Equivalence F→(∀ i j,i<n→j<n→Ker p i j→F i j)→(∀ i j,i<n→j<n→F i j→∀ g∈gens,F (at_ g i) (at_ g j))→∀ i j,i<n→j<n→Ker (cC n p gens) i j→F i j
 | [],p,hp,_=>⟨hp,fun i j _ _ h=>h,fun i j _ _ _ g hg=>(by cases hg),fun F _ h _=>h⟩
 | g::gens,p,hp,hg=>by
  obtain ⟨a1,a2,a3,a4⟩:=yK hp (hg g (mem_cons_self ..))
  obtain ⟨b1,b2,b3,b4⟩:=hZ gens a1 fun d hd=>hg d (mem_cons_of_mem _ hd)
  have e:cC n p (g::gens)=cC n (aM p (bK n p g)) gens:=rfl
  rw[e]
  refine ⟨b1,fun i j hi hj h=>b2 i j hi hj (a2 i j hi hj h),fun i j hi hj h d hd=>?_,fun F hF k1 k2=>b4 F hF (a4 F hF k1 fun i j hi hj h=>k2 i j hi hj h g (mem_cons_self ..)) fun i j hi hj h d hd=>k2 i j hi hj h d (mem_cons_of_mem _ hd)⟩
  rcases Mc hd with rfl|hd
  ·have dT:=hg d (mem_cons_self ..)
   exact b2 _ _ (dT.lt i hi) (dT.lt j hj) (a3 i j hi hj h)
  ·exact b3 i j hi hj (a2 i j hi hj h) d hd
theorem gB.next {gens:List Row}(hg:∀ g∈gens,IsT n g){a b:Nat}(ha:a<n)(hb:b<n){before p:List Nat}(I:gB n gens a b before p):gB n gens a b p (cC n p gens):=by
 obtain ⟨b1,b2,b3,b4⟩:=hZ gens I.pp hg
 exact ⟨I.pp,b1,b2,b3,fun i j hi hj h F hF hab hc=>b4 F hF (fun i j hi hj h=>I.le i j hi hj h F hF hab hc) hc i j hi hj h,b2 a b ha hb I.ab⟩
end Tt
namespace Tt
open Turn (Row at_ mul inverse still isTurn cycleFrom cycleOf)
variable {n:Nat}
theorem Bg {x:Row}(hx:IsT n x)(k:Nat){a:Nat}(ha:a<n):at_ (pw n x (k+1)) a=at_ x (at_ (pw n x k) a):=(cg hx k).at_mul ha
theorem mI {x:Row}{a:Nat}(ha:a<n):at_ (pw n x 0) a=a:=aJ ha
theorem jx {x:Row}(hx:IsT n x){a:Nat}(ha:a<n):∀ (f m:Nat),
  (∃ l,1≤l∧l≤f∧cycleFrom x a f (at_ (pw n x m) a)=(List.range l).map (fun k=>at_ (pw n x (m+k)) a)∧at_ (pw n x (m+l)) a=a∧∀ k,0<k→k<l→at_ (pw n x (m+k)) a≠a)∨
  (cycleFrom x a f (at_ (pw n x m) a)=(List.range f).map (fun k=>at_ (pw n x (m+k)) a)∧∀ k,0<k→k≤f→at_ (pw n x (m+k)) a≠a)
 | 0,m=>.inr ⟨rfl,fun k h1 h2=>by omega⟩
 | f+1,m=>by
  have e:cycleFrom x a (f+1) (at_ (pw n x m) a)=at_ (pw n x m) a::(if at_ x (at_ (pw n x m) a)=a then [] else cycleFrom x a f (at_ x (at_ (pw n x m) a))):=rfl
  rw[e,←Bg hx m ha]
  by_cases h:at_ (pw n x (m+1)) a=a
  ·rw[if_pos h]
   refine .inl ⟨1,Nat.le_refl _,by omega,?_,h,fun k h1 h2=>by omega⟩
   rfl
  ·rw[if_neg h]
   have sh:∀ (l:Nat),at_ (pw n x m) a::(List.range l).map (fun k=>at_ (pw n x (m+1+k)) a)=(List.range (l+1)).map (fun k=>at_ (pw n x (m+k)) a):=by
    intro l
    rw[range_succ_eq_map,map_cons,map_map]
    congr 1
    refine map_congr_left fun k _=>?_
    show at_ (pw n x (m+1+k)) a=at_ (pw n x (m+(k+1))) a
    congr 2;omega
   rcases jx hx ha f (m+1) with ⟨l,h1,h2,h3,h4,h5⟩|⟨h3,h5⟩
   ·refine .inl ⟨l+1,by omega,by omega,by rw[h3,sh],by rw[←h4];congr 2;omega,fun k k1 k2=>?_⟩
    by_cases hk:k=1
    ·rw[hk];exact h
    ·have:=h5 (k-1) (by omega) (by omega)
     have e:m+1+(k-1)=m+k:=by omega
     rwa [e] at this
   ·refine .inr ⟨by rw[h3,sh],fun k k1 k2=>?_⟩
    by_cases hk:k=1
    ·rw[hk];exact h
    ·have:=h5 (k-1) (by omega) (by omega)
     have e:m+1+(k-1)=m+k:=by omega
     rwa [e] at this
theorem sI {x:Row}(hx:IsT n x){a:Nat}(ha:a<n):∃ k,0<k∧k≤n∧at_ (pw n x k) a=a:=by
 apply Classical.byContradiction
 intro hno
 have hne:∀ k,0<k→k≤n→at_ (pw n x k) a≠a:=fun k h1 h2 h3=>hno ⟨k,h1,h2,h3⟩
 have nd:((List.range (n+1)).map fun k=>at_ (pw n x k) a).Nodup:=by
  rw[List.Nodup,pairwise_map]
  refine List.Pairwise.imp_of_mem ?_ (pairwise_lt_range (n:=n+1))
  intro i j hi hj hij e
  have hj:=mem_range.mp hj
  obtain ⟨d,rfl⟩:∃ d,j=d+i:=⟨j-i,by omega⟩
  rw[jo hx,(cg hx d).at_mul ha] at e
  have:=(cg hx i).inj _ _ ha ((cg hx d).lt a ha) e
  exact hne d (by omega) (by omega) this.symm
 have:=nd.length_le_of_subset (l₂:=List.range n) fun v hv=>by
  obtain ⟨k,_,rfl⟩:=mem_map.mp hv
  exact mem_range.mpr ((cg hx k).lt a ha)
 rw[length_map,length_range,length_range] at this
 omega
theorem cW {x:Row}(hx:IsT n x){a:Nat}(ha:a<n):∃ p,1≤p∧p≤n∧cycleOf x a=(List.range p).map (fun k=>at_ (pw n x k) a)∧at_ (pw n x p) a=a∧∀ k,0<k→k<p→at_ (pw n x k) a≠a:=by
 have h:=jx hx ha n 0
 rw[mI ha] at h
 unfold cycleOf
 rw[hx.len]
 rcases h with ⟨l,h1,h2,h3,h4,h5⟩|⟨_,h5⟩
 ·simp only[Nat.zero_add] at h3 h4 h5
  exact ⟨l,h1,h2,h3,h4,h5⟩
 ·obtain ⟨k,k1,k2,k3⟩:=sI hx ha
  exact absurd (by rw[Nat.zero_add];exact k3) (h5 k k1 k2)
theorem qD {x:Row}(hx:IsT n x){y:Row}:aE n [x] y↔∃ k,y=pw n x k:=by
 constructor
 ·intro h
  induction h with
  | still=>exact ⟨0,rfl⟩
  | step _ hm ih=>
   obtain ⟨k,rfl⟩:=ih
   rw[Ms hm]
   exact ⟨k+1,rfl⟩
 ·rintro ⟨k,rfl⟩
  induction k with
  | zero=>exact .still
  | succ k ih=>exact .step ih (mem_singleton.mpr rfl)
theorem rg {x:Row}(hx:IsT n x){a p:Nat}(ha:a<n)(hp:at_ (pw n x p) a=a):∀ q r,at_ (pw n x (p*q+r)) a=at_ (pw n x r) a
 | 0,r=>by rw[Nat.mul_zero,Nat.zero_add]
 | q+1,r=>by
  have e:p*(q+1)+r=p+(p*q+r):=by rw[Nat.mul_add];omega
  rw[e,jo hx,(cg hx p).at_mul ha,hp,rg hx ha hp q r]
theorem kE {x:Row}(hx:IsT n x){a j:Nat}(ha:a<n):j∈cycleOf x a↔To n [x] a j:=by
 obtain ⟨p,h1,h2,h3,h4,h5⟩:=cW hx ha
 rw[h3,mem_map]
 constructor
 ·rintro ⟨k,_,rfl⟩
  exact ⟨pw n x k,(qD hx).mpr ⟨k,rfl⟩,rfl⟩
 ·rintro ⟨y,hy,rfl⟩
  obtain ⟨k,rfl⟩:=(qD hx).mp hy
  refine ⟨k % p,mem_range.mpr (Nat.mod_lt _ (by omega)),?_⟩
  have:=rg hx ha h4 (k / p) (k % p)
  rw[Nat.div_add_mod] at this
  exact this.symm
theorem oG {x:Row}(hx:IsT n x){a:Nat}(ha:a<n)(d:Nat):(cycleOf x a).headD d=a:=by
 obtain ⟨p,h1,h2,h3,h4,h5⟩:=cW hx ha
 rw[h3]
 cases p with
 | zero=>omega
 | succ p=>rw[range_succ_eq_map,map_cons];exact mI ha
theorem qm {x:Row}(hx:IsT n x):∀ g∈[x],IsT n g:=fun g hg=>by rw[Ms hg];exact hx
theorem wk {x:Row}(hx:IsT n x){a:Nat}(ha:a<n):((cycleOf x a).all fun i=>decide ((cycleOf x a).headD 0≤i))=true↔at_ (Turn.leasts n [x]) a=a:=by
 obtain ⟨q1,q2⟩:=dN (qm hx)
 rw[all_eq_true,oG hx ha]
 constructor
 ·intro h
  have h1:To n [x] a (at_ (Turn.leasts n [x]) a):=(q2 a _ ha (q1.lt ha)).mp (q1.idem a ha).symm
  have h2:=of_decide_eq_true (h _ ((kE hx ha).mpr h1))
  have h3:=q1.le a ha
  omega
 ·intro h i hi
  have ht:=(kE hx ha).mp hi
  have hin:=xu (qm hx) ha ht
  have e:=(q2 a i ha hin).mpr ht
  refine decide_eq_true ?_
  have:=q1.le i hin
  omega
theorem iM {x:Row}(hx:IsT n x):Turn.cycles x=((List.range n).filter fun i=>decide (at_ (Turn.leasts n [x]) i=i)).map (cycleOf x):=by
 unfold Turn.cycles
 rw[filter_map,hx.len]
 congr 1
 refine filter_congr fun i hi=>?_
 have hi:=mem_range.mp hi
 rw[Bool.eq_iff_iff,decide_eq_true_iff]
 exact wk hx hi
theorem lH {x:Row}(hx:IsT n x):(Turn.cycles x).length=tX n (Turn.leasts n [x]):=by
 rw[iM hx,length_map]
 unfold tX
 rw[countP_eq_length_filter]
end Tt
namespace Tt
open PyFlat (row rows call calls told played)
theorem cs {P:List Int→List (List Int)→Prop}(h0:P [] [])(h1:∀ u,P [] [u])(h2:∀ u v,P [] [u,v])(h3:∀ u v w t,P [] (u::v::w::t))(a0:∀ a,P [a] [])(a1:∀ a u,P [a] [u])(a2:∀ a u v t,P [a] (u::v::t))(b0:∀ a b,P [a,b] [])(b1:∀ a b u t,P [a,b] (u::t))(c0:∀ a b c,P [a,b,c] [])(c1:∀ a b c u t,P [a,b,c] (u::t))(d0:∀ a b c d r t,P (a::b::c::d::r) t):∀ r t,P r t
 | [],[]=>h0
 | [],[u]=>h1 u
 | [],[u,v]=>h2 u v
 | [],u::v::w::t=>h3 u v w t
 | [a],[]=>a0 a
 | [a],[u]=>a1 a u
 | [a],u::v::t=>a2 a u v t
 | [a,b],[]=>b0 a b
 | [a,b],u::t=>b1 a b u t
 | [a,b,c],[]=>c0 a b c
 | [a,b,c],u::t=>c1 a b c u t
 | a::b::c::d::r,t=>d0 a b c d r t
theorem xo (c:List (List Int)):PyWrperm.whole c=c:=by
 rcases c with _|⟨_|⟨p,r⟩,t⟩
 ·rfl
 ·rfl
 ·rcases p with k|k
  ·iterate 24 (rcases k with _|k;(refine cs (P:=fun r t=>PyWrperm.whole ((_::r)::t)=(_::r)::t) ?_ ?_ ?_ ?_ ?_ ?_ ?_ ?_ ?_ ?_ ?_ ?_ r t <;> intros <;> rfl))
   rfl
  ·rfl
def L1 (rows:List (List Int))(b:Bool):Prop:=b=true→∀ x∈rows,TuNeutral.long x 16 0 255=true
theorem lN {p:Int}{ns:List Int}{rows:List (List Int)}:L1 rows (TuNeutral.asked1 ((p::ns)::rows)):=by
 have f:∀ rows,L1 rows false:=fun _ h=>nomatch h
 have n:∀ b,L1 [] b:=fun _ _ x hx=>nomatch hx
 have o:∀ x,L1 [x] (TuNeutral.long x 16 0 255):=fun x h y hy=>by rw[Ms hy];exact h
 have b:∀ x b,L1 [x] (b&&TuNeutral.long x 16 0 255):=fun x b h=>o x (Bool.and_eq_true_iff.mp h).2
 have d:∀ x y,L1 [x,y] (TuNeutral.long x 16 0 255&&TuNeutral.long y 16 0 255):=fun x y h z hz=>by
  rcases Mc hz with q|q
  ·rw[q];exact (Bool.and_eq_true_iff.mp h).1
  ·exact o y (Bool.and_eq_true_iff.mp h).2 z q
 rcases p with k|k
 ·iterate 24 (rcases k with _|k;(refine cs (P:=fun r t=>L1 t (TuNeutral.asked1 ((_::r)::t))) ?_ ?_ ?_ ?_ ?_ ?_ ?_ ?_ ?_ ?_ ?_ ?_ ns rows <;> intros <;> first|exact n _|exact f _|exact b _ _|exact o _|exact d _ _))
  exact f _
 ·exact f _
theorem rZ (l:List Int):PyWrperm.calls l=calls PyWrperm.shape l.length l:=by
 unfold PyWrperm.calls
 cases calls PyWrperm.shape l.length l with
 | none=>rfl
 | some cs=>
  show some (cs.map PyWrperm.whole)=some cs
  congr 1
  conv=>rhs;rw[←map_id cs]
  exact map_congr_left fun c _=>xo c
theorem tN {shape:Int→Option (Nat×Nat)}{f:Nat}{l:List Int}{cs:List (List (List Int))}(h:calls shape f l=some cs)(hl:l≠[]):
  ∃ (p:Int) (r:List Int) (n k f':Nat) (xs:List (List Int)) (t:List Int) (cs':List (List (List Int))),l=p::r∧shape p=some (n,k)∧n≤r.length∧rows k (r.drop n)=some (xs,t)∧cs=((p::r.take n)::xs)::cs'∧calls shape f' t=some cs':=by
 cases l with
 | nil=>exact absurd rfl hl
 | cons p r=>
  cases f with
  | zero=>simp[calls] at h
  | succ f=>
   unfold calls at h
   cases hc:call shape (p::r) with
   | none=>rw[hc] at h;cases h
   | some ct=>
    obtain ⟨c,t⟩:=ct
    rw[hc] at h
    simp only[] at h
    cases hr:calls shape f t with
    | none=>rw[hr] at h;cases h
    | some cs'=>
     rw[hr] at h
     have h:=(Oi h).symm
     unfold call at hc
     simp only[] at hc
     cases hs:shape p with
     | none=>rw[hs] at hc;cases hc
     | some nk=>
      obtain ⟨n,k⟩:=nk
      rw[hs] at hc
      simp only[] at hc
      by_cases hn:r.length<n
      ·rw[if_pos hn] at hc;cases hc
      ·rw[if_neg hn] at hc
       cases hx:rows k (r.drop n) with
       | none=>rw[hx] at hc;cases hc
       | some xt=>
        obtain ⟨xs,t'⟩:=xt
        rw[hx] at hc
        have hc:=Oi hc
        cases hc
        exact ⟨p,r,n,k,f,xs,t,cs',rfl,hs,by omega,hx,h,hr⟩
theorem wV {shape:Int→Option (Nat×Nat)}{f:Nat}{cs:List (List (List Int))}(h:calls shape f []=some cs):cs=[]:=by
 cases f with
 | zero=>simp[calls] at h;exact h
 | succ f=>simp[calls] at h;exact h
theorem va {k:Nat}{l:List Int}{xs:List (List Int)}{t:List Int}(h:rows (k+1) l=some (xs,t)):
  ∃ (m:Nat) (r x:List Int) (xs':List (List Int)),l=(m:Int)::r∧m≤r.length∧x=r.take m∧xs=x::xs'∧rows k (r.drop m)=some (xs',t):=by
 unfold rows at h
 cases l with
 | nil=>simp[row] at h
 | cons a r=>
  unfold row at h
  simp only[] at h
  by_cases ha:0≤a∧a.toNat≤r.length
  ·rw[if_pos ha] at h
   simp only[] at h
   cases hx:rows k (r.drop a.toNat) with
   | none=>rw[hx] at h;cases h
   | some xt=>
    obtain ⟨xs',t'⟩:=xt
    rw[hx] at h
    have h:=Oi h
    cases h
    exact ⟨a.toNat,r,_,xs',by rw[Int.toNat_of_nonneg ha.1],ha.2,rfl,rfl,hx⟩
  ·rw[if_neg ha] at h;cases h
theorem uZ {l:List Int}{xs:List (List Int)}{t:List Int}(h:rows 0 l=some (xs,t)):xs=[]∧t=l:=by
 unfold rows at h
 have h:=Oi h
 cases h
 exact ⟨rfl,rfl⟩
theorem uj (a:List Int)(l:List (List Int)):told (a::l)=(a.length:Int)::a++told l:=by
 unfold told;rw[flatMap_cons]
end Tt
namespace Tt
open Turn (Row at_ mul inverse still isTurn conjugate lean own)
variable {n:Nat} {G:Row→Prop}
structure LB (n:Nat)(G:Row→Prop)(b i:Nat)(x y:Row):Prop where
 ex:∃ g,G g∧Fix g b∧y=mul g x
 low:∀ a,b≤a→a<i→(cz n G y a)[0]?=some (at_ y a)
theorem yA:∀ {l:List Nat} {u:Nat},l.Pairwise (· < ·)→u∈l→(∀ v∈l,u≤v)→l[0]?=some u
 | [],u,_,h,_=>by cases h
 | a::l,u,hp,hu,hm=>by
  rw[pairwise_cons] at hp
  have h1:=hm a (mem_cons_self ..)
  rcases Mc hu with h|h
  ·rw[h];rfl
  ·have:=hp.1 u h
   omega
theorem LB.start (hG:Grp n G){b:Nat}(hb:b≤n){x:Row}(hx:IsT n x):LB n G b b x x:=
 ⟨⟨still n,hG.still,Fix.still hb,(bc hx).symm⟩,fun a h1 h2=>by omega⟩
theorem LB.isT (hG:Grp n G){b i:Nat}{x y:Row}(hx:IsT n x)(h:LB n G b i x y):IsT n y:=by
 obtain ⟨g,h1,_,rfl⟩:=h.ex
 exact (hG.isT g h1).mul hx
theorem LB.next (hG:Grp n G){b i j:Nat}{x y e:Row}(hx:IsT n x)(h:LB n G b i x y)(hb:b≤i)(hi:i<n)(he:G e)(fe:Fix e i)(ej:at_ e i=j)(hj:j∈bR n G i)(hm:∀ k∈bR n G i,at_ y j≤at_ y k):LB n G b (i+1) x (mul e y):=by
 have yT:=h.isT hG hx
 have eT:=hG.isT e he
 obtain ⟨g,h1,h2,rfl⟩:=h.ex
 refine ⟨⟨mul e g,hG.mul _ _ he h1,Fix.mul eT (by omega) (fe.mono hb) h2,(mul_assoc eT (hG.isT g h1)).symm⟩,fun a h3 h4=>?_⟩
 rw[eJ hG yT (by omega) he (fe.mono (by omega)),eT.at_mul (by omega)]
 by_cases hai:a=i
 ·subst hai
  rw[ej]
  refine yA (ck _ _) ((eV hG yT hi).mpr ⟨j,(aS.mp hj).2,rfl⟩) fun v hv=>?_
  obtain ⟨k,hk,rfl⟩:=(eV hG yT hi).mp hv
  exact hm k ((bx hG hi).mpr hk)
 ·rw[fe a (by omega)]
  exact h.low a h3 (by omega)
theorem yJ {t:Turn.Table}(T:dX n t)(F:bS n G (br n t)){x y:Row}(hx:IsT n x)(h:LB n G 0 n x y):Turn.nth n t 0 x=y:=by
 have hG:=F.grp
 have yT:=h.isT hG hx
 obtain ⟨g,h1,_,rfl⟩:=h.ex
 obtain ⟨k,k1,k2,k3⟩:=rD T F hx (ig hG n 0 rfl)
 have gT:=hG.isT g h1
 have kT:=hG.isT k k1
 rw[k2]
 have e:mul (mul k (inverse g)) (mul g x)=mul k x:=by
  rw[←mul_assoc (kT.mul gT.inverse) gT,aQ kT gT]
 have:=fk hG (y:=mul g x) (g:=mul k (inverse g)) yT (hG.mul _ _ k1 (hG.inv _ h1)) (b:=0) (fun a ha=>absurd ha (Nat.not_lt_zero a)) (fun _=>0) (fun a _ ha=>h.low a (Nat.zero_le _) ha) (fun a _ ha=>by
  rw[e]
  have:=k3 a ha
  rw[qb,Nat.zero_div] at this
  exact this)
 rw[e] at this
 exact this
theorem LB.least (hG:Grp n G){i j:Nat}{e y:Row}(hi:i<n)(he:G e)(fe:Fix e i)(ej:at_ e i=j)(h:LB n G (i+1) n e y):fF n G i j y:=by
 obtain ⟨g,h1,h2,rfl⟩:=h.ex
 have gT:=hG.isT g h1
 exact ⟨hG.mul _ _ h1 he,Fix.mul gT (by omega) (h2.mono (by omega)) fe,by rw[gT.at_mul hi,h2 i (by omega),ej],fun a h3 h4=>h.low a (by omega) h4⟩
def dc (n:Nat)(m:Nat→Nat→Row)(i:Nat)(s:List Row)(j:Nat):List Row:=if at_ (Turn.leasts n s) j=at_ (Turn.leasts n s) i then s else s++[m i j]
def dM (n:Nat)(m:Nat→Nat→Row)(i:Nat)(js:List Nat)(s:List Row):List Row:=js.foldl (dc n m i) s
structure lQ (n:Nat)(G:Row→Prop)(i:Nat)(s:List Row):Prop where
 lean:k0 n s
 mem:∀ z∈s,G z∧Fix z i
 all:∀ x,G x→Fix x (i+1)→aE n s x
theorem oo (hG:Grp n G){i j:Nat}(hi:i<n){s:List Row}(I:lQ n G i s){y:Row}(L:fF n G i j y):aE n s y↔at_ (Turn.leasts n s) j=at_ (Turn.leasts n s) i:=by
 have hj:j<n:=by rw[←L.at_];exact (hG.isT y L.mem).lt i hi
 rw[eq_comm,(dN I.lean.isT).2 i j hi hj]
 constructor
 ·intro h;exact ⟨y,h,L.at_⟩
 ·rintro ⟨z,hz,hzj⟩
  have yT:=hG.isT y L.mem
  have zT:=hz.isT I.lean.isT
  have zz:=aE.least (hG.fix (by omega:i≤n)) I.mem hz
  have h1:aE n s (mul y (inverse z)):=I.all _ (hG.mul _ _ L.mem (hG.inv _ zz.1)) (dm yT zT hi L.fix zz.2 (hzj.trans L.at_.symm))
  have h2:=aE.mul I.lean.isT h1 hz
  rwa [aQ yT zT] at h2
theorem gW (n:Nat):∀ (a b s:List Row),lean n (a++b) s=lean n b (lean n a s)
 | [],b,s=>rfl
 | x::a,b,s=>by
  have e:∀ (r s:List Row),lean n (x::r) s=if Turn.has n (Turn.tableOf n s) x=true then lean n r s else lean n r (s++[x]):=fun r s=>by rw[lean]
  rw[cons_append,e,e]
  split
  ·exact gW n a b s
  ·exact gW n a b _
theorem eU (hn:n≤9)(hG:Grp n G){m:Nat→Nat→Row}(hm:∀ i j,i<n→j≠i→Orb G i j→fF n G i j (m i j)){i:Nat}(hi:i<n):∀ (js:List Nat) (s:List Row),lQ n G i s→(∀ j∈js,Orb G i j)→
  dM n m i js s=lean n ((js.filter fun j=>j != i).map (m i)) s∧lQ n G i (dM n m i js s)
 | [],s,I,_=>⟨rfl,I⟩
 | j::js,s,I,hj=>by
  have ho:=hj j (mem_cons_self ..)
  have hj':∀ k∈js,Orb G i k:=fun k hk=>hj k (mem_cons_of_mem _ hk)
  have e:dM n m i (j::js) s=dM n m i js (dc n m i s j):=rfl
  rw[e]
  by_cases hji:j=i
  ·have e2:dc n m i s j=s:=by unfold dc;rw[hji,if_pos rfl]
   rw[e2,filter_cons,if_neg (by simpa using hji)]
   exact eU hn hG hm hi js s I hj'
  ·have L:=hm i j hi hji ho
   have yT:=hG.isT _ L.mem
   have hh:=(I.lean.toGood hn).has hn yT
   have mi:=oo hG hi I L
   rw[filter_cons,if_pos (by simpa using hji),map_cons]
   by_cases hM:aE n s (m i j)
   ·have e2:dc n m i s j=s:=by unfold dc;rw[if_pos (mi.mp hM)]
    have e3:lean n (m i j::(js.filter fun j=>j != i).map (m i)) s=lean n ((js.filter fun j=>j != i).map (m i)) s:=by
     conv=>lhs;unfold lean
     rw[if_pos (hh.mpr hM)]
    rw[e2,e3]
    exact eU hn hG hm hi js s I hj'
   ·have e2:dc n m i s j=s++[m i j]:=by unfold dc;rw[if_neg fun q=>hM (mi.mpr q)]
    have e3:lean n (m i j::(js.filter fun j=>j != i).map (m i)) s=lean n ((js.filter fun j=>j != i).map (m i)) (s++[m i j]):=by
     conv=>lhs;unfold lean
     rw[if_neg fun q=>hM (hh.mp q)]
    rw[e2,e3]
    refine eU hn hG hm hi js _ ⟨I.lean.snoc hn yT hM,fun z hz=>?_,fun x hx fx=>(I.all x hx fx).mono fun g hg=>mem_append_left _ hg⟩ hj'
    rcases Ma hz with h|h
    ·exact I.mem z h
    ·rw[Ms h];exact ⟨L.mem,L.fix⟩
theorem qi (hn:n≤9)(hG:Grp n G){m:Nat→Nat→Row}(hm:∀ i j,i<n→j≠i→Orb G i j→fF n G i j (m i j)){i:Nat}(hi:i<n){s:List Row}(I:lQ n G i s):
  (∀ x,G x→Fix x i→aE n (dM n m i (bR n G i) s) x):=by
 obtain ⟨e,J⟩:=eU hn hG hm hi (bR n G i) s I fun j hj=>(aS.mp hj).2
 intro x hx fx
 have xT:=hG.isT x hx
 by_cases hj:at_ x i=i
 ·refine J.all x hx fun a ha=>?_
  by_cases hai:a=i
  ·rw[hai];exact hj
  ·exact fx a (by omega)
 ·have ho:Orb G i (at_ x i):=⟨x,hx,fx,rfl⟩
  have L:=hm i _ hi hj ho
  have lT:=hG.isT _ L.mem
  have hc:∀ g∈((bR n G i).filter fun j=>j != i).map (m i),IsT n g:=fun g hg=>by
   obtain ⟨j,hj,rfl⟩:=mem_map.mp hg
   have h1:=(mem_filter.mp hj).1
   have h2:j≠i:=by simpa using (mem_filter.mp hj).2
   exact hG.isT _ (hm i j hi h2 (aS.mp h1).2).mem
  have mm:aE n (dM n m i (bR n G i) s) (m i (at_ x i)):=by
   rw[e,(kK hn _ s I.lean hc).2.1]
   refine aE.gen (fun g hg=>?_) (mem_append_right _ (mem_map.mpr ⟨_,mem_filter.mpr ⟨(bx hG hi).mpr ho,by simpa using hj⟩,rfl⟩))
   rcases Ma hg with h|h
   ·exact I.lean.isT g h
   ·exact hc g h
  have h1:=J.all _ (hG.mul _ _ hx (hG.inv _ L.mem)) (dm xT lT hi fx L.fix L.at_)
  have h2:=aE.mul J.lean.isT h1 mm
  rwa [aQ xT lT] at h2
noncomputable def fD (n:Nat)(G:Row→Prop)(m:Nat→Nat→Row):Nat→List Row
 | 0=>[]
 | k+1=>dM n m (n-1-k) (bR n G (n-1-k)) (fD n G m k)
noncomputable def oN (n:Nat)(G:Row→Prop)(m:Nat→Nat→Row):Nat→List Row
 | 0=>[]
 | k+1=>oN n G m k++((bR n G (n-1-k)).filter fun j=>j != n-1-k).map (m (n-1-k))
theorem oM (m:Nat→Nat→Row):∀ k,k≤n→oN n G m k=((List.range n).reverse.take k).flatMap fun i=>((bR n G i).filter fun j=>j != i).map (m i)
 | 0,_=>by rw[take_zero];rfl
 | k+1,hk=>by
  have h:(List.range n).reverse[k]?=some (n-1-k):=by
   rw[getElem?_reverse (by rw[length_range];omega),length_range,getElem?_range (by omega)]
  rw[take_add_one,h,flatMap_append,←oM m k (by omega)]
  simp[oN]
theorem mN (hn:n≤9)(hG:Grp n G){m:Nat→Nat→Row}(hm:∀ i j,i<n→j≠i→Orb G i j→fF n G i j (m i j)):∀ k,k≤n→
  fD n G m k=lean n (oN n G m k) []∧k0 n (fD n G m k)∧(∀ z∈fD n G m k,G z∧Fix z (n-k))∧∀ x,G x→Fix x (n-k)→aE n (fD n G m k) x
 | 0,_=>by
  refine ⟨rfl,k0.nil n,fun z hz=>(by cases hz),fun x hx fx=>?_⟩
  have:=Fix.all (hG.isT x hx) fx
  rw[this];exact .still
 | k+1,hk=>by
  obtain ⟨h1,h2,h3,h4⟩:=mN hn hG hm k (by omega)
  have hi:n-1-k<n:=by omega
  have e:n-1-k+1=n-k:=by omega
  have e':n-(k+1)=n-1-k:=by omega
  have I:lQ n G (n-1-k) (fD n G m k):=⟨h2,fun z hz=>⟨(h3 z hz).1,(h3 z hz).2.mono (by omega)⟩,fun x hx fx=>h4 x hx (by rw[←e];exact fx)⟩
  obtain ⟨r1,r2⟩:=eU hn hG hm hi (bR n G (n-1-k)) _ I fun j hj=>(aS.mp hj).2
  have r3:=qi hn hG hm hi I
  refine ⟨?_,r2.lean,fun z hz=>by rw[e'];exact r2.mem z hz,fun x hx fx=>r3 x hx (by rw[←e'];exact fx)⟩
  show dM n m (n-1-k) (bR n G (n-1-k)) (fD n G m k)=lean n (oN n G m k++_) []
  rw[gW,←h1]
  exact r1
theorem vy (hn:n≤9){l:List Row}(hl:gz n l){m:Nat→Nat→Row}(hm:∀ i j,i<n→j≠i→Orb (aE n l) i j→fF n (aE n l) i j (m i j)):fD n (aE n l) m n=own n l:=by
 rw[rz hn hl hm,(mN hn (ci hl.isT) hm n (Nat.le_refl _)).1,oM m n (Nat.le_refl _),take_of_length_le (by rw[length_reverse,length_range];exact Nat.le_refl _)]
 rfl
structure jg (n:Nat)(x:Row)(k:Nat)(made doubled:Row)(nA:Nat):Prop where
 m:IsT n made
 d:IsT n doubled
 eq:mul made (pw n doubled nA)=pw n x k
theorem jg.start {x:Row}(hx:IsT n x)(k:Nat):jg n x k (still n) x k:=⟨bu n,hx,bc (cg hx k)⟩
theorem jg.odd {x:Row}{k:Nat}{a b:Row}{r:Nat}(I:jg n x k a b r)(h:r % 2=1):jg n x k (mul a b) (mul b b) (r / 2):=by
 refine ⟨I.m.mul I.d,I.d.mul I.d,?_⟩
 have e:r=2*(r / 2)+1:=by omega
 rw[xF I.d,mul_assoc I.m I.d,←vf I.d,←e]
 exact I.eq
theorem jg.even {x:Row}{k:Nat}{a b:Row}{r:Nat}(I:jg n x k a b r)(h:r % 2≠1):jg n x k a (mul b b) (r / 2):=by
 refine ⟨I.m,I.d.mul I.d,?_⟩
 have e:r=2*(r / 2):=by omega
 rw[xF I.d,←e]
 exact I.eq
theorem jg.done {x:Row}{k:Nat}{a b:Row}(hx:IsT n x)(hk:k<2 ^ 64)(I:jg n x k a b 0):a=Turn.power x k:=by
 rw[rh hx hk,←I.eq]
 exact (aW I.m).symm
theorem yP {x y:Row}(hx:IsT n x)(hy:IsT n y):mul (mul (inverse y) x) y=conjugate x y:=mul_assoc hy.inverse hx
structure Clo (n:Nat)(first given s pend:List Row):Prop where
 lean:k0 n s
 pT:∀ z∈pend,IsT n z
 sN:∀ z∈s,Nrm n first given z
 pN:∀ z∈pend,Nrm n first given z
 fi:∀ z∈first,aE n s z∨z∈pend
 co:∀ z∈s,∀ y∈given,aE n s (conjugate z y)∨conjugate z y∈pend
theorem Nrm.of {first given:List Row}{z:Row}(h:z∈first):Nrm n first given z:=fun K _ h1 _=>h1 z h
theorem Nrm.conj {first given:List Row}{z y:Row}(h:Nrm n first given z)(hy:y∈given):Nrm n first given (conjugate z y):=fun K h1 h2 h3=>h3 z (h K h1 h2 h3) y hy
theorem Clo.start {first given:List Row}(hf:∀ z∈first,IsT n z):Clo n first given [] first:=
 ⟨k0.nil n,hf,fun z hz=>(by cases hz),fun z hz=>Nrm.of hz,fun z hz=>.inr hz,fun z hz=>(by cases hz)⟩
theorem Clo.drop {first given s p:List Row}{x:Row}(C:Clo n first given s (p++[x]))(h:aE n s x):Clo n first given s p:=by
 have key:∀ z,aE n s z∨z∈p++[x]→aE n s z∨z∈p:=fun z hz=>by
  rcases hz with q|q
  ·exact .inl q
  ·rcases Ma q with q|q
   ·exact .inr q
   ·rw[Ms q];exact .inl h
 exact ⟨C.lean,fun z hz=>C.pT z (mem_append_left _ hz),C.sN,fun z hz=>C.pN z (mem_append_left _ hz),fun z hz=>key z (C.fi z hz),fun z hz y hy=>key _ (C.co z hz y hy)⟩
theorem Clo.put (hn:n≤9){first given s p:List Row}{x:Row}(hg:∀ y∈given,IsT n y)(C:Clo n first given s (p++[x]))(h:¬aE n s x):Clo n first given (s++[x]) (p++given.map (conjugate x)):=by
 have xm:x∈p++[x]:=mem_append_right _ (mem_singleton.mpr rfl)
 have xT:=C.pT x xm
 have xN:=C.pN x xm
 have L:=C.lean.snoc hn xT h
 have up:∀ z,aE n s z→aE n (s++[x]) z:=fun z hz=>hz.mono fun g hg=>mem_append_left _ hg
 have key:∀ z,aE n s z∨z∈p++[x]→aE n (s++[x]) z∨z∈p++given.map (conjugate x):=fun z hz=>by
  rcases hz with q|q
  ·exact .inl (up z q)
  ·rcases Ma q with q|q
   ·exact .inr (mem_append_left _ q)
   ·rw[Ms q]
    exact .inl (aE.gen L.isT (mem_append_right _ (mem_singleton.mpr rfl)))
 refine ⟨L,fun z hz=>?_,fun z hz=>?_,fun z hz=>?_,fun z hz=>key z (C.fi z hz),fun z hz y hy=>?_⟩
 ·rcases Ma hz with q|q
  ·exact C.pT z (mem_append_left _ q)
  ·obtain ⟨y,hy,rfl⟩:=mem_map.mp q
   exact cO xT (hg y hy)
 ·rcases Ma hz with q|q
  ·exact C.sN z q
  ·rw[Ms q];exact xN
 ·rcases Ma hz with q|q
  ·exact C.pN z (mem_append_left _ q)
  ·obtain ⟨y,hy,rfl⟩:=mem_map.mp q
   exact xN.conj hy
 ·rcases Ma hz with q|q
  ·exact key _ (C.co z q y hy)
  ·rw[Ms q]
   exact .inr (mem_append_right _ (mem_map.mpr ⟨y,hy,rfl⟩))
theorem Clo.done {first given s:List Row}(hg:∀ y∈given,IsT n y)(C:Clo n first given s []):∀ x,aE n s x↔Nrm n first given x:=by
 have g:=ci C.lean.isT
 refine fun x=>⟨fun hx K hK h1 h2=>aE.least hK (fun z hz=>C.sN z hz K hK h1 h2) hx,fun hx=>hx _ g (fun z hz=>?_) fun z hz y hy=>?_⟩
 ·rcases C.fi z hz with q|q
  ·exact q
  ·cases q
 ·induction hz with
  | still=>rw[lI (hg y hy)];exact .still
  | step hz hm ih=>
   rw[rV (hz.isT C.lean.isT) (C.lean.isT _ hm) (hg y hy)]
   refine g.mul _ _ ih ?_
   rcases C.co _ hm y hy with q|q
   ·exact q
   ·cases q
theorem Clo.own (hn:n≤9){first given s:List Row}(hf:∀ z∈first,IsT n z)(hg:∀ y∈given,IsT n y)(C:Clo n first given s []):(∀ z,aE n s z↔aE n (Turn.normal n first given) z)∧gz n (Turn.normal n first given):=by
 obtain ⟨h1,h2⟩:=vU hn hf hg
 exact ⟨fun z=>by rw[C.done hg,h2],h1.toGood hn⟩
structure gC (n:Nat)(G:Row→Prop)(i:Nat)(made:List Row):Prop where
 mem:∀ z∈made,G z
 all:∀ x,G x→∃ z∈made,Fix (mul x (inverse z)) i
theorem gC.start (hG:Grp n G):gC n G 0 [still n]:=
 ⟨fun z hz=>(by rw[Ms hz];exact hG.still),fun x hx=>⟨still n,mem_singleton.mpr rfl,fun a ha=>absurd ha (Nat.not_lt_zero a)⟩⟩
theorem gC.next (hG:Grp n G){i:Nat}(hi:i<n){made made':List Row}(I:gC n G i made){e:Nat→Row}(he:∀ j∈bR n G i,G (e j)∧Fix (e j) i∧at_ (e j) i=j)
  (h:∀ z,z∈made'↔∃ j∈bR n G i,∃ y∈made,z=mul (e j) y):gC n G (i+1) made':=by
 refine ⟨fun z hz=>?_,fun x hx=>?_⟩
 ·obtain ⟨j,hj,y,hy,rfl⟩:=(h z).mp hz
  exact hG.mul _ _ (he j hj).1 (I.mem y hy)
 ·obtain ⟨z,hz,fz⟩:=I.all x hx
  have zG:=I.mem z hz
  have zT:=hG.isT z zG
  have xT:=hG.isT x hx
  have yG:=hG.mul _ _ hx (hG.inv _ zG)
  have ho:Orb G i (at_ (mul x (inverse z)) i):=⟨_,yG,fz,rfl⟩
  have hj:=(bx hG hi).mpr ho
  obtain ⟨e1,e2,e3⟩:=he _ hj
  have eT:=hG.isT _ e1
  refine ⟨_,(h _).mpr ⟨_,hj,z,hz,rfl⟩,?_⟩
  rw[qH eT zT,←mul_assoc xT zT.inverse]
  exact dm (xT.mul zT.inverse) eT hi fz e2 e3
theorem gC.done (hG:Grp n G){made:List Row}(I:gC n G n made):∀ x,x∈made↔G x:=by
 refine fun x=>⟨I.mem x,fun hx=>?_⟩
 obtain ⟨z,hz,fz⟩:=I.all x hx
 have zT:=hG.isT z (I.mem z hz)
 have xT:=hG.isT x hx
 have e:=Fix.all (xT.mul zT.inverse) fz
 have:x=z:=by rw[←aQ xT zT,e,bc zT]
 rw[this];exact hz
theorem iH {α:Type} [BEq α] [LawfulBEq α]:∀ {l m:List α},l.Nodup→(∀ x∈l,x∈m)→l.length≤m.length
 | [],m,_,_=>Nat.zero_le _
 | a::l,m,hl,h=>by
  rw[nodup_cons] at hl
  have ha:=h a (mem_cons_self ..)
  have:=iH (m:=m.erase a) hl.2 fun x hx=>by
   have hne:x≠a:=fun q=>hl.1 (by rw[←q];exact hx)
   exact (mem_erase_of_ne hne).mpr (h x (mem_cons_of_mem _ hx))
  rw[length_erase_of_mem ha] at this
  have hp:0<m.length:=length_pos_of_mem ha
  rw[length_cons];omega
theorem tL {n:Nat}(hn:0<n){gens:List Row}(hg:∀ g∈gens,IsT n g){x:Row}(hx:IsT n x){found:List Row}(h1:found.Nodup)(h2:∀ z∈found,Cls gens x z)(h3:found.length≤1000→∀ z,Cls gens x z→z∈found):
  Turn.classSize gens x=if 1000<found.length then none else some found.length:=by
 rcases oJ hn hg hx with ⟨l,c1,c2,c3,c4⟩|⟨l,c1,c2,c3,c4⟩
 ·have a:=iH (m:=l) h1 fun z hz=>(c2 z).mpr (h2 z hz)
  rw[if_neg (by omega),c4]
  have b:=iH (m:=found) c1 fun z hz=>h3 (by omega) z ((c2 z).mp hz)
  congr 1;omega
 ·by_cases h:found.length≤1000
  ·have b:=iH (m:=found) c1 fun z hz=>h3 h z (c2 z hz)
   omega
  ·rw[if_pos (by omega),c4]
theorem Cls.self {gens:List Row}(x:Row):Cls gens x x:=fun P h _=>h
theorem Cls.step {gens:List Row}{x z g:Row}(h:Cls gens x z)(hg:g∈gens):Cls gens x (conjugate z g):=fun P h1 h2=>h2 z (h P h1 h2) g hg
theorem Cls.all {gens:List Row}{x:Row}{found:List Row}(hx:x∈found)(h:∀ z∈found,∀ g∈gens,conjugate z g∈found){z:Row}(hz:Cls gens x z):z∈found:=hz (·∈found) hx h
theorem Cls.isT {gens:List Row}(hg:∀ g∈gens,IsT n g){x z:Row}(hx:IsT n x)(h:Cls gens x z):IsT n z:=h (IsT n) hx fun y hy g hm=>cO hy (hg g hm)
theorem kN {t:Turn.Table}(T:dX n t)(F:bS n G (br n t)){l:List Row}(hl:l.Nodup)(h:∀ z∈l,G z):l.length≤wt n G 0:=by
 have nd:(l.map fun z=>pl n G z n 0).Nodup:=by
  rw[List.Nodup,pairwise_map]
  refine List.Pairwise.imp_of_mem ?_ hl
  intro a b ha hb hab q
  have e1:=kC T F (h a ha)
  have e2:=kC T F (h b hb)
  rw[q,e2] at e1
  exact hab e1.symm
 have:=iH (m:=List.range (wt n G 0)) nd fun v hv=>by
  obtain ⟨z,hz,rfl⟩:=mem_map.mp hv
  rw[mem_range]
  exact qg F.grp (F.grp.isT z (h z hz)) n 0 rfl
 rw[length_map,length_range] at this
 exact this
end Tt
namespace Tt
open Turn (Row at_ mul inverse still layer wordFrom)
variable {n:Nat} {gens:List Row}
abbrev Rw:=List (Row×List Nat)
def jO (x:Row)(w:List Nat)(R:Rw)(g:Row×Nat):Rw:=if (R.map (·.1)).contains (mul x g.1)=true then R else R++[(mul x g.1,w++[g.2])]
def lC (gens:List Row)(R:Rw)(p:Row×List Nat):Rw:=gens.zipIdx.foldl (jO p.1 p.2) R
def bfs (n:Nat)(gens:List Row):Nat→Rw
 | 0=>[(still n,[])]
 | k+1=>match (bfs n gens k)[k]? with
  | none=>bfs n gens k
  | some p=>lC gens (bfs n gens k) p
theorem qJ (x:Row)(w:List Nat)(R:Rw)(g:Row×Nat):R <+: jO x w R g:=by
 unfold jO
 split
 ·exact prefix_refl _
 ·exact prefix_append _ _
theorem fU (x:Row)(w:List Nat):∀ (l:List (Row×Nat)) (R:Rw),R <+: l.foldl (jO x w) R
 | [],R=>prefix_refl _
 | g::l,R=>(qJ x w R g).trans (fU x w l _)
theorem ic (k:Nat):bfs n gens k <+: bfs n gens (k+1):=by
 show _ <+: (match (bfs n gens k)[k]? with|none=>bfs n gens k|some p=>lC gens (bfs n gens k) p)
 split
 ·exact prefix_refl _
 ·exact fU _ _ _ _
theorem eZ {k m:Nat}(h:k≤m):bfs n gens k <+: bfs n gens m:=by
 obtain ⟨d,rfl⟩:=Nat.exists_eq_add_of_le h
 clear h
 induction d with
 | zero=>exact prefix_refl _
 | succ d ih=>exact ih.trans (ic (k+d))
structure t5 (n:Nat)(gens:List Row)(k:Nat)(R:Rw):Prop where
 nd:(R.map (·.1)).Nodup
 made:∀ p∈R,aE n gens p.1
 len:∀ p∈R,p.2.length≤k
 lt:∀ p∈R,∀ c∈p.2,c<gens.length
theorem Aw {k:Nat}{x:Row}{w:List Nat}{R:Rw}(h:t5 n gens (k+1) R)(hx:aE n gens x)(hw:w.length≤k)(hwl:∀ c∈w,c<gens.length){g:Row}{i:Nat}(hg:gens[i]?=some g):t5 n gens (k+1) (jO x w R (g,i)):=by
 unfold jO
 split
 ·exact h
 ·rename_i hc
  refine ⟨?_,fun p hp=>?_,fun p hp=>?_,fun p hp=>?_⟩
  ·rw[map_append,nodup_append]
   refine ⟨h.nd,by simp,fun a ha b hb q=>hc ?_⟩
   have hb:b=mul x g:=by simpa using hb
   rw[contains_iff_mem,←hb,←q];exact ha
  ·rcases Ma hp with q|q
   ·exact h.made p q
   ·rw[Ms q];exact hx.step (mem_of_getElem? hg)
  ·rcases Ma hp with q|q
   ·exact h.len p q
   ·rw[Ms q]
    show (w++[i]).length≤k+1
    rw[length_append,length_singleton];omega
  ·rcases Ma hp with q|q
   ·exact h.lt p q
   ·rw[Ms q]
    intro c hc
    rcases Ma hc with z|z
    ·exact hwl c z
    ·rw[Ms z];exact (Gq hg).1
theorem nc {k:Nat}{x:Row}{w:List Nat}(hx:aE n gens x)(hw:w.length≤k)(hwl:∀ c∈w,c<gens.length):∀ (l:List (Row×Nat)) (R:Rw),(∀ g∈l,gens[g.2]?=some g.1)→t5 n gens (k+1) R→t5 n gens (k+1) (l.foldl (jO x w) R)
 | [],R,_,h=>h
 | g::l,R,hl,h=>nc hx hw hwl l _ (fun g hg=>hl g (mem_cons_of_mem _ hg)) (Aw h hx hw hwl (hl g (mem_cons_self ..)))
theorem uc:∀ g∈gens.zipIdx,gens[g.2]?=some g.1:=fun g hg=>by
 obtain ⟨a,i⟩:=g
 exact mk_mem_zipIdx_iff_getElem?.mp hg
theorem t5.up {k:Nat}{R:Rw}(h:t5 n gens k R):t5 n gens (k+1) R:=⟨h.nd,h.made,fun p hp=>Nat.le_succ_of_le (h.len p hp),h.lt⟩
theorem r0:∀ k,t5 n gens k (bfs n gens k)
 | 0=>⟨by simp[bfs],fun p hp=>by rw[Ms hp];exact .still,fun p hp=>by rw[Ms hp];exact Nat.le_refl _,fun p hp c hc=>by rw[Ms hp] at hc;cases hc⟩
 | k+1=>by
  have ih:=r0 k
  show t5 n gens (k+1) (match (bfs n gens k)[k]? with|none=>bfs n gens k|some p=>lC gens (bfs n gens k) p)
  split
  ·exact ih.up
  ·rename_i p hp
   have hm:=mem_of_getElem? hp
   exact nc (ih.made p hm) (ih.len p hm) (ih.lt p hm) _ _ uc ih.up
theorem yB (x:Row)(w:List Nat)(R:Rw)(g:Row×Nat):mul x g.1∈(jO x w R g).map (·.1):=by
 unfold jO
 split
 ·rename_i h;exact contains_iff_mem.mp h
 ·rw[map_append];exact mem_append_right _ (by simp)
theorem oz (x:Row)(w:List Nat):∀ (l:List (Row×Nat)) (R:Rw),∀ g∈l,mul x g.1∈(l.foldl (jO x w) R).map (·.1)
 | [],R,g,h=>by cases h
 | a::l,R,g,h=>by
  rcases Mc h with q|q
  ·subst q
   exact ((fU x w l (jO x w R g)).map (·.1)).subset (yB x w R g)
  ·exact oz x w l _ g q
theorem lL:∀ (k i:Nat) (p:Row×List Nat),i<k→(bfs n gens k)[i]?=some p→∀ g∈gens,mul p.1 g∈(bfs n gens k).map (·.1)
 | 0,i,p,h,_,_,_=>by omega
 | k+1,i,p,h,hp,g,hg=>by
  have pre:=ic (n:=n) (gens:=gens) k
  by_cases hik:i<k
  ·by_cases hl:i<(bfs n gens k).length
   ·have e:(bfs n gens k)[i]?=some p:=by
     rw[←hp,getElem?_eq_getElem hl]
     exact (prefix_iff_getElem?.mp pre i hl).symm
    exact (pre.map (·.1)).subset (lL k i p hik e g hg)
   ·have e:(bfs n gens k)[k]?=none:=getElem?_eq_none (by omega)
    have e2:bfs n gens (k+1)=bfs n gens k:=by rw[bfs,e]
    rw[e2] at hp
    exact absurd (Gq hp).1 hl
  ·have:i=k:=by omega
   subst this
   cases e:(bfs n gens i)[i]? with
   | none=>
    have e2:bfs n gens (i+1)=bfs n gens i:=by rw[bfs,e]
    rw[e2,e] at hp;cases hp
   | some q=>
    have e2:bfs n gens (i+1)=lC gens (bfs n gens i) q:=by rw[bfs,e]
    have hl:=(Gq e).1
    have e3:(bfs n gens (i+1))[i]?=some q:=by
     rw[←e,getElem?_eq_getElem hl]
     exact prefix_iff_getElem?.mp pre i hl
    have e4:p=q:=by rw[e3] at hp;exact (Oi hp).symm
    subst e4
    rw[e2]
    obtain ⟨j,hj⟩:=getElem?_of_mem hg
    exact oz p.1 p.2 _ _ (g,j) (mk_mem_zipIdx_iff_getElem?.mpr hj)
theorem AG {k:Nat}(h:(bfs n gens k).length≤k){z:Row}(hz:aE n gens z):z∈(bfs n gens k).map (·.1):=by
 induction hz with
 | still=>exact ((eZ (n:=n) (gens:=gens) (Nat.zero_le k)).map (·.1)).subset (mem_singleton.mpr rfl)
 | step hx hg ih=>
  obtain ⟨p,hp,rfl⟩:=mem_map.mp ih
  obtain ⟨i,hi⟩:=getElem?_of_mem hp
  exact lL k i p (Nat.lt_of_lt_of_le (Gq hi).1 h) hi _ hg
theorem wY {k m:Nat}(h:(bfs n gens k).length≤k)(hm:k≤m):bfs n gens m=bfs n gens k:=by
 obtain ⟨d,rfl⟩:=Nat.exists_eq_add_of_le hm
 clear hm
 induction d with
 | zero=>rfl
 | succ d ih=>
  have e:(bfs n gens (k+d))[k+d]?=none:=by rw[ih];exact getElem?_eq_none (by omega)
  show bfs n gens (k+d+1)=_
  rw[bfs,e];exact ih
theorem on:∀ {R:Rw} {x:Row} {v w:List Nat},(R.map (·.1)).Nodup→(x,v)∈R→(x,w)∈R→v=w
 | [],_,_,_,_,h,_=>by cases h
 | p::R,x,v,w,hn,h1,h2=>by
  rw[map_cons,nodup_cons] at hn
  rcases Mc h1 with q|q <;> rcases Mc h2 with r|r
  ·rw[←r] at q;exact (Prod.mk.inj q).2
  ·exact absurd (mem_map.mpr ⟨_,r,by rw[←q]⟩) hn.1
  ·exact absurd (mem_map.mpr ⟨_,q,by rw[←r]⟩) hn.1
  ·exact on hn.2 q r
theorem yM {k m:Nat}{x:Row}{v w:List Nat}(h1:(x,v)∈bfs n gens k)(h2:(x,w)∈bfs n gens m):v=w:=by
 have a:=(eZ (n:=n) (gens:=gens) (Nat.le_max_left k m)).subset h1
 have b:=(eZ (n:=n) (gens:=gens) (Nat.le_max_right k m)).subset h2
 exact on (r0 _).nd a b
def unr (p:Row×List Nat):Row×List Nat:=(p.1,p.2.reverse)
structure Lay (R:Rw)(m:Nat)(met:List Row)(new:Rw):Prop where
 met:∀ z,met.contains z=(R.map (·.1)).contains z
 new:new.reverse.map unr=R.drop m
 le:m≤R.length
theorem mX (x:Row)(w:List Nat)(m:Nat):∀ (l:List (Row×Nat)) (R:Rw) (met:List Row) (new:Rw),Lay R m met new→
  Lay (l.foldl (jO x w.reverse) R) m (l.foldl (fun (a:List Row×Rw) (g:Row×Nat)=>if a.1.contains (mul x g.1)=true then a else (mul x g.1::a.1,(mul x g.1,g.2::w)::a.2)) (met,new)).1
   (l.foldl (fun (a:List Row×Rw) (g:Row×Nat)=>if a.1.contains (mul x g.1)=true then a else (mul x g.1::a.1,(mul x g.1,g.2::w)::a.2)) (met,new)).2
 | [],R,met,new,h=>h
 | g::l,R,met,new,h=>by
  rw[foldl_cons,foldl_cons]
  by_cases hc:met.contains (mul x g.1)=true
  ·have hc':(R.map (·.1)).contains (mul x g.1)=true:=by rw[←h.met];exact hc
   have e1:jO x w.reverse R g=R:=by unfold jO;rw[if_pos hc']
   rw[e1]
   simp only[hc,if_true]
   exact mX x w m l R met new h
  ·have hc':¬(R.map (·.1)).contains (mul x g.1)=true:=by rw[←h.met];exact hc
   have e1:jO x w.reverse R g=R++[(mul x g.1,w.reverse++[g.2])]:=by unfold jO;rw[if_neg hc']
   rw[e1,if_neg hc]
   refine mX x w m l _ _ _ ⟨fun z=>?_,?_,?_⟩
   ·rw[contains_cons,h.met,map_append,Bool.eq_iff_iff]
    simp only[Bool.or_eq_true,beq_iff_eq,contains_iff_mem,mem_append,map_cons,map_nil,mem_singleton]
    exact Or.comm
   ·rw[reverse_cons,map_append,h.new,drop_append_of_le_length h.le]
    simp[unr]
   ·rw[length_append];have:=h.le;omega
theorem rK:∀ (r:Rw) (k m:Nat) (met:List Row) (new:Rw),Lay (bfs n gens k) m met new→r.map unr=((bfs n gens k).take m).drop k→k≤m→
  ((layer gens r met new).1.map unr=(bfs n gens m).drop m)∧(∀ z,(layer gens r met new).2.contains z=((bfs n gens m).map (·.1)).contains z)∧m≤(bfs n gens m).length
 | [],k,m,met,new,h,hr,hk=>by
  have:k=m:=by
   have hl:=congrArg List.length hr
   rw[length_map,length_drop,length_take] at hl
   have:=h.le
   simp at hl
   omega
  subst this
  exact ⟨h.new,h.met,h.le⟩
 | p::r,k,m,met,new,h,hr,hk=>by
  obtain ⟨x,w⟩:=p
  have hl:=congrArg List.length hr
  rw[length_map,length_drop,length_take,length_cons] at hl
  have hle:=h.le
  have hkm:k<m:=by omega
  have hkl:k<(bfs n gens k).length:=by omega
  have hd:((bfs n gens k).take m).drop k=(bfs n gens k)[k]::((bfs n gens k).take m).drop (k+1):=by
   rw[drop_eq_getElem_cons (by rw[length_take];omega),getElem_take]
  rw[hd,map_cons] at hr
  obtain ⟨hr1,hr2⟩:=List.cons.inj hr
  have hp:(bfs n gens k)[k]?=some (x,w.reverse):=by rw[getElem?_eq_getElem hkl,←hr1];rfl
  have eb:bfs n gens (k+1)=lC gens (bfs n gens k) (x,w.reverse):=by rw[bfs,hp]
  have hL:=mX x w m gens.zipIdx (bfs n gens k) met new h
  have eb':gens.zipIdx.foldl (jO x w.reverse) (bfs n gens k)=bfs n gens (k+1):=by rw[eb];rfl
  rw[eb'] at hL
  show (layer gens r _ _).1.map unr=_∧_
  refine rK r (k+1) m _ _ hL ?_ hkm
  rw[hr2]
  congr 1
  obtain ⟨t,ht⟩:=ic (n:=n) (gens:=gens) k
  rw[←ht,take_append_of_le_length hle]
theorem jS {N:Nat}(hN:∀ k,(bfs n gens k).length≤N){x:Row}{K:Nat}{w:List Nat}(hw:(x,w)∈bfs n gens K):∀ (f k:Nat) (now:Rw) (met:List Row),
  N<f+k→now.map unr=(bfs n gens k).drop k→(∀ z,met.contains z=((bfs n gens k).map (·.1)).contains z)→k≤(bfs n gens k).length→(∀ p∈(bfs n gens k).take k,p.1≠x)→wordFrom gens x f now met=some w
 | 0,k,now,met,hf,h1,h2,h3,h4=>by
  have:=hN k;omega
 | f+1,k,now,met,hf,h1,h2,h3,h4=>by
  unfold wordFrom
  have hl:now.length=(bfs n gens k).length-k:=by rw[←length_map (f:=unr),h1,length_drop]
  cases e:now.find? fun (a:Row×List Nat)=>a.1==x with
  | some a=>
   have ha:=mem_of_find?_eq_some e
   have hx:a.1=x:=by simpa using find?_some e
   have:(x,a.2.reverse)∈bfs n gens k:=by
    have:unr a∈now.map unr:=mem_map.mpr ⟨a,ha,rfl⟩
    rw[h1] at this
    have:=mem_of_mem_drop this
    unfold unr at this
    rwa [hx] at this
   show some a.2.reverse=some w
   rw[yM this hw]
  | none=>
   have hno:∀ p∈bfs n gens k,p.1≠x:=fun p hp q=>by
    rw[←take_append_drop k (bfs n gens k)] at hp
    rcases Ma hp with z|z
    ·exact h4 p z q
    ·rw[←h1] at z
     obtain ⟨a,ha,rfl⟩:=mem_map.mp z
     have:=find?_eq_none.mp e a ha
     exact this (by simpa [unr] using q)
   show (if now.isEmpty=true then none else wordFrom gens x f (layer gens now met []).1 (layer gens now met []).2)=some w
   by_cases he:now.isEmpty=true
   ·exfalso
    rw[isEmpty_iff] at he
    rw[he] at hl
    have hlk:(bfs n gens k).length≤k:=by simp at hl;omega
    rcases Nat.le_total k K with q|q
    ·rw[wY hlk q] at hw
     exact hno _ hw rfl
    ·exact hno _ ((eZ q).subset hw) rfl
   ·rw[if_neg he]
    have hpos:0<now.length:=by
     cases now with
     | nil=>exact absurd rfl he
     | cons _ _=>rw[length_cons];omega
    obtain ⟨l1,l2,l3⟩:=rK now k (bfs n gens k).length met [] ⟨h2,by simp,Nat.le_refl _⟩ (by rw[take_length];exact h1) h3
    refine jS hN hw f (bfs n gens k).length _ _ (by omega) l1 l2 l3 fun p hp=>?_
    obtain ⟨t,ht⟩:=eZ (n:=n) (gens:=gens) h3
    rw[←ht,take_append_of_le_length (Nat.le_refl _),take_length] at hp
    exact hno p hp
theorem zj (hn:n≤9)(hg:gz n gens)(ho:wt n (aE n gens) 0≤1000){x:Row}{K:Nat}{w:List Nat}(hw:(x,w)∈bfs n gens K):Turn.word n gens x=some w:=by
 obtain ⟨T,F⟩:=hg.table hn
 have hN:∀ k,(bfs n gens k).length≤1000:=fun k=>by
  have B:=r0 (n:=n) (gens:=gens) k
  have:=kN T F B.nd fun z hz=>by
   obtain ⟨p,hp,rfl⟩:=mem_map.mp hz
   exact B.made p hp
  rw[length_map] at this
  omega
 unfold Turn.word
 exact jS hN hw _ 0 _ _ (by show 1000<1000+2+0;omega) rfl (fun z=>rfl) (Nat.zero_le _) (fun p hp=>by simp at hp)
theorem wS {x:Row}(hx:IsT n x){a k:Nat}(ha:a<n)(h:at_ (pw n x k) a=a):(Turn.cycleOf x a).length ∣ k:=by
 obtain ⟨p,p1,p2,e,e2,e3⟩:=cW hx ha
 have el:(Turn.cycleOf x a).length=p:=by rw[e,length_map,length_range]
 rw[el]
 have hk:k=p*(k / p)+k % p:=(Nat.div_add_mod k p).symm
 have hr:k % p<p:=Nat.mod_lt _ p1
 rw[hk,rg hx ha e2] at h
 by_cases hz:k % p=0
 ·exact Nat.dvd_of_mod_eq_zero hz
 ·exact absurd h (e3 _ (by omega) hr)
theorem wM {x:Row}(hx:IsT n x){a k:Nat}(ha:a<n)(h:(Turn.cycleOf x a).length ∣ k):at_ (pw n x k) a=a:=by
 obtain ⟨p,p1,p2,e,e2,e3⟩:=cW hx ha
 have el:(Turn.cycleOf x a).length=p:=by rw[e,length_map,length_range]
 rw[el] at h
 obtain ⟨q,rfl⟩:=h
 have:=rg hx ha e2 q 0
 rw[Nat.add_zero] at this
 rw[this,mI ha]
theorem nV {x:Row}(hx:IsT n x)(k:Nat):pw n x k=still n↔∀ c∈Turn.cycles x,c.length ∣ k:=by
 rw[iM hx]
 obtain ⟨q1,q2⟩:=dN (qm hx)
 constructor
 ·intro h c hc
  obtain ⟨a,ha,rfl⟩:=mem_map.mp hc
  have ha':a<n:=mem_range.mp (mem_filter.mp ha).1
  exact wS hx ha' (by rw[h,aJ ha'])
 ·intro h
  refine IsT.ext (n:=n) (cg hx k).len (bE n) fun b hb=>?_
  rw[aJ hb]
  have ha:=q1.lt hb
  have hid:=q1.idem b hb
  have hc:=h _ (mem_map.mpr ⟨at_ (Turn.leasts n [x]) b,mem_filter.mpr ⟨mem_range.mpr ha,by simpa using hid⟩,rfl⟩)
  have ea:=wM hx ha hc
  obtain ⟨y,hy,hyb⟩:=(q2 _ b ha hb).mp hid
  obtain ⟨i,rfl⟩:=(qD hx).mp hy
  have e:at_ (pw n x k) (at_ (pw n x i) (at_ (Turn.leasts n [x]) b))=at_ (pw n x i) (at_ (pw n x k) (at_ (Turn.leasts n [x]) b)):=by
   rw[←(cg hx i).at_mul ha,←(cg hx k).at_mul ha,←jo hx,←jo hx,Nat.add_comm]
  rw[ea,hyb] at e
  exact e
theorem oC:∀ (l:List (List Nat)) (m k:Nat),l.foldl (fun (m:Nat) (c:List Nat)=>Nat.lcm m c.length) m ∣ k↔m ∣ k∧∀ c∈l,c.length ∣ k
 | [],m,k=>by simp
 | c::l,m,k=>by
  rw[foldl_cons,oC l,Nat.lcm_dvd_iff]
  simp[and_assoc]
theorem kx {x:Row}(hx:IsT n x)(k:Nat):Turn.orderOf x ∣ k↔pw n x k=still n:=by
 unfold Turn.orderOf
 rw[oC,nV hx]
 exact ⟨fun h=>h.2,fun h=>⟨Nat.one_dvd _,h⟩⟩
theorem qj {x:Row}(hx:IsT n x):0<Turn.orderOf x:=by
 have key:∀ (l:List (List Nat)) (m:Nat),0<m→(∀ c∈l,0<c.length)→0<l.foldl (fun (m:Nat) (c:List Nat)=>Nat.lcm m c.length) m:=by
  intro l
  induction l with
  | nil=>intro m hm _;exact hm
  | cons c l ih=>
   intro m hm hc
   exact ih _ (Nat.lcm_pos hm (hc c (mem_cons_self ..))) fun d hd=>hc d (mem_cons_of_mem _ hd)
 refine key _ 1 Nat.one_pos fun c hc=>?_
 rw[iM hx] at hc
 obtain ⟨a,ha,rfl⟩:=mem_map.mp hc
 obtain ⟨p,p1,p2,e,_⟩:=cW hx (mem_range.mp (mem_filter.mp ha).1)
 rw[e,length_map,length_range];exact p1
theorem oi {x:Row}(hx:IsT n x){t:Nat}(h0:0<t)(hl:t≤Turn.orderOf x)(h:pw n x t=still n):t=Turn.orderOf x:=by
 have:=Nat.le_of_dvd h0 ((kx hx t).mpr h)
 omega
theorem oh {x:Row}(hx:IsT n x){t:Nat}(hl:t≤Turn.orderOf x)(h:pw n x t≠still n):t+1≤Turn.orderOf x:=by
 have:t≠Turn.orderOf x:=fun q=>h ((kx hx t).mp (by rw[←q];exact Nat.dvd_refl _))
 omega
end Tt
namespace Tt
open Turn (State Row)
def gS:Nat→List Nat
 | 0=>[0]|7=>[1,2,2]|10=>[1,3]|13=>[1,1]|16=>[1,1,1]|17=>[1,1]|18=>[1,1,1]|19=>[1,1,1]|20=>[]|21=>[3]|22=>[]|23=>[]|_=>[1]
def iI:Nat→Nat
 | 1=>1|9=>1|11=>1|12=>1|14=>1|15=>1|20=>2|21=>1|22=>1|23=>1|_=>0
def cY (n c:Nat)(z:Int):Bool:=if c=0 then decide (1≤z)&&decide (z≤9) else if c=1 then decide (z<4) else if c=2 then decide (z<(n:Int)) else true
theorem ln0 {α:Type}{l:List α}(h:l.length=0):l=[]:=eq_nil_of_length_eq_zero h
theorem ln1 {α:Type}{l:List α}(h:l.length=1):∃ a,l=[a]:=by
 cases l with
 | nil=>cases h
 | cons a l=>exact ⟨a,by rw[ln0 (l:=l) (by simpa using h)]⟩
theorem ln2 {α:Type}{l:List α}(h:l.length=2):∃ a b,l=[a,b]:=by
 cases l with
 | nil=>cases h
 | cons a l=>obtain ⟨b,rfl⟩:=ln1 (l:=l) (by simpa using h);exact ⟨a,b,rfl⟩
theorem ln3 {α:Type}{l:List α}(h:l.length=3):∃ a b c,l=[a,b,c]:=by
 cases l with
 | nil=>cases h
 | cons a l=>obtain ⟨b,c,rfl⟩:=ln2 (l:=l) (by simpa using h);exact ⟨a,b,c,rfl⟩
def Bad (n:Nat)(ms:List Nat)(ns:List Int):Prop:=∃ (i c:Nat) (z:Int),ms[i]?=some c∧ns[i]?=some z∧cY n c z=false
theorem cP {n c:Nat}{z:Int}{ms:List Nat}{ns:List Int}(h:Bad n (c::ms) (z::ns)):cY n c z=false∨Bad n ms ns:=by
 obtain ⟨i,c',z',h1,h2,h3⟩:=h
 cases i with
 | zero=>simp at h1 h2;subst h1;subst h2;exact .inl h3
 | succ i=>exact .inr ⟨i,c',z',by simpa using h1,by simpa using h2,h3⟩
theorem nr {n:Nat}{ns:List Int}(h:Bad n [] ns):False:=by
 obtain ⟨i,c,z,h1,_⟩:=h
 simp at h1
theorem Bv {z:Int}{k:Nat}(h:TuNeutral.natural z k=true):0≤z:=by
 unfold TuNeutral.natural at h
 rw[Bool.and_eq_true] at h
 exact of_decide_eq_true h.1
theorem tP {n:Nat}{z:Int}(h:cY n 0 z=false)(h0:0≤z):z.toNat<1∨Turn.THINGS<z.toNat:=by
 unfold cY at h
 rw[if_pos rfl,Bool.and_eq_false_iff] at h
 show z.toNat<1∨9<z.toNat
 rcases h with h|h
 ·have:=of_decide_eq_false h;omega
 ·have:=of_decide_eq_false h;omega
theorem aI {n:Nat}{z:Int}(h:cY n 1 z=false):Turn.GROUPS≤z.toNat:=by
 unfold cY at h
 rw[if_neg (by decide),if_pos rfl] at h
 have:=of_decide_eq_false h
 show 4≤z.toNat
 omega
theorem oV {n:Nat}{z:Int}(h:cY n 2 z=false):n≤z.toNat:=by
 unfold cY at h
 rw[if_neg (by decide),if_neg (by decide),if_pos rfl] at h
 have:=of_decide_eq_false h
 omega
theorem w8 {n:Nat}{z:Int}(h:cY n 3 z=false):False:=by
 unfold cY at h
 rw[if_neg (by decide),if_neg (by decide),if_neg (by decide)] at h
 cases h
theorem dH {n:Nat}{z:Int}(h:cY n 1 z=true):¬Turn.GROUPS≤z.toNat:=by
 unfold cY at h
 rw[if_neg (by decide),if_pos rfl] at h
 have:=of_decide_eq_true h
 show ¬4≤z.toNat
 omega
theorem np {p:Nat}(h:p<24):p=0∨p=1∨p=2∨p=3∨p=4∨p=5∨p=6∨p=7∨p=8∨p=9∨p=10∨p=11∨p=12∨p=13∨p=14∨p=15∨p=16∨p=17∨p=18∨p=19∨p=20∨p=21∨p=22∨p=23:=by revert p;decide +kernel
theorem bH {n c:Nat}{z:Int}(h:Bad n [c] [z]):cY n c z=false:=by
 rcases cP h with q|q
 ·exact q
 ·exact (nr q).elim
theorem zW {p:Nat}{st:State}{ns:List Int}{rows:List (List Int)}(hp:p<24)(hn:ns.length=(gS p).length)(hr:rows.length=iI p)(ha:TuNeutral.asked1 (((p:Int)::ns)::rows)=true)(hb:Bad st.n (gS p) ns):
  TuNeutral.step st (((p:Int)::ns)::rows)=(st,[-2]):=by
 rcases np hp with rfl|rfl|rfl|rfl|rfl|rfl|rfl|rfl|rfl|rfl|rfl|rfl|rfl|rfl|rfl|rfl|rfl|rfl|rfl|rfl|rfl|rfl|rfl|rfl
 ·
  obtain ⟨z,rfl⟩:=ln1 hn
  obtain rfl:=ln0 hr
  have h0:0≤z:=Bv (show TuNeutral.natural z 32=true from ha)
  show Turn.step st (.new z.toNat)=_
  simp only[Turn.step]
  rw[if_pos (tP (bH hb) h0)];rfl
 ·
  obtain ⟨z,rfl⟩:=ln1 hn
  obtain ⟨x,rfl⟩:=ln1 hr
  show Turn.step st (.give z.toNat (TuNeutral.nats x))=_
  simp only[Turn.step]
  rw[if_pos (aI (bH hb))];rfl
 ·obtain ⟨z,rfl⟩:=ln1 hn
  obtain rfl:=ln0 hr
  show Turn.step st (.clear z.toNat)=_
  simp only[Turn.step]
  rw[if_pos (aI (bH hb))];rfl
 ·obtain ⟨z,rfl⟩:=ln1 hn
  obtain rfl:=ln0 hr
  show Turn.step st (.gens z.toNat)=_
  simp only[Turn.step,Turn.ofGroup]
  rw[if_pos (aI (bH hb))];rfl
 ·obtain ⟨z,rfl⟩:=ln1 hn
  obtain rfl:=ln0 hr
  show Turn.step st (.order z.toNat)=_
  simp only[Turn.step,Turn.ofGroup]
  rw[if_pos (aI (bH hb))];rfl
 ·obtain ⟨z,rfl⟩:=ln1 hn
  obtain rfl:=ln0 hr
  show Turn.step st (.chain z.toNat)=_
  simp only[Turn.step,Turn.ofGroup]
  rw[if_pos (aI (bH hb))];rfl
 ·obtain ⟨z,rfl⟩:=ln1 hn
  obtain rfl:=ln0 hr
  show Turn.step st (.orbits z.toNat)=_
  simp only[Turn.step,Turn.ofGroup]
  rw[if_pos (aI (bH hb))];rfl
 ·
  obtain ⟨z,a,b,rfl⟩:=ln3 hn
  obtain rfl:=ln0 hr
  show Turn.step st (.blocks z.toNat a.toNat b.toNat)=_
  simp only[Turn.step,Turn.ofGroup]
  by_cases hg:Turn.GROUPS≤z.toNat
  ·rw[if_pos hg];rfl
  ·have:st.n≤a.toNat∨st.n≤b.toNat:=by
    rcases cP hb with q|q
    ·exact absurd (aI q) hg
    ·rcases cP q with q|q
     ·exact .inl (oV q)
     ·exact .inr (oV (bH q))
   rw[if_neg hg,if_pos this];rfl
 ·obtain ⟨z,rfl⟩:=ln1 hn
  obtain rfl:=ln0 hr
  show Turn.step st (.kind z.toNat)=_
  simp only[Turn.step,Turn.ofGroup]
  rw[if_pos (aI (bH hb))];rfl
 ·obtain ⟨z,rfl⟩:=ln1 hn
  obtain ⟨x,rfl⟩:=ln1 hr
  show Turn.step st (.has z.toNat (TuNeutral.nats x))=_
  simp only[Turn.step,Turn.ofTurn]
  rw[if_pos (aI (bH hb))];rfl
 ·
  obtain ⟨z,k,rfl⟩:=ln2 hn
  obtain rfl:=ln0 hr
  show Turn.step st (.nth z.toNat k.toNat)=_
  simp only[Turn.step,Turn.ofGroup]
  have:Turn.GROUPS≤z.toNat:=by
   rcases cP hb with q|q
   ·exact aI q
   ·exact (w8 (bH q)).elim
  rw[if_pos this];rfl
 ·obtain ⟨z,rfl⟩:=ln1 hn
  obtain ⟨x,rfl⟩:=ln1 hr
  show Turn.step st (.place z.toNat (TuNeutral.nats x))=_
  simp only[Turn.step,Turn.ofTurn]
  rw[if_pos (aI (bH hb))];rfl
 ·obtain ⟨z,rfl⟩:=ln1 hn
  obtain ⟨x,rfl⟩:=ln1 hr
  show Turn.step st (.coset z.toNat (TuNeutral.nats x))=_
  simp only[Turn.step,Turn.ofTurn]
  rw[if_pos (aI (bH hb))];rfl
 ·
  obtain ⟨z,k,rfl⟩:=ln2 hn
  obtain rfl:=ln0 hr
  show Turn.step st (.within z.toNat k.toNat)=_
  simp only[Turn.step]
  have:Turn.GROUPS≤z.toNat∨Turn.GROUPS≤k.toNat:=by
   rcases cP hb with q|q
   ·exact .inl (aI q)
   ·exact .inr (aI (bH q))
  rw[if_pos this];rfl
 ·obtain ⟨z,rfl⟩:=ln1 hn
  obtain ⟨x,rfl⟩:=ln1 hr
  show Turn.step st (.word z.toNat (TuNeutral.nats x))=_
  simp only[Turn.step,Turn.ofTurn]
  rw[if_pos (aI (bH hb))];rfl
 ·obtain ⟨z,rfl⟩:=ln1 hn
  obtain ⟨x,rfl⟩:=ln1 hr
  show Turn.step st (.class_ z.toNat (TuNeutral.nats x))=_
  simp only[Turn.step,Turn.ofTurn]
  rw[if_pos (aI (bH hb))];rfl
 ·obtain ⟨z,h,k,rfl⟩:=ln3 hn
  obtain rfl:=ln0 hr
  show Turn.step st (.normal z.toNat h.toNat k.toNat)=_
  simp only[Turn.step]
  have:Turn.GROUPS≤z.toNat∨Turn.GROUPS≤h.toNat∨Turn.GROUPS≤k.toNat:=by
   rcases cP hb with q|q
   ·exact .inl (aI q)
   ·rcases cP q with q|q
    ·exact .inr (.inl (aI q))
    ·exact .inr (.inr (aI (bH q)))
  rw[if_pos this];rfl
 ·obtain ⟨z,k,rfl⟩:=ln2 hn
  obtain rfl:=ln0 hr
  show Turn.step st (.derived z.toNat k.toNat)=_
  simp only[Turn.step]
  have:Turn.GROUPS≤z.toNat∨Turn.GROUPS≤k.toNat:=by
   rcases cP hb with q|q
   ·exact .inl (aI q)
   ·exact .inr (aI (bH q))
  rw[if_pos this];rfl
 ·obtain ⟨z,h,k,rfl⟩:=ln3 hn
  obtain rfl:=ln0 hr
  show Turn.step st (.meet z.toNat h.toNat k.toNat)=_
  simp only[Turn.step]
  have:Turn.GROUPS≤z.toNat∨Turn.GROUPS≤h.toNat∨Turn.GROUPS≤k.toNat:=by
   rcases cP hb with q|q
   ·exact .inl (aI q)
   ·rcases cP q with q|q
    ·exact .inr (.inl (aI q))
    ·exact .inr (.inr (aI (bH q)))
  rw[if_pos this];rfl
 ·obtain ⟨z,h,k,rfl⟩:=ln3 hn
  obtain rfl:=ln0 hr
  show Turn.step st (.join z.toNat h.toNat k.toNat)=_
  simp only[Turn.step]
  have:Turn.GROUPS≤z.toNat∨Turn.GROUPS≤h.toNat∨Turn.GROUPS≤k.toNat:=by
   rcases cP hb with q|q
   ·exact .inl (aI q)
   ·rcases cP q with q|q
    ·exact .inr (.inl (aI q))
    ·exact .inr (.inr (aI (bH q)))
  rw[if_pos this];rfl
 ·exact (nr hb).elim
 ·obtain ⟨z,rfl⟩:=ln1 hn
  exact (w8 (bH hb)).elim
 ·exact (nr hb).elim
 ·exact (nr hb).elim
def Fine (n:Nat)(ms:List Nat)(ns:List Int):Prop:=∀ (i c:Nat) (z:Int),ms[i]?=some c→ns[i]?=some z→cY n c z=true
theorem zX {p:Nat}{st:State}{ns:List Int}{rows:List (List Int)}(hp:p<24)(hn:ns.length=(gS p).length)(hr:rows.length=iI p)(hf:Fine st.n (gS p) ns)(hb:∃ x∈rows,Turn.isTurn st.n (TuNeutral.nats x)=false):
  TuNeutral.step st (((p:Int)::ns)::rows)=(st,[-1]):=by
 rcases np hp with rfl|rfl|rfl|rfl|rfl|rfl|rfl|rfl|rfl|rfl|rfl|rfl|rfl|rfl|rfl|rfl|rfl|rfl|rfl|rfl|rfl|rfl|rfl|rfl
 all_goals try (obtain ⟨x,hx,_⟩:=hb;have h0:=ln0 hr;rw[h0] at hx;cases hx;done)
 ·obtain ⟨z,rfl⟩:=ln1 hn
  obtain ⟨x,rfl⟩:=ln1 hr
  have hx:Turn.isTurn st.n (TuNeutral.nats x)=false:=by obtain ⟨y,hy,hy2⟩:=hb;rw[Ms hy] at hy2;exact hy2
  show Turn.step st (.give z.toNat (TuNeutral.nats x))=_
  simp only[Turn.step]
  rw[if_neg (dH (hf 0 _ _ rfl rfl)),if_pos hx];rfl
 ·obtain ⟨z,rfl⟩:=ln1 hn
  obtain ⟨x,rfl⟩:=ln1 hr
  have hx:Turn.isTurn st.n (TuNeutral.nats x)=false:=by obtain ⟨y,hy,hy2⟩:=hb;rw[Ms hy] at hy2;exact hy2
  show Turn.step st (.has z.toNat (TuNeutral.nats x))=_
  simp only[Turn.step,Turn.ofTurn]
  rw[if_neg (dH (hf 0 _ _ rfl rfl)),if_pos hx];rfl
 ·obtain ⟨z,rfl⟩:=ln1 hn
  obtain ⟨x,rfl⟩:=ln1 hr
  have hx:Turn.isTurn st.n (TuNeutral.nats x)=false:=by obtain ⟨y,hy,hy2⟩:=hb;rw[Ms hy] at hy2;exact hy2
  show Turn.step st (.place z.toNat (TuNeutral.nats x))=_
  simp only[Turn.step,Turn.ofTurn]
  rw[if_neg (dH (hf 0 _ _ rfl rfl)),if_pos hx];rfl
 ·obtain ⟨z,rfl⟩:=ln1 hn
  obtain ⟨x,rfl⟩:=ln1 hr
  have hx:Turn.isTurn st.n (TuNeutral.nats x)=false:=by obtain ⟨y,hy,hy2⟩:=hb;rw[Ms hy] at hy2;exact hy2
  show Turn.step st (.coset z.toNat (TuNeutral.nats x))=_
  simp only[Turn.step,Turn.ofTurn]
  rw[if_neg (dH (hf 0 _ _ rfl rfl)),if_pos hx];rfl
 ·obtain ⟨z,rfl⟩:=ln1 hn
  obtain ⟨x,rfl⟩:=ln1 hr
  have hx:Turn.isTurn st.n (TuNeutral.nats x)=false:=by obtain ⟨y,hy,hy2⟩:=hb;rw[Ms hy] at hy2;exact hy2
  show Turn.step st (.word z.toNat (TuNeutral.nats x))=_
  simp only[Turn.step,Turn.ofTurn]
  rw[if_neg (dH (hf 0 _ _ rfl rfl)),if_pos hx];rfl
 ·obtain ⟨z,rfl⟩:=ln1 hn
  obtain ⟨x,rfl⟩:=ln1 hr
  have hx:Turn.isTurn st.n (TuNeutral.nats x)=false:=by obtain ⟨y,hy,hy2⟩:=hb;rw[Ms hy] at hy2;exact hy2
  show Turn.step st (.class_ z.toNat (TuNeutral.nats x))=_
  simp only[Turn.step,Turn.ofTurn]
  rw[if_neg (dH (hf 0 _ _ rfl rfl)),if_pos hx];rfl
 ·obtain rfl:=ln0 hn
  obtain ⟨x,y,rfl⟩:=ln2 hr
  have hx:Turn.isTurn st.n (TuNeutral.nats x)=false∨Turn.isTurn st.n (TuNeutral.nats y)=false:=by
   obtain ⟨u,hu,hu2⟩:=hb
   rcases Mc hu with q|q
   ·rw[q] at hu2;exact .inl hu2
   ·rw[Ms q] at hu2;exact .inr hu2
  show Turn.step st (.mul (TuNeutral.nats x) (TuNeutral.nats y))=_
  simp only[Turn.step,Turn.ofBoth]
  rw[if_pos hx];rfl
 ·obtain ⟨z,rfl⟩:=ln1 hn
  obtain ⟨x,rfl⟩:=ln1 hr
  have hx:Turn.isTurn st.n (TuNeutral.nats x)=false:=by obtain ⟨y,hy,hy2⟩:=hb;rw[Ms hy] at hy2;exact hy2
  show Turn.step st (.power z.toNat (TuNeutral.nats x))=_
  simp only[Turn.step,Turn.ofBoth]
  rw[if_pos (.inl hx)];rfl
 ·obtain rfl:=ln0 hn
  obtain ⟨x,rfl⟩:=ln1 hr
  have hx:Turn.isTurn st.n (TuNeutral.nats x)=false:=by obtain ⟨y,hy,hy2⟩:=hb;rw[Ms hy] at hy2;exact hy2
  show Turn.step st (.inverse (TuNeutral.nats x))=_
  simp only[Turn.step,Turn.ofBoth]
  rw[if_pos (.inl hx)];rfl
 ·obtain rfl:=ln0 hn
  obtain ⟨x,rfl⟩:=ln1 hr
  have hx:Turn.isTurn st.n (TuNeutral.nats x)=false:=by obtain ⟨y,hy,hy2⟩:=hb;rw[Ms hy] at hy2;exact hy2
  show Turn.step st (.cycles (TuNeutral.nats x))=_
  simp only[Turn.step,Turn.ofBoth]
  rw[if_pos (.inl hx)];rfl
theorem sH {p:Int}{ns:List Int}{rows:List (List Int)}(h:TuNeutral.asked1 ((p::ns)::rows)=true):∀ x∈rows,x.length≤16:=fun x hx=>by
 have hx:=lN h x hx
 unfold TuNeutral.long at hx
 rw[Bool.and_eq_true] at hx
 exact of_decide_eq_true hx.1
theorem xx {p:Nat}{nk:Nat×Nat}(h:PyWrperm.shape (p:Int)=some nk):p<24∧(gS p).length=nk.1∧iI p=nk.2:=by
 have hp:p<24:=by
  rcases Nat.lt_or_ge p 24 with q|q
  ·exact q
  ·unfold PyWrperm.shape at h
   repeat rw[if_neg (by omega)] at h
   cases h
 refine ⟨hp,?_⟩
 have all:∀ k:Nat,k<24→PyWrperm.shape (k:Int)=some ((gS k).length,iI k):=by decide
 rw[all p hp] at h
 have:=Oi h
 rw[←this];exact ⟨rfl,rfl⟩
end Tt
open _root_.Turn (at_ State conjugate leasts nats commutator orderOf cycleOf)
namespace Bt
open PySem PySem.Spec PyProof.Rows L2
open PySem.W (Codec)
def iv (x:List Nat):List V:=x.map fun k=>V.int (k:Nat)
theorem aO (x:List Nat):(iv x).length=x.length:=by unfold iv;rw[length_map]
theorem eW {x:List Nat}{i:Nat}{v:V}(h:(iv x)[i]?=some v):∃ k,x[i]?=some k∧v=V.int (k:Nat):=by
 unfold iv at h
 rw[getElem?_map] at h
 cases e:x[i]? with
 | none=>rw[e] at h;cases h
 | some k=>rw[e] at h;exact ⟨k,rfl,(Oi h).symm⟩
theorem eF {x:List Nat}{i k:Nat}(h:x[i]?=some k):(iv x)[i]?=some (V.int (k:Nat)):=by
 unfold iv;rw[getElem?_map,h];rfl
theorem eE (x:List Nat)(k:Nat):iv (x++[k])=iv x++[V.int (k:Nat)]:=by unfold iv;rw[map_append];rfl
theorem aC {α:Type}{l:List α}{i:Nat}{x:α}(h:l[i]?=some x):l.take (i+1)=l.take i++[x]:=by
 rw[take_add_one,h];rfl
theorem sz {n:Nat}(h:n≤1000000):n<sizeLine:=Nat.lt_of_le_of_lt h (by rw[sizeLine_eq];decide)
theorem lM {y:List Nat}{j k:Nat}(h:y[j]?=some k):at_ y j=k:=by
 unfold at_;rw[getD_eq_getElem?_getD,h];rfl
section
variable {X:Cx}
def tLR (ta:TA):TE:=fun σ H Q=>ta σ H fun vs H1=>∃ n:Nat,vs=[.int (n:Nat)]∧n≤1000000∧∀ l,H1 l=none→Q (.ref l) (upd H1 l (.lst (iv (List.range n))))
theorem lh:∀ (n:Nat) (us:List Value) (a:Nat),us.length=n→(∀ (j:Nat) (v:Value),us[j]?=some v→∃ t,v=.int (((a+j:Nat):Int)) t)→bF ((List.range' a n).map fun k=>V.int (k:Nat)) us
 | 0,us,a,h,_=>by
  rw[eq_nil_of_length_eq_zero h];exact .nil
 | n+1,[],a,h,_=>by simp at h
 | n+1,u::us,a,h,hv=>by
  rw[List.range'_succ,map_cons]
  obtain ⟨t,e⟩:=hv 0 u rfl
  refine .cons ⟨t,by simpa using e⟩ (lh n us (a+1) (by simpa using h) fun j v hj=>?_)
  obtain ⟨t,e⟩:=hv (j+1) v (by simpa using hj)
  exact ⟨t,by rw[e];congr 1;omega⟩
theorem fQ {a:Expr}{ta:TA}{p p2 pos pos2:Pos}(hc:X.calm=true)(hgl:Gl X "list")(hml:X.mg "list"=none)(hgr:Gl X "range")(hmr:X.mg "range"=none)(ha:PA X [a] ta)
  (hs1:starEach [.Call (.Name "range" p2) [a] [] pos2] X.env=[(false,eval (.Call (.Name "range" p2) [a] [] pos2) X.env)]:=by rfl)(hs2:starEach [a] X.env=[(false,eval a X.env)]:=by rfl):
  PE X (.Call (.Name "list" p) [.Call (.Name "range" p2) [a] [] pos2] [] pos) (tLR ta):=by
 intro pins s σ H Q I h
 refine wpAny_Call_Name_kw (iK I hgl hml boot_list ?_)
 refine PyProof.Rows.callWith_type1 ?_ hs1 rfl
 rw[hs1]
 show wpAny _ _ (spliced ((false,eval (.Call (.Name "range" p2) [a] [] pos2) X.env)::[])) _ _ s
 refine Calls.spliced_cons ?_
 refine wpAny_Call_Name_kw (iK I hgr hmr boot_range ?_)
 refine PyProof.Rows.callWith_type1 (thn (ha pos2 pins s σ H _ I h) fun us s1 ⟨vs,H1,I1,r1,q1⟩=>?_) hs2 rfl
 obtain ⟨n,e,hn,q⟩:=q1
 subst e
 obtain ⟨u,rfl,ru⟩:=uf r1
 obtain ⟨t,rfl⟩:=ru
 refine call_range_1 (Calls.spliced_nil ?_)
 refine call_list_range (I.ok.hd hc) (IsRange.new ..) (small_one (by omega) (by omega) (by omega) (by omega)) (n:=n) (by rw[rangeSize_one];split <;> omega) (by omega) fun h' tk acc c hk hD hI=>?_
 have hsz:∀ o,(s1.heap.push o).objs.size=s1.heap.objs.size+1:=fun o=>by rw[Heap.size_push]
 refine ⟨.ref _,_,I1.laid (t':=tk) (fun b o e=>hk b o (Heap.get?_push_of_some _ e)) ?_ (show df X.prog X.w _ h' _ (.lst (iv (List.range n))) from ⟨?_,acc.toList,c,?_,?_⟩),rfl,q _ ?_⟩
 ·rw[hsz];exact Nat.le_succ _
 ·rw[aO,length_range];exact Nat.le_of_lt (sz hn)
 ·unfold iv
  rw[range_eq_range']
  refine lh n acc.toList 0 (by rw[Array.length_toList];exact hI.1) fun j v hj=>?_
  obtain ⟨t,e⟩:=hI.2 j v (by rw[←hj,Array.getElem?_toList])
  exact ⟨t,by rw[e];congr 1;omega⟩
 ·rw[hD]
 ·exact I1.hok.fresh (by rw[hsz];exact Nat.le_succ _)
end
section
variable {X:Cx}
theorem kS {K:Frag}{H:Hp}:∀ ns:List Int,qQ K H (ns.map V.int) (ns.map PyData.int)
 | []=>.nil
 | n::ns=>.cons (.int n) (kS ns)
theorem rY:∀ ns:List Int,PyData.canLayAll0 (ns.map PyData.int)=true
 | []=>rfl
 | n::ns=>by
  show (PyData.canLay0 (.int n)&&PyData.canLayAll0 (ns.map PyData.int))=true
  rw[rY ns];rfl
theorem lG:∀ ns:List Int,PyData.depthAll (ns.map PyData.int)=0
 | []=>rfl
 | n::ns=>by
  show max (PyData.depth (.int n)) (PyData.depthAll (ns.map PyData.int))=0
  rw[lG ns];rfl
theorem fh (ns:List Int):SeqAt.shaped (.list (ns.map PyData.int))=true:=by
 unfold SeqAt.shaped
 have h1:PyData.canLay0 (.list (ns.map PyData.int))=true:=rY ns
 have h2:PyData.depth (.list (ns.map PyData.int))=1:=by
  show PyData.depthAll (ns.map PyData.int)+1=1
  rw[lG]
 rw[h1,h2];rfl
theorem nh:∀ ns ms:List Int,PyData.eqvAll (ns.map PyData.int) (ms.map PyData.int)=decide (ns=ms)
 | [],[]=>rfl
 | [],m::ms=>rfl
 | n::ns,[]=>rfl
 | n::ns,m::ms=>by
  show (PyData.eqv (.int n) (.int m)&&PyData.eqvAll (ns.map PyData.int) (ms.map PyData.int))=_
  rw[nh ns ms]
  show ((n==m)&&decide (ns=ms))=_
  by_cases h:n=m
  ·subst h
   simp
  ·have:(n==m)=false:=by simpa using h
   rw[this]
   simp[h]
def rEqI (K:Frag):R2:=fun x y H Q=>∃ (a b:Addr) (ns ms:List Int),x=.ref a∧y=.ref b∧SqL K H a (ns.map V.int)∧SqL K H b (ms.map V.int)∧Q (.bl (decide (ns=ms))) H
def rNeI (K:Frag):R2:=fun x y H Q=>∃ (a b:Addr) (ns ms:List Int),x=.ref a∧y=.ref b∧SqL K H a (ns.map V.int)∧SqL K H b (ms.map V.int)∧Q (.bl (!decide (ns=ms))) H
theorem Bn (hu:X.A.units+64<cLine):OpR X (compareOp .Eq) (rEqI X.K):=by
 intro pins s σ H x y v u Q I rx ry h
 obtain ⟨a,b,ns,ms,rfl,rfl,h1,h2,q⟩:=h
 refine Bo hu pins s σ H _ _ v u Q I rx ry ⟨_,_,.lst h1 (kS ns),.lst h2 (kS ms),fh ns,fh ms,?_⟩
 show Q (.bl (PyData.eqvAll _ _)) H
 rw[nh];exact q
theorem yX (hu:X.A.units+64<cLine):OpR X (compareOp .NotEq) (rNeI X.K):=by
 intro pins s σ H x y v u Q I rx ry h
 obtain ⟨a,b,ns,ms,rfl,rfl,h1,h2,q⟩:=h
 refine Bk hu pins s σ H _ _ v u Q I rx ry ⟨_,_,.lst h1 (kS ns),.lst h2 (kS ms),fh ns,fh ms,?_⟩
 show Q (.bl (!PyData.eqvAll _ _)) H
 rw[nh];exact q
end
def zs (x:List Nat):List Int:=x.map fun (k:Nat)=>(k:Int)
theorem iQ (x:List Nat):(zs x).map V.int=iv x:=by unfold zs iv;rw[map_map];rfl
theorem qR {x y:List Nat}:zs x=zs y↔x=y:=by
 constructor
 ·intro h
  have:∀ (x y:List Nat),zs x=zs y→x=y:=by
   intro x
   induction x with
   | nil=>intro y h;cases y with
    | nil=>rfl
    | cons _ _=>cases h
   | cons a x ih=>intro y h;cases y with
    | nil=>cases h
    | cons b y=>
     have h:(a:Int)::zs x=(b:Int)::zs y:=h
     obtain ⟨h1,h2⟩:=List.cons.inj h
     rw[ih y h2,Int.ofNat.inj h1]
  exact this x y h
 ·intro h;rw[h]
def fY (H:Hp)(Q:VK)(r:List Nat):Prop:=∀ (H':Hp) (p:Addr),H p=none→H' p=some (.lst (iv r))→az H H'→Q (.ref p) H'
theorem oA {H:Hp}{Q:VK}{r:List Nat}(k:fY H Q r):∀ l,H l=none→Q (.ref l) (upd H l (.lst (iv r))):=fun l hl=>
 k _ l hl ae fun c o e=>by rw[ai (am e hl)];exact e
structure Blt (mg:Str→Option Value):Prop where
 len:mg "len"=none
 range:mg "range"=none
 list:mg "list"=none
 enumerate:mg "enumerate"=none
 sorted:mg "sorted"=none
 min:mg "min"=none
 max:mg "max"=none
 all:mg "all"=none
 any:mg "any"=none
 set:mg "set"=none
 zip:mg "zip"=none
 tuple:mg "tuple"=none
theorem o6 {x:List Nat}{ns:List Int}(h:ns.Perm (zs x)):∃ y:List Nat,ns=zs y∧y.Perm x:=by
 refine ⟨ns.map Int.toNat,?_,?_⟩
 ·unfold zs
  rw[map_map]
  have:∀ a∈ns,a=((fun k:Nat=>(k:Int)) ∘ Int.toNat) a:=fun a ha=>by
   obtain ⟨k,_,rfl⟩:=mem_map.mp (h.mem_iff.mp ha)
   simp
  conv=>lhs;rw[←map_id ns]
  exact map_congr_left this
 ·have:=h.map Int.toNat
  unfold zs at this
  rw[map_map] at this
  have e:(Int.toNat ∘ fun k:Nat=>(k:Int))=id:=by funext k;simp
  rwa [e,map_id] at this
theorem nU (n:Nat):(zs (List.range n)).Pairwise (·≤·):=by
 unfold zs
 rw[pairwise_map]
 exact pairwise_lt_range.imp fun h=>by omega
theorem eh:∀ {l m:List Int},l.Pairwise (·≤·)→m.Pairwise (·≤·)→l.Perm m→l=m
 | [],m,_,_,h=>(nil_perm.mp h).symm
 | a::l,[],_,_,h=>by have:=h.length_eq;simp at this
 | a::l,b::m,hl,hm,h=>by
  rw[pairwise_cons] at hl hm
  have hab:a=b:=by
   have ha:a∈b::m:=h.mem_iff.mp (mem_cons_self ..)
   have hb:b∈a::l:=h.mem_iff.mpr (mem_cons_self ..)
   rcases Mc ha with e|e
   ·exact e
   ·rcases Mc hb with e'|e'
    ·exact e'.symm
    ·have h1:=hm.1 a e
     have h2:=hl.1 b e'
     omega
  subst hab
  rw[eh hl.2 hm.2 (perm_cons a |>.mp h)]
theorem bX {N ps:List Str}{S:Scope}(h:ao N ps S:=by exact ⟨rfl,rfl,rfl,by decide +kernel,rfl,by decide +kernel,by decide +kernel⟩):ao N ps S:=h
theorem okF {P:Program}{w:World}{K:Frag}{mg:Str→Option Value}{base:Heap}{x qual:Str}{st:Stmt}{f:Addr}{fd:FuncData}{N ps:List Str}{k:Nat}{sp:Sp}(F:Fun K x qual st f fd)(S:ao N ps (aj st))
  (hb:∀ (cdv:Value) (A:Around) (outer:List Env) (s:Shared) (H:Hp) (vs:List V) (Q:VK) (E:XK),bO k (A.deeper (envOfC qual (aj st) s.heap.objs.size f cdv))→sp vs H Q E→∃ t,PSs (AF CX0 P w K mg base N qual (aj st) f cdv A outer s H E).nox (du st) t∧t {nx:=fun _ H'=>Q .non H',rt:=Q} (start N vs) H)
  (len:∀ vs H Q E,sp vs H Q E→vs.length=ps.length:=by intro vs H Q E h;cases h;subst_vars;rfl):aZ P w K mg base CX0 (k+1) f fd ps sp:=F.ok S len hb
structure Cal (P:Program)(w:World)(K:Frag)(mg:Str→Option Value)(base:Heap)(k:Nat)(x:Str)(ps:List Str)(sp:Sp):Prop where
 ex:∃ (f:Addr) (fd:FuncData),aZ P w K mg base CX0 k f fd ps sp∧mg x=some (.ref f)∧keepIn K (.ref f)=true∧d4 K fd ps []
section
variable {X:Cx}
theorem ak {k:Nat}{x:Str}{ps:List Str}{sp:Sp}{p pos:Pos}{e:Expr}{es:List Expr}{t:TA}(C:Cal X.prog X.w X.K X.mg X.base k x ps sp)(hr:bO k X.A)(hg:Gl X x)(ha:PA X (e::es) t)
  (hdb:(x==("__debug__":Str))=false:=by decide)(he:starEach (e::es) X.env=(false,eval e X.env)::starEach es X.env:=by rfl)(hpl:(backTo pos (starEach es X.env)).any (·.1)=false:=by rfl):
  PE X (.Call (.Name x p) (e::es) [] pos) (AY sp [] E0 t):=by
 intro pins s σ H Q I h
 obtain ⟨f,fd,F,hm,hk,hb⟩:=C.ex
 refine wpAny_Call_Name_kw (mW I hg hm ?_ hdb)
 refine PySem.W.callWith_K (h₀:=X.base) I.ok.mod.kin hk (thn (ha pos pins s σ H _ I h) fun us s1 ⟨vs,H1,I1,r,q⟩=>⟨I1.kIn,?_⟩) he hpl
 exact uX F hr hb .nil (fun _ _ _ _ _ _ _ h=>h.elim) I1 r q
end
def wD (K:Frag)(p q:Nat):TG:=gTup K 2 (wE (oB p) (wE (oB q) gNil))
theorem eB {X:Cx}{p q:Nat}{x y:Str}{px py pos:Pos}{k:Nat}(hc:X.calm=true)(hN:X.N.Nodup)(hp:X.N[p]?=some x)(hq:X.N[q]?=some y)(lx:X.env.scope.names.lookup x=some .local)(ly:X.env.scope.names.lookup y=some .local) 
  (hn:(assignEach [.Name x px,.Name y py] X.env).length=2:=by rfl)(hst:(assignEach [.Name x px,.Name y py] X.env).findIdx? (·.1)=none:=by rfl)
  (h1:(assignEach [.Name x px,.Name y py] X.env).map (·.2)=assign (.Name x px) X.env::(assignEach [.Name y py] X.env).map (·.2):=by rfl)
  (h2:(assignEach [.Name y py] X.env).map (·.2)=assign (.Name y py) X.env::(assignEach [] X.env).map (·.2):=by rfl):PG X (.Tuple [.Name x px,.Name y py] k pos) (wD X.K p q):=
 yV hc (jJ (aG hN hp (.inl lx) (.inr lx)) (jJ (aG hN hq (.inl ly) (.inr ly)) vp h2) h1) hn hst
theorem dB {K:Frag}{a:Addr}{xs:List V}{p q:Nat}{tb:TS}{D:xj}{σ:L2.St}{H:Hp}(Pv:Nat→L2.St→Hp→Prop)(h0:Pv 0 σ H)(hl:∀ i σ H,i≤xs.length→Pv i σ H→SqL K H a xs)
  (hs:∀ (i:Nat) x σ H T,xs[i]?=some x→Pv i σ H→H T=none→tb {D with nx:=Pv (i+1),ct:=Pv (i+1),bk:=D.nx} ((σ.set p (some (.int (i:Nat)))).set q (some x)) (upd H T (.tup [.int (i:Nat),x])))(hd:∀ σ H,Pv xs.length σ H→D.nx σ H):
  ∃ W:Nat→Nat→L2.St→Hp→Prop,(∃ m,W 0 m σ H)∧∀ i m σ H,W i m σ H→
   ((Ite K a).stop i H∧D.nx σ H)∨((Ite K a).go i H∧∃ N:L2.St→Hp→Prop,(∀ σ' H',N σ' H'→∃ m',m'<m∧W (i+1) m' σ' H')∧∀ x H',(Ite K a).yld i H x H'→wD K p q x σ H' fun σ2 H2=>tb {D with nx:=N,ct:=N,bk:=D.nx} σ2 H2):=by
 refine ⟨fun i m σ H=>m=xs.length-i∧i≤xs.length∧Pv i σ H,⟨xs.length,by simp,Nat.zero_le _,h0⟩,?_⟩
 rintro i m σ H ⟨rfl,hi,pv⟩
 have sq:=hl i σ H hi pv
 by_cases hlt:i<xs.length
 ·refine .inr ⟨⟨xs,xs[i],sq,by simp[hlt]⟩,Pv (i+1),fun σ' H' p'=>⟨xs.length-(i+1),by omega,rfl,hlt,p'⟩,fun x H' y=>?_⟩
  obtain ⟨T,v,rfl,hT,rfl,hv⟩:=y
  exact ⟨T,_,rfl,SqT.of ae,rfl,_,_,rfl,_,_,rfl,rfl,hs i v σ H T (hv xs sq) pv hT⟩
 ·have e:i=xs.length:=by omega
  subst e
  exact .inl ⟨⟨xs,sq,Nat.le_refl _⟩,hd σ H pv⟩
theorem al {H H1:Hp}{p:Addr}{o:HO}(s:az H H1)(h:H1 p=none):az H (upd H1 p o):=fun c u e=>by
 rw[ai (am (s c u e) h)];exact s c u e
theorem aH {H H1:Hp}{p:Addr}{o:HO}(s:az H H1)(h:H p=none):az H (upd H1 p o):=fun c u e=>by
 rw[ai (am e h)];exact s c u e
end Bt
namespace Bt
open PySem PySem.Spec PyProof.Rows L2
open PySem.W (Codec)
def top (i:Nat):Stmt:=PySem.Challenge.pw_benchturns_s01_answers.main.body.getD i (.Pass ⟨0,0,0,0⟩)
abbrev pW:Stmt:=top 1
abbrev uE:Stmt:=top 2
abbrev mq:Stmt:=top 3
abbrev mz:Stmt:=top 4
abbrev gM:Stmt:=top 8
abbrev my:Stmt:=top 9
inductive bv (K:Frag) (vs:List V) (H:Hp) (Q:VK) (E:XK):Prop
 | mk (a b:Addr) (x y:List Nat):vs=[.ref a,.ref b]→SqL K H a (iv x)→SqL K H b (iv y)→x.length≤1000→(∀ k∈x,k<y.length)→fY H Q (Turn.mul x y)→bv K vs H Q E
inductive fc (vs:List V) (H:Hp) (Q:VK) (E:XK):Prop
 | mk (n:Nat):vs=[.int (n:Nat)]→n≤1000→fY H Q (Turn.still n)→fc vs H Q E
inductive l0 (K:Frag) (vs:List V) (H:Hp) (Q:VK) (E:XK):Prop
 | mk (a:Addr) (x:List Nat) (n:Nat):vs=[.ref a,.int (n:Nat)]→SqL K H a (iv x)→x.length<64→n≤1000→(∀ H':Hp,az H H'→Q (.bl (Turn.isTurn n x)) H')→l0 K vs H Q E
inductive eM (K:Frag) (vs:List V) (H:Hp) (Q:VK) (E:XK):Prop
 | mk (a:Addr) (x:List Nat) (n:Nat):vs=[.ref a]→SqL K H a (iv x)→Tt.IsT n x→n≤1000→fY H Q (Turn.inverse x)→eM K vs H Q E
def bg (x:List Nat):Nat:=(List.range x.length).findIdx fun i=>at_ x i != i
inductive d5 (K:Frag) (vs:List V) (H:Hp) (Q:VK) (E:XK):Prop
 | mk (a:Addr) (x:List Nat):vs=[.ref a]→SqL K H a (iv x)→x.length≤1000→(∀ H':Hp,az H H'→Q (.int (bg x:Nat)) H')→d5 K vs H Q E
inductive fH (K:Frag) (vs:List V) (H:Hp) (Q:VK) (E:XK):Prop
 | mk (a:Addr) (x:List Nat):vs=[.ref a]→SqL K H a (iv x)→x.length≤1000→(∀ H':Hp,az H H'→Q (.bl (decide (bg x=x.length))) H')→fH K vs H Q E
section
variable {P:Program} {w:World} {K:Frag} {mg:Str→Option Value} {base:Heap}
theorem j7:ao ["x","y","goal"] ["x","y"] (aj mq):=bX
theorem sP {f:Addr}{fd:FuncData}(F:Fun K "product" "product" mq f fd):aZ P w K mg base CX0 1 f fd ["x","y"] (bv K):=by
 refine okF F j7 (fun cdv A outer s H vs Q E hr h=>?_)
 ·obtain ⟨a,b,x,y,rfl,ha,hb,hn,hk,k⟩:=h
  refine ⟨_,ah (ax (gQ (own:=[("goal",2)]) rfl j7.nd (aP (pv 0)) (bn rfl) (fun _ _ _ _ _=>aG (i:=2) j7.nd rfl (Or.inl rfl)) (fun _ _ _ _ _=>cF) (fun _ _ _ _ _=>aL (r:=xE K) ay (pv 1) (pv 2) (fun _ _=>rfl)))),?_⟩
  refine ⟨_,rfl,a,rfl,⟨_,ha⟩,fun D hD=>de (K:=K) (a:=a) (xs:=iv x) (fun i H'=>az H H'∧H' D=some (.lst (iv (Turn.mul (x.take i) y)))) ⟨fun c o e=>by rw[ai (am e hD)];exact e,ae⟩ (fun i H' _ p=>p.1.seq ha) ?_ ?_⟩
  ·rintro i v H' hi ⟨s1,hD'⟩
   obtain ⟨j,hj,rfl⟩:=eW hi
   obtain ⟨u,hu⟩:∃ u,y[j]?=some u:=⟨_,getElem?_eq_getElem (hk j (mem_of_getElem? hj))⟩
   refine ⟨rfl,?_⟩
   refine ⟨_,rfl,_,rfl,b,_,_,_,rfl,rfl,s1.seq hb,aw (eF hu),_,hD',?_,?_,?_⟩
   ·rw[aO,Tt.cR,length_take]
    exact sz (by omega)
   ·intro c o e
    rw[ai (am e hD)]
    exact s1 c o e
   ·rw[ae,aC hj]
    unfold Turn.mul
    rw[map_append,map_singleton,lM hu,eE]
  ·rintro H' ⟨s1,hD'⟩
   rw[aO,take_length] at hD'
   exact k H' D hD hD' s1
theorem zC:ao ["things"] ["things"] (aj uE):=bX
theorem xS {f:Addr}{fd:FuncData}(F:Fun K "still_turn" "still_turn" uE f fd)(B:Blt mg):aZ P w K mg base CX0 1 f fd ["things"] fc:=by
 refine okF F zC (fun cdv A outer s H vs Q E hr h=>?_)
 ·obtain ⟨n,rfl,hn,k⟩:=h
  refine ⟨_,ah (ax (fQ rfl rfl B.list rfl B.range (aa (pv 0) af))),?_⟩
  exact ⟨_,rfl,n,rfl,by omega,oA k⟩
theorem xA:ao ["row","things"] ["row","things"] (aj pW):=bX
theorem vM {f:Addr}{fd:FuncData}(F:Fun K "is_turn" "is_turn" pW f fd)(B:Blt mg):aZ P w K mg base CX0 1 f fd ["row","things"] (l0 K):=by
 refine okF F xA (fun cdv A outer s H vs Q E hr h=>?_)
 ·obtain ⟨a,x,n,rfl,ha,hx,hn,k⟩:=h
  refine ⟨_,ah (ax (i5 (Bn hr.units) (aA oH rfl B.sorted boot_sorted (aa (pv 0) af)) (fQ rfl rfl B.list rfl B.range (aa (pv 1) af)) (be _))),?_⟩
  refine ⟨_,rfl,a,zs x,rfl,(by rw[iQ];exact ha),(by unfold zs;rw[length_map];exact hx),fun ns' p hp hsrt hpn=>?_⟩
  refine ⟨_,rfl,n,rfl,by omega,fun l hl=>⟨p,l,ns',zs (List.range n),rfl,rfl,SqL.of ?_,SqL.of ?_,?_⟩⟩
  ·have:l≠p:=fun q=>by rw[q,ae] at hl;cases hl
   rw[ai (fun q=>this q.symm),ae]
  ·rw[ae,iQ]
  ·have e:decide (ns'=zs (List.range n))=Turn.isTurn n x:=by
    rw[Bool.eq_iff_iff,decide_eq_true_iff,Tt.bC]
    obtain ⟨y,rfl,hy⟩:=o6 hp
    constructor
    ·intro h
     rw[qR] at h
     subst h
     exact Tt.IsT.of_perm hy.symm
    ·intro h
     refine eh hsrt (nU n) ?_
     exact (hy.trans h.perm).map _
   rw[e]
   refine k _ fun c o ec=>?_
   have h1:c≠p:=am ec hpn
   have h2:upd H p (.lst (ns'.map V.int)) c=some o:=by rw[ai h1];exact ec
   rw[ai (am h2 hl)]
   exact h2
def xq (x:List Nat)(i:Nat):List Nat:=(List.range i).foldl (fun l j=>l.set (at_ x j) j) (Turn.still x.length)
theorem jU (x:List Nat)(i:Nat):xq x (i+1)=(xq x i).set (at_ x i) i:=by
 unfold xq;rw[range_succ,foldl_append];rfl
theorem jE (x:List Nat):∀ i,(xq x i).length=x.length
 | 0=>Tt.bE _
 | i+1=>by rw[jU,length_set,jE x i]
theorem ug {n:Nat}{x:List Nat}(hx:Tt.IsT n x):∀ (i j:Nat),i≤n→j<i→at_ (xq x i) (at_ x j)=j
 | 0,j,_,h=>by omega
 | i+1,j,hi,hj=>by
  have hl:at_ x j<(xq x i).length:=by rw[jE,hx.len];exact hx.lt j (by omega)
  rw[jU,Tt.cU (by rw[length_set];exact hl),getElem_set]
  by_cases h:at_ x i=at_ x j
  ·rw[if_pos h];exact hx.inj i j (by omega) (by omega) h
  ·rw[if_neg h,←Tt.cU hl]
   have hne:j≠i:=fun q=>h (by rw[q])
   exact ug hx i j (by omega) (by omega)
theorem xp {n:Nat}{x:List Nat}(hx:Tt.IsT n x):xq x n=Turn.inverse x:=by
 refine Tt.IsT.ext (n:=n) (by rw[jE,hx.len]) (by rw[Tt.dP,hx.len]) fun j hj=>?_
 obtain ⟨i,hi,rfl⟩:=hx.surj hj
 rw[ug hx n i (Nat.le_refl _) hi,hx.inv_at hi]
theorem BC (x:List Nat)(i k:Nat):(iv x).set i (V.int (k:Nat))=iv (x.set i k):=by
 unfold iv;rw[map_set]
theorem j9:ao ["x","undone","place","goal"] ["x"] (aj mz):=bX
theorem sW {f:Addr}{fd:FuncData}(F:Fun K "inverse" "inverse" mz f fd)(B:Blt mg)(CS:Cal P w K mg base 1 "still_turn" ["things"] fc):aZ P w K mg base CX0 2 f fd ["x"] (eM K):=by
 refine okF F j9 (fun cdv A outer s H vs Q E hr h=>?_)
 ·obtain ⟨a,x,n,rfl,ha,hx,hn,k⟩:=h
  refine ⟨_,ag (aq (i:=1) j9.nd rfl (Or.inl rfl) (ak CS hr rfl (aa (aA au rfl B.len PySem.boot_len (aa (pv 0) af)) af)))
   (ag (bw PassesOwn.never rfl (eu rfl B.enumerate (aa (pv 0) af)) (eB (p:=2) (q:=3) rfl j9.nd rfl rfl rfl rfl)
    (ah (nW (pv 2) (n4 (pv 1) (pv 3) iu))))
   (ah (ax (pv 1)))),?_⟩
  refine ⟨_,rfl,a,_,rfl,.inl ha,n,by rw[aO,hx.len];rfl,hn,fun H1 u hu hu1 s1=>?_⟩
  refine ⟨_,rfl,a,_,rfl,s1.seq ha,dB (K:=K) (a:=a) (xs:=iv x) (fun i σ H'=>∃ v2 v3:Option V,σ=[some (.ref a),some (.ref u),v2,v3]∧az H H'∧H' u=some (.lst (iv (xq x i))))
   ⟨none,none,rfl,s1,by rw[hu1];unfold xq;rw[hx.len];rfl⟩ (fun i σ H' _ ⟨_,_,_,s2,_⟩=>s2.seq ha) ?_ ?_⟩
  ·rintro i v σ H' T hi ⟨v2,v3,rfl,s2,hu2⟩ hT
   obtain ⟨g,hg,rfl⟩:=eW hi
   have hin:i<n:=by rw[←hx.len];exact (Gq hg).1
   have eg:at_ x i=g:=lM hg
   have hgl:g<n:=by rw[←eg];exact hx.lt i hin
   have hTu:u≠T:=am hu2 hT
   refine ⟨_,rfl,_,rfl,_,rfl,u,_,(g:Int),g,rfl,rfl,(by rw[ai hTu];exact hu2),?_,_,_,rfl,aH (al s2 hT) hu,?_⟩
   ·unfold ixN
    rw[aO,jE,hx.len,if_pos (by omega),if_pos (by omega)]
    simp
   ·rw[ae,BC,jU,eg]
  ·rintro σ H' ⟨v2,v3,rfl,s2,hu2⟩
   rw[aO,hx.len,xp hx] at hu2
   exact ⟨_,rfl,k H' u hu hu2 s2⟩
theorem fu {x:List Nat}{i:Nat}(hi:i<x.length)(h:at_ x i≠i)(hb:∀ j,j<i→at_ x j=j):bg x=i:=by
 unfold bg
 rw[findIdx_eq (by rw[length_range];exact hi)]
 refine ⟨by rw[getElem_range];simpa using h,fun j hj=>?_⟩
 rw[getElem_range]
 simpa using hb j hj
theorem dU {x:List Nat}(hb:∀ j,j<x.length→at_ x j=j):bg x=x.length:=by
 unfold bg
 have:=findIdx_eq_length_of_false (xs:=List.range x.length) (p:=fun i=>at_ x i != i) (fun i hi=>by simpa using hb i (mem_range.mp hi))
 rw[this,length_range]
theorem lw {a b:V}{A B:Prop}(h1:a≠b→A)(h2:a=b→B):if (!decide (a=b))=true then A else B:=by
 by_cases h:a=b
 ·rw[decide_eq_true h];exact nD (h2 h)
 ·rw[decide_eq_false h];exact oy (h1 h)
theorem wv {a b:V}{A B:Prop}(h1:a=b→A)(h2:a≠b→B):if (decide (a=b))=true then A else B:=by
 by_cases h:a=b
 ·rw[decide_eq_true h];exact oy (h1 h)
 ·rw[decide_eq_false h];exact nD (h2 h)
theorem jn:ao ["x","place","goal"] ["x"] (aj gM):=bX
theorem mQ {f:Addr}{fd:FuncData}(F:Fun K "places_left_before_moving" "places_left_before_moving" gM f fd)(B:Blt mg):aZ P w K mg base CX0 1 f fd ["x"] (d5 K):=by
 refine okF F jn (fun cdv A outer s H vs Q E hr h=>?_)
 ·obtain ⟨a,x,rfl,ha,hn,k⟩:=h
  refine ⟨_,ag (bw PassesOwn.never rfl (eu rfl B.enumerate (aa (pv 0) af)) (eB (p:=1) (q:=2) rfl jn.nd rfl rfl rfl rfl)
    (ah (dz (aU xO (pv 2) (pv 1) (be _)) (ah (ax (pv 1))) bi)))
   (ah (ax (aA au rfl B.len PySem.boot_len (aa (pv 0) af)))),?_⟩
  refine ⟨_,rfl,a,_,rfl,ha,dB (K:=K) (a:=a) (xs:=iv x) (fun i σ H'=>∃ v1 v2:Option V,σ=[some (.ref a),v1,v2]∧az H H'∧∀ j,j<i→at_ x j=j)
   ⟨none,none,rfl,az.refl _,fun j hj=>by omega⟩ (fun i σ H' _ ⟨_,_,_,s2,_⟩=>s2.seq ha) ?_ ?_⟩
  ·rintro i v σ H' T hi ⟨v1,v2,rfl,s2,hb⟩ hT
   obtain ⟨g,hg,rfl⟩:=eW hi
   have hin:i<x.length:=(Gq hg).1
   have eg:at_ x i=g:=lM hg
   refine ⟨_,rfl,_,rfl,rfl,_,rfl,lw (fun h=>?_) fun h=>?_⟩
   ·have hne:g≠i:=fun q=>h (by rw[q])
    have:=k (upd H' T (.tup [.int (i:Nat),.int (g:Nat)])) (al s2 hT)
    rw[fu hin (by rw[eg];exact hne) hb] at this
    exact ⟨_,rfl,this⟩
   ·refine ⟨_,_,rfl,al s2 hT,fun j hj=>?_⟩
    by_cases e:j=i
    ·have h':(g:Int)=(i:Int):=V.int.inj h
     rw[e,eg];omega
    ·exact hb j (by omega)
  ·rintro σ H' ⟨v1,v2,rfl,s2,hb⟩
   rw[aO] at hb
   refine ⟨_,rfl,a,_,rfl,.inl (s2.seq ha),?_⟩
   have:=k H' s2
   rw[dU hb] at this
   rw[aO]
   exact this
theorem uz:ao ["x"] ["x"] (aj my):=bX
theorem sV {f:Addr}{fd:FuncData}(F:Fun K "is_still" "is_still" my f fd)(B:Blt mg)(CL:Cal P w K mg base 1 "places_left_before_moving" ["x"] (d5 K)):aZ P w K mg base CX0 2 f fd ["x"] (fH K):=by
 refine okF F uz (fun cdv A outer s H vs Q E hr h=>?_)
 ·obtain ⟨a,x,rfl,ha,hn,k⟩:=h
  refine ⟨_,ah (ax (i5 mO (ak CL hr rfl (aa (pv 0) af)) (aA au rfl B.len PySem.boot_len (aa (pv 0) af)) (be _))),?_⟩
  refine ⟨_,rfl,a,x,rfl,ha,hn,fun H1 s1=>⟨_,rfl,a,_,rfl,.inl (s1.seq ha),rfl,?_⟩⟩
  have e:decide (V.int (bg x:Nat)=V.int ((iv x).length:Nat))=decide (bg x=x.length):=by
   rw[aO,Bool.eq_iff_iff,decide_eq_true_iff,decide_eq_true_iff]
   constructor
   ·intro h;have:=V.int.inj h;omega
   ·intro h;rw[h]
  rw[e]
  exact k H1 s1
end
end Bt
namespace Bt
open PySem PySem.Spec PyProof.Rows L2
open PySem.W (Codec)
open Tt (Tab tU TOk aR md bS aE Grp IsT)
abbrev pO:Stmt:=top 23
abbrev kb:Stmt:=top 24
abbrev pU:Stmt:=top 25
abbrev mH:Stmt:=top 26
abbrev uN:Stmt:=top 27
abbrev gN:Stmt:=top 28
abbrev i3:Stmt:=top 29
abbrev uJ:Stmt:=top 30
abbrev pM:Stmt:=top 31
abbrev ke:Stmt:=top 32
def dv (K:Frag)(H:Hp)(v:V):Option Turn.Row→Prop
 | none=>v=.non
 | some x=>∃ e,v=.ref e∧SqL K H e (iv x)
structure fw (K:Frag)(H:Hp)(vs:List V)(c:List (Option Turn.Row)):Prop where
 len:vs.length=c.length
 cell:∀ (j:Nat) (v:V) (x:Option Turn.Row),vs[j]?=some v→c[j]?=some x→dv K H v x
structure bt (K:Frag)(H:Hp)(t:Addr)(rs:List Addr)(T:Tab):Prop where
 lst:H t=some (.lst (rs.map V.ref))
 len:rs.length=T.length
 nd:rs.Nodup
 tn:t∉rs
 row:∀ (i:Nat) (r:Addr),rs[i]?=some r→∃ (vs:List V) (c:List (Option Turn.Row)),T[i]?=some c∧H r=some (.lst vs)∧fw K H vs c
def Rf (H:Hp)(M:List Addr)(e:Addr):Prop:=∃ m∈M,∃ xs,H m=some (.lst xs)∧V.ref e∈xs
theorem Rf.back {H H':Hp}{M:List Addr}{e:Addr}(s:∀ m∈M,∀ o,H m=some o→H' m=some o)(t:∀ m∈M,H m≠none)(h:Rf H' M e):Rf H M e:=by
 obtain ⟨m,hm,xs,h1,h2⟩:=h
 cases q:H m with
 | none=>exact absurd q (t m hm)
 | some o=>
  have:=s m hm o q
  rw[h1] at this
  cases this
  exact ⟨m,hm,xs,q,h2⟩
def New (H H':Hp)(e:Addr):Prop:=H e=none∧H' e≠none
theorem there {H:Hp}{e:Addr}{o:HO}(h:H e=some o):H e≠none:=fun z=>by rw[h] at z;cases z
theorem cb {H H':Hp}(s:az H H'){e:Addr}(h:H e≠none):H' e≠none:=by
 cases q:H e with
 | none=>exact absurd q h
 | some o=>exact there (s e o q)
theorem cS {H:Hp}{p:Addr}{o:HO}{e:Addr}(h:H e≠none):upd H p o e≠none:=by
 by_cases q:e=p
 ·rw[q,ae];exact fun z=>by cases z
 ·rw[ai q];exact h
section
variable {K:Frag} {H H':Hp}
theorem dv.same (s:az H H'){v:V}{x:Option Turn.Row}(h:dv K H v x):dv K H' v x:=by
 cases x with
 | none=>exact h
 | some x=>obtain ⟨e,h1,h2⟩:=h;exact ⟨e,h1,s.seq h2⟩
theorem fw.same (s:az H H'){vs:List V}{c:List (Option Turn.Row)}(h:fw K H vs c):fw K H' vs c:=
 ⟨h.len,fun j v x h1 h2=>(h.cell j v x h1 h2).same s⟩
theorem bt.same (s:az H H'){t:Addr}{rs:List Addr}{T:Tab}(h:bt K H t rs T):bt K H' t rs T:=
 ⟨s _ _ h.lst,h.len,h.nd,h.tn,fun i r hi=>by
  obtain ⟨vs,c,h1,h2,h3⟩:=h.row i r hi
  exact ⟨vs,c,h1,s _ _ h2,h3.same s⟩⟩
end
theorem gG {K:Frag}{H:Hp}{t e:Addr}{o o':HO}{xs:List V}(h:SqL K H e xs)(ht:H t=some o')(hne:o'≠.lst xs)(hf:∀ ob,o'≠.frz ob (.lst xs)):SqL K (upd H t o) e xs:=by
 rcases h with (h|⟨ob,h⟩)|h
 ·exact .inl (.inl (by rw[ai (yq h ht (fun q=>hne q.symm))];exact h))
 ·exact .inl (.inr ⟨ob,by rw[ai (yq h ht (fun q=>hf ob q.symm))];exact h⟩)
 ·exact .inr h
theorem vc {rs:List Addr}(h:rs≠[])(x:List Nat):HO.lst (rs.map V.ref)≠.lst (iv x):=by
 intro q
 have q:=HO.lst.inj q
 cases rs with
 | nil=>exact h rfl
 | cons a rs=>
  cases x with
  | nil=>cases q
  | cons b x=>cases (List.cons.inj q).1
theorem dv.keep {K:Frag}{H:Hp}{t:Addr}{o o':HO}{v:V}{x:Option Turn.Row}(h:dv K H v x)(ht:H t=some o')(hne:∀ x:List Nat,o'≠.lst (iv x))(hf:∀ ob u,o'≠.frz ob u):dv K (upd H t o) v x:=by
 cases x with
 | none=>exact h
 | some x=>obtain ⟨e,h1,h2⟩:=h;exact ⟨e,h1,gG h2 ht (hne x) (fun ob=>hf ob _)⟩
theorem bt.cell {K:Frag}{H:Hp}{t:Addr}{rs:List Addr}{T:Tab}{n:Nat}(h:bt K H t rs T)(ok:TOk n T){i j:Nat}{r:Addr}(hi:rs[i]?=some r)(hj:j<n):
  ∃ (vs:List V) (v:V),H r=some (.lst vs)∧vs.length=n∧vs[j]?=some v∧dv K H v (tU T i j):=by
 obtain ⟨vs,c,h1,h2,h3⟩:=h.row i r hi
 have hc:=ok.row i c h1
 have hv:j<vs.length:=by rw[h3.len,hc];exact hj
 refine ⟨vs,vs[j],h2,by rw[h3.len,hc],getElem?_eq_getElem hv,?_⟩
 have hcj:j<c.length:=by omega
 have:=h3.cell j vs[j] c[j] (getElem?_eq_getElem hv) (getElem?_eq_getElem hcj)
 rw[Tt.ik h1,Tt.bW (getElem?_eq_getElem hcj)]
 exact this
def zf (n:Nat)(T:Tab):Prop:=∀ i j e,tU T i j=some e→IsT n e
inductive gb (K:Frag) (vs:List V) (H:Hp) (Q:VK) (E:XK):Prop
 | mk (t a:Addr) (rs:List Addr) (T:Tab) (x:List Nat) (n:Nat):vs=[.ref t,.ref a]→bt K H t rs T→SqL K H a (iv x)→TOk n T→zf n T→IsT n x→n≤9→(∀ (H':Hp) (p:Addr),SqL K H' p (iv (Tt.fE (tU T) n 0 x))→(p=a∨New H H' p)→az H H'→Q (.ref p) H')→gb K vs H Q E
structure aF (K:Frag)(H:Hp)(es:List Addr)(l:List Turn.Row):Prop where
 len:es.length=l.length
 at_:∀ (i:Nat) (e:Addr) (x:Turn.Row),es[i]?=some e→l[i]?=some x→SqL K H e (iv x)
theorem aF.same {K:Frag}{H H':Hp}(s:az H H'){es:List Addr}{l:List Turn.Row}(h:aF K H es l):aF K H' es l:=⟨h.len,fun i e x h1 h2=>s.seq (h.at_ i e x h1 h2)⟩
theorem aF.nil {K:Frag}{H:Hp}:aF K H [] []:=⟨rfl,fun i e x h=>by simp at h⟩
theorem aF.snoc {K:Frag}{H:Hp}{es:List Addr}{l:List Turn.Row}{e:Addr}{x:Turn.Row}(h:aF K H es l)(he:SqL K H e (iv x)):aF K H (es++[e]) (l++[x]):=by
 refine ⟨by rw[length_append,length_append,h.len];rfl,fun i e' x' h1 h2=>?_⟩
 rw[getElem?_append] at h1 h2
 rw[h.len] at h1
 split at h1
 ·rename_i hlt
  rw[if_pos hlt] at h2
  exact h.at_ i e' x' h1 h2
 ·rename_i hlt
  rw[if_neg hlt] at h2
  have:i-l.length=0:=by
   have:=(Gq h1).1
   rw[length_singleton] at this;omega
  rw[this] at h1 h2
  simp at h1 h2
  subst h1;subst h2
  exact he
theorem aF.get {K:Frag}{H:Hp}{es:List Addr}{l:List Turn.Row}(h:aF K H es l){i:Nat}{e:Addr}(he:es[i]?=some e):∃ x,l[i]?=some x∧SqL K H e (iv x):=by
 have hi:i<l.length:=by rw[←h.len];exact (Gq he).1
 exact ⟨_,getElem?_eq_getElem hi,h.at_ i e _ he (getElem?_eq_getElem hi)⟩
inductive lY (K:Frag) (vs:List V) (H:Hp) (Q:VK) (E:XK):Prop
 | mk (t:Addr) (rs:List Addr) (T:Tab) (n:Nat):vs=[.ref t]→bt K H t rs T→TOk n T→n≤9→(∀ (H':Hp) (p:Addr) (es:List Addr),H p=none→H' p=some (.lst (es.map V.ref))→aF K H' es (Tt.gx T)→az H H'→Q (.ref p) H')→lY K vs H Q E
inductive il (K:Frag) (vs:List V) (H:Hp) (Q:VK) (E:XK):Prop
 | mk (n:Nat):vs=[.int (n:Nat)]→n≤9→(∀ (H':Hp) (t:Addr) (rs:List Addr),H t=none→(∀ r∈rs,H r=none)→t∉rs→bt K H' t rs (aR n)→(∀ e,Rf H' rs e→New H H' e)→az H H'→Q (.ref t) H')→il K vs H Q E
section
variable {P:Program} {w:World} {K:Frag} {mg:Str→Option Value} {base:Heap}
theorem iy:ao ["things","table","place","row","goal"] ["things"] (aj pO):=bX
theorem vF {f:Addr}{fd:FuncData}(F:Fun K "table_without_turns" "table_without_turns" pO f fd)(B:Blt mg)(CS:Cal P w K mg base 1 "still_turn" ["things"] fc):aZ P w K mg base CX0 2 f fd ["things"] (il K):=by
 refine okF F iy (fun cdv A outer s H vs Q E hr h=>?_)
 ·obtain ⟨n,rfl,hn,k⟩:=h
  refine ⟨_,ag (aq (i:=1) iy.nd rfl (Or.inl rfl) (aV af))
   (ag (bw PassesOwn.never rfl (iG rfl B.range (aa (pv 0) af)) (aG (i:=2) iy.nd rfl (Or.inl rfl))
    (ag (jI (i:=3) (own:=[("goal",4)]) rfl iy.nd rfl rfl (lV rfl rfl rfl rfl) (iG rfl B.range (aa (pv 0) af)) (bn rfl) (fun _ _ _ _ _=>aG (i:=4) iy.nd rfl (Or.inl rfl)) (fun _ _ _ _ _=>cF) (fun _ _ _ _ _=>rn))
    (ag (nW (ak CS hr rfl (aa (pv 0) af)) (n4 (pv 3) (pv 2) iu))
    (ah (aX (eD PySem.F.plainAttrs_list PySem.F.slot_list_append PySem.F.type_list_append bZ (pv 1) (aa (pv 3) af)))))))
   (ah (ax (pv 1)))),?_⟩
  refine ⟨Nat.zero_le _,fun t ht=>?_⟩
  refine ⟨_,rfl,(n:Int),rfl,by omega,by omega,wG (n:=n) (fun i σ H'=>∃ (v2 v3 v4:Option V) (rs:List Addr),σ=[some (.int (n:Nat)),some (.ref t),v2,v3,v4]∧(∀ r∈rs,H r=none)∧t∉rs∧bt K H' t rs ((aR n).take i)∧(∀ e,Rf H' rs e→New H H' e)∧az H H')
   ⟨none,none,none,[],rfl,fun r hr=>(by cases hr),fun q=>(by cases q),⟨ae,rfl,nodup_nil,fun q=>(by cases q),fun i r hi=>by simp at hi⟩,fun e ⟨m,hm,_⟩=>(by cases hm),al (az.refl _) ht⟩ ?_ ?_⟩
  ·rintro i σ H' hi ⟨v2,v3,v4,rs,rfl,hrs,htr,hT,hrf,s1⟩
   have ez:(0:Int)+(i:Nat)=((i:Nat):Int):=by omega
   rw[ez]
   refine ⟨_,rfl,(n:Int),rfl,by omega,by omega,fun r hr=>jN (n:=n) (fun j H2=>az H' H2∧H2 r=some (.lst (List.replicate j V.non))) ⟨al (az.refl _) hr,ae⟩ ?_ ?_⟩
   ·rintro j H2 hj ⟨s2,hr2⟩
    refine ⟨rfl,?_⟩
    refine ⟨_,hr2,?_,aH s2 hr,?_⟩
    ·rw[length_replicate];exact sz (by omega)
    ·rw[ae,replicate_succ']
   ·rintro H2 ⟨s2,hr2⟩
    refine ⟨_,rfl,n,rfl,by omega,fun H3 e he he3 s3=>?_⟩
    have hr3:H3 r=some (.lst (List.replicate n V.non)):=s3 _ _ hr2
    have ner:e≠r:=fun q=>by rw[q,hr2] at he;cases he
    refine ⟨_,rfl,_,rfl,r,_,(i:Int),i,rfl,rfl,hr3,?_,?_⟩
    ·unfold ixN
     rw[length_replicate,if_pos (by omega),if_pos (by omega)]
     simp
    have sT:az H' (upd H3 r (.lst ((List.replicate n V.non).set i (.ref e)))):=aH (s2.trans s3) hr
    have hT2:=hT.same sT
    have hHr:H r=none:=s1.free hr
    have htr':t≠r:=am hT.lst hr
    refine ⟨_,rfl,.inl ⟨rfl,_,SqL.of hT2.lst⟩,_,rfl,t,_,_,rfl,rfl,hT2.lst,?_,?_⟩
    ·rw[length_map,hT.len,length_take]
     exact sz (by omega)
    have s4:az H (upd (upd H3 r (.lst ((List.replicate n V.non).set i (.ref e)))) t (.lst (rs.map V.ref++[V.ref r]))):=aH (s1.trans sT) ht
    have tn':t∉rs++[r]:=fun hq=>by
     rcases Ma hq with hq|hq
     ·exact htr hq
     ·exact htr' (Ms hq)
    refine ⟨_,_,_,rs++[r],rfl,?_,tn',⟨?_,?_,?_,tn',?_⟩,?_,s4⟩
    ·intro q hq
     rcases Ma hq with hq|hq
     ·exact hrs q hq
     ·rw[Ms hq];exact hHr
    ·rw[ae,map_append];rfl
    ·rw[length_append,length_singleton,hT.len,length_take,length_take,(Tt.cq n).len]
     omega
    ·have hrn:r∉rs:=fun q=>by
      obtain ⟨a,ha⟩:=getElem?_of_mem q
      obtain ⟨vs,c,_,h2,_⟩:=hT.row a r ha
      rw[h2] at hr;cases hr
     rw[nodup_append]
     exact ⟨hT.nd,by simp,fun a ha b hb q=>by rw[Ms hb] at q;rw[q] at ha;exact hrn ha⟩
    ·intro a q hq
     have hlen:rs.length=i:=by rw[hT.len,length_take,(Tt.cq n).len];omega
     rw[getElem?_append] at hq
     split at hq
     ·obtain ⟨vs,c,h1,h2,h3⟩:=hT2.row a q hq
      have hqt:q≠t:=fun z=>htr (by rw[←z];exact mem_of_getElem? hq)
      refine ⟨vs,c,?_,by rw[ai hqt];exact h2,⟨h3.len,fun j v x k1 k2=>?_⟩⟩
      ·rw[getElem?_take] at h1 ⊢
       split at h1
       ·rw[if_pos (by omega)];exact h1
       ·cases h1
      ·have hne:rs≠[]:=fun z=>by rw[z] at hq;simp at hq
       exact (h3.cell j v x k1 k2).keep hT2.lst (vc hne) (fun _ _=>by intro z;cases z)
     ·rename_i hlt
      have ha:a=i:=by
       have:=(Gq hq).1
       rw[length_singleton] at this
       omega
      subst ha
      have hqr:q=r:=by rw[hlen,Nat.sub_self] at hq;simpa using hq.symm
      subst hqr
      refine ⟨(List.replicate n V.non).set a (.ref e),(List.replicate n none).set a (some (Turn.still n)),?_,?_,⟨?_,fun j v x k1 k2=>?_⟩⟩
      ·rw[getElem?_take,if_pos (by omega)]
       unfold aR
       rw[getElem?_map,getElem?_range hi];rfl
      ·rw[ai (fun z=>htr' z.symm),ae]
      ·rw[length_set,length_set,length_replicate,length_replicate]
      ·have het:e≠t:=fun z=>by rw[z,s2 _ _ hT.lst] at he;cases he
       have hjn:j<n:=by
        have:=(Gq k1).1
        rwa [length_set,length_replicate] at this
       by_cases hja:j=a
       ·subst hja
        rw[getElem?_set_self (by rw[length_replicate];exact hjn)] at k1 k2
        cases k1;cases k2
        exact ⟨e,rfl,SqL.of (by rw[ai het,ai ner];exact he3)⟩
       ·rw[getElem?_set_ne (fun z=>hja z.symm),getElem?_replicate,if_pos hjn] at k1 k2
        cases k1;cases k2
        rfl
    ·rintro e' ⟨m,hm,xs,h1,h2⟩
     have hmt:m≠t:=fun z=>tn' (by rw[←z];exact hm)
     rw[ai hmt] at h1
     rcases Ma hm with hm|hm
     ·have hmr:m≠r:=fun z=>by
       obtain ⟨a,ha⟩:=getElem?_of_mem hm
       obtain ⟨_,_,_,w2,_⟩:=hT.row a m ha
       rw[z,hr] at w2;cases w2
      rw[ai hmr] at h1
      have gr:∀ c,H' c≠none→upd (upd H3 r (.lst ((List.replicate n V.non).set i (.ref e)))) t (.lst (rs.map V.ref++[V.ref r])) c≠none:=fun c hc=>cS (cS (cb s3 (cb s2 hc)))
      refine (fun z:New H H' e'=>(⟨z.1,gr e' z.2⟩:New H _ e')) (hrf e' ⟨m,hm,xs,?_,h2⟩)
      obtain ⟨a,ha⟩:=getElem?_of_mem hm
      obtain ⟨vs,_,_,w2,_⟩:=hT.row a m ha
      have:=s3 _ _ (s2 _ _ w2)
      rw[h1] at this
      cases this
      exact w2
     ·rw[Ms hm,ae] at h1
      cases h1
      rcases mem_or_eq_of_mem_set h2 with z|z
      ·have:=eq_of_mem_replicate z
       cases this
      ·cases z
       exact ⟨s1.free (s2.free he),cS (cS (there he3))⟩
  ·rintro σ H' ⟨v2,v3,v4,rs,rfl,hrs,htr,hT,hrf,s1⟩
   rw[take_of_length_le (by rw[(Tt.cq n).len];exact Nat.le_refl _)] at hT
   exact ⟨_,rfl,k H' t rs ht hrs htr hT hrf s1⟩
theorem BD {a:V}{A B:Prop}(h1:a=.non→A)(h2:a≠.non→B):if (decide (a=.non))=true then A else B:=by
 by_cases h:a=.non
 ·rw[decide_eq_true h];exact oy (h1 h)
 ·rw[decide_eq_false h];exact nD (h2 h)
theorem eP:ao ["table","x","left","place","row","kept"] ["table","x"] (aj kb):=bX
theorem qo {f:Addr}{fd:FuncData}(F:Fun K "what_is_left" "what_is_left" kb f fd)(B:Blt mg)(CP:Cal P w K mg base 1 "product" ["x","y"] (bv K))(CI:Cal P w K mg base 2 "inverse" ["x"] (eM K)):
  aZ P w K mg base CX0 3 f fd ["table","x"] (gb K):=by
 refine okF F eP (fun cdv A outer s H vs Q E hr h=>?_)
 ·obtain ⟨t,a,rs,T,x,n,rfl,hT,ha,ok,en,hx,hn,k⟩:=h
  have hr1:bO 1 _:=hr.mono (by decide)
  refine ⟨_,ag (aq (i:=2) eP.nd rfl (Or.inl rfl) (pv 1))
   (ag (bw PassesOwn.never rfl (eu rfl B.enumerate (aa (pv 0) af)) (eB (p:=3) (q:=4) rfl eP.nd rfl rfl rfl rfl)
    (ag (aq (i:=5) eP.nd rfl (Or.inl rfl) (aL ay (pv 4) (aL ay (pv 2) (pv 3) (fun _ _=>rfl)) (fun _ _=>rfl)))
    (ag (dz (aU Bl (pv 5) rn (be _)) (ah (ax (pv 2))) bi)
    (ah (aq (i:=2) eP.nd rfl (Or.inl rfl) (ak CP hr1 rfl (aa (pv 2) (aa (ak CI hr rfl (aa (pv 5) af)) af))))))))
   (ah (ax (pv 2)))),?_⟩
  refine ⟨_,rfl,_,rfl,t,_,rfl,SqL.of hT.lst,dB (K:=K) (a:=t) (xs:=rs.map V.ref) (fun i σ H'=>∃ (v3 v4 v5:Option V) (p:Addr) (y:List Nat),σ=[some (.ref t),some (.ref a),some (.ref p),v3,v4,v5]∧SqL K H' p (iv y)∧IsT n y∧(p=a∨New H H' p)∧az H H'∧Tt.fE (tU T) (n-i) i y=Tt.fE (tU T) n 0 x)
   ⟨none,none,none,a,x,rfl,ha,hx,.inl rfl,az.refl _,rfl⟩ (fun i σ H' _ ⟨_,_,_,_,_,_,_,_,_,s2,_⟩=>SqL.of (s2 _ _ hT.lst)) ?_ ?_⟩
  ·rintro i v σ H' S hi ⟨v3,v4,v5,p,y,rfl,hp,hy,hpf,s1,hl⟩ hS
   rw[getElem?_map] at hi
   obtain ⟨r,hr1',rfl⟩:=Oq hi
   have hin:i<n:=by
    have:=(Gq hr1').1
    rw[hT.len,ok.len] at this;exact this
   have s2:az H (upd H' S (.tup [.int (i:Nat),.ref r])):=al s1 hS
   have sS:az H' (upd H' S (.tup [.int (i:Nat),.ref r])):=al (az.refl _) hS
   obtain ⟨vs,v,h1,h2,h3,h4⟩:=(hT.same s2).cell ok hr1' (hy.lt i hin)
   have hyi:y[i]?=some (at_ y i):=by
    rw[getElem?_eq_getElem (hy.len.symm▸hin),Tt.cU (hy.len.symm▸hin)]
   refine ⟨_,rfl,_,rfl,_,rfl,p,_,_,_,rfl,rfl,sS.seq hp,aw (eF hyi),r,_,_,_,rfl,rfl,SqL.of h1,aw h3,?_⟩
   have hun:Tt.fE (tU T) (n-i) i y=match tU T i (at_ y i) with
     | none=>y
     | some e=>Tt.fE (tU T) (n-(i+1)) (i+1) (Turn.mul y (Turn.inverse e)):=by
    have:n-i=(n-(i+1))+1:=by omega
    rw[this];rfl
   refine ⟨_,rfl,rfl,_,rfl,BD (fun hv=>?_) fun hv=>?_⟩
   ·cases e:tU T i (at_ y i) with
    | some u=>
     rw[e] at h4
     obtain ⟨_,z,_⟩:=h4
     rw[z] at hv;cases hv
    | none=>
     rw[e] at hun
     refine ⟨_,rfl,k _ p ?_ (hpf.imp id fun w=>⟨w.1,cb sS w.2⟩) s2⟩
     rw[←hl,hun]
     exact sS.seq hp
   ·cases e:tU T i (at_ y i) with
    | none=>
     rw[e] at h4
     exact absurd h4 hv
    | some u=>
     rw[e] at h4 hun
     obtain ⟨ea,rfl,he⟩:=h4
     have uT:=en _ _ _ e
     refine ⟨_,rfl,_,rfl,ea,u,n,rfl,he,uT,by omega,fun H3 q hq hq3 s3=>?_⟩
     refine ⟨p,q,y,Turn.inverse u,rfl,s3.seq (sS.seq hp),SqL.of hq3,(by rw[hy.len];omega),fun c hc=>by rw[Tt.dP,uT.len];exact hy.mem.mp hc,fun H4 q4 h5 h6 s4=>?_⟩
     refine ⟨_,_,_,q4,Turn.mul y (Turn.inverse u),rfl,SqL.of h6,hy.mul uT.inverse,.inr ⟨s2.free (s3.free h5),there h6⟩,s2.trans (s3.trans s4),?_⟩
     rw[←hl,hun]
  ·rintro σ H' ⟨v3,v4,v5,p,y,rfl,hp,hy,hpf,s1,hl⟩
   have e:n-(rs.map V.ref).length=0:=by rw[length_map,hT.len,ok.len];omega
   rw[e] at hl
   refine ⟨_,rfl,k H' p ?_ hpf s1⟩
   rw[←hl]
   exact hp
theorem jH:ao ["table","moving","place","row","goal","kept"] ["table"] (aj pU):=bX
theorem vK {f:Addr}{fd:FuncData}(F:Fun K "moving_turns" "moving_turns" pU f fd)(B:Blt mg):aZ P w K mg base CX0 1 f fd ["table"] (lY K):=by
 refine okF F jH (fun cdv A outer s H vs Q E hr h=>?_)
 ·obtain ⟨t,rs,T,n,rfl,hT,ok,hn,k⟩:=h
  refine ⟨_,ag (aq (i:=1) jH.nd rfl (Or.inl rfl) (aV af))
   (ag (bw PassesOwn.never rfl (eu rfl B.enumerate (aa (pv 0) af)) (eB (p:=2) (q:=3) rfl jH.nd rfl rfl rfl rfl)
    (ah (bw PassesOwn.never rfl (eu rfl B.enumerate (aa (pv 3) af)) (eB (p:=4) (q:=5) rfl jH.nd rfl rfl rfl rfl)
     (ah (dz (PW.pt (yU (aU vA (pv 5) rn (be _)) (vg (aU xO (pv 4) (pv 2) (be _)))))
      (ah (aX (eD PySem.F.plainAttrs_list PySem.F.slot_list_append PySem.F.type_list_append bZ (pv 1) (aa (pv 5) af)))) bi)))))
   (ah (ax (pv 1)))),?_⟩
  refine ⟨Nat.zero_le _,fun m hm=>?_⟩
  have tlen:rs.length=n:=by rw[hT.len,ok.len]
  have bound:∀ i j (c:List (Option Turn.Row)),T[i]?=some c→(Tt.gx (T.take i)++Tt.nB i (c.take j)).length≤1000000:=by
   intro i j c hc
   have h1:=Tt.rF (i:=i) (c.take j)
   have h2:(Tt.gx (T.take i)).length≤(Tt.gx T).length:=by
    have e:T=T.take i++T.drop i:=(take_append_drop i T).symm
    have:∀ (A D:Tab),(Tt.gx A).length≤(Tt.gx (A++D)).length:=by
     intro A D
     unfold Tt.gx
     rw[zipIdx_append,flatMap_append,length_append]
     omega
    have q:=this (T.take i) (T.drop i)
    rw[←e] at q
    exact q
   have h3:=Tt.rG ok
   have h4:n*n≤81:=Nat.mul_le_mul hn hn
   have h5:=ok.row i c hc
   rw[length_append]
   rw[length_take] at h1
   omega
  refine ⟨_,rfl,t,_,rfl,SqL.of (al (az.refl _) hm _ _ hT.lst),dB (K:=K) (a:=t) (xs:=rs.map V.ref) (fun i σ H'=>∃ (v2 v3 v4 v5:Option V) (es:List Addr),σ=[some (.ref t),some (.ref m),v2,v3,v4,v5]∧H' m=some (.lst (es.map V.ref))∧aF K H' es (Tt.gx (T.take i))∧az H H')
   ⟨none,none,none,none,[],rfl,ae,aF.nil,al (az.refl _) hm⟩ (fun i σ H' _ ⟨_,_,_,_,_,_,_,_,s2⟩=>SqL.of (s2 _ _ hT.lst)) ?_ ?_⟩
  ·rintro i v σ H' S hi ⟨v2,v3,v4,v5,es,rfl,hm1,he,s1⟩ hS
   rw[getElem?_map] at hi
   obtain ⟨r,hri,rfl⟩:=Oq hi
   obtain ⟨vs,c,hc,hrv,hcs⟩:=hT.row i r hri
   have hin:i<n:=by rw[←ok.len];exact (Gq hc).1
   have hmS:m≠S:=am hm1 hS
   have s2:az H (upd H' S (.tup [.int (i:Nat),.ref r])):=al s1 hS
   have sS:az H' (upd H' S (.tup [.int (i:Nat),.ref r])):=al (az.refl _) hS
   refine ⟨_,rfl,r,_,rfl,SqL.of (s2 _ _ hrv),dB (K:=K) (a:=r) (xs:=vs) (fun j σ H2=>∃ (v4 v5:Option V) (es:List Addr),σ=[some (.ref t),some (.ref m),some (.int (i:Nat)),some (.ref r),v4,v5]∧H2 m=some (.lst (es.map V.ref))∧aF K H2 es (Tt.gx (T.take i)++Tt.nB i (c.take j))∧az H H2)
    ⟨_,_,es,rfl,by rw[ai hmS];exact hm1,by rw[take_zero];exact (by simpa [Tt.nB] using he.same sS),s2⟩ (fun j σ H2 _ ⟨_,_,_,_,_,_,s3⟩=>SqL.of (s3 _ _ hrv)) ?_ ?_⟩
   ·rintro j v σ H2 S2 hj ⟨v4,v5,es,rfl,hm2,he2,s3⟩ hS2
    have hjl:j<c.length:=by rw[←hcs.len];exact (Gq hj).1
    have hcj:c[j]?=some c[j]:=getElem?_eq_getElem hjl
    have hcell:=hcs.cell j v c[j] hj hcj
    have hmS2:m≠S2:=am hm2 hS2
    have s4:az H (upd H2 S2 (.tup [.int (j:Nat),v])):=al s3 hS2
    have sS2:az H2 (upd H2 S2 (.tup [.int (j:Nat),v])):=al (az.refl _) hS2
    have step:Tt.nB i (c.take (j+1))=Tt.nB i (c.take j)++(if j=i then [] else (c[j]).toList):=by
     rw[aC hcj,Tt.wa,length_take,Nat.min_eq_left (by omega)]
    have skip:Tt.nB i (c.take (j+1))=Tt.nB i (c.take j)→∃ (v4 v5:Option V) (es':List Addr),([some (.ref t),some (.ref m),some (.int (i:Nat)),some (.ref r),some (.int (j:Nat)),some v]:L2.St)=[some (.ref t),some (.ref m),some (.int (i:Nat)),some (.ref r),v4,v5]∧(upd H2 S2 (.tup [.int (j:Nat),v])) m=some (.lst (es'.map V.ref))∧aF K (upd H2 S2 (.tup [.int (j:Nat),v])) es' (Tt.gx (T.take i)++Tt.nB i (c.take (j+1)))∧az H (upd H2 S2 (.tup [.int (j:Nat),v])):=fun e=>
     ⟨_,_,es,rfl,by rw[ai hmS2];exact hm2,by rw[e];exact he2.same sS2,s4⟩
    refine ⟨_,rfl,rfl,_,rfl,lw (fun hv=>?_) fun hv=>?_⟩
    ·refine ⟨_,rfl,_,rfl,rfl,_,rfl,lw (fun hg=>?_) fun hg=>?_⟩
     ·have hji:j≠i:=fun q=>hg (by rw[q])
      cases e:c[j] with
      | none=>
       rw[e] at hcell
       exact absurd hcell hv
      | some x=>
       rw[e] at hcell step
       obtain ⟨ea,rfl,hea⟩:=hcell
       refine ⟨_,rfl,.inl ⟨rfl,_,SqL.of (sS2 _ _ hm2)⟩,_,rfl,m,_,_,rfl,rfl,sS2 _ _ hm2,?_,?_⟩
       ·rw[length_map,he2.len]
        exact sz (bound i j c hc)
       ·have s5:az H (upd (upd H2 S2 (.tup [.int (j:Nat),.ref ea])) m (.lst (es.map V.ref++[.ref ea]))):=aH s4 hm
        refine ⟨_,_,es++[ea],rfl,?_,?_,s5⟩
        ·rw[ae,map_append];rfl
        ·rw[step,if_neg hji,←append_assoc]
         refine aF.snoc ⟨he2.len,fun a b x' k1 k2=>?_⟩ (s5.seq hea)
         have hne:es≠[]:=fun z=>by rw[z] at k1;simp at k1
         exact gG (sS2.seq (he2.at_ a b x' k1 k2)) (sS2 _ _ hm2) (vc hne x') (fun _=>by intro z;cases z)
     ·have hji:j=i:=by
       have h':(j:Int)=(i:Int):=V.int.inj hg
       omega
      exact skip (by rw[step,if_pos hji,append_nil])
    ·cases e:c[j] with
     | none=>
      rw[e] at step
      exact skip (by rw[step];split <;> simp)
     | some x=>
      rw[e] at hcell
      obtain ⟨ea,z,_⟩:=hcell
      rw[z] at hv;cases hv
   ·rintro σ H2 ⟨v4,v5,es,rfl,hm2,he2,s3⟩
    refine ⟨_,_,_,_,es,rfl,hm2,?_,s3⟩
    rw[hcs.len,take_length] at he2
    rw[aC hc,Tt.wb,length_take,Nat.min_eq_left (by rw[ok.len];omega)]
    exact he2
  ·rintro σ H' ⟨v2,v3,v4,v5,es,rfl,hm1,he,s1⟩
   rw[length_map,hT.len,take_length] at he
   exact ⟨_,rfl,k H' m es hm hm1 he s1⟩
end
end Bt
namespace Bt
open PySem PySem.Spec PyProof.Rows L2
open PySem.W (Codec)
open Tt (Tab tU TOk aR md bS aE Grp IsT Way gx fE bU)
def aT (rs:List Addr)(H H':Hp):Prop:=∀ b o,H b=some o→b∉rs→H' b=some o
theorem aT.refl (rs:List Addr)(H:Hp):aT rs H H:=fun _ _ h _=>h
theorem aT.same {rs:List Addr}{H H1 H2:Hp}(a:aT rs H H1)(s:az H1 H2):aT rs H H2:=fun b o h hb=>s b o (a b o h hb)
theorem aT.put {rs:List Addr}{H H1:Hp}{p:Addr}{o:HO}(a:aT rs H H1)(h:H p=none):aT rs H (upd H1 p o):=fun c u e hc=>by
 rw[ai (am e h)];exact a c u e hc
theorem aT.row {rs:List Addr}{H H1:Hp}{r:Addr}{o:HO}(a:aT rs H H1)(h:r∈rs):aT rs H (upd H1 r o):=fun c u e hc=>by
 rw[ai (fun q=>hc (by rw[q];exact h))];exact a c u e hc
theorem cZ {rs:List Addr}{x:List Nat}(h:0<x.length):HO.lst (rs.map V.ref)≠.lst (iv x):=by
 intro q
 have q:=HO.lst.inj q
 cases x with
 | nil=>simp at h
 | cons b x=>
  cases rs with
  | nil=>cases q
  | cons a rs=>cases (List.cons.inj q).1
section
variable {K:Frag} {H:Hp} {n:Nat}
theorem dv.keep' {t:Addr}{o o':HO}{v:V}{x:Option Turn.Row}(h:dv K H v x)(ht:H t=some o')(hx:∀ y,x=some y→0<y.length)(hne:∀ x:List Nat,0<x.length→o'≠.lst (iv x))(hf:∀ ob u,o'≠.frz ob u):dv K (upd H t o) v x:=by
 cases x with
 | none=>exact h
 | some x=>obtain ⟨e,h1,h2⟩:=h;exact ⟨e,h1,gG h2 ht (hne x (hx x rfl)) (fun ob=>hf ob _)⟩
theorem bt.keep {t q:Addr}{rs:List Addr}{T:Tab}{o o':HO}(h:bt K H t rs T)(ok:TOk n T)(en:zf n T)(h0:0<n)(hq:H q=some o')(hne:∀ x:List Nat,0<x.length→o'≠.lst (iv x))(hf:∀ ob u,o'≠.frz ob u)(h1:q≠t)(h2:q∉rs):bt K (upd H q o) t rs T:=by
 refine ⟨by rw[ai (fun z=>h1 z.symm)];exact h.lst,h.len,h.nd,h.tn,fun i r hi=>?_⟩
 obtain ⟨vs,c,k1,k2,k3⟩:=h.row i r hi
 refine ⟨vs,c,k1,by rw[ai (fun z=>h2 (by rw[←z];exact mem_of_getElem? hi))];exact k2,k3.len,fun j v x g1 g2=>(k3.cell j v x g1 g2).keep' hq (fun y hy=>?_) hne hf⟩
 subst hy
 have:tU T i j=some y:=by rw[Tt.ik k1,Tt.bW g2]
 rw[(en i j y this).len];exact h0
theorem aF.keep {q:Addr}{es:List Addr}{l:List Turn.Row}{o o':HO}(h:aF K H es l)(hl:∀ x∈l,0<x.length)(hq:H q=some o')(hne:∀ x:List Nat,0<x.length→o'≠.lst (iv x))(hf:∀ ob u,o'≠.frz ob u):aF K (upd H q o) es l:=
 ⟨h.len,fun i e x h1 h2=>gG (h.at_ i e x h1 h2) hq (hne x (hl x (mem_of_getElem? h2))) (fun ob=>hf ob _)⟩
theorem aF.dropLast {es:List Addr}{l:List Turn.Row}(h:aF K H es l):aF K H es.dropLast l.dropLast:=by
 refine ⟨by rw[length_dropLast,length_dropLast,h.len],fun i e x h1 h2=>?_⟩
 rw[getElem?_dropLast] at h1 h2
 split at h1
 ·split at h2
  ·exact h.at_ i e x h1 h2
  ·cases h2
 ·cases h1
theorem gv {vs:List V}{c:List (Option Turn.Row)}(h:fw K H vs c){x:List Nat}(hx:0<x.length):HO.lst vs≠.lst (iv x):=by
 intro q
 have q:=HO.lst.inj q
 have hv:vs[0]?=some (V.int (x[0]:Nat)):=by
  rw[q];exact eF (getElem?_eq_getElem hx)
 have hc:0<c.length:=by rw[←h.len,q,aO];exact hx
 have:=h.cell 0 _ c[0] hv (getElem?_eq_getElem hc)
 cases e:c[0] with
 | none=>rw[e] at this;cases this
 | some y=>rw[e] at this;obtain ⟨_,z,_⟩:=this;cases z
theorem bt.set {t p r:Addr}{rs:List Addr}{T:Tab}{i j:Nat}{x:Turn.Row}{vs:List V}(h:bt K H t rs T)(ok:TOk n T)(en:zf n T)(h0:0<n)(hx:IsT n x)(hp:SqL K H p (iv x))(hr:rs[i]?=some r)(hv:H r=some (.lst vs))(hj:j<n):
  bt K (upd H r (.lst (vs.set j (.ref p)))) t rs (md T i j x):=by
 obtain ⟨vs',c,k1,k2,k3⟩:=h.row i r hr
 have e:vs'=vs:=by rw[hv] at k2;exact (HO.lst.inj (Oi k2)).symm
 subst e
 have hin:i<n:=by rw[←ok.len];exact (Gq k1).1
 have hcl:=ok.row i c k1
 have hd:T.getD i []=c:=Tt.bW k1
 have nf:∀ ob u,HO.lst vs'≠.frz ob u:=fun _ _ z=>by cases z
 have keepc:∀ v y,dv K H v (some y)→0<y.length→dv K (upd H r (.lst (vs'.set j (.ref p)))) v (some y):=fun v y hc hy=>
  hc.keep' hv (fun z hz=>by cases hz;exact hy) (fun _ h'=>gv k3 h') nf
 refine ⟨?_,?_,h.nd,h.tn,fun a q ha=>?_⟩
 ·rw[ai (fun z=>h.tn (by rw[z];exact mem_of_getElem? hr))];exact h.lst
 ·unfold md;rw[length_set];exact h.len
 ·obtain ⟨ws,d,g1,g2,g3⟩:=h.row a q ha
  by_cases hai:a=i
  ·subst hai
   have hqr:q=r:=Oi (ha.symm.trans hr)
   subst hqr
   have hdc:d=c:=Oi (g1.symm.trans k1)
   subst hdc
   refine ⟨vs'.set j (.ref p),d.set j (some x),?_,ae,⟨by rw[length_set,length_set];exact k3.len,fun b v y w1 w2=>?_⟩⟩
   ·unfold md
    rw[hd,getElem?_set_self (by rw[ok.len];exact hin)]
   ·by_cases hb:b=j
    ·subst hb
     rw[getElem?_set_self (by rw[k3.len,hcl];exact hj)] at w1
     rw[getElem?_set_self (by rw[hcl];exact hj)] at w2
     cases w1;cases w2
     exact keepc _ _ ⟨p,rfl,hp⟩ (by rw[hx.len];exact h0)
    ·rw[getElem?_set_ne (fun z=>hb z.symm)] at w1 w2
     have:=k3.cell b v y w1 w2
     cases y with
     | none=>exact this
     | some y=>
      refine keepc _ _ this ?_
      have:tU T a b=some y:=by rw[Tt.ik k1,Tt.bW w2]
      rw[(en a b y this).len];exact h0
  ·have hqr:q≠r:=fun z=>hai (nd_ix h.nd ha (by rw[z];exact hr))
   refine ⟨ws,d,?_,by rw[ai hqr];exact g2,⟨g3.len,fun b v y w1 w2=>?_⟩⟩
   ·unfold md
    rw[getElem?_set_ne (fun z=>hai z.symm)];exact g1
   ·have:=g3.cell b v y w1 w2
    cases y with
    | none=>exact this
    | some y=>
     refine keepc _ _ this ?_
     have:tU T a b=some y:=by rw[Tt.ik g1,Tt.bW w2]
     rw[(en a b y this).len];exact h0
end
inductive eN (K:Frag) (vs:List V) (H:Hp) (Q:VK) (E:XK):Prop
 | mk (t a:Addr) (rs:List Addr) (T:Tab) (x:List Nat) (n:Nat) (gens:List Turn.Row):vs=[.ref t,.ref a]→bt K H t rs T→SqL K H a (iv x)→TOk n T→IsT n x→0<n→n≤9→(∀ g∈gens,IsT n g)→bS n (aE n gens) (tU T)→(∀ (H':Hp) (T':Tab),bt K H' t rs T'→TOk n T'→bS n (aE n (gens++[x])) (tU T')→(∀ e,Rf H' rs e→Rf H rs e∨e=a∨New H H' e)→aT rs H H'→Q .non H')→eN K vs H Q E
theorem bS.ents {n:Nat}{G:Turn.Row→Prop}{T:Tab}(F:bS n G (tU T)):zf n T:=fun i j e h=>F.snd.isT F.grp h
def xi (n:Nat)(pend:List Turn.Row)(T:Tab):Nat:=pend.length+Tt.empty T*(2*(n*n)+1)
theorem fV {n:Nat}{x:List Nat}{k:Nat}(hx:IsT n x)(hk:k<n)(hf:Tt.Fix x k)(hm:at_ x k≠k):bg x=k:=
 fu (by rw[hx.len];exact hk) hm hf
theorem fC (n:Nat):bg (Turn.still n)=n:=by
 have:=dU (x:=Turn.still n) fun j hj=>Tt.aJ (by rw[Tt.bE] at hj;exact hj)
 rw[Tt.bE] at this
 exact this
theorem bt.tracked {K:Frag}{H:Hp}{t:Addr}{rs:List Addr}{T:Tab}(h:bt K H t rs T):∀ m∈rs,H m≠none:=fun m hm z=>by
 obtain ⟨i,hi⟩:=getElem?_of_mem hm
 obtain ⟨_,_,_,k2,_⟩:=h.row i m hi
 rw[k2] at z;cases z
def AddW (K:Frag)(H:Hp)(t a q:Addr)(rs:List Addr)(gens:List Turn.Row)(n:Nat)(m:Nat)(σ:L2.St)(H':Hp):Prop:=
 ∃ (v3 v4 v5:Option V) (es:List Addr) (pend:List Turn.Row) (T1:Tab),σ=[some (.ref t),some (.ref a),some (.ref q),v3,v4,v5]∧H' q=some (.lst (es.map V.ref))∧aF K H' es pend∧bt K H' t rs T1∧TOk n T1∧Way n (aE n gens) gens (tU T1) pend∧aT rs H H'∧(∀ e∈es,e=a∨New H H' e)∧(∀ e,Rf H' rs e→Rf H rs e∨e=a∨New H H' e)∧m=xi n pend T1∧m≤20000
structure kZ (K:Frag)(H:Hp)(t a q mv p:Addr)(rs ms:List Addr)(T:Tab)(r:List Nat)(H':Hp)(es:List Addr)(l:List Turn.Row):Prop where
 lst:H' q=some (.lst (es.map V.ref))
 rows:aF K H' es l
 tab:bt K H' t rs T
 sx:aT rs H H'
 mov:H' mv=some (.lst (ms.map V.ref))
 mrows:aF K H' ms (gx T)
 left:SqL K H' p (iv r)
 esf:∀ e∈es,e=a∨New H H' e
 rf:∀ e,Rf H' rs e→Rf H rs e∨e=a∨New H H' e
theorem kZ.snoc {K:Frag}{H H1 H2:Hp}{t a q mv p z:Addr}{rs ms es:List Addr}{T:Tab}{r u:List Nat}{l:List Turn.Row}{n:Nat}(S:kZ K H t a q mv p rs ms T r H1 es l)(h0:0<n)(ok:TOk n T)(en:zf n T)(hl:∀ x∈l,0<x.length)(hm:∀ x∈gx T,0<x.length)(hr:0<r.length)(hu:0<u.length)
  (hqt:q≠t)(hqr:q∉rs)(hqm:q≠mv)(hH:H q=none)(s:az H1 H2)(hzn:H z=none)(hz:H2 z=some (.lst (iv u))):kZ K H t a q mv p rs ms T r (upd H2 q (.lst (es.map V.ref++[.ref z]))) (es++[z]) (l++[u]):=by
 have hq:=s _ _ S.lst
 have ne:∀ x:List Nat,0<x.length→HO.lst (es.map V.ref)≠.lst (iv x):=fun x h=>cZ h
 have nf:∀ ob u,HO.lst (es.map V.ref)≠.frz ob u:=fun _ _ z=>by cases z
 refine ⟨by rw[ae,map_append];rfl,?_,?_,?_,?_,?_,?_,?_,?_⟩
 ·exact ((S.rows.same s).keep hl hq ne nf).snoc (gG (SqL.of hz) hq (ne u hu) (fun ob=>nf ob _))
 ·exact (S.tab.same s).keep ok en h0 hq ne nf hqt hqr
 ·exact (S.sx.same s).put hH
 ·rw[ai (fun q=>hqm q.symm)];exact s _ _ S.mov
 ·exact (S.mrows.same s).keep hm hq ne nf
 ·exact gG (s.seq S.left) hq (ne r hr) (fun ob=>nf ob _)
 ·intro e he
  rcases Ma he with h|h
  ·exact (S.esf e h).imp id fun w=>⟨w.1,cS (cb s w.2)⟩
  ·rw[Ms h];exact .inr ⟨hzn,cS (there hz)⟩
 ·intro e he
  refine (S.rf e (Rf.back (fun m hm o ho=>?_) S.tab.tracked he)).imp id fun w=>w.imp id fun w=>⟨w.1,cS (cb s w.2)⟩
  rw[ai (fun z=>hqr (by rw[←z];exact hm))]
  exact s _ _ ho
theorem kZ.free {K:Frag}{H H1:Hp}{t a q mv p z:Addr}{rs ms es:List Addr}{T:Tab}{r:List Nat}{l:List Turn.Row}(S:kZ K H t a q mv p rs ms T r H1 es l)(h:H1 z=none):H z=none:=by
 cases w:H z with
 | none=>rfl
 | some o=>
  by_cases hz:z∈rs
  ·exact absurd h (S.tab.tracked z hz)
  ·have:=S.sx z o w hz
   rw[h] at this;cases this
theorem rL {α:Type}{l:List α}(h:l≠[]):∃ y,l[l.length-1]?=some y∧y∈l∧(∀ p∈l,p=y∨p∈l.dropLast)∧∀ p∈l.dropLast,p∈l:=by
 refine ⟨l.getLast h,by rw[getLast_eq_getElem,getElem?_eq_getElem],getLast_mem h,fun p hp=>?_,fun p hp=>dropLast_subset l hp⟩
 have:=dropLast_concat_getLast h
 rw[←this] at hp
 rcases Ma hp with q|q
 ·exact .inr q
 ·exact .inl (Ms q)
theorem ud {n:Nat}{gens:List Turn.Row}{x:Turn.Row}{T:Tab}(hall:∀ g∈gens++[x],IsT n g)(F:bS n (aE n gens) (tU T)):Way n (aE n (gens++[x])) (gens++[x]) (tU T) [x]:=by
 have up:∀ z,aE n gens z→aE n (gens++[x]) z:=fun z h=>h.mono fun g hg=>mem_append_left _ hg
 refine ⟨⟨fun i j e h=>let o:=F.snd.ok i j e h;⟨o.1,up e o.2.1,o.2.2⟩,F.snd.diag⟩,fun p hp=>?_,fun i j i' j' e e' _ _ h1 h2=>?_,fun g hg=>?_⟩
 ·rw[Ms hp];exact aE.gen hall (mem_append_right _ (mem_singleton.mpr rfl))
 ·exact .inl (F.all _ (F.grp.mul _ _ (F.snd.ok i j e h1).2.1 (F.snd.ok i' j' e' h2).2.1))
 ·rcases Ma hg with h|h
  ·exact .inl (F.all g (aE.gen (fun g hg=>hall g (mem_append_left _ hg)) h))
  ·exact .inr h
section
variable {P:Program} {w:World} {K:Frag} {mg:Str→Option Value} {base:Heap}
theorem fN:ao ["table","x","pending","left","place","kept"] ["table","x"] (aj mH):=bX
theorem tu {f:Addr}{fd:FuncData}(F:Fun K "add_turn" "add_turn" mH f fd)(B:Blt mg)(CP:Cal P w K mg base 1 "product" ["x","y"] (bv K))(CW:Cal P w K mg base 3 "what_is_left" ["table","x"] (gb K))
  (CS:Cal P w K mg base 2 "is_still" ["x"] (fH K))(CL:Cal P w K mg base 1 "places_left_before_moving" ["x"] (d5 K))(CM:Cal P w K mg base 1 "moving_turns" ["table"] (lY K)):
  aZ P w K mg base CX0 4 f fd ["table","x"] (eN K):=by
 refine okF F fN (fun cdv A outer s H vs Q E hr h=>?_)
 ·obtain ⟨t,a,rs,T,x,n,gens,rfl,hT,ha,ok,hx,h0,hn,hgens,FT,k⟩:=h
  have hr1:bO 1 _:=hr.mono (by decide)
  have hr2:bO 2 _:=hr.mono (by decide)
  refine ⟨_,ag (aq (i:=2) fN.nd rfl (Or.inl rfl) (aV (aa (pv 1) af)))
   (ah (dj PassesOwn.never (aU qk (aA au rfl B.len PySem.boot_len (aa (pv 2) af)) aB (be _))
    (ag (aq (i:=3) fN.nd rfl (Or.inl rfl) (ak CW hr rfl (aa (pv 0) (aa (vw PySem.F.plainAttrs_list PySem.F.slot_list_pop PySem.F.type_list_pop vY (pv 2)) af))))
    (ah (dz (iF (fO (ak CS hr2 rfl (aa (pv 3) af))))
     (ag (aq (i:=4) fN.nd rfl (Or.inl rfl) (ak CL hr1 rfl (aa (pv 3) af)))
     (ag (nW (pv 3) (n4 (aL ay (pv 0) (pv 4) (fun _ _=>rfl)) (aL ay (pv 3) (pv 4) (fun _ _=>rfl)) iu))
     (ah (bw PassesOwn.never rfl (aP (ak CM hr1 rfl (aa (pv 0) af))) (aG (i:=5) fN.nd rfl (Or.inl rfl))
      (ag (aX (eD PySem.F.plainAttrs_list PySem.F.slot_list_append PySem.F.type_list_append bZ (pv 2) (aa (ak CP hr1 rfl (aa (pv 5) (aa (pv 3) af))) af)))
      (ah (aX (eD PySem.F.plainAttrs_list PySem.F.slot_list_append PySem.F.type_list_append bZ (pv 2) (aa (ak CP hr1 rfl (aa (pv 3) (aa (pv 5) af))) af)))))))))
     bi))))),?_⟩
  have hall:∀ g∈gens++[x],IsT n g:=fun g hg=>by
   rcases Ma hg with h|h
   ·exact hgens g h
   ·rw[Ms h];exact hx
  have hG:=Tt.ci hall
  have nn:n*n≤81:=Nat.mul_le_mul hn hn
  refine ⟨_,rfl,Nat.le_of_lt (sz (by show 1≤1000000;decide)),fun q hq=>?_⟩
  have hqt:q≠t:=fun z=>by rw[z,hT.lst] at hq;cases hq
  have hqr:q∉rs:=fun z=>by
   obtain ⟨i,hi⟩:=getElem?_of_mem z
   obtain ⟨_,_,_,h2,_⟩:=hT.row i q hi
   rw[h2] at hq;cases hq
  have s0:az H (upd H q (.lst [V.ref a])):=al (az.refl _) hq
  have e0:=Tt.yD ok
  refine ⟨AddW K H t a q rs (gens++[x]) n,⟨xi n [x] T,none,none,none,[a],[x],T,rfl,ae,aF.snoc aF.nil (s0.seq ha),hT.same s0,ok,ud hall FT,fun b o e _=>s0 b o e,fun e he=>.inl (Ms he),fun e he=>.inl (Rf.back (fun m _ o ho=>s0 m o ho) hT.tracked he),rfl,?_⟩,?_⟩
  ·unfold xi
   have:Tt.empty T*(2*(n*n)+1)≤81*163:=Nat.mul_le_mul (by omega) (by omega)
   rw[length_singleton];omega
  rintro m σ H' ⟨v3,v4,v5,es,pend,T1,rfl,hq1,he,hT1,ok1,W1,sx,hef,hrf,hm,hm2⟩
  refine ⟨_,rfl,q,_,rfl,.inl (SqL.of hq1),_,_,rfl,rfl,_,rfl,?_⟩
  have en1:zf n T1:=fun i j e h=>W1.snd.isT hG h
  have pos:∀ z∈pend,0<z.length:=fun z hz=>by rw[(hG.isT z (W1.pg z hz)).len];exact h0
  refine ite2 (fun h=>?_) (fun h=>?_)
  case refine_2=>
   have:es=[]:=by
    cases es with
    | nil=>rfl
    | cons e es=>exact absurd (decide_eq_true (by rw[length_map,length_cons];omega)) h
   have hp:pend=[]:=eq_nil_of_length_eq_zero (by rw[←he.len,this];rfl)
   rw[hp] at W1
   exact k H' T1 hT1 ok1 (W1.done hG (fun _ h=>h) hall) hrf sx
  have hes:es≠[]:=fun z=>by rw[z] at h;simp at h
  have hpe:pend≠[]:=fun z=>by
   have:=he.len
   rw[z] at this
   exact hes (eq_nil_of_length_eq_zero this)
  obtain ⟨y,hy1,hy2,hy3,hy4⟩:=rL hpe
  obtain ⟨p0,hp1,hp0m,_,hp0d⟩:=rL hes
  refine ⟨fun σ' H2=>∃ m',m'<m∧AddW K H t a q rs (gens++[x]) n m' σ' H2,fun σ' H2 h=>h,?_⟩
  have ne:∀ x:List Nat,0<x.length→HO.lst (es.map V.ref)≠.lst (iv x):=fun x h=>cZ h
  have nf:∀ ob u,HO.lst (es.map V.ref)≠.frz ob u:=fun _ _ z=>by cases z
  refine ⟨_,rfl,_,rfl,.inl ⟨rfl,_,SqL.of hq1⟩,q,_,V.ref p0,rfl,rfl,hq1,(by rw[length_map,getElem?_map,hp1];rfl),?_⟩
  rw[←map_dropLast]
  have hT1':=hT1.keep (o:=.lst (es.dropLast.map V.ref)) ok1 en1 h0 hq1 ne nf hqt hqr
  have he':=he.keep (o:=.lst (es.dropLast.map V.ref)) pos hq1 ne nf
  have he1:=he'.dropLast
  have hy':=he'.at_ (pend.length-1) p0 y (by rw[←he.len];exact hp1) hy1
  have sx1:aT rs H (upd H' q (.lst (es.dropLast.map V.ref))):=sx.put hq
  have hq1':(upd H' q (.lst (es.dropLast.map V.ref))) q=some (.lst (es.dropLast.map V.ref)):=ae
  have hrf1:∀ e,Rf (upd H' q (.lst (es.dropLast.map V.ref))) rs e→Rf H rs e∨e=a∨New H (upd H' q (.lst (es.dropLast.map V.ref))) e:=fun e h=>(hrf e (Rf.back (fun m hm o ho=>by rw[ai (fun z=>hqr (by rw[←z];exact hm))];exact ho) hT1.tracked h)).imp id fun w=>w.imp id fun w=>⟨w.1,cS w.2⟩
  have hHn:∀ c,(upd H' q (.lst (es.dropLast.map V.ref))) c=none→H c=none:=fun c hc=>by
   cases z:H c with
   | none=>rfl
   | some o=>
    by_cases hcr:c∈rs
    ·have:=hT1'.tracked c hcr
     exact absurd hc this
    ·have:=sx1 c o z hcr
     rw[hc] at this;cases this
  have hef1:∀ e∈es,e=a∨New H (upd H' q (.lst (es.dropLast.map V.ref))) e:=fun e he=>(hef e he).imp id fun w=>⟨w.1,cS w.2⟩
  generalize upd H' q (.lst (es.dropLast.map V.ref))=H1 at hT1' he1 hy' sx1 hq1' hrf1 hHn hef1
  have yT:=hG.isT y (W1.pg y hy2)
  refine ⟨t,p0,rs,T1,y,n,rfl,hT1',hy',ok1,en1,yT,hn,fun H2 p hp hpf s2=>?_⟩
  have hpf':p=a∨New H H2 p:=by
   rcases hpf with z|z
   ·rw[z];exact (hef1 p0 hp0m).imp id fun w=>⟨w.1,cb s2 w.2⟩
   ·exact .inr ⟨hHn p z.1,z.2⟩
  have LT:IsT n (fE (tU T1) n 0 y):=Tt.mV W1.snd hG n 0 y yT
  refine ⟨_,rfl,p,_,rfl,hp,(by rw[LT.len];omega),fun H3 s3=>⟨_,rfl,?_⟩⟩
  have pl:pend.dropLast.length=pend.length-1:=length_dropLast
  have ppos:0<pend.length:=length_pos_iff.mpr hpe
  have s23:=s2.trans s3
  cases e:bU (tU T1) n 0 y with
  | none=>
   have eL:=Tt.kJ W1.snd hG n 0 y rfl (Nat.zero_le _) yT (fun a ha=>absurd ha (Nat.not_lt_zero a)) e
   have e2:(!decide (bg (fE (tU T1) n 0 y)=(fE (tU T1) n 0 y).length))=false:=by
    rw[eL,fC,Tt.bE];simp
   dsimp only
   rw[e2]
   refine nD ⟨xi n pend.dropLast T1,?_,_,_,_,es.dropLast,pend.dropLast,T1,rfl,s23 _ _ hq1',he1.same s23,hT1'.same s23,ok1,W1.drop hG hy2 hy3 hy4 e,sx1.same s23,fun e he=>(hef1 e (hp0d e he)).imp id fun w=>⟨w.1,cb s23 w.2⟩,fun e he=>(hrf1 e (Rf.back (fun m _ o ho=>s23 m o ho) hT1'.tracked he)).imp id fun w=>w.imp id fun w=>⟨w.1,cb s23 w.2⟩,rfl,?_⟩
   ·rw[hm];unfold xi;omega
   ·unfold xi at hm ⊢;omega
  | some d=>
   obtain ⟨kk,r⟩:=d
   have eL:=Tt.kI n 0 y kk r e
   rw[eL] at hp LT ⊢
   obtain ⟨_,hk,rT,rf,hnone,hGr,_⟩:=Tt.eO W1.snd hG n 0 y kk r rfl yT (fun a ha=>absurd ha (Nat.not_lt_zero a)) e
   have hrk:at_ r kk≠kk:=fun z=>by
    rw[z,W1.snd.diag kk hk] at hnone;cases hnone
   have fm:=fV rT hk rf hrk
   have e2:(!decide (bg r=r.length))=true:=by
    rw[fm,rT.len]
    have:¬kk=n:=by omega
    simp[this]
   dsimp only
   rw[e2]
   refine oy ?_
   have hjn:=rT.lt kk hk
   refine ⟨_,rfl,p,r,rfl,s3.seq hp,(by rw[rT.len];omega),fun H4 s4=>?_⟩
   rw[fm]
   have s14:=s23.trans s4
   have hT4:=hT1'.same s14
   obtain ⟨rk,hrk1⟩:∃ rk,rs[kk]?=some rk:=⟨_,getElem?_eq_getElem (by rw[hT1.len,ok1.len];exact hk)⟩
   obtain ⟨vs,c,hc1,hrv,hcs⟩:=hT4.row kk rk hrk1
   have hvl:vs.length=n:=by rw[hcs.len,ok1.row kk c hc1]
   have hrki:r[kk]?=some (at_ r kk):=by
    rw[getElem?_eq_getElem (rT.len.symm▸hk),Tt.cU (rT.len.symm▸hk)]
   have hp4:=s4.seq (s3.seq hp)
   refine ⟨_,rfl,_,rfl,_,rfl,t,_,_,_,rfl,rfl,SqL.of hT4.lst,aw (v:=V.ref rk) (by rw[getElem?_map,hrk1];rfl),_,rfl,_,rfl,p,_,_,_,rfl,rfl,hp4,aw (eF hrki),rk,vs,_,at_ r kk,rfl,rfl,hrv,?_,?_⟩
   ·unfold ixN
    rw[hvl,if_pos (by omega),if_pos (by omega)]
    simp
   have hrkr:rk∈rs:=mem_of_getElem? hrk1
   have hT5:=hT4.set ok1 en1 h0 rT hp4 hrk1 hrv hjn
   have hq5:(upd H4 rk (.lst (vs.set (at_ r kk) (.ref p)))) q=some (.lst (es.dropLast.map V.ref)):=by
    rw[ai (fun z=>hqr (by rw[z];exact hrkr))];exact s14 _ _ hq1'
   have pos':∀ z∈pend.dropLast,0<z.length:=fun z hz=>pos z (hy4 z hz)
   have rpos:0<r.length:=by rw[rT.len];exact h0
   have vnf:∀ ob u,HO.lst vs≠.frz ob u:=fun _ _ z=>by cases z
   have he5:=(he1.same s14).keep (o:=.lst (vs.set (at_ r kk) (.ref p))) pos' hrv (fun _ h=>gv hcs h) vnf
   have hp5:=gG (o:=.lst (vs.set (at_ r kk) (.ref p))) hp4 hrv (gv hcs rpos) (fun ob=>vnf ob _)
   have sx5:aT rs H (upd H4 rk (.lst (vs.set (at_ r kk) (.ref p)))):=(sx1.same s14).row hrkr
   have hrf5:∀ e,Rf (upd H4 rk (.lst (vs.set (at_ r kk) (.ref p)))) rs e→Rf H rs e∨e=a∨New H (upd H4 rk (.lst (vs.set (at_ r kk) (.ref p)))) e:=fun e ⟨m,hm,xs,w1,w2⟩=>by
    have old:Rf H4 rs e→Rf H rs e∨e=a∨New H (upd H4 rk (.lst (vs.set (at_ r kk) (.ref p)))) e:=fun h=>(hrf1 e (Rf.back (fun m _ o ho=>s14 m o ho) hT1'.tracked h)).imp id fun w=>w.imp id fun w=>⟨w.1,cS (cb s14 w.2)⟩
    by_cases hmk:m=rk
    ·rw[hmk,ae] at w1
     cases w1
     rcases mem_or_eq_of_mem_set w2 with z|z
     ·exact old ⟨rk,hrkr,vs,hrv,z⟩
     ·cases z
      exact .inr (hpf'.imp id fun w=>⟨w.1,cS (cb s4 (cb s3 w.2))⟩)
    ·rw[ai hmk] at w1
     exact old ⟨m,hm,xs,w1,w2⟩
   have hHn5:∀ c,(upd H4 rk (.lst (vs.set (at_ r kk) (.ref p)))) c=none→H c=none:=fun c hc=>by
    have hck:c≠rk:=fun z=>by rw[z,ae] at hc;cases hc
    rw[ai hck] at hc
    exact hHn c (s14.free hc)
   have growS5:∀ c,H1 c≠none→(upd H4 rk (.lst (vs.set (at_ r kk) (.ref p)))) c≠none:=fun c hc=>cS (cb s14 hc)
   generalize upd H4 rk (.lst (vs.set (at_ r kk) (.ref p)))=H5 at hT5 hq5 he5 hp5 sx5 hrf5 hHn5 growS5
   have ok2:=Tt.zB ok1 kk (at_ r kk) r
   have U2:=Tt.A3 ok1 hk hjn r
   have em:=Tt.wK ok1 hk hjn hnone r
   have ml:=Tt.rG ok2
   have en2:zf n (md T1 kk (at_ r kk) r):=by
    intro i j e h
    rw[U2] at h
    unfold Tt.oZ at h
    split at h
    ·cases h;exact rT
    ·exact en1 i j e h
   generalize hT2e:md T1 kk (at_ r kk) r=T2 at hT5 ok2 U2 em ml en2
   have mvT:∀ z∈gx T2,IsT n z:=fun z hz=>by
    obtain ⟨i,j,_,h⟩:=Tt.jL.mp hz
    exact en2 i j z h
   have mpos:∀ z∈gx T2,0<z.length:=fun z hz=>by rw[(mvT z hz).len];exact h0
   refine ⟨_,rfl,t,rs,T2,n,rfl,hT5,ok2,hn,fun H6 mv ms hmv hmv6 hms s6=>?_⟩
   have hqm:q≠mv:=fun z=>by rw[←z,hq5] at hmv;cases hmv
   have S0:kZ K H t a q mv p rs ms T2 r H6 es.dropLast (pend.dropLast++((gx T2).take 0).flatMap fun d=>[Turn.mul d r,Turn.mul r d]):=
    ⟨s6 _ _ hq5,by simpa using he5.same s6,hT5.same s6,sx5.same s6,hmv6,hms,s6.seq hp5,fun e he=>(hef1 e (hp0d e he)).imp id fun w=>⟨w.1,cb s6 (growS5 _ w.2)⟩,fun e he=>(hrf5 e (Rf.back (fun m _ o ho=>s6 m o ho) hT5.tracked he)).imp id fun w=>w.imp id fun w=>⟨w.1,cb s6 w.2⟩⟩
   have flen:∀ i,((pend.dropLast++((gx T2).take i).flatMap fun d=>[Turn.mul d r,Turn.mul r d])).length≤pend.length-1+2*(n*n):=by
    intro i
    have:∀ l:List Turn.Row,(l.flatMap fun d=>[Turn.mul d r,Turn.mul r d]).length=2*l.length:=by
     intro l
     induction l with
     | nil=>rfl
     | cons d l ih=>rw[flatMap_cons,length_append,ih];simp;omega
    rw[length_append,pl,this,length_take]
    omega
   have pbound:pend.length≤20000:=by
    have:pend.length≤xi n pend T1:=by unfold xi;omega
    omega
   refine ⟨mv,rfl,⟨_,SqL.of hmv6⟩,bj (K:=K) (a:=mv) (xs:=ms.map V.ref) (fun i σ H7=>∃ (v5:Option V) (es3:List Addr),σ=[some (.ref t),some (.ref a),some (.ref q),some (.ref p),some (.int (kk:Nat)),v5]∧kZ K H t a q mv p rs ms T2 r H7 es3 (pend.dropLast++((gx T2).take i).flatMap fun d=>[Turn.mul d r,Turn.mul r d]))
    ⟨_,es.dropLast,rfl,S0⟩ (fun i σ H' _ ⟨_,_,_,S⟩=>SqL.of S.mov) ?_ ?_⟩
   ·rintro i v σ H7 hi ⟨v5,es3,rfl,S⟩
    rw[getElem?_map] at hi
    obtain ⟨da,hda,rfl⟩:=Oq hi
    obtain ⟨d,hd,hdq⟩:=S.mrows.get hda
    have dT:=mvT d (mem_of_getElem? hd)
    have lpos:∀ z∈pend.dropLast++((gx T2).take i).flatMap (fun d=>[Turn.mul d r,Turn.mul r d]),0<z.length:=fun z hz=>by
     rcases Ma hz with h|h
     ·exact pos' z h
     ·obtain ⟨d',hd',h⟩:=mem_flatMap.mp h
      have d'T:=mvT d' (mem_of_mem_take hd')
      rcases Mc h with h|h
      ·rw[h,Tt.cR,d'T.len];exact h0
      ·rw[Ms h,Tt.cR];exact rpos
    have u1pos:0<(Turn.mul d r).length:=by rw[Tt.cR,dT.len];exact h0
    have u2pos:0<(Turn.mul r d).length:=by rw[Tt.cR];exact rpos
    have esl:es3.length≤30000:=by
     have:=S.rows.len
     have:=flen i
     omega
    refine ⟨_,rfl,.inl ⟨rfl,_,SqL.of S.lst⟩,_,rfl,_,rfl,da,p,d,r,rfl,hdq,S.left,(by rw[dT.len];omega),fun c hc=>(by rw[rT.len];exact dT.mem.mp hc),fun H8 z1 hz1 hz1' s8=>?_⟩
    refine ⟨q,_,_,rfl,rfl,s8 _ _ S.lst,(by rw[length_map];exact sz (by omega)),?_⟩
    have S1:=S.snoc h0 ok2 en2 lpos mpos rpos u1pos hqt hqr hqm hq s8 (S.free hz1) hz1'
    generalize upd H8 q (.lst (es3.map V.ref++[.ref z1]))=H9 at S1
    obtain ⟨d',hd',hdq'⟩:=S1.mrows.get hda
    have hdd:d'=d:=Oi (hd'.symm.trans hd)
    subst hdd
    refine ⟨_,rfl,.inl ⟨rfl,_,SqL.of S1.lst⟩,_,rfl,_,rfl,p,da,r,d',rfl,S1.left,hdq',(by rw[rT.len];omega),fun c hc=>(by rw[dT.len];exact rT.mem.mp hc),fun H10 z2 hz2 hz2' s10=>?_⟩
    refine ⟨q,_,_,rfl,rfl,s10 _ _ S1.lst,(by rw[length_map,length_append,length_singleton];exact sz (by omega)),?_⟩
    have S2:=S1.snoc h0 ok2 en2 (fun z hz=>by
     rcases Ma hz with h|h
     ·exact lpos z h
     ·rw[Ms h];exact u1pos) mpos rpos u2pos hqt hqr hqm hq s10 (S1.free hz2) hz2'
    refine ⟨_,es3++[z1]++[z2],rfl,?_⟩
    rw[aC hd,flatMap_append]
    simp only[flatMap_cons,flatMap_nil,append_nil]
    have ea:∀ (A C:List Turn.Row) (u v:Turn.Row),A++C++[u]++[v]=A++(C++[u,v]):=fun A C u v=>by simp
    rw[ea] at S2
    exact S2
   ·rintro σ H7 ⟨v5,es3,rfl,S⟩
    have ml2:(ms.map V.ref).length=(gx T2).length:=by rw[length_map,hms.len]
    rw[ml2,take_length] at S
    have fl:=flen (gx T2).length
    rw[take_length] at fl
    have hwork:xi n (pend.dropLast++(gx T2).flatMap fun d=>[Turn.mul d r,Turn.mul r d]) T2<m:=by
     rw[hm]
     unfold xi
     have:Tt.empty T1*(2*(n*n)+1)=Tt.empty T2*(2*(n*n)+1)+(2*(n*n)+1):=by rw[←em,Nat.add_mul,Nat.one_mul]
     omega
    refine ⟨_,hwork,_,_,_,es3,_,T2,rfl,S.lst,S.rows,S.tab,ok2,?_,S.sx,S.esf,S.rf,rfl,by omega⟩
    rw[U2]
    have rin:r∈gx T2:=Tt.jL.mpr ⟨kk,at_ r kk,hrk,by rw[U2];unfold Tt.oZ;rw[if_pos ⟨rfl,rfl⟩]⟩
    have yin:aE n (gens++[x]) r:=hGr (W1.pg y hy2)
    refine W1.put hG hy2 (fun z hz=>?_) e (fun z hz=>?_) ?_ (fun i j d hj hd=>?_)
    ·rcases hy3 z hz with h|h
     ·exact .inl h
     ·exact .inr (mem_append_left _ h)
    ·rcases Ma hz with h|h
     ·exact W1.pg z (hy4 z h)
     ·obtain ⟨d,hd,h⟩:=mem_flatMap.mp h
      have dG:aE n (gens++[x]) d:=by
       obtain ⟨i,j,_,h⟩:=Tt.jL.mp hd
       rw[U2] at h
       unfold Tt.oZ at h
       split at h
       ·cases h;exact yin
       ·exact (W1.snd.ok _ _ _ h).2.1
      rcases Mc h with h|h
      ·rw[h];exact hG.mul _ _ dG yin
      ·rw[Ms h];exact hG.mul _ _ yin dG
    ·exact mem_append_right _ (mem_flatMap.mpr ⟨r,rin,mem_cons_self ..⟩)
    ·have din:d∈gx T2:=Tt.jL.mpr ⟨i,j,hj,by rw[U2];exact Tt.mJ hnone _ _ _ hd⟩
     exact ⟨mem_append_right _ (mem_flatMap.mpr ⟨d,din,mem_cons_self ..⟩),mem_append_right _ (mem_flatMap.mpr ⟨d,din,mem_cons_of_mem _ (mem_cons_self ..)⟩)⟩
end
end Bt
namespace Bt
open PySem PySem.Spec PyProof.Rows L2
open PySem.W (Codec)
open Tt (Tab tU TOk aR md bS aE Grp IsT Way gx fE bU g9 bR wt cz rs)
theorem Av {K:Frag}{a:Addr}{xs:List V}{p q:Nat}{tt:TT}{te:TE}{vs:List Nat}{σ:L2.St}{H1:Hp}{D:Addr}{Qd:Hp→Prop}(Pv:Nat→Hp→Prop)(h0:Pv 0 (upd H1 D (.lst [])))(hl:∀ i H,i≤xs.length→Pv i H→SqL K H a xs)
  (hs:∀ (i:Nat) x H T,xs[i]?=some x→Pv i H→H T=none→gw (((gw σ vs).set p (some (.int (i:Nat)))).set q (some x)) vs=gw σ vs∧tt (((gw σ vs).set p (some (.int (i:Nat)))).set q (some x)) (upd H T (.tup [.int (i:Nat),x])) fun b H3=>
   if b=true then te (((gw σ vs).set p (some (.int (i:Nat)))).set q (some x)) H3 fun y H4=>∃ acc,H4 D=some (.lst acc)∧acc.length<sizeLine∧Pv (i+1) (upd H4 D (.lst (acc++[y]))) else Pv (i+1) H3)(hd:∀ H,Pv xs.length H→Qd H):
  ∃ W:Nat→Nat→Hp→Prop,(∃ m,W 0 m (upd H1 D (.lst [])))∧∀ i m H,W i m H→
   ((Ite K a).stop i H∧Qd H)∨((Ite K a).go i H∧∃ Nx:Hp→Prop,(∀ H',Nx H'→∃ m',m'<m∧W (i+1) m' H')∧∀ x H',(Ite K a).yld i H x H'→wD K p q x (gw σ vs) H' fun σ2 H2=>gw σ2 vs=gw σ vs∧tt σ2 H2 fun b H3=>
    if b=true then te σ2 H3 fun y H4=>∃ acc,H4 D=some (.lst acc)∧acc.length<sizeLine∧Nx (upd H4 D (.lst (acc++[y]))) else Nx H3):=by
 refine ⟨fun i m H=>m=xs.length-i∧i≤xs.length∧Pv i H,⟨xs.length,by simp,Nat.zero_le _,h0⟩,?_⟩
 rintro i m H ⟨rfl,hi,pv⟩
 have sq:=hl i H hi pv
 by_cases hlt:i<xs.length
 ·refine .inr ⟨⟨xs,xs[i],sq,by simp[hlt]⟩,Pv (i+1),fun H' p'=>⟨xs.length-(i+1),by omega,rfl,hlt,p'⟩,fun x H' y=>?_⟩
  obtain ⟨T,v,rfl,hT,rfl,hv⟩:=y
  exact ⟨T,_,rfl,SqT.of ae,rfl,_,_,rfl,_,_,rfl,rfl,hs i v H T (hv xs sq) pv hT⟩
 ·have e:i=xs.length:=by omega
  subst e
  exact .inl ⟨⟨xs,sq,Nat.le_refl _⟩,hd H pv⟩
inductive fJ (K:Frag) (vs':List V) (H:Hp) (Q:VK) (E:XK):Prop
 | mk (r:Addr) (vs:List V) (c:List (Option Turn.Row)):vs'=[.ref r]→H r=some (.lst vs)→fw K H vs c→c.length≤9→fY H Q (g9 c)→fJ K vs' H Q E
def dC (T:Tab):List Nat:=T.map fun c=>(g9 c).length
inductive d6 (K:Frag) (vs:List V) (H:Hp) (Q:VK) (E:XK):Prop
 | mk (t:Addr) (rs:List Addr) (T:Tab) (n:Nat):vs=[.ref t]→bt K H t rs T→TOk n T→n≤9→fY H Q (dC T)→d6 K vs H Q E
inductive cr (K:Frag) (vs:List V) (H:Hp) (Q:VK) (E:XK):Prop
 | mk (t:Addr) (rs:List Addr) (T:Tab) (n:Nat) (G:Turn.Row→Prop):vs=[.ref t]→bt K H t rs T→TOk n T→n≤9→bS n G (tU T)→(∀ H':Hp,az H H'→Q (.int (wt n G 0:Nat)) H')→cr K vs H Q E
inductive ff (K:Frag) (vs:List V) (H:Hp) (Q:VK) (E:XK):Prop
 | mk (t a:Addr) (rs:List Addr) (T:Tab) (x:List Nat) (n:Nat) (G:Turn.Row→Prop):vs=[.ref t,.ref a]→bt K H t rs T→SqL K H a (iv x)→TOk n T→IsT n x→n≤9→bS n G (tU T)→(∀ (H':Hp) (b:Bool),(b=true↔G x)→az H H'→Q (.bl b) H')→ff K vs H Q E
section
variable {P:Program} {w:World} {K:Frag} {mg:Str→Option Value} {base:Heap}
theorem pJ:ao ["row","goal","kept"] ["row"] (aj uN):=bX
theorem yd {f:Addr}{fd:FuncData}(F:Fun K "goals" "goals" uN f fd)(B:Blt mg):aZ P w K mg base CX0 1 f fd ["row"] (fJ K):=by
 refine okF F pJ (fun cdv A outer s H vs Q E hr h=>?_)
 ·obtain ⟨r,vs,c,rfl,hr',hc,hn,k⟩:=h
  refine ⟨_,ah (ax (gQ (own:=[("goal",1),("kept",2)]) (g:=wD K 1 2) rfl pJ.nd (eu rfl B.enumerate (aa (pv 0) af)) (bn rfl) (fun _ _ _ _ _=>eB (p:=1) (q:=2) rfl pJ.nd rfl rfl rfl rfl) (fun _ _ _ _ _=>qe (aU vA (pv 2) rn (be _))) (fun _ _ _ _ _=>pv 1))),?_⟩
  refine ⟨_,rfl,r,_,rfl,SqL.of hr',fun D hD=>Av (K:=K) (a:=r) (xs:=vs) (fun i H'=>az H H'∧H' D=some (.lst (iv ((List.range i).filter fun j=>(c.getD j none).isSome)))) ⟨al (az.refl _) hD,ae⟩ (fun i H' _ p=>SqL.of (p.1 _ _ hr')) ?_ ?_⟩
  ·rintro i v H' T hi ⟨s1,hD'⟩ hT
   have hil:i<c.length:=by rw[←hc.len];exact (Gq hi).1
   have hci:c[i]?=some c[i]:=getElem?_eq_getElem hil
   have cell:=hc.cell i v c[i] hi hci
   have hDT:D≠T:=am hD' hT
   have s2:az H (upd H' T (.tup [.int (i:Nat),v])):=al s1 hT
   have hD2:(upd H' T (.tup [.int (i:Nat),v])) D=some (.lst (iv ((List.range i).filter fun j=>(c.getD j none).isSome))):=by rw[ai hDT];exact hD'
   refine ⟨rfl,?_⟩
   refine ⟨_,rfl,rfl,_,rfl,lw (fun hv=>?_) fun hv=>?_⟩
   ·refine ⟨_,rfl,_,hD2,?_,aH s2 hD,?_⟩
    ·rw[aO]
     have:=length_filter_le (fun j=>(c.getD j none).isSome) (List.range i)
     rw[length_range] at this
     exact sz (by omega)
    ·rw[ae,range_succ,filter_append,filter_cons,filter_nil]
     have:(c.getD i none).isSome=true:=by
      rw[Tt.bW hci]
      cases e:c[i] with
      | none=>rw[e] at cell;exact absurd cell hv
      | some x=>rfl
     rw[if_pos this,eE]
   ·refine ⟨s2,?_⟩
    rw[hD2,range_succ,filter_append,filter_cons,filter_nil]
    have:(c.getD i none).isSome=false:=by
     rw[Tt.bW hci]
     cases e:c[i] with
     | none=>rfl
     | some x=>
      rw[e] at cell
      obtain ⟨_,z,_⟩:=cell
      rw[z] at hv;cases hv
    rw[if_neg (by rw[this];exact Bool.false_ne_true),append_nil]
  ·rintro H' ⟨s1,hD'⟩
   rw[hc.len] at hD'
   exact k H' D hD hD' s1
theorem fL:ao ["table","row"] ["table"] (aj gN):=bX
theorem mR {f:Addr}{fd:FuncData}(F:Fun K "goal_counts" "goal_counts" gN f fd)(B:Blt mg)(CG:Cal P w K mg base 1 "goals" ["row"] (fJ K)):aZ P w K mg base CX0 2 f fd ["table"] (d6 K):=by
 refine okF F fL (fun cdv A outer s H vs Q E hr h=>?_)
 ·obtain ⟨t,rs,T,n,rfl,hT,ok,hn,k⟩:=h
  refine ⟨_,ah (ax (gQ (own:=[("row",1)]) rfl fL.nd (aP (pv 0)) (bn rfl) (fun _ _ _ _ _=>aG (i:=1) fL.nd rfl (Or.inl rfl)) (fun _ _ _ _ _=>cF)
   (fun _ _ _ _ _=>aA (r:=fun xs H Q=>∃ p ys,xs=[.ref p]∧(SqL K H p ys∨SqT K H p ys)∧Q (.int ys.length) H) au rfl B.len PySem.boot_len (aa (ak CG hr rfl (aa (pv 1) af)) af)))),?_⟩
  refine ⟨_,rfl,t,rfl,⟨_,SqL.of hT.lst⟩,fun D hD=>de (K:=K) (a:=t) (xs:=rs.map V.ref) (fun i H'=>az H H'∧H' D=some (.lst (iv (dC (T.take i))))) ⟨al (az.refl _) hD,ae⟩ (fun i H' _ p=>SqL.of (p.1 _ _ hT.lst)) ?_ ?_⟩
  ·rintro i v H' hi ⟨s1,hD'⟩
   rw[getElem?_map] at hi
   obtain ⟨r,hri,rfl⟩:=Oq hi
   obtain ⟨vs,c,hc,hrv,hcs⟩:=hT.row i r hri
   refine ⟨rfl,?_⟩
   refine ⟨_,rfl,r,vs,c,rfl,s1 _ _ hrv,hcs.same s1,(by rw[ok.row i c hc];exact hn),fun H2 p hp hp2 s2=>⟨p,_,rfl,.inl (SqL.of hp2),_,s2 _ _ hD',?_,aH (s1.trans s2) hD,?_⟩⟩
   ·rw[aO];unfold dC
    rw[length_map,length_take]
    have:=ok.len
    exact sz (by omega)
   ·rw[ae,aC hc]
    unfold dC
    rw[map_append,map_singleton,eE,aO]
  ·rintro H' ⟨s1,hD'⟩
   rw[length_map,hT.len,take_length] at hD'
   exact k H' D hD hD' s1
theorem kU {n:Nat}{G:Turn.Row→Prop}{T:Tab}(ok:TOk n T)(F:bS n G (tU T)):dC T=(List.range n).map fun i=>(bR n G i).length:=by
 refine ext_getElem? fun i=>?_
 unfold dC
 rw[getElem?_map,getElem?_map]
 by_cases hi:i<n
 ·obtain ⟨r,hr,_⟩:=ok.get hi
  rw[hr,getElem?_range hi]
  show some (g9 r).length=some _
  rw[Tt.dI ok F hr]
 ·rw[getElem?_eq_none (by rw[ok.len];omega),getElem?_eq_none (by rw[length_range];omega)]
  rfl
noncomputable def eS (n:Nat)(G:Turn.Row→Prop)(i:Nat):Nat:=(List.range i).foldl (fun m k=>m*(bR n G k).length) 1
theorem dJ (n:Nat)(G:Turn.Row→Prop)(i:Nat):eS n G (i+1)=eS n G i*(bR n G i).length:=by
 unfold eS;rw[range_succ,foldl_append];rfl
theorem lq (n:Nat)(G:Turn.Row→Prop):eS n G n=wt n G 0:=by unfold eS wt;rw[drop_zero]
theorem nX {n:Nat}{G:Turn.Row→Prop}(hG:Grp n G)(hn:n≤9):∀ i,i≤n→eS n G i≤9 ^ i
 | 0,_=>Nat.le_refl _
 | i+1,h=>by
  rw[dJ,Nat.pow_succ]
  refine Nat.mul_le_mul (nX hG hn i (by omega)) ?_
  have:=Tt.di hG (i:=i) (by omega)
  omega
theorem fj:ao ["table","count","goal_count"] ["table"] (aj i3):=bX
theorem oj {f:Addr}{fd:FuncData}(F:Fun K "turn_count" "turn_count" i3 f fd)(CC:Cal P w K mg base 2 "goal_counts" ["table"] (d6 K)):aZ P w K mg base CX0 3 f fd ["table"] (cr K):=by
 refine okF F fj (fun cdv A outer s H vs Q E hr h=>?_)
 ·obtain ⟨t,rs,T,n,G,rfl,hT,ok,hn,FT,k⟩:=h
  refine ⟨_,ag (aq (i:=1) fj.nd rfl (Or.inl rfl) aB)
   (ag (bw PassesOwn.never rfl (aP (ak CC hr rfl (aa (pv 0) af))) (aG (i:=2) fj.nd rfl (Or.inl rfl))
    (ah (aq (i:=1) fj.nd rfl (Or.inl rfl) (dq yY (pv 1) (pv 2)))))
   (ah (ax (pv 1)))),?_⟩
  refine ⟨_,rfl,t,rs,T,n,rfl,hT,ok,hn,fun H1 c hc hc1 s1=>?_⟩
  rw[kU ok FT] at hc1
  refine ⟨c,rfl,⟨_,SqL.of hc1⟩,bj (K:=K) (a:=c) (xs:=iv ((List.range n).map fun i=>(bR n G i).length)) (fun i σ H'=>∃ v2:Option V,σ=[some (.ref t),some (.int (eS n G i:Nat)),v2]∧az H1 H')
   ⟨none,rfl,az.refl _⟩ (fun i σ H' _ ⟨_,_,s2⟩=>SqL.of (s2 _ _ hc1)) ?_ ?_⟩
  ·rintro i v σ H' hi ⟨v2,rfl,s2⟩
   obtain ⟨m,hm,rfl⟩:=eW hi
   have hin:i<n:=by
    have:=(Gq hm).1
    rwa [length_map,length_range] at this
   rw[getElem?_map,getElem?_range hin] at hm
   have hm:=(Oi hm).symm
   subst hm
   have b:=nX FT.grp hn i (by omega)
   have b2:(9:Nat) ^ i≤9 ^ 9:=Nat.pow_le_pow_right (by decide) (by omega)
   have b3:(9:Nat) ^ 9=387420489:=by decide
   refine ⟨_,rfl,_,rfl,_,_,rfl,rfl,.inl ⟨by omega,by omega⟩,?_⟩
   refine ⟨some (.int ((bR n G i).length:Nat)),?_,s2⟩
   rw[dJ,Int.natCast_mul]
   rfl
  ·rintro σ H' ⟨v2,rfl,s2⟩
   rw[aO,length_map,length_range,lq]
   exact ⟨_,rfl,k H' (s1.trans s2)⟩
theorem zE:ao ["table","x"] ["table","x"] (aj uJ):=bX
theorem xY {f:Addr}{fd:FuncData}(F:Fun K "makes" "makes" uJ f fd)(CW:Cal P w K mg base 3 "what_is_left" ["table","x"] (gb K))(CS:Cal P w K mg base 2 "is_still" ["x"] (fH K)):aZ P w K mg base CX0 4 f fd ["table","x"] (ff K):=by
 refine okF F zE (fun cdv A outer s H vs Q E hr h=>?_)
 ·obtain ⟨t,a,rs,T,x,n,G,rfl,hT,ha,ok,hx,hn,FT,k⟩:=h
  have hr2:bO 2 _:=hr.mono (by decide)
  refine ⟨_,ah (ax (ak CS hr2 rfl (aa (ak CW hr rfl (aa (pv 0) (aa (pv 1) af))) af))),?_⟩
  have LT:=Tt.mV FT.snd FT.grp n 0 x hx
  refine ⟨_,rfl,_,rfl,t,a,rs,T,x,n,rfl,hT,ha,ok,bS.ents FT,hx,hn,fun H2 p hp _ s2=>⟨p,_,rfl,hp,(by rw[LT.len];omega),fun H3 s3=>k H3 _ ?_ (s2.trans s3)⟩⟩
  rw[decide_eq_true_iff,←FT.iff hx]
  cases e:bU (tU T) n 0 x with
  | none=>
   rw[Tt.kJ FT.snd FT.grp n 0 x rfl (Nat.zero_le _) hx (fun a ha=>absurd ha (Nat.not_lt_zero a)) e,fC,Tt.bE]
   simp
  | some d=>
   obtain ⟨kk,r⟩:=d
   rw[Tt.kI n 0 x kk r e]
   obtain ⟨_,hk,rT,rf,hnone,_,_⟩:=Tt.eO FT.snd FT.grp n 0 x kk r rfl hx (fun a ha=>absurd ha (Nat.not_lt_zero a)) e
   have hrk:at_ r kk≠kk:=fun z=>by
    rw[z,FT.snd.diag kk hk] at hnone;cases hnone
   rw[fV rT hk rf hrk,rT.len]
   constructor
   ·intro h;omega
   ·intro h;cases h
end
end Bt
namespace Bt
open PySem PySem.Spec PyProof.Rows L2
open PySem.W (Codec)
open Tt (Tab tU TOk aR md bS aE Grp IsT Way gx fE bU g9 bR wt cz rs Orb Fix)
def BS (n:Nat)(G:Turn.Row→Prop)(k:Nat)(y:Turn.Row):Prop:=G y∧∀ a,a<n→(cz n G y a)[rs n G a 0 k / wt n G (a+1)]?=some (at_ y a)
inductive lW (K:Frag) (vs:List V) (H:Hp) (Q:VK) (E:XK):Prop
 | mk (t:Addr) (rs:List Addr) (T:Tab) (n:Nat) (G:Turn.Row→Prop) (k:Nat):vs=[.ref t,.int (k:Nat)]→bt K H t rs T→TOk n T→n≤9→bS n G (tU T)→k<wt n G 0→(∀ y,BS n G k y→fY H Q y)→lW K vs H Q E
inductive iT (K:Frag) (vs:List V) (H:Hp) (Q:VK) (E:XK):Prop
 | mk (t a:Addr) (rs:List Addr) (T:Tab) (n:Nat) (G:Turn.Row→Prop) (x:Turn.Row):vs=[.ref t,.ref a]→bt K H t rs T→SqL K H a (iv x)→TOk n T→n≤9→bS n G (tU T)→G x→(∀ H':Hp,az H H'→Q (.int (Tt.pl n G x n 0:Nat)) H')→iT K vs H Q E
theorem qF (x:List Nat):(iv x).all lc=true:=by
 rw[all_eq_true]
 intro v hv
 unfold iv at hv
 obtain ⟨k,_,rfl⟩:=mem_map.mp hv
 rfl
theorem mZ {n:Nat}{y:List Nat}(hy:IsT n y){j:Nat}(hj:j<n):
  (iv y)[j]?=some (V.int (at_ y j:Nat))∧eqV (V.int (at_ y j:Nat)) (V.int (at_ y j:Nat))=true∧∀ (m:Nat) (z':V),m<j→(iv y)[m]?=some z'→eqV z' (V.int (at_ y j:Nat))=false:=by
 have hyj:y[j]?=some (at_ y j):=by
  rw[getElem?_eq_getElem (hy.len.symm▸hj),Tt.cU (hy.len.symm▸hj)]
 refine ⟨eF hyj,by simp[eqV],fun m z' hm hz=>?_⟩
 obtain ⟨k,hk,rfl⟩:=eW hz
 have ek:=lM hk
 have:k≠at_ y j:=fun q=>by
  rw[←ek] at q
  have:=hy.inj m j (by omega) hj q
  omega
 simp only[eqV,beq_eq_false_iff_ne]
 omega
theorem pC {n:Nat}{G:Turn.Row→Prop}(hG:Grp n G){y:Turn.Row}(hy:IsT n y){i:Nat}(hi:i<n){ns:List Int}(hp:ns.Perm (zs ((bR n G i).map (at_ y))))(hs:ns.Pairwise (·≤·)):ns=zs (cz n G y i):=by
 refine eh hs ?_ (hp.trans ((Tt.nG hG hy hi).map _))
 unfold zs
 rw[pairwise_map]
 exact (Tt.ck y i).imp fun h=>by omega
section
variable {P:Program} {w:World} {K:Frag} {mg:Str→Option Value} {base:Heap}
theorem cM:ao ["table","number","chosen","count","rest","row","images","goal"] ["table","number"] (aj pM):=bX
theorem vE {f:Addr}{fd:FuncData}(F:Fun K "turn_at" "turn_at" pM f fd)(B:Blt mg)(CSt:Cal P w K mg base 1 "still_turn" ["things"] fc)(CT:Cal P w K mg base 3 "turn_count" ["table"] (cr K))
  (CG:Cal P w K mg base 1 "goals" ["row"] (fJ K))(CP:Cal P w K mg base 1 "product" ["x","y"] (bv K)):aZ P w K mg base CX0 4 f fd ["table","number"] (lW K):=by
 refine okF F cM (fun cdv A outer s H vs Q E hr h=>?_)
 ·obtain ⟨t,rs',T,n,G,k,rfl,hT,ok,hn,FT,hk,q⟩:=h
  have hr1:bO 1 _:=hr.mono (by decide)
  have hG:=FT.grp
  refine ⟨_,ag (aq (i:=2) cM.nd rfl (Or.inr rfl) (ak CSt hr1 rfl (aa (aA au rfl B.len PySem.boot_len (aa (pv 0) af)) af)))
   (ag (aq (i:=3) cM.nd rfl (Or.inl rfl) (ak CT hr rfl (aa (pv 0) af)))
   (ag (aq (i:=4) cM.nd rfl (Or.inl rfl) (pv 1))
   (ag (bw PassesOwn.never rfl (aP (pv 0)) (aG (i:=5) cM.nd rfl (Or.inl rfl))
    (ag (aq (i:=3) cM.nd rfl (Or.inl rfl) (dq ql (pv 3) (aA au rfl B.len PySem.boot_len (aa (ak CG hr1 rfl (aa (pv 5) af)) af))))
    (ag (aq (i:=6) cM.nd rfl (Or.inl rfl) (aA oH rfl B.sorted boot_sorted (aa (gQ (own:=[("goal",7)]) rfl cM.nd (aP (ak CG hr1 rfl (aa (pv 5) af))) (bn rfl) (fun _ _ _ _ _=>aG (i:=7) cM.nd rfl (Or.inl rfl)) (fun _ _ _ _ _=>cF) (fun _ _ _ _ _=>aL (r:=xE K) ay (pv 2) (pv 7) (fun _ _=>rfl))) af)))
    (ag (aq (i:=7) cM.nd rfl (Or.inl rfl) (eD PySem.F.plainAttrs_list PySem.F.slot_list_index PySem.F.type_list_index mU (pv 2) (aa (aL ay (pv 6) (dq ql (pv 4) (pv 3)) (fun _ _=>rfl)) af)))
    (ag (aq (i:=4) cM.nd rfl (Or.inl rfl) (dq vB (pv 4) (pv 3)))
    (ah (aq (i:=2) cM.nd rfl (Or.inr rfl) (ak CP hr1 rfl (aa (aL ay (pv 5) (pv 7) (fun _ _=>rfl)) (aa (pv 2) af))))))))))
   (ah (ax (pv 2)))))),?_⟩
  refine ⟨_,rfl,t,_,rfl,.inl (SqL.of hT.lst),n,(by rw[length_map,hT.len,ok.len];rfl),by omega,fun H1 c0 hc0 hc01 s1=>?_⟩
  refine ⟨_,rfl,t,rs',T,n,G,rfl,hT.same s1,ok,hn,FT,fun H2 s2=>?_⟩
  refine ⟨_,rfl,?_⟩
  have s12:=s1.trans s2
  refine ⟨_,rfl,t,rfl,⟨_,SqL.of (s12 _ _ hT.lst)⟩,bj (K:=K) (a:=t) (xs:=rs'.map V.ref) (fun i σ H'=>∃ (v5 v6 v7:Option V) (c:Addr) (y:List Nat),σ=[some (.ref t),some (.int (k:Nat)),some (.ref c),some (.int (wt n G i:Nat)),some (.int (rs n G i 0 k:Nat)),v5,v6,v7]∧H c=none∧H' c=some (.lst (iv y))∧G y∧az H H'∧
    ∀ a,a<i→(cz n G y a)[rs n G a 0 k / wt n G (a+1)]?=some (at_ y a))
   ⟨none,none,none,c0,Turn.still n,rfl,hc0,s2 _ _ hc01,hG.still,s12,fun a ha=>by omega⟩ (fun i σ H' _ ⟨_,_,_,_,_,_,_,_,_,s3,_⟩=>SqL.of (s3 _ _ hT.lst)) ?_ ?_⟩
  ·rintro i v σ H' hi ⟨v5,v6,v7,c,y,rfl,hcn,hc,hy,s3,hpick⟩
   rw[getElem?_map] at hi
   obtain ⟨r,hri,rfl⟩:=Oq hi
   obtain ⟨vs,cc,hcc,hrv,hcs⟩:=hT.row i r hri
   have hin:i<n:=by rw[←ok.len];exact (Gq hcc).1
   have yT:=hG.isT y hy
   have gl:=Tt.dI ok FT hcc
   have wp:=Tt.ig hG (n-(i+1)) (i+1) rfl
   have op:=Tt.gq hG hin
   have ol:=Tt.di hG hin
   have ws:=Tt.qS hn hG (i+1)
   have ccl:cc.length≤9:=by rw[ok.row i cc hcc];exact hn
   refine ⟨_,rfl,_,rfl,r,vs,cc,rfl,s3 _ _ hrv,hcs.same s3,ccl,fun H3 g hg hg3 s4=>?_⟩
   rw[gl] at hg3
   refine ⟨g,_,rfl,.inl (SqL.of hg3),_,_,rfl,rfl,⟨by rw[aO];omega,by rw[aO];omega⟩,?_⟩
   have ew:((wt n G i:Nat):Int) / (((iv (bR n G i)).length:Nat):Int)=((wt n G (i+1):Nat):Int):=by
    rw[aO,Tt.gD hin,←Int.natCast_ediv,Nat.mul_div_cancel_left _ op]
   dsimp only
   rw[ew]
   have s34:=s3.trans s4
   refine ⟨_,rfl,r,vs,cc,rfl,s34 _ _ hrv,hcs.same s34,ccl,fun H4 g2 hg2 hg24 s5=>?_⟩
   rw[gl] at hg24
   have s35:=s34.trans s5
   have hc5:H4 c=some (.lst (iv y)):=s5 _ _ (s4 _ _ hc)
   refine ⟨g2,rfl,⟨_,SqL.of hg24⟩,fun D hD=>de (K:=K) (a:=g2) (xs:=iv (bR n G i)) (fun j H'=>az H4 H'∧H' D=some (.lst (iv (((bR n G i).take j).map (at_ y))))) ⟨al (az.refl _) hD,ae⟩ (fun j H' _ p=>SqL.of (p.1 _ _ hg24)) ?_ ?_⟩
   ·rintro j v H' hj ⟨s6,hD'⟩
    obtain ⟨o,ho,rfl⟩:=eW hj
    have hon:o<n:=(Tt.aS.mp (mem_of_getElem? ho)).1
    have hyo:y[o]?=some (at_ y o):=by
     rw[getElem?_eq_getElem (yT.len.symm▸hon),Tt.cU (yT.len.symm▸hon)]
    refine ⟨rfl,?_⟩
    refine ⟨_,rfl,_,rfl,c,_,_,_,rfl,rfl,SqL.of (s6 _ _ hc5),aw (eF hyo),_,hD',?_,aH s6 hD,?_⟩
    ·rw[aO,length_map,length_take]
     exact sz (by omega)
    ·rw[ae,aC ho,map_append,map_singleton,eE]
   ·rintro H5 ⟨s6,hD5⟩
    rw[aO,take_length] at hD5
    refine ⟨D,zs ((bR n G i).map (at_ y)),rfl,SqL.of (by rw[iQ];exact hD5),(by unfold zs;rw[length_map,length_map];omega),fun ns' im hp hs him=>?_⟩
    have ens:=pC hG yT hin hp hs
    subst ens
    have s7:az H5 (upd H5 im (.lst ((zs (cz n G y i)).map V.int))):=al (az.refl _) him
    have him':(upd H5 im (.lst ((zs (cz n G y i)).map V.int))) im=some (.lst (iv (cz n G y i))):=by rw[ae,iQ]
    generalize upd H5 im (.lst ((zs (cz n G y i)).map V.int))=H6 at s7 him'
    have s67:=s6.trans s7
    have hc6:H6 c=some (.lst (iv y)):=s67 _ _ hc5
    have rl:=Tt.Bb hG i 0 k hk
    rw[Nat.zero_add] at rl
    have hdl:rs n G i 0 k / wt n G (i+1)<(cz n G y i).length:=by
     rw[Tt.lS hG yT hin,Nat.div_lt_iff_lt_mul wp,←Tt.gD hin];exact rl
    obtain ⟨u,hu⟩:∃ u,(cz n G y i)[rs n G i 0 k / wt n G (i+1)]?=some u:=⟨_,getElem?_eq_getElem hdl⟩
    obtain ⟨j,hoj,huj⟩:=(Tt.jK.mp (mem_of_getElem? hu)).2
    subst huj
    have hjn:=hoj.lt hG hin
    obtain ⟨ix1,ix2,ix3⟩:=mZ yT hjn
    have ed:((rs n G i 0 k:Nat):Int) / ((wt n G (i+1):Nat):Int)=((rs n G i 0 k / wt n G (i+1):Nat):Int):=by rw[Int.natCast_ediv]
    refine ⟨_,rfl,.inl ⟨rfl,_,SqL.of hc6⟩,_,rfl,_,rfl,_,rfl,_,_,rfl,rfl,⟨by omega,by omega⟩,im,_,_,_,rfl,rfl,SqL.of him',(by rw[ed];exact aw (eF hu)),c,iv y,_,j,_,rfl,rfl,SqL.of hc6,rfl,qF y,ix1,ix2,ix3,?_⟩
    refine ⟨_,rfl,_,rfl,_,_,rfl,rfl,(by omega),?_⟩
    have er:((rs n G i 0 k:Nat):Int) % ((wt n G (i+1):Nat):Int)=((rs n G (i+1) 0 k:Nat):Int):=by
     rw[Tt.uY,Nat.zero_add,Int.natCast_emod]
    dsimp only
    rw[er]
    have s37:=s35.trans s67
    obtain ⟨vs2,v2,w1,w2,w3,w4⟩:=(hT.same s37).cell ok hri hjn
    have hev:vs2=vs:=by
     have:=s37 _ _ hrv
     rw[w1] at this
     exact HO.lst.inj (Oi this)
    obtain ⟨e,he⟩:=Option.isSome_iff_exists.mp ((FT.orb hin).mpr hoj)
    rw[he] at w4
    obtain ⟨ea,rfl,hea⟩:=w4
    have eo:=FT.snd.ok _ _ _ he
    have eT:=hG.isT e eo.2.1
    refine ⟨_,rfl,_,rfl,r,_,_,_,rfl,rfl,SqL.of w1,aw w3,_,rfl,ea,c,e,y,rfl,hea,SqL.of hc6,(by rw[eT.len];omega),fun z hz=>(by rw[yT.len];exact eT.mem.mp hz),fun H7 cn hcn7 hcn7' s8=>?_⟩
    refine ⟨_,_,_,cn,Turn.mul e y,rfl,(s37.free hcn7),hcn7',hG.mul _ _ eo.2.1 hy,s37.trans s8,?_⟩
    exact Tt.vk hG yT hin eo.2.1 eo.2.2.1 eo.2.2.2 hu (fun a=>rs n G a 0 k / wt n G (a+1)) rfl hpick
  ·rintro σ H' ⟨v5,v6,v7,c,y,rfl,hcn,hc,hy,s3,hpick⟩
   rw[length_map,hT.len,ok.len] at hpick
   exact ⟨_,rfl,q y ⟨hy,hpick⟩ H' c hcn hc s3⟩
theorem xJ {X:Cx}{p q:Nat}{x y:Str}{px py pos:Pos}{k:Nat}(hc:X.calm=true)(hN:X.N.Nodup)(hp:X.N[p]?=some x)(hq:X.N[q]?=some y)(lx:X.env.scope.names.lookup x=some .cell)(fx:X.fn x=true)(ly:X.env.scope.names.lookup y=some .local)
  (hn:(assignEach [.Name x px,.Name y py] X.env).length=2:=by rfl)(hst:(assignEach [.Name x px,.Name y py] X.env).findIdx? (·.1)=none:=by rfl)
  (h1:(assignEach [.Name x px,.Name y py] X.env).map (·.2)=assign (.Name x px) X.env::(assignEach [.Name y py] X.env).map (·.2):=by rfl)
  (h2:(assignEach [.Name y py] X.env).map (·.2)=assign (.Name y py) X.env::(assignEach [] X.env).map (·.2):=by rfl):PG X (.Tuple [.Name x px,.Name y py] k pos) (wD X.K p q):=
 yV hc (jJ (aG hN hp (.inr lx) (.inl fx)) (jJ (aG hN hq (.inl ly) (.inr ly)) vp h2) h1) hn hst
theorem eX {c:Prop} [Decidable c]{A B:Prop}(h1:c→A)(h2:¬c→B):if (decide c)=true then A else B:=by
 by_cases h:c
 ·rw[decide_eq_true h];exact oy (h1 h)
 ·rw[decide_eq_false h];exact nD (h2 h)
theorem cA:ao ["table","x","chosen","number","place","row","lower","goal"] ["table","x"] (aj ke):=bX
theorem qr {f:Addr}{fd:FuncData}(F:Fun K "number_of" "number_of" ke f fd)(B:Blt mg)(CSt:Cal P w K mg base 1 "still_turn" ["things"] fc)
  (CG:Cal P w K mg base 1 "goals" ["row"] (fJ K))(CP:Cal P w K mg base 1 "product" ["x","y"] (bv K)):aZ P w K mg base CX0 2 f fd ["table","x"] (iT K):=by
 refine okF F cA (fun cdv A outer s H vs Q E hr h=>?_)
 ·obtain ⟨t,a,rs',T,n,G,x,rfl,hT,ha,ok,hn,FT,hx,q⟩:=h
  have hG:=FT.grp
  have xT:=hG.isT x hx
  refine ⟨_,ag (aq (i:=2) cA.nd rfl (Or.inr rfl) (ak CSt hr rfl (aa (aA au rfl B.len PySem.boot_len (aa (pv 0) af)) af)))
   (ag (aq (i:=3) cA.nd rfl (Or.inl rfl) aB)
   (ag (bw PassesOwn.never rfl (eu rfl B.enumerate (aa (pv 0) af)) (xJ (p:=4) (q:=5) rfl cA.nd rfl rfl rfl rfl rfl)
    (ag (jI (i:=6) (own:=[("goal",7)]) rfl cA.nd rfl rfl (lV rfl rfl rfl rfl) (aP (ak CG hr rfl (aa (pv 5) af))) (bn rfl) (fun _ _ _ _ _=>aG (i:=7) cA.nd rfl (Or.inl rfl))
     (fun _ _ _ _ _=>qe (aU vC (aL (r:=xE K) ay (pv 2) (pv 7) (fun _ _=>rfl)) (aL (r:=xE K) ay (pv 1) (pv 4) (fun _ _=>rfl)) (be _))) (fun _ _ _ _ _=>pv 7))
    (ag (aq (i:=3) cA.nd rfl (Or.inl rfl) (dq d9 (dq yY (pv 3) (aA au rfl B.len PySem.boot_len (aa (ak CG hr rfl (aa (pv 5) af)) af))) (aA au rfl B.len PySem.boot_len (aa (pv 6) af))))
    (ag (aq (i:=7) cA.nd rfl (Or.inl rfl) (eD PySem.F.plainAttrs_list PySem.F.slot_list_index PySem.F.type_list_index mU (pv 2) (aa (aL ay (pv 1) (pv 4) (fun _ _=>rfl)) af)))
    (ah (aq (i:=2) cA.nd rfl (Or.inr rfl) (ak CP hr rfl (aa (aL ay (pv 5) (pv 7) (fun _ _=>rfl)) (aa (pv 2) af)))))))))
   (ah (ax (pv 3))))),?_⟩
  refine ⟨_,rfl,t,_,rfl,.inl (SqL.of hT.lst),n,(by rw[length_map,hT.len,ok.len];rfl),by omega,fun H1 c0 hc0 hc01 s1=>?_⟩
  refine ⟨_,rfl,t,_,rfl,SqL.of (s1 _ _ hT.lst),dB (K:=K) (a:=t) (xs:=rs'.map V.ref) (fun i σ H'=>∃ (v4 v5 v6 v7:Option V) (c:Addr) (y:List Nat) (num:Nat),σ=[some (.ref t),some (.ref a),some (.ref c),some (.int (num:Nat)),v4,v5,v6,v7]∧H' c=some (.lst (iv y))∧G y∧az H H'∧
    (∀ b,b<i→at_ y b=at_ x b)∧num*wt n G i+Tt.pl n G x (n-i) i=Tt.pl n G x n 0)
   ⟨none,none,none,none,c0,Turn.still n,0,rfl,hc01,hG.still,s1,fun b hb=>(by omega),(by rw[Nat.zero_mul,Nat.zero_add];rfl)⟩ (fun i σ H' _ ⟨_,_,_,_,_,_,_,_,_,_,s3,_⟩=>SqL.of (s3 _ _ hT.lst)) ?_ ?_⟩
  ·rintro i v σ H' S hi ⟨v4,v5,v6,v7,c,y,num,rfl,hc,hy,s3,hag,hnum⟩ hS
   rw[getElem?_map] at hi
   obtain ⟨r,hri,rfl⟩:=Oq hi
   obtain ⟨vs,cc,hcc,hrv,hcs⟩:=hT.row i r hri
   have hin:i<n:=by rw[←ok.len];exact (Gq hcc).1
   have yT:=hG.isT y hy
   have gl:=Tt.dI ok FT hcc
   have wp:=Tt.ig hG (n-(i+1)) (i+1) rfl
   have ol:=Tt.di hG hin
   have ws:=Tt.qS hn hG 0
   have ccl:cc.length≤9:=by rw[ok.row i cc hcc];exact hn
   obtain ⟨evals,j,hoj,huj⟩:=Tt.tT hG hx hy hin hag
   have hjn:=hoj.lt hG hin
   have hxi:x[i]?=some (at_ x i):=by
    rw[getElem?_eq_getElem (xT.len.symm▸hin),Tt.cU (xT.len.symm▸hin)]
   have sS:az H' (upd H' S (.tup [.int (i:Nat),.ref r])):=al (az.refl _) hS
   have s4:=s3.trans sS
   have hc4:=sS _ _ hc
   generalize upd H' S (.tup [.int (i:Nat),.ref r])=H2 at sS s4 hc4
   refine ⟨_,rfl,r,vs,cc,rfl,s4 _ _ hrv,hcs.same s4,ccl,fun H3 g hg hg3 s5=>?_⟩
   rw[gl] at hg3
   have s45:=s4.trans s5
   have hc5:=s5 _ _ hc4
   refine ⟨g,rfl,⟨_,SqL.of hg3⟩,fun D hD=>de (K:=K) (a:=g) (xs:=iv (bR n G i)) (fun m H'=>az H3 H'∧H' D=some (.lst (iv (((bR n G i).take m).filter fun o=>decide (at_ y o<at_ x i))))) ⟨al (az.refl _) hD,ae⟩ (fun m H' _ p=>SqL.of (p.1 _ _ hg3)) ?_ ?_⟩
   ·rintro m v H' hm ⟨s6,hD'⟩
    obtain ⟨o,ho,rfl⟩:=eW hm
    have hon:o<n:=(Tt.aS.mp (mem_of_getElem? ho)).1
    have hyo:y[o]?=some (at_ y o):=by
     rw[getElem?_eq_getElem (yT.len.symm▸hon),Tt.cU (yT.len.symm▸hon)]
    have step:((bR n G i).take (m+1)).filter (fun o=>decide (at_ y o<at_ x i))=((bR n G i).take m).filter (fun o=>decide (at_ y o<at_ x i))++(if at_ y o<at_ x i then [o] else []):=by
     rw[aC ho,filter_append,filter_cons,filter_nil]
     congr 1
     by_cases h:at_ y o<at_ x i
     ·simp[h]
     ·simp[h]
    refine ⟨rfl,?_⟩
    refine ⟨_,rfl,_,rfl,c,_,_,_,rfl,rfl,SqL.of (s6 _ _ hc5),aw (eF hyo),_,rfl,_,rfl,a,_,_,_,rfl,rfl,s6.seq (s45.seq ha),aw (eF hxi),_,_,rfl,rfl,_,rfl,eX (fun h=>?_) fun h=>?_⟩
    ·refine ⟨_,rfl,_,hD',?_,aH s6 hD,?_⟩
     ·rw[aO]
      have:=length_filter_le (fun o=>decide (at_ y o<at_ x i)) ((bR n G i).take m)
      rw[length_take] at this
      exact sz (by omega)
     ·rw[ae,step,if_pos (by omega),eE]
    ·refine ⟨s6,?_⟩
     rw[step,if_neg (by omega),append_nil];exact hD'
   ·rintro H5 ⟨s6,hD5⟩
    rw[aO,take_length] at hD5
    have s46:=s45.trans s6
    have hc6:=s6 _ _ hc5
    refine ⟨_,rfl,_,rfl,r,vs,cc,rfl,s46 _ _ hrv,hcs.same s46,ccl,fun H6 g2 hg2 hg26 s7=>?_⟩
    rw[gl] at hg26
    have low:=Tt.we hG yT hin (v:=at_ x i) (by rw[←evals];exact Tt.dy hG xT hin)
    have plt:=Tt.qg hG xT n 0 rfl
    have nb:num≤wt n G 0:=by
     have:num*1≤num*wt n G i:=Nat.mul_le_mul_left _ (Tt.ig hG _ _ rfl)
     omega
    refine ⟨g2,_,rfl,.inl (SqL.of hg26),_,_,rfl,rfl,.inl ⟨by omega,by omega⟩,_,rfl,D,_,rfl,.inl (SqL.of (s7 _ _ hD5)),_,_,rfl,rfl,?_⟩
    have s47:=s46.trans s7
    have hc7:=s7 _ _ hc6
    obtain ⟨ix1,ix2,ix3⟩:=mZ yT hjn
    rw[huj] at ix1 ix2 ix3
    refine ⟨_,rfl,.inl ⟨rfl,_,SqL.of hc7⟩,_,rfl,_,rfl,a,_,_,_,rfl,rfl,s47.seq ha,aw (eF hxi),c,iv y,_,j,_,rfl,rfl,SqL.of hc7,rfl,qF y,ix1,ix2,ix3,?_⟩
    obtain ⟨vs2,v2,w1,w2,w3,w4⟩:=(hT.same s47).cell ok hri hjn
    obtain ⟨e,he⟩:=Option.isSome_iff_exists.mp ((FT.orb hin).mpr hoj)
    rw[he] at w4
    obtain ⟨ea,rfl,hea⟩:=w4
    have eo:=FT.snd.ok _ _ _ he
    have eT:=hG.isT e eo.2.1
    refine ⟨_,rfl,_,rfl,r,_,_,_,rfl,rfl,SqL.of w1,aw w3,_,rfl,ea,c,e,y,rfl,hea,SqL.of hc7,(by rw[eT.len];omega),fun z hz=>(by rw[yT.len];exact eT.mem.mp hz),fun H8 cn hcn8 hcn8' s8=>?_⟩
    refine ⟨some (.int (i:Nat)),some (.ref r),some (.ref D),some (.int (j:Nat)),cn,Turn.mul e y,num*(bR n G i).length+(cz n G x i).idxOf (at_ x i),?_,hcn8',hG.mul _ _ eo.2.1 hy,s47.trans s8,fun b hb=>?_,?_⟩
    ·rw[aO,aO,low,←evals,Int.natCast_add,Int.natCast_mul]
     rfl
    ·rw[eT.at_mul (by omega)]
     by_cases hbi:b=i
     ·rw[hbi,eo.2.2.2,huj]
     ·rw[eo.2.2.1 b (by omega)];exact hag b (by omega)
    ·have e1:n-i=(n-(i+1))+1:=by omega
     rw[e1] at hnum
     have e2:Tt.pl n G x (n-(i+1)+1) i=(cz n G x i).idxOf (at_ x i)*wt n G (i+1)+Tt.pl n G x (n-(i+1)) (i+1):=rfl
     rw[e2,Tt.gD hin] at hnum
     rw[Nat.add_mul,Nat.mul_assoc]
     omega
  ·rintro σ H' ⟨v4,v5,v6,v7,c,y,num,rfl,hc,hy,s3,hag,hnum⟩
   rw[length_map,hT.len,ok.len,Tt.lR (Nat.le_refl _),Nat.sub_self,Nat.mul_one] at hnum
   have e:num=Tt.pl n G x n 0:=by
    have:Tt.pl n G x 0 n=0:=rfl
    omega
   rw[e]
   exact ⟨_,rfl,q H' s3⟩
end
end Bt
namespace Bt
open PySem PySem.Spec PyProof.Rows L2
open PySem.W (Codec)
open Tt (IsT jA aM iJ bK cC gB)
abbrev uW:Stmt:=top 16
abbrev pV:Stmt:=top 17
abbrev km:Stmt:=top 18
abbrev pS:Stmt:=top 19
abbrev qa:Stmt:=top 20
abbrev mE:Stmt:=top 21
inductive l7 (vs:List V) (H:Hp) (Q:VK) (E:XK):Prop
 | mk (n:Nat):vs=[.int (n:Nat)]→n≤1000→fY H Q (List.range n)→l7 vs H Q E
inductive ip (K:Frag) (vs:List V) (H:Hp) (Q:VK) (E:XK):Prop
 | mk (r:Addr) (p:List Nat) (a b:Nat):vs=[.ref r,.int (a:Nat),.int (b:Nat)]→SqL K H r (iv p)→p.length≤1000→a<p.length→b<p.length→fY H Q (Turn.joined p a b)→ip K vs H Q E
inductive gh (K:Frag) (vs:List V) (H:Hp) (Q:VK) (E:XK):Prop
 | mk (r:Addr) (p:List Nat):vs=[.ref r]→SqL K H r (iv p)→0<p.length→p.length≤1000→(∀ H':Hp,az H H'→Q (.bl (p.all fun i=>i==0)) H')→gh K vs H Q E
structure dh (K:Frag)(H:Hp)(n:Nat)(g:Addr)(gs:List Addr)(gens:List Turn.Row):Prop where
 lst:SqL K H g (gs.map V.ref)
 rows:aF K H gs gens
 isT:∀ x∈gens,IsT n x
theorem dh.same {K:Frag}{H H':Hp}{n:Nat}{g:Addr}{gs:List Addr}{gens:List Turn.Row}(s:az H H')(h:dh K H n g gs gens):dh K H' n g gs gens:=⟨s.seq h.lst,h.rows.same s,h.isT⟩
inductive io (K:Frag) (vs:List V) (H:Hp) (Q:VK) (E:XK):Prop
 | mk (n:Nat) (g:Addr) (gs:List Addr) (gens:List Turn.Row):vs=[.int (n:Nat),.ref g]→dh K H n g gs gens→n≤9→fY H Q (leasts n gens)→io K vs H Q E
inductive jG (K:Frag) (vs:List V) (H:Hp) (Q:VK) (E:XK):Prop
 | mk (n a b:Nat) (g:Addr) (gs:List Addr) (gens:List Turn.Row):vs=[.int (n:Nat),.ref g,.int (a:Nat),.int (b:Nat)]→dh K H n g gs gens→a<n→b<n→n≤9→fY H Q (Turn.blocks n gens a b)→jG K vs H Q E
inductive j4 (K:Frag) (vs:List V) (H:Hp) (Q:VK) (E:XK):Prop
 | mk (n:Nat) (r t:Addr) (p x:List Nat):vs=[.ref r,.ref t]→SqL K H r (iv p)→SqL K H t (iv x)→jA n p→IsT n x→0<n→n≤9→fY H Q (aM p (bK n p x))→j4 K vs H Q E
section
variable {P:Program} {w:World} {K:Frag} {mg:Str→Option Value} {base:Heap}
theorem zO:ao ["things"] ["things"] (aj uW):=bX
theorem yp {f:Addr}{fd:FuncData}(F:Fun K "each_alone" "each_alone" uW f fd)(B:Blt mg):aZ P w K mg base CX0 1 f fd ["things"] l7:=by
 refine okF F zO (fun cdv A outer s H vs Q E hr h=>?_)
 ·obtain ⟨n,rfl,hn,k⟩:=h
  refine ⟨_,ah (ax (fQ rfl rfl B.list rfl B.range (aa (pv 0) af))),?_⟩
  exact ⟨_,rfl,n,rfl,by omega,oA k⟩
theorem iB:ao ["parting","a","b","low","high","part"] ["parting","a","b"] (aj pV):=bX
theorem vL {f:Addr}{fd:FuncData}(F:Fun K "joined" "joined" pV f fd)(B:Blt mg):aZ P w K mg base CX0 1 f fd ["parting","a","b"] (ip K):=by
 refine okF F iB (fun cdv A outer s H vs Q E hr h=>?_)
 ·obtain ⟨r,p,a,b,rfl,hp,hl,ha,hb,k⟩:=h
  refine ⟨_,ag (aq (i:=3) iB.nd rfl (Or.inr rfl) (aA (wW rfl) rfl B.min PyProof.Rows.boot_min (aa (aL ay (pv 0) (pv 1) (fun _ _=>rfl)) (aa (aL ay (pv 0) (pv 2) (fun _ _=>rfl)) af))))
   (ag (aq (i:=4) iB.nd rfl (Or.inr rfl) (aA (wX rfl) rfl B.max PyProof.Rows.boot_max (aa (aL ay (pv 0) (pv 1) (fun _ _=>rfl)) (aa (aL ay (pv 0) (pv 2) (fun _ _=>rfl)) af))))
   (ah (ax (gQ (own:=[("part",5)]) rfl iB.nd (aP (pv 0)) (bn rfl) (fun _ _ _ _ _=>aG (i:=5) iB.nd rfl (Or.inl rfl)) (fun _ _ _ _ _=>cF)
    (fun _ _ _ _ _=>mL (aU mO (pv 5) (pv 4) (be _)) (pv 3) (pv 5)))))),?_⟩
  have hpa:p[a]?=some (at_ p a):=by rw[getElem?_eq_getElem ha,Tt.cU ha]
  have hpb:p[b]?=some (at_ p b):=by rw[getElem?_eq_getElem hb,Tt.cU hb]
  refine ⟨_,rfl,_,rfl,r,_,_,_,rfl,rfl,hp,aw (eF hpa),_,rfl,_,rfl,r,_,_,_,rfl,rfl,hp,aw (eF hpb),_,_,rfl,?_⟩
  have e1:(if ((at_ p b:Nat):Int)<((at_ p a:Nat):Int) then ((at_ p b:Nat):Int) else ((at_ p a:Nat):Int))=((min (at_ p a) (at_ p b):Nat):Int):=by split <;> omega
  have e2:(if ((at_ p b:Nat):Int) > ((at_ p a:Nat):Int) then ((at_ p b:Nat):Int) else ((at_ p a:Nat):Int))=((max (at_ p a) (at_ p b):Nat):Int):=by split <;> omega
  rw[e1]
  refine ⟨_,rfl,_,rfl,r,_,_,_,rfl,rfl,hp,aw (eF hpa),_,rfl,_,rfl,r,_,_,_,rfl,rfl,hp,aw (eF hpb),_,_,rfl,?_⟩
  rw[e2]
  refine ⟨_,rfl,r,rfl,⟨_,hp⟩,fun D hD=>de (K:=K) (a:=r) (xs:=iv p) (fun i H'=>az H H'∧H' D=some (.lst (iv (Turn.joined (p.take i) 0 0 |> fun _=>(p.take i).map fun k=>if k=max (at_ p a) (at_ p b) then min (at_ p a) (at_ p b) else k)))) ⟨al (az.refl _) hD,ae⟩ (fun i H' _ q=>q.1.seq hp) ?_ ?_⟩
  ·rintro i v H' hi ⟨s1,hD'⟩
   obtain ⟨u,hu,rfl⟩:=eW hi
   have fin:∀ z:Nat,z=(if u=max (at_ p a) (at_ p b) then min (at_ p a) (at_ p b) else u)→∃ acc,H' D=some (.lst acc)∧acc.length<sizeLine∧az H (upd H' D (.lst (acc++[V.int (z:Nat)])))∧(upd H' D (.lst (acc++[V.int (z:Nat)]))) D=some (.lst (iv ((p.take (i+1)).map fun k=>if k=max (at_ p a) (at_ p b) then min (at_ p a) (at_ p b) else k))):=fun z hz=>
    ⟨_,hD',(by rw[aO,length_map,length_take];exact sz (by omega)),aH s1 hD,by rw[ae,aC hu,map_append,map_singleton,eE,hz]⟩
   refine ⟨rfl,?_⟩
   refine ⟨_,rfl,_,rfl,rfl,_,rfl,wv (fun h=>?_) fun h=>?_⟩
   ·have h':u=max (at_ p a) (at_ p b):=by
     have:=V.int.inj h
     omega
    exact ⟨_,rfl,fin _ (by rw[if_pos h'])⟩
   ·have h':¬u=max (at_ p a) (at_ p b):=fun q=>h (by rw[q])
    exact ⟨_,rfl,fin _ (by rw[if_neg h'])⟩
  ·rintro H' ⟨s1,hD'⟩
   rw[aO,take_length] at hD'
   exact k H' D hD hD' s1
theorem sG:ao ["parting"] ["parting"] (aj km):=bX
theorem qz {f:Addr}{fd:FuncData}(F:Fun K "is_all_in_one" "is_all_in_one" km f fd)(B:Blt mg):aZ P w K mg base CX0 1 f fd ["parting"] (gh K):=by
 refine okF F sG (fun cdv A outer s H vs Q E hr h=>?_)
 ·obtain ⟨r,p,rfl,hp,h0,hl,k⟩:=h
  refine ⟨_,ah (ax (i5 mO (aA (BL rfl) rfl B.max PyProof.Rows.boot_max (aa (pv 0) af)) aB (be _))),?_⟩
  refine ⟨_,rfl,r,zs p,rfl,(by rw[iQ];exact hp),(by unfold zs;rw[length_map];exact h0),fun m hm hmx=>⟨rfl,?_⟩⟩
  have e:decide (V.int m=V.int 0)=p.all fun i=>i==0:=by
   rw[Bool.eq_iff_iff,decide_eq_true_iff,all_eq_true]
   constructor
   ·intro h i hi
    have hm0:=V.int.inj h
    have:=hmx (i:Int) (mem_map.mpr ⟨i,hi,rfl⟩)
    rw[beq_iff_eq];omega
   ·intro h
    obtain ⟨i,hi,rfl⟩:=mem_map.mp hm
    have:=h i hi
    rw[beq_iff_eq] at this
    rw[this];rfl
  rw[e]
  exact k H (az.refl _)
theorem gZ (p:List Nat):∀ l:List (Nat×Nat),(aM p l).length=p.length:=by
 intro l
 induction l generalizing p with
 | nil=>rfl
 | cons c l ih=>
  show (aM (Turn.joined p c.1 c.2) l).length=_
  rw[ih];unfold Turn.joined;rw[length_map]
theorem iz:ao ["things","given","parting","turn","place","goal"] ["things","given"] (aj pS):=bX
theorem vJ {f:Addr}{fd:FuncData}(F:Fun K "orbit_parting" "orbit_parting" pS f fd)(B:Blt mg)(CA:Cal P w K mg base 1 "each_alone" ["things"] l7)(CJ:Cal P w K mg base 1 "joined" ["parting","a","b"] (ip K)):aZ P w K mg base CX0 2 f fd ["things","given"] (io K):=by
 refine okF F iz (fun cdv A outer s H vs Q E hr h=>?_)
 ·obtain ⟨n,g,gs,gens,rfl,hg,hn,k⟩:=h
  refine ⟨_,ag (aq (i:=2) iz.nd rfl (Or.inl rfl) (ak CA hr rfl (aa (pv 0) af)))
   (ag (bw PassesOwn.never rfl (aP (pv 1)) (aG (i:=3) iz.nd rfl (Or.inl rfl))
    (ah (bw PassesOwn.never rfl (eu rfl B.enumerate (aa (pv 3) af)) (eB (p:=4) (q:=5) rfl iz.nd rfl rfl rfl rfl)
     (ah (aq (i:=2) iz.nd rfl (Or.inl rfl) (ak CJ hr rfl (aa (pv 2) (aa (pv 4) (aa (pv 5) af)))))))))
   (ah (ax (pv 2)))),?_⟩
  refine ⟨_,rfl,n,rfl,by omega,fun H1 q hq hq1 s1=>?_⟩
  refine ⟨_,rfl,g,rfl,⟨_,s1.seq hg.lst⟩,bj (K:=K) (a:=g) (xs:=gs.map V.ref) (fun i σ H'=>∃ (v3 v4 v5:Option V) (q:Addr),σ=[some (.int (n:Nat)),some (.ref g),some (.ref q),v3,v4,v5]∧H q=none∧H' q=some (.lst (iv (aM (List.range n) ((gens.take i).flatMap (iJ n)))))∧az H H')
   ⟨none,none,none,q,rfl,hq,hq1,s1⟩ (fun i σ H' _ ⟨_,_,_,_,_,_,_,s2⟩=>s2.seq hg.lst) ?_ ?_⟩
  ·rintro i v σ H' hi ⟨v3,v4,v5,q,rfl,hq,hq1,s2⟩
   rw[getElem?_map] at hi
   obtain ⟨ta,hta,rfl⟩:=Oq hi
   obtain ⟨x,hx,hxq⟩:=hg.rows.get hta
   have xT:=hg.isT x (mem_of_getElem? hx)
   refine ⟨_,rfl,ta,_,rfl,s2.seq hxq,dB (K:=K) (a:=ta) (xs:=iv x) (fun j σ H2=>∃ (v4 v5:Option V) (q:Addr),σ=[some (.int (n:Nat)),some (.ref g),some (.ref q),some (.ref ta),v4,v5]∧H q=none∧H2 q=some (.lst (iv (aM (aM (List.range n) ((gens.take i).flatMap (iJ n))) ((iJ n x).take j))))∧az H H2)
    ⟨_,_,q,rfl,hq,hq1,s2⟩ (fun j σ H2 _ ⟨_,_,_,_,_,_,s3⟩=>s3.seq hxq) ?_ ?_⟩
   ·rintro j v σ H2 S hj ⟨v4,v5,q,rfl,hq,hq2,s3⟩ hS
    obtain ⟨o,ho,rfl⟩:=eW hj
    have hjn:j<n:=by rw[←xT.len];exact (Gq ho).1
    have eo:=lM ho
    have hon:o<n:=by rw[←eo];exact xT.lt j hjn
    have sS:az H2 (upd H2 S (.tup [.int (j:Nat),.int (o:Nat)])):=al (az.refl _) hS
    have s4:=s3.trans sS
    have len:(aM (aM (List.range n) ((gens.take i).flatMap (iJ n))) ((iJ n x).take j)).length=n:=by rw[gZ,gZ,length_range]
    refine ⟨_,rfl,_,rfl,_,rfl,q,_,j,o,rfl,SqL.of (sS _ _ hq2),(by rw[len];omega),(by rw[len];exact hjn),(by rw[len];exact hon),fun H3 q3 hq3 hq3' s5=>?_⟩
    refine ⟨_,_,q3,rfl,s4.free hq3,?_,s4.trans s5⟩
    have hm:(iJ n x)[j]?=some (j,o):=by
     unfold iJ
     rw[getElem?_map,getElem?_range hjn,←eo];rfl
    rw[aC hm,Tt.ju]
    exact hq3'
   ·rintro σ H2 ⟨v4,v5,q,rfl,hq,hq2,s3⟩
    refine ⟨_,_,_,q,rfl,hq,?_,s3⟩
    have emv:(iJ n x).take n=iJ n x:=take_of_length_le (by unfold iJ;rw[length_map,length_range];exact Nat.le_refl _)
    rw[aO,xT.len,emv] at hq2
    rw[aC hx,flatMap_append]
    have e:∀ (A C:List (Nat×Nat)) (p:List Nat),aM p (A++C)=aM (aM p A) C:=fun A C p=>by unfold aM;rw[foldl_append]
    rw[e]
    simpa using hq2
  ·rintro σ H' ⟨v3,v4,v5,q,rfl,hq,hq1,s2⟩
   rw[length_map,hg.rows.len,take_length,Tt.vz hg.isT] at hq1
   exact ⟨_,rfl,k H' q hq hq1 s2⟩
theorem iD:ao ["parting","turn","carried","place","least"] ["parting","turn"] (aj mE):=bX
theorem tj {f:Addr}{fd:FuncData}(F:Fun K "carried_on" "carried_on" mE f fd)(B:Blt mg)(CJ:Cal P w K mg base 1 "joined" ["parting","a","b"] (ip K)):aZ P w K mg base CX0 2 f fd ["parting","turn"] (j4 K):=by
 refine okF F iD (fun cdv A outer s H vs Q E hr h=>?_)
 ·obtain ⟨n,r,t,p,x,rfl,hp,ht,pp,xT,h0,hn,k⟩:=h
  refine ⟨_,ag (aq (i:=2) iD.nd rfl (Or.inl rfl) (pv 0))
   (ag (bw PassesOwn.never rfl (eu rfl B.enumerate (aa (pv 0) af)) (eB (p:=3) (q:=4) rfl iD.nd rfl rfl rfl rfl)
    (ah (aq (i:=2) iD.nd rfl (Or.inl rfl) (ak CJ hr rfl (aa (pv 2) (aa (aL ay (pv 1) (pv 3) (fun _ _=>rfl)) (aa (aL ay (pv 1) (pv 4) (fun _ _=>rfl)) af)))))))
   (ah (ax (pv 2)))),?_⟩
  refine ⟨_,rfl,_,rfl,r,_,rfl,hp,dB (K:=K) (a:=r) (xs:=iv p) (fun i σ H'=>∃ (v3 v4:Option V) (q:Addr),σ=[some (.ref r),some (.ref t),some (.ref q),v3,v4]∧SqL K H' q (iv (aM p ((bK n p x).take i)))∧(0<i→H q=none∧H' q=some (.lst (iv (aM p ((bK n p x).take i)))))∧az H H')
   ⟨none,none,r,rfl,hp,fun h=>(by omega),az.refl _⟩ (fun i σ H' _ ⟨_,_,_,_,_,_,s2⟩=>s2.seq hp) ?_ ?_⟩
  ·rintro i v σ H' S hi ⟨v3,v4,q,rfl,hq,_,s2⟩ hS
   obtain ⟨o,ho,rfl⟩:=eW hi
   have hin:i<n:=by rw[←pp.len];exact (Gq ho).1
   have eo:=lM ho
   have hon:o<n:=by rw[←eo];exact pp.lt hin
   have sS:az H' (upd H' S (.tup [.int (i:Nat),.int (o:Nat)])):=al (az.refl _) hS
   have s3:=s2.trans sS
   have hxi:x[i]?=some (at_ x i):=by rw[getElem?_eq_getElem (xT.len.symm▸hin),Tt.cU (xT.len.symm▸hin)]
   have hxo:x[o]?=some (at_ x o):=by rw[getElem?_eq_getElem (xT.len.symm▸hon),Tt.cU (xT.len.symm▸hon)]
   have len:(aM p ((bK n p x).take i)).length=n:=by rw[gZ,pp.len]
   refine ⟨_,rfl,_,rfl,_,rfl,t,_,_,_,rfl,rfl,s3.seq ht,aw (eF hxi),_,rfl,_,rfl,t,_,_,_,rfl,rfl,s3.seq ht,aw (eF hxo),q,_,at_ x i,at_ x o,rfl,sS.seq hq,(by rw[len];omega),(by rw[len];exact xT.lt i hin),(by rw[len];exact xT.lt o hon),fun H3 q3 hq3 hq3' s5=>?_⟩
   have hm:(bK n p x)[i]?=some (at_ x i,at_ x o):=by
    unfold bK
    rw[getElem?_map,getElem?_range hin,←eo];rfl
   have e:aM p ((bK n p x).take (i+1))=Turn.joined (aM p ((bK n p x).take i)) (at_ x i) (at_ x o):=by
    rw[aC hm,Tt.ju]
   refine ⟨_,_,q3,rfl,by rw[e];exact SqL.of hq3',fun _=>⟨s3.free hq3,by rw[e];exact hq3'⟩,s3.trans s5⟩
  ·rintro σ H' ⟨v3,v4,q,rfl,_,hq,s2⟩
   have ec:(bK n p x).take (iv p).length=bK n p x:=take_of_length_le (by unfold bK;rw[length_map,length_range,aO,pp.len];exact Nat.le_refl _)
   rw[ec] at hq
   have:=hq (by rw[aO,pp.len];exact h0)
   exact ⟨_,rfl,k H' q this.1 this.2 s2⟩
theorem gk:ao ["things","given","a","b","before","parting","turn"] ["things","given","a","b"] (aj qa):=bX
theorem vR {f:Addr}{fd:FuncData}(F:Fun K "block_parting" "block_parting" qa f fd)(CA:Cal P w K mg base 1 "each_alone" ["things"] l7)(CJ:Cal P w K mg base 1 "joined" ["parting","a","b"] (ip K))(CC:Cal P w K mg base 2 "carried_on" ["parting","turn"] (j4 K)):
  aZ P w K mg base CX0 3 f fd ["things","given","a","b"] (jG K):=by
 refine okF F gk (fun cdv A outer s H vs Q E hr h=>?_)
 ·obtain ⟨n,a,b,g,gs,gens,rfl,hg,ha,hb,hn,k⟩:=h
  have hr1:bO 1 _:=hr.mono (by decide)
  refine ⟨_,ag (aq (i:=4) gk.nd rfl (Or.inl rfl) (ak CA hr1 rfl (aa (pv 0) af)))
   (ag (aq (i:=5) gk.nd rfl (Or.inl rfl) (ak CJ hr1 rfl (aa (pv 4) (aa (pv 2) (aa (pv 3) af)))))
   (ag (dj PassesOwn.never (aU (yX hr.units) (pv 5) (pv 4) (be _))
    (ag (aq (i:=4) gk.nd rfl (Or.inl rfl) (pv 5))
    (ah (bw PassesOwn.never rfl (aP (pv 1)) (aG (i:=6) gk.nd rfl (Or.inl rfl))
     (ah (aq (i:=5) gk.nd rfl (Or.inl rfl) (ak CC hr rfl (aa (pv 5) (aa (pv 6) af)))))))))
   (ah (ax (pv 5))))),?_⟩
  refine ⟨_,rfl,n,rfl,by omega,fun H1 q0 hq0 hq01 s1=>?_⟩
  refine ⟨_,rfl,_,rfl,_,rfl,q0,_,a,b,rfl,SqL.of hq01,(by rw[length_range];omega),(by rw[length_range];exact ha),(by rw[length_range];exact hb),fun H2 p0 hp0 hp02 s2=>?_⟩
  have s12:=s1.trans s2
  refine ⟨fun m σ H'=>∃ (v6:Option V) (q p:Addr) (before parting:List Nat),σ=[some (.int (n:Nat)),some (.ref g),some (.int (a:Nat)),some (.int (b:Nat)),some (.ref q),some (.ref p),v6]∧H' q=some (.lst (iv before))∧H p=none∧H' p=some (.lst (iv parting))∧az H H'∧gB n gens a b before parting∧m=Tt.tX n before,
   ⟨_,none,q0,p0,_,_,rfl,s2 _ _ hq01,s1.free hp0,hp02,s12,gB.start hg.isT ha hb,rfl⟩,?_⟩
  rintro m σ H' ⟨v6,q,p,before,parting,rfl,hq,hpn,hp,s3,I,rfl⟩
  refine ⟨_,rfl,_,rfl,p,q,zs parting,zs before,rfl,rfl,SqL.of (by rw[iQ];exact hp),SqL.of (by rw[iQ];exact hq),_,rfl,?_⟩
  by_cases he:parting=before
  ·have e:(!decide (zs parting=zs before))=false:=by rw[he];simp
   rw[e]
   refine nD ?_
   subst he
   have:=I.done hg.isT ha hb
   exact ⟨_,rfl,k H' p hpn (by rw[hp,this]) s3⟩
  ·have e:(!decide (zs parting=zs before))=true:=by
    rw[decide_eq_false (fun z=>he (qR.mp z))];rfl
   rw[e]
   refine oy ?_
   refine ⟨_,fun σ' H'' h=>h,?_⟩
   refine ⟨_,rfl,?_⟩
   refine ⟨_,rfl,g,rfl,⟨_,s3.seq hg.lst⟩,bj (K:=K) (a:=g) (xs:=gs.map V.ref) (fun i σ H4=>∃ (v6:Option V) (p4:Addr),σ=[some (.int (n:Nat)),some (.ref g),some (.int (a:Nat)),some (.int (b:Nat)),some (.ref p),some (.ref p4),v6]∧H4 p=some (.lst (iv parting))∧H p4=none∧H4 p4=some (.lst (iv (cC n parting (gens.take i))))∧az H H4)
    ⟨_,p,rfl,hp,hpn,hp,s3⟩ (fun i σ H4 _ ⟨_,_,_,_,_,_,s4⟩=>s4.seq hg.lst) ?_ ?_⟩
   ·rintro i v σ H4 hi ⟨v6,p4,rfl,hp4,hp4n,hp44,s4⟩
    rw[getElem?_map] at hi
    obtain ⟨ta,hta,rfl⟩:=Oq hi
    obtain ⟨x,hx,hxq⟩:=hg.rows.get hta
    have xT:=hg.isT x (mem_of_getElem? hx)
    have pc:=(Tt.hZ (gens.take i) I.pp fun z hz=>hg.isT z (mem_of_mem_take hz)).1
    refine ⟨_,rfl,_,rfl,n,p4,ta,_,x,rfl,SqL.of hp44,s4.seq hxq,pc,xT,by omega,hn,fun H5 p5 hp5 hp55 s5=>?_⟩
    refine ⟨_,p5,rfl,s5 _ _ hp4,s4.free hp5,?_,s4.trans s5⟩
    rw[aC hx,Tt.nq]
    exact hp55
   ·rintro σ H4 ⟨v6,p4,rfl,hp4,hp4n,hp44,s4⟩
    rw[length_map,hg.rows.len,take_length] at hp44
    exact ⟨_,Tt.zV I.pb I.pp I.up he,_,p,p4,parting,_,rfl,hp4,hp4n,hp44,s4,I.next hg.isT ha hb,rfl⟩
end
end Bt
namespace Bt
open PySem PySem.Spec PyProof.Rows L2
open PySem.W (Codec)
open Tt (IsT)
abbrev kd:Stmt:=top 43
abbrev kf:Stmt:=top 44
abbrev mn:Stmt:=top 45
inductive gc (K:Frag) (vs:List V) (H:Hp) (Q:VK) (E:XK):Prop
 | mk (n:Nat) (g:Addr) (gs:List Addr) (gens:List Turn.Row):vs=[.int (n:Nat),.ref g]→dh K H n g gs gens→0<n→n≤9→(∀ H':Hp,az H H'→Q (.bl (Turn.transitive n gens)) H')→gc K vs H Q E
inductive iU (K:Frag) (vs:List V) (H:Hp) (Q:VK) (E:XK):Prop
 | mk (n:Nat) (g:Addr) (gs:List Addr) (gens:List Turn.Row):vs=[.int (n:Nat),.ref g]→dh K H n g gs gens→0<n→n≤9→(∀ H':Hp,az H H'→Q (.bl (Turn.primitive n gens)) H')→iU K vs H Q E
inductive jZ (K:Frag) (vs:List V) (H:Hp) (Q:VK) (E:XK):Prop
 | mk (n:Nat) (g:Addr) (gs:List Addr) (gens:List Turn.Row):vs=[.ref g]→dh K H n g gs gens→n≤9→(∀ H':Hp,az H H'→Q (.bl (gens.all fun x=>gens.all fun y=>Turn.mul x y==Turn.mul y x)) H')→jZ K vs H Q E
section
variable {P:Program} {w:World} {K:Frag} {mg:Str→Option Value} {base:Heap}
theorem sC:ao ["things","given"] ["things","given"] (aj kd):=bX
theorem qp {f:Addr}{fd:FuncData}(F:Fun K "is_one_orbit" "is_one_orbit" kd f fd)(CO:Cal P w K mg base 2 "orbit_parting" ["things","given"] (io K))(CA:Cal P w K mg base 1 "is_all_in_one" ["parting"] (gh K)):aZ P w K mg base CX0 3 f fd ["things","given"] (gc K):=by
 refine okF F sC (fun cdv A outer s H vs Q E hr h=>?_)
 ·obtain ⟨n,g,gs,gens,rfl,hg,h0,hn,k⟩:=h
  have hr1:bO 1 _:=hr.mono (by decide)
  refine ⟨_,ah (ax (ak CA hr1 rfl (aa (ak CO hr rfl (aa (pv 0) (aa (pv 1) af))) af))),?_⟩
  have ll:(leasts n gens).length=n:=(Tt.dN hg.isT).1.len
  exact ⟨_,rfl,_,rfl,n,g,gs,gens,rfl,hg,hn,fun H1 q hq hq1 s1=>⟨q,_,rfl,SqL.of hq1,(by rw[ll];exact h0),(by rw[ll];omega),fun H2 s2=>k H2 (s1.trans s2)⟩⟩
theorem lK {n:Nat}{gens:List Turn.Row}(hg:∀ g∈gens,IsT n g){a b:Nat}(ha:a<n)(hb:b<n):(Turn.blocks n gens a b).length=n:=(Tt.oP hg ha hb).1.len
theorem iY:ao ["things","given","other"] ["things","given"] (aj kf):=bX
theorem qt {f:Addr}{fd:FuncData}(F:Fun K "has_no_blocks" "has_no_blocks" kf f fd)(B:Blt mg)(CO:Cal P w K mg base 3 "is_one_orbit" ["things","given"] (gc K))(CB:Cal P w K mg base 3 "block_parting" ["things","given","a","b"] (jG K))(CA:Cal P w K mg base 1 "is_all_in_one" ["parting"] (gh K)):aZ P w K mg base CX0 4 f fd ["things","given"] (iU K):=by
 refine okF F iY (fun cdv A outer s H vs Q E hr h=>?_)
 ·obtain ⟨n,g,gs,gens,rfl,hg,h0,hn,k⟩:=h
  have hr1:bO 1 _:=hr.mono (by decide)
  refine ⟨_,ag (dz (iF (fO (ak CO hr rfl (aa (pv 0) (aa (pv 1) af))))) (ah (ax n8)) bi)
   (ah (ax (aA (wU rfl) rfl B.all PyProof.Rows.boot_all (aa (gQ (own:=[("other",2)]) rfl iY.nd (vo rfl B.range (aa aB (aa (pv 0) af))) (bn rfl) (fun _ _ _ _ _=>aG (i:=2) iY.nd rfl (Or.inl rfl)) (fun _ _ _ _ _=>cF)
    (fun _ _ _ _ _=>ak CA hr1 rfl (aa (ak CB hr rfl (aa (pv 0) (aa (pv 1) (aa aB (aa (pv 2) af))))) af))) af)))),?_⟩
  refine ⟨_,rfl,_,rfl,n,g,gs,gens,rfl,hg,h0,hn,fun H1 s1=>⟨_,rfl,?_⟩⟩
  cases et:Turn.transitive n gens with
  | false=>
   refine (oy (A:=_) ?_:if true=true then _ else _)
   have:=k H1 s1
   unfold Turn.primitive at this
   rw[et] at this
   exact this
  | true=>
   refine (nD (B:=_) ?_:if false=true then _ else _)
   have nt:(((n:Nat):Int)-1).toNat=n-1:=by omega
   refine ⟨_,rfl,1,(n:Int),rfl,⟨by omega,by omega,by omega,by omega⟩,fun D hD=>?_⟩
   rw[nt]
   refine jN (lo:=1) (n:=n-1) (fun i H'=>az H1 H'∧H' D=some (.lst (((List.range i).map fun j=>(Turn.blocks n gens 0 (j+1)).all fun k=>k==0).map V.bl))) ⟨al (az.refl _) hD,ae⟩ ?_ ?_
   ·rintro i H' hi ⟨s2,hD'⟩
    have e1:(1:Int)+(i:Nat)=((i+1:Nat):Int):=by omega
    rw[e1]
    have bl:=lK hg.isT (a:=0) (b:=i+1) h0 (by omega)
    refine ⟨rfl,?_⟩
    refine ⟨_,rfl,_,rfl,_,rfl,n,0,i+1,g,gs,gens,rfl,hg.same (s1.trans s2),h0,by omega,hn,fun H3 q hq hq3 s3=>⟨q,_,rfl,SqL.of hq3,(by rw[bl];exact h0),(by rw[bl];omega),fun H4 s4=>⟨_,s4 _ _ (s3 _ _ hD'),?_,aH (s2.trans (s3.trans s4)) hD,?_⟩⟩⟩
    ·rw[length_map,length_map,length_range];exact sz (by omega)
    ·rw[ae,range_succ,map_append,map_append];rfl
   ·rintro H' ⟨s2,hD'⟩
    refine ⟨D,_,rfl,SqL.of hD',?_⟩
    have e:(((List.range (n-1)).map fun j=>(Turn.blocks n gens 0 (j+1)).all fun k=>k==0).all id)=Turn.primitive n gens:=by
     unfold Turn.primitive
     rw[et,Bool.true_and,Bool.eq_iff_iff,all_eq_true,all_eq_true]
     constructor
     ·intro h i hi
      have hi:=mem_range.mp hi
      by_cases hz:i=0
      ·simp[hz]
      ·have:=h _ (mem_map.mpr ⟨i-1,mem_range.mpr (by omega),rfl⟩)
       have e2:i-1+1=i:=by omega
       rw[e2] at this
       rw[Bool.or_eq_true]
       exact .inr this
     ·intro h b hb
      obtain ⟨j,hj,rfl⟩:=mem_map.mp hb
      have hj:=mem_range.mp hj
      have:=h (j+1) (mem_range.mpr (by omega))
      rw[Bool.or_eq_true] at this
      rcases this with q|q
      ·simp at q
      ·exact q
    rw[e]
    exact k H' (s1.trans s2)
theorem j6:ao ["given","x","y"] ["given"] (aj mn):=bX
theorem sM {f:Addr}{fd:FuncData}(F:Fun K "can_be_swapped" "can_be_swapped" mn f fd)(CP:Cal P w K mg base 1 "product" ["x","y"] (bv K)):aZ P w K mg base CX0 2 f fd ["given"] (jZ K):=by
 refine okF F j6 (fun cdv A outer s H vs Q E hr h=>?_)
 ·obtain ⟨n,g,gs,gens,rfl,hg,hn,k⟩:=h
  refine ⟨_,ag (bw PassesOwn.never rfl (aP (pv 0)) (aG (i:=1) j6.nd rfl (Or.inl rfl))
    (ah (bw PassesOwn.never rfl (aP (pv 0)) (aG (i:=2) j6.nd rfl (Or.inl rfl))
     (ah (dz (aU (yX hr.units) (ak CP hr rfl (aa (pv 1) (aa (pv 2) af))) (ak CP hr rfl (aa (pv 2) (aa (pv 1) af))) (be _)) (ah (ax n8)) bi)))))
   (ah (ax n8)),?_⟩
  refine ⟨_,rfl,g,rfl,⟨_,hg.lst⟩,bj (K:=K) (a:=g) (xs:=gs.map V.ref) (fun i σ H'=>∃ v1 v2:Option V,σ=[some (.ref g),v1,v2]∧az H H'∧∀ x∈gens.take i,∀ y∈gens,Turn.mul x y=Turn.mul y x)
   ⟨none,none,rfl,az.refl _,fun x hx=>by simp at hx⟩ (fun i σ H' _ ⟨_,_,_,s2,_⟩=>s2.seq hg.lst) ?_ ?_⟩
  ·rintro i v σ H' hi ⟨v1,v2,rfl,s1,hs1⟩
   rw[getElem?_map] at hi
   obtain ⟨xa,hxa,rfl⟩:=Oq hi
   obtain ⟨x,hx,hxq⟩:=hg.rows.get hxa
   have xT:=hg.isT x (mem_of_getElem? hx)
   refine ⟨_,rfl,g,rfl,⟨_,s1.seq hg.lst⟩,bj (K:=K) (a:=g) (xs:=gs.map V.ref) (fun j σ H2=>∃ v2:Option V,σ=[some (.ref g),some (.ref xa),v2]∧az H H2∧∀ y∈gens.take j,Turn.mul x y=Turn.mul y x)
    ⟨_,rfl,s1,fun y hy=>by simp at hy⟩ (fun j σ H2 _ ⟨_,_,s2,_⟩=>s2.seq hg.lst) ?_ ?_⟩
   ·rintro j v σ H2 hj ⟨v2,rfl,s2,hs2⟩
    rw[getElem?_map] at hj
    obtain ⟨ya,hya,rfl⟩:=Oq hj
    obtain ⟨y,hy,hyq⟩:=hg.rows.get hya
    have yT:=hg.isT y (mem_of_getElem? hy)
    refine ⟨_,rfl,_,rfl,xa,ya,x,y,rfl,s2.seq hxq,s2.seq hyq,(by rw[xT.len];omega),fun c hc=>(by rw[yT.len];exact xT.mem.mp hc),fun H3 p hp hp3 s3=>?_⟩
    have s23:=s2.trans s3
    refine ⟨_,rfl,_,rfl,ya,xa,y,x,rfl,s23.seq hyq,s23.seq hxq,(by rw[yT.len];omega),fun c hc=>(by rw[xT.len];exact yT.mem.mp hc),fun H4 q hq hq4 s4=>?_⟩
    refine ⟨p,q,zs (Turn.mul x y),zs (Turn.mul y x),rfl,rfl,SqL.of (by rw[iQ];exact s4 _ _ hp3),SqL.of (by rw[iQ];exact hq4),_,rfl,?_⟩
    by_cases he:Turn.mul x y=Turn.mul y x
    ·have e:(!decide (zs (Turn.mul x y)=zs (Turn.mul y x)))=false:=by rw[he];simp
     rw[e]
     refine nD ⟨_,rfl,s23.trans s4,fun z hz=>?_⟩
     rw[aC hy] at hz
     rcases Ma hz with h|h
     ·exact hs2 z h
     ·rw[Ms h];exact he
    ·have e:(!decide (zs (Turn.mul x y)=zs (Turn.mul y x)))=true:=by
      rw[decide_eq_false (fun z=>he (qR.mp z))];rfl
     rw[e]
     refine oy ?_
     have:=k H4 (s23.trans s4)
     have ef:(gens.all fun x=>gens.all fun y=>Turn.mul x y==Turn.mul y x)=false:=by
      rw[Bool.eq_false_iff]
      intro h
      rw[all_eq_true] at h
      have h1:=h x (mem_of_getElem? hx)
      rw[all_eq_true] at h1
      have h2:=h1 y (mem_of_getElem? hy)
      exact he (beq_iff_eq.mp h2)
     rw[ef] at this
     exact this
   ·rintro σ H2 ⟨v2,rfl,s2,hs2⟩
    rw[length_map,hg.rows.len,take_length] at hs2
    refine ⟨_,_,rfl,s2,fun z hz=>?_⟩
    rw[aC hx] at hz
    rcases Ma hz with h|h
    ·exact hs1 z h
    ·rw[Ms h];exact hs2
  ·rintro σ H' ⟨v1,v2,rfl,s1,hs1⟩
   rw[length_map,hg.rows.len,take_length] at hs1
   have:=k H' s1
   have et:(gens.all fun x=>gens.all fun y=>Turn.mul x y==Turn.mul y x)=true:=by
    rw[all_eq_true]
    intro x hx
    rw[all_eq_true]
    intro y hy
    exact beq_iff_eq.mpr (hs1 x hx y hy)
   rw[et] at this
   exact this
end
end Bt
namespace Bt
open PySem PySem.Spec PyProof.Rows L2
open PySem.W (Codec)
open Tt (IsT pw jg)
abbrev uF:Stmt:=top 5
abbrev uV:Stmt:=top 6
abbrev zU:Stmt:=top 7
abbrev i4:Stmt:=top 11
abbrev ki:Stmt:=top 12
abbrev uM:Stmt:=top 13
abbrev uC:Stmt:=top 14
inductive pj (K:Frag) (vs:List V) (H:Hp) (Q:VK) (E:XK):Prop
 | mk (a:Addr) (x:List Nat) (n k:Nat):vs=[.ref a,.int (k:Nat)]→SqL K H a (iv x)→IsT n x→n≤1000→k<2 ^ 64→fY H Q (Turn.power x k)→pj K vs H Q E
inductive iV (K:Frag) (vs:List V) (H:Hp) (Q:VK) (E:XK):Prop
 | mk (a b:Addr) (x y:List Nat) (n:Nat):vs=[.ref a,.ref b]→SqL K H a (iv x)→SqL K H b (iv y)→IsT n x→IsT n y→n≤1000→fY H Q (conjugate x y)→iV K vs H Q E
inductive ur (K:Frag) (vs:List V) (H:Hp) (Q:VK) (E:XK):Prop
 | mk (a b:Addr) (x y:List Nat) (n:Nat):vs=[.ref a,.ref b]→SqL K H a (iv x)→SqL K H b (iv y)→IsT n x→IsT n y→n≤1000→fY H Q (commutator x y)→ur K vs H Q E
inductive gI (K:Frag) (vs:List V) (H:Hp) (Q:VK) (E:XK):Prop
 | mk (a:Addr) (x:List Nat) (n p:Nat):vs=[.ref a,.int (p:Nat)]→SqL K H a (iv x)→IsT n x→p<n→n≤1000→fY H Q (cycleOf x p)→gI K vs H Q E
structure bA (H:Hp)(es:List Addr)(l:List (List Nat)):Prop where
 len:es.length=l.length
 at_:∀ (i:Nat) (e:Addr) (x:List Nat),es[i]?=some e→l[i]?=some x→H e=some (.lst (iv x))
theorem bA.nil {H:Hp}:bA H [] []:=⟨rfl,fun i e x h=>by simp at h⟩
theorem bA.same {H H':Hp}(s:az H H'){es:List Addr}{l:List (List Nat)}(h:bA H es l):bA H' es l:=⟨h.len,fun i e x h1 h2=>s _ _ (h.at_ i e x h1 h2)⟩
theorem bA.get {H:Hp}{es:List Addr}{l:List (List Nat)}(h:bA H es l){i:Nat}{e:Addr}(he:es[i]?=some e):∃ x,l[i]?=some x∧H e=some (.lst (iv x)):=by
 have hi:i<l.length:=by rw[←h.len];exact (Gq he).1
 exact ⟨_,getElem?_eq_getElem hi,h.at_ i e _ he (getElem?_eq_getElem hi)⟩
theorem bA.snoc {H:Hp}{es:List Addr}{l:List (List Nat)}{e:Addr}{x:List Nat}(h:bA H es l)(he:H e=some (.lst (iv x))):bA H (es++[e]) (l++[x]):=by
 refine ⟨by rw[length_append,length_append,h.len];rfl,fun i e' x' h1 h2=>?_⟩
 rw[getElem?_append] at h1 h2
 rw[h.len] at h1
 split at h1
 ·rename_i hlt
  rw[if_pos hlt] at h2
  exact h.at_ i e' x' h1 h2
 ·rename_i hlt
  rw[if_neg hlt] at h2
  have:i-l.length=0:=by
   have:=(Gq h1).1
   rw[length_singleton] at this;omega
  rw[this] at h1 h2
  simp at h1 h2
  subst h1;subst h2
  exact he
theorem bA.put {H:Hp}{es:List Addr}{l:List (List Nat)}{t:Addr}{o:HO}(h:bA H es l)(ht:t∉es):bA (upd H t o) es l:=
 ⟨h.len,fun i e x h1 h2=>by rw[ai (fun q=>ht (by rw[←q];exact mem_of_getElem? h1))];exact h.at_ i e x h1 h2⟩
inductive gg (K:Frag) (vs:List V) (H:Hp) (Q:VK) (E:XK):Prop
 | mk (a:Addr) (x:List Nat) (n:Nat):vs=[.ref a]→SqL K H a (iv x)→IsT n x→n≤9→(∀ (H':Hp) (p:Addr) (es:List Addr),H p=none→p∉es→(∀ e∈es,H e=none)→H' p=some (.lst (es.map V.ref))→bA H' es (Turn.cycles x)→az H H'→Q (.ref p) H')→gg K vs H Q E
inductive l4 (K:Frag) (vs:List V) (H:Hp) (Q:VK) (E:XK):Prop
 | mk (n:Nat) (a:Addr) (x:List Nat):vs=[.ref a]→SqL K H a (iv x)→IsT n x→n≤9→(∀ H':Hp,az H H'→Q (.bl (Turn.odd x)) H')→l4 K vs H Q E
inductive ph (K:Frag) (vs:List V) (H:Hp) (Q:VK) (E:XK):Prop
 | mk (n:Nat) (a:Addr) (x:List Nat):vs=[.ref a]→SqL K H a (iv x)→IsT n x→n≤9→(∀ H':Hp,az H H'→Q (.int (orderOf x:Nat)) H')→ph K vs H Q E
section
variable {P:Program} {w:World} {K:Frag} {mg:Str→Option Value} {base:Heap}
theorem gK:ao ["x","times","made","doubled","rest"] ["x","times"] (aj uF):=bX
theorem xU {f:Addr}{fd:FuncData}(F:Fun K "power" "power" uF f fd)(B:Blt mg)(CS:Cal P w K mg base 1 "still_turn" ["things"] fc)(CP:Cal P w K mg base 1 "product" ["x","y"] (bv K)):aZ P w K mg base CX0 2 f fd ["x","times"] (pj K):=by
 refine okF F gK (fun cdv A outer s H vs Q E hr h=>?_)
 ·obtain ⟨a,x,n,k,rfl,ha,xT,hn,hk,q⟩:=h
  refine ⟨_,ag (aq (i:=2) gK.nd rfl (Or.inl rfl) (ak CS hr rfl (aa (aA au rfl B.len PySem.boot_len (aa (pv 0) af)) af)))
   (ag (aq (i:=3) gK.nd rfl (Or.inl rfl) (pv 0))
   (ag (aq (i:=4) gK.nd rfl (Or.inl rfl) (pv 1))
   (ag (dj PassesOwn.never (aU qk (pv 4) aB (be _))
    (ag (dz (aU mO (dq vB (pv 4) aB) aB (be _)) (ah (aq (i:=2) gK.nd rfl (Or.inl rfl) (ak CP hr rfl (aa (pv 2) (aa (pv 3) af))))) bi)
    (ag (aq (i:=3) gK.nd rfl (Or.inl rfl) (ak CP hr rfl (aa (pv 3) (aa (pv 3) af))))
    (ah (aq (i:=4) gK.nd rfl (Or.inl rfl) (dq ql (pv 4) aB))))))
   (ah (ax (pv 2)))))),?_⟩
  refine ⟨_,rfl,a,_,rfl,.inl ha,n,by rw[aO,xT.len];rfl,hn,fun H1 u hu hu1 s1=>?_⟩
  refine ⟨_,rfl,_,rfl,fun m σ H'=>∃ (mA dA:Addr) (mk db:List Nat) (r:Nat),σ=[some (.ref a),some (.int (k:Nat)),some (.ref mA),some (.ref dA),some (.int (r:Nat))]∧H mA=none∧H' mA=some (.lst (iv mk))∧SqL K H' dA (iv db)∧az H H'∧jg n x k mk db r∧m=r,
   ⟨_,u,a,_,_,k,rfl,hu,hu1,s1.seq ha,s1,jg.start xT k,rfl⟩,?_⟩
  rintro r σ H' ⟨mA,dA,mk,db,_,rfl,hmn,hm,hd,s2,I,rfl⟩
  refine ⟨_,rfl,_,_,rfl,rfl,_,rfl,eX (fun h0=>?_) fun h0=>?_⟩
  ·have e2:((r:Nat):Int) / 2=((r / 2:Nat):Int):=by omega
   refine ⟨_,fun σ' H'' h=>h,?_⟩
   refine ⟨_,rfl,_,_,rfl,rfl,(by show (0:Int)<2;decide),rfl,_,rfl,wv (fun h1=>?_) fun h1=>?_⟩
   ·have h1':r % 2=1:=by have:=V.int.inj h1;omega
    refine ⟨_,rfl,_,rfl,mA,dA,mk,db,rfl,SqL.of hm,hd,(by rw[I.m.len];omega),fun c hc=>(by rw[I.d.len];exact I.m.mem.mp hc),fun H3 p hp hp3 s3=>?_⟩
    refine ⟨_,rfl,_,rfl,dA,dA,db,db,rfl,s3.seq hd,s3.seq hd,(by rw[I.d.len];omega),fun c hc=>(by rw[I.d.len];exact I.d.mem.mp hc),fun H4 p4 hp4 hp44 s4=>?_⟩
    refine ⟨_,rfl,_,_,rfl,rfl,⟨by decide,by decide⟩,?_⟩
    refine ⟨r / 2,by omega,p,p4,_,_,r / 2,(by rw[e2];rfl),s2.free hp,s4 _ _ hp3,SqL.of hp44,(s2.trans s3).trans s4,I.odd h1',rfl⟩
   ·have h1':r % 2≠1:=fun z=>h1 (by show V.int (((r:Nat):Int) % 2)=V.int 1;congr 1;omega)
    refine ⟨_,rfl,_,rfl,dA,dA,db,db,rfl,hd,hd,(by rw[I.d.len];omega),fun c hc=>(by rw[I.d.len];exact I.d.mem.mp hc),fun H4 p4 hp4 hp44 s4=>?_⟩
    refine ⟨_,rfl,_,_,rfl,rfl,⟨by decide,by decide⟩,?_⟩
    refine ⟨r / 2,by omega,mA,p4,_,_,r / 2,(by rw[e2];rfl),hmn,s4 _ _ hm,SqL.of hp44,s2.trans s4,I.even h1',rfl⟩
  ·have:r=0:=by omega
   subst this
   rw[I.done xT hk] at hm
   exact ⟨_,rfl,q H' mA hmn hm s2⟩
theorem zN:ao ["x","y"] ["x","y"] (aj uV):=bX
theorem yo {f:Addr}{fd:FuncData}(F:Fun K "taken_along" "taken_along" uV f fd)(CI:Cal P w K mg base 2 "inverse" ["x"] (eM K))(CP:Cal P w K mg base 1 "product" ["x","y"] (bv K)):aZ P w K mg base CX0 3 f fd ["x","y"] (iV K):=by
 refine okF F zN (fun cdv A outer s H vs Q E hr h=>?_)
 ·obtain ⟨a,b,x,y,n,rfl,ha,hb,xT,yT,hn,q⟩:=h
  have hr1:bO 1 _:=hr.mono (by decide)
  refine ⟨_,ah (ax (ak CP hr1 rfl (aa (ak CP hr1 rfl (aa (ak CI hr rfl (aa (pv 1) af)) (aa (pv 0) af))) (aa (pv 1) af)))),?_⟩
  refine ⟨_,rfl,b,y,n,rfl,hb,yT,hn,fun H1 i hi hi1 s1=>?_⟩
  refine ⟨_,rfl,i,a,_,x,rfl,SqL.of hi1,s1.seq ha,(by rw[yT.inverse.len];exact hn),fun c hc=>(by rw[xT.len];exact yT.inverse.mem.mp hc),fun H2 p hp hp2 s2=>?_⟩
  have pT:=yT.inverse.mul xT
  refine ⟨_,rfl,p,b,_,y,rfl,SqL.of hp2,s2.seq (s1.seq hb),(by rw[pT.len];exact hn),fun c hc=>(by rw[yT.len];exact pT.mem.mp hc),fun H3 r hr3 hr33 s3=>?_⟩
  have s12:=s1.trans s2
  exact q H3 r (s12.free hr3) (by rw[hr33,Tt.yP xT yT]) (s12.trans s3)
theorem A8:ao ["x","y"] ["x","y"] (aj zU):=bX
theorem Al {f:Addr}{fd:FuncData}(F:Fun K "commutator" "commutator" zU f fd)(CI:Cal P w K mg base 2 "inverse" ["x"] (eM K))(CA:Cal P w K mg base 3 "taken_along" ["x","y"] (iV K))(CP:Cal P w K mg base 1 "product" ["x","y"] (bv K)):aZ P w K mg base CX0 4 f fd ["x","y"] (ur K):=by
 refine okF F A8 (fun cdv A outer s H vs Q E hr h=>?_)
 ·obtain ⟨a,b,x,y,n,rfl,ha,hb,xT,yT,hn,q⟩:=h
  have hr1:bO 1 _:=hr.mono (by decide)
  have hr2:bO 2 _:=hr.mono (by decide)
  refine ⟨_,ah (ax (ak CP hr1 rfl (aa (ak CI hr2 rfl (aa (pv 0) af)) (aa (ak CA hr rfl (aa (pv 0) (aa (pv 1) af))) af)))),?_⟩
  refine ⟨_,rfl,a,x,n,rfl,ha,xT,hn,fun H1 i hi hi1 s1=>?_⟩
  refine ⟨_,rfl,_,rfl,a,b,x,y,n,rfl,s1.seq ha,s1.seq hb,xT,yT,hn,fun H2 p hp hp2 s2=>?_⟩
  have cT:=Tt.cO xT yT
  refine ⟨i,p,_,_,rfl,SqL.of (s2 _ _ hi1),SqL.of hp2,(by rw[xT.inverse.len];exact hn),fun c hc=>(by rw[cT.len];exact xT.inverse.mem.mp hc),fun H3 r hr3 hr33 s3=>?_⟩
  have s12:=s1.trans s2
  exact q H3 r (s12.free hr3) hr33 (s12.trans s3)
theorem ka:ao ["x","place","cycle"] ["x","place"] (aj i4):=bX
theorem om {f:Addr}{fd:FuncData}(F:Fun K "cycle_from" "cycle_from" i4 f fd):aZ P w K mg base CX0 1 f fd ["x","place"] (gI K):=by
 refine okF F ka (fun cdv A outer s H vs Q E hr h=>?_)
 ·obtain ⟨a,x,n,p,rfl,ha,xT,hp,hn,q⟩:=h
  refine ⟨_,ag (aq (i:=2) ka.nd rfl (Or.inl rfl) (aV (aa (pv 1) af)))
   (ag (dj PassesOwn.never (aU xO (aL ay (pv 0) (aL ay (pv 2) (xK qV aB) (fun _ _=>rfl)) (fun _ _=>rfl)) (pv 1) (be _))
    (ah (aX (eD PySem.F.plainAttrs_list PySem.F.slot_list_append PySem.F.type_list_append bZ (pv 2) (aa (aL ay (pv 0) (aL ay (pv 2) (xK qV aB) (fun _ _=>rfl)) (fun _ _=>rfl)) af)))))
   (ah (ax (pv 2)))),?_⟩
  refine ⟨_,rfl,Nat.le_of_lt (sz (by show 1≤1000000;decide)),fun c hc=>?_⟩
  obtain ⟨L,L1,L2,eL,e2,e3⟩:=Tt.cW xT hp
  have pwl:∀ k,at_ (pw n x k) p<n:=fun k=>(Tt.cg xT k).lt p hp
  have get:∀ k,x[at_ (pw n x k) p]?=some (at_ (pw n x (k+1)) p):=fun k=>by
   rw[Tt.Bg xT k hp]
   have h:=pwl k
   generalize at_ (pw n x k) p=j at h
   rw[getElem?_eq_getElem (xT.len.symm▸h),Tt.cU (xT.len.symm▸h)]
  have snoc:∀ k,(List.range (k+1)).map (fun j=>at_ (pw n x j) p)=(List.range k).map (fun j=>at_ (pw n x j) p)++[at_ (pw n x k) p]:=fun k=>by rw[range_succ,map_append];rfl
  refine ⟨fun m σ H'=>∃ k:Nat,σ=[some (.ref a),some (.int (p:Nat)),some (.ref c)]∧H' c=some (.lst (iv ((List.range (k+1)).map fun j=>at_ (pw n x j) p)))∧az H H'∧k<L∧m=L-k,
   ⟨_,0,rfl,by rw[ae];show _=some (HO.lst [V.int ((at_ (pw n x 0) p:Nat):Int)]);rw[Tt.mI hp],al (az.refl _) hc,L1,rfl⟩,?_⟩
  rintro m σ H' ⟨k,rfl,hc',s1,hk,rfl⟩
  have hcs:=hc'
  rw[snoc k,eE] at hcs
  refine ⟨_,rfl,_,rfl,1,rfl,c,_,_,_,rfl,rfl,SqL.of hcs,r8 _ _,a,_,_,_,rfl,rfl,s1.seq ha,aw (eF (get k)),_,rfl,rfl,_,rfl,lw (fun h=>?_) fun h=>?_⟩
  ·have h':at_ (pw n x (k+1)) p≠p:=fun z=>h (by rw[z])
   have hk1:k+1<L:=by
    rcases Nat.lt_or_ge (k+1) L with z|z
    ·exact z
    ·have:k+1=L:=by omega
     rw[this] at h'
     exact absurd e2 h'
   refine ⟨_,fun σ' H'' h=>h,?_⟩
   refine ⟨_,rfl,.inl ⟨rfl,_,SqL.of hc'⟩,_,rfl,_,rfl,1,rfl,c,_,_,_,rfl,rfl,SqL.of hcs,r8 _ _,a,_,_,_,rfl,rfl,s1.seq ha,aw (eF (get k)),c,_,_,rfl,rfl,hc',?_,?_⟩
   ·rw[aO,length_map,length_range];exact sz (by omega)
   ·exact ⟨L-(k+1),by omega,k+1,rfl,by rw[ae,snoc (k+1),eE],aH s1 hc,hk1,rfl⟩
  ·have h':at_ (pw n x (k+1)) p=p:=by have:=V.int.inj h;omega
   have hk1:k+1=L:=by
    rcases Nat.lt_or_ge (k+1) L with z|z
    ·exact absurd h' (e3 _ (by omega) z)
    ·omega
   refine ⟨_,rfl,q H' c hc ?_ s1⟩
   rw[hc',hk1,eL]
theorem eQ:ao ["x","found","place","cycle"] ["x"] (aj ki):=bX
theorem qw {f:Addr}{fd:FuncData}(F:Fun K "cycles_of" "cycles_of" ki f fd)(B:Blt mg)(CC:Cal P w K mg base 1 "cycle_from" ["x","place"] (gI K)):aZ P w K mg base CX0 2 f fd ["x"] (gg K):=by
 refine okF F eQ (fun cdv A outer s H vs Q E hr h=>?_)
 ·obtain ⟨a,x,n,rfl,ha,xT,hn,q⟩:=h
  refine ⟨_,ag (jI (i:=1) (own:=[("place",2)]) rfl eQ.nd rfl rfl (lV rfl rfl rfl rfl) (iG rfl B.range (aa (aA au rfl B.len PySem.boot_len (aa (pv 0) af)) af)) (bn rfl) (fun _ _ _ _ _=>aG (i:=2) eQ.nd rfl (Or.inl rfl)) (fun _ _ _ _ _=>cF) (fun _ _ _ _ _=>ak CC hr rfl (aa (pv 0) (aa (pv 2) af))))
   (ah (ax (gQ (own:=[("cycle",3)]) rfl eQ.nd (aP (pv 1)) (bn rfl) (fun _ _ _ _ _=>aG (i:=3) eQ.nd rfl (Or.inl rfl))
    (fun _ _ _ _ _=>qe (aU mO (aL (r:=xE K) ay (pv 3) aB (fun _ _=>rfl)) (aA (r:=rMin K) (zd rfl) rfl B.min PyProof.Rows.boot_min (aa (pv 3) af)) (be _))) (fun _ _ _ _ _=>pv 3)))),?_⟩
  refine ⟨_,rfl,a,_,rfl,.inl ha,(n:Int),(by rw[aO,xT.len]),by omega,by omega,fun D hD=>jN (n:=n) (fun i H'=>∃ es:List Addr,H' D=some (.lst (es.map V.ref))∧D∉es∧(∀ e∈es,H e=none)∧bA H' es ((List.range i).map (cycleOf x))∧az H H')
   ⟨[],ae,fun z=>(by cases z),fun e he=>(by cases he),bA.nil,al (az.refl _) hD⟩ ?_ ?_⟩
  ·rintro i H' hi ⟨es,hD',hDe,hes,hR,s1⟩
   have ez:(0:Int)+(i:Nat)=((i:Nat):Int):=by omega
   rw[ez]
   refine ⟨rfl,?_⟩
   refine ⟨_,rfl,_,rfl,a,x,n,i,rfl,s1.seq ha,xT,hi,by omega,fun H2 c hc hc2 s2=>?_⟩
   have hcD:D≠c:=am hD' hc
   refine ⟨_,s2 _ _ hD',(by rw[length_map,hR.len,length_map,length_range];exact sz (by omega)),es++[c],(by rw[ae,map_append];rfl),fun z=>?_,fun e he=>?_,?_,aH (s1.trans s2) hD⟩
   ·rcases Ma z with z|z
    ·exact hDe z
    ·exact hcD (Ms z)
   ·rcases Ma he with z|z
    ·exact hes e z
    ·rw[Ms z];exact s1.free hc
   ·rw[range_succ,map_append]
    exact ((hR.same s2).put hDe).snoc (by rw[ai (fun z=>hcD z.symm)];exact hc2)
  ·rintro H1 ⟨es,hD1,hDe,hes,hR,s1⟩
   have hall:∀ c∈(List.range n).map (cycleOf x),c≠[]:=fun c hc=>by
    obtain ⟨i,hi,rfl⟩:=mem_map.mp hc
    obtain ⟨L,L1,_,eL,_⟩:=Tt.cW xT (mem_range.mp hi)
    intro z
    have:=congrArg List.length z
    rw[eL,length_map,length_range] at this
    simp at this;omega
   refine ⟨_,rfl,D,rfl,⟨_,SqL.of hD1⟩,fun D2 hD2=>de (K:=K) (a:=D) (xs:=es.map V.ref) (fun i H'=>∃ ks:List Addr,H' D2=some (.lst (ks.map V.ref))∧D2∉ks∧(∀ e∈ks,H e=none∧H1 e≠none)∧bA H' ks ((((List.range n).map (cycleOf x)).take i).filter fun c=>c.all fun i=>decide (c.headD 0≤i))∧az H1 H')
    ⟨[],ae,fun z=>(by cases z),fun e he=>(by cases he),by rw[take_zero];exact bA.nil,al (az.refl _) hD2⟩ (fun i H' _ ⟨_,_,_,_,_,p⟩=>SqL.of (p _ _ hD1)) ?_ ?_⟩
   ·rintro i v H' hi ⟨ks,hD2',hDk,hks,hRk,s2⟩
    rw[getElem?_map] at hi
    obtain ⟨c,hc,rfl⟩:=Oq hi
    obtain ⟨l,hl,hcl⟩:=hR.get hc
    have hlne:=hall l (mem_of_getElem? hl)
    obtain ⟨b,t,rfl⟩:∃ b t,l=b::t:=by
     cases l with
     | nil=>exact absurd rfl hlne
     | cons b t=>exact ⟨b,t,rfl⟩
    have step:∀ ok:Bool,((b::t).all fun i=>decide ((b::t).headD 0≤i))=ok→(((List.range n).map (cycleOf x)).take (i+1)).filter (fun c=>c.all fun i=>decide (c.headD 0≤i))=(((List.range n).map (cycleOf x)).take i).filter (fun c=>c.all fun i=>decide (c.headD 0≤i))++(if ok=true then [b::t] else []):=fun ok hok=>by
     rw[aC hl,filter_append,filter_cons,filter_nil,hok]
    refine ⟨rfl,?_⟩
    refine ⟨_,rfl,c,_,_,_,rfl,rfl,SqL.of (s2 _ _ hcl),aw (j:=0) (v:=V.int (b:Nat)) rfl,_,rfl,c,zs (b::t),rfl,SqL.of (by rw[iQ];exact s2 _ _ hcl),(by unfold zs;rw[length_map,length_cons];omega),fun m hm hml=>?_⟩
    refine ⟨rfl,_,rfl,wv (fun h=>?_) fun h=>?_⟩
    ·have hb:m=(b:Int):=(V.int.inj h).symm
     subst hb
     have hok:((b::t).all fun i=>decide ((b::t).headD 0≤i))=true:=by
      rw[all_eq_true]
      intro i hi
      have:=hml (i:Int) (mem_map.mpr ⟨i,hi,rfl⟩)
      exact decide_eq_true (by show b≤i;omega)
     refine ⟨_,rfl,_,hD2',(by
      rw[length_map,hRk.len]
      have h1:=length_filter_le (fun c:List Nat=>c.all fun i=>decide (c.headD 0≤i)) (((List.range n).map (cycleOf x)).take i)
      rw[length_take,length_map,length_range] at h1
      exact sz (by omega)),ks++[c],(by rw[ae,map_append];rfl),fun z=>?_,fun e he=>?_,?_,aH s2 hD2⟩
     ·rcases Ma z with z|z
      ·exact hDk z
      ·rw[Ms z,hcl] at hD2;cases hD2
     ·rcases Ma he with z|z
      ·exact hks e z
      ·rw[Ms z];exact ⟨hes c (mem_of_getElem? hc),there hcl⟩
     ·rw[step true hok]
      refine (hRk.put hDk).snoc ?_
      rw[ai (fun z=>by rw[←z,hcl] at hD2;cases hD2)];exact s2 _ _ hcl
    ·have hok:((b::t).all fun i=>decide ((b::t).headD 0≤i))=false:=by
      rw[Bool.eq_false_iff]
      intro z
      rw[all_eq_true] at z
      obtain ⟨j,hj,rfl⟩:=mem_map.mp hm
      have h1:b≤j:=of_decide_eq_true (z j hj)
      have h2:=hml (b:Int) (mem_map.mpr ⟨b,mem_cons_self ..,rfl⟩)
      exact h (by congr 1;omega)
     refine ⟨ks,hD2',hDk,hks,?_,s2⟩
     rw[step false hok,if_neg Bool.false_ne_true,append_nil]
     exact hRk
   ·rintro H2 ⟨ks,hD2',hDk,hks,hRk,s2⟩
    rw[length_map,hR.len,take_length] at hRk
    have hRc:bA H2 ks (Turn.cycles x):=by
     unfold Turn.cycles
     rw[xT.len];exact hRk
    exact q H2 D2 ks (s1.free hD2) hDk (fun e he=>(hks e he).1) hD2' hRc (s1.trans s2)
theorem zF:ao ["x"] ["x"] (aj uM):=bX
theorem yc {f:Addr}{fd:FuncData}(F:Fun K "is_odd" "is_odd" uM f fd)(B:Blt mg)(CC:Cal P w K mg base 2 "cycles_of" ["x"] (gg K)):aZ P w K mg base CX0 3 f fd ["x"] (l4 K):=by
 refine okF F zF (fun cdv A outer s H vs Q E hr h=>?_)
 ·obtain ⟨n,a,x,rfl,ha,xT,hn,k⟩:=h
  refine ⟨_,ah (ax (i5 mO (dq vB (dq yW (aA au rfl B.len PySem.boot_len (aa (pv 0) af)) (aA au rfl B.len PySem.boot_len (aa (ak CC hr rfl (aa (pv 0) af)) af))) aB) aB (be _))),?_⟩
  refine ⟨_,rfl,a,_,rfl,.inl ha,_,rfl,a,x,n,rfl,ha,xT,hn,fun H1 p es hp _ _ hp1 hR s1=>?_⟩
  refine ⟨p,_,rfl,.inl (SqL.of hp1),_,_,rfl,rfl,_,_,rfl,rfl,(by show (0:Int)<2;decide),rfl,?_⟩
  have cle:(Turn.cycles x).length≤n:=by rw[Tt.lH xT];exact Tt.qc n _
  have eo:decide (V.int (((((iv x).length:Nat):Int)-(((es.map V.ref).length:Nat):Int)) % 2)=V.int 1)=Turn.odd x:=by
   unfold Turn.odd
   rw[aO,length_map,hR.len,Bool.eq_iff_iff,decide_eq_true_iff,beq_iff_eq]
   constructor
   ·intro h
    have:=V.int.inj h
    rw[xT.len] at this ⊢
    omega
   ·intro h
    rw[xT.len] at h ⊢
    congr 1
    omega
  rw[eo]
  exact k H1 s1
theorem nL {n:Nat}{x:List Nat}(hx:IsT n x):decide (bg x=x.length)=true↔x=Turn.still n:=by
 rw[decide_eq_true_iff]
 constructor
 ·intro h
  refine IsT.ext (n:=n) hx.len (Tt.bE n) fun i hi=>?_
  rw[Tt.aJ hi]
  rcases Classical.em (at_ x i=i) with q|q
  ·exact q
  ·exfalso
   have key:∀ j,j≤x.length→∀ k,k<j→at_ x k=k:=by
    intro j
    induction j with
    | zero=>intro _ k hk;omega
    | succ j ih=>
     intro hj k hk
     by_cases hkj:k=j
     ·subst hkj
      rcases Classical.em (at_ x k=k) with z|z
      ·exact z
      ·have:=fu (x:=x) (i:=k) (by omega) z (ih (by omega))
       omega
     ·exact ih (by omega) k (by omega)
   exact q (key x.length (Nat.le_refl _) i (by rw[hx.len];exact hi))
 ·intro h
  refine dU fun j hj=>?_
  rw[h] at hj ⊢
  rw[Tt.bE] at hj
  exact Tt.aJ hj
theorem j5:ao ["x","times","made"] ["x"] (aj uC):=bX
theorem xQ {f:Addr}{fd:FuncData}(F:Fun K "times_to_be_still" "times_to_be_still" uC f fd)(CS:Cal P w K mg base 2 "is_still" ["x"] (fH K))(CP:Cal P w K mg base 1 "product" ["x","y"] (bv K)):aZ P w K mg base CX0 3 f fd ["x"] (ph K):=by
 refine okF F j5 (fun cdv A outer s H vs Q E hr h=>?_)
 ·obtain ⟨n,a,x,rfl,ha,xT,hn,k⟩:=h
  have hr1:bO 1 _:=hr.mono (by decide)
  refine ⟨_,ag (aq (i:=1) j5.nd rfl (Or.inl rfl) aB)
   (ag (aq (i:=2) j5.nd rfl (Or.inl rfl) (pv 0))
   (ag (dj PassesOwn.never (iF (fO (ak CS hr rfl (aa (pv 2) af))))
    (ag (aq (i:=2) j5.nd rfl (Or.inl rfl) (ak CP hr1 rfl (aa (pv 2) (aa (pv 0) af))))
    (ah (aq (i:=1) j5.nd rfl (Or.inl rfl) (dq d9 (pv 1) aB)))))
   (ah (ax (pv 1))))),?_⟩
  refine ⟨_,rfl,fun m σ H'=>∃ (t:Nat) (c:Addr),σ=[some (.ref a),some (.int (t:Nat)),some (.ref c)]∧SqL K H' c (iv (pw n x t))∧az H H'∧0<t∧t≤orderOf x∧m=orderOf x-t,
   ⟨_,1,a,rfl,(by rw[show pw n x 1=x from Tt.bc xT];exact ha),az.refl _,Nat.one_pos,Tt.qj xT,rfl⟩,?_⟩
  rintro m σ H' ⟨t,c,rfl,hc,s1,h0,hl,rfl⟩
  have pT:=Tt.cg xT t
  refine ⟨_,rfl,c,_,rfl,hc,(by rw[pT.len];omega),fun H2 s2=>⟨_,rfl,?_⟩⟩
  have s12:=s1.trans s2
  by_cases hs:pw n x t=Turn.still n
  ·rw[(nL pT).mpr hs]
   refine (nD (A:=_) ?_:if (!true)=true then _ else _)
   have:=Tt.oi xT h0 hl hs
   subst this
   exact ⟨_,rfl,k H2 s12⟩
  ·have e:decide (bg (pw n x t)=(pw n x t).length)=false:=by
    rw[Bool.eq_false_iff];exact fun z=>hs ((nL pT).mp z)
   rw[e]
   refine (oy (A:=_) ?_:if (!false)=true then _ else _)
   refine ⟨_,fun σ' H'' h=>h,?_⟩
   refine ⟨_,rfl,_,rfl,c,a,_,x,rfl,s2.seq hc,s12.seq ha,(by rw[pT.len];omega),fun z hz=>(by rw[xT.len];exact pT.mem.mp hz),fun H3 p hp hp3 s3=>?_⟩
   refine ⟨_,rfl,_,_,rfl,rfl,?_⟩
   have:=Tt.oh xT hl hs
   exact ⟨_,by omega,t+1,p,rfl,SqL.of hp3,s12.trans s3,by omega,this,rfl⟩
end
end Bt
namespace Bt
open PySem PySem.Spec PyProof.Rows L2
open PySem.W (Codec)
open Tt (IsT)
section
variable {X:Cx}
def tCalV (i:Nat)(f:Addr)(sp:Sp)(t:TA):TE:=fun σ H Q=>σ[i]?=some (some (.ref f))∧AY sp [] E0 t σ H Q
theorem Ae {i:Nat}{k:Nat}{x:Str}{f:Addr}{fd:FuncData}{ps:List Str}{sp:Sp}{p pos:Pos}{e:Expr}{es:List Expr}{t:TA}(F:aZ X.prog X.w X.K X.mg X.base CX0 k f fd ps sp)(hk:keepIn X.K (.ref f)=true)(hb:d4 X.K fd ps [])(hr:bO k X.A)(hN:X.N[i]?=some x)(hv:X.env.scope.names.lookup x=some .local)(ha:PA X (e::es) t)
  (hd:(x==("__debug__":Str))=false:=by decide)(he:starEach (e::es) X.env=(false,eval e X.env)::starEach es X.env:=by rfl)(hpl:(backTo pos (starEach es X.env)).any (·.1)=false:=by rfl):
  PE X (.Call (.Name x p) (e::es) [] pos) (tCalV i f sp t):=by
 intro pins s σ H Q I h
 obtain ⟨hi,h⟩:=h
 obtain ⟨m,hn,hl⟩:=I.loc
 obtain ⟨u,ru,lk⟩:=hl i x _ hN hi (.inl hv)
 obtain rfl:u=Value.ref f:=ru
 refine wpAny_Call_Name_kw ?_
 have go:wpAny (model X.prog X.w) X.A (callWith pos (.ref f) [] (backTo pos (starEach (e::es) X.env)) (backToKw pos (keywordEach [] X.env))) (EP X pins σ Q) X.xe s:=by
  refine PySem.W.callWith_K (h₀:=X.base) I.ok.mod.kin hk (thn (ha pos pins s σ H _ I h) fun us s1 ⟨vs,H1,I1,r,q⟩=>⟨I1.kIn,?_⟩) he hpl
  exact uX F hr hb .nil (fun _ _ _ _ _ _ _ h=>h.elim) I1 r q
 rcases lk with ⟨hk',hm⟩|⟨hk',_⟩
 ·exact wpAny_Name (wpAny_loadName_local I.ok.kind hk' hn hm go) hd
 ·have e1:X.env.kindOf x=some .local:=hv
  rcases hk' with z|z <;> (rw[e1] at z;cases z)
end
abbrev pX:Stmt:=top 46
inductive l5 (K:Frag) (vs:List V) (H:Hp) (Q:VK) (E:XK):Prop
 | mk (n:Nat) (g:Addr) (gs:List Addr) (gens:List Turn.Row):vs=[.ref g]→dh K H n g gs gens→gens.length≤1000→n≤9→(∀ H':Hp,az H H'→Q (.bl (gens.any Turn.odd)) H')→l5 K vs H Q E
section
variable {P:Program} {w:World} {K:Frag} {mg:Str→Option Value} {base:Heap}
theorem mj:ao ["given","turn"] ["given"] (aj pX):=bX
theorem vN {f:Addr}{fd:FuncData}(F:Fun K "has_odd_turn" "has_odd_turn" pX f fd)(B:Blt mg)(CO:Cal P w K mg base 3 "is_odd" ["x"] (l4 K)):aZ P w K mg base CX0 4 f fd ["given"] (l5 K):=by
 refine okF F mj (fun cdv A outer s H vs Q E hr h=>?_)
 ·obtain ⟨n,g,gs,gens,rfl,hg,hl,hn,k⟩:=h
  refine ⟨_,ah (ax (aA (BM rfl) rfl B.any PyProof.Rows.boot_any (aa (gQ (own:=[("turn",1)]) rfl mj.nd (aP (pv 0)) (bn rfl) (fun _ _ _ _ _=>aG (i:=1) mj.nd rfl (Or.inl rfl)) (fun _ _ _ _ _=>cF) (fun _ _ _ _ _=>ak CO hr rfl (aa (pv 1) af))) af))),?_⟩
  refine ⟨_,rfl,g,rfl,⟨_,hg.lst⟩,fun D hD=>de (K:=K) (a:=g) (xs:=gs.map V.ref) (fun i H'=>az H H'∧H' D=some (.lst (((gens.take i).map Turn.odd).map V.bl))) ⟨al (az.refl _) hD,ae⟩ (fun i H' _ p=>p.1.seq hg.lst) ?_ ?_⟩
  ·rintro i v H' hi ⟨s1,hD'⟩
   rw[getElem?_map] at hi
   obtain ⟨xa,hxa,rfl⟩:=Oq hi
   obtain ⟨x,hx,hxq⟩:=hg.rows.get hxa
   have xT:=hg.isT x (mem_of_getElem? hx)
   refine ⟨rfl,?_⟩
   refine ⟨_,rfl,n,xa,x,rfl,s1.seq hxq,xT,hn,fun H2 s2=>⟨_,s2 _ _ hD',?_,aH (s1.trans s2) hD,?_⟩⟩
   ·rw[length_map,length_map,length_take]
    exact sz (by omega)
   ·rw[ae,aC hx,map_append,map_append];rfl
  ·rintro H' ⟨s1,hD'⟩
   rw[length_map,hg.rows.len,take_length] at hD'
   refine ⟨D,_,rfl,SqL.of hD',?_⟩
   have e:((gens.map Turn.odd).any id)=gens.any Turn.odd:=by rw[any_map];rfl
   rw[e]
   exact k H' s1
end
end Bt
namespace Bt
open PySem PySem.Spec PyProof.Rows L2
open PySem.W (Codec)
open Tt (Tab tU TOk aR bS aE IsT)
abbrev nP:Stmt:=jd (top 40) 0
abbrev uP:Stmt:=jd (top 40) 1
abbrev nS:Stmt:=jd (top 41) 0
abbrev nR:Stmt:=jd (top 41) 1
abbrev nQ:Stmt:=jd (top 41) 2
structure Txt (K:Frag)(mg:Str→Option Value)(CG CB:Addr):Prop where
 gcl:Cls K CG
 gGiven:cE K CG "given"
 gTable:cE K CG "table"
 mgG:mg "Group"=some (.ref CG)
 bcl:Cls K CB
 bThings:cE K CB "things"
 bGroups:cE K CB "groups"
 mgB:mg "Bench"=some (.ref CB)
def d3 (H:Hp)(M:List Addr):Prop:=∀ m∈M,∀ o,H m=some o→(∀ x:List Nat,0<x.length→o≠.lst (iv x))∧∀ ob u,o≠.frz ob u
theorem sqX {K:Frag}{H H':Hp}{M:List Addr}{e:Addr}{x:List Nat}(s:aT M H H')(ap:d3 H M)(hx:0<x.length)(h:SqL K H e (iv x)):SqL K H' e (iv x):=by
 rcases h with (h|⟨ob,h⟩)|h
 ·exact .inl (.inl (s e _ h fun hm=>(ap e hm _ h).1 x hx rfl))
 ·exact .inl (.inr ⟨ob,s e _ h fun hm=>(ap e hm _ h).2 _ _ rfl⟩)
 ·exact .inr h
theorem gP {K:Frag}{H H':Hp}{M:List Addr}{es:List Addr}{l:List Turn.Row}(s:aT M H H')(ap:d3 H M)(hl:∀ x∈l,0<x.length)(h:aF K H es l):aF K H' es l:=
 ⟨h.len,fun i e x h1 h2=>sqX s ap (hl x (mem_of_getElem? h2)) (h.at_ i e x h1 h2)⟩
theorem zn {K:Frag}{H H':Hp}{M:List Addr}{t:Addr}{rs:List Addr}{T:Tab}{n:Nat}(s:aT M H H')(ap:d3 H M)(ok:TOk n T)(en:zf n T)(h0:0<n)(ht:t∉M)(hr:∀ r∈rs,r∉M)(h:bt K H t rs T):bt K H' t rs T:=by
 refine ⟨s _ _ h.lst ht,h.len,h.nd,h.tn,fun i r hi=>?_⟩
 obtain ⟨vs,c,k1,k2,k3⟩:=h.row i r hi
 refine ⟨vs,c,k1,s _ _ k2 (hr r (mem_of_getElem? hi)),k3.len,fun j v x g1 g2=>?_⟩
 have:=k3.cell j v x g1 g2
 cases x with
 | none=>exact this
 | some x=>
  obtain ⟨e,z1,z2⟩:=this
  have he:tU T i j=some x:=by rw[Tt.ik k1,Tt.bW g2]
  exact ⟨e,z1,sqX s ap (by rw[(en i j x he).len];exact h0) z2⟩
def gf (g t:Addr):List (Str×V):=gm "table" (.ref t) (gm "given" (.ref g) [])
theorem dl (g t:Addr):(gf g t).lookup ("given":Str)=some (.ref g):=by
 unfold gf
 rw[bh,if_neg (by decide +kernel),bh,if_pos rfl]
theorem ft (g t:Addr):(gf g t).lookup ("table":Str)=some (.ref t):=by
 unfold gf
 rw[bh,if_pos rfl]
theorem gf_no (g t:Addr){m:Str}(h1:¬m="given")(h2:¬m="table"):(gf g t).lookup m=none:=by
 unfold gf
 rw[bh,if_neg h2,bh,if_neg h1];rfl
structure bo (K:Frag)(CG:Addr)(H:Hp)(o:Addr)(A:List Addr)(n:Nat)(gens:List Turn.Row):Prop where
 ex:∃ (dx g t:Addr) (gs rs:List Addr) (T:Tab),A=o::dx::g::t::rs∧A.Nodup∧H o=some (.ins CG dx (gf g t))∧H dx=some (.own o)∧H g=some (.lst (gs.map V.ref))∧aF K H gs gens∧bt K H t rs T∧TOk n T∧bS n (aE n gens) (tU T)
 isT:∀ x∈gens,IsT n x
theorem bo.keep {K:Frag}{CG:Addr}{H H':Hp}{o:Addr}{A M:List Addr}{n:Nat}{gens:List Turn.Row}(h:bo K CG H o A n gens)(h0:0<n)(s:aT M H H')(ap:d3 H M)(hd:∀ b∈A,b∉M):bo K CG H' o A n gens:=by
 obtain ⟨dx,g,t,gs,rs,T,rfl,nd,h1,h2,h3,h4,h5,h6,h7⟩:=h.ex
 have pos:∀ x∈gens,0<x.length:=fun x hx=>by rw[(h.isT x hx).len];exact h0
 refine ⟨⟨dx,g,t,gs,rs,T,rfl,nd,s _ _ h1 (hd _ (by simp)),s _ _ h2 (hd _ (by simp)),s _ _ h3 (hd _ (by simp)),gP s ap pos h4,zn s ap h6 (bS.ents h7) h0 (hd _ (by simp)) (fun r hr=>hd _ (by simp[hr])) h5,h6,h7⟩,h.isT⟩
theorem bo.same {K:Frag}{CG:Addr}{H H':Hp}{o:Addr}{A:List Addr}{n:Nat}{gens:List Turn.Row}(h:bo K CG H o A n gens)(s:az H H'):bo K CG H' o A n gens:=by
 obtain ⟨dx,g,t,gs,rs,T,rfl,nd,h1,h2,h3,h4,h5,h6,h7⟩:=h.ex
 exact ⟨⟨dx,g,t,gs,rs,T,rfl,nd,s _ _ h1,s _ _ h2,s _ _ h3,h4.same s,h5.same s,h6,h7⟩,h.isT⟩
theorem bo.apart {K:Frag}{CG:Addr}{H:Hp}{o:Addr}{A:List Addr}{n:Nat}{gens:List Turn.Row}(h:bo K CG H o A n gens):d3 H A∧∀ b∈A,H b≠none:=by
 obtain ⟨dx,g,t,gs,rs,T,rfl,nd,h1,h2,h3,h4,h5,h6,h7⟩:=h.ex
 have row:∀ r∈rs,∃ vs c,H r=some (.lst vs)∧fw K H vs c:=fun r hr=>by
  obtain ⟨i,hi⟩:=getElem?_of_mem hr
  obtain ⟨vs,c,_,k2,k3⟩:=h5.row i r hi
  exact ⟨vs,c,k2,k3⟩
 constructor
 ·intro m hm ob ho
  rcases Mc hm with rfl|hm
  ·rw[h1] at ho;cases ho;exact ⟨fun _ _ z=>(by cases z),fun _ _ z=>(by cases z)⟩
  rcases Mc hm with rfl|hm
  ·rw[h2] at ho;cases ho;exact ⟨fun _ _ z=>(by cases z),fun _ _ z=>(by cases z)⟩
  rcases Mc hm with rfl|hm
  ·rw[h3] at ho;cases ho;exact ⟨fun x hx=>cZ hx,fun _ _ z=>by cases z⟩
  rcases Mc hm with rfl|hm
  ·rw[h5.lst] at ho;cases ho;exact ⟨fun x hx=>cZ hx,fun _ _ z=>by cases z⟩
  ·obtain ⟨vs,c,k2,k3⟩:=row m hm
   rw[k2] at ho;cases ho
   exact ⟨fun x hx=>gv k3 hx,fun _ _ z=>by cases z⟩
 ·intro b hb z
  rcases Mc hb with rfl|hb
  ·rw[h1] at z;cases z
  rcases Mc hb with rfl|hb
  ·rw[h2] at z;cases z
  rcases Mc hb with rfl|hb
  ·rw[h3] at z;cases z
  rcases Mc hb with rfl|hb
  ·rw[h5.lst] at z;cases z
  ·obtain ⟨vs,c,k2,_⟩:=row b hb
   rw[k2] at z;cases z
inductive j2 (K:Frag) (CG:Addr) (vs:List V) (H:Hp) (Q:VK) (E:XK):Prop
 | mk (p dx:Addr) (n:Nat):vs=[.ref p,.int (n:Nat)]→H p=some (.ins CG dx [])→H dx=some (.own p)→0<n→n≤9→(∀ (H':Hp) (A:List Addr),bo K CG H' p A n []→(∀ b∈A,b=p∨b=dx∨H b=none)→(∀ e,Rf H' A e→New H H' e)→(∀ b o,H b=some o→b≠p→H' b=some o)→Q .non H')→j2 K CG vs H Q E
inductive uq (K:Frag) (CG:Addr) (vs:List V) (H:Hp) (Q:VK) (E:XK):Prop
 | mk (o a:Addr) (A:List Addr) (n:Nat) (gens:List Turn.Row) (x:List Nat):vs=[.ref o,.ref a]→bo K CG H o A n gens→SqL K H a (iv x)→IsT n x→0<n→n≤9→gens.length≤1000→(∀ H':Hp,bo K CG H' o A n (gens++[x])→(∀ e,Rf H' A e→Rf H A e∨e=a∨New H H' e)→aT A H H'→Q .non H')→uq K CG vs H Q E
section
variable {P:Program} {w:World} {K:Frag} {mg:Str→Option Value} {base:Heap} {CG CB:Addr}
theorem zH:ao ["self","things"] ["self","things"] (aj nP):=bX
theorem yg {f:Addr}{fd:FuncData}(F:Fun K "__init__" "Group.__init__" nP f fd)(T:Txt K mg CG CB)(CT:Cal P w K mg base 2 "table_without_turns" ["things"] (il K)):aZ P w K mg base CX0 3 f fd ["self","things"] (j2 K CG):=by
 refine okF F zH (fun cdv A outer s H vs Q E hr h=>?_)
 ·obtain ⟨p,dx,n,rfl,hp,hdx,h0,hn,k⟩:=h
  refine ⟨_,ag (jq (pv 0) (aV af) rfl) (ah (jq (pv 0) (ak CT hr rfl (aa (pv 1) af)) rfl)),?_⟩
  refine ⟨Nat.zero_le _,fun g hg=>?_⟩
  have pg:p≠g:=am hp hg
  have dg:dx≠g:=am hdx hg
  refine ⟨_,rfl,p,CG,dx,[],rfl,(by rw[ai pg];exact hp),T.gcl,T.gGiven,(by show 0<1000;decide),?_⟩
  have dp:dx≠p:=fun q=>by rw[q,hp] at hdx;cases hdx
  have e1:(upd (upd H g (.lst [])) p (.ins CG dx (gm "given" (.ref g) []))) p=some (.ins CG dx (gm "given" (.ref g) [])):=ae
  have e2:(upd (upd H g (.lst [])) p (.ins CG dx (gm "given" (.ref g) []))) g=some (.lst []):=by rw[ai (fun q=>pg q.symm),ae]
  have e3:(upd (upd H g (.lst [])) p (.ins CG dx (gm "given" (.ref g) []))) dx=some (.own p):=by rw[ai dp,ai dg];exact hdx
  have e4:∀ b o,H b=some o→b≠p→(upd (upd H g (.lst [])) p (.ins CG dx (gm "given" (.ref g) []))) b=some o:=fun b o e hb=>by
   rw[ai hb,ai (am e hg)];exact e
  have e5:∀ b,(upd (upd H g (.lst [])) p (.ins CG dx (gm "given" (.ref g) []))) b=none→H b=none∧b≠g∧b≠p∧b≠dx:=fun b e=>by
   have z1:b≠p:=fun q=>by rw[q,e1] at e;cases e
   have z2:b≠g:=fun q=>by rw[q,e2] at e;cases e
   have z3:b≠dx:=fun q=>by rw[q,e3] at e;cases e
   rw[ai z1,ai z2] at e
   exact ⟨e,z2,z1,z3⟩
  generalize upd (upd H g (.lst [])) p (.ins CG dx (gm "given" (.ref g) []))=H1 at e1 e2 e3 e4 e5
  refine ⟨_,rfl,n,rfl,hn,fun H2 t rs ht hrs htr hT hrf s2=>?_⟩
  refine ⟨_,rfl,p,CG,dx,_,rfl,s2 _ _ e1,T.gcl,T.gTable,(by show 1<1000;decide),?_⟩
  obtain ⟨t1,t2,t3,t4⟩:=e5 t ht
  have hr':∀ r∈rs,H r=none∧r≠g∧r≠p∧r≠dx:=fun r hr=>e5 r (hrs r hr)
  have sx:aT [p] H2 (upd H2 p (.ins CG dx (gm "table" (.ref t) (gm "given" (.ref g) [])))):=(aT.refl _ _).row (by simp)
  have ap:d3 H2 [p]:=fun m hm o ho=>by
   rw[Ms hm,s2 _ _ e1] at ho
   cases ho
   exact ⟨fun _ _ z=>(by cases z),fun _ _ z=>(by cases z)⟩
  refine k _ (p::dx::g::t::rs) ⟨⟨dx,g,t,[],rs,aR n,rfl,?_,ae,?_,?_,aF.nil,?_,Tt.cq n,Tt.dw n⟩,fun x hx=>by cases hx⟩ ?_ ?_ ?_
  ·simp only[nodup_cons,mem_cons,not_or]
   refine ⟨⟨fun q=>dp q.symm,pg,fun q=>t3 q.symm,fun q=>(hr' p q).2.2.1 rfl⟩,⟨dg,fun q=>t4 q.symm,fun q=>(hr' dx q).2.2.2 rfl⟩,⟨fun q=>t2 q.symm,fun q=>(hr' g q).2.1 rfl⟩,htr,hT.nd⟩
  ·rw[ai dp];exact s2 _ _ e3
  ·rw[ai (fun q=>pg q.symm)];exact s2 _ _ e2
  ·exact zn sx ap (Tt.cq n) (bS.ents (Tt.dw n)) h0 (by simpa using t3) (fun r hr=>by simpa using (hr' r hr).2.2.1) hT
  ·intro b hb
   rcases Mc hb with rfl|hb
   ·exact .inl rfl
   rcases Mc hb with rfl|hb
   ·exact .inr (.inl rfl)
   rcases Mc hb with rfl|hb
   ·exact .inr (.inr hg)
   rcases Mc hb with rfl|hb
   ·exact .inr (.inr t1)
   ·exact .inr (.inr (hr' b hb).1)
  ·rintro e ⟨m,hm,xs,w1,w2⟩
   by_cases hmp:m=p
   ·rw[hmp,ae] at w1;cases w1
   rw[ai hmp] at w1
   rcases Mc hm with z|hm
   ·exact absurd z hmp
   rcases Mc hm with z|hm
   ·rw[z,s2 _ _ e3] at w1;cases w1
   rcases Mc hm with z|hm
   ·rw[z,s2 _ _ e2] at w1;cases w1;cases w2
   rcases Mc hm with z|hm
   ·rw[z,hT.lst] at w1
    cases w1
    obtain ⟨r,hr1,hr2⟩:=mem_map.mp w2
    rw[←V.ref.inj hr2]
    exact ⟨(hr' r hr1).1,cS (hT.tracked r hr1)⟩
   ·have w:=hrf e ⟨m,hm,xs,w1,w2⟩
    exact ⟨(e5 e w.1).1,cS w.2⟩
  ·intro b o e hb
   rw[ai hb];exact s2 _ _ (e4 b o e hb)
theorem A7:ao ["self","turn"] ["self","turn"] (aj uP):=bX
theorem Aj {f:Addr}{fd:FuncData}(F:Fun K "give" "Group.give" uP f fd)(T:Txt K mg CG CB)(CA:Cal P w K mg base 4 "add_turn" ["table","x"] (eN K)):aZ P w K mg base CX0 5 f fd ["self","turn"] (uq K CG):=by
 refine okF F A7 (fun cdv A outer s H vs Q E hr h=>?_)
 ·obtain ⟨o,a,A,n,gens,x,rfl,hG,ha,xT,h0,hn,hl,k⟩:=h
  refine ⟨_,ag (aX (eD PySem.F.plainAttrs_list PySem.F.slot_list_append PySem.F.type_list_append bZ (bp (pv 0) rfl) (aa (pv 1) af)))
   (ah (aX (ak CA hr rfl (aa (bp (pv 0) rfl) (aa (pv 1) af))))),?_⟩
  obtain ⟨dx,g,t,gs,rs,T0,rfl,nd,h1,h2,h3,h4,h5,h6,h7⟩:=hG.ex
  have nd':=nd
  simp only[nodup_cons,mem_cons,not_or] at nd'
  obtain ⟨⟨nod,nog,not_,nor⟩,⟨ndg,ndt,ndr⟩,⟨ngt,ngr⟩,ntr,_⟩:=nd'
  have xpos:0<x.length:=by rw[xT.len];exact h0
  refine ⟨_,rfl,o,CG,dx,_,_,rfl,h1,T.gcl,T.gGiven,dl g t,.inl ⟨rfl,_,SqL.of h3⟩,_,rfl,g,_,_,rfl,rfl,h3,(by rw[length_map,h4.len];exact sz (by omega)),?_⟩
  have sg:aT [g] H (upd H g (.lst (gs.map V.ref++[V.ref a]))):=(aT.refl _ _).row (by simp)
  have ap:d3 H [g]:=fun m hm ob ho=>by
   rw[Ms hm,h3] at ho
   cases ho
   exact ⟨fun _ hx=>cZ hx,fun _ _ z=>by cases z⟩
  have pos:∀ y∈gens,0<y.length:=fun y hy=>by rw[(hG.isT y hy).len];exact h0
  have f1:=sg _ _ h1 (by simpa using nog)
  have f2:=sg _ _ h2 (by simpa using ndg)
  have f4:=(gP sg ap pos h4).snoc (sqX sg ap xpos ha)
  have f5:=zn sg ap h6 (bS.ents h7) h0 (by simpa using fun q=>ngt q.symm) (fun r hr=>by simpa using fun q=>ngr (by rw[←q];exact hr)) h5
  have fa:=sqX sg ap xpos ha
  have f3:(upd H g (.lst (gs.map V.ref++[V.ref a]))) g=some (.lst ((gs++[a]).map V.ref)):=by rw[ae,map_append];rfl
  generalize upd H g (.lst (gs.map V.ref++[V.ref a]))=H1 at sg f1 f2 f3 f4 f5 fa
  refine ⟨_,rfl,o,CG,dx,_,_,rfl,f1,T.gcl,T.gTable,ft g t,_,rfl,t,a,rs,T0,x,n,gens,rfl,f5,fa,h6,xT,h0,hn,hG.isT,h7,fun H2 T' hT' ok' F' hrf s2=>?_⟩
  have hgx:∀ y∈gens++[x],IsT n y:=fun y hy=>by
   rcases Ma hy with q|q
   ·exact hG.isT y q
   ·rw[Ms q];exact xT
  have ap2:d3 H1 rs:=fun m hm ob ho=>by
   obtain ⟨i,hi⟩:=getElem?_of_mem hm
   obtain ⟨vs,c,_,k2,k3⟩:=f5.row i m hi
   rw[k2] at ho
   cases ho
   exact ⟨fun _ hx=>gv k3 hx,fun _ _ z=>by cases z⟩
  refine k H2 ⟨⟨dx,g,t,gs++[a],rs,T',rfl,nd,s2 _ _ f1 nor,s2 _ _ f2 ndr,s2 _ _ f3 ngr,gP s2 ap2 (fun y hy=>by rw[(hgx y hy).len];exact h0) f4,hT',ok',F'⟩,hgx⟩ ?_ fun b ob e hb=>?_
  ·rintro e ⟨m,hm,xs,w1,w2⟩
   rcases Mc hm with z|hm
   ·rw[z,s2 _ _ f1 nor] at w1;cases w1
   rcases Mc hm with z|hm
   ·rw[z,s2 _ _ f2 ndr] at w1;cases w1
   rcases Mc hm with z|hm
   ·rw[z,s2 _ _ f3 ngr] at w1
    cases w1
    obtain ⟨c,hc1,hc2⟩:=mem_map.mp w2
    cases hc2
    rcases Ma hc1 with q|q
    ·exact .inl ⟨g,by simp,_,h3,mem_map.mpr ⟨e,q,rfl⟩⟩
    ·exact .inr (.inl (Ms q))
   rcases Mc hm with z|hm
   ·have ht2:=s2 _ _ f5.lst ntr
    rw[z,ht2] at w1
    cases w1
    exact .inl ⟨t,by simp,_,h5.lst,w2⟩
   ·rcases hrf e ⟨m,hm,xs,w1,w2⟩ with q|q|q
    ·obtain ⟨m',hm',xs',v1,v2⟩:=Rf.back (fun m hm o ho=>sg m o ho (by simpa using fun z=>ngr (by rw[←z];exact hm))) h5.tracked q
     exact .inl ⟨m',by simp[hm'],xs',v1,v2⟩
    ·exact .inr (.inl q)
    ·refine .inr (.inr ⟨?_,q.2⟩)
     have q:=q.1
     cases z:H e with
     | none=>rfl
     | some ob=>
      by_cases hg:e=g
      ·rw[hg,f3] at q;cases q
      ·rw[sg _ _ z (by simpa using hg)] at q;cases q
  simp only[mem_cons,not_or] at hb
  exact s2 _ _ (sg _ _ e (by simpa using hb.2.2.1)) hb.2.2.2.2
end
end Bt
namespace Bt
open PySem PySem.Spec PyProof.Rows L2
open PySem.W (Codec)
open Tt (Tab tU TOk aR bS aE IsT)
def bf (n:Nat)(L:Addr):List (Str×V):=gm "groups" (.ref L) (gm "things" (.int (n:Nat)) [])
theorem cK (n:Nat)(L:Addr):(bf n L).lookup ("things":Str)=some (.int (n:Nat)):=by
 unfold bf
 rw[bh,if_neg (by decide +kernel),bh,if_pos rfl]
theorem dW (n:Nat)(L:Addr):(bf n L).lookup ("groups":Str)=some (.ref L):=by
 unfold bf
 rw[bh,if_pos rfl]
theorem yN (n:Nat)(L:Addr){m:Str}(h1:¬m="things")(h2:¬m="groups"):(bf n L).lookup m=none:=by
 unfold bf
 rw[bh,if_neg h2,bh,if_neg h1];rfl
theorem BN (n m:Nat)(L:Addr):gm "things" (.int (m:Nat)) (bf n L)=bf m L:=rfl
theorem AH (n:Nat)(L L':Addr):gm "groups" (.ref L') (bf n L)=bf n L':=rfl
structure aY (K:Frag)(CG:Addr)(H:Hp)(n:Nat)(os:List Addr)(As:List (List Addr))(gs:List (List Turn.Row)):Prop where
 l1:os.length=gs.length
 l2:As.length=gs.length
 at_:∀ (i:Nat) (o:Addr) (A:List Addr) (gens:List Turn.Row),os[i]?=some o→As[i]?=some A→gs[i]?=some gens→bo K CG H o A n gens∧gens.length≤100
 nd:As.flatten.Nodup
structure aK (K:Frag)(CG CB:Addr)(H:Hp)(b:Addr)(foot:List Addr)(s:State):Prop where
 ex:∃ (dx L:Addr) (os:List Addr) (As:List (List Addr)),foot=b::dx::L::As.flatten∧foot.Nodup∧H b=some (.ins CB dx (bf s.n L))∧H dx=some (.own b)∧H L=some (.lst (os.map V.ref))∧aY K CG H s.n os As s.groups
 pos:0<s.n
 le:s.n≤9
 four:s.groups.length=4
section
variable {K:Frag} {CG CB:Addr} {H H':Hp}
theorem aY.get {n:Nat}{os:List Addr}{As:List (List Addr)}{gs:List (List Turn.Row)}(h:aY K CG H n os As gs){i:Nat}(hi:i<gs.length):∃ o A gens,os[i]?=some o∧As[i]?=some A∧gs[i]?=some gens∧bo K CG H o A n gens∧gens.length≤100:=by
 have a:=getElem?_eq_getElem (l:=os) (i:=i) (by rw[h.l1];exact hi)
 have b:=getElem?_eq_getElem (l:=As) (i:=i) (by rw[h.l2];exact hi)
 have c:=getElem?_eq_getElem hi
 exact ⟨_,_,_,a,b,c,h.at_ i _ _ _ a b c⟩
theorem aY.same {n:Nat}{os:List Addr}{As:List (List Addr)}{gs:List (List Turn.Row)}(h:aY K CG H n os As gs)(s:az H H'):aY K CG H' n os As gs:=
 ⟨h.l1,h.l2,fun i o A gens h1 h2 h3=>let q:=h.at_ i o A gens h1 h2 h3;⟨q.1.same s,q.2⟩,h.nd⟩
theorem aY.keep {n:Nat}{os M:List Addr}{As:List (List Addr)}{gs:List (List Turn.Row)}(h:aY K CG H n os As gs)(h0:0<n)(s:aT M H H')(ap:d3 H M)(hd:∀ b∈As.flatten,b∉M):aY K CG H' n os As gs:=
 ⟨h.l1,h.l2,fun i o A gens h1 h2 h3=>let q:=h.at_ i o A gens h1 h2 h3;⟨q.1.keep h0 s ap fun b hb=>hd b (mem_flatten.mpr ⟨A,mem_of_getElem? h2,hb⟩),q.2⟩,h.nd⟩
theorem aY.nil {n:Nat}:aY K CG H n [] [] []:=⟨rfl,rfl,fun i o A gens h=>by simp at h,by simp⟩
theorem aY.snoc {n:Nat}{os:List Addr}{As:List (List Addr)}{gs:List (List Turn.Row)}{o:Addr}{A:List Addr}{gens:List Turn.Row}(h:aY K CG H n os As gs)(hG:bo K CG H o A n gens)(hl:gens.length≤100)(hA:A.Nodup)(hd:∀ b∈A,b∉As.flatten):aY K CG H n (os++[o]) (As++[A]) (gs++[gens]):=by
 refine ⟨by simp[h.l1],by simp[h.l2],fun i o' A' gens' h1 h2 h3=>?_,?_⟩
 ·rw[getElem?_append] at h1 h2 h3
  rw[h.l1] at h1
  rw[h.l2] at h2
  split at h3
  ·rename_i hlt
   rw[if_pos hlt] at h1 h2
   exact h.at_ i o' A' gens' h1 h2 h3
  ·rename_i hlt
   rw[if_neg hlt] at h1 h2
   have:i-gs.length=0:=by
    have:=(Gq h3).1
    rw[length_singleton] at this;omega
   rw[this] at h1 h2 h3
   simp at h1 h2 h3
   subst h1 h2 h3
   exact ⟨hG,hl⟩
 ·rw[flatten_append,nodup_append]
  refine ⟨h.nd,by simpa using hA,fun a ha b hb q=>?_⟩
  have hb:b∈A:=by simpa using hb
  rw[q] at ha
  exact hd b hb ha
theorem bo.nodup {o:Addr}{A:List Addr}{n:Nat}{gens:List Turn.Row}(h:bo K CG H o A n gens):A.Nodup:=by
 obtain ⟨_,_,_,_,_,_,_,nd,_⟩:=h.ex
 exact nd
theorem aY.apart {n:Nat}{os:List Addr}{As:List (List Addr)}{gs:List (List Turn.Row)}(h:aY K CG H n os As gs):d3 H As.flatten∧∀ b∈As.flatten,H b≠none:=by
 have key:∀ b∈As.flatten,∃ o A gens,b∈A∧bo K CG H o A n gens:=fun b hb=>by
  obtain ⟨A,hA,hbA⟩:=mem_flatten.mp hb
  obtain ⟨i,hi⟩:=getElem?_of_mem hA
  have hil:i<gs.length:=by rw[←h.l2];exact (Gq hi).1
  obtain ⟨o,A',gens,h1,h2,h3,h4,_⟩:=h.get hil
  have:A'=A:=Oi (h2.symm.trans hi)
  subst this
  exact ⟨o,A',gens,hbA,h4⟩
 exact ⟨fun b hb o ho=>let ⟨_,_,_,h1,h2⟩:=key b hb;h2.apart.1 b h1 o ho,fun b hb=>let ⟨_,_,_,h1,h2⟩:=key b hb;h2.apart.2 b h1⟩
end
inductive l6 (K:Frag) (CG CB:Addr) (vs:List V) (H:Hp) (Q:VK) (E:XK):Prop
 | mk (b dx L0:Addr) (n0 m:Nat):vs=[.ref b,.int (m:Nat)]→H b=some (.ins CB dx (bf n0 L0))→H dx=some (.own b)→0<m→m≤9→(∀ (H':Hp) (foot:List Addr),aK K CG CB H' b foot (Turn.fresh m)→(∀ a∈foot,a=b∨a=dx∨H a=none)→(∀ e,Rf H' foot e→New H H' e)→(∀ a o,H a=some o→a≠b→H' a=some o)→Q .non H')→l6 K CG CB vs H Q E
inductive pk (K:Frag) (CG CB:Addr) (vs:List V) (H:Hp) (Q:VK) (E:XK):Prop
 | mk (b:Addr) (foot:List Addr) (s:State) (g:Nat):vs=[.ref b,.int (g:Nat)]→aK K CG CB H b foot s→g<4→(∀ (H':Hp) (foot':List Addr),aK K CG CB H' b foot' ⟨s.n,s.groups.set g []⟩→(∀ a∈foot',a∈foot∨H a=none)→(∀ e,Rf H' foot' e→Rf H foot e∨New H H' e)→aT foot H H'→(∀ e,H e≠none→H' e≠none)→Q .non H')→pk K CG CB vs H Q E
inductive pB (K:Frag) (CG CB:Addr) (vs:List V) (H:Hp) (Q:VK) (E:XK):Prop
 | mk (b dx:Addr):vs=[.ref b]→H b=some (.ins CB dx [])→H dx=some (.own b)→(∀ (H':Hp) (foot:List Addr),aK K CG CB H' b foot Turn.start→(∀ a∈foot,a=b∨a=dx∨H a=none)→(∀ e,Rf H' foot e→New H H' e)→(∀ a o,H a=some o→a≠b→H' a=some o)→Q .non H')→pB K CG CB vs H Q E
section
variable {P:Program} {w:World} {K:Frag} {mg:Str→Option Value} {base:Heap} {CG CB:Addr}
theorem pK:ao ["self","things","number"] ["self","things"] (aj nR):=bX
theorem ym {f fI:Addr}{fd fdI:FuncData}{tk:Tok}(F:Fun K "begin" "Bench.begin" nR f fd)(B:Blt mg)(T:Txt K mg CG CB)(hgc:mg "GROUP_COUNT"=some (.int 4 tk))(M:Mk K CG fI)(GI:aZ P w K mg base CX0 3 fI fdI ["self","things"] (j2 K CG))(bI:d4 K fdI ["self","things"] []):
  aZ P w K mg base CX0 5 f fd ["self","things"] (l6 K CG CB):=by
 refine okF F pK (fun cdv A outer s H vs Q E hr h=>?_)
 ·obtain ⟨b,dx,L0,n0,m,rfl,hb,hdx,h0,hm,k⟩:=h
  refine ⟨_,ag (jq (pv 0) (pv 1) rfl) (ah (jq (pv 0) (gQ (own:=[("number",2)]) rfl pK.nd (iG rfl B.range (aa (bQ (v:=.int 4) rfl hgc ⟨tk,rfl⟩) af)) (bn rfl) (fun _ _ _ _ _=>aG (i:=2) pK.nd rfl (Or.inl rfl)) (fun _ _ _ _ _=>cF) (fun _ _ _ _ _=>qh M GI hr rfl T.mgG bI .nil mM (aa (pv 1) af))) rfl)),?_⟩
  refine ⟨_,rfl,_,rfl,b,CB,dx,_,rfl,hb,T.bcl,T.bThings,(by show 2<1000;decide),?_⟩
  rw[BN]
  have db:dx≠b:=fun q=>by rw[q,hb] at hdx;cases hdx
  have e1:(upd H b (.ins CB dx (bf m L0))) b=some (.ins CB dx (bf m L0)):=ae
  have e2:(upd H b (.ins CB dx (bf m L0))) dx=some (.own b):=by rw[ai db];exact hdx
  have e3:∀ a o,H a=some o→a≠b→(upd H b (.ins CB dx (bf m L0))) a=some o:=fun a o e ha=>by rw[ai ha];exact e
  have e4:∀ a,(upd H b (.ins CB dx (bf m L0))) a=none→H a=none∧a≠b:=fun a e=>by
   have z:a≠b:=fun q=>by rw[q,e1] at e;cases e
   rw[ai z] at e
   exact ⟨e,z⟩
  generalize upd H b (.ins CB dx (bf m L0))=H1 at e1 e2 e3 e4
  refine ⟨4,rfl,by decide,by decide,fun D hD=>jN (n:=4) (fun i H'=>∃ (os:List Addr) (As:List (List Addr)),H' D=some (.lst (os.map V.ref))∧aY K CG H' m os As (List.replicate i [])∧(∀ a∈As.flatten,H1 a=none∧a≠D)∧(∀ e,Rf H' As.flatten e→New H1 H' e)∧(∀ o∈os,New H1 H' o)∧az H1 H')
   ⟨[],[],ae,aY.nil,fun a ha=>(by simp at ha),fun e ⟨m,hm,_⟩=>(by simp at hm),fun o ho=>(by cases ho),al (az.refl _) hD⟩ ?_ ?_⟩
  ·rintro i H' hi ⟨os,As,hD',hG,hA,hRf,hOs,s1⟩
   refine ⟨rfl,?_⟩
   refine ⟨_,rfl,fun x dx' nx ndx nex=>?_⟩
   refine ⟨x,dx',m,rfl,ae,(by rw[ai nex,ae]),h0,hm,fun H2 A hGx hAx hRx keep=>⟨rfl,?_⟩⟩
   have s2:az H' H2:=az.made nx ndx keep
   have fresh:∀ a∈A,H' a=none:=fun a ha=>by
    rcases hAx a ha with q|q|q
    ·rw[q];exact nx
    ·rw[q];exact ndx
    ·by_cases z1:a=x
     ·rw[z1];exact nx
     ·by_cases z2:a=dx'
      ·rw[z2];exact ndx
      ·rw[ai z1,ai z2] at q;exact q
   have osl:os.length=i:=by rw[hG.l1,length_replicate]
   refine ⟨_,s2 _ _ hD',(by rw[length_map,osl];exact sz (by omega)),?_⟩
   have sD:aT [D] H2 (upd H2 D (.lst (os.map V.ref++[V.ref x]))):=(aT.refl _ _).row (by simp)
   have apD:d3 H2 [D]:=fun z hz ob ho=>by
    rw[Ms hz,s2 _ _ hD'] at ho
    cases ho
    exact ⟨fun _ hx=>cZ hx,fun _ _ z=>(by cases z)⟩
   have dis:∀ a∈A,a∉As.flatten:=fun a ha q=>hG.apart.2 a q (fresh a ha)
   have aD:∀ a∈A,a≠D:=fun a ha q=>by rw[←q,fresh a ha] at hD';cases hD'
   refine ⟨os++[x],As++[A],by rw[ae,map_append];rfl,?_,fun a ha=>?_,?_,?_,aH (s1.trans s2) hD⟩
   ·rw[replicate_succ']
    exact ((hG.same s2).keep h0 sD apD fun a ha=>by simpa using (hA a ha).2).snoc (hGx.keep h0 sD apD fun a ha=>by simpa using aD a ha) (Nat.zero_le _) hGx.nodup dis
   ·rw[flatten_append] at ha
    rcases Ma ha with q|q
    ·exact hA a q
    ·have q:a∈A:=by simpa using q
     exact ⟨s1.free (fresh a q),aD a q⟩
   ·rintro e ⟨z,hz,xs,w1,w2⟩
    rw[flatten_append] at hz
    rcases Ma hz with q|q
    ·have w:=hRf e (Rf.back (fun m hm o ho=>by rw[ai (hA m hm).2];exact s2 _ _ ho) hG.apart.2 ⟨z,q,xs,w1,w2⟩)
     exact ⟨w.1,cS (cb s2 w.2)⟩
    ·have q:z∈A:=by simpa using q
     rw[ai (aD z q)] at w1
     have:=hRx e ⟨z,q,xs,w1,w2⟩
     refine ⟨s1.free ?_,cS this.2⟩
     have this:=this.1
     by_cases z1:e=x
     ·rw[z1];exact nx
     ·by_cases z2:e=dx'
      ·rw[z2];exact ndx
      ·rw[ai z1,ai z2] at this;exact this
   ·intro o ho
    rcases Ma ho with q|q
    ·exact ⟨(hOs o q).1,cS (cb s2 (hOs o q).2)⟩
    ·rw[Ms q]
     refine ⟨s1.free nx,cS (hGx.apart.2 x ?_)⟩
     obtain ⟨_,_,_,_,_,_,rfl,_⟩:=hGx.ex
     simp
  ·rintro H' ⟨os,As,hD',hG,hA,hRf,hOs,s1⟩
   refine ⟨_,rfl,b,CB,dx,_,rfl,s1 _ _ e1,T.bcl,T.bGroups,(by show 2<1000;decide),?_⟩
   rw[AH]
   have sb:aT [b] H' (upd H' b (.ins CB dx (bf m D))):=(aT.refl _ _).row (by simp)
   have apb:d3 H' [b]:=fun z hz ob ho=>by
    rw[Ms hz,s1 _ _ e1] at ho
    cases ho
    exact ⟨fun _ _ z=>(by cases z),fun _ _ z=>(by cases z)⟩
   have bD:b≠D:=am e1 hD
   have dD:dx≠D:=am e2 hD
   have nb:∀ a∈As.flatten,a≠b:=fun a ha=>(e4 a (hA a ha).1).2
   have nd:∀ a∈As.flatten,a≠dx:=fun a ha q=>by
    have:=(hA a ha).1
    rw[q,e2] at this;cases this
   refine k _ (b::dx::D::As.flatten) ⟨⟨dx,D,os,As,rfl,?_,ae,?_,?_,hG.keep h0 sb apb fun a ha=>by simpa using nb a ha⟩,h0,hm,rfl⟩ ?_ ?_ ?_
   ·simp only[nodup_cons,mem_cons,not_or]
    exact ⟨⟨fun q=>db q.symm,bD,fun q=>nb b q rfl⟩,⟨dD,fun q=>nd dx q rfl⟩,fun q=>(hA D q).2 rfl,hG.nd⟩
   ·rw[ai db];exact s1 _ _ e2
   ·rw[ai (fun q=>bD q.symm)];exact hD'
   ·intro a ha
    rcases Mc ha with rfl|ha
    ·exact .inl rfl
    rcases Mc ha with rfl|ha
    ·exact .inr (.inl rfl)
    rcases Mc ha with rfl|ha
    ·exact .inr (.inr (e4 _ hD).1)
    ·exact .inr (.inr (e4 a (hA a ha).1).1)
   ·rintro e ⟨z,hz,xs,w1,w2⟩
    by_cases hzb:z=b
    ·rw[hzb,ae] at w1;cases w1
    rw[ai hzb] at w1
    rcases Mc hz with q|hz
    ·exact absurd q hzb
    rcases Mc hz with q|hz
    ·rw[q,s1 _ _ e2] at w1;cases w1
    rcases Mc hz with q|hz
    ·rw[q,hD'] at w1
     cases w1
     obtain ⟨o,ho,ho2⟩:=mem_map.mp w2
     rw[←V.ref.inj ho2]
     exact ⟨(e4 _ (hOs o ho).1).1,cS (hOs o ho).2⟩
    ·have w:=hRf e ⟨z,hz,xs,w1,w2⟩
     exact ⟨(e4 _ w.1).1,cS w.2⟩
   ·intro a o e ha
    rw[ai ha]
    exact s1 _ _ (e3 a o e ha)
theorem zM:ao ["self"] ["self"] (aj nS):=bX
theorem yn {f fB:Addr}{fd fdB:FuncData}{tk:Tok}(F:Fun K "__init__" "Bench.__init__" nS f fd)(T:Txt K mg CG CB)(h3:mg "THINGS_AT_FIRST"=some (.int 3 tk))(mB:t7 K CB "begin" fB)(GB:aZ P w K mg base CX0 5 fB fdB ["self","things"] (l6 K CG CB))(bB:d4 K fdB ["self","things"] []):
  aZ P w K mg base CX0 6 f fd ["self"] (pB K CG CB):=by
 refine okF F zM (fun cdv A outer s H vs Q E hr h=>?_)
 ·obtain ⟨b,dx,rfl,hb,hdx,k⟩:=h
  refine ⟨_,ag (jq (pv 0) (bQ (v:=.int 3) rfl h3 ⟨tk,rfl⟩) rfl) (ag (jq (pv 0) (aV af) rfl)
   (ah (aX (kq (pv 0) T.bcl mB GB hr bB .nil mM (aa (bQ (v:=.int 3) rfl h3 ⟨tk,rfl⟩) af))))),?_⟩
  refine ⟨_,rfl,b,CB,dx,[],rfl,hb,T.bcl,T.bThings,(by show 0<1000;decide),?_⟩
  have db:dx≠b:=fun q=>by rw[q,hb] at hdx;cases hdx
  refine ⟨Nat.zero_le _,fun L hL=>?_⟩
  have bL:b≠L:=fun q=>by rw[←q,ae] at hL;cases hL
  have hLn:H L=none:=by rw[ai (fun q=>bL q.symm)] at hL;exact hL
  refine ⟨_,rfl,b,CB,dx,_,rfl,(by rw[ai bL,ae]),T.bcl,T.bGroups,(by show 1<1000;decide),?_⟩
  refine ⟨_,rfl,b,dx,_,rfl,ae,yN 3 L (by decide +kernel) (by decide +kernel),?_⟩
  have dL:dx≠L:=am hdx hLn
  refine ⟨b,dx,L,3,3,rfl,ae,(by rw[ai db,ai dL,ai db];exact hdx),by decide,by decide,fun H' foot hB hf hrf hk=>?_⟩
  have back:∀ c,(upd (upd (upd H b (.ins CB dx (gm "things" (.int (3:Nat)) []))) L (.lst [])) b (.ins CB dx (bf 3 L))) c=none→H c=none:=fun c q=>by
   by_cases z1:c=b
   ·rw[z1,ae] at q;cases q
   ·by_cases z2:c=L
    ·rw[z2];exact hLn
    ·rw[ai z1,ai z2,ai z1] at q;exact q
  refine k H' foot hB (fun a ha=>?_) (fun e he=>⟨back e (hrf e he).1,(hrf e he).2⟩) (fun a o e ha=>?_)
  ·rcases hf a ha with q|q|q
   ·exact .inl q
   ·exact .inr (.inl q)
   ·refine .inr (.inr ?_)
    by_cases z1:a=b
    ·rw[z1,ae] at q;cases q
    ·by_cases z2:a=L
     ·rw[z2];exact hLn
     ·rw[ai z1,ai z2,ai z1] at q;exact q
  ·refine hk a o ?_ ha
   rw[ai ha,ai (am e hLn),ai ha];exact e
theorem zI:ao ["self","number"] ["self","number"] (aj nQ):=bX
theorem yh {f fI:Addr}{fd fdI:FuncData}(F:Fun K "empty" "Bench.empty" nQ f fd)(T:Txt K mg CG CB)(M:Mk K CG fI)(GI:aZ P w K mg base CX0 3 fI fdI ["self","things"] (j2 K CG))(bI:d4 K fdI ["self","things"] []):
  aZ P w K mg base CX0 5 f fd ["self","number"] (pk K CG CB):=by
 refine okF F zI (fun cdv A outer s H vs Q E hr h=>?_)
 ·obtain ⟨b,foot,st,g,rfl,hB,hg,k⟩:=h
  refine ⟨_,ah (nW (qh M GI hr rfl T.mgG bI .nil mM (aa (bp (pv 0) rfl) af)) (n4 (bp (pv 0) rfl) (pv 1) iu)),?_⟩
  obtain ⟨dx,L,os,As,rfl,nd,h1,h2,h3,hG⟩:=hB.ex
  refine ⟨_,rfl,b,CB,dx,_,_,rfl,h1,T.bcl,T.bThings,cK _ _,fun x dx' nx ndx nex=>?_⟩
  refine ⟨x,dx',st.n,rfl,ae,(by rw[ai nex,ae]),hB.pos,hB.le,fun H2 A hGx hAx hRx keep=>⟨rfl,?_⟩⟩
  have s2:az H H2:=az.made nx ndx keep
  have fresh:∀ a∈A,H a=none:=fun a ha=>by
   rcases hAx a ha with q|q|q
   ·rw[q];exact nx
   ·rw[q];exact ndx
   ·by_cases z1:a=x
    ·rw[z1];exact nx
    ·by_cases z2:a=dx'
     ·rw[z2];exact ndx
     ·rw[ai z1,ai z2] at q;exact q
  have h4:=hB.four
  have osl:os.length=4:=by rw[hG.l1,h4]
  refine ⟨_,rfl,b,CB,dx,_,_,rfl,s2 _ _ h1,T.bcl,T.bGroups,dW _ _,_,rfl,L,_,(g:Int),g,rfl,rfl,s2 _ _ h3,?_,?_⟩
  ·unfold ixN
   rw[length_map,osl,if_pos (by omega),if_pos (by omega)]
   simp
  have nd':=nd
  simp only[nodup_cons,mem_cons,not_or] at nd'
  obtain ⟨⟨nbd,nbL,nbA⟩,⟨ndL,ndA⟩,nLA,ndAs⟩:=nd'
  have sL:aT [L] H2 (upd H2 L (.lst ((os.map V.ref).set g (.ref x)))):=(aT.refl _ _).row (by simp)
  have apL:d3 H2 [L]:=fun z hz ob ho=>by
   rw[Ms hz,s2 _ _ h3] at ho
   cases ho
   exact ⟨fun _ hx=>cZ hx,fun _ _ z=>(by cases z)⟩
  have AL:∀ a∈A,a≠L:=fun a ha q=>by rw[←q,fresh a ha] at h3;cases h3
  have dis:∀ a∈A,a∉As.flatten:=fun a ha q=>hG.apart.2 a q (fresh a ha)
  have Ab:∀ a∈A,a≠b:=fun a ha q=>by rw[←q,fresh a ha] at h1;cases h1
  have Ad:∀ a∈A,a≠dx:=fun a ha q=>by rw[←q,fresh a ha] at h2;cases h2
  have sub:∀ a∈(As.set g A).flatten,a∈As.flatten∨a∈A:=fun a ha=>by
   obtain ⟨C,hC,haC⟩:=mem_flatten.mp ha
   rcases mem_or_eq_of_mem_set hC with q|q
   ·exact .inl (mem_flatten.mpr ⟨C,q,haC⟩)
   ·rw[q] at haC;exact .inr haC
  have ndS:(As.set g A).flatten.Nodup:=by
   have:∀ (As:List (List Addr)) (g:Nat),As.flatten.Nodup→(∀ a∈A,a∉As.flatten)→(As.set g A).flatten.Nodup:=by
    intro As
    induction As with
    | nil=>intro g _ _;simp
    | cons C As ih=>
     intro g hn hd
     rw[flatten_cons,nodup_append] at hn
     cases g with
     | zero=>
      rw[set_cons_zero,flatten_cons,nodup_append]
      exact ⟨hGx.nodup,hn.2.1,fun a ha b hb q=>hd a ha (by rw[flatten_cons,q];exact mem_append_right _ hb)⟩
     | succ g=>
      rw[set_cons_succ,flatten_cons,nodup_append]
      refine ⟨hn.1,ih g hn.2.1 (fun a ha q=>hd a ha (by rw[flatten_cons];exact mem_append_right _ q)),fun a ha b hb q=>?_⟩
      obtain ⟨E,hE,hbE⟩:=mem_flatten.mp hb
      rcases mem_or_eq_of_mem_set hE with z|z
      ·exact hn.2.2 a ha b (mem_flatten.mpr ⟨E,z,hbE⟩) q
      ·rw[z] at hbE
       exact hd b hbE (by rw[flatten_cons,←q];exact mem_append_left _ ha)
   exact this As g hG.nd dis
  have hG2:aY K CG (upd H2 L (.lst ((os.map V.ref).set g (.ref x)))) st.n (os.set g x) (As.set g A) (st.groups.set g []):=by
   refine ⟨by simp[hG.l1],by simp[hG.l2],fun i o C gens k1 k2 k3=>?_,ndS⟩
   by_cases hi:i=g
   ·subst hi
    rw[getElem?_set_self (by rw[osl];exact hg)] at k1
    rw[getElem?_set_self (by rw[hG.l2,h4];exact hg)] at k2
    rw[getElem?_set_self (by rw[h4];exact hg)] at k3
    cases k1;cases k2;cases k3
    exact ⟨hGx.keep hB.pos sL apL fun a ha=>by simpa using AL a ha,Nat.zero_le _⟩
   ·rw[getElem?_set_ne (fun z=>hi z.symm)] at k1 k2 k3
    have q:=hG.at_ i o C gens k1 k2 k3
    exact ⟨(q.1.same s2).keep hB.pos sL apL fun a ha=>by simpa using fun z=>nLA (by rw[←z];exact mem_flatten.mpr ⟨C,mem_of_getElem? k2,ha⟩),q.2⟩
  refine k _ (b::dx::L::(As.set g A).flatten) ⟨⟨dx,L,os.set g x,As.set g A,rfl,?_,?_,?_,?_,hG2⟩,hB.pos,hB.le,by show (st.groups.set g []).length=4;rw[length_set];exact h4⟩ ?_ ?_ ?_ (fun e he=>cS (cb s2 he))
  ·simp only[nodup_cons,mem_cons,not_or]
   refine ⟨⟨nbd,nbL,fun q=>?_⟩,⟨ndL,fun q=>?_⟩,fun q=>?_,ndS⟩
   ·rcases sub _ q with z|z
    ·exact nbA z
    ·exact Ab _ z rfl
   ·rcases sub _ q with z|z
    ·exact ndA z
    ·exact Ad _ z rfl
   ·rcases sub _ q with z|z
    ·exact nLA z
    ·exact AL _ z rfl
  ·rw[ai nbL];exact s2 _ _ h1
  ·rw[ai ndL];exact s2 _ _ h2
  ·rw[ae,map_set]
  ·intro a ha
   rcases Mc ha with rfl|ha
   ·exact .inl (by simp)
   rcases Mc ha with rfl|ha
   ·exact .inl (by simp)
   rcases Mc ha with rfl|ha
   ·exact .inl (by simp)
   ·rcases sub a ha with q|q
    ·exact .inl (by simp[q])
    ·exact .inr (fresh a q)
  ·rintro e ⟨z,hz,xs,w1,w2⟩
   rcases Mc hz with q|hz
   ·rw[q,ai nbL,s2 _ _ h1] at w1;cases w1
   rcases Mc hz with q|hz
   ·rw[q,ai ndL,s2 _ _ h2] at w1;cases w1
   rcases Mc hz with q|hz
   ·rw[q,ae] at w1
    cases w1
    rcases mem_or_eq_of_mem_set w2 with y|y
    ·exact .inl ⟨L,by simp,_,h3,y⟩
    ·cases y
     refine .inr ⟨nx,cS (hGx.apart.2 _ ?_)⟩
     obtain ⟨_,_,_,_,_,_,rfl,_⟩:=hGx.ex
     simp
   ·have hzL:z≠L:=fun y=>by
     rcases sub z hz with q|q
     ·exact nLA (by rw[←y];exact q)
     ·exact AL z q y
    rw[ai hzL] at w1
    rcases sub z hz with q|q
    ·obtain ⟨m,hm,ys,v1,v2⟩:=Rf.back (fun m hm o ho=>s2 m o ho) hG.apart.2 ⟨z,q,xs,w1,w2⟩
     exact .inl ⟨m,by simp[hm],ys,v1,v2⟩
    ·have this':=hRx e ⟨z,q,xs,w1,w2⟩
     have this:=this'.1
     refine .inr ⟨?_,cS this'.2⟩
     by_cases z1:e=x
     ·rw[z1];exact nx
     ·by_cases z2:e=dx'
      ·rw[z2];exact ndx
      ·rw[ai z1,ai z2] at this;exact this
  ·intro a o e ha
   simp only[mem_cons,not_or] at ha
   rw[ai ha.2.2.1];exact s2 _ _ e
end
end Bt
namespace Bz
open PySem PySem.Spec PyProof.Rows L2
section
variable {prog:Program} {w:World}
structure Src (prog:Program)(w:World)(i l:Addr)(S:Nat→Heap→Prop)(v:Nat→Option Value):Prop where
 item:∀ (A:Around) (E:Value→Shared→Prop) (s:Shared) (Q:Value→Shared→Prop) (k:Nat) (x:Value),S k s.heap→v k=some x→(∀ g,S (k+1) g→Heap.SameBut i s.heap g→Q x {s with heap:=g})→wpAny (model prog w) A (Builtin.SmallTypes.nextOf (.ref i)) Q E s
 stop:∀ (A:Around) (E:Value→Shared→Prop) (s:Shared) (Q:Value→Shared→Prop) (k:Nat),A.handled=none→S k s.heap→v k=none→(∀ g e,Heap.ExtBut i s.heap g→(∃ o,g.get? e=some o∧o.cls=.type "StopIteration")→E (.ref e) {s with heap:=g})→wpAny (model prog w) A (Builtin.SmallTypes.nextOf (.ref i)) Q E s
 keep:∀ (k:Nat) (g g':Heap),S k g→(∀ o,g.get? i=some o→g'.get? i=some o)→(∀ o,g.get? l=some o→g'.get? l=some o)→S k g'
theorem qX {i l:Addr}{xs:Array Value}:Src prog w i l (fun k h=>h.IsListIter i l k∧h.IsList l xs) (fun k=>xs[k]?):=by
 refine ⟨fun A E s Q k x hS hv q=>?_,fun A E s Q k hh hS hv q=>?_,fun k g g' hS h1 h2=>⟨hS.1.at h1,hS.2.at h2⟩⟩
 ·by_cases hil:l=i
  ·obtain ⟨⟨o,ho,hc,_⟩,⟨o',ho',hc',_⟩⟩:=hS
   rw[hil,ho] at ho'
   cases ho'
   rw[hc] at hc'
   simp at hc'
  ·exact wpAny_nextOf_list_item hS.1 hS.2 hv fun g h1 h2=>q g ⟨h1,hS.2.at fun o e=>(h2.2 l hil).trans e⟩ h2
 ·exact wpAny_nextOf_list_end hh hS.1 hS.2 hv fun g e h1 h2=>q g e h1 h2
theorem nM {i l:Addr}{xs:Array Value}:Src prog w i l (fun k h=>h.IsTupleIter i l k∧h.IsTuple l xs) (fun k=>xs[k]?):=by
 refine ⟨fun A E s Q k x hS hv q=>?_,fun A E s Q k hh hS hv q=>?_,fun k g g' hS h1 h2=>⟨hS.1.at h1,?_⟩⟩
 ·obtain ⟨hit,ht⟩:=hS
  have hil:l≠i:=fun z=>by
   obtain ⟨o,ho,hc,_⟩:=hit
   obtain ⟨o',ho',hc',_⟩:=ht
   rw[z,ho] at ho'
   cases ho'
   rw[hc] at hc'
   simp at hc'
  obtain ⟨o,ho,hc,hd⟩:=id hit
  obtain ⟨ot,hot,hct,nt,hdt⟩:=id ht
  unfold Builtin.SmallTypes.nextOf
  refine wpAny_bind (wpAny_callSpecial?_slot (name:=Str.ofString "__next__") hit.typeIs PySem.F.slot_tuple_iterator_next (wpAny_call_entry PySem.F.slot_tuple_iterator_next hit.typeIs PySem.F.entry_tuple_iterator_next ?_ (PySem.F.args_tuple_iterator_next_1 _)))
  show wpAny (model prog w) _ (field (.ref i) 0 >>= _) _ _ s
  refine wpAny_bind (wpAny_field ho hd (x:=Value.ref l) rfl ?_)
  show wpAny (model prog w) _ (if (Value.ref l==Value.none)=true then _ else _) _ _ s
  rw[if_neg (by show ¬(false=true);decide)]
  show wpAny (model prog w) _ (field (.ref i) 1 >>= _) _ _ s
  refine wpAny_bind (wpAny_field ho hd (x:=Value.int k 0) rfl ?_)
  show wpAny (model prog w) _ (seqItems? (.ref l) >>= _) _ _ s
  refine wpAny_bind (wpAny_seqItems hot hdt ?_)
  simp only[Int.toNat_natCast,hv]
  refine wpAny_bind (wpAny_setField ho hd (by simp) (wpAny_pure ⟨x,rfl,wpAny_pure ?_⟩))
  have sb:=Heap.SameBut.update s.heap i (·.mapFields (·.set! 1 (rawInt ((k:Int)+1))))
  refine q _ ⟨⟨_,Heap.get?_update_self _ ho (Obj.isFreed_of_fields (Obj.data_mapFields hd _)),(Obj.cls_mapFields ..).trans hc,?_⟩,⟨ot,?_,hct,nt,hdt⟩⟩ (Heap.SameBut.update ..)
  ·rw[Obj.data_mapFields hd];simp[rawInt]
  ·rw[(Heap.SameBut.update ..).2 l hil];exact hot
 ·obtain ⟨hit,ht⟩:=hS
  obtain ⟨o,ho,hc,hd⟩:=id hit
  obtain ⟨ot,hot,hct,nt,hdt⟩:=id ht
  unfold Builtin.SmallTypes.nextOf
  refine wpAny_bind (wpAny_callSpecial?_slot (name:=Str.ofString "__next__") hit.typeIs PySem.F.slot_tuple_iterator_next (wpAny_call_entry PySem.F.slot_tuple_iterator_next hit.typeIs PySem.F.entry_tuple_iterator_next ?_ (PySem.F.args_tuple_iterator_next_1 _)))
  show wpAny (model prog w) _ (field (.ref i) 0 >>= _) _ _ s
  refine wpAny_bind (wpAny_field ho hd (x:=Value.ref l) rfl ?_)
  show wpAny (model prog w) _ (if (Value.ref l==Value.none)=true then _ else _) _ _ s
  rw[if_neg (by show ¬(false=true);decide)]
  show wpAny (model prog w) _ (field (.ref i) 1 >>= _) _ _ s
  refine wpAny_bind (wpAny_field ho hd (x:=Value.int k 0) rfl ?_)
  show wpAny (model prog w) _ (seqItems? (.ref l) >>= _) _ _ s
  refine wpAny_bind (wpAny_seqItems hot hdt ?_)
  simp only[Int.toNat_natCast,hv]
  refine wpAny_bind (wpAny_rule (wpAny_bind (wpAny_setField ho hd (by simp) ?_)))
  show wpAny (model prog w) _ (newExc (.type "StopIteration") [] >>= _) _ _ _
  refine wpAny_bind ?_
  simp only[newExc,newTuple]
  refine wpAny_bind (wpAny_newObj_type ?_ (by size_fits))
  refine wpAny_bind (m:=firstArgMember _ _) (wpAny_of_eq (a:=Value.none) (by first|rfl|(simp only[firstArgMember];rfl)) ?_)
  refine wpAny_newObj_type ?_ (by size_fits)
  simp only[raiseNew]
  refine wpAny_bind (wpAny_handled ?_)
  first|rw[show A.in1.handled=none from hh]|rw[hh]
  refine wpAny_bind (wpAny_pure (wpAny_throw ?_))
  exact q _ _ (((Heap.SameBut.update ..).extBut.push _).push _) ⟨_,Heap.get?_push_size _ rfl,rfl⟩
 ·obtain ⟨o,ho,nA⟩:=hS.2
  exact ⟨o,h2 o ho,nA⟩
variable {A:Around} {E:Value→Shared→Prop} {s:Shared} {z TI TO i1 i2 l1 l2:Addr} {S1 S2:Nat→Heap→Prop} {v1 v2:Nat→Option Value}
structure qP (z TI TO i1 i2:Addr)(S1 S2:Nat→Heap→Prop)(k:Nat)(h:Heap):Prop where
 zip:IsZip h z TI TO .none
 its:IsPair h TI (.ref i1) (.ref i2)
 out:∃ a b,IsPair h TO a b
 one:S1 k h
 two:S2 k h
theorem xn (R1:Src prog w i1 l1 S1 v1)(R2:Src prog w i2 l2 S2 v2)(D:ZipApart z TI TO i1 i2 l1 l2){k:Nat}{x y:Value}{Q:Value→Shared→Prop}(Z:qP z TI TO i1 i2 S1 S2 k s.heap)(hx:v1 k=some x)(hy:v2 k=some y)
  (q:∀ g,IsZip g z TI TO (rawInt s.heap.objs.size)→IsPair g TI (.ref i1) (.ref i2)→IsPair g TO x y→S1 (k+1) g→S2 (k+1) g→IsPair g s.heap.objs.size x y→g.objs.size=s.heap.objs.size+1→
   (∀ c o,c≠z→c≠TO→c≠i1→c≠i2→s.heap.get? c=some o→g.get? c=some o)→Q (.ref s.heap.objs.size) {s with heap:=g}):
  wpAny (model prog w) A (Builtin.«zip.__next__» ⟨[.ref z],[]⟩) (fun fin s'=>∃ v,fin=.done (.ret v)∧Q v s') E s:=by
 obtain ⟨hz,hI,⟨a,b,hO⟩,h1,h2⟩:=Z
 show wpAny (model prog w) A (field (.ref z) 2 >>= _) _ _ s
 refine wpAny_bind (wpAny_field hz rfl (x:=Value.bool false) rfl ?_)
 show wpAny (model prog w) A (field (.ref z) 3 >>= _) _ _ s
 refine wpAny_bind (wpAny_field hz rfl (x:=Value.ref TI) rfl (wpAny_bind (wpAny_seqItems hI rfl ?_)))
 show wpAny (model prog w) A (Builtin.SmallTypes.ownedTupleIsFree (.ref z) >>= _) _ _ s
 refine wpAny_bind ?_
 unfold Builtin.SmallTypes.ownedTupleIsFree
 refine wpAny_bind (wpAny_field hz rfl (x:=Value.none) rfl (wpAny_pure ?_))
 simp only[if_true]
 refine wpAny_bind (wpAny_rule (wpAny_bind (wpAny_field hz rfl (x:=Value.ref TO) rfl (wpAny_bind (wpAny_setField_rec hz (by simp) fun g1 z1 b1=>?_)))))
 replace z1:IsZip g1 z TI TO .ellipsis:=z1
 refine wpAny_bind ?_
 simp only[zipIdx_cons,zipIdx_nil,forIn_cons,forIn_nil]
 refine wpAny_bind (wpAny_bind (wpAny_onRaise ?_))
 show wpAny (model prog w) A (Builtin.SmallTypes.nextOf (.ref i1) >>= _) _ _ _
 have s11:S1 k g1:=R1.keep k _ _ h1 (fun o e=>(b1.2 _ D.i1z).trans e) (fun o e=>(b1.2 _ D.l1z).trans e)
 refine wpAny_bind (R1.item _ _ _ _ k x s11 hx fun g2 s12 b2=>wpAny_pure ?_)
 have o2:IsPair g2 TO a b:=(b2.2 _ D.TOi1).trans ((b1.2 _ D.TOz).trans hO)
 refine wpAny_bind (wpAny_seqItems o2 rfl (wpAny_bind (wpAny_updateSeq_pair o2 fun g3 o3 b3=>?_)))
 replace o3:IsPair g3 TO x b:=o3
 refine wpAny_bind (wpAny_letGo (wpAny_pure ?_))
 refine wpAny_bind (wpAny_bind (wpAny_onRaise ?_))
 show wpAny (model prog w) A (Builtin.SmallTypes.nextOf (.ref i2) >>= _) _ _ _
 have s23:S2 k g3:=R2.keep k _ _ h2 (fun o e=>(b3.2 _ D.TOi2.symm).trans ((b2.2 _ D.i12.symm).trans ((b1.2 _ D.i2z).trans e))) (fun o e=>(b3.2 _ D.l2TO).trans ((b2.2 _ D.l2i1).trans ((b1.2 _ D.l2z).trans e)))
 refine wpAny_bind (R2.item _ _ _ _ k y s23 hy fun g4 s24 b4=>wpAny_pure ?_)
 have o4:IsPair g4 TO x b:=(b4.2 _ D.TOi2).trans o3
 refine wpAny_bind (wpAny_seqItems o4 rfl (wpAny_bind (wpAny_updateSeq_pair o4 fun g5 o5 b5=>?_)))
 replace o5:IsPair g5 TO x y:=o5
 refine wpAny_bind (wpAny_letGo (wpAny_pure (wpAny_pure ?_)))
 refine wpAny_bind (wpAny_seqItems o5 rfl (wpAny_bind (wpAny_newTuple ?_)))
 have sz5:g5.objs.size=s.heap.objs.size:=by rw[b5.1,b4.1,b3.1,b2.1,b1.1]
 have z5:IsZip g5 z TI TO .ellipsis:=(b5.2 _ D.TOz.symm).trans ((b4.2 _ D.i2z.symm).trans ((b3.2 _ D.TOz.symm).trans ((b2.2 _ D.i1z.symm).trans z1)))
 have all5:∀ c o,c≠z→c≠TO→c≠i1→c≠i2→s.heap.get? c=some o→g5.get? c=some o:=fun c o c1 c2 c3 c4 e=>(b5.2 _ c2).trans ((b4.2 _ c4).trans ((b3.2 _ c2).trans ((b2.2 _ c3).trans ((b1.2 _ c1).trans e))))
 have t1:S1 (k+1) g5:=R1.keep _ _ _ s12 (fun o e=>(b5.2 _ D.TOi1.symm).trans ((b4.2 _ D.i12).trans ((b3.2 _ D.TOi1.symm).trans e))) (fun o e=>(b5.2 _ D.l1TO).trans ((b4.2 _ D.l1i2).trans ((b3.2 _ D.l1TO).trans e)))
 have t2:S2 (k+1) g5:=R2.keep _ _ _ s24 (fun o e=>(b5.2 _ D.TOi2.symm).trans e) (fun o e=>(b5.2 _ D.l2TO).trans e)
 have zlt:z<g5.objs.size:=Heap.lt_size z5
 show wpAny (model prog w) A (Builtin.SmallTypes.ownedTupleHandOut (.ref z) (.ref g5.objs.size) >>= _) _ _ _
 refine wpAny_bind ?_
 unfold Builtin.SmallTypes.ownedTupleHandOut
 have z6:IsZip (g5.push {cls:=.type "tuple",data:=.seq #[x,y]}) z TI TO .ellipsis:=Heap.get?_push_of_some _ z5
 refine wpAny_bind (wpAny_setField_rec z6 (by simp) fun g7 z7 b7=>?_)
 replace z7:IsZip g7 z TI TO (rawInt g5.objs.size):=z7
 refine wpAny_setField_rec z7 (by simp) fun g8 z8 b8=>?_
 replace z8:IsZip g8 z TI TO (rawInt g5.objs.size):=z8
 have up:∀ c o,c≠z→g5.get? c=some o→g8.get? c=some o:=fun c o c1 e=>(b8.2 _ c1).trans ((b7.2 _ c1).trans (Heap.get?_push_of_some _ e))
 have p8:IsPair g8 g5.objs.size x y:=(b8.2 _ (Nat.ne_of_gt zlt)).trans ((b7.2 _ (Nat.ne_of_gt zlt)).trans (Heap.get?_push_size _ rfl))
 have sz8:g8.objs.size=g5.objs.size+1:=by rw[b8.1,b7.1,Heap.size_push]
 rw[sz5] at z8 p8 sz8
 refine wpAny_pure ⟨_,rfl,?_⟩
 show Q (.ref g5.objs.size) _
 rw[sz5]
 refine q g8 z8 (up _ _ D.TIz (all5 _ _ D.TIz D.TITO D.TIi1 D.TIi2 hI)) (up _ _ D.TOz o5) ?_ ?_ p8 sz8 fun c o c1 c2 c3 c4 e=>up c o c1 (all5 c o c1 c2 c3 c4 e)
 ·exact R1.keep _ _ _ t1 (fun o e=>up _ _ D.i1z e) (fun o e=>up _ _ D.l1z e)
 ·exact R2.keep _ _ _ t2 (fun o e=>up _ _ D.i2z e) (fun o e=>up _ _ D.l2z e)
theorem xk (R1:Src prog w i1 l1 S1 v1)(R2:Src prog w i2 l2 S2 v2)(hh:A.handled=none)(D:ZipApart z TI TO i1 i2 l1 l2){k:Nat}{Q:Fin→Shared→Prop}(Z:qP z TI TO i1 i2 S1 S2 k s.heap)(hend:v1 k=none∨v2 k=none)
  (q:∀ g e,(∀ c o,c≠z→c≠TO→c≠i1→c≠i2→s.heap.get? c=some o→g.get? c=some o)→(∃ o,g.get? e=some o∧o.cls=.type "StopIteration")→E (.ref e) {s with heap:=g}):
  wpAny (model prog w) A (Builtin.«zip.__next__» ⟨[.ref z],[]⟩) Q E s:=by
 obtain ⟨hz,hI,⟨a,b,hO⟩,h1,h2⟩:=Z
 show wpAny (model prog w) A (field (.ref z) 2 >>= _) _ _ s
 refine wpAny_bind (wpAny_field hz rfl (x:=Value.bool false) rfl ?_)
 show wpAny (model prog w) A (field (.ref z) 3 >>= _) _ _ s
 refine wpAny_bind (wpAny_field hz rfl (x:=Value.ref TI) rfl (wpAny_bind (wpAny_seqItems hI rfl ?_)))
 show wpAny (model prog w) A (Builtin.SmallTypes.ownedTupleIsFree (.ref z) >>= _) _ _ s
 refine wpAny_bind ?_
 unfold Builtin.SmallTypes.ownedTupleIsFree
 refine wpAny_bind (wpAny_field hz rfl (x:=Value.none) rfl (wpAny_pure ?_))
 simp only[if_true]
 refine wpAny_bind (wpAny_rule (wpAny_bind (wpAny_field hz rfl (x:=Value.ref TO) rfl (wpAny_bind (wpAny_setField_rec hz (by simp) fun g1 z1 b1=>?_)))))
 replace z1:IsZip g1 z TI TO .ellipsis:=z1
 refine wpAny_bind ?_
 simp only[zipIdx_cons,zipIdx_nil,forIn_cons,forIn_nil]
 refine wpAny_bind (wpAny_bind (wpAny_onRaise ?_))
 show wpAny (model prog w) A (Builtin.SmallTypes.nextOf (.ref i1) >>= _) _ _ _
 have s11:S1 k g1:=R1.keep k _ _ h1 (fun o e=>(b1.2 _ D.i1z).trans e) (fun o e=>(b1.2 _ D.l1z).trans e)
 cases hx:v1 k with
 | none=>
  refine wpAny_bind (R1.stop _ _ _ _ k hh s11 hx fun g2 e x2 he=>?_)
  obtain ⟨oe,hoe,hce⟩:=he
  have z2:IsZip g2 z TI TO .ellipsis:=x2 _ _ D.i1z.symm z1
  have hez:e≠z:=fun t=>by
   rw[t,z2] at hoe
   cases hoe
   simp at hce
  exact wpAny_setField_rec z2 (by simp) fun g3 _ b3=>q g3 e (fun c o c1 _ c3 _ t=>(b3.2 _ c1).trans (x2 _ _ c3 ((b1.2 _ c1).trans t))) ⟨oe,(b3.2 _ hez).trans hoe,hce⟩
 | some x=>
  have hy:v2 k=none:=by
   rcases hend with t|t
   ·rw[hx] at t;cases t
   ·exact t
  refine wpAny_bind (R1.item _ _ _ _ k x s11 hx fun g2 s12 b2=>wpAny_pure ?_)
  have o2:IsPair g2 TO a b:=(b2.2 _ D.TOi1).trans ((b1.2 _ D.TOz).trans hO)
  refine wpAny_bind (wpAny_seqItems o2 rfl (wpAny_bind (wpAny_updateSeq_pair o2 fun g3 o3 b3=>?_)))
  refine wpAny_bind (wpAny_letGo (wpAny_pure ?_))
  refine wpAny_bind (wpAny_bind (wpAny_onRaise ?_))
  show wpAny (model prog w) A (Builtin.SmallTypes.nextOf (.ref i2) >>= _) _ _ _
  have s23:S2 k g3:=R2.keep k _ _ h2 (fun o e=>(b3.2 _ D.TOi2.symm).trans ((b2.2 _ D.i12.symm).trans ((b1.2 _ D.i2z).trans e))) (fun o e=>(b3.2 _ D.l2TO).trans ((b2.2 _ D.l2i1).trans ((b1.2 _ D.l2z).trans e)))
  refine wpAny_bind (R2.stop _ _ _ _ k hh s23 hy fun g4 e x4 he=>?_)
  obtain ⟨oe,hoe,hce⟩:=he
  have z4:IsZip g4 z TI TO .ellipsis:=x4 _ _ D.i2z.symm ((b3.2 _ D.TOz.symm).trans ((b2.2 _ D.i1z.symm).trans z1))
  have hez:e≠z:=fun t=>by
   rw[t,z4] at hoe
   cases hoe
   simp at hce
  exact wpAny_setField_rec z4 (by simp) fun g5 _ b5=>q g5 e (fun c o c1 c2 c3 c4 t=>(b5.2 _ c1).trans (x4 _ _ c4 ((b3.2 _ c2).trans ((b2.2 _ c3).trans ((b1.2 _ c1).trans t))))) ⟨oe,(b5.2 _ hez).trans hoe,hce⟩
end
theorem vW {prog:Program}{w:World}{A:Around}{E:Value→Shared→Prop}{s:Shared}{z TI TO i1 i2 l1 l2:Addr}{S1 S2:Nat→Heap→Prop}{v1 v2:Nat→Option Value}(R1:Src prog w i1 l1 S1 v1)(R2:Src prog w i2 l2 S2 v2)(D:ZipApart z TI TO i1 i2 l1 l2){k:Nat}{x y:Value}{Q:Option Value→Shared→Prop}(Z:qP z TI TO i1 i2 S1 S2 k s.heap)(hx:v1 k=some x)(hy:v2 k=some y)
  (q:∀ g,IsZip g z TI TO (rawInt s.heap.objs.size)→IsPair g TI (.ref i1) (.ref i2)→IsPair g TO x y→S1 (k+1) g→S2 (k+1) g→IsPair g s.heap.objs.size x y→g.objs.size=s.heap.objs.size+1→
   (∀ c o,c≠z→c≠TO→c≠i1→c≠i2→s.heap.get? c=some o→g.get? c=some o)→Q (some (.ref s.heap.objs.size)) {s with heap:=g}):
  wpAny (model prog w) A (pyNext (.ref z)) Q E s:=by
 have ty:s.TypeIs (.ref z) "zip":=⟨_,Z.zip,rfl⟩
 unfold pyNext
 refine wpAny_bind (wpAny_attempt (wpAny_callSpecial?_slot (name:=Str.ofString "__next__") ty PySem.F.slot_zip_next (wpAny_call_entry PySem.F.slot_zip_next ty PySem.F.entry_zip_next ?_ (PySem.F.args_zip_next_1 _))))
 exact xn R1 R2 D Z hx hy fun g a1 a2 a3 a4 a5 a6 a7 a8=>wpAny_pure (q g a1 a2 a3 a4 a5 a6 a7 a8)
theorem vV {prog:Program}{w:World}{A:Around}{E:Value→Shared→Prop}{s:Shared}{z TI TO i1 i2 l1 l2:Addr}{S1 S2:Nat→Heap→Prop}{v1 v2:Nat→Option Value}(R1:Src prog w i1 l1 S1 v1)(R2:Src prog w i2 l2 S2 v2)(hh:A.handled=none)(D:ZipApart z TI TO i1 i2 l1 l2){k:Nat}{Q:Option Value→Shared→Prop}(Z:qP z TI TO i1 i2 S1 S2 k s.heap)(hend:v1 k=none∨v2 k=none)
  (q:∀ g,(∀ c o,c≠z→c≠TO→c≠i1→c≠i2→s.heap.get? c=some o→g.get? c=some o)→Q none {s with heap:=g}):wpAny (model prog w) A (pyNext (.ref z)) Q E s:=by
 have ty:s.TypeIs (.ref z) "zip":=⟨_,Z.zip,rfl⟩
 unfold pyNext
 refine wpAny_bind (wpAny_attempt (wpAny_callSpecial?_slot (name:=Str.ofString "__next__") ty PySem.F.slot_zip_next (wpAny_call_entry PySem.F.slot_zip_next ty PySem.F.entry_zip_next (xk (A:=A.in1) R1 R2 (show A.in1.handled=none from hh) D Z hend fun g e hk he=>?_) (PySem.F.args_zip_next_1 _))))
 obtain ⟨o,ho,hc⟩:=he
 exact wpAny_bind (wpAny_isInstance (T:="StopIteration") (b:=true) ⟨o,ho,hc⟩ isSubtype_stop (wpAny_pure (q _ hk)))
def ItZ (K:Frag)(a b:Addr):It:=
 ⟨fun i H=>∃ (xs ys:List V) (x y:V),SqT K H a xs∧SqL K H b ys∧xs[i]?=some x∧ys[i]?=some y,
  fun i H v H'=>∃ T x y,v=.ref T∧H T=none∧H'=upd H T (.tup [x,y])∧(∀ xs,SqT K H a xs→xs[i]?=some x)∧∀ ys,SqL K H b ys→ys[i]?=some y,
  fun i H=>∃ xs ys:List V,SqT K H a xs∧SqL K H b ys∧(xs.length≤i∨ys.length≤i)⟩
theorem sr {P:Program}{w:World}{K:Frag}{elts:List Expr}{kk:Nat}{tpos:Pos}{a b z TI TO i1 i2:Addr}(D:ZipApart z TI TO i1 i2 a b):
  L2.Turn P w K (.Tuple elts kk tpos) (ItZ K a b) [z,TI,TO,i1,i2] z (qP z TI TO i1 i2 (fun k h=>h.IsTupleIter i1 a k) (fun k h=>h.IsListIter i2 b k)) where
 mem:=by simp
 obj:=fun i h st c hc=>by
  obtain ⟨x,y,hTO⟩:=st.out
  obtain ⟨o1,e1,_,d1⟩:=st.one
  obtain ⟨o2,e2,_,d2⟩:=st.two
  have e':c=z∨c=TI∨c=TO∨c=i1∨c=i2:=by simpa using hc
  rcases e' with q|q|q|q|q <;> rw[q]
  ·exact ⟨_,st.zip,fun v q=>nomatch q⟩
  ·exact ⟨_,st.its,fun v q=>nomatch q⟩
  ·exact ⟨_,hTO,fun v q=>nomatch q⟩
  ·exact ⟨o1,e1,fun v q=>by rw[d1] at q;cases q⟩
  ·exact ⟨o2,e2,fun v q=>by rw[d2] at q;cases q⟩
 keep:=fun i h h' st k=>by
  obtain ⟨x,y,hTO⟩:=st.out
  exact ⟨k z (by simp) _ st.zip,k TI (by simp) _ st.its,⟨x,y,k TO (by simp) _ hTO⟩,st.one.at fun o q=>k i1 (by simp) o q,st.two.at fun o q=>k i2 (by simp) o q⟩
 item:=by
  intro X hP hw hK hc i pins s σ H E I hf st hg
  subst hP hw hK
  obtain ⟨xs,ys,x,y,hqx,hqy,hx,hy⟩:=hg
  obtain ⟨its,rv,p,_⟩:=I.tuple hqx
  obtain ⟨its2,rv2,p2,_⟩:=I.list hqy
  obtain ⟨u,hu,ru⟩:=rv.get hx
  obtain ⟨u2,hu2,ru2⟩:=rv2.get hy
  have hzl:z<s.heap.objs.size:=Heap.lt_size st.zip
  have sz:qP z TI TO i1 i2 (fun k h=>h.IsTupleIter i1 a k∧h.IsTuple a its.toArray) (fun k h=>h.IsListIter i2 b k∧h.IsList b its2.toArray) i s.heap:=⟨st.zip,st.its,st.out,⟨st.one,p⟩,⟨st.two,p2.isList⟩⟩
  refine vW nM qX D sz (x:=u) (y:=u2) (by simpa using hu) (by simpa using hu2) fun g zz zi zo z1 z2 zT zs hk=>?_
  refine ⟨_,rfl,wpAny_letOwnedTupleGo_zip (s:={s with heap:=g}) zz fun g2 zz2 sb=>?_⟩
  have hT2:g2.get? s.heap.objs.size=some {cls:=.type "tuple",data:=.seq #[u,u2]}:=(sb.2 _ (Nat.ne_of_gt hzl)).trans zT
  have new:df X.prog X.w (upd H s.heap.objs.size (.tup [x,y])) g2 s.heap.objs.size (.tup [x,y]):=
   ⟨by show 2≤sizeLine;decide,[u,u2],.cons ru (.cons ru2 .nil),⟨_,hT2,rfl,_,rfl⟩⟩
  have I1:L2.Inv X pins σ (upd H s.heap.objs.size (.tup [x,y])) {s with heap:=g2}:=
   I.turnedNew (t':=s.toks) (ch:=[z,TI,TO,i1,i2]) (fun c o hb e=>(sb.2 c (fun t=>hb (by simp[t]))).trans (hk c o (fun t=>hb (by simp[t])) (fun t=>hb (by simp[t])) (fun t=>hb (by simp[t])) (fun t=>hb (by simp[t])) e)) hf (Nat.le_refl _) new
  refine ⟨.ref s.heap.objs.size,_,I1,rfl,⟨_,x,y,rfl,I.hok.fresh (Nat.le_refl _),rfl,fun l hl=>by rw[I.tuple_inj hl hqx];exact hx,fun l hl=>by rw[I.list_inj hl hqy];exact hy⟩,⟨zz2,(sb.2 _ D.TIz).trans zi,⟨u,u2,(sb.2 _ D.TOz).trans zo⟩,z1.1.at fun o e=>(sb.2 _ D.i1z).trans e,z2.1.at fun o e=>(sb.2 _ D.i2z).trans e⟩,fun c hcm=>?_⟩
  have hlt:c<s.heap.objs.size:=by
   obtain ⟨x0,y0,hTO⟩:=st.out
   have e':c=z∨c=TI∨c=TO∨c=i1∨c=i2:=by simpa using hcm
   rcases e' with t|t|t|t|t <;> rw[t]
   ·exact hzl
   ·exact Heap.lt_size st.its
   ·exact Heap.lt_size hTO
   ·obtain ⟨_,e1,_⟩:=st.one;exact Heap.lt_size e1
   ·obtain ⟨_,e2,_⟩:=st.two;exact Heap.lt_size e2
  rw[ai (Nat.ne_of_lt hlt)]
  exact (hf c hcm).1
 done:=by
  intro X hP hw hK hc i pins s σ H E I hf st hg
  subst hP hw hK
  obtain ⟨xs,ys,hqx,hqy,hend⟩:=hg
  obtain ⟨its,rv,p,_⟩:=I.tuple hqx
  obtain ⟨its2,rv2,p2,_⟩:=I.list hqy
  have l1:=rv.length
  have l2:=rv2.length
  have sz:qP z TI TO i1 i2 (fun k h=>h.IsTupleIter i1 a k∧h.IsTuple a its.toArray) (fun k h=>h.IsListIter i2 b k∧h.IsList b its2.toArray) i s.heap:=⟨st.zip,st.its,st.out,⟨st.one,p⟩,⟨st.two,p2.isList⟩⟩
  have he:its.toArray[i]?=none∨its2.toArray[i]?=none:=by
   rcases hend with q|q
   ·exact .inl (by simp;omega)
   ·exact .inr (by simp;omega)
  exact vV nM qX (I.ok.hd hc) D sz he fun g hk=>⟨rfl,I.turnedL (t':=s.toks) (ch:=[z,TI,TO,i1,i2]) (fun c o hb e=>hk c o (fun t=>hb (by simp[t])) (fun t=>hb (by simp[t])) (fun t=>hb (by simp[t])) (fun t=>hb (by simp[t])) e) hf⟩
 self:=fun A i s Q E st h=>wpAny_pyIter_zip st.zip h
abbrev nI (a:Addr):Obj:={cls:=.type "tuple_iterator",data:=.fields #[.ref a,.int 0 0]}
abbrev Bw (b:Addr):Obj:={cls:=.type "list_iterator",data:=.fields #[.ref b,.int 0 0]}
abbrev rq (x y:Value):Obj:={cls:=.type "tuple",data:=.seq #[x,y]}
abbrev hp2 (h:Heap)(a b:Addr):Heap:=(h.push (nI a)).push (Bw b)
abbrev hp3 (h:Heap)(a b:Addr):Heap:=(hp2 h a b).push (rq (.ref h.objs.size) (.ref (h.push (nI a)).objs.size))
abbrev hp4 (h:Heap)(a b:Addr):Heap:=(hp3 h a b).push (rq .none .none)
abbrev hp5 (h:Heap)(a b:Addr):Heap:=(hp4 h a b).push {cls:=.type "zip",data:=.fields #[.none,.bool false,.bool false,.ref (hp2 h a b).objs.size,.ref (hp3 h a b).objs.size]}
theorem xl (a b:Addr)(xs ys:Array Value):
  Meets (Builtin.«zip.__new__» ⟨[.type "zip",.ref a,.ref b],[]⟩) (fun _ R s=>s.heap.IsTuple a xs∧s.heap.IsList b ys∧R (.ok (.ret (.ref (hp4 s.heap a b).objs.size))) {s with heap:=hp5 s.heap a b}):=
 .of_wp fun prog w A R s h=>by
  obtain ⟨hp,g,d,tk,os⟩:=s
  obtain ⟨ha,hb,h⟩:=h
  have hsub:=sub_zip
  have hA:Heap.IsTuple (Shared.heap ⟨hp,g,d,tk,os⟩) a xs:=ha
  have hB:Heap.IsList (Shared.heap ⟨hp.push (nI a),g,d,tk,os⟩) b ys:=Heap.IsList.push hb _
  wp_walk using wpAny_pyIter_tuple hA,wpAny_pyIter_list hB
  exact ⟨_,rfl,h⟩
theorem tO {prog:Program}{w:World}{A:Around}{E:Value→Shared→Prop}{s:Shared}{a b:Addr}{xs ys:Array Value}{Q:Value→Shared→Prop}(ha:s.heap.IsTuple a xs)(hb:s.heap.IsList b ys)
  (h:∀ g,IsZip g (s.heap.objs.size+4) (s.heap.objs.size+2) (s.heap.objs.size+3) .none→IsPair g (s.heap.objs.size+2) (.ref s.heap.objs.size) (.ref (s.heap.objs.size+1))→IsPair g (s.heap.objs.size+3) .none .none→
   g.IsTupleIter s.heap.objs.size a 0→g.IsListIter (s.heap.objs.size+1) b 0→(∀ c o,s.heap.get? c=some o→g.get? c=some o)→Q (.ref (s.heap.objs.size+4)) {s with heap:=g}):
  wpAny (model prog w) A (call (.type "zip") [.ref a,.ref b]) Q E s:=by
 refine callType_new PySem.F.called_zip (by decide) (PySem.F.typeCall_zip_2 _ _) (PySem.F.newCall_zip_2 _ _) (fun obj=>PySem.F.args_object_init_3 obj _ _) PySem.F.entry_zip_new (xl a b xs ys) ⟨ha,hb,?_⟩
 have z1:(s.heap.push (nI a)).objs.size=s.heap.objs.size+1:=Heap.size_push ..
 have z2:(hp2 s.heap a b).objs.size=s.heap.objs.size+2:=by rw[Heap.size_push,z1]
 have z3:(hp3 s.heap a b).objs.size=s.heap.objs.size+3:=by rw[Heap.size_push,z2]
 have z4:(hp4 s.heap a b).objs.size=s.heap.objs.size+4:=by rw[Heap.size_push,z3]
 have k1:∀ c o,(hp4 s.heap a b).get? c=some o→(hp5 s.heap a b).get? c=some o:=fun c o e=>Heap.get?_push_of_some _ e
 have k2:∀ c o,(hp3 s.heap a b).get? c=some o→(hp5 s.heap a b).get? c=some o:=fun c o e=>k1 c o (Heap.get?_push_of_some _ e)
 have k3:∀ c o,(hp2 s.heap a b).get? c=some o→(hp5 s.heap a b).get? c=some o:=fun c o e=>k2 c o (Heap.get?_push_of_some _ e)
 have k4:∀ c o,(s.heap.push (nI a)).get? c=some o→(hp5 s.heap a b).get? c=some o:=fun c o e=>k3 c o (Heap.get?_push_of_some _ e)
 have k5:∀ c o,s.heap.get? c=some o→(hp5 s.heap a b).get? c=some o:=fun c o e=>k4 c o (Heap.get?_push_of_some _ e)
 have g5:(hp5 s.heap a b).get? (hp4 s.heap a b).objs.size=some _:=Heap.get?_push_size _ rfl
 have g4:=k1 _ _ (Heap.get?_push_size (hp3 s.heap a b) (o:=rq .none .none) rfl)
 have g3:=k2 _ _ (Heap.get?_push_size (hp2 s.heap a b) (o:=rq (.ref s.heap.objs.size) (.ref (s.heap.push (nI a)).objs.size)) rfl)
 have g2:=k3 _ _ (Heap.get?_push_size (s.heap.push (nI a)) (o:=Bw b) rfl)
 have g1:=k4 _ _ (Heap.get?_push_size s.heap (o:=nI a) rfl)
 show _∧_
 rw[z2,z3,z4] at g5
 rw[z3] at g4
 rw[z1,z2] at g3
 rw[z1] at g2
 rw[z4]
 exact ⟨⟨_,g5,rfl⟩,h _ g5 g3 g4 ⟨_,g1,rfl,rfl⟩ ⟨_,g2,rfl,rfl⟩ k5⟩
def BE (K:Frag)(ta:TA):TI:=fun σ H R=>ta σ H fun vs H1=>∃ a b xs ys,vs=[.ref a,.ref b]∧SqT K H1 a xs∧SqL K H1 b ys∧R (ItZ K a b) H1
theorem yL:bootBuiltins "zip"=some (.type "zip"):=by decide +kernel
theorem xI {X:Cx}{e e2:Expr}{ta:TA}{p pos tpos:Pos}{elts:List Expr}{kk:Nat}(hg:Gl X "zip")(hm:X.mg "zip"=none)(ha:PA X [e,e2] ta)
  (hs:starEach [e,e2] X.env=(false,eval e X.env)::starEach [e2] X.env:=by rfl)(hpl:(backTo pos (starEach [e2] X.env)).any (·.1)=false:=by rfl):
  PI X (.Tuple elts kk tpos) (.Call (.Name "zip" p) [e,e2] [] pos) (BE X.K ta):=by
 intro pins s σ H R I h
 refine Call_ (iK I hg hm yL (PyProof.Rows.callWith_type1 (thn (ha pos pins s σ H _ I h) fun us s1 ⟨vs,H1,I1,r1,q1⟩=>?_) hs hpl))
 obtain ⟨a,b,xs,ys,ex,hqx,hqy,q⟩:=q1
 subst ex
 obtain ⟨u,u2,rfl,ra,rb⟩:=zl r1
 cases ra
 cases rb
 obtain ⟨its,rv,p1,_⟩:=I1.tuple hqx
 obtain ⟨its2,rv2,p2,_⟩:=I1.list hqy
 have la:a<s1.heap.objs.size:=by obtain ⟨o,ho,_⟩:=p1;exact Heap.lt_size ho
 have lb:b<s1.heap.objs.size:=p2.lt
 refine tO (show s1.heap.IsTuple a its.toArray from p1) p2.isList fun g hz hTI hTO h1 h2 hk=>wpAny_pyIter_zip hz ?_
 have I2:L2.Inv X pins σ H1 {s1 with heap:=g}:=I1.kept (t':=s1.toks) hk
 refine ⟨s1.heap.objs.size+4,[s1.heap.objs.size+4,s1.heap.objs.size+2,s1.heap.objs.size+3,s1.heap.objs.size,s1.heap.objs.size+1],_,_,H1,rfl,I2,sr (PySem.W.ktu_apart s1.heap.objs.size a b la lb),⟨hz,hTI,⟨_,_,hTO⟩,h1,h2⟩,fun c hcm=>?_,q⟩
 have e':c=s1.heap.objs.size+4∨c=s1.heap.objs.size+2∨c=s1.heap.objs.size+3∨c=s1.heap.objs.size∨c=s1.heap.objs.size+1:=by simpa using hcm
 have hle:s1.heap.objs.size≤c:=by
  rcases e' with t|t|t|t|t <;> rw[t] <;> first|exact Nat.le_add_right _ _|exact Nat.le_refl _
 exact I1.fpOk hle (I1.hok.fresh hle)
theorem wF {K:Frag}{a b:Addr}{xs ys:List V}{p q:Nat}{tb:TS}{D:xj}{σ:L2.St}{H:Hp}(hxy:xs.length=ys.length)(Pv:Nat→L2.St→Hp→Prop)(h0:Pv 0 σ H)(hl:∀ i σ H,i≤xs.length→Pv i σ H→SqT K H a xs∧SqL K H b ys)
  (hs:∀ (i:Nat) x y σ H T,xs[i]?=some x→ys[i]?=some y→Pv i σ H→H T=none→tb {D with nx:=Pv (i+1),ct:=Pv (i+1),bk:=D.nx} ((σ.set p (some x)).set q (some y)) (upd H T (.tup [x,y])))(hd:∀ σ H,Pv xs.length σ H→D.nx σ H):
  ∃ W:Nat→Nat→L2.St→Hp→Prop,(∃ m,W 0 m σ H)∧∀ i m σ H,W i m σ H→
   ((ItZ K a b).stop i H∧D.nx σ H)∨((ItZ K a b).go i H∧∃ N:L2.St→Hp→Prop,(∀ σ' H',N σ' H'→∃ m',m'<m∧W (i+1) m' σ' H')∧∀ x H',(ItZ K a b).yld i H x H'→gTup K 2 (wE (oB p) (wE (oB q) gNil)) x σ H' fun σ2 H2=>tb {D with nx:=N,ct:=N,bk:=D.nx} σ2 H2):=by
 refine ⟨fun i m σ H=>m=xs.length-i∧i≤xs.length∧Pv i σ H,⟨xs.length,by simp,Nat.zero_le _,h0⟩,?_⟩
 rintro i m σ H ⟨rfl,hi,pv⟩
 obtain ⟨s1,s2⟩:=hl i σ H hi pv
 by_cases hlt:i<xs.length
 ·refine .inr ⟨⟨xs,ys,xs[i],ys[i],s1,s2,by simp[hlt],by simp[←hxy,hlt]⟩,Pv (i+1),fun σ' H' p'=>⟨xs.length-(i+1),by omega,rfl,hlt,p'⟩,fun x H' y=>?_⟩
  obtain ⟨T,u,v,rfl,hT,rfl,hu,hv⟩:=y
  exact ⟨T,_,rfl,SqT.of ae,rfl,_,_,rfl,_,_,rfl,rfl,hs i u v σ H T (hu xs s1) (hv ys s2) pv hT⟩
 ·have e:i=xs.length:=by omega
  subst e
  exact .inl ⟨⟨xs,ys,s1,s2,.inl (Nat.le_refl _)⟩,hd σ H pv⟩
end Bz
namespace Bt
open PySem PySem.Spec PyProof.Rows L2
open PySem.W (Codec)
open Tt (Tab tU TOk aR bS aE IsT)
section
variable {K:Frag} {CG CB:Addr} {H H':Hp}
theorem sqN {M:List Addr}{e:Addr}{xs:List V}(s:aT M H H')(he:e∉M)(h:SqL K H e xs):SqL K H' e xs:=by
 rcases h with (h|⟨ob,h⟩)|h
 ·exact .inl (.inl (s e _ h he))
 ·exact .inl (.inr ⟨ob,s e _ h he⟩)
 ·exact .inr h
theorem bo.keepR {o:Addr}{A M:List Addr}{n:Nat}{gens:List Turn.Row}(h:bo K CG H o A n gens)(s:aT M H H')(hd:∀ b∈A,b∉M)(hr:∀ e,Rf H A e→e∉M):bo K CG H' o A n gens:=by
 obtain ⟨dx,g,t,gs,rs,T,rfl,nd,h1,h2,h3,h4,h5,h6,h7⟩:=h.ex
 refine ⟨⟨dx,g,t,gs,rs,T,rfl,nd,s _ _ h1 (hd _ (by simp)),s _ _ h2 (hd _ (by simp)),s _ _ h3 (hd _ (by simp)),⟨h4.len,fun i e x k1 k2=>?_⟩,⟨s _ _ h5.lst (hd _ (by simp)),h5.len,h5.nd,h5.tn,fun i r hi=>?_⟩,h6,h7⟩,h.isT⟩
 ·exact sqN s (hr e ⟨g,by simp,_,h3,mem_map.mpr ⟨e,mem_of_getElem? k1,rfl⟩⟩) (h4.at_ i e x k1 k2)
 ·obtain ⟨vs,c,k1,k2,k3⟩:=h5.row i r hi
  have hrm:=mem_of_getElem? hi
  refine ⟨vs,c,k1,s _ _ k2 (hd _ (by simp[hrm])),k3.len,fun j v x g1 g2=>?_⟩
  have:=k3.cell j v x g1 g2
  cases x with
  | none=>exact this
  | some x=>
   obtain ⟨e,rfl,z2⟩:=this
   exact ⟨e,rfl,sqN s (hr e ⟨r,by simp[hrm],_,k2,mem_of_getElem? g1⟩) z2⟩
theorem Rf.mono {M N:List Addr}{e:Addr}(h:Rf H M e)(hs:∀ m∈M,m∈N):Rf H N e:=by
 obtain ⟨m,hm,r⟩:=h
 exact ⟨m,hs m hm,r⟩
theorem aK.keepR {b:Addr}{foot M:List Addr}{st:State}(h:aK K CG CB H b foot st)(s:aT M H H')(hd:∀ a∈foot,a∉M)(hr:∀ e,Rf H foot e→e∉M):aK K CG CB H' b foot st:=by
 obtain ⟨dx,L,os,As,rfl,nd,h1,h2,h3,hG⟩:=h.ex
 refine ⟨⟨dx,L,os,As,rfl,nd,s _ _ h1 (hd _ (by simp)),s _ _ h2 (hd _ (by simp)),s _ _ h3 (hd _ (by simp)),⟨hG.l1,hG.l2,fun i o A gens k1 k2 k3=>?_,hG.nd⟩⟩,h.pos,h.le,h.four⟩
 have q:=hG.at_ i o A gens k1 k2 k3
 have sub:∀ a∈A,a∈b::dx::L::As.flatten:=fun a ha=>by
  have:a∈As.flatten:=mem_flatten.mpr ⟨A,mem_of_getElem? k2,ha⟩
  simp[this]
 exact ⟨q.1.keepR s (fun a ha=>hd a (sub a ha)) (fun e he=>hr e (he.mono sub)),q.2⟩
theorem aK.same {b:Addr}{foot:List Addr}{st:State}(h:aK K CG CB H b foot st)(s:az H H'):aK K CG CB H' b foot st:=
 h.keepR (M:=[]) (fun b o e _=>s b o e) (fun _ _ q=>by cases q) (fun _ _ q=>by cases q)
theorem aK.tracked {b:Addr}{foot:List Addr}{st:State}(h:aK K CG CB H b foot st):∀ a∈foot,H a≠none:=by
 obtain ⟨dx,L,os,As,rfl,nd,h1,h2,h3,hG⟩:=h.ex
 intro a ha z
 rcases Mc ha with rfl|ha
 ·rw[h1] at z;cases z
 rcases Mc ha with rfl|ha
 ·rw[h2] at z;cases z
 rcases Mc ha with rfl|ha
 ·rw[h3] at z;cases z
 ·exact hG.apart.2 a ha z
end
theorem aK.notFrz {K:Frag}{CG CB:Addr}{H:Hp}{b:Addr}{foot:List Addr}{st:State}(h:aK K CG CB H b foot st):∀ a∈foot,∀ ob u,H a≠some (.frz ob u):=by
 obtain ⟨dx,L,os,As,rfl,nd,h1,h2,h3,hG⟩:=h.ex
 intro a ha ob u z
 rcases Mc ha with rfl|ha
 ·rw[h1] at z;cases z
 rcases Mc ha with rfl|ha
 ·rw[h2] at z;cases z
 rcases Mc ha with rfl|ha
 ·rw[h3] at z;cases z
 ·exact (hG.apart.1 a ha _ z).2 ob u rfl
def iP (K:Frag)(H:Hp)(a:Addr)(xs:List V):Prop:=(∃ ob,H a=some (.frz ob (.lst xs)))∨SqL K (fun _=>none) a xs
theorem iP.sq {K:Frag}{H:Hp}{a:Addr}{xs:List V}(h:iP K H a xs):SqL K H a xs:=by
 rcases h with ⟨ob,h⟩|(h|⟨ob,h⟩)|h
 ·exact .inl (.inr ⟨ob,h⟩)
 ·cases h
 ·cases h
 ·exact .inr h
theorem iP.keep {K:Frag}{H H':Hp}{a:Addr}{xs:List V}(h:iP K H a xs)(s:∀ ob,H a=some (.frz ob (.lst xs))→H' a=some (.frz ob (.lst xs))):iP K H' a xs:=by
 rcases h with ⟨ob,h⟩|h
 ·exact .inl ⟨ob,s ob h⟩
 ·exact .inr h
theorem iP.same {K:Frag}{H H':Hp}{a:Addr}{xs:List V}(h:iP K H a xs)(s:az H H'):iP K H' a xs:=h.keep fun ob e=>s _ _ e
def nz (l:List Int):List Nat:=l.map Int.toNat
theorem nz_iv {l:List Int}(h:∀ z∈l,0≤z):iv (nz l)=l.map V.int:=by
 unfold iv nz
 rw[map_map]
 refine map_congr_left fun z hz=>?_
 show V.int ((z.toNat:Nat):Int)=V.int z
 rw[Int.toNat_of_nonneg (h z hz)]
def fX (K:Frag)(CG CB:Addr)(H:Hp)(Q:VK)(b:Addr)(foot args:List Addr)(s:State)(c:List (List Int)):Prop:=
 ∀ (H':Hp) (p:Addr) (foot':List Addr),(TuNeutral.step s c).2.length≤2000→H p=none→p∉foot'→H' p=some (.lst ((TuNeutral.step s c).2.map V.int))→aK K CG CB H' b foot' (TuNeutral.step s c).1→(∀ a∈foot',a∈foot∨H a=none)→
  (∀ e,Rf H' foot' e→Rf H foot e∨e∈args∨New H H' e)→aT foot H H'→Q (.ref p) H'
structure Ent where
 tup:Addr
 msA:Addr
 ms:List Str
 m:Nat
 fn:Addr
structure tW (K:Frag)(e:Ent):Prop where
 tup:∀ H:Hp,SqT K H e.tup [.ref e.msA,.int (e.m:Nat),.ref e.fn]
 ms:∀ H:Hp,SqT K H e.msA (e.ms.map V.str)
structure lO (K:Frag)(ca:Addr)(es:List Ent):Prop where
 lst:∀ H:Hp,SqT K H ca (es.map fun e=>V.ref e.tup)
 ent:∀ e∈es,tW K e
 shp:∀ (p:Nat) (nk:Nat×Nat),PyWrperm.shape (p:Int)=some nk→∃ e,es[p]?=some e∧e.ms.length=nk.1∧e.m=nk.2
inductive fK (K:Frag) (CG CB:Addr) (es:List Ent) (vs:List V) (H:Hp) (Q:VK) (E:XK):Prop
 | mk (b na ra:Addr) (foot ras:List Addr) (st:State) (p:Nat) (e:Ent) (ns:List Int) (rows:List (List Int)):vs=[.ref b,.ref e.tup,.ref na,.ref ra]→aK K CG CB H b foot st→es[p]?=some e→SqL K H na (ns.map V.int)→SqL K H ra (ras.map V.ref)→aF K H ras (rows.map nz)→ns.length=e.ms.length→rows.length=e.m→TuNeutral.asked1 (((p:Int)::ns)::rows)=true→fX K CG CB H Q b foot ras st (((p:Int)::ns)::rows)→fK K CG CB es vs H Q E
inductive ir (K:Frag) (vs:List V) (H:Hp) (Q:VK) (E:XK):Prop
 | mk (a:Addr) (ns:List Int):vs=[.ref a]→iP K H a (ns.map V.int)→ns.length≤31000→PyWrperm.answers_asked ns=true→(∀ (H':Hp) (p:Addr),H' p=some (.lst ((PyWrperm.answers ns).map V.int))→Q (.ref p) H')→ir K vs H Q E
theorem wT {xs:List V}{i n:Nat}(h:i+n≤xs.length):rS xs (some ((i:Nat):Int)) (some ((i+n:Nat):Int))=(xs.drop i).take n:=by
 unfold rS
 rw[HT.sIx_nat,HT.sIx_nat,Nat.min_eq_left (by omega),Nat.min_eq_left (by omega)]
 congr 1
 omega
theorem nO {p:Int}{nk:Nat×Nat}(h:PyWrperm.shape p=some nk):∃ k:Nat,p=(k:Int):=by
 refine ⟨p.toNat,?_⟩
 unfold PyWrperm.shape at h
 by_cases hp:0≤p
 ·omega
 ·repeat rw[if_neg (by omega)] at h
  cases h
theorem pF {p:Int}{nk:Nat×Nat}(h:PyWrperm.shape p=some nk):nk.2≤2:=by
 obtain ⟨k,rfl⟩:=nO h
 by_cases hk:k<24
 ·have all:∀ k:Nat,k<24→((PyWrperm.shape (k:Int)).getD (0,0)).2≤2:=by decide
  have:=all k hk
  rw[h] at this
  exact this
 ·unfold PyWrperm.shape at h
  repeat rw[if_neg (by omega)] at h
  cases h
theorem oE {l r:List Int}{i:Nat}{p:Int}(h:l.drop i=p::r):l[i]?=some p∧l.drop (i+1)=r∧i<l.length:=by
 have hi:i<l.length:=by
  have:=congrArg List.length h
  rw[length_drop,length_cons] at this
  omega
 rw[drop_eq_getElem_cons hi] at h
 obtain ⟨h1,h2⟩:=List.cons.inj h
 exact ⟨by rw[getElem?_eq_getElem hi,h1],h2,hi⟩
theorem cH {ns:List Int}{i:Nat}{z:Int}(h:ns[i]?=some z):(ns.map V.int)[i]?=some (V.int z):=by
 rw[getElem?_map,h];rfl
theorem tR {p:Int}{ns:List Int}{rows:List (List Int)}(h:TuNeutral.asked1 ((p::ns)::rows)=true):∀ x∈rows,∀ z∈x,0≤z:=fun x hx z hz=>by
 have hx:=Tt.lN h x hx
 unfold TuNeutral.long at hx
 rw[Bool.and_eq_true,all_eq_true] at hx
 have:=hx.2 z hz
 rw[Bool.and_eq_true,decide_eq_true_iff] at this
 exact this.1
abbrev mF:Stmt:=top 94
section
variable {P:Program} {w:World} {K:Frag} {mg:Str→Option Value} {base:Heap} {CG CB:Addr}
theorem cJ:ao ["calls","bench","told","at","call","numbers","rows","answer"] ["calls"] (aj mF):=bX
set_option maxHeartbeats 4000000 in
theorem tq {f fI ca:Addr}{fd fdI:FuncData}{es:List Ent}(F:Fun K "answers" "answers" mF f fd)(B:Blt mg)(T:Txt K mg CG CB)(M:Mk K CB fI)(GI:aZ P w K mg base CX0 6 fI fdI ["self"] (pB K CG CB))(bI:d4 K fdI ["self"] [])
  (hca:mg "CALLS"=some (.ref ca))(hT:lO K ca es)(CA:Cal P w K mg base 8 "answer_call" ["bench","call","numbers","rows"] (fK K CG CB es)):aZ P w K mg base CX0 9 f fd ["calls"] (ir K):=by
 refine okF F cJ (fun cdv A outer s H vs Q E hr h=>?_)
 ·obtain ⟨a,ns,rfl,hA,hlen,hask,k⟩:=h
  have hr7:bO 7 _:=hr.mono (by decide)
  refine ⟨_,ag (aq (i:=1) cJ.nd rfl (Or.inl rfl) (xL M GI hr7 rfl T.mgB bI .nil mM))
   (ag (aq (i:=2) cJ.nd rfl (Or.inl rfl) (aV af))
   (ag (aq (i:=3) cJ.nd rfl (Or.inl rfl) aB)
   (ag (dj PassesOwn.never (aU vC (pv 3) (aA au rfl B.len PySem.boot_len (aa (pv 0) af)) (be _))
    (ag (aq (i:=4) cJ.nd rfl (Or.inl rfl) (aL lv (bQ (v:=.ref ca) rfl hca rfl) (aL ay (pv 0) (pv 3) (fun _ _=>rfl)) (fun _ _=>rfl)))
    (ag (aq (i:=5) cJ.nd rfl (Or.inl rfl) (mK pE (pv 0) (ko (dq d9 (pv 3) aB)) (ko (dq d9 (dq d9 (pv 3) aB) (aA au rfl B.len PySem.boot_len (aa (aL lv (pv 4) aB (fun _ _=>rfl)) af))))))
    (ag (aq (i:=3) cJ.nd rfl (Or.inl rfl) (dq d9 (dq d9 (pv 3) aB) (aA au rfl B.len PySem.boot_len (aa (aL lv (pv 4) aB (fun _ _=>rfl)) af))))
    (ag (aq (i:=6) cJ.nd rfl (Or.inl rfl) (aV af))
    (ag (dj PassesOwn.never (aU vC (aA au rfl B.len PySem.boot_len (aa (pv 6) af)) (aL lv (pv 4) aB (fun _ _=>rfl)) (be _))
     (ag (aX (eD PySem.F.plainAttrs_list PySem.F.slot_list_append PySem.F.type_list_append bZ (pv 6) (aa (mK pE (pv 0) (ko (dq d9 (pv 3) aB)) (ko (dq d9 (dq d9 (pv 3) aB) (aL ay (pv 0) (pv 3) (fun _ _=>rfl))))) af)))
     (ah (aq (i:=3) cJ.nd rfl (Or.inl rfl) (dq d9 (dq d9 (pv 3) aB) (aL ay (pv 0) (pv 3) (fun _ _=>rfl)))))))
    (ag (aq (i:=7) cJ.nd rfl (Or.inl rfl) (ak CA hr rfl (aa (pv 1) (aa (pv 4) (aa (pv 5) (aa (pv 6) af))))))
    (ag (aX (eD PySem.F.plainAttrs_list PySem.F.slot_list_append PySem.F.type_list_append bZ (pv 2) (aa (aA au rfl B.len PySem.boot_len (aa (pv 7) af)) af)))
    (ah (aX (eD PySem.F.plainAttrs_list PySem.F.slot_list_extend PySem.F.type_list_extend fR (pv 2) (aa (pv 7) af))))))))))))
   (ah (ax (pv 2)))))),?_⟩
  obtain ⟨cs,hcs,hc40,hcall⟩:∃ cs,PyFlat.calls PyWrperm.shape ns.length ns=some cs∧cs.length≤40∧∀ c∈cs,TuNeutral.asked1 c=true:=by
   unfold PyWrperm.answers_asked at hask
   rw[Tt.rZ] at hask
   cases h:PyFlat.calls PyWrperm.shape ns.length ns with
   | none=>rw[h] at hask;cases hask
   | some cs=>
    rw[h] at hask
    simp only[Bool.and_eq_true] at hask
    refine ⟨cs,rfl,of_decide_eq_true hask.1,?_⟩
    have h2:=hask.2
    unfold TuNeutral.asked at h2
    rw[Bool.and_eq_true,Bool.and_eq_true,all_eq_true] at h2
    exact h2.1.1
  have hans:PyWrperm.answers ns=PyFlat.told (PyFlat.played TuNeutral.step TuNeutral.start cs):=by
   unfold PyWrperm.answers
   rw[Tt.rZ,hcs]
  intro b dx nb ndx neb
  refine ⟨b,dx,rfl,ae,(by rw[ai neb,ae]),fun H1 foot hB hf hrf hk=>⟨rfl,?_⟩⟩
  have hA1:iP K H1 a (ns.map V.int):=hA.keep fun ob e=>hk a _ (by rw[ai (am e nb),ai (am e ndx)];exact e) (am e nb)
  refine ⟨Nat.zero_le _,fun t ht=>?_⟩
  have s2:az H1 (upd H1 t (.lst [])):=al (az.refl _) ht
  have htf:t∉foot:=fun z=>hB.tracked t z ht
  refine ⟨fun m σ H'=>∃ (v4 v5 v6 v7:Option V) (foot:List Addr) (st:State) (at' f:Nat) (nA:List (List (List Int))) (Tl:List Int),
   σ=[some (.ref a),some (.ref b),some (.ref t),some (.int (at':Nat)),v4,v5,v6,v7]∧iP K H' a (ns.map V.int)∧aK K CG CB H' b foot st∧H' t=some (.lst (Tl.map V.int))∧t∉foot∧(∀ e,Rf H' foot e→e≠t)∧at'≤ns.length∧
   PyFlat.calls PyWrperm.shape f (ns.drop at')=some nA∧(∀ c∈nA,TuNeutral.asked1 c=true)∧PyWrperm.answers ns=Tl++PyFlat.told (PyFlat.played TuNeutral.step st nA)∧nA.length≤40∧Tl.length≤(40-nA.length)*2001∧m=nA.length,
   ⟨_,none,none,none,none,foot,Turn.start,0,ns.length,cs,[],rfl,hA1.same s2,hB.same s2,ae,htf,fun e he=>?_,Nat.zero_le _,by rw[drop_zero];exact hcs,hcall,by rw[hans];rfl,hc40,Nat.zero_le _,rfl⟩,?_⟩
  ·have w:=hrf e (Rf.back (fun m hm o ho=>s2 m o ho) hB.tracked he)
   exact fun z=>w.2 (by rw[z];exact ht)
  rintro m σ H' ⟨v4,v5,v6,v7,foot,st,at',f,nA,Tl,rfl,hA',hB',hTl,htf,hrf',hat,hcl,hak,hans',h40,hTll,rfl⟩
  refine ⟨_,rfl,_,rfl,a,_,rfl,.inl hA'.sq,_,_,rfl,rfl,_,rfl,eX (fun hlt=>?_) fun hge=>?_⟩
  case refine_2=>
   have hd:ns.drop at'=[]:=by
    rw[length_map] at hge
    exact drop_of_length_le (by omega)
   rw[hd] at hcl
   rw[Tt.wV hcl] at hans'
   have e:PyWrperm.answers ns=Tl:=by rw[hans'];simp[PyFlat.played,PyFlat.told]
   exact ⟨_,rfl,k H' t (by rw[e];exact hTl)⟩
  rw[length_map] at hlt
  have hne:ns.drop at'≠[]:=fun z=>by
   have:=congrArg List.length z
   rw[length_drop,length_nil] at this
   omega
  obtain ⟨pz,r,n,kk,f',xs,tl',cs',hl,hsh,hnr,hrows,rfl,hcl'⟩:=Tt.tN hcl hne
  obtain ⟨p,rfl⟩:=nO hsh
  obtain ⟨e,hes,hms,hme⟩:=hT.shp p (n,kk) hsh
  have he:=hT.ent e (mem_of_getElem? hes)
  obtain ⟨hp1,hp2,hp3⟩:=oE hl
  refine ⟨_,fun σ' H'' h=>h,?_⟩
  refine ⟨_,rfl,_,rfl,a,_,_,_,rfl,rfl,hA'.sq,aw (cH hp1),ca,_,_,_,rfl,rfl,hT.lst _,aw (j:=p) (v:=V.ref e.tup) (by rw[getElem?_map,hes];rfl),?_⟩
  refine ⟨_,rfl,_,rfl,_,_,rfl,rfl,_,rfl,_,rfl,_,_,rfl,rfl,_,rfl,e.tup,_,_,_,rfl,rfl,he.tup _,aw (j:=0) rfl,e.msA,_,rfl,.inr (he.ms _),_,_,rfl,rfl,_,rfl,a,_,rfl,hA'.sq,fun na hna=>?_⟩
  have hrl:r.length=ns.length-(at'+1):=by rw[←hp2,length_drop]
  have ecut:rS (ns.map V.int) (some (((at':Nat):Int)+1)) (some (((at':Nat):Int)+1+(((e.ms.map V.str).length:Nat):Int)))=(r.take n).map V.int:=by
   have e1:((at':Nat):Int)+1=((at'+1:Nat):Int):=by omega
   have e2:((at':Nat):Int)+1+(((e.ms.map V.str).length:Nat):Int)=((at'+1+n:Nat):Int):=by rw[length_map,hms];omega
   rw[e1] at e2 ⊢
   rw[e2,wT (by rw[length_map];omega),←map_drop,hp2,map_take]
  dsimp only
  rw[ecut]
  have sn:az H' (upd H' na (.lst ((r.take n).map V.int))):=al (az.refl _) hna
  have hna1:(upd H' na (.lst ((r.take n).map V.int))) na=some (.lst ((r.take n).map V.int)):=ae
  generalize upd H' na (.lst ((r.take n).map V.int))=H1n at sn hna1
  refine ⟨_,rfl,_,_,rfl,rfl,_,rfl,e.tup,_,_,_,rfl,rfl,he.tup _,aw (j:=0) rfl,e.msA,_,rfl,.inr (he.ms _),_,_,rfl,rfl,?_⟩
  have e3:((at':Nat):Int)+1+(((e.ms.map V.str).length:Nat):Int)=((at'+1+n:Nat):Int):=by rw[length_map,hms];omega
  dsimp only
  rw[e3]
  refine ⟨Nat.zero_le _,fun ra hra=>?_⟩
  have hra':H' ra=none:=sn.free hra
  have hnar:na≠ra:=am hna1 hra
  have hdn:ns.drop (at'+1+n)=r.drop n:=by rw[←hp2,drop_drop]
  refine ⟨fun m2 σ H2=>∃ (ras:List Addr) (dn rem:List (List Int)) (at2:Nat),σ=[some (.ref a),some (.ref b),some (.ref t),some (.int (at2:Nat)),some (.ref e.tup),some (.ref na),some (.ref ra),v7]∧H2 na=some (.lst ((r.take n).map V.int))∧H2 ra=some (.lst (ras.map V.ref))∧aF K H2 ras (dn.map nz)∧(∀ x∈ras,x≠ra∧H' x=none)∧az H' H2∧
   xs=dn++rem∧PyFlat.rows m2 (ns.drop at2)=some (rem,tl')∧at2≤ns.length∧dn.length+m2=kk,
   ⟨kk,[],[],xs,at'+1+n,rfl,by rw[ai hnar];exact hna1,ae,aF.nil,fun x hx=>(by cases hx),aH sn hra',rfl,by rw[hdn];exact hrows,by omega,by simp⟩,?_⟩
  have hask1:=hak _ (mem_cons_self ..)
  have hnn:=tR hask1
  rintro m2 σ H2 ⟨ras,dn,rem,at2,rfl,hna2,hra2,hrw,hrf2,s2,rfl,hrws,hat2,hdm⟩
  have hrl2:ras.length=dn.length:=by rw[hrw.len,length_map]
  refine ⟨_,rfl,ra,_,rfl,.inl (SqL.of hra2),_,rfl,e.tup,_,_,_,rfl,rfl,he.tup _,aw (j:=1) rfl,_,_,rfl,rfl,_,rfl,eX (fun hlt2=>?_) fun hge2=>?_⟩
  ·
   rw[length_map] at hlt2
   have hm2:∃ m3,m2=m3+1:=⟨m2-1,by omega⟩
   obtain ⟨m3,rfl⟩:=hm2
   obtain ⟨mm,r2,x,rem',hl2,hmm,rfl,rfl,hrws'⟩:=Tt.va hrws
   obtain ⟨q1,q2,q3⟩:=oE hl2
   have hr2l:r2.length=ns.length-(at2+1):=by rw[←q2,length_drop]
   refine ⟨_,fun σ' H'' h=>h,?_⟩
   have hA2:=hA'.same s2
   refine ⟨_,rfl,.inl ⟨rfl,_,SqL.of hra2⟩,_,rfl,_,rfl,_,_,rfl,rfl,_,rfl,_,rfl,_,_,rfl,rfl,_,rfl,_,rfl,a,_,_,_,rfl,rfl,hA2.sq,aw (cH q1),_,_,rfl,rfl,_,rfl,a,_,rfl,hA2.sq,fun l hl=>?_⟩
   have ec2:rS (ns.map V.int) (some (((at2:Nat):Int)+1)) (some (((at2:Nat):Int)+1+((mm:Nat):Int)))=(r2.take mm).map V.int:=by
    have e1:((at2:Nat):Int)+1=((at2+1:Nat):Int):=by omega
    have e2:((at2:Nat):Int)+1+((mm:Nat):Int)=((at2+1+mm:Nat):Int):=by omega
    rw[e1] at e2 ⊢
    rw[e2,wT (by rw[length_map];omega),←map_drop,q2,map_take]
   dsimp only
   rw[ec2]
   have s3:az H2 (upd H2 l (.lst ((r2.take mm).map V.int))):=al (az.refl _) hl
   have hl3:(upd H2 l (.lst ((r2.take mm).map V.int))) l=some (.lst ((r2.take mm).map V.int)):=ae
   generalize upd H2 l (.lst ((r2.take mm).map V.int))=H3 at s3 hl3
   have hlra:l≠ra:=fun z=>by rw[z,hra2] at hl;cases hl
   refine ⟨ra,_,_,rfl,rfl,s3 _ _ hra2,?_,?_⟩
   ·rw[length_map,hrl2]
    have hk2:kk≤2:=pF hsh
    exact sz (by omega)
   have sra:aT [ra] H3 (upd H3 ra (.lst (ras.map V.ref++[V.ref l]))):=(aT.refl _ _).row (by simp)
   have e4:((at2:Nat):Int)+1+((mm:Nat):Int)=((at2+1+mm:Nat):Int):=by omega
   have hA4:iP K (upd H3 ra (.lst (ras.map V.ref++[V.ref l]))) a (ns.map V.int):=hA'.same (aH (s2.trans s3) hra')
   refine ⟨_,rfl,_,_,rfl,rfl,_,rfl,_,rfl,a,_,_,_,rfl,rfl,hA4.sq,aw (cH q1),_,_,rfl,rfl,?_⟩
   dsimp only
   rw[e4]
   refine ⟨m3,Nat.lt_succ_self _,ras++[l],dn++[r2.take mm],rem',at2+1+mm,rfl,?_,?_,?_,?_,aH (s2.trans s3) hra',by simp,?_,by omega,by rw[length_append,length_singleton];omega⟩
   ·rw[ai hnar];exact s3 _ _ hna2
   ·rw[ae,map_append];rfl
   ·rw[map_append]
    refine aF.snoc ⟨hrw.len,fun i c y k1 k2=>sqN sra (by simpa using (hrf2 c (mem_of_getElem? k1)).1) (s3.seq (hrw.at_ i c y k1 k2))⟩ ?_
    have enz:iv (nz (r2.take mm))=(r2.take mm).map V.int:=nz_iv (hnn _ (by simp))
    rw[enz]
    exact SqL.of (by rw[ai hlra];exact hl3)
   ·intro c hc
    rcases Ma hc with h|h
    ·exact hrf2 c h
    ·rw[Ms h];exact ⟨hlra,s2.free hl⟩
   ·have:ns.drop (at2+1+mm)=r2.drop mm:=by rw[←q2,drop_drop]
    rw[this];exact hrws'
  ·
   rw[length_map] at hge2
   have hm0:m2=0:=by omega
   subst hm0
   obtain ⟨rfl,rfl⟩:=Tt.uZ hrws
   rw[append_nil] at hnn hask1 hans' hak hcl h40 hTll
   have hxs:dn++([]:List (List Int))=dn:=append_nil _
   refine ⟨_,rfl,_,rfl,_,rfl,_,rfl,b,na,ra,foot,ras,st,p,e,r.take n,dn,rfl,hB'.same s2,hes,SqL.of hna2,SqL.of hra2,hrw,by rw[length_take,hms];omega,by omega,hask1,?_⟩
   intro H4 p4 foot4 hl4 hp4n hp4f hp4 hB4 hf4 hrf4 s4
   generalize hst:TuNeutral.step st (((p:Int)::r.take n)::dn)=stp at hl4 hp4 hB4
   have ht2:=s2 _ _ hTl
   have ht4:=s4 _ _ ht2 htf
   have hp4t:p4≠t:=fun z=>by rw[z,ht2] at hp4n;cases hp4n
   have hr40:cs'.length+1≤40:=by simpa using h40
   have hTb:Tl.length≤100000:=by
    have:(40-(cs'.length+1))*2001≤40*2001:=Nat.mul_le_mul_right _ (by omega)
    simp only[length_cons] at hTll
    omega
   refine ⟨_,rfl,.inl ⟨rfl,_,SqL.of ht4⟩,_,rfl,p4,_,rfl,.inl (SqL.of hp4),t,_,_,rfl,rfl,ht4,(by rw[length_map];exact sz (by omega)),?_⟩
   have ht5:(upd H4 t (.lst (Tl.map V.int++[V.int (((stp.2.map V.int).length:Nat):Int)]))) t=some (.lst (Tl.map V.int++[V.int (((stp.2.map V.int).length:Nat):Int)])):=ae
   refine ⟨_,rfl,.inl ⟨rfl,_,SqL.of ht5⟩,_,rfl,t,p4,_,_,rfl,rfl,ht5,(by rw[ai hp4t];exact hp4),(by rw[length_append,length_map,length_map,length_singleton];exact Nat.le_of_lt (sz (by omega))),?_⟩
   rw[o7]
   have eT:Tl.map V.int++[V.int (((stp.2.map V.int).length:Nat):Int)]++stp.2.map V.int=(Tl++((stp.2.length:Int)::stp.2)).map V.int:=by
    rw[length_map];simp
   rw[eT]
   have htf4:t∉foot4:=fun z=>by
    rcases hf4 t z with w|w
    ·exact htf w
    ·rw[ht2] at w;cases w
   have nrf:∀ c,Rf H4 foot4 c→c≠t:=fun c hc z=>by
    rcases hrf4 c hc with w|w|w
    ·exact hrf' c (Rf.back (fun m _ o ho=>s2 m o ho) hB'.tracked w) z
    ·have:=(hrf2 c w).2
     rw[z,hTl] at this;cases this
    ·have:=w.1
     rw[z,ht2] at this;cases this
   have st6:aT [t] H4 (upd H4 t (.lst ((Tl++((stp.2.length:Int)::stp.2)).map V.int))):=(aT.refl _ _).row (by simp)
   have hA4:iP K H4 a (ns.map V.int):=(hA'.same s2).keep fun ob w=>s4 _ _ w fun z=>(hB'.same s2).notFrz a z ob _ w
   refine ⟨cs'.length,(by simp),_,_,_,_,foot4,stp.1,at2,f',cs',Tl++((stp.2.length:Int)::stp.2),rfl,hA4.keep fun ob w=>?_,hB4.keepR st6 (fun c hc=>by simpa using fun z=>htf4 (by rw[←z];exact hc)) (fun c hc=>by simpa using nrf c hc),ae,htf4,fun c hc=>nrf c (Rf.back (fun m hm o ho=>?_) hB4.tracked hc),hat2,hcl',fun c hc=>hak c (mem_cons_of_mem _ hc),?_,by omega,?_,rfl⟩
   ·rw[ai (fun z=>by rw[z,ht4] at w;cases w)];exact w
   ·rw[ai (fun z=>htf4 (by rw[←z];exact hm))];exact ho
   ·have e7:PyFlat.played TuNeutral.step st ((((p:Int)::r.take n)::dn)::cs')=stp.2::PyFlat.played TuNeutral.step stp.1 cs':=by
     show (TuNeutral.step st _).2::PyFlat.played TuNeutral.step (TuNeutral.step st _).1 cs'=_
     rw[hst]
    rw[hans',e7,Tt.uj,append_assoc]
   ·rw[length_append,length_cons]
    simp only[length_cons] at hTll
    have:(40-cs'.length)*2001=(40-(cs'.length+1))*2001+2001:=by
     have:40-cs'.length=(40-(cs'.length+1))+1:=by omega
     rw[this,Nat.add_mul,Nat.one_mul]
    omega
end
end Bt
namespace Bt
open PySem PySem.Spec PyProof.Rows L2
open PySem.W (Codec)
open Tt (IsT)
abbrev mx:Stmt:=top 92
abbrev gO:Stmt:=top 93
def bY (n:Nat)(m:Str)(z:Int):Bool:=
 if m="things" then decide (1≤z)&&decide (z≤9) else if m="group" then decide (z<4) else if m="place" then decide (z<(n:Nat)) else true
inductive j1 (K:Frag) (CG CB:Addr) (vs:List V) (H:Hp) (Q:VK) (E:XK):Prop
 | mk (b:Addr) (foot:List Addr) (st:State) (m:Str) (z:Int):vs=[.ref b,.str m,.int z]→aK K CG CB H b foot st→Q (.bl (bY st.n m z)) H→j1 K CG CB vs H Q E
inductive iq (K:Frag) (CG CB:Addr) (p:Nat) (ms:List Str) (mr:Nat) (vs:List V) (H:Hp) (Q:VK) (E:XK):Prop
 | mk (b na ra:Addr) (foot ras:List Addr) (st:State) (ns:List Int) (rows:List (List Int)):vs=[.ref b,.ref na,.ref ra]→aK K CG CB H b foot st→SqL K H na (ns.map V.int)→SqL K H ra (ras.map V.ref)→aF K H ras (rows.map nz)→ns.length=ms.length→rows.length=mr→TuNeutral.asked1 (((p:Int)::ns)::rows)=true→(∀ (i:Nat) (m:Str) (z:Int),ms[i]?=some m→ns[i]?=some z→bY st.n m z=true)→(∀ x∈rows,Turn.isTurn st.n (nz x)=true)→fX K CG CB H Q b foot ras st (((p:Int)::ns)::rows)→iq K CG CB p ms mr vs H Q E
theorem fX.plain {K:Frag}{CG CB:Addr}{H H':Hp}{Q:VK}{b p:Addr}{foot args:List Addr}{s:State}{c:List (List Int)}{ans:List Int}(O:fX K CG CB H Q b foot args s c)(hB:aK K CG CB H b foot s)(e:TuNeutral.step s c=(s,ans))(hl:ans.length≤2000)(sm:az H H')(hp:H p=none)(hp':H' p=some (.lst (ans.map V.int))):Q (.ref p) H':=by
 have e1:(TuNeutral.step s c).1=s:=by rw[e]
 have e2:(TuNeutral.step s c).2=ans:=by rw[e]
 refine O H' p foot (by rw[e2];exact hl) hp (fun z=>hB.tracked p z hp) (by rw[e2];exact hp') (by rw[e1];exact hB.same sm) (fun a ha=>.inl ha) (fun x hx=>.inl (Rf.back (fun m _ o ho=>sm m o ho) hB.tracked hx)) (fun a o ha _=>sm a o ha)
section
variable {P:Program} {w:World} {K:Frag} {mg:Str→Option Value} {base:Heap} {CG CB:Addr}
theorem qG {x y:Str}{A B:Prop}(h1:x=y→A)(h2:x≠y→B):if (decide (V.str x=V.str y))=true then A else B:=by
 by_cases h:x=y
 ·rw[decide_eq_true (by rw[h])];exact oy (h1 h)
 ·rw[decide_eq_false (fun q=>h (V.str.inj q))];exact nD (h2 h)
theorem ux:ao ["bench","meaning","number"] ["bench","meaning","number"] (aj mx):=bX
theorem sU {f:Addr}{fd:FuncData}{t1 t2:Tok}(F:Fun K "is_there" "is_there" mx f fd)(T:Txt K mg CG CB)(h9:mg "MOST_THINGS"=some (.int 9 t1))(h4:mg "GROUP_COUNT"=some (.int 4 t2)):aZ P w K mg base CX0 1 f fd ["bench","meaning","number"] (j1 K CG CB):=by
 refine okF F ux (fun cdv A outer s H vs Q E hr h=>?_)
 ·obtain ⟨b,foot,st,m,z,rfl,hB,k⟩:=h
  refine ⟨_,ag (dz (aU mO (pv 1) vt (be _)) (ah (ax (xM Af Af aB (pv 2) (bQ (v:=.int 9) rfl h9 ⟨t1,rfl⟩)))) bi)
   (ag (dz (aU mO (pv 1) vt (be _)) (ah (ax (i5 vC (pv 2) (bQ (v:=.int 4) rfl h4 ⟨t2,rfl⟩) (be _)))) bi)
   (ag (dz (aU mO (pv 1) vt (be _)) (ah (ax (i5 vC (pv 2) (bp (pv 0) rfl) (be _)))) bi)
   (ah (ax n8)))),?_⟩
  obtain ⟨dx,L,os,As,rfl,nd,h1,h2,h3,hG⟩:=hB.ex
  unfold bY at k
  refine ⟨_,rfl,rfl,_,rfl,qG (fun q=>?_) fun q=>?_⟩
  ·rw[if_pos q] at k
   refine ⟨_,rfl,_,_,rfl,rfl,_,rfl,eX (fun w=>?_) fun w=>?_⟩
   ·rw[decide_eq_true w,Bool.true_and] at k
    exact ⟨_,_,rfl,rfl,k⟩
   ·rw[decide_eq_false w,Bool.false_and] at k
    exact k
  ·rw[if_neg q] at k
   refine ⟨_,rfl,rfl,_,rfl,qG (fun q=>?_) fun q=>?_⟩
   ·rw[if_pos q] at k
    exact ⟨_,rfl,_,_,rfl,rfl,k⟩
   ·rw[if_neg q] at k
    refine ⟨_,rfl,rfl,_,rfl,qG (fun q=>?_) fun q=>?_⟩
    ·rw[if_pos q] at k
     exact ⟨_,rfl,_,rfl,b,CB,dx,_,_,rfl,h1,T.bcl,T.bThings,cK _ _,_,_,rfl,rfl,k⟩
    ·rw[if_neg q] at k
     exact k
theorem d7:ao ["bench","call","numbers","rows","meaning","number","row","answer"] ["bench","call","numbers","rows"] (aj gO):=bX
theorem rN {c:Bool}{A B:Prop}(h1:c=false→A)(h2:c=true→B):if (!c)=true then A else B:=by
 cases c with
 | false=>exact oy (h1 rfl)
 | true=>exact nD (h2 rfl)
theorem mS {f:Addr}{fd:FuncData}{t1 t2:Tok}{es:List Ent}(F:Fun K "answer_call" "answer_call" gO f fd)(B:Blt mg)(T:Txt K mg CG CB)(hn2:mg "NOT_THERE"=some (.int (-2) t1))(hn1:mg "NO_TURN"=some (.int (-1) t2))
  (CI:Cal P w K mg base 1 "is_there" ["bench","meaning","number"] (j1 K CG CB))(CT:Cal P w K mg base 1 "is_turn" ["row","things"] (l0 K))
  (hE:∀ (p:Nat) (e:Ent),es[p]?=some e→tW K e∧∃ fd,aZ P w K mg base CX0 7 e.fn fd ["bench","numbers","rows"] (iq K CG CB p e.ms e.m)∧keepIn K (.ref e.fn)=true∧d4 K fd ["bench","numbers","rows"] [])
  (hR2:∀ (p:Nat) (e:Ent) (st:State) (ns:List Int) (rows:List (List Int)),es[p]?=some e→0<st.n→st.n≤9→ns.length=e.ms.length→rows.length=e.m→TuNeutral.asked1 (((p:Int)::ns)::rows)=true→(∃ (i:Nat) (m:Str) (z:Int),e.ms[i]?=some m∧ns[i]?=some z∧bY st.n m z=false)→TuNeutral.step st (((p:Int)::ns)::rows)=(st,[-2]))
  (hR1:∀ (p:Nat) (e:Ent) (st:State) (ns:List Int) (rows:List (List Int)),es[p]?=some e→0<st.n→st.n≤9→ns.length=e.ms.length→rows.length=e.m→TuNeutral.asked1 (((p:Int)::ns)::rows)=true→(∀ (i:Nat) (m:Str) (z:Int),e.ms[i]?=some m→ns[i]?=some z→bY st.n m z=true)→(∃ x∈rows,Turn.isTurn st.n (nz x)=false)→TuNeutral.step st (((p:Int)::ns)::rows)=(st,[-1]))
  (hlen:∀ (p:Nat) (ns:List Int) (rows:List (List Int)),TuNeutral.asked1 (((p:Int)::ns)::rows)=true→∀ x∈rows,x.length≤16):
  aZ P w K mg base CX0 8 f fd ["bench","call","numbers","rows"] (fK K CG CB es):=by
 refine okF F d7 (fun cdv A outer s H vs Q E hr h=>?_)
 ·obtain ⟨b,na,ra,foot,ras,st,p,e,ns,rows,rfl,hB,hes,hna,hra,hrw,hnl,hrl,hask,O⟩:=h
  obtain ⟨he,fd',G,hk,hb⟩:=hE p e hes
  have hr1:bO 1 _:=hr.mono (by decide)
  refine ⟨_,ag (bw PassesOwn.never rfl (Bz.xI rfl B.zip (aa (aL lv (pv 1) aB (fun _ _=>rfl)) (aa (pv 2) af))) (eB (p:=4) (q:=5) rfl d7.nd rfl rfl rfl rfl)
    (ah (dz (iF (fO (ak CI hr1 rfl (aa (pv 0) (aa (pv 4) (aa (pv 5) af)))))) (ah (ax (aV (aa (bQ (v:=.int (-2)) rfl hn2 ⟨t1,rfl⟩) af)))) bi)))
   (ag (bw PassesOwn.never rfl (aP (pv 3)) (aG (i:=6) d7.nd rfl (Or.inl rfl))
    (ah (dz (iF (fO (ak CT hr1 rfl (aa (pv 6) (aa (bp (pv 0) rfl) af))))) (ah (ax (aV (aa (bQ (v:=.int (-1)) rfl hn1 ⟨t2,rfl⟩) af)))) bi)))
   (ag (aq (i:=7) d7.nd rfl (Or.inl rfl) (aL lv (pv 1) aB (fun _ _=>rfl)))
   (ah (ax (Ae (i:=7) G hk hb hr rfl rfl (aa (pv 0) (aa (pv 2) (aa (pv 3) af)))))))),?_⟩
  refine ⟨_,rfl,e.tup,_,_,_,rfl,rfl,he.tup _,aw (j:=0) rfl,_,rfl,e.msA,na,e.ms.map V.str,ns.map V.int,rfl,he.ms _,hna,Bz.wF (K:=K) (a:=e.msA) (b:=na) (xs:=e.ms.map V.str) (ys:=ns.map V.int) (p:=4) (q:=5) (by rw[length_map,length_map,hnl])
   (fun i σ H'=>∃ v4 v5:Option V,σ=[some (.ref b),some (.ref e.tup),some (.ref na),some (.ref ra),v4,v5,none,none]∧az H H'∧∀ (j:Nat) (m:Str) (z:Int),j<i→e.ms[j]?=some m→ns[j]?=some z→bY st.n m z=true)
   ⟨none,none,rfl,az.refl _,fun j m z hj=>(by omega)⟩ (fun i σ H' _ ⟨_,_,_,s1,_⟩=>⟨he.ms _,s1.seq hna⟩) ?_ ?_⟩
  ·rintro i x y σ H' S hx hy ⟨v4,v5,rfl,s1,hth⟩ hS
   rw[getElem?_map] at hx hy
   obtain ⟨m,hm,rfl⟩:=Oq hx
   obtain ⟨z,hz,rfl⟩:=Oq hy
   have s2:az H (upd H' S (.tup [.str m,.int z])):=al s1 hS
   refine ⟨_,rfl,_,rfl,_,rfl,b,foot,st,m,z,rfl,hB.same s2,_,rfl,rN (fun hf=>?_) fun ht=>?_⟩
   ·refine ⟨Nat.le_of_lt (sz (by show 1≤1000000;decide)),fun q hq=>?_⟩
    exact O.plain hB (hR2 p e st ns rows hes hB.pos hB.le hnl hrl hask ⟨i,m,z,hm,hz,hf⟩) (by show 1≤2000;decide) (al s2 hq) (s2.free hq) ae
   ·refine ⟨_,_,rfl,s2,fun j m' z' hj h1 h2=>?_⟩
    by_cases hji:j=i
    ·subst hji
     have a1:m'=m:=Oi (h1.symm.trans hm)
     have a2:z'=z:=Oi (h2.symm.trans hz)
     rw[a1,a2];exact ht
    ·exact hth j m' z' (by omega) h1 h2
  ·rintro σ H1 ⟨v4,v5,rfl,s1,hth⟩
   have hall:∀ (i:Nat) (m:Str) (z:Int),e.ms[i]?=some m→ns[i]?=some z→bY st.n m z=true:=fun i m z h1 h2=>hth i m z (by rw[length_map];exact (Gq h1).1) h1 h2
   refine ⟨_,rfl,ra,rfl,⟨_,s1.seq hra⟩,bj (K:=K) (a:=ra) (xs:=ras.map V.ref) (fun i σ H'=>∃ v6:Option V,σ=[some (.ref b),some (.ref e.tup),some (.ref na),some (.ref ra),v4,v5,v6,none]∧az H H'∧∀ x∈rows.take i,Turn.isTurn st.n (nz x)=true)
    ⟨none,rfl,s1,fun x hx=>by simp at hx⟩ (fun i σ H' _ ⟨_,_,s2,_⟩=>s2.seq hra) ?_ ?_⟩
   ·rintro i v σ H' hi ⟨v6,rfl,s2,hrt⟩
    rw[getElem?_map] at hi
    obtain ⟨xa,hxa,rfl⟩:=Oq hi
    obtain ⟨x',hx',hxq⟩:=hrw.get hxa
    rw[getElem?_map] at hx'
    obtain ⟨x,hx,rfl⟩:=Oq hx'
    have hxl:=hlen p ns rows hask x (mem_of_getElem? hx)
    obtain ⟨dx,L,os,As,hfe,nd,h1,h2,h3,hG⟩:=hB.ex
    refine ⟨_,rfl,_,rfl,b,CB,dx,_,_,rfl,s2 _ _ h1,T.bcl,T.bThings,cK _ _,xa,nz x,st.n,rfl,s2.seq hxq,(by unfold nz;rw[length_map];omega),(by have:=hB.le;omega),fun H3 s3=>⟨_,rfl,rN (fun hf=>?_) fun ht=>?_⟩⟩
    ·refine ⟨Nat.le_of_lt (sz (by show 1≤1000000;decide)),fun q hq=>?_⟩
     exact O.plain hB (hR1 p e st ns rows hes hB.pos hB.le hnl hrl hask hall ⟨x,mem_of_getElem? hx,hf⟩) (by show 1≤2000;decide) (al (s2.trans s3) hq) ((s2.trans s3).free hq) ae
    ·refine ⟨_,rfl,s2.trans s3,fun y hy=>?_⟩
     rw[aC hx] at hy
     rcases Ma hy with h|h
     ·exact hrt y h
     ·rw[Ms h];exact ht
   ·rintro σ H2 ⟨v6,rfl,s2,hrt⟩
    have hrall:∀ x∈rows,Turn.isTurn st.n (nz x)=true:=by
     rw[length_map,hrw.len,length_map,take_length] at hrt
     exact hrt
    refine ⟨_,rfl,e.tup,_,_,_,rfl,rfl,he.tup _,aw (j:=2) rfl,rfl,_,rfl,_,rfl,_,rfl,b,na,ra,foot,ras,st,ns,rows,rfl,hB.same s2,s2.seq hna,s2.seq hra,hrw.same s2,hnl,hrl,hask,hall,hrall,?_⟩
    intro H' q foot' hq1 hq2 hq3 hq4 hq5 hq6 hq7 hq8
    refine O H' q foot' hq1 (s2.free hq2) hq3 hq4 hq5 (fun a ha=>?_) (fun x hx=>?_) (fun a o ha hf=>hq8 _ _ (s2 _ _ ha) hf)
    ·rcases hq6 a ha with w|w
     ·exact .inl w
     ·exact .inr (s2.free w)
    ·rcases hq7 x hx with w|w|w
     ·exact .inl (Rf.back (fun m _ o ho=>s2 m o ho) hB.tracked w)
     ·exact .inr (.inl w)
     ·exact .inr (.inr ⟨s2.free w.1,w.2⟩)
end
end Bt
namespace Bt
open PySem PySem.Spec PyProof.Rows L2
open PySem.W (Codec)
open Tt (IsT aE bS tU TOk Tab wt bR)
theorem oY {X:Cx}{e:Expr}{t t':TE}(h:PE X e t)(i:∀ σ H Q,t' σ H Q→t σ H Q):PE X e t':=fun pins s σ H Q I q=>h pins s σ H Q I (i σ H Q q)
abbrev sNew:Stmt:=top 65
abbrev uO:Stmt:=top 66
abbrev uR:Stmt:=top 67
abbrev zS:Stmt:=top 68
abbrev uH:Stmt:=top 69
abbrev uU:Stmt:=top 70
abbrev pR:Stmt:=top 71
abbrev p9:Stmt:=top 72
abbrev zR:Stmt:=top 73
abbrev sHas:Stmt:=top 74
abbrev sNth:Stmt:=top 75
abbrev uG:Stmt:=top 76
abbrev kj:Stmt:=top 90
def tGrp (K:Frag)(CG CB:Addr)(j:Nat):TE:=fun σ H Q=>∃ (b na:Addr) (foot:List Addr) (st:State) (ns:List Int) (g:Nat),σ[0]?=some (some (.ref b))∧σ[1]?=some (some (.ref na))∧aK K CG CB H b foot st∧SqL K H na (ns.map V.int)∧ns[j]?=some (g:Int)∧g<4∧
 ∀ (o:Addr) (A:List Addr) (gens:List Turn.Row),st.groups[g]?=some gens→bo K CG H o A st.n gens→(∀ a∈A,a∈foot)→gens.length≤100→Q (.ref o) H
def AV (K:Frag)(CG CB:Addr)(j:Nat):TE:=fun σ H Q=>∃ (b na:Addr) (foot:List Addr) (st:State) (ns:List Int) (g:Nat),σ[0]?=some (some (.ref b))∧σ[1]?=some (some (.ref na))∧aK K CG CB H b foot st∧SqL K H na (ns.map V.int)∧ns[j]?=some (g:Int)∧g<4∧
 ∀ (ga:Addr) (gs:List Addr) (gens:List Turn.Row),st.groups[g]?=some gens→H ga=some (.lst (gs.map V.ref))→dh K H st.n ga gs gens→gens.length≤100→Q (.ref ga) H
def AT (K:Frag)(CG CB:Addr)(j:Nat):TE:=fun σ H Q=>∃ (b na:Addr) (foot:List Addr) (st:State) (ns:List Int) (g:Nat),σ[0]?=some (some (.ref b))∧σ[1]?=some (some (.ref na))∧aK K CG CB H b foot st∧SqL K H na (ns.map V.int)∧ns[j]?=some (g:Int)∧g<4∧
 ∀ (t:Addr) (rs:List Addr) (T0:Tab) (gens:List Turn.Row),st.groups[g]?=some gens→bt K H t rs T0→TOk st.n T0→bS st.n (aE st.n gens) (tU T0)→(∀ x∈gens,IsT st.n x)→gens.length≤100→Q (.ref t) H
section
variable {X:Cx} {CG CB:Addr} {j:Nat} {p1 p2 p3 p4 p5 p6 p7:Pos} {jj:Nat}
theorem kt {e0 e1:Expr}(T:Txt X.K X.mg CG CB)(h0:PE X e0 (su 0))(h1:PE X e1 (su 1))(hb:attributeBase e0 "groups" X.env (eval e0 X.env)=eval e0 X.env:=by rfl)(hp1:dZ (.Constant (.int (j:Int)) jj p4):=by intro _ _;rfl)(hp2:dZ (.Subscript e1 (.Constant (.int (j:Int)) jj p4) p5):=by intro _ _;rfl):
  PE X (.Subscript (.Attribute e0 "groups" p2) (.Subscript e1 (.Constant (.int (j:Int)) jj p4) p5) p6) (tGrp X.K CG CB j):=by
 refine oY (aL ay (bp h0 hb) (aL ay h1 aB hp1) hp2) ?_
 rintro σ H Q ⟨b,na,foot,st,ns,g,hs0,hs1,hB,hna,hj,hg,k⟩
 obtain ⟨dx,L,os,As,rfl,nd,z1,z2,z3,hG⟩:=hB.ex
 obtain ⟨o,A,gens,w1,w2,w3,w4,w5⟩:=hG.get (i:=g) (by rw[hB.four];exact hg)
 refine ⟨_,hs0,b,CB,dx,_,_,rfl,z1,T.bcl,T.bGroups,dW _ _,_,hs1,na,_,_,_,rfl,rfl,hna,aw (cH hj),L,_,_,_,rfl,rfl,SqL.of z3,aw (j:=g) (v:=V.ref o) (by rw[getElem?_map,w1];rfl),?_⟩
 exact k o A gens w3 w4 (fun a ha=>by simp[show a∈As.flatten from mem_flatten.mpr ⟨A,mem_of_getElem? w2,ha⟩]) w5
theorem fq {e0 e1:Expr}(T:Txt X.K X.mg CG CB)(h0:PE X e0 (su 0))(h1:PE X e1 (su 1))(hb:attributeBase e0 "groups" X.env (eval e0 X.env)=eval e0 X.env:=by rfl)(hp1:dZ (.Constant (.int (j:Int)) jj p4):=by intro _ _;rfl)(hp2:dZ (.Subscript e1 (.Constant (.int (j:Int)) jj p4) p5):=by intro _ _;rfl)
  (hb2:attributeBase (.Subscript (.Attribute e0 "groups" p2) (.Subscript e1 (.Constant (.int (j:Int)) jj p4) p5) p6) "given" X.env (eval (.Subscript (.Attribute e0 "groups" p2) (.Subscript e1 (.Constant (.int (j:Int)) jj p4) p5) p6) X.env)=eval (.Subscript (.Attribute e0 "groups" p2) (.Subscript e1 (.Constant (.int (j:Int)) jj p4) p5) p6) X.env:=by rfl):
  PE X (.Attribute (.Subscript (.Attribute e0 "groups" p2) (.Subscript e1 (.Constant (.int (j:Int)) jj p4) p5) p6) "given" p7) (AV X.K CG CB j):=by
 refine oY (bp (kt T h0 h1 hb hp1 hp2) hb2) ?_
 rintro σ H Q ⟨b,na,foot,st,ns,g,hs0,hs1,hB,hna,hj,hg,k⟩
 refine ⟨b,na,foot,st,ns,g,hs0,hs1,hB,hna,hj,hg,fun o A gens w1 w2 w3 w4=>?_⟩
 obtain ⟨dx,ga,t,gs,rs,T0,rfl,nd,y1,y2,y3,y4,y5,y6,y7⟩:=w2.ex
 exact ⟨o,CG,dx,_,_,rfl,y1,T.gcl,T.gGiven,dl _ _,k ga gs gens w1 y3 ⟨SqL.of y3,y4,w2.isT⟩ w4⟩
theorem d8 {e0 e1:Expr}(T:Txt X.K X.mg CG CB)(h0:PE X e0 (su 0))(h1:PE X e1 (su 1))(hb:attributeBase e0 "groups" X.env (eval e0 X.env)=eval e0 X.env:=by rfl)(hp1:dZ (.Constant (.int (j:Int)) jj p4):=by intro _ _;rfl)(hp2:dZ (.Subscript e1 (.Constant (.int (j:Int)) jj p4) p5):=by intro _ _;rfl)
  (hb2:attributeBase (.Subscript (.Attribute e0 "groups" p2) (.Subscript e1 (.Constant (.int (j:Int)) jj p4) p5) p6) "table" X.env (eval (.Subscript (.Attribute e0 "groups" p2) (.Subscript e1 (.Constant (.int (j:Int)) jj p4) p5) p6) X.env)=eval (.Subscript (.Attribute e0 "groups" p2) (.Subscript e1 (.Constant (.int (j:Int)) jj p4) p5) p6) X.env:=by rfl):
  PE X (.Attribute (.Subscript (.Attribute e0 "groups" p2) (.Subscript e1 (.Constant (.int (j:Int)) jj p4) p5) p6) "table" p7) (AT X.K CG CB j):=by
 refine oY (bp (kt T h0 h1 hb hp1 hp2) hb2) ?_
 rintro σ H Q ⟨b,na,foot,st,ns,g,hs0,hs1,hB,hna,hj,hg,k⟩
 refine ⟨b,na,foot,st,ns,g,hs0,hs1,hB,hna,hj,hg,fun o A gens w1 w2 w3 w4=>?_⟩
 obtain ⟨dx,ga,t,gs,rs,T0,rfl,nd,y1,y2,y3,y4,y5,y6,y7⟩:=w2.ex
 exact ⟨o,CG,dx,_,_,rfl,y1,T.gcl,T.gTable,ft _ _,k t rs T0 gens w1 y5 y6 y7 w2.isT w4⟩
end
section
variable {st:State} {g:Nat} {gens:List Turn.Row}
theorem cI (h:st.groups[g]?=some gens):st.gens g=gens:=by
 unfold State.gens
 exact Tt.bW h
theorem wC (hi:∀ x∈gens,IsT st.n x)(hl:gens.length≤100):Tt.gz st.n gens:=⟨hi,by omega⟩
theorem dQ (hn:st.n≤9)(h:st.groups[g]?=some gens)(hi:∀ x∈gens,IsT st.n x)(hl:gens.length≤100):Tt.dX st.n (st.table g)∧bS st.n (aE st.n gens) (Tt.br st.n (st.table g)):=by
 unfold State.table
 rw[cI h]
 exact (wC hi hl).table hn
end
theorem uu {n:Nat}{z:Int}(h:bY n "group" z=true)(h0:0≤z):∃ g:Nat,z=(g:Int)∧g<4:=by
 unfold bY at h
 rw[if_neg (by decide +kernel),if_pos rfl] at h
 have:=of_decide_eq_true h
 exact ⟨z.toNat,by omega,by omega⟩
theorem nat0 {z:Int}{k:Nat}(h:TuNeutral.natural z k=true):0≤z:=by
 unfold TuNeutral.natural at h
 rw[Bool.and_eq_true] at h
 exact of_decide_eq_true h.1
theorem jM {α:Type}{l:List α}(h:l.length=1):∃ a,l=[a]:=by
 cases l with
 | nil=>cases h
 | cons a l=>cases l with
  | nil=>exact ⟨a,rfl⟩
  | cons b l=>simp at h
theorem ou {α:Type}{l:List α}(h:l.length=0):l=[]:=eq_nil_of_length_eq_zero h
theorem cx (l:List Nat):(nats l).map V.int=iv l:=by unfold nats iv;rw[map_map];rfl
section
variable {P:Program} {w:World} {K:Frag} {mg:Str→Option Value} {base:Heap} {CG CB:Addr}
theorem sF:ao ["truth"] ["truth"] (aj kj):=bX
inductive dE (vs:List V) (H:Hp) (Q:VK) (E:XK):Prop
 | mk (b:Bool):vs=[.bl b]→Q (.int ((Turn.one b:Nat):Int)) H→dE vs H Q E
theorem qx {f:Addr}{fd:FuncData}(F:Fun K "as_number" "as_number" kj f fd):aZ P w K mg base CX0 1 f fd ["truth"] dE:=by
 refine okF F sF (fun cdv A outer s H vs Q E hr h=>?_)
 ·obtain ⟨b,rfl,k⟩:=h
  refine ⟨_,ah (ax (mL (fO (pv 0)) aB aB)),?_⟩
  refine ⟨_,rfl,b,rfl,?_⟩
  cases b with
  | true=>exact k
  | false=>exact k
theorem zD:ao ["bench","numbers","rows"] ["bench","numbers","rows"] (aj uH):=bX
theorem xW {f:Addr}{fd:FuncData}(F:Fun K "answer_order" "answer_order" uH f fd)(T:Txt K mg CG CB)(CT:Cal P w K mg base 3 "turn_count" ["table"] (cr K)):aZ P w K mg base CX0 4 f fd ["bench","numbers","rows"] (iq K CG CB 4 ["group"] 0):=by
 refine okF F zD (fun cdv A outer s H vs Q E hr h=>?_)
 ·obtain ⟨b,na,ra,foot,ras,st,ns,rows,rfl,hB,hna,hra,hrw,hnl,hrl,hask,hth,htn,O⟩:=h
  refine ⟨_,ah (ax (aV (aa (ak CT hr rfl (aa (d8 (j:=0) T (pv 0) (pv 1)) af)) af))),?_⟩
  obtain ⟨z,rfl⟩:=jM hnl
  have hr0:=ou hrl
  subst hr0
  obtain ⟨g,rfl,hg⟩:=uu (hth 0 _ _ rfl rfl) (nat0 (show TuNeutral.natural z 32=true from hask))
  refine ⟨b,na,foot,st,_,g,rfl,rfl,hB,hna,rfl,hg,fun t rs T0 gens w1 w2 w3 w4 w5 w6=>⟨t,rs,T0,st.n,_,rfl,w2,w3,hB.le,w4,fun H1 s1=>⟨Nat.le_of_lt (sz (by show 1≤1000000;decide)),fun q hq=>?_⟩⟩⟩
  obtain ⟨t1,t2⟩:=dQ hB.le w1 w5 w6
  have e:TuNeutral.step st [[4,(g:Int)]]=(st,[((wt st.n (aE st.n gens) 0:Nat):Int)]):=by
   show Turn.step st (.order (g:Int).toNat)=_
   have:(g:Int).toNat=g:=by omega
   rw[this]
   simp only[Turn.step,Turn.ofGroup]
   rw[if_neg (by show ¬4≤g;omega),Tt.cN t2]
   rfl
  exact O.plain hB e (by show 1≤2000;decide) (al s1 hq) (s1.free hq) ae
end
end Bt
namespace Bt
open PySem PySem.Spec PyProof.Rows L2
open PySem.W (Codec)
open Tt (Tab tU TOk aR md bS aE Grp IsT bR wt cz LB gC gz Fix Orb fF fD dM dc)
abbrev uK:Stmt:=top 33
abbrev kl:Stmt:=top 34
abbrev sOwn:Stmt:=top 36
inductive lZ (K:Frag) (vs:List V) (H:Hp) (Q:VK) (E:XK):Prop
 | mk (t a:Addr) (rs:List Addr) (T:Tab) (n b:Nat) (G:Turn.Row→Prop) (x:List Nat):vs=[.ref t,.int (b:Nat),.ref a]→bt K H t rs T→SqL K H a (iv x)→TOk n T→n≤9→bS n G (tU T)→IsT n x→b≤n→(∀ (H':Hp) (p:Addr) (y:List Nat),LB n G b n x y→SqL K H' p (iv y)→((b=n∧p=a)∨(H p=none∧H' p=some (.lst (iv y))))→az H H'→Q (.ref p) H')→lZ K vs H Q E
inductive iW (K:Frag) (vs:List V) (H:Hp) (Q:VK) (E:XK):Prop
 | mk (t:Addr) (rs:List Addr) (T:Tab) (n:Nat) (G:Turn.Row→Prop):vs=[.ref t]→bt K H t rs T→TOk n T→n≤9→bS n G (tU T)→wt n G 0≤1000→(∀ (H':Hp) (p:Addr) (es:List Addr) (made:List Turn.Row),H p=none→H' p=some (.lst (es.map V.ref))→bA H' es made→(∀ x,x∈made↔G x)→made.length≤1000→(∀ e∈es,H e=none)→az H H'→Q (.ref p) H')→iW K vs H Q E
inductive zx (K:Frag) (vs:List V) (H:Hp) (Q:VK) (E:XK):Prop
 | mk (t:Addr) (rs:List Addr) (T:Tab) (n:Nat) (gens:List Turn.Row):vs=[.ref t]→bt K H t rs T→TOk n T→0<n→n≤9→gz n gens→bS n (aE n gens) (tU T)→(∀ (H':Hp) (p:Addr) (es:List Addr),H p=none→H' p=some (.lst (es.map V.ref))→aF K H' es (Turn.own n gens)→(∀ e∈es,Rf H rs e∨New H H' e)→az H H'→Q (.ref p) H')→zx K vs H Q E
theorem yI {xs:List V}{i:Nat}(h:i≤xs.length):rS xs (some ((i:Nat):Int)) none=xs.drop i:=by
 unfold rS
 have e:HT.sIx xs.length xs.length none=xs.length:=rfl
 rw[HT.sIx_nat,e,Nat.min_eq_left h]
 exact take_of_length_le (by rw[length_drop];exact Nat.le_refl _)
theorem bA.append {H:Hp}{es es':List Addr}{l l':List (List Nat)}(h:bA H es l)(h':bA H es' l'):bA H (es++es') (l++l'):=by
 refine ⟨by rw[length_append,length_append,h.len,h'.len],fun i e x h1 h2=>?_⟩
 rw[getElem?_append] at h1 h2
 rw[h.len] at h1
 split at h1
 ·rename_i hlt
  rw[if_pos hlt] at h2
  exact h.at_ i e x h1 h2
 ·rename_i hlt
  rw[if_neg hlt] at h2
  exact h'.at_ _ e x h1 h2
theorem bA.rows {K:Frag}{H:Hp}{es:List Addr}{l:List (List Nat)}(h:bA H es l):aF K H es l:=⟨h.len,fun i e x h1 h2=>SqL.of (h.at_ i e x h1 h2)⟩
theorem Bc {n:Nat}{y:List Nat}(yT:IsT n y){o:Nat}(h:o<n):y[o]?=some (at_ y o):=by
 rw[getElem?_eq_getElem (yT.len.symm▸h),Tt.cU (yT.len.symm▸h)]
section
variable {P:Program} {w:World} {K:Frag} {mg:Str→Option Value} {base:Heap}
theorem gL:ao ["table","start","x","chosen","row","lowest","goal"] ["table","start","x"] (aj uK):=bX
theorem xZ {f:Addr}{fd:FuncData}(F:Fun K "least_before" "least_before" uK f fd)(B:Blt mg)(CG:Cal P w K mg base 1 "goals" ["row"] (fJ K))(CP:Cal P w K mg base 1 "product" ["x","y"] (bv K)):aZ P w K mg base CX0 2 f fd ["table","start","x"] (lZ K):=by
 refine okF F gL (fun cdv A outer s H vs Q E hr h=>?_)
 ·obtain ⟨t,a,rs,T,n,b,G,x,rfl,hT,ha,ok,hn,FT,xT,hb,q⟩:=h
  have hG:=FT.grp
  refine ⟨_,ag (aq (i:=3) gL.nd rfl (Or.inr rfl) (pv 2))
   (ag (bw PassesOwn.never rfl (aP (mK pE (pv 0) (ko (pv 1)) z9)) (aG (i:=4) gL.nd rfl (Or.inl rfl))
    (ag (aq (i:=5) gL.nd rfl (Or.inl rfl) (aA (zd rfl) rfl B.min PyProof.Rows.boot_min (aa (gQ (own:=[("goal",6)]) rfl gL.nd (aP (ak CG hr rfl (aa (pv 4) af))) (bn rfl) (fun _ _ _ _ _=>aG (i:=6) gL.nd rfl (Or.inl rfl)) (fun _ _ _ _ _=>cF) (fun _ _ _ _ _=>aL (r:=xE K) ay (pv 3) (pv 6) (fun _ _=>rfl))) af)))
    (ah (aq (i:=3) gL.nd rfl (Or.inr rfl) (ak CP hr rfl (aa (aL ay (pv 4) (eD PySem.F.plainAttrs_list PySem.F.slot_list_index PySem.F.type_list_index mU (pv 3) (aa (pv 5) af)) (fun _ _=>rfl)) (aa (pv 3) af)))))))
   (ah (ax (pv 3)))),?_⟩
  have rl:rs.length=n:=by rw[hT.len,ok.len]
  refine ⟨_,rfl,_,rfl,_,rfl,_,rfl,t,_,rfl,SqL.of hT.lst,fun l hl=>?_⟩
  have ec:rS (rs.map V.ref) (some ((b:Nat):Int)) none=(rs.drop b).map V.ref:=by rw[yI (by rw[length_map,rl];exact hb),map_drop]
  have s1:az H (upd H l (.lst (rS (rs.map V.ref) (some ((b:Nat):Int)) none))):=al (az.refl _) hl
  have hl1:(upd H l (.lst (rS (rs.map V.ref) (some ((b:Nat):Int)) none))) l=some (.lst ((rs.drop b).map V.ref)):=by rw[ae,ec]
  generalize upd H l (.lst (rS (rs.map V.ref) (some ((b:Nat):Int)) none))=H1 at s1 hl1
  refine ⟨l,rfl,⟨_,SqL.of hl1⟩,bj (K:=K) (a:=l) (xs:=(rs.drop b).map V.ref) (fun i σ H'=>∃ (v4 v5 v6:Option V) (c:Addr) (y:List Nat),σ=[some (.ref t),some (.int (b:Nat)),some (.ref a),some (.ref c),v4,v5,v6]∧SqL K H' c (iv y)∧((i=0∧c=a)∨(H c=none∧H' c=some (.lst (iv y))))∧az H1 H'∧LB n G b (b+i) x y)
   ⟨none,none,none,a,x,rfl,s1.seq ha,.inl ⟨rfl,rfl⟩,az.refl _,LB.start hG hb xT⟩ (fun i σ H' _ ⟨_,_,_,_,_,_,_,_,s2,_⟩=>SqL.of (s2 _ _ hl1)) ?_ ?_⟩
  ·rintro i v σ H' hi ⟨v4,v5,v6,c,y,rfl,hc,hcf,s2,L⟩
   rw[getElem?_map,getElem?_drop] at hi
   obtain ⟨r,hri,rfl⟩:=Oq hi
   obtain ⟨vs,cc,hcc,hrv,hcs⟩:=hT.row (b+i) r hri
   have hin:b+i<n:=by rw[←ok.len];exact (Gq hcc).1
   have yT:=L.isT hG xT
   have gl:=Tt.dI ok FT hcc
   have s12:=s1.trans s2
   refine ⟨_,rfl,r,vs,cc,rfl,s12 _ _ hrv,hcs.same s12,(by rw[ok.row _ cc hcc];exact hn),fun H3 g hg hg3 s3=>?_⟩
   rw[gl] at hg3
   refine ⟨g,rfl,⟨_,SqL.of hg3⟩,fun D hD=>de (K:=K) (a:=g) (xs:=iv (bR n G (b+i))) (fun j H'=>az H3 H'∧H' D=some (.lst (iv (((bR n G (b+i)).take j).map (at_ y))))) ⟨al (az.refl _) hD,ae⟩ (fun j H' _ p=>SqL.of (p.1 _ _ hg3)) ?_ ?_⟩
   ·rintro j v H4 hj ⟨s4,hD'⟩
    obtain ⟨o,ho,rfl⟩:=eW hj
    have hon:o<n:=(Tt.aS.mp (mem_of_getElem? ho)).1
    refine ⟨rfl,?_⟩
    refine ⟨_,rfl,_,rfl,c,_,_,_,rfl,rfl,s4.seq (s3.seq hc),aw (eF (Bc yT hon)),_,hD',?_,aH s4 hD,?_⟩
    ·rw[aO,length_map,length_take]
     have:=Tt.di hG hin
     exact sz (by omega)
    ·rw[ae,aC ho,map_append,map_singleton,eE]
   ·rintro H5 ⟨s4,hD5⟩
    rw[aO,take_length] at hD5
    have op:=Tt.gq hG hin
    refine ⟨D,zs ((bR n G (b+i)).map (at_ y)),rfl,SqL.of (by rw[iQ];exact hD5),(by unfold zs;rw[length_map,length_map];exact op),fun m hm hml=>?_⟩
    obtain ⟨u,hu,rfl⟩:=mem_map.mp hm
    obtain ⟨j,hj,rfl⟩:=mem_map.mp hu
    have hjo:=(Tt.aS.mp hj)
    have hjn:=hjo.1
    have low:∀ k∈bR n G (b+i),at_ y j≤at_ y k:=fun k hk=>by
     have:=hml ((at_ y k:Nat):Int) (mem_map.mpr ⟨_,mem_map.mpr ⟨k,hk,rfl⟩,rfl⟩)
     omega
    have s25:=(s12.trans s3).trans s4
    have hc5:=s4.seq (s3.seq hc)
    obtain ⟨ix1,ix2,ix3⟩:=mZ yT hjn
    obtain ⟨vs2,v2,w1,w2,w3,w4⟩:=(hT.same s25).cell ok hri hjn
    obtain ⟨e,he⟩:=Option.isSome_iff_exists.mp ((FT.orb hin).mpr hjo.2)
    rw[he] at w4
    obtain ⟨ea,rfl,hea⟩:=w4
    have eo:=FT.snd.ok _ _ _ he
    have eT:=hG.isT e eo.2.1
    refine ⟨_,rfl,_,rfl,.inl ⟨rfl,_,hc5⟩,_,rfl,c,iv y,_,j,_,rfl,rfl,hc5,rfl,qF y,ix1,ix2,ix3,r,_,_,_,rfl,rfl,SqL.of w1,aw w3,_,rfl,ea,c,e,y,rfl,hea,hc5,(by rw[eT.len];omega),fun z hz=>(by rw[yT.len];exact eT.mem.mp hz),fun H7 cn hcn7 hcn7' s8=>?_⟩
    refine ⟨_,_,_,cn,Turn.mul e y,rfl,SqL.of hcn7',.inr ⟨s25.free hcn7,hcn7'⟩,((s2.trans s3).trans s4).trans s8,?_⟩
    exact L.next hG xT (Nat.le_add_right _ _) hin eo.2.1 eo.2.2.1 eo.2.2.2 hj low
  ·rintro σ H' ⟨v4,v5,v6,c,y,rfl,hc,hcf,s2,L⟩
   rw[length_map,length_drop,rl] at L hcf
   have e:b+(n-b)=n:=by omega
   rw[e] at L
   refine ⟨_,rfl,q H' c y L hc ?_ (s1.trans s2)⟩
   rcases hcf with ⟨h1,h2⟩|h
   ·exact .inl ⟨by omega,h2⟩
   ·exact .inr h
def tZ (T:Tab)(i j:Nat):Turn.Row:=(tU T i j).getD []
theorem cV:ao ["table","made","row","longer","goal","chosen"] ["table"] (aj kl):=bX
theorem qy {f:Addr}{fd:FuncData}(F:Fun K "all_turns" "all_turns" kl f fd)(B:Blt mg)(CS:Cal P w K mg base 1 "still_turn" ["things"] fc)(CG:Cal P w K mg base 1 "goals" ["row"] (fJ K))(CP:Cal P w K mg base 1 "product" ["x","y"] (bv K)):aZ P w K mg base CX0 2 f fd ["table"] (iW K):=by
 refine okF F cV (fun cdv A outer s H vs Q E hr h=>?_)
 ·obtain ⟨t,rs,T,n,G,rfl,hT,ok,hn,FT,hw,q⟩:=h
  have hG:=FT.grp
  refine ⟨_,ag (aq (i:=1) cV.nd rfl (Or.inl rfl) (aV (aa (ak CS hr rfl (aa (aA au rfl B.len PySem.boot_len (aa (pv 0) af)) af)) af)))
   (ag (bw PassesOwn.never rfl (aP (pv 0)) (aG (i:=2) cV.nd rfl (Or.inr rfl))
    (ag (aq (i:=3) cV.nd rfl (Or.inl rfl) (aV af))
    (ag (bw PassesOwn.never rfl (aP (ak CG hr rfl (aa (pv 2) af))) (aG (i:=4) cV.nd rfl (Or.inr rfl))
     (ah (aX (eD PySem.F.plainAttrs_list PySem.F.slot_list_extend PySem.F.type_list_extend fR (pv 3) (aa (gQ (own:=[("chosen",5)]) rfl cV.nd (aP (pv 1)) (bn rfl) (fun _ _ _ _ _=>aG (i:=5) cV.nd rfl (Or.inl rfl)) (fun _ _ _ _ _=>cF)
      (fun _ _ _ _ _=>ak CP hr rfl (aa (aL (r:=xE K) ay (pv 2) (pv 4) (fun _ _=>rfl)) (aa (pv 5) af)))) af)))))
    (ah (aq (i:=1) cV.nd rfl (Or.inl rfl) (pv 3))))))
   (ah (ax (pv 1)))),?_⟩
  refine ⟨_,rfl,t,_,rfl,.inl (SqL.of hT.lst),n,(by rw[length_map,hT.len,ok.len];rfl),by omega,fun H1 u hu hu1 s1=>⟨Nat.le_of_lt (sz (by show 1≤1000000;decide)),fun m0 hm0=>?_⟩⟩
  have hm0':H m0=none:=s1.free hm0
  have um:u≠m0:=am hu1 hm0
  have bnd:∀ i,i≤n→eS n G i≤1000:=fun i hi=>by
   have:∀ d,i+d≤n→eS n G i≤eS n G (i+d):=by
    intro d
    induction d with
    | zero=>intro _;exact Nat.le_refl _
    | succ d ih=>
     intro h
     have h1:=ih (by omega)
     have h2:eS n G (i+(d+1))=eS n G (i+d)*(bR n G (i+d)).length:=dJ n G (i+d)
     have h3:=Tt.gq hG (i:=i+d) (by omega)
     rw[h2]
     exact Nat.le_trans h1 (Nat.le_mul_of_pos_right _ h3)
   have h:=this (n-i) (by omega)
   have e:i+(n-i)=n:=by omega
   rw[e,lq] at h
   omega
  have entok:∀ i,i<n→∀ j∈bR n G i,G (tZ T i j)∧Fix (tZ T i j) i∧at_ (tZ T i j) i=j:=fun i hi j hj=>by
   obtain ⟨e,he⟩:=Option.isSome_iff_exists.mp ((FT.orb hi).mpr (Tt.aS.mp hj).2)
   have eo:=FT.snd.ok _ _ _ he
   unfold tZ
   rw[he]
   exact ⟨eo.2.1,eo.2.2.1,eo.2.2.2⟩
  refine ⟨_,rfl,t,rfl,⟨_,SqL.of (al s1 hm0 _ _ hT.lst)⟩,bj (K:=K) (a:=t) (xs:=rs.map V.ref) (fun i σ H'=>∃ (v2 v3 v4 v5:Option V) (mA:Addr) (es:List Addr) (mk:List Turn.Row),σ=[some (.ref t),some (.ref mA),v2,v3,v4,v5]∧H mA=none∧H' mA=some (.lst (es.map V.ref))∧bA H' es mk∧(∀ e∈es,H e=none)∧az H H'∧gC n G i mk∧mk.length=eS n G i)
   ⟨none,none,none,none,m0,[u],[Turn.still n],rfl,hm0',ae,bA.nil.snoc (by rw[ai um];exact hu1),fun e he=>(by rw[Ms he];exact hu),aH s1 hm0',gC.start hG,rfl⟩ (fun i σ H' _ ⟨_,_,_,_,_,_,_,_,_,_,_,_,s2,_⟩=>SqL.of (s2 _ _ hT.lst)) ?_ ?_⟩
  ·rintro i v σ H' hi ⟨v2,v3,v4,v5,mA,es,mk,rfl,hmn,hm,hR,hes,s2,I,hml⟩
   rw[getElem?_map] at hi
   obtain ⟨r,hri,rfl⟩:=Oq hi
   obtain ⟨vs,cc,hcc,hrv,hcs⟩:=hT.row i r hri
   have hin:i<n:=by rw[←ok.len];exact (Gq hcc).1
   have gl:=Tt.dI ok FT hcc
   refine ⟨Nat.zero_le _,fun lA hlA=>?_⟩
   have hlAn:H lA=none:=s2.free hlA
   have s3:az H' (upd H' lA (.lst [])):=al (az.refl _) hlA
   have hl3:(upd H' lA (.lst [])) lA=some (.lst []):=ae
   generalize upd H' lA (.lst [])=H3 at s3 hl3
   have s23:=s2.trans s3
   refine ⟨_,rfl,r,vs,cc,rfl,s23 _ _ hrv,hcs.same s23,(by rw[ok.row _ cc hcc];exact hn),fun H4 g hg hg4 s4=>?_⟩
   rw[gl] at hg4
   have s24:=s23.trans s4
   have lg:lA≠g:=am hl3 hg
   have blen:∀ j,(((bR n G i).take j).flatMap fun o=>mk.map (Turn.mul (tZ T i o))).length≤1000:=fun j=>by
    have h1:∀ l:List Nat,(l.flatMap fun o=>mk.map (Turn.mul (tZ T i o))).length=l.length*mk.length:=by
     intro l
     induction l with
     | nil=>simp
     | cons a l ih=>rw[flatMap_cons,length_append,ih,length_map,length_cons,Nat.add_mul,Nat.one_mul,Nat.add_comm]
    rw[h1,length_take,hml]
    have h2:=bnd (i+1) (by omega)
    rw[dJ,Nat.mul_comm] at h2
    exact Nat.le_trans (Nat.mul_le_mul_right _ (Nat.min_le_right _ _)) h2
   refine ⟨g,rfl,⟨_,SqL.of hg4⟩,bj (K:=K) (a:=g) (xs:=iv (bR n G i)) (fun j σ H5=>∃ (v4 v5:Option V) (ls:List Addr),σ=[some (.ref t),some (.ref mA),some (.ref r),some (.ref lA),v4,v5]∧H5 g=some (.lst (iv (bR n G i)))∧H5 lA=some (.lst (ls.map V.ref))∧lA∉ls∧bA H5 ls (((bR n G i).take j).flatMap fun o=>mk.map (Turn.mul (tZ T i o)))∧(∀ e∈ls,H e=none)∧az H' H5)
    ⟨_,_,[],rfl,hg4,s4 _ _ hl3,fun z=>(by cases z),by rw[take_zero];exact bA.nil,fun e he=>(by cases he),s3.trans s4⟩ (fun j σ H5 _ ⟨_,_,_,_,hg5,_⟩=>SqL.of hg5) ?_ ?_⟩
   ·rintro j v σ H5 hj ⟨v4,v5,ls,rfl,hg5,hl5,hln,hRl,hls,s5⟩
    obtain ⟨o,ho,rfl⟩:=eW hj
    have hom:=mem_of_getElem? ho
    have hon:o<n:=(Tt.aS.mp hom).1
    have s25:=s2.trans s5
    obtain ⟨vs2,v2',w1,w2,w3,w4⟩:=(hT.same s25).cell ok hri hon
    obtain ⟨e,he⟩:=Option.isSome_iff_exists.mp ((FT.orb hin).mpr (Tt.aS.mp hom).2)
    rw[he] at w4
    obtain ⟨ea,rfl,hea⟩:=w4
    have ee:tZ T i o=e:=by unfold tZ;rw[he];rfl
    have eT:=hG.isT e (FT.snd.ok _ _ _ he).2.1
    refine ⟨_,rfl,.inl ⟨rfl,_,SqL.of hl5⟩,_,rfl,mA,rfl,⟨_,SqL.of (s5 _ _ hm)⟩,fun D hD=>de (K:=K) (a:=mA) (xs:=es.map V.ref) (fun m H6=>∃ ds:List Addr,H6 D=some (.lst (ds.map V.ref))∧D∉ds∧bA H6 ds ((mk.take m).map (Turn.mul e))∧(∀ d∈ds,H5 d=none)∧az H5 H6)
     ⟨[],ae,fun z=>(by cases z),by rw[take_zero];exact bA.nil,fun d hd=>(by cases hd),al (az.refl _) hD⟩ (fun m H6 _ ⟨_,_,_,_,_,s6⟩=>SqL.of (s6 _ _ (s5 _ _ hm))) ?_ ?_⟩
    ·rintro m v H6 hm6 ⟨ds,hD6,hDd,hRd,hds,s6⟩
     rw[getElem?_map] at hm6
     obtain ⟨xa,hxa,rfl⟩:=Oq hm6
     obtain ⟨z,hz,hzq⟩:=hR.get hxa
     have zT:=hG.isT z (I.mem z (mem_of_getElem? hz))
     have s56:=s5.trans s6
     refine ⟨rfl,?_⟩
     refine ⟨_,rfl,_,rfl,r,_,_,_,rfl,rfl,SqL.of (s6 _ _ w1),aw w3,_,rfl,ea,xa,e,z,rfl,s6.seq hea,SqL.of (s56 _ _ hzq),(by rw[eT.len];omega),fun c hc=>(by rw[zT.len];exact eT.mem.mp hc),fun H7 p hp hp7 s7=>?_⟩
     have pD:D≠p:=am hD6 hp
     refine ⟨_,s7 _ _ hD6,?_,ds++[p],(by rw[ae,map_append];rfl),fun z=>?_,?_,fun d hd=>?_,aH (s6.trans s7) hD⟩
     ·have h1:=bnd i (by omega)
      rw[length_map,hRd.len,length_map,length_take,hml]
      exact sz (by omega)
     ·rcases Ma z with z|z
      ·exact hDd z
      ·exact pD (Ms z)
     ·rw[aC hz,map_append]
      exact ((hRd.same s7).put hDd).snoc (by rw[ai (fun z=>pD z.symm)];exact hp7)
     ·rcases Ma hd with z|z
      ·exact hds d z
      ·rw[Ms z];exact s6.free hp
    ·rintro H6 ⟨ds,hD6,hDd,hRd,hds,s6⟩
     rw[length_map,hR.len,take_length] at hRd
     have hl6:=s6 _ _ hl5
     have lD:lA≠D:=am hl5 hD
     have lds:lA∉ds:=fun z=>by have:=hds lA z;rw[hl5] at this;cases this
     have step:((bR n G i).take (j+1)).flatMap (fun o=>mk.map (Turn.mul (tZ T i o)))=((bR n G i).take j).flatMap (fun o=>mk.map (Turn.mul (tZ T i o)))++mk.map (Turn.mul e):=by
      rw[aC ho,flatMap_append]
      simp[ee]
     refine ⟨lA,D,_,_,rfl,rfl,hl6,hD6,?_,?_⟩
     ·have h1:=blen (j+1)
      rw[step,length_append,length_map] at h1
      rw[length_map,length_map,hRl.len,hRd.len,length_map]
      exact Nat.le_of_lt (sz (by omega))
     refine ⟨_,_,ls++ds,rfl,?_,(by rw[ae,map_append]),fun z=>?_,?_,fun e' he'=>?_,aH (s5.trans s6) hlA⟩
     ·rw[ai (fun z=>by rw[z,hl5] at hg5;exact cZ (Tt.gq hG hin) (Oi hg5))];exact s6 _ _ hg5
     ·rcases Ma z with z|z
      ·exact hln z
      ·exact lds z
     ·rw[step]
      exact ((hRl.same s6).put hln).append (hRd.put lds)
     ·rcases Ma he' with z|z
      ·exact hls e' z
      ·exact s25.free (hds e' z)
   ·rintro σ H5 ⟨v4,v5,ls,rfl,hg5,hl5,hln,hRl,hls,s5⟩
    rw[aO,take_length] at hRl
    refine ⟨_,rfl,_,_,_,_,lA,ls,_,rfl,hlAn,hl5,hRl,hls,s2.trans s5,I.next hG hin (entok i hin) (fun z=>?_),?_⟩
    ·rw[mem_flatMap]
     constructor
     ·rintro ⟨o,ho,hz⟩
      obtain ⟨y,hy,rfl⟩:=mem_map.mp hz
      exact ⟨o,ho,y,hy,rfl⟩
     ·rintro ⟨o,ho,y,hy,rfl⟩
      exact ⟨o,ho,mem_map.mpr ⟨y,hy,rfl⟩⟩
    ·have h1:∀ l:List Nat,(l.flatMap fun o=>mk.map (Turn.mul (tZ T i o))).length=l.length*mk.length:=by
      intro l
      induction l with
      | nil=>simp
      | cons a l ih=>rw[flatMap_cons,length_append,ih,length_map,length_cons,Nat.add_mul,Nat.one_mul,Nat.add_comm]
     rw[h1,hml,dJ,Nat.mul_comm]
  ·rintro σ H' ⟨v2,v3,v4,v5,mA,es,mk,rfl,hmn,hm,hR,hes,s2,I,hml⟩
   rw[length_map,hT.len,ok.len] at I hml
   exact ⟨_,rfl,q H' mA es mk hmn hm hR (I.done hG) (by rw[hml];exact bnd n (Nat.le_refl _)) hes s2⟩
theorem sB:ao ["table","things","kept","place","goal","orbits"] ["table"] (aj sOwn):=bX
theorem Bq {f:Addr}{fd:FuncData}(F:Fun K "own_turns" "own_turns" sOwn f fd)(B:Blt mg)(CG:Cal P w K mg base 1 "goals" ["row"] (fJ K))(CO:Cal P w K mg base 2 "orbit_parting" ["things","given"] (io K))(CL:Cal P w K mg base 2 "least_before" ["table","start","x"] (lZ K)):aZ P w K mg base CX0 3 f fd ["table"] (zx K):=by
 refine okF F sB (fun cdv A outer s H vs Q E hr h=>?_)
 ·obtain ⟨t,rs,T,n,gens,rfl,hT,ok,h0,hn,hgd,FT,q⟩:=h
  have hG:=FT.grp
  have hr1:bO 1 _:=hr.mono (by decide)
  obtain ⟨tb1,tb2⟩:=hgd.table hn
  have hm:∀ i j,i<n→j≠i→Orb (aE n gens) i j→fF n (aE n gens) i j (Turn.leastAt n (Turn.tableOf n gens) i j):=fun i j hi _ ho=>Tt.gt tb1 tb2 hi ho
  have eown:=Tt.vy hn hgd hm
  have oks:=Tt.mN hn hG hm
  generalize Turn.leastAt n (Turn.tableOf n gens)=m at hm eown oks
  refine ⟨_,ag (aq (i:=1) sB.nd rfl (Or.inl rfl) (aA au rfl B.len PySem.boot_len (aa (pv 0) af)))
   (ag (aq (i:=2) sB.nd rfl (Or.inl rfl) (aV af))
   (ag (bw PassesOwn.never rfl (vn rfl B.range (aa (dq yW (pv 1) aB) (aa (xK qV aB) (aa (xK qV aB) af)))) (aG (i:=3) sB.nd rfl (Or.inl rfl))
    (ah (bw PassesOwn.never rfl (aP (ak CG hr1 rfl (aa (aL ay (pv 0) (pv 3) (fun _ _=>rfl)) af))) (aG (i:=4) sB.nd rfl (Or.inl rfl))
     (ag (aq (i:=5) sB.nd rfl (Or.inl rfl) (ak CO hr rfl (aa (pv 1) (aa (pv 2) af))))
     (ah (dz (aU xO (aL ay (pv 5) (pv 4) (fun _ _=>rfl)) (aL ay (pv 5) (pv 3) (fun _ _=>rfl)) (be _))
      (ah (aX (eD PySem.F.plainAttrs_list PySem.F.slot_list_append PySem.F.type_list_append bZ (pv 2) (aa (ak CL hr rfl (aa (pv 0) (aa (dq d9 (pv 3) aB) (aa (aL ay (aL ay (pv 0) (pv 3) (fun _ _=>rfl)) (pv 4) (fun _ _=>rfl)) af)))) af)))) bi))))))
   (ah (ax (pv 2))))),?_⟩
  have rl:rs.length=n:=by rw[hT.len,ok.len]
  refine ⟨_,rfl,t,_,rfl,.inl (SqL.of hT.lst),?_⟩
  rw[length_map,rl]
  refine ⟨Nat.zero_le _,fun kA hkA=>?_⟩
  have s1:az H (upd H kA (.lst [])):=al (az.refl _) hkA
  have hk1:(upd H kA (.lst [])) kA=some (.lst []):=ae
  generalize upd H kA (.lst [])=H1 at s1 hk1
  have lensmall:∀ k,k≤n→(fD n (aE n gens) m k).length≤45:=fun k hk=>(oks k hk).2.1.good hn
  refine ⟨_,rfl,_,_,rfl,rfl,1,rfl,1,rfl,((n:Nat):Int)-1,-1,-1,n,rfl,?_,?_⟩
  ·have:=RgC.neg (i:=((n:Nat):Int)-1) (j:=-1) (by omega) (by omega) (by omega) (by omega)
   have e:(((n:Nat):Int)-1 - -1).toNat=n:=by omega
   rw[e] at this
   exact this
  refine tH (lo:=((n:Nat):Int)-1) (c:=-1) (n:=n) (fun k σ H'=>∃ (v3 v4 v5:Option V) (es:List Addr),σ=[some (.ref t),some (.int (n:Nat)),some (.ref kA),v3,v4,v5]∧H' kA=some (.lst (es.map V.ref))∧aF K H' es (fD n (aE n gens) m k)∧(∀ e∈es,Rf H rs e∨New H H' e)∧az H H')
   ⟨none,none,none,[],rfl,hk1,aF.nil,fun e he=>(by cases he),s1⟩ ?_ ?_
  ·rintro k σ H' hk ⟨v3,v4,v5,es,rfl,hkA',hR,hes,s2⟩
   have ep:((n:Nat):Int)-1+((k:Nat):Int)*-1=((n-1-k:Nat):Int):=by omega
   rw[ep]
   have hin:n-1-k<n:=by omega
   generalize hi':n-1-k=i at hin
   have estep:fD n (aE n gens) m (k+1)=dM n m i (bR n (aE n gens) i) (fD n (aE n gens) m k):=by rw[←hi'];rfl
   obtain ⟨r,hri⟩:∃ r,rs[i]?=some r:=⟨_,getElem?_eq_getElem (by rw[rl];exact hin)⟩
   obtain ⟨vs,cc,hcc,hrv,hcs⟩:=hT.row i r hri
   have gl:=Tt.dI ok FT hcc
   have href:(rs.map V.ref)[i]?=some (V.ref r):=by rw[getElem?_map,hri];rfl
   obtain ⟨o1,o2,o3,o4⟩:=oks k (by omega)
   have e1:n-k=i+1:=by omega
   rw[e1] at o3 o4
   have OI:Tt.lQ n (aE n gens) i (fD n (aE n gens) m k):=⟨o2,fun z hz=>⟨(o3 z hz).1,(o3 z hz).2.mono (by omega)⟩,o4⟩
   refine ⟨_,rfl,_,rfl,t,_,_,_,rfl,rfl,SqL.of (s2 _ _ hT.lst),aw href,r,vs,cc,rfl,s2 _ _ hrv,hcs.same s2,(by rw[ok.row _ cc hcc];exact hn),fun H4 g hg hg4 s4=>?_⟩
   rw[gl] at hg4
   have s24:=s2.trans s4
   refine ⟨g,rfl,⟨_,SqL.of hg4⟩,bj (K:=K) (a:=g) (xs:=iv (bR n (aE n gens) i)) (fun j σ H5=>∃ (v4 v5:Option V) (es:List Addr),σ=[some (.ref t),some (.int (n:Nat)),some (.ref kA),some (.int (i:Nat)),v4,v5]∧H5 g=some (.lst (iv (bR n (aE n gens) i)))∧H5 kA=some (.lst (es.map V.ref))∧aF K H5 es (dM n m i ((bR n (aE n gens) i).take j) (fD n (aE n gens) m k))∧(∀ e∈es,Rf H rs e∨New H H5 e)∧az H H5)
    ⟨_,_,es,rfl,hg4,s4 _ _ hkA',by rw[take_zero];exact hR.same s4,fun e he=>(hes e he).imp id fun z=>⟨z.1,cb s4 z.2⟩,s24⟩ (fun j σ H5 _ ⟨_,_,_,_,hg5,_⟩=>SqL.of hg5) ?_ ?_⟩
   ·rintro j v σ H5 hj ⟨v4,v5,es,rfl,hg5,hk5,hR5,hes5,s5⟩
    obtain ⟨o,ho,rfl⟩:=eW hj
    have hom:=mem_of_getElem? ho
    have hon:o<n:=(Tt.aS.mp hom).1
    have hoo:=(Tt.aS.mp hom).2
    obtain ⟨q1,q2⟩:=Tt.eU hn hG hm hin ((bR n (aE n gens) i).take j) _ OI fun x hx=>(Tt.aS.mp (mem_of_mem_take hx)).2
    have estep2:dM n m i ((bR n (aE n gens) i).take (j+1)) (fD n (aE n gens) m k)=Tt.dc n m i (dM n m i ((bR n (aE n gens) i).take j) (fD n (aE n gens) m k)) o:=by
     rw[aC ho]
     unfold dM
     rw[foldl_append];rfl
    generalize dM n m i ((bR n (aE n gens) i).take j) (fD n (aE n gens) m k)=kept at q2 hR5 estep2
    clear q1
    obtain ⟨pl1,pl2⟩:=Tt.dN q2.lean.isT
    refine ⟨_,rfl,_,rfl,n,kA,es,kept,rfl,⟨SqL.of hk5,hR5,q2.lean.isT⟩,hn,fun H6 ob hob hob6 s6=>?_⟩
    have s56:=s5.trans s6
    have oget:∀ a,a<n→(leasts n kept)[a]?=some (at_ (leasts n kept) a):=fun a ha=>by
     rw[getElem?_eq_getElem (pl1.len.symm▸ha),Tt.cU (pl1.len.symm▸ha)]
    refine ⟨_,rfl,_,rfl,ob,_,_,_,rfl,rfl,SqL.of hob6,aw (eF (oget o hon)),_,rfl,_,rfl,ob,_,_,_,rfl,rfl,SqL.of hob6,aw (eF (oget i hin)),rfl,_,rfl,lw (fun hne=>?_) fun heq=>?_⟩
    ·have hne':¬at_ (leasts n kept) o=at_ (leasts n kept) i:=fun z=>hne (by rw[z])
     have hoi:o≠i:=fun z=>hne' (by rw[z])
     have est:Tt.dc n m i kept o=kept++[m i o]:=by unfold Tt.dc;rw[if_neg hne']
     obtain ⟨vs2,v2',w1,w2,w3,w4⟩:=(hT.same s56).cell ok hri hon
     obtain ⟨e,he⟩:=Option.isSome_iff_exists.mp ((FT.orb hin).mpr hoo)
     rw[he] at w4
     obtain ⟨ea,rfl,hea⟩:=w4
     have eo:=FT.snd.ok _ _ _ he
     have eT:=hG.isT e eo.2.1
     refine ⟨_,rfl,.inl ⟨rfl,_,SqL.of (s6 _ _ hk5)⟩,_,rfl,_,rfl,_,_,rfl,rfl,_,rfl,_,rfl,t,_,_,_,rfl,rfl,SqL.of (s56 _ _ hT.lst),aw href,_,rfl,r,_,_,_,rfl,rfl,SqL.of w1,aw w3,?_⟩
     have ei:((i:Nat):Int)+1=((i+1:Nat):Int):=by omega
     dsimp only
     rw[ei]
     refine ⟨t,ea,rs,T,n,i+1,aE n gens,e,rfl,hT.same s56,hea,ok,hn,FT,eT,by omega,fun H7 p y hLB hpq hpf s7=>?_⟩
     have hL:=hLB.least hG hin eo.2.1 eo.2.2.1 eo.2.2.2
     have ey:y=m i o:=Tt.fF.unique hG hin (hm i o hin hoi hoo) hL
     subst ey
     have s57:=s56.trans s7
     have hk7:=s7 _ _ (s6 _ _ hk5)
     have ypos:0<(m i o).length:=by rw[(hG.isT _ hL.mem).len];exact h0
     refine ⟨kA,_,_,rfl,rfl,hk7,(by rw[length_map,hR5.len];have:=q2.lean.good hn;exact sz (by omega)),?_⟩
     have sk:aT [kA] H7 (upd H7 kA (.lst (es.map V.ref++[V.ref p]))):=(aT.refl _ _).row (by simp)
     have apk:d3 H7 [kA]:=fun z hz ob ho=>by
      rw[Ms hz,hk7] at ho
      cases ho
      exact ⟨fun _ hx=>cZ hx,fun _ _ z=>(by cases z)⟩
     refine ⟨_,_,es++[p],rfl,?_,(by rw[ae,map_append];rfl),?_,fun e' he'=>?_,aH s57 hkA⟩
     ·rw[ai (fun z=>by rw[z,hk5] at hg5;exact cZ (Tt.gq hG hin) (Oi hg5))]
      exact s7 _ _ (s6 _ _ hg5)
     ·rw[estep2,est]
      exact (gP sk apk (fun x hx=>by rw[(q2.lean.isT x hx).len];exact h0) ((hR5.same s6).same s7)).snoc (sqX sk apk ypos hpq)
     ·rcases Ma he' with z|z
      ·exact (hes5 e' z).imp id fun z=>⟨z.1,cS (cb s7 (cb s6 z.2))⟩
      ·rw[Ms z]
       rcases hpf with ⟨_,w'⟩|⟨w1',w2'⟩
       ·subst w'
        obtain ⟨vs3,_,u1,_,u3,_⟩:=hT.cell ok hri hon
        refine .inl ⟨r,mem_of_getElem? hri,vs3,u1,?_⟩
        have:=s56 _ _ u1
        rw[w1] at this
        cases this
        exact mem_of_getElem? w3
       ·exact .inr ⟨s56.free w1',cS (there w2')⟩
    ·have heq':at_ (leasts n kept) o=at_ (leasts n kept) i:=by have:=V.int.inj heq;omega
     have est:Tt.dc n m i kept o=kept:=by unfold Tt.dc;rw[if_pos heq']
     refine ⟨_,_,es,rfl,s6 _ _ hg5,s6 _ _ hk5,by rw[estep2,est];exact hR5.same s6,fun e he=>(hes5 e he).imp id fun z=>⟨z.1,cb s6 z.2⟩,s56⟩
   ·rintro σ H5 ⟨v4,v5,es,rfl,hg5,hk5,hR5,hes5,s5⟩
    rw[aO,take_length,←estep] at hR5
    exact ⟨_,_,_,es,rfl,hk5,hR5,hes5,s5⟩
  ·rintro σ H' ⟨v3,v4,v5,es,rfl,hkA',hR,hes,s2⟩
   rw[eown] at hR
   exact ⟨_,rfl,q H' kA es hkA hkA' hR hes s2⟩
end
end Bt
namespace Bt
open PySem PySem.Spec PyProof.Rows L2
open PySem.W (Codec)
open Tt (Tab tU TOk aR md bS aE Grp IsT wt gz Clo)
abbrev pY:Stmt:=top 48
abbrev mC:Stmt:=top 49
abbrev pP:Stmt:=top 50
abbrev mw:Stmt:=top 51
abbrev uD:Stmt:=top 52
theorem zm {H H1 H2:Hp}{rs:List Addr}(s:az H H1)(x:aT rs H1 H2)(h:∀ r∈rs,H r=none):az H H2:=fun b o e=>x b o (s b o e) fun z=>by rw[h b z] at e;cases e
theorem cX {H:Hp}{a:Addr}{es:List Addr}(h:H a=some (.lst (es.map V.ref))):d3 H [a]:=fun m hm o ho=>by
 rw[Ms hm,h] at ho
 cases ho
 exact ⟨fun _ hx=>cZ hx,fun _ _ z=>by cases z⟩
theorem sx1 {H:Hp}{a:Addr}{o:HO}:aT [a] H (upd H a o):=(aT.refl _ _).row (by simp)
theorem bt.apart {K:Frag}{H:Hp}{t:Addr}{rs:List Addr}{T:Tab}(h:bt K H t rs T):d3 H rs:=fun m hm ob ho=>by
 obtain ⟨i,hi⟩:=getElem?_of_mem hm
 obtain ⟨vs,c,_,k2,k3⟩:=h.row i m hi
 rw[k2] at ho
 cases ho
 exact ⟨fun _ hx=>gv k3 hx,fun _ _ z=>by cases z⟩
theorem aF.append {K:Frag}{H:Hp}{es es':List Addr}{l l':List Turn.Row}(h:aF K H es l)(h':aF K H es' l'):aF K H (es++es') (l++l'):=by
 refine ⟨by rw[length_append,length_append,h.len,h'.len],fun i e x h1 h2=>?_⟩
 rw[getElem?_append] at h1 h2
 rw[h.len] at h1
 split at h1
 ·rename_i hlt
  rw[if_pos hlt] at h2
  exact h.at_ i e x h1 h2
 ·rename_i hlt
  rw[if_neg hlt] at h2
  exact h'.at_ _ e x h1 h2
theorem aF.cut {K:Frag}{H:Hp}{es:List Addr}{e:Addr}{l:List Turn.Row}{x:Turn.Row}(h:aF K H (es++[e]) (l++[x])):aF K H es l∧SqL K H e (iv x):=by
 have hl:es.length=l.length:=by have:=h.len;simp at this;exact this
 refine ⟨⟨hl,fun i e' x' h1 h2=>h.at_ i e' x' ?_ ?_⟩,h.at_ es.length e x (by simp) (by rw[hl];simp)⟩
 ·rw[getElem?_append_left (Gq h1).1];exact h1
 ·rw[getElem?_append_left (Gq h2).1];exact h2
theorem New.up {H H1 H2:Hp}{e:Addr}(h:New H H1 e)(g:H1 e≠none→H2 e≠none):New H H2 e:=⟨h.1,g h.2⟩
theorem wB {H H':Hp}{rs:List Addr}(s:aT rs H H')(hr:∀ r∈rs,H' r≠none){e:Addr}(h:H e≠none):H' e≠none:=by
 by_cases q:e∈rs
 ·exact hr e q
 ·cases z:H e with
  | none=>exact absurd z h
  | some o=>exact there (s e o z q)
def r9 (K:Frag)(H:Hp)(Q:VK)(n:Nat)(old:Addr→Prop)(ok:List Turn.Row→Prop):Prop:=
 ∀ (H':Hp) (t:Addr) (rs:List Addr) (T:Tab) (s:List Turn.Row),H t=none→(∀ r∈rs,H r=none)→bt K H' t rs T→TOk n T→(∀ g∈s,IsT n g)→bS n (aE n s) (tU T)→ok s→(∀ e,Rf H' rs e→old e∨New H H' e)→az H H'→Q (.ref t) H'
inductive jF (K:Frag) (vs:List V) (H:Hp) (Q:VK) (E:XK):Prop
 | mk (n:Nat) (fA gA:Addr) (fs gs:List Addr) (first given:List Turn.Row):vs=[.int (n:Nat),.ref fA,.ref gA]→dh K H n fA fs first→dh K H n gA gs given→0<n→n≤9→first.length≤10000→given.length≤100→r9 K H Q n (·∈fs) (fun s=>Clo n first given s [])→jF K vs H Q E
def iL (given:List Turn.Row):List Turn.Row:=given.flatMap fun x=>given.map (commutator x)
inductive j3 (K:Frag) (vs:List V) (H:Hp) (Q:VK) (E:XK):Prop
 | mk (n:Nat) (gA:Addr) (gs:List Addr) (given:List Turn.Row):vs=[.int (n:Nat),.ref gA]→dh K H n gA gs given→0<n→n≤9→given.length≤100→r9 K H Q n (fun _=>False) (fun s=>Clo n (iL given) given s [])→j3 K vs H Q E
inductive lX (K:Frag) (vs:List V) (H:Hp) (Q:VK) (E:XK):Prop
 | mk (n:Nat) (t1 t2:Addr) (rs1 rs2:List Addr) (T1 T2:Tab) (G1 G2:Turn.Row→Prop):vs=[.ref t1,.ref t2]→bt K H t1 rs1 T1→TOk n T1→bS n G1 (tU T1)→wt n G1 0≤1000→bt K H t2 rs2 T2→TOk n T2→bS n G2 (tU T2)→0<n→n≤9→(r9 K H Q n (fun _=>False) (fun s=>s.length≤1000∧∀ z,aE n s z↔G1 z∧G2 z))→lX K vs H Q E
inductive j0 (K:Frag) (vs:List V) (H:Hp) (Q:VK) (E:XK):Prop
 | mk (n:Nat) (t1 gA:Addr) (rs1 gs:List Addr) (T1:Tab) (gens given:List Turn.Row):vs=[.ref t1,.ref gA]→bt K H t1 rs1 T1→TOk n T1→bS n (aE n gens) (tU T1)→(∀ g∈gens,IsT n g)→dh K H n gA gs given→0<n→n≤9→r9 K H Q n (fun e=>Rf H rs1 e∨e∈gs) (fun s=>s=gens++given)→j0 K vs H Q E
inductive pi (K:Frag) (vs:List V) (H:Hp) (Q:VK) (E:XK):Prop
 | mk (n:Nat) (gA t mA:Addr) (gs rs ms:List Addr) (T:Tab) (G:Turn.Row→Prop) (given mb:List Turn.Row):vs=[.ref gA,.ref t,.ref mA]→dh K H n gA gs given→bt K H t rs T→TOk n T→bS n G (tU T)→dh K H n mA ms mb→mb.length≤1000→n≤9→(∀ (H':Hp) (b:Bool),(b=true↔∀ x∈mb,∀ y∈given,G (conjugate x y))→az H H'→Q (.bl b) H')→pi K vs H Q E
theorem l8 {α:Type}{l:List α}(h:0<l.length):∃ p x,l=p++[x]:=⟨l.dropLast,l.getLast (ne_nil_of_length_pos h),(dropLast_concat_getLast _).symm⟩
theorem rW {n:Nat}{x y:Turn.Row}(hx:IsT n x)(hy:IsT n y):IsT n (commutator x y):=hx.inverse.mul (Tt.cO hx hy)
section
variable {P:Program} {w:World} {K:Frag} {mg:Str→Option Value} {base:Heap}
theorem gj:ao ["things","first","given","table","pending","x","y"] ["things","first","given"] (aj pY):=bX
theorem vO {f:Addr}{fd:FuncData}(F:Fun K "closed_table" "closed_table" pY f fd)(B:Blt mg)(CT:Cal P w K mg base 2 "table_without_turns" ["things"] (il K))(CM:Cal P w K mg base 4 "makes" ["table","x"] (ff K))
  (CA:Cal P w K mg base 4 "add_turn" ["table","x"] (eN K))(CL:Cal P w K mg base 3 "taken_along" ["x","y"] (iV K)):aZ P w K mg base CX0 5 f fd ["things","first","given"] (jF K):=by
 refine okF F gj (fun cdv A outer s H vs Q E hr h=>?_)
 ·obtain ⟨n,fA,gA,fs,gs,first,given,rfl,hf,hg,h0,hn,hfl,hgl,q⟩:=h
  have hr2:bO 2 _:=hr.mono (by decide)
  have hr3:bO 3 _:=hr.mono (by decide)
  refine ⟨_,ag (aq (i:=3) gj.nd rfl (Or.inl rfl) (ak CT hr2 rfl (aa (pv 0) af)))
   (ag (aq (i:=4) gj.nd rfl (Or.inl rfl) (cu jz rfl B.list (by decide +kernel) (aa (pv 1) af)))
   (ag (dj PassesOwn.never (aU qk (aA au rfl B.len PySem.boot_len (aa (pv 4) af)) aB (be _))
    (ag (aq (i:=5) gj.nd rfl (Or.inr rfl) (vw PySem.F.plainAttrs_list PySem.F.slot_list_pop PySem.F.type_list_pop vY (pv 4)))
    (ah (dz (iF (fO (ak CM hr rfl (aa (pv 3) (aa (pv 5) af)))))
     (ag (aX (ak CA hr rfl (aa (pv 3) (aa (pv 5) af))))
     (ah (aX (eD PySem.F.plainAttrs_list PySem.F.slot_list_extend PySem.F.type_list_extend fR (pv 4) (aa (gQ (own:=[("y",6)]) rfl gj.nd (aP (pv 2)) (bn rfl) (fun _ _ _ _ _=>aG (i:=6) gj.nd rfl (Or.inl rfl)) (fun _ _ _ _ _=>cF)
      (fun _ _ _ _ _=>ak CL hr3 rfl (aa (pv 5) (aa (pv 6) af)))) af))))) bi))))
   (ah (ax (pv 3))))),?_⟩
  refine ⟨_,rfl,n,rfl,hn,fun H1 t rs ht hrs htr hT1 hrf1 s1=>?_⟩
  refine ⟨_,rfl,fA,_,rfl,.inl (s1.seq hf.lst),fun pA hpA=>?_⟩
  have hpn:H pA=none:=s1.free hpA
  have prs:pA∉rs:=fun z=>hT1.tracked pA z hpA
  have pt:pA≠t:=fun z=>by rw[z,hT1.lst] at hpA;cases hpA
  have s2:az H1 (upd H1 pA (.lst (fs.map V.ref))):=al (az.refl _) hpA
  have hp2:(upd H1 pA (.lst (fs.map V.ref))) pA=some (.lst (fs.map V.ref)):=ae
  generalize upd H1 pA (.lst (fs.map V.ref))=H2 at s2 hp2
  have s12:=s1.trans s2
  refine ⟨fun m σ H'=>∃ (v5 v6:Option V) (T:Tab) (sg:List Turn.Row) (es:List Addr) (pend:List Turn.Row),σ=[some (.int (n:Nat)),some (.ref fA),some (.ref gA),some (.ref t),some (.ref pA),v5,v6]∧H' pA=some (.lst (es.map V.ref))∧aF K H' es pend∧bt K H' t rs T∧TOk n T∧bS n (aE n sg) (tU T)∧Clo n first given sg pend∧
    (∀ e∈es,e∈fs∨New H H' e)∧(∀ e,Rf H' rs e→e∈fs∨New H H' e)∧az H H'∧m=(46-sg.length)*101+pend.length∧m≤20000,
   ⟨_,none,none,aR n,[],fs,first,rfl,hp2,hf.rows.same s12,hT1.same s2,Tt.cq n,Tt.dw n,Clo.start hf.isT,fun e he=>.inl he,fun e he=>.inr (New.up (hrf1 e (Rf.back (fun m _ o ho=>s2 m o ho) hT1.tracked he)) (cb s2)),s12,rfl,(by simp only[length_nil];omega)⟩,?_⟩
  rintro m σ H' ⟨v5,v6,T,sg,es,pend,rfl,hp,hR,hT,ok,FT,C,hes,hrf,s3,rfl,hmb⟩
  refine ⟨_,rfl,pA,_,rfl,.inl (SqL.of hp),_,_,rfl,rfl,_,rfl,eX (fun hlt=>?_) fun hge=>?_⟩
  ·rw[length_map] at hlt
   have hel:0<es.length:=by omega
   obtain ⟨es',xa,rfl⟩:=l8 hel
   have hpl:0<pend.length:=by rw[←hR.len];exact hel
   obtain ⟨pd,x,rfl⟩:=l8 hpl
   obtain ⟨hR',hx⟩:=hR.cut
   have xT:=C.pT x (by simp)
   have xpos:0<x.length:=by rw[xT.len];exact h0
   have ppos:∀ y∈pd,0<y.length:=fun y hy=>by rw[(C.pT y (by simp[hy])).len];exact h0
   refine ⟨_,fun σ' H'' h=>h,?_⟩
   refine ⟨_,rfl,.inl ⟨rfl,_,SqL.of hp⟩,pA,_,V.ref xa,rfl,rfl,hp,(by simp),?_⟩
   have edl:((es'++[xa]).map V.ref).dropLast=es'.map V.ref:=by simp
   rw[edl]
   have ap:=cX hp
   have sx:aT [pA] H' (upd H' pA (.lst (es'.map V.ref))):=sx1
   have hT4:=zn sx ap ok (bS.ents FT) h0 (by simpa using fun z=>pt z.symm) (fun r hr=>by simpa using fun z=>prs (by rw[←z];exact hr)) hT
   have hR4:=gP sx ap ppos hR'
   have hx4:=sqX sx ap xpos hx
   have hp4:(upd H' pA (.lst (es'.map V.ref))) pA=some (.lst (es'.map V.ref)):=ae
   have s4:az H (upd H' pA (.lst (es'.map V.ref))):=aH s3 hpn
   have g4:∀ e,H' e≠none→(upd H' pA (.lst (es'.map V.ref))) e≠none:=fun e he=>cS he
   have k4:∀ m∈rs,∀ o,H' m=some o→(upd H' pA (.lst (es'.map V.ref))) m=some o:=fun m hm o ho=>by rw[ai (fun z=>prs (by rw[←z];exact hm))];exact ho
   generalize upd H' pA (.lst (es'.map V.ref))=H4 at sx hT4 hR4 hx4 hp4 s4 g4 k4
   refine ⟨_,rfl,_,rfl,t,xa,rs,T,x,n,aE n sg,rfl,hT4,hx4,ok,xT,hn,FT,fun H5 b hb s5=>⟨_,rfl,?_⟩⟩
   have s45:=s4.trans s5
   have hp5:=s5 _ _ hp4
   have hR5:=hR4.same s5
   have hT5:=hT4.same s5
   have g5:∀ e,H' e≠none→H5 e≠none:=fun e he=>cb s5 (g4 e he)
   have hrf5:∀ e,Rf H5 rs e→e∈fs∨New H H5 e:=fun e he=>(hrf e (Rf.back (fun m hm o ho=>s5 m o (k4 m hm o ho)) hT.tracked he)).imp id fun z=>z.up (g5 e)
   cases b with
   | true=>
    refine (nD (A:=_) ?_:if (!true)=true then _ else _)
    refine ⟨(46-sg.length)*101+pd.length,(by rw[length_append,length_singleton];omega),_,_,T,sg,es',pd,rfl,hp5,hR5,hT5,ok,FT,C.drop (hb.mp rfl),fun e he=>(hes e (by simp[he])).imp id fun z=>z.up (g5 e),hrf5,s45,rfl,(by rw[length_append,length_singleton] at hmb;omega)⟩
   | false=>
    refine (oy (A:=_) ?_:if (!false)=true then _ else _)
    have hnm:¬aE n sg x:=fun z=>Bool.false_ne_true (hb.mpr z)
    have C':=C.put hn hg.isT hnm
    refine ⟨_,rfl,_,rfl,t,xa,rs,T,x,n,sg,rfl,hT5,s5.seq hx4,ok,xT,h0,hn,C.lean.isT,FT,fun H6 T' hT' ok' F' hrf' s6=>?_⟩
    have s46:az H H6:=zm s45 s6 hrs
    have hp6:=s6 _ _ hp5 prs
    have hx6:=sqX s6 hT5.apart xpos (s5.seq hx4)
    have hR6:=gP s6 hT5.apart ppos hR5
    have g6:∀ e,H5 e≠none→H6 e≠none:=fun e he=>wB s6 hT'.tracked he
    have hrf6:∀ e,Rf H6 rs e→e∈fs∨New H H6 e:=fun e he=>by
     rcases hrf' e he with z|z|z
     ·exact (hrf5 e z).imp id fun z=>z.up (g6 e)
     ·rw[z];exact (hes xa (by simp)).imp id fun z=>z.up fun y=>g6 xa (g5 xa y)
     ·exact .inr ⟨s45.free z.1,z.2⟩
    refine ⟨_,rfl,.inl ⟨rfl,_,SqL.of hp6⟩,_,rfl,gA,rfl,⟨_,s46.seq hg.lst⟩,fun D hD=>de (K:=K) (a:=gA) (xs:=gs.map V.ref) (fun m H7=>∃ ds:List Addr,H7 D=some (.lst (ds.map V.ref))∧D∉ds∧bA H7 ds ((given.take m).map (conjugate x))∧(∀ d∈ds,H6 d=none)∧az H6 H7)
     ⟨[],ae,fun z=>(by cases z),by rw[take_zero];exact bA.nil,fun d hd=>(by cases hd),al (az.refl _) hD⟩ (fun m H7 _ ⟨_,_,_,_,_,s7⟩=>s7.seq (s46.seq hg.lst)) ?_ ?_⟩
    ·rintro m v H7 hm7 ⟨ds,hD7,hDd,hRd,hds,s7⟩
     rw[getElem?_map] at hm7
     obtain ⟨ya,hya,rfl⟩:=Oq hm7
     obtain ⟨y,hy,hyq⟩:=hg.rows.get hya
     have yT:=hg.isT y (mem_of_getElem? hy)
     refine ⟨rfl,?_⟩
     refine ⟨_,rfl,_,rfl,xa,ya,x,y,n,rfl,s7.seq hx6,s7.seq (s46.seq hyq),xT,yT,by omega,fun H8 p hp8 hp88 s8=>?_⟩
     have pD:D≠p:=am hD7 hp8
     refine ⟨_,s8 _ _ hD7,?_,ds++[p],(by rw[ae,map_append];rfl),fun z=>?_,?_,fun d hd=>?_,aH (s7.trans s8) hD⟩
     ·rw[length_map,hRd.len,length_map,length_take]
      exact sz (by omega)
     ·rcases Ma z with z|z
      ·exact hDd z
      ·exact pD (Ms z)
     ·rw[aC hy,map_append]
      exact ((hRd.same s8).put hDd).snoc (by rw[ai (fun z=>pD z.symm)];exact hp88)
     ·rcases Ma hd with z|z
      ·exact hds d z
      ·rw[Ms z];exact s7.free hp8
    ·rintro H7 ⟨ds,hD7,hDd,hRd,hds,s7⟩
     rw[length_map,hg.rows.len,take_length] at hRd
     have hp7:=s7 _ _ hp6
     have pds:pA∉ds:=fun z=>by have:=hds pA z;rw[hp6] at this;cases this
     have hl1:es'.length=pd.length:=hR'.len
     have hl2:ds.length=given.length:=by rw[hRd.len,length_map]
     have hsl:sg.length≤45:=C.lean.good hn
     rw[length_append,length_singleton] at hmb
     refine ⟨pA,D,_,_,rfl,rfl,hp7,hD7,(by rw[length_map,length_map];exact Nat.le_of_lt (sz (by omega))),?_⟩
     have ap7:=cX hp7
     have sx7:aT [pA] H7 (upd H7 pA (.lst (es'.map V.ref++ds.map V.ref))):=sx1
     have gpos:∀ y∈given.map (conjugate x),0<y.length:=fun y hy=>by
      obtain ⟨u,hu,rfl⟩:=mem_map.mp hy
      rw[(Tt.cO xT (hg.isT u hu)).len];exact h0
     have g7:∀ e,H6 e≠none→(upd H7 pA (.lst (es'.map V.ref++ds.map V.ref))) e≠none:=fun e he=>cS (cb s7 he)
     refine ⟨(46-(sg++[x]).length)*101+(pd++given.map (conjugate x)).length,?_,_,_,T',sg++[x],es'++ds,pd++given.map (conjugate x),rfl,(by rw[ae,map_append]),?_,?_,ok',F',C',?_,?_,?_,rfl,?_⟩
     ·simp only[length_append,length_singleton,length_map];omega
     ·exact (gP sx7 ap7 ppos (hR6.same s7)).append (gP sx7 ap7 gpos hRd.rows)
     ·exact zn sx7 ap7 ok' (bS.ents F') h0 (by simpa using fun z=>pt z.symm) (fun r hr=>by simpa using fun z=>prs (by rw[←z];exact hr)) (hT'.same s7)
     ·intro e he
      rcases Ma he with z|z
      ·exact (hes e (by simp[z])).imp id fun z=>z.up fun y=>g7 e (g6 e (g5 e y))
      ·obtain ⟨i,hi⟩:=getElem?_of_mem z
       obtain ⟨y,_,hyq⟩:=hRd.get hi
       exact .inr ⟨s46.free (hds e z),cS (there hyq)⟩
     ·intro e he
      refine (hrf6 e (Rf.back (fun m hm o ho=>?_) hT'.tracked he)).imp id fun z=>z.up (g7 e)
      rw[ai (fun z=>prs (by rw[←z];exact hm))];exact s7 _ _ ho
     ·exact aH (s46.trans s7) hpn
     ·simp only[length_append,length_singleton,length_map];omega
  ·rw[length_map] at hge
   have he0:pend.length=0:=by rw[←hR.len];omega
   have:=eq_nil_of_length_eq_zero he0
   subst this
   exact ⟨_,rfl,q H' t rs T sg ht hrs hT ok C.lean.isT FT C hrf s3⟩
theorem fM:ao ["things","given","first","x","y"] ["things","given"] (aj mC):=bX
theorem sY {f:Addr}{fd:FuncData}(F:Fun K "derived_table" "derived_table" mC f fd)(CC:Cal P w K mg base 4 "commutator" ["x","y"] (ur K))(CT:Cal P w K mg base 5 "closed_table" ["things","first","given"] (jF K)):aZ P w K mg base CX0 6 f fd ["things","given"] (j3 K):=by
 refine okF F fM (fun cdv A outer s H vs Q E hr h=>?_)
 ·obtain ⟨n,gA,gs,given,rfl,hg,h0,hn,hgl,q⟩:=h
  have hr4:bO 4 _:=hr.mono (by decide)
  refine ⟨_,ag (aq (i:=2) fM.nd rfl (Or.inl rfl) (aV af))
   (ag (bw PassesOwn.never rfl (aP (pv 1)) (aG (i:=3) fM.nd rfl (Or.inr rfl))
    (ah (aX (eD PySem.F.plainAttrs_list PySem.F.slot_list_extend PySem.F.type_list_extend fR (pv 2) (aa (gQ (own:=[("y",4)]) rfl fM.nd (aP (pv 1)) (bn rfl) (fun _ _ _ _ _=>aG (i:=4) fM.nd rfl (Or.inl rfl)) (fun _ _ _ _ _=>cF)
     (fun _ _ _ _ _=>ak CC hr4 rfl (aa (pv 3) (aa (pv 4) af)))) af)))))
   (ah (ax (ak CT hr rfl (aa (pv 0) (aa (pv 2) (aa (pv 1) af))))))),?_⟩
  refine ⟨Nat.zero_le _,fun fA hfA=>?_⟩
  have h1:∀ l:List Turn.Row,(l.flatMap fun x=>given.map (commutator x)).length=l.length*given.length:=by
   intro l
   induction l with
   | nil=>simp
   | cons a l ih=>rw[flatMap_cons,length_append,ih,length_map,length_cons,Nat.add_mul,Nat.one_mul,Nat.add_comm]
  have hb:∀ l:List Turn.Row,l.length≤100→(l.flatMap fun x=>given.map (commutator x)).length≤10000:=fun l hl=>by
   rw[h1];exact Nat.mul_le_mul hl hgl
  refine ⟨_,rfl,gA,rfl,⟨_,(al (az.refl _) hfA).seq hg.lst⟩,bj (K:=K) (a:=gA) (xs:=gs.map V.ref) (fun i σ H'=>∃ (v3 v4:Option V) (es:List Addr),σ=[some (.int (n:Nat)),some (.ref gA),some (.ref fA),v3,v4]∧H' fA=some (.lst (es.map V.ref))∧fA∉es∧bA H' es ((given.take i).flatMap fun x=>given.map (commutator x))∧(∀ e∈es,H e=none)∧az H H')
   ⟨none,none,[],rfl,ae,fun z=>(by cases z),by rw[take_zero];exact bA.nil,fun e he=>(by cases he),al (az.refl _) hfA⟩ (fun i σ H' _ ⟨_,_,_,_,_,_,_,_,s2⟩=>s2.seq hg.lst) ?_ ?_⟩
  ·rintro i v σ H' hi ⟨v3,v4,es,rfl,hf,hfe,hR,hes,s2⟩
   rw[getElem?_map] at hi
   obtain ⟨xa,hxa,rfl⟩:=Oq hi
   obtain ⟨x,hx,hxq⟩:=hg.rows.get hxa
   have xT:=hg.isT x (mem_of_getElem? hx)
   have hil:i<given.length:=(Gq hx).1
   refine ⟨_,rfl,.inl ⟨rfl,_,SqL.of hf⟩,_,rfl,gA,rfl,⟨_,s2.seq hg.lst⟩,fun D hD=>de (K:=K) (a:=gA) (xs:=gs.map V.ref) (fun m H7=>∃ ds:List Addr,H7 D=some (.lst (ds.map V.ref))∧D∉ds∧bA H7 ds ((given.take m).map (commutator x))∧(∀ d∈ds,H' d=none)∧az H' H7)
     ⟨[],ae,fun z=>(by cases z),by rw[take_zero];exact bA.nil,fun d hd=>(by cases hd),al (az.refl _) hD⟩ (fun m H7 _ ⟨_,_,_,_,_,s7⟩=>s7.seq (s2.seq hg.lst)) ?_ ?_⟩
   ·rintro m v H7 hm7 ⟨ds,hD7,hDd,hRd,hds,s7⟩
    rw[getElem?_map] at hm7
    obtain ⟨ya,hya,rfl⟩:=Oq hm7
    obtain ⟨y,hy,hyq⟩:=hg.rows.get hya
    have yT:=hg.isT y (mem_of_getElem? hy)
    have s27:=s2.trans s7
    refine ⟨rfl,?_⟩
    refine ⟨_,rfl,_,rfl,xa,ya,x,y,n,rfl,s27.seq hxq,s27.seq hyq,xT,yT,by omega,fun H8 p hp8 hp88 s8=>?_⟩
    have pD:D≠p:=am hD7 hp8
    refine ⟨_,s8 _ _ hD7,?_,ds++[p],(by rw[ae,map_append];rfl),fun z=>?_,?_,fun d hd=>?_,aH (s7.trans s8) hD⟩
    ·rw[length_map,hRd.len,length_map,length_take]
     exact sz (by omega)
    ·rcases Ma z with z|z
     ·exact hDd z
     ·exact pD (Ms z)
    ·rw[aC hy,map_append]
     exact ((hRd.same s8).put hDd).snoc (by rw[ai (fun z=>pD z.symm)];exact hp88)
    ·rcases Ma hd with z|z
     ·exact hds d z
     ·rw[Ms z];exact s7.free hp8
   ·rintro H7 ⟨ds,hD7,hDd,hRd,hds,s7⟩
    rw[length_map,hg.rows.len,take_length] at hRd
    have hf7:=s7 _ _ hf
    have fds:fA∉ds:=fun z=>by have:=hds fA z;rw[hf] at this;cases this
    have step:(given.take (i+1)).flatMap (fun x=>given.map (commutator x))=(given.take i).flatMap (fun x=>given.map (commutator x))++given.map (commutator x):=by
     rw[aC hx,flatMap_append];simp
    refine ⟨fA,D,_,_,rfl,rfl,hf7,hD7,?_,?_⟩
    ·have h2:=hb (given.take (i+1)) (by rw[length_take];omega)
     rw[step,length_append,length_map] at h2
     rw[length_map,length_map,hR.len,hRd.len,length_map]
     exact Nat.le_of_lt (sz (by omega))
    ·refine ⟨_,_,es++ds,rfl,(by rw[ae,map_append]),fun z=>?_,?_,fun e he=>?_,aH (s2.trans s7) hfA⟩
     ·rcases Ma z with z|z
      ·exact hfe z
      ·exact fds z
     ·rw[step]
      exact ((hR.same s7).put hfe).append (hRd.put fds)
     ·rcases Ma he with z|z
      ·exact hes e z
      ·exact s2.free (hds e z)
  ·rintro σ H1 ⟨v3,v4,es,rfl,hf,hfe,hR,hes,s2⟩
   rw[length_map,hg.rows.len,take_length] at hR
   have hfT:∀ z∈iL given,IsT n z:=fun z hz=>by
    obtain ⟨x,hx,hz⟩:=mem_flatMap.mp hz
    obtain ⟨y,hy,rfl⟩:=mem_map.mp hz
    exact rW (hg.isT x hx) (hg.isT y hy)
   refine ⟨_,rfl,_,rfl,_,rfl,n,fA,gA,es,gs,iL given,given,rfl,⟨SqL.of hf,hR.rows,hfT⟩,hg.same s2,h0,hn,hb given hgl,hgl,fun H' t rs T sg ht hrs hT ok hsg FT C hrf s3=>?_⟩
   refine q H' t rs T sg (s2.free ht) (fun r hr=>s2.free (hrs r hr)) hT ok hsg FT C (fun e he=>.inr ?_) (s2.trans s3)
   rcases hrf e he with z|z
   ·obtain ⟨i,hi⟩:=getElem?_of_mem z
    obtain ⟨y,_,hyq⟩:=hR.get hi
    exact ⟨hes e z,there (s3 _ _ hyq)⟩
   ·exact ⟨s2.free z.1,z.2⟩
theorem mh:ao ["one","other","table","x"] ["one","other"] (aj pP):=bX
theorem vG {f:Addr}{fd:FuncData}(F:Fun K "shared_table" "shared_table" pP f fd)(B:Blt mg)(CT:Cal P w K mg base 2 "table_without_turns" ["things"] (il K))(CAll:Cal P w K mg base 2 "all_turns" ["table"] (iW K))(CM:Cal P w K mg base 4 "makes" ["table","x"] (ff K))
  (CA:Cal P w K mg base 4 "add_turn" ["table","x"] (eN K)):aZ P w K mg base CX0 5 f fd ["one","other"] (lX K):=by
 refine okF F mh (fun cdv A outer s H vs Q E hr h=>?_)
 ·obtain ⟨n,t1,t2,rs1,rs2,T1,T2,G1,G2,rfl,hT1,ok1,F1,hw,hT2,ok2,F2,h0,hn,q⟩:=h
  have hr2:bO 2 _:=hr.mono (by decide)
  refine ⟨_,ag (aq (i:=2) mh.nd rfl (Or.inl rfl) (ak CT hr2 rfl (aa (aA au rfl B.len PySem.boot_len (aa (pv 0) af)) af)))
   (ag (bw PassesOwn.never rfl (aP (ak CAll hr2 rfl (aa (pv 0) af))) (aG (i:=3) mh.nd rfl (Or.inl rfl))
    (ah (dz (fO (ak CM hr rfl (aa (pv 1) (aa (pv 3) af)))) (ah (aX (ak CA hr rfl (aa (pv 2) (aa (pv 3) af))))) bi)))
   (ah (ax (pv 2)))),?_⟩
  refine ⟨_,rfl,t1,_,rfl,.inl (SqL.of hT1.lst),n,(by rw[length_map,hT1.len,ok1.len];rfl),hn,fun H1 t rs ht hrs htr hTs hrf1 s1=>?_⟩
  refine ⟨_,rfl,t1,rs1,T1,n,G1,rfl,hT1.same s1,ok1,hn,F1,hw,fun H2 p es made hp hp2 hR hmem hml hes s2=>?_⟩
  have s12:=s1.trans s2
  have prs:p∉rs:=fun z=>hTs.tracked p z hp
  have rowpos:∀ x∈made,0<x.length:=fun x hx=>by rw[(F1.grp.isT x ((hmem x).mp hx)).len];exact h0
  refine ⟨p,rfl,⟨_,SqL.of hp2⟩,bj (K:=K) (a:=p) (xs:=es.map V.ref) (fun i σ H'=>∃ (v3:Option V) (T:Tab) (sg:List Turn.Row),σ=[some (.ref t1),some (.ref t2),some (.ref t),v3]∧H' p=some (.lst (es.map V.ref))∧aF K H' es made∧bt K H' t rs T∧TOk n T∧(∀ g∈sg,IsT n g)∧bS n (aE n sg) (tU T)∧(∀ z,z∈sg↔z∈made.take i∧G2 z)∧sg.length≤i∧(∀ e,Rf H' rs e→New H H' e)∧(∀ e∈es,New H H' e)∧az H H')
   ⟨none,aR n,[],rfl,hp2,hR.rows,hTs.same s2,Tt.cq n,fun g hg=>(by cases hg),Tt.dw n,fun z=>⟨fun h=>(by cases h),fun h=>(by simp at h)⟩,Nat.le_refl _,fun e he=>New.up (hrf1 e (Rf.back (fun m _ o ho=>s2 m o ho) hTs.tracked he)) (cb s2),fun e he=>(let ⟨i,hi⟩:=getElem?_of_mem he;let ⟨_,_,hq⟩:=hR.get hi;⟨s1.free (hes e he),there hq⟩),s12⟩ (fun i σ H' _ ⟨_,_,_,_,z,_⟩=>SqL.of z) ?_ ?_⟩
  ·rintro i v σ H' hi ⟨v3,T,sg,rfl,hp3,hR3,hT,ok,hsg,FT,hms,hsl,hrf,hnw,s3⟩
   rw[getElem?_map] at hi
   obtain ⟨xa,hxa,rfl⟩:=Oq hi
   obtain ⟨x,hx,hxq⟩:=hR3.get hxa
   have hxm:=mem_of_getElem? hx
   have xT:=F1.grp.isT x ((hmem x).mp hxm)
   have xpos:=rowpos x hxm
   refine ⟨_,rfl,_,rfl,t2,xa,rs2,T2,x,n,G2,rfl,hT2.same s3,hxq,ok2,xT,hn,F2,fun H4 b hb s4=>⟨_,rfl,?_⟩⟩
   have s34:=s3.trans s4
   have hrf4:∀ e,Rf H4 rs e→New H H4 e:=fun e he=>New.up (hrf e (Rf.back (fun m _ o ho=>s4 m o ho) hT.tracked he)) (cb s4)
   cases b with
   | false=>
    have hno:¬G2 x:=fun z=>Bool.false_ne_true (hb.mpr z)
    refine (nD (A:=_) ?_:if false=true then _ else _)
    refine ⟨_,T,sg,rfl,s4 _ _ hp3,hR3.same s4,hT.same s4,ok,hsg,FT,fun z=>?_,by omega,hrf4,fun e he=>(hnw e he).up (cb s4),s34⟩
    rw[hms,aC hx]
    constructor
    ·rintro ⟨h1,h2⟩;exact ⟨mem_append_left _ h1,h2⟩
    ·rintro ⟨h1,h2⟩
     rcases Ma h1 with h1|h1
     ·exact ⟨h1,h2⟩
     ·rw[Ms h1] at h2;exact absurd h2 hno
   | true=>
    refine (oy (A:=_) ?_:if true=true then _ else _)
    have hT4:=hT.same s4
    refine ⟨_,rfl,_,rfl,t,xa,rs,T,x,n,sg,rfl,hT4,s4.seq hxq,ok,xT,h0,hn,hsg,FT,fun H5 T' hT' ok' F' hrf' s5=>?_⟩
    refine ⟨_,T',sg++[x],rfl,s5 _ _ (s4 _ _ hp3) prs,gP s5 hT4.apart rowpos (hR3.same s4),hT',ok',fun g hg=>?_,F',fun z=>?_,by rw[length_append,length_singleton];omega,fun e he=>?_,fun e he=>(hnw e he).up fun y=>wB s5 hT'.tracked (cb s4 y),zm s34 s5 hrs⟩
    ·rcases Ma hg with h|h
     ·exact hsg g h
     ·rw[Ms h];exact xT
    ·rw[mem_append,hms,aC hx,mem_append,mem_singleton]
     constructor
     ·rintro (⟨h1,h2⟩|h)
      ·exact ⟨.inl h1,h2⟩
      ·rw[h];exact ⟨.inr rfl,hb.mp rfl⟩
     ·rintro ⟨h1|h1,h2⟩
      ·exact .inl ⟨h1,h2⟩
      ·exact .inr h1
    ·rcases hrf' e he with z|z|z
     ·exact (hrf4 e z).up (wB s5 hT'.tracked)
     ·rw[z]
      exact (hnw xa (mem_of_getElem? hxa)).up fun y=>wB s5 hT'.tracked (cb s4 y)
     ·exact ⟨s34.free z.1,z.2⟩
  ·rintro σ H' ⟨v3,T,sg,rfl,hp3,hR3,hT,ok,hsg,FT,hms,hsl,hrf,hnw,s3⟩
   rw[length_map,hR.len,take_length] at hms
   rw[length_map,hR.len] at hsl
   refine ⟨_,rfl,q H' t rs T sg ht hrs hT ok hsg FT ⟨by omega,fun z=>⟨fun hz=>?_,fun hz=>?_⟩⟩ (fun e he=>.inr (hrf e he)) s3⟩
   ·have hAB:Grp n fun x=>G1 x∧G2 x:=⟨fun x h=>F1.grp.isT x h.1,⟨F1.grp.still,F2.grp.still⟩,fun x y h1 h2=>⟨F1.grp.mul _ _ h1.1 h2.1,F2.grp.mul _ _ h1.2 h2.2⟩,fun x h=>⟨F1.grp.inv _ h.1,F2.grp.inv _ h.2⟩⟩
    exact aE.least hAB (fun g hg=>⟨(hmem g).mp ((hms g).mp hg).1,((hms g).mp hg).2⟩) hz
   ·exact aE.gen hsg ((hms z).mpr ⟨(hmem z).mpr hz.1,hz.2⟩)
theorem iA:ao ["one","given","table","row","x"] ["one","given"] (aj mw):=bX
theorem sR {f:Addr}{fd:FuncData}(F:Fun K "joined_table" "joined_table" mw f fd)(B:Blt mg)(CA:Cal P w K mg base 4 "add_turn" ["table","x"] (eN K)):aZ P w K mg base CX0 5 f fd ["one","given"] (j0 K):=by
 refine okF F iA (fun cdv A outer s H vs Q E hr h=>?_)
 ·obtain ⟨n,t1,gA,rs1,gs,T1,gens,given,rfl,hT1,ok1,F1,hgT,hg,h0,hn,q⟩:=h
  refine ⟨_,ag (jI (i:=2) (own:=[("row",3)]) rfl iA.nd rfl rfl (lV rfl rfl rfl rfl) (aP (pv 0)) (bn rfl) (fun _ _ _ _ _=>aG (i:=3) iA.nd rfl (Or.inl rfl)) (fun _ _ _ _ _=>cF) (fun _ _ _ _ _=>cu (r:=fun xs H Q=>∃ p ys,xs=[.ref p]∧(SqL K H p ys∨SqT K H p ys)∧∀ l,H l=none→Q (.ref l) (upd H l (.lst ys))) jz rfl B.list (by decide +kernel) (aa (pv 3) af)))
   (ag (bw PassesOwn.never rfl (aP (pv 1)) (aG (i:=4) iA.nd rfl (Or.inl rfl))
    (ah (aX (ak CA hr rfl (aa (pv 2) (aa (pv 4) af))))))
   (ah (ax (pv 2)))),?_⟩
  have rl:rs1.length=n:=by rw[hT1.len,ok1.len]
  refine ⟨_,rfl,t1,rfl,⟨_,SqL.of hT1.lst⟩,fun D hD=>de (K:=K) (a:=t1) (xs:=rs1.map V.ref) (fun i H'=>∃ ds:List Addr,bt K H' D ds (T1.take i)∧(∀ d∈ds,H d=none)∧(∀ e,Rf H' ds e→Rf H rs1 e)∧az H H')
   ⟨[],⟨ae,by simp,nodup_nil,fun z=>(by cases z),fun i r hi=>by simp at hi⟩,fun d hd=>(by cases hd),fun e ⟨m,hm,_⟩=>(by cases hm),al (az.refl _) hD⟩ (fun i H' _ ⟨_,_,_,_,s2⟩=>SqL.of (s2 _ _ hT1.lst)) ?_ ?_⟩
  ·rintro i v H' hi ⟨ds,hTd,hds,hrf,s2⟩
   rw[getElem?_map] at hi
   obtain ⟨r,hri,rfl⟩:=Oq hi
   obtain ⟨vs,c,hc,hrv,hcs⟩:=hT1.row i r hri
   have hin:i<T1.length:=(Gq hc).1
   have hdl:ds.length=i:=by rw[hTd.len,length_take];omega
   refine ⟨rfl,?_⟩
   refine ⟨_,rfl,r,vs,rfl,.inl (SqL.of (s2 _ _ hrv)),fun l hl=>?_⟩
   have lD:D≠l:=am hTd.lst hl
   have lds:l∉ds:=fun z=>hTd.tracked l z hl
   have s3:az H' (upd H' l (.lst vs)):=al (az.refl _) hl
   have hl3:(upd H' l (.lst vs)) l=some (.lst vs):=ae
   generalize upd H' l (.lst vs)=H3 at s3 hl3
   have s23:=s2.trans s3
   have hT3:=hTd.same s3
   refine ⟨_,hT3.lst,(by rw[length_map,hdl];have:=ok1.len;exact sz (by omega)),ds++[l],?_,fun d hd=>?_,?_,aH s23 hD⟩
   ·have tn':D∉ds++[l]:=fun z=>by
     rcases Ma z with z|z
     ·exact hTd.tn z
     ·exact lD (Ms z)
    have apD:d3 H3 [D]:=cX hT3.lst
    have keepc:∀ (vs:List V) (c:List (Option Turn.Row)),(∀ x,some x∈c→0<x.length)→fw K H3 vs c→fw K (upd H3 D (.lst (ds.map V.ref++[V.ref l]))) vs c:=fun vs c hc h=>⟨h.len,fun j v x g1 g2=>by
     have:=h.cell j v x g1 g2
     cases x with
     | none=>exact this
     | some x=>
      obtain ⟨e,z1,z2⟩:=this
      exact ⟨e,z1,sqX sx1 apD (hc x (mem_of_getElem? g2)) z2⟩⟩
    have cpos:∀ (k:Nat) (c:List (Option Turn.Row)),T1[k]?=some c→∀ x,some x∈c→0<x.length:=fun k c hk x hx=>by
     obtain ⟨j,hj⟩:=getElem?_of_mem hx
     have:tU T1 k j=some x:=by rw[Tt.ik hk,Tt.bW hj]
     rw[(bS.ents F1 k j x this).len];exact h0
    refine ⟨by rw[ae,map_append];rfl,by rw[length_append,length_singleton,hdl,length_take];omega,?_,tn',fun k d hk=>?_⟩
    ·rw[nodup_append]
     exact ⟨hTd.nd,by simp,fun a ha b hb z=>by rw[Ms hb] at z;rw[z] at ha;exact lds ha⟩
    ·rw[getElem?_append] at hk
     split at hk
     ·rename_i hlt
      obtain ⟨vs',c',k1,k2,k3⟩:=hT3.row k d hk
      rw[getElem?_take] at k1
      split at k1
      ·refine ⟨vs',c',by rw[getElem?_take,if_pos (by omega)];exact k1,?_,keepc vs' c' (cpos k c' k1) k3⟩
       rw[ai (fun z=>hTd.tn (by rw[←z];exact mem_of_getElem? hk))];exact k2
      ·cases k1
     ·rename_i hlt
      have hki:k=i:=by
       have:=(Gq hk).1
       rw[length_singleton] at this
       omega
      subst hki
      rw[hdl,Nat.sub_self] at hk
      have hd:d=l:=by simpa using hk.symm
      subst hd
      refine ⟨vs,c,by rw[getElem?_take,if_pos (by omega)];exact hc,?_,keepc vs c (cpos k c hc) (hcs.same s23)⟩
      rw[ai (fun z=>lD z.symm)];exact hl3
   ·rcases Ma hd with z|z
    ·exact hds d z
    ·rw[Ms z];exact s2.free hl
   ·rintro e ⟨m,hm,xs,w1,w2⟩
    rcases Ma hm with z|z
    ·rw[ai (fun y=>hTd.tn (by rw[←y];exact z))] at w1
     exact hrf e (Rf.back (fun m _ o ho=>s3 m o ho) hTd.tracked ⟨m,z,xs,w1,w2⟩)
    ·rw[Ms z,ai (fun y=>lD y.symm),hl3] at w1
     cases w1
     exact ⟨r,mem_of_getElem? hri,vs,hrv,w2⟩
  ·rintro H1 ⟨ds,hTd,hds,hrf,s1⟩
   rw[length_map,rl,←ok1.len,take_length] at hTd
   refine ⟨_,rfl,gA,rfl,⟨_,s1.seq hg.lst⟩,bj (K:=K) (a:=gA) (xs:=gs.map V.ref) (fun i σ H'=>∃ (v3 v4:Option V) (T:Tab),σ=[some (.ref t1),some (.ref gA),some (.ref D),v3,v4]∧bt K H' D ds T∧TOk n T∧bS n (aE n (gens++given.take i)) (tU T)∧(∀ e,Rf H' ds e→(Rf H rs1 e∨e∈gs)∨New H H' e)∧az H H')
    ⟨_,none,T1,rfl,hTd,ok1,by rw[take_zero,append_nil];exact F1,fun e he=>.inl (.inl (hrf e he)),s1⟩ (fun i σ H' _ ⟨_,_,_,_,_,_,_,_,s2⟩=>s2.seq hg.lst) ?_ ?_⟩
   ·rintro i v σ H' hi ⟨v3,v4,T,rfl,hT,ok,FT,hrf2,s2⟩
    rw[getElem?_map] at hi
    obtain ⟨xa,hxa,rfl⟩:=Oq hi
    obtain ⟨x,hx,hxq⟩:=hg.rows.get hxa
    have xT:=hg.isT x (mem_of_getElem? hx)
    have hgi:∀ g∈gens++given.take i,IsT n g:=fun g hg'=>by
     rcases Ma hg' with h|h
     ·exact hgT g h
     ·exact hg.isT g (mem_of_mem_take h)
    refine ⟨_,rfl,_,rfl,D,xa,ds,T,x,n,_,rfl,hT,s2.seq hxq,ok,xT,h0,hn,hgi,FT,fun H5 T' hT' ok' F' hrf' s5=>?_⟩
    refine ⟨_,_,T',rfl,hT',ok',by rw[aC hx,←append_assoc];exact F',fun e he=>?_,zm s2 s5 hds⟩
    rcases hrf' e he with z|z|z
    ·exact (hrf2 e z).imp id fun z=>z.up (wB s5 hT'.tracked)
    ·rw[z];exact .inl (.inr (mem_of_getElem? hxa))
    ·exact .inr ⟨s2.free z.1,z.2⟩
   ·rintro σ H' ⟨v3,v4,T,rfl,hT,ok,FT,hrf2,s2⟩
    rw[length_map,hg.rows.len,take_length] at FT
    refine ⟨_,rfl,q H' D ds T _ hD hds hT ok (fun g hg'=>?_) FT rfl hrf2 s2⟩
    rcases Ma hg' with h|h
    ·exact hgT g h
    ·exact hg.isT g h
theorem mf:ao ["given","table","made_by","y","x"] ["given","table","made_by"] (aj uD):=bX
theorem xR {f:Addr}{fd:FuncData}(F:Fun K "takes_to_itself" "takes_to_itself" uD f fd)(B:Blt mg)(CM:Cal P w K mg base 4 "makes" ["table","x"] (ff K))(CL:Cal P w K mg base 3 "taken_along" ["x","y"] (iV K)):aZ P w K mg base CX0 5 f fd ["given","table","made_by"] (pi K):=by
 refine okF F mf (fun cdv A outer s H vs Q E hr h=>?_)
 ·obtain ⟨n,gA,t,mA,gs,rs,ms,T,G,given,mb,rfl,hg,hT,ok,FT,hm,hml,hn,q⟩:=h
  have hr3:bO 3 _:=hr.mono (by decide)
  refine ⟨_,ag (bw PassesOwn.never rfl (aP (pv 0)) (aG (i:=3) mf.nd rfl (Or.inr rfl))
    (ah (dz (iF (fO (aA (wU rfl) rfl B.all PyProof.Rows.boot_all (aa (gQ (own:=[("x",4)]) rfl mf.nd (aP (pv 2)) (bn rfl) (fun _ _ _ _ _=>aG (i:=4) mf.nd rfl (Or.inl rfl)) (fun _ _ _ _ _=>cF)
     (fun _ _ _ _ _=>ak CM hr rfl (aa (pv 1) (aa (ak CL hr3 rfl (aa (pv 4) (aa (pv 3) af))) af)))) af)))) (ah (ax n8)) bi)))
   (ah (ax n8)),?_⟩
  refine ⟨_,rfl,gA,rfl,⟨_,hg.lst⟩,bj (K:=K) (a:=gA) (xs:=gs.map V.ref) (fun i σ H'=>∃ v3 v4:Option V,σ=[some (.ref gA),some (.ref t),some (.ref mA),v3,v4]∧(∀ x∈mb,∀ y∈given.take i,G (conjugate x y))∧az H H')
   ⟨none,none,rfl,fun x _ y hy=>(by simp at hy),az.refl _⟩ (fun i σ H' _ ⟨_,_,_,_,s2⟩=>s2.seq hg.lst) ?_ ?_⟩
  ·rintro i v σ H' hi ⟨v3,v4,rfl,hall,s2⟩
   rw[getElem?_map] at hi
   obtain ⟨ya,hya,rfl⟩:=Oq hi
   obtain ⟨y,hy,hyq⟩:=hg.rows.get hya
   have yT:=hg.isT y (mem_of_getElem? hy)
   refine ⟨_,rfl,mA,rfl,⟨_,s2.seq hm.lst⟩,fun D hD=>de (K:=K) (a:=mA) (xs:=ms.map V.ref) (fun j H3=>∃ bs:List Bool,H3 D=some (.lst (bs.map V.bl))∧bs.length=j∧(∀ (k:Nat) (b:Bool) (x:Turn.Row),bs[k]?=some b→mb[k]?=some x→(b=true↔G (conjugate x y)))∧az H' H3)
    ⟨[],ae,rfl,fun k b x h=>(by simp at h),al (az.refl _) hD⟩ (fun j H3 _ ⟨_,_,_,_,s3⟩=>s3.seq (s2.seq hm.lst)) ?_ ?_⟩
   ·rintro j v H3 hj ⟨bs,hD3,hbl,hbs,s3⟩
    rw[getElem?_map] at hj
    obtain ⟨xa,hxa,rfl⟩:=Oq hj
    obtain ⟨x,hx,hxq⟩:=hm.rows.get hxa
    have xT:=hm.isT x (mem_of_getElem? hx)
    have s23:=s2.trans s3
    have hjl:j<mb.length:=(Gq hx).1
    refine ⟨rfl,?_⟩
    refine ⟨_,rfl,_,rfl,_,rfl,xa,ya,x,y,n,rfl,s23.seq hxq,s23.seq hyq,xT,yT,by omega,fun H4 p hp hp4 s4=>?_⟩
    have s24:=s23.trans s4
    refine ⟨t,p,rs,T,_,n,G,rfl,hT.same s24,SqL.of hp4,ok,Tt.cO xT yT,hn,FT,fun H5 b hb s5=>?_⟩
    refine ⟨_,s5 _ _ (s4 _ _ hD3),(by rw[length_map,hbl];exact sz (by omega)),bs++[b],(by rw[ae,map_append];rfl),(by rw[length_append,hbl];rfl),fun k c z h1 h2=>?_,aH ((s3.trans s4).trans s5) hD⟩
    rw[getElem?_append] at h1
    split at h1
    ·exact hbs k c z h1 h2
    ·rename_i hlt
     have hk:k=j:=by
      have:=(Gq h1).1
      rw[length_singleton] at this
      omega
     subst hk
     rw[hbl,Nat.sub_self] at h1
     have hcb:c=b:=by simpa using h1.symm
     have hzx:z=x:=Oi (h2.symm.trans hx)
     rw[hcb,hzx];exact hb
   ·rintro H3 ⟨bs,hD3,hbl,hbs,s3⟩
    rw[length_map,hm.rows.len] at hbl
    refine ⟨D,bs,rfl,SqL.of hD3,_,rfl,?_⟩
    have hiff:bs.all id=true↔∀ x∈mb,G (conjugate x y):=by
     rw[all_eq_true]
     constructor
     ·intro h x hx
      obtain ⟨k,hk⟩:=getElem?_of_mem hx
      have hkl:k<bs.length:=by rw[hbl];exact (Gq hk).1
      exact (hbs k _ x (getElem?_eq_getElem hkl) hk).mp (h _ (getElem_mem hkl))
     ·intro h b hb
      obtain ⟨k,hk⟩:=getElem?_of_mem hb
      have hkl:k<mb.length:=by rw[←hbl];exact (Gq hk).1
      exact (hbs k b _ hk (getElem?_eq_getElem hkl)).mpr (h _ (getElem_mem hkl))
    cases eb:bs.all id with
    | false=>
     refine (oy (A:=_) ?_:if (!false)=true then _ else _)
     refine q H3 false ⟨fun z=>(by cases z),fun z=>?_⟩ (s2.trans s3)
     rw[←eb]
     exact hiff.mpr fun x hx=>z x hx y (mem_of_getElem? hy)
    | true=>
     refine (nD (A:=_) ?_:if (!true)=true then _ else _)
     refine ⟨_,_,rfl,fun x hx z hz=>?_,s2.trans s3⟩
     rw[aC hy] at hz
     rcases Ma hz with h|h
     ·exact hall x hx z h
     ·rw[Ms h];exact hiff.mp eb x hx
  ·rintro σ H' ⟨v3,v4,rfl,hall,s2⟩
   rw[length_map,hg.rows.len,take_length] at hall
   exact q H' true ⟨fun _=>hall,fun _=>rfl⟩ s2
end
end Bt
namespace Bt
open PySem PySem.Spec PyProof.Rows L2
open PySem.W (Codec)
section
variable {prog:Program} {w:World}
theorem tE (d:Addr)(lo:(d==sysModules)=false):MeetsIn prog w (Builtin.«dict.__len__» ⟨[.ref d],[]⟩)
  (fun _ R s=>∃ xs:List (List Key×Addr×Value),s.heap.DictOfH (tupleKind (cG prog w)) d xs∧R (.ok (.ret (.int xs.length s.toks))) {s with toks:=s.toks+1}):=
 .of_wp fun A R s h=>by
  obtain ⟨xs,⟨o,es,ep,g1,g2,g3,g4,g5,g6⟩,q⟩:=h
  have en:es.size=xs.length:=size_of_entries g4
  (show wpAny _ _ (dictSize d >>= _) _ _ s);unfold dictSize
  refine wpAny_bind (wpAny_bind (wpAny_dictEntries g1 g3 (wpAny_pure ?_)))
  refine wpAny_bind (m:=Builtin.Dict.pendingCount d) (wpAny_pendingCount_other lo (wpAny_ret_mkInt ?_))
  rw[Nat.add_zero,en];exact q
theorem wj {A:Around}{E:Value→Shared→Prop}{s:Shared}{d:Addr}{xs:List (List Key×Addr×Value)}{Q:Value→Shared→Prop}(lo:(d==sysModules)=false)(hm:s.heap.DictOfH (tupleKind (cG prog w)) d xs)(fit:(xs.length:Int)<2 ^ 63)
  (q:Q (.int xs.length (s.toks+1)) {s with toks:=s.toks+1+1}):wpAny (model prog w) A (Builtin.«len» ⟨[.ref d],[]⟩) (fun fin s'=>∃ r,fin=.done (.ret r)∧Q r s') E s:=by
 unfold Builtin.«len»
 refine wpAny_bind (m:=oneArg "len" _) (wpAny_pure (wpAny_bind (m:=callSpecial? (.ref d) (Str.ofString "__len__")) (wpAny_callSpecial?_slot (name:=Str.ofString "__len__") hm.typeIs F.slot_dict_len
  (call_meetsIn F.slot_dict_len hm.typeIs F.entry_dict_len (F.args_dict_len_1 _) (tE d lo) ⟨xs,hm,?_⟩))))
 (show wpAny _ _ _ _ _ {s with toks:=s.toks+1});refine wpAny_bind (wpAny_holding (wpAny_pure (wpAny_bind (wpAny_letGo ?_))))
 (show wpAny _ _ (if ((xs.length:Nat):Int)<0 then _ else _) _ _ _);rw[if_neg (by omega)]
 (show wpAny _ _ (if ((xs.length:Nat):Int) ≥ 2 ^ 63 then _ else _) _ _ _);rw[if_neg (by omega)]
 exact wpAny_bind (wpAny_mkInt (wpAny_pure ⟨_,rfl,q⟩))
end
section
variable {X:Cx}
theorem oO:jk X (.builtin "len") (fun xs H Q=>∃ a kvs,xs=[V.ref a]∧H a=some (.dT kvs)∧Q (.int (kvs.length:Nat)) H):=by
 intro pins s σ H xs us Q I r h
 obtain ⟨a,kvs,rfl,ha,q⟩:=h
 obtain ⟨u,rfl,ru⟩:=uf r
 cases ru
 obtain ⟨z,lo,ys,rel,dd⟩:=AB I.hok ha
 have el:ys.length=kvs.length:=(Paired.length rel).symm
 have z63:=oq
 refine Calls.call_function_entry kind_len plain_len entry_len (args_len1 _) (wj lo dd (by rw[el];omega) ?_)
 exact ⟨.int (kvs.length:Nat),H,I.tok _,⟨_,by rw[el]⟩,q⟩
def AW (tk tv:TE):TE:=fun σ H Q=>∀ p,H p=none→uk [(tk,tv)] σ (upd H p (.dT [])) fun ps H2=>∃ (x y:V) (b:Addr) (ks:List Key),ps=[(x,y)]∧H2 p=some (.dT [])∧x=.ref b∧H2 b=some (.tup (ks.map kV))∧Q (.ref p) (upd H2 p (.dT [(ks,y)]))
theorem rp {pos:Pos}{k v:Expr}{tk tv:TE}(hu:X.A.units+1<cLine)(hk:PE X k tk)(hv:PE X v tv):PE X (.Dict [some k] [v] pos) (AW tk tv):=by
 intro pins s σ H Q I q
 have hn:=I.hok.fresh (Nat.le_refl s.heap.objs.size)
 have I1:=I.laid (a:=s.heap.objs.size) (o:=.dT []) (h':=s.heap.push {cls:=.type "dict",data:=.dict #[]}) (t':=s.toks) (fun _ _ q=>Heap.get?_push_of_some _ q) (Nat.le_refl _) (yF s.heap I.big)
 rw[arm_eval_Dict,zip_pairTrees [some k] [v] X.env pos rfl rfl,dictDisplay_pairs _ (by intro z;cases z) (by show 1<17;decide)]
 refine wpAny_bind (wpAny_standAt (wpAny_bind ?_))
 unfold subDict
 refine wpAny_bind (wpAny_alloc (wpAny_bind (wpAny_holding ?_)))
 rw[if_pos (by show 1≤15;decide)]
 refine wpAny_bind (thn (xG hk hv z0 pins _ σ _ _ I1 (q _ hn)) fun ws s2 ⟨ps,H2,I2,rel,x,y,b,ks,ep,e,ex,eb,q2⟩=>?_)
 subst ep
 cases rel with
 | @cons p0 pr0 ps0 prs0 h0 t0=>
  cases t0
  obtain ⟨u,r⟩:=pr0
  obtain ⟨rx,ry⟩:=h0
  subst ex
  cases (show u=Value.ref b from rx)
  obtain ⟨z,lo,xs,rel2,dd⟩:=AB I2.hok e
  cases rel2
  refine wpAny_holding ?_
  rw[forIn_cons]
  refine wpAny_bind (wpAny_bind (wpAny_bind (wpAny_dictSet_heap (hsz:=Nat.zero_le _) (knd:=tupleKind (cG X.prog X.w)) (show X.A.units<cLine by omega) (ow I2.hok eb) dd fun h' dd' hs=>wpAny_pure ?_)))
  (show wpAny _ _ (forIn ([]:List (Value×Value)) PUnit.unit _) _ _ _);rw[forIn_nil]
  refine wpAny_pure (wpAny_pure (wpAny_pure (wpAny_pure ?_)))
  obtain ⟨o,es,ep,w1,w2,w3,w4,_,w5⟩:=dd'
  refine ⟨.ref s.heap.objs.size,_,qM I2 (by rw[e];exact True.intro) hs ⟨o,w1⟩ (show df X.prog X.w (upd H2 s.heap.objs.size (.dT [(ks,y)])) h' s.heap.objs.size (.dT [(ks,y)]) from ⟨Nat.le_of_lt (sz (by show 1≤1000000;decide)),lo,_,(KT.put (H:=H2) .nil ks eb ry).keeps fun c ys ec=>?_,o,es,ep,w1,w2,w3,w4,w5⟩),rfl,q2⟩
  rw[ai (yq ec e (fun z=>nomatch z))]
  exact ec
end
def cB (x:List Nat):List Key:=x.map fun k=>Sum.inl ((k:Nat):Int)
theorem fS (x:List Nat):(cB x).map kV=iv x:=by unfold cB iv;rw[map_map];rfl
theorem qE {x y:List Nat}(h:cB x=cB y):x=y:=by
 have:iv x=iv y:=by rw[←fS,←fS,h]
 rw[←iQ,←iQ] at this
 refine qR.mp ?_
 have inj:∀ (a b:List Int),a.map V.int=b.map V.int→a=b:=by
  intro a
  induction a with
  | nil=>intro b h;cases b with
   | nil=>rfl
   | cons _ _=>cases h
  | cons a l ih=>intro b h;cases b with
   | nil=>cases h
   | cons c m=>
    rw[map_cons,map_cons] at h
    obtain ⟨h1,h2⟩:=List.cons.inj h
    rw[V.int.inj h1,ih m h2]
 exact inj _ _ this
def dk (ks:List (List Nat))(vs:List V):List (List Key×V):=(ks.zip vs).map fun p=>(cB p.1,p.2)
theorem oF {ks:List (List Nat)}{vs:List V}(h:ks.length=vs.length):(dk ks vs).length=ks.length:=by
 unfold dk;rw[length_map,length_zip];omega
theorem AC {ks:List (List Nat)}{vs:List V}(h:ks.length=vs.length)(k:List Nat)(v:V):dk (ks++[k]) (vs++[v])=dk ks vs++[(cB k,v)]:=by
 unfold dk;rw[zip_append h,map_append];rfl
theorem nl:∀ {ks:List (List Nat)} {vs:List V} {z:List Nat},z∉ks→qU (dk ks vs) (cB z)=none
 | [],vs,z,_=>rfl
 | k::ks,[],z,_=>rfl
 | k::ks,v::vs,z,h=>by
  have e:dk (k::ks) (v::vs)=(cB k,v)::dk ks vs:=rfl
  rw[e,ii (fun q=>h (by rw[qE q];exact mem_cons_self ..))]
  exact nl fun q=>h (mem_cons_of_mem _ q)
theorem nj:∀ {ks:List (List Nat)} {vs:List V} {i:Nat} {z:List Nat} {v:V},ks.Nodup→ks[i]?=some z→vs[i]?=some v→qU (dk ks vs) (cB z)=some v
 | [],vs,i,z,v,_,h,_=>by simp at h
 | k::ks,[],i,z,v,_,_,h=>by simp at h
 | k::ks,u::vs,0,z,v,hn,h1,h2=>by
  simp at h1 h2
  subst h1;subst h2
  exact jD rfl
 | k::ks,u::vs,i+1,z,v,hn,h1,h2=>by
  rw[nodup_cons] at hn
  have h1:ks[i]?=some z:=by simpa using h1
  have h2:vs[i]?=some v:=by simpa using h2
  have e:dk (k::ks) (u::vs)=(cB k,u)::dk ks vs:=rfl
  rw[e,ii (fun q=>hn.1 (by rw[qE q];exact mem_of_getElem? h1))]
  exact nj hn.2 h1 h2
theorem AD {ks:List (List Nat)}{vs:List V}(h:ks.length=vs.length)(hn:ks.Nodup){z:List Nat}(hz:z∈ks):∃ v,qU (dk ks vs) (cB z)=some v:=by
 obtain ⟨i,hi⟩:=getElem?_of_mem hz
 have hl:i<vs.length:=by rw[←h];exact (Gq hi).1
 exact ⟨_,nj hn hi (getElem?_eq_getElem hl)⟩
theorem y9 {ks:List (List Nat)}{vs:List V}(h:ks.length=vs.length){z:List Nat}(hz:z∉ks)(v:V):sK (dk ks vs) (cB z) v=dk (ks++[z]) (vs++[v]):=by
 have:((dk ks vs).any fun kv=>decide (kv.1=cB z))=false:=by
  rw[Bool.eq_false_iff]
  intro q
  rw[any_eq_true] at q
  obtain ⟨p,hp,hq⟩:=q
  have hq:=of_decide_eq_true hq
  unfold dk at hp
  obtain ⟨c,hc,rfl⟩:=mem_map.mp hp
  exact hz (by rw[←qE hq];exact (of_mem_zip hc).1)
 unfold sK
 rw[if_neg (by rw[this];exact Bool.false_ne_true),AC h]
end Bt
namespace Bt
open PySem PySem.Spec PyProof.Rows L2
open PySem.W (Codec)
open Tt (aE IsT Cls gz wt bfs jO lC)
abbrev zP:Stmt:=top 54
abbrev uS:Stmt:=top 55
inductive uo (K:Frag) (vs:List V) (H:Hp) (Q:VK) (E:XK):Prop
 | mk (n:Nat) (gA a:Addr) (gs:List Addr) (given:List Turn.Row) (x:List Nat):vs=[.ref gA,.ref a]→dh K H n gA gs given→SqL K H a (iv x)→aE n given x→gz n given→given.length≤100→0<n→n≤9→wt n (aE n given) 0≤1000→(∀ (w:List Nat) (k:Nat),(x,w)∈bfs n given k→w.length≤1000→fY H Q w)→uo K vs H Q E
inductive pq (K:Frag) (vs:List V) (H:Hp) (Q:VK) (E:XK):Prop
 | mk (n:Nat) (gA a:Addr) (gs:List Addr) (given:List Turn.Row) (x:List Nat):vs=[.ref gA,.ref a,.int 1000]→dh K H n gA gs given→SqL K H a (iv x)→IsT n x→given.length≤100→0<n→n≤9→(∀ (H':Hp) (c:Nat),Turn.classSize given x=(if 1000<c then none else some c)→az H H'→Q (.int (c:Nat)) H')→pq K vs H Q E
structure zg (given:List Turn.Row)(x:Turn.Row)(fd pend:List Turn.Row)(ex:Turn.Row→Prop):Prop where
 nd:fd.Nodup
 self:x∈fd
 cls:∀ z∈fd,Cls given x z
 sub:∀ z∈pend,z∈fd
 co:∀ z∈fd,z∈pend∨ex z∨∀ g∈given,conjugate z g∈fd
theorem nT {K:Frag}{H:Hp}{p:Addr}{kvs:List (List Key×V)}(h:H p=some (.dT kvs)):d3 H [p]:=fun m hm o ho=>by
 rw[Ms hm,h] at ho
 cases ho
 exact ⟨fun _ _ z=>(by cases z),fun _ _ z=>(by cases z)⟩
section
variable {P:Program} {w:World} {K:Frag} {mg:Str→Option Value} {base:Heap}
theorem iZ:ao ["given","x","most","found","pending","before","turn","after"] ["given","x","most"] (aj uS):=bX
set_option maxHeartbeats 1000000 in
theorem yk {f:Addr}{fd:FuncData}(F:Fun K "class_count" "class_count" uS f fd)(B:Blt mg)(CL:Cal P w K mg base 3 "taken_along" ["x","y"] (iV K)):aZ P w K mg base CX0 4 f fd ["given","x","most"] (pq K):=by
 refine okF F iZ (fun cdv A outer s H vs Q E hr h=>?_)
 ·obtain ⟨n,gA,a,gs,given,x,rfl,hg,ha,xT,hgl,h0,hn,q⟩:=h
  have hu:=BF hr
  refine ⟨_,ag (aq (i:=3) iZ.nd rfl (Or.inl rfl) (rp hu (cu bm rfl B.tuple (by decide +kernel) (aa (pv 1) af)) n8))
   (ag (aq (i:=4) iZ.nd rfl (Or.inl rfl) (aV (aa (pv 1) af)))
   (ag (dj PassesOwn.never (PW.pt (yU (aU qk (aA au rfl B.len PySem.boot_len (aa (pv 4) af)) aB (be _)) (vg (aU Af (aA oO rfl B.len PySem.boot_len (aa (pv 3) af)) (pv 2) (be _)))))
    (ag (aq (i:=5) iZ.nd rfl (Or.inl rfl) (vw PySem.F.plainAttrs_list PySem.F.slot_list_pop PySem.F.type_list_pop vY (pv 4)))
    (ah (bw PassesOwn.never rfl (aP (pv 0)) (aG (i:=6) iZ.nd rfl (Or.inl rfl))
     (ag (aq (i:=7) iZ.nd rfl (Or.inl rfl) (ak CL hr rfl (aa (pv 5) (aa (pv 6) af))))
     (ah (dz (vh (ku hu (cu bm rfl B.tuple (by decide +kernel) (aa (pv 7) af)) (pv 3)))
      (ag (vi hu (pv 3) (cu bm rfl B.tuple (by decide +kernel) (aa (pv 7) af)) n8 rfl)
      (ah (aX (eD PySem.F.plainAttrs_list PySem.F.slot_list_append PySem.F.type_list_append bZ (pv 4) (aa (pv 7) af))))) bi)))))))
   (ah (ax (aA oO rfl B.len PySem.boot_len (aa (pv 3) af)))))),?_⟩
  have xpos:0<x.length:=by rw[xT.len];exact h0
  intro fA hfA
  refine ⟨_,rfl,a,_,rfl,.inl ⟨(al (az.refl _) hfA).seq ha,fun T hTn=>?_⟩⟩
  have fT:fA≠T:=fun z=>by rw[←z,ae] at hTn;cases hTn
  have hTH:H T=none:=by rw[ai (fun z=>fT z.symm)] at hTn;exact hTn
  refine ⟨_,_,T,cB x,rfl,(by rw[ai fT,ae]),rfl,(by rw[ae,fS]),?_⟩
  have s1:az H (upd (upd (upd H fA (.dT [])) T (.tup (iv x))) fA (.dT [(cB x,V.bl true)])):=aH (al (al (az.refl _) hfA) hTn) hfA
  have hf1:(upd (upd (upd H fA (.dT [])) T (.tup (iv x))) fA (.dT [(cB x,V.bl true)])) fA=some (.dT (dk [x] [V.bl true])):=ae
  generalize upd (upd (upd H fA (.dT [])) T (.tup (iv x))) fA (.dT [(cB x,V.bl true)])=H1 at s1 hf1
  refine ⟨_,rfl,Nat.le_of_lt (sz (by show 1≤1000000;decide)),fun pA hpA=>?_⟩
  have hpn:H pA=none:=s1.free hpA
  have pf:fA≠pA:=am hf1 hpA
  have s2:az H1 (upd H1 pA (.lst [V.ref a])):=al (az.refl _) hpA
  have hp2:(upd H1 pA (.lst [V.ref a])) pA=some (.lst ([a].map V.ref)):=ae
  generalize upd H1 pA (.lst [V.ref a])=H2 at s2 hp2
  have s12:=s1.trans s2
  refine ⟨fun m σ H'=>∃ (v5 v6 v7:Option V) (es:List Addr) (fd pend:List Turn.Row) (d:Nat),σ=[some (.ref gA),some (.ref a),some (.int 1000),some (.ref fA),some (.ref pA),v5,v6,v7]∧H' fA=some (.dT (dk fd (List.replicate fd.length (V.bl true))))∧H' pA=some (.lst (es.map V.ref))∧aF K H' es pend∧zg given x fd pend (fun _=>False)∧fd.length=d+pend.length∧fd.length≤1100∧az H H'∧m=1200-d,
   ⟨_,none,none,none,[a],[x],[x],0,rfl,s2 _ _ hf1,hp2,aF.nil.snoc (s12.seq ha),⟨by simp,by simp,fun z hz=>(by rw[Ms hz];exact Cls.self x),fun z hz=>hz,fun z hz=>.inl hz⟩,by simp,by simp,s12,rfl⟩,?_⟩
  rintro m σ H' ⟨v5,v6,v7,es,fd,pend,d,rfl,hf,hp,hR,I,hd,hfl,s3,rfl⟩
  have fin:∀ H':Hp,H' fA=some (.dT (dk fd (List.replicate fd.length (V.bl true))))→az H H'→(fd.length≤1000→pend=[])→Q (.int (((dk fd (List.replicate fd.length (V.bl true))).length:Nat):Int)) H':=fun H' hf' s' hc=>by
   rw[oF (by rw[length_replicate])]
   refine q H' fd.length (Tt.tL h0 hg.isT xT I.nd I.cls fun hle z hz=>?_) s'
   refine hz.all I.self fun y hy g hgm=>?_
   rcases I.co y hy with w1|w1|w1
   ·rw[hc hle] at w1;cases w1
   ·exact w1.elim
   ·exact w1 g hgm
  refine ⟨_,rfl,pA,_,rfl,.inl (SqL.of hp),_,_,rfl,rfl,_,rfl,eX (fun hlt=>?_) fun hge=>?_⟩
  ·refine ⟨_,rfl,fA,_,rfl,hf,_,rfl,_,_,rfl,rfl,_,rfl,eX (fun hle=>?_) fun hgt=>?_⟩
   ·rw[length_map] at hlt
    rw[oF (by rw[length_replicate])] at hle
    have hel:0<es.length:=by omega
    obtain ⟨es',ya,rfl⟩:=l8 hel
    have hpl:0<pend.length:=by rw[←hR.len];exact hel
    obtain ⟨pd,y,rfl⟩:=l8 hpl
    obtain ⟨hR',hy⟩:=hR.cut
    have allT:∀ z∈fd,IsT n z:=fun z hz=>(I.cls z hz).isT hg.isT xT
    have yf:y∈fd:=I.sub y (by simp)
    have yT:=allT y yf
    have ypos:0<y.length:=by rw[yT.len];exact h0
    have ppos:∀ z∈pd,0<z.length:=fun z hz=>by rw[(allT z (I.sub z (by simp[hz]))).len];exact h0
    refine ⟨_,fun σ' H'' h=>h,?_⟩
    refine ⟨_,rfl,.inl ⟨rfl,_,SqL.of hp⟩,pA,_,V.ref ya,rfl,rfl,hp,(by simp),?_⟩
    have edl:((es'++[ya]).map V.ref).dropLast=es'.map V.ref:=by simp
    rw[edl]
    have ap:=cX hp
    have hR4:=gP (sx1 (o:=.lst (es'.map V.ref))) ap ppos hR'
    have hy4:=sqX (sx1 (o:=.lst (es'.map V.ref))) ap ypos hy
    have hp4:(upd H' pA (.lst (es'.map V.ref))) pA=some (.lst (es'.map V.ref)):=ae
    have hf4:(upd H' pA (.lst (es'.map V.ref))) fA=some (.dT (dk fd (List.replicate fd.length (V.bl true)))):=by rw[ai pf];exact hf
    have s4:az H (upd H' pA (.lst (es'.map V.ref))):=aH s3 hpn
    generalize upd H' pA (.lst (es'.map V.ref))=H4 at hR4 hy4 hp4 hf4 s4
    rw[length_append,length_singleton] at hd
    refine ⟨_,rfl,gA,rfl,⟨_,s4.seq hg.lst⟩,bj (K:=K) (a:=gA) (xs:=gs.map V.ref) (fun i σ H5=>∃ (v6 v7:Option V) (es2:List Addr) (fd2 pd2:List Turn.Row),σ=[some (.ref gA),some (.ref a),some (.int 1000),some (.ref fA),some (.ref pA),some (.ref ya),v6,v7]∧H5 fA=some (.dT (dk fd2 (List.replicate fd2.length (V.bl true))))∧H5 pA=some (.lst (es2.map V.ref))∧aF K H5 es2 pd2∧SqL K H5 ya (iv y)∧zg given x fd2 pd2 (fun z=>z=y)∧y∈fd2∧(∀ g∈given.take i,conjugate y g∈fd2)∧fd2.length=d+1+pd2.length∧fd2.length≤1000+i∧az H H5)
     ⟨_,_,es',fd,pd,rfl,hf4,hp4,hR4,hy4,⟨I.nd,I.self,I.cls,fun z hz=>I.sub z (by simp[hz]),fun z hz=>by
      rcases I.co z hz with w1|w1|w1
      ·rcases Ma w1 with w1|w1
       ·exact .inl w1
       ·exact .inr (.inl (Ms w1))
      ·exact w1.elim
      ·exact .inr (.inr w1)⟩,yf,fun g hg'=>(by simp at hg'),by omega,by omega,s4⟩ (fun i σ H5 _ ⟨_,_,_,_,_,_,_,_,_,_,_,_,_,_,_,s5⟩=>s5.seq hg.lst) ?_ ?_⟩
    ·rintro i v σ H5 hi ⟨v6,v7,es2,fd2,pd2,rfl,hf5,hp5,hR5,hy5,J,yf2,hcl,hd2,hl2,s5⟩
     rw[getElem?_map] at hi
     obtain ⟨ga,hga,rfl⟩:=Oq hi
     obtain ⟨g,hgm,hgq⟩:=hg.rows.get hga
     have gmem:=mem_of_getElem? hgm
     have gT:=hg.isT g gmem
     have hil:i<given.length:=(Gq hgm).1
     have zT:=Tt.cO yT gT
     have zpos:0<(conjugate y g).length:=by rw[zT.len];exact h0
     refine ⟨_,rfl,_,rfl,ya,ga,y,g,n,rfl,hy5,s5.seq hgq,yT,gT,by omega,fun H6 c hc hc6 s6=>?_⟩
     have hf6:=s6 _ _ hf5
     have hp6:=s6 _ _ hp5
     refine ⟨_,rfl,c,_,rfl,.inl ⟨SqL.of hc6,fun T2 hT2=>?_⟩⟩
     have s7:az H6 (upd H6 T2 (.tup (iv (conjugate y g)))):=al (az.refl _) hT2
     have hT7:(upd H6 T2 (.tup (iv (conjugate y g)))) T2=some (.tup ((cB (conjugate y g)).map kV)):=by rw[ae,fS]
     generalize upd H6 T2 (.tup (iv (conjugate y g)))=H7 at s7 hT7
     have hf7:=s7 _ _ hf6
     have hp7:=s7 _ _ hp6
     have s57:=(s5.trans s6).trans s7
     have hlen:fd2.length=(List.replicate fd2.length (V.bl true)).length:=by rw[length_replicate]
     refine ⟨_,rfl,fA,_,rfl,ub.t hf7 hT7,_,rfl,?_⟩
     by_cases hz:conjugate y g∈fd2
     ·obtain ⟨u,hu2⟩:=AD hlen J.nd hz
      rw[hu2]
      refine (nD (A:=_) ?_:if (!true)=true then _ else _)
      refine ⟨_,_,es2,fd2,pd2,rfl,hf7,hp7,(hR5.same s6).same s7,s7.seq (s6.seq hy5),J,yf2,fun k hk=>?_,hd2,by omega,s57⟩
      rw[aC hgm] at hk
      rcases Ma hk with w1|w1
      ·exact hcl k w1
      ·rw[Ms w1];exact hz
     ·rw[nl hz]
      refine (oy (A:=_) ?_:if (!false)=true then _ else _)
      refine ⟨_,rfl,_,rfl,c,_,rfl,.inl ⟨SqL.of (s7 _ _ hc6),fun T3 hT3=>?_⟩⟩
      have s8:az H7 (upd H7 T3 (.tup (iv (conjugate y g)))):=al (az.refl _) hT3
      have hT8:(upd H7 T3 (.tup (iv (conjugate y g)))) T3=some (.tup ((cB (conjugate y g)).map kV)):=by rw[ae,fS]
      generalize upd H7 T3 (.tup (iv (conjugate y g)))=H8 at s8 hT8
      have hf8:=s8 _ _ hf7
      refine ⟨fA,_,rfl,AQ.t hf8 hT8 (by rw[oF hlen];exact sz (by omega)),?_⟩
      rw[y9 hlen hz]
      have er:List.replicate fd2.length (V.bl true)++[V.bl true]=List.replicate (fd2++[conjugate y g]).length (V.bl true):=by rw[length_append,length_singleton,replicate_succ']
      rw[er]
      have s58:=s57.trans s8
      have fp:pA≠fA:=fun z=>pf z.symm
      have hfn:H fA=none:=hfA
      have sf:aT [fA] H8 (upd H8 fA (.dT (dk (fd2++[conjugate y g]) (List.replicate (fd2++[conjugate y g]).length (V.bl true))))):=sx1
      have apf:d3 H8 [fA]:=nT (K:=K) hf8
      have p2pos:∀ z∈pd2,0<z.length:=fun z hz=>by rw[((J.cls z (J.sub z hz)).isT hg.isT xT).len];exact h0
      have hR9:=gP sf apf p2pos (((hR5.same s6).same s7).same s8)
      have hy9:=sqX sf apf ypos (s8.seq (s7.seq (s6.seq hy5)))
      have hc9:=sqX (K:=K) sf apf zpos (SqL.of (s8 _ _ (s7 _ _ hc6)))
      have hp9:=sf _ _ (s8 _ _ hp7) (by simpa using fp)
      have hf9:(upd H8 fA (.dT (dk (fd2++[conjugate y g]) (List.replicate (fd2++[conjugate y g]).length (V.bl true))))) fA=some (.dT (dk (fd2++[conjugate y g]) (List.replicate (fd2++[conjugate y g]).length (V.bl true)))):=ae
      have s9:az H (upd H8 fA (.dT (dk (fd2++[conjugate y g]) (List.replicate (fd2++[conjugate y g]).length (V.bl true))))):=aH s58 hfn
      generalize upd H8 fA (.dT (dk (fd2++[conjugate y g]) (List.replicate (fd2++[conjugate y g]).length (V.bl true))))=H9 at hR9 hy9 hc9 hp9 hf9 s9
      have hl3:es2.length=pd2.length:=hR5.len
      refine ⟨_,rfl,.inl ⟨rfl,_,SqL.of hp9⟩,_,rfl,pA,_,_,rfl,rfl,hp9,(by rw[length_map];exact sz (by omega)),?_⟩
      have ap9:=cX hp9
      refine ⟨_,_,es2++[c],fd2++[conjugate y g],pd2++[conjugate y g],rfl,(by rw[ai pf];exact hf9),(by rw[ae,map_append];rfl),(gP sx1 ap9 p2pos hR9).snoc (sqX sx1 ap9 zpos hc9),sqX sx1 ap9 ypos hy9,⟨?_,mem_append_left _ J.self,fun z hz'=>?_,fun z hz'=>?_,fun z hz'=>?_⟩,mem_append_left _ yf2,fun k hk=>?_,by simp only[length_append,length_singleton];omega,by simp only[length_append,length_singleton];omega,aH s9 hpn⟩
      ·rw[nodup_append]
       exact ⟨J.nd,by simp,fun u hu' v hv' e=>hz (by rw[Ms hv'] at e;rw[←e];exact hu')⟩
      ·rcases Ma hz' with w1|w1
       ·exact J.cls z w1
       ·rw[Ms w1];exact (J.cls y yf2).step gmem
      ·rcases Ma hz' with w1|w1
       ·exact mem_append_left _ (J.sub z w1)
       ·exact mem_append_right _ w1
      ·rcases Ma hz' with w1|w1
       ·rcases J.co z w1 with w2|w2|w2
        ·exact .inl (mem_append_left _ w2)
        ·exact .inr (.inl w2)
        ·exact .inr (.inr fun g' hg'=>mem_append_left _ (w2 g' hg'))
       ·exact .inl (mem_append_right _ w1)
      ·rw[aC hgm] at hk
       rcases Ma hk with w1|w1
       ·exact mem_append_left _ (hcl k w1)
       ·rw[Ms w1];exact mem_append_right _ (by simp)
    ·rintro σ H5 ⟨v6,v7,es2,fd2,pd2,rfl,hf5,hp5,hR5,hy5,J,yf2,hcl,hd2,hl2,s5⟩
     rw[length_map,hg.rows.len] at hl2 hcl
     rw[take_length] at hcl
     refine ⟨1200-(d+1),by omega,_,_,_,es2,fd2,pd2,d+1,rfl,hf5,hp5,hR5,⟨J.nd,J.self,J.cls,J.sub,fun z hz=>?_⟩,hd2,by omega,s5,rfl⟩
     rcases J.co z hz with w1|w1|w1
     ·exact .inl w1
     ·rw[w1];exact .inr (.inr hcl)
     ·exact .inr (.inr w1)
   ·rw[oF (by rw[length_replicate])] at hgt
    exact ⟨_,rfl,fA,_,rfl,hf,fin H' hf s3 fun z=>absurd z (by omega)⟩
  ·rw[length_map] at hge
   have he0:pend.length=0:=by rw[←hR.len];omega
   exact nD ⟨_,rfl,fA,_,rfl,hf,fin H' hf s3 fun _=>eq_nil_of_length_eq_zero he0⟩
theorem jm:ao ["given","x","reached","words","at","before","letter","turn","after"] ["given","x"] (aj zP):=bX
set_option maxHeartbeats 1000000 in
theorem Ag {f:Addr}{fd:FuncData}(F:Fun K "shortest_word" "shortest_word" zP f fd)(B:Blt mg)(CS:Cal P w K mg base 1 "still_turn" ["things"] fc)(CP:Cal P w K mg base 1 "product" ["x","y"] (bv K)):aZ P w K mg base CX0 2 f fd ["given","x"] (uo K):=by
 refine okF F jm (fun cdv A outer s H vs Q E hr h=>?_)
 ·obtain ⟨n,gA,a,gs,given,x,rfl,hg,ha,hx,hgd,hgl,h0,hn,hwt,q⟩:=h
  have hu:=BF hr
  have xT:=hx.isT hg.isT
  refine ⟨_,ag (aq (i:=2) jm.nd rfl (Or.inl rfl) (aV (aa (ak CS hr rfl (aa (aA au rfl B.len PySem.boot_len (aa (pv 1) af)) af)) af)))
   (ag (aq (i:=3) jm.nd rfl (Or.inl rfl) (rp hu (cu bm rfl B.tuple (by decide +kernel) (aa (aL ay (pv 2) aB (fun _ _=>rfl)) af)) (aV af)))
   (ag (aq (i:=4) jm.nd rfl (Or.inl rfl) aB)
   (ag (dj PassesOwn.never (vh (ku hu (cu bm rfl B.tuple (by decide +kernel) (aa (pv 1) af)) (pv 3)))
    (ag (aq (i:=5) jm.nd rfl (Or.inl rfl) (aL ay (pv 2) (pv 4) (fun _ _=>rfl)))
    (ag (bw PassesOwn.never rfl (eu rfl B.enumerate (aa (pv 0) af)) (eB (p:=6) (q:=7) rfl jm.nd rfl rfl rfl rfl)
     (ag (aq (i:=8) jm.nd rfl (Or.inl rfl) (ak CP hr rfl (aa (pv 5) (aa (pv 7) af))))
     (ah (dz (vh (ku hu (cu bm rfl B.tuple (by decide +kernel) (aa (pv 8) af)) (pv 3)))
      (ag (vi hu (pv 3) (cu bm rfl B.tuple (by decide +kernel) (aa (pv 8) af)) (dq yZ (vv hu (pv 3) (cu bm rfl B.tuple (by decide +kernel) (aa (pv 5) af)) (fun _ _=>rfl)) (aV (aa (pv 6) af))) rfl)
      (ah (aX (eD PySem.F.plainAttrs_list PySem.F.slot_list_append PySem.F.type_list_append bZ (pv 2) (aa (pv 8) af))))) bi))))
    (ah (aq (i:=4) jm.nd rfl (Or.inl rfl) (dq d9 (pv 4) aB))))))
   (ah (ax (vv hu (pv 3) (cu bm rfl B.tuple (by decide +kernel) (aa (pv 1) af)) (fun _ _=>rfl))))))),?_⟩
  have stp:0<(Turn.still n).length:=by rw[Tt.bE];exact h0
  refine ⟨_,rfl,a,_,rfl,.inl ha,n,(by rw[aO,xT.len];rfl),by omega,fun H1 e0 he0 he01 s1=>⟨Nat.le_of_lt (sz (by show 1≤1000000;decide)),fun rA hrA=>?_⟩⟩
  have hrn:H rA=none:=s1.free hrA
  have er0:e0≠rA:=am he01 hrA
  have s2:az H (upd H1 rA (.lst [V.ref e0])):=al s1 hrA
  have hr2:(upd H1 rA (.lst [V.ref e0])) rA=some (.lst ([e0].map V.ref)):=ae
  have he2:(upd H1 rA (.lst [V.ref e0])) e0=some (.lst (iv (Turn.still n))):=by rw[ai er0];exact he01
  generalize upd H1 rA (.lst [V.ref e0])=H2 at s2 hr2 he2
  intro wA hwA
  have hwn:H wA=none:=s2.free hwA
  have s3:az H2 (upd H2 wA (.dT [])):=al (az.refl _) hwA
  have hw3:(upd H2 wA (.dT [])) wA=some (.dT []):=ae
  generalize upd H2 wA (.dT [])=H3 at s3 hw3
  refine ⟨_,rfl,rA,_,_,_,rfl,rfl,SqL.of (s3 _ _ hr2),aw (j:=0) (v:=V.ref e0) rfl,e0,_,rfl,.inl ⟨SqL.of (s3 _ _ he2),fun T hTn=>?_⟩⟩
  have s4:az H3 (upd H3 T (.tup (iv (Turn.still n)))):=al (az.refl _) hTn
  have hT4:(upd H3 T (.tup (iv (Turn.still n)))) T=some (.tup ((cB (Turn.still n)).map kV)):=by rw[ae,fS]
  generalize upd H3 T (.tup (iv (Turn.still n)))=H4 at s4 hT4
  refine ⟨Nat.zero_le _,fun u0 hu0=>?_⟩
  have hw4:=s4 _ _ hw3
  have wu:wA≠u0:=am hw4 hu0
  have Tu:T≠u0:=am hT4 hu0
  have hu0n:H u0=none:=s2.free (s3.free (s4.free hu0))
  refine ⟨_,_,T,cB (Turn.still n),rfl,(by rw[ai wu];exact hw4),rfl,(by rw[ai Tu];exact hT4),?_⟩
  have s5:az H (upd (upd H4 u0 (.lst [])) wA (.dT [(cB (Turn.still n),V.ref u0)])):=aH (al ((s2.trans s3).trans s4) hu0) hwn
  have hw5:(upd (upd H4 u0 (.lst [])) wA (.dT [(cB (Turn.still n),V.ref u0)])) wA=some (.dT (dk ((bfs n given 0).map (·.1)) ([u0].map V.ref))):=ae
  have hr5:(upd (upd H4 u0 (.lst [])) wA (.dT [(cB (Turn.still n),V.ref u0)])) rA=some (.lst ([e0].map V.ref)):=by
   rw[ai (fun z=>by rw[←z,hr2] at hwA;cases hwA),ai (fun z=>by rw[←z,s4 _ _ (s3 _ _ hr2)] at hu0;cases hu0)]
   exact s4 _ _ (s3 _ _ hr2)
  have he5:(upd (upd H4 u0 (.lst [])) wA (.dT [(cB (Turn.still n),V.ref u0)])) e0=some (.lst (iv (Turn.still n))):=by
   rw[ai (fun z=>by rw[←z,he2] at hwA;cases hwA),ai (fun z=>by rw[←z,s4 _ _ (s3 _ _ he2)] at hu0;cases hu0)]
   exact s4 _ _ (s3 _ _ he2)
  have hu5:(upd (upd H4 u0 (.lst [])) wA (.dT [(cB (Turn.still n),V.ref u0)])) u0=some (.lst (iv [])):=by rw[ai (fun z=>wu z.symm),ae];rfl
  generalize upd (upd H4 u0 (.lst [])) wA (.dT [(cB (Turn.still n),V.ref u0)])=H5 at s5 hw5 hr5 he5 hu5
  have wr:wA≠rA:=fun z=>by rw[z,hr5] at hw5;cases hw5
  have Rpos:∀ (k:Nat) (R:Tt.Rw),Tt.t5 n given k R→∀ z∈R.map (·.1),0<z.length:=fun k R B z hz=>by
   obtain ⟨p,hp,rfl⟩:=mem_map.mp hz
   rw[((B.made p hp).isT hg.isT).len];exact h0
  have Rlen:∀ k R,Tt.t5 n given k R→R.length≤1000:=fun k R B=>by
   obtain ⟨tb,tf⟩:=hgd.table hn
   have:=Tt.kN tb tf B.nd fun z hz=>by
    obtain ⟨p,hp,rfl⟩:=mem_map.mp hz
    exact B.made p hp
   rw[length_map] at this
   omega
  refine ⟨fun m σ H'=>∃ (v5 v6 v7 v8:Option V) (k:Nat) (es was:List Addr),σ=[some (.ref gA),some (.ref a),some (.ref rA),some (.ref wA),some (.int (k:Nat)),v5,v6,v7,v8]∧H' rA=some (.lst (es.map V.ref))∧aF K H' es ((bfs n given k).map (·.1))∧H' wA=some (.dT (dk ((bfs n given k).map (·.1)) (was.map V.ref)))∧bA H' was ((bfs n given k).map (·.2))∧(∀ u∈was,H u=none∧u≠rA∧u≠wA)∧k≤1000∧az H H'∧m=1001-k,
   ⟨_,none,none,none,none,0,[e0],[u0],rfl,hr5,aF.nil.snoc (SqL.of he5),hw5,bA.nil.snoc hu5,fun u hu'=>(by rw[Ms hu'];exact ⟨hu0n,fun z=>(by rw[z,hr5] at hu5;cases hu5),fun z=>wu z.symm⟩),Nat.zero_le _,s5,rfl⟩,?_⟩
  rintro m σ H' ⟨v5,v6,v7,v8,k,es,was,rfl,hr',hR,hw',hW,hwas,hk,s6,rfl⟩
  have BK:=Tt.r0 (n:=n) (gens:=given) k
  have hwl:((bfs n given k).map (·.1)).length=(was.map V.ref).length:=by rw[length_map,length_map,hW.len,length_map]
  refine ⟨_,rfl,a,_,rfl,.inl ⟨s6.seq ha,fun T1 hT1=>?_⟩⟩
  have s7:az H' (upd H' T1 (.tup (iv x))):=al (az.refl _) hT1
  have hT7:(upd H' T1 (.tup (iv x))) T1=some (.tup ((cB x).map kV)):=by rw[ae,fS]
  generalize upd H' T1 (.tup (iv x))=H7 at s7 hT7
  have s67:=s6.trans s7
  refine ⟨_,rfl,wA,_,rfl,ub.t (s7 _ _ hw') hT7,_,rfl,?_⟩
  by_cases hxm:x∈(bfs n given k).map (·.1)
  ·
   obtain ⟨u,hu'⟩:=AD hwl BK.nd hxm
   rw[hu']
   refine (nD (A:=_) ?_:if (!true)=true then _ else _)
   obtain ⟨i,hi⟩:=getElem?_of_mem hxm
   have hil:i<was.length:=by
    have:=(Gq hi).1
    rw[hwl,length_map] at this;exact this
   obtain ⟨ua,hua⟩:∃ ua,was[i]?=some ua:=⟨_,getElem?_eq_getElem hil⟩
   obtain ⟨wd,hwd,hwq⟩:=hW.get hua
   have hmem:(x,wd)∈bfs n given k:=by
    rw[getElem?_map] at hi hwd
    obtain ⟨p,hp1,hp2⟩:=Oq hi
    obtain ⟨p',hp3,hp4⟩:=Oq hwd
    have:p=p':=Oi (hp1.symm.trans hp3)
    subst this
    rw[←hp2,←hp4]
    exact mem_of_getElem? hp1
   refine ⟨_,rfl,_,rfl,a,_,rfl,.inl ⟨s67.seq ha,fun T2 hT2=>?_⟩⟩
   have s8:az H7 (upd H7 T2 (.tup (iv x))):=al (az.refl _) hT2
   have hT8:(upd H7 T2 (.tup (iv x))) T2=some (.tup ((cB x).map kV)):=by rw[ae,fS]
   generalize upd H7 T2 (.tup (iv x))=H8 at s8 hT8
   refine ⟨wA,V.ref ua,rfl,?_,?_⟩
   ·have:=ub.t (k:=cB x) (s8 _ _ (s7 _ _ hw')) hT8
    rw[nj BK.nd hi (show (was.map V.ref)[i]?=some (V.ref ua) by rw[getElem?_map,hua];rfl)] at this
    exact this
   ·have hlen:=BK.len _ hmem
    exact q wd k hmem (by show wd.length≤1000;exact Nat.le_trans hlen hk) H8 ua (hwas ua (mem_of_getElem? hua)).1 (s8 _ _ (s7 _ _ hwq)) (s67.trans s8)
  ·
   rw[nl hxm]
   refine (oy (A:=_) ?_:if (!false)=true then _ else _)
   have hkl:k<(bfs n given k).length:=by
    rcases Nat.lt_or_ge k (bfs n given k).length with z|z
    ·exact z
    ·exact absurd (Tt.AG z hx) hxm
   have hkb:=Rlen k _ BK
   obtain ⟨pr,hpr⟩:∃ pr,(bfs n given k)[k]?=some pr:=⟨_,getElem?_eq_getElem hkl⟩
   obtain ⟨b,wd⟩:=pr
   have bmem:=mem_of_getElem? hpr
   have bM:=BK.made _ bmem
   have bT:IsT n b:=bM.isT hg.isT
   have bpos:0<b.length:=by rw[bT.len];exact h0
   have hesk:k<es.length:=by rw[hR.len,length_map];exact hkl
   obtain ⟨ba,hba⟩:∃ ba,es[k]?=some ba:=⟨_,getElem?_eq_getElem hesk⟩
   have hbq:SqL K H' ba (iv b):=hR.at_ k ba b hba (by rw[getElem?_map,hpr];rfl)
   have hwask:k<was.length:=by rw[hW.len,length_map];exact hkl
   obtain ⟨ua,hua⟩:∃ ua,was[k]?=some ua:=⟨_,getElem?_eq_getElem hwask⟩
   have huq:H' ua=some (.lst (iv wd)):=hW.at_ k ua wd hua (by rw[getElem?_map,hpr];rfl)
   have hua':=hwas ua (mem_of_getElem? hua)
   have wdl:wd.length≤k:=BK.len _ bmem
   refine ⟨_,fun σ' H'' h=>h,?_⟩
   refine ⟨_,rfl,_,rfl,rA,_,_,_,rfl,rfl,SqL.of (s7 _ _ hr'),aw (j:=k) (v:=V.ref ba) (by rw[getElem?_map,hba];rfl),?_⟩
   have eb:bfs n given (k+1)=given.zipIdx.foldl (jO b wd) (bfs n given k):=by
    rw[bfs,hpr];rfl
   refine ⟨_,rfl,gA,_,rfl,s67.seq hg.lst,dB (K:=K) (a:=gA) (xs:=gs.map V.ref) (fun j σ H9=>∃ (v6 v7 v8:Option V) (es was:List Addr) (R:Tt.Rw),σ=[some (.ref gA),some (.ref a),some (.ref rA),some (.ref wA),some (.int (k:Nat)),some (.ref ba),v6,v7,v8]∧R=(given.zipIdx.take j).foldl (jO b wd) (bfs n given k)∧H9 rA=some (.lst (es.map V.ref))∧aF K H9 es (R.map (·.1))∧SqL K H9 ba (iv b)∧H9 wA=some (.dT (dk (R.map (·.1)) (was.map V.ref)))∧bA H9 was (R.map (·.2))∧(∀ u∈was,H u=none∧u≠rA∧u≠wA)∧was[k]?=some ua∧R[k]?=some (b,wd)∧az H H9)
    ⟨_,_,_,es,was,_,rfl,(by rw[take_zero];rfl),s7 _ _ hr',hR.same s7,s7.seq hbq,s7 _ _ hw',hW.same s7,hwas,hua,hpr,s67⟩ (fun j σ H9 _ ⟨_,_,_,_,_,_,_,_,_,_,_,_,_,_,_,_,s9⟩=>s9.seq hg.lst) ?_ ?_⟩
   ·rintro j v σ H9 S hj ⟨v6,v7,v8,es2,was2,R,rfl,hRe,hr9,hR9,hb9,hw9,hW9,hwas9,hua9,hRk,s9⟩ hS
    rw[getElem?_map] at hj
    obtain ⟨ga,hga,rfl⟩:=Oq hj
    obtain ⟨g,hgm,hgq⟩:=hg.rows.get hga
    have gmem:=mem_of_getElem? hgm
    have gT:=hg.isT g gmem
    have zT:=bT.mul gT
    have zpos:0<(Turn.mul b g).length:=by rw[zT.len];exact h0
    have hzi:given.zipIdx[j]?=some (g,j):=by rw[getElem?_zipIdx,hgm];simp
    have estep:(given.zipIdx.take (j+1)).foldl (jO b wd) (bfs n given k)=jO b wd R (g,j):=by
     rw[aC hzi,foldl_append,←hRe];rfl
    have BR:Tt.t5 n given (k+1) R:=by
     rw[hRe]
     exact Tt.nc bM wdl (BK.lt _ bmem) _ _ (fun g' hg'=>Tt.uc g' (mem_of_mem_take hg')) BK.up
    have hRl:=Rlen _ _ BR
    have sS:az H9 (upd H9 S (.tup [.int (j:Nat),.ref ga])):=al (az.refl _) hS
    generalize upd H9 S (.tup [.int (j:Nat),.ref ga])=H10 at sS
    have s10:=s9.trans sS
    refine ⟨_,rfl,_,rfl,ba,ga,b,g,rfl,sS.seq hb9,s10.seq hgq,(by rw[bT.len];omega),fun c hc=>(by rw[gT.len];exact bT.mem.mp hc),fun H11 c hc hc11 s11=>?_⟩
    refine ⟨_,rfl,c,_,rfl,.inl ⟨SqL.of hc11,fun T3 hT3=>?_⟩⟩
    have s12:az H11 (upd H11 T3 (.tup (iv (Turn.mul b g)))):=al (az.refl _) hT3
    have hT12:(upd H11 T3 (.tup (iv (Turn.mul b g)))) T3=some (.tup ((cB (Turn.mul b g)).map kV)):=by rw[ae,fS]
    generalize upd H11 T3 (.tup (iv (Turn.mul b g)))=H12 at s12 hT12
    have t12:=(sS.trans s11).trans s12
    have hw12:=t12 _ _ hw9
    have hr12:=t12 _ _ hr9
    have hlen2:(R.map (·.1)).length=(was2.map V.ref).length:=by rw[length_map,length_map,hW9.len,length_map]
    refine ⟨_,rfl,wA,_,rfl,ub.t hw12 hT12,_,rfl,?_⟩
    by_cases hzm:Turn.mul b g∈R.map (·.1)
    ·obtain ⟨u,hu'⟩:=AD hlen2 BR.nd hzm
     rw[hu']
     refine (nD (A:=_) ?_:if (!true)=true then _ else _)
     refine ⟨_,_,_,es2,was2,R,rfl,?_,hr12,hR9.same t12,t12.seq hb9,hw12,hW9.same t12,hwas9,hua9,hRk,s9.trans t12⟩
     rw[estep]
     unfold jO
     rw[if_pos (contains_iff_mem.mpr hzm)]
    ·rw[nl hzm]
     refine (oy (A:=_) ?_:if (!false)=true then _ else _)
     refine ⟨_,rfl,_,rfl,ba,_,rfl,.inl ⟨t12.seq hb9,fun T4 hT4'=>?_⟩⟩
     have s13:az H12 (upd H12 T4 (.tup (iv b))):=al (az.refl _) hT4'
     have hT13:(upd H12 T4 (.tup (iv b))) T4=some (.tup ((cB b).map kV)):=by rw[ae,fS]
     generalize upd H12 T4 (.tup (iv b))=H13 at s13 hT13
     have t13:=t12.trans s13
     have hw13:=s13 _ _ hw12
     refine ⟨wA,V.ref ua,rfl,?_,?_⟩
     ·have:=ub.t (k:=cB b) hw13 hT13
      rw[nj BR.nd (show (R.map (·.1))[k]?=some b by rw[getElem?_map,hRk];rfl) (show (was2.map V.ref)[k]?=some (V.ref ua) by rw[getElem?_map,hua9];rfl)] at this
      exact this
     have hu13:H13 ua=some (.lst (iv wd)):=t13 _ _ (hW9.at_ k ua wd hua9 (by rw[getElem?_map,hRk];rfl))
     refine ⟨_,rfl,Nat.le_of_lt (sz (by show 1≤1000000;decide)),fun l1 hl1=>?_⟩
     have ul1:ua≠l1:=am hu13 hl1
     refine ⟨ua,l1,_,_,rfl,rfl,(by rw[ai ul1];exact hu13),ae,(by rw[aO];exact Nat.le_of_lt (sz (by show wd.length+1≤1000000;omega))),fun nw hnw=>?_⟩
     have hnwl:nw≠l1:=fun z=>by rw[z,ae] at hnw;cases hnw
     have hnw13:H13 nw=none:=by rw[ai hnwl] at hnw;exact hnw
     have s14:az H13 (upd (upd H13 l1 (.lst [V.int (j:Nat)])) nw (.lst (iv wd++[V.int (j:Nat)]))):=al (al (az.refl _) hl1) hnw
     have hnw14:(upd (upd H13 l1 (.lst [V.int (j:Nat)])) nw (.lst (iv wd++[V.int (j:Nat)]))) nw=some (.lst (iv (wd++[j]))):=by rw[ae,eE]
     generalize upd (upd H13 l1 (.lst [V.int (j:Nat)])) nw (.lst (iv wd++[V.int (j:Nat)]))=H14 at s14 hnw14
     have t14:=t13.trans s14
     refine ⟨_,rfl,_,rfl,c,_,rfl,.inl ⟨SqL.of (s14 _ _ (s13 _ _ (s12 _ _ hc11))),fun T5 hT5=>?_⟩⟩
     have s15:az H14 (upd H14 T5 (.tup (iv (Turn.mul b g)))):=al (az.refl _) hT5
     have hT15:(upd H14 T5 (.tup (iv (Turn.mul b g)))) T5=some (.tup ((cB (Turn.mul b g)).map kV)):=by rw[ae,fS]
     generalize upd H14 T5 (.tup (iv (Turn.mul b g)))=H15 at s15 hT15
     have t15:=t14.trans s15
     have hw15:=t15 _ _ hw9
     refine ⟨wA,_,rfl,AQ.t hw15 hT15 (by rw[oF hlen2,length_map];exact sz (by omega)),?_⟩
     rw[y9 hlen2 hzm]
     have ek:R.map (·.1)++[Turn.mul b g]=(R++[(Turn.mul b g,wd++[j])]).map (·.1):=by rw[map_append];rfl
     have ev:was2.map V.ref++[V.ref nw]=(was2++[nw]).map V.ref:=by rw[map_append];rfl
     rw[ek,ev]
     have sw:aT [wA] H15 (upd H15 wA (.dT (dk ((R++[(Turn.mul b g,wd++[j])]).map (·.1)) ((was2++[nw]).map V.ref)))):=sx1
     have apw:d3 H15 [wA]:=nT (K:=K) hw15
     have Rp:=Rpos _ _ BR
     have hR16:=gP sw apw Rp (hR9.same t15)
     have hb16:=sqX sw apw bpos (t15.seq hb9)
     have hc15:H15 c=some (.lst (iv (Turn.mul b g))):=s15 _ _ (s14 _ _ (s13 _ _ (s12 _ _ hc11)))
     have cw:c≠wA:=fun z=>by rw[z,hw15] at hc15;cases hc15
     have hc16:=sw _ _ hc15 (by simpa using cw)
     have hr16:=sw _ _ (t15 _ _ hr9) (by simpa using fun z=>wr z.symm)
     have nww:nw≠wA:=fun z=>by rw[z,hw13] at hnw13;cases hnw13
     have nwr:nw≠rA:=fun z=>by rw[z,t13 _ _ hr9] at hnw13;cases hnw13
     have hwn2:wA∉was2:=fun z=>(hwas9 wA z).2.2 rfl
     have hW16:bA (upd H15 wA (.dT (dk ((R++[(Turn.mul b g,wd++[j])]).map (·.1)) ((was2++[nw]).map V.ref)))) (was2++[nw]) ((R++[(Turn.mul b g,wd++[j])]).map (·.2)):=by
      have em:(R++[(Turn.mul b g,wd++[j])]).map (·.2)=R.map (·.2)++[wd++[j]]:=by rw[map_append];rfl
      rw[em]
      refine bA.snoc (bA.put (hW9.same t15) hwn2) ?_
      rw[ai nww];exact s15 _ _ hnw14
     have hw16:(upd H15 wA (.dT (dk ((R++[(Turn.mul b g,wd++[j])]).map (·.1)) ((was2++[nw]).map V.ref)))) wA=some (.dT (dk ((R++[(Turn.mul b g,wd++[j])]).map (·.1)) ((was2++[nw]).map V.ref))):=ae
     have s16:az H (upd H15 wA (.dT (dk ((R++[(Turn.mul b g,wd++[j])]).map (·.1)) ((was2++[nw]).map V.ref)))):=aH (s9.trans t15) hwn
     generalize upd H15 wA (.dT (dk ((R++[(Turn.mul b g,wd++[j])]).map (·.1)) ((was2++[nw]).map V.ref)))=H16 at hR16 hb16 hc16 hr16 hW16 hw16 s16
     have hel:es2.length=R.length:=by rw[hR9.len,length_map]
     refine ⟨_,rfl,.inl ⟨rfl,_,SqL.of hr16⟩,_,rfl,rA,_,_,rfl,rfl,hr16,(by rw[length_map,hel];exact sz (by omega)),?_⟩
     have apr:=cX hr16
     have hrw:rA∉was2++[nw]:=fun z=>by
      rcases Ma z with z|z
      ·exact (hwas9 rA z).2.1 rfl
      ·exact nwr (Ms z).symm
     refine ⟨_,_,_,es2++[c],was2++[nw],R++[(Turn.mul b g,wd++[j])],rfl,?_,(by rw[ae,map_append];rfl),?_,sqX sx1 apr bpos hb16,(by rw[ai wr];exact hw16),hW16.put hrw,fun u hu'=>?_,?_,?_,aH s16 hrn⟩
     ·rw[estep]
      unfold jO
      rw[if_neg fun z=>hzm (contains_iff_mem.mp z)]
     ·rw[map_append]
      exact (gP sx1 apr Rp hR16).snoc (sqX (K:=K) sx1 apr zpos (SqL.of hc16))
     ·rcases Ma hu' with z|z
      ·exact hwas9 u z
      ·rw[Ms z];exact ⟨(s9.trans t13).free hnw13,nwr,nww⟩
     ·rw[getElem?_append_left (Gq hua9).1];exact hua9
     ·rw[getElem?_append_left (Gq hRk).1];exact hRk
   ·rintro σ H9 ⟨v6,v7,v8,es2,was2,R,rfl,hRe,hr9,hR9,hb9,hw9,hW9,hwas9,hua9,hRk,s9⟩
    have eR:R=bfs n given (k+1):=by
     rw[hRe,eb,take_of_length_le (by rw[length_zipIdx,length_map,hg.rows.len];exact Nat.le_refl _)]
    subst eR
    refine ⟨_,rfl,_,_,rfl,rfl,?_⟩
    exact ⟨1001-(k+1),by omega,_,_,_,_,k+1,es2,was2,rfl,hr9,hR9,hw9,hW9,hwas9,by omega,s9,rfl⟩
end
end Bt
namespace Bt
open PySem PySem.Spec PyProof.Rows L2
open PySem.W (Codec)
open Tt (Tab tU TOk aR bS aE IsT gz wt)
abbrev A9:Stmt:=jd (top 41) 3
abbrev mo:Stmt:=top 89
section
variable {K:Frag} {CG CB:Addr} {H H2:Hp}
theorem wZ {b x:Addr}{foot A:List Addr}{st:State}{g:Nat}{gens:List Turn.Row}(hB:aK K CG CB H b foot st)(s2:az H H2)(hGx:bo K CG H2 x A st.n gens)(hl:gens.length≤100)(hA:∀ a∈A,a∉foot)(hg:g<4):
  ∃ (dx L:Addr) (os:List Addr),H b=some (.ins CB dx (bf st.n L))∧H L=some (.lst (os.map V.ref))∧os.length=4∧L∈foot∧∃ foot',aK K CG CB (upd H2 L (.lst ((os.map V.ref).set g (.ref x)))) b foot' ⟨st.n,st.groups.set g gens⟩∧
   (∀ a∈foot',a∈foot∨a∈A)∧(∀ e,Rf (upd H2 L (.lst ((os.map V.ref).set g (.ref x)))) foot' e→Rf H foot e∨e=x∨Rf H2 A e)∧aT foot H (upd H2 L (.lst ((os.map V.ref).set g (.ref x)))):=by
 obtain ⟨dx,L,os,As,rfl,nd,h1,h2,h3,hG⟩:=hB.ex
 have h4:=hB.four
 have osl:os.length=4:=by rw[hG.l1,h4]
 have nd':=nd
 simp only[nodup_cons,mem_cons,not_or] at nd'
 obtain ⟨⟨nbd,nbL,nbA⟩,⟨ndL,ndA⟩,nLA,ndAs⟩:=nd'
 have sL:aT [L] H2 (upd H2 L (.lst ((os.map V.ref).set g (.ref x)))):=sx1
 have apL:d3 H2 [L]:=cX (s2 _ _ h3)
 have hA':∀ a∈A,a≠b∧a≠dx∧a≠L∧a∉As.flatten:=fun a ha=>by
  have:=hA a ha
  simp only[mem_cons,not_or] at this
  exact this
 have sub:∀ a∈(As.set g A).flatten,a∈As.flatten∨a∈A:=fun a ha=>by
  obtain ⟨C,hC,haC⟩:=mem_flatten.mp ha
  rcases mem_or_eq_of_mem_set hC with q|q
  ·exact .inl (mem_flatten.mpr ⟨C,q,haC⟩)
  ·rw[q] at haC;exact .inr haC
 have ndS:(As.set g A).flatten.Nodup:=by
  have:∀ (As:List (List Addr)) (g:Nat),As.flatten.Nodup→(∀ a∈A,a∉As.flatten)→(As.set g A).flatten.Nodup:=by
   intro As
   induction As with
   | nil=>intro g _ _;simp
   | cons C As ih=>
    intro g hn hd
    rw[flatten_cons,nodup_append] at hn
    cases g with
    | zero=>
     rw[set_cons_zero,flatten_cons,nodup_append]
     exact ⟨hGx.nodup,hn.2.1,fun a ha b hb q=>hd a ha (by rw[flatten_cons,q];exact mem_append_right _ hb)⟩
    | succ g=>
     rw[set_cons_succ,flatten_cons,nodup_append]
     refine ⟨hn.1,ih g hn.2.1 (fun a ha q=>hd a ha (by rw[flatten_cons];exact mem_append_right _ q)),fun a ha b hb q=>?_⟩
     obtain ⟨E,hE,hbE⟩:=mem_flatten.mp hb
     rcases mem_or_eq_of_mem_set hE with z|z
     ·exact hn.2.2 a ha b (mem_flatten.mpr ⟨E,z,hbE⟩) q
     ·rw[z] at hbE
      exact hd b hbE (by rw[flatten_cons,←q];exact mem_append_left _ ha)
  exact this As g hG.nd fun a ha=>(hA' a ha).2.2.2
 have hG2:aY K CG (upd H2 L (.lst ((os.map V.ref).set g (.ref x)))) st.n (os.set g x) (As.set g A) (st.groups.set g gens):=by
  refine ⟨by simp[hG.l1],by simp[hG.l2],fun i o C gens' k1 k2 k3=>?_,ndS⟩
  by_cases hi:i=g
  ·subst hi
   rw[getElem?_set_self (by rw[osl];exact hg)] at k1
   rw[getElem?_set_self (by rw[hG.l2,h4];exact hg)] at k2
   rw[getElem?_set_self (by rw[h4];exact hg)] at k3
   cases k1;cases k2;cases k3
   exact ⟨hGx.keep hB.pos sL apL fun a ha=>by simpa using (hA' a ha).2.2.1,hl⟩
  ·rw[getElem?_set_ne (fun z=>hi z.symm)] at k1 k2 k3
   have q:=hG.at_ i o C gens' k1 k2 k3
   exact ⟨(q.1.same s2).keep hB.pos sL apL fun a ha=>by simpa using fun z=>nLA (by rw[←z];exact mem_flatten.mpr ⟨C,mem_of_getElem? k2,ha⟩),q.2⟩
 refine ⟨dx,L,os,h1,h3,osl,by simp,b::dx::L::(As.set g A).flatten,⟨⟨dx,L,os.set g x,As.set g A,rfl,?_,?_,?_,?_,hG2⟩,hB.pos,hB.le,by show (st.groups.set g gens).length=4;rw[length_set];exact h4⟩,?_,?_,?_⟩
 ·simp only[nodup_cons,mem_cons,not_or]
  refine ⟨⟨nbd,nbL,fun q=>?_⟩,⟨ndL,fun q=>?_⟩,fun q=>?_,ndS⟩
  ·rcases sub _ q with z|z
   ·exact nbA z
   ·exact (hA' _ z).1 rfl
  ·rcases sub _ q with z|z
   ·exact ndA z
   ·exact (hA' _ z).2.1 rfl
  ·rcases sub _ q with z|z
   ·exact nLA z
   ·exact (hA' _ z).2.2.1 rfl
 ·rw[ai nbL];exact s2 _ _ h1
 ·rw[ai ndL];exact s2 _ _ h2
 ·rw[ae,map_set]
 ·intro a ha
  rcases Mc ha with rfl|ha
  ·exact .inl (by simp)
  rcases Mc ha with rfl|ha
  ·exact .inl (by simp)
  rcases Mc ha with rfl|ha
  ·exact .inl (by simp)
  ·rcases sub a ha with q|q
   ·exact .inl (by simp[q])
   ·exact .inr q
 ·rintro e ⟨z,hz,xs,w1,w2⟩
  rcases Mc hz with q|hz
  ·rw[q,ai nbL,s2 _ _ h1] at w1;cases w1
  rcases Mc hz with q|hz
  ·rw[q,ai ndL,s2 _ _ h2] at w1;cases w1
  rcases Mc hz with q|hz
  ·rw[q,ae] at w1
   cases w1
   rcases mem_or_eq_of_mem_set w2 with y|y
   ·exact .inl ⟨L,by simp,_,h3,y⟩
   ·cases y
    exact .inr (.inl rfl)
  ·have hzL:z≠L:=fun y=>by
    rcases sub z hz with q|q
    ·exact nLA (by rw[←y];exact q)
    ·exact (hA' z q).2.2.1 y
   rw[ai hzL] at w1
   rcases sub z hz with q|q
   ·obtain ⟨m,hm,ys,v1,v2⟩:=Rf.back (fun m hm o ho=>s2 m o ho) hG.apart.2 ⟨z,q,xs,w1,w2⟩
    exact .inl ⟨m,by simp[hm],ys,v1,v2⟩
   ·exact .inr (.inr ⟨z,q,xs,w1,w2⟩)
 ·intro a o e ha
  simp only[mem_cons,not_or] at ha
  rw[ai ha.2.2.1];exact s2 _ _ e
end
inductive zw (K:Frag) (CG CB:Addr) (vs:List V) (H:Hp) (Q:VK) (E:XK):Prop
 | mk (b t:Addr) (foot rs:List Addr) (st:State) (g:Nat) (T:Tab) (gens:List Turn.Row):vs=[.ref b,.int (g:Nat),.ref t]→aK K CG CB H b foot st→g<4→bt K H t rs T→TOk st.n T→gz st.n gens→bS st.n (aE st.n gens) (tU T)→t∉foot→(∀ r∈rs,r∉foot)→(∀ (H':Hp) (foot':List Addr),aK K CG CB H' b foot' ⟨st.n,st.groups.set g (Turn.own st.n gens)⟩→(∀ a∈foot',a∈foot∨a=t∨a∈rs∨H a=none)→(∀ e,Rf H' foot' e→Rf H foot e∨e∈rs∨Rf H rs e∨New H H' e)→aT foot H H'→bt K H' t rs T→(∀ e,H e≠none→H' e≠none)→Q .non H')→zw K CG CB vs H Q E
inductive eK (K:Frag) (CG CB:Addr) (vs:List V) (H:Hp) (Q:VK) (E:XK):Prop
 | mk (b t:Addr) (foot rs:List Addr) (st:State) (g:Nat) (T:Tab) (gens:List Turn.Row):vs=[.ref b,.int (g:Nat),.ref t]→aK K CG CB H b foot st→g<4→bt K H t rs T→TOk st.n T→gz st.n gens→bS st.n (aE st.n gens) (tU T)→t∉foot→(∀ r∈rs,r∉foot)→(∀ (H':Hp) (p:Addr) (foot':List Addr),H p=none→p∉foot'→H' p=some (.lst (iv [wt st.n (aE st.n gens) 0,(Turn.own st.n gens).length]))→aK K CG CB H' b foot' ⟨st.n,st.groups.set g (Turn.own st.n gens)⟩→(∀ a∈foot',a∈foot∨a=t∨a∈rs∨H a=none)→(∀ e,Rf H' foot' e→Rf H foot e∨e∈rs∨Rf H rs e∨New H H' e)→aT foot H H'→(∀ e,H e≠none→H' e≠none)→Q (.ref p) H')→eK K CG CB vs H Q E
theorem BG (g g' t:Addr):gm "given" (.ref g') (gf g t)=gf g' t:=rfl
theorem Ay (g t t':Addr):gm "table" (.ref t') (gf g t)=gf g t':=rfl
section
variable {P:Program} {w:World} {K:Frag} {mg:Str→Option Value} {base:Heap} {CG CB:Addr}
theorem A4:ao ["self","number","table","group"] ["self","number","table"] (aj A9):=bX
theorem Bp {f fI:Addr}{fd fdI:FuncData}(F:Fun K "put" "Bench.put" A9 f fd)(T:Txt K mg CG CB)(M:Mk K CG fI)(GI:aZ P w K mg base CX0 3 fI fdI ["self","things"] (j2 K CG))(bI:d4 K fdI ["self","things"] [])
  (CO:Cal P w K mg base 3 "own_turns" ["table"] (zx K)):aZ P w K mg base CX0 5 f fd ["self","number","table"] (zw K CG CB):=by
 refine okF F A4 (fun cdv A outer s H vs Q E hr h=>?_)
 ·obtain ⟨b,t,foot,rs,st,g,T0,gens,rfl,hB,hg,hT,ok,gd,FT,htf,hrf,k⟩:=h
  have hr3:bO 3 _:=hr.mono (by decide)
  refine ⟨_,ag (aq (i:=3) A4.nd rfl (Or.inl rfl) (qh M GI hr rfl T.mgG bI .nil mM (aa (bp (pv 0) rfl) af)))
   (ag (jq (pv 3) (ak CO hr3 rfl (aa (pv 2) af)) rfl)
   (ag (jq (pv 3) (pv 2) rfl)
   (ah (nW (pv 3) (n4 (bp (pv 0) rfl) (pv 1) iu))))),?_⟩
  obtain ⟨dx,L,os,As,hfe,nd,h1,h2,h3,hG⟩:=hB.ex
  refine ⟨_,rfl,b,CB,dx,_,_,rfl,h1,T.bcl,T.bThings,cK _ _,fun x dx' nx ndx nex=>?_⟩
  refine ⟨x,dx',st.n,rfl,ae,(by rw[ai nex,ae]),hB.pos,hB.le,fun H2 A0 hGx hAx hRx keep=>⟨rfl,?_⟩⟩
  have s2:az H H2:=az.made nx ndx keep
  obtain ⟨dx0,g0,t0,gs0,rs0,T00,hAe,ndA,e1,e2,_⟩:=hGx.ex
  have dx0n:H dx0=none:=by
   rcases hAx dx0 (by rw[hAe];simp) with q|q|q
   ·rw[q];exact nx
   ·rw[q];exact ndx
   ·by_cases z1:dx0=x
    ·rw[z1];exact nx
    ·by_cases z2:dx0=dx'
     ·rw[z2];exact ndx
     ·rw[ai z1,ai z2] at q;exact q
  have xd:x≠dx0:=fun z=>by rw[←z,e1] at e2;cases e2
  have hT2:=hT.same s2
  refine ⟨_,rfl,t,rs,T0,st.n,gens,rfl,hT2,ok,hB.pos,hB.le,gd,FT,fun H3 p es hp hp3 hR3 hes3 s3=>?_⟩
  have px:p≠x:=fun z=>by rw[z,e1] at hp;cases hp
  have pd:p≠dx0:=fun z=>by rw[z,e2] at hp;cases hp
  refine ⟨_,rfl,x,CG,dx0,_,rfl,s3 _ _ e1,T.gcl,T.gGiven,(by show 2<1000;decide),?_⟩
  rw[BG]
  refine ⟨_,rfl,_,rfl,x,CG,dx0,_,rfl,ae,T.gcl,T.gTable,(by show 2<1000;decide),?_⟩
  rw[Ay,o7]
  have xt:t≠x:=fun z=>by have:=hT.lst;rw[z,nx] at this;cases this
  have rsx:∀ r∈rs,r≠x:=fun r hr z=>hT.tracked r hr (by rw[z];exact nx)
  have td:t≠dx0:=fun z=>by have:=hT.lst;rw[z,dx0n] at this;cases this
  have rsd:∀ r∈rs,r≠dx0:=fun r hr z=>hT.tracked r hr (by rw[z];exact dx0n)
  have pn:H p=none:=s2.free hp
  have pt:p≠t:=fun z=>by rw[z] at pn;rw[hT.lst] at pn;cases pn
  have prs:p∉rs:=fun z=>hT.tracked p z pn
  have sx:aT [x] H3 (upd H3 x (.ins CG dx0 (gf p t))):=sx1
  have apx:d3 H3 [x]:=fun m hm o ho=>by
   rw[Ms hm,s3 _ _ e1] at ho
   cases ho
   exact ⟨fun _ _ z=>(by cases z),fun _ _ z=>(by cases z)⟩
  obtain ⟨ow1,ow2⟩:=Tt.Bj hB.le gd
  have FT':bS st.n (aE st.n (Turn.own st.n gens)) (tU T0):=by
   have:aE st.n (Turn.own st.n gens)=aE st.n gens:=funext fun z=>propext (ow2 z)
   rw[this];exact FT
  have hG5:bo K CG (upd H3 x (.ins CG dx0 (gf p t))) x (x::dx0::p::t::rs) st.n (Turn.own st.n gens):=by
   refine ⟨⟨dx0,p,t,es,rs,T0,rfl,?_,ae,?_,?_,?_,?_,ok,FT'⟩,ow1.isT⟩
   ·simp only[nodup_cons,mem_cons,not_or]
    exact ⟨⟨xd,fun z=>px z.symm,fun z=>xt z.symm,fun z=>rsx x z rfl⟩,⟨fun z=>pd z.symm,fun z=>td z.symm,fun z=>rsd dx0 z rfl⟩,⟨pt,prs⟩,hT.tn,hT.nd⟩
   ·rw[ai (fun z=>xd z.symm)];exact s3 _ _ e2
   ·rw[ai px];exact hp3
   ·exact gP sx apx (fun y hy=>by rw[(ow1.isT y hy).len];exact hB.pos) hR3
   ·exact zn sx apx ok (bS.ents FT) hB.pos (by simpa using xt) (fun r hr=>by simpa using rsx r hr) (hT2.same s3)
  have s5:az H (upd H3 x (.ins CG dx0 (gf p t))):=aH (s2.trans s3) nx
  have ltr:∀ a∈foot,H a≠none:=hB.tracked
  have hA5:∀ a∈x::dx0::p::t::rs,a∉foot:=fun a ha z=>by
   rcases Mc ha with q|ha
   ·exact ltr a z (by rw[q];exact nx)
   rcases Mc ha with q|ha
   ·exact ltr a z (by rw[q];exact dx0n)
   rcases Mc ha with q|ha
   ·exact ltr a z (by rw[q];exact pn)
   rcases Mc ha with q|ha
   ·rw[q] at z;exact htf z
   ·exact hrf a ha z
  have ol:=ow1.good hB.le
  obtain ⟨dx1,L1,os1,f1,f2,f3,f4,foot',B',fo,rf,sX⟩:=wZ hB s5 hG5 (by omega) hA5 hg
  have eL:L1=L∧dx1=dx:=by
   rw[h1] at f1
   have:=Oi f1
   injection this with a1 a2 a3
   have a4:(bf st.n L).lookup ("groups":Str)=(bf st.n L1).lookup ("groups":Str):=by rw[a3]
   rw[dW,dW] at a4
   exact ⟨(V.ref.inj (Oi a4)).symm,a2.symm⟩
  obtain ⟨rfl,rfl⟩:=eL
  refine ⟨_,rfl,_,rfl,b,CB,dx1,_,_,rfl,s5 _ _ f1,T.bcl,T.bGroups,dW _ _,_,rfl,L1,_,(g:Int),g,rfl,rfl,s5 _ _ f2,?_,?_⟩
  ·unfold ixN
   rw[length_map,f3,if_pos (by omega),if_pos (by omega)]
   simp
  have grow5:∀ e,H3 e≠none→(upd (upd H3 x (.ins CG dx0 (gf p t))) L1 (.lst ((os1.map V.ref).set g (.ref x)))) e≠none:=fun e he=>cS (cS he)
  refine k _ foot' B' (fun a ha=>?_) (fun e he=>?_) sX ?_ (fun e he=>cS (cb s5 he))
  ·rcases fo a ha with q|q
   ·exact .inl q
   ·rcases Mc q with q|q
    ·exact .inr (.inr (.inr (by rw[q];exact nx)))
    rcases Mc q with q|q
    ·exact .inr (.inr (.inr (by rw[q];exact dx0n)))
    rcases Mc q with q|q
    ·exact .inr (.inr (.inr (by rw[q];exact pn)))
    rcases Mc q with q|q
    ·exact .inr (.inl q)
    ·exact .inr (.inr (.inl q))
  ·rcases rf e he with q|q|⟨m,hm,xs,w1,w2⟩
   ·exact .inl q
   ·rw[q];exact .inr (.inr (.inr ⟨nx,grow5 x (there (s3 _ _ e1))⟩))
   ·rcases Mc hm with q|hm
    ·rw[q,ae] at w1;cases w1
    rcases Mc hm with q|hm
    ·rw[q,ai (fun z=>xd z.symm),s3 _ _ e2] at w1;cases w1
    rcases Mc hm with q|hm
    ·rw[q,ai px,hp3] at w1
     cases w1
     obtain ⟨c,hc1,hc2⟩:=mem_map.mp w2
     cases hc2
     rcases hes3 e hc1 with z|z
     ·exact .inr (.inr (.inl (Rf.back (fun m _ o ho=>s2 m o ho) hT.tracked z)))
     ·exact .inr (.inr (.inr ⟨s2.free z.1,grow5 e z.2⟩))
    rcases Mc hm with q|hm
    ·rw[q,s5 _ _ hT.lst] at w1
     cases w1
     obtain ⟨c,hc1,hc2⟩:=mem_map.mp w2
     cases hc2
     exact .inr (.inl hc1)
    ·exact .inr (.inr (.inl (Rf.back (fun m _ o ho=>s5 m o ho) hT.tracked ⟨m,hm,xs,w1,w2⟩)))
  ·exact zn sx1 (cX (s5 _ _ f2)) ok (bS.ents FT) hB.pos (by simpa using fun z=>htf (by rw[z];exact f4)) (fun r hr=>by simpa using fun z=>hrf r hr (by rw[z];exact f4)) (hT.same s5)
theorem uv:ao ["bench","number","table"] ["bench","number","table"] (aj mo):=bX
theorem sO {f fP:Addr}{fd fdP:FuncData}(F:Fun K "put_and_tell" "put_and_tell" mo f fd)(B:Blt mg)(T:Txt K mg CG CB)(mP:t7 K CB "put" fP)(GP:aZ P w K mg base CX0 5 fP fdP ["self","number","table"] (zw K CG CB))(bP:d4 K fdP ["self","number","table"] [])
  (CT:Cal P w K mg base 3 "turn_count" ["table"] (cr K)):aZ P w K mg base CX0 6 f fd ["bench","number","table"] (eK K CG CB):=by
 refine okF F uv (fun cdv A outer s H vs Q E hr h=>?_)
 ·obtain ⟨b,t,foot,rs,st,g,T0,gens,rfl,hB,hg,hT,ok,gd,FT,htf,hrf,k⟩:=h
  have hr3:bO 3 _:=hr.mono (by decide)
  refine ⟨_,ag (aX (kq (pv 0) T.bcl mP GP hr bP .nil mM (aa (pv 1) (aa (pv 2) af))))
   (ah (ax (aV (aa (ak CT hr3 rfl (aa (pv 2) af)) (aa (aA au rfl B.len PySem.boot_len (aa (bp (aL ay (bp (pv 0) rfl) (pv 1) (fun _ _=>rfl)) rfl) af)) af))))),?_⟩
  obtain ⟨dx,L,os,As,hfe,nd,h1,h2,h3,hG⟩:=hB.ex
  refine ⟨_,rfl,b,dx,_,rfl,h1,yN _ L (by decide +kernel) (by decide +kernel),_,rfl,_,rfl,b,t,foot,rs,st,g,T0,gens,rfl,hB,hg,hT,ok,gd,FT,htf,hrf,fun H2 foot' B' fo rf sX hT2 gr=>?_⟩
  obtain ⟨dx2,L2,os2,As2,hfe2,nd2,z1,z2,z3,hG2⟩:=B'.ex
  obtain ⟨o,A0,gens2,w1,w2,w3,w4,w5⟩:=hG2.get (i:=g) (by rw[B'.four];exact hg)
  have eg:gens2=Turn.own st.n gens:=by
   have:(st.groups.set g (Turn.own st.n gens))[g]?=some gens2:=w3
   rw[getElem?_set_self (by rw[hB.four];exact hg)] at this
   exact (Oi this).symm
  subst eg
  obtain ⟨dxo,ga,to,gso,rso,To,hAo,ndo,y1,y2,y3,y4,_⟩:=w4.ex
  refine ⟨_,rfl,t,rs,T0,st.n,_,rfl,hT2,ok,hB.le,FT,fun H3 s3=>?_⟩
  refine ⟨_,rfl,b,CB,dx2,_,_,rfl,s3 _ _ z1,T.bcl,T.bGroups,dW _ _,_,rfl,L2,_,_,_,rfl,rfl,SqL.of (s3 _ _ z3),aw (j:=g) (v:=V.ref o) (by rw[getElem?_map,w1];rfl),o,CG,dxo,_,_,rfl,s3 _ _ y1,T.gcl,T.gGiven,dl _ _,ga,_,rfl,.inl (SqL.of (s3 _ _ y3)),Nat.le_of_lt (sz (by show 2≤1000000;decide)),fun q hq=>?_⟩
  have B3:=B'.same s3
  have el:(gso.map V.ref).length=(Turn.own st.n gens).length:=by rw[length_map,y4.len]
  have qf:q∉foot':=fun z=>B3.tracked q z hq
  have sq:az H3 (upd H3 q (.lst [V.int (wt st.n (aE st.n gens) 0:Nat),V.int ((gso.map V.ref).length:Nat)])):=al (az.refl _) hq
  refine k _ q foot' ?_ qf (by rw[ae,el];rfl) (B3.same sq) fo (fun e he=>?_) ?_ (fun e he=>cb sq (cb s3 (gr e he)))
  ·rcases Classical.em (H q=none) with z|z
   ·exact z
   ·exact absurd hq (cb s3 (gr q z))
  ·have:=Rf.back (fun m _ o ho=>sq m o (s3 m o ho)) (fun m hm=>B'.tracked m hm) he
   rcases rf e this with w|w|w|w
   ·exact .inl w
   ·exact .inr (.inl w)
   ·exact .inr (.inr (.inl w))
   ·exact .inr (.inr (.inr ⟨w.1,cb sq (cb s3 w.2)⟩))
  ·exact fun a ob e ha=>sq _ _ (s3 _ _ (sX a ob e ha))
end
end Bt
namespace Bt
open PySem PySem.Spec PyProof.Rows L2
open PySem.W (Codec)
open Tt (IsT aE bS tU TOk Tab wt bR cz rs pl gz)
section
theorem wI (l:Addr)(xs:Array Value)(n:Nat)(b:Addr)(ys:Array Value)(m:Nat)(sl:Array (Option Value))(c0:¬(!xs.isEmpty&&Builtin.List.listTooLong (xs.size+ys.size))=true)(c1:xs.size≤sizeLine)(c2:xs.size+ys.size≤sizeLine+1):
  Meets (Builtin.«list.extend» ⟨[.ref l,.ref b],[]⟩) (fun _ R s=>s.heap.get? l=some {cls:=.type "list",dict:=none,data:=.seq xs n,slots:=#[]}∧s.heap.get? b=some {cls:=.type "list",dict:=none,data:=.seq ys m,slots:=sl}∧R (.ok (.ret Value.none)) {s with heap:=s.heap.update l (Obj.mapSeq fun x=>x++ys),toks:=s.toks}):=
 .of_wp fun prog w A R s h=>by
  obtain ⟨hp,gn,dr,tk,os⟩:=s
  obtain ⟨hl,hb,h⟩:=h
  have k1:=AutoSeq1.idx_int
  have k2:=AutoSeq1.sub_tuple_tuple
  have k3:=AutoSeq1.sub_list_list
  have k4:=AutoSeq1.sub_tuple_list
  have k5:=AutoSeq1.sub_list_tuple
  have k6:(xs++ys).size≤sizeLine+1:=by rw[Array.size_append];exact c2
  wp_walk using (wpAny_updateSeq hl rfl (hz:=c1) (_hz':=k6)),AutoSeq1.wpAny_loadPart' hl,AutoSeq1.wpAny_loadPart' hb;exact ⟨_,rfl,h⟩
variable {X:Cx}
def rExtS (K:Frag):V→List V→Hp→VK→Prop:=fun x vs H Q=>∃ (l b:Addr) (xs zs:List V),x=.ref l∧vs=[.ref b]∧H l=some (.lst xs)∧SqL K H b zs∧xs.length+zs.length≤sizeLine∧Q .non (upd H l (.lst (xs++zs)))
theorem Ao:MtM X "list.extend" (rExtS X.K):=by
 intro pins s σ H x vs v us Q I rx rv h
 obtain ⟨l,b,xs,zs,rfl,rfl,hH,hB,hz,q⟩:=h
 cases rx
 obtain ⟨u,rfl,ru⟩:=rv.one
 cases ru
 obtain ⟨z,its,n,r,hl,e⟩:=I.lstM hH
 obtain ⟨its2,r2,⟨o,n2,e2,oc,od,odat⟩,z2⟩:=I.list hB
 have hl2:=r2.length
 have hsz:its.toArray.size+its2.toArray.size≤sizeLine:=by rw[size_toArray,size_toArray];omega
 obtain ⟨ocls,odict,odata,oslots⟩:=o
 simp only at oc od odat
 subst oc;subst od;subst odat
 refine call_meets F.slot_list_extend ⟨_,e,rfl⟩ F.entry_list_extend (F.args_list_extend_2 _ _) (wI l its.toArray n b its2.toArray n2 oslots (by rw[rE hsz,Bool.and_false];exact Bool.false_ne_true) (by rw[size_toArray];omega) (by omega)) ⟨e,e2,?_⟩
 refine ⟨.non,_,I.lset (its':=its++its2) hH e (by simp) (r.append r2) ?_,rfl,q⟩
 rw[length_append];omega
end
section
variable {K:Frag} {H:Hp}
theorem xC {ras:List Addr}{x:List Int}(h:aF K H ras ([x].map nz)):∃ xa,ras=[xa]∧SqL K H xa (iv (nz x)):=by
 obtain ⟨xa,rfl⟩:=jM (l:=ras) (by rw[h.len];rfl)
 exact ⟨xa,rfl,h.at_ 0 xa _ rfl rfl⟩
theorem row2 {ras:List Addr}{x y:List Int}(h:aF K H ras ([x,y].map nz)):∃ xa ya,ras=[xa,ya]∧SqL K H xa (iv (nz x))∧SqL K H ya (iv (nz y)):=by
 obtain ⟨xa,ya,rfl⟩:=Tt.ln2 (l:=ras) (by rw[h.len];rfl)
 exact ⟨xa,ya,rfl,h.at_ 0 xa _ rfl rfl,h.at_ 1 ya _ rfl rfl⟩
end
theorem jQ {a b:Bool}(h:(a&&b)=true):a=true:=(Bool.and_eq_true_iff.mp h).1
theorem tS {a b:Bool}(h:(a&&b)=true):b=true:=(Bool.and_eq_true_iff.mp h).2
theorem cQ {z:Int}(h:TuNeutral.natural z 32=true):∃ k:Nat,z=(k:Int)∧k<4294967296:=by
 unfold TuNeutral.natural at h
 have h1:=of_decide_eq_true (jQ h)
 have h2:=of_decide_eq_true (tS h)
 exact ⟨z.toNat,by omega,by omega⟩
theorem bd {n:Nat}{g:Nat}(h:bY n "group" (g:Int)=true):g<4:=by
 obtain ⟨g',e,h'⟩:=uu h (by omega)
 omega
theorem vj {n:Nat}{g:Nat}(h:bY n "place" (g:Int)=true):g<n:=by
 unfold bY at h
 rw[if_neg (by decide +kernel),if_neg (by decide +kernel),if_pos rfl] at h
 have:=of_decide_eq_true h
 omega
theorem xw {n:Nat}{g:Nat}(h:bY n "things" (g:Int)=true):1≤g∧g≤9:=by
 unfold bY at h
 rw[if_pos rfl] at h
 have h1:=of_decide_eq_true (jQ h)
 have h2:=of_decide_eq_true (tS h)
 omega
theorem ng {g:Nat}(h:g<4):¬Turn.GROUPS≤g:=by show ¬4≤g;omega
theorem tof (g:Nat):TuNeutral.nat (g:Int)=g:=by unfold TuNeutral.nat;omega
theorem rQ {n:Nat}:∀ (l:List (List Nat)),(∀ x∈l,x.length=n)→l.flatten.length=l.length*n
 | [],_=>by simp
 | x::l,h=>by
  rw[flatten_cons,length_append,rQ l fun y hy=>h y (mem_cons_of_mem _ hy),h x (mem_cons_self ..),length_cons,Nat.add_mul,Nat.one_mul,Nat.add_comm]
theorem fX.ends {K:Frag}{CG CB:Addr}{H H':Hp}{Q:VK}{b p:Addr}{foot foot' args:List Addr}{s s':State}{c:List (List Int)}{ans:List Int}(O:fX K CG CB H Q b foot args s c)(e:TuNeutral.step s c=(s',ans))(hl:ans.length≤2000)(hp:H p=none)(hpf:p∉foot')(hp':H' p=some (.lst (ans.map V.int)))(B:aK K CG CB H' b foot' s')
  (fo:∀ a∈foot',a∈foot∨H a=none)(rf:∀ x,Rf H' foot' x→Rf H foot x∨x∈args∨New H H' x)(sX:aT foot H H'):Q (.ref p) H':=by
 have e1:(TuNeutral.step s c).1=s':=by rw[e]
 have e2:(TuNeutral.step s c).2=ans:=by rw[e]
 exact O H' p foot' (by rw[e2];exact hl) hp hpf (by rw[e2];exact hp') (by rw[e1];exact B) fo rf sX
section
variable {K:Frag} {CG CB:Addr} {H H2:Hp}
theorem oU {b dx L o:Addr}{foot A os:List Addr}{As:List (List Addr)}{st:State}{g:Nat}{gens gens':List Turn.Row}(hB:aK K CG CB H b foot st)(hf:foot=b::dx::L::As.flatten)(nd:foot.Nodup)(h1:H b=some (.ins CB dx (bf st.n L)))(h2:H dx=some (.own b))(h3:H L=some (.lst (os.map V.ref)))(hG:aY K CG H st.n os As st.groups)
  (ho:os[g]?=some o)(hA:As[g]?=some A)(hg:st.groups[g]?=some gens)(hG2:bo K CG H2 o A st.n gens')(hl:gens'.length≤100)(s:aT A H H2):aK K CG CB H2 b foot ⟨st.n,st.groups.set g gens'⟩:=by
 subst hf
 have nd':=nd
 simp only[nodup_cons,mem_cons,not_or] at nd'
 obtain ⟨⟨nbd,nbL,nbA⟩,⟨ndL,ndA⟩,nLA,ndAs⟩:=nd'
 have inF:∀ a∈A,a∈As.flatten:=fun a ha=>mem_flatten.mpr ⟨A,mem_of_getElem? hA,ha⟩
 have apA:d3 H A:=(hG.at_ g o A gens ho hA hg).1.apart.1
 refine ⟨⟨dx,L,os,As,rfl,nd,s _ _ h1 fun z=>nbA (inF _ z),s _ _ h2 fun z=>ndA (inF _ z),s _ _ h3 fun z=>nLA (inF _ z),⟨by rw[length_set];exact hG.l1,by rw[length_set];exact hG.l2,fun i o' C gens2 k1 k2 k3=>?_,hG.nd⟩⟩,hB.pos,hB.le,by show (st.groups.set g gens').length=4;rw[length_set];exact hB.four⟩
 by_cases hi:i=g
 ·subst hi
  have e1:o'=o:=Oi (k1.symm.trans ho)
  have e2:C=A:=Oi (k2.symm.trans hA)
  rw[getElem?_set_self (Gq hg).1] at k3
  cases k3
  rw[e1,e2];exact ⟨hG2,hl⟩
 ·rw[getElem?_set_ne (fun z=>hi z.symm)] at k3
  have q:=hG.at_ i o' C gens2 k1 k2 k3
  refine ⟨q.1.keep hB.pos s apA fun a ha z=>?_,q.2⟩
  have nod:=hG.nd
  rw[List.Nodup,pairwise_flatten] at nod
  have hiL:i<As.length:=(Gq k2).1
  have hgL:g<As.length:=(Gq hA).1
  have eC:=(Gq k2).2
  have eA:=(Gq hA).2
  rcases Nat.lt_or_ge i g with w|w
  ·have:=pairwise_iff_getElem.mp nod.2 i g hiL hgL w
   rw[eC,eA] at this
   exact this a ha a z rfl
  ·have:=pairwise_iff_getElem.mp nod.2 g i hgL hiL (by omega)
   rw[eC,eA] at this
   exact this a z a ha rfl
theorem vT {n:Nat}{G:Turn.Row→Prop}{t:Turn.Table}(T:Tt.dX n t)(F:bS n G (Tt.br n t)){k:Nat}(hk:k<wt n G 0){y:Turn.Row}(h:BS n G k y):Turn.nth n t k (Turn.still n)=y:=by
 have hG:=F.grp
 have yT:=hG.isT y h.1
 obtain ⟨g,h1,h2,h3⟩:=Tt.rD T F (Tt.bu n) hk
 have gT:=hG.isT g h1
 rw[Tt.aW gT] at h2 h3
 rw[h2]
 have e:Turn.mul (Turn.mul g (Turn.inverse y)) y=g:=Tt.aQ gT yT
 have:=Tt.fk hG (y:=y) (g:=Turn.mul g (Turn.inverse y)) yT (hG.mul _ _ h1 (hG.inv _ h.1)) (b:=0) (fun a ha=>absurd ha (Nat.not_lt_zero a)) (fun a=>rs n G a 0 k / wt n G (a+1))
  (fun a _ ha=>h.2 a ha) (fun a _ ha=>by rw[e];exact h3 a ha)
 rw[e] at this
 exact this
end
section
variable {P:Program} {w:World} {K:Frag} {mg:Str→Option Value} {base:Heap} {CG CB:Addr}
theorem scNew:ao ["bench","numbers","rows"] ["bench","numbers","rows"] (aj sNew):=bX
theorem Bs {f fB:Addr}{fd fdB:FuncData}(F:Fun K "answer_new" "answer_new" sNew f fd)(T:Txt K mg CG CB)(mB:t7 K CB "begin" fB)(GB:aZ P w K mg base CX0 5 fB fdB ["self","things"] (l6 K CG CB))(bB:d4 K fdB ["self","things"] []):aZ P w K mg base CX0 7 f fd ["bench","numbers","rows"] (iq K CG CB 0 ["things"] 0):=by
 refine okF F scNew (fun cdv A outer s H vs Q E hr h=>?_)
 ·obtain ⟨b,na,ra,foot,ras,st,ns,rows,rfl,hB,hna,hra,hrw,hnl,hrl,hask,hth,htn,O⟩:=h
  have hr5:bO 5 _:=hr.mono (by decide)
  refine ⟨_,ag (aX (kq (pv 0) T.bcl mB GB hr5 bB .nil mM (aa (aL ay (pv 1) aB (fun _ _=>rfl)) af))) (ah (ax (aV (aa aB af)))),?_⟩
  obtain ⟨z,rfl⟩:=jM hnl
  have hr0:=ou hrl
  subst hr0
  obtain ⟨m,rfl,hm⟩:=cQ (show TuNeutral.natural z 32=true from hask)
  obtain ⟨m1,m9⟩:=xw (hth 0 _ _ rfl rfl)
  obtain ⟨dx,L,os,As,rfl,nd,h1,h2,h3,hG⟩:=hB.ex
  refine ⟨_,rfl,b,dx,_,rfl,h1,yN _ L (by decide +kernel) (by decide +kernel),_,rfl,na,_,_,_,rfl,rfl,hna,aw (cH (i:=0) rfl),b,dx,L,st.n,m,rfl,h1,h2,by omega,m9,fun H2 foot' B' fo rf keep=>⟨Nat.le_of_lt (sz (by show 1≤1000000;decide)),fun q hq=>?_⟩⟩
  have e:TuNeutral.step st [[0,(m:Int)]]=(Turn.fresh m,[0]):=by
   show Turn.step st (.new (TuNeutral.nat (m:Int)))=_
   rw[tof]
   simp only[Turn.step]
   rw[if_neg (by show ¬(m<1∨9<m);omega)];rfl
  have qf:q∉foot':=fun z=>B'.tracked q z hq
  have qn:H q=none:=by
   cases z:H q with
   | none=>rfl
   | some ob=>
    by_cases zb:q=b
    ·rw[zb] at hq
     obtain ⟨_,_,_,_,_,_,y1,_⟩:=B'.ex
     rw[hq] at y1;cases y1
    ·rw[keep q ob z zb] at hq;cases hq
  have sq:az H2 (upd H2 q (.lst [V.int 0])):=al (az.refl _) hq
  refine O.ends e (by show 1≤2000;decide) qn qf ae (B'.same sq) (fun a ha=>?_) (fun x hx=>?_) (fun a ob ha hf=>?_)
  ·rcases fo a ha with w|w|w
   ·exact .inl (by rw[w];simp)
   ·exact .inl (by rw[w];simp)
   ·exact .inr w
  ·have:=rf x (Rf.back (fun m _ o ho=>sq m o ho) B'.tracked hx)
   exact .inr (.inr ⟨this.1,cb sq this.2⟩)
  ·exact sq _ _ (keep a ob ha fun z=>hf (by rw[z];simp))
theorem uA:ao ["bench","numbers","rows","group"] ["bench","numbers","rows"] (aj uO):=bX
theorem ye {f fG:Addr}{fd fdG:FuncData}{t6 t3:Tok}(F:Fun K "answer_give" "answer_give" uO f fd)(B:Blt mg)(T:Txt K mg CG CB)(h6:mg "MOST_GIVEN"=some (.int 6 t6))(hm3:mg "GROUP_IS_FULL"=some (.int (-3) t3))(mG:t7 K CG "give" fG)(GG:aZ P w K mg base CX0 5 fG fdG ["self","turn"] (uq K CG))(bG:d4 K fdG ["self","turn"] []):aZ P w K mg base CX0 7 f fd ["bench","numbers","rows"] (iq K CG CB 1 ["group"] 1):=by
 refine okF F uA (fun cdv A outer s H vs Q E hr h=>?_)
 ·obtain ⟨b,na,ra,foot,ras,st,ns,rows,rfl,hB,hna,hra,hrw,hnl,hrl,hask,hth,htn,O⟩:=h
  have hr5:bO 5 _:=hr.mono (by decide)
  refine ⟨_,ag (aq (i:=3) uA.nd rfl (Or.inl rfl) (aL ay (bp (pv 0) rfl) (aL ay (pv 1) aB (fun _ _=>rfl)) (fun _ _=>rfl)))
   (ag (dz (aU Bm (aA au rfl B.len PySem.boot_len (aa (bp (pv 3) rfl) af)) (bQ (v:=.int 6) rfl h6 ⟨t6,rfl⟩) (be _)) (ah (ax (aV (aa (bQ (v:=.int (-3)) rfl hm3 ⟨t3,rfl⟩) af)))) bi)
   (ag (aX (kq (pv 3) T.gcl mG GG hr5 bG .nil mM (aa (aL ay (pv 2) aB (fun _ _=>rfl)) af)))
   (ah (ax (aV (aa (aA au rfl B.len PySem.boot_len (aa (bp (pv 3) rfl) af)) af)))))),?_⟩
  obtain ⟨z,rfl⟩:=jM hnl
  obtain ⟨xr,rfl⟩:=jM hrl
  obtain ⟨g,rfl,_⟩:=cQ (show TuNeutral.natural z 32=true from jQ hask)
  have hg:=bd (hth 0 _ _ rfl rfl)
  have xt:=htn xr (by simp)
  have xT:=Tt.bC.mp xt
  obtain ⟨xa,rfl,hxa⟩:=xC hrw
  obtain ⟨dx,L,os,As,hfe,nd,h1,h2,h3,hG⟩:=hB.ex
  obtain ⟨o,A0,gens,w1,w2,w3,w4,w5⟩:=hG.get (i:=g) (by rw[hB.four];exact hg)
  have eg:=cI w3
  refine ⟨_,rfl,b,CB,dx,_,_,rfl,h1,T.bcl,T.bGroups,dW _ _,_,rfl,na,_,_,_,rfl,rfl,hna,aw (cH (i:=0) rfl),L,_,_,_,rfl,rfl,SqL.of h3,aw (j:=g) (v:=V.ref o) (by rw[getElem?_map,w1];rfl),?_⟩
  obtain ⟨dxo,ga,to,gso,rso,To,hAo,ndo,y1,y2,y3,y4,y5,y6,y7⟩:=w4.ex
  refine ⟨_,rfl,o,CG,dxo,_,_,rfl,y1,T.gcl,T.gGiven,dl _ _,ga,_,rfl,.inl (SqL.of y3),_,_,rfl,rfl,_,rfl,eX (fun hge=>?_) fun hlt=>?_⟩
  ·rw[length_map,y4.len] at hge
   refine ⟨Nat.le_of_lt (sz (by show 1≤1000000;decide)),fun q hq=>?_⟩
   have e:TuNeutral.step st [[1,(g:Int)],xr]=(st,[-3]):=by
    show Turn.step st (.give (TuNeutral.nat (g:Int)) (nz xr))=_
    rw[tof]
    simp only[Turn.step]
    rw[if_neg (ng hg),if_neg (by rw[xt];exact fun z=>by cases z),eg,if_pos (by show 6≤gens.length;omega)];rfl
   exact O.plain hB e (by show 1≤2000;decide) (al (az.refl _) hq) hq ae
  ·rw[length_map,y4.len] at hlt
   refine ⟨_,rfl,o,dxo,_,rfl,y1,gf_no _ _ (by decide +kernel) (by decide +kernel),_,rfl,ra,_,_,_,rfl,rfl,hra,aw (j:=0) (v:=V.ref xa) rfl,o,xa,A0,st.n,gens,nz xr,rfl,w4,hxa,xT,hB.pos,hB.le,by omega,fun H2 hG2 rf sX=>?_⟩
   obtain ⟨dxo2,ga2,to2,gso2,rso2,To2,hAo2,ndo2,v1,v2,v3,v4,_⟩:=hG2.ex
   refine ⟨_,rfl,o,CG,dxo2,_,_,rfl,v1,T.gcl,T.gGiven,dl _ _,ga2,_,rfl,.inl (SqL.of v3),Nat.le_of_lt (sz (by show 1≤1000000;decide)),fun q hq=>?_⟩
   have B2:=oU hB hfe nd h1 h2 h3 hG w1 w2 w3 hG2 (by rw[length_append,length_singleton];omega) sX
   have inF:∀ a∈A0,a∈foot:=fun a ha=>by rw[hfe];simp[show a∈As.flatten from mem_flatten.mpr ⟨A0,mem_of_getElem? w2,ha⟩]
   have e:TuNeutral.step st [[1,(g:Int)],xr]=(⟨st.n,st.groups.set g (gens++[nz xr])⟩,[((gens.length+1:Nat):Int)]):=by
    show Turn.step st (.give (TuNeutral.nat (g:Int)) (nz xr))=_
    rw[tof]
    simp only[Turn.step]
    rw[if_neg (ng hg),if_neg (by rw[xt];exact fun z=>by cases z),eg,if_neg (by show ¬6≤gens.length;omega)];rfl
   have qf:q∉foot:=fun z=>B2.tracked q z hq
   have qn:H q=none:=by
    cases z:H q with
    | none=>rfl
    | some ob=>rw[sX q ob z fun y=>qf (inF q y)] at hq;cases hq
   have sq:az H2 (upd H2 q (.lst [V.int ((gso2.map V.ref).length:Nat)])):=al (az.refl _) hq
   have el:(gso2.map V.ref).length=gens.length+1:=by rw[length_map,v4.len,length_append,length_singleton]
   refine O.ends e (by show 1≤2000;decide) qn qf (by rw[ae,el];rfl) (B2.same sq) (fun a ha=>.inl ha) (fun x hx=>?_) (fun a ob ha hf=>sq _ _ (sX a ob ha fun y=>hf (inF a y)))
   have hx2:=Rf.back (fun m _ o ho=>sq m o ho) B2.tracked hx
   obtain ⟨m,hm,xs,u1,u2⟩:=hx2
   by_cases hmA:m∈A0
   ·rcases rf x ⟨m,hmA,xs,u1,u2⟩ with w|w|w
    ·exact .inl (w.mono inF)
    ·exact .inr (.inl (by rw[w];simp))
    ·exact .inr (.inr ⟨w.1,cb sq w.2⟩)
   ·refine .inl ⟨m,hm,xs,?_,u2⟩
    cases z:H m with
    | none=>exact absurd z (hB.tracked m hm)
    | some ob=>
     have:=sX m ob z hmA
     rw[u1] at this
     exact this.symm▸rfl
theorem zK:ao ["bench","numbers","rows"] ["bench","numbers","rows"] (aj uR):=bX
theorem yj {f fB:Addr}{fd fdB:FuncData}(F:Fun K "answer_clear" "answer_clear" uR f fd)(T:Txt K mg CG CB)(mB:t7 K CB "empty" fB)(GB:aZ P w K mg base CX0 5 fB fdB ["self","number"] (pk K CG CB))(bB:d4 K fdB ["self","number"] []):aZ P w K mg base CX0 7 f fd ["bench","numbers","rows"] (iq K CG CB 2 ["group"] 0):=by
 refine okF F zK (fun cdv A outer s H vs Q E hr h=>?_)
 ·obtain ⟨b,na,ra,foot,ras,st,ns,rows,rfl,hB,hna,hra,hrw,hnl,hrl,hask,hth,htn,O⟩:=h
  have hr5:bO 5 _:=hr.mono (by decide)
  refine ⟨_,ag (aX (kq (pv 0) T.bcl mB GB hr5 bB .nil mM (aa (aL ay (pv 1) aB (fun _ _=>rfl)) af))) (ah (ax (aV (aa aB af)))),?_⟩
  obtain ⟨z,rfl⟩:=jM hnl
  have hr0:=ou hrl
  subst hr0
  obtain ⟨g,rfl,_⟩:=cQ (show TuNeutral.natural z 32=true from hask)
  have hg:=bd (hth 0 _ _ rfl rfl)
  obtain ⟨dx,L,os,As,hfe,nd,h1,h2,h3,hG⟩:=hB.ex
  refine ⟨_,rfl,b,dx,_,rfl,h1,yN _ L (by decide +kernel) (by decide +kernel),_,rfl,na,_,_,_,rfl,rfl,hna,aw (cH (i:=0) rfl),b,foot,st,g,rfl,hB,hg,fun H2 foot' B' fo rf sX gr=>⟨Nat.le_of_lt (sz (by show 1≤1000000;decide)),fun q hq=>?_⟩⟩
  have e:TuNeutral.step st [[2,(g:Int)]]=(⟨st.n,st.groups.set g []⟩,[0]):=by
   show Turn.step st (.clear (TuNeutral.nat (g:Int)))=_
   rw[tof]
   simp only[Turn.step]
   rw[if_neg (ng hg)];rfl
  have qf:q∉foot':=fun z=>B'.tracked q z hq
  have qn:H q=none:=by
   rcases Classical.em (H q=none) with z|z
   ·exact z
   ·exact absurd hq (gr q z)
  have sq:az H2 (upd H2 q (.lst [V.int 0])):=al (az.refl _) hq
  refine O.ends e (by show 1≤2000;decide) qn qf ae (B'.same sq) fo (fun x hx=>?_) (fun a ob ha hf=>sq _ _ (sX a ob ha hf))
  rcases rf x (Rf.back (fun m _ o ho=>sq m o ho) B'.tracked hx) with w|w
  ·exact .inl w
  ·exact .inr (.inr ⟨w.1,cb sq w.2⟩)
theorem qY:ao ["bench","numbers","rows","given","told","turn"] ["bench","numbers","rows"] (aj zS):=bX
theorem Ak {f:Addr}{fd:FuncData}(F:Fun K "answer_gens" "answer_gens" zS f fd)(B:Blt mg)(T:Txt K mg CG CB):aZ P w K mg base CX0 7 f fd ["bench","numbers","rows"] (iq K CG CB 3 ["group"] 0):=by
 refine okF F qY (fun cdv A outer s H vs Q E hr h=>?_)
 ·obtain ⟨b,na,ra,foot,ras,st,ns,rows,rfl,hB,hna,hra,hrw,hnl,hrl,hask,hth,htn,O⟩:=h
  refine ⟨_,ag (aq (i:=3) qY.nd rfl (Or.inl rfl) (fq (j:=0) T (pv 0) (pv 1)))
   (ag (aq (i:=4) qY.nd rfl (Or.inl rfl) (aV (aa (aA au rfl B.len PySem.boot_len (aa (pv 3) af)) af)))
   (ag (bw PassesOwn.never rfl (aP (pv 3)) (aG (i:=5) qY.nd rfl (Or.inl rfl))
    (ah (aX (eD PySem.F.plainAttrs_list PySem.F.slot_list_extend PySem.F.type_list_extend Ao (pv 4) (aa (pv 5) af)))))
   (ah (ax (pv 4))))),?_⟩
  obtain ⟨z,rfl⟩:=jM hnl
  have hr0:=ou hrl
  subst hr0
  obtain ⟨g,rfl,_⟩:=cQ (show TuNeutral.natural z 32=true from hask)
  have hg:=bd (hth 0 _ _ rfl rfl)
  refine ⟨b,na,foot,st,_,g,rfl,rfl,hB,hna,rfl,hg,fun ga gs gens w1 w2 w3 w4=>?_⟩
  have eg:=cI w1
  have hle:=hB.le
  have fl:∀ i,((gens.take i).flatten).length≤900:=fun i=>by
   rw[rQ (n:=st.n) _ fun x hx=>(w3.isT x (mem_of_mem_take hx)).len,length_take]
   exact Nat.le_trans (Nat.mul_le_mul (Nat.le_trans (Nat.min_le_right _ _) w4) hle) (by decide)
  refine ⟨_,rfl,ga,_,rfl,.inl w3.lst,Nat.le_of_lt (sz (by show 1≤1000000;decide)),fun tA htA=>?_⟩
  refine ⟨_,rfl,ga,rfl,⟨_,(al (az.refl _) htA).seq w3.lst⟩,bj (K:=K) (a:=ga) (xs:=gs.map V.ref) (fun i σ H'=>∃ v5:Option V,σ=[some (.ref b),some (.ref na),some (.ref ra),some (.ref ga),some (.ref tA),v5]∧H' tA=some (.lst (V.int ((gs.map V.ref).length:Nat)::iv ((gens.take i).flatten)))∧az H H')
   ⟨none,rfl,by rw[take_zero];exact ae,al (az.refl _) htA⟩ (fun i σ H' _ ⟨_,_,_,s2⟩=>s2.seq w3.lst) ?_ ?_⟩
  ·rintro i v σ H' hi ⟨v5,rfl,ht,s2⟩
   rw[getElem?_map] at hi
   obtain ⟨xa,hxa,rfl⟩:=Oq hi
   obtain ⟨x,hx,hxq⟩:=w3.rows.get hxa
   have xT:=w3.isT x (mem_of_getElem? hx)
   have fli:=fl i
   refine ⟨_,rfl,.inl ⟨rfl,_,SqL.of ht⟩,_,rfl,tA,xa,_,_,rfl,rfl,ht,s2.seq hxq,(by rw[length_cons,aO,aO,xT.len];exact Nat.le_of_lt (sz (by omega))),_,rfl,?_,aH s2 htA⟩
   rw[ae,aC hx,flatten_append,cons_append]
   unfold iv
   rw[map_append]
   simp
  ·rintro σ H' ⟨v5,rfl,ht,s2⟩
   rw[length_map,w3.rows.len,take_length] at ht
   have e:TuNeutral.step st [[3,(g:Int)]]=(st,nats (gens.length::gens.flatten)):=by
    show Turn.step st (.gens (TuNeutral.nat (g:Int)))=_
    rw[tof]
    simp only[Turn.step,Turn.ofGroup]
    rw[if_neg (ng hg),eg]
   have fl2:=fl gens.length
   rw[take_length] at fl2
   refine ⟨_,rfl,O.plain hB e (by unfold nats;rw[length_map,length_cons];omega) s2 htA ?_⟩
   rw[ht,cx];rfl
theorem zL:ao ["bench","numbers","rows"] ["bench","numbers","rows"] (aj uU):=bX
theorem yl {f:Addr}{fd:FuncData}(F:Fun K "answer_chain" "answer_chain" uU f fd)(T:Txt K mg CG CB)(CC:Cal P w K mg base 2 "goal_counts" ["table"] (d6 K)):aZ P w K mg base CX0 7 f fd ["bench","numbers","rows"] (iq K CG CB 5 ["group"] 0):=by
 refine okF F zL (fun cdv A outer s H vs Q E hr h=>?_)
 ·obtain ⟨b,na,ra,foot,ras,st,ns,rows,rfl,hB,hna,hra,hrw,hnl,hrl,hask,hth,htn,O⟩:=h
  have hr2:bO 2 _:=hr.mono (by decide)
  refine ⟨_,ah (ax (ak CC hr2 rfl (aa (d8 (j:=0) T (pv 0) (pv 1)) af))),?_⟩
  obtain ⟨z,rfl⟩:=jM hnl
  have hr0:=ou hrl
  subst hr0
  obtain ⟨g,rfl,_⟩:=cQ (show TuNeutral.natural z 32=true from hask)
  have hg:=bd (hth 0 _ _ rfl rfl)
  refine ⟨b,na,foot,st,_,g,rfl,rfl,hB,hna,rfl,hg,fun t rs T0 gens w1 w2 w3 w4 w5 w6=>⟨t,rs,T0,st.n,rfl,w2,w3,hB.le,fun H1 q hq hq1 s1=>?_⟩⟩
  obtain ⟨t1,t2⟩:=dQ hB.le w1 w5 w6
  have ec:((List.range st.n).map fun (i:Nat)=>(Turn.reach st.n (st.table g) i).length)=dC T0:=by
   rw[kU w3 w4]
   exact map_congr_left fun i hi=>by rw[Tt.iE t2 (mem_range.mp hi)]
  have e:TuNeutral.step st [[5,(g:Int)]]=(st,nats (dC T0)):=by
   show Turn.step st (.chain (TuNeutral.nat (g:Int)))=_
   rw[tof]
   simp only[Turn.step,Turn.ofGroup]
   rw[if_neg (ng hg),ec]
  have hle:=hB.le
  exact O.plain hB e (by unfold nats dC;rw[length_map,length_map,w3.len];omega) s1 hq (by rw[hq1,cx])
theorem xz:ao ["bench","numbers","rows"] ["bench","numbers","rows"] (aj pR):=bX
theorem vI {f:Addr}{fd:FuncData}(F:Fun K "answer_orbits" "answer_orbits" pR f fd)(T:Txt K mg CG CB)(CO:Cal P w K mg base 2 "orbit_parting" ["things","given"] (io K)):aZ P w K mg base CX0 7 f fd ["bench","numbers","rows"] (iq K CG CB 6 ["group"] 0):=by
 refine okF F xz (fun cdv A outer s H vs Q E hr h=>?_)
 ·obtain ⟨b,na,ra,foot,ras,st,ns,rows,rfl,hB,hna,hra,hrw,hnl,hrl,hask,hth,htn,O⟩:=h
  have hr2:bO 2 _:=hr.mono (by decide)
  refine ⟨_,ah (ax (ak CO hr2 rfl (aa (bp (pv 0) rfl) (aa (fq (j:=0) T (pv 0) (pv 1)) af)))),?_⟩
  obtain ⟨z,rfl⟩:=jM hnl
  have hr0:=ou hrl
  subst hr0
  obtain ⟨g,rfl,_⟩:=cQ (show TuNeutral.natural z 32=true from hask)
  have hg:=bd (hth 0 _ _ rfl rfl)
  obtain ⟨dx,L,os,As,hfe,nd,h1,h2,h3,hG⟩:=hB.ex
  refine ⟨_,rfl,b,CB,dx,_,_,rfl,h1,T.bcl,T.bThings,cK _ _,b,na,foot,st,_,g,rfl,rfl,hB,hna,rfl,hg,fun ga gs gens w1 w2 w3 w4=>⟨st.n,ga,gs,gens,rfl,w3,hB.le,fun H1 q hq hq1 s1=>?_⟩⟩
  have e:TuNeutral.step st [[6,(g:Int)]]=(st,nats (leasts st.n gens)):=by
   show Turn.step st (.orbits (TuNeutral.nat (g:Int)))=_
   rw[tof]
   simp only[Turn.step,Turn.ofGroup]
   rw[if_neg (ng hg),cI w1]
  have hle:=hB.le
  exact O.plain hB e (by unfold nats;rw[length_map,(Tt.dN w3.isT).1.len];omega) s1 hq (by rw[hq1,cx])
theorem xB:ao ["bench","numbers","rows"] ["bench","numbers","rows"] (aj p9):=bX
theorem vQ {f:Addr}{fd:FuncData}(F:Fun K "answer_blocks" "answer_blocks" p9 f fd)(T:Txt K mg CG CB)(CO:Cal P w K mg base 3 "block_parting" ["things","given","a","b"] (jG K)):aZ P w K mg base CX0 7 f fd ["bench","numbers","rows"] (iq K CG CB 7 ["group","place","place"] 0):=by
 refine okF F xB (fun cdv A outer s H vs Q E hr h=>?_)
 ·obtain ⟨b,na,ra,foot,ras,st,ns,rows,rfl,hB,hna,hra,hrw,hnl,hrl,hask,hth,htn,O⟩:=h
  have hr3:bO 3 _:=hr.mono (by decide)
  refine ⟨_,ah (ax (ak CO hr3 rfl (aa (bp (pv 0) rfl) (aa (fq (j:=0) T (pv 0) (pv 1)) (aa (aL ay (pv 1) aB (fun _ _=>rfl)) (aa (aL ay (pv 1) aB (fun _ _=>rfl)) af)))))),?_⟩
  obtain ⟨z,za,zb,rfl⟩:=Tt.ln3 hnl
  have hr0:=ou hrl
  subst hr0
  have ha3:(TuNeutral.natural z 32&&TuNeutral.natural za 32&&TuNeutral.natural zb 32)=true:=hask
  obtain ⟨g,rfl,_⟩:=cQ (jQ (jQ ha3))
  obtain ⟨pa,rfl,_⟩:=cQ (tS (jQ ha3))
  obtain ⟨pb,rfl,_⟩:=cQ (tS ha3)
  have hg:=bd (hth 0 _ _ rfl rfl)
  have hpa:=vj (hth 1 _ _ rfl rfl)
  have hpb:=vj (hth 2 _ _ rfl rfl)
  obtain ⟨dx,L,os,As,hfe,nd,h1,h2,h3,hG⟩:=hB.ex
  refine ⟨_,rfl,b,CB,dx,_,_,rfl,h1,T.bcl,T.bThings,cK _ _,b,na,foot,st,_,g,rfl,rfl,hB,hna,rfl,hg,fun ga gs gens w1 w2 w3 w4=>?_⟩
  refine ⟨_,rfl,na,_,_,_,rfl,rfl,hna,aw (cH (i:=1) rfl),_,rfl,na,_,_,_,rfl,rfl,hna,aw (cH (i:=2) rfl),st.n,pa,pb,ga,gs,gens,rfl,w3,hpa,hpb,hB.le,fun H1 q hq hq1 s1=>?_⟩
  have e:TuNeutral.step st [[7,(g:Int),(pa:Int),(pb:Int)]]=(st,nats (Turn.blocks st.n gens pa pb)):=by
   show Turn.step st (.blocks (TuNeutral.nat (g:Int)) (TuNeutral.nat (pa:Int)) (TuNeutral.nat (pb:Int)))=_
   rw[tof,tof,tof]
   simp only[Turn.step,Turn.ofGroup]
   rw[if_neg (ng hg),if_neg (by omega),cI w1]
  have hle:=hB.le
  exact O.plain hB e (by unfold nats;rw[length_map,lK w3.isT hpa hpb];omega) s1 hq (by rw[hq1,cx])
theorem yS:ao ["bench","numbers","rows","given"] ["bench","numbers","rows"] (aj zR):=bX
theorem Ai {f:Addr}{fd:FuncData}(F:Fun K "answer_kind" "answer_kind" zR f fd)(T:Txt K mg CG CB)(CN:Cal P w K mg base 1 "as_number" ["truth"] dE)(C1:Cal P w K mg base 3 "is_one_orbit" ["things","given"] (gc K))(C2:Cal P w K mg base 4 "has_no_blocks" ["things","given"] (iU K))(C3:Cal P w K mg base 2 "can_be_swapped" ["given"] (jZ K))(C4:Cal P w K mg base 4 "has_odd_turn" ["given"] (l5 K)):aZ P w K mg base CX0 7 f fd ["bench","numbers","rows"] (iq K CG CB 8 ["group"] 0):=by
 refine okF F yS (fun cdv A outer s H vs Q E hr h=>?_)
 ·obtain ⟨b,na,ra,foot,ras,st,ns,rows,rfl,hB,hna,hra,hrw,hnl,hrl,hask,hth,htn,O⟩:=h
  have hr1:bO 1 _:=hr.mono (by decide)
  have hr2:bO 2 _:=hr.mono (by decide)
  have hr3:bO 3 _:=hr.mono (by decide)
  have hr4:bO 4 _:=hr.mono (by decide)
  refine ⟨_,ag (aq (i:=3) yS.nd rfl (Or.inl rfl) (fq (j:=0) T (pv 0) (pv 1)))
   (ah (ax (aV (aa (ak CN hr1 rfl (aa (ak C1 hr3 rfl (aa (bp (pv 0) rfl) (aa (pv 3) af))) af)) (aa (ak CN hr1 rfl (aa (ak C2 hr4 rfl (aa (bp (pv 0) rfl) (aa (pv 3) af))) af)) (aa (ak CN hr1 rfl (aa (ak C3 hr2 rfl (aa (pv 3) af)) af)) (aa (ak CN hr1 rfl (aa (ak C4 hr4 rfl (aa (pv 3) af)) af)) af))))))),?_⟩
  obtain ⟨z,rfl⟩:=jM hnl
  have hr0:=ou hrl
  subst hr0
  obtain ⟨g,rfl,_⟩:=cQ (show TuNeutral.natural z 32=true from hask)
  have hg:=bd (hth 0 _ _ rfl rfl)
  obtain ⟨dx,L,os,As,hfe,nd,h1,h2,h3,hG⟩:=hB.ex
  refine ⟨b,na,foot,st,_,g,rfl,rfl,hB,hna,rfl,hg,fun ga gs gens w1 w2 w3 w4=>?_⟩
  refine ⟨_,rfl,b,CB,dx,_,_,rfl,h1,T.bcl,T.bThings,cK _ _,_,rfl,st.n,ga,gs,gens,rfl,w3,hB.pos,hB.le,fun H1 s1=>⟨_,rfl,?_⟩⟩
  refine ⟨_,rfl,b,CB,dx,_,_,rfl,s1 _ _ h1,T.bcl,T.bThings,cK _ _,_,rfl,st.n,ga,gs,gens,rfl,w3.same s1,hB.pos,hB.le,fun H2 s2=>⟨_,rfl,?_⟩⟩
  have s12:=s1.trans s2
  refine ⟨_,rfl,st.n,ga,gs,gens,rfl,w3.same s12,hB.le,fun H3 s3=>⟨_,rfl,?_⟩⟩
  have s13:=s12.trans s3
  refine ⟨_,rfl,st.n,ga,gs,gens,rfl,w3.same s13,by omega,hB.le,fun H4 s4=>⟨_,rfl,?_⟩⟩
  have s14:=s13.trans s4
  refine ⟨Nat.le_of_lt (sz (by show 4≤1000000;decide)),fun q hq=>?_⟩
  have e:TuNeutral.step st [[8,(g:Int)]]=(st,nats [Turn.one (Turn.transitive st.n gens),Turn.one (Turn.primitive st.n gens),Turn.one (gens.all fun x=>gens.all fun y=>Turn.mul x y==Turn.mul y x),Turn.one (gens.any Turn.odd)]):=by
   show Turn.step st (.kind (TuNeutral.nat (g:Int)))=_
   rw[tof]
   simp only[Turn.step,Turn.ofGroup]
   rw[if_neg (ng hg),cI w1]
  exact O.plain hB e (by show 4≤2000;decide) (al s14 hq) (s14.free hq) (by rw[ae,cx];rfl)
theorem scHas:ao ["bench","numbers","rows"] ["bench","numbers","rows"] (aj sHas):=bX
theorem Bu {f:Addr}{fd:FuncData}(F:Fun K "answer_has" "answer_has" sHas f fd)(T:Txt K mg CG CB)(CN:Cal P w K mg base 1 "as_number" ["truth"] dE)(CM:Cal P w K mg base 4 "makes" ["table","x"] (ff K)):aZ P w K mg base CX0 7 f fd ["bench","numbers","rows"] (iq K CG CB 9 ["group"] 1):=by
 refine okF F scHas (fun cdv A outer s H vs Q E hr h=>?_)
 ·obtain ⟨b,na,ra,foot,ras,st,ns,rows,rfl,hB,hna,hra,hrw,hnl,hrl,hask,hth,htn,O⟩:=h
  have hr1:bO 1 _:=hr.mono (by decide)
  have hr4:bO 4 _:=hr.mono (by decide)
  refine ⟨_,ah (ax (aV (aa (ak CN hr1 rfl (aa (ak CM hr4 rfl (aa (d8 (j:=0) T (pv 0) (pv 1)) (aa (aL ay (pv 2) aB (fun _ _=>rfl)) af))) af)) af))),?_⟩
  obtain ⟨z,rfl⟩:=jM hnl
  obtain ⟨xr,rfl⟩:=jM hrl
  obtain ⟨g,rfl,_⟩:=cQ (show TuNeutral.natural z 32=true from jQ hask)
  have hg:=bd (hth 0 _ _ rfl rfl)
  have xt:=htn xr (by simp)
  have xT:=Tt.bC.mp xt
  obtain ⟨xa,rfl,hxa⟩:=xC hrw
  refine ⟨b,na,foot,st,_,g,rfl,rfl,hB,hna,rfl,hg,fun t rs T0 gens w1 w2 w3 w4 w5 w6=>?_⟩
  refine ⟨_,rfl,ra,_,_,_,rfl,rfl,hra,aw (j:=0) (v:=V.ref xa) rfl,t,xa,rs,T0,nz xr,st.n,_,rfl,w2,hxa,w3,xT,hB.le,w4,fun H1 bb hb s1=>⟨_,rfl,?_⟩⟩
  refine ⟨Nat.le_of_lt (sz (by show 1≤1000000;decide)),fun q hq=>?_⟩
  obtain ⟨t1,t2⟩:=dQ hB.le w1 w5 w6
  have eb:Turn.has st.n (st.table g) (nz xr)=bb:=by
   rw[Bool.eq_iff_iff,Tt.eG t1 t2 xT,hb]
  have e:TuNeutral.step st [[9,(g:Int)],xr]=(st,nats [Turn.one bb]):=by
   show Turn.step st (.has (TuNeutral.nat (g:Int)) (nz xr))=_
   rw[tof]
   simp only[Turn.step,Turn.ofTurn]
   rw[if_neg (ng hg),if_neg (by rw[xt];exact fun z=>by cases z),eb]
  exact O.plain hB e (by show 1≤2000;decide) (al s1 hq) (s1.free hq) (by rw[ae,cx];rfl)
theorem A5:ao ["bench","numbers","rows","table"] ["bench","numbers","rows"] (aj sNth):=bX
theorem Br {f:Addr}{fd:FuncData}{t4:Tok}(F:Fun K "answer_nth" "answer_nth" sNth f fd)(T:Txt K mg CG CB)(hm4:mg "NONE_OF_THE_GROUP"=some (.int (-4) t4))(CT:Cal P w K mg base 3 "turn_count" ["table"] (cr K))(CA:Cal P w K mg base 4 "turn_at" ["table","number"] (lW K)):aZ P w K mg base CX0 7 f fd ["bench","numbers","rows"] (iq K CG CB 10 ["group","any number"] 0):=by
 refine okF F A5 (fun cdv A outer s H vs Q E hr h=>?_)
 ·obtain ⟨b,na,ra,foot,ras,st,ns,rows,rfl,hB,hna,hra,hrw,hnl,hrl,hask,hth,htn,O⟩:=h
  have hr3:bO 3 _:=hr.mono (by decide)
  have hr4:bO 4 _:=hr.mono (by decide)
  refine ⟨_,ag (aq (i:=3) A5.nd rfl (Or.inl rfl) (d8 (j:=0) T (pv 0) (pv 1)))
   (ag (dz (aU Bm (aL ay (pv 1) aB (fun _ _=>rfl)) (ak CT hr3 rfl (aa (pv 3) af)) (be _)) (ah (ax (aV (aa (bQ (v:=.int (-4)) rfl hm4 ⟨t4,rfl⟩) af)))) bi)
   (ah (ax (ak CA hr4 rfl (aa (pv 3) (aa (aL ay (pv 1) aB (fun _ _=>rfl)) af)))))),?_⟩
  obtain ⟨z,zk,rfl⟩:=Tt.ln2 hnl
  have hr0:=ou hrl
  subst hr0
  have ha2:(TuNeutral.natural z 32&&TuNeutral.natural zk 32)=true:=hask
  obtain ⟨g,rfl,_⟩:=cQ (jQ ha2)
  obtain ⟨k,rfl,_⟩:=cQ (tS ha2)
  have hg:=bd (hth 0 _ _ rfl rfl)
  refine ⟨b,na,foot,st,_,g,rfl,rfl,hB,hna,rfl,hg,fun t rs T0 gens w1 w2 w3 w4 w5 w6=>?_⟩
  obtain ⟨t1,t2⟩:=dQ hB.le w1 w5 w6
  refine ⟨_,rfl,na,_,_,_,rfl,rfl,hna,aw (cH (i:=1) rfl),_,rfl,t,rs,T0,st.n,_,rfl,w2,w3,hB.le,w4,fun H1 s1=>⟨_,_,rfl,rfl,_,rfl,eX (fun hge=>?_) fun hlt=>?_⟩⟩
  ·refine ⟨Nat.le_of_lt (sz (by show 1≤1000000;decide)),fun q hq=>?_⟩
   have e:TuNeutral.step st [[10,(g:Int),(k:Int)]]=(st,[-4]):=by
    show Turn.step st (.nth (TuNeutral.nat (g:Int)) (TuNeutral.nat (k:Int)))=_
    rw[tof,tof]
    simp only[Turn.step,Turn.ofGroup]
    rw[if_neg (ng hg),Tt.cN t2,if_pos (by omega)];rfl
   exact O.plain hB e (by show 1≤2000;decide) (al s1 hq) (s1.free hq) ae
  ·have hk:k<wt st.n (aE st.n gens) 0:=by omega
   refine ⟨_,rfl,_,rfl,na,_,_,_,rfl,rfl,s1.seq hna,aw (cH (i:=1) rfl),t,rs,T0,st.n,_,k,rfl,w2.same s1,w3,hB.le,w4,hk,fun y hy H2 q hq hq2 s2=>?_⟩
   have e:TuNeutral.step st [[10,(g:Int),(k:Int)]]=(st,nats y):=by
    show Turn.step st (.nth (TuNeutral.nat (g:Int)) (TuNeutral.nat (k:Int)))=_
    rw[tof,tof]
    simp only[Turn.step,Turn.ofGroup]
    rw[if_neg (ng hg),Tt.cN t2,if_neg (by omega),vT t1 t2 hk hy]
   have hle:=hB.le
   exact O.plain hB e (by unfold nats;rw[length_map,(w4.grp.isT y hy.1).len];omega) (s1.trans s2) (s1.free hq) (by rw[hq2,cx])
theorem uw:ao ["bench","numbers","rows","table"] ["bench","numbers","rows"] (aj uG):=bX
theorem xV {f:Addr}{fd:FuncData}{t4:Tok}(F:Fun K "answer_place" "answer_place" uG f fd)(T:Txt K mg CG CB)(hm4:mg "NONE_OF_THE_GROUP"=some (.int (-4) t4))(CM:Cal P w K mg base 4 "makes" ["table","x"] (ff K))(CA:Cal P w K mg base 2 "number_of" ["table","x"] (iT K)):aZ P w K mg base CX0 7 f fd ["bench","numbers","rows"] (iq K CG CB 11 ["group"] 1):=by
 refine okF F uw (fun cdv A outer s H vs Q E hr h=>?_)
 ·obtain ⟨b,na,ra,foot,ras,st,ns,rows,rfl,hB,hna,hra,hrw,hnl,hrl,hask,hth,htn,O⟩:=h
  have hr2:bO 2 _:=hr.mono (by decide)
  have hr4:bO 4 _:=hr.mono (by decide)
  refine ⟨_,ag (aq (i:=3) uw.nd rfl (Or.inl rfl) (d8 (j:=0) T (pv 0) (pv 1)))
   (ag (dz (iF (fO (ak CM hr4 rfl (aa (pv 3) (aa (aL ay (pv 2) aB (fun _ _=>rfl)) af))))) (ah (ax (aV (aa (bQ (v:=.int (-4)) rfl hm4 ⟨t4,rfl⟩) af)))) bi)
   (ah (ax (aV (aa (ak CA hr2 rfl (aa (pv 3) (aa (aL ay (pv 2) aB (fun _ _=>rfl)) af))) af))))),?_⟩
  obtain ⟨z,rfl⟩:=jM hnl
  obtain ⟨xr,rfl⟩:=jM hrl
  obtain ⟨g,rfl,_⟩:=cQ (show TuNeutral.natural z 32=true from jQ hask)
  have hg:=bd (hth 0 _ _ rfl rfl)
  have xt:=htn xr (by simp)
  have xT:=Tt.bC.mp xt
  obtain ⟨xa,rfl,hxa⟩:=xC hrw
  refine ⟨b,na,foot,st,_,g,rfl,rfl,hB,hna,rfl,hg,fun t rs T0 gens w1 w2 w3 w4 w5 w6=>?_⟩
  obtain ⟨t1,t2⟩:=dQ hB.le w1 w5 w6
  refine ⟨_,rfl,_,rfl,ra,_,_,_,rfl,rfl,hra,aw (j:=0) (v:=V.ref xa) rfl,t,xa,rs,T0,nz xr,st.n,_,rfl,w2,hxa,w3,xT,hB.le,w4,fun H1 bb hb s1=>⟨_,rfl,?_⟩⟩
  have eb:Turn.has st.n (st.table g) (nz xr)=bb:=by
   rw[Bool.eq_iff_iff,Tt.eG t1 t2 xT,hb]
  refine rN (fun hf=>?_) fun ht=>?_
  ·refine ⟨Nat.le_of_lt (sz (by show 1≤1000000;decide)),fun q hq=>?_⟩
   have e:TuNeutral.step st [[11,(g:Int)],xr]=(st,[-4]):=by
    show Turn.step st (.place (TuNeutral.nat (g:Int)) (nz xr))=_
    rw[tof]
    simp only[Turn.step,Turn.ofTurn]
    rw[if_neg (ng hg),if_neg (by rw[xt];exact fun z=>by cases z),eb,if_pos hf];rfl
   exact O.plain hB e (by show 1≤2000;decide) (al s1 hq) (s1.free hq) ae
  ·have hx:=hb.mp ht
   refine ⟨_,rfl,_,rfl,ra,_,_,_,rfl,rfl,s1.seq hra,aw (j:=0) (v:=V.ref xa) rfl,t,xa,rs,T0,st.n,_,nz xr,rfl,w2.same s1,s1.seq hxa,w3,hB.le,w4,hx,fun H2 s2=>⟨Nat.le_of_lt (sz (by show 1≤1000000;decide)),fun q hq=>?_⟩⟩
   have e:TuNeutral.step st [[11,(g:Int)],xr]=(st,nats [pl st.n (aE st.n gens) (nz xr) st.n 0]):=by
    show Turn.step st (.place (TuNeutral.nat (g:Int)) (nz xr))=_
    rw[tof]
    simp only[Turn.step,Turn.ofTurn]
    rw[if_neg (ng hg),if_neg (by rw[xt];exact fun z=>by cases z),eb,if_neg (by rw[ht];exact fun z=>by cases z),Tt.xH t1 t2 hx]
   have s12:=s1.trans s2
   exact O.plain hB e (by show 1≤2000;decide) (al s12 hq) (s12.free hq) (by rw[ae,cx];rfl)
end
end Bt
namespace Bt
open PySem PySem.Spec PyProof.Rows L2
open PySem.W (Codec)
open Tt (IsT aE bS tU TOk Tab wt bR gz LB Clo bfs)
abbrev uQ:Stmt:=top 77
abbrev pL:Stmt:=top 78
abbrev uB:Stmt:=top 79
abbrev pZ:Stmt:=top 80
abbrev mt:Stmt:=top 81
abbrev kh:Stmt:=top 82
abbrev uI:Stmt:=top 83
abbrev uL:Stmt:=top 84
abbrev zQ:Stmt:=top 85
abbrev pQ:Stmt:=top 86
abbrev kg:Stmt:=top 87
abbrev mD:Stmt:=top 88
theorem Ac {X:Cx}{e:Expr}{ta:TE}{f:Str}{pos:Pos}{K:Frag}(hK:X.K=K)(he:PE X e ta)(hb:attributeBase e f X.env (eval e X.env)=eval e X.env):PE X (.Attribute e f pos) (tFld K ta f):=by
 subst hK
 exact bp he hb
theorem fX.puts {K:Frag}{CG CB:Addr}{H H1 H':Hp}{Q:VK}{b p t:Addr}{foot foot' args rs:List Addr}{st:State}{c:List (List Int)}{k:Nat}{l s:List Turn.Row}{old:Addr→Prop}(O:fX K CG CB H Q b foot args st c)(hB:aK K CG CB H b foot st)
  (e:TuNeutral.step st c=st.puts k l)(hl:gz st.n l)(hs:gz st.n s)(hm:∀ z,aE st.n s z↔aE st.n l z)(s1:az H H1)(ht:H t=none)(hrs:∀ r∈rs,H r=none∧H1 r≠none)(hold:∀ e,old e→Rf H foot e)(hrf:∀ e,Rf H1 rs e→old e∨New H H1 e)
  (hp:H1 p=none)(hpf:p∉foot')(hp':H' p=some (.lst (iv [wt st.n (aE st.n s) 0,(Turn.own st.n s).length])))(B':aK K CG CB H' b foot' ⟨st.n,st.groups.set k (Turn.own st.n s)⟩)(fo:∀ a∈foot',a∈foot∨a=t∨a∈rs∨H1 a=none)(rf:∀ e,Rf H' foot' e→Rf H1 foot e∨e∈rs∨Rf H1 rs e∨New H1 H' e)(sX:aT foot H1 H')(gr:∀ e,H1 e≠none→H' e≠none):Q (.ref p) H':=by
 have eo:Turn.own st.n l=Turn.own st.n s:=Tt.vx hB.le hl hs fun z=>(hm z).symm
 obtain ⟨t1,t2⟩:=hl.table hB.le
 have ew:Turn.order st.n (Turn.tableOf st.n l)=wt st.n (aE st.n s) 0:=by
  rw[Tt.cN t2]
  have:aE st.n l=aE st.n s:=funext fun z=>propext (hm z).symm
  rw[this]
 have e':TuNeutral.step st c=(⟨st.n,st.groups.set k (Turn.own st.n s)⟩,nats [wt st.n (aE st.n s) 0,(Turn.own st.n s).length]):=by
  rw[e];unfold State.puts;rw[eo,ew]
 have e1:(TuNeutral.step st c).1=⟨st.n,st.groups.set k (Turn.own st.n s)⟩:=by rw[e']
 have e2:(TuNeutral.step st c).2=nats [wt st.n (aE st.n s) 0,(Turn.own st.n s).length]:=by rw[e']
 refine O H' p foot' (by rw[e2];show 2≤2000;decide) (s1.free hp) hpf (by rw[e2,cx];exact hp') (by rw[e1];exact B') (fun a ha=>?_) (fun x hx=>?_) (fun a o ha hf=>sX _ _ (s1 _ _ ha) hf)
 ·rcases fo a ha with w|w|w|w
  ·exact .inl w
  ·exact .inr (by rw[w];exact ht)
  ·exact .inr (hrs a w).1
  ·exact .inr (s1.free w)
 ·rcases rf x hx with w|w|w|w
  ·exact .inl (Rf.back (fun m _ o ho=>s1 m o ho) hB.tracked w)
  ·exact .inr (.inr ⟨(hrs x w).1,gr x (hrs x w).2⟩)
  ·rcases hrf x w with w|w
   ·exact .inl (hold x w)
   ·exact .inr (.inr ⟨w.1,gr x w.2⟩)
  ·exact .inr (.inr ⟨s1.free w.1,w.2⟩)
section
variable {P:Program} {w:World} {K:Frag} {mg:Str→Option Value} {base:Heap} {CG CB:Addr}
theorem zJ:ao ["bench","numbers","rows"] ["bench","numbers","rows"] (aj uQ):=bX
theorem yi {f:Addr}{fd:FuncData}(F:Fun K "answer_coset" "answer_coset" uQ f fd)(T:Txt K mg CG CB)(CL:Cal P w K mg base 2 "least_before" ["table","start","x"] (lZ K)):aZ P w K mg base CX0 7 f fd ["bench","numbers","rows"] (iq K CG CB 12 ["group"] 1):=by
 refine okF F zJ (fun cdv A outer s H vs Q E hr h=>?_)
 ·obtain ⟨b,na,ra,foot,ras,st,ns,rows,rfl,hB,hna,hra,hrw,hnl,hrl,hask,hth,htn,O⟩:=h
  have hr2:bO 2 _:=hr.mono (by decide)
  refine ⟨_,ah (ax (ak CL hr2 rfl (aa (d8 (j:=0) T (pv 0) (pv 1)) (aa aB (aa (aL ay (pv 2) aB (fun _ _=>rfl)) af))))),?_⟩
  obtain ⟨z,rfl⟩:=jM hnl
  obtain ⟨xr,rfl⟩:=jM hrl
  obtain ⟨g,rfl,_⟩:=cQ (show TuNeutral.natural z 32=true from jQ hask)
  have hg:=bd (hth 0 _ _ rfl rfl)
  have xt:=htn xr (by simp)
  have xT:=Tt.bC.mp xt
  obtain ⟨xa,rfl,hxa⟩:=xC hrw
  have hpos:=hB.pos
  have hle:=hB.le
  refine ⟨b,na,foot,st,_,g,rfl,rfl,hB,hna,rfl,hg,fun t rs T0 gens w1 w2 w3 w4 w5 w6=>?_⟩
  obtain ⟨t1,t2⟩:=dQ hB.le w1 w5 w6
  refine ⟨_,rfl,ra,_,_,_,rfl,rfl,hra,aw (j:=0) (v:=V.ref xa) rfl,t,xa,rs,T0,st.n,0,_,nz xr,rfl,w2,hxa,w3,hB.le,w4,xT,Nat.zero_le _,fun H1 q y hL hq hqf s1=>?_⟩
  have e:TuNeutral.step st [[12,(g:Int)],xr]=(st,nats y):=by
   show Turn.step st (.coset (TuNeutral.nat (g:Int)) (nz xr))=_
   rw[tof]
   simp only[Turn.step,Turn.ofTurn]
   rw[if_neg (ng hg),if_neg (by rw[xt];exact fun z=>by cases z),Tt.yJ t1 t2 xT hL]
  rcases hqf with ⟨h1,_⟩|⟨h1,h2⟩
  ·omega
  ·exact O.plain hB e (by unfold nats;rw[length_map,(hL.isT w4.grp xT).len];omega) s1 h1 (by rw[h2,cx])
theorem iw:ao ["bench","numbers","rows","outer","inner","x"] ["bench","numbers","rows"] (aj pL):=bX
theorem vD {f:Addr}{fd:FuncData}(F:Fun K "answer_within" "answer_within" pL f fd)(B:Blt mg)(T:Txt K mg CG CB)(CN:Cal P w K mg base 1 "as_number" ["truth"] dE)(CM:Cal P w K mg base 4 "makes" ["table","x"] (ff K))(CT:Cal P w K mg base 5 "takes_to_itself" ["given","table","made_by"] (pi K)):aZ P w K mg base CX0 7 f fd ["bench","numbers","rows"] (iq K CG CB 13 ["group","group"] 0):=by
 refine okF F iw (fun cdv A outer s H vs Q E hr h=>?_)
 ·obtain ⟨b,na,ra,foot,ras,st,ns,rows,rfl,hB,hna,hra,hrw,hnl,hrl,hask,hth,htn,O⟩:=h
  have hr1:bO 1 _:=hr.mono (by decide)
  have hr4:bO 4 _:=hr.mono (by decide)
  have hr5:bO 5 _:=hr.mono (by decide)
  refine ⟨_,ag (aq (i:=3) iw.nd rfl (Or.inr rfl) (kt (j:=0) T (pv 0) (pv 1)))
   (ag (aq (i:=4) iw.nd rfl (Or.inl rfl) (kt (j:=1) T (pv 0) (pv 1)))
   (ah (ax (aV (aa (ak CN hr1 rfl (aa (aA (wU rfl) rfl B.all PyProof.Rows.boot_all (aa (gQ (own:=[("x",5)]) rfl iw.nd (aP (bp (pv 4) rfl)) (bn rfl) (fun _ _ _ _ _=>aG (i:=5) iw.nd rfl (Or.inl rfl)) (fun _ _ _ _ _=>cF)
     (fun _ _ _ _ _=>ak CM hr4 rfl (aa (Ac (K:=K) rfl (pv 3) rfl) (aa (pv 5) af)))) af)) af))
    (aa (ak CN hr1 rfl (aa (ak CT hr5 rfl (aa (bp (pv 3) rfl) (aa (bp (pv 4) rfl) (aa (bp (pv 4) rfl) af)))) af)) af)))))),?_⟩
  obtain ⟨z,zh,rfl⟩:=Tt.ln2 hnl
  have hr0:=ou hrl
  subst hr0
  have ha2:(TuNeutral.natural z 32&&TuNeutral.natural zh 32)=true:=hask
  obtain ⟨g,rfl,_⟩:=cQ (jQ ha2)
  obtain ⟨h',rfl,_⟩:=cQ (tS ha2)
  have hg:=bd (hth 0 _ _ rfl rfl)
  have hh:=bd (hth 1 _ _ rfl rfl)
  refine ⟨b,na,foot,st,_,g,rfl,rfl,hB,hna,rfl,hg,fun o A0 gens w1 w2 _ w4=>?_⟩
  refine ⟨b,na,foot,st,_,h',rfl,rfl,hB,hna,rfl,hh,fun o2 A2 gens2 u1 u2 _ u4=>?_⟩
  obtain ⟨dxo,ga,to,gso,rso,To,hAo,ndo,y1,y2,y3,y4,y5,y6,y7⟩:=w2.ex
  obtain ⟨dxp,gp,tp,gsp,rsp,Tp,hAp,ndp,x1,x2,x3,x4,x5,x6,x7⟩:=u2.ex
  obtain ⟨t1,t2⟩:=dQ hB.le w1 w2.isT w4
  obtain ⟨v1,v2⟩:=dQ hB.le u1 u2.isT u4
  refine ⟨_,rfl,o2,CG,dxp,_,_,rfl,x1,T.gcl,T.gGiven,dl _ _,gp,rfl,⟨_,SqL.of x3⟩,fun D hD=>de (K:=K) (a:=gp) (xs:=gsp.map V.ref) (fun j H3=>∃ bs:List Bool,H3 D=some (.lst (bs.map V.bl))∧bs.length=j∧(∀ (k:Nat) (b:Bool) (x:Turn.Row),bs[k]?=some b→gens2[k]?=some x→(b=true↔aE st.n gens x))∧az H H3)
    ⟨[],ae,rfl,fun k b x h=>(by simp at h),al (az.refl _) hD⟩ (fun j H3 _ ⟨_,_,_,_,s3⟩=>SqL.of (s3 _ _ x3)) ?_ ?_⟩
  ·rintro j v H3 hj ⟨bs,hD3,hbl,hbs,s3⟩
   rw[getElem?_map] at hj
   obtain ⟨xa,hxa,rfl⟩:=Oq hj
   obtain ⟨x,hx,hxq⟩:=x4.get hxa
   have xT:=u2.isT x (mem_of_getElem? hx)
   have hjl:j<gens2.length:=(Gq hx).1
   refine ⟨rfl,?_⟩
   refine ⟨_,rfl,o,CG,dxo,_,_,rfl,s3 _ _ y1,T.gcl,T.gTable,ft _ _,_,rfl,to,xa,rso,To,x,st.n,_,rfl,y5.same s3,s3.seq hxq,y6,xT,hB.le,y7,fun H5 bb hb s5=>?_⟩
   refine ⟨_,s5 _ _ hD3,(by rw[length_map,hbl];exact sz (by omega)),bs++[bb],(by rw[ae,map_append];rfl),(by rw[length_append,hbl];rfl),fun k c z h1 h2=>?_,aH (s3.trans s5) hD⟩
   rw[getElem?_append] at h1
   split at h1
   ·exact hbs k c z h1 h2
   ·rename_i hlt
    have hk:k=j:=by
     have:=(Gq h1).1
     rw[length_singleton] at this
     omega
    subst hk
    rw[hbl,Nat.sub_self] at h1
    have hcb:c=bb:=by simpa using h1.symm
    have hzx:z=x:=Oi (h2.symm.trans hx)
    rw[hcb,hzx];exact hb
  ·rintro H3 ⟨bs,hD3,hbl,hbs,s3⟩
   rw[length_map,x4.len] at hbl
   refine ⟨D,bs,rfl,SqL.of hD3,_,rfl,?_⟩
   have hiff:bs.all id=true↔∀ x∈gens2,aE st.n gens x:=by
    rw[all_eq_true]
    constructor
    ·intro h x hx
     obtain ⟨k,hk⟩:=getElem?_of_mem hx
     have hkl:k<bs.length:=by rw[hbl];exact (Gq hk).1
     exact (hbs k _ x (getElem?_eq_getElem hkl) hk).mp (h _ (getElem_mem hkl))
    ·intro h b hb
     obtain ⟨k,hk⟩:=getElem?_of_mem hb
     have hkl:k<gens2.length:=by rw[←hbl];exact (Gq hk).1
     exact (hbs k b _ hk (getElem?_eq_getElem hkl)).mpr (h _ (getElem_mem hkl))
   refine ⟨_,rfl,o,CG,dxo,_,_,rfl,s3 _ _ y1,T.gcl,T.gGiven,dl _ _,_,rfl,o2,CG,dxp,_,_,rfl,s3 _ _ x1,T.gcl,T.gTable,ft _ _,_,rfl,o2,CG,dxp,_,_,rfl,s3 _ _ x1,T.gcl,T.gGiven,dl _ _,?_⟩
   refine ⟨st.n,ga,tp,gp,gso,rsp,gsp,Tp,_,gens,gens2,rfl,⟨SqL.of (s3 _ _ y3),y4.same s3,w2.isT⟩,x5.same s3,x6,x7,⟨SqL.of (s3 _ _ x3),x4.same s3,u2.isT⟩,by omega,hB.le,fun H4 b2 hb2 s4=>⟨_,rfl,?_⟩⟩
   have s34:=s3.trans s4
   refine ⟨Nat.le_of_lt (sz (by show 2≤1000000;decide)),fun q hq=>?_⟩
   have e:TuNeutral.step st [[13,(g:Int),(h':Int)]]=(st,nats [Turn.one (bs.all id),Turn.one b2]):=by
    show Turn.step st (.within (TuNeutral.nat (g:Int)) (TuNeutral.nat (h':Int)))=_
    rw[tof,tof]
    simp only[Turn.step]
    rw[if_neg (by rintro (z|z);exact ng hg z;exact ng hh z),cI w1,cI u1]
    have ea:(gens2.all (Turn.has st.n (st.table g)))=bs.all id:=by
     rw[Bool.eq_iff_iff,hiff,all_eq_true]
     exact ⟨fun h x hx=>(Tt.eG t1 t2 (u2.isT x hx)).mp (h x hx),fun h x hx=>(Tt.eG t1 t2 (u2.isT x hx)).mpr (h x hx)⟩
    have eb:(gens2.all fun (x:Turn.Row)=>gens.all fun (y:Turn.Row)=>Turn.has st.n (st.table h') (conjugate x y))=b2:=by
     rw[Bool.eq_iff_iff,hb2,all_eq_true]
     constructor
     ·intro h x hx y hy
      have:=h x hx
      rw[all_eq_true] at this
      exact (Tt.eG v1 v2 (Tt.cO (u2.isT x hx) (w2.isT y hy))).mp (this y hy)
     ·intro h x hx
      rw[all_eq_true]
      intro y hy
      exact (Tt.eG v1 v2 (Tt.cO (u2.isT x hx) (w2.isT y hy))).mpr (h x hx y hy)
    rw[ea,eb]
   exact O.plain hB e (by show 2≤2000;decide) (al s34 hq) (s34.free hq) (by rw[ae,cx];rfl)
theorem pG:ao ["bench","numbers","rows","group","word"] ["bench","numbers","rows"] (aj uB):=bX
theorem xP {f:Addr}{fd:FuncData}{t4 t8 tm:Tok}(F:Fun K "answer_word" "answer_word" uB f fd)(B:Blt mg)(T:Txt K mg CG CB)(hm4:mg "NONE_OF_THE_GROUP"=some (.int (-4) t4))(hm8:mg "TOO_MANY"=some (.int (-8) t8))(hms:mg "MOST_SEARCHED"=some (.int 1000 tm))(CM:Cal P w K mg base 4 "makes" ["table","x"] (ff K))(CT:Cal P w K mg base 3 "turn_count" ["table"] (cr K))(CW:Cal P w K mg base 2 "shortest_word" ["given","x"] (uo K)):aZ P w K mg base CX0 7 f fd ["bench","numbers","rows"] (iq K CG CB 14 ["group"] 1):=by
 refine okF F pG (fun cdv A outer s H vs Q E hr h=>?_)
 ·obtain ⟨b,na,ra,foot,ras,st,ns,rows,rfl,hB,hna,hra,hrw,hnl,hrl,hask,hth,htn,O⟩:=h
  have hr2:bO 2 _:=hr.mono (by decide)
  have hr3:bO 3 _:=hr.mono (by decide)
  have hr4:bO 4 _:=hr.mono (by decide)
  refine ⟨_,ag (aq (i:=3) pG.nd rfl (Or.inl rfl) (kt (j:=0) T (pv 0) (pv 1)))
   (ag (dz (iF (fO (ak CM hr4 rfl (aa (bp (pv 3) rfl) (aa (aL ay (pv 2) aB (fun _ _=>rfl)) af))))) (ah (ax (aV (aa (bQ (v:=.int (-4)) rfl hm4 ⟨t4,rfl⟩) af)))) bi)
   (ag (dz (aU qk (ak CT hr3 rfl (aa (bp (pv 3) rfl) af)) (bQ (v:=.int 1000) rfl hms ⟨tm,rfl⟩) (be _)) (ah (ax (aV (aa (bQ (v:=.int (-8)) rfl hm8 ⟨t8,rfl⟩) af)))) bi)
   (ag (aq (i:=4) pG.nd rfl (Or.inl rfl) (ak CW hr2 rfl (aa (bp (pv 3) rfl) (aa (aL ay (pv 2) aB (fun _ _=>rfl)) af))))
   (ah (ax (dq yZ (aV (aa (aA au rfl B.len PySem.boot_len (aa (pv 4) af)) af)) (pv 4))))))),?_⟩
  obtain ⟨z,rfl⟩:=jM hnl
  obtain ⟨xr,rfl⟩:=jM hrl
  obtain ⟨g,rfl,_⟩:=cQ (show TuNeutral.natural z 32=true from jQ hask)
  have hg:=bd (hth 0 _ _ rfl rfl)
  have xt:=htn xr (by simp)
  have xT:=Tt.bC.mp xt
  have nxt:¬Turn.isTurn st.n (nz xr)=false:=by rw[xt];exact fun z=>by cases z
  obtain ⟨xa,rfl,hxa⟩:=xC hrw
  refine ⟨b,na,foot,st,_,g,rfl,rfl,hB,hna,rfl,hg,fun o A0 gens w1 w2 _ w4=>?_⟩
  obtain ⟨dxo,ga,to,gso,rso,To,hAo,ndo,y1,y2,y3,y4,y5,y6,y7⟩:=w2.ex
  obtain ⟨t1,t2⟩:=dQ hB.le w1 w2.isT w4
  have gd:=wC w2.isT w4
  refine ⟨_,rfl,o,CG,dxo,_,_,rfl,y1,T.gcl,T.gTable,ft _ _,_,rfl,ra,_,_,_,rfl,rfl,hra,aw (j:=0) (v:=V.ref xa) rfl,to,xa,rso,To,nz xr,st.n,_,rfl,y5,hxa,y6,xT,hB.le,y7,fun H1 bb hb s1=>⟨_,rfl,?_⟩⟩
  have eb:Turn.has st.n (st.table g) (nz xr)=bb:=by
   rw[Bool.eq_iff_iff,Tt.eG t1 t2 xT,hb]
  refine rN (fun hf=>?_) fun ht=>?_
  ·refine ⟨Nat.le_of_lt (sz (by show 1≤1000000;decide)),fun q hq=>?_⟩
   have e:TuNeutral.step st [[14,(g:Int)],xr]=(st,[-4]):=by
    show Turn.step st (.word (TuNeutral.nat (g:Int)) (nz xr))=_
    rw[tof]
    simp only[Turn.step,Turn.ofTurn]
    rw[if_neg (ng hg),if_neg nxt,eb,if_pos hf];rfl
   exact O.plain hB e (by show 1≤2000;decide) (al s1 hq) (s1.free hq) ae
  ·have hx:=hb.mp ht
   have nbb:¬bb=false:=by rw[ht];exact fun z=>by cases z
   refine ⟨_,rfl,o,CG,dxo,_,_,rfl,s1 _ _ y1,T.gcl,T.gTable,ft _ _,to,rso,To,st.n,_,rfl,y5.same s1,y6,hB.le,y7,fun H2 s2=>⟨_,_,rfl,rfl,_,rfl,eX (fun hgt=>?_) fun hle=>?_⟩⟩
   ·have s12:=s1.trans s2
    refine ⟨Nat.le_of_lt (sz (by show 1≤1000000;decide)),fun q hq=>?_⟩
    have e:TuNeutral.step st [[14,(g:Int)],xr]=(st,[-8]):=by
     show Turn.step st (.word (TuNeutral.nat (g:Int)) (nz xr))=_
     rw[tof]
     simp only[Turn.step,Turn.ofTurn]
     rw[if_neg (ng hg),if_neg nxt,eb,if_neg nbb,Tt.cN t2,if_pos (by show 1000<_;omega)];rfl
    exact O.plain hB e (by show 1≤2000;decide) (al s12 hq) (s12.free hq) ae
   ·have s12:=s1.trans s2
    have hwt:wt st.n (aE st.n gens) 0≤1000:=by omega
    refine ⟨_,rfl,o,CG,dxo,_,_,rfl,s12 _ _ y1,T.gcl,T.gGiven,dl _ _,_,rfl,ra,_,_,_,rfl,rfl,s12.seq hra,aw (j:=0) (v:=V.ref xa) rfl,st.n,ga,xa,gso,gens,nz xr,rfl,⟨SqL.of (s12 _ _ y3),y4.same s12,w2.isT⟩,s12.seq hxa,hx,gd,w4,hB.pos,hB.le,hwt,fun wd k hwd hwl H3 p hp hp3 s3=>?_⟩
    have s13:=s12.trans s3
    have ew:=Tt.zj hB.le gd hwt hwd
    have e:TuNeutral.step st [[14,(g:Int)],xr]=(st,nats (wd.length::wd)):=by
     show Turn.step st (.word (TuNeutral.nat (g:Int)) (nz xr))=_
     rw[tof]
     simp only[Turn.step,Turn.ofTurn]
     rw[if_neg (ng hg),if_neg nxt,eb,if_neg nbb,Tt.cN t2,if_neg (by show ¬1000<_;omega),cI w1,ew]
    refine ⟨_,rfl,p,_,rfl,.inl (SqL.of hp3),Nat.le_of_lt (sz (by show 1≤1000000;decide)),fun l hl=>?_⟩
    have pl':p≠l:=am hp3 hl
    refine ⟨_,rfl,l,p,_,_,rfl,rfl,ae,(by rw[ai pl'];exact hp3),(by rw[aO];exact Nat.le_of_lt (sz (by show 1+wd.length≤1000000;omega))),fun q hq=>?_⟩
    have sl:=al (o:=.lst [V.int ((iv wd).length:Nat)]) s13 hl
    refine O.plain hB e (by unfold nats;rw[length_map,length_cons];omega) (al sl hq) (sl.free hq) ?_
    rw[ae,cx,aO];rfl
theorem qZ:ao ["bench","numbers","rows","count"] ["bench","numbers","rows"] (aj pZ):=bX
theorem vP {f:Addr}{fd:FuncData}{t8 tm:Tok}(F:Fun K "answer_class" "answer_class" pZ f fd)(T:Txt K mg CG CB)(hm8:mg "TOO_MANY"=some (.int (-8) t8))(hms:mg "MOST_SEARCHED"=some (.int 1000 tm))(CC:Cal P w K mg base 4 "class_count" ["given","x","most"] (pq K)):aZ P w K mg base CX0 7 f fd ["bench","numbers","rows"] (iq K CG CB 15 ["group"] 1):=by
 refine okF F qZ (fun cdv A outer s H vs Q E hr h=>?_)
 ·obtain ⟨b,na,ra,foot,ras,st,ns,rows,rfl,hB,hna,hra,hrw,hnl,hrl,hask,hth,htn,O⟩:=h
  have hr4:bO 4 _:=hr.mono (by decide)
  refine ⟨_,ag (aq (i:=3) qZ.nd rfl (Or.inl rfl) (ak CC hr4 rfl (aa (fq (j:=0) T (pv 0) (pv 1)) (aa (aL ay (pv 2) aB (fun _ _=>rfl)) (aa (bQ (v:=.int 1000) rfl hms ⟨tm,rfl⟩) af)))))
   (ah (ax (aV (aa (mL (aU qk (pv 3) (bQ (v:=.int 1000) rfl hms ⟨tm,rfl⟩) (be _)) (bQ (v:=.int (-8)) rfl hm8 ⟨t8,rfl⟩) (pv 3)) af)))),?_⟩
  obtain ⟨z,rfl⟩:=jM hnl
  obtain ⟨xr,rfl⟩:=jM hrl
  obtain ⟨g,rfl,_⟩:=cQ (show TuNeutral.natural z 32=true from jQ hask)
  have hg:=bd (hth 0 _ _ rfl rfl)
  have xt:=htn xr (by simp)
  have xT:=Tt.bC.mp xt
  have nxt:¬Turn.isTurn st.n (nz xr)=false:=by rw[xt];exact fun z=>by cases z
  obtain ⟨xa,rfl,hxa⟩:=xC hrw
  refine ⟨b,na,foot,st,_,g,rfl,rfl,hB,hna,rfl,hg,fun ga gs gens w1 w2 w3 w4=>?_⟩
  refine ⟨_,rfl,ra,_,_,_,rfl,rfl,hra,aw (j:=0) (v:=V.ref xa) rfl,st.n,ga,xa,gs,gens,nz xr,rfl,w3,hxa,xT,w4,hB.pos,hB.le,fun H1 c hc s1=>?_⟩
  refine ⟨_,rfl,_,_,rfl,rfl,_,rfl,eX (fun hgt=>?_) fun hle=>?_⟩
  ·refine ⟨Nat.le_of_lt (sz (by show 1≤1000000;decide)),fun q hq=>?_⟩
   have e:TuNeutral.step st [[15,(g:Int)],xr]=(st,[-8]):=by
    show Turn.step st (.class_ (TuNeutral.nat (g:Int)) (nz xr))=_
    rw[tof]
    simp only[Turn.step,Turn.ofTurn]
    rw[if_neg (ng hg),if_neg nxt,cI w1,hc,if_pos (by omega)];rfl
   exact O.plain hB e (by show 1≤2000;decide) (al s1 hq) (s1.free hq) ae
  ·refine ⟨_,rfl,Nat.le_of_lt (sz (by show 1≤1000000;decide)),fun q hq=>?_⟩
   have e:TuNeutral.step st [[15,(g:Int)],xr]=(st,nats [c]):=by
    show Turn.step st (.class_ (TuNeutral.nat (g:Int)) (nz xr))=_
    rw[tof]
    simp only[Turn.step,Turn.ofTurn]
    rw[if_neg (ng hg),if_neg nxt,cI w1,hc,if_neg (by omega)]
   exact O.plain hB e (by show 1≤2000;decide) (al s1 hq) (s1.free hq) (by rw[ae,cx];rfl)
theorem A6:ao ["bench","numbers","rows"] ["bench","numbers","rows"] (aj zQ):=bX
theorem Ah {f:Addr}{fd:FuncData}(F:Fun K "answer_mul" "answer_mul" zQ f fd)(CP:Cal P w K mg base 1 "product" ["x","y"] (bv K)):aZ P w K mg base CX0 7 f fd ["bench","numbers","rows"] (iq K CG CB 20 [] 2):=by
 refine okF F A6 (fun cdv A outer s H vs Q E hr h=>?_)
 ·obtain ⟨b,na,ra,foot,ras,st,ns,rows,rfl,hB,hna,hra,hrw,hnl,hrl,hask,hth,htn,O⟩:=h
  have hr1:bO 1 _:=hr.mono (by decide)
  refine ⟨_,ah (ax (ak CP hr1 rfl (aa (aL ay (pv 2) aB (fun _ _=>rfl)) (aa (aL ay (pv 2) aB (fun _ _=>rfl)) af)))),?_⟩
  have hn0:=ou hnl
  subst hn0
  obtain ⟨xr,yr,rfl⟩:=Tt.ln2 hrl
  have xt:=htn xr (by simp)
  have xT:=Tt.bC.mp xt
  have yt:=htn yr (by simp)
  have yT:=Tt.bC.mp yt
  obtain ⟨xa,ya,rfl,hxa,hya⟩:=row2 hrw
  have hle:=hB.le
  refine ⟨_,rfl,ra,_,_,_,rfl,rfl,hra,aw (j:=0) (v:=V.ref xa) rfl,_,rfl,ra,_,_,_,rfl,rfl,hra,aw (j:=1) (v:=V.ref ya) rfl,xa,ya,nz xr,nz yr,rfl,hxa,hya,(by rw[xT.len];omega),fun c hc=>(by rw[yT.len];exact xT.mem.mp hc),fun H1 q hq hq1 s1=>?_⟩
  have e:TuNeutral.step st [[20],xr,yr]=(st,nats (Turn.mul (nz xr) (nz yr))):=by
   show Turn.step st (.mul (nz xr) (nz yr))=_
   simp only[Turn.step,Turn.ofBoth]
   rw[if_neg (by rintro (z|z);(rw[xt] at z;cases z);(rw[yt] at z;cases z))]
  exact O.plain hB e (by unfold nats;rw[length_map,(xT.mul yT).len];omega) s1 hq (by rw[hq1,cx])
theorem xy:ao ["bench","numbers","rows"] ["bench","numbers","rows"] (aj pQ):=bX
theorem vH {f:Addr}{fd:FuncData}(F:Fun K "answer_power" "answer_power" pQ f fd)(CP:Cal P w K mg base 2 "power" ["x","times"] (pj K)):aZ P w K mg base CX0 7 f fd ["bench","numbers","rows"] (iq K CG CB 21 ["any number"] 1):=by
 refine okF F xy (fun cdv A outer s H vs Q E hr h=>?_)
 ·obtain ⟨b,na,ra,foot,ras,st,ns,rows,rfl,hB,hna,hra,hrw,hnl,hrl,hask,hth,htn,O⟩:=h
  have hr2:bO 2 _:=hr.mono (by decide)
  refine ⟨_,ah (ax (ak CP hr2 rfl (aa (aL ay (pv 2) aB (fun _ _=>rfl)) (aa (aL ay (pv 1) aB (fun _ _=>rfl)) af)))),?_⟩
  obtain ⟨z,rfl⟩:=jM hnl
  obtain ⟨xr,rfl⟩:=jM hrl
  obtain ⟨k,rfl,hk⟩:=cQ (show TuNeutral.natural z 32=true from jQ hask)
  have xt:=htn xr (by simp)
  have xT:=Tt.bC.mp xt
  obtain ⟨xa,rfl,hxa⟩:=xC hrw
  have hle:=hB.le
  refine ⟨_,rfl,ra,_,_,_,rfl,rfl,hra,aw (j:=0) (v:=V.ref xa) rfl,_,rfl,na,_,_,_,rfl,rfl,hna,aw (cH (i:=0) rfl),xa,nz xr,st.n,k,rfl,hxa,xT,by omega,by omega,fun H1 q hq hq1 s1=>?_⟩
  have e:TuNeutral.step st [[21,(k:Int)],xr]=(st,nats (Turn.power (nz xr) k)):=by
   show Turn.step st (.power (TuNeutral.nat (k:Int)) (nz xr))=_
   rw[tof]
   simp only[Turn.step,Turn.ofBoth]
   rw[if_neg (by rintro (z|z);(rw[xt] at z;cases z);(rw[xt] at z;cases z))]
  exact O.plain hB e (by unfold nats;rw[length_map,Tt.rh xT (by omega),(Tt.cg xT k).len];omega) s1 hq (by rw[hq1,cx])
theorem sE:ao ["bench","numbers","rows"] ["bench","numbers","rows"] (aj kg):=bX
theorem qu {f:Addr}{fd:FuncData}(F:Fun K "answer_inverse" "answer_inverse" kg f fd)(CP:Cal P w K mg base 2 "inverse" ["x"] (eM K)):aZ P w K mg base CX0 7 f fd ["bench","numbers","rows"] (iq K CG CB 22 [] 1):=by
 refine okF F sE (fun cdv A outer s H vs Q E hr h=>?_)
 ·obtain ⟨b,na,ra,foot,ras,st,ns,rows,rfl,hB,hna,hra,hrw,hnl,hrl,hask,hth,htn,O⟩:=h
  have hr2:bO 2 _:=hr.mono (by decide)
  refine ⟨_,ah (ax (ak CP hr2 rfl (aa (aL ay (pv 2) aB (fun _ _=>rfl)) af))),?_⟩
  have hn0:=ou hnl
  subst hn0
  obtain ⟨xr,rfl⟩:=jM hrl
  have xt:=htn xr (by simp)
  have xT:=Tt.bC.mp xt
  obtain ⟨xa,rfl,hxa⟩:=xC hrw
  have hle:=hB.le
  refine ⟨_,rfl,ra,_,_,_,rfl,rfl,hra,aw (j:=0) (v:=V.ref xa) rfl,xa,nz xr,st.n,rfl,hxa,xT,by omega,fun H1 q hq hq1 s1=>?_⟩
  have e:TuNeutral.step st [[22],xr]=(st,nats (Turn.inverse (nz xr))):=by
   show Turn.step st (.inverse (nz xr))=_
   simp only[Turn.step,Turn.ofBoth]
   rw[if_neg (by rintro (z|z);(rw[xt] at z;cases z);(rw[xt] at z;cases z))]
  exact O.plain hB e (by unfold nats;rw[length_map,xT.inverse.len];omega) s1 hq (by rw[hq1,cx])
theorem iC:ao ["bench","numbers","rows","x","told","cycle"] ["bench","numbers","rows"] (aj mD):=bX
theorem sZ {f:Addr}{fd:FuncData}(F:Fun K "answer_cycles" "answer_cycles" mD f fd)(B:Blt mg)(CN:Cal P w K mg base 1 "as_number" ["truth"] dE)(CT:Cal P w K mg base 3 "times_to_be_still" ["x"] (ph K))(CO:Cal P w K mg base 3 "is_odd" ["x"] (l4 K))(CC:Cal P w K mg base 2 "cycles_of" ["x"] (gg K)):aZ P w K mg base CX0 7 f fd ["bench","numbers","rows"] (iq K CG CB 23 [] 1):=by
 refine okF F iC (fun cdv A outer s H vs Q E hr h=>?_)
 ·obtain ⟨b,na,ra,foot,ras,st,ns,rows,rfl,hB,hna,hra,hrw,hnl,hrl,hask,hth,htn,O⟩:=h
  have hr1:bO 1 _:=hr.mono (by decide)
  have hr2:bO 2 _:=hr.mono (by decide)
  have hr3:bO 3 _:=hr.mono (by decide)
  refine ⟨_,ag (aq (i:=3) iC.nd rfl (Or.inl rfl) (aL ay (pv 2) aB (fun _ _=>rfl)))
   (ag (aq (i:=4) iC.nd rfl (Or.inl rfl) (aV (aa (ak CT hr3 rfl (aa (pv 3) af)) (aa (ak CN hr1 rfl (aa (ak CO hr3 rfl (aa (pv 3) af)) af)) (aa (aA au rfl B.len PySem.boot_len (aa (ak CC hr2 rfl (aa (pv 3) af)) af)) af)))))
   (ag (bw PassesOwn.never rfl (aP (ak CC hr2 rfl (aa (pv 3) af))) (aG (i:=5) iC.nd rfl (Or.inl rfl))
    (ag (aX (eD PySem.F.plainAttrs_list PySem.F.slot_list_append PySem.F.type_list_append bZ (pv 4) (aa (aA au rfl B.len PySem.boot_len (aa (pv 5) af)) af)))
    (ah (aX (eD PySem.F.plainAttrs_list PySem.F.slot_list_extend PySem.F.type_list_extend fR (pv 4) (aa (pv 5) af))))))
   (ah (ax (pv 4))))),?_⟩
  have hn0:=ou hnl
  subst hn0
  obtain ⟨xr,rfl⟩:=jM hrl
  have xt:=htn xr (by simp)
  have xT:=Tt.bC.mp xt
  obtain ⟨xa,rfl,hxa⟩:=xC hrw
  have hle:=hB.le
  generalize hxe:nz xr=x at xt xT hxa
  have clen:∀ c∈Turn.cycles x,c.length≤9:=fun c hc=>by
   rw[Tt.iM xT] at hc
   obtain ⟨a,ha,rfl⟩:=mem_map.mp hc
   obtain ⟨p,p1,p2,e,_⟩:=Tt.cW xT (mem_range.mp (mem_filter.mp ha).1)
   rw[e,length_map,length_range];omega
  have ccnt:(Turn.cycles x).length≤9:=by rw[Tt.lH xT];exact Nat.le_trans (Tt.qc _ _) hle
  have fl:∀ (l:List (List Nat)),(∀ c∈l,c.length≤9)→(l.flatMap fun c=>c.length::c).length≤l.length*10:=by
   intro l
   induction l with
   | nil=>intro _;simp
   | cons c l ih=>
    intro h
    have h1:=ih fun d hd=>h d (mem_cons_of_mem _ hd)
    have h2:=h c (mem_cons_self ..)
    rw[flatMap_cons,length_append,length_cons,length_cons,Nat.add_mul]
    omega
  have fl':∀ i,(((Turn.cycles x).take i).flatMap fun c=>c.length::c).length≤90:=fun i=>by
   have h1:=fl ((Turn.cycles x).take i) fun c hc=>clen c (mem_of_mem_take hc)
   rw[length_take] at h1
   omega
  refine ⟨_,rfl,ra,_,_,_,rfl,rfl,hra,aw (j:=0) (v:=V.ref xa) rfl,?_⟩
  refine ⟨_,rfl,st.n,xa,x,rfl,hxa,xT,hB.le,fun H1 s1=>?_⟩
  refine ⟨_,rfl,st.n,xa,x,rfl,s1.seq hxa,xT,hB.le,fun H2 s2=>⟨_,rfl,?_⟩⟩
  have s12:=s1.trans s2
  refine ⟨_,rfl,xa,x,st.n,rfl,s12.seq hxa,xT,hB.le,fun H3 p es hp _ _ hp3 hR3 s3=>?_⟩
  have s13:=s12.trans s3
  refine ⟨p,_,rfl,.inl (SqL.of hp3),Nat.le_of_lt (sz (by show 3≤1000000;decide)),fun tA htA=>?_⟩
  have htn':H tA=none:=s13.free htA
  rw[length_map,hR3.len]
  have s4:az H (upd H3 tA (.lst [V.int (orderOf x:Nat),V.int ((Turn.one (Turn.odd x):Nat):Int),V.int ((Turn.cycles x).length:Nat)])):=al s13 htA
  have ht4:(upd H3 tA (.lst [V.int (orderOf x:Nat),V.int ((Turn.one (Turn.odd x):Nat):Int),V.int ((Turn.cycles x).length:Nat)])) tA=some (.lst (iv [orderOf x,Turn.one (Turn.odd x),(Turn.cycles x).length])):=by rw[ae];rfl
  generalize upd H3 tA (.lst [V.int (orderOf x:Nat),V.int ((Turn.one (Turn.odd x):Nat):Int),V.int ((Turn.cycles x).length:Nat)])=H4 at s4 ht4
  refine ⟨_,rfl,xa,x,st.n,rfl,s4.seq hxa,xT,hB.le,fun H5 c es2 hc hce hes2 hc5 hR5 s5=>?_⟩
  have s45:=s4.trans s5
  have ht5:=s5 _ _ ht4
  have tes:tA∉es2:=fun z=>by have:=hes2 tA z;rw[ht4] at this;cases this
  have tc:tA≠c:=fun z=>by rw[z,hc] at ht4;cases ht4
  refine ⟨c,rfl,⟨_,SqL.of hc5⟩,bj (K:=K) (a:=c) (xs:=es2.map V.ref) (fun i σ H'=>∃ v5:Option V,σ=[some (.ref b),some (.ref na),some (.ref ra),some (.ref xa),some (.ref tA),v5]∧H' tA=some (.lst (iv ([orderOf x,Turn.one (Turn.odd x),(Turn.cycles x).length]++((Turn.cycles x).take i).flatMap fun c=>c.length::c)))∧H' c=some (.lst (es2.map V.ref))∧bA H' es2 (Turn.cycles x)∧az H H')
   ⟨none,rfl,by rw[take_zero];exact ht5,hc5,hR5,s45⟩ (fun i σ H' _ ⟨_,_,_,z,_⟩=>SqL.of z) ?_ ?_⟩
  ·rintro i v σ H' hi ⟨v5,rfl,ht,hc',hR,s6⟩
   rw[getElem?_map] at hi
   obtain ⟨ca,hca,rfl⟩:=Oq hi
   obtain ⟨cy,hcy,hcq⟩:=hR.get hca
   have cl:=clen cy (mem_of_getElem? hcy)
   have fli:=fl' i
   have tca:tA≠ca:=fun z=>tes (by rw[z];exact mem_of_getElem? hca)
   refine ⟨_,rfl,.inl ⟨rfl,_,SqL.of ht⟩,_,rfl,ca,_,rfl,.inl (SqL.of hcq),tA,_,_,rfl,rfl,ht,(by rw[aO,length_append];exact sz (by show 3+_≤1000000;omega)),?_⟩
   have hcq':(upd H' tA (.lst (iv ([orderOf x,Turn.one (Turn.odd x),(Turn.cycles x).length]++((Turn.cycles x).take i).flatMap fun c=>c.length::c)++[V.int ((iv cy).length:Nat)]))) ca=some (.lst (iv cy)):=by rw[ai (fun z=>tca z.symm)];exact hcq
   refine ⟨_,rfl,.inl ⟨rfl,_,SqL.of ae⟩,_,rfl,tA,ca,_,_,rfl,rfl,ae,hcq',(by rw[length_append,aO,aO,length_append,length_singleton];exact Nat.le_of_lt (sz (by show 3+_+1+_≤1000000;omega))),?_⟩
   rw[o7]
   refine ⟨_,rfl,?_,by rw[ai (fun z=>tc z.symm)];exact hc',hR.put tes,aH s6 htn'⟩
   rw[ae,aC hcy,flatMap_append,aO]
   unfold iv
   simp
  ·rintro σ H' ⟨v5,rfl,ht,hc',hR,s6⟩
   rw[length_map,hR.len,take_length] at ht
   have e:TuNeutral.step st [[23],xr]=(st,nats ([orderOf (nz xr),Turn.one (Turn.odd (nz xr)),(Turn.cycles (nz xr)).length]++(Turn.cycles (nz xr)).flatMap fun (c:List Nat)=>c.length::c)):=by
    show Turn.step st (.cycles (nz xr))=_
    simp only[Turn.step,Turn.ofBoth]
    rw[if_neg (by rintro (z|z);(rw[htn xr (by simp)] at z;cases z);(rw[htn xr (by simp)] at z;cases z))]
   rw[hxe] at e
   have fl2:=fl' (Turn.cycles x).length
   rw[take_length] at fl2
   refine ⟨_,rfl,O.plain hB e (by unfold nats;rw[length_map,length_append];show 3+_≤2000;omega) s6 htn' (by rw[ht,cx])⟩
end
end Bt
namespace Bt
open PySem PySem.Spec PyProof.Rows L2
open PySem.W (Codec)
open Tt (IsT aE bS tU TOk Tab wt gz Clo)
def zt (K:Frag)(CG CB:Addr)(j:Nat):TE:=fun σ H Q=>∃ (b na:Addr) (foot:List Addr) (st:State) (ns:List Int) (g:Nat),σ[0]?=some (some (.ref b))∧σ[1]?=some (some (.ref na))∧aK K CG CB H b foot st∧SqL K H na (ns.map V.int)∧ns[j]?=some (g:Int)∧g<4∧
 ∀ (ga:Addr) (gs:List Addr) (gens:List Turn.Row),st.groups[g]?=some gens→H ga=some (.lst (gs.map V.ref))→dh K H st.n ga gs gens→gens.length≤100→ga∈foot→Q (.ref ga) H
def zq (K:Frag)(CG CB:Addr)(j:Nat):TE:=fun σ H Q=>∃ (b na:Addr) (foot:List Addr) (st:State) (ns:List Int) (g:Nat),σ[0]?=some (some (.ref b))∧σ[1]?=some (some (.ref na))∧aK K CG CB H b foot st∧SqL K H na (ns.map V.int)∧ns[j]?=some (g:Int)∧g<4∧
 ∀ (t:Addr) (rs:List Addr) (T0:Tab) (gens:List Turn.Row),st.groups[g]?=some gens→bt K H t rs T0→TOk st.n T0→bS st.n (aE st.n gens) (tU T0)→(∀ x∈gens,IsT st.n x)→gens.length≤100→(∀ r∈rs,r∈foot)→Q (.ref t) H
section
variable {X:Cx} {CG CB:Addr} {j:Nat} {p1 p2 p3 p4 p5 p6 p7:Pos} {jj:Nat}
theorem n6 {e0 e1:Expr}(T:Txt X.K X.mg CG CB)(h0:PE X e0 (su 0))(h1:PE X e1 (su 1))(hb:attributeBase e0 "groups" X.env (eval e0 X.env)=eval e0 X.env:=by rfl)(hp1:dZ (.Constant (.int (j:Int)) jj p4):=by intro _ _;rfl)(hp2:dZ (.Subscript e1 (.Constant (.int (j:Int)) jj p4) p5):=by intro _ _;rfl)
  (hb2:attributeBase (.Subscript (.Attribute e0 "groups" p2) (.Subscript e1 (.Constant (.int (j:Int)) jj p4) p5) p6) "given" X.env (eval (.Subscript (.Attribute e0 "groups" p2) (.Subscript e1 (.Constant (.int (j:Int)) jj p4) p5) p6) X.env)=eval (.Subscript (.Attribute e0 "groups" p2) (.Subscript e1 (.Constant (.int (j:Int)) jj p4) p5) p6) X.env:=by rfl):
  PE X (.Attribute (.Subscript (.Attribute e0 "groups" p2) (.Subscript e1 (.Constant (.int (j:Int)) jj p4) p5) p6) "given" p7) (zt X.K CG CB j):=by
 refine oY (bp (kt T h0 h1 hb hp1 hp2) hb2) ?_
 rintro σ H Q ⟨b,na,foot,st,ns,g,hs0,hs1,hB,hna,hj,hg,k⟩
 refine ⟨b,na,foot,st,ns,g,hs0,hs1,hB,hna,hj,hg,fun o A gens w1 w2 w3 w4=>?_⟩
 obtain ⟨dx,ga,t,gs,rs,T0,rfl,nd,y1,y2,y3,y4,y5,y6,y7⟩:=w2.ex
 exact ⟨o,CG,dx,_,_,rfl,y1,T.gcl,T.gGiven,dl _ _,k ga gs gens w1 y3 ⟨SqL.of y3,y4,w2.isT⟩ w4 (w3 ga (by simp))⟩
theorem vq {e0 e1:Expr}(T:Txt X.K X.mg CG CB)(h0:PE X e0 (su 0))(h1:PE X e1 (su 1))(hb:attributeBase e0 "groups" X.env (eval e0 X.env)=eval e0 X.env:=by rfl)(hp1:dZ (.Constant (.int (j:Int)) jj p4):=by intro _ _;rfl)(hp2:dZ (.Subscript e1 (.Constant (.int (j:Int)) jj p4) p5):=by intro _ _;rfl)
  (hb2:attributeBase (.Subscript (.Attribute e0 "groups" p2) (.Subscript e1 (.Constant (.int (j:Int)) jj p4) p5) p6) "table" X.env (eval (.Subscript (.Attribute e0 "groups" p2) (.Subscript e1 (.Constant (.int (j:Int)) jj p4) p5) p6) X.env)=eval (.Subscript (.Attribute e0 "groups" p2) (.Subscript e1 (.Constant (.int (j:Int)) jj p4) p5) p6) X.env:=by rfl):
  PE X (.Attribute (.Subscript (.Attribute e0 "groups" p2) (.Subscript e1 (.Constant (.int (j:Int)) jj p4) p5) p6) "table" p7) (zq X.K CG CB j):=by
 refine oY (bp (kt T h0 h1 hb hp1 hp2) hb2) ?_
 rintro σ H Q ⟨b,na,foot,st,ns,g,hs0,hs1,hB,hna,hj,hg,k⟩
 refine ⟨b,na,foot,st,ns,g,hs0,hs1,hB,hna,hj,hg,fun o A gens w1 w2 w3 w4=>?_⟩
 obtain ⟨dx,ga,t,gs,rs,T0,rfl,nd,y1,y2,y3,y4,y5,y6,y7⟩:=w2.ex
 exact ⟨o,CG,dx,_,_,rfl,y1,T.gcl,T.gTable,ft _ _,k t rs T0 gens w1 y5 y6 y7 w2.isT w4 fun r hr=>w3 r (by simp[hr])⟩
end
theorem no3 {g h k:Nat}(hg:g<4)(hh:h<4)(hk:k<4):¬(Turn.GROUPS≤g∨Turn.GROUPS≤h∨Turn.GROUPS≤k):=by
 rintro (z|z|z)
 ·exact ng hg z
 ·exact ng hh z
 ·exact ng hk z
section
variable {P:Program} {w:World} {K:Frag} {mg:Str→Option Value} {base:Heap} {CG CB:Addr}
theorem j8:ao ["bench","numbers","rows","given","first"] ["bench","numbers","rows"] (aj mt):=bX
theorem sQ {f:Addr}{fd:FuncData}(F:Fun K "answer_normal" "answer_normal" mt f fd)(T:Txt K mg CG CB)(CC:Cal P w K mg base 5 "closed_table" ["things","first","given"] (jF K))(CP:Cal P w K mg base 6 "put_and_tell" ["bench","number","table"] (eK K CG CB)):aZ P w K mg base CX0 7 f fd ["bench","numbers","rows"] (iq K CG CB 16 ["group","group","group"] 0):=by
 refine okF F j8 (fun cdv A outer s H vs Q E hr h=>?_)
 ·obtain ⟨b,na,ra,foot,ras,st,ns,rows,rfl,hB,hna,hra,hrw,hnl,hrl,hask,hth,htn,O⟩:=h
  have hr5:bO 5 _:=hr.mono (by decide)
  refine ⟨_,ag (aq (i:=3) j8.nd rfl (Or.inl rfl) (fq (j:=0) T (pv 0) (pv 1)))
   (ag (aq (i:=4) j8.nd rfl (Or.inl rfl) (n6 (j:=1) T (pv 0) (pv 1)))
   (ah (ax (ak CP hr rfl (aa (pv 0) (aa (aL ay (pv 1) aB (fun _ _=>rfl)) (aa (ak CC hr5 rfl (aa (bp (pv 0) rfl) (aa (pv 4) (aa (pv 3) af)))) af))))))),?_⟩
  obtain ⟨z,zh,zk,rfl⟩:=Tt.ln3 hnl
  have hr0:=ou hrl
  subst hr0
  have ha3:(TuNeutral.natural z 32&&TuNeutral.natural zh 32&&TuNeutral.natural zk 32)=true:=hask
  obtain ⟨g,rfl,_⟩:=cQ (jQ (jQ ha3))
  obtain ⟨h',rfl,_⟩:=cQ (tS (jQ ha3))
  obtain ⟨k,rfl,_⟩:=cQ (tS ha3)
  have hg:=bd (hth 0 _ _ rfl rfl)
  have hh:=bd (hth 1 _ _ rfl rfl)
  have hk:=bd (hth 2 _ _ rfl rfl)
  obtain ⟨dx,L,os,As,hfe,nd,h1,h2,h3,hG⟩:=hB.ex
  refine ⟨b,na,foot,st,_,g,rfl,rfl,hB,hna,rfl,hg,fun ga gs gens w1 w2 w3 w4=>?_⟩
  refine ⟨b,na,foot,st,_,h',rfl,rfl,hB,hna,rfl,hh,fun fa fs first u1 u2 u3 u4 u5=>?_⟩
  refine ⟨_,rfl,_,rfl,na,_,_,_,rfl,rfl,hna,aw (cH (i:=2) rfl),_,rfl,b,CB,dx,_,_,rfl,h1,T.bcl,T.bThings,cK _ _,_,rfl,_,rfl,st.n,fa,ga,fs,gs,first,gens,rfl,u3,w3,hB.pos,hB.le,by omega,w4,fun H1 t rs T0 sg ht hrs hT ok hsT FT C hrf s1=>?_⟩
  have fn:∀ a∈foot,H a≠none:=hB.tracked
  have gd:gz st.n sg:=C.lean.toGood hB.le
  obtain ⟨c1,c2⟩:=C.own hB.le u3.isT w3.isT
  refine ⟨b,t,foot,rs,st,k,T0,sg,rfl,hB.same s1,hk,hT,ok,gd,FT,fun z=>fn t z ht,fun r hr z=>fn r z (hrs r hr),fun H' p foot' hp hpf hp' B' fo rf sX gr=>?_⟩
  have e:TuNeutral.step st [[16,(g:Int),(h':Int),(k:Int)]]=st.puts k (Turn.normal st.n first gens):=by
   show Turn.step st (.normal (TuNeutral.nat (g:Int)) (TuNeutral.nat (h':Int)) (TuNeutral.nat (k:Int)))=_
   rw[tof,tof,tof]
   simp only[Turn.step]
   rw[if_neg (no3 hg hh hk),cI w1,cI u1]
  exact O.puts hB e c2 gd c1 s1 ht (fun r hr=>⟨hrs r hr,hT.tracked r hr⟩) (fun x hx=>⟨fa,u5,_,u2,mem_map.mpr ⟨x,hx,rfl⟩⟩) hrf hp hpf hp' B' fo rf sX gr
theorem lp:ao ["bench","numbers","rows","given"] ["bench","numbers","rows"] (aj kh):=bX
theorem qv {f:Addr}{fd:FuncData}(F:Fun K "answer_derived" "answer_derived" kh f fd)(T:Txt K mg CG CB)(CC:Cal P w K mg base 6 "derived_table" ["things","given"] (j3 K))(CP:Cal P w K mg base 6 "put_and_tell" ["bench","number","table"] (eK K CG CB)):aZ P w K mg base CX0 7 f fd ["bench","numbers","rows"] (iq K CG CB 17 ["group","group"] 0):=by
 refine okF F lp (fun cdv A outer s H vs Q E hr h=>?_)
 ·obtain ⟨b,na,ra,foot,ras,st,ns,rows,rfl,hB,hna,hra,hrw,hnl,hrl,hask,hth,htn,O⟩:=h
  refine ⟨_,ag (aq (i:=3) lp.nd rfl (Or.inl rfl) (fq (j:=0) T (pv 0) (pv 1)))
   (ah (ax (ak CP hr rfl (aa (pv 0) (aa (aL ay (pv 1) aB (fun _ _=>rfl)) (aa (ak CC hr rfl (aa (bp (pv 0) rfl) (aa (pv 3) af))) af)))))),?_⟩
  obtain ⟨z,zk,rfl⟩:=Tt.ln2 hnl
  have hr0:=ou hrl
  subst hr0
  have ha2:(TuNeutral.natural z 32&&TuNeutral.natural zk 32)=true:=hask
  obtain ⟨g,rfl,_⟩:=cQ (jQ ha2)
  obtain ⟨k,rfl,_⟩:=cQ (tS ha2)
  have hg:=bd (hth 0 _ _ rfl rfl)
  have hk:=bd (hth 1 _ _ rfl rfl)
  obtain ⟨dx,L,os,As,hfe,nd,h1,h2,h3,hG⟩:=hB.ex
  refine ⟨b,na,foot,st,_,g,rfl,rfl,hB,hna,rfl,hg,fun ga gs gens w1 w2 w3 w4=>?_⟩
  refine ⟨_,rfl,_,rfl,na,_,_,_,rfl,rfl,hna,aw (cH (i:=1) rfl),_,rfl,b,CB,dx,_,_,rfl,h1,T.bcl,T.bThings,cK _ _,_,rfl,st.n,ga,gs,gens,rfl,w3,hB.pos,hB.le,w4,fun H1 t rs T0 sg ht hrs hT ok hsT FT C hrf s1=>?_⟩
  have fn:∀ a∈foot,H a≠none:=hB.tracked
  have gd:gz st.n sg:=C.lean.toGood hB.le
  have hfT:∀ z∈iL gens,IsT st.n z:=fun z hz=>by
   obtain ⟨x,hx,hz⟩:=mem_flatMap.mp hz
   obtain ⟨y,hy,rfl⟩:=mem_map.mp hz
   exact rW (w3.isT x hx) (w3.isT y hy)
  obtain ⟨c1,c2⟩:=C.own hB.le hfT w3.isT
  refine ⟨b,t,foot,rs,st,k,T0,sg,rfl,hB.same s1,hk,hT,ok,gd,FT,fun z=>fn t z ht,fun r hr z=>fn r z (hrs r hr),fun H' p foot' hp hpf hp' B' fo rf sX gr=>?_⟩
  have e:TuNeutral.step st [[17,(g:Int),(k:Int)]]=st.puts k (Turn.normal st.n (iL gens) gens):=by
   show Turn.step st (.derived (TuNeutral.nat (g:Int)) (TuNeutral.nat (k:Int)))=_
   rw[tof,tof]
   simp only[Turn.step]
   rw[if_neg (by rintro (z|z);exact ng hg z;exact ng hk z),cI w1];rfl
  exact O.puts hB e c2 gd c1 s1 ht (fun r hr=>⟨hrs r hr,hT.tracked r hr⟩) (fun x hx=>hx.elim) hrf hp hpf hp' B' fo rf sX gr
theorem pH:ao ["bench","numbers","rows","one","other"] ["bench","numbers","rows"] (aj uI):=bX
theorem xX {f:Addr}{fd:FuncData}{t8 tm:Tok}(F:Fun K "answer_meet" "answer_meet" uI f fd)(T:Txt K mg CG CB)(hm8:mg "TOO_MANY"=some (.int (-8) t8))(hms:mg "MOST_SEARCHED"=some (.int 1000 tm))(CT:Cal P w K mg base 3 "turn_count" ["table"] (cr K))(CC:Cal P w K mg base 5 "shared_table" ["one","other"] (lX K))(CP:Cal P w K mg base 6 "put_and_tell" ["bench","number","table"] (eK K CG CB)):aZ P w K mg base CX0 7 f fd ["bench","numbers","rows"] (iq K CG CB 18 ["group","group","group"] 0):=by
 refine okF F pH (fun cdv A outer s H vs Q E hr h=>?_)
 ·obtain ⟨b,na,ra,foot,ras,st,ns,rows,rfl,hB,hna,hra,hrw,hnl,hrl,hask,hth,htn,O⟩:=h
  have hr3:bO 3 _:=hr.mono (by decide)
  have hr5:bO 5 _:=hr.mono (by decide)
  refine ⟨_,ag (aq (i:=3) pH.nd rfl (Or.inl rfl) (d8 (j:=0) T (pv 0) (pv 1)))
   (ag (aq (i:=4) pH.nd rfl (Or.inl rfl) (d8 (j:=1) T (pv 0) (pv 1)))
   (ag (dz (aU qk (ak CT hr3 rfl (aa (pv 3) af)) (bQ (v:=.int 1000) rfl hms ⟨tm,rfl⟩) (be _)) (ah (ax (aV (aa (bQ (v:=.int (-8)) rfl hm8 ⟨t8,rfl⟩) af)))) bi)
   (ah (ax (ak CP hr rfl (aa (pv 0) (aa (aL ay (pv 1) aB (fun _ _=>rfl)) (aa (ak CC hr5 rfl (aa (pv 3) (aa (pv 4) af))) af)))))))),?_⟩
  obtain ⟨z,zh,zk,rfl⟩:=Tt.ln3 hnl
  have hr0:=ou hrl
  subst hr0
  have ha3:(TuNeutral.natural z 32&&TuNeutral.natural zh 32&&TuNeutral.natural zk 32)=true:=hask
  obtain ⟨g,rfl,_⟩:=cQ (jQ (jQ ha3))
  obtain ⟨h',rfl,_⟩:=cQ (tS (jQ ha3))
  obtain ⟨k,rfl,_⟩:=cQ (tS ha3)
  have hg:=bd (hth 0 _ _ rfl rfl)
  have hh:=bd (hth 1 _ _ rfl rfl)
  have hk:=bd (hth 2 _ _ rfl rfl)
  refine ⟨b,na,foot,st,_,g,rfl,rfl,hB,hna,rfl,hg,fun t1 rs1 T1 gens w1 w2 w3 w4 w5 w6=>?_⟩
  refine ⟨b,na,foot,st,_,h',rfl,rfl,hB,hna,rfl,hh,fun t2 rs2 T2 gens2 u1 u2 u3 u4 u5 u6=>?_⟩
  obtain ⟨f1,f2⟩:=dQ hB.le w1 w5 w6
  obtain ⟨v1,v2⟩:=dQ hB.le u1 u5 u6
  refine ⟨_,rfl,t1,rs1,T1,st.n,_,rfl,w2,w3,hB.le,w4,fun H0 s0=>⟨_,_,rfl,rfl,_,rfl,eX (fun hgt=>?_) fun hle=>?_⟩⟩
  ·refine ⟨Nat.le_of_lt (sz (by show 1≤1000000;decide)),fun q hq=>?_⟩
   have e:TuNeutral.step st [[18,(g:Int),(h':Int),(k:Int)]]=(st,[-8]):=by
    show Turn.step st (.meet (TuNeutral.nat (g:Int)) (TuNeutral.nat (h':Int)) (TuNeutral.nat (k:Int)))=_
    rw[tof,tof,tof]
    simp only[Turn.step]
    rw[if_neg (no3 hg hh hk),Tt.cN f2,if_pos (by show 1000<_;omega)];rfl
   exact O.plain hB e (by show 1≤2000;decide) (al s0 hq) (s0.free hq) ae
  ·have hwt:wt st.n (aE st.n gens) 0≤1000:=by omega
   refine ⟨_,rfl,_,rfl,na,_,_,_,rfl,rfl,s0.seq hna,aw (cH (i:=2) rfl),_,rfl,_,rfl,st.n,t1,t2,rs1,rs2,T1,T2,_,_,rfl,w2.same s0,w3,w4,hwt,u2.same s0,u3,u4,hB.pos,hB.le,fun H1 t rs T0 sg ht hrs hT ok hsT FT C hrf s1=>?_⟩
   have s01:=s0.trans s1
   have fn:∀ a∈foot,H a≠none:=hB.tracked
   have gd:gz st.n sg:=⟨hsT,by have:=C.1;omega⟩
   obtain ⟨mm,mi⟩:=Tt.At f1 f2 v1 v2
   have gl:gz st.n (Turn.meet st.n (st.table g) (st.table h')):=by
    refine ⟨fun x hx=>f2.grp.isT x ((mm x).mp hx).1,?_⟩
    unfold Turn.meet
    have h5:=length_filter_le (Turn.has st.n (st.table h')) ((List.range (Turn.order st.n (st.table g))).map fun (k:Nat)=>Turn.nth st.n (st.table g) k (Turn.still st.n))
    rw[length_map,length_range,Tt.cN f2] at h5
    rw[Tt.cN f2]
    omega
   refine ⟨b,t,foot,rs,st,k,T0,sg,rfl,hB.same s01,hk,hT,ok,gd,FT,fun z=>fn t z (s0.free ht),fun r hr z=>fn r z (s0.free (hrs r hr)),fun H' p foot' hp hpf hp' B' fo rf sX gr=>?_⟩
   have e:TuNeutral.step st [[18,(g:Int),(h':Int),(k:Int)]]=st.puts k (Turn.meet st.n (st.table g) (st.table h')):=by
    show Turn.step st (.meet (TuNeutral.nat (g:Int)) (TuNeutral.nat (h':Int)) (TuNeutral.nat (k:Int)))=_
    rw[tof,tof,tof]
    simp only[Turn.step]
    rw[if_neg (no3 hg hh hk),Tt.cN f2,if_neg (by show ¬1000<_;omega)]
   exact O.puts hB e gl gd (fun z=>by rw[C.2,mi]) s01 (s0.free ht) (fun r hr=>⟨s0.free (hrs r hr),hT.tracked r hr⟩) (old:=fun _=>False) (fun x hx=>hx.elim) (fun x hx=>(hrf x hx).imp id fun z=>⟨s0.free z.1,z.2⟩) hp hpf hp' B' fo rf sX gr
theorem pI:ao ["bench","numbers","rows","one","given"] ["bench","numbers","rows"] (aj uL):=bX
theorem yb {f:Addr}{fd:FuncData}(F:Fun K "answer_join" "answer_join" uL f fd)(T:Txt K mg CG CB)(CC:Cal P w K mg base 5 "joined_table" ["one","given"] (j0 K))(CP:Cal P w K mg base 6 "put_and_tell" ["bench","number","table"] (eK K CG CB)):aZ P w K mg base CX0 7 f fd ["bench","numbers","rows"] (iq K CG CB 19 ["group","group","group"] 0):=by
 refine okF F pI (fun cdv A outer s H vs Q E hr h=>?_)
 ·obtain ⟨b,na,ra,foot,ras,st,ns,rows,rfl,hB,hna,hra,hrw,hnl,hrl,hask,hth,htn,O⟩:=h
  have hr5:bO 5 _:=hr.mono (by decide)
  refine ⟨_,ag (aq (i:=3) pI.nd rfl (Or.inl rfl) (vq (j:=0) T (pv 0) (pv 1)))
   (ag (aq (i:=4) pI.nd rfl (Or.inl rfl) (n6 (j:=1) T (pv 0) (pv 1)))
   (ah (ax (ak CP hr rfl (aa (pv 0) (aa (aL ay (pv 1) aB (fun _ _=>rfl)) (aa (ak CC hr5 rfl (aa (pv 3) (aa (pv 4) af))) af))))))),?_⟩
  obtain ⟨z,zh,zk,rfl⟩:=Tt.ln3 hnl
  have hr0:=ou hrl
  subst hr0
  have ha3:(TuNeutral.natural z 32&&TuNeutral.natural zh 32&&TuNeutral.natural zk 32)=true:=hask
  obtain ⟨g,rfl,_⟩:=cQ (jQ (jQ ha3))
  obtain ⟨h',rfl,_⟩:=cQ (tS (jQ ha3))
  obtain ⟨k,rfl,_⟩:=cQ (tS ha3)
  have hg:=bd (hth 0 _ _ rfl rfl)
  have hh:=bd (hth 1 _ _ rfl rfl)
  have hk:=bd (hth 2 _ _ rfl rfl)
  refine ⟨b,na,foot,st,_,g,rfl,rfl,hB,hna,rfl,hg,fun t1 rs1 T1 gens w1 w2 w3 w4 w5 w6 w7=>?_⟩
  refine ⟨b,na,foot,st,_,h',rfl,rfl,hB,hna,rfl,hh,fun ga gs gens2 u1 u2 u3 u4 u5=>?_⟩
  refine ⟨_,rfl,_,rfl,na,_,_,_,rfl,rfl,hna,aw (cH (i:=2) rfl),_,rfl,_,rfl,st.n,t1,ga,rs1,gs,T1,gens,gens2,rfl,w2,w3,w4,w5,u3,hB.pos,hB.le,fun H1 t rs T0 sg ht hrs hT ok hsT FT C hrf s1=>?_⟩
  subst C
  have fn:∀ a∈foot,H a≠none:=hB.tracked
  have gd:gz st.n (gens++gens2):=⟨hsT,by rw[length_append];omega⟩
  refine ⟨b,t,foot,rs,st,k,T0,_,rfl,hB.same s1,hk,hT,ok,gd,FT,fun z=>fn t z ht,fun r hr z=>fn r z (hrs r hr),fun H' p foot' hp hpf hp' B' fo rf sX gr=>?_⟩
  have e:TuNeutral.step st [[19,(g:Int),(h':Int),(k:Int)]]=st.puts k (gens++gens2):=by
   show Turn.step st (.join (TuNeutral.nat (g:Int)) (TuNeutral.nat (h':Int)) (TuNeutral.nat (k:Int)))=_
   rw[tof,tof,tof]
   simp only[Turn.step]
   rw[if_neg (no3 hg hh hk),cI w1,cI u1]
  refine O.puts hB e gd gd (fun z=>Iff.rfl) s1 ht (fun r hr=>⟨hrs r hr,hT.tracked r hr⟩) (fun x hx=>?_) hrf hp hpf hp' B' fo rf sX gr
  rcases hx with hx|hx
  ·exact hx.mono w7
  ·exact ⟨ga,u5,_,u2,mem_map.mpr ⟨x,hx,rfl⟩⟩
end
end Bt
namespace Bt
open PySem PySem.Spec PyProof.Rows L2
open PySem.W (Codec)
def GFn (K:Frag)(x:Str)(st:Stmt):Prop:=∃ (f:Addr) (oc:Value) (od:Option Addr) (osl:Array (Option Value)) (kV doc pm:Value) (an:Option Addr) (cdv ct:Value),nsIn K mainGlobals x=some (some (.ref f))∧
 K.lookup f=some ⟨oc,od,.func (fnOf x x (eI st) (du st) (aj st) .none kV doc pm an cdv ct),osl⟩∧codeIn K cdv x=true∧keepIn K (.ref f)=true
def ie (K:Frag)(C:Addr)(x qual:Str)(st:Stmt):Prop:=∃ (f:Addr) (oc:Value) (od:Option Addr) (osl:Array (Option Value)) (kV doc pm:Value) (an:Option Addr) (cdv ct:Value),findIn K (.ref C) x=some (some (.ref f))∧isFn K (.ref f)=true∧
 K.lookup f=some ⟨oc,od,.func (fnOf x qual (eI st) (du st) (aj st) .none kV doc pm an cdv ct),osl⟩∧codeIn K cdv qual=true∧keepIn K (.ref f)=true
def tV (K:Frag)(x:Str)(n:Int):Prop:=∃ t:Tok,nsIn K mainGlobals x=some (some (.int n t))
def si (K:Frag)(a:Addr)(items:List Value):Prop:=∃ (od:Option Addr) (n:Nat) (sl:Array (Option Value)),K.lookup a=some ⟨.type "tuple",od,.seq items.toArray n,sl⟩
def ji (K:Frag)(a:Addr)(m:Nat)(x:Str):Prop:=∃ (b f:Addr) (t:Tok),nsIn K mainGlobals x=some (some (.ref f))∧si K a [.ref b,.int (m:Nat) t,.ref f]∧si K b []
def bz (K:Frag)(a:Addr)(s1:Str)(m:Nat)(x:Str):Prop:=∃ (b f:Addr) (t t1:Tok),nsIn K mainGlobals x=some (some (.ref f))∧si K a [.ref b,.int (m:Nat) t,.ref f]∧si K b [.str s1 t1]
def jh (K:Frag)(a:Addr)(s1 s2:Str)(m:Nat)(x:Str):Prop:=∃ (b f:Addr) (t t1 t2:Tok),nsIn K mainGlobals x=some (some (.ref f))∧si K a [.ref b,.int (m:Nat) t,.ref f]∧si K b [.str s1 t1,.str s2 t2]
def gy (K:Frag)(a:Addr)(s1 s2 s3:Str)(m:Nat)(x:Str):Prop:=∃ (b f:Addr) (t t1 t2 t3:Tok),nsIn K mainGlobals x=some (some (.ref f))∧si K a [.ref b,.int (m:Nat) t,.ref f]∧si K b [.str s1 t1,.str s2 t2,.str s3 t3]
def BV (K:Frag)(a:Addr)(ms:List Str)(m:Nat)(x:Str):Prop:=∃ (b f:Addr),nsIn K mainGlobals x=some (some (.ref f))∧tW K ⟨a,b,ms,m,f⟩
theorem GFn.mk {K:Frag}{x:Str}{st:Stmt}{f:Addr}{oc:Value}{od:Option Addr}{osl:Array (Option Value)}{kV doc pm:Value}{an:Option Addr}{cdv ct:Value}(a:nsIn K mainGlobals x=some (some (.ref f)))(l:K.lookup f=some ⟨oc,od,.func (fnOf x x (eI st) (du st) (aj st) .none kV doc pm an cdv ct),osl⟩)(c:codeIn K cdv x=true)(k:keepIn K (.ref f)=true):GFn K x st:=⟨f,oc,od,osl,kV,doc,pm,an,cdv,ct,a,l,c,k⟩
theorem ie.mk {K:Frag}{C:Addr}{x qual:Str}{st:Stmt}{f:Addr}{oc:Value}{od:Option Addr}{osl:Array (Option Value)}{kV doc pm:Value}{an:Option Addr}{cdv ct:Value}(a:findIn K (.ref C) x=some (some (.ref f)))(i:isFn K (.ref f)=true)(l:K.lookup f=some ⟨oc,od,.func (fnOf x qual (eI st) (du st) (aj st) .none kV doc pm an cdv ct),osl⟩)(c:codeIn K cdv qual=true)(k:keepIn K (.ref f)=true):ie K C x qual st:=⟨f,oc,od,osl,kV,doc,pm,an,cdv,ct,a,i,l,c,k⟩
theorem tV.mk {K:Frag}{x:Str}{n:Int}{t:Tok}(a:nsIn K mainGlobals x=some (some (.int n t))):tV K x n:=⟨t,a⟩
theorem si.mk {K:Frag}{a:Addr}{items:List Value}{od:Option Addr}{n:Nat}{sl:Array (Option Value)}(l:K.lookup a=some ⟨.type "tuple",od,.seq items.toArray n,sl⟩):si K a items:=⟨od,n,sl,l⟩
theorem ji.mk {K:Frag}{a b f:Addr}{m:Nat}{x:Str}{t:Tok}{o1 o2:Option Addr}{n1 n2:Nat}{l1 l2:Array (Option Value)}(h:nsIn K mainGlobals x=some (some (.ref f)))(h1:K.lookup a=some ⟨.type "tuple",o1,.seq #[.ref b,.int (m:Nat) t,.ref f] n1,l1⟩)(h2:K.lookup b=some ⟨.type "tuple",o2,.seq #[] n2,l2⟩):ji K a m x:=⟨b,f,t,h,⟨o1,n1,l1,h1⟩,⟨o2,n2,l2,h2⟩⟩
theorem bz.mk {K:Frag}{a b f:Addr}{m:Nat}{x s1:Str}{t t1:Tok}{o1 o2:Option Addr}{n1 n2:Nat}{l1 l2:Array (Option Value)}(h:nsIn K mainGlobals x=some (some (.ref f)))(h1:K.lookup a=some ⟨.type "tuple",o1,.seq #[.ref b,.int (m:Nat) t,.ref f] n1,l1⟩)(h2:K.lookup b=some ⟨.type "tuple",o2,.seq #[.str s1 t1] n2,l2⟩):bz K a s1 m x:=⟨b,f,t,t1,h,⟨o1,n1,l1,h1⟩,⟨o2,n2,l2,h2⟩⟩
theorem jh.mk {K:Frag}{a b f:Addr}{m:Nat}{x s1 s2:Str}{t t1 t2:Tok}{o1 o2:Option Addr}{n1 n2:Nat}{l1 l2:Array (Option Value)}(h:nsIn K mainGlobals x=some (some (.ref f)))(h1:K.lookup a=some ⟨.type "tuple",o1,.seq #[.ref b,.int (m:Nat) t,.ref f] n1,l1⟩)(h2:K.lookup b=some ⟨.type "tuple",o2,.seq #[.str s1 t1,.str s2 t2] n2,l2⟩):jh K a s1 s2 m x:=⟨b,f,t,t1,t2,h,⟨o1,n1,l1,h1⟩,⟨o2,n2,l2,h2⟩⟩
theorem gy.mk {K:Frag}{a b f:Addr}{m:Nat}{x s1 s2 s3:Str}{t t1 t2 t3:Tok}{o1 o2:Option Addr}{n1 n2:Nat}{l1 l2:Array (Option Value)}(h:nsIn K mainGlobals x=some (some (.ref f)))(h1:K.lookup a=some ⟨.type "tuple",o1,.seq #[.ref b,.int (m:Nat) t,.ref f] n1,l1⟩)(h2:K.lookup b=some ⟨.type "tuple",o2,.seq #[.str s1 t1,.str s2 t2,.str s3 t3] n2,l2⟩):gy K a s1 s2 s3 m x:=⟨b,f,t,t1,t2,t3,h,⟨o1,n1,l1,h1⟩,⟨o2,n2,l2,h2⟩⟩
section
variable {K:Frag}
theorem si.sq {a:Addr}{items:List Value}{xs:List V}(g:si K a items)(r:bF xs items)(hl:items.length≤100)(H:Hp):SqT K H a xs:=by
 obtain ⟨od,n,sl,h⟩:=g
 refine .inr ⟨_,items.toArray,n,h,rfl,rfl,?_,r⟩
 rw[size_toArray];exact Nat.le_of_lt (sz (by omega))
theorem ni {a b f:Addr}{m:Nat}{t:Tok}(g:si K a [.ref b,.int (m:Nat) t,.ref f])(H:Hp):SqT K H a [.ref b,.int (m:Nat),.ref f]:=g.sq (xs:=[.ref b,.int (m:Nat),.ref f]) (.cons rfl (.cons ⟨t,rfl⟩ (.cons rfl .nil))) (by show 3≤100;decide) H
theorem ji.ent {a:Addr}{m:Nat}{x:Str}(g:ji K a m x):BV K a [] m x:=by
 obtain ⟨b,f,t,h1,h2,h3⟩:=g
 exact ⟨b,f,h1,ni h2,fun H=>h3.sq .nil (by show 0≤100;decide) H⟩
theorem bz.ent {a:Addr}{s1:Str}{m:Nat}{x:Str}(g:bz K a s1 m x):BV K a [s1] m x:=by
 obtain ⟨b,f,t,t1,h1,h2,h3⟩:=g
 exact ⟨b,f,h1,ni h2,fun H=>h3.sq (xs:=[.str s1]) (.cons ⟨t1,rfl⟩ .nil) (by show 1≤100;decide) H⟩
theorem jh.ent {a:Addr}{s1 s2:Str}{m:Nat}{x:Str}(g:jh K a s1 s2 m x):BV K a [s1,s2] m x:=by
 obtain ⟨b,f,t,t1,t2,h1,h2,h3⟩:=g
 exact ⟨b,f,h1,ni h2,fun H=>h3.sq (xs:=[.str s1,.str s2]) (.cons ⟨t1,rfl⟩ (.cons ⟨t2,rfl⟩ .nil)) (by show 2≤100;decide) H⟩
theorem gy.ent {a:Addr}{s1 s2 s3:Str}{m:Nat}{x:Str}(g:gy K a s1 s2 s3 m x):BV K a [s1,s2,s3] m x:=by
 obtain ⟨b,f,t,t1,t2,t3,h1,h2,h3⟩:=g
 exact ⟨b,f,h1,ni h2,fun H=>h3.sq (xs:=[.str s1,.str s2,.str s3]) (.cons ⟨t1,rfl⟩ (.cons ⟨t2,rfl⟩ (.cons ⟨t3,rfl⟩ .nil))) (by show 3≤100;decide) H⟩
end
def HasFn (K:Frag)(mg:Str→Option Value)(x:Str)(st:Stmt):Prop:=∃ (f:Addr) (fd:FuncData),Fun K x x st f fd∧mg x=some (.ref f)
theorem GFn.has {K:Frag}{h:Heap}{mg:Str→Option Value}{x:Str}{st:Stmt}(X:K.In h)(G:h.Ns mainGlobals mg)(g:GFn K x st):HasFn K mg x st:=by
 obtain ⟨f,oc,od,osl,kV,doc,pm,an,cdv,ct,h1,h2,h3,h4⟩:=g
 exact ⟨f,_,kO h2 h3 h4,mg_of X G h1⟩
theorem aN (P:Program)(w:World)(base:Heap){K:Frag}{mg:Str→Option Value}{k:Nat}{x:Str}{st:Stmt}{f:Addr}{fd:FuncData}{ps:List Str}{sp:Sp}(F:Fun K x x st f fd)(m:mg x=some (.ref f))(ok:aZ P w K mg base CX0 k f fd ps sp)
  (b:∀ (kV doc pm:Value) (an:Option Addr) (cdv ct:Value) (us:List Value),us.length=ps.length→bindArgs (fnOf x x (eI st) (du st) (aj st) .none kV doc pm an cdv ct) ⟨us,[]⟩=pure (ps.zip us):=by intro kV doc pm an cdv ct us hl;rcases us with _|⟨_,_|⟨_,_|⟨_,_|⟨_,_|⟨_,_⟩⟩⟩⟩⟩ <;> first|rfl|(simp at hl)):Cal P w K mg base k x ps sp:=⟨⟨f,fd,ok,m,F.kp,F.binds b⟩⟩
theorem cj {P:Program}{w:World}{base:Heap}{K:Frag}{mg:Str→Option Value}{CG CB:Addr}{p:Nat}{e:Ent}{x:Str}{st:Stmt}{fd:FuncData}(v:tW K e)(F:Fun K x x st e.fn fd)(ok:aZ P w K mg base CX0 7 e.fn fd ["bench","numbers","rows"] (iq K CG CB p e.ms e.m))
  (b:∀ (kV doc pm:Value) (an:Option Addr) (cdv ct:Value) (us:List Value),us.length=3→bindArgs (fnOf x x (eI st) (du st) (aj st) .none kV doc pm an cdv ct) ⟨us,[]⟩=pure ((["bench","numbers","rows"]:List Str).zip us):=by intro kV doc pm an cdv ct us hl;rcases us with _|⟨_,_|⟨_,_|⟨_,_|⟨_,_|⟨_,_⟩⟩⟩⟩⟩ <;> first|rfl|(simp at hl)):tW K e∧∃ fd,aZ P w K mg base CX0 7 e.fn fd ["bench","numbers","rows"] (iq K CG CB p e.ms e.m)∧keepIn K (.ref e.fn)=true∧d4 K fd ["bench","numbers","rows"] []:=⟨v,fd,ok,F.kp,F.binds b⟩
def BW (K:Frag):Prop:=∃ CG CB:Addr,nsIn K mainGlobals "Group"=some (some (.ref CG))∧nsIn K mainGlobals "Bench"=some (some (.ref CB))∧Cls K CG∧makesIn K CG=true∧keepIn K (.ref CG)=true∧cE K CG "given"∧cE K CG "table"∧Cls K CB∧makesIn K CB=true∧keepIn K (.ref CB)=true∧cE K CB "things"∧cE K CB "groups"∧
  ie K CG "__init__" "Group.__init__" nP∧ie K CG "give" "Group.give" uP∧ie K CB "__init__" "Bench.__init__" nS∧ie K CB "begin" "Bench.begin" nR∧ie K CB "empty" "Bench.empty" nQ∧ie K CB "put" "Bench.put" A9
theorem BW.mk {K:Frag}{CG CB:Addr}(h0:nsIn K mainGlobals "Group"=some (some (.ref CG)))(h1:nsIn K mainGlobals "Bench"=some (some (.ref CB)))(h2:Cls K CG)(h3:makesIn K CG=true)(h4:keepIn K (.ref CG)=true)(h5:cE K CG "given")(h6:cE K CG "table")(h7:Cls K CB)(h8:makesIn K CB=true)(h9:keepIn K (.ref CB)=true)(h10:cE K CB "things")(h11:cE K CB "groups")(h12:ie K CG "__init__" "Group.__init__" nP)(h13:ie K CG "give" "Group.give" uP)(h14:ie K CB "__init__" "Bench.__init__" nS)(h15:ie K CB "begin" "Bench.begin" nR)(h16:ie K CB "empty" "Bench.empty" nQ)(h17:ie K CB "put" "Bench.put" A9):BW K:=⟨CG,CB,h0,h1,h2,h3,h4,h5,h6,h7,h8,h9,h10,h11,h12,h13,h14,h15,h16,h17⟩
def sj (K:Frag):Prop:=∃ (ca a0 a1 a2 a3 a4 a5 a6 a7 a8 a9 a10 a11 a12 a13 a14 a15 a16 a17 a18 a19 a20 a21 a22 a23:Addr),nsIn K mainGlobals "CALLS"=some (some (.ref ca))∧si K ca [.ref a0,.ref a1,.ref a2,.ref a3,.ref a4,.ref a5,.ref a6,.ref a7,.ref a8,.ref a9,.ref a10,.ref a11,.ref a12,.ref a13,.ref a14,.ref a15,.ref a16,.ref a17,.ref a18,.ref a19,.ref a20,.ref a21,.ref a22,.ref a23]∧bz K a0 "things" 0 "answer_new"∧bz K a1 "group" 1 "answer_give"∧bz K a2 "group" 0 "answer_clear"∧bz K a3 "group" 0 "answer_gens"∧bz K a4 "group" 0 "answer_order"∧bz K a5 "group" 0 "answer_chain"∧bz K a6 "group" 0 "answer_orbits"∧gy K a7 "group" "place" "place" 0 "answer_blocks"∧bz K a8 "group" 0 "answer_kind"∧bz K a9 "group" 1 "answer_has"∧jh K a10 "group" "any number" 0 "answer_nth"∧bz K a11 "group" 1 "answer_place"∧bz K a12 "group" 1 "answer_coset"∧jh K a13 "group" "group" 0 "answer_within"∧bz K a14 "group" 1 "answer_word"∧bz K a15 "group" 1 "answer_class"∧gy K a16 "group" "group" "group" 0 "answer_normal"∧jh K a17 "group" "group" 0 "answer_derived"∧gy K a18 "group" "group" "group" 0 "answer_meet"∧gy K a19 "group" "group" "group" 0 "answer_join"∧ji K a20 2 "answer_mul"∧bz K a21 "any number" 1 "answer_power"∧ji K a22 1 "answer_inverse"∧ji K a23 1 "answer_cycles"
theorem sj.mk {K:Frag}{ca a0 a1 a2 a3 a4 a5 a6 a7 a8 a9 a10 a11 a12 a13 a14 a15 a16 a17 a18 a19 a20 a21 a22 a23:Addr}{o:Option Addr}{n:Nat}{sl:Array (Option Value)}(h:nsIn K mainGlobals "CALLS"=some (some (.ref ca)))(l:K.lookup ca=some ⟨.type "tuple",o,.seq #[.ref a0,.ref a1,.ref a2,.ref a3,.ref a4,.ref a5,.ref a6,.ref a7,.ref a8,.ref a9,.ref a10,.ref a11,.ref a12,.ref a13,.ref a14,.ref a15,.ref a16,.ref a17,.ref a18,.ref a19,.ref a20,.ref a21,.ref a22,.ref a23] n,sl⟩)(e0:bz K a0 "things" 0 "answer_new")(e1:bz K a1 "group" 1 "answer_give")(e2:bz K a2 "group" 0 "answer_clear")(e3:bz K a3 "group" 0 "answer_gens")(e4:bz K a4 "group" 0 "answer_order")(e5:bz K a5 "group" 0 "answer_chain")(e6:bz K a6 "group" 0 "answer_orbits")(e7:gy K a7 "group" "place" "place" 0 "answer_blocks")(e8:bz K a8 "group" 0 "answer_kind")(e9:bz K a9 "group" 1 "answer_has")(e10:jh K a10 "group" "any number" 0 "answer_nth")(e11:bz K a11 "group" 1 "answer_place")(e12:bz K a12 "group" 1 "answer_coset")(e13:jh K a13 "group" "group" 0 "answer_within")(e14:bz K a14 "group" 1 "answer_word")(e15:bz K a15 "group" 1 "answer_class")(e16:gy K a16 "group" "group" "group" 0 "answer_normal")(e17:jh K a17 "group" "group" 0 "answer_derived")(e18:gy K a18 "group" "group" "group" 0 "answer_meet")(e19:gy K a19 "group" "group" "group" 0 "answer_join")(e20:ji K a20 2 "answer_mul")(e21:bz K a21 "any number" 1 "answer_power")(e22:ji K a22 1 "answer_inverse")(e23:ji K a23 1 "answer_cycles"):sj K:=⟨ca,a0,a1,a2,a3,a4,a5,a6,a7,a8,a9,a10,a11,a12,a13,a14,a15,a16,a17,a18,a19,a20,a21,a22,a23,h,⟨o,n,sl,l⟩,e0,e1,e2,e3,e4,e5,e6,e7,e8,e9,e10,e11,e12,e13,e14,e15,e16,e17,e18,e19,e20,e21,e22,e23⟩
structure Frame (K:Frag):Prop where
 x0:GFn K "is_turn" pW
 x1:GFn K "still_turn" uE
 x2:GFn K "product" mq
 x3:GFn K "inverse" mz
 x4:GFn K "power" uF
 x5:GFn K "taken_along" uV
 x6:GFn K "commutator" zU
 x7:GFn K "places_left_before_moving" gM
 x8:GFn K "is_still" my
 x9:GFn K "cycle_from" i4
 x10:GFn K "cycles_of" ki
 x11:GFn K "is_odd" uM
 x12:GFn K "times_to_be_still" uC
 x13:GFn K "each_alone" uW
 x14:GFn K "joined" pV
 x15:GFn K "is_all_in_one" km
 x16:GFn K "orbit_parting" pS
 x17:GFn K "block_parting" qa
 x18:GFn K "carried_on" mE
 x19:GFn K "table_without_turns" pO
 x20:GFn K "what_is_left" kb
 x21:GFn K "moving_turns" pU
 x22:GFn K "add_turn" mH
 x23:GFn K "goals" uN
 x24:GFn K "goal_counts" gN
 x25:GFn K "turn_count" i3
 x26:GFn K "makes" uJ
 x27:GFn K "turn_at" pM
 x28:GFn K "number_of" ke
 x29:GFn K "least_before" uK
 x30:GFn K "all_turns" kl
 x31:GFn K "own_turns" sOwn
 x32:GFn K "is_one_orbit" kd
 x33:GFn K "has_no_blocks" kf
 x34:GFn K "can_be_swapped" mn
 x35:GFn K "has_odd_turn" pX
 x36:GFn K "closed_table" pY
 x37:GFn K "derived_table" mC
 x38:GFn K "shared_table" pP
 x39:GFn K "joined_table" mw
 x40:GFn K "takes_to_itself" uD
 x41:GFn K "shortest_word" zP
 x42:GFn K "class_count" uS
 x43:GFn K "answer_new" sNew
 x44:GFn K "answer_give" uO
 x45:GFn K "answer_clear" uR
 x46:GFn K "answer_gens" zS
 x47:GFn K "answer_order" uH
 x48:GFn K "answer_chain" uU
 x49:GFn K "answer_orbits" pR
 x50:GFn K "answer_blocks" p9
 x51:GFn K "answer_kind" zR
 x52:GFn K "answer_has" sHas
 x53:GFn K "answer_nth" sNth
 x54:GFn K "answer_place" uG
 x55:GFn K "answer_coset" uQ
 x56:GFn K "answer_within" pL
 x57:GFn K "answer_word" uB
 x58:GFn K "answer_class" pZ
 x59:GFn K "answer_normal" mt
 x60:GFn K "answer_derived" kh
 x61:GFn K "answer_meet" uI
 x62:GFn K "answer_join" uL
 x63:GFn K "answer_mul" zQ
 x64:GFn K "answer_power" pQ
 x65:GFn K "answer_inverse" kg
 x66:GFn K "answer_cycles" mD
 x67:GFn K "put_and_tell" mo
 x68:GFn K "as_number" kj
 x69:GFn K "is_there" mx
 x70:GFn K "answer_call" gO
 x71:GFn K "answers" mF
 b_len:nsIn K mainGlobals "len"=some none
 b_range:nsIn K mainGlobals "range"=some none
 b_list:nsIn K mainGlobals "list"=some none
 b_enumerate:nsIn K mainGlobals "enumerate"=some none
 b_sorted:nsIn K mainGlobals "sorted"=some none
 b_min:nsIn K mainGlobals "min"=some none
 b_max:nsIn K mainGlobals "max"=some none
 b_all:nsIn K mainGlobals "all"=some none
 b_any:nsIn K mainGlobals "any"=some none
 b_set:nsIn K mainGlobals "set"=some none
 b_zip:nsIn K mainGlobals "zip"=some none
 b_tuple:nsIn K mainGlobals "tuple"=some none
 i_GROUP_COUNT:tV K "GROUP_COUNT" (4)
 i_THINGS_AT_FIRST:tV K "THINGS_AT_FIRST" (3)
 i_MOST_THINGS:tV K "MOST_THINGS" (9)
 i_MOST_GIVEN:tV K "MOST_GIVEN" (6)
 i_MOST_SEARCHED:tV K "MOST_SEARCHED" (1000)
 i_NO_TURN:tV K "NO_TURN" (-1)
 i_NOT_THERE:tV K "NOT_THERE" (-2)
 i_GROUP_IS_FULL:tV K "GROUP_IS_FULL" (-3)
 i_NONE_OF_THE_GROUP:tV K "NONE_OF_THE_GROUP" (-4)
 i_TOO_MANY:tV K "TOO_MANY" (-8)
 cls_:BW K
 calls_:sj K
section
variable {P:Program} {w:World} {K:Frag} {mg:Str→Option Value}
def bN:Nat→Str
 | 0=>"things" | 1=>"group" | 2=>"place" | _=>"any number"
theorem li (n:Nat):∀ (c:Nat) (z:Int),bY n (bN c) z=Tt.cY n c z:=by
 intro c z
 match c with
 | 0=>(show bY n "things" z=_);unfold bY Tt.cY;rw[if_pos rfl,if_pos rfl]
 | 1=>(show bY n "group" z=_);unfold bY Tt.cY;rw[if_neg (by decide +kernel),if_pos rfl,if_neg (by decide),if_pos rfl]
 | 2=>(show bY n "place" z=_);unfold bY Tt.cY;rw[if_neg (by decide +kernel),if_neg (by decide +kernel),if_pos rfl,if_neg (by decide),if_neg (by decide),if_pos rfl]
 | c+3=>(show bY n "any number" z=_);unfold bY Tt.cY;rw[if_neg (by decide +kernel),if_neg (by decide +kernel),if_neg (by decide +kernel),if_neg (by omega),if_neg (by omega),if_neg (by omega)]
theorem BO {n:Nat}{cs:List Nat}{ns:List Int}(h:∃ (i:Nat) (m:Str) (z:Int),(cs.map bN)[i]?=some m∧ns[i]?=some z∧bY n m z=false):Tt.Bad n cs ns:=by
 obtain ⟨i,m,z,h1,h2,h3⟩:=h
 rw[getElem?_map] at h1
 obtain ⟨c,hc,rfl⟩:=Oq h1
 exact ⟨i,c,z,hc,h2,by rw[←li];exact h3⟩
theorem AA {n:Nat}{cs:List Nat}{ns:List Int}(h:∀ (i:Nat) (m:Str) (z:Int),(cs.map bN)[i]?=some m→ns[i]?=some z→bY n m z=true):Tt.Fine n cs ns:=fun i c z h1 h2=>by
 rw[←li]
 exact h i _ z (by rw[getElem?_map,h1];rfl) h2
set_option maxHeartbeats 4000000 in
theorem BQ {h:Heap}{fa:Addr}(X:K.In h)(G:h.Ns mainGlobals mg)(hfa:mg "answers"=some (.ref fa))(Z:Frame K):
  ∃ fd:FuncData,(∀ (s:Shared) (us:List Value),us.length=(["calls"]:List Str).length→BindsTo s fd ⟨us,[]⟩ ((["calls"]:List Str).zip us))∧∀ base:Heap,K.In base→base.Ns mainGlobals mg→aZ P w K mg base CX0 9 fa fd ["calls"] (ir K):=by
 obtain ⟨f0,D0,F0,m0⟩:=Z.x0.has X G
 obtain ⟨f1,D1,F1,m1⟩:=Z.x1.has X G
 obtain ⟨f2,D2,F2,m2⟩:=Z.x2.has X G
 obtain ⟨f3,D3,F3,m3⟩:=Z.x3.has X G
 obtain ⟨f4,D4,F4,m4⟩:=Z.x4.has X G
 obtain ⟨f5,D5,F5,m5⟩:=Z.x5.has X G
 obtain ⟨f6,D6,F6,m6⟩:=Z.x6.has X G
 obtain ⟨f7,D7,F7,m7⟩:=Z.x7.has X G
 obtain ⟨f8,D8,F8,m8⟩:=Z.x8.has X G
 obtain ⟨f9,D9,F9,m9⟩:=Z.x9.has X G
 obtain ⟨f10,D10,F10,m10⟩:=Z.x10.has X G
 obtain ⟨f11,D11,F11,m11⟩:=Z.x11.has X G
 obtain ⟨f12,D12,F12,m12⟩:=Z.x12.has X G
 obtain ⟨f13,D13,F13,m13⟩:=Z.x13.has X G
 obtain ⟨f14,D14,F14,m14⟩:=Z.x14.has X G
 obtain ⟨f15,D15,F15,m15⟩:=Z.x15.has X G
 obtain ⟨f16,D16,F16,m16⟩:=Z.x16.has X G
 obtain ⟨f17,D17,F17,m17⟩:=Z.x17.has X G
 obtain ⟨f18,D18,F18,m18⟩:=Z.x18.has X G
 obtain ⟨f19,D19,F19,m19⟩:=Z.x19.has X G
 obtain ⟨f20,D20,F20,m20⟩:=Z.x20.has X G
 obtain ⟨f21,D21,F21,m21⟩:=Z.x21.has X G
 obtain ⟨f22,D22,F22,m22⟩:=Z.x22.has X G
 obtain ⟨f23,D23,F23,m23⟩:=Z.x23.has X G
 obtain ⟨f24,D24,F24,m24⟩:=Z.x24.has X G
 obtain ⟨f25,D25,F25,m25⟩:=Z.x25.has X G
 obtain ⟨f26,D26,F26,m26⟩:=Z.x26.has X G
 obtain ⟨f27,D27,F27,m27⟩:=Z.x27.has X G
 obtain ⟨f28,D28,F28,m28⟩:=Z.x28.has X G
 obtain ⟨f29,D29,F29,m29⟩:=Z.x29.has X G
 obtain ⟨f30,D30,F30,m30⟩:=Z.x30.has X G
 obtain ⟨f31,D31,F31,m31⟩:=Z.x31.has X G
 obtain ⟨f32,D32,F32,m32⟩:=Z.x32.has X G
 obtain ⟨f33,D33,F33,m33⟩:=Z.x33.has X G
 obtain ⟨f34,D34,F34,m34⟩:=Z.x34.has X G
 obtain ⟨f35,D35,F35,m35⟩:=Z.x35.has X G
 obtain ⟨f36,D36,F36,m36⟩:=Z.x36.has X G
 obtain ⟨f37,D37,F37,m37⟩:=Z.x37.has X G
 obtain ⟨f38,D38,F38,m38⟩:=Z.x38.has X G
 obtain ⟨f39,D39,F39,m39⟩:=Z.x39.has X G
 obtain ⟨f40,D40,F40,m40⟩:=Z.x40.has X G
 obtain ⟨f41,D41,F41,m41⟩:=Z.x41.has X G
 obtain ⟨f42,D42,F42,m42⟩:=Z.x42.has X G
 obtain ⟨f43,D43,F43,m43⟩:=Z.x43.has X G
 obtain ⟨f44,D44,F44,m44⟩:=Z.x44.has X G
 obtain ⟨f45,D45,F45,m45⟩:=Z.x45.has X G
 obtain ⟨f46,D46,F46,m46⟩:=Z.x46.has X G
 obtain ⟨f47,D47,F47,m47⟩:=Z.x47.has X G
 obtain ⟨f48,D48,F48,m48⟩:=Z.x48.has X G
 obtain ⟨f49,D49,F49,m49⟩:=Z.x49.has X G
 obtain ⟨f50,D50,F50,m50⟩:=Z.x50.has X G
 obtain ⟨f51,D51,F51,m51⟩:=Z.x51.has X G
 obtain ⟨f52,D52,F52,m52⟩:=Z.x52.has X G
 obtain ⟨f53,D53,F53,m53⟩:=Z.x53.has X G
 obtain ⟨f54,D54,F54,m54⟩:=Z.x54.has X G
 obtain ⟨f55,D55,F55,m55⟩:=Z.x55.has X G
 obtain ⟨f56,D56,F56,m56⟩:=Z.x56.has X G
 obtain ⟨f57,D57,F57,m57⟩:=Z.x57.has X G
 obtain ⟨f58,D58,F58,m58⟩:=Z.x58.has X G
 obtain ⟨f59,D59,F59,m59⟩:=Z.x59.has X G
 obtain ⟨f60,D60,F60,m60⟩:=Z.x60.has X G
 obtain ⟨f61,D61,F61,m61⟩:=Z.x61.has X G
 obtain ⟨f62,D62,F62,m62⟩:=Z.x62.has X G
 obtain ⟨f63,D63,F63,m63⟩:=Z.x63.has X G
 obtain ⟨f64,D64,F64,m64⟩:=Z.x64.has X G
 obtain ⟨f65,D65,F65,m65⟩:=Z.x65.has X G
 obtain ⟨f66,D66,F66,m66⟩:=Z.x66.has X G
 obtain ⟨f67,D67,F67,m67⟩:=Z.x67.has X G
 obtain ⟨f68,D68,F68,m68⟩:=Z.x68.has X G
 obtain ⟨f69,D69,F69,m69⟩:=Z.x69.has X G
 obtain ⟨f70,D70,F70,m70⟩:=Z.x70.has X G
 obtain ⟨f71,D71,F71,m71⟩:=Z.x71.has X G
 have B:Blt mg:=⟨mg_none_of X G Z.b_len,mg_none_of X G Z.b_range,mg_none_of X G Z.b_list,mg_none_of X G Z.b_enumerate,mg_none_of X G Z.b_sorted,mg_none_of X G Z.b_min,mg_none_of X G Z.b_max,mg_none_of X G Z.b_all,mg_none_of X G Z.b_any,mg_none_of X G Z.b_set,mg_none_of X G Z.b_zip,mg_none_of X G Z.b_tuple⟩
 obtain ⟨t_GROUP_COUNT,j_GROUP_COUNT⟩:=Z.i_GROUP_COUNT
 have i_GROUP_COUNT:=mg_of X G j_GROUP_COUNT
 obtain ⟨t_THINGS_AT_FIRST,j_THINGS_AT_FIRST⟩:=Z.i_THINGS_AT_FIRST
 have i_THINGS_AT_FIRST:=mg_of X G j_THINGS_AT_FIRST
 obtain ⟨t_MOST_THINGS,j_MOST_THINGS⟩:=Z.i_MOST_THINGS
 have i_MOST_THINGS:=mg_of X G j_MOST_THINGS
 obtain ⟨t_MOST_GIVEN,j_MOST_GIVEN⟩:=Z.i_MOST_GIVEN
 have i_MOST_GIVEN:=mg_of X G j_MOST_GIVEN
 obtain ⟨t_MOST_SEARCHED,j_MOST_SEARCHED⟩:=Z.i_MOST_SEARCHED
 have i_MOST_SEARCHED:=mg_of X G j_MOST_SEARCHED
 obtain ⟨t_NO_TURN,j_NO_TURN⟩:=Z.i_NO_TURN
 have i_NO_TURN:=mg_of X G j_NO_TURN
 obtain ⟨t_NOT_THERE,j_NOT_THERE⟩:=Z.i_NOT_THERE
 have i_NOT_THERE:=mg_of X G j_NOT_THERE
 obtain ⟨t_GROUP_IS_FULL,j_GROUP_IS_FULL⟩:=Z.i_GROUP_IS_FULL
 have i_GROUP_IS_FULL:=mg_of X G j_GROUP_IS_FULL
 obtain ⟨t_NONE_OF_THE_GROUP,j_NONE_OF_THE_GROUP⟩:=Z.i_NONE_OF_THE_GROUP
 have i_NONE_OF_THE_GROUP:=mg_of X G j_NONE_OF_THE_GROUP
 obtain ⟨t_TOO_MANY,j_TOO_MANY⟩:=Z.i_TOO_MANY
 have i_TOO_MANY:=mg_of X G j_TOO_MANY
 obtain ⟨CG,CB,n1,n2,c1,c2,c3,c4,c5,c6,c7,c8,c9,c10,g1,g2,g3,g4,g5,g6⟩:=Z.cls_
 have T:Txt K mg CG CB:=⟨c1,c4,c5,mg_of X G n1,c6,c9,c10,mg_of X G n2⟩
 obtain ⟨f_gi,oc_gi,od_gi,sl_gi,kV_gi,dc_gi,pm_gi,an_gi,cd_gi,ct_gi,x1_gi,x2_gi,x3_gi,x4_gi,x5_gi⟩:=g1
 have F_gi:=kO (st:=nP) x3_gi x4_gi x5_gi
 have B_gi:=F_gi.binds (ps:=["self","things"]) fun _ _ _ _ _ _ us hl=>match us,hl with|[_,_],_=>rfl
 obtain ⟨f_gg,oc_gg,od_gg,sl_gg,kV_gg,dc_gg,pm_gg,an_gg,cd_gg,ct_gg,x1_gg,x2_gg,x3_gg,x4_gg,x5_gg⟩:=g2
 have F_gg:=kO (st:=uP) x3_gg x4_gg x5_gg
 have B_gg:=F_gg.binds (ps:=["self","turn"]) fun _ _ _ _ _ _ us hl=>match us,hl with|[_,_],_=>rfl
 obtain ⟨f_bi,oc_bi,od_bi,sl_bi,kV_bi,dc_bi,pm_bi,an_bi,cd_bi,ct_bi,x1_bi,x2_bi,x3_bi,x4_bi,x5_bi⟩:=g3
 have F_bi:=kO (st:=nS) x3_bi x4_bi x5_bi
 have B_bi:=F_bi.binds (ps:=["self"]) fun _ _ _ _ _ _ us hl=>match us,hl with|[_],_=>rfl
 obtain ⟨f_bb,oc_bb,od_bb,sl_bb,kV_bb,dc_bb,pm_bb,an_bb,cd_bb,ct_bb,x1_bb,x2_bb,x3_bb,x4_bb,x5_bb⟩:=g4
 have F_bb:=kO (st:=nR) x3_bb x4_bb x5_bb
 have B_bb:=F_bb.binds (ps:=["self","things"]) fun _ _ _ _ _ _ us hl=>match us,hl with|[_,_],_=>rfl
 obtain ⟨f_be,oc_be,od_be,sl_be,kV_be,dc_be,pm_be,an_be,cd_be,ct_be,x1_be,x2_be,x3_be,x4_be,x5_be⟩:=g5
 have F_be:=kO (st:=nQ) x3_be x4_be x5_be
 have B_be:=F_be.binds (ps:=["self","number"]) fun _ _ _ _ _ _ us hl=>match us,hl with|[_,_],_=>rfl
 obtain ⟨f_bp,oc_bp,od_bp,sl_bp,kV_bp,dc_bp,pm_bp,an_bp,cd_bp,ct_bp,x1_bp,x2_bp,x3_bp,x4_bp,x5_bp⟩:=g6
 have F_bp:=kO (st:=A9) x3_bp x4_bp x5_bp
 have B_bp:=F_bp.binds (ps:=["self","number","table"]) fun _ _ _ _ _ _ us hl=>match us,hl with|[_,_,_],_=>rfl
 have MG:Mk K CG f_gi:=⟨c2,x1_gi,x2_gi,c3⟩
 have MB:Mk K CB f_bi:=⟨c7,x1_bi,x2_bi,c8⟩
 have mGive:t7 K CG "give" f_gg:=⟨x1_gg,x2_gg,x5_gg⟩
 have mBegin:t7 K CB "begin" f_bb:=⟨x1_bb,x2_bb,x5_bb⟩
 have mEmpty:t7 K CB "empty" f_be:=⟨x1_be,x2_be,x5_be⟩
 have mPut:t7 K CB "put" f_bp:=⟨x1_bp,x2_bp,x5_bp⟩
 obtain ⟨ca,a0,a1,a2,a3,a4,a5,a6,a7,a8,a9,a10,a11,a12,a13,a14,a15,a16,a17,a18,a19,a20,a21,a22,a23,nC,hC,e0,e1,e2,e3,e4,e5,e6,e7,e8,e9,e10,e11,e12,e13,e14,e15,e16,e17,e18,e19,e20,e21,e22,e23⟩:=Z.calls_
 obtain ⟨b0,q0,u0,v0⟩:=e0.ent
 have s0:f43=q0:=Value.ref.inj (Oi (m43.symm.trans (mg_of X G u0)))
 subst s0
 obtain ⟨b1,q1,u1,v1⟩:=e1.ent
 have s1:f44=q1:=Value.ref.inj (Oi (m44.symm.trans (mg_of X G u1)))
 subst s1
 obtain ⟨b2,q2,u2,v2⟩:=e2.ent
 have s2:f45=q2:=Value.ref.inj (Oi (m45.symm.trans (mg_of X G u2)))
 subst s2
 obtain ⟨b3,q3,u3,v3⟩:=e3.ent
 have s3:f46=q3:=Value.ref.inj (Oi (m46.symm.trans (mg_of X G u3)))
 subst s3
 obtain ⟨b4,q4,u4,v4⟩:=e4.ent
 have s4:f47=q4:=Value.ref.inj (Oi (m47.symm.trans (mg_of X G u4)))
 subst s4
 obtain ⟨b5,q5,u5,v5⟩:=e5.ent
 have s5:f48=q5:=Value.ref.inj (Oi (m48.symm.trans (mg_of X G u5)))
 subst s5
 obtain ⟨b6,q6,u6,v6⟩:=e6.ent
 have s6:f49=q6:=Value.ref.inj (Oi (m49.symm.trans (mg_of X G u6)))
 subst s6
 obtain ⟨b7,q7,u7,v7⟩:=e7.ent
 have s7:f50=q7:=Value.ref.inj (Oi (m50.symm.trans (mg_of X G u7)))
 subst s7
 obtain ⟨b8,q8,u8,v8⟩:=e8.ent
 have s8:f51=q8:=Value.ref.inj (Oi (m51.symm.trans (mg_of X G u8)))
 subst s8
 obtain ⟨b9,q9,u9,v9⟩:=e9.ent
 have s9:f52=q9:=Value.ref.inj (Oi (m52.symm.trans (mg_of X G u9)))
 subst s9
 obtain ⟨b10,q10,u10,v10⟩:=e10.ent
 have s10:f53=q10:=Value.ref.inj (Oi (m53.symm.trans (mg_of X G u10)))
 subst s10
 obtain ⟨b11,q11,u11,v11⟩:=e11.ent
 have s11:f54=q11:=Value.ref.inj (Oi (m54.symm.trans (mg_of X G u11)))
 subst s11
 obtain ⟨b12,q12,u12,v12⟩:=e12.ent
 have s12:f55=q12:=Value.ref.inj (Oi (m55.symm.trans (mg_of X G u12)))
 subst s12
 obtain ⟨b13,q13,u13,v13⟩:=e13.ent
 have s13:f56=q13:=Value.ref.inj (Oi (m56.symm.trans (mg_of X G u13)))
 subst s13
 obtain ⟨b14,q14,u14,v14⟩:=e14.ent
 have s14:f57=q14:=Value.ref.inj (Oi (m57.symm.trans (mg_of X G u14)))
 subst s14
 obtain ⟨b15,q15,u15,v15⟩:=e15.ent
 have s15:f58=q15:=Value.ref.inj (Oi (m58.symm.trans (mg_of X G u15)))
 subst s15
 obtain ⟨b16,q16,u16,v16⟩:=e16.ent
 have s16:f59=q16:=Value.ref.inj (Oi (m59.symm.trans (mg_of X G u16)))
 subst s16
 obtain ⟨b17,q17,u17,v17⟩:=e17.ent
 have s17:f60=q17:=Value.ref.inj (Oi (m60.symm.trans (mg_of X G u17)))
 subst s17
 obtain ⟨b18,q18,u18,v18⟩:=e18.ent
 have s18:f61=q18:=Value.ref.inj (Oi (m61.symm.trans (mg_of X G u18)))
 subst s18
 obtain ⟨b19,q19,u19,v19⟩:=e19.ent
 have s19:f62=q19:=Value.ref.inj (Oi (m62.symm.trans (mg_of X G u19)))
 subst s19
 obtain ⟨b20,q20,u20,v20⟩:=e20.ent
 have s20:f63=q20:=Value.ref.inj (Oi (m63.symm.trans (mg_of X G u20)))
 subst s20
 obtain ⟨b21,q21,u21,v21⟩:=e21.ent
 have s21:f64=q21:=Value.ref.inj (Oi (m64.symm.trans (mg_of X G u21)))
 subst s21
 obtain ⟨b22,q22,u22,v22⟩:=e22.ent
 have s22:f65=q22:=Value.ref.inj (Oi (m65.symm.trans (mg_of X G u22)))
 subst s22
 obtain ⟨b23,q23,u23,v23⟩:=e23.ent
 have s23:f66=q23:=Value.ref.inj (Oi (m66.symm.trans (mg_of X G u23)))
 subst s23
 have efa:fa=f71:=Value.ref.inj (Oi (hfa.symm.trans m71))
 subst efa
 refine ⟨D71,fun s us hu=>?_,fun base _ _=>?_⟩
 ·obtain ⟨oc,od,kV,doc,pm,an,cdv,ct,osl,rfl,_,_⟩:=F71.ex
  exact match us,hu with|[_],_=>.of_eq rfl
 have C2:=aN P w base F2 m2 (sP F2)
 have C1:=aN P w base F1 m1 (xS F1 B)
 have C0:=aN P w base F0 m0 (vM F0 B)
 have C3:=aN P w base F3 m3 (sW F3 B C1)
 have C7:=aN P w base F7 m7 (mQ F7 B)
 have C8:=aN P w base F8 m8 (sV F8 B C7)
 have C4:=aN P w base F4 m4 (xU F4 B C1 C2)
 have C5:=aN P w base F5 m5 (yo F5 C3 C2)
 have C6:=aN P w base F6 m6 (Al F6 C3 C5 C2)
 have C9:=aN P w base F9 m9 (om F9)
 have C10:=aN P w base F10 m10 (qw F10 B C9)
 have C11:=aN P w base F11 m11 (yc F11 B C10)
 have C12:=aN P w base F12 m12 (xQ F12 C8 C2)
 have C13:=aN P w base F13 m13 (yp F13 B)
 have C14:=aN P w base F14 m14 (vL F14 B)
 have C15:=aN P w base F15 m15 (qz F15 B)
 have C16:=aN P w base F16 m16 (vJ F16 B C13 C14)
 have C18:=aN P w base F18 m18 (tj F18 B C14)
 have C17:=aN P w base F17 m17 (vR F17 C13 C14 C18)
 have C19:=aN P w base F19 m19 (vF F19 B C1)
 have C20:=aN P w base F20 m20 (qo F20 B C2 C3)
 have C21:=aN P w base F21 m21 (vK F21 B)
 have C22:=aN P w base F22 m22 (tu F22 B C2 C20 C8 C7 C21)
 have C23:=aN P w base F23 m23 (yd F23 B)
 have C24:=aN P w base F24 m24 (mR F24 B C23)
 have C25:=aN P w base F25 m25 (oj F25 C24)
 have C26:=aN P w base F26 m26 (xY F26 C20 C8)
 have C27:=aN P w base F27 m27 (vE F27 B C1 C25 C23 C2)
 have C28:=aN P w base F28 m28 (qr F28 B C1 C23 C2)
 have C29:=aN P w base F29 m29 (xZ F29 B C23 C2)
 have C30:=aN P w base F30 m30 (qy F30 B C1 C23 C2)
 have C31:=aN P w base F31 m31 (Bq F31 B C23 C16 C29)
 have C32:=aN P w base F32 m32 (qp F32 C16 C15)
 have C33:=aN P w base F33 m33 (qt F33 B C32 C17 C15)
 have C34:=aN P w base F34 m34 (sM F34 C2)
 have C35:=aN P w base F35 m35 (vN F35 B C11)
 have C36:=aN P w base F36 m36 (vO F36 B C19 C26 C22 C5)
 have C37:=aN P w base F37 m37 (sY F37 C6 C36)
 have C38:=aN P w base F38 m38 (vG F38 B C19 C30 C26 C22)
 have C39:=aN P w base F39 m39 (sR F39 B C22)
 have C40:=aN P w base F40 m40 (xR F40 B C26 C5)
 have C41:=aN P w base F41 m41 (Ag F41 B C1 C2)
 have C42:=aN P w base F42 m42 (yk F42 B C5)
 have GI:=yg (P:=P) (w:=w) (base:=base) F_gi T C19
 have GG:=Aj (P:=P) (w:=w) (base:=base) F_gg T C22
 have GB:=ym (P:=P) (w:=w) (base:=base) F_bb B T i_GROUP_COUNT MG GI B_gi
 have GBI:=yn (P:=P) (w:=w) (base:=base) F_bi T i_THINGS_AT_FIRST mBegin GB B_bb
 have GE:=yh (P:=P) (w:=w) (base:=base) F_be T MG GI B_gi
 have GP:=Bp (P:=P) (w:=w) (base:=base) F_bp T MG GI B_gi C31
 have C67:=aN P w base F67 m67 (sO F67 B T mPut GP B_bp C25)
 have C68:=aN P w base F68 m68 (qx F68)
 have C69:=aN P w base F69 m69 (sU F69 T i_MOST_THINGS i_GROUP_COUNT (CG:=CG) (CB:=CB))
 let es:List Ent:=[⟨a0,b0,(Tt.gS 0).map bN,Tt.iI 0,f43⟩,⟨a1,b1,(Tt.gS 1).map bN,Tt.iI 1,f44⟩,⟨a2,b2,(Tt.gS 2).map bN,Tt.iI 2,f45⟩,⟨a3,b3,(Tt.gS 3).map bN,Tt.iI 3,f46⟩,⟨a4,b4,(Tt.gS 4).map bN,Tt.iI 4,f47⟩,⟨a5,b5,(Tt.gS 5).map bN,Tt.iI 5,f48⟩,⟨a6,b6,(Tt.gS 6).map bN,Tt.iI 6,f49⟩,⟨a7,b7,(Tt.gS 7).map bN,Tt.iI 7,f50⟩,⟨a8,b8,(Tt.gS 8).map bN,Tt.iI 8,f51⟩,⟨a9,b9,(Tt.gS 9).map bN,Tt.iI 9,f52⟩,⟨a10,b10,(Tt.gS 10).map bN,Tt.iI 10,f53⟩,⟨a11,b11,(Tt.gS 11).map bN,Tt.iI 11,f54⟩,⟨a12,b12,(Tt.gS 12).map bN,Tt.iI 12,f55⟩,⟨a13,b13,(Tt.gS 13).map bN,Tt.iI 13,f56⟩,⟨a14,b14,(Tt.gS 14).map bN,Tt.iI 14,f57⟩,⟨a15,b15,(Tt.gS 15).map bN,Tt.iI 15,f58⟩,⟨a16,b16,(Tt.gS 16).map bN,Tt.iI 16,f59⟩,⟨a17,b17,(Tt.gS 17).map bN,Tt.iI 17,f60⟩,⟨a18,b18,(Tt.gS 18).map bN,Tt.iI 18,f61⟩,⟨a19,b19,(Tt.gS 19).map bN,Tt.iI 19,f62⟩,⟨a20,b20,(Tt.gS 20).map bN,Tt.iI 20,f63⟩,⟨a21,b21,(Tt.gS 21).map bN,Tt.iI 21,f64⟩,⟨a22,b22,(Tt.gS 22).map bN,Tt.iI 22,f65⟩,⟨a23,b23,(Tt.gS 23).map bN,Tt.iI 23,f66⟩]
 have hE:∀ (p:Nat) (e:Ent),es[p]?=some e→tW K e∧∃ fd,aZ P w K mg base CX0 7 e.fn fd ["bench","numbers","rows"] (iq K CG CB p e.ms e.m)∧keepIn K (.ref e.fn)=true∧d4 K fd ["bench","numbers","rows"] []:=by
  intro p e hp
  have hpl:p<24:=(Gq hp).1
  rcases Tt.np hpl with rfl|rfl|rfl|rfl|rfl|rfl|rfl|rfl|rfl|rfl|rfl|rfl|rfl|rfl|rfl|rfl|rfl|rfl|rfl|rfl|rfl|rfl|rfl|rfl
  ·cases hp;exact cj v0 F43 (Bs F43 T mBegin GB B_bb)
  ·cases hp;exact cj v1 F44 (ye F44 B T i_MOST_GIVEN i_GROUP_IS_FULL mGive GG B_gg)
  ·cases hp;exact cj v2 F45 (yj F45 T mEmpty GE B_be)
  ·cases hp;exact cj v3 F46 (Ak F46 B T)
  ·cases hp;exact cj v4 F47 ((xW F47 T C25).mono (show 4≤7 by decide))
  ·cases hp;exact cj v5 F48 (yl F48 T C24)
  ·cases hp;exact cj v6 F49 (vI F49 T C16)
  ·cases hp;exact cj v7 F50 (vQ F50 T C17)
  ·cases hp;exact cj v8 F51 (Ai F51 T C68 C32 C33 C34 C35)
  ·cases hp;exact cj v9 F52 (Bu F52 T C68 C26)
  ·cases hp;exact cj v10 F53 (Br F53 T i_NONE_OF_THE_GROUP C25 C27)
  ·cases hp;exact cj v11 F54 (xV F54 T i_NONE_OF_THE_GROUP C26 C28)
  ·cases hp;exact cj v12 F55 (yi F55 T C29)
  ·cases hp;exact cj v13 F56 (vD F56 B T C68 C26 C40)
  ·cases hp;exact cj v14 F57 (xP F57 B T i_NONE_OF_THE_GROUP i_TOO_MANY i_MOST_SEARCHED C26 C25 C41)
  ·cases hp;exact cj v15 F58 (vP F58 T i_TOO_MANY i_MOST_SEARCHED C42)
  ·cases hp;exact cj v16 F59 (sQ F59 T C36 C67)
  ·cases hp;exact cj v17 F60 (qv F60 T C37 C67)
  ·cases hp;exact cj v18 F61 (xX F61 T i_TOO_MANY i_MOST_SEARCHED C25 C38 C67)
  ·cases hp;exact cj v19 F62 (yb F62 T C39 C67)
  ·cases hp;exact cj v20 F63 (Ah F63 C2)
  ·cases hp;exact cj v21 F64 (vH F64 C4)
  ·cases hp;exact cj v22 F65 (qu F65 C3)
  ·cases hp;exact cj v23 F66 (sZ F66 B C68 C12 C11 C10)
 have hes:∀ (p:Nat) (e:Ent),es[p]?=some e→p<24∧e.ms=(Tt.gS p).map bN∧e.m=Tt.iI p:=by
  intro p e hp
  have hpl:p<24:=(Gq hp).1
  refine ⟨hpl,?_⟩
  rcases Tt.np hpl with rfl|rfl|rfl|rfl|rfl|rfl|rfl|rfl|rfl|rfl|rfl|rfl|rfl|rfl|rfl|rfl|rfl|rfl|rfl|rfl|rfl|rfl|rfl|rfl
  all_goals (cases hp;exact ⟨rfl,rfl⟩)
 have hT:lO K ca es:=by
  refine ⟨fun H=>hC.sq ?_ (by show 24≤100;decide) H,fun e he=>?_,fun p nk hp=>?_⟩
  ·exact .cons rfl (.cons rfl (.cons rfl (.cons rfl (.cons rfl (.cons rfl (.cons rfl (.cons rfl (.cons rfl (.cons rfl (.cons rfl (.cons rfl (.cons rfl (.cons rfl (.cons rfl (.cons rfl (.cons rfl (.cons rfl (.cons rfl (.cons rfl (.cons rfl (.cons rfl (.cons rfl (.cons rfl (.nil))))))))))))))))))))))))
  ·obtain ⟨p,hp⟩:=getElem?_of_mem he
   exact (hE p e hp).1
  ·obtain ⟨h1,h2,h3⟩:=Tt.xx hp
   have hlt:p<es.length:=h1
   refine ⟨es[p],getElem?_eq_getElem hlt,?_⟩
   obtain ⟨_,e2,e3⟩:=hes p es[p] (getElem?_eq_getElem hlt)
   rw[e2,e3,length_map]
   exact ⟨h2,h3⟩
 have CA:=aN P w base F70 m70 (mS (es:=es) F70 B T i_NOT_THERE i_NO_TURN C69 C0 hE
  (fun p e st ns rows hp _ _ hn hr ha hb=>by
   obtain ⟨h1,h2,h3⟩:=hes p e hp
   rw[h2] at hn hb
   rw[h3] at hr
   exact Tt.zW h1 (by rw[hn,length_map]) hr ha (BO hb))
  (fun p e st ns rows hp _ _ hn hr ha hf hb=>by
   obtain ⟨h1,h2,h3⟩:=hes p e hp
   rw[h2] at hn hf
   rw[h3] at hr
   exact Tt.zX h1 (by rw[hn,length_map]) hr (AA hf) hb)
  (fun p ns rows ha=>Tt.sH ha))
 exact tq F71 B T MB GBI B_bi (mg_of X G nC) hT CA
end
end Bt
namespace PySem.W.Fast
def tw12624350674833422300:=0
def tw18138388757277304447:=0
def tw12561728219237182144:=0
def tw12574877066652707565:=0
def tw17708282090478444115:=0
def tw3591800079823818802:=0
def tw9530672047011450072:=0
def tw14389243894204024473:=0
def tw17623618468725309549:=0
def tw6960771346460175242:=0
def tw3395617783143598305:=0
def tw6242103893245987734:=0
def tw7839289650320805474:=0
def tw11909978968559707101:=0
def tw7161423277058107389:=0
def tw14654654177194479856:=0
def tw16777756357981156234:=0
def tw13046318267011259251:=0
def tw3595020926955257191:=0
def tw15683087347497016388:=0
def tw17072958095264300666:=0
def tw12074754480581785182:=0
def tw9157981315693770627:=0
def tw16316124414688717101:=0
def tw957898196023035509:=0
def tw6104544853875390442:=0
def tw9601047771309603227:=0
def tw11492641445167505436:=0
def tw15546215481603915693:=0
def tw8292184405136910978:=0
def tw17851733387311622122:=0
def tw17394114741951909014:=0
def tw13874327827116437231:=0
def tw3397639126454180628:=0
def tw17790304843483484797:=0
def tw9100362517845043414:=0
def tw14541953074549403421:=0
def tw486773773282151885:=0
def tw1420183060520549842:=0
def tw6512815620295654650:=0
def tw14746412401882795845:=0
def tw14460912376536482075:=0
def tw6540403445457206531:=0
def tw2087811686107585855:=0
def tw11305090100213460624:=0
def tw14567985595807587685:=0
def tw7711035099462478535:=0
def tw13479754746185011823:=0
def tw1741199464254440393:=0
def tw69845760528763902:=0
def tw17328712241114173230:=0
def tw1358700369990164099:=0
def tw5834824527700044375:=0
def tw9475210678474204442:=0
def tw10579819465921115548:=0
def tw15911105292612273473:=0
def tw11411055403298039601:=0
def tw17405862680051168627:=0
def tw6487158685810386959:=0
def tw2038258802282462752:=0
def tw589537078679402961:=0
def tw18428347797508112380:=0
def tw2187316713526552852:=0
def tw13546326187962751396:=0
def tw6164947500984656349:=0
def tw7666147090499262629:=0
def tw15655952210958949224:=0
def tw13714743101185896935:=0
def tw4843974406392749645:=0
def tw6932044878128864663:=0
def tw12952150333156298980:=0
def tw1617512224758751156:=0
def tw16548296804149134063:=0
def tw15420555148536841823:=0
def tw7745930025949313617:=0
def tw3458641455063130265:=0
def tw871696539058381947:=0
def tw12040168430828661232:=0
def tw14972113340110851421:=0
def tw4616066990009002372:=0
def tw10294746675567901086:=0
def tw10040715270872701476:=0
def tw10194456371841367160:=0
def tw6184105503053782212:=0
def tw1853200810239447559:=0
def tw15662332047164770817:=0
def tw17888766951803820057:=0
def tw116414119940098034:=0
def tw8031701031713999708:=0
def tw10478097391633118913:=0
def tw9987975302736143611:=0
def tw498270325705399561:=0
def tw17084730871053403742:=0
def tw1549226865916949549:=0
def tw5449332986587982353:=0
def tw10219722226894112759:=0
def tw12685818134657184935:=0
def tw8582896685605668242:=0
def tw14862958722906078413:=0
def tw5426910621481067708:=0
def tw13787481393248798833:=0
def tw15675417916672263573:=0
def tw66383196561810282:=0
def tw6967842809416913290:=0
def tw6335770623923047904:=0
def tw7397075850977421715:=0
def tw2896968380511208167:=0
def tw6040353093736108276:=0
def tw18170067987842817633:=0
def tw6503726509908612426:=0
def tw11123484888923905567:=0
def tw11452147546096416742:=0
def tw17701271003333291241:=0
def tw2405692488983569580:=0
def tw5911654212389351502:=0
def tw953237362051693226:=0
def tw14837471676759239299:=0
def tw4564885468435464972:=0
def tw10102667607571890652:=0
def tw1545193753856829904:=0
def tw7803570070634807635:=0
def tw7841758770514303715:=0
def tw1674526148918032788:=0
def tw7320764979452752910:=0
def tw3516612833342406474:=0
def tw12625936815605776606:=0
def tw16298267244892980687:=0
def tw3083558046195733460:=0
def tw11615703917198785114:=0
def tw14013422895047193175:=0
def tw8220331310574680855:=0
def tw17048701029083617368:=0
def tw9926790668566080117:=0
def tw4598270151263894968:=0
def tw12773068254729246870:=0
def tw9500124529160176755:=0
def tw18401673335601908623:=0
def tw15238786467194920723:=0
def tw16120043688308663671:=0
def tw18042097965156873005:=0
end PySem.W.Fast
open PySem PySem.W PyProof.Rows
set_option maxRecDepth 100000 in
set_option maxHeartbeats 0 in
theorem PySem.Challenge.cw_benchturns_s01_answers_holds : PySem.Challenge.rw_benchturns_s01_answers.Holds := by
 w_on;k_headS;(case hw=>exact ⟨[.list [.int 4,.int 0]],by decide +kernel,by decide +kernel⟩)
 k_fillS
 refine L2.so (r:=PySem.Challenge.rw_benchturns_s01_answers) (k:=9) (CX:=L2.CX0) (ps:=["calls"]) (sp:=Bt.ir) (by decide +kernel) rfl rfl ⟨rfl,by decide,by decide⟩ (fun w h Y=>PySem.W.kIn_of Y) ?F ?S (fun _ _ _ _ z=>z)
 case F=>
  intro w mg fa h Y KX G hmg
  refine Bt.BQ KX G hmg ?Z
  constructor
  iterate 72 (refine' Bt.GFn.mk ?a ?l ?c ?k;(case a=>k_is);(case l=>k_is);(case c=>k_is);(case k=>k_is))
  iterate 12 k_is
  iterate 10 (refine' Bt.tV.mk ?a;(case a=>k_is))
  case cls_=>
   refine' Bt.BW.mk ?n1 ?n2 ⟨?p1,?p2,?p3,?p4⟩ ?mk1 ?kp1 ?na1 ?na2 ⟨?q1,?q2,?q3,?q4⟩ ?mk2 ?kp2 ?na3 ?na4 ?g1 ?g2 ?g3 ?g4 ?g5 ?g6
   (case n1=>k_is);(case n2=>k_is)
   (case p1=>k_is);(case p2=>k_is);(case p3=>k_is);(case p4=>k_is);(case mk1=>k_is);(case kp1=>k_is);(case na1=>unfold L2.cE;k_is);(case na2=>unfold L2.cE;k_is)
   (case q1=>k_is);(case q2=>k_is);(case q3=>k_is);(case q4=>k_is);(case mk2=>k_is);(case kp2=>k_is);(case na3=>unfold L2.cE;k_is);(case na4=>unfold L2.cE;k_is)
   iterate 6 (refine' Bt.ie.mk ?a ?i ?l ?c ?k;(case a=>k_is);(case i=>k_is);(case l=>k_is);(case c=>k_is);(case k=>k_is))
  case calls_=>
   refine' Bt.sj.mk ?n ?t ?e0 ?e1 ?e2 ?e3 ?e4 ?e5 ?e6 ?e7 ?e8 ?e9 ?e10 ?e11 ?e12 ?e13 ?e14 ?e15 ?e16 ?e17 ?e18 ?e19 ?e20 ?e21 ?e22 ?e23
   (case n=>k_is);(case t=>k_is)
   refine' Bt.bz.mk ?a ?t ?b;(case a=>k_is);(case t=>k_is);(case b=>k_is)
   refine' Bt.bz.mk ?a ?t ?b;(case a=>k_is);(case t=>k_is);(case b=>k_is)
   refine' Bt.bz.mk ?a ?t ?b;(case a=>k_is);(case t=>k_is);(case b=>k_is)
   refine' Bt.bz.mk ?a ?t ?b;(case a=>k_is);(case t=>k_is);(case b=>k_is)
   refine' Bt.bz.mk ?a ?t ?b;(case a=>k_is);(case t=>k_is);(case b=>k_is)
   refine' Bt.bz.mk ?a ?t ?b;(case a=>k_is);(case t=>k_is);(case b=>k_is)
   refine' Bt.bz.mk ?a ?t ?b;(case a=>k_is);(case t=>k_is);(case b=>k_is)
   refine' Bt.gy.mk ?a ?t ?b;(case a=>k_is);(case t=>k_is);(case b=>k_is)
   refine' Bt.bz.mk ?a ?t ?b;(case a=>k_is);(case t=>k_is);(case b=>k_is)
   refine' Bt.bz.mk ?a ?t ?b;(case a=>k_is);(case t=>k_is);(case b=>k_is)
   refine' Bt.jh.mk ?a ?t ?b;(case a=>k_is);(case t=>k_is);(case b=>k_is)
   refine' Bt.bz.mk ?a ?t ?b;(case a=>k_is);(case t=>k_is);(case b=>k_is)
   refine' Bt.bz.mk ?a ?t ?b;(case a=>k_is);(case t=>k_is);(case b=>k_is)
   refine' Bt.jh.mk ?a ?t ?b;(case a=>k_is);(case t=>k_is);(case b=>k_is)
   refine' Bt.bz.mk ?a ?t ?b;(case a=>k_is);(case t=>k_is);(case b=>k_is)
   refine' Bt.bz.mk ?a ?t ?b;(case a=>k_is);(case t=>k_is);(case b=>k_is)
   refine' Bt.gy.mk ?a ?t ?b;(case a=>k_is);(case t=>k_is);(case b=>k_is)
   refine' Bt.jh.mk ?a ?t ?b;(case a=>k_is);(case t=>k_is);(case b=>k_is)
   refine' Bt.gy.mk ?a ?t ?b;(case a=>k_is);(case t=>k_is);(case b=>k_is)
   refine' Bt.gy.mk ?a ?t ?b;(case a=>k_is);(case t=>k_is);(case b=>k_is)
   refine' Bt.ji.mk ?a ?t ?b;(case a=>k_is);(case t=>k_is);(case b=>k_is)
   refine' Bt.bz.mk ?a ?t ?b;(case a=>k_is);(case t=>k_is);(case b=>k_is)
   refine' Bt.ji.mk ?a ?t ?b;(case a=>k_is);(case t=>k_is);(case b=>k_is)
   refine' Bt.ji.mk ?a ?t ?b;(case a=>k_is);(case t=>k_is);(case b=>k_is)
 case S=>
  intro K H xs a hO hwi hask hx
  cases hx with
  | cons h1 h2=>
   cases h2
   cases h1 with
   | lst hs ha=>
    have e:=L2.wx a.1 _ ha
    subst e
    have q:((Codec.inLen 0 31000 a.1&&a.1.all (Codec.inInt 0 4294967295))&&true)=true:=hwi
    rw[Bool.and_eq_true,Bool.and_eq_true] at q
    have hA:∀ ad,L2.SqL K H ad (a.1.map L2.V.int)→Bt.iP K H ad (a.1.map L2.V.int):=by
     intro ad hs
     rcases hs with (h|⟨ob,h⟩)|h
     ·rcases hO ad with z|⟨ob,u,z⟩
      ·rw[h] at z;cases z
      ·rw[h] at z;cases z
     ·exact .inl ⟨ob,h⟩
     ·exact .inr (.inr h)
    exact ⟨_,a.1,rfl,hA _ hs,(Codec.inNat_iff.mp q.1.1).2,hask,fun H' p hp=>.lst (L2.SqL.of hp) (L2.wL _)⟩
