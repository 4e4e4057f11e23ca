import PyProof.Rows.All
import Wide.All
import OpenK.AllK
import Wide.FinOn
import PyProof.EqAt
import PyProof.EqKinds
import PyProof.TupleCall
import KE.BitLaws
import KE.OsGo
import Open.SpecLaws
import PySem.Challenge.RW_callsetup_s01_answers
set_option Elab.async false
set_option linter.all false
set_option maxRecDepth 100000
set_option maxHeartbeats 4000000
def PySem.W.Fast.tw11684184657292649365:=0
def PySem.W.Fast.tw11471731333960867527:=0
def PySem.W.Fast.tw7769194550994352949:=0
def PySem.W.Fast.tw14675830157859901886:=0
def PySem.W.Fast.tw13316444639981023720:=0
def PySem.W.Fast.tw12679235484760953708:=0
def PySem.W.Fast.tw11632704864493251687:=0
def PySem.W.Fast.tw8453924952146847132:=0
def PySem.W.Fast.tw5054334533606047344:=0
def PySem.W.Fast.tw9326219876145586674:=0
def PySem.W.Fast.tw7722868024481234641:=0
def PySem.W.Fast.tw16808604088281303173:=0
def PySem.W.Fast.tw505871983569647923:=0
def PySem.W.Fast.tw9549606958823309070:=0
def PySem.W.Fast.tw5248591545852895293:=0
def PySem.W.Fast.tw16223894899938889219:=0
def PySem.W.Fast.tw12160863938860792234:=0
def PySem.W.Fast.tw12558089085366418280:=0
def PySem.W.Fast.tw4505823347192762797:=0
def PySem.W.Fast.tw15078106458050078631:=0
def PySem.W.Fast.tw6606805815150810933:=0
def PySem.W.Fast.tw6630226348101011831:=0
def PySem.W.Fast.tw11381858716393824476:=0
def PySem.W.Fast.tw6752709616661186810:=0
def PySem.W.Fast.tw14437632014544638530:=0
def PySem.W.Fast.tw16251543164833301507:=0
def PySem.W.Fast.tw5908196540618384511:=0
def PySem.W.Fast.tw10753682472579528981:=0
def PySem.W.Fast.tw5512273551912712274:=0
def PySem.W.Fast.tw4603236052702906494:=0
def PySem.W.Fast.tw17484304063859783565:=0
def PySem.W.Fast.tw11451907218006988270:=0
def PySem.W.Fast.tw10708469268137649229:=0
def PySem.W.Fast.tw6200573785767753427:=0
def PySem.W.Fast.tw13051034438406578896:=0
def PySem.W.Fast.tw5061946422759285847:=0
def PySem.W.Fast.tw9444166596736524393:=0
def PySem.W.Fast.tw33715480096666636:=0
def PySem.W.Fast.tw13530104447672450818:=0
def PySem.W.Fast.tw14514869602091210518:=0
def PySem.W.Fast.tw12043452843421201872:=0
def PySem.W.Fast.tw11393660787932307516:=0
def PySem.W.Fast.tw13240718590526306960:=0
def PySem.W.Fast.tw3617287141230465700:=0
def PySem.W.Fast.tw12056116950375462104:=0
def PySem.W.Fast.tw13053198656867877221:=0
def PySem.W.Fast.tw5866564315337376992:=0
def PySem.W.Fast.tw1368761916020629615:=0
def PySem.W.Fast.tw18156133429554458664:=0
def PySem.W.Fast.tw8094905863534940882:=0
def PySem.W.Fast.tw7081983463025703717:=0
def PySem.W.Fast.tw12181407073881300988:=0
def PySem.W.Fast.tw968889158252253185:=0
def PySem.W.Fast.tw17920067104691496736:=0
def PySem.W.Fast.tw5775335992882780281:=0
def PySem.W.Fast.tw17605195796115528575:=0
def PySem.W.Fast.tw5455422234270614990:=0
def PySem.W.Fast.tw12469168462704678345:=0
def PySem.W.Fast.tw12277633378965349675:=0
def PySem.W.Fast.tw17052287354373318132:=0
def PySem.W.Fast.tw7151078375319381616:=0
def PySem.W.Fast.tw10718648831833269324:=0
def PySem.W.Fast.tw10967027082466969525:=0
def PySem.W.Fast.tw4144856224596794419:=0
def PySem.W.Fast.tw17113176838977043838:=0
def PySem.W.Fast.tw5217060753643591977:=0
def PySem.W.Fast.tw11501719411030609932:=0
def PySem.W.Fast.tw12451373068940551564:=0
def PySem.W.Fast.tw16641516144927047185:=0
def PySem.W.Fast.tw17449865096839041028:=0
def PySem.W.Fast.tw17921359409203393170:=0
def PySem.W.Fast.tw9270210417440000348:=0
def PySem.W.Fast.tw17489287034945404392:=0
def PySem.W.Fast.tw4856562366125154317:=0
def PySem.W.Fast.tw14496000321316494101:=0
def PySem.W.Fast.tw10935868168552117171:=0
def PySem.W.Fast.tw13730108898569010843:=0
def PySem.W.Fast.tw10448262742852734309:=0
def PySem.W.Fast.tw5460376918445469068:=0
def PySem.W.Fast.tw4284731940641900884:=0
def PySem.W.Fast.tw9751567251763594345:=0
def PySem.W.Fast.tw16821033851598791301:=0
def PySem.W.Fast.tw15873189343537042949:=0
def PySem.W.Fast.tw3027980023534007538:=0
def PySem.W.Fast.tw8244202343575747820:=0
def PySem.W.Fast.tw7595344116726051571:=0
def PySem.W.Fast.tw11081865369230959377:=0
def PySem.W.Fast.tw4924532850023241239:=0
def PySem.W.Fast.tw8017510748387345675:=0
def PySem.W.Fast.tw561212782855723057:=0
def PySem.W.Fast.tw18250412040342033975:=0
def PySem.W.Fast.tw12739697149760890082:=0
def PySem.W.Fast.tw2144742539480230006:=0
def PySem.W.Fast.tw535838564557727154:=0
def PySem.W.Fast.tw17788380358656641429:=0
def PySem.W.Fast.tw11332185101642533589:=0
def PySem.W.Fast.tw8880876609198263966:=0
def PySem.W.Fast.tw8378231797757661192:=0
def PySem.W.Fast.tw5934212572096133521:=0
def PySem.W.Fast.tw1384203923994482963:=0
def PySem.W.Fast.tw8419697149062842311:=0
def PySem.W.Fast.tw8095541504474015612:=0
def PySem.W.Fast.tw5841317876708799568:=0
def PySem.W.Fast.tw17673930447570581772:=0
def PySem.W.Fast.tw4555027107202102825:=0
def PySem.W.Fast.tw4747646619881659687:=0
def PySem.W.Fast.tw10681583994430011331:=0
def PySem.W.Fast.tw14548297079661570284:=0
def PySem.W.Fast.tw13134086473489401762:=0
def PySem.W.Fast.tw2660574803781626659:=0
def PySem.W.Fast.tw1748880670376543323:=0
def PySem.W.Fast.tw12747992536171168341:=0
def PySem.W.Fast.tw16933501607467500406:=0
def PySem.W.Fast.tw12691396625071708767:=0
def PySem.W.Fast.tw12112472834674441073:=0
def PySem.W.Fast.tw9160460070500519869:=0
def PySem.W.Fast.tw4644503164688982805:=0
def PySem.W.Fast.tw10062946816844307186:=0
def PySem.W.Fast.tw1246076956482317805:=0
def PySem.W.Fast.tw15480519081237542604:=0
def PySem.W.Fast.tw10589799178217713451:=0
def PySem.W.Fast.tw13688101074081109608:=0
def PySem.W.Fast.tw2968490101203178940:=0
def PySem.W.Fast.tw13901122436591371610:=0
def PySem.W.Fast.tw14099766304887797772:=0
def PySem.W.Fast.tw9287748148339615869:=0
def PySem.W.Fast.tw9003046187643307887:=0
def PySem.W.Fast.tw3633408042554854530:=0
def PySem.W.Fast.tw7575855629262169442:=0
def PySem.W.Fast.tw2956232974468699899:=0
def PySem.W.Fast.tw16833983963708876731:=0
def PySem.W.Fast.tw8508029924102066557:=0
def PySem.W.Fast.tw10225986649010581193:=0
def PySem.W.Fast.tw9392941230507165340:=0
def PySem.W.Fast.tw6594171973343230474:=0
def PySem.W.Fast.tw3468662989449508617:=0
def PySem.W.Fast.tw18401120295946274586:=0
def PySem.W.Fast.tw6573870554430167700:=0
def PySem.W.Fast.tw16738209849216369313:=0
def PySem.W.Fast.tw5008244257332411382:=0
def PySem.W.Fast.tw15606503193304248652:=0
def PySem.W.Fast.tw15457422336313140092:=0
def PySem.W.Fast.tw13049550380969555571:=0
def PySem.W.Fast.tw1065534835609342109:=0
def PySem.W.Fast.tw11824608772675871200:=0
def PySem.W.Fast.tw250357074473198350:=0
def PySem.W.Fast.tw8307722799768062657:=0
def PySem.W.Fast.tw9345413741082293742:=0
def PySem.W.Fast.tw1689277498672634074:=0
namespace L2
open PySem PySem.Spec PyProof.Rows
abbrev Key:=Sum Int Str
def keyIs:Key→Value→Bool
  | .inl k,v=>Value.isInt k v
  | .inr x,v=>Value.isStrOf x v
def keyH (w:World):Key→Int
  | .inl k=>hashInt k
  | .inr x=>hashStr w x
theorem keyIs_shape:∀ {k:Key} {v:Value},keyIs k v=true→(∃ i t,k=Sum.inl i∧v=Value.int i t)∨(∃ x t,k=Sum.inr x∧v=Value.str x t)
  | .inl i,v,h=>by
    obtain ⟨t,e⟩:=Value.isInt_shape (k:=i) (v:=v) h
    exact .inl ⟨i,t,rfl,e⟩
  | .inr x,v,h=>by
    obtain ⟨t,e⟩:=Value.isStrOf_shape (x:=x) (v:=v) h
    exact .inr ⟨x,t,rfl,e⟩
theorem key_ll (a b:Int):decide ((Sum.inl a:Key)=Sum.inl b)=(a == b):=by
  by_cases e:a=b
  · subst e; simp
  · have h:¬ (Sum.inl a:Key)=Sum.inl b:=fun q=>e (Sum.inl.inj q)
    rw [decide_eq_false h]
    exact (beq_eq_false_iff_ne.mpr e).symm
theorem key_rr (a b:Str):decide ((Sum.inr a:Key)=Sum.inr b)=decide (a=b):=by
  by_cases e:a=b
  · subst e; simp
  · have h:¬ (Sum.inr a:Key)=Sum.inr b:=fun q=>e (Sum.inr.inj q)
    rw [decide_eq_false h,decide_eq_false e]
theorem key_lr (a:Int) (b:Str):decide ((Sum.inl a:Key)=Sum.inr b)=false:=decide_eq_false (fun q=>nomatch q)
theorem key_rl (a:Str) (b:Int):decide ((Sum.inr a:Key)=Sum.inl b)=false:=decide_eq_false (fun q=>nomatch q)
def mixKind (prog:Program) (w:World):PySem.KeyKind prog w Key where
  is:=keyIs
  hash:=keyH w
  inj:=fun v a b ha hb=>by
    rcases keyIs_shape ha with ⟨i,t,rfl,rfl⟩ | ⟨x,t,rfl,rfl⟩
    · rcases keyIs_shape hb with ⟨j,u,rfl,e⟩ | ⟨y,u,rfl,e⟩
      · injection e with e1 _; rw [e1]
      · exact nomatch e
    · rcases keyIs_shape hb with ⟨j,u,rfl,e⟩ | ⟨y,u,rfl,e⟩
      · exact nomatch e
      · injection e with e1 _; rw [e1]
  byValue:=fun k v h=>by
    rcases keyIs_shape h with ⟨i,t,rfl,rfl⟩ | ⟨x,t,rfl,rfl⟩ <;> rfl
  pyHash:=fun hv h=>by
    rcases keyIs_shape hv with ⟨i,t,rfl,rfl⟩ | ⟨x,t,rfl,rfl⟩
    · exact wpAny_pyHash_int h
    · exact wpAny_pyHash_str h
  eqBool:=fun hu hv h=>by
    rcases keyIs_shape hu with ⟨i,t,rfl,rfl⟩ | ⟨x,t,rfl,rfl⟩
    · rcases keyIs_shape hv with ⟨j,u,rfl,rfl⟩ | ⟨y,u,rfl,rfl⟩
      · rw [key_ll] at h; exact wpAny_eqBool_int h
      · rw [key_lr] at h; exact SeqAt.EqAt.int_str i t y u _ _ _ _ h
    · rcases keyIs_shape hv with ⟨j,u,rfl,rfl⟩ | ⟨y,u,rfl,rfl⟩
      · rw [key_rl] at h; exact SeqAt.EqAt.str_int x t j u _ _ _ _ h
      · rw [key_rr] at h; exact wpAny_eqBool_str h
  «strs»:=fun k x t v h=>by
    rcases keyIs_shape h with ⟨i,u,rfl,e⟩ | ⟨y,u,rfl,e⟩
    · exact nomatch e
    · injection e with e1 _
      subst e1
      cases v <;> rfl
end L2
namespace L2
open PySem PySem.Spec PyProof.Rows
inductive V where
  | non | bl (b:Bool) | int (i:Int) | str (x:Str) | byt (b:Array UInt8) | flt (b:UInt64) | ref (a:Addr) | ty (n:String)
  deriving DecidableEq
def RelV:V→Value→Prop
  | .non,u=>u=Value.none
  | .bl b,u=>u=Value.bool b
  | .int i,u=>∃ t,u=Value.int i t
  | .str x,u=>∃ t,u=Value.str x t
  | .byt b,u=>∃ t,u=Value.bytes b t
  | .flt b,u=>∃ t,u=Value.float b t
  | .ref a,u=>u=Value.ref a
  | .ty n,u=>u=Value.type n
abbrev Vals:List V→List Value→Prop:=Paired RelV
theorem Vals.length {xs:List V} {us:List Value} (r:Vals xs us):xs.length=us.length:=Paired.length r
theorem Vals.get:∀ {xs:List V} {us:List Value} {i:Nat} {x:V},Vals xs us→xs[i]?=some x→∃ u,us[i]?=some u∧RelV x u
  | _,_,_,_,.nil,e=>by simp at e
  | _,_,0,_,.cons r _,e=>by simp at e; subst e; exact ⟨_,rfl,r⟩
  | _,_,i+1,x,.cons _ t,e=>by
    obtain ⟨u,h1,h2⟩:=Vals.get (i:=i) (x:=x) t (by simpa using e)
    exact ⟨u,by simpa using h1,h2⟩
theorem Vals.append:∀ {xs ys:List V} {us ws:List Value},Vals xs us→Vals ys ws→Vals (xs++ys) (us++ws)
  | _,_,_,_,.nil,s=>s
  | _,_,_,_,.cons r t,s=>.cons r (Vals.append t s)
theorem Vals.take:∀ {xs:List V} {us:List Value} (n:Nat),Vals xs us→Vals (xs.take n) (us.take n)
  | _,_,0,_=>.nil
  | _,_,_+1,.nil=>.nil
  | _,_,n+1,.cons r t=>.cons r (Vals.take n t)
theorem Vals.drop:∀ {xs:List V} {us:List Value} (n:Nat),Vals xs us→Vals (xs.drop n) (us.drop n)
  | _,_,0,r=>r
  | _,_,_+1,.nil=>.nil
  | _,_,n+1,.cons _ t=>Vals.drop n t
def RelO:Option V→Option Value→Prop
  | some v,some u=>RelV v u
  | none,none=>True
  | _,_=>False
def KV {κ:Type}:List (κ×V)→List (κ×Value)→Prop:=Paired fun (p:κ×V) (q:κ×Value)=>p.1=q.1∧RelV p.2 q.2
def kV:Key→V
  | .inl i=>.int i
  | .inr x=>.str x
inductive HO where
  | lst (xs:List V)
  | tup (xs:List V)
  | dK (kvs:List (Key×V)) | dT (kvs:List (List Key×V))
  | set (S:Int→Bool) (n:Nat)
  | ins (C dx:Addr) (fs:List (Str×V))
  | own (x:Addr)
  | xd (fs:List (Str×V))
  | met (f x:Addr)
  | rng (lo hi:Int)
  | frz (o:Obj) (u:HO)
  | tbl (ps:Array Value)
  | ext (φ:Heap→Prop)
abbrev Hp:=Addr→Option HO
def upd (H:Hp) (a:Addr) (o:HO):Hp:=fun b=>if b=a then some o else H b
theorem upd_same {H:Hp} {a:Addr} {o:HO}:upd H a o a=some o:=by unfold upd; rw [if_pos rfl]
theorem upd_ne {H:Hp} {a b:Addr} {o:HO} (h:b≠a):upd H a o b=H b:=by unfold upd; rw [if_neg h]
theorem upd_upd {H:Hp} {a:Addr} {o u:HO}:upd (upd H a o) a u=upd H a u:=by
  funext b; unfold upd; split <;> rfl
theorem ne_of {H:Hp} {a b:Addr} {o u:HO} (h:H a=some o) (h':H b=some u) (d:o≠u):a≠b:=by
  intro e; subst e; rw [h] at h'; exact d (Option.some.inj h')
theorem ne_of_none {H:Hp} {a b:Addr} {o:HO} (h:H a=some o) (h':H b=none):a≠b:=by
  intro e; subst e; rw [h] at h'; cases h'
section
variable (P:Program) (w:World)
def ObjOk (H:Hp) (h:Heap) (a:Addr):HO→Prop
  | .lst xs=>xs.length≤sizeLine∧∃ (its:List Value) (n:Nat),Vals xs its∧h.get? a=some { cls:=.type "list",data:=.seq its.toArray n }
  | .tup xs=>xs.length≤sizeLine∧∃ its:List Value,Vals xs its∧IsTup h a its.toArray
  | .dK kvs=>kvs.length≤sizeLine∧(a == sysModules)=false∧∃ vs,KV kvs vs∧h.DictOf (mixKind P w) a vs
  | .dT kvs=>kvs.length≤sizeLine∧(a == sysModules)=false∧∃ xs:List (List Key×Addr×Value),
      Paired (fun (p:List Key×V) (q:List Key×Addr×Value)=>p.1=q.1∧H q.2.1=some (.tup (p.1.map kV))∧RelV p.2 q.2.2) kvs xs ∧
      ∃ o es ep,h.get? a=some o∧o.ExactDict∧o.data=.dict es ep∧es.toList=xs.map (entryOfKey (tupleKind (mixKind P w)))∧(xs.map (·.1)).Nodup
  | .set S n=>h.SetOf (intKind P w) a S n
  | .ins C dx fs=>H dx=some (.own a)∧fs.length≤1000∧dx≠a∧h.get? a=some (PySem.W.instObj C dx) ∧
      ∃ mA,h.Ns1 dx mA∧(∀ f,RelO (fs.lookup f) (mA f))∧PySem.Within mA (fs.map (·.1))
  | .own _=>∃ o,h.get? a=some o
  | .xd fs=>∃ mA,h.Ns1 a mA∧∀ f,RelO (fs.lookup f) (mA f)
  | .rng lo hi=>∃ t u v,h.get? a=some { cls:=.type "range",data:=.fields #[.int lo t,.int hi u,.int 1 v] }
  | .frz o u=>h.get? a=some o∧ObjOk H h a u
  | .tbl ps=>h.get? a=some { cls:=.none,data:=.fields ps }
  | .met f x=>h.get? a=some (PySem.W.methodObj (.ref f) (.ref x))
  | .ext φ=>φ h∧(∃ o,h.get? a=some o)∧∀ h1 h2:Heap,φ h1→(∀ o,h1.get? a=some o→h2.get? a=some o)→φ h2
def HOk (H:Hp) (h:Heap):Prop:=∀ a o,H a=some o→ObjOk P w H h a o
end
section
variable {P:Program} {w:World} {H H':Hp} {h h':Heap} {a:Addr} {o:HO}
theorem ObjOk.lt (x:ObjOk P w H h a o):a < h.objs.size:=by
  cases o with
  | lst xs=>obtain ⟨_,_,_,_,e⟩:=x; exact Heap.lt_size e
  | tup xs=>obtain ⟨_,_,_,p⟩:=x; exact p.lt
  | dK kvs=>obtain ⟨_,_,_,_,o,_,_,e,_⟩:=x; exact Heap.lt_size e
  | dT kvs=>obtain ⟨_,_,_,_,o,_,_,e,_⟩:=x; exact Heap.lt_size e
  | set S n=>obtain ⟨o,_,_,_,e,_⟩:=x; exact Heap.lt_size e
  | ins C dx fs=>obtain ⟨_,_,_,e,_⟩:=x; exact Heap.lt_size e
  | own y=>obtain ⟨_,e⟩:=x; exact Heap.lt_size e
  | xd fs=>obtain ⟨_,⟨_,_,_,e,_⟩,_⟩:=x; exact Heap.lt_size e
  | rng lo hi=>obtain ⟨_,_,_,e⟩:=x; exact Heap.lt_size e
  | frz ob u=>obtain ⟨e,_⟩:=x; exact Heap.lt_size e
  | tbl ps=>exact Heap.lt_size (show h.get? a=some _ from x)
  | met f y=>exact Heap.lt_size (show h.get? a=some _ from x)
  | ext φ=>obtain ⟨_,⟨_,e⟩,_⟩:=x; exact Heap.lt_size e
theorem Paired.mapP {α β:Type} {F G:α→β→Prop}:∀ {l₁:List α} {l₂:List β},Paired F l₁ l₂→(∀ a b,F a b→G a b)→Paired G l₁ l₂
  | _,_,.nil,_=>.nil
  | _,_,.cons r t,f=>.cons (f _ _ r) (Paired.mapP t f)
theorem ObjOk.stay (x:ObjOk P w H h a o) (k:∀ b u,(b=a∨H b=some (.own a))→h.get? b=some u→h'.get? b=some u)
    (ho:∀ b,H b=some (.own a)→H' b=some (.own a)) (ht:∀ b xs,H b=some (.tup xs)→H' b=some (.tup xs)):ObjOk P w H' h' a o:=by
  induction o with
  | lst xs=>obtain ⟨z,its,n,r,e⟩:=x; exact ⟨z,its,n,r,k _ _ (.inl rfl) e⟩
  | tup xs=>obtain ⟨z,its,r,ob,e,c⟩:=x; exact ⟨z,its,r,ob,k _ _ (.inl rfl) e,c⟩
  | dK kvs=>obtain ⟨z,y,vs,r,ob,es,ep,e,c⟩:=x; exact ⟨z,y,vs,r,ob,es,ep,k _ _ (.inl rfl) e,c⟩
  | dT kvs =>
    obtain ⟨z,y,xs,r,ob,es,ep,e,c⟩:=x
    exact ⟨z,y,xs,Paired.mapP r fun p q z=>⟨z.1,ht _ _ z.2.1,z.2.2⟩,ob,es,ep,k _ _ (.inl rfl) e,c⟩
  | set S n=>obtain ⟨ob,es,ep,t,e,c⟩:=x; exact ⟨ob,es,ep,t,k _ _ (.inl rfl) e,c⟩
  | ins C dx fs =>
    obtain ⟨d,z,ne,e,mA,⟨od,es,ep,e2,c⟩,r⟩:=x
    exact ⟨ho _ d,z,ne,k _ _ (.inl rfl) e,mA,⟨od,es,ep,k _ _ (.inr d) e2,c⟩,r⟩
  | own y=>obtain ⟨ob,e⟩:=x; exact ⟨ob,k _ _ (.inl rfl) e⟩
  | xd fs=>obtain ⟨mA,⟨od,es,ep,e,c⟩,r⟩:=x; exact ⟨mA,⟨od,es,ep,k _ _ (.inl rfl) e,c⟩,r⟩
  | rng lo hi=>obtain ⟨t,u,v,e⟩:=x; exact ⟨t,u,v,k _ _ (.inl rfl) e⟩
  | frz ob u ih=>obtain ⟨e,q⟩:=x; exact ⟨k _ _ (.inl rfl) e,ih q⟩
  | tbl ps =>
    have e:h.get? a=some { cls:=.none,data:=.fields ps }:=x
    show h'.get? a=some { cls:=.none,data:=.fields ps }
    exact k a _ (.inl rfl) e
  | met f y =>
    have e:h.get? a=some (PySem.W.methodObj (.ref f) (.ref y)):=x
    show h'.get? a=some (PySem.W.methodObj (.ref f) (.ref y))
    exact k a _ (.inl rfl) e
  | ext φ=>obtain ⟨p,⟨o,e⟩,st⟩:=x; exact ⟨st _ _ p fun o q=>k _ _ (.inl rfl) q,⟨o,k _ _ (.inl rfl) e⟩,st⟩
theorem HOk.lt (x:HOk P w H h) (e:H a=some o):a < h.objs.size:=(x a o e).lt
theorem HOk.fresh (x:HOk P w H h) (e:h.objs.size≤a):H a=none:=by
  cases q:H a with
  | none=>rfl
  | some u=>exact absurd (Nat.lt_of_lt_of_le (x.lt q) e) (Nat.lt_irrefl _)
theorem HOk.kept (x:HOk P w H h) (k:∀ b u,h.get? b=some u→h'.get? b=some u):HOk P w H h':=fun a o e =>
  (x a o e).stay (fun b u _ q=>k b u q) (fun _ q=>q) fun _ _ q=>q
theorem HOk.laid (x:HOk P w H h) (k:∀ b u,h.get? b=some u→h'.get? b=some u) (hp:h.objs.size≤a) (new:ObjOk P w (upd H a o) h' a o):HOk P w (upd H a o) h':=fun b u e=>by
  have hn:=x.fresh hp
  by_cases hb:b=a
  · subst hb; rw [upd_same] at e; cases e; exact new
  · rw [upd_ne hb] at e
    exact (x b u e).stay (fun c v _ q=>k c v q) (fun c q=>by rw [upd_ne (ne_of_none q hn)]; exact q) fun c xs q=>by rw [upd_ne (ne_of_none q hn)]; exact q
end
def Rd (H:Hp) (a:Addr) (u:HO):Prop:=H a=some u∨∃ o,H a=some (.frz o u)
theorem Rd.ok {P:Program} {w:World} {H:Hp} {h:Heap} {a:Addr} {u:HO} (r:Rd H a u) (x:HOk P w H h):ObjOk P w H h a u:=by
  rcases r with r | ⟨o,r⟩
  · exact x a u r
  · obtain ⟨_,q⟩:=x a _ r
    exact q
def Mut:Option HO→Prop
  | some (.lst _)=>True
  | some (.dK _)=>True
  | some (.dT _)=>True
  | some (.set _ _)=>True
  | some (.ins _ _ _)=>True
  | some (.ext _)=>True
  | _=>False
section
variable {P:Program} {w:World} {H:Hp} {h h':Heap} {x e:Addr} {o':HO}
theorem HOk.write (ok:HOk P w H h) (mu:Mut (H x)) (he:e=x∨H e=some (.own x)) (k:∀ b u,b≠e→h.get? b=some u→h'.get? b=some u) (heo:∃ u,h'.get? e=some u)
    (new:ObjOk P w (upd H x o') h' x o'):HOk P w (upd H x o') h':=fun b u q=>by
  have nown:∀ c y,H c=some (.own y)→c≠x:=fun c y r z=>by subst z; rw [r] at mu; exact mu
  have ntup:∀ c xs,H c=some (.tup xs)→c≠x:=fun c xs r z=>by subst z; rw [r] at mu; exact mu
  by_cases hb:b=x
  · subst hb; rw [upd_same] at q; cases q; exact new
  · rw [upd_ne hb] at q
    by_cases hbe:b=e
    · have q':H b=some (.own x):=by
        rcases he with z | z
        · exact absurd (hbe.trans z) hb
        · rw [hbe]; exact z
      rw [q] at q'; cases q'
      obtain ⟨v,hv⟩:=heo
      exact ⟨v,by rw [hbe]; exact hv⟩
    · refine (ok b u q).stay (fun c v hc r=>k c v ?_ r) (fun c r=>by rw [upd_ne (nown c b r)]; exact r) fun c xs r=>by rw [upd_ne (ntup c xs r)]; exact r
      rcases hc with rfl | hc
      · exact hbe
      · rintro rfl
        rcases he with z | z
        · exact nown c b hc z
        · rw [hc] at z; cases z; exact hb rfl
end
structure Un (fs ex:List Addr) (H H':Hp) (h h':Heap):Prop where
  keep:∀ b o,h.get? b=some o→H b=none→b ∉ fs→b ∉ ex→h'.get? b=some o
  slot:∀ b o,h.get? b=some o→H b=none→b∈fs→b ∉ ex→∃ sl,h'.get? b=some { o with slots:=sl }
  free:∀ b o,h.get? b=some o→H b=none→b ∉ ex→H' b=none
  there:∀ b o,h.get? b=some o→b ∉ ex→∃ o',h'.get? b=some o'
  tups:∀ b xs,H b=some (.tup xs)→H' b=some (.tup xs)
  frzs:∀ b o u,H b=some (.frz o u)→H' b=some (.frz o u)
  tbls:∀ b ps,H b=some (.tbl ps)→∃ more,H' b=some (.tbl (ps++more))
section
variable {fs fs' ex ex':List Addr} {H H1 H2:Hp} {h h1 h2 h':Heap} {a x e:Addr} {o:HO}
theorem Un.any (u:Un fs ex H H1 h h1) {b:Addr} {ob:Obj} (q:h.get? b=some ob) (n:H b=none) (hx:b ∉ ex):∃ sl,h1.get? b=some { ob with slots:=sl }:=by
  by_cases hb:b∈fs
  · exact u.slot b ob q n hb hx
  · exact ⟨ob.slots,u.keep b ob q n hb hx⟩
theorem Un.kept (k:∀ b u,h.get? b=some u→h'.get? b=some u):Un fs ex H H h h' :=
  ⟨fun b ob q _ _ _=>k b ob q,fun b ob q _ _ _=>⟨ob.slots,k b ob q⟩,fun _ _ _ n _=>n,fun b ob q _=>⟨ob,k b ob q⟩,fun _ _ q=>q,fun _ _ _ q=>q,fun _ ps q=>⟨#[],by rw [q]; simp⟩⟩
theorem Un.refl:Un fs ex H H h h:=Un.kept fun _ _ q=>q
theorem Un.laid (k:∀ b u,h.get? b=some u→h'.get? b=some u) (hp:h.objs.size≤a) (hn:H a=none):Un fs ex H (upd H a o) h h' where
  keep:=fun b u q _ _ _=>k b u q
  slot:=fun b u q _ _ _=>⟨u.slots,k b u q⟩
  free:=fun b u q n _=>by rw [upd_ne (Nat.ne_of_lt (Nat.lt_of_lt_of_le (Heap.lt_size q) hp))]; exact n
  there:=fun b u q _=>⟨u,k b u q⟩
  tups:=fun b xs q=>by rw [upd_ne (ne_of_none q hn)]; exact q
  frzs:=fun b u xs q=>by rw [upd_ne (ne_of_none q hn)]; exact q
  tbls:=fun b ps q=>⟨#[],by rw [upd_ne (ne_of_none q hn),q]; simp⟩
theorem Un.write (mu:Mut (H x)) (he:e=x∨H e=some (.own x)) (k:∀ b u,b≠e→h.get? b=some u→h'.get? b=some u) (heo:∃ u,h'.get? e=some u):Un fs ex H (upd H x o) h h':=by
  have hx:∀ b,H b=none→b≠x:=fun b n z=>by subst z; rw [n] at mu; exact mu
  have hb:∀ b,H b=none→b≠e:=fun b n z=>by
    subst z
    rcases he with r | r
    · exact hx b n r
    · rw [n] at r; cases r
  have hm:∀ b u,H b=some u→¬ Mut (some u)→b≠x:=fun b u q nm z=>by subst z; rw [q] at mu; exact nm mu
  refine ⟨fun b u q n _ _=>k b u (hb b n) q,fun b u q n _ _=>⟨u.slots,k b u (hb b n) q⟩,fun b u q n _=>by rw [upd_ne (hx b n)]; exact n,fun b u q _=>?_,
    fun b xs q=>by rw [upd_ne (hm b _ q fun z=>z)]; exact q,fun b u xs q=>by rw [upd_ne (hm b _ q fun z=>z)]; exact q,fun b ps q=>⟨#[],by rw [upd_ne (hm b _ q fun z=>z),q]; simp⟩⟩
  by_cases hbe:b=e
  · subst hbe; exact heo
  · exact ⟨u,k b u hbe q⟩
end
def trk (h:Heap) (H:Hp):List Addr:=(List.range h.objs.size).filter fun a=>(H a).isSome
def hidT (h:Heap) (H:Hp):Heap:=PySem.W.hideAll h (trk h H)
theorem hidT_size (h:Heap) (H:Hp):(hidT h H).objs.size=h.objs.size:=PySem.W.hideAll_size _ _
theorem hidT_get {h:Heap} {H:Hp} {b:Addr} {o:Obj} (e:h.get? b=some o) (n:H b=none):(hidT h H).get? b=some o :=
  PySem.W.hideAll_get _ e fun hm=>by
    have q:(H b).isSome=true:=(List.mem_filter.mp hm).2
    rw [n] at q; simp at q
theorem of_hidT {h:Heap} {H:Hp} {b:Addr} {o:Obj} (e:(hidT h H).get? b=some o):h.get? b=some o∧H b=none:=by
  have e':h.get? b=some o:=PySem.W.of_hideAll (trk h H) e
  refine ⟨e',?_⟩
  cases q:H b with
  | none=>rfl
  | some x =>
    have hm:b∈trk h H:=List.mem_filter.mpr ⟨List.mem_range.mpr (Heap.lt_size e'),by simp [q]⟩
    have z:(hidT h H).get? b=none:=PySem.W.hideAll_none (trk h H) hm
    rw [z] at e; cases e
end L2
namespace L2
open PySem PySem.Spec PyProof.Rows
structure Mod (K:PySem.W.Frag) (mg:Str→Option Value) (base:Heap):Prop where
  kin:K.In base
  glob:base.Ns mainGlobals mg
  blt:∃ mb,base.Ns builtinsNs mb∧∀ x:Str,x≠"__name__"→mb x=bootBuiltins x
  nolimit:base.NoLimit
structure Cx where
  prog:Program
  w:World
  K:PySem.W.Frag
  mg:Str→Option Value
  base:Heap
  A:Around
  N:List Str
  s₀:Shared
  H₀:Hp
  env:Env
  outer:List Env
  stack:List Env
  ex:List Addr
  fn:Str→Bool
  calm:Bool
  pn:List (Addr×Obj)
  xe:Value→Shared→Prop
def frs (l:List Env):List Addr:=l.filterMap (·.frame)
abbrev Cx.fs (X:Cx):List Addr:=frs X.outer
def Vis (sc:Scope) (x:Str):Prop:=sc.names.lookup x=some .local∨sc.names.lookup x=some .cell∨sc.names.lookup x=some .free
def Loc (sc:Scope) (x:Str):Prop:=sc.names.lookup x=some .local∨sc.names.lookup x=some .cell
def Look (env:Env) (h:Heap) (m:Str→Option Value) (x:Str) (u:Value):Prop :=
  (env.kindOf x=some .local∧m x=some u)∨((env.kindOf x=some .cell∨env.kindOf x=some .free)∧∃ c,env.cells.lookup x=some c∧h.IsCell c (some u))
structure Cx.Ok (X:Cx):Prop where
  mod:Mod X.K X.mg X.base
  kind:X.env.scope.kind=.function
  glob:X.env.globals=mainGlobals
  blt:X.env.builtins=builtinsNs
  above:X.s₀.heap.objs.size≤X.env.locals
  inj:∀ x y c,X.env.cells.lookup x=some c→X.env.cells.lookup y=some c→x=y
  has:∀ x,(X.env.kindOf x=some .cell∨X.env.kindOf x=some .free)→∃ c,X.env.cells.lookup x=some c
  cab:∀ x c,X.fn x=true→X.env.cells.lookup x=some c→X.s₀.heap.objs.size≤c
  hd:X.calm=true→X.A.handled=none
  frames:X.A.frames=some X.stack
  stk:X.stack=X.outer∨(X.stack=X.env::X.outer∧X.env.frame=some X.env.locals)
  exf:∀ b∈X.ex,b≠X.env.locals∧∀ x c,X.env.cells.lookup x=some c→c≠b
  bs:∀ b o,X.base.get? b=some o→X.s₀.heap.get? b=some o∧X.H₀ b=none
  bsz:X.base.objs.size≤X.s₀.heap.objs.size
  noex:∀ b o,X.base.get? b=some o→b ∉ X.ex
  exfs:∀ b∈X.ex,b ∉ X.fs
  funs:X.s₀.heap.FunFrames X.base X.outer
  frf:∀ b∈X.fs,X.H₀ b=none
structure Inv (X:Cx) (pins:List (Addr×Obj)) (σ:List (Option V)) (H:Hp) (s:Shared):Prop where
  ok:X.Ok
  os:s.os=X.s₀.os
  bare:AllBare s.gens
  base:Un X.fs X.ex X.H₀ H X.s₀.heap s.heap
  loc:∃ m,s.heap.Ns X.env.locals m∧∀ (i:Nat) (x:Str) (v:V),X.N[i]?=some x→σ[i]?=some (some v)→Vis X.env.scope x→∃ u,RelV v u∧Look X.env s.heap m x u
  cell:∀ x c,X.env.cells.lookup x=some c→∃ v,s.heap.IsCell c v
  free:H X.env.locals=none
  freeC:∀ x c,X.env.cells.lookup x=some c→H c=none
  pin:∀ p∈X.pn++pins,s.heap.get? p.1=some p.2∧H p.1=none∧p.1≠X.env.locals∧p.1 ∉ X.fs∧∀ v,p.2.data≠.cell v
  hok:HOk X.prog X.w H s.heap
  len:σ.length=X.N.length
section
variable {X:Cx} {pins:List (Addr×Obj)} {σ:List (Option V)} {H H':Hp} {s:Shared} {h':Heap}
theorem Cx.Ok.nofr (ok:X.Ok) {b:Addr} {o:Obj} (e:X.base.get? b=some o):b ∉ X.fs:=fun hb=>by
  have:=(ok.funs.mem hb).1
  rw [e] at this; cases this
theorem Inv.bs (I:Inv X pins σ H s):∀ b o,X.base.get? b=some o→s.heap.get? b=some o∧H b=none:=fun b o e =>
  ⟨I.base.keep b o (I.ok.bs b o e).1 (I.ok.bs b o e).2 (I.ok.nofr e) (I.ok.noex b o e),I.base.free b o (I.ok.bs b o e).1 (I.ok.bs b o e).2 (I.ok.noex b o e)⟩
theorem Inv.bk (I:Inv X pins σ H s):∀ b o,X.base.get? b=some o→s.heap.get? b=some o:=fun b o e=>(I.bs b o e).1
theorem Inv.mod (I:Inv X pins σ H s):Mod X.K X.mg X.base:=I.ok.mod
theorem Inv.kIn (I:Inv X pins σ H s):X.K.In s.heap:=I.ok.mod.kin.keeps I.bk
theorem Inv.fr (I:Inv X pins σ H s):∃ m,Fr X.base X.env.locals s.heap m :=
  let ⟨m,hn,_⟩:=I.loc
  ⟨m,hn,I.bk,Nat.le_trans I.ok.bsz I.ok.above⟩
theorem Inv.lt (I:Inv X pins σ H s):X.env.locals < s.heap.objs.size:=let ⟨_,hn,_⟩:=I.loc; hn.lt
theorem Inv.sz (I:Inv X pins σ H s):X.s₀.heap.objs.size≤s.heap.objs.size:=Nat.le_trans I.ok.above (Nat.le_of_lt I.lt)
theorem Inv.nofs (I:Inv X pins σ H s) {a:Addr} (h:s.heap.objs.size≤a):a ∉ X.fs:=fun hb=>by
  obtain ⟨_,o,ho,_⟩:=I.ok.funs.mem hb
  exact absurd (Nat.lt_of_lt_of_le (Heap.lt_size ho) (Nat.le_trans I.sz h)) (Nat.lt_irrefl _)
theorem Inv.cne (I:Inv X pins σ H s):∀ x c,X.env.cells.lookup x=some c→c≠X.env.locals:=fun x c e z=>by
  obtain ⟨v,o,ho,hd⟩:=I.cell x c e
  obtain ⟨m,⟨o',es,ep,ho',hd',_⟩,_⟩:=I.loc
  rw [z,ho'] at ho; cases ho; rw [hd'] at hd; cases hd
theorem Inv.funs (I:Inv X pins σ H s):s.heap.FunFrames X.base X.outer:=by
  have all:∀ (l:List Env),(∀ b∈frs l,b∈X.fs)→X.s₀.heap.FunFrames X.base l→s.heap.FunFrames X.base l:=by
    intro l
    induction l with
    | nil=>intro _ _; trivial
    | cons env r ih =>
      intro hs hl
      obtain ⟨hk,⟨L,o,hf,hn,ho,hd⟩,hr⟩:=hl
      have hL:L∈X.fs:=hs L (by unfold frs; rw [List.filterMap_cons,hf]; exact List.mem_cons_self)
      obtain ⟨sl,e⟩:=I.base.slot L o ho (I.ok.frf L hL) hL fun z=>I.ok.exfs L z hL
      exact ⟨hk,⟨L,_,hf,hn,e,hd⟩,ih (fun b hb=>hs b (by unfold frs; rw [List.filterMap_cons,hf]; exact List.mem_cons_of_mem _ hb)) hr⟩
  exact all X.outer (fun _ hb=>hb) I.ok.funs
theorem Inv.stack (I:Inv X pins σ H s):s.heap.FunFrames X.base X.stack:=by
  rcases I.ok.stk with e | ⟨e,hf⟩
  · rw [e]; exact I.funs
  · rw [e]
    obtain ⟨m,hn,_⟩:=I.loc
    refine .cons (by rw [I.ok.kind]; decide) hf hn ?_ I.funs
    exact Heap.get?_none_of_le (Nat.le_trans I.ok.bsz I.ok.above)
theorem Inv.stkSub (I:Inv X pins σ H s):∀ b∈frs X.stack,b∈X.env.locals::X.fs:=fun b hb=>by
  rcases I.ok.stk with e | ⟨e,hf⟩
  · rw [e] at hb; exact List.mem_cons_of_mem _ hb
  · rw [e] at hb
    unfold frs at hb
    rw [List.filterMap_cons,hf] at hb
    exact hb
theorem Inv.stkFree (I:Inv X pins σ H s):∀ b∈frs X.stack,H b=none:=fun b hb=>by
  rcases List.mem_cons.mp (I.stkSub b hb) with e | hb
  · rw [e]; exact I.free
  · obtain ⟨_,o,ho,_⟩:=I.ok.funs.mem hb
    exact I.base.free b o ho (I.ok.frf b hb) fun z=>I.ok.exfs b z hb
theorem Inv.step {g':Array GenState} {t':Nat} {d':Drawn} {ch:List Addr} (I:Inv X pins σ H s)
    (hch:∀ b∈ch,(b∈X.ex∨X.s₀.heap.objs.size≤b)∧b≠X.env.locals∧(∀ x c,X.env.cells.lookup x=some c→c≠b)∧∀ p∈X.pn++pins,p.1≠b)
    (keep:∀ b o,b≠X.env.locals→b ∉ X.fs→b ∉ ch→s.heap.get? b=some o→H b=none→h'.get? b=some o)
    (slot:∀ b o,b≠X.env.locals→b∈X.fs→b ∉ ch→s.heap.get? b=some o→H b=none→∃ sl,h'.get? b=some { o with slots:=sl }) (free:∀ b o,b ∉ ch→s.heap.get? b=some o→H b=none→H' b=none)
    (there:∀ b o,b ∉ ch→s.heap.get? b=some o→∃ o',h'.get? b=some o')
    (tups:∀ b xs,H b=some (.tup xs)→H' b=some (.tup xs)) (frzs:∀ b o u,H b=some (.frz o u)→H' b=some (.frz o u)) (tbls:∀ b ps,H b=some (.tbl ps)→∃ more,H' b=some (.tbl (ps++more)))
    (ns:∀ m,s.heap.Ns X.env.locals m→h'.Ns X.env.locals m) (hok:HOk X.prog X.w H' h') (hg:AllBare g') :
    Inv X pins σ H' { s with heap:=h',gens:=g',drawn:=d',toks:=t' }:=by
  have neL:∀ b o,X.s₀.heap.get? b=some o→b≠X.env.locals:=fun b o e=>Nat.ne_of_lt (Nat.lt_of_lt_of_le (Heap.lt_size e) I.ok.above)
  have neC:∀ b o,X.s₀.heap.get? b=some o→b ∉ X.ex→b ∉ ch:=fun b o e hx hb=>by
    rcases (hch b hb).1 with z | z
    · exact hx z
    · exact absurd (Nat.lt_of_lt_of_le (Heap.lt_size e) z) (Nat.lt_irrefl _)
  have cellK:∀ x c,X.env.cells.lookup x=some c→∀ v,s.heap.IsCell c v→h'.IsCell c v:=fun x c e v ⟨o,ho,hd⟩=>by
    have nch:c ∉ ch:=fun z=>(hch c z).2.2.1 x c e rfl
    by_cases hc:c∈X.fs
    · obtain ⟨sl,q⟩:=slot c o (I.cne x c e) hc nch ho (I.freeC x c e)
      exact ⟨_,q,hd⟩
    · exact ⟨o,keep c o (I.cne x c e) hc nch ho (I.freeC x c e),hd⟩
  refine ⟨I.ok,I.os,hg,⟨fun b o e n hb hx=>?_,fun b o e n hb hx=>?_,fun b o e n hx=>?_,fun b o e hx=>?_,fun b xs e=>tups b xs (I.base.tups b xs e),fun b o xs e=>frzs b o xs (I.base.frzs b o xs e),fun b ps e=>?_⟩,?_,fun x c e=>?_,?_,fun x c e=>?_,fun p hp=>?_,hok,I.len⟩
  · exact keep b o (neL b o e) hb (neC b o e hx) (I.base.keep b o e n hb hx) (I.base.free b o e n hx)
  · obtain ⟨sl,e1⟩:=I.base.slot b o e n hb hx
    obtain ⟨sl',e2⟩:=slot b _ (neL b o e) hb (neC b o e hx) e1 (I.base.free b o e n hx)
    exact ⟨sl',e2⟩
  · obtain ⟨o',e1⟩:=I.base.there b o e hx
    exact free b o' (neC b o e hx) e1 (I.base.free b o e n hx)
  · obtain ⟨o',e1⟩:=I.base.there b o e hx
    exact there b o' (neC b o e hx) e1
  · obtain ⟨m1,e1⟩:=I.base.tbls b ps e
    obtain ⟨m2,e2⟩:=tbls b _ e1
    exact ⟨m1++m2,by rw [e2,Array.append_assoc]⟩
  · obtain ⟨m,hn,hl⟩:=I.loc
    refine ⟨m,ns m hn,fun i x v e1 e2 e3=>?_⟩
    obtain ⟨u,r,l⟩:=hl i x v e1 e2 e3
    refine ⟨u,r,?_⟩
    rcases l with l | ⟨k,c,e,z⟩
    · exact .inl l
    · exact .inr ⟨k,c,e,cellK x c e _ z⟩
  · obtain ⟨v,z⟩:=I.cell x c e
    exact ⟨v,cellK x c e v z⟩
  · obtain ⟨m,⟨o,_,_,ho,_⟩,_⟩:=I.loc
    exact free _ o (fun z=>(hch _ z).2.1 rfl) ho I.free
  · obtain ⟨v,o,ho,hd⟩:=I.cell x c e
    exact free c o (fun z=>(hch c z).2.2.1 x c e rfl) ho (I.freeC x c e)
  · obtain ⟨e,n,ne,nf,d⟩:=I.pin p hp
    have nch:p.1 ∉ ch:=fun z=>(hch p.1 z).2.2.2 p hp rfl
    exact ⟨keep p.1 p.2 ne nf nch e n,free p.1 p.2 nch e n,ne,nf,d⟩
theorem Inv.un {t':Nat} (I:Inv X pins σ H s) (u:Un X.fs [] H H' s.heap h') (hok:HOk X.prog X.w H' h'):Inv X pins σ H' { s with heap:=h',toks:=t' }:=by
  obtain ⟨m,⟨o,es,ep,ho,r⟩,_⟩:=id I.loc
  obtain ⟨sl,hL⟩:=u.any ho I.free (by simp)
  exact I.step (g':=s.gens) (d':=s.drawn) (ch:=[]) (fun _ z=>nomatch z) (fun b o _ hb _ e n=>u.keep b o e n hb (by simp)) (fun b o _ hb _ e n=>u.slot b o e n hb (by simp)) (fun b o _ e n=>u.free b o e n (by simp)) (fun b o _ e=>u.there b o e (by simp)) u.tups u.frzs u.tbls (fun m' hm=>by
    obtain ⟨o',es',ep',ho',r'⟩:=hm
    rw [ho] at ho'; cases ho'
    exact ⟨_,es',ep',hL,r'⟩) hok I.bare
theorem Inv.call {g':Array GenState} {t':Nat} {d':Drawn} {ch:List Addr} (I:Inv X pins σ H s) (u:Un (frs X.stack) ch H H' s.heap h') (hok:HOk X.prog X.w H' h') (hg:AllBare g')
    (hch:∀ b∈ch,(b∈X.ex∨X.s₀.heap.objs.size≤b)∧b≠X.env.locals∧(∀ x c,X.env.cells.lookup x=some c→c≠b)∧∀ p∈X.pn++pins,p.1≠b) :
    Inv X pins σ H' { s with heap:=h',gens:=g',drawn:=d',toks:=t' }:=by
  obtain ⟨m,⟨o,es,ep,ho,r⟩,_⟩:=id I.loc
  obtain ⟨sl,hL⟩:=u.any ho I.free fun z=>(hch _ z).2.1 rfl
  exact I.step (ch:=ch) hch (fun b o hL hb hc e n=>u.keep b o e n (fun z=>(List.mem_cons.mp (I.stkSub b z)).elim hL hb) hc) (fun b o _ _ hc e n=>u.any e n hc) (fun b o hc e n=>u.free b o e n hc) (fun b o hc e=>u.there b o e hc) u.tups u.frzs u.tbls (fun m' hm=>by
    obtain ⟨o',es',ep',ho',r'⟩:=hm
    rw [ho] at ho'; cases ho'
    exact ⟨_,es',ep',hL,r'⟩) hok hg
theorem Inv.turned {t':Nat} {it:Addr} (I:Inv X pins σ H s) (k:∀ b o,b≠it→s.heap.get? b=some o→h'.get? b=some o) (hn:H it=none) (hL:it≠X.env.locals)
    (h1:it∈X.ex∨X.s₀.heap.objs.size≤it) (h2:∀ x c,X.env.cells.lookup x=some c→c≠it) (h3:∀ p∈X.pn++pins,p.1≠it):Inv X pins σ H { s with heap:=h',toks:=t' }:=by
  have nit:∀ b u,H b=some u→b≠it:=fun b u e z=>by rw [z,hn] at e; cases e
  refine I.step (g':=s.gens) (d':=s.drawn) (ch:=[it]) (fun b hb=>?_) (fun b o _ _ hc e _=>k b o (fun z=>hc (by simp [z])) e) (fun b o _ _ hc e _=>⟨o.slots,k b o (fun z=>hc (by simp [z])) e⟩) (fun _ _ _ _ n=>n)
    (fun b o hc e=>⟨o,k b o (fun z=>hc (by simp [z])) e⟩) (fun _ _ e=>e) (fun _ _ _ e=>e) (fun b ps e=>⟨#[],by rw [e]; simp⟩) (fun m hm=>?_) (fun b u e=>?_) I.bare
  · have e:b=it:=by simpa using hb
    subst e
    exact ⟨h1,hL,h2,h3⟩
  · obtain ⟨o,es,ep,ho,r⟩:=hm
    exact ⟨o,es,ep,k _ o (Ne.symm hL) ho,r⟩
  · refine (I.hok b u e).stay (fun c v hc q=>k c v ?_ q) (fun _ q=>q) fun _ _ q=>q
    rcases hc with z | z
    · rw [z]; exact nit b u e
    · exact nit c _ z
theorem Inv.tok (I:Inv X pins σ H s) (t:Nat):Inv X pins σ H { s with toks:=t }:=I.un (h':=s.heap) (t':=t) Un.refl I.hok
theorem Inv.kept {t':Nat} (I:Inv X pins σ H s) (k:∀ b u,s.heap.get? b=some u→h'.get? b=some u):Inv X pins σ H { s with heap:=h',toks:=t' }:=I.un (Un.kept k) (I.hok.kept k)
theorem Inv.laid {a:Addr} {o:HO} {t':Nat} (I:Inv X pins σ H s) (k:∀ b u,s.heap.get? b=some u→h'.get? b=some u) (hp:s.heap.objs.size≤a) (new:ObjOk X.prog X.w (upd H a o) h' a o) :
    Inv X pins σ (upd H a o) { s with heap:=h',toks:=t' }:=I.un (Un.laid k hp (I.hok.fresh hp)) (I.hok.laid k hp new)
theorem Inv.write {x e:Addr} {o:HO} {t':Nat} (I:Inv X pins σ H s) (mu:Mut (H x)) (he:e=x∨H e=some (.own x)) (k:∀ b u,b≠e→s.heap.get? b=some u→h'.get? b=some u) (heo:∃ u,h'.get? e=some u)
    (new:ObjOk X.prog X.w (upd H x o) h' x o):Inv X pins σ (upd H x o) { s with heap:=h',toks:=t' }:=I.un (Un.write mu he k heo) (I.hok.write mu he k heo new)
theorem Inv.weak {σ':List (Option V)} (I:Inv X pins σ H s) (hl:σ'.length=σ.length) (w:∀ (i:Nat) v,σ'[i]?=some (some v)→σ[i]?=some (some v)):Inv X pins σ' H s :=
  ⟨I.ok,I.os,I.bare,I.base,let ⟨m,hn,hl'⟩:=I.loc; ⟨m,hn,fun i x v e1 e2 e3=>hl' i x v e1 (w i v e2) e3⟩,I.cell,I.free,I.freeC,I.pin,I.hok,hl.trans I.len⟩
theorem Inv.pins_of {pins':List (Addr×Obj)} (I:Inv X pins σ H s) (h:∀ p∈pins',s.heap.get? p.1=some p.2∧H p.1=none∧p.1≠X.env.locals∧p.1 ∉ X.fs∧∀ v,p.2.data≠.cell v):Inv X pins' σ H s :=
  ⟨I.ok,I.os,I.bare,I.base,I.loc,I.cell,I.free,I.freeC,fun p hp=>(List.mem_append.mp hp).elim (fun z=>I.pin p (List.mem_append_left _ z)) (h p),I.hok,I.len⟩
theorem nodup_ix {N:List Str} (hN:N.Nodup) {i j:Nat} {x:Str} (a:N[i]?=some x) (b:N[j]?=some x):i=j:=by
  obtain ⟨h1,e1⟩:=List.getElem?_eq_some_iff.mp a
  obtain ⟨h2,e2⟩:=List.getElem?_eq_some_iff.mp b
  exact (List.getElem_inj hN).mp (e1.trans e2.symm)
theorem store_ok2 {M:Model} {A:Around} {E:Value→Shared→Prop} {i:Nat} {x:Str} {v:V} {u:Value} {Q:Unit→Shared→Prop} (I:Inv X pins σ H s) (hN:X.N.Nodup) (hi:X.N[i]?=some x) (hx:Loc X.env.scope x) (r:RelV v u)
    (h:∀ s',Inv X pins (σ.set i (some v)) H s'→(∃ a,Heap.SameBut a s.heap s'.heap∧(a=X.env.locals∨X.env.cells.lookup x=some a))→Q () s') (hf:X.fn x=true∨X.env.scope.names.lookup x=some .local:=by first | exact .inl rfl | exact .inr rfl | assumption):wpAny M A (storeName X.env x u) Q E s:=by
  obtain ⟨m,hn,hl⟩:=id I.loc
  have hcls:(X.env.scope.kind == .class || (X.env.scope.kind == .module && X.env.locals != X.env.globals))=false:=by rw [I.ok.kind]; rfl
  have hiσ:i < σ.length:=by rw [I.len]; exact (List.getElem?_eq_some_iff.mp hi).1
  have cne:=I.cne
  have tracked:∀ {a:Addr} {h':Heap},(∃ o,s.heap.get? a=some o∧H a=none)→Heap.SameBut a s.heap h'→HOk X.prog X.w H h':=fun {a h'} ha hs b ob e=>by
    obtain ⟨_,_,hfree⟩:=ha
    refine (I.hok b ob e).stay (fun c w' hc q=>(hs.2 c ?_).trans q) (fun _ q=>q) fun _ _ q=>q
    rintro rfl
    rcases hc with rfl | hc
    · rw [hfree] at e; cases e
    · rw [hfree] at hc; cases hc
  rcases hx with hk | hk
  · refine wpAny_storeName_local hk hn (fun h' hn' hs=>?_) hcls
    obtain ⟨oL,_,_,hoL,_⟩:=id hn
    refine h _ ⟨I.ok,I.os,I.bare,⟨fun b o e n hb hx=>?_,fun b o e n hb hx=>?_,I.base.free,fun b o e hx=>?_,I.base.tups,I.base.frzs,I.base.tbls⟩,⟨_,hn',fun j y v' e1 e2 e3=>?_⟩,fun y c e=>?_,I.free,I.freeC,fun p hp=>?_,tracked ⟨oL,hoL,I.free⟩ hs,by simpa using I.len⟩ ⟨_,hs,.inl rfl⟩
    · exact (hs.2 b (Nat.ne_of_lt (Nat.lt_of_lt_of_le (Heap.lt_size e) I.ok.above))).trans (I.base.keep b o e n hb hx)
    · obtain ⟨sl,e1⟩:=I.base.slot b o e n hb hx
      exact ⟨sl,(hs.2 b (Nat.ne_of_lt (Nat.lt_of_lt_of_le (Heap.lt_size e) I.ok.above))).trans e1⟩
    · obtain ⟨o',e1⟩:=I.base.there b o e hx
      exact ⟨o',(hs.2 b (Nat.ne_of_lt (Nat.lt_of_lt_of_le (Heap.lt_size e) I.ok.above))).trans e1⟩
    · by_cases hj:j=i
      · subst hj
        rw [hi] at e1; cases e1
        rw [List.getElem?_set_self hiσ] at e2
        cases e2
        exact ⟨u,r,.inl ⟨hk,by simp⟩⟩
      · rw [List.getElem?_set_ne (Ne.symm hj)] at e2
        obtain ⟨u',r',q⟩:=hl j y v' e1 e2 e3
        refine ⟨u',r',?_⟩
        rcases q with ⟨k,e⟩ | ⟨k,c,e,z⟩
        · refine .inl ⟨k,?_⟩
          have:y≠x:=fun e=>hj (nodup_ix hN e1 (e ▸ hi))
          simp [this,e]
        · exact .inr ⟨k,c,e,z.sameBut hs (cne y c e)⟩
    · obtain ⟨w',z⟩:=I.cell y c e
      exact ⟨w',z.sameBut hs (cne y c e)⟩
    · obtain ⟨e,n,ne,nf,d⟩:=I.pin p hp
      exact ⟨(hs.2 p.1 ne).trans e,n,ne,nf,d⟩
  · have hfn:X.fn x=true:=by
      rcases hf with z | z
      · exact z
      · rw [z] at hk; cases hk
    obtain ⟨c,hc⟩:=I.ok.has x (.inl hk)
    obtain ⟨w',z⟩:=I.cell x c hc
    refine wpAny_storeName_cell I.ok.kind hk hc z (fun h' hc' hs=>?_)
    obtain ⟨oc,hoc,hocd⟩:=id z
    refine h { s with heap:=h' } ⟨I.ok,I.os,I.bare,⟨fun b o e n hb hx=>?_,fun b o e n hb hx=>?_,I.base.free,fun b o e hx=>?_,I.base.tups,I.base.frzs,I.base.tbls⟩,⟨m,hn.sameBut hs (Ne.symm (cne x c hc)),fun j y v' e1 e2 e3=>?_⟩,fun y c' e=>?_,I.free,I.freeC,fun p hp=>?_,tracked ⟨oc,hoc,I.freeC x c hc⟩ hs,by simpa using I.len⟩ ⟨c,hs,.inr hc⟩
    · exact (hs.2 b (Nat.ne_of_lt (Nat.lt_of_lt_of_le (Heap.lt_size e) (I.ok.cab x c hfn hc)))).trans (I.base.keep b o e n hb hx)
    · obtain ⟨sl,e1⟩:=I.base.slot b o e n hb hx
      exact ⟨sl,(hs.2 b (Nat.ne_of_lt (Nat.lt_of_lt_of_le (Heap.lt_size e) (I.ok.cab x c hfn hc)))).trans e1⟩
    · obtain ⟨o',e1⟩:=I.base.there b o e hx
      exact ⟨o',(hs.2 b (Nat.ne_of_lt (Nat.lt_of_lt_of_le (Heap.lt_size e) (I.ok.cab x c hfn hc)))).trans e1⟩
    · by_cases hj:j=i
      · subst hj
        rw [hi] at e1; cases e1
        rw [List.getElem?_set_self hiσ] at e2
        cases e2
        exact ⟨u,r,.inr ⟨.inl hk,c,hc,hc'⟩⟩
      · rw [List.getElem?_set_ne (Ne.symm hj)] at e2
        obtain ⟨u',r',q⟩:=hl j y v' e1 e2 e3
        refine ⟨u',r',?_⟩
        rcases q with q | ⟨k,c',e,z'⟩
        · exact .inl q
        · refine .inr ⟨k,c',e,z'.sameBut hs ?_⟩
          rintro rfl
          exact hj (nodup_ix hN e1 (I.ok.inj _ _ _ e hc ▸ hi))
    · by_cases hcc:c'=c
      · subst hcc; exact ⟨_,hc'⟩
      · obtain ⟨w2,z2⟩:=I.cell y c' e
        exact ⟨w2,z2.sameBut hs hcc⟩
    · obtain ⟨e,n,ne,nf,d⟩:=I.pin p hp
      refine ⟨(hs.2 p.1 ?_).trans e,n,ne,nf,d⟩
      intro q
      rw [q,hoc] at e
      have q':oc=p.2:=Option.some.inj e
      exact d w' (by rw [← q']; exact hocd)
theorem store_ok {M:Model} {A:Around} {E:Value→Shared→Prop} {i:Nat} {x:Str} {v:V} {u:Value} {Q:Unit→Shared→Prop} (I:Inv X pins σ H s) (hN:X.N.Nodup) (hi:X.N[i]?=some x) (hx:Loc X.env.scope x) (r:RelV v u)
    (h:∀ s',Inv X pins (σ.set i (some v)) H s'→Q () s') (hf:X.fn x=true∨X.env.scope.names.lookup x=some .local:=by first | exact .inl rfl | exact .inr rfl | assumption):wpAny M A (storeName X.env x u) Q E s :=
  store_ok2 I hN hi hx r (fun s' I' _=>h s' I') hf
theorem Inv.call' {s':Shared} {ch:List Addr} (I:Inv X pins σ H s) (ho:s'.os=s.os) (u:Un (frs X.stack) ch H H' s.heap s'.heap) (hok:HOk X.prog X.w H' s'.heap) (hg:AllBare s'.gens)
    (hch:∀ b∈ch,(b∈X.ex∨X.s₀.heap.objs.size≤b)∧b≠X.env.locals∧(∀ x c,X.env.cells.lookup x=some c→c≠b)∧∀ p∈X.pn++pins,p.1≠b):Inv X pins σ H' s':=by
  obtain ⟨h',g',d',t',o'⟩:=s'
  have e:o'=s.os:=ho
  subst e
  exact I.call (g':=g') (t':=t') (d':=d') u hok hg hch
end
abbrev XK:=Value→Option Addr→Hp→Prop
abbrev St:=List (Option V)
abbrev VK:=V→Hp→Prop
abbrev TE:=St→Hp→VK→Prop
abbrev TT:=St→Hp→(Bool→Hp→Prop)→Prop
abbrev TA:=St→Hp→(List V→Hp→Prop)→Prop
structure Ends where
  nx:St→Hp→Prop
  rt:VK
  bk:St→Hp→Prop:=fun _ _=>False
  ct:St→Hp→Prop:=fun _ _=>False
abbrev TS:=Ends→St→Hp→Prop
def EP (X:Cx) (pins:List (Addr×Obj)) (σ:St) (Q:VK) (u:Value) (s':Shared):Prop:=∃ v H',Inv X pins σ H' s'∧RelV v u∧Q v H'
def TP (X:Cx) (pins:List (Addr×Obj)) (σ:St) (Q:Bool→Hp→Prop) (b:Bool) (s':Shared):Prop:=∃ H',Inv X pins σ H' s'∧Q b H'
def AP (X:Cx) (pins:List (Addr×Obj)) (σ:St) (Q:List V→Hp→Prop) (us:List Value) (s':Shared):Prop:=∃ vs H',Inv X pins σ H' s'∧Vals vs us∧Q vs H'
def SP (X:Cx) (pins:List (Addr×Obj)) (D:Ends) (f:Flow) (s':Shared):Prop :=
  match f with
  | .next=>∃ σ' H',Inv X pins σ' H' s'∧D.nx σ' H'
  | .brk=>∃ σ' H',Inv X pins σ' H' s'∧D.bk σ' H'
  | .cont=>∃ σ' H',Inv X pins σ' H' s'∧D.ct σ' H'
  | .ret u=>∃ v σ' H',Inv X pins σ' H' s'∧RelV v u∧D.rt v H'
def PE (X:Cx) (e:Expr) (t:TE):Prop :=
  ∀ (pins:List (Addr×Obj)) (s:Shared) (σ:St) (H:Hp) (Q:VK),Inv X pins σ H s→t σ H Q→wpAny (model X.prog X.w) X.A (eval e X.env) (EP X pins σ Q) X.xe s
def PT (X:Cx) (e:Expr) (t:TT):Prop :=
  ∀ (pins:List (Addr×Obj)) (s:Shared) (σ:St) (H:Hp) (Q:Bool→Hp→Prop),Inv X pins σ H s→t σ H Q→wpAny (model X.prog X.w) X.A (isTrue e X.env (eval e X.env)) (TP X pins σ Q) X.xe s
def PW (X:Cx) (e:Expr) (t:TT):Prop :=
  ∀ (whole:Sem Value) (pins:List (Addr×Obj)) (s:Shared) (σ:St) (H:Hp) (Q:Bool→Hp→Prop),Inv X pins σ H s→t σ H Q→wpAny (model X.prog X.w) X.A (isTrue e X.env whole) (TP X pins σ Q) X.xe s
theorem PW.pt {X:Cx} {e:Expr} {t:TT} (h:PW X e t):PT X e t:=h _
def PA (X:Cx) (es:List Expr) (t:TA):Prop :=
  ∀ (pos:Pos) (pins:List (Addr×Obj)) (s:Shared) (σ:St) (H:Hp) (Q:List V→Hp→Prop),Inv X pins σ H s→t σ H Q→wpAny (model X.prog X.w) X.A (spliced (backTo pos (starEach es X.env))) (AP X pins σ Q) X.xe s
def PS (X:Cx) (st:Stmt) (t:TS):Prop :=
  ∀ (pins:List (Addr×Obj)) (s:Shared) (σ:St) (H:Hp) (D:Ends),Inv X pins σ H s→t D σ H→wpAny (model X.prog X.w) X.A (exec st X.env) (SP X pins D) X.xe s
def PSs (X:Cx) (st:List Stmt) (t:TS):Prop :=
  ∀ (pins:List (Addr×Obj)) (s:Shared) (σ:St) (H:Hp) (D:Ends),Inv X pins σ H s→t D σ H→wpAny (model X.prog X.w) X.A (execs st X.env) (SP X pins D) X.xe s
theorem thn {α:Type} {t:Sem α} {Q Q':α→Shared→Prop} {M:Model} {A:Around} {E:Value→Shared→Prop} {s:Shared} (h:wpAny M A t Q E s) (hQ:∀ a s,Q a s→Q' a s):wpAny M A t Q' E s:=wpAny_mono h hQ fun _ _ x=>x
end L2
namespace L2
open PySem PySem.Spec PyProof.Rows
section
variable {X:Cx}
theorem bin {a b:Expr} {ta tb:TE} (ha:PE X a ta) (hb:PE X b tb) {pins:List (Addr×Obj)} {s:Shared} {σ:St} {H:Hp} {R:V→V→Hp→Prop} (I:Inv X pins σ H s) (h:ta σ H fun x H1=>tb σ H1 fun y H2=>R x y H2)
    {α:Type} {Q:α→Shared→Prop} {f:Value→Value→Sem α}
    (hf:∀ v u s2 x y H2,Inv X pins σ H2 s2→RelV x v→RelV y u→R x y H2→wpAny (model X.prog X.w) X.A (f v u) Q X.xe s2) :
    wpAny (model X.prog X.w) X.A (eval a X.env) (fun v s₁=>wpAny (model X.prog X.w) X.A (eval b X.env) (fun u s₂=>wpAny (model X.prog X.w) X.A (f v u) Q X.xe s₂) X.xe s₁) X.xe s:=by
  refine thn (ha pins s σ H _ I h) fun v s1 ⟨x,H1,I1,r1,q1⟩=>?_
  refine thn (hb pins s1 σ H1 _ I1 q1) fun u s2 ⟨y,H2,I2,r2,q2⟩=>?_
  exact hf v u s2 x y H2 I2 r1 r2 q2
def tVar (i:Nat):TE:=fun σ H Q=>∃ v,σ[i]?=some (some v)∧Q v H
def tC (v:V):TE:=fun _ H Q=>Q v H
theorem pe_var {i:Nat} {x:Str} {pos:Pos} (hN:X.N[i]?=some x) (hv:Vis X.env.scope x) (hd:(x == ("__debug__":Str))=false:=by decide) (hcd:(x == ("__classdict__":Str))=false:=by decide):PE X (.Name x pos) (tVar i):=by
  intro pins s σ H Q I h
  obtain ⟨v,e,h⟩:=h
  obtain ⟨m,hn,hl⟩:=I.loc
  obtain ⟨u,r,l⟩:=hl i x v hN e hv
  have fin:EP X pins σ Q u s:=⟨v,H,I,r,h⟩
  rcases l with ⟨hk,hm⟩ | ⟨hk,c,hc,hcell⟩
  · exact wpAny_Name (wpAny_loadName_local I.ok.kind hk hn hm fin) hd
  · rcases hk with hk | hk
    · exact wpAny_Name (wpAny_loadName_cell I.ok.kind hk hc hcell fin) hd
    · exact wpAny_Name (wpAny_loadName_free I.ok.kind hk hc hcell fin hcd) hd
theorem pe_int {i j pos}:PE X (.Constant (.int i) j pos) (tC (.int i)):=fun _ _ _ H _ I h=>wpAny_Constant_int ⟨.int i,H,I.tok _,⟨_,rfl⟩,h⟩
theorem pe_bl {b j pos}:PE X (.Constant (.bool b) j pos) (tC (.bl b)):=fun _ _ _ H _ I h=>Constant_bool ⟨.bl b,H,I,rfl,h⟩
theorem pe_non {j pos}:PE X (.Constant .none j pos) (tC .non):=fun _ _ _ H _ I h=>Constant_none ⟨.non,H,I,rfl,h⟩
theorem pe_str {x j pos}:PE X (.Constant (.str x) j pos) (tC (.str x)):=fun _ _ _ H _ I h=>Calls.Constant_str ⟨.str x,H,I.tok _,⟨_,rfl⟩,h⟩
def Gl (X:Cx) (x:Str):Prop:=X.env.kindOf x=some .globalImplicit
theorem ld_glob {E:Value→Shared→Prop} {pins:List (Addr×Obj)} {s:Shared} {σ:St} {H:Hp} {x:Str} {u:Value} {pos:Pos} {Q:Value→Shared→Prop} (I:Inv X pins σ H s) (hg:Gl X x) (hm:X.mg x=some u) (h:Q u s)
    (hd:(x == ("__debug__":Str))=false:=by decide):wpAny (model X.prog X.w) X.A (eval (.Name x pos) X.env) Q E s :=
  Calls.Name_function_global I.ok.kind hg (Calls.loadGlobal_global (by rw [I.ok.glob]; exact I.mod.glob.keeps I.bk) hm h) hd
theorem ld_blt {E:Value→Shared→Prop} {pins:List (Addr×Obj)} {s:Shared} {σ:St} {H:Hp} {x:Str} {u:Value} {pos:Pos} {Q:Value→Shared→Prop} (I:Inv X pins σ H s) (hg:Gl X x) (hm:X.mg x=none) (hv:bootBuiltins x=some u) (h:Q u s)
    (hn:x≠"__name__":=by decide) (hd:(x == ("__debug__":Str))=false:=by decide):wpAny (model X.prog X.w) X.A (eval (.Name x pos) X.env) Q E s:=by
  obtain ⟨mb,h1,h2⟩:=I.mod.blt
  exact Calls.Name_function_global I.ok.kind hg (Calls.loadGlobal_builtin (by rw [I.ok.glob]; exact I.mod.glob.keeps I.bk) hm (by rw [I.ok.blt]; exact h1.keeps I.bk) ((h2 x hn).trans hv) h) hd
theorem pe_glob {x:Str} {v:V} {u:Value} {pos:Pos} (hg:Gl X x) (hm:X.mg x=some u) (r:RelV v u) (hd:(x == ("__debug__":Str))=false:=by decide):PE X (.Name x pos) (tC v) :=
  fun _ _ _ H _ I h=>ld_glob I hg hm ⟨v,H,I,r,h⟩ hd
variable {a b:Expr} {ta tb:TE} {pos:Pos}
def PC (X:Cx) (op:CmpOp) (a b:Expr) (t:TE):Prop :=
  ∀ (pins:List (Addr×Obj)) (s:Shared) (σ:St) (H:Hp) (Q:VK),Inv X pins σ H s→t σ H Q →
    wpAny (model X.prog X.w) X.A (eval a X.env) (fun v s₁=>wpAny (model X.prog X.w) X.A (eval b X.env) (fun u s₂=>wpAny (model X.prog X.w) X.A (compareOp op v u) (EP X pins σ Q) X.xe s₂) X.xe s₁) X.xe s
def tB (t:TE):TT:=fun σ H Q=>t σ H fun x H1=>∃ c,x=.bl c∧Q c H1
theorem pt_cmp {op:CmpOp} {t:TE} (h:PC X op a b t) (h1:behindInMarks op b=false:=by first | exact nobehind _ (by decide) (by decide) | rfl):PT X (.Compare a [op] [b] pos) (tB t):=by
  intro pins s σ H Q I hw
  refine wpAny_isTrue_Compare1 (thn (h pins s σ H _ I hw) fun v s1 h1=>thn h1 fun u s2 h2=>thn h2 fun c s3 ⟨x,H1,I1,r1,q1⟩=>?_) h1
  obtain ⟨d,rfl,q⟩:=q1
  cases r1
  exact wpAny_truthy_bool ⟨H1,I1,q⟩
theorem pt_val {e:Expr} {t:TE} (h:PE X e t) (he:∀ whole,isTrue e X.env whole=(do let v ← whole; standAt e.pos; holding [v] (truthy v)):=by intro _; rfl):PT X e (tB t):=by
  intro pins s σ H Q I hw
  refine isTrue_plain (thn (h pins s σ H _ I hw) fun v s1 ⟨x,H1,I1,r1,q1⟩=>?_) (he _)
  obtain ⟨d,rfl,q⟩:=q1
  cases r1
  exact wpAny_truthy_bool ⟨H1,I1,q⟩
variable {tA tB':TT} {rest:List Expr}
def tAnd (t u:TT):TT:=fun σ H Q=>t σ H fun c H1=>if c=true then u σ H1 Q else Q false H1
def tOr (t u:TT):TT:=fun σ H Q=>t σ H fun c H1=>if c=true then Q true H1 else u σ H1 Q
def tNot (t:TT):TT:=fun σ H Q=>t σ H fun c H1=>Q (!c) H1
theorem pw_and1 (ha:PT X a tA):PW X (.BoolOp .And [a] pos) tA:=by
  intro wh pins s σ H Q I h
  refine isTrue_and (thn (ha pins s σ H Q I h) fun c s1 e=>?_)
  cases c with
  | true=>exact isTrue_and_nil e
  | false=>exact e
theorem pw_or1 (ha:PT X a tA):PW X (.BoolOp .Or [a] pos) tA:=by
  intro wh pins s σ H Q I h
  refine isTrue_or (thn (ha pins s σ H Q I h) fun c s1 e=>?_)
  cases c with
  | false=>exact isTrue_or_nil e
  | true=>exact e
theorem pw_and (ha:PT X a tA) (hb:PW X (.BoolOp .And (b::rest) pos) tB'):PW X (.BoolOp .And (a::b::rest) pos) (tAnd tA tB'):=by
  intro wh pins s σ H Q I h
  refine isTrue_and (thn (ha pins s σ H _ I h) fun c s1 ⟨H1,I1,q1⟩=>?_)
  cases c with
  | true=>exact hb wh pins s1 σ H1 Q I1 q1
  | false=>exact ⟨H1,I1,q1⟩
theorem pw_or (ha:PT X a tA) (hb:PW X (.BoolOp .Or (b::rest) pos) tB'):PW X (.BoolOp .Or (a::b::rest) pos) (tOr tA tB'):=by
  intro wh pins s σ H Q I h
  refine isTrue_or (thn (ha pins s σ H _ I h) fun c s1 ⟨H1,I1,q1⟩=>?_)
  cases c with
  | true=>exact ⟨H1,I1,q1⟩
  | false=>exact hb wh pins s1 σ H1 Q I1 q1
theorem pt_not (ha:PT X a tA):PT X (.UnaryOp .Not a pos) (tNot tA):=by
  intro pins s σ H Q I h
  exact isTrue_not (ha pins s σ H (fun c H1=>Q (!c) H1) I h)
def tAndV (ta tb:TE):TE:=fun σ H Q=>ta σ H fun x H1=>∃ c,x=.bl c∧if c=true then tb σ H1 Q else Q (.bl false) H1
def tOrV (ta tb:TE):TE:=fun σ H Q=>ta σ H fun x H1=>∃ c,x=.bl c∧if c=true then Q (.bl true) H1 else tb σ H1 Q
theorem pe_one {op} {t:TE} (h:PE X a t):PE X (.BoolOp op [a] pos) t:=fun pins s σ H Q I hw=>BoolOp_one (h pins s σ H Q I hw)
theorem pe_and (ha:PE X a ta) (hb:PE X (.BoolOp .And (b::rest) pos) tb):PE X (.BoolOp .And (a::b::rest) pos) (tAndV ta tb):=by
  intro pins s σ H Q I h
  refine BoolOp_and (thn (ha pins s σ H _ I h) fun v s1 ⟨x,H1,I1,r1,q1⟩=>?_)
  obtain ⟨c,rfl,q1⟩:=q1
  cases r1
  refine wpAny_truthy_bool ?_
  cases c with
  | true=>exact hb pins s1 σ H1 Q I1 q1
  | false=>exact ⟨.bl false,H1,I1,rfl,q1⟩
theorem pe_or (ha:PE X a ta) (hb:PE X (.BoolOp .Or (b::rest) pos) tb):PE X (.BoolOp .Or (a::b::rest) pos) (tOrV ta tb):=by
  intro pins s σ H Q I h
  refine BoolOp_or (thn (ha pins s σ H _ I h) fun v s1 ⟨x,H1,I1,r1,q1⟩=>?_)
  obtain ⟨c,rfl,q1⟩:=q1
  cases r1
  refine wpAny_truthy_bool ?_
  cases c with
  | false=>exact hb pins s1 σ H1 Q I1 q1
  | true=>exact ⟨.bl true,H1,I1,rfl,q1⟩
end
end L2
namespace L2
open PySem PySem.Spec PyProof.Rows
def SqL (K:PySem.W.Frag) (H:Hp) (a:Addr) (xs:List V):Prop :=
  Rd H a (.lst xs) ∨
    ∃ (o:Obj) (its:Array Value) (n:Nat),K.lookup a=some o∧o.cls=.type "list"∧o.dict=none∧o.data=.seq its n∧its.size≤sizeLine∧Vals xs its.toList
def SqT (K:PySem.W.Frag) (H:Hp) (a:Addr) (xs:List V):Prop :=
  Rd H a (.tup xs) ∨
    ∃ (o:Obj) (its:Array Value) (n:Nat),K.lookup a=some o∧o.cls=.type "tuple"∧o.data=.seq its n∧its.size≤sizeLine∧Vals xs its.toList
def absV:Value→Option V
  | .none=>some .non
  | .bool b=>some (.bl b)
  | .int i _=>some (.int i)
  | .str x _=>some (.str x)
  | .bytes b _=>some (.byt b)
  | .float b _=>some (.flt b)
  | .ref a=>some (.ref a)
  | .type n=>some (.ty n)
  | _=>none
theorem RelV.abs {x:V} {u:Value} (r:RelV x u):absV u=some x:=by
  cases x with
  | non=>cases r; rfl
  | bl _=>cases r; rfl
  | int _=>obtain ⟨t,rfl⟩:=r; rfl
  | str _=>obtain ⟨t,rfl⟩:=r; rfl
  | byt _=>obtain ⟨t,rfl⟩:=r; rfl
  | flt _=>obtain ⟨t,rfl⟩:=r; rfl
  | ref _=>cases r; rfl
  | ty _=>cases r; rfl
theorem RelV.inj {x y:V} {u:Value} (r:RelV x u) (q:RelV y u):x=y:=Option.some.inj (r.abs.symm.trans q.abs)
theorem Vals.inj:∀ {xs ys:List V} {us:List Value},Vals xs us→Vals ys us→xs=ys
  | _,_,_,.nil,.nil=>rfl
  | _,_,_,.cons r t,.cons r' t'=>by rw [r.inj r',Vals.inj t t']
section
variable {X:Cx} {pins:List (Addr×Obj)} {σ:St} {H:Hp} {s:Shared} {a:Addr} {xs ys:List V}
theorem SqL.of {K:PySem.W.Frag} (h:H a=some (.lst xs)):SqL K H a xs:=.inl (.inl h)
theorem SqT.of {K:PySem.W.Frag} (h:H a=some (.tup xs)):SqT K H a xs:=.inl (.inl h)
theorem Inv.list (I:Inv X pins σ H s) (h:SqL X.K H a xs):∃ its:List Value,Vals xs its∧PlainL s.heap a its.toArray∧xs.length≤sizeLine:=by
  rcases h with h | ⟨o,its,n,hk,hc,hd,hs,hz,r⟩
  · obtain ⟨z,its,n,r,e⟩:=h.ok I.hok
    exact ⟨its,r,⟨_,n,e,rfl,rfl,rfl⟩,z⟩
  · refine ⟨its.toList,r,⟨o,n,I.kIn a o hk,hc,hd,by simpa using hs⟩,?_⟩
    have e:=r.length
    simp only [Array.length_toList] at e
    omega
theorem Inv.tuple (I:Inv X pins σ H s) (h:SqT X.K H a xs):∃ its:List Value,Vals xs its∧IsTup s.heap a its.toArray∧xs.length≤sizeLine:=by
  rcases h with h | ⟨o,its,n,hk,hc,hs,hz,r⟩
  · obtain ⟨z,its,r,p⟩:=h.ok I.hok
    exact ⟨its,r,p,z⟩
  · refine ⟨its.toList,r,⟨o,I.kIn a o hk,hc,n,by simpa using hs⟩,?_⟩
    have e:=r.length
    simp only [Array.length_toList] at e
    omega
theorem Inv.list_inj (I:Inv X pins σ H s) (h:SqL X.K H a xs) (h':SqL X.K H a ys):xs=ys:=by
  obtain ⟨its,r,⟨o,n,e,_,_,d⟩,_⟩:=I.list h
  obtain ⟨its',r',⟨o',n',e',_,_,d'⟩,_⟩:=I.list h'
  rw [e] at e'; cases e'
  rw [d] at d'
  injection d' with d1 _
  have:its=its':=by simpa using congrArg Array.toList d1
  subst this
  exact r.inj r'
end
abbrev Cx.wish (X:Cx) (E:Value→Shared→Prop):Cx:={ X with xe:=E }
abbrev Cx.nox (X:Cx):Cx:=X.wish fun _ _=>False
theorem Cx.Ok.wish {X:Cx} (ok:X.Ok) (E:Value→Shared→Prop):(X.wish E).Ok :=
  ⟨ok.mod,ok.kind,ok.glob,ok.blt,ok.above,ok.inj,ok.has,ok.cab,ok.hd,ok.frames,ok.stk,ok.exf,ok.bs,ok.bsz,ok.noex,ok.exfs,ok.funs,ok.frf⟩
theorem Cx.Ok.unwish {X:Cx} {E:Value→Shared→Prop} (ok:(X.wish E).Ok):X.Ok :=
  ⟨ok.mod,ok.kind,ok.glob,ok.blt,ok.above,ok.inj,ok.has,ok.cab,ok.hd,ok.frames,ok.stk,ok.exf,ok.bs,ok.bsz,ok.noex,ok.exfs,ok.funs,ok.frf⟩
section
variable {X:Cx} {pins:List (Addr×Obj)} {σ:St} {H:Hp} {s:Shared} {E:Value→Shared→Prop}
theorem Inv.wish (I:Inv X pins σ H s) (E:Value→Shared→Prop):Inv (X.wish E) pins σ H s:=⟨I.ok.wish E,I.os,I.bare,I.base,I.loc,I.cell,I.free,I.freeC,I.pin,I.hok,I.len⟩
theorem Inv.unwish (I:Inv (X.wish E) pins σ H s):Inv X pins σ H s:=⟨I.ok.unwish,I.os,I.bare,I.base,I.loc,I.cell,I.free,I.freeC,I.pin,I.hok,I.len⟩
theorem SP.unwish {D:Ends} {f:Flow} {s':Shared} (h:SP (X.wish E) pins D f s'):SP X pins D f s':=by
  cases f with
  | next=>obtain ⟨σ',H',I,q⟩:=h; exact ⟨σ',H',I.unwish,q⟩
  | brk=>obtain ⟨σ',H',I,q⟩:=h; exact ⟨σ',H',I.unwish,q⟩
  | cont=>obtain ⟨σ',H',I,q⟩:=h; exact ⟨σ',H',I.unwish,q⟩
  | ret u=>obtain ⟨v,σ',H',I,r,q⟩:=h; exact ⟨v,σ',H',I.unwish,r,q⟩
theorem PSs.nox {st:List Stmt} {t:TS} (h:PSs X.nox st t):PSs X st t:=fun pins s σ H D I hw =>
  wpAny_mono (h pins s σ H D (I.wish _) hw) (fun _ _ q=>q.unwish) fun _ _ z=>False.elim z
end
section
variable {X:Cx} {st:Stmt} {rest:List Stmt} {t u:TS} {e:Expr} {te:TE} {pos:Pos}
def tNext:TS:=fun D σ H=>D.nx σ H
def tSeq (t u:TS):TS:=fun D σ H=>t { D with nx:=u D } σ H
theorem pss_nil:PSs X [] tNext:=fun _ _ σ H _ I h=>wpAny_execs_nil ⟨σ,H,I,h⟩
theorem pss_cons (h1:PS X st t) (h2:PSs X rest u):PSs X (st::rest) (tSeq t u):=by
  intro pins s σ H D I h
  refine wpAny_execs_cons (thn (h1 pins s σ H { D with nx:=u D } I h) fun f s1 q=>?_)
  cases f with
  | next =>
    obtain ⟨σ',H',I',q⟩:=q
    exact h2 pins s1 σ' H' D I' q
  | ret v=>exact q
  | brk=>exact q
  | cont=>exact q
theorem pss_one (h1:PS X st t):PSs X [st] t:=by
  intro pins s σ H D I h
  refine wpAny_execs_cons (thn (h1 pins s σ H D I h) fun f s1 q=>?_)
  cases f with
  | next=>exact wpAny_execs_nil q
  | ret v=>exact q
  | brk=>exact q
  | cont=>exact q
theorem Inv.quiet {pins:List (Addr×Obj)} {σ:St} {H:Hp} {s:Shared} (I:Inv X pins σ H s):interactive X.env=false:=by simp [interactive,I.ok.kind]
def tDrop (te:TE):TS:=fun D σ H=>te σ H fun _ H1=>D.nx σ H1
theorem ps_expr (he:PE X e te) (hs:swapsWith e none pos.line X.env=pure false:=by rfl):PS X (.Expr e pos) (tDrop te):=by
  intro pins s σ H D I h
  exact wpAny_Expr_any (thn (he pins s σ H _ I h) fun v s1 ⟨x,H1,I1,r1,q1⟩=>⟨σ,H1,I1,q1⟩) I.quiet hs
def tRet (te:TE):TS:=fun D σ H=>te σ H D.rt
theorem ps_ret (he:PE X e te):PS X (.Return (some e) pos) (tRet te):=by
  intro pins s σ H D I h
  exact wpAny_Return_some (thn (he pins s σ H _ I h) fun v s1 ⟨x,H1,I1,r1,q1⟩=>⟨x,σ,H1,I1,r1,q1⟩)
def tRetN:TS:=fun D _ H=>D.rt .non H
theorem ps_retN:PS X (.Return none pos) tRetN:=fun _ _ σ H _ I h=>wpAny_Return_none ⟨.non,σ,H,I,rfl,h⟩
def tIfS (c:TT) (t u:TS):TS:=fun D σ H=>c σ H fun b H1=>if b=true then t D σ H1 else u D σ H1
theorem ps_if {c:Expr} {a b:List Stmt} {tc:TT} (hc:PT X c tc) (ha:PSs X a t) (hb:PSs X b u):PS X (.If c a b pos) (tIfS tc t u):=by
  intro pins s σ H D I h
  refine wpAny_If (thn (hc pins s σ H _ I h) fun d s1 ⟨H1,I1,q1⟩=>?_)
  cases d with
  | true=>exact ha pins s1 σ H1 D I1 q1
  | false=>exact hb pins s1 σ H1 D I1 q1
def tNever:TS:=fun _ _ _=>False
end
abbrev TG:=V→St→Hp→(St→Hp→Prop)→Prop
abbrev TGs:=List V→St→Hp→(St→Hp→Prop)→Prop
def PG (X:Cx) (target:Expr) (t:TG):Prop :=
  ∀ (pins:List (Addr×Obj)) (s:Shared) (σ:St) (H:Hp) (v:V) (u:Value) (Q:St→Hp→Prop),Inv X pins σ H s→RelV v u→t v σ H Q →
    wpAny (model X.prog X.w) X.A (assign target X.env u) (fun _ s'=>∃ σ' H',Inv X pins σ' H' s'∧Q σ' H') X.xe s
def PGs (X:Cx) (ts:List Expr) (t:TGs):Prop :=
  ∀ (pins:List (Addr×Obj)) (s:Shared) (σ:St) (H:Hp) (vs:List V) (us:List Value) (Q:St→Hp→Prop),Inv X pins σ H s→Vals vs us→t vs σ H Q →
    wpAny (model X.prog X.w) X.A (assignInOrder ((assignEach ts X.env).map (·.2)) us) (fun _ s'=>∃ σ' H',Inv X pins σ' H' s'∧Q σ' H') X.xe s
section
variable {X:Cx} {pos:Pos}
def gName (i:Nat):TG:=fun v σ H Q=>Q (σ.set i (some v)) H
theorem pg_name {i:Nat} {x:Str} (hN:X.N.Nodup) (hi:X.N[i]?=some x) (hx:Loc X.env.scope x) (hf:X.fn x=true∨X.env.scope.names.lookup x=some .local:=by first | exact .inl rfl | exact .inr rfl | assumption):PG X (.Name x pos) (gName i):=by
  intro pins s σ H v u Q I r h
  exact wpAny_assign_Name (store_ok I hN hi hx r (fun s' I'=>⟨_,H,I',h⟩) hf)
def gNil:TGs:=fun vs σ H Q=>vs=[]∧Q σ H
def gCons (t:TG) (u:TGs):TGs:=fun vs σ H Q=>∃ v r,vs=v::r∧t v σ H fun σ' H'=>u r σ' H' Q
theorem pgs_nil:PGs X [] gNil:=by
  intro pins s σ H vs us Q I r h
  obtain ⟨e,h⟩:=h
  subst e
  cases r
  exact assignInOrder_nil ⟨σ,H,I,h⟩
theorem pgs_cons {e:Expr} {es:List Expr} {t:TG} {u:TGs} (h1:PG X e t) (h2:PGs X es u)
    (hs:(assignEach (e::es) X.env).map (·.2)=assign e X.env::(assignEach es X.env).map (·.2):=by rfl):PGs X (e::es) (gCons t u):=by
  intro pins s σ H vs us Q I r h
  obtain ⟨v,vr,e1,h⟩:=h
  subst e1
  cases r with
  | cons r rr =>
    rw [hs]
    refine assignInOrder_cons (thn (h1 pins s σ H _ _ _ I r h) fun _ s1 ⟨σ1,H1,I1,q1⟩=>?_)
    exact h2 pins s1 σ1 H1 _ _ Q I1 rr q1
def gTup (K:PySem.W.Frag) (n:Nat) (t:TGs):TG:=fun v σ H Q=>∃ a xs,v=.ref a∧SqT K H a xs∧xs.length=n∧t xs σ H Q
theorem pg_tup {es:List Expr} {k:Nat} {t:TGs} {n:Nat} (hc:X.calm=true) (h:PGs X es t)
    (hn:(assignEach es X.env).length=n:=by rfl) (hst:(assignEach es X.env).findIdx? (·.1)=none:=by rfl):PG X (.Tuple es k pos) (gTup X.K n t):=by
  intro pins s σ H v u Q I r hw
  obtain ⟨a,xs,e1,hq,hl,hw⟩:=hw
  subst e1
  cases r
  obtain ⟨its,rv,ht,hz⟩:=I.tuple hq
  refine assign_Tuple_tuple (I.ok.hd hc) ht (by simp [hn,← hl,rv.length]) hst fun h' hx=>?_
  have I1:Inv X pins σ H { s with heap:=h' }:=I.kept (t':=s.toks) fun b o e=>hx b o (Nat.ne_of_lt (Heap.lt_size e)) e
  exact h pins _ σ H xs _ Q I1 (by simpa using rv) hw
def tAsg (te:TE) (g:TG):TS:=fun D σ H=>te σ H fun x H1=>g x σ H1 D.nx
theorem ps_set {i:Nat} {x:Str} {e:Expr} {te:TE} {pos':Pos} (hN:X.N.Nodup) (hi:X.N[i]?=some x) (hx:Loc X.env.scope x) (he:PE X e te) (hs:swapsWith e (some (.Name x pos')) pos.line X.env=pure false:=by rfl) (hf:X.fn x=true∨X.env.scope.names.lookup x=some .local:=by first | exact .inl rfl | exact .inr rfl | assumption) :
    PS X (.Assign [.Name x pos'] e pos) (tAsg te (gName i)):=by
  intro pins s σ H D I h
  refine wpAny_Assign_Name (thn (he pins s σ H _ I h) fun v s1 ⟨y,H1,I1,r1,q1⟩=>?_) hs
  exact store_ok I1 hN hi hx r1 (fun s2 I2=>⟨_,H1,I2,q1⟩) hf
end
section
variable {X:Cx} {pos:Pos}
def tWhile (c:TT) (tb:TS):TS:=fun D σ H=>∃ W:Nat→St→Hp→Prop,(∃ m,W m σ H)∧∀ m σ H,W m σ H →
  c σ H fun b H1=>if b=true then ∃ N:St→Hp→Prop,(∀ σ' H',N σ' H'→∃ m',m' < m∧W m' σ' H')∧tb { D with nx:=N,ct:=N,bk:=D.nx } σ H1 else D.nx σ H1
theorem ps_while {c:Expr} {body:List Stmt} {tc:TT} {tb:TS} (hp:PassesOwn (model X.prog X.w) X.A X.env X.xe) (hc:PT X c tc) (hb:PSs X body tb):PS X (.While c body [] pos) (tWhile tc tb):=by
  intro pins s σ H D I h
  obtain ⟨W,⟨m0,w0⟩,turn⟩:=h
  refine wpAny_While (codeAny_whileLoop (fun n s'=>∃ σ' H',Inv X pins σ' H' s'∧W n σ' H') ?_ m0 ⟨σ,H,I,w0⟩)
  rintro n s1 ⟨σ1,H1,I1,w1⟩
  refine wpAny_passesOwn hp (thn (hc pins s1 σ1 H1 _ I1 (turn n σ1 H1 w1)) fun b s2 ⟨H2,I2,q2⟩=>?_)
  cases b with
  | true =>
    obtain ⟨N,hN,q2⟩:=q2
    rw [if_pos rfl]
    refine wpAny_passesOwn hp (thn (hb pins s2 σ1 H2 _ I2 q2) fun f s3 q3=>?_)
    cases f with
    | next =>
      obtain ⟨σ3,H3,I3,n3⟩:=q3
      obtain ⟨m',hm,w3⟩:=hN σ3 H3 n3
      exact ⟨m',hm,σ3,H3,I3,w3⟩
    | cont =>
      obtain ⟨σ3,H3,I3,n3⟩:=q3
      obtain ⟨m',hm,w3⟩:=hN σ3 H3 n3
      exact ⟨m',hm,σ3,H3,I3,w3⟩
    | brk=>exact q3
    | ret v=>exact q3
  | false =>
    rw [if_neg Bool.false_ne_true]
    exact wpAny_execs_nil ⟨σ1,H2,I2,q2⟩
end
structure It where
  go:Nat→Hp→Prop
  yld:Nat→Hp→V→Hp→Prop
  stop:Nat→Hp→Prop
def FpOk (X:Cx) (pins:List (Addr×Obj)) (H:Hp) (b:Addr):Prop :=
  H b=none∧b≠X.env.locals∧b ∉ X.fs∧(b∈X.ex∨X.s₀.heap.objs.size≤b)∧(∀ x c,X.env.cells.lookup x=some c→c≠b)∧∀ p∈X.pn++pins,p.1≠b
theorem Inv.fpOk {X:Cx} {pins:List (Addr×Obj)} {σ:St} {H H':Hp} {s:Shared} {b:Addr} (I:Inv X pins σ H s) (hb:s.heap.objs.size≤b) (hn:H' b=none):FpOk X pins H' b:=by
  refine ⟨hn,Nat.ne_of_gt (Nat.lt_of_lt_of_le I.lt hb),I.nofs hb,.inr (Nat.le_trans I.sz hb),fun x c e z=>?_,fun p hp z=>?_⟩
  · obtain ⟨v,q⟩:=I.cell x c e
    exact absurd (Nat.lt_of_lt_of_le q.lt (by rw [z]; exact hb)) (Nat.lt_irrefl _)
  · exact absurd (Nat.lt_of_lt_of_le (Heap.lt_size (I.pin p hp).1) (by rw [z]; exact hb)) (Nat.lt_irrefl _)
structure Turn (P:Program) (w:World) (K:PySem.W.Frag) (tg:Expr) (J:It) (fp:List Addr) (it:Addr) (tn:Nat→Heap→Prop):Prop where
  mem:it∈fp
  obj:∀ i h,tn i h→∀ b∈fp,∃ o,h.get? b=some o∧∀ v,o.data≠.cell v
  keep:∀ i h h',tn i h→(∀ b∈fp,∀ o,h.get? b=some o→h'.get? b=some o)→tn i h'
  item:∀ (X:Cx),X.prog=P→X.w=w→X.K=K→X.calm=true→∀ (i:Nat) (pins:List (Addr×Obj)) (s:Shared) (σ:St) (H:Hp) (E:Value→Shared→Prop),Inv X pins σ H s→(∀ b∈fp,FpOk X pins H b)→tn i s.heap→J.go i H →
    wpAny (model P w) X.A (pyNext (.ref it)) (fun r s1=>∃ u,r=some u ∧
      wpAny (model P w) X.A (letOwnedTupleGo tg (.ref it) u) (fun _ s2=>∃ x H',Inv X pins σ H' s2∧RelV x u∧J.yld i H x H'∧tn (i+1) s2.heap∧∀ b∈fp,H' b=none) E s1) E s
  done:∀ (X:Cx),X.prog=P→X.w=w→X.K=K→X.calm=true→∀ (i:Nat) (pins:List (Addr×Obj)) (s:Shared) (σ:St) (H:Hp) (E:Value→Shared→Prop),Inv X pins σ H s→(∀ b∈fp,FpOk X pins H b)→tn i s.heap→J.stop i H →
    wpAny (model P w) X.A (pyNext (.ref it)) (fun r s1=>r=none∧Inv X pins σ H s1) E s
  self:∀ (A:Around) (i:Nat) (s:Shared) (Q:Value→Shared→Prop) (E:Value→Shared→Prop),tn i s.heap→Q (.ref it) s→wpAny (model P w) A (pyIter (.ref it)) Q E s
abbrev TI:=St→Hp→(It→Hp→Prop)→Prop
def PIE (X:Cx) (pins:List (Addr×Obj)) (σ:St) (tg:Expr) (R:It→Hp→Prop) (itv:Value) (s2:Shared):Prop :=
  ∃ (it:Addr) (fp:List Addr) (tn:Nat→Heap→Prop) (J:It) (H':Hp),itv=.ref it∧Inv X pins σ H' s2∧Turn X.prog X.w X.K tg J fp it tn∧tn 0 s2.heap∧(∀ b∈fp,FpOk X pins H' b)∧R J H'
def PI (X:Cx) (tg iter:Expr) (wi:TI):Prop :=
  ∀ (pins:List (Addr×Obj)) (s:Shared) (σ:St) (H:Hp) (R:It→Hp→Prop),Inv X pins σ H s→wi σ H R →
    wpAny (model X.prog X.w) X.A (eval iter X.env) (fun v s1=>wpAny (model X.prog X.w) X.A (pyIter v) (PIE X pins σ tg R) X.xe s1) X.xe s
theorem go_of {M:Model} {A:Around} {E:Value→Shared→Prop} {s:Shared} {tg:Expr} {it:Addr} {u:Value} {o:Obj} {n:String} {vs:Array Value} {Q:Unit→Shared→Prop} (ho:s.heap.get? it=some o) (hc:o.cls=.type n) (hd:o.data=.fields vs)
    (hn:["enumerate","zip","dict_itemiterator","dict_reverseitemiterator","odict_iterator","itertools.zip_longest","itertools.pairwise"].contains n=false) (hQ:Q () s):wpAny M A (letOwnedTupleGo tg (.ref it) u) Q E s:=by
  unfold letOwnedTupleGo
  cases tg <;> first
    | exact wpAny_pure hQ
    | (cases u <;> first
        | exact wpAny_pure hQ
        | (refine wpAny_bind (wpAny_load ho ?_)
           rw [hc,hd]
           show wpAny M A (if (["enumerate","zip","dict_itemiterator","dict_reverseitemiterator","odict_iterator","itertools.zip_longest","itertools.pairwise"].contains n && vs[0]? == some (rawInt _))=true then _ else _) Q E s
           rw [if_neg (by intro h; rw [hn,Bool.false_and] at h; cases h)]
           exact wpAny_pure hQ))
def Itl (K:PySem.W.Frag) (a:Addr):It :=
  ⟨fun i H=>∃ xs x,SqL K H a xs∧xs[i]?=some x,fun i H x H'=>H'=H∧∀ xs,SqL K H a xs→xs[i]?=some x,fun i H=>∃ xs,SqL K H a xs∧xs.length≤i⟩
def Itr (lo:Int) (n:Nat):It:=⟨fun i _=>i < n,fun i H x H'=>H'=H∧x=.int (lo+i),fun i _=>n≤i⟩
theorem turn_list {P:Program} {w:World} {K:PySem.W.Frag} {tg:Expr} (a it:Addr):Turn P w K tg (Itl K a) [it] it (fun i h=>h.IsListIter it a i) where
  mem:=by simp
  obj:=fun i h st b hb=>by
    have e:b=it:=by simpa using hb
    subst e
    obtain ⟨o,e,c,d⟩:=st
    exact ⟨o,e,fun v z=>by rw [d] at z; cases z⟩
  keep:=fun i h h' st k=>st.at fun o e=>k it (by simp) o e
  item:=by
    intro X hP hw hK hc i pins s σ H E I hf st hg
    subst hP hw hK
    obtain ⟨xs,x,hq,hx⟩:=hg
    obtain ⟨its,rv,p,hz⟩:=I.list hq
    obtain ⟨u,hu,ru⟩:=rv.get hx
    obtain ⟨f0,f1,f2,f3,f4,f5⟩:=hf it (by simp)
    refine wpAny_pyNext_list_item st p.isList (x:=u) (by simpa using hu) fun h' st' sb=>?_
    have I1:Inv X pins σ H { s with heap:=h' }:=I.turned (t':=s.toks) (fun b o hb e=>(sb.2 b hb).trans e) f0 f1 f3 f4 f5
    obtain ⟨o,e,c,d⟩:=id st'
    exact ⟨u,rfl,go_of (s:={ s with heap:=h' }) e c d (by decide) ⟨x,H,I1,ru,⟨rfl,fun ys hy=>by rw [I.list_inj hy hq]; exact hx⟩,st',fun b hb=>(hf b hb).1⟩⟩
  done:=by
    intro X hP hw hK hc i pins s σ H E I hf st hg
    subst hP hw hK
    obtain ⟨xs,hq,hx⟩:=hg
    obtain ⟨its,rv,p,hz⟩:=I.list hq
    obtain ⟨f0,f1,f2,f3,f4,f5⟩:=hf it (by simp)
    have hl:=rv.length
    exact wpAny_pyNext_list_end (I.ok.hd hc) st p.isList (by simp; omega) fun h' eb=>⟨rfl,I.turned (t':=s.toks) (fun b o hb e=>eb b o hb e) f0 f1 f3 f4 f5⟩
  self:=fun _ _ _ _ _ st h=>wpAny_pyIter_listiter st h
theorem turn_range {P:Program} {w:World} {K:PySem.W.Frag} {tg:Expr} (it:Addr) (lo:Int) (n:Nat):Turn P w K tg (Itr lo n) [it] it (fun i h=>IsRangeIter h it (lo+(i:Nat) * 1) ((n:Int) - (i:Nat)) 1) where
  mem:=by simp
  obj:=fun i h st b hb=>by
    have e:b=it:=by simpa using hb
    subst e
    exact ⟨_,st,fun v z=>by
      have z':Data.fields _=Data.cell v:=z
      cases z'⟩
  keep:=fun i h h' st k=>k it (by simp) _ st
  item:=by
    intro X hP hw hK hc i pins s σ H E I hf st hg
    subst hP hw hK
    obtain ⟨f0,f1,f2,f3,f4,f5⟩:=hf it (by simp)
    have W:=Walks.range (prog:=X.prog) (w:=X.w) (I.ok.hd hc) it lo 1 n
    refine W.item i s _ _ hg st fun v h' tk hv st' kk=>?_
    obtain ⟨t,rfl⟩:=hv
    have I1:Inv X pins σ H { s with heap:=h',toks:=tk }:=I.turned (fun b o hb e=>kk b o (by simpa using hb) e) f0 f1 f3 f4 f5
    refine ⟨_,rfl,go_of (s:={ s with heap:=h',toks:=tk }) (n:="range_iterator") st' rfl rfl (by decide) ⟨.int (lo+i),H,I1,⟨t,?_⟩,⟨rfl,rfl⟩,st',fun b hb=>(hf b hb).1⟩⟩
    rw [Int.mul_one]
  done:=by
    intro X hP hw hK hc i pins s σ H E I hf st hg
    subst hP hw hK
    obtain ⟨f0,f1,f2,f3,f4,f5⟩:=hf it (by simp)
    exact wpAny_pyNext_range_end (I.ok.hd hc) st (by have:n≤i:=hg; omega) fun h' eb=>⟨rfl,I.turned (t':=s.toks) (fun b o hb e=>eb b o hb e) f0 f1 f3 f4 f5⟩
  self:=fun _ _ _ _ _ st h=>wpAny_pyIter_rangeiter st h
end L2
namespace L2
open PySem PySem.Spec PyProof.Rows
section
variable {X:Cx} {tg:Expr}
def iList (K:PySem.W.Frag) (tl:TE):TI:=fun σ H R=>tl σ H fun x H1=>∃ a,x=.ref a∧(∃ xs,SqL K H1 a xs)∧R (Itl K a) H1
theorem pi_list {l:Expr} {tl:TE} (hl:PE X l tl):PI X tg l (iList X.K tl):=by
  intro pins s σ H R I h
  refine thn (hl pins s σ H _ I h) fun v s1 ⟨x,H1,I1,r1,q1⟩=>?_
  obtain ⟨a,e,⟨xs,hq⟩,q⟩:=q1
  subst e
  cases r1
  obtain ⟨its,rv,p,hz⟩:=I1.list hq
  refine wpAny_pyIter_list p.isList ?_
  refine ⟨s1.heap.objs.size,[s1.heap.objs.size],_,_,H1,rfl,I1.kept (t':=s1.toks) fun b o e=>Heap.get?_push_of_some _ e,turn_list a _,⟨_,Heap.get?_push_size _ rfl,rfl,rfl⟩,fun b hb=>?_,q⟩
  have e:b=s1.heap.objs.size:=by simpa using hb
  subst e
  exact I1.fpOk (Nat.le_refl _) (I1.hok.fresh (Nat.le_refl _))
theorem range_it {pins:List (Addr×Obj)} {σ:St} {H:Hp} {s:Shared} {R:It→Hp→Prop} {E:Value→Shared→Prop} {lo hi:Int} {t u v:Tok} {tk:Nat} (I:Inv X pins σ H s) (h1:-(2 ^ 62)≤lo) (h2:lo < 2 ^ 62) (h3:-(2 ^ 62)≤hi) (h4:hi < 2 ^ 62)
    (q:R (Itr lo (hi - lo).toNat) H):wpAny (model X.prog X.w) X.A (pyIter (.ref s.heap.objs.size)) (PIE X pins σ tg R) E { s with heap:=s.heap.push { cls:=.type "range",data:=.fields #[.int lo t,.int hi u,.int 1 v] },toks:=tk }:=by
  refine wpAny_pyIter_range (IsRange.new ..) (small_one h1 h2 h3 h4) ?_
  have I1:Inv X pins σ H { s with heap:=s.heap.push { cls:=.type "range",data:=.fields #[.int lo t,.int hi u,.int 1 v] },toks:=tk }:=I.kept fun b o e=>Heap.get?_push_of_some _ e
  refine ⟨(s.heap.push { cls:=.type "range",data:=.fields #[.int lo t,.int hi u,.int 1 v] }).objs.size,[(s.heap.push { cls:=.type "range",data:=.fields #[.int lo t,.int hi u,.int 1 v] }).objs.size],_,_,H,rfl,
    I1.kept (t':=tk) fun b o e=>Heap.get?_push_of_some _ e,turn_range _ lo (hi - lo).toNat,?_,fun b hb=>?_,q⟩
  · have e1:lo+((0:Nat):Int) * 1=lo:=by simp
    have e2:(((hi - lo).toNat:Nat):Int) - ((0:Nat):Int)=Builtin.Range.rangeSize lo hi 1:=by rw [rangeSize_one]; split <;> omega
    show IsRangeIter _ _ (lo+((0:Nat):Int) * 1) ((((hi - lo).toNat:Nat):Int) - ((0:Nat):Int)) 1
    rw [e1,e2]
    exact Heap.get?_push_size _ rfl
  · have e:b=(s.heap.push { cls:=.type "range",data:=.fields #[.int lo t,.int hi u,.int 1 v] }).objs.size:=by simpa using hb
    subst e
    exact I1.fpOk (Nat.le_refl _) (I1.hok.fresh (Nat.le_refl _))
def iRng2 (ta:TA):TI:=fun σ H R=>ta σ H fun vs H1=>∃ i j:Int,vs=[.int i,.int j]∧(-(2 ^ 62)≤i∧i < 2 ^ 62∧-(2 ^ 62)≤j∧j < 2 ^ 62)∧R (Itr i (j - i).toNat) H1
theorem pi_range2 {a b:Expr} {ta:TA} {p pos:Pos} (hg:Gl X "range") (hm:X.mg "range"=none) (ha:PA X [a,b] ta) (hs:starEach [a,b] X.env=[(false,eval a X.env),(false,eval b X.env)]:=by rfl) (hs2:starEach [b] X.env=[(false,eval b X.env)]:=by rfl) :
    PI X tg (.Call (.Name "range" p) [a,b] [] pos) (iRng2 ta):=by
  intro pins s σ H R I h
  refine Call_ (ld_blt I hg hm boot_range (PyProof.Rows.callWith_type1 (thn (ha pos pins s σ H _ I h) fun us s1 ⟨vs,H1,I1,r1,q1⟩=>?_) (by rw [hs,hs2]) (by rw [hs2]; rfl)))
  obtain ⟨i,j,e,⟨q1,q2,q3,q4⟩,q⟩:=q1
  subst e
  cases r1 with
  | cons r rr =>
    cases rr with
    | cons r' rr =>
      cases rr
      obtain ⟨t,rfl⟩:=r
      obtain ⟨t',rfl⟩:=r'
      exact call_range_2 (range_it I1 q1 q2 q3 q4 q)
def tFor (wi:TI) (g:TG) (tb:TS):TS:=fun D σ H=>wi σ H fun J H1=>∃ W:Nat→Nat→St→Hp→Prop,(∃ m,W 0 m σ H1)∧∀ i m σ H,W i m σ H →
  (J.stop i H∧D.nx σ H)∨(J.go i H∧∃ N:St→Hp→Prop,(∀ σ' H',N σ' H'→∃ m',m' < m∧W (i+1) m' σ' H')∧∀ x H',J.yld i H x H'→g x σ H' fun σ2 H2=>tb { D with nx:=N,ct:=N,bk:=D.nx } σ2 H2)
def pinsAt (fp:List Addr) (h:Heap):List (Addr×Obj):=fp.filterMap fun b=>(h.get? b).map fun o=>(b,o)
theorem mem_pinsAt {fp:List Addr} {h:Heap} {b:Addr} {o:Obj} (hb:b∈fp) (e:h.get? b=some o):(b,o)∈pinsAt fp h:=List.mem_filterMap.mpr ⟨b,hb,by rw [e]; rfl⟩
theorem of_pinsAt {fp:List Addr} {h:Heap} {p:Addr×Obj} (hp:p∈pinsAt fp h):p.1∈fp∧h.get? p.1=some p.2:=by
  obtain ⟨b,hb,e⟩:=List.mem_filterMap.mp hp
  cases q:h.get? b with
  | none=>rw [q] at e; cases e
  | some o =>
    rw [q] at e
    have e':(b,o)=p:=Option.some.inj e
    subst e'
    exact ⟨hb,q⟩
theorem Inv.pinned {pins:List (Addr×Obj)} {σ:St} {H:Hp} {s:Shared} {fp:List Addr} (I:Inv X pins σ H s) (hf:∀ b∈fp,FpOk X pins H b) (ho:∀ b∈fp,∃ o,s.heap.get? b=some o∧∀ v,o.data≠.cell v):Inv X (pins++pinsAt fp s.heap) σ H s :=
  I.pins_of fun p hp=>(List.mem_append.mp hp).elim (fun z=>I.pin p (List.mem_append_right _ z)) fun z=>by
    obtain ⟨hb,e⟩:=of_pinsAt z
    obtain ⟨f0,f1,f2,_⟩:=hf p.1 hb
    obtain ⟨o,e',d⟩:=ho p.1 hb
    rw [e] at e'; cases e'
    exact ⟨e,f0,f1,f2,d⟩
theorem Inv.unpinned {pins pl:List (Addr×Obj)} {σ:St} {H:Hp} {s:Shared} (I:Inv X (pins++pl) σ H s):Inv X pins σ H s:=I.pins_of fun p hp=>I.pin p (List.mem_append_right _ (List.mem_append_left _ hp))
theorem ps_for {iter:Expr} {body:List Stmt} {wi:TI} {g:TG} {tb:TS} {pos:Pos} (hp:PassesOwn (model X.prog X.w) X.A X.env X.xe) (hc:X.calm=true) (hi:PI X tg iter wi) (hg:PG X tg g) (hb:PSs X body tb)
    (hs:∀ x,foldedSetIterable iter X.env x=pure x:=by intro _; rfl):PS X (.For tg iter body [] pos) (tFor wi g tb):=by
  intro pins s σ H D I h
  refine wpAny_For (thn (hi pins s σ H _ I h) fun v s1 h1=>thn h1 fun itv s2 h2=>?_) hs
  obtain ⟨it,fp,tn,J,H2,e,I2,T,st2,f2,W,⟨m0,w0⟩,turn⟩:=h2
  subst e
  have stat:∀ {H':Hp},(∀ b∈fp,H' b=none)→∀ b∈fp,FpOk X pins H' b:=fun hn b hb=>⟨hn b hb,(f2 b hb).2⟩
  refine codeAny_forLoop_any (fun n s'=>∃ i σ' H',Inv X pins σ' H' s'∧tn i s'.heap∧(∀ b∈fp,H' b=none)∧W i n σ' H') ?_ m0 ⟨0,σ,H2,I2,st2,fun b hb=>(f2 b hb).1,w0⟩
  rintro n s3 ⟨i,σ3,H3,I3,st3,fr3,w3⟩
  rcases turn i n σ3 H3 w3 with ⟨stop,qn⟩ | ⟨go,N,hN,step⟩
  · refine wpAny_passesOwn hp (thn (T.done X rfl rfl rfl hc i pins s3 σ3 H3 X.xe I3 (stat fr3) st3 stop) fun r s4 ⟨hr,I4⟩=>?_)
    subst hr
    exact wpAny_execs_nil ⟨σ3,H3,I4,qn⟩
  · refine wpAny_passesOwn hp (thn (T.item X rfl rfl rfl hc i pins s3 σ3 H3 X.xe I3 (stat fr3) st3 go) fun r s4 ⟨u,hr,h4⟩=>?_)
    subst hr
    refine wpAny_passesOwn hp (thn h4 fun _ s5 ⟨x,H5,I5,r5,y5,st5,fr5⟩=>?_)
    have I5':=I5.pinned (stat fr5) (T.obj _ _ st5)
    refine wpAny_passesOwn hp (thn (hg _ s5 σ3 H5 x u _ I5' r5 (step x H5 y5)) fun _ s6 ⟨σ6,H6,I6,q6⟩=>?_)
    refine wpAny_passesOwn hp (thn (hb _ s6 σ6 H6 _ I6 q6) fun f s7 q7=>?_)
    have again:∀ {σ7:St} {H7:Hp},Inv X (pins++pinsAt fp s5.heap) σ7 H7 s7→N σ7 H7→∃ m,m < n∧∃ i σ' H',Inv X pins σ' H' s7∧tn i s7.heap∧(∀ b∈fp,H' b=none)∧W i m σ' H':=fun {σ7 H7} I7 n7=>by
      obtain ⟨m',hm,w7⟩:=hN σ7 H7 n7
      refine ⟨m',hm,i+1,σ7,H7,I7.unpinned,T.keep _ _ _ st5 fun b hb o e=>(I7.pin (b,o) (List.mem_append_right _ (List.mem_append_right _ (mem_pinsAt hb e)))).1,fun b hb=>?_,w7⟩
      obtain ⟨o,e,d⟩:=T.obj _ _ st5 b hb
      exact (I7.pin (b,o) (List.mem_append_right _ (List.mem_append_right _ (mem_pinsAt hb e)))).2.1
    cases f with
    | next=>obtain ⟨σ7,H7,I7,n7⟩:=q7; exact again I7 n7
    | cont=>obtain ⟨σ7,H7,I7,n7⟩:=q7; exact again I7 n7
    | brk=>obtain ⟨σ7,H7,I7,q7⟩:=q7; exact ⟨σ7,H7,I7.unpinned,q7⟩
    | ret v=>obtain ⟨x7,σ7,H7,I7,r7,q7⟩:=q7; exact ⟨x7,σ7,H7,I7.unpinned,r7,q7⟩
end
theorem for_list {K:PySem.W.Frag} {a:Addr} {xs:List V} {g:TG} {tb:TS} {D:Ends} {σ:St} {H:Hp} (Pv:Nat→St→Hp→Prop) (h0:Pv 0 σ H) (hl:∀ i σ H,i≤xs.length→Pv i σ H→SqL K H a xs)
    (hs:∀ i x σ H,xs[i]?=some x→Pv i σ H→g x σ H fun σ2 H2=>tb { D with nx:=Pv (i+1),ct:=Pv (i+1),bk:=D.nx } σ2 H2) (hd:∀ σ H,Pv xs.length σ H→D.nx σ H) :
    ∃ W:Nat→Nat→St→Hp→Prop,(∃ m,W 0 m σ H)∧∀ i m σ H,W i m σ H →
      ((Itl K a).stop i H∧D.nx σ H)∨((Itl K a).go i H∧∃ N:St→Hp→Prop,(∀ σ' H',N σ' H'→∃ m',m' < m∧W (i+1) m' σ' H')∧∀ x H',(Itl K a).yld i H x H'→g x σ H' fun σ2 H2=>tb { D with nx:=N,ct:=N,bk:=D.nx } σ2 H2):=by
  refine ⟨fun i m σ H=>m=xs.length - i∧i≤xs.length∧Pv i σ H,⟨xs.length,by simp,Nat.zero_le _,h0⟩,?_⟩
  rintro i m σ H ⟨rfl,hi,p⟩
  have q:=hl i σ H hi p
  by_cases hlt:i < xs.length
  · refine .inr ⟨⟨xs,xs[i],q,by simp [hlt]⟩,Pv (i+1),fun σ' H' p'=>⟨xs.length - (i+1),by omega,rfl,hlt,p'⟩,fun x H' y=>?_⟩
    obtain ⟨e,y⟩:=y
    subst e
    exact hs i x σ _ (y xs q) p
  · have e:i=xs.length:=by omega
    subst e
    exact .inl ⟨⟨xs,q,Nat.le_refl _⟩,hd σ H p⟩
theorem for_range {lo:Int} {n:Nat} {g:TG} {tb:TS} {D:Ends} {σ:St} {H:Hp} (Pv:Nat→St→Hp→Prop) (h0:Pv 0 σ H)
    (hs:∀ i σ H,i < n→Pv i σ H→g (.int (lo+i)) σ H fun σ2 H2=>tb { D with nx:=Pv (i+1),ct:=Pv (i+1),bk:=D.nx } σ2 H2) (hd:∀ σ H,Pv n σ H→D.nx σ H) :
    ∃ W:Nat→Nat→St→Hp→Prop,(∃ m,W 0 m σ H)∧∀ i m σ H,W i m σ H →
      ((Itr lo n).stop i H∧D.nx σ H)∨((Itr lo n).go i H∧∃ N:St→Hp→Prop,(∀ σ' H',N σ' H'→∃ m',m' < m∧W (i+1) m' σ' H')∧∀ x H',(Itr lo n).yld i H x H'→g x σ H' fun σ2 H2=>tb { D with nx:=N,ct:=N,bk:=D.nx } σ2 H2):=by
  refine ⟨fun i m σ H=>m=n - i∧i≤n∧Pv i σ H,⟨n,by simp,Nat.zero_le _,h0⟩,?_⟩
  rintro i m σ H ⟨rfl,hi,p⟩
  by_cases hlt:i < n
  · refine .inr ⟨hlt,Pv (i+1),fun σ' H' p'=>⟨n - (i+1),by omega,rfl,hlt,p'⟩,fun x H' y=>?_⟩
    obtain ⟨e,y⟩:=y
    subst e y
    exact hs i σ _ hlt p
  · have e:i=n:=by omega
    subst e
    exact .inl ⟨Nat.le_refl _,hd σ H p⟩
end L2
namespace L2
open PySem PySem.Spec PyProof.Rows
abbrev R2:=V→V→Hp→VK→Prop
def OpR (X:Cx) (f:Value→Value→Sem Value) (r:R2):Prop :=
  ∀ (pins:List (Addr×Obj)) (s:Shared) (σ:St) (H:Hp) (x y:V) (v u:Value) (Q:VK),Inv X pins σ H s→RelV x v→RelV y u→r x y H Q →
    wpAny (model X.prog X.w) X.A (f v u) (EP X pins σ Q) X.xe s
def UnR (X:Cx) (f:Value→Sem Value) (r:V→Hp→VK→Prop):Prop :=
  ∀ (pins:List (Addr×Obj)) (s:Shared) (σ:St) (H:Hp) (x:V) (v:Value) (Q:VK),Inv X pins σ H s→RelV x v→r x H Q →
    wpAny (model X.prog X.w) X.A (f v) (EP X pins σ Q) X.xe s
def CallR (X:Cx) (f:Value) (r:List V→Hp→VK→Prop):Prop :=
  ∀ (pins:List (Addr×Obj)) (s:Shared) (σ:St) (H:Hp) (xs:List V) (us:List Value) (Q:VK),Inv X pins σ H s→Vals xs us→r xs H Q →
    wpAny (model X.prog X.w) X.A (call f us) (EP X pins σ Q) X.xe s
def tOp (r:R2) (ta tb:TE):TE:=fun σ H Q=>ta σ H fun x H1=>tb σ H1 fun y H2=>r x y H2 Q
def tUn (r:V→Hp→VK→Prop) (ta:TE):TE:=fun σ H Q=>ta σ H fun x H1=>r x H1 Q
def rI (C:Int→Int→Prop) (g:Int→Int→V):R2:=fun x y H Q=>∃ i j,x=.int i∧y=.int j∧C i j∧Q (g i j) H
def rI0 (g:Int→Int→V):R2:=fun x y H Q=>∃ i j,x=.int i∧y=.int j∧Q (g i j) H
def rU (g:Int→V):V→Hp→VK→Prop:=fun x H Q=>∃ i,x=.int i∧Q (g i) H
section
variable {X:Cx} {a b c:Expr} {ta tb tc:TE} {pos:Pos}
theorem binT (ha:PE X a ta) (hb:PE X b tb) {pins:List (Addr×Obj)} {s:Shared} {σ:St} {H:Hp} {R:V→V→Hp→Prop} (I:Inv X pins σ H s)
    (h:ta σ H fun x H1=>tb σ H1 fun y H2=>R x y H2) {Q:Value→Shared→Prop} {f:Value→Value→Sem Value}
    (hf:∀ v u s2 x y H2,Inv X pins σ H2 s2→RelV x v→RelV y u→R x y H2→wpAny (model X.prog X.w) X.A (f v u) Q X.xe s2) :
    wpAny (model X.prog X.w) X.A (eval a X.env) (fun v s₁=>wpAny (model X.prog X.w) X.A (eval b X.env) (fun u s₂=>wpAny (model X.prog X.w) X.A (f v u) Q X.xe s₂) X.xe s₁) X.xe s:=by
  refine thn (ha pins s σ H _ I h) fun v s1 ⟨x,H1,I1,r1,q1⟩=>?_
  refine thn (hb pins s1 σ H1 _ I1 q1) fun u s2 ⟨y,H2,I2,r2,q2⟩=>?_
  exact hf v u s2 x y H2 I2 r1 r2 q2
theorem pe_op {op:Operator} {r:R2} (ho:OpR X (binaryOp op) r) (ha:PE X a ta) (hb:PE X b tb):PE X (.BinOp a op b pos) (tOp r ta tb):=by
  intro pins s σ H Q I h
  exact wpAny_BinOp (binT ha hb I h fun v u s2 x y H2 I2 rx ry q=>ho pins s2 σ H2 x y v u Q I2 rx ry q)
theorem pe_un {op:UnaryOp} {r:V→Hp→VK→Prop} (ho:UnR X (unaryOp op) r) (ha:PE X a ta):PE X (.UnaryOp op a pos) (tUn r ta):=by
  intro pins s σ H Q I h
  exact UnaryOp_ (thn (ha pins s σ H _ I h) fun v s1 ⟨x,H1,I1,r1,q1⟩=>ho pins s1 σ H1 x v Q I1 r1 q1)
theorem opI {f:Value→Value→Sem Value} {C:Int→Int→Prop} {g:Int→Int→Int}
    (rule:∀ (i j:Int) (t u:Tok) (s:Shared) (Q:Value→Shared→Prop) (E:Value→Shared→Prop),C i j→Q (.int (g i j) s.toks) { s with toks:=s.toks+1 }→wpAny (model X.prog X.w) X.A (f (.int i t) (.int j u)) Q E s) :
    OpR X f (rI C fun i j=>.int (g i j)):=by
  intro pins s σ H x y v u Q I rx ry h
  obtain ⟨i,j,rfl,rfl,hc,q⟩:=h
  obtain ⟨t,rfl⟩:=rx
  obtain ⟨t',rfl⟩:=ry
  exact rule i j t t' s _ _ hc ⟨.int (g i j),H,I.tok _,⟨_,rfl⟩,q⟩
theorem opI0 {f:Value→Value→Sem Value} {g:Int→Int→Int}
    (rule:∀ (i j:Int) (t u:Tok) (s:Shared) (Q:Value→Shared→Prop) (E:Value→Shared→Prop),Q (.int (g i j) s.toks) { s with toks:=s.toks+1 }→wpAny (model X.prog X.w) X.A (f (.int i t) (.int j u)) Q E s) :
    OpR X f (rI0 fun i j=>.int (g i j)):=by
  intro pins s σ H x y v u Q I rx ry h
  obtain ⟨i,j,rfl,rfl,q⟩:=h
  obtain ⟨t,rfl⟩:=rx
  obtain ⟨t',rfl⟩:=ry
  exact rule i j t t' s _ _ ⟨.int (g i j),H,I.tok _,⟨_,rfl⟩,q⟩
theorem opB0 {f:Value→Value→Sem Value} {g:Int→Int→Bool}
    (rule:∀ (i j:Int) (t u:Tok) (s:Shared) (Q:Value→Shared→Prop) (E:Value→Shared→Prop),Q (.bool (g i j)) s→wpAny (model X.prog X.w) X.A (f (.int i t) (.int j u)) Q E s) :
    OpR X f (rI0 fun i j=>.bl (g i j)):=by
  intro pins s σ H x y v u Q I rx ry h
  obtain ⟨i,j,rfl,rfl,q⟩:=h
  obtain ⟨t,rfl⟩:=rx
  obtain ⟨t',rfl⟩:=ry
  exact rule i j t t' s _ _ ⟨.bl (g i j),H,I,rfl,q⟩
def CMul (i j:Int):Prop:=(-(2 ^ 64) < i∧i < 2 ^ 64)∨(-(2 ^ 64) < j∧j < 2 ^ 64)
theorem CMul.ok {i j:Int} (h:CMul i j):IntMulOk i j:=by
  rcases h with ⟨h1,h2⟩ | ⟨h1,h2⟩
  · exact .of_left (intBits_le_64 h1 h2)
  · exact .of_right (intBits_le_64 h1 h2)
theorem op_add:OpR X (binaryOp .Add) (rI0 fun i j=>.int (i+j)):=opI0 fun _ _ _ _ _ _ _ q=>add_int q
theorem op_sub:OpR X (binaryOp .Sub) (rI0 fun i j=>.int (i - j)):=opI0 fun _ _ _ _ _ _ _ q=>sub_int q
theorem op_mul:OpR X (binaryOp .Mult) (rI CMul fun i j=>.int (i * j)):=opI fun _ _ _ _ _ _ _ hc q=>mul_int q hc.ok
theorem unI {f:Value→Sem Value} {g:Int→Int}
    (rule:∀ (i:Int) (t:Tok) (s:Shared) (Q:Value→Shared→Prop) (E:Value→Shared→Prop),Q (.int (g i) s.toks) { s with toks:=s.toks+1 }→wpAny (model X.prog X.w) X.A (f (.int i t)) Q E s) :
    UnR X f (rU fun i=>.int (g i)):=by
  intro pins s σ H x v Q I rx h
  obtain ⟨i,rfl,q⟩:=h
  obtain ⟨t,rfl⟩:=rx
  exact rule i t s _ _ ⟨.int (g i),H,I.tok _,⟨_,rfl⟩,q⟩
theorem un_neg:UnR X (unaryOp .USub) (rU fun i=>.int (-i)):=unI fun _ _ _ _ _ q=>neg_int q
end
def scal:V→V→Bool
  | .non,.non=>true | .non,.int _=>true | .int _,.non=>true | .non,.bl _=>true | .bl _,.non=>true | .non,.str _=>true | .str _,.non=>true
  | .int _,.int _=>true | .bl _,.bl _=>true | .str _,.str _=>true | .byt _,.byt _=>true
  | .int _,.str _=>true | .str _,.int _=>true | .bl _,.str _=>true | .str _,.bl _=>true
  | _,_=>false
def rEq:R2:=fun x y H Q=>scal x y=true∧Q (.bl (decide (x=y))) H
def rNe:R2:=fun x y H Q=>scal x y=true∧Q (.bl (!decide (x=y))) H
theorem dec_int {i j:Int}:decide (V.int i=V.int j)=(i == j):=by
  rw [Bool.eq_iff_iff]
  simp
theorem dec_bl {i j:Bool}:decide (V.bl i=V.bl j)=(i == j):=by
  rw [Bool.eq_iff_iff]
  simp
theorem dec_str {i j:Str}:decide (V.str i=V.str j)=(i == j):=by
  rw [Bool.eq_iff_iff]
  simp
theorem dec_byt {i j:Array UInt8}:decide (V.byt i=V.byt j)=(i.toList == j.toList):=by
  rw [Bool.eq_iff_iff]
  cases i
  cases j
  simp
section
variable {X:Cx} {a b c:Expr} {ta tb tc:TE} {pos:Pos}
theorem fin_bl {pins:List (Addr×Obj)} {σ:St} {H:Hp} {s:Shared} {Q:VK} {k k':Bool} (I:Inv X pins σ H s) (q:Q (.bl k) H) (e:k=k'):EP X pins σ Q (.bool k') s:=by
  subst e
  exact ⟨.bl k,H,I,rfl,q⟩
theorem op_eq:OpR X (compareOp .Eq) rEq:=by
  intro pins s σ H x y v u Q I rx ry h
  obtain ⟨hs,q⟩:=h
  cases x with
  | non =>
    cases rx
    cases y with
    | non=>cases ry; exact PySem.EqNone.eq_none_none (fin_bl I q (by simp))
    | bl j=>cases ry; exact PySem.EqNone.eq_none_bool (fin_bl I q (by simp))
    | int j=>obtain ⟨t',rfl⟩:=ry; exact PySem.EqNone.eq_none_int (fin_bl I q (by simp))
    | str j=>obtain ⟨t',rfl⟩:=ry; exact PySem.EqNone.eq_none_str (fin_bl I q (by simp))
    | _=>exact absurd (show false=true from hs) Bool.false_ne_true
  | bl i =>
    cases rx
    cases y with
    | non=>cases ry; exact PySem.EqNone.eq_bool_none (fin_bl I q (by simp))
    | bl j=>cases ry; exact eq_bool (fin_bl I q dec_bl)
    | str j=>obtain ⟨t',rfl⟩:=ry; exact PySem.EqMixed.eq_bool_str (fin_bl I q (by simp))
    | _=>exact absurd (show false=true from hs) Bool.false_ne_true
  | int i =>
    obtain ⟨t,rfl⟩:=rx
    cases y with
    | non=>cases ry; exact PySem.EqNone.eq_int_none (fin_bl I q (by simp))
    | int j=>obtain ⟨t',rfl⟩:=ry; exact eq_int (fin_bl I q dec_int)
    | str j=>obtain ⟨t',rfl⟩:=ry; exact PySem.EqMixed.eq_int_str (fin_bl I q (by simp))
    | _=>exact absurd (show false=true from hs) Bool.false_ne_true
  | str i =>
    obtain ⟨t,rfl⟩:=rx
    cases y with
    | non=>cases ry; exact PySem.EqNone.eq_str_none (fin_bl I q (by simp))
    | bl j=>cases ry; exact PySem.EqMixed.eq_str_bool (fin_bl I q (by simp))
    | int j=>obtain ⟨t',rfl⟩:=ry; exact PySem.EqMixed.eq_str_int (fin_bl I q (by simp))
    | str j=>obtain ⟨t',rfl⟩:=ry; exact eq_str (fin_bl I q dec_str)
    | _=>exact absurd (show false=true from hs) Bool.false_ne_true
  | byt i =>
    obtain ⟨t,rfl⟩:=rx
    cases y with
    | byt j=>obtain ⟨t',rfl⟩:=ry; exact PySem.W.eq_bytes (fin_bl I q dec_byt)
    | _=>exact absurd (show false=true from hs) Bool.false_ne_true
  | _=>cases y <;> exact absurd (show false=true from hs) Bool.false_ne_true
theorem op_ne:OpR X (compareOp .NotEq) rNe:=by
  intro pins s σ H x y v u Q I rx ry h
  obtain ⟨hs,q⟩:=h
  cases x with
  | non =>
    cases rx
    cases y with
    | non=>cases ry; exact PySem.EqNone.ne_none_none (fin_bl I q (by simp))
    | bl j=>cases ry; exact PySem.EqNone.ne_none_bool (fin_bl I q (by simp))
    | int j=>obtain ⟨t',rfl⟩:=ry; exact PySem.EqNone.ne_none_int (fin_bl I q (by simp))
    | str j=>obtain ⟨t',rfl⟩:=ry; exact PySem.EqNone.ne_none_str (fin_bl I q (by simp))
    | _=>exact absurd (show false=true from hs) Bool.false_ne_true
  | bl i =>
    cases rx
    cases y with
    | non=>cases ry; exact PySem.EqNone.ne_bool_none (fin_bl I q (by simp))
    | bl j=>cases ry; exact ne_bool (fin_bl I q (congrArg not dec_bl))
    | str j=>obtain ⟨t',rfl⟩:=ry; exact PySem.EqMixed.ne_bool_str (fin_bl I q (by simp))
    | _=>exact absurd (show false=true from hs) Bool.false_ne_true
  | int i =>
    obtain ⟨t,rfl⟩:=rx
    cases y with
    | non=>cases ry; exact PySem.EqNone.ne_int_none (fin_bl I q (by simp))
    | int j=>obtain ⟨t',rfl⟩:=ry; exact ne_int (fin_bl I q (congrArg not dec_int))
    | str j=>obtain ⟨t',rfl⟩:=ry; exact PySem.EqMixed.ne_int_str (fin_bl I q (by simp))
    | _=>exact absurd (show false=true from hs) Bool.false_ne_true
  | str i =>
    obtain ⟨t,rfl⟩:=rx
    cases y with
    | non=>cases ry; exact PySem.EqNone.ne_str_none (fin_bl I q (by simp))
    | bl j=>cases ry; exact PySem.EqMixed.ne_str_bool (fin_bl I q (by simp))
    | int j=>obtain ⟨t',rfl⟩:=ry; exact PySem.EqMixed.ne_str_int (fin_bl I q (by simp))
    | str j=>obtain ⟨t',rfl⟩:=ry; exact ne_str (fin_bl I q (congrArg not dec_str))
    | _=>exact absurd (show false=true from hs) Bool.false_ne_true
  | byt i =>
    obtain ⟨t,rfl⟩:=rx
    cases y with
    | byt j=>obtain ⟨t',rfl⟩:=ry; exact PySem.W.ne_bytes (fin_bl I q (congrArg not dec_byt))
    | _=>exact absurd (show false=true from hs) Bool.false_ne_true
  | _=>cases y <;> exact absurd (show false=true from hs) Bool.false_ne_true
theorem op_lt:OpR X (compareOp .Lt) (rI0 fun i j=>.bl (decide (i < j))):=opB0 fun _ _ _ _ _ _ _ q=>lt_int q
theorem op_le:OpR X (compareOp .LtE) (rI0 fun i j=>.bl (decide (i≤j))):=opB0 fun _ _ _ _ _ _ _ q=>le_int q
theorem op_gt:OpR X (compareOp .Gt) (rI0 fun i j=>.bl (decide (j < i))):=opB0 fun _ _ _ _ _ _ _ q=>gt_int q
theorem op_ge:OpR X (compareOp .GtE) (rI0 fun i j=>.bl (decide (j≤i))):=opB0 fun _ _ _ _ _ _ _ q=>ge_int q
theorem op_notN:OpR X (compareOp .IsNot) (fun x y H Q=>y=.non∧Q (.bl (!decide (x=.non))) H):=by
  intro pins s σ H x y v u Q I rx ry h
  obtain ⟨rfl,q⟩:=h
  cases ry
  refine isnot_none_gen (fin_bl I q ?_)
  cases x <;> first
    | (cases rx; rfl)
    | (obtain ⟨t,rfl⟩:=rx; rfl)
theorem nomark (b:Expr) {op:CmpOp} (h:op≠.In:=by decide) (h2:op≠.NotIn:=by decide):behindInMarks op b=false:=by
  have e1:(op == CmpOp.In)=false:=by cases op <;> first | rfl | exact absurd rfl h
  have e2:(op == CmpOp.NotIn)=false:=by cases op <;> first | rfl | exact absurd rfl h2
  cases b <;> simp [behindInMarks,e1,e2]
theorem pe_cmpR {op:CmpOp} {r:R2} (ho:OpR X (compareOp op) r) (ha:PE X a ta) (hb:PE X b tb) (hm:behindInMarks op b=false):PE X (.Compare a [op] [b] pos) (tOp r ta tb):=by
  intro pins s σ H Q I h
  exact wpAny_Compare1 (binT ha hb I h fun v u s2 x y H2 I2 rx ry q=>ho pins s2 σ H2 x y v u Q I2 rx ry q) hm
def tTest (t:TE):TT:=fun σ H Q=>t σ H fun x H'=>∃ k,x=.bl k∧Q k H'
theorem pt_cmpR {op:CmpOp} {r:R2} (ho:OpR X (compareOp op) r) (ha:PE X a ta) (hb:PE X b tb) (hm:behindInMarks op b=false):PT X (.Compare a [op] [b] pos) (tTest (tOp r ta tb)):=by
  intro pins s σ H Q I h
  refine wpAny_isTrue_Compare1 (thn (ha pins s σ H _ I h) fun v s1 ⟨x,H1,I1,r1,q1⟩=>thn (hb pins s1 σ H1 _ I1 q1) fun u s2 ⟨y,H2,I2,r2,q2⟩ =>
    thn (ho pins s2 σ H2 x y v u _ I2 r1 r2 q2) fun c s3 ⟨z,H3,I3,r3,k,e,q3⟩=>?_) hm
  subst e
  cases r3
  exact wpAny_truthy_bool ⟨H3,I3,q3⟩
def tChain (r r':R2) (ta tb tc:TE):TE:=fun σ H Q=>ta σ H fun x H1=>tb σ H1 fun y H2=>r x y H2 fun z H3=>∃ k,z=.bl k ∧
  (if k=true then tc σ H3 fun w' H4=>r' y w' H4 Q else Q (.bl false) H3)
theorem pe_chain {op op':CmpOp} {r r':R2} (ho:OpR X (compareOp op) r) (ho':OpR X (compareOp op') r') (ha:PE X a ta) (hb:PE X b tb) (hc:PE X c tc)
    (hm:lastMarks [op,op'] [b,c]=false:=by with_unfolding_all rfl):PE X (.Compare a [op,op'] [b,c] pos) (tChain r r' ta tb tc):=by
  intro pins s σ H Q I h
  refine Compare_chain (thn (ha pins s σ H _ I h) fun v s1 ⟨x,H1,I1,r1,q1⟩=>chain_link (thn (hb pins s1 σ H1 _ I1 q1) fun u s2 ⟨y,H2,I2,r2,q2⟩ =>
    thn (ho pins s2 σ H2 x y v u _ I2 r1 r2 q2) fun d s3 ⟨z,H3,I3,r3,k,e,q3⟩=>?_)) hm
  subst e
  cases r3
  refine wpAny_truthy_bool ?_
  cases k with
  | false=>exact ite_ff ⟨.bl false,H3,I3,rfl,q3⟩
  | true=>exact ite_tt (chain_last (thn (hc pins s3 σ H3 _ I3 q3) fun w' s4 ⟨z',H4,I4,r4,q4⟩=>ho' pins s4 σ H4 y z' u w' Q I4 r2 r4 q4))
theorem line63:(sizeLine:Nat) < 2 ^ 63:=by rw [sizeLine_eq]; decide
theorem op_add_str:OpR X (binaryOp .Add) (fun x y H Q=>∃ i j,x=.str i∧y=.str j∧i.length+j.length≤sizeLine∧Q (.str (i++j)) H):=by
  intro pins s σ H x y v u Q I rx ry h
  obtain ⟨i,j,rfl,rfl,hz,q⟩:=h
  obtain ⟨t,rfl⟩:=rx
  obtain ⟨t',rfl⟩:=ry
  exact add_str (fun t' tk=>⟨.str (i++j),H,I.tok _,⟨_,rfl⟩,q⟩) hz
theorem vals1 {x:V} {us:List Value} (r:Vals [x] us):∃ u,us=[u]∧RelV x u:=by
  cases r with
  | cons r1 r2=>cases r2; exact ⟨_,rfl,r1⟩
theorem vals2 {x y:V} {us:List Value} (r:Vals [x,y] us):∃ u w',us=[u,w']∧RelV x u∧RelV y w':=by
  cases r with
  | cons r1 r2 =>
    cases r2 with
    | cons r3 r4=>cases r4; exact ⟨_,_,rfl,r1,r3⟩
theorem call_min2 (hc:X.calm=true):CallR X (.builtin "min") (fun xs H Q=>∃ i j,xs=[.int i,.int j]∧Q (.int (if j < i then j else i)) H):=by
  intro pins s σ H xs us Q I r h
  obtain ⟨i,j,rfl,q⟩:=h
  obtain ⟨u,w',rfl,⟨t,rfl⟩,⟨t',rfl⟩⟩:=vals2 r
  refine min_two_ints (I.ok.hd hc) fun h' tk k=>⟨_,H,I.kept k,?_,q⟩
  by_cases hj:j < i
  · rw [if_pos hj,if_pos hj]; exact ⟨_,rfl⟩
  · rw [if_neg hj,if_neg hj]; exact ⟨_,rfl⟩
theorem call_str_int:CallR X (.type "str") (fun xs H Q=>∃ i,xs=[.int i]∧i.natAbs.log2 < 1920∧Q (.str (toString i)) H):=by
  intro pins s σ H xs us Q I r h
  obtain ⟨i,rfl,hz,q⟩:=h
  obtain ⟨u,rfl,t,rfl⟩:=vals1 r
  exact PySem.P.str_of_int hz ⟨.str _,H,I.tok _,⟨_,rfl⟩,q⟩
theorem call_ord:CallR X (.builtin "ord") (fun xs H Q=>∃ x,xs=[.str x]∧x.length=1∧Q (.int (x.cps.getD 0 0:Nat)) H):=by
  intro pins s σ H xs us Q I r h
  obtain ⟨x,rfl,hz,q⟩:=h
  obtain ⟨u,rfl,t,rfl⟩:=vals1 r
  exact ord_of_one hz ⟨.int _,H,I.tok _,⟨_,rfl⟩,q⟩
end
end L2
namespace L2
open PySem PySem.Spec PyProof.Rows
structure ObjM (h:Heap) (x dx C:Addr) (mA:Str→Option Value):Prop where
  obj:h.get? x=some (PySem.W.instObj C dx)
  ns:h.Ns1 dx mA
  ne:dx≠x
theorem lookIn_ns {h:Heap} {dx:Addr} {mA:Str→Option Value} (n:h.Ns1 dx mA):∃ od,h.get? dx=some od∧∀ name,PySem.W.lookIn name od=some (mA name):=by
  obtain ⟨o,es,ep,ho,hd,hk,_,hm⟩:=n
  refine ⟨o,ho,fun name=>?_⟩
  have e:=hm name
  unfold nsFind findBy at e
  rw [← Array.find?_toList] at e
  unfold PySem.W.lookIn
  rw [hd]
  dsimp only
  split
  · rename_i y q
    rw [q] at e
    exact congrArg some e
  · rename_i q
    rw [q] at e
    have a:es.toList.any (·.refKey)=false:=by
      rw [List.any_eq_false]
      intro y hy
      obtain ⟨z,t,hkey⟩:=hk y (Array.mem_toList_iff.mp hy)
      simp [DictEntry.refKey,hkey]
    have a':¬ es.toList.any (·.refKey)=true:=by rw [a]; exact Bool.false_ne_true
    rw [if_neg a']
    exact congrArg some e
theorem ObjM.look {h:Heap} {x dx C:Addr} {mA:Str→Option Value} (I:ObjM h x dx C mA):∃ od,PySem.W.InstAt h x (PySem.W.instObj C dx) C (some od)∧∀ name,PySem.W.lookIn name od=some (mA name) :=
  let ⟨od,ho,hl⟩:=lookIn_ns I.ns
  ⟨od,⟨I.obj,rfl,rfl,ho⟩,hl⟩
section
variable {prog:Program} {w:World} {A:Around} {E:Value→Shared→Prop} {s:Shared} {K:PySem.W.Frag} {x dx C f:Addr} {mA:Str→Option Value} {name:Str} {v:Value}
theorem get_map {expr:Bool} {Q:Value→Shared→Prop} (X:K.In s.heap) (I:ObjM s.heap x dx C mA) (hg:PySem.W.plainGet K C name=true) (hh:PySem.W.hasDictIn K C=true)
    (ha:PySem.W.findIn K (.ref C) name=some none) (hv:mA name=some v) (hv':PySem.W.handedIn v=true) (h:Q v { s with toks:=s.toks+1 }) :
    wpAny (model prog w) A (getAttr (.ref x) name expr) Q E s:=by
  obtain ⟨od,J,hl⟩:=I.look
  exact PySem.W.get_value X J (PySem.W.plainGet_of hg).1 (PySem.W.findObj_own hh ha rfl (by rw [hl,hv])) hv' h
theorem get_meth {pl:Sem Bool} {Q:Value×List Value→Shared→Prop} (X:K.In s.heap) (I:ObjM s.heap x dx C mA) (hg:PySem.W.plainGet K C name=true)
    (hf:PySem.W.findIn K (.ref C) name=some (some (.ref f))) (ht:PySem.W.isFn K (.ref f)=true) (hv:mA name=none) (h:Q (.ref f,[.ref x]) s) :
    wpAny (model prog w) A (getMethod (.ref x) name pl) Q E s:=by
  obtain ⟨od,J,hl⟩:=I.look
  exact PySem.W.method_fn X J (PySem.W.plainGet_of hg).1 (PySem.W.plainGet_of hg).2 hf (beq_iff_eq.mp ht) (by show (PySem.W.lookIn name od).map (·.isSome)=some false; rw [hl,hv]; rfl) h
theorem set_map {ns:List Str} {Q:Unit→Shared→Prop} (X:K.In s.heap) (I:ObjM s.heap x dx C mA)
    (hs:PySem.W.findIn K (.ref C) "__setattr__"=some (some (.builtin "object.__setattr__"))) (hp:PySem.W.plainOver K C=true) (ht:PySem.W.takerIn K C name=some none) (hh:PySem.W.hasDictIn K C=true)
    (hw:PySem.Within mA ns) (hsz:ns.length≤sizeLine)
    (h:∀ h',ObjM h' x dx C (fun y=>if y=name then some v else mA y)→Heap.SameBut dx s.heap h'→Q () { s with heap:=h',toks:=s.toks+2 }) :
    wpAny (model prog w) A (setAttr (.ref x) name v) Q E s:=by
  obtain ⟨od,J,hl⟩:=I.look
  refine PySem.W.set_plain X J hs (PySem.W.osa_open (s:={ s with toks:=s.toks+1 }) (r:=none) X J hp ht fun b=>?_)
  obtain ⟨cd,hc,hd'⟩:=PySem.W.any_some hh
  have hx:s.heap.get? x=some ⟨.ref C,some dx,.plain,#[]⟩:=I.obj
  refine wpAny_bind (wpAny_pure (wpAny_bind (wpAny_bind (wpAny_loadPart hx (wpAny_bind (PySem.W.Looks.here (s:={ s with toks:=s.toks+1 }) (PySem.W.looks_clsIn X hc) ?_))))))
  rw [hd']
  refine wpAny_pure (a:=some dx) (wpAny_bind (wpAny_pure (wpAny_bind ?_)))
  refine wpAny_nsSet1 (s:={ s with toks:=s.toks+1 }) I.ns fun h' hn2 hs2=>?_
  obtain ⟨oD,esD,epD,hoD,hdD,hcD⟩:=hn2.count (PySem.Within.cons name v hw)
  refine wpAny_bind (wpAny_lookBehind hoD (by rw [hdD]; exact pastItsLine_dict (Nat.le_trans hcD (by rw [List.length_cons]; omega))) ?_)
  exact wpAny_pure (h _ ⟨(hs2.2 _ (Ne.symm I.ne)).trans I.obj,hn2,I.ne⟩ hs2)
theorem make_map {R:Result→Shared→Prop} {vs:List Value} {kw:List (Str×Value)} (X:K.In s.heap) (hm:PySem.W.makesIn K C=true)
    (hi:PySem.W.findIn K (.ref C) "__init__"=some (some (.ref f))) (hf:PySem.W.typeIn K (.ref f)=some (.type "function"))
    (h:codeAny (model prog w) (A.under (.builtin "type.__call__" ⟨.ref C::vs,kw⟩)) (.call (.ref f) ⟨.ref (s.heap.objs.size+1)::vs,kw⟩) (PySem.W.InitBack (s.heap.objs.size+1) R)
      { s with heap:=(s.heap.push PySem.W.emptyDict).push (PySem.W.instObj C s.heap.objs.size) }) :
    codeAny (model prog w) A (.call (.ref C) ⟨vs,kw⟩) R s:=by
  obtain ⟨hh,g,d,t,os⟩:=s
  exact PySem.W.make_core (PySem.W.makes_of X hm) (PySem.W.looks_findIn X hi) (fun self=>PySem.W.bind_fn X self hf) (.inl rfl) h
end
def putF (f:Str) (v:V):List (Str×V)→List (Str×V)
  | []=>[(f,v)]
  | (g,x)::r=>if g=f then (g,v)::r else (g,x)::putF f v r
theorem lookup_putF (f g:Str) (v:V):∀ fs:List (Str×V),(putF f v fs).lookup g=if g=f then some v else fs.lookup g
  | []=>by
    show List.lookup g [(f,v)]=_
    by_cases h:g=f
    · have hb:(g == f)=true:=beq_iff_eq.mpr h
      simp only [List.lookup,hb,if_pos h]
    · have hb:(g == f)=false:=beq_eq_false_iff_ne.mpr h
      simp only [List.lookup,hb,if_neg h]
  | (k,x)::r=>by
    have ih:=lookup_putF f g v r
    rw [show putF f v ((k,x)::r)=(if k=f then (k,v)::r else (k,x)::putF f v r) from rfl]
    by_cases hk:k=f
    · rw [if_pos hk]
      by_cases h:g=k
      · have hb:(g == k)=true:=beq_iff_eq.mpr h
        simp only [List.lookup,hb,if_pos (h.trans hk)]
      · have hb:(g == k)=false:=beq_eq_false_iff_ne.mpr h
        simp only [List.lookup,hb,if_neg (fun e:g=f=>h (e.trans hk.symm))]
    · rw [if_neg hk]
      by_cases h:g=k
      · have hb:(g == k)=true:=beq_iff_eq.mpr h
        simp only [List.lookup,hb,if_neg (fun e:g=f=>hk (h.symm.trans e))]
      · have hb:(g == k)=false:=beq_eq_false_iff_ne.mpr h
        simp only [List.lookup,hb]
        exact ih
theorem keys_putF (f:Str) (v:V):∀ fs:List (Str×V),f∈(putF f v fs).map (·.1)∧∀ g,g∈fs.map (·.1)→g∈(putF f v fs).map (·.1)
  | []=>⟨by simp [putF],fun g h=>by simp at h⟩
  | (k,x)::r=>by
    obtain ⟨i1,i2⟩:=keys_putF f v r
    rw [show putF f v ((k,x)::r)=(if k=f then (k,v)::r else (k,x)::putF f v r) from rfl]
    by_cases hk:k=f
    · rw [if_pos hk]
      subst hk
      exact ⟨by simp,fun g h=>by simpa using h⟩
    · rw [if_neg hk]
      refine ⟨?_,fun g h=>?_⟩
      · rw [List.map_cons]
        exact List.mem_cons_of_mem _ i1
      · rw [List.map_cons] at h ⊢
        rcases List.mem_cons.mp h with e | e
        · exact List.mem_cons.mpr (.inl e)
        · exact List.mem_cons_of_mem _ (i2 g e)
theorem length_putF (f:Str) (v:V):∀ fs:List (Str×V),(putF f v fs).length≤fs.length+1
  | []=>by simp [putF]
  | (k,x)::r=>by
    have ih:=length_putF f v r
    rw [show putF f v ((k,x)::r)=(if k=f then (k,v)::r else (k,x)::putF f v r) from rfl]
    by_cases hk:k=f
    · rw [if_pos hk,List.length_cons,List.length_cons]; omega
    · rw [if_neg hk,List.length_cons,List.length_cons]; omega
theorem RelO.some_of {v:V} {o:Option Value} (r:RelO (some v) o):∃ u,o=some u∧RelV v u:=by
  cases o with
  | none=>exact (show False from r).elim
  | some u=>exact ⟨u,rfl,r⟩
theorem RelO.none_of {o:Option Value} (r:RelO none o):o=none:=by
  cases o with
  | none=>rfl
  | some u=>exact (show False from r).elim
theorem handed_of {v:V} {u:Value} (r:RelV v u):PySem.W.handedIn u=true:=by
  cases v with
  | non=>cases (show u=Value.none from r); rfl
  | bl b=>cases (show u=Value.bool b from r); rfl
  | int i=>obtain ⟨t,e⟩:=(show ∃ t,u=Value.int i t from r); cases e; rfl
  | str x=>obtain ⟨t,e⟩:=(show ∃ t,u=Value.str x t from r); cases e; rfl
  | byt b=>obtain ⟨t,e⟩:=(show ∃ t,u=Value.bytes b t from r); cases e; rfl
  | flt b=>obtain ⟨t,e⟩:=(show ∃ t,u=Value.float b t from r); cases e; rfl
  | ref a=>cases (show u=Value.ref a from r); rfl
  | ty n=>cases (show u=Value.type n from r); rfl
section
variable {P:Program} {w:World} {H H':Hp} {h h':Heap} {a C dx:Addr} {fs fs':List (Str×V)}
theorem ins_get (hok:HOk P w H h) (e:H a=some (.ins C dx fs)):∃ mA,ObjM h a dx C mA∧(∀ f,RelO (fs.lookup f) (mA f))∧PySem.Within mA (fs.map (·.1))∧fs.length≤1000∧H dx=some (.own a):=by
  obtain ⟨d,z,ne,ob,mA,n,r,q⟩:=(show ObjOk P w H h a (.ins C dx fs) from hok a _ e)
  exact ⟨mA,⟨ob,n,ne⟩,r,q,z,d⟩
end
structure Cls (K:PySem.W.Frag) (C:Addr):Prop where
  pg:PySem.W.plainGet K C Str.empty=true
  hd:PySem.W.hasDictIn K C=true
  po:PySem.W.plainOver K C=true
  sa:PySem.W.findIn K (.ref C) "__setattr__"=some (some (.builtin "object.__setattr__"))
theorem Cls.get {K:PySem.W.Frag} {C:Addr} (c:Cls K C) (f:Str):PySem.W.plainGet K C f=true:=c.pg
def NoAttr (K:PySem.W.Frag) (C:Addr) (f:Str):Prop:=PySem.W.findIn K (.ref C) f=some none
theorem NoAttr.taker {K:PySem.W.Frag} {C:Addr} {f:Str} (n:NoAttr K C f):PySem.W.takerIn K C f=some none:=by
  unfold PySem.W.takerIn
  rw [show PySem.W.findIn K (.ref C) f=some none from n]
  rfl
structure Meth (K:PySem.W.Frag) (C:Addr) (m:Str) (f:Addr):Prop where
  at_:PySem.W.findIn K (.ref C) m=some (some (.ref f))
  fn:PySem.W.isFn K (.ref f)=true
  kp:PySem.W.keepIn K (.ref f)=true
section
variable {X:Cx} {pins:List (Addr×Obj)} {σ:St} {H:Hp} {s:Shared} {a C dx:Addr} {fs:List (Str×V)} {f:Str} {v:V} {A:Around} {E:Value→Shared→Prop}
theorem getattr_ok {b:Bool} {Q:Value→Shared→Prop} (I:Inv X pins σ H s) (e:H a=some (.ins C dx fs)) (c:Cls X.K C) (n:NoAttr X.K C f) (l:fs.lookup f=some v)
    (h:∀ u s',Inv X pins σ H s'→RelV v u→Q u s'):wpAny (model X.prog X.w) A (getAttr (.ref a) f b) Q E s:=by
  obtain ⟨mA,O,r,_,_,_⟩:=ins_get I.hok e
  obtain ⟨u,hu,ru⟩:=RelO.some_of (v:=v) (o:=mA f) (by rw [← l]; exact r f)
  exact get_map I.kIn O (c.get f) c.hd n hu (handed_of ru) (h u _ (I.tok _) ru)
theorem getmeth_ok {m:Str} {g:Addr} {pl:Sem Bool} {Q:Value×List Value→Shared→Prop} (I:Inv X pins σ H s) (e:H a=some (.ins C dx fs)) (c:Cls X.K C) (k:Meth X.K C m g) (l:fs.lookup m=none)
    (h:Q (.ref g,[.ref a]) s):wpAny (model X.prog X.w) A (getMethod (.ref a) m pl) Q E s:=by
  obtain ⟨mA,O,r,_,_,_⟩:=ins_get I.hok e
  have hn:mA m=none:=RelO.none_of (by rw [← l]; exact r m)
  exact get_meth I.kIn O (c.get m) k.at_ k.fn hn h
theorem setattr_ok {y:V} {u:Value} {Q:Unit→Shared→Prop} (I:Inv X pins σ H s) (e:H a=some (.ins C dx fs)) (c:Cls X.K C) (n:NoAttr X.K C f) (hl:fs.length < 1000) (ry:RelV y u)
    (h:∀ s',Inv X pins σ (upd H a (.ins C dx (putF f y fs))) s'→Q () s'):wpAny (model X.prog X.w) A (setAttr (.ref a) f u) Q E s:=by
  obtain ⟨mA,O,r,wi,_,ho⟩:=ins_get I.hok e
  have hz:(fs.map (·.1)).length≤sizeLine:=by rw [List.length_map,sizeLine_eq]; omega
  refine set_map I.kIn O c.sa c.po n.taker c.hd wi hz fun h' O' sb=>h _ ?_
  have hd:∃ o,h'.get? dx=some o:=let ⟨o,_,_,e',_⟩:=O'.ns; ⟨o,e'⟩
  refine I.write (x:=a) (e:=dx) (by rw [e]; exact True.intro) (.inr ho) (fun b q hb z=>(sb.2 b hb).trans z) hd ?_
  refine ⟨by rw [upd_ne O.ne]; exact ho,?_,O.ne,O'.obj,_,O'.ns,fun g=>?_,fun g hg=>?_⟩
  · have:=length_putF f y fs; omega
  · show RelO ((putF f y fs).lookup g) (if g=f then some u else mA g)
    rw [lookup_putF]
    by_cases q:g=f
    · rw [if_pos q,if_pos q]; exact ry
    · rw [if_neg q,if_neg q]; exact r g
  · by_cases q:g=f
    · rw [q]; exact (keys_putF f y fs).1
    · refine (keys_putF f y fs).2 g (wi g fun z=>hg ?_)
      show (if g=f then some u else mA g)=none
      rw [if_neg q]; exact z
theorem Inv.made (I:Inv X pins σ H s):Inv X pins σ (upd (upd H s.heap.objs.size (.own (s.heap.objs.size+1))) (s.heap.objs.size+1) (.ins C s.heap.objs.size []))
    { s with heap:=(s.heap.push PySem.W.emptyDict).push (PySem.W.instObj C s.heap.objs.size) }:=by
  have e1:(s.heap.push PySem.W.emptyDict).get? s.heap.objs.size=some PySem.W.emptyDict:=Heap.get?_push_size s.heap rfl
  have e2:((s.heap.push PySem.W.emptyDict).push (PySem.W.instObj C s.heap.objs.size)).get? (s.heap.objs.size+1)=some (PySem.W.instObj C s.heap.objs.size):=by
    have:=Heap.get?_push_size (s.heap.push PySem.W.emptyDict) (o:=PySem.W.instObj C s.heap.objs.size) rfl
    rwa [Heap.size_push] at this
  have e3:(s.heap.push PySem.W.emptyDict).Ns s.heap.objs.size (fun _=>none):=⟨PySem.W.emptyDict,#[],_,e1,rfl,(fun e he=>absurd he (by simp)),fun _=>rfl⟩
  have I1:=I.laid (a:=s.heap.objs.size) (o:=.own (s.heap.objs.size+1)) (h':=s.heap.push PySem.W.emptyDict) (t':=s.toks) (fun b u q=>Heap.get?_push_of_some _ q) (Nat.le_refl _) ⟨_,e1⟩
  refine I1.laid (a:=s.heap.objs.size+1) (o:=.ins C s.heap.objs.size []) (t':=s.toks) (fun b u q=>Heap.get?_push_of_some _ q) (Nat.le_of_eq (Heap.size_push _ _)) ?_
  have ne:s.heap.objs.size≠s.heap.objs.size+1:=Nat.ne_of_lt (Nat.lt_succ_self _)
  refine ⟨by rw [upd_ne ne,upd_same],Nat.zero_le _,ne,e2,fun _=>none,(Heap.Ns1.of_empty e3).at fun o q=>Heap.get?_push_of_some _ q,fun _=>True.intro,fun y hy=>absurd rfl hy⟩
theorem attr_of {prog:Program} {w:World} {env:Env} {e:Expr} {f:Str} {pos:Pos} {s:Shared} {Q:Value→Shared→Prop} (hb:attributeBase e f env (eval e env)=eval e env)
    (h:wpAny (model prog w) A (eval e env) (fun o s₁=>wpAny (model prog w) A (getAttr o f true) Q E s₁) E s):wpAny (model prog w) A (eval (.Attribute e f pos) env) Q E s :=
  Attribute_any_ h (by rw [arm_eval_Attribute,hb])
end
def tFld (K:PySem.W.Frag) (ta:TE) (f:Str):TE:=fun σ H Q=>ta σ H fun x H1=>∃ a C dx fs v,x=.ref a∧H1 a=some (.ins C dx fs)∧Cls K C∧NoAttr K C f∧fs.lookup f=some v∧Q v H1
def sFld (K:PySem.W.Frag) (ta tv:TE) (f:Str):TS:=fun D σ H=>tv σ H fun y H1=>ta σ H1 fun x H2=>∃ a C dx fs,x=.ref a∧H2 a=some (.ins C dx fs)∧Cls K C∧NoAttr K C f∧fs.length < 1000 ∧
  D.nx σ (upd H2 a (.ins C dx (putF f y fs)))
def InOp (X:Cx) (op:Operator) (rd:V→V→Hp→VK→Prop):Prop :=
  ∀ (pins:List (Addr×Obj)) (s:Shared) (σ:St) (H:Hp) (x y:V) (u v:Value) (Q:VK),Inv X pins σ H s→RelV x u→RelV y v→rd x y H Q→wpAny (model X.prog X.w) X.A (inplaceOp op u v) (EP X pins σ Q) X.xe s
def sFldAug (K:PySem.W.Frag) (ta tv:TE) (rd:V→V→Hp→VK→Prop) (f:Str):TS:=fun D σ H=>ta σ H fun x H1=>∃ a C dx fs v,x=.ref a∧H1 a=some (.ins C dx fs)∧Cls K C∧NoAttr K C f∧fs.lookup f=some v ∧
  tv σ H1 fun y H2=>rd v y H2 fun z H3=>∃ dx' fs',H3 a=some (.ins C dx' fs')∧fs'.length < 1000∧D.nx σ (upd H3 a (.ins C dx' (putF f z fs')))
section
variable {X:Cx} {o e value:Expr} {f:Str} {pos pos' tpos:Pos} {ta tv:TE}
theorem pe_fld (he:PE X e ta) (hb:attributeBase e f X.env (eval e X.env)=eval e X.env):PE X (.Attribute e f pos) (tFld X.K ta f):=by
  intro pins s σ H Q I h
  refine attr_of hb (thn (he pins s σ H _ I h) fun u s1 ⟨x,H1,I1,rx,a,C,dx,fs,v,ex,ea,c,n,l,q⟩=>?_)
  subst ex
  obtain rfl:u=Value.ref a:=rx
  exact getattr_ok I1 ea c n l fun u' s2 I2 ru=>⟨v,H1,I2,ru,q⟩
theorem ps_fld (ha:PE X o ta) (hv:PE X value tv) (hs:swapsWith value (some (.Attribute o f pos')) pos.line X.env=pure false):PS X (.Assign [.Attribute o f pos'] value pos) (sFld X.K ta tv f):=by
  intro pins s σ H D I h
  refine plainObj_wpAny_Assign_Attribute (thn (hv pins s σ H _ I h) fun u s1 ⟨y,H1,I1,ry,q⟩=>thn (ha pins s1 σ H1 _ I1 q) fun ov s2 ⟨x,H2,I2,rx,a,C,dx,fs,ex,ea,c,n,l,q2⟩=>?_) hs
  subst ex
  obtain rfl:ov=Value.ref a:=rx
  exact setattr_ok I2 ea c n l ry fun s3 I3=>⟨σ,_,I3,q2⟩
theorem ps_fldaug {op:Operator} {rd:V→V→Hp→VK→Prop} (ha:PE X o ta) (hv:PE X value tv) (hop:InOp X op rd):PS X (.AugAssign (.Attribute o f tpos) op value pos) (sFldAug X.K ta tv rd f):=by
  intro pins s σ H D I h
  refine wpAny_AugAssign_AttributeAny (thn (ha pins s σ H _ I h) fun ov s1 ⟨x,H1,I1,rx,a,C,dx,fs,v,ex,ea,c,n,l,q⟩=>?_)
  subst ex
  obtain rfl:ov=Value.ref a:=rx
  refine getattr_ok I1 ea c n l fun u s2 I2 ru=>thn (hv pins s2 σ H1 _ I2 q) fun w3 s3 ⟨y,H2,I3,ry,q3⟩=>thn (hop pins s3 σ H2 v y u w3 _ I3 ru ry q3) fun w4 s4 ⟨z,H3,I4,rz,dx',fs',ea',l',q4⟩=>?_
  exact setattr_ok I4 ea' c n l' rz fun s5 I5=>⟨σ,_,I5,q4⟩
def rAdd:V→V→Hp→VK→Prop:=fun x y H Q=>∃ i j,x=.int i∧y=.int j∧Q (.int (i+j)) H
theorem in_add:InOp X .Add rAdd:=by
  rintro pins s σ H x y u v Q I rx ry ⟨i,j,rfl,rfl,q⟩
  obtain ⟨t,rfl⟩:=(show ∃ t,u=Value.int i t from rx)
  obtain ⟨t',rfl⟩:=(show ∃ t',v=Value.int j t' from ry)
  exact PyProof.Rows.iadd_int ⟨.int (i+j),H,I.tok _,⟨_,rfl⟩,q⟩
theorem methcall_of {pl:Sem Bool} {m:Str} {apos:Pos} {args:List Expr} {pins:List (Addr×Obj)} {s:Shared} {σ:St} {H:Hp} {Q:Value→Shared→Prop} {te:TE} (he:PE X e te) (I:Inv X pins σ H s)
    (h:te σ H fun x H1=>∃ a C dx fs g,x=.ref a∧H1 a=some (.ins C dx fs)∧Cls X.K C∧Meth X.K C m g∧fs.lookup m=none ∧
      ∀ s1,Inv X pins σ H1 s1→wpAny (model X.prog X.w) X.A (callWith pos (.ref g) [.ref a] (backTo pos (starEach args X.env)) (backToKw pos (keywordEach [] X.env))) Q X.xe s1)
    (ht:eval (.Call (.Attribute e m apos) args [] pos) X.env=(do
      let ov ← eval e X.env
      standAt apos.atName
      let (f,first) ← holding [ov] (getMethod ov m pl)
      callWith pos f first (backTo pos (starEach args X.env)) (backToKw pos (keywordEach [] X.env)))) :
    wpAny (model X.prog X.w) X.A (eval (.Call (.Attribute e m apos) args [] pos) X.env) Q X.xe s:=by
  refine PySem.W.methodCall_KW (pl:=pl) (thn (he pins s σ H _ I h) fun u s1 ⟨x,H1,I1,rx,a,C,dx,fs,g,ex,ea,c,k,l,q⟩=>?_) ht
  subst ex
  obtain rfl:u=Value.ref a:=rx
  exact getmeth_ok I1 ea c k l (q s1 I1)
end
section
variable {X:Cx} {pins:List (Addr×Obj)} {σ:St} {H:Hp} {s:Shared} {A:Around} {E:Value→Shared→Prop} {Q:Value→Shared→Prop} {c:Value} {b:Bool}
inductive TyOf (K:PySem.W.Frag) (H:Hp):V→Value→Prop where
  | non:TyOf K H .non (.type "NoneType")
  | bl (x:Bool):TyOf K H (.bl x) (.type "bool")
  | int (i:Int):TyOf K H (.int i) (.type "int")
  | str (x:Str):TyOf K H (.str x) (.type "str")
  | flt (x:UInt64):TyOf K H (.flt x) (.type "float")
  | lst {a:Addr} {xs:List V} (e:H a=some (.lst xs)):TyOf K H (.ref a) (.type "list")
  | frz {a:Addr} {o:Obj} {xs:List V} (e:H a=some (.frz o (.lst xs))):TyOf K H (.ref a) (.type "list")
  | tup {a:Addr} {xs:List V} (e:H a=some (.tup xs)):TyOf K H (.ref a) (.type "tuple")
  | dK {a:Addr} {kvs:List (Key×V)} (e:H a=some (.dK kvs)):TyOf K H (.ref a) (.type "dict")
  | dT {a:Addr} {kvs:List (List Key×V)} (e:H a=some (.dT kvs)):TyOf K H (.ref a) (.type "dict")
  | ins {a C dx:Addr} {fs:List (Str×V)} (e:H a=some (.ins C dx fs)) (cl:Cls K C) (ha:PySem.W.findIn K (.ref C) "__class__"=some (some (.builtin "object.__class__")))
      (hn:PySem.W.specialIn K (.builtin "object.__class__") "__get__"=some (some (.builtin "getset_descriptor.__get__"))) (htk:PySem.W.takesIn K (.builtin "object.__class__")=some true)
      (hm:PySem.W.mroIn K C (.type "object")=some true):TyOf K H (.ref a) (.ref C)
theorem isinst_ok {x:V} {u t:Value} (I:Inv X pins σ H s) (rx:RelV x u) (ty:TyOf X.K H x t) (e:PySem.W.kitOne X.K t c=some b) (h:∀ tk,Q (.bool b) { s with toks:=tk }) :
    wpAny (model X.prog X.w) A (call (.builtin "isinstance") [u,c]) Q E s:=by
  cases ty with
  | non=>cases (show u=Value.none from rx); exact PySem.W.kia_one PySem.W.kitx_none I.kIn True.intro e (fun z=>nomatch z) h
  | bl y=>cases (show u=Value.bool y from rx); exact PySem.W.kia_one PySem.W.kitx_bool I.kIn True.intro e (fun z=>nomatch z) h
  | int i=>obtain ⟨t,q⟩:=(show ∃ t,u=Value.int i t from rx); cases q; exact PySem.W.kia_one PySem.W.kitx_int I.kIn True.intro e (fun z=>nomatch z) h
  | str y=>obtain ⟨t,q⟩:=(show ∃ t,u=Value.str y t from rx); cases q; exact PySem.W.kia_one PySem.W.kitx_str I.kIn True.intro e (fun z=>nomatch z) h
  | flt y=>obtain ⟨t,q⟩:=(show ∃ t,u=Value.float y t from rx); cases q; exact PySem.W.kia_one PySem.W.kitx_float I.kIn True.intro e (fun z=>nomatch z) h
  | @lst a xs ea =>
    cases (show u=Value.ref a from rx)
    obtain ⟨_,_,n,_,h1⟩:=(show ObjOk X.prog X.w H s.heap a (.lst xs) from I.hok a _ ea)
    exact PySem.W.kia_one PySem.W.kitx_list I.kIn ⟨_,h1,rfl⟩ e (fun z=>nomatch z) h
  | @frz a ob xs ea =>
    cases (show u=Value.ref a from rx)
    obtain ⟨_,_,_,n,_,h1⟩:=(show ObjOk X.prog X.w H s.heap a (.frz ob (.lst xs)) from I.hok a _ ea)
    exact PySem.W.kia_one PySem.W.kitx_list I.kIn ⟨_,h1,rfl⟩ e (fun z=>nomatch z) h
  | @tup a xs ea =>
    cases (show u=Value.ref a from rx)
    obtain ⟨_,_,_,p⟩:=(show ObjOk X.prog X.w H s.heap a (.tup xs) from I.hok a _ ea)
    obtain ⟨o,h1,h2,_⟩:=p
    exact PySem.W.kia_one PySem.W.kitx_tuple I.kIn ⟨o,h1,h2⟩ e (fun z=>nomatch z) h
  | @dK a kvs ea =>
    cases (show u=Value.ref a from rx)
    obtain ⟨_,_,vs,_,p⟩:=(show ObjOk X.prog X.w H s.heap a (.dK kvs) from I.hok a _ ea)
    obtain ⟨o,es,ep,h1,h2,_⟩:=p
    exact PySem.W.kia_one PySem.W.kitx_dict I.kIn ⟨o,h1,h2.1⟩ e (fun z=>nomatch z) h
  | @dT a kvs ea =>
    cases (show u=Value.ref a from rx)
    obtain ⟨_,_,xs,_,o,es,ep,h1,h2,_⟩:=(show ObjOk X.prog X.w H s.heap a (.dT kvs) from I.hok a _ ea)
    exact PySem.W.kia_one PySem.W.kitx_dict I.kIn ⟨o,h1,h2.1⟩ e (fun z=>nomatch z) h
  | @ins a C dx fs ea cl ha hn htk hm =>
    cases (show u=Value.ref a from rx)
    obtain ⟨mA,O,_⟩:=ins_get I.hok ea
    obtain ⟨od,J,_⟩:=O.look
    exact PySem.W.kia_one (PySem.W.kitx_own (cl.get _) cl.hd ha hn htk hm) I.kIn J e (fun z=>nomatch z) h
end
end L2
namespace L2
open PySem PySem.Spec PyProof.Rows
structure Room (k:Nat) (A:Around):Prop where
  hd:A.handled=none
  dp:A.depth+3 * k+5 < recursionLimit
  un:A.units+16 * k+200 < cLine
theorem Room.mono {j k:Nat} {A:Around} (r:Room k A) (h:j≤k):Room j A:=⟨r.hd,by have:=r.dp; omega,by have:=r.un; omega⟩
theorem Room.deeper {k:Nat} {A:Around} (r:Room (k+1) A) (env:Env):Room k (A.deeper env) :=
  ⟨r.hd,by have:=r.dp; show A.depth+1+3 * k+5 < _; omega,by have:=r.un; show A.units+3+16 * k+200 < _; omega⟩
theorem make_depth {A:Around} {C:Addr} {us:List Value} {kw:List (Str×Value)}:(A.under (.builtin "type.__call__" ⟨.ref C::us,kw⟩)).depth=A.depth+1:=by
  first | rfl | simp [Around.under,Code.weight,Code.isCreation,Code.isGuard,Code.isCaller,Code.frames,Code.isFrame,guardIds]
theorem make_units {A:Around} {C:Addr} {us:List Value} {kw:List (Str×Value)}:(A.under (.builtin "type.__call__" ⟨.ref C::us,kw⟩)).units=A.units+1:=by
  first | rfl | simp [Around.under,Code.cUnits,Code.frames,Code.isFrame]
theorem Room.make {k:Nat} {A:Around} (r:Room (k+1) A) (C:Addr) (us:List Value) (kw:List (Str×Value)):Room k (A.under (.builtin "type.__call__" ⟨.ref C::us,kw⟩)) :=
  ⟨r.hd,by have:=r.dp; rw [make_depth]; omega,by have:=r.un; rw [make_units]; omega⟩
theorem Room.depth {k:Nat} {A:Around} (r:Room k A):A.depth < recursionLimit:=by have:=r.dp; omega
theorem Room.units {k:Nat} {A:Around} (r:Room k A):A.units+64 < cLine:=by have:=r.un; omega
def tNil:TA:=fun _ H Q=>Q [] H
def tCons (ta:TE) (tr:TA):TA:=fun σ H Q=>ta σ H fun x H1=>tr σ H1 fun xs H2=>Q (x::xs) H2
section
variable {X:Cx} {e:Expr} {es:List Expr} {te:TE} {t:TA} {pos:Pos}
theorem pa_nil:PA X [] tNil:=fun _ _ _ _ H Q I h=>Calls.spliced_nil ⟨[],H,I,.nil,h⟩
theorem pa_cons (ha:PE X e te) (hr:PA X es t) (hs:starEach (e::es) X.env=(false,eval e X.env)::starEach es X.env:=by rfl):PA X (e::es) (tCons te t):=by
  intro pos pins s σ H Q I h
  rw [hs]
  show wpAny _ _ (spliced ((false,eval e X.env)::backTo pos (starEach es X.env))) _ _ s
  refine Calls.spliced_cons (thn (ha pins s σ H _ I h) fun u s1 ⟨x,H1,I1,r1,q1⟩=>?_)
  exact thn (hr pos pins s1 σ H1 _ I1 q1) fun us s2 ⟨xs,H2,I2,r2,q2⟩=>⟨x::xs,H2,I2,.cons r1 r2,q2⟩
def tTup (t:TA):TE:=fun σ H Q=>t σ H fun xs H1=>xs.length≤sizeLine∧∀ p,H1 p=none→Q (.ref p) (upd H1 p (.tup xs))
def tLst (t:TA):TE:=fun σ H Q=>t σ H fun xs H1=>xs.length≤sizeLine∧∀ p,H1 p=none→Q (.ref p) (upd H1 p (.lst xs))
theorem pe_tup {x1} (h:PA X es t):PE X (.Tuple es x1 pos) (tTup t):=by
  intro pins s σ H Q I hq
  refine wpAny_Tuple_spliced (thn (h pos pins s σ H _ I hq) fun us s1 ⟨xs,H1,I1,r,z,q⟩=>⟨by rw [← r.length]; exact z,?_⟩)
  have hf:H1 s1.heap.objs.size=none:=I1.hok.fresh (Nat.le_refl _)
  refine ⟨.ref s1.heap.objs.size,upd H1 s1.heap.objs.size (.tup xs),I1.laid (t':=s1.toks) (fun b u e=>Heap.get?_push_of_some _ e) (Nat.le_refl _) ?_,rfl,q _ hf⟩
  exact ⟨z,us,r,⟨_,Heap.get?_push_size _ rfl,rfl,_,rfl⟩⟩
theorem pe_lst (h:PA X es t):PE X (.List es pos) (tLst t):=by
  intro pins s σ H Q I hq
  refine wpAny_List_spliced (thn (h pos pins s σ H _ I hq) fun us s1 ⟨xs,H1,I1,r,z,q⟩=>⟨by rw [← r.length]; exact z,?_⟩)
  have hf:H1 s1.heap.objs.size=none:=I1.hok.fresh (Nat.le_refl _)
  refine ⟨.ref s1.heap.objs.size,upd H1 s1.heap.objs.size (.lst xs),I1.laid (t':=s1.toks) (fun b u e=>Heap.get?_push_of_some _ e) (Nat.le_refl _) ?_,rfl,q _ hf⟩
  exact ⟨z,us,0,r,Heap.get?_push_size _ rfl⟩
end
abbrev Sp:=List V→Hp→VK→XK→Prop
abbrev CXT:=List Env→Hp→Shared→XK→Value→Shared→Prop
structure Env0 (P:Program) (w:World) (K:PySem.W.Frag) (mg:Str→Option Value) (base:Heap) (A:Around) (outer:List Env) (s:Shared) (H:Hp):Prop where
  frames:A.frames=some outer
  mod:Mod K mg base
  bs:∀ b o,base.get? b=some o→s.heap.get? b=some o∧H b=none
  bsz:base.objs.size≤s.heap.objs.size
  funs:s.heap.FunFrames base outer
  frf:∀ b∈frs outer,H b=none
  hok:HOk P w H s.heap
  bare:AllBare s.gens
def CE (outer:List Env) (P:Program) (w:World) (H:Hp) (s:Shared) (Q:VK) (u:Value) (s':Shared):Prop :=
  ∃ v H',s'.os=s.os∧AllBare s'.gens∧Un (frs outer) [] H H' s.heap s'.heap∧HOk P w H' s'.heap∧RelV v u∧Q v H'
def CR (CX:CXT) (outer:List Env) (P:Program) (w:World) (H:Hp) (s:Shared) (Q:VK) (E:XK) (r:Result) (s':Shared):Prop :=
  match r with
  | .ok (.ret u)=>CE outer P w H s Q u s'
  | .ok _=>False
  | .error e=>CX outer H s E e s'
structure FnOk (P:Program) (w:World) (K:PySem.W.Frag) (mg:Str→Option Value) (base:Heap) (CX:CXT) (k:Nat) (f:Addr) (fd:FuncData) (ps:List Str) (sp:Sp):Prop where
  len:∀ vs H Q E,sp vs H Q E→vs.length=ps.length
  run:∀ (A:Around) (outer:List Env) (s:Shared) (H:Hp) (args:Args) (us:List Value) (vs:List V) (Q:VK) (E:XK),Room k A→Env0 P w K mg base A outer s H→BindsTo s fd args (ps.zip us)→Vals vs us→sp vs H Q E →
    codeAny (model P w) A (.call (.ref f) args) (CR CX outer P w H s Q E) s
theorem FnOk.mono {P:Program} {w:World} {K:PySem.W.Frag} {mg:Str→Option Value} {base:Heap} {CX:CXT} {j k:Nat} {f:Addr} {fd:FuncData} {ps:List Str} {sp:Sp} (F:FnOk P w K mg base CX j f fd ps sp) (h:j≤k) :
    FnOk P w K mg base CX k f fd ps sp:=⟨F.len,fun A outer s H args us vs Q E hr=>F.run A outer s H args us vs Q E (hr.mono h)⟩
theorem Env0.make {P:Program} {w:World} {K:PySem.W.Frag} {mg:Str→Option Value} {base:Heap} {A:Around} {outer:List Env} {s:Shared} {H:Hp} (e:Env0 P w K mg base A outer s H) (C:Addr) (us:List Value) (kw:List (Str×Value)) :
    Env0 P w K mg base (A.under (.builtin "type.__call__" ⟨.ref C::us,kw⟩)) outer s H:=⟨by first | exact e.frames | (simpa [Around.under,Code.envs,Code.isFrame,pushEnvs] using e.frames),e.mod,e.bs,e.bsz,e.funs,e.frf,e.hok,e.bare⟩
section
variable {X:Cx} {pins:List (Addr×Obj)} {σ:St} {H:Hp} {s s':Shared}
theorem Inv.env0 (I:Inv X pins σ H s):Env0 X.prog X.w X.K X.mg X.base X.A X.stack s H :=
  ⟨I.ok.frames,I.ok.mod,I.bs,Nat.le_trans I.ok.bsz I.sz,I.stack,I.stkFree,I.hok,I.bare⟩
theorem Inv.after {Q:VK} {u:Value} (I:Inv X pins σ H s) (h:CE X.stack X.prog X.w H s Q u s'):EP X pins σ Q u s':=by
  obtain ⟨v,H',os,bare,un,hok,r,q⟩:=h
  obtain ⟨hh,g,d,t,os'⟩:=s'
  obtain rfl:os'=s.os:=os
  exact ⟨v,H',I.call (h':=hh) (g':=g) (d':=d) (t':=t) (ch:=[]) un hok bare (fun b z=>absurd z (by simp)),r,q⟩
end
def tCall (sp:Sp) (dvs:List V) (E:XK) (t:TA):TE:=fun σ H Q=>t σ H fun vs H1=>sp (vs++dvs) H1 Q E
def tMeth (C:Addr) (m:Str) (sp:Sp) (dvs:List V) (E:XK) (ta:TE) (t:TA):TE:=fun σ H Q=>ta σ H fun x H1=>∃ a dx fs,x=.ref a∧H1 a=some (.ins C dx fs)∧fs.lookup m=none ∧
  t σ H1 fun vs H2=>sp (x::(vs++dvs)) H2 Q E
def tMake (C:Addr) (sp:Sp) (dvs:List V) (E:XK) (t:TA):TE:=fun σ H Q=>t σ H fun vs H1=>∀ x dx,H1 x=none→H1 dx=none→dx≠x →
  sp (.ref x::(vs++dvs)) (upd (upd H1 dx (.own x)) x (.ins C dx [])) (fun v H2=>v=.non∧Q (.ref x) H2) E
def Binds (K:PySem.W.Frag) (fd:FuncData) (ps:List Str) (ds:List Value):Prop :=
  ∀ (s:Shared) (us:List Value),K.In s.heap→(us++ds).length=ps.length→BindsTo s fd ⟨us,[]⟩ (ps.zip (us++ds))
theorem Binds.all {K:PySem.W.Frag} {fd:FuncData} {ps:List Str} (h:∀ us:List Value,us.length=ps.length→bindArgs fd ⟨us,[]⟩=pure (ps.zip us)):Binds K fd ps []:=fun s us _ hl=>by
  rw [List.append_nil] at hl ⊢
  exact .of_eq (h us hl)
def Passes (CX:CXT) (X:Cx) (E:XK):Prop:=∀ (pins:List (Addr×Obj)) (σ:St) (H:Hp) (s:Shared) (e:Value) (s':Shared),Inv X pins σ H s→CX X.stack H s E e s'→X.xe e s'
section
variable {X:Cx} {CX:CXT} {k:Nat} {f C:Addr} {fd:FuncData} {ps:List Str} {sp:Sp} {dvs:List V} {ds:List Value} {E:XK} {x m:Str} {p pos apos:Pos} {e o:Expr} {es:List Expr} {ta:TE} {t:TA}
theorem run_fn {pins:List (Addr×Obj)} {σ:St} {H:Hp} {s:Shared} {Q:VK} {us:List Value} {vs:List V} (F:FnOk X.prog X.w X.K X.mg X.base CX k f fd ps sp) (hr:Room k X.A) (hb:Binds X.K fd ps ds) (hd:Vals dvs ds) (hx:Passes CX X E)
    (I:Inv X pins σ H s) (r:Vals vs us) (h:sp (vs++dvs) H Q E):wpAny (model X.prog X.w) X.A (call (.ref f) us) (EP X pins σ Q) X.xe s:=by
  have r2:Vals (vs++dvs) (us++ds):=r.append hd
  have hl:(us++ds).length=ps.length:=by rw [← r2.length]; exact F.len _ _ _ _ h
  refine wpAny_call (codeAny_mono (F.run X.A X.stack s H ⟨us,[]⟩ (us++ds) (vs++dvs) Q E hr I.env0 (hb s us I.kIn hl) r2 h) fun r s' hq=>?_)
  cases r with
  | error e=>exact hx pins σ H s e s' I hq
  | ok fl =>
    cases fl with
    | ret u=>exact I.after hq
    | next=>exact False.elim hq
    | brk=>exact False.elim hq
    | cont=>exact False.elim hq
theorem pe_call (F:FnOk X.prog X.w X.K X.mg X.base CX k f fd ps sp) (hr:Room k X.A) (hg:Gl X x) (hm:X.mg x=some (.ref f)) (hk:PySem.W.keepIn X.K (.ref f)=true) (hb:Binds X.K fd ps ds) (hd:Vals dvs ds) (hx:Passes CX X E)
    (ha:PA X (e::es) t) (hdb:(x == ("__debug__":Str))=false:=by decide) (he:starEach (e::es) X.env=(false,eval e X.env)::starEach es X.env:=by rfl) (hpl:(backTo pos (starEach es X.env)).any (·.1)=false:=by rfl) :
    PE X (.Call (.Name x p) (e::es) [] pos) (tCall sp dvs E t):=by
  intro pins s σ H Q I h
  refine wpAny_Call_Name_kw (ld_glob I hg hm ?_ hdb)
  refine PySem.W.callWith_K (h₀:=X.base) I.ok.mod.kin hk (thn (ha pos pins s σ H _ I h) fun us s1 ⟨vs,H1,I1,r,q⟩=>⟨I1.kIn,?_⟩) he hpl
  exact run_fn F hr hb hd hx I1 r q
theorem pe_meth {pl:Sem Bool} (he:PE X o ta) (c:Cls X.K C) (hm:Meth X.K C m f) (F:FnOk X.prog X.w X.K X.mg X.base CX k f fd ps sp) (hr:Room k X.A) (hb:Binds X.K fd ps ds) (hd:Vals dvs ds) (hx:Passes CX X E) (ha:PA X (e::es) t)
    (hst:starEach (e::es) X.env=(false,eval e X.env)::starEach es X.env:=by rfl) (hpl:(backTo pos (starEach es X.env)).any (·.1)=false:=by rfl)
    (ht:eval (.Call (.Attribute o m apos) (e::es) [] pos) X.env=(do
      let ov ← eval o X.env
      standAt apos.atName
      let (f,first) ← holding [ov] (getMethod ov m pl)
      callWith pos f first (backTo pos (starEach (e::es) X.env)) (backToKw pos (keywordEach [] X.env))):=by rfl) :
    PE X (.Call (.Attribute o m apos) (e::es) [] pos) (tMeth C m sp dvs E ta t):=by
  intro pins s σ H Q I h
  refine PySem.W.methodCall_KW (pl:=pl) (thn (he pins s σ H _ I h) fun u s1 ⟨x,H1,I1,rx,a,dx,fs,ex,ea,l,q⟩=>?_) ht
  subst ex
  obtain rfl:u=Value.ref a:=rx
  refine getmeth_ok I1 ea c hm l ?_
  refine PySem.W.callWith_K (first:=[.ref a]) (h₀:=X.base) I.ok.mod.kin hm.kp (thn (ha pos pins s1 σ H1 _ I1 q) fun us s2 ⟨vs,H2,I2,r,q2⟩=>⟨I2.kIn,?_⟩) hst hpl
  exact run_fn (us:=.ref a::us) (vs:=.ref a::vs) F hr hb hd hx I2 (.cons rfl r) q2
theorem pe_meth0 {pl:Sem Bool} (he:PE X o ta) (c:Cls X.K C) (hm:Meth X.K C m f) (F:FnOk X.prog X.w X.K X.mg X.base CX k f fd ps sp) (hr:Room k X.A) (hb:Binds X.K fd ps ds) (hd:Vals dvs ds) (hx:Passes CX X E)
    (ht:eval (.Call (.Attribute o m apos) [] [] pos) X.env=(do
      let ov ← eval o X.env
      standAt apos.atName
      let (f,first) ← holding [ov] (getMethod ov m pl)
      callWith pos f first (backTo pos (starEach [] X.env)) (backToKw pos (keywordEach [] X.env))):=by rfl) :
    PE X (.Call (.Attribute o m apos) [] [] pos) (tMeth C m sp dvs E ta tNil):=by
  intro pins s σ H Q I h
  refine PySem.W.methodCall_KW (pl:=pl) (thn (he pins s σ H _ I h) fun u s1 ⟨x,H1,I1,rx,a,dx,fs,ex,ea,l,q⟩=>?_) ht
  subst ex
  obtain rfl:u=Value.ref a:=rx
  refine getmeth_ok I1 ea c hm l ?_
  exact PySem.W.callWith_K0 (first:=[.ref a]) I1.kIn hm.kp (run_fn (us:=[.ref a]) (vs:=[.ref a]) F hr hb hd hx I1 (.cons rfl .nil) q)
structure Mk (K:PySem.W.Frag) (C f:Addr):Prop where
  makes:PySem.W.makesIn K C=true
  init:PySem.W.findIn K (.ref C) "__init__"=some (some (.ref f))
  fn:PySem.W.isFn K (.ref f)=true
  kp:PySem.W.keepIn K (.ref C)=true
theorem run_make {pins:List (Addr×Obj)} {σ:St} {H:Hp} {s:Shared} {Q:VK} {us:List Value} {vs:List V} (M:Mk X.K C f) (F:FnOk X.prog X.w X.K X.mg X.base CX k f fd ps sp) (hr:Room (k+1) X.A) (hb:Binds X.K fd ps ds) (hd:Vals dvs ds)
    (hx:Passes CX X E) (I:Inv X pins σ H s) (r:Vals vs us)
    (h:∀ x dx,H x=none→H dx=none→dx≠x→sp (.ref x::(vs++dvs)) (upd (upd H dx (.own x)) x (.ins C dx [])) (fun v H2=>v=.non∧Q (.ref x) H2) E) :
    wpAny (model X.prog X.w) X.A (call (.ref C) us) (EP X pins σ Q) X.xe s:=by
  have hq:=h (s.heap.objs.size+1) s.heap.objs.size (I.hok.fresh (Nat.le_succ _)) (I.hok.fresh (Nat.le_refl _)) (Nat.ne_of_lt (Nat.lt_succ_self _))
  have I2:=Inv.made (C:=C) I
  have r2:Vals (V.ref (s.heap.objs.size+1)::(vs++dvs)) (Value.ref (s.heap.objs.size+1)::(us++ds)):=.cons rfl (r.append hd)
  have hl:(Value.ref (s.heap.objs.size+1)::us++ds).length=ps.length:=by
    have e:=r2.length
    rw [F.len _ _ _ _ hq] at e
    exact e.symm
  refine wpAny_call (make_map (f:=f) I.kIn M.makes M.init (beq_iff_eq.mp M.fn) (codeAny_mono (F.run _ X.stack _ _ ⟨Value.ref (s.heap.objs.size+1)::us,[]⟩ (Value.ref (s.heap.objs.size+1)::(us++ds)) _ _ E (hr.make C us [])
    (I2.env0.make C us []) (hb _ (Value.ref (s.heap.objs.size+1)::us) I2.kIn hl) r2 hq) fun r s' hq'=>?_))
  cases r with
  | error e=>exact hx pins σ _ _ e s' I2 hq'
  | ok fl =>
    cases fl with
    | ret u =>
      obtain ⟨v,H',I3,rv,ev,q3⟩:=I2.after hq'
      subst ev
      exact ⟨rv,⟨V.ref (s.heap.objs.size+1),H',I3,rfl,q3⟩⟩
    | next=>exact False.elim hq'
    | brk=>exact False.elim hq'
    | cont=>exact False.elim hq'
theorem pe_make (M:Mk X.K C f) (F:FnOk X.prog X.w X.K X.mg X.base CX k f fd ps sp) (hr:Room (k+1) X.A) (hg:Gl X x) (hm:X.mg x=some (.ref C)) (hb:Binds X.K fd ps ds) (hd:Vals dvs ds) (hx:Passes CX X E)
    (ha:PA X (e::es) t) (hdb:(x == ("__debug__":Str))=false:=by decide) (he:starEach (e::es) X.env=(false,eval e X.env)::starEach es X.env:=by rfl) (hpl:(backTo pos (starEach es X.env)).any (·.1)=false:=by rfl) :
    PE X (.Call (.Name x p) (e::es) [] pos) (tMake C sp dvs E t):=by
  intro pins s σ H Q I h
  refine wpAny_Call_Name_kw (ld_glob I hg hm ?_ hdb)
  refine PySem.W.callWith_K (h₀:=X.base) I.ok.mod.kin M.kp (thn (ha pos pins s σ H _ I h) fun us s1 ⟨vs,H1,I1,r,q⟩=>⟨I1.kIn,?_⟩) he hpl
  exact run_make M F hr hb hd hx I1 r q
theorem pe_make0 (M:Mk X.K C f) (F:FnOk X.prog X.w X.K X.mg X.base CX k f fd ps sp) (hr:Room (k+1) X.A) (hg:Gl X x) (hm:X.mg x=some (.ref C)) (hb:Binds X.K fd ps ds) (hd:Vals dvs ds) (hx:Passes CX X E)
    (hdb:(x == ("__debug__":Str))=false:=by decide):PE X (.Call (.Name x p) [] [] pos) (tMake C sp dvs E tNil):=by
  intro pins s σ H Q I h
  refine wpAny_Call_Name_kw (ld_glob I hg hm ?_ hdb)
  exact PySem.W.callWith_K0 I.kIn M.kp (run_make (us:=[]) M F hr hb hd hx I .nil h)
end
section
variable {X:Cx} {CX:CXT} {k:Nat} {f C:Addr} {fd:FuncData} {ps ks:List Str} {sp:Sp} {E:XK} {x m:Str} {p pos apos kpos:Pos} {e o:Expr} {es:List Expr} {kws:List Keyword} {te ta:TE} {t tk:TA} {nm:Option Str}
variable {g:List Value→List Value→List Value} {gV:List V→List V→List V}
end
structure FnScope (N P:List Str) (sc:Scope):Prop where
  kind:sc.kind=.function
  co:sc.isCoroutine=false
  gen:sc.isGenerator=false
  nd:N.Nodup
  pre:N.take P.length=P
  par:∀ x∈P,sc.names.lookup x=some .local∨sc.names.lookup x=some .cell
  nofree:∀ y∈sc.names,y.2≠.free
theorem bindL_out {kindOf:Str→Option NameKind} {x:Str}:∀ {binds:List (Str×Value)} {m:Str→Option Value},(∀ v,(x,v) ∉ binds)→bindL kindOf binds m x=m x
  | [],_,_=>rfl
  | (n,v)::r,m,h=>by
    unfold bindL
    rw [bindL_out fun w hw=>h w (List.mem_cons_of_mem _ hw)]
    split
    · have:x≠n:=by rintro rfl; exact h v List.mem_cons_self
      simp [this]
    · rfl
theorem bindC_out {kindOf:Str→Option NameKind} {x:Str}:∀ {binds:List (Str×Value)} {m:Str→Option Value},(∀ v,(x,v) ∉ binds)→bindC kindOf binds m x=m x
  | [],_,_=>rfl
  | (n,v)::r,m,h=>by
    unfold bindC
    rw [bindC_out fun w hw=>h w (List.mem_cons_of_mem _ hw)]
    split
    · rfl
    · have:x≠n:=by rintro rfl; exact h v List.mem_cons_self
      simp [this]
theorem bindL_get {kindOf:Str→Option NameKind} {x:Str} {v:Value}:∀ {P:List Str} {vs:List Value} {i:Nat} {m:Str→Option Value},P.Nodup→P[i]?=some x→vs[i]?=some v→kindOf x=some .local →
    bindL kindOf (P.zip vs) m x=some v
  | [],_,_,_,_,h,_,_=>by simp at h
  | _::_,[],_,_,_,_,h,_=>by simp at h
  | p::P,w::vs,0,m,nd,h1,h2,hk=>by
    simp at h1 h2; subst h1; subst h2
    show bindL kindOf ((p,w)::P.zip vs) m p=_
    unfold bindL
    rw [bindL_out fun v hv=>(List.nodup_cons.mp nd).1 (List.of_mem_zip hv).1,if_pos hk]
    simp
  | p::P,w::vs,i+1,m,nd,h1,h2,hk=>by
    show bindL kindOf ((p,w)::P.zip vs) m x=_
    unfold bindL
    exact bindL_get (i:=i) (List.nodup_cons.mp nd).2 (by simpa using h1) (by simpa using h2) hk
theorem bindC_get {kindOf:Str→Option NameKind} {x:Str} {v:Value}:∀ {P:List Str} {vs:List Value} {i:Nat} {m:Str→Option Value},P.Nodup→P[i]?=some x→vs[i]?=some v→kindOf x≠some .local →
    bindC kindOf (P.zip vs) m x=some v
  | [],_,_,_,_,h,_,_=>by simp at h
  | _::_,[],_,_,_,_,h,_=>by simp at h
  | p::P,w::vs,0,m,nd,h1,h2,hk=>by
    simp at h1 h2; subst h1; subst h2
    show bindC kindOf ((p,w)::P.zip vs) m p=_
    unfold bindC
    rw [bindC_out fun v hv=>(List.nodup_cons.mp nd).1 (List.of_mem_zip hv).1,if_neg hk]
    simp
  | p::P,w::vs,i+1,m,nd,h1,h2,hk=>by
    show bindC kindOf ((p,w)::P.zip vs) m x=_
    unfold bindC
    exact bindC_get (i:=i) (List.nodup_cons.mp nd).2 (by simpa using h1) (by simpa using h2) hk
def start (N:List Str) (vs:List V):St:=vs.map some++List.replicate (N.length - vs.length) none
def cxOf (CX:CXT) (P:Program) (w:World) (K:PySem.W.Frag) (mg:Str→Option Value) (base:Heap) (N:List Str) (qual:Str) (scope:Scope) (f:Addr) (cd:Value) (A:Around) (outer:List Env) (s:Shared) (H:Hp) (E:XK):Cx where
  prog:=P
  w:=w
  K:=K
  mg:=mg
  base:=base
  A:=A.deeper (envOfC qual scope s.heap.objs.size f cd)
  N:=N
  s₀:=s
  H₀:=H
  env:=envOfC qual scope s.heap.objs.size f cd
  outer:=outer
  stack:=envOfC qual scope s.heap.objs.size f cd::outer
  ex:=[]
  calm:=true
  fn:=fun _=>true
  pn:=[]
  xe:=fun e s'=>wpAny (model P w) (A.deeper (envOfC qual scope s.heap.objs.size f cd)) (leaving (envOfC qual scope s.heap.objs.size f cd) e) (fun _ s''=>CX outer H s E e s'') (fun e' s''=>CX outer H s E e' s'') s'
theorem cell_has {sc:Scope} {n:Nat} {x:Str} (h:sc.names.lookup x=some .cell):∃ c,(cellsFrom n sc.names []).lookup x=some c:=by
  have q:=PySem.W.cellsFrom_some sc.names n [] (.inl h)
  exact Option.isSome_iff_exists.mp q
theorem inv_start {CX:CXT} {P:Program} {w:World} {K:PySem.W.Frag} {mg:Str→Option Value} {base:Heap} {N ps:List Str} {qual:Str} {scope:Scope} {f:Addr} {cd:Value} {A:Around} {outer:List Env} {s s1:Shared} {H:Hp} {E:XK} {us:List Value} {vs:List V}
    (S:FnScope N ps scope) (hd:A.handled=none) (e0:Env0 P w K mg base A outer s H) (hl:vs.length=ps.length) (r:Vals vs us)
    (x:InCallC s s.heap.objs.size (bindL (envOfC qual scope s.heap.objs.size f cd).kindOf (ps.zip us) fun _=>none) (cellsFrom (s.heap.objs.size+1) scope.names []) (bindC (envOfC qual scope s.heap.objs.size f cd).kindOf (ps.zip us) fun _=>none) s1) :
    Inv (cxOf CX P w K mg base N qual scope f cd A outer s H E) [] (start N vs) H s1:=by
  have hpl:ps.length≤N.length:=by have:=congrArg List.length S.pre; rw [List.length_take] at this; omega
  obtain ⟨h1,tk,rfl,hk⟩:=x.done
  have noA:∀ b:Addr,b ∉ (cxOf CX P w K mg base N qual scope f cd A outer s H E).ex:=fun b z=>absurd (show b∈([]:List Addr) from z) (by simp)
  refine ⟨⟨e0.mod,S.kind,rfl,rfl,Nat.le_refl _,fun y z c h1 h2=>?_,fun y hy=>?_,fun y c _ h=>?_,fun _=>hd,Around.frames_deeper e0.frames,.inr ⟨rfl,rfl⟩,fun b z=>absurd z (noA b),e0.bs,e0.bsz,fun b _ _=>noA b,fun b z=>absurd z (noA b),e0.funs,e0.frf⟩,
    rfl,e0.bare,Un.kept hk,⟨_,x.toInCall.ns,fun i y v h1 h2 h3=>?_⟩,fun y c h=>⟨_,x.cell y c h⟩,e0.hok.fresh (Nat.le_refl _),fun y c h=>?_,fun p hp=>absurd (show p∈([]:List (Addr×Obj)) from hp) (by simp),e0.hok.kept hk,?_⟩
  · exact name_of_addr x.apart (PySem.mem_of_lookup h1) (PySem.mem_of_lookup h2)
  · have hy:scope.names.lookup y=some .cell∨scope.names.lookup y=some .free:=hy
    rcases hy with hy | hy
    · exact cell_has hy
    · exact absurd rfl (S.nofree _ (PySem.mem_of_lookup hy))
  · exact Nat.le_of_lt (x.above y c (PySem.mem_of_lookup h))
  · have hi:i < vs.length:=by
      unfold start at h2
      by_cases hi:i < vs.length
      · exact hi
      · rw [List.getElem?_append_right (by simpa using hi)] at h2
        rw [List.getElem?_replicate] at h2
        split at h2 <;> cases h2
    have ha:vs[i]?=some v:=by
      unfold start at h2
      rw [List.getElem?_append_left (by simpa using hi),List.getElem?_map] at h2
      cases e:vs[i]? with
      | none=>rw [e] at h2; cases h2
      | some a=>rw [e] at h2; cases h2; rfl
    obtain ⟨u,hu,rv⟩:=r.get ha
    have hp:ps[i]?=some y:=by
      rw [← S.pre,List.getElem?_take_of_lt (by omega)]; exact h1
    have ndP:ps.Nodup:=by rw [← S.pre]; exact S.nd.sublist (List.take_sublist _ _)
    refine ⟨u,rv,?_⟩
    rcases S.par y (List.mem_of_getElem? hp) with k | k
    · exact .inl ⟨k,bindL_get ndP hp hu k⟩
    · obtain ⟨c,e⟩:=cell_has (n:=s.heap.objs.size+1) k
      refine .inr ⟨.inl k,c,e,?_⟩
      have q:=x.cell y c e
      rw [bindC_get ndP hp hu (by show scope.names.lookup y≠_; rw [k]; decide)] at q
      exact q
  · exact e0.hok.fresh (Nat.le_of_lt (x.above y c (PySem.mem_of_lookup h)))
  · unfold start
    show _=N.length
    rw [List.length_append,List.length_map,List.length_replicate]
    omega
theorem fn_of {CX:CXT} {P:Program} {w:World} {K:PySem.W.Frag} {mg:Str→Option Value} {base:Heap} {k:Nat} {f:Addr} {name qual:Str} {params:Arguments} {body:List Stmt} {scope:Scope} {dV kV doc pm cdv ct oc:Value} {an od:Option Addr}
    {osl:Array (Option Value)} {N ps:List Str} {sp:Sp} (lk:K.lookup f=some ⟨oc,od,.func (PySem.W.fnOf name qual params body scope dV kV doc pm an cdv ct),osl⟩) (hcd:PySem.W.codeIn K cdv qual=true) (S:FnScope N ps scope)
    (len:∀ vs H Q E,sp vs H Q E→vs.length=ps.length)
    (hbody:∀ (A:Around) (outer:List Env) (s:Shared) (H:Hp) (vs:List V) (Q:VK) (E:XK),Room k (A.deeper (envOfC qual scope s.heap.objs.size f cdv))→sp vs H Q E →
      ∃ t,PSs (cxOf CX P w K mg base N qual scope f cdv A outer s H E) body t∧t { nx:=fun _ H'=>Q .non H',rt:=Q } (start N vs) H) :
    FnOk P w K mg base CX (k+1) f (PySem.W.fnOf name qual params body scope dV kV doc pm an cdv ct) ps sp:=by
  refine ⟨len,fun A outer s H args us vs Q E hr e0 hb r hsp=>?_⟩
  have hl:=len _ _ _ _ hsp
  have KX:K.In s.heap:=e0.mod.kin.keeps fun b o e=>(e0.bs b o e).1
  have lim:s.heap.NoLimit:=e0.mod.nolimit.keeps fun b o e=>(e0.bs b o e).1
  have hkind:∀ y∈ps.zip us,scope.names.lookup y.1=some .local∨(scope.names.lookup y.1=some .cell∧((cellsFrom (s.heap.objs.size+1) scope.names []).lookup y.1).isSome=true):=fun ⟨n,v⟩ hy=>by
    rcases S.par n (List.of_mem_zip hy).1 with q | q
    · exact .inl q
    · exact .inr ⟨q,PySem.W.cellsFrom_some _ _ _ (.inl q)⟩
  refine codeAny_call_function hr.depth (KX _ _ lk) rfl S.co S.gen rfl (PySem.W.codeRec_of KX hcd) (hb _ _ _ _ ?_)
  refine wpAny_newFunctionEnv_cells S.kind hkind fun env he s1 x=>?_
  subst he
  refine ⟨lim.keeps x.toInCall.keep,codeAny_func ?_⟩
  obtain ⟨t,ht,hq⟩:=hbody A outer s H vs Q E (hr.deeper _) hsp
  have I:Inv (cxOf CX P w K mg base N qual scope f cdv A outer s H E) [] (start N vs) H s1:=inv_start S hr.hd e0 hl r x
  refine wpAny_mono (ht [] s1 (start N vs) H _ I hq) (fun fl s' hs=>?_) fun e s' hs=>hs
  have fin:∀ {σ':St} {H':Hp} {v:V} {u:Value},Inv (cxOf CX P w K mg base N qual scope f cdv A outer s H E) [] σ' H' s'→RelV v u→Q v H'→CE outer P w H s Q u s' :=
    fun {σ' H' v u} J rv q=>⟨v,H',J.os,J.bare,J.base,J.hok,rv,q⟩
  cases fl with
  | ret u =>
    obtain ⟨v,σ',H',J,rv,q⟩:=hs
    exact fin J rv q
  | next =>
    obtain ⟨σ',H',J,q⟩:=hs
    exact fin (v:=V.non) (u:=Value.none) J rfl q
  | brk =>
    obtain ⟨_,_,_,q⟩:=hs
    exact False.elim q
  | cont =>
    obtain ⟨_,_,_,q⟩:=hs
    exact False.elim q
end L2
namespace L2
open PySem PySem.Spec PyProof.Rows
section
variable {X:Cx} {x:Str} {p pos:Pos} {e:Expr} {es:List Expr} {t:TA} {id T:String} {r:List V→Hp→VK→Prop}
def tCB (r:List V→Hp→VK→Prop) (t:TA):TE:=fun σ H Q=>t σ H fun vs H1=>r vs H1 Q
theorem pe_callB (hc:CallR X (.builtin id) r) (hg:Gl X x) (hm:X.mg x=none) (hv:bootBuiltins x=some (.builtin id)) (ha:PA X (e::es) t) (hn:x≠"__name__":=by decide) (hdb:(x == ("__debug__":Str))=false:=by decide)
    (he:starEach (e::es) X.env=(false,eval e X.env)::starEach es X.env:=by rfl) (hpl:(backTo pos (starEach es X.env)).any (·.1)=false:=by rfl):PE X (.Call (.Name x p) (e::es) [] pos) (tCB r t):=by
  intro pins s σ H Q I h
  refine wpAny_Call_Name_kw (ld_blt I hg hm hv ?_ hn hdb)
  exact PyProof.Rows.callWith_builtin1 (thn (ha pos pins s σ H _ I h) fun us s1 ⟨vs,H1,I1,r1,q1⟩=>hc pins s1 σ H1 vs us Q I1 r1 q1) he hpl
theorem pe_callTy (hc:CallR X (.type T) r) (hg:Gl X x) (hm:X.mg x=none) (hv:bootBuiltins x=some (.type T)) (ha:PA X (e::es) t) (hn:x≠"__name__":=by decide) (hdb:(x == ("__debug__":Str))=false:=by decide)
    (he:starEach (e::es) X.env=(false,eval e X.env)::starEach es X.env:=by rfl) (hpl:(backTo pos (starEach es X.env)).any (·.1)=false:=by rfl):PE X (.Call (.Name x p) (e::es) [] pos) (tCB r t):=by
  intro pins s σ H Q I h
  refine wpAny_Call_Name_kw (ld_blt I hg hm hv ?_ hn hdb)
  exact PyProof.Rows.callWith_type1 (thn (ha pos pins s σ H _ I h) fun us s1 ⟨vs,H1,I1,r1,q1⟩=>hc pins s1 σ H1 vs us Q I1 r1 q1) he hpl
end
end L2
namespace HT
open PySem PyProof.Rows
section
open PySem.SeqAt
open PySem.AutoSeq1 (wpAny_loadPart')
open PySem.MeetsSeq PySem.MeetsSeq2 PySem.MeetsSeq3
end
section
variable {prog:Program} {w:World} {A:Around} {E:Value→Shared→Prop} {s:Shared}
def sIx (n d:Nat):Option Int→Nat
  | none=>d
  | some v=>if v < 0 then (v+(n:Int)).toNat else min v.toNat n
theorem sIx_none (n d:Nat):sIx n d none=d:=rfl
theorem sIx_nat (n d k:Nat):sIx n d (some (k:Int))=min k n:=by
  show (if (k:Int) < 0 then ((k:Int)+(n:Int)).toNat else min (k:Int).toNat n)=min k n
  rw [if_neg (by omega),Int.toNat_natCast]
end
end HT
namespace L2
open PySem PySem.Spec PyProof.Rows
abbrev TO:=St→Hp→(Option Int→Hp→Prop)→Prop
def PO (X:Cx) (e:Option Expr) (t:TO):Prop :=
  ∀ (pins:List (Addr×Obj)) (s:Shared) (σ:St) (H:Hp) (Q:Option Int→Hp→Prop),Inv X pins σ H s→t σ H Q →
    wpAny (model X.prog X.w) X.A (evalPart e X.env) (fun u s'=>∃ o H',Inv X pins σ H' s'∧IsPart u o∧Q o H') X.xe s
def tNoPart:TO:=fun _ H Q=>Q none H
def tPart (t:TE):TO:=fun σ H Q=>t σ H fun x H1=>∃ i,x=.int i∧Q (some i) H1
section
variable {X:Cx} {e:Expr} {te:TE} {lo hi:Option Expr} {tl th:TO} {pos p2:Pos}
theorem po_none:PO X none tNoPart:=by
  intro pins s σ H Q I h
  rw [evalPart_none]
  exact wpAny_pure ⟨none,H,I,.none,h⟩
theorem po_some (h:PE X e te):PO X (some e) (tPart te):=by
  intro pins s σ H Q I hw
  rw [evalPart_some]
  refine thn (h pins s σ H _ I hw) fun u s1 ⟨x,H1,I1,r1,q1⟩=>?_
  obtain ⟨i,rfl,q⟩:=q1
  obtain ⟨t,rfl⟩:=r1
  exact ⟨some i,H1,I1,.int i t,q⟩
def SlR (X:Cx) (r:V→Option Int→Option Int→Hp→VK→Prop):Prop :=
  ∀ (pins:List (Addr×Obj)) (s:Shared) (σ:St) (H:Hp) (x:V) (v vl vu:Value) (lo hi:Option Int) (sl:Addr) (Q:VK),Inv X pins σ H s→RelV x v→s.heap.IsSliceOf sl vl vu .none→IsPart vl lo→IsPart vu hi→r x lo hi H Q →
    ∃ T id,typeLookup (.type T) "__getitem__"=pure (some (.builtin id))∧s.TypeIs v T∧wpAny (model X.prog X.w) X.A (getItem v (.ref sl)) (EP X pins σ Q) X.xe s
def tSl (r:V→Option Int→Option Int→Hp→VK→Prop) (te:TE) (tl th:TO):TE:=fun σ H Q=>te σ H fun x H1=>tl σ H1 fun l H2=>th σ H2 fun u H3=>r x l u H3 Q
theorem pe_slice {r:V→Option Int→Option Int→Hp→VK→Prop} (hr:SlR X r) (he:PE X e te) (hl:PO X lo tl) (hu:PO X hi th):PE X (.Subscript e (.Slice lo hi none p2) pos) (tSl r te tl th):=by
  intro pins s σ H Q I h
  refine Subscript_ (thn (he pins s σ H _ I h) fun v s1 ⟨x,H1,I1,r1,q1⟩=>?_)
  refine wpAny_Slice (thn (hl pins s1 σ H1 _ I1 q1) fun vl s2 ⟨l,H2,I2,pl,q2⟩=>thn (hu pins s2 σ H2 _ I2 q2) fun vu s3 ⟨u,H3,I3,pu,q3⟩=>?_)
  rw [evalPart_none]
  refine wpAny_pure ?_
  have I4:Inv X pins σ H3 { s3 with heap:=s3.heap.push { cls:=.type "slice",data:=.fields #[vl,vu,.none] } }:=I3.kept (t':=s3.toks) fun b ob q=>Heap.get?_push_of_some _ q
  obtain ⟨T,id,hT,ht,hg⟩:=hr pins { s3 with heap:=s3.heap.push { cls:=.type "slice",data:=.fields #[vl,vu,.none] } } σ H3 x v vl vu l u s3.heap.objs.size Q I4 r1 (Heap.IsSliceOf.new ..) pl pu q3
  show wpAny (model X.prog X.w) X.A (subscriptTail e (.Slice lo hi none p2) v (.ref s3.heap.objs.size)) (EP X pins σ Q) X.xe { s3 with heap:=s3.heap.push { cls:=.type "slice",data:=.fields #[vl,vu,.none] } }
  exact tail_any (ops:=[.ref s3.heap.objs.size,v]) ht hT hg (by with_unfolding_all rfl)
def cutV (xs:List V) (lo hi:Option Int):List V:=(xs.drop (HT.sIx xs.length 0 lo)).take (HT.sIx xs.length xs.length hi - HT.sIx xs.length 0 lo)
theorem cutV_length (xs:List V) (lo hi:Option Int):(cutV xs lo hi).length≤xs.length:=by
  unfold cutV
  rw [List.length_take,List.length_drop]
  omega
end
end L2
namespace L2
open PySem PySem.Spec PyProof.Rows
def ixN (n:Nat) (i:Int):Option Nat:=if 0≤i then (if i < n then some i.toNat else none) else if -(n:Int)≤i then some (i+n).toNat else none
def atI {α:Type} (xs:List α) (i:Int):Option α:=(ixN xs.length i).bind fun j=>xs[j]?
theorem ixN_seq {n:Nat} {i:Int} {j:Nat} (h:ixN n i=some j):seqIndex? i n=some j∧j < n∧-(n:Int)≤i∧i < n:=by
  unfold ixN at h
  by_cases h0:0≤i
  · rw [if_pos h0] at h
    by_cases h1:i < n
    · rw [if_pos h1] at h
      have e:i.toNat=j:=Option.some.inj h
      exact ⟨by rw [seqIndex_of h0 h1,e],by omega,by omega,h1⟩
    · rw [if_neg h1] at h; cases h
  · rw [if_neg h0] at h
    by_cases h1:-(n:Int)≤i
    · rw [if_pos h1] at h
      have e:(i+n).toNat=j:=Option.some.inj h
      exact ⟨by rw [seqIndex_neg (by omega) h1,e],by omega,h1,by omega⟩
    · rw [if_neg h1] at h; cases h
theorem atI_get {α:Type} {xs:List α} {i:Int} {v:α} (h:atI xs i=some v):∃ j,seqIndex? i xs.length=some j∧xs[j]?=some v∧j < xs.length∧-(xs.length:Int)≤i∧i < xs.length:=by
  unfold atI at h
  cases e:ixN xs.length i with
  | none=>rw [e] at h; cases h
  | some j =>
    rw [e] at h
    obtain ⟨h1,h2,h3,h4⟩:=ixN_seq e
    exact ⟨j,h1,h,h2,h3,h4⟩
theorem atI_nat {α:Type} {xs:List α} {j:Nat} {v:α} (h:xs[j]?=some v):atI xs (j:Int)=some v:=by
  have hj:j < xs.length:=(List.getElem?_eq_some_iff.mp h).1
  have e:ixN xs.length (j:Int)=some j:=by
    unfold ixN
    rw [if_pos (by omega),if_pos (by omega)]; simp
  unfold atI; rw [e]; exact h
def PlainIx (b:Expr):Prop:=∀ o i,subscripted b false o i=operate [o,i] (getItem o i)
def IxR (X:Cx) (r:R2):Prop :=
  ∀ (value slice:Expr) (pins:List (Addr×Obj)) (s:Shared) (σ:St) (H:Hp) (x y:V) (v u:Value) (Q:VK),Inv X pins σ H s→RelV x v→RelV y u→r x y H Q →
    subscripted slice false v u=operate [v,u] (getItem v u)→wpAny (model X.prog X.w) X.A (subscriptTail value slice v u) (EP X pins σ Q) X.xe s
def MtR (X:Cx) (id:String) (r:V→List V→Hp→VK→Prop):Prop :=
  ∀ (pins:List (Addr×Obj)) (s:Shared) (σ:St) (H:Hp) (x:V) (xs:List V) (v:Value) (us:List Value) (Q:VK),Inv X pins σ H s→RelV x v→Vals xs us→r x xs H Q →
    wpAny (model X.prog X.w) X.A (call (.builtin id) (v::us)) (EP X pins σ Q) X.xe s
section
variable {X:Cx} {a b:Expr} {ta tb:TE} {pos:Pos}
theorem pe_ix {r:R2} (hr:IxR X r) (ha:PE X a ta) (hb:PE X b tb) (hs:PlainIx b):PE X (.Subscript a b pos) (tOp r ta tb):=by
  intro pins s σ H Q I h
  exact Subscript_ (binT ha hb I h fun v u s2 x y H2 I2 rx ry q=>hr a b pins s2 σ H2 x y v u Q I2 rx ry q (hs _ _))
def rIxL (K:PySem.W.Frag):R2:=fun x y H Q=>∃ p xs i v,x=.ref p∧y=.int i∧SqL K H p xs∧atI xs i=some v∧Q v H
def rIxT (K:PySem.W.Frag):R2:=fun x y H Q=>∃ p xs i v,x=.ref p∧y=.int i∧SqT K H p xs∧atI xs i=some v∧Q v H
theorem ix_list:IxR X (rIxL X.K):=by
  intro value slice pins s σ H x y v u Q I rx ry h hs
  obtain ⟨p,xs,i,z,rfl,rfl,hq,he,q⟩:=h
  cases rx
  obtain ⟨t,rfl⟩:=ry
  obtain ⟨its,r,pl,hz⟩:=I.list hq
  obtain ⟨j,h1,h2,h3,h4,h5⟩:=atI_get he
  obtain ⟨w,ew,rw'⟩:=r.get h2
  have hl:=r.length
  have hn:=line63
  have fin:EP X pins σ Q w s:=⟨z,H,I,rw',q⟩
  by_cases h0:0≤i
  · have hj:i.toNat=j:=by
      rw [seqIndex_of h0 h5] at h1
      exact Option.some.inj h1
    exact item_listR pl.isList h0 (by omega) (by rw [hj]; simpa using ew) fin hs
  · have hj:(i+(its.toArray.size:Int)).toNat=j:=by
      rw [seqIndex_neg (by omega) h4] at h1
      rw [List.size_toArray,← hl]
      exact Option.some.inj h1
    exact subscriptTail_builtinR (x:=w) pl.isList.typeIs slot_list_getitem.lookup
      (wpAny_getItem_list_neg (Q:=fun r s'=>r=w∧EP X pins σ Q r s') pl.isList (by omega) (by rw [List.size_toArray] <;> omega) (by omega) (by rw [hj]; simpa using ew) ⟨rfl,fin⟩) hs
theorem ix_tup:IxR X (rIxT X.K):=by
  intro value slice pins s σ H x y v u Q I rx ry h hs
  obtain ⟨p,xs,i,z,rfl,rfl,hq,he,q⟩:=h
  cases rx
  obtain ⟨t,rfl⟩:=ry
  obtain ⟨its,r,pl,hz⟩:=I.tuple hq
  obtain ⟨j,h1,h2,h3,h4,h5⟩:=atI_get he
  obtain ⟨w,ew,rw'⟩:=r.get h2
  have hl:=r.length
  have hn:=line63
  have fin:EP X pins σ Q w s:=⟨z,H,I,rw',q⟩
  exact subscriptTail_builtinR (x:=w) pl.typeIs slot_tuple_getitem.lookup
    (getItem_tuple (j:=j) (Q:=fun r s'=>r=w∧EP X pins σ Q r s') pl (by omega) (by omega) (by rw [List.size_toArray,← hl]; exact h1) (by simpa using ew) ⟨rfl,fin⟩) hs
theorem slice_bounds (lo hi:Option Int) (n:Nat):(sliceBounds lo hi none n).1=((HT.sIx n 0 lo:Nat):Int)∧(sliceBounds lo hi none n).2.1=((HT.sIx n n hi:Nat):Int)∧(sliceBounds lo hi none n).2.2=1:=by
  refine ⟨?_,?_,rfl⟩
  · cases lo with
    | none=>simp [sliceBounds,HT.sIx]
    | some i =>
      simp only [sliceBounds,HT.sIx,Option.getD_none,show (1:Int) > 0 by decide,if_true]
      by_cases h:i < 0
      · simp only [h,if_true] <;> omega
      · simp only [h,if_false] <;> omega
  · cases hi with
    | none=>simp [sliceBounds,HT.sIx]
    | some i =>
      simp only [sliceBounds,HT.sIx,Option.getD_none,show (1:Int) > 0 by decide,if_true]
      by_cases h:i < 0
      · simp only [h,if_true] <;> omega
      · simp only [h,if_false] <;> omega
theorem slicePick_cut (its:List Value) (lo hi:Option Int):slicePick its.toArray lo hi none=((its.drop (HT.sIx its.length 0 lo)).take (HT.sIx its.length its.length hi - HT.sIx its.length 0 lo)).toArray:=by
  obtain ⟨h1,h2,h3⟩:=slice_bounds lo hi its.toArray.size
  unfold slicePick
  rw [h1,h2,h3]
  simp only [sliceRange_one,pick_run,List.size_toArray] <;> rfl
def rSlL (K:PySem.W.Frag):V→Option Int→Option Int→Hp→VK→Prop:=fun x lo hi H Q=>∃ a xs,x=.ref a∧SqL K H a xs∧∀ p,H p=none→Q (.ref p) (upd H p (.lst (cutV xs lo hi)))
theorem sl_list:SlR X (rSlL X.K):=by
  intro pins s σ H x v vl vu lo hi sl Q I rx hs pl pu h
  obtain ⟨a,xs,rfl,hx,q⟩:=h
  cases rx
  obtain ⟨its,r,ht,hz⟩:=I.list hx
  have hlen:=r.length
  refine ⟨"list",_,slot_list_getitem.lookup,ht.isList.typeIs,?_⟩
  refine wpAny_getItem_list_slice ht.isList hs pl pu .none (by simp) ?_ (by rw [List.size_toArray] <;> omega)
  rw [slicePick_cut,← hlen]
  refine ⟨.ref s.heap.objs.size,_,I.laid (t':=s.toks) (o:=.lst (cutV xs lo hi)) (fun b ob q=>Heap.get?_push_of_some _ q) (Nat.le_refl _) ?_,rfl,q _ (I.hok.fresh (Nat.le_refl _))⟩
  exact ⟨Nat.le_trans (cutV_length xs lo hi) hz,_,0,(r.drop (HT.sIx xs.length 0 lo)).take (HT.sIx xs.length xs.length hi - HT.sIx xs.length 0 lo),Heap.get?_push_size _ rfl⟩
def flatV:V→Bool
  | .non=>true
  | .bl _=>true
  | .int _=>true
  | .str _=>true
  | _=>false
def eqV:V→V→Bool
  | .non,.non=>true
  | .bl a,.bl b=>a == b
  | .bl a,.int b=>(if a then 1 else 0) == b
  | .int a,.bl b=>a == (if b then 1 else 0)
  | .int a,.int b=>a == b
  | .str a,.str b=>a == b
  | _,_=>false
theorem eqAt_V {A:Around} {s:Shared} {y x:V} {u v:Value} (ry:RelV y u) (rx:RelV x v) (fy:flatV y=true) (fx:flatV x=true):SeqAt.EqAt A s u v (eqV y x):=by
  cases y with
  | non =>
    cases ry
    cases x with
    | non=>cases rx; exact SeqAt.EqAt.same _
    | bl b=>cases rx; exact SeqAt.EqAt.none_bool b
    | int b=>obtain ⟨t,rfl⟩:=rx; exact SeqAt.EqAt.none_int b t
    | str b=>obtain ⟨t,rfl⟩:=rx; exact SeqAt.EqAt.none_str b t
    | _=>exact absurd (show false=true from fx) Bool.false_ne_true
  | bl a =>
    cases ry
    cases x with
    | non=>cases rx; exact SeqAt.EqAt.bool_none a
    | bl b=>cases rx; exact SeqAt.EqAt.bool_bool a b
    | int b=>obtain ⟨t,rfl⟩:=rx; exact SeqAt.EqAt.bool_int a b t
    | str b=>obtain ⟨t,rfl⟩:=rx; exact SeqAt.EqAt.bool_str a b t
    | _=>exact absurd (show false=true from fx) Bool.false_ne_true
  | int a =>
    obtain ⟨t',rfl⟩:=ry
    cases x with
    | non=>cases rx; exact SeqAt.EqAt.int_none a t'
    | bl b=>cases rx; exact SeqAt.EqAt.int_bool a t' b
    | int b=>obtain ⟨t,rfl⟩:=rx; exact SeqAt.EqAt.int_int a t' b t
    | str b=>obtain ⟨t,rfl⟩:=rx; exact SeqAt.EqAt.int_str a t' b t
    | _=>exact absurd (show false=true from fx) Bool.false_ne_true
  | str a =>
    obtain ⟨t',rfl⟩:=ry
    cases x with
    | non=>cases rx; exact SeqAt.EqAt.str_none a t'
    | bl b=>cases rx; exact SeqAt.EqAt.str_bool a t' b
    | int b=>obtain ⟨t,rfl⟩:=rx; exact SeqAt.EqAt.str_int a t' b t
    | str b=>obtain ⟨t,rfl⟩:=rx; exact SeqAt.EqAt.str_str a t' b t
    | _=>exact absurd (show false=true from fx) Bool.false_ne_true
  | _=>exact absurd (show false=true from fy) Bool.false_ne_true
def eqU (x:V) (u:Value):Bool:=match u with
  | .none=>eqV .non x
  | .bool b=>eqV (.bl b) x
  | .int i _=>eqV (.int i) x
  | .str z _=>eqV (.str z) x
  | _=>false
theorem eqU_of {x y:V} {u:Value} (r:RelV y u) (f:flatV y=true):eqU x u=eqV y x:=by
  cases y with
  | non=>cases r; rfl
  | bl b=>cases r; rfl
  | int i=>obtain ⟨t,rfl⟩:=r; rfl
  | str z=>obtain ⟨t,rfl⟩:=r; rfl
  | _=>exact absurd (show false=true from f) Bool.false_ne_true
theorem any_eqU {x:V}:∀ {xs:List V} {us:List Value},Vals xs us→xs.all flatV=true→us.any (eqU x)=xs.any fun y=>eqV y x
  | _,_,.nil,_=>rfl
  | y::xs,u::us,.cons r t,f=>by
    rw [List.all_cons,Bool.and_eq_true] at f
    rw [List.any_cons,List.any_cons,eqU_of r f.1,any_eqU t f.2]
theorem mem_eqAt {A:Around} {s:Shared} {x:V} {v:Value} (rx:RelV x v) (fx:flatV x=true):∀ {xs:List V} {us:List Value},Vals xs us→xs.all flatV=true→∀ u∈us,SeqAt.EqAt A s u v (eqU x u)
  | _,_,.nil,_=>fun u hu=>by cases hu
  | y::xs,u::us,.cons r t,f=>fun u' hu=>by
    rw [List.all_cons,Bool.and_eq_true] at f
    rcases List.mem_cons.mp hu with rfl | hu
    · rw [eqU_of r f.1]; exact eqAt_V r rx f.1 fx
    · exact mem_eqAt rx fx t f.2 u' hu
def inV (x:V) (xs:List V):Bool:=xs.any fun y=>eqV y x
def rIn (K:PySem.W.Frag) (neg:Bool):R2:=fun x y H Q=>∃ p xs,y=.ref p∧(SqL K H p xs∨SqT K H p xs)∧flatV x=true∧xs.all flatV=true∧Q (.bl (if neg then !inV x xs else inV x xs)) H
theorem op_in_seq:OpR X (compareOp .In) (rIn X.K false):=by
  intro pins s σ H x y v u Q I rx ry h
  obtain ⟨p,xs,rfl,hq,fx,fs,q⟩:=h
  cases ry
  rcases hq with hq | hq
  · obtain ⟨its,r,pl,hz⟩:=I.list hq
    refine SeqAt.in_listAt (eqU x) pl.isList (fun w hw=>mem_eqAt rx fx r fs w (by simpa using hw)) ⟨.bl _,H,I,rfl,?_⟩
    rw [show its.toArray.any (eqU x)=its.any (eqU x) by simp,any_eqU r fs]
    exact q
  · obtain ⟨its,r,pl,hz⟩:=I.tuple hq
    refine SeqAt.in_tupleAt (eqU x) pl (fun w hw=>mem_eqAt rx fx r fs w (by simpa using hw)) ⟨.bl _,H,I,rfl,?_⟩
    rw [show its.toArray.any (eqU x)=its.any (eqU x) by simp,any_eqU r fs]
    exact q
theorem call_len_seq:CallR X (.builtin "len") (fun xs H Q=>∃ p ys,xs=[.ref p]∧(SqL X.K H p ys∨SqT X.K H p ys)∧Q (.int ys.length) H):=by
  intro pins s σ H xs us Q I r h
  obtain ⟨p,ys,rfl,hq,q⟩:=h
  obtain ⟨u,rfl,rx⟩:=vals1 r
  cases rx
  have hn:=line63
  rcases hq with hq | hq
  · obtain ⟨its,r',pl,hz⟩:=I.list hq
    have hlen:=r'.length
    exact Calls.call_len_list pl.isList (by simp only [List.size_toArray] <;> omega) ⟨.int ys.length,H,I.tok _,⟨s.toks+1,by rw [List.size_toArray,hlen]⟩,q⟩
  · obtain ⟨its,r',pl,hz⟩:=I.tuple hq
    have hlen:=r'.length
    exact len_tuple pl (by simp only [List.size_toArray] <;> omega) ⟨.int ys.length,H,I.tok _,⟨s.toks+1,by rw [List.size_toArray,hlen]⟩,q⟩
def tyV (K:PySem.W.Frag) (T:String) (x:V) (H:Hp):Prop:=match x with
  | .str _=>T="str"
  | .int _=>T="int"
  | .ref p=>(T="list"∧∃ xs,SqL K H p xs)∨(T="tuple"∧∃ o,K.lookup p=some o∧o.cls=.type "tuple"∧o.dict=none) ∨
      (T="dict"∧((∃ kvs,H p=some (.dK kvs))∨∃ kvs,H p=some (.dT kvs)))∨(T="set"∧∃ S n,H p=some (.set S n))
  | _=>False
theorem tyV_is {pins:List (Addr×Obj)} {σ:St} {H:Hp} {s:Shared} {T:String} {x:V} {v:Value} (I:Inv X pins σ H s) (r:RelV x v) (ty:tyV X.K T x H) :
    s.TypeIs v T∧∀ a,v=.ref a→∃ ob,s.heap.get? a=some ob∧ob.dict=none:=by
  cases x with
  | str z =>
    obtain ⟨t,rfl⟩:=r
    cases (show T="str" from ty)
    exact ⟨typeIs_str s z t,fun _ e=>nomatch e⟩
  | int i =>
    obtain ⟨t,rfl⟩:=r
    cases (show T="int" from ty)
    exact ⟨typeIs_int s i t,fun _ e=>nomatch e⟩
  | ref p =>
    cases r
    rcases ty with ⟨rfl,xs,hq⟩ | ⟨rfl,o,hk,hc,hd⟩ | ⟨rfl,hk⟩ | ⟨rfl,S,n,hk⟩
    · obtain ⟨its,_,pl,_⟩:=I.list hq
      refine ⟨pl.isList.typeIs,fun a e=>?_⟩
      cases e
      obtain ⟨o,n,e,c,hd,_⟩:=pl
      exact ⟨o,e,hd⟩
    · refine ⟨⟨o,I.kIn p o hk,hc⟩,fun a e=>?_⟩
      cases e
      exact ⟨o,I.kIn _ o hk,hd⟩
    · have z:∃ o,s.heap.get? p=some o∧o.ExactDict:=by
        rcases hk with ⟨kvs,hk⟩ | ⟨kvs,hk⟩
        · obtain ⟨_,_,_,_,o,_,_,e,ex,_⟩:=I.hok p _ hk
          exact ⟨o,e,ex⟩
        · obtain ⟨_,_,_,_,o,_,_,e,ex,_⟩:=I.hok p _ hk
          exact ⟨o,e,ex⟩
      obtain ⟨o,e,ex⟩:=z
      refine ⟨⟨o,e,ex.1⟩,fun a e2=>?_⟩
      cases e2
      exact ⟨o,e,ex.2.1⟩
    · obtain ⟨o,_,_,_,e,ex,_⟩:=I.hok p _ hk
      refine ⟨⟨o,e,ex.1⟩,fun a e2=>?_⟩
      cases e2
      exact ⟨o,e,ex.2.1⟩
  | _=>exact False.elim ty
def tBM (K:PySem.W.Frag) (T:String) (r:V→List V→Hp→VK→Prop) (to:TE) (t:TA):TE:=fun σ H Q=>to σ H fun x H1=>tyV K T x H1∧t σ H1 fun xs H2=>r x xs H2 Q
variable {o e:Expr} {es:List Expr} {to:TE} {t:TA} {name:Str} {apos cpos:Pos} {T id:String} {r:V→List V→Hp→VK→Prop}
theorem pe_bm (pa:PlainAttrs T) (slot:Slot T name id) (hty:typeOf (.builtin id)=pure (.type "method_descriptor")) (hm:MtR X id r) (ho:PE X o to) (ha:PA X (e::es) t)
    (hbase:attributeBase o name X.env (eval o X.env)=eval o X.env:=by rfl)
    (hfew:((backTo cpos (starEach (e::es) X.env)).all (fun x=>!x.1) && (backToKw cpos (keywordEach [] X.env)).all (fun x=>x.1.isSome)
      && decide ((e::es).length+([]:List Keyword).length+(if ([]:List Keyword).isEmpty then 0 else 1) < 30))=true:=by rfl)
    (hline:(apos.endLine == cpos.line)=true:=by rfl) (hs:starEach (e::es) X.env=(false,eval e X.env)::starEach es X.env:=by rfl) (hplain:(backTo cpos (starEach es X.env)).any (·.1)=false:=by rfl) :
    PE X (.Call (.Attribute o name apos) (e::es) [] cpos) (tBM X.K T r to t):=by
  intro pins s σ H Q I h
  refine wpAny_Call_method_late hbase hfew hline rfl (thn (ho pins s σ H _ I h) fun v s1 ⟨x,H1,I1,r1,ty,q1⟩=>?_)
  obtain ⟨h1,h2⟩:=tyV_is I1 r1 ty
  refine ⟨T,id,pa,slot,hty,h1,h2,?_⟩
  have hA:=ha cpos pins s1 σ H1 _ I1 q1
  rw [hs] at hA ⊢
  refine Calls.callWith_builtin (by show (false || (backTo cpos (starEach es X.env)).any (·.1))=false; rw [hplain] <;> rfl) (Calls.evalArgs_plain ?_)
  exact thn hA fun us s2 ⟨vs,H2,I2,r2,q2⟩=>hm pins s2 σ H2 x vs v us Q I2 r1 r2 q2
end
end L2
namespace L2
open PySem PySem.Spec PyProof.Rows
def MtM (X:Cx) (id:String) (r:V→List V→Hp→VK→Prop):Prop :=
  ∀ (pins:List (Addr×Obj)) (s:Shared) (σ:St) (H:Hp) (x:V) (xs:List V) (v:Value) (us:List Value) (Q:VK),Inv X pins σ H s→RelV x v→Vals xs us→r x xs H Q →
    wpAny (model X.prog X.w) X.A (call (.builtin id) (v::us)) (EP X pins σ Q) X.xe s
theorem Vals.one:∀ {x:V} {us:List Value},Vals [x] us→∃ u,us=[u]∧RelV x u
  | _,_,.cons r .nil=>⟨_,rfl,r⟩
section
variable {X:Cx} {pins:List (Addr×Obj)} {σ:St} {H:Hp} {s:Shared} {l b:Addr} {xs ys zs:List V}
theorem Inv.lset {its its':List Value} {n:Nat} {f:Array Value→Array Value} {t':Nat} (I:Inv X pins σ H s) (hH:H l=some (.lst xs))
    (e:s.heap.get? l=some { cls:=.type "list",data:=.seq its.toArray n }) (hf:f its.toArray=its'.toArray) (hv:Vals ys its') (hz:ys.length≤sizeLine) :
    Inv X pins σ (upd H l (.lst ys)) { s with heap:=s.heap.update l (Obj.mapSeq f),toks:=t' }:=by
  have q:=PySem.IsL.update e f
  rw [hf] at q
  refine I.write (x:=l) (e:=l) (by rw [hH]; exact trivial) (.inl rfl) (fun b' u hb hu=>(Heap.get?_update_other s.heap (Obj.mapSeq f) (Ne.symm hb)).trans hu) ⟨_,q⟩ ?_
  exact ⟨hz,its',_,hv,q⟩
theorem Inv.lnew {its:List Value} {t':Nat} (I:Inv X pins σ H s) (hv:Vals ys its) (hz:ys.length≤sizeLine) :
    Inv X pins σ (upd H s.heap.objs.size (.lst ys)) { s with heap:=s.heap.push { cls:=.type "list",data:=.seq its.toArray },toks:=t' } :=
  I.laid (fun _ _ q=>Heap.get?_push_of_some _ q) (Nat.le_refl _) ⟨hz,its,0,hv,Heap.get?_push_size _ rfl⟩
theorem Inv.fresh (I:Inv X pins σ H s):H s.heap.objs.size=none:=I.hok.fresh (Nat.le_refl _)
theorem Inv.lstM (I:Inv X pins σ H s) (hH:H l=some (.lst xs)):xs.length≤sizeLine∧∃ (its:List Value) (n:Nat),Vals xs its∧xs.length=its.length∧s.heap.get? l=some { cls:=.type "list",data:=.seq its.toArray n }:=by
  obtain ⟨z,its,n,r,e⟩:=I.hok l _ hH
  exact ⟨z,its,n,r,r.length,e⟩
theorem notLongL {n:Nat} (h:n≤sizeLine):Builtin.List.listTooLong n=false:=by
  unfold Builtin.List.listTooLong
  exact decide_eq_false (by omega)
end
section
variable {X:Cx}
def rAppend:V→List V→Hp→VK→Prop:=fun x vs H Q=>∃ l xs y,x=.ref l∧vs=[y]∧H l=some (.lst xs)∧xs.length < sizeLine∧Q .non (upd H l (.lst (xs++[y])))
theorem mt_append:MtM X "list.append" rAppend:=by
  intro pins s σ H x vs v us Q I rx rv h
  obtain ⟨l,xs,y,rfl,rfl,hH,hz,q⟩:=h
  cases rx
  obtain ⟨u,rfl,ru⟩:=rv.one
  obtain ⟨z,its,n,r,hl,e⟩:=I.lstM hH
  refine call_meets F.slot_list_append ⟨_,e,rfl⟩ F.entry_list_append (F.args_list_append_2 _ _) (PySem.list_append l its.toArray n u (by rw [List.size_toArray]; omega)) ⟨e,?_⟩
  refine ⟨.non,_,I.lset (its':=its++[u]) hH e (by simp) (r.append (.cons ru .nil)) ?_,rfl,q⟩
  rw [List.length_append,List.length_singleton]
  omega
def rExtend:V→List V→Hp→VK→Prop:=fun x vs H Q=>∃ l b xs zs,x=.ref l∧vs=[.ref b]∧H l=some (.lst xs)∧H b=some (.lst zs)∧xs.length+zs.length≤sizeLine∧Q .non (upd H l (.lst (xs++zs)))
theorem mt_extend:MtM X "list.extend" rExtend:=by
  intro pins s σ H x vs v us Q I rx rv h
  obtain ⟨l,b,xs,zs,rfl,rfl,hH,hB,hz,q⟩:=h
  cases rx
  obtain ⟨u,rfl,ru⟩:=rv.one
  cases ru
  obtain ⟨z,its,n,r,hl,e⟩:=I.lstM hH
  obtain ⟨z2,its2,n2,r2,hl2,e2⟩:=I.lstM hB
  have hsz:its.toArray.size+its2.toArray.size≤sizeLine:=by rw [List.size_toArray,List.size_toArray]; omega
  have hlong:¬ (!its.toArray.isEmpty && Builtin.List.listTooLong (its.toArray.size+its2.toArray.size))=true:=by
    rw [notLongL hsz,Bool.and_false]
    exact Bool.false_ne_true
  refine call_meets F.slot_list_extend ⟨_,e,rfl⟩ F.entry_list_extend (F.args_list_extend_2 _ _)
    (AutoSeq1.list_extend_list_list_0 l its.toArray n b its2.toArray n2 hlong (by rw [List.size_toArray]; omega) (by omega)) ⟨e,e2,?_⟩
  refine ⟨.non,_,I.lset (its':=its++its2) hH e (by simp) (r.append r2) ?_,rfl,q⟩
  rw [List.length_append]
  omega
def rCat:R2:=fun x y H Q=>∃ l b xs zs,x=.ref l∧y=.ref b∧H l=some (.lst xs)∧H b=some (.lst zs)∧xs.length+zs.length≤sizeLine∧∀ p,H p=none→Q (.ref p) (upd H p (.lst (xs++zs)))
theorem op_cat:OpR X (binaryOp .Add) rCat:=by
  intro pins s σ H x y v u Q I rx ry h
  obtain ⟨l,b,xs,zs,rfl,rfl,hH,hB,hz,q⟩:=h
  cases rx
  cases ry
  obtain ⟨z,its,n,r,hl,e⟩:=I.lstM hH
  obtain ⟨z2,its2,n2,r2,hl2,e2⟩:=I.lstM hB
  refine PySem.P.add_list e e2 ?_ (by rw [List.size_toArray,List.size_toArray]; omega)
  have ea:its.toArray++its2.toArray=(its++its2).toArray:=by simp
  rw [ea]
  exact ⟨.ref _,_,I.lnew (t':=s.toks) (r.append r2) (by rw [List.length_append]; omega),rfl,q _ I.fresh⟩
end
section
variable {prog:Program} {w:World} {A:Around} {E:Value→Shared→Prop} {s:Shared}
set_option maxRecDepth 100000 in
end
section
variable {X:Cx}
end
end L2
namespace L2
open PySem PySem.Spec PyProof.Rows
theorem vals_of_ints:∀ {us:List Value} {ns:List Int},IntsAre us ns→Vals (ns.map V.int) us
  | _,_,.nil=>by rw [List.map_nil]; exact Paired.nil
  | _,_,.cons n t h=>by rw [List.map_cons]; exact Paired.cons (show RelV (V.int n) (Value.int n t) from ⟨t,rfl⟩) (vals_of_ints h)
theorem Vals.bls:∀ {bs:List Bool} {us:List Value},Vals (bs.map V.bl) us→us=bs.map Value.bool
  | [],us,h=>by
    rw [List.map_nil] at h
    cases h
    rfl
  | b::bs,us,h=>by
    rw [List.map_cons] at h
    cases h with
    | cons r t =>
      cases r
      rw [Vals.bls t,List.map_cons]
theorem Vals.ref1 {a:Addr} {us:List Value} (r:Vals [V.ref a] us):us=[Value.ref a]:=by
  cases r with
  | cons r t =>
    cases t
    cases r
    rfl
section
variable {prog:Program} {w:World} {A:Around} {E:Value→Shared→Prop} {s:Shared} {l:Addr} {its:List Value} {ns:List Int} {Q:Value→Shared→Prop}
end
section
variable {X:Cx}
end
section
variable {X:Cx}
end
section
variable {X:Cx}
end
theorem iter_any {prog:Program} {w:World} {A:Around} {E:Value→Shared→Prop} {s:Shared} {l:Addr} {items:Array Value} {Q:Value→Shared→Prop} (hl:s.heap.IsList l items)
    (h:∀ s₂:Shared,s₂={ s with heap:=s.heap.push { cls:=.type "list_iterator",data:=.fields #[.ref l,.int 0 0] } } →
      (s₂.heap.IsListIter s.heap.objs.size l 0∧s₂.heap.IsList l items)→l≠s.heap.objs.size→Q (.ref s.heap.objs.size) s₂):wpAny (model prog w) A (pyIter (.ref l)) Q E s:=by
  have hlt:l < s.heap.objs.size:=by obtain ⟨_,e,_⟩:=hl; exact Heap.lt_size e
  exact wpAny_pyIter_list hl (h _ rfl ⟨⟨_,Heap.get?_push_size _ rfl,rfl,rfl⟩,hl.push _⟩ (Nat.ne_of_lt hlt))
theorem truth_bools {prog:Program} {w:World} {A:Around} {bs:List Bool} {its:List Value} (e:its=bs.map Value.bool) :
    TruthOf prog w A (fun i v=>its.toArray[i]?=some v) (fun i=>bs.getD i false):=fun i v s Q E hv hq=>by
  have hv':its[i]?=some v:=by simpa using hv
  rw [e,List.getElem?_map] at hv'
  obtain ⟨b,hb,rfl⟩:=Option.map_eq_some_iff.mp hv'
  have hg:bs.getD i false=b:=by rw [List.getD_eq_getElem?_getD,hb] <;> rfl
  have hq':Q (bs.getD i false) s:=hq
  rw [hg] at hq'
  exact wpAny_truthy_bool hq'
theorem any_range:∀ bs:List Bool,(List.range bs.length).any (fun i=>bs.getD i false)=bs.any id
  | []=>rfl
  | b::bs=>by
    rw [List.length_cons,List.range_succ_eq_map,List.any_cons,List.any_map,List.any_cons,← any_range bs]
    all_goals rfl
theorem all_range:∀ bs:List Bool,(List.range bs.length).all (fun i=>bs.getD i false)=bs.all id
  | []=>rfl
  | b::bs=>by
    rw [List.length_cons,List.range_succ_eq_map,List.all_cons,List.all_map,List.all_cons,← all_range bs]
    all_goals rfl
section
variable {X:Cx}
def rAll (K:PySem.W.Frag):List V→Hp→VK→Prop:=fun vs H Q=>∃ (a:Addr) (bs:List Bool),vs=[V.ref a]∧SqL K H a (bs.map V.bl)∧Q (.bl (bs.all id)) H
theorem cr_all (hc:X.calm=true):CallR X (.builtin "all") (rAll X.K):=by
  intro pins s σ H vs us Q I r h
  obtain ⟨a,bs,rfl,hs,q⟩:=h
  obtain ⟨its,rv,hl,_⟩:=I.list hs
  rw [Vals.ref1 r]
  have hb:=rv.bls
  refine call_all_walk (iter_any hl.isList fun s₂ e2 st hne=>?_)
  subst e2
  refine ⟨_,_,_,_,_,_,_,rfl,Walks.list (A:=X.A.in1) (I.ok.hd hc) _ a hne its.toArray,st,truth_bools hb,fun h' tk hk=>?_⟩
  refine ⟨.bl _,H,I.kept fun b o eo=>hk b o (fun hmem=>?_) (Heap.get?_push_of_some _ eo),?_,q⟩
  · rcases List.mem_cons.mp hmem with e1 | hmem
    · exact absurd (e1 ▸ Heap.lt_size eo) (Nat.lt_irrefl _)
    · cases hmem
  · show Value.bool _=Value.bool _
    rw [← all_range,hb,List.size_toArray,List.length_map]
end
mutual
inductive Dp (K:PySem.W.Frag) (H:Hp):V→PyData→Prop
  | non:Dp K H .non .none
  | bl (b:Bool):Dp K H (.bl b) (.bool b)
  | int (i:Int):Dp K H (.int i) (.int i)
  | str (x:Str):Dp K H (.str x) (.str x)
  | lst {a:Addr} {xs:List V} {ds:List PyData}:SqL K H a xs→DpAll K H xs ds→Dp K H (.ref a) (.list ds)
  | tup {a:Addr} {xs:List V} {ds:List PyData}:SqT K H a xs→DpAll K H xs ds→Dp K H (.ref a) (.tuple ds)
inductive DpAll (K:PySem.W.Frag) (H:Hp):List V→List PyData→Prop
  | nil:DpAll K H [] []
  | cons {v:V} {vs:List V} {d:PyData} {ds:List PyData}:Dp K H v d→DpAll K H vs ds→DpAll K H (v::vs) (d::ds)
end
section
variable {X:Cx} {pins:List (Addr×Obj)} {σ:St} {H:Hp} {s:Shared}
mutual
theorem Dp.reads (I:Inv X pins σ H s):∀ (d:PyData) (v:V) (u:Value),Dp X.K H v d→RelV v u→∃ as,Reads s.heap u d as
  | .none,_,_,h,r=>by
    cases h
    cases r
    exact ⟨_,Reads.none⟩
  | .bool b,_,_,h,r=>by
    cases h
    cases r
    exact ⟨_,Reads.bool b⟩
  | .int i,_,_,h,r=>by
    cases h
    obtain ⟨t,rfl⟩:=r
    exact ⟨_,Reads.int i t⟩
  | .str x,_,_,h,r=>by
    cases h
    obtain ⟨t,rfl⟩:=r
    exact ⟨_,Reads.str x t⟩
  | .list ds,_,_,h,r=>by
    cases h with
    | lst hs ha =>
      cases r
      obtain ⟨its,rv,⟨o,n,ho,hc,_,hd⟩,_⟩:=I.list hs
      obtain ⟨as,hr⟩:=Dp.readsAll I ds _ its ha rv
      exact ⟨_,Reads.list ho hc hd hr⟩
  | .tuple ds,_,_,h,r=>by
    cases h with
    | tup hs ha =>
      cases r
      obtain ⟨its,rv,⟨o,ho,hc,n,hd⟩,_⟩:=I.tuple hs
      obtain ⟨as,hr⟩:=Dp.readsAll I ds _ its ha rv
      exact ⟨_,Reads.tuple ho hc hd hr⟩
  | .dict _,_,_,h,_=>by cases h
theorem Dp.readsAll (I:Inv X pins σ H s):∀ (ds:List PyData) (vs:List V) (us:List Value),DpAll X.K H vs ds→Vals vs us→∃ as,ReadsAll s.heap us ds as
  | [],_,_,h,r=>by
    cases h
    cases r
    exact ⟨_,ReadsAll.nil⟩
  | d::ds,_,_,h,r=>by
    cases h with
    | cons h1 h2 =>
      cases r with
      | cons r1 r2 =>
        obtain ⟨as,q1⟩:=Dp.reads I d _ _ h1 r1
        obtain ⟨bs,q2⟩:=Dp.readsAll I ds _ _ h2 r2
        exact ⟨_,ReadsAll.cons q1 q2⟩
end
end
section
variable {X:Cx}
def rEqD (K:PySem.W.Frag):R2:=fun x y H Q=>∃ d e,Dp K H x d∧Dp K H y e∧SeqAt.shaped d=true∧SeqAt.shaped e=true∧Q (.bl (PyData.eqv d e)) H
def rNeD (K:PySem.W.Frag):R2:=fun x y H Q=>∃ d e,Dp K H x d∧Dp K H y e∧SeqAt.shaped d=true∧SeqAt.shaped e=true∧Q (.bl (!PyData.eqv d e)) H
theorem op_eqD (hu:X.A.units+64 < cLine):OpR X (compareOp .Eq) (rEqD X.K):=by
  intro pins s σ H x y v u Q I rx ry h
  obtain ⟨d,e,hd,he,sd,se,q⟩:=h
  obtain ⟨as,r1⟩:=Dp.reads I d x v hd rx
  obtain ⟨bs,r2⟩:=Dp.reads I e y u he ry
  exact SeqAt.compareEq_shaped r1 r2 sd se hu ⟨.bl _,H,I,rfl,q⟩
theorem op_neD (hu:X.A.units+64 < cLine):OpR X (compareOp .NotEq) (rNeD X.K):=by
  intro pins s σ H x y v u Q I rx ry h
  obtain ⟨d,e,hd,he,sd,se,q⟩:=h
  obtain ⟨as,r1⟩:=Dp.reads I d x v hd rx
  obtain ⟨bs,r2⟩:=Dp.reads I e y u he ry
  exact SeqAt.compareNe_shaped r1 r2 sd se hu ⟨.bl _,H,I,rfl,q⟩
end
end L2
namespace L2
open PySem PySem.Spec PyProof.Rows
abbrev CellAt (h:Heap) (c:Addr) (v:Option Value):Prop:=h.IsCell c v
def relS (scope sc:Scope):Scope :=
  { scope with names:=scope.names.map fun (n,k)=>if (k == .free && sc.kind == .function && sc.names.lookup n == some .cell) then (n,.cell) else (n,k) }
def cloFrom (cells:List (Str×Addr)):List (Str×NameKind)→List (Str×Addr)→List (Str×Addr)
  | [],acc=>acc
  | (n,k)::r,acc=>if k == .free then cloFrom cells r ((n,(cells.lookup n).getD 0)::acc) else cloFrom cells r acc
theorem closure_loop (env:Env) (f:Str×NameKind→List (Str×Addr)→Sem (ForInStep (List (Str×Addr))))
    (hf:∀ n k c,f (n,k) c=if k == .free then (do let a ← cellOf env n; pure (.yield ((n,a)::c))) else pure (.yield c)) :
    ∀ (names:List (Str×NameKind)) (acc:List (Str×Addr)),(∀ y∈names,y.2=.free→∃ c,env.cells.lookup y.1=some c)→forIn names acc f=pure (cloFrom env.cells names acc)
  | [],acc,_=>by rw [List.forIn_nil]; rfl
  | (n,k)::r,acc,h=>by
    rw [List.forIn_cons,hf]
    have ih:=fun acc=>closure_loop env f hf r acc fun y hy=>h y (List.mem_cons_of_mem _ hy)
    unfold cloFrom
    by_cases hk:(k == NameKind.free)=true
    · rw [if_pos hk,if_pos hk]
      obtain ⟨c,hc⟩:=h (n,k) List.mem_cons_self (by simpa using hk)
      have e:cellOf env n=pure c:=by unfold cellOf; rw [hc]
      rw [e]
      have e2:(env.cells.lookup n).getD 0=c:=by rw [hc]; rfl
      rw [e2]
      exact ih _
    · rw [if_neg hk,if_neg hk]
      exact ih _
theorem closure_ok {scope:Scope} {env:Env} (h:∀ y∈scope.names,y.2=.free→∃ c,env.cells.lookup y.1=some c):closureFor scope env=pure (cloFrom env.cells scope.names []):=by
  simp only [closureFor]
  rw [closure_loop env _ (fun n k c=>rfl) scope.names [] h]
  rfl
theorem mem_lookup {α:Type}:∀ {l:List (Str×α)} {n:Str} {c:α},(n,c)∈l→∃ c',l.lookup n=some c'
  | (k,v)::r,n,c,h=>by
    rw [List.lookup_cons]
    cases hb:n == k with
    | true=>exact ⟨_,rfl⟩
    | false =>
      rcases List.mem_cons.mp h with e | h
      · cases e; simp at hb
      · exact mem_lookup h
theorem cloFrom_mem {cells:List (Str×Addr)}:∀ {names:List (Str×NameKind)} {acc:List (Str×Addr)} {n:Str} {c:Addr},(n,c)∈cloFrom cells names acc→(n,c)∈acc∨((n,.free)∈names∧c=(cells.lookup n).getD 0)
  | [],_,_,_,h=>.inl h
  | (m,k)::r,acc,n,c,h=>by
    unfold cloFrom at h
    split at h
    · rename_i hk
      have hk:k=.free:=by simpa using hk
      rcases cloFrom_mem h with h | ⟨h1,h2⟩
      · rcases List.mem_cons.mp h with e | h
        · cases e; exact .inr ⟨hk ▸ List.mem_cons_self,rfl⟩
        · exact .inl h
      · exact .inr ⟨List.mem_cons_of_mem _ h1,h2⟩
    · rcases cloFrom_mem h with h | ⟨h1,h2⟩
      · exact .inl h
      · exact .inr ⟨List.mem_cons_of_mem _ h1,h2⟩
theorem cloFrom_acc {cells:List (Str×Addr)}:∀ {names:List (Str×NameKind)} {acc:List (Str×Addr)} {p:Str×Addr},p∈acc→p∈cloFrom cells names acc
  | [],_,_,h=>h
  | (m,k)::r,acc,p,h=>by
    unfold cloFrom
    split
    · exact cloFrom_acc (List.mem_cons_of_mem _ h)
    · exact cloFrom_acc h
theorem cloFrom_has {cells:List (Str×Addr)}:∀ {names:List (Str×NameKind)} {acc:List (Str×Addr)} {n:Str},(n,.free)∈names→(n,(cells.lookup n).getD 0)∈cloFrom cells names acc
  | (m,k)::r,acc,n,h=>by
    unfold cloFrom
    rcases List.mem_cons.mp h with e | h
    · cases e
      exact cloFrom_acc List.mem_cons_self
    · split
      · exact cloFrom_has h
      · exact cloFrom_has h
theorem cells_mem:∀ {names:List (Str×NameKind)} {h:Heap} {acc:List (Str×Addr)} {x:Str} {c:Addr},(x,c)∈cellsFrom h.objs.size names acc →
    (x,c)∈acc∨((x,.cell)∈names∧h.objs.size≤c∧CellAt (pushCells h names) c none)
  | [],_,_,_,_,h=>.inl h
  | (n,k)::r,h,acc,x,c,hm=>by
    unfold cellsFrom at hm
    unfold pushCells
    split at hm
    · rename_i hk
      rw [if_pos hk]
      have hk:k=.cell:=by simpa using hk
      rw [← Heap.size_push h { cls:=.type "cell",data:=.cell none }] at hm
      rcases cells_mem hm with hm | ⟨h1,h2,h3⟩
      · rcases List.mem_cons.mp hm with e | hm
        · cases e
          exact .inr ⟨hk ▸ List.mem_cons_self,Nat.le_refl _,_,pushCells_keeps r _ _ _ (Heap.get?_push_size _ rfl),rfl⟩
        · exact .inl hm
      · rw [Heap.size_push] at h2
        exact .inr ⟨List.mem_cons_of_mem _ h1,Nat.le_of_succ_le h2,h3⟩
    · rename_i hk
      rw [if_neg hk]
      rcases cells_mem hm with hm | ⟨h1,h2,h3⟩
      · exact .inl hm
      · exact .inr ⟨List.mem_cons_of_mem _ h1,h2,h3⟩
theorem cells_acc:∀ {names:List (Str×NameKind)} {n:Nat} {acc:List (Str×Addr)} {p:Str×Addr},p∈acc→p∈cellsFrom n names acc
  | [],_,_,_,h=>h
  | (m,k)::r,n,acc,p,h=>by
    unfold cellsFrom
    split
    · exact cells_acc (List.mem_cons_of_mem _ h)
    · exact cells_acc h
theorem cells_has:∀ {names:List (Str×NameKind)} {n:Nat} {acc:List (Str×Addr)} {x:Str},(x,.cell)∈names→∃ c,(x,c)∈cellsFrom n names acc
  | (m,k)::r,n,acc,x,h=>by
    unfold cellsFrom
    rcases List.mem_cons.mp h with e | h
    · cases e
      exact ⟨n,cells_acc List.mem_cons_self⟩
    · split
      · exact cells_has h
      · exact cells_has h
theorem cells_inj:∀ {names:List (Str×NameKind)} {h:Heap} {acc:List (Str×Addr)} {x y:Str} {c:Addr},(∀ p∈acc,p.2 < h.objs.size)→(∀ x y c,(x,c)∈acc→(y,c)∈acc→x=y) →
    (x,c)∈cellsFrom h.objs.size names acc→(y,c)∈cellsFrom h.objs.size names acc→x=y
  | [],_,_,_,_,_,_,hi,h1,h2=>hi _ _ _ h1 h2
  | (n,k)::r,h,acc,x,y,c,hl,hi,h1,h2=>by
    unfold cellsFrom at h1 h2
    split at h1
    · rename_i hk
      rw [if_pos hk] at h2
      rw [← Heap.size_push h { cls:=.type "cell",data:=.cell none }] at h1 h2
      refine cells_inj (h:=h.push _) (fun p hp=>?_) (fun x y c a b=>?_) h1 h2
      · rw [Heap.size_push]
        rcases List.mem_cons.mp hp with rfl | hp
        · exact Nat.lt_succ_self _
        · exact Nat.lt_succ_of_lt (hl p hp)
      · rcases List.mem_cons.mp a with e | a <;> rcases List.mem_cons.mp b with e' | b
        · cases e; cases e'; rfl
        · cases e; exact absurd (hl _ b) (Nat.lt_irrefl _)
        · cases e'; exact absurd (hl _ a) (Nat.lt_irrefl _)
        · exact hi _ _ _ a b
    · rename_i hk
      rw [if_neg hk] at h2
      exact cells_inj hl hi h1 h2
theorem newEnv_comp {M:Model} {A:Around} {E:Value→Shared→Prop} {s:Shared} {scope:Scope} {globals:Addr} {closure:List (Str×Addr)} {qual:Str} {func:Option Addr} {code:Value} {around:Env} {builtins:Addr} {Q:Env→Shared→Prop}
    (h:Q (newEnv scope s.heap.objs.size globals (cellsFrom (s.heap.objs.size+1) scope.names closure) qual func code (some around) builtins)
      { s with heap:=pushCells (s.heap.push { cls:=.type "dict",data:=.dict #[] }) scope.names }) :
    wpAny M A (newFunctionEnv scope globals closure [] qual func code (some around) builtins) Q E s:=by
  simp only [newFunctionEnv,Option.isSome_some,if_true]
  refine wpAny_bind (wpAny_alloc ?_)
  refine wpAny_bind (wpAny_layCells _ (fun n k c=>rfl) scope.names closure _ _ ?_)
  rw [show ({ s with heap:=s.heap.push { cls:=.type "dict",data:=.dict #[] } }:Shared).heap.objs.size=s.heap.objs.size+1 from Heap.size_push ..]
  rw [List.forIn_nil]
  exact wpAny_bind (wpAny_pure (wpAny_pure h))
theorem lookup_relS {sc:Scope}:∀ {names:List (Str×NameKind)} {x:Str} {k:NameKind},
    (names.map fun (n,k)=>if (k == NameKind.free && sc.kind == .function && sc.names.lookup n == some .cell) then (n,NameKind.cell) else (n,k)).lookup x=some k →
    ∃ k',names.lookup x=some k'∧(k=k'∨(k'=.free∧k=.cell))
  | [],_,_,h=>by simp at h
  | (n,k₀)::r,x,k,h=>by
    have ih:=@lookup_relS sc r x k
    have h':List.lookup x ((if (k₀ == NameKind.free && sc.kind == .function && sc.names.lookup n == some .cell)=true then (n,NameKind.cell) else (n,k₀))::(r.map _))=some k:=h
    cases hx:x == n with
    | true =>
      simp only [List.lookup_cons,hx]
      by_cases hc:(k₀ == NameKind.free && sc.kind == .function && sc.names.lookup n == some .cell)=true
      · rw [if_pos hc] at h'
        simp only [List.lookup_cons,hx] at h'
        cases h'
        simp only [Bool.and_eq_true,beq_iff_eq] at hc
        exact ⟨k₀,rfl,.inr ⟨hc.1.1,rfl⟩⟩
      · rw [if_neg hc] at h'
        simp only [List.lookup_cons,hx] at h'
        cases h'
        exact ⟨_,rfl,.inl rfl⟩
    | false =>
      simp only [List.lookup_cons,hx]
      by_cases hc:(k₀ == NameKind.free && sc.kind == .function && sc.names.lookup n == some .cell)=true
      · rw [if_pos hc] at h'
        simp only [List.lookup_cons,hx] at h'
        exact ih h'
      · rw [if_neg hc] at h'
        simp only [List.lookup_cons,hx] at h'
        exact ih h'
structure BlkOk (N:List Str) (sc scope:Scope) (own:List (Str×Nat)):Prop where
  kind:scope.kind=.function
  uniq:∀ y∈scope.names,scope.names.lookup y.1=some y.2
  ix:∀ p∈own,N[p.2]?=some p.1
  free:∀ y∈scope.names,y.2=.free→sc.names.lookup y.1=some .cell∨sc.names.lookup y.1=some .free
  own:∀ y∈scope.names,y.2=.local∨y.2=.cell→y.1∈own.map (·.1)∨y.1 ∉ N
def wipe (σ:St):List Nat→St
  | []=>σ
  | v::vs=>(wipe σ vs).set v none
theorem wipe_length (σ:St):∀ vs:List Nat,(wipe σ vs).length=σ.length
  | []=>rfl
  | v::vs=>by unfold wipe; rw [List.length_set,wipe_length σ vs]
theorem wipe_some {σ:St} {i:Nat} {x:V}:∀ {vs:List Nat},(wipe σ vs)[i]?=some (some x)→σ[i]?=some (some x)∧i ∉ vs
  | [],h=>⟨h,by simp⟩
  | v::vs,h=>by
    unfold wipe at h
    by_cases hi:v=i
    · subst hi
      by_cases hv:v < (wipe σ vs).length
      · rw [List.getElem?_set_self hv] at h; cases h
      · rw [List.getElem?_eq_none (by simpa using hv)] at h; cases h
    · rw [List.getElem?_set_ne hi] at h
      obtain ⟨h1,h2⟩:=wipe_some h
      exact ⟨h1,by simp only [List.mem_cons,not_or]; exact ⟨fun e=>hi e.symm,h2⟩⟩
abbrev Cx.blk (X:Cx) (s:Shared) (H:Hp) (scope:Scope) (cenv:Env) (fp:List Addr):Cx:={ X with s₀:=s,H₀:=H,env:=cenv,outer:=X.stack,ex:=fp,fn:=fun x=>scope.names.lookup x == some .cell,pn:=[],xe:=fun _ _=>False }
section
variable {X:Cx} {pins:List (Addr×Obj)} {σ:St} {H:Hp} {s:Shared}
theorem block_start {scope:Scope} {own:List (Str×Nat)} {fp:List Addr} (I:Inv X pins σ H s) (ok:BlkOk X.N X.env.scope scope own) (hN:X.N.Nodup) (hfp:∀ b∈fp,FpOk X pins H b∧b < s.heap.objs.size) :
    Inv (X.blk s H scope (compEnvC scope (cellsFrom (s.heap.objs.size+1) scope.names (cloFrom X.env.cells scope.names [])) s.heap.objs.size X.env) fp) [] (wipe σ (own.map (·.2))) H { s with heap:=pushCells (s.heap.push { cls:=.type "dict",data:=.dict #[] }) scope.names }:=by
  have hfree:∀ y∈scope.names,y.2=.free→∃ c,X.env.cells.lookup y.1=some c:=fun y hy e=>by
    rcases ok.free y hy e with k | k
    · exact I.ok.has _ (.inl k)
    · exact I.ok.has _ (.inr k)
  generalize hcenv:compEnvC scope (cellsFrom (s.heap.objs.size+1) scope.names (cloFrom X.env.cells scope.names [])) s.heap.objs.size X.env=cenv
  have kp:∀ b o,s.heap.get? b=some o→(pushCells (s.heap.push { cls:=.type "dict",data:=.dict #[] }) scope.names).get? b=some o:=fun b o e=>pushCells_keeps _ _ _ _ (Heap.get?_push_of_some _ e)
  have hL:cenv.locals=s.heap.objs.size:=by rw [← hcenv]; rfl
  have hcl:cenv.cells=cellsFrom (s.heap.objs.size+1) scope.names (cloFrom X.env.cells scope.names []):=by rw [← hcenv]; rfl
  have hsc:cenv.scope=relS scope X.env.scope:=by rw [← hcenv]; rfl
  rw [← Heap.size_push s.heap { cls:=.type "dict",data:=.dict #[] }] at hcl
  have cm:∀ {y c},(y,c)∈cloFrom X.env.cells scope.names []→X.env.cells.lookup y=some c∧c < s.heap.objs.size:=fun {y c} hm=>by
    rcases cloFrom_mem hm with hm | ⟨h1,rfl⟩
    · cases hm
    · obtain ⟨c,hc⟩:=hfree _ h1 rfl
      rw [hc]
      obtain ⟨w,z⟩:=I.cell _ _ hc
      exact ⟨rfl,z.lt⟩
  have mem:∀ {y c},cenv.cells.lookup y=some c→(X.env.cells.lookup y=some c∧c < s.heap.objs.size)∨(s.heap.objs.size+1≤c∧CellAt (pushCells (s.heap.push { cls:=.type "dict",data:=.dict #[] }) scope.names) c none):=fun {y c} e=>by
    rw [hcl] at e
    rcases cells_mem (PySem.mem_of_lookup e) with hm | ⟨_,h2,h3⟩
    · exact .inl (cm hm)
    · rw [Heap.size_push] at h2; exact .inr ⟨h2,h3⟩
  have look:∀ {y},scope.names.lookup y=some .free→∃ c,cenv.cells.lookup y=some c∧X.env.cells.lookup y=some c:=fun {y} hl=>by
    have hy:(y,NameKind.free)∈scope.names:=PySem.mem_of_lookup hl
    obtain ⟨c',e'⟩:=mem_lookup (cells_acc (names:=scope.names) (n:=(s.heap.push { cls:=.type "dict",data:=.dict #[] }).objs.size) (cloFrom_has (cells:=X.env.cells) (acc:=[]) hy))
    rw [← hcl] at e'
    refine ⟨c',e',?_⟩
    rw [hcl] at e'
    rcases cells_mem (PySem.mem_of_lookup e') with hm | ⟨h1,_,_⟩
    · exact (cm hm).1
    · have:=ok.uniq _ h1
      rw [hl] at this; cases this
  have okB:(X.blk s H scope cenv fp).Ok:=by
    refine ⟨I.ok.mod,by show cenv.scope.kind=_; rw [hsc]; exact ok.kind,by show cenv.globals=_; rw [← hcenv]; exact I.ok.glob,by show cenv.builtins=_; rw [← hcenv]; exact I.ok.blt,by show s.heap.objs.size≤cenv.locals; rw [hL]; exact Nat.le_refl _,
      fun y z c e1 e2=>?_,fun y hy=>?_,fun y c z e=>?_,I.ok.hd,I.ok.frames,.inl rfl,fun b hb=>⟨?_,fun y c e z=>?_⟩,I.bs,Nat.le_trans I.ok.bsz I.sz,fun b o e hb=>?_,fun b hb z=>?_,I.stack,I.stkFree⟩
    · have e1:cenv.cells.lookup y=some c:=e1
      have e2:cenv.cells.lookup z=some c:=e2
      rw [hcl] at e1 e2
      refine cells_inj (fun p hp=>?_) (fun y z c a b=>I.ok.inj y z c (cm a).1 (cm b).1) (PySem.mem_of_lookup e1) (PySem.mem_of_lookup e2)
      rw [Heap.size_push]
      exact Nat.lt_succ_of_lt (cm (y:=p.1) (c:=p.2) hp).2
    · show ∃ c,cenv.cells.lookup y=some c
      have key:∀ k,cenv.kindOf y=some k→(k=.cell∨k=.free)→∃ c,cenv.cells.lookup y=some c:=fun k hk hk'=>by
        unfold Env.kindOf at hk
        rw [hsc] at hk
        obtain ⟨k',e,r⟩:=lookup_relS hk
        have:k'=.cell∨k'=.free:=by
          rcases r with rfl | ⟨rfl,_⟩
          · exact hk'
          · exact .inr rfl
        rcases this with rfl | rfl
        · obtain ⟨c,hm⟩:=cells_has (n:=(s.heap.push { cls:=.type "dict",data:=.dict #[] }).objs.size) (acc:=cloFrom X.env.cells scope.names []) (PySem.mem_of_lookup e)
          obtain ⟨c',e'⟩:=mem_lookup hm
          exact ⟨c',by rw [hcl]; exact e'⟩
        · obtain ⟨c,h1,_⟩:=look e
          exact ⟨c,h1⟩
      rcases hy with hy | hy
      · exact key _ hy (.inl rfl)
      · exact key _ hy (.inr rfl)
    · have z:(scope.names.lookup y == some NameKind.cell)=true:=z
      have z:scope.names.lookup y=some .cell:=by simpa using z
      have e:cenv.cells.lookup y=some c:=e
      rw [hcl] at e
      rcases cells_mem (PySem.mem_of_lookup e) with hm | ⟨_,h2,_⟩
      · rcases cloFrom_mem hm with hm | ⟨h1,_⟩
        · cases hm
        · have q:=ok.uniq _ h1
          rw [z] at q; cases q
      · rw [Heap.size_push] at h2
        exact Nat.le_of_succ_le h2
    · show b≠cenv.locals
      rw [hL]; exact Nat.ne_of_lt (hfp b hb).2
    · have e:cenv.cells.lookup y=some c:=e
      rcases mem e with ⟨h1,_⟩ | ⟨h1,_⟩
      · exact (hfp b hb).1.2.2.2.2.1 y c h1 z
      · have h2:s.heap.objs.size+1≤b:=by rw [← z]; exact h1
        exact absurd (Nat.lt_of_lt_of_le (hfp b hb).2 (Nat.le_of_succ_le h2)) (Nat.lt_irrefl _)
    · rcases (hfp b hb).1.2.2.2.1 with z | z
      · exact I.ok.noex b o e z
      · exact absurd (Nat.lt_of_lt_of_le (Heap.lt_size e) (Nat.le_trans I.ok.bsz z)) (Nat.lt_irrefl _)
    · rcases List.mem_cons.mp (I.stkSub b z) with z | z
      · exact (hfp b hb).1.2.1 z
      · exact (hfp b hb).1.2.2.1 z
  refine ⟨okB,rfl,I.bare,Un.kept kp,⟨fun _=>none,?_,fun i y av e1 e2 e3=>?_⟩,fun y c e=>?_,?_,fun y c e=>?_,fun p hp=>?_,I.hok.kept kp,by rw [wipe_length]; exact I.len⟩
  · show Heap.Ns _ cenv.locals _
    rw [hL]
    exact Heap.Ns.keeps (Heap.Ns.new ..) fun b o e=>pushCells_keeps _ _ _ _ e
  · obtain ⟨e2,hne⟩:=wipe_some e2
    have hfr:scope.names.lookup y=some .free∧(cenv.kindOf y=some .cell∨cenv.kindOf y=some .free):=by
      have key:∀ k,cenv.scope.names.lookup y=some k→k=.local∨k=.cell∨k=.free→scope.names.lookup y=some .free∧(cenv.kindOf y=some .cell∨cenv.kindOf y=some .free):=fun k hk hk'=>by
        have hk0:=hk
        rw [hsc] at hk
        obtain ⟨k',e,r⟩:=lookup_relS hk
        have no:¬ (k'=.local∨k'=.cell):=fun hh=>by
          rcases ok.own _ (PySem.mem_of_lookup e) hh with e' | e'
          · obtain ⟨p,hp,hpy⟩:=List.mem_map.mp e'
            have e3:=ok.ix p hp
            have:p.1=y:=hpy
            rw [this] at e3
            exact hne (List.mem_map.mpr ⟨p,hp,nodup_ix hN e3 e1⟩)
          · exact e' (List.mem_of_getElem? e1)
        rcases r with rfl | ⟨rfl,rfl⟩
        · rcases hk' with rfl | rfl | rfl
          · exact absurd (.inl rfl) no
          · exact absurd (.inr rfl) no
          · exact ⟨e,.inr hk0⟩
        · exact ⟨e,.inl hk0⟩
      have e3:Vis cenv.scope y:=e3
      rcases e3 with e3 | e3 | e3
      · exact key _ e3 (.inl rfl)
      · exact key _ e3 (.inr (.inl rfl))
      · exact key _ e3 (.inr (.inr rfl))
    obtain ⟨m,hn,hl⟩:=I.loc
    have hvis:Vis X.env.scope y:=(ok.free _ (PySem.mem_of_lookup hfr.1) rfl).elim (fun k=>.inr (.inl k)) (fun k=>.inr (.inr k))
    obtain ⟨w,r,q⟩:=hl i y av e1 e2 hvis
    refine ⟨w,r,.inr ⟨hfr.2,?_⟩⟩
    obtain ⟨c,h1,h2⟩:=look hfr.1
    rcases q with ⟨k,_⟩ | ⟨_,c',e',z⟩
    · have k:X.env.scope.names.lookup y=some .local:=k
      rcases ok.free _ (PySem.mem_of_lookup hfr.1) rfl with k' | k' <;> rw [show X.env.scope.names.lookup y=_ from k'] at k <;> cases k
    · rw [h2] at e'; cases e'
      exact ⟨c,h1,z.keeps kp⟩
  · have e:cenv.cells.lookup y=some c:=e
    rcases mem e with ⟨h1,_⟩ | ⟨_,z⟩
    · obtain ⟨w,z⟩:=I.cell y c h1
      exact ⟨w,z.keeps kp⟩
    · exact ⟨_,z⟩
  · show H cenv.locals=none
    rw [hL]; exact I.hok.fresh (Nat.le_refl _)
  · have e:cenv.cells.lookup y=some c:=e
    rcases mem e with ⟨h1,_⟩ | ⟨h1,_⟩
    · exact I.freeC y c h1
    · exact I.hok.fresh (Nat.le_of_succ_le h1)
  · exact absurd (show p∈([]:List (Addr×Obj))++[] from hp) (by simp)
theorem app_ok {E:Value→Shared→Prop} {D:Addr} {xs:List V} {y:V} {v:Value} {Q:Value→Shared→Prop} (I:Inv X pins σ H s) (hD:H D=some (.lst xs)) (hz:xs.length < sizeLine) (r:RelV y v)
    (h:∀ s',Inv X pins σ (upd H D (.lst (xs++[y]))) s'→Q .none s'):wpAny (model X.prog X.w) X.A (call (.builtin "list.append") [.ref D,v]) Q E s:=by
  obtain ⟨hz',its,n,ri,e⟩:=I.hok D _ hD
  have hl:=ri.length
  refine append_at (hsz:=by rw [List.size_toArray]; omega) e fun h' sb ho'=>?_
  refine h { s with heap:=h' } (I.write (t':=s.toks) (by rw [hD]; trivial) (.inl rfl) (fun b u hb q=>(sb.2 b hb).trans q) ⟨_,ho'⟩ ⟨by rw [List.length_append]; exact hz,its++[v],n+1,ri.append (.cons r .nil),?_⟩)
  rw [ho']
  simp
def PTs (X:Cx) (ifs:List Expr) (t:TT):Prop :=
  ∀ (pins:List (Addr×Obj)) (s:Shared) (σ:St) (H:Hp) (Q:Bool→Hp→Prop),Inv X pins σ H s→t σ H Q →
    wpAny (model X.prog X.w) X.A (forIn ifs true fun c r=>if r=true then do let ok ← isTrue c X.env (eval c X.env); pure (ForInStep.yield ok) else pure (ForInStep.yield r)) (TP X pins σ Q) X.xe s
def tYes:TT:=fun _ H Q=>Q true H
theorem pts_nil:PTs X [] tYes:=fun _ _ _ H _ I h=>wpAny_tests_nil ⟨H,I,h⟩
theorem pts_one {c:Expr} {t:TT} (h:PT X c t):PTs X [c] t:=fun pins s σ H Q I hw=>wpAny_tests_one (h pins s σ H Q I hw)
end
theorem thnF {α:Type} {t:Sem α} {Q Q':α→Shared→Prop} {M:Model} {A:Around} {E:Value→Shared→Prop} {s:Shared} (h:wpAny M A t Q (fun _ _=>False) s) (hQ:∀ a s,Q a s→Q' a s):wpAny M A t Q' E s:=wpAny_mono h hQ fun _ _ z=>False.elim z
theorem compLoop_any {prog:Program} {w:World} {A:Around} {R:Result→Shared→Prop} {s:Shared} {elt target iter:Expr} {ifs:List Expr} {scope:Scope} {pos:Pos} {it acc:Value} {env:Env} (I:Nat→Shared→Prop)
    (turn:∀ n s,I n s→wpAny (model prog w) A (pyNext it) (fun r s₁=>match r with
      | none=>R (.ok .next) s₁
      | some v=>wpAny (model prog w) A (letOwnedTupleGo target it v) (fun _ s₁'=>wpAny (model prog w) A (assign target env v) (fun _ s₂ =>
          wpAny (model prog w) A (forIn ifs true fun c r=>if r=true then do let ok ← isTrue c env (eval c env); pure (ForInStep.yield ok) else pure (ForInStep.yield r)) (fun ok s₃ =>
            if ok=true then wpAny (model prog w) A (eval elt env) (fun x s₄ =>
              wpAny (model prog w) A (call (.builtin "list.append") [acc,x]) (fun _ s₅=>∃ m,m < n∧I m s₅) (notedBy (model prog w) A env fun e s'=>R (.error e) s') s₄) (notedBy (model prog w) A env fun e s'=>R (.error e) s') s₃
            else ∃ m,m < n∧I m s₃) (notedBy (model prog w) A env fun e s'=>R (.error e) s') s₂) (notedBy (model prog w) A env fun e s'=>R (.error e) s') s₁') (notedBy (model prog w) A env fun e s'=>R (.error e) s') s₁) (notedBy (model prog w) A env fun e s'=>R (.error e) s') s)
    (n:Nat) (h:I n s) :
    codeAny (model prog w) A (.compLoop (.ListComp elt [⟨target,iter,ifs,0⟩] scope pos) 0 it acc env) R s:=by
  refine codeAny_loop rfl I (fun n s hI=>?_) n h
  show wpAny _ A ((compTurn (.ListComp elt [⟨target,iter,ifs,0⟩] scope pos) 0 it acc env).onRaise (fun x=>do noteFrame x env; theTreesLotGoes x)) _ _ s
  refine wpAny_noted ?_
  rw [compTurn_list]
  refine wpAny_bind (wpAny_standAt (wpAny_bind (wpAny_mono (turn n s hI) (fun r s₁ h₁=>?_) fun _ _ h'=>h')))
  cases r with
  | none=>exact wpAny_pure h₁
  | some v =>
    refine wpAny_bind (wpAny_mono h₁ (fun _ s₁' h₁'=>?_) fun _ _ h'=>h')
    refine wpAny_bind (wpAny_mono h₁' (fun _ s₂ h₂=>wpAny_bind (wpAny_mono h₂ (fun ok s₃ h₃=>?_) fun _ _ h'=>h')) fun _ _ h'=>h')
    cases ok with
    | false=>exact wpAny_pure ⟨rfl,h₃⟩
    | true =>
      exact wpAny_bind (wpAny_bind (wpAny_mono h₃ (fun x s₄ h₄=>wpAny_bind (wpAny_mono h₄ (fun _ s₅ h₅=>wpAny_pure (wpAny_pure ⟨rfl,h₅⟩)) fun _ _ h'=>h')) fun _ _ h'=>h'))
section
variable {X:Cx}
def tLc (wi:TI) (g:TG) (tt:TT) (te:TE) (vs:List Nat):TE:=fun σ H Q=>wi σ H fun J H1=>∀ D,H1 D=none→∃ W:Nat→Nat→Hp→Prop,(∃ m,W 0 m (upd H1 D (.lst [])))∧∀ i m H,W i m H →
  (J.stop i H∧Q (.ref D) H)∨(J.go i H∧∃ Nx:Hp→Prop,(∀ H',Nx H'→∃ m',m' < m∧W (i+1) m' H')∧∀ x H',J.yld i H x H'→g x (wipe σ vs) H' fun σ2 H2=>wipe σ2 vs=wipe σ vs∧tt σ2 H2 fun b H3 =>
    if b=true then te σ2 H3 fun y H4=>∃ acc,H4 D=some (.lst acc)∧acc.length < sizeLine∧Nx (upd H4 D (.lst (acc++[y]))) else Nx H3)
theorem lc_core {pins:List (Addr×Obj)} {s:Shared} {σ:St} {H:Hp} {Q:VK} {elt tg iter:Expr} {ifs:List Expr} {scope:Scope} {own:List (Str×Nat)} {pos pos':Pos} {wi:TI} {g:TG} {tt:TT} {te:TE} {use:Option (Value→Sem Unit)} {Qf:Value→Shared→Prop}
    (hc:X.calm=true) (hN:X.N.Nodup) (I:Inv X pins σ H s) (hi:PI X tg iter wi) (ok:BlkOk X.N X.env.scope scope own)
    (hg:∀ (s:Shared) (H:Hp) (C:Addr) (cl:List (Str×Addr)) (fp:List Addr),PG (X.blk s H scope (compEnvC scope cl C X.env) fp) tg g) (ht:∀ (s:Shared) (H:Hp) (C:Addr) (cl:List (Str×Addr)) (fp:List Addr),PTs (X.blk s H scope (compEnvC scope cl C X.env) fp) ifs tt)
    (he:∀ (s:Shared) (H:Hp) (C:Addr) (cl:List (Str×Addr)) (fp:List Addr),PE (X.blk s H scope (compEnvC scope cl C X.env) fp) elt te) (hs:∀ x,foldedSetIterable iter X.env x=pure x)
    (h:tLc wi g tt te (own.map (·.2)) σ H Q)
    (hRR:∀ D C s' m H',Inv X pins σ H' s'→Q (.ref D) H'→s'.heap.Ns C m→FpOk X pins H' C→compPost (model X.prog X.w) X.A X.xe use Qf (.ref D) C (.ok .next) s') :
    wpAny (model X.prog X.w) X.A (comprehension (.ListComp elt [⟨tg,iter,ifs,0⟩] scope pos) scope X.env pos' (newList []) false (eval iter X.env) use) Qf X.xe s:=by
  have hfree:∀ y∈scope.names,y.2=.free→∃ c,X.env.cells.lookup y.1=some c:=fun y hy e=>by
    rcases ok.free y hy e with k | k
    · exact I.ok.has _ (.inl k)
    · exact I.ok.has _ (.inr k)
  refine wpAny_comprehension_free (use:=use) rfl hs (closure_ok hfree) ok.kind (fun y hy e=>by rw [ok.uniq y hy,e])
    (thn (hi pins s σ H _ I h) fun xv s1 hx=>thn hx fun itv s2 h2=>?_)
  obtain ⟨it,fp,tn,J,H2,e,I2,T,st2,f2,q⟩:=h2
  subst e
  refine wpAny_newObj_type (newEnv_comp ?_) (by show 0≤sizeLine; decide)
  generalize hD:s2.heap.objs.size=D
  have hDn:H2 D=none:=I2.hok.fresh (Nat.le_of_eq hD)
  obtain ⟨W,⟨m0,w0⟩,turn⟩:=q D hDn
  generalize hs3:({ s2 with heap:=s2.heap.push { cls:=.type "list",data:=.seq ([]:List Value).toArray } }:Shared)=s3
  have I3:Inv X pins σ (upd H2 D (.lst [])) s3:=by
    rw [← hs3]
    refine I2.laid (t':=s2.toks) (fun b o e=>Heap.get?_push_of_some _ e) (Nat.le_of_eq hD) ⟨Nat.zero_le _,[],0,.nil,?_⟩
    rw [← hD]
    exact Heap.get?_push_size _ rfl
  have h3:s3.heap=s2.heap.push { cls:=.type "list",data:=.seq ([]:List Value).toArray }:=by rw [← hs3]
  have sz:∀ b∈fp,b < s2.heap.objs.size:=fun b hb=>by
    obtain ⟨o,e,_⟩:=T.obj _ _ st2 b hb
    exact Heap.lt_size e
  have f3:∀ b∈fp,FpOk X pins (upd H2 D (.lst [])) b∧b < s3.heap.objs.size:=fun b hb=>by
    have hlt:=sz b hb
    refine ⟨⟨?_,(f2 b hb).2⟩,by rw [h3,Heap.size_push]; exact Nat.lt_succ_of_lt hlt⟩
    rw [upd_ne (by rw [← hD]; exact Nat.ne_of_lt hlt)]
    exact (f2 b hb).1
  have st3:tn 0 s3.heap:=T.keep _ _ _ st2 fun b _ o e=>by rw [h3]; exact Heap.get?_push_of_some _ e
  have I4:=block_start I3 ok hN f3
  have pg:=hg s3 (upd H2 D (.lst [])) s3.heap.objs.size (cellsFrom (s3.heap.objs.size+1) scope.names (cloFrom X.env.cells scope.names [])) fp
  have pt:=ht s3 (upd H2 D (.lst [])) s3.heap.objs.size (cellsFrom (s3.heap.objs.size+1) scope.names (cloFrom X.env.cells scope.names [])) fp
  have pe:=he s3 (upd H2 D (.lst [])) s3.heap.objs.size (cellsFrom (s3.heap.objs.size+1) scope.names (cloFrom X.env.cells scope.names [])) fp
  show codeAny _ _ (.compStart (.ListComp elt [⟨tg,iter,ifs,0⟩] scope pos) 0 (.ref it) (.ref D) (compEnvC scope (cellsFrom (s3.heap.objs.size+1) scope.names (cloFrom X.env.cells scope.names [])) s3.heap.objs.size X.env)) (compPost (model X.prog X.w) X.A X.xe use Qf (.ref D) s3.heap.objs.size) { s3 with heap:=pushCells (s3.heap.push { cls:=.type "dict",data:=.dict #[] }) scope.names }
  have nfp:∀ b∈fp,(upd H2 D (.lst [])) b=none:=fun b hb=>(f3 b hb).1.1
  generalize hce:compEnvC scope (cellsFrom (s3.heap.objs.size+1) scope.names (cloFrom X.env.cells scope.names [])) s3.heap.objs.size X.env=ce at I4 pg pt pe ⊢
  have cL:ce.locals=s3.heap.objs.size:=by subst hce; rfl
  generalize hH3:upd H2 D (.lst [])=H3 at I3 I4 pg pt pe w0 nfp f3
  generalize hs4:({ s3 with heap:=pushCells (s3.heap.push { cls:=.type "dict",data:=.dict #[] }) scope.names }:Shared)=s4 at I4 ⊢
  have st4:tn 0 s4.heap:=T.keep _ _ _ st3 fun b _ o e=>by rw [← hs4]; exact pushCells_keeps _ _ _ _ (Heap.get?_push_of_some _ e)
  have stat:∀ {σ':St} {H':Hp} {s':Shared},Inv (X.blk s3 H3 scope ce fp) [] σ' H' s'→(∀ b∈fp,H' b=none)→∀ b∈fp,FpOk (X.blk s3 H3 scope ce fp) [] H' b:=fun {σ' H' s'} I' hn b hb =>
    ⟨hn b hb,(I'.ok.exf b hb).1,I'.ok.exfs b hb,.inl hb,fun x c e=>(I'.ok.exf b hb).2 x c e,fun p hp=>absurd (show p∈([]:List (Addr×Obj))++[] from hp) (by simp)⟩
  have loop:codeAny (model X.prog X.w) X.A (.compLoop (.ListComp elt [⟨tg,iter,ifs,0⟩] scope pos) 0 (.ref it) (.ref D) ce) (compPost (model X.prog X.w) X.A X.xe use Qf (.ref D) s3.heap.objs.size) s4:=by
    refine compLoop_any (fun n s'=>∃ i H',Inv (X.blk s3 H3 scope ce fp) [] (wipe σ (own.map (·.2))) H' s'∧tn i s'.heap∧(∀ b∈fp,H' b=none)∧W i n H') ?_ m0 ⟨0,H3,I4,st4,nfp,w0⟩
    rintro n s5 ⟨i,H5,I5,st5,n5,w5⟩
    rcases turn i n H5 w5 with ⟨stop,qq⟩ | ⟨go,Nx,hNx,step⟩
    · have td:=T.done (X.blk s3 H3 scope ce fp) rfl rfl rfl hc i [] s5 _ H5 (fun _ _=>False) I5 (stat I5 n5) st5 stop
      refine thnF td fun r s6 ⟨hr,I6⟩=>?_
      subst hr
      have I7:Inv X pins σ H5 s6:=I3.call' (ch:=fp) I6.os I6.base I6.hok I6.bare fun b hb=>⟨(f3 b hb).1.2.2.2.1,(f3 b hb).1.2.1,(f3 b hb).1.2.2.2.2.1,(f3 b hb).1.2.2.2.2.2⟩
      have nC:H5 s3.heap.objs.size=none:=by
        have z:H5 ce.locals=none:=I6.free
        rw [cL] at z
        exact z
      obtain ⟨m,hn,_⟩:=I6.loc
      have hn:s6.heap.Ns ce.locals m:=hn
      rw [cL] at hn
      exact hRR D s3.heap.objs.size s6 m H5 I7 qq hn (I3.fpOk (Nat.le_refl _) nC)
    · have ti:=T.item (X.blk s3 H3 scope ce fp) rfl rfl rfl hc i [] s5 _ H5 (fun _ _=>False) I5 (stat I5 n5) st5 go
      refine thnF ti fun r s6 ⟨u,hr,h6⟩=>?_
      subst hr
      refine thnF h6 fun _ s7 ⟨x,H7,I7,r7,y7,st7,n7⟩=>?_
      have I7':=I7.pinned (stat I7 n7) (T.obj _ _ st7)
      refine thnF (pg _ s7 _ H7 x u _ I7' r7 (step x H7 y7)) fun _ s8 ⟨σ8,H8,I8,hw8,q8⟩=>?_
      refine thnF (pt _ s8 σ8 H8 _ I8 q8) fun b s9 ⟨H9,I9,q9⟩=>?_
      have fin:∀ {s':Shared} {H':Hp},Inv (X.blk s3 H3 scope ce fp) ([]++pinsAt fp s7.heap) σ8 H' s'→Nx H'→∃ m,m < n∧∃ i H',Inv (X.blk s3 H3 scope ce fp) [] (wipe σ (own.map (·.2))) H' s'∧tn i s'.heap∧(∀ b∈fp,H' b=none)∧W i m H':=fun {s' H'} I' nx=>by
        obtain ⟨m',hm,w'⟩:=hNx H' nx
        have pin':∀ b∈fp,∀ o,s7.heap.get? b=some o→s'.heap.get? b=some o∧H' b=none:=fun b hb o e =>
          let z:=I'.pin (b,o) (List.mem_append_right _ (List.mem_append_right _ (mem_pinsAt hb e)))
          ⟨z.1,z.2.1⟩
        have hl:(wipe σ (own.map (·.2))).length=σ8.length:=by rw [← hw8,wipe_length]
        refine ⟨m',hm,i+1,H',(I'.unpinned (pins:=[])).weak hl (fun j v e=>?_),T.keep _ _ _ st7 fun b hb o e=>(pin' b hb o e).1,fun b hb=>?_,w'⟩
        · rw [← hw8] at e
          exact (wipe_some e).1
        · obtain ⟨o,e,_⟩:=T.obj _ _ st7 b hb
          exact (pin' b hb o e).2
      cases b with
      | false =>
        simp only [Bool.false_eq_true,if_false] at q9 ⊢
        exact fin I9 q9
      | true =>
        simp only [if_true] at q9 ⊢
        refine thnF (pe _ s9 σ8 H9 _ I9 q9) fun z s10 ⟨yv,H10,I10,r10,acc,hD10,hz10,nx⟩=>?_
        exact app_ok (X:=X.blk s3 H3 scope ce fp) I10 hD10 hz10 r10 fun s11 I11=>fin I11 nx
  exact codeAny_compStart_list loop (T.self X.A 0 _ _ _ st4 loop)
theorem pe_lc {elt tg iter:Expr} {ifs:List Expr} {scope:Scope} {own:List (Str×Nat)} {pos:Pos} {wi:TI} {g:TG} {tt:TT} {te:TE} (hc:X.calm=true) (hN:X.N.Nodup) (hi:PI X tg iter wi) (ok:BlkOk X.N X.env.scope scope own)
    (hg:∀ (s:Shared) (H:Hp) (C:Addr) (cl:List (Str×Addr)) (fp:List Addr),PG (X.blk s H scope (compEnvC scope cl C X.env) fp) tg g) (ht:∀ (s:Shared) (H:Hp) (C:Addr) (cl:List (Str×Addr)) (fp:List Addr),PTs (X.blk s H scope (compEnvC scope cl C X.env) fp) ifs tt)
    (he:∀ (s:Shared) (H:Hp) (C:Addr) (cl:List (Str×Addr)) (fp:List Addr),PE (X.blk s H scope (compEnvC scope cl C X.env) fp) elt te) (hs:∀ x,foldedSetIterable iter X.env x=pure x:=by intro _; rfl) :
    PE X (.ListComp elt [⟨tg,iter,ifs,0⟩] scope pos) (tLc wi g tt te (own.map (·.2))):=by
  intro pins s σ H Q I h
  rw [eval_ListComp]
  refine lc_core hc hN I hi ok hg ht he hs h fun D C s' m H' I' q hn f=>⟨m,hn,fun h'' sb=>?_⟩
  obtain ⟨f0,f1,f2,f3,f4,f5⟩:=f
  exact ⟨.ref D,H',I'.turned (t':=s'.toks) (fun b o hb e=>(sb.2 b hb).trans e) f0 f1 f3 f4 f5,rfl,q⟩
theorem ps_setLc {i:Nat} {y:Str} {py:Pos} {elt tg iter:Expr} {ifs:List Expr} {scope:Scope} {own:List (Str×Nat)} {pos spos:Pos} {wi:TI} {g:TG} {tt:TT} {te:TE} (hc:X.calm=true) (hN:X.N.Nodup) (hy:X.N[i]?=some y) (hyl:X.env.scope.names.lookup y=some .local)
    (hsw:swapsWith (.ListComp elt [⟨tg,iter,ifs,0⟩] scope pos) (some (.Name y py)) spos.line X.env=pure true) (hi:PI X tg iter wi) (ok:BlkOk X.N X.env.scope scope own)
    (hg:∀ (s:Shared) (H:Hp) (C:Addr) (cl:List (Str×Addr)) (fp:List Addr),PG (X.blk s H scope (compEnvC scope cl C X.env) fp) tg g) (ht:∀ (s:Shared) (H:Hp) (C:Addr) (cl:List (Str×Addr)) (fp:List Addr),PTs (X.blk s H scope (compEnvC scope cl C X.env) fp) ifs tt)
    (he:∀ (s:Shared) (H:Hp) (C:Addr) (cl:List (Str×Addr)) (fp:List Addr),PE (X.blk s H scope (compEnvC scope cl C X.env) fp) elt te) (hs:∀ x,foldedSetIterable iter X.env x=pure x:=by intro _; rfl) :
    PS X (.Assign [.Name y py] (.ListComp elt [⟨tg,iter,ifs,0⟩] scope pos) spos) (tAsg (tLc wi g tt te (own.map (·.2))) (gName i)):=by
  intro pins s σ H D I h
  rw [exec_Assign_Name_used _ _ _ _ hsw]
  refine wpAny_bind (wpAny_standAt (wpAny_bind ?_))
  show wpAny _ X.A (do let _ ← comprehension (.ListComp elt [⟨tg,iter,ifs,0⟩] scope pos) scope X.env (firstIterPos [⟨tg,iter,ifs,0⟩] pos) (newList []) false (eval iter X.env) (some (assign (.Name y py) X.env))) _ _ s
  have h:tLc wi g tt te (own.map (·.2)) σ H (fun x H1=>gName i x σ H1 D.nx):=h
  refine wpAny_bind (thn (lc_core (Qf:=fun _ s'=>SP X pins D .next s') hc hN I hi ok hg ht he hs h fun L C s' m H' I' q hn f=>?_) fun _ s' hq=>wpAny_pure (wpAny_pure hq))
  show wpAny _ _ (assign (.Name y py) X.env (.ref L)) _ _ _
  refine wpAny_assign_Name (store_ok2 (v:=V.ref L) I' hN hy (.inl hyl) rfl (fun s2 I2 ⟨a,sb,ha⟩=>?_) (.inr hyl))
  obtain ⟨f0,f1,f2,f3,f4,f5⟩:=f
  have haC:C≠a:=by
    rcases ha with z | z
    · rw [z]; exact f1
    · exact fun e=>f4 y a z e.symm
  refine ⟨m,hn.sameBut sb haC,fun h3 sb3=>?_⟩
  exact ⟨_,H',I2.turned (t':=s2.toks) (fun b o hb e=>(sb3.2 b hb).trans e) f0 f1 f3 f4 f5,q⟩
theorem sw_true {elt:Expr} {gs:List Comprehension} {scope:Scope} {pos py:Pos} {y:Str} {l:Nat} {env:Env} (hk:env.scope.kind=.function) (hy:env.scope.names.lookup y=some .local) (hl:(py.line == pos.line)=true)
    (ha:(scope.names.any fun (n,k)=>n == y && (k == .local || k == .cell))=false):swapsWith (.ListComp elt gs scope pos) (some (.Name y py)) l env=pure true:=by
  have ky:env.kindOf y=some .local:=hy
  have hb:env.blockKind=.function:=by unfold Env.blockKind; rw [hk]; rfl
  unfold swapsWith
  simp only [hb,ky,ha,Expr.pos,hl]
  rfl
end
def blkC (N:List Str) (sc scope:Scope) (own:List (Str×Nat)):Bool :=
  (match scope.kind with | .function=>true | _=>false) && (scope.names.all fun y=>decide (scope.names.lookup y.1=some y.2)) && (own.all fun p=>decide (N[p.2]?=some p.1)) &&
    (scope.names.all fun y=>match y.2 with
      | .free=>(match sc.names.lookup y.1 with | some .cell=>true | some .free=>true | _=>false)
      | .local=>decide (y.1∈own.map (·.1)) || decide (y.1 ∉ N)
      | .cell=>decide (y.1∈own.map (·.1)) || decide (y.1 ∉ N)
      | _=>true)
theorem blkOk_by {N:List Str} {sc scope:Scope} {own:List (Str×Nat)} (h:blkC N sc scope own=true):BlkOk N sc scope own:=by
  unfold blkC at h
  simp only [Bool.and_eq_true,List.all_eq_true,decide_eq_true_eq] at h
  obtain ⟨⟨⟨h1,h2⟩,h3⟩,h4⟩:=h
  refine ⟨?_,h2,h3,fun y hy e=>?_,fun y hy e=>?_⟩
  · split at h1
    · assumption
    · cases h1
  · have q:=h4 y hy
    simp only [e] at q
    split at q <;> first | exact .inl (by assumption) | exact .inr (by assumption) | cases q
  · have q:=h4 y hy
    rcases e with e | e <;> (simp only [e,Bool.or_eq_true,decide_eq_true_eq] at q; exact q)
end L2
namespace L2
open PySem PySem.Spec PyProof.Rows
section
variable {prog:Program} {w:World} {A:Around} {R:Result→Shared→Prop} {s:Shared} {elt t0 i0 t1 i1:Expr} {ifs0 ifs1:List Expr} {scope:Scope} {pos:Pos} {it acc:Value} {env:Env}
end
section
variable {X:Cx}
end
end L2
namespace L2
open PySem PySem.Spec PyProof.Rows
section
variable {κ:Type} [DecidableEq κ]
end
section
variable {P:Program} {w:World} {H:Hp} {h:Heap} {a:Addr}
end
section
variable {X:Cx} {pins:List (Addr×Obj)} {σ:St} {H:Hp} {s:Shared} {a:Addr} {y v:V} {u r:Value} {o:Option V} {A:Around} {E:Value→Shared→Prop}
end
section
variable {X:Cx} {pins:List (Addr×Obj)} {σ:St} {H:Hp} {s:Shared} {a:Addr} {kvs:List (Key×V)} {k:Key} {u:Value} {A:Around} {E:Value→Shared→Prop}
end
section
variable {X:Cx} {o i e value:Expr} {pos pos' tpos:Pos} {td ty tv:TE}
end
section
variable {X:Cx} {pos:Pos}
end
section
variable {X:Cx} {pins:List (Addr×Obj)} {σ:St} {H:Hp} {s:Shared} {a:Addr} {y d:V} {u r:Value} {o:Option V} {A:Around} {E:Value→Shared→Prop}
end
section
variable {X:Cx} {o e f:Expr} {apos cpos:Pos} {td ty tx:TE}
end
section
variable {X:Cx} {pins:List (Addr×Obj)} {σ:St} {H:Hp} {s:Shared} {a:Addr} {kvs:List (Key×V)} {A:Around} {E:Value→Shared→Prop}
end
section
variable {X:Cx} {pins:List (Addr×Obj)} {σ:St} {H:Hp} {s:Shared} {a:Addr} {y:V} {u:Value} {A:Around} {E:Value→Shared→Prop}
end
end L2
namespace L2
open PySem PySem.Spec PyProof.Rows
section
variable {prog:Program} {w:World} {A:Around} {E:Value→Shared→Prop}
end
section
variable {X:Cx}
end
end L2
namespace L2
open PySem PySem.Spec PyProof.Rows
section
variable {X:Cx} {pins:List (Addr×Obj)} {σ:St} {H:Hp} {s:Shared} {h':Heap}
theorem Inv.turnedNew {t':Nat} {ch:List Addr} {T:Addr} {ob:HO} (I:Inv X pins σ H s) (k:∀ b o,b ∉ ch→s.heap.get? b=some o→h'.get? b=some o) (hf:∀ b∈ch,FpOk X pins H b) (hT:s.heap.objs.size≤T)
    (new:ObjOk X.prog X.w (upd H T ob) h' T ob):Inv X pins σ (upd H T ob) { s with heap:=h',toks:=t' }:=by
  have hn:H T=none:=I.hok.fresh hT
  have nit:∀ b u,H b=some u→b ∉ ch:=fun b u e z=>by
    have q:=(hf b z).1
    rw [q] at e; cases e
  refine I.step (g':=s.gens) (d':=s.drawn) (ch:=ch) (fun b hb=>⟨(hf b hb).2.2.2.1,(hf b hb).2.1,(hf b hb).2.2.2.2.1,(hf b hb).2.2.2.2.2⟩) (fun b o _ _ hc e _=>k b o hc e) (fun b o _ _ hc e _=>⟨o.slots,k b o hc e⟩)
    (fun b o _ e n=>?_) (fun b o hc e=>⟨o,k b o hc e⟩) (fun b xs e=>?_) (fun b o u e=>?_) (fun b ps e=>⟨#[],?_⟩) (fun m hm=>?_) (fun b u e=>?_) I.bare
  · rw [upd_ne (Nat.ne_of_lt (Nat.lt_of_lt_of_le (Heap.lt_size e) hT))]; exact n
  · rw [upd_ne (ne_of_none e hn)]; exact e
  · rw [upd_ne (ne_of_none e hn)]; exact e
  · rw [upd_ne (ne_of_none e hn),e]; simp
  · obtain ⟨o,es,ep,ho,r⟩:=hm
    exact ⟨o,es,ep,k _ o (fun z=>(hf _ z).2.1 rfl) ho,r⟩
  · by_cases hb:b=T
    · subst hb
      rw [upd_same] at e
      cases e
      exact new
    · rw [upd_ne hb] at e
      refine (I.hok b u e).stay (fun c v hc q=>k c v ?_ q) (fun c q=>by rw [upd_ne (ne_of_none q hn)]; exact q) fun c xs q=>by rw [upd_ne (ne_of_none q hn)]; exact q
      rcases hc with z | z
      · rw [z]; exact nit b u e
      · exact nit c _ z
end
section
variable {X:Cx}
theorem pi_one {tg:Expr} {pins:List (Addr×Obj)} {σ:St} {H:Hp} {s:Shared} {R:It→Hp→Prop} {J:It} {tn:Nat→Heap→Prop} {tk:Nat} (I:Inv X pins σ H s) (o:Obj)
    (T:Turn X.prog X.w X.K tg J [s.heap.objs.size] s.heap.objs.size tn) (st:tn 0 (s.heap.push o)) (q:R J H):PIE X pins σ tg R (.ref s.heap.objs.size) { s with heap:=s.heap.push o,toks:=tk }:=by
  refine ⟨s.heap.objs.size,[s.heap.objs.size],tn,J,H,rfl,I.kept fun b ob e=>Heap.get?_push_of_some _ e,T,st,fun b hb=>?_,q⟩
  have e:b=s.heap.objs.size:=by simpa using hb
  subst e
  exact I.fpOk (Nat.le_refl _) (I.hok.fresh (Nat.le_refl _))
end
section
variable {X:Cx} {tg:Expr}
end
section
variable {X:Cx} {tg:Expr}
end
def Its (x:Str):It:=⟨fun i _=>i < x.cps.size,fun i H v H'=>H'=H∧∃ c,x.cps[i]?=some c∧v=.str ⟨#[c]⟩,fun i _=>x.cps.size≤i⟩
theorem turn_str {P:Program} {w:World} {K:PySem.W.Frag} {tg:Expr} (it:Addr) (x:Str) (t:Tok) (ty:String) (hty:ty="str_ascii_iterator"∨ty="str_iterator") :
    Turn P w K tg (Its x) [it] it (fun i h=>h.IsStrIter it ty x t i) where
  mem:=by simp
  obj:=fun i h st b hb=>by
    have e:b=it:=by simpa using hb
    subst e
    obtain ⟨o,e,c,d⟩:=st
    exact ⟨o,e,fun v z=>by rw [d] at z; cases z⟩
  keep:=fun i h h' st k=>let ⟨o,ho,r⟩:=st; ⟨o,k it (by simp) o ho,r⟩
  item:=by
    intro X hP hw hK hc i pins s σ H E I hf st hg
    subst hP hw hK
    obtain ⟨f0,f1,f2,f3,f4,f5⟩:=hf it (by simp)
    have W:Walks X.prog X.w X.A it [it] [it] x.cps.size (SignAt x) (fun i h=>h.IsStrIter it ty x t i):=by
      rcases hty with e | e
      · rw [e]; exact Walks.strAscii (I.ok.hd hc) it x t
      · rw [e]; exact Walks.strWide (I.ok.hd hc) it x t
    have hno:["enumerate","zip","dict_itemiterator","dict_reverseitemiterator","odict_iterator","itertools.zip_longest","itertools.pairwise"].contains ty=false:=by
      rcases hty with e | e
      · rw [e]; decide
      · rw [e]; decide
    refine W.item i s _ _ hg st fun v h' tk hv st' kk=>?_
    obtain ⟨c,u,hcx,rfl⟩:=hv
    have I1:Inv X pins σ H { s with heap:=h',toks:=tk }:=I.turned (fun b o hb e=>kk b o (by simpa using hb) e) f0 f1 f3 f4 f5
    obtain ⟨oi,e,cc,dd⟩:=id st'
    exact ⟨_,rfl,go_of (s:={ s with heap:=h',toks:=tk }) e cc dd hno ⟨.str ⟨#[c]⟩,H,I1,⟨u,rfl⟩,⟨rfl,c,hcx,rfl⟩,st',fun b hb=>(hf b hb).1⟩⟩
  done:=by
    intro X hP hw hK hc i pins s σ H E I hf st hg
    subst hP hw hK
    obtain ⟨f0,f1,f2,f3,f4,f5⟩:=hf it (by simp)
    have hx:x.cps[i]?=none:=Array.getElem?_eq_none hg
    rcases hty with e | e
    · rw [e] at st
      exact wpAny_pyNext_ascii_end (I.ok.hd hc) st hx fun h' eb=>⟨rfl,I.turned (t':=s.toks) (fun b o hb e=>eb b o hb e) f0 f1 f3 f4 f5⟩
    · rw [e] at st
      exact wpAny_pyNext_wide_end (I.ok.hd hc) st hx fun h' eb=>⟨rfl,I.turned (t':=s.toks) (fun b o hb e=>eb b o hb e) f0 f1 f3 f4 f5⟩
  self:=fun A i s Q E st h=>by
    rcases hty with e | e
    · rw [e] at st; exact wpAny_pyIter_striter_ascii st h
    · rw [e] at st; exact wpAny_pyIter_striter_wide st h
def iStr (te:TE):TI:=fun σ H R=>te σ H fun v H1=>∃ x,v=.str x∧R (Its x) H1
theorem pi_str {X:Cx} {tg e:Expr} {te:TE} (he:PE X e te):PI X tg e (iStr te):=by
  intro pins s σ H R I h
  refine thn (he pins s σ H _ I h) fun v s1 ⟨y,H1,I1,r1,x,ex,q⟩=>?_
  subst ex
  obtain ⟨t,rfl⟩:=r1
  cases ha:x.cps.all (· < 128)
  · exact wpAny_pyIter_wide ha (pi_one (tk:=s1.toks) I1 _ (turn_str _ x t "str_iterator" (.inr rfl)) ⟨_,Heap.get?_push_size _ rfl,rfl,rfl⟩ q)
  · exact wpAny_pyIter_ascii ha (pi_one (tk:=s1.toks) I1 _ (turn_str _ x t "str_ascii_iterator" (.inl rfl)) ⟨_,Heap.get?_push_size _ rfl,rfl,rfl⟩ q)
section
variable {prog:Program} {w:World} {A:Around} {E:Value→Shared→Prop} {s:Shared}
end
section
variable {X:Cx} {pins:List (Addr×Obj)} {σ:St} {H:Hp} {s:Shared} {d:Addr} {o:Obj}
end
section
variable {P:Program} {w:World} {K:PySem.W.Frag} {tg:Expr} {d:Addr} {o:Obj} {es:Array DictEntry} {ep:Nat}
end
section
variable {X:Cx} {tg e:Expr} {td:TE} {apos cpos:Pos}
end
def Ite (K:PySem.W.Frag) (a:Addr):It :=
  ⟨fun i H=>∃ (xs:List V) (x:V),SqL K H a xs∧xs[i]?=some x,fun i H v H'=>∃ T x,v=.ref T∧H T=none∧H'=upd H T (.tup [.int (i:Nat),x])∧∀ xs,SqL K H a xs→xs[i]?=some x,fun i H=>∃ xs:List V,SqL K H a xs∧xs.length≤i⟩
theorem turn_enum {P:Program} {w:World} {K:PySem.W.Frag} {elts:List Expr} {kk:Nat} {tpos:Pos} (a e it:Addr) :
    Turn P w K (.Tuple elts kk tpos) (Ite K a) [e,it] e (fun i h=>(∃ old,IsEnum h e it ((i:Nat):Int) old)∧h.IsListIter it a i∧e≠it) where
  mem:=by simp
  obj:=fun i h st b hb=>by
    obtain ⟨⟨old,he⟩,⟨o,ho,hc,hd⟩,_⟩:=st
    have e':b=e∨b=it:=by simpa using hb
    rcases e' with z | z
    · rw [z]; exact ⟨_,he,fun v q=>nomatch q⟩
    · rw [z]; exact ⟨o,ho,fun v q=>by rw [hd] at q; cases q⟩
  keep:=fun i h h' st k=>let ⟨⟨old,he⟩,hi,hne⟩:=st; ⟨⟨old,k e (by simp) _ he⟩,hi.at fun o q=>k it (by simp) o q,hne⟩
  item:=by
    intro X hP hw hK hc i pins s σ H E I hf st hg
    subst hP hw hK
    obtain ⟨⟨old,he⟩,hit,hne⟩:=st
    obtain ⟨xs,x,hq,hx⟩:=hg
    obtain ⟨its,rv,p,hz⟩:=I.list hq
    obtain ⟨u,hu,ru⟩:=rv.get hx
    have hel:e < s.heap.objs.size:=Heap.lt_size he
    have hil:it < s.heap.objs.size:=by obtain ⟨_,q,_⟩:=hit; exact Heap.lt_size q
    refine wpAny_pyNext_enum_item he hit p.isList (x:=u) (by simpa using hu) hne fun h' ho hit' hT hsz hk=>?_
    refine ⟨_,rfl,wpAny_letOwnedTupleGo_enum (s:={ s with heap:=h',toks:=s.toks+1 }) ho fun h'' he' sb=>?_⟩
    have hT2:h''.get? s.heap.objs.size=some { cls:=.type "tuple",data:=.seq #[.int i s.toks,u] }:=(sb.2 _ (Nat.ne_of_gt hel)).trans hT
    have new:ObjOk X.prog X.w (upd H s.heap.objs.size (.tup [.int (i:Nat),x])) h'' s.heap.objs.size (.tup [.int (i:Nat),x]) :=
      ⟨by show 2≤sizeLine; decide,[.int i s.toks,u],.cons ⟨_,rfl⟩ (.cons ru .nil),⟨_,hT2,rfl,_,rfl⟩⟩
    have I1:Inv X pins σ (upd H s.heap.objs.size (.tup [.int (i:Nat),x])) { s with heap:=h'',toks:=s.toks+1 } :=
      I.turnedNew (ch:=[e,it]) (fun b ob hb q=>(sb.2 b (fun z=>hb (by simp [z]))).trans (hk b ob (fun z=>hb (by simp [z])) (fun z=>hb (by simp [z])) q)) hf (Nat.le_refl _) new
    refine ⟨.ref s.heap.objs.size,_,I1,rfl,⟨_,x,rfl,I.hok.fresh (Nat.le_refl _),rfl,fun ys hy=>by rw [I.list_inj hy hq]; exact hx⟩,⟨⟨u,?_⟩,hit'.at fun o q=>(sb.2 it (Ne.symm hne)).trans q,hne⟩,fun b hb=>?_⟩
    · have e1:((i+1:Nat):Int)=(i:Int)+1:=by omega
      rw [e1]; exact he'
    · have hb':b < s.heap.objs.size:=by
        have e':b=e∨b=it:=by simpa using hb
        rcases e' with z | z
        · rw [z]; exact hel
        · rw [z]; exact hil
      rw [upd_ne (Nat.ne_of_lt hb')]
      exact (hf b hb).1
  done:=by
    intro X hP hw hK hc i pins s σ H E I hf st hg
    subst hP hw hK
    obtain ⟨⟨old,he⟩,hit,hne⟩:=st
    obtain ⟨xs,hq,hx⟩:=hg
    obtain ⟨its,rv,p,hz⟩:=I.list hq
    obtain ⟨f0,f1,f2,f3,f4,f5⟩:=hf it (by simp)
    have hl:=rv.length
    exact wpAny_pyNext_enum_end (I.ok.hd hc) he hit p.isList (by simp; omega) fun h' eb=>⟨rfl,I.turned (t':=s.toks) (fun b o hb q=>eb b o hb q) f0 f1 f3 f4 f5⟩
  self:=fun A i s Q E st h=>let ⟨⟨_,he⟩,_⟩:=st; wpAny_pyIter_enum he h
def iEnum (K:PySem.W.Frag) (ta:TA):TI:=fun σ H R=>ta σ H fun vs H1=>∃ a xs,vs=[.ref a]∧SqL K H1 a xs∧R (Ite K a) H1
theorem pi_enum {X:Cx} {e:Expr} {ta:TA} {p pos tpos:Pos} {elts:List Expr} {kk:Nat} (hg:Gl X "enumerate") (hm:X.mg "enumerate"=none) (ha:PA X [e] ta) (hs:starEach [e] X.env=[(false,eval e X.env)]:=by rfl) :
    PI X (.Tuple elts kk tpos) (.Call (.Name "enumerate" p) [e] [] pos) (iEnum X.K ta):=by
  intro pins s σ H R I h
  refine Call_ (ld_blt I hg hm boot_enumerate (PyProof.Rows.callWith_type1 (thn (ha pos pins s σ H _ I h) fun us s1 ⟨vs,H1,I1,r1,q1⟩=>?_) hs rfl))
  obtain ⟨a,xs,ex,hq,q⟩:=q1
  subst ex
  cases r1 with
  | cons r rr =>
    cases rr
    cases r
    obtain ⟨its,rv,p',hz⟩:=I1.list hq
    refine call_enumerate_list p'.isList fun h' he hit hsz hk=>wpAny_pyIter_enum he ?_
    have I2:Inv X pins σ H1 { s1 with heap:=h' }:=I1.kept (t':=s1.toks) hk
    refine ⟨s1.heap.objs.size+1,[s1.heap.objs.size+1,s1.heap.objs.size],_,_,H1,rfl,I2,turn_enum a (s1.heap.objs.size+1) s1.heap.objs.size,⟨⟨.none,he⟩,hit,Nat.succ_ne_self _⟩,fun b hb=>?_,q⟩
    have e':b=s1.heap.objs.size+1∨b=s1.heap.objs.size:=by simpa using hb
    have hle:s1.heap.objs.size≤b:=by
      rcases e' with z | z
      · rw [z]; exact Nat.le_add_right _ _
      · rw [z]; exact Nat.le_refl _
    exact I1.fpOk hle (I1.hok.fresh hle)
end L2
section
namespace Bits
open PySem PyProof.Rows
end Bits
end
section
namespace TL
open PySem PySem.Builtin PySem.Builtin.Str PySem.StrLaws
abbrev tl (x:Str):List Nat:=x.cps.toList
theorem len_tl (x:Str):x.length=(tl x).length:=by simp [tl,Str.length]
theorem tl_append (x y:Str):tl (x++y)=tl x++tl y:=by
  show (x++y).cps.toList=_
  rw [Str.cps_append,Array.toList_append]
theorem tl_ofString (s:String):tl (Str.ofString s)=s.toList.map Char.toNat:=PyProof.Rows.signs_ofString s
end TL
end
namespace L2
open PySem PySem.Spec PyProof.Rows
section
variable {X:Cx} {pins:List (Addr×Obj)} {σ:St} {H:Hp} {s:Shared} {Q:VK}
end
section
variable {X:Cx}
end
section
variable {X:Cx} {o e:Expr} {to te:TE}
end
end L2
namespace L2
open PySem PySem.Spec PyProof.Rows
section
variable {X:Cx}
end
end L2
namespace Att
open PySem PySem.W PySem.Calls PyProof.Rows
theorem ints_of_wellAll {P:Params} {h:Heap}:∀ (ns:List Int) (vs:List Value),WellAll P h vs (ns.map WData.int)→IntsAre vs ns:=by
  intro ns
  induction ns with
  | nil =>
    intro vs w
    rw [List.map_nil] at w
    cases w
    exact .nil
  | cons n ns ih =>
    intro vs w
    rw [List.map_cons] at w
    cases w with
    | cons a b =>
      cases a
      exact .cons _ _ (ih _ b)
section
variable {prog:Program} {w:World} {A:Around} {E:Value→Shared→Prop} {s:Shared} {K:Frag}
end
end Att
namespace L2
open PySem PySem.Spec PyProof.Rows
theorem vals_ints:∀ {vs:List Value} {ns:List Int},IntsAre vs ns→Vals (ns.map V.int) vs
  | _,_,.nil=>.nil
  | _,_,.cons n t h=>.cons ⟨t,rfl⟩ (vals_ints h)
def Only (H:Hp):Prop:=∀ b,H b=none∨∃ o xs,H b=some (.frz o (.lst xs))
end L2
namespace L2
open PySem PySem.Spec PyProof.Rows
end L2
namespace L2
open PySem PySem.Spec PyProof.Rows
def inClass (s:Stmt) (j:Nat):Stmt:=match s with
  | .ClassDef _ _ _ body _ _ _ _ _ _ _=>body.getD j (.Pass ⟨0,0,0,0⟩)
  | _=>.Pass ⟨0,0,0,0⟩
def defArgs (s:Stmt):Arguments:=match s with
  | .FunctionDef _ a _ _ _ _ _ _ _ _=>a
  | _=>{ posonlyargs:=[],args:=[],vararg:=none,kwonlyargs:=[],kw_defaults:=[],kwarg:=none,defaults:=[] }
def defBody (s:Stmt):List Stmt:=match s with
  | .FunctionDef _ _ b _ _ _ _ _ _ _=>b
  | _=>[]
def defScope (s:Stmt):Scope:=match s with
  | .FunctionDef _ _ _ _ _ _ sc _ _ _=>sc
  | _=>{ kind:=.function,names:=[],isGenerator:=false,isCoroutine:=false }
abbrev CX0:CXT:=fun _ _ _ _ _ _=>False
abbrev E0:XK:=fun _ _ _=>False
theorem pass0 {X:Cx}:Passes CX0 X E0:=fun _ _ _ _ _ _ _ h=>h.elim
structure Fun (K:PySem.W.Frag) (x qual:Str) (st:Stmt) (f:Addr) (fd:FuncData):Prop where
  ex:∃ (oc:Value) (od:Option Addr) (kV doc pm:Value) (an:Option Addr) (cdv ct:Value) (osl:Array (Option Value)),
    fd=PySem.W.fnOf x qual (defArgs st) (defBody st) (defScope st) .none kV doc pm an cdv ct∧K.lookup f=some ⟨oc,od,.func fd,osl⟩∧PySem.W.codeIn K cdv qual=true
  kp:PySem.W.keepIn K (.ref f)=true
section
variable {P:Program} {w:World} {K:PySem.W.Frag} {mg:Str→Option Value} {base:Heap}
theorem Fun.ok {x qual:Str} {st:Stmt} {f:Addr} {fd:FuncData} {N ps:List Str} {k:Nat} {sp:Sp} (F:Fun K x qual st f fd) (S:FnScope N ps (defScope st)) (len:∀ vs H Q E,sp vs H Q E→vs.length=ps.length)
    (hbody:∀ (cdv:Value) (A:Around) (outer:List Env) (s:Shared) (H:Hp) (vs:List V) (Q:VK) (E:XK),Room k (A.deeper (envOfC qual (defScope st) s.heap.objs.size f cdv))→sp vs H Q E →
      ∃ t,PSs (cxOf CX0 P w K mg base N qual (defScope st) f cdv A outer s H E).nox (defBody st) t∧t { nx:=fun _ H'=>Q .non H',rt:=Q } (start N vs) H):FnOk P w K mg base CX0 (k+1) f fd ps sp:=by
  obtain ⟨oc,od,kV,doc,pm,an,cdv,ct,osl,rfl,lk,hcd⟩:=F.ex
  refine fn_of lk hcd S len fun A outer s H vs Q E hr hsp=>?_
  obtain ⟨t,h,q⟩:=hbody cdv A outer s H vs Q E hr hsp
  exact ⟨t,h.nox,q⟩
theorem Fun.binds {x qual:Str} {st:Stmt} {f:Addr} {fd:FuncData} {ps:List Str} (F:Fun K x qual st f fd)
    (h:∀ (kV doc pm:Value) (an:Option Addr) (cdv ct:Value) (us:List Value),us.length=ps.length→bindArgs (PySem.W.fnOf x qual (defArgs st) (defBody st) (defScope st) .none kV doc pm an cdv ct) ⟨us,[]⟩=pure (ps.zip us)):Binds K fd ps []:=by
  obtain ⟨oc,od,kV,doc,pm,an,cdv,ct,osl,rfl,lk,hcd⟩:=F.ex
  exact .all (h kV doc pm an cdv ct)
theorem fun_mk {x qual:Str} {st:Stmt} {f:Addr} {oc:Value} {od an:Option Addr} {osl:Array (Option Value)} {kV doc pm cdv ct:Value} (l:K.lookup f=some ⟨oc,od,.func (PySem.W.fnOf x qual (defArgs st) (defBody st) (defScope st) .none kV doc pm an cdv ct),osl⟩)
    (c:PySem.W.codeIn K cdv qual=true) (k:PySem.W.keepIn K (.ref f)=true):Fun K x qual st f (PySem.W.fnOf x qual (defArgs st) (defBody st) (defScope st) .none kV doc pm an cdv ct):=⟨⟨oc,od,kV,doc,pm,an,cdv,ct,osl,rfl,l,c⟩,k⟩
end
section
variable {X:Cx}
theorem pv (i:Nat) {x:Str} {pos:Pos} (hN:X.N[i]?=some x:=by rfl) (hv:Vis X.env.scope x:=by first | exact Or.inl rfl | exact Or.inr (Or.inl rfl) | exact Or.inr (Or.inr rfl)) (hd:(x == ("__debug__":Str))=false:=by decide)
    (hcd:(x == ("__classdict__":Str))=false:=by decide):PE X (.Name x pos) (tVar i):=pe_var hN hv hd hcd
end
theorem iteF {A B:Prop} (h:B):if false=true then A else B:=by
  rw [if_neg Bool.false_ne_true]
  exact h
theorem iteT {A B:Prop} (h:A):if true=true then A else B:=by
  rw [if_pos rfl]
  exact h
theorem ite2 {c A B:Prop} [Decidable c] (h1:c→A) (h2:¬ c→B):if c then A else B:=by
  by_cases h:c
  · rw [if_pos h]
    exact h1 h
  · rw [if_neg h]
    exact h2 h
def Same (H H':Hp):Prop:=∀ b o,H b=some o→H' b=some o
theorem Same.refl (H:Hp):Same H H:=fun _ _ h=>h
theorem Same.trans {H H1 H2:Hp} (a:Same H H1) (b:Same H1 H2):Same H H2:=fun c o h=>b c o (a c o h)
theorem Same.free {H H':Hp} (e:Same H H') {l:Addr} (h:H' l=Option.none):H l=Option.none:=by
  cases q:H l with
  | none=>rfl
  | some o =>
    rw [e l o q] at h
    cases h
theorem Same.seq {K:PySem.W.Frag} {H H':Hp} {a:Addr} {xs:List V} (e:Same H H') (h:SqL K H a xs):SqL K H' a xs:=by
  rcases h with (h | ⟨o,h⟩) | h
  · exact .inl (.inl (e _ _ h))
  · exact .inl (.inr ⟨o,e _ _ h⟩)
  · exact .inr h
section
variable {κ:Type} [DecidableEq κ]
end
theorem at_of {xs:List V} {z:Int} {j:Nat} {v:V} (e:z=(j:Int)) (h:xs[j]?=some v):atI xs z=some v:=by
  rw [e]
  exact atI_nat h
theorem Same.made {H H1:Hp} {x dx C:Addr} (nx:H x=Option.none) (nd:H dx=Option.none) (k:∀ b o,(upd (upd H dx (.own x)) x (.ins C dx [])) b=some o→b≠x→H1 b=some o):Same H H1:=fun b o e =>
  k b o (by rw [upd_ne (ne_of_none e nx),upd_ne (ne_of_none e nd)]; exact e) (ne_of_none e nx)
end L2

namespace L2
open PySem PySem.Spec PyProof.Rows
section
variable {M:Model} {A:Around} {E:Value→Shared→Prop} {s:Shared}
theorem noteFrame_any {base:Heap} {env env':Env} {outer:List Env} {L e:Addr} {cls a0 fl:Value} {Q:Unit→Shared→Prop}
    (hfr:A.frames=some (env::outer)) (hl:s.heap.FunFrames base (env::outer)) (hf:env.frame=some L) (hf':env'.frame=env.frame) (ht:s.heap.TracedAtW base e cls a0 fl) (hkb:base.StaysIn s.heap) (hen:base.get? e=none)
    (h:∀ h',Heap.NotedW base (env::outer) e cls a0 (rawInt L) s.heap h'→Q () { s with heap:=h' }):wpAny M A (noteFrame (.ref e) env') Q E s:=by
  have e0:noteFrame (.ref e) env'=noteFrame (.ref e) env:=by
    unfold noteFrame PySem.frameOf
    rw [hf']
  rw [e0]
  by_cases hq:(fl == rawInt L)=true
  · have hq':fl=rawInt L:=beq_iff_eq.mp hq
    subst hq'
    exact wpAny_noteFrame_againW hf ht (h s.heap ⟨hkb,hl,ht,fun b o hb _=>⟨o.slots,hb⟩⟩)
  · obtain ⟨oe,vs,T,oT,ts,he,⟨hcls,h0⟩,hd,h1,hnT,hTe,hT,hdT,h3⟩:=ht
    subst hcls
    unfold noteFrame
    simp only [hf]
    refine wpAny_bind (wpAny_field he hd h1 ?_)
    rw [if_pos (show (Value.ref T != Value.none)=true from by simp)]
    refine wpAny_bind (wpAny_field hT hdT h3 ?_)
    rw [if_neg hq]
    refine wpAny_bind (wpAny_setField hT hdT (Array.getElem?_eq_some_iff.mp h3).1 ?_)
    have other:∀ b,b≠T→(s.heap.update T (Obj.mapFields (·.setIfInBounds 3 Value.none))).get? b=s.heap.get? b:=fun b hb=>Heap.get?_update_other _ _ (Ne.symm hb)
    have noRecord:∀ b o,s.heap.get? b=some o→(∀ vs,o.data≠.fields vs)→b≠T:=fun b o hb hnf q=>by
      rw [q,hT] at hb; injection hb with hb; subst hb; exact hnf ts hdT
    refine wpAny_entryW hfr (hl.of_keeps fun b o hb hnf=>⟨o,(other b (noRecord b o hb hnf)).trans hb,rfl⟩) hf ((other e (Ne.symm hTe)).trans he)
      (fun b o hbo=>(other b fun q=>by rw [q,hnT] at hbo; cases hbo).trans (hkb b o hbo)) hen hd (Array.getElem?_eq_some_iff.mp h1).1 h0
      fun h' ⟨x1,x2,x3,x4⟩=>h h' ⟨x1,x2,x3,fun b o hb hnf=>x4 b o ((other b (noRecord b o hb hnf)).trans hb) hnf⟩
theorem setFlight_any {base:Heap} {l:List Env} {e:Addr} {cls a0 fl:Value} {fr:Option Addr} {Q:Unit→Shared→Prop}
    (hkb:base.StaysIn s.heap) (hl:s.heap.FunFrames base l) (ht:s.heap.TracedAtW base e cls a0 fl)
    (h:∀ h' fl',base.StaysIn h'→h'.FunFrames base l→h'.TracedAtW base e cls a0 fl'→(∀ b o,s.heap.get? b=some o→(∀ vs,o.data≠.fields vs)→h'.get? b=some o)→Q () { s with heap:=h' }) :
    wpAny M A (setFlight (.ref e) fr) Q E s:=by
  obtain ⟨oe,vs,T,oT,ts,he,hcls,hd,h1,hnT,hTe,hT,hdT,h3⟩:=ht
  have hsz3:3 < ts.size:=(Array.getElem?_eq_some_iff.mp h3).1
  have other:∀ b,b≠T→(s.heap.update T (Obj.mapFields (·.setIfInBounds 3 (fr.elim Value.none fun f=>rawInt f)))).get? b=s.heap.get? b :=
    fun b hb=>Heap.get?_update_other _ _ (Ne.symm hb)
  have noRecord:∀ b o,s.heap.get? b=some o→(∀ vs,o.data≠.fields vs)→b≠T:=fun b o hb hnf q=>by
    rw [q,hT] at hb; injection hb with hb; subst hb; exact hnf ts hdT
  unfold setFlight
  refine wpAny_bind (wpAny_field he hd h1 ?_)
  rw [if_pos (show (Value.ref T != Value.none)=true from by simp)]
  refine wpAny_setField hT hdT hsz3 (h _ (fr.elim Value.none fun f=>rawInt f) (fun b o hbo=>(other b fun q=>by rw [q,hnT] at hbo; cases hbo).trans (hkb b o hbo))
    (hl.of_keeps fun b o hb hnf=>⟨o,(other b (noRecord b o hb hnf)).trans hb,rfl⟩) ?_ fun b o hb hnf=>(other b (noRecord b o hb hnf)).trans hb)
  exact ⟨oe,vs,T,_,_,(other e (Ne.symm hTe)).trans he,hcls,hd,h1,hnT,hTe,Heap.get?_update_self _ hT (Obj.isFreed_of_fields (Obj.data_mapFields hdT _)),Obj.data_mapFields hdT _,by simp [hsz3]⟩
end
structure Flew (P:Program) (w:World) (fs:List Addr) (stack:List Env) (H H':Hp) (h h':Heap) (a C:Addr):Prop where
  ex:∃ (B:Heap) (a0 fl:Value),B.StaysIn h'∧B.get? a=none∧h'.FunFrames B stack∧h'.TracedAtW B a (.ref C) a0 fl∧HOk P w H' B ∧
    (∀ b o,h.get? b=some o→H b=none→b ∉ fs→B.get? b=some o)∧(∀ b o,h.get? b=some o→b ∉ fs→∃ o',B.get? b=some o')
  slot:∀ b o,h.get? b=some o→H b=none→b∈fs→(∀ vs,o.data≠.fields vs)∧∃ sl,h'.get? b=some { o with slots:=sl }
  free:∀ b o,h.get? b=some o→H b=none→H' b=none
  tups:∀ b xs,H b=some (.tup xs)→H' b=some (.tup xs)
  frzs:∀ b o u,H b=some (.frz o u)→H' b=some (.frz o u)
  tbls:∀ b ps,H b=some (.tbl ps)→∃ more,H' b=some (.tbl (ps++more))
section
variable {P:Program} {w:World} {fs:List Addr} {stack:List Env} {H H':Hp} {h h' h'':Heap} {a C:Addr}
theorem Flew.un (x:Flew P w fs stack H H' h h' a C) (hfs:∀ b∈fs,H b=none):Un fs [] H H' h h':=by
  obtain ⟨B,a0,fl,b1,b2,b3,b4,b5,b6,b7⟩:=x.ex
  refine ⟨fun b o e n m _=>b1 b o (b6 b o e n m),fun b o e n m _=>(x.slot b o e n m).2,fun b o e n _=>x.free b o e n,fun b o e _=>?_,x.tups,x.frzs,x.tbls⟩
  by_cases m:b∈fs
  · obtain ⟨_,sl,q⟩:=x.slot b o e (hfs b m) m
    exact ⟨_,q⟩
  · obtain ⟨o',q⟩:=b7 b o e m
    exact ⟨o',b1 b o' q⟩
theorem Flew.hok (x:Flew P w fs stack H H' h h' a C):HOk P w H' h':=by
  obtain ⟨B,a0,fl,b1,b2,b3,b4,b5,b6,b7⟩:=x.ex
  exact b5.kept b1
theorem Flew.there (x:Flew P w fs stack H H' h h' a C):∃ ob,h'.get? a=some ob∧ob.cls=.ref C:=by
  obtain ⟨B,a0,fl,b1,b2,b3,b4,b5,b6,b7⟩:=x.ex
  exact b4.there
theorem Flew.noted {M:Model} {A:Around} {E:Value→Shared→Prop} {s:Shared} {env env':Env} {outer:List Env} {L:Addr} {Q:Unit→Shared→Prop} (x:Flew P w fs (env::outer) H H' h s.heap a C)
    (hfr:A.frames=some (env::outer)) (hf:env.frame=some L) (hf':env'.frame=env.frame) (hQ:∀ h',Flew P w fs (env::outer) H H' h h' a C→Q () { s with heap:=h' }):wpAny M A (noteFrame (.ref a) env') Q E s:=by
  obtain ⟨B,a0,fl,b1,b2,b3,b4,b5,b6,b7⟩:=x.ex
  refine noteFrame_any hfr b3 hf hf' b4 b1 b2 fun h' ⟨x1,x2,x3,x4⟩=>hQ h' ⟨⟨B,a0,_,x1,b2,x2,x3,b5,b6,b7⟩,fun b o e n m=>?_,x.free,x.tups,x.frzs,x.tbls⟩
  obtain ⟨nf,sl,q⟩:=x.slot b o e n m
  obtain ⟨sl',q'⟩:=x4 b _ q nf
  exact ⟨nf,sl',q'⟩
theorem Flew.landed {M:Model} {A:Around} {E:Value→Shared→Prop} {s:Shared} {fr:Option Addr} {Q:Unit→Shared→Prop} (x:Flew P w fs stack H H' h s.heap a C)
    (hQ:∀ h',Flew P w fs stack H H' h h' a C→Q () { s with heap:=h' }):wpAny M A (setFlight (.ref a) fr) Q E s:=by
  obtain ⟨B,a0,fl,b1,b2,b3,b4,b5,b6,b7⟩:=x.ex
  refine setFlight_any b1 b3 b4 fun h' fl' x1 x2 x3 x4=>hQ h' ⟨⟨B,a0,fl',x1,b2,x2,x3,b5,b6,b7⟩,fun b o e n m=>?_,x.free,x.tups,x.frzs,x.tbls⟩
  obtain ⟨nf,sl,q⟩:=x.slot b o e n m
  exact ⟨nf,sl,x4 b _ q nf⟩
theorem Flew.less {env:Env} {outer:List Env} (x:Flew P w fs (env::outer) H H' h h' a C):Flew P w fs outer H H' h h' a C:=by
  obtain ⟨B,a0,fl,b1,b2,⟨_,_,b3⟩,b4,b5,b6,b7⟩:=x.ex
  exact ⟨⟨B,a0,fl,b1,b2,b3,b4,b5,b6,b7⟩,x.slot,x.free,x.tups,x.frzs,x.tbls⟩
end
def CXE (P:Program) (w:World):CXT:=fun outer H s E e s'=>∃ (a C:Addr) (H':Hp),e=.ref a∧s'.os=s.os∧AllBare s'.gens∧Flew P w (frs outer) outer H H' s.heap s'.heap a C∧E (.ref C) none H'
structure Body (X:Cx) (E:XK):Prop where
  xe:X.xe=fun e s'=>wpAny (model X.prog X.w) X.A (leaving X.env e) (fun _ s''=>CXE X.prog X.w X.outer X.H₀ X.s₀ E e s'') (fun e' s''=>CXE X.prog X.w X.outer X.H₀ X.s₀ E e' s'') s'
  ex:X.ex=[]
  stk:X.stack=X.env::X.outer
  fr:X.env.frame=some X.env.locals
section
variable {X:Cx} {E:XK} {pins:List (Addr×Obj)} {σ:St} {H:Hp} {s:Shared}
theorem Body.passes (b:Body X E):PassesOwn (model X.prog X.w) X.A X.env X.xe:=by
  rw [b.xe]
  exact PassesOwn.leaving
theorem Body.leaves (b:Body X E) {H':Hp} {a C:Addr} {s':Shared} (hok:X.Ok) (ho:s'.os=X.s₀.os) (hg:AllBare s'.gens) (x:Flew X.prog X.w X.fs X.stack X.H₀ H' X.s₀.heap s'.heap a C) (hE:E (.ref C) none H'):X.xe (.ref a) s':=by
  rw [b.xe]
  have hfr:X.A.frames=some (X.env::X.outer):=by rw [hok.frames,b.stk]
  rw [b.stk] at x
  show wpAny _ _ (leaving X.env (.ref a)) _ _ s'
  unfold leaving
  refine wpAny_bind (x.noted hfr b.fr rfl fun h1 x1=>?_)
  refine (x1.landed fun h2 x2=>?_)
  exact ⟨a,C,H',rfl,ho,hg,x2.less,hE⟩
theorem Body.local_ (b:Body X E) (I:Inv X pins σ H s) {c:Addr} {o:Obj} (e:X.s₀.heap.get? c=some o) (n:c ∉ X.fs):c ∉ frs X.stack:=fun m=>by
  rcases List.mem_cons.mp (I.stkSub c m) with z | z
  · exact absurd (Nat.lt_of_lt_of_le (Heap.lt_size e) I.ok.above) (by rw [z]; exact Nat.lt_irrefl _)
  · exact n z
theorem Body.on (b:Body X E) (I:Inv X pins σ H s) {H':Hp} {a C:Addr} {s':Shared} (ho:s'.os=s.os) (x:Flew X.prog X.w (frs X.stack) X.stack H H' s.heap s'.heap a C):Flew X.prog X.w X.fs X.stack X.H₀ H' X.s₀.heap s'.heap a C:=by
  have hex:∀ c:Addr,c ∉ X.ex:=fun c m=>by rw [b.ex] at m; cases m
  obtain ⟨B,a0,fl,b1,b2,b3,b4,b5,b6,b7⟩:=x.ex
  refine ⟨⟨B,a0,fl,b1,b2,b3,b4,b5,fun c o e n m=>?_,fun c o e m=>?_⟩,fun c o e n m=>?_,fun c o e n=>?_,fun c xs e=>x.tups c xs (I.base.tups c xs e),fun c o u e=>x.frzs c o u (I.base.frzs c o u e),fun c ps e=>by
    obtain ⟨m1,e1⟩:=I.base.tbls c ps e
    obtain ⟨m2,e2⟩:=x.tbls c _ e1
    exact ⟨m1++m2,by rw [e2,Array.append_assoc]⟩⟩
  · exact b6 c o (I.base.keep c o e n m (hex c)) (I.base.free c o e n (hex c)) (b.local_ I e m)
  · obtain ⟨o1,e1⟩:=I.base.there c o e (hex c)
    exact b7 c o1 e1 (b.local_ I e m)
  · obtain ⟨sl,e1⟩:=I.base.slot c o e n m (hex c)
    have mm:c∈frs X.stack:=by
      rw [b.stk]
      show c∈List.filterMap _ _
      rw [List.filterMap_cons,b.fr]
      exact List.mem_cons_of_mem _ m
    obtain ⟨nf,sl2,e2⟩:=x.slot c _ e1 (I.base.free c o e n (hex c)) mm
    exact ⟨nf,sl2,e2⟩
  · by_cases m:c∈X.fs
    · obtain ⟨sl,e1⟩:=I.base.slot c o e n m (hex c)
      exact x.free c _ e1 (I.base.free c o e n (hex c))
    · exact x.free c o (I.base.keep c o e n m (hex c)) (I.base.free c o e n (hex c))
theorem Body.pass (b:Body X E) {E':XK} (hE:∀ c H,E' c none H→E c none H):Passes (CXE X.prog X.w) X E':=by
  intro pins σ H s e s' I h
  obtain ⟨a,C,H',rfl,ho,hg,x,q⟩:=h
  exact b.leaves I.ok (ho.trans I.os) hg (b.on I ho x) (hE _ _ q)
theorem Body.self (b:Body X E):Passes (CXE X.prog X.w) X E:=b.pass fun _ _ h=>h
theorem Body.made (b:Body X E) (I:Inv X pins σ H s) {h':Heap} {a C:Addr} (hx:Heap.MadeExcOf s.heap h' a (.ref C) []) (hE:E (.ref C) none H):X.xe (.ref a) { s with heap:=h' }:=by
  have hex:∀ c:Addr,c ∉ X.ex:=fun c m=>by rw [b.ex] at m; cases m
  rw [b.xe]
  have hfr:X.A.frames=some (X.env::X.outer):=by rw [I.ok.frames,b.stk]
  have hin:∀ env∈(X.env::X.outer),∀ c,env.frame=some c→c∈frs X.stack:=fun env he c hc=>by
    rw [b.stk]
    exact List.mem_filterMap.mpr ⟨env,he,hc⟩
  have hl:s.heap.FunFrames (PySem.W.hideAll s.heap (frs X.stack)) (X.env::X.outer):=by
    have z:=I.stack
    rw [b.stk] at z
    exact PySem.W.funFrames_hide z hin
  show wpAny _ _ (leaving X.env (.ref a)) _ _ _
  refine wpAny_leaves_madeW (base:=PySem.W.hideAll s.heap (frs X.stack)) hfr b.fr (fun c o q=>PySem.W.of_hideAll _ q) hl hx fun h2 t ⟨f1,f2,f3,f4⟩ x2 x3 x4=>?_
  refine ⟨a,C,H,rfl,I.os,I.bare,⟨⟨_,.ref t,.none,f1,f2,f3,f4.at,?_,fun c o e n m=>?_,fun c o e m=>?_⟩,fun c o e n m=>?_,fun c o e n=>I.base.free c o e n (hex c),fun c xs e=>I.base.tups c xs e,fun c o u e=>I.base.frzs c o u e,fun c ps e=>I.base.tbls c ps e⟩,hE⟩
  · intro c o e
    refine (I.hok c o e).stay (fun d u hd q=>PySem.W.hideAll_get _ q fun m=>?_) (fun _ q=>q) fun _ _ q=>q
    have n:=I.stkFree d m
    rcases hd with hd | hd
    · rw [hd,e] at n
      cases n
    · rw [hd] at n
      cases n
  · exact PySem.W.hideAll_get _ (I.base.keep c o e n m (hex c)) (b.local_ I e m)
  · obtain ⟨o1,e1⟩:=I.base.there c o e (hex c)
    exact ⟨o1,PySem.W.hideAll_get _ e1 (b.local_ I e m)⟩
  · obtain ⟨sl,e1⟩:=I.base.slot c o e n m (hex c)
    have mm:c∈(X.env::X.outer).filterMap (·.frame):=by
      rw [List.filterMap_cons,b.fr]
      exact List.mem_cons_of_mem _ m
    obtain ⟨_,o',ho',nf⟩:=hl.mem mm
    rw [e1] at ho'
    cases ho'
    obtain ⟨sl2,e2⟩:=x4 c _ (hx.keeps _ _ e1) nf
    exact ⟨nf,sl2,e2⟩
end
theorem bodyOf {P:Program} {w:World} {K:PySem.W.Frag} {mg:Str→Option Value} {base:Heap} {N:List Str} {qual:Str} {scope:Scope} {f:Addr} {cd:Value} {A:Around} {outer:List Env} {s:Shared} {H:Hp} {E:XK} :
    Body (cxOf (CXE P w) P w K mg base N qual scope f cd A outer s H E) E:=⟨rfl,rfl,rfl,rfl⟩
end L2

namespace L2
open PySem PySem.Spec PyProof.Rows
def bmE:List Value:=[.type "Exception",.type "BaseException",.type "object"]
def xIn (K:PySem.W.Frag) (C:Addr):Bool:=match K.lookup C with
  | some ⟨.type "type",_,.cls cd,sl⟩=>(match cd.mro,sl.toList with
    | .ref C'::bm,[_,_,_,_,some (.builtin n),_]=>C' == C && n == "Exception.__new__" && !cd.hasDel && bm == bmE && PySem.W.nsOkIn K cd.ns && PySem.W.nsIn K cd.ns "__init__" == some none
    | _,_=>false)
  | _=>false
theorem x_obj {K:PySem.W.Frag} {h:Heap} {C:Addr} (X:K.In h) (q:xIn K C=true):∃ nm qn N bs hdct sn sub ab col dd k0 k1 k2 k3 k5 mN,
    h.get? C=some (excClassObj nm qn C N bs bmE hdct sn sub ab col dd k0 k1 k2 k3 k5 "Exception.__new__")∧h.Ns N mN∧mN "__init__"=none:=by
  unfold xIn at q
  split at q
  · rename_i dd cd sl ho
    split at q
    · rename_i C' bm k0 k1 k2 k3 n k5 hm hs
      simp only [Bool.and_eq_true,beq_iff_eq,Bool.not_eq_true'] at q
      obtain ⟨⟨⟨⟨⟨rfl,rfl⟩,hdel⟩,rfl⟩,hok⟩,hni⟩:=q
      obtain ⟨nm,bs,mro,ns,qn,hd,sn,sub,ab,col,del⟩:=cd
      dsimp only at hm hdel hok hni
      subst hm hdel
      have hsl:sl=#[k0,k1,k2,k3,some (.builtin "Exception.__new__"),k5]:=by
        obtain ⟨l⟩:=sl
        simp only at hs
        rw [hs]
      subst hsl
      exact ⟨nm,qn,ns,bs,hd,sn,sub,ab,col,dd,k0,k1,k2,k3,k5,_,X _ _ ho,.of_isNs (PySem.W.isNs_of_in X hok),PySem.W.nsMap_none_of_in X hok hni⟩
    · cases q
  · cases q
section
variable {M:Model} {A:Around} {E:Value→Shared→Prop}
variable {nm q nm' q':Str} {C N C' N':Addr} {bs bm bs' bm':List Value} {hdct hdct':Bool} {sn sn':List Str} {sub sub':List Value} {ab ab':Bool} {col col':Option Bool} {dd dd':Option Addr} {k0 k1 k2 k3 k5 j0 j1 j2 j3 j5:Option Value} {newId newId':String}
theorem excMatches_two {h:Heap} {g:Array GenState} {d:Drawn} {t:Nat} {os:OsState} {e:Addr} {oe:Obj} {Q:Bool→Shared→Prop}
    (hC:h.get? C=some (excClassObj nm q C N bs bm hdct sn sub ab col dd k0 k1 k2 k3 k5 newId)) (hC':h.get? C'=some (excClassObj nm' q' C' N' bs' bm' hdct' sn' sub' ab' col' dd' j0 j1 j2 j3 j5 newId'))
    (he:h.get? e=some oe) (hcls:oe.cls=.ref C) (hbase:bm'.contains (.type "BaseException")=true) (b:Bool) (hb:(Value.ref C::bm).contains (.ref C')=b)
    (hq:Q b ⟨h,g,d,t,os⟩):wpAny M A (excMatches (.ref e) (.ref C')) Q E ⟨h,g,d,t,os⟩:=by
  have hcB:(Value.ref C'::bm').contains (.type "BaseException")=true:=by rw [List.contains_cons,hbase,Bool.or_true]
  have f:=tc_notTuple
  unfold excMatches
  repeat (first | (with_reducible refine wpAny_loadPart_at he ?_; rw [hcls]) | with_reducible refine wpAny_loadPart_at hC' ?_ | (with_reducible refine wpAny_isSubtype_exc hC' ?_; rw [hcB]) | (with_reducible refine wpAny_isSubtype_exc hC ?_; rw [hb]) | wp_step)
  cases b <;> (wp_walk; exact hq)
end
section
variable {X:Cx} {E:XK}
def tRaise (E:XK) (C:Addr):TS:=fun _ _ H=>E (.ref C) none H
theorem ps_raise {x:Str} {C:Addr} {np cpos pos:Pos} (b:Body X E) (hc:X.calm=true) (hg:Gl X x) (hm:X.mg x=some (.ref C)) (hx:xIn X.K C=true) (hd:(x == ("__debug__":Str))=false:=by decide) :
    PS X (.Raise (some (.Call (.Name x np) [] [] cpos)) none pos) (tRaise E C):=by
  intro pins s σ H D I h
  obtain ⟨nm,qn,N,bs,hdct,sn,sub,ab,col,dd,k0,k1,k2,k3,k5,mN,hC,hN,hni⟩:=x_obj I.kIn hx
  refine wpAny_Raise_call_subU (C:=C) (nm:=nm) (q:=qn) (N:=N) (bs:=bs) (bm:=bmE) (hdct:=hdct) (sn:=sn) (sub:=sub) (ab:=ab) (col:=col) (dd:=dd) (k0:=k0) (k1:=k1) (k2:=k2) (k3:=k3) (k5:=k5)
    (bmB:=bmE) F.excBase_Exception (by decide) F.excBase_Exception (mN:=mN) (by decide) (I.ok.hd hc) rfl hni (ld_glob I hg hm ⟨rfl,?_⟩ hd)
  exact evalArgs_empty ⟨rfl,Nat.zero_le _,hC,hN,.base,fun h' e hm'=>b.made I hm' h⟩
end
abbrev Cx.inExc (X:Cx) (e:Value):Cx:={ X with A:=X.A.mark (some e),calm:=false,xe:=fun _ _=>False }
section
variable {X:Cx} {pins:List (Addr×Obj)} {σ:St} {H:Hp} {s:Shared} {e:Value}
theorem Inv.inExc (I:Inv X pins σ H s) (e:Value):Inv (X.inExc e) pins σ H s :=
  ⟨⟨I.ok.mod,I.ok.kind,I.ok.glob,I.ok.blt,I.ok.above,I.ok.inj,I.ok.has,I.ok.cab,(fun z=>nomatch z),I.ok.frames,I.ok.stk,I.ok.exf,I.ok.bs,I.ok.bsz,I.ok.noex,I.ok.exfs,I.ok.funs,I.ok.frf⟩,I.os,I.bare,I.base,I.loc,I.cell,I.free,I.freeC,I.pin,I.hok,I.len⟩
theorem Inv.outExc (hd:X.calm=true→X.A.handled=none) (I:Inv (X.inExc e) pins σ H s):Inv X pins σ H s :=
  ⟨⟨I.ok.mod,I.ok.kind,I.ok.glob,I.ok.blt,I.ok.above,I.ok.inj,I.ok.has,I.ok.cab,hd,I.ok.frames,I.ok.stk,I.ok.exf,I.ok.bs,I.ok.bsz,I.ok.noex,I.ok.exfs,I.ok.funs,I.ok.frf⟩,I.os,I.bare,I.base,I.loc,I.cell,I.free,I.freeC,I.pin,I.hok,I.len⟩
theorem SP.outExc {D:Ends} {f:Flow} {s':Shared} (hd:X.calm=true→X.A.handled=none) (h:SP (X.inExc e) pins D f s'):SP X pins D f s':=by
  cases f with
  | next=>obtain ⟨σ',H',I,q⟩:=h; exact ⟨σ',H',I.outExc hd,q⟩
  | brk=>obtain ⟨σ',H',I,q⟩:=h; exact ⟨σ',H',I.outExc hd,q⟩
  | cont=>obtain ⟨σ',H',I,q⟩:=h; exact ⟨σ',H',I.outExc hd,q⟩
  | ret u=>obtain ⟨v,σ',H',I,r,q⟩:=h; exact ⟨v,σ',H',I.outExc hd,r,q⟩
end
def PH (X:Cx) (hs:List ExceptHandler) (th:Addr→TS):Prop :=
  ∀ (pins:List (Addr×Obj)) (s1 s:Shared) (σ:St) (H1 H:Hp) (D:Ends) (a C:Addr),Inv X pins σ H1 s1→s.os=s1.os→AllBare s.gens→Flew X.prog X.w (frs X.stack) X.stack H1 H s1.heap s.heap a C→xIn X.K C=true→th C D σ H →
    wpAny (model X.prog X.w) X.A (handleBy (.ref a) X.env hs) (SP X pins D) X.xe s
theorem ph_nil {X:Cx}:PH X [] (fun _=>tNever):=fun _ _ _ _ _ _ _ _ _ _ _ _ _ _ h=>h.elim
theorem flew_inv {X:Cx} {pins:List (Addr×Obj)} {σ:St} {H1 H:Hp} {s1 s:Shared} {a C:Addr} (I1:Inv X pins σ H1 s1) (ho:s.os=s1.os) (hg:AllBare s.gens) (x:Flew X.prog X.w (frs X.stack) X.stack H1 H s1.heap s.heap a C):Inv X pins σ H s :=
  I1.call' (ch:=[]) ho (x.un I1.stkFree) x.hok hg fun b z=>absurd z (by simp)
theorem ph_cons {X:Cx} {x:Str} {C2:Addr} {np pos:Pos} {b₀:Stmt} {suite:List Stmt} {rest:List ExceptHandler} {t:TS} {th:Addr→TS} (hg:Gl X x) (hm:X.mg x=some (.ref C2)) (hx:xIn X.K C2=true)
    (hs:∀ e,PSs (X.inExc e) (b₀::suite) t) (hr:PH X rest th) (hd:(x == ("__debug__":Str))=false:=by decide) :
    PH X (.ExceptHandler (some (.Name x np)) none (b₀::suite) pos::rest) (fun C=>if C=C2 then t else th C):=by
  intro pins s1 s σ H1 H D a C I1 ho hgn fl hxC h
  have I:Inv X pins σ H s:=flew_inv I1 ho hgn fl
  have hdl:=I.ok.hd
  refine wpAny_handleBy_cons (codeAny_handlers_test ?_) (by intro q; cases q)
  refine ld_glob (X:=X.inExc (.ref a)) (I.inExc _) hg hm ?_ hd
  obtain ⟨ob,hob,hobc⟩:=fl.there
  obtain ⟨nm,qn,N,bs,hdct,sn,sub,ab,col,dd,k0,k1,k2,k3,k5,mN,hC,hN,hni⟩:=x_obj I.kIn hxC
  obtain ⟨nm',qn',N',bs',hdct',sn',sub',ab',col',dd',j0,j1,j2,j3,j5,mN',hC',hN',hni'⟩:=x_obj I.kIn hx
  obtain ⟨hp,g,d,tk,os⟩:=s
  refine excMatches_two hC hC' hob hobc (by decide) (decide (C=C2)) ?_ ?_
  · by_cases e:C=C2
    · subst e
      simp
    · have e':¬ C2=C:=fun z=>e z.symm
      simp [bmE,e,e']
  · by_cases e:C=C2
    · simp only [e,decide_true,if_true] at h ⊢
      refine codeAny_handlers_suite (fl.landed fun h' fl'=>?_)
      have I':Inv X pins σ H ⟨h',g,d,tk,os⟩:=flew_inv (s:=⟨h',g,d,tk,os⟩) I1 ho hgn fl'
      refine wpAny_mono (hs (.ref a) pins _ σ H D (I'.inExc _) h) (fun f s2 q=>SP.outExc hdl q) fun _ _ z=>z.elim
    · simp only [e,decide_false,Bool.false_eq_true,if_false] at h ⊢
      exact hr pins s1 _ σ H1 H D a C I1 ho hgn fl hxC h
abbrev TX:=St→Hp→VK→XK→Prop
def XP (X:Cx) (pins:List (Addr×Obj)) (σ:St) (EX:XK) (e:Value) (s':Shared):Prop:=∃ (a C:Addr) (H1 H':Hp) (s1:Shared),e=.ref a∧Inv X pins σ H1 s1∧s'.os=s1.os∧AllBare s'.gens∧Flew X.prog X.w (frs X.stack) X.stack H1 H' s1.heap s'.heap a C∧EX (.ref C) none H'
def PEX (X:Cx) (e:Expr) (t:TX):Prop :=
  ∀ (pins:List (Addr×Obj)) (s:Shared) (σ:St) (H:Hp) (Q:VK) (EX:XK),Inv X pins σ H s→t σ H Q EX→wpAny (model X.prog X.w) X.A (eval e X.env) (EP X pins σ Q) (XP X pins σ EX) s
section
variable {X:Cx} {k:Nat} {f:Addr} {fd:FuncData} {ps:List Str} {sp:Sp} {x:Str} {p pos:Pos} {e:Expr} {es:List Expr} {t:TA}
def tCallX (sp:Sp) (t:TA):TX:=fun σ H Q EX=>t σ H fun vs H1=>sp vs H1 Q EX
theorem pex_call (F:FnOk X.prog X.w X.K X.mg X.base (CXE X.prog X.w) k f fd ps sp) (hr:Room k X.A) (hg:Gl X x) (hm:X.mg x=some (.ref f)) (hk:PySem.W.keepIn X.K (.ref f)=true) (hb:Binds X.K fd ps [])
    (ha:PA X.nox (e::es) t) (hdb:(x == ("__debug__":Str))=false:=by decide) (he:starEach (e::es) X.env=(false,eval e X.env)::starEach es X.env:=by rfl) (hpl:(backTo pos (starEach es X.env)).any (·.1)=false:=by rfl) :
    PEX X (.Call (.Name x p) (e::es) [] pos) (tCallX sp t):=by
  intro pins s σ H Q EX I h
  refine wpAny_Call_Name_kw (ld_glob I hg hm ?_ hdb)
  have ha':=ha pos pins s σ H _ (I.wish _) h
  refine PySem.W.callWith_K (h₀:=X.base) I.ok.mod.kin hk (wpAny_mono ha' (fun us s1 ⟨vs,H1,I1,r,q⟩=>?_) fun _ _ z=>z.elim) he hpl
  have I1:Inv X pins σ H1 s1:=I1.unwish
  refine ⟨I1.kIn,?_⟩
  have hl:us.length=ps.length:=by rw [← r.length]; exact F.len _ _ _ _ q
  refine wpAny_call (codeAny_mono (F.run X.A X.stack s1 H1 ⟨us,[]⟩ us vs Q EX hr I1.env0 (by have z:=hb s1 us I1.kIn (by rw [List.append_nil]; exact hl); rw [List.append_nil] at z; exact z) r q) fun r s' hq=>?_)
  cases r with
  | error ev =>
    obtain ⟨a,C,H',rfl,ho,hgn,fl,z⟩:=hq
    exact ⟨a,C,H1,H',s1,rfl,I1,ho,hgn,fl,z⟩
  | ok fl =>
    cases fl with
    | ret u=>exact I1.after hq
    | next=>exact False.elim hq
    | brk=>exact False.elim hq
    | cont=>exact False.elim hq
end
def exOf (K:PySem.W.Frag) (k:Addr→Hp→Prop):XK:=fun c _ H'=>∃ C,c=.ref C∧xIn K C=true∧k C H'
section
variable {X:Cx} {E:XK} {e:Expr} {te:TX} {h₀:ExceptHandler} {hs:List ExceptHandler} {th:Addr→TS} {pos pos1:Pos}
theorem try_handlers {pins:List (Addr×Obj)} {σ:St} {D:Ends} {ev:Value} {s':Shared} {Q:Flow→Shared→Prop} (hb:X.stack=X.env::X.outer) (hf:X.env.frame=some X.env.locals) (hh:PH X (h₀::hs) th)
    (x:XP X pins σ (exOf X.K fun C H'=>th C D σ H') ev s') :
    wpAny (model X.prog X.w) X.A (noteFrame ev X.env) (fun _ s₂=>wpAny (model X.prog X.w) X.A (setFlight ev none) (fun _ s₃=>wpAny (model X.prog X.w) X.A (handleBy ev X.env (h₀::hs)) (SP X pins D) X.xe s₃) X.xe s₂) X.xe s':=by
  obtain ⟨a,C,H1,H',s1,rfl,I1,ho,hgn,fl,C',hC',hx,hq⟩:=x
  cases hC'
  have hfr:X.A.frames=some (X.env::X.outer):=by rw [I1.ok.frames,hb]
  have fl':Flew X.prog X.w (frs X.stack) (X.env::X.outer) H1 H' s1.heap s'.heap a C:=by rw [← hb]; exact fl
  refine fl'.noted hfr hf rfl fun h2 x2=>?_
  refine x2.landed fun h3 x3=>?_
  exact hh pins s1 _ σ H1 H' D a C I1 ho hgn (by rw [hb] at *; exact x3) hx hq
def tTryR (K:PySem.W.Frag) (te:TX) (th:Addr→TS):TS:=fun D σ H=>te σ H D.rt (exOf K fun C H'=>th C D σ H')
theorem ps_tryRet (hb:X.stack=X.env::X.outer) (hf:X.env.frame=some X.env.locals) (he:PEX X e te) (hh:PH X (h₀::hs) th) :
    PS X (.Try [.Return (some e) pos1] (h₀::hs) [] [] pos) (tTryR X.K te th):=by
  intro pins s σ H D I h
  refine wpAny_Try_except (wpAny_execs_cons (wpAny_Return_some (wpAny_mono (he pins s σ H _ _ I h) (fun v s1 q=>?_) fun ev s1 q=>try_handlers (Q:=SP X pins D) hb hf hh q)))
  obtain ⟨x,H1,I1,r1,q1⟩:=q
  exact ⟨x,σ,H1,I1,r1,q1⟩
def tTryS (K:PySem.W.Frag) (i:Nat) (te:TX) (th:Addr→TS):TS:=fun D σ H=>te σ H (fun v H'=>D.nx (σ.set i (some v)) H') (exOf K fun C H'=>th C D σ H')
theorem ps_trySet {i:Nat} {x:Str} {pos':Pos} (hN:X.N.Nodup) (hi:X.N[i]?=some x) (hx:Loc X.env.scope x) (hb:X.stack=X.env::X.outer) (hf:X.env.frame=some X.env.locals) (he:PEX X e te) (hh:PH X (h₀::hs) th)
    (hs':swapsWith e (some (.Name x pos')) pos1.line X.env=pure false:=by rfl) (hfn:X.fn x=true∨X.env.scope.names.lookup x=some .local:=by first | exact .inl rfl | exact .inr rfl | assumption) :
    PS X (.Try [.Assign [.Name x pos'] e pos1] (h₀::hs) [] [] pos) (tTryS X.K i te th):=by
  intro pins s σ H D I h
  refine wpAny_Try_except (wpAny_execs_cons (wpAny_Assign_Name (wpAny_mono (he pins s σ H _ _ I h) (fun v s1 q=>?_) fun ev s1 q=>try_handlers (Q:=SP X pins D) hb hf hh q) hs'))
  obtain ⟨y,H1,I1,r1,q1⟩:=q
  exact store_ok I1 hN hi hx r1 (fun s2 I2=>wpAny_execs_nil (wpAny_execs_nil ⟨_,H1,I2,q1⟩)) hfn
end
section
variable {P:Program} {w:World} {K:PySem.W.Frag} {mg:Str→Option Value} {base:Heap}
end
end L2

namespace L2
open PySem PySem.Spec PyProof.Rows
structure FlewC (P:Program) (w:World) (fs:List Addr) (stack:List Env) (H H':Hp) (h h':Heap) (a C D:Addr):Prop where
  ex:∃ (B:Heap) (a0 fl:Value),B.StaysIn h'∧B.get? a=none∧B.get? D=none∧h'.FunFrames B stack∧h'.TracedAtW B a (.ref C) a0 fl∧HOk P w H' B ∧
    (∀ b o,h.get? b=some o→H b=none→b ∉ fs→B.get? b=some o)∧(∀ b o,h.get? b=some o→b ∉ fs→∃ o',B.get? b=some o')
  nfr:D ∉ frs stack
  ns:∃ m,h'.Ns D m
  old:h.get? D=none
  slot:∀ b o,h.get? b=some o→H b=none→b∈fs→(∀ vs,o.data≠.fields vs)∧∃ sl,h'.get? b=some { o with slots:=sl }
  free:∀ b o,h.get? b=some o→H b=none→H' b=none
  tups:∀ b xs,H b=some (.tup xs)→H' b=some (.tup xs)
  frzs:∀ b o u,H b=some (.frz o u)→H' b=some (.frz o u)
  tbls:∀ b ps,H b=some (.tbl ps)→∃ more,H' b=some (.tbl (ps++more))
section
variable {P:Program} {w:World} {fs:List Addr} {H H':Hp} {h h' h'':Heap} {a C D:Addr}
theorem FlewC.noted {M:Model} {A:Around} {E:Value→Shared→Prop} {s:Shared} {env env':Env} {outer:List Env} {L:Addr} {Q:Unit→Shared→Prop} (x:FlewC P w fs (env::outer) H H' h s.heap a C D)
    (hfr:A.frames=some (env::outer)) (hf:env.frame=some L) (hf':env'.frame=env.frame) (hQ:∀ h',FlewC P w fs (env::outer) H H' h h' a C D→Q () { s with heap:=h' }):wpAny M A (noteFrame (.ref a) env') Q E s:=by
  obtain ⟨B,a0,fl,b1,b2,bD,b3,b4,b5,b6,b7⟩:=x.ex
  refine noteFrame_any hfr b3 hf hf' b4 b1 b2 fun h' ⟨x1,x2,x3,x4⟩=>hQ h' ⟨⟨B,a0,_,x1,b2,bD,x2,x3,b5,b6,b7⟩,x.nfr,?_,x.old,fun b o e n m=>?_,x.free,x.tups,x.frzs,x.tbls⟩
  · obtain ⟨m,o,es,ep,ho,hd,r⟩:=x.ns
    obtain ⟨sl,hs⟩:=x4 D o ho fun vs q=>by rw [hd] at q; cases q
    exact ⟨m,_,es,ep,hs,hd,r⟩
  · obtain ⟨nf,sl,q⟩:=x.slot b o e n m
    obtain ⟨sl',q'⟩:=x4 b _ q nf
    exact ⟨nf,sl',q'⟩
theorem FlewC.same {stack:List Env} (x:FlewC P w fs stack H H' h h' a C D) (sb:Heap.SameBut D h' h''):Flew P w fs stack H H' h h'' a C:=by
  obtain ⟨B,a0,fl,b1,b2,bD,b3,b4,b5,b6,b7⟩:=x.ex
  have nD:∀ b o,B.get? b=some o→b≠D:=fun b o e z=>by rw [z,bD] at e; cases e
  obtain ⟨m,oD,es,ep,hoD,hdD,_⟩:=x.ns
  have st:∀ b o,b≠D→h'.get? b=some o→h''.get? b=some o:=fun b o n e=>(sb.2 b n).trans e
  refine ⟨⟨B,a0,fl,fun b o e=>st b o (nD b o e) (b1 b o e),b2,?_,?_,b5,b6,b7⟩,fun b o e n m=>?_,x.free,x.tups,x.frzs,x.tbls⟩
  · have all:∀ l:List Env,(∀ b∈frs l,b≠D)→h'.FunFrames B l→h''.FunFrames B l:=by
      intro l
      induction l with
      | nil=>exact fun _ _=>trivial
      | cons env rest ih =>
        intro hn ⟨hk,⟨L,o,hf,hb,ho,hd⟩,hr⟩
        have hL:L∈frs (env::rest):=List.mem_filterMap.mpr ⟨env,.head _,hf⟩
        refine ⟨hk,⟨L,o,hf,hb,st L o (hn L hL) ho,hd⟩,ih (fun b hb=>hn b ?_) hr⟩
        obtain ⟨e',he',hf'⟩:=List.mem_filterMap.mp hb
        exact List.mem_filterMap.mpr ⟨e',.tail _ he',hf'⟩
    exact all stack (fun b hb z=>x.nfr (by rw [← z]; exact hb)) b3
  · obtain ⟨oe,vs,T,oT,ts,he,hc,hd,h1,hnT,hTe,hT,hdT,h3⟩:=b4
    have ne:a≠D:=fun z=>by rw [z,hoD] at he; cases he; rw [hdD] at hd; cases hd
    have nT:T≠D:=fun z=>by rw [z,hoD] at hT; cases hT; rw [hdD] at hdT; cases hdT
    exact ⟨oe,vs,T,oT,ts,st _ _ ne he,hc,hd,h1,hnT,hTe,st _ _ nT hT,hdT,h3⟩
  · obtain ⟨nf,sl,q⟩:=x.slot b o e n m
    exact ⟨nf,sl,st _ _ (fun z=>by rw [z,x.old] at e; cases e) q⟩
theorem Flew.passOn {α:Type} {M:Model} {A:Around} {E:Value→Shared→Prop} {s:Shared} {stack:List Env} {what:String} {env:Env} {Q:α→Shared→Prop} (x:Flew P w fs stack H H' h s.heap a C)
    (hE:∀ h',Flew P w fs stack H H' h h' a C→E (.ref a) { s with heap:=h' }):wpAny M A (PySem.passOn what (.ref a) env:Sem α) Q E s:=by
  obtain ⟨B,a0,fl,b1,b2,b3,b4,b5,b6,b7⟩:=x.ex
  obtain ⟨oe,vs,T,oT,ts,he,hc,hd,h1,hnT,hTe,hT,hdT,h3⟩:=id b4
  unfold PySem.passOn
  refine wpAny_bind (wpAny_field he hd h1 ?_)
  rw [if_neg (show ¬ ((Value.ref T == Value.none)=true) from by simp)]
  exact wpAny_bind (x.landed fun h' x'=>wpAny_throw (hE h' x'))
end
structure BlkIn (X:Cx) (s:Shared) (H:Hp) (C:Addr) (fp:List Addr):Prop where
  inv:∃ pins σ,Inv X pins σ H s
  fresh:∀ b∈fp,X.s₀.heap.objs.size≤b
  cf:X.s₀.heap.objs.size≤C
def EBof (X:Cx) (E:XK) (D:Addr):Value→Shared→Prop:=fun e s'=>∃ (a C:Addr) (H':Hp),e=.ref a∧s'.os=X.s₀.os∧AllBare s'.gens∧FlewC X.prog X.w X.fs X.stack X.H₀ H' X.s₀.heap s'.heap a C D∧E (.ref C) none H'
theorem comp_error {X:Cx} {EX:XK} {D:Addr} {ev:Value} {s':Shared} {ce:Env} {use:Option (Value→Sem Unit)} {Qf:Value→Shared→Prop} {acc:Value} (b:Body X EX) (ok:X.Ok) (hf:ce.frame=X.env.frame) (x:EBof X EX D ev s') :
    notedBy (model X.prog X.w) X.A ce (fun e s'=>compPost (model X.prog X.w) X.A X.xe use Qf acc D (.error e) s') ev s':=by
  obtain ⟨a,C,H',rfl,ho,hg,fl,q⟩:=x
  have hfr:X.A.frames=some (X.env::X.outer):=by rw [ok.frames,b.stk]
  rw [b.stk] at fl
  unfold notedBy
  refine fl.noted hfr b.fr hf fun h2 x2=>?_
  obtain ⟨m,hn⟩:=x2.ns
  refine ⟨m,hn,fun h3 sb cenv _=>?_⟩
  refine (x2.same sb).passOn fun h4 x4=>?_
  exact b.leaves ok ho hg (by rw [b.stk]; exact x4) q
theorem Body.blkPass {X:Cx} {E:XK} {s3:Shared} {H3:Hp} {C:Addr} {scope:Scope} {cl:List (Str×Addr)} {fp:List Addr} (b:Body X E) (bi:BlkIn X s3 H3 C fp) {E':XK} (hE:∀ c H,E' c none H→E c none H) :
    Passes (CXE X.prog X.w) ((X.blk s3 H3 scope (compEnvC scope cl C X.env) fp).wish (EBof X E C)) E':=by
  intro pins σ H s e s' I h
  have I:Inv (X.blk s3 H3 scope (compEnvC scope cl C X.env) fp) pins σ H s:=I.unwish
  obtain ⟨a,Cx,H',rfl,ho,hg,x,q⟩:=h
  obtain ⟨pins3,σ3,I3⟩:=bi.inv
  have hex:∀ c:Addr,c ∉ X.ex:=fun c m=>by rw [b.ex] at m; cases m
  have x:Flew X.prog X.w (frs X.stack) X.stack H H' s.heap s'.heap a Cx:=x
  obtain ⟨B,a0,fl,b1,b2,b3,b4,b5,b6,b7⟩:=x.ex
  have hC:s.heap.Ns C (Classical.choose I.loc):=(Classical.choose_spec I.loc).1
  have HC:H C=none:=I.free
  have nfp:∀ {c:Addr} {o:Obj},X.s₀.heap.get? c=some o→c ∉ fp:=fun {c o} e m=>absurd (Nat.lt_of_lt_of_le (Heap.lt_size e) (bi.fresh c m)) (Nat.lt_irrefl _)
  have nC:∀ {c:Addr} {o:Obj},X.s₀.heap.get? c=some o→c≠C:=fun {c o} e z=>absurd (Nat.lt_of_lt_of_le (Heap.lt_size e) bi.cf) (by rw [z]; exact Nat.lt_irrefl _)
  have nfC:C ∉ frs X.stack:=fun m=>by
    have z:=I.ok.above
    have z:s3.heap.objs.size≤C:=z
    obtain ⟨_,o,ho,_⟩:=I3.stack.mem m
    exact absurd (Nat.lt_of_lt_of_le (Heap.lt_size ho) z) (Nat.lt_irrefl _)
  obtain ⟨oC,esC,epC,hoC,hdC,rC⟩:=hC
  have BC:B.get? C=some oC:=b6 C oC hoC HC nfC
  have sub:(B.hide C).StaysIn B:=fun b o e=>Heap.of_hide e
  have hide_get:∀ {c:Addr} {o:Obj},B.get? c=some o→c≠C→(B.hide C).get? c=some o:=fun {c o} e n=>(Heap.hide_ne B n).trans e
  have step:∀ {c:Addr} {o:Obj},X.s₀.heap.get? c=some o→X.H₀ c=none→c ∉ X.fs→s.heap.get? c=some o∧H c=none∧c ∉ frs X.stack:=fun {c o} e n m=>by
    have e3:=I3.base.keep c o e n m (hex c)
    have n3:=I3.base.free c o e n (hex c)
    have m3:=b.local_ I3 e m
    exact ⟨I.base.keep c o e3 n3 m3 (nfp e),I.base.free c o e3 n3 (nfp e),m3⟩
  refine ⟨a,Cx,H',rfl,(ho.trans I.os).trans I3.os,hg,⟨⟨B.hide C,a0,fl,fun c o e=>b1 c o (Heap.of_hide e),PySem.W.fresh_of_stays sub b2,Heap.hide_self ..,PySem.W.funFrames_base sub b3,?_,?_,fun c o e n m=>?_,fun c o e m=>?_⟩,nfC,⟨_,oC,esC,epC,b1 _ _ BC,hdC,rC⟩,?_,fun c o e n m=>?_,fun c o e n=>?_,fun c xs e=>x.tups c xs (I.base.tups c xs (I3.base.tups c xs e)),fun c o u e=>x.frzs c o u (I.base.frzs c o u (I3.base.frzs c o u e)),fun c ps e=>?_⟩,hE _ _ q⟩
  · obtain ⟨oe,vs,T,oT,ts,a1,a2,a3,a4,a5,a6⟩:=b4
    exact ⟨oe,vs,T,oT,ts,a1,a2,a3,a4,PySem.W.fresh_of_stays sub a5,a6⟩
  · have H'C:H' C=none:=x.free C oC hoC HC
    intro c o e
    refine (b5 c o e).stay (fun d u hd q=>hide_get q fun z=>?_) (fun _ q=>q) fun _ _ q=>q
    rcases hd with hd | hd
    · rw [← hd,z,H'C] at e
      cases e
    · rw [z,H'C] at hd
      cases hd
  · obtain ⟨e1,n1,m1⟩:=step e n m
    exact hide_get (b6 c o e1 n1 m1) (nC e)
  · obtain ⟨o3,e3⟩:=I3.base.there c o e (hex c)
    obtain ⟨o1,e1⟩:=I.base.there c o3 e3 (nfp e)
    obtain ⟨o2,e2⟩:=b7 c o1 e1 (b.local_ I3 e m)
    exact ⟨o2,hide_get e2 (nC e)⟩
  · cases z:X.s₀.heap.get? C with
    | none=>rfl
    | some o=>exact absurd rfl (nC z)
  · obtain ⟨sl3,e3⟩:=I3.base.slot c o e n m (hex c)
    have n3:=I3.base.free c o e n (hex c)
    have mm:c∈frs X.stack:=by
      rw [b.stk]
      show c∈List.filterMap _ _
      rw [List.filterMap_cons,b.fr]
      exact List.mem_cons_of_mem _ m
    obtain ⟨sl1,e1⟩:=I.base.slot c _ e3 n3 mm (nfp e)
    have n1:=I.base.free c _ e3 n3 (nfp e)
    obtain ⟨nf,sl2,e2⟩:=x.slot c _ e1 n1 mm
    exact ⟨nf,sl2,e2⟩
  · obtain ⟨o3,e3⟩:=I3.base.there c o e (hex c)
    obtain ⟨o1,e1⟩:=I.base.there c o3 e3 (nfp e)
    exact x.free c o1 e1 (I.base.free c o3 e3 (I3.base.free c o e n (hex c)) (nfp e))
  · obtain ⟨m1,e1⟩:=I3.base.tbls c ps e
    obtain ⟨m2,e2⟩:=I.base.tbls c _ e1
    obtain ⟨m3,e3⟩:=x.tbls c _ e2
    exact ⟨m1++(m2++m3),by rw [e3,Array.append_assoc,Array.append_assoc]⟩
section
variable {X:Cx}
theorem lc_coreX {pins:List (Addr×Obj)} {s:Shared} {σ:St} {H:Hp} {Q:VK} {elt tg iter:Expr} {ifs:List Expr} {scope:Scope} {own:List (Str×Nat)} {pos pos':Pos} {wi:TI} {g:TG} {tt:TT} {te:TE} {EX:XK} {use:Option (Value→Sem Unit)} {Qf:Value→Shared→Prop}
    (hc:X.calm=true) (hN:X.N.Nodup) (I:Inv X pins σ H s) (hi:PI X tg iter wi) (ok:BlkOk X.N X.env.scope scope own)
    (hg:∀ (s:Shared) (H:Hp) (C:Addr) (cl:List (Str×Addr)) (fp:List Addr),PG (X.blk s H scope (compEnvC scope cl C X.env) fp) tg g) (ht:∀ (s:Shared) (H:Hp) (C:Addr) (cl:List (Str×Addr)) (fp:List Addr),PTs (X.blk s H scope (compEnvC scope cl C X.env) fp) ifs tt)
    (bX:Body X EX) (he:∀ (s:Shared) (H:Hp) (C:Addr) (cl:List (Str×Addr)) (fp:List Addr),BlkIn X s H C fp→PE ((X.blk s H scope (compEnvC scope cl C X.env) fp).wish (EBof X EX C)) elt te) (hs:∀ x,foldedSetIterable iter X.env x=pure x)
    (h:tLc wi g tt te (own.map (·.2)) σ H Q)
    (hRR:∀ D C s' m H',Inv X pins σ H' s'→Q (.ref D) H'→s'.heap.Ns C m→FpOk X pins H' C→compPost (model X.prog X.w) X.A X.xe use Qf (.ref D) C (.ok .next) s') :
    wpAny (model X.prog X.w) X.A (comprehension (.ListComp elt [⟨tg,iter,ifs,0⟩] scope pos) scope X.env pos' (newList []) false (eval iter X.env) use) Qf X.xe s:=by
  have hfree:∀ y∈scope.names,y.2=.free→∃ c,X.env.cells.lookup y.1=some c:=fun y hy e=>by
    rcases ok.free y hy e with k | k
    · exact I.ok.has _ (.inl k)
    · exact I.ok.has _ (.inr k)
  refine wpAny_comprehension_free (use:=use) rfl hs (closure_ok hfree) ok.kind (fun y hy e=>by rw [ok.uniq y hy,e])
    (thn (hi pins s σ H _ I h) fun xv s1 hx=>thn hx fun itv s2 h2=>?_)
  obtain ⟨it,fp,tn,J,H2,e,I2,T,st2,f2,q⟩:=h2
  subst e
  refine wpAny_newObj_type (newEnv_comp ?_) (by show 0≤sizeLine; decide)
  generalize hD:s2.heap.objs.size=D
  have hDn:H2 D=none:=I2.hok.fresh (Nat.le_of_eq hD)
  obtain ⟨W,⟨m0,w0⟩,turn⟩:=q D hDn
  generalize hs3:({ s2 with heap:=s2.heap.push { cls:=.type "list",data:=.seq ([]:List Value).toArray } }:Shared)=s3
  have I3:Inv X pins σ (upd H2 D (.lst [])) s3:=by
    rw [← hs3]
    refine I2.laid (t':=s2.toks) (fun b o e=>Heap.get?_push_of_some _ e) (Nat.le_of_eq hD) ⟨Nat.zero_le _,[],0,.nil,?_⟩
    rw [← hD]
    exact Heap.get?_push_size _ rfl
  have h3:s3.heap=s2.heap.push { cls:=.type "list",data:=.seq ([]:List Value).toArray }:=by rw [← hs3]
  have sz:∀ b∈fp,b < s2.heap.objs.size:=fun b hb=>by
    obtain ⟨o,e,_⟩:=T.obj _ _ st2 b hb
    exact Heap.lt_size e
  have f3:∀ b∈fp,FpOk X pins (upd H2 D (.lst [])) b∧b < s3.heap.objs.size:=fun b hb=>by
    have hlt:=sz b hb
    refine ⟨⟨?_,(f2 b hb).2⟩,by rw [h3,Heap.size_push]; exact Nat.lt_succ_of_lt hlt⟩
    rw [upd_ne (by rw [← hD]; exact Nat.ne_of_lt hlt)]
    exact (f2 b hb).1
  have st3:tn 0 s3.heap:=T.keep _ _ _ st2 fun b _ o e=>by rw [h3]; exact Heap.get?_push_of_some _ e
  have I4:=block_start I3 ok hN f3
  have pg:=hg s3 (upd H2 D (.lst [])) s3.heap.objs.size (cellsFrom (s3.heap.objs.size+1) scope.names (cloFrom X.env.cells scope.names [])) fp
  have pt:=ht s3 (upd H2 D (.lst [])) s3.heap.objs.size (cellsFrom (s3.heap.objs.size+1) scope.names (cloFrom X.env.cells scope.names [])) fp
  have pe:=he s3 (upd H2 D (.lst [])) s3.heap.objs.size (cellsFrom (s3.heap.objs.size+1) scope.names (cloFrom X.env.cells scope.names [])) fp ⟨⟨pins,σ,I3⟩,fun b hb=>((f3 b hb).1.2.2.2.1).elim (fun z=>by rw [bX.ex] at z; cases z) id,I3.sz⟩
  show codeAny _ _ (.compStart (.ListComp elt [⟨tg,iter,ifs,0⟩] scope pos) 0 (.ref it) (.ref D) (compEnvC scope (cellsFrom (s3.heap.objs.size+1) scope.names (cloFrom X.env.cells scope.names [])) s3.heap.objs.size X.env)) (compPost (model X.prog X.w) X.A X.xe use Qf (.ref D) s3.heap.objs.size) { s3 with heap:=pushCells (s3.heap.push { cls:=.type "dict",data:=.dict #[] }) scope.names }
  have nfp:∀ b∈fp,(upd H2 D (.lst [])) b=none:=fun b hb=>(f3 b hb).1.1
  generalize hce:compEnvC scope (cellsFrom (s3.heap.objs.size+1) scope.names (cloFrom X.env.cells scope.names [])) s3.heap.objs.size X.env=ce at I4 pg pt pe ⊢
  have cL:ce.locals=s3.heap.objs.size:=by subst hce; rfl
  generalize hH3:upd H2 D (.lst [])=H3 at I3 I4 pg pt pe w0 nfp f3
  generalize hs4:({ s3 with heap:=pushCells (s3.heap.push { cls:=.type "dict",data:=.dict #[] }) scope.names }:Shared)=s4 at I4 ⊢
  have st4:tn 0 s4.heap:=T.keep _ _ _ st3 fun b _ o e=>by rw [← hs4]; exact pushCells_keeps _ _ _ _ (Heap.get?_push_of_some _ e)
  have stat:∀ {σ':St} {H':Hp} {s':Shared},Inv (X.blk s3 H3 scope ce fp) [] σ' H' s'→(∀ b∈fp,H' b=none)→∀ b∈fp,FpOk (X.blk s3 H3 scope ce fp) [] H' b:=fun {σ' H' s'} I' hn b hb =>
    ⟨hn b hb,(I'.ok.exf b hb).1,I'.ok.exfs b hb,.inl hb,fun x c e=>(I'.ok.exf b hb).2 x c e,fun p hp=>absurd (show p∈([]:List (Addr×Obj))++[] from hp) (by simp)⟩
  have loop:codeAny (model X.prog X.w) X.A (.compLoop (.ListComp elt [⟨tg,iter,ifs,0⟩] scope pos) 0 (.ref it) (.ref D) ce) (compPost (model X.prog X.w) X.A X.xe use Qf (.ref D) s3.heap.objs.size) s4:=by
    refine compLoop_any (fun n s'=>∃ i H',Inv (X.blk s3 H3 scope ce fp) [] (wipe σ (own.map (·.2))) H' s'∧tn i s'.heap∧(∀ b∈fp,H' b=none)∧W i n H') ?_ m0 ⟨0,H3,I4,st4,nfp,w0⟩
    rintro n s5 ⟨i,H5,I5,st5,n5,w5⟩
    rcases turn i n H5 w5 with ⟨stop,qq⟩ | ⟨go,Nx,hNx,step⟩
    · have td:=T.done (X.blk s3 H3 scope ce fp) rfl rfl rfl hc i [] s5 _ H5 (fun _ _=>False) I5 (stat I5 n5) st5 stop
      refine thnF td fun r s6 ⟨hr,I6⟩=>?_
      subst hr
      have I7:Inv X pins σ H5 s6:=I3.call' (ch:=fp) I6.os I6.base I6.hok I6.bare fun b hb=>⟨(f3 b hb).1.2.2.2.1,(f3 b hb).1.2.1,(f3 b hb).1.2.2.2.2.1,(f3 b hb).1.2.2.2.2.2⟩
      have nC:H5 s3.heap.objs.size=none:=by
        have z:H5 ce.locals=none:=I6.free
        rw [cL] at z
        exact z
      obtain ⟨m,hn,_⟩:=I6.loc
      have hn:s6.heap.Ns ce.locals m:=hn
      rw [cL] at hn
      exact hRR D s3.heap.objs.size s6 m H5 I7 qq hn (I3.fpOk (Nat.le_refl _) nC)
    · have ti:=T.item (X.blk s3 H3 scope ce fp) rfl rfl rfl hc i [] s5 _ H5 (fun _ _=>False) I5 (stat I5 n5) st5 go
      refine thnF ti fun r s6 ⟨u,hr,h6⟩=>?_
      subst hr
      refine thnF h6 fun _ s7 ⟨x,H7,I7,r7,y7,st7,n7⟩=>?_
      have I7':=I7.pinned (stat I7 n7) (T.obj _ _ st7)
      refine thnF (pg _ s7 _ H7 x u _ I7' r7 (step x H7 y7)) fun _ s8 ⟨σ8,H8,I8,hw8,q8⟩=>?_
      refine thnF (pt _ s8 σ8 H8 _ I8 q8) fun b s9 ⟨H9,I9,q9⟩=>?_
      have fin:∀ {s':Shared} {H':Hp},Inv (X.blk s3 H3 scope ce fp) ([]++pinsAt fp s7.heap) σ8 H' s'→Nx H'→∃ m,m < n∧∃ i H',Inv (X.blk s3 H3 scope ce fp) [] (wipe σ (own.map (·.2))) H' s'∧tn i s'.heap∧(∀ b∈fp,H' b=none)∧W i m H':=fun {s' H'} I' nx=>by
        obtain ⟨m',hm,w'⟩:=hNx H' nx
        have pin':∀ b∈fp,∀ o,s7.heap.get? b=some o→s'.heap.get? b=some o∧H' b=none:=fun b hb o e =>
          let z:=I'.pin (b,o) (List.mem_append_right _ (List.mem_append_right _ (mem_pinsAt hb e)))
          ⟨z.1,z.2.1⟩
        have hl:(wipe σ (own.map (·.2))).length=σ8.length:=by rw [← hw8,wipe_length]
        refine ⟨m',hm,i+1,H',(I'.unpinned (pins:=[])).weak hl (fun j v e=>?_),T.keep _ _ _ st7 fun b hb o e=>(pin' b hb o e).1,fun b hb=>?_,w'⟩
        · rw [← hw8] at e
          exact (wipe_some e).1
        · obtain ⟨o,e,_⟩:=T.obj _ _ st7 b hb
          exact (pin' b hb o e).2
      cases b with
      | false =>
        simp only [Bool.false_eq_true,if_false] at q9 ⊢
        exact fin I9 q9
      | true =>
        simp only [if_true] at q9 ⊢
        refine wpAny_mono (pe _ s9 σ8 H9 _ (I9.wish _) q9) (fun z s10 ⟨yv,H10,I10,r10,acc,hD10,hz10,nx⟩=>?_) (fun ev s10 hx=>?_)
        · exact app_ok (X:=X.blk s3 H3 scope ce fp) I10.unwish hD10 hz10 r10 fun s11 I11=>fin I11 nx
        · exact comp_error bX I3.ok (by rw [← hce]; rfl) hx
  exact codeAny_compStart_list loop (T.self X.A 0 _ _ _ st4 loop)
theorem pe_lcX {elt tg iter:Expr} {ifs:List Expr} {scope:Scope} {own:List (Str×Nat)} {pos:Pos} {wi:TI} {g:TG} {tt:TT} {te:TE} {EX:XK} (hc:X.calm=true) (hN:X.N.Nodup) (hi:PI X tg iter wi) (ok:BlkOk X.N X.env.scope scope own)
    (hg:∀ (s:Shared) (H:Hp) (C:Addr) (cl:List (Str×Addr)) (fp:List Addr),PG (X.blk s H scope (compEnvC scope cl C X.env) fp) tg g) (ht:∀ (s:Shared) (H:Hp) (C:Addr) (cl:List (Str×Addr)) (fp:List Addr),PTs (X.blk s H scope (compEnvC scope cl C X.env) fp) ifs tt)
    (bX:Body X EX) (he:∀ (s:Shared) (H:Hp) (C:Addr) (cl:List (Str×Addr)) (fp:List Addr),BlkIn X s H C fp→PE ((X.blk s H scope (compEnvC scope cl C X.env) fp).wish (EBof X EX C)) elt te) (hs:∀ x,foldedSetIterable iter X.env x=pure x:=by intro _; rfl) :
    PE X (.ListComp elt [⟨tg,iter,ifs,0⟩] scope pos) (tLc wi g tt te (own.map (·.2))):=by
  intro pins s σ H Q I h
  rw [eval_ListComp]
  refine lc_coreX hc hN I hi ok hg ht bX he hs h fun D C s' m H' I' q hn f=>⟨m,hn,fun h'' sb=>?_⟩
  obtain ⟨f0,f1,f2,f3,f4,f5⟩:=f
  exact ⟨.ref D,H',I'.turned (t':=s'.toks) (fun b o hb e=>(sb.2 b hb).trans e) f0 f1 f3 f4 f5,rfl,q⟩
theorem ps_setLcX {i:Nat} {y:Str} {py:Pos} {elt tg iter:Expr} {ifs:List Expr} {scope:Scope} {own:List (Str×Nat)} {pos spos:Pos} {wi:TI} {g:TG} {tt:TT} {te:TE} {EX:XK} (hc:X.calm=true) (hN:X.N.Nodup) (hy:X.N[i]?=some y) (hyl:X.env.scope.names.lookup y=some .local)
    (hsw:swapsWith (.ListComp elt [⟨tg,iter,ifs,0⟩] scope pos) (some (.Name y py)) spos.line X.env=pure true) (hi:PI X tg iter wi) (ok:BlkOk X.N X.env.scope scope own)
    (hg:∀ (s:Shared) (H:Hp) (C:Addr) (cl:List (Str×Addr)) (fp:List Addr),PG (X.blk s H scope (compEnvC scope cl C X.env) fp) tg g) (ht:∀ (s:Shared) (H:Hp) (C:Addr) (cl:List (Str×Addr)) (fp:List Addr),PTs (X.blk s H scope (compEnvC scope cl C X.env) fp) ifs tt)
    (bX:Body X EX) (he:∀ (s:Shared) (H:Hp) (C:Addr) (cl:List (Str×Addr)) (fp:List Addr),BlkIn X s H C fp→PE ((X.blk s H scope (compEnvC scope cl C X.env) fp).wish (EBof X EX C)) elt te) (hs:∀ x,foldedSetIterable iter X.env x=pure x:=by intro _; rfl) :
    PS X (.Assign [.Name y py] (.ListComp elt [⟨tg,iter,ifs,0⟩] scope pos) spos) (tAsg (tLc wi g tt te (own.map (·.2))) (gName i)):=by
  intro pins s σ H D I h
  rw [exec_Assign_Name_used _ _ _ _ hsw]
  refine wpAny_bind (wpAny_standAt (wpAny_bind ?_))
  show wpAny _ X.A (do let _ ← comprehension (.ListComp elt [⟨tg,iter,ifs,0⟩] scope pos) scope X.env (firstIterPos [⟨tg,iter,ifs,0⟩] pos) (newList []) false (eval iter X.env) (some (assign (.Name y py) X.env))) _ _ s
  have h:tLc wi g tt te (own.map (·.2)) σ H (fun x H1=>gName i x σ H1 D.nx):=h
  refine wpAny_bind (thn (lc_coreX (Qf:=fun _ s'=>SP X pins D .next s') hc hN I hi ok hg ht bX he hs h fun L C s' m H' I' q hn f=>?_) fun _ s' hq=>wpAny_pure (wpAny_pure hq))
  show wpAny _ _ (assign (.Name y py) X.env (.ref L)) _ _ _
  refine wpAny_assign_Name (store_ok2 (v:=V.ref L) I' hN hy (.inl hyl) rfl (fun s2 I2 ⟨a,sb,ha⟩=>?_) (.inr hyl))
  obtain ⟨f0,f1,f2,f3,f4,f5⟩:=f
  have haC:C≠a:=by
    rcases ha with z | z
    · rw [z]; exact f1
    · exact fun e=>f4 y a z e.symm
  refine ⟨m,hn.sameBut sb haC,fun h3 sb3=>?_⟩
  exact ⟨_,H',I2.turned (t':=s2.toks) (fun b o hb e=>(sb3.2 b hb).trans e) f0 f1 f3 f4 f5,q⟩
end
end L2

namespace L2
open PySem PySem.Spec PyProof.Rows
def rIsI (K:PySem.W.Frag):List V→Hp→VK→Prop:=fun xs H Q=>∃ x C t b,xs=[x,.ref C]∧TyOf K H x t∧PySem.W.kitOne K t (.ref C)=some b∧Q (.bl b) H
theorem call_isinst {X:Cx}:CallR X (.builtin "isinstance") (rIsI X.K):=by
  intro pins s σ H xs us Q I rs h
  obtain ⟨x,C,t,b,rfl,ty,e,q⟩:=h
  cases rs with
  | cons r1 rs =>
    cases rs with
    | cons r2 rs =>
      cases rs
      cases r2
      exact isinst_ok I r1 ty e fun tk=>⟨.bl b,H,I.tok _,rfl,q⟩
structure CFn (K:PySem.W.Frag) (C f:Addr) (m:Str):Prop where
  hg:PySem.W.specialIn K (.ref C) "__getattribute__"=some (some (.builtin "type.__getattribute__"))
  hr:PySem.W.readsIn K C (.type "type")=true
  hv:PySem.W.findCls K (.ref C) (.type "type") m=some (.val (.ref f))
  kp:PySem.W.keepIn K (.ref f)=true
section
variable {X:Cx} {CX:CXT} {k:Nat} {f C:Addr} {fd:FuncData} {ps:List Str} {sp:Sp} {dvs:List V} {ds:List Value} {E:XK} {x m:Str} {p pos apos:Pos} {e:Expr} {es:List Expr} {ta:TE} {t:TA}
theorem pe_ccall {pl:Sem Bool} (hgl:Gl X x) (hmg:X.mg x=some (.ref C)) (c:CFn X.K C f m) (F:FnOk X.prog X.w X.K X.mg X.base CX k f fd ps sp) (hr:Room k X.A) (hb:Binds X.K fd ps ds) (hd:Vals dvs ds) (hx:Passes CX X E) (ha:PA X (e::es) t)
    (hdb:(x == ("__debug__":Str))=false:=by decide) (hst:starEach (e::es) X.env=(false,eval e X.env)::starEach es X.env:=by rfl) (hpl:(backTo pos (starEach es X.env)).any (·.1)=false:=by rfl)
    (ht:eval (.Call (.Attribute (.Name x p) m apos) (e::es) [] pos) X.env=(do
      let ov ← eval (.Name x p) X.env
      standAt apos.atName
      let (f,first) ← holding [ov] (getMethod ov m pl)
      callWith pos f first (backTo pos (starEach (e::es) X.env)) (backToKw pos (keywordEach [] X.env))):=by rfl) :
    PE X (.Call (.Attribute (.Name x p) m apos) (e::es) [] pos) (tCall sp dvs E t):=by
  intro pins s σ H Q I h
  refine PySem.W.methodCall_KW (pl:=pl) (ld_glob I hgl hmg ?_ hdb) ht
  refine PySem.W.method_cls I.kIn c.hg (PySem.W.cls_value I.kIn c.hr c.hv rfl ?_)
  have I1:Inv X pins σ H { s with toks:=s.toks+1 }:=I.tok _
  refine PySem.W.callWith_K (first:=[]) (h₀:=X.base) I.ok.mod.kin c.kp (thn (ha pos pins _ σ H _ I1 h) fun us s2 ⟨vs,H2,I2,r,q2⟩=>⟨I2.kIn,?_⟩) hst hpl
  exact run_fn F hr hb hd hx I2 r q2
end
structure RoomU (k:Nat) (A:Around):Prop where
  dp:A.depth+3 * k+5 < recursionLimit
  un:A.units+16 * k+200 < cLine
theorem Room.u {k:Nat} {A:Around} (r:Room k A):RoomU k A:=⟨r.dp,r.un⟩
structure FnOkU (P:Program) (w:World) (K:PySem.W.Frag) (mg:Str→Option Value) (base:Heap) (k:Nat) (f:Addr) (fd:FuncData) (ps:List Str) (sp:Sp):Prop where
  len:∀ vs H Q E,sp vs H Q E→vs.length=ps.length
  run:∀ (A:Around) (outer:List Env) (s:Shared) (H:Hp) (args:Args) (us:List Value) (vs:List V) (Q:VK) (E:XK),RoomU k A→Env0 P w K mg base A outer s H→BindsTo s fd args (ps.zip us)→Vals vs us→sp vs H Q E →
    codeAny (model P w) A (.call (.ref f) args) (CR CX0 outer P w H s Q E) s
theorem FnOkU.ok {P:Program} {w:World} {K:PySem.W.Frag} {mg:Str→Option Value} {base:Heap} {k:Nat} {f:Addr} {fd:FuncData} {ps:List Str} {sp:Sp} (F:FnOkU P w K mg base k f fd ps sp):FnOk P w K mg base CX0 k f fd ps sp :=
  ⟨F.len,fun A outer s H args us vs Q E hr=>F.run A outer s H args us vs Q E hr.u⟩
def cxU (P:Program) (w:World) (K:PySem.W.Frag) (mg:Str→Option Value) (base:Heap) (N:List Str) (qual:Str) (scope:Scope) (f:Addr) (cd:Value) (A:Around) (outer:List Env) (s:Shared) (H:Hp) (E:XK):Cx :=
  { cxOf CX0 P w K mg base N qual scope f cd A outer s H E with calm:=false,xe:=fun _ _=>False }
theorem inv_startU {P:Program} {w:World} {K:PySem.W.Frag} {mg:Str→Option Value} {base:Heap} {N ps:List Str} {qual:Str} {scope:Scope} {f:Addr} {cd:Value} {A:Around} {outer:List Env} {s s1:Shared} {H:Hp} {E:XK} {us:List Value} {vs:List V}
    (S:FnScope N ps scope) (e0:Env0 P w K mg base A outer s H) (hl:vs.length=ps.length) (r:Vals vs us)
    (x:InCallC s s.heap.objs.size (bindL (envOfC qual scope s.heap.objs.size f cd).kindOf (ps.zip us) fun _=>none) (cellsFrom (s.heap.objs.size+1) scope.names []) (bindC (envOfC qual scope s.heap.objs.size f cd).kindOf (ps.zip us) fun _=>none) s1) :
    Inv (cxU P w K mg base N qual scope f cd A outer s H E) [] (start N vs) H s1:=by
  have e0':Env0 P w K mg base { A with handled:=none } outer s H:=⟨e0.frames,e0.mod,e0.bs,e0.bsz,e0.funs,e0.frf,e0.hok,e0.bare⟩
  have I:=inv_start (CX:=CX0) (E:=E) (A:={ A with handled:=none }) S rfl e0' hl r x
  exact ⟨⟨I.ok.mod,I.ok.kind,I.ok.glob,I.ok.blt,I.ok.above,I.ok.inj,I.ok.has,I.ok.cab,(fun z=>nomatch z),Around.frames_deeper e0.frames,I.ok.stk,I.ok.exf,I.ok.bs,I.ok.bsz,I.ok.noex,I.ok.exfs,I.ok.funs,I.ok.frf⟩,I.os,I.bare,I.base,I.loc,I.cell,I.free,I.freeC,I.pin,I.hok,I.len⟩
section
variable {P:Program} {w:World} {K:PySem.W.Frag} {mg:Str→Option Value} {base:Heap}
theorem Fun.okU {x qual:Str} {st:Stmt} {f:Addr} {fd:FuncData} {N ps:List Str} {k:Nat} {sp:Sp} (F:Fun K x qual st f fd) (S:FnScope N ps (defScope st)) (len:∀ vs H Q E,sp vs H Q E→vs.length=ps.length)
    (hbody:∀ (cdv:Value) (A:Around) (outer:List Env) (s:Shared) (H:Hp) (vs:List V) (Q:VK) (E:XK),sp vs H Q E →
      ∃ t,PSs (cxU P w K mg base N qual (defScope st) f cdv A outer s H E) (defBody st) t∧t { nx:=fun _ H'=>Q .non H',rt:=Q } (start N vs) H):FnOkU P w K mg base (k+1) f fd ps sp:=by
  obtain ⟨oc,od,kV,doc,pm,an,cdv,ct,osl,rfl,lk,hcd⟩:=F.ex
  refine ⟨len,fun A outer s H args us vs Q E hr e0 hb r hsp=>?_⟩
  have hl:=len _ _ _ _ hsp
  have KX:K.In s.heap:=e0.mod.kin.keeps fun b o e=>(e0.bs b o e).1
  have lim:s.heap.NoLimit:=e0.mod.nolimit.keeps fun b o e=>(e0.bs b o e).1
  have hkind:∀ y∈ps.zip us,(defScope st).names.lookup y.1=some .local∨((defScope st).names.lookup y.1=some .cell∧((cellsFrom (s.heap.objs.size+1) (defScope st).names []).lookup y.1).isSome=true):=fun ⟨n,v⟩ hy=>by
    rcases S.par n (List.of_mem_zip hy).1 with q | q
    · exact .inl q
    · exact .inr ⟨q,PySem.W.cellsFrom_some _ _ _ (.inl q)⟩
  have hdp:A.depth < recursionLimit:=by have:=hr.dp; omega
  refine codeAny_call_function hdp (KX _ _ lk) rfl S.co S.gen rfl (PySem.W.codeRec_of KX hcd) (hb _ _ _ _ ?_)
  refine wpAny_newFunctionEnv_cells S.kind hkind fun env he s1 x=>?_
  subst he
  refine ⟨lim.keeps x.toInCall.keep,codeAny_func ?_⟩
  obtain ⟨t,ht,hq⟩:=hbody cdv A outer s H vs Q E hsp
  have I:Inv (cxU P w K mg base N qual (defScope st) f cdv A outer s H E) [] (start N vs) H s1:=inv_startU S e0 hl r x
  refine wpAny_mono (ht [] s1 (start N vs) H _ I hq) (fun fl s' hs=>?_) fun e s' hs=>hs.elim
  have fin:∀ {σ':St} {H':Hp} {v:V} {u:Value},Inv (cxU P w K mg base N qual (defScope st) f cdv A outer s H E) [] σ' H' s'→RelV v u→Q v H'→CE outer P w H s Q u s' :=
    fun {σ' H' v u} J rv q=>⟨v,H',J.os,J.bare,J.base,J.hok,rv,q⟩
  cases fl with
  | ret u =>
    obtain ⟨v,σ',H',J,rv,q⟩:=hs
    exact fin J rv q
  | next =>
    obtain ⟨σ',H',J,q⟩:=hs
    exact fin (v:=V.non) (u:=Value.none) J rfl q
  | brk =>
    obtain ⟨_,_,_,q⟩:=hs
    exact False.elim q
  | cont =>
    obtain ⟨_,_,_,q⟩:=hs
    exact False.elim q
end
section
variable {X:Cx} {k:Nat} {f C:Addr} {fd:FuncData} {ps:List Str} {sp:Sp} {m:Str} {pos apos:Pos} {o:Expr} {ta:TE}
theorem pe_meth0U {pl:Sem Bool} (he:PE X o ta) (c:Cls X.K C) (hm:Meth X.K C m f) (F:FnOkU X.prog X.w X.K X.mg X.base k f fd ps sp) (hr:RoomU k X.A) (hb:Binds X.K fd ps [])
    (ht:eval (.Call (.Attribute o m apos) [] [] pos) X.env=(do
      let ov ← eval o X.env
      standAt apos.atName
      let (f,first) ← holding [ov] (getMethod ov m pl)
      callWith pos f first (backTo pos (starEach [] X.env)) (backToKw pos (keywordEach [] X.env))):=by rfl) :
    PE X (.Call (.Attribute o m apos) [] [] pos) (tMeth C m sp [] E0 ta tNil):=by
  intro pins s σ H Q I h
  refine PySem.W.methodCall_KW (pl:=pl) (thn (he pins s σ H _ I h) fun u s1 ⟨x,H1,I1,rx,a,dx,fs,ex,ea,l,q⟩=>?_) ht
  subst ex
  obtain rfl:u=Value.ref a:=rx
  refine getmeth_ok I1 ea c hm l ?_
  refine PySem.W.callWith_K0 (first:=[.ref a]) I1.kIn hm.kp ?_
  have q:sp [.ref a] H1 Q E0:=q
  have r2:Vals [V.ref a] [Value.ref a]:=.cons rfl .nil
  have hl:([Value.ref a]:List Value).length=ps.length:=F.len _ _ _ _ q
  refine wpAny_call (codeAny_mono (F.run X.A X.stack s1 H1 ⟨[.ref a],[]⟩ [.ref a] [.ref a] Q E0 hr I1.env0 (by have z:=hb s1 [.ref a] I1.kIn hl; exact z) r2 q) fun r s' hq=>?_)
  cases r with
  | error e=>exact hq.elim
  | ok fl =>
    cases fl with
    | ret u=>exact I1.after hq
    | next=>exact False.elim hq
    | brk=>exact False.elim hq
    | cont=>exact False.elim hq
end
end L2

namespace L2
open PySem PySem.Spec PyProof.Rows
theorem readsAll_vals {R:PySem.W.WRecords} {cl:Str→Option Addr} {h:Heap}:∀ {ms:List Int} {its:List Value},Vals (ms.map V.int) its→PySem.W.ReadsAllW R cl h its (ms.map PySem.W.WData.int) []
  | [],_,.nil=>.nil
  | m::ms,_,.cons ⟨t,e⟩ r=>by
    subst e
    exact .cons (as:=[]) (bs:=[]) (.int m t) (readsAll_vals r)
theorem law_callS {P:Program} {w:World} {K:PySem.W.Frag} {mg mb:Str→Option Value} {CX:CXT} {k:Nat} {fa a:Addr} {fd:FuncData} {x:Str} {sp:Sp} {s₁:Shared} {vs:List Value} {ns ms:List Int}
    (KX:K.In s₁.heap) (hns:s₁.heap.Ns mainGlobals mg) (hb:s₁.heap.Ns builtinsNs mb) (hbb:∀ x:Str,x≠"__name__"→mb x=bootBuiltins x) (hlim:s₁.heap.NoLimit) (hg:s₁.gens=#[])
    (ha:s₁.heap.get? a=some { cls:=.type "list",data:=.seq vs.toArray }) (hi:IntsAre vs ns) (hl:ns.length≤sizeLine) (hr:Room k callerA)
    (F:∀ base:Heap,K.In base→base.Ns mainGlobals mg→FnOk P w K mg base CX k fa fd [x] sp) (hbind:∀ (s:Shared) (u:Value),BindsTo s fd ⟨[u],[]⟩ [(x,u)])
    (hsp:∀ H:Hp,Only H→SqL K H a (ns.map V.int)→sp [.ref a] H (fun v H'=>∃ p,v=.ref p∧H' p=some (.lst (ms.map V.int))) fun _ _ _=>False)
    (hCX:∀ H e s',CX [] H s₁ (fun _ _ _=>False) e s'→False) :
    codeAny (model P w) callerA (.call (.ref fa) ⟨[.ref a],[]⟩) (fun r s'=>(∃ p its n,r=.ok (.ret (.ref p))∧s'.heap.get? p=some { cls:=.type "list",data:=.seq (List.toArray its) n }∧Vals (ms.map V.int) its)∧OldK s₁.heap s'.heap∧s'.os=s₁.os∧AllBare s'.gens) s₁:=by
  have rv:=vals_ints hi
  have lenV:=hi.length
  have core:∀ H:Hp,Only H→SqL K H a (ns.map V.int)→HOk P w H s₁.heap→(∀ b,H b≠none→b=a)→(H a≠none→K.lookup a=none) →
      codeAny (model P w) callerA (.call (.ref fa) ⟨[.ref a],[]⟩) (fun r s'=>(∃ p its n,r=.ok (.ret (.ref p))∧s'.heap.get? p=some { cls:=.type "list",data:=.seq (List.toArray its) n }∧Vals (ms.map V.int) its)∧OldK s₁.heap s'.heap∧s'.os=s₁.os∧AllBare s'.gens) s₁:=by
    intro H hO hS hok hA hK
    have base_of:∀ {b:Addr} {o:Obj},s₁.heap.get? b=some o→H b=none→(hidT s₁.heap H).get? b=some o:=fun e n=>hidT_get e n
    have noA:∀ {b:Addr} {o:Obj} {es:Array DictEntry} {ep:Nat},s₁.heap.get? b=some o→o.data=.dict es ep→H b=none:=fun {b o es ep} e d=>by
      cases q:H b with
      | none=>rfl
      | some u =>
        have e':b=a:=hA b (by rw [q]; simp)
        subst e'
        rw [ha] at e; cases e
        have d':Data.seq vs.toArray _=Data.dict es ep:=d
        cases d'
    have nsK:∀ {b:Addr} {m:Str→Option Value},s₁.heap.Ns b m→(hidT s₁.heap H).Ns b m:=fun {b m} ⟨o,es,ep,e,d,r⟩=>⟨o,es,ep,base_of e (noA e d),d,r⟩
    have hKb:K.In (hidT s₁.heap H):=fun b o e=>base_of (KX b o e) (by
      cases q:H b with
      | none=>rfl
      | some u =>
        have e':b=a:=hA b (by rw [q]; simp)
        subst e'
        rw [hK (by rw [q]; simp)] at e; cases e)
    have hM:Mod K mg (hidT s₁.heap H):=⟨hKb,nsK hns,⟨mb,nsK hb,hbb⟩,let ⟨mc,h1,h2⟩:=hlim; ⟨mc,nsK h1,h2⟩⟩
    have e0:Env0 P w K mg (hidT s₁.heap H) callerA [] s₁ H:=⟨rfl,hM,fun b o e=>of_hidT e,Nat.le_of_eq (hidT_size _ _),trivial,fun b hb=>absurd (show b∈([]:List Addr) from hb) (by simp),hok,.of_eq hg⟩
    refine codeAny_mono ((F _ hKb (nsK hns)).run callerA [] s₁ H ⟨[.ref a],[]⟩ [.ref a] [.ref a] _ _ hr e0 (hbind s₁ (.ref a)) (.cons rfl .nil) (hsp H hO hS)) fun r s' h=>?_
    cases r with
    | error e=>exact (hCX H e s' h).elim
    | ok fl =>
      cases fl with
      | next=>exact False.elim h
      | brk=>exact False.elim h
      | cont=>exact False.elim h
      | ret u =>
        obtain ⟨v,H',os,bare,un,hok',r',q⟩:=h
        obtain ⟨p,q',hp⟩:=q
        subst q'
        obtain rfl:u=Value.ref p:=r'
        obtain ⟨_,its,n,rits,eits⟩:=hok' p _ hp
        refine ⟨⟨p,its,n,rfl,eits,rits⟩,OldK.of_keep fun b o e=>?_,os,bare⟩
        cases q:H b with
        | none=>exact un.keep b o e q (by intro z; exact absurd (show b∈([]:List Addr) from z) (by simp)) (by simp)
        | some u =>
          rcases hO b with z | ⟨ob,xs,z⟩
          · rw [q] at z; cases z
          · have z2:=un.frzs b ob _ z
            obtain ⟨e1,_⟩:=hok b _ z
            obtain ⟨e2,_⟩:=hok' b _ z2
            rw [e] at e1; cases e1
            exact e2
  cases hk:K.lookup a with
  | some o =>
    have e:=KX a o hk
    rw [ha] at e
    cases e
    refine core (fun _=>none) (fun _=>.inl rfl) (.inr ⟨_,vs.toArray,_,hk,rfl,rfl,rfl,by rw [List.size_toArray,lenV]; exact hl,by simpa using rv⟩) (fun b u z=>by have z':(none:Option HO)=some u:=z; cases z') (fun b z=>absurd rfl z) fun z=>absurd rfl z
  | none =>
    refine core (fun b=>if b=a then some (.frz { cls:=.type "list",data:=.seq vs.toArray } (.lst (ns.map V.int))) else none) (fun b=>?_) (.inl (.inr ⟨{ cls:=.type "list",data:=.seq vs.toArray },if_pos rfl⟩)) (fun b u z=>?_) (fun b z=>?_) fun _=>hk
    · by_cases hb:b=a
      · exact .inr ⟨_,_,if_pos hb⟩
      · exact .inl (if_neg hb)
    · by_cases hb:b=a
      · have z':=(if_pos hb).symm.trans z
        cases z'
        subst hb
        exact ⟨ha,by rw [List.length_map]; exact hl,vs,_,rv,ha⟩
      · have z':=(if_neg hb).symm.trans z
        cases z'
    · by_cases hb:b=a
      · exact hb
      · exact absurd (if_neg hb) z
theorem walk_spec {r:PySem.W.OpenSpec} {k:Nat} {q:Program} {loose:List Str} {XP:(Str→Option Value)→Heap→Prop} {YP:World→Heap→Prop} {d:DefRec} {K:Params→PySem.W.Frag} {sp:PySem.W.Frag→Sp} {x:Str} {Ask:List Int→Prop} {f:List Int→List Int}
    (hpre:∀ args,r.pre args=true→∃ ns:List Int,args=[.list (ns.map .int)]∧ns.length≤sizeLine∧Ask ns)
    (hpost:∀ ns,Ask ns→r.pre [.list (ns.map .int)]=true→r.post [.list (ns.map .int)] (.list ((f ns).map .int))=true) (hdf:d.params.defaults=[]) (hr:Room k callerA)
    (hY:∀ (w:World) (h:Heap),YP w h→(K w.params).In h)
    (F:∀ (w:World) (mg:Str→Option Value) (fa:Addr) (h:Heap),(K w.params).In h→h.Ns mainGlobals mg→mg d.name=some (.ref fa) →
      ∃ fd:FuncData,(∀ (s:Shared) (u:Value),BindsTo s fd ⟨[u],[]⟩ [(x,u)]) ∧
        ∀ base:Heap,(K w.params).In base→base.Ns mainGlobals mg→FnOk r.prog w (K w.params) mg base CX0 k fa fd [x] (sp (K w.params)))
    (hsp:∀ (K:PySem.W.Frag) (H:Hp) (a:Addr) (ns:List Int),Ask ns→Only H→SqL K H a (ns.map V.int)→sp K [.ref a] H (fun v H'=>∃ p,v=.ref p∧H' p=some (.lst ((f ns).map V.int))) fun _ _ _=>False) :
    PySem.W.WalkOS q loose XP YP r d [] (fun f vs=>PySem.call f vs):=by
  intro w s₀ s₁ mg mb G Y fa o pm cd doc dV kV ho hd hcd hD hmg hg args vals as hp hlay hrd hwl hlo
  obtain ⟨ns,rfl,hlen,hask⟩:=hpre args hp
  have KX:=hY w _ Y
  obtain ⟨fd,hb,hF⟩:=F w mg fa _ KX G.T.g hmg
  cases hwl with
  | cons w1 w2 =>
    cases w2
    cases w1 with
    | list hobj hall =>
      have hints:=Att.ints_of_wellAll ns _ hall
      refine PySem.W.enter_call (codeAny_mono (law_callS (ms:=f ns) KX G.T.g G.T.b G.T.builtins G.T.nolimit hg hobj hints hlen hr hF hb (fun H hO hS=>hsp _ H _ ns hask hO hS) fun H e s' z=>z) fun res s' hq=>?_)
      obtain ⟨⟨p,its,n,rfl,hp',hv⟩,h2,h3,h4⟩:=hq
      exact ⟨.inl ⟨.ref p,.list ((f ns).map .int),[p],rfl,fun _=>rfl,.list hp' rfl rfl (by simpa using readsAll_vals hv),hpost ns hask hp,fun z=>nomatch z⟩,h2,h3,h4⟩
end L2

namespace L2
open PySem PySem.Spec PyProof.Rows
def top (i:Nat):Stmt:=PySem.Challenge.pw_callsetup_s01_answers.main.body.getD i (.Pass ⟨0,0,0,0⟩)
abbrev s_qcu:Stmt:=top 26
abbrev s_qcn:Stmt:=top 27
abbrev s_qco:Stmt:=top 28
abbrev s_qcs:Stmt:=top 29
abbrev s_qcr:Stmt:=top 30
abbrev s_qcq:Stmt:=top 31
abbrev s_qcp:Stmt:=top 32
abbrev s_qct:Stmt:=top 33
abbrev s_qcj:Stmt:=top 34
abbrev s_qdf:Stmt:=top 35
abbrev s_qcf:Stmt:=top 37
abbrev s_qda:Stmt:=top 50
abbrev s_qcm:Stmt:=top 51
abbrev s_qcz:Stmt:=top 52
abbrev s_qcy:Stmt:=top 53
abbrev s_qcx:Stmt:=top 54
abbrev s_qdg:Stmt:=top 55
abbrev s_qcl:Stmt:=top 56
abbrev s_qcv:Stmt:=top 57
abbrev s_qck:Stmt:=top 58
abbrev s_qdd:Stmt:=top 59
abbrev s_qdb:Stmt:=top 60
abbrev s_qdc:Stmt:=top 61
abbrev s_qde:Stmt:=top 62
abbrev s_qcw:Stmt:=top 63
abbrev s_qci:Stmt:=top 75
abbrev s_qch:Stmt:=top 76
abbrev s_qcg:Stmt:=top 77
abbrev s_qbr:Stmt:=inClass (top 4) 0
abbrev s_qbp:Stmt:=inClass (top 4) 1
abbrev s_qbq:Stmt:=inClass (top 4) 2
abbrev s_qbu:Stmt:=inClass (top 14) 0
abbrev s_qca:Stmt:=inClass (top 14) 1
abbrev s_qcc:Stmt:=inClass (top 14) 2
abbrev s_qcb:Stmt:=inClass (top 14) 3
abbrev s_qcd:Stmt:=inClass (top 14) 4
abbrev s_qbt:Stmt:=inClass (top 14) 5
abbrev s_qbs:Stmt:=inClass (top 14) 6
abbrev s_qbx:Stmt:=inClass (top 14) 7
abbrev s_qby:Stmt:=inClass (top 14) 8
abbrev s_qbz:Stmt:=inClass (top 14) 9
abbrev s_qce:Stmt:=inClass (top 14) 10
abbrev s_qbv:Stmt:=inClass (top 14) 11
abbrev s_qbw:Stmt:=inClass (top 14) 12
abbrev s_qac:Stmt:=inClass (top 16) 0
abbrev s_qad:Stmt:=inClass (top 16) 1
abbrev s_qab:Stmt:=inClass (top 16) 2
abbrev s_qag:Stmt:=inClass (top 16) 3
abbrev s_qaf:Stmt:=inClass (top 16) 4
abbrev s_qae:Stmt:=inClass (top 16) 5
abbrev s_qaj:Stmt:=inClass (top 16) 6
abbrev s_qai:Stmt:=inClass (top 16) 7
abbrev s_qah:Stmt:=inClass (top 16) 8
abbrev s_qaa:Stmt:=inClass (top 16) 9
abbrev s_qan:Stmt:=inClass (top 39) 0
abbrev s_qal:Stmt:=inClass (top 39) 1
abbrev s_qak:Stmt:=inClass (top 39) 2
abbrev s_qap:Stmt:=inClass (top 39) 3
abbrev s_qao:Stmt:=inClass (top 39) 4
abbrev s_qas:Stmt:=inClass (top 39) 5
abbrev s_qaq:Stmt:=inClass (top 39) 6
abbrev s_qar:Stmt:=inClass (top 39) 7
abbrev s_qam:Stmt:=inClass (top 39) 8
abbrev s_qbj:Stmt:=inClass (top 49) 0
abbrev s_qbk:Stmt:=inClass (top 49) 1
abbrev s_qbi:Stmt:=inClass (top 49) 2
abbrev s_qax:Stmt:=inClass (top 67) 0
abbrev s_qbc:Stmt:=inClass (top 67) 1
abbrev s_qbb:Stmt:=inClass (top 67) 2
abbrev s_qba:Stmt:=inClass (top 67) 3
abbrev s_qbh:Stmt:=inClass (top 67) 4
abbrev s_qbd:Stmt:=inClass (top 67) 5
abbrev s_qau:Stmt:=inClass (top 67) 6
abbrev s_qat:Stmt:=inClass (top 67) 7
abbrev s_qaw:Stmt:=inClass (top 67) 8
abbrev s_qbe:Stmt:=inClass (top 67) 9
abbrev s_qaz:Stmt:=inClass (top 67) 10
abbrev s_qav:Stmt:=inClass (top 67) 11
abbrev s_qay:Stmt:=inClass (top 67) 12
abbrev s_qbf:Stmt:=inClass (top 67) 13
abbrev s_qbg:Stmt:=inClass (top 67) 14
abbrev s_qbm:Stmt:=inClass (top 74) 0
abbrev s_qbl:Stmt:=inClass (top 74) 1
abbrev s_qbo:Stmt:=inClass (top 74) 2
abbrev s_qbn:Stmt:=inClass (top 74) 3
theorem sc_qcu:FnScope ["text","sign"] ["text"] (defScope s_qcu):=⟨rfl,rfl,rfl,by decide +kernel,rfl,by decide +kernel,by decide +kernel⟩
theorem sc_qcn:FnScope ["octet"] ["octet"] (defScope s_qcn):=⟨rfl,rfl,rfl,by decide +kernel,rfl,by decide +kernel,by decide +kernel⟩
theorem sc_qco:FnScope ["octet"] ["octet"] (defScope s_qco):=⟨rfl,rfl,rfl,by decide +kernel,rfl,by decide +kernel,by decide +kernel⟩
theorem sc_qcs:FnScope ["octet"] ["octet"] (defScope s_qcs):=⟨rfl,rfl,rfl,by decide +kernel,rfl,by decide +kernel,by decide +kernel⟩
theorem sc_qcr:FnScope ["row","octet"] ["row"] (defScope s_qcr):=⟨rfl,rfl,rfl,by decide +kernel,rfl,by decide +kernel,by decide +kernel⟩
theorem sc_qcq:FnScope ["row","octet"] ["row"] (defScope s_qcq):=⟨rfl,rfl,rfl,by decide +kernel,rfl,by decide +kernel,by decide +kernel⟩
theorem sc_qcp:FnScope ["row","most_digits","octet"] ["row","most_digits"] (defScope s_qcp):=⟨rfl,rfl,rfl,by decide +kernel,rfl,by decide +kernel,by decide +kernel⟩
theorem sc_qct:FnScope ["digits","number","digit"] ["digits"] (defScope s_qct):=⟨rfl,rfl,rfl,by decide +kernel,rfl,by decide +kernel,by decide +kernel⟩
theorem sc_qcj:FnScope ["row","start"] ["row","start"] (defScope s_qcj):=⟨rfl,rfl,rfl,by decide +kernel,rfl,by decide +kernel,by decide +kernel⟩
theorem sc_qdf:FnScope ["row","separator","parts","start","place","octet"] ["row","separator"] (defScope s_qdf):=⟨rfl,rfl,rfl,by decide +kernel,rfl,by decide +kernel,by decide +kernel⟩
theorem sc_qcf:FnScope ["request","reply","lines","octets","line"] ["request","reply"] (defScope s_qcf):=⟨rfl,rfl,rfl,by decide +kernel,rfl,by decide +kernel,by decide +kernel⟩
theorem sc_qda:FnScope ["octets","length","lines","headers","line"] ["octets"] (defScope s_qda):=⟨rfl,rfl,rfl,by decide +kernel,rfl,by decide +kernel,by decide +kernel⟩
theorem sc_qcm:FnScope ["octets","empty_line","place"] ["octets"] (defScope s_qcm):=⟨rfl,rfl,rfl,by decide +kernel,rfl,by decide +kernel,by decide +kernel⟩
theorem sc_qcz:FnScope ["head","rows","row"] ["head"] (defScope s_qcz):=⟨rfl,rfl,rfl,by decide +kernel,rfl,by decide +kernel,by decide +kernel⟩
theorem sc_qcy:FnScope ["row"] ["row"] (defScope s_qcy):=⟨rfl,rfl,rfl,by decide +kernel,rfl,by decide +kernel,by decide +kernel⟩
theorem sc_qcx:FnScope ["line","name","value"] ["line"] (defScope s_qcx):=⟨rfl,rfl,rfl,by decide +kernel,rfl,by decide +kernel,by decide +kernel⟩
theorem sc_qdg:FnScope ["headers","name","wanted","header"] ["headers","name"] (defScope s_qdg):=⟨rfl,rfl,rfl,by decide +kernel,rfl,by decide +kernel,by decide +kernel⟩
theorem sc_qcl:FnScope ["headers","name","values"] ["headers","name"] (defScope s_qcl):=⟨rfl,rfl,rfl,by decide +kernel,rfl,by decide +kernel,by decide +kernel⟩
theorem sc_qcv:FnScope ["headers","name","values"] ["headers","name"] (defScope s_qcv):=⟨rfl,rfl,rfl,by decide +kernel,rfl,by decide +kernel,by decide +kernel⟩
theorem sc_qck:FnScope ["headers","body","digits"] ["headers","body"] (defScope s_qck):=⟨rfl,rfl,rfl,by decide +kernel,rfl,by decide +kernel,by decide +kernel⟩
theorem sc_qdd:FnScope ["line","digits","status"] ["line"] (defScope s_qdd):=⟨rfl,rfl,rfl,by decide +kernel,rfl,by decide +kernel,by decide +kernel⟩
theorem sc_qdb:FnScope ["octets","line","headers","parts","request"] ["octets","line","headers"] (defScope s_qdb):=⟨rfl,rfl,rfl,by decide +kernel,rfl,by decide +kernel,by decide +kernel⟩
theorem sc_qdc:FnScope ["value","parts","number"] ["value"] (defScope s_qdc):=⟨rfl,rfl,rfl,by decide +kernel,rfl,by decide +kernel,by decide +kernel⟩
theorem sc_qde:FnScope ["value","start","parts"] ["value"] (defScope s_qde):=⟨rfl,rfl,rfl,by decide +kernel,rfl,by decide +kernel,by decide +kernel⟩
theorem sc_qcw:FnScope ["parts","mark","cookie","branches","part"] ["parts"] (defScope s_qcw):=⟨rfl,rfl,rfl,by decide +kernel,rfl,by decide +kernel,by decide +kernel⟩
theorem sc_qci:FnScope ["calls","reader","end","numbers","call","answer"] ["calls"] (defScope s_qci):=⟨rfl,rfl,rfl,by decide +kernel,rfl,by decide +kernel,by decide +kernel⟩
theorem sc_qch:FnScope ["end","call","reader"] ["end","call","reader"] (defScope s_qch):=⟨rfl,rfl,rfl,by decide +kernel,rfl,by decide +kernel,by decide +kernel⟩
theorem sc_qcg:FnScope ["end","call","reader","now","number"] ["end","call","reader"] (defScope s_qcg):=⟨rfl,rfl,rfl,by decide +kernel,rfl,by decide +kernel,by decide +kernel⟩
theorem sc_qbr:FnScope ["self"] ["self"] (defScope s_qbr):=⟨rfl,rfl,rfl,by decide +kernel,rfl,by decide +kernel,by decide +kernel⟩
theorem sc_qbp:FnScope ["self","kind","transaction_number","octets"] ["self","kind","transaction_number","octets"] (defScope s_qbp):=⟨rfl,rfl,rfl,by decide +kernel,rfl,by decide +kernel,by decide +kernel⟩
theorem sc_qbq:FnScope ["self"] ["self"] (defScope s_qbq):=⟨rfl,rfl,rfl,by decide +kernel,rfl,by decide +kernel,by decide +kernel⟩
theorem sc_qbu:FnScope ["self","number","request","state"] ["self","number","request","state"] (defScope s_qbu):=⟨rfl,rfl,rfl,by decide +kernel,rfl,by decide +kernel,by decide +kernel⟩
theorem sc_qca:FnScope ["self","now","wait"] ["self","now","wait"] (defScope s_qca):=⟨rfl,rfl,rfl,by decide +kernel,rfl,by decide +kernel,by decide +kernel⟩
theorem sc_qcc:FnScope ["self"] ["self"] (defScope s_qcc):=⟨rfl,rfl,rfl,by decide +kernel,rfl,by decide +kernel,by decide +kernel⟩
theorem sc_qcb:FnScope ["self","now","wait"] ["self","now","wait"] (defScope s_qcb):=⟨rfl,rfl,rfl,by decide +kernel,rfl,by decide +kernel,by decide +kernel⟩
theorem sc_qcd:FnScope ["self"] ["self"] (defScope s_qcd):=⟨rfl,rfl,rfl,by decide +kernel,rfl,by decide +kernel,by decide +kernel⟩
theorem sc_qbt:FnScope ["self","now"] ["self","now"] (defScope s_qbt):=⟨rfl,rfl,rfl,by decide +kernel,rfl,by decide +kernel,by decide +kernel⟩
theorem sc_qbs:FnScope ["self","now"] ["self","now"] (defScope s_qbs):=⟨rfl,rfl,rfl,by decide +kernel,rfl,by decide +kernel,by decide +kernel⟩
theorem sc_qbx:FnScope ["self","now","report"] ["self","now","report"] (defScope s_qbx):=⟨rfl,rfl,rfl,by decide +kernel,rfl,by decide +kernel,by decide +kernel⟩
theorem sc_qby:FnScope ["self","octets","report"] ["self","octets","report"] (defScope s_qby):=⟨rfl,rfl,rfl,by decide +kernel,rfl,by decide +kernel,by decide +kernel⟩
theorem sc_qbz:FnScope ["self","report"] ["self","report"] (defScope s_qbz):=⟨rfl,rfl,rfl,by decide +kernel,rfl,by decide +kernel,by decide +kernel⟩
theorem sc_qce:FnScope ["self","message","report"] ["self","message","report"] (defScope s_qce):=⟨rfl,rfl,rfl,by decide +kernel,rfl,by decide +kernel,by decide +kernel⟩
theorem sc_qbv:FnScope ["self"] ["self"] (defScope s_qbv):=⟨rfl,rfl,rfl,by decide +kernel,rfl,by decide +kernel,by decide +kernel⟩
theorem sc_qbw:FnScope ["self"] ["self"] (defScope s_qbw):=⟨rfl,rfl,rfl,by decide +kernel,rfl,by decide +kernel,by decide +kernel⟩
theorem sc_qac:FnScope ["self","number","request"] ["self","number","request"] (defScope s_qac):=⟨rfl,rfl,rfl,by decide +kernel,rfl,by decide +kernel,by decide +kernel⟩
theorem sc_qad:FnScope ["self","message"] ["self","message"] (defScope s_qad):=⟨rfl,rfl,rfl,by decide +kernel,rfl,by decide +kernel,by decide +kernel⟩
theorem sc_qab:FnScope ["self","message"] ["self","message"] (defScope s_qab):=⟨rfl,rfl,rfl,by decide +kernel,rfl,by decide +kernel,by decide +kernel⟩
theorem sc_qag:FnScope ["self","request"] ["self","request"] (defScope s_qag):=⟨rfl,rfl,rfl,by decide +kernel,rfl,by decide +kernel,by decide +kernel⟩
theorem sc_qaf:FnScope ["self"] ["self"] (defScope s_qaf):=⟨rfl,rfl,rfl,by decide +kernel,rfl,by decide +kernel,by decide +kernel⟩
theorem sc_qae:FnScope ["self"] ["self"] (defScope s_qae):=⟨rfl,rfl,rfl,by decide +kernel,rfl,by decide +kernel,by decide +kernel⟩
theorem sc_qaj:FnScope ["self","request","now","report"] ["self","request","now","report"] (defScope s_qaj):=⟨rfl,rfl,rfl,by decide +kernel,rfl,by decide +kernel,by decide +kernel⟩
theorem sc_qai:FnScope ["self","now"] ["self","now"] (defScope s_qai):=⟨rfl,rfl,rfl,by decide +kernel,rfl,by decide +kernel,by decide +kernel⟩
theorem sc_qah:FnScope ["self","reply","now","report"] ["self","reply","now","report"] (defScope s_qah):=⟨rfl,rfl,rfl,by decide +kernel,rfl,by decide +kernel,by decide +kernel⟩
theorem sc_qaa:FnScope ["self","now"] ["self","now"] (defScope s_qaa):=⟨rfl,rfl,rfl,by decide +kernel,rfl,by decide +kernel,by decide +kernel⟩
theorem sc_qan:FnScope ["self","number","request"] ["self","number","request"] (defScope s_qan):=⟨rfl,rfl,rfl,by decide +kernel,rfl,by decide +kernel,by decide +kernel⟩
theorem sc_qal:FnScope ["self","now","report"] ["self","now","report"] (defScope s_qal):=⟨rfl,rfl,rfl,by decide +kernel,rfl,by decide +kernel,by decide +kernel⟩
theorem sc_qak:FnScope ["self","message"] ["self","message"] (defScope s_qak):=⟨rfl,rfl,rfl,by decide +kernel,rfl,by decide +kernel,by decide +kernel⟩
theorem sc_qap:FnScope ["self"] ["self"] (defScope s_qap):=⟨rfl,rfl,rfl,by decide +kernel,rfl,by decide +kernel,by decide +kernel⟩
theorem sc_qao:FnScope ["self"] ["self"] (defScope s_qao):=⟨rfl,rfl,rfl,by decide +kernel,rfl,by decide +kernel,by decide +kernel⟩
theorem sc_qas:FnScope ["self","reply","now","report"] ["self","reply","now","report"] (defScope s_qas):=⟨rfl,rfl,rfl,by decide +kernel,rfl,by decide +kernel,by decide +kernel⟩
theorem sc_qaq:FnScope ["self","reply","now","report"] ["self","reply","now","report"] (defScope s_qaq):=⟨rfl,rfl,rfl,by decide +kernel,rfl,by decide +kernel,by decide +kernel⟩
theorem sc_qar:FnScope ["self","reply","now","report"] ["self","reply","now","report"] (defScope s_qar):=⟨rfl,rfl,rfl,by decide +kernel,rfl,by decide +kernel,by decide +kernel⟩
theorem sc_qam:FnScope ["self","now","wait"] ["self","now","wait"] (defScope s_qam):=⟨rfl,rfl,rfl,by decide +kernel,rfl,by decide +kernel,by decide +kernel⟩
theorem sc_qbj:FnScope ["self","octets","uri","status","headers","via_parts","sequence"] ["self","octets","uri","status","headers"] (defScope s_qbj):=⟨rfl,rfl,rfl,by decide +kernel,rfl,by decide +kernel,by decide +kernel⟩
theorem sc_qbk:FnScope ["self"] ["self"] (defScope s_qbk):=⟨rfl,rfl,rfl,by decide +kernel,rfl,by decide +kernel,by decide +kernel⟩
theorem sc_qbi:FnScope ["self","text"] ["self","text"] (defScope s_qbi):=⟨rfl,rfl,rfl,by decide +kernel,rfl,by decide +kernel,by decide +kernel⟩
theorem sc_qax:FnScope ["self"] ["self"] (defScope s_qax):=⟨rfl,rfl,rfl,by decide +kernel,rfl,by decide +kernel,by decide +kernel⟩
theorem sc_qbc:FnScope ["self","octets","now","request","report","asking"] ["self","octets","now"] (defScope s_qbc):=⟨rfl,rfl,rfl,by decide +kernel,rfl,by decide +kernel,by decide +kernel⟩
theorem sc_qbb:FnScope ["self","number","octets","now","reply","answering","report"] ["self","number","octets","now"] (defScope s_qbb):=⟨rfl,rfl,rfl,by decide +kernel,rfl,by decide +kernel,by decide +kernel⟩
theorem sc_qba:FnScope ["self","octets","now","report","message"] ["self","octets","now"] (defScope s_qba):=⟨rfl,rfl,rfl,by decide +kernel,rfl,by decide +kernel,by decide +kernel⟩
theorem sc_qbh:FnScope ["self","now"] ["self","now"] (defScope s_qbh):=⟨rfl,rfl,rfl,by decide +kernel,rfl,by decide +kernel,by decide +kernel⟩
theorem sc_qbd:FnScope ["self","number","transaction"] ["self","number"] (defScope s_qbd):=⟨rfl,rfl,rfl,by decide +kernel,rfl,by decide +kernel,by decide +kernel⟩
theorem sc_qau:FnScope ["self","now"] ["self","now"] (defScope s_qau):=⟨rfl,rfl,rfl,by decide +kernel,rfl,by decide +kernel,by decide +kernel⟩
theorem sc_qat:FnScope ["self","request","now","staying","transaction"] ["self","request","now"] (defScope s_qat):=⟨rfl,rfl,rfl,by decide +kernel,rfl,by decide +kernel,by decide +kernel⟩
theorem sc_qaw:FnScope ["self","number","reply","now","transaction"] ["self","number","reply","now"] (defScope s_qaw):=⟨rfl,rfl,rfl,by decide +kernel,rfl,by decide +kernel,by decide +kernel⟩
theorem sc_qbe:FnScope ["self","now","transaction"] ["self","now"] (defScope s_qbe):=⟨rfl,rfl,rfl,by decide +kernel,rfl,by decide +kernel,by decide +kernel⟩
theorem sc_qaz:FnScope ["self","now","report","transaction"] ["self","now"] (defScope s_qaz):=⟨rfl,rfl,rfl,by decide +kernel,rfl,by decide +kernel,by decide +kernel⟩
theorem sc_qav:FnScope ["self","transaction"] ["self"] (defScope s_qav):=⟨rfl,rfl,rfl,by decide +kernel,rfl,by decide +kernel,by decide +kernel⟩
theorem sc_qay:FnScope ["self"] ["self"] (defScope s_qay):=⟨rfl,rfl,rfl,by decide +kernel,rfl,by decide +kernel,by decide +kernel⟩
theorem sc_qbf:FnScope ["self","reply","now","report","transaction"] ["self","reply","now","report"] (defScope s_qbf):=⟨rfl,rfl,rfl,by decide +kernel,rfl,by decide +kernel,by decide +kernel⟩
theorem sc_qbg:FnScope ["self","request","now","report","transaction","answering"] ["self","request","now","report"] (defScope s_qbg):=⟨rfl,rfl,rfl,by decide +kernel,rfl,by decide +kernel,by decide +kernel⟩
theorem sc_qbm:FnScope ["self","calls"] ["self","calls"] (defScope s_qbm):=⟨rfl,rfl,rfl,by decide +kernel,rfl,by decide +kernel,by decide +kernel⟩
theorem sc_qbl:FnScope ["self"] ["self"] (defScope s_qbl):=⟨rfl,rfl,rfl,by decide +kernel,rfl,by decide +kernel,by decide +kernel⟩
theorem sc_qbo:FnScope ["self","number"] ["self"] (defScope s_qbo):=⟨rfl,rfl,rfl,by decide +kernel,rfl,by decide +kernel,by decide +kernel⟩
theorem sc_qbn:FnScope ["self","length","start"] ["self"] (defScope s_qbn):=⟨rfl,rfl,rfl,by decide +kernel,rfl,by decide +kernel,by decide +kernel⟩
set_option genInjectivity false in
set_option genSizeOfSpec false in
structure Adr where
  c_Report:Addr
  c_Transaction:Addr
  c_Answering:Addr
  c_Asking:Addr
  c_TooLong:Addr
  c_WrongMessage:Addr
  c_WrongMoment:Addr
  c_WrongTransaction:Addr
  c_NoTransaction:Addr
  c_Message:Addr
  c_End:Addr
  c_Reader:Addr
  c_WORD_SIGNS:Addr
  f_qcu:Addr
  v_qcu:FuncData
  f_qcn:Addr
  v_qcn:FuncData
  f_qco:Addr
  v_qco:FuncData
  f_qcs:Addr
  v_qcs:FuncData
  f_qcr:Addr
  v_qcr:FuncData
  f_qcq:Addr
  v_qcq:FuncData
  f_qcp:Addr
  v_qcp:FuncData
  f_qct:Addr
  v_qct:FuncData
  f_qcj:Addr
  v_qcj:FuncData
  f_qdf:Addr
  v_qdf:FuncData
  f_qcf:Addr
  v_qcf:FuncData
  f_qda:Addr
  v_qda:FuncData
  f_qcm:Addr
  v_qcm:FuncData
  f_qcz:Addr
  v_qcz:FuncData
  f_qcy:Addr
  v_qcy:FuncData
  f_qcx:Addr
  v_qcx:FuncData
  f_qdg:Addr
  v_qdg:FuncData
  f_qcl:Addr
  v_qcl:FuncData
  f_qcv:Addr
  v_qcv:FuncData
  f_qck:Addr
  v_qck:FuncData
  f_qdd:Addr
  v_qdd:FuncData
  f_qdb:Addr
  v_qdb:FuncData
  f_qdc:Addr
  v_qdc:FuncData
  f_qde:Addr
  v_qde:FuncData
  f_qcw:Addr
  v_qcw:FuncData
  f_qci:Addr
  v_qci:FuncData
  f_qch:Addr
  v_qch:FuncData
  f_qcg:Addr
  v_qcg:FuncData
  f_qbr:Addr
  v_qbr:FuncData
  f_qbp:Addr
  v_qbp:FuncData
  f_qbq:Addr
  v_qbq:FuncData
  f_qbu:Addr
  v_qbu:FuncData
  f_qca:Addr
  v_qca:FuncData
  f_qcc:Addr
  v_qcc:FuncData
  f_qcb:Addr
  v_qcb:FuncData
  f_qcd:Addr
  v_qcd:FuncData
  f_qbt:Addr
  v_qbt:FuncData
  f_qbs:Addr
  v_qbs:FuncData
  f_qbx:Addr
  v_qbx:FuncData
  f_qby:Addr
  v_qby:FuncData
  f_qbz:Addr
  v_qbz:FuncData
  f_qce:Addr
  v_qce:FuncData
  f_qbv:Addr
  v_qbv:FuncData
  f_qbw:Addr
  v_qbw:FuncData
  f_qac:Addr
  v_qac:FuncData
  f_qad:Addr
  v_qad:FuncData
  f_qab:Addr
  v_qab:FuncData
  f_qag:Addr
  v_qag:FuncData
  f_qaf:Addr
  v_qaf:FuncData
  f_qae:Addr
  v_qae:FuncData
  f_qaj:Addr
  v_qaj:FuncData
  f_qai:Addr
  v_qai:FuncData
  f_qah:Addr
  v_qah:FuncData
  f_qaa:Addr
  v_qaa:FuncData
  f_qan:Addr
  v_qan:FuncData
  f_qal:Addr
  v_qal:FuncData
  f_qak:Addr
  v_qak:FuncData
  f_qap:Addr
  v_qap:FuncData
  f_qao:Addr
  v_qao:FuncData
  f_qas:Addr
  v_qas:FuncData
  f_qaq:Addr
  v_qaq:FuncData
  f_qar:Addr
  v_qar:FuncData
  f_qam:Addr
  v_qam:FuncData
  f_qbj:Addr
  v_qbj:FuncData
  f_qbk:Addr
  v_qbk:FuncData
  f_qbi:Addr
  v_qbi:FuncData
  f_qax:Addr
  v_qax:FuncData
  f_qbc:Addr
  v_qbc:FuncData
  f_qbb:Addr
  v_qbb:FuncData
  f_qba:Addr
  v_qba:FuncData
  f_qbh:Addr
  v_qbh:FuncData
  f_qbd:Addr
  v_qbd:FuncData
  f_qau:Addr
  v_qau:FuncData
  f_qat:Addr
  v_qat:FuncData
  f_qaw:Addr
  v_qaw:FuncData
  f_qbe:Addr
  v_qbe:FuncData
  f_qaz:Addr
  v_qaz:FuncData
  f_qav:Addr
  v_qav:FuncData
  f_qay:Addr
  v_qay:FuncData
  f_qbf:Addr
  v_qbf:FuncData
  f_qbg:Addr
  v_qbg:FuncData
  f_qbm:Addr
  v_qbm:FuncData
  f_qbl:Addr
  v_qbl:FuncData
  f_qbo:Addr
  v_qbo:FuncData
  f_qbn:Addr
  v_qbn:FuncData
structure Fn (K:PySem.W.Frag) (mg:Str→Option Value) (x:Str) (st:Stmt) (f:Addr) (fd:FuncData) (ps:List Str):Prop where
  fn:Fun K x x st f fd
  at_:mg x=some (.ref f)
  bd:Binds K fd ps []
structure Mt (K:PySem.W.Frag) (C:Addr) (m qual:Str) (st:Stmt) (f:Addr) (fd:FuncData) (ps:List Str):Prop where
  fn:Fun K m qual st f fd
  me:Meth K C m f
  bd:Binds K fd ps []
structure In (K:PySem.W.Frag) (qual:Str) (st:Stmt) (f:Addr) (fd:FuncData) (ps:List Str):Prop where
  fn:Fun K "__init__" qual st f fd
  bd:Binds K fd ps []
structure Tm (K:PySem.W.Frag) (m qual:Str) (st:Stmt) (f:Addr) (fd:FuncData) (ps:List Str):Prop where
  fn:Fun K m qual st f fd
  bd:Binds K fd ps []
def GI (mg:Str→Option Value) (x:Str) (i:Int):Prop:=∃ t,mg x=some (.int i t)
structure TxCls (K:PySem.W.Frag) (A:Adr) (c:Addr):Prop where
  cl:Cls K c
  hc:PySem.W.findIn K (.ref c) "__class__"=some (some (.builtin "object.__class__"))
  ho:PySem.W.mroIn K c (.type "object")=some true
  n_number:NoAttr K c "number"
  n_request:NoAttr K c "request"
  n_state:NoAttr K c "state"
  n_last_sent:NoAttr K c "last_sent"
  n_wait:NoAttr K c "wait"
  n_again_at:NoAttr K c "again_at"
  n_end_at:NoAttr K c "end_at"
  n_over:NoAttr K c "over"
  m_start_again:Meth K c "start_again" A.f_qca
  m_stop_again:Meth K c "stop_again" A.f_qcc
  m_start_end:Meth K c "start_end" A.f_qcb
  m_stop_end:Meth K c "stop_end" A.f_qcd
  m_end_has_come:Meth K c "end_has_come" A.f_qbt
  m_again_has_come:Meth K c "again_has_come" A.f_qbs
  m_run_timers:Meth K c "run_timers" A.f_qbx
  m_send:Meth K c "send" A.f_qby
  m_send_again:Meth K c "send_again" A.f_qbz
  m_tell:Meth K c "tell" A.f_qce
  m_invites:Meth K c "invites" A.f_qbv
  m_is_early:Meth K c "is_early" A.f_qbw
structure Txt (K:PySem.W.Frag) (mg:Str→Option Value) (A:Adr):Prop where
  b_len:mg "len"=none
  b_all:mg "all"=none
  b_ord:mg "ord"=none
  b_min:mg "min"=none
  b_str:mg "str"=none
  b_isinstance:mg "isinstance"=none
  b_range:mg "range"=none
  b_enumerate:mg "enumerate"=none
  g_SENT:GI mg "SENT" 1
  g_TOLD:GI mg "TOLD" 2
  g_LOST:GI mg "LOST" 3
  g_TRYING:GI mg "TRYING" 0
  g_PROCEEDING:GI mg "PROCEEDING" 1
  g_COMPLETED:GI mg "COMPLETED" 2
  g_CONFIRMED:GI mg "CONFIRMED" 3
  g_FIRST_WAIT:GI mg "FIRST_WAIT" 500
  g_LONGEST_WAIT:GI mg "LONGEST_WAIT" 4000
  g_LONG_END:GI mg "LONG_END" 32000
  g_SHORT_END:GI mg "SHORT_END" 5000
  g_LINE_FEED:GI mg "LINE_FEED" 10
  g_CARRIAGE_RETURN:GI mg "CARRIAGE_RETURN" 13
  g_BLANK:GI mg "BLANK" 32
  g_COLON:GI mg "COLON" 58
  g_SEMICOLON:GI mg "SEMICOLON" 59
  g_ZERO:GI mg "ZERO" 48
  g_NINE:GI mg "NINE" 57
  g_WORD_SIGNS:mg "WORD_SIGNS"=some (.ref A.c_WORD_SIGNS)
  sq_WORD_SIGNS:∃ (o:Obj) (its:Array Value) (n:Nat),K.lookup A.c_WORD_SIGNS=some o∧o.cls=.type "tuple"∧o.data=.seq its n∧its.size≤sizeLine∧Vals [.int 33,.int 37,.int 39,.int 42,.int 43,.int 45,.int 46,.int 95,.int 96,.int 126] its.toList
  g_MOST_OCTETS:GI mg "MOST_OCTETS" 8192
  g_SEQUENCE_LIMIT:GI mg "SEQUENCE_LIMIT" 2147483648
  g_MOST_TRANSACTIONS:GI mg "MOST_TRANSACTIONS" 64
  g_TIME_LIMIT:GI mg "TIME_LIMIT" 2147483648
  g_TX_BEGIN:GI mg "TX_BEGIN" 0
  g_TX_SEND:GI mg "TX_SEND" 1
  g_TX_REPLY:GI mg "TX_REPLY" 2
  g_TX_RECEIVE:GI mg "TX_RECEIVE" 3
  g_TX_TICK:GI mg "TX_TICK" 4
  g_Report:mg "Report"=some (.ref A.c_Report)
  mk_Report:Mk K A.c_Report A.f_qbr
  g_Transaction:mg "Transaction"=some (.ref A.c_Transaction)
  g_Answering:mg "Answering"=some (.ref A.c_Answering)
  mk_Answering:Mk K A.c_Answering A.f_qac
  g_Asking:mg "Asking"=some (.ref A.c_Asking)
  mk_Asking:Mk K A.c_Asking A.f_qan
  g_TooLong:mg "TooLong"=some (.ref A.c_TooLong)
  x_TooLong:xIn K A.c_TooLong=true
  g_WrongMessage:mg "WrongMessage"=some (.ref A.c_WrongMessage)
  x_WrongMessage:xIn K A.c_WrongMessage=true
  g_WrongMoment:mg "WrongMoment"=some (.ref A.c_WrongMoment)
  x_WrongMoment:xIn K A.c_WrongMoment=true
  g_WrongTransaction:mg "WrongTransaction"=some (.ref A.c_WrongTransaction)
  x_WrongTransaction:xIn K A.c_WrongTransaction=true
  g_NoTransaction:mg "NoTransaction"=some (.ref A.c_NoTransaction)
  x_NoTransaction:xIn K A.c_NoTransaction=true
  g_Message:mg "Message"=some (.ref A.c_Message)
  mk_Message:Mk K A.c_Message A.f_qbj
  g_End:mg "End"=some (.ref A.c_End)
  mk_End:Mk K A.c_End A.f_qax
  g_Reader:mg "Reader"=some (.ref A.c_Reader)
  mk_Reader:Mk K A.c_Reader A.f_qbm
  cl_Report:Cls K A.c_Report
  n_Report_things:NoAttr K A.c_Report "things"
  n_Report_numbers:NoAttr K A.c_Report "numbers"
  cl_Message:Cls K A.c_Message
  n_Message_octets:NoAttr K A.c_Message "octets"
  n_Message_uri:NoAttr K A.c_Message "uri"
  n_Message_status:NoAttr K A.c_Message "status"
  n_Message_via:NoAttr K A.c_Message "via"
  n_Message_sender:NoAttr K A.c_Message "sender"
  n_Message_target:NoAttr K A.c_Message "target"
  n_Message_call_name:NoAttr K A.c_Message "call_name"
  n_Message_by_whom:NoAttr K A.c_Message "by_whom"
  n_Message_branch:NoAttr K A.c_Message "branch"
  n_Message_sequence_number:NoAttr K A.c_Message "sequence_number"
  n_Message_method:NoAttr K A.c_Message "method"
  cl_End:Cls K A.c_End
  n_End_time:NoAttr K A.c_End "time"
  n_End_begun:NoAttr K A.c_End "begun"
  n_End_transactions:NoAttr K A.c_End "transactions"
  cl_Reader:Cls K A.c_Reader
  n_Reader_calls:NoAttr K A.c_Reader "calls"
  n_Reader_place:NoAttr K A.c_Reader "place"
  tx_Asking:TxCls K A A.c_Asking
  tx_Answering:TxCls K A A.c_Answering
  hn:PySem.W.specialIn K (.builtin "object.__class__") "__get__"=some (some (.builtin "getset_descriptor.__get__"))
  htk:PySem.W.takesIn K (.builtin "object.__class__")=some true
  i_Asking_Asking:PySem.W.kitOne K (.ref A.c_Asking) (.ref A.c_Asking)=some true
  i_Asking_Answering:PySem.W.kitOne K (.ref A.c_Asking) (.ref A.c_Answering)=some false
  i_Answering_Asking:PySem.W.kitOne K (.ref A.c_Answering) (.ref A.c_Asking)=some false
  i_Answering_Answering:PySem.W.kitOne K (.ref A.c_Answering) (.ref A.c_Answering)=some true
  c_Transaction_init:CFn K A.c_Transaction A.f_qbu "__init__"
  ne_AA:A.c_Asking≠A.c_Answering
  nm_Report:A.c_Report≠A.c_Message
  nm_Asking:A.c_Asking≠A.c_Message
  nm_Answering:A.c_Answering≠A.c_Message
  nm_End:A.c_End≠A.c_Message
  nm_Reader:A.c_Reader≠A.c_Message
  ne_TooLong_WrongMessage:A.c_TooLong≠A.c_WrongMessage
  ne_TooLong_WrongMoment:A.c_TooLong≠A.c_WrongMoment
  ne_TooLong_WrongTransaction:A.c_TooLong≠A.c_WrongTransaction
  ne_TooLong_NoTransaction:A.c_TooLong≠A.c_NoTransaction
  ne_WrongMessage_WrongMoment:A.c_WrongMessage≠A.c_WrongMoment
  ne_WrongMessage_WrongTransaction:A.c_WrongMessage≠A.c_WrongTransaction
  ne_WrongMessage_NoTransaction:A.c_WrongMessage≠A.c_NoTransaction
  ne_WrongMoment_WrongTransaction:A.c_WrongMoment≠A.c_WrongTransaction
  ne_WrongMoment_NoTransaction:A.c_WrongMoment≠A.c_NoTransaction
  ne_WrongTransaction_NoTransaction:A.c_WrongTransaction≠A.c_NoTransaction
  d_qcu:Fn K mg "octets_of" s_qcu A.f_qcu A.v_qcu ["text"]
  d_qcn:Fn K mg "is_digit" s_qcn A.f_qcn A.v_qcn ["octet"]
  d_qco:Fn K mg "is_letter" s_qco A.f_qco A.v_qco ["octet"]
  d_qcs:Fn K mg "is_word_octet" s_qcs A.f_qcs A.v_qcs ["octet"]
  d_qcr:Fn K mg "is_word" s_qcr A.f_qcr A.v_qcr ["row"]
  d_qcq:Fn K mg "is_visible" s_qcq A.f_qcq A.v_qcq ["row"]
  d_qcp:Fn K mg "is_number" s_qcp A.f_qcp A.v_qcp ["row","most_digits"]
  d_qct:Fn K mg "number_of" s_qct A.f_qct A.v_qct ["digits"]
  d_qcj:Fn K mg "begins_with" s_qcj A.f_qcj A.v_qcj ["row","start"]
  d_qdf:Fn K mg "split_at" s_qdf A.f_qdf A.v_qdf ["row","separator"]
  d_qcf:Fn K mg "acknowledgement" s_qcf A.f_qcf A.v_qcf ["request","reply"]
  d_qda:Fn K mg "read_message" s_qda A.f_qda A.v_qda ["octets"]
  d_qcm:Fn K mg "head_length" s_qcm A.f_qcm A.v_qcm ["octets"]
  d_qcz:Fn K mg "read_lines" s_qcz A.f_qcz A.v_qcz ["head"]
  d_qcy:Fn K mg "read_line" s_qcy A.f_qcy A.v_qcy ["row"]
  d_qcx:Fn K mg "read_header" s_qcx A.f_qcx A.v_qcx ["line"]
  d_qdg:Fn K mg "values_of" s_qdg A.f_qdg A.v_qdg ["headers","name"]
  d_qcl:Fn K mg "first_value" s_qcl A.f_qcl A.v_qcl ["headers","name"]
  d_qcv:Fn K mg "only_value" s_qcv A.f_qcv A.v_qcv ["headers","name"]
  d_qck:Fn K mg "check_body_length" s_qck A.f_qck A.v_qck ["headers","body"]
  d_qdd:Fn K mg "read_status" s_qdd A.f_qdd A.v_qdd ["line"]
  d_qdb:Fn K mg "read_request" s_qdb A.f_qdb A.v_qdb ["octets","line","headers"]
  d_qdc:Fn K mg "read_sequence" s_qdc A.f_qdc A.v_qdc ["value"]
  d_qde:Fn K mg "read_via" s_qde A.f_qde A.v_qde ["value"]
  d_qcw:Fn K mg "read_branch" s_qcw A.f_qcw A.v_qcw ["parts"]
  d_qci:Fn K mg "answers" s_qci A.f_qci A.v_qci ["calls"]
  d_qch:Fn K mg "answer_or_refusal" s_qch A.f_qch A.v_qch ["end","call","reader"]
  d_qcg:Fn K mg "answer_call" s_qcg A.f_qcg A.v_qcg ["end","call","reader"]
  d_qbr:In K "Report.__init__" s_qbr A.f_qbr A.v_qbr ["self"]
  d_qbp:Mt K A.c_Report "add" "Report.add" s_qbp A.f_qbp A.v_qbp ["self","kind","transaction_number","octets"]
  d_qbq:Mt K A.c_Report "answer" "Report.answer" s_qbq A.f_qbq A.v_qbq ["self"]
  d_qbu:In K "Transaction.__init__" s_qbu A.f_qbu A.v_qbu ["self","number","request","state"]
  d_qca:Tm K "start_again" "Transaction.start_again" s_qca A.f_qca A.v_qca ["self","now","wait"]
  d_qcc:Tm K "stop_again" "Transaction.stop_again" s_qcc A.f_qcc A.v_qcc ["self"]
  d_qcb:Tm K "start_end" "Transaction.start_end" s_qcb A.f_qcb A.v_qcb ["self","now","wait"]
  d_qcd:Tm K "stop_end" "Transaction.stop_end" s_qcd A.f_qcd A.v_qcd ["self"]
  d_qbt:Tm K "end_has_come" "Transaction.end_has_come" s_qbt A.f_qbt A.v_qbt ["self","now"]
  d_qbs:Tm K "again_has_come" "Transaction.again_has_come" s_qbs A.f_qbs A.v_qbs ["self","now"]
  d_qbx:Tm K "run_timers" "Transaction.run_timers" s_qbx A.f_qbx A.v_qbx ["self","now","report"]
  d_qby:Tm K "send" "Transaction.send" s_qby A.f_qby A.v_qby ["self","octets","report"]
  d_qbz:Tm K "send_again" "Transaction.send_again" s_qbz A.f_qbz A.v_qbz ["self","report"]
  d_qce:Tm K "tell" "Transaction.tell" s_qce A.f_qce A.v_qce ["self","message","report"]
  d_qbv:Tm K "invites" "Transaction.invites" s_qbv A.f_qbv A.v_qbv ["self"]
  d_qbw:Tm K "is_early" "Transaction.is_early" s_qbw A.f_qbw A.v_qbw ["self"]
  d_qac:In K "Answering.__init__" s_qac A.f_qac A.v_qac ["self","number","request"]
  d_qad:Mt K A.c_Answering "is_from_there" "Answering.is_from_there" s_qad A.f_qad A.v_qad ["self","message"]
  d_qab:Mt K A.c_Answering "fits" "Answering.fits" s_qab A.f_qab A.v_qab ["self","message"]
  d_qag:Mt K A.c_Answering "owns_request" "Answering.owns_request" s_qag A.f_qag A.v_qag ["self","request"]
  d_qaf:Mt K A.c_Answering "next_wait" "Answering.next_wait" s_qaf A.f_qaf A.v_qaf ["self"]
  d_qae:Mt K A.c_Answering "is_lost_at_end" "Answering.is_lost_at_end" s_qae A.f_qae A.v_qae ["self"]
  d_qaj:Mt K A.c_Answering "take_request" "Answering.take_request" s_qaj A.f_qaj A.v_qaj ["self","request","now","report"]
  d_qai:Mt K A.c_Answering "take_acknowledgement" "Answering.take_acknowledgement" s_qai A.f_qai A.v_qai ["self","now"]
  d_qah:Mt K A.c_Answering "send_reply" "Answering.send_reply" s_qah A.f_qah A.v_qah ["self","reply","now","report"]
  d_qaa:Mt K A.c_Answering "complete" "Answering.complete" s_qaa A.f_qaa A.v_qaa ["self","now"]
  d_qan:In K "Asking.__init__" s_qan A.f_qan A.v_qan ["self","number","request"]
  d_qal:Mt K A.c_Asking "begin" "Asking.begin" s_qal A.f_qal A.v_qal ["self","now","report"]
  d_qak:Mt K A.c_Asking "asks_like" "Asking.asks_like" s_qak A.f_qak A.v_qak ["self","message"]
  d_qap:Mt K A.c_Asking "next_wait" "Asking.next_wait" s_qap A.f_qap A.v_qap ["self"]
  d_qao:Mt K A.c_Asking "is_lost_at_end" "Asking.is_lost_at_end" s_qao A.f_qao A.v_qao ["self"]
  d_qas:Mt K A.c_Asking "take_reply" "Asking.take_reply" s_qas A.f_qas A.v_qas ["self","reply","now","report"]
  d_qaq:Mt K A.c_Asking "take_invite_reply" "Asking.take_invite_reply" s_qaq A.f_qaq A.v_qaq ["self","reply","now","report"]
  d_qar:Mt K A.c_Asking "take_other_reply" "Asking.take_other_reply" s_qar A.f_qar A.v_qar ["self","reply","now","report"]
  d_qam:Mt K A.c_Asking "complete" "Asking.complete" s_qam A.f_qam A.v_qam ["self","now","wait"]
  d_qbj:In K "Message.__init__" s_qbj A.f_qbj A.v_qbj ["self","octets","uri","status","headers"]
  d_qbk:Mt K A.c_Message "is_request" "Message.is_request" s_qbk A.f_qbk A.v_qbk ["self"]
  d_qbi:Mt K A.c_Message "has_method" "Message.has_method" s_qbi A.f_qbi A.v_qbi ["self","text"]
  d_qax:In K "End.__init__" s_qax A.f_qax A.v_qax ["self"]
  d_qbc:Mt K A.c_End "send" "End.send" s_qbc A.f_qbc A.v_qbc ["self","octets","now"]
  d_qbb:Mt K A.c_End "reply" "End.reply" s_qbb A.f_qbb A.v_qbb ["self","number","octets","now"]
  d_qba:Mt K A.c_End "receive" "End.receive" s_qba A.f_qba A.v_qba ["self","octets","now"]
  d_qbh:Mt K A.c_End "tick" "End.tick" s_qbh A.f_qbh A.v_qbh ["self","now"]
  d_qbd:Mt K A.c_End "state_of" "End.state_of" s_qbd A.f_qbd A.v_qbd ["self","number"]
  d_qau:Mt K A.c_End "check_moment" "End.check_moment" s_qau A.f_qau A.v_qau ["self","now"]
  d_qat:Mt K A.c_End "check_may_ask" "End.check_may_ask" s_qat A.f_qat A.v_qat ["self","request","now"]
  d_qaw:Mt K A.c_End "find_to_answer" "End.find_to_answer" s_qaw A.f_qaw A.v_qaw ["self","number","reply","now"]
  d_qbe:Mt K A.c_End "staying_at" "End.staying_at" s_qbe A.f_qbe A.v_qbe ["self","now"]
  d_qaz:Mt K A.c_End "pass_time" "End.pass_time" s_qaz A.f_qaz A.v_qaz ["self","now"]
  d_qav:Mt K A.c_End "drop_those_over" "End.drop_those_over" s_qav A.f_qav A.v_qav ["self"]
  d_qay:Mt K A.c_End "new_number" "End.new_number" s_qay A.f_qay A.v_qay ["self"]
  d_qbf:Mt K A.c_End "take_reply" "End.take_reply" s_qbf A.f_qbf A.v_qbf ["self","reply","now","report"]
  d_qbg:Mt K A.c_End "take_request" "End.take_request" s_qbg A.f_qbg A.v_qbg ["self","request","now","report"]
  d_qbm:In K "Reader.__init__" s_qbm A.f_qbm A.v_qbm ["self","calls"]
  d_qbl:Mt K A.c_Reader "has_more" "Reader.has_more" s_qbl A.f_qbl A.v_qbl ["self"]
  d_qbo:Mt K A.c_Reader "take_number" "Reader.take_number" s_qbo A.f_qbo A.v_qbo ["self"]
  d_qbn:Mt K A.c_Reader "take_message" "Reader.take_message" s_qbn A.f_qbn A.v_qbn ["self"]
def IsTx (A:Adr) (c:Addr):Prop:=c=A.c_Asking∨c=A.c_Answering
theorem Txt.tx {K:PySem.W.Frag} {mg:Str→Option Value} {A:Adr} (T:Txt K mg A) {c:Addr} (h:IsTx A c):TxCls K A c:=by
  rcases h with rfl | rfl
  · exact T.tx_Asking
  · exact T.tx_Answering
section
variable {X:Cx}
theorem pgi {x:Str} {i:Int} {pos:Pos} (h:GI X.mg x i) (hg:Gl X x:=by rfl) (hd:(x == ("__debug__":Str))=false:=by decide):PE X (.Name x pos) (tC (.int i)):=by
  obtain ⟨t,e⟩:=h
  exact pe_glob hg e ⟨t,rfl⟩ hd
theorem pgR {x:Str} {a:Addr} {pos:Pos} (h:X.mg x=some (.ref a)) (hg:Gl X x:=by rfl) (hd:(x == ("__debug__":Str))=false:=by decide):PE X (.Name x pos) (tC (.ref a)):=pe_glob hg h rfl hd
end
def tMethD (PC:Addr→Prop) (m:Str) (sp:Sp) (dvs:List V) (E:XK) (ta:TE) (t:TA):TE:=fun σ H Q=>ta σ H fun x H1=>∃ a dx fs C,x=.ref a∧H1 a=some (.ins C dx fs)∧PC C∧fs.lookup m=none ∧
  t σ H1 fun vs H2=>sp (x::(vs++dvs)) H2 Q E
section
variable {X:Cx} {CX:CXT} {k:Nat} {f:Addr} {fd:FuncData} {ps:List Str} {sp:Sp} {dvs:List V} {ds:List Value} {E:XK} {m:Str} {pos apos:Pos} {e o:Expr} {es:List Expr} {ta:TE} {t:TA} {PC:Addr→Prop}
theorem pe_methD {pl:Sem Bool} (he:PE X o ta) (hm:∀ C,PC C→Cls X.K C∧Meth X.K C m f) (F:FnOk X.prog X.w X.K X.mg X.base CX k f fd ps sp) (hr:Room k X.A) (hb:Binds X.K fd ps ds) (hd:Vals dvs ds) (hx:Passes CX X E) (ha:PA X (e::es) t)
    (hst:starEach (e::es) X.env=(false,eval e X.env)::starEach es X.env:=by rfl) (hpl:(backTo pos (starEach es X.env)).any (·.1)=false:=by rfl)
    (ht:eval (.Call (.Attribute o m apos) (e::es) [] pos) X.env=(do
      let ov ← eval o X.env
      standAt apos.atName
      let (f,first) ← holding [ov] (getMethod ov m pl)
      callWith pos f first (backTo pos (starEach (e::es) X.env)) (backToKw pos (keywordEach [] X.env))):=by rfl) :
    PE X (.Call (.Attribute o m apos) (e::es) [] pos) (tMethD PC m sp dvs E ta t):=by
  intro pins s σ H Q I h
  refine PySem.W.methodCall_KW (pl:=pl) (thn (he pins s σ H _ I h) fun u s1 ⟨x,H1,I1,rx,a,dx,fs,C,ex,ea,pc,l,q⟩=>?_) ht
  subst ex
  obtain rfl:u=Value.ref a:=rx
  obtain ⟨c,hm⟩:=hm C pc
  refine getmeth_ok I1 ea c hm l ?_
  refine PySem.W.callWith_K (first:=[.ref a]) (h₀:=X.base) I.ok.mod.kin hm.kp (thn (ha pos pins s1 σ H1 _ I1 q) fun us s2 ⟨vs,H2,I2,r,q2⟩=>⟨I2.kIn,?_⟩) hst hpl
  exact run_fn (us:=.ref a::us) (vs:=.ref a::vs) F hr hb hd hx I2 (.cons rfl r) q2
end
section
variable {P:Program} {w:World} {K:PySem.W.Frag} {mg:Str→Option Value} {base:Heap}
theorem Fun.okE {x qual:Str} {st:Stmt} {f:Addr} {fd:FuncData} {N ps:List Str} {k:Nat} {sp:Sp} (F:Fun K x qual st f fd) (S:FnScope N ps (defScope st)) (len:∀ vs H Q E,sp vs H Q E→vs.length=ps.length)
    (hbody:∀ (cdv:Value) (A:Around) (outer:List Env) (s:Shared) (H:Hp) (vs:List V) (Q:VK) (E:XK),Room k (A.deeper (envOfC qual (defScope st) s.heap.objs.size f cdv))→sp vs H Q E→Body (cxOf (CXE P w) P w K mg base N qual (defScope st) f cdv A outer s H E) E →
      ∃ t,PSs (cxOf (CXE P w) P w K mg base N qual (defScope st) f cdv A outer s H E) (defBody st) t∧t { nx:=fun _ H'=>Q .non H',rt:=Q } (start N vs) H):FnOk P w K mg base (CXE P w) (k+1) f fd ps sp:=by
  obtain ⟨oc,od,kV,doc,pm,an,cdv,ct,osl,rfl,lk,hcd⟩:=F.ex
  refine fn_of lk hcd S len fun A outer s H vs Q E hr hsp=>?_
  exact hbody cdv A outer s H vs Q E hr hsp bodyOf
end
end L2

namespace L2
open PySem PySem.Spec PyProof.Rows
abbrev Bt:=Ql47.B
def by1 (c:UInt8):V:=.int ((c.toNat:Nat):Int)
def LB (b:Bt):List V:=b.map by1
def BIG:Nat:=1000000
theorem big_size:BIG≤sizeLine:=by decide
structure IsB (H:Hp) (a:Addr) (b:Bt):Prop where
  at_:H a=some (.lst (LB b))
  len:b.length≤BIG
theorem IsB.same {H H':Hp} {a:Addr} {b:Bt} (h:IsB H a b) (s:Same H H'):IsB H' a b:=⟨s _ _ h.at_,h.len⟩
theorem IsB.sq {K:PySem.W.Frag} {H:Hp} {a:Addr} {b:Bt} (h:IsB H a b):SqL K H a (LB b):=SqL.of h.at_
theorem LB_length (b:Bt):(LB b).length=b.length:=List.length_map _
theorem by1_inj {c d:UInt8} (h:by1 c=by1 d):c=d:=by
  have e:((c.toNat:Nat):Int)=((d.toNat:Nat):Int):=by injection h
  exact UInt8.toNat_inj.mp (by omega)
theorem LB_inj {b c:Bt} (h:LB b=LB c):b=c:=by
  unfold LB at h
  induction b generalizing c with
  | nil =>
    cases c with
    | nil=>rfl
    | cons _ _=>cases h
  | cons x r ih =>
    cases c with
    | nil=>cases h
    | cons y t =>
      rw [List.map_cons,List.map_cons] at h
      injection h with h1 h2
      rw [by1_inj h1,ih h2]
theorem Same.put {H H1:Hp} {p:Addr} {o:HO} (s:Same H H1) (h:H1 p=Option.none):Same H (upd H1 p o):=fun b u e=>by
  rw [upd_ne (ne_of_none (s b u e) h)]
  exact s b u e
theorem Same.put0 {H:Hp} {p:Addr} {o:HO} (h:H p=Option.none):Same H (upd H p o):=(Same.refl H).put h
theorem Same.putN {H H1:Hp} {p:Addr} {o:HO} (s:Same H H1) (h:H p=Option.none):Same H (upd H1 p o):=fun b u e=>by
  rw [upd_ne (ne_of_none e h)]
  exact s b u e
theorem bt_len:bootBuiltins "len"=some (.builtin "len"):=by decide +kernel
theorem bt_all:bootBuiltins "all"=some (.builtin "all"):=by decide +kernel
theorem bt_ord:bootBuiltins "ord"=some (.builtin "ord"):=by decide +kernel
theorem bt_min:bootBuiltins "min"=some (.builtin "min"):=by decide +kernel
theorem bt_isinstance:bootBuiltins "isinstance"=some (.builtin "isinstance"):=by decide +kernel
theorem bt_str:bootBuiltins "str"=some (.type "str"):=by decide +kernel
theorem wipe_one (σ:St) (i:Nat):wipe σ [i]=σ.set i none:=rfl
theorem wipe_set (σ:St) (i:Nat) (x:V):wipe ((wipe σ [i]).set i (some x)) [i]=wipe σ [i]:=by
  rw [wipe_one,wipe_one,List.set_set,List.set_set]
theorem Paired.snoc {α β:Type} {F:α→β→Prop}:∀ {l:List α} {m:List β} {x:α} {y:β},Paired F l m→F x y→Paired F (l++[x]) (m++[y])
  | _,_,_,_,.nil,h=>.cons h .nil
  | _,_,_,_,.cons r t,h=>.cons r (Paired.snoc t h)
section
variable {tt:TT} {te:TE} {i:Nat} {σ:St} {H1:Hp} {D:Addr} {Qd:Hp→Prop}
theorem lc_gen {J:It} {xs:List V} (hJ:∀ k H,Same H1 H→(k < xs.length→J.go k H)∧(xs.length≤k→J.stop k H)∧∀ x H',J.yld k H x H'→H'=H∧xs[k]?=some x)
    (p:V→Bool) (R:V→V→Hp→Prop) (hR:∀ x y (H H':Hp),(∀ b o,H b=some o→b≠D→H' b=some o)→R x y H→R x y H') (hz:xs.length≤sizeLine) (hD:H1 D=none)
    (ht:∀ x∈xs,∀ (H:Hp) (Q:Bool→Hp→Prop),Same H1 H→(∀ H',Same H H'→Q (p x) H')→tt ((wipe σ [i]).set i (some x)) H Q)
    (he:∀ x∈xs,p x=true→∀ (H:Hp) (Q:VK),Same H1 H→H D≠none→(∀ y H',Same H H'→R x y H'→Q y H')→te ((wipe σ [i]).set i (some x)) H Q)
    (hd:∀ ys H',Same H1 H'→H' D=some (.lst ys)→Paired (fun x y=>R x y H') (xs.filter p) ys→Qd H') :
    ∃ W:Nat→Nat→Hp→Prop,(∃ m,W 0 m (upd H1 D (.lst [])))∧∀ k m H,W k m H →
      (J.stop k H∧Qd H)∨(J.go k H∧∃ Nx:Hp→Prop,(∀ H',Nx H'→∃ m',m' < m∧W (k+1) m' H')∧∀ x H',J.yld k H x H'→gName i x (wipe σ [i]) H' fun σ2 H2=>wipe σ2 [i]=wipe σ [i]∧tt σ2 H2 fun b H3 =>
        if b=true then te σ2 H3 fun y H4=>∃ acc,H4 D=some (.lst acc)∧acc.length < sizeLine∧Nx (upd H4 D (.lst (acc++[y]))) else Nx H3):=by
  refine ⟨fun k m H=>m=xs.length - k∧k≤xs.length∧Same H1 H∧∃ ys,H D=some (.lst ys)∧ys.length≤k∧Paired (fun x y=>R x y H) ((xs.take k).filter p) ys,⟨xs.length,by simp,Nat.zero_le _,Same.put0 hD,[],upd_same,Nat.le_refl _,.nil⟩,?_⟩
  rintro k m H ⟨rfl,hk,sH,ys,hys,hlen,pr⟩
  obtain ⟨j1,j2,j3⟩:=hJ k H sH
  by_cases hlt:k < xs.length
  · refine .inr ⟨j1 hlt,fun H'=>Same H1 H'∧∃ ys,H' D=some (.lst ys)∧ys.length≤k+1∧Paired (fun x y=>R x y H') ((xs.take (k+1)).filter p) ys,fun H' ⟨s',ys',a1,a2,a3⟩=>⟨xs.length - (k+1),by omega,rfl,hlt,s',ys',a1,a2,a3⟩,fun x H' hy=>?_⟩
    obtain ⟨rfl,hx⟩:=j3 x H' hy
    have hm:x∈xs:=List.mem_of_getElem? hx
    have hf:(xs.take (k+1)).filter p=(xs.take k).filter p++(if p x=true then [x] else []):=by
      rw [List.take_succ,hx,List.filter_append]
      by_cases hp:p x=true
      · simp [hp]
      · simp [hp]
    refine ⟨wipe_set σ i x,ht x hm H' _ sH fun H2 s2=>?_⟩
    by_cases hp:p x=true
    · rw [if_pos hp]
      refine he x hm hp H2 _ (sH.trans s2) (by rw [s2 _ _ hys]; simp) fun y H4 s4 r4=>?_
      have hD4:=s4 _ _ (s2 _ _ hys)
      refine ⟨ys,hD4,by omega,?_,ys++[y],upd_same,by rw [List.length_append]; exact Nat.succ_le_succ hlen,?_⟩
      · exact Same.putN ((sH.trans s2).trans s4) hD
      · rw [hf,if_pos hp]
        have k4:∀ c o,H4 c=some o→c≠D→upd H4 D (.lst (ys++[y])) c=some o:=fun c o e n=>by rw [upd_ne n]; exact e
        exact Paired.snoc (Paired.mapP pr fun a b z=>hR a b _ _ (fun c o e n=>k4 c o ((s2.trans s4) c o e) n) z) (hR x y _ _ k4 r4)
    · rw [if_neg (by simpa using hp)]
      refine ⟨sH.trans s2,ys,s2 _ _ hys,by omega,?_⟩
      rw [hf,if_neg hp,List.append_nil]
      exact Paired.mapP pr fun a b z=>hR a b _ _ (fun c o e _=>s2 c o e) z
  · have e:k=xs.length:=by omega
    subst e
    refine .inl ⟨j2 (Nat.le_refl _),hd ys H sH hys ?_⟩
    rw [List.take_length] at pr
    exact pr
theorem lc_lst {K:PySem.W.Frag} {a:Addr} {xs:List V} (hS:SqL K H1 a xs) (p:V→Bool) (R:V→V→Hp→Prop) (hR:∀ x y (H H':Hp),(∀ b o,H b=some o→b≠D→H' b=some o)→R x y H→R x y H') (hz:xs.length≤sizeLine) (hD:H1 D=none)
    (ht:∀ x∈xs,∀ (H:Hp) (Q:Bool→Hp→Prop),Same H1 H→(∀ H',Same H H'→Q (p x) H')→tt ((wipe σ [i]).set i (some x)) H Q)
    (he:∀ x∈xs,p x=true→∀ (H:Hp) (Q:VK),Same H1 H→H D≠none→(∀ y H',Same H H'→R x y H'→Q y H')→te ((wipe σ [i]).set i (some x)) H Q)
    (hd:∀ ys H',Same H1 H'→H' D=some (.lst ys)→Paired (fun x y=>R x y H') (xs.filter p) ys→Qd H') :
    ∃ W:Nat→Nat→Hp→Prop,(∃ m,W 0 m (upd H1 D (.lst [])))∧∀ k m H,W k m H →
      ((Itl K a).stop k H∧Qd H)∨((Itl K a).go k H∧∃ Nx:Hp→Prop,(∀ H',Nx H'→∃ m',m' < m∧W (k+1) m' H')∧∀ x H',(Itl K a).yld k H x H'→gName i x (wipe σ [i]) H' fun σ2 H2=>wipe σ2 [i]=wipe σ [i]∧tt σ2 H2 fun b H3 =>
        if b=true then te σ2 H3 fun y H4=>∃ acc,H4 D=some (.lst acc)∧acc.length < sizeLine∧Nx (upd H4 D (.lst (acc++[y]))) else Nx H3) :=
  lc_gen (fun k H s=>⟨fun h=>⟨xs,xs[k],s.seq hS,by simp [h]⟩,fun h=>⟨xs,s.seq hS,h⟩,fun x H' y=>⟨y.1,y.2 xs (s.seq hS)⟩⟩) p R hR hz hD ht he hd
theorem lc_txt {x:Str} (p:V→Bool) (R:V→V→Hp→Prop) (hR:∀ x y (H H':Hp),(∀ b o,H b=some o→b≠D→H' b=some o)→R x y H→R x y H') (hz:x.cps.size≤sizeLine) (hD:H1 D=none)
    (ht:∀ v∈x.cps.toList.map (fun c=>V.str ⟨#[c]⟩),∀ (H:Hp) (Q:Bool→Hp→Prop),Same H1 H→(∀ H',Same H H'→Q (p v) H')→tt ((wipe σ [i]).set i (some v)) H Q)
    (he:∀ v∈x.cps.toList.map (fun c=>V.str ⟨#[c]⟩),p v=true→∀ (H:Hp) (Q:VK),Same H1 H→H D≠none→(∀ y H',Same H H'→R v y H'→Q y H')→te ((wipe σ [i]).set i (some v)) H Q)
    (hd:∀ ys H',Same H1 H'→H' D=some (.lst ys)→Paired (fun x y=>R x y H') ((x.cps.toList.map (fun c=>V.str ⟨#[c]⟩)).filter p) ys→Qd H') :
    ∃ W:Nat→Nat→Hp→Prop,(∃ m,W 0 m (upd H1 D (.lst [])))∧∀ k m H,W k m H →
      ((Its x).stop k H∧Qd H)∨((Its x).go k H∧∃ Nx:Hp→Prop,(∀ H',Nx H'→∃ m',m' < m∧W (k+1) m' H')∧∀ v H',(Its x).yld k H v H'→gName i v (wipe σ [i]) H' fun σ2 H2=>wipe σ2 [i]=wipe σ [i]∧tt σ2 H2 fun b H3 =>
        if b=true then te σ2 H3 fun y H4=>∃ acc,H4 D=some (.lst acc)∧acc.length < sizeLine∧Nx (upd H4 D (.lst (acc++[y]))) else Nx H3):=by
  have hl:(x.cps.toList.map (fun c=>V.str ⟨#[c]⟩)).length=x.cps.size:=by simp
  refine lc_gen (xs:=x.cps.toList.map (fun c=>V.str ⟨#[c]⟩)) (fun k H s=>⟨fun h=>by rw [hl] at h; exact h,fun h=>by rw [hl] at h; exact h,fun v H' y=>⟨y.1,?_⟩⟩) p R hR (by rw [hl]; exact hz) hD ht he hd
  obtain ⟨_,c,hc,rfl⟩:=y
  rw [List.getElem?_map,Array.getElem?_toList,hc]
  rfl
end
theorem paired_map {α β:Type} {f:α→β}:∀ {l:List α} {m:List β},Paired (fun x y=>y=f x) l m→m=l.map f
  | _,_,.nil=>rfl
  | _,_,.cons r t=>by rw [List.map_cons,r,paired_map t]
theorem filter_true {α:Type} (l:List α):l.filter (fun _=>true)=l:=by
  induction l with
  | nil=>rfl
  | cons x r ih=>simp [ih]
abbrev Ret (H:Hp) (Q:VK) (v:V):Prop:=∀ H',Same H H'→Q v H'
abbrev Fail (H:Hp) (E:XK) (C:Addr):Prop:=∀ H',Same H H'→E (.ref C) none H'
abbrev RetB (H:Hp) (Q:VK) (b:Bt):Prop:=∀ p H',Same H H'→H p=none→IsB H' p b→Q (.ref p) H'
end L2

namespace L2
open PySem PySem.Spec PyProof.Rows
theorem Qv {Q:VK} {H:Hp} {v v':V} (k:Q v H) (e:v=v'):Q v' H:=e ▸ k
theorem Qb {Q:VK} {H:Hp} {b b':Bool} (k:Q (.bl b) H) (e:b=b'):Q (.bl b') H:=e ▸ k
theorem dle (a b:Nat):decide ((a:Int)≤(b:Int))=decide (a≤b):=by
  by_cases h:a≤b
  · rw [decide_eq_true h,decide_eq_true (by omega)]
  · rw [decide_eq_false h,decide_eq_false (by omega)]
theorem dlt (a b:Nat):decide ((a:Int) < (b:Int))=decide (a < b):=by
  by_cases h:a < b
  · rw [decide_eq_true h,decide_eq_true (by omega)]
  · rw [decide_eq_false h,decide_eq_false (by omega)]
theorem nb_true {b:Bool} (h:(!b)=true):b=false:=by cases b <;> simp_all
theorem nb_false {b:Bool} (h:¬ (!b)=true):b=true:=by cases b <;> simp_all
theorem nt {b:Bool} (h:¬ b=true):b=false:=by cases b <;> simp_all
section
variable {X:Cx} {K':PySem.W.Frag}
theorem ix_tupK (h:X.K=K'):IxR X (rIxT K'):=h ▸ ix_tup
theorem sl_listK (h:X.K=K'):SlR X (rSlL K'):=h ▸ sl_list
theorem op_eqDK (h:X.K=K') (hu:X.A.units+64 < cLine):OpR X (compareOp .Eq) (rEqD K'):=h ▸ op_eqD hu
theorem lenK (h:X.K=K'):CallR X (.builtin "len") (fun xs H Q=>∃ p ys,xs=[.ref p]∧(SqL K' H p ys∨SqT K' H p ys)∧Q (.int ys.length) H):=h ▸ call_len_seq
theorem pe_fldK {e:Expr} {f:Str} {pos:Pos} {ta:TE} (h:X.K=K') (he:PE X e ta) (hb:attributeBase e f X.env (eval e X.env)=eval e X.env):PE X (.Attribute e f pos) (tFld K' ta f):=h ▸ pe_fld he hb
end
theorem cutV_from (xs:List V) (i:Nat):cutV xs (some (i:Int)) none=xs.drop i:=by
  unfold cutV
  rw [HT.sIx_nat,HT.sIx_none]
  by_cases h:i≤xs.length
  · rw [Nat.min_eq_left h,List.take_of_length_le (by rw [List.length_drop]; exact Nat.le_refl _)]
  · rw [Nat.min_eq_right (by omega),List.drop_of_length_le (Nat.le_refl _),List.drop_of_length_le (by omega),List.take_nil]
theorem cutV_to (xs:List V) (j:Nat):cutV xs none (some (j:Int))=xs.take j:=by
  unfold cutV
  rw [HT.sIx_nat,HT.sIx_none,List.drop_zero,Nat.sub_zero]
  by_cases h:j≤xs.length
  · rw [Nat.min_eq_left h]
  · rw [Nat.min_eq_right (by omega),List.take_of_length_le (Nat.le_refl _),List.take_of_length_le (by omega)]
theorem cutV_mid (xs:List V) (i j:Nat):cutV xs (some (i:Int)) (some (j:Int))=(xs.take j).drop i:=by
  unfold cutV
  rw [HT.sIx_nat,HT.sIx_nat,← List.drop_take]
  by_cases hi:i≤xs.length
  · rw [Nat.min_eq_left hi]
    by_cases h:j≤xs.length
    · rw [Nat.min_eq_left h]
    · rw [Nat.min_eq_right (by omega),List.take_of_length_le (Nat.le_refl _),List.take_of_length_le (by omega)]
  · rw [Nat.min_eq_right (by omega:xs.length≤i),List.drop_of_length_le (by rw [List.length_take]; omega),List.drop_of_length_le (by rw [List.length_take]; omega)]
theorem cutV_butLast (xs:List V):cutV xs none (some (-1))=xs.dropLast:=by
  unfold cutV
  rw [HT.sIx_none,List.drop_zero,Nat.sub_zero,List.dropLast_eq_take]
  congr 1
  show (if (-1:Int) < 0 then ((-1:Int)+(xs.length:Int)).toNat else min (-1:Int).toNat xs.length)=_
  rw [if_pos (by decide)]
  omega
theorem cutV_last (xs:List V):cutV xs (some (-1)) none=xs.drop (xs.length - 1):=by
  unfold cutV
  have e:HT.sIx xs.length 0 (some (-1))=xs.length - 1:=by
    show (if (-1:Int) < 0 then ((-1:Int)+(xs.length:Int)).toNat else min (-1:Int).toNat xs.length)=_
    rw [if_pos (by decide)]
    omega
  rw [e,HT.sIx_none,List.take_of_length_le (by rw [List.length_drop]; exact Nat.le_refl _)]
theorem cutB_mid (b:Bt) (i j:Nat):cutV (LB b) (some (i:Int)) (some (j:Int))=LB ((b.take j).drop i):=by
  rw [cutV_mid]
  unfold LB
  rw [List.map_drop,List.map_take]
theorem LB_drop (b:Bt) (i:Nat):(LB b).drop i=LB (b.drop i):=by unfold LB; rw [List.map_drop]
theorem LB_take (b:Bt) (i:Nat):(LB b).take i=LB (b.take i):=by unfold LB; rw [List.map_take]
theorem LB_dropLast (b:Bt):(LB b).dropLast=LB b.dropLast:=by unfold LB; rw [List.map_dropLast]
def dB (b:Bt):List PyData:=b.map fun c=>.int ((c.toNat:Nat):Int)
theorem dp_all {K:PySem.W.Frag} {H:Hp}:∀ b:Bt,DpAll K H (LB b) (dB b)
  | []=>.nil
  | c::r=>.cons (.int _) (dp_all r)
theorem lay_dB:∀ b:Bt,PyData.canLayAll0 (dB b)=true
  | []=>by simp [dB,PyData.canLayAll0]
  | c::r=>by
    have:=lay_dB r
    simp only [dB,List.map_cons,PyData.canLayAll0,PyData.canLay0,Bool.true_and] at this ⊢
    exact this
theorem depth_dB:∀ b:Bt,PyData.depthAll (dB b)=0
  | []=>by simp [dB,PyData.depthAll]
  | c::r=>by
    have:=depth_dB r
    simp only [dB,List.map_cons,PyData.depthAll,PyData.depth] at this ⊢
    omega
theorem shaped_dB (b:Bt):SeqAt.shaped (.list (dB b))=true:=by
  unfold SeqAt.shaped
  simp only [PyData.canLay0,PyData.depth,lay_dB,depth_dB]
  decide
theorem eqv_dB:∀ b c:Bt,PyData.eqvAll (dB b) (dB c)=decide (b=c)
  | [],[]=>by simp [dB,PyData.eqvAll]
  | [],_::_=>by simp [dB,PyData.eqvAll]
  | _::_,[]=>by simp [dB,PyData.eqvAll]
  | x::r,y::t=>by
    have ih:=eqv_dB r t
    simp only [dB,List.map_cons,PyData.eqvAll,PyData.eqv] at ih ⊢
    rw [ih]
    by_cases h:x=y
    · subst h
      by_cases h2:r=t
      · subst h2; simp
      · simp [h2]
    · have:¬ ((x.toNat:Nat):Int)=((y.toNat:Nat):Int):=fun e=>h (UInt8.toNat_inj.mp (by omega))
      simp [h,this]
theorem dpB {K:PySem.W.Frag} {H:Hp} {a:Addr} {b:Bt} (h:H a=some (.lst (LB b))):Dp K H (.ref a) (.list (dB b)):=.lst (SqL.of h) (dp_all b)
theorem rEqB {K:PySem.W.Frag} {H:Hp} {a c:Addr} {b d:Bt} {Q:VK} (ha:H a=some (.lst (LB b))) (hc:H c=some (.lst (LB d))) (q:Q (.bl (decide (b=d))) H):rEqD K (.ref a) (.ref c) H Q :=
  ⟨_,_,dpB ha,dpB hc,shaped_dB b,shaped_dB d,Qb q (by simp only [PyData.eqv]; rw [eqv_dB])⟩
theorem rNeB {K:PySem.W.Frag} {H:Hp} {a c:Addr} {b d:Bt} {Q:VK} (ha:H a=some (.lst (LB b))) (hc:H c=some (.lst (LB d))) (q:Q (.bl (!decide (b=d))) H):rNeD K (.ref a) (.ref c) H Q :=
  ⟨_,_,dpB ha,dpB hc,shaped_dB b,shaped_dB d,Qb q (by simp only [PyData.eqv]; rw [eqv_dB])⟩
theorem paired_by1 {h:UInt8→V}:∀ {b:Bt} {ys:List V},Paired (fun x y=>∀ c,x=by1 c→y=h c) (LB b) ys→ys=b.map h
  | [],_,.nil=>rfl
  | c::r,_,.cons e t=>by rw [List.map_cons,e c rfl,paired_by1 t]
theorem all_map_id {b:Bt} (g:UInt8→Bool):(b.map g).all id=b.all g:=by
  rw [List.all_map]
  rfl
def strB (x:Str):Bt:=x.cps.toList.map fun n=>UInt8.ofNat n
theorem lst_strB {x:Str} (h:x.cps.toList.all (· < 256)=true):(x.cps.toList.map fun (n:Nat)=>V.int ((n:Nat):Int))=LB (strB x):=by
  unfold LB strB
  rw [List.map_map]
  refine List.map_congr_left fun n hn=>?_
  have:n < 256:=by simpa using (List.all_eq_true.mp h) n hn
  show V.int _=V.int _
  rw [UInt8.toNat_ofNat',Nat.mod_eq_of_lt this]
end L2

namespace L2
open PySem PySem.Spec PyProof.Rows
section
variable {P:Program} {w:World} {K:PySem.W.Frag} {mg:Str→Option Value} {base:Heap} {A:Adr}
def sp_qcu:Sp:=fun vs H Q _=>∃ x:Str,vs=[.str x]∧x.cps.size≤BIG∧x.cps.toList.all (· < 256)=true∧RetB H Q (strB x)
def ordV:V→V
  | .str x=>.int ((x.cps.getD 0 0:Nat):Int)
  | _=>.non
theorem ok_qcu (T:Txt K mg A):FnOk P w K mg base CX0 1 A.f_qcu A.v_qcu ["text"] sp_qcu:=by
  refine T.d_qcu.fn.ok sc_qcu (fun vs H Q E h=>?_) (fun cdv A' outer s H vs Q E hr h=>?_)
  · obtain ⟨x,rfl,_⟩:=h
    rfl
  · obtain ⟨x,rfl,hx,h256,k⟩:=h
    refine ⟨_,(pss_one
 (ps_ret (pe_lc (own:=[("sign",1)]) rfl sc_qcu.nd (pi_str (pv 0)) (blkOk_by (by kernel_rfl)) (fun _ _ _ _ _=>pg_name (i:=1) sc_qcu.nd rfl (Or.inl rfl)) (fun _ _ _ _ _=>pts_nil) (fun _ _ _ _ _=>(pe_callB call_ord (by rfl) T.b_ord bt_ord (pa_cons (pv 1) pa_nil)))))),?_⟩
    refine ⟨_,rfl,x,rfl,fun D hD=>lc_txt (fun _=>true) (fun v y _=>y=ordV v) (fun _ _ _ _ _ h=>h) (Nat.le_trans hx big_size) hD (fun v hv H2 Q2 _ k2=>k2 _ (Same.refl _)) (fun v hv _ H2 Q2 _ _ k2=>?_) fun ys H2 s2 h2 p2=>?_⟩
    · obtain ⟨c,_,rfl⟩:=List.mem_map.mp hv
      exact ⟨_,rfl,_,rfl,rfl,k2 _ _ (Same.refl _) rfl⟩
    · rw [filter_true] at p2
      have e:=paired_map p2
      subst e
      refine k _ _ s2 hD ⟨?_,?_⟩
      · rw [h2,List.map_map,← lst_strB h256]
        rfl
      · unfold strB
        rw [List.length_map,Array.length_toList]
        exact hx
def sp_qcn:Sp:=fun vs H Q _=>∃ c:UInt8,vs=[by1 c]∧Q (.bl (Ql47.digit c)) H
theorem ok_qcn (T:Txt K mg A):FnOk P w K mg base CX0 1 A.f_qcn A.v_qcn ["octet"] sp_qcn:=by
  refine T.d_qcn.fn.ok sc_qcn (fun vs H Q E h=>?_) (fun cdv A' outer s H vs Q E hr h=>?_)
  · obtain ⟨x,rfl,_⟩:=h
    rfl
  · obtain ⟨c,rfl,k⟩:=h
    refine ⟨_,(pss_one
 (ps_ret (pe_chain op_le op_le (pgi T.g_ZERO) (pv 0) (pgi T.g_NINE)))),?_⟩
    refine ⟨_,rfl,_,_,rfl,rfl,_,rfl,ite2 (fun h=>⟨_,_,rfl,rfl,Qb k ?_⟩) (fun h=>Qb k ?_)⟩
    · unfold Ql47.digit
      have h':48≤c.toNat:=by have:=of_decide_eq_true h; omega
      rw [decide_eq_true h',Bool.true_and]
      exact (dle _ _).symm
    · unfold Ql47.digit
      have h':¬ 48≤c.toNat:=fun z=>h (decide_eq_true (by omega))
      rw [decide_eq_false h',Bool.false_and]
def letterB (c:UInt8):Bool:=(decide (65≤c.toNat) && decide (c.toNat≤90)) || (decide (97≤c.toNat) && decide (c.toNat≤122))
def sp_qco:Sp:=fun vs H Q _=>∃ c:UInt8,vs=[by1 c]∧Q (.bl (letterB c)) H
theorem ok_qco (T:Txt K mg A):FnOk P w K mg base CX0 1 A.f_qco A.v_qco ["octet"] sp_qco:=by
  refine T.d_qco.fn.ok sc_qco (fun vs H Q E h=>?_) (fun cdv A' outer s H vs Q E hr h=>?_)
  · obtain ⟨x,rfl,_⟩:=h
    rfl
  · obtain ⟨c,rfl,k⟩:=h
    refine ⟨_,(pss_one
 (ps_ret (pe_or (pe_chain op_le op_le pe_int (pv 0) pe_int) (pe_one (pe_chain op_le op_le pe_int (pv 0) pe_int))))),?_⟩
    have second:∀ b:Bool,b=(decide (65≤c.toNat) && decide (c.toNat≤90))→∃ c',V.bl b=.bl c'∧if c'=true then Q (.bl true) H else tChain (rI0 fun i j=>V.bl (decide (i≤j))) (rI0 fun i j=>V.bl (decide (i≤j))) (tC (V.int 97)) (tVar 0) (tC (V.int 122)) (start ["octet"] [by1 c]) H Q:=by
      intro b hb
      refine ⟨_,rfl,ite2 (fun h=>Qb k ?_) fun h=>?_⟩
      · unfold letterB
        rw [← hb,h,Bool.true_or]
      · have hb':b=false:=by simpa using h
        refine ⟨_,rfl,_,_,rfl,rfl,_,rfl,ite2 (fun h=>⟨_,_,rfl,rfl,Qb k ?_⟩) (fun h=>Qb k ?_)⟩
        · unfold letterB
          have h':97≤c.toNat:=by have:=of_decide_eq_true h; omega
          rw [← hb,hb',Bool.false_or,decide_eq_true h',Bool.true_and]
          exact (dle _ _).symm
        · unfold letterB
          have h':¬ 97≤c.toNat:=fun z=>h (decide_eq_true (by omega))
          rw [← hb,hb',Bool.false_or,decide_eq_false h',Bool.false_and]
    refine ⟨_,rfl,_,_,rfl,rfl,_,rfl,ite2 (fun h=>⟨_,_,rfl,rfl,second _ ?_⟩) (fun h=>second _ ?_)⟩
    · have h':65≤c.toNat:=by have:=of_decide_eq_true h; omega
      rw [decide_eq_true h',Bool.true_and]
      exact dle _ _
    · have h':¬ 65≤c.toNat:=fun z=>h (decide_eq_true (by omega))
      rw [decide_eq_false h',Bool.false_and]
def WS:List V:=[.int 33,.int 37,.int 39,.int 42,.int 43,.int 45,.int 46,.int 95,.int 96,.int 126]
theorem word_split (c:UInt8):Ql47.wordChar c=(letterB c || (Ql47.digit c || inV (by1 c) WS)):=by
  have h:∀ n:Fin 256,Ql47.wordChar (UInt8.ofNat n.val)=(letterB (UInt8.ofNat n.val) || (Ql47.digit (UInt8.ofNat n.val) || inV (by1 (UInt8.ofNat n.val)) WS)):=by decide +kernel
  have:=h ⟨c.toNat,c.toNat_lt⟩
  simpa using this
def sp_qcs:Sp:=fun vs H Q _=>∃ c:UInt8,vs=[by1 c]∧Q (.bl (Ql47.wordChar c)) H
theorem ok_qcs (T:Txt K mg A):FnOk P w K mg base CX0 2 A.f_qcs A.v_qcs ["octet"] sp_qcs:=by
  refine T.d_qcs.fn.ok sc_qcs (fun vs H Q E h=>?_) (fun cdv A' outer s H vs Q E hr h=>?_)
  · obtain ⟨x,rfl,_⟩:=h
    rfl
  · obtain ⟨c,rfl,k⟩:=h
    refine ⟨_,(pss_one
 (ps_ret (pe_or (pe_call (ok_qco T) (hr.mono (by decide)) rfl T.d_qco.at_ T.d_qco.fn.kp T.d_qco.bd .nil pass0 (pa_cons (pv 0) pa_nil)) (pe_or (pe_call (ok_qcn T) (hr.mono (by decide)) rfl T.d_qcn.at_ T.d_qcn.fn.kp T.d_qcn.bd .nil pass0 (pa_cons (pv 0) pa_nil)) (pe_one (pe_cmpR op_in_seq (pv 0) (pgR T.g_WORD_SIGNS) rfl)))))),?_⟩
    refine ⟨_,rfl,c,rfl,_,rfl,ite2 (fun h=>Qb k ?_) fun h=>⟨_,rfl,c,rfl,_,rfl,ite2 (fun h2=>Qb k ?_) fun h2=>⟨_,rfl,A.c_WORD_SIGNS,WS,rfl,.inr (.inr T.sq_WORD_SIGNS),rfl,rfl,Qb k ?_⟩⟩⟩
    · rw [word_split,h,Bool.true_or]
    · rw [word_split,h2,Bool.true_or,Bool.or_true]
    · have h1:letterB c=false:=by simpa using h
      have h2':Ql47.digit c=false:=by simpa using h2
      rw [word_split,h1,h2',Bool.false_or,Bool.false_or]
      rfl
theorem all_read {K:PySem.W.Frag} {H:Hp} {a:Addr} {b:Bt} {σ:St} {i:Nat} {te:TE} {Q:VK} (g:UInt8→Bool) (hB:IsB H a b)
    (he:∀ c∈b,∀ (H':Hp) (Q':VK),Same H H'→(∀ H'',Same H' H''→Q' (.bl (g c)) H'')→te ((wipe σ [i]).set i (some (by1 c))) H' Q')
    (k:∀ H',Same H H'→Q (.bl (b.all g)) H'):∀ D,H D=none→∃ W:Nat→Nat→Hp→Prop,(∃ m,W 0 m (upd H D (.lst [])))∧∀ k m H,W k m H →
      ((Itl K a).stop k H∧rAll K [V.ref D] H Q)∨((Itl K a).go k H∧∃ Nx:Hp→Prop,(∀ H',Nx H'→∃ m',m' < m∧W (k+1) m' H')∧∀ x H',(Itl K a).yld k H x H'→gName i x (wipe σ [i]) H' fun σ2 H2=>wipe σ2 [i]=wipe σ [i]∧tYes σ2 H2 fun b H3 =>
        if b=true then te σ2 H3 fun y H4=>∃ acc,H4 D=some (.lst acc)∧acc.length < sizeLine∧Nx (upd H4 D (.lst (acc++[y]))) else Nx H3):=by
  intro D hD
  refine lc_lst hB.sq (fun _=>true) (fun x y _=>∀ c,x=by1 c→y=.bl (g c)) (fun _ _ _ _ _ h=>h) (by rw [LB_length]; exact Nat.le_trans hB.len big_size) hD (fun v hv H2 Q2 _ k2=>k2 _ (Same.refl _)) (fun v hv _ H2 Q2 s2 _ k2=>?_) fun ys H2 s2 h2 p2=>?_
  · obtain ⟨c,hc,rfl⟩:=List.mem_map.mp hv
    exact he c hc H2 Q2 s2 fun H3 s3=>k2 _ _ s3 fun c' e=>by rw [by1_inj e]
  · rw [filter_true] at p2
    have e:=paired_by1 p2
    refine ⟨D,b.map g,rfl,SqL.of (by rw [h2,e,List.map_map]; rfl),?_⟩
    rw [all_map_id]
    exact k _ s2
def sp_qcr:Sp:=fun vs H Q _=>∃ (a:Addr) (b:Bt),vs=[.ref a]∧IsB H a b∧Ret H Q (.bl (Ql47.isWord b))
theorem isEmpty_dec (b:Bt):decide ((0:Int) < (b.length:Int))=!b.isEmpty:=by
  cases b with
  | nil=>rfl
  | cons x r=>simp
theorem ok_qcr (T:Txt K mg A):FnOk P w K mg base CX0 3 A.f_qcr A.v_qcr ["row"] sp_qcr:=by
  refine T.d_qcr.fn.ok sc_qcr (fun vs H Q E h=>?_) (fun cdv A' outer s H vs Q E hr h=>?_)
  · obtain ⟨a,b,rfl,_⟩:=h
    rfl
  · obtain ⟨a,b,rfl,hB,k⟩:=h
    refine ⟨_,(pss_one
 (ps_ret (pe_and (pe_cmpR op_gt (pe_callB call_len_seq (by rfl) T.b_len bt_len (pa_cons (pv 0) pa_nil)) pe_int (nomark _)) (pe_one (pe_callB (cr_all rfl) (by rfl) T.b_all bt_all (pa_cons (pe_lc (own:=[("octet",1)]) rfl sc_qcr.nd (pi_list (pv 0)) (blkOk_by (by kernel_rfl)) (fun _ _ _ _ _=>pg_name (i:=1) sc_qcr.nd rfl (Or.inl rfl)) (fun _ _ _ _ _=>pts_nil) (fun _ _ _ _ _=>(pe_call (ok_qcs T) (hr.mono (by decide)) rfl T.d_qcs.at_ T.d_qcs.fn.kp T.d_qcs.bd .nil pass0 (pa_cons (pv 1) pa_nil)))) pa_nil)))))),?_⟩
    refine ⟨_,rfl,a,_,rfl,.inl hB.sq,_,_,rfl,rfl,_,rfl,?_⟩
    rw [LB_length,isEmpty_dec]
    refine ite2 (fun h=>?_) fun h=>Qb (k _ (Same.refl _)) ?_
    · refine ⟨_,rfl,a,rfl,⟨_,hB.sq⟩,all_read Ql47.wordChar hB (fun c _ H' Q' _ k'=>⟨_,rfl,c,rfl,k' _ (Same.refl _)⟩) fun H' s'=>Qb (k _ s') ?_⟩
      unfold Ql47.isWord
      rw [h,Bool.true_and]
    · have h':(!b.isEmpty)=false:=by simpa using h
      unfold Ql47.isWord
      rw [h',Bool.false_and]
def sp_qcq:Sp:=fun vs H Q _=>∃ (a:Addr) (b:Bt),vs=[.ref a]∧IsB H a b∧Ret H Q (.bl (!b.isEmpty && b.all Ql47.seen))
theorem ok_qcq (T:Txt K mg A):FnOk P w K mg base CX0 1 A.f_qcq A.v_qcq ["row"] sp_qcq:=by
  refine T.d_qcq.fn.ok sc_qcq (fun vs H Q E h=>?_) (fun cdv A' outer s H vs Q E hr h=>?_)
  · obtain ⟨a,b,rfl,_⟩:=h
    rfl
  · obtain ⟨a,b,rfl,hB,k⟩:=h
    refine ⟨_,(pss_one
 (ps_ret (pe_and (pe_cmpR op_gt (pe_callB call_len_seq (by rfl) T.b_len bt_len (pa_cons (pv 0) pa_nil)) pe_int (nomark _)) (pe_one (pe_callB (cr_all rfl) (by rfl) T.b_all bt_all (pa_cons (pe_lc (own:=[("octet",1)]) rfl sc_qcq.nd (pi_list (pv 0)) (blkOk_by (by kernel_rfl)) (fun _ _ _ _ _=>pg_name (i:=1) sc_qcq.nd rfl (Or.inl rfl)) (fun _ _ _ _ _=>pts_nil) (fun _ _ _ _ _=>(pe_chain op_le op_le pe_int (pv 1) pe_int))) pa_nil)))))),?_⟩
    refine ⟨_,rfl,a,_,rfl,.inl hB.sq,_,_,rfl,rfl,_,rfl,?_⟩
    rw [LB_length,isEmpty_dec]
    refine ite2 (fun h=>?_) fun h=>Qb (k _ (Same.refl _)) ?_
    · refine ⟨_,rfl,a,rfl,⟨_,hB.sq⟩,all_read Ql47.seen hB (fun c _ H' Q' _ k'=>?_) fun H' s'=>Qb (k _ s') ?_⟩
      · refine ⟨_,rfl,_,_,rfl,rfl,_,rfl,ite2 (fun h=>⟨_,_,rfl,rfl,Qb (k' _ (Same.refl _)) ?_⟩) (fun h=>Qb (k' _ (Same.refl _)) ?_)⟩
        · unfold Ql47.seen
          have h':33≤c.toNat:=by have:=of_decide_eq_true h; omega
          rw [decide_eq_true h',Bool.true_and]
          exact (dle _ _).symm
        · unfold Ql47.seen
          have h':¬ 33≤c.toNat:=fun z=>h (decide_eq_true (by omega))
          rw [decide_eq_false h',Bool.false_and]
      · rw [h,Bool.true_and]
    · have h':(!b.isEmpty)=false:=by simpa using h
      rw [h',Bool.false_and]
def sp_qcp:Sp:=fun vs H Q _=>∃ (a:Addr) (b:Bt) (n:Nat),vs=[.ref a,.int (n:Int)]∧IsB H a b∧Ret H Q (.bl (decide (1≤b.length) && decide (b.length≤n) && b.all Ql47.digit))
theorem ok_qcp (T:Txt K mg A):FnOk P w K mg base CX0 2 A.f_qcp A.v_qcp ["row","most_digits"] sp_qcp:=by
  refine T.d_qcp.fn.ok sc_qcp (fun vs H Q E h=>?_) (fun cdv A' outer s H vs Q E hr h=>?_)
  · obtain ⟨a,b,n,rfl,_⟩:=h
    rfl
  · obtain ⟨a,b,n,rfl,hB,k⟩:=h
    refine ⟨_,(pss_one
 (ps_ret (pe_and (pe_chain op_le op_le pe_int (pe_callB call_len_seq (by rfl) T.b_len bt_len (pa_cons (pv 0) pa_nil)) (pv 1)) (pe_one (pe_callB (cr_all rfl) (by rfl) T.b_all bt_all (pa_cons (pe_lc (own:=[("octet",2)]) rfl sc_qcp.nd (pi_list (pv 0)) (blkOk_by (by kernel_rfl)) (fun _ _ _ _ _=>pg_name (i:=2) sc_qcp.nd rfl (Or.inl rfl)) (fun _ _ _ _ _=>pts_nil) (fun _ _ _ _ _=>(pe_call (ok_qcn T) (hr.mono (by decide)) rfl T.d_qcn.at_ T.d_qcn.fn.kp T.d_qcn.bd .nil pass0 (pa_cons (pv 2) pa_nil)))) pa_nil)))))),?_⟩
    refine ⟨_,rfl,a,_,rfl,.inl hB.sq,_,_,rfl,rfl,_,rfl,?_⟩
    rw [LB_length]
    refine ite2 (fun h=>⟨_,rfl,_,_,rfl,rfl,_,rfl,ite2 (fun h2=>?_) fun h2=>Qb (k _ (Same.refl _)) ?_⟩) fun h=>⟨_,rfl,iteF (Qb (k _ (Same.refl _)) ?_)⟩
    · refine ⟨_,rfl,a,rfl,⟨_,hB.sq⟩,all_read Ql47.digit hB (fun c _ H' Q' _ k'=>⟨_,rfl,c,rfl,k' _ (Same.refl _)⟩) fun H' s'=>Qb (k _ s') ?_⟩
      have h1:1≤b.length:=by have:=of_decide_eq_true h; omega
      have h3:b.length≤n:=by have:=of_decide_eq_true h2; omega
      rw [decide_eq_true h1,decide_eq_true h3]
      rfl
    · have h3:¬ b.length≤n:=fun z=>h2 (decide_eq_true (by omega))
      rw [decide_eq_false h3]
      simp
    · have h1:¬ 1≤b.length:=fun z=>h (decide_eq_true (by omega))
      rw [decide_eq_false h1]
      simp
end
end L2

namespace L2
open PySem PySem.Spec PyProof.Rows
def splitB (c:UInt8):Bt→List Bt
  | []=>[[]]
  | x::r=>if x=c then []::splitB c r else match splitB c r with
    | h::t=>(x::h)::t
    | []=>[[x]]
theorem split_nosep {c:UInt8}:∀ {l:Bt},(∀ x∈l,x≠c)→splitB c l=[l]
  | [],_=>rfl
  | x::r,h=>by
    unfold splitB
    rw [if_neg (h x List.mem_cons_self),split_nosep fun y hy=>h y (List.mem_cons_of_mem _ hy)]
theorem split_sep {c:UInt8} {r:Bt}:∀ {l:Bt},(∀ x∈l,x≠c)→splitB c (l++c::r)=l::splitB c r
  | [],_=>by
    show splitB c (c::r)=_
    rw [splitB.eq_2,if_pos rfl]
  | x::t,h=>by
    show splitB c (x::(t++c::r))=_
    rw [splitB.eq_2,if_neg (h x List.mem_cons_self),split_sep fun y hy=>h y (List.mem_cons_of_mem _ hy)]
theorem split_ne {c:UInt8} (l:Bt):splitB c l≠[]:=by
  cases l with
  | nil=>exact List.cons_ne_nil _ _
  | cons x r =>
    unfold splitB
    split
    · exact List.cons_ne_nil _ _
    · split <;> exact List.cons_ne_nil _ _
theorem split_len {c:UInt8}:∀ (l:Bt),(splitB c l).length≤l.length+1
  | []=>Nat.le_refl _
  | x::r=>by
    have ih:=split_len (c:=c) r
    rw [splitB.eq_2]
    split
    · rw [List.length_cons,List.length_cons]; omega
    · split
      · rename_i h t e
        rw [e] at ih
        rw [List.length_cons] at ih ⊢
        rw [List.length_cons]
        omega
      · rw [List.length_cons,List.length_nil,List.length_cons]; omega
structure ListsAt (H0 H:Hp) (p:Addr) (bs:List Bt):Prop where
  new:H0 p=none
  ex:∃ as:List Addr,H p=some (.lst (as.map V.ref))∧Paired (fun a b=>H0 a=none∧IsB H a b) as bs
theorem for_enum {K:PySem.W.Frag} {a:Addr} {xs:List V} {g:TG} {tb:TS} {D:Ends} {σ:St} {H:Hp} (Pv:Nat→St→Hp→Prop) (h0:Pv 0 σ H) (hl:∀ i σ H,i≤xs.length→Pv i σ H→SqL K H a xs)
    (hs:∀ i x σ H T,xs[i]?=some x→Pv i σ H→H T=none→g (.ref T) σ (upd H T (.tup [.int (i:Nat),x])) fun σ2 H2=>tb { D with nx:=Pv (i+1),ct:=Pv (i+1),bk:=D.nx } σ2 H2) (hd:∀ σ H,Pv xs.length σ H→D.nx σ H) :
    ∃ W:Nat→Nat→St→Hp→Prop,(∃ m,W 0 m σ H)∧∀ i m σ H,W i m σ H →
      ((Ite K a).stop i H∧D.nx σ H)∨((Ite K a).go i H∧∃ N:St→Hp→Prop,(∀ σ' H',N σ' H'→∃ m',m' < m∧W (i+1) m' σ' H')∧∀ x H',(Ite K a).yld i H x H'→g x σ H' fun σ2 H2=>tb { D with nx:=N,ct:=N,bk:=D.nx } σ2 H2):=by
  refine ⟨fun i m σ H=>m=xs.length - i∧i≤xs.length∧Pv i σ H,⟨xs.length,by simp,Nat.zero_le _,h0⟩,?_⟩
  rintro i m σ H ⟨rfl,hi,p⟩
  have q:=hl i σ H hi p
  by_cases hlt:i < xs.length
  · refine .inr ⟨⟨xs,xs[i],q,by simp [hlt]⟩,Pv (i+1),fun σ' H' p'=>⟨xs.length - (i+1),by omega,rfl,hlt,p'⟩,fun x H' y=>?_⟩
    obtain ⟨T,v,e1,hT,e2,y⟩:=y
    subst e1 e2
    exact hs i v σ _ T (y xs q) p hT
  · have e:i=xs.length:=by omega
    subst e
    exact .inl ⟨⟨xs,q,Nat.le_refl _⟩,hd σ H p⟩
section
variable {P:Program} {w:World} {K:PySem.W.Frag} {mg:Str→Option Value} {base:Heap} {A:Adr}
theorem LB_get {b:Bt} {i:Nat} {x:V} (h:(LB b)[i]?=some x):∃ c,b[i]?=some c∧x=by1 c:=by
  unfold LB at h
  rw [List.getElem?_map] at h
  cases e:b[i]? with
  | none=>rw [e] at h; cases h
  | some c=>rw [e] at h; exact ⟨c,rfl,(Option.some.inj h).symm⟩
def sp_qct:Sp:=fun vs H Q _=>∃ (a:Addr) (b:Bt),vs=[.ref a]∧IsB H a b∧b.all Ql47.digit=true∧Q (.int ((Ql47.number b:Nat):Int)) H
theorem ok_qct (T:Txt K mg A):FnOk P w K mg base CX0 1 A.f_qct A.v_qct ["digits"] sp_qct:=by
  refine T.d_qct.fn.ok sc_qct (fun vs H Q E h=>?_) (fun cdv A' outer s H vs Q E hr h=>?_)
  · obtain ⟨a,b,rfl,_⟩:=h
    rfl
  · obtain ⟨a,b,rfl,hB,hd,k⟩:=h
    refine ⟨_,(pss_cons
 (ps_set (i:=1) sc_qct.nd rfl (by first | exact Or.inl rfl | exact Or.inr rfl) pe_int)
 (pss_cons
 (ps_for PassesOwn.never rfl (pi_list (pv 0)) (pg_name (i:=2) sc_qct.nd rfl (Or.inl rfl))
 (pss_one
 (ps_set (i:=1) sc_qct.nd rfl (by first | exact Or.inl rfl | exact Or.inr rfl) (pe_op op_sub (pe_op op_add (pe_op op_mul pe_int (pv 1)) (pv 2)) (pgi T.g_ZERO)))))
 (pss_one
 (ps_ret (pv 1))))),?_⟩
    refine ⟨_,rfl,a,rfl,⟨_,hB.sq⟩,for_list (K:=K) (a:=a) (xs:=LB b) (fun i σ H2=>H2=H∧∃ v:Option V,σ=[some (.ref a),some (.int ((Ql47.number (b.take i):Nat):Int)),v]) ⟨rfl,none,rfl⟩ (fun i σ H2 _ ⟨e,_⟩=>by rw [e]; exact hB.sq) ?_ ?_⟩
    · rintro i x σ H2 hx ⟨rfl,v,rfl⟩
      obtain ⟨c,hc,rfl⟩:=LB_get hx
      have hdc:Ql47.digit c=true:=List.all_eq_true.mp hd c (List.mem_of_getElem? hc)
      unfold Ql47.digit at hdc
      rw [Bool.and_eq_true] at hdc
      have h1:48≤c.toNat:=of_decide_eq_true hdc.1
      refine ⟨_,rfl,_,_,rfl,rfl,.inl ⟨by decide,by decide⟩,_,rfl,_,_,rfl,rfl,_,_,rfl,rfl,rfl,some (by1 c),?_⟩
      have e:Ql47.number (b.take (i+1))=10 * Ql47.number (b.take i)+(c.toNat - 48):=by
        unfold Ql47.number
        rw [List.take_succ,hc,List.foldl_append]
        rfl
      rw [e]
      have e2:((10 * Ql47.number (b.take i)+(c.toNat - 48):Nat):Int)=10 * ((Ql47.number (b.take i):Nat):Int)+((c.toNat:Nat):Int) - 48:=by omega
      rw [e2]
      rfl
    · rintro σ H2 ⟨rfl,v,rfl⟩
      refine ⟨_,rfl,?_⟩
      rw [LB_length,List.take_length]
      exact k
def sp_qcj:Sp:=fun vs H Q _=>∃ (a c:Addr) (b d:Bt),vs=[.ref a,.ref c]∧IsB H a b∧IsB H c d∧Ret H Q (.bl (decide (b.take d.length=d)))
theorem ok_qcj (T:Txt K mg A):FnOk P w K mg base CX0 1 A.f_qcj A.v_qcj ["row","start"] sp_qcj:=by
  refine T.d_qcj.fn.ok sc_qcj (fun vs H Q E h=>?_) (fun cdv A' outer s H vs Q E hr h=>?_)
  · obtain ⟨a,c,b,d,rfl,_⟩:=h
    rfl
  · obtain ⟨a,c,b,d,rfl,hB,hD,k⟩:=h
    refine ⟨_,(pss_one
 (ps_ret (pe_cmpR (op_eqD hr.units) (pe_slice sl_list (pv 0) po_none (po_some (pe_callB call_len_seq (by rfl) T.b_len bt_len (pa_cons (pv 1) pa_nil)))) (pv 1) (nomark _)))),?_⟩
    refine ⟨_,rfl,_,rfl,c,_,rfl,.inl hD.sq,_,rfl,a,_,rfl,hB.sq,fun p hp=>?_⟩
    rw [LB_length,cutV_to,LB_take]
    have s1:Same H (upd H p (.lst (LB (b.take d.length)))):=Same.put0 hp
    exact ⟨_,rfl,rEqB upd_same (hD.same s1).at_ (k _ s1)⟩
def sp_qdf:Sp:=fun vs H Q _=>∃ (a:Addr) (b:Bt) (c:UInt8),vs=[.ref a,by1 c]∧IsB H a b∧∀ p H',Same H H'→ListsAt H H' p (splitB c b)→Q (.ref p) H'
theorem ok_qdf (T:Txt K mg A):FnOk P w K mg base CX0 1 A.f_qdf A.v_qdf ["row","separator"] sp_qdf:=by
  refine T.d_qdf.fn.ok sc_qdf (fun vs H Q E h=>?_) (fun cdv A' outer s H vs Q E hr h=>?_)
  · obtain ⟨a,b,c,rfl,_⟩:=h
    rfl
  · obtain ⟨a,b,c,rfl,hB,k⟩:=h
    refine ⟨_,(pss_cons
 (ps_set (i:=2) sc_qdf.nd rfl (by first | exact Or.inl rfl | exact Or.inr rfl) (pe_lst pa_nil))
 (pss_cons
 (ps_set (i:=3) sc_qdf.nd rfl (by first | exact Or.inl rfl | exact Or.inr rfl) pe_int)
 (pss_cons
 (ps_for PassesOwn.never rfl (pi_enum rfl T.b_enumerate (pa_cons (pv 0) pa_nil)) (pg_tup rfl (pgs_cons (pg_name (i:=4) sc_qdf.nd rfl (Or.inl rfl)) (pgs_cons (pg_name (i:=5) sc_qdf.nd rfl (Or.inl rfl)) pgs_nil)))
 (pss_one
 (ps_if (pt_cmpR op_eq (pv 5) (pv 1) (nomark _))
 (pss_cons
 (ps_expr (pe_bm PySem.F.plainAttrs_list PySem.F.slot_list_append PySem.F.type_list_append mt_append (pv 2) (pa_cons (pe_slice sl_list (pv 0) (po_some (pv 3)) (po_some (pv 4))) pa_nil)))
 (pss_one
 (ps_set (i:=3) sc_qdf.nd rfl (by first | exact Or.inl rfl | exact Or.inr rfl) (pe_op op_add (pv 4) pe_int))))
 pss_nil)))
 (pss_cons
 (ps_expr (pe_bm PySem.F.plainAttrs_list PySem.F.slot_list_append PySem.F.type_list_append mt_append (pv 2) (pa_cons (pe_slice sl_list (pv 0) (po_some (pv 3)) po_none) pa_nil)))
 (pss_one
 (ps_ret (pv 2))))))),?_⟩
    refine ⟨(by show 0≤sizeLine; decide),fun l hl=>?_⟩
    have hz:b.length≤BIG:=hB.len
    refine ⟨_,rfl,a,_,rfl,(hB.same (Same.put0 hl)).sq,for_enum (K:=K) (a:=a) (xs:=LB b) (fun i σ H2=>Same H H2∧∃ (st:Nat) (as:List Addr) (bs:List Bt) (v4 v5:Option V),σ=[some (.ref a),some (by1 c),some (.ref l),some (.int ((st:Nat):Int)),v4,v5]∧H2 l=some (.lst (as.map V.ref)) ∧
      Paired (fun a b=>H a=none∧a≠l∧IsB H2 a b) as bs∧splitB c b=bs++splitB c (b.drop st)∧st≤i∧(∀ x∈(b.take i).drop st,x≠c)∧as.length≤i) ⟨Same.put0 hl,0,[],[],none,none,rfl,upd_same,.nil,rfl,Nat.le_refl _,fun x hx=>by simp at hx,Nat.le_refl _⟩ (fun i σ H2 _ ⟨e,_⟩=>(hB.same e).sq) ?_ ?_⟩
    · rintro i x σ H2 T' hx ⟨s2,st,as,bs,v4,v5,rfl,hl2,pr,hsp,hst,hno,hal⟩ hT
      obtain ⟨d,hd,rfl⟩:=LB_get hx
      have hi:i < b.length:=(List.getElem?_eq_some_iff.mp hd).1
      have nlT:l≠T':=ne_of_none hl2 hT
      have s3:Same H (upd H2 T' (.tup [.int (i:Nat),by1 d])):=s2.put hT
      have hl3:upd H2 T' (.tup [.int (i:Nat),by1 d]) l=some (.lst (as.map V.ref)):=by rw [upd_ne nlT]; exact hl2
      have pr3:Paired (fun a b=>H a=none∧a≠l∧IsB (upd H2 T' (.tup [.int (i:Nat),by1 d])) a b) as bs:=Paired.mapP pr fun a b z=>⟨z.1,z.2.1,z.2.2.same (Same.put0 hT)⟩
      have hT3:upd H2 T' (.tup [.int (i:Nat),by1 d]) T'=some (.tup [.int (i:Nat),by1 d]):=upd_same
      generalize upd H2 T' (.tup [.int (i:Nat),by1 d])=H3 at s3 hl3 pr3 hT3 ⊢
      refine ⟨T',_,rfl,SqT.of hT3,rfl,_,_,rfl,_,_,rfl,rfl,_,rfl,_,rfl,rfl,_,rfl,ite2 (fun h=>?_) fun h=>?_⟩
      · have ec:d=c:=by1_inj (of_decide_eq_true h)
        subst ec
        refine ⟨_,rfl,.inl ⟨rfl,_,SqL.of hl3⟩,_,rfl,_,rfl,_,rfl,_,rfl,_,rfl,a,_,rfl,(hB.same s3).sq,fun p hp=>?_⟩
        rw [cutV_mid,LB_take,LB_drop]
        have nlp:l≠p:=ne_of_none hl3 hp
        refine ⟨l,_,_,rfl,rfl,(by rw [upd_ne nlp]; exact hl3),(by rw [List.length_map]; have:=big_size; omega),_,rfl,_,_,rfl,rfl,?_⟩
        have hp0:H p=none:=s3.free hp
        refine ⟨Same.putN (s3.put hp) hl,i+1,as++[p],bs++[(b.take i).drop st],_,_,rfl,by rw [upd_same,List.map_append]; rfl,?_,?_,Nat.le_refl _,fun x hx=>?_,by rw [List.length_append]; exact Nat.succ_le_succ hal⟩
        · refine Paired.snoc (Paired.mapP pr3 fun a b z=>⟨z.1,z.2.1,?_,z.2.2.len⟩) ⟨hp0,fun e=>nlp e.symm,?_,?_⟩
          · rw [upd_ne z.2.1,upd_ne (ne_of_none z.2.2.at_ hp)]
            exact z.2.2.at_
          · rw [upd_ne (fun e=>nlp e.symm),upd_same]
          · rw [List.length_drop,List.length_take]
            omega
        · rw [hsp,List.append_assoc]
          congr 1
          have e:b.drop st=(b.take i).drop st++d::b.drop (i+1):=by
            have e1:b.drop i=d::b.drop (i+1):=by
              rw [List.drop_eq_getElem_cons hi]
              congr 1
              exact Option.some.inj ((List.getElem?_eq_getElem hi).symm.trans hd)
            rw [← e1,List.drop_take]
            have e2:(b.drop st).drop (i - st)=b.drop i:=by rw [List.drop_drop]; congr 1; omega
            rw [← e2,List.take_append_drop]
          rw [e,split_sep hno]
          rfl
        · rw [List.drop_of_length_le (by rw [List.length_take]; omega)] at hx
          cases hx
      · have nc:d≠c:=fun e=>h (decide_eq_true (by rw [e]))
        refine ⟨s3,st,as,bs,_,_,rfl,hl3,pr3,hsp,by omega,fun x hx=>?_,by omega⟩
        rw [List.take_succ,hd,List.drop_append_of_le_length (by rw [List.length_take]; omega)] at hx
        rcases List.mem_append.mp hx with z | z
        · exact hno x z
        · have:x=d:=by simpa using z
          rw [this]
          exact nc
    · rintro σ H2 ⟨s2,st,as,bs,v4,v5,rfl,hl2,pr,hsp,hst,hno,hal⟩
      rw [LB_length] at hal hst hno
      rw [List.take_length] at hno
      refine ⟨_,rfl,.inl ⟨rfl,_,SqL.of hl2⟩,_,rfl,_,rfl,_,rfl,a,_,rfl,(hB.same s2).sq,fun p hp=>?_⟩
      rw [cutV_from,LB_drop]
      have nlp:l≠p:=ne_of_none hl2 hp
      have hbs:BIG < sizeLine:=by decide
      refine ⟨l,_,_,rfl,rfl,(by rw [upd_ne nlp]; exact hl2),(by rw [List.length_map]; omega),_,rfl,?_⟩
      have hp0:H p=none:=s2.free hp
      refine k l _ (Same.putN (s2.put hp) hl) ⟨hl,as++[p],by rw [upd_same,List.map_append]; rfl,?_⟩
      rw [hsp,split_nosep hno]
      refine Paired.snoc (Paired.mapP pr fun a b z=>⟨z.1,?_,z.2.2.len⟩) ⟨hp0,?_,?_⟩
      · rw [upd_ne z.2.1,upd_ne (ne_of_none z.2.2.at_ hp)]
        exact z.2.2.at_
      · rw [upd_ne (fun e=>nlp e.symm),upd_same]
      · rw [List.length_drop]
        omega
end
end L2

namespace L2
open Ql47
theorem cut_some {c:UInt8} {l r:Bt} (h:∀ x∈l,x≠c):cutAt c (l++c::r)=some (l,r):=by
  have e:(l++c::r).takeWhile (fun x=>x != c)=l:=by
    rw [List.takeWhile_append_of_pos (by simpa using h)]
    simp
  unfold cutAt
  simp only [e]
  rw [if_neg (by rw [List.length_append,List.length_cons]; omega)]
  congr 2
  rw [List.drop_append,List.drop_of_length_le (by omega)]
  simp [Nat.add_sub_cancel_left]
theorem cut_none {c:UInt8} {b:Bt} (h:∀ x∈b,x≠c):cutAt c b=none:=by
  have e:b.takeWhile (fun x=>x != c)=b:=by
    have:=List.takeWhile_append_of_pos (p:=fun x=>x != c) (l₁:=b) (l₂:=[]) (by simpa using h)
    simpa using this
  unfold cutAt
  simp only [e]
  exact if_pos trivial
theorem cut_cases (c:UInt8):∀ b:Bt,(∀ x∈b,x≠c)∨∃ l r,b=l++c::r∧∀ x∈l,x≠c
  | []=>.inl fun x hx=>by cases hx
  | x::t=>by
    by_cases e:x=c
    · exact .inr ⟨[],t,by rw [e]; rfl,fun y hy=>by cases hy⟩
    · rcases cut_cases c t with h | ⟨l,r,h,hl⟩
      · exact .inl fun y hy=>by
          rcases List.mem_cons.mp hy with z | z
          · rw [z]; exact e
          · exact h y z
      · refine .inr ⟨x::l,r,by rw [h]; rfl,fun y hy=>?_⟩
        rcases List.mem_cons.mp hy with z | z
        · rw [z]; exact e
        · exact hl y z
theorem cut_inv {c:UInt8} {b l r:Bt} (h:cutAt c b=some (l,r)):b=l++c::r∧∀ x∈l,x≠c:=by
  rcases cut_cases c b with z | ⟨l',r',e,z⟩
  · rw [cut_none z] at h
    cases h
  · rw [e,cut_some z] at h
    cases h
    exact ⟨e,z⟩
theorem split_cut (c:UInt8) (b:Bt):splitB c b=match cutAt c b with
    | some (l,r)=>l::splitB c r
    | none=>[b]:=by
  rcases cut_cases c b with z | ⟨l,r,e,z⟩
  · rw [cut_none z,split_nosep z]
  · rw [e,cut_some z,split_sep z]
theorem parts_split:∀ (k:Nat) (b:Bt),b.length < k→viaOf.parts k b=splitB 59 b
  | 0,_,h=>by omega
  | k+1,b,h=>by
    rw [split_cut]
    show (match cutAt 59 b with | some (x,y)=>x::viaOf.parts k y | none=>[b])=_
    cases e:cutAt 59 b with
    | none=>rfl
    | some p =>
      obtain ⟨l,r⟩:=p
      obtain ⟨eb,_⟩:=cut_inv e
      have:b.length=l.length+(r.length+1):=by rw [eb,List.length_append,List.length_cons]
      show l::viaOf.parts k r=l::splitB 59 r
      rw [parts_split k r (by omega)]
def clean (l:Bt):Prop:=∀ x∈l,x≠13∧x≠10
def jl (ls:List Bt):Bt:=ls.flatMap fun l=>l++[13,10]
theorem jl_cons (l:Bt) (ls:List Bt):jl (l::ls)=l++13::10::jl ls:=by simp [jl]
theorem line_some {r:Bt}:∀ {l:Bt} {k:Nat},clean l→l.length < k→line k (l++13::10::r)=some (l,r)
  | [],0,_,h=>by simp at h
  | [],k+1,_,_=>by simp [line]
  | x::t,0,_,h=>by simp at h
  | x::t,k+1,hc,h=>by
    have hx:=hc x List.mem_cons_self
    have ih:=line_some (r:=r) (l:=t) (k:=k) (fun y hy=>hc y (List.mem_cons_of_mem _ hy)) (by rw [List.length_cons] at h; omega)
    show line (k+1) (x::(t++13::10::r))=_
    unfold line
    split
    · rename_i e; injection e with e1 _; exact absurd e1 hx.1
    · rename_i e; injection e with e1 _; exact absurd e1 hx.1
    · rename_i e; injection e with e1 _; exact absurd e1 hx.2
    · rename_i e
      injection e with e1 e2
      subst e1 e2
      rw [ih]
      rfl
    · rename_i e; cases e
theorem line_inv:∀ {k:Nat} {b l r:Bt},line k b=some (l,r)→b=l++13::10::r∧clean l
  | 0,_,_,_,h=>by simp [line] at h
  | k+1,b,l,r,h=>by
    unfold line at h
    split at h
    · cases h
      exact ⟨rfl,fun x hx=>by cases hx⟩
    · cases h
    · cases h
    · rename_i c t n1 n2 n3
      cases e:line k t with
      | none=>rw [e] at h; cases h
      | some p =>
        obtain ⟨l',r'⟩:=p
        rw [e] at h
        cases h
        obtain ⟨e1,e2⟩:=line_inv e
        refine ⟨by rw [e1]; rfl,fun x hx=>?_⟩
        rcases List.mem_cons.mp hx with z | z
        · subst z
          exact ⟨fun q=>n2 q,fun q=>n3 q⟩
        · exact e2 x z
    · cases h
def hdrS (l:Bt):Option (Bt×Bt):=match cutAt 58 l with
  | some (n,32::v)=>if isWord n=true∧v≠[] then some (n,v) else none
  | _=>none
theorem headers_line {k:Nat} {l r:Bt} (hl:clean l) (ne:l≠[]):headers (k+1) (l++13::10::r)=match hdrS l with
    | some p=>(headers k r).map fun x=>(p::x.1,x.2)
    | none=>none:=by
  have e:=line_some (r:=r) hl (show l.length < (l++13::10::r).length+1 by rw [List.length_append]; omega)
  conv=>lhs; unfold headers
  rw [e]
  cases l with
  | nil=>exact absurd rfl ne
  | cons x t =>
    show (match cutAt 58 (x::t) with
      | some (n,32::v)=>if isWord n=true∧v≠[] then (headers k r).map fun (x:List (Bt×Bt)×Bt)=>((n,v)::x.1,x.2) else none
      | _=>none)=_
    unfold hdrS
    split
    · rename_i n v e2
      by_cases c:isWord n=true∧v≠[]
      · rw [if_pos c]
        simp only [if_pos c]
      · rw [if_neg c]
        simp only [if_neg c]
    · rfl
theorem headers_end {k:Nat} {r:Bt}:headers (k+1) (13::10::r)=some ([],r):=by
  have e:=line_some (r:=r) (l:=[]) (k:=(13::10::r).length+1) (fun x hx=>by cases hx) (by simp)
  unfold headers
  rw [show line ((13::10::r).length+1) (13::10::r)=some ([],r) from e]
theorem headers_jl {body:Bt}:∀ {ls:List Bt} {k:Nat},(∀ l∈ls,clean l∧l≠[])→(jl ls++13::10::body).length < k→headers k (jl ls++13::10::body)=(ls.mapM hdrS).map fun h=>(h,body)
  | [],0,_,h=>by simp at h
  | [],k+1,_,_=>by
    show headers (k+1) (13::10::body)=_
    rw [headers_end]
    rfl
  | l::ls,0,_,h=>by simp at h
  | l::ls,k+1,hc,h=>by
    obtain ⟨h1,h2⟩:=hc l List.mem_cons_self
    have e:jl (l::ls)++13::10::body=l++13::10::(jl ls++13::10::body):=by rw [jl_cons]; simp
    rw [e] at h ⊢
    have ih:=headers_jl (body:=body) (ls:=ls) (k:=k) (fun x hx=>hc x (List.mem_cons_of_mem _ hx)) (by rw [List.length_append,List.length_cons,List.length_cons] at h; omega)
    rw [headers_line h1 h2,ih,List.mapM_cons]
    cases hdrS l with
    | none=>rfl
    | some p =>
      cases ls.mapM hdrS with
      | none=>rfl
      | some q=>rfl
theorem headers_inv:∀ {k:Nat} {r:Bt} {h:List (Bt×Bt)} {body:Bt},headers k r=some (h,body)→∃ ls,r=jl ls++13::10::body∧(∀ l∈ls,clean l∧l≠[])∧ls.mapM hdrS=some h
  | 0,_,_,_,e=>by simp [headers] at e
  | k+1,r,h,body,e=>by
    cases e1:line (r.length+1) r with
    | none=>unfold headers at e; rw [e1] at e; cases e
    | some p =>
      obtain ⟨l,t⟩:=p
      obtain ⟨er,hl⟩:=line_inv e1
      by_cases ne:l=[]
      · subst ne
        rw [er] at e
        rw [show ([]:Bt)++13::10::t=13::10::t from rfl,headers_end] at e
        cases e
        exact ⟨[],er,(fun x hx=>by cases hx),rfl⟩
      · rw [er,headers_line hl ne] at e
        cases e2:hdrS l with
        | none=>rw [e2] at e; cases e
        | some p =>
          rw [e2] at e
          cases e3:headers k t with
          | none=>rw [e3] at e; cases e
          | some q =>
            obtain ⟨h',body'⟩:=q
            rw [e3] at e
            cases e
            obtain ⟨ls,a1,a2,a3⟩:=headers_inv e3
            refine ⟨l::ls,by rw [er,a1,jl_cons]; simp,fun x hx=>?_,by rw [List.mapM_cons,e2,a3]; rfl⟩
            rcases List.mem_cons.mp hx with z | z
            · rw [z]; exact ⟨hl,ne⟩
            · exact a2 x z
structure Shape (b l0:Bt) (ls:List Bt) (body:Bt):Prop where
  eq:b=jl (l0::ls)++13::10::body
  c0:clean l0
  cs:∀ l∈ls,clean l∧l≠[]
def HL (b:Bt) (p:Nat):Prop:=∃ u v,b=u++13::10::13::10::v∧u.length+2=p
theorem no_before:∀ {ls:List Bt} {l0 body u v:Bt},clean l0→(∀ l∈ls,clean l∧l≠[])→jl (l0::ls)++13::10::body=u++13::10::13::10::v→(jl (l0::ls)).length≤u.length+2:=by
  intro ls
  induction ls with
  | nil =>
    intro l0 body u v h0 _ e
    rw [jl_cons,show jl ([]:List Bt)=[] from rfl] at e ⊢
    rw [List.length_append,List.length_cons,List.length_cons,List.length_nil]
    by_cases hlt:u.length < l0.length
    · exfalso
      have e1:(l0++[13,10]++13::10::body)[u.length]?=some 13:=by rw [e]; simp
      rw [List.append_assoc,List.getElem?_append_left hlt] at e1
      exact (h0 13 (List.mem_of_getElem? e1)).1 rfl
    · omega
  | cons l1 ls ih =>
    intro l0 body u v h0 hs e
    obtain ⟨h1,n1⟩:=hs l1 List.mem_cons_self
    rw [jl_cons] at e ⊢
    rw [List.length_append,List.length_cons,List.length_cons]
    have e:l0++13::10::(jl (l1::ls)++13::10::body)=u++13::10::13::10::v:=by rw [← e]; simp
    by_cases hlt:u.length < l0.length
    · exfalso
      have e1:(l0++13::10::(jl (l1::ls)++13::10::body))[u.length]?=some 13:=by rw [e]; simp
      rw [List.getElem?_append_left hlt] at e1
      exact (h0 13 (List.mem_of_getElem? e1)).1 rfl
    · by_cases heq:u.length=l0.length
      · exfalso
        obtain ⟨_,e2⟩:=List.append_inj e heq.symm
        injection e2 with _ e2
        injection e2 with _ e2
        rw [jl_cons] at e2
        cases l1 with
        | nil=>exact n1 rfl
        | cons x t =>
          have e3:x::(t++13::10::jl ls++13::10::body)=13::10::v:=by rw [← e2]; simp
          injection e3 with e4 _
          exact (h1 x List.mem_cons_self).1 e4
      · by_cases hone:u.length=l0.length+1
        · exfalso
          have e1:(l0++13::10::(jl (l1::ls)++13::10::body))[u.length]?=some 13:=by rw [e]; simp
          rw [List.getElem?_append_right (by omega),hone,Nat.add_sub_cancel_left] at e1
          simp at e1
        · have hge:l0.length+2≤u.length:=by omega
          have eu:u=l0++13::10::u.drop (l0.length+2):=by
            have t1:(l0++13::10::(jl (l1::ls)++13::10::body)).take (l0.length+2)=u.take (l0.length+2):=by rw [e,List.take_append_of_le_length hge]
            have t2:(l0++13::10::(jl (l1::ls)++13::10::body)).take (l0.length+2)=l0++[13,10]:=by
              rw [List.take_append,List.take_of_length_le (by omega),Nat.add_sub_cancel_left]
              rfl
            have t3:=List.take_append_drop (l0.length+2) u
            rw [← t1,t2] at t3
            rw [← t3]
            simp
          rw [eu] at e
          have e':l0++13::10::(jl (l1::ls)++13::10::body)=l0++13::10::(u.drop (l0.length+2)++13::10::13::10::v):=by rw [e]; simp
          have e2:=List.append_cancel_left e'
          injection e2 with _ e2
          injection e2 with _ e2
          have:=ih h1 (fun x hx=>hs x (List.mem_cons_of_mem _ hx)) e2
          rw [List.length_drop] at this
          omega
end L2

namespace L2
open Ql47
def condB (b:Bt) (p:Nat):Bool:=decide ((b.take p).drop (p - 2)=[13,10]) && decide ((b.take (p+2)).drop p=[13,10])
theorem cond_HL {b:Bt} {p:Nat} (h2:2≤p):condB b p=true ↔ HL b p:=by
  unfold condB
  rw [Bool.and_eq_true,decide_eq_true_iff,decide_eq_true_iff]
  constructor
  · rintro ⟨h1,h3⟩
    refine ⟨b.take (p - 2),b.drop (p+2),?_,?_⟩
    · have e1:b.take p=b.take (p - 2)++[13,10]:=by
        have:=List.take_append_drop (p - 2) (b.take p)
        rw [h1,List.take_take,Nat.min_eq_left (by omega)] at this
        exact this.symm
      have e2:b.take (p+2)=b.take p++[13,10]:=by
        have:=List.take_append_drop p (b.take (p+2))
        rw [h3,List.take_take,Nat.min_eq_left (by omega)] at this
        exact this.symm
      have e3:=List.take_append_drop (p+2) b
      rw [e2,e1] at e3
      refine e3.symm.trans ?_
      simp
    · have:=congrArg List.length h1
      rw [List.length_drop,List.length_take] at this
      rw [List.length_take]
      simp at this
      omega
  · rintro ⟨u,v,rfl,hu⟩
    have e1:(u++13::10::13::10::v).take p=u++[13,10]:=by
      rw [List.take_append,List.take_of_length_le (by omega),show p - u.length=2 by omega]
      rfl
    have e2:(u++13::10::13::10::v).take (p+2)=u++[13,10,13,10]:=by
      rw [List.take_append,List.take_of_length_le (by omega),show p+2 - u.length=4 by omega]
      rfl
    rw [e1,e2]
    constructor
    · rw [List.drop_append,List.drop_of_length_le (by omega),show p - 2 - u.length=0 by omega]
      rfl
    · rw [List.drop_append,List.drop_of_length_le (by omega),show p - u.length=2 by omega]
      rfl
def headLen (b:Bt):Option Nat:=((List.range (b.length - 3)).find? fun j=>condB b (j+2)).map (·+2)
theorem headLen_some {b:Bt} {n:Nat} (h:headLen b=some n):2≤n∧condB b n=true∧∀ q,2≤q→q < n→condB b q=false:=by
  unfold headLen at h
  cases e:(List.range (b.length - 3)).find? fun j=>condB b (j+2) with
  | none=>rw [e] at h; cases h
  | some j =>
    rw [e] at h
    cases h
    obtain ⟨h1,h2,h3⟩:=List.find?_range_eq_some.mp e
    refine ⟨Nat.le_add_left _ _,h1,fun q a b=>?_⟩
    have b':q < j+2:=b
    have:=h3 (q - 2) (by omega)
    rw [show q - 2+2=q by omega] at this
    simpa using this
theorem headLen_mk {b:Bt} {n:Nat} (h2:2≤n) (hb:n+2≤b.length) (hc:condB b n=true) (hm:∀ q,2≤q→q < n→condB b q=false):headLen b=some n:=by
  unfold headLen
  have e:(List.range (b.length - 3)).find? (fun j=>condB b (j+2))=some (n - 2):=by
    refine List.find?_range_eq_some.mpr ⟨by rw [show n - 2+2=n by omega]; exact hc,List.mem_range.mpr (by omega),fun j hj=>?_⟩
    rw [hm (j+2) (by omega) (by omega)]
    rfl
  rw [e]
  show some (n - 2+2)=some n
  rw [show n - 2+2=n by omega]
theorem headLen_none {b:Bt} (h:∀ q,2≤q→q < b.length - 1→condB b q=false):headLen b=none:=by
  unfold headLen
  have e:(List.range (b.length - 3)).find? (fun j=>condB b (j+2))=none:=by
    refine List.find?_eq_none.mpr fun j hj=>?_
    rw [h (j+2) (by omega) (by have:=List.mem_range.mp hj; omega)]
    simp
  rw [e]
  rfl
def lineOk (row:Bt):Option Bt:=if row.drop (row.length - 1)=[13]∧¬ 13∈row.dropLast then some row.dropLast else none
def linesOf (h:Bt):Option (List Bt):=(splitB 10 h).dropLast.mapM lineOk
theorem lineOk_mk {l:Bt} (h:clean l):lineOk (l++[13])=some l:=by
  unfold lineOk
  rw [if_pos ⟨by simp,by rw [List.dropLast_concat]; exact fun m=>(h 13 m).1 rfl⟩,List.dropLast_concat]
theorem lineOk_inv {row l:Bt} (h:lineOk row=some l):row=l++[13]∧∀ x∈l,x≠13:=by
  unfold lineOk at h
  split at h
  · rename_i c
    cases h
    refine ⟨?_,fun x hx e=>c.2 (by rw [← e]; exact hx)⟩
    have:=List.take_append_drop (row.length - 1) row
    rw [c.1,← List.dropLast_eq_take] at this
    exact this.symm
  · cases h
theorem lines_jl:∀ {ls:List Bt},(∀ l∈ls,clean l)→splitB 10 (jl ls)=ls.map (·++[13])++[[]]
  | [],_=>rfl
  | l::ls,h=>by
    have hl:=h l List.mem_cons_self
    have e:jl (l::ls)=(l++[13])++10::jl ls:=by rw [jl_cons]; simp
    rw [e,split_sep (fun x hx=>?_),lines_jl fun x hx=>h x (List.mem_cons_of_mem _ hx)]
    · rfl
    · rcases List.mem_append.mp hx with z | z
      · exact (hl x z).2
      · have:x=13:=by simpa using z
        rw [this]
        decide
theorem linesOf_jl {ls:List Bt} (h:∀ l∈ls,clean l):linesOf (jl ls)=some ls:=by
  unfold linesOf
  rw [lines_jl h,List.dropLast_concat]
  induction ls with
  | nil=>rfl
  | cons l ls ih =>
    rw [List.map_cons,List.mapM_cons,lineOk_mk (h l List.mem_cons_self),ih fun x hx=>h x (List.mem_cons_of_mem _ hx)]
    rfl
theorem linesOf_inv:∀ (n:Nat) {h:Bt} {ls:List Bt},h.length≤n→linesOf h=some ls→∃ t,h=jl ls++t∧(∀ l∈ls,clean l)∧∀ x∈t,x≠10:=by
  intro n
  induction n with
  | zero =>
    intro h ls hn e
    have:h=[]:=List.eq_nil_of_length_eq_zero (by omega)
    subst this
    unfold linesOf splitB at e
    cases e
    exact ⟨[],rfl,(fun x hx=>by cases hx),fun x hx=>by cases hx⟩
  | succ n ih =>
    intro h ls hn e
    rcases cut_cases 10 h with z | ⟨l,r,rfl,z⟩
    · unfold linesOf at e
      rw [split_nosep z] at e
      cases e
      exact ⟨h,rfl,(fun x hx=>by cases hx),z⟩
    · unfold linesOf at e
      rw [split_sep z,List.dropLast_cons_of_ne_nil (split_ne r),List.mapM_cons] at e
      cases e1:lineOk l with
      | none=>rw [e1] at e; cases e
      | some l' =>
        rw [e1] at e
        cases e2:(splitB 10 r).dropLast.mapM lineOk with
        | none=>rw [e2] at e; cases e
        | some ls' =>
          rw [e2] at e
          cases e
          obtain ⟨el,hl⟩:=lineOk_inv e1
          obtain ⟨t,et,hc,ht⟩:=ih (h:=r) (ls:=ls') (by rw [List.length_append,List.length_cons] at hn; omega) e2
          refine ⟨t,by rw [jl_cons,et,el]; simp,fun x hx=>?_,ht⟩
          rcases List.mem_cons.mp hx with q | q
          · subst q
            exact fun y hy=>⟨hl y hy,z y (by rw [el]; exact List.mem_append_left _ hy)⟩
          · exact hc x q
theorem jl_append (a b:List Bt):jl (a++b)=jl a++jl b:=by simp [jl]
theorem shape_of {b:Bt} {n:Nat} {lines:List Bt} (h1:headLen b=some n) (h2:linesOf (b.take n)=some lines):∃ l0 ls,lines=l0::ls∧Shape b l0 ls (b.drop (n+2)):=by
  obtain ⟨hn,hc,hm⟩:=headLen_some h1
  obtain ⟨u,v,eb,hu⟩:=(cond_HL hn).mp hc
  obtain ⟨t,et,hcl,ht⟩:=linesOf_inv _ (Nat.le_refl _) h2
  have e1:b.take n=u++[13,10]:=by
    rw [eb,List.take_append,List.take_of_length_le (by omega),show n - u.length=2 by omega]
    rfl
  have e2:b.drop (n+2)=v:=by
    rw [eb,List.drop_append,List.drop_of_length_le (by omega),show n+2 - u.length=4 by omega]
    rfl
  have t0:t=[]:=by
    rcases List.eq_nil_or_concat t with z | ⟨t',x,z⟩
    · exact z
    · exfalso
      rw [e1,z] at et
      have e3:(u++[13])++[10]=(jl lines++t')++[x]:=by rw [List.concat_eq_append] at et; simpa using et
      have e4:=(List.append_inj' e3 rfl).2
      have:x=10:=by simpa using e4.symm
      exact ht x (by rw [z]; simp) this
  rw [t0,List.append_nil,e1] at et
  cases lines with
  | nil=>exact absurd (congrArg List.length et) (by simp [jl])
  | cons l0 ls =>
    refine ⟨l0,ls,rfl,⟨?_,hcl l0 List.mem_cons_self,fun l hl=>⟨hcl l (List.mem_cons_of_mem _ hl),fun z=>?_⟩⟩⟩
    · rw [e2,← et,eb]
      simp
    · subst z
      obtain ⟨pre,post,e3⟩:=List.append_of_mem hl
      have e4:jl (l0::ls)=jl (l0::pre)++13::10::jl post:=by
        rw [e3,show l0::(pre++[]::post)=(l0::pre)++([]::post) from rfl,jl_append,jl_cons (l:=[]) (ls:=post)]
        rfl
      obtain ⟨w,ew⟩:∃ w,jl (l0::pre)=w++[13,10]:=by
        rcases List.eq_nil_or_concat (l0::pre) with q | ⟨p',x,q⟩
        · cases q
        · rw [q,List.concat_eq_append,jl_append]
          exact ⟨jl p'++x,by simp [jl]⟩
      have hl2:HL b (w.length+2):=⟨w,jl post++13::10::v,by
        have:b=(u++[13,10])++13::10::v:=by rw [eb]; simp
        rw [this,et,e4,ew]
        simp,rfl⟩
      have hlen:w.length+2 < n:=by
        have a1:=congrArg List.length et
        rw [e4,ew] at a1
        simp at a1
        omega
      have:=hm (w.length+2) (by omega) hlen
      rw [(cond_HL (by omega)).mpr hl2] at this
      cases this
theorem of_shape {b l0:Bt} {ls:List Bt} {body:Bt} (h:Shape b l0 ls body):∃ n,headLen b=some n∧linesOf (b.take n)=some (l0::ls)∧b.drop (n+2)=body:=by
  obtain ⟨w,ew⟩:∃ w,jl (l0::ls)=w++[13,10]:=by
    rcases List.eq_nil_or_concat (l0::ls) with q | ⟨p',x,q⟩
    · cases q
    · rw [q,List.concat_eq_append,jl_append]
      exact ⟨jl p'++x,by simp [jl]⟩
  have eb:b=w++13::10::13::10::body:=by rw [h.eq,ew]; simp
  have hlen:(jl (l0::ls)).length=w.length+2:=by rw [ew]; simp
  refine ⟨w.length+2,headLen_mk (by omega) (by rw [eb]; simp; omega) ((cond_HL (by omega)).mpr ⟨w,body,eb,rfl⟩) fun q a1 a2=>?_,?_,?_⟩
  · cases c:condB b q with
    | false=>rfl
    | true =>
      obtain ⟨u,v,e1,e2⟩:=(cond_HL a1).mp c
      have:=no_before h.c0 h.cs (h.eq.symm.trans e1)
      omega
  · have e1:b.take (w.length+2)=jl (l0::ls):=by
      rw [eb,List.take_append,List.take_of_length_le (by omega),show w.length+2 - w.length=2 by omega,ew]
      rfl
    rw [e1]
    refine linesOf_jl fun l hl=>?_
    rcases List.mem_cons.mp hl with z | z
    · rw [z]; exact h.c0
    · exact (h.cs l z).1
  · rw [eb,List.drop_append,List.drop_of_length_le (by omega),show w.length+2+2 - w.length=4 by omega]
    rfl
end L2

namespace L2
open Ql47
def hdrP (l:Bt):Option (Bt×Bt) :=
  let name:=(splitB 58 l).headD []
  let value:=l.drop (name.length+2)
  if isWord name=true∧(l.drop name.length).take 2=[58,32]∧value≠[] then some (name,value) else none
theorem hdrP_eq (l:Bt):hdrP l=hdrS l:=by
  unfold hdrP hdrS
  rcases cut_cases 58 l with z | ⟨n,r,rfl,z⟩
  · rw [split_nosep z,cut_none z]
    simp
  · rw [split_sep z,cut_some z]
    have e1:(n++58::r).drop n.length=58::r:=by simp
    have e2:(n++58::r).drop (n.length+2)=r.drop 1:=by
      rw [List.drop_append,List.drop_of_length_le (by omega),show n.length+2 - n.length=2 by omega]
      rfl
    simp only [List.headD_cons,e1,e2]
    cases r with
    | nil=>simp
    | cons x t =>
      by_cases hx:x=32
      · subst hx
        simp
      · have:¬ ((58::x::t).take 2=([58,32]:Bt)):=by simp [hx]
        rw [if_neg (fun h=>this h.2.1)]
        split
        · rename_i e
          simp at e
          exact absurd e.2.1 hx
        · rfl
theorem hdrS_ne {l:Bt} {p:Bt×Bt} (h:hdrS l=some p):p.2≠[]∧p.1.length+p.2.length≤l.length:=by
  unfold hdrS at h
  split at h
  · rename_i n v e
    split at h
    · rename_i c
      cases h
      obtain ⟨e1,_⟩:=cut_inv e
      exact ⟨c.2,by rw [e1]; simp; omega⟩
    · cases h
  · cases h
def statusOf (l:Bt):Option Nat :=
  let d:=(l.take 11).drop 8
  if (decide (1≤d.length) && decide (d.length≤3) && d.all digit)=true∧(l.take 12).drop 11=[32]∧100≤number d∧number d≤699 then some (number d) else none
def requestOf (l:Bt):Option (Bt×Bt):=match splitB 32 l with
  | [m,u,v]=>if isWord m=true∧(!u.isEmpty && u.all seen)=true∧v=VERSION then some (m,u) else none
  | _=>none
def firstP (l:Bt):Option First:=if l.take 8=txt "SIP/2.0 " then (statusOf l).map First.reply else (requestOf l).map fun p=>First.request p.1 p.2
theorem ver_blank:txt "SIP/2.0 "=VERSION++[32]:=by decide
theorem ver_clean:∀ x∈VERSION,x≠32:=by decide
theorem first_split (l:Bt):first l=firstP l:=by
  unfold firstP first
  rcases cut_cases 32 l with z | ⟨a,r,rfl,z⟩
  · simp only [cut_none z]
    have n1:¬ l.take 8=txt "SIP/2.0 ":=fun e=>z 32 (List.mem_of_mem_take (i:=8) (by rw [e]; decide)) rfl
    rw [if_neg n1]
    unfold requestOf
    rw [split_nosep z]
    rfl
  · simp only [cut_some z]
    by_cases ha:a=VERSION
    · subst ha
      have y1:(VERSION++32::r).take 8=txt "SIP/2.0 ":=by
        rw [ver_blank,List.take_append,show VERSION.length=7 from rfl,List.take_of_length_le (by decide)]
        rfl
      rw [if_pos y1]
      have e1:((VERSION++32::r).take 11).drop 8=r.take 3:=by
        rw [List.drop_take,List.drop_append,show VERSION.length=7 from rfl]
        rfl
      have e2:((VERSION++32::r).take 12).drop 11=(r.drop 3).take 1:=by
        rw [List.drop_take,List.drop_append,show VERSION.length=7 from rfl]
        rfl
      unfold statusOf
      simp only [e1,e2]
      rcases cut_cases 32 r with z2 | ⟨x,y,rfl,z2⟩
      · simp only [cut_none z2]
        have n2:¬ (r.drop 3).take 1=[32]:=fun e=>z2 32 (List.mem_of_mem_drop (i:=3) (List.mem_of_mem_take (i:=1) (by rw [e]; simp))) rfl
        rw [if_neg fun h=>n2 h.2.1]
        rfl
      · simp only [cut_some z2,if_true]
        by_cases hx:x.length=3
        · have e3:(x++32::y).take 3=x:=by rw [← hx]; simp
          have e4:((x++32::y).drop 3).take 1=[32]:=by rw [← hx]; simp
          rw [e3,e4]
          by_cases c:x.all digit=true∧100≤number x∧number x≤699
          · rw [if_pos ⟨hx,c⟩,if_pos ⟨by rw [hx,c.1]; rfl,rfl,c.2⟩]
            rfl
          · rw [if_neg fun h=>c h.2,if_neg fun h=>c ⟨by have:=h.1; rw [Bool.and_eq_true] at this; exact this.2,h.2.2⟩]
            rfl
        · rw [if_neg fun h=>hx h.1]
          rw [if_neg]
          · rfl
          · rintro ⟨h1,h2,_⟩
            by_cases hlt:x.length < 3
            · rw [Bool.and_eq_true] at h1
              have:(32:UInt8)∈(x++32::y).take 3:=by
                have:((x++32::y).take 3)[x.length]?=some 32:=by
                  rw [List.getElem?_take_of_lt hlt]
                  simp
                exact List.mem_of_getElem? this
              have q:=List.all_eq_true.mp h1.2 32 this
              revert q
              decide
            · have:((x++32::y).drop 3).take 1=(x.drop 3).take 1:=by
                rw [List.drop_append_of_le_length (by omega),List.take_append_of_le_length (by rw [List.length_drop]; omega)]
              rw [this] at h2
              exact z2 32 (List.mem_of_mem_drop (i:=3) (List.mem_of_mem_take (i:=1) (by rw [h2]; simp))) rfl
    · have n1:¬ (a++32::r).take 8=txt "SIP/2.0 ":=fun e=>by
        rw [ver_blank] at e
        have e1:VERSION++[32]++(a++32::r).drop 8=a++32::r:=by rw [← e,List.take_append_drop]
        generalize (a++32::r).drop 8=D at e1
        have e2:cutAt 32 (a++32::r)=some (VERSION,D):=by
          rw [← e1,← cut_some (c:=32) (l:=VERSION) (r:=D) ver_clean]
          congr 1
          all_goals simp
        rw [cut_some z] at e2
        injection e2 with e2
        injection e2 with e3 _
        exact ha e3
      rw [if_neg n1]
      unfold requestOf
      rw [split_sep z]
      rcases cut_cases 32 r with z2 | ⟨x,y,rfl,z2⟩
      · simp only [cut_none z2,split_nosep z2]
        rfl
      · simp only [cut_some z2,split_sep z2,if_neg ha]
        rcases cut_cases 32 y with z3 | ⟨x3,y3,rfl,z3⟩
        · rw [split_nosep z3]
          simp only
          have e5:((!x.isEmpty && x.all seen)=true) ↔ (x≠[]∧x.all seen=true):=by cases x <;> simp
          by_cases c:isWord a=true∧x≠[]∧x.all seen=true∧y=VERSION
          · rw [if_pos c,if_pos ⟨c.1,e5.mpr ⟨c.2.1,c.2.2.1⟩,c.2.2.2⟩]
            rfl
          · rw [if_neg c,if_neg fun h=>c ⟨h.1,(e5.mp h.2.1).1,(e5.mp h.2.1).2,h.2.2⟩]
            rfl
        · have n3:¬ (x3++32::y3)=VERSION:=fun e=>ver_clean 32 (by rw [← e]; simp) rfl
          rw [if_neg fun h=>n3 h.2.2.2,split_sep z3]
          cases e6:splitB 32 y3 with
          | nil=>exact absurd e6 (split_ne y3)
          | cons _ _=>rfl
def seqP (v:Bt):Option (Nat×Bt):=match splitB 32 v with
  | [n,m]=>if (decide (1≤n.length) && decide (n.length≤10) && n.all digit)=true∧isWord m=true∧number n < 2147483648 then some (number n,m) else none
  | _=>none
theorem word_no32 {m:Bt} (h:isWord m=true):∀ x∈m,x≠32:=fun x hx e=>by
  unfold isWord at h
  rw [Bool.and_eq_true] at h
  have:=List.all_eq_true.mp h.2 x hx
  rw [e] at this
  revert this
  decide
theorem seqP_eq (v:Bt):seqP v=seqOf v:=by
  unfold seqP seqOf
  rcases cut_cases 32 v with z | ⟨n,m,rfl,z⟩
  · simp only [split_nosep z,cut_none z]
  · simp only [split_sep z,cut_some z]
    rcases cut_cases 32 m with z2 | ⟨x,y,rfl,z2⟩
    · rw [split_nosep z2]
      simp only
      have e5:((decide (1≤n.length) && decide (n.length≤10) && n.all digit)=true) ↔ (n≠[]∧n.length≤10∧n.all digit=true):=by cases n <;> simp
      by_cases c:n≠[]∧n.length≤10∧n.all digit=true∧number n < 2 ^ 31∧isWord m=true
      · rw [if_pos c,if_pos ⟨e5.mpr ⟨c.1,c.2.1,c.2.2.1⟩,c.2.2.2.2,c.2.2.2.1⟩]
      · rw [if_neg c,if_neg fun h=>c ⟨(e5.mp h.1).1,(e5.mp h.1).2.1,(e5.mp h.1).2.2,h.2.2,h.2.1⟩]
    · have n3:¬ isWord (x++32::y)=true:=fun e=>word_no32 e 32 (by simp) rfl
      rw [if_neg fun h=>n3 h.2.2.2.2,split_sep z2]
      cases e6:splitB 32 y with
      | nil=>exact absurd e6 (split_ne y)
      | cons _ _=>rfl
def branchP (ps:List Bt):Option Bt:=match (ps.filter fun x=>decide (x.take 7=txt "branch=")).map (·.drop 7) with
  | [br]=>if isWord br=true∧br.take 7=COOKIE∧¬ br.length=7 then some br else none
  | _=>none
def viaP (v:Bt):Option (Bt×Bt):=if v.take 12=txt "SIP/2.0/UDP " then (match splitB 59 (v.drop 12) with
    | by_::ps=>if (!by_.isEmpty && by_.all seen)=true then (branchP ps).map fun br=>(by_,br) else none
    | []=>none) else none
theorem prefix_take (p x:Bt):p.isPrefixOf x=decide (x.take p.length=p):=by
  by_cases h:p <+: x
  · rw [List.isPrefixOf_iff_prefix.mpr h]
    obtain ⟨t,rfl⟩:=h
    simp
  · have h1:p.isPrefixOf x=false:=by
      cases e:p.isPrefixOf x with
      | false=>rfl
      | true=>exact absurd (List.isPrefixOf_iff_prefix.mp e) h
    rw [h1]
    symm
    refine decide_eq_false fun e=>h ⟨x.drop p.length,?_⟩
    have:=List.take_append_drop p.length x
    rw [e] at this
    exact this
theorem branch_eq (ps:List Bt):branchP ps=match (ps.filter fun x=>(txt "branch=").isPrefixOf x) with
    | [x]=>if COOKIE.isPrefixOf (x.drop 7)=true∧COOKIE.length < (x.drop 7).length∧(x.drop 7).all wordChar=true then some (x.drop 7) else none
    | _=>none:=by
  unfold branchP
  have e:(fun x=>(txt "branch=").isPrefixOf x)=fun (x:Bt)=>decide (x.take 7=txt "branch="):=by
    funext x
    rw [prefix_take]
    rfl
  rw [e]
  cases h:ps.filter fun x=>decide (x.take 7=txt "branch=") with
  | nil=>rfl
  | cons x r =>
    cases r with
    | cons _ _=>rfl
    | nil =>
      simp only [List.map_cons,List.map_nil]
      generalize x.drop 7=br
      have c7:COOKIE.length=7:=rfl
      have e2:(isWord br=true∧br.take 7=COOKIE∧¬ br.length=7) ↔ (COOKIE.isPrefixOf br=true∧COOKIE.length < br.length∧br.all wordChar=true):=by
        rw [prefix_take,decide_eq_true_iff,c7]
        unfold isWord
        constructor
        · rintro ⟨h1,h2,h3⟩
          rw [Bool.and_eq_true] at h1
          have:7≤br.length:=by
            have:=congrArg List.length h2
            rw [List.length_take,c7] at this
            omega
          exact ⟨h2,by omega,h1.2⟩
        · rintro ⟨h1,h2,h3⟩
          refine ⟨?_,h1,by omega⟩
          rw [h3,Bool.and_true]
          cases br with
          | nil=>simp at h2
          | cons _ _=>rfl
      by_cases c:isWord br=true∧br.take 7=COOKIE∧¬ br.length=7
      · rw [if_pos c,if_pos (e2.mp c)]
      · rw [if_neg c,if_neg fun h=>c (e2.mpr h)]
theorem udp_blank:txt "SIP/2.0/UDP "=txt "SIP/2.0/UDP"++[32]:=by decide
theorem udp_clean:∀ x∈txt "SIP/2.0/UDP",x≠32:=by decide
theorem udp_len:(txt "SIP/2.0/UDP").length=11:=by decide
theorem viaP_eq (v:Bt):viaP v=viaOf v:=by
  unfold viaP viaOf
  rcases cut_cases 32 v with z | ⟨p,r,rfl,z⟩
  · have n1:¬ v.take 12=txt "SIP/2.0/UDP ":=fun e=>z 32 (List.mem_of_mem_take (i:=12) (by rw [e]; decide)) rfl
    rw [if_neg n1]
    simp only [cut_none z]
  · simp only [cut_some z]
    by_cases hp:p=txt "SIP/2.0/UDP"
    · subst hp
      have y1:(txt "SIP/2.0/UDP"++32::r).take 12=txt "SIP/2.0/UDP ":=by
        rw [udp_blank,List.take_append,udp_len,List.take_of_length_le (by rw [udp_len]; decide)]
        rfl
      have y2:(txt "SIP/2.0/UDP"++32::r).drop 12=r:=by
        rw [List.drop_append,udp_len,List.drop_of_length_le (by rw [udp_len]; decide)]
        rfl
      rw [if_pos y1,y2]
      simp only [ne_eq,not_true_eq_false,if_false]
      rcases cut_cases 59 r with z2 | ⟨b,q,rfl,z2⟩
      · simp only [cut_none z2,split_nosep z2]
        by_cases c:(!r.isEmpty && r.all seen)=true
        · rw [if_pos c]
          rfl
        · rw [if_neg c]
      · simp only [cut_some z2,split_sep z2,parts_split _ _ (Nat.lt_succ_self _),branch_eq]
        have e5:((!b.isEmpty && b.all seen)=true) ↔ (b≠[]∧b.all seen=true):=by cases b <;> simp
        cases h:(splitB 59 q).filter fun x=>(txt "branch=").isPrefixOf x with
        | nil=>simp
        | cons x t =>
          cases t with
          | cons _ _=>simp
          | nil =>
            simp only
            by_cases c1:(!b.isEmpty && b.all seen)=true
            · rw [if_pos c1]
              by_cases c2:COOKIE.isPrefixOf (x.drop 7)=true∧COOKIE.length < (x.drop 7).length∧(x.drop 7).all wordChar=true
              · rw [if_pos c2,if_pos ⟨(e5.mp c1).1,(e5.mp c1).2,c2⟩]
                rfl
              · rw [if_neg c2,if_neg fun h=>c2 h.2.2]
                rfl
            · rw [if_neg c1,if_neg fun h=>c1 (e5.mpr ⟨h.1,h.2.1⟩)]
    · have n1:¬ (p++32::r).take 12=txt "SIP/2.0/UDP ":=fun e=>by
        rw [udp_blank] at e
        have e1:txt "SIP/2.0/UDP"++[32]++(p++32::r).drop 12=p++32::r:=by rw [← e,List.take_append_drop]
        generalize (p++32::r).drop 12=D at e1
        have e2:cutAt 32 (p++32::r)=some (txt "SIP/2.0/UDP",D):=by
          rw [← e1,← cut_some (c:=32) (l:=txt "SIP/2.0/UDP") (r:=D) udp_clean]
          congr 1
          all_goals simp
        rw [cut_some z] at e2
        injection e2 with e2
        injection e2 with e3 _
        exact hp e3
      rw [if_neg n1]
      simp only [ne_eq,hp,not_false_eq_true,if_true]
end L2

namespace L2
open Ql47
structure Parts where
  via:Bt
  by_:Bt
  br:Bt
  from_:Bt
  to:Bt
  id:Bt
  seq:Nat
  meth:Bt
def initOf (h:List (Bt×Bt)):Option Parts :=
  (get h "Via").head?.bind fun via=>(only1 (get h "From")).bind fun fr=>(only1 (get h "To")).bind fun to=>(only1 (get h "Call-ID")).bind fun id=>(viaOf via).bind fun v =>
    (only1 (get h "CSeq")).bind fun c=>(seqOf c).bind fun s=>some ⟨via,v.1,v.2,fr,to,id,s.1,s.2⟩
def clOk (n:Bt) (body:Bt):Bool:=decide (1≤n.length) && decide (n.length≤5) && n.all digit && decide (number n=body.length)
def lenOf (h:List (Bt×Bt)) (body:Bt):Bool:=match only1 (get h "Content-Length") with
  | some n=>clOk n body
  | none=>false
def Fits:First→Bt→Prop
  | .request m _,k=>m=k
  | .reply _,_=>True
instance (f:First) (k:Bt):Decidable (Fits f k):=by
  cases f <;> unfold Fits <;> infer_instance
def mkMsg (f:First) (h:List (Bt×Bt)) (body:Bt) (p:Parts):Msg:=⟨f,h,body,p.via,p.br,p.by_,p.from_,p.to,p.id,p.seq,p.meth⟩
def msgOf (f:First) (h:List (Bt×Bt)) (body:Bt):Option Msg:=if lenOf h body=true then (initOf h).bind fun p=>if Fits f p.meth then some (mkMsg f h body p) else none else none
theorem get_ne {h:List (Bt×Bt)} (hv:∀ p∈h,p.2≠[]) {n:String} {v:Bt} (e:v∈get h n):v≠[]:=by
  unfold Ql47.get at e
  obtain ⟨p,hp,rfl⟩:=List.mem_map.mp e
  exact hv p (List.mem_filter.mp hp).1
theorem only1_mem {l:List Bt} {v:Bt} (e:only1 l=some v):l=[v]:=by
  unfold only1 at e
  split at e
  · cases e; rfl
  · cases e
theorem cl_bad {n body:Bt} (hn:n≠[]):clOk n body=false ↔ (n.all digit=false∨5 < n.length∨number n≠body.length):=by
  unfold clOk
  have h1:1≤n.length:=by cases n with
    | nil=>exact absurd rfl hn
    | cons _ _=>simp
  rw [decide_eq_true h1]
  cases n.all digit <;> by_cases h2:n.length≤5 <;> by_cases h3:number n=body.length <;> simp [h2,h3] <;> omega
theorem read_tail {b l0 r:Bt} {f:First} {h:List (Bt×Bt)} {body:Bt} (hv:∀ p∈h,p.2≠[]) (h1:line (b.length+1) b=some (l0,r)) (h2:first l0=some f) (h3:headers (r.length+1) r=some (h,body)):read b=msgOf f h body:=by
  unfold Ql47.read
  simp only [h1,h2,h3]
  unfold msgOf lenOf initOf
  cases e1:(get h "Via").head? with
  | none =>
    simp only [Option.bind_none]
    split <;> simp_all
  | some via =>
    cases e2:only1 (get h "From") with
    | none =>
      simp only [Option.bind_some,Option.bind_none]
      cases viaOf via <;> split <;> simp_all
    | some fr =>
      cases e3:only1 (get h "To") with
      | none =>
        simp only [Option.bind_some,Option.bind_none]
        cases viaOf via <;> split <;> simp_all
      | some to =>
        cases e4:only1 (get h "Call-ID") with
        | none =>
          simp only [Option.bind_some,Option.bind_none]
          cases viaOf via <;> split <;> simp_all
        | some id =>
          cases e5:viaOf via with
          | none =>
            simp only [Option.bind_some,Option.bind_none,e5]
            split <;> simp_all
          | some v =>
            cases e6:only1 (get h "CSeq") with
            | none =>
              simp only [Option.bind_some,Option.bind_none,e5]
              split <;> simp_all
            | some c =>
              cases e7:seqOf c with
              | none =>
                simp only [Option.bind_some,Option.bind_none,e5,e7]
                split <;> simp_all
              | some s =>
                cases e8:only1 (get h "Content-Length") with
                | none=>simp only [Option.bind_some,e5,e7]; simp
                | some n =>
                  simp only [Option.bind_some,e5,e7]
                  have hn:n≠[]:=get_ne hv (by rw [only1_mem e8]; simp)
                  by_cases c1:clOk n body=true
                  · rw [if_pos c1]
                    have c1':¬ (n.all digit=false∨5 < n.length∨number n≠body.length):=fun z=>by rw [(cl_bad hn).mpr z] at c1; cases c1
                    cases f with
                    | request m u =>
                      by_cases c2:m=s.2
                      · rw [if_neg (by rintro (z | z | z | z); exact c1' (.inl z); exact c1' (.inr (.inl z)); exact c1' (.inr (.inr z)); simp [c2] at z),if_pos (show Fits (First.request m u) s.2 from c2)]
                        rfl
                      · rw [if_pos (.inr (.inr (.inr (by simp [c2])))),if_neg (show ¬ Fits (First.request m u) s.2 from c2)]
                    | reply st =>
                      rw [if_neg (by rintro (z | z | z | z); exact c1' (.inl z); exact c1' (.inr (.inl z)); exact c1' (.inr (.inr z)); cases z),if_pos (show Fits (First.reply st) s.2 from trivial)]
                      rfl
                  · rw [if_neg c1]
                    have c1':clOk n body=false:=by simpa using c1
                    rcases (cl_bad hn).mp c1' with z | z | z
                    · rw [if_pos (.inl z)]
                    · rw [if_pos (.inr (.inl z))]
                    · rw [if_pos (.inr (.inr (.inl z)))]
theorem mapM_mem {α β:Type} {f:α→Option β}:∀ {l:List α} {m:List β},l.mapM f=some m→∀ y∈m,∃ x∈l,f x=some y
  | [],m,h=>by
    have:m=[]:=by simpa using h.symm
    subst this
    intro y hy
    cases hy
  | a::l,m,h=>by
    rw [List.mapM_cons] at h
    cases e1:f a with
    | none=>rw [e1] at h; cases h
    | some b =>
      rw [e1] at h
      cases e2:l.mapM f with
      | none=>rw [e2] at h; cases h
      | some bs =>
        rw [e2] at h
        cases h
        intro y hy
        rcases List.mem_cons.mp hy with z | z
        · exact ⟨a,List.mem_cons_self,by rw [z]; exact e1⟩
        · obtain ⟨x,hx,e⟩:=mapM_mem e2 y z
          exact ⟨x,List.mem_cons_of_mem _ hx,e⟩
theorem hdrs_ne {ls:List Bt} {h:List (Bt×Bt)} (e:ls.mapM hdrS=some h):∀ p∈h,p.2≠[]:=fun p hp=>by
  obtain ⟨l,_,e1⟩:=mapM_mem e p hp
  exact (hdrS_ne e1).1
theorem read_shape {b l0:Bt} {ls:List Bt} {body:Bt} (s:Shape b l0 ls body):read b=match first l0,ls.mapM hdrS with
    | some f,some h=>msgOf f h body
    | _,_=>none:=by
  have eb:b=l0++13::10::(jl ls++13::10::body):=by rw [s.eq,jl_cons]; simp
  have h1:line (b.length+1) b=some (l0,jl ls++13::10::body):=by
    rw [eb]
    exact line_some s.c0 (by rw [List.length_append]; omega)
  have h3:=headers_jl (body:=body) (ls:=ls) (k:=(jl ls++13::10::body).length+1) s.cs (Nat.lt_succ_self _)
  cases e1:first l0 with
  | none=>unfold Ql47.read; simp only [h1,e1]
  | some f =>
    cases e2:ls.mapM hdrS with
    | none =>
      rw [e2] at h3
      unfold Ql47.read
      simp only [h1,e1,h3]
      rfl
    | some h =>
      rw [e2] at h3
      exact read_tail (hdrs_ne e2) h1 e1 h3
theorem read_noshape {b:Bt} (n:∀ l0 ls body,¬ Shape b l0 ls body):read b=none:=by
  unfold Ql47.read
  cases h1:line (b.length+1) b with
  | none=>rfl
  | some p =>
    obtain ⟨l0,r⟩:=p
    simp only
    cases h2:first l0 with
    | none=>rfl
    | some f =>
      cases h3:headers (r.length+1) r with
      | none=>rfl
      | some q =>
        obtain ⟨h,body⟩:=q
        obtain ⟨e1,c0⟩:=line_inv h1
        obtain ⟨ls,e2,cs,_⟩:=headers_inv h3
        exact absurd ⟨by rw [jl_cons,e1,e2]; simp,c0,cs⟩ (n l0 ls body)
theorem read_nohead {b:Bt} (h:headLen b=none):read b=none:=read_noshape fun l0 ls body s=>by
  obtain ⟨n,e,_⟩:=of_shape s
  rw [h] at e
  cases e
theorem read_nolines {b:Bt} {n:Nat} (h:headLen b=some n) (h2:linesOf (b.take n)=none):read b=none:=read_noshape fun l0 ls body s=>by
  obtain ⟨n',e,e2,_⟩:=of_shape s
  rw [h] at e
  cases e
  rw [h2] at e2
  cases e2
theorem read_lines {b:Bt} {n:Nat} {lines:List Bt} (h:headLen b=some n) (h2:linesOf (b.take n)=some lines):∃ l0 ls,lines=l0::ls∧read b=match firstP l0,ls.mapM hdrP with
    | some f,some h=>msgOf f h (b.drop (n+2))
    | _,_=>none:=by
  obtain ⟨l0,ls,e,s⟩:=shape_of h h2
  refine ⟨l0,ls,e,?_⟩
  have ef:hdrP=hdrS:=by funext l; exact hdrP_eq l
  rw [read_shape s,first_split,ef]
end L2

namespace L2
open PySem PySem.Spec PyProof.Rows
section
variable {P:Program} {w:World} {K:PySem.W.Frag} {mg:Str→Option Value} {base:Heap} {A:Adr}
def OrFail {α:Type} (A:Adr) (H:Hp) (E:XK) (o:Option α) (k:α→Prop):Prop:=match o with
  | some x=>k x
  | none=>Fail H E A.c_WrongMessage
theorem OrFail.ok {α:Type} {A:Adr} {H:Hp} {E:XK} {o:Option α} {k:α→Prop} {x:α} (h:OrFail A H E o k) (e:o=some x):k x:=by subst e; exact h
theorem OrFail.no {α:Type} {A:Adr} {H:Hp} {E:XK} {o:Option α} {k:α→Prop} (h:OrFail A H E o k) (e:o=none):Fail H E A.c_WrongMessage:=by subst e; exact h
def sp_qcm (A:Adr):Sp:=fun vs H Q E=>∃ (a:Addr) (b:Bt),vs=[.ref a]∧IsB H a b∧OrFail A H E (headLen b) fun n=>Ret H Q (.int ((n:Nat):Int))
theorem ok_qcm (T:Txt K mg A):FnOk P w K mg base (CXE P w) 1 A.f_qcm A.v_qcm ["octets"] (sp_qcm A):=by
  refine T.d_qcm.fn.okE sc_qcm (fun vs H Q E h=>?_) (fun cdv A' outer s H vs Q E hr h b=>?_)
  · obtain ⟨a,b,rfl,_⟩:=h
    rfl
  · obtain ⟨a,bs,rfl,hB,k⟩:=h
    refine ⟨_,(pss_cons
 (ps_set (i:=1) sc_qcm.nd rfl (by first | exact Or.inl rfl | exact Or.inr rfl) (pe_lst (pa_cons (pgi T.g_CARRIAGE_RETURN) (pa_cons (pgi T.g_LINE_FEED) pa_nil))))
 (pss_cons
 (ps_for b.passes rfl (pi_range2 rfl T.b_range (pa_cons pe_int (pa_cons (pe_op op_sub (pe_callB call_len_seq (by rfl) T.b_len bt_len (pa_cons (pv 0) pa_nil)) pe_int) pa_nil))) (pg_name (i:=2) sc_qcm.nd rfl (Or.inl rfl))
 (pss_one
 (ps_if (PW.pt (pw_and (pt_cmpR (op_eqD hr.units) (pe_slice sl_list (pv 0) (po_some (pe_op op_sub (pv 2) pe_int)) (po_some (pv 2))) (pv 1) (nomark _)) (pw_and1 (pt_cmpR (op_eqD hr.units) (pe_slice sl_list (pv 0) (po_some (pv 2)) (po_some (pe_op op_add (pv 2) pe_int))) (pv 1) (nomark _)))))
 (pss_one
 (ps_ret (pv 2)))
 pss_nil)))
 (pss_one
 (ps_raise b rfl rfl T.g_WrongMessage T.x_WrongMessage)))),?_⟩
    refine ⟨(by show 2≤sizeLine; decide),fun l hl=>?_⟩
    have s1:Same H (upd H l (.lst (LB [13,10]))):=Same.put0 hl
    have hz:bs.length≤BIG:=hB.len
    have big:(BIG:Int) < 2 ^ 62:=by decide
    refine ⟨_,rfl,a,_,rfl,.inl (hB.same s1).sq,_,_,rfl,rfl,2,_,rfl,?_⟩
    rw [LB_length]
    refine ⟨⟨by decide,by decide,by omega,by omega⟩,?_⟩
    have en:((bs.length:Int) - 1 - 2).toNat=bs.length - 3:=by omega
    rw [en]
    refine for_range (lo:=2) (n:=bs.length - 3) (fun i σ H2=>Same (upd H l (.lst (LB [13,10]))) H2∧(∃ v:Option V,σ=[some (.ref a),some (.ref l),v])∧∀ q,2≤q→q < 2+i→condB bs q=false) ⟨Same.refl _,⟨none,rfl⟩,fun q a1 a2=>by omega⟩ ?_ ?_
    · rintro i σ H2 hi ⟨s2,⟨v,rfl⟩,hno⟩
      have hl2:H2 l=some (.lst (LB [13,10])):=s2 _ _ upd_same
      have sH2:=s1.trans s2
      refine ⟨_,rfl,_,rfl,_,_,rfl,rfl,_,rfl,_,rfl,_,rfl,a,_,rfl,(hB.same sH2).sq,fun p hp=>?_⟩
      have e1:(2:Int)+(i:Int) - 2=((2+i - 2:Nat):Int):=by omega
      have e2:(2:Int)+(i:Int)=((2+i:Nat):Int):=by omega
      rw [e1,e2,cutV_mid,LB_take,LB_drop]
      have s3:Same H2 (upd H2 p (.lst (LB ((bs.take (2+i)).drop (2+i - 2))))):=Same.put0 hp
      refine ⟨_,rfl,rEqB upd_same (s3 _ _ hl2) ⟨_,rfl,ite2 (fun h=>?_) fun h=>?_⟩⟩
      · refine ⟨_,rfl,_,rfl,_,rfl,_,rfl,_,_,rfl,rfl,_,rfl,a,_,rfl,(hB.same (sH2.trans s3)).sq,fun p2 hp2=>?_⟩
        have e3:(((2+i:Nat):Int))+2=((2+i+2:Nat):Int):=by omega
        rw [e3,cutV_mid,LB_take,LB_drop]
        have s4:=Same.put0 (o:=.lst (LB ((bs.take (2+i+2)).drop (2+i)))) hp2
        refine ⟨_,rfl,rEqB upd_same (s4 _ _ (s3 _ _ hl2)) ⟨_,rfl,ite2 (fun h2=>?_) fun h2=>?_⟩⟩
        · refine ⟨_,rfl,?_⟩
          have hc:condB bs (2+i)=true:=by unfold condB; rw [h,h2]; rfl
          exact k.ok (headLen_mk (by omega) (by omega) hc hno) _ ((sH2.trans s3).trans s4)
        · refine ⟨(s2.trans s3).trans s4,⟨_,rfl⟩,fun q a1 a2=>?_⟩
          by_cases hq:q < 2+i
          · exact hno q a1 hq
          · have:q=2+i:=by omega
            subst this
            unfold condB
            rw [show decide ((bs.take (2+i+2)).drop (2+i)=[13,10])=false by simpa using h2,Bool.and_false]
      · refine ⟨s2.trans s3,⟨_,rfl⟩,fun q a1 a2=>?_⟩
        by_cases hq:q < 2+i
        · exact hno q a1 hq
        · have:q=2+i:=by omega
          subst this
          unfold condB
          rw [show decide ((bs.take (2+i)).drop (2+i - 2)=[13,10])=false by simpa using h,Bool.false_and]
    · rintro σ H2 ⟨s2,⟨v,rfl⟩,hno⟩
      exact k.no (headLen_none fun q a1 a2=>hno q a1 (by omega)) _ (s1.trans s2)
def sp_qcy (A:Adr):Sp:=fun vs H Q E=>∃ (a:Addr) (b:Bt),vs=[.ref a]∧IsB H a b∧OrFail A H E (lineOk b) (RetB H Q)
theorem ok_qcy (T:Txt K mg A):FnOk P w K mg base (CXE P w) 1 A.f_qcy A.v_qcy ["row"] (sp_qcy A):=by
  refine T.d_qcy.fn.okE sc_qcy (fun vs H Q E h=>?_) (fun cdv A' outer s H vs Q E hr h b=>?_)
  · obtain ⟨a,b,rfl,_⟩:=h
    rfl
  · obtain ⟨a,bs,rfl,hB,k⟩:=h
    refine ⟨_,(pss_cons
 (ps_if (PW.pt (pw_or (pt_cmpR (op_neD hr.units) (pe_slice sl_list (pv 0) (po_some (pe_un un_neg pe_int)) po_none) (pe_lst (pa_cons (pgi T.g_CARRIAGE_RETURN) pa_nil)) (nomark _)) (pw_or1 (pt_cmpR op_in_seq (pgi T.g_CARRIAGE_RETURN) (pe_slice sl_list (pv 0) po_none (po_some (pe_un un_neg pe_int))) rfl))))
 (pss_one
 (ps_raise b rfl rfl T.g_WrongMessage T.x_WrongMessage))
 pss_nil)
 (pss_one
 (ps_ret (pe_slice sl_list (pv 0) po_none (po_some (pe_un un_neg pe_int)))))),?_⟩
    refine ⟨_,rfl,_,rfl,_,rfl,a,_,rfl,hB.sq,fun p hp=>?_⟩
    rw [show (-(1:Int))=-1 from rfl,cutV_last,LB_length,LB_drop]
    have s1:=Same.put0 (o:=.lst (LB (bs.drop (bs.length - 1)))) hp
    refine ⟨(by show 1≤sizeLine; decide),fun q hq=>?_⟩
    have s2:=Same.put0 (o:=.lst (LB [13])) hq
    have fin:∀ H2,Same H H2→∀ l,lineOk bs=some l→bs.dropLast=l→tRet (tSl (rSlL K) (tVar 0) tNoPart (tPart (tUn (rU fun i=>V.int (-i)) (tC (V.int 1))))) { nx:=fun _ H'=>Q .non H',rt:=Q } [some (.ref a)] H2:=by
      intro H2 sH l el e
      refine ⟨_,rfl,_,rfl,_,rfl,a,_,rfl,(hB.same sH).sq,fun p hp=>?_⟩
      rw [show (-(1:Int))=-1 from rfl,cutV_butLast,LB_dropLast,e]
      refine k.ok el p _ (sH.put hp) (sH.free hp) ⟨upd_same,?_⟩
      rw [← e,List.length_dropLast]
      have:=hB.len
      omega
    refine rNeB (b:=bs.drop (bs.length - 1)) (d:=[13]) (s2 _ _ upd_same) upd_same ⟨_,rfl,?_⟩
    have sH2:=s1.trans s2
    refine ite2 (fun h=>iteT ?_) fun h=>?_
    · refine k.no ?_ _ sH2
      unfold lineOk
      rw [if_neg]
      rintro ⟨z,_⟩
      rw [z] at h
      exact absurd h (by decide)
    · have h1:bs.drop (bs.length - 1)=[13]:=by simpa using h
      refine ⟨_,rfl,_,rfl,_,rfl,a,_,rfl,(hB.same sH2).sq,fun p2 hp2=>?_⟩
      rw [show (-(1:Int))=-1 from rfl,cutV_butLast,LB_dropLast]
      have s3:=Same.put0 (o:=.lst (LB bs.dropLast)) hp2
      refine ⟨p2,_,rfl,.inl (SqL.of upd_same),rfl,?_,_,rfl,?_⟩
      · unfold LB
        rw [List.all_map]
        exact List.all_eq_true.mpr fun _ _=>rfl
      · have e13:inV (.int 13) (LB bs.dropLast)=decide ((13:UInt8)∈bs.dropLast):=by
          unfold inV LB
          rw [List.any_map]
          by_cases m:(13:UInt8)∈bs.dropLast
          · rw [decide_eq_true m]
            exact List.any_eq_true.mpr ⟨13,m,rfl⟩
          · rw [decide_eq_false m]
            refine List.any_eq_false.mpr fun x hx e=>m ?_
            have e':((x.toNat:Nat):Int)=13:=by simpa [by1,eqV] using e
            have:x=13:=UInt8.toNat_inj.mp (by show x.toNat=13; omega)
            rw [← this]
            exact hx
        show if (if false=true then !inV (.int 13) (LB bs.dropLast) else inV (.int 13) (LB bs.dropLast))=true then _ else _
        rw [if_neg Bool.false_ne_true,e13]
        refine ite2 (fun h2=>?_) fun h2=>?_
        · refine k.no ?_ _ (sH2.trans s3)
          unfold lineOk
          rw [if_neg]
          rintro ⟨_,z⟩
          exact z (of_decide_eq_true h2)
        · have h3:¬ (13:UInt8)∈bs.dropLast:=by simpa using h2
          exact fin _ (sH2.trans s3) bs.dropLast (by unfold lineOk; rw [if_pos ⟨h1,h3⟩]) rfl
end
end L2

namespace L2
open PySem PySem.Spec PyProof.Rows
theorem mapM_none_of {α β:Type} {f:α→Option β}:∀ {l:List α} {x:α},x∈l→f x=none→l.mapM f=none
  | a::l,x,hx,e=>by
    rw [List.mapM_cons]
    rcases List.mem_cons.mp hx with z | z
    · rw [← z,e]; rfl
    · cases f a with
      | none=>rfl
      | some b=>rw [mapM_none_of z e]; rfl
theorem Paired.mem {α β:Type} {F:α→β→Prop}:∀ {l:List α} {m:List β} {x:α},Paired F l m→x∈l→∃ y∈m,F x y
  | _,_,_,.cons r t,h=>by
    rcases List.mem_cons.mp h with z | z
    · exact ⟨_,List.mem_cons_self,by rw [z]; exact r⟩
    · obtain ⟨y,hy,f⟩:=Paired.mem t z
      exact ⟨y,List.mem_cons_of_mem _ hy,f⟩
theorem Paired.dropLast {α β:Type} {F:α→β→Prop}:∀ {l:List α} {m:List β},Paired F l m→Paired F l.dropLast m.dropLast
  | _,_,.nil=>.nil
  | _,_,.cons r .nil=>.nil
  | _,_,.cons r (.cons r' t)=>.cons r (Paired.dropLast (.cons r' t))
theorem Paired.len {α β:Type} {F:α→β→Prop}:∀ {l:List α} {m:List β},Paired F l m→l.length=m.length
  | _,_,.nil=>rfl
  | _,_,.cons r t=>by rw [List.length_cons,List.length_cons,Paired.len t]
structure ListsIn (H:Hp) (p:Addr) (bs:List Bt):Prop where
  ex:∃ as:List Addr,H p=some (.lst (as.map V.ref))∧Paired (fun a b=>IsB H a b) as bs
  len:bs.length≤BIG
theorem ListsIn.same {H H':Hp} {p:Addr} {bs:List Bt} (h:ListsIn H p bs) (s:Same H H'):ListsIn H' p bs:=by
  obtain ⟨as,e,pr⟩:=h.ex
  exact ⟨⟨as,s _ _ e,Paired.mapP pr fun _ _ z=>z.same s⟩,h.len⟩
theorem trip {α:Type} {F:Addr→Bt→Prop} {R:V→V→Prop} {G:Bt→α→Prop} {S:V→α→Prop} {f:Bt→Option α}:∀ {as:List Addr} {bs:List Bt} {ys:List V},Paired F as bs→Paired R (as.map V.ref) ys →
    (∀ a b y,F a b→R (.ref a) y→∃ x,f b=some x∧S y x)→∃ xs,bs.mapM f=some xs∧Paired S ys xs
  | _,_,_,.nil,.nil,_=>⟨[],rfl,.nil⟩
  | _,_,_,.cons r t,.cons r' t',h=>by
    obtain ⟨x,e,s⟩:=h _ _ _ r r'
    obtain ⟨xs,e2,s2⟩:=trip (G:=G) t t' h
    exact ⟨x::xs,by rw [List.mapM_cons,e,e2]; rfl,.cons s s2⟩
section
variable {P:Program} {w:World} {K:PySem.W.Frag} {mg:Str→Option Value} {base:Heap} {A:Adr}
def sp_qcz (A:Adr):Sp:=fun vs H Q E=>∃ (a:Addr) (b:Bt),vs=[.ref a]∧IsB H a b∧OrFail A H E (linesOf b) fun ls=>∀ p H',Same H H'→H p=none→ListsIn H' p ls→Q (.ref p) H'
theorem ok_qcz (T:Txt K mg A):FnOk P w K mg base (CXE P w) 2 A.f_qcz A.v_qcz ["head"] (sp_qcz A):=by
  refine T.d_qcz.fn.okE sc_qcz (fun vs H Q E h=>?_) (fun cdv A' outer s H vs Q E hr h b=>?_)
  · obtain ⟨a,b,rfl,_⟩:=h
    rfl
  · obtain ⟨a,bs,rfl,hB,k⟩:=h
    refine ⟨_,(pss_cons
 (ps_set (i:=1) sc_qcz.nd rfl (by first | exact Or.inl rfl | exact Or.inr rfl) (pe_call (ok_qdf T) (hr.mono (by decide)) rfl T.d_qdf.at_ T.d_qdf.fn.kp T.d_qdf.bd .nil pass0 (pa_cons (pv 0) (pa_cons (pgi T.g_LINE_FEED) pa_nil))))
 (pss_one
 (ps_ret (pe_lcX (own:=[("row",2)]) rfl sc_qcz.nd (pi_list (pe_slice sl_list (pv 1) po_none (po_some (pe_un un_neg pe_int)))) (blkOk_by (by kernel_rfl)) (fun _ _ _ _ _=>pg_name (i:=2) sc_qcz.nd rfl (Or.inl rfl)) (fun _ _ _ _ _=>pts_nil) b (fun _ _ _ _ _ bi=>(pe_call (ok_qcy T) (hr.mono (by decide)) rfl T.d_qcy.at_ T.d_qcy.fn.kp T.d_qcy.bd .nil (b.blkPass bi fun _ _ z=>z) (pa_cons (pv 2) pa_nil))))))),?_⟩
    refine ⟨_,rfl,a,bs,10,rfl,hB,fun rp H1 s1 hrows=>?_⟩
    obtain ⟨as,hrp,pr⟩:=hrows.ex
    have hlen:(splitB 10 bs).length≤BIG+1:=Nat.le_trans (split_len bs) (Nat.succ_le_succ hB.len)
    have big1:BIG+1≤sizeLine:=by decide
    refine ⟨_,rfl,_,rfl,_,rfl,rp,_,rfl,SqL.of hrp,fun p hp=>?_⟩
    rw [show (-(1:Int))=-1 from rfl,cutV_butLast,← List.map_dropLast]
    have s2:=Same.put0 (o:=.lst (as.dropLast.map V.ref)) hp
    have pr2:Paired (fun a b=>IsB (upd H1 p (.lst (as.dropLast.map V.ref))) a b) as.dropLast (splitB 10 bs).dropLast:=Paired.mapP (Paired.dropLast pr) fun _ _ z=>z.2.same s2
    have hD:upd H1 p (.lst (as.dropLast.map V.ref)) p=some (.lst (as.dropLast.map V.ref)):=upd_same
    have sH:=s1.trans s2
    have hp0:H p=none:=s1.free hp
    generalize upd H1 p (.lst (as.dropLast.map V.ref))=H2 at s2 pr2 hD sH ⊢
    have plen:as.dropLast.length=(splitB 10 bs).dropLast.length:=Paired.len pr2
    have dl:(splitB 10 bs).dropLast.length≤BIG:=by rw [List.length_dropLast]; omega
    refine ⟨p,rfl,⟨_,SqL.of hD⟩,fun D hDn=>lc_lst (SqL.of hD) (fun _=>true) (fun x y H'=>∃ a b l,x=.ref a∧a∈as.dropLast∧IsB H2 a b∧lineOk b=some l∧∃ q,y=.ref q∧q≠D∧IsB H' q l) (fun x y Ha Hb st ⟨a,b,l,e1,e2,e3,e4,q,e5,e6,e7⟩=>⟨a,b,l,e1,e2,e3,e4,q,e5,e6,st _ _ e7.at_ e6,e7.len⟩)
      (by rw [List.length_map]; omega) hDn (fun v hv H' Q' _ k'=>k' _ (Same.refl _)) (fun v hv _ H' Q' s' nD k'=>?_) fun ys H' s' h' p'=>?_⟩
    · obtain ⟨a2,ha2,rfl⟩:=List.mem_map.mp hv
      obtain ⟨b2,hb2,hIs⟩:=Paired.mem pr2 ha2
      refine ⟨_,rfl,a2,b2,rfl,hIs.same s',?_⟩
      cases e:lineOk b2 with
      | none=>exact fun H3 s3=>k.no (mapM_none_of hb2 e) _ ((sH.trans s').trans s3)
      | some l=>exact fun q H3 s3 hq hI=>k' _ _ s3 ⟨a2,b2,l,rfl,ha2,hIs,e,q,rfl,fun z=>nD (by rw [← z]; exact hq),hI⟩
    · rw [filter_true] at p'
      obtain ⟨xs,e1,e2⟩:=trip (F:=fun a b=>IsB H2 a b) (G:=fun _ _=>True) (f:=lineOk) (S:=fun y (x:Bt)=>∃ q,y=.ref q∧IsB H' q x) pr2 p' (fun a b y h1 ⟨a',b',l,z1,z2,z3,z4,q,z5,z6,z7⟩=>by
        cases z1
        have:b'=b:=LB_inj (by have:=z3.at_.symm.trans h1.at_; injection this with this; injection this)
        subst this
        exact ⟨l,z4,q,z5,z7⟩)
      refine k.ok e1 D H' (sH.trans s') (sH.free hDn) ⟨?_,?_⟩
      · have gen:∀ {ys:List V} {xs:List Bt},Paired (fun y (x:Bt)=>∃ q,y=V.ref q∧IsB H' q x) ys xs→∃ as:List Addr,ys=as.map V.ref∧Paired (fun a b=>IsB H' a b) as xs:=by
          intro ys xs pp
          induction pp with
          | nil=>exact ⟨[],rfl,.nil⟩
          | cons r t ih =>
            obtain ⟨q,e,i⟩:=r
            obtain ⟨as,e2,p2⟩:=ih
            exact ⟨q::as,by rw [e,e2]; rfl,.cons i p2⟩
        obtain ⟨as',ea,pa⟩:=gen e2
        exact ⟨as',by rw [h',ea],pa⟩
      · have:=Paired.len e2
        have l2:=Paired.len p'
        rw [List.length_map] at l2
        omega
end
end L2

namespace L2
open PySem PySem.Spec PyProof.Rows
def HdrIs (F:Addr→Prop) (H:Hp) (a:Addr) (h:Bt×Bt):Prop:=∃ q1 q2,H a=some (.tup [.ref q1,.ref q2])∧IsB H q1 h.1∧IsB H q2 h.2∧F q2∧F q1
theorem HdrIs.same {F:Addr→Prop} {H H':Hp} {a:Addr} {h:Bt×Bt} (x:HdrIs F H a h) (s:Same H H'):HdrIs F H' a h:=by
  obtain ⟨q1,q2,e1,e2,e3,e4⟩:=x
  exact ⟨q1,q2,s _ _ e1,e2.same s,e3.same s,e4⟩
structure HdrsIn (F:Addr→Prop) (H:Hp) (p:Addr) (hs:List (Bt×Bt)):Prop where
  ex:∃ as:List Addr,H p=some (.lst (as.map V.ref))∧Paired (HdrIs F H) as hs
  len:hs.length≤BIG
theorem HdrsIn.same {F:Addr→Prop} {H H':Hp} {p:Addr} {hs:List (Bt×Bt)} (x:HdrsIn F H p hs) (s:Same H H'):HdrsIn F H' p hs:=by
  obtain ⟨as,e,pr⟩:=x.ex
  exact ⟨⟨as,s _ _ e,Paired.mapP pr fun _ _ z=>z.same s⟩,x.len⟩
structure ValsIn (F:Addr→Prop) (H:Hp) (p:Addr) (bs:List Bt):Prop where
  ex:∃ as:List Addr,H p=some (.lst (as.map V.ref))∧Paired (fun a b=>IsB H a b∧F a) as bs
  len:bs.length≤BIG
theorem pairF {α:Type} {F:Addr→α→Prop} {R:V→V→Prop} {S:V→α→Prop} {p:V→Bool} {g:α→Bool}:∀ {as:List Addr} {hs:List α} {ys:List V},Paired F as hs→Paired R ((as.map V.ref).filter p) ys →
    (∀ a h,F a h→p (.ref a)=g h)→(∀ a h y,F a h→R (.ref a) y→S y h)→Paired S ys (hs.filter g)
  | _,_,ys,.nil,q,_,_=>by cases q; exact .nil
  | a::as,h::hs,ys,.cons r t,q,h1,h2=>by
    have e:=h1 _ _ r
    rw [List.map_cons,List.filter_cons] at q
    rw [List.filter_cons]
    by_cases c:g h=true
    · rw [if_pos (e.trans c)] at q
      rw [if_pos c]
      cases q with
      | cons r' t'=>exact .cons (h2 _ _ _ r r') (pairF t t' h1 h2)
    · rw [if_neg (by rw [e]; exact c)] at q
      rw [if_neg c]
      exact pairF t q h1 h2
theorem refs_of {β:Type} {G:Addr→β→Prop}:∀ {ys:List V} {xs:List β},Paired (fun y x=>∃ q,y=V.ref q∧G q x) ys xs→∃ as:List Addr,ys=as.map V.ref∧Paired G as xs
  | _,_,.nil=>⟨[],rfl,.nil⟩
  | _,_,.cons r t=>by
    obtain ⟨q,e,i⟩:=r
    obtain ⟨as,e2,p2⟩:=refs_of t
    exact ⟨q::as,by rw [e,e2]; rfl,.cons i p2⟩
theorem Paired.mapR {α β γ:Type} {F:α→β→Prop} {G:α→γ→Prop} {f:β→γ}:∀ {l:List α} {m:List β},Paired F l m→(∀ a b,F a b→G a (f b))→Paired G l (m.map f)
  | _,_,.nil,_=>.nil
  | _,_,.cons r t,h=>.cons (h _ _ r) (Paired.mapR t h)
def isH (H:Hp) (wnt:List V):V→Bool
  | .ref a=>match H a with
    | some (.tup [.ref q1,_])=>match H q1 with
      | some (.lst l)=>decide (l=wnt)
      | _=>false
    | _=>false
  | _=>false
theorem isH_eq {H:Hp} {wnt l:List V} {a q1 q2:Addr} (e1:H a=some (.tup [.ref q1,.ref q2])) (e2:H q1=some (.lst l)):isH H wnt (.ref a)=decide (l=wnt):=by
  simp only [isH,e1,e2]
section
variable {P:Program} {w:World} {K:PySem.W.Frag} {mg:Str→Option Value} {base:Heap} {A:Adr}
structure NameIs (x:Str) (n:String):Prop where
  le:x.cps.size≤BIG
  lo:x.cps.toList.all (· < 256)=true
  eq:strB x=Ql47.txt n
def sp_qdg:Sp:=fun vs H Q _=>∃ (F:Addr→Prop) (p:Addr) (hs:List (Bt×Bt)) (x:Str) (n:String),vs=[.ref p,.str x]∧NameIs x n∧HdrsIn F H p hs∧∀ q H',Same H H'→ValsIn F H' q (Ql47.get hs n)→Q (.ref q) H'
theorem ok_qdg (T:Txt K mg A):FnOk P w K mg base CX0 2 A.f_qdg A.v_qdg ["headers","name"] sp_qdg:=by
  refine T.d_qdg.fn.ok sc_qdg (fun vs H Q E h=>?_) (fun cdv A' outer s H vs Q E hr h=>?_)
  · obtain ⟨F,p,hs,x,n,rfl,_⟩:=h
    rfl
  · obtain ⟨F,p,hs,x,n,rfl,hn,hH,k⟩:=h
    refine ⟨_,(pss_cons
 (ps_set (i:=2) sc_qdg.nd rfl (by first | exact Or.inl rfl | exact Or.inr rfl) (pe_call (ok_qcu T) (hr.mono (by decide)) rfl T.d_qcu.at_ T.d_qcu.fn.kp T.d_qcu.bd .nil pass0 (pa_cons (pv 1) pa_nil)))
 (pss_one
 (ps_ret (pe_lc (own:=[("header",3)]) rfl sc_qdg.nd (pi_list (pv 0)) (blkOk_by (by kernel_rfl)) (fun _ _ _ _ _=>pg_name (i:=3) sc_qdg.nd rfl (Or.inl rfl)) (fun _ _ _ _ _=>(pts_one (pt_cmpR (op_eqDK (K':=K) rfl hr.units) (pe_ix (ix_tupK (K':=K) rfl) (pv 3) pe_int (fun _ _=>rfl)) (pv 2) (nomark _)))) (fun _ _ _ _ _=>(pe_ix (ix_tupK (K':=K) rfl) (pv 3) pe_int (fun _ _=>rfl))))))),?_⟩
    refine ⟨_,rfl,x,rfl,hn.le,hn.lo,fun wd H1 s1 hw0 hw=>?_⟩
    rw [hn.eq] at hw
    obtain ⟨as,hp,pr⟩:=(hH.same s1).ex
    have hlen:as.length≤BIG:=by rw [Paired.len pr]; exact hH.len
    refine ⟨_,rfl,p,rfl,⟨_,SqL.of hp⟩,fun D hD=>lc_lst (SqL.of hp) (isH H1 (LB (Ql47.txt n))) (fun x y H'=>∃ a q1 q2,x=.ref a∧H1 a=some (.tup [.ref q1,.ref q2])∧y=.ref q2) (fun _ _ _ _ _ z=>z) (by rw [List.length_map]; exact Nat.le_trans hlen big_size) hD (fun v hv H' Q' s' k'=>?_) (fun v hv _ H' Q' s' _ k'=>?_) fun ys H' s' h' p'=>?_⟩
    · obtain ⟨a,ha,rfl⟩:=List.mem_map.mp hv
      obtain ⟨h,hh,q1,q2,e1,e2,e3,e4⟩:=Paired.mem pr ha
      refine ⟨_,rfl,a,_,0,_,rfl,rfl,SqT.of (s' _ _ e1),rfl,_,rfl,rEqB (s' _ _ e2.at_) (s' _ _ hw.at_) ⟨_,rfl,?_⟩⟩
      have e5:isH H1 (LB (Ql47.txt n)) (.ref a)=decide (h.1=Ql47.txt n):=by
        rw [isH_eq e1 e2.at_]
        by_cases c:h.1=Ql47.txt n
        · rw [decide_eq_true c,decide_eq_true (by rw [c])]
        · rw [decide_eq_false c,decide_eq_false fun z=>c (LB_inj z)]
      have:=k' _ (Same.refl _)
      rw [e5] at this
      exact this
    · obtain ⟨a,ha,rfl⟩:=List.mem_map.mp hv
      obtain ⟨h,hh,q1,q2,e1,e2,e3,e4⟩:=Paired.mem pr ha
      exact ⟨_,rfl,a,_,1,_,rfl,rfl,SqT.of (s' _ _ e1),rfl,k' _ _ (Same.refl _) ⟨a,q1,q2,rfl,e1,rfl⟩⟩
    · have pf:=pairF (g:=fun h:Bt×Bt=>h.1 == Ql47.txt n) (S:=fun y (h:Bt×Bt)=>∃ q,y=.ref q∧IsB H' q h.2∧F q) pr p' (fun a h ⟨q1,q2,e1,e2,e3,e4⟩=>by
        rw [isH_eq e1 e2.at_]
        by_cases c:h.1=Ql47.txt n
        · rw [c]; simp
        · rw [decide_eq_false fun z=>c (LB_inj z)]
          simp [c]) (fun a h y ⟨q1,q2,e1,e2,e3,e4⟩ ⟨a',r1,r2,z1,z2,z3⟩=>by
        cases z1
        rw [e1] at z2
        cases z2
        exact ⟨q2,z3,e3.same s',e4.1⟩)
      obtain ⟨qs,eq,pq⟩:=refs_of pf
      refine k D H' (s1.trans s') ⟨⟨qs,by rw [h',eq],?_⟩,?_⟩
      · unfold Ql47.get
        exact Paired.mapR pq fun _ _ z=>z
      · unfold Ql47.get
        rw [List.length_map]
        exact Nat.le_trans (List.length_filter_le _ _) hH.len
def sp_qcl (A:Adr):Sp:=fun vs H Q E=>∃ (F:Addr→Prop) (p:Addr) (hs:List (Bt×Bt)) (x:Str) (n:String),vs=[.ref p,.str x]∧NameIs x n∧HdrsIn F H p hs∧OrFail A H E (Ql47.get hs n).head? fun b=>∀ q H',Same H H'→IsB H' q b→F q→Q (.ref q) H'
theorem ok_qcl (T:Txt K mg A):FnOk P w K mg base (CXE P w) 3 A.f_qcl A.v_qcl ["headers","name"] (sp_qcl A):=by
  refine T.d_qcl.fn.okE sc_qcl (fun vs H Q E h=>?_) (fun cdv A' outer s H vs Q E hr h b=>?_)
  · obtain ⟨F,p,hs,x,n,rfl,_⟩:=h
    rfl
  · obtain ⟨F,p,hs,x,n,rfl,hn,hH,k⟩:=h
    refine ⟨_,(pss_cons
 (ps_set (i:=2) sc_qcl.nd rfl (by first | exact Or.inl rfl | exact Or.inr rfl) (pe_call (ok_qdg T) (hr.mono (by decide)) rfl T.d_qdg.at_ T.d_qdg.fn.kp T.d_qdg.bd .nil pass0 (pa_cons (pv 0) (pa_cons (pv 1) pa_nil))))
 (pss_cons
 (ps_if (pt_cmpR op_eq (pe_callB call_len_seq (by rfl) T.b_len bt_len (pa_cons (pv 2) pa_nil)) pe_int (nomark _))
 (pss_one
 (ps_raise b rfl rfl T.g_WrongMessage T.x_WrongMessage))
 pss_nil)
 (pss_one
 (ps_ret (pe_ix ix_list (pv 2) pe_int (fun _ _=>rfl)))))),?_⟩
    refine ⟨_,rfl,_,rfl,F,p,hs,x,n,rfl,hn,hH,fun q H1 s1 hv=>?_⟩
    obtain ⟨as,hq,pr⟩:=hv.ex
    generalize Ql47.get hs n=gv at pr k
    have hl:=Paired.len pr
    refine ⟨_,rfl,q,_,rfl,.inl (SqL.of hq),rfl,_,rfl,ite2 (fun h=>?_) fun h=>?_⟩
    · rw [List.length_map,hl] at h
      have h0:gv.length=0:=by
        have:=of_decide_eq_true h
        injection this with this
        omega
      exact k.no (by rw [List.eq_nil_of_length_eq_zero h0]; rfl) _ s1
    · rw [List.length_map] at h
      cases pr with
      | nil=>exact absurd (decide_eq_true rfl) h
      | cons r t =>
        refine ⟨_,rfl,q,_,0,_,rfl,rfl,SqL.of hq,at_of (j:=0) rfl rfl,?_⟩
        exact k _ H1 s1 r.1 r.2
def sp_qcv (A:Adr):Sp:=fun vs H Q E=>∃ (F:Addr→Prop) (p:Addr) (hs:List (Bt×Bt)) (x:Str) (n:String),vs=[.ref p,.str x]∧NameIs x n∧HdrsIn F H p hs∧OrFail A H E (Ql47.only1 (Ql47.get hs n)) fun b=>∀ q H',Same H H'→IsB H' q b→F q→Q (.ref q) H'
theorem ok_qcv (T:Txt K mg A):FnOk P w K mg base (CXE P w) 3 A.f_qcv A.v_qcv ["headers","name"] (sp_qcv A):=by
  refine T.d_qcv.fn.okE sc_qcv (fun vs H Q E h=>?_) (fun cdv A' outer s H vs Q E hr h b=>?_)
  · obtain ⟨F,p,hs,x,n,rfl,_⟩:=h
    rfl
  · obtain ⟨F,p,hs,x,n,rfl,hn,hH,k⟩:=h
    refine ⟨_,(pss_cons
 (ps_set (i:=2) sc_qcv.nd rfl (by first | exact Or.inl rfl | exact Or.inr rfl) (pe_call (ok_qdg T) (hr.mono (by decide)) rfl T.d_qdg.at_ T.d_qdg.fn.kp T.d_qdg.bd .nil pass0 (pa_cons (pv 0) (pa_cons (pv 1) pa_nil))))
 (pss_cons
 (ps_if (pt_cmpR op_ne (pe_callB call_len_seq (by rfl) T.b_len bt_len (pa_cons (pv 2) pa_nil)) pe_int (nomark _))
 (pss_one
 (ps_raise b rfl rfl T.g_WrongMessage T.x_WrongMessage))
 pss_nil)
 (pss_one
 (ps_ret (pe_ix ix_list (pv 2) pe_int (fun _ _=>rfl)))))),?_⟩
    refine ⟨_,rfl,_,rfl,F,p,hs,x,n,rfl,hn,hH,fun q H1 s1 hv=>?_⟩
    obtain ⟨as,hq,pr⟩:=hv.ex
    generalize Ql47.get hs n=gv at pr k
    refine ⟨_,rfl,q,_,rfl,.inl (SqL.of hq),rfl,_,rfl,?_⟩
    cases pr with
    | nil=>exact iteT (k.no rfl _ s1)
    | cons r t =>
      cases t with
      | nil=>exact iteF ⟨_,rfl,q,_,0,_,rfl,rfl,SqL.of hq,at_of (j:=0) rfl rfl,k _ H1 s1 r.1 r.2⟩
      | cons r' t' =>
        refine ite2 (fun _=>k.no rfl _ s1) fun h=>absurd ?_ h
        simp
        omega
def sp_qck (A:Adr):Sp:=fun vs H Q E=>∃ (F:Addr→Prop) (p a:Addr) (hs:List (Bt×Bt)) (body:Bt),vs=[.ref p,.ref a]∧HdrsIn F H p hs∧IsB H a body∧(if lenOf hs body=true then Ret H Q .non else Fail H E A.c_WrongMessage)
theorem name_cl:NameIs "Content-Length" "Content-Length":=⟨by decide +kernel,by decide +kernel,by decide +kernel⟩
theorem ok_qck (T:Txt K mg A):FnOk P w K mg base (CXE P w) 4 A.f_qck A.v_qck ["headers","body"] (sp_qck A):=by
  refine T.d_qck.fn.okE sc_qck (fun vs H Q E h=>?_) (fun cdv A' outer s H vs Q E hr h b=>?_)
  · obtain ⟨F,p,a,hs,body,rfl,_⟩:=h
    rfl
  · obtain ⟨F,p,a,hs,body,rfl,hH,hB,k⟩:=h
    refine ⟨_,(pss_cons
 (ps_set (i:=2) sc_qck.nd rfl (by first | exact Or.inl rfl | exact Or.inr rfl) (pe_call (ok_qcv T) (hr.mono (by decide)) rfl T.d_qcv.at_ T.d_qcv.fn.kp T.d_qcv.bd .nil b.self (pa_cons (pv 0) (pa_cons pe_str pa_nil))))
 (pss_one
 (ps_if (PW.pt (pw_or (pt_not (pt_val (pe_call (ok_qcp T) (hr.mono (by decide)) rfl T.d_qcp.at_ T.d_qcp.fn.kp T.d_qcp.bd .nil pass0 (pa_cons (pv 2) (pa_cons pe_int pa_nil))))) (pw_or1 (pt_cmpR op_ne (pe_call (ok_qct T) (hr.mono (by decide)) rfl T.d_qct.at_ T.d_qct.fn.kp T.d_qct.bd .nil pass0 (pa_cons (pv 2) pa_nil)) (pe_callB call_len_seq (by rfl) T.b_len bt_len (pa_cons (pv 1) pa_nil)) (nomark _)))))
 (pss_one
 (ps_raise b rfl rfl T.g_WrongMessage T.x_WrongMessage))
 pss_nil))),?_⟩
    refine ⟨_,rfl,F,p,hs,_,"Content-Length",rfl,name_cl,hH,?_⟩
    cases e:Ql47.only1 (Ql47.get hs "Content-Length") with
    | none =>
      rw [if_neg (by unfold lenOf; rw [e]; exact Bool.false_ne_true)] at k
      exact k
    | some n =>
      intro q H1 s1 hq _
      have el:lenOf hs body=clOk n body:=by unfold lenOf; rw [e]
      rw [el] at k
      refine ⟨_,rfl,q,n,5,rfl,hq,fun H2 s2=>⟨_,rfl,ite2 (fun h=>?_) fun h=>?_⟩⟩
      · have h':(decide (1≤n.length) && decide (n.length≤5) && n.all Ql47.digit)=false:=nb_true h
        rw [if_neg (by unfold clOk; rw [h',Bool.false_and]; exact Bool.false_ne_true)] at k
        exact k _ (s1.trans s2)
      · have h':(decide (1≤n.length) && decide (n.length≤5) && n.all Ql47.digit)=true:=nb_false h
        have hd:n.all Ql47.digit=true:=by rw [Bool.and_eq_true] at h'; exact h'.2
        refine ⟨_,rfl,q,n,rfl,hq.same s2,hd,_,rfl,a,_,rfl,.inl (hB.same (s1.trans s2)).sq,rfl,_,rfl,?_⟩
        rw [LB_length]
        refine ite2 (fun h2=>?_) fun h2=>?_
        · rw [if_neg] at k
          · exact k _ (s1.trans s2)
          · unfold clOk
            rw [h',Bool.true_and]
            intro z
            have z':Ql47.number n=body.length:=of_decide_eq_true z
            rw [z'] at h2
            simp at h2
        · rw [if_pos] at k
          · exact k _ (s1.trans s2)
          · unfold clOk
            rw [h',Bool.true_and]
            have z:V.int ((Ql47.number n:Nat):Int)=V.int ((body.length:Nat):Int):=by simpa using h2
            injection z with z
            exact decide_eq_true (by omega)
def sp_qdd (A:Adr):Sp:=fun vs H Q E=>∃ (a:Addr) (b:Bt),vs=[.ref a]∧IsB H a b∧OrFail A H E (statusOf b) fun n=>Ret H Q (.int ((n:Nat):Int))
theorem ok_qdd (T:Txt K mg A):FnOk P w K mg base (CXE P w) 3 A.f_qdd A.v_qdd ["line"] (sp_qdd A):=by
  refine T.d_qdd.fn.okE sc_qdd (fun vs H Q E h=>?_) (fun cdv A' outer s H vs Q E hr h b=>?_)
  · obtain ⟨a,b,rfl,_⟩:=h
    rfl
  · obtain ⟨a,bs,rfl,hB,k⟩:=h
    refine ⟨_,(pss_cons
 (ps_set (i:=1) sc_qdd.nd rfl (by first | exact Or.inl rfl | exact Or.inr rfl) (pe_slice sl_list (pv 0) (po_some pe_int) (po_some pe_int)))
 (pss_cons
 (ps_if (PW.pt (pw_or (pt_not (pt_val (pe_call (ok_qcp T) (hr.mono (by decide)) rfl T.d_qcp.at_ T.d_qcp.fn.kp T.d_qcp.bd .nil pass0 (pa_cons (pv 1) (pa_cons pe_int pa_nil))))) (pw_or1 (pt_cmpR (op_neD hr.units) (pe_slice sl_list (pv 0) (po_some pe_int) (po_some pe_int)) (pe_lst (pa_cons (pgi T.g_BLANK) pa_nil)) (nomark _)))))
 (pss_one
 (ps_raise b rfl rfl T.g_WrongMessage T.x_WrongMessage))
 pss_nil)
 (pss_cons
 (ps_set (i:=2) sc_qdd.nd rfl (by first | exact Or.inl rfl | exact Or.inr rfl) (pe_call (ok_qct T) (hr.mono (by decide)) rfl T.d_qct.at_ T.d_qct.fn.kp T.d_qct.bd .nil pass0 (pa_cons (pv 1) pa_nil)))
 (pss_cons
 (ps_if (PW.pt (pw_or (pt_cmpR op_lt (pv 2) pe_int (nomark _)) (pw_or1 (pt_cmpR op_gt (pv 2) pe_int (nomark _)))))
 (pss_one
 (ps_raise b rfl rfl T.g_WrongMessage T.x_WrongMessage))
 pss_nil)
 (pss_one
 (ps_ret (pv 2))))))),?_⟩
    refine ⟨_,rfl,_,rfl,_,rfl,a,_,rfl,hB.sq,fun p hp=>?_⟩
    rw [show cutV (LB bs) (some (8:Int)) (some (11:Int))=LB ((bs.take 11).drop 8) from cutB_mid bs 8 11]
    generalize ed:(bs.take 11).drop 8=d
    have hd:IsB (upd H p (.lst (LB d))) p d:=⟨upd_same,by rw [← ed,List.length_drop,List.length_take]; have:=hB.len; omega⟩
    have s1:=Same.put0 (o:=.lst (LB d)) hp
    have est:statusOf bs=if (decide (1≤d.length) && decide (d.length≤3) && d.all Ql47.digit)=true∧(bs.take 12).drop 11=[32]∧100≤Ql47.number d∧Ql47.number d≤699 then some (Ql47.number d) else none:=by
      unfold statusOf
      rw [ed]
    refine ⟨_,rfl,p,d,3,rfl,hd,fun H2 s2=>⟨_,rfl,ite2 (fun h=>?_) fun h=>?_⟩⟩
    · refine k.no ?_ _ (s1.trans s2)
      rw [est,if_neg]
      rintro ⟨z,_⟩
      rw [z] at h
      exact absurd h (by decide)
    · have h1:(decide (1≤d.length) && decide (d.length≤3) && d.all Ql47.digit)=true:=nb_false h
      have hdig:d.all Ql47.digit=true:=by rw [Bool.and_eq_true] at h1; exact h1.2
      have sH2:=s1.trans s2
      refine ⟨_,rfl,_,rfl,_,rfl,a,_,rfl,(hB.same sH2).sq,fun p2 hp2=>?_⟩
      rw [show cutV (LB bs) (some (11:Int)) (some (12:Int))=LB ((bs.take 12).drop 11) from cutB_mid bs 11 12]
      have s3:=Same.put0 (o:=.lst (LB ((bs.take 12).drop 11))) hp2
      refine ⟨(by show 1≤sizeLine; decide),fun q hq=>?_⟩
      have s4:=Same.put0 (o:=.lst (LB [32])) hq
      have sH4:=(sH2.trans s3).trans s4
      refine rNeB (d:=[32]) (s4 _ _ upd_same) upd_same ⟨_,rfl,ite2 (fun h2=>?_) fun h2=>?_⟩
      · refine k.no ?_ _ sH4
        rw [est,if_neg]
        rintro ⟨_,z,_⟩
        rw [z] at h2
        exact absurd h2 (by decide)
      · have h3:(bs.take 12).drop 11=[32]:=by simpa using h2
        refine ⟨_,rfl,p,d,rfl,(((hd.same s2).same s3).same s4),hdig,_,rfl,_,_,rfl,rfl,_,rfl,ite2 (fun h4=>?_) fun h4=>?_⟩
        · refine k.no ?_ _ sH4
          have:=of_decide_eq_true h4
          rw [est,if_neg]
          rintro ⟨_,_,z,_⟩
          omega
        · refine ⟨_,rfl,_,_,rfl,rfl,_,rfl,ite2 (fun h5=>?_) fun h5=>?_⟩
          · refine k.no ?_ _ sH4
            have:=of_decide_eq_true h5
            rw [est,if_neg]
            rintro ⟨_,_,_,z⟩
            omega
          · refine ⟨_,rfl,k.ok ?_ _ sH4⟩
            have z1:¬ ((Ql47.number d:Nat):Int) < 100:=fun z=>h4 (decide_eq_true z)
            have z2:¬ (699:Int) < ((Ql47.number d:Nat):Int):=fun z=>h5 (decide_eq_true z)
            rw [est,if_pos ⟨h1,h3,by omega,by omega⟩]
end
end L2

namespace L2
open PySem PySem.Spec PyProof.Rows
theorem isB_part {H:Hp} {p:Addr} {b c:Bt} (hb:b.length≤BIG) (h:H p=some (.lst (LB c))) (hl:c.length≤b.length):IsB H p c:=⟨h,Nat.le_trans hl hb⟩
section
variable {P:Program} {w:World} {K:PySem.W.Frag} {mg:Str→Option Value} {base:Heap} {A:Adr}
def sp_qcx (A:Adr):Sp:=fun vs H Q E=>∃ (a:Addr) (b:Bt),vs=[.ref a]∧IsB H a b∧OrFail A H E (hdrP b) fun h=>∀ p H',Same H H'→H p=none→HdrIs (fun q=>H q=none) H' p h→Q (.ref p) H'
theorem ok_qcx (T:Txt K mg A):FnOk P w K mg base (CXE P w) 4 A.f_qcx A.v_qcx ["line"] (sp_qcx A):=by
  refine T.d_qcx.fn.okE sc_qcx (fun vs H Q E h=>?_) (fun cdv A' outer s H vs Q E hr h b=>?_)
  · obtain ⟨a,b,rfl,_⟩:=h
    rfl
  · obtain ⟨a,bs,rfl,hB,k⟩:=h
    refine ⟨_,(pss_cons
 (ps_set (i:=1) sc_qcx.nd rfl (by first | exact Or.inl rfl | exact Or.inr rfl) (pe_ix ix_list (pe_call (ok_qdf T) (hr.mono (by decide)) rfl T.d_qdf.at_ T.d_qdf.fn.kp T.d_qdf.bd .nil pass0 (pa_cons (pv 0) (pa_cons (pgi T.g_COLON) pa_nil))) pe_int (fun _ _=>rfl)))
 (pss_cons
 (ps_set (i:=2) sc_qcx.nd rfl (by first | exact Or.inl rfl | exact Or.inr rfl) (pe_slice sl_list (pv 0) (po_some (pe_op op_add (pe_callB call_len_seq (by rfl) T.b_len bt_len (pa_cons (pv 1) pa_nil)) pe_int)) po_none))
 (pss_cons
 (ps_if (PW.pt (pw_or (pt_not (pt_val (pe_call (ok_qcr T) (hr.mono (by decide)) rfl T.d_qcr.at_ T.d_qcr.fn.kp T.d_qcr.bd .nil pass0 (pa_cons (pv 1) pa_nil)))) (pw_or (pt_not (pt_val (pe_call (ok_qcj T) (hr.mono (by decide)) rfl T.d_qcj.at_ T.d_qcj.fn.kp T.d_qcj.bd .nil pass0 (pa_cons (pe_slice sl_list (pv 0) (po_some (pe_callB call_len_seq (by rfl) T.b_len bt_len (pa_cons (pv 1) pa_nil))) po_none) (pa_cons (pe_lst (pa_cons (pgi T.g_COLON) (pa_cons (pgi T.g_BLANK) pa_nil))) pa_nil))))) (pw_or1 (pt_cmpR op_eq (pe_callB call_len_seq (by rfl) T.b_len bt_len (pa_cons (pv 2) pa_nil)) pe_int (nomark _))))))
 (pss_one
 (ps_raise b rfl rfl T.g_WrongMessage T.x_WrongMessage))
 pss_nil)
 (pss_one
 (ps_ret (pe_tup (pa_cons (pv 1) (pa_cons (pv 2) pa_nil)))))))),?_⟩
    refine ⟨_,rfl,a,bs,58,rfl,hB,fun sp H1 s1 hsp=>?_⟩
    obtain ⟨as,hs1,pr⟩:=hsp.ex
    have hne:=split_ne (c:=58) bs
    have eh:hdrP bs=(if Ql47.isWord ((splitB 58 bs).headD [])=true∧(bs.drop ((splitB 58 bs).headD []).length).take 2=[58,32]∧bs.drop (((splitB 58 bs).headD []).length+2)≠[] then some ((splitB 58 bs).headD [],bs.drop (((splitB 58 bs).headD []).length+2)) else none):=rfl
    generalize splitB 58 bs=rows at pr hne eh
    cases pr with
    | nil=>exact absurd rfl hne
    | @cons na nm as' rows' r t =>
      refine ⟨sp,_,0,_,rfl,rfl,SqL.of hs1,at_of (j:=0) rfl rfl,?_⟩
      rw [List.headD_cons] at eh
      have hN:=r.2
      refine ⟨_,rfl,_,rfl,na,_,rfl,.inl hN.sq,_,_,rfl,rfl,_,rfl,a,_,rfl,(hB.same s1).sq,fun p hp=>?_⟩
      rw [LB_length,show ((nm.length:Int)+2)=((nm.length+2:Nat):Int) from rfl,cutV_from,LB_drop]
      have s2:=Same.put0 (o:=.lst (LB (bs.drop (nm.length+2)))) hp
      have hV:IsB (upd H1 p (.lst (LB (bs.drop (nm.length+2))))) p (bs.drop (nm.length+2)):=isB_part hB.len upd_same (by rw [List.length_drop]; omega)
      have sH2:=s1.trans s2
      have hN2:=hN.same s2
      have hp0:H p=none:=s1.free hp
      generalize upd H1 p (.lst (LB (bs.drop (nm.length+2))))=H2 at s2 hV sH2 hN2 ⊢
      refine ⟨_,rfl,na,nm,rfl,hN2,fun H3 s3=>⟨_,rfl,ite2 (fun h=>?_) fun h=>?_⟩⟩
      · refine k.no ?_ _ (sH2.trans s3)
        rw [eh,if_neg]
        rintro ⟨z,_⟩
        rw [nb_true h] at z
        cases z
      · have h1:=nb_false h
        have sH3:=sH2.trans s3
        refine ⟨_,rfl,_,rfl,na,_,rfl,.inl (hN2.same s3).sq,_,rfl,a,_,rfl,(hB.same sH3).sq,fun p4 hp4=>?_⟩
        rw [LB_length,cutV_from,LB_drop]
        have s4:=Same.put0 (o:=.lst (LB (bs.drop nm.length))) hp4
        have hL:IsB (upd H3 p4 (.lst (LB (bs.drop nm.length)))) p4 (bs.drop nm.length):=isB_part hB.len upd_same (by rw [List.length_drop]; omega)
        have sH4:=sH3.trans s4
        have hV4:=(hV.same s3).same s4
        have hN4:=(hN2.same s3).same s4
        generalize upd H3 p4 (.lst (LB (bs.drop nm.length)))=H4 at s4 hL sH4 hV4 hN4 ⊢
        refine ⟨(by show 2≤sizeLine; decide),fun p5 hp5=>?_⟩
        have s5:=Same.put0 (o:=.lst (LB [58,32])) hp5
        refine ⟨p4,p5,bs.drop nm.length,[58,32],rfl,hL.same s5,⟨upd_same,by decide⟩,fun H6 s6=>⟨_,rfl,ite2 (fun h2=>?_) fun h2=>?_⟩⟩
        · refine k.no ?_ _ ((sH4.trans s5).trans s6)
          rw [eh,if_neg]
          rintro ⟨_,z,_⟩
          have:=of_decide_eq_false (nb_true h2)
          exact this z
        · have h3:(bs.drop nm.length).take 2=[58,32]:=of_decide_eq_true (nb_false h2)
          have sH6:=(sH4.trans s5).trans s6
          have hV6:=(hV4.same s5).same s6
          have hN6:=(hN4.same s5).same s6
          refine ⟨_,rfl,p,_,rfl,.inl hV6.sq,rfl,_,rfl,?_⟩
          rw [LB_length]
          refine ite2 (fun h4=>?_) fun h4=>?_
          · refine k.no ?_ _ sH6
            rw [eh,if_neg]
            rintro ⟨_,_,z⟩
            have z2:=of_decide_eq_true h4
            injection z2 with z2
            exact z (List.eq_nil_of_length_eq_zero (by omega))
          · refine ⟨_,rfl,_,rfl,(by show 2≤sizeLine; decide),fun q hq=>?_⟩
            have s7:=Same.put0 (o:=.tup [.ref na,.ref p]) hq
            refine k.ok (x:=(nm,bs.drop (nm.length+2))) ?_ q _ (sH6.trans s7) (sH6.free hq) ⟨na,p,upd_same,hN6.same s7,hV6.same s7,hp0,r.1⟩
            rw [eh,if_pos ⟨h1,h3,fun z=>h4 (decide_eq_true (by rw [z]; rfl))⟩]
def sp_qdc (A:Adr):Sp:=fun vs H Q E=>∃ (a:Addr) (b:Bt),vs=[.ref a]∧IsB H a b∧OrFail A H E (seqP b) fun x=>∀ p q H',Same H H'→H' p=some (.tup [.int ((x.1:Nat):Int),.ref q])→H q=none→IsB H' q x.2→Q (.ref p) H'
theorem ok_qdc (T:Txt K mg A):FnOk P w K mg base (CXE P w) 4 A.f_qdc A.v_qdc ["value"] (sp_qdc A):=by
  refine T.d_qdc.fn.okE sc_qdc (fun vs H Q E h=>?_) (fun cdv A' outer s H vs Q E hr h b=>?_)
  · obtain ⟨a,b,rfl,_⟩:=h
    rfl
  · obtain ⟨a,bs,rfl,hB,k⟩:=h
    refine ⟨_,(pss_cons
 (ps_set (i:=1) sc_qdc.nd rfl (by first | exact Or.inl rfl | exact Or.inr rfl) (pe_call (ok_qdf T) (hr.mono (by decide)) rfl T.d_qdf.at_ T.d_qdf.fn.kp T.d_qdf.bd .nil pass0 (pa_cons (pv 0) (pa_cons (pgi T.g_BLANK) pa_nil))))
 (pss_cons
 (ps_if (PW.pt (pw_or (pt_cmpR op_ne (pe_callB call_len_seq (by rfl) T.b_len bt_len (pa_cons (pv 1) pa_nil)) pe_int (nomark _)) (pw_or (pt_not (pt_val (pe_call (ok_qcp T) (hr.mono (by decide)) rfl T.d_qcp.at_ T.d_qcp.fn.kp T.d_qcp.bd .nil pass0 (pa_cons (pe_ix ix_list (pv 1) pe_int (fun _ _=>rfl)) (pa_cons pe_int pa_nil))))) (pw_or1 (pt_not (pt_val (pe_call (ok_qcr T) (hr.mono (by decide)) rfl T.d_qcr.at_ T.d_qcr.fn.kp T.d_qcr.bd .nil pass0 (pa_cons (pe_ix ix_list (pv 1) pe_int (fun _ _=>rfl)) pa_nil))))))))
 (pss_one
 (ps_raise b rfl rfl T.g_WrongMessage T.x_WrongMessage))
 pss_nil)
 (pss_cons
 (ps_set (i:=2) sc_qdc.nd rfl (by first | exact Or.inl rfl | exact Or.inr rfl) (pe_call (ok_qct T) (hr.mono (by decide)) rfl T.d_qct.at_ T.d_qct.fn.kp T.d_qct.bd .nil pass0 (pa_cons (pe_ix ix_list (pv 1) pe_int (fun _ _=>rfl)) pa_nil)))
 (pss_cons
 (ps_if (pt_cmpR op_ge (pv 2) (pgi T.g_SEQUENCE_LIMIT) (nomark _))
 (pss_one
 (ps_raise b rfl rfl T.g_WrongMessage T.x_WrongMessage))
 pss_nil)
 (pss_one
 (ps_ret (pe_tup (pa_cons (pv 2) (pa_cons (pe_ix ix_list (pv 1) pe_int (fun _ _=>rfl)) pa_nil))))))))),?_⟩
    refine ⟨_,rfl,a,bs,32,rfl,hB,fun sp H1 s1 hsp=>?_⟩
    obtain ⟨as,hs1,pr⟩:=hsp.ex
    have es:seqP bs=(match splitB 32 bs with
      | [n,m]=>if (decide (1≤n.length) && decide (n.length≤10) && n.all Ql47.digit)=true∧Ql47.isWord m=true∧Ql47.number n < 2147483648 then some (Ql47.number n,m) else none
      | _=>none):=rfl
    generalize splitB 32 bs=rows at pr es
    refine ⟨_,rfl,sp,_,rfl,.inl (SqL.of hs1),rfl,_,rfl,?_⟩
    cases pr with
    | nil=>exact iteT (k.no es _ s1)
    | cons r t =>
      cases t with
      | nil=>exact iteT (k.no es _ s1)
      | cons r2 t2 =>
        cases t2 with
        | cons r3 t3 =>
          refine ite2 (fun _=>k.no es _ s1) fun h=>absurd ?_ h
          simp
          omega
        | nil =>
          rename_i a1 n a2 m
          refine iteF ⟨_,rfl,sp,_,0,_,rfl,rfl,SqL.of hs1,at_of (j:=0) rfl rfl,a1,n,10,rfl,r.2,fun H2 s2=>⟨_,rfl,ite2 (fun h=>?_) fun h=>?_⟩⟩
          · refine k.no ?_ _ (s1.trans s2)
            rw [es]
            show (if _ then _ else _)=none
            rw [if_neg]
            rintro ⟨z,_⟩
            rw [nb_true h] at z
            cases z
          · have h1:=nb_false h
            have hdig:n.all Ql47.digit=true:=by rw [Bool.and_eq_true] at h1; exact h1.2
            refine ⟨_,rfl,sp,_,1,_,rfl,rfl,SqL.of (s2 _ _ hs1),at_of (j:=1) rfl rfl,a2,m,rfl,r2.2.same s2,fun H3 s3=>⟨_,rfl,ite2 (fun h2=>?_) fun h2=>?_⟩⟩
            · refine k.no ?_ _ ((s1.trans s2).trans s3)
              rw [es]
              show (if _ then _ else _)=none
              rw [if_neg]
              rintro ⟨_,z,_⟩
              rw [nb_true h2] at z
              cases z
            · have h3:=nb_false h2
              have sH:=(s1.trans s2).trans s3
              have st:=s2.trans s3
              refine ⟨_,rfl,sp,_,0,_,rfl,rfl,SqL.of (st _ _ hs1),at_of (j:=0) rfl rfl,a1,n,rfl,r.2.same st,hdig,_,rfl,_,_,rfl,rfl,_,rfl,ite2 (fun h4=>?_) fun h4=>?_⟩
              · refine k.no ?_ _ sH
                have:=of_decide_eq_true h4
                rw [es]
                show (if _ then _ else _)=none
                rw [if_neg]
                rintro ⟨_,_,z⟩
                omega
              · refine ⟨_,rfl,_,rfl,sp,_,1,_,rfl,rfl,SqL.of (st _ _ hs1),at_of (j:=1) rfl rfl,(by show 2≤sizeLine; decide),fun q hq=>?_⟩
                have s5:=Same.put0 (o:=.tup [.int ((Ql47.number n:Nat):Int),.ref a2]) hq
                refine k.ok (x:=(Ql47.number n,m)) ?_ q a2 _ (sH.trans s5) upd_same r2.1 ((r2.2.same st).same s5)
                have h5:¬ (2147483648:Int)≤((Ql47.number n:Nat):Int):=fun z=>h4 (decide_eq_true z)
                rw [es]
                show (if _ then _ else _)=_
                rw [if_pos ⟨h1,h3,by omega⟩]
theorem strB_branch:strB "branch="=Ql47.txt "branch=":=by decide +kernel
theorem strB_cookie:strB "z9hG4bK"=Ql47.COOKIE:=by decide +kernel
def sp_qcw (A:Adr):Sp:=fun vs H Q E=>∃ (a:Addr) (ps:List Bt),vs=[.ref a]∧ListsIn H a ps∧OrFail A H E (branchP ps) (RetB H Q)
def isP (H:Hp) (wnt:Bt):V→Bool
  | .ref a=>match H a with
    | some (.lst l)=>decide (l.take wnt.length=LB wnt)
    | _=>false
  | _=>false
theorem isP_eq {H:Hp} {wnt b:Bt} {a:Addr} (h:IsB H a b):isP H wnt (.ref a)=decide (b.take wnt.length=wnt):=by
  simp only [isP,h.at_]
  rw [LB_take]
  by_cases c:b.take wnt.length=wnt
  · rw [c]; simp
  · rw [decide_eq_false c,decide_eq_false fun z=>c (LB_inj z)]
theorem ok_qcw (T:Txt K mg A):FnOk P w K mg base (CXE P w) 4 A.f_qcw A.v_qcw ["parts"] (sp_qcw A):=by
  refine T.d_qcw.fn.okE sc_qcw (fun vs H Q E h=>?_) (fun cdv A' outer s H vs Q E hr h b=>?_)
  · obtain ⟨a,b,rfl,_⟩:=h
    rfl
  · obtain ⟨a,ps,rfl,hL,k⟩:=h
    refine ⟨_,(pss_cons
 (ps_set (i:=1) sc_qcw.nd rfl (by first | exact Or.inl rfl | exact Or.inr rfl) (pe_call (ok_qcu T) (hr.mono (by decide)) rfl T.d_qcu.at_ T.d_qcu.fn.kp T.d_qcu.bd .nil pass0 (pa_cons pe_str pa_nil)))
 (pss_cons
 (ps_set (i:=2) sc_qcw.nd rfl (by first | exact Or.inl rfl | exact Or.inr rfl) (pe_call (ok_qcu T) (hr.mono (by decide)) rfl T.d_qcu.at_ T.d_qcu.fn.kp T.d_qcu.bd .nil pass0 (pa_cons pe_str pa_nil)))
 (pss_cons
 (ps_setLc (i:=3) (own:=[("part",4)]) rfl sc_qcw.nd rfl rfl (sw_true rfl rfl rfl (by decide +kernel)) (pi_list (pv 0)) (blkOk_by (by kernel_rfl)) (fun _ _ _ _ _=>pg_name (i:=4) sc_qcw.nd rfl (Or.inl rfl)) (fun _ _ _ _ _=>(pts_one (pt_val (pe_call (ok_qcj T) (hr.mono (by decide)) rfl T.d_qcj.at_ T.d_qcj.fn.kp T.d_qcj.bd .nil pass0 (pa_cons (pv 4) (pa_cons (pv 1) pa_nil)))))) (fun _ _ _ _ _=>(pe_slice (sl_listK (K':=K) rfl) (pv 4) (po_some (pe_callB (lenK (K':=K) rfl) (by rfl) T.b_len bt_len (pa_cons (pv 1) pa_nil))) po_none)))
 (pss_cons
 (ps_if (PW.pt (pw_or (pt_cmpR op_ne (pe_callB call_len_seq (by rfl) T.b_len bt_len (pa_cons (pv 3) pa_nil)) pe_int (nomark _)) (pw_or1 (pt_not (pt_val (pe_call (ok_qcr T) (hr.mono (by decide)) rfl T.d_qcr.at_ T.d_qcr.fn.kp T.d_qcr.bd .nil pass0 (pa_cons (pe_ix ix_list (pv 3) pe_int (fun _ _=>rfl)) pa_nil)))))))
 (pss_one
 (ps_raise b rfl rfl T.g_WrongMessage T.x_WrongMessage))
 pss_nil)
 (pss_cons
 (ps_if (PW.pt (pw_or (pt_not (pt_val (pe_call (ok_qcj T) (hr.mono (by decide)) rfl T.d_qcj.at_ T.d_qcj.fn.kp T.d_qcj.bd .nil pass0 (pa_cons (pe_ix ix_list (pv 3) pe_int (fun _ _=>rfl)) (pa_cons (pv 2) pa_nil))))) (pw_or1 (pt_cmpR op_eq (pe_callB call_len_seq (by rfl) T.b_len bt_len (pa_cons (pe_ix ix_list (pv 3) pe_int (fun _ _=>rfl)) pa_nil)) (pe_callB call_len_seq (by rfl) T.b_len bt_len (pa_cons (pv 2) pa_nil)) (nomark _)))))
 (pss_one
 (ps_raise b rfl rfl T.g_WrongMessage T.x_WrongMessage))
 pss_nil)
 (pss_one
 (ps_ret (pe_ix ix_list (pv 3) pe_int (fun _ _=>rfl))))))))),?_⟩
    refine ⟨_,rfl,by decide +kernel,by decide +kernel,fun mk H1 s1 hm0 hm=>⟨_,rfl,by decide +kernel,by decide +kernel,fun ck H2 s2 hc0 hc=>?_⟩⟩
    rw [strB_branch] at hm
    rw [strB_cookie] at hc
    have hm2:=hm.same s2
    have sH2:=s1.trans s2
    obtain ⟨as,ha,pr⟩:=(hL.same sH2).ex
    have hlen:as.length≤BIG:=by rw [Paired.len pr]; exact hL.len
    have m7:(Ql47.txt "branch=").length=7:=rfl
    refine ⟨_,rfl,a,rfl,⟨_,SqL.of ha⟩,fun D hD=>lc_lst (SqL.of ha) (isP H2 (Ql47.txt "branch=")) (fun x y H'=>∃ a2 b2 q,x=.ref a2∧IsB H2 a2 b2∧y=.ref q∧q≠D∧H2 q=none∧IsB H' q (b2.drop 7)) (fun x y Ha Hb st ⟨a2,b2,q,e1,e2,e3,e4,e5,e6⟩=>⟨a2,b2,q,e1,e2,e3,e4,e5,st _ _ e6.at_ e4,e6.len⟩)
      (by rw [List.length_map]; exact Nat.le_trans hlen big_size) hD (fun v hv H' Q' s' k'=>?_) (fun v hv _ H' Q' s' nD k'=>?_) fun ys H' s' h' p'=>?_⟩
    · obtain ⟨a2,ha2,rfl⟩:=List.mem_map.mp hv
      obtain ⟨b2,hb2,i2⟩:=Paired.mem pr ha2
      refine ⟨_,rfl,_,rfl,a2,mk,b2,_,rfl,i2.same s',hm2.same s',fun H3 s3=>⟨_,rfl,?_⟩⟩
      have:=k' _ s3
      rw [isP_eq i2] at this
      exact this
    · obtain ⟨a2,ha2,rfl⟩:=List.mem_map.mp hv
      obtain ⟨b2,hb2,i2⟩:=Paired.mem pr ha2
      refine ⟨_,rfl,_,rfl,mk,_,rfl,.inl (hm2.same s').sq,_,rfl,a2,_,rfl,(i2.same s').sq,fun q hq=>?_⟩
      rw [LB_length,m7,cutV_from,LB_drop]
      exact k' _ _ (Same.put0 hq) ⟨a2,b2,q,rfl,i2,rfl,fun z=>nD (by rw [← z]; exact hq),s'.free hq,isB_part i2.len upd_same (by rw [List.length_drop]; omega)⟩
    · have pf:=pairF (g:=fun x:Bt=>decide (x.take 7=Ql47.txt "branch=")) (S:=fun y (x:Bt)=>∃ q,y=.ref q∧H2 q=none∧IsB H' q (x.drop 7)) pr p' (fun a h i=>isP_eq i) (fun a h y i ⟨a',b',q,z1,z2,z3,z4,z5,z6⟩=>by
        cases z1
        have:b'=h:=LB_inj (by have:=z2.at_.symm.trans i.at_; injection this with this; injection this)
        subst this
        exact ⟨q,z3,z5,z6⟩)
      obtain ⟨qs,eq,pq⟩:=refs_of pf
      have hD':H' D=some (.lst (qs.map V.ref)):=by rw [h',eq]
      have sH':=sH2.trans s'
      have eb:branchP ps=match (ps.filter fun x=>decide (x.take 7=Ql47.txt "branch=")).map (·.drop 7) with
        | [br]=>if Ql47.isWord br=true∧br.take 7=Ql47.COOKIE∧¬ br.length=7 then some br else none
        | _=>none:=rfl
      generalize (ps.filter fun x=>decide (x.take 7=Ql47.txt "branch="))=fl at pq eb
      refine ⟨_,rfl,D,_,rfl,.inl (SqL.of hD'),rfl,_,rfl,?_⟩
      cases pq with
      | nil=>exact iteT (k.no eb _ sH')
      | cons r t =>
        cases t with
        | cons r2 t2 =>
          refine ite2 (fun _=>k.no eb _ sH') fun h=>absurd ?_ h
          simp
          omega
        | nil =>
          rename_i q x
          have eb:branchP ps=if Ql47.isWord (x.drop 7)=true∧(x.drop 7).take 7=Ql47.COOKIE∧¬ (x.drop 7).length=7 then some (x.drop 7) else none:=eb
          generalize x.drop 7=br at r eb
          obtain ⟨hq0,hq⟩:=r
          have ix:∀ {Hx:Hp},Same H' Hx→SqL K Hx D [V.ref q]:=fun st=>SqL.of (st _ _ hD')
          refine iteF ⟨_,rfl,D,_,0,_,rfl,rfl,ix (Same.refl _),rfl,q,br,rfl,hq,fun H4 s4=>⟨_,rfl,ite2 (fun h=>?_) fun h=>?_⟩⟩
          · refine k.no ?_ _ (sH'.trans s4)
            rw [eb,if_neg]
            rintro ⟨z,_⟩
            rw [nb_true h] at z
            cases z
          · have h1:=nb_false h
            refine ⟨_,rfl,D,_,0,_,rfl,rfl,ix s4,rfl,_,rfl,q,ck,br,_,rfl,hq.same s4,(hc.same s').same s4,fun H5 s5=>⟨_,rfl,ite2 (fun h2=>?_) fun h2=>?_⟩⟩
            · refine k.no ?_ _ ((sH'.trans s4).trans s5)
              rw [eb,if_neg]
              rintro ⟨_,z,_⟩
              exact (of_decide_eq_false (nb_true h2)) z
            · have h3:br.take 7=Ql47.COOKIE:=of_decide_eq_true (nb_false h2)
              have s45:=s4.trans s5
              have sH5:=sH'.trans s45
              refine ⟨_,rfl,D,_,0,_,rfl,rfl,ix s45,rfl,q,_,rfl,.inl (hq.same s45).sq,_,rfl,ck,_,rfl,.inl ((hc.same s').same s45).sq,rfl,_,rfl,?_⟩
              rw [LB_length,LB_length,show Ql47.COOKIE.length=7 from rfl]
              refine ite2 (fun h4=>?_) fun h4=>?_
              · refine k.no ?_ _ sH5
                rw [eb,if_neg]
                rintro ⟨_,_,z⟩
                have z2:=of_decide_eq_true h4
                injection z2 with z2
                omega
              · refine ⟨_,rfl,D,_,0,_,rfl,rfl,ix s45,rfl,k.ok ?_ q _ sH5 (sH2.free hq0) (hq.same s45)⟩
                rw [eb,if_pos ⟨h1,h3,fun z=>h4 (decide_eq_true (by rw [z]))⟩]
theorem strB_udp:strB "SIP/2.0/UDP "=Ql47.txt "SIP/2.0/UDP ":=by decide +kernel
def sp_qde (A:Adr):Sp:=fun vs H Q E=>∃ (a:Addr) (b:Bt),vs=[.ref a]∧IsB H a b∧OrFail A H E (viaP b) fun x=>∀ p q1 q2 H',Same H H'→H' p=some (.tup [.ref q1,.ref q2])→H q1=none→H q2=none→IsB H' q1 x.1→IsB H' q2 x.2→Q (.ref p) H'
theorem ok_qde (T:Txt K mg A):FnOk P w K mg base (CXE P w) 5 A.f_qde A.v_qde ["value"] (sp_qde A):=by
  refine T.d_qde.fn.okE sc_qde (fun vs H Q E h=>?_) (fun cdv A' outer s H vs Q E hr h b=>?_)
  · obtain ⟨a,b,rfl,_⟩:=h
    rfl
  · obtain ⟨a,bs,rfl,hB,k⟩:=h
    refine ⟨_,(pss_cons
 (ps_set (i:=1) sc_qde.nd rfl (by first | exact Or.inl rfl | exact Or.inr rfl) (pe_call (ok_qcu T) (hr.mono (by decide)) rfl T.d_qcu.at_ T.d_qcu.fn.kp T.d_qcu.bd .nil pass0 (pa_cons pe_str pa_nil)))
 (pss_cons
 (ps_if (pt_not (pt_val (pe_call (ok_qcj T) (hr.mono (by decide)) rfl T.d_qcj.at_ T.d_qcj.fn.kp T.d_qcj.bd .nil pass0 (pa_cons (pv 0) (pa_cons (pv 1) pa_nil)))))
 (pss_one
 (ps_raise b rfl rfl T.g_WrongMessage T.x_WrongMessage))
 pss_nil)
 (pss_cons
 (ps_set (i:=2) sc_qde.nd rfl (by first | exact Or.inl rfl | exact Or.inr rfl) (pe_call (ok_qdf T) (hr.mono (by decide)) rfl T.d_qdf.at_ T.d_qdf.fn.kp T.d_qdf.bd .nil pass0 (pa_cons (pe_slice sl_list (pv 0) (po_some (pe_callB call_len_seq (by rfl) T.b_len bt_len (pa_cons (pv 1) pa_nil))) po_none) (pa_cons (pgi T.g_SEMICOLON) pa_nil))))
 (pss_cons
 (ps_if (pt_not (pt_val (pe_call (ok_qcq T) (hr.mono (by decide)) rfl T.d_qcq.at_ T.d_qcq.fn.kp T.d_qcq.bd .nil pass0 (pa_cons (pe_ix ix_list (pv 2) pe_int (fun _ _=>rfl)) pa_nil))))
 (pss_one
 (ps_raise b rfl rfl T.g_WrongMessage T.x_WrongMessage))
 pss_nil)
 (pss_one
 (ps_ret (pe_tup (pa_cons (pe_ix ix_list (pv 2) pe_int (fun _ _=>rfl)) (pa_cons (pe_call (ok_qcw T) (hr.mono (by decide)) rfl T.d_qcw.at_ T.d_qcw.fn.kp T.d_qcw.bd .nil b.self (pa_cons (pe_slice sl_list (pv 2) (po_some pe_int) po_none) pa_nil)) pa_nil))))))))),?_⟩
    refine ⟨_,rfl,by decide +kernel,by decide +kernel,fun st H1 s1 hs0 hs=>?_⟩
    rw [strB_udp] at hs
    have l12:(Ql47.txt "SIP/2.0/UDP ").length=12:=rfl
    have ev:viaP bs=if bs.take 12=Ql47.txt "SIP/2.0/UDP " then (match splitB 59 (bs.drop 12) with
      | by_::ps=>if (!by_.isEmpty && by_.all Ql47.seen)=true then (branchP ps).map fun br=>(by_,br) else none
      | []=>none) else none:=rfl
    refine ⟨_,rfl,_,rfl,a,st,bs,_,rfl,hB.same s1,hs,fun H2 s2=>⟨_,rfl,ite2 (fun h=>?_) fun h=>?_⟩⟩
    · refine k.no ?_ _ (s1.trans s2)
      rw [ev,if_neg]
      intro z
      exact (of_decide_eq_false (nb_true h)) z
    · have h1:bs.take 12=Ql47.txt "SIP/2.0/UDP ":=of_decide_eq_true (nb_false h)
      have sH2:=s1.trans s2
      rw [if_pos h1] at ev
      refine ⟨_,rfl,_,rfl,st,_,rfl,.inl (hs.same s2).sq,_,rfl,a,_,rfl,(hB.same sH2).sq,fun p hp=>?_⟩
      rw [LB_length,l12,cutV_from,LB_drop]
      have s3:=Same.put0 (o:=.lst (LB (bs.drop 12))) hp
      have sH3:=sH2.trans s3
      refine ⟨p,bs.drop 12,59,rfl,isB_part hB.len upd_same (by rw [List.length_drop]; omega),fun sp H4 s4 hsp=>?_⟩
      have sH4:=sH3.trans s4
      obtain ⟨as,hs4,pr⟩:=hsp.ex
      have hlen:(splitB 59 (bs.drop 12)).length≤BIG+1:=by
        have:=split_len (c:=59) (bs.drop 12)
        rw [List.length_drop] at this
        have:=hB.len
        omega
      have hne:=split_ne (c:=59) (bs.drop 12)
      generalize splitB 59 (bs.drop 12)=rows at pr ev hlen hne
      cases pr with
      | nil=>exact absurd rfl hne
      | cons r t =>
        rename_i a1 by_ as' ps
        have ev:viaP bs=if (!by_.isEmpty && by_.all Ql47.seen)=true then (branchP ps).map fun br=>(by_,br) else none:=ev
        refine ⟨_,rfl,sp,_,0,_,rfl,rfl,SqL.of hs4,at_of (j:=0) rfl rfl,a1,by_,rfl,r.2,fun H5 s5=>⟨_,rfl,ite2 (fun h2=>?_) fun h2=>?_⟩⟩
        · refine k.no ?_ _ (sH4.trans s5)
          rw [ev,if_neg]
          intro z
          rw [nb_true h2] at z
          cases z
        · have h3:=nb_false h2
          rw [if_pos h3] at ev
          have sH5:=sH4.trans s5
          refine ⟨_,rfl,sp,_,0,_,rfl,rfl,SqL.of (s5 _ _ hs4),at_of (j:=0) rfl rfl,_,rfl,_,rfl,sp,_,rfl,SqL.of (s5 _ _ hs4),fun p6 hp6=>?_⟩
          rw [show cutV ((a1::as').map V.ref) (some (1:Int)) none=as'.map V.ref from cutV_from _ 1]
          have s6:=Same.put0 (o:=.lst (as'.map V.ref)) hp6
          refine ⟨p6,ps,rfl,⟨⟨as',upd_same,Paired.mapP t fun _ _ z=>(z.2.same s5).same s6⟩,by rw [List.length_cons] at hlen; omega⟩,?_⟩
          have sH6:=sH5.trans s6
          cases e:branchP ps with
          | none=>exact fun H7 s7=>k.no (by rw [ev,e]; rfl) _ (sH6.trans s7)
          | some br =>
            refine fun q H7 s7 hq0 hq=>⟨(by show 2≤sizeLine; decide),fun p8 hp8=>?_⟩
            have s8:=Same.put0 (o:=.tup [.ref a1,.ref q]) hp8
            exact k.ok (x:=(by_,br)) (by rw [ev,e]; rfl) p8 a1 q _ ((sH6.trans s7).trans s8) upd_same (sH3.free r.1) (sH6.free hq0) ((((r.2.same s5).same s6).same s7).same s8) (hq.same s8)
end
end L2

namespace L2
open PySem PySem.Spec PyProof.Rows
def SameX (p:Addr) (H H':Hp):Prop:=∀ b o,H b=some o→b≠p→H' b=some o
theorem SameX.refl {p:Addr} (H:Hp):SameX p H H:=fun _ _ h _=>h
theorem SameX.trans {p:Addr} {H H1 H2:Hp} (a:SameX p H H1) (b:SameX p H1 H2):SameX p H H2:=fun c o h n=>b c o (a c o h n) n
theorem SameX.of {p:Addr} {H H1:Hp} (a:Same H H1):SameX p H H1:=fun c o h _=>a c o h
theorem SameX.upd {p:Addr} {H H1:Hp} {o:HO} (a:SameX p H H1):SameX p H (L2.upd H1 p o):=fun c o h n=>by rw [upd_ne n]; exact a c o h n
theorem SameX.free {p x:Addr} {H H1:Hp} (a:SameX p H H1) (h1:H1 p≠none) (h:H1 x=none):H x=none:=by
  cases e:H x with
  | none=>rfl
  | some o =>
    by_cases z:x=p
    · rw [z] at h; exact absurd h h1
    · rw [a x o e z] at h; cases h
theorem IsB.sameX {p:Addr} {H H1:Hp} {a:Addr} {b:Bt} {C dx:Addr} {fs:List (Str×V)} (h:IsB H a b) (s:SameX p H H1) (hp:H p=some (.ins C dx fs)):IsB H1 a b:=⟨s _ _ h.at_ (ne_of h.at_ hp (by intro z; cases z)),h.len⟩
theorem HdrsIn.sameX {F:Addr→Prop} {p:Addr} {H H1:Hp} {a:Addr} {hs:List (Bt×Bt)} {C dx:Addr} {fs:List (Str×V)} (h:HdrsIn F H a hs) (s:SameX p H H1) (hp:H p=some (.ins C dx fs)):HdrsIn F H1 a hs:=by
  obtain ⟨as,e,pr⟩:=h.ex
  refine ⟨⟨as,s _ _ e (ne_of e hp (by intro z; cases z)),Paired.mapP pr fun x y ⟨q1,q2,e1,e2,e3,e4⟩=>⟨q1,q2,s _ _ e1 (ne_of e1 hp (by intro z; cases z)),e2.sameX s hp,e3.sameX s hp,e4⟩⟩,h.len⟩
theorem pf_len {f:Str} {v:V} {fs:List (Str×V)} {n:Nat} (h:fs.length≤n):(putF f v fs).length≤n+1:=Nat.le_trans (length_putF f v fs) (Nat.succ_le_succ h)
theorem nil_len:([]:List (Str×V)).length≤0:=Nat.le_refl _
theorem lt1000 {fs:List (Str×V)} {n:Nat} (h:fs.length≤n) (hn:n < 1000):fs.length < 1000:=Nat.lt_of_le_of_lt h hn
def BF (F:Addr→Prop) (H:Hp) (a:Addr) (b:Bt):Prop:=IsB H a b∧F a
theorem BF.same {F:Addr→Prop} {H H':Hp} {a:Addr} {b:Bt} (h:BF F H a b) (s:Same H H'):BF F H' a b:=⟨h.1.same s,h.2⟩
theorem BF.sameX {F:Addr→Prop} {p:Addr} {H H1:Hp} {a:Addr} {b:Bt} {C dx:Addr} {fs:List (Str×V)} (h:BF F H a b) (s:SameX p H H1) (hp:H p=some (.ins C dx fs)):BF F H1 a b:=⟨h.1.sameX s hp,h.2⟩
def msgF (o u:Addr) (st:Nat) (vi sn tg cn bw br:Addr) (sq:Nat) (me:Addr):List (Str×V) :=
  [("octets",.ref o),("uri",.ref u),("status",.int ((st:Nat):Int)),("via",.ref vi),("sender",.ref sn),("target",.ref tg),("call_name",.ref cn),("by_whom",.ref bw),("branch",.ref br),("sequence_number",.int ((sq:Nat):Int)),("method",.ref me)]
structure MsgObj (A:Adr) (F:Addr→Prop) (H:Hp) (p o:Addr) (b uri:Bt) (st:Nat) (P:Parts):Prop where
  ex:∃ dx u vi sn tg cn bw br me,H p=some (.ins A.c_Message dx (msgF o u st vi sn tg cn bw br P.seq me))∧BF F H u uri∧BF F H vi P.via∧BF F H sn P.from_∧BF F H tg P.to∧BF F H cn P.id∧BF F H bw P.by_∧BF F H br P.br∧BF F H me P.meth
  oct:IsB H o b
theorem MsgObj.same {A:Adr} {F:Addr→Prop} {H H':Hp} {p o:Addr} {b uri:Bt} {st:Nat} {P:Parts} (h:MsgObj A F H p o b uri st P) (s:Same H H'):MsgObj A F H' p o b uri st P:=by
  obtain ⟨dx,u,vi,sn,tg,cn,bw,br,me,e,a1,a2,a3,a4,a5,a6,a7,a8⟩:=h.ex
  exact ⟨⟨dx,u,vi,sn,tg,cn,bw,br,me,s _ _ e,a1.same s,a2.same s,a3.same s,a4.same s,a5.same s,a6.same s,a7.same s,a8.same s⟩,h.oct.same s⟩
theorem stepX {self C dx:Addr} {fs:List (Str×V)} {H Hk:Hp} {n:Nat} (f:Str) (v:V) (xk:SameX self H Hk) (hk:Hk self=some (.ins C dx fs)) (lk:fs.length≤n) :
    ∃ Hn,L2.upd Hk self (.ins C dx (putF f v fs))=Hn∧SameX self H Hn∧SameX self Hk Hn∧Hn self=some (.ins C dx (putF f v fs))∧(putF f v fs).length≤n+1 :=
  ⟨_,rfl,xk.upd,(SameX.refl Hk).upd,upd_same,pf_len lk⟩
theorem name_via:NameIs "Via" "Via":=⟨by decide +kernel,by decide +kernel,by decide +kernel⟩
theorem name_from:NameIs "From" "From":=⟨by decide +kernel,by decide +kernel,by decide +kernel⟩
theorem name_to:NameIs "To" "To":=⟨by decide +kernel,by decide +kernel,by decide +kernel⟩
theorem name_id:NameIs "Call-ID" "Call-ID":=⟨by decide +kernel,by decide +kernel,by decide +kernel⟩
theorem name_seq:NameIs "CSeq" "CSeq":=⟨by decide +kernel,by decide +kernel,by decide +kernel⟩
section
variable {P:Program} {w:World} {K:PySem.W.Frag} {mg:Str→Option Value} {base:Heap} {A:Adr}
def sp_qbj (A:Adr):Sp:=fun vs H Q E=>∃ (self dx o u p:Addr) (b uri:Bt) (st:Nat) (F:Addr→Prop) (hs:List (Bt×Bt)),vs=[.ref self,.ref o,.ref u,.int ((st:Nat):Int),.ref p]∧H self=some (.ins A.c_Message dx [])∧IsB H o b∧BF F H u uri∧HdrsIn F H p hs∧(∀ x,H x=none→F x) ∧
  match initOf hs with
  | some pt=>∀ H',SameX self H H'→MsgObj A F H' self o b uri st pt→Q .non H'
  | none=>∀ H',SameX self H H'→E (.ref A.c_WrongMessage) none H'
theorem ok_qbj (T:Txt K mg A):FnOk P w K mg base (CXE P w) 6 A.f_qbj A.v_qbj ["self","octets","uri","status","headers"] (sp_qbj A):=by
  refine T.d_qbj.fn.okE sc_qbj (fun vs H Q E h=>?_) (fun cdv A' outer s H vs Q E hr h b=>?_)
  · obtain ⟨self,dx,o,u,p,b,uri,st,F,hs,rfl,_⟩:=h
    rfl
  · obtain ⟨self,dx,o,u,p,bo,uri,st,F,hs,rfl,hself,hO,hU,hH,hF,k⟩:=h
    refine ⟨_,(pss_cons
 (ps_fld (pv 0) (pv 1) rfl)
 (pss_cons
 (ps_fld (pv 0) (pv 2) rfl)
 (pss_cons
 (ps_fld (pv 0) (pv 3) rfl)
 (pss_cons
 (ps_fld (pv 0) (pe_call (ok_qcl T) (hr.mono (by decide)) rfl T.d_qcl.at_ T.d_qcl.fn.kp T.d_qcl.bd .nil b.self (pa_cons (pv 4) (pa_cons pe_str pa_nil))) rfl)
 (pss_cons
 (ps_fld (pv 0) (pe_call (ok_qcv T) (hr.mono (by decide)) rfl T.d_qcv.at_ T.d_qcv.fn.kp T.d_qcv.bd .nil b.self (pa_cons (pv 4) (pa_cons pe_str pa_nil))) rfl)
 (pss_cons
 (ps_fld (pv 0) (pe_call (ok_qcv T) (hr.mono (by decide)) rfl T.d_qcv.at_ T.d_qcv.fn.kp T.d_qcv.bd .nil b.self (pa_cons (pv 4) (pa_cons pe_str pa_nil))) rfl)
 (pss_cons
 (ps_fld (pv 0) (pe_call (ok_qcv T) (hr.mono (by decide)) rfl T.d_qcv.at_ T.d_qcv.fn.kp T.d_qcv.bd .nil b.self (pa_cons (pv 4) (pa_cons pe_str pa_nil))) rfl)
 (pss_cons
 (ps_set (i:=5) sc_qbj.nd rfl (by first | exact Or.inl rfl | exact Or.inr rfl) (pe_call (ok_qde T) (hr.mono (by decide)) rfl T.d_qde.at_ T.d_qde.fn.kp T.d_qde.bd .nil b.self (pa_cons (pe_fld (pv 0) rfl) pa_nil)))
 (pss_cons
 (ps_fld (pv 0) (pe_ix ix_tup (pv 5) pe_int (fun _ _=>rfl)) rfl)
 (pss_cons
 (ps_fld (pv 0) (pe_ix ix_tup (pv 5) pe_int (fun _ _=>rfl)) rfl)
 (pss_cons
 (ps_set (i:=6) sc_qbj.nd rfl (by first | exact Or.inl rfl | exact Or.inr rfl) (pe_call (ok_qdc T) (hr.mono (by decide)) rfl T.d_qdc.at_ T.d_qdc.fn.kp T.d_qdc.bd .nil b.self (pa_cons (pe_call (ok_qcv T) (hr.mono (by decide)) rfl T.d_qcv.at_ T.d_qcv.fn.kp T.d_qcv.bd .nil b.self (pa_cons (pv 4) (pa_cons pe_str pa_nil))) pa_nil)))
 (pss_cons
 (ps_fld (pv 0) (pe_ix ix_tup (pv 6) pe_int (fun _ _=>rfl)) rfl)
 (pss_one
 (ps_fld (pv 0) (pe_ix ix_tup (pv 6) pe_int (fun _ _=>rfl)) rfl)))))))))))))),?_⟩
    have c:=T.cl_Message
    refine ⟨_,rfl,_,rfl,self,_,dx,_,rfl,hself,c,T.n_Message_octets,lt1000 nil_len (by decide),?_⟩
    refine ⟨_,rfl,_,rfl,self,_,dx,_,rfl,upd_same,c,T.n_Message_uri,lt1000 (pf_len nil_len) (by decide),?_⟩
    refine ⟨_,rfl,_,rfl,self,_,dx,_,rfl,upd_same,c,T.n_Message_status,lt1000 (pf_len (pf_len nil_len)) (by decide),?_⟩
    rw [upd_upd,upd_upd]
    have x0:SameX self H (upd H self (.ins A.c_Message dx (putF "status" (.int ((st:Nat):Int)) (putF "uri" (.ref u) (putF "octets" (.ref o) []))))):=(SameX.refl H).upd
    have h0:upd H self (.ins A.c_Message dx (putF "status" (.int ((st:Nat):Int)) (putF "uri" (.ref u) (putF "octets" (.ref o) [])))) self=some (.ins A.c_Message dx (putF "status" (.int ((st:Nat):Int)) (putF "uri" (.ref u) (putF "octets" (.ref o) [])))):=upd_same
    have l0:(putF "status" (.int ((st:Nat):Int)) (putF "uri" (.ref u) (putF "octets" (.ref o) []))).length≤3:=pf_len (pf_len (pf_len nil_len))
    generalize upd H self (.ins A.c_Message dx (putF "status" (.int ((st:Nat):Int)) (putF "uri" (.ref u) (putF "octets" (.ref o) []))))=H0 at x0 h0 ⊢
    generalize ef0:putF "status" (.int ((st:Nat):Int)) (putF "uri" (.ref u) (putF "octets" (.ref o) []))=f0 at h0 l0
    have kf:initOf hs=none→∀ H',SameX self H H'→E (.ref A.c_WrongMessage) none H':=fun e=>by rw [e] at k; exact k
    have ks:∀ pt,initOf hs=some pt→∀ H',SameX self H H'→MsgObj A F H' self o bo uri st pt→Q .non H':=fun pt e=>by rw [e] at k; exact k
    clear k
    have ei:initOf hs=(Ql47.get hs "Via").head?.bind fun via=>(Ql47.only1 (Ql47.get hs "From")).bind fun fr=>(Ql47.only1 (Ql47.get hs "To")).bind fun to=>(Ql47.only1 (Ql47.get hs "Call-ID")).bind fun id=>(Ql47.viaOf via).bind fun v =>
      (Ql47.only1 (Ql47.get hs "CSeq")).bind fun c=>(Ql47.seqOf c).bind fun s=>some ⟨via,v.1,v.2,fr,to,id,s.1,s.2⟩:=rfl
    refine ⟨_,rfl,F,p,hs,_,"Via",rfl,name_via,hH.sameX x0 hself,?_⟩
    cases e1:(Ql47.get hs "Via").head? with
    | none=>exact fun H' s'=>kf (by rw [ei,e1]; first | rfl | simp) _ (x0.trans (SameX.of s'))
    | some bvi =>
    rw [e1,Option.bind_some] at ei
    intro vi G1 t1 i1 F1
    obtain ⟨H1,eH1,x1,y1,h1,l1⟩:=stepX "via" (.ref vi) (x0.trans (SameX.of t1)) (t1 _ _ h0) l0
    refine ⟨_,rfl,self,_,dx,_,rfl,t1 _ _ h0,c,T.n_Message_via,lt1000 l0 (by decide),?_⟩
    rw [eH1]
    have z1:SameX self H0 H1:=(SameX.of t1).trans y1
    have B1:BF F H1 vi bvi:=BF.sameX ⟨i1,F1⟩ y1 (t1 _ _ h0)
    have bvi_1:=B1
    generalize ef1:putF "via" (.ref vi) f0=f1 at h1 l1
    refine ⟨_,rfl,F,p,hs,_,"From",rfl,name_from,hH.sameX x1 hself,?_⟩
    cases e2:Ql47.only1 (Ql47.get hs "From") with
    | none=>exact fun H' s'=>kf (by rw [ei,e2]; first | rfl | simp) _ (x1.trans (SameX.of s'))
    | some bsn =>
    rw [e2,Option.bind_some] at ei
    intro sn G2 t2 i2 F2
    obtain ⟨H2,eH2,x2,y2,h2,l2⟩:=stepX "sender" (.ref sn) (x1.trans (SameX.of t2)) (t2 _ _ h1) l1
    refine ⟨_,rfl,self,_,dx,_,rfl,t2 _ _ h1,c,T.n_Message_sender,lt1000 l1 (by decide),?_⟩
    rw [eH2]
    have z2:SameX self H1 H2:=(SameX.of t2).trans y2
    have B2:BF F H2 sn bsn:=BF.sameX ⟨i2,F2⟩ y2 (t2 _ _ h1)
    have bvi_2:=bvi_1.sameX z2 h1
    have bsn_2:=B2
    generalize ef2:putF "sender" (.ref sn) f1=f2 at h2 l2
    refine ⟨_,rfl,F,p,hs,_,"To",rfl,name_to,hH.sameX x2 hself,?_⟩
    cases e3:Ql47.only1 (Ql47.get hs "To") with
    | none=>exact fun H' s'=>kf (by rw [ei,e3]; first | rfl | simp) _ (x2.trans (SameX.of s'))
    | some btg =>
    rw [e3,Option.bind_some] at ei
    intro tg G3 t3 i3 F3
    obtain ⟨H3,eH3,x3,y3,h3,l3⟩:=stepX "target" (.ref tg) (x2.trans (SameX.of t3)) (t3 _ _ h2) l2
    refine ⟨_,rfl,self,_,dx,_,rfl,t3 _ _ h2,c,T.n_Message_target,lt1000 l2 (by decide),?_⟩
    rw [eH3]
    have z3:SameX self H2 H3:=(SameX.of t3).trans y3
    have B3:BF F H3 tg btg:=BF.sameX ⟨i3,F3⟩ y3 (t3 _ _ h2)
    have bvi_3:=bvi_2.sameX z3 h2
    have bsn_3:=bsn_2.sameX z3 h2
    have btg_3:=B3
    generalize ef3:putF "target" (.ref tg) f2=f3 at h3 l3
    refine ⟨_,rfl,F,p,hs,_,"Call-ID",rfl,name_id,hH.sameX x3 hself,?_⟩
    cases e4:Ql47.only1 (Ql47.get hs "Call-ID") with
    | none=>exact fun H' s'=>kf (by rw [ei,e4]; first | rfl | simp) _ (x3.trans (SameX.of s'))
    | some bcn =>
    rw [e4,Option.bind_some] at ei
    intro cn G4 t4 i4 F4
    obtain ⟨H4,eH4,x4,y4,h4,l4⟩:=stepX "call_name" (.ref cn) (x3.trans (SameX.of t4)) (t4 _ _ h3) l3
    refine ⟨_,rfl,self,_,dx,_,rfl,t4 _ _ h3,c,T.n_Message_call_name,lt1000 l3 (by decide),?_⟩
    rw [eH4]
    have z4:SameX self H3 H4:=(SameX.of t4).trans y4
    have B4:BF F H4 cn bcn:=BF.sameX ⟨i4,F4⟩ y4 (t4 _ _ h3)
    have bvi_4:=bvi_3.sameX z4 h3
    have bsn_4:=bsn_3.sameX z4 h3
    have btg_4:=btg_3.sameX z4 h3
    have bcn_4:=B4
    generalize ef4:putF "call_name" (.ref cn) f3=f4 at h4 l4
    have lk4:f4.lookup ("via":Str)=some (V.ref vi):=by
      rw [← ef4,← ef3,← ef2,← ef1,← ef0]
      kernel_rfl
    refine ⟨_,rfl,self,_,dx,_,.ref vi,rfl,h4,c,T.n_Message_via,lk4,vi,bvi,rfl,bvi_4.1,?_⟩
    rw [← viaP_eq] at ei
    cases e5:viaP bvi with
    | none=>exact fun H' s'=>kf (by rw [ei,e5]; first | rfl | simp) _ (x4.trans (SameX.of s'))
    | some vp =>
    rw [e5,Option.bind_some] at ei
    intro pv_ bw br G5 t5 hpv hbw0 hbr0 ibw ibr
    have xg5:SameX self H G5:=x4.trans (SameX.of t5)
    have hg5:=t5 _ _ h4
    have Fbw:F bw:=hF _ (x4.free (by rw [h4]; simp) hbw0)
    have Fbr:F br:=hF _ (x4.free (by rw [h4]; simp) hbr0)
    have bsame:=fun (a:Addr) (x:Bt) (z:BF F H4 a x)=>z.same t5
    have bvi_5:=bvi_4.same t5
    have bsn_5:=bsn_4.same t5
    have btg_5:=btg_4.same t5
    have bcn_5:=bcn_4.same t5
    have npv:pv_≠self:=ne_of hpv hg5 (by intro z; cases z)
    obtain ⟨H6,eH6,x6,y6,h6,l6⟩:=stepX "by_whom" (.ref bw) xg5 hg5 l4
    refine ⟨_,rfl,pv_,_,0,_,rfl,rfl,SqT.of hpv,rfl,_,rfl,self,_,dx,_,rfl,hg5,c,T.n_Message_by_whom,lt1000 l4 (by decide),?_⟩
    rw [eH6]
    generalize ef6:putF "by_whom" (.ref bw) f4=f6 at h6 l6
    obtain ⟨H7,eH7,x7,y7,h7,l7⟩:=stepX "branch" (.ref br) x6 h6 l6
    refine ⟨_,rfl,pv_,_,1,_,rfl,rfl,SqT.of (y6 _ _ hpv npv),rfl,_,rfl,self,_,dx,_,rfl,h6,c,T.n_Message_branch,lt1000 l6 (by decide),?_⟩
    rw [eH7]
    generalize ef7:putF "branch" (.ref br) f6=f7 at h7 l7
    have z7:SameX self G5 H7:=y6.trans y7
    have bbw_7:BF F H7 bw vp.1:=BF.sameX ⟨ibw,Fbw⟩ z7 hg5
    have bbr_7:BF F H7 br vp.2:=BF.sameX ⟨ibr,Fbr⟩ z7 hg5
    have bvi_7:=bvi_5.sameX z7 hg5
    have bsn_7:=bsn_5.sameX z7 hg5
    have btg_7:=btg_5.sameX z7 hg5
    have bcn_7:=bcn_5.sameX z7 hg5
    refine ⟨_,rfl,F,p,hs,_,"CSeq",rfl,name_seq,hH.sameX x7 hself,?_⟩
    cases e8:Ql47.only1 (Ql47.get hs "CSeq") with
    | none=>exact fun H' s'=>kf (by rw [ei,e8]; first | rfl | simp) _ (x7.trans (SameX.of s'))
    | some cq =>
    rw [e8,Option.bind_some] at ei
    intro cqa G8 t8 icq _
    refine ⟨cqa,cq,rfl,icq,?_⟩
    rw [← seqP_eq] at ei
    cases e9:seqP cq with
    | none=>exact fun H' s'=>kf (by rw [ei,e9]; rfl) _ ((x7.trans (SameX.of t8)).trans (SameX.of s'))
    | some sq =>
    rw [e9,Option.bind_some] at ei
    intro sp_ me G9 t9 hsp hme0 ime
    have t89:=t8.trans t9
    have xg9:SameX self H G9:=x7.trans (SameX.of t89)
    have hg8:=t8 _ _ h7
    have hg9:=t89 _ _ h7
    have Fme:F me:=hF _ ((x7.trans (SameX.of t8)).free (by rw [hg8]; simp) hme0)
    have nsp:sp_≠self:=ne_of hsp hg9 (by intro z; cases z)
    obtain ⟨H10,eH10,x10,y10,h10,l10⟩:=stepX "sequence_number" (.int ((sq.1:Nat):Int)) xg9 hg9 l7
    refine ⟨_,rfl,sp_,_,0,_,rfl,rfl,SqT.of hsp,rfl,_,rfl,self,_,dx,_,rfl,hg9,c,T.n_Message_sequence_number,lt1000 l7 (by decide),?_⟩
    rw [eH10]
    generalize ef10:putF "sequence_number" (.int ((sq.1:Nat):Int)) f7=f10 at h10 l10
    obtain ⟨H11,eH11,x11,y11,h11,l11⟩:=stepX "method" (.ref me) x10 h10 l10
    refine ⟨_,rfl,sp_,_,1,_,rfl,rfl,SqT.of (y10 _ _ hsp nsp),rfl,_,rfl,self,_,dx,_,rfl,h10,c,T.n_Message_method,lt1000 l10 (by decide),?_⟩
    rw [eH11]
    have z11:SameX self G9 H11:=y10.trans y11
    refine ks _ ei H11 x11 ⟨⟨dx,u,vi,sn,tg,cn,bw,br,me,?_,hU.sameX x11 hself,?_,?_,?_,?_,?_,?_,?_⟩,hO.sameX x11 hself⟩
    · rw [h11,← ef10,← ef7,← ef6,← ef4,← ef3,← ef2,← ef1,← ef0]
      kernel_rfl
    · exact (bvi_7.same t89).sameX z11 hg9
    · exact (bsn_7.same t89).sameX z11 hg9
    · exact (btg_7.same t89).sameX z11 hg9
    · exact (bcn_7.same t89).sameX z11 hg9
    · exact (bbw_7.same t89).sameX z11 hg9
    · exact (bbr_7.same t89).sameX z11 hg9
    · exact BF.sameX ⟨ime,Fme⟩ z11 hg9
end
end L2

namespace L2
open PySem PySem.Spec PyProof.Rows
section
variable {o u:Addr} {st:Nat} {vi sn tg cn bw br:Addr} {sq:Nat} {me:Addr}
theorem mf_octets:(msgF o u st vi sn tg cn bw br sq me).lookup ("octets":Str)=some (V.ref o):=by kernel_rfl
theorem mf_uri:(msgF o u st vi sn tg cn bw br sq me).lookup ("uri":Str)=some (V.ref u):=by kernel_rfl
theorem mf_status:(msgF o u st vi sn tg cn bw br sq me).lookup ("status":Str)=some (V.int ((st:Nat):Int)):=by kernel_rfl
theorem mf_via:(msgF o u st vi sn tg cn bw br sq me).lookup ("via":Str)=some (V.ref vi):=by kernel_rfl
theorem mf_sender:(msgF o u st vi sn tg cn bw br sq me).lookup ("sender":Str)=some (V.ref sn):=by kernel_rfl
theorem mf_target:(msgF o u st vi sn tg cn bw br sq me).lookup ("target":Str)=some (V.ref tg):=by kernel_rfl
theorem mf_call_name:(msgF o u st vi sn tg cn bw br sq me).lookup ("call_name":Str)=some (V.ref cn):=by kernel_rfl
theorem mf_by_whom:(msgF o u st vi sn tg cn bw br sq me).lookup ("by_whom":Str)=some (V.ref bw):=by kernel_rfl
theorem mf_branch:(msgF o u st vi sn tg cn bw br sq me).lookup ("branch":Str)=some (V.ref br):=by kernel_rfl
theorem mf_sequence_number:(msgF o u st vi sn tg cn bw br sq me).lookup ("sequence_number":Str)=some (V.int ((sq:Nat):Int)):=by kernel_rfl
theorem mf_method:(msgF o u st vi sn tg cn bw br sq me).lookup ("method":Str)=some (V.ref me):=by kernel_rfl
theorem mf_has_method:(msgF o u st vi sn tg cn bw br sq me).lookup ("has_method":Str)=none:=by kernel_rfl
theorem mf_is_request:(msgF o u st vi sn tg cn bw br sq me).lookup ("is_request":Str)=none:=by kernel_rfl
end
def uriOf (m:Ql47.Msg):Bt:=match m.first with
  | .request _ u=>u
  | .reply _=>[]
def statN (m:Ql47.Msg):Nat:=match m.first with
  | .request _ _=>0
  | .reply s=>s
def partsOf (m:Ql47.Msg):Parts:=⟨m.via,m.sentBy,m.branch,m.from_,m.to,m.callId,m.seq,m.method⟩
def MsgAt (A:Adr) (F:Addr→Prop) (H:Hp) (p o:Addr) (m:Ql47.Msg) (b:Bt):Prop:=MsgObj A F H p o b (uriOf m) (statN m) (partsOf m)
theorem MsgAt.same {A:Adr} {F:Addr→Prop} {H H':Hp} {p o:Addr} {m:Ql47.Msg} {b:Bt} (h:MsgAt A F H p o m b) (s:Same H H'):MsgAt A F H' p o m b:=MsgObj.same h s
section
variable {P:Program} {w:World} {K:PySem.W.Frag} {mg:Str→Option Value} {base:Heap} {A:Adr}
def sp_qbk (A:Adr):Sp:=fun vs H Q _=>∃ (F:Addr→Prop) (p o:Addr) (m:Ql47.Msg) (b:Bt),vs=[.ref p]∧MsgAt A F H p o m b∧Q (.bl (decide (statN m=0))) H
theorem ok_qbk (T:Txt K mg A):FnOk P w K mg base CX0 1 A.f_qbk A.v_qbk ["self"] (sp_qbk A):=by
  refine T.d_qbk.fn.ok sc_qbk (fun vs H Q E h=>?_) (fun cdv A' outer s H vs Q E hr h=>?_)
  · obtain ⟨F,p,o,m,b,rfl,_⟩:=h
    rfl
  · obtain ⟨F,p,o,m,b,rfl,hM,k⟩:=h
    obtain ⟨dx,u,vi,sn,tg,cn,bw,br,me,e,_⟩:=hM.ex
    refine ⟨_,(pss_one
 (ps_ret (pe_cmpR op_eq (pe_fld (pv 0) rfl) pe_int (nomark _)))),?_⟩
    refine ⟨_,rfl,p,_,dx,_,_,rfl,e,T.cl_Message,T.n_Message_status,mf_status,rfl,Qb k ?_⟩
    by_cases c:statN m=0
    · rw [c]; rfl
    · rw [decide_eq_false c,decide_eq_false]
      intro z
      injection z with z
      exact c (by omega)
def sp_qbi (A:Adr):Sp:=fun vs H Q _=>∃ (F:Addr→Prop) (p o:Addr) (m:Ql47.Msg) (b:Bt) (x:Str) (n:String),vs=[.ref p,.str x]∧NameIs x n∧MsgAt A F H p o m b∧Ret H Q (.bl (decide (m.method=Ql47.txt n)))
theorem ok_qbi (T:Txt K mg A):FnOk P w K mg base CX0 2 A.f_qbi A.v_qbi ["self","text"] (sp_qbi A):=by
  refine T.d_qbi.fn.ok sc_qbi (fun vs H Q E h=>?_) (fun cdv A' outer s H vs Q E hr h=>?_)
  · obtain ⟨F,p,o,m,b,x,n,rfl,_⟩:=h
    rfl
  · obtain ⟨F,p,o,m,b,x,n,rfl,hn,hM,k⟩:=h
    obtain ⟨dx,u,vi,sn,tg,cn,bw,br,me,e,a1,a2,a3,a4,a5,a6,a7,a8⟩:=hM.ex
    refine ⟨_,(pss_one
 (ps_ret (pe_cmpR (op_eqD hr.units) (pe_fld (pv 0) rfl) (pe_call (ok_qcu T) (hr.mono (by decide)) rfl T.d_qcu.at_ T.d_qcu.fn.kp T.d_qcu.bd .nil pass0 (pa_cons (pv 1) pa_nil)) (nomark _)))),?_⟩
    refine ⟨_,rfl,p,_,dx,_,_,rfl,e,T.cl_Message,T.n_Message_method,mf_method,_,rfl,x,rfl,hn.le,hn.lo,fun q H1 s1 _ hq=>?_⟩
    rw [hn.eq] at hq
    exact rEqB (s1 _ _ a8.1.at_) hq.at_ (k _ s1)
def reqMsg (l0:Bt) (hs:List (Bt×Bt)):Option (Bt×Parts):=match requestOf l0,initOf hs with
  | some mu,some pt=>if pt.meth=mu.1 then some (mu.2,pt) else none
  | _,_=>none
theorem strB_ver:strB "SIP/2.0"=Ql47.VERSION:=by decide +kernel
theorem Same.mk2 {H H1:Hp} {x dx C:Addr} (nx:H x=Option.none) (nd:H dx=Option.none) (s:SameX x (upd (upd H dx (.own x)) x (.ins C dx [])) H1):Same H H1:=Same.made nx nd s
theorem same_new {H:Hp} {x dx C:Addr} (nx:H x=Option.none) (nd:H dx=Option.none):Same H (upd (upd H dx (.own x)) x (.ins C dx [])):=fun b o e=>by
  rw [upd_ne (ne_of_none e nx),upd_ne (ne_of_none e nd)]
  exact e
theorem new_free {H:Hp} {x dx C y:Addr} (h:upd (upd H dx (.own x)) x (.ins C dx []) y=Option.none):H y=Option.none:=by
  unfold upd at h
  split at h
  · cases h
  · split at h
    · cases h
    · exact h
def sp_qdb (A:Adr):Sp:=fun vs H Q E=>∃ (o l p:Addr) (b l0:Bt) (F:Addr→Prop) (hs:List (Bt×Bt)),vs=[.ref o,.ref l,.ref p]∧IsB H o b∧IsB H l l0∧HdrsIn F H p hs∧(∀ x,H x=none→F x)∧OrFail A H E (reqMsg l0 hs) fun x=>∀ q H',Same H H'→H q=none→MsgObj A F H' q o b x.1 0 x.2→Q (.ref q) H'
theorem ok_qdb (T:Txt K mg A):FnOk P w K mg base (CXE P w) 8 A.f_qdb A.v_qdb ["octets","line","headers"] (sp_qdb A):=by
  refine T.d_qdb.fn.okE sc_qdb (fun vs H Q E h=>?_) (fun cdv A' outer s H vs Q E hr h b=>?_)
  · obtain ⟨o,l,p,b,l0,F,hs,rfl,_⟩:=h
    rfl
  · obtain ⟨o,l,p,bo,l0,F,hs,rfl,hO,hL,hH,hF,k⟩:=h
    refine ⟨_,(pss_cons
 (ps_set (i:=3) sc_qdb.nd rfl (by first | exact Or.inl rfl | exact Or.inr rfl) (pe_call (ok_qdf T) (hr.mono (by decide)) rfl T.d_qdf.at_ T.d_qdf.fn.kp T.d_qdf.bd .nil pass0 (pa_cons (pv 1) (pa_cons (pgi T.g_BLANK) pa_nil))))
 (pss_cons
 (ps_if (PW.pt (pw_or (pt_cmpR op_ne (pe_callB call_len_seq (by rfl) T.b_len bt_len (pa_cons (pv 3) pa_nil)) pe_int (nomark _)) (pw_or (pt_not (pt_val (pe_call (ok_qcr T) (hr.mono (by decide)) rfl T.d_qcr.at_ T.d_qcr.fn.kp T.d_qcr.bd .nil pass0 (pa_cons (pe_ix ix_list (pv 3) pe_int (fun _ _=>rfl)) pa_nil)))) (pw_or (pt_not (pt_val (pe_call (ok_qcq T) (hr.mono (by decide)) rfl T.d_qcq.at_ T.d_qcq.fn.kp T.d_qcq.bd .nil pass0 (pa_cons (pe_ix ix_list (pv 3) pe_int (fun _ _=>rfl)) pa_nil)))) (pw_or1 (pt_cmpR (op_neD hr.units) (pe_ix ix_list (pv 3) pe_int (fun _ _=>rfl)) (pe_call (ok_qcu T) (hr.mono (by decide)) rfl T.d_qcu.at_ T.d_qcu.fn.kp T.d_qcu.bd .nil pass0 (pa_cons pe_str pa_nil)) (nomark _)))))))
 (pss_one
 (ps_raise b rfl rfl T.g_WrongMessage T.x_WrongMessage))
 pss_nil)
 (pss_cons
 (ps_set (i:=4) sc_qdb.nd rfl (by first | exact Or.inl rfl | exact Or.inr rfl) (pe_make T.mk_Message (ok_qbj T) (hr.mono (by decide)) rfl T.g_Message T.d_qbj.bd .nil b.self (pa_cons (pv 0) (pa_cons (pe_ix ix_list (pv 3) pe_int (fun _ _=>rfl)) (pa_cons pe_int (pa_cons (pv 2) pa_nil))))))
 (pss_cons
 (ps_if (pt_cmpR (op_neD hr.units) (pe_fld (pv 4) rfl) (pe_ix ix_list (pv 3) pe_int (fun _ _=>rfl)) (nomark _))
 (pss_one
 (ps_raise b rfl rfl T.g_WrongMessage T.x_WrongMessage))
 pss_nil)
 (pss_one
 (ps_ret (pv 4))))))),?_⟩
    refine ⟨_,rfl,l,l0,32,rfl,hL,fun sp H1 s1 hsp=>?_⟩
    obtain ⟨as,hs1,pr⟩:=hsp.ex
    have er:requestOf l0=(match splitB 32 l0 with
      | [m,u,v]=>if Ql47.isWord m=true∧(!u.isEmpty && u.all Ql47.seen)=true∧v=Ql47.VERSION then some (m,u) else none
      | _=>none):=rfl
    have kn:requestOf l0=none→reqMsg l0 hs=none:=fun e=>by unfold reqMsg; rw [e]
    generalize splitB 32 l0=rows at pr er
    refine ⟨_,rfl,sp,_,rfl,.inl (SqL.of hs1),rfl,_,rfl,?_⟩
    cases pr with
    | nil=>exact iteT (k.no (kn er) _ s1)
    | cons r t =>
      cases t with
      | nil=>exact iteT (k.no (kn er) _ s1)
      | cons r2 t2 =>
        cases t2 with
        | nil=>exact iteT (k.no (kn er) _ s1)
        | cons r3 t3 =>
          cases t3 with
          | cons r4 t4 =>
            refine ite2 (fun _=>k.no (kn er) _ s1) fun h=>absurd ?_ h
            simp
            omega
          | nil =>
            rename_i a1 m a2 u a3 v
            have er:requestOf l0=if Ql47.isWord m=true∧(!u.isEmpty && u.all Ql47.seen)=true∧v=Ql47.VERSION then some (m,u) else none:=er
            refine iteF ⟨_,rfl,sp,_,0,_,rfl,rfl,SqL.of hs1,at_of (j:=0) rfl rfl,a1,m,rfl,r.2,fun H2 s2=>⟨_,rfl,ite2 (fun h=>?_) fun h=>?_⟩⟩
            · refine k.no (kn ?_) _ (s1.trans s2)
              rw [er,if_neg]
              rintro ⟨z,_⟩
              rw [nb_true h] at z
              cases z
            · have h1:=nb_false h
              refine ⟨_,rfl,sp,_,1,_,rfl,rfl,SqL.of (s2 _ _ hs1),at_of (j:=1) rfl rfl,a2,u,rfl,r2.2.same s2,fun H3 s3=>⟨_,rfl,ite2 (fun h2=>?_) fun h2=>?_⟩⟩
              · refine k.no (kn ?_) _ ((s1.trans s2).trans s3)
                rw [er,if_neg]
                rintro ⟨_,z,_⟩
                rw [nb_true h2] at z
                cases z
              · have h3:=nb_false h2
                have s23:=s2.trans s3
                refine ⟨_,rfl,sp,_,2,_,rfl,rfl,SqL.of (s23 _ _ hs1),at_of (j:=2) rfl rfl,_,rfl,by decide +kernel,by decide +kernel,fun vp H4 s4 _ hv=>?_⟩
                rw [strB_ver] at hv
                have s24:=s23.trans s4
                have sH4:=s1.trans s24
                refine rNeB (r3.2.same s24).at_ hv.at_ ⟨_,rfl,ite2 (fun h4=>?_) fun h4=>?_⟩
                · refine k.no (kn ?_) _ sH4
                  rw [er,if_neg]
                  rintro ⟨_,_,z⟩
                  exact (of_decide_eq_false (nb_true h4)) z
                · have h5:v=Ql47.VERSION:=of_decide_eq_true (nb_false h4)
                  rw [if_pos ⟨h1,h3,h5⟩] at er
                  refine ⟨_,rfl,_,rfl,sp,_,1,_,rfl,rfl,SqL.of (s24 _ _ hs1),at_of (j:=1) rfl rfl,_,rfl,fun x dx nx ndx nex=>?_⟩
                  have sn:=same_new (C:=A.c_Message) nx ndx
                  have F2:F a2:=hF _ r2.1
                  refine ⟨x,dx,o,a2,p,bo,u,0,F,hs,rfl,upd_same,(hO.same sH4).same sn,⟨(r2.2.same s24).same sn,F2⟩,(hH.same sH4).same sn,fun y hy=>hF y (sH4.free (new_free hy)),?_⟩
                  have eq:reqMsg l0 hs=match initOf hs with
                    | some pt=>if pt.meth=m then some (u,pt) else none
                    | none=>none:=by unfold reqMsg; rw [er]; cases initOf hs <;> rfl
                  cases ei:initOf hs with
                  | none =>
                    rw [ei] at eq
                    exact fun H' s'=>k.no eq _ (sH4.trans (Same.mk2 nx ndx s'))
                  | some pt =>
                    rw [ei] at eq
                    intro H' s' hM
                    have sH':=sH4.trans (Same.mk2 nx ndx s')
                    have s4':=s24.trans (Same.mk2 nx ndx s')
                    obtain ⟨dx',u',vi,sn',tg,cn,bw,br,me,e,b1,b2,b3,b4,b5,b6,b7,b8⟩:=hM.ex
                    refine ⟨rfl,_,rfl,x,_,dx',_,_,rfl,e,T.cl_Message,T.n_Message_method,mf_method,_,rfl,sp,_,0,_,rfl,rfl,SqL.of (s4' _ _ hs1),at_of (j:=0) rfl rfl,rNeB b8.1.at_ (r.2.same s4').at_ ⟨_,rfl,ite2 (fun h6=>?_) fun h6=>?_⟩⟩
                    · refine k.no ?_ _ sH'
                      rw [eq]
                      show (if _ then _ else _)=none
                      rw [if_neg (of_decide_eq_false (nb_true h6))]
                    · refine ⟨_,rfl,k.ok (x:=(u,pt)) ?_ x H' sH' (sH4.free nx) hM⟩
                      rw [eq]
                      show (if _ then _ else _)=_
                      rw [if_pos (of_decide_eq_true (nb_false h6))]
end
end L2

namespace L2
open PySem PySem.Spec PyProof.Rows
theorem trip2 {α β:Type} {F:Addr→β→Prop} {R:V→V→Prop} {S:V→α→Prop} {f:β→Option α}:∀ {as:List Addr} {bs:List β} {ys:List V},Paired F as bs→Paired R (as.map V.ref) ys →
    (∀ a b y,F a b→R (.ref a) y→∃ x,f b=some x∧S y x)→∃ xs,bs.mapM f=some xs∧Paired S ys xs
  | _,_,_,.nil,.nil,_=>⟨[],rfl,.nil⟩
  | _,_,_,.cons r t,.cons r' t',h=>by
    obtain ⟨x,e,s⟩:=h _ _ _ r r'
    obtain ⟨xs,e2,s2⟩:=trip2 t t' h
    exact ⟨x::xs,by rw [List.mapM_cons,e,e2]; rfl,.cons s s2⟩
theorem strB_verb:strB "SIP/2.0 "=Ql47.txt "SIP/2.0 ":=by decide +kernel
section
variable {P:Program} {w:World} {K:PySem.W.Frag} {mg:Str→Option Value} {base:Heap} {A:Adr}
def sp_qda (A:Adr):Sp:=fun vs H Q E=>∃ (a:Addr) (b:Bt),vs=[.ref a]∧IsB H a b∧OrFail A H E (Ql47.read b) fun m=>∀ q H',Same H H'→H q=none→MsgAt A (fun x=>H x=none) H' q a m b→Q (.ref q) H'
theorem ok_qda (T:Txt K mg A):FnOk P w K mg base (CXE P w) 9 A.f_qda A.v_qda ["octets"] (sp_qda A):=by
  refine T.d_qda.fn.okE sc_qda (fun vs H Q E h=>?_) (fun cdv A' outer s H vs Q E hr h b=>?_)
  · obtain ⟨a,b,rfl,_⟩:=h
    rfl
  · obtain ⟨a,bs,rfl,hB,k⟩:=h
    refine ⟨_,(pss_cons
 (ps_set (i:=1) sc_qda.nd rfl (by first | exact Or.inl rfl | exact Or.inr rfl) (pe_call (ok_qcm T) (hr.mono (by decide)) rfl T.d_qcm.at_ T.d_qcm.fn.kp T.d_qcm.bd .nil b.self (pa_cons (pv 0) pa_nil)))
 (pss_cons
 (ps_set (i:=2) sc_qda.nd rfl (by first | exact Or.inl rfl | exact Or.inr rfl) (pe_call (ok_qcz T) (hr.mono (by decide)) rfl T.d_qcz.at_ T.d_qcz.fn.kp T.d_qcz.bd .nil b.self (pa_cons (pe_slice sl_list (pv 0) po_none (po_some (pv 1))) pa_nil)))
 (pss_cons
 (ps_setLcX  (i:=3) (own:=[("line",4)]) rfl sc_qda.nd rfl rfl (sw_true rfl rfl rfl (by decide +kernel)) (pi_list (pe_slice sl_list (pv 2) (po_some pe_int) po_none)) (blkOk_by (by kernel_rfl)) (fun _ _ _ _ _=>pg_name (i:=4) sc_qda.nd rfl (Or.inl rfl)) (fun _ _ _ _ _=>pts_nil) b (fun _ _ _ _ _ bi=>(pe_call (ok_qcx T) (hr.mono (by decide)) rfl T.d_qcx.at_ T.d_qcx.fn.kp T.d_qcx.bd .nil (b.blkPass bi fun _ _ z=>z) (pa_cons (pv 4) pa_nil))))
 (pss_cons
 (ps_expr (pe_call (ok_qck T) (hr.mono (by decide)) rfl T.d_qck.at_ T.d_qck.fn.kp T.d_qck.bd .nil b.self (pa_cons (pv 3) (pa_cons (pe_slice sl_list (pv 0) (po_some (pe_op op_add (pv 1) pe_int)) po_none) pa_nil))))
 (pss_cons
 (ps_if (pt_val (pe_call (ok_qcj T) (hr.mono (by decide)) rfl T.d_qcj.at_ T.d_qcj.fn.kp T.d_qcj.bd .nil pass0 (pa_cons (pe_ix ix_list (pv 2) pe_int (fun _ _=>rfl)) (pa_cons (pe_call (ok_qcu T) (hr.mono (by decide)) rfl T.d_qcu.at_ T.d_qcu.fn.kp T.d_qcu.bd .nil pass0 (pa_cons pe_str pa_nil)) pa_nil))))
 (pss_one
 (ps_ret (pe_make T.mk_Message (ok_qbj T) (hr.mono (by decide)) rfl T.g_Message T.d_qbj.bd .nil b.self (pa_cons (pv 0) (pa_cons (pe_lst pa_nil) (pa_cons (pe_call (ok_qdd T) (hr.mono (by decide)) rfl T.d_qdd.at_ T.d_qdd.fn.kp T.d_qdd.bd .nil b.self (pa_cons (pe_ix ix_list (pv 2) pe_int (fun _ _=>rfl)) pa_nil)) (pa_cons (pv 3) pa_nil)))))))
 pss_nil)
 (pss_one
 (ps_ret (pe_call (ok_qdb T) (hr.mono (by decide)) rfl T.d_qdb.at_ T.d_qdb.fn.kp T.d_qdb.bd .nil b.self (pa_cons (pv 0) (pa_cons (pe_ix ix_list (pv 2) pe_int (fun _ _=>rfl)) (pa_cons (pv 3) pa_nil))))))))))),?_⟩
    refine ⟨_,rfl,a,bs,rfl,hB,?_⟩
    cases e1:headLen bs with
    | none=>exact fun H' s'=>k.no (read_nohead e1) _ s'
    | some n =>
    intro H1 s1
    refine ⟨_,rfl,_,rfl,_,rfl,a,_,rfl,(hB.same s1).sq,fun p hp=>?_⟩
    rw [cutV_to,LB_take]
    have s2:=Same.put0 (o:=.lst (LB (bs.take n))) hp
    refine ⟨p,bs.take n,rfl,isB_part hB.len upd_same (by rw [List.length_take]; omega),?_⟩
    cases e2:linesOf (bs.take n) with
    | none=>exact fun H' s'=>k.no (read_nolines e1 e2) _ ((s1.trans s2).trans s')
    | some lines =>
    intro lp H3 s3 _ hlines
    obtain ⟨l0,ls,rfl,er⟩:=read_lines e1 e2
    have sH3:=(s1.trans s2).trans s3
    obtain ⟨as,hlp,pr⟩:=hlines.ex
    have hlen:=hlines.len
    cases pr with
    | cons r0 pr =>
    rename_i a0 as
    refine ⟨_,rfl,_,rfl,lp,_,rfl,SqL.of hlp,fun p4 hp4=>?_⟩
    rw [show cutV ((a0::as).map V.ref) (some (1:Int)) none=as.map V.ref from cutV_from _ 1]
    have s4:=Same.put0 (o:=.lst (as.map V.ref)) hp4
    have h4:upd H3 p4 (.lst (as.map V.ref)) p4=some (.lst (as.map V.ref)):=upd_same
    have sH4:=sH3.trans s4
    have hlp4:=s4 _ _ hlp
    have r04:=r0.same s4
    have pr4:Paired (fun a b=>IsB (upd H3 p4 (.lst (as.map V.ref))) a b) as ls:=Paired.mapP pr fun _ _ z=>z.same s4
    generalize upd H3 p4 (.lst (as.map V.ref))=H4 at s4 h4 sH4 hlp4 r04 pr4 ⊢
    have plen:=Paired.len pr4
    rw [List.length_cons] at hlen
    have kread:∀ f h,firstP l0=some f→ls.mapM hdrP=some h→Ql47.read bs=msgOf f h (bs.drop (n+2)):=fun f h z1 z2=>by rw [er,z1,z2]
    have knone:ls.mapM hdrP=none→Ql47.read bs=none:=fun z=>by rw [er,z]; cases firstP l0 <;> rfl
    refine ⟨p4,rfl,⟨_,SqL.of h4⟩,fun D hD=>lc_lst (SqL.of h4) (fun _=>true) (fun x y H'=>∃ a2 b2 h,x=.ref a2∧IsB H4 a2 b2∧hdrP b2=some h∧∃ q,y=.ref q∧q≠D∧HdrIs (fun z=>H4 z=none∧z≠D) H' q h)
      (fun x y Ha Hb st ⟨a2,b2,h,z1,z2,z3,q,z4,z5,q1,q2,w1,w2,w3,w4,w5⟩=>⟨a2,b2,h,z1,z2,z3,q,z4,z5,q1,q2,st _ _ w1 z5,⟨st _ _ w2.at_ w5.2,w2.len⟩,⟨st _ _ w3.at_ w4.2,w3.len⟩,w4,w5⟩)
      (by rw [List.length_map]; have:=big_size; omega) hD (fun v hv H' Q' _ k'=>k' _ (Same.refl _)) (fun v hv _ H' Q' s' nD k'=>?_) fun ys H5 s5 h5 p5=>?_⟩
    · obtain ⟨a2,ha2,rfl⟩:=List.mem_map.mp hv
      obtain ⟨b2,hb2,i2⟩:=Paired.mem pr4 ha2
      refine ⟨_,rfl,a2,b2,rfl,i2.same s',?_⟩
      cases e:hdrP b2 with
      | none=>exact fun H6 s6=>k.no (knone (mapM_none_of hb2 e)) _ ((sH4.trans s').trans s6)
      | some h =>
        intro q H6 s6 hq ⟨q1,q2,w1,w2,w3,w4,w5⟩
        exact k' _ _ s6 ⟨a2,b2,h,rfl,i2,e,q,rfl,fun z=>nD (by rw [← z]; exact hq),q1,q2,w1,w2,w3,⟨s'.free w4,fun z=>nD (by rw [← z]; exact w4)⟩,⟨s'.free w5,fun z=>nD (by rw [← z]; exact w5)⟩⟩
    · rw [filter_true] at p5
      obtain ⟨hs,em,pm⟩:=trip2 (f:=hdrP) (S:=fun y (h:Bt×Bt)=>∃ q,y=.ref q∧HdrIs (fun z=>H z=none) H5 q h) pr4 p5 (fun a b y h1 ⟨a',b',h,z1,z2,z3,q,z4,z5,q1,q2,w1,w2,w3,w4,w5⟩=>by
        cases z1
        have:b'=b:=LB_inj (by have:=z2.at_.symm.trans h1.at_; injection this with this; injection this)
        subst this
        exact ⟨h,z3,q,z4,q1,q2,w1,w2,w3,sH4.free w4.1,sH4.free w5.1⟩)
      obtain ⟨qs,eqs,pq⟩:=refs_of pm
      have sH5:=sH4.trans s5
      have hHd:HdrsIn (fun z=>H z=none) H5 D hs:=⟨⟨qs,by rw [h5,eqs],pq⟩,by
        have l1:=Paired.len pm
        have l2:=Paired.len p5
        rw [List.length_map] at l2
        omega⟩
      have hl5:H5 lp=some (.lst ((a0::as).map V.ref)):=s5 _ _ hlp4
      have r05:=r04.same s5
      refine ⟨_,rfl,_,rfl,_,rfl,_,_,rfl,rfl,_,rfl,a,_,rfl,(hB.same sH5).sq,fun p6 hp6=>?_⟩
      rw [show ((n:Nat):Int)+2=((n+2:Nat):Int) from rfl,cutV_from,LB_drop]
      have s6:=Same.put0 (o:=.lst (LB (bs.drop (n+2)))) hp6
      refine ⟨_,D,p6,hs,bs.drop (n+2),rfl,hHd.same s6,isB_part hB.len upd_same (by rw [List.length_drop]; omega),?_⟩
      by_cases cl:lenOf hs (bs.drop (n+2))=true
      · rw [if_pos cl]
        intro H7 s7
        have s57:=s6.trans s7
        have sH7:=sH5.trans s57
        have hl7:=s57 _ _ hl5
        have r07:=r05.same s57
        have hd7:=hHd.same s57
        have mo:∀ f,msgOf f hs (bs.drop (n+2))=(initOf hs).bind fun p=>if Fits f p.meth then some (mkMsg f hs (bs.drop (n+2)) p) else none:=fun f=>by unfold msgOf; rw [if_pos cl]
        refine ⟨_,rfl,lp,_,0,_,rfl,rfl,SqL.of hl7,at_of (j:=0) rfl rfl,_,rfl,by decide +kernel,by decide +kernel,fun vb H8 s8 _ hvb=>?_⟩
        rw [strB_verb] at hvb
        refine ⟨a0,vb,l0,_,rfl,r07.same s8,hvb,fun H9 s9=>⟨_,rfl,?_⟩⟩
        have s79:=s8.trans s9
        have sH9:=sH7.trans s79
        have hl9:=s79 _ _ hl7
        have r09:=r07.same s79
        have hd9:=hd7.same s79
        have l8:(Ql47.txt "SIP/2.0 ").length=8:=rfl
        rw [l8]
        refine ite2 (fun h=>?_) fun h=>?_
        · have hv:l0.take 8=Ql47.txt "SIP/2.0 ":=of_decide_eq_true h
          have ef:firstP l0=(statusOf l0).map Ql47.First.reply:=by unfold firstP; rw [if_pos hv]
          refine ⟨_,rfl,(by show 0≤sizeLine; decide),fun ul hul=>?_⟩
          have s10:=Same.put0 (o:=.lst []) hul
          refine ⟨_,rfl,lp,_,0,_,rfl,rfl,SqL.of (s10 _ _ hl9),at_of (j:=0) rfl rfl,a0,l0,rfl,r09.same s10,?_⟩
          have sH10:=sH9.trans s10
          cases e3:statusOf l0 with
          | none =>
            refine fun H' s'=>k.no ?_ _ (sH10.trans s')
            rw [er,ef,e3]
            cases ls.mapM hdrP <;> rfl
          | some stt =>
            rw [e3] at ef
            intro H11 s11
            have sH11:=sH10.trans s11
            refine ⟨_,rfl,fun x dx nx ndx nex=>?_⟩
            have sn:=same_new (C:=A.c_Message) nx ndx
            refine ⟨x,dx,a,ul,D,bs,[],stt,_,hs,rfl,upd_same,(hB.same sH11).same sn,⟨⟨sn _ _ (s11 _ _ (by exact upd_same)),by decide⟩,sH9.free hul⟩,((hd9.same s10).same s11).same sn,fun y hy=>sH11.free (new_free hy),?_⟩
            have ek:=kread _ _ ef em
            rw [mo] at ek
            cases ei:initOf hs with
            | none =>
              rw [ei] at ek
              exact fun H' s'=>k.no ek _ (sH11.trans (Same.mk2 nx ndx s'))
            | some pt =>
              rw [ei] at ek
              refine fun H' s' hM=>⟨rfl,k.ok (x:=mkMsg (.reply stt) hs (bs.drop (n+2)) pt) (ek.trans ?_) x H' (sH11.trans (Same.mk2 nx ndx s')) (sH11.free nx) hM⟩
              exact if_pos (e:=none) (show Fits (.reply stt) pt.meth from trivial)
        · have hv:¬ l0.take 8=Ql47.txt "SIP/2.0 ":=fun z=>h (decide_eq_true z)
          have ef:firstP l0=(requestOf l0).map fun p=>Ql47.First.request p.1 p.2:=by unfold firstP; rw [if_neg hv]
          refine ⟨_,rfl,_,rfl,lp,_,0,_,rfl,rfl,SqL.of hl9,at_of (j:=0) rfl rfl,_,rfl,a,a0,D,bs,l0,_,hs,rfl,hB.same sH9,r09,hd9,fun y hy=>sH9.free hy,?_⟩
          have ek:Ql47.read bs=(reqMsg l0 hs).bind fun x=>(requestOf l0).map fun mu=>mkMsg (.request mu.1 mu.2) hs (bs.drop (n+2)) x.2:=by
            unfold reqMsg
            cases e3:requestOf l0 with
            | none =>
              rw [e3] at ef
              rw [er,ef]
              cases ls.mapM hdrP <;> rfl
            | some mu =>
              rw [e3] at ef
              rw [kread _ _ ef em,mo]
              cases ei:initOf hs with
              | none=>rfl
              | some pt =>
                show (if Fits (.request mu.1 mu.2) pt.meth then some (mkMsg (.request mu.1 mu.2) hs (bs.drop (n+2)) pt) else none)=Option.bind (if pt.meth=mu.1 then some (mu.2,pt) else none) _
                by_cases c:pt.meth=mu.1
                · rw [if_pos (show Fits (.request mu.1 mu.2) pt.meth from c.symm),if_pos c]
                  rfl
                · rw [if_neg (show ¬ Fits (.request mu.1 mu.2) pt.meth from fun z=>c z.symm),if_neg c]
                  rfl
          cases e4:reqMsg l0 hs with
          | none=>exact fun H' s'=>k.no (by rw [ek,e4]; rfl) _ (sH9.trans s')
          | some x =>
            intro q H' s' hq hM
            have e5:∃ mu,requestOf l0=some mu∧x.1=mu.2:=by
              unfold reqMsg at e4
              cases e3:requestOf l0 with
              | none=>rw [e3] at e4; cases e4
              | some mu =>
                rw [e3] at e4
                cases ei:initOf hs with
                | none=>rw [ei] at e4; cases e4
                | some pt =>
                  rw [ei] at e4
                  have e4:(if pt.meth=mu.1 then some (mu.2,pt) else none)=some x:=e4
                  split at e4
                  · cases e4
                    exact ⟨mu,rfl,rfl⟩
                  · cases e4
            obtain ⟨mu,e3,ex⟩:=e5
            refine k.ok (x:=mkMsg (.request mu.1 mu.2) hs (bs.drop (n+2)) x.2) (by rw [ek,e4,e3]; rfl) q H' (sH9.trans s') (sH9.free hq) ?_
            unfold MsgAt
            have eu:uriOf (mkMsg (.request mu.1 mu.2) hs (bs.drop (n+2)) x.2)=x.1:=ex.symm
            rw [eu]
            exact hM
      · rw [if_neg cl]
        refine fun H7 s7=>k.no ?_ _ ((sH5.trans s6).trans s7)
        rw [er,em]
        cases firstP l0 with
        | none=>rfl
        | some f =>
          show msgOf f hs (bs.drop (n+2))=none
          unfold msgOf
          rw [if_neg cl]
end
end L2

namespace L2
open PySem PySem.Spec PyProof.Rows
def Keep (M:List Addr) (H H':Hp):Prop:=∀ b o,H b=some o→b ∉ M→H' b=some o
theorem Keep.refl (M:List Addr) (H:Hp):Keep M H H:=fun _ _ h _=>h
theorem Keep.trans {M:List Addr} {H H1 H2:Hp} (a:Keep M H H1) (b:Keep M H1 H2):Keep M H H2:=fun c o h n=>b c o (a c o h n) n
theorem Keep.of {M:List Addr} {H H1:Hp} (a:Same H H1):Keep M H H1:=fun c o h _=>a c o h
theorem Keep.mono {M M':List Addr} {H H1:Hp} (a:Keep M H H1) (h:∀ x∈M,x∈M'):Keep M' H H1:=fun c o e n=>a c o e fun z=>n (h c z)
theorem Keep.ofX {p:Addr} {M:List Addr} {H H1:Hp} (a:SameX p H H1) (h:p∈M):Keep M H H1:=fun c o e n=>a c o e fun z=>n (by rw [z]; exact h)
theorem Keep.upd {M:List Addr} {H H1:Hp} {p:Addr} {o:HO} (a:Keep M H H1) (h:p∈M):Keep M H (L2.upd H1 p o):=fun c u e n=>by
  rw [upd_ne fun z=>n (by rw [z]; exact h)]
  exact a c u e n
def MutOk (A:Adr) (N:List Addr) (H:Hp) (M:List Addr):Prop:=∀ x∈M,(x∈N∧∃ xs,H x=some (.lst xs))∨∃ C dx fs,H x=some (.ins C dx fs)∧C≠A.c_Message
abbrev Imm (N:List Addr):Addr→Prop:=fun x=>x ∉ N
theorem BF.keep {A:Adr} {N M:List Addr} {H H':Hp} {a:Addr} {b:Bt} (h:BF (Imm N) H a b) (k:Keep M H H') (m:MutOk A N H M):BF (Imm N) H' a b:=by
  refine ⟨⟨k _ _ h.1.at_ fun z=>?_,h.1.len⟩,h.2⟩
  rcases m a z with ⟨y,_⟩ | ⟨C,dx,fs,y,_⟩
  · exact h.2 y
  · exact ne_of h.1.at_ y (by intro q; cases q) rfl
structure MsgIm (A:Adr) (N:List Addr) (H:Hp) (p:Addr) (m:Ql47.Msg) (b:Bt):Prop where
  ex:∃ o,MsgAt A (Imm N) H p o m b∧o ∉ N
theorem MsgIm.keep {A:Adr} {N M:List Addr} {H H':Hp} {p:Addr} {m:Ql47.Msg} {b:Bt} (h:MsgIm A N H p m b) (k:Keep M H H') (mo:MutOk A N H M):MsgIm A N H' p m b:=by
  obtain ⟨o,hM,ho⟩:=h.ex
  obtain ⟨dx,u,vi,sn,tg,cn,bw,br,me,e,a1,a2,a3,a4,a5,a6,a7,a8⟩:=hM.ex
  have hp:p ∉ M:=fun z=>by
    rcases mo p z with ⟨_,xs,y⟩ | ⟨C,dx',fs,y,n⟩
    · rw [e] at y; cases y
    · rw [e] at y; cases y; exact n rfl
  have ho':=BF.keep (A:=A) ⟨hM.oct,ho⟩ k mo
  exact ⟨o,⟨⟨dx,u,vi,sn,tg,cn,bw,br,me,k _ _ e hp,a1.keep k mo,a2.keep k mo,a3.keep k mo,a4.keep k mo,a5.keep k mo,a6.keep k mo,a7.keep k mo,a8.keep k mo⟩,ho'.1⟩,ho⟩
theorem MsgIm.same {A:Adr} {N:List Addr} {H H':Hp} {p:Addr} {m:Ql47.Msg} {b:Bt} (h:MsgIm A N H p m b) (s:Same H H'):MsgIm A N H' p m b:=by
  obtain ⟨o,hM,ho⟩:=h.ex
  exact ⟨o,hM.same s,ho⟩
def repF (n:Nat) (l:Addr):List (Str×V):=[("things",.int ((n:Nat):Int)),("numbers",.ref l)]
section
variable {n n':Nat} {l:Addr}
theorem rp_things:(repF n l).lookup ("things":Str)=some (V.int ((n:Nat):Int)):=by kernel_rfl
theorem rp_numbers:(repF n l).lookup ("numbers":Str)=some (V.ref l):=by kernel_rfl
theorem rp_put {i:Int} (e:i=((n':Nat):Int)):putF "things" (.int i) (repF n l)=repF n' l:=by subst e; kernel_rfl
theorem rp_add:(repF n l).lookup ("add":Str)=none:=by kernel_rfl
theorem rp_answer:(repF n l).lookup ("answer":Str)=none:=by kernel_rfl
end
def BM:Nat:=60000
def outsInts (outs:List Ql47.Out):List Int:=outs.flatMap Ql47Neutral.outInts
structure RepAt (A:Adr) (H:Hp) (r l:Addr) (outs:List Ql47.Out):Prop where
  ob:∃ dx,H r=some (.ins A.c_Report dx (repF outs.length l))
  lst:H l=some (.lst ((outsInts outs).map V.int))
  few:(outsInts outs).length≤outs.length * 60003
theorem RepAt.same {A:Adr} {H H':Hp} {r l:Addr} {outs:List Ql47.Out} (h:RepAt A H r l outs) (s:Same H H'):RepAt A H' r l outs:=by
  obtain ⟨dx,e⟩:=h.ob
  exact ⟨⟨dx,s _ _ e⟩,s _ _ h.lst,h.few⟩
theorem RepAt.keep {A:Adr} {M:List Addr} {H H':Hp} {r l:Addr} {outs:List Ql47.Out} (h:RepAt A H r l outs) (s:Keep M H H') (h1:r ∉ M) (h2:l ∉ M):RepAt A H' r l outs:=by
  obtain ⟨dx,e⟩:=h.ob
  exact ⟨⟨dx,s _ _ e h1⟩,s _ _ h.lst h2,h.few⟩
theorem ints_LB (b:Bt):(Ql47Neutral.byteInts b).map V.int=LB b:=by
  unfold Ql47Neutral.byteInts LB
  rw [List.map_map]
  rfl
section
variable {P:Program} {w:World} {K:PySem.W.Frag} {mg:Str→Option Value} {base:Heap} {A:Adr}
def sp_qbr (A:Adr):Sp:=fun vs H Q _=>∃ (r dx:Addr),vs=[.ref r]∧H r=some (.ins A.c_Report dx [])∧∀ l H',SameX r H H'→H l=none→RepAt A H' r l []→Q .non H'
theorem ok_qbr (T:Txt K mg A):FnOk P w K mg base CX0 1 A.f_qbr A.v_qbr ["self"] (sp_qbr A):=by
  refine T.d_qbr.fn.ok sc_qbr (fun vs H Q E h=>?_) (fun cdv A' outer s H vs Q E hr h=>?_)
  · obtain ⟨r,dx,rfl,_⟩:=h
    rfl
  · obtain ⟨r,dx,rfl,hr',k⟩:=h
    refine ⟨_,(pss_cons
 (ps_fld (pv 0) pe_int rfl)
 (pss_one
 (ps_fld (pv 0) (pe_lst pa_nil) rfl))),?_⟩
    refine ⟨_,rfl,r,_,dx,_,rfl,hr',T.cl_Report,T.n_Report_things,lt1000 nil_len (by decide),(by show 0≤sizeLine; decide),fun l hl=>?_⟩
    have nrl:r≠l:=ne_of_none upd_same hl
    refine ⟨_,rfl,r,_,dx,_,rfl,(by rw [upd_ne nrl]; exact upd_same),T.cl_Report,T.n_Report_numbers,lt1000 (pf_len nil_len) (by decide),?_⟩
    have hl0:H l=none:=by rw [upd_ne nrl.symm] at hl; exact hl
    refine k l _ (fun b o e n=>?_) hl0 ⟨⟨dx,?_⟩,?_,Nat.zero_le _⟩
    · rw [upd_ne n,upd_ne (ne_of_none e hl0),upd_ne n]
      exact e
    · rw [upd_same]
      kernel_rfl
    · rw [upd_ne nrl.symm,upd_same]
      rfl
def sp_qbp (A:Adr):Sp:=fun vs H Q _=>∃ (r l a:Addr) (outs:List Ql47.Out) (b:Bt) (kd nr:Int) (out:Ql47.Out),vs=[.ref r,.int kd,.int nr,.ref a]∧RepAt A H r l outs∧IsB H a b∧a≠l∧outs.length < 200∧b.length≤BM ∧
  Ql47Neutral.outInts out=[kd,nr,(b.length:Int)]++Ql47Neutral.byteInts b∧∀ H',Keep [r,l] H H'→RepAt A H' r l (outs++[out])→Q .non H'
theorem ok_qbp (T:Txt K mg A):FnOk P w K mg base CX0 1 A.f_qbp A.v_qbp ["self","kind","transaction_number","octets"] (sp_qbp A):=by
  refine T.d_qbp.fn.ok sc_qbp (fun vs H Q E h=>?_) (fun cdv A' outer s H vs Q E hr h=>?_)
  · obtain ⟨r,l,a,outs,b,kd,nr,out,rfl,_⟩:=h
    rfl
  · obtain ⟨r,l,a,outs,b,kd,nr,out,rfl,hR,hB,nal,hn,hb,ho,k⟩:=h
    refine ⟨_,(pss_cons
 (ps_fldaug (pv 0) pe_int in_add)
 (pss_cons
 (ps_expr (pe_bm PySem.F.plainAttrs_list PySem.F.slot_list_extend PySem.F.type_list_extend mt_extend (pe_fld (pv 0) rfl) (pa_cons (pe_lst (pa_cons (pv 1) (pa_cons (pv 2) (pa_cons (pe_callB call_len_seq (by rfl) T.b_len bt_len (pa_cons (pv 3) pa_nil)) pa_nil)))) pa_nil)))
 (pss_one
 (ps_expr (pe_bm PySem.F.plainAttrs_list PySem.F.slot_list_extend PySem.F.type_list_extend mt_extend (pe_fld (pv 0) rfl) (pa_cons (pv 3) pa_nil)))))),?_⟩
    obtain ⟨dx,e⟩:=hR.ob
    have nrl:l≠r:=ne_of hR.lst e (by intro z; cases z)
    have nra:a≠r:=ne_of hB.at_ e (by intro z; cases z)
    have hfew:=hR.few
    have big:200 * 60003+100+BM≤sizeLine:=by decide
    refine ⟨_,rfl,r,_,dx,_,_,rfl,e,T.cl_Report,T.n_Report_things,rp_things,_,_,rfl,rfl,dx,_,e,(by show 2 < 1000; decide),?_⟩
    rw [rp_put (n':=outs.length+1) (by omega)]
    have x1:Keep [r,l] H (upd H r (.ins A.c_Report dx (repF (outs.length+1) l))):=(Keep.refl _ H).upd (by simp)
    have h1:upd H r (.ins A.c_Report dx (repF (outs.length+1) l)) r=some (.ins A.c_Report dx (repF (outs.length+1) l)):=upd_same
    have l1:upd H r (.ins A.c_Report dx (repF (outs.length+1) l)) l=some (.lst ((outsInts outs).map V.int)):=by rw [upd_ne nrl]; exact hR.lst
    have b1:upd H r (.ins A.c_Report dx (repF (outs.length+1) l)) a=some (.lst (LB b)):=by rw [upd_ne nra]; exact hB.at_
    generalize upd H r (.ins A.c_Report dx (repF (outs.length+1) l))=H1 at x1 h1 l1 b1 ⊢
    refine ⟨_,rfl,r,_,dx,_,_,rfl,h1,T.cl_Report,T.n_Report_numbers,rp_numbers,.inl ⟨rfl,_,SqL.of l1⟩,_,rfl,_,rfl,_,rfl,a,_,rfl,.inl (SqL.of b1),(by show 3≤sizeLine; decide),fun q hq=>?_⟩
    rw [LB_length]
    have nql:l≠q:=ne_of_none l1 hq
    have nqr:r≠q:=ne_of_none h1 hq
    have nqa:a≠q:=ne_of_none b1 hq
    have len1:((outsInts outs).map V.int).length=(outsInts outs).length:=List.length_map _
    have hm:outs.length * 60003≤200 * 60003:=Nat.mul_le_mul_right _ (Nat.le_of_lt hn)
    refine ⟨l,q,_,_,rfl,rfl,(by rw [upd_ne nql]; exact l1),upd_same,(by rw [len1]; show _+3≤_; omega),?_⟩
    refine ⟨_,rfl,r,_,dx,_,_,rfl,(by rw [upd_ne nrl.symm,upd_ne nqr]; exact h1),T.cl_Report,T.n_Report_numbers,rp_numbers,.inl ⟨rfl,_,SqL.of upd_same⟩,_,rfl,l,a,_,_,rfl,rfl,upd_same,(by rw [upd_ne nal,upd_ne nqa]; exact b1),(by rw [List.length_append,len1,LB_length]; show _+3+_≤_; omega),?_⟩
    have eo:outsInts (outs++[out])=outsInts outs++([kd,nr,(b.length:Int)]++Ql47Neutral.byteInts b):=by
      unfold outsInts
      rw [List.flatMap_append,List.flatMap_cons,List.flatMap_nil,List.append_nil,ho]
    refine k _ (fun c o ec nc=>?_) ⟨⟨dx,?_⟩,?_,?_⟩
    · have n1:c≠l:=fun z=>nc (by rw [z]; simp)
      have hc:=x1 c o ec nc
      rw [upd_ne n1,upd_ne n1,upd_ne (ne_of_none hc hq)]
      exact hc
    · rw [upd_ne nrl.symm,upd_ne nrl.symm,upd_ne nqr,h1,List.length_append]
      rfl
    · rw [upd_same,eo,List.map_append,List.map_append,ints_LB,List.append_assoc]
      rfl
    · rw [eo,List.length_append,List.length_append,List.length_append]
      have:(Ql47Neutral.byteInts b).length=b.length:=List.length_map _
      rw [this]
      show _+(3+_)≤(outs.length+1) * 60003
      have hb':b.length≤60000:=hb
      omega
def sp_qbq (A:Adr):Sp:=fun vs H Q _=>∃ (r l:Addr) (outs:List Ql47.Out),vs=[.ref r]∧RepAt A H r l outs∧outs.length≤200∧∀ q H',Same H H'→H q=none→H' q=some (.lst (((outs.length:Int)::outsInts outs).map V.int))→Q (.ref q) H'
theorem okU_qbq (T:Txt K mg A):FnOkU P w K mg base 1 A.f_qbq A.v_qbq ["self"] (sp_qbq A):=by
  refine T.d_qbq.fn.okU sc_qbq (fun vs H Q E h=>?_) (fun cdv A' outer s H vs Q E h=>?_)
  · obtain ⟨r,l,outs,rfl,_⟩:=h
    rfl
  · obtain ⟨r,l,outs,rfl,hR,hn,k⟩:=h
    refine ⟨_,(pss_one
 (ps_ret (pe_op op_cat (pe_lst (pa_cons (pe_fld (pv 0) rfl) pa_nil)) (pe_fld (pv 0) rfl)))),?_⟩
    obtain ⟨dx,e⟩:=hR.ob
    have big:200 * 60003+100≤sizeLine:=by decide
    have hfew:=hR.few
    have hm:outs.length * 60003≤200 * 60003:=Nat.mul_le_mul_right _ hn
    refine ⟨_,rfl,r,_,dx,_,_,rfl,e,T.cl_Report,T.n_Report_things,rp_things,(by show 1≤sizeLine; decide),fun p hp=>?_⟩
    have s1:=Same.put0 (o:=.lst [V.int (outs.length:Int)]) hp
    refine ⟨_,rfl,r,_,dx,_,_,rfl,s1 _ _ e,T.cl_Report,T.n_Report_numbers,rp_numbers,p,l,_,_,rfl,rfl,upd_same,s1 _ _ hR.lst,(by rw [List.length_map]; show 1+_≤_; omega),fun q hq=>?_⟩
    exact k q _ (s1.put hq) (s1.free hq) upd_same
theorem ok_qbq (T:Txt K mg A):FnOk P w K mg base CX0 1 A.f_qbq A.v_qbq ["self"] (sp_qbq A):=(okU_qbq T).ok
end
end L2

namespace L2
open PySem PySem.Spec PyProof.Rows
structure PX where
  ask:Bool
  id:Nat
  st:Nat
  w:Nat
  ag:Option Nat
  en:Option Nat
  ov:Bool
  sent:Bt
  req:Ql47.Msg
  roct:Bt
def optV:Option Nat→V
  | none=>.non
  | some n=>.int ((n:Nat):Int)
def txF (id:Nat) (q:Addr) (st:Nat) (ls:Addr) (w:Nat) (ag en:Option Nat) (ov:Bool):List (Str×V) :=
  [("number",.int ((id:Nat):Int)),("request",.ref q),("state",.int ((st:Nat):Int)),("last_sent",.ref ls),("wait",.int ((w:Nat):Int)),("again_at",optV ag),("end_at",optV en),("over",.bl ov)]
section
variable {id st w:Nat} {q ls:Addr} {ag en:Option Nat} {ov:Bool}
theorem tf_number:(txF id q st ls w ag en ov).lookup ("number":Str)=some (V.int ((id:Nat):Int)):=by kernel_rfl
theorem tf_request:(txF id q st ls w ag en ov).lookup ("request":Str)=some (V.ref q):=by kernel_rfl
theorem tf_state:(txF id q st ls w ag en ov).lookup ("state":Str)=some (V.int ((st:Nat):Int)):=by kernel_rfl
theorem tf_last_sent:(txF id q st ls w ag en ov).lookup ("last_sent":Str)=some (V.ref ls):=by kernel_rfl
theorem tf_wait:(txF id q st ls w ag en ov).lookup ("wait":Str)=some (V.int ((w:Nat):Int)):=by kernel_rfl
theorem tf_again_at:(txF id q st ls w ag en ov).lookup ("again_at":Str)=some (optV ag):=by kernel_rfl
theorem tf_end_at:(txF id q st ls w ag en ov).lookup ("end_at":Str)=some (optV en):=by kernel_rfl
theorem tf_over:(txF id q st ls w ag en ov).lookup ("over":Str)=some (V.bl ov):=by kernel_rfl
theorem tp_last_sent (a:Addr):putF "last_sent" (.ref a) (txF id q st ls w ag en ov)=txF id q st a w ag en ov:=by kernel_rfl
theorem tp_wait (n:Nat):putF "wait" (.int ((n:Nat):Int)) (txF id q st ls w ag en ov)=txF id q st ls n ag en ov:=by kernel_rfl
theorem tp_again_at (x:Option Nat):putF "again_at" (optV x) (txF id q st ls w ag en ov)=txF id q st ls w x en ov:=by kernel_rfl
theorem tp_end_at (x:Option Nat):putF "end_at" (optV x) (txF id q st ls w ag en ov)=txF id q st ls w ag x ov:=by kernel_rfl
theorem tp_again_sum (a b:Nat):putF "again_at" (.int (((a:Nat):Int)+((b:Nat):Int))) (txF id q st ls w ag en ov)=txF id q st ls w (some (a+b)) en ov:=by kernel_rfl
theorem tp_end_sum (a b:Nat):putF "end_at" (.int (((a:Nat):Int)+((b:Nat):Int))) (txF id q st ls w ag en ov)=txF id q st ls w ag (some (a+b)) ov:=by kernel_rfl
theorem tp_over (b:Bool):putF "over" (.bl b) (txF id q st ls w ag en ov)=txF id q st ls w ag en b:=by kernel_rfl
theorem tf_len:(txF id q st ls w ag en ov).length≤8:=Nat.le_refl _
theorem tf_lt:(txF id q st ls w ag en ov).length < 1000:=lt1000 tf_len (by decide)
end
theorem tf_no {id st w:Nat} {q ls:Addr} {ag en:Option Nat} {ov:Bool} (m:Str) (h:((["number","request","state","last_sent","wait","again_at","end_at","over"]:List Str).contains m)=false):(txF id q st ls w ag en ov).lookup m=none:=by
  unfold txF
  simp only [List.contains_cons,List.contains_nil,Bool.or_eq_false_iff] at h
  obtain ⟨h1,h2,h3,h4,h5,h6,h7,h8,_⟩:=h
  simp only [List.lookup_cons,h1,h2,h3,h4,h5,h6,h7,h8,List.lookup_nil]
def clsA (A:Adr) (ask:Bool):Addr:=if ask then A.c_Asking else A.c_Answering
theorem isTx (A:Adr) (ask:Bool):IsTx A (clsA A ask):=by
  cases ask
  · exact .inr rfl
  · exact .inl rfl
structure TAt (A:Adr) (N:List Addr) (H:Hp) (p:Addr) (pt:PX):Prop where
  ex:∃ dx q ls,H p=some (.ins (clsA A pt.ask) dx (txF pt.id q pt.st ls pt.w pt.ag pt.en pt.ov))∧MsgIm A N H q pt.req pt.roct∧BF (Imm N) H ls pt.sent
  b1:pt.sent.length≤BM
theorem clsA_ne {K:PySem.W.Frag} {mg:Str→Option Value} {A:Adr} (T:Txt K mg A) (ask:Bool):clsA A ask≠A.c_Message:=by
  cases ask
  · exact T.nm_Answering
  · exact T.nm_Asking
theorem TAt.mut {K:PySem.W.Frag} {mg:Str→Option Value} {A:Adr} {N:List Addr} {H:Hp} {p:Addr} {pt:PX} (T:Txt K mg A) (h:TAt A N H p pt):MutOk A N H [p]:=fun x hx=>by
  obtain ⟨dx,q,ls,e,_⟩:=h.ex
  have:x=p:=by simpa using hx
  subst this
  exact .inr ⟨_,_,_,e,clsA_ne T _⟩
theorem TAt.keep {A:Adr} {N M:List Addr} {H H':Hp} {p:Addr} {pt:PX} (h:TAt A N H p pt) (k:Keep M H H') (m:MutOk A N H M) (hp:p ∉ M):TAt A N H' p pt:=by
  obtain ⟨dx,q,ls,e,a1,a2⟩:=h.ex
  exact ⟨⟨dx,q,ls,k _ _ e hp,a1.keep k m,a2.keep k m⟩,h.b1⟩
theorem TAt.same {A:Adr} {N:List Addr} {H H':Hp} {p:Addr} {pt:PX} (h:TAt A N H p pt) (k:Same H H'):TAt A N H' p pt:=by
  obtain ⟨dx,q,ls,e,a1,a2⟩:=h.ex
  exact ⟨⟨dx,q,ls,k _ _ e,a1.same k,a2.same k⟩,h.b1⟩
theorem TAt.set {K:PySem.W.Frag} {mg:Str→Option Value} {A:Adr} {N:List Addr} {H:Hp} {p dx q ls':Addr} {pt pt':PX} {fs:List (Str×V)} (T:Txt K mg A) (e:H p=some (.ins (clsA A pt.ask) dx fs)) (hq:MsgIm A N H q pt.req pt.roct) (hs:BF (Imm N) H ls' pt'.sent) (hb:pt'.sent.length≤BM)
    (e1:pt'.ask=pt.ask) (e2:pt'.req=pt.req) (e3:pt'.roct=pt.roct):TAt A N (upd H p (.ins (clsA A pt.ask) dx (txF pt'.id q pt'.st ls' pt'.w pt'.ag pt'.en pt'.ov))) p pt':=by
  have m:MutOk A N H [p]:=fun x hx=>by
    have:x=p:=by simpa using hx
    subst this
    exact .inr ⟨_,_,_,e,clsA_ne T _⟩
  have k:Keep [p] H (upd H p (.ins (clsA A pt.ask) dx (txF pt'.id q pt'.st ls' pt'.w pt'.ag pt'.en pt'.ov))):=(Keep.refl _ H).upd (by simp)
  exact ⟨⟨dx,q,ls',by rw [upd_same,e1],by rw [e2,e3]; exact hq.keep k m,hs.keep k m⟩,hb⟩
namespace PX
def startAgain (t:PX) (now wt:Nat):PX:={ t with w:=wt,ag:=some (now+wt) }
def endCome (t:PX) (now:Nat):Bool:=t.en.any fun e=>decide (e≤now)
def againCome (t:PX) (now:Nat):Bool:=t.ag.any fun e=>decide (e≤now)
def inv (t:PX):Bool:=decide (t.req.method=Ql47.INVITE)
def early (t:PX):Bool:=decide (t.st=0) || decide (t.st=1)
def nextWait (t:PX):Nat:=if t.ask=true then (if t.inv=true then 2 * t.w else if t.st=1 then 4000 else min (2 * t.w) 4000) else min (2 * t.w) 4000
def lostEnd (t:PX):Bool:=if t.ask=true then t.early else (t.inv && decide (t.st=2))
def runT (t:PX) (now:Nat):PX×List Ql47.Out :=
  if t.endCome now=true then ({ t with ov:=true },if t.lostEnd=true then [.timeout t.id] else [])
  else if t.againCome now=true then (t.startAgain now t.nextWait,[.wire t.id t.sent]) else (t,[])
end PX
section
variable {P:Program} {w:World} {K:PySem.W.Frag} {mg:Str→Option Value} {base:Heap} {A:Adr}
def sp_qca (A:Adr):Sp:=fun vs H Q _=>∃ (N:List Addr) (p:Addr) (t:PX) (now wt:Nat),vs=[.ref p,.int ((now:Nat):Int),.int ((wt:Nat):Int)]∧TAt A N H p t∧∀ H',SameX p H H'→TAt A N H' p (t.startAgain now wt)→Q .non H'
theorem ok_qca (T:Txt K mg A):FnOk P w K mg base CX0 1 A.f_qca A.v_qca ["self","now","wait"] (sp_qca A):=by
  refine T.d_qca.fn.ok sc_qca (fun vs H Q E h=>?_) (fun cdv A' outer s H vs Q E hr h=>?_)
  · obtain ⟨N,p,t,now,wt,rfl,_⟩:=h
    rfl
  · obtain ⟨N,p,t,now,wt,rfl,hT,k⟩:=h
    have TC:=T.tx (isTx A t.ask)
    refine ⟨_,(pss_cons
 (ps_fld (pv 0) (pv 2) rfl)
 (pss_one
 (ps_fld (pv 0) (pe_op op_add (pv 1) (pv 2)) rfl))),?_⟩
    obtain ⟨dx,q,ls,e,a1,a2⟩:=hT.ex
    refine ⟨_,rfl,_,rfl,p,_,dx,_,rfl,e,TC.cl,TC.n_wait,tf_lt,?_⟩
    rw [tp_wait]
    refine ⟨_,rfl,_,rfl,_,_,rfl,rfl,_,rfl,p,_,dx,_,rfl,upd_same,TC.cl,TC.n_again_at,tf_lt,?_⟩
    simp only [tp_again_sum,upd_upd]
    exact k _ (SameX.refl H).upd (TAt.set (pt':=t.startAgain now wt) T e a1 a2 hT.b1 rfl rfl rfl)
def sp_qcc (A:Adr):Sp:=fun vs H Q _=>∃ (N:List Addr) (p:Addr) (t:PX),vs=[.ref p]∧TAt A N H p t∧∀ H',SameX p H H'→TAt A N H' p { t with ag:=none }→Q .non H'
theorem ok_qcc (T:Txt K mg A):FnOk P w K mg base CX0 1 A.f_qcc A.v_qcc ["self"] (sp_qcc A):=by
  refine T.d_qcc.fn.ok sc_qcc (fun vs H Q E h=>?_) (fun cdv A' outer s H vs Q E hr h=>?_)
  · obtain ⟨N,p,t,rfl,_⟩:=h
    rfl
  · obtain ⟨N,p,t,rfl,hT,k⟩:=h
    have TC:=T.tx (isTx A t.ask)
    refine ⟨_,(pss_one
 (ps_fld (pv 0) pe_non rfl)),?_⟩
    obtain ⟨dx,q,ls,e,a1,a2⟩:=hT.ex
    refine ⟨_,rfl,p,_,dx,_,rfl,e,TC.cl,TC.n_again_at,tf_lt,?_⟩
    rw [show V.non=optV none from rfl,tp_again_at]
    exact k _ (SameX.refl H).upd (TAt.set (pt':={ t with ag:=none }) T e a1 a2 hT.b1 rfl rfl rfl)
def sp_qcb (A:Adr):Sp:=fun vs H Q _=>∃ (N:List Addr) (p:Addr) (t:PX) (now wt:Nat),vs=[.ref p,.int ((now:Nat):Int),.int ((wt:Nat):Int)]∧TAt A N H p t∧∀ H',SameX p H H'→TAt A N H' p { t with en:=some (now+wt) }→Q .non H'
theorem ok_qcb (T:Txt K mg A):FnOk P w K mg base CX0 1 A.f_qcb A.v_qcb ["self","now","wait"] (sp_qcb A):=by
  refine T.d_qcb.fn.ok sc_qcb (fun vs H Q E h=>?_) (fun cdv A' outer s H vs Q E hr h=>?_)
  · obtain ⟨N,p,t,now,wt,rfl,_⟩:=h
    rfl
  · obtain ⟨N,p,t,now,wt,rfl,hT,k⟩:=h
    have TC:=T.tx (isTx A t.ask)
    refine ⟨_,(pss_one
 (ps_fld (pv 0) (pe_op op_add (pv 1) (pv 2)) rfl)),?_⟩
    obtain ⟨dx,q,ls,e,a1,a2⟩:=hT.ex
    refine ⟨_,rfl,_,rfl,_,_,rfl,rfl,_,rfl,p,_,dx,_,rfl,e,TC.cl,TC.n_end_at,tf_lt,?_⟩
    simp only [tp_end_sum]
    exact k _ (SameX.refl H).upd (TAt.set (pt':={ t with en:=some (now+wt) }) T e a1 a2 hT.b1 rfl rfl rfl)
def sp_qcd (A:Adr):Sp:=fun vs H Q _=>∃ (N:List Addr) (p:Addr) (t:PX),vs=[.ref p]∧TAt A N H p t∧∀ H',SameX p H H'→TAt A N H' p { t with en:=none }→Q .non H'
theorem ok_qcd (T:Txt K mg A):FnOk P w K mg base CX0 1 A.f_qcd A.v_qcd ["self"] (sp_qcd A):=by
  refine T.d_qcd.fn.ok sc_qcd (fun vs H Q E h=>?_) (fun cdv A' outer s H vs Q E hr h=>?_)
  · obtain ⟨N,p,t,rfl,_⟩:=h
    rfl
  · obtain ⟨N,p,t,rfl,hT,k⟩:=h
    have TC:=T.tx (isTx A t.ask)
    refine ⟨_,(pss_one
 (ps_fld (pv 0) pe_non rfl)),?_⟩
    obtain ⟨dx,q,ls,e,a1,a2⟩:=hT.ex
    refine ⟨_,rfl,p,_,dx,_,rfl,e,TC.cl,TC.n_end_at,tf_lt,?_⟩
    rw [show V.non=optV none from rfl,tp_end_at]
    exact k _ (SameX.refl H).upd (TAt.set (pt':={ t with en:=none }) T e a1 a2 hT.b1 rfl rfl rfl)
def sp_qbt (A:Adr):Sp:=fun vs H Q _=>∃ (N:List Addr) (p:Addr) (t:PX) (now:Nat),vs=[.ref p,.int ((now:Nat):Int)]∧TAt A N H p t∧Q (.bl (t.endCome now)) H
theorem ok_qbt (T:Txt K mg A):FnOk P w K mg base CX0 1 A.f_qbt A.v_qbt ["self","now"] (sp_qbt A):=by
  refine T.d_qbt.fn.ok sc_qbt (fun vs H Q E h=>?_) (fun cdv A' outer s H vs Q E hr h=>?_)
  · obtain ⟨N,p,t,now,rfl,_⟩:=h
    rfl
  · obtain ⟨N,p,t,now,rfl,hT,k⟩:=h
    have TC:=T.tx (isTx A t.ask)
    refine ⟨_,(pss_one
 (ps_ret (pe_and (pe_cmpR op_notN (pe_fld (pv 0) rfl) pe_non (nomark _)) (pe_one (pe_cmpR op_le (pe_fld (pv 0) rfl) (pv 1) (nomark _)))))),?_⟩
    obtain ⟨dx,q,ls,e,a1,a2⟩:=hT.ex
    refine ⟨_,rfl,p,_,dx,_,_,rfl,e,TC.cl,TC.n_end_at,tf_end_at,rfl,_,rfl,?_⟩
    unfold PX.endCome at k
    cases en:t.en with
    | none =>
      rw [en] at k
      exact iteF k
    | some n =>
      rw [en] at k e
      exact iteT ⟨_,rfl,p,_,dx,_,_,rfl,e,TC.cl,TC.n_end_at,tf_end_at,_,rfl,_,_,rfl,rfl,Qb k (dle n now).symm⟩
def sp_qbs (A:Adr):Sp:=fun vs H Q _=>∃ (N:List Addr) (p:Addr) (t:PX) (now:Nat),vs=[.ref p,.int ((now:Nat):Int)]∧TAt A N H p t∧Q (.bl (t.againCome now)) H
theorem ok_qbs (T:Txt K mg A):FnOk P w K mg base CX0 1 A.f_qbs A.v_qbs ["self","now"] (sp_qbs A):=by
  refine T.d_qbs.fn.ok sc_qbs (fun vs H Q E h=>?_) (fun cdv A' outer s H vs Q E hr h=>?_)
  · obtain ⟨N,p,t,now,rfl,_⟩:=h
    rfl
  · obtain ⟨N,p,t,now,rfl,hT,k⟩:=h
    have TC:=T.tx (isTx A t.ask)
    refine ⟨_,(pss_one
 (ps_ret (pe_and (pe_cmpR op_notN (pe_fld (pv 0) rfl) pe_non (nomark _)) (pe_one (pe_cmpR op_le (pe_fld (pv 0) rfl) (pv 1) (nomark _)))))),?_⟩
    obtain ⟨dx,q,ls,e,a1,a2⟩:=hT.ex
    refine ⟨_,rfl,p,_,dx,_,_,rfl,e,TC.cl,TC.n_again_at,tf_again_at,rfl,_,rfl,?_⟩
    unfold PX.againCome at k
    cases en:t.ag with
    | none =>
      rw [en] at k
      exact iteF k
    | some n =>
      rw [en] at k e
      exact iteT ⟨_,rfl,p,_,dx,_,_,rfl,e,TC.cl,TC.n_again_at,tf_again_at,_,rfl,_,_,rfl,rfl,Qb k (dle n now).symm⟩
theorem RepAt.mut {A:Adr} {N:List Addr} {H:Hp} {r l:Addr} {outs:List Ql47.Out} (T:Txt K mg A) (h:RepAt A H r l outs) (hl:l∈N):MutOk A N H [r,l]:=fun x hx=>by
  obtain ⟨dx,e⟩:=h.ob
  have:x=r∨x=l:=by simpa using hx
  rcases this with rfl | rfl
  · exact .inr ⟨_,_,_,e,T.nm_Report⟩
  · exact .inl ⟨hl,_,h.lst⟩
theorem TAt.apart {A:Adr} {N:List Addr} {H:Hp} {p r l:Addr} {t:PX} {outs:List Ql47.Out} (hT:TAt A N H p t) (hR:RepAt A H r l outs):p ∉ [r,l]:=fun hx=>by
  obtain ⟨dx,q,ls,e,_⟩:=hT.ex
  obtain ⟨dx',e'⟩:=hR.ob
  have:p=r∨p=l:=by simpa using hx
  rcases this with rfl | rfl
  · rw [e] at e'
    injection e' with e'
    injection e' with _ _ e'
    injection e' with e' _
    injection e' with e' _
    exact absurd e' (by decide +kernel)
  · rw [hR.lst] at e
    cases e
def sp_qbz (A:Adr):Sp:=fun vs H Q _=>∃ (N:List Addr) (p r l:Addr) (t:PX) (outs:List Ql47.Out),vs=[.ref p,.ref r]∧TAt A N H p t∧RepAt A H r l outs∧l∈N∧outs.length < 200∧∀ H',Keep [r,l] H H'→TAt A N H' p t→RepAt A H' r l (outs++[.wire t.id t.sent])→Q .non H'
theorem ok_qbz (T:Txt K mg A):FnOk P w K mg base CX0 2 A.f_qbz A.v_qbz ["self","report"] (sp_qbz A):=by
  refine T.d_qbz.fn.ok sc_qbz (fun vs H Q E h=>?_) (fun cdv A' outer s H vs Q E hr h=>?_)
  · obtain ⟨N,p,r,l,t,outs,rfl,_⟩:=h
    rfl
  · obtain ⟨N,p,r,l,t,outs,rfl,hT,hR,hl,hn,k⟩:=h
    have TC:=T.tx (isTx A t.ask)
    refine ⟨_,(pss_one
 (ps_expr (pe_meth (pv 1) T.cl_Report T.d_qbp.me (ok_qbp T) (hr.mono (by decide)) T.d_qbp.bd .nil pass0 (pa_cons (pgi T.g_SENT) (pa_cons (pe_fld (pv 0) rfl) (pa_cons (pe_fld (pv 0) rfl) pa_nil)))))),?_⟩
    obtain ⟨dx,q,ls,e,a1,a2⟩:=hT.ex
    obtain ⟨dr,er⟩:=hR.ob
    refine ⟨_,rfl,r,dr,_,rfl,er,rp_add,_,rfl,p,_,dx,_,_,rfl,e,TC.cl,TC.n_number,tf_number,_,rfl,p,_,dx,_,_,rfl,e,TC.cl,TC.n_last_sent,tf_last_sent,r,l,ls,outs,t.sent,_,_,.wire t.id t.sent,rfl,hR,a2.1,fun z=>a2.2 (by rw [z]; exact hl),hn,hT.b1,rfl,fun H' kp hR'=>?_⟩
    exact k H' kp (hT.keep kp (hR.mut T hl) (hT.apart hR)) hR'
def sp_qby (A:Adr):Sp:=fun vs H Q _=>∃ (N:List Addr) (p a r l:Addr) (t:PX) (b:Bt) (outs:List Ql47.Out),vs=[.ref p,.ref a,.ref r]∧TAt A N H p t∧BF (Imm N) H a b∧b.length≤BM∧RepAt A H r l outs∧l∈N∧outs.length < 200∧∀ H',Keep [p,r,l] H H'→TAt A N H' p { t with sent:=b }→RepAt A H' r l (outs++[.wire t.id b])→Q .non H'
theorem ok_qby (T:Txt K mg A):FnOk P w K mg base CX0 3 A.f_qby A.v_qby ["self","octets","report"] (sp_qby A):=by
  refine T.d_qby.fn.ok sc_qby (fun vs H Q E h=>?_) (fun cdv A' outer s H vs Q E hr h=>?_)
  · obtain ⟨N,p,a,r,l,t,b,outs,rfl,_⟩:=h
    rfl
  · obtain ⟨N,p,a,r,l,t,b,outs,rfl,hT,hB,hb,hR,hl,hn,k⟩:=h
    have TC:=T.tx (isTx A t.ask)
    refine ⟨_,(pss_cons
 (ps_fld (pv 0) (pv 1) rfl)
 (pss_one
 (ps_expr (pe_meth (pv 0) TC.cl TC.m_send_again (ok_qbz T) (hr.mono (by decide)) T.d_qbz.bd .nil pass0 (pa_cons (pv 2) pa_nil))))),?_⟩
    obtain ⟨dx,q,ls,e,a1,a2⟩:=hT.ex
    refine ⟨_,rfl,_,rfl,p,_,dx,_,rfl,e,TC.cl,TC.n_last_sent,tf_lt,?_⟩
    rw [tp_last_sent]
    have hT1:=TAt.set (pt:=t) (pt':={ t with sent:=b }) (ls':=a) (q:=q) T e a1 hB hb rfl rfl rfl
    have ap:=hT.apart hR
    have k1:Keep [p] H (upd H p (.ins (clsA A t.ask) dx (txF t.id q t.st a t.w t.ag t.en t.ov))):=(Keep.refl _ H).upd (by simp)
    have hR1:=hR.keep k1 (fun z=>ap (by simp at z; rw [z]; simp)) (fun z=>ap (by simp at z; rw [z]; simp))
    obtain ⟨dx1,q1,ls1,e1,_⟩:=hT1.ex
    refine ⟨_,rfl,p,dx1,_,rfl,e1,tf_no _ (by decide +kernel),_,rfl,N,p,r,l,{ t with sent:=b },outs,rfl,hT1,hR1,hl,hn,fun H' kp hT' hR'=>?_⟩
    exact k H' ((k1.mono (by simp)).trans (kp.mono (by simp))) hT' hR'
def sp_qce (A:Adr):Sp:=fun vs H Q _=>∃ (N:List Addr) (p q r l:Addr) (t:PX) (m:Ql47.Msg) (b:Bt) (outs:List Ql47.Out),vs=[.ref p,.ref q,.ref r]∧TAt A N H p t∧MsgIm A N H q m b∧b.length≤BM∧RepAt A H r l outs∧l∈N∧outs.length < 200∧∀ H',Keep [r,l] H H'→TAt A N H' p t→MsgIm A N H' q m b→RepAt A H' r l (outs++[.user t.id b])→Q .non H'
theorem ok_qce (T:Txt K mg A):FnOk P w K mg base CX0 2 A.f_qce A.v_qce ["self","message","report"] (sp_qce A):=by
  refine T.d_qce.fn.ok sc_qce (fun vs H Q E h=>?_) (fun cdv A' outer s H vs Q E hr h=>?_)
  · obtain ⟨N,p,q,r,l,t,m,b,outs,rfl,_⟩:=h
    rfl
  · obtain ⟨N,p,q,r,l,t,m,b,outs,rfl,hT,hM,hb,hR,hl,hn,k⟩:=h
    have TC:=T.tx (isTx A t.ask)
    refine ⟨_,(pss_one
 (ps_expr (pe_meth (pv 2) T.cl_Report T.d_qbp.me (ok_qbp T) (hr.mono (by decide)) T.d_qbp.bd .nil pass0 (pa_cons (pgi T.g_TOLD) (pa_cons (pe_fld (pv 0) rfl) (pa_cons (pe_fld (pv 1) rfl) pa_nil)))))),?_⟩
    obtain ⟨dx,q',ls,e,a1,a2⟩:=hT.ex
    obtain ⟨dr,er⟩:=hR.ob
    obtain ⟨o,hM',ho⟩:=hM.ex
    obtain ⟨dm,u,vi,sn,tg,cn,bw,br,me,em,_⟩:=hM'.ex
    have mo:=hR.mut T hl
    refine ⟨_,rfl,r,dr,_,rfl,er,rp_add,_,rfl,p,_,dx,_,_,rfl,e,TC.cl,TC.n_number,tf_number,_,rfl,q,_,dm,_,_,rfl,em,T.cl_Message,T.n_Message_octets,mf_octets,r,l,o,outs,b,_,_,.user t.id b,rfl,hR,hM'.oct,fun z=>ho (by rw [z]; exact hl),hn,hb,rfl,fun H' kp hR'=>?_⟩
    exact k H' kp (hT.keep kp mo (hT.apart hR)) (hM.keep kp mo) hR'
theorem name_inv:NameIs "INVITE" "INVITE":=⟨by decide +kernel,by decide +kernel,by decide +kernel⟩
theorem name_ack:NameIs "ACK" "ACK":=⟨by decide +kernel,by decide +kernel,by decide +kernel⟩
def sp_qbv (A:Adr):Sp:=fun vs H Q _=>∃ (N:List Addr) (p:Addr) (t:PX),vs=[.ref p]∧TAt A N H p t∧Ret H Q (.bl t.inv)
theorem ok_qbv (T:Txt K mg A):FnOk P w K mg base CX0 3 A.f_qbv A.v_qbv ["self"] (sp_qbv A):=by
  refine T.d_qbv.fn.ok sc_qbv (fun vs H Q E h=>?_) (fun cdv A' outer s H vs Q E hr h=>?_)
  · obtain ⟨N,p,t,rfl,_⟩:=h
    rfl
  · obtain ⟨N,p,t,rfl,hT,k⟩:=h
    have TC:=T.tx (isTx A t.ask)
    refine ⟨_,(pss_one
 (ps_ret (pe_meth (pe_fld (pv 0) rfl) T.cl_Message T.d_qbi.me (ok_qbi T) (hr.mono (by decide)) T.d_qbi.bd .nil pass0 (pa_cons pe_str pa_nil)))),?_⟩
    obtain ⟨dx,q,ls,e,a1,a2⟩:=hT.ex
    obtain ⟨o,hM',ho⟩:=a1.ex
    obtain ⟨dm,u,vi,sn,tg,cn,bw,br,me,em,_⟩:=hM'.ex
    exact ⟨_,rfl,p,_,dx,_,_,rfl,e,TC.cl,TC.n_request,tf_request,q,dm,_,rfl,em,mf_has_method,_,q,o,t.req,t.roct,_,"INVITE",rfl,name_inv,hM',k⟩
def sp_qbw (A:Adr):Sp:=fun vs H Q _=>∃ (N:List Addr) (p:Addr) (t:PX),vs=[.ref p]∧TAt A N H p t∧Q (.bl t.early) H
theorem int_dec (a b:Nat):decide (V.int ((a:Nat):Int)=V.int ((b:Nat):Int))=decide (a=b):=by
  by_cases h:a=b
  · rw [h]; simp
  · rw [decide_eq_false h,decide_eq_false]
    intro z
    injection z with z
    exact h (by omega)
theorem ok_qbw (T:Txt K mg A):FnOk P w K mg base CX0 1 A.f_qbw A.v_qbw ["self"] (sp_qbw A):=by
  refine T.d_qbw.fn.ok sc_qbw (fun vs H Q E h=>?_) (fun cdv A' outer s H vs Q E hr h=>?_)
  · obtain ⟨N,p,t,rfl,_⟩:=h
    rfl
  · obtain ⟨N,p,t,rfl,hT,k⟩:=h
    have TC:=T.tx (isTx A t.ask)
    refine ⟨_,(pss_one
 (ps_ret (pe_or (pe_cmpR op_eq (pe_fld (pv 0) rfl) (pgi T.g_TRYING) (nomark _)) (pe_one (pe_cmpR op_eq (pe_fld (pv 0) rfl) (pgi T.g_PROCEEDING) (nomark _)))))),?_⟩
    obtain ⟨dx,q,ls,e,a1,a2⟩:=hT.ex
    refine ⟨_,rfl,p,_,dx,_,_,rfl,e,TC.cl,TC.n_state,tf_state,rfl,_,rfl,?_⟩
    have e0:=int_dec t.st 0
    have e1:=int_dec t.st 1
    unfold PX.early at k
    refine ite2 (fun h=>Qb k ?_) fun h=>⟨_,rfl,p,_,dx,_,_,rfl,e,TC.cl,TC.n_state,tf_state,rfl,Qb k ?_⟩
    · rw [← e0]
      rw [show decide (V.int ((t.st:Nat):Int)=V.int ((0:Nat):Int))=true from h,Bool.true_or]
    · rw [← e0,← e1]
      rw [show decide (V.int ((t.st:Nat):Int)=V.int ((0:Nat):Int))=false from nt h,Bool.false_or]
      rfl
end
end L2

namespace L2
open PySem PySem.Spec PyProof.Rows
def NOk (N:List Addr) (H:Hp):Prop:=∀ x∈N,∃ o,H x=some o
def newTx (ask:Bool) (id st:Nat) (m:Ql47.Msg) (b:Bt):PX:=⟨ask,id,st,0,none,none,false,[],m,b⟩
section
variable {P:Program} {w:World} {K:PySem.W.Frag} {mg:Str→Option Value} {base:Heap} {A:Adr}
def sp_qbu (A:Adr):Sp:=fun vs H Q _=>∃ (N:List Addr) (ask:Bool) (p dx q:Addr) (id st:Nat) (m:Ql47.Msg) (b:Bt),vs=[.ref p,.int ((id:Nat):Int),.ref q,.int ((st:Nat):Int)]∧H p=some (.ins (clsA A ask) dx [])∧NOk N H∧MsgIm A N H q m b∧∀ H',SameX p H H'→TAt A N H' p (newTx ask id st m b)→Q .non H'
theorem ok_qbu (T:Txt K mg A):FnOk P w K mg base CX0 1 A.f_qbu A.v_qbu ["self","number","request","state"] (sp_qbu A):=by
  refine T.d_qbu.fn.ok sc_qbu (fun vs H Q E h=>?_) (fun cdv A' outer s H vs Q E hr h=>?_)
  · obtain ⟨N,ask,p,dx,q,id,st,m,b,rfl,_⟩:=h
    rfl
  · obtain ⟨N,ask,p,dx,q,id,st,m,b,rfl,e,hN,hM,k⟩:=h
    have TC:=T.tx (isTx A ask)
    refine ⟨_,(pss_cons
 (ps_fld (pv 0) (pv 1) rfl)
 (pss_cons
 (ps_fld (pv 0) (pv 2) rfl)
 (pss_cons
 (ps_fld (pv 0) (pv 3) rfl)
 (pss_cons
 (ps_fld (pv 0) (pe_lst pa_nil) rfl)
 (pss_cons
 (ps_fld (pv 0) pe_int rfl)
 (pss_cons
 (ps_fld (pv 0) pe_non rfl)
 (pss_cons
 (ps_fld (pv 0) pe_non rfl)
 (pss_one
 (ps_fld (pv 0) pe_bl rfl))))))))),?_⟩
    refine ⟨_,rfl,_,rfl,p,_,dx,_,rfl,e,TC.cl,TC.n_number,lt1000 nil_len (by decide),?_⟩
    refine ⟨_,rfl,_,rfl,p,_,dx,_,rfl,upd_same,TC.cl,TC.n_request,lt1000 (pf_len nil_len) (by decide),?_⟩
    rw [upd_upd]
    refine ⟨_,rfl,_,rfl,p,_,dx,_,rfl,upd_same,TC.cl,TC.n_state,lt1000 (pf_len (pf_len nil_len)) (by decide),?_⟩
    rw [upd_upd]
    refine ⟨(by show 0≤sizeLine; decide),fun l hl=>?_⟩
    have npl:p≠l:=ne_of_none upd_same hl
    have hl0:H l=none:=by rw [upd_ne npl.symm] at hl; exact hl
    refine ⟨_,rfl,p,_,dx,_,rfl,(by rw [upd_ne npl]; exact upd_same),TC.cl,TC.n_last_sent,lt1000 (pf_len (pf_len (pf_len nil_len))) (by decide),?_⟩
    refine ⟨_,rfl,p,_,dx,_,rfl,upd_same,TC.cl,TC.n_wait,lt1000 (pf_len (pf_len (pf_len (pf_len nil_len)))) (by decide),?_⟩
    rw [upd_upd]
    refine ⟨_,rfl,p,_,dx,_,rfl,upd_same,TC.cl,TC.n_again_at,lt1000 (pf_len (pf_len (pf_len (pf_len (pf_len nil_len))))) (by decide),?_⟩
    rw [upd_upd]
    refine ⟨_,rfl,p,_,dx,_,rfl,upd_same,TC.cl,TC.n_end_at,lt1000 (pf_len (pf_len (pf_len (pf_len (pf_len (pf_len nil_len)))))) (by decide),?_⟩
    rw [upd_upd]
    refine ⟨_,rfl,p,_,dx,_,rfl,upd_same,TC.cl,TC.n_over,lt1000 (pf_len (pf_len (pf_len (pf_len (pf_len (pf_len (pf_len nil_len))))))) (by decide),?_⟩
    rw [upd_upd]
    generalize hF:putF "over" (V.bl false) _=F
    generalize hG:upd H p _=G
    have eF:F=txF id q st l 0 none none false:=by rw [← hF]; kernel_rfl
    subst eF
    have sx:SameX p H (upd (upd G l (.lst [])) p (.ins (clsA A ask) dx (txF id q st l 0 none none false))):=fun b' o eb nb=>by
      rw [upd_ne nb,upd_ne (ne_of_none eb hl0),← hG,upd_ne nb]
      exact eb
    have mo:MutOk A N H [p]:=fun x hx=>by
      have:x=p:=by simpa using hx
      subst this
      exact .inr ⟨_,_,_,e,clsA_ne T _⟩
    refine k _ sx ⟨⟨dx,q,l,upd_same,hM.keep (Keep.ofX sx (by simp)) mo,⟨?_,Nat.zero_le _⟩,fun hx=>?_⟩,Nat.zero_le _⟩
    · rw [upd_ne npl.symm,upd_same]
      rfl
    · obtain ⟨o,ho⟩:=hN l hx
      rw [hl0] at ho
      cases ho
def sp_next_wait (A:Adr) (ask:Bool):Sp:=fun vs H Q _=>∃ (N:List Addr) (p:Addr) (t:PX),vs=[.ref p]∧t.ask=ask∧TAt A N H p t∧Ret H Q (.int ((t.nextWait:Nat):Int))
theorem mul2 {j:Int}:CMul 2 j:=.inl ⟨by decide,by decide⟩
theorem min_nat (n:Nat):(if (4000:Int) < 2 * ((n:Nat):Int) then (4000:Int) else 2 * ((n:Nat):Int))=((min (2 * n) 4000:Nat):Int):=by
  by_cases h:(4000:Int) < 2 * ((n:Nat):Int)
  · rw [if_pos h]; omega
  · rw [if_neg h]; omega
theorem ok_qaf (T:Txt K mg A):FnOk P w K mg base CX0 1 A.f_qaf A.v_qaf ["self"] (sp_next_wait A false):=by
  refine T.d_qaf.fn.ok sc_qaf (fun vs H Q E h=>?_) (fun cdv A' outer s H vs Q E hr h=>?_)
  · obtain ⟨N,p,t,rfl,_⟩:=h
    rfl
  · obtain ⟨N,p,t,rfl,hk,hT,k⟩:=h
    have TC:=T.tx (isTx A t.ask)
    refine ⟨_,(pss_one
 (ps_ret (pe_callB (call_min2 rfl) (by rfl) T.b_min bt_min (pa_cons (pe_op op_mul pe_int (pe_fld (pv 0) rfl)) (pa_cons (pgi T.g_LONGEST_WAIT) pa_nil))))),?_⟩
    obtain ⟨dx,q,ls,e,a1,a2⟩:=hT.ex
    refine ⟨_,rfl,p,_,dx,_,_,rfl,e,TC.cl,TC.n_wait,tf_wait,_,_,rfl,rfl,mul2,_,_,rfl,?_⟩
    refine Qv (k _ (Same.refl H)) ?_
    unfold PX.nextWait
    rw [hk,if_neg (by decide),← min_nat]
theorem ok_qap (T:Txt K mg A):FnOk P w K mg base CX0 4 A.f_qap A.v_qap ["self"] (sp_next_wait A true):=by
  refine T.d_qap.fn.ok sc_qap (fun vs H Q E h=>?_) (fun cdv A' outer s H vs Q E hr h=>?_)
  · obtain ⟨N,p,t,rfl,_⟩:=h
    rfl
  · obtain ⟨N,p,t,rfl,hk,hT,k⟩:=h
    have TC:=T.tx (isTx A t.ask)
    refine ⟨_,(pss_cons
 (ps_if (pt_val (pe_meth0 (pv 0) T.tx_Asking.cl T.tx_Asking.m_invites (ok_qbv T) (hr.mono (by decide)) T.d_qbv.bd .nil pass0))
 (pss_one
 (ps_ret (pe_op op_mul pe_int (pe_fld (pv 0) rfl))))
 pss_nil)
 (pss_cons
 (ps_if (pt_cmpR op_eq (pe_fld (pv 0) rfl) (pgi T.g_PROCEEDING) (nomark _))
 (pss_one
 (ps_ret (pgi T.g_LONGEST_WAIT)))
 pss_nil)
 (pss_one
 (ps_ret (pe_callB (call_min2 rfl) (by rfl) T.b_min bt_min (pa_cons (pe_op op_mul pe_int (pe_fld (pv 0) rfl)) (pa_cons (pgi T.g_LONGEST_WAIT) pa_nil))))))),?_⟩
    obtain ⟨dx,q,ls,e,a1,a2⟩:=hT.ex
    have e':=e
    rw [hk] at e'
    refine ⟨_,rfl,p,dx,_,rfl,e',tf_no _ (by decide +kernel),N,p,t,rfl,hT,fun H1 s1=>?_⟩
    have e1:=s1 _ _ e
    have k1:=fun H' (s:Same H1 H')=>k H' (s1.trans s)
    unfold PX.nextWait at k1
    rw [hk,if_pos rfl] at k1
    refine ⟨_,rfl,?_⟩
    cases hi:t.inv with
    | true =>
      rw [hi,if_pos rfl] at k1
      refine iteT ⟨_,rfl,p,_,dx,_,_,rfl,e1,TC.cl,TC.n_wait,tf_wait,_,_,rfl,rfl,mul2,?_⟩
      exact k1 _ (Same.refl _)
    | false =>
      rw [hi,if_neg (by decide)] at k1
      refine iteF ⟨_,rfl,p,_,dx,_,_,rfl,e1,TC.cl,TC.n_state,tf_state,rfl,_,rfl,?_⟩
      have e2:=int_dec t.st 1
      refine ite2 (fun h=>?_) fun h=>⟨_,rfl,p,_,dx,_,_,rfl,e1,TC.cl,TC.n_wait,tf_wait,_,_,rfl,rfl,mul2,_,_,rfl,?_⟩
      · rw [if_pos (of_decide_eq_true (e2 ▸ h))] at k1
        exact k1 _ (Same.refl _)
      · rw [if_neg fun z=>h (e2.trans (decide_eq_true z)),← min_nat] at k1
        exact k1 _ (Same.refl _)
def sp_lost (A:Adr) (ask:Bool):Sp:=fun vs H Q _=>∃ (N:List Addr) (p:Addr) (t:PX),vs=[.ref p]∧t.ask=ask∧TAt A N H p t∧Ret H Q (.bl t.lostEnd)
theorem ok_qao (T:Txt K mg A):FnOk P w K mg base CX0 2 A.f_qao A.v_qao ["self"] (sp_lost A true):=by
  refine T.d_qao.fn.ok sc_qao (fun vs H Q E h=>?_) (fun cdv A' outer s H vs Q E hr h=>?_)
  · obtain ⟨N,p,t,rfl,_⟩:=h
    rfl
  · obtain ⟨N,p,t,rfl,hk,hT,k⟩:=h
    refine ⟨_,(pss_one
 (ps_ret (pe_meth0 (pv 0) T.tx_Asking.cl T.tx_Asking.m_is_early (ok_qbw T) (hr.mono (by decide)) T.d_qbw.bd .nil pass0))),?_⟩
    obtain ⟨dx,q,ls,e,a1,a2⟩:=hT.ex
    rw [hk] at e
    refine ⟨_,rfl,p,dx,_,rfl,e,tf_no _ (by decide +kernel),N,p,t,rfl,hT,?_⟩
    have k1:=k H (Same.refl H)
    unfold PX.lostEnd at k1
    rw [hk,if_pos rfl] at k1
    exact k1
theorem ok_qae (T:Txt K mg A):FnOk P w K mg base CX0 4 A.f_qae A.v_qae ["self"] (sp_lost A false):=by
  refine T.d_qae.fn.ok sc_qae (fun vs H Q E h=>?_) (fun cdv A' outer s H vs Q E hr h=>?_)
  · obtain ⟨N,p,t,rfl,_⟩:=h
    rfl
  · obtain ⟨N,p,t,rfl,hk,hT,k⟩:=h
    have TC:=T.tx (isTx A t.ask)
    refine ⟨_,(pss_one
 (ps_ret (pe_and (pe_meth0 (pv 0) T.tx_Answering.cl T.tx_Answering.m_invites (ok_qbv T) (hr.mono (by decide)) T.d_qbv.bd .nil pass0) (pe_one (pe_cmpR op_eq (pe_fld (pv 0) rfl) (pgi T.g_COMPLETED) (nomark _)))))),?_⟩
    obtain ⟨dx,q,ls,e,a1,a2⟩:=hT.ex
    have e':=e
    rw [hk] at e'
    refine ⟨_,rfl,p,dx,_,rfl,e',tf_no _ (by decide +kernel),N,p,t,rfl,hT,fun H1 s1=>⟨_,rfl,?_⟩⟩
    have e1:=s1 _ _ e
    have k1:=k H1 s1
    unfold PX.lostEnd at k1
    rw [hk,if_neg (by decide)] at k1
    cases hi:t.inv with
    | false =>
      rw [hi,Bool.false_and] at k1
      exact iteF k1
    | true =>
      rw [hi,Bool.true_and,← int_dec] at k1
      exact iteT ⟨_,rfl,p,_,dx,_,_,rfl,e1,TC.cl,TC.n_state,tf_state,rfl,k1⟩
structure SubM (P:Program) (w:World) (K:PySem.W.Frag) (mg:Str→Option Value) (base:Heap) (A:Adr) (ask:Bool) (m:Str) (sp:Sp):Prop where
  ex:∃ f fd,Meth K (clsA A ask) m f∧Binds K fd ["self"] []∧FnOk P w K mg base CX0 4 f fd ["self"] sp
theorem sub_next_wait (T:Txt K mg A) (ask:Bool):SubM P w K mg base A ask "next_wait" (sp_next_wait A ask):=by
  cases ask
  · exact ⟨_,_,T.d_qaf.me,T.d_qaf.bd,(ok_qaf T).mono (by decide)⟩
  · exact ⟨_,_,T.d_qap.me,T.d_qap.bd,(ok_qap T).mono (by decide)⟩
theorem sub_is_lost_at_end (T:Txt K mg A) (ask:Bool):SubM P w K mg base A ask "is_lost_at_end" (sp_lost A ask):=by
  cases ask
  · exact ⟨_,_,T.d_qae.me,T.d_qae.bd,(ok_qae T).mono (by decide)⟩
  · exact ⟨_,_,T.d_qao.me,T.d_qao.bd,(ok_qao T).mono (by decide)⟩
def sp_qbx (A:Adr):Sp:=fun vs H Q _=>∃ (N:List Addr) (p r l:Addr) (t:PX) (now:Nat) (outs:List Ql47.Out),vs=[.ref p,.int ((now:Nat):Int),.ref r]∧TAt A N H p t∧RepAt A H r l outs∧l∈N∧outs.length < 200∧∀ H',Keep [p,r,l] H H'→TAt A N H' p (t.runT now).1→RepAt A H' r l (outs++(t.runT now).2)→Q .non H'
theorem ok_qbx (T:Txt K mg A):FnOk P w K mg base CX0 5 A.f_qbx A.v_qbx ["self","now","report"] (sp_qbx A):=by
  refine T.d_qbx.fn.ok sc_qbx (fun vs H Q E h=>?_) (fun cdv A' outer s H vs Q E hr h=>?_)
  · obtain ⟨N,p,r,l,t,now,outs,rfl,_⟩:=h
    rfl
  · obtain ⟨N,p,r,l,t,now,outs,rfl,hT,hR,hl,hn,k⟩:=h
    have TC:=T.tx (isTx A t.ask)
    obtain ⟨f1,fd1,me1,bd_SUB_next_wait,ok_SUB_next_wait⟩:=(sub_next_wait (P:=P) (w:=w) (base:=base) T t.ask).ex
    obtain ⟨f2,fd2,me2,bd_SUB_is_lost_at_end,ok_SUB_is_lost_at_end⟩:=(sub_is_lost_at_end (P:=P) (w:=w) (base:=base) T t.ask).ex
    refine ⟨_,(pss_one
 (ps_if (pt_val (pe_meth (pv 0) TC.cl TC.m_end_has_come (ok_qbt T) (hr.mono (by decide)) T.d_qbt.bd .nil pass0 (pa_cons (pv 1) pa_nil)))
 (pss_cons
 (ps_fld (pv 0) pe_bl rfl)
 (pss_one
 (ps_if (pt_val (pe_meth0 (pv 0) TC.cl me2 ok_SUB_is_lost_at_end (hr.mono (by decide)) bd_SUB_is_lost_at_end .nil pass0))
 (pss_one
 (ps_expr (pe_meth (pv 2) T.cl_Report T.d_qbp.me (ok_qbp T) (hr.mono (by decide)) T.d_qbp.bd .nil pass0 (pa_cons (pgi T.g_LOST) (pa_cons (pe_fld (pv 0) rfl) (pa_cons (pe_lst pa_nil) pa_nil))))))
 pss_nil)))
 (pss_one
 (ps_if (pt_val (pe_meth (pv 0) TC.cl TC.m_again_has_come (ok_qbs T) (hr.mono (by decide)) T.d_qbs.bd .nil pass0 (pa_cons (pv 1) pa_nil)))
 (pss_cons
 (ps_expr (pe_meth (pv 0) TC.cl TC.m_send_again (ok_qbz T) (hr.mono (by decide)) T.d_qbz.bd .nil pass0 (pa_cons (pv 2) pa_nil)))
 (pss_one
 (ps_expr (pe_meth (pv 0) TC.cl TC.m_start_again (ok_qca T) (hr.mono (by decide)) T.d_qca.bd .nil pass0 (pa_cons (pv 1) (pa_cons (pe_meth0 (pv 0) TC.cl me1 ok_SUB_next_wait (hr.mono (by decide)) bd_SUB_next_wait .nil pass0) pa_nil))))))
 pss_nil)))),?_⟩
    obtain ⟨dx,q,ls,e,a1,a2⟩:=hT.ex
    have ap:=hT.apart hR
    refine ⟨_,rfl,p,dx,_,rfl,e,tf_no _ (by decide +kernel),_,rfl,N,p,t,now,rfl,hT,_,rfl,?_⟩
    unfold PX.runT at k
    cases hc:t.endCome now with
    | true =>
      rw [hc,if_pos rfl] at k
      refine iteT ⟨_,rfl,p,_,dx,_,rfl,e,TC.cl,TC.n_over,tf_lt,?_⟩
      rw [tp_over]
      have hT1:=TAt.set (pt:=t) (pt':={ t with ov:=true }) (ls':=ls) (q:=q) T e a1 a2 hT.b1 rfl rfl rfl
      have k1:Keep [p] H (upd H p (.ins (clsA A t.ask) dx (txF t.id q t.st ls t.w t.ag t.en true))):=(Keep.refl _ H).upd (by simp)
      have hR1:=hR.keep k1 (fun z=>ap (by simp at z; rw [z]; simp)) (fun z=>ap (by simp at z; rw [z]; simp))
      obtain ⟨dx1,q1,ls1,e1,_⟩:=hT1.ex
      refine ⟨_,rfl,p,dx1,_,rfl,e1,tf_no _ (by decide +kernel),N,p,{ t with ov:=true },rfl,rfl,hT1,fun H2 s2=>⟨_,rfl,?_⟩⟩
      have eL:({ t with ov:=true }:PX).lostEnd=t.lostEnd:=rfl
      rw [eL]
      have hR2:=hR1.same s2
      have hT2:=hT1.same s2
      cases hx:t.lostEnd with
      | false =>
        rw [hx,if_neg (by decide)] at k
        exact iteF (k H2 (((k1.mono (by simp)).trans (Keep.of s2))) hT2 (by rw [List.append_nil]; exact hR2))
      | true =>
        rw [hx,if_pos rfl] at k
        obtain ⟨dr,er⟩:=hR2.ob
        have e2:=s2 _ _ e1
        refine iteT ⟨_,rfl,r,dr,_,rfl,er,rp_add,_,rfl,p,_,dx1,_,_,rfl,e2,TC.cl,TC.n_number,tf_number,(by show 0≤sizeLine; decide),fun a ha=>?_⟩
        have s3:=Same.put0 (o:=.lst []) ha
        have hR3:=hR2.same s3
        refine ⟨r,l,a,outs,[],_,_,.timeout t.id,rfl,hR3,⟨upd_same,Nat.zero_le _⟩,(ne_of_none hR2.lst ha).symm,hn,Nat.zero_le _,rfl,fun H4 kp hR4=>?_⟩
        have hT3:=hT2.same s3
        have hT4:=hT3.keep kp (hR3.mut T hl) (hT3.apart hR3)
        exact k H4 ((((k1.mono (by simp)).trans (Keep.of s2)).trans (Keep.of s3)).trans (kp.mono (by simp))) hT4 hR4
    | false =>
      rw [hc,if_neg (by decide)] at k
      refine iteF ⟨_,rfl,p,dx,_,rfl,e,tf_no _ (by decide +kernel),_,rfl,N,p,t,now,rfl,hT,_,rfl,?_⟩
      cases hg:t.againCome now with
      | false =>
        rw [hg,if_neg (by decide)] at k
        exact iteF (k H (Keep.refl _ _) hT (by rw [List.append_nil]; exact hR))
      | true =>
        rw [hg,if_pos rfl] at k
        refine iteT ⟨_,rfl,p,dx,_,rfl,e,tf_no _ (by decide +kernel),_,rfl,N,p,r,l,t,outs,rfl,hT,hR,hl,hn,fun H1 kp1 hT1 hR1=>?_⟩
        obtain ⟨dx1,q1,ls1,e1,_⟩:=hT1.ex
        refine ⟨_,rfl,p,dx1,_,rfl,e1,tf_no _ (by decide +kernel),_,rfl,_,rfl,p,dx1,_,rfl,e1,tf_no _ (by decide +kernel),N,p,t,rfl,rfl,hT1,fun H2 s2=>?_⟩
        have hT2:=hT1.same s2
        have hR2:=hR1.same s2
        have ap2:=hT2.apart hR2
        refine ⟨N,p,t,now,t.nextWait,rfl,hT2,fun H3 sx hT3=>?_⟩
        have kx:Keep [p] H2 H3:=Keep.ofX sx (by simp)
        have hR3:=hR2.keep kx (fun z=>ap2 (by simp at z; rw [z]; simp)) (fun z=>ap2 (by simp at z; rw [z]; simp))
        exact k H3 (((kp1.mono (by simp)).trans (Keep.of s2)).trans (kx.mono (by simp))) hT3 hR3
end
end L2

namespace L2
open PySem PySem.Spec PyProof.Rows TL
theorem strB_tl (x:Str):strB x=(tl x).map fun n=>UInt8.ofNat n:=rfl
theorem strB_append (x y:Str):strB (x++y)=strB x++strB y:=by rw [strB_tl,tl_append,List.map_append]; rfl
theorem strB_ofString (s:String):strB (Str.ofString s)=Ql47.txt s:=by
  rw [strB_tl,tl_ofString,List.map_map]; rfl
theorem strB_num (n:Nat):strB (Str.ofString (toString ((n:Nat):Int)))=Ql47.decimal n:=by
  rw [strB_tl,show tl (Str.ofString (toString ((n:Nat):Int)))=(Nat.toDigits 10 n).map Char.toNat from PySem.W.KIN.signs_num n,List.map_map]; rfl
theorem num_all (n:Nat):(tl (Str.ofString (toString ((n:Nat):Int)))).all (· < 256)=true:=by
  rw [show tl (Str.ofString (toString ((n:Nat):Int)))=(Nat.toDigits 10 n).map Char.toNat from PySem.W.KIN.signs_num n,List.all_eq_true]
  intro x hx
  obtain ⟨c,hc,rfl⟩:=List.mem_map.mp hx
  have:=Nat.isDigit_of_mem_toDigits (by decide) (by decide) hc
  rw [Char.isDigit,Bool.and_eq_true] at this
  have h2:=of_decide_eq_true this.2
  have h3:c.val.toNat≤57:=UInt32.le_iff_toNat_le.mp h2
  have:c.toNat≤57:=h3
  exact decide_eq_true (by omega)
theorem num_len {n:Nat} (h:n < 2 ^ 31):(tl (Str.ofString (toString ((n:Nat):Int)))).length≤10:=by
  rw [show tl (Str.ofString (toString ((n:Nat):Int)))=(Nat.toDigits 10 n).map Char.toNat from PySem.W.KIN.signs_num n,List.length_map]
  exact (Nat.length_toDigits_le_iff (by decide) (by decide)).mpr (Nat.lt_of_lt_of_le h (by decide))
theorem catB {H:Hp} {Q:VK} {a c:Addr} {x y:Bt} (h1:IsB H a x) (h2:IsB H c y) (hz:x.length+y.length≤BIG) (k:RetB H Q (x++y)):rCat (.ref a) (.ref c) H Q:=by
  refine ⟨a,c,_,_,rfl,rfl,h1.at_,h2.at_,?_,fun p hp=>k p _ (Same.put0 hp) hp ⟨?_,by rw [List.length_append]; exact hz⟩⟩
  · rw [LB_length,LB_length]
    exact Nat.le_trans hz (by decide)
  · rw [upd_same]
    unfold LB
    rw [List.map_append]
theorem Paired.get' {α β:Type} {F:α→β→Prop}:∀ {l:List α} {m:List β},Paired F l m→∀ {i:Nat} {x:α},l[i]?=some x→∃ y,m[i]?=some y∧F x y
  | _,_,.nil,i,x,h=>by simp at h
  | _,_,.cons r t,0,x,h=>by simp at h; subst h; exact ⟨_,rfl,r⟩
  | _,_,.cons r t,i+1,x,h=>by
    obtain ⟨y,h1,h2⟩:=Paired.get' t (i:=i) (by simpa using h)
    exact ⟨y,by simpa using h1,h2⟩
def ackLines (q a:Ql47.Msg):List Bt:=[Ql47.txt "ACK "++uriOf q++Ql47.txt " SIP/2.0",Ql47.txt "Via: "++q.via,Ql47.txt "Max-Forwards: 70",Ql47.txt "From: "++q.from_,Ql47.txt "To: "++a.to,Ql47.txt "Call-ID: "++q.callId,Ql47.txt "CSeq: "++Ql47.decimal q.seq++Ql47.txt " ACK",Ql47.txt "Content-Length: 0",[]]
def joinC (l:List Bt):Bt:=l.flatMap fun x=>x++[13,10]
theorem ack_join (q a:Ql47.Msg):joinC (ackLines q a)=Ql47.ackOf q a:=by
  have u:uriOf q=(match q.first with
    | .request _ u=>u
    | .reply _=>[]):=rfl
  have e1:Ql47.txt "ACK "=Ql47.ACK++[32]:=by decide
  have e2:Ql47.txt " SIP/2.0"=32::Ql47.VERSION:=by decide
  have e3:Ql47.txt "Via: "=Ql47.txt "Via"++Ql47.txt ": ":=by decide
  have e4:Ql47.txt "Max-Forwards: 70"=Ql47.txt "Max-Forwards"++(Ql47.txt ": "++Ql47.txt "70"):=by decide
  have e5:Ql47.txt "From: "=Ql47.txt "From"++Ql47.txt ": ":=by decide
  have e6:Ql47.txt "To: "=Ql47.txt "To"++Ql47.txt ": ":=by decide
  have e7:Ql47.txt "Call-ID: "=Ql47.txt "Call-ID"++Ql47.txt ": ":=by decide
  have e8:Ql47.txt "CSeq: "=Ql47.txt "CSeq"++Ql47.txt ": ":=by decide
  have e9:Ql47.txt " ACK"=32::Ql47.ACK:=by decide
  have e10:Ql47.txt "Content-Length: 0"=Ql47.txt "Content-Length"++(Ql47.txt ": "++Ql47.txt "0"):=by decide
  unfold joinC ackLines Ql47.ackOf
  rw [e1,e2,e3,e4,e5,e6,e7,e8,e9,e10]
  show _=_++(_::(uriOf q++_))
  simp only [List.flatMap_cons,List.flatMap_nil,List.append_assoc,List.cons_append,List.nil_append,List.append_nil,Ql47.CRLF]
structure AckOk (q a:Ql47.Msg):Prop where
  len:(uriOf q).length+q.via.length+q.from_.length+a.to.length+q.callId.length≤45000
  sq:q.seq < 2 ^ 31
theorem dec_len {n:Nat} (h:n < 2 ^ 31):(Ql47.decimal n).length≤10:=by
  rw [← strB_num,strB_tl,List.length_map]
  exact num_len h
theorem ack_len {q a:Ql47.Msg} (h:AckOk q a):(Ql47.ackOf q a).length≤(uriOf q).length+q.via.length+q.from_.length+a.to.length+q.callId.length+130:=by
  rw [← ack_join]
  have:=dec_len h.sq
  unfold joinC ackLines
  have t1:(Ql47.txt "ACK ").length=4:=rfl
  have t2:(Ql47.txt " SIP/2.0").length=8:=rfl
  have t3:(Ql47.txt "Via: ").length=5:=rfl
  have t4:(Ql47.txt "Max-Forwards: 70").length=16:=rfl
  have t5:(Ql47.txt "From: ").length=6:=rfl
  have t6:(Ql47.txt "To: ").length=4:=rfl
  have t7:(Ql47.txt "Call-ID: ").length=9:=rfl
  have t8:(Ql47.txt "CSeq: ").length=6:=rfl
  have t9:(Ql47.txt " ACK").length=4:=rfl
  have t10:(Ql47.txt "Content-Length: 0").length=17:=rfl
  simp only [List.flatMap_cons,List.flatMap_nil,List.length_append,List.length_cons,List.length_nil,t1,t2,t3,t4,t5,t6,t7,t8,t9,t10]
  omega
section
variable {P:Program} {w:World} {K:PySem.W.Frag} {mg:Str→Option Value} {base:Heap} {A:Adr}
theorem seq_all (n:Nat):(tl (("CSeq: ":Str)++Str.ofString (toString ((n:Nat):Int))++(" ACK":Str))).all (· < 256)=true:=by
  rw [tl_append,tl_append,List.all_append,List.all_append,num_all]
  decide +kernel
theorem seq_len {n:Nat} (h:n < 2 ^ 31):(tl (("CSeq: ":Str)++Str.ofString (toString ((n:Nat):Int))++(" ACK":Str))).length≤20:=by
  have:=num_len h
  rw [tl_append,tl_append,List.length_append,List.length_append,show (tl ("CSeq: ":Str)).length=6 from by decide +kernel,show (tl (" ACK":Str)).length=4 from by decide +kernel]
  omega
theorem seq_eq (n:Nat):strB (("CSeq: ":Str)++Str.ofString (toString ((n:Nat):Int))++(" ACK":Str))=Ql47.txt "CSeq: "++Ql47.decimal n++Ql47.txt " ACK":=by
  rw [strB_append,strB_append,strB_num,strB_ofString,strB_ofString]
theorem seq_l1 {n:Nat} (h:n < 2 ^ 31):("CSeq: ":Str).length+(Str.ofString (toString ((n:Nat):Int))).length≤sizeLine:=by
  have:=num_len h
  rw [len_tl,len_tl,show (tl ("CSeq: ":Str)).length=6 from by decide +kernel]
  exact Nat.le_trans (Nat.add_le_add_left this 6) (by decide)
theorem seq_l2 {n:Nat} (h:n < 2 ^ 31):(("CSeq: ":Str)++Str.ofString (toString ((n:Nat):Int))).length+(" ACK":Str).length≤sizeLine:=by
  have:=num_len h
  rw [len_tl,len_tl,tl_append,List.length_append,show (tl ("CSeq: ":Str)).length=6 from by decide +kernel,show (tl (" ACK":Str)).length=4 from by decide +kernel]
  exact Nat.le_trans (Nat.add_le_add_right (Nat.add_le_add_left this 6) 4) (by decide)
theorem seq_log {n:Nat} (h:n < 2 ^ 31):((n:Nat):Int).natAbs.log2 < 1920:=by
  rw [Int.natAbs_natCast]
  by_cases c:n=0
  · subst c; decide
  · exact Nat.lt_of_lt_of_le ((Nat.log2_lt c).mpr h) (by decide)
def sp_qcf (A:Adr):Sp:=fun vs H Q _=>∃ (N:List Addr) (p q:Addr) (m m2:Ql47.Msg) (b b2:Bt),vs=[.ref p,.ref q]∧MsgIm A N H p m b∧MsgIm A N H q m2 b2∧AckOk m m2∧RetB H Q (Ql47.ackOf m m2)
theorem ok_qcf (T:Txt K mg A):FnOk P w K mg base CX0 2 A.f_qcf A.v_qcf ["request","reply"] (sp_qcf A):=by
  refine T.d_qcf.fn.ok sc_qcf (fun vs H Q E h=>?_) (fun cdv A' outer s H vs Q E hr h=>?_)
  · obtain ⟨N,p,q,m,m2,b,b2,rfl,_⟩:=h
    rfl
  · obtain ⟨N,p,q,m,m2,b,b2,rfl,hM,hM2,hA,k⟩:=h
    obtain ⟨o,hm,_⟩:=hM.ex
    obtain ⟨o2,hm2,_⟩:=hM2.ex
    obtain ⟨dx,u,vi,sn,tg,cn,bw,br,me,e,a1,a2,a3,_,a5,_⟩:=hm.ex
    obtain ⟨dx2,u2,vi2,sn2,tg2,cn2,bw2,br2,me2,e2,_,_,_,c4,_⟩:=hm2.ex
    have hlen:=hA.len
    have hBIG:BIG=1000000:=rfl
    refine ⟨_,(pss_cons
 (ps_set (i:=2) sc_qcf.nd rfl (by first | exact Or.inl rfl | exact Or.inr rfl) (pe_lst (pa_cons (pe_op op_cat (pe_op op_cat (pe_call (ok_qcu T) (hr.mono (by decide)) rfl T.d_qcu.at_ T.d_qcu.fn.kp T.d_qcu.bd .nil pass0 (pa_cons pe_str pa_nil)) (pe_fld (pv 0) rfl)) (pe_call (ok_qcu T) (hr.mono (by decide)) rfl T.d_qcu.at_ T.d_qcu.fn.kp T.d_qcu.bd .nil pass0 (pa_cons pe_str pa_nil))) (pa_cons (pe_op op_cat (pe_call (ok_qcu T) (hr.mono (by decide)) rfl T.d_qcu.at_ T.d_qcu.fn.kp T.d_qcu.bd .nil pass0 (pa_cons pe_str pa_nil)) (pe_fld (pv 0) rfl)) (pa_cons (pe_call (ok_qcu T) (hr.mono (by decide)) rfl T.d_qcu.at_ T.d_qcu.fn.kp T.d_qcu.bd .nil pass0 (pa_cons pe_str pa_nil)) (pa_cons (pe_op op_cat (pe_call (ok_qcu T) (hr.mono (by decide)) rfl T.d_qcu.at_ T.d_qcu.fn.kp T.d_qcu.bd .nil pass0 (pa_cons pe_str pa_nil)) (pe_fld (pv 0) rfl)) (pa_cons (pe_op op_cat (pe_call (ok_qcu T) (hr.mono (by decide)) rfl T.d_qcu.at_ T.d_qcu.fn.kp T.d_qcu.bd .nil pass0 (pa_cons pe_str pa_nil)) (pe_fld (pv 1) rfl)) (pa_cons (pe_op op_cat (pe_call (ok_qcu T) (hr.mono (by decide)) rfl T.d_qcu.at_ T.d_qcu.fn.kp T.d_qcu.bd .nil pass0 (pa_cons pe_str pa_nil)) (pe_fld (pv 0) rfl)) (pa_cons (pe_call (ok_qcu T) (hr.mono (by decide)) rfl T.d_qcu.at_ T.d_qcu.fn.kp T.d_qcu.bd .nil pass0 (pa_cons (pe_op op_add_str (pe_op op_add_str pe_str (pe_callTy call_str_int (by rfl) T.b_str bt_str (pa_cons (pe_fld (pv 0) rfl) pa_nil))) pe_str) pa_nil)) (pa_cons (pe_call (ok_qcu T) (hr.mono (by decide)) rfl T.d_qcu.at_ T.d_qcu.fn.kp T.d_qcu.bd .nil pass0 (pa_cons pe_str pa_nil)) (pa_cons (pe_lst pa_nil) pa_nil)))))))))))
 (pss_cons
 (ps_set (i:=3) sc_qcf.nd rfl (by first | exact Or.inl rfl | exact Or.inr rfl) (pe_lst pa_nil))
 (pss_cons
 (ps_for PassesOwn.never rfl (pi_list (pv 2)) (pg_name (i:=4) sc_qcf.nd rfl (Or.inl rfl))
 (pss_cons
 (ps_expr (pe_bm PySem.F.plainAttrs_list PySem.F.slot_list_extend PySem.F.type_list_extend mt_extend (pv 3) (pa_cons (pv 4) pa_nil)))
 (pss_one
 (ps_expr (pe_bm PySem.F.plainAttrs_list PySem.F.slot_list_extend PySem.F.type_list_extend mt_extend (pv 3) (pa_cons (pe_lst (pa_cons (pgi T.g_CARRIAGE_RETURN) (pa_cons (pgi T.g_LINE_FEED) pa_nil))) pa_nil))))))
 (pss_one
 (ps_ret (pv 3)))))),?_⟩
    refine ⟨_,rfl,by decide +kernel,by decide +kernel,fun x1 H1 s1 f1 b1=>?_⟩
    rw [strB_ofString] at b1
    refine ⟨_,rfl,p,_,dx,_,_,rfl,s1 _ _ e,T.cl_Message,T.n_Message_uri,mf_uri,catB b1 (a1.1.same s1) (by show 4+_≤_; omega) fun x2 H2 s2 f2 b2=>?_⟩
    have t2:=s1.trans s2
    refine ⟨_,rfl,by decide +kernel,by decide +kernel,fun x3 H3 s3 f3 b3=>?_⟩
    rw [strB_ofString] at b3
    refine catB (b2.same s3) b3 (by rw [List.length_append]; show 4+_+8≤_; omega) fun y1 H4 s4 f4 c1=>?_
    have t4:=(t2.trans s3).trans s4
    refine ⟨_,rfl,by decide +kernel,by decide +kernel,fun x5 H5 s5 _ b5=>?_⟩
    rw [strB_ofString] at b5
    have t5:=t4.trans s5
    refine ⟨_,rfl,p,_,dx,_,_,rfl,t5 _ _ e,T.cl_Message,T.n_Message_via,mf_via,catB b5 (a2.1.same t5) (by show 5+List.length (Ql47.Msg.via _)≤_; omega) fun y2 H6 s6 _ d2=>?_⟩
    have t6:=t5.trans s6
    refine ⟨_,rfl,by decide +kernel,by decide +kernel,fun y3 H7 s7 _ d3=>?_⟩
    rw [strB_ofString] at d3
    have t7:=t6.trans s7
    refine ⟨_,rfl,by decide +kernel,by decide +kernel,fun x8 H8 s8 _ b8=>?_⟩
    rw [strB_ofString] at b8
    have t8:=t7.trans s8
    refine ⟨_,rfl,p,_,dx,_,_,rfl,t8 _ _ e,T.cl_Message,T.n_Message_sender,mf_sender,catB b8 (a3.1.same t8) (by show 6+List.length (Ql47.Msg.from_ _)≤_; omega) fun y4 H9 s9 _ d4=>?_⟩
    have t9:=t8.trans s9
    refine ⟨_,rfl,by decide +kernel,by decide +kernel,fun x10 H10 s10 _ b10=>?_⟩
    rw [strB_ofString] at b10
    have t10:=t9.trans s10
    refine ⟨_,rfl,q,_,dx2,_,_,rfl,t10 _ _ e2,T.cl_Message,T.n_Message_target,mf_target,catB b10 (c4.1.same t10) (by show 4+List.length (Ql47.Msg.to _)≤_; omega) fun y5 H11 s11 _ d5=>?_⟩
    have t11:=t10.trans s11
    refine ⟨_,rfl,by decide +kernel,by decide +kernel,fun x12 H12 s12 _ b12=>?_⟩
    rw [strB_ofString] at b12
    have t12:=t11.trans s12
    refine ⟨_,rfl,p,_,dx,_,_,rfl,t12 _ _ e,T.cl_Message,T.n_Message_call_name,mf_call_name,catB b12 (a5.1.same t12) (by show 9+List.length (Ql47.Msg.callId _)≤_; omega) fun y6 H13 s13 _ d6=>?_⟩
    have t13:=t12.trans s13
    refine ⟨_,rfl,p,_,dx,_,_,rfl,t13 _ _ e,T.cl_Message,T.n_Message_sequence_number,mf_sequence_number,_,rfl,seq_log hA.sq,_,_,rfl,rfl,seq_l1 hA.sq,_,_,rfl,rfl,seq_l2 hA.sq,_,rfl,?_,seq_all _,fun y7 H14 s14 _ d7=>?_⟩
    · exact Nat.le_trans (Nat.le_of_eq (Array.length_toList).symm) (Nat.le_trans (seq_len hA.sq) (by decide))
    rw [seq_eq] at d7
    have t14:=t13.trans s14
    refine ⟨_,rfl,by decide +kernel,by decide +kernel,fun y8 H15 s15 _ d8=>?_⟩
    rw [strB_ofString] at d8
    have t15:=t14.trans s15
    refine ⟨(by show 0≤sizeLine; decide),fun y9 f16=>?_⟩
    have s16:=Same.put0 (o:=.lst []) f16
    have d9:IsB (upd H15 y9 (.lst [])) y9 []:=⟨upd_same,Nat.zero_le _⟩
    generalize upd H15 y9 (.lst [])=H16 at s16 d9 ⊢
    have t16:=t15.trans s16
    refine ⟨(by show 9≤sizeLine; decide),fun L hL=>?_⟩
    have pr:Paired (fun a b=>IsB H16 a b) [y1,y2,y3,y4,y5,y6,y7,y8,y9] (ackLines m m2):=.cons (c1.same (((((((((((s5.trans s6).trans s7).trans s8).trans s9).trans s10).trans s11).trans s12).trans s13).trans s14).trans s15).trans s16)) (.cons (d2.same (((((((((s7.trans s8).trans s9).trans s10).trans s11).trans s12).trans s13).trans s14).trans s15).trans s16)) (.cons (d3.same ((((((((s8.trans s9).trans s10).trans s11).trans s12).trans s13).trans s14).trans s15).trans s16)) (.cons (d4.same ((((((s10.trans s11).trans s12).trans s13).trans s14).trans s15).trans s16)) (.cons (d5.same ((((s12.trans s13).trans s14).trans s15).trans s16)) (.cons (d6.same ((s14.trans s15).trans s16)) (.cons (d7.same (s15.trans s16)) (.cons (d8.same s16) (.cons d9 (.nil)))))))))
    have sL:=Same.put0 (o:=.lst ([y1,y2,y3,y4,y5,y6,y7,y8,y9].map V.ref)) hL
    have hLs:upd H16 L (.lst ([y1,y2,y3,y4,y5,y6,y7,y8,y9].map V.ref)) L=some (.lst ([y1,y2,y3,y4,y5,y6,y7,y8,y9].map V.ref)):=upd_same
    have prL:=Paired.mapP pr fun a b (z:IsB H16 a b)=>z.same sL
    have tL:=t16.trans sL
    show (fun H=>_) (upd H16 L (.lst ([y1,y2,y3,y4,y5,y6,y7,y8,y9].map V.ref)))
    generalize upd H16 L (.lst ([y1,y2,y3,y4,y5,y6,y7,y8,y9].map V.ref))=HL at sL hLs prL tL ⊢
    have hk:=ack_len hA
    have hz:50000≤sizeLine:=by decide
    refine ⟨(by show 0≤sizeLine; decide),fun O hO=>?_⟩
    refine ⟨_,rfl,L,rfl,⟨_,SqL.of ((Same.put0 hO) _ _ hLs)⟩,for_list (K:=K) (a:=L) (xs:=[y1,y2,y3,y4,y5,y6,y7,y8,y9].map V.ref) (fun i σ H2=>Same HL H2∧H2 O=some (.lst (LB (joinC ((ackLines m m2).take i))))∧∃ v:Option V,σ=[some (.ref p),some (.ref q),some (.ref L),some (.ref O),v]) ⟨Same.put0 hO,upd_same,none,rfl⟩ (fun i σ H2 _ ⟨z,_⟩=>SqL.of (z _ _ hLs)) ?_ ?_⟩
    · rintro i x σ H2 hx ⟨z,h2,v,rfl⟩
      obtain ⟨y,hy,rfl⟩:∃ y,[y1,y2,y3,y4,y5,y6,y7,y8,y9][i]?=some y∧V.ref y=x:=by
        rw [List.getElem?_map] at hx
        exact Option.map_eq_some_iff.mp hx
      obtain ⟨bs,hb,hB⟩:=Paired.get' prL hy
      have hB2:=z _ _ hB.at_
      have nyO:O≠y:=(ne_of_none hB.at_ hO).symm
      have ej:joinC ((ackLines m m2).take (i+1))=joinC ((ackLines m m2).take i)++(bs++[13,10]):=by
        rw [List.take_add_one,hb]
        unfold joinC
        rw [List.flatMap_append]
        simp
      have lj:(joinC ((ackLines m m2).take (i+1))).length≤(Ql47.ackOf m m2).length:=by
        rw [← ack_join,← List.take_append_drop (i+1) (ackLines m m2)]
        unfold joinC
        rw [List.flatMap_append,List.length_append,List.take_append_drop]
        exact Nat.le_add_right _ _
      rw [ej,List.length_append,List.length_append,show List.length [(13:UInt8),10]=2 from rfl] at lj
      refine ⟨_,rfl,.inl ⟨rfl,_,SqL.of h2⟩,_,rfl,O,y,_,_,rfl,rfl,h2,hB2,(by rw [LB_length,LB_length]; omega),?_⟩
      refine ⟨_,rfl,.inl ⟨rfl,_,SqL.of upd_same⟩,(by show 2≤sizeLine; decide),fun X hX=>?_⟩
      have nOX:O≠X:=ne_of_none upd_same hX
      refine ⟨O,X,_,_,rfl,rfl,(by rw [upd_ne nOX]; exact upd_same),upd_same,(by rw [List.length_append,LB_length,LB_length]; show _+_+2≤_; omega),?_⟩
      refine ⟨fun c oc hc=>?_,?_,_,rfl⟩
      · have nc:c≠O:=ne_of_none hc hO
        have hc2:=z _ _ hc
        rw [upd_ne nc,upd_ne (ne_of_none (show upd H2 O _ c=some oc by rw [upd_ne nc]; exact hc2) hX),upd_ne nc]
        exact hc2
      · rw [upd_same,ej]
        unfold LB
        rw [List.map_append,List.map_append,List.append_assoc]
        rfl
    · rintro σ H2 ⟨z,h2,v,rfl⟩
      refine ⟨_,rfl,?_⟩
      have el:(ackLines m m2).take ([y1,y2,y3,y4,y5,y6,y7,y8,y9].map V.ref).length=ackLines m m2:=List.take_of_length_le (Nat.le_refl 9)
      rw [el,ack_join] at h2
      exact k O H2 (tL.trans z) (tL.free hO) ⟨h2,Nat.le_trans hk (by omega)⟩
end
end L2

namespace L2
open PySem PySem.Spec PyProof.Rows
theorem TAt.exC {A:Adr} {N:List Addr} {H:Hp} {p c:Addr} {pt:PX} (h:TAt A N H p pt) (hc:clsA A pt.ask=c):∃ dx q ls,H p=some (.ins c dx (txF pt.id q pt.st ls pt.w pt.ag pt.en pt.ov))∧MsgIm A N H q pt.req pt.roct∧BF (Imm N) H ls pt.sent:=by
  subst hc; exact h.ex
theorem TAt.setC {K:PySem.W.Frag} {mg:Str→Option Value} {A:Adr} {N:List Addr} {H:Hp} {p dx q ls' c:Addr} {pt pt':PX} {fs:List (Str×V)} (T:Txt K mg A) (hc:clsA A pt.ask=c) (e:H p=some (.ins c dx fs)) (hq:MsgIm A N H q pt.req pt.roct) (hs:BF (Imm N) H ls' pt'.sent) (hb:pt'.sent.length≤BM)
    (e1:pt'.ask=pt.ask) (e2:pt'.req=pt.req) (e3:pt'.roct=pt.roct):TAt A N (upd H p (.ins c dx (txF pt'.id q pt'.st ls' pt'.w pt'.ag pt'.en pt'.ov))) p pt':=by
  subst hc; exact TAt.set T e hq hs hb e1 e2 e3
theorem clsT (A:Adr) {b:Bool} (h:b=true):clsA A b=A.c_Asking:=by rw [h]; rfl
theorem clsF (A:Adr) {b:Bool} (h:b=false):clsA A b=A.c_Answering:=by rw [h]; rfl
section
variable {id st w:Nat} {q ls:Addr} {ag en:Option Nat} {ov:Bool}
theorem tp_st1:putF "state" (.int 1) (txF id q st ls w ag en ov)=txF id q 1 ls w ag en ov:=by kernel_rfl
theorem tp_st2:putF "state" (.int 2) (txF id q st ls w ag en ov)=txF id q 2 ls w ag en ov:=by kernel_rfl
theorem tp_st3:putF "state" (.int 3) (txF id q st ls w ag en ov)=txF id q 3 ls w ag en ov:=by kernel_rfl
end
structure Cfg (A:Adr) (N:List Addr) (H:Hp) (p r l:Addr) (t:PX) (outs:List Ql47.Out):Prop where
  tx:TAt A N H p t
  rp:RepAt A H r l outs
  ln:l∈N
section
variable {P:Program} {w:World} {K:PySem.W.Frag} {mg:Str→Option Value} {base:Heap} {A:Adr} {N:List Addr} {H H':Hp} {p r l:Addr} {t t':PX} {outs:List Ql47.Out}
theorem Cfg.mut (c:Cfg A N H p r l t outs) (T:Txt K mg A):MutOk A N H [p,r,l]:=fun x hx=>by
  rcases List.mem_cons.mp hx with rfl | hx
  · exact c.tx.mut T _ (by simp)
  · exact c.rp.mut T c.ln x hx
theorem Cfg.own (c:Cfg A N H p r l t outs) (k:Keep [p] H H') (h:TAt A N H' p t'):Cfg A N H' p r l t' outs:=by
  have ap:=c.tx.apart c.rp
  exact ⟨h,c.rp.keep k (fun z=>ap (by simp at z; rw [z]; simp)) (fun z=>ap (by simp at z; rw [z]; simp)),c.ln⟩
theorem Cfg.x (c:Cfg A N H p r l t outs) (k:SameX p H H') (h:TAt A N H' p t'):Cfg A N H' p r l t' outs:=c.own (Keep.ofX k (by simp)) h
theorem Cfg.same (c:Cfg A N H p r l t outs) (s:Same H H'):Cfg A N H' p r l t outs:=⟨c.tx.same s,c.rp.same s,c.ln⟩
theorem keepP (k:Keep [p] H H'):Keep [p,r,l] H H':=k.mono (by simp)
theorem keepR (k:Keep [r,l] H H'):Keep [p,r,l] H H':=k.mono fun x hx=>List.mem_cons_of_mem _ hx
theorem keepX (k:SameX p H H'):Keep [p,r,l] H H':=Keep.ofX k (by simp)
theorem updP {o:HO}:Keep [p] H (upd H p o):=(Keep.refl _ H).upd (by simp)
end
namespace PX
def begin_ (t:PX) (now:Nat):PX:={ t with sent:=t.roct,w:=500,ag:=some (now+500),en:=some (now+32000) }
def asksLike (t:PX) (m:Ql47.Msg):Bool:=decide (t.req.branch=m.branch) && decide (t.req.method=m.method)
def completeA (t:PX) (now wt:Nat):PX:={ t with st:=2,ag:=none,en:=some (now+wt) }
def takeOther (t:PX) (m:Ql47.Msg) (now:Nat):PX:=if 200≤statN m then t.completeA now 5000 else { t with st:=1 }
def takeInv (t:PX) (m:Ql47.Msg) (b:Bt) (now:Nat):PX×List Ql47.Out :=
  if t.st=2 then (t,if 300≤statN m then [.wire t.id t.sent] else [])
  else if 300≤statN m then (({ t with sent:=Ql47.ackOf t.req m }:PX).completeA now 32000,[.wire t.id (Ql47.ackOf t.req m),.user t.id b])
  else ({ t with st:=1,ag:=none,en:=none,ov:=decide (200≤statN m) },[.user t.id b])
def takeReply (t:PX) (m:Ql47.Msg) (b:Bt) (now:Nat):PX×List Ql47.Out:=if t.inv=true then t.takeInv m b now else if t.early=true then (t.takeOther m now,[.user t.id b]) else (t,[])
def fromThere (t:PX) (m:Ql47.Msg):Bool:=decide (t.req.branch=m.branch) && decide (t.req.sentBy=m.sentBy)
def fits (t:PX) (m:Ql47.Msg):Bool:=t.fromThere m && decide (t.req.method=m.method)
def owns (t:PX) (m:Ql47.Msg):Bool:=if m.method=Ql47.ACK then t.fromThere m && t.inv else t.fits m
def takeAck (t:PX) (now:Nat):PX:=if t.st=2 then { t with st:=3,ag:=none,en:=some (now+5000) } else t
def takeReq (t:PX) (m:Ql47.Msg) (now:Nat):PX×List Ql47.Out:=if m.method=Ql47.ACK then (t.takeAck now,[]) else if t.st≠3∧0 < t.sent.length then (t,[.wire t.id t.sent]) else (t,[])
def completeB (t:PX) (now:Nat):PX:=if t.inv=true then { t with st:=2,en:=some (now+32000),w:=500,ag:=some (now+500) } else { t with st:=2,en:=some (now+32000) }
def sendReply (t:PX) (m:Ql47.Msg) (b:Bt) (now:Nat):PX :=
  if statN m < 200 then { t with sent:=b,st:=1 } else if t.inv=true∧statN m < 300 then { t with sent:=b,ov:=true } else ({ t with sent:=b }:PX).completeB now
end PX
section
variable {P:Program} {w:World} {K:PySem.W.Frag} {mg:Str→Option Value} {base:Heap} {A:Adr}
def sp_qan (A:Adr):Sp:=fun vs H Q _=>∃ (N:List Addr) (p dx q:Addr) (id:Nat) (m:Ql47.Msg) (b:Bt),vs=[.ref p,.int ((id:Nat):Int),.ref q]∧H p=some (.ins A.c_Asking dx [])∧NOk N H∧MsgIm A N H q m b∧∀ H',SameX p H H'→TAt A N H' p (newTx true id 0 m b)→Q .non H'
theorem ok_qan (T:Txt K mg A):FnOk P w K mg base CX0 2 A.f_qan A.v_qan ["self","number","request"] (sp_qan A):=by
  refine T.d_qan.fn.ok sc_qan (fun vs H Q E h=>?_) (fun cdv A' outer s H vs Q E hr h=>?_)
  · obtain ⟨N,p,dx,q,id,m,b,rfl,_⟩:=h
    rfl
  · obtain ⟨N,p,dx,q,id,m,b,rfl,e,hN,hM,k⟩:=h
    refine ⟨_,(pss_one
 (ps_expr (pe_ccall rfl T.g_Transaction T.c_Transaction_init (ok_qbu T) (hr.mono (by decide)) T.d_qbu.bd .nil pass0 (pa_cons (pv 0) (pa_cons (pv 1) (pa_cons (pv 2) (pa_cons (pgi T.g_TRYING) pa_nil))))))),?_⟩
    exact ⟨_,rfl,_,rfl,_,rfl,N,true,p,dx,q,id,0,m,b,rfl,e,hN,hM,k⟩
def sp_qac (A:Adr):Sp:=fun vs H Q _=>∃ (N:List Addr) (p dx q:Addr) (id:Nat) (m:Ql47.Msg) (b:Bt),vs=[.ref p,.int ((id:Nat):Int),.ref q]∧H p=some (.ins A.c_Answering dx [])∧NOk N H∧MsgIm A N H q m b∧∀ H',SameX p H H'→TAt A N H' p (newTx false id (if m.method=Ql47.INVITE then 1 else 0) m b)→Q .non H'
theorem ok_qac (T:Txt K mg A):FnOk P w K mg base CX0 4 A.f_qac A.v_qac ["self","number","request"] (sp_qac A):=by
  refine T.d_qac.fn.ok sc_qac (fun vs H Q E h=>?_) (fun cdv A' outer s H vs Q E hr h=>?_)
  · obtain ⟨N,p,dx,q,id,m,b,rfl,_⟩:=h
    rfl
  · obtain ⟨N,p,dx,q,id,m,b,rfl,e,hN,hM,k⟩:=h
    refine ⟨_,(pss_cons
 (ps_expr (pe_ccall rfl T.g_Transaction T.c_Transaction_init (ok_qbu T) (hr.mono (by decide)) T.d_qbu.bd .nil pass0 (pa_cons (pv 0) (pa_cons (pv 1) (pa_cons (pv 2) (pa_cons (pgi T.g_TRYING) pa_nil))))))
 (pss_one
 (ps_if (pt_val (pe_meth0 (pv 0) T.tx_Answering.cl T.tx_Answering.m_invites (ok_qbv T) (hr.mono (by decide)) T.d_qbv.bd .nil pass0))
 (pss_one
 (ps_fld (pv 0) (pgi T.g_PROCEEDING) rfl))
 pss_nil))),?_⟩
    refine ⟨_,rfl,_,rfl,_,rfl,N,false,p,dx,q,id,0,m,b,rfl,e,hN,hM,fun H1 s1 hT=>?_⟩
    obtain ⟨dx1,q1,ls1,e1,c1,c2⟩:=hT.exC (clsF A rfl)
    refine ⟨_,rfl,p,dx1,_,rfl,e1,tf_no _ (by decide +kernel),N,p,_,rfl,hT,fun H2 s2=>⟨_,rfl,?_⟩⟩
    have ei:(newTx false id 0 m b).inv=decide (m.method=Ql47.INVITE):=rfl
    rw [ei]
    have sx:=s1.trans (SameX.of s2)
    refine ite2 (fun h=>?_) fun h=>?_
    · refine ⟨_,rfl,p,_,dx1,_,rfl,s2 _ _ e1,T.tx_Answering.cl,T.tx_Answering.n_state,tf_lt,?_⟩
      rw [tp_st1]
      rw [if_pos (of_decide_eq_true h)] at k
      exact k _ sx.upd (TAt.setC (pt:=newTx false id 0 m b) (pt':=newTx false id 1 m b) T (clsF A rfl) (s2 _ _ e1) (c1.same s2) ⟨c2.1.same s2,c2.2⟩ (Nat.zero_le _) rfl rfl rfl)
    · rw [if_neg fun z=>h (decide_eq_true z)] at k
      exact k _ sx (hT.same s2)
def sp_qal (A:Adr):Sp:=fun vs H Q _=>∃ (N:List Addr) (p r l:Addr) (t:PX) (now:Nat) (outs:List Ql47.Out),vs=[.ref p,.int ((now:Nat):Int),.ref r]∧t.ask=true∧Cfg A N H p r l t outs∧t.roct.length≤BM∧outs.length < 200∧∀ H',Keep [p,r,l] H H'→Cfg A N H' p r l (t.begin_ now) (outs++[.wire t.id t.roct])→Q .non H'
theorem ok_qal (T:Txt K mg A):FnOk P w K mg base CX0 4 A.f_qal A.v_qal ["self","now","report"] (sp_qal A):=by
  refine T.d_qal.fn.ok sc_qal (fun vs H Q E h=>?_) (fun cdv A' outer s H vs Q E hr h=>?_)
  · obtain ⟨N,p,r,l,t,now,outs,rfl,_⟩:=h
    rfl
  · obtain ⟨N,p,r,l,t,now,outs,rfl,hk,hC,hb,hn,k⟩:=h
    refine ⟨_,(pss_cons
 (ps_expr (pe_meth (pv 0) T.tx_Asking.cl T.tx_Asking.m_send (ok_qby T) (hr.mono (by decide)) T.d_qby.bd .nil pass0 (pa_cons (pe_fld (pe_fld (pv 0) rfl) rfl) (pa_cons (pv 2) pa_nil))))
 (pss_cons
 (ps_expr (pe_meth (pv 0) T.tx_Asking.cl T.tx_Asking.m_start_again (ok_qca T) (hr.mono (by decide)) T.d_qca.bd .nil pass0 (pa_cons (pv 1) (pa_cons (pgi T.g_FIRST_WAIT) pa_nil))))
 (pss_one
 (ps_expr (pe_meth (pv 0) T.tx_Asking.cl T.tx_Asking.m_start_end (ok_qcb T) (hr.mono (by decide)) T.d_qcb.bd .nil pass0 (pa_cons (pv 1) (pa_cons (pgi T.g_LONG_END) pa_nil))))))),?_⟩
    have hc:=clsT A hk
    obtain ⟨dx,q,ls,e,a1,a2⟩:=hC.tx.exC hc
    obtain ⟨o,hM',ho⟩:=a1.ex
    obtain ⟨dm,u,vi,sn,tg,cn,bw,br,me,em,_⟩:=hM'.ex
    refine ⟨_,rfl,p,dx,_,rfl,e,tf_no _ (by decide +kernel),_,rfl,p,_,dx,_,_,rfl,e,T.tx_Asking.cl,T.tx_Asking.n_request,tf_request,q,_,dm,_,_,rfl,em,T.cl_Message,T.n_Message_octets,mf_octets,_,rfl,N,p,o,r,l,t,t.roct,outs,rfl,hC.tx,⟨hM'.oct,ho⟩,hb,hC.rp,hC.ln,hn,fun H1 k1 hT1 hR1=>?_⟩
    obtain ⟨dx1,q1,ls1,e1,_⟩:=hT1.exC hc
    refine ⟨_,rfl,p,dx1,_,rfl,e1,tf_no _ (by decide +kernel),_,rfl,N,p,_,now,500,rfl,hT1,fun H2 sx2 hT2=>?_⟩
    obtain ⟨dx2,q2,ls2,e2,_⟩:=hT2.exC hc
    refine ⟨_,rfl,p,dx2,_,rfl,e2,tf_no _ (by decide +kernel),_,rfl,N,p,_,now,32000,rfl,hT2,fun H3 sx3 hT3=>?_⟩
    exact k H3 (k1.trans (keepX (sx2.trans sx3))) ((Cfg.mk hT1 hR1 hC.ln).x (sx2.trans sx3) hT3)
def sp_qak (A:Adr):Sp:=fun vs H Q _=>∃ (N:List Addr) (p q:Addr) (t:PX) (m:Ql47.Msg) (b:Bt),vs=[.ref p,.ref q]∧t.ask=true∧TAt A N H p t∧MsgIm A N H q m b∧Q (.bl (t.asksLike m)) H
theorem ok_qak (T:Txt K mg A):FnOk P w K mg base CX0 1 A.f_qak A.v_qak ["self","message"] (sp_qak A):=by
  refine T.d_qak.fn.ok sc_qak (fun vs H Q E h=>?_) (fun cdv A' outer s H vs Q E hr h=>?_)
  · obtain ⟨N,p,q,t,m,b,rfl,_⟩:=h
    rfl
  · obtain ⟨N,p,q,t,m,b,rfl,hk,hT,hM,k⟩:=h
    refine ⟨_,(pss_one
 (ps_ret (pe_and (pe_cmpR (op_eqD hr.units) (pe_fld (pe_fld (pv 0) rfl) rfl) (pe_fld (pv 1) rfl) (nomark _)) (pe_one (pe_cmpR (op_eqD hr.units) (pe_fld (pe_fld (pv 0) rfl) rfl) (pe_fld (pv 1) rfl) (nomark _)))))),?_⟩
    obtain ⟨dx,q1,ls,e,a1,a2⟩:=hT.exC (clsT A hk)
    obtain ⟨o,hM1,ho⟩:=a1.ex
    obtain ⟨dm,u,vi,sn,tg,cn,bw,br,me,em,b1,b2,b3,b4,b5,b6,b7,b8⟩:=hM1.ex
    obtain ⟨o',hM2,ho'⟩:=hM.ex
    obtain ⟨dm',u',vi',sn',tg',cn',bw',br',me',em',c1,c2,c3,c4,c5,c6,c7,c8⟩:=hM2.ex
    refine ⟨_,rfl,p,_,dx,_,_,rfl,e,T.tx_Asking.cl,T.tx_Asking.n_request,tf_request,q1,_,dm,_,_,rfl,em,T.cl_Message,T.n_Message_branch,mf_branch,_,rfl,q,_,dm',_,_,rfl,em',T.cl_Message,T.n_Message_branch,mf_branch,rEqB b7.1.at_ c7.1.at_ ⟨_,rfl,?_⟩⟩
    unfold PX.asksLike at k
    refine ite2 (fun h=>?_) fun h=>?_
    · have h':decide (t.req.branch=m.branch)=true:=h
      rw [h',Bool.true_and] at k
      exact ⟨_,rfl,p,_,dx,_,_,rfl,e,T.tx_Asking.cl,T.tx_Asking.n_request,tf_request,q1,_,dm,_,_,rfl,em,T.cl_Message,T.n_Message_method,mf_method,_,rfl,q,_,dm',_,_,rfl,em',T.cl_Message,T.n_Message_method,mf_method,rEqB b8.1.at_ c8.1.at_ k⟩
    · have h':decide (t.req.branch=m.branch)=false:=nt h
      rw [h',Bool.false_and] at k
      exact k
def sp_qam (A:Adr):Sp:=fun vs H Q _=>∃ (N:List Addr) (p:Addr) (t:PX) (now wt:Nat),vs=[.ref p,.int ((now:Nat):Int),.int ((wt:Nat):Int)]∧t.ask=true∧TAt A N H p t∧∀ H',SameX p H H'→TAt A N H' p (t.completeA now wt)→Q .non H'
theorem ok_qam (T:Txt K mg A):FnOk P w K mg base CX0 2 A.f_qam A.v_qam ["self","now","wait"] (sp_qam A):=by
  refine T.d_qam.fn.ok sc_qam (fun vs H Q E h=>?_) (fun cdv A' outer s H vs Q E hr h=>?_)
  · obtain ⟨N,p,t,now,wt,rfl,_⟩:=h
    rfl
  · obtain ⟨N,p,t,now,wt,rfl,hk,hT,k⟩:=h
    refine ⟨_,(pss_cons
 (ps_fld (pv 0) (pgi T.g_COMPLETED) rfl)
 (pss_cons
 (ps_expr (pe_meth0 (pv 0) T.tx_Asking.cl T.tx_Asking.m_stop_again (ok_qcc T) (hr.mono (by decide)) T.d_qcc.bd .nil pass0))
 (pss_one
 (ps_expr (pe_meth (pv 0) T.tx_Asking.cl T.tx_Asking.m_start_end (ok_qcb T) (hr.mono (by decide)) T.d_qcb.bd .nil pass0 (pa_cons (pv 1) (pa_cons (pv 2) pa_nil))))))),?_⟩
    have hc:=clsT A hk
    obtain ⟨dx,q1,ls,e,a1,a2⟩:=hT.exC hc
    refine ⟨_,rfl,p,_,dx,_,rfl,e,T.tx_Asking.cl,T.tx_Asking.n_state,tf_lt,?_⟩
    rw [tp_st2]
    have hT1:=TAt.setC (pt:=t) (pt':={ t with st:=2 }) T hc e a1 a2 hT.b1 rfl rfl rfl
    obtain ⟨dx1,q1,ls1,e1,_⟩:=hT1.exC hc
    refine ⟨_,rfl,p,dx1,_,rfl,e1,tf_no _ (by decide +kernel),N,p,_,rfl,hT1,fun H2 sx2 hT2=>?_⟩
    obtain ⟨dx2,q2,ls2,e2,_⟩:=hT2.exC hc
    refine ⟨_,rfl,p,dx2,_,rfl,e2,tf_no _ (by decide +kernel),_,rfl,_,rfl,N,p,_,now,wt,rfl,hT2,fun H3 sx3 hT3=>?_⟩
    exact k H3 (((SameX.refl H).upd.trans sx2).trans sx3) hT3
end
end L2

namespace L2
open PySem PySem.Spec PyProof.Rows
section
variable {P:Program} {w:World} {K:PySem.W.Frag} {mg:Str→Option Value} {base:Heap} {A:Adr}
theorem dge (a b:Nat):decide ((a:Int) ≥ (b:Int))=decide (b≤a):=dle b a
def SpM (A:Adr) (ask:Bool) (f:PX→Ql47.Msg→Bt→Nat→PX×List Ql47.Out) (pre:PX→Ql47.Msg→Prop):Sp:=fun vs H Q _=>∃ (N:List Addr) (p q r l:Addr) (t:PX) (m:Ql47.Msg) (b:Bt) (now:Nat) (outs:List Ql47.Out),
  vs=[.ref p,.ref q,.int ((now:Nat):Int),.ref r]∧t.ask=ask∧Cfg A N H p r l t outs∧NOk N H∧MsgIm A N H q m b∧b.length≤BM∧outs.length < 190∧pre t m∧∀ H',Keep [p,r,l] H H'→Cfg A N H' p r l (f t m b now).1 (outs++(f t m b now).2)→Q .non H'
theorem ok_qar (T:Txt K mg A):FnOk P w K mg base CX0 3 A.f_qar A.v_qar ["self","reply","now","report"] (SpM A true (fun t m b now=>(t.takeOther m now,[.user t.id b])) fun _ _=>True):=by
  refine T.d_qar.fn.ok sc_qar (fun vs H Q E h=>?_) (fun cdv A' outer s H vs Q E hr h=>?_)
  · obtain ⟨N,p,q,r,l,t,m,b,now,outs,rfl,_⟩:=h
    rfl
  · obtain ⟨N,p,q,r,l,t,m,b,now,outs,rfl,hk,hC,hN,hM,hb,hn,_,k⟩:=h
    refine ⟨_,(pss_cons
 (ps_expr (pe_meth (pv 0) T.tx_Asking.cl T.tx_Asking.m_tell (ok_qce T) (hr.mono (by decide)) T.d_qce.bd .nil pass0 (pa_cons (pv 1) (pa_cons (pv 3) pa_nil))))
 (pss_one
 (ps_if (pt_cmpR op_ge (pe_fld (pv 1) rfl) pe_int (nomark _))
 (pss_one
 (ps_expr (pe_meth (pv 0) T.tx_Asking.cl T.d_qam.me (ok_qam T) (hr.mono (by decide)) T.d_qam.bd .nil pass0 (pa_cons (pv 2) (pa_cons (pgi T.g_SHORT_END) pa_nil)))))
 (pss_one
 (ps_fld (pv 0) (pgi T.g_PROCEEDING) rfl))))),?_⟩
    have hc:=clsT A hk
    obtain ⟨dx,q1,ls,e,a1,a2⟩:=hC.tx.exC hc
    refine ⟨_,rfl,p,dx,_,rfl,e,tf_no _ (by decide +kernel),_,rfl,_,rfl,N,p,q,r,l,t,m,b,outs,rfl,hC.tx,hM,hb,hC.rp,hC.ln,(by omega),fun H1 k1 hT1 hM1 hR1=>?_⟩
    have hC1:Cfg A N H1 p r l t (outs++[.user t.id b]):=⟨hT1,hR1,hC.ln⟩
    obtain ⟨o',hM2,ho'⟩:=hM1.ex
    obtain ⟨dm',u',vi',sn',tg',cn',bw',br',me',em',_⟩:=hM2.ex
    obtain ⟨dx1,q2,ls1,e1,c1,c2⟩:=hT1.exC hc
    refine ⟨_,rfl,q,_,dm',_,_,rfl,em',T.cl_Message,T.n_Message_status,mf_status,_,_,rfl,rfl,_,rfl,?_⟩
    have ed:=dge (statN m) 200
    change ∀ H',Keep [p,r,l] H H'→Cfg A N H' p r l (t.takeOther m now) (outs++[.user t.id b])→Q .non H' at k
    unfold PX.takeOther at k
    refine ite2 (fun h=>?_) fun h=>?_
    · rw [if_pos (of_decide_eq_true (ed ▸ h))] at k
      refine ⟨_,rfl,p,dx1,_,rfl,e1,tf_no _ (by decide +kernel),_,rfl,N,p,t,now,5000,rfl,hk,hT1,fun H2 sx2 hT2=>?_⟩
      exact k H2 ((keepR k1).trans (keepX sx2)) (hC1.x sx2 hT2)
    · rw [if_neg fun z=>h (ed.trans (decide_eq_true z))] at k
      refine ⟨_,rfl,p,_,dx1,_,rfl,e1,T.tx_Asking.cl,T.tx_Asking.n_state,tf_lt,?_⟩
      rw [tp_st1]
      exact k _ ((keepR k1).trans (keepP updP)) (hC1.own updP (TAt.setC (pt:=t) (pt':={ t with st:=1 }) T hc e1 c1 c2 hT1.b1 rfl rfl rfl))
theorem ok_qaq (T:Txt K mg A):FnOk P w K mg base CX0 4 A.f_qaq A.v_qaq ["self","reply","now","report"] (SpM A true PX.takeInv fun t m=>AckOk t.req m):=by
  refine T.d_qaq.fn.ok sc_qaq (fun vs H Q E h=>?_) (fun cdv A' outer s H vs Q E hr h=>?_)
  · obtain ⟨N,p,q,r,l,t,m,b,now,outs,rfl,_⟩:=h
    rfl
  · obtain ⟨N,p,q,r,l,t,m,b,now,outs,rfl,hk,hC,hN,hM,hb,hn,hA,k⟩:=h
    refine ⟨_,(pss_one
 (ps_if (pt_cmpR op_eq (pe_fld (pv 0) rfl) (pgi T.g_COMPLETED) (nomark _))
 (pss_one
 (ps_if (pt_cmpR op_ge (pe_fld (pv 1) rfl) pe_int (nomark _))
 (pss_one
 (ps_expr (pe_meth (pv 0) T.tx_Asking.cl T.tx_Asking.m_send_again (ok_qbz T) (hr.mono (by decide)) T.d_qbz.bd .nil pass0 (pa_cons (pv 3) pa_nil))))
 pss_nil))
 (pss_one
 (ps_if (pt_cmpR op_ge (pe_fld (pv 1) rfl) pe_int (nomark _))
 (pss_cons
 (ps_expr (pe_meth (pv 0) T.tx_Asking.cl T.tx_Asking.m_send (ok_qby T) (hr.mono (by decide)) T.d_qby.bd .nil pass0 (pa_cons (pe_call (ok_qcf T) (hr.mono (by decide)) rfl T.d_qcf.at_ T.d_qcf.fn.kp T.d_qcf.bd .nil pass0 (pa_cons (pe_fld (pv 0) rfl) (pa_cons (pv 1) pa_nil))) (pa_cons (pv 3) pa_nil))))
 (pss_cons
 (ps_expr (pe_meth (pv 0) T.tx_Asking.cl T.tx_Asking.m_tell (ok_qce T) (hr.mono (by decide)) T.d_qce.bd .nil pass0 (pa_cons (pv 1) (pa_cons (pv 3) pa_nil))))
 (pss_one
 (ps_expr (pe_meth (pv 0) T.tx_Asking.cl T.d_qam.me (ok_qam T) (hr.mono (by decide)) T.d_qam.bd .nil pass0 (pa_cons (pv 2) (pa_cons (pgi T.g_LONG_END) pa_nil)))))))
 (pss_cons
 (ps_expr (pe_meth (pv 0) T.tx_Asking.cl T.tx_Asking.m_tell (ok_qce T) (hr.mono (by decide)) T.d_qce.bd .nil pass0 (pa_cons (pv 1) (pa_cons (pv 3) pa_nil))))
 (pss_cons
 (ps_fld (pv 0) (pgi T.g_PROCEEDING) rfl)
 (pss_cons
 (ps_expr (pe_meth0 (pv 0) T.tx_Asking.cl T.tx_Asking.m_stop_again (ok_qcc T) (hr.mono (by decide)) T.d_qcc.bd .nil pass0))
 (pss_cons
 (ps_expr (pe_meth0 (pv 0) T.tx_Asking.cl T.tx_Asking.m_stop_end (ok_qcd T) (hr.mono (by decide)) T.d_qcd.bd .nil pass0))
 (pss_one
 (ps_fld (pv 0) (pe_cmpR op_ge (pe_fld (pv 1) rfl) pe_int (nomark _)) rfl)))))))))),?_⟩
    have hc:=clsT A hk
    obtain ⟨dx,q1,ls,e,a1,a2⟩:=hC.tx.exC hc
    obtain ⟨o',hM2,ho'⟩:=hM.ex
    obtain ⟨dm',u',vi',sn',tg',cn',bw',br',me',em',_⟩:=hM2.ex
    have ed:=dge (statN m) 300
    have e2:=int_dec t.st 2
    refine ⟨_,rfl,p,_,dx,_,_,rfl,e,T.tx_Asking.cl,T.tx_Asking.n_state,tf_state,rfl,_,rfl,?_⟩
    unfold PX.takeInv at k
    refine ite2 (fun h=>?_) fun h=>?_
    · rw [if_pos (of_decide_eq_true (e2 ▸ h))] at k
      refine ⟨_,rfl,q,_,dm',_,_,rfl,em',T.cl_Message,T.n_Message_status,mf_status,_,_,rfl,rfl,_,rfl,?_⟩
      refine ite2 (fun h=>?_) fun h=>?_
      · rw [if_pos (of_decide_eq_true (ed ▸ h))] at k
        refine ⟨_,rfl,p,dx,_,rfl,e,tf_no _ (by decide +kernel),_,rfl,N,p,r,l,t,outs,rfl,hC.tx,hC.rp,hC.ln,(by omega),fun H1 k1 hT1 hR1=>?_⟩
        exact k H1 (keepR k1) ⟨hT1,hR1,hC.ln⟩
      · rw [if_neg fun z=>h (ed.trans (decide_eq_true z))] at k
        exact k H (Keep.refl _ _) (by rw [List.append_nil]; exact hC)
    · rw [if_neg fun z=>h (e2.trans (decide_eq_true z))] at k
      refine ⟨_,rfl,q,_,dm',_,_,rfl,em',T.cl_Message,T.n_Message_status,mf_status,_,_,rfl,rfl,_,rfl,?_⟩
      refine ite2 (fun h=>?_) fun h=>?_
      · rw [if_pos (of_decide_eq_true (ed ▸ h))] at k
        refine ⟨_,rfl,p,dx,_,rfl,e,tf_no _ (by decide +kernel),_,rfl,p,_,dx,_,_,rfl,e,T.tx_Asking.cl,T.tx_Asking.n_request,tf_request,_,rfl,N,q1,q,t.req,m,t.roct,b,rfl,a1,hM,hA,fun a H1 s1 f1 b1=>?_⟩
        have hC1:=hC.same s1
        have nN:a ∉ N:=fun hx=>by
          obtain ⟨o,ho⟩:=hN a hx
          rw [f1] at ho; cases ho
        have hal:(Ql47.ackOf t.req m).length≤BM:=by
          have:=ack_len hA
          have:=hA.len
          show _≤60000
          omega
        refine ⟨_,rfl,N,p,a,r,l,t,_,outs,rfl,hC1.tx,⟨b1,nN⟩,hal,hC1.rp,hC.ln,(by omega),fun H2 k2 hT2 hR2=>?_⟩
        have kk2:Keep [p,r,l] H H2:=(Keep.of s1).trans k2
        obtain ⟨dx2,q2,ls2,e2',_⟩:=hT2.exC hc
        refine ⟨_,rfl,p,dx2,_,rfl,e2',tf_no _ (by decide +kernel),_,rfl,_,rfl,N,p,q,r,l,_,m,b,_,rfl,hT2,hM.keep kk2 (hC.mut T),hb,hR2,hC.ln,(by rw [List.length_append]; show _+1 < _; omega),fun H3 k3 hT3 hM3 hR3=>?_⟩
        obtain ⟨dx3,q3,ls3,e3,_⟩:=hT3.exC hc
        refine ⟨_,rfl,p,dx3,_,rfl,e3,tf_no _ (by decide +kernel),_,rfl,N,p,({ t with sent:=Ql47.ackOf t.req m }:PX),now,32000,rfl,hk,hT3,fun H4 sx4 hT4=>?_⟩
        refine k H4 ((kk2.trans (keepR k3)).trans (keepX sx4)) ?_
        have:=(Cfg.mk hT3 hR3 hC.ln).x sx4 hT4
        rw [List.append_assoc] at this
        exact this
      · rw [if_neg fun z=>h (ed.trans (decide_eq_true z))] at k
        refine ⟨_,rfl,p,dx,_,rfl,e,tf_no _ (by decide +kernel),_,rfl,_,rfl,N,p,q,r,l,t,m,b,outs,rfl,hC.tx,hM,hb,hC.rp,hC.ln,(by omega),fun H1 k1 hT1 hM1 hR1=>?_⟩
        have hC1:Cfg A N H1 p r l t (outs++[.user t.id b]):=⟨hT1,hR1,hC.ln⟩
        obtain ⟨dx1,q2,ls1,e1,c1,c2⟩:=hT1.exC hc
        refine ⟨_,rfl,p,_,dx1,_,rfl,e1,T.tx_Asking.cl,T.tx_Asking.n_state,tf_lt,?_⟩
        rw [tp_st1]
        have hT2:=TAt.setC (pt:=t) (pt':={ t with st:=1 }) T hc e1 c1 c2 hT1.b1 rfl rfl rfl
        have k2:Keep [p,r,l] H1 (upd H1 p (.ins A.c_Asking dx1 (txF t.id q2 1 ls1 t.w t.ag t.en t.ov))):=keepP updP
        have hC2:=hC1.own updP hT2
        obtain ⟨dx2,q3,ls2,e2,_⟩:=hT2.exC hc
        refine ⟨_,rfl,p,dx2,_,rfl,e2,tf_no _ (by decide +kernel),N,p,_,rfl,hT2,fun H3 sx3 hT3=>?_⟩
        obtain ⟨dx3,q3,ls3,e3,_⟩:=hT3.exC hc
        refine ⟨_,rfl,p,dx3,_,rfl,e3,tf_no _ (by decide +kernel),N,p,_,rfl,hT3,fun H4 sx4 hT4=>?_⟩
        obtain ⟨dx4,q4,ls4,e4,c1,c2⟩:=hT4.exC hc
        have kk4:Keep [p,r,l] H H4:=(((keepR k1).trans k2).trans (keepX sx3)).trans (keepX sx4)
        have hM4:=hM.keep kk4 (hC.mut T)
        obtain ⟨o4,hM5,_⟩:=hM4.ex
        obtain ⟨dm4,u4,vi4,sn4,tg4,cn4,bw4,br4,me4,em4,_⟩:=hM5.ex
        refine ⟨_,rfl,q,_,dm4,_,_,rfl,em4,T.cl_Message,T.n_Message_status,mf_status,_,_,rfl,rfl,_,rfl,p,_,dx4,_,rfl,e4,T.tx_Asking.cl,T.tx_Asking.n_over,tf_lt,?_⟩
        have ed2:decide (((statN m:Nat):Int) ≥ 200)=decide (200≤statN m):=dge (statN m) 200
        simp only [ed2,tp_over]
        have hC4:=(hC2.x sx3 hT3).x sx4 hT4
        exact k _ (kk4.trans (keepP updP)) (hC4.own updP (TAt.setC (pt':={ t with st:=1,ag:=none,en:=none,ov:=decide (200≤statN m) }) T hc e4 c1 c2 hT4.b1 rfl rfl rfl))
theorem ok_qas (T:Txt K mg A):FnOk P w K mg base CX0 5 A.f_qas A.v_qas ["self","reply","now","report"] (SpM A true PX.takeReply fun t m=>AckOk t.req m):=by
  refine T.d_qas.fn.ok sc_qas (fun vs H Q E h=>?_) (fun cdv A' outer s H vs Q E hr h=>?_)
  · obtain ⟨N,p,q,r,l,t,m,b,now,outs,rfl,_⟩:=h
    rfl
  · obtain ⟨N,p,q,r,l,t,m,b,now,outs,rfl,hk,hC,hN,hM,hb,hn,hA,k⟩:=h
    refine ⟨_,(pss_one
 (ps_if (pt_val (pe_meth0 (pv 0) T.tx_Asking.cl T.tx_Asking.m_invites (ok_qbv T) (hr.mono (by decide)) T.d_qbv.bd .nil pass0))
 (pss_one
 (ps_expr (pe_meth (pv 0) T.tx_Asking.cl T.d_qaq.me (ok_qaq T) (hr.mono (by decide)) T.d_qaq.bd .nil pass0 (pa_cons (pv 1) (pa_cons (pv 2) (pa_cons (pv 3) pa_nil))))))
 (pss_one
 (ps_if (pt_val (pe_meth0 (pv 0) T.tx_Asking.cl T.tx_Asking.m_is_early (ok_qbw T) (hr.mono (by decide)) T.d_qbw.bd .nil pass0))
 (pss_one
 (ps_expr (pe_meth (pv 0) T.tx_Asking.cl T.d_qar.me (ok_qar T) (hr.mono (by decide)) T.d_qar.bd .nil pass0 (pa_cons (pv 1) (pa_cons (pv 2) (pa_cons (pv 3) pa_nil))))))
 pss_nil)))),?_⟩
    have hc:=clsT A hk
    obtain ⟨dx,q1,ls,e,a1,a2⟩:=hC.tx.exC hc
    refine ⟨_,rfl,p,dx,_,rfl,e,tf_no _ (by decide +kernel),N,p,_,rfl,hC.tx,fun H1 s1=>⟨_,rfl,?_⟩⟩
    have hC1:=hC.same s1
    have hM1:=hM.same s1
    have e1:=s1 _ _ e
    have hN1:NOk N H1:=fun x hx=>by
      obtain ⟨o,ho⟩:=hN x hx
      exact ⟨o,s1 _ _ ho⟩
    unfold PX.takeReply at k
    refine ite2 (fun h=>?_) fun h=>?_
    · rw [if_pos h] at k
      refine ⟨_,rfl,p,dx,_,rfl,e1,tf_no _ (by decide +kernel),_,rfl,_,rfl,_,rfl,N,p,q,r,l,t,m,b,now,outs,rfl,hk,hC1,hN1,hM1,hb,hn,hA,fun H2 k2 hC2=>?_⟩
      exact k H2 ((Keep.of s1).trans k2) hC2
    · rw [if_neg h] at k
      refine ⟨_,rfl,p,dx,_,rfl,e1,tf_no _ (by decide +kernel),N,p,_,rfl,hC1.tx,⟨_,rfl,?_⟩⟩
      refine ite2 (fun h=>?_) fun h=>?_
      · rw [if_pos h] at k
        refine ⟨_,rfl,p,dx,_,rfl,e1,tf_no _ (by decide +kernel),_,rfl,_,rfl,_,rfl,N,p,q,r,l,t,m,b,now,outs,rfl,hk,hC1,hN1,hM1,hb,hn,trivial,fun H2 k2 hC2=>?_⟩
        exact k H2 ((Keep.of s1).trans k2) hC2
      · rw [if_neg h] at k
        exact k H1 (Keep.of s1) (by rw [List.append_nil]; exact hC1)
end
end L2

namespace L2
open PySem PySem.Spec PyProof.Rows
section
variable {P:Program} {w:World} {K:PySem.W.Frag} {mg:Str→Option Value} {base:Heap} {A:Adr}
def sp_qad (A:Adr):Sp:=fun vs H Q _=>∃ (N:List Addr) (p q:Addr) (t:PX) (m:Ql47.Msg) (b:Bt),vs=[.ref p,.ref q]∧t.ask=false∧TAt A N H p t∧MsgIm A N H q m b∧Q (.bl (t.fromThere m)) H
theorem ok_qad (T:Txt K mg A):FnOk P w K mg base CX0 1 A.f_qad A.v_qad ["self","message"] (sp_qad A):=by
  refine T.d_qad.fn.ok sc_qad (fun vs H Q E h=>?_) (fun cdv A' outer s H vs Q E hr h=>?_)
  · obtain ⟨N,p,q,t,m,b,rfl,_⟩:=h
    rfl
  · obtain ⟨N,p,q,t,m,b,rfl,hk,hT,hM,k⟩:=h
    refine ⟨_,(pss_one
 (ps_ret (pe_and (pe_cmpR (op_eqD hr.units) (pe_fld (pe_fld (pv 0) rfl) rfl) (pe_fld (pv 1) rfl) (nomark _)) (pe_one (pe_cmpR (op_eqD hr.units) (pe_fld (pe_fld (pv 0) rfl) rfl) (pe_fld (pv 1) rfl) (nomark _)))))),?_⟩
    obtain ⟨dx,q1,ls,e,a1,a2⟩:=hT.exC (clsF A hk)
    obtain ⟨o,hM1,ho⟩:=a1.ex
    obtain ⟨dm,u,vi,sn,tg,cn,bw,br,me,em,b1,b2,b3,b4,b5,b6,b7,b8⟩:=hM1.ex
    obtain ⟨o',hM2,ho'⟩:=hM.ex
    obtain ⟨dm',u',vi',sn',tg',cn',bw',br',me',em',c1,c2,c3,c4,c5,c6,c7,c8⟩:=hM2.ex
    refine ⟨_,rfl,p,_,dx,_,_,rfl,e,T.tx_Answering.cl,T.tx_Answering.n_request,tf_request,q1,_,dm,_,_,rfl,em,T.cl_Message,T.n_Message_branch,mf_branch,_,rfl,q,_,dm',_,_,rfl,em',T.cl_Message,T.n_Message_branch,mf_branch,rEqB b7.1.at_ c7.1.at_ ⟨_,rfl,?_⟩⟩
    unfold PX.fromThere at k
    refine ite2 (fun h=>?_) fun h=>?_
    · have h':decide (t.req.branch=m.branch)=true:=h
      rw [h',Bool.true_and] at k
      exact ⟨_,rfl,p,_,dx,_,_,rfl,e,T.tx_Answering.cl,T.tx_Answering.n_request,tf_request,q1,_,dm,_,_,rfl,em,T.cl_Message,T.n_Message_by_whom,mf_by_whom,_,rfl,q,_,dm',_,_,rfl,em',T.cl_Message,T.n_Message_by_whom,mf_by_whom,rEqB b6.1.at_ c6.1.at_ k⟩
    · have h':decide (t.req.branch=m.branch)=false:=nt h
      rw [h',Bool.false_and] at k
      exact k
def sp_qab (A:Adr):Sp:=fun vs H Q _=>∃ (N:List Addr) (p q:Addr) (t:PX) (m:Ql47.Msg) (b:Bt),vs=[.ref p,.ref q]∧t.ask=false∧TAt A N H p t∧MsgIm A N H q m b∧Q (.bl (t.fits m)) H
theorem ok_qab (T:Txt K mg A):FnOk P w K mg base CX0 2 A.f_qab A.v_qab ["self","message"] (sp_qab A):=by
  refine T.d_qab.fn.ok sc_qab (fun vs H Q E h=>?_) (fun cdv A' outer s H vs Q E hr h=>?_)
  · obtain ⟨N,p,q,t,m,b,rfl,_⟩:=h
    rfl
  · obtain ⟨N,p,q,t,m,b,rfl,hk,hT,hM,k⟩:=h
    refine ⟨_,(pss_one
 (ps_ret (pe_and (pe_meth (pv 0) T.tx_Answering.cl T.d_qad.me (ok_qad T) (hr.mono (by decide)) T.d_qad.bd .nil pass0 (pa_cons (pv 1) pa_nil)) (pe_one (pe_cmpR (op_eqD hr.units) (pe_fld (pe_fld (pv 0) rfl) rfl) (pe_fld (pv 1) rfl) (nomark _)))))),?_⟩
    obtain ⟨dx,q1,ls,e,a1,a2⟩:=hT.exC (clsF A hk)
    obtain ⟨o,hM1,ho⟩:=a1.ex
    obtain ⟨dm,u,vi,sn,tg,cn,bw,br,me,em,b1,b2,b3,b4,b5,b6,b7,b8⟩:=hM1.ex
    obtain ⟨o',hM2,ho'⟩:=hM.ex
    obtain ⟨dm',u',vi',sn',tg',cn',bw',br',me',em',c1,c2,c3,c4,c5,c6,c7,c8⟩:=hM2.ex
    refine ⟨_,rfl,p,dx,_,rfl,e,tf_no _ (by decide +kernel),_,rfl,N,p,q,t,m,b,rfl,hk,hT,hM,⟨_,rfl,?_⟩⟩
    unfold PX.fits at k
    refine ite2 (fun h=>?_) fun h=>?_
    · rw [h,Bool.true_and] at k
      exact ⟨_,rfl,p,_,dx,_,_,rfl,e,T.tx_Answering.cl,T.tx_Answering.n_request,tf_request,q1,_,dm,_,_,rfl,em,T.cl_Message,T.n_Message_method,mf_method,_,rfl,q,_,dm',_,_,rfl,em',T.cl_Message,T.n_Message_method,mf_method,rEqB b8.1.at_ c8.1.at_ k⟩
    · rw [nt h,Bool.false_and] at k
      exact k
def sp_qag (A:Adr):Sp:=fun vs H Q _=>∃ (N:List Addr) (p q:Addr) (t:PX) (m:Ql47.Msg) (b:Bt),vs=[.ref p,.ref q]∧t.ask=false∧TAt A N H p t∧MsgIm A N H q m b∧Ret H Q (.bl (t.owns m))
theorem ok_qag (T:Txt K mg A):FnOk P w K mg base CX0 4 A.f_qag A.v_qag ["self","request"] (sp_qag A):=by
  refine T.d_qag.fn.ok sc_qag (fun vs H Q E h=>?_) (fun cdv A' outer s H vs Q E hr h=>?_)
  · obtain ⟨N,p,q,t,m,b,rfl,_⟩:=h
    rfl
  · obtain ⟨N,p,q,t,m,b,rfl,hk,hT,hM,k⟩:=h
    refine ⟨_,(pss_cons
 (ps_if (pt_val (pe_meth (pv 1) T.cl_Message T.d_qbi.me (ok_qbi T) (hr.mono (by decide)) T.d_qbi.bd .nil pass0 (pa_cons pe_str pa_nil)))
 (pss_one
 (ps_ret (pe_and (pe_meth (pv 0) T.tx_Answering.cl T.d_qad.me (ok_qad T) (hr.mono (by decide)) T.d_qad.bd .nil pass0 (pa_cons (pv 1) pa_nil)) (pe_one (pe_meth0 (pv 0) T.tx_Answering.cl T.tx_Answering.m_invites (ok_qbv T) (hr.mono (by decide)) T.d_qbv.bd .nil pass0)))))
 pss_nil)
 (pss_one
 (ps_ret (pe_meth (pv 0) T.tx_Answering.cl T.d_qab.me (ok_qab T) (hr.mono (by decide)) T.d_qab.bd .nil pass0 (pa_cons (pv 1) pa_nil))))),?_⟩
    obtain ⟨dx,q1,ls,e,a1,a2⟩:=hT.exC (clsF A hk)
    obtain ⟨o',hM2,ho'⟩:=hM.ex
    obtain ⟨dm',u',vi',sn',tg',cn',bw',br',me',em',_⟩:=hM2.ex
    refine ⟨_,rfl,q,dm',_,rfl,em',mf_has_method,_,q,o',m,b,_,"ACK",rfl,name_ack,hM2,fun H1 s1=>⟨_,rfl,?_⟩⟩
    have e1:=s1 _ _ e
    have hT1:=hT.same s1
    have hM1:=hM.same s1
    have k1:=fun H' (s:Same H1 H')=>k H' (s1.trans s)
    unfold PX.owns at k1
    refine ite2 (fun h=>?_) fun h=>?_
    · rw [if_pos (show m.method=Ql47.ACK from of_decide_eq_true h)] at k1
      refine ⟨_,rfl,p,dx,_,rfl,e1,tf_no _ (by decide +kernel),_,rfl,N,p,q,t,m,b,rfl,hk,hT1,hM1,⟨_,rfl,?_⟩⟩
      refine ite2 (fun h=>?_) fun h=>?_
      · rw [h,Bool.true_and] at k1
        exact ⟨_,rfl,p,dx,_,rfl,e1,tf_no _ (by decide +kernel),N,p,_,rfl,hT1,k1⟩
      · rw [nt h,Bool.false_and] at k1
        exact k1 H1 (Same.refl _)
    · rw [if_neg (show ¬ m.method=Ql47.ACK from fun z=>h (decide_eq_true z))] at k1
      exact ⟨_,rfl,p,dx,_,rfl,e1,tf_no _ (by decide +kernel),_,rfl,N,p,q,t,m,b,rfl,hk,hT1,hM1,k1 H1 (Same.refl _)⟩
def sp_qai (A:Adr):Sp:=fun vs H Q _=>∃ (N:List Addr) (p:Addr) (t:PX) (now:Nat),vs=[.ref p,.int ((now:Nat):Int)]∧t.ask=false∧TAt A N H p t∧∀ H',SameX p H H'→TAt A N H' p (t.takeAck now)→Q .non H'
theorem ok_qai (T:Txt K mg A):FnOk P w K mg base CX0 2 A.f_qai A.v_qai ["self","now"] (sp_qai A):=by
  refine T.d_qai.fn.ok sc_qai (fun vs H Q E h=>?_) (fun cdv A' outer s H vs Q E hr h=>?_)
  · obtain ⟨N,p,t,now,rfl,_⟩:=h
    rfl
  · obtain ⟨N,p,t,now,rfl,hk,hT,k⟩:=h
    refine ⟨_,(pss_one
 (ps_if (pt_cmpR op_eq (pe_fld (pv 0) rfl) (pgi T.g_COMPLETED) (nomark _))
 (pss_cons
 (ps_fld (pv 0) (pgi T.g_CONFIRMED) rfl)
 (pss_cons
 (ps_expr (pe_meth0 (pv 0) T.tx_Answering.cl T.tx_Answering.m_stop_again (ok_qcc T) (hr.mono (by decide)) T.d_qcc.bd .nil pass0))
 (pss_one
 (ps_expr (pe_meth (pv 0) T.tx_Answering.cl T.tx_Answering.m_start_end (ok_qcb T) (hr.mono (by decide)) T.d_qcb.bd .nil pass0 (pa_cons (pv 1) (pa_cons (pgi T.g_SHORT_END) pa_nil)))))))
 pss_nil)),?_⟩
    have hc:=clsF A hk
    obtain ⟨dx,q1,ls,e,a1,a2⟩:=hT.exC hc
    have e2:=int_dec t.st 2
    refine ⟨_,rfl,p,_,dx,_,_,rfl,e,T.tx_Answering.cl,T.tx_Answering.n_state,tf_state,rfl,_,rfl,?_⟩
    unfold PX.takeAck at k
    refine ite2 (fun h=>?_) fun h=>?_
    · rw [if_pos (of_decide_eq_true (e2 ▸ h))] at k
      refine ⟨_,rfl,p,_,dx,_,rfl,e,T.tx_Answering.cl,T.tx_Answering.n_state,tf_lt,?_⟩
      rw [tp_st3]
      have hT1:=TAt.setC (pt:=t) (pt':={ t with st:=3 }) T hc e a1 a2 hT.b1 rfl rfl rfl
      obtain ⟨dx1,q1,ls1,e1,_⟩:=hT1.exC hc
      refine ⟨_,rfl,p,dx1,_,rfl,e1,tf_no _ (by decide +kernel),N,p,_,rfl,hT1,fun H2 sx2 hT2=>?_⟩
      obtain ⟨dx2,q2,ls2,e2,_⟩:=hT2.exC hc
      refine ⟨_,rfl,p,dx2,_,rfl,e2,tf_no _ (by decide +kernel),_,rfl,N,p,_,now,5000,rfl,hT2,fun H3 sx3 hT3=>?_⟩
      exact k H3 (((SameX.refl H).upd.trans sx2).trans sx3) hT3
    · rw [if_neg fun z=>h (e2.trans (decide_eq_true z))] at k
      exact k H (SameX.refl H) hT
theorem ok_qaj (T:Txt K mg A):FnOk P w K mg base CX0 3 A.f_qaj A.v_qaj ["self","request","now","report"] (SpM A false (fun t m _ now=>t.takeReq m now) fun _ _=>True):=by
  refine T.d_qaj.fn.ok sc_qaj (fun vs H Q E h=>?_) (fun cdv A' outer s H vs Q E hr h=>?_)
  · obtain ⟨N,p,q,r,l,t,m,b,now,outs,rfl,_⟩:=h
    rfl
  · obtain ⟨N,p,q,r,l,t,m,b,now,outs,rfl,hk,hC,hN,hM,hb,hn,_,k⟩:=h
    refine ⟨_,(pss_one
 (ps_if (pt_val (pe_meth (pv 1) T.cl_Message T.d_qbi.me (ok_qbi T) (hr.mono (by decide)) T.d_qbi.bd .nil pass0 (pa_cons pe_str pa_nil)))
 (pss_one
 (ps_expr (pe_meth (pv 0) T.tx_Answering.cl T.d_qai.me (ok_qai T) (hr.mono (by decide)) T.d_qai.bd .nil pass0 (pa_cons (pv 2) pa_nil))))
 (pss_one
 (ps_if (PW.pt (pw_and (pt_cmpR op_ne (pe_fld (pv 0) rfl) (pgi T.g_CONFIRMED) (nomark _)) (pw_and1 (pt_cmpR op_gt (pe_callB call_len_seq (by rfl) T.b_len bt_len (pa_cons (pe_fld (pv 0) rfl) pa_nil)) pe_int (nomark _)))))
 (pss_one
 (ps_expr (pe_meth (pv 0) T.tx_Answering.cl T.tx_Answering.m_send_again (ok_qbz T) (hr.mono (by decide)) T.d_qbz.bd .nil pass0 (pa_cons (pv 3) pa_nil))))
 pss_nil)))),?_⟩
    change ∀ H',Keep [p,r,l] H H'→Cfg A N H' p r l (t.takeReq m now).1 (outs++(t.takeReq m now).2)→Q .non H' at k
    have hc:=clsF A hk
    obtain ⟨dx,q1,ls,e,a1,a2⟩:=hC.tx.exC hc
    obtain ⟨o',hM2,ho'⟩:=hM.ex
    obtain ⟨dm',u',vi',sn',tg',cn',bw',br',me',em',_⟩:=hM2.ex
    refine ⟨_,rfl,q,dm',_,rfl,em',mf_has_method,_,q,o',m,b,_,"ACK",rfl,name_ack,hM2,fun H1 s1=>⟨_,rfl,?_⟩⟩
    have e1:=s1 _ _ e
    have hC1:=hC.same s1
    unfold PX.takeReq at k
    refine ite2 (fun h=>?_) fun h=>?_
    · rw [if_pos (show m.method=Ql47.ACK from of_decide_eq_true h)] at k
      refine ⟨_,rfl,p,dx,_,rfl,e1,tf_no _ (by decide +kernel),_,rfl,N,p,t,now,rfl,hk,hC1.tx,fun H2 sx2 hT2=>?_⟩
      exact k H2 ((Keep.of s1).trans (keepX sx2)) (by rw [List.append_nil]; exact hC1.x sx2 hT2)
    · rw [if_neg (show ¬ m.method=Ql47.ACK from fun z=>h (decide_eq_true z))] at k
      have e3:=int_dec t.st 3
      have el:=dlt 0 t.sent.length
      have no:¬ (t.st≠3∧0 < t.sent.length)→Q V.non H1:=fun h=>by
        rw [if_neg h] at k
        exact k H1 (Keep.of s1) (by rw [List.append_nil]; exact hC1)
      refine ⟨_,rfl,p,_,dx,_,_,rfl,e1,T.tx_Answering.cl,T.tx_Answering.n_state,tf_state,rfl,_,rfl,?_⟩
      refine ite2 (fun h=>?_) fun h=>?_
      · have n3:t.st≠3:=fun z=>by
          rw [z] at h
          exact absurd h (by decide)
        refine ⟨_,rfl,p,_,dx,_,_,rfl,e1,T.tx_Answering.cl,T.tx_Answering.n_last_sent,tf_last_sent,ls,_,rfl,.inl (a2.1.same s1).sq,_,_,rfl,rfl,_,rfl,?_⟩
        rw [LB_length]
        refine ite2 (fun h=>?_) fun h=>?_
        · have n0:0 < t.sent.length:=by
            have:(t.sent.length:Int) > 0:=of_decide_eq_true h
            omega
          rw [if_pos ⟨n3,n0⟩] at k
          refine ⟨_,rfl,p,dx,_,rfl,e1,tf_no _ (by decide +kernel),_,rfl,N,p,r,l,t,outs,rfl,hC1.tx,hC1.rp,hC.ln,(by omega),fun H2 k2 hT2 hR2=>?_⟩
          exact k H2 ((Keep.of s1).trans (keepR k2)) ⟨hT2,hR2,hC.ln⟩
        · exact no fun z=>h (decide_eq_true (by have:=z.2; omega))
      · refine iteF (no fun z=>h ?_)
        rw [show decide (V.int ((t.st:Nat):Int)=V.int 3)=false from e3.trans (decide_eq_false z.1)]
        rfl
def sp_qaa (A:Adr):Sp:=fun vs H Q _=>∃ (N:List Addr) (p:Addr) (t:PX) (now:Nat),vs=[.ref p,.int ((now:Nat):Int)]∧t.ask=false∧TAt A N H p t∧∀ H',SameX p H H'→TAt A N H' p (t.completeB now)→Q .non H'
theorem ok_qaa (T:Txt K mg A):FnOk P w K mg base CX0 4 A.f_qaa A.v_qaa ["self","now"] (sp_qaa A):=by
  refine T.d_qaa.fn.ok sc_qaa (fun vs H Q E h=>?_) (fun cdv A' outer s H vs Q E hr h=>?_)
  · obtain ⟨N,p,t,now,rfl,_⟩:=h
    rfl
  · obtain ⟨N,p,t,now,rfl,hk,hT,k⟩:=h
    refine ⟨_,(pss_cons
 (ps_fld (pv 0) (pgi T.g_COMPLETED) rfl)
 (pss_cons
 (ps_expr (pe_meth (pv 0) T.tx_Answering.cl T.tx_Answering.m_start_end (ok_qcb T) (hr.mono (by decide)) T.d_qcb.bd .nil pass0 (pa_cons (pv 1) (pa_cons (pgi T.g_LONG_END) pa_nil))))
 (pss_one
 (ps_if (pt_val (pe_meth0 (pv 0) T.tx_Answering.cl T.tx_Answering.m_invites (ok_qbv T) (hr.mono (by decide)) T.d_qbv.bd .nil pass0))
 (pss_one
 (ps_expr (pe_meth (pv 0) T.tx_Answering.cl T.tx_Answering.m_start_again (ok_qca T) (hr.mono (by decide)) T.d_qca.bd .nil pass0 (pa_cons (pv 1) (pa_cons (pgi T.g_FIRST_WAIT) pa_nil)))))
 pss_nil)))),?_⟩
    have hc:=clsF A hk
    obtain ⟨dx,q1,ls,e,a1,a2⟩:=hT.exC hc
    refine ⟨_,rfl,p,_,dx,_,rfl,e,T.tx_Answering.cl,T.tx_Answering.n_state,tf_lt,?_⟩
    rw [tp_st2]
    have hT1:=TAt.setC (pt:=t) (pt':={ t with st:=2 }) T hc e a1 a2 hT.b1 rfl rfl rfl
    obtain ⟨dx1,q1,ls1,e1,_⟩:=hT1.exC hc
    refine ⟨_,rfl,p,dx1,_,rfl,e1,tf_no _ (by decide +kernel),_,rfl,N,p,_,now,32000,rfl,hT1,fun H2 sx2 hT2=>?_⟩
    obtain ⟨dx2,q2,ls2,e2,_⟩:=hT2.exC hc
    refine ⟨_,rfl,p,dx2,_,rfl,e2,tf_no _ (by decide +kernel),N,p,_,rfl,hT2,fun H3 s3=>⟨_,rfl,?_⟩⟩
    have ei:({ ({ t with st:=2 }:PX) with en:=some (now+32000) }:PX).inv=t.inv:=rfl
    rw [ei]
    have sx:SameX p H H3:=((SameX.refl H).upd.trans sx2).trans (SameX.of s3)
    have hT3:=hT2.same s3
    obtain ⟨dx3,q3,ls3,e3,_⟩:=hT3.exC hc
    unfold PX.completeB at k
    refine ite2 (fun h=>?_) fun h=>?_
    · rw [if_pos h] at k
      refine ⟨_,rfl,p,dx3,_,rfl,e3,tf_no _ (by decide +kernel),_,rfl,N,p,_,now,500,rfl,hT3,fun H4 sx4 hT4=>?_⟩
      exact k H4 (sx.trans sx4) hT4
    · rw [if_neg h] at k
      exact k H3 sx hT3
theorem ok_qah (T:Txt K mg A):FnOk P w K mg base CX0 5 A.f_qah A.v_qah ["self","reply","now","report"] (SpM A false (fun t m b now=>(t.sendReply m b now,[.wire t.id b])) fun _ _=>True):=by
  refine T.d_qah.fn.ok sc_qah (fun vs H Q E h=>?_) (fun cdv A' outer s H vs Q E hr h=>?_)
  · obtain ⟨N,p,q,r,l,t,m,b,now,outs,rfl,_⟩:=h
    rfl
  · obtain ⟨N,p,q,r,l,t,m,b,now,outs,rfl,hk,hC,hN,hM,hb,hn,_,k⟩:=h
    refine ⟨_,(pss_cons
 (ps_expr (pe_meth (pv 0) T.tx_Answering.cl T.tx_Answering.m_send (ok_qby T) (hr.mono (by decide)) T.d_qby.bd .nil pass0 (pa_cons (pe_fld (pv 1) rfl) (pa_cons (pv 3) pa_nil))))
 (pss_one
 (ps_if (pt_cmpR op_lt (pe_fld (pv 1) rfl) pe_int (nomark _))
 (pss_one
 (ps_fld (pv 0) (pgi T.g_PROCEEDING) rfl))
 (pss_one
 (ps_if (PW.pt (pw_and (pt_val (pe_meth0 (pv 0) T.tx_Answering.cl T.tx_Answering.m_invites (ok_qbv T) (hr.mono (by decide)) T.d_qbv.bd .nil pass0)) (pw_and1 (pt_cmpR op_lt (pe_fld (pv 1) rfl) pe_int (nomark _)))))
 (pss_one
 (ps_fld (pv 0) pe_bl rfl))
 (pss_one
 (ps_expr (pe_meth (pv 0) T.tx_Answering.cl T.d_qaa.me (ok_qaa T) (hr.mono (by decide)) T.d_qaa.bd .nil pass0 (pa_cons (pv 2) pa_nil))))))))),?_⟩
    change ∀ H',Keep [p,r,l] H H'→Cfg A N H' p r l (t.sendReply m b now) (outs++[.wire t.id b])→Q .non H' at k
    have hc:=clsF A hk
    obtain ⟨dx,q1,ls,e,a1,a2⟩:=hC.tx.exC hc
    obtain ⟨o',hM2,ho'⟩:=hM.ex
    obtain ⟨dm',u',vi',sn',tg',cn',bw',br',me',em',_⟩:=hM2.ex
    refine ⟨_,rfl,p,dx,_,rfl,e,tf_no _ (by decide +kernel),_,rfl,q,_,dm',_,_,rfl,em',T.cl_Message,T.n_Message_octets,mf_octets,_,rfl,N,p,o',r,l,t,b,outs,rfl,hC.tx,⟨hM2.oct,ho'⟩,hb,hC.rp,hC.ln,(by omega),fun H1 k1 hT1 hR1=>?_⟩
    have hC1:Cfg A N H1 p r l { t with sent:=b } (outs++[.wire t.id b]):=⟨hT1,hR1,hC.ln⟩
    obtain ⟨dx1,q2,ls1,e1,c1,c2⟩:=hT1.exC hc
    have hM1:=hM.keep k1 (hC.mut T)
    obtain ⟨o3,hM3,_⟩:=hM1.ex
    obtain ⟨dm3,u3,vi3,sn3,tg3,cn3,bw3,br3,me3,em3,_⟩:=hM3.ex
    have d2:decide (((statN m:Nat):Int) < 200)=decide (statN m < 200):=dlt (statN m) 200
    have d3:decide (((statN m:Nat):Int) < 300)=decide (statN m < 300):=dlt (statN m) 300
    refine ⟨_,rfl,q,_,dm3,_,_,rfl,em3,T.cl_Message,T.n_Message_status,mf_status,_,_,rfl,rfl,_,rfl,?_⟩
    unfold PX.sendReply at k
    refine ite2 (fun h=>?_) fun h=>?_
    · rw [if_pos (of_decide_eq_true (d2 ▸ h))] at k
      refine ⟨_,rfl,p,_,dx1,_,rfl,e1,T.tx_Answering.cl,T.tx_Answering.n_state,tf_lt,?_⟩
      rw [tp_st1]
      exact k _ (k1.trans (keepP updP)) (hC1.own updP (TAt.setC (pt':={ t with sent:=b,st:=1 }) T hc e1 c1 c2 hT1.b1 rfl rfl rfl))
    · rw [if_neg fun z=>h (d2.trans (decide_eq_true z))] at k
      refine ⟨_,rfl,p,dx1,_,rfl,e1,tf_no _ (by decide +kernel),N,p,_,rfl,hT1,fun H2 s2=>⟨_,rfl,?_⟩⟩
      have hC2:=hC1.same s2
      have e2:=s2 _ _ e1
      have ei:({ t with sent:=b }:PX).inv=t.inv:=rfl
      rw [ei]
      refine ite2 (fun h=>?_) fun h=>?_
      · refine ⟨_,rfl,q,_,dm3,_,_,rfl,s2 _ _ em3,T.cl_Message,T.n_Message_status,mf_status,_,_,rfl,rfl,_,rfl,?_⟩
        refine ite2 (fun h3=>?_) fun h3=>?_
        · rw [if_pos ⟨h,of_decide_eq_true (d3 ▸ h3)⟩] at k
          refine ⟨_,rfl,p,_,dx1,_,rfl,e2,T.tx_Answering.cl,T.tx_Answering.n_over,tf_lt,?_⟩
          rw [tp_over]
          exact k _ ((k1.trans (Keep.of s2)).trans (keepP updP)) (hC2.own updP (TAt.setC (pt':={ t with sent:=b,ov:=true }) T hc e2 (c1.same s2) ⟨c2.1.same s2,c2.2⟩ hT1.b1 rfl rfl rfl))
        · rw [if_neg fun z=>h3 (d3.trans (decide_eq_true z.2))] at k
          refine ⟨_,rfl,p,dx1,_,rfl,e2,tf_no _ (by decide +kernel),_,rfl,N,p,{ t with sent:=b },now,rfl,hk,hC2.tx,fun H4 sx4 hT4=>?_⟩
          exact k H4 ((k1.trans (Keep.of s2)).trans (keepX sx4)) (hC2.x sx4 hT4)
      · rw [if_neg fun z=>h z.1] at k
        refine iteF ⟨_,rfl,p,dx1,_,rfl,e2,tf_no _ (by decide +kernel),_,rfl,N,p,{ t with sent:=b },now,rfl,hk,hC2.tx,fun H4 sx4 hT4=>?_⟩
        exact k H4 ((k1.trans (Keep.of s2)).trans (keepX sx4)) (hC2.x sx4 hT4)
end
end L2

namespace L2
open PySem PySem.Spec PyProof.Rows
def endF (time begun:Nat) (tl:Addr):List (Str×V):=[("time",.int ((time:Nat):Int)),("begun",.int ((begun:Nat):Int)),("transactions",.ref tl)]
section
variable {time begun:Nat} {tl:Addr}
theorem ef_time:(endF time begun tl).lookup ("time":Str)=some (V.int ((time:Nat):Int)):=by kernel_rfl
theorem ef_begun:(endF time begun tl).lookup ("begun":Str)=some (V.int ((begun:Nat):Int)):=by kernel_rfl
theorem ef_transactions:(endF time begun tl).lookup ("transactions":Str)=some (V.ref tl):=by kernel_rfl
theorem ep_time (n:Nat):putF "time" (.int ((n:Nat):Int)) (endF time begun tl)=endF n begun tl:=by kernel_rfl
theorem ep_begun {i:Int} (n:Nat) (e:i=((n:Nat):Int)):putF "begun" (.int i) (endF time begun tl)=endF time n tl:=by subst e; kernel_rfl
theorem ep_transactions (a:Addr):putF "transactions" (.ref a) (endF time begun tl)=endF time begun a:=by kernel_rfl
theorem ef_lt:(endF time begun tl).length < 1000:=by show 3 < 1000; decide
theorem ef_no (m:Str) (h:((["time","begun","transactions"]:List Str).contains m)=false):(endF time begun tl).lookup m=none:=by
  unfold endF
  simp only [List.contains_cons,List.contains_nil,Bool.or_eq_false_iff] at h
  obtain ⟨h1,h2,h3,_⟩:=h
  simp only [List.lookup_cons,h1,h2,h3,List.lookup_nil]
end
def rf (x:Addr×PX):V:=.ref x.1
structure EndAt (A:Adr) (N:List Addr) (H:Hp) (x tl:Addr) (pts:List (Addr×PX)) (time begun:Nat):Prop where
  ob:∃ dx,H x=some (.ins A.c_End dx (endF time begun tl))
  ls:H tl=some (.lst (pts.map rf))
  tx:∀ y∈pts,TAt A N H y.1 y.2
  nd:(pts.map Prod.fst).Nodup
  tn:tl∈N
  few:pts.length≤64
section
variable {K:PySem.W.Frag} {mg:Str→Option Value} {A:Adr} {N N' M:List Addr} {H H':Hp}
theorem BF.move {a:Addr} {b:Bt} (h:BF (Imm N) H a b) (k:Keep M H H') (m:MutOk A N H M) (hn:∀ x∈N',x∈N∨H x=none):BF (Imm N') H' a b:=by
  refine ⟨(h.keep k m).1,fun z=>?_⟩
  rcases hn a z with y | y
  · exact h.2 y
  · rw [h.1.at_] at y; cases y
theorem MsgIm.move {q:Addr} {m:Ql47.Msg} {b:Bt} (h:MsgIm A N H q m b) (k:Keep M H H') (mo:MutOk A N H M) (hn:∀ x∈N',x∈N∨H x=none):MsgIm A N' H' q m b:=by
  obtain ⟨o,hM,ho⟩:=h.ex
  obtain ⟨dx,u,vi,sn,tg,cn,bw,br,me,e,a1,a2,a3,a4,a5,a6,a7,a8⟩:=hM.ex
  have hp:q ∉ M:=fun z=>by
    rcases mo q z with ⟨_,xs,y⟩ | ⟨C,dx',fs,y,n⟩
    · rw [e] at y; cases y
    · rw [e] at y; cases y; exact n rfl
  have ho':=BF.move (A:=A) ⟨hM.oct,ho⟩ k mo hn
  exact ⟨o,⟨⟨dx,u,vi,sn,tg,cn,bw,br,me,k _ _ e hp,a1.move k mo hn,a2.move k mo hn,a3.move k mo hn,a4.move k mo hn,a5.move k mo hn,a6.move k mo hn,a7.move k mo hn,a8.move k mo hn⟩,ho'.1⟩,ho'.2⟩
theorem TAt.move {p:Addr} {pt:PX} (h:TAt A N H p pt) (k:Keep M H H') (m:MutOk A N H M) (hp:p ∉ M) (hn:∀ x∈N',x∈N∨H x=none):TAt A N' H' p pt:=by
  obtain ⟨dx,q,ls,e,a1,a2⟩:=h.ex
  exact ⟨⟨dx,q,ls,k _ _ e hp,a1.move k m hn,a2.move k m hn⟩,h.b1⟩
theorem MutOk.nil:MutOk A N H []:=fun x hx=>by simp at hx
theorem EndAt.same {x tl:Addr} {pts:List (Addr×PX)} {time begun:Nat} (h:EndAt A N H x tl pts time begun) (s:Same H H'):EndAt A N H' x tl pts time begun:=by
  obtain ⟨dx,e⟩:=h.ob
  exact ⟨⟨dx,s _ _ e⟩,s _ _ h.ls,fun y hy=>(h.tx y hy).same s,h.nd,h.tn,h.few⟩
theorem EndAt.mut {x tl:Addr} {pts:List (Addr×PX)} {time begun:Nat} (T:Txt K mg A) (h:EndAt A N H x tl pts time begun):MutOk A N H (x::tl::pts.map Prod.fst):=fun y hy=>by
  obtain ⟨dx,e⟩:=h.ob
  rcases List.mem_cons.mp hy with rfl | hy
  · exact .inr ⟨_,_,_,e,T.nm_End⟩
  · rcases List.mem_cons.mp hy with rfl | hy
    · exact .inl ⟨h.tn,_,h.ls⟩
    · obtain ⟨z,hz,rfl⟩:=List.mem_map.mp hy
      exact (h.tx z hz).mut T _ (by simp)
end
def sel (pts:List (Addr×PX)) (g:PX→Bool) (v:V):Bool:=(pts.find? fun x=>decide (rf x=v)).any fun x=>g x.2
theorem sel_at {pts:List (Addr×PX)} (nd:(pts.map Prod.fst).Nodup) (g:PX→Bool):∀ x∈pts,sel pts g (rf x)=g x.2:=by
  intro x hx
  unfold sel
  have:pts.find? (fun y=>decide (rf y=rf x))=some x:=by
    induction pts with
    | nil=>simp at hx
    | cons y r ih =>
      rw [List.map_cons,List.nodup_cons] at nd
      rcases List.mem_cons.mp hx with rfl | hx
      · rw [List.find?_cons,decide_eq_true rfl]
      · have:rf y≠rf x:=fun z=>by
          injection z with z
          exact nd.1 (by rw [z]; exact List.mem_map.mpr ⟨x,hx,rfl⟩)
        rw [List.find?_cons,decide_eq_false this]
        exact ih nd.2 hx
  rw [this]
  rfl
theorem sel_filter {pts:List (Addr×PX)} (nd:(pts.map Prod.fst).Nodup) (g:PX→Bool):(pts.map rf).filter (sel pts g)=(pts.filter fun x=>g x.2).map rf:=by
  rw [List.filter_map]
  refine congrArg _ (List.filter_congr fun x hx=>?_)
  exact sel_at nd g x hx
section
variable {tt:TT} {te:TE} {i:Nat} {σ:St} {H1:Hp} {D:Addr} {Qd:Hp→Prop}
theorem lc_pts {K:PySem.W.Frag} {a:Addr} {pts:List (Addr×PX)} (nd:(pts.map Prod.fst).Nodup) (hS:SqL K H1 a (pts.map rf)) (g:PX→Bool) (hz:pts.length≤64) (hD:H1 D=none)
    (ht:∀ x∈pts,∀ (H:Hp) (Q:Bool→Hp→Prop),Same H1 H→(∀ H',Same H H'→Q (g x.2) H')→tt ((wipe σ [i]).set i (some (rf x))) H Q)
    (he:∀ x∈pts,∀ (H:Hp) (Q:VK),Q (rf x) H→te ((wipe σ [i]).set i (some (rf x))) H Q)
    (hd:∀ H',Same H1 H'→H' D=some (.lst ((pts.filter fun x=>g x.2).map rf))→Qd H') :
    ∃ W:Nat→Nat→Hp→Prop,(∃ m,W 0 m (upd H1 D (.lst [])))∧∀ k m H,W k m H →
      ((Itl K a).stop k H∧Qd H)∨((Itl K a).go k H∧∃ Nx:Hp→Prop,(∀ H',Nx H'→∃ m',m' < m∧W (k+1) m' H')∧∀ x H',(Itl K a).yld k H x H'→gName i x (wipe σ [i]) H' fun σ2 H2=>wipe σ2 [i]=wipe σ [i]∧tt σ2 H2 fun b H3 =>
        if b=true then te σ2 H3 fun y H4=>∃ acc,H4 D=some (.lst acc)∧acc.length < sizeLine∧Nx (upd H4 D (.lst (acc++[y]))) else Nx H3):=by
  refine lc_lst hS (sel pts g) (fun x y _=>y=x) (fun _ _ _ _ _ z=>z) (by rw [List.length_map]; exact Nat.le_trans hz (by decide)) hD (fun v hv H Q s k=>?_) (fun v hv _ H Q s _ k=>?_) fun ys H' s h p=>?_
  · obtain ⟨x,hx,rfl⟩:=List.mem_map.mp hv
    refine ht x hx H Q s ?_
    rw [← sel_at nd g x hx]
    exact k
  · obtain ⟨x,hx,rfl⟩:=List.mem_map.mp hv
    exact he x hx H Q (k _ H (Same.refl _) rfl)
  · refine hd H' s ?_
    rw [h,← sel_filter nd g,paired_map (f:=fun x=>x) p,List.map_id']
end
section
variable {P:Program} {w:World} {K:PySem.W.Frag} {mg:Str→Option Value} {base:Heap} {A:Adr}
theorem Txt.txm_end_has_come (T:Txt K mg A):∀ C,IsTx A C→Cls K C∧Meth K C "end_has_come" A.f_qbt:=fun _ h=>⟨(T.tx h).cl,(T.tx h).m_end_has_come⟩
theorem Txt.txm_run_timers (T:Txt K mg A):∀ C,IsTx A C→Cls K C∧Meth K C "run_timers" A.f_qbx:=fun _ h=>⟨(T.tx h).cl,(T.tx h).m_run_timers⟩
def sp_qax (A:Adr):Sp:=fun vs H Q _=>∃ (x dx:Addr),vs=[.ref x]∧H x=some (.ins A.c_End dx [])∧∀ tl H',SameX x H H'→H tl=none→EndAt A [tl] H' x tl [] 0 0→Q .non H'
theorem ok_qax (T:Txt K mg A):FnOk P w K mg base CX0 1 A.f_qax A.v_qax ["self"] (sp_qax A):=by
  refine T.d_qax.fn.ok sc_qax (fun vs H Q E h=>?_) (fun cdv A' outer s H vs Q E hr h=>?_)
  · obtain ⟨x,dx,rfl,_⟩:=h
    rfl
  · obtain ⟨x,dx,rfl,e,k⟩:=h
    refine ⟨_,(pss_cons
 (ps_fld (pv 0) pe_int rfl)
 (pss_cons
 (ps_fld (pv 0) pe_int rfl)
 (pss_one
 (ps_fld (pv 0) (pe_lst pa_nil) rfl)))),?_⟩
    refine ⟨_,rfl,x,_,dx,_,rfl,e,T.cl_End,T.n_End_time,lt1000 nil_len (by decide),?_⟩
    refine ⟨_,rfl,x,_,dx,_,rfl,upd_same,T.cl_End,T.n_End_begun,lt1000 (pf_len nil_len) (by decide),?_⟩
    rw [upd_upd]
    refine ⟨(by show 0≤sizeLine; decide),fun l hl=>?_⟩
    have npl:x≠l:=ne_of_none upd_same hl
    have hl0:H l=none:=by rw [upd_ne npl.symm] at hl; exact hl
    refine ⟨_,rfl,x,_,dx,_,rfl,(by rw [upd_ne npl]; exact upd_same),T.cl_End,T.n_End_transactions,lt1000 (pf_len (pf_len nil_len)) (by decide),?_⟩
    refine k l _ (fun b' o eb nb=>?_) hl0 ⟨⟨dx,?_⟩,?_,fun y hy=>by simp at hy,.nil,by simp,Nat.zero_le _⟩
    · rw [upd_ne nb,upd_ne (ne_of_none eb hl0),upd_ne nb]
      exact eb
    · rw [upd_same]; kernel_rfl
    · rw [upd_ne npl.symm,upd_same]; rfl
def sp_qau (A:Adr):Sp:=fun vs H Q E=>∃ (x dx tl:Addr) (time begun now:Nat),vs=[.ref x,.int ((now:Nat):Int)]∧H x=some (.ins A.c_End dx (endF time begun tl))∧if now < time∨2 ^ 31≤now then Fail H E A.c_WrongMoment else Q .non H
theorem ok_qau (T:Txt K mg A):FnOk P w K mg base (CXE P w) 1 A.f_qau A.v_qau ["self","now"] (sp_qau A):=by
  refine T.d_qau.fn.okE sc_qau (fun vs H Q E h=>?_) (fun cdv A' outer s H vs Q E hr h b=>?_)
  · obtain ⟨x,dx,tl,time,begun,now,rfl,_⟩:=h
    rfl
  · obtain ⟨x,dx,tl,time,begun,now,rfl,e,k⟩:=h
    refine ⟨_,(pss_one
 (ps_if (PW.pt (pw_or (pt_cmpR op_lt (pv 1) (pe_fld (pv 0) rfl) (nomark _)) (pw_or1 (pt_cmpR op_ge (pv 1) (pgi T.g_TIME_LIMIT) (nomark _)))))
 (pss_one
 (ps_raise b rfl rfl T.g_WrongMoment T.x_WrongMoment))
 pss_nil)),?_⟩
    refine ⟨_,rfl,_,rfl,x,_,dx,_,_,rfl,e,T.cl_End,T.n_End_time,ef_time,_,_,rfl,rfl,_,rfl,?_⟩
    have d1:=dlt now time
    have d2:decide (((now:Nat):Int) ≥ 2147483648)=decide (2 ^ 31≤now):=dge now 2147483648
    refine ite2 (fun h=>?_) fun h=>?_
    · have h':now < time:=of_decide_eq_true (d1 ▸ h)
      rw [if_pos (.inl h')] at k
      exact iteT (k _ (Same.refl _))
    · have h':¬ now < time:=fun z=>h (d1.trans (decide_eq_true z))
      refine ⟨_,rfl,_,_,rfl,rfl,_,rfl,?_⟩
      refine ite2 (fun h=>?_) fun h=>?_
      · rw [if_pos (.inr (of_decide_eq_true (d2 ▸ h)))] at k
        exact k _ (Same.refl _)
      · rw [if_neg fun z=>z.elim h' fun z=>h (d2.trans (decide_eq_true z))] at k
        exact k
def sp_qbe (A:Adr):Sp:=fun vs H Q _=>∃ (N:List Addr) (x tl:Addr) (pts:List (Addr×PX)) (time begun now:Nat),vs=[.ref x,.int ((now:Nat):Int)]∧EndAt A N H x tl pts time begun∧∀ q H',Same H H'→H q=none→H' q=some (.lst ((pts.filter fun y=>!y.2.endCome now).map rf))→Q (.ref q) H'
theorem ok_qbe (T:Txt K mg A):FnOk P w K mg base CX0 2 A.f_qbe A.v_qbe ["self","now"] (sp_qbe A):=by
  refine T.d_qbe.fn.ok sc_qbe (fun vs H Q E h=>?_) (fun cdv A' outer s H vs Q E hr h=>?_)
  · obtain ⟨N,x,tl,pts,time,begun,now,rfl,_⟩:=h
    rfl
  · obtain ⟨N,x,tl,pts,time,begun,now,rfl,hE,k⟩:=h
    refine ⟨_,(pss_one
 (ps_ret (pe_lc (own:=[("transaction",2)]) rfl sc_qbe.nd (pi_list (pe_fld (pv 0) rfl)) (blkOk_by (by kernel_rfl)) (fun _ _ _ _ _=>pg_name (i:=2) sc_qbe.nd rfl (Or.inl rfl)) (fun _ _ _ _ _=>(pts_one (pt_not (pt_val (pe_methD (pv 2) (T.txm_end_has_come) (ok_qbt T) (hr.mono (by decide)) T.d_qbt.bd .nil pass0 (pa_cons (pv 1) pa_nil)))))) (fun _ _ _ _ _=>(pv 2))))),?_⟩
    obtain ⟨dx,e⟩:=hE.ob
    refine ⟨_,rfl,x,_,dx,_,_,rfl,e,T.cl_End,T.n_End_transactions,ef_transactions,tl,rfl,⟨_,SqL.of hE.ls⟩,fun D hD=>lc_pts hE.nd (SqL.of hE.ls) (fun t=>!t.endCome now) hE.few hD (fun y hy H' Q' s' k'=>?_) (fun y hy H' Q' q'=>?_) fun H' s' h'=>?_⟩
    · have hT:=(hE.tx y hy).same s'
      obtain ⟨dt,q1,ls,et,_⟩:=hT.ex
      exact ⟨_,rfl,y.1,dt,_,_,rfl,et,isTx A _,tf_no _ (by decide +kernel),_,rfl,N,y.1,y.2,now,rfl,hT,_,rfl,k' _ (Same.refl _)⟩
    · exact ⟨_,rfl,q'⟩
    · exact k D H' s' hD h'
def sp_qav (A:Adr):Sp:=fun vs H Q _=>∃ (N:List Addr) (x tl:Addr) (pts:List (Addr×PX)) (time begun:Nat),vs=[.ref x]∧EndAt A N H x tl pts time begun∧∀ tl' H',SameX x H H'→H tl'=none→EndAt A (tl'::N) H' x tl' (pts.filter fun y=>!y.2.ov) time begun→Q .non H'
theorem ok_qav (T:Txt K mg A):FnOk P w K mg base CX0 1 A.f_qav A.v_qav ["self"] (sp_qav A):=by
  refine T.d_qav.fn.ok sc_qav (fun vs H Q E h=>?_) (fun cdv A' outer s H vs Q E hr h=>?_)
  · obtain ⟨N,x,tl,pts,time,begun,rfl,_⟩:=h
    rfl
  · obtain ⟨N,x,tl,pts,time,begun,rfl,hE,k⟩:=h
    refine ⟨_,(pss_one
 (ps_fld (pv 0) (pe_lc (own:=[("transaction",1)]) rfl sc_qav.nd (pi_list (pe_fld (pv 0) rfl)) (blkOk_by (by kernel_rfl)) (fun _ _ _ _ _=>pg_name (i:=1) sc_qav.nd rfl (Or.inl rfl)) (fun _ _ _ _ _=>(pts_one (pt_not (pt_val (pe_fldK (K':=K) rfl (pv 1) rfl))))) (fun _ _ _ _ _=>(pv 1))) rfl)),?_⟩
    obtain ⟨dx,e⟩:=hE.ob
    refine ⟨_,rfl,x,_,dx,_,_,rfl,e,T.cl_End,T.n_End_transactions,ef_transactions,tl,rfl,⟨_,SqL.of hE.ls⟩,fun D hD=>lc_pts hE.nd (SqL.of hE.ls) (fun t=>!t.ov) hE.few hD (fun y hy H' Q' s' k'=>?_) (fun y hy H' Q' q'=>?_) fun H' s' h'=>?_⟩
    · have hT:=(hE.tx y hy).same s'
      obtain ⟨dt,q1,ls,et,_⟩:=hT.ex
      have TC:=T.tx (isTx A y.2.ask)
      exact ⟨_,rfl,y.1,_,dt,_,_,rfl,et,TC.cl,TC.n_over,tf_over,_,rfl,k' _ (Same.refl _)⟩
    · exact ⟨_,rfl,q'⟩
    · have e':=s' _ _ e
      refine ⟨_,rfl,x,_,dx,_,rfl,e',T.cl_End,T.n_End_transactions,ef_lt,?_⟩
      rw [ep_transactions]
      have nDx:D≠x:=(ne_of_none e hD).symm
      have kx:Keep [x] H (upd H' x (.ins A.c_End dx (endF time begun D))):=(Keep.of s').upd (by simp)
      have mo:MutOk A N H [x]:=fun y hy=>by
        have:y=x:=by simpa using hy
        subst this
        exact .inr ⟨_,_,_,e,T.nm_End⟩
      have sub:∀ z∈D::N,z∈N∨H z=none:=fun z hz=>by
        rcases List.mem_cons.mp hz with rfl | hz
        · exact .inr hD
        · exact .inl hz
      refine k D _ (SameX.of s').upd hD ⟨⟨dx,upd_same⟩,?_,fun y hy=>?_,?_,by simp,?_⟩
      · rw [upd_ne nDx]; exact h'
      · have hy':=(List.mem_filter.mp hy).1
        refine (hE.tx y hy').move kx mo (fun z=>?_) sub
        have z':y.1=x:=by simpa using z
        obtain ⟨dt,q1,ls,et,_⟩:=(hE.tx y hy').ex
        rw [z',e] at et
        injection et with et
        injection et with _ _ et
        injection et with et _
        injection et with et _
        exact absurd et (by decide +kernel)
      · exact (List.filter_sublist.map _).nodup hE.nd
      · exact Nat.le_trans (List.length_filter_le _ _) hE.few
def sp_qay (A:Adr):Sp:=fun vs H Q _=>∃ (x dx tl:Addr) (time begun:Nat),vs=[.ref x]∧H x=some (.ins A.c_End dx (endF time begun tl))∧Q (.int ((begun+1:Nat):Int)) (upd H x (.ins A.c_End dx (endF time (begun+1) tl)))
theorem ok_qay (T:Txt K mg A):FnOk P w K mg base CX0 1 A.f_qay A.v_qay ["self"] (sp_qay A):=by
  refine T.d_qay.fn.ok sc_qay (fun vs H Q E h=>?_) (fun cdv A' outer s H vs Q E hr h=>?_)
  · obtain ⟨x,dx,tl,time,begun,rfl,_⟩:=h
    rfl
  · obtain ⟨x,dx,tl,time,begun,rfl,e,k⟩:=h
    refine ⟨_,(pss_cons
 (ps_fldaug (pv 0) pe_int in_add)
 (pss_one
 (ps_ret (pe_fld (pv 0) rfl)))),?_⟩
    refine ⟨_,rfl,x,_,dx,_,_,rfl,e,T.cl_End,T.n_End_begun,ef_begun,_,_,rfl,rfl,dx,_,e,ef_lt,?_⟩
    rw [ep_begun (begun+1) (by omega)]
    exact ⟨_,rfl,x,_,dx,_,_,rfl,upd_same,T.cl_End,T.n_End_begun,ef_begun,k⟩
end
end L2

namespace L2
open PySem PySem.Spec PyProof.Rows
theorem find_at {α:Type} {l:List α} {p:α→Bool} {i:Nat} {y:α} (h:l[i]?=some y) (hp:p y=true) (hn:∀ z∈l.take i,p z=false):l.find? p=some y:=by
  induction l generalizing i with
  | nil=>simp at h
  | cons x r ih =>
    cases i with
    | zero =>
      simp at h
      subst h
      rw [List.find?_cons,hp]
    | succ i =>
      have hx:=hn x (by simp)
      rw [List.find?_cons,hx]
      exact ih (by simpa using h) fun z hz=>hn z (by rw [List.take_succ_cons]; exact List.mem_cons_of_mem _ hz)
theorem find_no {α:Type} {l:List α} {p:α→Bool} (hn:∀ z∈l,p z=false):l.find? p=none:=by
  rw [List.find?_eq_none]
  intro z hz
  rw [hn z hz]
  decide
theorem take_snoc {α:Type} {l:List α} {p:α→Bool} {i:Nat} {y:α} (h:l[i]?=some y) (hp:p y=false) (hn:∀ z∈l.take i,p z=false):∀ z∈l.take (i+1),p z=false:=fun z hz=>by
  rw [List.take_add_one,h] at hz
  rcases List.mem_append.mp hz with hz | hz
  · exact hn z hz
  · have:z=y:=by simpa using hz
    rw [this]; exact hp
theorem rf_get {pts:List (Addr×PX)} {i:Nat} {v:V} (h:(pts.map rf)[i]?=some v):∃ y,pts[i]?=some y∧v=rf y:=by
  rw [List.getElem?_map] at h
  obtain ⟨y,h1,h2⟩:=Option.map_eq_some_iff.mp h
  exact ⟨y,h1,h2.symm⟩
section
variable {P:Program} {w:World} {K:PySem.W.Frag} {mg:Str→Option Value} {base:Heap} {A:Adr}
theorem tyTx (T:Txt K mg A) {N:List Addr} {H:Hp} {p:Addr} {t:PX} (h:TAt A N H p t):TyOf K H (.ref p) (.ref (clsA A t.ask)):=by
  obtain ⟨dx,q1,ls,e,_⟩:=h.ex
  have TC:=T.tx (isTx A t.ask)
  exact .ins e TC.cl TC.hc T.hn T.htk TC.ho
theorem kitAsk (T:Txt K mg A) (b:Bool):PySem.W.kitOne K (.ref (clsA A b)) (.ref A.c_Asking)=some b:=by
  cases b
  · exact T.i_Answering_Asking
  · exact T.i_Asking_Asking
theorem kitAns (T:Txt K mg A) (b:Bool):PySem.W.kitOne K (.ref (clsA A b)) (.ref A.c_Answering)=some (!b):=by
  cases b
  · exact T.i_Answering_Answering
  · exact T.i_Asking_Answering
def sp_qbd (A:Adr):Sp:=fun vs H Q E=>∃ (N:List Addr) (x tl:Addr) (pts:List (Addr×PX)) (time begun num:Nat),vs=[.ref x,.int ((num:Nat):Int)]∧EndAt A N H x tl pts time begun ∧
  match pts.find? fun y=>decide (y.2.id=num) with
  | some y=>Q (.int ((y.2.st:Nat):Int)) H
  | none=>Fail H E A.c_NoTransaction
theorem ok_qbd (T:Txt K mg A):FnOk P w K mg base (CXE P w) 1 A.f_qbd A.v_qbd ["self","number"] (sp_qbd A):=by
  refine T.d_qbd.fn.okE sc_qbd (fun vs H Q E h=>?_) (fun cdv A' outer s H vs Q E hr h b=>?_)
  · obtain ⟨N,x,tl,pts,time,begun,num,rfl,_⟩:=h
    rfl
  · obtain ⟨N,x,tl,pts,time,begun,num,rfl,hE,k⟩:=h
    refine ⟨_,(pss_cons
 (ps_for b.passes rfl (pi_list (pe_fld (pv 0) rfl)) (pg_name (i:=2) sc_qbd.nd rfl (Or.inl rfl))
 (pss_one
 (ps_if (pt_cmpR op_eq (pe_fld (pv 2) rfl) (pv 1) (nomark _))
 (pss_one
 (ps_ret (pe_fld (pv 2) rfl)))
 pss_nil)))
 (pss_one
 (ps_raise b rfl rfl T.g_NoTransaction T.x_NoTransaction))),?_⟩
    obtain ⟨dx,e⟩:=hE.ob
    refine ⟨_,rfl,x,_,dx,_,_,rfl,e,T.cl_End,T.n_End_transactions,ef_transactions,tl,rfl,⟨_,SqL.of hE.ls⟩,for_list (K:=K) (a:=tl) (xs:=pts.map rf) (fun i σ H2=>H2=H∧(∃ v:Option V,σ=[some (.ref x),some (.int ((num:Nat):Int)),v])∧∀ y∈pts.take i,decide (y.2.id=num)=false) ⟨rfl,⟨none,rfl⟩,by simp⟩ (fun i σ H2 _ ⟨z,_⟩=>by rw [z]; exact SqL.of hE.ls) ?_ ?_⟩
    · rintro i v σ H2 hv ⟨rfl,⟨v0,rfl⟩,hn⟩
      obtain ⟨y,hy,rfl⟩:=rf_get hv
      have hT:=hE.tx y (List.mem_of_getElem? hy)
      obtain ⟨dt,q1,ls,et,_⟩:=hT.ex
      have TC:=T.tx (isTx A y.2.ask)
      have ei:=int_dec y.2.id num
      refine ⟨_,rfl,y.1,_,dt,_,_,rfl,et,TC.cl,TC.n_number,tf_number,_,rfl,rfl,_,rfl,?_⟩
      refine ite2 (fun h=>?_) fun h=>?_
      · rw [find_at hy (ei ▸ h) hn] at k
        exact ⟨_,rfl,y.1,_,dt,_,_,rfl,et,TC.cl,TC.n_state,tf_state,k⟩
      · exact ⟨rfl,⟨_,rfl⟩,take_snoc hy (ei ▸ nt h) hn⟩
    · rintro σ H2 ⟨rfl,⟨v0,rfl⟩,hn⟩
      rw [List.length_map,List.take_length] at hn
      rw [find_no hn] at k
      exact k _ (Same.refl _)
def sp_qat (A:Adr):Sp:=fun vs H Q E=>∃ (N:List Addr) (x tl q:Addr) (pts:List (Addr×PX)) (time begun now:Nat) (m:Ql47.Msg) (b:Bt),vs=[.ref x,.ref q,.int ((now:Nat):Int)]∧EndAt A N H x tl pts time begun∧MsgIm A N H q m b ∧
  if 64≤(pts.filter fun y=>!y.2.endCome now).length∨((pts.filter fun y=>!y.2.endCome now).any fun y=>y.2.ask && y.2.asksLike m)=true then Fail H E A.c_WrongTransaction else Ret H Q .non
theorem any_no {α:Type} {l:List α} {p:α→Bool} (hn:∀ z∈l,p z=false):l.any p=false:=by
  rw [List.any_eq_false]
  intro z hz
  rw [hn z hz]
  decide
theorem ok_qat (T:Txt K mg A):FnOk P w K mg base (CXE P w) 3 A.f_qat A.v_qat ["self","request","now"] (sp_qat A):=by
  refine T.d_qat.fn.okE sc_qat (fun vs H Q E h=>?_) (fun cdv A' outer s H vs Q E hr h b=>?_)
  · obtain ⟨N,x,tl,q,pts,time,begun,now,m,b,rfl,_⟩:=h
    rfl
  · obtain ⟨N,x,tl,q,pts,time,begun,now,m,bs,rfl,hE,hM,k⟩:=h
    refine ⟨_,(pss_cons
 (ps_set (i:=3) sc_qat.nd rfl (by first | exact Or.inl rfl | exact Or.inr rfl) (pe_meth (pv 0) T.cl_End T.d_qbe.me (ok_qbe T) (hr.mono (by decide)) T.d_qbe.bd .nil pass0 (pa_cons (pv 2) pa_nil)))
 (pss_cons
 (ps_if (pt_cmpR op_ge (pe_callB call_len_seq (by rfl) T.b_len bt_len (pa_cons (pv 3) pa_nil)) (pgi T.g_MOST_TRANSACTIONS) (nomark _))
 (pss_one
 (ps_raise b rfl rfl T.g_WrongTransaction T.x_WrongTransaction))
 pss_nil)
 (pss_one
 (ps_for b.passes rfl (pi_list (pv 3)) (pg_name (i:=4) sc_qat.nd rfl (Or.inl rfl))
 (pss_one
 (ps_if (PW.pt (pw_and (pt_val (pe_callB call_isinst (by rfl) T.b_isinstance bt_isinstance (pa_cons (pv 4) (pa_cons (pgR T.g_Asking) pa_nil)))) (pw_and1 (pt_val (pe_meth (pv 4) T.tx_Asking.cl T.d_qak.me (ok_qak T) (hr.mono (by decide)) T.d_qak.bd .nil pass0 (pa_cons (pv 1) pa_nil))))))
 (pss_one
 (ps_raise b rfl rfl T.g_WrongTransaction T.x_WrongTransaction))
 pss_nil)))))),?_⟩
    obtain ⟨dx,e⟩:=hE.ob
    refine ⟨_,rfl,x,dx,_,rfl,e,ef_no _ (by decide +kernel),_,rfl,N,x,tl,pts,time,begun,now,rfl,hE,fun r H1 s1 f1 h1=>?_⟩
    have hE1:=hE.same s1
    have hM1:=hM.same s1
    generalize hF:(pts.filter fun y=>!y.2.endCome now)=F at k h1
    have hF':∀ y∈F,y∈pts:=fun y hy=>by rw [← hF] at hy; exact (List.mem_filter.mp hy).1
    refine ⟨_,rfl,r,_,rfl,.inl (SqL.of h1),_,_,rfl,rfl,_,rfl,?_⟩
    rw [List.length_map]
    have d1:decide (((F.length:Nat):Int) ≥ 64)=decide (64≤F.length):=dge _ 64
    refine ite2 (fun h=>?_) fun h=>?_
    · rw [if_pos (.inl (of_decide_eq_true (d1 ▸ h)))] at k
      exact k _ s1
    · have h':¬ 64≤F.length:=fun z=>h (d1.trans (decide_eq_true z))
      refine ⟨_,rfl,r,rfl,⟨_,SqL.of h1⟩,for_list (K:=K) (a:=r) (xs:=F.map rf) (fun i σ H2=>Same H1 H2∧(∃ v:Option V,σ=[some (.ref x),some (.ref q),some (.int ((now:Nat):Int)),some (.ref r),v])∧∀ y∈F.take i,(y.2.ask && y.2.asksLike m)=false) ⟨Same.refl _,⟨none,rfl⟩,by simp⟩ (fun i σ H2 _ ⟨z,_⟩=>SqL.of (z _ _ h1)) ?_ ?_⟩
      · rintro i v σ H2 hv ⟨s2,⟨v0,rfl⟩,hn⟩
        obtain ⟨y,hy,rfl⟩:=rf_get hv
        have hT:=((hE1.tx y (hF' y (List.mem_of_getElem? hy))).same s2)
        refine ⟨_,rfl,_,_,_,_,rfl,tyTx T hT,kitAsk T _,_,rfl,?_⟩
        have cont:(y.2.ask && y.2.asksLike m)=false→_:=fun h=>(⟨s2,⟨_,rfl⟩,take_snoc hy h hn⟩:Same H1 H2∧(∃ v:Option V,[some (.ref x),some (.ref q),some (.int ((now:Nat):Int)),some (.ref r),some (rf y)]=[some (V.ref x),some (.ref q),some (.int ((now:Nat):Int)),some (.ref r),v])∧∀ y∈F.take (i+1),(y.2.ask && y.2.asksLike m)=false)
        refine ite2 (fun h=>?_) fun h=>?_
        · obtain ⟨dt,q1,ls,et,_⟩:=hT.exC (clsT A h)
          refine ⟨_,rfl,y.1,dt,_,rfl,et,tf_no _ (by decide +kernel),_,rfl,N,y.1,q,y.2,m,bs,rfl,h,hT,hM1.same s2,⟨_,rfl,?_⟩⟩
          refine ite2 (fun h2=>?_) fun h2=>?_
          · have:(F.any fun y=>y.2.ask && y.2.asksLike m)=true:=List.any_eq_true.mpr ⟨y,List.mem_of_getElem? hy,by rw [h,h2]; rfl⟩
            rw [if_pos (.inr this)] at k
            exact k _ (s1.trans s2)
          · exact cont (by rw [nt h2,Bool.and_false])
        · exact iteF (cont (by rw [nt h,Bool.false_and]))
      · rintro σ H2 ⟨s2,⟨v0,rfl⟩,hn⟩
        rw [List.length_map,List.take_length] at hn
        rw [if_neg fun z=>z.elim h' fun z=>by rw [any_no hn] at z; cases z] at k
        exact k _ (s1.trans s2)
def sp_qaw (A:Adr):Sp:=fun vs H Q E=>∃ (N:List Addr) (x tl q:Addr) (pts:List (Addr×PX)) (time begun num now:Nat) (m:Ql47.Msg) (b:Bt),vs=[.ref x,.int ((num:Nat):Int),.ref q,.int ((now:Nat):Int)]∧EndAt A N H x tl pts time begun∧MsgIm A N H q m b ∧
  match (pts.filter fun y=>!y.2.endCome now).find? fun y=>decide (y.2.id=num) && (!y.2.ask && (y.2.early && y.2.fits m)) with
  | some y=>Ret H Q (.ref y.1)
  | none=>Fail H E A.c_WrongTransaction
theorem ok_qaw (T:Txt K mg A):FnOk P w K mg base (CXE P w) 3 A.f_qaw A.v_qaw ["self","number","reply","now"] (sp_qaw A):=by
  refine T.d_qaw.fn.okE sc_qaw (fun vs H Q E h=>?_) (fun cdv A' outer s H vs Q E hr h b=>?_)
  · obtain ⟨N,x,tl,q,pts,time,begun,num,now,m,b,rfl,_⟩:=h
    rfl
  · obtain ⟨N,x,tl,q,pts,time,begun,num,now,m,bs,rfl,hE,hM,k⟩:=h
    refine ⟨_,(pss_cons
 (ps_for b.passes rfl (pi_list (pe_meth (pv 0) T.cl_End T.d_qbe.me (ok_qbe T) (hr.mono (by decide)) T.d_qbe.bd .nil pass0 (pa_cons (pv 3) pa_nil))) (pg_name (i:=4) sc_qaw.nd rfl (Or.inl rfl))
 (pss_one
 (ps_if (PW.pt (pw_and (pt_cmpR op_eq (pe_fld (pv 4) rfl) (pv 1) (nomark _)) (pw_and1 (pt_val (pe_callB call_isinst (by rfl) T.b_isinstance bt_isinstance (pa_cons (pv 4) (pa_cons (pgR T.g_Answering) pa_nil)))))))
 (pss_one
 (ps_if (PW.pt (pw_and (pt_val (pe_meth0 (pv 4) T.tx_Answering.cl T.tx_Answering.m_is_early (ok_qbw T) (hr.mono (by decide)) T.d_qbw.bd .nil pass0)) (pw_and1 (pt_val (pe_meth (pv 4) T.tx_Answering.cl T.d_qab.me (ok_qab T) (hr.mono (by decide)) T.d_qab.bd .nil pass0 (pa_cons (pv 2) pa_nil))))))
 (pss_one
 (ps_ret (pv 4)))
 pss_nil))
 pss_nil)))
 (pss_one
 (ps_raise b rfl rfl T.g_WrongTransaction T.x_WrongTransaction))),?_⟩
    obtain ⟨dx,e⟩:=hE.ob
    refine ⟨_,rfl,x,dx,_,rfl,e,ef_no _ (by decide +kernel),_,rfl,N,x,tl,pts,time,begun,now,rfl,hE,fun r H1 s1 f1 h1=>?_⟩
    have hE1:=hE.same s1
    have hM1:=hM.same s1
    generalize hF:(pts.filter fun y=>!y.2.endCome now)=F at k h1
    have hF':∀ y∈F,y∈pts:=fun y hy=>by rw [← hF] at hy; exact (List.mem_filter.mp hy).1
    refine ⟨r,rfl,⟨_,SqL.of h1⟩,for_list (K:=K) (a:=r) (xs:=F.map rf) (fun i σ H2=>Same H1 H2∧(∃ v:Option V,σ=[some (.ref x),some (.int ((num:Nat):Int)),some (.ref q),some (.int ((now:Nat):Int)),v])∧∀ y∈F.take i,(decide (y.2.id=num) && (!y.2.ask && (y.2.early && y.2.fits m)))=false) ⟨Same.refl _,⟨none,rfl⟩,by simp⟩ (fun i σ H2 _ ⟨z,_⟩=>SqL.of (z _ _ h1)) ?_ ?_⟩
    · rintro i v σ H2 hv ⟨s2,⟨v0,rfl⟩,hn⟩
      obtain ⟨y,hy,rfl⟩:=rf_get hv
      have hT:=((hE1.tx y (hF' y (List.mem_of_getElem? hy))).same s2)
      obtain ⟨dt,q1,ls,et,_⟩:=hT.ex
      have TC:=T.tx (isTx A y.2.ask)
      have ei:=int_dec y.2.id num
      have cont:(decide (y.2.id=num) && (!y.2.ask && (y.2.early && y.2.fits m)))=false→_:=fun h=>(⟨s2,⟨_,rfl⟩,take_snoc hy h hn⟩:Same H1 H2∧(∃ v:Option V,[some (.ref x),some (.int ((num:Nat):Int)),some (.ref q),some (.int ((now:Nat):Int)),some (rf y)]=[some (V.ref x),some (.int ((num:Nat):Int)),some (.ref q),some (.int ((now:Nat):Int)),v])∧∀ y∈F.take (i+1),(decide (y.2.id=num) && (!y.2.ask && (y.2.early && y.2.fits m)))=false)
      refine ⟨_,rfl,y.1,_,dt,_,_,rfl,et,TC.cl,TC.n_number,tf_number,_,rfl,rfl,_,rfl,?_⟩
      refine ite2 (fun h=>?_) fun h=>?_
      · have h0:decide (y.2.id=num)=true:=ei ▸ h
        refine ⟨_,rfl,_,_,_,_,rfl,tyTx T hT,kitAns T _,_,rfl,?_⟩
        refine ite2 (fun ha=>?_) fun ha=>?_
        · have hk:y.2.ask=false:=nb_true ha
          obtain ⟨dt,q1,ls,et,_⟩:=hT.exC (clsF A hk)
          refine ⟨_,rfl,y.1,dt,_,rfl,et,tf_no _ (by decide +kernel),N,y.1,y.2,rfl,hT,⟨_,rfl,?_⟩⟩
          refine ite2 (fun h1=>?_) fun h1=>?_
          · refine ⟨_,rfl,y.1,dt,_,rfl,et,tf_no _ (by decide +kernel),_,rfl,N,y.1,q,y.2,m,bs,rfl,hk,hT,hM1.same s2,⟨_,rfl,?_⟩⟩
            refine ite2 (fun h2=>?_) fun h2=>?_
            · rw [find_at hy (by rw [h0,ha,h1,h2]; rfl) hn] at k
              exact ⟨_,rfl,k _ (s1.trans s2)⟩
            · exact cont (by rw [nt h2,Bool.and_false,Bool.and_false,Bool.and_false])
          · exact iteF (cont (by rw [nt h1,Bool.false_and,Bool.and_false,Bool.and_false]))
        · exact cont (by rw [nt ha,Bool.false_and,Bool.and_false])
      · exact iteF (cont (by rw [show decide (y.2.id=num)=false from ei ▸ nt h,Bool.false_and]))
    · rintro σ H2 ⟨s2,⟨v0,rfl⟩,hn⟩
      rw [List.length_map,List.take_length] at hn
      rw [find_no hn] at k
      exact k _ (s1.trans s2)
end
end L2

namespace L2
open PySem PySem.Spec PyProof.Rows
theorem nd_index {pts:List (Addr×PX)} (nd:(pts.map Prod.fst).Nodup) {i j:Nat} {y z:Addr×PX} (hi:pts[i]?=some y) (hj:pts[j]?=some z) (h:y.1=z.1):i=j:=by
  have a1:(pts.map Prod.fst)[i]?=some y.1:=by rw [List.getElem?_map,hi]; rfl
  have a2:(pts.map Prod.fst)[j]?=some z.1:=by rw [List.getElem?_map,hj]; rfl
  have hl:i < (pts.map Prod.fst).length:=by
    rcases Nat.lt_or_ge i (pts.map Prod.fst).length with h | h
    · exact h
    · rw [List.getElem?_eq_none h] at a1; cases a1
  exact (List.getElem?_inj hl nd).mp (by rw [a1,a2,h])
theorem runT_len (t:PX) (now:Nat):(t.runT now).2.length≤1:=by
  unfold PX.runT
  by_cases h:t.endCome now=true
  · rw [if_pos h]
    by_cases h2:t.lostEnd=true
    · simp [h2]
    · simp [h2]
  · rw [if_neg h]
    by_cases h2:t.againCome now=true
    · simp [h2]
    · simp [h2]
theorem outs_len (now:Nat):∀ pts:List (Addr×PX),(pts.flatMap fun y=>(y.2.runT now).2).length≤pts.length
  | []=>Nat.le_refl _
  | y::r=>by
    rw [List.flatMap_cons,List.length_append,List.length_cons]
    have:=outs_len now r
    have:=runT_len y.2 now
    omega
def stepT (now:Nat) (y:Addr×PX):Addr×PX:=(y.1,(y.2.runT now).1)
def passP (now:Nat) (pts:List (Addr×PX)):List (Addr×PX):=(pts.map (stepT now)).filter fun y=>!y.2.ov
def passO (now:Nat) (pts:List (Addr×PX)):List Ql47.Out:=pts.flatMap fun y=>(y.2.runT now).2
section
variable {K:PySem.W.Frag} {mg:Str→Option Value} {A:Adr} {N N' M:List Addr} {H H':Hp} {x tl:Addr} {pts:List (Addr×PX)} {time begun time' begun':Nat}
theorem EndAt.ne_tl (h:EndAt A N H x tl pts time begun):tl≠x:=by
  obtain ⟨dx,e⟩:=h.ob
  exact ne_of h.ls e (by intro z; cases z)
theorem TAt.ne_end {p dx:Addr} {t:PX} (h:TAt A N H p t) (e:H x=some (.ins A.c_End dx (endF time begun tl))):p≠x:=fun z=>by
  obtain ⟨dt,q1,ls,et,_⟩:=h.ex
  rw [z,e] at et
  injection et with et
  injection et with _ _ et
  injection et with et _
  injection et with et _
  exact absurd et (by decide +kernel)
theorem TAt.ne_lst {p a:Addr} {t:PX} {xs:List V} (h:TAt A N H p t) (e:H a=some (.lst xs)):p≠a:=by
  obtain ⟨dt,q1,ls,et,_⟩:=h.ex
  exact ne_of et e (by intro z; cases z)
theorem MutOk.end_ (T:Txt K mg A) {dx:Addr} (e:H x=some (.ins A.c_End dx (endF time begun tl))):MutOk A N H [x]:=fun y hy=>by
  have:y=x:=by simpa using hy
  subst this
  exact .inr ⟨_,_,_,e,T.nm_End⟩
theorem EndAt.put (T:Txt K mg A) (h:EndAt A N H x tl pts time begun) (k:Keep [x] H H') {dx:Addr} (e:H' x=some (.ins A.c_End dx (endF time' begun' tl))) (hn:∀ z∈N',z∈N∨H z=none) (ht:tl∈N'):EndAt A N' H' x tl pts time' begun':=by
  obtain ⟨dx0,e0⟩:=h.ob
  refine ⟨⟨dx,e⟩,k _ _ h.ls (by simpa using h.ne_tl),fun y hy=>(h.tx y hy).move k (MutOk.end_ T e0) (by simpa using (h.tx y hy).ne_end e0) hn,h.nd,ht,h.few⟩
theorem EndAt.sub (h:EndAt A N H x tl pts time begun) (hn:∀ z∈N',z∈N) (ht:tl∈N'):EndAt A N' H x tl pts time begun :=
  ⟨h.ob,h.ls,fun y hy=>(h.tx y hy).move (Keep.refl [] H) MutOk.nil (by simp) fun z hz=>.inl (hn z hz),h.nd,ht,h.few⟩
end
section
variable {P:Program} {w:World} {K:PySem.W.Frag} {mg:Str→Option Value} {base:Heap} {A:Adr}
def sp_qaz (A:Adr):Sp:=fun vs H Q _=>∃ (N N0:List Addr) (x tl:Addr) (pts:List (Addr×PX)) (time begun now:Nat),vs=[.ref x,.int ((now:Nat):Int)]∧EndAt A N H x tl pts time begun∧(∀ z∈N0,z∈N) ∧
  ∀ r l tl' H',Keep (x::pts.map Prod.fst) H H'→H r=none→H l=none→H tl'=none→tl'≠l→EndAt A (tl'::l::N0) H' x tl' (passP now pts) now begun→RepAt A H' r l (passO now pts)→Q (.ref r) H'
theorem ok_qaz (T:Txt K mg A):FnOk P w K mg base CX0 6 A.f_qaz A.v_qaz ["self","now"] (sp_qaz A):=by
  refine T.d_qaz.fn.ok sc_qaz (fun vs H Q E h=>?_) (fun cdv A' outer s H vs Q E hr h=>?_)
  · obtain ⟨N,N0,x,tl,pts,time,begun,now,rfl,_⟩:=h
    rfl
  · obtain ⟨N,N0,x,tl,pts,time,begun,now,rfl,hE,hN0,k⟩:=h
    refine ⟨_,(pss_cons
 (ps_set (i:=2) sc_qaz.nd rfl (by first | exact Or.inl rfl | exact Or.inr rfl) (pe_make0 T.mk_Report (ok_qbr T) (hr.mono (by decide)) rfl T.g_Report T.d_qbr.bd .nil pass0))
 (pss_cons
 (ps_fld (pv 0) (pv 1) rfl)
 (pss_cons
 (ps_for PassesOwn.never rfl (pi_list (pe_fld (pv 0) rfl)) (pg_name (i:=3) sc_qaz.nd rfl (Or.inl rfl))
 (pss_one
 (ps_expr (pe_methD (pv 3) (T.txm_run_timers) (ok_qbx T) (hr.mono (by decide)) T.d_qbx.bd .nil pass0 (pa_cons (pv 1) (pa_cons (pv 2) pa_nil))))))
 (pss_cons
 (ps_expr (pe_meth0 (pv 0) T.cl_End T.d_qav.me (ok_qav T) (hr.mono (by decide)) T.d_qav.bd .nil pass0))
 (pss_one
 (ps_ret (pv 2))))))),?_⟩
    obtain ⟨dx,e⟩:=hE.ob
    intro r dr f1 f2 f3
    refine ⟨r,dr,rfl,upd_same,fun l H1 sx fl hR=>⟨rfl,?_⟩⟩
    have s1:Same H H1:=fun c o hc=>sx c o (by rw [upd_ne (ne_of_none hc f1),upd_ne (ne_of_none hc f2)]; exact hc) (ne_of_none hc f1)
    have nlr:l≠r:=fun z=>by rw [z,upd_same] at fl; cases fl
    have nld:l≠dr:=fun z=>by rw [z,upd_ne f3,upd_same] at fl; cases fl
    have fl0:H l=none:=by rw [upd_ne nlr,upd_ne nld] at fl; exact fl
    have e1:=s1 _ _ e
    refine ⟨_,rfl,_,rfl,x,_,dx,_,rfl,e1,T.cl_End,T.n_End_time,ef_lt,?_⟩
    rw [ep_time]
    have nrx:r≠x:=(ne_of_none e f1).symm
    have nlx:l≠x:=(ne_of_none e fl0).symm
    have kx:Keep [x] H (upd H1 x (.ins A.c_End dx (endF now begun tl))):=(Keep.of s1).upd (by simp)
    have hE2:EndAt A (tl::l::N0) (upd H1 x (.ins A.c_End dx (endF now begun tl))) x tl pts now begun:=hE.put T kx upd_same (fun z hz=>by
      rcases List.mem_cons.mp hz with rfl | hz
      · exact .inl hE.tn
      · rcases List.mem_cons.mp hz with rfl | hz
        · exact .inr fl0
        · exact .inl (hN0 z hz)) (by simp)
    have hR2:RepAt A (upd H1 x (.ins A.c_End dx (endF now begun tl))) r l []:=hR.keep ((Keep.refl [x] H1).upd (by simp)) (by simpa using nrx) (by simpa using nlx)
    generalize upd H1 x (.ins A.c_End dx (endF now begun tl))=H2 at kx hE2 hR2 ⊢
    obtain ⟨dx2,e2⟩:=hE2.ob
    have ntl:tl ∉ r::l::pts.map Prod.fst:=fun z=>by
      rcases List.mem_cons.mp z with z | z
      · exact ne_of_none hE.ls f1 z
      · rcases List.mem_cons.mp z with z | z
        · exact ne_of_none hE.ls fl0 z
        · obtain ⟨y,hy,q⟩:=List.mem_map.mp z
          exact (hE2.tx y hy).ne_lst hE2.ls q
    have nx:x ∉ r::l::pts.map Prod.fst:=fun z=>by
      rcases List.mem_cons.mp z with z | z
      · exact nrx z.symm
      · rcases List.mem_cons.mp z with z | z
        · exact nlx z.symm
        · obtain ⟨y,hy,q⟩:=List.mem_map.mp z
          exact (hE2.tx y hy).ne_end e2 q
    refine ⟨_,rfl,x,_,dx2,_,_,rfl,e2,T.cl_End,T.n_End_transactions,ef_transactions,tl,rfl,⟨_,SqL.of hE2.ls⟩,for_list (K:=K) (a:=tl) (xs:=pts.map rf) (fun i σ H3=>Keep (r::l::pts.map Prod.fst) H2 H3∧(∃ v:Option V,σ=[some (.ref x),some (.int ((now:Nat):Int)),some (.ref r),v])∧(∀ j y,pts[j]?=some y→TAt A (tl::l::N0) H3 y.1 (if j < i then (y.2.runT now).1 else y.2))∧RepAt A H3 r l (passO now (pts.take i)))
      ⟨Keep.refl _ _,⟨none,rfl⟩,fun j y hy=>by rw [if_neg (Nat.not_lt_zero _)]; exact hE2.tx y (List.mem_of_getElem? hy),hR2⟩ (fun i σ H3 _ ⟨z,_⟩=>SqL.of (z _ _ hE2.ls ntl)) ?_ ?_⟩
    · rintro i v σ H3 hv ⟨k3,⟨v0,rfl⟩,hT3,hR3⟩
      obtain ⟨y,hy,rfl⟩:=rf_get hv
      have hT:=hT3 i y hy
      rw [if_neg (Nat.lt_irrefl _)] at hT
      obtain ⟨dt,q1,ls,et,_⟩:=hT.ex
      have hlen:(passO now (pts.take i)).length < 200:=by
        have a1:=outs_len now (pts.take i)
        have a2:=hE.few
        have a3:(pts.take i).length≤pts.length:=List.length_take_le' i pts
        show (passO now (pts.take i)).length < 200
        unfold passO
        omega
      have hC:Cfg A (tl::l::N0) H3 y.1 r l y.2 (passO now (pts.take i)):=⟨hT,hR3,by simp⟩
      refine ⟨_,rfl,y.1,dt,_,_,rfl,et,isTx A _,tf_no _ (by decide +kernel),_,rfl,_,rfl,(tl::l::N0),y.1,r,l,y.2,now,_,rfl,hT,hR3,by simp,hlen,fun H4 k4 hT4 hR4=>?_⟩
      refine ⟨k3.trans (k4.mono fun c hc=>?_),⟨_,rfl⟩,fun j z hz=>?_,?_⟩
      · rcases List.mem_cons.mp hc with rfl | hc
        · exact List.mem_cons_of_mem _ (List.mem_cons_of_mem _ (List.mem_map.mpr ⟨y,List.mem_of_getElem? hy,rfl⟩))
        · rcases List.mem_cons.mp hc with rfl | hc
          · simp
          · have:c=l:=by simpa using hc
            subst this; simp
      · by_cases hj:j=i
        · subst hj
          rw [hy] at hz
          cases hz
          rw [if_pos (Nat.lt_succ_self _)]
          exact hT4
        · have hTz:=hT3 j z hz
          have ne:z.1 ∉ [y.1,r,l]:=fun q=>by
            rcases List.mem_cons.mp q with q | q
            · exact hj (nd_index hE.nd hz hy q)
            · exact hTz.apart hR3 q
          have:=hTz.keep k4 (hC.mut T) ne
          have ei:(j < i+1)=(j < i):=propext ⟨fun h=>by omega,fun h=>by omega⟩
          simp only [ei]
          exact this
      · have eo:passO now (pts.take (i+1))=passO now (pts.take i)++(y.2.runT now).2:=by
          unfold passO
          rw [List.take_add_one,hy,List.flatMap_append]
          simp
        rw [eo]
        exact hR4
    · rintro σ H3 ⟨k3,⟨v0,rfl⟩,hT3,hR3⟩
      rw [List.length_map] at hT3 hR3
      rw [List.take_length] at hR3
      have e3:=k3 _ _ e2 nx
      have hE3:EndAt A (tl::l::N0) H3 x tl (pts.map (stepT now)) now begun:=by
        refine ⟨⟨_,e3⟩,?_,fun y hy=>?_,?_,by simp,by rw [List.length_map]; exact hE.few⟩
        · rw [List.map_map]
          exact k3 _ _ hE2.ls ntl
        · obtain ⟨z,hz,rfl⟩:=List.mem_map.mp hy
          obtain ⟨j,hj⟩:=List.mem_iff_getElem?.mp hz
          have:=hT3 j z hj
          rw [if_pos] at this
          · exact this
          · rcases Nat.lt_or_ge j pts.length with h | h
            · exact h
            · rw [List.getElem?_eq_none h] at hj; cases hj
        · rw [List.map_map]
          exact hE.nd
      refine ⟨_,rfl,x,dx2,_,rfl,e3,ef_no _ (by decide +kernel),_,x,tl,_,now,begun,rfl,hE3,fun tl' H4 sx4 f4 hE4=>?_⟩
      refine ⟨_,rfl,?_⟩
      have kk:∀ c o,H c=some o→c ∉ x::pts.map Prod.fst→H3 c=some o:=fun c o hc nc=>by
        refine k3 _ _ (kx _ _ hc fun z=>nc ?_) fun z=>?_
        · have:c=x:=by simpa using z
          rw [this]; simp
        · rcases List.mem_cons.mp z with z | z
          · exact ne_of_none hc f1 z
          · rcases List.mem_cons.mp z with z | z
            · exact ne_of_none hc fl0 z
            · exact nc (List.mem_cons_of_mem _ z)
      refine k r l tl' H4 (fun c o hc nc=>sx4 _ _ (kk c o hc nc) fun z=>nc (by rw [z]; simp)) f1 fl0 ?_ (fun z=>by rw [z,hR3.lst] at f4; cases f4) (hE4.sub (fun z hz=>?_) (by simp)) (hR3.keep (Keep.ofX sx4 (by simp):Keep [x] H3 H4) (by simpa using nrx) (by simpa using nlx))
      · cases hq:H tl' with
        | none=>rfl
        | some o =>
          exfalso
          by_cases hm:tl'∈x::pts.map Prod.fst
          · rcases List.mem_cons.mp hm with z | z
            · rw [z,e3] at f4; cases f4
            · obtain ⟨y,hy,q⟩:=List.mem_map.mp z
              obtain ⟨dt,q1,ls,et,_⟩:=(hE3.tx (stepT now y) (List.mem_map.mpr ⟨y,hy,rfl⟩)).ex
              have et':H3 y.1=some _:=et
              rw [q,f4] at et'
              cases et'
          · rw [kk _ _ hq hm] at f4; cases f4
      · rcases List.mem_cons.mp hz with rfl | hz
        · simp
        · exact List.mem_cons_of_mem _ (List.mem_cons_of_mem _ hz)
def sp_qbh (A:Adr):Sp:=fun vs H Q E=>∃ (N N0:List Addr) (x tl:Addr) (pts:List (Addr×PX)) (time begun now:Nat),vs=[.ref x,.int ((now:Nat):Int)]∧EndAt A N H x tl pts time begun∧(∀ z∈N0,z∈N) ∧
  if now < time∨2 ^ 31≤now then Fail H E A.c_WrongMoment else
  ∀ r l tl' H',Keep (x::pts.map Prod.fst) H H'→H r=none→H l=none→H tl'=none→tl'≠l→EndAt A (tl'::l::N0) H' x tl' (passP now pts) now begun→RepAt A H' r l (passO now pts)→Q (.ref r) H'
theorem ok_qbh (T:Txt K mg A):FnOk P w K mg base (CXE P w) 7 A.f_qbh A.v_qbh ["self","now"] (sp_qbh A):=by
  refine T.d_qbh.fn.okE sc_qbh (fun vs H Q E h=>?_) (fun cdv A' outer s H vs Q E hr h b=>?_)
  · obtain ⟨N,N0,x,tl,pts,time,begun,now,rfl,_⟩:=h
    rfl
  · obtain ⟨N,N0,x,tl,pts,time,begun,now,rfl,hE,hN0,k⟩:=h
    refine ⟨_,(pss_cons
 (ps_expr (pe_meth (pv 0) T.cl_End T.d_qau.me (ok_qau T) (hr.mono (by decide)) T.d_qau.bd .nil b.self (pa_cons (pv 1) pa_nil)))
 (pss_one
 (ps_ret (pe_meth (pv 0) T.cl_End T.d_qaz.me (ok_qaz T) (hr.mono (by decide)) T.d_qaz.bd .nil pass0 (pa_cons (pv 1) pa_nil))))),?_⟩
    obtain ⟨dx,e⟩:=hE.ob
    refine ⟨_,rfl,x,dx,_,rfl,e,ef_no _ (by decide +kernel),_,rfl,x,dx,tl,time,begun,now,rfl,e,?_⟩
    refine ite2 (fun h=>?_) fun h=>?_
    · rw [if_pos h] at k
      exact k
    · rw [if_neg h] at k
      exact ⟨_,rfl,x,dx,_,rfl,e,ef_no _ (by decide +kernel),_,rfl,N,N0,x,tl,pts,time,begun,now,rfl,hE,hN0,k⟩
end
end L2

namespace L2
open PySem PySem.Spec PyProof.Rows
theorem mem1 {a b:Addr} (h:a∈[b]):a=b:=by simpa using h
def LOk (N0:List Addr) (H:Hp):Prop:=∀ z∈N0,∃ zs,H z=some (.lst zs)
theorem LOk.same {N0:List Addr} {H H':Hp} (h:LOk N0 H) (s:Same H H'):LOk N0 H':=fun z hz=>by
  obtain ⟨zs,e⟩:=h z hz
  exact ⟨zs,s _ _ e⟩
def setP (pts:List (Addr×PX)) (p:Addr) (t:PX):List (Addr×PX):=pts.map fun z=>if z.1=p then (z.1,t) else z
theorem setP_rf (pts:List (Addr×PX)) (p:Addr) (t:PX):(setP pts p t).map rf=pts.map rf:=by
  unfold setP
  rw [List.map_map]
  refine List.map_congr_left fun z _=>?_
  show rf (if z.1=p then (z.1,t) else z)=rf z
  by_cases h:z.1=p
  · rw [if_pos h]; rfl
  · rw [if_neg h]
theorem setP_fst (pts:List (Addr×PX)) (p:Addr) (t:PX):(setP pts p t).map Prod.fst=pts.map Prod.fst:=by
  unfold setP
  rw [List.map_map]
  refine List.map_congr_left fun z _=>?_
  show (if z.1=p then (z.1,t) else z).1=z.1
  by_cases h:z.1=p
  · rw [if_pos h]
  · rw [if_neg h]
section
variable {K:PySem.W.Frag} {mg:Str→Option Value} {A:Adr} {N N' M N0:List Addr} {H H':Hp} {x tl p r l:Addr} {pts:List (Addr×PX)} {time begun time' begun':Nat} {outs outs':List Ql47.Out} {t t':PX}
theorem RepAt.ne_end {dx:Addr} (h:RepAt A H r l outs) (e:H x=some (.ins A.c_End dx (endF time begun tl))):r≠x:=fun z=>by
  obtain ⟨dr,er⟩:=h.ob
  rw [z,e] at er
  injection er with er
  injection er with _ _ er
  injection er with er _
  injection er with er _
  exact absurd er (by decide +kernel)
theorem RepAt.l_end {dx:Addr} (h:RepAt A H r l outs) (e:H x=some (.ins A.c_End dx (endF time begun tl))):l≠x:=ne_of h.lst e (by intro z; cases z)
theorem RepAt.ne_lst {a:Addr} {xs:List V} (h:RepAt A H r l outs) (e:H a=some (.lst xs)):r≠a:=by
  obtain ⟨dr,er⟩:=h.ob
  exact ne_of er e (by intro z; cases z)
theorem EndAt.setTx (T:Txt K mg A) (hE:EndAt A N H x tl pts time begun) (hC:Cfg A N H p r l t outs) (hd:tl≠l) (k:Keep [p,r,l] H H') (hC':Cfg A N H' p r l t' outs'):EndAt A N H' x tl (setP pts p t') time begun:=by
  obtain ⟨dx,e⟩:=hE.ob
  refine ⟨⟨dx,k _ _ e fun z=>?_⟩,?_,fun y hy=>?_,by rw [setP_fst]; exact hE.nd,hE.tn,by unfold setP; rw [List.length_map]; exact hE.few⟩
  · rcases List.mem_cons.mp z with z | z
    · exact hC.tx.ne_end e z.symm
    · rcases List.mem_cons.mp z with z | z
      · exact hC.rp.ne_end e z.symm
      · exact hC.rp.l_end e (mem1 z).symm
  · rw [setP_rf]
    refine k _ _ hE.ls fun z=>?_
    rcases List.mem_cons.mp z with z | z
    · exact hC.tx.ne_lst hE.ls z.symm
    · rcases List.mem_cons.mp z with z | z
      · exact hC.rp.ne_lst hE.ls z.symm
      · exact hd (by simpa using z)
  · obtain ⟨z,hz,rfl⟩:=List.mem_map.mp hy
    by_cases h:z.1=p
    · rw [if_pos h]
      show TAt A N H' z.1 t'
      rw [h]
      exact hC'.tx
    · rw [if_neg h]
      refine (hE.tx z hz).keep k (hC.mut T) fun q=>?_
      rcases List.mem_cons.mp q with q | q
      · exact h q
      · exact (hE.tx z hz).apart hC.rp q
theorem EndAt.keepR (T:Txt K mg A) (hE:EndAt A N H x tl pts time begun) (hR:RepAt A H r l outs) (hl:l∈N) (hd:tl≠l) (k:Keep [r,l] H H'):EndAt A N H' x tl pts time begun:=by
  obtain ⟨dx,e⟩:=hE.ob
  refine ⟨⟨dx,k _ _ e fun z=>?_⟩,k _ _ hE.ls fun z=>?_,fun y hy=>(hE.tx y hy).keep k (hR.mut T hl) ((hE.tx y hy).apart hR),hE.nd,hE.tn,hE.few⟩
  · rcases List.mem_cons.mp z with z | z
    · exact hR.ne_end e z.symm
    · exact hR.l_end e (mem1 z).symm
  · rcases List.mem_cons.mp z with z | z
    · exact hR.ne_lst hE.ls z.symm
    · exact hd (by simpa using z)
theorem EndAt.snoc (T:Txt K mg A) (hE:EndAt A N H x tl pts time begun) (k:Keep [x,tl] H H') {dx:Addr} (e:H' x=some (.ins A.c_End dx (endF time begun' tl))) (hl:H' tl=some (.lst (pts.map rf++[.ref p]))) (ht:TAt A N H' p t) (hp:H p=none) (hf:pts.length < 64):EndAt A N H' x tl (pts++[(p,t)]) time begun':=by
  obtain ⟨dx0,e0⟩:=hE.ob
  refine ⟨⟨dx,e⟩,by rw [List.map_append]; exact hl,fun y hy=>?_,?_,hE.tn,by rw [List.length_append]; exact hf⟩
  · rcases List.mem_append.mp hy with hy | hy
    · refine (hE.tx y hy).keep k (fun z hz=>?_) fun z=>?_
      · rcases List.mem_cons.mp hz with rfl | hz
        · exact .inr ⟨_,_,_,e0,T.nm_End⟩
        · have:z=tl:=by simpa using hz
          subst this
          exact .inl ⟨hE.tn,_,hE.ls⟩
      · rcases List.mem_cons.mp z with z | z
        · exact (hE.tx y hy).ne_end e0 z
        · exact (hE.tx y hy).ne_lst hE.ls (by simpa using z)
    · have:y=(p,t):=by simpa using hy
      subst this
      exact ht
  · rw [List.map_append,List.nodup_append]
    refine ⟨hE.nd,by simp,fun a ha b hb=>?_⟩
    have:b=p:=by simpa using hb
    subst this
    obtain ⟨y,hy,rfl⟩:=List.mem_map.mp ha
    obtain ⟨dt,q1,ls,et,_⟩:=(hE.tx y hy).ex
    exact ne_of_none et hp
theorem new_heap (T:Txt K mg A) {q dx dp C:Addr} {m:Ql47.Msg} {b:Bt} (hE:EndAt A (tl::l::N0) H x tl pts time begun) (hR:RepAt A H r l outs) (hd:tl≠l) (hM:MsgIm A (tl::l::N0) H q m b) (hO:LOk N0 H) (e:H x=some (.ins A.c_End dx (endF time begun tl)))
    (f1:upd H x (.ins A.c_End dx (endF time (begun+1) tl)) p=none) (f2:upd H x (.ins A.c_End dx (endF time (begun+1) tl)) dp=none) (f3:dp≠p) :
    H p=none∧NOk (tl::l::N0) (upd (upd (upd H x (.ins A.c_End dx (endF time (begun+1) tl))) dp (.own p)) p (.ins C dp []))∧MsgIm A (tl::l::N0) (upd (upd (upd H x (.ins A.c_End dx (endF time (begun+1) tl))) dp (.own p)) p (.ins C dp [])) q m b ∧
    ∀ H6 t,SameX p (upd (upd (upd H x (.ins A.c_End dx (endF time (begun+1) tl))) dp (.own p)) p (.ins C dp [])) H6→TAt A (tl::l::N0) H6 p t→pts.length < 64 →
      H6 x=some (.ins A.c_End dx (endF time (begun+1) tl))∧H6 tl=some (.lst (pts.map rf))∧Keep [x,tl] H (upd H6 tl (.lst (pts.map rf++[.ref p])))∧EndAt A (tl::l::N0) (upd H6 tl (.lst (pts.map rf++[.ref p]))) x tl (pts++[(p,t)]) time (begun+1) ∧
      RepAt A (upd H6 tl (.lst (pts.map rf++[.ref p]))) r l outs∧MsgIm A (tl::l::N0) (upd H6 tl (.lst (pts.map rf++[.ref p]))) q m b∧TAt A (tl::l::N0) (upd H6 tl (.lst (pts.map rf++[.ref p]))) p t:=by
  have npx:p≠x:=fun z=>by rw [z,upd_same] at f1; cases f1
  have ndx:dp≠x:=fun z=>by rw [z,upd_same] at f2; cases f2
  have g1:H p=none:=by rw [upd_ne npx] at f1; exact f1
  have g2:H dp=none:=by rw [upd_ne ndx] at f2; exact f2
  have k5:Keep [x] H (upd (upd (upd H x (.ins A.c_End dx (endF time (begun+1) tl))) dp (.own p)) p (.ins C dp [])):=fun c o hc nc=>by
    rw [upd_ne (ne_of_none hc g1),upd_ne (ne_of_none hc g2),upd_ne (by simpa using nc)]
    exact hc
  have x5:upd (upd (upd H x (.ins A.c_End dx (endF time (begun+1) tl))) dp (.own p)) p (.ins C dp []) x=some (.ins A.c_End dx (endF time (begun+1) tl)):=by
    rw [upd_ne npx.symm,upd_ne ndx.symm,upd_same]
  generalize upd (upd (upd H x (.ins A.c_End dx (endF time (begun+1) tl))) dp (.own p)) p (.ins C dp [])=H5 at k5 x5 ⊢
  have nt:tl≠x:=hE.ne_tl
  have mo:MutOk A (tl::l::N0) H [x]:=MutOk.end_ T e
  have mo2:MutOk A (tl::l::N0) H [x,tl]:=fun z hz=>by
    rcases List.mem_cons.mp hz with rfl | hz
    · exact mo _ (by simp)
    · have:z=tl:=by simpa using hz
      subst this
      exact .inl ⟨by simp,_,hE.ls⟩
  refine ⟨g1,fun z hz=>?_,hM.keep k5 mo,fun H6 t sx hT hf=>?_⟩
  · rcases List.mem_cons.mp hz with rfl | hz
    · exact ⟨_,k5 _ _ hE.ls (by simpa using nt)⟩
    · rcases List.mem_cons.mp hz with rfl | hz
      · exact ⟨_,k5 _ _ hR.lst (by simpa using hR.l_end e)⟩
      · obtain ⟨zs,ez⟩:=hO z hz
        exact ⟨_,k5 _ _ ez (by simpa using ne_of ez e (by intro q; cases q))⟩
  · have x6:=sx _ _ x5 npx.symm
    have t6:=sx _ _ (k5 _ _ hE.ls (by simpa using nt)) (ne_of_none hE.ls g1)
    have k7:Keep [x,tl] H (upd H6 tl (.lst (pts.map rf++[.ref p]))):=fun c o hc nc=>by
      rw [upd_ne fun z=>nc (by rw [z]; simp)]
      exact sx _ _ (k5 _ _ hc fun z=>nc (by rw [mem1 z]; simp)) (ne_of_none hc g1)
    have hT7:TAt A (tl::l::N0) (upd H6 tl (.lst (pts.map rf++[.ref p]))) p t:=hT.keep ((Keep.refl [tl] H6).upd (by simp)) (fun z hz=>by
      have:z=tl:=by simpa using hz
      subst this
      exact .inl ⟨by simp,_,t6⟩) (by simpa using hT.ne_lst t6)
    refine ⟨x6,t6,k7,hE.snoc T k7 (dx:=dx) (by rw [upd_ne nt.symm]; exact x6) upd_same hT7 g1 hf,hR.keep k7 (fun z=>?_) (fun z=>?_),hM.keep k7 mo2,hT7⟩
    · rcases List.mem_cons.mp z with z | z
      · exact hR.ne_end e z
      · exact hR.ne_lst hE.ls (by simpa using z)
    · rcases List.mem_cons.mp z with z | z
      · exact hR.l_end e z
      · exact hd (mem1 z).symm
end
def replyP (m:Ql47.Msg) (b:Bt) (now:Nat) (pts:List (Addr×PX)):List (Addr×PX)×List Ql47.Out:=match pts.find? fun y=>y.2.ask && y.2.asksLike m with
  | some y=>(setP pts y.1 (y.2.takeReply m b now).1,(y.2.takeReply m b now).2)
  | none=>(pts,[.user 0 b])
section
variable {P:Program} {w:World} {K:PySem.W.Frag} {mg:Str→Option Value} {base:Heap} {A:Adr}
def sp_qbf (A:Adr):Sp:=fun vs H Q _=>∃ (N0:List Addr) (x tl q r l:Addr) (pts:List (Addr×PX)) (time begun now:Nat) (m:Ql47.Msg) (b:Bt) (outs:List Ql47.Out),vs=[.ref x,.ref q,.int ((now:Nat):Int),.ref r]∧EndAt A (tl::l::N0) H x tl pts time begun∧RepAt A H r l outs∧tl≠l∧LOk N0 H∧MsgIm A (tl::l::N0) H q m b∧b.length≤BM∧outs.length < 190 ∧
  (∀ y∈pts,y.2.ask=true→AckOk y.2.req m)∧∀ H',Keep (r::l::pts.map Prod.fst) H H'→EndAt A (tl::l::N0) H' x tl (replyP m b now pts).1 time begun→RepAt A H' r l (outs++(replyP m b now pts).2)→Q .non H'
theorem nok2 {A:Adr} {N N0:List Addr} {H:Hp} {x tl r l:Addr} {pts:List (Addr×PX)} {time begun:Nat} {outs:List Ql47.Out} (hE:EndAt A N H x tl pts time begun) (hR:RepAt A H r l outs) (hO:LOk N0 H):NOk (tl::l::N0) H:=fun z hz=>by
  rcases List.mem_cons.mp hz with rfl | hz
  · exact ⟨_,hE.ls⟩
  · rcases List.mem_cons.mp hz with rfl | hz
    · exact ⟨_,hR.lst⟩
    · obtain ⟨zs,e⟩:=hO z hz
      exact ⟨_,e⟩
theorem ok_qbf (T:Txt K mg A):FnOk P w K mg base CX0 6 A.f_qbf A.v_qbf ["self","reply","now","report"] (sp_qbf A):=by
  refine T.d_qbf.fn.ok sc_qbf (fun vs H Q E h=>?_) (fun cdv A' outer s H vs Q E hr h=>?_)
  · obtain ⟨N0,x,tl,q,r,l,pts,time,begun,now,m,b,outs,rfl,_⟩:=h
    rfl
  · obtain ⟨N0,x,tl,q,r,l,pts,time,begun,now,m,bs,outs,rfl,hE,hR,hd,hO,hM,hb,hn,hA,k⟩:=h
    refine ⟨_,(pss_cons
 (ps_for PassesOwn.never rfl (pi_list (pe_fld (pv 0) rfl)) (pg_name (i:=4) sc_qbf.nd rfl (Or.inl rfl))
 (pss_one
 (ps_if (PW.pt (pw_and (pt_val (pe_callB call_isinst (by rfl) T.b_isinstance bt_isinstance (pa_cons (pv 4) (pa_cons (pgR T.g_Asking) pa_nil)))) (pw_and1 (pt_val (pe_meth (pv 4) T.tx_Asking.cl T.d_qak.me (ok_qak T) (hr.mono (by decide)) T.d_qak.bd .nil pass0 (pa_cons (pv 1) pa_nil))))))
 (pss_cons
 (ps_expr (pe_meth (pv 4) T.tx_Asking.cl T.d_qas.me (ok_qas T) (hr.mono (by decide)) T.d_qas.bd .nil pass0 (pa_cons (pv 1) (pa_cons (pv 2) (pa_cons (pv 3) pa_nil)))))
 (pss_one
 ps_retN))
 pss_nil)))
 (pss_one
 (ps_expr (pe_meth (pv 3) T.cl_Report T.d_qbp.me (ok_qbp T) (hr.mono (by decide)) T.d_qbp.bd .nil pass0 (pa_cons (pgi T.g_TOLD) (pa_cons pe_int (pa_cons (pe_fld (pv 1) rfl) pa_nil))))))),?_⟩
    obtain ⟨dx,e⟩:=hE.ob
    refine ⟨_,rfl,x,_,dx,_,_,rfl,e,T.cl_End,T.n_End_transactions,ef_transactions,tl,rfl,⟨_,SqL.of hE.ls⟩,for_list (K:=K) (a:=tl) (xs:=pts.map rf) (fun i σ H2=>H2=H∧(∃ v:Option V,σ=[some (.ref x),some (.ref q),some (.int ((now:Nat):Int)),some (.ref r),v])∧∀ y∈pts.take i,(y.2.ask && y.2.asksLike m)=false) ⟨rfl,⟨none,rfl⟩,by simp⟩ (fun i σ H2 _ ⟨z,_⟩=>by rw [z]; exact SqL.of hE.ls) ?_ ?_⟩
    · rintro i v σ H2 hv ⟨rfl,⟨v0,rfl⟩,hno⟩
      obtain ⟨y,hy,rfl⟩:=rf_get hv
      have hym:=List.mem_of_getElem? hy
      have hT:=hE.tx y hym
      have cont:(y.2.ask && y.2.asksLike m)=false→_:=fun h=>(⟨rfl,⟨_,rfl⟩,take_snoc hy h hno⟩:H2=H2∧(∃ v:Option V,[some (.ref x),some (.ref q),some (.int ((now:Nat):Int)),some (.ref r),some (rf y)]=[some (V.ref x),some (.ref q),some (.int ((now:Nat):Int)),some (.ref r),v])∧∀ y∈pts.take (i+1),(y.2.ask && y.2.asksLike m)=false)
      refine ⟨_,rfl,_,_,_,_,rfl,tyTx T hT,kitAsk T _,_,rfl,?_⟩
      refine ite2 (fun h=>?_) fun h=>?_
      · obtain ⟨dt,q1,ls,et,_⟩:=hT.exC (clsT A h)
        refine ⟨_,rfl,y.1,dt,_,rfl,et,tf_no _ (by decide +kernel),_,rfl,(tl::l::N0),y.1,q,y.2,m,bs,rfl,h,hT,hM,⟨_,rfl,?_⟩⟩
        refine ite2 (fun h2=>?_) fun h2=>?_
        · have hC:Cfg A (tl::l::N0) H2 y.1 r l y.2 outs:=⟨hT,hR,by simp⟩
          refine ⟨_,rfl,y.1,dt,_,rfl,et,tf_no _ (by decide +kernel),_,rfl,_,rfl,_,rfl,(tl::l::N0),y.1,q,r,l,y.2,m,bs,now,outs,rfl,h,hC,nok2 hE hR hO,hM,hb,hn,hA y hym h,fun H3 k3 hC3=>?_⟩
          unfold replyP at k
          rw [find_at hy (by rw [h,h2]; rfl) hno] at k
          refine k H3 (k3.mono fun c hc=>?_) (hE.setTx T hC hd k3 hC3) hC3.rp
          rcases List.mem_cons.mp hc with rfl | hc
          · exact List.mem_cons_of_mem _ (List.mem_cons_of_mem _ (List.mem_map.mpr ⟨y,hym,rfl⟩))
          · rcases List.mem_cons.mp hc with rfl | hc
            · simp
            · have:c=l:=by simpa using hc
              subst this; simp
        · exact cont (by rw [nt h2,Bool.and_false])
      · exact iteF (cont (by rw [nt h,Bool.false_and]))
    · rintro σ H2 ⟨rfl,⟨v0,rfl⟩,hno⟩
      rw [List.length_map,List.take_length] at hno
      unfold replyP at k
      rw [find_no hno] at k
      obtain ⟨dr,er⟩:=hR.ob
      obtain ⟨o,hM',ho⟩:=hM.ex
      obtain ⟨dm,u,vi,sn,tg,cn,bw,br,me,em,_⟩:=hM'.ex
      refine ⟨_,rfl,r,dr,_,rfl,er,rp_add,_,rfl,q,_,dm,_,_,rfl,em,T.cl_Message,T.n_Message_octets,mf_octets,r,l,o,outs,bs,_,_,.user 0 bs,rfl,hR,hM'.oct,fun z=>ho (by rw [z]; simp),(by omega),hb,rfl,fun H3 k3 hR3=>?_⟩
      exact k H3 (k3.mono (by simp)) (hE.keepR T hR (by simp) hd k3) hR3
def sp_qbg (A:Adr):Sp:=fun vs H Q _=>∃ (N0:List Addr) (x tl q r l:Addr) (pts:List (Addr×PX)) (time begun now:Nat) (m:Ql47.Msg) (b:Bt) (outs:List Ql47.Out),vs=[.ref x,.ref q,.int ((now:Nat):Int),.ref r]∧EndAt A (tl::l::N0) H x tl pts time begun∧RepAt A H r l outs∧tl≠l∧LOk N0 H∧MsgIm A (tl::l::N0) H q m b∧b.length≤BM∧outs.length < 190 ∧
  match pts.find? fun y=>!y.2.ask && y.2.owns m with
  | some y=>∀ H',Keep (x::tl::r::l::pts.map Prod.fst) H H'→EndAt A (tl::l::N0) H' x tl (setP pts y.1 (y.2.takeReq m now).1) time begun→RepAt A H' r l (outs++(y.2.takeReq m now).2)→Q .non H'
  | none=>if m.method=Ql47.ACK then ∀ H',Keep (x::tl::r::l::pts.map Prod.fst) H H'→EndAt A (tl::l::N0) H' x tl pts time begun→RepAt A H' r l (outs++[.user 0 b])→Q .non H'
    else if pts.length < 64 then ∀ p H',Keep (x::tl::r::l::pts.map Prod.fst) H H'→H p=none→EndAt A (tl::l::N0) H' x tl (pts++[(p,newTx false (begun+1) (if m.method=Ql47.INVITE then 1 else 0) m b)]) time (begun+1)→RepAt A H' r l (outs++[.user (begun+1) b])→Q .non H'
    else Ret H Q .non
theorem ok_qbg (T:Txt K mg A):FnOk P w K mg base CX0 6 A.f_qbg A.v_qbg ["self","request","now","report"] (sp_qbg A):=by
  refine T.d_qbg.fn.ok sc_qbg (fun vs H Q E h=>?_) (fun cdv A' outer s H vs Q E hr h=>?_)
  · obtain ⟨N0,x,tl,q,r,l,pts,time,begun,now,m,b,outs,rfl,_⟩:=h
    rfl
  · obtain ⟨N0,x,tl,q,r,l,pts,time,begun,now,m,bs,outs,rfl,hE,hR,hd,hO,hM,hb,hn,k⟩:=h
    refine ⟨_,(pss_cons
 (ps_for PassesOwn.never rfl (pi_list (pe_fld (pv 0) rfl)) (pg_name (i:=4) sc_qbg.nd rfl (Or.inl rfl))
 (pss_one
 (ps_if (PW.pt (pw_and (pt_val (pe_callB call_isinst (by rfl) T.b_isinstance bt_isinstance (pa_cons (pv 4) (pa_cons (pgR T.g_Answering) pa_nil)))) (pw_and1 (pt_val (pe_meth (pv 4) T.tx_Answering.cl T.d_qag.me (ok_qag T) (hr.mono (by decide)) T.d_qag.bd .nil pass0 (pa_cons (pv 1) pa_nil))))))
 (pss_cons
 (ps_expr (pe_meth (pv 4) T.tx_Answering.cl T.d_qaj.me (ok_qaj T) (hr.mono (by decide)) T.d_qaj.bd .nil pass0 (pa_cons (pv 1) (pa_cons (pv 2) (pa_cons (pv 3) pa_nil)))))
 (pss_one
 ps_retN))
 pss_nil)))
 (pss_one
 (ps_if (pt_val (pe_meth (pv 1) T.cl_Message T.d_qbi.me (ok_qbi T) (hr.mono (by decide)) T.d_qbi.bd .nil pass0 (pa_cons pe_str pa_nil)))
 (pss_one
 (ps_expr (pe_meth (pv 3) T.cl_Report T.d_qbp.me (ok_qbp T) (hr.mono (by decide)) T.d_qbp.bd .nil pass0 (pa_cons (pgi T.g_TOLD) (pa_cons pe_int (pa_cons (pe_fld (pv 1) rfl) pa_nil))))))
 (pss_one
 (ps_if (pt_cmpR op_lt (pe_callB call_len_seq (by rfl) T.b_len bt_len (pa_cons (pe_fld (pv 0) rfl) pa_nil)) (pgi T.g_MOST_TRANSACTIONS) (nomark _))
 (pss_cons
 (ps_set (i:=5) sc_qbg.nd rfl (by first | exact Or.inl rfl | exact Or.inr rfl) (pe_make T.mk_Answering (ok_qac T) (hr.mono (by decide)) rfl T.g_Answering T.d_qac.bd .nil pass0 (pa_cons (pe_meth0 (pv 0) T.cl_End T.d_qay.me (ok_qay T) (hr.mono (by decide)) T.d_qay.bd .nil pass0) (pa_cons (pv 1) pa_nil))))
 (pss_cons
 (ps_expr (pe_bm PySem.F.plainAttrs_list PySem.F.slot_list_append PySem.F.type_list_append mt_append (pe_fld (pv 0) rfl) (pa_cons (pv 5) pa_nil)))
 (pss_one
 (ps_expr (pe_meth (pv 5) T.tx_Answering.cl T.tx_Answering.m_tell (ok_qce T) (hr.mono (by decide)) T.d_qce.bd .nil pass0 (pa_cons (pv 1) (pa_cons (pv 3) pa_nil)))))))
 pss_nil))))),?_⟩
    obtain ⟨dx,e⟩:=hE.ob
    refine ⟨_,rfl,x,_,dx,_,_,rfl,e,T.cl_End,T.n_End_transactions,ef_transactions,tl,rfl,⟨_,SqL.of hE.ls⟩,for_list (K:=K) (a:=tl) (xs:=pts.map rf) (fun i σ H2=>Same H H2∧(∃ v:Option V,σ=[some (.ref x),some (.ref q),some (.int ((now:Nat):Int)),some (.ref r),v,none])∧∀ y∈pts.take i,(!y.2.ask && y.2.owns m)=false) ⟨Same.refl _,⟨none,rfl⟩,by simp⟩ (fun i σ H2 _ ⟨z,_⟩=>SqL.of (z _ _ hE.ls)) ?_ ?_⟩
    · rintro i v σ H2 hv ⟨s2,⟨v0,rfl⟩,hno⟩
      obtain ⟨y,hy,rfl⟩:=rf_get hv
      have hym:=List.mem_of_getElem? hy
      have hE2:=hE.same s2
      have hR2:=hR.same s2
      have hT:=hE2.tx y hym
      have cont:∀ H3,Same H H3→(!y.2.ask && y.2.owns m)=false→_:=fun H3 s3 h=>(⟨s3,⟨_,rfl⟩,take_snoc hy h hno⟩:Same H H3∧(∃ v:Option V,[some (.ref x),some (.ref q),some (.int ((now:Nat):Int)),some (.ref r),some (rf y),none]=[some (V.ref x),some (.ref q),some (.int ((now:Nat):Int)),some (.ref r),v,none])∧∀ y∈pts.take (i+1),(!y.2.ask && y.2.owns m)=false)
      refine ⟨_,rfl,_,_,_,_,rfl,tyTx T hT,kitAns T _,_,rfl,?_⟩
      refine ite2 (fun h=>?_) fun h=>?_
      · have hk:y.2.ask=false:=nb_true h
        obtain ⟨dt,q1,ls,et,_⟩:=hT.exC (clsF A hk)
        refine ⟨_,rfl,y.1,dt,_,rfl,et,tf_no _ (by decide +kernel),_,rfl,(tl::l::N0),y.1,q,y.2,m,bs,rfl,hk,hT,hM.same s2,fun H3 s3=>⟨_,rfl,?_⟩⟩
        have s23:=s2.trans s3
        refine ite2 (fun h2=>?_) fun h2=>?_
        · have hC:Cfg A (tl::l::N0) H3 y.1 r l y.2 outs:=⟨hT.same s3,hR2.same s3,by simp⟩
          refine ⟨_,rfl,y.1,dt,_,rfl,s3 _ _ et,tf_no _ (by decide +kernel),_,rfl,_,rfl,_,rfl,(tl::l::N0),y.1,q,r,l,y.2,m,bs,now,outs,rfl,hk,hC,nok2 (hE.same s23) (hR.same s23) (hO.same s23),hM.same s23,hb,hn,trivial,fun H4 k4 hC4=>?_⟩
          rw [find_at hy (by rw [hk,h2]; rfl) hno] at k
          refine k H4 ((Keep.of s23).trans (k4.mono fun c hc=>?_)) ((hE.same s23).setTx T hC hd k4 hC4) hC4.rp
          rcases List.mem_cons.mp hc with rfl | hc
          · exact List.mem_cons_of_mem _ (List.mem_cons_of_mem _ (List.mem_cons_of_mem _ (List.mem_cons_of_mem _ (List.mem_map.mpr ⟨y,hym,rfl⟩))))
          · rcases List.mem_cons.mp hc with rfl | hc
            · simp
            · have:c=l:=by simpa using hc
              subst this; simp
        · exact cont H3 s23 (by rw [nt h2,Bool.and_false])
      · exact iteF (cont H2 s2 (by rw [nt h,Bool.false_and]))
    · rintro σ H2 ⟨s2,⟨v0,rfl⟩,hno⟩
      rw [List.length_map,List.take_length] at hno
      rw [find_no hno] at k
      have hM2:=hM.same s2
      obtain ⟨o,hM',ho⟩:=hM2.ex
      obtain ⟨dm,u,vi,sn,tg,cn,bw,br,me,em,_⟩:=hM'.ex
      refine ⟨_,rfl,q,dm,_,rfl,em,mf_has_method,_,q,o,m,bs,_,"ACK",rfl,name_ack,hM',fun H3 s3=>⟨_,rfl,?_⟩⟩
      have s23:=s2.trans s3
      have hE3:=hE.same s23
      have hR3:=hR.same s23
      have hM3:=hM.same s23
      refine ite2 (fun h=>?_) fun h=>?_
      · replace k:if m.method=Ql47.ACK then _ else _:=k
        rw [if_pos (show m.method=Ql47.ACK from of_decide_eq_true h)] at k
        obtain ⟨dr,er⟩:=hR3.ob
        refine ⟨_,rfl,r,dr,_,rfl,er,rp_add,_,rfl,q,_,dm,_,_,rfl,s3 _ _ em,T.cl_Message,T.n_Message_octets,mf_octets,r,l,o,outs,bs,_,_,.user 0 bs,rfl,hR3,hM'.oct.same s3,fun z=>ho (by rw [z]; simp),(by omega),hb,rfl,fun H4 k4 hR4=>?_⟩
        exact k H4 ((Keep.of s23).trans (k4.mono (by simp))) (hE3.keepR T hR3 (by simp) hd k4) hR4
      · replace k:if m.method=Ql47.ACK then _ else _:=k
        rw [if_neg (show ¬ m.method=Ql47.ACK from fun z=>h (decide_eq_true z))] at k
        obtain ⟨dx3,e3⟩:=hE3.ob
        refine ⟨_,rfl,x,_,dx3,_,_,rfl,e3,T.cl_End,T.n_End_transactions,ef_transactions,tl,_,rfl,.inl (SqL.of hE3.ls),_,_,rfl,rfl,_,rfl,?_⟩
        rw [List.length_map]
        have d1:decide (((pts.length:Nat):Int) < 64)=decide (pts.length < 64):=dlt _ 64
        refine ite2 (fun h=>?_) fun h=>?_
        · have hf:pts.length < 64:=of_decide_eq_true (d1 ▸ h)
          rw [if_pos hf] at k
          refine ⟨_,rfl,x,dx3,_,rfl,e3,ef_no _ (by decide +kernel),x,dx3,tl,time,begun,rfl,e3,_,rfl,fun p dp f1 f2 f3=>?_⟩
          obtain ⟨g1,hN5,hM5,nx⟩:=new_heap (C:=A.c_Answering) T hE3 hR3 hd hM3 (hO.same s23) e3 f1 f2 f3
          refine ⟨(tl::l::N0),p,dp,q,begun+1,m,bs,rfl,upd_same,hN5,hM5,fun H6 sx6 hT6=>⟨rfl,?_⟩⟩
          obtain ⟨x6,t6,k7,hE7,hR7,hM7,hT7⟩:=nx H6 _ sx6 hT6 hf
          refine ⟨_,rfl,x,_,dx3,_,_,rfl,x6,T.cl_End,T.n_End_transactions,ef_transactions,.inl ⟨rfl,_,SqL.of t6⟩,_,rfl,tl,_,_,rfl,rfl,t6,(by rw [List.length_map]; exact Nat.lt_of_lt_of_le hf (by decide)),?_⟩
          obtain ⟨dt,q1,ls,et,_⟩:=hT7.exC (clsF A rfl)
          refine ⟨_,rfl,p,dt,_,rfl,et,tf_no _ (by decide +kernel),_,rfl,_,rfl,(tl::l::N0),p,q,r,l,_,m,bs,outs,rfl,hT7,hM7,hb,hR7,by simp,(by omega),fun H8 k8 hT8 hM8 hR8=>?_⟩
          exact k p H8 (((Keep.of s23).trans (k7.mono (by simp))).trans (k8.mono (by simp))) (s23.free g1) (hE7.keepR T hR7 (by simp) hd k8) hR8
        · rw [if_neg fun z=>h (d1.trans (decide_eq_true z))] at k
          exact k H3 s23
end
end L2

namespace L2
open PySem PySem.Spec PyProof.Rows
theorem Room.uMark {k j:Nat} {A:Around} (r:Room k A) (h:j≤k) {e:Value}:RoomU j (A.mark (some e)):=⟨by have:=r.dp; show A.depth+3 * j+5 < _; omega,by have:=r.un; show A.units+16 * j+200 < _; omega⟩
def ansI (outs:List Ql47.Out):List Int:=(outs.length:Int)::outsInts outs
def dropO (pts:List (Addr×PX)):List (Addr×PX):=pts.filter fun y=>!y.2.ov
def Fr (H:Hp) (M:List Addr) (a:Addr):Prop:=∀ c o,H c=some o→c ∉ M→c≠a
theorem Fr.of {H H1:Hp} {M:List Addr} {a:Addr} (k:Keep M H H1) (h:H1 a=none):Fr H M a:=fun c o hc nc e=>by
  have:=k c o hc nc
  rw [e,h] at this
  cases this
def Done (A:Adr) (N0:List Addr) (H:Hp) (x:Addr) (ps0:List Addr) (Q:VK) (time begun:Nat) (pts:List (Addr×PX)) (outs:List Ql47.Out):Prop :=
  ∀ q tl H',Keep (x::ps0) H H'→Fr H (x::ps0) q→Fr H (x::ps0) tl→EndAt A (tl::N0) H' x tl pts time begun→H' q=some (.lst ((ansI outs).map V.int))→Q (.ref q) H'
section
variable {K:PySem.W.Frag} {mg:Str→Option Value} {A:Adr} {N N' M N0:List Addr} {H H' H1:Hp} {x tl p q r l a:Addr} {pts:List (Addr×PX)} {time begun time' begun':Nat} {outs outs':List Ql47.Out} {t t':PX} {m:Ql47.Msg} {b:Bt}
theorem MsgAt.im (h:MsgAt A (fun x=>H x=none) H' q a m b) (hN:NOk N H) (ha:a ∉ N):MsgIm A N H' q m b:=by
  obtain ⟨dx,u,vi,sn,tg,cn,bw,br,me,e,a1,a2,a3,a4,a5,a6,a7,a8⟩:=h.ex
  have f:∀ {z:Addr} {b:Bt},BF (fun x=>H x=none) H' z b→BF (Imm N) H' z b:=fun {z b} w=>⟨w.1,fun hz=>by
    obtain ⟨o,ho⟩:=hN z hz
    rw [w.2] at ho; cases ho⟩
  exact ⟨a,⟨⟨dx,u,vi,sn,tg,cn,bw,br,me,e,f a1,f a2,f a3,f a4,f a5,f a6,f a7,f a8⟩,h.oct⟩,ha⟩
theorem EndAt.nok (h:EndAt A (tl::N0) H x tl pts time begun) (hO:LOk N0 H):NOk (tl::N0) H:=fun z hz=>by
  rcases List.mem_cons.mp hz with rfl | hz
  · exact ⟨_,h.ls⟩
  · obtain ⟨zs,e⟩:=hO z hz
    exact ⟨_,e⟩
theorem EndAt.lst_out {xs:List V} (h:EndAt A N H x tl pts time begun) (e:H a=some (.lst xs)):a ∉ x::pts.map Prod.fst:=fun z=>by
  obtain ⟨dx,ex⟩:=h.ob
  rcases List.mem_cons.mp z with z | z
  · rw [z,ex] at e; cases e
  · obtain ⟨y,hy,q⟩:=List.mem_map.mp z
    exact (h.tx y hy).ne_lst e q
theorem LOk.pass (hO:LOk N0 H) (h:EndAt A N H x tl pts time begun) (k:Keep (x::pts.map Prod.fst) H H'):LOk N0 H':=fun z hz=>by
  obtain ⟨zs,e⟩:=hO z hz
  exact ⟨zs,k _ _ e (h.lst_out e)⟩
theorem sub31 {tl':Addr}:∀ z∈tl'::N0,z∈tl'::l::N0:=fun z hz=>by
  rcases List.mem_cons.mp hz with rfl | hz
  · simp
  · exact List.mem_cons_of_mem _ (List.mem_cons_of_mem _ hz)
theorem EndAt.mut1 (T:Txt K mg A) (h:EndAt A N H x tl pts time begun):MutOk A N H (x::pts.map Prod.fst):=fun y hy=>h.mut T y (by
  rcases List.mem_cons.mp hy with rfl | hy
  · simp
  · exact List.mem_cons_of_mem _ (List.mem_cons_of_mem _ hy))
theorem sub2 {tl':Addr} (h1:H tl'=none) (h2:H l=none):∀ z∈(tl'::l::N0),z∈tl::N0∨H z=none:=fun z hz=>by
  rcases List.mem_cons.mp hz with rfl | hz
  · exact .inr h1
  · rcases List.mem_cons.mp hz with rfl | hz
    · exact .inr h2
    · exact .inl (List.mem_cons_of_mem _ hz)
theorem stay_len (hov:∀ y∈pts,y.2.ov=false) (now:Nat):passP now pts=(pts.filter fun y=>!y.2.endCome now).map (stepT now):=by
  unfold passP
  rw [List.filter_map]
  refine congrArg _ (List.filter_congr fun y hy=>?_)
  show (!(y.2.runT now).1.ov)=!y.2.endCome now
  unfold PX.runT
  by_cases h:y.2.endCome now=true
  · rw [if_pos h,h]
  · rw [if_neg h,nt h]
    by_cases h2:y.2.againCome now=true
    · rw [if_pos h2]
      show (!y.2.ov)=_
      rw [hov y hy]
    · rw [if_neg h2]
      show (!y.2.ov)=_
      rw [hov y hy]
end
section
variable {P:Program} {w:World} {K:PySem.W.Frag} {mg:Str→Option Value} {base:Heap} {A:Adr}
def sp_qbc (A:Adr):Sp:=fun vs H Q E=>∃ (N0:List Addr) (x tl a:Addr) (pts:List (Addr×PX)) (time begun now:Nat) (b:Bt),vs=[.ref x,.ref a,.int ((now:Nat):Int)]∧EndAt A (tl::N0) H x tl pts time begun∧LOk N0 H∧(∀ y∈pts,y.2.ov=false)∧IsB H a b∧a ∉ tl::N0∧b.length≤8192 ∧
  if now < time∨2 ^ 31≤now then Fail H E A.c_WrongMoment else match Ql47.read b with
  | none=>Fail H E A.c_WrongMessage
  | some m=>if ¬ statN m=0∨m.method=Ql47.ACK then Fail H E A.c_WrongMessage
    else if 64≤(pts.filter fun y=>!y.2.endCome now).length∨((pts.filter fun y=>!y.2.endCome now).any fun y=>y.2.ask && y.2.asksLike m)=true then Fail H E A.c_WrongTransaction
    else ∀ p,Done A N0 H x (pts.map Prod.fst) Q now (begun+1) (passP now pts++[(p,(newTx true (begun+1) 0 m b).begin_ now)]) (passO now pts++[.wire (begun+1) b])
theorem setP_last {pts:List (Addr×PX)} {p:Addr} {t t':PX} (h:p ∉ pts.map Prod.fst):setP (pts++[(p,t)]) p t'=pts++[(p,t')]:=by
  unfold setP
  rw [List.map_append]
  have:(pts.map fun z=>if z.1=p then (z.1,t') else z)=pts:=by
    rw [List.map_congr_left (g:=fun z=>z) fun z hz=>if_neg fun e=>h (List.mem_map.mpr ⟨z,hz,e⟩),List.map_id']
  rw [this]
  simp
theorem ok_qbc (T:Txt K mg A):FnOk P w K mg base (CXE P w) 10 A.f_qbc A.v_qbc ["self","octets","now"] (sp_qbc A):=by
  refine T.d_qbc.fn.okE sc_qbc (fun vs H Q E h=>?_) (fun cdv A' outer s H vs Q E hr h b=>?_)
  · obtain ⟨N0,x,tl,a,pts,time,begun,now,b,rfl,_⟩:=h
    rfl
  · obtain ⟨N0,x,tl,a,pts,time,begun,now,bs,rfl,hE,hO,hov,hB,hat,hbl,k⟩:=h
    refine ⟨_,(pss_cons
 (ps_expr (pe_meth (pv 0) T.cl_End T.d_qau.me (ok_qau T) (hr.mono (by decide)) T.d_qau.bd .nil b.self (pa_cons (pv 2) pa_nil)))
 (pss_cons
 (ps_set (i:=3) sc_qbc.nd rfl (by first | exact Or.inl rfl | exact Or.inr rfl) (pe_call (ok_qda T) (hr.mono (by decide)) rfl T.d_qda.at_ T.d_qda.fn.kp T.d_qda.bd .nil b.self (pa_cons (pv 1) pa_nil)))
 (pss_cons
 (ps_if (PW.pt (pw_or (pt_not (pt_val (pe_meth0 (pv 3) T.cl_Message T.d_qbk.me (ok_qbk T) (hr.mono (by decide)) T.d_qbk.bd .nil pass0))) (pw_or1 (pt_val (pe_meth (pv 3) T.cl_Message T.d_qbi.me (ok_qbi T) (hr.mono (by decide)) T.d_qbi.bd .nil pass0 (pa_cons pe_str pa_nil))))))
 (pss_one
 (ps_raise b rfl rfl T.g_WrongMessage T.x_WrongMessage))
 pss_nil)
 (pss_cons
 (ps_expr (pe_meth (pv 0) T.cl_End T.d_qat.me (ok_qat T) (hr.mono (by decide)) T.d_qat.bd .nil b.self (pa_cons (pv 3) (pa_cons (pv 2) pa_nil))))
 (pss_cons
 (ps_set (i:=4) sc_qbc.nd rfl (by first | exact Or.inl rfl | exact Or.inr rfl) (pe_meth (pv 0) T.cl_End T.d_qaz.me (ok_qaz T) (hr.mono (by decide)) T.d_qaz.bd .nil pass0 (pa_cons (pv 2) pa_nil)))
 (pss_cons
 (ps_set (i:=5) sc_qbc.nd rfl (by first | exact Or.inl rfl | exact Or.inr rfl) (pe_make T.mk_Asking (ok_qan T) (hr.mono (by decide)) rfl T.g_Asking T.d_qan.bd .nil pass0 (pa_cons (pe_meth0 (pv 0) T.cl_End T.d_qay.me (ok_qay T) (hr.mono (by decide)) T.d_qay.bd .nil pass0) (pa_cons (pv 3) pa_nil))))
 (pss_cons
 (ps_expr (pe_bm PySem.F.plainAttrs_list PySem.F.slot_list_append PySem.F.type_list_append mt_append (pe_fld (pv 0) rfl) (pa_cons (pv 5) pa_nil)))
 (pss_cons
 (ps_expr (pe_meth (pv 5) T.tx_Asking.cl T.d_qal.me (ok_qal T) (hr.mono (by decide)) T.d_qal.bd .nil pass0 (pa_cons (pv 2) (pa_cons (pv 4) pa_nil))))
 (pss_one
 (ps_ret (pe_meth0 (pv 4) T.cl_Report T.d_qbq.me (ok_qbq T) (hr.mono (by decide)) T.d_qbq.bd .nil pass0))))))))))),?_⟩
    obtain ⟨dx,e⟩:=hE.ob
    refine ⟨_,rfl,x,dx,_,rfl,e,ef_no _ (by decide +kernel),_,rfl,x,dx,tl,time,begun,now,rfl,e,?_⟩
    refine ite2 (fun h=>?_) fun h=>?_
    · rw [if_pos h] at k
      exact k
    · rw [if_neg h] at k
      refine ⟨_,rfl,a,bs,rfl,hB,?_⟩
      cases hrd:Ql47.read bs with
      | none =>
        rw [hrd] at k
        exact k
      | some m =>
        rw [hrd] at k
        intro q H1 s1 fq hMa
        have hM:=hMa.im (hE.nok hO) hat
        have hE1:=hE.same s1
        have e1:=s1 _ _ e
        obtain ⟨o,hM',ho⟩:=hM.ex
        obtain ⟨dm,u,vi,sn,tg,cn,bw,br,me,em,_⟩:=hM'.ex
        replace k:if ¬ statN m=0∨m.method=Ql47.ACK then _ else _:=k
        refine ⟨_,rfl,q,dm,_,rfl,em,mf_is_request,_,q,o,m,bs,rfl,hM',_,rfl,?_⟩
        refine ite2 (fun h=>?_) fun h=>?_
        · have h':¬ statN m=0:=of_decide_eq_false (nb_true h)
          rw [if_pos (.inl h')] at k
          exact iteT (k _ s1)
        · have h':statN m=0:=of_decide_eq_true (nb_false h)
          refine ⟨_,rfl,q,dm,_,rfl,em,mf_has_method,_,q,o,m,bs,_,"ACK",rfl,name_ack,hM',fun H2 s2=>⟨_,rfl,?_⟩⟩
          have s12:=s1.trans s2
          refine ite2 (fun h2=>?_) fun h2=>?_
          · rw [if_pos (.inr (of_decide_eq_true h2:m.method=Ql47.ACK))] at k
            exact k _ s12
          · rw [if_neg fun z=>z.elim (fun z=>z h') fun z=>h2 (decide_eq_true z)] at k
            have hE2:=hE.same s12
            have e2:=s12 _ _ e
            have hM2:=hM.same s2
            refine ⟨_,rfl,x,dx,_,rfl,e2,ef_no _ (by decide +kernel),_,rfl,_,rfl,(tl::N0),x,tl,q,pts,time,begun,now,m,bs,rfl,hE2,hM2,?_⟩
            refine ite2 (fun h3=>?_) fun h3=>?_
            · rw [if_pos h3] at k
              exact fun H3 s3=>k _ (s12.trans s3)
            · rw [if_neg h3] at k
              intro H3 s3
              have s13:=s12.trans s3
              have hE3:=hE.same s13
              have hM3:=hM2.same s3
              refine ⟨_,rfl,x,dx,_,rfl,s13 _ _ e,ef_no _ (by decide +kernel),_,rfl,(tl::N0),N0,x,tl,pts,time,begun,now,rfl,hE3,(fun z hz=>List.mem_cons_of_mem _ hz),fun r l tl' H4 k4 fr fl ft nd hE4 hR4=>?_⟩
              have hM4:=hM3.move k4 (hE3.mut1 T) (sub2 ft fl)
              obtain ⟨dx4,e4⟩:=hE4.ob
              have hf:(passP now pts).length < 64:=by
                rw [stay_len hov,List.length_map]
                exact Nat.lt_of_not_le fun z=>h3 (.inl z)
              refine ⟨_,rfl,x,dx4,_,rfl,e4,ef_no _ (by decide +kernel),x,dx4,tl',now,begun,rfl,e4,_,rfl,fun p dp f1 f2 f3=>?_⟩
              obtain ⟨g1,hN5,hM5,nx⟩:=new_heap (C:=A.c_Asking) T hE4 hR4 nd hM4 ((hO.same s13).pass hE3 k4) e4 f1 f2 f3
              refine ⟨(tl'::l::N0),p,dp,q,begun+1,m,bs,rfl,upd_same,hN5,hM5,fun H6 sx6 hT6=>⟨rfl,?_⟩⟩
              obtain ⟨x6,t6,k7,hE7,hR7,hM7,hT7⟩:=nx H6 _ sx6 hT6 hf
              refine ⟨_,rfl,x,_,dx4,_,_,rfl,x6,T.cl_End,T.n_End_transactions,ef_transactions,.inl ⟨rfl,_,SqL.of t6⟩,_,rfl,tl',_,_,rfl,rfl,t6,(by rw [List.length_map]; exact Nat.lt_of_lt_of_le hf (by decide)),?_⟩
              obtain ⟨dt,q1,ls,et,_⟩:=hT7.exC (clsT A rfl)
              have hlen:(passO now pts).length≤64:=Nat.le_trans (outs_len now pts) hE.few
              have hC7:Cfg A (tl'::l::N0) _ p r l _ (passO now pts):=⟨hT7,hR7,by simp⟩
              refine ⟨_,rfl,p,dt,_,rfl,et,tf_no _ (by decide +kernel),_,rfl,_,rfl,(tl'::l::N0),p,r,l,_,now,passO now pts,rfl,rfl,hC7,Nat.le_trans hbl (by decide),(by omega),fun H8 k8 hC8=>?_⟩
              obtain ⟨dr,er⟩:=hC8.rp.ob
              have hE8:=hE7.setTx T hC7 nd k8 hC8
              have np:p ∉ (passP now pts).map Prod.fst:=fun z=>by
                obtain ⟨y,hy,rfl⟩:=List.mem_map.mp z
                obtain ⟨dt,q1,ls,et,_⟩:=(hE4.tx y hy).ex
                rw [g1] at et; cases et
              rw [setP_last np] at hE8
              refine ⟨_,rfl,r,dr,_,rfl,er,rp_answer,r,l,_,rfl,hC8.rp,(by rw [List.length_append]; show _+1≤_; omega),fun qa H9 s9 fa ha=>?_⟩
              have k14:Keep (x::pts.map Prod.fst) H H4:=(Keep.of s13).trans k4
              have k18:Keep (x::pts.map Prod.fst) H H8:=fun c o hc nc=>by
                have c3:=s13 _ _ hc
                have c4:=k14 _ _ hc nc
                refine k8 _ _ (k7 _ _ c4 fun z=>?_) fun z=>?_
                · rcases List.mem_cons.mp z with z | z
                  · exact nc (by rw [z]; simp)
                  · exact ne_of_none c3 ft (mem1 z)
                · rcases List.mem_cons.mp z with z | z
                  · exact ne_of_none c4 g1 z
                  · rcases List.mem_cons.mp z with z | z
                    · exact ne_of_none c3 fr z
                    · exact ne_of_none c3 fl (mem1 z)
              exact k p qa tl' H9 (k18.trans (Keep.of s9)) (Fr.of k18 fa) (fun c o hc nc z=>ne_of_none (s13 _ _ hc) ft z) ((hE8.sub sub31 (by simp)).same s9) ha
end
end L2

namespace L2
open PySem PySem.Spec PyProof.Rows
theorem sub41 {N0:List Addr} {tl2 tl' l:Addr}:∀ z∈tl2::N0,z∈tl2::tl'::l::N0:=fun z hz=>by
  rcases List.mem_cons.mp hz with rfl | hz
  · simp
  · exact List.mem_cons_of_mem _ (List.mem_cons_of_mem _ (List.mem_cons_of_mem _ hz))
theorem runT_cases (t:PX) (now:Nat):(t.runT now).1={ t with ov:=true }∨(t.runT now).1=t.startAgain now t.nextWait∨(t.runT now).1=t:=by
  unfold PX.runT
  by_cases h:t.endCome now=true
  · rw [if_pos h]; exact .inl rfl
  · rw [if_neg h]
    by_cases h2:t.againCome now=true
    · rw [if_pos h2]; exact .inr (.inl rfl)
    · rw [if_neg h2]; exact .inr (.inr rfl)
theorem runT_ask (t:PX) (now:Nat):(t.runT now).1.ask=t.ask:=by
  rcases runT_cases t now with h | h | h <;> rw [h] <;> rfl
theorem runT_req (t:PX) (now:Nat):(t.runT now).1.req=t.req:=by
  rcases runT_cases t now with h | h | h <;> rw [h] <;> rfl
section
variable {P:Program} {w:World} {K:PySem.W.Frag} {mg:Str→Option Value} {base:Heap} {A:Adr}
def sp_qbb (A:Adr):Sp:=fun vs H Q E=>∃ (N0:List Addr) (x tl a:Addr) (pts:List (Addr×PX)) (time begun num now:Nat) (b:Bt),vs=[.ref x,.int ((num:Nat):Int),.ref a,.int ((now:Nat):Int)]∧EndAt A (tl::N0) H x tl pts time begun∧LOk N0 H∧(∀ y∈pts,y.2.ov=false)∧IsB H a b∧a ∉ tl::N0∧b.length≤8192 ∧
  if now < time∨2 ^ 31≤now then Fail H E A.c_WrongMoment else match Ql47.read b with
  | none=>Fail H E A.c_WrongMessage
  | some m=>if statN m=0 then Fail H E A.c_WrongMessage
    else match (pts.filter fun y=>!y.2.endCome now).find? fun y=>decide (y.2.id=num) && (!y.2.ask && (y.2.early && y.2.fits m)) with
    | none=>Fail H E A.c_WrongTransaction
    | some y=>Done A N0 H x (pts.map Prod.fst) Q now begun (dropO (setP (passP now pts) y.1 ((y.2.runT now).1.sendReply m b now))) (passO now pts++[.wire (y.2.runT now).1.id b])
theorem ok_qbb (T:Txt K mg A):FnOk P w K mg base (CXE P w) 10 A.f_qbb A.v_qbb ["self","number","octets","now"] (sp_qbb A):=by
  refine T.d_qbb.fn.okE sc_qbb (fun vs H Q E h=>?_) (fun cdv A' outer s H vs Q E hr h b=>?_)
  · obtain ⟨N0,x,tl,a,pts,time,begun,num,now,b,rfl,_⟩:=h
    rfl
  · obtain ⟨N0,x,tl,a,pts,time,begun,num,now,bs,rfl,hE,hO,hov,hB,hat,hbl,k⟩:=h
    refine ⟨_,(pss_cons
 (ps_expr (pe_meth (pv 0) T.cl_End T.d_qau.me (ok_qau T) (hr.mono (by decide)) T.d_qau.bd .nil b.self (pa_cons (pv 3) pa_nil)))
 (pss_cons
 (ps_set (i:=4) sc_qbb.nd rfl (by first | exact Or.inl rfl | exact Or.inr rfl) (pe_call (ok_qda T) (hr.mono (by decide)) rfl T.d_qda.at_ T.d_qda.fn.kp T.d_qda.bd .nil b.self (pa_cons (pv 2) pa_nil)))
 (pss_cons
 (ps_if (pt_val (pe_meth0 (pv 4) T.cl_Message T.d_qbk.me (ok_qbk T) (hr.mono (by decide)) T.d_qbk.bd .nil pass0))
 (pss_one
 (ps_raise b rfl rfl T.g_WrongMessage T.x_WrongMessage))
 pss_nil)
 (pss_cons
 (ps_set (i:=5) sc_qbb.nd rfl (by first | exact Or.inl rfl | exact Or.inr rfl) (pe_meth (pv 0) T.cl_End T.d_qaw.me (ok_qaw T) (hr.mono (by decide)) T.d_qaw.bd .nil b.self (pa_cons (pv 1) (pa_cons (pv 4) (pa_cons (pv 3) pa_nil)))))
 (pss_cons
 (ps_set (i:=6) sc_qbb.nd rfl (by first | exact Or.inl rfl | exact Or.inr rfl) (pe_meth (pv 0) T.cl_End T.d_qaz.me (ok_qaz T) (hr.mono (by decide)) T.d_qaz.bd .nil pass0 (pa_cons (pv 3) pa_nil)))
 (pss_cons
 (ps_expr (pe_meth (pv 5) T.tx_Answering.cl T.d_qah.me (ok_qah T) (hr.mono (by decide)) T.d_qah.bd .nil pass0 (pa_cons (pv 4) (pa_cons (pv 3) (pa_cons (pv 6) pa_nil)))))
 (pss_cons
 (ps_expr (pe_meth0 (pv 0) T.cl_End T.d_qav.me (ok_qav T) (hr.mono (by decide)) T.d_qav.bd .nil pass0))
 (pss_one
 (ps_ret (pe_meth0 (pv 6) T.cl_Report T.d_qbq.me (ok_qbq T) (hr.mono (by decide)) T.d_qbq.bd .nil pass0)))))))))),?_⟩
    obtain ⟨dx,e⟩:=hE.ob
    refine ⟨_,rfl,x,dx,_,rfl,e,ef_no _ (by decide +kernel),_,rfl,x,dx,tl,time,begun,now,rfl,e,?_⟩
    refine ite2 (fun h=>?_) fun h=>?_
    · rw [if_pos h] at k
      exact k
    · rw [if_neg h] at k
      refine ⟨_,rfl,a,bs,rfl,hB,?_⟩
      cases hrd:Ql47.read bs with
      | none =>
        rw [hrd] at k
        exact k
      | some m =>
        rw [hrd] at k
        intro q H1 s1 fq hMa
        have hM:=hMa.im (hE.nok hO) hat
        have hE1:=hE.same s1
        have e1:=s1 _ _ e
        obtain ⟨o,hM',ho⟩:=hM.ex
        obtain ⟨dm,u,vi,sn,tg,cn,bw,br,me,em,_⟩:=hM'.ex
        replace k:if statN m=0 then _ else _:=k
        refine ⟨_,rfl,q,dm,_,rfl,em,mf_is_request,_,q,o,m,bs,rfl,hM',_,rfl,?_⟩
        refine ite2 (fun h=>?_) fun h=>?_
        · rw [if_pos (of_decide_eq_true h)] at k
          exact k _ s1
        · rw [if_neg fun z=>h (decide_eq_true z)] at k
          refine ⟨_,rfl,x,dx,_,rfl,e1,ef_no _ (by decide +kernel),_,rfl,_,rfl,_,rfl,(tl::N0),x,tl,q,pts,time,begun,num,now,m,bs,rfl,hE1,hM,?_⟩
          cases hf:(pts.filter fun y=>!y.2.endCome now).find? fun y=>decide (y.2.id=num) && (!y.2.ask && (y.2.early && y.2.fits m)) with
          | none =>
            rw [hf] at k
            exact fun H3 s3=>k _ (s1.trans s3)
          | some y =>
            rw [hf] at k
            have hk0:=List.find?_some hf
            simp only [Bool.and_eq_true] at hk0
            have hk:y.2.ask=false:=nb_true hk0.2.1
            have hys:=List.mem_of_find?_eq_some hf
            intro H3 s3
            have s13:=s1.trans s3
            have hE3:=hE.same s13
            have hM3:=hM.same s3
            refine ⟨_,rfl,x,dx,_,rfl,s13 _ _ e,ef_no _ (by decide +kernel),_,rfl,(tl::N0),N0,x,tl,pts,time,begun,now,rfl,hE3,(fun z hz=>List.mem_cons_of_mem _ hz),fun r l tl' H4 k4 fr fl ft nd hE4 hR4=>?_⟩
            have hM4:=hM3.move k4 (hE3.mut1 T) (sub2 ft fl)
            have hym:stepT now y∈passP now pts:=by rw [stay_len hov]; exact List.mem_map.mpr ⟨y,hys,rfl⟩
            have hT4:TAt A (tl'::l::N0) H4 y.1 (y.2.runT now).1:=hE4.tx _ hym
            have hk':(y.2.runT now).1.ask=false:=by rw [runT_ask]; exact hk
            obtain ⟨dt,q1,ls,et,_⟩:=hT4.exC (clsF A hk')
            have hlen:(passO now pts).length≤64:=Nat.le_trans (outs_len now pts) hE.few
            have hC4:Cfg A (tl'::l::N0) H4 y.1 r l (y.2.runT now).1 (passO now pts):=⟨hT4,hR4,by simp⟩
            refine ⟨_,rfl,y.1,dt,_,rfl,et,tf_no _ (by decide +kernel),_,rfl,_,rfl,_,rfl,(tl'::l::N0),y.1,q,r,l,_,m,bs,now,_,rfl,hk',hC4,nok2 hE4 hR4 ((hO.same s13).pass hE3 k4),hM4,Nat.le_trans hbl (by decide),(by omega),trivial,fun H5 k5 hC5=>?_⟩
            have hE5:=hE4.setTx T hC4 nd k5 hC5
            obtain ⟨dx5,e5⟩:=hE5.ob
            refine ⟨_,rfl,x,dx5,_,rfl,e5,ef_no _ (by decide +kernel),(tl'::l::N0),x,tl',_,now,begun,rfl,hE5,fun tl2 H6 sx6 f6 hE6=>?_⟩
            have hR6:=hC5.rp.keep (Keep.ofX sx6 (by simp):Keep [x] H5 H6) (by simpa using hC5.rp.ne_end e5) (by simpa using hC5.rp.l_end e5)
            obtain ⟨dr,er⟩:=hR6.ob
            refine ⟨_,rfl,r,dr,_,rfl,er,rp_answer,r,l,_,rfl,hR6,(by rw [List.length_append]; show _+1≤_; omega),fun qa H9 s9 fa ha=>?_⟩
            have k15:Keep (x::pts.map Prod.fst) H H5:=fun c o hc nc=>by
              have c3:=s13 _ _ hc
              refine k5 _ _ (k4 _ _ c3 nc) fun z=>?_
              rcases List.mem_cons.mp z with z | z
              · exact nc (List.mem_cons_of_mem _ (List.mem_map.mpr ⟨y,(List.mem_filter.mp hys).1,z.symm⟩))
              · rcases List.mem_cons.mp z with z | z
                · exact ne_of_none c3 fr z
                · exact ne_of_none c3 fl (mem1 z)
            have k16:Keep (x::pts.map Prod.fst) H H6:=k15.trans (Keep.ofX sx6 (by simp))
            exact k qa tl2 H9 (k16.trans (Keep.of s9)) (Fr.of k16 fa) (Fr.of k15 f6) ((hE6.sub sub41 (by simp)).same s9) ha
def sp_qba (A:Adr):Sp:=fun vs H Q E=>∃ (N0:List Addr) (x tl a:Addr) (pts:List (Addr×PX)) (time begun now:Nat) (b:Bt),vs=[.ref x,.ref a,.int ((now:Nat):Int)]∧EndAt A (tl::N0) H x tl pts time begun∧LOk N0 H∧IsB H a b∧a ∉ tl::N0∧b.length≤8192∧(∀ m,Ql47.read b=some m→∀ y∈pts,y.2.ask=true→AckOk y.2.req m) ∧
  if now < time∨2 ^ 31≤now then Fail H E A.c_WrongMoment else match Ql47.read b with
  | none=>Done A N0 H x (pts.map Prod.fst) Q now begun (passP now pts) (passO now pts)
  | some m=>if statN m=0 then
      (match (passP now pts).find? fun y=>!y.2.ask && y.2.owns m with
      | some y=>Done A N0 H x (pts.map Prod.fst) Q now begun (dropO (setP (passP now pts) y.1 (y.2.takeReq m now).1)) (passO now pts++(y.2.takeReq m now).2)
      | none=>if m.method=Ql47.ACK then Done A N0 H x (pts.map Prod.fst) Q now begun (dropO (passP now pts)) (passO now pts++[.user 0 b])
        else if (passP now pts).length < 64 then ∀ p,Done A N0 H x (pts.map Prod.fst) Q now (begun+1) (dropO (passP now pts++[(p,newTx false (begun+1) (if m.method=Ql47.INVITE then 1 else 0) m b)])) (passO now pts++[.user (begun+1) b])
        else Done A N0 H x (pts.map Prod.fst) Q now begun (dropO (passP now pts)) (passO now pts))
    else Done A N0 H x (pts.map Prod.fst) Q now begun (dropO (replyP m b now (passP now pts)).1) (passO now pts++(replyP m b now (passP now pts)).2)
theorem ifC {C:Addr} {t u:TS} {D:Ends} {σ:St} {H:Hp} (h:t D σ H):(if C=C then t else u) D σ H:=by rw [if_pos rfl]; exact h
theorem ifN {C C':Addr} {t u:TS} {D:Ends} {σ:St} {H:Hp} (n:C≠C') (h:u D σ H):(if C=C' then t else u) D σ H:=by rw [if_neg n]; exact h
theorem passP_sub {now:Nat} {pts:List (Addr×PX)} {c:Addr} (h:c∈(passP now pts).map Prod.fst):c∈pts.map Prod.fst:=by
  obtain ⟨y,hy,rfl⟩:=List.mem_map.mp h
  obtain ⟨z,hz,rfl⟩:=List.mem_map.mp (List.mem_filter.mp hy).1
  exact List.mem_map.mpr ⟨z,hz,rfl⟩
theorem takeReq_len (t:PX) (m:Ql47.Msg) (now:Nat):(t.takeReq m now).2.length≤1:=by
  unfold PX.takeReq
  by_cases h:m.method=Ql47.ACK
  · rw [if_pos h]; exact Nat.zero_le _
  · rw [if_neg h]
    by_cases h2:t.st≠3∧0 < t.sent.length
    · rw [if_pos h2]; exact Nat.le_refl _
    · rw [if_neg h2]; exact Nat.zero_le _
theorem takeReply_len (t:PX) (m:Ql47.Msg) (b:Bt) (now:Nat):(t.takeReply m b now).2.length≤2:=by
  unfold PX.takeReply PX.takeInv
  by_cases h:t.inv=true
  · rw [if_pos h]
    by_cases h2:t.st=2
    · rw [if_pos h2]
      by_cases h3:300≤statN m
      · rw [if_pos h3]; show 1≤2; decide
      · rw [if_neg h3]; exact Nat.zero_le _
    · rw [if_neg h2]
      by_cases h3:300≤statN m
      · rw [if_pos h3]; exact Nat.le_refl 2
      · rw [if_neg h3]; show 1≤2; decide
  · rw [if_neg h]
    by_cases h2:t.early=true
    · rw [if_pos h2]; show 1≤2; decide
    · rw [if_neg h2]; exact Nat.zero_le _
theorem replyP_len (m:Ql47.Msg) (b:Bt) (now:Nat) (pts:List (Addr×PX)):(replyP m b now pts).2.length≤2:=by
  unfold replyP
  cases pts.find? fun y=>y.2.ask && y.2.asksLike m with
  | none=>show 1≤2; decide
  | some y=>exact takeReply_len _ _ _ _
theorem ok_qba (T:Txt K mg A):FnOk P w K mg base (CXE P w) 10 A.f_qba A.v_qba ["self","octets","now"] (sp_qba A):=by
  refine T.d_qba.fn.okE sc_qba (fun vs H Q E h=>?_) (fun cdv A' outer s H vs Q E hr h b=>?_)
  · obtain ⟨N0,x,tl,a,pts,time,begun,now,b,rfl,_⟩:=h
    rfl
  · obtain ⟨N0,x,tl,a,pts,time,begun,now,bs,rfl,hE,hO,hB,hat,hbl,hA,k⟩:=h
    refine ⟨_,(pss_cons
 (ps_set (i:=3) sc_qba.nd rfl (by first | exact Or.inl rfl | exact Or.inr rfl) (pe_meth (pv 0) T.cl_End T.d_qbh.me (ok_qbh T) (hr.mono (by decide)) T.d_qbh.bd .nil b.self (pa_cons (pv 2) pa_nil)))
 (pss_cons
 (ps_trySet (i:=4) sc_qba.nd rfl (Or.inl rfl) rfl rfl (pex_call (ok_qda T) (hr.mono (by decide)) rfl T.d_qda.at_ T.d_qda.fn.kp T.d_qda.bd (pa_cons (pv 1) pa_nil))
 (ph_cons rfl T.g_WrongMessage T.x_WrongMessage (fun _=>(pss_one
 (ps_ret (pe_meth0U (pv 3) T.cl_Report T.d_qbq.me (okU_qbq T) (hr.uMark (by decide)) T.d_qbq.bd))))
 ph_nil))
 (pss_cons
 (ps_if (pt_val (pe_meth0 (pv 4) T.cl_Message T.d_qbk.me (ok_qbk T) (hr.mono (by decide)) T.d_qbk.bd .nil pass0))
 (pss_one
 (ps_expr (pe_meth (pv 0) T.cl_End T.d_qbg.me (ok_qbg T) (hr.mono (by decide)) T.d_qbg.bd .nil pass0 (pa_cons (pv 4) (pa_cons (pv 2) (pa_cons (pv 3) pa_nil))))))
 (pss_one
 (ps_expr (pe_meth (pv 0) T.cl_End T.d_qbf.me (ok_qbf T) (hr.mono (by decide)) T.d_qbf.bd .nil pass0 (pa_cons (pv 4) (pa_cons (pv 2) (pa_cons (pv 3) pa_nil)))))))
 (pss_cons
 (ps_expr (pe_meth0 (pv 0) T.cl_End T.d_qav.me (ok_qav T) (hr.mono (by decide)) T.d_qav.bd .nil pass0))
 (pss_one
 (ps_ret (pe_meth0 (pv 3) T.cl_Report T.d_qbq.me (ok_qbq T) (hr.mono (by decide)) T.d_qbq.bd .nil pass0))))))),?_⟩
    obtain ⟨dx,e⟩:=hE.ob
    refine ⟨_,rfl,x,dx,_,rfl,e,ef_no _ (by decide +kernel),_,rfl,(tl::N0),N0,x,tl,pts,time,begun,now,rfl,hE,(fun z hz=>List.mem_cons_of_mem _ hz),?_⟩
    refine ite2 (fun h=>?_) fun h=>?_
    · rw [if_pos h] at k
      exact k
    · rw [if_neg h] at k
      intro r l tl' H4 k4 fr fl ft nd hE4 hR4
      have hO4:=hO.pass hE k4
      have hB4:IsB H4 a bs:=⟨k4 _ _ hB.at_ (hE.lst_out hB.at_),hB.len⟩
      have hlen:(passO now pts).length≤64:=Nat.le_trans (outs_len now pts) hE.few
      refine ⟨_,rfl,a,bs,rfl,hB4,?_⟩
      cases hrd:Ql47.read bs with
      | none =>
        rw [hrd] at k
        intro H5 s5
        refine ⟨_,rfl,T.x_WrongMessage,?_⟩
        have hR5:=hR4.same s5
        obtain ⟨dr,er⟩:=hR5.ob
        refine ifC ?_
        refine ⟨_,rfl,r,dr,_,rfl,er,rp_answer,r,l,_,rfl,hR5,(by omega),fun qa H9 s9 fa ha=>?_⟩
        have k15:Keep (x::pts.map Prod.fst) H H5:=k4.trans (Keep.of s5)
        exact k qa tl' H9 (k15.trans (Keep.of s9)) (Fr.of k15 fa) (fun c o hc nc=>ne_of_none hc ft) (((hE4.same s5).sub sub31 (by simp)).same s9) ha
      | some m =>
        rw [hrd] at k
        intro q H5 s5 fq hMa
        have haN:a ∉ (tl'::l::N0):=fun z=>by
          rcases List.mem_cons.mp z with z | z
          · exact ne_of_none hB.at_ ft z
          · rcases List.mem_cons.mp z with z | z
            · exact ne_of_none hB.at_ fl z
            · exact hat (List.mem_cons_of_mem _ z)
        have hM:=hMa.im (nok2 hE4 hR4 hO4) haN
        have hE5:=hE4.same s5
        have hR5:=hR4.same s5
        obtain ⟨dx5,e5⟩:=hE5.ob
        obtain ⟨o,hM',ho⟩:=hM.ex
        obtain ⟨dm,u,vi,sn,tg,cn,bw,br,me,em,_⟩:=hM'.ex
        have k15:Keep (x::pts.map Prod.fst) H H5:=k4.trans (Keep.of s5)
        have kM:∀ {H6:Hp},Keep (x::tl'::r::l::(passP now pts).map Prod.fst) H5 H6→Keep (x::pts.map Prod.fst) H H6:=fun {H6} k6 c oc hc nc=>by
          refine k6 _ _ (k15 _ _ hc nc) fun z=>?_
          rcases List.mem_cons.mp z with z | z
          · exact nc (by rw [z]; simp)
          · rcases List.mem_cons.mp z with z | z
            · exact ne_of_none hc ft z
            · rcases List.mem_cons.mp z with z | z
              · exact ne_of_none hc fr z
              · rcases List.mem_cons.mp z with z | z
                · exact ne_of_none hc fl z
                · exact nc (List.mem_cons_of_mem _ (passP_sub z))
        have fin:∀ {H6:Hp} {P6:List (Addr×PX)} {bg:Nat} {o6:List Ql47.Out},Keep (x::tl'::r::l::(passP now pts).map Prod.fst) H5 H6→EndAt A (tl'::l::N0) H6 x tl' P6 now bg→RepAt A H6 r l o6→o6.length≤200→Done A N0 H x (pts.map Prod.fst) Q now bg (dropO P6) o6 →
            ∃ dx6,H6 x=some (.ins A.c_End dx6 (endF now bg tl'))∧∀ tl2 H7,SameX x H6 H7→H6 tl2=none→EndAt A (tl2::(tl'::l::N0)) H7 x tl2 (dropO P6) now bg→∃ dr,H7 r=some (.ins A.c_Report dr (repF o6.length l))∧RepAt A H7 r l o6∧∀ qa H9,Same H7 H9→H7 qa=none→H9 qa=some (.lst ((ansI o6).map V.int))→Q (.ref qa) H9:=by
          intro H6 P6 bg o6 k6 hE6 hR6 hl6 kd
          obtain ⟨dx6,e6⟩:=hE6.ob
          refine ⟨dx6,e6,fun tl2 H7 sx7 f7 hE7=>?_⟩
          have hR7:=hR6.keep (Keep.ofX sx7 (by simp):Keep [x] H6 H7) (by simpa using hR6.ne_end e6) (by simpa using hR6.l_end e6)
          obtain ⟨dr,er⟩:=hR7.ob
          have k17:Keep (x::pts.map Prod.fst) H H7:=(kM k6).trans (Keep.ofX sx7 (by simp))
          exact ⟨dr,er,hR7,fun qa H9 s9 fa ha=>kd qa tl2 H9 (k17.trans (Keep.of s9)) (Fr.of k17 fa) (Fr.of (kM k6) f7) ((hE7.sub sub41 (by simp)).same s9) ha⟩
        replace k:if statN m=0 then _ else _:=k
        refine ⟨_,rfl,q,dm,_,rfl,em,mf_is_request,_,q,o,m,bs,rfl,hM',_,rfl,?_⟩
        refine ite2 (fun h=>?_) fun h=>?_
        · rw [if_pos (of_decide_eq_true h)] at k
          refine ⟨_,rfl,x,dx5,_,rfl,e5,ef_no _ (by decide +kernel),_,rfl,_,rfl,_,rfl,N0,x,tl',q,r,l,passP now pts,now,begun,now,m,bs,_,rfl,hE5,hR5,nd,hO4.same s5,hM,Nat.le_trans hbl (by decide),(by omega),?_⟩
          cases hf:(passP now pts).find? fun y=>!y.2.ask && y.2.owns m with
          | some y =>
            rw [hf] at k
            intro H6 k6 hE6 hR6
            obtain ⟨dx6,e6,nx⟩:=fin k6 hE6 hR6 (by rw [List.length_append]; have:=takeReq_len y.2 m now; omega) k
            refine ⟨_,rfl,x,dx6,_,rfl,e6,ef_no _ (by decide +kernel),(tl'::l::N0),x,tl',_,now,begun,rfl,hE6,fun tl2 H7 sx7 f7 hE7=>?_⟩
            obtain ⟨dr,er,hR7,nx2⟩:=nx tl2 H7 sx7 f7 hE7
            exact ⟨_,rfl,r,dr,_,rfl,er,rp_answer,r,l,_,rfl,hR7,(by rw [List.length_append]; have:=takeReq_len y.2 m now; omega),nx2⟩
          | none =>
            rw [hf] at k
            replace k:if m.method=Ql47.ACK then _ else _:=k
            show if m.method=Ql47.ACK then _ else _
            refine ite2 (fun h=>?_) fun h=>?_
            · rw [if_pos h] at k
              intro H6 k6 hE6 hR6
              obtain ⟨dx6,e6,nx⟩:=fin k6 hE6 hR6 (by rw [List.length_append]; show _+1≤_; omega) k
              refine ⟨_,rfl,x,dx6,_,rfl,e6,ef_no _ (by decide +kernel),(tl'::l::N0),x,tl',_,now,begun,rfl,hE6,fun tl2 H7 sx7 f7 hE7=>?_⟩
              obtain ⟨dr,er,hR7,nx2⟩:=nx tl2 H7 sx7 f7 hE7
              exact ⟨_,rfl,r,dr,_,rfl,er,rp_answer,r,l,_,rfl,hR7,(by rw [List.length_append]; show _+1≤_; omega),nx2⟩
            · rw [if_neg h] at k
              refine ite2 (fun h=>?_) fun h=>?_
              · rw [if_pos h] at k
                intro p H6 k6 fp hE6 hR6
                obtain ⟨dx6,e6,nx⟩:=fin k6 hE6 hR6 (by rw [List.length_append]; show _+1≤_; omega) (k p)
                refine ⟨_,rfl,x,dx6,_,rfl,e6,ef_no _ (by decide +kernel),(tl'::l::N0),x,tl',_,now,begun+1,rfl,hE6,fun tl2 H7 sx7 f7 hE7=>?_⟩
                obtain ⟨dr,er,hR7,nx2⟩:=nx tl2 H7 sx7 f7 hE7
                exact ⟨_,rfl,r,dr,_,rfl,er,rp_answer,r,l,_,rfl,hR7,(by rw [List.length_append]; show _+1≤_; omega),nx2⟩
              · rw [if_neg h] at k
                intro H6 s6
                obtain ⟨dx6,e6,nx⟩:=fin (Keep.of s6) (hE5.same s6) (hR5.same s6) (by omega) k
                refine ⟨_,rfl,x,dx6,_,rfl,e6,ef_no _ (by decide +kernel),(tl'::l::N0),x,tl',_,now,begun,rfl,hE5.same s6,fun tl2 H7 sx7 f7 hE7=>?_⟩
                obtain ⟨dr,er,hR7,nx2⟩:=nx tl2 H7 sx7 f7 hE7
                exact ⟨_,rfl,r,dr,_,rfl,er,rp_answer,r,l,_,rfl,hR7,(by omega),nx2⟩
        · rw [if_neg fun z=>h (decide_eq_true z)] at k
          refine ⟨_,rfl,x,dx5,_,rfl,e5,ef_no _ (by decide +kernel),_,rfl,_,rfl,_,rfl,N0,x,tl',q,r,l,passP now pts,now,begun,now,m,bs,_,rfl,hE5,hR5,nd,hO4.same s5,hM,Nat.le_trans hbl (by decide),(by omega),fun y hy ha=>?_,fun H6 k6 hE6 hR6=>?_⟩
          · obtain ⟨z,hz,rfl⟩:=List.mem_map.mp (List.mem_filter.mp hy).1
            have ha':(z.2.runT now).1.ask=true:=ha
            rw [runT_ask] at ha'
            show AckOk (z.2.runT now).1.req m
            rw [runT_req]
            exact hA m hrd z hz ha'
          · have l2:=replyP_len m bs now (passP now pts)
            obtain ⟨dx6,e6,nx⟩:=fin (k6.mono (by simp; exact fun a b h=>.inr (.inr (.inr (.inr ⟨b,h⟩))))) hE6 hR6 (by rw [List.length_append]; omega) k
            refine ⟨_,rfl,x,dx6,_,rfl,e6,ef_no _ (by decide +kernel),(tl'::l::N0),x,tl',_,now,begun,rfl,hE6,fun tl2 H7 sx7 f7 hE7=>?_⟩
            obtain ⟨dr,er,hR7,nx2⟩:=nx tl2 H7 sx7 f7 hE7
            exact ⟨_,rfl,r,dr,_,rfl,er,rp_answer,r,l,_,rfl,hR7,(by rw [List.length_append]; omega),nx2⟩
end
end L2

namespace L2
open PySem PySem.Spec PyProof.Rows
open Ql47 (Tx Out)
def kindOf (t:PX):Ql47.Kind:=if t.ask=true then (if t.inv=true then .askInvite else .ask) else (if t.inv=true then .answerInvite else .answer)
def toTx (t:PX) (w:Nat):Tx:=⟨t.id,kindOf t,t.st,t.req,t.sent,t.ag,w,t.en⟩
def WOk (t:PX) (w:Nat):Prop:=t.ag≠none→(t.ask=true∧t.inv=false∧t.st≠0)∨w=t.w
def TxRel (t:PX) (u:Tx):Prop:=∃ w,u=toTx t w∧WOk t w
structure TxOk (t:PX):Prop where
  ov:t.ov=false
  rd:Ql47.read t.roct=some t.req
  rl:t.roct.length≤8192
  na:t.req.method≠Ql47.ACK
  a2:t.ask=true→t.st≤2
  a1:t.ask=true→t.inv=true→t.st=1→t.ag=none∧t.en=none
  ag:t.ask=true→t.st=2→t.ag=none
  sl:t.sent.length≤16514
def phi (t:PX):Nat:=if t.ag.isSome=true then t.sent.length else 0
def pot (ts:List PX):Nat:=(ts.map phi).sum
def lostU (u:Tx):Bool:=match u.kind with
  | .askInvite=>u.state == 0
  | .ask=>decide (u.state≤1)
  | .answerInvite=>u.state == 2
  | .answer=>false
def waitU (u:Tx):Nat:=match u.kind with
  | .askInvite=>2 * u.wait
  | .ask=>if u.state=0 then min (2 * u.wait) Ql47.T2 else Ql47.T2
  | _=>min (2 * u.wait) Ql47.T2
def runU (now:Nat) (u:Tx):Option Tx×List Out :=
  if (u.ends.any fun e=>decide (e≤now))=true then (none,if lostU u=true then [.timeout u.id] else [])
  else if (u.again.any fun e=>decide (e≤now))=true then (some { u with again:=some (now+waitU u),wait:=waitU u },[.wire u.id u.sent])
  else (some u,[])
theorem runU_id {now:Nat} {u u':Tx} (h:(runU now u).1=some u'):u'.id=u.id:=by
  unfold runU at h
  by_cases h1:(u.ends.any fun e=>decide (e≤now))=true
  · rw [if_pos h1] at h; cases h
  · rw [if_neg h1] at h
    by_cases h2:(u.again.any fun e=>decide (e≤now))=true
    · rw [if_pos h2] at h; cases h; rfl
    · rw [if_neg h2] at h; cases h; rfl
theorem runOut_eq (u:Tx) (d:Ql47.Doing) (hu:∀ x∈d.1.txs,x.id=u.id→x=u):Ql47.runOut u d=((match (runU d.1.now u).1 with
    | none=>d.1.drop u.id
    | some u'=>d.1.put u'),d.2++(runU d.1.now u).2):=by
  unfold Ql47.runOut runU
  by_cases h1:(u.ends.any fun e=>decide (e≤d.1.now))=true
  · rw [if_pos h1,if_pos h1]; rfl
  · rw [if_neg h1,if_neg h1]
    by_cases h2:(u.again.any fun e=>decide (e≤d.1.now))=true
    · rw [if_pos h2,if_pos h2]; rfl
    · rw [if_neg h2,if_neg h2]
      show d=(d.1.put u,d.2++[])
      have:d.1.put u=d.1:=by
        unfold Ql47.St.put
        have:(d.1.txs.map fun x=>if x.id=u.id then u else x)=d.1.txs:=by
          rw [List.map_congr_left (g:=fun x=>x) fun x hx=>?_,List.map_id']
          by_cases h:x.id=u.id
          · rw [if_pos h,hu x hx h]
          · rw [if_neg h]
        rw [this]
      rw [this,List.append_nil]
def foldF (d:Ql47.Doing) (i:Nat):Ql47.Doing:=match d.1.txs.find? fun t=>t.id == i with
  | some t=>Ql47.runOut t d
  | none=>d
theorem fold_pass (now nx:Nat):∀ (rest dn:List Tx) (outs:List Out),((dn++rest).map fun t=>t.id).Nodup →
    (rest.map fun t=>t.id).foldl foldF (⟨now,nx,dn++rest⟩,outs)=(⟨now,nx,dn++rest.filterMap fun u=>(runU now u).1⟩,outs++rest.flatMap fun u=>(runU now u).2)
  | [],dn,outs,_=>by simp
  | u::r,dn,outs,nd=>by
    rw [List.map_append,List.map_cons,List.nodup_append] at nd
    obtain ⟨n1,n2,n3⟩:=nd
    rw [List.nodup_cons] at n2
    have hdn:∀ x∈dn,x.id≠u.id:=fun x hx=>n3 x.id (List.mem_map.mpr ⟨x,hx,rfl⟩) u.id (by simp)
    have hr:∀ x∈r,x.id≠u.id:=fun x hx z=>n2.1 (by rw [← z]; exact List.mem_map.mpr ⟨x,hx,rfl⟩)
    have hf:(dn++u::r).find? (fun t=>t.id == u.id)=some u:=by
      rw [List.find?_append]
      have:dn.find? (fun t=>t.id == u.id)=none:=List.find?_eq_none.mpr fun x hx=>by simpa using hdn x hx
      rw [this]
      simp
    have hu:∀ x∈(dn++u::r),x.id=u.id→x=u:=fun x hx e=>by
      rcases List.mem_append.mp hx with hx | hx
      · exact absurd e (hdn x hx)
      · rcases List.mem_cons.mp hx with hx | hx
        · exact hx
        · exact absurd e (hr x hx)
    rw [List.map_cons,List.foldl_cons]
    have e1:foldF (⟨now,nx,dn++u::r⟩,outs) u.id=((match (runU now u).1 with
        | none=>(⟨now,nx,dn++r⟩:Ql47.St)
        | some u'=>⟨now,nx,dn++u'::r⟩),outs++(runU now u).2):=by
      unfold foldF
      rw [hf]
      show Ql47.runOut u _=_
      rw [runOut_eq u (⟨now,nx,dn++u::r⟩,outs) hu]
      show ((match (runU now u).1 with
        | none=>Ql47.St.drop ⟨now,nx,dn++u::r⟩ u.id
        | some u'=>Ql47.St.put ⟨now,nx,dn++u::r⟩ u'),outs++(runU now u).2)=_
      cases hc:(runU now u).1 with
      | none =>
        have:(dn++u::r).filter (fun x=>x.id != u.id)=dn++r:=by
          rw [List.filter_append,List.filter_cons]
          have a1:dn.filter (fun x=>x.id != u.id)=dn:=List.filter_eq_self.mpr fun x hx=>by simpa using hdn x hx
          have a2:r.filter (fun x=>x.id != u.id)=r:=List.filter_eq_self.mpr fun x hx=>by simpa using hr x hx
          rw [a1,a2]
          simp
        show ((⟨now,nx,(dn++u::r).filter (fun x=>x.id != u.id)⟩:Ql47.St),_)=_
        rw [this]
      | some u' =>
        have hid:=runU_id hc
        have:(dn++u::r).map (fun x=>if x.id=u'.id then u' else x)=dn++u'::r:=by
          rw [List.map_append,List.map_cons,hid,if_pos rfl]
          have a1:dn.map (fun x=>if x.id=u.id then u' else x)=dn:=by
            rw [List.map_congr_left (g:=fun x=>x) fun x hx=>if_neg (hdn x hx),List.map_id']
          have a2:r.map (fun x=>if x.id=u.id then u' else x)=r:=by
            rw [List.map_congr_left (g:=fun x=>x) fun x hx=>if_neg (hr x hx),List.map_id']
          rw [a1,a2]
        show ((⟨now,nx,(dn++u::r).map (fun x=>if x.id=u'.id then u' else x)⟩:Ql47.St),_)=_
        rw [this]
    rw [e1]
    cases hc:(runU now u).1 with
    | none =>
      show (r.map fun t=>t.id).foldl foldF (⟨now,nx,dn++r⟩,_)=_
      have nd':((dn++r).map fun t=>t.id).Nodup:=by
        rw [List.map_append,List.nodup_append]
        exact ⟨n1,n2.2,fun a ha b hb=>n3 a ha b (List.mem_cons_of_mem _ hb)⟩
      rw [fold_pass now nx r dn _ nd',List.filterMap_cons,hc,List.flatMap_cons,List.append_assoc]
    | some u' =>
      have hid:=runU_id hc
      show (r.map fun t=>t.id).foldl foldF (⟨now,nx,dn++u'::r⟩,_)=_
      have ea:dn++u'::r=(dn++[u'])++r:=by simp
      have nd':(((dn++[u'])++r).map fun t=>t.id).Nodup:=by
        rw [← ea,List.map_append,List.map_cons,hid,List.nodup_append,List.nodup_cons]
        exact ⟨n1,n2,n3⟩
      rw [ea,fold_pass now nx r (dn++[u']) _ nd',List.filterMap_cons,hc,List.flatMap_cons,List.append_assoc,List.append_assoc]
      simp
theorem passed_eq (s:Ql47.St) (now:Nat) (nd:(s.txs.map fun t=>t.id).Nodup):Ql47.passed s now=(⟨now,s.next,s.txs.filterMap fun u=>(runU now u).1⟩,s.txs.flatMap fun u=>(runU now u).2):=by
  have:=fold_pass now s.next s.txs [] [] (by simpa using nd)
  rw [List.nil_append,List.nil_append,List.nil_append] at this
  exact this
theorem kind_ai {t:PX} (h1:t.ask=true) (h2:t.inv=true):kindOf t=.askInvite:=by unfold kindOf; rw [if_pos h1,if_pos h2]
theorem kind_a {t:PX} (h1:t.ask=true) (h2:t.inv=false):kindOf t=.ask:=by unfold kindOf; rw [if_pos h1,if_neg (by rw [h2]; decide)]
theorem kind_bi {t:PX} (h1:t.ask=false) (h2:t.inv=true):kindOf t=.answerInvite:=by unfold kindOf; rw [if_neg (by rw [h1]; decide),if_pos h2]
theorem kind_b {t:PX} (h1:t.ask=false) (h2:t.inv=false):kindOf t=.answer:=by unfold kindOf; rw [if_neg (by rw [h1]; decide),if_neg (by rw [h2]; decide)]
theorem lost_rel {t:PX} {w now:Nat} (ok:TxOk t) (he:t.endCome now=true):lostU (toTx t w)=t.lostEnd:=by
  have hen:t.en≠none:=fun z=>by unfold PX.endCome at he; rw [z] at he; cases he
  unfold lostU PX.lostEnd PX.early
  show (match kindOf t with
    | .askInvite=>t.st == 0
    | .ask=>decide (t.st≤1)
    | .answerInvite=>t.st == 2
    | .answer=>false)=_
  cases h1:t.ask <;> cases h2:t.inv
  · rw [kind_b h1 h2,if_neg (by decide)]; rfl
  · rw [kind_bi h1 h2,if_neg (by decide)]
    show (t.st == 2)=(true && decide (t.st=2))
    rw [Bool.true_and]; rfl
  · rw [kind_a h1 h2,if_pos rfl]
    show decide (t.st≤1)=(decide (t.st=0) || decide (t.st=1))
    by_cases a:t.st=0
    · rw [a]; rfl
    · by_cases b:t.st=1
      · rw [b]; rfl
      · rw [decide_eq_false a,decide_eq_false b,decide_eq_false (by omega)]; rfl
  · rw [kind_ai h1 h2,if_pos rfl]
    show (t.st == 0)=(decide (t.st=0) || decide (t.st=1))
    have:t.st≠1:=fun z=>hen (ok.a1 h1 h2 z).2
    rw [decide_eq_false this,Bool.or_false]; rfl
theorem wait_rel {t:PX} {w now:Nat} (ok:TxOk t) (hw:WOk t w) (ha:t.againCome now=true):waitU (toTx t w)=t.nextWait:=by
  have hag:t.ag≠none:=fun z=>by unfold PX.againCome at ha; rw [z] at ha; cases ha
  have hw':=hw hag
  unfold waitU PX.nextWait
  show (match kindOf t with
    | .askInvite=>2 * w
    | .ask=>if t.st=0 then min (2 * w) Ql47.T2 else Ql47.T2
    | _=>min (2 * w) Ql47.T2)=_
  cases h1:t.ask <;> cases h2:t.inv
  · rw [kind_b h1 h2,if_neg (show ¬ (false=true) by decide)]
    rcases hw' with ⟨z,_⟩ | z
    · rw [h1] at z; cases z
    · rw [z]; rfl
  · rw [kind_bi h1 h2,if_neg (show ¬ (false=true) by decide)]
    rcases hw' with ⟨z,_⟩ | z
    · rw [h1] at z; cases z
    · rw [z]; rfl
  · rw [kind_a h1 h2,if_pos (show true=true from rfl),if_neg (show ¬ (false=true) by decide)]
    show (if t.st=0 then min (2 * w) Ql47.T2 else Ql47.T2)=_
    by_cases a:t.st=0
    · rw [if_pos a,if_neg (by omega)]
      rcases hw' with ⟨_,_,z⟩ | z
      · exact absurd a z
      · rw [z]; rfl
    · rw [if_neg a]
      by_cases b:t.st=1
      · rw [if_pos b]; rfl
      · have:=ok.a2 h1
        exact absurd (ok.ag h1 (by omega)) hag
  · rw [kind_ai h1 h2,if_pos (show true=true from rfl),if_pos (show true=true from rfl)]
    rcases hw' with ⟨_,z,_⟩ | z
    · rw [h2] at z; cases z
    · rw [z]
theorem runU_rel {t:PX} {u:Tx} (ok:TxOk t) (h:TxRel t u) (now:Nat):(runU now u).2=(t.runT now).2 ∧
    (((t.runT now).1.ov=true∧(runU now u).1=none)∨((t.runT now).1.ov=false∧TxOk (t.runT now).1∧phi (t.runT now).1=phi t∧∃ u',(runU now u).1=some u'∧TxRel (t.runT now).1 u')):=by
  obtain ⟨w,rfl,hw⟩:=h
  have eU:runU now (toTx t w)=if t.endCome now=true then (none,if lostU (toTx t w)=true then [.timeout t.id] else []) else if t.againCome now=true then (some { toTx t w with again:=some (now+waitU (toTx t w)),wait:=waitU (toTx t w) },[.wire t.id t.sent]) else (some (toTx t w),[]):=rfl
  have eT:t.runT now=if t.endCome now=true then ({ t with ov:=true },if t.lostEnd=true then [.timeout t.id] else []) else if t.againCome now=true then (t.startAgain now t.nextWait,[.wire t.id t.sent]) else (t,[]):=rfl
  by_cases h1:t.endCome now=true
  · rw [if_pos h1] at eU eT
    rw [eU,eT]
    refine ⟨?_,.inl ⟨rfl,rfl⟩⟩
    rw [lost_rel ok h1]
  · rw [if_neg h1] at eU eT
    by_cases h2:t.againCome now=true
    · rw [if_pos h2] at eU eT
      rw [eU,eT]
      refine ⟨rfl,.inr ⟨ok.ov,?_,?_,_,rfl,t.nextWait,?_,fun _=>.inr rfl⟩⟩
      · have hag:t.ag≠none:=fun z=>by unfold PX.againCome at h2; rw [z] at h2; cases h2
        exact ⟨ok.ov,ok.rd,ok.rl,ok.na,ok.a2,fun a b c=>absurd (ok.a1 a b c).1 hag,fun a b=>absurd (ok.ag a b) hag,ok.sl⟩
      · have hag:t.ag.isSome=true:=by
          cases h:t.ag with
          | none=>unfold PX.againCome at h2; rw [h] at h2; cases h2
          | some _=>rfl
        have e1:phi t=t.sent.length:=by unfold phi; rw [if_pos hag]
        rw [e1]
        rfl
      · rw [wait_rel ok hw h2]
        rfl
    · rw [if_neg h2] at eU eT
      rw [eU,eT]
      exact ⟨rfl,.inr ⟨ok.ov,ok,rfl,_,rfl,w,rfl,hw⟩⟩
def passT (now:Nat) (ts:List PX):List PX:=(ts.map fun t=>(t.runT now).1).filter fun t=>!t.ov
theorem passT_map (now:Nat) (pts:List (PySem.Addr×PX)):(passP now pts).map Prod.snd=passT now (pts.map Prod.snd):=by
  unfold passP passT
  induction pts with
  | nil=>rfl
  | cons y r ih =>
    rw [List.map_cons,List.map_cons,List.map_cons,List.filter_cons,List.filter_cons]
    by_cases h:(!(y.2.runT now).1.ov)=true
    · rw [if_pos h,if_pos (show (!(stepT now y).2.ov)=true from h),List.map_cons,ih]
      rfl
    · rw [if_neg h,if_neg (show ¬ (!(stepT now y).2.ov)=true from h),ih]
theorem pass_rel (now:Nat):∀ {ts:List PX} {us:List Tx},Paired TxRel ts us→(∀ t∈ts,TxOk t)→Paired TxRel (passT now ts) (us.filterMap fun u=>(runU now u).1)∧(us.flatMap fun u=>(runU now u).2)=(ts.flatMap fun t=>(t.runT now).2)∧(∀ t∈passT now ts,TxOk t)∧pot (passT now ts)≤pot ts
  | _,_,.nil,_=>⟨.nil,rfl,(fun t ht=>absurd ht (by simp [passT])),Nat.le_refl _⟩
  | t::ts,u::us,.cons r rs,ok=>by
    obtain ⟨i1,i2,i3,i4⟩:=pass_rel now rs fun x hx=>ok x (List.mem_cons_of_mem _ hx)
    obtain ⟨e,h⟩:=runU_rel (ok t (by simp)) r now
    have ep:pot (t::ts)=phi t+pot ts:=by unfold pot; rw [List.map_cons,List.sum_cons]
    rcases h with ⟨h1,h2⟩ | ⟨h1,h2,h3,u',h4,h5⟩
    · have e1:passT now (t::ts)=passT now ts:=by
        unfold passT
        rw [List.map_cons,List.filter_cons,if_neg (by rw [h1]; decide)]
      rw [e1,List.filterMap_cons,h2,List.flatMap_cons,List.flatMap_cons,e,i2,ep]
      exact ⟨i1,rfl,i3,by omega⟩
    · have e1:passT now (t::ts)=(t.runT now).1::passT now ts:=by
        unfold passT
        rw [List.map_cons,List.filter_cons,if_pos (by rw [h1]; rfl)]
      rw [e1,List.filterMap_cons,h4,List.flatMap_cons,List.flatMap_cons,e,i2,ep]
      refine ⟨.cons h5 i1,rfl,fun x hx=>?_,?_⟩
      · rcases List.mem_cons.mp hx with rfl | hx
        · exact h2
        · exact i3 x hx
      · have:pot ((t.runT now).1::passT now ts)=phi (t.runT now).1+pot (passT now ts):=by unfold pot; rw [List.map_cons,List.sum_cons]
        rw [this,h3]
        omega
end L2

namespace L2
open PySem PySem.Spec PyProof.Rows
open Ql47 (Tx Out)
theorem line_len:∀ (k:Nat) (b l r:Bt),Ql47.line k b=some (l,r)→l.length+r.length+2≤b.length
  | 0,b,l,r,h=>by simp [Ql47.line] at h
  | k+1,b,l,r,h=>by
    unfold Ql47.line at h
    split at h
    · rename_i r'
      cases h
      simp
    · cases h
    · cases h
    · rename_i c r' _ _ _
      obtain ⟨⟨l',r''⟩,h1,h2⟩:=Option.map_eq_some_iff.mp h
      have:=line_len k r' l' r'' h1
      cases h2
      simp
      omega
    · cases h
theorem cut_len {c:UInt8} {b x y:Bt} (h:Ql47.cutAt c b=some (x,y)):x.length+y.length+1=b.length:=by
  unfold Ql47.cutAt at h
  have hl:(b.takeWhile fun z=>z != c).length≤b.length:=(List.takeWhile_sublist _).length_le
  simp only at h
  split at h
  · cases h
  · rename_i hn
    cases h
    rw [List.length_drop]
    omega
def hsum (h:List (Bt×Bt)):Nat:=(h.map fun x=>x.2.length).sum
theorem headers_len:∀ (k:Nat) (b:Bt) (h:List (Bt×Bt)) (body:Bt),Ql47.headers k b=some (h,body)→hsum h+body.length≤b.length
  | 0,b,h,body,e=>by simp [Ql47.headers] at e
  | k+1,b,h,body,e=>by
    unfold Ql47.headers at e
    split at e
    · cases e
    · rename_i r hl
      cases e
      have:=line_len _ _ _ _ hl
      unfold hsum
      simp at this ⊢
      omega
    · rename_i l r _ hl
      have l1:=line_len _ _ _ _ hl
      split at e
      · rename_i n v hc
        split at e
        · obtain ⟨⟨h',b'⟩,h1,h2⟩:=Option.map_eq_some_iff.mp e
          have i:=headers_len k r h' b' h1
          have lc:=cut_len hc
          rw [List.length_cons] at lc
          cases h2
          have:hsum ((n,v)::h')=v.length+hsum h':=by unfold hsum; rw [List.map_cons,List.sum_cons]
          show hsum ((n,v)::h')+b'.length≤_
          omega
        · cases e
      · cases e
theorem first_len {l a x:Bt} (h:Ql47.first l=some (.request a x)):x.length≤l.length:=by
  unfold Ql47.first at h
  split at h
  · cases h
  · rename_i a' r hc
    split at h
    · cases h
    · rename_i x' y hc2
      have l1:=cut_len hc
      have l2:=cut_len hc2
      split at h
      · split at h <;> cases h
      · split at h
        · cases h
          omega
        · cases h
theorem first_reply {l:Bt} {n:Nat} (h:Ql47.first l=some (.reply n)):100≤n:=by
  unfold Ql47.first at h
  split at h
  · cases h
  · split at h
    · cases h
    · split at h
      · split at h
        · rename_i hx
          cases h
          exact hx.2.2.1
        · cases h
      · split at h <;> cases h
def gsum (h:List (Bt×Bt)) (n:String):Nat:=((Ql47.get h n).map List.length).sum
theorem get_cons (x:Bt×Bt) (h:List (Bt×Bt)) (n:String):gsum (x::h) n=(if x.1=Ql47.txt n then x.2.length else 0)+gsum h n:=by
  unfold gsum Ql47.get
  rw [List.filter_cons]
  by_cases c:x.1=Ql47.txt n
  · rw [if_pos (by rw [c]; exact beq_self_eq_true _),if_pos c]
    rfl
  · rw [if_neg (by simpa using c),if_neg c]
    simp
theorem gsum3:∀ h:List (Bt×Bt),gsum h "Via"+gsum h "From"+gsum h "Call-ID"≤hsum h
  | []=>by decide
  | x::h=>by
    have i:=gsum3 h
    rw [get_cons,get_cons,get_cons]
    have:hsum (x::h)=x.2.length+hsum h:=by unfold hsum; rw [List.map_cons,List.sum_cons]
    rw [this]
    by_cases c1:x.1=Ql47.txt "Via"
    · rw [if_pos c1,if_neg (by rw [c1]; decide),if_neg (by rw [c1]; decide)]; omega
    · rw [if_neg c1]
      by_cases c2:x.1=Ql47.txt "From"
      · rw [if_pos c2,if_neg (by rw [c2]; decide)]; omega
      · rw [if_neg c2]
        by_cases c3:x.1=Ql47.txt "Call-ID"
        · rw [if_pos c3]; omega
        · rw [if_neg c3]; omega
theorem gsum1 (n:String):∀ h:List (Bt×Bt),gsum h n≤hsum h
  | []=>Nat.le_refl _
  | x::h=>by
    have i:=gsum1 n h
    rw [get_cons]
    have:hsum (x::h)=x.2.length+hsum h:=by unfold hsum; rw [List.map_cons,List.sum_cons]
    rw [this]
    split <;> omega
theorem only_sum {h:List (Bt×Bt)} {n:String} {v:Bt} (e:Ql47.only1 (Ql47.get h n)=some v):v.length=gsum h n:=by
  unfold gsum
  unfold Ql47.only1 at e
  split at e
  · rename_i v' hv
    cases e
    rw [hv]
    simp
  · cases e
theorem head_sum {h:List (Bt×Bt)} {n:String}:(((Ql47.get h n).head?).getD []).length≤gsum h n:=by
  unfold gsum
  cases Ql47.get h n with
  | nil=>exact Nat.zero_le _
  | cons v r=>simp
structure MsgLen (b:Bt) (m:Ql47.Msg):Prop where
  sum:(uriOf m).length+m.via.length+m.from_.length+m.callId.length≤b.length
  to:m.to.length≤b.length
  sq:m.seq < 2 ^ 31
  st:∀ s,m.first=.reply s→100≤s
theorem ite_none {α:Type} {c:Prop} [Decidable c] {x y:α} (h:(if c then none else some x)=some y):x=y:=by
  by_cases q:c
  · rw [if_pos q] at h; cases h
  · rw [if_neg q] at h; exact Option.some.inj h
theorem read_len {b:Bt} {m:Ql47.Msg} (h:Ql47.read b=some m):MsgLen b m:=by
  unfold Ql47.read at h
  split at h
  · cases h
  · rename_i l r hl
    have l1:=line_len _ _ _ _ hl
    split at h
    · rename_i f hs body hf hh
      have l2:=headers_len _ _ _ _ hh
      split at h
      · rename_i v from_ to id s n e1 e2 e3 e4 e5 e6
        have h:=ite_none h
        subst h
        have g3:=gsum3 hs
        have g1:=gsum1 "To" hs
        have s2:=only_sum e2
        have s3:=only_sum e3
        have s4:=only_sum e4
        have s1:=head_sum (h:=hs) (n:="Via")
        refine ⟨?_,?_,?_,?_⟩
        · have hu:(match f with
              | .request _ u=>u
              | .reply _=>([]:Bt)).length≤l.length:=by
            cases f with
            | request a x=>exact first_len hf
            | reply _=>exact Nat.zero_le _
          show (match f with
              | .request _ u=>u
              | .reply _=>([]:Bt)).length+(((Ql47.get hs "Via").head?).getD []).length+from_.length+id.length≤b.length
          omega
        · show to.length≤b.length
          omega
        · show s.1 < 2 ^ 31
          obtain ⟨sv,_,q2⟩:=Option.bind_eq_some_iff.mp e5
          unfold Ql47.seqOf at q2
          split at q2
          · split at q2
            · rename_i hx
              cases q2
              exact hx.2.2.2.1
            · cases q2
          · cases q2
        · cases f with
          | request a x=>exact fun s e=>nomatch e
          | reply n=>exact fun s e=>by cases e; exact first_reply hf
      · cases h
    · cases h
theorem ackOk {b b2:Bt} {m m2:Ql47.Msg} (h:Ql47.read b=some m) (hb:b.length≤8192) (h2:Ql47.read b2=some m2) (hb2:b2.length≤8192):AckOk m m2:=by
  have a:=read_len h
  have c:=read_len h2
  have:=a.sum
  have:=c.to
  exact ⟨by omega,a.sq⟩
theorem ack_short {b b2:Bt} {m m2:Ql47.Msg} (h:Ql47.read b=some m) (hb:b.length≤8192) (h2:Ql47.read b2=some m2) (hb2:b2.length≤8192):(Ql47.ackOf m m2).length≤16514:=by
  have k:=ack_len (ackOk h hb h2 hb2)
  have:=(read_len h).sum
  have:=(read_len h2).to
  omega
end L2

namespace L2
open PySem PySem.Spec PyProof.Rows
open Ql47 (Tx Out)
structure Sim (pts:List (Addr×PX)) (time begun:Nat) (s:Ql47.St) (C:Nat):Prop where
  now:s.now=time
  nxt:s.next=begun+1
  rel:Paired TxRel (pts.map Prod.snd) s.txs
  ok:∀ t∈pts.map Prod.snd,TxOk t
  ids:(s.txs.map fun u=>u.id).Nodup
  ltn:∀ u∈s.txs,u.id≤begun
  pot:pot (pts.map Prod.snd)≤C
theorem TxRel.id {t:PX} {u:Tx} (h:TxRel t u):u.id=t.id:=by obtain ⟨w,rfl,_⟩:=h; rfl
theorem Paired.mapEq {α β γ:Type} {R:α→β→Prop} {f:α→γ} {g:β→γ} (h:∀ x y,R x y→f x=g y):∀ {l:List α} {m:List β},Paired R l m→l.map f=m.map g
  | _,_,.nil=>rfl
  | _,_,.cons r t=>by rw [List.map_cons,List.map_cons,h _ _ r,Paired.mapEq h t]
theorem Sim.mono {pts:List (Addr×PX)} {time begun C C':Nat} {s:Ql47.St} (h:Sim pts time begun s C) (hc:C≤C'):Sim pts time begun s C':=⟨h.now,h.nxt,h.rel,h.ok,h.ids,h.ltn,Nat.le_trans h.pot hc⟩
theorem ids_filterMap (now:Nat):∀ us:List Tx,List.Sublist ((us.filterMap fun u=>(runU now u).1).map fun u=>u.id) (us.map fun u=>u.id)
  | []=>.slnil
  | u::r=>by
    rw [List.filterMap_cons]
    cases h:(runU now u).1 with
    | none=>exact .cons _ (ids_filterMap now r)
    | some u' =>
      show List.Sublist ((u'::_).map _) _
      rw [List.map_cons,List.map_cons,runU_id h]
      exact .cons₂ _ (ids_filterMap now r)
theorem Sim.pass {pts:List (Addr×PX)} {time begun C:Nat} {s:Ql47.St} (h:Sim pts time begun s C) (now:Nat):Sim (passP now pts) now begun (Ql47.passed s now).1 C∧(Ql47.passed s now).2=passO now pts:=by
  obtain ⟨a1,a2,a3,a4⟩:=pass_rel now h.rel h.ok
  rw [passed_eq s now h.ids]
  refine ⟨⟨rfl,h.nxt,?_,?_,?_,fun u hu=>?_,?_⟩,?_⟩
  · rw [passT_map]; exact a1
  · rw [passT_map]; exact a3
  · exact (ids_filterMap now s.txs).nodup h.ids
  · obtain ⟨v,hv,e⟩:=List.mem_filterMap.mp hu
    rw [runU_id e]
    exact h.ltn v hv
  · rw [passT_map]; exact Nat.le_trans a4 h.pot
  · show (s.txs.flatMap fun u=>(runU now u).2)=_
    rw [a2]
    unfold passO
    rw [List.flatMap_map]
theorem pot_set {i c:Nat} {t':PX}:∀ {ts:List PX},(ts.map fun t=>t.id).Nodup→(∀ t∈ts,t.id=i→phi t'≤phi t+c)→pot (ts.map fun t=>if t.id=i then t' else t)≤pot ts+c
  | [],_,_=>Nat.zero_le _
  | t::r,nd,h=>by
    rw [List.map_cons,List.nodup_cons] at nd
    have e1:∀ (x:PX) (l:List PX),pot (x::l)=phi x+pot l:=fun x l=>by unfold pot; rw [List.map_cons,List.sum_cons]
    rw [List.map_cons,e1,e1]
    by_cases c1:t.id=i
    · have:(r.map fun t=>if t.id=i then t' else t)=r:=by
        rw [List.map_congr_left (g:=fun x=>x) fun x hx=>if_neg fun z=>nd.1 (by rw [c1,← z]; exact List.mem_map.mpr ⟨x,hx,rfl⟩),List.map_id']
      rw [this,if_pos c1]
      have:=h t (by simp) c1
      omega
    · rw [if_neg c1]
      have:=pot_set nd.2 (fun x hx=>h x (List.mem_cons_of_mem _ hx))
      omega
theorem pot_filter (p:PX→Bool):∀ ts:List PX,pot (ts.filter p)≤pot ts
  | []=>Nat.le_refl _
  | t::r=>by
    have e1:∀ (x:PX) (l:List PX),pot (x::l)=phi x+pot l:=fun x l=>by unfold pot; rw [List.map_cons,List.sum_cons]
    have:=pot_filter p r
    rw [List.filter_cons]
    split
    · rw [e1,e1]; omega
    · rw [e1]; omega
theorem Paired.mapR2 {α β:Type} {R:α→β→Prop} {f:α→α} {g:β→β} (h:∀ x y,R x y→R (f x) (g y)):∀ {l:List α} {m:List β},Paired R l m→Paired R (l.map f) (m.map g)
  | _,_,.nil=>.nil
  | _,_,.cons r t=>.cons (h _ _ r) (Paired.mapR2 h t)
theorem Paired.filterR {α β:Type} {R:α→β→Prop} {p:α→Bool} {q:β→Bool} (h:∀ x y,R x y→p x=q y):∀ {l:List α} {m:List β},Paired R l m→Paired R (l.filter p) (m.filter q)
  | _,_,.nil=>.nil
  | _,_,.cons (a:=x) (b:=y) r t=>by
    rw [List.filter_cons,List.filter_cons,h _ _ r]
    split
    · exact .cons r (Paired.filterR h t)
    · exact Paired.filterR h t
theorem Sim.idsT {pts:List (Addr×PX)} {time begun C:Nat} {s:Ql47.St} (h:Sim pts time begun s C):((pts.map Prod.snd).map fun t=>t.id).Nodup:=by
  have e:=Paired.mapEq (f:=fun t:PX=>t.id) (g:=fun u:Tx=>u.id) (fun t u r=>(TxRel.id r).symm) h.rel
  rw [e]
  exact h.ids
theorem nodup_inj {α β:Type} {f:α→β}:∀ {l:List α},(l.map f).Nodup→∀ {x y:α},x∈l→y∈l→f x=f y→x=y
  | [],_,x,y,hx,_,_=>by simp at hx
  | a::r,nd,x,y,hx,hy,e=>by
    rw [List.map_cons,List.nodup_cons] at nd
    rcases List.mem_cons.mp hx with rfl | hx
    · rcases List.mem_cons.mp hy with rfl | hy
      · rfl
      · exact absurd (List.mem_map.mpr ⟨y,hy,e.symm⟩) nd.1
    · rcases List.mem_cons.mp hy with hy' | hy
      · rw [hy'] at e
        exact absurd (List.mem_map.mpr ⟨x,hx,e⟩) nd.1
      · exact nodup_inj nd.2 hx hy e
theorem setP_snd {pts:List (Addr×PX)} (nd:(pts.map Prod.fst).Nodup) (ni:((pts.map Prod.snd).map fun t=>t.id).Nodup) {y:Addr×PX} (hy:y∈pts) (t':PX):(setP pts y.1 t').map Prod.snd=(pts.map Prod.snd).map fun t=>if t.id=y.2.id then t' else t:=by
  unfold setP
  rw [List.map_map,List.map_map]
  refine List.map_congr_left fun z hz=>?_
  show (if z.1=y.1 then (z.1,t') else z).2=if z.2.id=y.2.id then t' else z.2
  by_cases c:z.1=y.1
  · have:z=y:=nodup_inj nd hz hy c
    rw [if_pos c,if_pos (by rw [this])]
  · rw [if_neg c,if_neg fun e=>c ?_]
    rw [List.map_map] at ni
    have:z=y:=nodup_inj (f:=(fun t:PX=>t.id) ∘ Prod.snd) ni hz hy e
    rw [this]
section
variable {pts:List (Addr×PX)} {time begun C c:Nat} {s:Ql47.St} {y:Addr×PX} {t':PX} {u':Tx}
theorem Sim.set (h:Sim pts time begun s C) (nd:(pts.map Prod.fst).Nodup) (hy:y∈pts) (ok:TxOk t') (hr:TxRel t' u') (hi:t'.id=y.2.id) (hp:phi t'≤phi y.2+c):Sim (setP pts y.1 t') time begun (s.put u') (C+c):=by
  have ni:=h.idsT
  have hu:u'.id=y.2.id:=hr.id.trans hi
  refine ⟨h.now,h.nxt,?_,?_,?_,?_,?_⟩
  · rw [setP_snd nd ni hy]
    show Paired TxRel _ (s.txs.map fun x=>if x.id=u'.id then u' else x)
    refine Paired.mapR2 (fun t u r=>?_) h.rel
    rw [hu,r.id]
    by_cases q:t.id=y.2.id
    · rw [if_pos q,if_pos q]; exact hr
    · rw [if_neg q,if_neg q]; exact r
  · rw [setP_snd nd ni hy]
    intro t ht
    obtain ⟨z,hz,rfl⟩:=List.mem_map.mp ht
    by_cases q:z.id=y.2.id
    · rw [if_pos q]; exact ok
    · rw [if_neg q]; exact h.ok z hz
  · show ((s.txs.map fun x=>if x.id=u'.id then u' else x).map fun u=>u.id).Nodup
    have:((s.txs.map fun x=>if x.id=u'.id then u' else x).map fun u=>u.id)=s.txs.map fun u=>u.id:=by
      rw [List.map_map]
      refine List.map_congr_left fun x _=>?_
      show (if x.id=u'.id then u' else x).id=x.id
      by_cases q:x.id=u'.id
      · rw [if_pos q,q]
      · rw [if_neg q]
    rw [this]
    exact h.ids
  · intro u hu'
    obtain ⟨x,hx,rfl⟩:=List.mem_map.mp hu'
    have:=h.ltn x hx
    by_cases q:x.id=u'.id
    · rw [if_pos q,← q]; exact this
    · rw [if_neg q]; exact this
  · rw [setP_snd nd ni hy]
    refine Nat.le_trans (pot_set ni (c:=c) fun t ht e=>?_) (Nat.add_le_add_right h.pot c)
    obtain ⟨z,hz,rfl⟩:=List.mem_map.mp ht
    rw [List.map_map] at ni
    have:z=y:=nodup_inj (f:=(fun t:PX=>t.id) ∘ Prod.snd) ni hz hy e
    rw [this]
    exact hp
theorem dropO_id (h:∀ y∈pts,y.2.ov=false):dropO pts=pts:=List.filter_eq_self.mpr fun y hy=>by rw [h y hy]; rfl
theorem Sim.nov (h:Sim pts time begun s C):∀ y∈pts,y.2.ov=false:=fun y hy=>(h.ok y.2 (List.mem_map.mpr ⟨y,hy,rfl⟩)).ov
theorem Sim.dropO (h:Sim pts time begun s C):Sim (dropO pts) time begun s C:=by rw [dropO_id h.nov]; exact h
theorem Sim.drop (h:Sim pts time begun s C) (nd:(pts.map Prod.fst).Nodup) (hy:y∈pts) (ho:t'.ov=true):Sim (L2.dropO (setP pts y.1 t')) time begun (s.drop y.2.id) C:=by
  have ni:=h.idsT
  have e:(L2.dropO (setP pts y.1 t')).map Prod.snd=(pts.map Prod.snd).filter fun t=>t.id != y.2.id:=by
    unfold L2.dropO
    rw [show (fun z:Addr×PX=>!z.2.ov)=(fun t:PX=>!t.ov) ∘ Prod.snd from rfl,← List.filter_map,setP_snd nd ni hy,List.filter_map]
    have hov:=h.ok
    generalize pts.map Prod.snd=ts at hov
    induction ts with
    | nil=>rfl
    | cons t r ih =>
      have ih:=ih fun x hx=>hov x (List.mem_cons_of_mem _ hx)
      rw [List.filter_cons,List.filter_cons]
      by_cases q:t.id=y.2.id
      · rw [if_neg (by show ¬ (!(if t.id=y.2.id then t' else t).ov)=true; rw [if_pos q,ho]; decide),if_neg (by simpa using q)]
        exact ih
      · rw [if_pos (by show (!(if t.id=y.2.id then t' else t).ov)=true; rw [if_neg q,(hov t (by simp)).ov]; rfl),if_pos (by simpa using q),List.map_cons,if_neg q,ih]
  refine ⟨h.now,h.nxt,?_,?_,?_,?_,?_⟩
  · rw [e]
    exact Paired.filterR (fun t u r=>by rw [r.id]) h.rel
  · rw [e]
    exact fun t ht=>h.ok t (List.mem_filter.mp ht).1
  · exact (List.filter_sublist.map _).nodup h.ids
  · exact fun u hu=>h.ltn u (List.mem_filter.mp hu).1
  · rw [e]
    exact Nat.le_trans (pot_filter _ _) h.pot
theorem Sim.snoc (h:Sim pts time begun s C) {p:Addr} {t:PX} {u:Tx} (ok:TxOk t) (hr:TxRel t u) (hi:t.id=begun+1) (hp:phi t≤c):Sim (pts++[(p,t)]) time (begun+1) ⟨s.now,s.next+1,s.txs++[u]⟩ (C+c):=by
  refine ⟨h.now,by show s.next+1=_; rw [h.nxt],?_,?_,?_,?_,?_⟩
  · rw [List.map_append]
    exact Paired.snoc h.rel hr
  · intro x hx
    rw [List.map_append] at hx
    rcases List.mem_append.mp hx with hx | hx
    · exact h.ok x hx
    · have:x=t:=by simpa using hx
      rw [this]; exact ok
  · show ((s.txs++[u]).map fun u=>u.id).Nodup
    rw [List.map_append,List.nodup_append]
    refine ⟨h.ids,by simp,fun a ha b hb=>?_⟩
    have:b=u.id:=by simpa using hb
    obtain ⟨x,hx,rfl⟩:=List.mem_map.mp ha
    have:=h.ltn x hx
    have:=hr.id
    omega
  · intro x hx
    rcases List.mem_append.mp hx with hx | hx
    · have:=h.ltn x hx
      omega
    · have:x=u:=by simpa using hx
      rw [this,hr.id,hi]
      exact Nat.le_refl _
  · rw [List.map_append]
    unfold L2.pot
    rw [List.map_append,List.sum_append]
    have:=h.pot
    unfold L2.pot at this
    have e0:([t].map phi).sum=phi t:=by simp
    show _+([t].map phi).sum≤_
    rw [e0]
    omega
end
theorem find_rel {R:PX→Tx→Prop} {p:PX→Bool} {q:Tx→Bool}:∀ {pts:List (Addr×PX)} {us:List Tx},Paired R (pts.map Prod.snd) us→(∀ x∈pts,∀ u,R x.2 u→p x.2=q u) →
    (pts.find? (fun y=>p y.2)=none∧us.find? q=none)∨∃ y u,pts.find? (fun y=>p y.2)=some y∧us.find? q=some u∧R y.2 u∧y∈pts∧u∈us
  | [],_,h,_=>by
    cases h
    exact .inl ⟨rfl,rfl⟩
  | y::r,us,h,hp=>by
    rw [List.map_cons] at h
    cases h with
    | @cons _ u _ us' hr ht =>
      have e:=hp y (by simp) u hr
      rw [List.find?_cons,List.find?_cons,← e]
      cases p y.2 with
      | true=>exact .inr ⟨y,u,rfl,rfl,hr,by simp,by simp⟩
      | false =>
        rcases find_rel ht (fun x hx=>hp x (List.mem_cons_of_mem _ hx)) with ⟨a,b⟩ | ⟨y',u',a,b,d,e,f⟩
        · exact .inl ⟨a,b⟩
        · exact .inr ⟨y',u',a,b,d,List.mem_cons_of_mem _ e,List.mem_cons_of_mem _ f⟩
end L2

namespace L2
open PySem PySem.Spec PyProof.Rows
open Ql47 (Tx Out)
def resI (r:Ql47.St×Ql47.Ans):List Int:=r.2.value::r.2.out.flatMap Ql47Neutral.outInts
theorem res_done (d:Ql47.Doing):resI (Ql47.done d)=ansI d.2:=rfl
def ALEN:Nat:=54905
def Code (A:Adr) (C:Addr) (z:Int):Prop:=(C=A.c_WrongMoment∧z=-4)∨(C=A.c_WrongMessage∧z=-2)∨(C=A.c_WrongTransaction∧z=-3)∨(C=A.c_NoTransaction∧z=-1)
theorem oi_append (a b:List Out):outsInts (a++b)=outsInts a++outsInts b:=by unfold outsInts; rw [List.flatMap_append]
theorem oi_wire (i:Nat) (b:Bt):(outsInts [.wire i b]).length=3+b.length:=by
  unfold outsInts
  show (([1,(i:Int),(b.length:Int)]++Ql47Neutral.byteInts b)++[]).length=_
  rw [List.append_nil,List.length_append]
  unfold Ql47Neutral.byteInts
  rw [List.length_map]; rfl
theorem oi_user (i:Nat) (b:Bt):(outsInts [.user i b]).length=3+b.length:=by
  unfold outsInts
  show (([2,(i:Int),(b.length:Int)]++Ql47Neutral.byteInts b)++[]).length=_
  rw [List.append_nil,List.length_append]
  unfold Ql47Neutral.byteInts
  rw [List.length_map]; rfl
theorem runT_out (t:PX) (now:Nat):(outsInts (t.runT now).2).length≤3+phi t:=by
  unfold PX.runT
  by_cases h:t.endCome now=true
  · rw [if_pos h]
    by_cases h2:t.lostEnd=true
    · simp only [if_pos h2]; exact Nat.le_add_right 3 _
    · simp only [if_neg h2]; exact Nat.zero_le _
  · rw [if_neg h]
    by_cases h2:t.againCome now=true
    · rw [if_pos h2]
      have hag:t.ag.isSome=true:=by
        cases h:t.ag with
        | none=>unfold PX.againCome at h2; rw [h] at h2; cases h2
        | some _=>rfl
      show (outsInts [.wire t.id t.sent]).length≤_
      rw [oi_wire]
      unfold phi
      rw [if_pos hag]
      exact Nat.le_refl _
    · rw [if_neg h2]; exact Nat.zero_le _
theorem pass_out (now:Nat):∀ pts:List (Addr×PX),(outsInts (passO now pts)).length≤3 * pts.length+pot (pts.map Prod.snd)
  | []=>Nat.le_refl _
  | y::r=>by
    have i:=pass_out now r
    have j:=runT_out y.2 now
    have e:passO now (y::r)=(y.2.runT now).2++passO now r:=by unfold passO; rw [List.flatMap_cons]
    have e1:pot ((y::r).map Prod.snd)=phi y.2+pot (r.map Prod.snd):=by unfold pot; rw [List.map_cons,List.map_cons,List.sum_cons]
    rw [e,oi_append,List.length_append,e1,List.length_cons]
    omega
theorem ans_len {pts:List (Addr×PX)} {time begun C now:Nat} {s:Ql47.St} (S:Sim pts time begun s C) (few:pts.length≤64) (hC:C≤30000) {o:List Out} (ho:(outsInts o).length≤24712):(ansI (passO now pts++o)).length≤ALEN:=by
  unfold ansI
  rw [List.length_cons,oi_append,List.length_append]
  have:=pass_out now pts
  have:=S.pot
  show _≤54905
  omega
theorem beqD (a b:Bt):(a == b)=decide (a=b):=by
  by_cases h:a=b
  · rw [decide_eq_true h,h]; exact beq_self_eq_true _
  · rw [decide_eq_false h]; exact beq_eq_false_iff_ne.mpr h
theorem kind_ask (t:PX):(kindOf t == .askInvite || kindOf t == .ask)=t.ask:=by
  cases h1:t.ask <;> cases h2:t.inv
  · rw [kind_b h1 h2]; rfl
  · rw [kind_bi h1 h2]; rfl
  · rw [kind_a h1 h2]; rfl
  · rw [kind_ai h1 h2]; rfl
theorem kind_ans (t:PX):(kindOf t == .answerInvite || kindOf t == .answer)=!t.ask:=by
  cases h1:t.ask <;> cases h2:t.inv
  · rw [kind_b h1 h2]; rfl
  · rw [kind_bi h1 h2]; rfl
  · rw [kind_a h1 h2]; rfl
  · rw [kind_ai h1 h2]; rfl
theorem reps_rel {t:PX} {u:Tx} (m:Ql47.Msg) (h:TxRel t u):(t.ask && t.asksLike m)=Ql47.repliesTo m u:=by
  obtain ⟨w,rfl,_⟩:=h
  show _=((kindOf t == .askInvite || kindOf t == .ask) && (t.req.branch == m.branch && t.req.method == m.method))
  rw [kind_ask,beqD,beqD]
  rfl
theorem bel_rel {t:PX} {u:Tx} (m:Ql47.Msg) (ok:TxOk t) (h:TxRel t u):(!t.ask && t.owns m)=Ql47.belongs m u:=by
  obtain ⟨w,rfl,_⟩:=h
  show _=((kindOf t == .answerInvite || kindOf t == .answer) && (t.req.branch == m.branch && (t.req.sentBy == m.sentBy && (t.req.method == m.method || (m.method == Ql47.ACK && t.req.method == Ql47.INVITE)))))
  rw [kind_ans,beqD,beqD,beqD,beqD,beqD]
  congr 1
  unfold PX.owns PX.fits PX.fromThere PX.inv
  by_cases c:m.method=Ql47.ACK
  · rw [if_pos c,c,decide_eq_false ok.na,decide_eq_true rfl,Bool.false_or,Bool.true_and,Bool.and_assoc]
  · rw [if_neg c,decide_eq_false c,Bool.false_and,Bool.or_false,Bool.and_assoc]
theorem Paired.anyR {α β:Type} {R:α→β→Prop} {p:α→Bool} {q:β→Bool} (h:∀ x y,R x y→p x=q y):∀ {l:List α} {m:List β},Paired R l m→l.any p=m.any q
  | _,_,.nil=>rfl
  | _,_,.cons r t=>by rw [List.any_cons,List.any_cons,h _ _ r,Paired.anyR h t]
theorem Sim.len {pts:List (Addr×PX)} {time begun C:Nat} {s:Ql47.St} (h:Sim pts time begun s C):s.txs.length=pts.length:=by
  have:=Paired.length h.rel
  rw [List.length_map] at this
  exact this.symm
theorem first_of {b:Bt} {m:Ql47.Msg} (h:MsgLen b m):(∃ a u,m.first=.request a u∧statN m=0)∨∃ s,m.first=.reply s∧statN m=s∧100≤s:=by
  cases e:m.first with
  | request a u=>exact .inl ⟨a,u,rfl,by unfold statN; rw [e]⟩
  | reply s=>exact .inr ⟨s,rfl,by unfold statN; rw [e],h.st s e⟩
theorem bad_eq {s:Ql47.St} {n now:Nat} (hn:n≤8192):Ql47.bad s n now=if now < s.now∨2 ^ 31≤now then some (-4) else none:=by
  unfold Ql47.bad
  rw [if_neg (by show ¬ 8192 < n; omega)]
theorem setP_same {pts:List (Addr×PX)} (nd:(pts.map Prod.fst).Nodup) {y:Addr×PX} (hy:y∈pts):setP pts y.1 y.2=pts:=by
  unfold setP
  rw [List.map_congr_left (g:=fun z=>z) fun z hz=>?_,List.map_id']
  by_cases c:z.1=y.1
  · rw [if_pos c,nodup_inj nd hz hy c]
  · rw [if_neg c]
theorem pass_nd {pts:List (Addr×PX)} (nd:(pts.map Prod.fst).Nodup) (now:Nat):((passP now pts).map Prod.fst).Nodup:=by
  have e:(pts.map (stepT now)).map Prod.fst=pts.map Prod.fst:=by rw [List.map_map]; rfl
  refine List.Sublist.nodup ?_ nd
  rw [← e]
  exact List.filter_sublist.map _
section
variable {A:Adr} {N0:List Addr} {H:Hp} {E:XK} {Q:VK} {x:Addr} {ps:List Addr} {pts:List (Addr×PX)} {time begun C now:Nat} {s:Ql47.St} {b:Bt}
theorem stay_any (hov:∀ y∈pts,y.2.ov=false) (m:Ql47.Msg):((pts.filter fun y=>!y.2.endCome now).any fun y=>y.2.ask && y.2.asksLike m)=(passP now pts).any fun y=>y.2.ask && y.2.asksLike m:=by
  rw [stay_len hov,List.any_map]
  refine congrArg _ (funext fun y=>?_)
  show _=((y.2.runT now).1.ask && (y.2.runT now).1.asksLike m)
  unfold PX.asksLike
  rw [runT_ask,runT_req]
theorem any_snd (p:PX→Bool) (l:List (Addr×PX)):(l.any fun y=>p y.2)=(l.map Prod.snd).any p:=by rw [List.any_map]; rfl
theorem send_spec (S:Sim pts time begun s C) (few:pts.length≤64) (hC:C≤30000) (hb:b.length≤8192)
    (kf:∀ Cx z,Code A Cx z→Ql47.spec s (.send b b.length now)=(s,Ql47.only z)→Fail H E Cx)
    (kd:∀ pts' time' begun' outs,Sim pts' time' begun' (Ql47.spec s (.send b b.length now)).1 (C+b.length)→resI (Ql47.spec s (.send b b.length now))=ansI outs→(ansI outs).length≤ALEN→Done A N0 H x ps Q time' begun' pts' outs) :
    if now < time∨2 ^ 31≤now then Fail H E A.c_WrongMoment else match Ql47.read b with
    | none=>Fail H E A.c_WrongMessage
    | some m=>if ¬ statN m=0∨m.method=Ql47.ACK then Fail H E A.c_WrongMessage
      else if 64≤(pts.filter fun y=>!y.2.endCome now).length∨((pts.filter fun y=>!y.2.endCome now).any fun y=>y.2.ask && y.2.asksLike m)=true then Fail H E A.c_WrongTransaction
      else ∀ p,Done A N0 H x ps Q now (begun+1) (passP now pts++[(p,(newTx true (begun+1) 0 m b).begin_ now)]) (passO now pts++[.wire (begun+1) b]):=by
  have hbad:=bad_eq (s:=s) (now:=now) hb
  rw [S.now] at hbad
  by_cases h:now < time∨2 ^ 31≤now
  · rw [if_pos h] at hbad ⊢
    exact kf _ _ (.inl ⟨rfl,rfl⟩) (by simp only [Ql47.spec,hbad])
  · rw [if_neg h] at hbad ⊢
    cases hrd:Ql47.read b with
    | none=>exact kf _ _ (.inr (.inl ⟨rfl,rfl⟩)) (by simp only [Ql47.spec,hbad,hrd])
    | some m =>
      show if ¬ statN m=0∨m.method=Ql47.ACK then _ else _
      rcases first_of (read_len hrd) with ⟨a,u,hm,h0⟩ | ⟨st,hm,h0,h1⟩
      · by_cases hk:m.method=Ql47.ACK
        · rw [if_pos (.inr hk)]
          exact kf _ _ (.inr (.inl ⟨rfl,rfl⟩)) (by simp only [Ql47.spec,hbad,hrd,hm,if_pos hk])
        · rw [if_neg fun z=>z.elim (fun z=>z h0) hk]
          obtain ⟨SP,eo⟩:=S.pass now
          have el:(pts.filter fun y=>!y.2.endCome now).length=(Ql47.passed s now).1.txs.length:=by
            rw [SP.len,stay_len S.nov,List.length_map]
          have ea:((pts.filter fun y=>!y.2.endCome now).any fun y=>y.2.ask && y.2.asksLike m)=((Ql47.passed s now).1.txs.any fun t=>(t.kind == .askInvite || t.kind == .ask) && (t.request.branch == m.branch && t.request.method == m.method)):=by
            rw [stay_any S.nov,any_snd (fun t=>t.ask && t.asksLike m)]
            exact Paired.anyR (fun t u r=>reps_rel m r) SP.rel
          rw [el,ea]
          by_cases hc:64≤(Ql47.passed s now).1.txs.length∨((Ql47.passed s now).1.txs.any fun t=>(t.kind == .askInvite || t.kind == .ask) && (t.request.branch == m.branch && t.request.method == m.method))=true
          · rw [if_pos hc]
            refine kf _ _ (.inr (.inr (.inl ⟨rfl,rfl⟩))) ?_
            simp only [Ql47.spec,hbad,hrd,hm,if_neg hk]
            exact if_pos hc
          · rw [if_neg hc]
            have hs:Ql47.spec s (.send b b.length now)=Ql47.done (Ql47.ask m b (Ql47.passed s now)):=by
              simp only [Ql47.spec,hbad,hrd,hm,if_neg hk]
              exact if_neg hc
            intro p
            refine kd _ _ _ _ ?_ ?_ ?_
            · rw [hs]
              have hn:=SP.nxt
              have ht:=SP.now
              have SS:=SP.snoc (p:=p) (c:=b.length) (t:=(newTx true (begun+1) 0 m b).begin_ now) (u:=⟨(Ql47.passed s now).1.next,if m.method=Ql47.INVITE then Ql47.Kind.askInvite else .ask,0,m,b,some ((Ql47.passed s now).1.now+Ql47.T1),Ql47.T1,some ((Ql47.passed s now).1.now+Ql47.LIFE)⟩)
                ⟨rfl,hrd,hb,hk,fun _=>Nat.zero_le _,fun _ _ z=>absurd z (show ¬ (0=1) by decide),fun _ z=>absurd z (show ¬ (0=2) by decide),Nat.le_trans hb (by decide)⟩ ?_ rfl (Nat.le_refl _)
              · exact SS
              · refine ⟨500,?_,fun _=>.inr rfl⟩
                rw [hn,ht]
                have:(if m.method=Ql47.INVITE then Ql47.Kind.askInvite else .ask)=kindOf ((newTx true (begun+1) 0 m b).begin_ now):=by
                  by_cases q:m.method=Ql47.INVITE
                  · rw [if_pos q,kind_ai (t:=(newTx true (begun+1) 0 m b).begin_ now) rfl (show decide (m.method=Ql47.INVITE)=true from decide_eq_true q)]
                  · rw [if_neg q,kind_a (t:=(newTx true (begun+1) 0 m b).begin_ now) rfl (show decide (m.method=Ql47.INVITE)=false from decide_eq_false q)]
                rw [this]
                rfl
            · rw [hs,res_done]
              show ansI ((Ql47.passed s now).2++[.wire (Ql47.passed s now).1.next b])=_
              rw [eo,SP.nxt]
            · exact ans_len S few hC (by rw [oi_wire]; omega)
      · rw [if_pos (.inl (by omega))]
        exact kf _ _ (.inr (.inl ⟨rfl,rfl⟩)) (by simp only [Ql47.spec,hbad,hrd,hm])
theorem tick_spec (S:Sim pts time begun s C) (few:pts.length≤64) (hC:C≤30000) (h:¬ (now < time∨2 ^ 31≤now)) :
    Sim (passP now pts) now begun (Ql47.spec s (.tick now)).1 C∧resI (Ql47.spec s (.tick now))=ansI (passO now pts)∧(ansI (passO now pts)).length≤ALEN:=by
  have hbad:=bad_eq (s:=s) (n:=0) (now:=now) (Nat.zero_le _)
  rw [S.now,if_neg h] at hbad
  obtain ⟨SP,eo⟩:=S.pass now
  have hs:Ql47.spec s (.tick now)=Ql47.done (Ql47.passed s now):=by simp only [Ql47.spec,hbad]
  rw [hs]
  refine ⟨SP,by rw [res_done,eo],?_⟩
  have:=ans_len (now:=now) S few hC (o:=[]) (by decide)
  rw [List.append_nil] at this
  exact this
theorem tick_bad (S:Sim pts time begun s C) (h:now < time∨2 ^ 31≤now):Ql47.spec s (.tick now)=(s,Ql47.only (-4)):=by
  have hbad:=bad_eq (s:=s) (n:=0) (now:=now) (Nat.zero_le _)
  rw [S.now,if_pos h] at hbad
  simp only [Ql47.spec,hbad]
theorem state_spec (S:Sim pts time begun s C) (num:Nat):(∃ y∈pts,(pts.find? fun y=>decide (y.2.id=num))=some y∧Ql47.spec s (.state num)=(s,Ql47.only y.2.st))∨((pts.find? fun y=>decide (y.2.id=num))=none∧Ql47.spec s (.state num)=(s,Ql47.only (-1))):=by
  rcases find_rel (p:=fun t=>decide (t.id=num)) (q:=fun u=>u.id == num) S.rel (fun z _ u r=>by rw [r.id]; rfl) with ⟨a,b⟩ | ⟨y,u,a,b,r,hy,_⟩
  · exact .inr ⟨a,by simp only [Ql47.spec,b]⟩
  · refine .inl ⟨y,hy,a,?_⟩
    obtain ⟨w,rfl,_⟩:=r
    simp only [Ql47.spec,b]
    rfl
end
end L2

namespace L2
open PySem PySem.Spec PyProof.Rows
open Ql47 (Tx Out)
theorem phi0 {t:PX} (h:t.ag=none):phi t=0:=by unfold phi; rw [h]; rfl
theorem phi_le (t:PX):phi t≤t.sent.length:=by unfold phi; split <;> omega
section
variable {A:Adr} {N0:List Addr} {H:Hp} {E:XK} {Q:VK} {x:Addr} {ps:List Addr} {pts P:List (Addr×PX)} {time begun C now:Nat} {s:Ql47.St} {b:Bt}
theorem tx_eq {t':PX} {k:Ql47.Kind} {i st w:Nat} {r:Ql47.Msg} {sn:Bt} {ag en en':Option Nat} (h:kindOf t'=k) (he:en=en'):(⟨i,k,st,r,sn,ag,w,en⟩:Tx)=⟨i,kindOf t',st,r,sn,ag,w,en'⟩:=by rw [h,he]
theorem replied_sim {m:Ql47.Msg} {st:Nat} {d:Ql47.Doing} {y:Addr×PX} {u:Tx} (SP:Sim P now begun d.1 C) (nd:(P.map Prod.fst).Nodup) (hy:y∈P) (hr:TxRel y.2 u) (hk:y.2.ask=true) (hrd:Ql47.read b=some m) (hb:b.length≤8192) (hm:m.first=.reply st) :
    Sim (dropO (setP P y.1 (y.2.takeReply m b now).1)) now begun (Ql47.replied m b st u d).1 C∧(Ql47.replied m b st u d).2=d.2++(y.2.takeReply m b now).2:=by
  have ok:=SP.ok y.2 (List.mem_map.mpr ⟨y,hy,rfl⟩)
  have hst:statN m=st:=by unfold statN; rw [hm]
  have hid:=hr.id
  obtain ⟨w,rfl,hw⟩:=hr
  have a2:=ok.a2 hk
  have sm:setP P y.1 y.2=P:=setP_same nd hy
  have fin:∀ {t':PX} {w':Nat} {u':Tx},TxOk t'→WOk t' w'→t'.id=y.2.id→phi t'≤phi y.2→u'=toTx t' w'→Sim (dropO (setP P y.1 t')) now begun (d.1.put u') C:=fun {t' w' u'} o1 o2 o3 o4 o5=>(SP.set (c:=0) nd hy o1 ⟨w',o5,o2⟩ o3 o4).dropO
  unfold PX.takeReply
  cases hi:y.2.inv with
  | true =>
    rw [if_pos rfl]
    have ek:(toTx y.2 w).kind=.askInvite:=kind_ai hk hi
    unfold Ql47.replied PX.takeInv
    rw [ek,hst]
    show Sim _ _ _ (if y.2.st≤1 then _ else _:Ql47.Doing).1 _∧(if y.2.st≤1 then _ else _:Ql47.Doing).2=_
    by_cases h2:y.2.st=2
    · rw [if_neg (show ¬ y.2.st≤1 by omega),if_pos h2]
      by_cases h3:300≤st
      · rw [if_pos h3,if_pos h3]
        refine ⟨?_,rfl⟩
        show Sim (dropO (setP P y.1 y.2)) now begun d.1 C
        rw [sm]; exact SP.dropO
      · rw [if_neg h3,if_neg h3]
        refine ⟨?_,by simp⟩
        show Sim (dropO (setP P y.1 y.2)) now begun d.1 C
        rw [sm]; exact SP.dropO
    · rw [if_pos (show y.2.st≤1 by omega),if_neg h2]
      by_cases h3:300≤st
      · rw [if_neg (show ¬ st < 200 by omega),if_neg (show ¬ st < 300 by omega),if_pos h3]
        refine ⟨?_,rfl⟩
        have e1:=SP.now
        refine fin (t':=(({ y.2 with sent:=Ql47.ackOf y.2.req m }:PX)).completeA now 32000) (w':=w) ?_ (fun z=>absurd rfl z) rfl ?_ (tx_eq ek (by rw [e1]; rfl))
        · exact ⟨ok.ov,ok.rd,ok.rl,ok.na,fun _=>Nat.le_refl 2,fun _ _ z=>absurd z (show ¬ (2=1) by decide),fun _ _=>rfl,ack_short ok.rd ok.rl hrd hb⟩
        · rw [phi0 rfl]; exact Nat.zero_le _
      · rw [if_neg h3]
        by_cases h4:200≤st
        · rw [if_neg (show ¬ st < 200 by omega),if_pos (show st < 300 by omega)]
          refine ⟨SP.drop nd hy (decide_eq_true h4),rfl⟩
        · rw [if_pos (show st < 200 by omega),decide_eq_false h4]
          refine ⟨?_,rfl⟩
          refine fin (t':={ y.2 with st:=1,ag:=none,en:=none,ov:=false }) (w':=w) ?_ (fun z=>absurd rfl z) rfl ?_ (tx_eq ek rfl)
          · exact ⟨rfl,ok.rd,ok.rl,ok.na,fun _=>(by show 1≤2; decide),fun _ _ _=>⟨rfl,rfl⟩,fun _ _=>rfl,ok.sl⟩
          · rw [phi0 rfl]; exact Nat.zero_le _
  | false =>
    rw [if_neg (by decide)]
    have ek:(toTx y.2 w).kind=.ask:=kind_a hk hi
    unfold Ql47.replied
    rw [ek]
    show Sim _ _ _ (if y.2.st≤1 then _ else _:Ql47.Doing).1 _∧(if y.2.st≤1 then _ else _:Ql47.Doing).2=_
    have ee:y.2.early=decide (y.2.st≤1):=by
      unfold PX.early
      by_cases a:y.2.st=0
      · rw [a]; rfl
      · by_cases b:y.2.st=1
        · rw [b]; rfl
        · rw [decide_eq_false a,decide_eq_false b,decide_eq_false (by omega)]; rfl
    rw [ee]
    by_cases h1:y.2.st≤1
    · rw [if_pos h1,if_pos (decide_eq_true h1)]
      unfold PX.takeOther
      rw [hst]
      by_cases h4:200≤st
      · rw [if_neg (show ¬ st < 200 by omega),if_pos h4]
        refine ⟨?_,rfl⟩
        have e1:=SP.now
        refine fin (t':=y.2.completeA now 5000) (w':=w) ?_ (fun z=>absurd rfl z) rfl ?_ (tx_eq ek (by rw [e1]; rfl))
        · exact ⟨ok.ov,ok.rd,ok.rl,ok.na,fun _=>Nat.le_refl 2,fun _ _ z=>absurd z (show ¬ (2=1) by decide),fun _ _=>rfl,ok.sl⟩
        · rw [phi0 rfl]; exact Nat.zero_le _
      · rw [if_pos (show st < 200 by omega),if_neg h4]
        refine ⟨?_,rfl⟩
        refine fin (t':={ y.2 with st:=1 }) (w':=Ql47.T2) ?_ (fun _=>.inl ⟨hk,hi,(by show ¬ (1=0); decide)⟩) rfl (Nat.le_refl _) (tx_eq ek rfl)
        exact ⟨ok.ov,ok.rd,ok.rl,ok.na,fun _=>(by show 1≤2; decide),(fun _ z _=>by have z':y.2.inv=true:=z; rw [hi] at z'; cases z'),fun _ z=>absurd z (show ¬ (1=2) by decide),ok.sl⟩
    · rw [if_neg h1,if_neg (by rw [decide_eq_false h1]; decide)]
      refine ⟨?_,by simp⟩
      show Sim (dropO (setP P y.1 y.2)) now begun d.1 C
      rw [sm]; exact SP.dropO
theorem sl_of {y:Addr×PX} {s:Ql47.St} (SP:Sim P now begun s C) (hy:y∈P):y.2.sent.length≤16514:=(SP.ok y.2 (List.mem_map.mpr ⟨y,hy,rfl⟩)).sl
theorem takeReply_out {m:Ql47.Msg} {y:Addr×PX} {s:Ql47.St} (SP:Sim P now begun s C) (hy:y∈P) (hrd:Ql47.read b=some m) (hb:b.length≤8192):(outsInts (y.2.takeReply m b now).2).length≤24712:=by
  have ok:=SP.ok y.2 (List.mem_map.mpr ⟨y,hy,rfl⟩)
  have l1:=ok.sl
  have l2:=ack_short ok.rd ok.rl hrd hb
  unfold PX.takeReply PX.takeInv
  by_cases h:y.2.inv=true
  · rw [if_pos h]
    by_cases h2:y.2.st=2
    · rw [if_pos h2]
      by_cases h3:300≤statN m
      · simp only [if_pos h3]; rw [oi_wire]; omega
      · simp only [if_neg h3]; exact Nat.zero_le _
    · rw [if_neg h2]
      by_cases h3:300≤statN m
      · rw [if_pos h3]
        show (outsInts ([.wire y.2.id (Ql47.ackOf y.2.req m)]++[.user y.2.id b])).length≤_
        rw [oi_append,List.length_append,oi_wire,oi_user]; omega
      · rw [if_neg h3]
        show (outsInts [.user y.2.id b]).length≤_
        rw [oi_user]; omega
  · rw [if_neg h]
    by_cases h2:y.2.early=true
    · rw [if_pos h2]
      show (outsInts [.user y.2.id b]).length≤_
      rw [oi_user]; omega
    · rw [if_neg h2]; exact Nat.zero_le _
theorem takeReq_out {m:Ql47.Msg} {y:Addr×PX} {s:Ql47.St} (SP:Sim P now begun s C) (hy:y∈P):(outsInts (y.2.takeReq m now).2).length≤24712:=by
  have l1:=sl_of SP hy
  unfold PX.takeReq
  by_cases h:m.method=Ql47.ACK
  · rw [if_pos h]; exact Nat.zero_le _
  · rw [if_neg h]
    by_cases h2:y.2.st≠3∧0 < y.2.sent.length
    · rw [if_pos h2]
      show (outsInts [.wire y.2.id y.2.sent]).length≤_
      rw [oi_wire]; omega
    · rw [if_neg h2]; exact Nat.zero_le _
theorem requested_sim {m:Ql47.Msg} {d:Ql47.Doing} {y:Addr×PX} {u:Tx} (SP:Sim P now begun d.1 C) (nd:(P.map Prod.fst).Nodup) (hy:y∈P) (hr:TxRel y.2 u) (ho:(!y.2.ask && y.2.owns m)=true) (hf:d.1.txs.find? (Ql47.belongs m)=some u) :
    Sim (dropO (setP P y.1 (y.2.takeReq m now).1)) now begun (Ql47.requested m b d).1 C∧(Ql47.requested m b d).2=d.2++(y.2.takeReq m now).2:=by
  have ok:=SP.ok y.2 (List.mem_map.mpr ⟨y,hy,rfl⟩)
  rw [Bool.and_eq_true] at ho
  have hk:y.2.ask=false:=nb_true ho.1
  obtain ⟨w,rfl,hw⟩:=hr
  have sm:setP P y.1 y.2=P:=setP_same nd hy
  unfold Ql47.requested
  rw [hf]
  show Sim _ _ _ (if m.method=Ql47.ACK then (if (toTx y.2 w).kind=.answerInvite∧y.2.st=2 then _ else d) else if y.2.sent=[]∨y.2.st=3 then d else _:Ql47.Doing).1 _∧(if m.method=Ql47.ACK then (if (toTx y.2 w).kind=.answerInvite∧y.2.st=2 then _ else d) else if y.2.sent=[]∨y.2.st=3 then d else _:Ql47.Doing).2=_
  unfold PX.takeReq
  by_cases hA:m.method=Ql47.ACK
  · rw [if_pos hA,if_pos hA]
    have hi:y.2.inv=true:=by
      have:=ho.2
      unfold PX.owns at this
      rw [if_pos hA,Bool.and_eq_true] at this
      exact this.2
    have ek:(toTx y.2 w).kind=.answerInvite:=kind_bi hk hi
    unfold PX.takeAck
    by_cases h2:y.2.st=2
    · rw [if_pos (show (toTx y.2 w).kind=.answerInvite∧y.2.st=2 from ⟨ek,h2⟩),if_pos h2]
      refine ⟨?_,(List.append_nil _).symm⟩
      have e1:=SP.now
      show Sim _ now begun (d.1.put { toTx y.2 w with state:=3,again:=none,ends:=some (d.1.now+Ql47.T4) }) C
      rw [e1]
      refine (SP.set (c:=0) (t':={ y.2 with st:=3,ag:=none,en:=some (now+5000) }) nd hy ?_ ⟨w,rfl,fun z=>absurd rfl z⟩ rfl ?_).dropO
      · have hk':¬ y.2.ask=true:=by rw [hk]; decide
        exact ⟨ok.ov,ok.rd,ok.rl,ok.na,fun z=>absurd z hk',fun z=>absurd z hk',fun z=>absurd z hk',ok.sl⟩
      · rw [phi0 rfl]; exact Nat.zero_le _
    · rw [if_neg (show ¬ ((toTx y.2 w).kind=.answerInvite∧y.2.st=2) from fun z=>h2 z.2),if_neg h2]
      refine ⟨?_,(List.append_nil _).symm⟩
      show Sim (dropO (setP P y.1 y.2)) now begun d.1 C
      rw [sm]; exact SP.dropO
  · rw [if_neg hA,if_neg hA]
    by_cases h:y.2.sent=[]∨y.2.st=3
    · rw [if_pos h,if_neg]
      · refine ⟨?_,(List.append_nil _).symm⟩
        show Sim (dropO (setP P y.1 y.2)) now begun d.1 C
        rw [sm]; exact SP.dropO
      · rintro ⟨z1,z2⟩
        rcases h with h | h
        · rw [h] at z2; exact absurd z2 (by decide)
        · exact z1 h
    · rw [if_neg h,if_pos ⟨fun z=>h (.inr z),List.length_pos_iff.mpr fun z=>h (.inl z)⟩]
      refine ⟨?_,rfl⟩
      show Sim (dropO (setP P y.1 y.2)) now begun d.1 C
      rw [sm]; exact SP.dropO
theorem requested_none {m:Ql47.Msg} {d:Ql47.Doing} (e:d.1.txs.find? (Ql47.belongs m)=none):Ql47.requested m b d=if m.method=Ql47.ACK then (d.1,d.2++[.user 0 b]) else if 64≤d.1.txs.length then d
    else (⟨d.1.now,d.1.next+1,d.1.txs++[⟨d.1.next,if m.method=Ql47.INVITE then Ql47.Kind.answerInvite else .answer,if m.method=Ql47.INVITE then 1 else 0,m,[],none,Ql47.T1,none⟩]⟩,d.2++[.user d.1.next b]):=by
  unfold Ql47.requested
  rw [e]
  rfl
theorem receive_spec (S:Sim pts time begun s C) (nd:(pts.map Prod.fst).Nodup) (few:pts.length≤64) (hC:C≤30000) (hb:b.length≤8192)
    (kf:∀ Cx z,Code A Cx z→Ql47.spec s (.receive b b.length now)=(s,Ql47.only z)→Fail H E Cx)
    (kd:∀ pts' time' begun' outs,Sim pts' time' begun' (Ql47.spec s (.receive b b.length now)).1 (C+b.length)→resI (Ql47.spec s (.receive b b.length now))=ansI outs→(ansI outs).length≤ALEN→Done A N0 H x ps Q time' begun' pts' outs) :
    if now < time∨2 ^ 31≤now then Fail H E A.c_WrongMoment else match Ql47.read b with
    | none=>Done A N0 H x ps Q now begun (passP now pts) (passO now pts)
    | some m=>if statN m=0 then
        (match (passP now pts).find? fun y=>!y.2.ask && y.2.owns m with
        | some y=>Done A N0 H x ps Q now begun (dropO (setP (passP now pts) y.1 (y.2.takeReq m now).1)) (passO now pts++(y.2.takeReq m now).2)
        | none=>if m.method=Ql47.ACK then Done A N0 H x ps Q now begun (dropO (passP now pts)) (passO now pts++[.user 0 b])
          else if (passP now pts).length < 64 then ∀ p,Done A N0 H x ps Q now (begun+1) (dropO (passP now pts++[(p,newTx false (begun+1) (if m.method=Ql47.INVITE then 1 else 0) m b)])) (passO now pts++[.user (begun+1) b])
          else Done A N0 H x ps Q now begun (dropO (passP now pts)) (passO now pts))
      else Done A N0 H x ps Q now begun (dropO (replyP m b now (passP now pts)).1) (passO now pts++(replyP m b now (passP now pts)).2):=by
  have hbad:=bad_eq (s:=s) (now:=now) hb
  rw [S.now] at hbad
  obtain ⟨SP,eo⟩:=S.pass now
  have ndP:=pass_nd nd now
  have len0:(ansI (passO now pts)).length≤ALEN:=by
    have:=ans_len (now:=now) S few hC (o:=[]) (by decide)
    rw [List.append_nil] at this
    exact this
  have lenU:∀ i,(ansI (passO now pts++[.user i b])).length≤ALEN:=fun i=>ans_len S few hC (by rw [oi_user]; omega)
  by_cases h:now < time∨2 ^ 31≤now
  · rw [if_pos h] at hbad ⊢
    exact kf _ _ (.inl ⟨rfl,rfl⟩) (by simp only [Ql47.spec,hbad])
  · rw [if_neg h] at hbad ⊢
    cases hrd:Ql47.read b with
    | none =>
      have hs:Ql47.spec s (.receive b b.length now)=Ql47.done (Ql47.passed s now):=by simp only [Ql47.spec,hbad,hrd]
      rw [hs] at kd
      exact kd _ _ _ _ (SP.mono (Nat.le_add_right _ _)) (by rw [res_done,eo]) len0
    | some m =>
      show if statN m=0 then _ else _
      rcases first_of (read_len hrd) with ⟨a,u,hm,h0⟩ | ⟨st,hm,h0,h1⟩
      · rw [if_pos h0]
        have hs:Ql47.spec s (.receive b b.length now)=Ql47.done (Ql47.requested m b (Ql47.passed s now)):=by simp only [Ql47.spec,hbad,hrd,hm]
        rw [hs] at kd
        rcases find_rel (p:=fun t=>!t.ask && t.owns m) (q:=Ql47.belongs m) SP.rel (fun z hz u r=>bel_rel m (SP.ok z.2 (List.mem_map.mpr ⟨z,hz,rfl⟩)) r) with ⟨e1,e2⟩ | ⟨y,u,e1,e2,hr,hy,hu⟩
        · rw [e1]
          show if m.method=Ql47.ACK then _ else _
          have er:=requested_none (b:=b) e2
          by_cases hk:m.method=Ql47.ACK
          · rw [if_pos hk] at er ⊢
            rw [er] at kd
            exact kd _ _ _ _ (SP.dropO.mono (Nat.le_add_right _ _)) (by rw [res_done,eo]) (lenU 0)
          · rw [if_neg hk] at er ⊢
            by_cases hl:(passP now pts).length < 64
            · rw [if_neg (show ¬ 64≤(Ql47.passed s now).1.txs.length by rw [SP.len]; omega)] at er
              rw [if_pos hl]
              rw [er] at kd
              intro p
              have hn:=SP.nxt
              have SS:=SP.snoc (p:=p) (c:=b.length) (t:=newTx false (begun+1) (if m.method=Ql47.INVITE then 1 else 0) m b) (u:=⟨(Ql47.passed s now).1.next,if m.method=Ql47.INVITE then Ql47.Kind.answerInvite else .answer,if m.method=Ql47.INVITE then 1 else 0,m,[],none,Ql47.T1,none⟩)
                ⟨rfl,hrd,hb,hk,fun z=>absurd z (show ¬ false=true by decide),fun z=>absurd z (show ¬ false=true by decide),fun z=>absurd z (show ¬ false=true by decide),Nat.zero_le _⟩ ?_ rfl (by rw [phi0 rfl]; exact Nat.zero_le _)
              · refine kd _ _ _ _ SS.dropO ?_ (lenU _)
                rw [res_done,hn,eo]
              · refine ⟨Ql47.T1,?_,fun z=>absurd rfl z⟩
                rw [hn]
                have:(if m.method=Ql47.INVITE then Ql47.Kind.answerInvite else .answer)=kindOf (newTx false (begun+1) (if m.method=Ql47.INVITE then 1 else 0) m b):=by
                  by_cases q:m.method=Ql47.INVITE
                  · rw [if_pos q,kind_bi (t:=newTx false (begun+1) (if m.method=Ql47.INVITE then 1 else 0) m b) rfl (show decide (m.method=Ql47.INVITE)=true from decide_eq_true q)]
                  · rw [if_neg q,kind_b (t:=newTx false (begun+1) (if m.method=Ql47.INVITE then 1 else 0) m b) rfl (show decide (m.method=Ql47.INVITE)=false from decide_eq_false q)]
                rw [this]
                rfl
            · rw [if_pos (show 64≤(Ql47.passed s now).1.txs.length by rw [SP.len]; omega)] at er
              rw [if_neg hl]
              rw [er] at kd
              exact kd _ _ _ _ (SP.dropO.mono (Nat.le_add_right _ _)) (by rw [res_done,eo]) len0
        · rw [e1]
          obtain ⟨q1,q2⟩:=requested_sim (b:=b) SP ndP hy hr (List.find?_some (p:=fun y:Addr×PX=>!y.2.ask && y.2.owns m) e1) e2
          refine kd _ _ _ _ (q1.mono (Nat.le_add_right _ _)) ?_ (ans_len S few hC (takeReq_out SP hy))
          rw [res_done,q2,eo]
      · rw [if_neg (by omega)]
        have hs:Ql47.spec s (.receive b b.length now)=(match (Ql47.passed s now).1.txs.find? (Ql47.repliesTo m) with
          | some t=>Ql47.done (Ql47.replied m b st t (Ql47.passed s now))
          | none=>Ql47.done ((Ql47.passed s now).1,(Ql47.passed s now).2++[.user 0 b])):=by
          simp only [Ql47.spec,hbad,hrd,hm]
          rfl
        unfold replyP
        rcases find_rel (p:=fun t=>t.ask && t.asksLike m) (q:=Ql47.repliesTo m) SP.rel (fun z hz u r=>reps_rel m r) with ⟨e1,e2⟩ | ⟨y,u,e1,e2,hr,hy,hu⟩
        · rw [e2] at hs
          rw [e1]
          rw [hs] at kd
          exact kd _ _ _ _ (SP.dropO.mono (Nat.le_add_right _ _)) (by rw [res_done,eo]) (lenU 0)
        · rw [e2] at hs
          rw [e1]
          rw [hs] at kd
          have hk:y.2.ask=true:=by
            have:=List.find?_some e1
            simp only [Bool.and_eq_true] at this
            exact this.1
          obtain ⟨q1,q2⟩:=replied_sim SP ndP hy hr hk hrd hb hm
          refine kd _ _ _ _ (q1.mono (Nat.le_add_right _ _)) ?_ (ans_len S few hC (takeReply_out SP hy hrd hb))
          rw [res_done,q2,eo]
end
end L2

namespace L2
open PySem PySem.Spec PyProof.Rows
open Ql47 (Tx Out)
theorem runT_id (t:PX) (now:Nat):(t.runT now).1.id=t.id:=by
  rcases runT_cases t now with h | h | h <;> rw [h] <;> rfl
theorem runT_st (t:PX) (now:Nat):(t.runT now).1.st=t.st:=by
  rcases runT_cases t now with h | h | h <;> rw [h] <;> rfl
def predA (num:Nat) (m:Ql47.Msg) (t:PX):Bool:=decide (t.id=num) && (!t.ask && (t.early && t.fits m))
theorem predA_run (num:Nat) (m:Ql47.Msg) (t:PX) (now:Nat):predA num m (t.runT now).1=predA num m t:=by
  unfold predA PX.early PX.fits PX.fromThere
  rw [runT_id,runT_ask,runT_st,runT_req]
theorem early_le (t:PX):t.early=decide (t.st≤1):=by
  unfold PX.early
  by_cases a:t.st=0
  · rw [a]; rfl
  · by_cases b:t.st=1
    · rw [b]; rfl
    · rw [decide_eq_false a,decide_eq_false b,decide_eq_false (by omega)]; rfl
theorem may_rel {t:PX} {u:Tx} (m:Ql47.Msg) (ok:TxOk t) (h:TxRel t u):((u.kind=.answerInvite∨u.kind=.answer)∧u.state≤1∧m.method=u.request.method∧Ql47.belongs m u=true) ↔ (!t.ask && (t.early && t.fits m))=true:=by
  have hb:=bel_rel m ok h
  have hk:=kind_ans t
  obtain ⟨w,rfl,_⟩:=h
  rw [← hb,early_le]
  show ((kindOf t=.answerInvite∨kindOf t=.answer)∧t.st≤1∧m.method=t.req.method∧_) ↔ _
  have ho:m.method=t.req.method→t.owns m=t.fits m:=fun e=>by
    unfold PX.owns
    rw [if_neg (by rw [e]; exact ok.na)]
  have hf:t.fits m=true→m.method=t.req.method:=fun e=>by
    unfold PX.fits at e
    rw [Bool.and_eq_true] at e
    exact (of_decide_eq_true e.2).symm
  constructor
  · rintro ⟨_,a,b,c⟩
    rw [ho b,Bool.and_eq_true] at c
    rw [c.1,c.2,decide_eq_true a]; rfl
  · intro e
    rw [Bool.and_eq_true,Bool.and_eq_true] at e
    obtain ⟨e1,e2,e3⟩:=e
    have b:=hf e3
    refine ⟨?_,of_decide_eq_true e2,b,by rw [ho b,e1,e3]; rfl⟩
    rw [e1,Bool.or_eq_true] at hk
    rcases hk with z | z
    · exact .inl (eq_of_beq z)
    · exact .inr (eq_of_beq z)
section
variable {A:Adr} {N0:List Addr} {H:Hp} {E:XK} {Q:VK} {x:Addr} {ps:List Addr} {pts P:List (Addr×PX)} {time begun C now:Nat} {s:Ql47.St} {b:Bt}
theorem reply_sim {m:Ql47.Msg} {st:Nat} {d:Ql47.Doing} {y:Addr×PX} {u:Tx} (SP:Sim P now begun d.1 C) (nd:(P.map Prod.fst).Nodup) (hy:y∈P) (hr:TxRel y.2 u) (hk:y.2.ask=false) (hb:b.length≤8192) (hm:statN m=st) :
    Sim (dropO (setP P y.1 (y.2.sendReply m b now))) now begun (Ql47.reply b st u d).1 (C+b.length)∧(Ql47.reply b st u d).2=d.2++[.wire y.2.id b]:=by
  have ok:=SP.ok y.2 (List.mem_map.mpr ⟨y,hy,rfl⟩)
  obtain ⟨w,rfl,hw⟩:=hr
  have hk':¬ y.2.ask=true:=by rw [hk]; decide
  have hw':y.2.ag≠none→w=y.2.w:=fun z=>(hw z).elim (fun q=>absurd q.1 hk') id
  have e1:=SP.now
  have hsl:b.length≤16514:=Nat.le_trans hb (by decide)
  have fin:∀ {t':PX} {w':Nat} {u':Tx},TxOk t'→WOk t' w'→t'.id=y.2.id→t'.sent=b→u'=toTx t' w'→Sim (dropO (setP P y.1 t')) now begun (d.1.put u') (C+b.length):=fun {t' w' u'} o1 o2 o3 o4 o5=>(SP.set (c:=b.length) nd hy o1 ⟨w',o5,o2⟩ o3 (by have:=phi_le t'; rw [o4] at this; omega)).dropO
  unfold Ql47.reply PX.sendReply
  rw [hm]
  by_cases h2:st < 200
  · rw [if_pos h2,if_pos h2]
    refine ⟨?_,rfl⟩
    exact fin (t':={ y.2 with sent:=b,st:=1 }) (w':=w) ⟨ok.ov,ok.rd,ok.rl,ok.na,fun z=>absurd z hk',fun z=>absurd z hk',fun z=>absurd z hk',hsl⟩ (fun z=>.inr (hw' z)) rfl rfl rfl
  · rw [if_neg h2,if_neg h2]
    cases hi:y.2.inv with
    | true =>
      have ek:(toTx y.2 w).kind=.answerInvite:=kind_bi hk hi
      rw [ek]
      show Sim _ _ _ (if st < 300 then _ else _:Ql47.Doing).1 _∧(if st < 300 then _ else _:Ql47.Doing).2=_
      by_cases h3:st < 300
      · rw [if_pos h3,if_pos (show true=true∧st < 300 from ⟨rfl,h3⟩)]
        exact ⟨(SP.drop nd hy rfl).mono (Nat.le_add_right _ _),rfl⟩
      · rw [if_neg h3,if_neg (show ¬ (true=true∧st < 300) from fun z=>h3 z.2)]
        refine ⟨?_,rfl⟩
        unfold PX.completeB
        rw [if_pos (show ({ y.2 with sent:=b }:PX).inv=true from hi)]
        refine fin (t':={ y.2 with sent:=b,st:=2,en:=some (now+32000),w:=500,ag:=some (now+500) }) (w':=500) ⟨ok.ov,ok.rd,ok.rl,ok.na,fun z=>absurd z hk',fun z=>absurd z hk',fun z=>absurd z hk',hsl⟩ (fun z=>.inr rfl) rfl rfl ?_
        rw [e1]
        exact tx_eq ek rfl
    | false =>
      have ek:(toTx y.2 w).kind=.answer:=kind_b hk hi
      rw [ek]
      rw [if_neg (show ¬ (false=true∧st < 300) from fun z=>absurd z.1 (by decide))]
      refine ⟨?_,rfl⟩
      unfold PX.completeB
      rw [if_neg (show ¬ ({ y.2 with sent:=b }:PX).inv=true from fun z=>by have z':y.2.inv=true:=z; rw [hi] at z'; cases z')]
      refine fin (t':={ y.2 with sent:=b,st:=2,en:=some (now+32000) }) (w':=w) ⟨ok.ov,ok.rd,ok.rl,ok.na,fun z=>absurd z hk',fun z=>absurd z hk',fun z=>absurd z hk',hsl⟩ (fun z=>.inr (hw' z)) rfl rfl ?_
      show _=(⟨_,_,_,_,_,_,_,_⟩:Tx)
      rw [e1]
      exact tx_eq ek rfl
theorem reply_spec {num:Nat} (S:Sim pts time begun s C) (nd:(pts.map Prod.fst).Nodup) (few:pts.length≤64) (hC:C≤30000) (hb:b.length≤8192)
    (kf:∀ Cx z,Code A Cx z→Ql47.spec s (.reply num b b.length now)=(s,Ql47.only z)→Fail H E Cx)
    (kd:∀ pts' time' begun' outs,Sim pts' time' begun' (Ql47.spec s (.reply num b b.length now)).1 (C+b.length)→resI (Ql47.spec s (.reply num b b.length now))=ansI outs→(ansI outs).length≤ALEN→Done A N0 H x ps Q time' begun' pts' outs) :
    if now < time∨2 ^ 31≤now then Fail H E A.c_WrongMoment else match Ql47.read b with
    | none=>Fail H E A.c_WrongMessage
    | some m=>if statN m=0 then Fail H E A.c_WrongMessage
      else match (pts.filter fun y=>!y.2.endCome now).find? fun y=>decide (y.2.id=num) && (!y.2.ask && (y.2.early && y.2.fits m)) with
      | none=>Fail H E A.c_WrongTransaction
      | some y=>Done A N0 H x ps Q now begun (dropO (setP (passP now pts) y.1 ((y.2.runT now).1.sendReply m b now))) (passO now pts++[.wire (y.2.runT now).1.id b]):=by
  have hbad:=bad_eq (s:=s) (now:=now) hb
  rw [S.now] at hbad
  obtain ⟨SP,eo⟩:=S.pass now
  have ndP:=pass_nd nd now
  by_cases h:now < time∨2 ^ 31≤now
  · rw [if_pos h] at hbad ⊢
    exact kf _ _ (.inl ⟨rfl,rfl⟩) (by simp only [Ql47.spec,hbad])
  · rw [if_neg h] at hbad ⊢
    cases hrd:Ql47.read b with
    | none=>exact kf _ _ (.inr (.inl ⟨rfl,rfl⟩)) (by simp only [Ql47.spec,hbad,hrd])
    | some m =>
      show if statN m=0 then _ else _
      rcases first_of (read_len hrd) with ⟨a,u,hm,h0⟩ | ⟨st,hm,h0,h1⟩
      · rw [if_pos h0]
        exact kf _ _ (.inr (.inl ⟨rfl,rfl⟩)) (by simp only [Ql47.spec,hbad,hrd,hm])
      · rw [if_neg (by omega)]
        have hs:Ql47.spec s (.reply num b b.length now)=(match (Ql47.passed s now).1.txs.find? fun t=>t.id == num with
          | some t=>if (t.kind=.answerInvite∨t.kind=.answer)∧t.state≤1∧m.method=t.request.method∧Ql47.belongs m t=true then Ql47.done (Ql47.reply b st t (Ql47.passed s now)) else (s,Ql47.only (-3))
          | none=>(s,Ql47.only (-3))):=by
          simp only [Ql47.spec,hbad,hrd,hm]
          rfl
        have eP:(passP now pts).find? (fun y=>predA num m y.2)=((pts.filter fun y=>!y.2.endCome now).find? fun y=>predA num m y.2).map (stepT now):=by
          rw [stay_len S.nov,List.find?_map]
          refine congrArg _ (congrArg (fun p=>List.find? p _) (funext fun y=>?_))
          exact predA_run num m y.2 now
        show match (pts.filter fun y=>!y.2.endCome now).find? fun y=>predA num m y.2 with
          | none=>Fail H E A.c_WrongTransaction
          | some y=>Done A N0 H x ps Q now begun (dropO (setP (passP now pts) y.1 ((y.2.runT now).1.sendReply m b now))) (passO now pts++[.wire (y.2.runT now).1.id b])
        cases hf:(pts.filter fun y=>!y.2.endCome now).find? fun y=>predA num m y.2 with
        | none =>
          rw [hf] at eP
          refine kf _ _ (.inr (.inr (.inl ⟨rfl,rfl⟩))) ?_
          rw [hs]
          rcases find_rel (p:=fun t=>decide (t.id=num)) (q:=fun u=>u.id == num) SP.rel (fun z _ u r=>by rw [r.id]; rfl) with ⟨_,e2⟩ | ⟨y,u,e1,e2,hr,hy,hu⟩
          · rw [e2]
          · rw [e2]
            refine if_neg fun z=>?_
            have hp:=(may_rel m (SP.ok y.2 (List.mem_map.mpr ⟨y,hy,rfl⟩)) hr).mp z
            have hid:=List.find?_some (p:=fun y:Addr×PX=>decide (y.2.id=num)) e1
            have:=List.find?_eq_none.mp eP y hy
            exact this (by show (decide (y.2.id=num) && _)=true; rw [hid,hp]; rfl)
        | some y0 =>
          rw [hf] at eP
          have hp:=List.find?_some (p:=fun y:Addr×PX=>predA num m y.2) eP
          have hy:=List.mem_of_find?_eq_some eP
          show Done A N0 H x ps Q now begun (dropO (setP (passP now pts) y0.1 ((y0.2.runT now).1.sendReply m b now))) (passO now pts++[.wire (y0.2.runT now).1.id b])
          change Done A N0 H x ps Q now begun (dropO (setP (passP now pts) (stepT now y0).1 ((stepT now y0).2.sendReply m b now))) (passO now pts++[.wire (stepT now y0).2.id b])
          generalize stepT now y0=y at eP hp hy
          have hp':(decide (y.2.id=num) && (!y.2.ask && (y.2.early && y.2.fits m)))=true:=hp
          rw [Bool.and_eq_true] at hp'
          have hid:y.2.id=num:=of_decide_eq_true hp'.1
          have hk:y.2.ask=false:=by
            have:=hp'.2
            rw [Bool.and_eq_true] at this
            exact nb_true this.1
          rcases find_rel (p:=fun t=>decide (t.id=num)) (q:=fun u=>u.id == num) SP.rel (fun z _ u r=>by rw [r.id]; rfl) with ⟨e1,_⟩ | ⟨y',u,e1,e2,hr,hy',hu⟩
          · exact absurd (decide_eq_true hid) (List.find?_eq_none.mp e1 y hy)
          · have hid':=of_decide_eq_true (List.find?_some (p:=fun y:Addr×PX=>decide (y.2.id=num)) e1)
            have ni:=SP.idsT
            rw [List.map_map] at ni
            have:y'=y:=nodup_inj (f:=(fun t:PX=>t.id) ∘ Prod.snd) ni hy' hy (hid'.trans hid.symm)
            subst this
            rw [e2] at hs
            have hs':Ql47.spec s (.reply num b b.length now)=Ql47.done (Ql47.reply b st u (Ql47.passed s now)):=by
              rw [hs]
              exact if_pos ((may_rel m (SP.ok y'.2 (List.mem_map.mpr ⟨y',hy,rfl⟩)) hr).mpr hp'.2)
            obtain ⟨q1,q2⟩:=reply_sim (m:=m) SP ndP hy hr hk hb h0
            rw [hs'] at kd
            refine kd _ _ _ _ q1 ?_ (ans_len S few hC (by rw [oi_wire]; omega))
            rw [res_done,q2,eo]
end
end L2

namespace L2
open PySem PySem.Spec PyProof.Rows
inductive PCl where
  | send (now:Nat) (b:Bt)
  | reply (num now:Nat) (b:Bt)
  | receive (now:Nat) (b:Bt)
  | tick (now:Nat)
  | state (num:Nat)
def PCl.code:PCl→Nat
  | .send ..=>1
  | .reply ..=>2
  | .receive ..=>3
  | .tick ..=>4
  | .state ..=>5
def rowE (b:Bt):List Int:=((b.length:Nat):Int)::Ql47Neutral.byteInts b
def PCl.enc:PCl→List Int
  | .send now b=>((now:Nat):Int)::rowE b
  | .reply num now b=>((num:Nat):Int)::((now:Nat):Int)::rowE b
  | .receive now b=>((now:Nat):Int)::rowE b
  | .tick now=>[((now:Nat):Int)]
  | .state num=>[((num:Nat):Int)]
def PCl.len:PCl→Nat
  | .send _ b=>b.length
  | .reply _ _ b=>b.length
  | .receive _ b=>b.length
  | _=>0
def PCl.call:PCl→Ql47.Call
  | .send now b=>.send b b.length now
  | .reply num now b=>.reply num b b.length now
  | .receive now b=>.receive b b.length now
  | .tick now=>.tick now
  | .state num=>.state num
theorem enc_len (pc:PCl):pc.len≤pc.enc.length:=by
  cases pc <;> simp [PCl.len,PCl.enc,rowE,Ql47Neutral.byteInts] <;> omega
theorem row_spec {r x t:List Int} (h:PyFlat.row r=some (x,t)):r=((x.length:Nat):Int)::(x++t):=by
  unfold PyFlat.row at h
  split at h
  · cases h
  · rename_i n r'
    split at h
    · rename_i hn
      cases h
      rw [List.take_append_drop,List.length_take,Nat.min_eq_left hn.2]
      congr 1
      omega
    · cases h
theorem rows1 {r t:List Int} {xs:List (List Int)} (h:PyFlat.rows 1 r=some (xs,t)):∃ x,xs=[x]∧r=((x.length:Nat):Int)::(x++t):=by
  unfold PyFlat.rows at h
  split at h
  · cases h
  · rename_i x s hr
    unfold PyFlat.rows at h
    cases h
    exact ⟨x,rfl,row_spec hr⟩
theorem bytes_of {x:List Int} (h:NeutralIO.bytes x=true):Ql47Neutral.byteInts (Ql47Neutral.octets x)=x:=by
  unfold Ql47Neutral.byteInts Ql47Neutral.octets
  rw [List.map_map,List.map_congr_left (g:=fun z=>z) fun z hz=>?_,List.map_id']
  unfold NeutralIO.bytes at h
  have:=List.all_eq_true.mp h z hz
  rw [Bool.and_eq_true] at this
  have h1:=of_decide_eq_true this.1
  have h2:=of_decide_eq_true this.2
  show (((UInt8.ofNat z.toNat).toNat:Nat):Int)=z
  rw [UInt8.toNat_ofNat',Nat.mod_eq_of_lt (by omega)]
  omega
theorem nat_of {z:Int} (h:Ql47Neutral.u32 z=true):z=((z.toNat:Nat):Int):=by
  unfold Ql47Neutral.u32 NeutralIO.within at h
  rw [Bool.and_eq_true] at h
  have:=of_decide_eq_true h.1
  omega
theorem bytes_row {x:List Int} (h:Ql47Neutral.bytes ((x.length:Nat):Int) 0 8192 x=true):NeutralIO.bytes x=true∧x.length≤8192:=by
  unfold Ql47Neutral.bytes Ql47Neutral.so at h
  rw [Bool.and_eq_true] at h
  refine ⟨h.1,?_⟩
  have h2:=h.2
  by_cases c:NeutralIO.within ((x.length:Nat):Int) 0 8192=true
  · unfold NeutralIO.within at c
    rw [Bool.and_eq_true] at c
    have:=of_decide_eq_true c.2
    omega
  · rw [if_neg c] at h2
    have:=eq_of_beq h2
    omega
theorem oct_len (x:List Int):(Ql47Neutral.octets x).length=x.length:=by unfold Ql47Neutral.octets; rw [List.length_map]
theorem rowE_of {x:List Int} (h:NeutralIO.bytes x=true):rowE (Ql47Neutral.octets x)=((x.length:Nat):Int)::x:=by
  unfold rowE
  rw [oct_len,bytes_of h]
theorem cut1 {r:List Int} (h:¬ r.length < 1):∃ a r',r=a::r':=by
  cases r with
  | nil=>simp at h
  | cons a r'=>exact ⟨a,r',rfl⟩
theorem cut2 {r:List Int} (h:¬ r.length < 2):∃ a b r',r=a::b::r':=by
  obtain ⟨a,r',rfl⟩:=cut1 (r:=r) (by omega)
  obtain ⟨b,r'',rfl⟩:=cut1 (r:=r') (by simp at h; omega)
  exact ⟨a,b,r'',rfl⟩
theorem parse {p:Int} {r t:List Int} {cl:List (List Int)} (h:PyFlat.call PyQl47.shape (p::r)=some (cl,t)) (hm:Ql47Neutral.may (PyQl47.whole cl)=true) :
    (p=0∧r=t∧PyQl47.whole cl=[[0]])∨∃ pc:PCl,p=((pc.code:Nat):Int)∧r=pc.enc++t∧Ql47Neutral.callOf (PyQl47.whole cl)=some pc.call∧pc.len≤8192:=by
  unfold PyFlat.call at h
  simp only at h
  by_cases h0:p=0
  · subst h0
    rw [show PyQl47.shape 0=some (0,0) from rfl] at h
    simp [PyFlat.rows] at h
    obtain ⟨rfl,rfl⟩:=h
    exact .inl ⟨rfl,rfl,rfl⟩
  · right
    by_cases h1:p=1
    · subst h1
      rw [show PyQl47.shape 1=some (1,1) from rfl] at h
      simp only at h
      split at h
      · cases h
      · rename_i hl
        split at h
        · cases h
        · rename_i xs t' hr
          cases h
          obtain ⟨a,r',rfl⟩:=cut1 hl
          obtain ⟨x,rfl,e⟩:=rows1 hr
          rw [show (a::r').drop 1=r' from rfl] at e
          subst e
          have hm':(Ql47Neutral.u32 ((x.length:Nat):Int) && (Ql47Neutral.u32 a && Ql47Neutral.bytes ((x.length:Nat):Int) 0 8192 x))=true:=hm
          rw [Bool.and_eq_true,Bool.and_eq_true] at hm'
          obtain ⟨b1,b2⟩:=bytes_row hm'.2.2
          refine ⟨.send a.toNat (Ql47Neutral.octets x),rfl,?_,?_,by show (Ql47Neutral.octets x).length≤_; rw [oct_len]; exact b2⟩
          · show _=(((a.toNat:Nat):Int)::rowE (Ql47Neutral.octets x))++_
            rw [rowE_of b1,← nat_of hm'.2.1]
            simp
          · show some (Ql47.Call.send (Ql47Neutral.octets x) ((x.length:Nat):Int).toNat a.toNat)=some (.send (Ql47Neutral.octets x) (Ql47Neutral.octets x).length a.toNat)
            rw [oct_len]; rfl
    · by_cases h2:p=2
      · subst h2
        rw [show PyQl47.shape 2=some (2,1) from rfl] at h
        simp only at h
        split at h
        · cases h
        · rename_i hl
          split at h
          · cases h
          · rename_i xs t' hr
            cases h
            obtain ⟨a,c,r',rfl⟩:=cut2 hl
            obtain ⟨x,rfl,e⟩:=rows1 hr
            rw [show (a::c::r').drop 2=r' from rfl] at e
            subst e
            have hm':(Ql47Neutral.u32 a && (Ql47Neutral.u32 ((x.length:Nat):Int) && (Ql47Neutral.u32 c && Ql47Neutral.bytes ((x.length:Nat):Int) 0 8192 x)))=true:=hm
            rw [Bool.and_eq_true,Bool.and_eq_true,Bool.and_eq_true] at hm'
            obtain ⟨b1,b2⟩:=bytes_row hm'.2.2.2
            refine ⟨.reply a.toNat c.toNat (Ql47Neutral.octets x),rfl,?_,?_,by show (Ql47Neutral.octets x).length≤_; rw [oct_len]; exact b2⟩
            · show _=(((a.toNat:Nat):Int)::((c.toNat:Nat):Int)::rowE (Ql47Neutral.octets x))++_
              rw [rowE_of b1,← nat_of hm'.1,← nat_of hm'.2.2.1]
              simp
            · show some (Ql47.Call.reply a.toNat (Ql47Neutral.octets x) ((x.length:Nat):Int).toNat c.toNat)=some (.reply a.toNat (Ql47Neutral.octets x) (Ql47Neutral.octets x).length c.toNat)
              rw [oct_len]; rfl
      · by_cases h3:p=3
        · subst h3
          rw [show PyQl47.shape 3=some (1,1) from rfl] at h
          simp only at h
          split at h
          · cases h
          · rename_i hl
            split at h
            · cases h
            · rename_i xs t' hr
              cases h
              obtain ⟨a,r',rfl⟩:=cut1 hl
              obtain ⟨x,rfl,e⟩:=rows1 hr
              rw [show (a::r').drop 1=r' from rfl] at e
              subst e
              have hm':(Ql47Neutral.u32 ((x.length:Nat):Int) && (Ql47Neutral.u32 a && Ql47Neutral.bytes ((x.length:Nat):Int) 0 8192 x))=true:=hm
              rw [Bool.and_eq_true,Bool.and_eq_true] at hm'
              obtain ⟨b1,b2⟩:=bytes_row hm'.2.2
              refine ⟨.receive a.toNat (Ql47Neutral.octets x),rfl,?_,?_,by show (Ql47Neutral.octets x).length≤_; rw [oct_len]; exact b2⟩
              · show _=(((a.toNat:Nat):Int)::rowE (Ql47Neutral.octets x))++_
                rw [rowE_of b1,← nat_of hm'.2.1]
                simp
              · show some (Ql47.Call.receive (Ql47Neutral.octets x) ((x.length:Nat):Int).toNat a.toNat)=some (.receive (Ql47Neutral.octets x) (Ql47Neutral.octets x).length a.toNat)
                rw [oct_len]; rfl
        · by_cases h4:p=4
          · subst h4
            rw [show PyQl47.shape 4=some (1,0) from rfl] at h
            simp only [PyFlat.rows] at h
            split at h
            · cases h
            · rename_i hl
              cases h
              obtain ⟨a,r',rfl⟩:=cut1 hl
              have hm':Ql47Neutral.u32 a=true:=hm
              refine ⟨.tick a.toNat,rfl,?_,rfl,Nat.zero_le _⟩
              show _=[((a.toNat:Nat):Int)]++_
              rw [← nat_of hm']
              rfl
          · by_cases h5:p=5
            · subst h5
              rw [show PyQl47.shape 5=some (1,0) from rfl] at h
              simp only [PyFlat.rows] at h
              split at h
              · cases h
              · rename_i hl
                cases h
                obtain ⟨a,r',rfl⟩:=cut1 hl
                have hm':Ql47Neutral.u32 a=true:=hm
                refine ⟨.state a.toNat,rfl,?_,rfl,Nat.zero_le _⟩
                show _=[((a.toNat:Nat):Int)]++_
                rw [← nat_of hm']
                rfl
            · have:PyQl47.shape p=none:=by unfold PyQl47.shape; rw [if_neg h0,if_neg h1,if_neg h2,if_neg h3,if_neg h4,if_neg h5]
              rw [this] at h
              cases h
theorem step_call {s:Ql47.St} {cl:List (List Int)} {pc:PCl} (h:Ql47Neutral.callOf cl=some pc.call):Ql47Neutral.step s cl=((Ql47.spec s pc.call).1,resI (Ql47.spec s pc.call)):=by
  unfold Ql47Neutral.step
  rw [h]
  rfl
theorem step_begin (s:Ql47.St):Ql47Neutral.step s [[0]]=(Ql47.empty,[0]):=rfl
end L2

namespace L2
open PySem PySem.Spec PyProof.Rows
def rdF (c:Addr) (pl:Nat):List (Str×V):=[("calls",.ref c),("place",.int ((pl:Nat):Int))]
section
variable {c:Addr} {pl:Nat}
theorem rf_calls:(rdF c pl).lookup ("calls":Str)=some (V.ref c):=by kernel_rfl
theorem rf_place:(rdF c pl).lookup ("place":Str)=some (V.int ((pl:Nat):Int)):=by kernel_rfl
theorem rp_place {i:Int} (n:Nat) (e:i=((n:Nat):Int)):putF "place" (.int i) (rdF c pl)=rdF c n:=by subst e; kernel_rfl
theorem rf_lt:(rdF c pl).length < 1000:=by show 2 < 1000; decide
theorem rf_no (m:Str) (h:((["calls","place"]:List Str).contains m)=false):(rdF c pl).lookup m=none:=by
  unfold rdF
  simp only [List.contains_cons,List.contains_nil,Bool.or_eq_false_iff] at h
  obtain ⟨h1,h2,_⟩:=h
  simp only [List.lookup_cons,h1,h2,List.lookup_nil]
end
theorem drop_get {ns r:List Int} {pl:Nat} {n:Int} (h:ns.drop pl=n::r):ns[pl]?=some n:=by
  have:(ns.drop pl)[0]?=some n:=by rw [h]; rfl
  rw [List.getElem?_drop] at this
  exact this
theorem drop_next {ns r:List Int} {pl:Nat} {n:Int} (h:ns.drop pl=n::r):ns.drop (pl+1)=r:=by
  rw [← List.drop_drop,h]
  rfl
section
variable {P:Program} {w:World} {K:PySem.W.Frag} {mg:Str→Option Value} {base:Heap} {A:Adr}
def sp_qbm (A:Adr):Sp:=fun vs H Q _=>∃ (rd dx c:Addr),vs=[.ref rd,.ref c]∧H rd=some (.ins A.c_Reader dx [])∧∀ H',SameX rd H H'→H' rd=some (.ins A.c_Reader dx (rdF c 0))→Q .non H'
theorem ok_qbm (T:Txt K mg A):FnOk P w K mg base CX0 1 A.f_qbm A.v_qbm ["self","calls"] (sp_qbm A):=by
  refine T.d_qbm.fn.ok sc_qbm (fun vs H Q E h=>?_) (fun cdv A' outer s H vs Q E hr h=>?_)
  · obtain ⟨rd,dx,c,rfl,_⟩:=h
    rfl
  · obtain ⟨rd,dx,c,rfl,e,k⟩:=h
    refine ⟨_,(pss_cons
 (ps_fld (pv 0) (pv 1) rfl)
 (pss_one
 (ps_fld (pv 0) pe_int rfl))),?_⟩
    refine ⟨_,rfl,_,rfl,rd,_,dx,_,rfl,e,T.cl_Reader,T.n_Reader_calls,lt1000 nil_len (by decide),?_⟩
    refine ⟨_,rfl,rd,_,dx,_,rfl,upd_same,T.cl_Reader,T.n_Reader_place,lt1000 (pf_len nil_len) (by decide),?_⟩
    rw [upd_upd]
    refine k _ (SameX.refl H).upd ?_
    rw [upd_same]
    kernel_rfl
def sp_qbl (K:PySem.W.Frag) (A:Adr):Sp:=fun vs H Q _=>∃ (rd dx c:Addr) (pl:Nat) (ns:List Int),vs=[.ref rd]∧H rd=some (.ins A.c_Reader dx (rdF c pl))∧SqL K H c (ns.map V.int)∧Q (.bl (decide (pl < ns.length))) H
theorem ok_qbl (T:Txt K mg A):FnOk P w K mg base CX0 1 A.f_qbl A.v_qbl ["self"] (sp_qbl K A):=by
  refine T.d_qbl.fn.ok sc_qbl (fun vs H Q E h=>?_) (fun cdv A' outer s H vs Q E hr h=>?_)
  · obtain ⟨rd,dx,c,pl,ns,rfl,_⟩:=h
    rfl
  · obtain ⟨rd,dx,c,pl,ns,rfl,e,hS,k⟩:=h
    refine ⟨_,(pss_one
 (ps_ret (pe_cmpR op_lt (pe_fld (pv 0) rfl) (pe_callB call_len_seq (by rfl) T.b_len bt_len (pa_cons (pe_fld (pv 0) rfl) pa_nil)) (nomark _)))),?_⟩
    refine ⟨_,rfl,rd,_,dx,_,_,rfl,e,T.cl_Reader,T.n_Reader_place,rf_place,_,rfl,rd,_,dx,_,_,rfl,e,T.cl_Reader,T.n_Reader_calls,rf_calls,c,_,rfl,.inl hS,_,_,rfl,rfl,?_⟩
    refine Qb k ?_
    rw [List.length_map]
    exact (dlt pl ns.length).symm
def sp_qbo (K:PySem.W.Frag) (A:Adr):Sp:=fun vs H Q _=>∃ (rd dx c:Addr) (pl:Nat) (ns r:List Int) (n:Int),vs=[.ref rd]∧H rd=some (.ins A.c_Reader dx (rdF c pl))∧SqL K H c (ns.map V.int)∧ns.drop pl=n::r∧Q (.int n) (upd H rd (.ins A.c_Reader dx (rdF c (pl+1))))
theorem ok_qbo (T:Txt K mg A):FnOk P w K mg base CX0 1 A.f_qbo A.v_qbo ["self"] (sp_qbo K A):=by
  refine T.d_qbo.fn.ok sc_qbo (fun vs H Q E h=>?_) (fun cdv A' outer s H vs Q E hr h=>?_)
  · obtain ⟨rd,dx,c,pl,ns,r,n,rfl,_⟩:=h
    rfl
  · obtain ⟨rd,dx,c,pl,ns,r,n,rfl,e,hS,hd,k⟩:=h
    refine ⟨_,(pss_cons
 (ps_set (i:=1) sc_qbo.nd rfl (by first | exact Or.inl rfl | exact Or.inr rfl) (pe_ix ix_list (pe_fld (pv 0) rfl) (pe_fld (pv 0) rfl) (fun _ _=>rfl)))
 (pss_cons
 (ps_fldaug (pv 0) pe_int in_add)
 (pss_one
 (ps_ret (pv 1))))),?_⟩
    have hg:(ns.map V.int)[pl]?=some (.int n):=by rw [List.getElem?_map,drop_get hd]; rfl
    refine ⟨_,rfl,rd,_,dx,_,_,rfl,e,T.cl_Reader,T.n_Reader_calls,rf_calls,_,rfl,rd,_,dx,_,_,rfl,e,T.cl_Reader,T.n_Reader_place,rf_place,c,_,_,_,rfl,rfl,hS,at_of (j:=pl) rfl hg,?_⟩
    refine ⟨_,rfl,rd,_,dx,_,_,rfl,e,T.cl_Reader,T.n_Reader_place,rf_place,_,_,rfl,rfl,dx,_,e,rf_lt,?_⟩
    rw [rp_place (pl+1) (by omega)]
    exact ⟨_,rfl,k⟩
def sp_qbn (K:PySem.W.Frag) (A:Adr):Sp:=fun vs H Q _=>∃ (rd dx c:Addr) (pl:Nat) (ns r:List Int) (b:Bt),vs=[.ref rd]∧H rd=some (.ins A.c_Reader dx (rdF c pl))∧SqL K H c (ns.map V.int)∧(∀ H',SameX rd H H'→SqL K H' c (ns.map V.int))∧ns.drop pl=rowE b++r∧b.length≤8192 ∧
  ∀ a H',SameX rd H H'→H a=none→H' rd=some (.ins A.c_Reader dx (rdF c (pl+1+b.length)))→IsB H' a b→Q (.ref a) H'
theorem ok_qbn (T:Txt K mg A):FnOk P w K mg base (CXE P w) 2 A.f_qbn A.v_qbn ["self"] (sp_qbn K A):=by
  refine T.d_qbn.fn.okE sc_qbn (fun vs H Q E h=>?_) (fun cdv A' outer s H vs Q E hr h b=>?_)
  · obtain ⟨rd,dx,c,pl,ns,r,b,rfl,_⟩:=h
    rfl
  · obtain ⟨rd,dx,c,pl,ns,r,bs,rfl,e,hS,hK,hd,hl,k⟩:=h
    refine ⟨_,(pss_cons
 (ps_set (i:=1) sc_qbn.nd rfl (by first | exact Or.inl rfl | exact Or.inr rfl) (pe_meth0 (pv 0) T.cl_Reader T.d_qbo.me (ok_qbo T) (hr.mono (by decide)) T.d_qbo.bd .nil pass0))
 (pss_cons
 (ps_set (i:=2) sc_qbn.nd rfl (by first | exact Or.inl rfl | exact Or.inr rfl) (pe_fld (pv 0) rfl))
 (pss_cons
 (ps_fldaug (pv 0) (pv 1) in_add)
 (pss_cons
 (ps_if (pt_cmpR op_gt (pv 1) (pgi T.g_MOST_OCTETS) (nomark _))
 (pss_one
 (ps_raise b rfl rfl T.g_TooLong T.x_TooLong))
 pss_nil)
 (pss_one
 (ps_ret (pe_slice sl_list (pe_fld (pv 0) rfl) (po_some (pv 2)) (po_some (pe_fld (pv 0) rfl))))))))),?_⟩
    have hd':ns.drop pl=((bs.length:Nat):Int)::(Ql47Neutral.byteInts bs++r):=hd
    have hd1:=drop_next hd'
    refine ⟨_,rfl,rd,dx,_,rfl,e,rf_no _ (by decide +kernel),rd,dx,c,pl,ns,_,_,rfl,e,hS,hd',?_⟩
    refine ⟨_,rfl,rd,_,dx,_,_,rfl,upd_same,T.cl_Reader,T.n_Reader_place,rf_place,?_⟩
    refine ⟨_,rfl,rd,_,dx,_,_,rfl,upd_same,T.cl_Reader,T.n_Reader_place,rf_place,_,rfl,_,_,rfl,rfl,dx,_,upd_same,rf_lt,?_⟩
    rw [rp_place (pl+1+bs.length) (by omega),upd_upd]
    have sx:SameX rd H (upd H rd (.ins A.c_Reader dx (rdF c (pl+1+bs.length)))):=(SameX.refl H).upd
    have hS1:=hK _ sx
    have e1:upd H rd (.ins A.c_Reader dx (rdF c (pl+1+bs.length))) rd=some (.ins A.c_Reader dx (rdF c (pl+1+bs.length))):=upd_same
    generalize upd H rd (.ins A.c_Reader dx (rdF c (pl+1+bs.length)))=H1 at sx hS1 e1 ⊢
    refine ⟨_,rfl,_,_,rfl,rfl,_,rfl,?_⟩
    have ng:¬ decide (((bs.length:Nat):Int) > 8192)=true:=fun z=>by
      have:=of_decide_eq_true z
      omega
    refine ite2 (fun h=>absurd h ng) fun _=>?_
    refine ⟨_,rfl,rd,_,dx,_,_,rfl,e1,T.cl_Reader,T.n_Reader_calls,rf_calls,_,rfl,_,rfl,_,rfl,rd,_,dx,_,_,rfl,e1,T.cl_Reader,T.n_Reader_place,rf_place,_,rfl,c,_,rfl,hS1,fun p hp=>?_⟩
    have es:cutV (ns.map V.int) (some (((pl+1:Nat):Nat):Int)) (some ((pl+1+bs.length:Nat):Int))=LB bs:=by
      rw [cutV_mid,← ints_LB,← List.map_take,← List.map_drop]
      congr 1
      rw [List.drop_take,hd1,show pl+1+bs.length - (pl+1)=(Ql47Neutral.byteInts bs).length from by unfold Ql47Neutral.byteInts; rw [List.length_map]; omega,List.take_left]
    rw [es]
    have hp0:H p=none:=sx.free (by rw [e1]; simp) hp
    have npr:rd≠p:=ne_of_none e1 hp
    refine k p _ (sx.trans (SameX.of (Same.put0 hp))) hp0 (by rw [upd_ne npr]; exact e1) ⟨upd_same,Nat.le_trans hl (by decide)⟩
end
end L2

namespace L2
open PySem PySem.Spec PyProof.Rows
section
variable {K:PySem.W.Frag} {mg:Str→Option Value} {A:Adr} {N:List Addr} {H H':Hp} {x tl rd dr c:Addr} {pts:List (Addr×PX)} {time begun pl:Nat}
theorem SqL.keep {M:List Addr} {xs:List V} (h:SqL K H c xs) (k:Keep M H H') (hn:∀ ys,Rd H c (.lst ys)→c ∉ M):SqL K H' c xs:=by
  rcases h with (h | ⟨o,h⟩) | h
  · exact .inl (.inl (k _ _ h (hn _ (.inl h))))
  · exact .inl (.inr ⟨o,k _ _ h (hn _ (.inr ⟨o,h⟩))⟩)
  · exact .inr h
theorem rd_ne {ys:List V} {C dx:Addr} {fs:List (Str×V)} {a:Addr} (h:Rd H c (.lst ys)) (e:H a=some (.ins C dx fs)):c≠a:=fun z=>by
  rw [← z] at e
  rcases h with h | ⟨o,h⟩ <;> rw [e] at h <;> cases h
theorem SqL.xr {xs:List V} {C dx:Addr} {fs:List (Str×V)} (h:SqL K H c xs) (e:H rd=some (.ins C dx fs)) (sx:SameX rd H H'):SqL K H' c xs :=
  h.keep (Keep.ofX sx (by simp):Keep [rd] H H') fun ys hy z=>rd_ne hy e (mem1 z)
theorem TAt.ne_rd {p:Addr} {t:PX} (h:TAt A N H p t) (e:H rd=some (.ins A.c_Reader dr (rdF c pl))):p≠rd:=fun z=>by
  obtain ⟨dt,q1,ls,et,_⟩:=h.ex
  rw [z,e] at et
  injection et with et
  injection et with _ _ et
  injection et with et _
  injection et with et _
  exact absurd et (by decide +kernel)
theorem EndAt.ne_rd (h:EndAt A N H x tl pts time begun) (e:H rd=some (.ins A.c_Reader dr (rdF c pl))):x≠rd:=fun z=>by
  obtain ⟨dx,et⟩:=h.ob
  rw [z,e] at et
  injection et with et
  injection et with _ _ et
  injection et with et _
  injection et with et _
  exact absurd et (by decide +kernel)
theorem EndAt.rd_out (h:EndAt A N H x tl pts time begun) (e:H rd=some (.ins A.c_Reader dr (rdF c pl))):rd ∉ x::pts.map Prod.fst:=fun z=>by
  rcases List.mem_cons.mp z with z | z
  · exact h.ne_rd e z.symm
  · obtain ⟨y,hy,q⟩:=List.mem_map.mp z
    exact (h.tx y hy).ne_rd e q
theorem LOk.keepRd {N0:List Addr} {C dx:Addr} {fs:List (Str×V)} (h:LOk N0 H) (e:H rd=some (.ins C dx fs)) (sx:SameX rd H H'):LOk N0 H':=fun z hz=>by
  obtain ⟨zs,ez⟩:=h z hz
  exact ⟨zs,sx _ _ ez (ne_of ez e (by intro q; cases q))⟩
theorem EndAt.keepRd (T:Txt K mg A) (h:EndAt A N H x tl pts time begun) (e:H rd=some (.ins A.c_Reader dr (rdF c pl))) (sx:SameX rd H H'):EndAt A N H' x tl pts time begun:=by
  obtain ⟨dx,ex⟩:=h.ob
  have k:Keep [rd] H H':=Keep.ofX sx (by simp)
  have mo:MutOk A N H [rd]:=fun y hy=>by
    rw [mem1 hy]
    exact .inr ⟨_,_,_,e,T.nm_Reader⟩
  exact ⟨⟨dx,sx _ _ ex (h.ne_rd e)⟩,sx _ _ h.ls (ne_of h.ls e (by intro z; cases z)),fun y hy=>(h.tx y hy).keep k mo (by simpa using (h.tx y hy).ne_rd e),h.nd,h.tn,h.few⟩
end
structure AnsK (A:Adr) (N0:List Addr) (H:Hp) (E:XK) (Q:VK) (x rd dr c tl:Addr) (pts:List (Addr×PX)) (s:Ql47.St) (C pl':Nat) (call:Ql47.Call) (len:Nat):Prop where
  no:∀ Cx z H',Code A Cx z→Ql47.spec s call=(s,Ql47.only z)→SameX rd H H'→H' rd=some (.ins A.c_Reader dr (rdF c pl'))→E (.ref Cx) none H'
  ok:∀ q tl' pts' time' begun' H',Keep (x::rd::pts.map Prod.fst) H H'→Fr H (x::rd::pts.map Prod.fst) q→Fr H (tl::x::rd::pts.map Prod.fst) tl'→EndAt A (tl'::N0) H' x tl' pts' time' begun'→Sim pts' time' begun' (Ql47.spec s call).1 (C+len) →
    H' rd=some (.ins A.c_Reader dr (rdF c pl'))→H' q=some (.lst ((resI (Ql47.spec s call)).map V.int))→(resI (Ql47.spec s call)).length≤ALEN→Q (.ref q) H'
section
variable {A:Adr} {N0:List Addr} {H H2:Hp} {E:XK} {Q:VK} {x rd dr c tl:Addr} {pts:List (Addr×PX)} {s:Ql47.St} {C pl' len time begun:Nat} {call:Ql47.Call}
theorem AnsK.kf (k:AnsK A N0 H E Q x rd dr c tl pts s C pl' call len) (sx:SameX rd H H2) (e2:H2 rd=some (.ins A.c_Reader dr (rdF c pl'))):∀ Cx z,Code A Cx z→Ql47.spec s call=(s,Ql47.only z)→Fail H2 E Cx :=
  fun Cx z h1 h2 H3 s3=>k.no Cx z H3 h1 h2 (sx.trans (SameX.of s3)) (s3 _ _ e2)
theorem AnsK.kd (k:AnsK A N0 H E Q x rd dr c tl pts s C pl' call len) (sx:SameX rd H H2) (e2:H2 rd=some (.ins A.c_Reader dr (rdF c pl'))) (ho:rd ∉ x::pts.map Prod.fst):∀ pts' time' begun' outs,Sim pts' time' begun' (Ql47.spec s call).1 (C+len)→resI (Ql47.spec s call)=ansI outs→(ansI outs).length≤ALEN→Done A N0 H2 x (pts.map Prod.fst) Q time' begun' pts' outs:=by
  intro pts' time' begun' outs hS hR hl q tl' H' kp fq ft hE' hq
  have m1:∀ cc,cc ∉ x::rd::pts.map Prod.fst→cc≠rd∧cc ∉ x::pts.map Prod.fst:=fun cc nc=>⟨fun z=>nc (by rw [z]; simp),fun z=>nc (by
    rcases List.mem_cons.mp z with z | z
    · rw [z]; simp
    · exact List.mem_cons_of_mem _ (List.mem_cons_of_mem _ z))⟩
  refine k.ok q tl' pts' time' begun' H' (fun cc o hc nc=>kp cc o (sx cc o hc (m1 cc nc).1) (m1 cc nc).2) (fun cc o hc nc=>fq cc o (sx cc o hc (m1 cc nc).1) (m1 cc nc).2) (fun cc o hc nc=>?_) hE' hS (kp rd _ e2 ho) (by rw [hR]; exact hq) (by rw [hR]; exact hl)
  have:=m1 cc fun z=>nc (List.mem_cons_of_mem _ z)
  exact ft cc o (sx cc o hc this.1) this.2
end
section
variable {P:Program} {w:World} {K:PySem.W.Frag} {mg:Str→Option Value} {base:Heap} {A:Adr}
def sp_qcg (K:PySem.W.Frag) (A:Adr):Sp:=fun vs H Q E=>∃ (N0:List Addr) (x rd dr c tl:Addr) (pts:List (Addr×PX)) (time begun pl n C:Nat) (s:Ql47.St) (ns rest:List Int) (pc:PCl),vs=[.ref x,.int ((n:Nat):Int),.ref rd]∧pc.code=n∧EndAt A (tl::N0) H x tl pts time begun∧LOk N0 H∧Sim pts time begun s C∧C≤30000 ∧
  H rd=some (.ins A.c_Reader dr (rdF c pl))∧SqL K H c (ns.map V.int)∧ns.drop pl=pc.enc++rest∧pc.len≤8192∧AnsK A N0 H E Q x rd dr c tl pts s C (pl+pc.enc.length) pc.call pc.len
theorem ackAll {pts:List (Addr×PX)} {time begun C:Nat} {s:Ql47.St} (S:Sim pts time begun s C) {b:Bt} (hb:b.length≤8192):∀ m,Ql47.read b=some m→∀ y∈pts,y.2.ask=true→AckOk y.2.req m:=fun m hm y hy _=>by
  have ok:=S.ok y.2 (List.mem_map.mpr ⟨y,hy,rfl⟩)
  exact ackOk ok.rd ok.rl hm hb
theorem row_len (b:Bt):(rowE b).length=b.length+1:=by unfold rowE Ql47Neutral.byteInts; rw [List.length_cons,List.length_map]
theorem ok_qcg (T:Txt K mg A):FnOk P w K mg base (CXE P w) 11 A.f_qcg A.v_qcg ["end","call","reader"] (sp_qcg K A):=by
  refine T.d_qcg.fn.okE sc_qcg (fun vs H Q E h=>?_) (fun cdv A' outer s H vs Q E hr h b=>?_)
  · obtain ⟨N0,x,rd,dr,c,tl,pts,time,begun,pl,n,C,s,ns,rest,pc,rfl,_⟩:=h
    rfl
  · obtain ⟨N0,x,rd,dr,c,tl,pts,time,begun,pl,n,C,st,ns,rest,pc,rfl,hcd,hE,hO,hS,hC,e,hL,hd,hl,k⟩:=h
    refine ⟨_,(pss_cons
 (ps_if (pt_cmpR op_eq (pv 1) (pgi T.g_TX_SEND) (nomark _))
 (pss_cons
 (ps_set (i:=3) sc_qcg.nd rfl (by first | exact Or.inl rfl | exact Or.inr rfl) (pe_meth0 (pv 2) T.cl_Reader T.d_qbo.me (ok_qbo T) (hr.mono (by decide)) T.d_qbo.bd .nil pass0))
 (pss_one
 (ps_ret (pe_meth (pv 0) T.cl_End T.d_qbc.me (ok_qbc T) (hr.mono (by decide)) T.d_qbc.bd .nil b.self (pa_cons (pe_meth0 (pv 2) T.cl_Reader T.d_qbn.me (ok_qbn T) (hr.mono (by decide)) T.d_qbn.bd .nil b.self) (pa_cons (pv 3) pa_nil))))))
 pss_nil)
 (pss_cons
 (ps_if (pt_cmpR op_eq (pv 1) (pgi T.g_TX_REPLY) (nomark _))
 (pss_cons
 (ps_set (i:=4) sc_qcg.nd rfl (by first | exact Or.inl rfl | exact Or.inr rfl) (pe_meth0 (pv 2) T.cl_Reader T.d_qbo.me (ok_qbo T) (hr.mono (by decide)) T.d_qbo.bd .nil pass0))
 (pss_cons
 (ps_set (i:=3) sc_qcg.nd rfl (by first | exact Or.inl rfl | exact Or.inr rfl) (pe_meth0 (pv 2) T.cl_Reader T.d_qbo.me (ok_qbo T) (hr.mono (by decide)) T.d_qbo.bd .nil pass0))
 (pss_one
 (ps_ret (pe_meth (pv 0) T.cl_End T.d_qbb.me (ok_qbb T) (hr.mono (by decide)) T.d_qbb.bd .nil b.self (pa_cons (pv 4) (pa_cons (pe_meth0 (pv 2) T.cl_Reader T.d_qbn.me (ok_qbn T) (hr.mono (by decide)) T.d_qbn.bd .nil b.self) (pa_cons (pv 3) pa_nil))))))))
 pss_nil)
 (pss_cons
 (ps_if (pt_cmpR op_eq (pv 1) (pgi T.g_TX_RECEIVE) (nomark _))
 (pss_cons
 (ps_set (i:=3) sc_qcg.nd rfl (by first | exact Or.inl rfl | exact Or.inr rfl) (pe_meth0 (pv 2) T.cl_Reader T.d_qbo.me (ok_qbo T) (hr.mono (by decide)) T.d_qbo.bd .nil pass0))
 (pss_one
 (ps_ret (pe_meth (pv 0) T.cl_End T.d_qba.me (ok_qba T) (hr.mono (by decide)) T.d_qba.bd .nil b.self (pa_cons (pe_meth0 (pv 2) T.cl_Reader T.d_qbn.me (ok_qbn T) (hr.mono (by decide)) T.d_qbn.bd .nil b.self) (pa_cons (pv 3) pa_nil))))))
 pss_nil)
 (pss_cons
 (ps_if (pt_cmpR op_eq (pv 1) (pgi T.g_TX_TICK) (nomark _))
 (pss_one
 (ps_ret (pe_meth0 (pe_meth (pv 0) T.cl_End T.d_qbh.me (ok_qbh T) (hr.mono (by decide)) T.d_qbh.bd .nil b.self (pa_cons (pe_meth0 (pv 2) T.cl_Reader T.d_qbo.me (ok_qbo T) (hr.mono (by decide)) T.d_qbo.bd .nil pass0) pa_nil)) T.cl_Report T.d_qbq.me (ok_qbq T) (hr.mono (by decide)) T.d_qbq.bd .nil pass0)))
 pss_nil)
 (pss_one
 (ps_ret (pe_lst (pa_cons (pe_meth (pv 0) T.cl_End T.d_qbd.me (ok_qbd T) (hr.mono (by decide)) T.d_qbd.bd .nil b.self (pa_cons (pe_meth0 (pv 2) T.cl_Reader T.d_qbo.me (ok_qbo T) (hr.mono (by decide)) T.d_qbo.bd .nil pass0) pa_nil)) pa_nil)))))))),?_⟩
    have sx1:∀ {o:HO},SameX rd H (upd H rd o):=fun {o}=>(SameX.refl H).upd
    have ho:=hE.rd_out e
    cases pc with
    | send now bs =>
      obtain rfl:1=n:=hcd
      refine ⟨_,rfl,rfl,_,rfl,?_⟩
      refine ite2 (fun _=>?_) fun h=>absurd (by decide) h
      have hd1:ns.drop pl=((now:Nat):Int)::(rowE bs++rest):=hd
      refine ⟨_,rfl,rd,dr,_,rfl,e,rf_no _ (by decide +kernel),rd,dr,c,pl,ns,_,_,rfl,e,hL,hd1,?_⟩
      obtain ⟨dx,ex⟩:=(hE.keepRd T e sx1 (H':=upd H rd (.ins A.c_Reader dr (rdF c (pl+1))))).ob
      refine ⟨_,rfl,x,dx,_,rfl,ex,ef_no _ (by decide +kernel),_,rfl,rd,dr,_,rfl,upd_same,rf_no _ (by decide +kernel),rd,dr,c,pl+1,ns,rest,bs,rfl,upd_same,hL.xr e sx1,(fun H' sx=>hL.xr e (sx1.trans sx)),drop_next hd1,hl,fun a H2 sx2 fa e2 hB=>?_⟩
      have sx:=(sx1 (o:=.ins A.c_Reader dr (rdF c (pl+1)))).trans sx2
      have hE2:=hE.keepRd T e sx
      have hO2:=hO.keepRd e sx
      have ep:pl+1+1+bs.length=pl+(PCl.send now bs).enc.length:=by show _=pl+(((now:Nat):Int)::rowE bs).length; rw [List.length_cons,row_len]; omega
      rw [ep] at e2
      have nat_:a ∉ tl::N0:=fun z=>by
        obtain ⟨o,this⟩:=hE.nok hO a z
        have q:∃ zs,H a=some (.lst zs):=by
          rcases List.mem_cons.mp z with z | z
          · rw [z]; exact ⟨_,hE.ls⟩
          · exact hO a z
        obtain ⟨zs,q⟩:=q
        have q2:upd H rd (.ins A.c_Reader dr (rdF c (pl+1))) a=some _:=sx1 a _ q (ne_of q e (by intro z; cases z))
        rw [fa] at q2; cases q2
      exact ⟨_,rfl,N0,x,tl,a,pts,time,begun,now,bs,rfl,hE2,hO2,hS.nov,hB,nat_,hl,send_spec hS hE.few hC hl (k.kf sx e2) (k.kd sx e2 ho)⟩
    | reply num now bs =>
      obtain rfl:2=n:=hcd
      refine ⟨_,rfl,rfl,_,rfl,?_⟩
      refine ite2 (fun h=>absurd h (by decide)) fun _=>?_
      refine ⟨_,rfl,rfl,_,rfl,?_⟩
      refine ite2 (fun _=>?_) fun h=>absurd (by decide) h
      have hd0:ns.drop pl=((num:Nat):Int)::((now:Nat):Int)::(rowE bs++rest):=hd
      have hd1:=drop_next hd0
      refine ⟨_,rfl,rd,dr,_,rfl,e,rf_no _ (by decide +kernel),rd,dr,c,pl,ns,_,_,rfl,e,hL,hd0,?_⟩
      refine ⟨_,rfl,rd,dr,_,rfl,upd_same,rf_no _ (by decide +kernel),rd,dr,c,pl+1,ns,_,_,rfl,upd_same,hL.xr e sx1,hd1,?_⟩
      rw [upd_upd]
      obtain ⟨dx,ex⟩:=(hE.keepRd T e sx1 (H':=upd H rd (.ins A.c_Reader dr (rdF c (pl+1+1))))).ob
      refine ⟨_,rfl,x,dx,_,rfl,ex,ef_no _ (by decide +kernel),_,rfl,_,rfl,rd,dr,_,rfl,upd_same,rf_no _ (by decide +kernel),rd,dr,c,pl+1+1,ns,rest,bs,rfl,upd_same,hL.xr e sx1,(fun H' sx=>hL.xr e (sx1.trans sx)),drop_next hd1,hl,fun a H2 sx2 fa e2 hB=>?_⟩
      have sx:=(sx1 (o:=.ins A.c_Reader dr (rdF c (pl+1+1)))).trans sx2
      have hE2:=hE.keepRd T e sx
      have hO2:=hO.keepRd e sx
      have ep:pl+1+1+1+bs.length=pl+(PCl.reply num now bs).enc.length:=by show _=pl+(((num:Nat):Int)::((now:Nat):Int)::rowE bs).length; rw [List.length_cons,List.length_cons,row_len]; omega
      rw [ep] at e2
      have nat_:a ∉ tl::N0:=fun z=>by
        obtain ⟨o,this⟩:=hE.nok hO a z
        have q:∃ zs,H a=some (.lst zs):=by
          rcases List.mem_cons.mp z with z | z
          · rw [z]; exact ⟨_,hE.ls⟩
          · exact hO a z
        obtain ⟨zs,q⟩:=q
        have q2:upd H rd (.ins A.c_Reader dr (rdF c (pl+1+1))) a=some _:=sx1 a _ q (ne_of q e (by intro z; cases z))
        rw [fa] at q2; cases q2
      exact ⟨_,rfl,N0,x,tl,a,pts,time,begun,num,now,bs,rfl,hE2,hO2,hS.nov,hB,nat_,hl,reply_spec hS hE.nd hE.few hC hl (k.kf sx e2) (k.kd sx e2 ho)⟩
    | receive now bs =>
      obtain rfl:3=n:=hcd
      refine ⟨_,rfl,rfl,_,rfl,?_⟩
      refine ite2 (fun h=>absurd h (by decide)) fun _=>?_
      refine ⟨_,rfl,rfl,_,rfl,?_⟩
      refine ite2 (fun h=>absurd h (by decide)) fun _=>?_
      refine ⟨_,rfl,rfl,_,rfl,?_⟩
      refine ite2 (fun _=>?_) fun h=>absurd (by decide) h
      have hd1:ns.drop pl=((now:Nat):Int)::(rowE bs++rest):=hd
      refine ⟨_,rfl,rd,dr,_,rfl,e,rf_no _ (by decide +kernel),rd,dr,c,pl,ns,_,_,rfl,e,hL,hd1,?_⟩
      obtain ⟨dx,ex⟩:=(hE.keepRd T e sx1 (H':=upd H rd (.ins A.c_Reader dr (rdF c (pl+1))))).ob
      refine ⟨_,rfl,x,dx,_,rfl,ex,ef_no _ (by decide +kernel),_,rfl,rd,dr,_,rfl,upd_same,rf_no _ (by decide +kernel),rd,dr,c,pl+1,ns,rest,bs,rfl,upd_same,hL.xr e sx1,(fun H' sx=>hL.xr e (sx1.trans sx)),drop_next hd1,hl,fun a H2 sx2 fa e2 hB=>?_⟩
      have sx:=(sx1 (o:=.ins A.c_Reader dr (rdF c (pl+1)))).trans sx2
      have hE2:=hE.keepRd T e sx
      have hO2:=hO.keepRd e sx
      have ep:pl+1+1+bs.length=pl+(PCl.receive now bs).enc.length:=by show _=pl+(((now:Nat):Int)::rowE bs).length; rw [List.length_cons,row_len]; omega
      rw [ep] at e2
      have nat_:a ∉ tl::N0:=fun z=>by
        obtain ⟨o,this⟩:=hE.nok hO a z
        have q:∃ zs,H a=some (.lst zs):=by
          rcases List.mem_cons.mp z with z | z
          · rw [z]; exact ⟨_,hE.ls⟩
          · exact hO a z
        obtain ⟨zs,q⟩:=q
        have q2:upd H rd (.ins A.c_Reader dr (rdF c (pl+1))) a=some _:=sx1 a _ q (ne_of q e (by intro z; cases z))
        rw [fa] at q2; cases q2
      exact ⟨_,rfl,N0,x,tl,a,pts,time,begun,now,bs,rfl,hE2,hO2,hB,nat_,hl,ackAll hS hl,receive_spec hS hE.nd hE.few hC hl (k.kf sx e2) (k.kd sx e2 ho)⟩
    | tick now =>
      obtain rfl:4=n:=hcd
      refine ⟨_,rfl,rfl,_,rfl,?_⟩
      refine ite2 (fun h=>absurd h (by decide)) fun _=>?_
      refine ⟨_,rfl,rfl,_,rfl,?_⟩
      refine ite2 (fun h=>absurd h (by decide)) fun _=>?_
      refine ⟨_,rfl,rfl,_,rfl,?_⟩
      refine ite2 (fun h=>absurd h (by decide)) fun _=>?_
      refine ⟨_,rfl,rfl,_,rfl,?_⟩
      refine ite2 (fun _=>?_) fun h=>absurd (by decide) h
      have hd1:ns.drop pl=((now:Nat):Int)::rest:=hd
      obtain ⟨dx,ex⟩:=hE.ob
      refine ⟨_,rfl,x,dx,_,rfl,ex,ef_no _ (by decide +kernel),_,rfl,rd,dr,_,rfl,e,rf_no _ (by decide +kernel),rd,dr,c,pl,ns,_,_,rfl,e,hL,hd1,?_⟩
      have hE1:=hE.keepRd T e sx1 (H':=upd H rd (.ins A.c_Reader dr (rdF c (pl+1))))
      have e1:upd H rd (.ins A.c_Reader dr (rdF c (pl+1))) rd=some (.ins A.c_Reader dr (rdF c (pl+(PCl.tick now).enc.length))):=upd_same
      have sx:=sx1 (o:=.ins A.c_Reader dr (rdF c (pl+1)))
      refine ⟨(tl::N0),N0,x,tl,pts,time,begun,now,rfl,hE1,(fun z hz=>List.mem_cons_of_mem _ hz),?_⟩
      refine ite2 (fun h=>?_) fun h=>?_
      · exact k.kf sx e1 _ _ (.inl ⟨rfl,rfl⟩) (tick_bad hS h)
      · obtain ⟨q1,q2,q3⟩:=tick_spec hS hE.few hC h
        intro r l tl' H4 k4 fr fl ft nd hE4 hR4
        have hlen:(passO now pts).length≤64:=Nat.le_trans (outs_len now pts) hE.few
        obtain ⟨dr',er⟩:=hR4.ob
        refine ⟨r,dr',_,rfl,er,rp_answer,r,l,_,rfl,hR4,(by omega),fun qa H9 s9 fa ha=>?_⟩
        exact k.kd sx e1 ho _ _ _ _ q1 q2 q3 qa tl' H9 (k4.trans (Keep.of s9)) (Fr.of k4 fa) (fun cc o hc _=>ne_of_none hc ft) ((hE4.sub sub31 (by simp)).same s9) ha
    | state num =>
      obtain rfl:5=n:=hcd
      refine ⟨_,rfl,rfl,_,rfl,?_⟩
      refine ite2 (fun h=>absurd h (by decide)) fun _=>?_
      refine ⟨_,rfl,rfl,_,rfl,?_⟩
      refine ite2 (fun h=>absurd h (by decide)) fun _=>?_
      refine ⟨_,rfl,rfl,_,rfl,?_⟩
      refine ite2 (fun h=>absurd h (by decide)) fun _=>?_
      refine ⟨_,rfl,rfl,_,rfl,?_⟩
      refine ite2 (fun h=>absurd h (by decide)) fun _=>?_
      have hd1:ns.drop pl=((num:Nat):Int)::rest:=hd
      obtain ⟨dx,ex⟩:=hE.ob
      refine ⟨_,rfl,x,dx,_,rfl,ex,ef_no _ (by decide +kernel),_,rfl,rd,dr,_,rfl,e,rf_no _ (by decide +kernel),rd,dr,c,pl,ns,_,_,rfl,e,hL,hd1,?_⟩
      have hE1:=hE.keepRd T e sx1 (H':=upd H rd (.ins A.c_Reader dr (rdF c (pl+1))))
      have e1:upd H rd (.ins A.c_Reader dr (rdF c (pl+1))) rd=some (.ins A.c_Reader dr (rdF c (pl+(PCl.state num).enc.length))):=upd_same
      have sx:=sx1 (o:=.ins A.c_Reader dr (rdF c (pl+1)))
      generalize upd H rd (.ins A.c_Reader dr (rdF c (pl+1)))=H1 at hE1 e1 sx ⊢
      refine ⟨(tl::N0),x,tl,pts,time,begun,num,rfl,hE1,?_⟩
      rcases state_spec hS num with ⟨y,hy,f1,f2⟩ | ⟨f1,f2⟩
      · rw [f1]
        refine ⟨(by show 1≤sizeLine; decide),fun q hq=>?_⟩
        have s2:=Same.put0 (o:=.lst [V.int ((y.2.st:Nat):Int)]) hq
        have kk:Keep (x::rd::pts.map Prod.fst) H H1:=Keep.ofX sx (by simp)
        refine k.ok q tl pts time begun _ (kk.trans (Keep.of s2)) (Fr.of kk hq) (fun cc o hc nc z=>nc (by rw [z]; simp)) (hE1.same s2) ?_ (s2 _ _ e1) ?_ ?_
        · show Sim pts time begun (Ql47.spec st (.state num)).1 (C+0)
          rw [f2]; exact hS
        · rw [upd_same]
          show _=some (HO.lst ((resI (Ql47.spec st (.state num))).map V.int))
          rw [f2]
          rfl
        · show (resI (Ql47.spec st (.state num))).length≤ALEN
          rw [f2]
          show 1≤54905
          decide
      · rw [f1]
        exact k.kf sx e1 _ _ (.inr (.inr (.inr ⟨rfl,rfl⟩))) f2
end
end L2

namespace L2
open PySem PySem.Spec PyProof.Rows
section
variable {P:Program} {w:World} {K:PySem.W.Frag} {mg:Str→Option Value} {base:Heap} {A:Adr}
def sp_qch (K:PySem.W.Frag) (A:Adr):Sp:=fun vs H Q _=>∃ (N0:List Addr) (x rd dr c tl:Addr) (pts:List (Addr×PX)) (time begun pl n C:Nat) (s:Ql47.St) (ns rest:List Int) (pc:PCl),vs=[.ref x,.int ((n:Nat):Int),.ref rd]∧pc.code=n∧EndAt A (tl::N0) H x tl pts time begun∧LOk N0 H∧Sim pts time begun s C∧C≤30000 ∧
  H rd=some (.ins A.c_Reader dr (rdF c pl))∧SqL K H c (ns.map V.int)∧ns.drop pl=pc.enc++rest∧pc.len≤8192∧AnsK A N0 H (fun _ _ _=>True) Q x rd dr c tl pts s C (pl+pc.enc.length) pc.call pc.len
theorem ok_qch (T:Txt K mg A):FnOk P w K mg base CX0 12 A.f_qch A.v_qch ["end","call","reader"] (sp_qch K A):=by
  refine T.d_qch.fn.ok sc_qch (fun vs H Q E h=>?_) (fun cdv A' outer s H vs Q E hr h=>?_)
  · obtain ⟨N0,x,rd,dr,c,tl,pts,time,begun,pl,n,C,s,ns,rest,pc,rfl,_⟩:=h
    rfl
  · obtain ⟨N0,x,rd,dr,c,tl,pts,time,begun,pl,n,C,st,ns,rest,pc,rfl,hcd,hE,hO,hS,hC,e,hL,hd,hl,k⟩:=h
    refine ⟨_,(pss_one
 (ps_tryRet rfl rfl (pex_call (ok_qcg T) (hr.mono (by decide)) rfl T.d_qcg.at_ T.d_qcg.fn.kp T.d_qcg.bd (pa_cons (pv 0) (pa_cons (pv 1) (pa_cons (pv 2) pa_nil))))
 (ph_cons rfl T.g_TooLong T.x_TooLong (fun _=>(pss_one
 (ps_ret (pe_lst (pa_cons (pe_un un_neg pe_int) pa_nil)))))
 (ph_cons rfl T.g_NoTransaction T.x_NoTransaction (fun _=>(pss_one
 (ps_ret (pe_lst (pa_cons (pe_un un_neg pe_int) pa_nil)))))
 (ph_cons rfl T.g_WrongMessage T.x_WrongMessage (fun _=>(pss_one
 (ps_ret (pe_lst (pa_cons (pe_un un_neg pe_int) pa_nil)))))
 (ph_cons rfl T.g_WrongTransaction T.x_WrongTransaction (fun _=>(pss_one
 (ps_ret (pe_lst (pa_cons (pe_un un_neg pe_int) pa_nil)))))
 (ph_cons rfl T.g_WrongMoment T.x_WrongMoment (fun _=>(pss_one
 (ps_ret (pe_lst (pa_cons (pe_un un_neg pe_int) pa_nil)))))
 ph_nil))))))),?_⟩
    refine ⟨_,rfl,_,rfl,_,rfl,N0,x,rd,dr,c,tl,pts,time,begun,pl,n,C,st,ns,rest,pc,rfl,hcd,hE,hO,hS,hC,e,hL,hd,hl,?_,k.ok⟩
    intro Cx z H1 hc hs sx e1
    have hE1:=hE.keepRd T e sx
    have fin:∀ q,H1 q=none→Q (.ref q) (upd H1 q (.lst [.int z])):=fun q hq=>by
      have s2:=Same.put0 (o:=.lst [V.int z]) hq
      have kk:Keep (x::rd::pts.map Prod.fst) H H1:=Keep.ofX sx (by simp)
      refine k.ok q tl pts time begun _ (kk.trans (Keep.of s2)) (Fr.of kk hq) (fun cc o hc nc z=>nc (by rw [z]; simp)) (hE1.same s2) ?_ (s2 _ _ e1) ?_ ?_
      · rw [hs]; exact hS.mono (Nat.le_add_right _ _)
      · rw [upd_same,hs]; rfl
      · rw [hs]; show 1≤54905; decide
    rcases hc with ⟨rfl,rfl⟩ | ⟨rfl,rfl⟩ | ⟨rfl,rfl⟩ | ⟨rfl,rfl⟩
    · refine ⟨_,rfl,T.x_WrongMoment,?_⟩
      refine ifN T.ne_TooLong_WrongMoment.symm (ifN T.ne_WrongMoment_NoTransaction (ifN T.ne_WrongMessage_WrongMoment.symm (ifN T.ne_WrongMoment_WrongTransaction (ifC ?_))))
      exact ⟨_,rfl,(by show 1≤sizeLine; decide),fin⟩
    · refine ⟨_,rfl,T.x_WrongMessage,?_⟩
      refine ifN T.ne_TooLong_WrongMessage.symm (ifN T.ne_WrongMessage_NoTransaction (ifC ?_))
      exact ⟨_,rfl,(by show 1≤sizeLine; decide),fin⟩
    · refine ⟨_,rfl,T.x_WrongTransaction,?_⟩
      refine ifN T.ne_TooLong_WrongTransaction.symm (ifN T.ne_WrongTransaction_NoTransaction (ifN T.ne_WrongMessage_WrongTransaction.symm (ifC ?_)))
      exact ⟨_,rfl,(by show 1≤sizeLine; decide),fin⟩
    · refine ⟨_,rfl,T.x_NoTransaction,?_⟩
      refine ifN T.ne_TooLong_NoTransaction.symm (ifC ?_)
      exact ⟨_,rfl,(by show 1≤sizeLine; decide),fin⟩
end
end L2

namespace L2
open PySem PySem.Spec PyProof.Rows
theorem calls_cons {sh:Int→Option (Nat×Nat)} {f:Nat} {p:Int} {r:List Int} {cs:List (List (List Int))} (h:PyFlat.calls sh f (p::r)=some cs):∃ f' cl t cs',cs=cl::cs'∧PyFlat.call sh (p::r)=some (cl,t)∧PyFlat.calls sh f' t=some cs':=by
  cases f with
  | zero=>simp [PyFlat.calls] at h
  | succ f =>
    unfold PyFlat.calls at h
    split at h
    · cases h
    · rename_i cl t hc
      split at h
      · cases h
      · rename_i cs' hcs
        cases h
        exact ⟨f,cl,t,cs',rfl,hc,hcs⟩
theorem calls_nil {sh:Int→Option (Nat×Nat)} {f:Nat} {cs:List (List (List Int))} (h:PyFlat.calls sh f []=some cs):cs=[]:=by
  cases f <;> simp [PyFlat.calls] at h <;> exact h
def CA (K:PySem.W.Frag) (H:Hp) (nl c:Addr) (xs:List V):Prop:=(Rd H c (.lst xs)∧c≠nl)∨∀ H',SqL K H' c xs
section
variable {K:PySem.W.Frag} {mg:Str→Option Value} {A:Adr} {N:List Addr} {H H':Hp} {x tl rd dr c nl:Addr} {pts:List (Addr×PX)} {time begun pl:Nat} {xs:List V}
theorem CA.sq (h:CA K H nl c xs):SqL K H c xs:=by
  rcases h with h | h
  · exact .inl h.1
  · exact h H
theorem CA.keep {M:List Addr} (h:CA K H nl c xs) (k:Keep M H H') (hn:∀ ys,Rd H c (.lst ys)→c ∉ M):CA K H' nl c xs:=by
  rcases h with ⟨h,n⟩ | h
  · refine .inl ⟨?_,n⟩
    have:=hn _ h
    rcases h with h | ⟨o,h⟩
    · exact .inl (k _ _ h this)
    · exact .inr ⟨o,k _ _ h this⟩
  · exact .inr h
theorem CA.updN (h:CA K H nl c xs) {o:HO}:CA K (upd H nl o) nl c xs:=by
  rcases h with ⟨h,n⟩ | h
  · refine .inl ⟨?_,n⟩
    rcases h with h | ⟨o',h⟩
    · exact .inl (by rw [upd_ne n]; exact h)
    · exact .inr ⟨o',by rw [upd_ne n]; exact h⟩
  · exact .inr h
theorem CA.of (h:SqL K H c xs) (hn:H nl=none):CA K H nl c xs:=by
  rcases h with h | h
  · refine .inl ⟨h,fun z=>?_⟩
    rw [z] at h
    rcases h with h | ⟨o,h⟩ <;> rw [hn] at h <;> cases h
  · exact .inr fun H'=>.inr h
theorem EndAt.updN (h:EndAt A N H x tl pts time begun) {zs ys:List V} (e:H nl=some (.lst zs)) (hn:nl∈N) (ne:nl≠tl):EndAt A N (upd H nl (.lst ys)) x tl pts time begun:=by
  obtain ⟨dx,ex⟩:=h.ob
  have k:Keep [nl] H (upd H nl (.lst ys)):=(Keep.refl _ H).upd (by simp)
  have mo:MutOk A N H [nl]:=fun y hy=>by
    rw [mem1 hy]
    exact .inl ⟨hn,_,e⟩
  exact ⟨⟨dx,by rw [upd_ne (ne_of ex e (by intro z; cases z))]; exact ex⟩,by rw [upd_ne ne.symm]; exact h.ls,fun y hy=>(h.tx y hy).keep k mo (by simpa using (h.tx y hy).ne_lst e),h.nd,h.tn,h.few⟩
end
structure Loop (K:PySem.W.Frag) (A:Adr) (ns total:List Int) (c rd nl x:Addr) (m:Nat) (H:Hp):Prop where
  ex:∃ (dr tl:Addr) (pts:List (Addr×PX)) (time begun pl C kk f:Nat) (s:Ql47.St) (acc:List Int) (cs:List (List (List Int))),
    H rd=some (.ins A.c_Reader dr (rdF c pl))∧EndAt A (tl::[nl]) H x tl pts time begun∧Sim pts time begun s C∧C≤pl∧pl≤ns.length∧PyFlat.calls PyQl47.shape f (ns.drop pl)=some cs∧(∀ cl∈cs,Ql47Neutral.may (PyQl47.whole cl)=true) ∧
    cs.length=m∧kk+m≤300∧acc.length≤kk * 54906∧total=acc++PyFlat.told (PyFlat.played Ql47Neutral.step s (cs.map PyQl47.whole))∧H nl=some (.lst (acc.map V.int))∧nl≠tl∧CA K H nl c (ns.map V.int)
theorem told_cons (a:List Int) (l:List (List Int)):PyFlat.told (a::l)=((a.length:Int)::a)++PyFlat.told l:=by
  unfold PyFlat.told
  rw [List.flatMap_cons]
section
variable {K:PySem.W.Frag} {A:Adr} {ns total acc ans:List Int} {c rd dr nl x tl q:Addr} {pts:List (Addr×PX)} {time begun pl C kk f m:Nat} {s:Ql47.St} {cs:List (List (List Int))} {H:Hp}
theorem Loop.fin (e:H rd=some (.ins A.c_Reader dr (rdF c pl))) (hE:EndAt A (tl::[nl]) H x tl pts time begun) (hS:Sim pts time begun s C) (hC:C≤pl) (hp:pl≤ns.length) (hcs:PyFlat.calls PyQl47.shape f (ns.drop pl)=some cs) (hmay:∀ cl∈cs,Ql47Neutral.may (PyQl47.whole cl)=true)
    (hm:cs.length=m) (hk:kk+1+m≤300) (hacc:acc.length≤kk * 54906) (ha:ans.length≤ALEN) (ht:total=(acc++((ans.length:Int)::ans))++PyFlat.told (PyFlat.played Ql47Neutral.step s (cs.map PyQl47.whole))) (hnl:H nl=some (.lst (acc.map V.int))) (hne:nl≠tl) (hca:CA K H nl c (ns.map V.int)) :
    Loop K A ns total c rd nl x m (upd H nl (.lst ((acc++((ans.length:Int)::ans)).map V.int))):=by
  refine ⟨dr,tl,pts,time,begun,pl,C,kk+1,f,s,_,cs,?_,hE.updN hnl (by simp) hne,hS,hC,hp,hcs,hmay,hm,hk,?_,ht,upd_same,hne,hca.updN⟩
  · rw [upd_ne (ne_of e hnl (by intro z; cases z))]; exact e
  · rw [List.length_append,List.length_cons]
    have:ans.length≤54905:=ha
    omega
end
section
variable {P:Program} {w:World} {K:PySem.W.Frag} {mg:Str→Option Value} {base:Heap} {A:Adr}
def sp_qci (K:PySem.W.Frag) (A:Adr):Sp:=fun vs H Q _=>∃ (c:Addr) (ns:List Int) (f:Nat) (cs:List (List (List Int))),vs=[.ref c]∧SqL K H c (ns.map V.int)∧ns.length≤30000∧PyFlat.calls PyQl47.shape f ns=some cs∧(∀ cl∈cs,Ql47Neutral.may (PyQl47.whole cl)=true)∧cs.length≤300 ∧
  ∀ q H',H' q=some (.lst ((PyFlat.told (PyFlat.played Ql47Neutral.step Ql47.empty (cs.map PyQl47.whole))).map V.int))→Q (.ref q) H'
theorem sim0 (C:Nat):Sim [] 0 0 Ql47.empty C:=⟨rfl,rfl,.nil,fun t ht=>by simp at ht,.nil,fun u hu=>by simp [Ql47.empty] at hu,Nat.zero_le _⟩
theorem list_fin (acc ans:List Int):acc.map V.int++[V.int (((ans.map V.int).length:Nat):Int)]++ans.map V.int=(acc++((ans.length:Int)::ans)).map V.int:=by
  rw [List.length_map,List.map_append,List.map_cons,List.append_assoc]
  rfl
theorem ok_qci (T:Txt K mg A):FnOk P w K mg base CX0 13 A.f_qci A.v_qci ["calls"] (sp_qci K A):=by
  refine T.d_qci.fn.ok sc_qci (fun vs H Q E h=>?_) (fun cdv A' outer s H vs Q E hr h=>?_)
  · obtain ⟨c,ns,f,cs,rfl,_⟩:=h
    rfl
  · obtain ⟨c,ns,f,cs,rfl,hL,hn,hcs,hmay,hlen,k⟩:=h
    refine ⟨_,(pss_cons
 (ps_set (i:=1) sc_qci.nd rfl (by first | exact Or.inl rfl | exact Or.inr rfl) (pe_make T.mk_Reader (ok_qbm T) (hr.mono (by decide)) rfl T.g_Reader T.d_qbm.bd .nil pass0 (pa_cons (pv 0) pa_nil)))
 (pss_cons
 (ps_set (i:=2) sc_qci.nd rfl (by first | exact Or.inl rfl | exact Or.inr rfl) (pe_make0 T.mk_End (ok_qax T) (hr.mono (by decide)) rfl T.g_End T.d_qax.bd .nil pass0))
 (pss_cons
 (ps_set (i:=3) sc_qci.nd rfl (by first | exact Or.inl rfl | exact Or.inr rfl) (pe_lst pa_nil))
 (pss_cons
 (ps_while PassesOwn.never (pt_val (pe_meth0 (pv 1) T.cl_Reader T.d_qbl.me (ok_qbl T) (hr.mono (by decide)) T.d_qbl.bd .nil pass0))
 (pss_cons
 (ps_set (i:=4) sc_qci.nd rfl (by first | exact Or.inl rfl | exact Or.inr rfl) (pe_meth0 (pv 1) T.cl_Reader T.d_qbo.me (ok_qbo T) (hr.mono (by decide)) T.d_qbo.bd .nil pass0))
 (pss_cons
 (ps_if (pt_cmpR op_eq (pv 4) (pgi T.g_TX_BEGIN) (nomark _))
 (pss_cons
 (ps_set (i:=2) sc_qci.nd rfl (by first | exact Or.inl rfl | exact Or.inr rfl) (pe_make0 T.mk_End (ok_qax T) (hr.mono (by decide)) rfl T.g_End T.d_qax.bd .nil pass0))
 (pss_one
 (ps_set (i:=5) sc_qci.nd rfl (by first | exact Or.inl rfl | exact Or.inr rfl) (pe_lst (pa_cons pe_int pa_nil)))))
 (pss_one
 (ps_set (i:=5) sc_qci.nd rfl (by first | exact Or.inl rfl | exact Or.inr rfl) (pe_call (ok_qch T) (hr.mono (by decide)) rfl T.d_qch.at_ T.d_qch.fn.kp T.d_qch.bd .nil pass0 (pa_cons (pv 2) (pa_cons (pv 4) (pa_cons (pv 1) pa_nil)))))))
 (pss_cons
 (ps_expr (pe_bm PySem.F.plainAttrs_list PySem.F.slot_list_append PySem.F.type_list_append mt_append (pv 3) (pa_cons (pe_callB call_len_seq (by rfl) T.b_len bt_len (pa_cons (pv 5) pa_nil)) pa_nil)))
 (pss_one
 (ps_expr (pe_bm PySem.F.plainAttrs_list PySem.F.slot_list_extend PySem.F.type_list_extend mt_extend (pv 3) (pa_cons (pv 5) pa_nil))))))))
 (pss_one
 (ps_ret (pv 3))))))),?_⟩
    have big:300 * 54906≤sizeLine:=by decide
    refine ⟨_,rfl,fun rd dr f1 f2 f3=>⟨rd,dr,c,rfl,upd_same,fun H1 sx1 e1=>⟨rfl,?_⟩⟩⟩
    have s1:Same H H1:=fun cc o hc=>sx1 cc o (by rw [upd_ne (ne_of_none hc f1),upd_ne (ne_of_none hc f2)]; exact hc) (ne_of_none hc f1)
    intro x dx g1 g2 g3
    refine ⟨x,dx,rfl,upd_same,fun tl H2 sx2 ftl hE2=>⟨rfl,?_⟩⟩
    have s2:Same H1 H2:=fun cc o hc=>sx2 cc o (by rw [upd_ne (ne_of_none hc g1),upd_ne (ne_of_none hc g2)]; exact hc) (ne_of_none hc g1)
    refine ⟨(by show 0≤sizeLine; decide),fun nl hnl=>?_⟩
    have s3:=Same.put0 (o:=.lst []) hnl
    have e3:=s3 _ _ (s2 _ _ e1)
    have hL2:=(s1.trans s2).seq hL
    obtain ⟨dxe,exe⟩:=hE2.ob
    have hE3:EndAt A (tl::[nl]) (upd H2 nl (.lst [])) x tl [] 0 0:=⟨⟨dxe,s3 _ _ exe⟩,s3 _ _ hE2.ls,fun y hy=>by simp at hy,.nil,by simp,Nat.zero_le _⟩
    have L0:Loop K A ns (PyFlat.told (PyFlat.played Ql47Neutral.step Ql47.empty (cs.map PyQl47.whole))) c rd nl x cs.length (upd H2 nl (.lst [])) :=
      ⟨dr,tl,[],0,0,0,0,0,f,Ql47.empty,[],cs,e3,hE3,sim0 0,Nat.le_refl _,Nat.zero_le _,hcs,hmay,rfl,by omega,Nat.le_refl _,rfl,upd_same,(ne_of_none hE2.ls hnl).symm,(CA.of hL2 hnl).updN⟩
    generalize upd H2 nl (.lst [])=H3 at L0 ⊢
    refine ⟨fun m σ H=>∃ x v4 v5,σ=[some (.ref c),some (.ref rd),some (.ref x),some (.ref nl),v4,v5]∧Loop K A ns (PyFlat.told (PyFlat.played Ql47Neutral.step Ql47.empty (cs.map PyQl47.whole))) c rd nl x m H,⟨cs.length,x,none,none,rfl,L0⟩,?_⟩
    rintro m σ H4 ⟨x,v4,v5,rfl,L⟩
    obtain ⟨dr,tl,pts,time,begun,pl,C,kk,f,s,acc,cs,e,hE,hS,hC,hp,hcs,hmay,hm,hk,hacc,ht,hnl,hne,hca⟩:=L.ex
    refine ⟨_,rfl,rd,dr,_,rfl,e,rf_no _ (by decide +kernel),rd,dr,c,pl,ns,rfl,e,hca.sq,_,rfl,?_⟩
    refine ite2 (fun h=>?_) fun h=>?_
    · have hlt:pl < ns.length:=of_decide_eq_true h
      have hd:ns.drop pl=ns[pl]::ns.drop (pl+1):=List.drop_eq_getElem_cons hlt
      generalize ns[pl]=p at hd
      rw [hd] at hcs
      obtain ⟨f',cl,t,cs',rfl,hcall,hcs'⟩:=calls_cons hcs
      have hmc:=hmay cl (by simp)
      have hmay':∀ cl∈cs',Ql47Neutral.may (PyQl47.whole cl)=true:=fun z hz=>hmay z (List.mem_cons_of_mem _ hz)
      rw [List.length_cons] at hm
      subst hm
      refine ⟨fun σ' H'=>∃ x v4 v5,σ'=[some (.ref c),some (.ref rd),some (.ref x),some (.ref nl),v4,v5]∧Loop K A ns (PyFlat.told (PyFlat.played Ql47Neutral.step Ql47.empty (_))) c rd nl x cs'.length H',fun σ' H' z=>⟨cs'.length,Nat.lt_succ_self _,z⟩,?_⟩
      refine ⟨_,rfl,rd,dr,_,rfl,e,rf_no _ (by decide +kernel),rd,dr,c,pl,ns,_,p,rfl,e,hca.sq,hd,?_⟩
      have sx1:SameX rd H4 (upd H4 rd (.ins A.c_Reader dr (rdF c (pl+1)))):=(SameX.refl H4).upd
      have e5:upd H4 rd (.ins A.c_Reader dr (rdF c (pl+1))) rd=some (.ins A.c_Reader dr (rdF c (pl+1))):=upd_same
      have hE5:=hE.keepRd T e sx1
      have hnl5:=sx1 _ _ hnl (ne_of hnl e (by intro z; cases z))
      have hca5:=hca.keep (Keep.ofX sx1 (by simp):Keep [rd] _ _) fun ys hy z=>rd_ne hy e (mem1 z)
      generalize upd H4 rd (.ins A.c_Reader dr (rdF c (pl+1)))=H5 at sx1 e5 hE5 hnl5 hca5 ⊢
      have hO5:LOk [nl] H5:=fun z hz=>by rw [mem1 hz]; exact ⟨_,hnl5⟩
      have hkl:acc.length+54906≤300 * 54906:=by
        have:kk+1≤300:=by omega
        have:=Nat.mul_le_mul_right 54906 this
        omega
      rcases parse hcall hmc with ⟨rfl,ht0,hw0⟩ | ⟨pc,hpc,hr,hco,hpl⟩
      · refine ⟨_,rfl,rfl,_,rfl,?_⟩
        refine ite2 (fun _=>?_) fun h=>absurd (by decide) h
        intro x2 dx2 g1 g2 g3
        refine ⟨x2,dx2,rfl,upd_same,fun tl2 H6 sx6 ftl hE6=>⟨rfl,?_⟩⟩
        have s6:Same H5 H6:=fun cc o hc=>sx6 cc o (by rw [upd_ne (ne_of_none hc g1),upd_ne (ne_of_none hc g2)]; exact hc) (ne_of_none hc g1)
        refine ⟨(by show 1≤sizeLine; decide),fun q hq=>?_⟩
        have s7:=Same.put0 (o:=.lst [V.int 0]) hq
        have s67:=s6.trans s7
        have hq7:upd H6 q (.lst [V.int 0]) q=some (.lst (([0]:List Int).map V.int)):=upd_same
        have hnl7:=s67 _ _ hnl5
        have e7:=s67 _ _ e5
        obtain ⟨dxe,exe⟩:=hE6.ob
        have hE7:EndAt A (tl2::[nl]) (upd H6 q (.lst [V.int 0])) x2 tl2 [] 0 0:=⟨⟨dxe,s7 _ _ exe⟩,s7 _ _ hE6.ls,fun y hy=>by simp at hy,.nil,by simp,Nat.zero_le _⟩
        have hca7:=hca5.keep (Keep.of s67:Keep [] _ _) fun ys hy z=>by simp at z
        have nq:nl≠q:=ne_of_none (s6 _ _ hnl5) hq
        have nt2:nl≠tl2:=fun z=>by
          have h5:=hnl5
          rw [z] at h5
          have:upd (upd H5 dx2 (.own x2)) x2 (.ins A.c_End dx2 []) tl2=some (.lst (acc.map V.int)):=by rw [upd_ne (ne_of_none h5 g1),upd_ne (ne_of_none h5 g2)]; exact h5
          rw [ftl] at this; cases this
        generalize upd H6 q (.lst [V.int 0])=H7 at hq7 hnl7 e7 hE7 hca7 ⊢
        refine ⟨_,rfl,.inl ⟨rfl,_,SqL.of hnl7⟩,_,rfl,q,_,rfl,.inl (SqL.of hq7),nl,_,_,rfl,rfl,hnl7,(by rw [List.length_map]; omega),?_⟩
        refine ⟨_,rfl,.inl ⟨rfl,_,SqL.of upd_same⟩,_,rfl,nl,q,_,_,rfl,rfl,upd_same,(by rw [upd_ne nq.symm]; exact hq7),(by rw [List.length_append,List.length_map,List.length_map]; show _+1+1≤_; omega),?_⟩
        rw [upd_upd,list_fin]
        refine ⟨x2,_,_,rfl,?_⟩
        have hpl':pl+1≤ns.length:=hlt
        refine Loop.fin e7 hE7 (sim0 0) (Nat.zero_le _) hpl' (by rw [ht0]; exact hcs') hmay' rfl (by omega) hacc (by show 1≤54905; decide) ?_ hnl7 nt2 hca7
        rw [ht,List.map_cons]
        show acc++PyFlat.told ((Ql47Neutral.step s (PyQl47.whole cl)).2::PyFlat.played Ql47Neutral.step (Ql47Neutral.step s (PyQl47.whole cl)).1 (cs'.map PyQl47.whole))=_
        rw [hw0,step_begin,told_cons,List.append_assoc]
      · subst hpc
        refine ⟨_,rfl,rfl,_,rfl,?_⟩
        have ne0:¬ decide (V.int ((pc.code:Nat):Int)=V.int 0)=true:=fun z=>by
          rw [show decide (V.int ((pc.code:Nat):Int)=V.int 0)=decide (pc.code=0) from int_dec _ 0] at z
          have:=of_decide_eq_true z
          cases pc <;> cases this
        refine ite2 (fun h=>absurd h ne0) fun _=>?_
        have hpl':pl+1+pc.enc.length+t.length=ns.length:=by
          have:=congrArg List.length hr
          rw [List.length_drop,List.length_append] at this
          omega
        have hdt:ns.drop (pl+1+pc.enc.length)=t:=by
          rw [← List.drop_drop,hr,List.drop_left]
        have hl0:=enc_len pc
        refine ⟨_,rfl,_,rfl,_,rfl,[nl],x,rd,dr,c,tl,pts,time,begun,pl+1,pc.code,C,s,ns,t,pc,rfl,rfl,hE5,hO5,hS,Nat.le_trans hC (by omega),e5,hca5.sq,hr,hpl,fun _ _ _ _ _ _ _=>trivial,fun q tl' pts' time' begun' H6 k6 fq ft hE6 hS6 e6 hq6 hl6=>?_⟩
        have out:∀ {ys:List V} {a:Addr},Rd H5 a (.lst ys)→a ∉ x::rd::pts.map Prod.fst:=fun {ys a} hy z=>by
          obtain ⟨dxx,ex⟩:=hE5.ob
          rcases List.mem_cons.mp z with z | z
          · exact rd_ne hy ex z
          · rcases List.mem_cons.mp z with z | z
            · exact rd_ne hy e5 z
            · obtain ⟨y,hy',q⟩:=List.mem_map.mp z
              obtain ⟨dt,q1,ls,et,_⟩:=(hE5.tx y hy').ex
              exact rd_ne hy et q.symm
        have nlo:=out (.inl hnl5)
        have hnl6:=k6 _ _ hnl5 nlo
        have hca6:=hca5.keep k6 fun ys hy=>out hy
        have nq:nl≠q:=fq _ _ hnl5 nlo
        have nt':nl≠tl':=ft _ _ hnl5 fun z=>by
          rcases List.mem_cons.mp z with z | z
          · exact hne z
          · exact nlo z
        have hl7:(resI (Ql47.spec s pc.call)).length≤54905:=hl6
        refine ⟨_,rfl,.inl ⟨rfl,_,SqL.of hnl6⟩,_,rfl,q,_,rfl,.inl (SqL.of hq6),nl,_,_,rfl,rfl,hnl6,(by rw [List.length_map]; omega),?_⟩
        refine ⟨_,rfl,.inl ⟨rfl,_,SqL.of upd_same⟩,_,rfl,nl,q,_,_,rfl,rfl,upd_same,(by rw [upd_ne nq.symm]; exact hq6),(by rw [List.length_append,List.length_map,List.length_map]; show _+1+_≤_; omega),?_⟩
        rw [upd_upd,list_fin]
        refine ⟨x,_,_,rfl,?_⟩
        refine Loop.fin e6 hE6 hS6 (by omega) (by omega) (by rw [hdt]; exact hcs') hmay' rfl (by omega) hacc hl6 ?_ hnl6 nt' hca6
        rw [ht,List.map_cons]
        show acc++PyFlat.told ((Ql47Neutral.step s (PyQl47.whole cl)).2::PyFlat.played Ql47Neutral.step (Ql47Neutral.step s (PyQl47.whole cl)).1 (cs'.map PyQl47.whole))=_
        rw [step_call hco,told_cons,List.append_assoc]
    · have hge:¬ pl < ns.length:=fun z=>h (decide_eq_true z)
      have:pl=ns.length:=by omega
      subst this
      rw [List.drop_length] at hcs
      have:=calls_nil hcs
      subst this
      refine ⟨_,rfl,k nl H4 ?_⟩
      rw [ht,hnl]
      simp [PyFlat.played,PyFlat.told]
end
end L2

namespace L2
open PySem PySem.Spec PyProof.Rows
def AskN (ns:List Int):Prop:=ns.length≤30000∧PyQl47.answers_asked ns=true
theorem row_pre (args:List PySem.W.WData) (h:PySem.Challenge.rw_callsetup_s01_answers.pre args=true):∃ ns:List Int,args=[.list (ns.map .int)]∧ns.length≤sizeLine∧AskN ns:=by
  obtain ⟨a,e,hk⟩:=PySem.W.os_pre_some h
  obtain ⟨q1,q2⟩:=PySem.W.Codec.encAll_of_decAll _ _ a e
  have hl:(show List Int×Unit from a).1.length≤30000:=by
    have w1:((PySem.W.Codec.inLen 0 30000 (show List Int×Unit from a).1 && (show List Int×Unit from a).1.all (PySem.W.Codec.inInt 0 4294967295)) && true)=true:=q2
    rw [Bool.and_eq_true,Bool.and_eq_true] at w1
    have w2:=w1.1.1
    unfold PySem.W.Codec.inLen PySem.W.Codec.inNat at w2
    rw [Bool.and_eq_true] at w2
    exact of_decide_eq_true w2.2
  exact ⟨(show List Int×Unit from a).1,q1,Nat.le_trans hl (by decide),hl,hk⟩
theorem row_post (ns:List Int) (h:PySem.Challenge.rw_callsetup_s01_answers.pre [.list (ns.map .int)]=true):PySem.Challenge.rw_callsetup_s01_answers.post [.list (ns.map .int)] (.list ((PyQl47.answers ns).map .int))=true:=by
  obtain ⟨a,e,hk⟩:=PySem.W.os_pre_some h
  obtain ⟨q1,q2⟩:=PySem.W.Codec.encAll_of_decAll _ _ a e
  have q3:([PySem.W.WData.list (ns.map .int)]:List PySem.W.WData)=[.list ((show List Int×Unit from a).1.map .int)]:=q1
  have hn:ns=(show List Int×Unit from a).1:=by
    injection q3 with q4 _
    injection q4 with q5
    have inj:Function.Injective PySem.W.WData.int:=fun x y z=>by injection z
    exact (List.map_inj_right (fun _ _ z=>inj z)).mp q5
  refine PySem.W.os_post e ?_
  show PySem.W.same (.list ((PyQl47.answers ns).map .int)) (.list ((PyQl47.answers (show List Int×Unit from a).1).map .int))=true
  rw [← hn]
  exact PySem.W.same_self _
def sp_law (K:PySem.W.Frag):Sp:=fun vs H Q _=>∃ (c:Addr) (ns:List Int) (f:Nat) (cs:List (List (List Int))),vs=[.ref c]∧SqL K H c (ns.map V.int)∧ns.length≤30000∧PyFlat.calls PyQl47.shape f ns=some cs∧(∀ cl∈cs,Ql47Neutral.may (PyQl47.whole cl)=true)∧cs.length≤300 ∧
  ∀ q H',H' q=some (.lst ((PyFlat.told (PyFlat.played Ql47Neutral.step Ql47.empty (cs.map PyQl47.whole))).map V.int))→Q (.ref q) H'
theorem law_asked {K:PySem.W.Frag} {H:Hp} {a:Addr} {ns:List Int} (h:AskN ns) (hS:SqL K H a (ns.map V.int)) {E:XK}:sp_law K [.ref a] H (fun v H'=>∃ p,v=.ref p∧H' p=some (.lst ((PyQl47.answers ns).map V.int))) E:=by
  obtain ⟨hl,hk⟩:=h
  unfold PyQl47.answers_asked PyQl47.calls at hk
  cases hc:PyFlat.calls PyQl47.shape ns.length ns with
  | none=>rw [hc] at hk; cases hk
  | some cs =>
    rw [hc] at hk
    have hk':(PyFlat.atMost 300 (cs.map PyQl47.whole) && Ql47Neutral.asked (cs.map PyQl47.whole))=true:=hk
    rw [Bool.and_eq_true] at hk'
    have h1:(cs.map PyQl47.whole).length≤300:=of_decide_eq_true hk'.1
    have h2:=hk'.2
    unfold Ql47Neutral.asked at h2
    rw [Bool.and_eq_true] at h2
    refine ⟨a,ns,ns.length,cs,rfl,hS,hl,hc,fun cl hcl=>List.all_eq_true.mp h2.1 _ (List.mem_map.mpr ⟨cl,hcl,rfl⟩),by rw [List.length_map] at h1; exact h1,fun q H' hq=>⟨q,rfl,?_⟩⟩
    rw [hq]
    unfold PyQl47.answers PyQl47.calls
    rw [hc]
    rfl
end L2

namespace L2
open PySem PySem.Spec PyProof.Rows
abbrev FD (x q:Str) (st:Stmt) (kV dc pm:Value) (an:Option Addr) (cd ct:Value):FuncData:=W.fnOf x q (defArgs st) (defBody st) (defScope st) .none kV dc pm an cd ct
section
variable {K:W.Frag} {h:Heap} {mg:Str→Option Value} {x q:Str} {st:Stmt} {f C:Addr} {oc kV dc pm cd ct:Value} {od an:Option Addr} {sl:Array (Option Value)} {ps:List Str}
theorem mkFn (KX:K.In h) (G:h.Ns mainGlobals mg) (a:W.nsIn K mainGlobals x=some (some (.ref f))) (l:K.lookup f=some ⟨oc,od,.func (FD x x st kV dc pm an cd ct),sl⟩) (c:W.codeIn K cd x=true) (k:W.keepIn K (.ref f)=true) (b:∀ (kV dc pm:Value) (an:Option Addr) (cd ct:Value) (us:List Value),us.length=ps.length→bindArgs (FD x x st kV dc pm an cd ct) ⟨us,[]⟩=pure (ps.zip us):=by intro _ _ _ _ _ _ us hl; first | exact (match us,hl with | [_],_=>rfl) | exact (match us,hl with | [_,_],_=>rfl) | exact (match us,hl with | [_,_,_],_=>rfl) | exact (match us,hl with | [_,_,_,_],_=>rfl) | exact (match us,hl with | [_,_,_,_,_],_=>rfl)):Fn K mg x st f (FD x x st kV dc pm an cd ct) ps:=⟨fun_mk l c k,W.mg_of KX G a,(fun_mk l c k).binds b⟩
theorem mkMt (a:W.findIn K (.ref C) x=some (some (.ref f))) (n:W.isFn K (.ref f)=true) (l:K.lookup f=some ⟨oc,od,.func (FD x q st kV dc pm an cd ct),sl⟩) (c:W.codeIn K cd q=true) (k:W.keepIn K (.ref f)=true) (b:∀ (kV dc pm:Value) (an:Option Addr) (cd ct:Value) (us:List Value),us.length=ps.length→bindArgs (FD x q st kV dc pm an cd ct) ⟨us,[]⟩=pure (ps.zip us):=by intro _ _ _ _ _ _ us hl; first | exact (match us,hl with | [_],_=>rfl) | exact (match us,hl with | [_,_],_=>rfl) | exact (match us,hl with | [_,_,_],_=>rfl) | exact (match us,hl with | [_,_,_,_],_=>rfl) | exact (match us,hl with | [_,_,_,_,_],_=>rfl)):Mt K C x q st f (FD x q st kV dc pm an cd ct) ps:=⟨fun_mk l c k,⟨a,n,k⟩,(fun_mk l c k).binds b⟩
theorem mkTm (l:K.lookup f=some ⟨oc,od,.func (FD x q st kV dc pm an cd ct),sl⟩) (c:W.codeIn K cd q=true) (k:W.keepIn K (.ref f)=true) (b:∀ (kV dc pm:Value) (an:Option Addr) (cd ct:Value) (us:List Value),us.length=ps.length→bindArgs (FD x q st kV dc pm an cd ct) ⟨us,[]⟩=pure (ps.zip us):=by intro _ _ _ _ _ _ us hl; first | exact (match us,hl with | [_],_=>rfl) | exact (match us,hl with | [_,_],_=>rfl) | exact (match us,hl with | [_,_,_],_=>rfl) | exact (match us,hl with | [_,_,_,_],_=>rfl) | exact (match us,hl with | [_,_,_,_,_],_=>rfl)):Tm K x q st f (FD x q st kV dc pm an cd ct) ps:=⟨fun_mk l c k,(fun_mk l c k).binds b⟩
theorem mkIn (l:K.lookup f=some ⟨oc,od,.func (FD "__init__" q st kV dc pm an cd ct),sl⟩) (c:W.codeIn K cd q=true) (k:W.keepIn K (.ref f)=true) (b:∀ (kV dc pm:Value) (an:Option Addr) (cd ct:Value) (us:List Value),us.length=ps.length→bindArgs (FD "__init__" q st kV dc pm an cd ct) ⟨us,[]⟩=pure (ps.zip us):=by intro _ _ _ _ _ _ us hl; first | exact (match us,hl with | [_],_=>rfl) | exact (match us,hl with | [_,_],_=>rfl) | exact (match us,hl with | [_,_,_],_=>rfl) | exact (match us,hl with | [_,_,_,_],_=>rfl) | exact (match us,hl with | [_,_,_,_,_],_=>rfl)):In K q st f (FD "__init__" q st kV dc pm an cd ct) ps:=⟨fun_mk l c k,(fun_mk l c k).binds b⟩
end
theorem all_mk {P:Program} {w:World} {K:W.Frag} {h:Heap} {mg:Str→Option Value} {fa:Addr} (KX:K.In h) (G:h.Ns mainGlobals mg) (hfa:mg "answers"=some (.ref fa))
    {t1 t2 t3 t6 t7 t8 t9 t10 t11 t12 t13 t18 t19 t20 t21 t22 t23 t24 t47 t48 t65 t66 t69 t70 t71 t72 t73:Tok}
    {a_ws c_Report c_Transaction c_Answering c_Asking c_TooLong c_WrongMessage c_WrongMoment c_WrongTransaction c_NoTransaction c_Message c_End c_Reader f1 f2 f3 f4 f5 f6 f7 f8 f9 f10 f11 f12 f13 f14 f15 f16 f17 f18 f19 f20 f21 f22 f23 f24 f25 f26 f27 f28 f29 f30 f31 f32 f33 f34 f35 f36 f37 f38 f39 f40 f41 f42 f43 f44 f45 f46 f47 f48 f49 f50 f51 f52 f53 f54 f55 f56 f57 f58 f59 f60 f61 f62 f63 f64 f65 f66 f67 f68 f69 f70 f71 f72 f73 f74 f75 f76 f77 f78 f79 f80 f81 f82 f83 f84 f85:Addr}
    {o_ws r1_ s1_ t1_ u1_ v1_ w1_ r2_ s2_ t2_ u2_ v2_ w2_ r3_ s3_ t3_ u3_ v3_ w3_ r4_ s4_ t4_ u4_ v4_ w4_ r5_ s5_ t5_ u5_ v5_ w5_ r6_ s6_ t6_ u6_ v6_ w6_ r7_ s7_ t7_ u7_ v7_ w7_ r8_ s8_ t8_ u8_ v8_ w8_ r9_ s9_ t9_ u9_ v9_ w9_ r10_ s10_ t10_ u10_ v10_ w10_ r11_ s11_ t11_ u11_ v11_ w11_ r12_ s12_ t12_ u12_ v12_ w12_ r13_ s13_ t13_ u13_ v13_ w13_ r14_ s14_ t14_ u14_ v14_ w14_ r15_ s15_ t15_ u15_ v15_ w15_ r16_ s16_ t16_ u16_ v16_ w16_ r17_ s17_ t17_ u17_ v17_ w17_ r18_ s18_ t18_ u18_ v18_ w18_ r19_ s19_ t19_ u19_ v19_ w19_ r20_ s20_ t20_ u20_ v20_ w20_ r21_ s21_ t21_ u21_ v21_ w21_ r22_ s22_ t22_ u22_ v22_ w22_ r23_ s23_ t23_ u23_ v23_ w23_ r24_ s24_ t24_ u24_ v24_ w24_ r25_ s25_ t25_ u25_ v25_ w25_ r26_ s26_ t26_ u26_ v26_ w26_ r27_ s27_ t27_ u27_ v27_ w27_ r28_ s28_ t28_ u28_ v28_ w28_ r29_ s29_ t29_ u29_ v29_ w29_ r30_ s30_ t30_ u30_ v30_ w30_ r31_ s31_ t31_ u31_ v31_ w31_ r32_ s32_ t32_ u32_ v32_ w32_ r33_ s33_ t33_ u33_ v33_ w33_ r34_ s34_ t34_ u34_ v34_ w34_ r35_ s35_ t35_ u35_ v35_ w35_ r36_ s36_ t36_ u36_ v36_ w36_ r37_ s37_ t37_ u37_ v37_ w37_ r38_ s38_ t38_ u38_ v38_ w38_ r39_ s39_ t39_ u39_ v39_ w39_ r40_ s40_ t40_ u40_ v40_ w40_ r41_ s41_ t41_ u41_ v41_ w41_ r42_ s42_ t42_ u42_ v42_ w42_ r43_ s43_ t43_ u43_ v43_ w43_ r44_ s44_ t44_ u44_ v44_ w44_ r45_ s45_ t45_ u45_ v45_ w45_ r46_ s46_ t46_ u46_ v46_ w46_ r47_ s47_ t47_ u47_ v47_ w47_ r48_ s48_ t48_ u48_ v48_ w48_ r49_ s49_ t49_ u49_ v49_ w49_ r50_ s50_ t50_ u50_ v50_ w50_ r51_ s51_ t51_ u51_ v51_ w51_ r52_ s52_ t52_ u52_ v52_ w52_ r53_ s53_ t53_ u53_ v53_ w53_ r54_ s54_ t54_ u54_ v54_ w54_ r55_ s55_ t55_ u55_ v55_ w55_ r56_ s56_ t56_ u56_ v56_ w56_ r57_ s57_ t57_ u57_ v57_ w57_ r58_ s58_ t58_ u58_ v58_ w58_ r59_ s59_ t59_ u59_ v59_ w59_ r60_ s60_ t60_ u60_ v60_ w60_ r61_ s61_ t61_ u61_ v61_ w61_ r62_ s62_ t62_ u62_ v62_ w62_ r63_ s63_ t63_ u63_ v63_ w63_ r64_ s64_ t64_ u64_ v64_ w64_ r65_ s65_ t65_ u65_ v65_ w65_ r66_ s66_ t66_ u66_ v66_ w66_ r67_ s67_ t67_ u67_ v67_ w67_ r68_ s68_ t68_ u68_ v68_ w68_ r69_ s69_ t69_ u69_ v69_ w69_ r70_ s70_ t70_ u70_ v70_ w70_ r71_ s71_ t71_ u71_ v71_ w71_ r72_ s72_ t72_ u72_ v72_ w72_ r73_ s73_ t73_ u73_ v73_ w73_ r74_ s74_ t74_ u74_ v74_ w74_ r75_ s75_ t75_ u75_ v75_ w75_ r76_ s76_ t76_ u76_ v76_ w76_ r77_ s77_ t77_ u77_ v77_ w77_ r78_ s78_ t78_ u78_ v78_ w78_ r79_ s79_ t79_ u79_ v79_ w79_ r80_ s80_ t80_ u80_ v80_ w80_ r81_ s81_ t81_ u81_ v81_ w81_ r82_ s82_ t82_ u82_ v82_ w82_ r83_ s83_ t83_ u83_ v83_ w83_ r84_ s84_ t84_ u84_ v84_ w84_ r85_ s85_ t85_ u85_ v85_ w85_:Value}
    {d_ws p1_ q1_ p2_ q2_ p3_ q3_ p4_ q4_ p5_ q5_ p6_ q6_ p7_ q7_ p8_ q8_ p9_ q9_ p10_ q10_ p11_ q11_ p12_ q12_ p13_ q13_ p14_ q14_ p15_ q15_ p16_ q16_ p17_ q17_ p18_ q18_ p19_ q19_ p20_ q20_ p21_ q21_ p22_ q22_ p23_ q23_ p24_ q24_ p25_ q25_ p26_ q26_ p27_ q27_ p28_ q28_ p29_ q29_ p30_ q30_ p31_ q31_ p32_ q32_ p33_ q33_ p34_ q34_ p35_ q35_ p36_ q36_ p37_ q37_ p38_ q38_ p39_ q39_ p40_ q40_ p41_ q41_ p42_ q42_ p43_ q43_ p44_ q44_ p45_ q45_ p46_ q46_ p47_ q47_ p48_ q48_ p49_ q49_ p50_ q50_ p51_ q51_ p52_ q52_ p53_ q53_ p54_ q54_ p55_ q55_ p56_ q56_ p57_ q57_ p58_ q58_ p59_ q59_ p60_ q60_ p61_ q61_ p62_ q62_ p63_ q63_ p64_ q64_ p65_ q65_ p66_ q66_ p67_ q67_ p68_ q68_ p69_ q69_ p70_ q70_ p71_ q71_ p72_ q72_ p73_ q73_ p74_ q74_ p75_ q75_ p76_ q76_ p77_ q77_ p78_ q78_ p79_ q79_ p80_ q80_ p81_ q81_ p82_ q82_ p83_ q83_ p84_ q84_ p85_ q85_:Option Addr}
    {i_ws:Array Value}
    {n_ws:Nat}
    {s_ws y1_ y2_ y3_ y4_ y5_ y6_ y7_ y8_ y9_ y10_ y11_ y12_ y13_ y14_ y15_ y16_ y17_ y18_ y19_ y20_ y21_ y22_ y23_ y24_ y25_ y26_ y27_ y28_ y29_ y30_ y31_ y32_ y33_ y34_ y35_ y36_ y37_ y38_ y39_ y40_ y41_ y42_ y43_ y44_ y45_ y46_ y47_ y48_ y49_ y50_ y51_ y52_ y53_ y54_ y55_ y56_ y57_ y58_ y59_ y60_ y61_ y62_ y63_ y64_ y65_ y66_ y67_ y68_ y69_ y70_ y71_ y72_ y73_ y74_ y75_ y76_ y77_ y78_ y79_ y80_ y81_ y82_ y83_ y84_ y85_:Array (Option Value)}
    (h1:W.nsIn K mainGlobals "len"=some none)
    (h2:W.nsIn K mainGlobals "all"=some none)
    (h3:W.nsIn K mainGlobals "ord"=some none)
    (h4:W.nsIn K mainGlobals "min"=some none)
    (h5:W.nsIn K mainGlobals "str"=some none)
    (h6:W.nsIn K mainGlobals "isinstance"=some none)
    (h7:W.nsIn K mainGlobals "range"=some none)
    (h8:W.nsIn K mainGlobals "enumerate"=some none)
    (h9:W.nsIn K mainGlobals "SENT"=some (some (.int 1 t1)))
    (h10:W.nsIn K mainGlobals "TOLD"=some (some (.int 2 t2)))
    (h11:W.nsIn K mainGlobals "LOST"=some (some (.int 3 t3)))
    (h12:W.nsIn K mainGlobals "TRYING"=some (some (.int 0 t6)))
    (h13:W.nsIn K mainGlobals "PROCEEDING"=some (some (.int 1 t7)))
    (h14:W.nsIn K mainGlobals "COMPLETED"=some (some (.int 2 t8)))
    (h15:W.nsIn K mainGlobals "CONFIRMED"=some (some (.int 3 t9)))
    (h16:W.nsIn K mainGlobals "FIRST_WAIT"=some (some (.int 500 t10)))
    (h17:W.nsIn K mainGlobals "LONGEST_WAIT"=some (some (.int 4000 t11)))
    (h18:W.nsIn K mainGlobals "LONG_END"=some (some (.int 32000 t12)))
    (h19:W.nsIn K mainGlobals "SHORT_END"=some (some (.int 5000 t13)))
    (h20:W.nsIn K mainGlobals "LINE_FEED"=some (some (.int 10 t18)))
    (h21:W.nsIn K mainGlobals "CARRIAGE_RETURN"=some (some (.int 13 t19)))
    (h22:W.nsIn K mainGlobals "BLANK"=some (some (.int 32 t20)))
    (h23:W.nsIn K mainGlobals "COLON"=some (some (.int 58 t21)))
    (h24:W.nsIn K mainGlobals "SEMICOLON"=some (some (.int 59 t22)))
    (h25:W.nsIn K mainGlobals "ZERO"=some (some (.int 48 t23)))
    (h26:W.nsIn K mainGlobals "NINE"=some (some (.int 57 t24)))
    (h27:W.nsIn K mainGlobals "WORD_SIGNS"=some (some (.ref a_ws)))
    (h28:K.lookup a_ws=some ⟨o_ws,d_ws,.seq i_ws n_ws,s_ws⟩)
    (h29:o_ws=.type "tuple")
    (h30:i_ws.size≤sizeLine)
    (h31:Vals [.int 33,.int 37,.int 39,.int 42,.int 43,.int 45,.int 46,.int 95,.int 96,.int 126] i_ws.toList)
    (h32:W.nsIn K mainGlobals "MOST_OCTETS"=some (some (.int 8192 t47)))
    (h33:W.nsIn K mainGlobals "SEQUENCE_LIMIT"=some (some (.int 2147483648 t48)))
    (h34:W.nsIn K mainGlobals "MOST_TRANSACTIONS"=some (some (.int 64 t65)))
    (h35:W.nsIn K mainGlobals "TIME_LIMIT"=some (some (.int 2147483648 t66)))
    (h36:W.nsIn K mainGlobals "TX_BEGIN"=some (some (.int 0 t69)))
    (h37:W.nsIn K mainGlobals "TX_SEND"=some (some (.int 1 t70)))
    (h38:W.nsIn K mainGlobals "TX_REPLY"=some (some (.int 2 t71)))
    (h39:W.nsIn K mainGlobals "TX_RECEIVE"=some (some (.int 3 t72)))
    (h40:W.nsIn K mainGlobals "TX_TICK"=some (some (.int 4 t73)))
    (h41:W.nsIn K mainGlobals "Report"=some (some (.ref c_Report)))
    (h42:W.nsIn K mainGlobals "Transaction"=some (some (.ref c_Transaction)))
    (h43:W.nsIn K mainGlobals "Answering"=some (some (.ref c_Answering)))
    (h44:W.nsIn K mainGlobals "Asking"=some (some (.ref c_Asking)))
    (h45:W.nsIn K mainGlobals "TooLong"=some (some (.ref c_TooLong)))
    (h46:W.nsIn K mainGlobals "WrongMessage"=some (some (.ref c_WrongMessage)))
    (h47:W.nsIn K mainGlobals "WrongMoment"=some (some (.ref c_WrongMoment)))
    (h48:W.nsIn K mainGlobals "WrongTransaction"=some (some (.ref c_WrongTransaction)))
    (h49:W.nsIn K mainGlobals "NoTransaction"=some (some (.ref c_NoTransaction)))
    (h50:W.nsIn K mainGlobals "Message"=some (some (.ref c_Message)))
    (h51:W.nsIn K mainGlobals "End"=some (some (.ref c_End)))
    (h52:W.nsIn K mainGlobals "Reader"=some (some (.ref c_Reader)))
    (h53:xIn K c_TooLong=true)
    (h54:xIn K c_WrongMessage=true)
    (h55:xIn K c_WrongMoment=true)
    (h56:xIn K c_WrongTransaction=true)
    (h57:xIn K c_NoTransaction=true)
    (h58:W.nsIn K mainGlobals "octets_of"=some (some (.ref f1)))
    (h59:K.lookup f1=some ⟨r1_,p1_,.func (FD "octets_of" "octets_of" s_qcu s1_ t1_ u1_ q1_ v1_ w1_),y1_⟩)
    (h60:W.codeIn K v1_ "octets_of"=true)
    (h61:W.keepIn K (.ref f1)=true)
    (h62:W.nsIn K mainGlobals "is_digit"=some (some (.ref f2)))
    (h63:K.lookup f2=some ⟨r2_,p2_,.func (FD "is_digit" "is_digit" s_qcn s2_ t2_ u2_ q2_ v2_ w2_),y2_⟩)
    (h64:W.codeIn K v2_ "is_digit"=true)
    (h65:W.keepIn K (.ref f2)=true)
    (h66:W.nsIn K mainGlobals "is_letter"=some (some (.ref f3)))
    (h67:K.lookup f3=some ⟨r3_,p3_,.func (FD "is_letter" "is_letter" s_qco s3_ t3_ u3_ q3_ v3_ w3_),y3_⟩)
    (h68:W.codeIn K v3_ "is_letter"=true)
    (h69:W.keepIn K (.ref f3)=true)
    (h70:W.nsIn K mainGlobals "is_word_octet"=some (some (.ref f4)))
    (h71:K.lookup f4=some ⟨r4_,p4_,.func (FD "is_word_octet" "is_word_octet" s_qcs s4_ t4_ u4_ q4_ v4_ w4_),y4_⟩)
    (h72:W.codeIn K v4_ "is_word_octet"=true)
    (h73:W.keepIn K (.ref f4)=true)
    (h74:W.nsIn K mainGlobals "is_word"=some (some (.ref f5)))
    (h75:K.lookup f5=some ⟨r5_,p5_,.func (FD "is_word" "is_word" s_qcr s5_ t5_ u5_ q5_ v5_ w5_),y5_⟩)
    (h76:W.codeIn K v5_ "is_word"=true)
    (h77:W.keepIn K (.ref f5)=true)
    (h78:W.nsIn K mainGlobals "is_visible"=some (some (.ref f6)))
    (h79:K.lookup f6=some ⟨r6_,p6_,.func (FD "is_visible" "is_visible" s_qcq s6_ t6_ u6_ q6_ v6_ w6_),y6_⟩)
    (h80:W.codeIn K v6_ "is_visible"=true)
    (h81:W.keepIn K (.ref f6)=true)
    (h82:W.nsIn K mainGlobals "is_number"=some (some (.ref f7)))
    (h83:K.lookup f7=some ⟨r7_,p7_,.func (FD "is_number" "is_number" s_qcp s7_ t7_ u7_ q7_ v7_ w7_),y7_⟩)
    (h84:W.codeIn K v7_ "is_number"=true)
    (h85:W.keepIn K (.ref f7)=true)
    (h86:W.nsIn K mainGlobals "number_of"=some (some (.ref f8)))
    (h87:K.lookup f8=some ⟨r8_,p8_,.func (FD "number_of" "number_of" s_qct s8_ t8_ u8_ q8_ v8_ w8_),y8_⟩)
    (h88:W.codeIn K v8_ "number_of"=true)
    (h89:W.keepIn K (.ref f8)=true)
    (h90:W.nsIn K mainGlobals "begins_with"=some (some (.ref f9)))
    (h91:K.lookup f9=some ⟨r9_,p9_,.func (FD "begins_with" "begins_with" s_qcj s9_ t9_ u9_ q9_ v9_ w9_),y9_⟩)
    (h92:W.codeIn K v9_ "begins_with"=true)
    (h93:W.keepIn K (.ref f9)=true)
    (h94:W.nsIn K mainGlobals "split_at"=some (some (.ref f10)))
    (h95:K.lookup f10=some ⟨r10_,p10_,.func (FD "split_at" "split_at" s_qdf s10_ t10_ u10_ q10_ v10_ w10_),y10_⟩)
    (h96:W.codeIn K v10_ "split_at"=true)
    (h97:W.keepIn K (.ref f10)=true)
    (h98:W.nsIn K mainGlobals "acknowledgement"=some (some (.ref f11)))
    (h99:K.lookup f11=some ⟨r11_,p11_,.func (FD "acknowledgement" "acknowledgement" s_qcf s11_ t11_ u11_ q11_ v11_ w11_),y11_⟩)
    (h100:W.codeIn K v11_ "acknowledgement"=true)
    (h101:W.keepIn K (.ref f11)=true)
    (h102:W.nsIn K mainGlobals "read_message"=some (some (.ref f12)))
    (h103:K.lookup f12=some ⟨r12_,p12_,.func (FD "read_message" "read_message" s_qda s12_ t12_ u12_ q12_ v12_ w12_),y12_⟩)
    (h104:W.codeIn K v12_ "read_message"=true)
    (h105:W.keepIn K (.ref f12)=true)
    (h106:W.nsIn K mainGlobals "head_length"=some (some (.ref f13)))
    (h107:K.lookup f13=some ⟨r13_,p13_,.func (FD "head_length" "head_length" s_qcm s13_ t13_ u13_ q13_ v13_ w13_),y13_⟩)
    (h108:W.codeIn K v13_ "head_length"=true)
    (h109:W.keepIn K (.ref f13)=true)
    (h110:W.nsIn K mainGlobals "read_lines"=some (some (.ref f14)))
    (h111:K.lookup f14=some ⟨r14_,p14_,.func (FD "read_lines" "read_lines" s_qcz s14_ t14_ u14_ q14_ v14_ w14_),y14_⟩)
    (h112:W.codeIn K v14_ "read_lines"=true)
    (h113:W.keepIn K (.ref f14)=true)
    (h114:W.nsIn K mainGlobals "read_line"=some (some (.ref f15)))
    (h115:K.lookup f15=some ⟨r15_,p15_,.func (FD "read_line" "read_line" s_qcy s15_ t15_ u15_ q15_ v15_ w15_),y15_⟩)
    (h116:W.codeIn K v15_ "read_line"=true)
    (h117:W.keepIn K (.ref f15)=true)
    (h118:W.nsIn K mainGlobals "read_header"=some (some (.ref f16)))
    (h119:K.lookup f16=some ⟨r16_,p16_,.func (FD "read_header" "read_header" s_qcx s16_ t16_ u16_ q16_ v16_ w16_),y16_⟩)
    (h120:W.codeIn K v16_ "read_header"=true)
    (h121:W.keepIn K (.ref f16)=true)
    (h122:W.nsIn K mainGlobals "values_of"=some (some (.ref f17)))
    (h123:K.lookup f17=some ⟨r17_,p17_,.func (FD "values_of" "values_of" s_qdg s17_ t17_ u17_ q17_ v17_ w17_),y17_⟩)
    (h124:W.codeIn K v17_ "values_of"=true)
    (h125:W.keepIn K (.ref f17)=true)
    (h126:W.nsIn K mainGlobals "first_value"=some (some (.ref f18)))
    (h127:K.lookup f18=some ⟨r18_,p18_,.func (FD "first_value" "first_value" s_qcl s18_ t18_ u18_ q18_ v18_ w18_),y18_⟩)
    (h128:W.codeIn K v18_ "first_value"=true)
    (h129:W.keepIn K (.ref f18)=true)
    (h130:W.nsIn K mainGlobals "only_value"=some (some (.ref f19)))
    (h131:K.lookup f19=some ⟨r19_,p19_,.func (FD "only_value" "only_value" s_qcv s19_ t19_ u19_ q19_ v19_ w19_),y19_⟩)
    (h132:W.codeIn K v19_ "only_value"=true)
    (h133:W.keepIn K (.ref f19)=true)
    (h134:W.nsIn K mainGlobals "check_body_length"=some (some (.ref f20)))
    (h135:K.lookup f20=some ⟨r20_,p20_,.func (FD "check_body_length" "check_body_length" s_qck s20_ t20_ u20_ q20_ v20_ w20_),y20_⟩)
    (h136:W.codeIn K v20_ "check_body_length"=true)
    (h137:W.keepIn K (.ref f20)=true)
    (h138:W.nsIn K mainGlobals "read_status"=some (some (.ref f21)))
    (h139:K.lookup f21=some ⟨r21_,p21_,.func (FD "read_status" "read_status" s_qdd s21_ t21_ u21_ q21_ v21_ w21_),y21_⟩)
    (h140:W.codeIn K v21_ "read_status"=true)
    (h141:W.keepIn K (.ref f21)=true)
    (h142:W.nsIn K mainGlobals "read_request"=some (some (.ref f22)))
    (h143:K.lookup f22=some ⟨r22_,p22_,.func (FD "read_request" "read_request" s_qdb s22_ t22_ u22_ q22_ v22_ w22_),y22_⟩)
    (h144:W.codeIn K v22_ "read_request"=true)
    (h145:W.keepIn K (.ref f22)=true)
    (h146:W.nsIn K mainGlobals "read_sequence"=some (some (.ref f23)))
    (h147:K.lookup f23=some ⟨r23_,p23_,.func (FD "read_sequence" "read_sequence" s_qdc s23_ t23_ u23_ q23_ v23_ w23_),y23_⟩)
    (h148:W.codeIn K v23_ "read_sequence"=true)
    (h149:W.keepIn K (.ref f23)=true)
    (h150:W.nsIn K mainGlobals "read_via"=some (some (.ref f24)))
    (h151:K.lookup f24=some ⟨r24_,p24_,.func (FD "read_via" "read_via" s_qde s24_ t24_ u24_ q24_ v24_ w24_),y24_⟩)
    (h152:W.codeIn K v24_ "read_via"=true)
    (h153:W.keepIn K (.ref f24)=true)
    (h154:W.nsIn K mainGlobals "read_branch"=some (some (.ref f25)))
    (h155:K.lookup f25=some ⟨r25_,p25_,.func (FD "read_branch" "read_branch" s_qcw s25_ t25_ u25_ q25_ v25_ w25_),y25_⟩)
    (h156:W.codeIn K v25_ "read_branch"=true)
    (h157:W.keepIn K (.ref f25)=true)
    (h158:W.nsIn K mainGlobals "answers"=some (some (.ref f26)))
    (h159:K.lookup f26=some ⟨r26_,p26_,.func (FD "answers" "answers" s_qci s26_ t26_ u26_ q26_ v26_ w26_),y26_⟩)
    (h160:W.codeIn K v26_ "answers"=true)
    (h161:W.keepIn K (.ref f26)=true)
    (h162:W.nsIn K mainGlobals "answer_or_refusal"=some (some (.ref f27)))
    (h163:K.lookup f27=some ⟨r27_,p27_,.func (FD "answer_or_refusal" "answer_or_refusal" s_qch s27_ t27_ u27_ q27_ v27_ w27_),y27_⟩)
    (h164:W.codeIn K v27_ "answer_or_refusal"=true)
    (h165:W.keepIn K (.ref f27)=true)
    (h166:W.nsIn K mainGlobals "answer_call"=some (some (.ref f28)))
    (h167:K.lookup f28=some ⟨r28_,p28_,.func (FD "answer_call" "answer_call" s_qcg s28_ t28_ u28_ q28_ v28_ w28_),y28_⟩)
    (h168:W.codeIn K v28_ "answer_call"=true)
    (h169:W.keepIn K (.ref f28)=true)
    (h170:W.findIn K (.ref c_Report) "__init__"=some (some (.ref f29)))
    (h171:K.lookup f29=some ⟨r29_,p29_,.func (FD "__init__" "Report.__init__" s_qbr s29_ t29_ u29_ q29_ v29_ w29_),y29_⟩)
    (h172:W.codeIn K v29_ "Report.__init__"=true)
    (h173:W.keepIn K (.ref f29)=true)
    (h174:W.isFn K (.ref f29)=true)
    (h175:W.findIn K (.ref c_Report) "add"=some (some (.ref f30)))
    (h176:K.lookup f30=some ⟨r30_,p30_,.func (FD "add" "Report.add" s_qbp s30_ t30_ u30_ q30_ v30_ w30_),y30_⟩)
    (h177:W.codeIn K v30_ "Report.add"=true)
    (h178:W.keepIn K (.ref f30)=true)
    (h179:W.isFn K (.ref f30)=true)
    (h180:W.findIn K (.ref c_Report) "answer"=some (some (.ref f31)))
    (h181:K.lookup f31=some ⟨r31_,p31_,.func (FD "answer" "Report.answer" s_qbq s31_ t31_ u31_ q31_ v31_ w31_),y31_⟩)
    (h182:W.codeIn K v31_ "Report.answer"=true)
    (h183:W.keepIn K (.ref f31)=true)
    (h184:W.isFn K (.ref f31)=true)
    (h185:W.findIn K (.ref c_Transaction) "__init__"=some (some (.ref f32)))
    (h186:K.lookup f32=some ⟨r32_,p32_,.func (FD "__init__" "Transaction.__init__" s_qbu s32_ t32_ u32_ q32_ v32_ w32_),y32_⟩)
    (h187:W.codeIn K v32_ "Transaction.__init__"=true)
    (h188:W.keepIn K (.ref f32)=true)
    (h189:W.isFn K (.ref f32)=true)
    (h190:W.findIn K (.ref c_Asking) "start_again"=some (some (.ref f33)))
    (h191:K.lookup f33=some ⟨r33_,p33_,.func (FD "start_again" "Transaction.start_again" s_qca s33_ t33_ u33_ q33_ v33_ w33_),y33_⟩)
    (h192:W.codeIn K v33_ "Transaction.start_again"=true)
    (h193:W.keepIn K (.ref f33)=true)
    (h194:W.isFn K (.ref f33)=true)
    (h195:W.findIn K (.ref c_Asking) "stop_again"=some (some (.ref f34)))
    (h196:K.lookup f34=some ⟨r34_,p34_,.func (FD "stop_again" "Transaction.stop_again" s_qcc s34_ t34_ u34_ q34_ v34_ w34_),y34_⟩)
    (h197:W.codeIn K v34_ "Transaction.stop_again"=true)
    (h198:W.keepIn K (.ref f34)=true)
    (h199:W.isFn K (.ref f34)=true)
    (h200:W.findIn K (.ref c_Asking) "start_end"=some (some (.ref f35)))
    (h201:K.lookup f35=some ⟨r35_,p35_,.func (FD "start_end" "Transaction.start_end" s_qcb s35_ t35_ u35_ q35_ v35_ w35_),y35_⟩)
    (h202:W.codeIn K v35_ "Transaction.start_end"=true)
    (h203:W.keepIn K (.ref f35)=true)
    (h204:W.isFn K (.ref f35)=true)
    (h205:W.findIn K (.ref c_Asking) "stop_end"=some (some (.ref f36)))
    (h206:K.lookup f36=some ⟨r36_,p36_,.func (FD "stop_end" "Transaction.stop_end" s_qcd s36_ t36_ u36_ q36_ v36_ w36_),y36_⟩)
    (h207:W.codeIn K v36_ "Transaction.stop_end"=true)
    (h208:W.keepIn K (.ref f36)=true)
    (h209:W.isFn K (.ref f36)=true)
    (h210:W.findIn K (.ref c_Asking) "end_has_come"=some (some (.ref f37)))
    (h211:K.lookup f37=some ⟨r37_,p37_,.func (FD "end_has_come" "Transaction.end_has_come" s_qbt s37_ t37_ u37_ q37_ v37_ w37_),y37_⟩)
    (h212:W.codeIn K v37_ "Transaction.end_has_come"=true)
    (h213:W.keepIn K (.ref f37)=true)
    (h214:W.isFn K (.ref f37)=true)
    (h215:W.findIn K (.ref c_Asking) "again_has_come"=some (some (.ref f38)))
    (h216:K.lookup f38=some ⟨r38_,p38_,.func (FD "again_has_come" "Transaction.again_has_come" s_qbs s38_ t38_ u38_ q38_ v38_ w38_),y38_⟩)
    (h217:W.codeIn K v38_ "Transaction.again_has_come"=true)
    (h218:W.keepIn K (.ref f38)=true)
    (h219:W.isFn K (.ref f38)=true)
    (h220:W.findIn K (.ref c_Asking) "run_timers"=some (some (.ref f39)))
    (h221:K.lookup f39=some ⟨r39_,p39_,.func (FD "run_timers" "Transaction.run_timers" s_qbx s39_ t39_ u39_ q39_ v39_ w39_),y39_⟩)
    (h222:W.codeIn K v39_ "Transaction.run_timers"=true)
    (h223:W.keepIn K (.ref f39)=true)
    (h224:W.isFn K (.ref f39)=true)
    (h225:W.findIn K (.ref c_Asking) "send"=some (some (.ref f40)))
    (h226:K.lookup f40=some ⟨r40_,p40_,.func (FD "send" "Transaction.send" s_qby s40_ t40_ u40_ q40_ v40_ w40_),y40_⟩)
    (h227:W.codeIn K v40_ "Transaction.send"=true)
    (h228:W.keepIn K (.ref f40)=true)
    (h229:W.isFn K (.ref f40)=true)
    (h230:W.findIn K (.ref c_Asking) "send_again"=some (some (.ref f41)))
    (h231:K.lookup f41=some ⟨r41_,p41_,.func (FD "send_again" "Transaction.send_again" s_qbz s41_ t41_ u41_ q41_ v41_ w41_),y41_⟩)
    (h232:W.codeIn K v41_ "Transaction.send_again"=true)
    (h233:W.keepIn K (.ref f41)=true)
    (h234:W.isFn K (.ref f41)=true)
    (h235:W.findIn K (.ref c_Asking) "tell"=some (some (.ref f42)))
    (h236:K.lookup f42=some ⟨r42_,p42_,.func (FD "tell" "Transaction.tell" s_qce s42_ t42_ u42_ q42_ v42_ w42_),y42_⟩)
    (h237:W.codeIn K v42_ "Transaction.tell"=true)
    (h238:W.keepIn K (.ref f42)=true)
    (h239:W.isFn K (.ref f42)=true)
    (h240:W.findIn K (.ref c_Asking) "invites"=some (some (.ref f43)))
    (h241:K.lookup f43=some ⟨r43_,p43_,.func (FD "invites" "Transaction.invites" s_qbv s43_ t43_ u43_ q43_ v43_ w43_),y43_⟩)
    (h242:W.codeIn K v43_ "Transaction.invites"=true)
    (h243:W.keepIn K (.ref f43)=true)
    (h244:W.isFn K (.ref f43)=true)
    (h245:W.findIn K (.ref c_Asking) "is_early"=some (some (.ref f44)))
    (h246:K.lookup f44=some ⟨r44_,p44_,.func (FD "is_early" "Transaction.is_early" s_qbw s44_ t44_ u44_ q44_ v44_ w44_),y44_⟩)
    (h247:W.codeIn K v44_ "Transaction.is_early"=true)
    (h248:W.keepIn K (.ref f44)=true)
    (h249:W.isFn K (.ref f44)=true)
    (h250:W.findIn K (.ref c_Answering) "__init__"=some (some (.ref f45)))
    (h251:K.lookup f45=some ⟨r45_,p45_,.func (FD "__init__" "Answering.__init__" s_qac s45_ t45_ u45_ q45_ v45_ w45_),y45_⟩)
    (h252:W.codeIn K v45_ "Answering.__init__"=true)
    (h253:W.keepIn K (.ref f45)=true)
    (h254:W.isFn K (.ref f45)=true)
    (h255:W.findIn K (.ref c_Answering) "is_from_there"=some (some (.ref f46)))
    (h256:K.lookup f46=some ⟨r46_,p46_,.func (FD "is_from_there" "Answering.is_from_there" s_qad s46_ t46_ u46_ q46_ v46_ w46_),y46_⟩)
    (h257:W.codeIn K v46_ "Answering.is_from_there"=true)
    (h258:W.keepIn K (.ref f46)=true)
    (h259:W.isFn K (.ref f46)=true)
    (h260:W.findIn K (.ref c_Answering) "fits"=some (some (.ref f47)))
    (h261:K.lookup f47=some ⟨r47_,p47_,.func (FD "fits" "Answering.fits" s_qab s47_ t47_ u47_ q47_ v47_ w47_),y47_⟩)
    (h262:W.codeIn K v47_ "Answering.fits"=true)
    (h263:W.keepIn K (.ref f47)=true)
    (h264:W.isFn K (.ref f47)=true)
    (h265:W.findIn K (.ref c_Answering) "owns_request"=some (some (.ref f48)))
    (h266:K.lookup f48=some ⟨r48_,p48_,.func (FD "owns_request" "Answering.owns_request" s_qag s48_ t48_ u48_ q48_ v48_ w48_),y48_⟩)
    (h267:W.codeIn K v48_ "Answering.owns_request"=true)
    (h268:W.keepIn K (.ref f48)=true)
    (h269:W.isFn K (.ref f48)=true)
    (h270:W.findIn K (.ref c_Answering) "next_wait"=some (some (.ref f49)))
    (h271:K.lookup f49=some ⟨r49_,p49_,.func (FD "next_wait" "Answering.next_wait" s_qaf s49_ t49_ u49_ q49_ v49_ w49_),y49_⟩)
    (h272:W.codeIn K v49_ "Answering.next_wait"=true)
    (h273:W.keepIn K (.ref f49)=true)
    (h274:W.isFn K (.ref f49)=true)
    (h275:W.findIn K (.ref c_Answering) "is_lost_at_end"=some (some (.ref f50)))
    (h276:K.lookup f50=some ⟨r50_,p50_,.func (FD "is_lost_at_end" "Answering.is_lost_at_end" s_qae s50_ t50_ u50_ q50_ v50_ w50_),y50_⟩)
    (h277:W.codeIn K v50_ "Answering.is_lost_at_end"=true)
    (h278:W.keepIn K (.ref f50)=true)
    (h279:W.isFn K (.ref f50)=true)
    (h280:W.findIn K (.ref c_Answering) "take_request"=some (some (.ref f51)))
    (h281:K.lookup f51=some ⟨r51_,p51_,.func (FD "take_request" "Answering.take_request" s_qaj s51_ t51_ u51_ q51_ v51_ w51_),y51_⟩)
    (h282:W.codeIn K v51_ "Answering.take_request"=true)
    (h283:W.keepIn K (.ref f51)=true)
    (h284:W.isFn K (.ref f51)=true)
    (h285:W.findIn K (.ref c_Answering) "take_acknowledgement"=some (some (.ref f52)))
    (h286:K.lookup f52=some ⟨r52_,p52_,.func (FD "take_acknowledgement" "Answering.take_acknowledgement" s_qai s52_ t52_ u52_ q52_ v52_ w52_),y52_⟩)
    (h287:W.codeIn K v52_ "Answering.take_acknowledgement"=true)
    (h288:W.keepIn K (.ref f52)=true)
    (h289:W.isFn K (.ref f52)=true)
    (h290:W.findIn K (.ref c_Answering) "send_reply"=some (some (.ref f53)))
    (h291:K.lookup f53=some ⟨r53_,p53_,.func (FD "send_reply" "Answering.send_reply" s_qah s53_ t53_ u53_ q53_ v53_ w53_),y53_⟩)
    (h292:W.codeIn K v53_ "Answering.send_reply"=true)
    (h293:W.keepIn K (.ref f53)=true)
    (h294:W.isFn K (.ref f53)=true)
    (h295:W.findIn K (.ref c_Answering) "complete"=some (some (.ref f54)))
    (h296:K.lookup f54=some ⟨r54_,p54_,.func (FD "complete" "Answering.complete" s_qaa s54_ t54_ u54_ q54_ v54_ w54_),y54_⟩)
    (h297:W.codeIn K v54_ "Answering.complete"=true)
    (h298:W.keepIn K (.ref f54)=true)
    (h299:W.isFn K (.ref f54)=true)
    (h300:W.findIn K (.ref c_Asking) "__init__"=some (some (.ref f55)))
    (h301:K.lookup f55=some ⟨r55_,p55_,.func (FD "__init__" "Asking.__init__" s_qan s55_ t55_ u55_ q55_ v55_ w55_),y55_⟩)
    (h302:W.codeIn K v55_ "Asking.__init__"=true)
    (h303:W.keepIn K (.ref f55)=true)
    (h304:W.isFn K (.ref f55)=true)
    (h305:W.findIn K (.ref c_Asking) "begin"=some (some (.ref f56)))
    (h306:K.lookup f56=some ⟨r56_,p56_,.func (FD "begin" "Asking.begin" s_qal s56_ t56_ u56_ q56_ v56_ w56_),y56_⟩)
    (h307:W.codeIn K v56_ "Asking.begin"=true)
    (h308:W.keepIn K (.ref f56)=true)
    (h309:W.isFn K (.ref f56)=true)
    (h310:W.findIn K (.ref c_Asking) "asks_like"=some (some (.ref f57)))
    (h311:K.lookup f57=some ⟨r57_,p57_,.func (FD "asks_like" "Asking.asks_like" s_qak s57_ t57_ u57_ q57_ v57_ w57_),y57_⟩)
    (h312:W.codeIn K v57_ "Asking.asks_like"=true)
    (h313:W.keepIn K (.ref f57)=true)
    (h314:W.isFn K (.ref f57)=true)
    (h315:W.findIn K (.ref c_Asking) "next_wait"=some (some (.ref f58)))
    (h316:K.lookup f58=some ⟨r58_,p58_,.func (FD "next_wait" "Asking.next_wait" s_qap s58_ t58_ u58_ q58_ v58_ w58_),y58_⟩)
    (h317:W.codeIn K v58_ "Asking.next_wait"=true)
    (h318:W.keepIn K (.ref f58)=true)
    (h319:W.isFn K (.ref f58)=true)
    (h320:W.findIn K (.ref c_Asking) "is_lost_at_end"=some (some (.ref f59)))
    (h321:K.lookup f59=some ⟨r59_,p59_,.func (FD "is_lost_at_end" "Asking.is_lost_at_end" s_qao s59_ t59_ u59_ q59_ v59_ w59_),y59_⟩)
    (h322:W.codeIn K v59_ "Asking.is_lost_at_end"=true)
    (h323:W.keepIn K (.ref f59)=true)
    (h324:W.isFn K (.ref f59)=true)
    (h325:W.findIn K (.ref c_Asking) "take_reply"=some (some (.ref f60)))
    (h326:K.lookup f60=some ⟨r60_,p60_,.func (FD "take_reply" "Asking.take_reply" s_qas s60_ t60_ u60_ q60_ v60_ w60_),y60_⟩)
    (h327:W.codeIn K v60_ "Asking.take_reply"=true)
    (h328:W.keepIn K (.ref f60)=true)
    (h329:W.isFn K (.ref f60)=true)
    (h330:W.findIn K (.ref c_Asking) "take_invite_reply"=some (some (.ref f61)))
    (h331:K.lookup f61=some ⟨r61_,p61_,.func (FD "take_invite_reply" "Asking.take_invite_reply" s_qaq s61_ t61_ u61_ q61_ v61_ w61_),y61_⟩)
    (h332:W.codeIn K v61_ "Asking.take_invite_reply"=true)
    (h333:W.keepIn K (.ref f61)=true)
    (h334:W.isFn K (.ref f61)=true)
    (h335:W.findIn K (.ref c_Asking) "take_other_reply"=some (some (.ref f62)))
    (h336:K.lookup f62=some ⟨r62_,p62_,.func (FD "take_other_reply" "Asking.take_other_reply" s_qar s62_ t62_ u62_ q62_ v62_ w62_),y62_⟩)
    (h337:W.codeIn K v62_ "Asking.take_other_reply"=true)
    (h338:W.keepIn K (.ref f62)=true)
    (h339:W.isFn K (.ref f62)=true)
    (h340:W.findIn K (.ref c_Asking) "complete"=some (some (.ref f63)))
    (h341:K.lookup f63=some ⟨r63_,p63_,.func (FD "complete" "Asking.complete" s_qam s63_ t63_ u63_ q63_ v63_ w63_),y63_⟩)
    (h342:W.codeIn K v63_ "Asking.complete"=true)
    (h343:W.keepIn K (.ref f63)=true)
    (h344:W.isFn K (.ref f63)=true)
    (h345:W.findIn K (.ref c_Message) "__init__"=some (some (.ref f64)))
    (h346:K.lookup f64=some ⟨r64_,p64_,.func (FD "__init__" "Message.__init__" s_qbj s64_ t64_ u64_ q64_ v64_ w64_),y64_⟩)
    (h347:W.codeIn K v64_ "Message.__init__"=true)
    (h348:W.keepIn K (.ref f64)=true)
    (h349:W.isFn K (.ref f64)=true)
    (h350:W.findIn K (.ref c_Message) "is_request"=some (some (.ref f65)))
    (h351:K.lookup f65=some ⟨r65_,p65_,.func (FD "is_request" "Message.is_request" s_qbk s65_ t65_ u65_ q65_ v65_ w65_),y65_⟩)
    (h352:W.codeIn K v65_ "Message.is_request"=true)
    (h353:W.keepIn K (.ref f65)=true)
    (h354:W.isFn K (.ref f65)=true)
    (h355:W.findIn K (.ref c_Message) "has_method"=some (some (.ref f66)))
    (h356:K.lookup f66=some ⟨r66_,p66_,.func (FD "has_method" "Message.has_method" s_qbi s66_ t66_ u66_ q66_ v66_ w66_),y66_⟩)
    (h357:W.codeIn K v66_ "Message.has_method"=true)
    (h358:W.keepIn K (.ref f66)=true)
    (h359:W.isFn K (.ref f66)=true)
    (h360:W.findIn K (.ref c_End) "__init__"=some (some (.ref f67)))
    (h361:K.lookup f67=some ⟨r67_,p67_,.func (FD "__init__" "End.__init__" s_qax s67_ t67_ u67_ q67_ v67_ w67_),y67_⟩)
    (h362:W.codeIn K v67_ "End.__init__"=true)
    (h363:W.keepIn K (.ref f67)=true)
    (h364:W.isFn K (.ref f67)=true)
    (h365:W.findIn K (.ref c_End) "send"=some (some (.ref f68)))
    (h366:K.lookup f68=some ⟨r68_,p68_,.func (FD "send" "End.send" s_qbc s68_ t68_ u68_ q68_ v68_ w68_),y68_⟩)
    (h367:W.codeIn K v68_ "End.send"=true)
    (h368:W.keepIn K (.ref f68)=true)
    (h369:W.isFn K (.ref f68)=true)
    (h370:W.findIn K (.ref c_End) "reply"=some (some (.ref f69)))
    (h371:K.lookup f69=some ⟨r69_,p69_,.func (FD "reply" "End.reply" s_qbb s69_ t69_ u69_ q69_ v69_ w69_),y69_⟩)
    (h372:W.codeIn K v69_ "End.reply"=true)
    (h373:W.keepIn K (.ref f69)=true)
    (h374:W.isFn K (.ref f69)=true)
    (h375:W.findIn K (.ref c_End) "receive"=some (some (.ref f70)))
    (h376:K.lookup f70=some ⟨r70_,p70_,.func (FD "receive" "End.receive" s_qba s70_ t70_ u70_ q70_ v70_ w70_),y70_⟩)
    (h377:W.codeIn K v70_ "End.receive"=true)
    (h378:W.keepIn K (.ref f70)=true)
    (h379:W.isFn K (.ref f70)=true)
    (h380:W.findIn K (.ref c_End) "tick"=some (some (.ref f71)))
    (h381:K.lookup f71=some ⟨r71_,p71_,.func (FD "tick" "End.tick" s_qbh s71_ t71_ u71_ q71_ v71_ w71_),y71_⟩)
    (h382:W.codeIn K v71_ "End.tick"=true)
    (h383:W.keepIn K (.ref f71)=true)
    (h384:W.isFn K (.ref f71)=true)
    (h385:W.findIn K (.ref c_End) "state_of"=some (some (.ref f72)))
    (h386:K.lookup f72=some ⟨r72_,p72_,.func (FD "state_of" "End.state_of" s_qbd s72_ t72_ u72_ q72_ v72_ w72_),y72_⟩)
    (h387:W.codeIn K v72_ "End.state_of"=true)
    (h388:W.keepIn K (.ref f72)=true)
    (h389:W.isFn K (.ref f72)=true)
    (h390:W.findIn K (.ref c_End) "check_moment"=some (some (.ref f73)))
    (h391:K.lookup f73=some ⟨r73_,p73_,.func (FD "check_moment" "End.check_moment" s_qau s73_ t73_ u73_ q73_ v73_ w73_),y73_⟩)
    (h392:W.codeIn K v73_ "End.check_moment"=true)
    (h393:W.keepIn K (.ref f73)=true)
    (h394:W.isFn K (.ref f73)=true)
    (h395:W.findIn K (.ref c_End) "check_may_ask"=some (some (.ref f74)))
    (h396:K.lookup f74=some ⟨r74_,p74_,.func (FD "check_may_ask" "End.check_may_ask" s_qat s74_ t74_ u74_ q74_ v74_ w74_),y74_⟩)
    (h397:W.codeIn K v74_ "End.check_may_ask"=true)
    (h398:W.keepIn K (.ref f74)=true)
    (h399:W.isFn K (.ref f74)=true)
    (h400:W.findIn K (.ref c_End) "find_to_answer"=some (some (.ref f75)))
    (h401:K.lookup f75=some ⟨r75_,p75_,.func (FD "find_to_answer" "End.find_to_answer" s_qaw s75_ t75_ u75_ q75_ v75_ w75_),y75_⟩)
    (h402:W.codeIn K v75_ "End.find_to_answer"=true)
    (h403:W.keepIn K (.ref f75)=true)
    (h404:W.isFn K (.ref f75)=true)
    (h405:W.findIn K (.ref c_End) "staying_at"=some (some (.ref f76)))
    (h406:K.lookup f76=some ⟨r76_,p76_,.func (FD "staying_at" "End.staying_at" s_qbe s76_ t76_ u76_ q76_ v76_ w76_),y76_⟩)
    (h407:W.codeIn K v76_ "End.staying_at"=true)
    (h408:W.keepIn K (.ref f76)=true)
    (h409:W.isFn K (.ref f76)=true)
    (h410:W.findIn K (.ref c_End) "pass_time"=some (some (.ref f77)))
    (h411:K.lookup f77=some ⟨r77_,p77_,.func (FD "pass_time" "End.pass_time" s_qaz s77_ t77_ u77_ q77_ v77_ w77_),y77_⟩)
    (h412:W.codeIn K v77_ "End.pass_time"=true)
    (h413:W.keepIn K (.ref f77)=true)
    (h414:W.isFn K (.ref f77)=true)
    (h415:W.findIn K (.ref c_End) "drop_those_over"=some (some (.ref f78)))
    (h416:K.lookup f78=some ⟨r78_,p78_,.func (FD "drop_those_over" "End.drop_those_over" s_qav s78_ t78_ u78_ q78_ v78_ w78_),y78_⟩)
    (h417:W.codeIn K v78_ "End.drop_those_over"=true)
    (h418:W.keepIn K (.ref f78)=true)
    (h419:W.isFn K (.ref f78)=true)
    (h420:W.findIn K (.ref c_End) "new_number"=some (some (.ref f79)))
    (h421:K.lookup f79=some ⟨r79_,p79_,.func (FD "new_number" "End.new_number" s_qay s79_ t79_ u79_ q79_ v79_ w79_),y79_⟩)
    (h422:W.codeIn K v79_ "End.new_number"=true)
    (h423:W.keepIn K (.ref f79)=true)
    (h424:W.isFn K (.ref f79)=true)
    (h425:W.findIn K (.ref c_End) "take_reply"=some (some (.ref f80)))
    (h426:K.lookup f80=some ⟨r80_,p80_,.func (FD "take_reply" "End.take_reply" s_qbf s80_ t80_ u80_ q80_ v80_ w80_),y80_⟩)
    (h427:W.codeIn K v80_ "End.take_reply"=true)
    (h428:W.keepIn K (.ref f80)=true)
    (h429:W.isFn K (.ref f80)=true)
    (h430:W.findIn K (.ref c_End) "take_request"=some (some (.ref f81)))
    (h431:K.lookup f81=some ⟨r81_,p81_,.func (FD "take_request" "End.take_request" s_qbg s81_ t81_ u81_ q81_ v81_ w81_),y81_⟩)
    (h432:W.codeIn K v81_ "End.take_request"=true)
    (h433:W.keepIn K (.ref f81)=true)
    (h434:W.isFn K (.ref f81)=true)
    (h435:W.findIn K (.ref c_Reader) "__init__"=some (some (.ref f82)))
    (h436:K.lookup f82=some ⟨r82_,p82_,.func (FD "__init__" "Reader.__init__" s_qbm s82_ t82_ u82_ q82_ v82_ w82_),y82_⟩)
    (h437:W.codeIn K v82_ "Reader.__init__"=true)
    (h438:W.keepIn K (.ref f82)=true)
    (h439:W.isFn K (.ref f82)=true)
    (h440:W.findIn K (.ref c_Reader) "has_more"=some (some (.ref f83)))
    (h441:K.lookup f83=some ⟨r83_,p83_,.func (FD "has_more" "Reader.has_more" s_qbl s83_ t83_ u83_ q83_ v83_ w83_),y83_⟩)
    (h442:W.codeIn K v83_ "Reader.has_more"=true)
    (h443:W.keepIn K (.ref f83)=true)
    (h444:W.isFn K (.ref f83)=true)
    (h445:W.findIn K (.ref c_Reader) "take_number"=some (some (.ref f84)))
    (h446:K.lookup f84=some ⟨r84_,p84_,.func (FD "take_number" "Reader.take_number" s_qbo s84_ t84_ u84_ q84_ v84_ w84_),y84_⟩)
    (h447:W.codeIn K v84_ "Reader.take_number"=true)
    (h448:W.keepIn K (.ref f84)=true)
    (h449:W.isFn K (.ref f84)=true)
    (h450:W.findIn K (.ref c_Reader) "take_message"=some (some (.ref f85)))
    (h451:K.lookup f85=some ⟨r85_,p85_,.func (FD "take_message" "Reader.take_message" s_qbn s85_ t85_ u85_ q85_ v85_ w85_),y85_⟩)
    (h452:W.codeIn K v85_ "Reader.take_message"=true)
    (h453:W.keepIn K (.ref f85)=true)
    (h454:W.isFn K (.ref f85)=true)
    (h455:W.makesIn K c_Report=true)
    (h456:W.keepIn K (.ref c_Report)=true)
    (h457:W.plainGet K c_Report Str.empty=true)
    (h458:W.hasDictIn K c_Report=true)
    (h459:W.plainOver K c_Report=true)
    (h460:W.findIn K (.ref c_Report) "__setattr__"=some (some (.builtin "object.__setattr__")))
    (h461:W.findIn K (.ref c_Report) "things"=some none)
    (h462:W.findIn K (.ref c_Report) "numbers"=some none)
    (h463:W.makesIn K c_Answering=true)
    (h464:W.keepIn K (.ref c_Answering)=true)
    (h465:W.plainGet K c_Answering Str.empty=true)
    (h466:W.hasDictIn K c_Answering=true)
    (h467:W.plainOver K c_Answering=true)
    (h468:W.findIn K (.ref c_Answering) "__setattr__"=some (some (.builtin "object.__setattr__")))
    (h469:W.findIn K (.ref c_Answering) "number"=some none)
    (h470:W.findIn K (.ref c_Answering) "request"=some none)
    (h471:W.findIn K (.ref c_Answering) "state"=some none)
    (h472:W.findIn K (.ref c_Answering) "last_sent"=some none)
    (h473:W.findIn K (.ref c_Answering) "wait"=some none)
    (h474:W.findIn K (.ref c_Answering) "again_at"=some none)
    (h475:W.findIn K (.ref c_Answering) "end_at"=some none)
    (h476:W.findIn K (.ref c_Answering) "over"=some none)
    (h477:W.findIn K (.ref c_Answering) "__class__"=some (some (.builtin "object.__class__")))
    (h478:W.mroIn K c_Answering (.type "object")=some true)
    (h479:W.findIn K (.ref c_Answering) "start_again"=some (some (.ref f33)))
    (h480:W.findIn K (.ref c_Answering) "stop_again"=some (some (.ref f34)))
    (h481:W.findIn K (.ref c_Answering) "start_end"=some (some (.ref f35)))
    (h482:W.findIn K (.ref c_Answering) "stop_end"=some (some (.ref f36)))
    (h483:W.findIn K (.ref c_Answering) "end_has_come"=some (some (.ref f37)))
    (h484:W.findIn K (.ref c_Answering) "again_has_come"=some (some (.ref f38)))
    (h485:W.findIn K (.ref c_Answering) "run_timers"=some (some (.ref f39)))
    (h486:W.findIn K (.ref c_Answering) "send"=some (some (.ref f40)))
    (h487:W.findIn K (.ref c_Answering) "send_again"=some (some (.ref f41)))
    (h488:W.findIn K (.ref c_Answering) "tell"=some (some (.ref f42)))
    (h489:W.findIn K (.ref c_Answering) "invites"=some (some (.ref f43)))
    (h490:W.findIn K (.ref c_Answering) "is_early"=some (some (.ref f44)))
    (h491:W.makesIn K c_Asking=true)
    (h492:W.keepIn K (.ref c_Asking)=true)
    (h493:W.plainGet K c_Asking Str.empty=true)
    (h494:W.hasDictIn K c_Asking=true)
    (h495:W.plainOver K c_Asking=true)
    (h496:W.findIn K (.ref c_Asking) "__setattr__"=some (some (.builtin "object.__setattr__")))
    (h497:W.findIn K (.ref c_Asking) "number"=some none)
    (h498:W.findIn K (.ref c_Asking) "request"=some none)
    (h499:W.findIn K (.ref c_Asking) "state"=some none)
    (h500:W.findIn K (.ref c_Asking) "last_sent"=some none)
    (h501:W.findIn K (.ref c_Asking) "wait"=some none)
    (h502:W.findIn K (.ref c_Asking) "again_at"=some none)
    (h503:W.findIn K (.ref c_Asking) "end_at"=some none)
    (h504:W.findIn K (.ref c_Asking) "over"=some none)
    (h505:W.findIn K (.ref c_Asking) "__class__"=some (some (.builtin "object.__class__")))
    (h506:W.mroIn K c_Asking (.type "object")=some true)
    (h507:W.makesIn K c_Message=true)
    (h508:W.keepIn K (.ref c_Message)=true)
    (h509:W.plainGet K c_Message Str.empty=true)
    (h510:W.hasDictIn K c_Message=true)
    (h511:W.plainOver K c_Message=true)
    (h512:W.findIn K (.ref c_Message) "__setattr__"=some (some (.builtin "object.__setattr__")))
    (h513:W.findIn K (.ref c_Message) "octets"=some none)
    (h514:W.findIn K (.ref c_Message) "uri"=some none)
    (h515:W.findIn K (.ref c_Message) "status"=some none)
    (h516:W.findIn K (.ref c_Message) "via"=some none)
    (h517:W.findIn K (.ref c_Message) "sender"=some none)
    (h518:W.findIn K (.ref c_Message) "target"=some none)
    (h519:W.findIn K (.ref c_Message) "call_name"=some none)
    (h520:W.findIn K (.ref c_Message) "by_whom"=some none)
    (h521:W.findIn K (.ref c_Message) "branch"=some none)
    (h522:W.findIn K (.ref c_Message) "sequence_number"=some none)
    (h523:W.findIn K (.ref c_Message) "method"=some none)
    (h524:W.makesIn K c_End=true)
    (h525:W.keepIn K (.ref c_End)=true)
    (h526:W.plainGet K c_End Str.empty=true)
    (h527:W.hasDictIn K c_End=true)
    (h528:W.plainOver K c_End=true)
    (h529:W.findIn K (.ref c_End) "__setattr__"=some (some (.builtin "object.__setattr__")))
    (h530:W.findIn K (.ref c_End) "time"=some none)
    (h531:W.findIn K (.ref c_End) "begun"=some none)
    (h532:W.findIn K (.ref c_End) "transactions"=some none)
    (h533:W.makesIn K c_Reader=true)
    (h534:W.keepIn K (.ref c_Reader)=true)
    (h535:W.plainGet K c_Reader Str.empty=true)
    (h536:W.hasDictIn K c_Reader=true)
    (h537:W.plainOver K c_Reader=true)
    (h538:W.findIn K (.ref c_Reader) "__setattr__"=some (some (.builtin "object.__setattr__")))
    (h539:W.findIn K (.ref c_Reader) "calls"=some none)
    (h540:W.findIn K (.ref c_Reader) "place"=some none)
    (h541:W.specialIn K (.builtin "object.__class__") "__get__"=some (some (.builtin "getset_descriptor.__get__")))
    (h542:W.takesIn K (.builtin "object.__class__")=some true)
    (h543:W.kitOne K (.ref c_Asking) (.ref c_Asking)=some true)
    (h544:W.kitOne K (.ref c_Asking) (.ref c_Answering)=some false)
    (h545:W.kitOne K (.ref c_Answering) (.ref c_Asking)=some false)
    (h546:W.kitOne K (.ref c_Answering) (.ref c_Answering)=some true)
    (h547:W.specialIn K (.ref c_Transaction) "__getattribute__"=some (some (.builtin "type.__getattribute__")))
    (h548:W.readsIn K c_Transaction (.type "type")=true)
    (h549:W.findCls K (.ref c_Transaction) (.type "type") "__init__"=some (.val (.ref f32)))
    (h550:c_Asking≠c_Answering)
    (h551:c_Report≠c_Message)
    (h552:c_Asking≠c_Message)
    (h553:c_Answering≠c_Message)
    (h554:c_End≠c_Message)
    (h555:c_Reader≠c_Message)
    (h556:c_TooLong≠c_WrongMessage)
    (h557:c_TooLong≠c_WrongMoment)
    (h558:c_TooLong≠c_WrongTransaction)
    (h559:c_TooLong≠c_NoTransaction)
    (h560:c_WrongMessage≠c_WrongMoment)
    (h561:c_WrongMessage≠c_WrongTransaction)
    (h562:c_WrongMessage≠c_NoTransaction)
    (h563:c_WrongMoment≠c_WrongTransaction)
    (h564:c_WrongMoment≠c_NoTransaction)
    (h565:c_WrongTransaction≠c_NoTransaction)
    : ∃ fd:FuncData,(∀ (s:Shared) (v:Value),BindsTo s fd ⟨[v],[]⟩ [("calls",v)])∧∀ base:Heap,K.In base→base.Ns mainGlobals mg→FnOk P w K mg base CX0 13 fa fd ["calls"] (sp_law K):=by
  have e:=hfa.symm.trans (W.mg_of KX G h158)
  obtain rfl:f26=fa:=by
    injection e with e
    injection e with e
    exact e.symm
  have T:Txt K mg ⟨c_Report,c_Transaction,c_Answering,c_Asking,c_TooLong,c_WrongMessage,c_WrongMoment,c_WrongTransaction,c_NoTransaction,c_Message,c_End,c_Reader,a_ws,f1,_,f2,_,f3,_,f4,_,f5,_,f6,_,f7,_,f8,_,f9,_,f10,_,f11,_,f12,_,f13,_,f14,_,f15,_,f16,_,f17,_,f18,_,f19,_,f20,_,f21,_,f22,_,f23,_,f24,_,f25,_,f26,_,f27,_,f28,_,f29,_,f30,_,f31,_,f32,_,f33,_,f34,_,f35,_,f36,_,f37,_,f38,_,f39,_,f40,_,f41,_,f42,_,f43,_,f44,_,f45,_,f46,_,f47,_,f48,_,f49,_,f50,_,f51,_,f52,_,f53,_,f54,_,f55,_,f56,_,f57,_,f58,_,f59,_,f60,_,f61,_,f62,_,f63,_,f64,_,f65,_,f66,_,f67,_,f68,_,f69,_,f70,_,f71,_,f72,_,f73,_,f74,_,f75,_,f76,_,f77,_,f78,_,f79,_,f80,_,f81,_,f82,_,f83,_,f84,_,f85,_⟩:={
    b_len:=W.mg_none_of KX G h1,
    b_all:=W.mg_none_of KX G h2,
    b_ord:=W.mg_none_of KX G h3,
    b_min:=W.mg_none_of KX G h4,
    b_str:=W.mg_none_of KX G h5,
    b_isinstance:=W.mg_none_of KX G h6,
    b_range:=W.mg_none_of KX G h7,
    b_enumerate:=W.mg_none_of KX G h8,
    g_SENT:=⟨_,W.mg_of KX G h9⟩,
    g_TOLD:=⟨_,W.mg_of KX G h10⟩,
    g_LOST:=⟨_,W.mg_of KX G h11⟩,
    g_TRYING:=⟨_,W.mg_of KX G h12⟩,
    g_PROCEEDING:=⟨_,W.mg_of KX G h13⟩,
    g_COMPLETED:=⟨_,W.mg_of KX G h14⟩,
    g_CONFIRMED:=⟨_,W.mg_of KX G h15⟩,
    g_FIRST_WAIT:=⟨_,W.mg_of KX G h16⟩,
    g_LONGEST_WAIT:=⟨_,W.mg_of KX G h17⟩,
    g_LONG_END:=⟨_,W.mg_of KX G h18⟩,
    g_SHORT_END:=⟨_,W.mg_of KX G h19⟩,
    g_LINE_FEED:=⟨_,W.mg_of KX G h20⟩,
    g_CARRIAGE_RETURN:=⟨_,W.mg_of KX G h21⟩,
    g_BLANK:=⟨_,W.mg_of KX G h22⟩,
    g_COLON:=⟨_,W.mg_of KX G h23⟩,
    g_SEMICOLON:=⟨_,W.mg_of KX G h24⟩,
    g_ZERO:=⟨_,W.mg_of KX G h25⟩,
    g_NINE:=⟨_,W.mg_of KX G h26⟩,
    g_WORD_SIGNS:=W.mg_of KX G h27,
    sq_WORD_SIGNS:=⟨_,i_ws,n_ws,h28,h29,rfl,h30,h31⟩,
    g_MOST_OCTETS:=⟨_,W.mg_of KX G h32⟩,
    g_SEQUENCE_LIMIT:=⟨_,W.mg_of KX G h33⟩,
    g_MOST_TRANSACTIONS:=⟨_,W.mg_of KX G h34⟩,
    g_TIME_LIMIT:=⟨_,W.mg_of KX G h35⟩,
    g_TX_BEGIN:=⟨_,W.mg_of KX G h36⟩,
    g_TX_SEND:=⟨_,W.mg_of KX G h37⟩,
    g_TX_REPLY:=⟨_,W.mg_of KX G h38⟩,
    g_TX_RECEIVE:=⟨_,W.mg_of KX G h39⟩,
    g_TX_TICK:=⟨_,W.mg_of KX G h40⟩,
    g_Report:=W.mg_of KX G h41,
    g_Transaction:=W.mg_of KX G h42,
    g_Answering:=W.mg_of KX G h43,
    g_Asking:=W.mg_of KX G h44,
    g_TooLong:=W.mg_of KX G h45,
    g_WrongMessage:=W.mg_of KX G h46,
    g_WrongMoment:=W.mg_of KX G h47,
    g_WrongTransaction:=W.mg_of KX G h48,
    g_NoTransaction:=W.mg_of KX G h49,
    g_Message:=W.mg_of KX G h50,
    g_End:=W.mg_of KX G h51,
    g_Reader:=W.mg_of KX G h52,
    x_TooLong:=h53,
    x_WrongMessage:=h54,
    x_WrongMoment:=h55,
    x_WrongTransaction:=h56,
    x_NoTransaction:=h57,
    d_qcu:=mkFn KX G h58 h59 h60 h61,
    d_qcn:=mkFn KX G h62 h63 h64 h65,
    d_qco:=mkFn KX G h66 h67 h68 h69,
    d_qcs:=mkFn KX G h70 h71 h72 h73,
    d_qcr:=mkFn KX G h74 h75 h76 h77,
    d_qcq:=mkFn KX G h78 h79 h80 h81,
    d_qcp:=mkFn KX G h82 h83 h84 h85,
    d_qct:=mkFn KX G h86 h87 h88 h89,
    d_qcj:=mkFn KX G h90 h91 h92 h93,
    d_qdf:=mkFn KX G h94 h95 h96 h97,
    d_qcf:=mkFn KX G h98 h99 h100 h101,
    d_qda:=mkFn KX G h102 h103 h104 h105,
    d_qcm:=mkFn KX G h106 h107 h108 h109,
    d_qcz:=mkFn KX G h110 h111 h112 h113,
    d_qcy:=mkFn KX G h114 h115 h116 h117,
    d_qcx:=mkFn KX G h118 h119 h120 h121,
    d_qdg:=mkFn KX G h122 h123 h124 h125,
    d_qcl:=mkFn KX G h126 h127 h128 h129,
    d_qcv:=mkFn KX G h130 h131 h132 h133,
    d_qck:=mkFn KX G h134 h135 h136 h137,
    d_qdd:=mkFn KX G h138 h139 h140 h141,
    d_qdb:=mkFn KX G h142 h143 h144 h145,
    d_qdc:=mkFn KX G h146 h147 h148 h149,
    d_qde:=mkFn KX G h150 h151 h152 h153,
    d_qcw:=mkFn KX G h154 h155 h156 h157,
    d_qci:=mkFn KX G h158 h159 h160 h161,
    d_qch:=mkFn KX G h162 h163 h164 h165,
    d_qcg:=mkFn KX G h166 h167 h168 h169,
    d_qbr:=mkIn h171 h172 h173,
    d_qbp:=mkMt h175 h179 h176 h177 h178,
    d_qbq:=mkMt h180 h184 h181 h182 h183,
    d_qbu:=mkIn h186 h187 h188,
    d_qca:=mkTm h191 h192 h193,
    d_qcc:=mkTm h196 h197 h198,
    d_qcb:=mkTm h201 h202 h203,
    d_qcd:=mkTm h206 h207 h208,
    d_qbt:=mkTm h211 h212 h213,
    d_qbs:=mkTm h216 h217 h218,
    d_qbx:=mkTm h221 h222 h223,
    d_qby:=mkTm h226 h227 h228,
    d_qbz:=mkTm h231 h232 h233,
    d_qce:=mkTm h236 h237 h238,
    d_qbv:=mkTm h241 h242 h243,
    d_qbw:=mkTm h246 h247 h248,
    d_qac:=mkIn h251 h252 h253,
    d_qad:=mkMt h255 h259 h256 h257 h258,
    d_qab:=mkMt h260 h264 h261 h262 h263,
    d_qag:=mkMt h265 h269 h266 h267 h268,
    d_qaf:=mkMt h270 h274 h271 h272 h273,
    d_qae:=mkMt h275 h279 h276 h277 h278,
    d_qaj:=mkMt h280 h284 h281 h282 h283,
    d_qai:=mkMt h285 h289 h286 h287 h288,
    d_qah:=mkMt h290 h294 h291 h292 h293,
    d_qaa:=mkMt h295 h299 h296 h297 h298,
    d_qan:=mkIn h301 h302 h303,
    d_qal:=mkMt h305 h309 h306 h307 h308,
    d_qak:=mkMt h310 h314 h311 h312 h313,
    d_qap:=mkMt h315 h319 h316 h317 h318,
    d_qao:=mkMt h320 h324 h321 h322 h323,
    d_qas:=mkMt h325 h329 h326 h327 h328,
    d_qaq:=mkMt h330 h334 h331 h332 h333,
    d_qar:=mkMt h335 h339 h336 h337 h338,
    d_qam:=mkMt h340 h344 h341 h342 h343,
    d_qbj:=mkIn h346 h347 h348,
    d_qbk:=mkMt h350 h354 h351 h352 h353,
    d_qbi:=mkMt h355 h359 h356 h357 h358,
    d_qax:=mkIn h361 h362 h363,
    d_qbc:=mkMt h365 h369 h366 h367 h368,
    d_qbb:=mkMt h370 h374 h371 h372 h373,
    d_qba:=mkMt h375 h379 h376 h377 h378,
    d_qbh:=mkMt h380 h384 h381 h382 h383,
    d_qbd:=mkMt h385 h389 h386 h387 h388,
    d_qau:=mkMt h390 h394 h391 h392 h393,
    d_qat:=mkMt h395 h399 h396 h397 h398,
    d_qaw:=mkMt h400 h404 h401 h402 h403,
    d_qbe:=mkMt h405 h409 h406 h407 h408,
    d_qaz:=mkMt h410 h414 h411 h412 h413,
    d_qav:=mkMt h415 h419 h416 h417 h418,
    d_qay:=mkMt h420 h424 h421 h422 h423,
    d_qbf:=mkMt h425 h429 h426 h427 h428,
    d_qbg:=mkMt h430 h434 h431 h432 h433,
    d_qbm:=mkIn h436 h437 h438,
    d_qbl:=mkMt h440 h444 h441 h442 h443,
    d_qbo:=mkMt h445 h449 h446 h447 h448,
    d_qbn:=mkMt h450 h454 h451 h452 h453,
    mk_Report:=⟨h455,h170,h174,h456⟩,
    cl_Report:=⟨h457,h458,h459,h460⟩,
    n_Report_things:=h461,
    n_Report_numbers:=h462,
    mk_Answering:=⟨h463,h250,h254,h464⟩,
    tx_Answering:=⟨⟨h465,h466,h467,h468⟩,h477,h478,h469,h470,h471,h472,h473,h474,h475,h476,⟨h479,h194,h193⟩,⟨h480,h199,h198⟩,⟨h481,h204,h203⟩,⟨h482,h209,h208⟩,⟨h483,h214,h213⟩,⟨h484,h219,h218⟩,⟨h485,h224,h223⟩,⟨h486,h229,h228⟩,⟨h487,h234,h233⟩,⟨h488,h239,h238⟩,⟨h489,h244,h243⟩,⟨h490,h249,h248⟩⟩,
    mk_Asking:=⟨h491,h300,h304,h492⟩,
    tx_Asking:=⟨⟨h493,h494,h495,h496⟩,h505,h506,h497,h498,h499,h500,h501,h502,h503,h504,⟨h190,h194,h193⟩,⟨h195,h199,h198⟩,⟨h200,h204,h203⟩,⟨h205,h209,h208⟩,⟨h210,h214,h213⟩,⟨h215,h219,h218⟩,⟨h220,h224,h223⟩,⟨h225,h229,h228⟩,⟨h230,h234,h233⟩,⟨h235,h239,h238⟩,⟨h240,h244,h243⟩,⟨h245,h249,h248⟩⟩,
    mk_Message:=⟨h507,h345,h349,h508⟩,
    cl_Message:=⟨h509,h510,h511,h512⟩,
    n_Message_octets:=h513,
    n_Message_uri:=h514,
    n_Message_status:=h515,
    n_Message_via:=h516,
    n_Message_sender:=h517,
    n_Message_target:=h518,
    n_Message_call_name:=h519,
    n_Message_by_whom:=h520,
    n_Message_branch:=h521,
    n_Message_sequence_number:=h522,
    n_Message_method:=h523,
    mk_End:=⟨h524,h360,h364,h525⟩,
    cl_End:=⟨h526,h527,h528,h529⟩,
    n_End_time:=h530,
    n_End_begun:=h531,
    n_End_transactions:=h532,
    mk_Reader:=⟨h533,h435,h439,h534⟩,
    cl_Reader:=⟨h535,h536,h537,h538⟩,
    n_Reader_calls:=h539,
    n_Reader_place:=h540,
    hn:=h541,
    htk:=h542,
    i_Asking_Asking:=h543,
    i_Asking_Answering:=h544,
    i_Answering_Asking:=h545,
    i_Answering_Answering:=h546,
    c_Transaction_init:=⟨h547,h548,h549,h188⟩,
    ne_AA:=h550,
    nm_Report:=h551,
    nm_Asking:=h552,
    nm_Answering:=h553,
    nm_End:=h554,
    nm_Reader:=h555,
    ne_TooLong_WrongMessage:=h556,
    ne_TooLong_WrongMoment:=h557,
    ne_TooLong_WrongTransaction:=h558,
    ne_TooLong_NoTransaction:=h559,
    ne_WrongMessage_WrongMoment:=h560,
    ne_WrongMessage_WrongTransaction:=h561,
    ne_WrongMessage_NoTransaction:=h562,
    ne_WrongMoment_WrongTransaction:=h563,
    ne_WrongMoment_NoTransaction:=h564,
    ne_WrongTransaction_NoTransaction:=h565 }
  exact ⟨_,fun s v=>.of_eq rfl,fun base _ _=>ok_qci T⟩
end L2

open PySem PySem.W PyProof.Rows
set_option maxRecDepth 100000 in
set_option maxHeartbeats 0 in
theorem PySem.Challenge.cw_callsetup_s01_answers_holds : PySem.Challenge.rw_callsetup_s01_answers.Holds := by
  w_on; k_headS; (case hw=>exact ⟨[.list [.int 0]],by decide +kernel,by decide +kernel⟩)
  k_fillS
  refine L2.walk_spec (r:=PySem.Challenge.rw_callsetup_s01_answers) (k:=13) (sp:=L2.sp_law) (x:="calls") (Ask:=L2.AskN) (f:=PyQl47.answers) L2.row_pre (fun ns _ h=>L2.row_post ns h) rfl ⟨rfl,by decide,by decide⟩ (fun w h Y=>PySem.W.kIn_of Y) ?F (fun K H a ns hk _ hS=>L2.law_asked hk hS)
  case F =>
    intro w mg fa h KX G hmg
    refine' L2.all_mk KX G hmg ?h1 ?h2 ?h3 ?h4 ?h5 ?h6 ?h7 ?h8 ?h9 ?h10 ?h11 ?h12 ?h13 ?h14 ?h15 ?h16 ?h17 ?h18 ?h19 ?h20 ?h21 ?h22 ?h23 ?h24 ?h25 ?h26 ?h27 ?h28 ?h29 ?h30 ?h31 ?h32 ?h33 ?h34 ?h35 ?h36 ?h37 ?h38 ?h39 ?h40 ?h41 ?h42 ?h43 ?h44 ?h45 ?h46 ?h47 ?h48 ?h49 ?h50 ?h51 ?h52 ?h53 ?h54 ?h55 ?h56 ?h57 ?h58 ?h59 ?h60 ?h61 ?h62 ?h63 ?h64 ?h65 ?h66 ?h67 ?h68 ?h69 ?h70 ?h71 ?h72 ?h73 ?h74 ?h75 ?h76 ?h77 ?h78 ?h79 ?h80 ?h81 ?h82 ?h83 ?h84 ?h85 ?h86 ?h87 ?h88 ?h89 ?h90 ?h91 ?h92 ?h93 ?h94 ?h95 ?h96 ?h97 ?h98 ?h99 ?h100 ?h101 ?h102 ?h103 ?h104 ?h105 ?h106 ?h107 ?h108 ?h109 ?h110 ?h111 ?h112 ?h113 ?h114 ?h115 ?h116 ?h117 ?h118 ?h119 ?h120 ?h121 ?h122 ?h123 ?h124 ?h125 ?h126 ?h127 ?h128 ?h129 ?h130 ?h131 ?h132 ?h133 ?h134 ?h135 ?h136 ?h137 ?h138 ?h139 ?h140 ?h141 ?h142 ?h143 ?h144 ?h145 ?h146 ?h147 ?h148 ?h149 ?h150 ?h151 ?h152 ?h153 ?h154 ?h155 ?h156 ?h157 ?h158 ?h159 ?h160 ?h161 ?h162 ?h163 ?h164 ?h165 ?h166 ?h167 ?h168 ?h169 ?h170 ?h171 ?h172 ?h173 ?h174 ?h175 ?h176 ?h177 ?h178 ?h179 ?h180 ?h181 ?h182 ?h183 ?h184 ?h185 ?h186 ?h187 ?h188 ?h189 ?h190 ?h191 ?h192 ?h193 ?h194 ?h195 ?h196 ?h197 ?h198 ?h199 ?h200 ?h201 ?h202 ?h203 ?h204 ?h205 ?h206 ?h207 ?h208 ?h209 ?h210 ?h211 ?h212 ?h213 ?h214 ?h215 ?h216 ?h217 ?h218 ?h219 ?h220 ?h221 ?h222 ?h223 ?h224 ?h225 ?h226 ?h227 ?h228 ?h229 ?h230 ?h231 ?h232 ?h233 ?h234 ?h235 ?h236 ?h237 ?h238 ?h239 ?h240 ?h241 ?h242 ?h243 ?h244 ?h245 ?h246 ?h247 ?h248 ?h249 ?h250 ?h251 ?h252 ?h253 ?h254 ?h255 ?h256 ?h257 ?h258 ?h259 ?h260 ?h261 ?h262 ?h263 ?h264 ?h265 ?h266 ?h267 ?h268 ?h269 ?h270 ?h271 ?h272 ?h273 ?h274 ?h275 ?h276 ?h277 ?h278 ?h279 ?h280 ?h281 ?h282 ?h283 ?h284 ?h285 ?h286 ?h287 ?h288 ?h289 ?h290 ?h291 ?h292 ?h293 ?h294 ?h295 ?h296 ?h297 ?h298 ?h299 ?h300 ?h301 ?h302 ?h303 ?h304 ?h305 ?h306 ?h307 ?h308 ?h309 ?h310 ?h311 ?h312 ?h313 ?h314 ?h315 ?h316 ?h317 ?h318 ?h319 ?h320 ?h321 ?h322 ?h323 ?h324 ?h325 ?h326 ?h327 ?h328 ?h329 ?h330 ?h331 ?h332 ?h333 ?h334 ?h335 ?h336 ?h337 ?h338 ?h339 ?h340 ?h341 ?h342 ?h343 ?h344 ?h345 ?h346 ?h347 ?h348 ?h349 ?h350 ?h351 ?h352 ?h353 ?h354 ?h355 ?h356 ?h357 ?h358 ?h359 ?h360 ?h361 ?h362 ?h363 ?h364 ?h365 ?h366 ?h367 ?h368 ?h369 ?h370 ?h371 ?h372 ?h373 ?h374 ?h375 ?h376 ?h377 ?h378 ?h379 ?h380 ?h381 ?h382 ?h383 ?h384 ?h385 ?h386 ?h387 ?h388 ?h389 ?h390 ?h391 ?h392 ?h393 ?h394 ?h395 ?h396 ?h397 ?h398 ?h399 ?h400 ?h401 ?h402 ?h403 ?h404 ?h405 ?h406 ?h407 ?h408 ?h409 ?h410 ?h411 ?h412 ?h413 ?h414 ?h415 ?h416 ?h417 ?h418 ?h419 ?h420 ?h421 ?h422 ?h423 ?h424 ?h425 ?h426 ?h427 ?h428 ?h429 ?h430 ?h431 ?h432 ?h433 ?h434 ?h435 ?h436 ?h437 ?h438 ?h439 ?h440 ?h441 ?h442 ?h443 ?h444 ?h445 ?h446 ?h447 ?h448 ?h449 ?h450 ?h451 ?h452 ?h453 ?h454 ?h455 ?h456 ?h457 ?h458 ?h459 ?h460 ?h461 ?h462 ?h463 ?h464 ?h465 ?h466 ?h467 ?h468 ?h469 ?h470 ?h471 ?h472 ?h473 ?h474 ?h475 ?h476 ?h477 ?h478 ?h479 ?h480 ?h481 ?h482 ?h483 ?h484 ?h485 ?h486 ?h487 ?h488 ?h489 ?h490 ?h491 ?h492 ?h493 ?h494 ?h495 ?h496 ?h497 ?h498 ?h499 ?h500 ?h501 ?h502 ?h503 ?h504 ?h505 ?h506 ?h507 ?h508 ?h509 ?h510 ?h511 ?h512 ?h513 ?h514 ?h515 ?h516 ?h517 ?h518 ?h519 ?h520 ?h521 ?h522 ?h523 ?h524 ?h525 ?h526 ?h527 ?h528 ?h529 ?h530 ?h531 ?h532 ?h533 ?h534 ?h535 ?h536 ?h537 ?h538 ?h539 ?h540 ?h541 ?h542 ?h543 ?h544 ?h545 ?h546 ?h547 ?h548 ?h549 ?h550 ?h551 ?h552 ?h553 ?h554 ?h555 ?h556 ?h557 ?h558 ?h559 ?h560 ?h561 ?h562 ?h563 ?h564 ?h565
    (case h1=>k_is)
    (case h2=>k_is)
    (case h3=>k_is)
    (case h4=>k_is)
    (case h5=>k_is)
    (case h6=>k_is)
    (case h7=>k_is)
    (case h8=>k_is)
    (case h9=>k_is)
    (case h10=>k_is)
    (case h11=>k_is)
    (case h12=>k_is)
    (case h13=>k_is)
    (case h14=>k_is)
    (case h15=>k_is)
    (case h16=>k_is)
    (case h17=>k_is)
    (case h18=>k_is)
    (case h19=>k_is)
    (case h20=>k_is)
    (case h21=>k_is)
    (case h22=>k_is)
    (case h23=>k_is)
    (case h24=>k_is)
    (case h25=>k_is)
    (case h26=>k_is)
    (case h27=>k_is)
    (case h28=>k_is)
    (case h29=>rfl)
    (case h30=>decide)
    (case h31=>exact .cons ⟨_,rfl⟩ (.cons ⟨_,rfl⟩ (.cons ⟨_,rfl⟩ (.cons ⟨_,rfl⟩ (.cons ⟨_,rfl⟩ (.cons ⟨_,rfl⟩ (.cons ⟨_,rfl⟩ (.cons ⟨_,rfl⟩ (.cons ⟨_,rfl⟩ (.cons ⟨_,rfl⟩ (.nil)))))))))))
    (case h32=>k_is)
    (case h33=>k_is)
    (case h34=>k_is)
    (case h35=>k_is)
    (case h36=>k_is)
    (case h37=>k_is)
    (case h38=>k_is)
    (case h39=>k_is)
    (case h40=>k_is)
    (case h41=>k_is)
    (case h42=>k_is)
    (case h43=>k_is)
    (case h44=>k_is)
    (case h45=>k_is)
    (case h46=>k_is)
    (case h47=>k_is)
    (case h48=>k_is)
    (case h49=>k_is)
    (case h50=>k_is)
    (case h51=>k_is)
    (case h52=>k_is)
    (case h53=>kernel_rfl)
    (case h54=>kernel_rfl)
    (case h55=>kernel_rfl)
    (case h56=>kernel_rfl)
    (case h57=>kernel_rfl)
    (case h58=>k_is)
    (case h59=>k_is)
    (case h60=>k_is)
    (case h61=>k_is)
    (case h62=>k_is)
    (case h63=>k_is)
    (case h64=>k_is)
    (case h65=>k_is)
    (case h66=>k_is)
    (case h67=>k_is)
    (case h68=>k_is)
    (case h69=>k_is)
    (case h70=>k_is)
    (case h71=>k_is)
    (case h72=>k_is)
    (case h73=>k_is)
    (case h74=>k_is)
    (case h75=>k_is)
    (case h76=>k_is)
    (case h77=>k_is)
    (case h78=>k_is)
    (case h79=>k_is)
    (case h80=>k_is)
    (case h81=>k_is)
    (case h82=>k_is)
    (case h83=>k_is)
    (case h84=>k_is)
    (case h85=>k_is)
    (case h86=>k_is)
    (case h87=>k_is)
    (case h88=>k_is)
    (case h89=>k_is)
    (case h90=>k_is)
    (case h91=>k_is)
    (case h92=>k_is)
    (case h93=>k_is)
    (case h94=>k_is)
    (case h95=>k_is)
    (case h96=>k_is)
    (case h97=>k_is)
    (case h98=>k_is)
    (case h99=>k_is)
    (case h100=>k_is)
    (case h101=>k_is)
    (case h102=>k_is)
    (case h103=>k_is)
    (case h104=>k_is)
    (case h105=>k_is)
    (case h106=>k_is)
    (case h107=>k_is)
    (case h108=>k_is)
    (case h109=>k_is)
    (case h110=>k_is)
    (case h111=>k_is)
    (case h112=>k_is)
    (case h113=>k_is)
    (case h114=>k_is)
    (case h115=>k_is)
    (case h116=>k_is)
    (case h117=>k_is)
    (case h118=>k_is)
    (case h119=>k_is)
    (case h120=>k_is)
    (case h121=>k_is)
    (case h122=>k_is)
    (case h123=>k_is)
    (case h124=>k_is)
    (case h125=>k_is)
    (case h126=>k_is)
    (case h127=>k_is)
    (case h128=>k_is)
    (case h129=>k_is)
    (case h130=>k_is)
    (case h131=>k_is)
    (case h132=>k_is)
    (case h133=>k_is)
    (case h134=>k_is)
    (case h135=>k_is)
    (case h136=>k_is)
    (case h137=>k_is)
    (case h138=>k_is)
    (case h139=>k_is)
    (case h140=>k_is)
    (case h141=>k_is)
    (case h142=>k_is)
    (case h143=>k_is)
    (case h144=>k_is)
    (case h145=>k_is)
    (case h146=>k_is)
    (case h147=>k_is)
    (case h148=>k_is)
    (case h149=>k_is)
    (case h150=>k_is)
    (case h151=>k_is)
    (case h152=>k_is)
    (case h153=>k_is)
    (case h154=>k_is)
    (case h155=>k_is)
    (case h156=>k_is)
    (case h157=>k_is)
    (case h158=>k_is)
    (case h159=>k_is)
    (case h160=>k_is)
    (case h161=>k_is)
    (case h162=>k_is)
    (case h163=>k_is)
    (case h164=>k_is)
    (case h165=>k_is)
    (case h166=>k_is)
    (case h167=>k_is)
    (case h168=>k_is)
    (case h169=>k_is)
    (case h170=>k_is)
    (case h171=>k_is)
    (case h172=>k_is)
    (case h173=>k_is)
    (case h174=>k_is)
    (case h175=>k_is)
    (case h176=>k_is)
    (case h177=>k_is)
    (case h178=>k_is)
    (case h179=>k_is)
    (case h180=>k_is)
    (case h181=>k_is)
    (case h182=>k_is)
    (case h183=>k_is)
    (case h184=>k_is)
    (case h185=>k_is)
    (case h186=>k_is)
    (case h187=>k_is)
    (case h188=>k_is)
    (case h189=>k_is)
    (case h190=>k_is)
    (case h191=>k_is)
    (case h192=>k_is)
    (case h193=>k_is)
    (case h194=>k_is)
    (case h195=>k_is)
    (case h196=>k_is)
    (case h197=>k_is)
    (case h198=>k_is)
    (case h199=>k_is)
    (case h200=>k_is)
    (case h201=>k_is)
    (case h202=>k_is)
    (case h203=>k_is)
    (case h204=>k_is)
    (case h205=>k_is)
    (case h206=>k_is)
    (case h207=>k_is)
    (case h208=>k_is)
    (case h209=>k_is)
    (case h210=>k_is)
    (case h211=>k_is)
    (case h212=>k_is)
    (case h213=>k_is)
    (case h214=>k_is)
    (case h215=>k_is)
    (case h216=>k_is)
    (case h217=>k_is)
    (case h218=>k_is)
    (case h219=>k_is)
    (case h220=>k_is)
    (case h221=>k_is)
    (case h222=>k_is)
    (case h223=>k_is)
    (case h224=>k_is)
    (case h225=>k_is)
    (case h226=>k_is)
    (case h227=>k_is)
    (case h228=>k_is)
    (case h229=>k_is)
    (case h230=>k_is)
    (case h231=>k_is)
    (case h232=>k_is)
    (case h233=>k_is)
    (case h234=>k_is)
    (case h235=>k_is)
    (case h236=>k_is)
    (case h237=>k_is)
    (case h238=>k_is)
    (case h239=>k_is)
    (case h240=>k_is)
    (case h241=>k_is)
    (case h242=>k_is)
    (case h243=>k_is)
    (case h244=>k_is)
    (case h245=>k_is)
    (case h246=>k_is)
    (case h247=>k_is)
    (case h248=>k_is)
    (case h249=>k_is)
    (case h250=>k_is)
    (case h251=>k_is)
    (case h252=>k_is)
    (case h253=>k_is)
    (case h254=>k_is)
    (case h255=>k_is)
    (case h256=>k_is)
    (case h257=>k_is)
    (case h258=>k_is)
    (case h259=>k_is)
    (case h260=>k_is)
    (case h261=>k_is)
    (case h262=>k_is)
    (case h263=>k_is)
    (case h264=>k_is)
    (case h265=>k_is)
    (case h266=>k_is)
    (case h267=>k_is)
    (case h268=>k_is)
    (case h269=>k_is)
    (case h270=>k_is)
    (case h271=>k_is)
    (case h272=>k_is)
    (case h273=>k_is)
    (case h274=>k_is)
    (case h275=>k_is)
    (case h276=>k_is)
    (case h277=>k_is)
    (case h278=>k_is)
    (case h279=>k_is)
    (case h280=>k_is)
    (case h281=>k_is)
    (case h282=>k_is)
    (case h283=>k_is)
    (case h284=>k_is)
    (case h285=>k_is)
    (case h286=>k_is)
    (case h287=>k_is)
    (case h288=>k_is)
    (case h289=>k_is)
    (case h290=>k_is)
    (case h291=>k_is)
    (case h292=>k_is)
    (case h293=>k_is)
    (case h294=>k_is)
    (case h295=>k_is)
    (case h296=>k_is)
    (case h297=>k_is)
    (case h298=>k_is)
    (case h299=>k_is)
    (case h300=>k_is)
    (case h301=>k_is)
    (case h302=>k_is)
    (case h303=>k_is)
    (case h304=>k_is)
    (case h305=>k_is)
    (case h306=>k_is)
    (case h307=>k_is)
    (case h308=>k_is)
    (case h309=>k_is)
    (case h310=>k_is)
    (case h311=>k_is)
    (case h312=>k_is)
    (case h313=>k_is)
    (case h314=>k_is)
    (case h315=>k_is)
    (case h316=>k_is)
    (case h317=>k_is)
    (case h318=>k_is)
    (case h319=>k_is)
    (case h320=>k_is)
    (case h321=>k_is)
    (case h322=>k_is)
    (case h323=>k_is)
    (case h324=>k_is)
    (case h325=>k_is)
    (case h326=>k_is)
    (case h327=>k_is)
    (case h328=>k_is)
    (case h329=>k_is)
    (case h330=>k_is)
    (case h331=>k_is)
    (case h332=>k_is)
    (case h333=>k_is)
    (case h334=>k_is)
    (case h335=>k_is)
    (case h336=>k_is)
    (case h337=>k_is)
    (case h338=>k_is)
    (case h339=>k_is)
    (case h340=>k_is)
    (case h341=>k_is)
    (case h342=>k_is)
    (case h343=>k_is)
    (case h344=>k_is)
    (case h345=>k_is)
    (case h346=>k_is)
    (case h347=>k_is)
    (case h348=>k_is)
    (case h349=>k_is)
    (case h350=>k_is)
    (case h351=>k_is)
    (case h352=>k_is)
    (case h353=>k_is)
    (case h354=>k_is)
    (case h355=>k_is)
    (case h356=>k_is)
    (case h357=>k_is)
    (case h358=>k_is)
    (case h359=>k_is)
    (case h360=>k_is)
    (case h361=>k_is)
    (case h362=>k_is)
    (case h363=>k_is)
    (case h364=>k_is)
    (case h365=>k_is)
    (case h366=>k_is)
    (case h367=>k_is)
    (case h368=>k_is)
    (case h369=>k_is)
    (case h370=>k_is)
    (case h371=>k_is)
    (case h372=>k_is)
    (case h373=>k_is)
    (case h374=>k_is)
    (case h375=>k_is)
    (case h376=>k_is)
    (case h377=>k_is)
    (case h378=>k_is)
    (case h379=>k_is)
    (case h380=>k_is)
    (case h381=>k_is)
    (case h382=>k_is)
    (case h383=>k_is)
    (case h384=>k_is)
    (case h385=>k_is)
    (case h386=>k_is)
    (case h387=>k_is)
    (case h388=>k_is)
    (case h389=>k_is)
    (case h390=>k_is)
    (case h391=>k_is)
    (case h392=>k_is)
    (case h393=>k_is)
    (case h394=>k_is)
    (case h395=>k_is)
    (case h396=>k_is)
    (case h397=>k_is)
    (case h398=>k_is)
    (case h399=>k_is)
    (case h400=>k_is)
    (case h401=>k_is)
    (case h402=>k_is)
    (case h403=>k_is)
    (case h404=>k_is)
    (case h405=>k_is)
    (case h406=>k_is)
    (case h407=>k_is)
    (case h408=>k_is)
    (case h409=>k_is)
    (case h410=>k_is)
    (case h411=>k_is)
    (case h412=>k_is)
    (case h413=>k_is)
    (case h414=>k_is)
    (case h415=>k_is)
    (case h416=>k_is)
    (case h417=>k_is)
    (case h418=>k_is)
    (case h419=>k_is)
    (case h420=>k_is)
    (case h421=>k_is)
    (case h422=>k_is)
    (case h423=>k_is)
    (case h424=>k_is)
    (case h425=>k_is)
    (case h426=>k_is)
    (case h427=>k_is)
    (case h428=>k_is)
    (case h429=>k_is)
    (case h430=>k_is)
    (case h431=>k_is)
    (case h432=>k_is)
    (case h433=>k_is)
    (case h434=>k_is)
    (case h435=>k_is)
    (case h436=>k_is)
    (case h437=>k_is)
    (case h438=>k_is)
    (case h439=>k_is)
    (case h440=>k_is)
    (case h441=>k_is)
    (case h442=>k_is)
    (case h443=>k_is)
    (case h444=>k_is)
    (case h445=>k_is)
    (case h446=>k_is)
    (case h447=>k_is)
    (case h448=>k_is)
    (case h449=>k_is)
    (case h450=>k_is)
    (case h451=>k_is)
    (case h452=>k_is)
    (case h453=>k_is)
    (case h454=>k_is)
    (case h455=>k_is)
    (case h456=>k_is)
    (case h457=>k_is)
    (case h458=>k_is)
    (case h459=>k_is)
    (case h460=>k_is)
    (case h461=>k_is)
    (case h462=>k_is)
    (case h463=>k_is)
    (case h464=>k_is)
    (case h465=>k_is)
    (case h466=>k_is)
    (case h467=>k_is)
    (case h468=>k_is)
    (case h469=>k_is)
    (case h470=>k_is)
    (case h471=>k_is)
    (case h472=>k_is)
    (case h473=>k_is)
    (case h474=>k_is)
    (case h475=>k_is)
    (case h476=>k_is)
    (case h477=>k_is)
    (case h478=>k_is)
    (case h479=>k_is)
    (case h480=>k_is)
    (case h481=>k_is)
    (case h482=>k_is)
    (case h483=>k_is)
    (case h484=>k_is)
    (case h485=>k_is)
    (case h486=>k_is)
    (case h487=>k_is)
    (case h488=>k_is)
    (case h489=>k_is)
    (case h490=>k_is)
    (case h491=>k_is)
    (case h492=>k_is)
    (case h493=>k_is)
    (case h494=>k_is)
    (case h495=>k_is)
    (case h496=>k_is)
    (case h497=>k_is)
    (case h498=>k_is)
    (case h499=>k_is)
    (case h500=>k_is)
    (case h501=>k_is)
    (case h502=>k_is)
    (case h503=>k_is)
    (case h504=>k_is)
    (case h505=>k_is)
    (case h506=>k_is)
    (case h507=>k_is)
    (case h508=>k_is)
    (case h509=>k_is)
    (case h510=>k_is)
    (case h511=>k_is)
    (case h512=>k_is)
    (case h513=>k_is)
    (case h514=>k_is)
    (case h515=>k_is)
    (case h516=>k_is)
    (case h517=>k_is)
    (case h518=>k_is)
    (case h519=>k_is)
    (case h520=>k_is)
    (case h521=>k_is)
    (case h522=>k_is)
    (case h523=>k_is)
    (case h524=>k_is)
    (case h525=>k_is)
    (case h526=>k_is)
    (case h527=>k_is)
    (case h528=>k_is)
    (case h529=>k_is)
    (case h530=>k_is)
    (case h531=>k_is)
    (case h532=>k_is)
    (case h533=>k_is)
    (case h534=>k_is)
    (case h535=>k_is)
    (case h536=>k_is)
    (case h537=>k_is)
    (case h538=>k_is)
    (case h539=>k_is)
    (case h540=>k_is)
    (case h541=>k_is)
    (case h542=>k_is)
    (case h543=>kernel_rfl)
    (case h544=>kernel_rfl)
    (case h545=>kernel_rfl)
    (case h546=>kernel_rfl)
    (case h547=>k_is)
    (case h548=>k_is)
    (case h549=>k_is)
    (case h550=>decide)
    (case h551=>decide)
    (case h552=>decide)
    (case h553=>decide)
    (case h554=>decide)
    (case h555=>decide)
    (case h556=>decide)
    (case h557=>decide)
    (case h558=>decide)
    (case h559=>decide)
    (case h560=>decide)
    (case h561=>decide)
    (case h562=>decide)
    (case h563=>decide)
    (case h564=>decide)
    (case h565=>decide)
