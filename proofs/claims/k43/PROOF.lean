import PyProof.Rows.All
import Wide.All
import OpenK.AllK
import Wide.FinOn
import KE.KStateDown
import HandS.ForMost
import HandS.Codes
import HandS.IsInst
import HandS.WideBits
import HandS.TupAny
import HandS.Walk
import HandS.Deep
import HandS.CallLocal
import HandS.Strs
import HandS.Zip
import HandS.More
import HandS.Star
import HandS.DictComp
import HandS.Defaults
import HandS.Words
import HandS.Text
import HandS.TupMul
import HandS.Rev
import HandS.RevTup
import PyProof.ListStr
import HandS.Flow
import HandS.Head0
import HandS.Head1
import HandS.Head2
import HandS.HeadEnd
import HandS.HeadHook1
import HandS.HeadHook2
import HandS.HeadHook3
import HandS.Style
import HandS.Iter
import KE.KDictKeyed
import KE.KeyNested
import PySem.Challenge.RW_nobodyspeaks_k43_nodes_lie_within_nodes
set_option Elab.async false
set_option linter.all false
set_option maxRecDepth 100000
set_option maxHeartbeats 4000000
namespace My
open PySem PySem.Spec PyProof.Rows L2
def bK (i:Nat):Stmt:=PySem.Challenge.pw_nobodyspeaks_k43_nodes_lie_within_nodes.main.body.getD i (.Pass ⟨0,0,0,0⟩)
abbrev aY:Stmt:=bK 3
abbrev aG:Stmt:=bK 5
abbrev dg:Stmt:=bK 4
abbrev bd:Stmt:=bK 1
abbrev au:Stmt:=bK 2
abbrev bx:Stmt:=bK 7
abbrev aV:Stmt:=bK 8
abbrev bw:Stmt:=bK 9
abbrev bC:Stmt:=bK 10
abbrev bp:Stmt:=bK 11
abbrev aW:Stmt:=bK 12
abbrev aN:Stmt:=bK 13
abbrev bg:Stmt:=bK 14
abbrev a5:Stmt:=bK 15
abbrev cy:Stmt:=bK 16
end My
namespace Hx
open PySem PySem.Spec PyProof.Rows L2 He
abbrev AlX:Type:=AlT × List Bool
def dW (fa:List Fa) (fn:List DefD) (ts:List Tab) (bs:List (PySem.W.Frag->Bool)) (K:PySem.W.Frag):AlX:=(obsT fa fn ts K,bs.map fun b=>b K)
def kD (fn:List DefD) (ts:List Tab) (bs:List (PySem.W.Frag->Bool)) (w:World):AlX:=(valT fn ts w,bs.map fun _=>true)
def addC {α:Type}:List Value->List Addr->(List Addr->α)->α
 |[],acc,k=>k acc
 |v::r,acc,k=>match v with
  |.ref b=>HandSHeadRun.frNat b fun b=>addC r (b::acc) k
  |_=>addC r acc k
theorem dw{α:Type}:∀(l:List Value) (acc:List Addr) (k:List Addr->α),∃ as,addC l acc k=k as
 |[],acc,k=>⟨acc,rfl⟩
 |v::r,acc,k=>by
  cases v with
  |ref b =>
   obtain⟨as,e⟩:=dw r (b::acc) k
   exact⟨as,(HandSHeadRun.frNat_eq b fun b=>addC r (b::acc) k).trans e⟩
  |_=>exact dw r acc k
def walkC {α:Type}(f:Addr->List Value):List Addr->List Addr->(List Addr->α)->α
 |[],acc,k=>k acc
 |a::r,acc,k=>addC (f a) acc fun acc=>walkC f r acc k
theorem bf{α:Type}(f:Addr->List Value):∀(l acc:List Addr) (k:List Addr->α),∃ as,walkC f l acc k=k as
 |[],acc,k=>⟨acc,rfl⟩
 |a::r,acc,k=>by
  obtain⟨as,e⟩:=dw (f a) acc fun acc=>walkC f r acc k
  obtain⟨bs,e2⟩:=bf f r as k
  exact⟨bs,e.trans e2⟩
def br {α:Type}(g:Addr->Option Obj):List Addr->PySem.W.Frag->(PySem.W.Frag->α)->α
 |[],acc,k=>k acc
 |a::r,acc,k=>match g a with
  |some ⟨c,d,dt,sl⟩=>br g r ((a,⟨c,d,dt,sl⟩)::acc) k
  |none=>br g r acc k
theorem c8{α:Type}{g:Addr->Option Obj}:∀(l:List Addr) (acc:PySem.W.Frag) (k:PySem.W.Frag->α),(∀ a o,acc.lookup a=some o->g a=some o)->∃ K:PySem.W.Frag,(∀ a o,K.lookup a=some o->g a=some o)/\br g l acc k=k K
 |[],acc,k,h=>⟨acc,h,rfl⟩
 |a::r,acc,k,h=>by
  cases q:g a with
  |none =>
   obtain⟨K,h1,h2⟩:=c8 r acc k h
   refine⟨K,h1,?_⟩
   unfold br
   rw[q]
   exact h2
  |some o =>
   obtain⟨c,d,dt,sl⟩:=o
   obtain⟨K,h1,h2⟩:=c8 r ((a,⟨c,d,dt,sl⟩)::acc) k fun b o e=>by
    have e2:(match b == a with | true=>some (⟨c,d,dt,sl⟩:Obj) | false=>acc.lookup b)=some o:=e
    cases y:b == a with
    |true =>
     rw[y] at e2
     have eb:b=a:=beq_iff_eq.mp y
     rw[eb]
     exact q.trans e2
    |false =>
     rw[y] at e2
     exact h b o e2
   refine⟨K,h1,?_⟩
   unfold br
   rw[q]
   exact h2
def jn (n:Nat) (g:Addr->Option Obj) (a:Addr):List Value:=match g a with
 |some ⟨_,_,.dict es _,_⟩=>(es.toList.drop n).map fun e=>e.val
 |_=>[]
def dQ (g:Addr->Option Obj) (a:Addr):List Value:=match g a with
 |some ⟨_,_,.func fd,_⟩=>[fd.code]
 |some ⟨_,_,.cls cd,_⟩=>[.ref cd.ns]
 |_=>[]
def nsH (g:Addr->Option Obj) (a:Addr):List Value:=match g a with
 |some ⟨_,_,.dict es _,_⟩=>es.toList.map fun e=>e.val
 |_=>[]
def obsXG (n:Nat) (fa:List Fa) (fn:List DefD) (ts:List Tab) (bs:List (PySem.W.Frag->Bool)) (g:Addr->Option Obj):AlX :=
 walkC (jn n g) [mainGlobals] [] fun l1=>walkC (dQ g) l1 [] fun l2=>walkC (nsH g) l2 [] fun l3=>walkC (dQ g) l3 [] fun l4=>walkC (nsH g) l1 [] fun l5=>br g (l5++(l4++(l3++(l2++(l1++[mainGlobals]))))) [] (dW fa fn ts bs)
theorem hO(n:Nat) (fa:List Fa) (fn:List DefD) (ts:List Tab) (bs:List (PySem.W.Frag->Bool)) (g:Addr->Option Obj):∃ K:PySem.W.Frag,(∀ a o,K.lookup a=some o->g a=some o)/\obsXG n fa fn ts bs g=dW fa fn ts bs K:=by
 unfold obsXG
 obtain⟨l1,e1⟩:=bf (jn n g) [mainGlobals] [] fun l1=>walkC (dQ g) l1 [] fun l2=>walkC (nsH g) l2 [] fun l3=>walkC (dQ g) l3 [] fun l4=>walkC (nsH g) l1 [] fun l5=>br g (l5++(l4++(l3++(l2++(l1++[mainGlobals]))))) [] (dW fa fn ts bs)
 rw[e1]
 obtain⟨l2,e2⟩:=bf (dQ g) l1 [] fun l2=>walkC (nsH g) l2 [] fun l3=>walkC (dQ g) l3 [] fun l4=>walkC (nsH g) l1 [] fun l5=>br g (l5++(l4++(l3++(l2++(l1++[mainGlobals]))))) [] (dW fa fn ts bs)
 rw[e2]
 obtain⟨l3,e3⟩:=bf (nsH g) l2 [] fun l3=>walkC (dQ g) l3 [] fun l4=>walkC (nsH g) l1 [] fun l5=>br g (l5++(l4++(l3++(l2++(l1++[mainGlobals]))))) [] (dW fa fn ts bs)
 rw[e3]
 obtain⟨l4,e4⟩:=bf (dQ g) l3 [] fun l4=>walkC (nsH g) l1 [] fun l5=>br g (l5++(l4++(l3++(l2++(l1++[mainGlobals]))))) [] (dW fa fn ts bs)
 rw[e4]
 obtain⟨l5,e5⟩:=bf (nsH g) l1 [] fun l5=>br g (l5++(l4++(l3++(l2++(l1++[mainGlobals]))))) [] (dW fa fn ts bs)
 rw[e5]
 exact c8 _ [] _ fun a o h=>nomatch h
def SaysX (fa:List Fa) (fn:List DefD) (ts:List Tab) (bs:List (PySem.W.Frag->Bool)) (w:World) (K:PySem.W.Frag):Prop:=dW fa fn ts bs K=kD fn ts bs w
def hookX (n:Nat) (fa:List Fa) (fn:List DefD) (ts:List Tab) (bs:List (PySem.W.Frag->Bool)):PySem.W.Hook where
 α:=AlX
 obs:=fun s=>obsXG n fa fn ts bs s.heap.get?
 val:=fun w=>kD fn ts bs w
 says:=fun w h=>∃ K:PySem.W.Frag,K.In h/\SaysX fa fn ts bs w K
 of:=fun _ s e=>by
  obtain⟨K,h,e2⟩:=hO n fa fn ts bs s.heap.get?
  exact⟨K,h,e2.symm.trans e⟩
 keeps:=fun _ _ _ ⟨K,hK,c⟩ k=>⟨K,PySem.W.Frag.In.keeps hK k,c⟩
theorem obsXG_eq{n:Nat}{fa:List Fa}{fn:List DefD}{ts:List Tab}{bs:List (PySem.W.Frag->Bool)}{g:Addr->Option Obj}{s:Shared}(h:∀ a,g a=s.heap.get? a):obsXG n fa fn ts bs g=(hookX n fa fn ts bs).obs s:=by
 have e:g=s.heap.get?:=funext h
 rw[e] <;> rfl
theorem run2{r:PySem.W.OpenRow}{q:Program}{H:PySem.W.Hook}{ob:PySem.W.SharedT->H.α}{M:Nat}{loose:List Str}{w:World}
  (h1:∀ os:OsState,(HandSHeadRun.endF (HandSHeadRun.stepQ (HandSHeadRun.denQ HandSHeadRun.tabQ) r.prog w) M r.prog w os).map (fun s=>(HandSHeadRun.looksF r.prog (PySem.W.boot_heap w.params) s.abs,HandSHeadRun.seenQ q loose (importedModules r.prog.main.body) (fun s=>PySem.W.xlAt q [] s && PySem.W.recOk r.toRowW.records s) s.abs))=some (true,PySem.W.openGood q loose))
  (h3:∀ os:OsState,(HandSHeadRun.endF (HandSHeadRun.stepQ (HandSHeadRun.denQ HandSHeadRun.tabQ) r.prog w) M r.prog w os).map ob=some (H.val w)):HandSHeadRun.RunEq r q H ob M loose w:=fun os=>by
 obtain⟨s,e,e1⟩:=Option.map_eq_some_iff.mp (h1 os)
 have e3:=h3 os
 rw[e] at e3 ⊢
 have e3:=Option.some.inj e3
 exact congrArg some (Prod.ext (congrArg (fun z=>z.1) e1) (Prod.ext (congrArg (fun z=>z.2) e1) e3))
section
variable {fa:List Fa}{fn:List DefD}{ts:List Tab}{bs:List (PySem.W.Frag->Bool)}{w:World}{K:PySem.W.Frag}{mg:Str->Option Value}
theorem SaysX.t(c:SaysX fa fn ts bs w K):SaysT fa fn ts w K:=congrArg (fun z:AlX=>z.1) c
theorem SaysX.b(c:SaysX fa fn ts bs w K) (i:Nat) {b:PySem.W.Frag->Bool}(h:bs[i]?=some b:=by rfl):b K=true:=by
 have e:(bs.map fun b=>b K)=bs.map fun _=>true:=congrArg (fun z:AlX=>z.2) c
 have e2:(bs.map fun b=>b K)[i]?=(bs.map fun _=>true)[i]?:=by rw[e]
 rw[List.getElem?_map,List.getElem?_map,h] at e2
 exact Option.some.inj e2
end
end Hx
namespace My
open PySem PySem.Spec PyProof.Rows L2
def iK:List Str:=["node_of","lies_within","_is_fewer","_put","_with_more","_law_cell","_law_source","_law_pick","_law_node","_law_task","_law_ground","_law_changed","_law_often","_law_within"]
def hloose:List Str:=iK
def cx:He.DefD:=⟨("_is_fewer",none),"_is_fewer","_is_fewer",defArgs aY,defBody aY,defScope aY,[],[]⟩
def bT:He.DefD:=⟨("_with_more",none),"_with_more","_with_more",defArgs aG,defBody aG,defScope aG,[],[]⟩
def gL:He.DefD:=⟨("_put",none),"_put","_put",defArgs dg,defBody dg,defScope dg,[],[]⟩
def cV:He.DefD:=⟨("node_of",none),"node_of","node_of",defArgs bd,defBody bd,defScope bd,[],[]⟩
def bz:He.DefD:=⟨("lies_within",none),"lies_within","lies_within",defArgs au,defBody au,defScope au,[],[]⟩
def de:He.DefD:=⟨("_law_cell",none),"_law_cell","_law_cell",defArgs bx,defBody bx,defScope bx,[],[]⟩
def cD:He.DefD:=⟨("_law_source",none),"_law_source","_law_source",defArgs aV,defBody aV,defScope aV,[],[]⟩
def dc:He.DefD:=⟨("_law_pick",none),"_law_pick","_law_pick",defArgs bw,defBody bw,defScope bw,[],[]⟩
def di:He.DefD:=⟨("_law_node",none),"_law_node","_law_node",defArgs bC,defBody bC,defScope bC,[],[]⟩
def dm:He.DefD:=⟨("_law_task",none),"_law_task","_law_task",defArgs bp,defBody bp,defScope bp,[],[]⟩
def cz:He.DefD:=⟨("_law_ground",none),"_law_ground","_law_ground",defArgs aW,defBody aW,defScope aW,[],[]⟩
def bQ:He.DefD:=⟨("_law_changed",none),"_law_changed","_law_changed",defArgs aN,defBody aN,defScope aN,[],[]⟩
def cO:He.DefD:=⟨("_law_often",none),"_law_often","_law_often",defArgs bg,defBody bg,defScope bg,[],[]⟩
def cB:He.DefD:=⟨("_law_within",none),"_law_within","_law_within",defArgs a5,defBody a5,defScope a5,[],[]⟩
def gh:He.DefD:=⟨("law",none),"law","law",defArgs cy,defBody cy,defScope cy,[],[]⟩
def k0:List He.Fa:=[.free "tuple",.free "all",.free "len",.free "int",.free "range",.free "list",.free "isinstance",.free "bool",.glo "_is_fewer",.glo "_with_more",.glo "_put",.glo "node_of",.glo "lies_within",.glo "_law_cell",.glo "_law_source",.glo "_law_pick"]
def k7:List He.Fa:=[.glo "_law_node",.glo "_law_task",.glo "_law_ground",.glo "_law_changed",.glo "_law_often",.glo "_law_within",.glo "law"]
def hfa:List He.Fa:=k0++k7
def la:List He.DefD:=[cx,bT,gL,cV,bz,de,cD,dc,di,dm,cz,bQ,cO,cB,gh]
def hfn:List He.DefD:=la
def kY:List (PySem.W.Frag->Bool):=[]
def hbs:List (PySem.W.Frag->Bool):=kY
def k9:List He.Tab:=[]
def hts:List He.Tab:=k9
abbrev hR:PySem.W.OpenRow:=PySem.W.OpenLaw.row PySem.Challenge.rw_nobodyspeaks_k43_nodes_lie_within_nodes
abbrev hQ:Program:=PySem.W.view hR.prog [16]
abbrev hH:PySem.W.Hook:=Hx.hookX 6 hfa hfn hts hbs
def hob (s:PySem.W.SharedT):Hx.AlX:=Hx.obsXG 6 hfa hfn hts hbs (HandSHeadRun.getT s)
theorem hob_eq(s:PySem.W.SharedT):hob s=hH.obs s.abs:=Hx.obsXG_eq (HandSHeadRun.getT_eq s)
set_option maxHeartbeats 0 in
theorem jE(w:World) (os:OsState):(HandSHeadRun.endF (HandSHeadRun.stepQ (HandSHeadRun.denQ HandSHeadRun.tabQ) hR.prog (w.withFollow "special-get-raises" false)) 9000 hR.prog (w.withFollow "special-get-raises" false) os).map (fun s=>(HandSHeadRun.looksF hR.prog (PySem.W.boot_heap (w.withFollow "special-get-raises" false).params) s.abs,HandSHeadRun.seenQ hQ hloose (importedModules hR.prog.main.body) (fun s=>PySem.W.xlAt hQ [] s && PySem.W.recOk hR.toRowW.records s) s.abs))=some (true,PySem.W.openGood hQ hloose):=by
 kernel_rfl
set_option maxHeartbeats 0 in
theorem j0(w:World) (os:OsState):(HandSHeadRun.endF (HandSHeadRun.stepQ (HandSHeadRun.denQ HandSHeadRun.tabQ) hR.prog (w.withFollow "special-get-raises" false)) 9000 hR.prog (w.withFollow "special-get-raises" false) os).map hob=some (hH.val (w.withFollow "special-get-raises" false)):=by
 kernel_rfl
set_option maxHeartbeats 0 in
theorem kb(w:World) (os:OsState):(HandSHeadRun.endF (HandSHeadRun.stepQ (HandSHeadRun.denQ HandSHeadRun.tabQ) hR.prog (w.withFollow "special-get-raises" true)) 9000 hR.prog (w.withFollow "special-get-raises" true) os).map (fun s=>(HandSHeadRun.looksF hR.prog (PySem.W.boot_heap (w.withFollow "special-get-raises" true).params) s.abs,HandSHeadRun.seenQ hQ hloose (importedModules hR.prog.main.body) (fun s=>PySem.W.xlAt hQ [] s && PySem.W.recOk hR.toRowW.records s) s.abs))=some (true,PySem.W.openGood hQ hloose):=by
 kernel_rfl
set_option maxHeartbeats 0 in
theorem j1(w:World) (os:OsState):(HandSHeadRun.endF (HandSHeadRun.stepQ (HandSHeadRun.denQ HandSHeadRun.tabQ) hR.prog (w.withFollow "special-get-raises" true)) 9000 hR.prog (w.withFollow "special-get-raises" true) os).map hob=some (hH.val (w.withFollow "special-get-raises" true)):=by
 kernel_rfl
theorem hrun(w:World):HandSHeadRun.RunEq hR hQ hH hob 9000 hloose w:=PySem.W.byRow2 "special-get-raises" (P:=fun w=>HandSHeadRun.RunEq hR hQ hH hob 9000 hloose w) (fun w=>Hx.run2 (jE w) (j0 w)) (fun w=>Hx.run2 (kb w) (j1 w)) w
set_option maxHeartbeats 0 in
theorem early(hc:PySem.W.WalkO hQ hloose (PySem.W.XL hQ []) hH.says hR.toRowW (HandSHeadRun.topDef hR.prog 16) [] fun f vs=>PySem.call f vs):PySem.Challenge.rw_nobodyspeaks_k43_nodes_lie_within_nodes.Holds:=by
 w_on;o_law
 refine HandSHeadRun.head_any (r:=PySem.W.OpenLaw.row PySem.Challenge.rw_nobodyspeaks_k43_nodes_lie_within_nodes) (q:=My.hQ) (H:=My.hH) (ob:=My.hob) (M:=9000) (loose:=My.hloose) (d:=HandSHeadRun.topDef (PySem.W.OpenLaw.row PySem.Challenge.rw_nobodyspeaks_k43_nodes_lie_within_nodes).prog 16) (kwd:=[]) My.hob_eq
  (by kernel_rfl) (fun s=>by kernel_rfl) My.hrun (by kernel_rfl) (by kernel_rfl) (by kernel_rfl) (by rfl) (by first | assumption | decide +kernel) (by decide+kernel) ⟨rfl,rfl,rfl,rfl,rfl,by decide+kernel⟩ ?hw hc
 case hw=>w_witness2
theorem hname:(HandSHeadRun.topDef (PySem.W.OpenLaw.row PySem.Challenge.rw_nobodyspeaks_k43_nodes_lie_within_nodes).prog 16).name=("law":PySem.Str):=by kernel_rfl
theorem hmost:(PySem.Challenge.rw_nobodyspeaks_k43_nodes_lie_within_nodes).most=some 63:=rfl
theorem hdfl:(HandSHeadRun.topDef (PySem.W.OpenLaw.row PySem.Challenge.rw_nobodyspeaks_k43_nodes_lie_within_nodes).prog 16).params.defaults=[]:=by kernel_rfl
theorem aM{H:Hp}{p:Addr}{o:HO}(h:H p=none):Same H (upd H p o):=fun b x e=>by
 rw[upd_ne (ne_of_none e h)]
 exact e
def But (p q:Addr) (H H':Hp):Prop:=∀ b o,b≠p->b≠q->H b=some o->H' b=some o
theorem But.trans{p q:Addr}{H H1 H2:Hp}(a:But p q H H1) (b:But p q H1 H2):But p q H H2:=fun c o h1 h2 h=>b c o h1 h2 (a c o h1 h2 h)
theorem But.refl{p q:Addr}(H:Hp):But p q H H:=fun c o _ _ h=>h
theorem small{n:Nat}(h:n<=1000):n<=sizeLine:=Nat.le_of_lt (small1000 h)
mutual
def nkP:PyData->Option NestedKey
 |.none=>some .none
 |.int i=>some (.num i)
 |.tuple ds=>(nkPs ds).map .tup
 |_=>none
def nkPs:List PyData->Option (List NestedKey)
 |[]=>some []
 |d::ds=>(nkP d).bind fun k=>(nkPs ds).map (k::·)
end
mutual
theorem dh{h:Heap}:∀{p:PyData}{u:Value}{as:List Addr}{k:NestedKey},Reads h u p as->nkP p=some k->NestedIs h k u
 |.none,_,_,_,r,e=>by
  cases r
  unfold nkP at e
  cases e
  exact .none
 |.int i,_,_,_,r,e=>by
  cases r
  unfold nkP at e
  cases e
  exact .int _ _
 |.tuple ds,_,_,_,r,e=>by
  unfold nkP at e
  obtain⟨ks,e1,rfl⟩:=Option.map_eq_some_iff.mp e
  cases r with
  |tuple h1 h2 h3 h4=>exact .tup h1 h2 h3 (reads_keys h4 e1)
 |.bool _,_,_,_,_,e=>by
  unfold nkP at e
  cases e
 |.str _,_,_,_,_,e=>by
  unfold nkP at e
  cases e
 |.list _,_,_,_,_,e=>by
  unfold nkP at e
  cases e
 |.dict _,_,_,_,_,e=>by
  unfold nkP at e
  cases e
theorem reads_keys{h:Heap}:∀{ps:List PyData}{us:List Value}{as:List Addr}{ks:List NestedKey},ReadsAll h us ps as->nkPs ps=some ks->NestedAll h ks us
 |[],_,_,_,r,e=>by
  cases r
  unfold nkPs at e
  cases e
  exact .nil
 |p::ps,_,_,_,r,e=>by
  unfold nkPs at e
  obtain⟨k,e1,e⟩:=Option.bind_eq_some_iff.mp e
  obtain⟨ks,e2,rfl⟩:=Option.map_eq_some_iff.mp e
  cases r with
  |cons r1 r2=>exact .cons (dh r1 e1) (reads_keys r2 e2)
end
def HI (k:NestedKey):Prop:=∀ w w':World,k.hash w=k.hash w'
mutual
theorem ja:∀{p:PyData}{k:NestedKey},nkP p=some k->HI k
 |.none,_,e=>by
  unfold nkP at e
  cases e
  exact fun _ _=>rfl
 |.int i,_,e=>by
  unfold nkP at e
  cases e
  exact fun _ _=>rfl
 |.tuple ds,_,e=>by
  unfold nkP at e
  obtain⟨ks,e1,rfl⟩:=Option.map_eq_some_iff.mp e
  intro w w'
  show reduceHash (Builtin.Tuple.tupleHashOf (NestedKey.hashes w ks))=reduceHash (Builtin.Tuple.tupleHashOf (NestedKey.hashes w' ks))
  rw[his_of e1 w w']
 |.bool _,_,e=>by
  unfold nkP at e
  cases e
 |.str _,_,e=>by
  unfold nkP at e
  cases e
 |.list _,_,e=>by
  unfold nkP at e
  cases e
 |.dict _,_,e=>by
  unfold nkP at e
  cases e
theorem his_of:∀{ps:List PyData}{ks:List NestedKey},nkPs ps=some ks->∀ w w':World,NestedKey.hashes w ks=NestedKey.hashes w' ks
 |[],_,e,w,w'=>by
  unfold nkPs at e
  cases e
  rfl
 |p::ps,_,e,w,w'=>by
  unfold nkPs at e
  obtain⟨k,e1,e⟩:=Option.bind_eq_some_iff.mp e
  obtain⟨ks,e2,rfl⟩:=Option.map_eq_some_iff.mp e
  show k.hash w::NestedKey.hashes w ks=k.hash w'::NestedKey.hashes w' ks
  rw[ja e1 w w',his_of e2 w w']
end
abbrev NE:=NestedKey × Addr × V
def EV (e:NE) (x:NestedKey × Addr × Value):Prop:=e.1=x.1/\e.2.1=x.2.1/\RelV e.2.2 x.2.2
def NdO (a:Addr) (es:List NE):HO := .ext fun h=>es.length<=sizeLine/\(a == sysModules)=false/\(∀ e∈es,HI e.1)/\∃ xs,Paired EV es xs /\
 ∃ o E ep,h.get? a=some o/\o.ExactDict/\o.data = .dict E ep/\(∀ P w,E.toList=xs.map (entryOfKey (nestedKind P w)))/\(xs.map (·.1)).Nodup
def stE (es:List NE) (k:NestedKey) (b:Addr) (z:V):List NE:=if es.any (fun e=>decide (e.1=k))=true then es.map (fun e=>if e.1=k then (e.1,e.2.1,z) else e) else es++[(k,b,z)]
def atE (es:List NE) (k:NestedKey):Option V:=(es.find? fun e=>decide (e.1=k)).map (·.2.2)
theorem eY{k:NestedKey}:∀{es:List NE}{xs:List (NestedKey × Addr × Value)},Paired EV es xs->match atE es k with
  |some v=>∃ p,atKey xs k=some p/\RelV v p.2
  |none=>atKey xs k=none
 |_,_,.nil=>rfl
 |e::es,x::xs,.cons h t=>by
  obtain⟨h1,h2,h3⟩:=h
  unfold atE atKey
  rw[List.find?_cons,List.find?_cons,<- h1]
  by_cases c:e.1=k
  ·rw[decide_eq_true c]
   exact⟨_,rfl,h3⟩
  ·rw[decide_eq_false c]
   exact eY t
theorem eJ{es:List NE}{k:NestedKey}:(es.any fun e=>decide (e.1=k))=(atE es k).isSome:=by
 induction es with
 |nil=>rfl
 |cons e es ih =>
  unfold atE
  rw[List.any_cons,List.find?_cons]
  by_cases c:e.1=k
  ·rw[decide_eq_true c]
   rfl
  ·rw[decide_eq_false c]
   exact ih
theorem gR{k:NestedKey}{z:V}{r:Value}(rz:RelV z r):∀{es:List NE}{xs:List (NestedKey × Addr × Value)},Paired EV es xs->Paired EV (es.map fun e=>if e.1=k then (e.1,e.2.1,z) else e) (xs.map (putAt k r))
 |_,_,.nil => .nil
 |e::es,x::xs,.cons h t=>by
  refine .cons ?_ (gR rz t)
  obtain⟨h1,h2,h3⟩:=h
  show EV (if e.1=k then (e.1,e.2.1,z) else e) (if x.1=k then (x.1,x.2.1,r) else x)
  by_cases c:e.1=k
  ·rw[if_pos c,if_pos (h1 ▸ c)]
   exact⟨h1,h2,rz⟩
  ·rw[if_neg c,if_neg (h1 ▸ c)]
   exact⟨h1,h2,h3⟩
theorem kH{es:List NE}{xs:List (NestedKey × Addr × Value)}{k:NestedKey}{b:Addr}{z:V}{r:Value}(h:Paired EV es xs) (rz:RelV z r):Paired EV (stE es k b z) (storedH xs k b r):=by
 have q:=eY (k:=k) h
 unfold stE storedH
 rw[eJ]
 cases e:atE es k with
 |some v =>
  rw[e] at q
  obtain⟨p,q,_⟩:=q
  rw[q]
  exact gR rz h
 |none =>
  rw[e] at q
  have q:atKey xs k=none:=q
  rw[q]
  exact h.snoc ⟨rfl,rfl,rz⟩
theorem fI(es:List NE) (k:NestedKey) (b:Addr) (z:V):(stE es k b z).length<=es.length+1:=by
 unfold stE
 split
 ·rw[List.length_map]
  omega
 ·rw[List.length_append]
  exact Nat.le_refl _
theorem fi{es:List NE}{k:NestedKey}{b:Addr}{z:V}{e:NE}(h:e∈stE es k b z):(∃ f∈es,f.1=e.1/\f.2.1=e.2.1)\/e=(k,b,z):=by
 unfold stE at h
 split at h
 ·obtain⟨f,hf,rfl⟩:=List.mem_map.mp h
  refine .inl ⟨f,hf,?_⟩
  split <;> exact⟨rfl,rfl⟩
 ·rcases List.mem_append.mp h with h | h
  ·exact .inl ⟨e,h,rfl,rfl⟩
  ·exact .inr (List.mem_singleton.mp h)
section
variable {P:Program}{w:World}{H H':Hp}{h h':Heap}{a:Addr}{es:List NE}
theorem eF(ok:HOk P w H h) (e:H a=some (NdO a es)) (ks:∀ e∈es,(nestedKind P w).is h e.1 e.2.1):es.length<=sizeLine/\(a == sysModules)=false/\(∀ e∈es,HI e.1)/\∃ xs,Paired EV es xs/\h.DictOfH (nestedKind P w) a xs:=by
 obtain⟨⟨z,y,hi,xs,pr,o,E,ep,h1,h2,h3,h4,h5⟩,_⟩:=ok a _ e
 refine⟨z,y,hi,xs,pr,o,E,ep,h1,h2,h3,h4 P w,?_,h5⟩
 have go:∀{es:List NE}{xs:List (NestedKey × Addr × Value)},Paired EV es xs->(∀ e∈es,(nestedKind P w).is h e.1 e.2.1)->∀ x∈xs,(nestedKind P w).is h x.1 x.2.1:=by
  intro es xs pr
  induction pr with
  |nil=>exact fun _ x hx=>nomatch hx
  |cons q t ih =>
   intro ks x hx
   rcases List.mem_cons.mp hx with rfl | hx
   ·have:=ks _ (List.mem_cons_self ..)
    rw[q.1,q.2.1] at this
    exact this
   ·exact ih (fun e he=>ks e (List.mem_cons_of_mem _ he)) x hx
 exact go pr ks
theorem jm{xs:List (NestedKey × Addr × Value)}(z:es.length<=sizeLine) (y:(a == sysModules)=false) (hi:∀ e∈es,HI e.1) (pr:Paired EV es xs) (d:h.DictOfH (nestedKind P w) a xs):ObjOk P w H h a (NdO a es):=by
 obtain⟨o,E,ep,h1,h2,h3,h4,_,h5⟩:=d
 have hx:∀{es:List NE}{xs:List (NestedKey × Addr × Value)},Paired EV es xs->(∀ e∈es,HI e.1)->∀ x∈xs,HI x.1:=by
  intro es xs pr
  induction pr with
  |nil=>exact fun _ x hx=>nomatch hx
  |cons q t ih =>
   intro ks x hx
   rcases List.mem_cons.mp hx with rfl | hx
   ·have:=ks _ (List.mem_cons_self ..)
    rw[q.1] at this
    exact this
   ·exact ih (fun e he=>ks e (List.mem_cons_of_mem _ he)) x hx
 have hx:=hx pr hi
 refine⟨⟨z,y,hi,xs,pr,o,E,ep,h1,h2,h3,fun P' w'=>?_,h5⟩,⟨o,h1⟩,fun g1 g2 ⟨z,y,hi,xs,pr,o,E,ep,h1,r⟩ k=>⟨z,y,hi,xs,pr,o,E,ep,k o h1,r⟩⟩
 rw[h4]
 refine List.map_congr_left fun x hxm=>?_
 show (⟨x.1.hash w,.ref x.2.1,x.2.2⟩:DictEntry)=⟨x.1.hash w',.ref x.2.1,x.2.2⟩
 rw[hx x hxm w w']
theorem jB(h:Heap) (hb:sysModules < h.objs.size):ObjOk P w H (h.push { cls := .type "dict",data := .dict #[] }) h.objs.size (NdO h.objs.size []) :=
 jm (Nat.zero_le _) (beq_eq_false_iff_ne.mpr fun z=>Nat.lt_irrefl _ (z ▸ hb)) (fun _ he=>nomatch he) .nil (Heap.DictOfH.new h)
end
def NKs (K:PySem.W.Frag) (H:Hp) (es:List NE):Prop:=∀ e∈es,∃ p,Dp K H (.ref e.2.1) p/\nkP p=some e.1/\e.1.depth<=8
section
variable {X:Cx}{pins:List (Addr × Obj)}{σ:L2.St}{H:Hp}{s:Shared}
theorem fc{p:PyData}{k:NestedKey}{b:Addr}(I:Inv X pins σ H s) (h:Dp X.K H (.ref b) p) (hk:nkP p=some k) (h8:k.depth<=8):(nestedKind X.prog X.w).is s.heap k b:=by
 obtain⟨as,r⟩:=Dp.reads I p (.ref b) (.ref b) h rfl
 exact⟨dh r hk,h8⟩
theorem eR{es:List NE}(I:Inv X pins σ H s) (h:NKs X.K H es):∀ e∈es,(nestedKind X.prog X.w).is s.heap e.1 e.2.1:=fun e he=>by
 obtain⟨p,h1,h2,h3⟩:=h e he
 exact fc I h1 h2 h3
def jo (K:PySem.W.Frag) (H:Hp) (D:Addr) (y z:V) (Nx:Hp->Prop):Prop:=∃ es p k b,y=V.ref b/\Dp K H (.ref b) p/\nkP p=some k/\k.depth<=8/\H D=some (NdO D es)/\NKs K H es/\es.length < sizeLine/\Nx (upd H D (NdO D (stE es k b z)))
theorem jA{D:Addr}{y z:V}{u r:Value}{Nx:Hp->Prop}{Q:Unit->Shared->Prop}{E:Value->Shared->Prop}(hu:X.A.units+9 < cLine) (I:Inv X pins σ H s) (g:jo X.K H D y z Nx) (ry:RelV y u) (rz:RelV z r) (h:∀ H' s',Inv X pins σ H' s'->Nx H'->Q () s'):wpAny (model X.prog X.w) X.A (dictSet D u r) Q E s:=by
 obtain⟨es,p,k,b,rfl,hp,hk,h8,hD,hes,hl,nx⟩:=g
 obtain rfl:u=Value.ref b:=ry
 obtain⟨z1,z2,hi,xs,pr,dd⟩:=eF I.hok hD (eR I hes)
 have xl:=pr.length
 refine wpAny_dictSet_heap (knd:=nestedKind X.prog X.w) (show X.A.units+8 < cLine by omega) (fc I hp hk h8) dd (fun h' dd' sb=>?_) (by omega)
 have hin:∃ q,h'.get? D=some q:=let ⟨q,_,_,hq,_⟩:=dd';⟨q,hq⟩
 refine h _ _ (d_write I (by rw[hD];exact True.intro) sb hin (jm ?_ z2 (fun e he=>?_) (kH pr rz) dd')) nx
 ·have:=fI es k b z
  omega
 ·rcases fi he with ⟨f,hf,e1,_⟩ | rfl
  ·rw[<- e1]
   exact hi f hf
  ·exact ja hk
end
def gW (K:PySem.W.Frag) (neg:Bool):R2:=fun x y H Q=>∃ p k b a es,x=V.ref b/\Dp K H (.ref b) p/\nkP p=some k/\k.depth<=8/\y=V.ref a/\H a=some (NdO a es)/\NKs K H es/\Q (.bl (neg ^^ (atE es k).isSome)) H
def g9 (K:PySem.W.Frag):R2:=fun x y H Q=>∃ p k b a es v,y=V.ref b/\Dp K H (.ref b) p/\nkP p=some k/\k.depth<=8/\x=V.ref a/\H a=some (NdO a es)/\NKs K H es/\atE es k=some v/\Q v H
section
variable {X:Cx}
theorem iQ{es:List NE}{xs:List (NestedKey × Addr × Value)}{k:NestedKey}(pr:Paired EV es xs):(atKey xs k).isSome=(atE es k).isSome:=by
 have q:=eY (k:=k) pr
 cases e:atE es k with
 |some v =>
  rw[e] at q
  obtain⟨p,q,_⟩:=q
  rw[q]
  rfl
 |none =>
  rw[e] at q
  have q:atKey xs k=none:=q
  rw[q]
  rfl
theorem iV(hu:X.A.units+10 < cLine):OpR X (compareOp .In) (gW X.K false):=by
 intro pins s σ H x y v u Q I rx ry ⟨p,k,b,a,es,e1,hp,hk,h8,e2,ha,hes,q⟩
 subst e1 e2
 obtain rfl:v=Value.ref b:=rx
 obtain rfl:u=Value.ref a:=ry
 obtain⟨z1,z2,hi,xs,pr,dd⟩:=eF I.hok ha (eR I hes)
 refine wpAny_in_heap (knd:=nestedKind X.prog X.w) (show (X.A.in1).units+8 < cLine from ?_) (fc I hp hk h8) z2 dd ?_
 ·show X.A.units+1+8 < cLine
  omega
 ·rw[iQ pr]
  rw[Bool.false_xor] at q
  exact⟨.bl (atE es k).isSome,H,I.tok _,rfl,q⟩
theorem kA(hu:X.A.units+10 < cLine):IxR X (g9 X.K):=by
 intro value slice pins s σ H x y v u Q I rx ry ⟨p,k,b,a,es,r,e1,hp,hk,h8,e2,ha,hes,hr,q⟩ hs
 subst e1 e2
 obtain rfl:u=Value.ref b:=ry
 obtain rfl:v=Value.ref a:=rx
 obtain⟨z1,z2,hi,xs,pr,dd⟩:=eF I.hok ha (eR I hes)
 have t:=eY (k:=k) pr
 rw[hr] at t
 obtain⟨g,g1,g2⟩:=t
 refine tail_any dd.typeIs slot_dict_getitem.lookup (wpAny_getItem_heap (knd:=nestedKind X.prog X.w) (show (X.A.in1).units+8 < cLine from ?_) (fc I hp hk h8) dd g1 ⟨r,H,I.tok _,g2,q⟩) hs
 show X.A.units+1+8 < cLine
 omega
def jy (K:PySem.W.Frag) (wi:TI) (g:TG) (ty tz:TE) (vs:List Nat):TE:=fun σ H Q=>wi σ H fun J H1=>∀ D,H1 D=none->∃ W:Nat->Nat->Hp->Prop,(∃ m,W 0 m (upd H1 D (NdO D []))) /\
 ∀ i m G,W i m G->(J.stop i G/\Q (.ref D) G)\/(J.go i G/\∃ Nx:Hp->Prop,(∀ G',Nx G'->∃ m',m' < m/\W (i+1) m' G') /\
  ∀ x G',J.yld i G x G'->g x (L2.wipe σ vs) G' fun σ2 G2=>L2.wipe σ2 vs=L2.wipe σ vs/\ty σ2 G2 fun y G3=>tz σ2 G3 fun z G4=>jo K G4 D y z Nx)
theorem jz{kx vx tg iter:Expr}{scope:Scope}{own:List (Str × Nat)}{pos:Pos}{wi:TI}{g:TG}{ty tz:TE}(hu:X.A.units+10 < cLine) (hc:X.calm=true) (nd:X.N.Nodup) (hi:PI X tg iter wi) (ok:BlkOk X.N X.env.scope scope own)
  (hg:∀(s:Shared) (H:Hp) (C:Addr) (cl:List (Str × Addr)) (fp:List Addr),PG (X.blk s H scope (compEnvC scope cl C X.env) fp) tg g)
  (hy:∀(s:Shared) (H:Hp) (C:Addr) (cl:List (Str × Addr)) (fp:List Addr),PE (X.blk s H scope (compEnvC scope cl C X.env) fp) kx ty)
  (hz:∀(s:Shared) (H:Hp) (C:Addr) (cl:List (Str × Addr)) (fp:List Addr),PE (X.blk s H scope (compEnvC scope cl C X.env) fp) vx tz)
  (hs:∀ x,foldedSetIterable iter X.env x=pure x:=by intro _;rfl) :
  PE X (.DictComp kx vx [⟨tg,iter,[],0⟩] scope pos) (jy X.K wi g ty tz (own.map (·.2))):=by
 refine⟨fun pins s σ H Q I h=>?_⟩
 rw[arm_eval_DictComp]
 have free:∀ y∈scope.names,y.2 = .free->∃ c,X.env.cells.lookup y.1=some c:=fun y m e=>(ok.free y m e).elim (fun k=>I.ok.has _ (.inl k)) fun k=>I.ok.has _ (.inr k)
 refine wpAny_comprehension_free (use:=none) rfl hs (closure_ok free) ok.kind (fun y m e=>by rw[ok.uniq y m,e]) ?_
 refine thn (hi.run pins s σ H _ I h) fun _ s1 k1=>thn k1 fun _ s2 k2=>?_
 obtain⟨it,fp,tn,J,H2,rfl,I2,T,t2,f2,q⟩:=k2
 refine wpAny_newObj_type (newEnv_comp ?_)
 have dn:H2 s2.heap.objs.size=none:=I2.hok.fresh (Nat.le_refl _)
 obtain⟨W,⟨m0,w0⟩,turn⟩:=q _ dn
 have I3:Inv X pins σ (upd H2 s2.heap.objs.size (NdO s2.heap.objs.size [])) { s2 with heap:=s2.heap.push { cls := .type "dict",data := .dict #[] } }:=I2.laid (t':=s2.toks) (fun b o e=>Heap.get?_push_of_some _ e) (Nat.le_refl _) (jB s2.heap I2.big)
 have old:∀ b∈fp,b < s2.heap.objs.size:=fun b hb=>let ⟨o,e,_⟩:=T.obj _ _ t2 b hb;Heap.lt_size e
 have f3:∀ b∈fp,FpOk X pins (upd H2 s2.heap.objs.size (NdO s2.heap.objs.size [])) b/\b < (s2.heap.push { cls := .type "dict",data := .dict #[] }).objs.size:=fun b hb =>
  ⟨⟨(upd_ne (Nat.ne_of_lt (old b hb))).trans (f2 b hb).1,(f2 b hb).2⟩,by rw[Heap.size_push];exact Nat.lt_succ_of_lt (old b hb)⟩
 have t3:tn 0 (s2.heap.push { cls := .type "dict",data := .dict #[] }):=T.keep _ _ _ t2 fun b _ o e=>Heap.get?_push_of_some _ e
 generalize s2.heap.objs.size=D at *
 generalize hs3:({ s2 with heap:=s2.heap.push { cls := .type "dict",data := .dict #[] } }:Shared)=s3 at I3
 have e3:s2.heap.push { cls := .type "dict",data := .dict #[] }=s3.heap:=by rw[<- hs3]
 rw[e3] at f3 t3
 generalize hH3:upd H2 D (NdO D [])=H3 at I3 f3 w0
 have I4:=block_start I3 ok nd f3
 have pg:=hg s3 H3 s3.heap.objs.size (cellsFrom (s3.heap.objs.size+1) scope.names (cloFrom X.env.cells scope.names [])) fp
 have py:=hy s3 H3 s3.heap.objs.size (cellsFrom (s3.heap.objs.size+1) scope.names (cloFrom X.env.cells scope.names [])) fp
 have pz:=hz s3 H3 s3.heap.objs.size (cellsFrom (s3.heap.objs.size+1) scope.names (cloFrom X.env.cells scope.names [])) fp
 have cE:(compEnvC scope (cellsFrom (s3.heap.objs.size+1) scope.names (cloFrom X.env.cells scope.names [])) s3.heap.objs.size X.env).locals=s3.heap.objs.size:=rfl
 have t4:tn 0 (pushCells (s3.heap.push { cls := .type "dict",data := .dict #[] }) scope.names):=T.keep _ _ _ t3 fun b _ o e=>pushCells_keeps _ _ _ _ (Heap.get?_push_of_some _ e)
 show codeAny _ _ (.compStart (.DictComp kx vx [⟨tg,iter,[],0⟩] scope pos) 0 (.ref it) (.ref D) (compEnvC scope (cellsFrom (s3.heap.objs.size+1) scope.names (cloFrom X.env.cells scope.names [])) s3.heap.objs.size X.env)) (compPost (model X.prog X.w) X.A X.xe none (EP X pins σ Q) (.ref D) s3.heap.objs.size) _
 generalize compEnvC scope (cellsFrom (s3.heap.objs.size+1) scope.names (cloFrom X.env.cells scope.names [])) s3.heap.objs.size X.env=ce at I4 pg py pz cE ⊢
 have own_ok:∀{σ':L2.St}{G:Hp}{t:Shared},Inv (X.blk s3 H3 scope ce fp) [] σ' G t->(∀ b∈fp,G b=none)->∀ b∈fp,FpOk (X.blk s3 H3 scope ce fp) [] G b:=fun {σ' G t} J' n b hb =>
  ⟨n b hb,(J'.ok.exf b hb).1,J'.ok.exfs b hb,.inl hb,fun x c e=>(J'.ok.exf b hb).2 x c e,fun p hp=>absurd (show p∈([]:List (Addr × Obj))++[] from hp) (by simp)⟩
 have loop:codeAny (model X.prog X.w) X.A (.compLoop (.DictComp kx vx [⟨tg,iter,[],0⟩] scope pos) 0 (.ref it) (.ref D) ce) (compPost (model X.prog X.w) X.A X.xe none (EP X pins σ Q) (.ref D) s3.heap.objs.size) { s3 with heap:=pushCells (s3.heap.push { cls := .type "dict",data := .dict #[] }) scope.names }:=by
  refine compLoop_anyD (fun n t=>∃ i G,Inv (X.blk s3 H3 scope ce fp) [] (L2.wipe σ (own.map (·.2))) G t/\tn i t.heap/\(∀ b∈fp,G b=none)/\W i n G) ?_ m0 ⟨0,H3,I4,t4,fun b hb=>(f3 b hb).1.1,w0⟩
  rintro n t ⟨i,G,J5,t5,n5,w5⟩
  rcases turn i n G w5 with ⟨stop,fin⟩ | ⟨go,Nx,hNx,step⟩
  ·refine thnF (T.done (X.blk s3 H3 scope ce fp) rfl rfl rfl hc i [] t _ G (fun _ _=>False) J5 (own_ok J5 n5) t5 stop) fun r t6 ⟨hr,J6⟩=>?_
   subst hr
   have I7:Inv X pins σ G t6:=I3.call' (ch:=fp) J6.os J6.base J6.hok J6.bare fun b hb=>⟨(f3 b hb).1.2.2.2.1,(f3 b hb).1.2.1,(f3 b hb).1.2.2.2.2.1,(f3 b hb).1.2.2.2.2.2⟩
   have nC:G s3.heap.objs.size=none:=cE ▸ (show G ce.locals=none from J6.free)
   obtain⟨m,hn,_⟩:=J6.loc
   have hn:t6.heap.Ns ce.locals m:=hn
   rw[cE] at hn
   obtain⟨g0,g1,g2,g3,g4,g5⟩:=I3.fpOk (H':=G) (Nat.le_refl _) nC
   exact⟨m,hn,fun h'' sb=>⟨.ref D,G,I7.turned (t':=t6.toks) (fun b o hb e=>(sb.2 b hb).trans e) g0 g1 g3 g4 g5,rfl,fin⟩⟩
  ·refine thnF (T.item (X.blk s3 H3 scope ce fp) rfl rfl rfl hc i [] t _ G (fun _ _=>False) J5 (own_ok J5 n5) t5 go) fun r t6 ⟨u,hr,k6⟩=>?_
   subst hr
   refine thnF k6 fun _ t7 ⟨x,G7,J7,r7,y7,t7',n7⟩=>?_
   refine thnF (pg.run _ t7 _ G7 x u _ (J7.pinned (own_ok J7 n7) (T.obj _ _ t7')) r7 (step x G7 y7)) fun _ t8 ⟨σ8,G8,J8,hw,q8⟩=>?_
   refine wpAny_tests_nil ?_
   show wpAny _ _ _ _ _ _
   refine thnF (py.run _ t8 σ8 G8 _ J8 q8) fun a1 t9 ⟨y,G9,J9,r9,q9⟩=>thnF (pz.run _ t9 σ8 G9 _ J9 q9) fun a2 t10 ⟨z,G10,J10,r10,q10⟩=>?_
   refine jA (X:=X.blk s3 H3 scope ce fp) (show X.A.units+9 < cLine by omega) J10 q10 r9 r10 fun G11 t11 J11 nx=>?_
   obtain⟨m',hm,w'⟩:=hNx G11 nx
   have pin:∀ b∈fp,∀ o,t7.heap.get? b=some o->t11.heap.get? b=some o/\G11 b=none:=fun b hb o e =>
    ⟨(J11.pin (b,o) (List.mem_append_right _ (List.mem_append_right _ (mem_pinsAt hb e)))).1,(J11.pin (b,o) (List.mem_append_right _ (List.mem_append_right _ (mem_pinsAt hb e)))).2.1⟩
   have hl:(L2.wipe σ (own.map (·.2))).length=σ8.length:=by rw[<- hw,L2.wipe_length]
   refine⟨m',hm,i+1,G11,(J11.unpinned (pins:=[])).weak hl (fun j v e=>?_),T.keep _ _ _ t7' fun b hb o e=>(pin b hb o e).1,fun b hb=>?_,w'⟩
   ·rw[<- hw] at e
    exact(L2.wipe_some e).1
   ·obtain⟨o,e,_⟩:=T.obj _ _ t7' b hb
    exact(pin b hb o e).2
 exact codeAny_compStart_dict loop (T.self X.A 0 _ _ _ t4 loop)
end
inductive Da where
 |non | bl (b:Bool) | int (i:Int) | str (z:Str) | lst (xs:List Da) | tup (xs:List Da)
 |dct (ks:List Key) (xs:List Da) | obj (c:Str) (ks:List Str) (xs:List Da) | ref (k:Nat) | fn (f:Str) | fls (xs:List Da) | ktp (xs:List Da)
 |nd (ks:List Da) (xs:List Da)
mutual
def nkD:Da->Option NestedKey
 |.non=>some .none
 |.int i=>some (.num i)
 |.tup ds=>(nkDs ds).map .tup
 |_=>none
def nkDs:List Da->Option (List NestedKey)
 |[]=>some []
 |d::ds=>(nkD d).bind fun k=>(nkDs ds).map (k::·)
end
inductive Cell where
 |lst (xs:List Da) | dct (ks:List Key) (xs:List Da) | ins (c:Str) (ks:List Str) (xs:List Da)
abbrev Sto:=List Cell
structure Gm where
 K:PySem.W.Frag
 mg:Str->Option Value
 R:List Addr
structure Fr where
 G:Gm
 N:Addr->Prop
 B:Hp
 W:Bool
def Kl (K:PySem.W.Frag) (a:Addr) (xs:List V):Prop:=∃(o:Obj) (its:Array Value) (n:Nat),K.lookup a=some o/\o.cls = .type "list"/\o.dict=none/\o.data = .seq its n/\its.size<=sizeLine/\Vals xs its.toList
mutual
inductive Rp (G:Gm) (M:Addr->Prop) (H:Hp):V->Da->Prop
 |non:Rp G M H .non .non
 |bl (b:Bool):Rp G M H (.bl b) (.bl b)
 |int (i:Int):Rp G M H (.int i) (.int i)
 |str (z:Str):Rp G M H (.str z) (.str z)
 |lst {a:Addr}{xs:List V}{ds:List Da}:¬ M a->H a=some (.lst xs)->RpAll G M H xs ds->Rp G M H (.ref a) (.lst ds)
 |fls {a:Addr}{xs:List V}{ds:List Da}:(¬ M a/\Rd H a (.lst xs))\/Kl G.K a xs->RpAll G M H xs ds->Rp G M H (.ref a) (.fls ds)
 |tup {a:Addr}{xs:List V}{ds:List Da}:¬ M a->H a=some (.tup xs)->RpAll G M H xs ds->Rp G M H (.ref a) (.tup ds)
 |ktup {a:Addr}{xs:List V}{ds:List Da}:(∀ H',SqT G.K H' a xs)->RpAll G M H xs ds->Rp G M H (.ref a) (.tup ds)
 |dct {a:Addr}{kvs:List (Key × V)}{ks:List Key}{ds:List Da}:¬ M a->Rd H a (.dK kvs)->kvs.map Prod.fst=ks->RpAll G M H (kvs.map Prod.snd) ds->Rp G M H (.ref a) (.dct ks ds)
 |obj {a C dx:Addr}{fs:List (Str × V)}{c:Str}{ks:List Str}{ds:List Da}:¬ M a->H a=some (.ins C dx fs)->G.mg c=some (.ref C)->fs.map Prod.fst=ks->RpAll G M H (fs.map Prod.snd) ds->Rp G M H (.ref a) (.obj c ks ds)
 |ref {a:Addr}{k:Nat}:G.R[k]?=some a->Rp G M H (.ref a) (.ref k)
 |fn {a:Addr}{f:Str}:G.mg f=some (.ref a)->Rp G M H (.ref a) (.fn f)
 |ktp {a:Addr}{xs:List V}{ds:List Da}:(∀ H',SqT G.K H' a xs)->(∃ o,G.K.lookup a=some o/\o.cls = .type "tuple"/\o.dict=none)->RpAll G M H xs ds->Rp G M H (.ref a) (.ktp ds)
 |nd {a:Addr}{es:List NE}{ks xs:List Da}:¬ M a->H a=some (NdO a es)->ks.map nkD=es.map (fun e=>some e.1)->(∀ e∈es,e.1.depth<=8)->RpAll G M H (es.map fun e=>V.ref e.2.1) ks->RpAll G M H (es.map fun e=>e.2.2) xs->Rp G M H (.ref a) (.nd ks xs)
inductive RpAll (G:Gm) (M:Addr->Prop) (H:Hp):List V->List Da->Prop
 |nil:RpAll G M H [] []
 |cons {v:V}{d:Da}{vs:List V}{ds:List Da}:Rp G M H v d->RpAll G M H vs ds->RpAll G M H (v::vs) (d::ds)
end
def kJ:HO->Prop
 |.dK _=>False
 |.frz _ (.dK _)=>False
 |_=>True
structure Stay (M:Addr->Prop) (H H':Hp):Prop where
 pl:∀ b o,¬ M b->kJ o->H b=some o->H' b=some o
 dk:∀ b kvs,¬ M b->Rd H b (.dK kvs)->Rd H' b (.dK kvs)
theorem Stay.of{M:Addr->Prop}{H H':Hp}(h:∀ b o,¬ M b->H b=some o->H' b=some o):Stay M H H' :=
 ⟨fun b o m _ e=>h b o m e,fun b kvs m e=>by
  rcases e with e | ⟨o,e⟩
  ·exact .inl (h b _ m e)
  ·exact .inr ⟨o,h b _ m e⟩⟩
theorem aQ{H:Hp}{a:Addr}{o:HO}(h:Rd H a o) (z:H a=none):False:=by
 rcases h with h | ⟨_,h⟩ <;> rw[z] at h <;> cases h
mutual
theorem Rp.go{G:Gm}{M M':Addr->Prop}{H H':Hp}(e:Stay M H H') (hm:∀ b,M' b->M b\/H b=none):∀{v:V}{d:Da},Rp G M H v d->Rp G M' H' v d
 |_,_,.non => .non
 |_,_,.bl b => .bl b
 |_,_,.int i => .int i
 |_,_,.str z => .str z
 |_,_,.lst m h t => .lst (fun c=>(hm _ c).elim m fun z=>aQ (.inl h) z) (e.pl _ _ m trivial h) (RpAll.go e hm t)
 |_,_,.fls h t => .fls (h.imp (fun q=>⟨fun c=>(hm _ c).elim q.1 fun z=>aQ q.2 z,q.2.imp (fun h=>e.pl _ _ q.1 trivial h) fun⟨o,h⟩=>⟨o,e.pl _ _ q.1 trivial h⟩⟩) id) (RpAll.go e hm t)
 |_,_,.tup m h t => .tup (fun c=>(hm _ c).elim m fun z=>aQ (.inl h) z) (e.pl _ _ m trivial h) (RpAll.go e hm t)
 |_,_,.ktup h t => .ktup h (RpAll.go e hm t)
 |_,_,.dct m h k t => .dct (fun c=>(hm _ c).elim m fun z=>aQ h z) (e.dk _ _ m h) k (RpAll.go e hm t)
 |_,_,.obj m h c k t => .obj (fun c=>(hm _ c).elim m fun z=>by rw[h] at z;cases z) (e.pl _ _ m trivial h) c k (RpAll.go e hm t)
 |_,_,.ref h => .ref h
 |_,_,.fn h => .fn h
 |_,_,.ktp h o t => .ktp h o (RpAll.go e hm t)
 |_,_,.nd m h k d t u => .nd (fun c=>(hm _ c).elim m fun z=>by rw[h] at z;cases z) (e.pl _ _ m trivial h) k d (RpAll.go e hm t) (RpAll.go e hm u)
theorem RpAll.go{G:Gm}{M M':Addr->Prop}{H H':Hp}(e:Stay M H H') (hm:∀ b,M' b->M b\/H b=none):∀{vs:List V}{ds:List Da},RpAll G M H vs ds->RpAll G M' H' vs ds
 |_,_,.nil => .nil
 |_,_,.cons h t => .cons (Rp.go e hm h) (RpAll.go e hm t)
end
mutual
theorem Rp.mv{G G':Gm}{M M':Addr->Prop}{H H':Hp}(hk:G'.K=G.K) (hg:G'.mg=G.mg) (hr:∀(k:Nat) (a:Addr),G.R[k]?=some a->G'.R[k]?=some a) (e:Stay M H H') (hm:∀ b,M' b->M b\/H b=none):∀{v:V}{d:Da},Rp G M H v d->Rp G' M' H' v d
 |_,_,.non => .non
 |_,_,.bl b => .bl b
 |_,_,.int i => .int i
 |_,_,.str z => .str z
 |_,_,.lst m h t => .lst (fun c=>(hm _ c).elim m fun z=>aQ (.inl h) z) (e.pl _ _ m trivial h) (RpAll.mv hk hg hr e hm t)
 |_,_,.fls h t => .fls (h.imp (fun q=>⟨fun c=>(hm _ c).elim q.1 fun z=>aQ q.2 z,q.2.imp (fun h=>e.pl _ _ q.1 trivial h) fun⟨o,h⟩=>⟨o,e.pl _ _ q.1 trivial h⟩⟩) (fun h=>by rw[hk];exact h)) (RpAll.mv hk hg hr e hm t)
 |_,_,.tup m h t => .tup (fun c=>(hm _ c).elim m fun z=>aQ (.inl h) z) (e.pl _ _ m trivial h) (RpAll.mv hk hg hr e hm t)
 |_,_,.ktup h t => .ktup (by rw[hk];exact h) (RpAll.mv hk hg hr e hm t)
 |_,_,.dct m h k t => .dct (fun c=>(hm _ c).elim m fun z=>aQ h z) (e.dk _ _ m h) k (RpAll.mv hk hg hr e hm t)
 |_,_,.obj m h c k t => .obj (fun c=>(hm _ c).elim m fun z=>by rw[h] at z;cases z) (e.pl _ _ m trivial h) (by rw[hg];exact c) k (RpAll.mv hk hg hr e hm t)
 |_,_,.ref h => .ref (hr _ _ h)
 |_,_,.fn h => .fn (by rw[hg];exact h)
 |_,_,.ktp h o t => .ktp (by rw[hk];exact h) (by rw[hk];exact o) (RpAll.mv hk hg hr e hm t)
 |_,_,.nd m h k d t u => .nd (fun c=>(hm _ c).elim m fun z=>by rw[h] at z;cases z) (e.pl _ _ m trivial h) k d (RpAll.mv hk hg hr e hm t) (RpAll.mv hk hg hr e hm u)
theorem RpAll.mv{G G':Gm}{M M':Addr->Prop}{H H':Hp}(hk:G'.K=G.K) (hg:G'.mg=G.mg) (hr:∀(k:Nat) (a:Addr),G.R[k]?=some a->G'.R[k]?=some a) (e:Stay M H H') (hm:∀ b,M' b->M b\/H b=none):∀{vs:List V}{ds:List Da},RpAll G M H vs ds->RpAll G' M' H' vs ds
 |_,_,.nil => .nil
 |_,_,.cons h t => .cons (Rp.mv hk hg hr e hm h) (RpAll.mv hk hg hr e hm t)
end
inductive Ev where
 |val (d:Da) | own (j:Nat)
abbrev ai:=List (Option Ev)
abbrev Loc:=List (Option (List Da))
inductive Tv where
 |ev (e:Ev) | sl (vs:List V) (ds:List Da) | st (vs:List V) (ds:List Da) | lk (od:Obj) (kvs:List (Key × V)) (ds:List Da)
def Alive (O:List Addr) (L:Loc) (a:Addr):Prop:=∃(j:Nat) (ds:List Da),O[j]?=some a/\L[j]?=some (some ds)
def Pr (F:Fr) (O:List Addr) (L:Loc) (a:Addr):Prop:=F.N a\/Alive O L a
def Cg (F:Fr) (O:List Addr) (L:Loc) (a:Addr):Prop:=(F.W=true/\a∈F.G.R)\/Alive O L a
def aA (G:Gm) (M:Addr->Prop) (H:Hp) (a:Addr):Cell->Prop
 |.lst ds=>∃ xs,H a=some (.lst xs)/\RpAll G M H xs ds
 |.dct ks ds=>∃ kvs,Rd H a (.dK kvs)/\kvs.map Prod.fst=ks/\RpAll G M H (kvs.map Prod.snd) ds
 |.ins c ks ds=>∃ C dx fs,H a=some (.ins C dx fs)/\G.mg c=some (.ref C)/\fs.map Prod.fst=ks/\RpAll G M H (fs.map Prod.snd) ds
def TvOk (F:Fr) (O:List Addr) (L:Loc) (H:Hp) (v:V):Tv->Prop
 |.ev (.val d)=>Rp F.G (Pr F O L) H v d
 |.ev (.own j)=>∃(a:Addr) (ds:List Da),O[j]?=some a/\L[j]?=some (some ds)/\v = .ref a
 |.sl vs ds=>∃ a,v = .ref a/\¬ Cg F O L a/\Rd H a (.lst vs)/\RpAll F.G (Pr F O L) H vs ds
 |.st vs ds=>∃ a,v = .ref a/\((¬ Cg F O L a/\Rd H a (.tup vs))\/∀ H',SqT F.G.K H' a vs)/\RpAll F.G (Pr F O L) H vs ds
 |.lk od kvs ds=>∃ a,v = .ref a/\¬ Cg F O L a/\H a=some (.frz od (.dK kvs))/\RpAll F.G (Pr F O L) H (kvs.map Prod.snd) ds
structure CtxO (F:Fr) (O:List Addr) (H:Hp) (S:Sto) (L:Loc) (σ:L2.St) (δ:ai) (T:List (V × Tv)):Prop where
 len:F.G.R.length=S.length
 nd:F.G.R.Nodup
 rN:∀ a∈F.G.R,F.N a
 nN:∀ a,F.N a->H a≠none
 ap:∀ a,Alive O L a->¬ F.N a
 lo:O.length=L.length
 ond:∀(i j:Nat) (a:Addr) (ds es:List Da),O[i]?=some a->L[i]?=some (some ds)->O[j]?=some a->L[j]?=some (some es)->i=j
 oB:∀ a,Alive O L a->F.B a=none
 ln:δ.length=σ.length
 base:∀ b o,¬ (F.W=true/\b∈F.G.R)->F.B b=some o->H b=some o
 cells:∀(k:Nat) (a:Addr) (c:Cell),F.G.R[k]?=some a->S[k]?=some c->aA F.G (Pr F O L) H a c
 own:∀(j:Nat) (a:Addr) (ds:List Da),O[j]?=some a->L[j]?=some (some ds)->∃ xs,H a=some (.lst xs)/\RpAll F.G (Pr F O L) H xs ds
 env:∀(i:Nat) (e:Ev),δ[i]?=some (some e)->∃ v,σ[i]?=some (some v)/\TvOk F O L H v (.ev e)
 tmp:∀ p∈T,TvOk F O L H p.1 p.2
 ul:F.W=true->∀ a∈F.G.R,∀ o u,H a≠some (.frz o u)
def Ctx (F:Fr) (H:Hp) (S:Sto) (L:Loc) (σ:L2.St) (δ:ai) (T:List (V × Tv)):Prop:=∃ O,CtxO F O H S L σ δ T
section
variable {F:Fr}{O:List Addr}{H H':Hp}{S:Sto}{L:Loc}{σ:L2.St}{δ:ai}{T:List (V × Tv)}
theorem cP{G:Gm}{M:Addr->Prop}{a:Addr}{c:Cell}(h:aA G M H a c):H a≠none:=by
 cases c with
 |lst ds =>
  obtain⟨xs,e,_⟩:=h
  rw[e]
  exact fun z=>by cases z
 |dct ks ds =>
  obtain⟨xs,e,_⟩:=h
  exact fun z=>aQ e z
 |ins c ks ds =>
  obtain⟨_,_,_,e,_⟩:=h
  rw[e]
  exact fun z=>by cases z
theorem kB{H H':Hp}{a:Addr}{o:HO}(ha:∀ o,H a=some o->H' a=some o) (h:Rd H a o):Rd H' a o:=by
 rcases h with h | ⟨x,h⟩
 ·exact .inl (ha _ h)
 ·exact .inr ⟨x,ha _ h⟩
theorem fy{G G':Gm}{M M':Addr->Prop}{H H':Hp}{a:Addr}{c:Cell}(hk:G'.K=G.K) (hg:G'.mg=G.mg) (hr:∀(k:Nat) (a:Addr),G.R[k]?=some a->G'.R[k]?=some a) (s:Stay M H H') (m:∀ b,M' b->M b\/H b=none) (ha:∀ o,H a=some o->H' a=some o) (h:aA G M H a c):aA G' M' H' a c:=by
 cases c with
 |lst ds =>
  obtain⟨xs,q1,q2⟩:=h
  exact⟨xs,ha _ q1,RpAll.mv hk hg hr s m q2⟩
 |dct ks ds =>
  obtain⟨kvs,q1,q2,q3⟩:=h
  exact⟨kvs,kB ha q1,q2,RpAll.mv hk hg hr s m q3⟩
 |ins c ks ds =>
  obtain⟨C',dx,fs,q1,q2,q3,q4⟩:=h
  exact⟨C',dx,fs,ha _ q1,by rw[hg];exact q2,q3,RpAll.mv hk hg hr s m q4⟩
theorem bh{G:Gm}{M M':Addr->Prop}{H H':Hp}{a:Addr}{c:Cell}(s:Stay M H H') (m:∀ b,M' b->M b\/H b=none) (ha:∀ o,H a=some o->H' a=some o) (h:aA G M H a c):aA G M' H' a c:=fy rfl rfl (fun _ _ h=>h) s m ha h
theorem dA{H H':Hp}{a:Addr}(e:∀ o,H a=some o->H' a=some o) (n:H a≠none) (h:∀ o u,H a≠some (.frz o u)):∀ o u,H' a≠some (.frz o u):=fun o u z=>by
 cases q:H a with
 |none=>exact n q
 |some x =>
  rw[e x q] at z
  cases z
  exact h o u q
theorem CtxO.al(C:CtxO F O H S L σ δ T) {a:Addr}(h:Alive O L a):H a≠none:=by
 obtain⟨j,ds,h1,h2⟩:=h
 obtain⟨xs,e,_⟩:=C.own j a ds h1 h2
 rw[e]
 exact fun z=>by cases z
theorem CtxO.rH(C:CtxO F O H S L σ δ T) {a:Addr}(h:a∈F.G.R):H a≠none:=by
 obtain⟨k,hk⟩:=List.getElem?_of_mem h
 have l:k < S.length:=by
  rw[<- C.len]
  exact(List.getElem?_eq_some_iff.mp hk).1
 exact cP (C.cells k a S[k] hk (List.getElem?_eq_getElem l))
theorem CtxO.prH(C:CtxO F O H S L σ δ T) {a:Addr}(h:Pr F O L a):H a≠none:=h.elim (C.nN a) C.al
theorem jf{a:Addr}(r:∀ a∈F.G.R,F.N a) (h:Cg F O L a):Pr F O L a:=h.elim (fun h => .inl (r a h.2)) .inr
theorem gm{O':List Addr}{L':Loc}{v:V}(s:Stay (Pr F O L) H H') (s2:∀ b o,¬ Cg F O L b->H b=some o->H' b=some o) (hm:∀ b,Pr F O' L' b->Pr F O L b\/H b=none) (hc:∀ b,Cg F O' L' b->Cg F O L b\/H b=none)
  (ho:∀(j:Nat) (a:Addr) (ds:List Da),O[j]?=some a->L[j]?=some (some ds)->O'[j]?=some a/\∃ ds',L'[j]?=some (some ds')):∀{t:Tv},TvOk F O L H v t->TvOk F O' L' H' v t
 |.ev (.val d),h=>Rp.go s hm h
 |.ev (.own j),⟨a,ds,h1,h2,h3⟩=>let ⟨g1,ds',g2⟩:=ho j a ds h1 h2;⟨a,ds',g1,g2,h3⟩
 |.sl vs ds,⟨a,h1,n,h2,h3⟩=>by
  have th:H a≠none:=by
   rcases h2 with h2 | ⟨_,h2⟩ <;> (rw[h2];exact fun z=>by cases z)
  refine⟨a,h1,fun c=>(hc a c).elim n th,?_,RpAll.go s hm h3⟩
  rcases h2 with h2 | ⟨o,h2⟩
  ·exact .inl (s2 _ _ n h2)
  ·exact .inr ⟨o,s2 _ _ n h2⟩
 |.st vs ds,⟨a,h1,h2,h3⟩=>by
  refine⟨a,h1,?_,RpAll.go s hm h3⟩
  rcases h2 with ⟨n,h2⟩ | h2
  ·have th:H a≠none:=by
    rcases h2 with h2 | ⟨_,h2⟩ <;> (rw[h2];exact fun z=>by cases z)
   refine .inl ⟨fun c=>(hc a c).elim n th,?_⟩
   rcases h2 with h2 | ⟨o,h2⟩
   ·exact .inl (s2 _ _ n h2)
   ·exact .inr ⟨o,s2 _ _ n h2⟩
  ·exact .inr h2
 |.lk od kvs ds,⟨a,h1,n,h2,h3⟩=>⟨a,h1,fun c=>(hc a c).elim n (by rw[h2];exact fun z=>by cases z),s2 _ _ n h2,RpAll.go s hm h3⟩
theorem bO{H H':Hp}(e:Same H H') {a:Addr}(h:H a≠none):H' a≠none:=by
 cases q:H a with
 |none=>exact absurd q h
 |some o =>
  rw[e a o q]
  exact fun z=>by cases z
theorem CtxO.same(C:CtxO F O H S L σ δ T) (e:Same H H'):CtxO F O H' S L σ δ T:=by
 have s:Stay (Pr F O L) H H':=Stay.of fun b o _ h=>e b o h
 have m:∀ b,Pr F O L b->Pr F O L b\/H b=none:=fun b h => .inl h
 have tg:∀ v t,TvOk F O L H v t->TvOk F O L H' v t:=fun v t=>gm s (fun b o _ h=>e b o h) m (fun b h => .inl h) fun j a ds h1 h2=>⟨h1,ds,h2⟩
 refine { C with nN:=fun a h=>bO e (C.nN a h),base:=fun b o n h=>e b o (C.base b o n h),cells:=fun k a c h1 h2=>?_,own:=fun j a ds h1 h2=>?_,env:=fun i x h=>?_,tmp:=fun p h=>tg _ _ (C.tmp p h),ul:=fun w a ha=>dA (fun o h=>e a o h) (C.rH ha) (C.ul w a ha) }
 ·exact bh s m (fun o h=>e _ o h) (C.cells k a c h1 h2)
 ·obtain⟨xs,q1,q2⟩:=C.own j a ds h1 h2
  exact⟨xs,e _ _ q1,RpAll.go s m q2⟩
 ·obtain⟨v,q1,q2⟩:=C.env i x h
  exact⟨v,q1,tg _ _ q2⟩
theorem CtxO.push(C:CtxO F O H S L σ δ T) {v:V}{t:Tv}(h:TvOk F O L H v t):CtxO F O H S L σ δ ((v,t)::T):=by
 refine { C with tmp:=fun p hp=>?_ }
 rcases List.mem_cons.mp hp with rfl | hp
 ·exact h
 ·exact C.tmp p hp
theorem CtxO.sub(C:CtxO F O H S L σ δ T) {T':List (V × Tv)}(h:∀ p∈T',p∈T):CtxO F O H S L σ δ T':={ C with tmp:=fun p hp=>C.tmp p (h p hp) }
theorem CtxO.pop{p:V × Tv}(C:CtxO F O H S L σ δ (p::T)):CtxO F O H S L σ δ T:=C.sub fun q hq=>List.mem_cons_of_mem _ hq
theorem CtxO.set(C:CtxO F O H S L σ δ T) {v:V}{e:Ev}(i:Nat) (h:TvOk F O L H v (.ev e)):CtxO F O H S L (σ.set i (some v)) (δ.set i (some e)) T:=by
 refine { C with ln:=by rw[List.length_set,List.length_set];exact C.ln,env:=fun j x q=>?_ }
 rw[List.getElem?_set] at q
 by_cases c:i=j
 ·subst c
  rw[if_pos rfl] at q
  by_cases l:i < δ.length
  ·rw[if_pos l] at q
   cases q
   exact⟨v,by rw[List.getElem?_set,if_pos rfl,if_pos (by rw[<- C.ln];exact l)],h⟩
  ·rw[if_neg l] at q
   cases q
 ·rw[if_neg c] at q
  obtain⟨u,q1,q2⟩:=C.env j x q
  exact⟨u,by rw[List.getElem?_set,if_neg c];exact q1,q2⟩
theorem CtxO.env_le(C:CtxO F O H S L σ δ T) {σ':L2.St}{δ':ai}(hl:δ'.length=σ'.length) (h:∀(i:Nat) (e:Ev),δ'[i]?=some (some e)->δ[i]?=some (some e)/\σ'[i]?=σ[i]?):CtxO F O H S L σ' δ' T:=by
 refine { C with ln:=hl,env:=fun j x q=>?_ }
 obtain⟨q1,q2⟩:=h j x q
 obtain⟨v,q3,q4⟩:=C.env j x q1
 exact⟨v,q2.trans q3,q4⟩
theorem CtxO.jlt(C:CtxO F O H S L σ δ T) {v:V}{j:Nat}(h:TvOk F O L H v (.ev (.own j))):j < L.length:=by
 obtain⟨a,ds,h1,_⟩:=h
 rw[<- C.lo]
 exact(List.getElem?_eq_some_iff.mp h1).1
theorem CtxO.chg(C:CtxO F O H S L σ δ T) {S':Sto}{L':Loc}(e:∀ b o,¬ Cg F O L b->H b=some o->H' b=some o) (hS:S'.length=S.length) (hL:L'.length=L.length) (hu:F.W=true->∀ a∈F.G.R,∀ o u,H' a≠some (.frz o u))
  (al:∀ j:Nat,(∃ ds,L'[j]?=some (some ds)) ↔ ∃ ds,L[j]?=some (some ds))
  (cells:Stay (Pr F O L) H H'->∀(k:Nat) (a:Addr) (c:Cell),F.G.R[k]?=some a->S'[k]?=some c->aA F.G (Pr F O L) H' a c)
  (own:Stay (Pr F O L) H H'->∀(j:Nat) (a:Addr) (ds:List Da),O[j]?=some a->L'[j]?=some (some ds)->∃ xs,H' a=some (.lst xs)/\RpAll F.G (Pr F O L) H' xs ds):CtxO F O H' S' L' σ δ T:=by
 have s:Stay (Pr F O L) H H':=Stay.of fun b o n h=>e b o (fun c=>n (jf C.rN c)) h
 have ea:∀ a,Alive O L' a ↔ Alive O L a:=fun a=>⟨fun⟨j,ds,h1,h2⟩=>let ⟨es,h3⟩:=(al j).mp ⟨ds,h2⟩;⟨j,es,h1,h3⟩,fun⟨j,ds,h1,h2⟩=>let ⟨es,h3⟩:=(al j).mpr ⟨ds,h2⟩;⟨j,es,h1,h3⟩⟩
 have ep:Pr F O L'=Pr F O L:=funext fun a=>propext ⟨fun h=>h.imp id (ea a).mp,fun h=>h.imp id (ea a).mpr⟩
 have ec:Cg F O L'=Cg F O L:=funext fun a=>propext ⟨fun h=>h.imp id (ea a).mp,fun h=>h.imp id (ea a).mpr⟩
 have tg:∀ v t,TvOk F O L H v t->TvOk F O L' H' v t:=fun v t=>gm s e (fun b h => .inl (by rw[ep] at h;exact h)) (fun b h => .inl (by rw[ec] at h;exact h)) fun j a ds h1 h2=>⟨h1,(al j).mpr ⟨ds,h2⟩⟩
 refine { C with len:=by rw[hS];exact C.len,nN:=fun a h=>?_,ap:=fun a h=>C.ap a ((ea a).mp h),lo:=by rw[hL];exact C.lo,ond:=fun i j a ds es h1 h2 h3 h4=>?_,oB:=fun a h=>C.oB a ((ea a).mp h),base:=fun b o n h=>?_,cells:=by rw[ep];exact cells s,own:=by rw[ep];exact own s,env:=fun i x h=>?_,tmp:=fun p h=>tg _ _ (C.tmp p h),ul:=hu }
 ·by_cases c:Cg F O L a
  ·rcases c with c | c
   ·obtain⟨k,hk⟩:=List.getElem?_of_mem c.2
    have l:k < S'.length:=by
     rw[hS,<- C.len]
     exact(List.getElem?_eq_some_iff.mp hk).1
    exact cP (cells s k a S'[k] hk (List.getElem?_eq_getElem l))
   ·exact absurd h (C.ap a c)
  ·cases q:H a with
   |none=>exact absurd q (C.nN a h)
   |some o =>
    rw[e a o c q]
    exact fun z=>by cases z
 ·obtain⟨ds',h2'⟩:=(al i).mp ⟨ds,h2⟩
  obtain⟨es',h4'⟩:=(al j).mp ⟨es,h4⟩
  exact C.ond i j a ds' es' h1 h2' h3 h4'
 ·refine e b o (fun c=>?_) (C.base b o n h)
  rcases c with c | c
  ·exact n c
  ·rw[C.oB b c] at h
   cases h
 ·obtain⟨v,q1,q2⟩:=C.env i x h
  exact⟨v,q1,tg _ _ q2⟩
theorem CtxO.cell_go(C:CtxO F O H S L σ δ T) (s:Stay (Pr F O L) H H') {a:Addr}{c:Cell}(h:aA F.G (Pr F O L) H a c) (ha:∀ o,H a=some o->H' a=some o):aA F.G (Pr F O L) H' a c:=bh s (fun b h => .inl h) ha h
theorem CtxO.apart(C:CtxO F O H S L σ δ T) {a:Addr}(h:Alive O L a):a ∉ F.G.R:=fun c=>C.ap a h (C.rN a c)
theorem CtxO.updL(C:CtxO F O H S L σ δ T) {j:Nat}{a:Addr}{ds:List Da}{xs':List V}{ds':List Da}(h1:O[j]?=some a) (h2:L[j]?=some (some ds)) (h3:RpAll F.G (Pr F O L) H xs' ds') :
  CtxO F O (upd H a (.lst xs')) S (L.set j (some ds')) σ δ T:=by
 have hj:j < L.length:=(List.getElem?_eq_some_iff.mp h2).1
 have ha:Alive O L a:=⟨j,ds,h1,h2⟩
 have m:∀ b,Pr F O L b->Pr F O L b\/H b=none:=fun b h => .inl h
 refine C.chg (fun b o n h=>?_) rfl (List.length_set ..) (fun w b hb o u z=>by rw[upd_ne (fun z=>C.apart ha (by rw[<- z];exact hb))] at z;exact C.ul w b hb o u z) (fun i=>?_) (fun s k b c g1 g2=>?_) (fun s i b es g1 g2=>?_)
 ·rw[upd_ne fun z=>n (.inr (by rw[z];exact ha))]
  exact h
 ·rw[List.getElem?_set]
  by_cases c:j=i
  ·subst c
   rw[if_pos rfl,if_pos hj]
   exact⟨fun _=>⟨ds,h2⟩,fun _=>⟨ds',rfl⟩⟩
  ·rw[if_neg c]
 ·refine C.cell_go s (C.cells k b c g1 g2) fun o e=>?_
  rw[upd_ne fun z=>C.apart ha (by rw[<- z];exact List.mem_of_getElem? g1)]
  exact e
 ·rw[List.getElem?_set] at g2
  by_cases c:j=i
  ·subst c
   rw[if_pos rfl,if_pos hj] at g2
   cases g2
   rw[h1] at g1
   cases g1
   exact⟨xs',upd_same,RpAll.go s m h3⟩
  ·rw[if_neg c] at g2
   obtain⟨xs,e1,e2⟩:=C.own i b es g1 g2
   refine⟨xs,?_,RpAll.go s m e2⟩
   rw[upd_ne fun z=>?_]
   ·exact e1
   ·subst z
    exact c (C.ond j i b ds es h1 h2 g1 g2)
theorem CtxO.updS(C:CtxO F O H S L σ δ T) (hW:F.W=true) {k:Nat}{a:Addr}{c c':Cell}{o':HO}(h1:F.G.R[k]?=some a) (h2:S[k]?=some c) (h3:Stay (Pr F O L) H (upd H a o')->aA F.G (Pr F O L) (upd H a o') a c') (ho:∀ o u,o' ≠ .frz o u) :
  CtxO F O (upd H a o') (S.set k c') L σ δ T:=by
 have hk:k < S.length:=(List.getElem?_eq_some_iff.mp h2).1
 have m:∀ b,Pr F O L b->Pr F O L b\/H b=none:=fun b h => .inl h
 have ar:a∈F.G.R:=List.mem_of_getElem? h1
 refine C.chg (fun b o n h=>?_) (List.length_set ..) rfl (fun w b hb o u z=>by
  by_cases q:b=a
  ·rw[q,upd_same] at z
   exact ho o u (Option.some.inj z)
  ·rw[upd_ne q] at z
   exact C.ul w b hb o u z) (fun i=>Iff.rfl) (fun s i b x g1 g2=>?_) (fun s i b es g1 g2=>?_)
 ·rw[upd_ne fun z=>n (.inl ⟨hW,by rw[z];exact ar⟩)]
  exact h
 ·rw[List.getElem?_set] at g2
  by_cases c:k=i
  ·subst c
   rw[if_pos rfl,if_pos hk] at g2
   cases g2
   rw[h1] at g1
   cases g1
   exact h3 s
  ·rw[if_neg c] at g2
   refine C.cell_go s (C.cells i b x g1 g2) fun o e=>?_
   rw[upd_ne fun z=>?_]
   ·exact e
   ·subst z
    exact c ((List.getElem?_inj (List.getElem?_eq_some_iff.mp h1).1 C.nd).mp (h1.trans g1.symm))
 ·obtain⟨xs,e1,e2⟩:=C.own i b es g1 g2
  refine⟨xs,?_,RpAll.go s m e2⟩
  rw[upd_ne fun z=>C.apart ⟨i,es,g1,g2⟩ (by rw[z];exact ar)]
  exact e1
theorem CtxO.callW(C:CtxO F O H S L σ δ T) (hW:F.W=true) {S':Sto}(e:∀ b o,b ∉ F.G.R->H b=some o->H' b=some o) (hS:S'.length=S.length) (hu:∀ a∈F.G.R,∀ o u,H' a≠some (.frz o u))
  (h:∀(k:Nat) (a:Addr) (c:Cell),F.G.R[k]?=some a->S'[k]?=some c->aA F.G (Pr F O L) H' a c):CtxO F O H' S' L σ δ T:=by
 have m:∀ b,Pr F O L b->Pr F O L b\/H b=none:=fun b h => .inl h
 refine C.chg (fun b o n h=>e b o (fun c=>n (.inl ⟨hW,c⟩)) h) hS rfl (fun _=>hu) (fun i=>Iff.rfl) (fun _=>h) (fun s i b es g1 g2=>?_)
 obtain⟨xs,e1,e2⟩:=C.own i b es g1 g2
 exact⟨xs,e b _ (C.apart ⟨i,es,g1,g2⟩) e1,RpAll.go s m e2⟩
theorem CtxO.adopt(C:CtxO F O H S L σ δ T) {D:Addr}{xs:List V}{ds:List Da}(e:Same H H') (hD:H D=none) (hx:H' D=some (.lst xs)) (h:RpAll F.G (fun b=>Pr F O L b\/b=D) H' xs ds):CtxO F (O++[D]) H' S (L++[some ds]) σ δ T:=by
 have s:Stay (Pr F O L) H H':=Stay.of fun b o _ h=>e b o h
 have gl:∀(j:Nat) (a:Addr) (es:List Da),O[j]?=some a->L[j]?=some (some es)->(O++[D])[j]?=some a/\(L++[some ds])[j]?=some (some es):=fun j a es h1 h2 =>
  ⟨by rw[List.getElem?_append_left (List.getElem?_eq_some_iff.mp h1).1];exact h1,by rw[List.getElem?_append_left (List.getElem?_eq_some_iff.mp h2).1];exact h2⟩
 have back:∀(j:Nat) (a:Addr) (es:List Da),(O++[D])[j]?=some a->(L++[some ds])[j]?=some (some es)->(O[j]?=some a/\L[j]?=some (some es))\/(j=L.length/\a=D/\es=ds):=fun j a es h1 h2=>by
  by_cases c:j < L.length
  ·rw[List.getElem?_append_left c] at h2
   rw[List.getElem?_append_left (by rw[C.lo];exact c)] at h1
   exact .inl ⟨h1,h2⟩
  ·have l:=(List.getElem?_eq_some_iff.mp h2).1
   rw[List.length_append] at l
   have ej:j=L.length:=by
    have:([some ds]:List (Option (List Da))).length=1:=rfl
    omega
   subst ej
   rw[List.getElem?_append_right (Nat.le_refl _),Nat.sub_self] at h2
   rw[List.getElem?_append_right (by rw[C.lo];exact Nat.le_refl _),C.lo,Nat.sub_self] at h1
   cases h1
   cases h2
   exact .inr ⟨rfl,rfl,rfl⟩
 have al:∀ b,Alive (O++[D]) (L++[some ds]) b->Alive O L b\/b=D:=fun b ⟨j,es,h1,h2⟩=>(back j b es h1 h2).elim (fun q => .inl ⟨j,es,q.1,q.2⟩) fun q => .inr q.2.1
 have m:∀ b,Pr F (O++[D]) (L++[some ds]) b->Pr F O L b\/H b=none:=fun b h=>by
  rcases h with h | h
  ·exact .inl (.inl h)
  ·rcases al b h with h | rfl
   ·exact .inl (.inr h)
   ·exact .inr hD
 have mc:∀ b,Cg F (O++[D]) (L++[some ds]) b->Cg F O L b\/H b=none:=fun b h=>by
  rcases h with h | h
  ·exact .inl (.inl h)
  ·rcases al b h with h | rfl
   ·exact .inl (.inr h)
   ·exact .inr hD
 have tg:∀ v t,TvOk F O L H v t->TvOk F (O++[D]) (L++[some ds]) H' v t:=fun v t=>gm s (fun b o _ h=>e b o h) m mc fun j a es h1 h2=>let q:=gl j a es h1 h2;⟨q.1,es,q.2⟩
 refine { C with nN:=fun a h=>bO e (C.nN a h),ap:=fun a h=>(al a h).elim (C.ap a) (fun z c=>C.nN a c (by rw[z];exact hD)),lo:=by rw[List.length_append,List.length_append,C.lo];rfl,ond:=fun i j a es fs h1 h2 h3 h4=>?_,oB:=fun a h=>?_,base:=fun b o n h=>e b o (C.base b o n h),cells:=fun k a c h1 h2=>?_,own:=fun j a es h1 h2=>?_,env:=fun i x h=>?_,tmp:=fun p h=>tg _ _ (C.tmp p h),ul:=fun w a ha=>dA (fun o h=>e a o h) (C.rH ha) (C.ul w a ha) }
 ·rcases back i a es h1 h2 with q | q <;> rcases back j a fs h3 h4 with r | r
  ·exact C.ond i j a es fs q.1 q.2 r.1 r.2
  ·have z:=C.al ⟨i,es,q.1,q.2⟩
   rw[r.2.1] at z
   exact absurd hD z
  ·have z:=C.al ⟨j,fs,r.1,r.2⟩
   rw[q.2.1] at z
   exact absurd hD z
  ·rw[q.1,r.1]
 ·rcases al a h with h | rfl
  ·exact C.oB a h
  ·cases q:F.B a with
   |none=>rfl
   |some o =>
    by_cases c:F.W=true/\a∈F.G.R
    ·exact absurd hD (C.rH c.2)
    ·rw[C.base a o c q] at hD
     cases hD
 ·exact bh s m (fun o h=>e _ o h) (C.cells k a c h1 h2)
 ·rcases back j a es h1 h2 with q | q
  ·obtain⟨ys,e1,e2⟩:=C.own j a es q.1 q.2
   exact⟨ys,e _ _ e1,RpAll.go s m e2⟩
  ·rw[q.2.1,q.2.2]
   exact⟨xs,hx,RpAll.go (Stay.of fun _ _ _ h=>h) (fun b z => .inl (z.elim (fun z => .inl (.inl z)) fun z=>(al b z).elim (fun z => .inl (.inr z)) .inr)) h⟩
 ·obtain⟨v,q1,q2⟩:=C.env i x h
  exact⟨v,q1,tg _ _ q2⟩
theorem CtxO.new(C:CtxO F O H S L σ δ T) {D:Addr}{xs:List V}{ds:List Da}(hD:H D=none) (h:RpAll F.G (Pr F O L) H xs ds):CtxO F (O++[D]) (upd H D (.lst xs)) S (L++[some ds]) σ δ T :=
 C.adopt (aM hD) hD upd_same (RpAll.go (Stay.of fun b o _ h=>aM hD b o h) (fun b z=>z.elim .inl fun z => .inr (by rw[z];exact hD)) h)
end
section
variable {F:Fr}{O:List Addr}{H H':Hp}{S:Sto}{L:Loc}{σ:L2.St}{δ:ai}{T:List (V × Tv)}
theorem aS(M:Addr->Prop) (H:Hp):Stay M H H:=Stay.of fun _ _ _ h=>h
def OwnLt (n:Nat):Tv->Prop
 |.ev (.own j)=>j < n
 |_=>True
theorem CtxO.cut{X:List Addr}{Y:Loc}(C:CtxO F (O++X) H S (L++Y) σ δ T) (lo:O.length=L.length) (hδ:∀(i:Nat) (e:Ev),δ[i]?=some (some e)->OwnLt L.length (.ev e)) (hT:∀ p∈T,OwnLt L.length p.2):CtxO F O H S L σ δ T:=by
 have up:∀(j:Nat) (a:Addr) (ds:List Da),O[j]?=some a->L[j]?=some (some ds)->(O++X)[j]?=some a/\(L++Y)[j]?=some (some ds):=fun j a ds h1 h2 =>
  ⟨by rw[List.getElem?_append_left (List.getElem?_eq_some_iff.mp h1).1];exact h1,by rw[List.getElem?_append_left (List.getElem?_eq_some_iff.mp h2).1];exact h2⟩
 have al:∀ a,Alive O L a->Alive (O++X) (L++Y) a:=fun a ⟨j,ds,h1,h2⟩=>let q:=up j a ds h1 h2;⟨j,ds,q.1,q.2⟩
 have m:∀ b,Pr F O L b->Pr F (O++X) (L++Y) b\/H b=none:=fun b h => .inl (h.imp id (al b))
 have mc:∀ b,Cg F O L b->Cg F (O++X) (L++Y) b\/H b=none:=fun b h => .inl (h.imp id (al b))
 have s:=aS (Pr F (O++X) (L++Y)) H
 have dn:∀(j:Nat) (a:Addr) (ds:List Da),j < L.length->(O++X)[j]?=some a->(L++Y)[j]?=some (some ds)->O[j]?=some a/\L[j]?=some (some ds):=fun j a ds l h1 h2 =>
  ⟨by rw[List.getElem?_append_left (by rw[lo];exact l)] at h1;exact h1,by rw[List.getElem?_append_left l] at h2;exact h2⟩
 have tg:∀ v t,OwnLt L.length t->TvOk F (O++X) (L++Y) H v t->TvOk F O L H v t:=fun v t hl h=>by
  cases t with
  |ev e =>
   cases e with
   |val d=>exact Rp.go s m h
   |own j =>
    obtain⟨a,ds,h1,h2,h3⟩:=h
    obtain⟨q1,q2⟩:=dn j a ds hl h1 h2
    exact⟨a,ds,q1,q2,h3⟩
  |sl vs ds =>
   obtain⟨a,h1,n,h2,h3⟩:=h
   exact⟨a,h1,fun c=>n (c.imp id (al a)),h2,RpAll.go s m h3⟩
  |st vs ds =>
   obtain⟨a,h1,h2,h3⟩:=h
   exact⟨a,h1,h2.imp (fun q=>⟨fun c=>q.1 (c.imp id (al a)),q.2⟩) id,RpAll.go s m h3⟩
  |lk od kvs ds =>
   obtain⟨a,h1,n,h2,h3⟩:=h
   exact⟨a,h1,fun c=>n (c.imp id (al a)),h2,RpAll.go s m h3⟩
 refine { C with ap:=fun a h=>C.ap a (al a h),lo:=lo,ond:=fun i j a ds es h1 h2 h3 h4=>?_,oB:=fun a h=>C.oB a (al a h),cells:=fun k a c h1 h2=>?_,own:=fun j a ds h1 h2=>?_,env:=fun i x h=>?_,tmp:=fun p h=>tg _ _ (hT p h) (C.tmp p h) }
 ·have q1:=up i a ds h1 h2
  have q2:=up j a es h3 h4
  exact C.ond i j a ds es q1.1 q1.2 q2.1 q2.2
 ·exact bh s m (fun o h=>h) (C.cells k a c h1 h2)
 ·have q:=up j a ds h1 h2
  obtain⟨xs,e1,e2⟩:=C.own j a ds q.1 q.2
  exact⟨xs,e1,RpAll.go s m e2⟩
 ·obtain⟨v,q1,q2⟩:=C.env i x h
  exact⟨v,q1,tg _ _ (hδ i x h) q2⟩
theorem CtxO.lts(C:CtxO F O H S L σ δ T):(∀(i:Nat) (e:Ev),δ[i]?=some (some e)->OwnLt L.length (.ev e))/\∀ p∈T,OwnLt L.length p.2:=by
 have one:∀ v t,TvOk F O L H v t->OwnLt L.length t:=fun v t h=>by
  cases t with
  |ev e =>
   cases e with
   |val d=>trivial
   |own j=>exact C.jlt h
  |sl vs ds=>trivial
  |st vs ds=>trivial
  |lk od kvs ds=>trivial
 refine⟨fun i e h=>?_,fun p hp=>one _ _ (C.tmp p hp)⟩
 obtain⟨v,_,q⟩:=C.env i e h
 exact one _ _ q
theorem CtxO.frz{D:Addr}{ds:List Da}(C:CtxO F (O++[D]) H S (L++[some ds]) σ δ T) (lo:O.length=L.length) (hδ:∀(i:Nat) (e:Ev),δ[i]?=some (some e)->OwnLt L.length (.ev e)) (hT:∀ p∈T,OwnLt L.length p.2):CtxO F O H S L σ δ ((.ref D,.ev (.val (.lst ds)))::T):=by
 have C2:=C.cut lo hδ hT
 refine C2.push ?_
 have o1:(O++[D])[L.length]?=some D:=by rw[<- lo,List.getElem?_append_right (Nat.le_refl _),Nat.sub_self];rfl
 have o2:(L++[some ds])[L.length]?=some (some ds):=by rw[List.getElem?_append_right (Nat.le_refl _),Nat.sub_self];rfl
 obtain⟨xs,e1,e2⟩:=C.own L.length D ds o1 o2
 have al:∀ a,Alive O L a->Alive (O++[D]) (L++[some ds]) a:=fun a ⟨j,ds',h1,h2⟩ =>
  ⟨j,ds',by rw[List.getElem?_append_left (List.getElem?_eq_some_iff.mp h1).1];exact h1,by rw[List.getElem?_append_left (List.getElem?_eq_some_iff.mp h2).1];exact h2⟩
 refine .lst (fun c=>?_) e1 (RpAll.go (aS _ H) (fun b h => .inl (h.imp id (al b))) e2)
 rcases c with c | ⟨j,es,h1,h2⟩
 ·exact C.ap D ⟨_,_,o1,o2⟩ c
 ·have l:j < L.length:=(List.getElem?_eq_some_iff.mp h2).1
  have q:=C.ond j L.length D es ds (by rw[List.getElem?_append_left (by rw[lo];exact l)];exact h1) (by rw[List.getElem?_append_left l];exact h2) o1 o2
  omega
def c7:Cell->Da
 |.lst ds => .lst ds
 |.dct ks ds => .dct ks ds
 |.ins c ks ds => .obj c ks ds
def rdD (S:Sto):Da->Option Da
 |.ref k=>S[k]?.map c7
 |d=>some d
def rdE (S:Sto) (L:Loc):Ev->Option Da
 |.val d=>rdD S d
 |.own j=>(match L[j]? with | some (some ds)=>some (.lst ds) | _=>none)
inductive Rq (G:Gm) (M:Addr->Prop) (H:Hp):V->Da->Prop
 |non:Rq G M H .non .non
 |bl (b:Bool):Rq G M H (.bl b) (.bl b)
 |int (i:Int):Rq G M H (.int i) (.int i)
 |str (z:Str):Rq G M H (.str z) (.str z)
 |lst {a:Addr}{xs:List V}{ds:List Da}:H a=some (.lst xs)->RpAll G M H xs ds->Rq G M H (.ref a) (.lst ds)
 |fls {a:Addr}{xs:List V}{ds:List Da}:SqL G.K H a xs->RpAll G M H xs ds->Rq G M H (.ref a) (.fls ds)
 |tup {a:Addr}{xs:List V}{ds:List Da}:SqT G.K H a xs->RpAll G M H xs ds->Rq G M H (.ref a) (.tup ds)
 |dct {a:Addr}{kvs:List (Key × V)}{ks:List Key}{ds:List Da}:Rd H a (.dK kvs)->kvs.map Prod.fst=ks->RpAll G M H (kvs.map Prod.snd) ds->Rq G M H (.ref a) (.dct ks ds)
 |obj {a C dx:Addr}{fs:List (Str × V)}{c:Str}{ks:List Str}{ds:List Da}:H a=some (.ins C dx fs)->G.mg c=some (.ref C)->fs.map Prod.fst=ks->RpAll G M H (fs.map Prod.snd) ds->Rq G M H (.ref a) (.obj c ks ds)
 |fn {a:Addr}{f:Str}:G.mg f=some (.ref a)->Rq G M H (.ref a) (.fn f)
 |ktp {a:Addr}{xs:List V}{ds:List Da}:(∀ H',SqT G.K H' a xs)->(∃ o,G.K.lookup a=some o/\o.cls = .type "tuple"/\o.dict=none)->RpAll G M H xs ds->Rq G M H (.ref a) (.ktp ds)
 |nd {a:Addr}{es:List NE}{ks xs:List Da}:H a=some (NdO a es)->ks.map nkD=es.map (fun e=>some e.1)->(∀ e∈es,e.1.depth<=8)->RpAll G M H (es.map fun e=>V.ref e.2.1) ks->RpAll G M H (es.map fun e=>e.2.2) xs->Rq G M H (.ref a) (.nd ks xs)
theorem CtxO.rd(C:CtxO F O H S L σ δ T) {v:V}{e:Ev}{d:Da}(h:TvOk F O L H v (.ev e)) (hd:rdE S L e=some d):Rq F.G (Pr F O L) H v d:=by
 cases e with
 |own j =>
  obtain⟨a,ds,h1,h2,rfl⟩:=h
  obtain⟨xs,e1,e2⟩:=C.own j a ds h1 h2
  have q:rdE S L (.own j)=some (.lst ds):=by
   show (match L[j]? with | some (some ds)=>some (Da.lst ds) | _=>none)=_
   rw[h2]
  rw[q] at hd
  cases hd
  exact .lst e1 e2
 |val d0 =>
  have h:Rp F.G (Pr F O L) H v d0:=h
  cases h with
  |non=>cases hd;exact .non
  |bl b=>cases hd;exact .bl b
  |int i=>cases hd;exact .int i
  |str z=>cases hd;exact .str z
  |lst m r t=>cases hd;exact .lst r t
  |fls r t=>cases hd;exact .fls (r.imp (·.2) id) t
  |tup m r t=>cases hd;exact .tup (.inl (.inl r)) t
  |ktup r t=>cases hd;exact .tup (r H) t
  |dct m r k t=>cases hd;exact .dct r k t
  |obj m r c k t=>cases hd;exact .obj r c k t
  |fn r=>cases hd;exact .fn r
  |ktp r o t=>cases hd;exact .ktp r o t
  |nd m r k d t u=>cases hd;exact .nd r k d t u
  |@ref a k r =>
   have hd:S[k]?.map c7=some d:=hd
   cases e:S[k]? with
   |none =>
    rw[e] at hd
    cases hd
   |some c =>
    rw[e] at hd
    have q:=C.cells k a c r e
    cases c with
    |lst ds =>
     cases hd
     obtain⟨xs,q1,q2⟩:=q
     exact .lst q1 q2
    |dct ks ds =>
     cases hd
     obtain⟨kvs,q1,q2,q3⟩:=q
     exact .dct q1 q2 q3
    |ins c ks ds =>
     cases hd
     obtain⟨C',dx,fs,q1,q2,q3,q4⟩:=q
     exact .obj q1 q2 q3 q4
end
structure Sk where
 K:PySem.W.Frag
 mg:Str->Option Value
 W:Bool
abbrev DE:=Sto->Loc->ai->Option (Sto × Ev)
abbrev DN:=Sto->Loc->ai->Option (Sto × List Da)
abbrev DT:=Sto->Loc->ai->Option (Sto × Bool)
abbrev DA:=Sto->Loc->ai->Option (Sto × List Ev)
def Of (Z:Sk) (F:Fr):Prop:=F.G.K=Z.K/\F.G.mg=Z.mg/\F.W=Z.W
structure Gr (F F':Fr):Prop where
 k:F'.G.K=F.G.K
 m:F'.G.mg=F.G.mg
 w:F'.W=F.W
 b:F'.B=F.B
 r:∃ X,F'.G.R=F.G.R++X/\(∀ a∈X,F.B a=none)/\∀ a,F'.N a ↔ (F.N a\/a∈X)
 f:F.W=false->F'=F
theorem Gr.refl(F:Fr):Gr F F:=⟨rfl,rfl,rfl,rfl,⟨[],by rw[List.append_nil],fun _ h=>by simp at h,fun a=>⟨.inl,fun h=>h.elim id fun h=>by simp at h⟩⟩,fun _=>rfl⟩
theorem Gr.trans{F F1 F2:Fr}(a:Gr F F1) (b:Gr F1 F2):Gr F F2:=by
 refine⟨b.k.trans a.k,b.m.trans a.m,b.w.trans a.w,b.b.trans a.b,?_,fun h=>(b.f (a.w.trans h)).trans (a.f h)⟩
 obtain⟨X,x1,x2,x3⟩:=a.r
 obtain⟨Y,y1,y2,y3⟩:=b.r
 refine⟨X++Y,by rw[y1,x1,List.append_assoc],fun c h=>?_,fun c=>?_⟩
 ·rcases List.mem_append.mp h with h | h
  ·exact x2 c h
  ·rw[<- a.b]
   exact y2 c h
 ·rw[y3,x3,List.mem_append,or_assoc]
theorem Of.gr{Z:Sk}{F F':Fr}(h:Of Z F) (g:Gr F F'):Of Z F':=⟨g.k.trans h.1,g.m.trans h.2.1,g.w.trans h.2.2⟩
def tE (Z:Sk) (D:DE):TE:=fun σ H Q=>∃ F S L δ T S' e,Of Z F/\Ctx F H S L σ δ T/\D S L δ=some (S',e)/\∀ F' v H',Gr F F'->Ctx F' H' S' L σ δ ((v,.ev e)::T)->Q v H'
def tN (Z:Sk) (D:DN):TE:=fun σ H Q=>∃ F S L δ T S' ds,Of Z F/\Ctx F H S L σ δ T/\D S L δ=some (S',ds)/\∀ F' v H',Gr F F'->Ctx F' H' S' (L++[some ds]) σ δ ((v,.ev (.own L.length))::T)->Q v H'
def tT (Z:Sk) (D:DT):TT:=fun σ H Q=>∃ F S L δ T S' b,Of Z F/\Ctx F H S L σ δ T/\D S L δ=some (S',b)/\∀ F' H',Gr F F'->Ctx F' H' S' L σ δ T->Q b H'
def tA (Z:Sk) (D:DA):TA:=fun σ H Q=>∃ F S L δ T S' es,Of Z F/\Ctx F H S L σ δ T/\D S L δ=some (S',es)/\∀ F' vs H',Gr F F'->vs.length=es.length->Ctx F' H' S' L σ δ (vs.zip (es.map Tv.ev)++T)->Q vs H'
theorem az{X:Cx}{e:Expr}{t t':TE}(h:PE X e t) (w:∀ σ H Q,t' σ H Q->t σ H Q):PE X e t':=⟨fun pins s σ H Q I q=>h.run pins s σ H Q I (w σ H Q q)⟩
theorem gP{X:Cx}{e:Expr}{t t':TT}(h:PT X e t) (w:∀ σ H Q,t' σ H Q->t σ H Q):PT X e t':=⟨fun pins s σ H Q I q=>h.run pins s σ H Q I (w σ H Q q)⟩
theorem i9{X:Cx}{e:Expr}{t t':TT}(h:PW X e t) (w:∀ σ H Q,t' σ H Q->t σ H Q):PW X e t':=⟨fun x pins s σ H Q I q=>h.run x pins s σ H Q I (w σ H Q q)⟩
theorem ic{X:Cx}{e:List Expr}{t t':TA}(h:PA X e t) (w:∀ σ H Q,t' σ H Q->t σ H Q):PA X e t':=⟨fun p pins s σ H Q I q=>h.run p pins s σ H Q I (w σ H Q q)⟩
namespace D
def E (i:Nat):DE:=fun S _ δ=>match δ[i]? with
 |some (some e)=>some (S,e)
 |_=>none
def c (d:Da):DE:=fun S _ _=>some (S,.val d)
def I (f:Da->Da->Option Da) (a b:DE):DE:=fun S L δ=>(a S L δ).bind fun p=>(b p.1 L δ).bind fun q=>(rdE q.1 L p.2).bind fun x=>(rdE q.1 L q.2).bind fun y=>(f x y).map fun d=>(q.1,.val d)
def un (f:Da->Option Da) (a:DE):DE:=fun S L δ=>(a S L δ).bind fun p=>(rdE p.1 L p.2).bind fun x=>(f x).map fun d=>(p.1,.val d)
def unN (f:Da->Option (List Da)) (a:DE):DN:=fun S L δ=>(a S L δ).bind fun p=>(rdE p.1 L p.2).bind fun x=>(f x).map fun d=>(p.1,d)
def G:DA:=fun S _ _=>some (S,[])
def F (a:DE) (r:DA):DA:=fun S L δ=>(a S L δ).bind fun p=>(r p.1 L δ).map fun q=>(q.1,p.2::q.2)
def Z (a:DN):DE:=fun S L δ=>(a S L δ).map fun p=>(p.1,.val (.lst p.2))
def vals:List Ev->Option (List Da)
 |[]=>some []
 |.val d::r=>(vals r).map (d::·)
 |.own _::_=>none
def U (a:DA):DE:=fun S L δ=>(a S L δ).bind fun p=>if p.2.length<=1000 then (vals p.2).map fun ds=>(p.1,.val (.tup ds)) else none
def AP (a:DA):DN:=fun S L δ=>(a S L δ).bind fun p=>if p.2.length<=1000 then (vals p.2).map fun ds=>(p.1,ds) else none
def rds (S:Sto) (L:Loc):List Ev->Option (List Da)
 |[]=>some []
 |e::r=>(rdE S L e).bind fun d=>(rds S L r).map (d::·)
def cb (f:List Da->Option Da) (a:DA):DE:=fun S L δ=>(a S L δ).bind fun p=>(rds p.1 L p.2).bind fun xs=>(f xs).map fun d=>(p.1,.val d)
def Ag (f:List Da->Option (List Da)) (a:DA):DN:=fun S L δ=>(a S L δ).bind fun p=>(rds p.1 L p.2).bind fun xs=>(f xs).map fun d=>(p.1,d)
def M (φ:Sto->List Da->Option Da) (a:DA):DE:=fun S L δ=>(a S L δ).bind fun p=>(vals p.2).bind fun ds=>(φ p.1 ds).map fun d=>(p.1,.val d)
def N (φ:Sto->List Da->Option (Sto × Da)) (a:DA):DE:=fun S L δ=>(a S L δ).bind fun p=>(vals p.2).bind fun ds=>(φ p.1 ds).map fun q=>(q.1,.val q.2)
def Aa (t:DT) (a b:DE):DE:=fun S L δ=>(t S L δ).bind fun p=>if p.2=true then a p.1 L δ else b p.1 L δ
def bl:Da->Option Bool
 |.bl b=>some b
 |_=>none
def AM (a b:DE):DE:=fun S L δ=>(a S L δ).bind fun p=>(rdE p.1 L p.2).bind fun x=>(bl x).bind fun c=>if c=true then b p.1 L δ else some (p.1,.val (.bl false))
def orE (a b:DE):DE:=fun S L δ=>(a S L δ).bind fun p=>(rdE p.1 L p.2).bind fun x=>(bl x).bind fun c=>if c=true then some (p.1,.val (.bl true)) else b p.1 L δ
def AW (a:DE):DE:=fun S L δ=>(a S L δ).bind fun p=>(rdE p.1 L p.2).bind fun x=>(bl x).map fun c=>(p.1,.val (.bl (!c)))
def J (a:DE):DT:=fun S L δ=>(a S L δ).bind fun p=>(rdE p.1 L p.2).bind fun x=>(bl x).map fun c=>(p.1,c)
def truB:Da->Option Bool
 |.non=>some false
 |.bl b=>some b
 |.int i=>some (i != 0)
 |.lst ds=>some (!ds.isEmpty)
 |.tup ds=>some (!ds.isEmpty)
 |.str z=>if z.length<=1000 then some ((z.length:Int) != 0) else none
 |_=>none
def tru (a:DE):DT:=fun S L δ=>(a S L δ).bind fun p=>(rdE p.1 L p.2).bind fun x=>(truB x).map fun c=>(p.1,c)
def h (a b:DT):DT:=fun S L δ=>(a S L δ).bind fun p=>if p.2=true then b p.1 L δ else some (p.1,false)
def AI (a b:DT):DT:=fun S L δ=>(a S L δ).bind fun p=>if p.2=true then some (p.1,true) else b p.1 L δ
def w (a:DT):DT:=fun S L δ=>(a S L δ).map fun p=>(p.1,!p.2)
end D
structure Sh (G:Gm) (N:Addr->Prop) (H:Hp) (S:Sto):Prop where
 len:G.R.length=S.length
 nd:G.R.Nodup
 rN:∀ a∈G.R,N a
 nH:∀ a,N a->H a≠none
 cells:∀(k:Nat) (a:Addr) (c:Cell),G.R[k]?=some a->S[k]?=some c->aA G N H a c
def spR (K:PySem.W.Frag) (mg:Str->Option Value) (φ:Sto->List Da->Option Da):Sp:=fun vs H Q _=>∃ G N S ds d,G.K=K/\G.mg=mg/\Sh G N H S/\RpAll G N H vs ds/\φ S ds=some d/\∀ v H',Same H H'->Rp G N H' v d->Q v H'
def spW (K:PySem.W.Frag) (mg:Str->Option Value) (φ:Sto->List Da->Option (Sto × Da)):Sp:=fun vs H Q _=>∃ G N S ds S' d,G.K=K/\G.mg=mg/\Sh G N H S/\(∀ a∈G.R,∀ o u,H a≠some (.frz o u))/\RpAll G N H vs ds/\φ S ds=some (S',d) /\
 ∀ v H' X,(∀ a∈X,H a=none)->(∀ b o,b ∉ G.R->H b=some o->H' b=some o)->Sh ⟨G.K,G.mg,G.R++X⟩ (fun a=>N a\/a∈X) H' S'->(∀ a∈G.R++X,∀ o u,H' a≠some (.frz o u))->Rp ⟨G.K,G.mg,G.R++X⟩ (fun a=>N a\/a∈X) H' v d->Q v H'
def bb (Z:Sk) (r:R2) (f:Da->Da->Option Da):Prop:=∀(G:Gm) (M:Addr->Prop) (H:Hp) (x y:V) (dx dy d:Da),G.K=Z.K->G.mg=Z.mg->(∀ b,M b->H b≠none)->Rq G M H x dx->Rq G M H y dy->f dx dy=some d ->
 ∀ Q:VK,(∀ v H',Same H H'->Rp G M H' v d->Q v H')->r x y H Q
inductive RqAll (G:Gm) (M:Addr->Prop) (H:Hp):List V->List Da->Prop
 |nil:RqAll G M H [] []
 |cons {v:V}{d:Da}{vs:List V}{ds:List Da}:Rq G M H v d->RqAll G M H vs ds->RqAll G M H (v::vs) (d::ds)
def gM (Z:Sk) (r:List V->Hp->VK->Prop) (f:List Da->Option Da):Prop:=∀(G:Gm) (M:Addr->Prop) (H:Hp) (xs:List V) (ds:List Da) (d:Da),G.K=Z.K->G.mg=Z.mg->(∀ b,M b->H b≠none)->RqAll G M H xs ds->f ds=some d ->
 ∀ Q:VK,(∀ v H',Same H H'->Rp G M H' v d->Q v H')->r xs H Q
def jj (Z:Sk) (r:List V->Hp->VK->Prop) (f:List Da->Option (List Da)):Prop:=∀(G:Gm) (M:Addr->Prop) (H:Hp) (xs:List V) (ds es:List Da),G.K=Z.K->G.mg=Z.mg->RqAll G M H xs ds->f ds=some es ->
 ∀ Q:VK,(∀ p ys,H p=none->RpAll G M H ys es->Q (.ref p) (upd H p (.lst ys)))->r xs H Q
section
variable {X:Cx}{Z:Sk}{e:Expr}
theorem map_some{α β:Type}{x:Option α}{f:α->β}{y:β}(h:x.map f=some y):∃ a,x=some a/\f a=y:=Option.map_eq_some_iff.mp h
theorem bind_some{α β:Type}{x:Option α}{f:α->Option β}{y:β}(h:x.bind f=some y):∃ a,x=some a/\f a=some y:=Option.bind_eq_some_iff.mp h
theorem jV{i:Nat}(h:PE X e (tVar i)):PE X e (tE Z (D.E i)):=az h fun σ H Q ⟨F,S,L,δ,T,S',x,hF,⟨O,C⟩,hd,k⟩=>by
 unfold D.E at hd
 split at hd
 ·rename_i e' he
  cases hd
  obtain⟨v,hv,ht⟩:=C.env i _ he
  exact⟨v,hv,k F v H (.refl F) ⟨O,C.push ht⟩⟩
 ·cases hd
theorem i7{v:V}{d:Da}(h:PE X e (tC v)) (hv:∀ G M H,G.K=Z.K->G.mg=Z.mg->Rp G M H v d):PE X e (tE Z (D.c d)):=az h fun σ H Q ⟨F,S,L,δ,T,S',x,hF,⟨O,C⟩,hd,k⟩=>by
 cases hd
 exact k F v H (.refl F) ⟨O,C.push (hv _ _ _ hF.1 hF.2.1)⟩
theorem jp{i:Int}(h:PE X e (tC (.int i))):PE X e (tE Z (D.c (.int i))):=i7 h fun _ _ _ _ _ => .int i
theorem bJ{b:Bool}(h:PE X e (tC (.bl b))):PE X e (tE Z (D.c (.bl b))):=i7 h fun _ _ _ _ _ => .bl b
theorem cg(h:PE X e (tC .non)):PE X e (tE Z (D.c .non)):=i7 h fun _ _ _ _ _ => .non
theorem jU{z:Str}(h:PE X e (tC (.str z))):PE X e (tE Z (D.c (.str z))):=i7 h fun _ _ _ _ _ => .str z
theorem ao{r:R2}{f:Da->Da->Option Da}{A B:DE}(o:bb Z r f) (h:PE X e (tOp r (tE Z A) (tE Z B))):PE X e (tE Z (D.I f A B)):=az h fun σ H Q ⟨F,S,L,δ,T,S',x,hF,C,hd,k⟩=>by
 obtain⟨p,h1,hd⟩:=bind_some hd
 obtain⟨q,h2,hd⟩:=bind_some hd
 obtain⟨dx,h3,hd⟩:=bind_some hd
 obtain⟨dy,h4,hd⟩:=bind_some hd
 obtain⟨d,h5,hd⟩:=map_some hd
 cases hd
 refine⟨F,S,L,δ,T,p.1,p.2,hF,C,h1,fun F1 x H1 g1 C1=>⟨F1,p.1,L,δ,_,q.1,q.2,hF.gr g1,C1,h2,fun F2 y H2 g2 ⟨O,C2⟩=>?_⟩⟩
 have hF2:=hF.gr (g1.trans g2)
 have ty:=C2.tmp (y,.ev q.2) (List.mem_cons_self ..)
 have tx:=C2.tmp (x,.ev p.2) (List.mem_cons_of_mem _ (List.mem_cons_self ..))
 refine o F2.G (Pr F2 O L) H2 x y dx dy d hF2.1 hF2.2.1 (fun b=>C2.prH) (C2.rd tx h3) (C2.rd ty h4) h5 Q fun v H' s hv=>?_
 exact k F2 v H' (g1.trans g2) ⟨O,(C2.same s).pop.pop.push hv⟩
theorem iw{F:Fr}{O:List Addr}{H:Hp}{S:Sto}{L:Loc}{σ:L2.St}{δ:ai}{T:List (V × Tv)}(C:CtxO F O H S L σ δ T) {p:Addr}{ds:List Da}:TvOk F (O++[p]) (L++[some ds]) H (.ref p) (.ev (.own L.length)) :=
 ⟨p,ds,by rw[<- C.lo,List.getElem?_append_right (Nat.le_refl _),Nat.sub_self];rfl,by rw[List.getElem?_append_right (Nat.le_refl _),Nat.sub_self];rfl,rfl⟩
theorem kL{F:Fr}{O:List Addr}{H H':Hp}{L:Loc}{v:V}{j:Nat}(h:TvOk F O L H v (.ev (.own j))):TvOk F O L H' v (.ev (.own j)):=h
theorem CtxO.newT{F:Fr}{O:List Addr}{H:Hp}{S:Sto}{L:Loc}{σ:L2.St}{δ:ai}{T:List (V × Tv)}(C:CtxO F O H S L σ δ T) {p:Addr}{xs:List V}{ds:List Da}(hp:H p=none) (h:RpAll F.G (Pr F O L) H xs ds) :
  Ctx F (upd H p (.lst xs)) S (L++[some ds]) σ δ ((.ref p,.ev (.own L.length))::T):=⟨O++[p],(C.new hp h).push (kL (H:=H) (iw C))⟩
theorem fq{A:DN}:∀ σ H Q,tE Z (D.Z A) σ H Q->tN Z A σ H Q:=fun σ H Q ⟨F,S,L,δ,T,S',x,hF,⟨O0,C0⟩,hd,k⟩=>by
 obtain⟨p,h1,hd⟩:=map_some hd
 cases hd
 have lt:=C0.lts
 refine⟨F,S,L,δ,T,p.1,p.2,hF,⟨O0,C0⟩,h1,fun F2 v H2 g2 ⟨O,C⟩=>?_⟩
 obtain⟨a,ds,o1,o2,rfl⟩:=C.tmp (v,.ev (.own L.length)) (List.mem_cons_self ..)
 have lo:=C.lo
 rw[List.length_append] at lo
 have l1:([some p.2]:Loc).length=1:=rfl
 obtain⟨O1,D1,rfl⟩:∃ O1 D1,O=O1++[D1]:=by
  have ne:O≠[]:=by
   intro z
   rw[z] at lo
   simp at lo
  exact⟨O.dropLast,O.getLast ne,(List.dropLast_concat_getLast ne).symm⟩
 rw[List.length_append] at lo
 have l2:([D1]:List Addr).length=1:=rfl
 have lo1:O1.length=L.length:=by omega
 have ea:a=D1:=by
  rw[<- lo1,List.getElem?_append_right (Nat.le_refl _),Nat.sub_self] at o1
  cases o1
  rfl
 subst ea
 exact k F2 _ _ g2 ⟨O1,C.pop.frz lo1 lt.1 lt.2⟩
theorem bA{A:DN}(h:PE X e (tN Z A)):PE X e (tE Z (D.Z A)):=az h fq
theorem jq(h:PA X [] tNil):PA X [] (tA Z D.G):=ic h fun σ H Q ⟨F,S,L,δ,T,S',x,hF,C,hd,k⟩=>by
 cases hd
 exact k F [] H (.refl F) rfl C
theorem i4{es:List Expr}{A:DE}{B:DA}(h:PA X es (tCons (tE Z A) (tA Z B))):PA X es (tA Z (D.F A B)):=ic h fun σ H Q ⟨F,S,L,δ,T,S',x,hF,C,hd,k⟩=>by
 obtain⟨p,h1,hd⟩:=bind_some hd
 obtain⟨q,h2,hd⟩:=map_some hd
 cases hd
 refine⟨F,S,L,δ,T,p.1,p.2,hF,C,h1,fun F1 x H1 g1 C1=>⟨F1,p.1,L,δ,_,q.1,q.2,hF.gr g1,C1,h2,fun F2 vs H2 g2 hl ⟨O,C2⟩=>?_⟩⟩
 refine k F2 (x::vs) H2 (g1.trans g2) (by rw[List.length_cons,List.length_cons,hl]) ⟨O,C2.sub fun p hp=>?_⟩
 rcases List.mem_append.mp hp with hp | hp
 ·rw[List.map_cons,List.zip_cons_cons] at hp
  rcases List.mem_cons.mp hp with rfl | hp
  ·exact List.mem_append_right _ (List.mem_cons_self ..)
  ·exact List.mem_append_left _ hp
 ·exact List.mem_append_right _ (List.mem_cons_of_mem _ hp)
theorem bD{F:Fr}{O:List Addr}{H:Hp}{L:Loc}:∀{vs:List V}{es:List Ev}{ds:List Da},D.vals es=some ds->vs.length=es.length->(∀ p∈vs.zip (es.map Tv.ev),TvOk F O L H p.1 p.2)->RpAll F.G (Pr F O L) H vs ds
 |[],[],ds,h,_,_=>by
  cases h
  exact .nil
 |v::vs,.val d::es,ds,h,l,t=>by
  obtain⟨r,h1,rfl⟩:=map_some (show (D.vals es).map (d::·)=some ds from h)
  exact .cons (t (v,.ev (.val d)) (List.mem_cons_self ..)) (bD h1 (Nat.succ.inj l) fun p hp=>t p (List.mem_cons_of_mem _ hp))
 |v::vs,.own _::es,ds,h,l,t=>nomatch h
 |[],e::es,ds,h,l,t=>nomatch l
 |v::vs,[],ds,h,l,t=>nomatch l
theorem dE{F:Fr}{O:List Addr}{H:Hp}{S:Sto}{L:Loc}{σ:L2.St}{δ:ai}{T:List (V × Tv)}(C:CtxO F O H S L σ δ T):∀{vs:List V}{es:List Ev}{ds:List Da},D.rds S L es=some ds->vs.length=es.length->(∀ p∈vs.zip (es.map Tv.ev),TvOk F O L H p.1 p.2)->RqAll F.G (Pr F O L) H vs ds
 |[],[],ds,h,_,_=>by
  cases h
  exact .nil
 |v::vs,e::es,ds,h,l,t=>by
  obtain⟨d,h1,h⟩:=bind_some (show (rdE S L e).bind (fun d=>(D.rds S L es).map (d::·))=some ds from h)
  obtain⟨r,h2,rfl⟩:=map_some h
  exact .cons (C.rd (t (v,.ev e) (List.mem_cons_self ..)) h1) (dE C h2 (Nat.succ.inj l) fun p hp=>t p (List.mem_cons_of_mem _ hp))
 |[],e::es,ds,h,l,t=>nomatch l
 |v::vs,[],ds,h,l,t=>nomatch l
theorem CtxO.drop{F:Fr}{O:List Addr}{H:Hp}{S:Sto}{L:Loc}{σ:L2.St}{δ:ai}{T U:List (V × Tv)}(C:CtxO F O H S L σ δ (U++T)):CtxO F O H S L σ δ T:=C.sub fun p hp=>List.mem_append_right _ hp
theorem RpAll.len{G:Gm}{M:Addr->Prop}{H:Hp}:∀{vs:List V}{ds:List Da},RpAll G M H vs ds->vs.length=ds.length
 |_,_,.nil=>rfl
 |_,_,.cons _ t=>congrArg (·+1) (RpAll.len t)
theorem aq{A:DA}(h:PE X e (tTup (tA Z A))):PE X e (tE Z (D.U A)):=az h fun σ H Q ⟨F,S,L,δ,T,S',x,hF,C,hd,k⟩=>by
 obtain⟨p,h1,hd⟩:=bind_some hd
 split at hd
 ·rename_i hl
  obtain⟨ds,h2,hd⟩:=map_some hd
  cases hd
  refine⟨F,S,L,δ,T,p.1,p.2,hF,C,h1,fun F1 vs H1 g1 hv ⟨O,C1⟩=>⟨small (by omega),fun a ha=>?_⟩⟩
  have R:=bD h2 hv fun p hp=>C1.tmp p (List.mem_append_left _ hp)
  have s:Same H1 (upd H1 a (.tup vs)):=aM ha
  refine k F1 _ _ g1 ⟨O,(C1.drop.same s).push ?_⟩
  exact .tup (fun c=>C1.prH c ha) upd_same (RpAll.go (Stay.of fun b o _ z=>s b o z) (fun b z => .inl z) R)
 ·cases hd
theorem cI{A:DA}(h:PE X e (tLst (tA Z A))):PE X e (tN Z (D.AP A)):=az h fun σ H Q ⟨F,S,L,δ,T,S',x,hF,C,hd,k⟩=>by
 obtain⟨p,h1,hd⟩:=bind_some hd
 split at hd
 ·rename_i hl
  obtain⟨ds,h2,hd⟩:=map_some hd
  cases hd
  refine⟨F,S,L,δ,T,p.1,p.2,hF,C,h1,fun F1 vs H1 g1 hv ⟨O,C1⟩=>⟨small (by omega),fun a ha=>?_⟩⟩
  have R:=bD h2 hv fun p hp=>C1.tmp p (List.mem_append_left _ hp)
  exact k F1 _ _ g1 (C1.drop.newT ha R)
 ·cases hd
theorem bI{r:List V->Hp->VK->Prop}{f:List Da->Option Da}{A:DA}(o:gM Z r f) (h:PE X e (tCB r (tA Z A))):PE X e (tE Z (D.cb f A)):=az h fun σ H Q ⟨F,S,L,δ,T,S',x,hF,C,hd,k⟩=>by
 obtain⟨p,h1,hd⟩:=bind_some hd
 obtain⟨xs,h2,hd⟩:=bind_some hd
 obtain⟨d,h3,hd⟩:=map_some hd
 cases hd
 refine⟨F,S,L,δ,T,p.1,p.2,hF,C,h1,fun F1 vs H1 g1 hv ⟨O,C1⟩=>?_⟩
 have hF1:=hF.gr g1
 have R:=dE C1 h2 hv fun p hp=>C1.tmp p (List.mem_append_left _ hp)
 exact o F1.G (Pr F1 O L) H1 vs xs d hF1.1 hF1.2.1 (fun b=>C1.prH) R h3 Q fun v H' s hv=>k F1 v H' g1 ⟨O,(C1.drop.same s).push hv⟩
theorem j5{r:List V->Hp->VK->Prop}{f:List Da->Option (List Da)}{A:DA}(o:jj Z r f) (h:PE X e (tCB r (tA Z A))):PE X e (tN Z (D.Ag f A)):=az h fun σ H Q ⟨F,S,L,δ,T,S',x,hF,C,hd,k⟩=>by
 obtain⟨p,h1,hd⟩:=bind_some hd
 obtain⟨xs,h2,hd⟩:=bind_some hd
 obtain⟨d,h3,hd⟩:=map_some hd
 cases hd
 refine⟨F,S,L,δ,T,p.1,p.2,hF,C,h1,fun F1 vs H1 g1 hv ⟨O,C1⟩=>?_⟩
 have hF1:=hF.gr g1
 have R:=dE C1 h2 hv fun p hp=>C1.tmp p (List.mem_append_left _ hp)
 exact o F1.G (Pr F1 O L) H1 vs xs _ hF1.1 hF1.2.1 R h3 Q fun p ys hp hy=>k F1 _ _ g1 (C1.drop.newT hp hy)
theorem CtxO.sh{F:Fr}{O:List Addr}{H:Hp}{S:Sto}{L:Loc}{σ:L2.St}{δ:ai}{T:List (V × Tv)}(C:CtxO F O H S L σ δ T):Sh F.G (Pr F O L) H S:=⟨C.len,C.nd,fun a h => .inl (C.rN a h),fun a=>C.prH,C.cells⟩
theorem CtxO.grow{F:Fr}{O:List Addr}{H H':Hp}{S S':Sto}{L:Loc}{σ:L2.St}{δ:ai}{T:List (V × Tv)}{X:List Addr}{v:V}{d:Da}(C:CtxO F O H S L σ δ T) (hW:F.W=true) (hX:∀ a∈X,H a=none) (e:∀ b o,b ∉ F.G.R->H b=some o->H' b=some o)
  (sh:Sh ⟨F.G.K,F.G.mg,F.G.R++X⟩ (fun a=>Pr F O L a\/a∈X) H' S') (hu:∀ a∈F.G.R++X,∀ o u,H' a≠some (.frz o u)) (hv:Rp ⟨F.G.K,F.G.mg,F.G.R++X⟩ (fun a=>Pr F O L a\/a∈X) H' v d):∃ F',Gr F F'/\CtxO F' O H' S' L σ δ T/\Rp F'.G (Pr F' O L) H' v d:=by
 have bX:∀ a∈X,F.B a=none:=fun a h=>by
  cases q:F.B a with
  |none=>rfl
  |some o =>
   by_cases c:F.W=true/\a∈F.G.R
   ·exact absurd (hX a h) (C.rH c.2)
   ·have z:=C.base a o c q
    rw[hX a h] at z
    cases z
 obtain⟨F',hF'⟩:∃ F':Fr,F'=⟨⟨F.G.K,F.G.mg,F.G.R++X⟩,fun a=>F.N a\/a∈X,F.B,F.W⟩:=⟨_,rfl⟩
 have fG:F'.G=⟨F.G.K,F.G.mg,F.G.R++X⟩:=by rw[hF']
 have fN:∀ a,F'.N a ↔ (F.N a\/a∈X):=fun a=>by rw[hF']
 have fB:F'.B=F.B:=by rw[hF']
 have fW:F'.W=F.W:=by rw[hF']
 clear hF'
 have fR:F'.G.R=F.G.R++X:=by rw[fG]
 have ep:Pr F' O L=fun a=>Pr F O L a\/a∈X:=funext fun a=>propext ⟨fun h=>h.elim (fun h=>((fN a).mp h).elim (fun h => .inl (.inl h)) .inr) fun h => .inl (.inr h),fun h=>h.elim (fun h=>h.elim (fun h => .inl ((fN a).mpr (.inl h))) .inr) fun h => .inl ((fN a).mpr (.inr h))⟩
 have hr:∀(k:Nat) (a:Addr),F.G.R[k]?=some a->F'.G.R[k]?=some a:=fun k a h=>by rw[fR,List.getElem?_append_left (List.getElem?_eq_some_iff.mp h).1];exact h
 have st:Stay (Pr F O L) H H':=Stay.of fun b o n h=>e b o (fun c=>n (.inl (C.rN b c))) h
 have hm:∀ b,Pr F' O L b->Pr F O L b\/H b=none:=fun b h=>by
  rw[ep] at h
  exact h.imp id (hX b)
 have hk:F'.G.K=F.G.K:=by rw[fG]
 have hg:F'.G.mg=F.G.mg:=by rw[fG]
 have ncg:∀ b,H b≠none->¬ Cg F O L b->¬ Cg F' O L b:=fun b th n c=>by
  rcases c with c | c
  ·rw[fR,fW] at c
   rcases List.mem_append.mp c.2 with q | q
   ·exact n (.inl ⟨c.1,q⟩)
   ·exact th (hX b q)
  ·exact n (.inr c)
 have e2:∀ b o,¬ Cg F O L b->H b=some o->H' b=some o:=fun b o n h=>e b o (fun c=>n (.inl ⟨hW,c⟩)) h
 have tg:∀ v t,TvOk F O L H v t->TvOk F' O L H' v t:=fun v t h=>by
  cases t with
  |ev x =>
   cases x with
   |val d=>exact Rp.mv hk hg hr st hm h
   |own j=>exact h
  |sl vs ds =>
   obtain⟨a,h1,n,h2,h3⟩:=h
   have th:H a≠none:=by rcases h2 with h2 | ⟨_,h2⟩ <;> (rw[h2];exact fun z=>by cases z)
   refine⟨a,h1,ncg a th n,?_,RpAll.mv hk hg hr st hm h3⟩
   rcases h2 with h2 | ⟨o,h2⟩
   ·exact .inl (e2 _ _ n h2)
   ·exact .inr ⟨o,e2 _ _ n h2⟩
  |st vs ds =>
   obtain⟨a,h1,h2,h3⟩:=h
   refine⟨a,h1,?_,RpAll.mv hk hg hr st hm h3⟩
   rcases h2 with ⟨n,h2⟩ | h2
   ·have th:H a≠none:=by rcases h2 with h2 | ⟨_,h2⟩ <;> (rw[h2];exact fun z=>by cases z)
    refine .inl ⟨ncg a th n,?_⟩
    rcases h2 with h2 | ⟨o,h2⟩
    ·exact .inl (e2 _ _ n h2)
    ·exact .inr ⟨o,e2 _ _ n h2⟩
   ·exact .inr (by rw[hk];exact h2)
  |lk od kvs ds =>
   obtain⟨a,h1,n,h2,h3⟩:=h
   exact⟨a,h1,ncg a (by rw[h2];exact fun z=>by cases z) n,e2 _ _ n h2,RpAll.mv hk hg hr st hm h3⟩
 refine⟨F',⟨hk,hg,fW,fB,⟨X,fR,bX,fN⟩,fun z=>by rw[hW] at z;cases z⟩,?_,?_⟩
 ·refine { len:=by rw[fG];exact sh.len,nd:=by rw[fG];exact sh.nd,rN:=fun a h=>?_,nN:=fun a h=>?_,ap:=fun a h c=>?_,lo:=C.lo,ond:=C.ond,oB:=fun a h=>by rw[fB];exact C.oB a h,ln:=C.ln,base:=fun b o n h=>?_,cells:=fun k a c h1 h2=>?_,own:=fun j a ds h1 h2=>?_,env:=fun i x h=>?_,tmp:=fun p h=>tg _ _ (C.tmp p h),ul:=fun _ a ha=>hu a (by rw[fR] at ha;exact ha) }
  ·rw[fR] at h
   exact(fN a).mpr ((List.mem_append.mp h).imp (C.rN a) id)
  ·exact sh.nH a (((fN a).mp h).imp .inl id)
  ·exact((fN a).mp c).elim (C.ap a h) fun z=>C.al h (hX a z)
  ·rw[fB] at h
   refine e b o (fun c=>n ⟨fW.trans hW,by rw[fR];exact List.mem_append_left _ c⟩) (C.base b o (fun c=>n ⟨fW.trans hW,by rw[fR];exact List.mem_append_left _ c.2⟩) h)
  ·rw[ep]
   rw[fG] at h1 ⊢
   exact sh.cells k a c h1 h2
  ·obtain⟨xs,q1,q2⟩:=C.own j a ds h1 h2
   exact⟨xs,e a _ (C.apart ⟨j,ds,h1,h2⟩) q1,RpAll.mv hk hg hr st hm q2⟩
  ·obtain⟨v,q1,q2⟩:=C.env i x h
   exact⟨v,q1,tg _ _ q2⟩
 ·rw[ep,fG]
  exact hv
theorem gk{K:PySem.W.Frag}{mg:Str->Option Value}{φ:Sto->List Da->Option Da}{E:XK}{A:DA}(hK:K=Z.K) (hm:mg=Z.mg) (h:PE X e (tCall (spR K mg φ) [] E (tA Z A))):PE X e (tE Z (D.M φ A)):=az h fun σ H Q ⟨F,S,L,δ,T,S',x,hF,C,hd,k⟩=>by
 obtain⟨p,h1,hd⟩:=bind_some hd
 obtain⟨ds,h2,hd⟩:=bind_some hd
 obtain⟨d,h3,hd⟩:=map_some hd
 cases hd
 refine⟨F,S,L,δ,T,p.1,p.2,hF,C,h1,fun F1 vs H1 g1 hv ⟨O,C1⟩=>?_⟩
 have hF1:=hF.gr g1
 have R:=bD h2 hv fun p hp=>C1.tmp p (List.mem_append_left _ hp)
 refine⟨F1.G,Pr F1 O L,p.1,ds,d,hF1.1.trans hK.symm,hF1.2.1.trans hm.symm,C1.sh,by rw[List.append_nil];exact R,h3,fun v H' s hv=>k F1 v H' g1 ⟨O,(C1.drop.same s).push hv⟩⟩
theorem gB{K:PySem.W.Frag}{mg:Str->Option Value}{φ:Sto->List Da->Option (Sto × Da)}{E:XK}{A:DA}(hK:K=Z.K) (hm:mg=Z.mg) (hW:Z.W=true) (h:PE X e (tCall (spW K mg φ) [] E (tA Z A))):PE X e (tE Z (D.N φ A)):=az h fun σ H Q ⟨F,S,L,δ,T,S',x,hF,C,hd,k⟩=>by
 obtain⟨p,h1,hd⟩:=bind_some hd
 obtain⟨ds,h2,hd⟩:=bind_some hd
 obtain⟨q,h3,hd⟩:=map_some hd
 cases hd
 refine⟨F,S,L,δ,T,p.1,p.2,hF,C,h1,fun F1 vs H1 g1 hv ⟨O,C1⟩=>?_⟩
 have hF1:=hF.gr g1
 have R:=bD h2 hv fun p hp=>C1.tmp p (List.mem_append_left _ hp)
 refine⟨F1.G,Pr F1 O L,p.1,ds,q.1,q.2,hF1.1.trans hK.symm,hF1.2.1.trans hm.symm,C1.sh,C1.ul (hF1.2.2.trans hW),by rw[List.append_nil];exact R,h3,fun v H' X hX s sh hu hv=>?_⟩
 obtain⟨F2,g2,C2,hv2⟩:=C1.drop.grow (hF1.2.2.trans hW) hX s sh hu hv
 exact k F2 v H' (g1.trans g2) ⟨O,C2.push hv2⟩
end
inductive Out where
 |nx (S:Sto) (L:Loc) (δ:ai) | bk (S:Sto) (L:Loc) (δ:ai) | ct (S:Sto) (L:Loc) (δ:ai) | rt (S:Sto) (L:Loc) (e:Ev)
abbrev DS:=Sto->Loc->ai->Option Out
abbrev DG:=Sto->Loc->ai->Ev->Option ai
abbrev DI:=Sto->Loc->ai->Option (Sto × List Da)
def Fit (F:Fr) (T:List (V × Tv)) (E:Ends):Out->Prop
 |.nx S L δ=>∀ F' σ H,Gr F F'->Ctx F' H S L σ δ T->E.nx σ H
 |.bk S L δ=>∀ F' σ H,Gr F F'->Ctx F' H S L σ δ T->E.bk σ H
 |.ct S L δ=>∀ F' σ H,Gr F F'->Ctx F' H S L σ δ T->E.ct σ H
 |.rt S L e=>∀ F' v H σ δ,Gr F F'->Ctx F' H S L σ δ ((v,.ev e)::T)->E.rt v H
theorem Fit.gr{F F1:Fr}{T:List (V × Tv)}{E:Ends}{o:Out}(k:Fit F T E o) (g:Gr F F1):Fit F1 T E o:=by
 cases o with
 |nx S L δ=>exact fun F' σ H g2 C=>k F' σ H (g.trans g2) C
 |bk S L δ=>exact fun F' σ H g2 C=>k F' σ H (g.trans g2) C
 |ct S L δ=>exact fun F' σ H g2 C=>k F' σ H (g.trans g2) C
 |rt S L e=>exact fun F' v H σ δ g2 C=>k F' v H σ δ (g.trans g2) C
def tS (Z:Sk) (D:DS):TS:=fun E σ H=>∃ F S L δ T o,Of Z F/\Ctx F H S L σ δ T/\D S L δ=some o/\Fit F T E o
def tG (Z:Sk) (js:List Nat) (u:DG):TG:=fun v σ H Q=>∃ F S L δ T e δ',Of Z F/\Ctx F H S L σ δ ((v,.ev e)::T)/\u S L δ e=some δ'/\∀ σ',σ'.length=σ.length->(∀ j:Nat,j ∉ js->σ'[j]?=σ[j]?)->Ctx F H S L σ' δ' T->Q σ' H
def bM (K:PySem.W.Frag) (J:It) (ds:List Da) (U:List (V × Tv)):Prop:=∀ F,F.G.K=K->∀ S L σ δ T H,Ctx F H S L σ δ (U++T)->(∀ i,i < ds.length->J.go i H)/\J.stop ds.length H /\
 ∀ i x H' d,ds[i]?=some d->J.yld i H x H'->Ctx F H' S L σ δ ((x,.ev (.val d))::(U++T))
def tI (Z:Sk) (D:DI):TI:=fun σ H R=>∃ F S L δ T S' ds,Of Z F/\Ctx F H S L σ δ T/\D S L δ=some (S',ds)/\∀ F' J H' U,Gr F F'->bM Z.K J ds U->Ctx F' H' S' L σ δ (U++T)->R J H'
namespace D
def Y:DS:=fun S L δ=>some (.nx S L δ)
def K (a b:DS):DS:=fun S L δ=>(a S L δ).bind fun o=>match o with
 |.nx S' L' δ'=>b S' L' δ'
 |o=>some o
def O (a:DE):DS:=fun S L δ=>(a S L δ).map fun p => .rt p.1 L p.2
def AK (a:DE):DS:=fun S L δ=>(a S L δ).map fun p => .nx p.1 L δ
def Q (t:DT) (a b:DS):DS:=fun S L δ=>(t S L δ).bind fun p=>if p.2=true then a p.1 L δ else b p.1 L δ
def X (a:DE) (u:DG):DS:=fun S L δ=>(a S L δ).bind fun p=>(u p.1 L δ p.2).map fun δ' => .nx p.1 L δ'
def AL (i:Nat) (a:DN):DS:=fun S L δ=>(a S L δ).map fun p => .nx p.1 (L++[some p.2]) (δ.set i (some (.own L.length)))
def H (i:Nat):DG:=fun _ _ δ e=>some (δ.set i (some e))
def gnames:List Nat->ai->List Da->Option ai
 |[],δ,[]=>some δ
 |i::is,δ,d::ds=>gnames is (δ.set i (some (.val d))) ds
 |_,_,_=>none
def P (is:List Nat):DG:=fun S L δ e=>(rdE S L e).bind fun d=>match d with
 |.tup ds=>gnames is δ ds
 |_=>none
def forL (u:DG) (b:DS):List Da->DS
 |[],S,L,δ=>some (.nx S L δ)
 |d::ds,S,L,δ=>(u S L δ (.val d)).bind fun δ1=>(b S L δ1).bind fun o=>match o with
  |.nx S' L' δ'=>forL u b ds S' L' δ'
  |.ct S' L' δ'=>forL u b ds S' L' δ'
  |.bk S' L' δ'=>some (.nx S' L' δ')
  |.rt S' L' e=>some (.rt S' L' e)
def AB (i:DI) (u:DG) (b:DS):DS:=fun S L δ=>(i S L δ).bind fun p=>forL u b p.2 p.1 L δ
def wiped (δ:ai):List Nat->ai
 |[]=>δ
 |v::vs=>(wiped δ vs).set v none
def lcL (u:DG) (t:DT) (a:DE) (vs:List Nat):List Da->List Da->DN
 |[],acc,S,_,_=>some (S,acc)
 |d::ds,acc,S,L,δ=>(u S (L++[some acc]) (wiped δ vs) (.val d)).bind fun δ1=>(t S (L++[some acc]) δ1).bind fun p=>if p.2=true then
   (a p.1 (L++[some acc]) δ1).bind fun q=>match q.2 with
    |.val x=>lcL u t a vs ds (acc++[x]) q.1 L δ
    |_=>none
  else lcL u t a vs ds acc p.1 L δ
def lc (i:DI) (u:DG) (t:DT) (a:DE) (vs:List Nat):DN:=fun S L δ=>(i S L δ).bind fun p=>if p.2.length<=100000 then lcL u t a vs p.2 [] p.1 L δ else none
def AC:DT:=fun S _ _=>some (S,true)
def AD (i:Nat) (a:DE):DS:=fun S L δ=>(a S L δ).bind fun p=>match δ[i]? with
 |some (some (.own j))=>(match L[j]?,p.2 with
  |some (some ds),.val d=>if ds.length<=100000 then some (.nx p.1 (L.set j (some (ds++[d]))) δ) else none
  |_,_=>none)
 |_=>none
end D
theorem grk{F F1:Fr}{α:Type}{C:Fr->α->Hp->Prop}{Q:α->Hp->Prop}(k:∀ F' v H',Gr F F'->C F' v H'->Q v H') (g:Gr F F1):∀ F' v H',Gr F1 F'->C F' v H'->Q v H':=fun F' v H' g2=>k F' v H' (g.trans g2)
section
variable {X:Cx}{Z:Sk}{e:Expr}
theorem cu{A:DE}(h:PT X e (tB (tE Z A))):PT X e (tT Z (D.J A)):=gP h fun σ H Q ⟨F,S,L,δ,T,S',x,hF,C,hd,k⟩=>by
 obtain⟨p,h1,hd⟩:=bind_some hd
 obtain⟨d,h2,hd⟩:=bind_some hd
 obtain⟨c,h3,hd⟩:=map_some hd
 cases hd
 refine⟨F,S,L,δ,T,p.1,p.2,hF,C,h1,fun F1 v H1 g1 ⟨O,C1⟩=>?_⟩
 have r:=C1.rd (C1.tmp (v,.ev p.2) (List.mem_cons_self ..)) h2
 cases d with
 |bl b =>
  cases h3
  cases r
  exact⟨_,rfl,k F1 _ g1 ⟨O,C1.pop⟩⟩
 |_=>cases h3
theorem cW{A B:DT}(h:PW X e (tAnd (tT Z A) (tT Z B))):PW X e (tT Z (D.h A B)):=i9 h fun σ H Q ⟨F,S,L,δ,T,S',x,hF,C,hd,k⟩=>by
 obtain⟨p,h1,hd⟩:=bind_some hd
 refine⟨F,S,L,δ,T,p.1,p.2,hF,C,h1,fun F1 H1 g1 C1=>?_⟩
 cases hp:p.2 with
 |true =>
  rw[hp,if_pos rfl] at hd
  exact iteT ⟨F1,p.1,L,δ,T,S',x,hF.gr g1,C1,hd,fun F2 H' g2 C2=>k F2 H' (g1.trans g2) C2⟩
 |false =>
  rw[hp,if_neg Bool.false_ne_true] at hd
  cases hd
  exact iteF (k F1 _ g1 C1)
theorem eZ{A B:DT}(h:PW X e (tOr (tT Z A) (tT Z B))):PW X e (tT Z (D.AI A B)):=i9 h fun σ H Q ⟨F,S,L,δ,T,S',x,hF,C,hd,k⟩=>by
 obtain⟨p,h1,hd⟩:=bind_some hd
 refine⟨F,S,L,δ,T,p.1,p.2,hF,C,h1,fun F1 H1 g1 C1=>?_⟩
 cases hp:p.2 with
 |true =>
  rw[hp,if_pos rfl] at hd
  cases hd
  exact iteT (k F1 _ g1 C1)
 |false =>
  rw[hp,if_neg Bool.false_ne_true] at hd
  exact iteF ⟨F1,p.1,L,δ,T,S',x,hF.gr g1,C1,hd,fun F2 H' g2 C2=>k F2 H' (g1.trans g2) C2⟩
theorem dH{A:DT}(h:PT X e (tNot (tT Z A))):PT X e (tT Z (D.w A)):=gP h fun σ H Q ⟨F,S,L,δ,T,S',x,hF,C,hd,k⟩=>by
 obtain⟨p,h1,hd⟩:=map_some hd
 cases hd
 exact⟨F,S,L,δ,T,p.1,p.2,hF,C,h1,fun F1 H1 g1 C1=>k F1 _ g1 C1⟩
theorem jY{t:DT}{A B:DE}(h:PE X e (tIf (tT Z t) (tE Z A) (tE Z B))):PE X e (tE Z (D.Aa t A B)):=az h fun σ H Q ⟨F,S,L,δ,T,S',x,hF,C,hd,k⟩=>by
 obtain⟨p,h1,hd⟩:=bind_some hd
 refine⟨F,S,L,δ,T,p.1,p.2,hF,C,h1,fun F1 H1 g1 C1=>?_⟩
 cases hp:p.2 with
 |true =>
  rw[hp,if_pos rfl] at hd
  exact iteT ⟨F1,p.1,L,δ,T,S',x,hF.gr g1,C1,hd,fun F2=>grk k g1 F2⟩
 |false =>
  rw[hp,if_neg Bool.false_ne_true] at hd
  exact iteF ⟨F1,p.1,L,δ,T,S',x,hF.gr g1,C1,hd,fun F2=>grk k g1 F2⟩
theorem fe{G:Gm}{M:Addr->Prop}{H:Hp}{v:V}{d:Da}{c:Bool}(r:Rq G M H v d) (h:D.bl d=some c):v = .bl c:=by
 cases r with
 |bl b=>cases h;rfl
 |_=>cases h
theorem km{A B:DE}(h:PE X e (tAndV (tE Z A) (tE Z B))):PE X e (tE Z (D.AM A B)):=az h fun σ H Q ⟨F,S,L,δ,T,S',x,hF,C,hd,k⟩=>by
 obtain⟨p,h1,hd⟩:=bind_some hd
 obtain⟨d,h2,hd⟩:=bind_some hd
 obtain⟨c,h3,hd⟩:=bind_some hd
 refine⟨F,S,L,δ,T,p.1,p.2,hF,C,h1,fun F1 v H1 g1 ⟨O,C1⟩=>?_⟩
 refine⟨c,fe (C1.rd (C1.tmp (v,.ev p.2) (List.mem_cons_self ..)) h2) h3,?_⟩
 cases c with
 |true =>
  rw[if_pos rfl] at hd
  exact iteT ⟨F1,p.1,L,δ,T,S',x,hF.gr g1,⟨O,C1.pop⟩,hd,fun F2=>grk k g1 F2⟩
 |false =>
  rw[if_neg Bool.false_ne_true] at hd
  cases hd
  exact iteF (k F1 _ _ g1 ⟨O,C1.pop.push (.bl false)⟩)
theorem kz{A B:DE}(h:PE X e (tOrV (tE Z A) (tE Z B))):PE X e (tE Z (D.orE A B)):=az h fun σ H Q ⟨F,S,L,δ,T,S',x,hF,C,hd,k⟩=>by
 obtain⟨p,h1,hd⟩:=bind_some hd
 obtain⟨d,h2,hd⟩:=bind_some hd
 obtain⟨c,h3,hd⟩:=bind_some hd
 refine⟨F,S,L,δ,T,p.1,p.2,hF,C,h1,fun F1 v H1 g1 ⟨O,C1⟩=>?_⟩
 refine⟨c,fe (C1.rd (C1.tmp (v,.ev p.2) (List.mem_cons_self ..)) h2) h3,?_⟩
 cases c with
 |true =>
  rw[if_pos rfl] at hd
  cases hd
  exact iteT (k F1 _ _ g1 ⟨O,C1.pop.push (.bl true)⟩)
 |false =>
  rw[if_neg Bool.false_ne_true] at hd
  exact iteF ⟨F1,p.1,L,δ,T,S',x,hF.gr g1,⟨O,C1.pop⟩,hd,fun F2=>grk k g1 F2⟩
theorem jZ{A:DE}(h:PE X e (tNotV (tE Z A))):PE X e (tE Z (D.AW A)):=az h fun σ H Q ⟨F,S,L,δ,T,S',x,hF,C,hd,k⟩=>by
 obtain⟨p,h1,hd⟩:=bind_some hd
 obtain⟨d,h2,hd⟩:=bind_some hd
 obtain⟨c,h3,hd⟩:=map_some hd
 cases hd
 refine⟨F,S,L,δ,T,p.1,p.2,hF,C,h1,fun F1 v H1 g1 ⟨O,C1⟩=>?_⟩
 exact⟨c,fe (C1.rd (C1.tmp (v,.ev p.2) (List.mem_cons_self ..)) h2) h3,k F1 _ _ g1 ⟨O,C1.pop.push (.bl _)⟩⟩
end
section
variable {X:Cx}{Z:Sk}{st:Stmt}{sts:List Stmt}
theorem bv{t t':TS}(h:PS X st t) (w:∀ E σ H,t' E σ H->t E σ H):PS X st t':=⟨fun pins s σ H E I q=>h.run pins s σ H E I (w E σ H q)⟩
theorem gp{t t':TS}(h:PSs X sts t) (w:∀ E σ H,t' E σ H->t E σ H):PSs X sts t':=⟨fun pins s σ H E I q=>h.run pins s σ H E I (w E σ H q)⟩
theorem i5(h:PSs X sts tNext):PSs X sts (tS Z D.Y):=gp h fun E σ H ⟨F,S,L,δ,T,o,hF,C,hd,k⟩=>by
 cases hd
 exact k F σ H (.refl F) C
theorem iH{A B:DS}(h:PSs X sts (tSeq (tS Z A) (tS Z B))):PSs X sts (tS Z (D.K A B)):=gp h fun E σ H ⟨F,S,L,δ,T,o,hF,C,hd,k⟩=>by
 obtain⟨p,h1,hd⟩:=bind_some hd
 refine⟨F,S,L,δ,T,p,hF,C,h1,?_⟩
 cases p with
 |nx S' L' δ'=>exact fun F' σ' H' g C'=>⟨F',S',L',δ',T,o,hF.gr g,C',hd,k.gr g⟩
 |bk S' L' δ' =>
  cases hd
  exact k
 |ct S' L' δ' =>
  cases hd
  exact k
 |rt S' L' e =>
  cases hd
  exact k
theorem j8{A:DE}(h:PS X st (tRet (tE Z A))):PS X st (tS Z (D.O A)):=bv h fun E σ H ⟨F,S,L,δ,T,o,hF,C,hd,k⟩=>by
 obtain⟨p,h1,hd⟩:=map_some hd
 cases hd
 exact⟨F,S,L,δ,T,p.1,p.2,hF,C,h1,fun F1 v H1 g1 C1=>k F1 v H1 σ δ g1 C1⟩
theorem e9{A:DE}(h:PS X st (tDrop (tE Z A))):PS X st (tS Z (D.AK A)):=bv h fun E σ H ⟨F,S,L,δ,T,o,hF,C,hd,k⟩=>by
 obtain⟨p,h1,hd⟩:=map_some hd
 cases hd
 exact⟨F,S,L,δ,T,p.1,p.2,hF,C,h1,fun F1 v H1 g1 ⟨O,C1⟩=>k F1 σ H1 g1 ⟨O,C1.pop⟩⟩
theorem kM{t:DT}{A B:DS}(h:PS X st (tIfS (tT Z t) (tS Z A) (tS Z B))):PS X st (tS Z (D.Q t A B)):=bv h fun E σ H ⟨F,S,L,δ,T,o,hF,C,hd,k⟩=>by
 obtain⟨p,h1,hd⟩:=bind_some hd
 refine⟨F,S,L,δ,T,p.1,p.2,hF,C,h1,fun F1 H1 g1 C1=>?_⟩
 cases hp:p.2 with
 |true =>
  rw[hp,if_pos rfl] at hd
  exact iteT ⟨F1,p.1,L,δ,T,o,hF.gr g1,C1,hd,k.gr g1⟩
 |false =>
  rw[hp,if_neg Bool.false_ne_true] at hd
  exact iteF ⟨F1,p.1,L,δ,T,o,hF.gr g1,C1,hd,k.gr g1⟩
theorem jw{A:DE}{js:List Nat}{u:DG}(h:PS X st (tAsg (tE Z A) (tG Z js u))):PS X st (tS Z (D.X A u)):=bv h fun E σ H ⟨F,S,L,δ,T,o,hF,C,hd,k⟩=>by
 obtain⟨p,h1,hd⟩:=bind_some hd
 obtain⟨δ',h2,hd⟩:=map_some hd
 cases hd
 exact⟨F,S,L,δ,T,p.1,p.2,hF,C,h1,fun F1 v H1 g1 C1=>⟨F1,p.1,L,δ,T,p.2,δ',hF.gr g1,C1,h2,fun σ' _ _ C2=>k F1 σ' H1 g1 C2⟩⟩
theorem cG{i:Nat}{A:DN}(h:PS X st (tAsg (tN Z A) (gName i))):PS X st (tS Z (D.AL i A)):=bv h fun E σ H ⟨F,S,L,δ,T,o,hF,C,hd,k⟩=>by
 obtain⟨p,h1,hd⟩:=map_some hd
 cases hd
 exact⟨F,S,L,δ,T,p.1,p.2,hF,C,h1,fun F1 v H1 g1 ⟨O,C1⟩=>k F1 _ H1 g1 ⟨O,C1.pop.set i (C1.tmp (v,.ev (.own L.length)) (List.mem_cons_self ..))⟩⟩
theorem ft{σ:L2.St}{i:Nat}{v:Option V}{js:List Nat}(h:i∈js):∀ j:Nat,j ∉ js->(σ.set i v)[j]?=σ[j]?:=fun j hj=>by
 rw[List.getElem?_set]
 by_cases c:i=j
 ·subst c
  exact absurd h hj
 ·rw[if_neg c]
theorem aP{t:Expr}{i:Nat}(h:PG X t (gName i)):PG X t (tG Z [i] (D.H i)):=⟨fun pins s σ H v u Q I r ⟨F,S,L,δ,T,e,δ',hF,⟨O,C⟩,hu,k⟩=>by
 cases hu
 exact h.run pins s σ H v u Q I r (k _ (List.length_set ..) (ft (List.mem_singleton.mpr rfl)) ⟨O,C.pop.set i (C.tmp (v,.ev e) (List.mem_cons_self ..))⟩)⟩
def gNs:List Nat->TGs
 |[]=>gNil
 |i::is=>gCons (gName i) (gNs is)
theorem fK{F:Fr}{O:List Addr}{H:Hp}{S:Sto}{L:Loc}{T:List (V × Tv)}{js:List Nat}{Q:L2.St->Hp->Prop}:∀{is:List Nat}{σ:L2.St}{δ δ':ai}{xs:List V}{ds:List Da},(∀ i∈is,i∈js)->CtxO F O H S L σ δ T->RpAll F.G (Pr F O L) H xs ds->D.gnames is δ ds=some δ' ->
  (∀ σ',σ'.length=σ.length->(∀ j:Nat,j ∉ js->σ'[j]?=σ[j]?)->Ctx F H S L σ' δ' T->Q σ' H)->gNs is xs σ H Q
 |[],σ,δ,δ',[],[],_,C,R,h,k=>by
  cases h
  exact⟨rfl,k σ rfl (fun _ _=>rfl) ⟨O,C⟩⟩
 |i::is,σ,δ,δ',x::xs,d::ds,hj,C,R,h,k=>by
  cases R with
  |cons r R =>
   refine⟨x,xs,rfl,?_⟩
   refine fK (is:=is) (fun j hj'=>hj j (List.mem_cons_of_mem _ hj')) (C.set (e := .val d) i r) R h fun σ' hl ho C'=>k σ' (by rw[hl,List.length_set]) (fun j hj'=>?_) C'
   rw[ho j hj',ft (hj i (List.mem_cons_self ..)) j hj']
 |[],σ,δ,δ',x::xs,d::ds,_,_,_,h,_=>nomatch h
 |i::is,σ,δ,δ',[],[],_,_,_,h,_=>nomatch h
 |is,σ,δ,δ',[],d::ds,_,_,R,_,_=>nomatch R
 |is,σ,δ,δ',x::xs,[],_,_,R,_,_=>nomatch R
theorem bo{t:Expr}{is:List Nat}{n:Nat}{K:PySem.W.Frag}(hn:n=is.length) (hK:K=Z.K) (h:PG X t (gTup K n (gNs is))):PG X t (tG Z is (D.P is)):=⟨fun pins s σ H v u Q I r ⟨F,S,L,δ,T,e,δ',hF,⟨O,C⟩,hu,k⟩=>by
 obtain⟨d,h1,hu⟩:=bind_some hu
 have q:=C.rd (C.tmp (v,.ev e) (List.mem_cons_self ..)) h1
 cases q with
 |@tup a xs ds hs R =>
  refine h.run pins s σ H _ u Q I r ⟨a,xs,rfl,by rw[hK,<- hF.1];exact hs,?_,fK (fun _ h=>h) C.pop R hu k⟩
  have ln:∀(is:List Nat) (δ:ai) (ds:List Da) (δ':ai),D.gnames is δ ds=some δ'->ds.length=is.length:=by
   intro is
   induction is with
   |nil =>
    intro δ ds δ' h
    cases ds with
    |nil=>rfl
    |cons d ds=>cases h
   |cons i is ih =>
    intro δ ds δ' h
    cases ds with
    |nil=>cases h
    |cons d ds =>
     rw[List.length_cons,List.length_cons,ih _ _ _ h]
  rw[hn,R.len]
  exact ln _ _ _ _ hu
 |_=>cases hu⟩
end
section
variable {X:Cx}{Z:Sk}{st:Stmt}{e:Expr}
theorem cN{α:Type}{ds:List α}{i:Nat}(h:i < ds.length):ds.drop i=ds[i]::ds.drop (i+1):=List.drop_eq_getElem_cons h
theorem gz{js:List Nat}{u:DG}{B:DS}{F F1:Fr}{J:It}{H1:Hp}{U:List (V × Tv)}{S:Sto}{L:Loc}{σ:L2.St}{δ:ai}{T:List (V × Tv)}{ps:List Da}{o:Out}{E:Ends}(hF:Of Z F) (g1:Gr F F1) (w:bM Z.K J ps U) (C1:Ctx F1 H1 S L σ δ (U++T)) (hd:D.forL u B ps S L δ=some o) (k:Fit F T E o) :
  ∃ W:Nat->Nat->L2.St->Hp->Prop,(∃ m,W 0 m σ H1)/\∀ i m σ H,W i m σ H->(J.stop i H/\E.nx σ H)\/(J.go i H/\∃ N:L2.St->Hp->Prop,(∀ σ' H',N σ' H'->∃ m',m' < m/\W (i+1) m' σ' H')/\∀ x H',J.yld i H x H'->tG Z js u x σ H' fun σ2 H2=>tS Z B { E with nx:=N,ct:=N,bk:=E.nx } σ2 H2):=by
 refine⟨fun i m σ H=>m=ps.length - i/\i<=ps.length/\∃ F2 S L δ,Gr F F2/\Ctx F2 H S L σ δ (U++T)/\D.forL u B (ps.drop i) S L δ=some o,⟨_,rfl,Nat.zero_le _,F1,S,L,δ,g1,C1,hd⟩,?_⟩
 rintro i m σ2 H2 ⟨rfl,hi,F2,S2,L2',δ2,g2,C2,hd2⟩
 obtain⟨w1,w2,w3⟩:=w F2 (hF.gr g2).1 S2 L2' σ2 δ2 T H2 C2
 by_cases hlt:i < ps.length
 ·refine .inr ⟨w1 i hlt,fun σ H=>i+1<=ps.length/\∃ F2 S L δ,Gr F F2/\Ctx F2 H S L σ δ (U++T)/\D.forL u B (ps.drop (i+1)) S L δ=some o,fun σ' H' ⟨q1,q2⟩=>⟨ps.length - (i+1),by omega,rfl,q1,q2⟩,fun x H' y=>?_⟩
  rw[cN hlt] at hd2
  obtain⟨δ3,h3,hd3⟩:=bind_some hd2
  obtain⟨o',h4,hd4⟩:=bind_some hd3
  have C3:=w3 i x H' ps[i] (List.getElem?_eq_getElem hlt) y
  refine⟨F2,S2,L2',δ2,U++T,_,δ3,hF.gr g2,C3,h3,fun σ' _ _ C4=>⟨F2,S2,L2',δ3,U++T,o',hF.gr g2,C4,h4,?_⟩⟩
  cases o' with
  |nx S' L' δ'=>exact fun F3 σ H g3 C=>⟨hlt,F3,S',L',δ',g2.trans g3,C,hd4⟩
  |ct S' L' δ'=>exact fun F3 σ H g3 C=>⟨hlt,F3,S',L',δ',g2.trans g3,C,hd4⟩
  |bk S' L' δ' =>
   cases hd4
   exact fun F3 σ H g3 ⟨O,C⟩=>k F3 σ H (g2.trans g3) ⟨O,C.drop⟩
  |rt S' L' e' =>
   cases hd4
   exact fun F3 v H σ δ g3 ⟨O,C⟩=>k F3 v H σ δ (g2.trans g3) ⟨O,C.sub fun p hp=>by
    rcases List.mem_cons.mp hp with rfl | hp
    ·exact List.mem_cons_self ..
    ·exact List.mem_cons_of_mem _ (List.mem_append_right _ hp)⟩
 ·have ei:i=ps.length:=by omega
  subst ei
  rw[List.drop_length] at hd2
  cases hd2
  obtain⟨O,C2⟩:=C2
  exact .inl ⟨w2,k F2 σ2 H2 g2 ⟨O,C2.drop⟩⟩
theorem bq{A:DI}{js:List Nat}{u:DG}{B:DS}(h:PS X st (tFor (tI Z A) (tG Z js u) (tS Z B))):PS X st (tS Z (D.AB A u B)):=bv h fun E σ H ⟨F,S,L,δ,T,o,hF,C,hd,k⟩=>by
 obtain⟨p,h1,hd⟩:=bind_some hd
 exact⟨F,S,L,δ,T,p.1,p.2,hF,C,h1,fun F1 J H1 U g1 w C1=>gz hF g1 w C1 hd k⟩
theorem dl(δ:ai):∀ vs:List Nat,(D.wiped δ vs).length=δ.length
 |[]=>rfl
 |v::vs=>by
  unfold D.wiped
  rw[List.length_set,dl δ vs]
theorem cK{δ:ai}{i:Nat}{x:Ev}:∀{vs:List Nat},(D.wiped δ vs)[i]?=some (some x)->δ[i]?=some (some x)/\i ∉ vs
 |[],h=>⟨h,by simp⟩
 |v::vs,h=>by
  unfold D.wiped at h
  rw[List.getElem?_set] at h
  by_cases c:v=i
  ·rw[if_pos c] at h
   split at h <;> cases h
  ·rw[if_neg c] at h
   obtain⟨h1,h2⟩:=cK h
   exact⟨h1,fun z=>(List.mem_cons.mp z).elim (fun z=>c z.symm) h2⟩
theorem CtxO.wipe{F:Fr}{O:List Addr}{H:Hp}{S:Sto}{L:Loc}{σ:L2.St}{δ:ai}{T:List (V × Tv)}(C:CtxO F O H S L σ δ T) (vs:List Nat):CtxO F O H S L (L2.wipe σ vs) (D.wiped δ vs) T :=
 C.env_le (by rw[dl,wipe_length];exact C.ln) fun i e h=>let q:=cK h;⟨q.1,wipe_out q.2⟩
theorem dG{σ:L2.St}{i:Nat}:∀{vs:List Nat},i∈vs->(L2.wipe σ vs)[i]?=if i < σ.length then some none else none
 |v::vs,h=>by
  unfold L2.wipe
  rw[List.getElem?_set]
  by_cases c:v=i
  ·subst c
   rw[if_pos rfl,wipe_length]
  ·rw[if_neg c]
   exact dG ((List.mem_cons.mp h).resolve_left fun z=>c z.symm)
theorem cn{σ τ:L2.St}{vs js:List Nat}(hl:τ.length=(L2.wipe σ vs).length) (ho:∀ j:Nat,j ∉ js->τ[j]?=(L2.wipe σ vs)[j]?) (hj:∀ j∈js,j∈vs):L2.wipe τ vs=L2.wipe σ vs:=by
 have l2:τ.length=σ.length:=by rw[hl,wipe_length]
 refine List.ext_getElem? fun i=>?_
 by_cases c:i∈vs
 ·rw[dG c,dG c,l2]
 ·rw[wipe_out c,ho i fun z=>c (hj i z)]
def envT:L2.St->ai->List (V × Tv)
 |some v::σ,some e::δ=>(v,.ev e)::envT σ δ
 |some _::σ,none::δ=>envT σ δ
 |none::σ,_::δ=>envT σ δ
 |_,_=>[]
theorem bV:∀{σ:L2.St}{δ:ai}{p:V × Tv},p∈envT σ δ->∃(i:Nat) (e:Ev),σ[i]?=some (some p.1)/\δ[i]?=some (some e)/\p.2 = .ev e
 |some v::σ,some e::δ,p,h=>by
  rcases List.mem_cons.mp h with rfl | h
  ·exact⟨0,e,rfl,rfl,rfl⟩
  ·obtain⟨i,e,h1,h2,h3⟩:=bV h
   exact⟨i+1,e,h1,h2,h3⟩
 |some v::σ,none::δ,p,h=>by
  obtain⟨i,e,h1,h2,h3⟩:=bV (σ:=σ) (δ:=δ) h
  exact⟨i+1,e,h1,h2,h3⟩
 |none::σ,x::δ,p,h=>by
  obtain⟨i,e,h1,h2,h3⟩:=bV (σ:=σ) (δ:=δ) (by cases x <;> exact h)
  exact⟨i+1,e,h1,h2,h3⟩
 |[],_,p,h=>by cases h
 |some _::_,[],p,h=>by cases h
 |none::_,[],p,h=>by cases h
theorem eh:∀{σ:L2.St}{δ:ai}{i:Nat}{v:V}{e:Ev},σ[i]?=some (some v)->δ[i]?=some (some e)->(v,Tv.ev e)∈envT σ δ
 |x::σ,y::δ,0,v,e,h1,h2=>by
  cases h1
  cases h2
  exact List.mem_cons_self ..
 |x::σ,y::δ,i+1,v,e,h1,h2=>by
  have q:=eh (σ:=σ) (δ:=δ) (i:=i) h1 h2
  cases x with
  |none=>cases y <;> exact q
  |some x =>
   cases y with
   |none=>exact q
   |some y=>exact List.mem_cons_of_mem _ q
theorem CtxO.envT{F:Fr}{O:List Addr}{H:Hp}{S:Sto}{L:Loc}{σ:L2.St}{δ:ai}{T:List (V × Tv)}(C:CtxO F O H S L σ δ T):CtxO F O H S L σ δ (My.envT σ δ++T):=by
 refine { C with tmp:=fun p hp=>?_ }
 rcases List.mem_append.mp hp with hp | hp
 ·obtain⟨i,e,h1,h2,h3⟩:=bV hp
  obtain⟨v,h4,h5⟩:=C.env i e h2
  rw[h1] at h4
  cases h4
  rw[h3]
  exact h5
 ·exact C.tmp p hp
theorem CtxO.back{F:Fr}{O:List Addr}{H:Hp}{S:Sto}{L:Loc}{σ σ':L2.St}{δ δ':ai}{T:List (V × Tv)}(C:CtxO F O H S L σ' δ' T) (hl:δ.length=σ.length) (hv:∀(i:Nat) (e:Ev),δ[i]?=some (some e)->∃ v,σ[i]?=some (some v)) (ht:∀ p∈My.envT σ δ,p∈T):CtxO F O H S L σ δ T:=by
 refine { C with ln:=hl,env:=fun i e h=>?_ }
 obtain⟨v,h1⟩:=hv i e h
 exact⟨v,h1,C.tmp _ (ht _ (eh h1 h))⟩
theorem ez{F:Fr}{O:List Addr}{H:Hp}{S:Sto}{L:Loc}{σ:L2.St}{δ:ai}{T:List (V × Tv)}(C:CtxO F O H S L σ δ T) {a:Addr}{j:Nat}{ds:List Da}(h:(V.ref a,Tv.ev (.own j))∈T) (hj:L[j]?=some (some ds)):O[j]?=some a/\∃ xs,H a=some (.lst xs)/\RpAll F.G (Pr F O L) H xs ds:=by
 obtain⟨b,es,h1,h2,h3⟩:=C.tmp _ h
 cases h3
 rw[hj] at h2
 cases h2
 exact⟨h1,C.own j _ ds h1 hj⟩
theorem RpAll.app{G:Gm}{M:Addr->Prop}{H:Hp}:∀{vs:List V}{ds:List Da}{ws:List V}{es:List Da},RpAll G M H vs ds->RpAll G M H ws es->RpAll G M H (vs++ws) (ds++es)
 |_,_,_,_,.nil,u=>u
 |_,_,_,_,.cons h t,u => .cons h (RpAll.app t u)
theorem bE{α:Type}(L:List α) (x:α):(L++[x])[L.length]?=some x:=by
 rw[List.getElem?_append_right (Nat.le_refl _),Nat.sub_self]
 rfl
theorem dR{α:Type}(L:List α) (x y:α):(L++[x]).set L.length y=L++[y]:=by
 rw[List.set_append_right _ _ (Nat.le_refl _),Nat.sub_self]
 rfl
def kn (g:TG) (tt:TT) (te:TE) (vs:List Nat) (σ:L2.St) (Q:VK) (J:It) (H1:Hp):Prop:=∀ D,H1 D=none->∃ W:Nat->Nat->Hp->Prop,(∃ m,W 0 m (upd H1 D (.lst [])))/\∀ i m H,W i m H ->
 (J.stop i H/\Q (.ref D) H)\/(J.go i H/\∃ Nx:Hp->Prop,(∀ H',Nx H'->∃ m',m' < m/\W (i+1) m' H')/\∀ x H',J.yld i H x H'->g x (L2.wipe σ vs) H' fun σ2 H2=>L2.wipe σ2 vs=L2.wipe σ vs/\tt σ2 H2 fun b H3 =>
  if b=true then te σ2 H3 fun y H4=>∃ acc,H4 D=some (.lst acc)/\acc.length < sizeLine/\Nx (upd H4 D (.lst (acc++[y]))) else Nx H3)
theorem g7{js:List Nat}{u:DG}{t:DT}{a:DE}{vs:List Nat}{F F1:Fr}{J:It}{H1:Hp}{U:List (V × Tv)}{S S':Sto}{L:Loc}{σ:L2.St}{δ:ai}{T:List (V × Tv)}{ps ds acc0:List Da}{Dn:Addr}{Nf:Hp->Prop}(hj:∀ j∈js,j∈vs) (hF:Of Z F) (g1:Gr F F1) (w:bM Z.K J ps U) (C1:Ctx F1 H1 S (L++[some acc0]) σ δ (U++((.ref Dn,.ev (.own L.length))::T))) (hlen:acc0.length+ps.length<=10000000) (hd:D.lcL u t a vs ps acc0 S L δ=some (S',ds))
  (k:∀ F' H',Gr F F'->ds.length<=acc0.length+ps.length->Ctx F' H' S' (L++[some ds]) σ δ ((.ref Dn,.ev (.own L.length))::T)->Nf H'):∃ W:Nat->Nat->Hp->Prop,(∃ m,W 0 m H1)/\∀ i m H,W i m H ->
   (J.stop i H/\Nf H)\/(J.go i H/\∃ Nx:Hp->Prop,(∀ H',Nx H'->∃ m',m' < m/\W (i+1) m' H')/\∀ x H',J.yld i H x H'->tG Z js u x (L2.wipe σ vs) H' fun σ2 H2=>L2.wipe σ2 vs=L2.wipe σ vs/\tT Z t σ2 H2 fun b H3 =>
    if b=true then tE Z a σ2 H3 fun y H4=>∃ acc,H4 Dn=some (.lst acc)/\acc.length < sizeLine/\Nx (upd H4 Dn (.lst (acc++[y]))) else Nx H3):=by
 refine⟨fun i m H=>m=ps.length - i/\i<=ps.length/\∃ F2 S acc,Gr F F2/\acc.length<=acc0.length+i/\Ctx F2 H S (L++[some acc]) σ δ (U++((.ref Dn,.ev (.own L.length))::T))/\D.lcL u t a vs (ps.drop i) acc S L δ=some (S',ds),⟨_,rfl,Nat.zero_le _,F1,S,acc0,g1,Nat.le_refl _,C1,hd⟩,?_⟩
 rintro i m H2 ⟨rfl,hi,F2,S2,acc,g2,hacc,C2,hd2⟩
 obtain⟨w1,w2,w3⟩:=w F2 (hF.gr g2).1 S2 _ σ δ _ H2 C2
 by_cases hlt:i < ps.length
 ·refine .inr ⟨w1 i hlt,fun H=>i+1<=ps.length/\∃ F2 S acc,Gr F F2/\acc.length<=acc0.length+(i+1)/\Ctx F2 H S (L++[some acc]) σ δ (U++((.ref Dn,.ev (.own L.length))::T))/\D.lcL u t a vs (ps.drop (i+1)) acc S L δ=some (S',ds),fun H' ⟨q1,q2⟩=>⟨ps.length - (i+1),by omega,rfl,q1,q2⟩,fun x H' y=>?_⟩
  rw[cN hlt] at hd2
  obtain⟨δ3,h3,hd3⟩:=bind_some hd2
  obtain⟨b,h4,hd4⟩:=bind_some hd3
  obtain⟨O3,C3⟩:=w3 i x H' ps[i] (List.getElem?_eq_getElem hlt) y
  have ln:=C3.ln
  have hv:∀(i:Nat) (e:Ev),δ[i]?=some (some e)->∃ v,σ[i]?=some (some v):=fun i e h=>let ⟨v,q,_⟩:=C3.env i e h;⟨v,q⟩
  have C3':CtxO F2 O3 H' S2 (L++[some acc]) σ δ ((x,.ev (.val ps[i]))::(envT σ δ++(U++((.ref Dn,.ev (.own L.length))::T)))):=C3.envT.sub fun q hq=>by
   rcases List.mem_cons.mp hq with rfl | hq
   ·exact List.mem_append_right _ (List.mem_cons_self ..)
   ·rcases List.mem_append.mp hq with hq | hq
    ·exact List.mem_append_left _ hq
    ·exact List.mem_append_right _ (List.mem_cons_of_mem _ hq)
  refine⟨F2,S2,L++[some acc],D.wiped δ vs,envT σ δ++(U++((.ref Dn,.ev (.own L.length))::T)),_,δ3,hF.gr g2,⟨O3,C3'.wipe vs⟩,h3,fun σ' hl ho C4=>⟨cn hl ho hj,F2,S2,L++[some acc],δ3,_,b.1,b.2,hF.gr g2,C4,h4,fun F5 H5 g5 C5=>?_⟩⟩
  cases hb:b.2 with
  |true =>
   rw[hb,if_pos rfl] at hd4
   obtain⟨q,h5,hd5⟩:=bind_some hd4
   refine iteT ⟨F5,b.1,L++[some acc],δ3,_,q.1,q.2,hF.gr (g2.trans g5),C5,h5,fun F6 v H6 g6 ⟨O6,C6⟩=>?_⟩
   cases hq:q.2 with
   |own j =>
    rw[hq] at hd5
    cases hd5
   |val dx =>
    rw[hq] at hd5 C6
    have hx:Rp F6.G (Pr F6 O6 (L++[some acc])) H6 v dx:=C6.tmp (v,.ev (.val dx)) (List.mem_cons_self ..)
    obtain⟨o1,xs,e1,e2⟩:=ez C6 (a:=Dn) (j:=L.length) (List.mem_cons_of_mem _ (List.mem_append_right _ (List.mem_append_right _ (List.mem_cons_self ..)))) (bE L (some acc))
    have C7:=C6.updL (xs':=xs++[v]) (ds':=acc++[dx]) o1 (bE L (some acc)) (e2.app (.cons hx .nil))
    rw[dR] at C7
    refine⟨xs,e1,?_,hlt,F6,q.1,acc++[dx],(g2.trans g5).trans g6,by rw[List.length_append];show acc.length+1<=acc0.length+(i+1);omega,⟨O6,?_⟩,hd5⟩
    ·rw[e2.len]
     have:(10000000:Nat) < sizeLine:=by decide
     omega
    ·exact(C7.back ln hv fun p hp=>List.mem_cons_of_mem _ (List.mem_append_left _ hp)).pop.drop
  |false =>
   rw[hb,if_neg Bool.false_ne_true] at hd4
   obtain⟨O5,C5⟩:=C5
   exact iteF ⟨hlt,F5,b.1,acc,g2.trans g5,by omega,⟨O5,(C5.back ln hv fun p hp=>List.mem_append_left _ hp).drop⟩,hd4⟩
 ·have ei:i=ps.length:=by omega
  subst ei
  rw[List.drop_length] at hd2
  cases hd2
  obtain⟨O,C2⟩:=C2
  exact .inl ⟨w2,k F2 H2 g2 hacc ⟨O,C2.drop⟩⟩
theorem iT{js:List Nat}{u:DG}{t:DT}{a:DE}{vs:List Nat}{F F1:Fr}{J:It}{H1:Hp}{U:List (V × Tv)}{S S':Sto}{L:Loc}{σ:L2.St}{δ:ai}{T:List (V × Tv)}{ps ds:List Da}{Q:VK}(hj:∀ j∈js,j∈vs) (hF:Of Z F) (g1:Gr F F1) (w:bM Z.K J ps U) (C1:Ctx F1 H1 S L σ δ (U++T)) (hlen:ps.length<=100000) (hd:D.lcL u t a vs ps [] S L δ=some (S',ds))
  (k:∀ F' v H',Gr F F'->Ctx F' H' S' (L++[some ds]) σ δ ((v,.ev (.own L.length))::T)->Q v H'):kn (tG Z js u) (tT Z t) (tE Z a) vs σ Q J H1:=by
 obtain⟨O1,C1⟩:=C1
 intro Dn hD
 refine g7 (Dn:=Dn) (acc0:=[]) (Nf:=Q (.ref Dn)) hj hF g1 w ?_ (by rw[List.length_nil];omega) hd fun F' H' g _ C=>k F' (.ref Dn) H' g C
 obtain⟨O,C2⟩:=C1.newT (ds:=[]) hD .nil
 refine⟨O,C2.sub fun q hq=>?_⟩
 rcases List.mem_append.mp hq with hq | hq
 ·exact List.mem_cons_of_mem _ (List.mem_append_left _ hq)
 ·rcases List.mem_cons.mp hq with rfl | hq
  ·exact List.mem_cons_self ..
  ·exact List.mem_cons_of_mem _ (List.mem_append_right _ hq)
theorem iy{A:DI}{js:List Nat}{u:DG}{t:DT}{a:DE}{vs:List Nat}(hj:∀ j∈js,j∈vs):∀ σ H Q,tN Z (D.lc A u t a vs) σ H Q->tLc (tI Z A) (tG Z js u) (tT Z t) (tE Z a) vs σ H Q:=fun σ H Q ⟨F,S,L,δ,T,S',ds,hF,C,hd,k⟩=>by
 obtain⟨p,h1,hd⟩:=bind_some hd
 split at hd
 case isFalse=>cases hd
 rename_i hlen
 exact⟨F,S,L,δ,T,p.1,p.2,hF,C,h1,fun F1 J H1 U g1 w C1=>iT hj hF g1 w C1 hlen hd k⟩
theorem fE{A:DI}{js:List Nat}{u:DG}{t:DT}{a:DE}{vs:List Nat}(hj:∀ j∈js,j∈vs) (h:PE X e (tLc (tI Z A) (tG Z js u) (tT Z t) (tE Z a) vs)):PE X e (tN Z (D.lc A u t a vs)):=az h (iy hj)
theorem cp{i:Nat}{A:DE}(h:PS X st (tDrop (tBM Z.K "list" rAppend (tVar i) (tCons (tE Z A) tNil)))):PS X st (tS Z (D.AD i A)):=bv h fun E σ H ⟨F,S,L,δ,T,o,hF,⟨O,C⟩,hd,k⟩=>by
 obtain⟨p,h1,hd⟩:=bind_some hd
 split at hd
 ·rename_i j hj
  split at hd
  ·rename_i ds d hds hp
   split at hd
   ·rename_i hl
    cases hd
    obtain⟨v,hv,a,es,o1,o2,rfl⟩:=C.env i _ hj
    obtain⟨xs0,e0,_⟩:=C.own j a es o1 o2
    refine⟨_,hv,.inl ⟨rfl,xs0,.inl (.inl e0)⟩,F,S,L,δ,_,p.1,p.2,hF,⟨O,C.push (v := .ref a) (t := .ev (.own j)) ⟨a,es,o1,o2,rfl⟩⟩,h1,fun F1 y H1 g1 ⟨O1,C1⟩=>?_⟩
    obtain⟨q1,xs,e1,e2⟩:=ez C1 (a:=a) (j:=j) (List.mem_cons_of_mem _ (List.mem_cons_self ..)) hds
    rw[hp] at C1
    have hy:Rp F1.G (Pr F1 O1 L) H1 y d:=C1.tmp (y,.ev (.val d)) (List.mem_cons_self ..)
    refine⟨a,xs,y,rfl,rfl,e1,?_,k F1 σ _ g1 ⟨O1,(C1.updL q1 hds (e2.app (.cons hy .nil))).pop.pop⟩⟩
    rw[e2.len]
    exact Nat.lt_of_le_of_lt hl (by decide)
   ·cases hd
  ·cases hd
 ·cases hd
end
namespace D
def outE (L:Loc):Ev->Option Da
 |.val d=>some d
 |.own j=>(match L[j]? with | some (some ds)=>some (.lst ds) | _=>none)
def env0 (n:Nat) (ds:List Da):ai:=ds.map (fun d=>some (.val d))++List.replicate (n - ds.length) none
def l (m n:Nat) (B:DS):Sto->List Da->Option Da:=fun S ds=>if ds.length=m then (B S [] (env0 n ds)).bind fun o=>match o with
 |.rt _ L e=>outE L e
 |.nx _ _ _=>some .non
 |_=>none
else none
def AA (m n:Nat) (B:DS):Sto->List Da->Option (Sto × Da):=fun S ds=>if ds.length=m then (B S [] (env0 n ds)).bind fun o=>match o with
 |.rt S' L e=>(outE L e).map fun d=>(S',d)
 |.nx S' _ _=>some (S',.non)
 |_=>none
else none
end D
section
variable {K:PySem.W.Frag}{mg:Str->Option Value}
theorem bP{G:Gm}{M:Addr->Prop}{H:Hp}:∀{vs:List V}{ds:List Da}{i:Nat}{d:Da},RpAll G M H vs ds->ds[i]?=some d->∃ v,vs[i]?=some v/\Rp G M H v d
 |_,_,_,_,.nil,e=>by simp at e
 |_,_,0,_,.cons h _,e=>by
  simp at e
  subst e
  exact⟨_,rfl,h⟩
 |_,_,i+1,d,.cons _ t,e=>by
  obtain⟨v,h1,h2⟩:=bP (i:=i) (d:=d) t (by simpa using e)
  exact⟨v,by simpa using h1,h2⟩
theorem kW{G:Gm}{N:Addr->Prop}{H:Hp}{S:Sto}{vs:List V}{ds:List Da}{W:Bool}{Nm:List Str}(sh:Sh G N H S) (R:RpAll G N H vs ds) (hu:W=true->∀ a∈G.R,∀ o u,H a≠some (.frz o u)):CtxO ⟨G,N,H,W⟩ [] H S [] (L2.start Nm vs) (D.env0 Nm.length ds) []:=by
 have na:∀ a,¬ Alive [] [] a:=fun a ⟨j,ds,h,_⟩=>by simp at h
 have pr:∀ b,Pr ⟨G,N,H,W⟩ [] [] b->N b\/H b=none:=fun b h=>h.elim .inl fun h=>absurd h (na b)
 have s:=aS N H
 have ll:=R.len
 refine { len:=sh.len,nd:=sh.nd,rN:=sh.rN,nN:=sh.nH,ap:=fun a h=>absurd h (na a),lo:=rfl,ond:=fun i j a ds es h _ _ _=>by simp at h,oB:=fun a h=>absurd h (na a),ln:=?_,base:=fun b o _ h=>h,cells:=fun k a c h1 h2=>?_,own:=fun j a ds h _=>by simp at h,env:=fun i e h=>?_,tmp:=fun p h=>(nomatch h),ul:=hu }
 ·show (D.env0 Nm.length ds).length=(L2.start Nm vs).length
  unfold D.env0 L2.start
  rw[List.length_append,List.length_append,List.length_map,List.length_map,List.length_replicate,List.length_replicate,ll]
 ·exact bh s pr (fun o h=>h) (sh.cells k a c h1 h2)
 ·unfold D.env0 at h
  by_cases c:i < ds.length
  ·rw[List.getElem?_append_left (by rw[List.length_map];exact c),List.getElem?_map,List.getElem?_eq_getElem c] at h
   cases h
   obtain⟨v,h1,h2⟩:=bP R (List.getElem?_eq_getElem c)
   refine⟨v,?_,Rp.go s pr h2⟩
   unfold L2.start
   rw[List.getElem?_append_left (by rw[List.length_map,ll];exact c),List.getElem?_map,h1]
   rfl
  ·rw[List.getElem?_append_right (by rw[List.length_map];omega),List.getElem?_replicate] at h
   split at h <;> cases h
theorem f8{G:Gm}{M M':Addr->Prop}{H:Hp}{a:Addr}{c:Cell}(hm:∀ b,M' b->M b) (h:aA G M H a c):aA G M' H a c:=bh (aS M H) (fun b h => .inl (hm b h)) (fun o h=>h) h
theorem iu{F:Fr}{O:List Addr}{H:Hp}{S:Sto}{L:Loc}{σ:L2.St}{δ:ai}{T:List (V × Tv)}(C:CtxO F O H S L σ δ T) {v:V}{e:Ev}{d:Da}(h:TvOk F O L H v (.ev e)) (hd:D.outE L e=some d):Rp F.G F.N H v d:=by
 have s:=aS (Pr F O L) H
 have m:∀ b,F.N b->Pr F O L b\/H b=none:=fun b h => .inl (.inl h)
 cases e with
 |val d0 =>
  cases hd
  exact Rp.go s m h
 |own j =>
  obtain⟨a,ds,h1,h2,rfl⟩:=h
  have q:D.outE L (.own j)=some (.lst ds):=by
   show (match L[j]? with | some (some ds)=>some (Da.lst ds) | _=>none)=_
   rw[h2]
  rw[q] at hd
  cases hd
  obtain⟨xs,e1,e2⟩:=C.own j a ds h1 h2
  exact .lst (fun c=>C.ap a ⟨j,ds,h1,h2⟩ c) e1 (RpAll.go s m e2)
theorem bm{m:Nat}{B:DS}{Nm:List Str}{vs:List V}{H:Hp}{Q:VK}{E:XK}(h:spR K mg (D.l m Nm.length B) vs H Q E):tS ⟨K,mg,false⟩ B { nx:=fun _ H'=>Q .non H',rt:=Q } (L2.start Nm vs) H:=by
 obtain⟨G,N,S,ds,d,hK,hm,sh,R,hf,k⟩:=h
 unfold D.l at hf
 split at hf
 case isFalse=>cases hf
 obtain⟨o,h1,hf⟩:=bind_some hf
 refine⟨⟨G,N,H,false⟩,S,[],D.env0 Nm.length ds,[],o,⟨hK,hm,rfl⟩,⟨[],kW sh R (fun z=>nomatch z)⟩,h1,?_⟩
 have sm:∀{O H' S' L σ δ T},CtxO ⟨G,N,H,false⟩ O H' S' L σ δ T->Same H H':=fun C b o h=>C.base b o (fun z=>Bool.false_ne_true z.1) h
 cases o with
 |rt S' L e =>
  refine fun F' v H' σ δ g ⟨O,C⟩=>?_
  cases g.f rfl
  exact k v H' (sm C) (iu C (C.tmp (v,.ev e) (List.mem_cons_self ..)) hf)
 |nx S' L δ =>
  cases hf
  refine fun F' σ H' g ⟨O,C⟩=>?_
  cases g.f rfl
  exact k .non H' (sm C) .non
 |bk=>cases hf
 |ct=>cases hf
theorem ci{m:Nat}{B:DS}{Nm:List Str}{vs:List V}{H:Hp}{Q:VK}{E:XK}(h:spW K mg (D.AA m Nm.length B) vs H Q E):tS ⟨K,mg,true⟩ B { nx:=fun _ H'=>Q .non H',rt:=Q } (L2.start Nm vs) H:=by
 obtain⟨G,N,S,ds,S1,d,hK,hm,sh,hul,R,hf,k⟩:=h
 unfold D.AA at hf
 split at hf
 case isFalse=>cases hf
 obtain⟨o,h1,hf⟩:=bind_some hf
 refine⟨⟨G,N,H,true⟩,S,[],D.env0 Nm.length ds,[],o,⟨hK,hm,rfl⟩,⟨[],kW sh R (fun _=>hul)⟩,h1,?_⟩
 have sm:∀{F' O H' S' L σ δ T},Gr ⟨G,N,H,true⟩ F'->CtxO F' O H' S' L σ δ T->∃ X,F'.G=⟨G.K,G.mg,G.R++X⟩/\(∀ b,(N b\/b∈X) ↔ F'.N b)/\(∀ a∈X,H a=none)/\(∀ b o,b ∉ G.R->H b=some o->H' b=some o)/\Sh ⟨G.K,G.mg,G.R++X⟩ (fun a=>N a\/a∈X) H' S'/\(∀ a∈G.R++X,∀ o u,H' a≠some (.frz o u)):=fun {F' O H' S' L σ δ T} g C=>by
  obtain⟨X,x1,x2,x3⟩:=g.r
  have x1:F'.G.R=G.R++X:=x1
  have x2:∀ a∈X,H a=none:=x2
  have x3:∀ a,F'.N a ↔ (N a\/a∈X):=x3
  have eG:F'.G=⟨G.K,G.mg,G.R++X⟩:=by
   have a:=g.k
   have b:=g.m
   have a:F'.G.K=G.K:=a
   have b:F'.G.mg=G.mg:=b
   rw[<- a,<- b,<- x1]
  refine⟨X,eG,fun b=>(x3 b).symm,x2,fun b o n h=>?_,?_,fun a ha=>C.ul g.w a (by rw[x1];exact ha)⟩
  ·refine C.base b o (fun z=>?_) (by rw[g.b];exact h)
   rw[x1] at z
   rcases List.mem_append.mp z.2 with q | q
   ·exact n q
   ·rw[x2 b q] at h
    cases h
  ·rw[<- eG]
   exact⟨C.len,C.nd,fun a h=>(x3 a).mp (C.rN a h),fun a h=>C.nN a ((x3 a).mpr h),fun k a c h1 h2=>f8 (fun b h => .inl ((x3 b).mpr h)) (C.cells k a c h1 h2)⟩
 cases o with
 |rt S' L e =>
  obtain⟨d',h2,h3⟩:=map_some hf
  cases h3
  refine fun F' v H' σ δ g ⟨O,C⟩=>?_
  obtain⟨X,eG,eN,x2,x3,sh',hu'⟩:=sm g C
  have r:=iu C (C.tmp (v,.ev e) (List.mem_cons_self ..)) h2
  have en:F'.N=fun a=>N a\/a∈X:=funext fun a=>propext (eN a).symm
  rw[eG,en] at r
  exact k v H' X x2 x3 sh' hu' r
 |nx S' L δ =>
  cases hf
  refine fun F' σ H' g ⟨O,C⟩=>?_
  obtain⟨X,eG,eN,x2,x3,sh',hu'⟩:=sm g C
  exact k .non H' X x2 x3 sh' hu' .non
 |bk=>cases hf
 |ct=>cases hf
theorem arR{m n:Nat}{B:DS}{ps:List Str}(hp:ps.length=m):∀ vs H Q E,spR K mg (D.l m n B) vs H Q E->vs.length=ps.length:=fun vs H Q E ⟨G,N,S,ds,d,_,_,_,R,hf,_⟩=>by
 unfold D.l at hf
 split at hf
 ·rename_i h
  rw[R.len,h,hp]
 ·cases hf
theorem arW{m n:Nat}{B:DS}{ps:List Str}(hp:ps.length=m):∀ vs H Q E,spW K mg (D.AA m n B) vs H Q E->vs.length=ps.length:=fun vs H Q E ⟨G,N,S,ds,S',d,_,_,_,_,R,hf,_⟩=>by
 unfold D.AA at hf
 split at hf
 ·rename_i h
  rw[R.len,h,hp]
 ·cases hf
end
namespace D
def seqD:Ev->Option (List Da)
 |.val (.lst ds)=>some ds
 |.val (.tup ds)=>some ds
 |_=>none
def W (a:DE):DI:=fun S L δ=>(a S L δ).bind fun p=>(seqD p.2).map fun ds=>(p.1,ds)
def AF (a:DA):DI:=fun S L δ=>(a S L δ).bind fun p=>(rds p.1 L p.2).bind fun xs=>match xs with
 |[.int j]=>if j<=1000000/\-1000000<=j then some (p.1,(List.range j.toNat).map fun (k:Nat) => .int (0+(k:Int))) else none
 |_=>none
end D
section
variable {X:Cx}{Z:Sk}{tg it:Expr}
theorem je{t t':TI}(h:PI X tg it t) (w:∀ σ H R,t' σ H R->t σ H R):PI X tg it t':=⟨fun pins s σ H R I q=>h.run pins s σ H R I (w σ H R q)⟩
theorem bR{t u:TI}(h:PI X tg it t) (h':PI X tg it u):PI X tg it (fun σ H R=>t σ H R\/u σ H R):=⟨fun pins s σ H R I q=>q.elim (h.run pins s σ H R I) (h'.run pins s σ H R I)⟩
theorem iN{K:PySem.W.Frag}{a:Addr}{vs:List V}{ds:List Da}(hl:vs.length=ds.length):bM K (Itl K a) ds [(.ref a,.sl vs ds)]:=by
 intro F hK S L σ δ T H ⟨O,C⟩
 obtain⟨b,e1,n,q,R⟩:=C.tmp (.ref a,.sl vs ds) (List.mem_cons_self ..)
 cases e1
 refine⟨fun i hi=>⟨vs,vs[i]'(by omega),.inl q,List.getElem?_eq_getElem _⟩,⟨vs,.inl q,by omega⟩,fun i x H' d hd y=>?_⟩
 obtain⟨rfl,hx⟩:=y
 obtain⟨u,h1,h2⟩:=bP R hd
 have hx:=hx vs (.inl q)
 rw[h1] at hx
 cases hx
 exact⟨O,C.push (t := .ev (.val d)) h2⟩
theorem fh{K:PySem.W.Frag}{a:Addr}{vs:List V}{ds:List Da}(hl:vs.length=ds.length):bM K (Itt K a) ds [(.ref a,.st vs ds)]:=by
 intro F hK S L σ δ T H ⟨O,C⟩
 subst hK
 obtain⟨b,e1,q,R⟩:=C.tmp (.ref a,.st vs ds) (List.mem_cons_self ..)
 cases e1
 have q:SqT F.G.K H a vs:=by
  rcases q with ⟨_,q⟩ | q
  ·exact .inl q
  ·exact q H
 refine⟨fun i hi=>⟨vs,vs[i]'(by omega),q,List.getElem?_eq_getElem _⟩,⟨vs,q,by omega⟩,fun i x H' d hd y=>?_⟩
 obtain⟨rfl,hx⟩:=y
 obtain⟨u,h1,h2⟩:=bP R hd
 have hx:=hx vs q
 rw[h1] at hx
 cases hx
 exact⟨O,C.push (t := .ev (.val d)) h2⟩
theorem CtxO.ncg{F:Fr}{O:List Addr}{H:Hp}{S:Sto}{L:Loc}{σ:L2.St}{δ:ai}{T:List (V × Tv)}(C:CtxO F O H S L σ δ T) {a:Addr}(n:¬ Pr F O L a):¬ Cg F O L a:=fun c=>n (jf C.rN c)
theorem bn{A:DE}(h:PI X tg it (fun σ H R=>iList Z.K (tE Z A) σ H R\/iTup Z.K (tE Z A) σ H R)):PI X tg it (tI Z (D.W A)):=je h fun σ H R ⟨F,S,L,δ,T,S',ds,hF,C,hd,k⟩=>by
 obtain⟨p,h1,hd⟩:=bind_some hd
 obtain⟨es,h2,hd⟩:=map_some hd
 cases hd
 cases he:p.2 with
 |own j =>
  rw[he] at h2
  cases h2
 |val d =>
  rw[he] at h2
  cases d with
  |lst xs =>
   cases h2
   refine .inl ⟨F,S,L,δ,T,p.1,p.2,hF,C,h1,fun F1 x H1 g1 ⟨O,C1⟩=>?_⟩
   have hF1:=hF.gr g1
   rw[he] at C1
   have tx:Rp F1.G (Pr F1 O L) H1 x (.lst ds):=C1.tmp (x,.ev (.val (.lst ds))) (List.mem_cons_self ..)
   cases tx with
   |lst m r t=>exact⟨_,rfl,⟨_,.inl (.inl r)⟩,k F1 _ _ _ g1 (iN t.len) ⟨O,C1.pop.push ⟨_,rfl,C1.ncg m,.inl r,t⟩⟩⟩
  |tup xs =>
   cases h2
   refine .inr ⟨F,S,L,δ,T,p.1,p.2,hF,C,h1,fun F1 x H1 g1 ⟨O,C1⟩=>?_⟩
   have hF1:=hF.gr g1
   rw[he] at C1
   have tx:Rp F1.G (Pr F1 O L) H1 x (.tup ds):=C1.tmp (x,.ev (.val (.tup ds))) (List.mem_cons_self ..)
   cases tx with
   |tup m r t=>exact⟨_,rfl,⟨_,.inl (.inl r)⟩,k F1 _ _ _ g1 (fh t.len) ⟨O,C1.pop.push ⟨_,rfl,.inl ⟨C1.ncg m,.inl r⟩,t⟩⟩⟩
   |ktup r t=>exact⟨_,rfl,⟨_,by rw[<- hF1.1];exact r H1⟩,k F1 _ _ _ g1 (fh t.len) ⟨O,C1.pop.push ⟨_,rfl,.inr r,t⟩⟩⟩
  |_=>cases h2
theorem rq1{G:Gm}{M:Addr->Prop}{H:Hp}{vs:List V}{d:Da}(h:RqAll G M H vs [d]):∃ v,vs=[v]/\Rq G M H v d:=by
 cases h with
 |cons h t =>
  cases t
  exact⟨_,rfl,h⟩
theorem ke{G:Gm}{M:Addr->Prop}{H:Hp}{v:V}{i:Int}(h:Rq G M H v (.int i)):v = .int i:=by
 cases h
 rfl
theorem gF{K:PySem.W.Frag}{lo:Int}{n:Nat}:bM K (Itr lo n) ((List.range n).map fun (k:Nat) => .int (lo+(k:Int))) []:=by
 intro F hK S L σ δ T H ⟨O,C⟩
 have ll:((List.range n).map fun (k:Nat)=>Da.int (lo+(k:Int))).length=n:=by rw[List.length_map,List.length_range]
 refine⟨fun i hi=>by rw[ll] at hi;exact hi,by rw[ll];exact Nat.le_refl _,fun i x H' d hd y=>?_⟩
 obtain⟨rfl,rfl⟩:=y
 rw[List.getElem?_map] at hd
 obtain⟨j,hj,rfl⟩:=map_some hd
 obtain⟨hl,e⟩:=List.getElem?_eq_some_iff.mp hj
 rw[List.getElem_range] at e
 subst e
 exact⟨O,C.push (t := .ev (.val _)) (.int _)⟩
theorem b8{A:DA}(h:PI X tg it (iRng1 (tA Z A))):PI X tg it (tI Z (D.AF A)):=je h fun σ H R ⟨F,S,L,δ,T,S',ds,hF,C,hd,k⟩=>by
 obtain⟨p,h1,hd⟩:=bind_some hd
 obtain⟨xs,h2,hd⟩:=bind_some hd
 refine⟨F,S,L,δ,T,p.1,p.2,hF,C,h1,fun F1 vs H1 g1 hv ⟨O,C1⟩=>?_⟩
 have q:=dE C1 h2 hv fun p hp=>C1.tmp p (List.mem_append_left _ hp)
 split at hd
 ·rename_i j
  split at hd
  ·rename_i hb
   cases hd
   obtain⟨v,rfl,r⟩:=rq1 q
   exact⟨j,by rw[ke r],by omega,by omega,k F1 _ _ [] g1 gF ⟨O,C1.drop⟩⟩
  ·cases hd
 ·cases hd
end
section
variable {X:Cx}{Z:Sk}{tg it:Expr}
theorem two{α:Type}{vs:List α}(h:vs.length=2):∃ a b,vs=[a,b]:=by
 match vs,h with
 |[a,b],_=>exact⟨a,b,rfl⟩
theorem one{α:Type}{vs:List α}(h:vs.length=1):∃ a,vs=[a]:=by
 match vs,h with
 |[a],_=>exact⟨a,rfl⟩
end
mutual
def toP:Da->Option PyData
 |.non=>some .none
 |.bl b=>some (.bool b)
 |.int i=>some (.int i)
 |.str z=>some (.str z)
 |.lst ds=>(toPs ds).map .list
 |.fls ds=>(toPs ds).map .list
 |.tup ds=>(toPs ds).map .tuple
 |_=>none
def toPs:List Da->Option (List PyData)
 |[]=>some []
 |d::ds=>(toP d).bind fun p=>(toPs ds).map (p::·)
end
mutual
theorem gd{G:Gm}{M:Addr->Prop}{H:Hp}:∀{v:V}{d:Da}{p:PyData},Rp G M H v d->toP d=some p->Dp G.K H v p
 |_,_,_,.non,h=>by
  unfold toP at h
  cases h
  exact .non
 |_,_,_,.bl b,h=>by
  unfold toP at h
  cases h
  exact .bl b
 |_,_,_,.int i,h=>by
  unfold toP at h
  cases h
  exact .int i
 |_,_,_,.str z,h=>by
  unfold toP at h
  cases h
  exact .str z
 |_,_,_,.lst m r t,h=>by
  unfold toP at h
  obtain⟨ps,h1,rfl⟩:=map_some h
  exact .lst (.inl (.inl r)) (rps_dp t h1)
 |_,_,_,.fls r t,h=>by
  unfold toP at h
  obtain⟨ps,h1,rfl⟩:=map_some h
  exact .lst (r.imp (·.2) id) (rps_dp t h1)
 |_,_,_,.tup m r t,h=>by
  unfold toP at h
  obtain⟨ps,h1,rfl⟩:=map_some h
  exact .tup (.inl (.inl r)) (rps_dp t h1)
 |_,_,_,.ktup r t,h=>by
  unfold toP at h
  obtain⟨ps,h1,rfl⟩:=map_some h
  exact .tup (r H) (rps_dp t h1)
 |_,_,_,.dct ..,h=>by
  unfold toP at h
  cases h
 |_,_,_,.obj ..,h=>by
  unfold toP at h
  cases h
 |_,_,_,.ref _,h=>by
  unfold toP at h
  cases h
 |_,_,_,.fn _,h=>by
  unfold toP at h
  cases h
 |_,_,_,.ktp ..,h=>by
  unfold toP at h
  cases h
 |_,_,_,.nd ..,h=>by
  unfold toP at h
  cases h
theorem rps_dp{G:Gm}{M:Addr->Prop}{H:Hp}:∀{vs:List V}{ds:List Da}{ps:List PyData},RpAll G M H vs ds->toPs ds=some ps->DpAll G.K H vs ps
 |_,_,_,.nil,h=>by
  unfold toPs at h
  cases h
  exact .nil
 |_,_,_,.cons r t,h=>by
  unfold toPs at h
  obtain⟨p,h1,h⟩:=bind_some h
  obtain⟨ps,h2,rfl⟩:=map_some h
  exact .cons (gd r h1) (rps_dp t h2)
end
theorem df{G:Gm}{M:Addr->Prop}{H:Hp}{v:V}{d:Da}{p:PyData}(r:Rq G M H v d) (h:toP d=some p):Dp G.K H v p:=by
 cases r with
 |non =>
  unfold toP at h
  cases h
  exact .non
 |bl b =>
  unfold toP at h
  cases h
  exact .bl b
 |int i =>
  unfold toP at h
  cases h
  exact .int i
 |str z =>
  unfold toP at h
  cases h
  exact .str z
 |lst r t =>
  unfold toP at h
  obtain⟨ps,h1,rfl⟩:=map_some h
  exact .lst (.inl (.inl r)) (rps_dp t h1)
 |fls r t =>
  unfold toP at h
  obtain⟨ps,h1,rfl⟩:=map_some h
  exact .lst r (rps_dp t h1)
 |tup r t =>
  unfold toP at h
  obtain⟨ps,h1,rfl⟩:=map_some h
  exact .tup r (rps_dp t h1)
 |dct=>unfold toP at h;cases h
 |obj=>unfold toP at h;cases h
 |fn=>unfold toP at h;cases h
 |ktp=>unfold toP at h;cases h
 |nd=>unfold toP at h;cases h
instance (i j:Int):Decidable (CMul i j):=by unfold CMul;infer_instance
instance (i j:Int):Decidable (CDivN i j):=by unfold CDivN;infer_instance
instance (i j:Int):Decidable (CPow i j):=by unfold CPow;infer_instance
namespace D
def scV:Da->Option V
 |.non=>some .non
 |.bl b=>some (.bl b)
 |.int i=>some (.int i)
 |.str z=>some (.str z)
 |_=>none
def eqP (x y:Da):Option Bool:=(toP x).bind fun p=>(toP y).bind fun q=>if SeqAt.shaped p=true/\SeqAt.shaped q=true then some (PyData.eqv p q) else none
def eqB (x y:Da):Option Bool:=match scV x,scV y with
 |some u,some v=>if scal u v=true then some (decide (u=v)) else eqP x y
 |_,_=>eqP x y
def AH (x y:Da):Option Da:=(eqB x y).map .bl
def AG (x y:Da):Option Da:=(eqB x y).map fun b => .bl (!b)
def isNn:Da->Bool
 |.non=>true
 |_=>false
def Ai (x y:Da):Option Da:=match y with
 |.non=>some (.bl (isNn x))
 |_=>none
def Ab (x y:Da):Option Da:=match y with
 |.non=>some (.bl (!isNn x))
 |_=>none
def i2 (C:Int->Int->Bool) (g:Int->Int->Da) (x y:Da):Option Da:=match x,y with
 |.int i,.int j=>if C i j=true then some (g i j) else none
 |_,_=>none
def tt:Int->Int->Bool:=fun _ _=>true
def AQ:=i2 tt fun i j => .int (i+j)
def Af:=i2 tt fun i j => .int (i - j)
def Ad:=i2 (fun i j=>decide (CMul i j)) fun i j => .int (i * j)
def AE:=i2 (fun i j=>decide (CDivN i j)) fun i j => .int (i.fdiv j)
def AY:=i2 (fun _ j=>decide (j≠0)) fun i j => .int (i.fmod j)
def Ak:=i2 (fun i j=>decide (CPow i j)) fun i j => .int (i ^ j.toNat)
def lt:=i2 tt fun i j => .bl (decide (i < j))
def gt:=i2 tt fun i j => .bl (decide (j < i))
def ge:=i2 tt fun i j => .bl (decide (j<=i))
def R (x y:Da):Option Da:=match x,y with
 |.lst ds,.int i=>atI ds i
 |.fls ds,.int i=>atI ds i
 |.tup ds,.int i=>atI ds i
 |.str z,.int i=>if z.length<=1000000 then (atI z.cps.toList i).map fun c => .str ⟨#[c]⟩ else none
 |_,_=>none
def scs:List Da->Option (List V)
 |[]=>some []
 |d::ds=>(scV d).bind fun v=>(scs ds).map (v::·)
def inB (x y:Da):Option Bool:=match x,y with
 |.str a,.str z=>if a.cps.size=1 then some (decide (a.cps.getD 0 0∈z.cps.toList)) else none
 |x,.lst ds=>(match scV x,scs ds with
  |some u,some vs=>some (inV u vs)
  |_,_=>(toP x).bind fun p=>(toPs ds).bind fun qs=>if SeqAt.shaped p=true/\SeqAt.shaped (.list qs)=true then some (qs.any fun z=>PyData.eqv z p) else none)
 |x,.tup ds=>(match scV x,scs ds with
  |some u,some vs=>some (inV u vs)
  |_,_=>none)
 |x,.ktp ds=>(match scV x,scs ds with
  |some u,some vs=>some (inV u vs)
  |_,_=>none)
 |_,_=>none
def s (x y:Da):Option Da:=(inB x y).map fun b => .bl (!b)
end D
section
variable {Z:Sk}
theorem lI{G:Gm}{M:Addr->Prop}{H:Hp}{v u:V}{d:Da}(r:Rq G M H v d) (h:D.scV d=some u):v=u:=by
 cases r with
 |non=>cases h;rfl
 |bl b=>cases h;rfl
 |int i=>cases h;rfl
 |str z=>cases h;rfl
 |_=>cases h
theorem lP{G:Gm}{M:Addr->Prop}{H:Hp}{v u:V}{d:Da}(r:Rp G M H v d) (h:D.scV d=some u):v=u:=by
 cases r with
 |non=>cases h;rfl
 |bl b=>cases h;rfl
 |int i=>cases h;rfl
 |str z=>cases h;rfl
 |_=>cases h
theorem dr{r:R2}{C:Int->Int->Bool}{g:Int->Int->Da}{gv:Int->Int->V}(hg:∀ i j G M H,Rp G M H (gv i j) (g i j)) (hr:∀ i j H (Q:VK),C i j=true->Q (gv i j) H->r (.int i) (.int j) H Q):bb Z r (D.i2 C g):=by
 intro G M H x y dx dy d _ _ _ hx hy h Q k
 cases hx with
 |int i =>
  cases hy with
  |int j =>
   have h:(if C i j=true then some (g i j) else none)=some d:=h
   split at h
   ·rename_i hc
    cases h
    exact hr i j H Q hc (k _ _ (Same.refl H) (hg i j G M H))
   ·cases h
  |_=>cases h
 |_=>cases h
theorem cC:bb Z (rI0 fun i j => .int (i+j)) D.AQ:=dr (fun _ _ _ _ _ => .int _) fun i j H Q _ q=>⟨i,j,rfl,rfl,q⟩
theorem jd:bb Z (rI0 fun i j => .int (i - j)) D.Af:=dr (fun _ _ _ _ _ => .int _) fun i j H Q _ q=>⟨i,j,rfl,rfl,q⟩
theorem kh:bb Z (rI0 fun i j => .bl (decide (i < j))) D.lt:=dr (fun _ _ _ _ _ => .bl _) fun i j H Q _ q=>⟨i,j,rfl,rfl,q⟩
theorem ko:bb Z (rI0 fun i j => .bl (decide (j < i))) D.gt:=dr (fun _ _ _ _ _ => .bl _) fun i j H Q _ q=>⟨i,j,rfl,rfl,q⟩
theorem k4:bb Z (rI0 fun i j => .bl (decide (j<=i))) D.ge:=dr (fun _ _ _ _ _ => .bl _) fun i j H Q _ q=>⟨i,j,rfl,rfl,q⟩
end
section
variable {Z:Sk}
theorem fg:bb Z (rI CMul fun i j => .int (i * j)) D.Ad:=dr (fun _ _ _ _ _ => .int _) fun i j H Q c q=>⟨i,j,rfl,rfl,of_decide_eq_true c,q⟩
theorem ck:bb Z (rI CDivN fun i j => .int (i.fdiv j)) D.AE:=dr (fun _ _ _ _ _ => .int _) fun i j H Q c q=>⟨i,j,rfl,rfl,of_decide_eq_true c,q⟩
theorem eo:bb Z (rI (fun _ j=>j≠0) fun i j => .int (i.fmod j)) D.AY:=dr (fun _ _ _ _ _ => .int _) fun i j H Q c q=>⟨i,j,rfl,rfl,of_decide_eq_true c,q⟩
theorem jk:bb Z (rI CPow fun i j => .int (i ^ j.toNat)) D.Ak:=dr (fun _ _ _ _ _ => .int _) fun i j H Q c q=>⟨i,j,rfl,rfl,of_decide_eq_true c,q⟩
theorem gN{G:Gm}{M:Addr->Prop}{H:Hp}{x y:V}{dx dy:Da}{b:Bool}(hx:Rq G M H x dx) (hy:Rq G M H y dy) (h:D.eqP dx dy=some b):∃ p q,Dp G.K H x p/\Dp G.K H y q/\SeqAt.shaped p=true/\SeqAt.shaped q=true/\PyData.eqv p q=b:=by
 obtain⟨p,h1,h⟩:=bind_some h
 obtain⟨q,h2,h⟩:=bind_some h
 split at h
 ·rename_i c
  cases h
  exact⟨p,q,df hx h1,df hy h2,c.1,c.2,rfl⟩
 ·cases h
theorem gs{G:Gm}{M:Addr->Prop}{H:Hp}{x y:V}{dx dy:Da}{b:Bool}(hx:Rq G M H x dx) (hy:Rq G M H y dy) (h:D.eqB dx dy=some b) :
  (scal x y=true/\decide (x=y)=b)\/∃ p q,Dp G.K H x p/\Dp G.K H y q/\SeqAt.shaped p=true/\SeqAt.shaped q=true/\PyData.eqv p q=b:=by
 unfold D.eqB at h
 split at h
 ·rename_i u v hu hv
  split at h
  ·rename_i hs
   cases h
   rw[lI hx hu,lI hy hv]
   exact .inl ⟨hs,rfl⟩
  ·exact .inr (gN hx hy h)
 ·exact .inr (gN hx hy h)
theorem fO{K:PySem.W.Frag}(hK:K=Z.K):bb Z (fun x y H Q=>rEq x y H Q\/rEqD K x y H Q) D.AH:=by
 intro G M H x y dx dy d hG _ _ hx hy h Q k
 obtain⟨b,h1,rfl⟩:=map_some h
 rcases gs hx hy h1 with ⟨a,rfl⟩ | ⟨p,q,a1,a2,a3,a4,rfl⟩
 ·exact .inl ⟨a,k _ _ (Same.refl H) (.bl _)⟩
 ·exact .inr ⟨p,q,by rw[hK,<- hG];exact a1,by rw[hK,<- hG];exact a2,a3,a4,k _ _ (Same.refl H) (.bl _)⟩
theorem fS{K:PySem.W.Frag}(hK:K=Z.K):bb Z (fun x y H Q=>rNe x y H Q\/rNeD K x y H Q) D.AG:=by
 intro G M H x y dx dy d hG _ _ hx hy h Q k
 obtain⟨b,h1,rfl⟩:=map_some h
 rcases gs hx hy h1 with ⟨a,rfl⟩ | ⟨p,q,a1,a2,a3,a4,rfl⟩
 ·exact .inl ⟨a,k _ _ (Same.refl H) (.bl _)⟩
 ·exact .inr ⟨p,q,by rw[hK,<- hG];exact a1,by rw[hK,<- hG];exact a2,a3,a4,k _ _ (Same.refl H) (.bl _)⟩
theorem gy{G:Gm}{M:Addr->Prop}{H:Hp}{x:V}{dx:Da}(hx:Rq G M H x dx):decide (x=V.non)=D.isNn dx:=by
 cases hx <;> simp [D.isNn]
theorem gi:bb Z (fun x y H Q=>y = .non/\Q (.bl (decide (x = .non))) H) D.Ai:=by
 intro G M H x y dx dy d hG _ _ hx hy h Q k
 cases hy with
 |non =>
  cases h
  refine⟨rfl,?_⟩
  rw[gy hx]
  exact k _ _ (Same.refl H) (.bl _)
 |_=>cases h
theorem gw:bb Z (fun x y H Q=>y = .non/\Q (.bl (!decide (x = .non))) H) D.Ab:=by
 intro G M H x y dx dy d hG _ _ hx hy h Q k
 cases hy with
 |non =>
  cases h
  refine⟨rfl,?_⟩
  rw[gy hx]
  exact k _ _ (Same.refl H) (.bl _)
 |_=>cases h
theorem gJ{G:Gm}{M:Addr->Prop}{H:Hp}{xs:List V}{ds:List Da}{i:Int}{d:Da}(R:RpAll G M H xs ds) (h:atI ds i=some d):∃ v,atI xs i=some v/\Rp G M H v d:=by
 have h:(ixN ds.length i).bind (fun j=>ds[j]?)=some d:=h
 obtain⟨j,h1,h2⟩:=bind_some h
 obtain⟨v,h3,h4⟩:=bP R h2
 refine⟨v,?_,h4⟩
 show (ixN xs.length i).bind (fun j=>xs[j]?)=some v
 rw[R.len,h1]
 exact h3
theorem kZ{K:PySem.W.Frag}(hK:K=Z.K):bb Z (rIx K) D.R:=by
 intro G M H x y dx dy d hG _ _ hx hy h Q k
 unfold D.R at h
 split at h
 ·rename_i ds i
  cases hy
  cases hx with
  |lst r t =>
   obtain⟨v,h1,h2⟩:=gJ t h
   exact .inl ⟨_,_,i,v,rfl,rfl,.inl (.inl r),h1,k _ _ (Same.refl H) h2⟩
 ·rename_i ds i
  cases hy
  cases hx with
  |fls r t =>
   obtain⟨v,h1,h2⟩:=gJ t h
   exact .inl ⟨_,_,i,v,rfl,rfl,(by rw[hK,<- hG];exact r),h1,k _ _ (Same.refl H) h2⟩
 ·rename_i ds i
  cases hy
  cases hx with
  |tup r t =>
   obtain⟨v,h1,h2⟩:=gJ t h
   exact .inr (.inl ⟨_,_,i,v,rfl,rfl,by rw[hK,<- hG];exact r,h1,k _ _ (Same.refl H) h2⟩)
 ·rename_i z i
  cases hy
  cases hx
  split at h
  ·rename_i hl
   obtain⟨c,h1,rfl⟩:=map_some h
   exact .inr (.inr ⟨z,i,c,rfl,rfl,Nat.le_trans hl (by decide),h1,k _ _ (Same.refl H) (.str _)⟩)
  ·cases h
 ·cases h
theorem bL{G:Gm}{M:Addr->Prop}{H:Hp}:∀{xs us:List V}{ds:List Da},RpAll G M H xs ds->D.scs ds=some us->xs=us
 |_,_,_,.nil,h=>by
  cases h
  rfl
 |_,_,_,.cons r t,h=>by
  obtain⟨v,h1,h⟩:=bind_some h
  obtain⟨vs,h2,rfl⟩:=map_some h
  rw[lP r h1,bL t h2]
theorem lH{d:Da}{u:V}(h:D.scV d=some u):flatV u=true:=by
 cases d <;> cases h <;> rfl
theorem bY:∀{ds:List Da}{us:List V},D.scs ds=some us->us.all flatV=true
 |[],_,h=>by
  cases h
  rfl
 |d::ds,_,h=>by
  obtain⟨v,h1,h⟩:=bind_some h
  obtain⟨vs,h2,rfl⟩:=map_some h
  show (flatV v && vs.all flatV)=true
  rw[lH h1,bY h2]
  rfl
def j6 (K:PySem.W.Frag) (neg:Bool):R2:=fun x y H Q=>(∃(c:Nat) (z:Str),x = .str ⟨#[c]⟩/\y = .str z/\Q (.bl (if neg=true then !decide (c∈z.cps.toList) else decide (c∈z.cps.toList))) H)\/rIn K neg x y H Q \/
 (∃ d ds,Dp K H x d/\Dp K H y (.list ds)/\SeqAt.shaped d=true/\SeqAt.shaped (.list ds)=true/\Q (.bl (if neg=true then !ds.any fun z=>PyData.eqv z d else ds.any fun z=>PyData.eqv z d)) H)
theorem jS{K:PySem.W.Frag}(hK:K=Z.K) {G:Gm}{M:Addr->Prop}{H:Hp}{x y:V}{dx dy:Da}{b neg:Bool}(hG:G.K=Z.K) (hx:Rq G M H x dx) (hy:Rq G M H y dy) (h:D.inB dx dy=some b) {Q:VK}(k:Q (.bl (if neg=true then !b else b)) H):j6 K neg x y H Q:=by
 subst hK
 unfold D.inB at h
 split at h
 ·rename_i a z
  split at h
  ·rename_i ha
   cases h
   cases hx
   cases hy
   obtain⟨cps⟩:=a
   have e:cps=#[cps.getD 0 0]:=by
    refine Array.ext (by rw[show cps.size=1 from ha];rfl) fun i h1 h2=>?_
    have:i=0:=by
     have:cps.size=1:=ha
     omega
    subst this
    simp [Array.getD,h1]
   refine .inl ⟨cps.getD 0 0,z,by rw[<- e],rfl,k⟩
  ·cases h
 ·rename_i x0 ds
  split at h
  ·rename_i u vs hu hv
   cases h
   cases hy with
   |lst r t =>
    rw[lI hx hu]
    refine .inr (.inl ⟨_,_,rfl,.inl (.inl (.inl r)),lH hu,?_,?_⟩)
    ·rw[bL t hv]
     exact bY hv
    ·rw[bL t hv]
     exact k
  ·obtain⟨p,h1,h⟩:=bind_some h
   obtain⟨qs,h2,h⟩:=bind_some h
   split at h
   ·rename_i c
    cases h
    cases hy with
    |lst r t=>exact .inr (.inr ⟨p,qs,by rw[<- hG];exact df hx h1,.lst (.inl (.inl r)) (by rw[<- hG];exact rps_dp t h2),c.1,c.2,k⟩)
   ·cases h
 ·rename_i x0 ds
  split at h
  ·rename_i u vs hu hv
   cases h
   cases hy with
   |tup r t =>
    rw[lI hx hu]
    refine .inr (.inl ⟨_,_,rfl,.inr (by rw[<- hG];exact r),lH hu,?_,?_⟩)
    ·rw[bL t hv]
     exact bY hv
    ·rw[bL t hv]
     exact k
  ·cases h
 ·rename_i x0 ds
  split at h
  ·rename_i u vs hu hv
   cases h
   cases hy with
   |ktp r o t =>
    rw[lI hx hu]
    refine .inr (.inl ⟨_,_,rfl,.inr (by rw[<- hG];exact r H),lH hu,?_,?_⟩)
    ·rw[bL t hv]
     exact bY hv
    ·rw[bL t hv]
     exact k
  ·cases h
 ·cases h
theorem ff{K:PySem.W.Frag}(hK:K=Z.K):bb Z (j6 K true) D.s:=by
 intro G M H x y dx dy d hG _ _ hx hy h Q k
 obtain⟨b,h1,rfl⟩:=map_some h
 exact jS (neg:=true) hK hG hx hy h1 (k _ _ (Same.refl H) (.bl _))
end
section
variable {X:Cx}
theorem dj{K:PySem.W.Frag}(hK:X.K=K) (hu:X.A.units+65 < cLine):OpR X (compareOp .NotIn) (j6 K true):=by
 subst hK
 exact OpR.or op_notIn_sign (OpR.or op_notIn_seq (op_notInD hu))
theorem cq{K:PySem.W.Frag}(hK:X.K=K) (hu:X.A.units+64 < cLine):OpR X (compareOp .Eq) (fun x y H Q=>rEq x y H Q\/rEqD K x y H Q):=by
 subst hK
 exact OpR.or op_eq (op_eqD hu)
theorem cm{K:PySem.W.Frag}(hK:X.K=K) (hu:X.A.units+64 < cLine):OpR X (compareOp .NotEq) (fun x y H Q=>rNe x y H Q\/rNeD K x y H Q):=by
 subst hK
 exact OpR.or op_ne (op_neD hu)
theorem lb{K:PySem.W.Frag}(hK:X.K=K):IxR X (rIx K):=by
 subst hK
 exact ix_seq
end
namespace D
def AJ:List Da->Option Da
 |[.lst ds]=>some (.int ds.length)
 |[.fls ds]=>some (.int ds.length)
 |[.tup ds]=>some (.int ds.length)
 |[.str z]=>if z.length<=1000000 then some (.int z.length) else none
 |_=>none
def AO:List Da->Option Da
 |[.int i]=>some (.int i)
 |[.bl b]=>some (.int (if b then 1 else 0))
 |_=>none
def bools:List Da->Option (List Bool)
 |[]=>some []
 |.bl b::r=>(bools r).map (b::·)
 |_=>none
def Al:List Da->Option Da
 |[.lst ds]=>(bools ds).map fun bs => .bl (bs.all id)
 |_=>none
def any:List Da->Option Da
 |[.lst ds]=>(bools ds).map fun bs => .bl (bs.any id)
 |_=>none
def tuple:List Da->Option Da
 |[.lst ds]=>some (.tup ds)
 |[.fls ds]=>some (.tup ds)
 |_=>none
def keyD:Key->Da
 |.inl i => .int i
 |.inr z => .str z
def list:List Da->Option (List Da)
 |[.lst ds]=>some ds
 |[.fls ds]=>some ds
 |[.tup ds]=>some ds
 |[.dct ks _]=>some (ks.map keyD)
 |_=>none
def cutD (ds:List Da) (lo hi:Option Int):List Da:=(ds.drop (HT.sIx ds.length 0 lo)).take (HT.sIx ds.length ds.length hi - HT.sIx ds.length 0 lo)
def Am (o:Option DE):Sto->Loc->ai->Option (Sto × Option Int):=fun S L δ=>match o with
 |none=>some (S,none)
 |some a=>(a S L δ).bind fun p=>match p.2 with
  |.val (.int i)=>some (p.1,some i)
  |_=>none
def get (ks:List Str) (xs:List Da) (f:Str):Option Da:=match ks,xs with
 |k::ks,x::xs=>if k=f then some x else get ks xs f
 |_,_=>none
def fld (cs:List Str) (f:Str) (a:DE):DE:=fun S L δ=>(a S L δ).bind fun p=>(rdE p.1 L p.2).bind fun x=>match x with
 |.obj c ks xs=>if c∈cs then (get ks xs f).map fun d=>(p.1,.val d) else none
 |_=>none
def methR (c:Str) (m:Str) (φ:Sto->List Da->Option Da) (a:DE) (r:DA):DE:=fun S L δ=>(a S L δ).bind fun p=>match p.2 with
 |.val d=>(rdD p.1 d).bind fun x=>(match x with
  |.obj c' ks _=>if c'=c/\m ∉ ks then (r p.1 L δ).bind fun q=>(vals q.2).bind fun ds=>(φ q.1 (d::ds)).map fun e=>(q.1,.val e) else none
  |_=>none)
 |_=>none
def methW (c:Str) (m:Str) (φ:Sto->List Da->Option (Sto × Da)) (a:DE) (r:DA):DE:=fun S L δ=>(a S L δ).bind fun p=>match p.2 with
 |.val d=>(rdD p.1 d).bind fun x=>(match x with
  |.obj c' ks _=>if c'=c/\m ∉ ks then (r p.1 L δ).bind fun q=>(vals q.2).bind fun ds=>(φ q.1 (d::ds)).map fun e=>(e.1,.val e.2) else none
  |_=>none)
 |_=>none
def AX (a:DE) (o i:DE):DS:=fun S L δ=>(a S L δ).bind fun p=>(o p.1 L δ).bind fun q=>(i q.1 L δ).bind fun r=>match p.2,q.2,r.2 with
 |.val d,.val (.ref k),.val (.int j)=>(match r.1[k]? with
  |some (.lst ds)=>(ixN ds.length j).map fun n => .nx (r.1.set k (.lst (ds.set n d))) L δ
  |_=>none)
 |.val d,.own k,.val (.int j)=>(match L[k]? with
  |some (some ds)=>(ixN ds.length j).map fun n => .nx r.1 (L.set k (some (ds.set n d))) δ
  |_=>none)
 |_,_,_=>none
end D
section
variable {X:Cx}{Z:Sk}{e:Expr}{st:Stmt}
theorem jJ{K:PySem.W.Frag}(hK:K=Z.K):gM Z (fun xs H Q=>(∃ p ys,xs=[.ref p]/\(SqL K H p ys\/SqT K H p ys)/\Q (.int ys.length) H)\/∃ z,xs=[.str z]/\z.length<=sizeLine/\Q (.int z.length) H) D.AJ:=by
 intro G M H xs ds d hG _ _ R h Q k
 subst hK
 unfold D.AJ at h
 split at h
 ·cases h
  obtain⟨v,rfl,r⟩:=rq1 R
  cases r with
  |lst r t=>exact .inl ⟨_,_,rfl,.inl (.inl (.inl r)),by rw[t.len];exact k _ _ (Same.refl H) (.int _)⟩
 ·cases h
  obtain⟨v,rfl,r⟩:=rq1 R
  cases r with
  |fls r t=>exact .inl ⟨_,_,rfl,.inl (by rw[<- hG];exact r),by rw[t.len];exact k _ _ (Same.refl H) (.int _)⟩
 ·cases h
  obtain⟨v,rfl,r⟩:=rq1 R
  cases r with
  |tup r t=>exact .inl ⟨_,_,rfl,.inr (by rw[<- hG];exact r),by rw[t.len];exact k _ _ (Same.refl H) (.int _)⟩
 ·split at h
  ·rename_i hl
   cases h
   obtain⟨v,rfl,r⟩:=rq1 R
   cases r
   exact .inr ⟨_,rfl,Nat.le_trans hl (by decide),k _ _ (Same.refl H) (.int _)⟩
  ·cases h
 ·cases h
theorem iF{K:PySem.W.Frag}(hK:X.K=K):CallR X (.builtin "len") (fun xs H Q=>(∃ p ys,xs=[.ref p]/\(SqL K H p ys\/SqT K H p ys)/\Q (.int ys.length) H)\/∃ z,xs=[.str z]/\z.length<=sizeLine/\Q (.int z.length) H):=by
 subst hK
 exact CallR.or call_len_seq call_len_str
theorem cM:gM Z (fun xs H Q=>(∃ i,xs=[.int i]/\Q (.int i) H)\/∃ k,xs=[.bl k]/\Q (.int (if k then 1 else 0)) H) D.AO:=by
 intro G M H xs ds d _ _ _ R h Q k
 unfold D.AO at h
 split at h
 ·cases h
  obtain⟨v,rfl,r⟩:=rq1 R
  cases r
  exact .inl ⟨_,rfl,k _ _ (Same.refl H) (.int _)⟩
 ·cases h
  obtain⟨v,rfl,r⟩:=rq1 R
  cases r
  exact .inr ⟨_,rfl,k _ _ (Same.refl H) (.int _)⟩
 ·cases h
theorem dN{G:Gm}{M:Addr->Prop}{H:Hp}:∀{xs:List V}{ds:List Da}{bs:List Bool},RpAll G M H xs ds->D.bools ds=some bs->xs=bs.map V.bl
 |[],[],_,_,h=>by
  cases h
  rfl
 |x::xs,.bl b::ds,_,R,h=>by
  obtain⟨r,h1,rfl⟩:=map_some (show (D.bools ds).map (b::·)=some _ from h)
  cases R with
  |cons q t =>
   cases q
   rw[dN t h1]
   rfl
 |x::xs,.non::_,_,_,h=>nomatch h
 |x::xs,.int _::_,_,_,h=>nomatch h
 |x::xs,.str _::_,_,_,h=>nomatch h
 |x::xs,.lst _::_,_,_,h=>nomatch h
 |x::xs,.tup _::_,_,_,h=>nomatch h
 |x::xs,.dct _ _::_,_,_,h=>nomatch h
 |x::xs,.obj _ _ _::_,_,_,h=>nomatch h
 |x::xs,.ref _::_,_,_,h=>nomatch h
 |x::xs,.fn _::_,_,_,h=>nomatch h
 |x::xs,.fls _::_,_,_,h=>nomatch h
theorem ki{K:PySem.W.Frag}:gM Z (rAll K) D.Al:=by
 intro G M H xs ds d _ _ _ R h Q k
 unfold D.Al at h
 split at h
 ·obtain⟨bs,h1,rfl⟩:=map_some h
  obtain⟨v,rfl,r⟩:=rq1 R
  cases r with
  |lst r t=>exact⟨_,bs,rfl,.inl (.inl (by rw[<- dN t h1];exact r)),k _ _ (Same.refl H) (.bl _)⟩
 ·cases h
theorem fz{G:Gm}{M:Addr->Prop}{H:Hp}{p:Addr}{xs:List V}{ds:List Da}(hM:∀ b,M b->H b≠none) (hp:H p=none) (t:RpAll G M H xs ds):Rp G M (upd H p (.tup xs)) (.ref p) (.tup ds) :=
 .tup (fun c=>hM _ c hp) upd_same (RpAll.go (Stay.of fun b o _ z=>aM hp b o z) (fun b z => .inl z) t)
theorem cJ{K:PySem.W.Frag}(hK:K=Z.K):gM Z (fun xs H Q=>∃ p ys,xs=[.ref p]/\((SqL K H p ys/\∀ l,H l=none->Q (.ref l) (upd H l (.tup ys)))\/(SqT K H p ys/\Q (.ref p) H))) D.tuple:=by
 intro G M H xs ds d hG _ hM R h Q k
 subst hK
 unfold D.tuple at h
 split at h
 ·cases h
  obtain⟨v,rfl,r⟩:=rq1 R
  cases r with
  |lst r t=>exact⟨_,_,rfl,.inl ⟨.inl (.inl r),fun l hl=>k _ _ (aM hl) (fz hM hl t)⟩⟩
 ·cases h
  obtain⟨v,rfl,r⟩:=rq1 R
  cases r with
  |fls r t=>exact⟨_,_,rfl,.inl ⟨(by rw[<- hG];exact r),fun l hl=>k _ _ (aM hl) (fz hM hl t)⟩⟩
 ·cases h
end
section
variable {X:Cx}{Z:Sk}{e:Expr}{st:Stmt}
theorem cF{G:Gm}{M:Addr->Prop}{H:Hp}:∀ ks:List Key,RpAll G M H (ks.map kV) (ks.map D.keyD)
 |[] => .nil
 |.inl i::r => .cons (.int i) (cF r)
 |.inr z::r => .cons (.str z) (cF r)
theorem iW{K:PySem.W.Frag}(hK:K=Z.K):jj Z (fun xs H Q=>(∃ p ys,xs=[.ref p]/\(SqL K H p ys\/SqT K H p ys)/\∀ l,H l=none->Q (.ref l) (upd H l (.lst ys)))\/∃(a:Addr) (kvs:List (Key × V)),xs=[.ref a]/\Rd H a (.dK kvs)/\∀ p,H p=none->Q (.ref p) (upd H p (.lst (kvs.map fun kv=>kV kv.1)))) D.list:=by
 intro G M H xs ds es hG _ R h Q k
 subst hK
 unfold D.list at h
 split at h
 ·cases h
  obtain⟨v,rfl,r⟩:=rq1 R
  cases r with
  |lst r t=>exact .inl ⟨_,_,rfl,.inl (.inl (.inl r)),fun l hl=>k _ _ hl t⟩
 ·cases h
  obtain⟨v,rfl,r⟩:=rq1 R
  cases r with
  |fls r t=>exact .inl ⟨_,_,rfl,.inl (by rw[<- hG];exact r),fun l hl=>k _ _ hl t⟩
 ·cases h
  obtain⟨v,rfl,r⟩:=rq1 R
  cases r with
  |tup r t=>exact .inl ⟨_,_,rfl,.inr (by rw[<- hG];exact r),fun l hl=>k _ _ hl t⟩
 ·cases h
  obtain⟨v,rfl,r⟩:=rq1 R
  cases r with
  |@dct a kvs _ _ r hk t =>
   refine .inr ⟨_,kvs,rfl,r,fun l hl=>k _ _ hl ?_⟩
   have e:(kvs.map fun kv=>kV kv.1)=(kvs.map Prod.fst).map kV:=by rw[List.map_map];rfl
   rw[e,<- hk]
   exact cF _
 ·cases h
theorem iz{K:PySem.W.Frag}(hK:X.K=K) (hc:X.calm=true):CallR X (.type "list") (fun xs H Q=>(∃ p ys,xs=[.ref p]/\(SqL K H p ys\/SqT K H p ys)/\∀ l,H l=none->Q (.ref l) (upd H l (.lst ys)))\/∃(a:Addr) (kvs:List (Key × V)),xs=[.ref a]/\Rd H a (.dK kvs)/\∀ p,H p=none->Q (.ref p) (upd H p (.lst (kvs.map fun kv=>kV kv.1)))):=by
 subst hK
 exact CallR.or call_list_of (call_listD hc)
theorem RpAll.drop{G:Gm}{M:Addr->Prop}{H:Hp}:∀{n:Nat}{vs:List V}{ds:List Da},RpAll G M H vs ds->RpAll G M H (vs.drop n) (ds.drop n)
 |0,_,_,h=>h
 |_+1,_,_,.nil => .nil
 |n+1,_,_,.cons _ t=>RpAll.drop (n:=n) t
theorem RpAll.take{G:Gm}{M:Addr->Prop}{H:Hp}:∀{n:Nat}{vs:List V}{ds:List Da},RpAll G M H vs ds->RpAll G M H (vs.take n) (ds.take n)
 |0,_,_,_ => .nil
 |_+1,_,_,.nil => .nil
 |n+1,_,_,.cons h t => .cons h (RpAll.take (n:=n) t)
theorem RpAll.cut{G:Gm}{M:Addr->Prop}{H:Hp}{vs:List V}{ds:List Da}(R:RpAll G M H vs ds) (lo hi:Option Int):RpAll G M H (cutV vs lo hi) (D.cutD ds lo hi):=by
 unfold cutV D.cutD
 rw[R.len]
 exact R.drop.take
theorem RpAll.set{G:Gm}{M:Addr->Prop}{H:Hp}{v:V}{d:Da}(r:Rp G M H v d):∀{n:Nat}{vs:List V}{ds:List Da},RpAll G M H vs ds->RpAll G M H (vs.set n v) (ds.set n d)
 |_,_,_,.nil => .nil
 |0,_,_,.cons _ t => .cons r t
 |n+1,_,_,.cons h t => .cons h (RpAll.set r (n:=n) t)
theorem jL{A:DE}{t:TE}(w:∀ σ H Q,tE Z A σ H Q->t σ H Q):∀ σ H Q,tT Z (D.J A) σ H Q->tTest t σ H Q:=fun σ H Q ⟨F,S,L,δ,T,S',x,hF,C,hd,k⟩=>by
 obtain⟨p,h1,hd⟩:=bind_some hd
 obtain⟨d,h2,hd⟩:=bind_some hd
 obtain⟨c,h3,hd⟩:=map_some hd
 cases hd
 refine w _ _ _ ⟨F,S,L,δ,T,p.1,p.2,hF,C,h1,fun F1 v H1 g1 ⟨O,C1⟩=>?_⟩
 exact⟨_,fe (C1.rd (C1.tmp (v,.ev p.2) (List.mem_cons_self ..)) h2) h3,k F1 _ g1 ⟨O,C1.pop⟩⟩
theorem jQ{r:R2}{f:Da->Da->Option Da}{A B:DE}(o:bb Z r f):∀ σ H Q,tE Z (D.I f A B) σ H Q->tOp r (tE Z A) (tE Z B) σ H Q:=fun σ H Q ⟨F,S,L,δ,T,S',x,hF,C,hd,k⟩=>by
 obtain⟨p,h1,hd⟩:=bind_some hd
 obtain⟨q,h2,hd⟩:=bind_some hd
 obtain⟨dx,h3,hd⟩:=bind_some hd
 obtain⟨dy,h4,hd⟩:=bind_some hd
 obtain⟨d,h5,hd⟩:=map_some hd
 cases hd
 refine⟨F,S,L,δ,T,p.1,p.2,hF,C,h1,fun F1 x H1 g1 C1=>⟨F1,p.1,L,δ,_,q.1,q.2,hF.gr g1,C1,h2,fun F2 y H2 g2 ⟨O,C2⟩=>?_⟩⟩
 have hF2:=hF.gr (g1.trans g2)
 have ty:=C2.tmp (y,.ev q.2) (List.mem_cons_self ..)
 have tx:=C2.tmp (x,.ev p.2) (List.mem_cons_of_mem _ (List.mem_cons_self ..))
 exact o F2.G (Pr F2 O L) H2 x y dx dy d hF2.1 hF2.2.1 (fun b=>C2.prH) (C2.rd tx h3) (C2.rd ty h4) h5 Q fun v H' s hv=>k F2 v H' (g1.trans g2) ⟨O,(C2.same s).pop.pop.push hv⟩
theorem ay{r:R2}{f:Da->Da->Option Da}{A B:DE}(o:bb Z r f) (h:PT X e (tTest (tOp r (tE Z A) (tE Z B)))):PT X e (tT Z (D.J (D.I f A B))):=gP h (jL (jQ o))
theorem gZ{xs:List V}{ds:List Da}{G:Gm}{M:Addr->Prop}{H:Hp}{j:Int}{n:Nat}(t:RpAll G M H xs ds) (h:ixN ds.length j=some n):ixN xs.length j=some n:=by
 rw[t.len]
 exact h
theorem e6{A O I:DE}(hW:Z.W=true) (h:PS X st (tAsg (tE Z A) (gSub (tE Z O) (tE Z I) rSetL))):PS X st (tS Z (D.AX A O I)):=bv h fun E σ H ⟨F,S,L,δ,T,x,hF,C,hd,k⟩=>by
 obtain⟨p,h1,hd⟩:=bind_some hd
 obtain⟨q,h2,hd⟩:=bind_some hd
 obtain⟨r,h3,hd⟩:=bind_some hd
 refine⟨F,S,L,δ,T,p.1,p.2,hF,C,h1,fun F1 v H1 g1 C1=>⟨F1,p.1,L,δ,_,q.1,q.2,hF.gr g1,C1,h2,fun F2 o H2 g2 C2=>⟨F2,q.1,L,δ,_,r.1,r.2,(hF.gr g1).gr g2,C2,h3,fun F3 i H3 g3 ⟨O3,C3⟩=>?_⟩⟩⟩
 have gg:=(g1.trans g2).trans g3
 have ti:=C3.tmp (i,.ev r.2) (List.mem_cons_self ..)
 have to:=C3.tmp (o,.ev q.2) (List.mem_cons_of_mem _ (List.mem_cons_self ..))
 have tv:=C3.tmp (v,.ev p.2) (List.mem_cons_of_mem _ (List.mem_cons_of_mem _ (List.mem_cons_self ..)))
 split at hd
 ·rename_i d kk j e1 e2 e3
  rw[e1] at tv
  rw[e2] at to
  rw[e3] at ti
  have ti:Rp F3.G (Pr F3 O3 L) H3 i (.int j):=ti
  have to:Rp F3.G (Pr F3 O3 L) H3 o (.ref kk):=to
  cases ti
  cases to with
  |@ref a _ hr =>
   split at hd
   ·rename_i ds hs
    obtain⟨n,h4,hd⟩:=map_some hd
    cases hd
    obtain⟨xs,gx,g2⟩:=C3.cells kk a _ hr hs
    refine⟨a,xs,j,n,rfl,rfl,gx,gZ g2 h4,k F3 σ _ gg ⟨O3,(C3.updS ((hF.gr gg).2.2.trans hW) hr hs (fun s=>?_) (fun _ _ z=>by cases z)).pop.pop.pop⟩⟩
    exact⟨_,upd_same,RpAll.go s (fun b z => .inl z) (RpAll.set (d:=d) tv g2)⟩
   ·cases hd
 ·rename_i d kk j e1 e2 e3
  rw[e1] at tv
  rw[e2] at to
  rw[e3] at ti
  have ti:Rp F3.G (Pr F3 O3 L) H3 i (.int j):=ti
  cases ti
  obtain⟨a,es,o1,o2,rfl⟩:=to
  split at hd
  ·rename_i ds hs
   obtain⟨n,h4,hd⟩:=map_some hd
   cases hd
   obtain⟨xs,gx,g2⟩:=C3.own kk a ds o1 hs
   exact⟨a,xs,j,n,rfl,rfl,gx,gZ g2 h4,k F3 σ _ gg ⟨O3,(C3.updL o1 hs (RpAll.set (d:=d) tv g2)).pop.pop.pop⟩⟩
  ·cases hd
 ·cases hd
end
section
variable {X:Cx}{Z:Sk}{st:Stmt}
theorem dC{i:Nat}{A:DE}(h:PS X st (tAsg (tE Z A) (gName i))):PS X st (tS Z (D.X A (D.H i))):=bv h fun E σ H ⟨F,S,L,δ,T,o,hF,C,hd,k⟩=>by
 obtain⟨p,h1,hd⟩:=bind_some hd
 obtain⟨δ',h2,hd⟩:=map_some hd
 cases hd
 cases h2
 exact⟨F,S,L,δ,T,p.1,p.2,hF,C,h1,fun F1 v H1 g1 ⟨O,C1⟩=>k F1 _ H1 g1 ⟨O,C1.pop.set i (C1.tmp (v,.ev p.2) (List.mem_cons_self ..))⟩⟩
theorem jG{es:List Expr}{t t':TT}(h:PTs X es t) (w:∀ σ H Q,t' σ H Q->t σ H Q):PTs X es t':=⟨fun pins s σ H Q I q=>h.run pins s σ H Q I (w σ H Q q)⟩
theorem cc(h:PTs X [] tYes):PTs X [] (tT Z D.AC):=jG h fun σ H Q ⟨F,S,L,δ,T,S',x,hF,C,hd,k⟩=>by
 cases hd
 exact k F H (.refl F) C
end
theorem CtxO.newCell{F:Fr}{O:List Addr}{H:Hp}{S:Sto}{L:Loc}{σ:L2.St}{δ:ai}{T:List (V × Tv)}(C:CtxO F O H S L σ δ T) (hW:F.W=true) {p:Addr}{o:HO}{c:Cell}(hp:H p=none) (ho:∀ x u,o ≠ .frz x u) (hc:∀(G':Gm) (M':Addr->Prop),G'.K=F.G.K->G'.mg=F.G.mg->(∀{xs:List V}{ds:List Da},RpAll F.G (Pr F O L) H xs ds->RpAll G' M' (upd H p o) xs ds)->aA G' M' (upd H p o) p c) :
  ∃ F',Gr F F'/\CtxO F' O (upd H p o) (S++[c]) L σ δ ((.ref p,.ev (.val (.ref S.length)))::T):=by
 have e:Same H (upd H p o):=aM hp
 have np:p ∉ F.G.R:=fun z=>C.rH z hp
 have st:Stay (Pr F O L) H (upd H p o):=Stay.of fun b o _ h=>e b o h
 have hr:∀(k:Nat) (a:Addr),F.G.R[k]?=some a->(F.G.R++[p])[k]?=some a:=fun k a h=>by rw[List.getElem?_append_left (List.getElem?_eq_some_iff.mp h).1];exact h
 have hm:∀ b,(Pr F O L b\/b∈[p])->Pr F O L b\/H b=none:=fun b h=>h.imp id fun z=>by rw[List.mem_singleton.mp z];exact hp
 have lastR:(F.G.R++[p])[S.length]?=some p:=by rw[<- C.len];exact bE _ _
 have sh:Sh ⟨F.G.K,F.G.mg,F.G.R++[p]⟩ (fun a=>Pr F O L a\/a∈[p]) (upd H p o) (S++[c]):=by
  refine⟨by rw[List.length_append,List.length_append,C.len];rfl,?_,fun a h=>?_,fun a h=>?_,fun k a c' h1 h2=>?_⟩
  ·refine List.nodup_append.mpr ⟨C.nd,by simp,fun a ha b hb z=>?_⟩
   rw[List.mem_singleton.mp hb] at z
   rw[z] at ha
   exact np ha
  ·exact(List.mem_append.mp h).imp (fun z => .inl (C.rN a z)) id
  ·rcases h with h | h
   ·exact bO e (C.prH h)
   ·rw[List.mem_singleton.mp h,upd_same]
    exact fun z=>by cases z
  ·by_cases l:k < S.length
   ·rw[List.getElem?_append_left l] at h2
    have h1:F.G.R[k]?=some a:=by
     have h1:(F.G.R++[p])[k]?=some a:=h1
     rw[List.getElem?_append_left (by rw[C.len];exact l)] at h1
     exact h1
    exact fy (G:=F.G) rfl rfl hr st hm (fun o h=>e _ _ h) (C.cells k a c' h1 h2)
   ·have l2:=(List.getElem?_eq_some_iff.mp h2).1
    rw[List.length_append] at l2
    have ek:k=S.length:=by
     have:([c]:List Cell).length=1:=rfl
     omega
    subst ek
    rw[bE] at h2
    cases h2
    have h1:(F.G.R++[p])[S.length]?=some a:=h1
    rw[lastR] at h1
    cases h1
    exact hc _ _ rfl rfl fun R=>RpAll.mv (G:=F.G) (G':=⟨F.G.K,F.G.mg,F.G.R++[p]⟩) rfl rfl hr st hm R
 have hu:∀ a∈F.G.R++[p],∀ x u,upd H p o a≠some (.frz x u):=fun a ha x u z=>by
  rcases List.mem_append.mp ha with ha | ha
  ·exact dA (fun o h=>e a o h) (C.rH ha) (C.ul hW a ha) x u z
  ·rw[List.mem_singleton.mp ha,upd_same] at z
   exact ho x u (Option.some.inj z)
 obtain⟨F',g,C',hv⟩:=C.grow (v := .ref p) (d := .ref S.length) hW (fun a h=>by rw[List.mem_singleton.mp h];exact hp) (fun b o _ h=>e b o h) sh hu (.ref lastR)
 exact⟨F',g,C'.push hv⟩
namespace D
def AS (a:DA):DE:=fun S L δ=>(a S L δ).bind fun p=>if p.2.length<=1000 then (vals p.2).map fun ds=>(p.1++[.lst ds],.val (.ref p.1.length)) else none
def AN (o a:DE):DE:=fun S L δ=>(o S L δ).bind fun p=>match p.2 with
 |.val (.ref k)=>(match p.1[k]? with
  |some (.lst _)=>(a p.1 L δ).bind fun q=>(match q.2,q.1[k]? with
   |.val d,some (.lst ds)=>if ds.length<=100000 then some (q.1.set k (.lst (ds++[d])),.val .non) else none
   |_,_=>none)
  |_=>none)
 |_=>none
end D
section
variable {X:Cx}{Z:Sk}{e:Expr}{st:Stmt}
theorem dF{A:DA}(hW:Z.W=true) (h:PE X e (tLst (tA Z A))):PE X e (tE Z (D.AS A)):=az h fun σ H Q ⟨F,S,L,δ,T,S',x,hF,C,hd,k⟩=>by
 obtain⟨p,h1,hd⟩:=bind_some hd
 split at hd
 ·rename_i hl
  obtain⟨ds,h2,hd⟩:=map_some hd
  cases hd
  refine⟨F,S,L,δ,T,p.1,p.2,hF,C,h1,fun F1 vs H1 g1 hv ⟨O,C1⟩=>⟨small (by omega),fun a ha=>?_⟩⟩
  have R:=bD h2 hv fun p hp=>C1.tmp p (List.mem_append_left _ hp)
  obtain⟨F2,g2,C2⟩:=C1.drop.newCell (c := .lst ds) ((hF.gr g1).2.2.trans hW) ha (fun _ _ z=>by cases z) fun G' M' _ _ t=>⟨vs,upd_same,t R⟩
  exact k F2 _ _ (g1.trans g2) ⟨O,C2⟩
 ·cases hd
theorem fj{O A:DE}(hW:Z.W=true) (h:PE X e (tBM Z.K "list" rAppend (tE Z O) (tCons (tE Z A) tNil))):PE X e (tE Z (D.AN O A)):=az h fun σ H Q ⟨F,S,L,δ,T,S',x,hF,C,hd,k⟩=>by
 obtain⟨p,h1,hd⟩:=bind_some hd
 split at hd
 ·rename_i kk e1
  split at hd
  ·rename_i es hs0
   obtain⟨q,h2,hd⟩:=bind_some hd
   split at hd
   ·rename_i d ds e2 hs
    split at hd
    ·rename_i hl
     cases hd
     refine⟨F,S,L,δ,T,p.1,p.2,hF,C,h1,fun F1 v H1 g1 ⟨O1,C1⟩=>?_⟩
     rw[e1] at C1
     have tv:Rp F1.G (Pr F1 O1 L) H1 v (.ref kk):=C1.tmp (v,.ev (.val (.ref kk))) (List.mem_cons_self ..)
     cases tv with
     |@ref a _ hr =>
      obtain⟨xs0,c1,_⟩:=C1.cells kk a _ hr hs0
      refine⟨.inl ⟨rfl,xs0,.inl (.inl c1)⟩,F1,p.1,L,δ,_,q.1,q.2,hF.gr g1,⟨O1,C1⟩,h2,fun F2 y H2 g2 ⟨O2,C2⟩=>?_⟩
      rw[e2] at C2
      have ty:Rp F2.G (Pr F2 O2 L) H2 y d:=C2.tmp (y,.ev (.val d)) (List.mem_cons_self ..)
      have tr:Rp F2.G (Pr F2 O2 L) H2 (.ref a) (.ref kk):=C2.tmp (.ref a,.ev (.val (.ref kk))) (List.mem_cons_of_mem _ (List.mem_cons_self ..))
      cases tr with
      |ref hr2 =>
       obtain⟨xs,c2,c3⟩:=C2.cells kk a _ hr2 hs
       refine⟨a,xs,y,rfl,rfl,c2,?_,k F2 _ _ (g1.trans g2) ⟨O2,((C2.updS (c' := .lst (ds++[d])) ((hF.gr (g1.trans g2)).2.2.trans hW) hr2 hs (fun s=>?_) (fun _ _ z=>by cases z)).pop.pop).push .non⟩⟩
       ·rw[c3.len]
        exact Nat.lt_of_le_of_lt hl (by decide)
       ·exact⟨_,upd_same,RpAll.go s (fun b z => .inl z) (c3.app (.cons ty .nil))⟩
    ·cases hd
   ·cases hd
  ·cases hd
 ·cases hd
end
namespace D
def mk (c:Str) (fsn:List Str) (a:DA):DE:=fun S L δ=>(a S L δ).bind fun p=>(vals p.2).bind fun ds=>if ds.length=fsn.length then some (p.1,.val (.obj c fsn ds)) else none
def itemsD:Da->Option (List Da)
 |.lst ds=>some ds
 |.fls ds=>some ds
 |.tup ds=>some ds
 |.dct ks _=>some (ks.map keyD)
 |_=>none
def AU (a:DE) (r:DA):DA:=fun S L δ=>(a S L δ).bind fun p=>(rdE p.1 L p.2).bind fun x=>(itemsD x).bind fun ds=>(r p.1 L δ).map fun q=>(q.1,ds.map Ev.val++q.2)
end D
section
variable {X:Cx}{Z:Sk}{e:Expr}{st:Stmt}
theorem CtxO.pushes{F:Fr}{O:List Addr}{H:Hp}{S:Sto}{L:Loc}{σ:L2.St}{δ:ai}{T:List (V × Tv)}:∀{xs:List V}{ds:List Da},CtxO F O H S L σ δ T->RpAll F.G (Pr F O L) H xs ds->CtxO F O H S L σ δ (xs.zip ((ds.map Ev.val).map Tv.ev)++T)
 |_,_,C,.nil=>C
 |_,_,C,.cons r t=>(C.pushes t).push (t := .ev (.val _)) r
def gS (K:PySem.W.Frag) (te:TE) (t:TA):TA:=fun σ H Q=>te σ H fun x H1=>∃ p xs,x=V.ref p/\(SqT K H1 p xs\/SqL K H1 p xs\/∃ kvs:List (Key × V),Rd H1 p (.dK kvs)/\xs=kvs.map fun kv=>kV kv.1)/\t σ H1 fun ys H2=>Q (xs++ys) H2
theorem iL{es:List Expr}{K:PySem.W.Frag}{A:DE}{B:DA}(hK:K=Z.K) (h:PA X es (gS K (tE Z A) (tA Z B))):PA X es (tA Z (D.AU A B)):=ic h fun σ H Q ⟨F,S,L,δ,T,S',x,hF,C,hd,k⟩=>by
 obtain⟨p,h1,hd⟩:=bind_some hd
 obtain⟨x0,h2,hd⟩:=bind_some hd
 obtain⟨ds,h3,hd⟩:=bind_some hd
 obtain⟨q,h4,hd⟩:=map_some hd
 cases hd
 refine⟨F,S,L,δ,T,p.1,p.2,hF,C,h1,fun F1 v H1 g1 ⟨O1,C1⟩=>?_⟩
 have hF1:=hF.gr g1
 have r:=C1.rd (C1.tmp (v,.ev p.2) (List.mem_cons_self ..)) h2
 have fin:∀ xs:List V,RpAll F1.G (Pr F1 O1 L) H1 xs ds->tA Z B σ H1 fun ys H2=>Q (xs++ys) H2:=fun xs R=>by
  refine⟨F1,p.1,L,δ,_,q.1,q.2,hF1,⟨O1,C1.pop.pushes R⟩,h4,fun F2 vs H2 g2 hl ⟨O2,C2⟩=>k F2 (xs++vs) H2 (g1.trans g2) ?_ ⟨O2,?_⟩⟩
  ·rw[List.length_append,List.length_append,List.length_map,hl,R.len]
  ·refine C2.sub fun pp hp=>?_
   rw[List.map_append,List.zip_append (by rw[List.length_map,List.length_map,R.len]),List.append_assoc] at hp
   rcases List.mem_append.mp hp with hp | hp
   ·exact List.mem_append_right _ (List.mem_append_left _ hp)
   ·rcases List.mem_append.mp hp with hp | hp
    ·exact List.mem_append_left _ hp
    ·exact List.mem_append_right _ (List.mem_append_right _ hp)
 cases r with
 |lst r t =>
  cases h3
  exact⟨_,_,rfl,.inr (.inl (.inl (.inl r))),fin _ t⟩
 |fls r t =>
  cases h3
  exact⟨_,_,rfl,.inr (.inl (by rw[hK,<- hF1.1];exact r)),fin _ t⟩
 |tup r t =>
  cases h3
  exact⟨_,_,rfl,.inl (by rw[hK,<- hF1.1];exact r),fin _ t⟩
 |@dct a kvs ks _ r hk t =>
  cases h3
  refine⟨_,_,rfl,.inr (.inr ⟨kvs,r,rfl⟩),fin _ ?_⟩
  have e:(kvs.map fun kv=>kV kv.1)=(kvs.map Prod.fst).map kV:=by rw[List.map_map];rfl
  rw[e,hk]
  exact cF _
 |_=>cases h3
end
section
variable {X:Cx}{pins:List (Addr × Obj)}{σ:L2.St}{H:Hp}{s:Shared}
theorem fV(hc:X.calm=true) {a:Addr}{kvs:List (Key × V)}{E:Value->Shared->Prop}{Q:List Value->Shared->Prop}(I:Inv X pins σ H s) (hd:Rd H a (.dK kvs)) (hQ:∀ us s',Inv X pins σ H s'->Vals (kvs.map fun kv=>kV kv.1) us->Q us s'):PySem.W.StarOf (model X.prog X.w) X.A E (.ref a) Q s:=by
 obtain⟨z,lo,vs,rel,dd⟩:=dk_rd I.hok hd
 obtain⟨ep,hat⟩:=dd.dictAt
 have ek:(kvs.map fun kv=>kV kv.1)=vs.map fun p=>kV p.1:=by
  have e:=congrArg (List.map kV) rel.keys
  rw[List.map_map,List.map_map] at e
  exact e
 have z:wpAny (model X.prog X.w) X.A (collect (.ref a)) Q E s:=by
  refine PySem.W.kdu_collect (PySem.W.kdl_dict (knd:=mixKind X.prog X.w) (kvs:=vs) (ep:=ep) lo) (I.ok.hd hc) hat (by rw[<- rel.length];exact z) fun h' tk acc hk hacc=>?_
  have hv:Vals (vs.map fun p=>kV p.1) acc.toList:=keys_at (by rw[Array.length_toList];exact hacc.1) fun j v e=>hacc.2 j v (by rw[<- Array.getElem?_toList];exact e)
  exact hQ _ _ (I.kept (t':=tk) hk) (by rw[ek];exact hv)
 unfold PySem.W.StarOf notIterableAtAll
 exact wpAny_bind (wpAny_specialOf dd.typeIs PySem.F.slot_dict_iter.lookup (wpAny_pure ⟨rfl,z⟩))
theorem gf(hc:X.calm=true) {K:PySem.W.Frag}(hK:X.K=K) {e:Expr}{es:List Expr}{te:TE}{t:TA}{p:Pos}(he:PE X e te) (hr:PA X es t) (hs:starEach (.Starred e p::es) X.env=(true,eval e X.env)::starEach es X.env:=by rfl):PA X (.Starred e p::es) (gS K te t):=by
 subst hK
 refine⟨fun pos pins s σ H Q I h=>?_⟩
 refine PySem.W.items_star (thn (he.run pins s σ H _ I h) fun v s1 ⟨y,H1,I1,ry,a,xs,ey,hx,q⟩=>?_) hs
 subst ey
 obtain rfl:v=Value.ref a:=ry
 have fin:∀ us s2,Inv X pins σ H1 s2->Vals xs us->wpAny (model X.prog X.w) X.A (spliced (backTo pos (starEach es X.env))) (fun vs s₃=>AP X pins σ Q (us++vs) s₃) X.xe s2:=fun us s2 I2 rv =>
  thn (hr.run pos pins s2 σ H1 _ I2 q) fun ws s3 ⟨vs,H3,I3,r3,q3⟩=>⟨xs++vs,H3,I3,rv.append r3,q3⟩
 rcases hx with hx | hx | ⟨kvs,hx,rfl⟩
 ·exact star_tup I1 hx fin
 ·exact StX.star_lst I1 hx fin
 ·exact fV hc I1 hx fin
end
namespace D
def ext (i:Nat) (a:DE):DS:=fun S L δ=>(a S L δ).bind fun p=>match δ[i]? with
 |some (some (.own j))=>(match L[j]?,p.2 with
  |some (some ds),.val (.lst es)=>if ds.length+es.length<=100000 then some (.nx p.1 (L.set j (some (ds++es))) δ) else none
  |_,_=>none)
 |_=>none
end D
namespace D
def forK (k:Nat) (u:DG) (b:DS):Nat->Nat->DS
 |0,_,_,_,_=>none
 |m+1,i,S,L,δ=>match S[k]? with
  |some (.lst ds)=>(match ds[i]? with
   |none=>some (.nx S L δ)
   |some d=>(u S L δ (.val d)).bind fun δ1=>(b S L δ1).bind fun o=>match o with
    |.nx S' L' δ'=>forK k u b m (i+1) S' L' δ'
    |.ct S' L' δ'=>forK k u b m (i+1) S' L' δ'
    |.bk S' L' δ'=>some (.nx S' L' δ')
    |.rt S' L' e=>some (.rt S' L' e))
  |_=>none
def AV (a:DE) (u:DG) (b:DS):DS:=fun S L δ=>(a S L δ).bind fun p=>match p.2 with
 |.val (.ref k)=>forK k u b 1000 0 p.1 L δ
 |_=>none
def lcK (k:Nat) (u:DG) (t:DT) (a:DE) (vs:List Nat):Nat->Nat->List Da->DN
 |0,_,_,_,_,_=>none
 |m+1,i,acc,S,L,δ=>match S[k]? with
  |some (.lst ds)=>(match ds[i]? with
   |none=>some (S,acc)
   |some d=>(u S (L++[some acc]) (wiped δ vs) (.val d)).bind fun δ1=>(t S (L++[some acc]) δ1).bind fun p=>if p.2=true then
     (a p.1 (L++[some acc]) δ1).bind fun q=>match q.2 with
      |.val x=>lcK k u t a vs m (i+1) (acc++[x]) q.1 L δ
      |_=>none
    else lcK k u t a vs m (i+1) acc p.1 L δ)
  |_=>none
def AZ (a0:DE) (u:DG) (t:DT) (a:DE) (vs:List Nat):DN:=fun S L δ=>(a0 S L δ).bind fun p=>match p.2 with
 |.val (.ref k)=>lcK k u t a vs 1000 0 [] p.1 L δ
 |_=>none
end D
section
variable {X:Cx}{Z:Sk}{st:Stmt}{e:Expr}
theorem i8{A:DE}{js:List Nat}{u:DG}{B:DS}(h:PS X st (tFor (iList Z.K (tE Z A)) (tG Z js u) (tS Z B))):PS X st (tS Z (D.AV A u B)):=bv h fun E σ H ⟨F,S,L,δ,T,o,hF,C,hd,k⟩=>by
 obtain⟨p,h1,hd⟩:=bind_some hd
 refine⟨F,S,L,δ,T,p.1,p.2,hF,C,h1,fun F1 v H1 g1 ⟨O1,C1⟩=>?_⟩
 split at hd
 ·rename_i kk e1
  rw[e1] at C1
  have tv:Rp F1.G (Pr F1 O1 L) H1 v (.ref kk):=C1.tmp (v,.ev (.val (.ref kk))) (List.mem_cons_self ..)
  cases tv with
  |@ref a _ hr =>
   have hk0:∃ ds,p.1[kk]?=some (.lst ds):=by
    have hd:(match p.1[kk]? with
     |some (.lst ds)=>(match ds[0]? with
      |none=>some (Out.nx p.1 L δ)
      |some d=>(u p.1 L δ (.val d)).bind fun δ1=>(B p.1 L δ1).bind fun o=>match o with
       |.nx S' L' δ'=>D.forK kk u B 999 (0+1) S' L' δ'
       |.ct S' L' δ'=>D.forK kk u B 999 (0+1) S' L' δ'
       |.bk S' L' δ'=>some (.nx S' L' δ')
       |.rt S' L' e=>some (.rt S' L' e))
     |_=>none)=some o:=hd
    split at hd
    ·rename_i ds hs
     exact⟨ds,hs⟩
    ·cases hd
   obtain⟨ds0,hs0⟩:=hk0
   obtain⟨xs0,c1,_⟩:=C1.cells kk a _ hr hs0
   refine⟨a,rfl,⟨xs0,.inl (.inl c1)⟩,?_⟩
   refine⟨fun i m σ H=>∃ F2 S L δ,Gr F F2/\Ctx F2 H S L σ δ ((.ref a,.ev (.val (.ref kk)))::T)/\D.forK kk u B m i S L δ=some o,⟨1000,F1,p.1,L,δ,g1,⟨O1,C1⟩,hd⟩,?_⟩
   rintro i m σ2 H2 ⟨F2,S2,L2',δ2,g2,⟨O2,C2⟩,hd2⟩
   cases m with
   |zero=>cases hd2
   |succ m =>
    have hd2:(match S2[kk]? with
     |some (.lst ds)=>(match ds[i]? with
      |none=>some (Out.nx S2 L2' δ2)
      |some d=>(u S2 L2' δ2 (.val d)).bind fun δ1=>(B S2 L2' δ1).bind fun o=>match o with
       |.nx S' L' δ'=>D.forK kk u B m (i+1) S' L' δ'
       |.ct S' L' δ'=>D.forK kk u B m (i+1) S' L' δ'
       |.bk S' L' δ'=>some (.nx S' L' δ')
       |.rt S' L' e=>some (.rt S' L' e))
     |_=>none)=some o:=hd2
    have tv2:Rp F2.G (Pr F2 O2 L2') H2 (.ref a) (.ref kk):=C2.tmp (.ref a,.ev (.val (.ref kk))) (List.mem_cons_self ..)
    cases tv2 with
    |ref hr2 =>
     split at hd2
     ·rename_i ds hs
      obtain⟨xs,q1,q2⟩:=C2.cells kk a _ hr2 hs
      split at hd2
      ·rename_i hn
       cases hd2
       refine .inl ⟨⟨xs,.inl (.inl q1),?_⟩,k F2 σ2 H2 g2 ⟨O2,C2.pop⟩⟩
       rw[q2.len]
       exact List.getElem?_eq_none_iff.mp hn
      ·rename_i d hn
       obtain⟨δ3,h3,hd3⟩:=bind_some hd2
       obtain⟨o',h4,hd4⟩:=bind_some hd3
       obtain⟨v,e3,rv⟩:=bP q2 hn
       refine .inr ⟨⟨xs,v,.inl (.inl q1),e3⟩,fun σ H=>∃ F2 S L δ,Gr F F2/\Ctx F2 H S L σ δ ((.ref a,.ev (.val (.ref kk)))::T)/\D.forK kk u B m (i+1) S L δ=some o,fun σ' H' q=>⟨m,Nat.lt_succ_self m,q⟩,fun x H' y=>?_⟩
       obtain⟨rfl,hx⟩:=y
       have hx:=hx xs (.inl (.inl q1))
       rw[e3] at hx
       cases hx
       refine⟨F2,S2,L2',δ2,_,.val d,δ3,hF.gr g2,⟨O2,C2.push (v:=v) (t := .ev (.val d)) rv⟩,h3,fun σ' _ _ C4=>⟨F2,S2,L2',δ3,_,o',hF.gr g2,C4,h4,?_⟩⟩
       cases o' with
       |nx S' L' δ'=>exact fun F3 σ H g3 C=>⟨F3,S',L',δ',g2.trans g3,C,hd4⟩
       |ct S' L' δ'=>exact fun F3 σ H g3 C=>⟨F3,S',L',δ',g2.trans g3,C,hd4⟩
       |bk S' L' δ' =>
        cases hd4
        exact fun F3 σ H g3 ⟨O,C⟩=>k F3 σ H (g2.trans g3) ⟨O,C.pop⟩
       |rt S' L' e' =>
        cases hd4
        exact fun F3 v H σ δ g3 ⟨O,C⟩=>k F3 v H σ δ (g2.trans g3) ⟨O,C.sub fun p hp=>by
         rcases List.mem_cons.mp hp with rfl | hp
         ·exact List.mem_cons_self ..
         ·exact List.mem_cons_of_mem _ (List.mem_cons_of_mem _ hp)⟩
     ·cases hd2
 ·cases hd
theorem iA{A:DE}{js:List Nat}{u:DG}{t:DT}{a:DE}{vs:List Nat}(hj:∀ j∈js,j∈vs):∀ σ H Q,tN Z (D.AZ A u t a vs) σ H Q->tLc (iList Z.K (tE Z A)) (tG Z js u) (tT Z t) (tE Z a) vs σ H Q:=fun σ H Q ⟨F,S,L,δ,T,S',es,hF,C,hd,k⟩=>by
 obtain⟨p,h1,hd⟩:=bind_some hd
 refine⟨F,S,L,δ,T,p.1,p.2,hF,C,h1,fun F1 v H1 g1 ⟨O1,C1⟩=>?_⟩
 split at hd
 ·rename_i kk e1
  rw[e1] at C1
  have tv:Rp F1.G (Pr F1 O1 L) H1 v (.ref kk):=C1.tmp (v,.ev (.val (.ref kk))) (List.mem_cons_self ..)
  cases tv with
  |@ref b _ hr =>
   have un:∀ m i acc S2,D.lcK kk u t a vs (m+1) i acc S2 L δ=some (S',es)->(match S2[kk]? with
     |some (.lst ds)=>(match ds[i]? with
      |none=>some (S2,acc)
      |some d=>(u S2 (L++[some acc]) (D.wiped δ vs) (.val d)).bind fun δ1=>(t S2 (L++[some acc]) δ1).bind fun p=>if p.2=true then
        (a p.1 (L++[some acc]) δ1).bind fun q=>match q.2 with
         |.val x=>D.lcK kk u t a vs m (i+1) (acc++[x]) q.1 L δ
         |_=>none
       else D.lcK kk u t a vs m (i+1) acc p.1 L δ)
     |_=>none)=some (S',es):=fun _ _ _ _ h=>h
   have hk0:∃ ds,p.1[kk]?=some (.lst ds):=by
    have hd:=un 999 0 [] p.1 hd
    split at hd
    ·rename_i ds hs
     exact⟨ds,hs⟩
    ·cases hd
   obtain⟨ds0,hs0⟩:=hk0
   obtain⟨xs0,c1,_⟩:=C1.cells kk b _ hr hs0
   refine⟨b,rfl,⟨xs0,.inl (.inl c1)⟩,fun Dn hD=>?_⟩
   refine⟨fun i m H=>∃ F2 S acc,Gr F F2/\acc.length+m<=1000/\Ctx F2 H S (L++[some acc]) σ δ ((.ref b,.ev (.val (.ref kk)))::(.ref Dn,.ev (.own L.length))::T)/\D.lcK kk u t a vs m i acc S L δ=some (S',es),⟨1000,F1,p.1,[],g1,Nat.le_refl _,?_,hd⟩,?_⟩
   ·obtain⟨O,C2⟩:=C1.newT (ds:=[]) hD .nil
    refine⟨O,C2.sub fun q hq=>?_⟩
    rcases List.mem_cons.mp hq with rfl | hq
    ·exact List.mem_cons_of_mem _ (List.mem_cons_self ..)
    ·rcases List.mem_cons.mp hq with rfl | hq
     ·exact List.mem_cons_self ..
     ·exact List.mem_cons_of_mem _ (List.mem_cons_of_mem _ hq)
   rintro i m H2 ⟨F2,S2,acc,g2,hacc,⟨O2,C2⟩,hd2⟩
   cases m with
   |zero=>cases hd2
   |succ m =>
    have hd2:=un m i acc S2 hd2
    have tv2:Rp F2.G (Pr F2 O2 (L++[some acc])) H2 (.ref b) (.ref kk):=C2.tmp (.ref b,.ev (.val (.ref kk))) (List.mem_cons_self ..)
    cases tv2 with
    |ref hr2 =>
     split at hd2
     ·rename_i ds hs
      obtain⟨xs,q1,q2⟩:=C2.cells kk b _ hr2 hs
      split at hd2
      ·rename_i hn
       cases hd2
       refine .inl ⟨⟨xs,.inl (.inl q1),?_⟩,k F2 _ H2 g2 ⟨O2,C2.pop⟩⟩
       rw[q2.len]
       exact List.getElem?_eq_none_iff.mp hn
      ·rename_i d hn
       obtain⟨δ3,h3,hd3⟩:=bind_some hd2
       obtain⟨c,h4,hd4⟩:=bind_some hd3
       obtain⟨v,e3,rv⟩:=bP q2 hn
       refine .inr ⟨⟨xs,v,.inl (.inl q1),e3⟩,fun H=>∃ F2 S acc,Gr F F2/\acc.length+m<=1000/\Ctx F2 H S (L++[some acc]) σ δ ((.ref b,.ev (.val (.ref kk)))::(.ref Dn,.ev (.own L.length))::T)/\D.lcK kk u t a vs m (i+1) acc S L δ=some (S',es),fun H' q=>⟨m,Nat.lt_succ_self m,q⟩,fun x H' y=>?_⟩
       obtain⟨rfl,hx⟩:=y
       have hx:=hx xs (.inl (.inl q1))
       rw[e3] at hx
       cases hx
       have C3:=C2.push (v:=v) (t := .ev (.val d)) rv
       have ln:=C3.ln
       have hv:∀(i:Nat) (e:Ev),δ[i]?=some (some e)->∃ v,σ[i]?=some (some v):=fun i e h=>let ⟨v,q,_⟩:=C3.env i e h;⟨v,q⟩
       have C3':CtxO F2 O2 H' S2 (L++[some acc]) σ δ ((v,.ev (.val d))::(envT σ δ++((.ref b,.ev (.val (.ref kk)))::(.ref Dn,.ev (.own L.length))::T))):=C3.envT.sub fun q hq=>by
        rcases List.mem_cons.mp hq with rfl | hq
        ·exact List.mem_append_right _ (List.mem_cons_self ..)
        ·rcases List.mem_append.mp hq with hq | hq
         ·exact List.mem_append_left _ hq
         ·exact List.mem_append_right _ (List.mem_cons_of_mem _ hq)
       refine⟨F2,S2,L++[some acc],D.wiped δ vs,envT σ δ++((.ref b,.ev (.val (.ref kk)))::(.ref Dn,.ev (.own L.length))::T),_,δ3,hF.gr g2,⟨O2,C3'.wipe vs⟩,h3,fun σ' hl ho C4=>⟨cn hl ho hj,F2,S2,L++[some acc],δ3,_,c.1,c.2,hF.gr g2,C4,h4,fun F5 H5 g5 C5=>?_⟩⟩
       cases hb:c.2 with
       |true =>
        rw[hb,if_pos rfl] at hd4
        obtain⟨q,h5,hd5⟩:=bind_some hd4
        refine iteT ⟨F5,c.1,L++[some acc],δ3,_,q.1,q.2,hF.gr (g2.trans g5),C5,h5,fun F6 v H6 g6 ⟨O6,C6⟩=>?_⟩
        cases hq:q.2 with
        |own j =>
         rw[hq] at hd5
         cases hd5
        |val dx =>
         rw[hq] at hd5 C6
         have hx:Rp F6.G (Pr F6 O6 (L++[some acc])) H6 v dx:=C6.tmp (v,.ev (.val dx)) (List.mem_cons_self ..)
         obtain⟨o1,ys,e1,e2⟩:=ez C6 (a:=Dn) (j:=L.length) (List.mem_cons_of_mem _ (List.mem_append_right _ (List.mem_cons_of_mem _ (List.mem_cons_self ..)))) (bE L (some acc))
         have C7:=C6.updL (xs':=ys++[v]) (ds':=acc++[dx]) o1 (bE L (some acc)) (e2.app (.cons hx .nil))
         rw[dR] at C7
         refine⟨ys,e1,?_,F6,q.1,acc++[dx],(g2.trans g5).trans g6,by rw[List.length_append];show acc.length+1+m<=1000;omega,⟨O6,?_⟩,hd5⟩
         ·rw[e2.len]
          exact Nat.lt_of_le_of_lt (show acc.length<=1000 by omega) (by decide)
         ·exact(C7.back ln hv fun p hp=>List.mem_cons_of_mem _ (List.mem_append_left _ hp)).pop.drop
       |false =>
        rw[hb,if_neg Bool.false_ne_true] at hd4
        obtain⟨O5,C5⟩:=C5
        exact iteF ⟨F5,c.1,acc,g2.trans g5,by omega,⟨O5,(C5.back ln hv fun p hp=>List.mem_append_left _ hp).drop⟩,hd4⟩
     ·cases hd2
 ·cases hd
theorem kf{A:DE}{js:List Nat}{u:DG}{t:DT}{a:DE}{vs:List Nat}(hj:∀ j∈js,j∈vs) (h:PE X e (tLc (iList Z.K (tE Z A)) (tG Z js u) (tT Z t) (tE Z a) vs)):PE X e (tN Z (D.AZ A u t a vs)):=az h (iA hj)
end
noncomputable def Fr.lk (F:Fr) (O:List Addr) (L:Loc) (B:Hp):Fr:=⟨F.G,F.N,fun b=>@ite _ (Alive O L b) (Classical.propDecidable _) none (B b),false⟩
abbrev FnP (K:PySem.W.Frag) (x q:Str) (st:Stmt) (f:Addr) (fd:FuncData):=FunD K x q (defArgs st) (defBody st) (defScope st) [] [] f fd
theorem fQ{k:Nat}{A:Around}(hr:Room k A):A.units+65 < cLine:=by
 have:=hr.un
 omega
section
variable {X:Cx}{Z:Sk}{st:Stmt}
theorem iE{i:Nat}{A:DE}{t:TE}(w:∀ σ H Q,tE Z A σ H Q->t σ H Q) (h:PS X st (tAsg t (gName i))):PS X st (tS Z (D.X A (D.H i))):=dC (bv h fun E σ H q=>w σ H _ q)
theorem jC{A:DI}{js:List Nat}{u:DG}{t:DT}{a:DE}{vs:List Nat}(hj:∀ j∈js,j∈vs):∀ σ H Q,tE Z (D.Z (D.lc A u t a vs)) σ H Q->tLc (tI Z A) (tG Z js u) (tT Z t) (tE Z a) vs σ H Q:=fun σ H Q q=>iy hj σ H Q (fq σ H Q q)
end
theorem eH(l:Addr) (items:Array Value) (n:Nat) (sl:Array (Option Value)) (dd:Option Addr) (u:Tok) :
  Meets (Builtin.«tuple.__mul__» ⟨[.ref l,.int 1 u],[]⟩) (fun _ R s=>s.heap.get? l=some { cls := .type "tuple",dict:=dd,data := .seq items n,slots:=sl }/\R (.ok (.ret (Value.ref l))) s) :=
 .of_wp fun prog w A R s h=>by
  obtain⟨hp,g,d,tk,os⟩:=s
  obtain⟨hl,h⟩:=h
  have f1:=AutoSeq1.idx_int
  wp_walk using wpAny_loadPart' hl
  exact⟨_,rfl,h⟩
theorem eM(l:Addr) (items:Array Value) (n:Nat) (sl:Array (Option Value)) (dd:Option Addr) (u:Tok) (hn:items.isEmpty=false) :
  Meets (Builtin.«tuple.__mul__» ⟨[.ref l,.int 0 u],[]⟩) (fun _ R s=>s.heap.get? l=some { cls := .type "tuple",dict:=dd,data := .seq items n,slots:=sl } /\
   R (.ok (.ret (Value.ref s.heap.objs.size))) { s with heap:=s.heap.push { cls:=Value.type "tuple",data:=Data.seq #[] },toks:=s.toks }) :=
 .of_wp fun prog w A R s h=>by
  obtain⟨hp,g,d,tk,os⟩:=s
  obtain⟨hl,h⟩:=h
  have f1:=AutoSeq1.idx_int
  wp_walk using wpAny_loadPart' hl
  exact⟨_,rfl,h⟩
def hU (K:PySem.W.Frag):R2:=fun x y H Q=>∃(l:Addr) (k:Nat) (xs:List V),x = .ref l/\y = .int (k:Int)/\SqT K H l xs/\xs≠[]/\k<=1000/\xs.length<=1000/\(k=1->Q (.ref l) H)/\(k≠1->∀ p,H p=none->Q (.ref p) (upd H p (.tup (List.replicate k xs).flatten)))
section
variable {X:Cx}
theorem iI:OpR X (binaryOp .Mult) (hU X.K):=by
 intro pins s σ H x y v u Q I rx ry h
 obtain⟨l,k,xs,rfl,rfl,hT,hne,h2,hz,q1,q2⟩:=h
 match k with
 |k+2=>exact op_repT pins s σ H (.ref l) (.int ((k+2:Nat):Int)) v u Q I rx ry ⟨l,((k+2:Nat):Int),xs,rfl,rfl,hT,hne,by omega,by omega,hz,by rw[Int.toNat_natCast];exact q2 (by omega)⟩
 |1 =>
  cases rx
  obtain⟨t,rfl⟩:=ry
  obtain⟨its,r,⟨⟨cls,dd,data,sl⟩,ho,hc,n,hd⟩,hs⟩:=I.tuple hT
  simp only at hc hd
  subst hc hd
  refine wpAny_binaryOp_repeat_ref (T := "tuple") (U := "int") (by decide) ⟨_,ho,rfl⟩ (fun s'=>typeIs_int s' _ t) noFill_tuple_mul F.fills_int_mul F.slot_int_rmul repeat_tuple F.slot_int_index.lookup
   (call_meets F.slot_int_rmul (typeIs_int s _ t) F.entry_int_rmul (F.args_int_rmul_2 _ _) (int_rmul_tuple _ t l its.toArray n dd sl)
    ⟨ho,rfl,⟨_,ho,rfl⟩,call_meets F.slot_tuple_mul ⟨_,ho,rfl⟩ F.entry_tuple_mul (F.args_tuple_mul_2 _ _) (eH l its.toArray n sl dd t) ⟨ho,?_⟩⟩)
  exact⟨.ref l,_,I,rfl,q1 rfl⟩
 |0 =>
  cases rx
  obtain⟨t,rfl⟩:=ry
  obtain⟨its,r,⟨⟨cls,dd,data,sl⟩,ho,hc,n,hd⟩,hs⟩:=I.tuple hT
  simp only at hc hd
  subst hc hd
  have hle:its.length=xs.length:=r.length.symm
  have hn:its≠[]:=fun e=>hne (by
   rw[e] at hle
   exact List.eq_nil_of_length_eq_zero hle.symm)
  have hi:its.toArray.isEmpty=false:=by
   cases its with
   |nil=>exact absurd rfl hn
   |cons a b=>rfl
  refine wpAny_binaryOp_repeat_ref (T := "tuple") (U := "int") (by decide) ⟨_,ho,rfl⟩ (fun s'=>typeIs_int s' _ t) noFill_tuple_mul F.fills_int_mul F.slot_int_rmul repeat_tuple F.slot_int_index.lookup
   (call_meets F.slot_int_rmul (typeIs_int s _ t) F.entry_int_rmul (F.args_int_rmul_2 _ _) (int_rmul_tuple _ t l its.toArray n dd sl)
    ⟨ho,rfl,⟨_,ho,rfl⟩,call_meets F.slot_tuple_mul ⟨_,ho,rfl⟩ F.entry_tuple_mul (F.args_tuple_mul_2 _ _) (eM l its.toArray n sl dd t hi) ⟨ho,?_⟩⟩)
  refine⟨.ref s.heap.objs.size,_,I.laid (t':=s.toks) (o := .tup []) (fun b ob q=>Heap.get?_push_of_some _ q) (Nat.le_refl _) ?_,rfl,q2 (by decide) _ (I.hok.fresh (Nat.le_refl _))⟩
  exact⟨Nat.zero_le _,[],.nil,IsTup.new _ _⟩
end
namespace D
def Aj (A B:DE):DE:=fun S L δ=>(A S L δ).bind fun p=>(B p.1 L δ).bind fun q=>match p.2,q.2 with
 |.val (.tup a),.val (.int i)=>if a≠[]/\0<=i/\i<=1000/\a.length<=1000 then some (q.1,.val (.tup (List.replicate i.toNat a).flatten)) else none
 |_,_=>none
end D
theorem ia{G:Gm}{M:Addr->Prop}{H:Hp}{xs:List V}{ds:List Da}(h:RpAll G M H xs ds):∀ n,RpAll G M H (List.replicate n xs).flatten (List.replicate n ds).flatten
 |0 => .nil
 |n+1=>by
  rw[List.replicate_succ,List.replicate_succ,List.flatten_cons,List.flatten_cons]
  exact h.app (ia h n)
section
variable {X:Cx}{Z:Sk}{e:Expr}
theorem i6{K:PySem.W.Frag}{A B:DE}(hK:K=Z.K) (h:PE X e (tOp (hU K) (tE Z A) (tE Z B))):PE X e (tE Z (D.Aj A B)):=az h fun σ H Q ⟨F,S,L,δ,T,S',x,hF,C,hd,k⟩=>by
 obtain⟨p,h1,hd⟩:=bind_some hd
 obtain⟨q,h2,hd⟩:=bind_some hd
 refine⟨F,S,L,δ,T,p.1,p.2,hF,C,h1,fun F1 x H1 g1 C1=>⟨F1,p.1,L,δ,_,q.1,q.2,hF.gr g1,C1,h2,fun F2 y H2 g2 ⟨O,C2⟩=>?_⟩⟩
 have hF2:=hF.gr (g1.trans g2)
 have ty:=C2.tmp (y,.ev q.2) (List.mem_cons_self ..)
 have tx:=C2.tmp (x,.ev p.2) (List.mem_cons_of_mem _ (List.mem_cons_self ..))
 split at hd
 ·rename_i a i ea ei
  split at hd
  ·rename_i hl
   cases hd
   rw[ea] at tx
   rw[ei] at ty
   have tx:Rp F2.G (Pr F2 O L) H2 x (.tup a):=tx
   have ty:Rp F2.G (Pr F2 O L) H2 y (.int i):=ty
   cases ty
   have fin:∀ v H',Same H2 H'->Rp F2.G (Pr F2 O L) H' v (.tup (List.replicate i.toNat a).flatten)->Q v H':=fun v H' s hv=>k F2 v H' (g1.trans g2) ⟨O,(C2.same s).pop.pop.push hv⟩
   have go:∀(p:Addr) (xs:List V),x = .ref p->SqT F2.G.K H2 p xs->RpAll F2.G (Pr F2 O L) H2 xs a->hU K x (.int i) H2 Q:=fun p xs ex r t=>by
    have n1:xs≠[]:=fun z=>hl.1 (List.length_eq_zero_iff.mp (by rw[<- t.len,z];rfl))
    refine⟨p,i.toNat,xs,ex,?_,by rw[hK,<- hF2.1];exact r,n1,?_,?_,fun e=>?_,fun _ b hb=>?_⟩
    ·rw[Int.toNat_of_nonneg hl.2.1]
    ·have:=hl.2.2.1
     omega
    ·rw[t.len]
     exact hl.2.2.2
    ·rw[<- ex]
     refine fin _ _ (Same.refl H2) ?_
     rw[e,List.replicate_succ,List.flatten_cons,List.replicate_zero,List.flatten_nil,List.append_nil]
     exact tx
    ·have s:Same H2 (upd H2 b (.tup (List.replicate i.toNat xs).flatten)):=aM hb
     exact fin _ _ s (.tup (fun c=>C2.prH c hb) upd_same (RpAll.go (Stay.of fun b o _ z=>s b o z) (fun b z => .inl z) (ia t _)))
   cases tx with
   |@tup p xs _ n r t=>exact go p xs rfl (.inl (.inl r)) t
   |@ktup p xs _ r t=>exact go p xs rfl (r H2) t
  ·cases hd
 ·cases hd
end
section
variable {X:Cx}{Z:Sk}{e e2:Expr}{es:List Expr}{st:Stmt}{sts:List Stmt}{A B:DE}{C:DA}{P Q:DS}{t:DT}{pos:Pos}
theorem xv(i:Nat) {x:Str}{pos:Pos}(hN:X.N[i]?=some x:=by rfl) (hv:Vis X.env.scope x:=by first | exact Or.inl rfl | exact Or.inr (Or.inl rfl) | exact Or.inr (Or.inr rfl)) (hd:(x == ("__debug__":Str))=false:=by decide)
  (hcd:(x == ("__classdict__":Str))=false:=by decide):PE X (.Name x pos) (tE Z (D.E i)):=jV (pv i hN hv hd hcd)
theorem xi{i:Int}{j:Nat}:PE X (.Constant (.int i) j pos) (tE Z (D.c (.int i))):=jp pe_int
theorem xs{x:Str}{j:Nat}:PE X (.Constant (.str x) j pos) (tE Z (D.c (.str x))):=jU pe_str
theorem xn:PA X [] (tA Z D.G):=jq pa_nil
theorem xc(a:PE X e (tE Z A)) (b:PA X es (tA Z C)) (hs:starEach (e::es) X.env=(false,eval e X.env)::starEach es X.env:=by rfl):PA X (e::es) (tA Z (D.F A C)):=i4 (pa_cons a b hs)
theorem xI(K:PySem.W.Frag) (a:PE X e (tE Z A)) (b:PE X e2 (tE Z B)) (h1:X.K=K:=by exact rfl) (h2:K=Z.K:=by exact rfl) (hs:PlainIx e2:=by exact fun _ _=>rfl):PE X (.Subscript e e2 pos) (tE Z (D.I D.R A B)):=ao (kZ h2) (pe_ix (lb (K:=K) h1) a b hs)
theorem xq(a:PS X st (tS Z P)) (b:PSs X sts (tS Z Q)):PSs X (st::sts) (tS Z (D.K P Q)):=iH (pss_cons a b)
theorem xz:PSs X [] (tS Z D.Y):=i5 pss_nil
theorem xS(i:Nat) {x:Str}{pos':Pos}(hN:X.N.Nodup) (he:PE X e (tE Z A)) (hi:X.N[i]?=some x:=by rfl) (hx:L2.Loc X.env.scope x:=by exact Or.inl rfl) (hs:swapsWith e (some (.Name x pos')) pos.line X.env=pure false:=by rfl) (hf:X.fn x=true\/X.env.scope.names.lookup x=some .local:=by first | exact .inl rfl | exact .inr rfl | assumption):PS X (.Assign [.Name x pos'] e pos) (tS Z (D.X A (D.H i))):=dC (ps_set hN hi hx he hs hf)
theorem xr(a:PE X e (tE Z A)):PSs X [.Return (some e) pos] (tS Z (D.O A)):=pss_one (j8 (ps_ret a))
theorem xf{c:Expr}{a b:List Stmt}(h:PT X c (tT Z t)) (h1:PSs X a (tS Z P)) (h2:PSs X b (tS Z Q)):PS X (.If c a b pos) (tS Z (D.Q t P Q)):=kM (ps_if h h1 h2)
theorem xW{k n:Nat}{f:Addr}{fd:FuncData}{ps:List Str}{ds:List Value}{x:Str}{p:Pos}{K:PySem.W.Frag}{mg:Str->Option Value}{φ:Sto->List Da->Option (Sto × Da)}(F:FnOk X.prog X.w X.K X.mg X.base CX0 k f fd ps (spW K mg φ)) (hr:Room n X.A) (hm:X.mg x=some (.ref f)) (hk:PySem.W.keepIn X.K (.ref f)=true) (hb:L2.Binds X.K fd ps ds) (ha:PA X (e::es) (tA Z C)) (hd:Vals [] ds:=by exact .nil) (hg:Gl X x:=by rfl) (hKn:k<=n:=by omega) (h1:K=Z.K:=by exact rfl) (h2:mg=Z.mg:=by exact rfl) (h3:Z.W=true:=by exact rfl)
  (hdb:(x == ("__debug__":Str))=false:=by decide) (he:starEach (e::es) X.env=(false,eval e X.env)::starEach es X.env:=by rfl) (hpl:(backTo pos (starEach es X.env)).any (·.1)=false:=by rfl):PE X (.Call (.Name x p) (e::es) [] pos) (tE Z (D.N φ C)):=gB h1 h2 h3 (pe_call F (hr.mono hKn) hg hm hk hb hd pass0 ha hdb he hpl)
theorem xR{k n:Nat}{f:Addr}{fd:FuncData}{ps:List Str}{ds:List Value}{x:Str}{p:Pos}{K:PySem.W.Frag}{mg:Str->Option Value}{φ:Sto->List Da->Option Da}(F:FnOk X.prog X.w X.K X.mg X.base CX0 k f fd ps (spR K mg φ)) (hr:Room n X.A) (hm:X.mg x=some (.ref f)) (hk:PySem.W.keepIn X.K (.ref f)=true) (hb:L2.Binds X.K fd ps ds) (ha:PA X (e::es) (tA Z C)) (hd:Vals [] ds:=by exact .nil) (hg:Gl X x:=by rfl) (hKn:k<=n:=by omega) (h1:K=Z.K:=by exact rfl) (h2:mg=Z.mg:=by exact rfl)
  (hdb:(x == ("__debug__":Str))=false:=by decide) (he:starEach (e::es) X.env=(false,eval e X.env)::starEach es X.env:=by rfl) (hpl:(backTo pos (starEach es X.env)).any (·.1)=false:=by rfl):PE X (.Call (.Name x p) (e::es) [] pos) (tE Z (D.M φ C)):=gk h1 h2 (pe_call F (hr.mono hKn) hg hm hk hb hd pass0 ha hdb he hpl)
theorem xl(K:PySem.W.Frag) {x:Str}{p:Pos}(hm:X.mg x=none) (ha:PA X (e::es) (tA Z C)) (h1:X.K=K:=by exact rfl) (h2:K=Z.K:=by exact rfl) (hg:Gl X x:=by rfl) (hv:bootBuiltins x=some (.builtin "len"):=by decide+kernel) (hn:x ≠ "__name__":=by decide) (hdb:(x == ("__debug__":Str))=false:=by decide)
  (he:starEach (e::es) X.env=(false,eval e X.env)::starEach es X.env:=by rfl) (hpl:(backTo pos (starEach es X.env)).any (·.1)=false:=by rfl):PE X (.Call (.Name x p) (e::es) [] pos) (tE Z (D.cb D.AJ C)):=bI (jJ h2) (pe_callB (iF (K:=K) h1) hg hm hv ha hn hdb he hpl)
end
end My
namespace LR
open PySem PySem.Calls PyProof.Rows RT
open L2
def tLstRev (K:PySem.W.Frag) (te:TE):TE:=fun σ H Q=>te σ H fun v H1=>∃(a:Addr) (xs:List V),v = .ref a/\SqL K H1 a xs/\∀ q,H1 q=none->Q (.ref q) (upd H1 q (.lst xs.reverse))
end LR
namespace My
open PySem PySem.Spec PyProof.Rows L2
namespace D
def revL:Da->Option (List Da)
 |.lst ds=>some ds.reverse
 |_=>none
def tyN:Da->Option String
 |.non=>some "NoneType"
 |.bl _=>some "bool"
 |.int _=>some "int"
 |.str _=>some "str"
 |.lst _=>some "list"
 |.fls _=>some "list"
 |.tup _=>some "tuple"
 |_=>none
def Ae (T:String) (d:Da):Option Da:=(tyN d).bind fun a=>(kitB a T).map .bl
end D
section
variable {X:Cx}{Z:Sk}{e:Expr}{st:Stmt}
theorem RpAll.dropLast{G:Gm}{M:Addr->Prop}{H:Hp}{vs:List V}{ds:List Da}(R:RpAll G M H vs ds):RpAll G M H vs.dropLast ds.dropLast:=by
 rw[List.dropLast_eq_take,List.dropLast_eq_take,R.len]
 exact R.take
theorem RpAll.rev{G:Gm}{M:Addr->Prop}{H:Hp}:∀{vs:List V}{ds:List Da},RpAll G M H vs ds->RpAll G M H vs.reverse ds.reverse
 |[],[],.nil => .nil
 |v::vs,d::ds,.cons h t=>by
  rw[List.reverse_cons,List.reverse_cons]
  exact(RpAll.rev t).app (.cons h .nil)
theorem iY{A:DE}{K:PySem.W.Frag}(hK:K=Z.K) (h:PE X e (LR.tLstRev K (tE Z A))):PE X e (tN Z (D.unN D.revL A)):=az h fun σ H Q ⟨F,S,L,δ,T,S',x,hF,C,hd,k⟩=>by
 obtain⟨p,h1,hd⟩:=bind_some hd
 obtain⟨y,h2,hd⟩:=bind_some hd
 obtain⟨ds,h3,hd⟩:=map_some hd
 cases hd
 refine⟨F,S,L,δ,T,p.1,p.2,hF,C,h1,fun F1 v H1 g1 ⟨O1,C1⟩=>?_⟩
 have q:=C1.rd (C1.tmp (v,.ev p.2) (List.mem_cons_self ..)) h2
 cases q with
 |@lst a xs ds0 hs R =>
  cases h3
  exact⟨a,xs,rfl,.inl (.inl hs),fun q hq=>k F1 _ _ g1 (C1.pop.newT hq R.rev)⟩
 |_=>cases h3
end
section
variable {X:Cx}{Z:Sk}{e:Expr}{st:Stmt}
theorem kK{G:Gm}{M:Addr->Prop}{H:Hp}{v:V}{d:Da}{a:String}(r:Rq G M H v d) (h:D.tyN d=some a):TyX G.K H v (.type a):=by
 cases r with
 |non=>cases h;exact .base .non
 |bl b=>cases h;exact .base (.bl b)
 |int i=>cases h;exact .base (.int i)
 |str z=>cases h;exact .base (.str z)
 |lst hs _=>cases h;exact .base (.lst hs)
 |fls hs _ =>
  cases h
  rcases hs with (h | ⟨o,h⟩) | ⟨o,its,n,h,c,_⟩
  ·exact .base (.lst h)
  ·exact .base (.frz h)
  ·exact .kList h c
 |tup hs _ =>
  cases h
  rcases hs with (h | ⟨o,h⟩) | ⟨o,its,n,h,c,_⟩
  ·exact .base (.tup h)
  ·exact .fTuple h
  ·exact .kTuple h c
 |_=>cases h
theorem gb{A:DE}{T:String}{K:PySem.W.Frag}(hK:K=Z.K) (h:PE X e (tCB (rIsi K) (tCons (tE Z A) (tCons (tC (.ty T)) tNil)))):PE X e (tE Z (D.un (D.Ae T) A)):=az h fun σ H Q ⟨F,S,L,δ,T',S',x,hF,C,hd,k⟩=>by
 obtain⟨p,h1,hd⟩:=bind_some hd
 obtain⟨y,h2,hd⟩:=bind_some hd
 obtain⟨d,h3,hd⟩:=map_some hd
 cases hd
 obtain⟨a,h4,h5⟩:=bind_some h3
 obtain⟨b,h6,rfl⟩:=map_some h5
 refine⟨F,S,L,δ,T',p.1,p.2,hF,C,h1,fun F1 v H1 g1 ⟨O1,C1⟩=>?_⟩
 have q:=C1.rd (C1.tmp (v,.ev p.2) (List.mem_cons_self ..)) h2
 have hK1:F1.G.K=K:=(hF.gr g1).1.trans hK.symm
 have ty:=kK q h4
 rw[hK1] at ty
 exact⟨v,.ty T,.type a,.type T,b,rfl,.ty T,ty,kit_ty h6,k F1 _ _ g1 ⟨O1,C1.pop.push (v := .bl b) (t := .ev (.val (.bl b))) (.bl b)⟩⟩
end
structure FnG (P:Program) (w:World) (K:PySem.W.Frag) (mg:Str->Option Value) (base:Heap) (k:Nat) (f:Addr) (fd:FuncData) (ps:List Str) (sp:Sp):Prop where
 many:∀ vs H Q E,sp vs H Q E->vs.length=ps.length
 go:∀(A:Around) (out:List Env) (s:Shared) (H:Hp) (ar:Args) (us:List Value) (vs:List V) (Q:VK) (E:XK),A.guards=some []->Room k A->Env0 P w K mg base A out s H ->
  BindsTo s fd ar (ps.zip us)->Vals vs us->sp vs H Q E->codeAny (model P w) A (.call (.ref f) ar) (CR CX0 out P w H s Q E) s
section
variable {P:Program}{w:World}{K:PySem.W.Frag}{mg:Str->Option Value}{base:Heap}{k:Nat}{f:Addr}{fd:FuncData}{ps:List Str}{sp:Sp}{x qual:Str}{pr:Arguments}{body:List Stmt}{sc:Scope}{N:List Str}{dvs:List V}{kws:List (Str × V)}
theorem FnG.mono{k':Nat}(F:FnG P w K mg base k f fd ps sp) (h:k<=k'):FnG P w K mg base k' f fd ps sp:=⟨F.many,fun A out s H ar us vs Q E g r=>F.go A out s H ar us vs Q E g (r.mono h)⟩
theorem FnG.imp{sp':Sp}(F:FnG P w K mg base k f fd ps sp) (h:∀ vs H Q E,sp' vs H Q E->sp vs H Q E):FnG P w K mg base k f fd ps sp':=⟨fun vs H Q E q=>F.many vs H Q E (h vs H Q E q),fun A out s H ar us vs Q E g r e b v q=>F.go A out s H ar us vs Q E g r e b v (h vs H Q E q)⟩
end
def ji (K:PySem.W.Frag):V->List V->Hp->VK->Prop:=fun x xs H Q=>∃ a y d ds,x=V.ref a/\xs=[y]/\Dp K H (.ref a) (.list ds)/\Dp K H y d/\SeqAt.shaped (.list ds)=true/\SeqAt.shaped d=true/\Q (.int ((ds.countP fun z=>PyData.eqv z d:Nat):Int)) H
theorem iM{X:Cx}(hu:X.A.units+65 < cLine):MtR X "list.count" (ji X.K):=by
 intro pins s σ H x xs v us Q I rx rxs ⟨a,y,d,ds,e1,e2,hl,hy,sl,sd,q⟩
 subst e1 e2
 obtain rfl:v=Value.ref a:=rx
 obtain⟨uy,rfl,ry⟩:=rxs.one
 obtain⟨bs,r1⟩:=Dp.reads I d y uy hy ry
 have lay:PyData.canLayAll0 ds=true:=SeqAt.canLay_of_shaped sl
 cases hl with
 |lst hs ha =>
  obtain⟨its,rv,⟨⟨c0,d0,f0,g0⟩,n,ho,z1,z2,z3⟩,_⟩:=I.list hs
  simp only at z1 z3
  subst z1 z3
  obtain⟨as,rd⟩:=Dp.readsAll I ds _ its ha rv
  have em:its.map (SeqAt.readOf s.heap)=ds:=SeqAt.readsAll_map ds its as lay rd
  have ec:its.toArray.toList.countP (fun u=>PyData.eqv (SeqAt.readOf s.heap u) d)=ds.countP fun z=>PyData.eqv z d:=by
   rw[<- em,List.countP_map]
   rfl
  refine call_meets F.slot_list_count ⟨_,ho,rfl⟩ F.entry_list_count (F.args_list_count_2 _ _) (SeqAt.list_countAt a its.toArray n d0 g0 uy fun u=>PyData.eqv (SeqAt.readOf s.heap u) d)
   ⟨ho,SeqAt.items_eqAt (vs:=its.toArray) (show ReadsAll s.heap its.toArray.toList ds as from rd) r1 lay (SeqAt.canLay_of_shaped sd) (show X.A.units+1+min (PyData.depthAll ds) d.depth < cLine from room_in_shaped sd hu),?_⟩
  rw[ec]
  exact⟨.int _,H,I.tok _,⟨_,rfl⟩,q⟩
namespace D
def cnt (x y:Da):Option Da:=match x with
 |.lst ds=>(toPs ds).bind fun qs=>(toP y).bind fun p=>if SeqAt.shaped p=true/\SeqAt.shaped (.list qs)=true then some (.int ((qs.countP fun z=>PyData.eqv z p:Nat):Int)) else none
 |_=>none
def Ac (A B:DE):DE:=fun S L δ=>(A S L δ).bind fun p=>(rdE p.1 L p.2).bind fun x0=>match x0 with
 |.lst _=>(B p.1 L δ).bind fun q=>(rdE q.1 L p.2).bind fun x=>(rdE q.1 L q.2).bind fun y=>(cnt x y).map fun d=>(q.1,.val d)
 |_=>none
end D
section
variable {X:Cx}{Z:Sk}{e:Expr}
theorem jD{K:PySem.W.Frag}{A B:DE}(hK:K=Z.K) (h:PE X e (tBM K "list" (ji K) (tE Z A) (tCons (tE Z B) tNil))):PE X e (tE Z (D.Ac A B)):=az h fun σ H Q ⟨F,S,L,δ,T,S',x,hF,C,hd,k⟩=>by
 subst hK
 obtain⟨p,h1,hd⟩:=bind_some hd
 obtain⟨x0,h2,hd⟩:=bind_some hd
 split at hd
 ·rename_i ds0
  obtain⟨q,h3,hd⟩:=bind_some hd
  obtain⟨dx,h4,hd⟩:=bind_some hd
  obtain⟨dy,h5,hd⟩:=bind_some hd
  obtain⟨d,h6,hd⟩:=map_some hd
  cases hd
  refine⟨F,S,L,δ,T,p.1,p.2,hF,C,h1,fun F1 v H1 g1 ⟨O1,C1⟩=>?_⟩
  have hF1:=hF.gr g1
  have r1:=C1.rd (C1.tmp (v,.ev p.2) (List.mem_cons_self ..)) h2
  cases r1 with
  |@lst a zs _ ra _ =>
   refine⟨.inl ⟨rfl,zs,.inl (.inl ra)⟩,F1,p.1,L,δ,_,q.1,q.2,hF1,⟨O1,C1⟩,h3,fun F2 y H2 g2 ⟨O2,C2⟩=>?_⟩
   have hF2:=hF1.gr g2
   have ry:=C2.rd (C2.tmp (y,.ev q.2) (List.mem_cons_self ..)) h5
   have rx:=C2.rd (C2.tmp (.ref a,.ev p.2) (List.mem_cons_of_mem _ (List.mem_cons_self ..))) h4
   cases dx with
   |lst ds =>
    obtain⟨qs,e1,h6⟩:=bind_some h6
    obtain⟨pd,e2,h6⟩:=bind_some h6
    split at h6
    ·rename_i sh
     cases h6
     have rl:=df rx (show toP (.lst ds)=some (.list qs) by unfold toP;rw[e1];rfl)
     exact⟨a,y,pd,qs,rfl,rfl,by rw[<- hF2.1];exact rl,by rw[<- hF2.1];exact df ry e2,sh.2,sh.1,k F2 _ H2 (g1.trans g2) ⟨O2,C2.pop.pop.push (t := .ev (.val (.int _))) (.int _)⟩⟩
    ·cases h6
   |_=>cases h6
 ·cases hd
end
namespace D
def ndAt (κ:NestedKey):List Da->Option Nat
 |[]=>none
 |d::r=>if nkD d=some κ then some 0 else (ndAt κ r).map (·+1)
def ndKey (d:Da):Option NestedKey:=match d with
 |.tup ds=>(nkDs ds).bind fun ks=>if (NestedKey.tup ks).depth<=8 then some (.tup ks) else none
 |_=>none
def AR (x y:Da):Option Da:=match y with
 |.nd ks _=>(ndKey x).map fun κ => .bl (ndAt κ ks).isSome
 |_=>none
def AT (x y:Da):Option Da:=match x with
 |.nd ks xs=>(ndKey y).bind fun κ=>(ndAt κ ks).bind fun i=>xs[i]?
 |_=>none
def ndPut (κ:NestedKey) (k v:Da) (ks xs:List Da):List Da × List Da:=match ndAt κ ks with
 |some _=>(ks,(ks.zip xs).map fun p=>if nkD p.1=some κ then v else p.2)
 |none=>(ks++[k],xs++[v])
def ndL (u:DG) (a b:DE) (vs:List Nat):List Da->List Da->List Da->Sto->Loc->ai->Option (Sto × List Da × List Da)
 |[],ks,xs,S,_,_=>some (S,ks,xs)
 |d::r,ks,xs,S,L,δ=>(u S L (wiped δ vs) (.val d)).bind fun δ1=>(a S L δ1).bind fun p=>(b p.1 L δ1).bind fun q=>match p.2,q.2 with
  |.val k,.val v=>(ndKey k).bind fun κ=>ndL u a b vs r (ndPut κ k v ks xs).1 (ndPut κ k v ks xs).2 q.1 L δ
  |_,_=>none
def Ah (i:DI) (u:DG) (a b:DE) (vs:List Nat):DE:=fun S L δ=>(i S L δ).bind fun p=>if p.2.length<=100000 then (ndL u a b vs p.2 [] [] p.1 L δ).map fun r=>(r.1,.val (.nd r.2.1 r.2.2)) else none
end D
mutual
theorem fk:∀{d:Da}{k:NestedKey},nkD d=some k->∃ p,toP d=some p/\nkP p=some k
 |.non,_,h=>by
  unfold nkD at h
  exact⟨.none,by unfold toP;rfl,by unfold nkP;exact h⟩
 |.int i,_,h=>by
  unfold nkD at h
  exact⟨.int i,by unfold toP;rfl,by unfold nkP;exact h⟩
 |.tup ds,_,h=>by
  unfold nkD at h
  obtain⟨ks,h1,rfl⟩:=map_some h
  obtain⟨ps,h2,h3⟩:=nkDs_p h1
  exact⟨.tuple ps,by unfold toP;rw[h2];rfl,by unfold nkP;rw[h3];rfl⟩
 |.bl _,_,h=>by unfold nkD at h;cases h
 |.str _,_,h=>by unfold nkD at h;cases h
 |.lst _,_,h=>by unfold nkD at h;cases h
 |.dct ..,_,h=>by unfold nkD at h;cases h
 |.obj ..,_,h=>by unfold nkD at h;cases h
 |.ref _,_,h=>by unfold nkD at h;cases h
 |.fn _,_,h=>by unfold nkD at h;cases h
 |.fls _,_,h=>by unfold nkD at h;cases h
 |.ktp _,_,h=>by unfold nkD at h;cases h
 |.nd ..,_,h=>by unfold nkD at h;cases h
theorem nkDs_p:∀{ds:List Da}{ks:List NestedKey},nkDs ds=some ks->∃ ps,toPs ds=some ps/\nkPs ps=some ks
 |[],_,h=>by
  unfold nkDs at h
  exact⟨[],by unfold toPs;rfl,by unfold nkPs;exact h⟩
 |d::ds,_,h=>by
  unfold nkDs at h
  obtain⟨k,h1,h⟩:=bind_some h
  obtain⟨ks,h2,rfl⟩:=map_some h
  obtain⟨p,a1,a2⟩:=fk h1
  obtain⟨ps,b1,b2⟩:=nkDs_p h2
  exact⟨p::ps,by unfold toPs;rw[a1,b1];rfl,by unfold nkPs;rw[a2,b2];rfl⟩
end
section
variable {G:Gm}{M:Addr->Prop}{H:Hp}{es:List NE}{ks xs:List Da}{κ:NestedKey}
theorem bU{κ:NestedKey}:∀{es:List NE}{ks:List Da},ks.map nkD=es.map (fun e=>some e.1)->(D.ndAt κ ks=none/\atE es κ=none)\/∃ i e,D.ndAt κ ks=some i/\es[i]?=some e/\e.1=κ/\atE es κ=some e.2.2
 |[],[],_ => .inl ⟨rfl,rfl⟩
 |[],_::_,h=>by cases h
 |_::_,[],h=>by cases h
 |e::es,d::ks,h=>by
  have h1:nkD d=some e.1:=(List.cons.inj h).1
  have h2:ks.map nkD=es.map (fun e=>some e.1):=(List.cons.inj h).2
  unfold D.ndAt atE
  rw[List.find?_cons,h1]
  by_cases c:e.1=κ
  ·rw[if_pos (by rw[c]),decide_eq_true c]
   exact .inr ⟨0,e,rfl,rfl,c,rfl⟩
  ·rw[if_neg (fun z=>c (Option.some.inj z)),decide_eq_false c]
   rcases bU (κ:=κ) h2 with ⟨q1,q2⟩ | ⟨i,f,q1,q2,q3,q4⟩
   ·rw[q1]
    exact .inl ⟨rfl,q2⟩
   ·rw[q1]
    exact .inr ⟨i+1,f,rfl,q2,q3,q4⟩
theorem eS(hk:ks.map nkD=es.map (fun e=>some e.1)) (h8:∀ e∈es,e.1.depth<=8) (R:RpAll G M H (es.map fun e=>V.ref e.2.1) ks):NKs G.K H es:=by
 intro e he
 obtain⟨i,hi⟩:=List.getElem?_of_mem he
 have h1:(ks.map nkD)[i]?=some (some e.1):=by rw[hk,List.getElem?_map,hi];rfl
 rw[List.getElem?_map] at h1
 obtain⟨d,h2,h3⟩:=Option.map_eq_some_iff.mp h1
 obtain⟨v,h4,h5⟩:=bP R h2
 rw[List.getElem?_map,hi] at h4
 cases h4
 obtain⟨p,h6,h7⟩:=fk h3
 exact⟨p,gd h5 h6,h7,h8 e he⟩
theorem co{d:Da}(h:D.ndKey d=some κ):nkD d=some κ/\κ.depth<=8/\∃ ds,d = .tup ds:=by
 unfold D.ndKey at h
 split at h
 ·rename_i ds
  obtain⟨ks,h1,h⟩:=bind_some h
  split at h
  ·rename_i h8
   cases h
   refine⟨?_,h8,_,rfl⟩
   unfold nkD
   rw[h1]
   rfl
  ·cases h
 ·cases h
theorem ij{v:V}{d:Da}(r:Rq G M H v d) (h:D.ndKey d=some κ):∃ b p,v = .ref b/\Dp G.K H (.ref b) p/\nkP p=some κ/\κ.depth<=8:=by
 obtain⟨h1,h8,ds,rfl⟩:=co h
 obtain⟨p,h2,h3⟩:=fk h1
 have q:=df r h2
 cases r with
 |tup r t=>exact⟨_,p,rfl,q,h3,h8⟩
theorem iO{v:V}{d:Da}(r:Rp G M H v d) (h:D.ndKey d=some κ):∃ b p,v = .ref b/\Dp G.K H (.ref b) p/\nkP p=some κ/\κ.depth<=8:=by
 obtain⟨h1,h8,ds,rfl⟩:=co h
 obtain⟨p,h2,h3⟩:=fk h1
 have q:=gd r h2
 cases r with
 |tup m r t=>exact⟨_,p,rfl,q,h3,h8⟩
 |ktup r t=>exact⟨_,p,rfl,q,h3,h8⟩
end
section
variable {Z:Sk}{X:Cx}
theorem jW{K:PySem.W.Frag}(hK:K=Z.K):bb Z (gW K false) D.AR:=by
 intro G M H x y dx dy d hG _ _ hx hy h Q k
 unfold D.AR at h
 split at h
 ·rename_i ks xs
  obtain⟨κ,h1,rfl⟩:=map_some h
  obtain⟨b,p,rfl,q1,q2,q3⟩:=ij hx h1
  cases hy with
  |@nd a es _ _ r hk h8 t u =>
   refine⟨p,κ,b,a,es,rfl,by rw[hK,<- hG];exact q1,q2,q3,rfl,r,by rw[hK,<- hG];exact eS hk h8 t,?_⟩
   rw[Bool.false_xor]
   have e:(atE es κ).isSome=(D.ndAt κ ks).isSome:=by
    rcases bU (κ:=κ) hk with ⟨g1,g2⟩ | ⟨i,e,g1,_,_,g2⟩ <;> rw[g1,g2] <;> rfl
   rw[e]
   exact k _ _ (Same.refl H) (.bl _)
 ·cases h
theorem kd{K:PySem.W.Frag}(hK:K=Z.K):bb Z (g9 K) D.AT:=by
 intro G M H x y dx dy d hG _ _ hx hy h Q k
 unfold D.AT at h
 split at h
 ·obtain⟨κ,h1,h⟩:=bind_some h
  obtain⟨i,h2,h3⟩:=bind_some h
  obtain⟨b,p,rfl,q1,q2,q3⟩:=ij hy h1
  cases hx with
  |@nd a es _ _ r hk h8 t u =>
   rcases bU (κ:=κ) hk with ⟨g1,_⟩ | ⟨j,e,g1,g2,_,g3⟩
   ·rw[g1] at h2
    cases h2
   ·rw[g1] at h2
    cases h2
    obtain⟨v,g4,g5⟩:=bP u h3
    rw[List.getElem?_map,g2] at g4
    cases g4
    exact⟨p,κ,b,a,es,e.2.2,rfl,by rw[hK,<- hG];exact q1,q2,q3,rfl,r,by rw[hK,<- hG];exact eS hk h8 t,g3,k _ _ (Same.refl H) g5⟩
 ·cases h
theorem gH{K:PySem.W.Frag}(hK:X.K=K) (hu:X.A.units+65 < cLine):OpR X (compareOp .In) (gW K false):=by
 subst hK
 exact iV (by omega)
theorem jH{K:PySem.W.Frag}(hK:X.K=K) (hu:X.A.units+65 < cLine):IxR X (g9 K):=by
 subst hK
 exact kA (by omega)
end
def Fr.pro (F:Fr) (D:Addr) (o:HO):Fr:=⟨F.G,fun a=>F.N a\/a=D,upd F.B D o,F.W⟩
section
variable {F F':Fr}{O:List Addr}{H H':Hp}{S:Sto}{L:Loc}{σ:L2.St}{δ:ai}{T:List (V × Tv)}{D:Addr}
def Off (H:Hp) (D:Addr):Prop:=H D=none\/∃ φ,H D=some (.ext φ)
theorem Off.lst{a:Addr}{xs:List V}(h:Off H D) (r:Rd H a (.lst xs)):a≠D:=fun z=>by
 subst z
 rcases h with h | ⟨φ,h⟩ <;> rcases r with r | ⟨_,r⟩ <;> rw[h] at r <;> cases r
theorem Off.tup{a:Addr}{xs:List V}(h:Off H D) (r:Rd H a (.tup xs)):a≠D:=fun z=>by
 subst z
 rcases h with h | ⟨φ,h⟩ <;> rcases r with r | ⟨_,r⟩ <;> rw[h] at r <;> cases r
theorem Off.cell{G:Gm}{M:Addr->Prop}{a:Addr}{c:Cell}(h:Off H D) (r:aA G M H a c):a≠D:=fun z=>by
 subst z
 cases c with
 |lst ds =>
  obtain⟨xs,e,_⟩:=r
  rcases h with h | ⟨φ,h⟩ <;> rw[h] at e <;> cases e
 |dct ks ds =>
  obtain⟨xs,e,_⟩:=r
  rcases h with h | ⟨φ,h⟩ <;> rcases e with e | ⟨_,e⟩ <;> rw[h] at e <;> cases e
 |ins c ks ds =>
  obtain⟨_,_,_,e,_⟩:=r
  rcases h with h | ⟨φ,h⟩ <;> rw[h] at e <;> cases e
theorem im{a:Addr}{o:HO}(s2:∀ b o,b≠D->H b=some o->H' b=some o) (n:a≠D) (r:Rd H a o):Rd H' a o:=r.imp (s2 _ _ n) fun⟨x,e⟩=>⟨x,s2 _ _ n e⟩
theorem eD{a:Addr}(hG:F'.G=F.G) (hW:F'.W=F.W):Cg F' O L a->Cg F O L a:=fun h=>by
 unfold Cg at h ⊢
 rw[hG,hW] at h
 exact h
theorem j2{v:V}(hG:F'.G=F.G) (hW:F'.W=F.W) (s:Stay (Pr F O L) H H') (s2:∀ b o,b≠D->H b=some o->H' b=some o) (hD:Off H D) (m:∀ b,Pr F' O L b->Pr F O L b\/H b=none):∀{t:Tv},TvOk F O L H v t->TvOk F' O L H' v t
 |.ev (.val d),h=>by
  show Rp F'.G _ _ _ _
  rw[hG]
  exact Rp.go s m h
 |.ev (.own j),h=>h
 |.sl vs ds,⟨a,h1,n,h2,h3⟩=>⟨a,h1,fun c=>n (eD hG hW c),im s2 (hD.lst h2) h2,by rw[hG];exact RpAll.go s m h3⟩
 |.st vs ds,⟨a,h1,h2,h3⟩=>⟨a,h1,by rw[hG];exact h2.imp (fun q=>⟨fun c=>q.1 (eD hG hW c),im s2 (hD.tup q.2) q.2⟩) id,by rw[hG];exact RpAll.go s m h3⟩
 |.lk od kvs ds,⟨a,h1,n,h2,h3⟩=>⟨a,h1,fun c=>n (eD hG hW c),s2 _ _ (fun z=>by subst z;rcases hD with h | ⟨φ,h⟩ <;> rw[h] at h2 <;> cases h2) h2,by rw[hG];exact RpAll.go s m h3⟩
theorem CtxO.off(C:CtxO F O H S L σ δ T) (hG:F'.G=F.G) (hW:F'.W=F.W) (s:Stay (Pr F O L) H H') (s2:∀ b o,b≠D->H b=some o->H' b=some o) (hD:Off H D) (m:∀ b,Pr F' O L b->Pr F O L b\/H b=none)
  (c1:∀ a,F.N a->F'.N a\/a=D) (c2:∀ a,F'.N a->H' a≠none) (c3:∀ a,F'.N a->F.N a\/a=D) (c4:∀ a,a≠D->F'.B a=F.B a) (c5:∀ o,F'.B D=some o->H' D=some o) (w:F.W=false):CtxO F' O H' S L σ δ T:=by
 have tg:∀ v t,TvOk F O L H v t->TvOk F' O L H' v t:=fun v t=>j2 hG hW s s2 hD m
 have od:∀ a,Alive O L a->a≠D:=fun a ⟨j,ds,h1,h2⟩=>let ⟨xs,e,_⟩:=C.own j a ds h1 h2;hD.lst (.inl e)
 have rd:∀ a∈F.G.R,a≠D:=fun a ha=>by
  obtain⟨k,hk⟩:=List.getElem?_of_mem ha
  have l:k < S.length:=by
   rw[<- C.len]
   exact(List.getElem?_eq_some_iff.mp hk).1
  exact hD.cell (C.cells k a S[k] hk (List.getElem?_eq_getElem l))
 exact {
  len:=by rw[hG];exact C.len
  nd:=by rw[hG];exact C.nd
  rN:=fun a ha=>by rw[hG] at ha;exact(c1 a (C.rN a ha)).elim id fun z=>absurd z (rd a ha)
  nN:=c2
  ap:=fun a h z=>(c3 a z).elim (C.ap a h) (od a h)
  lo:=C.lo
  ond:=C.ond
  oB:=fun a h=>by rw[c4 a (od a h)];exact C.oB a h
  ln:=C.ln
  base:=fun b o n h=>by
   by_cases e:b=D
   ·subst e
    exact c5 o h
   ·rw[c4 b e] at h
    exact s2 b o e (C.base b o (fun z=>by rw[w] at z;exact Bool.false_ne_true z.1) h)
  cells:=fun k a c h1 h2=>by
   rw[hG] at h1 ⊢
   have q:=C.cells k a c h1 h2
   exact bh s m (fun o h=>s2 _ _ (hD.cell q) h) q
  own:=fun j a ds h1 h2=>by
   obtain⟨xs,q1,q2⟩:=C.own j a ds h1 h2
   exact⟨xs,s2 _ _ (hD.lst (.inl q1)) q1,by rw[hG];exact RpAll.go s m q2⟩
  env:=fun i e h=>let ⟨v,q1,q2⟩:=C.env i e h;⟨v,q1,tg _ _ q2⟩
  tmp:=fun p h=>tg _ _ (C.tmp p h)
  ul:=fun z=>by rw[hW,w] at z;cases z }
theorem CtxO.pro(C:CtxO F O H S L σ δ T) (w:F.W=false) (hD:H D=none) {φ:Heap->Prop}:CtxO (F.pro D (.ext φ)) O (upd H D (.ext φ)) S L σ δ T :=
 C.off (D:=D) rfl rfl (Stay.of fun b o _ h=>by rw[upd_ne (ne_of_none h hD)];exact h) (fun b o n h=>by rw[upd_ne n];exact h) (.inl hD)
  (fun b h=>h.elim (fun h=>h.elim (fun h => .inl (.inl h)) fun z => .inr (by rw[z];exact hD)) fun h => .inl (.inr h)) (fun a h => .inl (.inl h))
  (fun a h z=>by
   by_cases e:a=D
   ·rw[e,upd_same] at z
    cases z
   ·rw[upd_ne e] at z
    exact h.elim (fun h=>C.nN a h z) e)
  (fun a h=>h) (fun a n=>upd_ne n) (fun o h=>by rw[<- h];show upd H D _ D=upd F.B D _ D;rw[upd_same,upd_same]) w
theorem CtxO.rep{φ ψ:Heap->Prop}(C:CtxO (F.pro D (.ext φ)) O H S L σ δ T) (w:F.W=false) (hD:H D=some (.ext φ)):CtxO (F.pro D (.ext ψ)) O (upd H D (.ext ψ)) S L σ δ T :=
 C.off (D:=D) rfl rfl (Stay.of fun b o n h=>by rw[upd_ne (fun z=>n (.inl (.inr z)))];exact h) (fun b o n h=>by rw[upd_ne n];exact h) (.inr ⟨φ,hD⟩) (fun b h => .inl h) (fun a h => .inl h)
  (fun a h z=>by
   by_cases e:a=D
   ·rw[e,upd_same] at z
    cases z
   ·rw[upd_ne e] at z
    exact C.nN a h z)
  (fun a h => .inl h) (fun a n=>by show upd F.B D _ a=upd F.B D _ a;rw[upd_ne n,upd_ne n]) (fun o h=>by rw[<- h];show upd H D _ D=upd F.B D _ D;rw[upd_same,upd_same]) w
theorem CtxO.unpro{φ:Heap->Prop}(C:CtxO (F.pro D (.ext φ)) O H S L σ δ T) (w:F.W=false) (hD:H D=some (.ext φ)) (hN:¬ F.N D) (hB:F.B D=none):CtxO F O H S L σ δ T :=
 C.off (F':=F) (D:=D) rfl rfl (aS _ H) (fun b o _ h=>h) (.inr ⟨φ,hD⟩) (fun b h => .inl (h.imp .inl id)) (fun a h=>h) (fun a h=>C.nN a (.inl h)) (fun a h => .inl (.inl h)) (fun a n=>by show F.B a=upd F.B D _ a;rw[upd_ne n]) (fun o h=>by rw[hB] at h;cases h) w
end
theorem kX{k:Nat}{A:Around}(hr:Room k A):A.units+10 < cLine:=by
 have:=fQ hr
 omega
def zT (vs:List V) (ds:List Da):List (V × Tv):=List.zipWith (fun v d=>(v,Tv.ev (.val d))) vs ds
section
variable {F:Fr}{O:List Addr}{H:Hp}{S:Sto}{L:Loc}{σ:L2.St}{δ:ai}{T T':List (V × Tv)}{D:Addr}
theorem gE:∀{vs:List V}{ds:List Da},RpAll F.G (Pr F O L) H vs ds->∀ p∈zT vs ds,TvOk F O L H p.1 p.2
 |_,_,.nil,p,hp=>nomatch hp
 |_,_,.cons h t,p,hp=>by
  rcases List.mem_cons.mp (show p∈(_,Tv.ev (.val _))::zT _ _ from hp) with rfl | hp
  ·exact h
  ·exact gE t p hp
theorem dP:∀{vs:List V}{ds:List Da},vs.length=ds.length->(∀ p∈zT vs ds,TvOk F O L H p.1 p.2)->RpAll F.G (Pr F O L) H vs ds
 |[],[],_,_ => .nil
 |[],_::_,h,_=>by cases h
 |_::_,[],h,_=>by cases h
 |v::vs,d::ds,h,hp => .cons (hp (v,.ev (.val d)) (List.mem_cons_self ..)) (dP (Nat.succ.inj h) fun p hq=>hp p (List.mem_cons_of_mem _ hq))
theorem CtxO.tmps(C:CtxO F O H S L σ δ T) (h:∀ p∈T',TvOk F O L H p.1 p.2):CtxO F O H S L σ δ T':={ C with tmp:=h }
def ndT (es:List NE) (ks xs:List Da) (T:List (V × Tv)):List (V × Tv):=zT (es.map fun e=>V.ref e.2.1) ks++(zT (es.map fun e=>e.2.2) xs++T)
end
section
variable {G:Gm}{M:Addr->Prop}{H:Hp}
theorem io{κ:NestedKey}{z:V}{v:Da}(rz:Rp G M H z v):∀{es:List NE}{ks xs:List Da},ks.map nkD=es.map (fun e=>some e.1)->RpAll G M H (es.map fun e=>e.2.2) xs ->
  RpAll G M H ((es.map fun e=>if e.1=κ then (e.1,e.2.1,z) else e).map fun e=>e.2.2) ((ks.zip xs).map fun p=>if nkD p.1=some κ then v else p.2)
 |[],[],_,_,.nil => .nil
 |[],_::_,_,h,_=>by cases h
 |_::_,[],_,h,_=>by cases h
 |e::es,d::ks,_,h,.cons r t=>by
  have h1:nkD d=some e.1:=(List.cons.inj h).1
  have h2:ks.map nkD=es.map (fun e=>some e.1):=(List.cons.inj h).2
  refine .cons ?_ (io rz h2 t)
  show Rp G M H (if e.1=κ then (e.1,e.2.1,z) else e).2.2 (if nkD d=some κ then v else _)
  rw[h1]
  by_cases c:e.1=κ
  ·rw[if_pos c,if_pos (by rw[c])]
   exact rz
  ·rw[if_neg c,if_neg fun q=>c (Option.some.inj q)]
   exact r
theorem fu{κ:NestedKey}{z:V}(es:List NE):((es.map fun e=>if e.1=κ then (e.1,e.2.1,z) else e).map fun e=>some e.1)=es.map (fun e=>some e.1)/\((es.map fun e=>if e.1=κ then (e.1,e.2.1,z) else e).map fun e=>V.ref e.2.1)=es.map fun e=>V.ref e.2.1:=by
 rw[List.map_map,List.map_map]
 constructor <;> refine List.map_congr_left fun e _=>?_
 ·show some (if e.1=κ then (e.1,e.2.1,z) else e).1=_
  split <;> rfl
 ·show V.ref (if e.1=κ then (e.1,e.2.1,z) else e).2.1=_
  split <;> rfl
theorem iS{κ:NestedKey}{b:Addr}{z:V}{k v:Da}{es:List NE}{ks xs:List Da}(hk:ks.map nkD=es.map (fun e=>some e.1)) (h8:∀ e∈es,e.1.depth<=8) (R1:RpAll G M H (es.map fun e=>V.ref e.2.1) ks) (R2:RpAll G M H (es.map fun e=>e.2.2) xs)
  (ry:Rp G M H (.ref b) k) (rz:Rp G M H z v) (hκ:nkD k=some κ) (k8:κ.depth<=8):(D.ndPut κ k v ks xs).1.map nkD=(stE es κ b z).map (fun e=>some e.1)/\(∀ e∈stE es κ b z,e.1.depth<=8) /\
  RpAll G M H ((stE es κ b z).map fun e=>V.ref e.2.1) (D.ndPut κ k v ks xs).1/\RpAll G M H ((stE es κ b z).map fun e=>e.2.2) (D.ndPut κ k v ks xs).2:=by
 have a8:∀ e∈stE es κ b z,e.1.depth<=8:=fun e he=>by
  rcases fi he with ⟨f,hf,e1,_⟩ | rfl
  ·rw[<- e1]
   exact h8 f hf
  ·exact k8
 refine⟨?_,a8,?_⟩
 ·unfold D.ndPut stE
  rw[eJ]
  rcases bU (κ:=κ) hk with ⟨q1,q2⟩ | ⟨i,e,q1,_,_,q2⟩
  ·rw[q1,q2,if_neg (by decide),List.map_append,List.map_append,hk]
   show _++[nkD k]=_++[some κ]
   rw[hκ]
  ·rw[q1,q2,if_pos (show (some e.2.2).isSome=true from rfl),(fu es).1]
   exact hk
 ·unfold D.ndPut stE
  rw[eJ]
  rcases bU (κ:=κ) hk with ⟨q1,q2⟩ | ⟨i,e,q1,_,_,q2⟩
  ·rw[q1,q2,if_neg (by decide),List.map_append,List.map_append]
   exact⟨R1.app (.cons ry .nil),R2.app (.cons rz .nil)⟩
  ·rw[q1,q2,if_pos (show (some e.2.2).isSome=true from rfl),(fu es).2]
   exact⟨R1,io rz hk R2⟩
end
section
variable {X:Cx}{Z:Sk}{e:Expr}
theorem i3{A:DI}{js:List Nat}{u:DG}{a b:DE}{vs:List Nat}(hW:Z.W=false) (hj:∀ j∈js,j∈vs):∀ σ H Q,tE Z (D.Ah A u a b vs) σ H Q->jy Z.K (tI Z A) (tG Z js u) (tE Z a) (tE Z b) vs σ H Q:=fun σ H Q ⟨F,S,L,δ,T,S',ev,hF,C,hd,k⟩=>by
 obtain⟨p,h1,hd⟩:=bind_some hd
 split at hd
 case isFalse=>cases hd
 rename_i hlen
 obtain⟨r,hr,hd⟩:=map_some hd
 cases hd
 refine⟨F,S,L,δ,T,p.1,p.2,hF,C,h1,fun F1 J H1 U g1 w C1 Dn hD=>?_⟩
 have wF:F.W=false:=hF.2.2.trans hW
 cases g1.f wF
 generalize p.2=ps at *
 generalize p.1=S1 at *
 obtain⟨O1,C1⟩:=C1
 have hN:¬ F.N Dn:=fun h=>C1.nN Dn h hD
 have hB:F.B Dn=none:=by
  cases q:F.B Dn with
  |none=>rfl
  |some o =>
   have:=C1.base Dn o (fun z=>by rw[wF] at z;exact Bool.false_ne_true z.1) q
   rw[hD] at this
   cases this
 have hFp:∀ es,Of Z (F.pro Dn (NdO Dn es)):=fun es=>hF
 have Ci:CtxO (F.pro Dn (NdO Dn [])) O1 (upd H1 Dn (NdO Dn [])) S1 L σ δ (U++ndT [] [] [] T):=C1.pro wF hD
 have ln:=C1.ln
 have hv:∀(i:Nat) (e:Ev),δ[i]?=some (some e)->∃ v,σ[i]?=some (some v):=fun i e h=>let ⟨v,q,_⟩:=C1.env i e h;⟨v,q⟩
 refine⟨fun i m G=>m=ps.length - i/\i<=ps.length/\∃ S ks xs es,G Dn=some (NdO Dn es)/\ks.map nkD=es.map (fun e=>some e.1)/\(∀ e∈es,e.1.depth<=8)/\es.length<=i/\es.length=ks.length/\es.length=xs.length/\Ctx (F.pro Dn (NdO Dn es)) G S L σ δ (U++ndT es ks xs T)/\D.ndL u a b vs (ps.drop i) ks xs S L δ=some r,
  ⟨_,rfl,Nat.zero_le _,S1,[],[],[],upd_same,rfl,(fun _ h=>nomatch h),Nat.le_refl _,rfl,rfl,⟨O1,Ci⟩,hr⟩,?_⟩
 rintro i m G ⟨rfl,hi,S2,ks,xs,es,hG,hk,h8,hel,el1,el2,C2,hd2⟩
 obtain⟨w1,w2,w3⟩:=w (F.pro Dn (NdO Dn es)) (hFp es).1 S2 _ σ δ _ G C2
 by_cases hlt:i < ps.length
 ·refine .inr ⟨w1 i hlt,fun G=>i+1<=ps.length/\∃ S ks xs es,G Dn=some (NdO Dn es)/\ks.map nkD=es.map (fun e=>some e.1)/\(∀ e∈es,e.1.depth<=8)/\es.length<=i+1/\es.length=ks.length/\es.length=xs.length/\Ctx (F.pro Dn (NdO Dn es)) G S L σ δ (U++ndT es ks xs T)/\D.ndL u a b vs (ps.drop (i+1)) ks xs S L δ=some r,
   fun G' ⟨q1,q2⟩=>⟨ps.length - (i+1),by omega,rfl,q1,q2⟩,fun x G' y=>?_⟩
  rw[cN hlt] at hd2
  obtain⟨δ3,h3,hd3⟩:=bind_some hd2
  obtain⟨pa,h4,hd4⟩:=bind_some hd3
  obtain⟨pb,h5,hd5⟩:=bind_some hd4
  obtain⟨O3,C3⟩:=w3 i x G' ps[i] (List.getElem?_eq_getElem hlt) y
  have C3':CtxO (F.pro Dn (NdO Dn es)) O3 G' S2 L σ δ ((x,.ev (.val ps[i]))::(envT σ δ++(U++ndT es ks xs T))):=C3.envT.sub fun q hq=>by
   rcases List.mem_cons.mp hq with rfl | hq
   ·exact List.mem_append_right _ (List.mem_cons_self ..)
   ·rcases List.mem_append.mp hq with hq | hq
    ·exact List.mem_append_left _ hq
    ·exact List.mem_append_right _ (List.mem_cons_of_mem _ hq)
  refine⟨F.pro Dn (NdO Dn es),S2,L,D.wiped δ vs,envT σ δ++(U++ndT es ks xs T),_,δ3,hFp es,⟨O3,C3'.wipe vs⟩,h3,fun σ' hl ho C4=>⟨cn hl ho hj,F.pro Dn (NdO Dn es),S2,L,δ3,_,pa.1,pa.2,hFp es,C4,h4,fun F5 vy G5 g5 C5=>?_⟩⟩
  cases g5.f wF
  refine⟨F.pro Dn (NdO Dn es),pa.1,L,δ3,_,pb.1,pb.2,hFp es,C5,h5,fun F6 vz G6 g6 ⟨O6,C6⟩=>?_⟩
  cases g6.f wF
  cases hpa:pa.2 with
  |own j =>
   rw[hpa] at hd5
   cases hd5
  |val dk =>
   cases hpb:pb.2 with
   |own j =>
    rw[hpa,hpb] at hd5
    cases hd5
   |val dv =>
    rw[hpa,hpb] at hd5 C6
    obtain⟨κ,h6,hd6⟩:=bind_some hd5
    have ry:Rp F.G (Pr (F.pro Dn (NdO Dn es)) O6 L) G6 vy dk:=C6.tmp (vy,.ev (.val dk)) (List.mem_cons_of_mem _ (List.mem_cons_self ..))
    have rz:Rp F.G (Pr (F.pro Dn (NdO Dn es)) O6 L) G6 vz dv:=C6.tmp (vz,.ev (.val dv)) (List.mem_cons_self ..)
    have inT:∀ q∈ndT es ks xs T,TvOk (F.pro Dn (NdO Dn es)) O6 L G6 q.1 q.2:=fun q hq=>C6.tmp q (List.mem_cons_of_mem _ (List.mem_cons_of_mem _ (List.mem_append_right _ (List.mem_append_right _ hq))))
    have R1:RpAll F.G (Pr (F.pro Dn (NdO Dn es)) O6 L) G6 (es.map fun e=>V.ref e.2.1) ks:=dP (F:=F.pro Dn (NdO Dn es)) (by rw[List.length_map];exact el1) fun q hq=>inT q (List.mem_append_left _ hq)
    have R2:RpAll F.G (Pr (F.pro Dn (NdO Dn es)) O6 L) G6 (es.map fun e=>e.2.2) xs:=dP (F:=F.pro Dn (NdO Dn es)) (by rw[List.length_map];exact el2) fun q hq=>inT q (List.mem_append_right _ (List.mem_append_left _ hq))
    have hG6:G6 Dn=some (NdO Dn es):=C6.base Dn _ (fun z=>by rw[show (F.pro Dn (NdO Dn es)).W=false from wF] at z;exact Bool.false_ne_true z.1) upd_same
    obtain⟨b0,pd,rfl,y1,y2,y3⟩:=iO ry h6
    obtain⟨n1,n2,n3,n4⟩:=iS hk h8 R1 R2 ry rz (co h6).1 y3
    have kF:F.G.K=Z.K:=hF.1
    refine⟨es,pd,κ,b0,rfl,by rw[<- kF];exact y1,y2,y3,hG6,by rw[<- kF];exact eS hk h8 R1,?_,hlt,pb.1,_,_,stE es κ b0 vz,upd_same,n1,n2,?_,?_,?_,⟨O6,?_⟩,hd6⟩
    ·have:(10000000:Nat) < sizeLine:=by decide
     omega
    ·have:=fI es κ b0 vz
     omega
    ·have:=n3.len
     rw[List.length_map] at this
     exact this
    ·have:=n4.len
     rw[List.length_map] at this
     exact this
    ·have C7:=C6.back ln hv fun q hq=>List.mem_cons_of_mem _ (List.mem_cons_of_mem _ (List.mem_append_left _ hq))
     refine CtxO.rep (T:=U++ndT (stE es κ b0 vz) _ _ T) (C7.tmps fun q hq=>?_) wF hG6
     rcases List.mem_append.mp hq with hq | hq
     ·exact C7.tmp q (List.mem_cons_of_mem _ (List.mem_cons_of_mem _ (List.mem_append_right _ (List.mem_append_left _ hq))))
     ·rcases List.mem_append.mp hq with hq | hq
      ·exact gE (F:=F.pro Dn (NdO Dn es)) n3 q hq
      ·rcases List.mem_append.mp hq with hq | hq
       ·exact gE (F:=F.pro Dn (NdO Dn es)) n4 q hq
       ·exact inT q (List.mem_append_right _ (List.mem_append_right _ hq))
 ·have ei:i=ps.length:=by omega
  subst ei
  rw[List.drop_length] at hd2
  cases hd2
  obtain⟨O,C2⟩:=C2
  have C3:=C2.unpro wF hG hN hB
  have inT:∀ q∈ndT es ks xs T,TvOk F O L G q.1 q.2:=fun q hq=>C3.tmp q (List.mem_append_right _ hq)
  have R1:RpAll F.G (Pr F O L) G (es.map fun e=>V.ref e.2.1) ks:=dP (by rw[List.length_map];exact el1) fun q hq=>inT q (List.mem_append_left _ hq)
  have R2:RpAll F.G (Pr F O L) G (es.map fun e=>e.2.2) xs:=dP (by rw[List.length_map];exact el2) fun q hq=>inT q (List.mem_append_right _ (List.mem_append_left _ hq))
  refine .inl ⟨w2,k F (.ref Dn) G (Gr.refl F) ⟨O,(C3.tmps (T':=T) fun q hq=>inT q (List.mem_append_right _ (List.mem_append_right _ hq))).push (.nd (fun z=>z.elim hN fun⟨j,ds,z1,z2⟩=>?_) hG hk h8 R1 R2)⟩⟩
  obtain⟨zs,z3,_⟩:=C3.own j Dn ds z1 z2
  rw[hG] at z3
  cases z3
theorem j7{K:PySem.W.Frag}{A:DI}{js:List Nat}{u:DG}{a b:DE}{vs:List Nat}(hK:K=Z.K) (hW:Z.W=false) (hj:∀ j∈js,j∈vs) (h:PE X e (jy K (tI Z A) (tG Z js u) (tE Z a) (tE Z b) vs)):PE X e (tE Z (D.Ah A u a b vs)):=az h (by rw[hK];exact i3 hW hj)
end
structure Txt (K:PySem.W.Frag) (w:World) (mg:Str->Option Value) where
 z_tuple:mg "tuple"=none
 z_all:mg "all"=none
 z_len:mg "len"=none
 z_int:mg "int"=none
 z_range:mg "range"=none
 z_list:mg "list"=none
 z_isinstance:mg "isinstance"=none
 z_bool:mg "bool"=none
 f_is_fewer:Addr
 fd_is_fewer:FuncData
 lm:FnP K "_is_fewer" "_is_fewer" aY f_is_fewer fd_is_fewer
 m_is_fewer:mg "_is_fewer"=some (.ref f_is_fewer)
 f_with_more:Addr
 fd_with_more:FuncData
 lj:FnP K "_with_more" "_with_more" aG f_with_more fd_with_more
 m_with_more:mg "_with_more"=some (.ref f_with_more)
 f_put:Addr
 fd_put:FuncData
 ly:FnP K "_put" "_put" dg f_put fd_put
 m_put:mg "_put"=some (.ref f_put)
 f_node_of:Addr
 fd_node_of:FuncData
 lr:FnP K "node_of" "node_of" bd f_node_of fd_node_of
 m_node_of:mg "node_of"=some (.ref f_node_of)
 f_lies_within:Addr
 fd_lies_within:FuncData
 le:FnP K "lies_within" "lies_within" au f_lies_within fd_lies_within
 m_lies_within:mg "lies_within"=some (.ref f_lies_within)
 f_l_cell:Addr
 fd_l_cell:FuncData
 lv:FnP K "_law_cell" "_law_cell" bx f_l_cell fd_l_cell
 m_l_cell:mg "_law_cell"=some (.ref f_l_cell)
 f_l_source:Addr
 fd_l_source:FuncData
 lp:FnP K "_law_source" "_law_source" aV f_l_source fd_l_source
 m_l_source:mg "_law_source"=some (.ref f_l_source)
 f_l_pick:Addr
 fd_l_pick:FuncData
 ld:FnP K "_law_pick" "_law_pick" bw f_l_pick fd_l_pick
 m_l_pick:mg "_law_pick"=some (.ref f_l_pick)
 f_l_node:Addr
 fd_l_node:FuncData
 lw:FnP K "_law_node" "_law_node" bC f_l_node fd_l_node
 m_l_node:mg "_law_node"=some (.ref f_l_node)
 f_l_task:Addr
 fd_l_task:FuncData
 lu:FnP K "_law_task" "_law_task" bp f_l_task fd_l_task
 m_l_task:mg "_law_task"=some (.ref f_l_task)
 f_l_ground:Addr
 fd_l_ground:FuncData
 lq:FnP K "_law_ground" "_law_ground" aW f_l_ground fd_l_ground
 m_l_ground:mg "_law_ground"=some (.ref f_l_ground)
 f_l_changed:Addr
 fd_l_changed:FuncData
 lf:FnP K "_law_changed" "_law_changed" aN f_l_changed fd_l_changed
 m_l_changed:mg "_law_changed"=some (.ref f_l_changed)
 f_l_often:Addr
 fd_l_often:FuncData
 lh:FnP K "_law_often" "_law_often" bg f_l_often fd_l_often
 m_l_often:mg "_law_often"=some (.ref f_l_often)
 f_l_within:Addr
 fd_l_within:FuncData
 lg:FnP K "_law_within" "_law_within" a5 f_l_within fd_l_within
 m_l_within:mg "_law_within"=some (.ref f_l_within)
 f_law:Addr
 fd_law:FuncData
 lB:FnP K "law" "law" cy f_law fd_law
 m_law:mg "law"=some (.ref f_law)
section
variable {P:Program}{w:World}{K:PySem.W.Frag}{mg:Str->Option Value}
theorem htxt{w:World}{K:PySem.W.Frag}{h:Heap}{mg:Str->Option Value}(X:K.In h) (G:h.Ns mainGlobals mg) (c:Hx.SaysX hfa hfn hts hbs w K):Nonempty (Txt K w mg):=by
 obtain⟨fd_is_fewer,lm⟩:=c.t.d.def_ 0 (d:=cx) rfl
 obtain⟨fd_with_more,lj⟩:=c.t.d.def_ 1 (d:=bT) rfl
 obtain⟨fd_put,ly⟩:=c.t.d.def_ 2 (d:=gL) rfl
 obtain⟨fd_node_of,lr⟩:=c.t.d.def_ 3 (d:=cV) rfl
 obtain⟨fd_lies_within,le⟩:=c.t.d.def_ 4 (d:=bz) rfl
 obtain⟨fd_l_cell,lv⟩:=c.t.d.def_ 5 (d:=de) rfl
 obtain⟨fd_l_source,lp⟩:=c.t.d.def_ 6 (d:=cD) rfl
 obtain⟨fd_l_pick,ld⟩:=c.t.d.def_ 7 (d:=dc) rfl
 obtain⟨fd_l_node,lw⟩:=c.t.d.def_ 8 (d:=di) rfl
 obtain⟨fd_l_task,lu⟩:=c.t.d.def_ 9 (d:=dm) rfl
 obtain⟨fd_l_ground,lq⟩:=c.t.d.def_ 10 (d:=cz) rfl
 obtain⟨fd_l_changed,lf⟩:=c.t.d.def_ 11 (d:=bQ) rfl
 obtain⟨fd_l_often,lh⟩:=c.t.d.def_ 12 (d:=cO) rfl
 obtain⟨fd_l_within,lg⟩:=c.t.d.def_ 13 (d:=cB) rfl
 obtain⟨fd_law,lB⟩:=c.t.d.def_ 14 (d:=gh) rfl
 exact⟨{
  z_tuple:=He.free_ok X G (c.t.d.fact 0 (f := .free "tuple") rfl)
  z_all:=He.free_ok X G (c.t.d.fact 1 (f := .free "all") rfl)
  z_len:=He.free_ok X G (c.t.d.fact 2 (f := .free "len") rfl)
  z_int:=He.free_ok X G (c.t.d.fact 3 (f := .free "int") rfl)
  z_range:=He.free_ok X G (c.t.d.fact 4 (f := .free "range") rfl)
  z_list:=He.free_ok X G (c.t.d.fact 5 (f := .free "list") rfl)
  z_isinstance:=He.free_ok X G (c.t.d.fact 6 (f := .free "isinstance") rfl)
  z_bool:=He.free_ok X G (c.t.d.fact 7 (f := .free "bool") rfl)
  f_is_fewer:=He.ga K "_is_fewer"
  fd_is_fewer:=fd_is_fewer
  lm:=lm
  m_is_fewer:=He.glo_ok X G (c.t.d.fact 8 (f := .glo "_is_fewer") rfl)
  f_with_more:=He.ga K "_with_more"
  fd_with_more:=fd_with_more
  lj:=lj
  m_with_more:=He.glo_ok X G (c.t.d.fact 9 (f := .glo "_with_more") rfl)
  f_put:=He.ga K "_put"
  fd_put:=fd_put
  ly:=ly
  m_put:=He.glo_ok X G (c.t.d.fact 10 (f := .glo "_put") rfl)
  f_node_of:=He.ga K "node_of"
  fd_node_of:=fd_node_of
  lr:=lr
  m_node_of:=He.glo_ok X G (c.t.d.fact 11 (f := .glo "node_of") rfl)
  f_lies_within:=He.ga K "lies_within"
  fd_lies_within:=fd_lies_within
  le:=le
  m_lies_within:=He.glo_ok X G (c.t.d.fact 12 (f := .glo "lies_within") rfl)
  f_l_cell:=He.ga K "_law_cell"
  fd_l_cell:=fd_l_cell
  lv:=lv
  m_l_cell:=He.glo_ok X G (c.t.d.fact 13 (f := .glo "_law_cell") rfl)
  f_l_source:=He.ga K "_law_source"
  fd_l_source:=fd_l_source
  lp:=lp
  m_l_source:=He.glo_ok X G (c.t.d.fact 14 (f := .glo "_law_source") rfl)
  f_l_pick:=He.ga K "_law_pick"
  fd_l_pick:=fd_l_pick
  ld:=ld
  m_l_pick:=He.glo_ok X G (c.t.d.fact 15 (f := .glo "_law_pick") rfl)
  f_l_node:=He.ga K "_law_node"
  fd_l_node:=fd_l_node
  lw:=lw
  m_l_node:=He.glo_ok X G (c.t.d.fact 16 (f := .glo "_law_node") rfl)
  f_l_task:=He.ga K "_law_task"
  fd_l_task:=fd_l_task
  lu:=lu
  m_l_task:=He.glo_ok X G (c.t.d.fact 17 (f := .glo "_law_task") rfl)
  f_l_ground:=He.ga K "_law_ground"
  fd_l_ground:=fd_l_ground
  lq:=lq
  m_l_ground:=He.glo_ok X G (c.t.d.fact 18 (f := .glo "_law_ground") rfl)
  f_l_changed:=He.ga K "_law_changed"
  fd_l_changed:=fd_l_changed
  lf:=lf
  m_l_changed:=He.glo_ok X G (c.t.d.fact 19 (f := .glo "_law_changed") rfl)
  f_l_often:=He.ga K "_law_often"
  fd_l_often:=fd_l_often
  lh:=lh
  m_l_often:=He.glo_ok X G (c.t.d.fact 20 (f := .glo "_law_often") rfl)
  f_l_within:=He.ga K "_law_within"
  fd_l_within:=fd_l_within
  lg:=lg
  m_l_within:=He.glo_ok X G (c.t.d.fact 21 (f := .glo "_law_within") rfl)
  f_law:=He.ga K "law"
  fd_law:=fd_law
  lB:=lB
  m_law:=He.glo_ok X G (c.t.d.fact 22 (f := .glo "law") rfl)
 }⟩
local macro_rules | `(tactic| walk_at"k")=>`(tactic| exact⟨rfl,rfl,rfl,by decide+kernel,rfl,by decide+kernel,by decide+kernel⟩)
theorem lK:FnScope ["many","other"] ["many","other"] (defScope aY):=by walk_at"k"
def cR:DS :=
  (D.K (D.Q (D.J (D.I D.Ai (D.E 0) (D.c .non)))
   (D.O (D.c (.bl false)))
   D.Y)
  (D.O (D.orE (D.I D.Ai (D.E 1) (D.c .non)) (D.I D.lt (D.E 0) (D.E 1)))))
abbrev lm:=D.l 2 2 cR
theorem d9{base:Heap}(T:Txt K w mg):FnOk P w K mg base CX0 1 T.f_is_fewer T.fd_is_fewer ["many","other"] (spR K mg lm):=by
 refine T.lm.ok lK (arR rfl) (fun cdv A outer s H vs Q E hr h=>⟨tS ⟨K,mg,false⟩ cR,PSs.nox (xq (xf (ay gi (pt_cmpR op_isN (xv 0) (cg pe_non) (nomark _))) (xr (bJ pe_bl)) xz) (xr (kz (pe_or (ao gi (pe_cmpR op_isN (xv 1) (cg pe_non) (nomark _))) (pe_one (ao kh (pe_cmpR op_lt (xv 0) (xv 1) (nomark _)))))))),?_⟩)
 exact bm (Nm:=["many","other"]) h
theorem eT(T:Txt K w mg):Binds K T.fd_is_fewer ["many","other"] []:=T.lm.bindsN fun _ _ _ _ _ _ us hl=>match us,hl with | [_,_],_=>rfl
theorem lz:FnScope ["tasks","task","more","one","many"] ["tasks","task","more"] (defScope aG):=by walk_at"k"
def bu:DS :=
  (D.O (D.cb D.tuple (D.F (D.Z (D.lc (D.W (D.E 0)) (D.P [3,4]) D.AC (D.U (D.F (D.E 3) (D.F (D.Aa (D.h (D.J (D.I D.AH (D.E 3) (D.E 1))) (D.J (D.I D.Ab (D.E 4) (D.c .non)))) (D.I D.AQ (D.E 4) (D.E 2)) (D.E 4)) D.G))) [3,4])) D.G)))
abbrev lj:=D.l 3 5 bu
theorem dL{base:Heap}(T:Txt K w mg):FnOk P w K mg base CX0 1 T.f_with_more T.fd_with_more ["tasks","task","more"] (spR K mg lj):=by
 refine T.lj.ok lz (arR rfl) (fun cdv A outer s H vs Q E hr h=>⟨tS ⟨K,mg,false⟩ bu,PSs.nox (xr (bI (cJ rfl) (pe_callTy call_tuple_of (by rfl) T.z_tuple (by decide+kernel) (xc (bA (fE (js:=[3,4]) (vs:=[3,4]) (fun _ h=>h) (pe_lc (own:=[ ("one" ,3) ,("many" ,4) ]) rfl lz.nd (bn (bR (pi_list (xv 0)) (pi_tup (xv 0)))) (blkOk_by (own:=[ ("one" ,3) ,("many" ,4) ]) (N:=[ "tasks" ,"task" ,"more" ,"one" ,"many" ]) (sc:=defScope aG) (by decide+kernel)) (fun _ _ _ _ _=>(bo (is:=[3,4]) rfl rfl (pg_tup rfl (pgs_cons (pg_name (i:=3) lz.nd rfl (Or.inl rfl)) (pgs_cons (pg_name (i:=4) lz.nd rfl (Or.inl rfl)) pgs_nil))))) (fun _ _ _ _ _=>cc pts_nil) (fun _ _ _ _ _=>(aq (pe_tup (xc (xv 3) (xc (jY (pe_ifExp (PW.pt (cW (pw_and (ay (fO rfl) (pt_cmpR (cq (K:=K) rfl hr.units) (xv 3) (xv 1) (nomark _))) (pw_and1 (ay gw (pt_cmpR op_notN (xv 4) (cg pe_non) (nomark _))))))) (ao cC (pe_op op_add (xv 4) (xv 2))) (xv 4))) xn)))))))) xn)))),?_⟩)
 exact bm (Nm:=["tasks","task","more","one","many"]) h
theorem dM(T:Txt K w mg):Binds K T.fd_with_more ["tasks","task","more"] []:=T.lj.bindsN fun _ _ _ _ _ _ us hl=>match us,hl with | [_,_,_],_=>rfl
theorem lE:FnScope ["node","task","ground","tasks","one","_"] ["node","task"] (defScope dg):=by walk_at"k"
def hV:DS :=
  (D.K (D.X (D.E 0) (D.P [2,3]))
  (D.K (D.Q (D.J (D.I D.s (D.E 1) (D.Z (D.lc (D.W (D.E 3)) (D.P [4,5]) D.AC (D.E 4) [4,5]))))
   (D.O (D.U (D.F (D.E 2) (D.F (D.U (D.AU (D.E 3) (D.F (D.U (D.F (D.E 1) (D.F (D.c (.int 1)) D.G))) D.G))) D.G))))
   D.Y)
  (D.O (D.U (D.F (D.E 2) (D.F (D.M lj (D.F (D.E 3) (D.F (D.E 1) (D.F (D.c (.int 1)) D.G)))) D.G))))))
abbrev ly:=D.l 2 6 hV
theorem j4{base:Heap}(T:Txt K w mg):FnOk P w K mg base CX0 2 T.f_put T.fd_put ["node","task"] (spR K mg ly):=by
 refine T.ly.ok lE (arR rfl) (fun cdv A outer s H vs Q E hr h=>⟨tS ⟨K,mg,false⟩ hV,PSs.nox (xq (jw (ps_asg (xv 0) (bo (is:=[2,3]) rfl rfl (pg_tup rfl (pgs_cons (pg_name (i:=2) lE.nd rfl (Or.inl rfl)) (pgs_cons (pg_name (i:=3) lE.nd rfl (Or.inl rfl)) pgs_nil)))))) (xq (xf (ay (ff rfl) (pt_cmpR (dj (K:=K) rfl (fQ hr)) (xv 1) (bA (fE (js:=[4,5]) (vs:=[4,5]) (fun _ h=>h) (pe_lc (own:=[ ("one" ,4) ,("_" ,5) ]) rfl lE.nd (bn (bR (pi_list (xv 3)) (pi_tup (xv 3)))) (blkOk_by (own:=[ ("one" ,4) ,("_" ,5) ]) (N:=[ "node" ,"task" ,"ground" ,"tasks" ,"one" ,"_" ]) (sc:=defScope dg) (by decide+kernel)) (fun _ _ _ _ _=>(bo (is:=[4,5]) rfl rfl (pg_tup rfl (pgs_cons (pg_name (i:=4) lE.nd rfl (Or.inl rfl)) (pgs_cons (pg_name (i:=5) lE.nd rfl (Or.inl rfl)) pgs_nil))))) (fun _ _ _ _ _=>cc pts_nil) (fun _ _ _ _ _=>(xv 4))))) (by rfl))) (xr (aq (pe_tup (xc (xv 2) (xc (aq (pe_tup (iL rfl (gf rfl (K:=K) rfl (xv 3) (xc (aq (pe_tup (xc (xv 1) (xc xi xn)))) xn))))) xn))))) xz) (xr (aq (pe_tup (xc (xv 2) (xc (xR (dL T) hr T.m_with_more T.lj.kp (dM T) (xc (xv 3) (xc (xv 1) (xc xi xn)))) xn))))))),?_⟩)
 exact bm (Nm:=["node","task","ground","tasks","one","_"]) h
theorem kw(T:Txt K w mg):Binds K T.fd_put ["node","task"] []:=T.ly.bindsN fun _ _ _ _ _ _ us hl=>match us,hl with | [_,_],_=>rfl
theorem lC:FnScope ["ground","tasks","node","task"] ["ground","tasks"] (defScope bd):=by walk_at"k"
def cf:DS :=
  (D.K (D.X (D.U (D.F (D.E 0) (D.F (D.U D.G) D.G))) (D.H 2))
  (D.K (D.AB (D.W (D.E 1)) (D.H 3)
   (D.X (D.M ly (D.F (D.E 2) (D.F (D.E 3) D.G))) (D.H 2)))
  (D.O (D.E 2))))
abbrev lr:=D.l 2 4 cf
theorem eE{base:Heap}(T:Txt K w mg):FnOk P w K mg base CX0 3 T.f_node_of T.fd_node_of ["ground","tasks"] (spR K mg lr):=by
 refine T.lr.ok lC (arR rfl) (fun cdv A outer s H vs Q E hr h=>⟨tS ⟨K,mg,false⟩ cf,PSs.nox (xq (xS 2 lC.nd (aq (pe_tup (xc (xv 0) (xc (aq (pe_tup xn)) xn))))) (xq (bq (ps_for PassesOwn.never rfl (bn (bR (pi_list (xv 1)) (pi_tup (xv 1)))) (aP (pg_name (i:=3) lC.nd rfl (Or.inl rfl))) (pss_one (xS 2 lC.nd (xR (j4 T) hr T.m_put T.ly.kp (kw T) (xc (xv 2) (xc (xv 3) xn))))))) (xr (xv 2)))),?_⟩)
 exact bm (Nm:=["ground","tasks","node","task"]) h
theorem fX(T:Txt K w mg):Binds K T.fd_node_of ["ground","tasks"] []:=T.lr.bindsN fun _ _ _ _ _ _ us hl=>match us,hl with | [_,_],_=>rfl
theorem li:FnScope ["one","two","most","task","many"] ["one","two"] (defScope au):=by walk_at"k"
def ba:DS :=
  (D.K (D.Q (D.J (D.I D.AG (D.I D.R (D.E 0) (D.c (.int 0))) (D.I D.R (D.E 1) (D.c (.int 0)))))
   (D.O (D.c (.bl false)))
   D.Y)
  (D.K (D.X (D.Ah (D.W (D.I D.R (D.E 1) (D.c (.int 1)))) (D.P [3,4]) (D.E 3) (D.E 4) [3,4]) (D.H 2))
  (D.O (D.cb D.Al (D.F (D.Z (D.lc (D.W (D.I D.R (D.E 0) (D.c (.int 1)))) (D.P [3,4]) D.AC (D.AM (D.I D.AR (D.E 3) (D.E 2)) (D.AW (D.M lm (D.F (D.I D.AT (D.E 2) (D.E 3)) (D.F (D.E 4) D.G))))) [3,4])) D.G)))))
abbrev le:=D.l 2 5 ba
theorem c6{base:Heap}(T:Txt K w mg):FnOk P w K mg base CX0 2 T.f_lies_within T.fd_lies_within ["one","two"] (spR K mg le):=by
 refine T.le.ok li (arR rfl) (fun cdv A outer s H vs Q E hr h=>⟨tS ⟨K,mg,false⟩ ba,PSs.nox (xq (xf (ay (fS rfl) (pt_cmpR (cm (K:=K) rfl hr.units) (xI K (xv 0) xi) (xI K (xv 1) xi) (nomark _))) (xr (bJ pe_bl)) xz) (xq (dC (ps_set (i:=2) li.nd rfl (Or.inr rfl) (j7 (K:=K) (js:=[3,4]) (vs:=[3,4]) rfl rfl (fun _ h=>h) (jz (own:=[ ("task" ,3) ,("many" ,4) ]) (kX hr) rfl li.nd (bn (bR (pi_list (xI K (xv 1) xi)) (pi_tup (xI K (xv 1) xi)))) (blkOk_by (own:=[ ("task" ,3) ,("many" ,4) ]) (N:=[ "one" ,"two" ,"most" ,"task" ,"many" ]) (sc:=defScope au) (by decide+kernel)) (fun _ _ _ _ _=>(bo (is:=[3,4]) rfl rfl (pg_tup rfl (pgs_cons (pg_name (i:=3) li.nd rfl (Or.inl rfl)) (pgs_cons (pg_name (i:=4) li.nd rfl (Or.inl rfl)) pgs_nil))))) (fun _ _ _ _ _=>(xv 3)) (fun _ _ _ _ _=>(xv 4)))))) (xr (bI ki (pe_callB (cr_all rfl) (by rfl) T.z_all (by decide+kernel) (xc (bA (fE (js:=[3,4]) (vs:=[3,4]) (fun _ h=>h) (pe_lc (own:=[ ("task" ,3) ,("many" ,4) ]) rfl li.nd (bn (bR (pi_list (xI K (xv 0) xi)) (pi_tup (xI K (xv 0) xi)))) (blkOk_by (own:=[ ("task" ,3) ,("many" ,4) ]) (N:=[ "one" ,"two" ,"most" ,"task" ,"many" ]) (sc:=defScope au) (by decide+kernel)) (fun _ _ _ _ _=>(bo (is:=[3,4]) rfl rfl (pg_tup rfl (pgs_cons (pg_name (i:=3) li.nd rfl (Or.inl rfl)) (pgs_cons (pg_name (i:=4) li.nd rfl (Or.inl rfl)) pgs_nil))))) (fun _ _ _ _ _=>cc pts_nil) (fun _ _ _ _ _=>(km (pe_and (ao (jW rfl) (pe_cmpR (gH (K:=K) rfl (fQ hr)) (xv 3) (xv 2) (by rfl))) (pe_one (jZ (pe_not (xR (d9 T) hr T.m_is_fewer T.lm.kp (eT T) (xc (ao (kd rfl) (pe_ix (jH (K:=K) rfl (fQ hr)) (xv 2) (xv 3) (fun _ _=>rfl))) (xc (xv 4) xn)))))))))))) xn)))))),?_⟩)
 exact bm (Nm:=["one","two","most","task","many"]) h
theorem da(T:Txt K w mg):Binds K T.fd_lies_within ["one","two"] []:=T.le.bindsN fun _ _ _ _ _ _ us hl=>match us,hl with | [_,_],_=>rfl
theorem lO:FnScope ["script","k"] ["script","k"] (defScope bx):=by walk_at"k"
def ca:DS :=
  (D.K (D.Q (D.J (D.I D.lt (D.E 1) (D.cb D.AJ (D.F (D.E 0) D.G))))
   (D.O (D.I D.R (D.E 0) (D.E 1)))
   D.Y)
  (D.O (D.c (.int 0))))
abbrev lv:=D.l 2 2 ca
theorem fY{base:Heap}(T:Txt K w mg):FnOk P w K mg base CX0 1 T.f_l_cell T.fd_l_cell ["script","k"] (spR K mg lv):=by
 refine T.lv.ok lO (arR rfl) (fun cdv A outer s H vs Q E hr h=>⟨tS ⟨K,mg,false⟩ ca,PSs.nox (xq (xf (ay kh (pt_cmpR op_lt (xv 1) (xl K T.z_len (xc (xv 0) xn)) (nomark _))) (xr (xI K (xv 0) (xv 1))) xz) (xr xi)),?_⟩)
 exact bm (Nm:=["script","k"]) h
theorem gI(T:Txt K w mg):Binds K T.fd_l_cell ["script","k"] []:=T.lv.bindsN fun _ _ _ _ _ _ us hl=>match us,hl with | [_,_],_=>rfl
theorem lL:FnScope ["cell","k"] ["cell","k"] (defScope aV):=by walk_at"k"
def bi:DS :=
  (D.K (D.Q (D.J (D.I D.ge (D.E 0) (D.I D.Ak (D.c (.int 10)) (D.c (.int 18)))))
   (D.O (D.AS (D.F (D.I D.Af (D.E 0) (D.I D.Ak (D.c (.int 10)) (D.c (.int 18)))) (D.F (D.I D.AQ (D.E 1) (D.c (.int 1))) D.G))))
   D.Y)
  (D.O (D.AS (D.F (D.c (.int 0)) (D.F (D.I D.AY (D.cb D.AO (D.F (D.I D.AQ (D.I D.AQ (D.I D.Ad (D.E 0) (D.c (.int 7919))) (D.I D.Ad (D.E 1) (D.c (.int 104729)))) (D.c (.int 1))) D.G)) (D.c (.int 2147483647))) D.G)))))
abbrev lp:=D.AA 2 2 bi
theorem d7{base:Heap}(T:Txt K w mg):FnOk P w K mg base CX0 1 T.f_l_source T.fd_l_source ["cell","k"] (spW K mg lp):=by
 refine T.lp.ok lL (arW rfl) (fun cdv A outer s H vs Q E hr h=>⟨tS ⟨K,mg,true⟩ bi,PSs.nox (xq (xf (ay k4 (pt_cmpR op_ge (xv 0) (ao jk (pe_op op_pow xi xi)) (nomark _))) (xr (dF rfl (pe_lst (xc (ao jd (pe_op op_sub (xv 0) (ao jk (pe_op op_pow xi xi)))) (xc (ao cC (pe_op op_add (xv 1) xi)) xn))))) xz) (xr (dF rfl (pe_lst (xc xi (xc (ao eo (pe_op op_modN (bI cM (pe_callTy call_int1 (by rfl) T.z_int (by decide+kernel) (xc (ao cC (pe_op op_add (ao cC (pe_op op_add (ao fg (pe_op op_mul (xv 0) xi)) (ao fg (pe_op op_mul (xv 1) xi)))) xi)) xn))) xi)) xn)))))),?_⟩)
 exact ci (Nm:=["cell","k"]) h
theorem ew(T:Txt K w mg):Binds K T.fd_l_source ["cell","k"] []:=T.lp.bindsN fun _ _ _ _ _ _ us hl=>match us,hl with | [_,_],_=>rfl
theorem lG:FnScope ["source","many","picked","mixed"] ["source","many"] (defScope bw):=by walk_at"k"
def b7:DS :=
  (D.K (D.Q (D.J (D.I D.gt (D.I D.R (D.E 0) (D.c (.int 0))) (D.c (.int 1))))
   (D.K (D.X (D.I D.AY (D.cb D.AO (D.F (D.I D.R (D.E 0) (D.c (.int 0))) D.G)) (D.E 1)) (D.H 2))
   (D.K (D.AX (D.I D.AE (D.I D.R (D.E 0) (D.c (.int 0))) (D.E 1)) (D.E 0) (D.c (.int 0)))
   (D.O (D.E 2))))
   D.Y)
  (D.K (D.AX (D.I D.AY (D.cb D.AO (D.F (D.I D.AQ (D.I D.Ad (D.I D.R (D.E 0) (D.c (.int 1))) (D.c (.int 48271))) (D.c (.int 12345))) D.G)) (D.c (.int 2147483647))) (D.E 0) (D.c (.int 1)))
  (D.K (D.X (D.I D.AY (D.cb D.AO (D.F (D.I D.AQ (D.I D.AQ (D.I D.Ad (D.I D.R (D.E 0) (D.c (.int 1))) (D.c (.int 69621))) (D.I D.AE (D.I D.R (D.E 0) (D.c (.int 1))) (D.c (.int 127)))) (D.c (.int 7))) D.G)) (D.c (.int 2147483629))) (D.H 3))
  (D.O (D.I D.AY (D.cb D.AO (D.F (D.I D.AE (D.E 3) (D.c (.int 16))) D.G)) (D.E 1))))))
abbrev ld:=D.AA 2 4 b7
theorem aT{base:Heap}(T:Txt K w mg):FnOk P w K mg base CX0 1 T.f_l_pick T.fd_l_pick ["source","many"] (spW K mg ld):=by
 refine T.ld.ok lG (arW rfl) (fun cdv A outer s H vs Q E hr h=>⟨tS ⟨K,mg,true⟩ b7,PSs.nox (xq (xf (ay ko (pt_cmpR op_gt (xI K (xv 0) xi) xi (nomark _))) (xq (xS 2 lG.nd (ao eo (pe_op op_modN (bI cM (pe_callTy call_int1 (by rfl) T.z_int (by decide+kernel) (xc (xI K (xv 0) xi) xn))) (xv 1)))) (xq (e6 rfl (ps_asg (ao ck (pe_op op_fdivN (xI K (xv 0) xi) (xv 1))) (pg_sub (xv 0) xi set_list))) (xr (xv 2)))) xz) (xq (e6 rfl (ps_asg (ao eo (pe_op op_modN (bI cM (pe_callTy call_int1 (by rfl) T.z_int (by decide+kernel) (xc (ao cC (pe_op op_add (ao fg (pe_op op_mul (xI K (xv 0) xi) xi)) xi)) xn))) xi)) (pg_sub (xv 0) xi set_list))) (xq (xS 3 lG.nd (ao eo (pe_op op_modN (bI cM (pe_callTy call_int1 (by rfl) T.z_int (by decide+kernel) (xc (ao cC (pe_op op_add (ao cC (pe_op op_add (ao fg (pe_op op_mul (xI K (xv 0) xi) xi)) (ao ck (pe_op op_fdivN (xI K (xv 0) xi) xi)))) xi)) xn))) xi))) (xr (ao eo (pe_op op_modN (bI cM (pe_callTy call_int1 (by rfl) T.z_int (by decide+kernel) (xc (ao ck (pe_op op_fdivN (xv 3) xi)) xn))) (xv 1))))))),?_⟩)
 exact ci (Nm:=["source","many","picked","mixed"]) h
theorem bc(T:Txt K w mg):Binds K T.fd_l_pick ["source","many"] []:=T.ld.bindsN fun _ _ _ _ _ _ us hl=>match us,hl with | [_,_],_=>rfl
theorem lD:FnScope ["ground","tasks","found","task","many"] ["ground","tasks"] (defScope bC):=by walk_at"k"
def c9:DS :=
  (D.K (D.AL 2 (D.AP D.G))
  (D.K (D.AB (D.W (D.E 1)) (D.H 3)
   (D.K (D.X (D.Ac (D.E 1) (D.E 3)) (D.H 4))
   (D.Q (D.J (D.I D.s (D.U (D.F (D.E 3) (D.F (D.E 4) D.G))) (D.E 2)))
    (D.AD 2 (D.U (D.F (D.E 3) (D.F (D.E 4) D.G))))
    D.Y)))
  (D.O (D.U (D.F (D.E 0) (D.F (D.cb D.tuple (D.F (D.E 2) D.G)) D.G))))))
abbrev lw:=D.l 2 5 c9
theorem fT{base:Heap}(T:Txt K w mg):FnOk P w K mg base CX0 1 T.f_l_node T.fd_l_node ["ground","tasks"] (spR K mg lw):=by
 refine T.lw.ok lD (arR rfl) (fun cdv A outer s H vs Q E hr h=>⟨tS ⟨K,mg,false⟩ c9,PSs.nox (xq (cG (ps_set (i:=2) lD.nd rfl (Or.inl rfl) (cI (pe_lst xn)))) (xq (bq (ps_for PassesOwn.never rfl (bn (bR (pi_list (xv 1)) (pi_tup (xv 1)))) (aP (pg_name (i:=3) lD.nd rfl (Or.inl rfl))) (xq (xS 4 lD.nd (jD (K:=K) rfl (pe_bm PySem.F.plainAttrs_list PySem.F.slot_list_count PySem.F.type_list_count (iM (fQ hr)) (xv 1) (pa_cons (xv 3) pa_nil)))) (pss_one (xf (ay (ff rfl) (pt_cmpR (dj (K:=K) rfl (fQ hr)) (aq (pe_tup (xc (xv 3) (xc (xv 4) xn)))) (xv 2) (by rfl))) (pss_one (cp (ps_expr (pe_bm PySem.F.plainAttrs_list PySem.F.slot_list_append PySem.F.type_list_append mt_append (pv 2) (pa_cons (aq (pe_tup (xc (xv 3) (xc (xv 4) xn)))) pa_nil))))) xz))))) (xr (aq (pe_tup (xc (xv 0) (xc (bI (cJ rfl) (pe_callTy call_tuple_of (by rfl) T.z_tuple (by decide+kernel) (xc (xv 2) xn))) xn))))))),?_⟩)
 exact bm (Nm:=["ground","tasks","found","task","many"]) h
theorem gT(T:Txt K w mg):Binds K T.fd_l_node ["ground","tasks"] []:=T.lw.bindsN fun _ _ _ _ _ _ us hl=>match us,hl with | [_,_],_=>rfl
theorem lJ:FnScope ["source","k"] ["source"] (defScope bp):=by walk_at"k"
def cZ:DS :=
  (D.K (D.X (D.N ld (D.F (D.E 0) (D.F (D.c (.int 5)) D.G))) (D.H 1))
  (D.O (D.U (D.F (D.I D.AE (D.E 1) (D.c (.int 2))) (D.F (D.Aj (D.U (D.F (D.U (D.F (D.E 1) (D.F (D.c (.int 0)) D.G))) D.G)) (D.I D.AE (D.E 1) (D.c (.int 3)))) (D.F (D.I D.R (D.Z (D.AP (D.F (D.c (.int 0)) (D.F (D.c (.int 1)) (D.F (D.c (.int 0)) (D.F (D.c (.int 2)) (D.F (D.c (.int 0)) D.G))))))) (D.E 1)) D.G))))))
abbrev lu:=D.AA 1 2 cZ
theorem fM{base:Heap}(T:Txt K w mg):FnOk P w K mg base CX0 2 T.f_l_task T.fd_l_task ["source"] (spW K mg lu):=by
 refine T.lu.ok lJ (arW rfl) (fun cdv A outer s H vs Q E hr h=>⟨tS ⟨K,mg,true⟩ cZ,PSs.nox (xq (xS 1 lJ.nd (xW (aT T) hr T.m_l_pick T.ld.kp (bc T) (xc (xv 0) (xc xi xn)))) (xr (aq (pe_tup (xc (ao ck (pe_op op_fdivN (xv 1) xi)) (xc (i6 (K:=K) rfl (pe_op iI (aq (pe_tup (xc (aq (pe_tup (xc (xv 1) (xc xi xn)))) xn))) (ao ck (pe_op op_fdivN (xv 1) xi)))) (xc (xI K (bA (cI (pe_lst (xc xi (xc xi (xc xi (xc xi (xc xi xn)))))))) (xv 1)) xn))))))),?_⟩)
 exact ci (Nm:=["source","k"]) h
theorem ib(T:Txt K w mg):Binds K T.fd_l_task ["source"] []:=T.lu.bindsN fun _ _ _ _ _ _ us hl=>match us,hl with | [_],_=>rfl
theorem lM:FnScope ["source"] ["source"] (defScope aW):=by walk_at"k"
def bN:DS :=
  (D.O (D.U (D.F (D.U (D.F (D.U (D.F (D.c (.int 0)) (D.F (D.c (.int 0)) D.G))) D.G)) (D.F (D.I D.AE (D.N ld (D.F (D.E 0) (D.F (D.c (.int 3)) D.G))) (D.c (.int 2))) (D.F (D.U (D.F (D.U (D.F (D.c (.int 0)) (D.F (D.N ld (D.F (D.E 0) (D.F (D.c (.int 2)) D.G))) D.G))) D.G)) D.G)))))
abbrev lq:=D.AA 1 1 bN
theorem dV{base:Heap}(T:Txt K w mg):FnOk P w K mg base CX0 2 T.f_l_ground T.fd_l_ground ["source"] (spW K mg lq):=by
 refine T.lq.ok lM (arW rfl) (fun cdv A outer s H vs Q E hr h=>⟨tS ⟨K,mg,true⟩ bN,PSs.nox (xr (aq (pe_tup (xc (aq (pe_tup (xc (aq (pe_tup (xc xi (xc xi xn)))) xn))) (xc (ao ck (pe_op op_fdivN (xW (aT T) hr T.m_l_pick T.ld.kp (bc T) (xc (xv 0) (xc xi xn))) xi)) (xc (aq (pe_tup (xc (aq (pe_tup (xc xi (xc (xW (aT T) hr T.m_l_pick T.ld.kp (bc T) (xc (xv 0) (xc xi xn))) xn)))) xn))) xn)))))),?_⟩)
 exact ci (Nm:=["source"]) h
theorem eI(T:Txt K w mg):Binds K T.fd_l_ground ["source"] []:=T.lq.bindsN fun _ _ _ _ _ _ us hl=>match us,hl with | [_],_=>rfl
theorem lx:FnScope ["source","node","pairs","task","many","which"] ["source","node"] (defScope aN):=by walk_at"k"
def a9:DS :=
  (D.K (D.AL 2 (D.AP D.G))
  (D.K (D.AB (D.W (D.I D.R (D.E 1) (D.c (.int 1)))) (D.P [3,4])
   (D.K (D.X (D.N ld (D.F (D.E 0) (D.F (D.c (.int 6)) D.G))) (D.H 5))
   (D.Q (D.J (D.I D.AH (D.E 5) (D.c (.int 0))))
    (D.AD 2 (D.U (D.F (D.E 3) (D.F (D.c .non) D.G))))
    (D.Q (D.J (D.I D.AH (D.E 5) (D.c (.int 1))))
     (D.AD 2 (D.U (D.F (D.E 3) (D.F (D.I D.AQ (D.E 4) (D.c (.int 1))) D.G))))
     (D.Q (D.h (D.J (D.I D.AH (D.E 5) (D.c (.int 2)))) (D.J (D.I D.gt (D.E 4) (D.c (.int 1)))))
      (D.AD 2 (D.U (D.F (D.E 3) (D.F (D.I D.Af (D.E 4) (D.c (.int 1))) D.G))))
      (D.Q (D.J (D.I D.lt (D.E 5) (D.c (.int 5))))
       (D.AD 2 (D.U (D.F (D.E 3) (D.F (D.E 4) D.G))))
       D.Y))))))
  (D.K (D.Q (D.J (D.I D.AH (D.N ld (D.F (D.E 0) (D.F (D.c (.int 2)) D.G))) (D.c (.int 0))))
   (D.AL 2 (D.unN D.revL (D.E 2)))
   D.Y)
  (D.O (D.U (D.F (D.I D.R (D.E 1) (D.c (.int 0))) (D.F (D.cb D.tuple (D.F (D.E 2) D.G)) D.G)))))))
abbrev lf:=D.AA 2 6 a9
theorem dI{base:Heap}(T:Txt K w mg):FnOk P w K mg base CX0 2 T.f_l_changed T.fd_l_changed ["source","node"] (spW K mg lf):=by
 refine T.lf.ok lx (arW rfl) (fun cdv A outer s H vs Q E hr h=>⟨tS ⟨K,mg,true⟩ a9,PSs.nox (xq (cG (ps_set (i:=2) lx.nd rfl (Or.inl rfl) (cI (pe_lst xn)))) (xq (bq (ps_for PassesOwn.never rfl (bn (bR (pi_list (xI K (xv 1) xi)) (pi_tup (xI K (xv 1) xi)))) (bo (is:=[3,4]) rfl rfl (pg_tup rfl (pgs_cons (pg_name (i:=3) lx.nd rfl (Or.inl rfl)) (pgs_cons (pg_name (i:=4) lx.nd rfl (Or.inl rfl)) pgs_nil)))) (xq (xS 5 lx.nd (xW (aT T) hr T.m_l_pick T.ld.kp (bc T) (xc (xv 0) (xc xi xn)))) (pss_one (xf (ay (fO rfl) (pt_cmpR (cq (K:=K) rfl hr.units) (xv 5) xi (nomark _))) (pss_one (cp (ps_expr (pe_bm PySem.F.plainAttrs_list PySem.F.slot_list_append PySem.F.type_list_append mt_append (pv 2) (pa_cons (aq (pe_tup (xc (xv 3) (xc (cg pe_non) xn)))) pa_nil))))) (pss_one (xf (ay (fO rfl) (pt_cmpR (cq (K:=K) rfl hr.units) (xv 5) xi (nomark _))) (pss_one (cp (ps_expr (pe_bm PySem.F.plainAttrs_list PySem.F.slot_list_append PySem.F.type_list_append mt_append (pv 2) (pa_cons (aq (pe_tup (xc (xv 3) (xc (ao cC (pe_op op_add (xv 4) xi)) xn)))) pa_nil))))) (pss_one (xf (PW.pt (cW (pw_and (ay (fO rfl) (pt_cmpR (cq (K:=K) rfl hr.units) (xv 5) xi (nomark _))) (pw_and1 (ay ko (pt_cmpR op_gt (xv 4) xi (nomark _))))))) (pss_one (cp (ps_expr (pe_bm PySem.F.plainAttrs_list PySem.F.slot_list_append PySem.F.type_list_append mt_append (pv 2) (pa_cons (aq (pe_tup (xc (xv 3) (xc (ao jd (pe_op op_sub (xv 4) xi)) xn)))) pa_nil))))) (pss_one (xf (ay kh (pt_cmpR op_lt (xv 5) xi (nomark _))) (pss_one (cp (ps_expr (pe_bm PySem.F.plainAttrs_list PySem.F.slot_list_append PySem.F.type_list_append mt_append (pv 2) (pa_cons (aq (pe_tup (xc (xv 3) (xc (xv 4) xn)))) pa_nil))))) xz))))))))))) (xq (xf (ay (fO rfl) (pt_cmpR (cq (K:=K) rfl hr.units) (xW (aT T) hr T.m_l_pick T.ld.kp (bc T) (xc (xv 0) (xc xi xn))) xi (nomark _))) (pss_one (cG (ps_set (i:=2) lx.nd rfl (Or.inl rfl) (iY rfl (pe_revL (xv 2)))))) xz) (xr (aq (pe_tup (xc (xI K (xv 1) xi) (xc (bI (cJ rfl) (pe_callTy call_tuple_of (by rfl) T.z_tuple (by decide+kernel) (xc (xv 2) xn))) xn)))))))),?_⟩)
 exact ci (Nm:=["source","node","pairs","task","many","which"]) h
theorem eu(T:Txt K w mg):Binds K T.fd_l_changed ["source","node"] []:=T.lf.bindsN fun _ _ _ _ _ _ us hl=>match us,hl with | [_,_],_=>rfl
theorem lF:FnScope ["pairs","task","one","many"] ["pairs","task"] (defScope bg):=by walk_at"k"
def bF:DS :=
  (D.K (D.AB (D.W (D.E 0)) (D.P [2,3])
   (D.Q (D.J (D.I D.AH (D.E 2) (D.E 1)))
    (D.O (D.E 3))
    D.Y))
  (D.O (D.c (.int 0))))
abbrev lh:=D.l 2 4 bF
theorem eA{base:Heap}(T:Txt K w mg):FnOk P w K mg base CX0 1 T.f_l_often T.fd_l_often ["pairs","task"] (spR K mg lh):=by
 refine T.lh.ok lF (arR rfl) (fun cdv A outer s H vs Q E hr h=>⟨tS ⟨K,mg,false⟩ bF,PSs.nox (xq (bq (ps_for PassesOwn.never rfl (bn (bR (pi_list (xv 0)) (pi_tup (xv 0)))) (bo (is:=[2,3]) rfl rfl (pg_tup rfl (pgs_cons (pg_name (i:=2) lF.nd rfl (Or.inl rfl)) (pgs_cons (pg_name (i:=3) lF.nd rfl (Or.inl rfl)) pgs_nil)))) (pss_one (xf (ay (fO rfl) (pt_cmpR (cq (K:=K) rfl hr.units) (xv 2) (xv 1) (nomark _))) (xr (xv 3)) xz)))) (xr xi)),?_⟩)
 exact bm (Nm:=["pairs","task","one","many"]) h
theorem fL(T:Txt K w mg):Binds K T.fd_l_often ["pairs","task"] []:=T.lh.bindsN fun _ _ _ _ _ _ us hl=>match us,hl with | [_,_],_=>rfl
theorem lA:FnScope ["one","two","task","many","other"] ["one","two"] (defScope a5):=by walk_at"k"
def aZ:DS :=
  (D.K (D.Q (D.J (D.I D.AG (D.I D.R (D.E 0) (D.c (.int 0))) (D.I D.R (D.E 1) (D.c (.int 0)))))
   (D.O (D.c (.bl false)))
   D.Y)
  (D.K (D.AB (D.W (D.I D.R (D.E 0) (D.c (.int 1)))) (D.P [2,3])
   (D.K (D.X (D.M lh (D.F (D.I D.R (D.E 1) (D.c (.int 1))) (D.F (D.E 2) D.G))) (D.H 4))
   (D.Q (D.h (D.J (D.I D.Ab (D.E 4) (D.c .non))) (D.AI (D.J (D.I D.Ai (D.E 3) (D.c .non))) (D.J (D.I D.gt (D.E 3) (D.E 4)))))
    (D.O (D.c (.bl false)))
    D.Y)))
  (D.O (D.c (.bl true)))))
abbrev lg:=D.l 2 5 aZ
theorem er{base:Heap}(T:Txt K w mg):FnOk P w K mg base CX0 2 T.f_l_within T.fd_l_within ["one","two"] (spR K mg lg):=by
 refine T.lg.ok lA (arR rfl) (fun cdv A outer s H vs Q E hr h=>⟨tS ⟨K,mg,false⟩ aZ,PSs.nox (xq (xf (ay (fS rfl) (pt_cmpR (cm (K:=K) rfl hr.units) (xI K (xv 0) xi) (xI K (xv 1) xi) (nomark _))) (xr (bJ pe_bl)) xz) (xq (bq (ps_for PassesOwn.never rfl (bn (bR (pi_list (xI K (xv 0) xi)) (pi_tup (xI K (xv 0) xi)))) (bo (is:=[2,3]) rfl rfl (pg_tup rfl (pgs_cons (pg_name (i:=2) lA.nd rfl (Or.inl rfl)) (pgs_cons (pg_name (i:=3) lA.nd rfl (Or.inl rfl)) pgs_nil)))) (xq (xS 4 lA.nd (xR (eA T) hr T.m_l_often T.lh.kp (fL T) (xc (xI K (xv 1) xi) (xc (xv 2) xn)))) (pss_one (xf (PW.pt (cW (pw_and (ay gw (pt_cmpR op_notN (xv 4) (cg pe_non) (nomark _))) (pw_and1 (PW.pt (eZ (pw_or (ay gi (pt_cmpR op_isN (xv 3) (cg pe_non) (nomark _))) (pw_or1 (ay ko (pt_cmpR op_gt (xv 3) (xv 4) (nomark _))))))))))) (xr (bJ pe_bl)) xz))))) (xr (bJ pe_bl)))),?_⟩)
 exact bm (Nm:=["one","two","task","many","other"]) h
theorem eO(T:Txt K w mg):Binds K T.fd_l_within ["one","two"] []:=T.lg.bindsN fun _ _ _ _ _ _ us hl=>match us,hl with | [_,_],_=>rfl
theorem ls:FnScope ["script","nodes","k","source","ground","tasks","kept","told","rows","one","j","two","i"] ["script"] (defScope cy):=by walk_at"k"
def g8:DS :=
  (D.K (D.X (D.AS D.G) (D.H 1))
  (D.K (D.AB (D.AF (D.F (D.c (.int 7)) D.G)) (D.H 2)
   (D.K (D.X (D.N lp (D.F (D.M lv (D.F (D.E 0) (D.F (D.E 2) D.G))) (D.F (D.E 2) D.G))) (D.H 3))
   (D.K (D.X (D.N lq (D.F (D.E 3) D.G)) (D.H 4))
   (D.K (D.X (D.Z (D.lc (D.AF (D.F (D.N ld (D.F (D.E 3) (D.F (D.c (.int 10)) D.G))) D.G)) (D.H 10) D.AC (D.N lu (D.F (D.E 3) D.G)) [10])) (D.H 5))
   (D.K (D.X (D.Z (D.Ag D.list (D.F (D.E 5) D.G))) (D.H 6))
   (D.K (D.X (D.M lr (D.F (D.E 4) (D.F (D.E 5) D.G))) (D.H 7))
   (D.K (D.Q (D.AI (D.w (D.J (D.un (D.Ae "tuple") (D.E 7)))) (D.AI (D.J (D.I D.AG (D.E 7) (D.M lw (D.F (D.E 4) (D.F (D.E 5) D.G))))) (D.J (D.I D.AG (D.E 5) (D.E 6)))))
    (D.O (D.c (.bl false)))
    D.Y)
   (D.K (D.AK (D.AN (D.E 1) (D.E 7)))
   (D.AK (D.AN (D.E 1) (D.N lf (D.F (D.E 3) (D.F (D.E 7) D.G)))))))))))))
  (D.K (D.AL 8 (D.AP D.G))
  (D.K (D.AV (D.E 1) (D.H 9)
   (D.AD 8 (D.Z (D.AZ (D.E 1) (D.H 11) D.AC (D.M le (D.F (D.E 9) (D.F (D.E 11) D.G))) [11]))))
  (D.K (D.AB (D.AF (D.F (D.cb D.AJ (D.F (D.E 1) D.G)) D.G)) (D.H 2)
   (D.K (D.AB (D.AF (D.F (D.cb D.AJ (D.F (D.E 1) D.G)) D.G)) (D.H 10)
    (D.K (D.Q (D.AI (D.w (D.J (D.un (D.Ae "bool") (D.I D.R (D.I D.R (D.E 8) (D.E 2)) (D.E 10))))) (D.J (D.I D.AG (D.I D.R (D.I D.R (D.E 8) (D.E 2)) (D.E 10)) (D.M lg (D.F (D.I D.R (D.E 1) (D.E 2)) (D.F (D.I D.R (D.E 1) (D.E 10)) D.G))))))
     (D.O (D.c (.bl false)))
     D.Y)
    (D.Q (D.h (D.J (D.I D.R (D.I D.R (D.E 8) (D.E 2)) (D.E 10))) (D.J (D.I D.AG (D.Z (D.lc (D.AF (D.F (D.cb D.AJ (D.F (D.E 1) D.G)) D.G)) (D.H 12) (D.h (D.J (D.I D.R (D.I D.R (D.E 8) (D.E 10)) (D.E 12))) (D.w (D.J (D.I D.R (D.I D.R (D.E 8) (D.E 2)) (D.E 12))))) (D.E 12) [12])) (D.Z (D.AP D.G)))))
     (D.O (D.c (.bl false)))
     D.Y)))
   (D.Q (D.w (D.J (D.I D.R (D.I D.R (D.E 8) (D.E 2)) (D.E 2))))
    (D.O (D.c (.bl false)))
    D.Y)))
  (D.O (D.c (.bl true))))))))
abbrev lB:=D.AA 1 13 g8
theorem ju{base:Heap}(T:Txt K w mg):FnOk P w K mg base CX0 4 T.f_law T.fd_law ["script"] (spW K mg lB):=by
 refine T.lB.ok ls (arW rfl) (fun cdv A outer s H vs Q E hr h=>⟨tS ⟨K,mg,true⟩ g8,PSs.nox (xq (xS 1 ls.nd (dF rfl (pe_lst xn))) (xq (bq (ps_for PassesOwn.never rfl (b8 (pi_range1 (by rfl) T.z_range (xc xi xn))) (aP (pg_name (i:=2) ls.nd rfl (Or.inr rfl))) (xq (dC (ps_set (i:=3) ls.nd rfl (Or.inr rfl) (xW (d7 T) hr T.m_l_source T.lp.kp (ew T) (xc (xR (fY T) hr T.m_l_cell T.lv.kp (gI T) (xc (xv 0) (xc (xv 2) xn))) (xc (xv 2) xn))))) (xq (xS 4 ls.nd (xW (dV T) hr T.m_l_ground T.lq.kp (eI T) (xc (xv 3) xn))) (xq (iE (jC (js:=[10]) (vs:=[10]) (fun _ h=>h)) (ps_setLc (i:=5) (own:=[ ("j" ,10) ]) rfl ls.nd rfl rfl (sw_true rfl rfl rfl (by decide+kernel)) (b8 (pi_range1 (by rfl) T.z_range (xc (xW (aT T) hr T.m_l_pick T.ld.kp (bc T) (xc (xv 3) (xc xi xn))) xn))) (blkOk_by (own:=[ ("j" ,10) ]) (N:=[ "script" ,"nodes" ,"k" ,"source" ,"ground" ,"tasks" ,"kept" ,"told" ,"rows" ,"one" ,"j" ,"two" ,"i" ]) (sc:=defScope cy) (by decide+kernel)) (fun _ _ _ _ _=>(aP (pg_name (i:=10) ls.nd rfl (Or.inl rfl)))) (fun _ _ _ _ _=>cc pts_nil) (fun _ _ _ _ _=>(xW (fM T) hr T.m_l_task T.lu.kp (ib T) (xc (xv 3) xn))))) (xq (xS 6 ls.nd (bA (j5 (iW rfl) (pe_callTy (iz (K:=K) rfl rfl) (by rfl) T.z_list (by decide+kernel) (xc (xv 5) xn))))) (xq (xS 7 ls.nd (xR (eE T) hr T.m_node_of T.lr.kp (fX T) (xc (xv 4) (xc (xv 5) xn)))) (xq (xf (PW.pt (eZ (pw_or (dH (pt_not (cu (pt_val (gb (T := "tuple") rfl (pe_callB call_isi (by rfl) T.z_isinstance (by decide+kernel) (pa_cons (xv 7) (pa_cons (pe_bltn (v := .ty "tuple") (by rfl) T.z_tuple (by decide+kernel) rfl) pa_nil)))))))) (eZ (pw_or (ay (fS rfl) (pt_cmpR (cm (K:=K) rfl hr.units) (xv 7) (xR (fT T) hr T.m_l_node T.lw.kp (gT T) (xc (xv 4) (xc (xv 5) xn))) (nomark _))) (pw_or1 (ay (fS rfl) (pt_cmpR (cm (K:=K) rfl hr.units) (xv 5) (xv 6) (nomark _))))))))) (xr (bJ pe_bl)) xz) (xq (e9 (ps_expr (fj rfl (pe_bm PySem.F.plainAttrs_list PySem.F.slot_list_append PySem.F.type_list_append mt_append (xv 1) (pa_cons (xv 7) pa_nil))))) (pss_one (e9 (ps_expr (fj rfl (pe_bm PySem.F.plainAttrs_list PySem.F.slot_list_append PySem.F.type_list_append mt_append (xv 1) (pa_cons (xW (dI T) hr T.m_l_changed T.lf.kp (eu T) (xc (xv 3) (xc (xv 7) xn))) pa_nil))))))))))))))) (xq (cG (ps_set (i:=8) ls.nd rfl (Or.inr rfl) (cI (pe_lst xn)))) (xq (i8 (ps_for PassesOwn.never rfl (pi_list (xv 1)) (aP (pg_name (i:=9) ls.nd rfl (Or.inr rfl))) (pss_one (cp (ps_expr (pe_bm PySem.F.plainAttrs_list PySem.F.slot_list_append PySem.F.type_list_append mt_append (pv 8) (pa_cons (bA (kf (js:=[11]) (vs:=[11]) (fun _ h=>h) (pe_lc (own:=[ ("two" ,11) ]) rfl ls.nd (pi_list (xv 1)) (blkOk_by (own:=[ ("two" ,11) ]) (N:=[ "script" ,"nodes" ,"k" ,"source" ,"ground" ,"tasks" ,"kept" ,"told" ,"rows" ,"one" ,"j" ,"two" ,"i" ]) (sc:=defScope cy) (by decide+kernel)) (fun _ _ _ _ _=>(aP (pg_name (i:=11) ls.nd rfl (Or.inl rfl)))) (fun _ _ _ _ _=>cc pts_nil) (fun _ _ _ _ _=>(xR (c6 T) hr T.m_lies_within T.le.kp (da T) (xc (xv 9) (xc (xv 11) xn))))))) pa_nil))))))) (xq (bq (ps_for PassesOwn.never rfl (b8 (pi_range1 (by rfl) T.z_range (xc (xl K T.z_len (xc (xv 1) xn)) xn))) (aP (pg_name (i:=2) ls.nd rfl (Or.inr rfl))) (xq (bq (ps_for PassesOwn.never rfl (b8 (pi_range1 (by rfl) T.z_range (xc (xl K T.z_len (xc (xv 1) xn)) xn))) (aP (pg_name (i:=10) ls.nd rfl (Or.inr rfl))) (xq (xf (PW.pt (eZ (pw_or (dH (pt_not (cu (pt_val (gb (T := "bool") rfl (pe_callB call_isi (by rfl) T.z_isinstance (by decide+kernel) (pa_cons (xI K (xI K (xv 8) (xv 2)) (xv 10)) (pa_cons (pe_bltn (v := .ty "bool") (by rfl) T.z_bool (by decide+kernel) rfl) pa_nil)))))))) (pw_or1 (ay (fS rfl) (pt_cmpR (cm (K:=K) rfl hr.units) (xI K (xI K (xv 8) (xv 2)) (xv 10)) (xR (er T) hr T.m_l_within T.lg.kp (eO T) (xc (xI K (xv 1) (xv 2)) (xc (xI K (xv 1) (xv 10)) xn))) (nomark _))))))) (xr (bJ pe_bl)) xz) (pss_one (xf (PW.pt (cW (pw_and (cu (pt_val (xI K (xI K (xv 8) (xv 2)) (xv 10)))) (pw_and1 (ay (fS rfl) (pt_cmpR (cm (K:=K) rfl hr.units) (bA (fE (js:=[12]) (vs:=[12]) (fun _ h=>h) (pe_lc (own:=[ ("i" ,12) ]) rfl ls.nd (b8 (pi_range1 (by rfl) T.z_range (xc (xl K T.z_len (xc (xv 1) xn)) xn))) (blkOk_by (own:=[ ("i" ,12) ]) (N:=[ "script" ,"nodes" ,"k" ,"source" ,"ground" ,"tasks" ,"kept" ,"told" ,"rows" ,"one" ,"j" ,"two" ,"i" ]) (sc:=defScope cy) (by decide+kernel)) (fun _ _ _ _ _=>(aP (pg_name (i:=12) ls.nd rfl (Or.inl rfl)))) (fun _ _ _ _ _=>pts_one (PW.pt (cW (pw_and (cu (pt_val (xI K (xI K (xv 8) (xv 10)) (xv 12)))) (pw_and1 (dH (pt_not (cu (pt_val (xI K (xI K (xv 8) (xv 2)) (xv 12))))))))))) (fun _ _ _ _ _=>(xv 12))))) (bA (cI (pe_lst xn))) (nomark _))))))) (xr (bJ pe_bl)) xz))))) (pss_one (xf (dH (pt_not (cu (pt_val (xI K (xI K (xv 8) (xv 2)) (xv 2)))))) (xr (bJ pe_bl)) xz))))) (xr (bJ pe_bl))))))),?_⟩)
 exact ci (Nm:=["script","nodes","k","source","ground","tasks","kept","told","rows","one","j","two","i"]) h
def spLaw (K:PySem.W.Frag):Sp:=fun vs H Q _=>∃(a:Addr) (ns:List Int),vs=[.ref a]/\SqL K H a (ns.map V.int)/\ns.length<=63/\∀ H',Q (.bl true) H'
theorem fJ{G:Gm}{M:Addr->Prop}{H:Hp}:∀ ns:List Int,RpAll G M H (ns.map V.int) (ns.map Da.int)
 |[] => .nil
 |n::r => .cons (.int n) (fJ r)
theorem ok_law_all{base:Heap}(T:Txt K w mg) (hlaw:∀ ns:List Int,ns.length<=63->∃ S',lB [] [.fls (ns.map .int)]=some (S',.bl true)):FnOk P w K mg base CX0 4 T.f_law T.fd_law ["script"] (spLaw K):=(ju T).imp fun vs H Q E ⟨a,ns,e,hS,hl,k⟩=>by
 subst e
 obtain⟨S',hd⟩:=hlaw ns hl
 refine⟨⟨K,mg,[]⟩,fun _=>False,[],[.fls (ns.map .int)],S',.bl true,rfl,rfl,⟨rfl,List.nodup_nil,fun b h=>(nomatch h),fun b h=>h.elim,fun k b c h=>by simp at h⟩,fun b h=>(nomatch h),.cons (.fls (hS.imp (fun h=>⟨id,h⟩) id) (fJ ns)) .nil,hd,fun v H' X _ _ _ _ r=>?_⟩
 cases r
 exact k H'
end
open TL (tl)
section
variable {S S1 S2 S3:Sto}{L L1:Loc}{δ δ1:ai}{A B C:DE}{N M:DN}{t u:DT}{X Y:DA}{P Q:DS}{x y z:Ev}{d d1 d2 d3:Da}{b b1:Bool}{o:Out}{i:Nat}
theorem kc{k:Nat}{c:Cell}(h:S[k]?=some c):rdE S L (.val (.ref k))=some (c7 c):=by
 show S[k]?.map c7=_
 rw[h]
 rfl
theorem eX{k:Nat}{c:Cell}(h:S[k]?=some c) (e:c7 c=d):rdE S L (.val (.ref k))=some d:=by
 rw[<- e]
 exact kc h
theorem gj{k:Nat}{c:Cell}(h:S[k]?=some c) (e:c7 c=d):rdD S (.ref k)=some d:=eX (L:=[]) h e
theorem aa(h:δ[i]?=some (some x)):D.E i S L δ=some (S,x):=by
 unfold D.E
 rw[h]
theorem ah:D.c d S L δ=some (S,.val d):=rfl
theorem ad{f:Da->Da->Option Da}(h1:A S L δ=some (S1,x)) (h2:B S1 L δ=some (S2,y)) (h3:rdE S2 L x=some d1) (h4:rdE S2 L y=some d2) (h5:f d1 d2=some d):D.I f A B S L δ=some (S2,.val d):=by
 simp only[D.I,h1,h2,h3,h4,h5,Option.bind_some,Option.map_some]
theorem gK{f:Da->Option Da}(h1:A S L δ=some (S1,x)) (h3:rdE S1 L x=some d1) (h5:f d1=some d):D.un f A S L δ=some (S1,.val d):=by
 simp only[D.un,h1,h3,h5,Option.bind_some,Option.map_some]
theorem ae:D.G S L δ=some (S,[]):=rfl
theorem ab{es:List Ev}(h1:A S L δ=some (S1,x)) (h2:X S1 L δ=some (S2,es)):D.F A X S L δ=some (S2,x::es):=by
 simp only[D.F,h1,h2,Option.bind_some,Option.map_some]
theorem gC{es:List Ev}{ds:List Da}(h1:A S L δ=some (S1,x)) (h3:rdE S1 L x=some d1) (h4:D.itemsD d1=some ds) (h2:X S1 L δ=some (S2,es)):D.AU A X S L δ=some (S2,ds.map Ev.val++es):=by
 simp only[D.AU,h1,h2,h3,h4,Option.bind_some,Option.map_some]
theorem bj{ds:List Da}(h1:N S L δ=some (S1,ds)):D.Z N S L δ=some (S1,.val (.lst ds)):=by
 simp only[D.Z,h1,Option.map_some]
theorem aw{es:List Ev}{ds:List Da}(h1:X S L δ=some (S1,es)) (h2:D.vals es=some ds) (h3:es.length<=1000):D.U X S L δ=some (S1,.val (.tup ds)):=by
 simp only[D.U,h1,h2,h3,Option.bind_some,Option.map_some,if_true]
theorem cw{es:List Ev}{ds:List Da}(h1:X S L δ=some (S1,es)) (h2:D.vals es=some ds) (h3:es.length<=1000):D.AP X S L δ=some (S1,ds):=by
 simp only[D.AP,h1,h2,h3,Option.bind_some,Option.map_some,if_true]
theorem dJ{es:List Ev}{ds:List Da}(h1:X S L δ=some (S1,es)) (h2:D.vals es=some ds) (h3:es.length<=1000):D.AS X S L δ=some (S1++[.lst ds],.val (.ref S1.length)):=by
 simp only[D.AS,h1,h2,h3,Option.bind_some,Option.map_some,if_true]
theorem bH{f:List Da->Option Da}{es:List Ev}{ds:List Da}(h1:X S L δ=some (S1,es)) (h2:D.rds S1 L es=some ds) (h3:f ds=some d):D.cb f X S L δ=some (S1,.val d):=by
 simp only[D.cb,h1,h2,h3,Option.bind_some,Option.map_some]
theorem ka{f:List Da->Option (List Da)}{es:List Ev}{ds rs:List Da}(h1:X S L δ=some (S1,es)) (h2:D.rds S1 L es=some ds) (h3:f ds=some rs):D.Ag f X S L δ=some (S1,rs):=by
 simp only[D.Ag,h1,h2,h3,Option.bind_some,Option.map_some]
theorem av:D.rds S L []=some []:=rfl
theorem ak{es:List Ev}{ds:List Da}(h1:rdE S L x=some d) (h2:D.rds S L es=some ds):D.rds S L (x::es)=some (d::ds):=by
 show (rdE S L x).bind _=_
 rw[h1]
 show (D.rds S L es).map _=_
 rw[h2]
 rfl
theorem aD{φ:Sto->List Da->Option Da}{es:List Ev}{ds:List Da}(h1:X S L δ=some (S1,es)) (h2:D.vals es=some ds) (h3:φ S1 ds=some d):D.M φ X S L δ=some (S1,.val d):=by
 simp only[D.M,h1,h2,h3,Option.bind_some,Option.map_some]
theorem ax{φ:Sto->List Da->Option (Sto × Da)}{es:List Ev}{ds:List Da}(h1:X S L δ=some (S1,es)) (h2:D.vals es=some ds) (h3:φ S1 ds=some (S2,d)):D.N φ X S L δ=some (S2,.val d):=by
 simp only[D.N,h1,h2,h3,Option.bind_some,Option.map_some]
theorem iX(h1:t S L δ=some (S1,b)) (hb:b=true) (h2:A S1 L δ=some (S2,x)):D.Aa t A B S L δ=some (S2,x):=by
 subst hb
 simp only[D.Aa,h1,h2,Option.bind_some,if_true]
theorem iP(h1:t S L δ=some (S1,b)) (hb:b=false) (h2:B S1 L δ=some (S2,x)):D.Aa t A B S L δ=some (S2,x):=by
 subst hb
 simp only[D.Aa,h1,h2,Option.bind_some,Bool.false_eq_true,if_false]
theorem iB(h1:A S L δ=some (S1,x)) (h2:rdE S1 L x=some (.bl b)) (h3:b=true) (h4:B S1 L δ=some (S2,y)):D.AM A B S L δ=some (S2,y):=by
 subst h3
 simp only[D.AM,h1,h2,D.bl,Option.bind_some,h4,if_true]
theorem ig(h1:A S L δ=some (S1,x)) (h2:rdE S1 L x=some (.bl b)) (h3:b=false):D.AM A B S L δ=some (S1,.val (.bl false)):=by
 subst h3
 simp only[D.AM,h1,h2,D.bl,Option.bind_some,Bool.false_eq_true,if_false]
theorem fb(h1:A S L δ=some (S1,x)) (h2:rdE S1 L x=some (.bl b)):D.AW A S L δ=some (S1,.val (.bl (!b))):=by
 simp only[D.AW,h1,h2,D.bl,Option.bind_some,Option.map_some]
theorem ac(h1:A S L δ=some (S1,x)) (h2:rdE S1 L x=some (.bl b)):D.J A S L δ=some (S1,b):=by
 simp only[D.J,h1,h2,D.bl,Option.bind_some,Option.map_some]
theorem jX(h1:A S L δ=some (S1,x)) (h2:rdE S1 L x=some d) (h3:D.truB d=some b):D.tru A S L δ=some (S1,b):=by
 simp only[D.tru,h1,h2,h3,Option.bind_some,Option.map_some]
theorem aU(h1:t S L δ=some (S1,b)) (hb:b=false):D.h t u S L δ=some (S1,false):=by
 subst hb
 simp only[D.h,h1,Option.bind_some,Bool.false_eq_true,if_false]
theorem aL(h1:t S L δ=some (S1,b)) (hb:b=true) (h2:u S1 L δ=some (S2,b1)):D.h t u S L δ=some (S2,b1):=by
 subst hb
 simp only[D.h,h1,h2,Option.bind_some,if_true]
theorem fx(h1:t S L δ=some (S1,b)) (hb:b=true):D.AI t u S L δ=some (S1,true):=by
 subst hb
 simp only[D.AI,h1,Option.bind_some,if_true]
theorem cv(h1:t S L δ=some (S1,b)) (hb:b=false) (h2:u S1 L δ=some (S2,b1)):D.AI t u S L δ=some (S2,b1):=by
 subst hb
 simp only[D.AI,h1,h2,Option.bind_some,Bool.false_eq_true,if_false]
theorem b9(h1:t S L δ=some (S1,b)):D.w t S L δ=some (S1,!b):=by
 simp only[D.w,h1,Option.map_some]
theorem jv:D.AC S L δ=some (S,true):=rfl
theorem aB:D.Y S L δ=some (.nx S L δ):=rfl
theorem af(h1:P S L δ=some (.nx S1 L1 δ1)) (h2:Q S1 L1 δ1=some o):D.K P Q S L δ=some o:=by
 simp only[D.K,h1,Option.bind_some]
 exact h2
theorem a7{e:Ev}(h1:P S L δ=some (.rt S1 L1 e)):D.K P Q S L δ=some (.rt S1 L1 e):=by
 simp only[D.K,h1,Option.bind_some]
theorem am(h1:A S L δ=some (S1,x)):D.O A S L δ=some (.rt S1 L x):=by
 simp only[D.O,h1,Option.map_some]
theorem dz(h1:A S L δ=some (S1,x)):D.AK A S L δ=some (.nx S1 L δ):=by
 simp only[D.AK,h1,Option.map_some]
theorem an(h1:t S L δ=some (S1,b)) (hb:b=true) (h2:P S1 L δ=some o):D.Q t P Q S L δ=some o:=by
 subst hb
 simp only[D.Q,h1,h2,Option.bind_some,if_true]
theorem ag(h1:t S L δ=some (S1,b)) (hb:b=false) (h2:Q S1 L δ=some o):D.Q t P Q S L δ=some o:=by
 subst hb
 simp only[D.Q,h1,h2,Option.bind_some,Bool.false_eq_true,if_false]
theorem aF{g:DG}(h1:A S L δ=some (S1,x)) (h2:g S1 L δ x=some δ1):D.X A g S L δ=some (.nx S1 L δ1):=by
 simp only[D.X,h1,h2,Option.bind_some,Option.map_some]
theorem bZ{ds:List Da}(h1:N S L δ=some (S1,ds)):D.AL i N S L δ=some (.nx S1 (L++[some ds]) (δ.set i (some (.own L.length)))):=by
 simp only[D.AL,h1,Option.map_some]
theorem h9:D.H i S L δ x=some (δ.set i (some x)):=rfl
theorem aJ{is:List Nat}{ds:List Da}(h1:rdE S L x=some (.tup ds)) (h2:D.gnames is δ ds=some δ1):D.P is S L δ x=some δ1:=by
 simp only[D.P,h1,Option.bind_some]
 exact h2
theorem eB{j:Nat}{ds:List Da}(h1:A S L δ=some (S1,.val d)) (h2:δ[i]?=some (some (.own j))) (h3:L[j]?=some (some ds)) (h4:ds.length<=100000):D.AD i A S L δ=some (.nx S1 (L.set j (some (ds++[d]))) δ):=by
 simp only[D.AD,h1,h2,h3,h4,Option.bind_some,if_true]
theorem jr{cs:List Str}{f c:Str}{ks:List Str}{xs:List Da}(h1:A S L δ=some (S1,x)) (h2:rdE S1 L x=some (.obj c ks xs)) (h3:c∈cs) (h4:D.get ks xs f=some d):D.fld cs f A S L δ=some (S1,.val d):=by
 simp only[D.fld,h1,h2,h3,h4,Option.bind_some,Option.map_some,if_true]
theorem hJ{c m:Str}{φ:Sto->List Da->Option Da}{ks:List Str}{xs:List Da}{es:List Ev}{ds:List Da}(h1:A S L δ=some (S1,.val d1)) (h2:rdD S1 d1=some (.obj c ks xs)) (h3:m ∉ ks) (h4:X S1 L δ=some (S2,es)) (h5:D.vals es=some ds) (h6:φ S2 (d1::ds)=some d):D.methR c m φ A X S L δ=some (S2,.val d):=by
 simp only[D.methR,h1,h2,h3,h4,h5,h6,Option.bind_some,Option.map_some,not_false_eq_true,and_self,if_true]
theorem gc{c m:Str}{φ:Sto->List Da->Option (Sto × Da)}{ks:List Str}{xs:List Da}{es:List Ev}{ds:List Da}(h1:A S L δ=some (S1,.val d1)) (h2:rdD S1 d1=some (.obj c ks xs)) (h3:m ∉ ks) (h4:X S1 L δ=some (S2,es)) (h5:D.vals es=some ds) (h6:φ S2 (d1::ds)=some (S3,d)):D.methW c m φ A X S L δ=some (S3,.val d):=by
 simp only[D.methW,h1,h2,h3,h4,h5,h6,Option.bind_some,Option.map_some,not_false_eq_true,and_self,if_true]
theorem fF{k:Nat}{es ds:List Da}(h1:A S L δ=some (S1,.val (.ref k))) (h2:S1[k]?=some (.lst es)) (h3:B S1 L δ=some (S2,.val d)) (h4:S2[k]?=some (.lst ds)) (h5:ds.length<=100000):D.AN A B S L δ=some (S2.set k (.lst (ds++[d])),.val .non):=by
 simp only[D.AN,h1,h2,h3,h4,h5,Option.bind_some,if_true]
theorem hY:D.Am none S L δ=some (S,none):=rfl
theorem gY{k:Int}(h:A S L δ=some (S1,.val (.int k))):D.Am (some A) S L δ=some (S1,some k):=by
 simp only[D.Am,h,Option.bind_some]
theorem fm{k j:Nat}{ds:List Da}{ii:Int}(h1:A S L δ=some (S1,.val d)) (h2:B S1 L δ=some (S2,.val (.ref k))) (h3:C S2 L δ=some (S3,.val (.int ii))) (h4:S3[k]?=some (.lst ds)) (h5:ixN ds.length ii=some j):D.AX A B C S L δ=some (.nx (S3.set k (.lst (ds.set j d))) L δ):=by
 simp only[D.AX,h1,h2,h3,h4,h5,Option.bind_some,Option.map_some]
theorem aC{ds:List Da}(h1:A S L δ=some (S1,x)) (h2:D.seqD x=some ds):D.W A S L δ=some (S1,ds):=by
 simp only[D.W,h1,h2,Option.bind_some,Option.map_some]
theorem bS{es:List Ev}{j:Int}(h1:X S L δ=some (S1,es)) (h2:D.rds S1 L es=some [.int j]) (h3:j<=1000000/\-1000000<=j):D.AF X S L δ=some (S1,(List.range j.toNat).map fun (k:Nat) => .int (0+(k:Int))):=by
 simp only[D.AF,h1,h2,h3,Option.bind_some,and_self,if_true]
theorem aH{I:DI}{g:DG}{ds:List Da}(h1:I S L δ=some (S1,ds)) (h2:D.forL g P ds S1 L δ=some o):D.AB I g P S L δ=some o:=by
 simp only[D.AB,h1,Option.bind_some]
 exact h2
theorem aK{g:DG}{ds:List Da}(h1:g S L δ (.val d)=some δ1) (h2:P S L δ1=some (.nx S1 L1 δ')) (h3:D.forL g P ds S1 L1 δ'=some o):D.forL g P (d::ds) S L δ=some o:=by
 simp only[D.forL,h1,h2,Option.bind_some]
 exact h3
theorem ee{I:DI}{g:DG}{vs:List Nat}{ds rs:List Da}(h1:I S L δ=some (S1,ds)) (h0:ds.length<=100000) (h2:D.lcL g t A vs ds [] S1 L δ=some (S2,rs)):D.lc I g t A vs S L δ=some (S2,rs):=by
 simp only[D.lc,h1,h0,Option.bind_some,if_true]
 exact h2
theorem jx{g:DG}{vs:List Nat}{k:Nat}{rs:List Da}(h1:B S L δ=some (S1,.val (.ref k))) (h2:D.lcK k g t A vs 1000 0 [] S1 L δ=some (S2,rs)):D.AZ B g t A vs S L δ=some (S2,rs):=by
 simp only[D.AZ,h1,Option.bind_some]
 exact h2
theorem gu{g:DG}{k:Nat}(h1:B S L δ=some (S1,.val (.ref k))) (h2:D.forK k g P 1000 0 S1 L δ=some o):D.AV B g P S L δ=some o:=by
 simp only[D.AV,h1,Option.bind_some]
 exact h2
end
theorem aE{m n:Nat}{B:DS}{S S1:Sto}{L:Loc}{ds:List Da}{e:Ev}{d:Da}(hl:ds.length=m) (h:B S [] (D.env0 n ds)=some (.rt S1 L e)) (ho:D.outE L e=some d):D.l m n B S ds=some d:=by
 simp only[D.l,hl,h,Option.bind_some,if_true]
 exact ho
theorem aR{m n:Nat}{B:DS}{S S1:Sto}{L:Loc}{ds:List Da}{e:Ev}{d:Da}(hl:ds.length=m) (h:B S [] (D.env0 n ds)=some (.rt S1 L e)) (ho:D.outE L e=some d):D.AA m n B S ds=some (S1,d):=by
 simp only[D.AA,hl,h,Option.bind_some,if_true,ho,Option.map_some]
section
variable {S S1 S2 S3:Sto}{L L1 L2':Loc}{δ δ1 δ2:ai}{A:DE}{t:DT}{P:DS}{u:DG}{d:Da}{o:Out}{vs:List Nat}
theorem fo{acc:List Da}:D.lcL u t A vs [] acc S L δ=some (S,acc):=rfl
theorem ir{ds acc rs:List Da}{x:Da}(h1:u S (L++[some acc]) (D.wiped δ vs) (.val d)=some δ1) (h2:t S (L++[some acc]) δ1=some (S1,true)) (h3:A S1 (L++[some acc]) δ1=some (S2,.val x)) (h4:D.lcL u t A vs ds (acc++[x]) S2 L δ=some (S3,rs)):D.lcL u t A vs (d::ds) acc S L δ=some (S3,rs):=by
 simp only[D.lcL,h1,h2,h3,Option.bind_some,if_true]
 exact h4
theorem kt{ds acc rs:List Da}(h1:u S (L++[some acc]) (D.wiped δ vs) (.val d)=some δ1) (h2:t S (L++[some acc]) δ1=some (S1,false)) (h4:D.lcL u t A vs ds acc S1 L δ=some (S3,rs)):D.lcL u t A vs (d::ds) acc S L δ=some (S3,rs):=by
 simp only[D.lcL,h1,h2,Option.bind_some,Bool.false_eq_true,if_false]
 exact h4
theorem d5(p:Da->Bool) (f:Da->Da):∀{ds acc:List Da},(∀ d∈ds,∀ acc:List Da,∃ δ1,u S (L++[some acc]) (D.wiped δ vs) (.val d)=some δ1/\t S (L++[some acc]) δ1=some (S,p d)/\(p d=true->A S (L++[some acc]) δ1=some (S,.val (f d))))->D.lcL u t A vs ds acc S L δ=some (S,acc++(ds.filter p).map f)
 |[],acc,_=>by
  rw[fo]
  simp
 |d::ds,acc,h=>by
  obtain⟨δ1,h1,h2,h3⟩:=h d (List.mem_cons_self ..) acc
  have ih:=fun acc=>d5 p f (ds:=ds) (acc:=acc) fun x hx=>h x (List.mem_cons_of_mem _ hx)
  cases hp:p d with
  |true =>
   rw[hp] at h2
   refine ir h1 h2 (h3 hp) ?_
   rw[ih,List.filter_cons_of_pos hp,List.map_cons,List.append_assoc]
   rfl
  |false =>
   rw[hp] at h2
   refine kt h1 h2 ?_
   rw[ih,List.filter_cons_of_neg (by rw[hp];exact Bool.false_ne_true)]
theorem kQ{k m i:Nat}{ds acc:List Da}(h0:S[k]?=some (.lst ds)) (h1:ds[i]?=none):D.lcK k u t A vs (m+1) i acc S L δ=some (S,acc):=by
 simp only[D.lcK,h0,h1]
theorem kE{k m i:Nat}{ds acc rs:List Da}{x:Da}(h0:S[k]?=some (.lst ds)) (h00:ds[i]?=some d) (h1:u S (L++[some acc]) (D.wiped δ vs) (.val d)=some δ1) (h2:t S (L++[some acc]) δ1=some (S1,true)) (h3:A S1 (L++[some acc]) δ1=some (S2,.val x)) (h4:D.lcK k u t A vs m (i+1) (acc++[x]) S2 L δ=some (S3,rs)):D.lcK k u t A vs (m+1) i acc S L δ=some (S3,rs):=by
 simp only[D.lcK,h0,h00,h1,h2,h3,Option.bind_some,if_true]
 exact h4
theorem j9{k m i:Nat}{ds:List Da}(h0:S[k]?=some (.lst ds)) (h1:ds[i]?=none):D.forK k u P (m+1) i S L δ=some (.nx S L δ):=by
 simp only[D.forK,h0,h1]
theorem kj{k m i:Nat}{ds:List Da}(h0:S[k]?=some (.lst ds)) (h00:ds[i]?=some d) (h1:u S L δ (.val d)=some δ1) (h2:P S L δ1=some (.nx S1 L1 δ2)) (h3:D.forK k u P m (i+1) S1 L1 δ2=some o):D.forK k u P (m+1) i S L δ=some o:=by
 simp only[D.forK,h0,h00,h1,h2,Option.bind_some]
 exact h3
end
local macro_rules | `(tactic| walk_at"evs")=>`(tactic| first
 |with_reducible assumption
 |exact aa rfl
 |with_reducible exact ah
 |with_reducible exact ae
 |with_reducible exact jv
 |with_reducible exact av
 |with_reducible exact aB
 |with_reducible exact hY
 |with_reducible apply ad
 |with_reducible apply jr
 |with_reducible apply ab
 |with_reducible apply ak
 |with_reducible apply ac
 |with_reducible apply bH
 |with_reducible apply bj
 |with_reducible apply aw
 |with_reducible apply cw
 |with_reducible apply gK
 |with_reducible apply b9
 |with_reducible apply fb
 |with_reducible apply jX
 |with_reducible apply aD
 |with_reducible apply ax
 |with_reducible apply hJ
 |with_reducible apply gc
 |with_reducible apply am
 |with_reducible apply dz
 |with_reducible apply aF
 |with_reducible exact h9
 |with_reducible apply gY
 |(apply eX;(with_reducible assumption);exact rfl)
 |(apply gj;(with_reducible assumption);exact rfl)
 |assumption
 |rfl
 |exact Nat.le_of_ble_eq_true rfl
 |decide)
local macro_rules | `(tactic| walk_at"")=>`(tactic| repeat' (walk_at"evs"))
def iq (zs:List Str):List Da:=zs.map .str
def kI (ws:List Str) (n:Nat):Cell := .ins "Words" ["words","at"] [.lst (iq ws),.int n]
theorem cU{S:Sto}{k:Nat}{c c':Cell}(h:S[k]?=some c):(S.set k c')[k]?=some c':=by
 rw[List.getElem?_set,if_pos rfl,if_pos (List.getElem?_eq_some_iff.mp h).1]
theorem cr{S:Sto}{k j:Nat}{c':Cell}(h:j≠k):(S.set k c')[j]?=S[j]?:=by
 rw[List.getElem?_set,if_neg fun z=>h z.symm]
theorem b4{α:Type}{xs:List α}{n:Nat}{x:α}(h:xs[n]?=some x):atI xs (n:Int)=some x:=by
 have hn:=(List.getElem?_eq_some_iff.mp h).1
 show (ixN xs.length (n:Int)).bind (fun j=>xs[j]?)=some x
 have:ixN xs.length (n:Int)=some n:=by
  unfold ixN
  simp [hn]
 rw[this]
 exact h
structure PrV where
 name:Str
 task:Bool
 ref:Nat
 params:List (Str × Str)
 gives:Option Str
structure Pv where
 doms:List (Str × Nat × List Str)
 chans:List Str
 pers:List Str
 cels:List (Str × Str)
 tools:List (Str × Nat × List Str)
 procs:List PrV
abbrev kS (x:Str × Str):Da := .tup [.str x.1,.str x.2]
def jt:Option Str->Da
 |none => .non
 |some k => .str k
abbrev jO (p:PrV):Da := .obj "Procedure" ["name","is_task","parameters","gives"] [.str p.name,.bl p.task,.ref p.ref,jt p.gives]
def kO (w:Nat):Cell := .ins "Parts" ["domains","channels","persons","cells","tools","procedures"] [.ref (w+2),.ref (w+3),.ref (w+4),.ref (w+5),.ref (w+6),.ref (w+7)]
def hE {α:Type}(xs:List (Str × α)):List Key:=xs.map fun x => .inr x.1
structure At (S:Sto) (w:Nat) (ws:List Str) (n:Nat) (v:Pv):Prop where
 words:S[w]?=some (kI ws n)
 parts:S[w+1]?=some (kO w)
 doms:S[w+2]?=some (.dct (hE v.doms) (v.doms.map fun x => .ref x.2.1))
 chans:S[w+3]?=some (.lst (iq v.chans))
 pers:S[w+4]?=some (.lst (iq v.pers))
 cels:S[w+5]?=some (.dct (hE v.cels) (v.cels.map fun x => .str x.2))
 tools:S[w+6]?=some (.dct (hE v.tools) (v.tools.map fun x => .ref x.2.1))
 procs:S[w+7]?=some (.lst (v.procs.map jO))
 domR:∀ x∈v.doms,w+8<=x.2.1/\S[x.2.1]?=some (.lst (iq x.2.2))
 toolR:∀ x∈v.tools,w+8<=x.2.1/\S[x.2.1]?=some (.lst (iq x.2.2))
 procR:∀ x∈v.procs,w+8<=x.ref/\S[x.ref]?=some (.lst (x.params.map kS))
 few:v.doms.length+v.chans.length+v.pers.length+v.cels.length+v.tools.length+v.procs.length<=100
structure Below (v:Pv) (c:Nat):Prop where
 domR:∀ x∈v.doms,x.2.1 < c
 toolR:∀ x∈v.tools,x.2.1 < c
 procR:∀ x∈v.procs,x.ref < c
theorem bW{S:Sto}{k:Nat}{c:Cell}(h:S[k]?=some c):k < S.length:=(List.getElem?_eq_some_iff.mp h).1
section
variable {S S':Sto}{w n m c:Nat}{ws:List Str}{v:Pv}{z:Cell}
theorem At.below(h:At S w ws n v):Below v S.length:=⟨fun x hx=>bW (h.domR x hx).2,fun x hx=>bW (h.toolR x hx).2,fun x hx=>bW (h.procR x hx).2⟩
theorem At.go(h:At S w ws n v) (hb:Below v c) (e:∀ k,w<=k->k < c->S'[k]?=S[k]?) (hc:w+8<=c):At S' w ws n v :=
 ⟨(e w (by omega) (by omega)).trans h.words,(e _ (by omega) (by omega)).trans h.parts,(e _ (by omega) (by omega)).trans h.doms,(e _ (by omega) (by omega)).trans h.chans,(e _ (by omega) (by omega)).trans h.pers,(e _ (by omega) (by omega)).trans h.cels,(e _ (by omega) (by omega)).trans h.tools,(e _ (by omega) (by omega)).trans h.procs,
  fun x hx=>⟨(h.domR x hx).1,(e _ (Nat.le_trans (Nat.le_add_right w 8) (h.domR x hx).1) (hb.domR x hx)).trans (h.domR x hx).2⟩,fun x hx=>⟨(h.toolR x hx).1,(e _ (Nat.le_trans (Nat.le_add_right w 8) (h.toolR x hx).1) (hb.toolR x hx)).trans (h.toolR x hx).2⟩,fun x hx=>⟨(h.procR x hx).1,(e _ (Nat.le_trans (Nat.le_add_right w 8) (h.procR x hx).1) (hb.procR x hx)).trans (h.procR x hx).2⟩,h.few⟩
structure Ext (w:Nat) (S S':Sto):Prop where
 len:S.length<=S'.length
 eq:∀ k,k < S.length->(k < w\/w+8<=k)->S'[k]?=S[k]?
theorem Ext.refl(w:Nat) (S:Sto):Ext w S S:=⟨Nat.le_refl _,fun _ _ _=>rfl⟩
theorem Ext.trans{S1 S2 S3:Sto}(a:Ext w S1 S2) (b:Ext w S2 S3):Ext w S1 S3:=⟨Nat.le_trans a.len b.len,fun k h1 h2=>(b.eq k (Nat.lt_of_lt_of_le h1 a.len) h2).trans (a.eq k h1 h2)⟩
theorem Ext.set(h1:w<=c) (h2:c < w+8):Ext w S (S.set c z):=⟨by rw[List.length_set];exact Nat.le_refl _,fun k _ hk=>cr (by omega)⟩
theorem Ext.app:Ext w S (S++[z]):=⟨by rw[List.length_append];omega,fun k h _=>by rw[List.getElem?_append_left h]⟩
theorem Ext.new{S0:Sto}(a:Ext w S0 S) (h:S0.length<=c):Ext w S0 (S.set c z):=⟨by rw[List.length_set];exact a.len,fun k h1 h2=>(cr (by omega)).trans (a.eq k h1 h2)⟩
def Has (ws:List Str):Nat->List Str->Prop
 |_,[]=>True
 |n,a::r=>ws[n]?=some a/\Has ws (n+1) r
theorem Has.app{ws:List Str}:∀{p q:List Str}{n:Nat},Has ws n (p++q)->Has ws n p/\Has ws (n+p.length) q
 |[],q,n,h=>⟨True.intro,h⟩
 |a::p,q,n,h=>by
  obtain⟨h1,h2⟩:=h
  obtain⟨h3,h4⟩:=Has.app (p:=p) h2
  refine⟨⟨h1,h3⟩,?_⟩
  have:n+(a::p).length=n+1+p.length:=by
   rw[List.length_cons]
   omega
  rw[this]
  exact h4
end
def Pv.many (v:Pv):Nat:=v.doms.length+v.chans.length+v.pers.length+v.cels.length+v.tools.length+v.procs.length
section
variable {S:Sto}{L:Loc}{δ:ai}
theorem fw{u:DG}{b:DS}{ds:List Da}(I:Nat->Sto->Loc->ai->Prop)
  (go:∀ i d S L δ,ds[i]?=some d->I i S L δ->∃ δ1 S2 L2 δ2,u S L δ (.val d)=some δ1/\b S L δ1=some (.nx S2 L2 δ2)/\I (i+1) S2 L2 δ2):∀{m:Nat}{es:List Da}{S:Sto}{L:Loc}{δ:ai},ds.drop m=es->I m S L δ->m<=ds.length->∃ S' L' δ',D.forL u b es S L δ=some (.nx S' L' δ')/\I ds.length S' L' δ'
 |m,[],S,L,δ,h1,h2,hm=>by
  have:m=ds.length:=by
   have:=List.drop_eq_nil_iff.mp h1
   omega
  subst this
  exact⟨S,L,δ,rfl,h2⟩
 |m,d::es,S,L,δ,h1,h2,hm=>by
  have hl:m < ds.length:=by
   rcases Nat.lt_or_ge m ds.length with q | q
   ·exact q
   ·rw[List.drop_eq_nil_iff.mpr q] at h1
    cases h1
  rw[List.drop_eq_getElem_cons hl] at h1
  obtain⟨e1,e2⟩:=List.cons.inj h1
  obtain⟨δ1,S2,L2,δ2,q1,q2,q3⟩:=go m d S L δ (by rw[List.getElem?_eq_getElem hl,e1]) h2
  obtain⟨S',L',δ',r1,r2⟩:=fw I go (m:=m+1) e2 q3 hl
  exact⟨S',L',δ',aK q1 q2 r1,r2⟩
theorem cS{u:DG}{b:DS}{ds:List Da}(I:Nat->Sto->Loc->ai->Prop)
  (go:∀ i d S L δ,ds[i]?=some d->I i S L δ->∃ δ1 S2 L2 δ2,u S L δ (.val d)=some δ1/\b S L δ1=some (.nx S2 L2 δ2)/\I (i+1) S2 L2 δ2) (h:I 0 S L δ):∃ S' L' δ',D.forL u b ds S L δ=some (.nx S' L' δ')/\I ds.length S' L' δ' :=
 fw I go (List.drop_zero) h (Nat.zero_le _)
theorem gA{u:DG}{t:DT}{a:DE}{vs:List Nat}{ds xs:List Da}(hl:xs.length=ds.length) (I:Nat->Sto->Prop)
  (go:∀ i d x S acc,ds[i]?=some d->xs[i]?=some x->I i S->∃ δ1 S1 S2,u S (L++[some acc]) (D.wiped δ vs) (.val d)=some δ1/\t S (L++[some acc]) δ1=some (S1,true)/\a S1 (L++[some acc]) δ1=some (S2,.val x)/\I (i+1) S2):∀{m:Nat}{es acc:List Da}{S:Sto},ds.drop m=es->I m S->m<=ds.length->∃ S',D.lcL u t a vs es acc S L δ=some (S',acc++xs.drop m)/\I ds.length S'
 |m,[],acc,S,h1,h2,hm=>by
  have:m=ds.length:=by
   have:=List.drop_eq_nil_iff.mp h1
   omega
  subst this
  refine⟨S,?_,h2⟩
  rw[fo,List.drop_eq_nil_iff.mpr (by omega),List.append_nil]
 |m,d::es,acc,S,h1,h2,hm=>by
  have hl1:m < ds.length:=by
   rcases Nat.lt_or_ge m ds.length with q | q
   ·exact q
   ·rw[List.drop_eq_nil_iff.mpr q] at h1
    cases h1
  rw[List.drop_eq_getElem_cons hl1] at h1
  obtain⟨e1,e2⟩:=List.cons.inj h1
  have hx:xs[m]?=some xs[m]:=List.getElem?_eq_getElem (by omega)
  obtain⟨δ1,S1,S2,q1,q2,q3,q4⟩:=go m d xs[m] S acc (by rw[List.getElem?_eq_getElem hl1,e1]) hx h2
  obtain⟨S',r1,r2⟩:=gA hl I go (m:=m+1) (acc:=acc++[xs[m]]) e2 q4 hl1
  refine⟨S',?_,r2⟩
  rw[ir q1 q2 q3 r1,List.append_assoc,List.drop_eq_getElem_cons (by omega:m < xs.length)]
  rfl
theorem ip{k:Nat}{u:DG}{t:DT}{a:DE}{vs:List Nat}{ds xs:List Da}(hl:xs.length=ds.length) (I:Nat->Sto->Prop) (hI:∀ i S,I i S->S[k]?=some (.lst ds))
  (go:∀ i d x S acc,ds[i]?=some d->xs[i]?=some x->I i S->∃ δ1 S1 S2,u S (L++[some acc]) (D.wiped δ vs) (.val d)=some δ1/\t S (L++[some acc]) δ1=some (S1,true)/\a S1 (L++[some acc]) δ1=some (S2,.val x)/\I (i+1) S2):∀{n m:Nat}{acc:List Da}{S:Sto},I m S->m<=ds.length->ds.length < n+m->∃ S',D.lcK k u t a vs n m acc S L δ=some (S',acc++xs.drop m)/\I ds.length S'
 |0,m,_,_,_,h1,h2=>by omega
 |n+1,m,acc,S,h2,hm,hn=>by
  by_cases c:m=ds.length
  ·subst c
   refine⟨S,?_,h2⟩
   rw[kQ (hI _ _ h2) (List.getElem?_eq_none_iff.mpr (Nat.le_refl _)),List.drop_eq_nil_iff.mpr (by omega),List.append_nil]
  ·have hl1:m < ds.length:=by omega
   have hx:xs[m]?=some xs[m]:=List.getElem?_eq_getElem (by omega)
   have hd:ds[m]?=some ds[m]:=List.getElem?_eq_getElem hl1
   obtain⟨δ1,S1,S2,q1,q2,q3,q4⟩:=go m ds[m] xs[m] S acc hd hx h2
   obtain⟨S',r1,r2⟩:=ip hl I hI go (n:=n) (m:=m+1) (acc:=acc++[xs[m]]) q4 hl1 (by omega)
   refine⟨S',?_,r2⟩
   rw[kE (hI _ _ h2) hd q1 q2 q3 r1,List.append_assoc,List.drop_eq_getElem_cons (by omega:m < xs.length)]
   rfl
theorem iC{k:Nat}{u:DG}{t:DT}{a:DE}{vs:List Nat}{ds xs:List Da}(hl:xs.length=ds.length) (hs:ds.length < 1000) (I:Nat->Sto->Prop) (hI:∀ i S,I i S->S[k]?=some (.lst ds))
  (go:∀ i d x S acc,ds[i]?=some d->xs[i]?=some x->I i S->∃ δ1 S1 S2,u S (L++[some acc]) (D.wiped δ vs) (.val d)=some δ1/\t S (L++[some acc]) δ1=some (S1,true)/\a S1 (L++[some acc]) δ1=some (S2,.val x)/\I (i+1) S2) (h:I 0 S):∃ S',D.lcK k u t a vs 1000 0 [] S L δ=some (S',xs)/\I ds.length S':=by
 obtain⟨S',h1,h2⟩:=ip hl I hI go (n:=1000) (m:=0) (acc:=[]) h (Nat.zero_le _) (by omega)
 exact⟨S',by rw[h1,List.drop_zero,List.nil_append],h2⟩
theorem fr{k:Nat}{u:DG}{b:DS}{ds:List Da}(I:Nat->Sto->Loc->ai->Prop) (hI:∀ i S L δ,I i S L δ->S[k]?=some (.lst ds))
  (go:∀ i d S L δ,ds[i]?=some d->I i S L δ->∃ δ1 S2 L2 δ2,u S L δ (.val d)=some δ1/\b S L δ1=some (.nx S2 L2 δ2)/\I (i+1) S2 L2 δ2):∀{n m:Nat}{S:Sto}{L:Loc}{δ:ai},I m S L δ->m<=ds.length->ds.length < n+m->∃ S' L' δ',D.forK k u b n m S L δ=some (.nx S' L' δ')/\I ds.length S' L' δ'
 |0,m,_,_,_,_,h1,h2=>by omega
 |n+1,m,S,L,δ,h2,hm,hn=>by
  by_cases c:m=ds.length
  ·subst c
   exact⟨S,L,δ,j9 (hI _ _ _ _ h2) (List.getElem?_eq_none_iff.mpr (Nat.le_refl _)),h2⟩
  ·have hl1:m < ds.length:=by omega
   have hd:ds[m]?=some ds[m]:=List.getElem?_eq_getElem hl1
   obtain⟨δ1,S2,L2,δ2,q1,q2,q3⟩:=go m ds[m] S L δ hd h2
   obtain⟨S',L',δ',r1,r2⟩:=fr I hI go (n:=n) (m:=m+1) q3 hl1 (by omega)
   exact⟨S',L',δ',kj (hI _ _ _ _ h2) hd q1 q2 r1,r2⟩
theorem gn{k:Nat}{u:DG}{b:DS}{ds:List Da}(hs:ds.length < 1000) (I:Nat->Sto->Loc->ai->Prop) (hI:∀ i S L δ,I i S L δ->S[k]?=some (.lst ds))
  (go:∀ i d S L δ,ds[i]?=some d->I i S L δ->∃ δ1 S2 L2 δ2,u S L δ (.val d)=some δ1/\b S L δ1=some (.nx S2 L2 δ2)/\I (i+1) S2 L2 δ2) (h:I 0 S L δ):∃ S' L' δ',D.forK k u b 1000 0 S L δ=some (.nx S' L' δ')/\I ds.length S' L' δ' :=
 fr I hI go h (Nat.zero_le _) (by omega)
end
def ky:List Str:=["system","domain","channel","person","cell","tool","function","task","gives","body","begin","end","yes","policy"]
def kT:List Str:=["start","text","any","allow","deny","anyone","nobody","from","always","with","else","edit","cut"]
def kN:List Str:=["read","choose","write","take","trust","set","copy","keep","recall","if","call","post","ask","do","return"]
def kept:List Str:=ky++(kT++kN)
theorem take_succ{α:Type}{xs:List α}{i:Nat}{x:α}(h:xs[i]?=some x):xs.take (i+1)=xs.take i++[x]:=by
 rw[List.take_succ,h]
 rfl
theorem gX{S:Sto}{c:Cell}:(S++[c])[S.length]?=some c:=by
 rw[List.getElem?_append_right (Nat.le_refl _),Nat.sub_self]
 rfl
section
variable {S S':Sto}{w n c:Nat}{ws:List Str}{v:Pv}{z:Cell}
theorem At.lt(h:At S w ws n v):w+7 < S.length:=bW h.procs
theorem At.app(h:At S w ws n v):At (S++[z]) w ws n v:=h.go h.below (fun k _ hk=>by rw[List.getElem?_append_left hk]) h.lt
theorem At.setN(h:At S w ws n v) (hb:Below v c) (hc:w+8<=c):At (S.set c z) w ws n v:=h.go hb (fun k _ hk=>cr (by omega)) hc
end
def Ds (n:Nat) (d:Da):Prop:=∃ p,toP d=some p/\p.canLay0=true/\p.depth<=n
theorem aX(n:Nat) (i:Int):Ds (n+1) (.int i):=⟨.int i,by simp [toP],rfl,by simp [PyData.depth]⟩
theorem kg(n:Nat):Ds (n+1) .non:=⟨.none,by simp [toP],rfl,by simp [PyData.depth]⟩
theorem eW{n:Nat}:∀{ds:List Da},(∀ x∈ds,Ds n x)->∃ ps,toPs ds=some ps/\PyData.canLayAll0 ps=true/\PyData.depthAll ps<=n
 |[],_=>⟨[],by simp [toPs],rfl,by simp [PyData.depthAll]⟩
 |d::r,h=>by
  obtain⟨p,h1,h2,h3⟩:=h d (List.mem_cons_self ..)
  obtain⟨ps,q1,q2,q3⟩:=eW fun x hx=>h x (List.mem_cons_of_mem _ hx)
  exact⟨p::ps,by simp [toPs,h1,q1],by simp [PyData.canLayAll0,h2,q2],by simp only[PyData.depthAll];omega⟩
theorem aO{n:Nat}{ds:List Da}(h:∀ x∈ds,Ds n x):Ds (n+1) (.tup ds):=by
 obtain⟨ps,q1,q2,q3⟩:=eW h
 exact⟨.tuple ps,by simp [toP,q1],by simp [PyData.canLay0,q2],by simp only[PyData.depth];omega⟩
theorem eK{n:Nat}{ds:List Da}(h:∀ x∈ds,Ds n x):Ds (n+1) (.lst ds):=by
 obtain⟨ps,q1,q2,q3⟩:=eW h
 exact⟨.list ps,by simp [toP,q1],by simp [PyData.canLay0,q2],by simp only[PyData.depth];omega⟩
theorem gQ{d:Da}(h:Ds 64 d):D.eqB d d=some true:=by
 obtain⟨p,h1,h2,h3⟩:=h
 have e:D.eqP d d=some true:=by
  unfold D.eqP
  have s:SeqAt.shaped p=true:=by
   unfold SeqAt.shaped
   rw[h2,decide_eq_true h3]
   rfl
  simp only[h1,Option.bind_some,s,and_self,if_true]
  rw[PySem.SeqAt.eqv_refl p h2]
 unfold D.eqB
 split
 ·split
  ·rw[decide_eq_true (by simp_all)]
  ·exact e
 ·exact e
theorem dB{d:Da}(h:Ds 64 d):D.AG d d=some (.bl false):=by
 unfold D.AG
 rw[gQ h]
 rfl
theorem aj{P:Da->Prop}{d:Da}{ds:List Da}(h:P d) (t:∀ x∈ds,P x):∀ x∈d::ds,P x:=fun x hx=>by
 rcases List.mem_cons.mp hx with rfl | hx
 ·exact h
 ·exact t x hx
theorem dD{n m:Nat}{d:Da}(h:Ds n d) (hm:n<=m):Ds m d:=by
 obtain⟨p,h1,h2,h3⟩:=h
 exact⟨p,h1,h2,by omega⟩
theorem lt5{P:Nat->Prop}(h0:P 0) (h1:P 1) (h2:P 2) (h3:P 3) (h4:P 4):∀ k,k < 5->P k
 |0,_=>h0
 |1,_=>h1
 |2,_=>h2
 |3,_=>h3
 |4,_=>h4
 |k+5,h=>absurd h (by omega)
def lookN (ps:List (Nat × Option Nat)) (k:Nat):Option (Option Nat):=(ps.find? fun p=>decide (p.1=k)).map (·.2)
def cL:Option Nat->Option Nat->Bool
 |none,_=>false
 |some _,none=>true
 |some a,some b=>decide (a < b)
structure Nd where
 g:Nat
 h:Nat
 ps:List (Nat × Option Nat)
structure NdOk (a:Nd):Prop where
 g:a.g < 2
 h:a.h < 2
 nd:(a.ps.map (·.1)).Nodup
 k5:∀ p∈a.ps,p.1 < 5
 pos:∀ p∈a.ps,p.2≠some 0
 len:a.ps.length<=100
def dZ (a b:List (Nat × Option Nat)):Bool:=a.all fun p=>match lookN b p.1 with
 |none=>false
 |some o => !cL o p.2
def inN (a b:Nd):Bool:=decide (a.g=b.g/\a.h=b.h) && dZ a.ps b.ps
theorem dp{ps:List (Nat × Option Nat)}{k:Nat}{o:Option Nat}(h:lookN ps k=some o):(k,o)∈ps:=by
 unfold lookN at h
 obtain⟨p,h1,rfl⟩:=Option.map_eq_some_iff.mp h
 have:=List.find?_some h1
 have e:p.1=k:=of_decide_eq_true this
 rw[<- e]
 exact List.mem_of_find?_eq_some h1
theorem d8:∀{ps:List (Nat × Option Nat)}{p:Nat × Option Nat},(ps.map (·.1)).Nodup->p∈ps->lookN ps p.1=some p.2
 |q::ps,p,nd,h=>by
  obtain⟨n1,n2⟩:=List.nodup_cons.mp (show (q.1::ps.map (·.1)).Nodup from nd)
  unfold lookN
  rw[List.find?_cons]
  rcases List.mem_cons.mp h with rfl | h
  ·rw[decide_eq_true rfl]
   rfl
  ·have ne:q.1≠p.1:=fun e=>n1 (e ▸ List.mem_map.mpr ⟨p,h,rfl⟩)
   rw[decide_eq_false ne]
   exact d8 n2 h
theorem gU{a:Nd}(A:NdOk a):inN a a=true:=by
 unfold inN dZ
 rw[decide_eq_true ⟨rfl,rfl⟩,Bool.true_and,List.all_eq_true]
 intro p hp
 rw[d8 A.nd hp]
 show (!cL p.2 p.2)=true
 cases p.2 with
 |none=>rfl
 |some x =>
  show (!decide (x < x))=true
  rw[decide_eq_false (Nat.lt_irrefl x)]
  rfl
theorem f4{o o1 m:Option Nat}(h1:cL o1 m=false) (h2:cL o o1=false):cL o m=false:=by
 cases o with
 |none=>rfl
 |some x =>
  cases o1 with
  |none=>cases h2
  |some y =>
   cases m with
   |none=>cases h1
   |some z =>
    have a:=of_decide_eq_false (show decide (y < z)=false from h1)
    have b:=of_decide_eq_false (show decide (x < y)=false from h2)
    exact decide_eq_false (by omega)
theorem f6{a b c:Nd}(h1:inN a b=true) (h2:inN b c=true):inN a c=true:=by
 unfold inN at *
 rw[Bool.and_eq_true,decide_eq_true_eq] at *
 obtain⟨⟨g1,g2⟩,p1⟩:=h1
 obtain⟨⟨g3,g4⟩,p2⟩:=h2
 refine⟨⟨g1.trans g3,g2.trans g4⟩,?_⟩
 unfold dZ at *
 rw[List.all_eq_true] at *
 intro p hp
 have q1:=p1 p hp
 cases e1:lookN b.ps p.1 with
 |none=>rw[e1] at q1;cases q1
 |some o1 =>
  rw[e1] at q1
  have q1:(!cL o1 p.2)=true:=q1
  have q2:=p2 _ (dp e1)
  have q2:(match lookN c.ps p.1 with | none=>false | some o => !cL o o1)=true:=q2
  cases e2:lookN c.ps p.1 with
  |none=>rw[e2] at q2;cases q2
  |some o2 =>
   rw[e2] at q2
   have q2:(!cL o2 o1)=true:=q2
   show (!cL o2 p.2)=true
   rw[f4 (Bool.not_eq_true' _ ▸ q1) (Bool.not_eq_true' _ ▸ q2)]
   rfl
def cQ (ps:List (Nat × Nat)) (k:Nat):List (Nat × Nat):=if k∈ps.map (·.1) then ps.map (fun p=>if p.1=k then (p.1,p.2+1) else p) else ps++[(k,1)]
def aI (ks:List Nat):List (Nat × Nat):=ks.foldl cQ []
def be (ks:List Nat):List Nat:=ks.foldl (fun acc k=>if k∈acc then acc else acc++[k]) []
def db (T ks:List Nat):List (Nat × Nat):=ks.foldl (fun acc k=>if (k,T.count k)∈acc then acc else acc++[(k,T.count k)]) []
theorem bt{P:List Nat->Prop}(h0:P []) (h:∀ ks k,P ks->P (ks++[k])) (ks:List Nat):P ks:=by
 have q:∀ l:List Nat,P l.reverse:=fun l=>by
  induction l with
  |nil=>exact h0
  |cons a l ih =>
   rw[List.reverse_cons]
   exact h _ _ ih
 have:=q ks.reverse
 rw[List.reverse_reverse] at this
 exact this
theorem bB(ks:List Nat) (k:Nat):be (ks++[k])=if k∈be ks then be ks else be ks++[k]:=by
 unfold be
 rw[List.foldl_append]
 rfl
theorem e8(ks:List Nat) (x:Nat):x∈be ks ↔ x∈ks:=by
 induction ks using bt with
 |h0=>exact Iff.rfl
 |h ks k ih =>
  rw[bB,List.mem_append,List.mem_singleton]
  split
  ·rename_i h
   constructor
   ·exact fun q => .inl (ih.mp q)
   ·exact fun q=>q.elim ih.mpr fun e=>e ▸ h
  ·rw[List.mem_append,List.mem_singleton,ih]
theorem jF(ks:List Nat):(be ks).Nodup:=by
 induction ks using bt with
 |h0=>exact List.nodup_nil
 |h ks k ih =>
  rw[bB]
  split
  ·exact ih
  ·rename_i h
   exact List.nodup_append.mpr ⟨ih,List.nodup_cons.mpr ⟨(fun z=>nomatch z),List.nodup_nil⟩,fun a ha b hb e=>h (List.mem_singleton.mp hb ▸ e ▸ ha)⟩
theorem b3(ks:List Nat):aI ks=(be ks).map fun k=>(k,ks.count k):=by
 induction ks using bt with
 |h0=>rfl
 |h ks k ih =>
  have e:aI (ks++[k])=cQ (aI ks) k:=by
   unfold aI
   rw[List.foldl_append]
   rfl
  rw[e,ih,bB]
  unfold cQ
  have mm:((be ks).map fun k=>(k,ks.count k)).map (·.1)=be ks:=by
   rw[List.map_map]
   exact List.map_id _
  rw[mm]
  by_cases c:k∈be ks
  ·rw[if_pos c,if_pos c,List.map_map]
   refine List.map_congr_left fun x _=>?_
   show (if x=k then (x,ks.count x+1) else (x,ks.count x))=(x,(ks++[k]).count x)
   rw[List.count_append,List.count_singleton]
   by_cases d:x=k
   ·rw[if_pos d,if_pos (by rw[d];exact beq_self_eq_true k)]
   ·rw[if_neg d,if_neg (fun z=>d (eq_of_beq z).symm)]
    rfl
  ·rw[if_neg c,if_neg c,List.map_append]
   have z:ks.count k=0:=List.count_eq_zero.mpr fun h=>c ((e8 ks k).mpr h)
   have e1:((be ks).map fun x=>(x,ks.count x))=(be ks).map fun x=>(x,(ks++[k]).count x):=List.map_congr_left fun x hx=>by
    have ne:x≠k:=fun e=>c (e ▸ hx)
    rw[List.count_append,List.count_singleton,if_neg (fun z=>ne (eq_of_beq z).symm)]
    rfl
   rw[e1]
   show _++[(k,1)]=_++[(k,(ks++[k]).count k)]
   rw[List.count_append,z,List.count_singleton,if_pos (beq_self_eq_true k)]
theorem iD(T ks:List Nat):db T ks=(be ks).map fun k=>(k,T.count k):=by
 induction ks using bt with
 |h0=>rfl
 |h ks k ih =>
  have e:db T (ks++[k])=if (k,T.count k)∈db T ks then db T ks else db T ks++[(k,T.count k)]:=by
   unfold db
   rw[List.foldl_append]
   rfl
  rw[e,ih,bB]
  have i:(k,T.count k)∈((be ks).map fun k=>(k,T.count k)) ↔ k∈be ks:=by
   constructor
   ·intro h
    obtain⟨x,h1,h2⟩:=List.mem_map.mp h
    cases h2
    exact h1
   ·exact fun h=>List.mem_map.mpr ⟨k,h,rfl⟩
  by_cases c:k∈be ks
  ·rw[if_pos (i.mpr c),if_pos c]
  ·rw[if_neg fun z=>c (i.mp z),if_neg c,List.map_append]
   rfl
theorem hP(ks:List Nat):db ks ks=aI ks:=(iD ks ks).trans (b3 ks).symm
theorem hZ(ks:List Nat):∀ p∈aI ks,p.1∈ks/\1<=p.2/\p.2<=ks.length:=by
 rw[b3]
 intro p hp
 obtain⟨k,h1,rfl⟩:=List.mem_map.mp hp
 have hk:=(e8 ks k).mp h1
 exact⟨hk,List.count_pos_iff.mpr hk,List.count_le_length⟩
theorem fv(ks:List Nat):((aI ks).map (·.1)).Nodup:=by
 rw[b3,List.map_map]
 have:(be ks).map ((fun x:Nat × Nat=>x.1) ∘ fun k=>(k,ks.count k))=be ks:=List.map_id _
 rw[this]
 exact jF ks
theorem iG(ks:List Nat):(be ks).length<=ks.length:=by
 induction ks using bt with
 |h0=>exact Nat.le_refl _
 |h ks k ih =>
  rw[bB,List.length_append]
  split
  ·exact Nat.le_trans ih (Nat.le_add_right ..)
  ·rw[List.length_append]
   exact Nat.add_le_add_right ih 1
theorem dY(ks:List Nat):(aI ks).length<=ks.length:=by
 rw[b3,List.length_map]
 exact iG ks
def tkD (k:Nat):Da := .tup [.int ((k / 2:Nat):Int),.tup (if k < 3 then [] else [.tup [.int (k:Int),.int 0]]),.int (([0,1,0,2,0]:List Int).getD k 0)]
def tkP (k:Nat):PyData := .tuple [.int ((k / 2:Nat):Int),.tuple (if k < 3 then [] else [.tuple [.int (k:Int),.int 0]]),.int (([0,1,0,2,0]:List Int).getD k 0)]
def gnD (g h:Nat):Da := .tup [.tup [.tup [.int 0,.int 0]],.int (g:Int),.tup [.tup [.int 0,.int (h:Int)]]]
def mnD:Option Nat->Da
 |none => .non
 |some m => .int (m:Int)
def psD (ps:List (Nat × Option Nat)):List Da:=ps.map fun p => .tup [tkD p.1,mnD p.2]
def noD (a:Nd):Da := .tup [gnD a.g a.h,.tup (psD a.ps)]
def ctD (ps:List (Nat × Nat)):List Da:=ps.map fun p => .tup [tkD p.1,.int (p.2:Int)]
def ctP (ps:List (Nat × Nat)):List PyData:=ps.map fun p => .tuple [tkP p.1,.int (p.2:Int)]
theorem dT(k:Nat):toP (tkD k)=some (tkP k):=by
 unfold tkD tkP
 by_cases c:k < 3
 ·simp [c,toP,toPs]
 ·simp [c,toP,toPs]
theorem cj{n:Nat}:∀ x∈([]:List Da),Ds n x:=fun _ h=>nomatch h
theorem fC(k:Nat):Ds 5 (tkD k):=by
 unfold tkD
 refine aO (aj (aX 3 _) (aj (aO (n:=3) ?_) (aj (aX 3 _) cj)))
 split
 ·exact cj
 ·exact aj (aO (n:=2) (aj (aX 1 _) (aj (aX 1 _) cj))) cj
theorem fD:∀ ks:List Nat,toPs (ks.map tkD)=some (ks.map tkP)
 |[]=>by simp [toPs]
 |k::r=>by simp [toPs,dT k,fD r]
theorem fA{n:Nat}{d:Da}{p:PyData}(h:Ds n d) (e:toP d=some p) (hn:n<=64):SeqAt.shaped p=true:=by
 obtain⟨q,h1,h2,h3⟩:=h
 rw[e] at h1
 cases h1
 unfold SeqAt.shaped
 rw[h2,decide_eq_true (by omega)]
 rfl
theorem e7(k:Nat):SeqAt.shaped (tkP k)=true:=fA (fC k) (dT k) (by decide)
theorem iv(ks:List Nat):Ds 6 (.lst (ks.map tkD)):=eK fun d hd=>by
 obtain⟨k,_,rfl⟩:=List.mem_map.mp hd
 exact fC k
theorem hC(ks:List Nat):SeqAt.shaped (.list (ks.map tkP))=true:=fA (iv ks) (by unfold toP;rw[fD];rfl) (by decide)
theorem du:∀ i,i < 5->∀ j,j < 5->PyData.eqv (tkP i) (tkP j)=decide (i=j):=lt5
 (lt5 (by decide+kernel) (by decide+kernel) (by decide+kernel) (by decide+kernel) (by decide+kernel))
 (lt5 (by decide+kernel) (by decide+kernel) (by decide+kernel) (by decide+kernel) (by decide+kernel))
 (lt5 (by decide+kernel) (by decide+kernel) (by decide+kernel) (by decide+kernel) (by decide+kernel))
 (lt5 (by decide+kernel) (by decide+kernel) (by decide+kernel) (by decide+kernel) (by decide+kernel))
 (lt5 (by decide+kernel) (by decide+kernel) (by decide+kernel) (by decide+kernel) (by decide+kernel))
theorem jg:∀ i,i < 5->∃ κ,D.ndKey (tkD i)=some κ/\nkD (tkD i)=some κ/\∀ j,j < 5->(nkD (tkD j)=some κ ↔ i=j):=lt5
 ⟨_,rfl,rfl,lt5 (by decide+kernel) (by decide+kernel) (by decide+kernel) (by decide+kernel) (by decide+kernel)⟩
 ⟨_,rfl,rfl,lt5 (by decide+kernel) (by decide+kernel) (by decide+kernel) (by decide+kernel) (by decide+kernel)⟩
 ⟨_,rfl,rfl,lt5 (by decide+kernel) (by decide+kernel) (by decide+kernel) (by decide+kernel) (by decide+kernel)⟩
 ⟨_,rfl,rfl,lt5 (by decide+kernel) (by decide+kernel) (by decide+kernel) (by decide+kernel) (by decide+kernel)⟩
 ⟨_,rfl,rfl,lt5 (by decide+kernel) (by decide+kernel) (by decide+kernel) (by decide+kernel) (by decide+kernel)⟩
theorem gD{k:Nat}(hk:k < 5):∀{ks:List Nat},(∀ x∈ks,x < 5)->((ks.map tkP).any fun z=>PyData.eqv z (tkP k))=decide (k∈ks)
 |[],_=>rfl
 |x::r,h=>by
  rw[List.map_cons,List.any_cons,du x (h x (List.mem_cons_self ..)) k hk,gD hk fun y hy=>h y (List.mem_cons_of_mem _ hy)]
  by_cases c:x=k
  ·rw[decide_eq_true c,Bool.true_or,decide_eq_true (c ▸ List.mem_cons_self ..)]
  ·rw[decide_eq_false c,Bool.false_or]
   exact decide_eq_decide.mpr ⟨List.mem_cons_of_mem _,fun z=>(List.mem_cons.mp z).elim (fun e=>absurd e.symm c) id⟩
theorem kC{k:Nat}(hk:k < 5) {ks:List Nat}(h:∀ x∈ks,x < 5):D.inB (tkD k) (.lst (ks.map tkD))=some (decide (k∈ks)):=by
 show ((toP (tkD k)).bind fun p=>(toPs (ks.map tkD)).bind fun qs=>if SeqAt.shaped p=true/\SeqAt.shaped (.list qs)=true then some (qs.any fun z=>PyData.eqv z p) else none)=_
 rw[dT,fD]
 show (if SeqAt.shaped (tkP k)=true/\SeqAt.shaped (.list (ks.map tkP))=true then _ else none)=_
 rw[if_pos ⟨e7 k,hC ks⟩,gD hk h]
theorem jR{k:Nat}(hk:k < 5) {ks:List Nat}(h:∀ x∈ks,x < 5):D.cnt (.lst (ks.map tkD)) (tkD k)=some (.int ((ks.count k:Nat):Int)):=by
 show ((toPs (ks.map tkD)).bind fun qs=>(toP (tkD k)).bind fun p=>if SeqAt.shaped p=true/\SeqAt.shaped (.list qs)=true then some (Da.int ((qs.countP fun z=>PyData.eqv z p:Nat):Int)) else none)=_
 rw[dT,fD]
 show (if SeqAt.shaped (tkP k)=true/\SeqAt.shaped (.list (ks.map tkP))=true then _ else none)=_
 rw[if_pos ⟨e7 k,hC ks⟩,List.countP_map]
 have e:ks.countP ((fun z=>PyData.eqv z (tkP k)) ∘ tkP)=ks.countP fun x=>x == k:=List.countP_congr fun x hx=>by
  show PyData.eqv (tkP x) (tkP k)=true ↔ (x == k)=true
  rw[du x (h x hx) k hk]
  exact⟨fun z=>beq_iff_eq.mpr (of_decide_eq_true z),fun z=>decide_eq_true (beq_iff_eq.mp z)⟩
 rw[e]
 rfl
theorem jb{i j:Nat}(hi:i < 5) (hj:j < 5):D.AH (tkD i) (tkD j)=some (.bl (decide (i=j))):=by
 show (D.eqB (tkD i) (tkD j)).map Da.bl=_
 have e:D.eqB (tkD i) (tkD j)=some (decide (i=j)):=by
  show ((toP (tkD i)).bind fun p=>(toP (tkD j)).bind fun q=>if SeqAt.shaped p=true/\SeqAt.shaped q=true then some (PyData.eqv p q) else none)=_
  rw[dT,dT]
  show (if SeqAt.shaped (tkP i)=true/\SeqAt.shaped (tkP j)=true then _ else none)=_
  rw[if_pos ⟨e7 i,e7 j⟩,du i hi j hj]
 rw[e]
 rfl
theorem jK:∀ ps:List (Nat × Nat),toPs (ctD ps)=some (ctP ps)
 |[]=>by simp [ctD,ctP,toPs]
 |p::r=>by
  have q:=jK r
  unfold ctD ctP at q ⊢
  simp [toP,toPs,dT,q]
theorem jh(k:Nat) (m:Int):Ds 6 (.tup [tkD k,.int m]):=aO (aj (fC k) (aj (aX 4 _) cj))
theorem kU(n:Nat) (m:Option Nat):Ds (n+1) (mnD m):=by
 cases m with
 |none=>exact kg n
 |some m=>exact aX n _
theorem kr(a:Nd):Ds 8 (noD a):=by
 refine aO (aj ?_ (aj (aO fun d hd=>?_) cj))
 ·exact aO (aj (aO (aj (aO (n:=4) (aj (aX 3 _) (aj (aX 3 _) cj))) cj)) (aj (aX 5 _) (aj (aO (aj (aO (n:=4) (aj (aX 3 _) (aj (aX 3 _) cj))) cj)) cj)))
 ·obtain⟨p,_,rfl⟩:=List.mem_map.mp (show d∈a.ps.map _ from hd)
  exact aO (aj (fC _) (aj (kU 4 _) cj))
theorem gG{k m:Nat}(hk:k < 5):∀{ps:List (Nat × Nat)},(∀ x∈ps,x.1 < 5)->((ctP ps).any fun z=>PyData.eqv z (.tuple [tkP k,.int (m:Int)]))=decide ((k,m)∈ps)
 |[],_=>rfl
 |x::r,h=>by
  have e:PyData.eqv (.tuple [tkP x.1,.int (x.2:Int)]) (.tuple [tkP k,.int (m:Int)])=decide (x=(k,m)):=by
   simp only[PyData.eqv,PyData.eqvAll,du x.1 (h x (List.mem_cons_self ..)) k hk,Bool.and_true]
   obtain⟨x1,x2⟩:=x
   by_cases c:x1=k
   ·by_cases d:x2=m
    ·rw[decide_eq_true c,d,c]
     simp
    ·have d':((x2:Int) == (m:Int))=false:=beq_eq_false_iff_ne.mpr fun z=>d (by exact_mod_cast z)
     rw[d',Bool.and_false,decide_eq_false fun z=>d (Prod.mk.inj z).2]
   ·rw[decide_eq_false c,Bool.false_and,decide_eq_false fun z=>c (Prod.mk.inj z).1]
  show ((PyData.tuple [tkP x.1,.int (x.2:Int)]::ctP r).any fun z=>PyData.eqv z (.tuple [tkP k,.int (m:Int)]))=_
  rw[List.any_cons,e,gG hk fun y hy=>h y (List.mem_cons_of_mem _ hy)]
  by_cases c:x=(k,m)
  ·rw[decide_eq_true c,Bool.true_or,decide_eq_true (c ▸ List.mem_cons_self ..)]
  ·rw[decide_eq_false c,Bool.false_or]
   exact decide_eq_decide.mpr ⟨List.mem_cons_of_mem _,fun z=>(List.mem_cons.mp z).elim (fun e=>absurd e.symm c) id⟩
theorem kR{k m:Nat}(hk:k < 5) {ps:List (Nat × Nat)}(h:∀ x∈ps,x.1 < 5):D.inB (.tup [tkD k,.int (m:Int)]) (.lst (ctD ps))=some (decide ((k,m)∈ps)):=by
 have e1:toP (.tup [tkD k,.int (m:Int)])=some (.tuple [tkP k,.int (m:Int)]):=by simp [toP,toPs,dT]
 have s1:=fA (jh k (m:Int)) e1 (by decide)
 have s2:SeqAt.shaped (.list (ctP ps))=true:=fA (n:=7) (d := .lst (ctD ps)) (eK fun d hd=>by
  obtain⟨p,_,rfl⟩:=List.mem_map.mp hd
  exact jh _ _) (by unfold toP;rw[jK];rfl) (by decide)
 show ((toP (.tup [tkD k,.int (m:Int)])).bind fun p=>(toPs (ctD ps)).bind fun qs=>if SeqAt.shaped p=true/\SeqAt.shaped (.list qs)=true then some (qs.any fun z=>PyData.eqv z p) else none)=_
 rw[e1,jK]
 show (if SeqAt.shaped (.tuple [tkP k,.int (m:Int)])=true/\SeqAt.shaped (.list (ctP ps))=true then _ else none)=_
 rw[if_pos ⟨s1,s2⟩,gG hk h]
theorem jc:∀ g,g < 2->∀ h,h < 2->∀ g',g' < 2->∀ h',h' < 2->D.AG (gnD g h) (gnD g' h')=some (.bl (!decide (g=g'/\h=h'))):=by
 have two:∀{P:Nat->Prop},P 0->P 1->∀ k,k < 2->P k:=fun {P} h0 h1 k hk=>by
  match k,hk with
  |0,_=>exact h0
  |1,_=>exact h1
  |k+2,hk=>exact absurd hk (by omega)
 refine two (two (two (two ?_ ?_) (two ?_ ?_)) (two (two ?_ ?_) (two ?_ ?_))) (two (two (two ?_ ?_) (two ?_ ?_)) (two (two ?_ ?_) (two ?_ ?_))) <;> rfl
def Src (S:Sto) (s:Nat):Prop:=∃ a b:Int,S[s]?=some (.lst [.int a,.int b])
structure Only (s:Nat) (S S':Sto):Prop where
 len:S'.length=S.length
 eq:∀ k,k≠s->S'[k]?=S[k]?
 src:Src S' s
theorem Only.refl{s:Nat}{S:Sto}(h:Src S s):Only s S S:=⟨rfl,fun _ _=>rfl,h⟩
theorem Only.trans{s:Nat}{S S1 S2:Sto}(a:Only s S S1) (b:Only s S1 S2):Only s S S2:=⟨b.len.trans a.len,fun k h=>(b.eq k h).trans (a.eq k h),b.src⟩
theorem fH(x c:Int) (h : -(2 ^ 64) < c/\c < 2 ^ 64):D.Ad (.int x) (.int c)=some (.int (x * c)):=if_pos (decide_eq_true (Or.inr h))
theorem eP(x c:Int) (h:c≠0/\c.natAbs < 1073741824):D.AE (.int x) (.int c)=some (.int (x.fdiv c)):=if_pos (decide_eq_true h)
theorem ed(x c:Int) (h:c≠0):D.AY (.int x) (.int c)=some (.int (x.fmod c)):=if_pos (decide_eq_true h)
theorem bG{S:Sto}{s m:Nat}(h:Src S s) (h1:1<=m) (h2:m<=1000000):∃ S' r,ld S [.ref s,.int m]=some (S',.int (r:Nat))/\r < m/\Only s S S':=by
 obtain⟨a,b,h⟩:=h
 have hn:∀ x:Int,0<=x.fmod (m:Int)/\x.fmod (m:Int) < m:=fun x=>⟨Int.fmod_nonneg_of_pos x (by omega),Int.fmod_lt_of_pos x (by omega)⟩
 have hc:∀ x:Int,∃ r:Nat,x.fmod (m:Int)=(r:Int)/\r < m:=fun x=>⟨(x.fmod (m:Int)).toNat,(Int.toNat_of_nonneg (hn x).1).symm,by have:=hn x;omega⟩
 by_cases c:1 < a
 ·obtain⟨r,r1,r2⟩:=hc a
  have e1:=ed a (m:Int) (by omega)
  have e2:=eP a (m:Int) ⟨by omega,by omega⟩
  rw[r1] at e1
  refine⟨S.set s (.lst [.int (a.fdiv m),.int b]),r,?_,r2,⟨List.length_set ..,fun k hk=>cr hk,⟨_,_,cU h⟩⟩⟩
  apply aR rfl
  ·unfold b7
   apply a7
   apply an
   ·walk_at""
   ·exact decide_eq_true c
   ·apply af
    ·walk_at""
    apply af
    ·apply fm (ds:=[.int a,.int b]) (j:=0)
     ·walk_at""
     ·walk_at""
     ·walk_at""
     ·exact h
     ·rfl
    ·walk_at""
  ·rfl
 ·have m1:=fH b 48271 (by decide)
  have m2:=ed (b * 48271+12345) 2147483647 (by decide)
  generalize hb:(b * 48271+12345).fmod 2147483647=b2 at m2
  have m3:=fH b2 69621 (by decide)
  have m4:=eP b2 127 (by decide)
  have m7:=ed (b2 * 69621+b2.fdiv 127+7) 2147483629 (by decide)
  generalize (b2 * 69621+b2.fdiv 127+7).fmod 2147483629=y at m7
  have m8:=eP y 16 (by decide)
  obtain⟨r,r1,r2⟩:=hc (y.fdiv 16)
  have m9:=ed (y.fdiv 16) (m:Int) (by omega)
  rw[r1] at m9
  have h3:(S.set s (.lst [.int a,.int b2]))[s]?=some (.lst [.int a,.int b2]):=cU h
  refine⟨S.set s (.lst [.int a,.int b2]),r,?_,r2,⟨List.length_set ..,fun k hk=>cr hk,⟨_,_,h3⟩⟩⟩
  apply aR rfl
  ·unfold b7
   apply af
   ·apply ag
    ·walk_at""
    ·exact decide_eq_false c
    ·walk_at""
   apply af (S1:=S.set s (.lst [.int a,.int b2])) (L1:=[])
   ·apply fm (ds:=[.int a,.int b]) (j:=1) (d := .int b2)
    ·walk_at""
    ·walk_at""
    ·walk_at""
    ·exact h
    ·rfl
   apply af
   ·walk_at""
   ·walk_at""
  ·rfl
theorem fP{S:Sto}{cell:Int}{k:Int}:∃ S',lp S [.int cell,.int k]=some (S',.ref S.length)/\Src S' S.length/\(∀ j,j < S.length->S'[j]?=S[j]?)/\S'.length=S.length+1:=by
 have e1:D.Ak (.int 10) (.int 18)=some (.int (10 ^ 18)):=rfl
 by_cases c:(10:Int) ^ 18<=cell
 ·refine⟨S++[.lst [.int (cell - 10 ^ 18),.int (k+1)]],?_,⟨_,_,gX⟩,fun j hj=>List.getElem?_append_left hj,by rw[List.length_append];rfl⟩
  apply aR rfl
  ·unfold bi
   apply a7
   apply an
   ·walk_at""
   ·exact decide_eq_true c
   ·apply am
    apply dJ
    ·walk_at""
    ·rfl
    ·exact Nat.le_of_ble_eq_true rfl
  ·rfl
 ·have m1:=fH cell 7919 (by decide)
  have m2:=fH k 104729 (by decide)
  have m3:=ed (cell * 7919+k * 104729+1) 2147483647 (by decide)
  refine⟨S++[.lst [.int 0,.int ((cell * 7919+k * 104729+1).fmod 2147483647)]],?_,⟨_,_,gX⟩,fun j hj=>List.getElem?_append_left hj,by rw[List.length_append];rfl⟩
  apply aR rfl
  ·unfold bi
   apply af
   ·apply ag
    ·walk_at""
    ·exact decide_eq_false c
    ·walk_at""
   ·apply am
    apply dJ
    ·walk_at""
    ·rfl
    ·exact Nat.le_of_ble_eq_true rfl
  ·rfl
section
variable {S S':Sto}{s:Nat}{L:Loc}{δ:ai}
theorem gV(h:Src S s):∃ S' k,lu S [.ref s]=some (S',tkD k)/\k < 5/\Only s S S':=by
 obtain⟨S',k,q,hk,o⟩:=bG (m:=5) h (by decide) (by decide)
 have e:∀ k:Nat,k < 5->(D.U (D.F (D.I D.AE (D.E 1) (D.c (.int 2))) (D.F (D.Aj (D.U (D.F (D.U (D.F (D.E 1) (D.F (D.c (.int 0)) D.G))) D.G)) (D.I D.AE (D.E 1) (D.c (.int 3)))) (D.F (D.I D.R (D.Z (D.AP (D.F (D.c (.int 0)) (D.F (D.c (.int 1)) (D.F (D.c (.int 0)) (D.F (D.c (.int 2)) (D.F (D.c (.int 0)) D.G))))))) (D.E 1)) D.G)))) S' [] [some (.val (.ref s)),some (.val (.int (k:Int)))]=some (S',.val (tkD k)):=lt5 rfl rfl rfl rfl rfl
 refine⟨S',k,aR (S1:=S') (L:=[]) (e := .val (tkD k)) rfl ?_ rfl,hk,o⟩
 unfold cZ
 exact af (aF (ax (ab (aa rfl) (ab ah ae)) rfl q) rfl) (am (e k hk))
theorem f9(h:Src S s):∃ S' g k,lq S [.ref s]=some (S',gnD g k)/\g < 2/\k < 2/\Only s S S':=by
 obtain⟨S1,r,q1,hr,o1⟩:=bG (m:=3) h (by decide) (by decide)
 obtain⟨S2,k,q2,hk,o2⟩:=bG (m:=2) o1.src (by decide) (by decide)
 have e:D.AE (.int (r:Int)) (.int 2)=some (.int ((r / 2:Nat):Int)):=by
  match r,hr with
  |0,_=>rfl
  |1,_=>rfl
  |2,_=>rfl
  |r+3,hr=>exact absurd hr (by omega)
 refine⟨S2,r / 2,k,aR (S1:=S2) (L:=[]) (e := .val (gnD (r / 2) k)) rfl ?_ rfl,by omega,hk,o1.trans o2⟩
 unfold bN
 exact am (aw (ab (aw (ab (aw (ab ah (ab ah ae)) rfl (Nat.le_of_ble_eq_true rfl)) ae) rfl (Nat.le_of_ble_eq_true rfl))
  (ab (ad (ax (ab (aa rfl) (ab ah ae)) rfl q1) ah rfl rfl e)
  (ab (aw (ab (aw (ab ah (ab (ax (ab (aa rfl) (ab ah ae)) rfl q2) ae)) rfl (Nat.le_of_ble_eq_true rfl)) ae) rfl (Nat.le_of_ble_eq_true rfl)) ae))) rfl (Nat.le_of_ble_eq_true rfl))
theorem dU(h3:δ[3]?=some (some (.val (.ref s)))) (h10:10 < δ.length):∀(ds acc:List Da) (S:Sto),Src S s->∃ S',∃ ks:List Nat,D.lcL (D.H 10) D.AC (D.N lu (D.F (D.E 3) D.G)) [10] ds acc S L δ=some (S',acc++ks.map tkD)/\(∀ k∈ks,k < 5)/\ks.length=ds.length/\Only s S S'
 |[],acc,S,h=>⟨S,[],by rw[List.map_nil,List.append_nil];rfl,(fun _ h=>nomatch h),rfl,Only.refl h⟩
 |d::ds,acc,S,h=>by
  obtain⟨S1,k,q,hk,o⟩:=gV h
  obtain⟨S2,ks,q2,h2,l2,o2⟩:=dU h3 h10 ds (acc++[tkD k]) S1 o.src
  have w:((D.wiped δ [10]).set 10 (some (.val d)))[3]?=some (some (.val (.ref s))):=by
   unfold D.wiped
   rw[List.getElem?_set_ne (by decide),List.getElem?_set_ne (by decide)]
   exact h3
  refine⟨S2,k::ks,ir (δ1:=(D.wiped δ [10]).set 10 (some (.val d))) rfl rfl (ax (ab (aa w) ae) rfl q) ?_,fun x hx=>(List.mem_cons.mp hx).elim (fun e=>e ▸ hk) (h2 x),congrArg (·+1) l2,o.trans o2⟩
  rw[q2,List.append_assoc]
  rfl
theorem eC{g:DG}{A:DE}{vs:List Nat}{ds xs:List Da}(hl:xs.length=ds.length) (go:∀(i:Nat) (d x:Da) (acc:List Da),ds[i]?=some d->xs[i]?=some x->∃ δ1,g S (L++[some acc]) (D.wiped δ vs) (.val d)=some δ1/\A S (L++[some acc]) δ1=some (S,.val x)):D.lcL g D.AC A vs ds [] S L δ=some (S,xs):=by
 obtain⟨S',h,e⟩:=gA (u:=g) (t:=D.AC) (a:=A) (vs:=vs) hl (fun _ T=>S=T) (fun i d x T acc h1 h2 e=>by
  cases e
  obtain⟨δ1,g1,g2⟩:=go i d x acc h1 h2
  exact⟨δ1,S,S,g1,rfl,g2,rfl⟩) (m:=0) (es:=ds) (acc:=[]) (S:=S) List.drop_zero rfl (Nat.zero_le _)
 cases e
 rw[h,List.drop_zero,List.nil_append]
theorem iU{k:Nat}(hk:k < 5) {ps:List (Nat × Nat)}(h5:∀ p∈ps,p.1 < 5) (hl:ps.length<=100):lj S [.tup (ctD ps),tkD k,.int 1]=some (.tup (ctD (ps.map fun p=>if p.1=k then (p.1,p.2+1) else p))):=by
 refine aE (S1:=S) (L:=[]) (e := .val (.tup (ctD (ps.map fun p=>if p.1=k then (p.1,p.2+1) else p)))) rfl ?_ rfl
 unfold bu
 refine am (bH (ab (bj (ee (aC (aa rfl) rfl) (by unfold ctD;rw[List.length_map];omega) (eC (xs:=ctD (ps.map fun p=>if p.1=k then (p.1,p.2+1) else p)) (by unfold ctD;rw[List.length_map,List.length_map,List.length_map]) fun i d x acc h1 h2=>?_))) ae) (ak rfl av) rfl)
 unfold ctD at h1 h2
 rw[List.getElem?_map] at h1
 obtain⟨p,hp,rfl⟩:=Option.map_eq_some_iff.mp h1
 rw[List.map_map,List.getElem?_map,hp] at h2
 cases h2
 have p5:=h5 p (List.mem_of_getElem? hp)
 have e:=jb p5 hk
 refine⟨_,aJ rfl rfl,aw (es:=[_,.val (.int ((if p.1=k then (p.1,p.2+1) else p).2:Int))]) (ab (aa rfl) (ab ?_ ae)) ?_ (Nat.le_of_ble_eq_true rfl)⟩
 ·by_cases c:p.1=k
  ·rw[if_pos c]
   rw[decide_eq_true c] at e
   exact iX (aL (ac (ad (aa rfl) (aa rfl) rfl rfl e) rfl) rfl (ac (ad (aa rfl) ah rfl rfl rfl) rfl)) rfl (ad (aa rfl) (aa rfl) rfl rfl rfl)
  ·rw[if_neg c]
   rw[decide_eq_false c] at e
   exact iP (aU (ac (ad (aa rfl) (aa rfl) rfl rfl e) rfl) rfl) rfl (aa rfl)
 ·show some [tkD p.1,Da.int ((if p.1=k then (p.1,p.2+1) else p).2:Int)]=some [tkD (if p.1=k then (p.1,p.2+1) else p).1,Da.int ((if p.1=k then (p.1,p.2+1) else p).2:Int)]
  split <;> rfl
theorem kq{G:Da}{k:Nat}(hk:k < 5) {ps:List (Nat × Nat)}(h5:∀ p∈ps,p.1 < 5) (hl:ps.length<=100):ly S [.tup [G,.tup (ctD ps)],tkD k]=some (.tup [G,.tup (ctD (cQ ps k))]):=by
 have ik:=kC hk (ks:=ps.map (·.1)) fun x hx=>by
  obtain⟨p,hp,rfl⟩:=List.mem_map.mp hx
  exact h5 p hp
 have ni:D.s (tkD k) (.lst ((ps.map (·.1)).map tkD))=some (.bl (!decide (k∈ps.map (·.1)))):=by
  unfold D.s
  rw[ik]
  rfl
 have lc:D.Z (D.lc (D.W (D.E 3)) (D.P [4,5]) D.AC (D.E 4) [4,5]) S [] [some (.val (.tup [G,.tup (ctD ps)])),some (.val (tkD k)),some (.val G),some (.val (.tup (ctD ps))),none,none]=some (S,.val (.lst ((ps.map (·.1)).map tkD))) :=
  bj (ee (aC (aa rfl) rfl) (by unfold ctD;rw[List.length_map];omega) (eC (by unfold ctD;rw[List.length_map,List.length_map,List.length_map]) fun i d x acc h1 h2=>by
   unfold ctD at h1
   rw[List.getElem?_map] at h1
   obtain⟨p,hp,rfl⟩:=Option.map_eq_some_iff.mp h1
   rw[List.map_map,List.getElem?_map,hp] at h2
   cases h2
   exact⟨_,aJ rfl rfl,aa rfl⟩))
 refine aE (S1:=S) (L:=[]) (e := .val (.tup [G,.tup (ctD (cQ ps k))])) rfl ?_ rfl
 unfold hV
 have t0:D.X (D.E 0) (D.P [2,3]) S [] (D.env0 6 [.tup [G,.tup (ctD ps)],tkD k])=some (.nx S [] [some (.val (.tup [G,.tup (ctD ps)])),some (.val (tkD k)),some (.val G),some (.val (.tup (ctD ps))),none,none]):=aF (aa rfl) (aJ rfl rfl)
 refine af t0 ?_
 unfold cQ
 by_cases c:k∈ps.map (·.1)
 ·rw[if_pos c]
  rw[decide_eq_true c] at ni
  refine af (ag (ac (ad (aa rfl) lc rfl rfl ni) rfl) rfl aB) (am (aw (ab (aa rfl) (ab (aD (ab (aa rfl) (ab (aa rfl) (ab ah ae))) rfl (iU hk h5 hl)) ae)) rfl (Nat.le_of_ble_eq_true rfl)))
 ·rw[if_neg c]
  rw[decide_eq_false c] at ni
  have vl:∀ ps:List (Nat × Nat),D.vals ((ctD ps).map Ev.val++[.val (.tup [tkD k,.int 1])])=some (ctD (ps++[(k,1)])):=fun ps=>by
   induction ps with
   |nil=>rfl
   |cons p r ih =>
    show (D.vals ((ctD r).map Ev.val++[.val (.tup [tkD k,.int 1])])).map _=_
    rw[ih]
    rfl
  refine a7 (an (ac (ad (aa rfl) lc rfl rfl ni) rfl) rfl (am (aw (ab (aa rfl) (ab (aw (gC (aa rfl) rfl rfl (ab (aw (ab (aa rfl) (ab ah ae)) rfl (Nat.le_of_ble_eq_true rfl)) ae)) (vl ps) ?_) ae)) rfl (Nat.le_of_ble_eq_true rfl))))
  rw[List.length_append,List.length_map]
  unfold ctD
  rw[List.length_map]
  show _+1<=_
  omega
theorem iZ{k:Nat}(hk:k < 5) {ps:List (Nat × Nat)}(h5:∀ p∈ps,p.1 < 5):(∀ p∈cQ ps k,p.1 < 5)/\(cQ ps k).length<=ps.length+1:=by
 unfold cQ
 split
 ·refine⟨fun p hp=>?_,by rw[List.length_map];omega⟩
  obtain⟨q,hq,rfl⟩:=List.mem_map.mp hp
  split <;> exact h5 q hq
 ·refine⟨fun p hp=>(List.mem_append.mp hp).elim (h5 p) fun z=>by rw[List.mem_singleton.mp z];exact hk,by rw[List.length_append];exact Nat.le_refl _⟩
theorem cY{G tk:Da}{L:Loc}:∀(ks:List Nat) (ps:List (Nat × Nat)) (y:Option Ev),(∀ k∈ks,k < 5)->(∀ p∈ps,p.1 < 5)->ps.length+ks.length<=100 ->
  ∃ y',D.forL (D.H 3) (D.X (D.M ly (D.F (D.E 2) (D.F (D.E 3) D.G))) (D.H 2)) (ks.map tkD) S L [some (.val G),some (.val tk),some (.val (.tup [G,.tup (ctD ps)])),y]=some (.nx S L [some (.val G),some (.val tk),some (.val (.tup [G,.tup (ctD (ks.foldl cQ ps))])),y'])
 |[],ps,y,_,_,_=>⟨y,rfl⟩
 |k::ks,ps,y,h,h5,hl=>by
  have hl:ps.length+(ks.length+1)<=100:=hl
  have hk:=h k (List.mem_cons_self ..)
  obtain⟨n5,nl⟩:=iZ hk h5
  obtain⟨y',e⟩:=cY ks (cQ ps k) (some (.val (tkD k))) (fun x hx=>h x (List.mem_cons_of_mem _ hx)) n5 (by omega)
  exact⟨y',aK rfl (aF (aD (ab (aa rfl) (ab (aa rfl) ae)) rfl (kq hk h5 (by omega))) rfl) e⟩
theorem eU{G:Da}{ks:List Nat}(h:∀ k∈ks,k < 5) (hl:ks.length<=9):lr S [G,.lst (ks.map tkD)]=some (.tup [G,.tup (ctD (aI ks))]):=by
 obtain⟨y',e⟩:=cY (S:=S) (G:=G) (tk := .lst (ks.map tkD)) (L:=[]) ks [] none h (fun _ z=>nomatch z) (by show 0+ks.length<=100;omega)
 refine aE (S1:=S) (L:=[]) (e := .val (.tup [G,.tup (ctD (aI ks))])) rfl ?_ rfl
 unfold cf
 exact af (aF (aw (ab (aa rfl) (ab (aw ae rfl (Nat.zero_le _)) ae)) rfl (Nat.le_of_ble_eq_true rfl)) rfl) (af (aH (aC (aa rfl) rfl) e) (am (aa rfl)))
theorem cX{G:Da}{T:List Nat}(hT:∀ k∈T,k < 5):∀(ks:List Nat) (ps:List (Nat × Nat)) (y3 y4:Option Ev),(∀ k∈ks,k < 5)->(∀ p∈ps,p.1 < 5)->ps.length+ks.length<=100 ->
  ∃ y3' y4',D.forL (D.H 3) (D.K (D.X (D.Ac (D.E 1) (D.E 3)) (D.H 4))
   (D.Q (D.J (D.I D.s (D.U (D.F (D.E 3) (D.F (D.E 4) D.G))) (D.E 2)))
    (D.AD 2 (D.U (D.F (D.E 3) (D.F (D.E 4) D.G))))
    D.Y)) (ks.map tkD) S [some (ctD ps)] [some (.val G),some (.val (.lst (T.map tkD))),some (.own 0),y3,y4] =
   some (.nx S [some (ctD (ks.foldl (fun acc k=>if (k,T.count k)∈acc then acc else acc++[(k,T.count k)]) ps))] [some (.val G),some (.val (.lst (T.map tkD))),some (.own 0),y3',y4'])
 |[],ps,y3,y4,_,_,_=>⟨y3,y4,rfl⟩
 |k::ks,ps,y3,y4,h,h5,hl=>by
  have hl:ps.length+(ks.length+1)<=100:=hl
  have hk:=h k (List.mem_cons_self ..)
  have c1:=jR hk hT
  have i1:=kR (m:=T.count k) hk h5
  have b1:D.X (D.Ac (D.E 1) (D.E 3)) (D.H 4) S [some (ctD ps)] [some (.val G),some (.val (.lst (T.map tkD))),some (.own 0),some (.val (tkD k)),y4]=some (.nx S [some (ctD ps)] [some (.val G),some (.val (.lst (T.map tkD))),some (.own 0),some (.val (tkD k)),some (.val (.int ((T.count k:Nat):Int)))]):=by
   refine aF (x := .val (.int ((T.count k:Nat):Int))) ?_ rfl
   show ((D.cnt (.lst (T.map tkD)) (tkD k)).map fun d=>(S,Ev.val d))=_
   rw[c1]
   rfl
  have ni:D.s (.tup [tkD k,.int ((T.count k:Nat):Int)]) (.lst (ctD ps))=some (.bl (!decide ((k,T.count k)∈ps))):=by
   unfold D.s
   rw[i1]
   rfl
  by_cases c:(k,T.count k)∈ps
  ·obtain⟨y3',y4',e⟩:=cX hT ks ps (some (.val (tkD k))) (some (.val (.int ((T.count k:Nat):Int)))) (fun x hx=>h x (List.mem_cons_of_mem _ hx)) h5 (by omega)
   rw[decide_eq_true c] at ni
   refine⟨y3',y4',aK rfl (af b1 (ag (ac (ad (aw (ab (aa rfl) (ab (aa rfl) ae)) rfl (Nat.le_of_ble_eq_true rfl)) (aa rfl) rfl rfl ni) rfl) rfl aB)) ?_⟩
   rw[e,List.foldl_cons,if_pos c]
  ·obtain⟨y3',y4',e⟩:=cX hT ks (ps++[(k,T.count k)]) (some (.val (tkD k))) (some (.val (.int ((T.count k:Nat):Int)))) (fun x hx=>h x (List.mem_cons_of_mem _ hx)) (fun p hp=>(List.mem_append.mp hp).elim (h5 p) fun z=>by rw[List.mem_singleton.mp z];exact hk) (by rw[List.length_append];show ps.length+1+ks.length<=100;omega)
   rw[decide_eq_false c] at ni
   have ap:[some (ctD ps)].set 0 (some (ctD ps++[.tup [tkD k,.int ((T.count k:Nat):Int)]]))=[some (ctD (ps++[(k,T.count k)]))]:=by
    unfold ctD
    rw[List.map_append]
    rfl
   refine⟨y3',y4',aK rfl (af b1 (an (ac (ad (aw (ab (aa rfl) (ab (aa rfl) ae)) rfl (Nat.le_of_ble_eq_true rfl)) (aa rfl) rfl rfl ni) rfl) rfl (eB (j:=0) (aw (ab (aa rfl) (ab (aa rfl) ae)) rfl (Nat.le_of_ble_eq_true rfl)) rfl rfl (by unfold ctD;rw[List.length_map];omega)))) ?_⟩
   rw[ap,e,List.foldl_cons,if_neg c]
theorem eg{G:Da}{ks:List Nat}(h:∀ k∈ks,k < 5) (hl:ks.length<=9):lw S [G,.lst (ks.map tkD)]=some (.tup [G,.tup (ctD (aI ks))]):=by
 obtain⟨y3,y4,e⟩:=cX (S:=S) (G:=G) h ks [] none none h (fun _ z=>nomatch z) (by show 0+ks.length<=100;omega)
 have en:ctD (db ks ks)=ctD (aI ks):=by rw[hP]
 refine aE (S1:=S) (L:=[some (ctD (db ks ks))]) (e := .val (.tup [G,.tup (ctD (aI ks))])) rfl ?_ rfl
 unfold c9
 refine af (bZ (cw ae rfl (Nat.zero_le _))) (af (aH (aC (aa rfl) rfl) e) (am (aw (ab (aa rfl) (ab (bH (ab (aa rfl) ae) (ak rfl av) ?_) ae)) rfl (Nat.le_of_ble_eq_true rfl))))
 show some (Da.tup (ctD (db ks ks)))=_
 rw[en]
end
section
variable {S S':Sto}{s:Nat}{L:Loc}{δ:ai}
theorem jI(o m:Option Nat):lm S [mnD o,mnD m]=some (.bl (cL o m)):=by
 cases o with
 |none=>cases m <;> rfl
 |some a =>
  cases m with
  |none=>rfl
  |some b =>
   show some (Da.bl (decide ((a:Int) < (b:Int))))=some (Da.bl (decide (a < b)))
   rw[decide_eq_decide.mpr Int.ofNat_lt]
noncomputable abbrev chB:DS:=(D.K (D.X (D.N ld (D.F (D.E 0) (D.F (D.c (.int 6)) D.G))) (D.H 5))
   (D.Q (D.J (D.I D.AH (D.E 5) (D.c (.int 0))))
    (D.AD 2 (D.U (D.F (D.E 3) (D.F (D.c .non) D.G))))
    (D.Q (D.J (D.I D.AH (D.E 5) (D.c (.int 1))))
     (D.AD 2 (D.U (D.F (D.E 3) (D.F (D.I D.AQ (D.E 4) (D.c (.int 1))) D.G))))
     (D.Q (D.h (D.J (D.I D.AH (D.E 5) (D.c (.int 2)))) (D.J (D.I D.gt (D.E 4) (D.c (.int 1)))))
      (D.AD 2 (D.U (D.F (D.E 3) (D.F (D.I D.Af (D.E 4) (D.c (.int 1))) D.G))))
      (D.Q (D.J (D.I D.lt (D.E 5) (D.c (.int 5))))
       (D.AD 2 (D.U (D.F (D.E 3) (D.F (D.E 4) D.G))))
       D.Y)))))
abbrev chE (s:Nat) (nd:Da) (y3 y4 y5:Option Ev):ai:=[some (.val (.ref s)),some (.val nd),some (.own 0),y3,y4,y5]
theorem j3(acc:List (Nat × Option Nat)) (k:Nat) (o:Option Nat):psD (acc++[(k,o)])=psD acc++[.tup [tkD k,mnD o]]:=by
 unfold psD
 rw[List.map_append]
 rfl
theorem iR{nd:Da}{y5:Option Ev}{k m:Nat}(hm:1<=m) {acc:List (Nat × Option Nat)}(hl:acc.length<=100) (h:Src S s):∃ S',∃ e:List (Nat × Option Nat),∃ y,chB S [some (psD acc)] (chE s nd (some (.val (tkD k))) (some (.val (.int (m:Int)))) y5)=some (.nx S' [some (psD (acc++e))] (chE s nd (some (.val (tkD k))) (some (.val (.int (m:Int)))) y)) /\
  (e=[]\/∃ o,e=[(k,o)]/\o≠some 0)/\Only s S S':=by
 obtain⟨S1,r,q,hr,o⟩:=bG (m:=6) h (by decide) (by decide)
 have b1:D.X (D.N ld (D.F (D.E 0) (D.F (D.c (.int 6)) D.G))) (D.H 5) S [some (psD acc)] (chE s nd (some (.val (tkD k))) (some (.val (.int (m:Int)))) y5)=some (.nx S1 [some (psD acc)] (chE s nd (some (.val (tkD k))) (some (.val (.int (m:Int)))) (some (.val (.int (r:Int)))))):=aF (ax (ab (aa rfl) (ab ah ae)) rfl q) rfl
 have pl:(psD acc).length<=100000:=by unfold psD;rw[List.length_map];omega
 have ap:∀{A:DE}{o:Option Nat}{y:Option Ev},A S1 [some (psD acc)] (chE s nd (some (.val (tkD k))) (some (.val (.int (m:Int)))) y)=some (S1,.val (mnD o))->D.AD 2 (D.U (D.F (D.E 3) (D.F A D.G))) S1 [some (psD acc)] (chE s nd (some (.val (tkD k))) (some (.val (.int (m:Int)))) y)=some (.nx S1 [some (psD (acc++[(k,o)]))] (chE s nd (some (.val (tkD k))) (some (.val (.int (m:Int)))) y)):=fun {A o y} hA=>by
  rw[j3]
  exact eB (j:=0) (aw (ab (aa rfl) (ab hA ae)) rfl (Nat.le_of_ble_eq_true rfl)) rfl rfl pl
 have gt:D.gt (.int (m:Int)) (.int 1)=some (.bl (decide ((1:Int) < (m:Int)))):=rfl
 have keep:∀{y:Option Ev},D.AD 2 (D.U (D.F (D.E 3) (D.F (D.E 4) D.G))) S1 [some (psD acc)] (chE s nd (some (.val (tkD k))) (some (.val (.int (m:Int)))) y)=some (.nx S1 [some (psD (acc++[(k,some m)]))] (chE s nd (some (.val (tkD k))) (some (.val (.int (m:Int)))) y)):=ap (o:=some m) (aa rfl)
 match r,hr with
 |0,_=>exact⟨S1,[(k,none)],_,af b1 (an (ac (ad (aa rfl) ah rfl rfl rfl) rfl) rfl (ap (o:=none) ah)),.inr ⟨none,rfl,fun z=>by cases z⟩,o⟩
 |1,_=>exact⟨S1,[(k,some (m+1))],_,af b1 (ag (ac (ad (aa rfl) ah rfl rfl rfl) rfl) rfl (an (ac (ad (aa rfl) ah rfl rfl rfl) rfl) rfl (ap (o:=some (m+1)) (ad (aa rfl) ah rfl rfl rfl)))),.inr ⟨_,rfl,fun z=>by cases z⟩,o⟩
 |2,_ =>
  by_cases c:1 < m
  ·have sb:D.Af (.int (m:Int)) (.int 1)=some (mnD (some (m - 1))):=congrArg (fun z=>some (Da.int z)) (by omega)
   rw[decide_eq_true (show (1:Int) < (m:Int) by omega)] at gt
   exact⟨S1,[(k,some (m - 1))],_,af b1 (ag (ac (ad (aa rfl) ah rfl rfl rfl) rfl) rfl (ag (ac (ad (aa rfl) ah rfl rfl rfl) rfl) rfl (an (aL (ac (ad (aa rfl) ah rfl rfl rfl) rfl) rfl (ac (ad (aa rfl) ah rfl rfl gt) rfl)) rfl (ap (o:=some (m - 1)) (ad (aa rfl) ah rfl rfl sb))))),.inr ⟨_,rfl,fun z=>by have:=Option.some.inj z;omega⟩,o⟩
  ·rw[decide_eq_false (show ¬ (1:Int) < (m:Int) by omega)] at gt
   exact⟨S1,[(k,some m)],_,af b1 (ag (ac (ad (aa rfl) ah rfl rfl rfl) rfl) rfl (ag (ac (ad (aa rfl) ah rfl rfl rfl) rfl) rfl (ag (aL (ac (ad (aa rfl) ah rfl rfl rfl) rfl) rfl (ac (ad (aa rfl) ah rfl rfl gt) rfl)) rfl (an (ac (ad (aa rfl) ah rfl rfl rfl) rfl) rfl keep)))),.inr ⟨_,rfl,fun z=>by have:=Option.some.inj z;omega⟩,o⟩
 |3,_=>exact⟨S1,[(k,some m)],_,af b1 (ag (ac (ad (aa rfl) ah rfl rfl rfl) rfl) rfl (ag (ac (ad (aa rfl) ah rfl rfl rfl) rfl) rfl (ag (aU (ac (ad (aa rfl) ah rfl rfl rfl) rfl) rfl) rfl (an (ac (ad (aa rfl) ah rfl rfl rfl) rfl) rfl keep)))),.inr ⟨_,rfl,fun z=>by have:=Option.some.inj z;omega⟩,o⟩
 |4,_=>exact⟨S1,[(k,some m)],_,af b1 (ag (ac (ad (aa rfl) ah rfl rfl rfl) rfl) rfl (ag (ac (ad (aa rfl) ah rfl rfl rfl) rfl) rfl (ag (aU (ac (ad (aa rfl) ah rfl rfl rfl) rfl) rfl) rfl (an (ac (ad (aa rfl) ah rfl rfl rfl) rfl) rfl keep)))),.inr ⟨_,rfl,fun z=>by have:=Option.some.inj z;omega⟩,o⟩
 |5,_=>exact⟨S1,[],_,af b1 (ag (ac (ad (aa rfl) ah rfl rfl rfl) rfl) rfl (ag (ac (ad (aa rfl) ah rfl rfl rfl) rfl) rfl (ag (aU (ac (ad (aa rfl) ah rfl rfl rfl) rfl) rfl) rfl (ag (ac (ad (aa rfl) ah rfl rfl rfl) rfl) rfl (by rw[List.append_nil];exact aB))))),.inl rfl,o⟩
 |r+6,hr=>exact absurd hr (by omega)
theorem dX{nd:Da}:∀(ps:List (Nat × Nat)) (acc:List (Nat × Option Nat)) (S:Sto) (y3 y4 y5:Option Ev),Src S s->(∀ p∈ps,1<=p.2)->acc.length+ps.length<=100 ->
  ∃ S',∃ bs:List (Nat × Option Nat),∃ y3' y4' y5',D.forL (D.P [3,4]) chB (ctD ps) S [some (psD acc)] (chE s nd y3 y4 y5)=some (.nx S' [some (psD (acc++bs))] (chE s nd y3' y4' y5'))/\(bs.map (·.1)).Sublist (ps.map (·.1))/\(∀ q∈bs,q.2≠some 0)/\bs.length<=ps.length/\Only s S S'
 |[],acc,S,y3,y4,y5,h,_,_=>⟨S,[],y3,y4,y5,by rw[List.append_nil];rfl,List.Sublist.slnil,(fun _ z=>nomatch z),Nat.le_refl _,Only.refl h⟩
 |(k,m)::ps,acc,S,y3,y4,y5,h,hm,hl=>by
  have hl:acc.length+(ps.length+1)<=100:=hl
  obtain⟨S1,e,y,q1,he,o1⟩:=iR (nd:=nd) (y5:=y5) (k:=k) (m:=m) (hm _ (List.mem_cons_self ..)) (acc:=acc) (by omega) h
  have el:e.length<=1:=by
   rcases he with rfl | ⟨o,rfl,_⟩
   ·exact Nat.zero_le _
   ·exact Nat.le_refl _
  obtain⟨S2,bs,z3,z4,z5,q2,s2,n2,l2,o2⟩:=dX (nd:=nd) ps (acc++e) S1 (some (.val (tkD k))) (some (.val (.int (m:Int)))) y o1.src (fun p hp=>hm p (List.mem_cons_of_mem _ hp)) (by rw[List.length_append];omega)
  refine⟨S2,e++bs,z3,z4,z5,aK (aJ rfl rfl) q1 (by rw[<- List.append_assoc];exact q2),?_,fun q hq=>?_,by rw[List.length_append];show _<=ps.length+1;omega,o1.trans o2⟩
  ·rw[List.map_append]
   rcases he with rfl | ⟨o,rfl,_⟩
   ·exact List.Sublist.cons k s2
   ·exact List.Sublist.cons₂ k s2
  ·rcases List.mem_append.mp hq with hq | hq
   ·rcases he with rfl | ⟨o,rfl,ho⟩
    ·cases hq
    ·rw[List.mem_singleton.mp hq]
     exact ho
   ·exact n2 q hq
theorem eQ{g k:Nat}{ps:List (Nat × Nat)}(hg:g < 2) (hk:k < 2) (h5:∀ p∈ps,p.1 < 5) (h1:∀ p∈ps,1<=p.2) (nd:(ps.map (·.1)).Nodup) (hl:ps.length<=9) (h:Src S s):∃ S' b,lf S [.ref s,.tup [gnD g k,.tup (ctD ps)]]=some (S',noD b)/\NdOk b/\Only s S S':=by
 obtain⟨S1,bs,y3,y4,y5,e,sb,n0,bl,o1⟩:=dX (nd := .tup [gnD g k,.tup (ctD ps)]) ps [] S none none none h h1 (by show 0+ps.length<=100;omega)
 obtain⟨S2,r,q,hr,o2⟩:=bG (m:=2) o1.src (by decide) (by decide)
 have b5:∀ p∈bs,p.1 < 5:=fun p hp=>by
  obtain⟨x,hx,e⟩:=List.mem_map.mp (sb.subset (List.mem_map.mpr ⟨p,hp,rfl⟩))
  rw[<- e]
  exact h5 x hx
 have rv:psD bs.reverse=(psD bs).reverse:=by unfold psD;rw[List.map_reverse]
 have i0:D.W (D.I D.R (D.E 1) (D.c (.int 1))) S [some []] (chE s (.tup [gnD g k,.tup (ctD ps)]) none none none)=some (S,ctD ps):=aC (ad (aa rfl) ah rfl rfl rfl) rfl
 have fin:∀(bs:List (Nat × Option Nat)) (L:Loc) (δ:ai) (j:Nat),δ[1]?=some (some (.val (.tup [gnD g k,.tup (ctD ps)])))->δ[2]?=some (some (.own j))->L[j]?=some (some (psD bs))->D.O (D.U (D.F (D.I D.R (D.E 1) (D.c (.int 0))) (D.F (D.cb D.tuple (D.F (D.E 2) D.G)) D.G))) S2 L δ=some (.rt S2 L (.val (noD ⟨g,k,bs⟩))):=fun bs L δ j d1 d2 d3 =>
  am (aw (ab (ad (aa d1) ah rfl rfl rfl) (ab (bH (ab (aa d2) ae) (ak (d := .lst (psD bs)) (by simp only[rdE,d3]) av) rfl) ae)) rfl (Nat.le_of_ble_eq_true rfl))
 match r,hr with
 |0,_ =>
  refine⟨S2,⟨g,k,bs.reverse⟩,aR (S1:=S2) (L:=[some (psD bs),some (psD bs.reverse)]) (e := .val (noD ⟨g,k,bs.reverse⟩)) rfl ?_ rfl,⟨hg,hk,?_,fun p hp=>b5 p (List.mem_reverse.mp hp),fun p hp=>n0 p (List.mem_reverse.mp hp),by rw[List.length_reverse];omega⟩,o1.trans o2⟩
  ·unfold a9
   refine af (bZ (cw ae rfl (Nat.zero_le _))) (af (aH i0 e) (af (an (ac (ad (ax (ab (aa rfl) (ab ah ae)) rfl q) ah rfl rfl rfl) rfl) rfl (bZ (ds:=psD bs.reverse) ?_)) (fin bs.reverse _ _ 1 rfl rfl rfl)))
   rw[rv]
   rfl
  ·rw[List.map_reverse]
   exact List.pairwise_reverse.mpr ((nd.sublist sb).imp fun h=>Ne.symm h)
 |1,_ =>
  refine⟨S2,⟨g,k,bs⟩,aR (S1:=S2) (L:=[some (psD bs)]) (e := .val (noD ⟨g,k,bs⟩)) rfl ?_ rfl,⟨hg,hk,nd.sublist sb,b5,n0,by show bs.length<=100;omega⟩,o1.trans o2⟩
  unfold a9
  exact af (bZ (cw ae rfl (Nat.zero_le _))) (af (aH i0 e) (af (ag (ac (ad (ax (ab (aa rfl) (ab ah ae)) rfl q) ah rfl rfl rfl) rfl) rfl aB) (fin bs _ _ 0 rfl rfl rfl)))
 |r+2,hr=>exact absurd hr (by omega)
end
section
variable {S:Sto}{L:Loc}{δ:ai}
theorem dq{k:Nat}{κ:NestedKey}(hκ:∀ j,j < 5->(nkD (tkD j)=some κ ↔ k=j)):∀{ps:List (Nat × Option Nat)},(∀ p∈ps,p.1 < 5)->(lookN ps k=none/\D.ndAt κ (ps.map fun p=>tkD p.1)=none)\/∃ o i,lookN ps k=some o/\D.ndAt κ (ps.map fun p=>tkD p.1)=some i/\(ps.map fun p=>mnD p.2)[i]?=some (mnD o)
 |[],_ => .inl ⟨rfl,rfl⟩
 |p::ps,h=>by
  have hp:=hκ p.1 (h p (List.mem_cons_self ..))
  unfold lookN
  rw[List.find?_cons]
  show _\/∃ o i,_/\(if nkD (tkD p.1)=some κ then some 0 else (D.ndAt κ (ps.map fun p=>tkD p.1)).map (·+1))=some i/\_
  by_cases c:p.1=k
  ·rw[decide_eq_true c,if_pos (hp.mpr c.symm)]
   exact .inr ⟨p.2,0,rfl,rfl,rfl⟩
  ·have nc:¬ nkD (tkD p.1)=some κ:=fun z=>c (hp.mp z).symm
   rw[decide_eq_false c,if_neg nc]
   rcases dq hκ (ps:=ps) fun q hq=>h q (List.mem_cons_of_mem _ hq) with ⟨q1,q2⟩ | ⟨o,i,q1,q2,q3⟩
   ·refine .inl ⟨q1,?_⟩
    show (if nkD (tkD p.1)=some κ then some 0 else (D.ndAt κ (ps.map fun p=>tkD p.1)).map (·+1))=none
    rw[if_neg nc,q2]
    rfl
   ·exact .inr ⟨o,i+1,q1,by rw[q2];rfl,q3⟩
theorem fZ{ps:List (Nat × Option Nat)}{k:Nat}(h:k ∉ ps.map (·.1)):lookN ps k=none:=by
 cases e:lookN ps k with
 |none=>rfl
 |some o=>exact absurd (List.mem_map.mpr ⟨_,dp e,rfl⟩) h
theorem ie{e0 e1 y2 y3 y4:Option Ev}:∀(todo done:List (Nat × Option Nat)),((done++todo).map (·.1)).Nodup->(∀ p∈done++todo,p.1 < 5) ->
  D.ndL (D.P [3,4]) (D.E 3) (D.E 4) [3,4] (psD todo) (done.map fun p=>tkD p.1) (done.map fun p=>mnD p.2) S L [e0,e1,y2,y3,y4]=some (S,((done++todo).map fun p=>tkD p.1),((done++todo).map fun p=>mnD p.2))
 |[],done,_,_=>by rw[List.append_nil];rfl
 |p::todo,done,nd,h5=>by
  have p5:=h5 p (List.mem_append_right _ (List.mem_cons_self ..))
  obtain⟨κ,k1,k2,k3⟩:=jg p.1 p5
  have np:p.1 ∉ done.map (·.1):=fun z=>by
   rw[List.map_append] at nd
   exact(List.nodup_append.mp nd).2.2 _ z _ (List.mem_cons_self ..) rfl
  have na:D.ndAt κ (done.map fun p=>tkD p.1)=none:=by
   rcases dq k3 (ps:=done) (fun q hq=>h5 q (List.mem_append_left _ hq)) with ⟨_,q⟩ | ⟨o,i,q,_⟩
   ·exact q
   ·rw[fZ np] at q
    cases q
  have e:=ie (e0:=e0) (e1:=e1) (y2:=y2) (y3:=y3) (y4:=y4) todo (done++[p]) (by rw[List.append_assoc];exact nd) (by rw[List.append_assoc];exact h5)
  have pt:D.ndPut κ (tkD p.1) (mnD p.2) (done.map fun p=>tkD p.1) (done.map fun p=>mnD p.2)=((done++[p]).map fun p=>tkD p.1,(done++[p]).map fun p=>mnD p.2):=by
   unfold D.ndPut
   rw[na,List.map_append,List.map_append]
   rfl
  show ((D.ndKey (tkD p.1)).bind fun κ=>D.ndL (D.P [3,4]) (D.E 3) (D.E 4) [3,4] (psD todo) (D.ndPut κ (tkD p.1) (mnD p.2) (done.map fun p=>tkD p.1) (done.map fun p=>mnD p.2)).1 (D.ndPut κ (tkD p.1) (mnD p.2) (done.map fun p=>tkD p.1) (done.map fun p=>mnD p.2)).2 S L [e0,e1,y2,y3,y4])=_
  rw[k1]
  show D.ndL _ _ _ _ _ (D.ndPut κ (tkD p.1) (mnD p.2) (done.map fun p=>tkD p.1) (done.map fun p=>mnD p.2)).1 (D.ndPut κ (tkD p.1) (mnD p.2) (done.map fun p=>tkD p.1) (done.map fun p=>mnD p.2)).2 S L _=_
  rw[pt,e,List.append_assoc]
  rfl
theorem dS:∀ bs:List Bool,D.bools (bs.map Da.bl)=some bs
 |[]=>rfl
 |b::r=>by
  show (D.bools (r.map Da.bl)).map _=_
  rw[dS r]
  rfl
def b6 (b:List (Nat × Option Nat)) (p:Nat × Option Nat):Bool:=match lookN b p.1 with
 |none=>false
 |some o => !cL o p.2
theorem iJ{a b:Nd}(A:NdOk a) (B:NdOk b):le S [noD a,noD b]=some (.bl (inN a b)):=by
 have g:=jc a.g A.g a.h A.h b.g B.g b.h B.h
 refine aE (S1:=S) (L:=[]) (e := .val (.bl (inN a b))) rfl ?_ rfl
 unfold ba inN
 by_cases c:a.g=b.g/\a.h=b.h
 ·rw[decide_eq_true c] at g ⊢
  have nl:=ie (S:=S) (L:=[]) (e0:=some (.val (noD a))) (e1:=some (.val (noD b))) (y2:=none) (y3:=none) (y4:=none) b.ps [] B.nd B.k5
  have n1:D.Ah (D.W (D.I D.R (D.E 1) (D.c (.int 1)))) (D.P [3,4]) (D.E 3) (D.E 4) [3,4] S [] [some (.val (noD a)),some (.val (noD b)),none,none,none]=some (S,.val (.nd (b.ps.map fun p=>tkD p.1) (b.ps.map fun p=>mnD p.2))):=by
   unfold D.Ah
   rw[show D.W (D.I D.R (D.E 1) (D.c (.int 1))) S [] [some (.val (noD a)),some (.val (noD b)),none,none,none]=some (S,psD b.ps) from aC (ad (aa rfl) ah rfl rfl rfl) rfl]
   show (if (psD b.ps).length<=100000 then (D.ndL (D.P [3,4]) (D.E 3) (D.E 4) [3,4] (psD b.ps) [] [] S [] [some (.val (noD a)),some (.val (noD b)),none,none,none]).map _ else none)=_
   rw[if_pos (by unfold psD;rw[List.length_map];have:=B.len;omega)]
   have nl:D.ndL (D.P [3,4]) (D.E 3) (D.E 4) [3,4] (psD b.ps) [] [] S [] [some (.val (noD a)),some (.val (noD b)),none,none,none]=_:=nl
   rw[nl]
   rfl
  have lc:D.Z (D.lc (D.W (D.I D.R (D.E 0) (D.c (.int 1)))) (D.P [3,4]) D.AC (D.AM (D.I D.AR (D.E 3) (D.E 2)) (D.AW (D.M lm (D.F (D.I D.AT (D.E 2) (D.E 3)) (D.F (D.E 4) D.G))))) [3,4]) S [] [some (.val (noD a)),some (.val (noD b)),some (.val (.nd (b.ps.map fun p=>tkD p.1) (b.ps.map fun p=>mnD p.2))),none,none]=some (S,.val (.lst ((a.ps.map (b6 b.ps)).map Da.bl))) :=
   bj (ee (aC (ad (aa rfl) ah rfl rfl rfl) rfl) (by unfold psD;rw[List.length_map];have:=A.len;omega) (eC (by unfold psD;rw[List.length_map,List.length_map,List.length_map]) fun i d x acc h1 h2=>by
    unfold psD at h1
    rw[List.getElem?_map] at h1
    obtain⟨p,hp,rfl⟩:=Option.map_eq_some_iff.mp h1
    rw[List.map_map,List.getElem?_map,hp] at h2
    cases h2
    obtain⟨κ,k1,k2,k3⟩:=jg p.1 (A.k5 p (List.mem_of_getElem? hp))
    refine⟨[some (.val (noD a)),some (.val (noD b)),some (.val (.nd (b.ps.map fun p=>tkD p.1) (b.ps.map fun p=>mnD p.2))),some (.val (tkD p.1)),some (.val (mnD p.2))],aJ rfl rfl,?_⟩
    have i1:D.AR (tkD p.1) (.nd (b.ps.map fun p=>tkD p.1) (b.ps.map fun p=>mnD p.2))=some (.bl (D.ndAt κ (b.ps.map fun p=>tkD p.1)).isSome):=by
     unfold D.AR
     rw[k1]
     rfl
    show _=some (S,Ev.val (.bl (b6 b.ps p)))
    unfold b6
    rcases dq k3 (ps:=b.ps) B.k5 with ⟨q1,q2⟩ | ⟨o,i,q1,q2,q3⟩
    ·rw[q1]
     rw[q2] at i1
     exact ig (ad (aa rfl) (aa rfl) rfl rfl i1) rfl rfl
    ·rw[q1]
     rw[q2] at i1
     have x1:D.AT (.nd (b.ps.map fun p=>tkD p.1) (b.ps.map fun p=>mnD p.2)) (tkD p.1)=some (mnD o):=by
      unfold D.AT
      rw[k1]
      show (D.ndAt κ (b.ps.map fun p=>tkD p.1)).bind _=_
      rw[q2]
      exact q3
     exact iB (ad (aa rfl) (aa rfl) rfl rfl i1) rfl rfl (fb (aD (ab (ad (aa rfl) (aa rfl) rfl rfl x1) (ab (aa rfl) ae)) rfl (jI o p.2)) rfl)))
  have al:D.Al [.lst ((a.ps.map (b6 b.ps)).map Da.bl)]=some (.bl (dZ a.ps b.ps)):=by
   show (D.bools _).map _=_
   rw[dS]
   show some (Da.bl ((a.ps.map (b6 b.ps)).all id))=_
   rw[List.all_map]
   rfl
  refine af (ag (ac (ad (ad (aa rfl) ah rfl rfl rfl) (ad (aa rfl) ah rfl rfl rfl) rfl rfl g) rfl) rfl aB) (af (aF n1 rfl) (am (bH (ab lc ae) (ak rfl av) ?_)))
  rw[Bool.true_and]
  exact al
 ·rw[decide_eq_false c] at g ⊢
  exact a7 (an (ac (ad (ad (aa rfl) ah rfl rfl rfl) (ad (aa rfl) ah rfl rfl rfl) rfl rfl g) rfl) rfl (am ah))
theorem d4{g:DG}{P:DS}{d:Da}{ds:List Da}{δ1:ai}{S1:Sto}{L1:Loc}{e:Ev}(h1:g S L δ (.val d)=some δ1) (h2:P S L δ1=some (.rt S1 L1 e)):D.forL g P (d::ds) S L δ=some (.rt S1 L1 e):=by
 simp only[D.forL,h1,h2,Option.bind_some]
theorem cT{P:Da}{k:Nat}(hk:k < 5):∀{ps:List (Nat × Option Nat)}{y2 y3:Option Ev},(∀ p∈ps,p.1 < 5)->(lookN ps k=none/\∃ y2' y3',D.forL (D.P [2,3]) (D.Q (D.J (D.I D.AH (D.E 2) (D.E 1))) (D.O (D.E 3)) D.Y) (psD ps) S [] [some (.val P),some (.val (tkD k)),y2,y3]=some (.nx S [] [some (.val P),some (.val (tkD k)),y2',y3'])) \/
  ∃ o,lookN ps k=some o/\D.forL (D.P [2,3]) (D.Q (D.J (D.I D.AH (D.E 2) (D.E 1))) (D.O (D.E 3)) D.Y) (psD ps) S [] [some (.val P),some (.val (tkD k)),y2,y3]=some (.rt S [] (.val (mnD o)))
 |[],y2,y3,_ => .inl ⟨rfl,y2,y3,rfl⟩
 |p::ps,y2,y3,h=>by
  have e:=jb (h p (List.mem_cons_self ..)) hk
  unfold lookN
  rw[List.find?_cons]
  by_cases c:p.1=k
  ·rw[decide_eq_true c] at e ⊢
   exact .inr ⟨p.2,rfl,d4 (δ1:=[some (.val P),some (.val (tkD k)),some (.val (tkD p.1)),some (.val (mnD p.2))]) (aJ rfl rfl) (an (ac (ad (aa rfl) (aa rfl) rfl rfl e) rfl) rfl (am (aa rfl)))⟩
  ·rw[decide_eq_false c] at e ⊢
   have b:(D.Q (D.J (D.I D.AH (D.E 2) (D.E 1))) (D.O (D.E 3)) D.Y) S [] [some (.val P),some (.val (tkD k)),some (.val (tkD p.1)),some (.val (mnD p.2))]=some (.nx S [] [some (.val P),some (.val (tkD k)),some (.val (tkD p.1)),some (.val (mnD p.2))]):=ag (ac (ad (aa rfl) (aa rfl) rfl rfl e) rfl) rfl aB
   rcases cT (P:=P) hk (ps:=ps) (y2:=some (.val (tkD p.1))) (y3:=some (.val (mnD p.2))) fun q hq=>h q (List.mem_cons_of_mem _ hq) with ⟨q1,z2,z3,q2⟩ | ⟨o,q1,q2⟩
   ·exact .inl ⟨q1,z2,z3,aK (aJ rfl rfl) b q2⟩
   ·refine .inr ⟨o,q1,?_⟩
    show D.forL _ _ (.tup [tkD p.1,mnD p.2]::psD ps) S [] _=_
    simp only[D.forL,show D.P [2,3] S [] [some (Ev.val P),some (Ev.val (tkD k)),y2,y3] (.val (.tup [tkD p.1,mnD p.2]))=some [some (.val P),some (.val (tkD k)),some (.val (tkD p.1)),some (.val (mnD p.2))] from aJ rfl rfl,b,Option.bind_some]
    exact q2
theorem gO{ps:List (Nat × Option Nat)}{k:Nat}(hk:k < 5) (h:∀ p∈ps,p.1 < 5):lh S [.tup (psD ps),tkD k]=some (match lookN ps k with | some o=>mnD o | none => .int 0):=by
 rcases cT (S:=S) (P := .tup (psD ps)) hk (y2:=none) (y3:=none) h with ⟨q1,z2,z3,q2⟩ | ⟨o,q1,q2⟩
 ·rw[q1]
  refine aE (S1:=S) (L:=[]) (e := .val (.int 0)) rfl ?_ rfl
  unfold bF
  exact af (aH (aC (aa rfl) rfl) q2) (am ah)
 ·rw[q1]
  refine aE (S1:=S) (L:=[]) (e := .val (mnD o)) rfl ?_ ?_
  ·unfold bF
   exact a7 (aH (aC (aa rfl) rfl) q2)
  ·cases o <;> rfl
end
section
variable {S:Sto}
noncomputable abbrev wiB:DS:=(D.K (D.X (D.M lh (D.F (D.I D.R (D.E 1) (D.c (.int 1))) (D.F (D.E 2) D.G))) (D.H 4))
   (D.Q (D.h (D.J (D.I D.Ab (D.E 4) (D.c .non))) (D.AI (D.J (D.I D.Ai (D.E 3) (D.c .non))) (D.J (D.I D.gt (D.E 3) (D.E 4)))))
    (D.O (D.c (.bl false)))
    D.Y))
abbrev wiE (x y:Da) (y2 y3 y4:Option Ev):ai:=[some (.val x),some (.val y),y2,y3,y4]
theorem eV{a b:Nd}(B:NdOk b) {p:Nat × Option Nat}(hp:p.1 < 5) (h0:p.2≠some 0) {y4:Option Ev} :
  (b6 b.ps p=true/\∃ y,wiB S [] (wiE (noD a) (noD b) (some (.val (tkD p.1))) (some (.val (mnD p.2))) y4)=some (.nx S [] (wiE (noD a) (noD b) (some (.val (tkD p.1))) (some (.val (mnD p.2))) y))) \/
  (b6 b.ps p=false/\wiB S [] (wiE (noD a) (noD b) (some (.val (tkD p.1))) (some (.val (mnD p.2))) y4)=some (.rt S [] (.val (.bl false)))):=by
 have of:=gO (S:=S) (ps:=b.ps) hp B.k5
 obtain⟨k,m⟩:=p
 have step:∀{d:Da},lh S [.tup (psD b.ps),tkD k]=some d->D.X (D.M lh (D.F (D.I D.R (D.E 1) (D.c (.int 1))) (D.F (D.E 2) D.G))) (D.H 4) S [] (wiE (noD a) (noD b) (some (.val (tkD k))) (some (.val (mnD m))) y4)=some (.nx S [] (wiE (noD a) (noD b) (some (.val (tkD k))) (some (.val (mnD m))) (some (.val d)))):=fun h=>aF (aD (ab (ad (aa rfl) ah rfl rfl rfl) (ab (aa rfl) ae)) rfl h) rfl
 have gt:∀ x z:Nat,D.gt (.int (x:Int)) (.int (z:Int))=some (.bl (decide ((z:Int) < (x:Int)))):=fun _ _=>rfl
 unfold b6
 cases e:lookN b.ps k with
 |none =>
  rw[e] at of
  have st:=step of
  cases m with
  |none=>exact .inr ⟨rfl,af st (an (aL (ac (ad (aa rfl) ah rfl rfl rfl) rfl) rfl (fx (ac (ad (aa rfl) ah rfl rfl rfl) rfl) rfl)) rfl (am ah))⟩
  |some m =>
   have m0:0 < m:=Nat.pos_of_ne_zero fun z=>h0 (by rw[z])
   have g:=gt m 0
   rw[decide_eq_true (show ((0:Nat):Int) < (m:Int) by omega)] at g
   exact .inr ⟨rfl,af st (an (aL (ac (ad (aa rfl) ah rfl rfl rfl) rfl) rfl (cv (ac (ad (aa rfl) ah rfl rfl rfl) rfl) rfl (ac (ad (aa rfl) (aa rfl) rfl rfl g) rfl))) rfl (am ah))⟩
 |some o =>
  rw[e] at of
  have st:=step of
  cases o with
  |none=>exact .inl ⟨rfl,_,af st (ag (aU (ac (ad (aa rfl) ah rfl rfl rfl) rfl) rfl) rfl aB)⟩
  |some x =>
   cases m with
   |none=>exact .inr ⟨rfl,af st (an (aL (ac (ad (aa rfl) ah rfl rfl rfl) rfl) rfl (fx (ac (ad (aa rfl) ah rfl rfl rfl) rfl) rfl)) rfl (am ah))⟩
   |some m =>
    have g:=gt m x
    show (!decide (x < m))=true/\_\/(!decide (x < m))=false/\_
    by_cases c:x < m
    ·rw[decide_eq_true (show (x:Int) < (m:Int) by omega)] at g
     rw[decide_eq_true c]
     exact .inr ⟨rfl,af st (an (aL (ac (ad (aa rfl) ah rfl rfl rfl) rfl) rfl (cv (ac (ad (aa rfl) ah rfl rfl rfl) rfl) rfl (ac (ad (aa rfl) (aa rfl) rfl rfl g) rfl))) rfl (am ah))⟩
    ·rw[decide_eq_false (show ¬ (x:Int) < (m:Int) by omega)] at g
     rw[decide_eq_false c]
     exact .inl ⟨rfl,_,af st (ag (aL (ac (ad (aa rfl) ah rfl rfl rfl) rfl) rfl (cv (ac (ad (aa rfl) ah rfl rfl rfl) rfl) rfl (ac (ad (aa rfl) (aa rfl) rfl rfl g) rfl))) rfl aB)⟩
theorem cA{a b:Nd}(B:NdOk b):∀{ps:List (Nat × Option Nat)}{y2 y3 y4:Option Ev},(∀ p∈ps,p.1 < 5)->(∀ p∈ps,p.2≠some 0) ->
  (dZ ps b.ps=true/\∃ y2' y3' y4',D.forL (D.P [2,3]) wiB (psD ps) S [] (wiE (noD a) (noD b) y2 y3 y4)=some (.nx S [] (wiE (noD a) (noD b) y2' y3' y4'))) \/
  (dZ ps b.ps=false/\D.forL (D.P [2,3]) wiB (psD ps) S [] (wiE (noD a) (noD b) y2 y3 y4)=some (.rt S [] (.val (.bl false))))
 |[],y2,y3,y4,_,_ => .inl ⟨rfl,y2,y3,y4,rfl⟩
 |p::ps,y2,y3,y4,h5,h0=>by
  have ei:dZ (p::ps) b.ps=(b6 b.ps p && dZ ps b.ps):=rfl
  rcases eV (S:=S) (a:=a) B (h5 p (List.mem_cons_self ..)) (h0 p (List.mem_cons_self ..)) (y4:=y4) with ⟨q1,y,q2⟩ | ⟨q1,q2⟩
  ·rw[ei,q1,Bool.true_and]
   rcases cA (a:=a) B (ps:=ps) (y2:=some (.val (tkD p.1))) (y3:=some (.val (mnD p.2))) (y4:=y) (fun q hq=>h5 q (List.mem_cons_of_mem _ hq)) (fun q hq=>h0 q (List.mem_cons_of_mem _ hq)) with ⟨r1,z2,z3,z4,r2⟩ | ⟨r1,r2⟩
   ·exact .inl ⟨r1,z2,z3,z4,aK (aJ rfl rfl) q2 r2⟩
   ·refine .inr ⟨r1,?_⟩
    show D.forL _ _ (.tup [tkD p.1,mnD p.2]::psD ps) S [] _=_
    simp only[D.forL,show D.P [2,3] S [] (wiE (noD a) (noD b) y2 y3 y4) (.val (.tup [tkD p.1,mnD p.2]))=some (wiE (noD a) (noD b) (some (.val (tkD p.1))) (some (.val (mnD p.2))) y4) from aJ rfl rfl,q2,Option.bind_some]
    exact r2
  ·rw[ei,q1,Bool.false_and]
   exact .inr ⟨rfl,d4 (δ1:=wiE (noD a) (noD b) (some (.val (tkD p.1))) (some (.val (mnD p.2))) y4) (aJ rfl rfl) q2⟩
theorem f7{a b:Nd}(A:NdOk a) (B:NdOk b):lg S [noD a,noD b]=some (.bl (inN a b)):=by
 have g:=jc a.g A.g a.h A.h b.g B.g b.h B.h
 unfold inN
 by_cases c:a.g=b.g/\a.h=b.h
 ·rw[decide_eq_true c] at g ⊢
  rw[Bool.true_and]
  have t0:(D.Q (D.J (D.I D.AG (D.I D.R (D.E 0) (D.c (.int 0))) (D.I D.R (D.E 1) (D.c (.int 0))))) (D.O (D.c (.bl false))) D.Y) S [] (D.env0 5 [noD a,noD b])=some (.nx S [] (wiE (noD a) (noD b) none none none)):=ag (ac (ad (ad (aa rfl) ah rfl rfl rfl) (ad (aa rfl) ah rfl rfl rfl) rfl rfl g) rfl) rfl aB
  have it:D.W (D.I D.R (D.E 0) (D.c (.int 1))) S [] (wiE (noD a) (noD b) none none none)=some (S,psD a.ps):=aC (ad (aa rfl) ah rfl rfl rfl) rfl
  rcases cA (S:=S) (a:=a) B (y2:=none) (y3:=none) (y4:=none) A.k5 A.pos with ⟨q1,z2,z3,z4,q2⟩ | ⟨q1,q2⟩
  ·rw[q1]
   refine aE (S1:=S) (L:=[]) (e := .val (.bl true)) rfl ?_ rfl
   unfold aZ
   exact af t0 (af (aH it q2) (am ah))
  ·rw[q1]
   refine aE (S1:=S) (L:=[]) (e := .val (.bl false)) rfl ?_ rfl
   unfold aZ
   exact af t0 (a7 (aH it q2))
 ·rw[decide_eq_false c] at g ⊢
  refine aE (S1:=S) (L:=[]) (e := .val (.bl false)) rfl ?_ rfl
  unfold aZ
  exact a7 (an (ac (ad (ad (aa rfl) ah rfl rfl rfl) (ad (aa rfl) ah rfl rfl rfl) rfl rfl g) rfl) rfl (am ah))
end
section
variable {S:Sto}{L:Loc}{δ:ai}
theorem jP(ns:List Int) (k:Nat):∃ c:Int,lv S [.fls (ns.map .int),.int (k:Int)]=some (.int c):=by
 have ln:D.AJ [.fls (ns.map Da.int)]=some (.int ((ns.length:Nat):Int)):=congrArg (fun z=>some (Da.int z)) (by rw[List.length_map])
 have lt:D.lt (.int (k:Int)) (.int ((ns.length:Nat):Int))=some (.bl (decide ((k:Int) < ((ns.length:Nat):Int)))):=rfl
 by_cases c:k < ns.length
 ·rw[decide_eq_true (show (k:Int) < ((ns.length:Nat):Int) by omega)] at lt
  have e:(ns.map Da.int)[k]?=some (.int ns[k]):=by rw[List.getElem?_map,List.getElem?_eq_getElem c];rfl
  refine⟨ns[k],aE (S1:=S) (L:=[]) (e := .val (.int ns[k])) rfl ?_ rfl⟩
  unfold ca
  exact a7 (an (ac (ad (aa rfl) (bH (ab (aa rfl) ae) (ak rfl av) ln) rfl rfl lt) rfl) rfl (am (ad (aa rfl) (aa rfl) rfl rfl (b4 e))))
 ·rw[decide_eq_false (show ¬ (k:Int) < ((ns.length:Nat):Int) by omega)] at lt
  refine⟨0,aE (S1:=S) (L:=[]) (e := .val (.int 0)) rfl ?_ rfl⟩
  unfold ca
  exact af (ag (ac (ad (aa rfl) (bH (ab (aa rfl) ae) (ak rfl av) ln) rfl rfl lt) rfl) rfl aB) (am ah)
abbrev LE (ns:List Int) (y2 y3 y4 y5 y6 y7 y8 y9 y10 y11 y12:Option Ev):ai:=[some (.val (.fls (ns.map .int))),some (.val (.ref 0)),y2,y3,y4,y5,y6,y7,y8,y9,y10,y11,y12]
noncomputable abbrev lwA:DS:=(D.K (D.X (D.N lp (D.F (D.M lv (D.F (D.E 0) (D.F (D.E 2) D.G))) (D.F (D.E 2) D.G))) (D.H 3))
   (D.K (D.X (D.N lq (D.F (D.E 3) D.G)) (D.H 4))
   (D.K (D.X (D.Z (D.lc (D.AF (D.F (D.N ld (D.F (D.E 3) (D.F (D.c (.int 10)) D.G))) D.G)) (D.H 10) D.AC (D.N lu (D.F (D.E 3) D.G)) [10])) (D.H 5))
   (D.K (D.X (D.Z (D.Ag D.list (D.F (D.E 5) D.G))) (D.H 6))
   (D.K (D.X (D.M lr (D.F (D.E 4) (D.F (D.E 5) D.G))) (D.H 7))
   (D.K (D.Q (D.AI (D.w (D.J (D.un (D.Ae "tuple") (D.E 7)))) (D.AI (D.J (D.I D.AG (D.E 7) (D.M lw (D.F (D.E 4) (D.F (D.E 5) D.G))))) (D.J (D.I D.AG (D.E 5) (D.E 6)))))
    (D.O (D.c (.bl false)))
    D.Y)
   (D.K (D.AK (D.AN (D.E 1) (D.E 7)))
   (D.AK (D.AN (D.E 1) (D.N lf (D.F (D.E 3) (D.F (D.E 7) D.G))))))))))))
theorem gq{k:Nat}{ds:List Da}(h:S[k]?=some (.lst ds)):rdE S L (.val (.ref k))=some (.lst ds):=by
 show S[k]?.map c7=_
 rw[h]
 rfl
theorem kP(ps:List (Nat × Nat)):ctD ps=psD (ps.map fun p=>(p.1,some p.2)):=by
 unfold ctD psD
 rw[List.map_map]
 rfl
theorem fU(ns:List Int) {N:List Nd}(hN:N.length<=100) (h0:S[0]?=some (.lst (N.map noD))) (k:Nat) {y3 y4 y5 y6 y7 y8 y9 y10 y11 y12:Option Ev}:∃ S' a b z3 z4 z5 z6 z7,lwA S [] (LE ns (some (.val (.int (k:Int)))) y3 y4 y5 y6 y7 y8 y9 y10 y11 y12)=some (.nx S' [] (LE ns (some (.val (.int (k:Int)))) z3 z4 z5 z6 z7 y8 y9 y10 y11 y12))/\NdOk a/\NdOk b/\S'[0]?=some (.lst ((N++[a,b]).map noD)):=by
 obtain⟨c,qc⟩:=jP (S:=S) ns k
 have sl:0 < S.length:=(List.getElem?_eq_some_iff.mp h0).1
 have s0:0≠S.length:=by omega
 obtain⟨S1,q1,s1,p1,_⟩:=fP (S:=S) (cell:=c) (k:=(k:Int))
 obtain⟨S2,g,h,q2,hg,hh,o2⟩:=f9 s1
 obtain⟨S3,r,q3,hr,o3⟩:=bG (m:=10) o2.src (by decide) (by decide)
 obtain⟨S4,ks,q4,k5,kl,o4⟩:=dU (L:=[]) (δ:=LE ns (some (.val (.int (k:Int)))) (some (.val (.ref S.length))) (some (.val (gnD g h))) y5 y6 y7 y8 y9 y10 y11 y12) rfl (show 10 < 13 by decide) ((List.range ((r:Int)).toNat).map fun (k:Nat)=>Da.int (0+(k:Int))) [] S3 o3.src
 rw[List.length_map,List.length_range,Int.toNat_natCast] at kl
 rw[List.nil_append] at q4
 have kl9:ks.length<=9:=by omega
 have q5:=eU (S:=S4) (G:=gnD g h) k5 kl9
 have q6:=eg (S:=S4) (G:=gnD g h) k5 kl9
 have np:=hZ ks
 have ea:Da.tup [gnD g h,.tup (ctD (aI ks))]=noD ⟨g,h,(aI ks).map fun p=>(p.1,some p.2)⟩:=by
  rw[kP]
  rfl
 have ha:NdOk ⟨g,h,(aI ks).map fun p=>(p.1,some p.2)⟩:=by
  refine⟨hg,hh,?_,fun p hp=>?_,fun p hp=>?_,?_⟩
  ·show (((aI ks).map fun p=>(p.1,some p.2)).map (·.1)).Nodup
   rw[List.map_map]
   exact fv ks
  ·obtain⟨q,hq,rfl⟩:=List.mem_map.mp hp
   exact k5 _ (np q hq).1
  ·obtain⟨q,hq,rfl⟩:=List.mem_map.mp hp
   exact fun z=>by have:=Option.some.inj z;have:=(np q hq).2.1;omega
  ·show ((aI ks).map _).length<=100
   rw[List.length_map]
   have:=dY ks
   omega
 generalize hA:(⟨g,h,(aI ks).map fun p=>(p.1,some p.2)⟩:Nd)=a at ea ha
 have z4:S4[0]?=some (.lst (N.map noD)):=by rw[o4.eq 0 s0,o3.eq 0 s0,o2.eq 0 s0,p1 0 sl,h0]
 have src:Src (S4.set 0 (.lst (N.map noD++[noD a]))) S.length:=by
  obtain⟨u,v,e⟩:=o4.src
  exact⟨u,v,(cr (Ne.symm s0)).trans e⟩
 obtain⟨S5,b,q7,hb,o7⟩:=eQ hg hh (fun p hp=>k5 _ (np p hp).1) (fun p hp=>(np p hp).2.1) (fv ks) (Nat.le_trans (dY ks) kl9) src
 have z5:S5[0]?=some (.lst (N.map noD++[noD a])):=by
  rw[o7.eq 0 s0]
  exact cU z4
 rw[ea] at q5 q6 q7
 have n1:=dB (dD (kr a) (show 8<=64 by decide))
 have n2:=dB (dD (iv ks) (show 6<=64 by decide))
 have nl:(N.map noD).length<=100000:=by rw[List.length_map];omega
 have nl2:(N.map noD++[noD a]).length<=100000:=by rw[List.length_append,List.length_map];show N.length+1<=_;omega
 refine⟨S5.set 0 (.lst (N.map noD++[noD a]++[noD b])),a,b,some (.val (.ref S.length)),some (.val (gnD g h)),some (.val (.lst (ks.map tkD))),some (.val (.lst (ks.map tkD))),some (.val (noD a)),?_,ha,hb,?_⟩
 rotate_left
 ·have eL:(N++[a,b]).map noD=N.map noD++[noD a]++[noD b]:=by
   rw[List.map_append,List.append_assoc]
   rfl
  rw[eL]
  exact cU z5
 refine af (aF (ax (ab (aD (ab (aa rfl) (ab (aa rfl) ae)) rfl qc) (ab (aa rfl) ae)) rfl q1) rfl) ?_
 refine af (aF (ax (ab (aa rfl) ae) rfl q2) rfl) ?_
 refine af (aF (bj (ee (bS (ab (ax (ab (aa rfl) (ab ah ae)) rfl q3) ae) (ak rfl av) ⟨by omega,by omega⟩) (by rw[List.length_map,List.length_range,Int.toNat_natCast];omega) q4)) rfl) ?_
 refine af (aF (bj (ka (ab (aa rfl) ae) (ak rfl av) rfl)) rfl) ?_
 refine af (aF (aD (ab (aa rfl) (ab (aa rfl) ae)) rfl q5) rfl) ?_
 refine af (ag (cv (b9 (ac (gK (aa rfl) rfl rfl) rfl)) rfl (cv (ac (ad (aa rfl) (aD (ab (aa rfl) (ab (aa rfl) ae)) rfl q6) rfl rfl n1) rfl) rfl (ac (ad (aa rfl) (aa rfl) rfl rfl n2) rfl))) rfl aB) ?_
 refine af (dz (fF (aa rfl) z4 (aa rfl) z4 nl)) ?_
 exact dz (fF (aa rfl) (cU z4) (ax (ab (aa rfl) (ab (aa rfl) ae)) rfl q7) z5 nl2)
theorem jN{k:Nat}{g:DG}{A:DE}{vs:List Nat}{ds xs:List Da}(h0:S[k]?=some (.lst ds)) (hs:ds.length < 1000) (hl:xs.length=ds.length) (go:∀(i:Nat) (d x:Da) (acc:List Da),ds[i]?=some d->xs[i]?=some x->∃ δ1,g S (L++[some acc]) (D.wiped δ vs) (.val d)=some δ1/\A S (L++[some acc]) δ1=some (S,.val x)):D.lcK k g D.AC A vs 1000 0 [] S L δ=some (S,xs):=by
 obtain⟨S',h,e⟩:=iC (k:=k) (u:=g) (t:=D.AC) (a:=A) (vs:=vs) hl hs (fun _ T=>S=T) (fun i T e=>by rw[<- e];exact h0) (fun i d x T acc h1 h2 e=>by
  cases e
  obtain⟨δ1,g1,g2⟩:=go i d x acc h1 h2
  exact⟨δ1,S,S,g1,rfl,g2,rfl⟩) (S:=S) rfl
 cases e
 exact h
def a6 (N:List Nd) (a:Nd):Da := .lst (N.map fun b=>Da.bl (inN a b))
theorem jT{N:List Nd}(hN:∀ a∈N,NdOk a) (hl:N.length<=100) (h0:S[0]?=some (.lst (N.map noD))) {a:Nd}(A:NdOk a) {X:List Da}{ns:List Int}{y2 y3 y4 y5 y6 y7 y8 y10 y11 y12:Option Ev} :
  D.Z (D.AZ (D.E 1) (D.H 11) D.AC (D.M le (D.F (D.E 9) (D.F (D.E 11) D.G))) [11]) S [some X] (LE ns y2 y3 y4 y5 y6 y7 y8 (some (.val (noD a))) y10 y11 y12)=some (S,.val (a6 N a)):=by
 refine bj (jx (aa rfl) (jN h0 (by rw[List.length_map];omega) (by rw[List.length_map,List.length_map]) fun i d x acc h1 h2=>?_))
 rw[List.getElem?_map] at h1 h2
 obtain⟨b,hb,rfl⟩:=Option.map_eq_some_iff.mp h1
 rw[hb] at h2
 cases h2
 exact⟨LE ns y2 y3 y4 y5 y6 y7 y8 (some (.val (noD a))) y10 (some (.val (noD b))) y12,rfl,aD (ab (aa rfl) (ab (aa rfl) ae)) rfl (iJ A (hN b (List.mem_of_getElem? hb)))⟩
theorem ixr{N:List Nd}{i j:Nat}{a b:Nd}(ha:N[i]?=some a) (hb:N[j]?=some b) {A B:DE}(h8:δ[8]?=some (some (.own 0))) (hL:L[0]?=some (some (N.map (a6 N)))) (hA:A S L δ=some (S,.val (.int (i:Int)))) (hB:B S L δ=some (S,.val (.int (j:Int)))):D.I D.R (D.I D.R (D.E 8) A) B S L δ=some (S,.val (.bl (inN a b))):=by
 have e1:(N.map (a6 N))[i]?=some (a6 N a):=by rw[List.getElem?_map,ha];rfl
 have e2:(N.map fun b=>Da.bl (inN a b))[j]?=some (.bl (inN a b)):=by rw[List.getElem?_map,hb];rfl
 exact ad (ad (d1 := .lst (N.map (a6 N))) (d:=a6 N a) (aa h8) hA (by simp only[rdE,hL]) rfl (b4 e1)) hB rfl rfl (b4 e2)
noncomputable abbrev lwJ:DS:=(D.K (D.Q (D.AI (D.w (D.J (D.un (D.Ae "bool") (D.I D.R (D.I D.R (D.E 8) (D.E 2)) (D.E 10))))) (D.J (D.I D.AG (D.I D.R (D.I D.R (D.E 8) (D.E 2)) (D.E 10)) (D.M lg (D.F (D.I D.R (D.E 1) (D.E 2)) (D.F (D.I D.R (D.E 1) (D.E 10)) D.G))))))
     (D.O (D.c (.bl false)))
     D.Y)
    (D.Q (D.h (D.J (D.I D.R (D.I D.R (D.E 8) (D.E 2)) (D.E 10))) (D.J (D.I D.AG (D.Z (D.lc (D.AF (D.F (D.cb D.AJ (D.F (D.E 1) D.G)) D.G)) (D.H 12) (D.h (D.J (D.I D.R (D.I D.R (D.E 8) (D.E 10)) (D.E 12))) (D.w (D.J (D.I D.R (D.I D.R (D.E 8) (D.E 2)) (D.E 12))))) (D.E 12) [12])) (D.Z (D.AP D.G)))))
     (D.O (D.c (.bl false)))
     D.Y))
theorem ku(b:Bool):D.AG (.bl b) (.bl b)=some (.bl false):=by cases b <;> rfl
theorem jM{ns:List Int}{N:List Nd}(hN:∀ a∈N,NdOk a) (hl:N.length<=100) (h0:S[0]?=some (.lst (N.map noD))) {k j:Nat}{a b:Nd}(ha:N[k]?=some a) (hb:N[j]?=some b) {y3 y4 y5 y6 y7 y9 y11 y12:Option Ev} :
  lwJ S [some (N.map (a6 N))] (LE ns (some (.val (.int (k:Int)))) y3 y4 y5 y6 y7 (some (.own 0)) y9 (some (.val (.int (j:Int)))) y11 y12)=some (.nx S [some (N.map (a6 N))] (LE ns (some (.val (.int (k:Int)))) y3 y4 y5 y6 y7 (some (.own 0)) y9 (some (.val (.int (j:Int)))) y11 y12)):=by
 have A:=hN a (List.mem_of_getElem? ha)
 have B:=hN b (List.mem_of_getElem? hb)
 have e1:(N.map noD)[k]?=some (noD a):=by rw[List.getElem?_map,ha];rfl
 have e2:(N.map noD)[j]?=some (noD b):=by rw[List.getElem?_map,hb];rfl
 have x1:D.I D.R (D.I D.R (D.E 8) (D.E 2)) (D.E 10) S [some (N.map (a6 N))] (LE ns (some (.val (.int (k:Int)))) y3 y4 y5 y6 y7 (some (.own 0)) y9 (some (.val (.int (j:Int)))) y11 y12)=some (S,.val (.bl (inN a b))):=ixr ha hb rfl rfl (aa rfl) (aa rfl)
 have w1:D.M lg (D.F (D.I D.R (D.E 1) (D.E 2)) (D.F (D.I D.R (D.E 1) (D.E 10)) D.G)) S [some (N.map (a6 N))] (LE ns (some (.val (.int (k:Int)))) y3 y4 y5 y6 y7 (some (.own 0)) y9 (some (.val (.int (j:Int)))) y11 y12)=some (S,.val (.bl (inN a b))) :=
  aD (ab (ad (d1 := .lst (N.map noD)) (aa rfl) (aa rfl) (gq h0) rfl (b4 e1)) (ab (ad (d1 := .lst (N.map noD)) (aa rfl) (aa rfl) (gq h0) rfl (b4 e2)) ae)) rfl (f7 A B)
 refine af (ag (cv (b9 (ac (gK x1 rfl rfl) rfl)) rfl (ac (ad x1 w1 rfl rfl (ku _)) rfl)) rfl aB) ?_
 cases c:inN a b with
 |false =>
  rw[c] at x1
  exact ag (aU (ac x1 rfl) rfl) rfl aB
 |true =>
  rw[c] at x1
  have ln:D.AJ [.lst (N.map noD)]=some (.int ((N.length:Nat):Int)):=congrArg (fun z=>some (Da.int z)) (by rw[List.length_map])
  have lc:=d5 (u:=D.H 12) (t:=D.h (D.J (D.I D.R (D.I D.R (D.E 8) (D.E 10)) (D.E 12))) (D.w (D.J (D.I D.R (D.I D.R (D.E 8) (D.E 2)) (D.E 12))))) (A:=D.E 12) (vs:=[12]) (S:=S) (L:=[some (N.map (a6 N))]) (δ:=LE ns (some (.val (.int (k:Int)))) y3 y4 y5 y6 y7 (some (.own 0)) y9 (some (.val (.int (j:Int)))) y11 y12) (fun _=>false) id (ds:=(List.range ((N.length:Nat):Int).toNat).map fun (k:Nat)=>Da.int (0+(k:Int))) (acc:=[]) fun d hd acc=>by
   obtain⟨i,hi,rfl⟩:=List.mem_map.mp hd
   rw[Int.toNat_natCast] at hi
   have il:=List.mem_range.mp hi
   rw[Int.zero_add]
   have hc:=List.getElem?_eq_getElem il
   generalize N[i]=z at hc
   refine⟨LE ns (some (.val (.int (k:Int)))) y3 y4 y5 y6 y7 (some (.own 0)) y9 (some (.val (.int (j:Int)))) y11 (some (.val (.int (i:Int)))),rfl,?_,fun h=>by cases h⟩
   have t1:D.I D.R (D.I D.R (D.E 8) (D.E 10)) (D.E 12) S ([some (N.map (a6 N))]++[some acc]) (LE ns (some (.val (.int (k:Int)))) y3 y4 y5 y6 y7 (some (.own 0)) y9 (some (.val (.int (j:Int)))) y11 (some (.val (.int (i:Int)))))=some (S,.val (.bl (inN b z))):=ixr hb hc rfl rfl (aa rfl) (aa rfl)
   have t2:D.I D.R (D.I D.R (D.E 8) (D.E 2)) (D.E 12) S ([some (N.map (a6 N))]++[some acc]) (LE ns (some (.val (.int (k:Int)))) y3 y4 y5 y6 y7 (some (.own 0)) y9 (some (.val (.int (j:Int)))) y11 (some (.val (.int (i:Int)))))=some (S,.val (.bl (inN a z))):=ixr ha hc rfl rfl (aa rfl) (aa rfl)
   cases d:inN b z with
   |false =>
    rw[d] at t1
    exact aU (ac t1 rfl) rfl
   |true =>
    rw[d] at t1
    rw[f6 c d] at t2
    exact aL (ac t1 rfl) rfl (b9 (ac t2 rfl))
  have fl:∀ ds:List Da,([]++(ds.filter fun _=>false).map id:List Da)=[]:=fun ds=>by simp
  rw[fl] at lc
  exact ag (aL (ac x1 rfl) rfl (ac (ad (bj (ee (bS (ab (bH (ab (aa rfl) ae) (ak (gq h0) av) ln) ae) (ak rfl av) ⟨by omega,by omega⟩) (by rw[List.length_map,List.length_range,Int.toNat_natCast];omega) lc)) (bj (cw ae rfl (Nat.zero_le _))) rfl rfl (dB (eK (n:=8) cj |> fun h=>dD h (by decide)))) rfl)) rfl aB
theorem run2_ok(ns:List Int) (hn:ns.length<=63):∃ S',lB [] [.fls (ns.map .int)]=some (S',.bl true):=by
 obtain⟨S1,L1,δ1,e1,N,hN,lN,h0,rfl,y2,y3,y4,y5,y6,y7,rfl⟩:=cS (u:=D.H 2) (b:=lwA) (ds:=(List.range ((7:Int)).toNat).map fun (k:Nat)=>Da.int (0+(k:Int))) (S:=[.lst []]) (L:=[]) (δ:=LE ns none none none none none none none none none none none)
  (fun i S L δ=>∃ N:List Nd,(∀ a∈N,NdOk a)/\N.length=2 * i/\S[0]?=some (.lst (N.map noD))/\L=[]/\∃ y2 y3 y4 y5 y6 y7,δ=LE ns y2 y3 y4 y5 y6 y7 none none none none none) (by
   rintro i d S L δ hd ⟨N,hN,lN,h0,rfl,y2,y3,y4,y5,y6,y7,rfl⟩
   have il:=(List.getElem?_eq_some_iff.mp hd).1
   rw[List.length_map,List.length_range] at il
   have il:i < 7:=il
   rw[List.getElem?_map] at hd
   obtain⟨k,_,rfl⟩:=Option.map_eq_some_iff.mp hd
   rw[Int.zero_add]
   obtain⟨S',a,b,z3,z4,z5,z6,z7,e,ha,hb,hz⟩:=fU (S:=S) ns (N:=N) (by omega) h0 k (y3:=y3) (y4:=y4) (y5:=y5) (y6:=y6) (y7:=y7) (y8:=none) (y9:=none) (y10:=none) (y11:=none) (y12:=none)
   refine⟨_,S',_,_,rfl,e,N++[a,b],fun x hx=>?_,by rw[List.length_append];show N.length+2=_;omega,hz,rfl,_,_,_,_,_,_,rfl⟩
   rcases List.mem_append.mp hx with hx | hx
   ·exact hN x hx
   ·rcases List.mem_cons.mp hx with rfl | hx
    ·exact ha
    ·rw[List.mem_singleton.mp hx]
     exact hb) ⟨[],(fun _ h=>nomatch h),rfl,rfl,rfl,none,none,none,none,none,none,rfl⟩
 rw[List.length_map,List.length_range] at lN
 have lN:N.length=2 * 7:=lN
 obtain⟨S2,L2,δ2,e2,rfl,rfl,y9,rfl⟩:=gn (k:=0) (u:=D.H 9) (b:=D.AD 8 (D.Z (D.AZ (D.E 1) (D.H 11) D.AC (D.M le (D.F (D.E 9) (D.F (D.E 11) D.G))) [11]))) (ds:=N.map noD) (S:=S1) (L:=[some []]) (δ:=LE ns y2 y3 y4 y5 y6 y7 (some (.own 0)) none none none none) (by rw[List.length_map];omega)
  (fun i S L δ=>S1=S/\L=[some ((N.take i).map (a6 N))]/\∃ y9,δ=LE ns y2 y3 y4 y5 y6 y7 (some (.own 0)) y9 none none none) (fun i S L δ h=>by rw[<- h.1];exact h0) (by
   rintro i d S L δ hd ⟨rfl,rfl,y9,rfl⟩
   rw[List.getElem?_map] at hd
   obtain⟨a,ha,rfl⟩:=Option.map_eq_some_iff.mp hd
   refine⟨_,S1,_,_,rfl,eB (j:=0) (jT hN (by omega) h0 (hN a (List.mem_of_getElem? ha))) rfl rfl (by rw[List.length_map,List.length_take];omega),rfl,?_,_,rfl⟩
   rw[List.take_succ,ha,List.map_append]
   rfl) ⟨rfl,rfl,none,rfl⟩
 rw[List.length_map,List.take_length] at e2
 have inner:∀(k:Nat) (a:Nd) (S:Sto) (y10:Option Ev),S[0]?=some (.lst (N.map noD))->N[k]?=some a->∃ z10,D.forL (D.H 10) lwJ ((List.range ((N.length:Nat):Int).toNat).map fun (k:Nat)=>Da.int (0+(k:Int))) S [some (N.map (a6 N))] (LE ns (some (.val (.int (k:Int)))) y3 y4 y5 y6 y7 (some (.own 0)) y9 y10 none none)=some (.nx S [some (N.map (a6 N))] (LE ns (some (.val (.int (k:Int)))) y3 y4 y5 y6 y7 (some (.own 0)) y9 z10 none none)):=fun k a S y10 h0 ha=>by
  obtain⟨S3,L3,δ3,e3,rfl,rfl,z10,rfl⟩:=cS (u:=D.H 10) (b:=lwJ) (ds:=(List.range ((N.length:Nat):Int).toNat).map fun (k:Nat)=>Da.int (0+(k:Int))) (S:=S) (L:=[some (N.map (a6 N))]) (δ:=LE ns (some (.val (.int (k:Int)))) y3 y4 y5 y6 y7 (some (.own 0)) y9 y10 none none)
   (fun i T L δ=>S=T/\L=[some (N.map (a6 N))]/\∃ z10,δ=LE ns (some (.val (.int (k:Int)))) y3 y4 y5 y6 y7 (some (.own 0)) y9 z10 none none) (by
    rintro i d T L δ hd ⟨rfl,rfl,z10,rfl⟩
    obtain⟨j,hj,rfl⟩:=List.mem_map.mp (List.mem_of_getElem? hd)
    rw[Int.toNat_natCast] at hj
    have jl:=List.mem_range.mp hj
    rw[Int.zero_add]
    exact⟨_,S,_,_,rfl,jM hN (by omega) h0 ha (List.getElem?_eq_getElem jl),rfl,rfl,_,rfl⟩) ⟨rfl,rfl,y10,rfl⟩
  exact⟨z10,e3⟩
 have ln:D.AJ [.lst (N.map noD)]=some (.int ((N.length:Nat):Int)):=congrArg (fun z=>some (Da.int z)) (by rw[List.length_map])
 obtain⟨S4,L4,δ4,e4,rfl,rfl,z2,z10,rfl⟩:=cS (u:=D.H 2) (b:=(D.K (D.AB (D.AF (D.F (D.cb D.AJ (D.F (D.E 1) D.G)) D.G)) (D.H 10) lwJ)
   (D.Q (D.w (D.J (D.I D.R (D.I D.R (D.E 8) (D.E 2)) (D.E 2)))) (D.O (D.c (.bl false))) D.Y))) (ds:=(List.range ((N.length:Nat):Int).toNat).map fun (k:Nat)=>Da.int (0+(k:Int))) (S:=S1) (L:=[some (N.map (a6 N))]) (δ:=LE ns y2 y3 y4 y5 y6 y7 (some (.own 0)) y9 none none none)
  (fun i T L δ=>S1=T/\L=[some (N.map (a6 N))]/\∃ z2 z10,δ=LE ns z2 y3 y4 y5 y6 y7 (some (.own 0)) y9 z10 none none) (by
   rintro i d T L δ hd ⟨rfl,rfl,z2,z10,rfl⟩
   obtain⟨k,hk,rfl⟩:=List.mem_map.mp (List.mem_of_getElem? hd)
   rw[Int.toNat_natCast] at hk
   have kl:=List.mem_range.mp hk
   rw[Int.zero_add]
   have ha:=List.getElem?_eq_getElem kl
   have A:=hN _ (List.mem_of_getElem? ha)
   generalize N[k]=a at ha A
   obtain⟨w10,ei⟩:=inner k a S1 z10 h0 ha
   have xr:D.I D.R (D.I D.R (D.E 8) (D.E 2)) (D.E 2) S1 [some (N.map (a6 N))] (LE ns (some (.val (.int (k:Int)))) y3 y4 y5 y6 y7 (some (.own 0)) y9 w10 none none)=some (S1,.val (.bl (inN a a))):=ixr ha ha rfl rfl (aa rfl) (aa rfl)
   rw[gU A] at xr
   exact⟨_,S1,_,_,rfl,af (aH (bS (ab (bH (ab (aa rfl) ae) (ak (gq h0) av) ln) ae) (ak rfl av) ⟨by omega,by omega⟩) ei) (ag (b9 (ac xr rfl)) rfl aB),rfl,rfl,_,_,rfl⟩) ⟨rfl,rfl,y2,none,rfl⟩
 refine⟨S1,aR (S1:=S1) (L:=[some (N.map (a6 N))]) (e := .val (.bl true)) rfl ?_ rfl⟩
 unfold g8
 exact af (aF (dJ ae rfl (Nat.zero_le _)) rfl) (af (aH (bS (ab ah ae) (ak rfl av) ⟨by decide,by decide⟩) e1) (af (bZ (cw ae rfl (Nat.zero_le _))) (af (gu (aa rfl) e2) (af (aH (bS (ab (bH (ab (aa rfl) ae) (ak (gq h0) av) ln) ae) (ak rfl av) ⟨by omega,by omega⟩) e4) (am ah)))))
end
end My
open PySem PySem.W PySem.Calls PyProof.Rows
set_option maxHeartbeats 0 in
theorem PySem.Challenge.cw_nobodyspeaks_k43_nodes_lie_within_nodes_holds : PySem.Challenge.rw_nobodyspeaks_k43_nodes_lie_within_nodes.Holds := by
 refine My.early ?_
 refine L2.walk_ofE (l:=PySem.Challenge.rw_nobodyspeaks_k43_nodes_lie_within_nodes) (n:=63) (k:=4) (x := "script") (CX:=L2.CX0) My.hmost (by decide) My.hdfl ⟨rfl,by decide,by decide⟩ ?F (fun _ _ _ _ z=>z)
 intro w mg fa h Y G hmg0
 obtain⟨K,KX,c⟩:=Y
 have hmg:mg ("law":PySem.Str)=some (.ref fa):=by
  rw[<- My.hname]
  exact hmg0
 obtain⟨T⟩:=My.htxt (w:=w) KX G c
 have e:=hmg.symm.trans T.m_law
 cases e
 exact⟨K,T.fd_law,My.spLaw K,KX,fun s v=>L2.FunD.bindsA (ps:=["script"]) T.lB (fun _ _ _ _ _ _ us hl=>match us,hl with | [_],_=>rfl) s [v] rfl,fun H a ns hl _ hS=>⟨a,ns,rfl,hS,hl,fun _=>rfl⟩,fun base _ _=>My.ok_law_all (P:=(PySem.Challenge.rw_nobodyspeaks_k43_nodes_lie_within_nodes).prog) T My.run2_ok⟩
