import Derived.Test.YtoolgmmljacfmaaGreatDoorAl
import Derived.LaidEql
import Derived.Stop.Asserts
import Derived.RowKitTokens
set_option maxRecDepth 100000
set_option maxHeartbeats 4000000
open Go.Proofs.Tryz Go.RowKit
namespace Go.Proofs.YtoolgmmljacfmaaGreatDoor
open Go.Extern.Stop Go.Stop Go.Extern
variable {W:Wd}{a v:Va}
def l8 (w:World):Prop:=w.cell? (Y 3 0)=some (.iface 313 (.agg #[E 7 62]))
theorem l8.zL {w w':Wd}(h:l8 w)(a:aG w w'):l8 w':=ctq a h
theorem DW {t:Addr}(h:W.cell? t=some a):(W.setCell t v).cell? t=some v:=World.cell?_setCell_same W t v h
theorem as_nil (t:Va)(w:Wd):
 aW 196 #[.nilIface,t] w λe w'=>e=rt (.bool false)/\w'=w:=by
 go_enter func196,ntmps196;go_wp2;go_ret;exact⟨rfl,rfl⟩
theorem Tryz.valueOfP (t:Addr)(w:Wd):(ReflectliteValue.unpack (.iface 232 (.pointer (some t)))).run prog w
 =.ok (.agg #[E 7 232,E w.heap.size 0,.int .u64 150]) (w.alloc (.cells #[.pointer (some t)] 232)):=kr
theorem Tryz.typeP (a:Addr)(w:Wd):(ReflectliteValue.methodAny (ReflectliteValue.valueError "reflectlite.Value.Type" 0) (λt _ _ _=>ReflectliteType.toType t) #[.agg #[E 7 232,.pointer (some a),.int .u64 150]]).run prog w
 =.ok (.iface 313 (.agg #[E 7 232])) w:=kr
theorem Tryz.methodKind (h:Va)(w:Wd):(Go.method 467 313 (.agg #[h]) "Kind").run prog w=.ok (303,h) w:=kr
theorem Tryz.kindP (w:Wd):((ReflectliteType.abiMethod λt=>(λa:Nat=>Value.int IntKind.u8 (a:Int))<$>Rtype.kind t) #[E 7 232]).run prog w=.ok (.int .u8 22) w:=kr
theorem Tryz.kindR (w:Wd):((ReflectliteType.abiMethod λt=>(λa:Nat=>Value.int IntKind.u8 (a:Int))<$>Rtype.kind t) #[E 7 196]).run prog w=.ok (.int .u8 2) w:=kr
theorem rlm (z:Sem Va)(f:TypeId->Addr->Nat->Nat->Sem Va)(v:Va):
 ReflectliteValue.method z f #[v]=(do match←ReflectliteValue.parts v with|none=>z|some (t,a,fl)=>f t a fl (fl%32)):=rfl
theorem Tryz.partsP (a:Addr)(w:Wd):(ReflectliteValue.parts (.agg #[E 7 232,.pointer (some a),.int .u64 150])).run prog w=.ok (some (232,a,150)) w:=kr
theorem Tryz.isNilP (a p:Addr)(W:Wd)(ha:W.cell? a=some (.pointer (some p))):
 (ReflectliteValue.method (ReflectliteValue.valueError "reflectlite.Value.IsNil" 0) ReflectliteValue.isNil #[.agg #[E 7 232,.pointer (some a),.int .u64 150]]).run prog W=.ok (.bool false) W:=by
 rw[rlm];simp only[Sem.run_bind,Tryz.partsP,Result.andThen];simp[ReflectliteValue.isNil,loadVar,isAgg,underlying,underlying232,ha,Result.andThen]
theorem Tryz.methodElem (h:Va)(w:Wd):(Go.method 467 313 (.agg #[h]) "Elem").run prog w=.ok (321,.agg #[h]) w:=kr
theorem Tryz.methodImplements (h:Va)(w:Wd):(Go.method 467 313 (.agg #[h]) "Implements").run prog w=.ok (322,.agg #[h]) w:=kr
theorem Tryz.methodAssignableTo (h:Va)(w:Wd):(Go.method 467 313 (.agg #[h]) "AssignableTo").run prog w=.ok (319,.agg #[h]) w:=kr
theorem Tryz.elemP (w:Wd):(ReflectliteType.method ReflectliteType.elem #[.agg #[E 7 232]]).run prog w=.ok (.iface 313 (.agg #[E 7 196])) w:=kr
theorem Tryz.implementsR (w:Wd):(ReflectliteType.relation "Implements" ReflectliteType.implements_ #[.agg #[E 7 196],.iface 313 (.agg #[E 7 62])]).run prog w=.ok (.bool true) w:=kr
theorem Tryz.typeOfR (v:Va)(w:Wd):(ReflectliteType.typeOf #[.iface 196 v]).run prog w=.ok (.iface 313 (.agg #[E 7 196])) w:=kr
theorem Tryz.assignableR (w:Wd):(ReflectliteType.relation "AssignableTo" ReflectliteType.assignableTo #[.agg #[E 7 196],.iface 313 (.agg #[E 7 196])]).run prog w=.ok (.bool true) w:=kr
theorem Tryz.valueOfR (c:Int)(w:Wd):(ReflectliteValue.unpack (.iface 196 (I c))).run prog w
 =.ok (.agg #[E 7 196,E w.heap.size 0,.int .u64 130]) (w.alloc (.cells #[I c] 196)):=kr
theorem Tryz.elemOfP (w:Wd):(Rtype.elem? 232).run prog w=.ok (some 196) w:=kr
theorem Tryz.mkR (p:Addr)(w:Wd):(ReflectliteValue.mk 196 p ReflectliteValue.flagAddr).run prog w=.ok (.agg #[E 7 196,.pointer (some p),.int .u64 386]) w:=kr
theorem Tryz.elemVP (a p:Addr)(W:Wd)(ha:W.cell? a=some (.pointer (some p))):
 (ReflectliteValue.method (ReflectliteValue.valueError "reflectlite.Value.Elem" 0) ReflectliteValue.elem #[.agg #[E 7 232,.pointer (some a),.int .u64 150]]).run prog W
  =.ok (.agg #[E 7 196,.pointer (some p),.int .u64 386]) W:=by
 rw[rlm];simp only[Sem.run_bind,Tryz.partsP,Result.andThen];simp[ReflectliteValue.elem,loadVar,isAgg,underlying,underlying232,ha,Result.andThen,Tryz.elemOfP,Tryz.mkR]
theorem rls (v x:Va):ReflectliteValue.set #[v,x]=(do
 let(some (dst,a,fl),some (src,b,_)):=(←ReflectliteValue.parts v,←ReflectliteValue.parts x)
  |unsupported (.noEntry "extern/(internal/reflectlite.Value).Set.zeroValue")
 if fl/ReflectliteValue.flagAddr%2==0 then unsupported (.noEntry "extern/(internal/reflectlite.Value).Set.unaddressable")
 let val ←loadVar src b
 if←Rtype.directlyAssignable dst src then storeVar dst a val
 else if←Rtype.implements dst src then
  if(←Rtype.kind src)==20 then
   match val with
   | .nilIface=>unsupported (.noEntry "extern/reflectlite: a nil value of one interface type handed on as a value of another")
   |_=>storeVar dst a val
  else storeVar dst a (.iface src val)
 else panicString ("reflectlite.Set: value of type "++(←Rtype.spelt src)++ " is not assignable to type "++(←Rtype.spelt dst))
 pure (.tuple #[])):=rfl
theorem Tryz.partsRa (a:Addr)(w:Wd):(ReflectliteValue.parts (.agg #[E 7 196,.pointer (some a),.int .u64 386])).run prog w=.ok (some (196,a,386)) w:=kr
theorem Tryz.partsR (a:Addr)(w:Wd):(ReflectliteValue.parts (.agg #[E 7 196,.pointer (some a),.int .u64 130])).run prog w=.ok (some (196,a,130)) w:=kr
theorem Tryz.directR (w:Wd):(Rtype.directlyAssignable 196 196).run prog w=.ok true w:=kr
theorem Tryz.setR (ta b:Addr)(c:Int)(a:Va)(W:Wd)(d:W.cell? b=some (I c))(f:W.cell? ta=some a)(e:W.frozen? ta=false):
 (ReflectliteValue.set #[.agg #[E 7 196,.pointer (some ta),.int .u64 386],.agg #[E 7 196,.pointer (some b),.int .u64 130]]).run prog W
  =.ok (.tuple #[]) (W.setCell ta (I c)):=by
 rw[rls];simp only[Sem.run_bind,Tryz.partsRa,Tryz.partsR,Result.andThen];simp[ReflectliteValue.flagAddr,loadVar,isAgg,underlying,underlying196,d,Result.andThen,Tryz.directR,storeVar,Value.cells,storeCells,Addr.add];rw[run_store prog W ta _ _ (by rfl)];simp[f,e]
theorem as_hit (c:Int)(t:Addr)(d:Va)(w:Wd)(f:l8 w)(a:w.cell? t=some d)(e:w.frozen? t=false):
 aW 196 #[.iface 196 (I c),.iface 232 (.pointer (some t))] w λi w'=>i=rt (.bool true)/\w'=((((w.alloc (.cells #[.pointer (some t)] 232)).alloc (.cells #[E 7 232,E w.heap.size 0,.int .u64 150] 289)).alloc (.cells #[E 7 232,E w.heap.size 0,.int .u64 150] 289)).alloc (.cells #[I c] 196)).setCell t (I c):=by
 unfold l8 at f;have hVO:=@rce prog 246 _ (λargs=>ReflectliteValue.unpack (args.getD 0 (.tuple #[]))) func246 kr kr kr kr;have hTY:=@rce prog 247 _ (ReflectliteValue.methodAny (ReflectliteValue.valueError "reflectlite.Value.Type" 0) (λt _ _ _=>ReflectliteType.toType t)) func247 kr kr kr kr;have hNI:=@rce prog 248 _ (ReflectliteValue.method (ReflectliteValue.valueError "reflectlite.Value.IsNil" 0) ReflectliteValue.isNil) func248 kr kr kr kr;have hKI:=@rce prog 303 _ (ReflectliteType.abiMethod λt=>do pure (.int .u8 (←Rtype.kind t))) func303 kr kr kr kr;have hEL:=@rce prog 321 _ (ReflectliteType.method ReflectliteType.elem) func321 kr kr kr kr;have hIM:=@rce prog 322 _ (ReflectliteType.relation "Implements" ReflectliteType.implements_) func322 kr kr kr kr;have hTO:=@rce prog 269 _ ReflectliteType.typeOf func269 kr kr kr kr;have hAT:=@rce prog 319 _ (ReflectliteType.relation "AssignableTo" ReflectliteType.assignableTo) func319 kr kr kr kr;have hVE:=@rce prog 270 _ (ReflectliteValue.method (ReflectliteValue.valueError "reflectlite.Value.Elem" 0) ReflectliteValue.elem) func270 kr kr kr kr;have hSE:=@rce prog 271 _ ReflectliteValue.set func271 kr kr kr kr;have tO:=Tryz.typeOfR;have mA:=Tryz.methodAssignableTo;have a25:=Tryz.assignableR;have v25:=Tryz.valueOfR;have f6:=Tryz.valueOfP;have f7:=Tryz.typeP;have mK:=Tryz.methodKind;have mE:=Tryz.methodElem;have mI:=Tryz.methodImplements;have k27:=Tryz.kindP;have k25:=Tryz.kindR;have e27:=Tryz.elemP;have i25:=Tryz.implementsR;have n8:=Tryz.isNilP (ya w 0) t ((w.alloc (.cells #[.pointer (some t)] 232)).alloc (.cells #[E 7 232,ea w 0,.int .u64 150] 289)) sm;have g:3<w.heap.size:=aA f
 have hg2:((w.alloc (.cells #[.pointer (some t)] 232)).alloc (.cells #[E 7 232,ea w 0,.int .u64 150] 289)).cell? (Y 3 0)=some (.iface 313 (.agg #[E 7 62])):=by
  rw[World.cell?_alloc_lt _ _ (Y 3 0) (by simp only[wsa];omega),World.cell?_alloc_lt _ _ (Y 3 0) g];exact f
 have b:t.block<w.heap.size:=by
  rcases Nat.lt_or_ge t.block w.heap.size with h|h
  ·exact h
  ·simp[World.cell?,Array.getElem?_eq_none h]at a
 have el:=Tryz.elemVP (ya w 0) t (((w.alloc (.cells #[.pointer (some t)] 232)).alloc (.cells #[E 7 232,ea w 0,.int .u64 150] 289)).alloc (.cells #[E 7 232,ea w 0,.int .u64 150] 289)) (by rw[World.cell?_alloc_lt _ _ (ya w 0) so];simp)
 have st:=Tryz.setR t (Y (w.heap.size+1+1+1) 0) c d ((((w.alloc (.cells #[.pointer (some t)] 232)).alloc (.cells #[E 7 232,ea w 0,.int .u64 150] 289)).alloc (.cells #[E 7 232,ea w 0,.int .u64 150] 289)).alloc (.cells #[I c] 196))
  (by rw[World.cell?_alloc_at _ _ _ _ sm];rfl)
  (by rw[World.cell?_alloc_lt _ _ t so,World.cell?_alloc_lt _ _ t so,World.cell?_alloc_lt _ _ t so,World.cell?_alloc_lt _ _ t b];exact a)
  (by rw[World.frozen?_alloc_old _ _ t so,World.frozen?_alloc_old _ _ t so,World.frozen?_alloc_old _ _ t so,World.frozen?_alloc_old _ _ t (Nat.ne_of_lt b)];exact e)
 go_enter func196,ntmps196
 go_wp2
 refine wp_loop_rounds 1 ?_;rw[rounds_succ];go_wp2
 go_ret;exact⟨rfl,rfl⟩
theorem WH (w:Wd):
 aW 155 #[.nilIface] w λe w'=>e=rt (I 0)/\aG w w':=by
 have a:aG w (w.alloc (.cells #[I 0] 196)):=aC (br _ _) _;go_enter func155,ntmps155;go_wp2_with (go_at_call 196;refine(as_nil _ _).mono ?_;rintro e w' ⟨rfl,rfl⟩);go_ret;exact⟨rfl,a⟩
theorem as_hit2 (c:Int)(t:Addr)(b:Va)(w:Wd)(i:l8 w)(a:w.cell? t=some b)(d:w.frozen? t=false):
 aW 196 #[.iface 196 (I c),.iface 232 (.pointer (some t))] w λf w'=>f=rt (.bool true)/\w'.cell? t=some (I c)/\Below t.block w w':=by
 refine(as_hit c t b w i a d).mono ?_;rintro e w' ⟨rfl,rfl⟩;have h:Below t.block w ((((w.alloc (.cells #[.pointer (some t)] 232)).alloc (.cells #[E 7 232,ea w 0,.int .u64 150] 289)).alloc (.cells #[E 7 232,ea w 0,.int .u64 150] 289)).alloc (.cells #[I c] 196)):=(aC (aC (aC (aC (br w.heap.size w) _) _) _) _).mono (nol (aA a));refine⟨rfl,?_,h.setCell (nlq _) _⟩;have g:((((w.alloc (.cells #[.pointer (some t)] 232)).alloc (.cells #[E 7 232,ea w 0,.int .u64 150] 289)).alloc (.cells #[E 7 232,ea w 0,.int .u64 150] 289)).alloc (.cells #[I c] 196)).cell? t=some b:=((aC (aC (aC (aC (br w.heap.size w) _) _) _) _).cell (aA a)).trans a;exact DW g
theorem BK (c:Int)(w:Wd)(i:l8 w):
 aW 155 #[.iface 196 (I c)] w λe w'=>e=rt (I c)/\aG w w':=by
 have d:aG w (w.alloc (.cells #[I 0] 196)):=aC (br _ _) _;have a:=i.zL d;have g:(w.alloc (.cells #[I 0] 196)).cell? (ya w 0)=some (I 0):=by simp
 have f:(w.alloc (.cells #[I 0] 196)).frozen? (ya w 0)=false:=by simp
 obtain⟨W0,b⟩:=cI (w.alloc (.cells #[I 0] 196));rw[b]at d a g f;go_enter func155,ntmps155;go_wp2_with fail;refine(as_hit2 c (ya w 0) (I 0) W0 a g f).mono ?_;rintro e w' ⟨rfl,hc,h⟩;have N:=d.trans h;clear b d a g f h;go_wp2;go_ret;exact⟨rfl,N⟩
