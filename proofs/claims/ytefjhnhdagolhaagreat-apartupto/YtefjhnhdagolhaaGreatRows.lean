/-
  No cell of these rows narrows 'for every input' (looked for: loops, veiled, ifaces, maps, wideKeys, modest, calm, conditions, laid).
  DERIVED. THE GIVEN ROWS OF THIS SEAT. 12 by the template 'for every input the law returns true; each argument reads behind the call as it read before'; 0 by the template 'total and deterministic' (their statements: YtefjhnhdagolhaaGreatTotals.lean).
  GIVEN WITH THE SEED: the statements are not yours to turn. If you find one false, say at which input.
  Laid BY PROGRAM, IN A SANDBOX (cutbox-rows.mjs): the forced cells as the released guide's own fill.sh prints them over the translation 42600cd322b3d96f… (all of the seat's roots in one cut). By AI agents, Wed Nov 11 2026. No macro, syntax, notation, axiom, sorry.
-/
import Derived.Test.YtefjhnhdagolhaaGreatChecked
import GoSem.Claim
import GoSem.ClaimJoined
import GoSem.ClaimMapViews
import Derived.JoinedTies
import Derived.KernelRfl
namespace Go.Proofs.YtefjhnhdagolhaaGreat
/- THE CELL 'sum', in the pinned program and in every row, IS THE sha256 OF THE DUMP (.gsa) THAT YtefjhnhdagolhaaGreatProg.lean LOADS. Nothing in Lean hashes anything: it is a label: what it is worth is what the hold of that sum in a sandbox is worth. -/
noncomputable def Tryz.pinned : Pinned := { name := "ytefjhnhdagolhaagreat", sum := "42600cd322b3d96f4bf45525809336e9caa78a33f5f1dc1393840bba420a9a62", checked := Tryz.checked }
namespace Rows
def none {H : Type} : Left H := { results := [], args := [] }

/-- 'announcelaw.News': WHATEVER THE INPUT: true; the input reads as it did. -/
def newsSpec : ChangeSpec := { name := "news", fn := fun _ => fun
  | [d] => { results := [.lit (.bool true)], args := [d] }
  | _ => none }
def newsRow : OpenClaim := { program := "ytefjhnhdagolhaagreat", sum := "42600cd322b3d96f4bf45525809336e9caa78a33f5f1dc1393840bba420a9a62", func := "announce/announcelaw.News", spec := "news", inPlace := ["sync/atomic.StorePointer"], unfollowed := true, recurses := true, apart := false }
def NewsSaid : Prop := newsRow.holds Tryz.pinned (OpenSpec.ofChange newsSpec)

/-- ITS FALSE NEIGHBOUR: 'it returns false'. Refute it at one input. -/
def newsWrong : ChangeSpec := { name := "news", fn := fun _ => fun
  | [d] => { results := [.lit (.bool false)], args := [d] }
  | _ => none }
def NewsWrongFalsely : Prop := newsRow.holds Tryz.pinned (OpenSpec.ofChange newsWrong)

/-- 'announcelaw.Counts': WHATEVER THE INPUT: true; the input reads as it did. -/
def countsSpec : ChangeSpec := { name := "counts", fn := fun _ => fun
  | [d1, d2] => { results := [.lit (.bool true)], args := [d1, d2] }
  | _ => none }
def countsRow : OpenClaim := { program := "ytefjhnhdagolhaagreat", sum := "42600cd322b3d96f4bf45525809336e9caa78a33f5f1dc1393840bba420a9a62", func := "announce/announcelaw.Counts", spec := "counts", inPlace := ["sync/atomic.StorePointer"], unfollowed := true, recurses := true, apart := false }
def CountsSaid : Prop := countsRow.holds Tryz.pinned (OpenSpec.ofChange countsSpec)

/-- ITS FALSE NEIGHBOUR: 'it returns false'. Refute it at one input. -/
def countsWrong : ChangeSpec := { name := "counts", fn := fun _ => fun
  | [d1, d2] => { results := [.lit (.bool false)], args := [d1, d2] }
  | _ => none }
def CountsWrongFalsely : Prop := countsRow.holds Tryz.pinned (OpenSpec.ofChange countsWrong)

/-- 'announcelaw.Lists': WHATEVER THE INPUT: true; the input reads as it did. -/
def listsSpec : ChangeSpec := { name := "lists", fn := fun _ => fun
  | [d1, d2] => { results := [.lit (.bool true)], args := [d1, d2] }
  | _ => none }
def listsRow : OpenClaim := { program := "ytefjhnhdagolhaagreat", sum := "42600cd322b3d96f4bf45525809336e9caa78a33f5f1dc1393840bba420a9a62", func := "announce/announcelaw.Lists", spec := "lists", inPlace := ["sync/atomic.StorePointer"], unfollowed := true, recurses := true, apart := false }
def ListsSaid : Prop := listsRow.holds Tryz.pinned (OpenSpec.ofChange listsSpec)

/-- ITS FALSE NEIGHBOUR: 'it returns false'. Refute it at one input. -/
def listsWrong : ChangeSpec := { name := "lists", fn := fun _ => fun
  | [d1, d2] => { results := [.lit (.bool false)], args := [d1, d2] }
  | _ => none }
def ListsWrongFalsely : Prop := listsRow.holds Tryz.pinned (OpenSpec.ofChange listsWrong)

/-- 'announcelaw.Maps': WHATEVER THE INPUT: true; the input reads as it did. -/
def mapsSpec : ChangeSpec := { name := "maps", fn := fun _ => fun
  | [d1, d2] => { results := [.lit (.bool true)], args := [d1, d2] }
  | _ => none }
def mapsRow : OpenClaim := { program := "ytefjhnhdagolhaagreat", sum := "42600cd322b3d96f4bf45525809336e9caa78a33f5f1dc1393840bba420a9a62", func := "announce/announcelaw.Maps", spec := "maps", inPlace := ["sync/atomic.StorePointer"], unfollowed := true, recurses := true, apart := false }
def MapsSaid : Prop := mapsRow.holds Tryz.pinned (OpenSpec.ofChange mapsSpec)

/-- ITS FALSE NEIGHBOUR: 'it returns false'. Refute it at one input. -/
def mapsWrong : ChangeSpec := { name := "maps", fn := fun _ => fun
  | [d1, d2] => { results := [.lit (.bool false)], args := [d1, d2] }
  | _ => none }
def MapsWrongFalsely : Prop := mapsRow.holds Tryz.pinned (OpenSpec.ofChange mapsWrong)

/-- 'announcelaw.Tables': WHATEVER THE INPUT: true; the input reads as it did. -/
def tablesSpec : ChangeSpec := { name := "tables", fn := fun _ => fun
  | [d1, d2] => { results := [.lit (.bool true)], args := [d1, d2] }
  | _ => none }
def tablesRow : OpenClaim := { program := "ytefjhnhdagolhaagreat", sum := "42600cd322b3d96f4bf45525809336e9caa78a33f5f1dc1393840bba420a9a62", func := "announce/announcelaw.Tables", spec := "tables", inPlace := ["sync/atomic.StorePointer"], unfollowed := true, recurses := true, apart := false }
def TablesSaid : Prop := tablesRow.holds Tryz.pinned (OpenSpec.ofChange tablesSpec)

/-- ITS FALSE NEIGHBOUR: 'it returns false'. Refute it at one input. -/
def tablesWrong : ChangeSpec := { name := "tables", fn := fun _ => fun
  | [d1, d2] => { results := [.lit (.bool false)], args := [d1, d2] }
  | _ => none }
def TablesWrongFalsely : Prop := tablesRow.holds Tryz.pinned (OpenSpec.ofChange tablesWrong)

/-- 'announcelaw.Apart': WHATEVER THE INPUT: true; the input reads as it did. -/
def apartSpec : ChangeSpec := { name := "apart", fn := fun _ => fun
  | [d1, d2, d3, d4] => { results := [.lit (.bool true)], args := [d1, d2, d3, d4] }
  | _ => none }
def apartRow : OpenClaim := { program := "ytefjhnhdagolhaagreat", sum := "42600cd322b3d96f4bf45525809336e9caa78a33f5f1dc1393840bba420a9a62", func := "announce/announcelaw.Apart", spec := "apart", inPlace := ["sync/atomic.StorePointer"], unfollowed := true, recurses := true, apart := false }
def ApartSaid : Prop := apartRow.holds Tryz.pinned (OpenSpec.ofChange apartSpec)

/-- ITS FALSE NEIGHBOUR: 'it returns false'. Refute it at one input. -/
def apartWrong : ChangeSpec := { name := "apart", fn := fun _ => fun
  | [d1, d2, d3, d4] => { results := [.lit (.bool false)], args := [d1, d2, d3, d4] }
  | _ => none }
def ApartWrongFalsely : Prop := apartRow.holds Tryz.pinned (OpenSpec.ofChange apartWrong)

/-- 'announcelaw.Plays': WHATEVER THE INPUT: true; the input reads as it did. -/
def playsSpec : ChangeSpec := { name := "plays", fn := fun _ => fun
  | [d1, d2, d3] => { results := [.lit (.bool true)], args := [d1, d2, d3] }
  | _ => none }
def playsRow : OpenClaim := { program := "ytefjhnhdagolhaagreat", sum := "42600cd322b3d96f4bf45525809336e9caa78a33f5f1dc1393840bba420a9a62", func := "announce/announcelaw.Plays", spec := "plays", inPlace := ["sync/atomic.StorePointer", "(*sync.WaitGroup).Go", "(*sync.WaitGroup).Add", "internal/race.ReleaseMerge", "internal/race.Disable", "internal/race.Enable", "internal/synctest.IsInBubble", "internal/synctest.Associate[sync.WaitGroup]", "sync.fatal", "sync/atomic.OrUint64", "sync/atomic.AddUint64", "internal/race.Read", "sync/atomic.LoadUint64", "sync/atomic.StoreUint64", "internal/synctest.Disassociate[sync.WaitGroup]", "sync.runtime_Semrelease", "(*sync.WaitGroup).Go$1", "(*sync.WaitGroup).Go$1$1", "(*sync.WaitGroup).Done", "(*sync.WaitGroup).Wait", "internal/race.Acquire", "internal/synctest.IsAssociated[sync.WaitGroup]", "sync/atomic.CompareAndSwapUint64", "internal/race.Write", "sync.runtime_SemacquireWaitGroup"], unfollowed := true, recurses := true, apart := false }
def PlaysSaid : Prop := playsRow.holds Tryz.pinned (OpenSpec.ofChange playsSpec)

/-- ITS FALSE NEIGHBOUR: 'it returns false'. Refute it at one input. -/
def playsWrong : ChangeSpec := { name := "plays", fn := fun _ => fun
  | [d1, d2, d3] => { results := [.lit (.bool false)], args := [d1, d2, d3] }
  | _ => none }
def PlaysWrongFalsely : Prop := playsRow.holds Tryz.pinned (OpenSpec.ofChange playsWrong)

/-- 'announcelaw.Races': WHATEVER THE INPUT: true; the input reads as it did. -/
def racesSpec : ChangeSpec := { name := "races", fn := fun _ => fun
  | [d] => { results := [.lit (.bool true)], args := [d] }
  | _ => none }
def racesRow : OpenClaim := { program := "ytefjhnhdagolhaagreat", sum := "42600cd322b3d96f4bf45525809336e9caa78a33f5f1dc1393840bba420a9a62", func := "announce/announcelaw.Races", spec := "races", inPlace := ["sync/atomic.StorePointer", "(*sync.WaitGroup).Go", "(*sync.WaitGroup).Add", "internal/race.ReleaseMerge", "internal/race.Disable", "internal/race.Enable", "internal/synctest.IsInBubble", "internal/synctest.Associate[sync.WaitGroup]", "sync.fatal", "sync/atomic.OrUint64", "sync/atomic.AddUint64", "internal/race.Read", "sync/atomic.LoadUint64", "sync/atomic.StoreUint64", "internal/synctest.Disassociate[sync.WaitGroup]", "sync.runtime_Semrelease", "(*sync.WaitGroup).Go$1", "(*sync.WaitGroup).Go$1$1", "(*sync.WaitGroup).Done", "(*sync.WaitGroup).Wait", "internal/race.Acquire", "internal/synctest.IsAssociated[sync.WaitGroup]", "sync/atomic.CompareAndSwapUint64", "internal/race.Write", "sync.runtime_SemacquireWaitGroup"], unfollowed := true, recurses := true, apart := false }
def RacesSaid : Prop := racesRow.holds Tryz.pinned (OpenSpec.ofChange racesSpec)

/-- ITS FALSE NEIGHBOUR: 'it returns false'. Refute it at one input. -/
def racesWrong : ChangeSpec := { name := "races", fn := fun _ => fun
  | [d] => { results := [.lit (.bool false)], args := [d] }
  | _ => none }
def RacesWrongFalsely : Prop := racesRow.holds Tryz.pinned (OpenSpec.ofChange racesWrong)

/-- 'announcelaw.Linear': WHATEVER THE INPUT: true; the input reads as it did. -/
def linearSpec : ChangeSpec := { name := "linear", fn := fun _ => fun
  | [d1, d2] => { results := [.lit (.bool true)], args := [d1, d2] }
  | _ => none }
def linearRow : OpenClaim := { program := "ytefjhnhdagolhaagreat", sum := "42600cd322b3d96f4bf45525809336e9caa78a33f5f1dc1393840bba420a9a62", func := "announce/announcelaw.Linear", spec := "linear", inPlace := ["sync/atomic.StorePointer"], unfollowed := true, recurses := true, apart := false }
def LinearSaid : Prop := linearRow.holds Tryz.pinned (OpenSpec.ofChange linearSpec)

/-- ITS FALSE NEIGHBOUR: 'it returns false'. Refute it at one input. -/
def linearWrong : ChangeSpec := { name := "linear", fn := fun _ => fun
  | [d1, d2] => { results := [.lit (.bool false)], args := [d1, d2] }
  | _ => none }
def LinearWrongFalsely : Prop := linearRow.holds Tryz.pinned (OpenSpec.ofChange linearWrong)

/-- 'announcelaw.Universal': WHATEVER THE INPUT: true; the input reads as it did. -/
def universalSpec : ChangeSpec := { name := "universal", fn := fun _ => fun
  | [d1, d2] => { results := [.lit (.bool true)], args := [d1, d2] }
  | _ => none }
def universalRow : OpenClaim := { program := "ytefjhnhdagolhaagreat", sum := "42600cd322b3d96f4bf45525809336e9caa78a33f5f1dc1393840bba420a9a62", func := "announce/announcelaw.Universal", spec := "universal", inPlace := ["sync/atomic.StorePointer"], unfollowed := true, recurses := true, apart := false }
def UniversalSaid : Prop := universalRow.holds Tryz.pinned (OpenSpec.ofChange universalSpec)

/-- ITS FALSE NEIGHBOUR: 'it returns false'. Refute it at one input. -/
def universalWrong : ChangeSpec := { name := "universal", fn := fun _ => fun
  | [d1, d2] => { results := [.lit (.bool false)], args := [d1, d2] }
  | _ => none }
def UniversalWrongFalsely : Prop := universalRow.holds Tryz.pinned (OpenSpec.ofChange universalWrong)

/-- 'announcelaw.Bounded': WHATEVER THE INPUT: true; the input reads as it did. -/
def boundedSpec : ChangeSpec := { name := "bounded", fn := fun _ => fun
  | [d1, d2] => { results := [.lit (.bool true)], args := [d1, d2] }
  | _ => none }
def boundedRow : OpenClaim := { program := "ytefjhnhdagolhaagreat", sum := "42600cd322b3d96f4bf45525809336e9caa78a33f5f1dc1393840bba420a9a62", func := "announce/announcelaw.Bounded", spec := "bounded", inPlace := ["sync/atomic.StorePointer"], unfollowed := true, recurses := true, apart := false }
def BoundedSaid : Prop := boundedRow.holds Tryz.pinned (OpenSpec.ofChange boundedSpec)

/-- ITS FALSE NEIGHBOUR: 'it returns false'. Refute it at one input. -/
def boundedWrong : ChangeSpec := { name := "bounded", fn := fun _ => fun
  | [d1, d2] => { results := [.lit (.bool false)], args := [d1, d2] }
  | _ => none }
def BoundedWrongFalsely : Prop := boundedRow.holds Tryz.pinned (OpenSpec.ofChange boundedWrong)

/-- 'announcelaw.Helped': WHATEVER THE INPUT: true; the input reads as it did. -/
def helpedSpec : ChangeSpec := { name := "helped", fn := fun _ => fun
  | [d1, d2] => { results := [.lit (.bool true)], args := [d1, d2] }
  | _ => none }
def helpedRow : OpenClaim := { program := "ytefjhnhdagolhaagreat", sum := "42600cd322b3d96f4bf45525809336e9caa78a33f5f1dc1393840bba420a9a62", func := "announce/announcelaw.Helped", spec := "helped", inPlace := ["sync/atomic.StorePointer"], unfollowed := true, recurses := true, apart := false }
def HelpedSaid : Prop := helpedRow.holds Tryz.pinned (OpenSpec.ofChange helpedSpec)

/-- ITS FALSE NEIGHBOUR: 'it returns false'. Refute it at one input. -/
def helpedWrong : ChangeSpec := { name := "helped", fn := fun _ => fun
  | [d1, d2] => { results := [.lit (.bool false)], args := [d1, d2] }
  | _ => none }
def HelpedWrongFalsely : Prop := helpedRow.holds Tryz.pinned (OpenSpec.ofChange helpedWrong)

/- THE SECOND FORM. 'bulk': how many values and letters a reading holds, each counted each time it is reached (what is shared counts as often as it is met; a slice's spare places count too). A statement '..UptoSaid' is the law's where the arguments, and the package variables that the reading takes, are together of bulk at most 1048576: NARROWER than '..Said'. Prove '..Said' where nothing that the law and all that it calls make is longer than what came in: it says more and counts as full. Else prove '..UptoSaid'. A law counts once. -/
mutual
def uptoBulk {H : Type} : DataW H → Nat
  | .lit (.string bytes) => bytes.length + 1
  | .lit _ => 1
  | .nil => 1
  | .ptr d => uptoBulk d + 1
  | .slice elems spare => uptoBulkAll elems + uptoBulkAll spare + 1
  | .agg parts => uptoBulkAll parts + 1
  | .iface _ d => uptoBulk d + 1
  | .map entries => uptoBulkEntries entries + 1
  | .held _ => 1
def uptoBulkAll {H : Type} : List (DataW H) → Nat
  | [] => 0
  | d :: r => uptoBulk d + uptoBulkAll r
def uptoBulkEntries {H : Type} : List (Lit × DataW H) → Nat
  | [] => 0
  | x :: r => uptoBulkEntry x + uptoBulkEntries r
def uptoBulkEntry {H : Type} : Lit × DataW H → Nat
  | (.string bytes, d) => bytes.length + uptoBulk d + 1
  | (_, d) => uptoBulk d + 1
 end
def uptoSmall : (H : Type) → List (DataW H) → Bool := fun _ ds => decide (uptoBulkAll ds ≤ 1048576)
def OpenSpec.upto (s : _root_.Go.ChangeSpec) : _root_.Go.OpenSpec := { _root_.Go.OpenSpec.ofChange s with cond := some uptoSmall }

/-- 'announcelaw.News', WHERE WHAT IT READS IS OF BULK AT MOST 1048576: true; the input reads as it did. -/
def newsUptoRow : OpenClaim := { program := "ytefjhnhdagolhaagreat", sum := "42600cd322b3d96f4bf45525809336e9caa78a33f5f1dc1393840bba420a9a62", func := "announce/announcelaw.News", spec := "news", inPlace := ["sync/atomic.StorePointer"], unfollowed := true, recurses := true, apart := false, narrowed := true }
def NewsUptoSaid : Prop := newsUptoRow.holds Tryz.pinned (OpenSpec.upto newsSpec)

/-- 'announcelaw.Counts', WHERE WHAT IT READS IS OF BULK AT MOST 1048576: true; the input reads as it did. -/
def countsUptoRow : OpenClaim := { program := "ytefjhnhdagolhaagreat", sum := "42600cd322b3d96f4bf45525809336e9caa78a33f5f1dc1393840bba420a9a62", func := "announce/announcelaw.Counts", spec := "counts", inPlace := ["sync/atomic.StorePointer"], unfollowed := true, recurses := true, apart := false, narrowed := true }
def CountsUptoSaid : Prop := countsUptoRow.holds Tryz.pinned (OpenSpec.upto countsSpec)

/-- 'announcelaw.Lists', WHERE WHAT IT READS IS OF BULK AT MOST 1048576: true; the input reads as it did. -/
def listsUptoRow : OpenClaim := { program := "ytefjhnhdagolhaagreat", sum := "42600cd322b3d96f4bf45525809336e9caa78a33f5f1dc1393840bba420a9a62", func := "announce/announcelaw.Lists", spec := "lists", inPlace := ["sync/atomic.StorePointer"], unfollowed := true, recurses := true, apart := false, narrowed := true }
def ListsUptoSaid : Prop := listsUptoRow.holds Tryz.pinned (OpenSpec.upto listsSpec)

/-- 'announcelaw.Maps', WHERE WHAT IT READS IS OF BULK AT MOST 1048576: true; the input reads as it did. -/
def mapsUptoRow : OpenClaim := { program := "ytefjhnhdagolhaagreat", sum := "42600cd322b3d96f4bf45525809336e9caa78a33f5f1dc1393840bba420a9a62", func := "announce/announcelaw.Maps", spec := "maps", inPlace := ["sync/atomic.StorePointer"], unfollowed := true, recurses := true, apart := false, narrowed := true }
def MapsUptoSaid : Prop := mapsUptoRow.holds Tryz.pinned (OpenSpec.upto mapsSpec)

/-- 'announcelaw.Tables', WHERE WHAT IT READS IS OF BULK AT MOST 1048576: true; the input reads as it did. -/
def tablesUptoRow : OpenClaim := { program := "ytefjhnhdagolhaagreat", sum := "42600cd322b3d96f4bf45525809336e9caa78a33f5f1dc1393840bba420a9a62", func := "announce/announcelaw.Tables", spec := "tables", inPlace := ["sync/atomic.StorePointer"], unfollowed := true, recurses := true, apart := false, narrowed := true }
def TablesUptoSaid : Prop := tablesUptoRow.holds Tryz.pinned (OpenSpec.upto tablesSpec)

/-- 'announcelaw.Apart', WHERE WHAT IT READS IS OF BULK AT MOST 1048576: true; the input reads as it did. -/
def apartUptoRow : OpenClaim := { program := "ytefjhnhdagolhaagreat", sum := "42600cd322b3d96f4bf45525809336e9caa78a33f5f1dc1393840bba420a9a62", func := "announce/announcelaw.Apart", spec := "apart", inPlace := ["sync/atomic.StorePointer"], unfollowed := true, recurses := true, apart := false, narrowed := true }
def ApartUptoSaid : Prop := apartUptoRow.holds Tryz.pinned (OpenSpec.upto apartSpec)

/-- 'announcelaw.Plays', WHERE WHAT IT READS IS OF BULK AT MOST 1048576: true; the input reads as it did. -/
def playsUptoRow : OpenClaim := { program := "ytefjhnhdagolhaagreat", sum := "42600cd322b3d96f4bf45525809336e9caa78a33f5f1dc1393840bba420a9a62", func := "announce/announcelaw.Plays", spec := "plays", inPlace := ["sync/atomic.StorePointer", "(*sync.WaitGroup).Go", "(*sync.WaitGroup).Add", "internal/race.ReleaseMerge", "internal/race.Disable", "internal/race.Enable", "internal/synctest.IsInBubble", "internal/synctest.Associate[sync.WaitGroup]", "sync.fatal", "sync/atomic.OrUint64", "sync/atomic.AddUint64", "internal/race.Read", "sync/atomic.LoadUint64", "sync/atomic.StoreUint64", "internal/synctest.Disassociate[sync.WaitGroup]", "sync.runtime_Semrelease", "(*sync.WaitGroup).Go$1", "(*sync.WaitGroup).Go$1$1", "(*sync.WaitGroup).Done", "(*sync.WaitGroup).Wait", "internal/race.Acquire", "internal/synctest.IsAssociated[sync.WaitGroup]", "sync/atomic.CompareAndSwapUint64", "internal/race.Write", "sync.runtime_SemacquireWaitGroup"], unfollowed := true, recurses := true, apart := false, narrowed := true }
def PlaysUptoSaid : Prop := playsUptoRow.holds Tryz.pinned (OpenSpec.upto playsSpec)

/-- 'announcelaw.Races', WHERE WHAT IT READS IS OF BULK AT MOST 1048576: true; the input reads as it did. -/
def racesUptoRow : OpenClaim := { program := "ytefjhnhdagolhaagreat", sum := "42600cd322b3d96f4bf45525809336e9caa78a33f5f1dc1393840bba420a9a62", func := "announce/announcelaw.Races", spec := "races", inPlace := ["sync/atomic.StorePointer", "(*sync.WaitGroup).Go", "(*sync.WaitGroup).Add", "internal/race.ReleaseMerge", "internal/race.Disable", "internal/race.Enable", "internal/synctest.IsInBubble", "internal/synctest.Associate[sync.WaitGroup]", "sync.fatal", "sync/atomic.OrUint64", "sync/atomic.AddUint64", "internal/race.Read", "sync/atomic.LoadUint64", "sync/atomic.StoreUint64", "internal/synctest.Disassociate[sync.WaitGroup]", "sync.runtime_Semrelease", "(*sync.WaitGroup).Go$1", "(*sync.WaitGroup).Go$1$1", "(*sync.WaitGroup).Done", "(*sync.WaitGroup).Wait", "internal/race.Acquire", "internal/synctest.IsAssociated[sync.WaitGroup]", "sync/atomic.CompareAndSwapUint64", "internal/race.Write", "sync.runtime_SemacquireWaitGroup"], unfollowed := true, recurses := true, apart := false, narrowed := true }
def RacesUptoSaid : Prop := racesUptoRow.holds Tryz.pinned (OpenSpec.upto racesSpec)

/-- 'announcelaw.Linear', WHERE WHAT IT READS IS OF BULK AT MOST 1048576: true; the input reads as it did. -/
def linearUptoRow : OpenClaim := { program := "ytefjhnhdagolhaagreat", sum := "42600cd322b3d96f4bf45525809336e9caa78a33f5f1dc1393840bba420a9a62", func := "announce/announcelaw.Linear", spec := "linear", inPlace := ["sync/atomic.StorePointer"], unfollowed := true, recurses := true, apart := false, narrowed := true }
def LinearUptoSaid : Prop := linearUptoRow.holds Tryz.pinned (OpenSpec.upto linearSpec)

/-- 'announcelaw.Universal', WHERE WHAT IT READS IS OF BULK AT MOST 1048576: true; the input reads as it did. -/
def universalUptoRow : OpenClaim := { program := "ytefjhnhdagolhaagreat", sum := "42600cd322b3d96f4bf45525809336e9caa78a33f5f1dc1393840bba420a9a62", func := "announce/announcelaw.Universal", spec := "universal", inPlace := ["sync/atomic.StorePointer"], unfollowed := true, recurses := true, apart := false, narrowed := true }
def UniversalUptoSaid : Prop := universalUptoRow.holds Tryz.pinned (OpenSpec.upto universalSpec)

/-- 'announcelaw.Bounded', WHERE WHAT IT READS IS OF BULK AT MOST 1048576: true; the input reads as it did. -/
def boundedUptoRow : OpenClaim := { program := "ytefjhnhdagolhaagreat", sum := "42600cd322b3d96f4bf45525809336e9caa78a33f5f1dc1393840bba420a9a62", func := "announce/announcelaw.Bounded", spec := "bounded", inPlace := ["sync/atomic.StorePointer"], unfollowed := true, recurses := true, apart := false, narrowed := true }
def BoundedUptoSaid : Prop := boundedUptoRow.holds Tryz.pinned (OpenSpec.upto boundedSpec)

/-- 'announcelaw.Helped', WHERE WHAT IT READS IS OF BULK AT MOST 1048576: true; the input reads as it did. -/
def helpedUptoRow : OpenClaim := { program := "ytefjhnhdagolhaagreat", sum := "42600cd322b3d96f4bf45525809336e9caa78a33f5f1dc1393840bba420a9a62", func := "announce/announcelaw.Helped", spec := "helped", inPlace := ["sync/atomic.StorePointer"], unfollowed := true, recurses := true, apart := false, narrowed := true }
def HelpedUptoSaid : Prop := helpedUptoRow.holds Tryz.pinned (OpenSpec.upto helpedSpec)

end Rows
end Go.Proofs.YtefjhnhdagolhaaGreat
